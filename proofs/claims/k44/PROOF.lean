import PyProof.Rows.All
import Wide.All
import OpenK.AllK
import PySem.Challenge.RW_stirround_k44_whole_fewest_lines
set_option genSizeOf false
set_option linter.all false
set_option compiler.extract_closed false
set_option bootstrap.genMatcherCode false
noncomputable section
def dP:=@PySem.wpAny_bind
def hJ:=@PySem.wpAny_pure
def hU:=@decide_eq_true
def i3:=@if_neg
def i5:=@if_pos
def iF:=@decide_eq_false
def iP:=@decide_eq_true_eq
def ib:=@congrArg
def kC:=@PySem.wpAny_setState_of
def ki:=@PySem.wpAny_mono
def lx:=@of_decide_eq_true
def mB:=@PySem.wpAny_holding
def mK:=@PySem.wpAny_call_entry
def nD:=@PySem.wpAny_of_eq
def oP:=@PySem.wpAny_askSetting
def oe:=@PySem.wpAny_truthy_bool
def p5:=@PySem.wpAny_setEntries_of
def pP:=@PySem.wpAny_newObj_type
def pQ:=@PySem.wpAny_callSpecial?_slot
def pV:=@beq_self_eq_true
def pe:=@PySem.isSubtype_type
def qI:=@PySem.wpAny_storeSet_of
def sH:=@PySem.wpAny_setEpoch_of
def si:=@PySem.fits_of_scanBound
def tO:=@PySem.wpAny_isInstance
def uB:=@or_false
def uO:=@PySem.codeAny_builtin
def uu:=@PySem.wpAny_setField
def v9:=@PySem.wpAny_Call_Name_kw
def vN:=@PySem.wpAny_passesOwn
def vW:=@PySem.sizeLine_eq
def vX:=@decide_eq_true_iff
def vb:=@PySem.wpAny_rule
def xK:=@PySem.lookup_relabel_local
def xj:=@PySem.wpAny_attempt
def xv:=@PySem.wpAny_pyIter_tuple
def xx:=@PySem.codeAny_mono
def yI:=@PySem.wpAny_pyIter_list
def yK:=@PySem.wpAny_pyIter_enum
def ya:=@PySem.builtinLookup_eq_fast
def zC:=@PySem.wpAny_newList
def zE:=@PySem.wpAny_updateSeq
def zj:=@PySem.wpAny_execs_nil
def ZA2:=@PySem.wpAny_load
def ZA3:=@beq_iff_eq
def ZA4:=@PySem.wpAny_fieldsOf
def ZA5:=@PySem.entryFor_alias
def ZA6:=@PySem.tupleKind_room_in1
def ZA7:=@PySem.wpAny_letOwnedTupleGo_enum
def ZAA:=@PySem.wpAny_field
def ZAC:=@PySem.plainId_quiet
def ZAH:=@PySem.wpAny_forIn_list
def ZB5:=@PySem.noFill_tuple_add
def ZB6:=@decide_eq_false_iff_not
def ZB8:=@PySem.typeLookup_type
def ZB9:=@PySem.wpAny_runValue
def ZBA:=@PySem.isSubtype_stop
def ZBE:=@if_false
def ZBF:=@if_true
def AA:=@List.length_map
def AK:=@List.getElem?_eq_getElem
def AO:=@List.getElem?_map
def AY:=@PySem.Heap.lt_size
def Aa:=@Nat.le_refl
def Aj:=@List.mem_cons_self
def Aq:=@List.not_mem_nil
def Ay:=@PySem.Heap.get?_push_of_some
def Az:=@Nat.ne_of_lt
def B2:=@List.mem_cons_of_mem
def B3:=@Option.some.inj
def BA:=@List.length_cons
def BB:=@List.mem_of_getElem?
def BM:=@Ne.symm
def BP:=@PySem.Heap.get?_push_size
def BX:=@List.length_append
def Bd:=@PySem.W.mg_of
def Bh:=@List.append_assoc
def Bk:=@List.mem_append_right
def Bn:=@List.size_toArray
def Bo:=@Nat.zero_le
def CG:=@Nat.lt_of_lt_of_le
def CM:=@List.getElem?_set_ne
def CQ:=@Nat.le_trans
def Ce:=@List.map_map
def Cq:=@Bool.and_eq_true
def Cr:=@List.getElem?_set_self
def D1:=@Bool.false_ne_true
def D2:=@List.length_range
def DA:=@List.mem_append_left
def DM:=@PySem.Heap.size_push
def DN:=@List.getD_eq_getElem?_getD
def DO:=@List.getElem?_append_left
def DP:=@List.mem_cons
def Df:=@Array.length_toList
def Dg:=@List.nodup_append
def E9:=@List.map_cons
def EA:=@Nat.ne_of_gt
def EB:=@PySem.PassesOwn.never
def EK:=@List.map_append
def EL:=@Nat.le_succ
def Eg:=@List.take_length
def Eh:=@PySem.W.mg_none_of
def FD:=@List.getElem?_append_right
def Fh:=@PySem.Heap.SameBut.update
def Fi:=@List.getElem_mem
def GA:=@Int.toNat_natCast
def GB:=@List.append_nil
def GC:=@List.length_take
def GD:=@Nat.lt_succ_of_lt
def HQ:=@Bool.eq_iff_iff
def HR:=@Bool.true_and
def HS:=@List.Perm.refl
def HU:=@List.all_eq_true
def HV:=@List.getElem?_eq_none
def HW:=@List.length_set
def HX:=@PySem.W.kia_one
def HY:=@PySem.mem_of_lookup
def IU:=@PySem.Heap.get?_update_self
def IV:=@List.lookup_cons
def IW:=@List.nodup_nil
def IX:=@Nat.le_of_lt
def IY:=@PySem.Obj.data_mapFields
def IZ:=@PySem.F.plainAttrs_list
def Ib:=@PySem.Value.isStrOf_shape
def Ja:=@Bool.and_false
def Jb:=@Classical.byContradiction
def Jc:=@Int.emod_lt_of_pos
def Jd:=@Int.emod_nonneg
def Je:=@List.mem_append
def Jf:=@List.take_succ_eq_append_getElem
def Jg:=@Nat.lt_of_le_of_lt
def Jh:=@Nat.succ.inj
def Kw:=@Array.getElem?_eq_getElem
def Kx:=@Array.getElem?_toList
def Ky:=@PySem.Heap.get?_update_other
def L0:=@List.any_eq_true
def L1:=@List.mem_singleton
def L3:=@Nat.le_of_not_lt
def L4:=@Option.map_some
def L5:=@PySem.F.slot_list_append
def L6:=@PySem.F.type_list_append
def MK:=@Array.size_map
def ML:=@PySem.Heap.SameBut.refl
def MM:=@List.any_cons
def MN:=@List.length_erase_of_mem
def MO:=@List.map_congr_left
def MP:=@Nat.lt_irrefl
def MQ:=@Nat.lt_succ_self
def OF:=@Array.getD_eq_getD_getElem?
def OG:=@List.ext_getElem?
def OH:=@List.find?_cons
def OI:=@List.set_set
def OJ:=@Nat.le_of_lt_succ
def OK:=@Nat.not_lt_of_le
def RQ:=@PySem.Around.under_plainId
def RS:=@Bool.false_and
def RT:=@List.all_cons
def RU:=@List.drop_eq_getElem_cons
def RV:=@List.ext_getElem
def RW:=@List.foldl_cons
def RX:=@List.getElem?_range
def RY:=@List.length_drop
def RZ:=@List.length_nil
def Ra:=@List.length_singleton
def Rb:=@List.map_nil
def Rc:=@List.mem_erase_of_ne
def Rf:=@List.mem_filter
def Rg:=@List.mem_range
def Rh:=@List.pairwise_map
def Ri:=@List.set_cons_succ
def Rj:=@Nat.le_of_eq
def Rk:=@Nat.sub_self
def Rm:=@Nat.zero_add
def Rn:=@PySem.Obj.isFreed_of_fields
def Wu:=@PySem.Around.in1_handled
def Wv:=@Array.getElem?_eq_none
def Ww:=@Array.getElem_zip
def Wy:=@Bool.and_true
def X0:=@Bool.false_or
def X1:=@Classical.choose_spec
def X2:=@PySem.F.slot_tuple_iterator_next
def X3:=@PySem.Heap.get?_update_ne
def X4:=@PySem.Heap.size_update
def X5:=@Int.eq_ofNat_of_zero_le
def X6:=@Int.natCast_nonneg
def X7:=@Int.toNat_of_nonneg
def X8:=@List.Pairwise.imp_of_mem
def X9:=@List.cons_append
def XA:=@List.cons_lt_cons_iff
def XB:=@List.filter_append
def XC:=@List.filter_cons_of_neg
def XD:=@List.filter_cons_of_pos
def XE:=@List.forIn_nil
def XF:=@List.length_filter_le
def XG:=@List.length_pos_of_mem
def XH:=@List.map_id
def XI:=@List.map_set
def XJ:=@List.of_mem_zip
def XM:=@List.take_append_drop
def XN:=@List.take_of_length_le
def XO:=@List.zip_cons_cons
def XQ:=@Nat.le_add_right
def XR:=@Nat.lt_trans
def XS:=@Nat.min_self
def XT:=@Nat.mod_lt
def XU:=@PySem.Obj.cls_mapFields
def XW:=@PyProof.Rows.callWith_type1
def XX:=@PySem.strKind_is
def gE:=@Array.Perm.refl
def gF:=@Array.toList_append
def gG:=@Bool.eq_false_iff
def gH:=@Bool.or_false
def gI:=@List.drop_length
def gJ:=@List.filterMap_cons
def gK:=@List.forIn_cons
def gL:=@List.getElem?_replicate
def gM:=@List.getElem?_take_of_lt
def gN:=@List.length_replicate
def gO:=@List.mem_of_mem_take
def gQ:=@List.nil_append
def gR:=@List.pairwise_singleton
def gS:=@List.set_cons_zero
def gT:=@List.take_add_one
def gU:=@PySem.MeetsSeq2.wpAny_forIn_array
def gW:=@Nat.le_succ_of_le
def gX:=@Nat.le_total
def gY:=@Nat.min_eq_left
def gZ:=@Nat.min_eq_right
def gb:=@Nat.succ_pos
def gc:=@Option.isSome_map
def gf:=@PySem.Paired.length
def gg:=@PyProof.Rows.F.plain_set_update_loop
def gh:=@PySem.F.args_tuple_add_2
def gi:=@PySem.F.entry_tuple_add
def gj:=@PySem.F.slot_tuple_add
def ZAI:=@Array.eq_empty_of_size_eq_zero
def ZAJ:=@Array.forIn_toList
def ZAK:=@Array.toList_extract
def ZAL:=@Array.toList_filterMap
def ZAM:=@Array.toList_map
def ZAN:=@Array.toList_push
def ZAO:=@PySem.Calls.Name_function_global
def ZAP:=@PySem.Calls.callWith_builtin
def ZAQ:=@PySem.Calls.call_function_entry
def ZAR:=@PySem.F.args_tuple_iterator_next_1
def ZAS:=@PySem.F.entry_tuple_iterator_next
def ZAT:=@Int.lt_of_le_of_lt
def ZAU:=@List.Pairwise.filter
def ZAV:=@List.Sublist.refl
def ZAW:=@List.filterMap_append
def ZAX:=@List.filterMap_cons_some
def ZAY:=@List.filter_sublist
def ZAZ:=@List.flatten_append
def ZAa:=@List.flatten_cons
def ZAb:=@List.getElem?_cons_succ
def ZAc:=@List.getElem?_toArray
def ZAd:=@List.getElem?_zipIdx
def ZAe:=@List.getElem_inj
def ZAf:=@List.getLast?_concat
def ZAg:=@List.length_eraseIdx_of_lt
def ZAh:=@List.length_zipIdx
def ZAi:=@List.mem_filterMap
def ZAj:=@List.nil_sublist
def ZAk:=@List.nodup_range
def ZAl:=@List.perm_middle
def ZAm:=@List.replicate_succ
def ZAn:=@List.set_append_right
def ZAo:=@List.sublist_append_left
def ZAp:=@List.take_sublist
def ZAq:=@Nat.eq_zero_or_pos
def ZAr:=@Nat.lt_or_eq_of_le
def ZAs:=@Option.getD_none
def ZAt:=@Option.getD_some
def ZAu:=@Option.isSome_some
def ZAv:=@Option.some.injEq
def ZAw:=@PyProof.Rows.F.entry_set_update_loop
def ZAx:=@PySem.F.plain_set_new
def ZAy:=@PySem.F.slot_list_insert
def ZAz:=@PySem.W.cellsFrom_some
def ZB0:=@PySem.W.codeHd_of_K
def ZB1:=@PySem.W.kitx_dict
def ZB2:=@PySem.W.kitx_list
def ZB3:=@PySem.SeqAt.RcNeAt.lists_lengths
open PySem PySem.Spec PyProof.Rows
abbrev ZBx:=PySem.W.Frag
abbrev ZBy:=(List (Addr×Obj))
abbrev ZBz:=(Str->Option Value)
namespace PySem.W.Fast
def t:=Nat
def tw5861903518176300856:=t
def tw15041531826379649357:=t
def tw6244608112586366237:=t
def tw1359644190908845552:=t
def tw8567827076524128244:=t
def tw15354598278502936202:=t
def tw8657843551330388493:=t
def tw17370715193198512546:=t
def tw9279245342553246084:=t
def tw17445901382317388064:=t
def tw6956698055739360301:=t
def tw9287967286751232188:=t
def tw5020759495754748326:=t
def tw13405833924810070497:=t
def tw13118220334072066039:=t
def tw18044050082452339427:=t
def tw14012210357337083756:=t
def tw10795743595427705630:=t
def tw4461834934588513654:=t
def tw7687496717929038597:=t
def tw10538507849929655322:=t
def tw18143245045802974117:=t
def tw18181037752725818600:=t
def tw13988850789340776164:=t
def tw11465026746406419049:=t
def tw18425214920009048562:=t
def tw6243275396637854498:=t
def tw10091475280925534203:=t
def tw2771494557896663233:=t
def tw219356888697375848:=t
def tw17688870849695486348:=t
def tw14522379899542629281:=t
def tw2888945273096467821:=t
def tw18258199775982873898:=t
def tw1375440076415514703:=t
def tw8724772822555510203:=t
def tw2236629100306355051:=t
def tw12108304031332125377:=t
def tw12170767450601922785:=t
def tw14296373231981724936:=t
def tw1499451308611698661:=t
def tw3268315431155792102:=t
def tw16688691050907773362:=t
def tw7995028011434399445:=t
def tw8789433201823185760:=t
def tw2671819360758542942:=t
def tw625659436456994785:=t
def tw13315050071087440821:=t
def tw3874246172205864037:=t
def tw5003299535224294773:=t
def tw8791170655115011917:=t
def tw12576857499413250800:=t
def tw4677664888095308710:=t
def tw2384313843174121757:=t
def tw8127343264527813398:=t
def tw15811157463674433997:=t
def tw13188903495965481508:=t
def tw6277224871850802307:=t
def tw711212700238457659:=t
def tw7852771594560661720:=t
def tw14748654278513819629:=t
def tw6519824287531252406:=t
def tw3622235110355126179:=t
def tw9975843847662557588:=t
def tw18386833631219931068:=t
def tw7435243124594503336:=t
def tw7795871794956043534:=t
def tw10205257780135468022:=t
def tw14017088057295907918:=t
def tw11423571204099041584:=t
def tw6996971840225246984:=t
def tw5580142708839227752:=t
def tw8437256234299903399:=t
def tw11305283171740102122:=t
def tw5038387435535860052:=t
def tw7037866422552234452:=t
def tw5969572988912356618:=t
def tw11107519164004437423:=t
def tw12856099720212312972:=t
def tw11724594165417779994:=t
def tw11966179085348811063:=t
def tw5275390851847552719:=t
def tw11089035532619862529:=t
def tw4661939131456131935:=t
def tw14925180619582991935:=t
def tw11486499395613443173:=t
def tw17423228100710015756:=t
def tw2775254597261282942:=t
def tw14413430077913482448:=t
def tw16141303093161401836:=t
def tw2147443314102597979:=t
def tw759749218047043940:=t
def tw14983513232046892219:=t
def tw7378729192468517609:=t
def tw533732311046144209:=t
def tw14972029012938739581:=t
def tw14625855540379629579:=t
def tw11001724127044362276:=t
def tw11883180179561075702:=t
def tw3748520088079303103:=t
def tw7026054255673415460:=t
def tw17615465596198914081:=t
def tw2055450362642372449:=t
def tw6943458124445136483:=t
def tw1198030435997918931:=t
def tw12379318815850802907:=t
def tw3044060796631733689:=t
def tw2979451859096065389:=t
def tw18349821630362843520:=t
def tw8929561818754401698:=t
def tw2451272117280706763:=t
def tw8953860769370357625:=t
def tw10425546222355545308:=t
def tw17783056333990165164:=t
def tw7833277868727195141:=t
def tw3469799702903127442:=t
def tw15126400118157323016:=t
def tw12808175119578176214:=t
def tw13191151911813918482:=t
def tw16996683291603184593:=t
def tw11536959843016237152:=t
def tw17417045300059377906:=t
def tw688687433191524100:=t
def tw16030417862934036238:=t
def tw8737118180365583361:=t
def tw7035078687822145395:=t
def tw7668909927408510644:=t
def tw7636071617450571707:=t
def tw12128589234017919048:=t
def tw6787789123924435804:=t
def tw9381699473545936929:=t
def tw3473726882588786157:=t
def tw15683171316875826801:=t
def tw7292072902560143552:=t
def tw12283304447233128836:=t
def tw12188354560642856735:=t
def tw6887323859083748127:=t
def tw13060908209383763246:=t
def tw9893009496132435247:=t
def tw2342317187383758567:=t
def tw7365600236180985589:=t
def tw1231589528314387753:=t
def tw2535413957814433755:=t
def tw13968079315411596639:=t
def tw11758254623773865807:=t
def tw7347349093994042478:=t
def tw4570822016887795918:=t
def tw16733751782486174800:=t
def tw14750680845160268288:=t
def tw2550267584066229960:=t
def tw3106085173508257007:=t
def tw14750021931076511633:=t
def tw16465904665085969037:=t
def tw14424363629943737722:=t
def tw12426921801664548885:=t
def tw6620963798500645386:=t
def tw885240674941175670:=t
def tw4475332806185084280:=t
def tw1976005890788461090:=t
def tw9320065836687162189:=t
def tw13204052319691100409:=t
def tw17436609812274485663:=t
def tw6746715517456230358:=t
def tw13142682584334150968:=t
def tw5955723338654725698:=t
def tw6952292258016007348:=t
def tw7151525364706643374:=t
def tw431524596682590717:=t
def tw148011824629598862:=t
def tw2733717405671618118:=t
end PySem.W.Fast
set_option Elab.async false
set_option maxRecDepth 100000
namespace L2
variable{α κ:Type}{C a b dx it:Addr}{c cd u:Value}{w:World}{ZB h':Heap}{name qual x:Str}{e tg:Expr}{Yr Zq:ZBy}{s s':Shared}{g':Array GenState}{i j n t' tk:Nat}{d':Drawn}{ch fp:List Addr}{N ks ps:List Str}{M:Model}{A:Around}{E Q:Value->Shared->Prop}{es rest:List Expr}{ZB4 pos:Pos}{op:CmpOp}{f:Value->Value->Sem Value}{ds us:List Value}{mA mg:ZBz}{fd:FuncData}{outer:List Env}{sc scope:Scope}
abbrev Key:=Sum Int Str
noncomputable def MJ:Key->Value->Bool
 | .inl k,v=>Value.isInt k v
 | .inr x,v=>Value.isStrOf x v
noncomputable def ir(w:World):Key->Int
 | .inl k=>hashInt k
 | .inr x=>hashStr w x
theorem Ho:∀{k:Key}{v:Value},MJ k v=true->(∃i t,k=Sum.inl i/\v=Value.int i t)∨(∃x t,k=Sum.inr x/\v=Value.str x t)
 | .inl i,v,h=>by
  obtain⟨t,e⟩:=Value.isInt_shape (k:=i) (v:=v) h;exact .inl ⟨i,t,rfl,e⟩
 | .inr x,v,h=>by
  obtain⟨t,e⟩:=Ib (x:=x) (v:=v) h;exact .inr ⟨x,t,rfl,e⟩
theorem xk(i:Int)(t:Tok):MJ (.inl i) (.int i t)=true:=by simp[MJ,Value.isInt]
theorem pW(x:Str)(t:Tok):MJ (.inr x) (.str x t)=true:=by simp[MJ,Value.isStrOf]
theorem u5(a b:Int):decide ((Sum.inl a:Key)=Sum.inl b)=(a == b):=by
 by_cases e:a=b
 .subst e;simp
 .have h:¬ (Sum.inl a:Key)=Sum.inl b:=λq=>e (Sum.inl.inj q);rw[iF h];exact(beq_eq_false_iff_ne.mpr e).symm
theorem jh(a b:Str):decide ((Sum.inr a:Key)=Sum.inr b)=decide (a=b):=by
 by_cases e:a=b
 .subst e;simp
 .have h:¬ (Sum.inr a:Key)=Sum.inr b:=λq=>e (Sum.inr.inj q);rw[iF h,iF e]
theorem uZ(a:Int)(b:Str):decide ((Sum.inl a:Key)=Sum.inr b)=false:=iF (λq=>nomatch q)
theorem uK(a:Str)(b:Int):decide ((Sum.inr a:Key)=Sum.inl b)=false:=iF (λq=>nomatch q)
def FT(prog:Program)(w:World):PySem.KeyKind prog w Key where
 is:=MJ
 hash:=ir w
 inj:=λv a b g d=>by
  rcases Ho g with⟨i,t,rfl,rfl⟩|⟨x,t,rfl,rfl⟩
  .rcases Ho d with⟨j,u,rfl,e⟩|⟨y,u,rfl,e⟩
   .injection e with e1 _;rw[e1]
   .exact nomatch e
  .rcases Ho d with⟨j,u,rfl,e⟩|⟨y,u,rfl,e⟩
   .exact nomatch e
   .injection e with e1 _;rw[e1]
 byValue:=λk v h=>by
  rcases Ho h with⟨i,t,rfl,rfl⟩|⟨x,t,rfl,rfl⟩ <;> rfl
 pyHash:=λc h=>by
  rcases Ho c with⟨i,t,rfl,rfl⟩|⟨x,t,rfl,rfl⟩
  .exact wpAny_pyHash_int h
  .exact wpAny_pyHash_str h
 eqBool:=λf c h=>by
  rcases Ho f with⟨i,t,rfl,rfl⟩|⟨x,t,rfl,rfl⟩
  .rcases Ho c with⟨j,u,rfl,rfl⟩|⟨y,u,rfl,rfl⟩
   .rw[u5]at h;exact wpAny_eqBool_int h
   .rw[uZ]at h;exact SeqAt.EqAt.int_str i t y u _ _ _ _ h
  .rcases Ho c with⟨j,u,rfl,rfl⟩|⟨y,u,rfl,rfl⟩
   .rw[uK]at h;exact SeqAt.EqAt.str_int x t j u _ _ _ _ h
   .rw[jh]at h;exact wpAny_eqBool_str h
 «strs»:=λk x t v h=>by
  rcases Ho h with⟨i,u,rfl,e⟩|⟨y,u,rfl,e⟩
  .exact nomatch e
  .injection e with e1 _
   subst e1;cases v <;> rfl
theorem mR(prog:Program)(w:World)(i:Int)(t:Tok):(FT prog w).is (.inl i) (.int i t)=true:=xk i t
theorem pL(prog:Program)(w:World)(x:Str)(t:Tok):(FT prog w).is (.inr x) (.str x t)=true:=pW x t
inductive V where
 |A6|bl (b:Bool)|int (i:Int)|str (x:Str)|GK (b:Array UInt8)|Lk (b:UInt64)|ref (a:Addr)|ty (n:String)
 deriving DecidableEq
variable{v:V}{JQ vs:List V}
def RelV:V->Value->Prop
 | .A6,u=>u=Value.none
 | .bl b,u=>u=Value.bool b
 | .int i,u=>∃t,u=Value.int i t
 | .str x,u=>∃t,u=Value.str x t
 | .GK b,u=>∃t,u=Value.bytes b t
 | .Lk b,u=>∃t,u=Value.float b t
 | .ref a,u=>u=Value.ref a
 | .ty n,u=>u=Value.type n
abbrev Vals:List V->List Value->Prop:=Paired RelV
theorem Vals.length{xs:List V}{us:List Value}(r:Vals xs us):xs.length=us.length:=gf r
theorem Vals.get:∀{xs:List V}{us:List Value}{i:Nat}{x:V},Vals xs us->xs[i]?=some x->∃u,us[i]?=some u/\RelV x u
 |_,_,_,_,.nil,e=>by simp at e
 |_,_,0,_,.cons r _,e=>by simp at e;subst e;exact⟨_,rfl,r⟩
 |_,_,i+1,x,.cons _ t,e=>by
  obtain⟨u,h1,h2⟩:=Vals.get (i:=i) (x:=x) t (by simpa using e)
  exact⟨u,by simpa using h1,h2⟩
theorem Vals.set{x:V}{u:Value}(r:RelV x u):∀{xs:List V}{us:List Value}(i:Nat),Vals xs us->Vals (xs.set i x) (us.set i u)
 |_,_,_,.nil=>.nil
 |_,_,0,.cons _ t=>.cons r t
 |_,_,i+1,.cons q t=>.cons q (Vals.set r i t)
theorem Vals.append:∀{xs ys:List V}{us ws:List Value},Vals xs us->Vals ys ws->Vals (xs++ys) (us++ws)
 |_,_,_,_,.nil,s=>s
 |_,_,_,_,.cons r t,s=>.cons r (Vals.append t s)
theorem Vals.take:∀{xs:List V}{us:List Value}(n:Nat),Vals xs us->Vals (xs.take n) (us.take n)
 |_,_,0,_=>.nil
 |_,_,_+1,.nil=>.nil
 |_,_,n+1,.cons r t=>.cons r (Vals.take n t)
theorem Vals.drop:∀{xs:List V}{us:List Value}(n:Nat),Vals xs us->Vals (xs.drop n) (us.drop n)
 |_,_,0,r=>r
 |_,_,_+1,.nil=>.nil
 |_,_,n+1,.cons _ t=>Vals.drop n t
def GR:Option V->Option Value->Prop
 |some v,some u=>RelV v u
 |none,none=>True
 |_,_=>False
def KV:List (κ×V)->List (κ×Value)->Prop:=Paired λ(p:κ×V)(q:κ×Value)=>p.1=q.1/\RelV p.2 q.2
noncomputable def kV:Key->V
 | .inl i=>.int i
 | .inr x=>.str x
inductive Tb where
 |tab (pos:Pos) (q:Str)
 |IP (q:Str)
inductive HO where
 /-- a list -/
 |lst (xs:List V)
 /-- a tuple (never changes) -/
 |tup (xs:List V)
 /-- a dict yW keys are ints and texts;one yW keys are tuples of ints and texts (Iz empty one is both) -/
 |dK (A9:List (Key×V))|dT (A9:List (List Key×V))
 /-- a set of ints: A0 members,A0 size -/
 |set (S:Int->Bool) (n:Nat)
 /-- an instance of Iz class at C,A0 dict at dx,A0 attributes -/
 |ins (C dx:Addr) (fs:List (Str×V))
 /-- Iz dict of Iz instance at x -/
 |own (x:Addr)
 /-- Iz dict of an exception -/
 |xd (fs:List (Str×V))
 /-- a bound method,f of x -/
 |met (f x:Addr)
 /-- a range object lo,lo+1,.. below hi -/
 |Ry (lo hi:Int)
 /-- a tW ZBc is known to Iz object (Iz ZBs;a dict while a loop walks it): read,never written while it is so -/
 |En (o:Obj) (u:HO)
 /-- a code ZBj table,a code in it -/
 |C2 (t:Tb)
 /-- any other tW,by yQ is true of A0 one object (a def of ZBD own: vy a S n:=HO.ext λh=>..) -/
 |ext (φ:Heap->Prop)
variable{o o':HO}
abbrev Hp:=Addr->Option HO
variable{H H':Hp}
inductive LW where
 |tup (xs:List V)
 |C2 (t:Tb)
noncomputable def LW.ho:LW->HO
 | .tup xs=>.tup xs
 | .C2 t=>.C2 t
noncomputable def upd(H:Hp)(a:Addr)(o:HO):Hp:=λb=>if b=a then some o else H b
theorem AX:upd H a o a=some o:=by unfold upd;rw[i5 rfl]
theorem AS(h:b≠a):upd H a o b=H b:=by unfold upd;rw[i3 h]
theorem x9{u:HO}(h:H a=some o)(h':H b=some u)(d:o≠u):a≠b:=by
 intro e;subst e;rw[h]at h';exact d (B3 h')
theorem DV(h:H a=some o)(h':H b=none):a≠b:=by
 intro e;subst e;rw[h]at h';cases h'
section
variable(P:Program)(w:World)
def Bl(H:Hp)(h:Heap)(a:Addr):HO->Prop
 | .lst xs=>xs.length<=sizeLine/\∃(A0:List Value)(n:Nat),Vals xs A0/\h.get? a=some { cls:=.type "list", data:=.seq A0.toArray n }
 | .tup xs=>xs.length<=sizeLine/\∃A0:List Value,Vals xs A0/\(IsTup h a A0.toArray/\∀d,h.get? a=some d->d.dict=none)
 | .dK A9=>A9.length<=sizeLine/\(a == sysModules)=false/\∃vs,KV A9 vs/\h.DictOf (FT P w) a vs
 | .dT A9=>A9.length<=sizeLine/\(a == sysModules)=false/\∃xs:List (List Key×Addr×Value),
   Paired (λ(p:List Key×V)(q:List Key×Addr×Value)=>p.1=q.1/\H q.2.1=some (.tup (p.1.map kV))/\RelV p.2 q.2.2) A9 xs/\
   ∃o es ep,h.get? a=some o/\o.ExactDict/\o.data=.dict es ep/\es.toList=xs.map (entryOfKey (tupleKind (FT P w)))/\(xs.map (·.1)).Nodup
 | .set S n=>h.SetOf (intKind P w) a S n
 | .ins C dx fs=>H dx=some (.own a)/\fs.length<=1000/\dx≠a/\h.get? a=some (PySem.W.instObj C dx)/\
   ∃mA,h.Ns1 dx mA/\(∀f,GR (fs.lookup f) (mA f))/\PySem.Within mA (fs.map (·.1))
 | .own _=>∃o,h.get? a=some o
 | .xd fs=>∃mA,h.Ns1 a mA/\∀f,GR (fs.lookup f) (mA f)
 | .Ry lo hi=>∃t u v,h.get? a=some { cls:=.type "range", data:=.fields #[.int lo t,.int hi u,.int 1 v] }
 | .En o u=>h.get? a=some o/\Bl H h a u
 | .C2 (.tab pos q)=>∃ps:Array Value,h.get? a=some { cls:=.none,data:=.fields ps }/\TriplesOk ps.toList/\∀e,codeAmong pos ps.toList=some e->∃c,e=.ref c/\H c=some (.C2 (.IP q))
 | .C2 (.IP q)=>∃b vs t,h.get? a=some b/\b.data=.fields vs/\vs[1]?=some (.str q t)
 | .met f x=>h.get? a=some (PySem.W.methodObj (.ref f) (.ref x))
 | .ext φ=>φ h/\(∃o,h.get? a=some o)/\∀h1 h2:Heap,φ h1->(∀o,h1.get? a=some o->h2.get? a=some o)->φ h2
def Bx(H:Hp)(h:Heap):Prop:=∀a o,H a=some o->Bl P w H h a o
end
section
variable{P:Program}{h:Heap}
theorem Bl.lt(x:Bl P w H h a o):a<h.objs.size:=by
 cases o with
 |lst xs=>obtain⟨_,_,_,_,e⟩:=x;exact AY e
 |tup xs=>obtain⟨_,_,_,p⟩:=x;exact p.1.lt
 |dK A9=>obtain⟨_,_,_,_,o,_,_,e,_⟩:=x;exact AY e
 |dT A9=>obtain⟨_,_,_,_,o,_,_,e,_⟩:=x;exact AY e
 |set S n=>obtain⟨o,_,_,_,e,_⟩:=x;exact AY e
 |ins C dx fs=>obtain⟨_,_,_,e,_⟩:=x;exact AY e
 |own y=>obtain⟨_,e⟩:=x;exact AY e
 |xd fs=>obtain⟨_,⟨_,_,_,e,_⟩,_⟩:=x;exact AY e
 |Ry lo hi=>obtain⟨_,_,_,e⟩:=x;exact AY e
 |En b u=>obtain⟨e,_⟩:=x;exact AY e
 |C2 t=>
  cases t with
  |tab pos q=>obtain⟨_,e,_⟩:=x;exact AY e
  |IP q=>obtain⟨_,_,_,e,_⟩:=x;exact AY e
 |met f y=>exact AY (show h.get? a=some _ from x)
 |ext φ=>obtain⟨_,⟨_,e⟩,_⟩:=x;exact AY e
theorem Paired.Sw{α β:Type}{F G:α->β->Prop}:∀{l₁:List α}{l₂:List β},Paired F l₁ l₂->(∀a b,F a b->G a b)->Paired G l₁ l₂
 |_,_,.nil,_=>.nil
 |_,_,.cons r t,f=>.cons (f _ _ r) (Paired.Sw t f)
theorem Bl.Fo(x:Bl P w H h a o)(k:∀b u,(b=a∨H b=some (.own a))->h.get? b=some u->h'.get? b=some u)
  (ho:∀b,H b=some (.own a)->H' b=some (.own a)) (j:∀b(x:LW),H b=some x.ho->H' b=some x.ho):Bl P w H' h' a o:=by
 induction o with
 |lst xs=>obtain⟨z,A0,n,r,e⟩:=x;exact⟨z,A0,n,r,k _ _ (.inl rfl) e⟩
 |tup xs=>obtain⟨z,A0,r,⟨g,e,c⟩,D⟩:=x;exact⟨z,A0,r,⟨g,k _ _ (.inl rfl) e,c⟩,λUE l=>by rw[k _ _ (.inl rfl) e]at l;cases l;exact D _ e⟩
 |dK A9=>obtain⟨z,y,vs,r,g,es,ep,e,c⟩:=x;exact⟨z,y,vs,r,g,es,ep,k _ _ (.inl rfl) e,c⟩
 |dT A9=>
  obtain⟨z,y,xs,r,g,es,ep,e,c⟩:=x;exact⟨z,y,xs,Paired.Sw r λp q z=>⟨z.1,j _ (.tup _) z.2.1,z.2.2⟩,g,es,ep,k _ _ (.inl rfl) e,c⟩
 |set S n=>obtain⟨g,es,ep,t,e,c⟩:=x;exact⟨g,es,ep,t,k _ _ (.inl rfl) e,c⟩
 |ins C dx fs=>
  obtain⟨d,z,ne,e,mA,⟨i,es,ep,B,c⟩,r⟩:=x;exact⟨ho _ d,z,ne,k _ _ (.inl rfl) e,mA,⟨i,es,ep,k _ _ (.inr d) B,c⟩,r⟩
 |own y=>obtain⟨g,e⟩:=x;exact⟨g,k _ _ (.inl rfl) e⟩
 |xd fs=>obtain⟨mA,⟨i,es,ep,e,c⟩,r⟩:=x;exact⟨mA,⟨i,es,ep,k _ _ (.inl rfl) e,c⟩,r⟩
 |Ry lo hi=>obtain⟨t,u,v,e⟩:=x;exact⟨t,u,v,k _ _ (.inl rfl) e⟩
 |En g u s=>obtain⟨e,q⟩:=x;exact⟨k _ _ (.inl rfl) e,s q⟩
 |C2 t=>
  cases t with
  |tab pos q=>obtain⟨ps,e,ok,c⟩:=x;exact⟨ps,k a _ (.inl rfl) e,ok,λE z=>by obtain⟨b,y,A⟩:=c E z;exact⟨b,y,j b (.C2 _) A⟩⟩
  |IP q=>obtain⟨m,vs,t,e,c⟩:=x;exact⟨m,vs,t,k a _ (.inl rfl) e,c⟩
 |met f y=>
  have e:h.get? a=some (PySem.W.methodObj (.ref f) (.ref y)):=x;show h'.get? a=some (PySem.W.methodObj (.ref f) (.ref y));exact k a _ (.inl rfl) e
 |ext φ=>obtain⟨p,⟨o,e⟩,st⟩:=x;exact⟨st _ _ p λo q=>k _ _ (.inl rfl) q,⟨o,k _ _ (.inl rfl) e⟩,st⟩
theorem Bx.lt(x:Bx P w H h)(e:H a=some o):a<h.objs.size:=(x a o e).lt
theorem Bx.fresh(x:Bx P w H h)(e:h.objs.size<=a):H a=none:=by
 cases q:H a with
 |none=>rfl
 |some u=>exact absurd (CG (x.lt q) e) (MP _)
theorem Bx.kept(x:Bx P w H h)(k:∀b u,h.get? b=some u->h'.get? b=some u):Bx P w H h':=λa o e=>
 (x a o e).Fo (λb u _ q=>k b u q) (λ_ q=>q) λ_ _ q=>q
theorem Bx.laid(x:Bx P w H h)(k:∀b u,h.get? b=some u->h'.get? b=some u)(g:h.objs.size<=a)(new:Bl P w (upd H a o) h' a o):Bx P w (upd H a o) h':=λb u e=>by
 have d:=x.fresh g
 by_cases f:b=a
 .subst f;rw[AX]at e;cases e;exact new
 .rw[AS f]at e;exact(x b u e).Fo (λc v _ q=>k c v q) (λc q=>by rw[AS (DV q d)];exact q) λc xs q=>by rw[AS (DV q d)];exact q
end
def Rd(H:Hp)(a:Addr)(u:HO):Prop:=H a=some u∨∃o,H a=some (.En o u)
theorem Rd.ok{P:Program}{h:Heap}{u:HO}(r:Rd H a u)(x:Bx P w H h):Bl P w H h a u:=by
 rcases r with r|⟨o,r⟩
 .exact x a u r
 .obtain⟨_,q⟩:=x a _ r;exact q
def Mr:Option HO->Prop
 |some (.lst _)=>True
 |some (.dK _)=>True
 |some (.dT _)=>True
 |some (.set _ _)=>True
 |some (.ins _ _ _)=>True
 |some (.ext _)=>True
 |_=>False
section
variable{P:Program}{h:Heap}{x e:Addr}
theorem Bx.write(ok:Bx P w H h)(mu:Mr (H x))(i:e=x∨H e=some (.own x))(k:∀b u,b≠e->h.get? b=some u->h'.get? b=some u)(HA:∃u,h'.get? e=some u)
  (new:Bl P w (upd H x o') h' x o'):Bx P w (upd H x o') h':=λb u q=>by
 have j:∀c y,H c=some (.own y)->c≠x:=λc y r z=>by subst z;rw[r]at mu;exact mu
 have l:∀c(xs:LW),H c=some xs.ho->c≠x:=λc xs r z=>by subst z;rw[r]at mu;cases xs <;> exact mu
 by_cases d:b=x
 .subst d;rw[AX]at q;cases q;exact new
 .rw[AS d]at q
  by_cases f:b=e
  .have g:H b=some (.own x):=by
    rcases i with z|z
    .exact absurd (f.trans z) d
    .rw[f];exact z
   rw[q]at g;cases g;obtain⟨v,m⟩:=HA;exact⟨v,by rw[f];exact m⟩
  .refine(ok b u q).Fo (λc v a r=>k c v ?_ r) (λc r=>by rw[AS (j c b r)];exact r) λc xs r=>by rw[AS (l c xs r)];exact r
   rcases a with rfl|a
   .exact f
   .rintro rfl;rcases i with z|z
    .exact j c b a z
    .rw[a]at z;cases z;exact d rfl
end
structure Un (fs ex:List Addr) (H H':Hp) (h h':Heap):Prop where
 keep:∀b o,h.get? b=some o->H b=none->b∉fs->b∉ex->h'.get? b=some o
 slot:∀b o,h.get? b=some o->H b=none->b∈fs->b∉ex->∃sl,h'.get? b=some { o with slots:=sl }
 free:∀b o,h.get? b=some o->H b=none->b∉ex->H' b=none
 there:∀b o,h.get? b=some o->b∉ex->∃o',h'.get? b=some o'
 Hu:∀b(x:LW),H b=some x.ho->H' b=some x.ho
 IG:∀b o u,H b=some (.En o u)->H' b=some (.En o u)
section
variable{fs j5 ex ex':List Addr}{H1 H2:Hp}{h h1 h2:Heap}{x e:Addr}
theorem Un.any(u:Un fs ex H H1 h h1){a:Obj}(q:h.get? b=some a)(n:H b=none)(hx:b∉ex):∃sl,h1.get? b=some { a with slots:=sl }:=by
 by_cases c:b∈fs
 .exact u.slot b a q n c hx
 .exact⟨a.slots,u.keep b a q n c hx⟩
theorem Un.kept(k:∀b u,h.get? b=some u->h'.get? b=some u):Un fs ex H H h h':=
 ⟨λb a q _ _ _=>k b a q,λb a q _ _ _=>⟨a.slots,k b a q⟩,λ_ _ _ n _=>n,λb a q _=>⟨a,k b a q⟩,λ_ _ q=>q,λ_ _ _ q=>q⟩
theorem Un.refl:Un fs ex H H h h:=Un.kept λ_ _ q=>q
theorem Un.laid(k:∀b u,h.get? b=some u->h'.get? b=some u)(d:h.objs.size<=a)(c:H a=none):Un fs ex H (upd H a o) h h' where
 keep:=λb u q _ _ _=>k b u q
 slot:=λb u q _ _ _=>⟨u.slots,k b u q⟩
 free:=λb u q n _=>by rw[AS (Az (CG (AY q) d))];exact n
 there:=λb u q _=>⟨u,k b u q⟩
 Hu:=λb xs q=>by rw[AS (DV q c)];exact q
 IG:=λb u xs q=>by rw[AS (DV q c)];exact q
theorem Un.write(mu:Mr (H x))(f:e=x∨H e=some (.own x))(k:∀b u,b≠e->h.get? b=some u->h'.get? b=some u)(HA:∃u,h'.get? e=some u):Un fs ex H (upd H x o) h h':=by
 have hx:∀b,H b=none->b≠x:=λb n z=>by subst z;rw[n]at mu;exact mu
 have c:∀b,H b=none->b≠e:=λb n z=>by
  subst z;rcases f with r|r
  .exact hx b n r
  .rw[n]at r;cases r
 have a:∀b u,H b=some u->¬ Mr (some u)->b≠x:=λb u q nm z=>by subst z;rw[q]at mu;exact nm mu
 refine⟨λb u q n _ _=>k b u (c b n) q,λb u q n _ _=>⟨u.slots,k b u (c b n) q⟩,λb u q n _=>by rw[AS (hx b n)];exact n,λb u q _=>?_,
  λb xs q=>by rw[AS (a b _ q λz=>by cases xs <;> exact z)];exact q,λb u xs q=>by rw[AS (a b _ q λz=>z)];exact q⟩
 by_cases d:b=e
 .subst d;exact HA
 .exact⟨u,k b u d q⟩
end
def Pb(h:Heap)(H:Hp):List Addr:=(List.range h.objs.size).filter λa=>(H a).isSome
def Gz(h:Heap)(H:Hp):Heap:=PySem.W.hideAll h (Pb h H)
theorem yw(h:Heap)(H:Hp):(Gz h H).objs.size=h.objs.size:=PySem.W.hideAll_size _ _
theorem iZ{h:Heap}{o:Obj}(e:h.get? b=some o)(n:H b=none):(Gz h H).get? b=some o:=
 PySem.W.hideAll_get _ e λa=>by
  have q:(H b).isSome=true:=(List.mem_filter.mp a).2;rw[n]at q;simp at q
theorem mV{h:Heap}{o:Obj}(e:(Gz h H).get? b=some o):h.get? b=some o/\H b=none:=by
 have a:h.get? b=some o:=PySem.W.of_hideAll (Pb h H) e;refine⟨a,?_⟩;cases q:H b with
 |none=>rfl
 |some x=>
  have c:b∈Pb h H:=List.mem_filter.mpr ⟨List.mem_range.mpr (AY a),by simp[q]⟩;have z:(Gz h H).get? b=none:=PySem.W.hideAll_none (Pb h H) c;rw[z]at e;cases e
structure Mod (K:ZBx) (mg:ZBz) (ZB:Heap):Prop where
 II:K.In ZB
 glob:ZB.Ns mainGlobals mg
 blt:∃mb,ZB.Ns builtinsNs mb/\∀x:Str,x ≠"__name__" -> mb x=bootBuiltins x
 nolimit:ZB.NoLimit
structure Cx where
 prog:Program
 w:World
 K:ZBx
 mg:ZBz
 base:Heap
 A:Around
 N:List Str
 s₀:Shared
 H₀:Hp
 env:Env
 outer:List Env
 stack:List Env
 ex:List Addr
 fn:Str->Bool
 calm:Bool
 pn:ZBy
 xe:Value->Shared->Prop
variable{X:Cx}
noncomputable def GL(l:List Env):List Addr:=l.filterMap (·.frame)
abbrev Cx.fs(X:Cx):List Addr:=GL X.outer
abbrev El(X:Cx)(e:Expr)(es:List Expr):Prop:=starEach (e::es) X.env=(false,eval e X.env)::starEach es X.env
abbrev BEq(X:Cx)(pos:Pos)(es:List Expr):Prop:=(backTo pos (starEach es X.env)).any (·.1)=false
def Uy(sc:Scope)(x:Str):Prop:=sc.names.lookup x=some .local∨sc.names.lookup x=some .cell∨sc.names.lookup x=some .free
def Loc(sc:Scope)(x:Str):Prop:=sc.names.lookup x=some .local∨sc.names.lookup x=some .cell
def Look(env:Env)(h:Heap)(m:ZBz)(x:Str)(u:Value):Prop:=
 (env.kindOf x=some .local/\m x=some u)∨((env.kindOf x=some .cell∨env.kindOf x=some .free)/\∃c,env.cells.lookup x=some c/\h.IsCell c (some u))
structure Cx.Ok (X:Cx):Prop where
 mod:Mod X.K X.mg X.base
 kind:X.env.scope.kind=.function
 glob:X.env.globals=mainGlobals
 blt:X.env.builtins=builtinsNs
 above:X.s₀.heap.objs.size<=X.env.locals
 inj:∀x y c,X.env.cells.lookup x=some c->X.env.cells.lookup y=some c->x=y
 has:∀x,(X.env.kindOf x=some .cell∨X.env.kindOf x=some .free)->∃c,X.env.cells.lookup x=some c
 NW:∀x c,X.fn x=true->X.env.cells.lookup x=some c->X.s₀.heap.objs.size<=c
 hd:X.calm=true->X.A.handled=none
 frames:X.A.frames=some X.stack
 Qm:X.stack=X.outer∨(X.stack=X.env::X.outer/\X.env.frame=some X.env.locals)
 P5:∀b∈X.ex,b≠X.env.locals/\∀x c,X.env.cells.lookup x=some c->c≠b
 bs:∀b o,X.base.get? b=some o->X.s₀.heap.get? b=some o/\X.H₀ b=none
 Gn:X.base.objs.size<=X.s₀.heap.objs.size
 NC:∀b o,X.base.get? b=some o->b∉X.ex
 O6:∀b∈X.ex,b∉X.fs
 FH:X.s₀.heap.FunFrames X.base X.outer
 JP:∀b∈X.fs,X.H₀ b=none
structure Inv (X:Cx) (Zq:ZBy) (Z:List (Option V)) (H:Hp) (s:Shared):Prop where
 ok:X.Ok
 os:s.os=X.s₀.os
 bare:AllBare s.gens
 base:Un X.fs X.ex X.H₀ H X.s₀.heap s.heap
 loc:∃m,s.heap.Ns X.env.locals m/\∀(i:Nat)(x:Str)(v:V),X.N[i]?=some x->Z[i]?=some (some v)->Uy X.env.scope x->∃u,RelV v u/\Look X.env s.heap m x u
 cell:∀x c,X.env.cells.lookup x=some c->∃v,s.heap.IsCell c v
 free:H X.env.locals=none
 Fg:∀x c,X.env.cells.lookup x=some c->H c=none
 pin:∀p∈X.pn++Zq,s.heap.get? p.1=some p.2/\H p.1=none/\p.1≠X.env.locals/\p.1∉X.fs/\∀v,p.2.data≠.cell v
 AE:Bx X.prog X.w H s.heap
 len:Z.length=X.N.length
section
variable{Z:List (Option V)}
theorem Cx.Ok.jg(ok:X.Ok){o:Obj}(e:X.base.get? b=some o):b∉X.fs:=λa=>by
 have:=(ok.FH.mem a).1;rw[e]at this;cases this
theorem Inv.bs(I:Inv X Zq Z H s):∀b o,X.base.get? b=some o->s.heap.get? b=some o/\H b=none:=λb o e=>
 ⟨I.base.keep b o (I.ok.bs b o e).1 (I.ok.bs b o e).2 (I.ok.jg e) (I.ok.NC b o e),I.base.free b o (I.ok.bs b o e).1 (I.ok.bs b o e).2 (I.ok.NC b o e)⟩
theorem Inv.bk(I:Inv X Zq Z H s):∀b o,X.base.get? b=some o->s.heap.get? b=some o:=λb o e=>(I.bs b o e).1
theorem Inv.mod(I:Inv X Zq Z H s):Mod X.K X.mg X.base:=I.ok.mod
theorem Inv.E6(I:Inv X Zq Z H s):X.K.In s.heap:=I.ok.mod.II.keeps I.bk
theorem Inv.nolimit(I:Inv X Zq Z H s):s.heap.NoLimit:=I.ok.mod.nolimit.keeps I.bk
theorem Inv.lt(I:Inv X Zq Z H s):X.env.locals<s.heap.objs.size:=let ⟨_,hn,_⟩:=I.loc;hn.lt
theorem Inv.sz(I:Inv X Zq Z H s):X.s₀.heap.objs.size<=s.heap.objs.size:=CQ I.ok.above (IX I.lt)
theorem Inv.OA(I:Inv X Zq Z H s)(h:s.heap.objs.size<=a):a∉X.fs:=λb=>by
 obtain⟨_,o,ho,_⟩:=I.ok.FH.mem b;exact absurd (CG (AY ho) (CQ I.sz h)) (MP _)
theorem Inv.Kn(I:Inv X Zq Z H s):∀x c,X.env.cells.lookup x=some c->c≠X.env.locals:=λx c e z=>by
 obtain⟨v,o,ho,hd⟩:=I.cell x c e;obtain⟨m,⟨o',es,ep,Bq,FQ,_⟩,_⟩:=I.loc;rw[z,Bq]at ho;cases ho;rw[FQ]at hd;cases hd
theorem Inv.FH(I:Inv X Zq Z H s):s.heap.FunFrames X.base X.outer:=by
 have all:∀(l:List Env),(∀b∈GL l,b∈X.fs)->X.s₀.heap.FunFrames X.base l->s.heap.FunFrames X.base l:=by
  intro l
  induction l with
  |nil=>intro _ _;trivial
  |cons env r f=>
   intro d i;obtain⟨hk,⟨L,o,a,h,ho,hd⟩,g⟩:=i;have hL:L∈X.fs:=d L (by unfold GL;rw[gJ,a];exact Aj);obtain⟨sl,e⟩:=I.base.slot L o ho (I.ok.JP L hL) hL λz=>I.ok.O6 L z hL;exact⟨hk,⟨L,_,a,h,e,hd⟩,f (λb c=>d b (by unfold GL;rw[gJ,a];exact B2 _ c)) g⟩
 exact all X.outer (λ_ c=>c) I.ok.FH
theorem Inv.stack(I:Inv X Zq Z H s):s.heap.FunFrames X.base X.stack:=by
 rcases I.ok.Qm with e|⟨e,hf⟩
 .rw[e];exact I.FH
 .rw[e];obtain⟨m,a,_⟩:=I.loc;refine .cons (by rw[I.ok.kind];decide) hf a ?_ I.FH;exact Heap.get?_none_of_le (CQ I.ok.Gn I.ok.above)
theorem Inv.TF(I:Inv X Zq Z H s):∀b∈GL X.stack,b∈X.env.locals::X.fs:=λb a=>by
 rcases I.ok.Qm with e|⟨e,hf⟩
 .rw[e]at a;exact B2 _ a
 .rw[e]at a;unfold GL at a;rw[gJ,hf]at a;exact a
theorem Inv.aA(I:Inv X Zq Z H s):∀b∈GL X.stack,H b=none:=λb a=>by
 rcases List.mem_cons.mp (I.TF b a)with e|a
 .rw[e];exact I.free
 .obtain⟨_,o,ho,_⟩:=I.ok.FH.mem a;exact I.base.free b o ho (I.ok.JP b a) λz=>I.ok.O6 b z a
theorem Inv.step(I:Inv X Zq Z H s)
  (Cj:∀b∈ch,(b∈X.ex∨X.s₀.heap.objs.size<=b)/\b≠X.env.locals/\(∀x c,X.env.cells.lookup x=some c->c≠b)/\∀p∈X.pn++Zq,p.1≠b)
  (keep:∀b o,b≠X.env.locals->b∉X.fs->b∉ch->s.heap.get? b=some o->H b=none->h'.get? b=some o)
  (slot:∀b o,b≠X.env.locals->b∈X.fs->b∉ch->s.heap.get? b=some o->H b=none->∃sl,h'.get? b=some { o with slots:=sl }) (free:∀b o,b∉ch->s.heap.get? b=some o->H b=none->H' b=none)
  (there:∀b o,b∉ch->s.heap.get? b=some o->∃o',h'.get? b=some o')
  (Hu:∀b(x:LW),H b=some x.ho->H' b=some x.ho) (IG:∀b o u,H b=some (.En o u)->H' b=some (.En o u))
  (ns:∀m,s.heap.Ns X.env.locals m->h'.Ns X.env.locals m) (AE:Bx X.prog X.w H' h') (hg:AllBare g') :
  Inv X Zq Z H' { s with heap:=h',gens:=g',drawn:=d',toks:=t' }:=by
 have B:∀b o,X.s₀.heap.get? b=some o->b≠X.env.locals:=λb o e=>Az (CG (AY e) I.ok.above);have h:∀b o,X.s₀.heap.get? b=some o->b∉X.ex->b∉ch:=λb o e hx f=>by
  rcases(Cj b f).1 with z|z
  .exact hx z
  .exact absurd (CG (AY e) z) (MP _)
 have a:∀x c,X.env.cells.lookup x=some c->∀v,s.heap.IsCell c v->h'.IsCell c v:=λx c e v AN=>by
  obtain⟨o,ho,hd⟩:=AN;have g:c∉ch:=λz=>(Cj c z).2.2.1 x c e rfl
  by_cases A:c∈X.fs
  .obtain⟨sl,q⟩:=slot c o (I.Kn x c e) A g ho (I.Fg x c e);exact⟨_,q,hd⟩
  .exact⟨o,keep c o (I.Kn x c e) A g ho (I.Fg x c e),hd⟩
 refine⟨I.ok,I.os,hg,⟨λb o e n f hx=>?_,λb o e n f hx=>?_,λb o e n hx=>?_,λb o e hx=>?_,λb xs e=>Hu b xs (I.base.Hu b xs e),λb o xs e=>IG b o xs (I.base.IG b o xs e)⟩,?_,λx c e=>?_,?_,λx c e=>?_,λp y=>?_,AE,I.len⟩
 .exact keep b o (B b o e) f (h b o e hx) (I.base.keep b o e n f hx) (I.base.free b o e n hx)
 .obtain⟨sl,e1⟩:=I.base.slot b o e n f hx;obtain⟨C,j⟩:=slot b _ (B b o e) f (h b o e hx) e1 (I.base.free b o e n hx);exact⟨C,j⟩
 .obtain⟨o',e1⟩:=I.base.there b o e hx;exact free b o' (h b o e hx) e1 (I.base.free b o e n hx)
 .obtain⟨o',e1⟩:=I.base.there b o e hx;exact there b o' (h b o e hx) e1
 .obtain⟨m,D,E⟩:=I.loc;refine⟨m,ns m D,λi x v e1 j F=>?_⟩;obtain⟨u,r,l⟩:=E i x v e1 j F;refine⟨u,r,?_⟩;rcases l with l|⟨k,c,e,z⟩
  .exact .inl l
  .exact .inr ⟨k,c,e,a x c e _ z⟩
 .obtain⟨v,z⟩:=I.cell x c e;exact⟨v,a x c e v z⟩
 .obtain⟨m,⟨o,_,_,ho,_⟩,_⟩:=I.loc;exact free _ o (λz=>(Cj _ z).2.1 rfl) ho I.free
 .obtain⟨v,o,ho,hd⟩:=I.cell x c e;exact free c o (λz=>(Cj c z).2.2.1 x c e rfl) ho (I.Fg x c e)
 .obtain⟨e,n,ne,t,d⟩:=I.pin p y;have g:p.1∉ch:=λz=>(Cj p.1 z).2.2.2 p y rfl;exact⟨keep p.1 p.2 ne t g e n,free p.1 p.2 g e n,ne,t,d⟩
theorem Inv.un(I:Inv X Zq Z H s)(u:Un X.fs [] H H' s.heap h')(AE:Bx X.prog X.w H' h'):Inv X Zq Z H' { s with heap:=h',toks:=t' }:=by
 obtain⟨m,⟨o,es,ep,ho,r⟩,_⟩:=id I.loc;obtain⟨sl,hL⟩:=u.any ho I.free (by simp);exact I.step (g':=s.gens) (d':=s.drawn) (ch:=[]) (λ_ z=>nomatch z) (λb o _ a _ e n=>u.keep b o e n a (by simp)) (λb o _ a _ e n=>u.slot b o e n a (by simp)) (λb o _ e n=>u.free b o e n (by simp)) (λb o _ e=>u.there b o e (by simp)) u.Hu u.IG (λf d=>by
  obtain⟨o',BJ,Gj,Bq,c⟩:=d;rw[ho]at Bq;cases Bq;exact⟨_,BJ,Gj,hL,c⟩) AE I.bare
theorem Inv.call(I:Inv X Zq Z H s)(u:Un (GL X.stack) ch H H' s.heap h')(AE:Bx X.prog X.w H' h')(hg:AllBare g')
  (Cj:∀b∈ch,(b∈X.ex∨X.s₀.heap.objs.size<=b)/\b≠X.env.locals/\(∀x c,X.env.cells.lookup x=some c->c≠b)/\∀p∈X.pn++Zq,p.1≠b) :
  Inv X Zq Z H' { s with heap:=h',gens:=g',drawn:=d',toks:=t' }:=by
 obtain⟨m,⟨o,es,ep,ho,r⟩,_⟩:=id I.loc;obtain⟨sl,hL⟩:=u.any ho I.free λz=>(Cj _ z).2.1 rfl;exact I.step (ch:=ch) Cj (λb o hL g a e n=>u.keep b o e n (λz=>(List.mem_cons.mp (I.TF b z)).elim hL g) a) (λb o _ _ a e n=>u.any e n a) (λb o a e n=>u.free b o e n a) (λb o a e=>u.there b o e a) u.Hu u.IG (λh f=>by
  obtain⟨o',BJ,Gj,Bq,d⟩:=f;rw[ho]at Bq;cases Bq;exact⟨_,BJ,Gj,hL,d⟩) AE hg
theorem Inv.turned(I:Inv X Zq Z H s)(k:∀b o,b≠it->s.heap.get? b=some o->h'.get? b=some o)(f:H it=none)(hL:it≠X.env.locals)
  (h1:it∈X.ex∨X.s₀.heap.objs.size<=it) (h2:∀x c,X.env.cells.lookup x=some c->c≠it) (i:∀p∈X.pn++Zq,p.1≠it):Inv X Zq Z H { s with heap:=h',toks:=t' }:=by
 have d:∀b u,H b=some u->b≠it:=λb u e z=>by rw[z,f]at e;cases e
 refine I.step (g':=s.gens) (d':=s.drawn) (ch:=[it]) (λb h=>?_) (λb o _ _ a e _=>k b o (λz=>a (by simp[z])) e) (λb o _ _ a e _=>⟨o.slots,k b o (λz=>a (by simp[z])) e⟩) (λ_ _ _ _ n=>n)
  (λb o a e=>⟨o,k b o (λz=>a (by simp[z])) e⟩) (λ_ _ e=>e) (λ_ _ _ e=>e) (λm g=>?_) (λb u e=>?_) I.bare
 .have e:b=it:=by simpa using h
  subst e;exact⟨h1,hL,h2,i⟩
 .obtain⟨o,es,ep,ho,r⟩:=g;exact⟨o,es,ep,k _ o (BM hL) ho,r⟩
 .refine(I.AE b u e).Fo (λc v a q=>k c v ?_ q) (λ_ q=>q) λ_ _ q=>q;rcases a with z|z
  .rw[z];exact d b u e
  .exact d c _ z
theorem Inv.tok(I:Inv X Zq Z H s)(t:Nat):Inv X Zq Z H { s with toks:=t }:=I.un (h':=s.heap) (t':=t) Un.refl I.AE
theorem Inv.kept(I:Inv X Zq Z H s)(k:∀b u,s.heap.get? b=some u->h'.get? b=some u):Inv X Zq Z H { s with heap:=h',toks:=t' }:=I.un (Un.kept k) (I.AE.kept k)
theorem Inv.laid(I:Inv X Zq Z H s)(k:∀b u,s.heap.get? b=some u->h'.get? b=some u)(c:s.heap.objs.size<=a)(new:Bl X.prog X.w (upd H a o) h' a o):
  Inv X Zq Z (upd H a o) { s with heap:=h',toks:=t' }:=I.un (Un.laid k c (I.AE.fresh c)) (I.AE.laid k c new)
theorem Inv.write{x e:Addr}(I:Inv X Zq Z H s)(mu:Mr (H x))(a:e=x∨H e=some (.own x))(k:∀b u,b≠e->s.heap.get? b=some u->h'.get? b=some u)(HA:∃u,h'.get? e=some u)
  (new:Bl X.prog X.w (upd H x o) h' x o):Inv X Zq Z (upd H x o) { s with heap:=h',toks:=t' }:=I.un (Un.write mu a k HA) (I.AE.write mu a k HA new)
theorem Inv.fm(I:Inv X Zq Z H s)(h:∀p∈Yr,s.heap.get? p.1=some p.2/\H p.1=none/\p.1≠X.env.locals/\p.1∉X.fs/\∀v,p.2.data≠.cell v):Inv X Yr Z H s:=
 ⟨I.ok,I.os,I.bare,I.base,I.loc,I.cell,I.free,I.Fg,λp a=>(List.mem_append.mp a).elim (λz=>I.pin p (DA _ z)) (h p),I.AE,I.len⟩
theorem ZA(c:N.Nodup)(a:N[i]?=some x)(b:N[j]?=some x):i=j:=by
 obtain⟨h1,e1⟩:=List.getElem?_eq_some_iff.mp a;obtain⟨h2,d⟩:=List.getElem?_eq_some_iff.mp b;exact(ZAe c).mp (e1.trans d.symm)
theorem ae{Q:Unit->Shared->Prop}(I:Inv X Zq Z H s)(T:X.N.Nodup)(hi:X.N[i]?=some x)(hx:Loc X.env.scope x)(r:RelV v u)
  (h:∀s',Inv X Zq (Z.set i (some v)) H s'->(∃a,Heap.SameBut a s.heap s'.heap/\(a=X.env.locals∨X.env.cells.lookup x=some a))->Q () s') (hf:X.fn x=true∨X.env.scope.names.lookup x=some .local:=by first|exact .inl rfl|exact .inr rfl|assumption):wpAny M A (storeName X.env x u) Q E s:=by
 obtain⟨m,L,S⟩:=id I.loc;have kX:(X.env.scope.kind == .class || (X.env.scope.kind == .module && X.env.locals != X.env.globals))=false:=by rw[I.ok.kind];rfl
 have hiσ:i<Z.length:=by rw[I.len];exact(List.getElem?_eq_some_iff.mp hi).1
 have Kn:=I.Kn;have g:∀{a:Addr}{h':Heap},(∃o,s.heap.get? a=some o/\H a=none)->Heap.SameBut a s.heap h'->Bx X.prog X.w H h':=λ{a h'}ha f b ob e=>by
  obtain⟨_,_,U⟩:=ha;refine(I.AE b ob e).Fo (λc D l q=>(f.2 c ?_).trans q) (λ_ q=>q) λ_ _ q=>q;rintro rfl;rcases l with rfl|l
  .rw[U]at e;cases e
  .rw[U]at l;cases l
 rcases hx with hk|hk
 .refine wpAny_storeName_local hk L (λh' RJ f=>?_) kX;obtain⟨oL,_,_,EF,_⟩:=id L;refine h _ ⟨I.ok,I.os,I.bare,⟨λb o e n C hx=>?_,λb o e n C hx=>?_,I.base.free,λb o e hx=>?_,I.base.Hu,I.base.IG⟩,⟨_,RJ,λj y F e1 t O=>?_⟩,λy c e=>?_,I.free,I.Fg,λp K=>?_,g ⟨oL,EF,I.free⟩ f,by simpa using I.len⟩ ⟨_,f,.inl rfl⟩
  .exact(f.2 b (Az (CG (AY e) I.ok.above))).trans (I.base.keep b o e n C hx)
  .obtain⟨sl,e1⟩:=I.base.slot b o e n C hx;exact⟨sl,(f.2 b (Az (CG (AY e) I.ok.above))).trans e1⟩
  .obtain⟨o',e1⟩:=I.base.there b o e hx;exact⟨o',(f.2 b (Az (CG (AY e) I.ok.above))).trans e1⟩
  .by_cases B:j=i
   .subst B;rw[hi]at e1;cases e1;rw[Cr hiσ]at t;cases t;exact⟨u,r,.inl ⟨hk,by simp⟩⟩
   .rw[CM (BM B)]at t;obtain⟨u',G,q⟩:=S j y F e1 t O;refine⟨u',G,?_⟩;rcases q with⟨k,e⟩|⟨k,c,e,z⟩
    .refine .inl ⟨k,?_⟩;have:y≠x:=λe=>B (ZA T e1 (e▸hi));simp[this,e]
    .exact .inr ⟨k,c,e,z.sameBut f (Kn y c e)⟩
  .obtain⟨D,z⟩:=I.cell y c e;exact⟨D,z.sameBut f (Kn y c e)⟩
  .obtain⟨e,n,ne,J,d⟩:=I.pin p K;exact⟨(f.2 p.1 ne).trans e,n,ne,J,d⟩
 .have P:X.fn x=true:=by
   rcases hf with z|z
   .exact z
   .rw[z]at hk;cases hk
  obtain⟨c,l⟩:=I.ok.has x (.inl hk);obtain⟨D,z⟩:=I.cell x c l;refine wpAny_storeName_cell I.ok.kind hk l z (λh' Ep f=>?_);obtain⟨R,Xs,σ⟩:=id z;refine h { s with heap:=h' } ⟨I.ok,I.os,I.bare,⟨λb o e n C hx=>?_,λb o e n C hx=>?_,I.base.free,λb o e hx=>?_,I.base.Hu,I.base.IG⟩,⟨m,L.sameBut f (BM (Kn x c l)),λj y F e1 t O=>?_⟩,λy c' e=>?_,I.free,I.Fg,λp K=>?_,g ⟨R,Xs,I.Fg x c l⟩ f,by simpa using I.len⟩ ⟨c,f,.inr l⟩
  .exact(f.2 b (Az (CG (AY e) (I.ok.NW x c P l)))).trans (I.base.keep b o e n C hx)
  .obtain⟨sl,e1⟩:=I.base.slot b o e n C hx;exact⟨sl,(f.2 b (Az (CG (AY e) (I.ok.NW x c P l)))).trans e1⟩
  .obtain⟨o',e1⟩:=I.base.there b o e hx;exact⟨o',(f.2 b (Az (CG (AY e) (I.ok.NW x c P l)))).trans e1⟩
  .by_cases B:j=i
   .subst B;rw[hi]at e1;cases e1;rw[Cr hiσ]at t;cases t;exact⟨u,r,.inr ⟨.inl hk,c,l,Ep⟩⟩
   .rw[CM (BM B)]at t;obtain⟨u',G,q⟩:=S j y F e1 t O;refine⟨u',G,?_⟩;rcases q with q|⟨k,c',e,z'⟩
    .exact .inl q
    .refine .inr ⟨k,c',e,z'.sameBut f ?_⟩;rintro rfl;exact B (ZA T e1 (I.ok.inj _ _ _ e l▸hi))
  .by_cases V:c'=c
   .subst V;exact⟨_,Ep⟩
   .obtain⟨Y,W⟩:=I.cell y c' e;exact⟨Y,W.sameBut f V⟩
  .obtain⟨e,n,ne,J,d⟩:=I.pin p K;refine⟨(f.2 p.1 ?_).trans e,n,ne,J,d⟩;intro q;rw[q,Xs]at e;have q':R=p.2:=B3 e;exact d D (by rw[<- q'];exact σ)
theorem aS{Q:Unit->Shared->Prop}(I:Inv X Zq Z H s)(b:X.N.Nodup)(hi:X.N[i]?=some x)(hx:Loc X.env.scope x)(r:RelV v u)
  (h:∀s',Inv X Zq (Z.set i (some v)) H s'->Q () s') (a:X.fn x=true∨X.env.scope.names.lookup x=some .local:=by first|exact .inl rfl|exact .inr rfl|assumption):wpAny M A (storeName X.env x u) Q E s:=
 ae I b hi hx r (λs' I' _=>h s' I') a
theorem Inv.sg(I:Inv X Zq Z H s)(ho:s'.os=s.os)(u:Un (GL X.stack) ch H H' s.heap s'.heap)(AE:Bx X.prog X.w H' s'.heap)(hg:AllBare s'.gens)
  (Cj:∀b∈ch,(b∈X.ex∨X.s₀.heap.objs.size<=b)/\b≠X.env.locals/\(∀x c,X.env.cells.lookup x=some c->c≠b)/\∀p∈X.pn++Zq,p.1≠b):Inv X Zq Z H' s':=by
 obtain⟨h',g',d',t',o'⟩:=s';have e:o'=s.os:=ho;subst e;exact I.call (g':=g') (t':=t') (d':=d') u AE hg Cj
end
abbrev XK:=Value->Option Addr->Hp->Prop
abbrev St:=List (Option V)
variable{Z:St}
abbrev VK:=V->Hp->Prop
abbrev TE:=St->Hp->VK->Prop
variable{ta tb tc te:TE}
abbrev TT:=St->Hp->(Bool->Hp->Prop)->Prop
abbrev TA:=St->Hp->(List V->Hp->Prop)->Prop
variable{t:TA}
structure Ends where
 nx:St->Hp->Prop
 rt:VK
 bk:St->Hp->Prop:=λ_ _=>False
 ct:St->Hp->Prop:=λ_ _=>False
abbrev TS:=Ends->St->Hp->Prop
def EP(X:Cx)(Zq:ZBy)(Z:St)(Q:VK)(u:Value)(s':Shared):Prop:=∃v H',Inv X Zq Z H' s'/\RelV v u/\Q v H'
def TP(X:Cx)(Zq:ZBy)(Z:St)(Q:Bool->Hp->Prop)(b:Bool)(s':Shared):Prop:=∃H',Inv X Zq Z H' s'/\Q b H'
def AP(X:Cx)(Zq:ZBy)(Z:St)(Q:List V->Hp->Prop)(us:List Value)(s':Shared):Prop:=∃vs H',Inv X Zq Z H' s'/\Vals vs us/\Q vs H'
def SP(X:Cx)(Zq:ZBy)(D:Ends)(f:Flow)(s':Shared):Prop:=
 match f with
 | .next=>∃ σ' H',Inv X Zq σ' H' s'/\D.nx σ' H'
 | .brk=>∃ σ' H',Inv X Zq σ' H' s'/\D.bk σ' H'
 | .cont=>∃ σ' H',Inv X Zq σ' H' s'/\D.ct σ' H'
 | .ret u=>∃v σ' H',Inv X Zq σ' H' s'/\RelV v u/\D.rt v H'
def PE(X:Cx)(e:Expr)(t:TE):Prop:=
 ∀(Zq:ZBy)(s:Shared)(Z:St)(H:Hp)(Q:VK),Inv X Zq Z H s->t Z H Q->wpAny (model X.prog X.w) X.A (eval e X.env) (EP X Zq Z Q) X.xe s
def PT(X:Cx)(e:Expr)(t:TT):Prop:=
 ∀(Zq:ZBy)(s:Shared)(Z:St)(H:Hp)(Q:Bool->Hp->Prop),Inv X Zq Z H s->t Z H Q->wpAny (model X.prog X.w) X.A (isTrue e X.env (eval e X.env)) (TP X Zq Z Q) X.xe s
def PW(X:Cx)(e:Expr)(t:TT):Prop:=
 ∀(a:Sem Value)(Zq:ZBy)(s:Shared)(Z:St)(H:Hp)(Q:Bool->Hp->Prop),Inv X Zq Z H s->t Z H Q->wpAny (model X.prog X.w) X.A (isTrue e X.env a) (TP X Zq Z Q) X.xe s
theorem PW.pt{t:TT}(h:PW X e t):PT X e t:=h _
def PA(X:Cx)(es:List Expr)(t:TA):Prop:=
 ∀(pos:Pos)(Zq:ZBy)(s:Shared)(Z:St)(H:Hp)(Q:List V->Hp->Prop),Inv X Zq Z H s->t Z H Q->wpAny (model X.prog X.w) X.A (spliced (backTo pos (starEach es X.env))) (AP X Zq Z Q) X.xe s
def PS(X:Cx)(st:Stmt)(t:TS):Prop:=
 ∀(Zq:ZBy)(s:Shared)(Z:St)(H:Hp)(D:Ends),Inv X Zq Z H s->t D Z H->wpAny (model X.prog X.w) X.A (exec st X.env) (SP X Zq D) X.xe s
def Dt(X:Cx)(st:List Stmt)(t:TS):Prop:=
 ∀(Zq:ZBy)(s:Shared)(Z:St)(H:Hp)(D:Ends),Inv X Zq Z H s->t D Z H->wpAny (model X.prog X.w) X.A (execs st X.env) (SP X Zq D) X.xe s
theorem Ao{t:Sem α}{Q Q':α->Shared->Prop}(h:wpAny M A t Q E s)(b:∀a s,Q a s->Q' a s):wpAny M A t Q' E s:=ki h b λ_ _ x=>x
theorem PE.k{t:TE}{Q:VK}{Q':Value->Shared->Prop}(a:PE X e t)(I:Inv X Zq Z H s)(h:t Z H Q)(f:∀u s1 x H1,Inv X Zq Z H1 s1->RelV x u->Q x H1->Q' u s1):wpAny (model X.prog X.w) X.A (eval e X.env) Q' X.xe s:=
 Ao (a Zq s Z H Q I h) λu s1 z=>by obtain⟨x,H1,I1,r,q⟩:=z;exact f u s1 x H1 I1 r q
theorem PA.k(pos:Pos){Q:List V->Hp->Prop}{Q':List Value->Shared->Prop}(a:PA X es t)(I:Inv X Zq Z H s)(h:t Z H Q)(f:∀us s1 vs H1,Inv X Zq Z H1 s1->Vals vs us->Q vs H1->Q' us s1):wpAny (model X.prog X.w) X.A (spliced (backTo pos (starEach es X.env))) Q' X.xe s:=
 Ao (a pos Zq s Z H Q I h) λu s1 z=>by obtain⟨x,H1,I1,r,q⟩:=z;exact f u s1 x H1 I1 r q
section
def Ar(i:Nat):TE:=λZ H Q=>∃v,Z[i]?=some (some v)/\Q v H
def tC(v:V):TE:=λ_ H Q=>Q v H
def Gl(X:Cx)(x:Str):Prop:=X.env.kindOf x=some .globalImplicit
theorem dk(I:Inv X Zq Z H s)(hg:Gl X x)(a:X.mg x=some u)(h:Q u s)
  (hd:(x == ("__debug__":Str))=false:=by decide):wpAny (model X.prog X.w) X.A (eval (.Name x pos) X.env) Q E s:=
 ZAO I.ok.kind hg (Calls.loadGlobal_global (by rw[I.ok.glob];exact I.mod.glob.keeps I.bk) a h) hd
theorem K3(I:Inv X Zq Z H s)(hg:Gl X x)(c:X.mg x=none)(a:bootBuiltins x=some u)(h:Q u s)
  (b:x ≠"__name__" := by decide) (hd:(x == ("__debug__":Str))=false:=by decide):wpAny (model X.prog X.w) X.A (eval (.Name x pos) X.env) Q E s:=by
 obtain⟨d,h1,h2⟩:=I.mod.blt;exact ZAO I.ok.kind hg (Calls.loadGlobal_builtin (by rw[I.ok.glob];exact I.mod.glob.keeps I.bk) c (by rw[I.ok.blt];exact h1.keeps I.bk) ((h2 x b).trans a) h) hd
theorem uR(hg:Gl X x)(c:X.mg x=none)(a:bootBuiltins x=some u)(r:RelV v u)(b:x ≠"__name__" := by decide)(hd:(x == ("__debug__":Str))=false:=by decide):PE X (.Name x pos) (tC v):=
 λ_ _ _ H _ I h=>K3 I hg c a ⟨v,H,I,r,h⟩ b hd
variable{a b:Expr}
def PC(X:Cx)(op:CmpOp)(a b:Expr)(t:TE):Prop:=
 ∀(Zq:ZBy)(s:Shared)(Z:St)(H:Hp)(Q:VK),Inv X Zq Z H s->t Z H Q->
  wpAny (model X.prog X.w) X.A (eval a X.env) (λv s₁=>wpAny (model X.prog X.w) X.A (eval b X.env) (λu c=>wpAny (model X.prog X.w) X.A (compareOp op v u) (EP X Zq Z Q) X.xe c) X.xe s₁) X.xe s
theorem kI(b:Expr)(h:op≠.In)(h2:op≠.NotIn):behindInMarks op b=false:=by
 have e1:(op == CmpOp.In)=false:=by cases op <;> first|rfl|exact absurd rfl h
 have a:(op == CmpOp.NotIn)=false:=by cases op <;> first|rfl|exact absurd rfl h2
 cases b <;> simp[behindInMarks,e1,a]
def tB(t:TE):TT:=λZ H Q=>t Z H λx H1=>∃c,x=.bl c/\Q c H1
theorem sW{t:TE}(h:PC X op a b t)(h1:behindInMarks op b=false:=by first|exact kI _ (by decide) (by decide)|rfl):PT X (.Compare a [op] [b] pos) (tB t):=by
 intro Zq s Z H Q I hw;refine wpAny_isTrue_Compare1 (Ao (h Zq s Z H _ I hw) λv s1 h1=>Ao h1 λu s2 h2=>Ao h2 λc g⟨x,H1,I1,e,f⟩=>?_) h1;obtain⟨d,rfl,q⟩:=f;cases e;exact oe ⟨H1,I1,q⟩
variable{tA IB:TT}
def Wb(t u:TT):TT:=λZ H Q=>t Z H λc H1=>if c=true then u Z H1 Q else Q false H1
def Mg(t u:TT):TT:=λZ H Q=>t Z H λc H1=>if c=true then Q true H1 else u Z H1 Q
def S8(t:TT):TT:=λZ H Q=>t Z H λc H1=>Q (!c) H1
def Sd(ta tb:TE):TE:=λZ H Q=>ta Z H λx H1=>∃c,x=.bl c/\if c=true then tb Z H1 Q else Q (.bl false) H1
def U3(ta tb:TE):TE:=λZ H Q=>ta Z H λx H1=>∃c,x=.bl c/\if c=true then Q (.bl true) H1 else tb Z H1 Q
def WC(ta:TE):TE:=λZ H Q=>ta Z H λx H1=>∃c,x=.bl c/\Q (.bl (!c)) H1
end
def AG(K:ZBx)(H:Hp)(a:Addr)(xs:List V):Prop:=
 Rd H a (.lst xs)∨
  ∃(o:Obj)(A0:Array Value)(n:Nat),K.lookup a=some o/\o.cls=.type "list" /\ o.dict=none/\o.data=.seq A0 n/\A0.size<=sizeLine/\Vals xs A0.toList
def Ab(K:ZBx)(H:Hp)(a:Addr)(xs:List V):Prop:=
 Rd H a (.tup xs)∨
  ∃(o:Obj)(A0:Array Value)(n:Nat),K.lookup a=some o/\o.cls=.type "tuple" /\ o.data=.seq A0 n/\A0.size<=sizeLine/\Vals xs A0.toList
noncomputable def j8:Value->Option V
 | .none=>some .A6
 | .bool b=>some (.bl b)
 | .int i _=>some (.int i)
 | .str x _=>some (.str x)
 | .bytes b _=>some (.GK b)
 | .float b _=>some (.Lk b)
 | .ref a=>some (.ref a)
 | .type n=>some (.ty n)
 |_=>none
theorem RelV.abs{x:V}(r:RelV x u):j8 u=some x:=by
 cases x with
 |A6=>cases r;rfl
 |bl _=>cases r;rfl
 |int _=>obtain⟨t,rfl⟩:=r;rfl
 |str _=>obtain⟨t,rfl⟩:=r;rfl
 |GK _=>obtain⟨t,rfl⟩:=r;rfl
 |Lk _=>obtain⟨t,rfl⟩:=r;rfl
 |ref _=>cases r;rfl
 |ty _=>cases r;rfl
theorem RelV.inj{x y:V}{u:Value}(r:RelV x u)(q:RelV y u):x=y:=B3 (r.abs.symm.trans q.abs)
theorem Vals.inj:∀{xs ys:List V}{us:List Value},Vals xs us->Vals ys us->xs=ys
 |_,_,_,.nil,.nil=>rfl
 |_,_,_,.cons r t,.cons r' t'=>by rw[r.inj r',Vals.inj t t']
section
variable{xs ys:List V}
theorem AG.of{K:ZBx}(h:H a=some (.lst xs)):AG K H a xs:=.inl (.inl h)
theorem Ab.of{K:ZBx}(h:H a=some (.tup xs)):Ab K H a xs:=.inl (.inl h)
theorem Inv.list(I:Inv X Zq Z H s)(h:AG X.K H a xs):∃A0:List Value,Vals xs A0/\PlainL s.heap a A0.toArray/\xs.length<=sizeLine:=by
 rcases h with h|⟨o,A0,n,hk,hc,hd,hs,hz,r⟩
 .obtain⟨z,A0,n,r,e⟩:=h.ok I.AE;exact⟨A0,r,⟨_,n,e,rfl,rfl,rfl⟩,z⟩
 .refine⟨A0.toList,r,⟨o,n,I.E6 a o hk,hc,hd,by simpa using hs⟩,?_⟩
  have e:=r.length;simp only[Df]at e;omega
theorem Inv.tuple(I:Inv X Zq Z H s)(h:Ab X.K H a xs):∃A0:List Value,Vals xs A0/\IsTup s.heap a A0.toArray/\xs.length<=sizeLine:=by
 rcases h with h|⟨o,A0,n,hk,hc,hs,hz,r⟩
 .obtain⟨z,A0,r,p⟩:=h.ok I.AE;exact⟨A0,r,p.1,z⟩
 .refine⟨A0.toList,r,⟨o,I.E6 a o hk,hc,n,by simpa using hs⟩,?_⟩
  have e:=r.length;simp only[Df]at e;omega
theorem Inv.aw(I:Inv X Zq Z H s)(h:AG X.K H a xs)(h':AG X.K H a ys):xs=ys:=by
 obtain⟨A0,r,⟨o,n,e,_,_,d⟩,_⟩:=I.list h;obtain⟨its',c,⟨o',f,b,_,_,d'⟩,_⟩:=I.list h';rw[e]at b;cases b;rw[d]at d';injection d' with d1 _
 have:A0=its':=by simpa using ib Array.toList d1
 subst this;exact r.inj c
theorem Inv.Mq(I:Inv X Zq Z H s)(h:Ab X.K H a xs)(h':Ab X.K H a ys):xs=ys:=by
 obtain⟨A0,r,⟨o,e,_,n,d⟩,_⟩:=I.tuple h;obtain⟨its',c,⟨o',b,_,f,d'⟩,_⟩:=I.tuple h';rw[e]at b;cases b;rw[d]at d';injection d' with d1 _
 have:A0=its':=by simpa using ib Array.toList d1
 subst this;exact r.inj c
end
noncomputable abbrev Cx.HD(X:Cx)(E:Value->Shared->Prop):Cx:={ X with xe:=E }
noncomputable abbrev Cx.GX(X:Cx):Cx:=X.HD λ_ _=>False
theorem Cx.Ok.HD(ok:X.Ok)(E:Value->Shared->Prop):(X.HD E).Ok:=
 ⟨ok.mod,ok.kind,ok.glob,ok.blt,ok.above,ok.inj,ok.has,ok.NW,ok.hd,ok.frames,ok.Qm,ok.P5,ok.bs,ok.Gn,ok.NC,ok.O6,ok.FH,ok.JP⟩
theorem Cx.Ok.Ic(ok:(X.HD E).Ok):X.Ok:=
 ⟨ok.mod,ok.kind,ok.glob,ok.blt,ok.above,ok.inj,ok.has,ok.NW,ok.hd,ok.frames,ok.Qm,ok.P5,ok.bs,ok.Gn,ok.NC,ok.O6,ok.FH,ok.JP⟩
section
theorem Inv.HD(I:Inv X Zq Z H s)(E:Value->Shared->Prop):Inv (X.HD E) Zq Z H s:=⟨I.ok.HD E,I.os,I.bare,I.base,I.loc,I.cell,I.free,I.Fg,I.pin,I.AE,I.len⟩
theorem Inv.Ic(I:Inv (X.HD E) Zq Z H s):Inv X Zq Z H s:=⟨I.ok.Ic,I.os,I.bare,I.base,I.loc,I.cell,I.free,I.Fg,I.pin,I.AE,I.len⟩
theorem SP.Ic{D:Ends}{f:Flow}(h:SP (X.HD E) Zq D f s'):SP X Zq D f s':=by
 cases f with
 |next=>obtain⟨σ',H',I,q⟩:=h;exact⟨σ',H',I.Ic,q⟩
 |brk=>obtain⟨σ',H',I,q⟩:=h;exact⟨σ',H',I.Ic,q⟩
 |cont=>obtain⟨σ',H',I,q⟩:=h;exact⟨σ',H',I.Ic,q⟩
 |ret u=>obtain⟨v,σ',H',I,r,q⟩:=h;exact⟨v,σ',H',I.Ic,r,q⟩
theorem Dt.GX{st:List Stmt}{t:TS}(h:Dt X.GX st t):Dt X st t:=λZq s Z H D I hw=>
 ki (h Zq s Z H D (I.HD _) hw) (λ_ _ q=>q.Ic) λ_ _ z=>False.elim z
variable{st:Stmt}{rest:List Stmt}{t u:TS}
def Qf:TS:=λD Z H=>D.nx Z H
def M5(t u:TS):TS:=λD Z H=>t { D with nx:=u D } Z H
theorem jD(h1:PS X st t)(h2:Dt X rest u):Dt X (st::rest) (M5 t u):=by
 intro Zq s Z H D I h;refine wpAny_execs_cons (Ao (h1 Zq s Z H { D with nx:=u D } I h) λf s1 q=>?_)
 cases f with
 |next=>
  obtain⟨σ',H',I',q⟩:=q;exact h2 Zq s1 σ' H' D I' q
 |ret v=>exact q
 |brk=>exact q
 |cont=>exact q
theorem jl(h1:PS X st t):Dt X [st] t:=by
 intro Zq s Z H D I h;refine wpAny_execs_cons (Ao (h1 Zq s Z H D I h) λf s1 q=>?_);cases f with
 |next=>exact zj q
 |ret v=>exact q
 |brk=>exact q
 |cont=>exact q
theorem Inv.quiet(I:Inv X Zq Z H s):interactive X.env=false:=by simp[interactive,I.ok.kind]
def Hy(te:TE):TS:=λD Z H=>te Z H λ_ H1=>D.nx Z H1
def G3(te:TE):TS:=λD Z H=>te Z H D.rt
def Ld(c:TT)(t u:TS):TS:=λD Z H=>c Z H λb H1=>if b=true then t D Z H1 else u D Z H1
def Xf:TS:=λ_ _ _=>False
end
abbrev TG:=V->St->Hp->(St->Hp->Prop)->Prop
abbrev Ga:=List V->St->Hp->(St->Hp->Prop)->Prop
def PG(X:Cx)(a:Expr)(t:TG):Prop:=
 ∀(Zq:ZBy)(s:Shared)(Z:St)(H:Hp)(v:V)(u:Value)(Q:St->Hp->Prop),Inv X Zq Z H s->RelV v u->t v Z H Q->
  wpAny (model X.prog X.w) X.A (assign a X.env u) (λ_ s'=>∃ σ' H',Inv X Zq σ' H' s'/\Q σ' H') X.xe s
def Lr(X:Cx)(ts:List Expr)(t:Ga):Prop:=
 ∀(Zq:ZBy)(s:Shared)(Z:St)(H:Hp)(vs:List V)(us:List Value)(Q:St->Hp->Prop),Inv X Zq Z H s->Vals vs us->t vs Z H Q->
  wpAny (model X.prog X.w) X.A (assignInOrder ((assignEach ts X.env).map (·.2)) us) (λ_ s'=>∃ σ' H',Inv X Zq σ' H' s'/\Q σ' H') X.xe s
abbrev QL:=V->V->V->Hp->(Hp->Prop)->Prop
def Vr(X:Cx)(t:QL):Prop:=
 ∀(Zq:ZBy)(s:Shared)(Z:St)(H:Hp)(o i v:V)(a b u:Value)(Q:Hp->Prop),Inv X Zq Z H s->RelV o a->RelV i b->RelV v u->t o i v H Q->
  wpAny (model X.prog X.w) X.A (setItem a b u) (λ_ s'=>∃H',Inv X Zq Z H' s'/\Q H') X.xe s
def Cf(i:Nat):TG:=λv Z H Q=>Q (Z.set i (some v)) H
theorem Vz(b:X.N.Nodup)(hi:X.N[i]?=some x)(hx:Loc X.env.scope x)(a:X.fn x=true∨X.env.scope.names.lookup x=some .local:=by first|exact .inl rfl|exact .inr rfl|assumption):PG X (.Name x pos) (Cf i):=by
 intro Zq s Z H v u Q I r h;exact wpAny_assign_Name (aS I b hi hx r (λs' I'=>⟨_,H,I',h⟩) a)
def Nb:Ga:=λvs Z H Q=>vs=[]/\Q Z H
def JZ(t:TG)(u:Ga):Ga:=λvs Z H Q=>∃v r,vs=v::r/\t v Z H λσ' H'=>u r σ' H' Q
theorem cB:Lr X [] Nb:=by
 intro Zq s Z H vs us Q I r h;obtain⟨e,h⟩:=h;subst e;cases r;exact assignInOrder_nil ⟨Z,H,I,h⟩
theorem dG{t:TG}{u:Ga}(h1:PG X e t)(h2:Lr X es u)
  (d:(assignEach (e::es) X.env).map (·.2)=assign e X.env::(assignEach es X.env).map (·.2):=by rfl):Lr X (e::es) (JZ t u):=by
 intro Zq s Z H vs us Q I r h;obtain⟨v,f,e1,h⟩:=h;subst e1;cases r with
 |cons r a=>
  rw[d];refine assignInOrder_cons (Ao (h1 Zq s Z H _ _ _ I r h) λ_ s1 c=>?_);obtain⟨σ1,H1,I1,b⟩:=c;exact h2 Zq s1 σ1 H1 _ _ Q I1 a b
def J8(K:ZBx)(n:Nat)(t:Ga):TG:=λv Z H Q=>∃a xs,v=.ref a/\Ab K H a xs/\xs.length=n/\t xs Z H Q
theorem gA{k:Nat}{t:Ga}(j:X.calm=true)(h:Lr X es t)
  (g:(assignEach es X.env).length=n:=by rfl) (FW:(assignEach es X.env).findIdx? (·.1)=none:=by rfl):PG X (.Tuple es k pos) (J8 X.K n t):=by
 intro Zq s Z H v u Q I r hw;obtain⟨a,xs,e1,f,i,hw⟩:=hw;subst e1;cases r;obtain⟨A0,c,d,hz⟩:=I.tuple f;refine assign_Tuple_tuple (I.ok.hd j) d (by simp[g,<- i,c.length]) FW λh' hx=>?_;have l:Inv X Zq Z H { s with heap:=h' }:=I.kept (t':=s.toks) λb o e=>hx b o (Az (AY e)) e
 exact h Zq _ Z H xs _ Q l (by simpa using c) hw
def Oy(to ti:TE)(t:QL):TG:=λv Z H Q=>to Z H λo H1=>ti Z H1 λi H2=>t o i v H2 λH3=>Q Z H3
def EY(te:TE)(g:TG):TS:=λD Z H=>te Z H λx H1=>g x Z H1 D.nx
def Vf(c:TT)(tb:TS):TS:=λD Z H=>∃W:Nat->St->Hp->Prop,(∃m,W m Z H)/\∀m Z H,W m Z H->
 c Z H λb H1=>if b=true then ∃N:St->Hp->Prop,(∀ σ' H',N σ' H'->∃a,a < m/\W a σ' H')/\tb { D with nx:=N,ct:=N,bk:=D.nx } Z H1 else D.nx Z H1
structure It where
 go:Nat->Hp->Prop
 Dc:Nat->Hp->V->Hp->Prop
 stop:Nat->Hp->Prop
def EI(X:Cx)(Zq:ZBy)(H:Hp)(b:Addr):Prop:=
 H b=none/\b≠X.env.locals/\b∉X.fs/\(b∈X.ex∨X.s₀.heap.objs.size<=b)/\(∀x c,X.env.cells.lookup x=some c->c≠b)/\∀p∈X.pn++Zq,p.1≠b
theorem Inv.N2(I:Inv X Zq Z H s)(a:s.heap.objs.size<=b)(f:H' b=none):EI X Zq H' b:=by
 refine⟨f,EA (CG I.lt a),I.OA a,.inr (CQ I.sz a),λx c e z=>?_,λp d z=>?_⟩
 .obtain⟨v,q⟩:=I.cell x c e;exact absurd (CG q.lt (by rw[z];exact a)) (MP _)
 .exact absurd (CG (AY (I.pin p d).1) (by rw[z];exact a)) (MP _)
structure Turn (P:Program) (w:World) (K:ZBx) (tg:Expr) (J:It) (fp:List Addr) (it:Addr) (tn:Nat->Heap->Prop):Prop where
 mem:it∈fp
 obj:∀i h,tn i h->∀b∈fp,∃o,h.get? b=some o/\∀v,o.data≠.cell v
 keep:∀i h h',tn i h->(∀b∈fp,∀o,h.get? b=some o->h'.get? b=some o)->tn i h'
 item:∀(X:Cx),X.prog=P->X.w=w->X.K=K->X.calm=true->∀(i:Nat)(Zq:ZBy)(s:Shared)(Z:St)(H:Hp)(E:Value->Shared->Prop),Inv X Zq Z H s->(∀b∈fp,EI X Zq H b)->tn i s.heap->J.go i H->
  wpAny (model P w) X.A (pyNext (.ref it)) (λr s1=>∃u,r=some u/\
   wpAny (model P w) X.A (letOwnedTupleGo tg (.ref it) u) (λ_ s2=>∃x H',Inv X Zq Z H' s2/\RelV x u/\J.Dc i H x H'/\tn (i+1) s2.heap/\∀b∈fp,H' b=none) E s1) E s
 done:∀(X:Cx),X.prog=P->X.w=w->X.K=K->X.calm=true->∀(i:Nat)(Zq:ZBy)(s:Shared)(Z:St)(H:Hp)(E:Value->Shared->Prop),Inv X Zq Z H s->(∀b∈fp,EI X Zq H b)->tn i s.heap->J.stop i H->
  wpAny (model P w) X.A (pyNext (.ref it)) (λr s1=>r=none/\Inv X Zq Z H s1) E s
 self:∀(A:Around)(i:Nat)(s:Shared)(Q:Value->Shared->Prop)(E:Value->Shared->Prop),tn i s.heap->Q (.ref it) s->wpAny (model P w) A (pyIter (.ref it)) Q E s
abbrev TI:=St->Hp->(It->Hp->Prop)->Prop
def Xx(X:Cx)(Zq:ZBy)(Z:St)(tg:Expr)(R:It->Hp->Prop)(QH:Value)(s2:Shared):Prop:=
 ∃(it:Addr)(fp:List Addr)(tn:Nat->Heap->Prop)(J:It)(H':Hp),QH=.ref it/\Inv X Zq Z H' s2/\Turn X.prog X.w X.K tg J fp it tn/\tn 0 s2.heap/\(∀b∈fp,EI X Zq H' b)/\R J H'
def PI(X:Cx)(tg iter:Expr)(wi:TI):Prop:=
 ∀(Zq:ZBy)(s:Shared)(Z:St)(H:Hp)(R:It->Hp->Prop),Inv X Zq Z H s->wi Z H R->
  wpAny (model X.prog X.w) X.A (eval iter X.env) (λv s1=>wpAny (model X.prog X.w) X.A (pyIter v) (Xx X Zq Z tg R) X.xe s1) X.xe s
theorem SE{o:Obj}{n:String}{vs:Array Value}{Q:Unit->Shared->Prop}(ho:s.heap.get? it=some o)(c:o.cls=.type n)(hd:o.data=.fields vs)
  (b:["enumerate","zip","dict_itemiterator","dict_reverseitemiterator","odict_iterator","itertools.zip_longest","itertools.pairwise"].contains n=false) (a:Q () s):wpAny M A (letOwnedTupleGo tg (.ref it) u) Q E s:=by
 unfold letOwnedTupleGo;cases tg <;> first
  |exact hJ a
  | (cases u <;> first
    |exact hJ a
    | (
      refine dP (ZA2 ho ?_);rw[c,hd];show wpAny M A (if(["enumerate","zip","dict_itemiterator","dict_reverseitemiterator","odict_iterator","itertools.zip_longest","itertools.pairwise"].contains n && vs[0]? == some (rawInt _))=true then _ else _) Q E s
      rw[i3 (by intro h;rw[b,RS]at h;cases h)];exact hJ a))
noncomputable def om(K:ZBx)(a:Addr):It:=
 ⟨λi H=>∃xs x,AG K H a xs/\xs[i]?=some x,λi H x H'=>H'=H/\∀xs,AG K H a xs->xs[i]?=some x,λi H=>∃xs,AG K H a xs/\xs.length<=i⟩
noncomputable def jo(K:ZBx)(a:Addr):It:=
 ⟨λi H=>∃xs x,Ab K H a xs/\xs[i]?=some x,λi H x H'=>H'=H/\∀xs,Ab K H a xs->xs[i]?=some x,λi H=>∃xs,Ab K H a xs/\xs.length<=i⟩
noncomputable def Lc(lo:Int)(n:Nat):It:=⟨λi _=>i<n,λi H x H'=>H'=H/\x=.int (lo+i),λi _=>n<=i⟩
theorem O5{P:Program}{K:ZBx}(a it:Addr):Turn P w K tg (om K a) [it] it (λi h=>h.IsListIter it a i) where
 mem:=by simp
 obj:=λi h st b f=>by
  have e:b=it:=by simpa using f
  subst e;obtain⟨o,e,c,d⟩:=st;exact⟨o,e,λv z=>by rw[d]at z;cases z⟩
 keep:=λi h h' st k=>st.at λo e=>k it (by simp) o e
 item:=by
  intro X m hw n A i Zq s Z H E I j st hg;subst m hw n;obtain⟨xs,x,g,hx⟩:=hg;obtain⟨A0,l,p,hz⟩:=I.list g;obtain⟨u,F,C⟩:=l.get hx;obtain⟨f0,y,G,t,r,q⟩:=j it (by simp);refine wpAny_pyNext_list_item st p.isList (x:=u) (by simpa using F) λh' ET B=>?_
  have L:Inv X Zq Z H { s with heap:=h' }:=I.turned (t':=s.toks) (λb o f e=>(B.2 b f).trans e) f0 y t r q
  obtain⟨o,e,c,d⟩:=id ET;exact⟨u,rfl,SE (s:={ s with heap:=h' }) e c d (by decide) ⟨x,H,L,C,⟨rfl,λys D=>by rw[I.aw D g];exact hx⟩,ET,λb f=>(j b f).1⟩⟩
 done:=by
  intro X m hw n A i Zq s Z H E I j st hg;subst m hw n;obtain⟨xs,g,hx⟩:=hg;obtain⟨A0,l,p,hz⟩:=I.list g;obtain⟨f0,y,G,t,r,q⟩:=j it (by simp);have M:=l.length;exact wpAny_pyNext_list_end (I.ok.hd A) st p.isList (by simp;omega) λh' J=>⟨rfl,I.turned (t':=s.toks) (λb o f e=>J b o f e) f0 y t r q⟩
 self:=λ_ _ _ _ _ st h=>wpAny_pyIter_listiter st h
theorem NS{P:Program}{K:ZBx}(a it:Addr):Turn P w K tg (jo K a) [it] it (λi h=>h.IsTupleIter it a i) where
 mem:=by simp
 obj:=λi h st b f=>by
  have e:b=it:=by simpa using f
  subst e;obtain⟨o,e,c,d⟩:=st;exact⟨o,e,λv z=>by rw[d]at z;cases z⟩
 keep:=λi h h' st k=>st.at λo e=>k it (by simp) o e
 item:=by
  intro X m hw n A i Zq s Z H E I j st hg;subst m hw n;obtain⟨xs,x,g,hx⟩:=hg;obtain⟨A0,l,p,hz⟩:=I.tuple g;obtain⟨u,F,C⟩:=l.get hx;obtain⟨f0,y,G,t,r,q⟩:=j it (by simp);refine wpAny_pyNext_tuple_item st (show s.heap.IsTuple a A0.toArray from p) (x:=u) (by simpa using F) λh' ET B=>?_
  have L:Inv X Zq Z H { s with heap:=h' }:=I.turned (t':=s.toks) (λb o f e=>(B.2 b f).trans e) f0 y t r q
  obtain⟨o,e,c,d⟩:=id ET;exact⟨u,rfl,SE (s:={ s with heap:=h' }) e c d (by decide) ⟨x,H,L,C,⟨rfl,λys D=>by rw[I.Mq D g];exact hx⟩,ET,λb f=>(j b f).1⟩⟩
 done:=by
  intro X m hw n A i Zq s Z H E I j st hg;subst m hw n;obtain⟨xs,g,hx⟩:=hg;obtain⟨A0,l,p,hz⟩:=I.tuple g;obtain⟨f0,y,G,t,r,q⟩:=j it (by simp);have M:=l.length;exact wpAny_pyNext_tuple_end (I.ok.hd A) st (show s.heap.IsTuple a A0.toArray from p) (by simp;omega) λh' J=>⟨rfl,I.turned (t':=s.toks) (λb o f e=>J b o f e) f0 y t r q⟩
 self:=λ_ _ _ _ _ st h=>wpAny_pyIter_tupleiter st h
theorem oW{P:Program}{K:ZBx}(it:Addr)(lo:Int)(n:Nat):Turn P w K tg (Lc lo n) [it] it (λi h=>IsRangeIter h it (lo+(i:Nat) * 1) ((n:Int) - (i:Nat)) 1) where
 mem:=by simp
 obj:=λi h st b a=>by
  have e:b=it:=by simpa using a
  subst e;exact⟨_,st,λv z=>by
   have q:Data.fields _=Data.cell v:=z;cases q⟩
 keep:=λi h h' st k=>k it (by simp) _ st
 item:=by
  intro X f hw g d i Zq s Z H E I c st hg;subst f hw g;obtain⟨f0,p,u,m,l,j⟩:=c it (by simp);have W:=Walks.range (prog:=X.prog) (w:=X.w) (I.ok.hd d) it lo 1 n;refine W.item i s _ _ hg st λv h' tk r ET kk=>?_;obtain⟨t,rfl⟩:=r;have y:Inv X Zq Z H { s with heap:=h',toks:=tk }:=I.turned (λb o a e=>kk b o (by simpa using a) e) f0 p m l j
  refine⟨_,rfl,SE (s:={ s with heap:=h',toks:=tk }) (n:="range_iterator") ET rfl rfl (by decide) ⟨.int (lo+i),H,y,⟨t,?_⟩,⟨rfl,rfl⟩,ET,λb a=>(c b a).1⟩⟩
  rw[Int.mul_one]
 done:=by
  intro X f hw g d i Zq s Z H E I c st hg;subst f hw g;obtain⟨f0,p,u,m,l,j⟩:=c it (by simp);exact wpAny_pyNext_range_end (I.ok.hd d) st (by have:n<=i:=hg;omega) λh' x=>⟨rfl,I.turned (t':=s.toks) (λb o a e=>x b o a e) f0 p m l j⟩
 self:=λ_ _ _ _ _ st h=>wpAny_pyIter_rangeiter st h
theorem nU{R:It->Hp->Prop}{lo hi:Int}{t u v:Tok}(I:Inv X Zq Z H s)(h1:-(2 ^ 62)<=lo)(h2:lo<2 ^ 62)(f:-(2 ^ 62)<=hi)(d:hi<2 ^ 62)
  (q:R (Lc lo (hi - lo).toNat) H):wpAny (model X.prog X.w) X.A (pyIter (.ref s.heap.objs.size)) (Xx X Zq Z tg R) E { s with heap:=s.heap.push { cls:=.type "range", data:=.fields #[.int lo t,.int hi u,.int 1 v] },toks:=tk }:=by
 refine wpAny_pyIter_range (IsRange.new ..) (small_one h1 h2 f d) ?_;have a:Inv X Zq Z H { s with heap:=s.heap.push { cls:=.type "range", data:=.fields #[.int lo t,.int hi u,.int 1 v] },toks:=tk }:=I.kept λb o e=>Ay _ e
 refine⟨(s.heap.push { cls:=.type "range", data:=.fields #[.int lo t,.int hi u,.int 1 v] }).objs.size,[(s.heap.push { cls:=.type "range", data:=.fields #[.int lo t,.int hi u,.int 1 v] }).objs.size],_,_,H,rfl,
  a.kept (t':=tk) λb o e=>Ay _ e,oW _ lo (hi - lo).toNat,?_,λb c=>?_,q⟩
 .have e1:lo+((0:Nat):Int) * 1=lo:=by simp
  have g:(((hi - lo).toNat:Nat):Int) - ((0:Nat):Int)=Builtin.Range.rangeSize lo hi 1:=by rw[rangeSize_one];split <;> omega
  show IsRangeIter _ _ (lo+((0:Nat):Int) * 1) ((((hi - lo).toNat:Nat):Int) - ((0:Nat):Int)) 1;rw[e1,g];exact BP _ rfl
 .have e:b=(s.heap.push { cls:=.type "range", data:=.fields #[.int lo t,.int hi u,.int 1 v] }).objs.size:=by simpa using c
  subst e;exact a.N2 (Aa _) (a.AE.fresh (Aa _))
def RC(ta:TA):TI:=λZ H R=>ta Z H λvs H1=>∃j:Int,vs=[.int j]/\-(2 ^ 62)<=j/\j<2 ^ 62/\R (Lc 0 j.toNat) H1
def OO(wi:TI)(g:TG)(tb:TS):TS:=λD Z H=>wi Z H λJ H1=>∃W:Nat->Nat->St->Hp->Prop,(∃m,W 0 m Z H1)/\∀i m Z H,W i m Z H->
 (J.stop i H/\D.nx Z H)∨(J.go i H/\∃N:St->Hp->Prop,(∀ σ' H',N σ' H'->∃a,a < m/\W (i+1) a σ' H')/\∀x H',J.Dc i H x H'->g x Z H' λσ2 H2=>tb { D with nx:=N,ct:=N,bk:=D.nx } σ2 H2)
noncomputable def O0(fp:List Addr)(h:Heap):ZBy:=fp.filterMap λb=>(h.get? b).map λo=>(b,o)
theorem ON{h:Heap}{o:Obj}(a:b∈fp)(e:h.get? b=some o):(b,o)∈O0 fp h:=List.mem_filterMap.mpr ⟨b,a,by rw[e];rfl⟩
theorem iW{h:Heap}{p:Addr×Obj}(a:p∈O0 fp h):p.1∈fp/\h.get? p.1=some p.2:=by
 obtain⟨b,c,e⟩:=List.mem_filterMap.mp a;cases q:h.get? b with
 |none=>rw[q]at e;cases e
 |some o=>
  rw[q]at e;have d:(b,o)=p:=B3 e;subst d;exact⟨c,q⟩
theorem Inv.pinned(I:Inv X Zq Z H s)(g:∀b∈fp,EI X Zq H b)(ho:∀b∈fp,∃o,s.heap.get? b=some o/\∀v,o.data≠.cell v):Inv X (Zq++O0 fp s.heap) Z H s:=
 I.fm λp f=>(List.mem_append.mp f).elim (λz=>I.pin p (Bk _ z)) λz=>by
  obtain⟨a,e⟩:=iW z;obtain⟨f0,i,h,_⟩:=g p.1 a;obtain⟨o,c,d⟩:=ho p.1 a;rw[e]at c;cases c;exact⟨e,f0,i,h,d⟩
theorem Inv.N0{pl:ZBy}(I:Inv X (Zq++pl) Z H s):Inv X Zq Z H s:=I.fm λp a=>I.pin p (Bk _ (DA _ a))
theorem vK{lo:Int}{g:TG}{tb:TS}{D:Ends}(Pv:Nat->St->Hp->Prop)(f:Pv 0 Z H)
  (d:∀i Z H,i<n->Pv i Z H->g (.int (lo+i)) Z H λσ2 H2=>tb { D with nx:=Pv (i+1),ct:=Pv (i+1),bk:=D.nx } σ2 H2) (hd:∀ Z H,Pv n Z H->D.nx Z H) :
  ∃W:Nat->Nat->St->Hp->Prop,(∃m,W 0 m Z H)/\∀i m Z H,W i m Z H->
   ((Lc lo n).stop i H/\D.nx Z H)∨((Lc lo n).go i H/\∃N:St->Hp->Prop,(∀ σ' H',N σ' H'->∃b,b < m/\W (i+1) b σ' H')/\∀x H',(Lc lo n).Dc i H x H'->g x Z H' λσ2 H2=>tb { D with nx:=N,ct:=N,bk:=D.nx } σ2 H2):=by
 refine⟨λi m Z H=>m=n - i/\i<=n/\Pv i Z H,⟨n,by simp,Bo _,f⟩,?_⟩;rintro i m Z H⟨rfl,hi,p⟩
 by_cases a:i<n
 .refine .inr ⟨a,Pv (i+1),λσ' H' c=>⟨n - (i+1),by omega,rfl,a,c⟩,λx H' y=>?_⟩;obtain⟨e,y⟩:=y;subst e y;exact d i Z _ a p
 .have e:i=n:=by omega
  subst e;exact .inl ⟨Aa _,hd Z H p⟩
abbrev R2:=V->V->Hp->VK->Prop
def Aw(X:Cx)(f:Value->Value->Sem Value)(r:R2):Prop:=
 ∀(Zq:ZBy)(s:Shared)(Z:St)(H:Hp)(x y:V)(v u:Value)(Q:VK),Inv X Zq Z H s->RelV x v->RelV y u->r x y H Q->
  wpAny (model X.prog X.w) X.A (f v u) (EP X Zq Z Q) X.xe s
def RL(X:Cx)(f:Value->Sem Value)(r:V->Hp->VK->Prop):Prop:=
 ∀(Zq:ZBy)(s:Shared)(Z:St)(H:Hp)(x:V)(v:Value)(Q:VK),Inv X Zq Z H s->RelV x v->r x H Q->
  wpAny (model X.prog X.w) X.A (f v) (EP X Zq Z Q) X.xe s
def Br(X:Cx)(f:Value)(r:List V->Hp->VK->Prop):Prop:=
 ∀(Zq:ZBy)(s:Shared)(Z:St)(H:Hp)(xs:List V)(us:List Value)(Q:VK),Inv X Zq Z H s->Vals xs us->r xs H Q->
  wpAny (model X.prog X.w) X.A (call f us) (EP X Zq Z Q) X.xe s
def B8(r:R2)(ta tb:TE):TE:=λZ H Q=>ta Z H λx H1=>tb Z H1 λy H2=>r x y H2 Q
def OX(r:V->Hp->VK->Prop)(ta:TE):TE:=λZ H Q=>ta Z H λx H1=>r x H1 Q
def rI(C:Int->Int->Prop)(g:Int->Int->V):R2:=λx y H Q=>∃i j,x=.int i/\y=.int j/\C i j/\Q (g i j) H
def Fn(g:Int->Int->V):R2:=λx y H Q=>∃i j,x=.int i/\y=.int j/\Q (g i j) H
def rU(g:Int->V):V->Hp->VK->Prop:=λx H Q=>∃i,x=.int i/\Q (g i) H
section
variable{a b c:Expr}
theorem WZ(m:PE X a ta)(l:PE X b tb){R:V->V->Hp->Prop}(I:Inv X Zq Z H s)
  (h:ta Z H λx H1=>tb Z H1 λy H2=>R x y H2)
  (k:∀v u s2 x y H2,Inv X Zq Z H2 s2->RelV x v->RelV y u->R x y H2->wpAny (model X.prog X.w) X.A (f v u) Q X.xe s2) :
  wpAny (model X.prog X.w) X.A (eval a X.env) (λv s₁=>wpAny (model X.prog X.w) X.A (eval b X.env) (λu d=>wpAny (model X.prog X.w) X.A (f v u) Q X.xe d) X.xe s₁) X.xe s:=by
 refine Ao (m Zq s Z H _ I h) λv s1 Tn=>?_;obtain⟨x,H1,I1,g,j⟩:=Tn;refine Ao (l Zq s1 Z H1 _ I1 j) λu s2 c=>?_;obtain⟨y,H2,I2,e,i⟩:=c;exact k v u s2 x y H2 I2 g e i
theorem Pw{C:Int->Int->Prop}{g:Int->Int->Int}
  (rule:∀(i j:Int)(t u:Tok)(s:Shared)(Q:Value->Shared->Prop)(E:Value->Shared->Prop),C i j->Q (.int (g i j) s.toks) { s with toks:=s.toks+1 }->wpAny (model X.prog X.w) X.A (f (.int i t) (.int j u)) Q E s) :
  Aw X f (rI C λi j=>.int (g i j)):=by
 intro Zq s Z H x y v u Q I b a h;obtain⟨i,j,rfl,rfl,c,q⟩:=h;obtain⟨t,rfl⟩:=b;obtain⟨t',rfl⟩:=a;exact rule i j t t' s _ _ c ⟨.int (g i j),H,I.tok _,⟨_,rfl⟩,q⟩
theorem bq{g:Int->Int->Int}
  (rule:∀(i j:Int)(t u:Tok)(s:Shared)(Q:Value->Shared->Prop)(E:Value->Shared->Prop),Q (.int (g i j) s.toks) { s with toks:=s.toks+1 }->wpAny (model X.prog X.w) X.A (f (.int i t) (.int j u)) Q E s) :
  Aw X f (Fn λi j=>.int (g i j)):=by
 intro Zq s Z H x y v u Q I b a h;obtain⟨i,j,rfl,rfl,q⟩:=h;obtain⟨t,rfl⟩:=b;obtain⟨t',rfl⟩:=a;exact rule i j t t' s _ _ ⟨.int (g i j),H,I.tok _,⟨_,rfl⟩,q⟩
theorem R7{g:Int->Int->Bool}
  (rule:∀(i j:Int)(t u:Tok)(s:Shared)(Q:Value->Shared->Prop)(E:Value->Shared->Prop),Q (.bool (g i j)) s->wpAny (model X.prog X.w) X.A (f (.int i t) (.int j u)) Q E s) :
  Aw X f (Fn λi j=>.bl (g i j)):=by
 intro Zq s Z H x y v u Q I b a h;obtain⟨i,j,rfl,rfl,q⟩:=h;obtain⟨t,rfl⟩:=b;obtain⟨t',rfl⟩:=a;exact rule i j t t' s _ _ ⟨.bl (g i j),H,I,rfl,q⟩
def jZ(i j:Int):Prop:=0<=j/\j<=1000000/\i.natAbs<2 ^ 64
theorem Gq:Aw X (binaryOp .Add) (Fn λi j=>.int (i+j)):=bq λ_ _ _ _ _ _ _ q=>add_int q
theorem Qc:Aw X (binaryOp .Sub) (Fn λi j=>.int (i - j)):=bq λ_ _ _ _ _ _ _ q=>sub_int q
theorem Ij:Aw X (binaryOp .Mod) (rI (λ_ j=>0<j) λi j=>.int (i % j)):=Pw λi j _ _ _ _ _ a q=>by
 have h1:(0:Int)<j:=a;exact mod_int' (by omega) (by rw[Int.fmod_eq_emod_of_nonneg i (by omega)];exact q)
theorem LV:Aw X (binaryOp .Pow) (rI jZ λi j=>.int (i ^ j.toNat)):=Pw λ_ _ _ _ _ _ _ a q=>pow_int_small a.1 a.2.1 a.2.2 q
theorem ye{f:Value->Sem Value}{g:Int->Int}
  (rule:∀(i:Int)(t:Tok)(s:Shared)(Q:Value->Shared->Prop)(E:Value->Shared->Prop),Q (.int (g i) s.toks) { s with toks:=s.toks+1 }->wpAny (model X.prog X.w) X.A (f (.int i t)) Q E s) :
  RL X f (rU λi=>.int (g i)):=by
 intro Zq s Z H x v Q I a h;obtain⟨i,rfl,q⟩:=h;obtain⟨t,rfl⟩:=a;exact rule i t s _ _ ⟨.int (g i),H,I.tok _,⟨_,rfl⟩,q⟩
theorem bS:RL X (unaryOp .USub) (rU λi=>.int (-i)):=ye λ_ _ _ _ _ q=>neg_int q
end
noncomputable def Sj:V->V->Bool
 | .A6,.A6=>true | .A6,.int _=>true | .int _,.A6=>true | .A6,.bl _=>true | .bl _,.A6=>true | .A6,.str _=>true | .str _,.A6=>true
 | .int _,.int _=>true | .bl _,.bl _=>true | .str _,.str _=>true | .GK _,.GK _=>true
 | .int _,.str _=>true | .str _,.int _=>true | .bl _,.str _=>true | .str _,.bl _=>true
 |_,_=>false
def YZ:R2:=λx y H Q=>Sj x y=true/\Q (.bl (decide (x=y))) H
def YC:R2:=λx y H Q=>Sj x y=true/\Q (.bl (!decide (x=y))) H
theorem aC{i j:Int}:decide (V.int i=V.int j)=(i == j):=by
 rw[HQ];simp
theorem fR{i j:Bool}:decide (V.bl i=V.bl j)=(i == j):=by
 rw[HQ];simp
theorem Z8{i j:Str}:decide (V.str i=V.str j)=(i == j):=by
 rw[HQ];simp
theorem aM{i j:Array UInt8}:decide (V.GK i=V.GK j)=(i.toList == j.toList):=by
 rw[HQ];cases i;cases j;simp
section
variable{a b c:Expr}
theorem Bm{Q:VK}{k k':Bool}(I:Inv X Zq Z H s)(q:Q (.bl k) H)(e:k=k'):EP X Zq Z Q (.bool k') s:=by
 subst e;exact⟨.bl k,H,I,rfl,q⟩
theorem Hg:Aw X (compareOp .Eq) YZ:=by
 intro Zq s Z H x y v u Q I c a h;obtain⟨b,q⟩:=h;cases x with
 |A6=>
  cases c;cases y with
  |A6=>cases a;exact PySem.EqNone.eq_none_none (Bm I q (by simp))
  |bl j=>cases a;exact PySem.EqNone.eq_none_bool (Bm I q (by simp))
  |int j=>obtain⟨t',rfl⟩:=a;exact PySem.EqNone.eq_none_int (Bm I q (by simp))
  |str j=>obtain⟨t',rfl⟩:=a;exact PySem.EqNone.eq_none_str (Bm I q (by simp))
  |_=>exact absurd (show false=true from b) D1
 |bl i=>
  cases c;cases y with
  |A6=>cases a;exact PySem.EqNone.eq_bool_none (Bm I q (by simp))
  |bl j=>cases a;exact eq_bool (Bm I q fR)
  |str j=>obtain⟨t',rfl⟩:=a;exact PySem.EqMixed.eq_bool_str (Bm I q (by simp))
  |_=>exact absurd (show false=true from b) D1
 |int i=>
  obtain⟨t,rfl⟩:=c;cases y with
  |A6=>cases a;exact PySem.EqNone.eq_int_none (Bm I q (by simp))
  |int j=>obtain⟨t',rfl⟩:=a;exact eq_int (Bm I q aC)
  |str j=>obtain⟨t',rfl⟩:=a;exact PySem.EqMixed.eq_int_str (Bm I q (by simp))
  |_=>exact absurd (show false=true from b) D1
 |str i=>
  obtain⟨t,rfl⟩:=c;cases y with
  |A6=>cases a;exact PySem.EqNone.eq_str_none (Bm I q (by simp))
  |bl j=>cases a;exact PySem.EqMixed.eq_str_bool (Bm I q (by simp))
  |int j=>obtain⟨t',rfl⟩:=a;exact PySem.EqMixed.eq_str_int (Bm I q (by simp))
  |str j=>obtain⟨t',rfl⟩:=a;exact eq_str (Bm I q Z8)
  |_=>exact absurd (show false=true from b) D1
 |GK i=>
  obtain⟨t,rfl⟩:=c;cases y with
  |GK j=>obtain⟨t',rfl⟩:=a;exact PySem.W.eq_bytes (Bm I q aM)
  |_=>exact absurd (show false=true from b) D1
 |_=>cases y <;> exact absurd (show false=true from b) D1
theorem Mz:Aw X (compareOp .NotEq) YC:=by
 intro Zq s Z H x y v u Q I c a h;obtain⟨b,q⟩:=h;cases x with
 |A6=>
  cases c;cases y with
  |A6=>cases a;exact PySem.EqNone.ne_none_none (Bm I q (by simp))
  |bl j=>cases a;exact PySem.EqNone.ne_none_bool (Bm I q (by simp))
  |int j=>obtain⟨t',rfl⟩:=a;exact PySem.EqNone.ne_none_int (Bm I q (by simp))
  |str j=>obtain⟨t',rfl⟩:=a;exact PySem.EqNone.ne_none_str (Bm I q (by simp))
  |_=>exact absurd (show false=true from b) D1
 |bl i=>
  cases c;cases y with
  |A6=>cases a;exact PySem.EqNone.ne_bool_none (Bm I q (by simp))
  |bl j=>cases a;exact ne_bool (Bm I q (ib not fR))
  |str j=>obtain⟨t',rfl⟩:=a;exact PySem.EqMixed.ne_bool_str (Bm I q (by simp))
  |_=>exact absurd (show false=true from b) D1
 |int i=>
  obtain⟨t,rfl⟩:=c;cases y with
  |A6=>cases a;exact PySem.EqNone.ne_int_none (Bm I q (by simp))
  |int j=>obtain⟨t',rfl⟩:=a;exact ne_int (Bm I q (ib not aC))
  |str j=>obtain⟨t',rfl⟩:=a;exact PySem.EqMixed.ne_int_str (Bm I q (by simp))
  |_=>exact absurd (show false=true from b) D1
 |str i=>
  obtain⟨t,rfl⟩:=c;cases y with
  |A6=>cases a;exact PySem.EqNone.ne_str_none (Bm I q (by simp))
  |bl j=>cases a;exact PySem.EqMixed.ne_str_bool (Bm I q (by simp))
  |int j=>obtain⟨t',rfl⟩:=a;exact PySem.EqMixed.ne_str_int (Bm I q (by simp))
  |str j=>obtain⟨t',rfl⟩:=a;exact ne_str (Bm I q (ib not Z8))
  |_=>exact absurd (show false=true from b) D1
 |GK i=>
  obtain⟨t,rfl⟩:=c;cases y with
  |GK j=>obtain⟨t',rfl⟩:=a;exact PySem.W.ne_bytes (Bm I q (ib not aM))
  |_=>exact absurd (show false=true from b) D1
 |_=>cases y <;> exact absurd (show false=true from b) D1
theorem Nu:Aw X (compareOp .Lt) (Fn λi j=>.bl (decide (i<j))):=R7 λ_ _ _ _ _ _ _ q=>lt_int q
theorem Q5:Aw X (compareOp .LtE) (Fn λi j=>.bl (decide (i<=j))):=R7 λ_ _ _ _ _ _ _ q=>le_int q
theorem MW:Aw X (compareOp .Gt) (Fn λi j=>.bl (decide (j<i))):=R7 λ_ _ _ _ _ _ _ q=>gt_int q
theorem eG:Aw X (compareOp .GtE) (Fn λi j=>.bl (decide (j<=i))):=R7 λ_ _ _ _ _ _ _ q=>ge_int q
theorem zR:Aw X (compareOp .Is) (λx y H Q=>y=.A6/\Q (.bl (decide (x=.A6))) H):=by
 intro Zq s Z H x y v u Q I a b h;obtain⟨rfl,q⟩:=h;cases b;refine is_none_gen (Bm I q ?_);cases x <;> first
  | (cases a;rfl)
  | (obtain⟨t,rfl⟩:=a;rfl)
theorem tX:Aw X (compareOp .IsNot) (λx y H Q=>y=.A6/\Q (.bl (!decide (x=.A6))) H):=by
 intro Zq s Z H x y v u Q I a b h;obtain⟨rfl,q⟩:=h;cases b;refine isnot_none_gen (Bm I q ?_);cases x <;> first
  | (cases a;rfl)
  | (obtain⟨t,rfl⟩:=a;rfl)
theorem br(b:Expr)(h:op≠.In:=by decide)(h2:op≠.NotIn:=by decide):behindInMarks op b=false:=by
 have e1:(op == CmpOp.In)=false:=by cases op <;> first|rfl|exact absurd rfl h
 have a:(op == CmpOp.NotIn)=false:=by cases op <;> first|rfl|exact absurd rfl h2
 cases b <;> simp[behindInMarks,e1,a]
def KC(t:TE):TT:=λZ H Q=>t Z H λx H'=>∃k,x=.bl k/\Q k H'
theorem xV{r:R2}(ho:Aw X (compareOp op) r)(o:PE X a ta)(n:PE X b tb)(m:behindInMarks op b=false):PT X (.Compare a [op] [b] pos) (KC (B8 r ta tb)):=by
 intro Zq s Z H Q I h;refine wpAny_isTrue_Compare1 (o.k I h λv s1 x H1 I1 g l=>n.k I1 l λu s2 y H2 I2 f j=>
  Ao (ho Zq s2 Z H2 x y v u _ I2 g f j) λc p⟨z,H3,I3,d,k,e,i⟩=>?_) m
 subst e;cases d;exact oe ⟨H3,I3,i⟩
def NG(r b:R2)(ta tb tc:TE):TE:=λZ H Q=>ta Z H λx H1=>tb Z H1 λy H2=>r x y H2 λz H3=>∃k,z=.bl k/\
 (if k=true then tc Z H3 λa H4=>b y a H4 Q else Q (.bl false) H3)
theorem KL:(sizeLine:Nat)<2 ^ 63:=by rw[vW];decide
theorem bx:Aw X (binaryOp .Add) (λx y H Q=>∃i j,x=.str i/\y=.str j/\i.length+j.length<=sizeLine/\Q (.str (i++j)) H):=by
 intro Zq s Z H x y v u Q I b a h;obtain⟨i,j,rfl,rfl,hz,q⟩:=h;obtain⟨t,rfl⟩:=b;obtain⟨t',rfl⟩:=a;exact add_str (λt' tk=>⟨.str (i++j),H,I.tok _,⟨_,rfl⟩,q⟩) hz
theorem vals1{x:V}(r:Vals [x] us):∃u,us=[u]/\RelV x u:=by
 cases r with
 |cons b a=>cases a;exact⟨_,rfl,b⟩
theorem vals2{x y:V}(r:Vals [x,y] us):∃u a,us=[u,a]/\RelV x u/\RelV y a:=by
 cases r with
 |cons e d=>
  cases d with
  |cons c b=>cases b;exact⟨_,_,rfl,e,c⟩
theorem wy(b:X.calm=true):Br X (.builtin "max") (λxs H Q=>∃i j,xs=[.int i,.int j]/\Q (.int (if j > i then j else i)) H):=by
 intro Zq s Z H xs us Q I r h;obtain⟨i,j,rfl,q⟩:=h;obtain⟨u,c,rfl,⟨t,rfl⟩,⟨t',rfl⟩⟩:=vals2 r;refine max_two_ints (I.ok.hd b) λh' tk k=>⟨_,H,I.kept k,?_,q⟩
 by_cases a:j > i
 .rw[i5 a,i5 a];exact⟨_,rfl⟩
 .rw[i3 a,i3 a];exact⟨_,rfl⟩
theorem m7(b:X.calm=true):Br X (.builtin "min") (λxs H Q=>∃i j,xs=[.int i,.int j]/\Q (.int (if j<i then j else i)) H):=by
 intro Zq s Z H xs us Q I r h;obtain⟨i,j,rfl,q⟩:=h;obtain⟨u,c,rfl,⟨t,rfl⟩,⟨t',rfl⟩⟩:=vals2 r;refine min_two_ints (I.ok.hd b) λh' tk k=>⟨_,H,I.kept k,?_,q⟩
 by_cases a:j<i
 .rw[i5 a,i5 a];exact⟨_,rfl⟩
 .rw[i3 a,i3 a];exact⟨_,rfl⟩
end
structure UI (h:Heap) (x dx C:Addr) (mA:ZBz):Prop where
 obj:h.get? x=some (PySem.W.instObj C dx)
 ns:h.Ns1 dx mA
 ne:dx≠x
theorem se{h:Heap}(n:h.Ns1 dx mA):∃b,h.get? dx=some b/\∀name,PySem.W.lookIn name b=some (mA name):=by
 obtain⟨o,es,ep,ho,hd,hk,_,d⟩:=n;refine⟨o,ho,λname=>?_⟩;have e:=d name;unfold nsFind findBy at e;rw[<- Array.find?_toList]at e;unfold PySem.W.lookIn;rw[hd];dsimp only;split
 .rename_i y q;rw[q]at e;exact ib some e
 .rename_i q;rw[q]at e;have a:es.toList.any (·.refKey)=false:=by
   rw[List.any_eq_false];intro y c;obtain⟨z,t,KU⟩:=hk y (Array.mem_toList_iff.mp c);simp[DictEntry.refKey,KU]
  have f:¬ es.toList.any (·.refKey)=true:=by rw[a];exact D1
  rw[i3 f];exact ib some e
theorem UI.look{h:Heap}{x:Addr}(I:UI h x dx C mA):∃a,PySem.W.InstAt h x (PySem.W.instObj C dx) C (some a)/\∀name,PySem.W.lookIn name a=some (mA name):=
 let ⟨a,ho,hl⟩:=se I.ns
 ⟨a,⟨I.obj,rfl,rfl,ho⟩,hl⟩
theorem GR.some_of{o:Option Value}(r:GR (some v) o):∃u,o=some u/\RelV v u:=by
 cases o with
 |none=>exact(show False from r).elim
 |some u=>exact⟨u,rfl,r⟩
section
variable{P:Program}{h:Heap}{fs j5:List (Str×V)}
theorem jL(AE:Bx P w H h)(e:H a=some (.ins C dx fs)):∃mA,UI h a dx C mA/\(∀f,GR (fs.lookup f) (mA f))/\PySem.Within mA (fs.map (·.1))/\fs.length<=1000/\H dx=some (.own a):=by
 obtain⟨d,z,ne,b,mA,n,r,q⟩:=(show Bl P w H h a (.ins C dx fs)from AE a _ e);exact⟨mA,⟨b,n,ne⟩,r,q,z,d⟩
end
structure WT (K:ZBx) (C:Addr):Prop where
 pg:PySem.W.plainGet K C Str.empty=true
 hd:PySem.W.hasDictIn K C=true
 po:PySem.W.plainOver K C=true
 sa:PySem.W.findIn K (.ref C) "__setattr__"=some (some (.builtin "object.__setattr__"))
theorem WT.get{K:ZBx}{C:Addr}(c:WT K C)(f:Str):PySem.W.plainGet K C f=true:=c.pg
section
variable{fs:List (Str×V)}{f:Str}
variable{o value:Expr}{pos' UA:Pos}{tv:TE}
variable{b:Bool}
inductive Ef (K:ZBx) (H:Hp):V->Value->Prop where
 |A6:Ef K H .A6 (.type "NoneType")
 |bl (x:Bool):Ef K H (.bl x) (.type "bool")
 |int (i:Int):Ef K H (.int i) (.type "int")
 |str (x:Str):Ef K H (.str x) (.type "str")
 |Lk (x:UInt64):Ef K H (.Lk x) (.type "float")
 |lst {a:Addr}{xs:List V}(e:H a=some (.lst xs)):Ef K H (.ref a) (.type "list")
 |En {a:Addr}{o:Obj}{xs:List V}(e:H a=some (.En o (.lst xs))):Ef K H (.ref a) (.type "list")
 |tup {a:Addr}{xs:List V}(e:H a=some (.tup xs)):Ef K H (.ref a) (.type "tuple")
 |dK {a:Addr}{A9:List (Key×V)}(e:H a=some (.dK A9)):Ef K H (.ref a) (.type "dict")
 |dT {a:Addr}{A9:List (List Key×V)}(e:H a=some (.dT A9)):Ef K H (.ref a) (.type "dict")
 |ins {a C dx:Addr}{fs:List (Str×V)}(e:H a=some (.ins C dx fs)) (cl:WT K C) (ha:PySem.W.findIn K (.ref C) "__class__"=some (some (.builtin "object.__class__")))
   (hn:PySem.W.specialIn K (.builtin "object.__class__") "__get__"=some (some (.builtin "getset_descriptor.__get__"))) (Es:PySem.W.takesIn K (.builtin "object.__class__")=some true)
   (hm:PySem.W.mroIn K C (.type "object")=some true):Ef K H (.ref a) (.ref C)
theorem uT{x:V}{t:Value}(I:Inv X Zq Z H s)(d:RelV x u)(ty:Ef X.K H x t)(e:PySem.W.kitOne X.K t c=some b)(h:∀tk,Q (.bool b) { s with toks:=tk }):
  wpAny (model X.prog X.w) A (call (.builtin "isinstance") [u,c]) Q E s:=by
 cases ty with
 |A6=>cases(show u=Value.none from d);exact HX PySem.W.kitx_none I.E6 True.intro e (λz=>nomatch z) h
 |bl y=>cases(show u=Value.bool y from d);exact HX PySem.W.kitx_bool I.E6 True.intro e (λz=>nomatch z) h
 |int i=>obtain⟨t,q⟩:=(show ∃t,u=Value.int i t from d);cases q;exact HX PySem.W.kitx_int I.E6 True.intro e (λz=>nomatch z) h
 |str y=>obtain⟨t,q⟩:=(show ∃t,u=Value.str y t from d);cases q;exact HX PySem.W.kitx_str I.E6 True.intro e (λz=>nomatch z) h
 |Lk y=>obtain⟨t,q⟩:=(show ∃t,u=Value.float y t from d);cases q;exact HX PySem.W.kitx_float I.E6 True.intro e (λz=>nomatch z) h
 |@lst a xs ea=>
  cases(show u=Value.ref a from d);obtain⟨_,_,n,_,h1⟩:=(show Bl X.prog X.w H s.heap a (.lst xs)from I.AE a _ ea);exact HX ZB2 I.E6 ⟨_,h1,rfl⟩ e (λz=>nomatch z) h
 |@En a f xs ea=>
  cases(show u=Value.ref a from d);obtain⟨_,_,_,n,_,h1⟩:=(show Bl X.prog X.w H s.heap a (.En f (.lst xs))from I.AE a _ ea);exact HX ZB2 I.E6 ⟨_,h1,rfl⟩ e (λz=>nomatch z) h
 |@tup a xs ea=>
  cases(show u=Value.ref a from d);obtain⟨_,_,_,p⟩:=(show Bl X.prog X.w H s.heap a (.tup xs)from I.AE a _ ea);obtain⟨o,h1,h2,_⟩:=p.1;exact HX PySem.W.kitx_tuple I.E6 ⟨o,h1,h2⟩ e (λz=>nomatch z) h
 |@dK a A9 ea=>
  cases(show u=Value.ref a from d);obtain⟨_,_,vs,_,p⟩:=(show Bl X.prog X.w H s.heap a (.dK A9)from I.AE a _ ea);obtain⟨o,es,ep,h1,h2,_⟩:=p;exact HX ZB1 I.E6 ⟨o,h1,h2.1⟩ e (λz=>nomatch z) h
 |@dT a A9 ea=>
  cases(show u=Value.ref a from d);obtain⟨_,_,xs,_,o,es,ep,h1,h2,_⟩:=(show Bl X.prog X.w H s.heap a (.dT A9)from I.AE a _ ea);exact HX ZB1 I.E6 ⟨o,h1,h2.1⟩ e (λz=>nomatch z) h
 |@ins a C dx fs ea cl k g Es j=>
  cases(show u=Value.ref a from d);obtain⟨mA,O,_⟩:=jL I.AE ea;obtain⟨l,J,_⟩:=O.look;exact HX (PySem.W.kitx_own (cl.get _) cl.hd k g Es j) I.E6 J e (λz=>nomatch z) h
end
structure BY (k:Nat) (A:Around):Prop where
 hd:A.handled=none
 dp:A.depth+3 * k+5<recursionLimit
 un:A.units+16 * k+200<cLine
theorem BY.mono{k:Nat}(r:BY k A)(h:j<=k):BY j A:=⟨r.hd,by have:=r.dp;omega,by have:=r.un;omega⟩
theorem BY.deeper{k:Nat}(r:BY (k+1) A)(env:Env):BY k (A.deeper env):=
 ⟨r.hd,by have:=r.dp;show A.depth+1+3 * k+5<_;omega,by have:=r.un;show A.units+3+16 * k+200<_;omega⟩
theorem BY.in1{k:Nat}(r:BY (k+1) A):BY k A.in1:=
 ⟨r.hd,by have:=r.dp;show A.depth+3 * k+5<_;omega,by have:=r.un;show A.units+1+16 * k+200<_;omega⟩
theorem BY.depth{k:Nat}(r:BY k A):A.depth<recursionLimit:=by have:=r.dp;omega
theorem BY.units{k:Nat}(r:BY k A):A.units+64<cLine:=by have:=r.un;omega
theorem BY.Hz{k:Nat}(r:BY k A):A.units<cLine:=by have:=r.un;omega
def BK:TA:=λ_ H Q=>Q [] H
def Ag(ta:TE)(tr:TA):TA:=λZ H Q=>ta Z H λx H1=>tr Z H1 λxs H2=>Q (x::xs) H2
theorem wZ(i:PE X e te)(g:PA X es t)(f:El X e es:=by rfl):PA X (e::es) (Ag te t):=by
 intro pos Zq s Z H Q I h;rw[f];show wpAny _ _ (spliced ((false,eval e X.env)::backTo pos (starEach es X.env))) _ _ s;refine Calls.spliced_cons (i.k I h λu s1 x H1 I1 b d=>?_);exact Ao (g pos Zq s1 Z H1 _ I1 d) λus s2 AN=>by obtain⟨xs,H2,I2,a,c⟩:=AN;exact⟨x::xs,H2,I2,.cons b a,c⟩
def Q7(t:TA):TE:=λZ H Q=>t Z H λxs H1=>xs.length<=sizeLine/\∀p,H1 p=none->Q (.ref p) (upd H1 p (.tup xs))
def Sa(t:TA):TE:=λZ H Q=>t Z H λxs H1=>xs.length<=sizeLine/\∀p,H1 p=none->Q (.ref p) (upd H1 p (.lst xs))
theorem jV{x1}(h:PA X es t):PE X (.Tuple es x1 pos) (Q7 t):=by
 intro Zq s Z H Q I c;refine wpAny_Tuple_spliced (h.k pos I c λus s1 xs H1 I1 r⟨z,q⟩=>⟨by rw[<- r.length];exact z,?_⟩);have d:H1 s1.heap.objs.size=none:=I1.AE.fresh (Aa _);refine⟨.ref s1.heap.objs.size,upd H1 s1.heap.objs.size (.tup xs),I1.laid (t':=s1.toks) (λb u e=>Ay _ e) (Aa _) ?_,rfl,q _ d⟩;exact⟨z,us,r,⟨_,BP _ rfl,rfl,_,rfl⟩,λUE a=>by rw[BP _ rfl]at a;cases a;rfl⟩
theorem zH(h:PA X es t):PE X (.List es pos) (Sa t):=by
 intro Zq s Z H Q I a;refine wpAny_List_spliced (h.k pos I a λus s1 xs H1 I1 r⟨z,q⟩=>⟨by rw[<- r.length];exact z,?_⟩);have c:H1 s1.heap.objs.size=none:=I1.AE.fresh (Aa _);refine⟨.ref s1.heap.objs.size,upd H1 s1.heap.objs.size (.lst xs),I1.laid (t':=s1.toks) (λb u e=>Ay _ e) (Aa _) ?_,rfl,q _ c⟩;exact⟨z,us,0,r,BP _ rfl⟩
abbrev Sp:=List V->Hp->VK->XK->Prop
abbrev G4:=List Env->Hp->Shared->XK->Value->Shared->Prop
variable{CX:G4}
structure Hx (P:Program) (w:World) (K:ZBx) (mg:ZBz) (ZB:Heap) (A:Around) (outer:List Env) (s:Shared) (H:Hp):Prop where
 frames:A.frames=some outer
 mod:Mod K mg ZB
 bs:∀b o,ZB.get? b=some o->s.heap.get? b=some o/\H b=none
 Gn:ZB.objs.size<=s.heap.objs.size
 FH:s.heap.FunFrames ZB outer
 JP:∀b∈GL outer,H b=none
 AE:Bx P w H s.heap
 bare:AllBare s.gens
def CE(outer:List Env)(P:Program)(w:World)(H:Hp)(s:Shared)(Q:VK)(u:Value)(s':Shared):Prop:=
 ∃v H',s'.os=s.os/\AllBare s'.gens/\Un (GL outer) [] H H' s.heap s'.heap/\Bx P w H' s'.heap/\RelV v u/\Q v H'
def CR(CX:G4)(outer:List Env)(P:Program)(w:World)(H:Hp)(s:Shared)(Q:VK)(E:XK)(r:Result)(s':Shared):Prop:=
 match r with
 | .ok (.ret u)=>CE outer P w H s Q u s'
 | .ok _=>False
 | .error e=>CX outer H s E e s'
structure E5 (P:Program) (w:World) (K:ZBx) (mg:ZBz) (ZB:Heap) (CX:G4) (k:Nat) (f:Addr) (fd:FuncData) (ps:List Str) (sp:Sp):Prop where
 len:∀vs H Q E,sp vs H Q E->vs.length=ps.length
 run:∀(A:Around)(outer:List Env)(s:Shared)(H:Hp)(args:Args)(us:List Value)(vs:List V)(Q:VK)(E:XK),BY k A->Hx P w K mg ZB A outer s H->BindsTo s fd args (ps.zip us)->Vals vs us->sp vs H Q E->
  codeAny (model P w) A (.call (.ref f) args) (CR CX outer P w H s Q E) s
theorem E5.mono{P:Program}{K:ZBx}{k:Nat}{f:Addr}{sp:Sp}(F:E5 P w K mg ZB CX j f fd ps sp)(h:j<=k):
  E5 P w K mg ZB CX k f fd ps sp:=⟨F.len,λA outer s H args us vs Q E a=>F.run A outer s H args us vs Q E (a.mono h)⟩
theorem Hx.in1{P:Program}{K:ZBx}(e:Hx P w K mg ZB A outer s H):
  Hx P w K mg ZB A.in1 outer s H:=⟨e.frames,e.mod,e.bs,e.Gn,e.FH,e.JP,e.AE,e.bare⟩
theorem Inv.Xh(I:Inv X Zq Z H s):Hx X.prog X.w X.K X.mg X.base X.A X.stack s H:=
 ⟨I.ok.frames,I.ok.mod,I.bs,CQ I.ok.Gn I.sz,I.stack,I.aA,I.AE,I.bare⟩
theorem Inv.after{Q:VK}(I:Inv X Zq Z H s)(h:CE X.stack X.prog X.w H s Q u s'):EP X Zq Z Q u s':=by
 obtain⟨v,H',os,bare,un,AE,r,q⟩:=h;obtain⟨hh,g,d,t,Ti⟩:=s';obtain rfl:Ti=s.os:=os;exact⟨v,H',I.call (h':=hh) (g':=g) (d':=d) (t':=t) (ch:=[]) un AE bare (λb z=>absurd z (by simp)),r,q⟩
def Dz(sp:Sp)(JQ:List V)(E:XK)(t:TA):TE:=λZ H Q=>t Z H λvs H1=>sp (vs++JQ) H1 Q E
def Binds(K:ZBx)(fd:FuncData)(ps:List Str)(ds:List Value):Prop:=
 ∀(s:Shared)(us:List Value),K.In s.heap->(us++ds).length=ps.length->BindsTo s fd ⟨us,[]⟩ (ps.zip (us++ds))
theorem Binds.all{K:ZBx}(h:∀us:List Value,us.length=ps.length->bindArgs fd ⟨us,[]⟩=pure (ps.zip us)):Binds K fd ps []:=λs us _ a=>by
 rw[GB]at a ⊢;exact .of_eq (h us a)
def Passes(CX:G4)(X:Cx)(E:XK):Prop:=∀(Zq:ZBy)(Z:St)(H:Hp)(s:Shared)(e:Value)(s':Shared),Inv X Zq Z H s->CX X.stack H s E e s'->X.xe e s'
section
variable{k:Nat}{f:Addr}{sp:Sp}{E:XK}{m:Str}{p apos:Pos}{o:Expr}
theorem wz{Q:VK}(F:E5 X.prog X.w X.K X.mg X.base CX k f fd ps sp)(c:BY k X.A)(g:Binds X.K fd ps ds)(hd:Vals JQ ds)(hx:Passes CX X E)
  (I:Inv X Zq Z H s) (r:Vals vs us) (h:sp (vs++JQ) H Q E):wpAny (model X.prog X.w) X.A (call (.ref f) us) (EP X Zq Z Q) X.xe s:=by
 have b:Vals (vs++JQ) (us++ds):=r.append hd;have d:(us++ds).length=ps.length:=by rw[<- b.length];exact F.len _ _ _ _ h
 refine wpAny_call (xx (F.run X.A X.stack s H ⟨us,[]⟩ (us++ds) (vs++JQ) Q E c I.Xh (g s us I.E6 d) b h) λr s' a=>?_);cases r with
 |error e=>exact hx Zq Z H s e s' I a
 |ok i=>
  cases i with
  |ret u=>exact I.after a
  |next=>exact False.elim a
  |brk=>exact False.elim a
  |cont=>exact False.elim a
theorem hX(F:E5 X.prog X.w X.K X.mg X.base CX k f fd ps sp)(a:BY k X.A)(hg:Gl X x)(b:X.mg x=some (.ref f))(hk:PySem.W.keepIn X.K (.ref f)=true)(c:Binds X.K fd ps ds)(hd:Vals JQ ds)(hx:Passes CX X E)
  (d:PA X (e::es) t) (DS:(x == ("__debug__":Str))=false:=by decide) (he:El X e es:=by rfl) (BI:BEq X pos es:=by rfl) :
  PE X (.Call (.Name x p) (e::es) [] pos) (Dz sp JQ E t):=by
 intro Zq s Z H Q I h;refine v9 (dk I hg b ?_ DS);refine PySem.W.callWith_K (h₀:=X.base) I.ok.mod.II hk (d.k pos I h λus s1 vs H1 I1 r q=>⟨I1.E6,?_⟩) he BI;exact wz F a c hd hx I1 r q
variable{kws:List Keyword}{tk:TA}{nm:Option Str}{g:List Value->List Value->List Value}{gV:List V->List V->List V}
end
structure BG (N P:List Str) (sc:Scope):Prop where
 kind:sc.kind=.function
 co:sc.isCoroutine=false
 gen:sc.isGenerator=false
 nd:N.Nodup
 pre:N.take P.length=P
 par:∀x∈P,sc.names.lookup x=some .local∨sc.names.lookup x=some .cell
 kd:∀y∈sc.names,y.2≠.free
theorem cx{a:Str->Option NameKind}{x:Str}:∀{binds:List (Str×Value)}{m:ZBz},(∀v,(x,v)∉binds)->bindL a binds m x=m x
 | [],_,_=>rfl
 | (n,v)::r,m,h=>by
  unfold bindL;rw[cx λw hw=>h w (B2 _ hw)];split
  .have:x≠n:=by rintro rfl;exact h v Aj
   simp[this]
  .rfl
theorem dO{a:Str->Option NameKind}{x:Str}:∀{binds:List (Str×Value)}{m:ZBz},(∀v,(x,v)∉binds)->bindC a binds m x=m x
 | [],_,_=>rfl
 | (n,v)::r,m,h=>by
  unfold bindC;rw[dO λw hw=>h w (B2 _ hw)];split
  .rfl
  .have:x≠n:=by rintro rfl;exact h v Aj
   simp[this]
theorem bQ{a:Str->Option NameKind}{x:Str}{v:Value}:∀{P:List Str}{vs:List Value}{i:Nat}{m:ZBz},P.Nodup->P[i]?=some x->vs[i]?=some v->a x=some .local->
  bindL a (P.zip vs) m x=some v
 | [],_,_,_,_,h,_,_=>by simp at h
 |_::_,[],_,_,_,_,h,_=>by simp at h
 |p::P,w::vs,0,m,nd,h1,h2,hk=>by
  simp at h1 h2;subst h1;subst h2;show bindL a ((p,w)::P.zip vs) m p=_;unfold bindL;rw[cx λv b=>(List.nodup_cons.mp nd).1 (XJ b).1,i5 hk];simp
 |p::P,w::vs,i+1,m,nd,h1,h2,hk=>by
  show bindL a ((p,w)::P.zip vs) m x=_;unfold bindL;exact bQ (i:=i) (List.nodup_cons.mp nd).2 (by simpa using h1) (by simpa using h2) hk
theorem ZR{a:Str->Option NameKind}{x:Str}{v:Value}:∀{P:List Str}{vs:List Value}{i:Nat}{m:ZBz},P.Nodup->P[i]?=some x->vs[i]?=some v->a x≠some .local->
  bindC a (P.zip vs) m x=some v
 | [],_,_,_,_,h,_,_=>by simp at h
 |_::_,[],_,_,_,_,h,_=>by simp at h
 |p::P,w::vs,0,m,nd,h1,h2,hk=>by
  simp at h1 h2;subst h1;subst h2;show bindC a ((p,w)::P.zip vs) m p=_;unfold bindC;rw[dO λv b=>(List.nodup_cons.mp nd).1 (XJ b).1,i3 hk];simp
 |p::P,w::vs,i+1,m,nd,h1,h2,hk=>by
  show bindC a ((p,w)::P.zip vs) m x=_;unfold bindC;exact ZR (i:=i) (List.nodup_cons.mp nd).2 (by simpa using h1) (by simpa using h2) hk
noncomputable def start(N:List Str)(vs:List V):St:=vs.map some++List.replicate (N.length - vs.length) none
noncomputable def G6(CX:G4)(P:Program)(w:World)(K:ZBx)(mg:ZBz)(ZB:Heap)(N:List Str)(qual:Str)(scope:Scope)(f:Addr)(cd:Value)(A:Around)(outer:List Env)(s:Shared)(H:Hp)(E:XK):Cx where
 prog:=P
 w:=w
 K:=K
 mg:=mg
 base:=ZB
 A:=A.deeper (envOfC qual scope s.heap.objs.size f cd)
 N:=N
 s₀:=s
 H₀:=H
 env:=envOfC qual scope s.heap.objs.size f cd
 outer:=outer
 stack:=envOfC qual scope s.heap.objs.size f cd::outer
 ex:=[]
 calm:=true
 fn:=λ_=>true
 pn:=[]
 xe:=λe s'=>wpAny (model P w) (A.deeper (envOfC qual scope s.heap.objs.size f cd)) (leaving (envOfC qual scope s.heap.objs.size f cd) e) (λ_ KY=>CX outer H s E e KY) (λa KY=>CX outer H s E a KY) s'
theorem fM(h:sc.names.lookup x=some .cell):∃c,(cellsFrom n sc.names []).lookup x=some c:=by
 have q:=ZAz sc.names n [] (.inl h);exact Option.isSome_iff_exists.mp q
theorem o9{P:Program}{K:ZBx}{f:Addr}{s1:Shared}{E:XK}
  (S:BG N ps scope) (hd:A.handled=none) (e0:Hx P w K mg ZB A outer s H) (B:vs.length=ps.length) (r:Vals vs us)
  (x:InCallC s s.heap.objs.size (bindL (envOfC qual scope s.heap.objs.size f cd).kindOf (ps.zip us) λ_=>none) (cellsFrom (s.heap.objs.size+1) scope.names []) (bindC (envOfC qual scope s.heap.objs.size f cd).kindOf (ps.zip us) λ_=>none) s1) :
  Inv (G6 CX P w K mg ZB N qual scope f cd A outer s H E) [] (start N vs) H s1:=by
 have D:ps.length<=N.length:=by have:=ib List.length S.pre;rw[GC]at this;omega
 obtain⟨h1,tk,rfl,hk⟩:=x.done;have j:∀b:Addr,b∉(G6 CX P w K mg ZB N qual scope f cd A outer s H E).ex:=λb z=>absurd (show b∈([]:List Addr)from z) (by simp);refine⟨⟨e0.mod,S.kind,rfl,rfl,Aa _,λy z c h1 h2=>?_,λy d=>?_,λy c _ h=>?_,λ_=>hd,Around.frames_deeper e0.frames,.inr ⟨rfl,rfl⟩,λb z=>absurd z (j b),e0.bs,e0.Gn,λb _ _=>j b,λb z=>absurd z (j b),e0.FH,e0.JP⟩,
  rfl,e0.bare,Un.kept hk,⟨_,x.toInCall.ns,λi y v h1 h2 C=>?_⟩,λy c h=>⟨_,x.cell y c h⟩,e0.AE.fresh (Aa _),λy c h=>?_,λp g=>absurd (show p∈([]:ZBy)from g) (by simp),e0.AE.kept hk,?_⟩
 .exact name_of_addr x.apart (HY h1) (HY h2)
 .have d:scope.names.lookup y=some .cell∨scope.names.lookup y=some .free:=d;rcases d with d|d
  .exact fM d
  .exact absurd rfl (S.kd _ (HY d))
 .exact IX (x.above y c (HY h))
 .have hi:i<vs.length:=by
   unfold start at h2
   by_cases hi:i<vs.length
   .exact hi
   .rw[FD (by simpa using hi)]at h2
    rw[gL]at h2;split at h2 <;> cases h2
  have t:vs[i]?=some v:=by
   unfold start at h2;rw[DO (by simpa using hi),AO]at h2
   cases e:vs[i]? with
   |none=>rw[e]at h2;cases h2
   |some a=>rw[e]at h2;cases h2;rfl
  obtain⟨u,l,o⟩:=r.get t;have g:ps[i]?=some y:=by
   rw[<- S.pre,gM (by omega)];exact h1
  have m:ps.Nodup:=by rw[<- S.pre];exact S.nd.sublist (ZAp _ _)
  refine⟨u,o,?_⟩;rcases S.par y (BB g)with k|k
  .exact .inl ⟨k,bQ m g l k⟩
  .obtain⟨c,e⟩:=fM (n:=s.heap.objs.size+1) k;refine .inr ⟨.inl k,c,e,?_⟩;have q:=x.cell y c e;rw[ZR m g l (by show scope.names.lookup y≠_;rw[k];decide)]at q;exact q
 .exact e0.AE.fresh (IX (x.above y c (HY h)))
 .unfold start;show _=N.length;rw[BX,AA,gN];omega
theorem aW{P:Program}{K:ZBx}{k:Nat}{f:Addr}{params:Arguments}{body:List Stmt}{j kV c i Ad ct z:Value}{l p:Option Addr}
  {Fq:Array (Option Value)}{sp:Sp}(B:K.lookup f=some ⟨z,p,.func (PySem.W.fnOf name qual params body scope j kV c i l Ad ct),Fq⟩) (Ea:PySem.W.codeIn K Ad qual=true) (S:BG N ps scope)
  (len:∀vs H Q E,sp vs H Q E->vs.length=ps.length)
  (IE:∀(A:Around)(outer:List Env)(s:Shared)(H:Hp)(vs:List V)(Q:VK)(E:XK),BY k (A.deeper (envOfC qual scope s.heap.objs.size f Ad))->sp vs H Q E->
   ∃t,Dt (G6 CX P w K mg ZB N qual scope f Ad A outer s H E) body t/\t { nx:=λ_ H'=>Q .A6 H',rt:=Q } (start N vs) H) :
  E5 P w K mg ZB CX (k+1) f (PySem.W.fnOf name qual params body scope j kV c i l Ad ct) ps sp:=by
 refine⟨len,λA outer s H args us vs Q E h e0 O r Fc=>?_⟩;have L:=len _ _ _ _ Fc;have m:K.In s.heap:=e0.mod.II.keeps λb o e=>(e0.bs b o e).1;have g:s.heap.NoLimit:=e0.mod.nolimit.keeps λb o e=>(e0.bs b o e).1;have C:∀y∈ps.zip us,scope.names.lookup y.1=some .local∨(scope.names.lookup y.1=some .cell/\((cellsFrom (s.heap.objs.size+1) scope.names []).lookup y.1).isSome=true):=λ⟨n,v⟩D=>by
  rcases S.par n (XJ D).1 with q|q
  .exact .inl q
  .exact .inr ⟨q,ZAz _ _ _ (.inl q)⟩
 refine codeAny_call_function h.depth (m _ _ B) rfl S.co S.gen rfl (PySem.W.codeRec_of m Ea) (O _ _ _ _ ?_);refine wpAny_newFunctionEnv_cells S.kind C λenv M s1 x=>?_;subst M;refine⟨g.keeps x.toInCall.keep,codeAny_func ?_⟩;obtain⟨t,F,G⟩:=IE A outer s H vs Q E (h.deeper _) Fc;have I:Inv (G6 CX P w K mg ZB N qual scope f Ad A outer s H E) [] (start N vs) H s1:=o9 S h.hd e0 L r x;refine ki (F [] s1 (start N vs) H _ I G) (λR s' a=>?_) λe s' a=>a;have fin:∀{σ':St}{H':Hp}{v:V}{u:Value},Inv (G6 CX P w K mg ZB N qual scope f Ad A outer s H E) [] σ' H' s'->RelV v u->Q v H'->CE outer P w H s Q u s':=
  λ{σ' H' v u}J d q=>⟨v,H',J.os,J.bare,J.base,J.AE,d,q⟩
 cases R with
 |ret u=>
  obtain⟨v,σ',H',J,d,q⟩:=a;exact fin J d q
 |next=>
  obtain⟨σ',H',J,q⟩:=a;exact fin (v:=V.A6) (u:=Value.none) J rfl q
 |brk=>
  obtain⟨_,_,_,q⟩:=a;exact False.elim q
 |cont=>
  obtain⟨_,_,_,q⟩:=a;exact False.elim q
section
variable{p:Pos}{id T:String}{r:List V->Hp->VK->Prop}
def CO(r:List V->Hp->VK->Prop)(t:TA):TE:=λZ H Q=>t Z H λvs H1=>r vs H1 Q
end
end L2
namespace HT
variable{E Q:Value->Shared->Prop}
section
open PySem.SeqAt
open PySem.AutoSeq1 (wpAny_loadPart')
open PySem.MeetsSeq PySem.MeetsSeq2 PySem.MeetsSeq3
end
section
variable{prog:Program}{w:World}{A:Around}{s:Shared}
theorem jW{t b:Addr}{vs ws:List Value}(h:IsTup s.heap t vs.toArray)(i:IsTup s.heap b ws.toArray)(f:vs≠[])
  (h1:ws=[]->Q (.ref t) s) (h2:ws≠[]->Q (.ref s.heap.objs.size) { s with heap:=s.heap.push { cls:=.type "tuple", data:=.seq (vs++ws).toArray } })
  (hsz:vs.length+ws.length<=sizeLine):wpAny (model prog w) A (binaryOp .Add (.ref t) (.ref b)) Q E s:=by
 obtain⟨⟨cls,dd,data,sl⟩,ho,g,n,hd⟩:=id h;obtain⟨⟨j,Qi,c,RO⟩,DL,KH,d,a⟩:=id i;simp only at g hd KH a;subst g hd KH a;have e:vs.toArray++ws.toArray=(vs++ws).toArray:=by simp
 by_cases hw:ws=[]
 .exact concat_meets ⟨_,ho,rfl⟩ ⟨_,DL,rfl⟩ ZB5 seq_tuple_add gj gi (gh _ _)
   (tuple_addW1 t b vs.toArray ws.toArray n d dd Qi sl RO (by simpa using f) (by simp[hw])) ⟨ho,DL,h1 hw⟩
 .refine concat_meets ⟨_,ho,rfl⟩ ⟨_,DL,rfl⟩ ZB5 seq_tuple_add gj gi (gh _ _)
   (tuple_addW2 t b vs.toArray ws.toArray n d dd Qi sl RO (by simpa using f) (by simpa using hw) (by rw[Bn,Bn];exact hsz)) ⟨ho,DL,?_⟩
  rw[e];exact h2 hw
noncomputable def DH(n d:Nat):Option Int->Nat
 |none=>d
 |some v=>if v<0 then(v+(n:Int)).toNat else min v.toNat n
theorem yU(n d:Nat):DH n d none=d:=rfl
theorem y8(n d k:Nat):DH n d (some (k:Int))=min k n:=by
 show(if(k:Int)<0 then((k:Int)+(n:Int)).toNat else min (k:Int).toNat n)=min k n
 rw[i3 (by omega),GA]
end
end HT
namespace L2
variable{X:Cx}{pos:Pos}{xs ys:List V}{A0 its' us:List Value}{α:Type}{j n t':Nat}{i:Int}{Zq:ZBy}{Z:St}{H:Hp}{s:Shared}{A:Around}{x y:V}{u v:Value}{T:String}
abbrev TO:=St->Hp->(Option Int->Hp->Prop)->Prop
def PO(X:Cx)(e:Option Expr)(t:TO):Prop:=
 ∀(Zq:ZBy)(s:Shared)(Z:St)(H:Hp)(Q:Option Int->Hp->Prop),Inv X Zq Z H s->t Z H Q->
  wpAny (model X.prog X.w) X.A (evalPart e X.env) (λu s'=>∃o H',Inv X Zq Z H' s'/\IsPart u o/\Q o H') X.xe s
def Vj:TO:=λ_ H Q=>Q none H
def Sy(t:TE):TO:=λZ H Q=>t Z H λx H1=>∃i,x=.int i/\Q (some i) H1
section
variable{e:Expr}{te:TE}{lo hi:Option Expr}{tl th:TO}{p2:Pos}
def QP(X:Cx)(r:V->Option Int->Option Int->Hp->VK->Prop):Prop:=
 ∀(Zq:ZBy)(s:Shared)(Z:St)(H:Hp)(x:V)(v b a:Value)(lo hi:Option Int)(sl:Addr)(Q:VK),Inv X Zq Z H s->RelV x v->s.heap.IsSliceOf sl b a .none->IsPart b lo->IsPart a hi->r x lo hi H Q->
  ∃T id,typeLookup (.type T) "__getitem__"=pure (some (.builtin id))/\s.TypeIs v T/\wpAny (model X.prog X.w) X.A (getItem v (.ref sl)) (EP X Zq Z Q) X.xe s
def Ro(r:V->Option Int->Option Int->Hp->VK->Prop)(te:TE)(tl th:TO):TE:=λZ H Q=>te Z H λx H1=>tl Z H1 λl H2=>th Z H2 λu H3=>r x l u H3 Q
def KJ(xs:List V)(lo hi:Option Int):List V:=(xs.drop (HT.DH xs.length 0 lo)).take (HT.DH xs.length xs.length hi - HT.DH xs.length 0 lo)
theorem m8(xs:List V)(lo hi:Option Int):(KJ xs lo hi).length<=xs.length:=by
 unfold KJ;rw[GC,RY];omega
def kr(K:ZBx):R2:=λx y H Q=>∃a b xs ys,x=.ref a/\y=.ref b/\Ab K H a xs/\Ab K H b ys/\xs≠[]/\xs.length+ys.length<=sizeLine/\
 (ys=[]->Q (.ref a) H)/\(ys≠[]->∀p,H p=none->Q (.ref p) (upd H p (.tup (xs++ys))))
theorem Vals.Px(r:Vals xs us):us=[]↔xs=[]:=by
 cases r with
 |nil=>simp
 |cons _ _=>simp
theorem z8:Aw X (binaryOp .Add) (kr X.K):=by
 intro Zq s Z H x y v u Q I g f h;obtain⟨a,b,xs,ys,rfl,rfl,l,k,hx,hz,j,i⟩:=h;cases g;cases f;obtain⟨A0,d,p1,_⟩:=I.tuple l;obtain⟨BW,c,p2,_⟩:=I.tuple k;refine HT.jW p1 p2 (λz=>hx (d.Px.mp z)) (λz=>⟨.ref a,H,I,rfl,j (c.Px.mp z)⟩) (λz=>?_) (by rw[<- d.length,<- c.length];exact hz);refine⟨.ref s.heap.objs.size,_,I.laid (t':=s.toks) (o:=.tup (xs++ys)) (λb m q=>Ay _ q) (Aa _) ?_,rfl,i (λw=>z (c.Px.mpr w)) _ (I.AE.fresh (Aa _))⟩;exact⟨by rw[BX];exact hz,_,d.append c,⟨IsTup.new _ _,λUE e=>by rw[BP _ rfl]at e;cases e;rfl⟩⟩
end
noncomputable def Ey(n:Nat)(i:Int):Option Nat:=if 0<=i then(if i<n then some i.toNat else none)else if -(n:Int)<=i then some (i+n).toNat else none
def BR(xs:List α)(i:Int):Option α:=(Ey xs.length i).bind λj=>xs[j]?
theorem dR(h:Ey n i=some j):seqIndex? i n=some j/\j<n/\-(n:Int)<=i/\i<n:=by
 unfold Ey at h
 by_cases a:0<=i
 .rw[i5 a]at h
  by_cases h1:i<n
  .rw[i5 h1]at h;have e:i.toNat=j:=B3 h;exact⟨by rw[seqIndex_of a h1,e],by omega,by omega,h1⟩
  .rw[i3 h1]at h;cases h
 .rw[i3 a]at h
  by_cases h1:-(n:Int)<=i
  .rw[i5 h1]at h;have e:(i+n).toNat=j:=B3 h;exact⟨by rw[seqIndex_neg (by omega) h1,e],by omega,h1,by omega⟩
  .rw[i3 h1]at h;cases h
theorem Vs{xs:List α}{v:α}(h:BR xs i=some v):∃j,seqIndex? i xs.length=some j/\xs[j]?=some v/\j<xs.length/\-(xs.length:Int)<=i/\i<xs.length:=by
 unfold BR at h;cases e:Ey xs.length i with
 |none=>rw[e]at h;cases h
 |some j=>
  rw[e]at h;obtain⟨h1,h2,b,a⟩:=dR e;exact⟨j,h1,h,h2,b,a⟩
theorem EE{xs:List α}{v:α}(h:xs[j]?=some v):BR xs (j:Int)=some v:=by
 have a:j<xs.length:=(List.getElem?_eq_some_iff.mp h).1;have e:Ey xs.length (j:Int)=some j:=by
  unfold Ey;rw[i5 (by omega),i5 (by omega)];simp
 unfold BR;rw[e];exact h
theorem wa(xs:List α)(v:α):BR (xs++[v]) (-1)=some v:=by
 have a:(xs++[v]).length=xs.length+1:=by simp
 have e:Ey (xs++[v]).length (-1)=some xs.length:=by
  unfold Ey;rw[a,i3 (by decide),i5 (by omega)]
  congr 1
  omega
 unfold BR;rw[e];show(xs++[v])[xs.length]?=some v;simp
def SI(b:Expr):Prop:=∀o i,subscripted b false o i=operate [o,i] (getItem o i)
def Dv(X:Cx)(r:R2):Prop:=
 ∀(value a:Expr)(Zq:ZBy)(s:Shared)(Z:St)(H:Hp)(x y:V)(v u:Value)(Q:VK),Inv X Zq Z H s->RelV x v->RelV y u->r x y H Q->
  subscripted a false v u=operate [v,u] (getItem v u)->wpAny (model X.prog X.w) X.A (subscriptTail value a v u) (EP X Zq Z Q) X.xe s
def KZ(X:Cx)(id:String)(r:V->List V->Hp->VK->Prop):Prop:=
 ∀(Zq:ZBy)(s:Shared)(Z:St)(H:Hp)(x:V)(xs:List V)(v:Value)(us:List Value)(Q:VK),Inv X Zq Z H s->RelV x v->Vals xs us->r x xs H Q->
  wpAny (model X.prog X.w) X.A (call (.builtin id) (v::us)) (EP X Zq Z Q) X.xe s
section
variable{a b:Expr}{ta tb:TE}
theorem Dv.or{r d:R2}(h:Dv X r)(h':Dv X d):Dv X (λx y H Q=>r x y H Q∨d x y H Q):=by
 intro value a Zq s Z H x y v u Q I c b q e;rcases q with q|q
 .exact h value a Zq s Z H x y v u Q I c b q e
 .exact h' value a Zq s Z H x y v u Q I c b q e
def Di(K:ZBx):R2:=λx y H Q=>∃p xs i v,x=.ref p/\y=.int i/\AG K H p xs/\BR xs i=some v/\Q v H
def Hr(K:ZBx):R2:=λx y H Q=>∃p xs i v,x=.ref p/\y=.int i/\Ab K H p xs/\BR xs i=some v/\Q v H
def vG:R2:=λx y H Q=>∃z i c,x=.str z/\y=.int i/\z.length<=sizeLine/\BR z.cps.toList i=some c/\Q (.str ⟨#[c]⟩) H
theorem Bj:Dv X (Di X.K):=by
 intro value a Zq s Z H x y v u Q I g f h c;obtain⟨p,xs,i,z,rfl,rfl,k,m,q⟩:=h;cases g;obtain⟨t,rfl⟩:=f;obtain⟨A0,r,pl,hz⟩:=I.list k;obtain⟨j,h1,h2,B,o,n⟩:=Vs m;obtain⟨w,e,Hf⟩:=r.get h2;have l:=r.length;have A:=KL;have fin:EP X Zq Z Q w s:=⟨z,H,I,Hf,q⟩
 by_cases d:0<=i
 .have b:i.toNat=j:=by
   rw[seqIndex_of d n]at h1;exact B3 h1
  exact item_listR pl.isList d (by omega) (by rw[b];simpa using e) fin c
 .have b:(i+(A0.toArray.size:Int)).toNat=j:=by
   rw[seqIndex_neg (by omega) o]at h1;rw[Bn,<- l];exact B3 h1
  exact subscriptTail_builtinR (x:=w) pl.isList.typeIs slot_list_getitem.lookup
   (wpAny_getItem_list_neg (Q:=λr s'=>r=w/\EP X Zq Z Q r s') pl.isList (by omega) (by rw[Bn] <;> omega) (by omega) (by rw[b];simpa using e) ⟨rfl,fin⟩) c
theorem BN:Dv X (Hr X.K):=by
 intro value a Zq s Z H x y v u Q I c b h d;obtain⟨p,xs,i,z,rfl,rfl,e,g,q⟩:=h;cases c;obtain⟨t,rfl⟩:=b;obtain⟨A0,r,pl,hz⟩:=I.tuple e;obtain⟨j,h1,h2,o,n,m⟩:=Vs g;obtain⟨w,k,Hf⟩:=r.get h2;have f:=r.length;have l:=KL;have fin:EP X Zq Z Q w s:=⟨z,H,I,Hf,q⟩;exact subscriptTail_builtinR (x:=w) pl.typeIs slot_tuple_getitem.lookup
  (getItem_tuple (j:=j) (Q:=λr s'=>r=w/\EP X Zq Z Q r s') pl (by omega) (by omega) (by rw[Bn,<- f];exact h1) (by simpa using k) ⟨rfl,fin⟩) d
theorem nK:Dv X vG:=by
 intro value a Zq s Z H x y v u Q I d b h e;obtain⟨z,i,c,rfl,rfl,hz,g,q⟩:=h;obtain⟨t,rfl⟩:=d;obtain⟨t',rfl⟩:=b;obtain⟨j,h1,h2,o,l,k⟩:=Vs g;have f:z.cps.toList.length=z.length:=by simp[Str.length]
 rw[f]at h1 l k;have n:=KL;exact tail_any (typeIs_str s z t) slot_str_getitem.lookup (getItem_str (c:=c) (by
  have e1:decide (i < -(2 ^ 63:Int))=false:=iF (by omega);have m:decide (i>=2 ^ 63)=false:=iF (by omega);rw[e1,m,gH]) (by rw[h1];simpa using h2) ⟨.str ⟨#[c]⟩,H,I.tok _,⟨_,rfl⟩,q⟩) e
theorem rk(A0:List Value)(n j:Nat)(u:Value):Obj.mapSeq (·.setIfInBounds j u) { cls:=.type "list", data:=.seq A0.toArray n }={ cls:=.type "list", data:=.seq (A0.set j u).toArray n }:=by
 simp[Obj.mapSeq]
theorem Inv.lst{Zq:ZBy}{Z:St}{H:Hp}{s:Shared}{p:Addr}{xs:List V}(I:Inv X Zq Z H s)(h:H p=some (.lst xs)):
  ∃(A0:List Value)(n:Nat),Vals xs A0/\s.heap.get? p=some { cls:=.type "list", data:=.seq A0.toArray n }/\xs.length<=sizeLine:=by
 obtain⟨z,A0,n,r,e⟩:=I.AE p _ h;exact⟨A0,n,r,e,z⟩
theorem Inv.vk{p:Addr}{a:Nat}{f:Obj->Obj}(I:Inv X Zq Z H s)(h:H p=some (.lst xs))
  (ho:s.heap.get? p=some { cls:=.type "list", data:=.seq A0.toArray n }) (hf:f { cls:=.type "list", data:=.seq A0.toArray n }={ cls:=.type "list", data:=.seq its'.toArray a }) (r:Vals ys its') (hz:ys.length<=sizeLine) (t:Nat) :
  Inv X Zq Z (upd H p (.lst ys)) { s with heap:=s.heap.update p f,toks:=t }:=by
 have e:(s.heap.update p f).get? p=some { cls:=.type "list", data:=.seq its'.toArray a }:=by
  rw[IU f ho (by rw[hf] <;> rfl),hf]
 refine I.write (x:=p) (e:=p) (by rw[h];trivial) (.inl rfl) (λb u c q=>(Ky _ _ (BM c)).trans q) ⟨_,e⟩ ?_;exact⟨hz,its',a,r,e⟩
def Vt:V->V->V->Hp->(Hp->Prop)->Prop:=λo i v H Q=>∃p xs k j,o=.ref p/\i=.int k/\H p=some (.lst xs)/\Ey xs.length k=some j/\Q (upd H p (.lst (xs.set j v)))
theorem set_list:Vr X Vt:=by
 intro Zq s Z H o i v x y u Q I l m g h;obtain⟨p,xs,k,j,rfl,rfl,b,w,q⟩:=h;cases l;obtain⟨t,rfl⟩:=m;obtain⟨A0,n,r,ho,hz⟩:=I.lst b;obtain⟨h1,h2,d,c⟩:=dR w;have a:=r.length;have z:=KL;have f:Inv X Zq Z (upd H p (.lst (xs.set j v))) { s with heap:=s.heap.update p (Obj.mapSeq (·.setIfInBounds j u)) }:=
  I.vk b ho (rk A0 n j u) (r.set g j) (by rw[HW];exact hz) s.toks
 by_cases e:0<=k
 .have hk:k.toNat=j:=by
   rw[seqIndex_of e c]at h1;exact B3 h1
  exact PySem.W.ki_setAt ho e (by omega) (by rw[Bn,<- a];exact c) (by rw[hk];exact⟨_,f,q⟩)
 .have hk:(k+(A0.toArray.size:Int)).toNat=j:=by
   rw[seqIndex_neg (by omega) d]at h1;rw[Bn,<- a];exact B3 h1
  exact PySem.W.ki_setBack ho (by omega) (by rw[Bn,<- a];exact d) (by omega) (by rw[hk];exact⟨_,f,q⟩)
theorem yc(lo hi:Option Int)(n:Nat):(sliceBounds lo hi none n).1=((HT.DH n 0 lo:Nat):Int)/\(sliceBounds lo hi none n).2.1=((HT.DH n n hi:Nat):Int)/\(sliceBounds lo hi none n).2.2=1:=by
 refine⟨?_,?_,rfl⟩
 .cases lo with
  |none=>simp[sliceBounds,HT.DH]
  |some i=>
   simp only[sliceBounds,HT.DH,ZAs,show(1:Int) > 0 by decide,ZBF]
   by_cases h:i<0
   .simp only[h,ZBF] <;> omega
   .simp only[h,ZBE] <;> omega
 .cases hi with
  |none=>simp[sliceBounds,HT.DH]
  |some i=>
   simp only[sliceBounds,HT.DH,ZAs,show(1:Int) > 0 by decide,ZBF]
   by_cases h:i<0
   .simp only[h,ZBF] <;> omega
   .simp only[h,ZBE] <;> omega
theorem ZAB(A0:List Value)(lo hi:Option Int):slicePick A0.toArray lo hi none=((A0.drop (HT.DH A0.length 0 lo)).take (HT.DH A0.length A0.length hi - HT.DH A0.length 0 lo)).toArray:=by
 obtain⟨h1,h2,a⟩:=yc lo hi A0.toArray.size;unfold slicePick;rw[h1,h2,a];simp only[sliceRange_one,pick_run,Bn] <;> rfl
def c6(K:ZBx):V->Option Int->Option Int->Hp->VK->Prop:=λx lo hi H Q=>∃a xs,x=.ref a/\AG K H a xs/\∀p,H p=none->Q (.ref p) (upd H p (.lst (KJ xs lo hi)))
theorem iX:QP X (c6 X.K):=by
 intro Zq s Z H x v j i lo hi sl Q I e g pl f h;obtain⟨a,xs,rfl,hx,q⟩:=h;cases e;obtain⟨A0,r,d,hz⟩:=I.list hx;have c:=r.length;refine⟨"list", _,slot_list_getitem.lookup,d.isList.typeIs,?_⟩;refine wpAny_getItem_list_slice d.isList g pl f .none (by simp) ?_ (by rw[Bn] <;> omega)
 rw[ZAB,<- c];refine⟨.ref s.heap.objs.size,_,I.laid (t':=s.toks) (o:=.lst (KJ xs lo hi)) (λb k q=>Ay _ q) (Aa _) ?_,rfl,q _ (I.AE.fresh (Aa _))⟩;exact⟨CQ (m8 xs lo hi) hz,_,0,(r.drop (HT.DH xs.length 0 lo)).take (HT.DH xs.length xs.length hi - HT.DH xs.length 0 lo),BP _ rfl⟩
noncomputable def EJ:V->Bool
 | .A6=>true
 | .bl _=>true
 | .int _=>true
 | .str _=>true
 |_=>false
noncomputable def Dp:V->V->Bool
 | .A6,.A6=>true
 | .bl a,.bl b=>a == b
 | .bl a,.int b=>(if a then 1 else 0) == b
 | .int a,.bl b=>a == (if b then 1 else 0)
 | .int a,.int b=>a == b
 | .str a,.str b=>a == b
 |_,_=>false
theorem Oi(d:RelV y u)(c:RelV x v)(f:EJ y=true)(e:EJ x=true):SeqAt.EqAt A s u v (Dp y x):=by
 cases y with
 |A6=>
  cases d;cases x with
  |A6=>cases c;exact SeqAt.EqAt.same _
  |bl b=>cases c;exact SeqAt.EqAt.none_bool b
  |int b=>obtain⟨t,rfl⟩:=c;exact SeqAt.EqAt.none_int b t
  |str b=>obtain⟨t,rfl⟩:=c;exact SeqAt.EqAt.none_str b t
  |_=>exact absurd (show false=true from e) D1
 |bl a=>
  cases d;cases x with
  |A6=>cases c;exact SeqAt.EqAt.bool_none a
  |bl b=>cases c;exact SeqAt.EqAt.bool_bool a b
  |int b=>obtain⟨t,rfl⟩:=c;exact SeqAt.EqAt.bool_int a b t
  |str b=>obtain⟨t,rfl⟩:=c;exact SeqAt.EqAt.bool_str a b t
  |_=>exact absurd (show false=true from e) D1
 |int a=>
  obtain⟨t',rfl⟩:=d;cases x with
  |A6=>cases c;exact SeqAt.EqAt.int_none a t'
  |bl b=>cases c;exact SeqAt.EqAt.int_bool a t' b
  |int b=>obtain⟨t,rfl⟩:=c;exact SeqAt.EqAt.int_int a t' b t
  |str b=>obtain⟨t,rfl⟩:=c;exact SeqAt.EqAt.int_str a t' b t
  |_=>exact absurd (show false=true from e) D1
 |str a=>
  obtain⟨t',rfl⟩:=d;cases x with
  |A6=>cases c;exact SeqAt.EqAt.str_none a t'
  |bl b=>cases c;exact SeqAt.EqAt.str_bool a t' b
  |int b=>obtain⟨t,rfl⟩:=c;exact SeqAt.EqAt.str_int a t' b t
  |str b=>obtain⟨t,rfl⟩:=c;exact SeqAt.EqAt.str_str a t' b t
  |_=>exact absurd (show false=true from e) D1
 |_=>exact absurd (show false=true from f) D1
def IS(x:V)(u:Value):Bool:=match u with
 | .none=>Dp .A6 x
 | .bool b=>Dp (.bl b) x
 | .int i _=>Dp (.int i) x
 | .str z _=>Dp (.str z) x
 |_=>false
theorem YA(r:RelV y u)(f:EJ y=true):IS x u=Dp y x:=by
 cases y with
 |A6=>cases r;rfl
 |bl b=>cases r;rfl
 |int i=>obtain⟨t,rfl⟩:=r;rfl
 |str z=>obtain⟨t,rfl⟩:=r;rfl
 |_=>exact absurd (show false=true from f) D1
theorem To{x:V}:∀{xs:List V}{us:List Value},Vals xs us->xs.all EJ=true->us.any (IS x)=xs.any λy=>Dp y x
 |_,_,.nil,_=>rfl
 |y::xs,u::us,.cons r t,f=>by
  rw[RT,Cq]at f;rw[MM,MM,YA r f.1,To t f.2]
theorem UY{A:Around}{s:Shared}{x:V}{v:Value}(b:RelV x v)(c:EJ x=true):∀{xs:List V}{us:List Value},Vals xs us->xs.all EJ=true->∀u∈us,SeqAt.EqAt A s u v (IS x u)
 |_,_,.nil,_=>λu a=>by cases a
 |y::xs,u::us,.cons r t,f=>λu' a=>by
  rw[RT,Cq]at f;rcases List.mem_cons.mp a with rfl|a
  .rw[YA r f.1];exact Oi r b f.1 c
  .exact UY b c t f.2 u' a
def JG(x:V)(xs:List V):Bool:=xs.any λy=>Dp y x
def Lj(K:ZBx)(neg:Bool):R2:=λx y H Q=>∃p xs,y=.ref p/\(AG K H p xs∨Ab K H p xs)/\EJ x=true/\xs.all EJ=true/\Q (.bl (if neg then !JG x xs else JG x xs)) H
theorem R1:Aw X (compareOp .In) (Lj X.K false):=by
 intro Zq s Z H x y v u Q I b d h;obtain⟨p,xs,rfl,a,c,fs,q⟩:=h;cases d;rcases a with a|a
 .obtain⟨A0,r,pl,hz⟩:=I.list a;refine SeqAt.in_listAt (IS x) pl.isList (λw hw=>UY b c r fs w (by simpa using hw)) ⟨.bl _,H,I,rfl,?_⟩
  rw[show A0.toArray.any (IS x)=A0.any (IS x) by simp,To r fs];exact q
 .obtain⟨A0,r,pl,hz⟩:=I.tuple a;refine SeqAt.in_tupleAt (IS x) pl (λw hw=>UY b c r fs w (by simpa using hw)) ⟨.bl _,H,I,rfl,?_⟩
  rw[show A0.toArray.any (IS x)=A0.any (IS x) by simp,To r fs];exact q
theorem LG:Br X (.builtin "len") (λxs H Q=>∃p ys,xs=[.ref p]/\(AG X.K H p ys∨Ab X.K H p ys)/\Q (.int ys.length) H):=by
 intro Zq s Z H xs us Q I r h;obtain⟨p,ys,rfl,b,q⟩:=h;obtain⟨u,rfl,d⟩:=vals1 r;cases d;have e:=KL;rcases b with b|b
 .obtain⟨A0,c,pl,hz⟩:=I.list b;have a:=c.length;exact Calls.call_len_list pl.isList (by simp only[Bn] <;> omega) ⟨.int ys.length,H,I.tok _,⟨s.toks+1,by rw[Bn,a]⟩,q⟩
 .obtain⟨A0,c,pl,hz⟩:=I.tuple b;have a:=c.length;exact len_tuple pl (by simp only[Bn] <;> omega) ⟨.int ys.length,H,I.tok _,⟨s.toks+1,by rw[Bn,a]⟩,q⟩
theorem mq:Br X (.builtin "len") (λxs H Q=>∃z,xs=[.str z]/\z.length<=sizeLine/\Q (.int z.length) H):=by
 intro Zq s Z H xs us Q I r h;obtain⟨z,rfl,hz,q⟩:=h;obtain⟨u,rfl,t,rfl⟩:=vals1 r;have a:=KL;exact len_str (by omega) ⟨.int z.length,H,I.tok _,⟨_,rfl⟩,q⟩
theorem He:Br X (.type "list") (λxs H Q=>∃p ys,xs=[.ref p]/\(AG X.K H p ys∨Ab X.K H p ys)/\∀l,H l=none->Q (.ref l) (upd H l (.lst ys))):=by
 intro Zq s Z H xs us Q I r h;obtain⟨p,ys,rfl,c,q⟩:=h;obtain⟨u,rfl,g⟩:=vals1 r;cases g;have fin:∀(A0:List Value),Vals ys A0->ys.length<=sizeLine->∀(h':Heap)(c':Nat),(∀b o',s.heap.get? b=some o'->h'.get? b=some o')->
   h'.get? s.heap.objs.size=some { cls:=.type "list", dict:=none,data:=.seq A0.toArray c',slots:=#[] }->EP X Zq Z Q (.ref s.heap.objs.size) { s with heap:=h' }:=λA0 a hz h' c' kp e=>
  ⟨.ref s.heap.objs.size,_,I.laid (t':=s.toks) kp (Aa _) (show Bl X.prog X.w _ h' _ (.lst ys)from⟨hz,A0,c',a,e⟩),rfl,q _ (I.AE.fresh (Aa _))⟩
 rcases c with c|c
 .obtain⟨A0,a,pl,hz⟩:=I.list c;have d:=a.length;obtain⟨o,ho,f,n,hd⟩:=pl.isList;exact call_list_seq p (.inl rfl) ho f hd (λh' c' kp e=>fin A0 a hz h' c' kp e) (by simp only[Bn] <;> omega)
 .obtain⟨A0,a,pl,hz⟩:=I.tuple c;have d:=a.length;obtain⟨o,ho,f,n,hd⟩:=pl;exact call_list_seq p (.inr rfl) ho f hd (λh' c' kp e=>fin A0 a hz h' c' kp e) (by simp only[Bn] <;> omega)
theorem OM:Br X (.type "tuple") (λxs H Q=>∃p ys,xs=[.ref p]/\((AG X.K H p ys/\∀l,H l=none->Q (.ref l) (upd H l (.tup ys)))∨(Ab X.K H p ys/\Q (.ref p) H))):=by
 intro Zq s Z H xs us Q I r h;obtain⟨p,ys,rfl,h⟩:=h;obtain⟨u,rfl,i⟩:=vals1 r;cases i;rcases h with⟨c,q⟩|⟨c,q⟩
 .obtain⟨A0,a,pl,hz⟩:=I.list c;have d:=a.length;refine call_tuple_list pl.isList (λh' kp=>?_) (by simp only[Bn] <;> omega)
  have g:Inv X Zq Z H { s with heap:=h' }:=I.kept (t':=s.toks) kp
  have j:Inv X Zq Z (upd H h'.objs.size (.tup ys)) { s with heap:=h'.push { cls:=.type "tuple", data:=.seq A0.toArray } }:=
   g.laid (t':=s.toks) (λb o e=>Ay _ e) (Aa _) (show Bl X.prog X.w _ _ _ (.tup ys)from⟨hz,A0,a,⟨IsTup.new _ _,λUE f=>by rw[BP _ rfl]at f;cases f;rfl⟩⟩)
  exact⟨.ref h'.objs.size,_,j,rfl,q _ (g.AE.fresh (Aa _))⟩
 .obtain⟨A0,a,pl,hz⟩:=I.tuple c;exact call_tuple_same pl ⟨.ref p,H,I,rfl,q⟩
def Kr(K:ZBx)(T:String)(x:V)(H:Hp):Prop:=match x with
 | .str _=>T="str"
 | .int _=>T="int"
 | .ref p=>(T="list" /\ ∃xs,AG K H p xs)∨(T="tuple" /\ ∃o,K.lookup p=some o/\o.cls=.type "tuple" /\ o.dict=none)∨
   (T="dict" /\ ((∃A9,H p=some (.dK A9))∨∃A9,H p=some (.dT A9)))∨(T="set" /\ ∃S n,H p=some (.set S n))∨(T="tuple" /\ ∃xs,H p=some (.tup xs))
 |_=>False
theorem fc(I:Inv X Zq Z H s)(r:RelV x v)(ty:Kr X.K T x H):
  s.TypeIs v T/\∀a,v=.ref a->∃d,s.heap.get? a=some d/\d.dict=none:=by
 cases x with
 |str z=>
  obtain⟨t,rfl⟩:=r;cases(show T="str" from ty);exact⟨typeIs_str s z t,λ_ e=>nomatch e⟩
 |int i=>
  obtain⟨t,rfl⟩:=r;cases(show T="int" from ty);exact⟨typeIs_int s i t,λ_ e=>nomatch e⟩
 |ref p=>
  cases r;rcases ty with⟨rfl,xs,f⟩|⟨rfl,o,hk,g,hd⟩|⟨rfl,hk⟩|⟨rfl,S,n,hk⟩|⟨rfl,xs,hk⟩
  .obtain⟨A0,_,pl,_⟩:=I.list f;refine⟨pl.isList.typeIs,λa e=>?_⟩;cases e;obtain⟨o,n,e,c,hd,_⟩:=pl;exact⟨o,e,hd⟩
  .refine⟨⟨o,I.E6 p o hk,g⟩,λa e=>?_⟩;cases e;exact⟨o,I.E6 _ o hk,hd⟩
  .have z:∃o,s.heap.get? p=some o/\o.ExactDict:=by
    rcases hk with⟨A9,hk⟩|⟨A9,hk⟩
    .obtain⟨_,_,_,_,o,_,_,e,ex,_⟩:=I.AE p _ hk;exact⟨o,e,ex⟩
    .obtain⟨_,_,_,_,o,_,_,e,ex,_⟩:=I.AE p _ hk;exact⟨o,e,ex⟩
   obtain⟨o,e,ex⟩:=z;refine⟨⟨o,e,ex.1⟩,λa b=>?_⟩;cases b;exact⟨o,e,ex.2.1⟩
  .obtain⟨o,_,_,_,e,ex,_⟩:=I.AE p _ hk;refine⟨⟨o,e,ex.1⟩,λa b=>?_⟩;cases b;exact⟨o,e,ex.2.1⟩
  .obtain⟨_,A0,_,⟨o,e,c,_⟩,h⟩:=I.AE p _ hk;refine⟨⟨o,e,c⟩,λa b=>?_⟩;cases b;exact⟨o,e,h o e⟩
 |_=>exact False.elim ty
def T7(K:ZBx)(T:String)(r:V->List V->Hp->VK->Prop)(to:TE):TE:=λZ H Q=>to Z H λx H1=>Kr K T x H1/\r x [] H1 Q
def Mh(K:ZBx)(T:String)(r:V->List V->Hp->VK->Prop)(to:TE)(t:TA):TE:=λZ H Q=>to Z H λx H1=>Kr K T x H1/\t Z H1 λxs H2=>r x xs H2 Q
variable{o e:Expr}{es:List Expr}{to:TE}{t:TA}{name:Str}{apos CS:Pos}{id:String}{r:V->List V->Hp->VK->Prop}
end
def Tx(X:Cx)(id:String)(r:V->List V->Hp->VK->Prop):Prop:=
 ∀(Zq:ZBy)(s:Shared)(Z:St)(H:Hp)(x:V)(xs:List V)(v:Value)(us:List Value)(Q:VK),Inv X Zq Z H s->RelV x v->Vals xs us->r x xs H Q->
  wpAny (model X.prog X.w) X.A (call (.builtin id) (v::us)) (EP X Zq Z Q) X.xe s
theorem Vals.one:∀{x:V}{us:List Value},Vals [x] us->∃u,us=[u]/\RelV x u:=λr=>vals1 r
theorem Vals.two:∀{x y:V}{us:List Value},Vals [x,y] us->∃u v,us=[u,v]/\RelV x u/\RelV y v:=λr=>vals2 r
theorem Vals.zero:∀{us:List Value},Vals [] us->us=[]
 |_,.nil=>rfl
section
variable{l b:Addr}{zs:List V}
theorem Inv.Te{f:Array Value->Array Value}(I:Inv X Zq Z H s)(c:H l=some (.lst xs))
  (e:s.heap.get? l=some { cls:=.type "list", data:=.seq A0.toArray n }) (hf:f A0.toArray=its'.toArray) (hv:Vals ys its') (hz:ys.length<=sizeLine) :
  Inv X Zq Z (upd H l (.lst ys)) { s with heap:=s.heap.update l (Obj.mapSeq f),toks:=t' }:=by
 have q:=PySem.IsL.update e f;rw[hf]at q;refine I.write (x:=l) (e:=l) (by rw[c];exact trivial) (.inl rfl) (λd u b a=>(Ky s.heap (Obj.mapSeq f) (BM b)).trans a) ⟨_,q⟩ ?_;exact⟨hz,its',_,hv,q⟩
theorem Inv.xg(I:Inv X Zq Z H s)(a:Vals ys A0)(hz:ys.length<=sizeLine):
  Inv X Zq Z (upd H s.heap.objs.size (.lst ys)) { s with heap:=s.heap.push { cls:=.type "list", data:=.seq A0.toArray },toks:=t' }:=
 I.laid (λ_ _ q=>Ay _ q) (Aa _) ⟨hz,A0,0,a,BP _ rfl⟩
theorem Inv.UB(I:Inv X Zq Z H s)(a:H l=some (.lst xs)):xs.length<=sizeLine/\∃(A0:List Value)(n:Nat),Vals xs A0/\xs.length=A0.length/\s.heap.get? l=some { cls:=.type "list", data:=.seq A0.toArray n }:=by
 obtain⟨z,A0,n,r,e⟩:=I.AE l _ a;exact⟨z,A0,n,r,r.length,e⟩
def QN:V->List V->Hp->VK->Prop:=λx vs H Q=>∃l xs y,x=.ref l/\vs=[y]/\H l=some (.lst xs)/\xs.length<sizeLine/\Q .A6 (upd H l (.lst (xs++[y])))
theorem cg:Tx X "list.append" QN:=by
 intro Zq s Z H x vs v us Q I b c h;obtain⟨l,xs,y,rfl,rfl,a,hz,q⟩:=h;cases b;obtain⟨u,rfl,d⟩:=c.one;obtain⟨z,A0,n,r,f,e⟩:=I.UB a;refine call_meets F.slot_list_append ⟨_,e,rfl⟩ F.entry_list_append (F.args_list_append_2 _ _) (PySem.list_append l A0.toArray n u (by rw[Bn];omega)) ⟨e,?_⟩;refine⟨.A6,_,I.Te (its':=A0++[u]) a e (by simp) (r.append (.cons d .nil)) ?_,rfl,q⟩;rw[BX,Ra];omega
def Tc:V->List V->Hp->VK->Prop:=λx vs H Q=>∃l xs,x=.ref l/\vs=[]/\H l=some (.lst xs)/\Q .A6 (upd H l (.lst []))
theorem p6:Tx X "list.clear" Tc:=by
 intro Zq s Z H x vs v us Q I b c h;obtain⟨l,xs,rfl,rfl,a,q⟩:=h;cases b;have d:=c.zero;subst d;obtain⟨z,A0,n,r,f,e⟩:=I.UB a;refine call_meets F.slot_list_clear ⟨_,e,rfl⟩ F.entry_list_clear (F.args_list_clear_1 _) (AutoSeq1.list_clear_list_0 l A0.toArray n (by rw[Bn];omega)) ⟨e,?_⟩;exact⟨.A6,_,I.Te (its':=[]) (ys:=[]) a e rfl .nil (Bo _),rfl,q⟩
variable{prog:Program}{w:World}{E:Value->Shared->Prop}
set_option maxRecDepth 100000 in
end
end L2
namespace HC
open PySem.W PySem.Calls
variable{l:OpenLaw}{n:Nat}{prog q:Program}
theorem mX{P:Params}{h:Heap}:∀(ns:List Int)(vs:List Value),WellAll P h vs (ns.map WData.int)->IntsAre vs ns:=by
 intro ns
 induction ns with
 |nil=>
  intro vs w;rw[Rb]at w;cases w;exact .nil
 |cons n ns c=>
  intro vs w;rw[E9]at w;cases w with
  |cons a b=>
   cases a;exact .cons _ _ (c _ b)
theorem yY(m:l.most=some n){P:Params}{h:Heap}{args:List WData}{vals:List Value}
  (P8:l.row.toRowW.claim.pre args=true) (Wj:WellAll P h vals args) :
  ∃a vs ns,vals=[Value.ref a]/\args=[WData.list (ns.map WData.int)]/\h.get? a=some { cls:=.type "list", data:=.seq vs.toArray }/\IntsAre vs ns/\ns.length<=n:=by
 have j:WShape.hasAll [] args [.list .int]=true:=(pre_splitW P8).1;have f:l.pre.holds [] { args:=args }=true:=(pre_splitW P8).2;obtain⟨d,r,rfl,h1,h2⟩:=hasAllW_cons j;obtain rfl:=hasAllW_nil h2;obtain⟨xs,rfl,o⟩:=hasW_list h1;obtain⟨ns,rfl⟩:=items_int o;have b:ns.length<=n:=by
  unfold OpenLaw.pre at f;have e:(WTm.not (.lt (.lit (.int (n:Int))) (.len (.arg 0)))).holds [] { args:=[.list (ns.map .int)] }=true:=by
   have e:=(holds_andW f).1;rw[m]at e;exact e
  have c:=condW_of e (w_not (w_lt w_lit (w_len_list (w_arg rfl))));rw[AA]at c;refine L3 λq=>?_;have k:(n:Int)<((ns.length:Nat):Int):=by omega
  first
   | (rw[hU k]at c;exact absurd c (by decide))
   | (simp at c;omega)
 cases Wj with
 |cons i g=>
  cases g;cases i with
  |list ho K5=>exact⟨_,_,ns,rfl,rfl,ho,mX ns _ K5,b⟩
theorem tJ(l:OpenLaw)(args:List WData):l.row.toRowW.claim.post args (.bool true) args=true:=
 postW_of (r:=l.row.toRowW) (X:=(true == true))
  (show WShape.has [] (.bool true) .bool=true by first|rfl|decide|simp[WShape.has,WShape.arms,WShape.armsAll])
  (show(WTm.eq .res (.lit (.bool true))).value [] { args:=args,res:=some (.bool true),after:=args }=some (.bool (true == true))from w_eq_bool (w_res rfl) w_lit) rfl
theorem oQ{loose:List Str}{XP:(ZBz)->Heap->Prop}{YP:World->Heap->Prop}{d:DefRec}
  (p:l.most=some n) (Mo:d.params.defaults=[])
  (call:∀(w:World)(s₀ s₁:Shared)(mg i:ZBz)(g:Addr)(o:Obj)(h cd c:Value)(a:Addr)(vs:List Value)(ns:List Int),
   Ground q loose [] XP w s₀ mg i s₁.heap->YP w s₁.heap->
   s₁.heap.get? g=some o->o.data=.func (docDef d.name d.params d.body d.scope h cd c)->s₁.heap.CodeRec cd d.name->mg d.name=some (.ref g)->
   s₁.heap.get? a=some { cls:=.type "list", data:=.seq vs.toArray }->IntsAre vs ns->ns.length<=n->s₁.gens=#[]->
   codeAny (model l.prog w) callerA (.call (.ref g) ⟨[.ref a],[]⟩) (λr s'=>r=.ok (.ret (.bool true))/\OldK s₁.heap s'.heap/\s'.os=s₁.os/\AllBare s'.gens) s₁) :
  WalkO q loose XP YP l.row.toRowW d [] (λf vs=>PySem.call f vs):=by
 intro w s₀ s₁ mg i G Y g o h cd c x kV ho hd Ea j NJ hg args vals as P8 ZBi k Wj t;obtain rfl:x=.none:=Dflts.none j Mo;obtain rfl:kV=.none:=Dflts.noKw j;obtain⟨a,vs,ns,rfl,rfl,V4,b,e⟩:=yY p P8 Wj;refine enter_call (xx (call w s₀ s₁ mg i g o h cd c a vs ns G Y ho (fd_plain hd) Ea NJ V4 b e hg) λr s' m=>?_);obtain⟨rfl,h2,v,u⟩:=m;exact⟨.inl ⟨.bool true,.bool true,[],rfl,λ_=>rfl,.bool true,tJ l _,λ_=>⟨List.Pairwise.nil,λ_ s=>(nomatch s)⟩⟩,h2,v,u⟩
section
variable{w:World}{A:Around}{E:Value->Shared->Prop}{s:Shared}{K:Frag}
noncomputable def Pd(h:Heap):Heap:={ h with objs:=#[] }
theorem Of(h:Heap)(b:Addr):(Pd h).get? b=none:=by
 cases e:(Pd h).get? b with
 |none=>rfl
 |some o=>exact absurd (AY e) (Nat.not_lt_zero _)
noncomputable def ledger(h:Heap)(L d:Addr):ZBy:=(List.range h.objs.size).filterMap λa=>if a=L∨a=d then none else(h.get? a).map λo=>(a,o)
theorem wt{h:Heap}{L d a:Addr}{o:Obj}:(a,o)∈ledger h L d↔a≠L/\a≠d/\h.get? a=some o:=by
 unfold ledger;rw[ZAi];constructor
 .rintro⟨b,_,e⟩;split at e
  .cases e
  .rename_i hb;obtain⟨o',ho,g⟩:=Option.map_eq_some_iff.mp e;cases g;exact⟨λq=>hb (.inl q),λq=>hb (.inr q),ho⟩
 .rintro⟨f,c,ho⟩;refine⟨a,List.mem_range.mpr (AY ho),?_⟩;rw[i3 (show ¬ (a=L∨a=d)from λq=>q.elim f c),ho] <;> rfl
theorem ka{h:Heap}{L:Addr}{m:ZBz}(n:h.Ns L m):Fr (Pd h) L h m:=
 ⟨n,λb o e=>(by rw[Of]at e;cases e),Bo _⟩
end
end HC
namespace L2
variable{X:Cx}{qual x:Str}{a f:Addr}{fd:FuncData}{ps:List Str}{A B:Prop}
theorem Xr:∀{vs:List Value}{ns:List Int},IntsAre vs ns->Vals (ns.map V.int) vs
 |_,_,.nil=>.nil
 |_,_,.cons n t h=>.cons ⟨t,rfl⟩ (Xr h)
noncomputable def JX(s:Stmt):Arguments:=match s with
 | .FunctionDef _ a _ _ _ _ _ _ _ _=>a
 |_=>{ posonlyargs:=[],args:=[],vararg:=none,kwonlyargs:=[],kw_defaults:=[],kwarg:=none,defaults:=[] }
noncomputable def Dy(s:Stmt):List Stmt:=match s with
 | .FunctionDef _ _ b _ _ _ _ _ _ _=>b
 |_=>[]
noncomputable def AQ(s:Stmt):Scope:=match s with
 | .FunctionDef _ _ _ _ _ _ sc _ _ _=>sc
 |_=>{ kind:=.function,names:=[],isGenerator:=false,isCoroutine:=false }
abbrev De:G4:=λ_ _ _ _ _ _=>False
abbrev E0:XK:=λ_ _ _=>False
theorem mL:Passes De X E0:=λ_ _ _ _ _ _ _ h=>h.elim
structure AR (K:ZBx) (x qual:Str) (st:Stmt) (f:Addr) (fd:FuncData):Prop where
 ex:∃(oc:Value)(od:Option Addr)(kV doc pm:Value)(an:Option Addr)(Ad ct:Value)(Fq:Array (Option Value)),
  fd=PySem.W.fnOf x qual (JX st) (Dy st) (AQ st) .none kV doc pm an Ad ct/\K.lookup f=some ⟨oc,od,.func fd,Fq⟩/\PySem.W.codeIn K Ad qual=true
 kp:PySem.W.keepIn K (.ref f)=true
section
variable{P:Program}{w:World}{K:ZBx}{mg:ZBz}{ZB:Heap}
theorem AR.ok{st:Stmt}{N:List Str}{k:Nat}{sp:Sp}(F:AR K x qual st f fd)(S:BG N ps (AQ st))(len:∀vs H Q E,sp vs H Q E->vs.length=ps.length)
  (IE:∀(Ad:Value)(A:Around)(outer:List Env)(s:Shared)(H:Hp)(vs:List V)(Q:VK)(E:XK),BY k (A.deeper (envOfC qual (AQ st) s.heap.objs.size f Ad))->sp vs H Q E->
   ∃t,Dt (G6 De P w K mg ZB N qual (AQ st) f Ad A outer s H E).GX (Dy st) t/\t { nx:=λ_ H'=>Q .A6 H',rt:=Q } (start N vs) H):E5 P w K mg ZB De (k+1) f fd ps sp:=by
 obtain⟨g,e,kV,c,d,i,Ad,ct,Fq,rfl,a,Ea⟩:=F.ex;refine aW a Ea S len λA outer s H vs Q E b Fc=>?_;obtain⟨t,h,q⟩:=IE Ad A outer s H vs Q E b Fc;exact⟨t,h.GX,q⟩
theorem AR.binds{st:Stmt}(F:AR K x qual st f fd)
  (h:∀(kV a b:Value)(c:Option Addr)(Ad ct:Value)(us:List Value),us.length=ps.length->bindArgs (PySem.W.fnOf x qual (JX st) (Dy st) (AQ st) .none kV a b c Ad ct) ⟨us,[]⟩=pure (ps.zip us)):Binds K fd ps []:=by
 obtain⟨e,d,kV,a,b,c,Ad,ct,Fq,rfl,g,Ea⟩:=F.ex;exact .all (h kV a b c Ad ct)
theorem vM{st:Stmt}{g:Value}{e d:Option Addr}{Fq:Array (Option Value)}{kV a b Ad ct:Value}(l:K.lookup f=some ⟨g,e,.func (PySem.W.fnOf x qual (JX st) (Dy st) (AQ st) .none kV a b d Ad ct),Fq⟩)
  (c:PySem.W.codeIn K Ad qual=true) (k:PySem.W.keepIn K (.ref f)=true):AR K x qual st f (PySem.W.fnOf x qual (JX st) (Dy st) (AQ st) .none kV a b d Ad ct):=⟨⟨g,e,kV,a,b,d,Ad,ct,Fq,rfl,l,c⟩,k⟩
end
theorem Mx{A:Around}{k:Nat}(a:BY k A):A.units+1<cLine:=Jg (Nat.add_le_add_left (by decide:1<=64) _) a.units
theorem FP(h:B):if false=true then A else B:=by
 rw[i3 D1];exact h
theorem Jj(h:A):if true=true then A else B:=by
 rw[i5 rfl];exact h
theorem CC{c:Prop}[Decidable c](h1:c->A)(h2:¬ c->B):if c then A else B:=by
 by_cases h:c
 .rw[i5 h];exact h1 h
 .rw[i3 h];exact h2 h
def AD(H H':Hp):Prop:=∀b o,H b=some o->H' b=some o
theorem AD.refl(H:Hp):AD H H:=λ_ _ h=>h
theorem AD.trans{H H1 H2:Hp}(a:AD H H1)(b:AD H1 H2):AD H H2:=λc o h=>b c o (a c o h)
theorem AD.seq{K:ZBx}{H H':Hp}{xs:List V}(e:AD H H')(h:AG K H a xs):AG K H' a xs:=by
 rcases h with(h|⟨o,h⟩)|h
 .exact .inl (.inl (e _ _ h))
 .exact .inl (.inr ⟨o,e _ _ h⟩)
 .exact .inr h
end L2
set_option maxHeartbeats 4000000
namespace L2
variable{α κ:Type}{o:Option V}{u v:Value}{A9:List (List Key×V)}{y:V}{w:World}{H H' H1 H2 H4:Hp}{xs:List (List Key×Addr×Value)}{C a acc b it n:Addr}{X Y:Cx}{Zq:ZBy}{ws Z:St}{s s2 s4:Shared}{A:Around}{E Q:Value->Shared->Prop}{h' h1:Heap}{i j n0 t' tk:Nat}{prog:Program}{env:Env}{c e elt tg value:Expr}{JE pos px py:Pos}{td te ty:TE}{outer scope:Scope}{t tt:TT}{cl closure:List (Str×Addr)}{qual x:Str}{ce:Option Str}{es ifs:List Expr}{R:Result->Shared->Prop}{js:List Nat}{J:It}{tn:Nat->Heap->Prop}{wi:TI}{CW:It->St->Hp->Addr->VK->Prop}{N:List Str}{tp:Bool}{ys:List V}{A0:List Value}
section
variable[DecidableEq κ]
noncomputable def ES(A9:List (κ×V))(k:κ):Option V:=(A9.find? λkv=>decide (kv.1=k)).map (·.2)
def putK(A9:List (κ×V))(k:κ)(v:V):List (κ×V):=
 if(A9.any λkv=>decide (kv.1=k))=true then A9.map (λkv=>if kv.1=k then(kv.1,v)else kv)else A9++[(k,v)]
theorem RA{p:κ×V}{r:List (κ×V)}{k:κ}(e:p.1=k):ES (p::r) k=some p.2:=by simp[ES,OH,e]
theorem RI{p:κ×V}{r:List (κ×V)}{k:κ}(e:¬ p.1=k):ES (p::r) k=ES r k:=by simp[ES,OH,e]
theorem Uc(k:κ):∀A9:List (κ×V),(A9.any λkv=>decide (kv.1=k))=(ES A9 k).isSome
 | []=>rfl
 |p::r=>by
  rw[MM]
  by_cases e:p.1=k
  .simp only[RA e,hU e,Bool.true_or,ZAu]
  .rw[RI e,iF e,X0];exact Uc k r
theorem Yi(A9:List (κ×V))(k:κ)(v:V):(putK A9 k v).length<=A9.length+1:=by
 unfold putK;split
 .rw[AA];omega
 .rw[BX,BA,RZ];omega
theorem GR.Rt{u:Option Value}(r:GR o u):o.isSome=u.isSome:=by
 cases o with
 |none=>cases u with
  |none=>rfl
  |some _=>exact(show False from r).elim
 |some _=>cases u with
  |none=>exact(show False from r).elim
  |some _=>rfl
theorem KV.val{A9:List (κ×V)}{vs:List (κ×Value)}(r:KV A9 vs)(k:κ):GR (ES A9 k) (valueAt vs k):=by
 unfold KV at r
 induction r with
 |nil=>exact True.intro
 |@cons p q ps a h t d=>
  obtain⟨h1,h2⟩:=h
  by_cases e:p.1=k
  .have c:q.1=k:=h1.symm.trans e;have b:valueAt (q::a) k=some q.2:=by simp[valueAt,OH,c]
   rw[RA e,b];exact h2
  .have c:¬ q.1=k:=λz=>e (h1.trans z);have b:valueAt (q::a) k=valueAt a k:=by simp[valueAt,OH,c]
   rw[RI e,b];exact d
theorem KV.any{A9:List (κ×V)}{vs:List (κ×Value)}(r:KV A9 vs)(k:κ):(A9.any λkv=>decide (kv.1=k))=vs.any λkv=>decide (kv.1=k):=by
 unfold KV at r
 induction r with
 |nil=>rfl
 |cons h t a=>rw[MM,MM,a,h.1]
theorem KV.Th{A9:List (κ×V)}{vs:List (κ×Value)}(r:KV A9 vs)(k:κ)(a:RelV y u):
  KV (A9.map λkv=>if kv.1=k then(kv.1,y)else kv) (vs.map λkv=>if kv.1=k then(kv.1,u)else kv):=by
 unfold KV at r ⊢
 induction r with
 |nil=>exact .nil
 |@cons p q ps c h t b=>
  rw[E9,E9];refine .cons ?_ b;obtain⟨h1,h2⟩:=h
  by_cases e:p.1=k
  .rw[i5 e,i5 (h1.symm.trans e)];exact⟨h1,a⟩
  .rw[i3 e,i3 (λz=>e (h1.trans z))];exact⟨h1,h2⟩
theorem KV.put{A9:List (κ×V)}{vs:List (κ×Value)}(r:KV A9 vs)(k:κ)(a:RelV y u):KV (putK A9 k y) (stored vs k u):=by
 unfold putK stored;rw[r.any k]
 by_cases e:(vs.any λkv=>decide (kv.1=k))=true
 .rw[i5 e,i5 e];exact r.Th k a
 .rw[i3 e,i3 e];exact Paired.snoc r ⟨rfl,a⟩
theorem KV.length{A9:List (κ×V)}{vs:List (κ×Value)}(r:KV A9 vs):A9.length=vs.length:=gf r
end
theorem Ou{P:Program}{k:Key}(r:RelV (kV k) u):(FT P w).is k u=true:=by
 cases k with
 |inl i=>obtain⟨t,e⟩:=(show ∃t,u=Value.int i t from r);subst e;exact mR P w i t
 |inr x=>obtain⟨t,e⟩:=(show ∃t,u=Value.str x t from r);subst e;exact pL P w x t
theorem dE{P:Program}{w:World}:∀{ks:List Key}{us:List Value},Vals (ks.map kV) us->ItemsAre (FT P w) ks us
 | [],_,r=>by rw[Rb]at r;cases r;exact .nil
 |k::ks,_,r=>by
  rw[E9]at r;cases r with
  |cons h t=>exact .cons (Ou h) (dE t)
abbrev KT(H:Hp):List (List Key×V)->List (List Key×Addr×Value)->Prop:=Paired λp q=>p.1=q.1/\H q.2.1=some (.tup (p.1.map kV))/\RelV p.2 q.2.2
theorem KT.val(r:KT H A9 xs)(k:List Key):GR (ES A9 k) ((atKey xs k).map (·.2)):=by
 induction r with
 |nil=>exact True.intro
 |@cons p q ps a h t d=>
  obtain⟨h1,_,h2⟩:=h
  by_cases e:p.1=k
  .have c:q.1=k:=h1.symm.trans e;have b:atKey (q::a) k=some q.2:=by simp[atKey,OH,c]
   rw[RA e,b];exact h2
  .have c:¬ q.1=k:=λz=>e (h1.trans z);have b:atKey (q::a) k=atKey a k:=by simp[atKey,OH,c]
   rw[RI e,b];exact d
theorem KT.Th(r:KT H A9 xs)(k:List Key)(a:RelV y u):
  KT H (A9.map λkv=>if kv.1=k then(kv.1,y)else kv) (xs.map (putAt k u)):=by
 induction r with
 |nil=>exact .nil
 |@cons p q ps d h t b=>
  rw[E9,E9];refine .cons ?_ b;obtain⟨h1,h2,c⟩:=h;unfold putAt
  by_cases e:p.1=k
  .rw[i5 e,i5 (h1.symm.trans e)];exact⟨h1,h2,a⟩
  .rw[i3 e,i3 (λz=>e (h1.trans z))];exact⟨h1,h2,c⟩
theorem KT.put(r:KT H A9 xs)(k:List Key)(c:H b=some (.tup (k.map kV)))(a:RelV y u):
  KT H (putK A9 k y) (storedH xs k b u):=by
 have e:(A9.any λkv=>decide (kv.1=k))=(atKey xs k).isSome:=by
  rw[Uc,(r.val k).Rt,gc]
 unfold putK storedH;rw[e]
 by_cases q:(atKey xs k).isSome=true
 .rw[i5 q,i5 q];exact r.Th k a
 .rw[i3 q,i3 q];exact Paired.snoc r ⟨rfl,c,a⟩
theorem KT.keeps(r:KT H A9 xs)(a:∀b ys,H b=some (.tup ys)->H' b=some (.tup ys)):KT H' A9 xs:=
 Paired.Sw r λ_ _ z=>⟨z.1,a _ _ z.2.1,z.2.2⟩
section
variable{P:Program}{h:Heap}
theorem bN{u:HO}(ok:Bx P w H h)(e:Rd H a u):Bl P w H h a u:=e.ok ok
theorem R0{A9:List (Key×V)}(ok:Bx P w H h)(e:Rd H a (.dK A9)):A9.length<=sizeLine/\(a == sysModules)=false/\∃vs,KV A9 vs/\h.DictOf (FT P w) a vs:=
 show Bl P w H h a (.dK A9)from bN ok e
theorem pJ{A9:List (Key×V)}(ok:Bx P w H h)(e:H a=some (.dK A9)):A9.length<=sizeLine/\(a == sysModules)=false/\∃vs,KV A9 vs/\h.DictOf (FT P w) a vs:=R0 ok (.inl e)
theorem PX{ks:List Key}(ok:Bx P w H h)(e:H a=some (.tup (ks.map kV))):(tupleKind (FT P w)).is h ks a:=by
 obtain⟨_,A0,r,⟨o,h1,h2,n,b⟩,_⟩:=(show Bl P w H h a (.tup (ks.map kV))from ok a _ e);exact⟨o,A0.toArray,n,h1,h2,b,by simpa using dE r⟩
theorem P0(ok:Bx P w H h)(e:Rd H a (.dT A9)):A9.length<=sizeLine/\(a == sysModules)=false/\
  ∃xs,KT H A9 xs/\h.DictOfH (tupleKind (FT P w)) a xs:=by
 obtain⟨z,y,xs,r,o,es,ep,h1,h2,g,f,d⟩:=(show Bl P w H h a (.dT A9)from bN ok e);refine⟨z,y,xs,r,o,es,ep,h1,h2,g,f,λx hx=>?_,d⟩;have all:∀{l:List (List Key×V)}{m:List (List Key×Addr×Value)},KT H l m->∀x∈m,(tupleKind (FT P w)).is h x.1 x.2.1:=by
  intro l m q
  induction q with
  |nil=>intro x hx;exact nomatch hx
  |@cons p q ps i b t c=>
   intro x hx;rcases List.mem_cons.mp hx with e|hx
   .subst e;exact PX ok (by rw[<- b.1];exact b.2.1)
   .exact c x hx
 exact all r x hx
theorem tH(ok:Bx P w H h)(e:H a=some (.dT A9)):A9.length<=sizeLine/\(a == sysModules)=false/\
  ∃xs,KT H A9 xs/\h.DictOfH (tupleKind (FT P w)) a xs:=P0 ok (.inl e)
end
def Gy(H:Hp)(a:Addr)(y:V)(r:Option V):Prop:=
 (∃A9 k,Rd H a (.dK A9)/\y=kV k/\r=ES A9 k)∨∃A9 k b,Rd H a (.dT A9)/\y=.ref b/\H b=some (.tup (k.map kV))/\r=ES A9 k
def Nx(H:Hp)(a:Addr)(y v:V)(H':Hp):Prop:=
 (∃A9 k,H a=some (.dK A9)/\y=kV k/\A9.length<sizeLine/\H'=upd H a (.dK (putK A9 k v)))∨
 ∃A9 k b,H a=some (.dT A9)/\y=.ref b/\H b=some (.tup (k.map kV))/\A9.length<sizeLine/\H'=upd H a (.dT (putK A9 k v))
theorem Gy.k{A9:List (Key×V)}{k:Key}(e:H a=some (.dK A9)):Gy H a (kV k) (ES A9 k):=.inl ⟨A9,k,.inl e,rfl,rfl⟩
theorem Nx.k{A9:List (Key×V)}{k:Key}{v:V}(e:H a=some (.dK A9))(b:A9.length<sizeLine):Nx H a (kV k) v (upd H a (.dK (putK A9 k v))):=.inl ⟨A9,k,e,rfl,b,rfl⟩
section
variable{v:V}{r:Value}
theorem Inv.big(I:Inv X Zq Z H s):sysModules<s.heap.objs.size:=by
 have h:mainGlobals<s.heap.objs.size:=(I.mod.glob.keeps I.bk).lt;exact XR (by decide) h
theorem qK(j:A.units+1<cLine)(I:Inv X Zq Z H s)(g:Gy H a y (some v))(i:RelV y u)(h:∀d s',Inv X Zq Z H s'->RelV v d->Q d s'):
  wpAny (model X.prog X.w) A (getItem (.ref a) u) Q E s:=by
 rcases g with⟨A9,k,e,f,l⟩|⟨A9,k,b,e,f,n,l⟩
 .subst f;obtain⟨z,hd,vs,c,dd⟩:=R0 I.AE e;obtain⟨d,hw,Hf⟩:=GR.some_of (v:=v) (o:=valueAt vs k) (by rw[l];exact c.val k);exact wpAny_getItem_of (Ou i) dd.mapOf hw (h d _ (I.tok _) Hf)
 .subst f;cases(show u=Value.ref b from i);obtain⟨z,hd,xs,c,dd⟩:=P0 I.AE e;obtain⟨d,hw,Hf⟩:=GR.some_of (v:=v) (o:=(atKey xs k).map (·.2)) (by rw[l];exact c.val k)
  obtain⟨p,m,Xm⟩:=Option.map_eq_some_iff.mp hw;refine wpAny_getItem_heap (ZA6 j) (PX I.AE n) dd m ?_;rw[Xm];exact h d _ (I.tok _) Hf
theorem xW(i:A.units+1<cLine)(I:Inv X Zq Z H s)(g:Gy H a y o)(f:RelV y u)(h:∀s',Inv X Zq Z H s'->Q (.bool (!o.isSome)) s'):
  wpAny (model X.prog X.w) A (compareOp .NotIn u (.ref a)) Q E s:=by
 rcases g with⟨A9,k,e,d,l⟩|⟨A9,k,b,e,d,j,l⟩
 .subst d;obtain⟨z,hd,vs,c,dd⟩:=R0 I.AE e;refine wpAny_notIn_of (Ou f) hd dd.mapOf ?_;rw[<- (c.val k).Rt,<- l];exact h _ (I.tok _)
 .subst d;cases(show u=Value.ref b from f);obtain⟨z,hd,xs,c,dd⟩:=P0 I.AE e;refine wpAny_notIn_heap (ZA6 i) (PX I.AE j) hd dd ?_;have q:=(c.val k).Rt;rw[gc]at q;rw[<- q,<- l];exact h _ (I.tok _)
theorem Z3{c:HO}(I:Inv X Zq Z H s)(mu:Mr (H a))(d:Heap.SameBut a s.heap h')(f:∃q,h'.get? a=some q)(new:Bl X.prog X.w (upd H a c) h' a c):
  Inv X Zq Z (upd H a c) { s with heap:=h',toks:=t' }:=
 I.write (x:=a) (e:=a) mu (.inl rfl) (λb q g z=>(d.2 b g).trans z) f new
theorem xS{P:Program}{A9:List (Key×V)}{vs:List (Key×Value)}(z:A9.length<=sizeLine)(hd:(a == sysModules)=false)(b:KV A9 vs)(dd:h'.DictOf (FT P w) a vs):
  Bl P w H' h' a (.dK A9):=⟨z,hd,vs,b,dd⟩
theorem jB{Q:Unit->Shared->Prop}(B:A.units+1<cLine)(I:Inv X Zq Z H s)(g:Nx H a y v H')(o:RelV y u)(p:RelV v r)(h:∀s',Inv X Zq Z H' s'->Q () s'):
  wpAny (model X.prog X.w) A (setItem (.ref a) u r) Q E s:=by
 rcases g with⟨A9,k,e,m,l,n⟩|⟨A9,k,b,e,m,x,l,n⟩
 .subst m n;obtain⟨z,hd,vs,d,dd⟩:=pJ I.AE e;have hz:vs.length<=sizeLine:=by rw[<- d.length];exact z
  have j:(putK A9 k v).length<=sizeLine:=by have:=Yi A9 k v;omega
  refine wpAny_setItem_pairs (hsz:=hz) (Ou o) dd λh' PF i=>h _ ?_;have C:∃q,h'.get? a=some q:=let ⟨q,_,_,f,_⟩:=PF;⟨q,f⟩;exact Z3 I (by rw[e];exact True.intro) i C (xS j hd (d.put k p) PF)
 .subst m n;cases(show u=Value.ref b from o);obtain⟨z,hd,xs,d,dd⟩:=tH I.AE e;have hz:xs.length<=sizeLine:=by rw[<- gf d];exact z
  have j:(putK A9 k v).length<=sizeLine:=by have:=Yi A9 k v;omega
  refine wpAny_setItem_heap (hsz:=hz) (ZA6 B) (PX I.AE x) dd λh' PF i=>h _ ?_;obtain⟨q,es,ep,f,h2,G,F,_,D⟩:=PF;refine Z3 I (by rw[e];exact True.intro) i ⟨q,f⟩ ⟨j,hd,_,(d.put k x p).keeps λc ys t=>?_,q,es,ep,f,h2,G,F,D⟩;rw[AS (x9 t e (λz=>nomatch z))];exact t
variable{A9:List (Key×V)}{k:Key}
end
def TZ(i:Expr):Prop:=∀a b,subscripted i false a b=operate [a,b] (getItem a b)
theorem zN{a:Expr}{T id:String}
  (k:typeLookup (.type T) "__getitem__"=pure (some (.builtin id))) (j:TZ a)
  (h:wpAny (model prog w) A (eval value env) (λo s₁=>wpAny (model prog w) A (eval a env) (λi b=>b.TypeIs o T/\wpAny (model prog w) A (getItem o i) Q E b) E s₁) E s) :
  wpAny (model prog w) A (eval (.Subscript value a pos) env) Q E s:=by
 refine Subscript_ (ki h (λo s₁ g=>ki g (λi b c=>?_) λ_ _ x=>x) λ_ _ x=>x);obtain⟨e,c⟩:=c;unfold subscriptTail;refine dP ?_;rw[getitemInPython_of_ne e.not_modules];refine dP (wpAny_specialOf e k ?_);have fin:wpAny (model prog w) A (subscripted a false o i) (λr d=>wpAny (model prog w) A (letTemporaryGo value o r >>= λ_=>pure r) Q E d) E b:=by
  rw[j o i];exact wpAny_operating (ki c (λr d f=>dP (wpAny_letTemporaryGo (hJ f))) λ_ _ x=>x)
 first
  |exact hJ (dP fin)
  |exact dP (hJ (dP fin))
  |exact dP fin
theorem zF(I:Inv X Zq Z H s)(g:Gy H a y o):s.TypeIs (.ref a) "dict" := by
 rcases g with⟨A9,k,e,_,_⟩|⟨A9,k,b,e,_,_,_⟩
 .obtain⟨_,_,vs,_,dd⟩:=R0 I.AE e;exact dd.typeIs
 .obtain⟨_,_,xs,_,dd⟩:=P0 I.AE e;exact dd.typeIs
def WG(td ty:TE):TE:=λZ H Q=>td Z H λx H1=>ty Z H1 λy H2=>∃a v,x=.ref a/\Gy H2 a y (some v)/\Q v H2
def QB(ty td:TE):TE:=λZ H Q=>ty Z H λy H1=>td Z H1 λx H2=>∃a o,x=.ref a/\Gy H2 a y o/\Q (.bl (!o.isSome)) H2
def Qa(td ty tv:TE):TS:=λD Z H=>tv Z H λv H1=>td Z H1 λx H2=>ty Z H2 λy H3=>∃a H4,x=.ref a/\Nx H3 a y v H4/\D.nx Z H4
section
variable{o i:Expr}{pos' UA:Pos}{tv:TE}
theorem lX(j:X.A.units+1<cLine)(hi:PE X i ty)(ho:PE X o td):PC X .NotIn i o (QB ty td):=by
 intro Zq s Z H Q I h;refine hi.k I h λm s1 y H1 I1 b e=>ho.k I1 e λu s2 x H2 I2 c⟨a,f,ex,g,d⟩=>?_;subst ex;obtain rfl:u=Value.ref a:=c;exact xW j I2 g b λl I3=>⟨.bl (!f.isSome),H2,I3,rfl,d⟩
end
theorem qg{P:Program}(h:Heap)(a:sysModules<h.objs.size):Bl P w H (h.push { cls:=.type "dict", data:=.dict #[] }) h.objs.size (.dK []):=
 ⟨Bo _,beq_eq_false_iff_ne.mpr (BM (Az a)),[],.nil,Heap.DictOf.new h⟩
def PN:TE:=λ_ H Q=>∀p,H p=none->Q (.ref p) (upd H p (.dK []))
theorem lN{β:Type}{l:List α}{f:α->β->Sem (ForInStep β)}(g:β->α->β)(h:∀x∈l,∀c,f x c=pure (.yield (g c x))):∀c,forIn l c f=pure (l.foldl g c):=by
 induction l with
 |nil=>intro c;rfl
 |cons x l a=>
  intro c;rw[gK,h x Aj,pure_bind];exact a (λy b=>h y (B2 _ b)) (g c x)
noncomputable def Jz(cells:List (Str×Addr))(cs:List (Str×Addr))(x:Str×NameKind):List (Str×Addr):=
 if x.2=.free then(x.1,(cells.lookup x.1).getD 0)::cs else cs
def BE(cells:List (Str×Addr))(names:List (Str×NameKind)):List (Str×Addr):=names.foldl (Jz cells) []
theorem Za(h:∀x∈scope.names,x.2=.free->(env.cells.lookup x.1).isSome=true):closureFor scope env=pure (BE env.cells scope.names):=by
 simp only[closureFor];rw[lN (Jz env.cells) (λx hx c=>by
  obtain⟨n,k⟩:=x;unfold Jz
  by_cases hk:k=NameKind.free
  .subst hk;have q:=h _ hx rfl;obtain⟨a,e⟩:=Option.isSome_iff_exists.mp q;have b:env.cells.lookup n=some a:=e;have d:cellOf env n=pure a:=by unfold cellOf;rw[b]
   simp[d,b]
  .have:(k == NameKind.free)=false:=by simpa using hk
   simp[this,hk])]
 rfl
theorem Vw{cells:List (Str×Addr)}:∀(names:List (Str×NameKind))(acc:List (Str×Addr)),(∀y∈names,y.2=.free->(cells.lookup y.1).isSome=true)->
  (∀x c,acc.lookup x=some c->cells.lookup x=some c)->∀x c,(names.foldl (Jz cells) acc).lookup x=some c->cells.lookup x=some c
 | [],acc,_,ha,x,c,e=>ha x c e
 | (n,k)::r,acc,hs,ha,x,c,e=>by
  rw[RW]at e;refine Vw r _ (λy d=>hs y (B2 _ d)) (λx c e=>?_) x c e;unfold Jz at e
  by_cases hk:k=NameKind.free
  .rw[i5 hk]at e;have q:=hs _ Aj hk;obtain⟨a,q⟩:=Option.isSome_iff_exists.mp q;have b:cells.lookup n=some a:=q;rw[IV]at e
   by_cases hx:x=n
   .subst hx;simp only[pV,b,ZAt]at e;rw[b,<- e]
   .have f:(x == n)=false:=by simpa using hx
    rw[f]at e;exact ha x c e
  .rw[i3 hk]at e;exact ha x c e
theorem Mc{cells:List (Str×Addr)}{x:Str}:∀(names:List (Str×NameKind))(acc:List (Str×Addr)),((acc.lookup x).isSome=true∨(x,NameKind.free)∈names)->
  ((names.foldl (Jz cells) acc).lookup x).isSome=true
 | [],acc,h=>by
  rcases h with h|h
  .exact h
  .cases h
 | (n,k)::r,acc,h=>by
  rw[RW];refine Mc r _ ?_;unfold Jz;rcases h with h|h
  .refine .inl ?_;split
   .rw[IV];split
    .rfl
    .exact h
   .exact h
  .rcases List.mem_cons.mp h with e|h
   .cases e;refine .inl ?_;rw[i5 rfl,IV];simp
   .exact .inr h
theorem OT{env:Env}:∀(names:List (Str×NameKind))(x:Str),
  (names.map λ(n,k)=>if(k == NameKind.free && env.scope.kind == .function && env.kindOf n == some .cell)then(n,NameKind.cell)else(n,k)).lookup x =
   (names.lookup x).map λk=>if(k == NameKind.free && env.scope.kind == .function && env.kindOf x == some .cell)then NameKind.cell else k
 | [],x=>rfl
 | (n,k)::r,x=>by
  have c:=OT (env:=env) r x;rw[E9]
  by_cases a:(k == NameKind.free && env.scope.kind == .function && env.kindOf n == some .cell)=true
  .show List.lookup x ((if(k == NameKind.free && env.scope.kind == .function && env.kindOf n == some .cell)=true then(n,NameKind.cell)else(n,k))::_)=_
   rw[i5 a,IV,IV]
   by_cases hx:x=n
   .subst hx;simp only[pV,L4];rw[i5 a]
   .have b:(x == n)=false:=by simpa using hx
    rw[b];exact c
  .show List.lookup x ((if(k == NameKind.free && env.scope.kind == .function && env.kindOf n == some .cell)=true then(n,NameKind.cell)else(n,k))::_)=_
   rw[i3 a,IV,IV]
   by_cases hx:x=n
   .subst hx;simp only[pV,L4];rw[i3 a]
   .have b:(x == n)=false:=by simpa using hx
    rw[b];exact c
noncomputable abbrev G8(X:Cx)(N:List Str)(scope:Scope)(cl:List (Str×Addr))(C:Addr)(s:Shared)(H:Hp)(fp:List Addr):Cx:=
 { X with N:=N,s₀:=s,H₀:=H,env:=compEnvC scope cl C X.env,outer:=X.stack,ex:=fp,fn:=λ_=>false,pn:=[],xe:=λ_ _=>False }
noncomputable def Ak(js:List Nat)(Z:St):St:=js.map λj=>(Z[j]?).join
structure Cg (N:List Str) (outer scope:Scope) (x:Str) (A7:List Str) (js:List Nat):Prop where
 kind:scope.kind=.function
 GJ:∀y∈scope.names,y.2≠.cell
 loc:∀y∈scope.names,y.2=.local->scope.names.lookup y.1=some .local
 HI:scope.names.lookup x=some .local
 at':js.map (λj=>N[j]?)=A7.map some
 cell:∀y∈A7,outer.names.lookup y=some .cell
 free:∀y∈A7,scope.names.lookup y=some .free
 all:∀y∈scope.names,y.2=.free->outer.names.lookup y.1=some .cell
 nd:(A7++[x]).Nodup
def ID(X:Cx)(ifs:List Expr)(t:TT):Prop:=
 ∀(Zq:ZBy)(s:Shared)(Z:St)(H:Hp)(Q:Bool->Hp->Prop),Inv X Zq Z H s->t Z H Q->
  wpAny (model X.prog X.w) X.A (forIn ifs true λc r=>if r=true then do let ok <- isTrue c X.env (eval c X.env);pure (ForInStep.yield ok)else pure (ForInStep.yield r)) (TP X Zq Z Q) X.xe s
def LJ:TT:=λ_ H Q=>Q true H
theorem Y3:ID X [] LJ:=λZq s Z H Q I h=>by
 rw[XE];exact hJ ⟨H,I,h⟩
theorem zD(a:PT X c t):ID X [c] t:=λZq s Z H Q I h=>by
 rw[gK];refine dP ?_;rw[i5 rfl];refine dP (Ao (a Zq s Z H Q I h) λb s1 q=>hJ ?_);show wpAny _ _ (forIn [] b _) _ _ s1;rw[XE];exact hJ q
def Jt(J:It)(js:List Nat)(tt:TT)(te:TE)(Z:St)(H1:Hp)(acc:Addr)(Q:VK):Prop:=
 ∃W:Nat->Nat->Hp->Prop,(∃m,W 0 m (upd H1 acc (.lst [])))/\∀i m H2,W i m H2->
  (J.stop i H2/\Q (.ref acc) H2)∨(J.go i H2/\∀x H3,J.Dc i H2 x H3->tt (Ak js Z++[some x]) H3 λb H4=>
   if b=true then te (Ak js Z++[some x]) H4 λy H5=>∃ys,H5 acc=some (.lst ys)/\ys.length<sizeLine/\∃a,a < m/\W (i+1) a (upd H5 acc (.lst (ys++[y])))
   else ∃a,a < m/\W (i+1) a H4)
def GV(wi:TI)(js:List Nat)(tt:TT)(te:TE):TE:=λZ H Q=>wi Z H λJ H1=>∀acc,H1 acc=none->Jt J js tt te Z H1 acc Q
theorem vR(l:List α)(a b:α):(l++[a]).set l.length b=l++[b]:=by
 induction l with
 |nil=>rfl
 |cons x l c=>simp[c]
noncomputable def Gk:Option Str->Addr->List (Str×Addr)
 |none,_=>[]
 |some x,n=>[(x,n)]
noncomputable def NU:Option Str->Heap->Heap
 |none,h=>h
 |some _,h=>h.push { cls:=.type "cell", data:=.cell none }
structure DE (N:List Str) (outer scope:Scope) (ce:Option Str) (zs A7:List Str) (js:List Nat):Prop where
 kind:scope.kind=.function
 loc:∀y∈scope.names,y.2=.local->scope.names.lookup y.1=some .local
 one:∀y∈scope.names,y.2=.cell->ce=some y.1
 sub:∀x,ce=some x->x∈zs
 cf:∀(n:Nat)(cl:List (Str×Addr)),cellsFrom n scope.names cl=Gk ce n++cl
 pc:∀h:Heap,pushCells h scope.names=NU ce h
 at':js.map (λj=>N[j]?)=A7.map some
 cell:∀y∈A7,outer.names.lookup y=some .cell∨outer.names.lookup y=some .free
 free:∀y∈A7,scope.names.lookup y=some .free
 all:∀y∈scope.names,y.2=.free->outer.names.lookup y.1=some .cell∨outer.names.lookup y.1=some .free
 nd:(A7++zs).Nodup
abbrev EM(X:Cx)(N:List Str)(scope:Scope)(ce:Option Str)(cl:List (Str×Addr))(C:Addr)(s:Shared)(H:Hp)(fp:List Addr):Cx:=
 { X with N:=N,s₀:=s,H₀:=H,env:=compEnvC scope (Gk ce (C+1)++cl) C X.env,outer:=X.stack,ex:=fp,fn:=λy=>ce == some y,pn:=[],xe:=λ_ _=>False }
theorem og{M:Model}{a:Addr}{b:Option Addr}{c:Value}{outer:Env}{Q:Env->Shared->Prop}
  (cf:∀(n:Nat)(cl:List (Str×Addr)),cellsFrom n scope.names cl=Gk ce n++cl) (pc:∀h:Heap,pushCells h scope.names=NU ce h)
  (d:Q (newEnv scope s.heap.objs.size a (Gk ce (s.heap.objs.size+1)++closure) qual b c (some outer) builtinsNs) { s with heap:=NU ce (s.heap.push { cls:=.type "dict", data:=.dict #[] }) }) :
  wpAny M A (newFunctionEnv scope a closure [] qual b c (some outer)) Q E s:=by
 simp only[newFunctionEnv,ZAu,ZBF];refine dP (wpAny_alloc ?_);refine dP (wpAny_layCells _ (λname kind cells=>by cases e:kind == NameKind.cell <;> simp[e]) _ _ _ _ ?_)
 rw[cf,pc];rw[show({ s with heap:=s.heap.push { cls:=.type "dict", data:=.dict #[] } }:Shared).heap.objs.size=s.heap.objs.size+1 from DM ..]
 refine dP ?_;rw[XE];exact hJ (hJ d)
theorem Zg{y:Str}{c:Addr}(h:(Gk ce n++cl).lookup y=some c):(ce=some y/\c=n)∨(ce≠some y/\cl.lookup y=some c):=by
 cases ce with
 |none=>exact .inr ⟨λz=>(by cases z),h⟩
 |some x=>
  have h:((x,n)::cl).lookup y=some c:=h;rw[IV]at h
  by_cases e:y=x
  .subst e;simp only[pV]at h;exact .inl ⟨rfl,(B3 h).symm⟩
  .have a:(y == x)=false:=by simpa using e
   rw[a]at h;exact .inr ⟨λz=>e (B3 z).symm,h⟩
theorem R8{y:Str}(h:ce≠some y):(Gk ce n++cl).lookup y=cl.lookup y:=by
 cases ce with
 |none=>rfl
 |some x=>
  show((x,n)::cl).lookup y=_;have a:(y == x)=false:=beq_eq_false_iff_ne.mpr λz=>h (by rw[z]);rw[IV,a]
theorem PH:(Gk (some x) n++cl).lookup x=some n:=by
 show((x,n)::cl).lookup x=_;rw[IV,pV]
theorem kN{iter:Expr}{it acc:Value}(I:Nat->Shared->Prop)
  (a:∀n s,I n s->wpAny (model prog w) A (pyNext it) (λr s1=>match r with
   |none=>R (.ok .next) s1
   |some v=>wpAny (model prog w) A (letOwnedTupleGo tg it v) (λ_ s2=>wpAny (model prog w) A (assign tg env v) (λ_ g=>
     wpAny (model prog w) A (forIn ifs true λc r=>if r=true then do let ok <- isTrue c env (eval c env);pure (ForInStep.yield ok)else pure (ForInStep.yield r)) (λok s4=>if ok=true then
      wpAny (model prog w) A (eval elt env) (λx f=>wpAny (model prog w) A (call (.builtin "list.append") [acc,x]) (λ_ d=>∃m,m<n/\I m d) (notedBy (model prog w) A env λe s'=>R (.error e) s') f) (notedBy (model prog w) A env λe s'=>R (.error e) s') s4
      else ∃m,m<n/\I m s4) (notedBy (model prog w) A env λe s'=>R (.error e) s') g)
     (notedBy (model prog w) A env λe s'=>R (.error e) s') s2) (notedBy (model prog w) A env λe s'=>R (.error e) s') s1) (notedBy (model prog w) A env λe s'=>R (.error e) s') s)
  (n:Nat) (h:I n s):codeAny (model prog w) A (.compLoop (.ListComp elt [⟨tg,iter,ifs,0⟩] scope pos) 0 it acc env) R s:=by
 refine codeAny_loop rfl I (λn s p=>(show wpAny _ A ((compTurn (.ListComp elt [⟨tg,iter,ifs,0⟩] scope pos) 0 it acc env).onRaise (λx=>do noteFrame x env;theTreesLotGoes x)) _ _ s from wpAny_noted ?_)) n h
 rw[compTurn_list];refine dP (wpAny_standAt (dP (ki (a n s p) (λr s1 i=>?_) λ_ _ z=>z)));cases r with
 |none=>exact hJ i
 |some v=>
  refine dP (ki i (λ_ s2 o=>dP (ki o (λ_ g l=>dP (ki l (λok s4 b=>?_) λ_ _ z=>z)) λ_ _ z=>z)) λ_ _ z=>z);cases ok with
  |false=>
   rw[i3 (by decide)]at b;exact dP (hJ (hJ ⟨rfl,b⟩))
  |true=>
   rw[i5 rfl]at b;exact dP (dP (ki b (λx f k=>dP (ki k (λ_ d j=>hJ (hJ ⟨rfl,j⟩)) λ_ _ z=>z)) λ_ _ z=>z))
abbrev O1(tt:TT)(te:TE)(acc:Addr)(W:Nat->Nat->Hp->Prop)(i m:Nat)(Z:St)(H:Hp):Prop:=
 tt Z H λb H4=>if b=true then te Z H4 λy H5=>∃ys,H5 acc=some (.lst ys)/\ys.length<sizeLine/\∃m',m' < m/\W (i+1) m' (upd H5 acc (.lst (ys++[y])))
  else ∃m',m' < m/\W (i+1) m' H4
def LM(g:TG)(n:Nat)(J:It)(js:List Nat)(tt:TT)(te:TE)(Z:St)(H1:Hp)(acc:Addr)(Q:VK):Prop:=
 ∃W:Nat->Nat->Hp->Prop,(∃m,W 0 m (upd H1 acc (.lst [])))/\∀i m H2,W i m H2->
  (J.stop i H2/\Q (.ref acc) H2)∨(J.go i H2/\∀x H3,J.Dc i H2 x H3->∀ws,ws.length=n->g x (Ak js Z++ws) H3 λσ8 H8=>∃us,us.length=n/\σ8=Ak js Z++us/\O1 tt te acc W i m σ8 H8)
def cQ(CW:It->St->Hp->Addr->VK->Prop)(wi:TI):TE:=λZ H Q=>wi Z H λJ H1=>∀acc,H1 acc=none->CW J Z H1 acc Q
section
variable{iter:Expr}{zs A7:List Str}{fp:List Addr}{g:TG}
theorem k8(h:scope.names.lookup x=some .cell):(relabel scope env).names.lookup x=some .cell:=by
 refine(OT (env:=env) scope.names x).trans ?_;rw[h];simp
theorem iT{n:Nat}{v:V}(h:(List.replicate n (none:Option V))[i]?=some (some v)):False:=by
 rw[gL]at h
 by_cases c:i<n
 .rw[i5 c]at h;cases h
 .rw[i3 c]at h;cases h
theorem qr(S:DE X.N X.env.scope scope ce zs A7 js)(I3:Inv X Zq Z H2 s2)(E:∀b∈fp,EI X Zq H2 b)(OS:∀b∈fp,b<s2.heap.objs.size)
  {m:ZBz}(E7:h1.Ns s2.heap.objs.size m) (old:∀b o,s2.heap.get? b=some o->h1.get? b=some o) (D:∀x,ce=some x->h1.IsCell (s2.heap.objs.size+1) none) :
  Inv (EM X (A7++zs) scope ce (BE X.env.cells scope.names) s2.heap.objs.size s2 H2 fp) [] (Ak js Z++List.replicate zs.length none) H2 { s2 with heap:=h1,toks:=t' }:=by
 have U:∀y∈scope.names,y.2=.free->(X.env.cells.lookup y.1).isSome=true:=λy g hk=>by
  obtain⟨c,e⟩:=I3.ok.has y.1 (S.all y g hk);rw[e];rfl
 have L:∀y c,(BE X.env.cells scope.names).lookup y=some c->X.env.cells.lookup y=some c:=Vw scope.names [] U (λ_ _ e=>by cases e);have I:∀y k,(relabel scope X.env).names.lookup y=some k->k=.cell∨k=.free->scope.names.lookup y=some .free∨ce=some y:=λy k e hk=>by
  have t:=(OT (env:=X.env) scope.names y).symm.trans e;cases q:scope.names.lookup y with
  |none=>rw[q]at t;cases t
  |some P=>
   rw[q]at t;cases P with
   |free=>exact .inl rfl
   |cell=>exact .inr (S.one _ (HY q) rfl)
   |_=>simp at t;rcases hk with rfl|rfl <;> cases t
 have n:js.length=A7.length:=by have:=ib List.length S.at';simpa using this
 have J:∀y c,X.env.cells.lookup y=some c->c<s2.heap.objs.size:=λy c e=>by
  obtain⟨v,o,ho,_⟩:=I3.cell y c e;exact AY ho
 have f:∀c v,s2.heap.IsCell c v->h1.IsCell c v:=λc v AN=>by obtain⟨o,ho,hd⟩:=AN;exact⟨o,old c o ho,hd⟩
 have A:∀y c,(Gk ce (s2.heap.objs.size+1)++BE X.env.cells scope.names).lookup y=some c->(ce=some y/\c=s2.heap.objs.size+1)∨(ce≠some y/\X.env.cells.lookup y=some c):=λy c e=>(Zg e).imp id λz=>⟨z.1,L y c z.2⟩;have M:∀y∈A7,ce≠some y:=λy g z=>(List.nodup_append.mp S.nd).2.2 y g y (S.sub y z) rfl;refine⟨⟨I3.ok.mod,S.kind,I3.ok.glob,I3.ok.blt,Aa _,λy z c e1 C=>?_,λy g=>?_,λy c H e=>?_,I3.ok.hd,I3.ok.frames,.inl rfl,λb s=>⟨Az (OS b s),λy c e=>?_⟩,
  λb o e=>I3.bs b o e,CQ I3.ok.Gn I3.sz,λb o e s=>?_,λb s Q=>?_,I3.stack,I3.aA⟩,rfl,I3.bare,Un.kept old,⟨m,E7,λi y v e1 C Y=>?_⟩,λy c e=>?_,I3.AE.fresh (Aa _),λy c e=>?_,λp R=>(by cases R),I3.AE.kept old,?_⟩
 .rcases A y c e1 with⟨a1,rfl⟩|⟨_,CF⟩
  .rcases A z _ C with⟨a2,_⟩|⟨_,D3⟩
   .exact B3 (a1.symm.trans a2)
   .exact absurd (J z _ D3) (OK (EL _))
  .rcases A z c C with⟨_,rfl⟩|⟨_,D3⟩
   .exact absurd (J y _ CF) (OK (EL _))
   .exact I3.ok.inj y z c CF D3
 .have H:scope.names.lookup y=some .free∨ce=some y:=g.elim (λg=>I y _ g (.inl rfl)) λg=>I y _ g (.inr rfl);show ∃c,List.lookup y (Gk ce (s2.heap.objs.size+1)++BE X.env.cells scope.names)=some c
  by_cases ex:ce=some y
  .rw[ex];exact⟨_,PH⟩
  .rw[R8 ex];exact Option.isSome_iff_exists.mp (Mc scope.names [] (.inr (HY (H.resolve_right ex))))
 .rcases A y c e with⟨_,rfl⟩|⟨O,_⟩
  .exact EL _
  .exact absurd (eq_of_beq H) O
 .rcases A y c e with⟨_,rfl⟩|⟨_,CF⟩
  .exact EA (GD (OS b s))
  .exact(E b s).2.2.2.2.1 y c CF
 .rcases(E b s).2.2.2.1 with z|z
  .exact I3.ok.NC b o e z
  .exact absurd (CG (CG (AY e) I3.ok.Gn) z) (MP _)
 .rcases List.mem_cons.mp (I3.TF b Q)with z|z
  .exact(E b s).2.1 z
  .exact(E b s).2.2.1 z
 .have D:(Ak js Z).length=A7.length:=by unfold Ak;rw[AA,n]
  have hi:i<A7.length:=by
   by_cases hi:i<A7.length
   .exact hi
   .have d:(Ak js Z++List.replicate zs.length none)[i]?=some (some v):=C;rw[FD (by rw[D];omega),D]at d;exact(iT d).elim
  have F:A7[i]?=some y:=by
   have F:(A7++zs)[i]?=some y:=e1
   rwa [DO hi]at F
  have d:(Ak js Z)[i]?=some (some v):=by
   have d:(Ak js Z++List.replicate zs.length none)[i]?=some (some v):=C
   rwa [DO (by rw[D];exact hi)]at d
  have B:y∈A7:=BB F;unfold Ak at d;rw[AO]at d;cases G:js[i]? with
  |none=>rw[G]at d;cases d
  |some j=>
   rw[G]at d;have T:X.N[j]?=some y:=by
    have q:=ib (λl=>l[i]?) S.at';simp only[AO,G,F,L4]at q;exact B3 q
   have hσ:Z[j]?=some (some v):=by
    simp only[L4,ZAv]at d;cases q:Z[j]? with
    |none=>rw[q]at d;cases d
    |some w=>rw[q]at d;simp at d;rw[d]
   obtain⟨W,V,JC⟩:=I3.loc;obtain⟨u,r,l⟩:=JC j y v T hσ (.inr (S.cell y B));refine⟨u,r,?_⟩;rcases l with⟨k,_⟩|⟨_,c,e,z⟩
   .have k':X.env.scope.names.lookup y=some .local:=k;rcases S.cell y B with z|z <;> (rw[z]at k';cases k')
   .have hk:(relabel scope X.env).names.lookup y=some .cell∨(relabel scope X.env).names.lookup y=some .free:=by
     have e0:=OT (env:=X.env) scope.names y;rw[S.free y B]at e0;rcases S.cell y B with K4|K4
     .exact .inl (e0.trans (by simp[I3.ok.kind,show X.env.kindOf y=some .cell from K4]))
     .exact .inr (e0.trans (by simp[show X.env.kindOf y=some .free from K4]))
    obtain⟨c',t⟩:=Option.isSome_iff_exists.mp (Mc (cells:=X.env.cells) scope.names [] (.inr (HY (S.free y B))));have K:=L y c' t;rw[e]at K;cases K;exact .inr ⟨hk,c,(R8 (M y B)).trans t,f c _ z⟩
 .rcases A y c e with⟨a,rfl⟩|⟨_,CF⟩
  .exact⟨none,D _ a⟩
  .obtain⟨v,z⟩:=I3.cell y c CF;exact⟨v,f c v z⟩
 .rcases A y c e with⟨_,rfl⟩|⟨_,CF⟩
  .exact I3.AE.fresh (EL _)
  .exact I3.Fg y c CF
 .show(Ak js Z++List.replicate zs.length none).length=(A7++zs).length;unfold Ak;simp[n]
theorem nO(h:Y.prog=X.prog)(hw:Y.w=X.w)(G:Y.K=X.K)(hA:Y.A=X.A)(Rr:Y.xe=λ_ _=>False)(F:Y.calm=true)
  (hg:PG Y tg g) (Du:ID Y ifs tt) (D4:PE Y elt te)
  (T:Turn X.prog X.w X.K tg J fp it tn) (jb:∀b∈fp,Y.Ok->EI Y [] (λ_=>none) b)
  (W:Nat->Nat->Hp->Prop) (Q:VK)
  (f:∀i m H2,W i m H2->(J.stop i H2/\Q (.ref acc) H2)∨(J.go i H2/\∀x H3,J.Dc i H2 x H3->∀ws,ws.length=n0->g x (Ak js Z++ws) H3 λσ8 H8=>∃us,us.length=n0/\σ8=Ak js Z++us/\O1 tt te acc W i m σ8 H8))
  (I4:Inv Y [] (Ak js Z++ws) H4 s4) (Pl:tn 0 s4.heap) (O:∀b∈fp,H4 b=none) (E:Nat) (V:W 0 E H4)
  (kW:ws.length=n0) (hR:∀H' s' ws,Inv Y [] (Ak js Z++ws) H' s'->Q (.ref acc) H'->R (.ok .next) s') :
  codeAny (model X.prog X.w) X.A (.compLoop (.ListComp elt [⟨tg,iter,ifs,0⟩] scope pos) 0 (.ref it) (.ref acc) Y.env) R s4:=by
 have AE:=I4.ok;have t:∀{H':Hp},(∀b∈fp,H' b=none)->∀b∈fp,EI Y [] H' b:=λhn b a=>⟨hn b a,(jb b a AE).2⟩;rw[<- h,<- hw,<- hA];have no:∀{σ:Value->Shared->Prop}v s,Y.xe v s->σ v s:=λv s z=>by rw[Rr]at z;exact z.elim
 refine kN (λn s'=>∃i ws H',ws.length=n0/\Inv Y [] (Ak js Z++ws) H' s'/\tn i s'.heap/\(∀b∈fp,H' b=none)/\W i n H') ?_ E ⟨0,ws,H4,kW,I4,Pl,O,V⟩;rintro n D⟨i,I,H5,ve,I5,Ln,Qv,U⟩;rcases f i n H5 U with⟨stop,q⟩|⟨go,step⟩
 .have d:=T.done Y h hw G F i [] D _ H5 (λ_ _=>False) I5 (t Qv) Ln stop;rw[<- h,<- hw]at d;refine ki d (λr C⟨l,I6⟩=>?_) λ_ _ z=>z.elim;subst l;exact hR H5 C I I6 q
 .have d:=T.item Y h hw G F i [] D _ H5 (λ_ _=>False) I5 (t Qv) Ln go;rw[<- h,<- hw]at d;refine ki d (λr C⟨u,l,h6⟩=>?_) λ_ _ z=>z.elim;subst l;refine ki h6 (λ_ B⟨v,H7,I7,r7,M,UL,sZ⟩=>?_) λ_ _ z=>z.elim;have sI:=I7.pinned (t sZ) (T.obj _ _ UL);refine ki (hg _ B _ H7 v u _ sI r7 (step v H7 M I ve)) (λ_ s8⟨σ8,H8,I8,us,Yp,e8,k⟩=>?_) no;subst e8;have again:∀{σa:St}{Ha:Hp}{sa:Shared},Inv Y ([]++O0 fp B.heap) σa Ha sa->tn (i+1) sa.heap/\(∀b∈fp,Ha b=none):=λ{σa Ha sa}Ia=>by
   refine⟨T.keep _ _ _ UL λb a o e=>(Ia.pin (b,o) (Bk _ (Bk _ (ON a e)))).1,λb a=>?_⟩;obtain⟨o,e,d⟩:=T.obj _ _ UL b a;exact(Ia.pin (b,o) (Bk _ (Bk _ (ON a e)))).2.1
  refine ki (Du _ s8 _ H8 _ I8 k) (λb s9⟨H9,I9,j⟩=>?_) no;cases b with
  |false=>
   have N:∃c,c < n/\W (i+1) c H9:=j;obtain⟨c,p,P⟩:=N;rw[i3 (by decide)];exact⟨c,p,i+1,_,H9,Yp,I9.N0,(again I9).1,(again I9).2,P⟩
  |true=>
   rw[i5 rfl];rw[i5 rfl]at j;refine ki (D4 _ s9 _ H9 _ I9 j) (λL S⟨y,H,oo,qY,ys,B6,hz,c,p,lu⟩=>?_) no;refine ki (cg (X:=Y) _ S _ H (.ref acc) [y] (.ref acc) [L] (λ_ Xp=>Xp=upd H acc (.lst (ys++[y]))) oo rfl (.cons qY .nil) ⟨acc,ys,y,rfl,rfl,B6,hz,rfl⟩)
    (λ_ s11⟨_,Xp,WV,_,ja⟩=>?_) no
   subst ja;exact⟨c,p,i+1,_,_,Yp,WV.N0,(again WV).1,(again WV).2,lu⟩
theorem YW{RR:Value->Addr->Result->Shared->Prop}(L:X.calm=true)(S:DE X.N X.env.scope scope ce zs A7 js)
  (hg:∀C s H,PG (EM X (A7++zs) scope ce (BE X.env.cells scope.names) C s H fp) tg g)
  (Du:∀C s H,ID (EM X (A7++zs) scope ce (BE X.env.cells scope.names) C s H fp) ifs tt) (D4:∀C s H,PE (EM X (A7++zs) scope ce (BE X.env.cells scope.names) C s H fp) elt te)
  (T:Turn X.prog X.w X.K tg J fp it tn) (I2:Inv X Zq Z H2 s2) (JN:tn 0 s2.heap) (j:∀b∈fp,EI X Zq H2 b) (Q:VK) (M:∀acc,H2 acc=none->LM g zs.length J js tt te Z H2 acc Q)
  (F:∀acc C H' s' m,Inv X Zq Z H' s'->EI X Zq H' C->s'.heap.Ns C m->Q (.ref acc) H'->RR (.ref acc) C (.ok .next) s') :
  wpAny (model X.prog X.w) X.A (newList []) (λacc a=>wpAny (model X.prog X.w) X.A (newFunctionEnv scope X.env.globals (BE X.env.cells scope.names) [] X.env.qual none .none (some X.env)) (λk s4=>
   codeAny (model X.prog X.w) X.A (.compStart (.ListComp elt [⟨tg,iter,ifs,0⟩] scope pos) 0 (.ref it) acc { k with scope:=relabel scope X.env }) (RR acc k.locals) s4) E a) E s2:=by
 refine pP (og S.cf S.pc ?_);have i:Inv X Zq Z (upd H2 s2.heap.objs.size (.lst [])) { s2 with heap:=s2.heap.push { cls:=.type "list", data:=.seq ([]:List Value).toArray } }:=I2.xg (t':=s2.toks) .nil (Bo _)
 have u:∀b∈fp,b<s2.heap.objs.size:=λb c=>by
  obtain⟨o,e,_⟩:=T.obj _ _ JN b c;exact AY e
 have hsz:(s2.heap.push { cls:=.type "list", data:=.seq ([]:List Value).toArray }).objs.size=s2.heap.objs.size+1:=DM ..;have f:∀b∈fp,EI X Zq (upd H2 s2.heap.objs.size (.lst [])) b:=λb c=>⟨by rw[AS (Az (u b c))];exact(j b c).1,(j b c).2⟩;generalize y:({ s2 with heap:=s2.heap.push { cls:=.type "list", data:=.seq ([]:List Value).toArray } }:Shared)=a at i ⊢
 have r:a.heap=s2.heap.push { cls:=.type "list", data:=.seq ([]:List Value).toArray }:=by rw[<- y]
 have z:∀b∈fp,b<a.heap.objs.size:=λb c=>by rw[r,hsz];exact GD (u b c)
 generalize l:NU ce (a.heap.push { cls:=.type "dict", data:=.dict #[] })=h1;have n:∀b o,(a.heap.push { cls:=.type "dict", data:=.dict #[] }).get? b=some o->h1.get? b=some o:=λb o e=>by
  rw[<- l];cases ce with
  |none=>exact e
  |some _=>exact Ay _ e
 have old:∀b o,a.heap.get? b=some o->h1.get? b=some o:=λb o e=>n b o (Ay _ e);have v:∀b o,s2.heap.get? b=some o->h1.get? b=some o:=λb o e=>old b o (by rw[r];exact Ay _ e);have P:h1.Ns a.heap.objs.size (λ_=>none):=(Heap.Ns.new a.heap (.type "dict")).keeps n;have R:∀x,ce=some x->h1.IsCell (a.heap.objs.size+1) none:=λx hx=>by
  subst hx;rw[<- l];have e:(a.heap.push { cls:=.type "dict", data:=.dict #[] }).objs.size=a.heap.objs.size+1:=DM ..;exact⟨_,by rw[<- e];exact BP _ rfl,rfl⟩
 have O:=qr S i f z P old R (t':=a.toks);have t:tn 0 h1:=T.keep _ _ _ JN λb _ o e=>v b o e;obtain⟨W,⟨D,B⟩,h⟩:=M s2.heap.objs.size (I2.AE.fresh (Aa _));have d:codeAny (model X.prog X.w) X.A (.compLoop (.ListComp elt [⟨tg,iter,ifs,0⟩] scope pos) 0 (.ref it) (.ref s2.heap.objs.size) (compEnvC scope (Gk ce (a.heap.objs.size+1)++BE X.env.cells scope.names) a.heap.objs.size X.env))
   (RR (.ref s2.heap.objs.size) a.heap.objs.size) { a with heap:=h1 }:=by
  refine nO (X:=X) (Y:=EM X (A7++zs) scope ce (BE X.env.cells scope.names) a.heap.objs.size a (upd H2 s2.heap.objs.size (.lst [])) fp) (acc:=s2.heap.objs.size) (Q:=Q) rfl rfl rfl rfl rfl L (hg _ _ _) (Du _ _ _) (D4 _ _ _) T (λb c ok=>⟨rfl,(ok.P5 b c).1,ok.O6 b c,.inl c,(ok.P5 b c).2,λp G=>by cases G⟩) W h O t (λb c=>(f b c).1) D B (gN ..) λH' s' w I' q=>?_;obtain⟨m,I,_⟩:=I'.loc;exact F _ _ H' s' m (i.sg (ch:=fp) I'.os I'.base I'.AE I'.bare λb c=>⟨(f b c).2.2.2.1,(f b c).2.1,(f b c).2.2.2.2.1,(f b c).2.2.2.2.2⟩) (i.N2 (Aa _) I'.free) I q
 exact codeAny_compStart_list d (T.self X.A 0 _ _ _ t d)
theorem Yg(S:DE X.N X.env.scope scope ce zs A7 js)(I:Inv X Zq Z H s):closureFor scope X.env=pure (BE X.env.cells scope.names):=Za λy a hk=>by
 obtain⟨c,e⟩:=I.ok.has y.1 (S.all y a hk);rw[e];rfl
theorem Sx(k:∀J Z H1 acc Q,CW J Z H1 acc Q->LM g zs.length J js tt te Z H1 acc Q)(f:X.calm=true)(S:DE X.N X.env.scope scope ce zs A7 js)(hi:PI X tg iter wi)
  (hg:∀fp C s H,PG (EM X (A7++zs) scope ce (BE X.env.cells scope.names) C s H fp) tg g)
  (Du:∀fp C s H,ID (EM X (A7++zs) scope ce (BE X.env.cells scope.names) C s H fp) ifs tt) (D4:∀fp C s H,PE (EM X (A7++zs) scope ce (BE X.env.cells scope.names) C s H fp) elt te)
  (c:∀v,foldedSetIterable iter X.env v=pure v):PE X (.ListComp elt [⟨tg,iter,ifs,0⟩] scope pos) (cQ CW wi):=by
 intro Zq s Z H Q I h;rw[eval_ListComp];refine wpAny_comprehension_free (use:=none) rfl c (Yg S I) S.kind S.loc (Ao (hi Zq s Z H _ I h) λv s1 h1=>Ao h1 λQH s2 h2=>?_);obtain⟨it,fp,tn,J,H2,e,I2,T,JN,l,hw⟩:=h2;subst e;refine YW (RR:=λacc C=>compPost (model X.prog X.w) X.A X.xe none (EP X Zq Z Q) acc C) f S (hg fp) (Du fp) (D4 fp) T I2 JN l Q (λacc j=>k _ _ _ _ _ (hw acc j)) λacc C H' s' m I' a d q=>⟨m,d,λh' Iy=>?_⟩;exact⟨.ref acc,H',I'.turned (t':=s'.toks) (λb o i e=>(Iy.2 b i).trans e) a.1 a.2.1 a.2.2.2.1 a.2.2.2.2.1 a.2.2.2.2.2,rfl,q⟩
theorem zg(x:∀J Z H1 acc Q,CW J Z H1 acc Q->LM g zs.length J js tt te Z H1 acc Q){y:Str}(B:X.N.Nodup)(Dw:X.N[i]?=some y)(k:Loc X.env.scope y)(t:X.calm=true)(S:DE X.N X.env.scope scope ce zs A7 js)(hi:PI X tg iter wi)
  (hg:∀fp C s H,PG (EM X (A7++zs) scope ce (BE X.env.cells scope.names) C s H fp) tg g)
  (Du:∀fp C s H,ID (EM X (A7++zs) scope ce (BE X.env.cells scope.names) C s H fp) ifs tt) (D4:∀fp C s H,PE (EM X (A7++zs) scope ce (BE X.env.cells scope.names) C s H fp) elt te)
  (Mi:swapsWith (.ListComp elt [⟨tg,iter,ifs,0⟩] scope pos) (some (.Name y py)) JE.line X.env=pure true)
  (r:X.fn y=true∨X.env.scope.names.lookup y=some .local)
  (l:∀v,foldedSetIterable iter X.env v=pure v):PS X (.Assign [.Name y py] (.ListComp elt [⟨tg,iter,ifs,0⟩] scope pos) JE) (EY (cQ CW wi) (Cf i)):=by
 intro Zq s Z H D I h;rw[exec_Assign_Name_used _ _ _ _ Mi];refine dP (wpAny_standAt (dP ?_));show wpAny _ X.A (do let _ <- comprehension (.ListComp elt [⟨tg,iter,ifs,0⟩] scope pos) scope X.env _ (newList []) false (eval iter X.env) (some (assign (.Name y py) X.env))) _ _ s
 refine dP (ki (wpAny_comprehension_free (use:=some (assign (.Name y py) X.env)) (Q:=λ_ s'=>SP X Zq D .next s') rfl l (Yg S I) S.kind S.loc
  (Ao (hi Zq s Z H _ I h) λv s1 h1=>Ao h1 λQH s2 h2=>?_)) (λ_ s' n=>hJ (hJ n)) λ_ _ e=>e)
 obtain⟨it,fp,tn,J,H2,e,I2,T,JN,E,hw⟩:=h2;subst e;refine YW (RR:=λacc C=>compPost (model X.prog X.w) X.A X.xe (some (assign (.Name y py) X.env)) (λ_ s'=>SP X Zq D .next s') acc C) t S (hg fp) (Du fp) (D4 fp) T I2 JN E _ (λacc d=>x _ _ _ _ _ (hw acc d)) λacc C H' s' m I' c p q=>?_;show wpAny _ X.A (assign (.Name y py) X.env (.ref acc)) _ _ s';refine wpAny_assign_Name (ae (v:=.ref acc) I' B Dw k rfl (λKY f⟨a,j,d⟩=>?_) r);have F:C≠a:=by
  rcases d with z|z
  .rw[z];exact c.2.1
  .exact(c.2.2.2.2.1 y a z).symm
 refine⟨m,p.sameBut j F,λh' Iy=>?_⟩;exact⟨_,H',f.turned (t':=KY.toks) (λb o u e=>(Iy.2 b u).trans e) c.1 c.2.1 c.2.2.2.1 c.2.2.2.2.1 c.2.2.2.2.2,q⟩
theorem Wh{n:Nat}{cl:List (Str×Addr)}:∀{names:List (Str×NameKind)},(∀y∈names,y.2≠.cell)->cellsFrom n names cl=cl
 | [],_=>rfl
 | (x,k)::r,h=>by
  have hk:(k == NameKind.cell)=false:=beq_eq_false_iff_ne.mpr (h _ Aj);rw[cellsFrom,hk];exact Wh λy a=>h y (B2 _ a)
theorem T8{a:Heap}:∀{names:List (Str×NameKind)},(∀y∈names,y.2≠.cell)->pushCells a names=a
 | [],_=>rfl
 | (x,k)::r,h=>by
  have hk:(k == NameKind.cell)=false:=beq_eq_false_iff_ne.mpr (h _ Aj);rw[pushCells,hk];exact T8 λy b=>h y (B2 _ b)
theorem DE.Xn(kind:scope.kind=.function)(GJ:∀y∈scope.names,y.2≠.cell)(loc:∀y∈scope.names,y.2=.local->scope.names.lookup y.1=some .local)
  (at':js.map (λj=>N[j]?)=A7.map some) (cell:∀y∈A7,outer.names.lookup y=some .cell) (free:∀y∈A7,scope.names.lookup y=some .free)
  (all:∀y∈scope.names,y.2=.free->outer.names.lookup y.1=some .cell) (nd:(A7++zs).Nodup):DE N outer scope none zs A7 js:=
 ⟨kind,loc,λy a e=>absurd e (GJ y a),λx e=>(by cases e),λn cl=>Wh GJ,λh=>T8 GJ,at',λy a=>.inl (cell y a),free,λy a e=>.inl (all y a e),nd⟩
theorem DE.len(S:DE N outer scope ce zs A7 js)(Z:St):(Ak js Z).length=A7.length:=by
 unfold Ak;rw[AA];have:=ib List.length S.at';simpa using this
theorem UU(S:DE N outer scope ce [x] A7 js)(J:It)(Z:St)(H1:Hp)(acc:Addr)(Q:VK)(h:Jt J js tt te Z H1 acc Q):LM (Cf A7.length) 1 J js tt te Z H1 acc Q:=by
 obtain⟨W,a,h⟩:=h;refine⟨W,a,λi m H2 w=>(h i m H2 w).imp id λz=>⟨z.1,λx H3 y ws hw=>?_⟩⟩
 match ws,hw with
 | [w],_=>
  have e:(Ak js Z++[w]).set A7.length (some x)=Ak js Z++[some x]:=by rw[<- S.len Z];exact vR _ _ _
  exact⟨[some x],rfl,e,by rw[e];exact z.2 x H3 y⟩
theorem SW(S:DE X.N X.env.scope scope ce [x] A7 js)(hx:scope.names.lookup x=some .local∨(ce=some x/\scope.names.lookup x=some .cell)):
  PG (EM X (A7++[x]) scope ce cl C s H fp) (.Name x px) (Cf A7.length):=
 Vz S.nd (by simp) (hx.imp (λh=>xK h) λh=>k8 h.2) (hx.symm.imp (λh=>by show(ce == some x)=true;rw[h.1];exact pV _) λh=>xK h)
inductive Nr:List Str->List Expr->Prop
 |nil:Nr [] []
 |cons {x:Str}{zs:List Str}{p:Pos}{es:List Expr}:Nr zs es->Nr (x::zs) (.Name x p::es)
def J4(i:Nat):Nat->Ga
 | 0=>Nb
 |n+1=>JZ (Cf i) (J4 (i+1) n)
theorem ZT{Q:St->Hp->Prop}{H:Hp}:∀{us:List V}{l ws:St},ws.length=us.length->Q (l++us.map some) H->J4 l.length us.length us (l++ws) H Q
 | [],l,ws,h,q=>by
  rw[List.length_eq_zero_iff.mp h];exact⟨rfl,q⟩
 |u::us,l,w::ws,h,q=>by
  refine⟨u,us,rfl,?_⟩;show J4 (l.length+1) us.length us ((l++w::ws).set l.length (some u)) H Q;have e:(l++w::ws).set l.length (some u)=(l++[some u])++ws:=by
   rw[ZAn _ _ (Aa _),Rk];simp
  have el:l.length+1=(l++[some u]).length:=by simp
  rw[e,el];refine ZT (l:=l++[some u]) (by simpa using h) ?_
  rw[Bh];exact q
theorem bI{X:Cx}(a:X.N.Nodup):∀{zs:List Str}{es:List Expr}{i:Nat},Nr zs es->(∀(j:Nat)x,zs[j]?=some x->X.N[i+j]?=some x/\Loc X.env.scope x/\X.env.scope.names.lookup x=some .local)->Lr X es (J4 i zs.length)
 |_,_,_,.nil,_=>cB
 |_,_,i,.cons (x:=x) (zs:=zs) r,h=>by
  obtain⟨h1,h2,c⟩:=h 0 _ rfl;refine dG (Vz a h1 h2 (.inr c)) (bI a r λj y b=>?_);have:=h (j+1) y b
  rwa [show i+(j+1)=i+1+j by omega]at this
def o7(K:ZBx)(n:Nat)(J:It)(js:List Nat)(tt:TT)(te:TE)(Z:St)(H1:Hp)(acc:Addr)(Q:VK):Prop:=
 ∃W:Nat->Nat->Hp->Prop,(∃m,W 0 m (upd H1 acc (.lst [])))/\∀i m H2,W i m H2->
  (J.stop i H2/\Q (.ref acc) H2)∨(J.go i H2/\∀x H3,J.Dc i H2 x H3->∃a us,x=.ref a/\Ab K H3 a us/\us.length=n/\O1 tt te acc W i m (Ak js Z++us.map some) H3)
theorem qd{K:ZBx}(S:DE N outer scope ce zs A7 js)(J:It)(Z:St)(H1:Hp)(acc:Addr)(Q:VK)(h:o7 K zs.length J js tt te Z H1 acc Q):LM (J8 K zs.length (J4 A7.length zs.length)) zs.length J js tt te Z H1 acc Q:=by
 obtain⟨W,d,h⟩:=h;refine⟨W,d,λi m H2 w=>(h i m H2 w).imp id λz=>⟨z.1,λx H3 y ws hw=>?_⟩⟩;obtain⟨a,us,e,c,b,q⟩:=z.2 x H3 y;refine⟨a,us,e,c,b,?_⟩;rw[<- b,<- S.len Z];exact ZT (by rw[hw,b]) ⟨us.map some,AA ..,rfl,q⟩
theorem jq{tp:Pos}(f:X.calm=true)(S:DE X.N X.env.scope scope ce zs A7 js)(HI:∀x∈zs,scope.names.lookup x=some .local)(c:Nr zs es)(d:∀e,(assignEach es e).length=zs.length)(Kc:∀e,(assignEach es e).findIdx? (·.1)=none):
  PG (EM X (A7++zs) scope ce cl C s H fp) (.Tuple es tk tp) (J8 X.K zs.length (J4 A7.length zs.length)):=
 gA (X:=EM X (A7++zs) scope ce cl C s H fp) f (bI S.nd (i:=A7.length) c λj y b=>by
  have a:=BB b;exact⟨by show(A7++zs)[A7.length+j]?=_;rw[FD (by omega),Nat.add_sub_cancel_left];exact b,.inl (xK (HI y a)),xK (HI y a)⟩) (d _) (Kc _)
theorem Cg.G(S:Cg N outer scope x A7 js):DE N outer scope none [x] A7 js:=.Xn S.kind S.GJ S.loc S.at' S.cell S.free S.all S.nd
theorem rJ(b:X.calm=true)(S:Cg X.N X.env.scope scope x A7 js)(hi:PI X (.Name x px) iter wi)
  (Du:∀fp C s H,ID (G8 X (A7++[x]) scope (BE X.env.cells scope.names) C s H fp) ifs tt) (D4:∀fp C s H,PE (G8 X (A7++[x]) scope (BE X.env.cells scope.names) C s H fp) elt te)
  (a:∀v,foldedSetIterable iter X.env v=pure v:=by intro _;rfl):PE X (.ListComp elt [⟨.Name x px,iter,ifs,0⟩] scope pos) (GV wi js tt te):=
 Sx (CW:=λJ Z H1 acc Q=>Jt J js tt te Z H1 acc Q) (UU S.G) b S.G hi (λ_ _ _ _=>SW S.G (.inl S.HI)) Du D4 a
theorem rR{y:Str}(c:X.N.Nodup)(Dw:X.N[i]?=some y)(a:Loc X.env.scope y)(b:X.calm=true)(S:Cg X.N X.env.scope scope x A7 js)(hi:PI X (.Name x px) iter wi)
  (Du:∀fp C s H,ID (G8 X (A7++[x]) scope (BE X.env.cells scope.names) C s H fp) ifs tt) (D4:∀fp C s H,PE (G8 X (A7++[x]) scope (BE X.env.cells scope.names) C s H fp) elt te)
  (Mi:swapsWith (.ListComp elt [⟨.Name x px,iter,ifs,0⟩] scope pos) (some (.Name y py)) JE.line X.env=pure true:=by rfl)
  (hf:X.fn y=true∨X.env.scope.names.lookup y=some .local:=by first|exact .inl rfl|exact .inr rfl|assumption)
  (hs:∀v,foldedSetIterable iter X.env v=pure v:=by intro _;rfl):PS X (.Assign [.Name y py] (.ListComp elt [⟨.Name x px,iter,ifs,0⟩] scope pos) JE) (EY (GV wi js tt te) (Cf i)):=
 zg (CW:=λJ Z H1 acc Q=>Jt J js tt te Z H1 acc Q) (UU S.G) c Dw a b S.G hi (λ_ _ _ _=>SW S.G (.inl S.HI)) Du D4 Mi hf hs
end
def CK(K:ZBx)(tp:Bool)(H:Hp)(a:Addr)(xs:List V):Prop:=match tp with
 |false=>AG K H a xs
 |true=>Ab K H a xs
theorem CK.or{K:ZBx}{xs:List V}(h:CK K tp H a xs):AG K H a xs∨Ab K H a xs:=by
 cases tp
 .exact .inl h
 .exact .inr h
noncomputable def Io(K:ZBx)(tp:Bool)(a:Addr)(xs:List V):It:=
 ⟨λi H=>CK K tp H a xs/\i<xs.length,λi H x H'=>H'=H/\xs[i]?=some x,λi H=>CK K tp H a xs/\xs.length<=i⟩
theorem jT{P:Program}{K:ZBx}(a it:Addr)(xs:List V):Turn P w K tg (Io K false a xs) [it] it (λi h=>h.IsListIter it a i) where
 mem:=by simp
 obj:=(O5 (P:=P) (w:=w) (K:=K) (tg:=tg) a it).obj
 keep:=(O5 (P:=P) (w:=w) (K:=K) (tg:=tg) a it).keep
 item:=by
  intro X d hw f c i Zq s Z H E I b st hg;obtain⟨g,hi⟩:=hg;refine Ao ((O5 (P:=P) (w:=w) (K:=K) (tg:=tg) a it).item X d hw f c i Zq s Z H E I b st ⟨xs,xs[i],g,by simp[hi]⟩) λr s1 AN=>by obtain⟨u,e,h⟩:=AN;exact⟨u,e,Ao h λ_ s2 Hc=>by obtain⟨x,H',I',j,y,ET,k⟩:=Hc;exact⟨x,H',I',j,⟨y.1,y.2 xs g⟩,ET,k⟩⟩
 done:=by
  intro X d hw f c i Zq s Z H E I b st hg;exact(O5 (P:=P) (w:=w) (K:=K) (tg:=tg) a it).done X d hw f c i Zq s Z H E I b st ⟨xs,hg.1,hg.2⟩
 self:=(O5 (P:=P) (w:=w) (K:=K) (tg:=tg) a it).self
theorem yL{P:Program}{K:ZBx}(a it:Addr)(xs:List V):Turn P w K tg (Io K true a xs) [it] it (λi h=>h.IsTupleIter it a i) where
 mem:=by simp
 obj:=(NS (P:=P) (w:=w) (K:=K) (tg:=tg) a it).obj
 keep:=(NS (P:=P) (w:=w) (K:=K) (tg:=tg) a it).keep
 item:=by
  intro X d hw f c i Zq s Z H E I b st hg;obtain⟨g,hi⟩:=hg;refine Ao ((NS (P:=P) (w:=w) (K:=K) (tg:=tg) a it).item X d hw f c i Zq s Z H E I b st ⟨xs,xs[i],g,by simp[hi]⟩) λr s1 AN=>by obtain⟨u,e,h⟩:=AN;exact⟨u,e,Ao h λ_ s2 Hc=>by obtain⟨x,H',I',j,y,ET,k⟩:=Hc;exact⟨x,H',I',j,⟨y.1,y.2 xs g⟩,ET,k⟩⟩
 done:=by
  intro X d hw f c i Zq s Z H E I b st hg;exact(NS (P:=P) (w:=w) (K:=K) (tg:=tg) a it).done X d hw f c i Zq s Z H E I b st ⟨xs,hg.1,hg.2⟩
 self:=(NS (P:=P) (w:=w) (K:=K) (tg:=tg) a it).self
def ND(K:ZBx)(tl:TE):TI:=λZ H R=>tl Z H λx H1=>∃tp a xs,x=.ref a/\CK K tp H1 a xs/\R (Io K tp a xs) H1
theorem C1{p:Addr}(h:H p=none)(o:HO):AD H (upd H p o):=λb u q=>by rw[AS (DV q h)];exact q
theorem AD.WA{K:ZBx}{xs:List V}(e:AD H H')(h:Ab K H a xs):Ab K H' a xs:=by
 rcases h with(h|⟨o,h⟩)|h
 .exact .inl (.inl (e _ _ h))
 .exact .inl (.inr ⟨o,e _ _ h⟩)
 .exact .inr h
theorem AD.sq{K:ZBx}{xs:List V}(e:AD H H')(h:CK K tp H a xs):CK K tp H' a xs:=by
 cases tp
 .exact AD.seq e h
 .exact AD.WA e h
theorem yx{Q:VK}(xs:List V)(f:V->Bool)(g:V->V)(B6:H1 acc=none)(hz:xs.length<=sizeLine)
  (l:∀i H,AD H1 H->i<xs.length->J.go i H) (FW:∀H,AD H1 H->J.stop xs.length H) (n:∀i H x H',J.Dc i H x H'->H'=H/\xs[i]?=some x)
  (p:∀(i:Nat)(x:V)(H':Hp)(Q':Bool->Hp->Prop),xs[i]?=some x->AD H1 H'->(∀GG,AD H' GG->Q' (f x) GG)->tt (Ak js Z++[some x]) H' Q')
  (r:∀(i:Nat)(x:V)(H':Hp)(Q':VK),xs[i]?=some x->f x=true->AD H1 H'->(∀GG,AD H' GG->Q' (g x) GG)->te (Ak js Z++[some x]) H' Q')
  (hd:∀H',AD H1 H'->H' acc=some (.lst ((xs.filter f).map g))->Q (.ref acc) H'):Jt J js tt te Z H1 acc Q:=by
 refine⟨λi m H=>m=xs.length - i/\i<=xs.length/\AD H1 H/\H acc=some (.lst (((xs.take i).filter f).map g)),⟨xs.length,by simp,Bo _,C1 B6 _,AX⟩,?_⟩;rintro i m H2⟨rfl,hi,a,j⟩
 by_cases h:i<xs.length
 .refine .inr ⟨l i H2 a h,λx H3 y=>?_⟩;obtain⟨e,hx⟩:=n i H2 x H3 y;subst e;have v:(xs.take (i+1))=xs.take i++[x]:=by
   have t:xs[i]=x:=by
    rw[AK h]at hx;exact B3 hx
   rw[Jf h,t]
  have e1:List.filter f (xs.take (i+1))=(xs.take i).filter f++(if f x=true then[x]else[]):=by
   rw[v,XB];congr 1
   by_cases c:f x=true <;> simp[c]
  refine p i x _ _ hx a λH4 s4=>?_
  by_cases c:f x=true
  .rw[i5 c];refine r i x H4 _ hx c (a.trans s4) λH5 k=>?_;have d:(((xs.take i).filter f).map g).length<sizeLine:=by
    rw[AA];have:=XF f (xs.take i);rw[GC]at this;omega
   refine⟨_,k _ _ (s4 _ _ j),d,xs.length - (i+1),by omega,rfl,h,λb o q=>?_,?_⟩
   .have s:b≠acc:=by rintro rfl;rw[B6]at q;cases q
    rw[AS s];exact k _ _ (s4 _ _ (a b o q))
   .rw[AX,e1,i5 c,EK];rfl
  .have u:f x=false:=by simpa using c
   rw[u];rw[i3 (by decide)];refine⟨xs.length - (i+1),by omega,rfl,h,a.trans s4,?_⟩;rw[e1,i3 c,GB];exact s4 _ _ j
 .have e:i=xs.length:=by omega
  subst e;refine .inl ⟨FW H2 a,hd H2 a ?_⟩;rw[Eg]at j;exact j
theorem sf{K:ZBx}{xs:List V}{Q:VK}(f:V->Bool)(g:V->V)(b:CK K tp H1 a xs)(B6:H1 acc=none)(hz:xs.length<=sizeLine)
  (c:∀(i:Nat)(x:V)(H':Hp)(Q':Bool->Hp->Prop),xs[i]?=some x->AD H1 H'->(∀GG,AD H' GG->Q' (f x) GG)->tt (Ak js Z++[some x]) H' Q')
  (d:∀(i:Nat)(x:V)(H':Hp)(Q':VK),xs[i]?=some x->f x=true->AD H1 H'->(∀GG,AD H' GG->Q' (g x) GG)->te (Ak js Z++[some x]) H' Q')
  (hd:∀H',AD H1 H'->H' acc=some (.lst ((xs.filter f).map g))->Q (.ref acc) H'):Jt (Io K tp a xs) js tt te Z H1 acc Q:=
 yx xs f g B6 hz (λi H s hi=>⟨s.sq b,hi⟩) (λH s=>⟨s.sq b,Aa _⟩) (λi H x H' y=>y) c d hd
def Ez(xs ys:List V):Bool:=xs.length == ys.length && (List.range xs.length).all λj=>Dp (xs.getD j .A6) (ys.getD j .A6)
theorem J9{xs:List V}{x:V}(h:xs[j]?=some x):xs.getD j .A6=x:=by rw[DN,h];rfl
theorem Zi{xs:List V}{x:V}(h:xs.all EJ=true)(e:xs[j]?=some x):EJ x=true:=List.all_eq_true.mp h x (BB e)
theorem QZ{xs:List V}{BW:List Value}(c:Vals xs A0)(b:Vals ys BW)(i:xs.all EJ=true)(h:ys.all EJ=true):
  ∀j(h1:j<A0.toArray.size)(h2:j<BW.toArray.size),SeqAt.EqAt A s A0.toArray[j] BW.toArray[j] (Dp (xs.getD j .A6) (ys.getD j .A6)):=λj h1 h2=>by
 have l1:=c.length;have l2:=b.length;have n:j<A0.length:=by simpa using h1
 have m:j<BW.length:=by simpa using h2
 have e1:xs[j]?=some (xs[j]'(by omega)):=AK _;have a:ys[j]?=some (ys[j]'(by omega)):=AK _;obtain⟨u,e,g⟩:=c.get e1;obtain⟨v,d,f⟩:=b.get a;rw[AK n]at e;rw[AK m]at d;have l:A0[j]=u:=B3 e;have k:BW[j]=v:=B3 d;rw[J9 e1,J9 a];have q:=Oi (A:=A) (s:=s) g f (Zi i e1) (Zi h a);rw[<- l,<- k]at q
 simpa using q
def MD(K:ZBx)(neg:Bool):R2:=λx y H Q=>∃p q xs ys,x=.ref p/\y=.ref q/\((AG K H p xs/\AG K H q ys)∨(Ab K H p xs/\Ab K H q ys))/\xs.all EJ=true/\ys.all EJ=true/\
 Q (.bl (if neg then !Ez xs ys else Ez xs ys)) H
theorem Jl{xs:List V}(h:xs.length≠ys.length):Ez xs ys=false:=by
 unfold Ez;have:(xs.length == ys.length)=false:=by simpa using h
 rw[this,RS]
theorem KO{xs:List V}(h:xs.length=ys.length):Ez xs ys=(List.range xs.length).all λj=>Dp (xs.getD j .A6) (ys.getD j .A6):=by
 unfold Ez;have:(xs.length == ys.length)=true:=by simpa using h
 rw[this,HR]
theorem TX(f:X.A.units<cLine):Aw X (compareOp .Eq) (MD X.K false):=by
 intro Zq s Z H x y v u Q I r o h;obtain⟨p,q,xs,ys,rfl,rfl,t,l,k,w⟩:=h;cases r;cases o;have b:Q (.bl (Ez xs ys)) H:=w;rcases t with⟨i,g⟩|⟨i,g⟩
 .obtain⟨A0,d,p1,n⟩:=I.list i;obtain⟨BW,c,p2,m⟩:=I.list g;have l1:=d.length;have l2:=c.length
  by_cases a:xs.length=ys.length
  .refine SeqAt.eq_listAt (e:=λj=>Dp (xs.getD j .A6) (ys.getD j .A6)) p1.isList p2.isList (by simp;omega) f (QZ d c l k) ⟨.bl _,H,I,rfl,?_⟩;rw[KO a]at b;simp only[Bn,<- l1];exact b
  .rw[Jl a]at b;exact SeqAt.eq_list_lengthsAt p1.isList p2.isList (by simp;omega) f ⟨.bl false,H,I,rfl,b⟩
 .obtain⟨A0,d,p1,n⟩:=I.tuple i;obtain⟨BW,c,p2,m⟩:=I.tuple g;have l1:=d.length;have l2:=c.length;refine SeqAt.eq_tupleAt (e:=λj=>Dp (xs.getD j .A6) (ys.getD j .A6)) p1 p2 f (QZ d c l k) ⟨.bl _,H,I,rfl,?_⟩;simp only[Bn,<- l1,<- l2]
  by_cases a:xs.length=ys.length
  .rw[KO a]at b;have:(xs.length == ys.length)=true:=by simpa using a
   rw[this,Wy,<- a,XS];exact b
  .rw[Jl a]at b;have:(xs.length == ys.length)=false:=by simpa using a
   rw[this,Ja];exact b
theorem Py(f:X.A.units<cLine):Aw X (compareOp .NotEq) (MD X.K true):=by
 intro Zq s Z H x y v u Q I r o h;obtain⟨p,q,xs,ys,rfl,rfl,t,l,k,w⟩:=h;cases r;cases o;have b:Q (.bl (!Ez xs ys)) H:=w;rcases t with⟨i,g⟩|⟨i,g⟩
 .obtain⟨A0,d,p1,n⟩:=I.list i;obtain⟨BW,c,p2,m⟩:=I.list g;have l1:=d.length;have l2:=c.length
  by_cases a:xs.length=ys.length
  .refine SeqAt.RcNeAt.lists (e:=λj=>Dp (xs.getD j .A6) (ys.getD j .A6)) p1.isList p2.isList (by simp;omega) f (QZ d c l k) _ _ _ _ ⟨.bl _,H,I,rfl,?_⟩;rw[KO a]at b;simp only[Bn,<- l1];exact b
  .rw[Jl a]at b;exact ZB3 p1.isList p2.isList (by simp;omega) f _ _ _ _ ⟨.bl true,H,I,rfl,b⟩
 .obtain⟨A0,d,p1,n⟩:=I.tuple i;obtain⟨BW,c,p2,m⟩:=I.tuple g;have l1:=d.length;have l2:=c.length;refine SeqAt.RcNeAt.tuples (e:=λj=>Dp (xs.getD j .A6) (ys.getD j .A6)) p1 p2 f (QZ d c l k) _ _ _ _ ⟨.bl _,H,I,rfl,?_⟩;simp only[Bn,<- l1,<- l2]
  by_cases a:xs.length=ys.length
  .rw[KO a]at b;have:(xs.length == ys.length)=true:=by simpa using a
   rw[this,Wy,<- a,XS];exact b
  .rw[Jl a]at b;have:(xs.length == ys.length)=false:=by simpa using a
   rw[this,Ja];exact b
theorem sU:Br X (.builtin "isinstance") (λxs H Q=>∃x n t b,xs=[x,.ty n]/\Ef X.K H x t/\PySem.W.kitOne X.K t (.type n)=some b/\Q (.bl b) H):=by
 intro Zq s Z H xs us Q I r h;obtain⟨x,n,t,b,rfl,ty,e,q⟩:=h;obtain⟨u,c,rfl,a,rt⟩:=vals2 r;cases rt;exact uT I a ty e λtk=>⟨.bl b,H,I.tok tk,rfl,q⟩
theorem Z5{bs:List Bool}(r:Vals (bs.map V.bl) A0)(e:A0[i]?=some v):v=.bool (bs.getD i false):=by
 have c:=r.length;rw[AA]at c;have hi:i<A0.length:=(List.getElem?_eq_some_iff.mp e).1;have e1:(bs.map V.bl)[i]?=some (.bl (bs[i]'(by omega))):=by rw[AO,AK (by omega)];rfl
 obtain⟨u,a,b⟩:=r.get e1;rw[e]at a;cases a;cases b;rw[DN,AK (by omega)];rfl
theorem range_all(bs:List Bool):(List.range bs.length).all (λi=>bs.getD i false)=bs.all id:=by
 rw[HQ,HU,HU];constructor
 .intro h x hx;obtain⟨i,hi,rfl⟩:=List.mem_iff_getElem.mp hx;have:=h i (List.mem_range.mpr hi);rw[DN,AK hi]at this;exact this
 .intro h i hi;rw[DN,AK (List.mem_range.mp hi)];exact h _ (Fi _)
theorem range_any(bs:List Bool):(List.range bs.length).any (λi=>bs.getD i false)=bs.any id:=by
 rw[HQ,L0,L0];constructor
 .rintro⟨i,hi,h⟩;have a:=List.mem_range.mp hi;rw[DN,AK a]at h;exact⟨_,Fi a,h⟩
 .rintro⟨x,hx,h⟩;obtain⟨i,hi,rfl⟩:=List.mem_iff_getElem.mp hx;refine⟨i,List.mem_range.mpr hi,?_⟩;rw[DN,AK hi];exact h
theorem Km(k:X.calm=true):Br X (.builtin "all") (λxs H Q=>∃(p:Addr)(bs:List Bool),xs=[.ref p]/\AG X.K H p (bs.map V.bl)/\Q (.bl (bs.all id)) H):=by
 intro Zq s Z H xs us Q I r h;obtain⟨p,bs,rfl,j,q⟩:=h;obtain⟨u,rfl,d⟩:=vals1 r;cases d;obtain⟨A0,a,pl,hz⟩:=I.list j;have c:=a.length;rw[AA]at c;refine call_all_walk (yI pl.isList ?_);obtain⟨o,n,ho,_⟩:=id pl;have m:p≠s.heap.objs.size:=Az (AY ho);refine⟨s.heap.objs.size,_,_,_,_,_,λi=>bs.getD i false,rfl,Walks.list (by rw[Wu];exact I.ok.hd k) _ p m A0.toArray,⟨⟨_,BP _ rfl,rfl,rfl⟩,pl.isList.push _⟩,λi v s' Q' E' g D6=>?_,λh' tk kp=>?_⟩
 .have l:v=.bool (bs.getD i false):=Z5 a (by simpa using g)
  rw[l];exact oe D6
 .refine⟨.bl _,H,I.kept (t':=tk) λb f e=>kp b f (by simpa using Az (AY e)) (Ay _ e),rfl,?_⟩
  rw[Bn,<- c,range_all];exact q
theorem wU(k:X.calm=true):Br X (.builtin "any") (λxs H Q=>∃(p:Addr)(bs:List Bool),xs=[.ref p]/\AG X.K H p (bs.map V.bl)/\Q (.bl (bs.any id)) H):=by
 intro Zq s Z H xs us Q I r h;obtain⟨p,bs,rfl,j,q⟩:=h;obtain⟨u,rfl,d⟩:=vals1 r;cases d;obtain⟨A0,a,pl,hz⟩:=I.list j;have c:=a.length;rw[AA]at c;refine call_any_walk (yI pl.isList ?_);obtain⟨o,n,ho,_⟩:=id pl;have m:p≠s.heap.objs.size:=Az (AY ho);refine⟨s.heap.objs.size,_,_,_,_,_,λi=>bs.getD i false,rfl,Walks.list (by rw[Wu];exact I.ok.hd k) _ p m A0.toArray,⟨⟨_,BP _ rfl,rfl,rfl⟩,pl.isList.push _⟩,λi v s' Q' E' g D6=>?_,λh' tk kp=>?_⟩
 .have l:v=.bool (bs.getD i false):=Z5 a (by simpa using g)
  rw[l];exact oe D6
 .refine⟨.bl _,H,I.kept (t':=tk) λb f e=>kp b f (by simpa using Az (AY e)) (Ay _ e),rfl,?_⟩
  rw[Bn,<- c,range_any];exact q
def W8:V->List V->Hp->VK->Prop:=λx vs H Q=>∃(l:Addr)(xs:List V)(j:Int)(y:V),x=.ref l/\vs=[.int j,y]/\H l=some (.lst xs)/\0<=j/\j<=xs.length/\xs.length<sizeLine/\Q .A6 (upd H l (.lst (xs.take j.toNat++y::xs.drop j.toNat)))
theorem tE:Tx X "list.insert" W8:=by
 intro Zq s Z H x vs v us Q I d f h;obtain⟨l,xs,j,y,rfl,rfl,b,p,o,hz,q⟩:=h;cases d;obtain⟨A,a,rfl,g,c⟩:=f.two;obtain⟨t,rfl⟩:=g;obtain⟨z,A0,n,r,m,e⟩:=I.UB b;have h2:j<2 ^ 63:=by
  have B:(xs.length:Int)<=(sizeLine:Int):=Int.ofNat_le.mpr z;have C:((sizeLine:Nat):Int)<2 ^ 63:=by exact_mod_cast KL
  omega
 have i:(!Builtin.List.listFitsIndex j)=true->False:=by
  have h1:Builtin.List.listFitsIndex j=true:=by
   unfold Builtin.List.listFitsIndex;rw[Cq];exact⟨hU (by omega),hU h2⟩
  rw[h1];exact λh=>nomatch h
 have w:A0.toArray.size<=sizeLine:=CQ (Rj (List.size_toArray.trans m.symm)) z;refine call_meets ZAy ⟨_,e,rfl⟩ PySem.F.entry_list_insert (PySem.F.args_list_insert_3 _ _ _) (PySem.AutoSeq1.list_insert_list_int_val_1 l A0.toArray n j t a i w) ⟨e,?_⟩;refine⟨.A6,_,I.Te (its':=A0.take j.toNat++a::A0.drop j.toNat) b e ?_ ((r.take _).append (.cons c (r.drop _))) ?_,rfl,q⟩
 .have u:¬ (j<0):=by omega
  have k:min j.toNat A0.toArray.size=j.toNat:=by simp;omega
  simp only[u,ZBE,k];apply Array.toList_inj.mp;simp;exact XN (by simp)
 .rw[BX,BA,GC,RY];omega
def pE:V->Option Int->Option Int->Hp->VK->Prop:=λx lo hi H Q=>∃z,x=.str z/\z.length<=sizeLine/\Q (.str (Txt.slice z lo hi)) H
theorem part_of{o:Option Int}(p:IsPart v o):∃l:Option (Int×Tok),v=partValue l/\l.map (·.1)=o:=by
 cases p with
 |none=>exact⟨none,rfl,rfl⟩
 |int i t=>exact⟨some (i,t),rfl,rfl⟩
theorem Xa:QP X pE:=by
 intro Zq s Z H x v g f lo hi sl Q I a d pl b h;obtain⟨z,rfl,hz,q⟩:=h;obtain⟨t,rfl⟩:=a;obtain⟨l,rfl,e⟩:=part_of pl;obtain⟨u,rfl,c⟩:=part_of b;subst e;subst c;refine⟨"str", _,F.slot_str_getitem.lookup,typeIs_str _ _ _,wpAny_getItem_str_slice (l:=l) (u:=u) (st:=none) d rfl (post_val_or_str ⟨CQ (Txt.slice_le z _ _) hz,λt' k=>?_⟩)⟩;exact⟨.str _,H,I.tok k,⟨t',rfl⟩,q⟩
end L2
set_option exponentiation.threshold 5000
namespace L2
variable{a f p:Addr}{H:Hp}
def AJ(P:Program)(w:World)(K:ZBx)(mg:ZBz)(ZB:Heap)(x:Str)(k:Nat)(ps:List Str)(sp:Sp):Prop:=
 ∃f fd,E5 P w K mg ZB De k f fd ps sp/\Binds K fd ps []/\PySem.W.keepIn K (.ref f)=true/\mg x=some (.ref f)
section
variable{P:Program}{w:World}{K:ZBx}{mg:ZBz}{ZB:Heap}{x qual:Str}{k:Nat}{ps:List Str}{sp:Sp}{st:Stmt}{fd:FuncData}
theorem AJ.mk(F:AR K x qual st f fd)(b:Binds K fd ps [])(m:mg x=some (.ref f))(h:E5 P w K mg ZB De k f fd ps sp):AJ P w K mg ZB x k ps sp:=⟨f,fd,h,b,F.kp,m⟩
variable{X:Cx}{j:Nat}{p pos:Pos}{e:Expr}{es:List Expr}{t:TA}
def Kh(K:ZBx):List V->Hp->VK->Prop:=λxs H Q=>∃(p:Addr)(ys:List V),xs=[.ref p]/\(AG K H p ys∨Ab K H p ys)/\Q (.int ys.length) H
theorem Cp:Br X (.builtin "len") (Kh X.K):=LG
def N6(K:ZBx):List V->Hp->VK->Prop:=λxs H Q=>∃(x:V)(n:String)(t:Value)(b:Bool),xs=[x,.ty n]/\Ef K H x t/\PySem.W.kitOne K t (.type n)=some b/\Q (.bl b) H
theorem Jp:Br X (.builtin "isinstance") (N6 X.K):=sU
theorem JI:KZ X "list.append" QN:=cg
theorem vh:KZ X "list.insert" W8:=tE
def jr(i j:Int):Prop:=i.natAbs<2 ^ 1000/\j.natAbs<2 ^ 1000
theorem eD{n:Nat}(h:n<2 ^ 1000):n.log2<1000:=by
 rcases ZAq n with e|e
 .subst e;exact(show(0:Nat).log2<1000 by decide)
 .exact(Nat.log2_lt (EA e)).mpr h
theorem bits_le{i:Int}(h:i.natAbs<2 ^ 1000):Builtin.Int.intBits i<=2 ^ 20:=by
 unfold Builtin.Int.intBits;split
 .exact Bo _
 .have:=eD h;have e:(2:Nat) ^ 20=1048576:=by decide
  omega
theorem KP:Aw X (binaryOp .Mult) (rI jr λi j=>.int (i * j)):=Pw λ_ _ _ _ _ _ _ a q=>mul_int q (.of_bits (bits_le a.1) (bits_le a.2))
theorem VZ:Aw X (binaryOp .FloorDiv) (rI (λ_ j=>0<j/\j.natAbs<2 ^ 1000) λi j=>.int (i / j)):=Pw λi j _ _ _ _ _ a q=>by
 have h1:(0:Int)<j:=a.1;have h2:=eD a.2;exact floordiv_int (by omega) (by rw[Int.fdiv_eq_ediv_of_nonneg i (by omega)];exact q) (.inl (PyProof.noPylong_of_log2 (by omega)))
theorem kP{body rest:List Stmt}{t u:TS}(e:body=st::rest)(h:PS X st t)(h2:Dt X rest u):Dt X body (M5 t u):=by rw[e];exact jD h h2
def Tz(t:TS):TS:=λD Z H=>∃J:St->Hp->Prop,t { D with nx:=J } Z H/\∀ σ' H',J σ' H'->D.nx σ' H'
end
theorem mn{K:ZBx}{tp:Bool}{xs:List V}{g:TG}{tb:TS}{D:Ends}{Z:St}(Pv:Nat->St->Hp->Prop)(j:Pv 0 Z H)(h:∀i Z H,i<=xs.length->Pv i Z H->CK K tp H a xs)
  (f:∀i x Z H,xs[i]?=some x->Pv i Z H->g x Z H λσ2 H2=>tb { D with nx:=Pv (i+1),ct:=Pv (i+1),bk:=D.nx } σ2 H2) (hd:∀ Z H,Pv xs.length Z H->D.nx Z H) :
  ∃W:Nat->Nat->St->Hp->Prop,(∃m,W 0 m Z H)/\∀i m Z H,W i m Z H->
   ((Io K tp a xs).stop i H/\D.nx Z H)∨((Io K tp a xs).go i H/\∃N:St->Hp->Prop,(∀ σ' H',N σ' H'->∃b,b < m/\W (i+1) b σ' H')/\∀x H',(Io K tp a xs).Dc i H x H'->g x Z H' λσ2 H2=>tb { D with nx:=N,ct:=N,bk:=D.nx } σ2 H2):=by
 refine⟨λi m Z H=>m=xs.length - i/\i<=xs.length/\Pv i Z H,⟨xs.length,by simp,Bo _,j⟩,λi m Z H⟨e,hi,p⟩=>?_⟩;subst e;have q:=h i Z H hi p
 by_cases c:i<xs.length
 .refine .inr ⟨⟨q,c⟩,Pv (i+1),λσ' H' d=>⟨xs.length - (i+1),by omega,rfl,c,d⟩,λx H' y=>?_⟩;obtain⟨e,y⟩:=y;subst e;exact f i x Z _ y p
 .have e:i=xs.length:=by omega
  subst e;exact .inl ⟨⟨q,Aa _⟩,hd Z H p⟩
def G5(p:Addr)(H H':Hp):Prop:=∀b o,b≠p->H b=some o->H' b=some o
theorem G5.trans{H1 H2:Hp}(a:G5 p H H1)(b:G5 p H1 H2):G5 p H H2:=λc o d e=>b c o d (a c o d e)
theorem G5.of{H':Hp}(a:AD H H'):G5 p H H':=λc o _ e=>a c o e
theorem G5.upd{o:HO}:G5 p H (upd H p o):=λc u a e=>by rw[AS a];exact e
end L2
set_option maxHeartbeats 8000000
namespace L2
variable{ss:List Str}
def EN(acc:List Str)(x:Str):List Str:=if acc.any (· == x)then acc else acc++[x]
def dd(ss:List Str):List Str:=ss.foldl EN []
theorem yh(acc:List Str)(x k:Str):(EN acc x).any (· == k)=(acc.any (· == k) || decide (k=x)):=by
 unfold EN
 by_cases h:acc.any (· == x)=true
 .rw[i5 h]
  by_cases e:k=x
  .subst e;rw[h];simp
  .simp[e]
 .rw[i3 h,List.any_append]
  by_cases e:k=x
  .subst e;simp
  .have a:(x == k)=false:=by simpa[ZA3]using(λh':x=k=>e h'.symm)
   simp[a,e]
theorem bb(acc:List Str)(x:Str):(EN acc x).length=if acc.any (· == x)then acc.length else acc.length+1:=by
 unfold EN;split <;> simp
theorem cL(ss:List Str)(i:Nat)(h:i<ss.length):dd (ss.take (i+1))=EN (dd (ss.take i)) ss[i]:=by
 unfold dd;rw[Jf h,List.foldl_append];rfl
theorem V6(ss:List Str):(dd ss).length<=ss.length:=by
 have:∀(l acc:List Str),(l.foldl EN acc).length<=acc.length+l.length:=by
  intro l
  induction l with
  |nil=>intro acc;simp
  |cons x r a=>
   intro acc;rw[RW];have h1:=a (EN acc x);rw[bb]at h1;simp only[BA];split at h1 <;> omega
 have q:=this ss [];simp only[RZ,Rm]at q;exact q
section
variable{prog:Program}{w:World}{A:Around}{R:Result->Shared->Prop}{I:Addr}{fp wr:List Addr}{G:Array GenState->Array GenState->Prop}{n:Nat}{P:Nat->Value->Prop}{St:Nat->Shared->Prop}
variable{E:Value->Shared->Prop}{s:Shared}
theorem sub_tuple_set:isSubtype (.type "tuple") (.type "set")=pure false:=by rw[pe];kernel_rfl
theorem sub_tuple_frozenset:isSubtype (.type "tuple") (.type "frozenset")=pure false:=by rw[pe];kernel_rfl
end
noncomputable def vy(P:Program)(w:World)(a:Addr)(f:Str->Bool)(n:Nat):HO:=.ext λh=>h.SetOf (strKind P w) a f n
section
variable{X:Cx}
theorem fN{A0:List Value}(r:Vals (ss.map V.str) A0){i:Nat}{v:Value}(e:A0[i]?=some v):∃(h:i<ss.length)(t:Tok),v=.str ss[i] t:=by
 have d:=r.length;rw[AA]at d;have hi:i<A0.length:=(List.getElem?_eq_some_iff.mp e).1;have b:i<ss.length:=by omega
 have e1:(ss.map V.str)[i]?=some (.str ss[i]):=by rw[AO,AK b];rfl
 obtain⟨u,a,c⟩:=r.get e1;rw[e]at a;cases a;obtain⟨t,q⟩:=c;exact⟨b,t,q⟩
end
end L2
set_option maxHeartbeats 4000000
namespace L2
variable{X:Cx}{a c e l o tg:Expr}{es ifs:List Expr}{body rest:List Stmt}{t tb:TS}{tc tt:TT}{te tl to:TE}{p pos pos' px:Pos}{name x y:Str}{Eb op:CmpOp}{r:V->List V->Hp->VK->Prop}{ps:List Str}{sp:Sp}{T:String}{wi:TI}{i n:Nat}{g:TG}{w:World}{I f:Addr}
structure QE (X:Cx) (e:Expr) (t:TE):Prop where h:PE X e t
structure QT (X:Cx) (e:Expr) (t:TT):Prop where h:PT X e t
structure QW (X:Cx) (e:Expr) (t:TT):Prop where h:PW X e t
structure QA (X:Cx) (es:List Expr) (t:TA):Prop where h:PA X es t
structure QS (X:Cx) (st:Stmt) (t:TS):Prop where h:PS X st t
structure Eo (X:Cx) (st:List Stmt) (t:TS):Prop where h:Dt X st t
structure QG (X:Cx) (tg:Expr) (t:TG):Prop where h:PG X tg t
structure P6 (X:Cx) (ts:List Expr) (t:Ga):Prop where h:Lr X ts t
structure QI (X:Cx) (tg iter:Expr) (wi:TI):Prop where h:PI X tg iter wi
structure NM (X:Cx) (ifs:List Expr) (t:TT):Prop where h:ID X ifs t
structure QO (X:Cx) (e:Option Expr) (t:TO):Prop where h:PO X e t
section
variable{b:Expr}{rest:List Expr}{ta tb tc:TE}{tA IB:TT}{t:TA}{p2 apos CS:Pos}
theorem qv(i:Nat)(g:X.N[i]?=some x:=by rfl)(hv:Uy X.env.scope x:=by first|exact Or.inl rfl|exact Or.inr (Or.inl rfl)|exact Or.inr (Or.inr rfl))(hd:(x == ("__debug__":Str))=false:=by decide)
  (Ea:(x == ("__classdict__":Str))=false:=by decide):QE X (.Name x pos) (Ar i):=⟨by
 intro Zq s Z H Q I h;obtain⟨v,e,h⟩:=h;obtain⟨m,b,f⟩:=I.loc;obtain⟨u,r,l⟩:=f i x v g e hv;have fin:EP X Zq Z Q u s:=⟨v,H,I,r,h⟩;rcases l with⟨hk,d⟩|⟨hk,c,a,Yq⟩
 .exact wpAny_Name (wpAny_loadName_local I.ok.kind hk b d fin) hd
 .rcases hk with hk|hk
  .exact wpAny_Name (wpAny_loadName_cell I.ok.kind hk a Yq fin) hd
  .exact wpAny_Name (wpAny_loadName_free I.ok.kind hk a Yq fin Ea) hd⟩
theorem AB{i j pos}:QE X (.Constant (.int i) j pos) (tC (.int i)):=⟨λ_ _ _ H _ I h=>wpAny_Constant_int ⟨.int i,H,I.tok _,⟨_,rfl⟩,h⟩⟩
theorem DU{b j pos}:QE X (.Constant (.bool b) j pos) (tC (.bl b)):=⟨λ_ _ _ H _ I h=>Constant_bool ⟨.bl b,H,I,rfl,h⟩⟩
theorem Vx{j pos}:QE X (.Constant .none j pos) (tC .A6):=⟨λ_ _ _ H _ I h=>Constant_none ⟨.A6,H,I,rfl,h⟩⟩
theorem DC{x j pos}:QE X (.Constant (.str x) j pos) (tC (.str x)):=⟨λ_ _ _ H _ I h=>Calls.Constant_str ⟨.str x,H,I.tok _,⟨_,rfl⟩,h⟩⟩
theorem Xq{v:V}{u:Value}(hg:Gl X x)(a:X.mg x=some u)(r:RelV v u)(hd:(x == ("__debug__":Str))=false:=by decide):QE X (.Name x pos) (tC v):=⟨λ_ _ _ H _ I h=>dk I hg a ⟨v,H,I,r,h⟩ hd⟩
theorem Kf(T:String)(a:X.mg x=none)(hg:Gl X x:=by rfl)(hv:bootBuiltins x=some (.type T):=by decide +kernel)(hn:x ≠"__name__" := by decide)(hd:(x == ("__debug__":Str))=false:=by decide):
  QE X (.Name x pos) (tC (.ty T)):=⟨uR hg a hv rfl hn hd⟩
theorem BF{op:Operator}{r:R2}(ho:Aw X (binaryOp op) r)(d:QE X a ta)(c:QE X b tb):QE X (.BinOp a op b pos) (B8 r ta tb):=⟨by
 have d:=d.h;have c:=c.h;intro Zq s Z H Q I h;exact wpAny_BinOp (WZ d c I h λv u s2 x y H2 I2 f e q=>ho Zq s2 Z H2 x y v u Q I2 f e q)⟩
theorem Zp{op:UnaryOp}{r:V->Hp->VK->Prop}(ho:RL X (unaryOp op) r)(b:QE X a ta):QE X (.UnaryOp op a pos) (OX r ta):=⟨by
 have b:=b.h;intro Zq s Z H Q I h;exact UnaryOp_ (Ao (b Zq s Z H _ I h) λv s1 AN=>by obtain⟨x,H1,I1,c,d⟩:=AN;exact ho Zq s1 Z H1 x v Q I1 c d)⟩
theorem lD{r:R2}(ho:Aw X (compareOp op) r)(d:QE X a ta)(c:QE X b tb)(g:behindInMarks op b=false):QE X (.Compare a [op] [b] pos) (B8 r ta tb):=⟨by
 have d:=d.h;have c:=c.h;intro Zq s Z H Q I h;exact wpAny_Compare1 (WZ d c I h λv u s2 x y H2 I2 f e q=>ho Zq s2 Z H2 x y v u Q I2 f e q) g⟩
theorem rP{r:R2}(ho:Aw X (compareOp op) r)(e:QE X a ta)(d:QE X b tb)(c:behindInMarks op b=false):QT X (.Compare a [op] [b] pos) (KC (B8 r ta tb)):=⟨xV ho e.h d.h c⟩
theorem iD{r l:R2}(ho:Aw X (compareOp op) r)(Bq:Aw X (compareOp Eb) l)(i:QE X a ta)(g:QE X b tb)(f:QE X c tc)
  (D:lastMarks [op,Eb] [b,c]=false:=by with_unfolding_all rfl):QE X (.Compare a [op,Eb] [b,c] pos) (NG r l ta tb tc):=⟨by
 have i:=i.h;have g:=g.h;have f:=f.h;intro Zq s Z H Q I h;refine Compare_chain (i.k I h λv s1 x H1 I1 w C=>chain_link (g.k I1 C λu s2 y H2 I2 j B=>
  Ao (ho Zq s2 Z H2 x y v u _ I2 w j B) λd p⟨z,H3,I3,t,k,e,m⟩=>?_)) D
 subst e;cases t;refine oe ?_;cases k with
 |false=>exact ite_ff ⟨.bl false,H3,I3,rfl,m⟩
 |true=>exact ite_tt (chain_last (Ao (f Zq p Z H3 _ I3 m) λo s4⟨n,H4,I4,q,A⟩=>Bq Zq s4 Z H4 y n u o Q I4 j q A))⟩
theorem eF{r l:R2}(ho:Aw X (compareOp op) r)(Bq:Aw X (compareOp Eb) l)(i:QE X a ta)(g:QE X b tb)(f:QE X c tc)
  (J:lastMarks [op,Eb] [b,c]=false:=by with_unfolding_all rfl):QT X (.Compare a [op,Eb] [b,c] pos) (KC (NG r l ta tb tc)):=⟨by
 have i:=i.h;have g:=g.h;have f:=f.h;intro Zq s Z H Q I h;refine isTrue_chain (i.k I h λv s1 x H1 I1 B F=>test_link (g.k I1 F λu s2 y H2 I2 j E=>
  Ao (ho Zq s2 Z H2 x y v u _ I2 B j E) λd q⟨z,H3,I3,A,k,e,m⟩=>?_)) J
 subst e;cases A;refine oe ?_;cases k with
 |false=>
  obtain⟨k',L,G⟩:=m;cases L;exact ite_ff ⟨H3,I3,G⟩
 |true=>
  refine ite_tt (test_last (Ao (f Zq q Z H3 _ I3 m) λp s4⟨o,H4,I4,w,D⟩=>Ao (Bq Zq s4 Z H4 y o u p _ I4 j w D) λd' N n=>?_));obtain⟨M,H5,I5,t,k2,K,C⟩:=n;subst K;cases t;exact oe ⟨H5,I5,C⟩⟩
theorem LL{op}(h:QE X a ta):QE X (.BoolOp op [a] pos) ta:=⟨by have h:=h.h;exact λZq s Z H Q I hw=>BoolOp_one (h Zq s Z H Q I hw)⟩
theorem LF(f:QE X a ta)(e:QE X (.BoolOp .And (b::rest) pos) tb):QE X (.BoolOp .And (a::b::rest) pos) (Sd ta tb):=⟨by
 have f:=f.h;have e:=e.h;intro Zq s Z H Q I h;refine BoolOp_and (f.k I h λv s1 x H1 I1 g d=>?_);obtain⟨c,rfl,d⟩:=d;cases g;refine oe ?_;cases c with
 |true=>exact e Zq s1 Z H1 Q I1 d
 |false=>exact⟨.bl false,H1,I1,rfl,d⟩⟩
theorem zf(f:QE X a ta)(e:QE X (.BoolOp .Or (b::rest) pos) tb):QE X (.BoolOp .Or (a::b::rest) pos) (U3 ta tb):=⟨by
 have f:=f.h;have e:=e.h;intro Zq s Z H Q I h;refine BoolOp_or (f.k I h λv s1 x H1 I1 g d=>?_);obtain⟨c,rfl,d⟩:=d;cases g;refine oe ?_;cases c with
 |false=>exact e Zq s1 Z H1 Q I1 d
 |true=>exact⟨.bl true,H1,I1,rfl,d⟩⟩
theorem me(d:QE X a ta):QE X (.UnaryOp .Not a pos) (WC ta):=⟨by
 have d:=d.h;intro Zq s Z H Q I h;refine UnaryOp_ (d.k I h λv s1 x H1 I1 e b=>?_);obtain⟨c,rfl,b⟩:=b;cases e;exact not_of (oe ⟨.bl (!c),H1,I1,rfl,b⟩)⟩
theorem My(b:QT X a tA):QW X (.BoolOp .And [a] pos) tA:=⟨by
 have b:=b.h;intro d Zq s Z H Q I h;refine isTrue_and (Ao (b Zq s Z H Q I h) λc s1 e=>?_);cases c with
 |true=>exact isTrue_and_nil e
 |false=>exact e⟩
theorem IC(b:QT X a tA):QW X (.BoolOp .Or [a] pos) tA:=⟨by
 have b:=b.h;intro d Zq s Z H Q I h;refine isTrue_or (Ao (b Zq s Z H Q I h) λc s1 e=>?_);cases c with
 |false=>exact isTrue_or_nil e
 |true=>exact e⟩
theorem LI(e:QT X a tA)(d:QW X (.BoolOp .And (b::rest) pos) IB):QW X (.BoolOp .And (a::b::rest) pos) (Wb tA IB):=⟨by
 have e:=e.h;have d:=d.h;intro g Zq s Z H Q I h;refine isTrue_and (Ao (e Zq s Z H _ I h) λc s1 N9=>?_);obtain⟨H1,I1,f⟩:=N9;cases c with
 |true=>exact d g Zq s1 Z H1 Q I1 f
 |false=>exact⟨H1,I1,f⟩⟩
theorem HP(e:QT X a tA)(d:QW X (.BoolOp .Or (b::rest) pos) IB):QW X (.BoolOp .Or (a::b::rest) pos) (Mg tA IB):=⟨by
 have e:=e.h;have d:=d.h;intro g Zq s Z H Q I h;refine isTrue_or (Ao (e Zq s Z H _ I h) λc s1 N9=>?_);obtain⟨H1,I1,f⟩:=N9;cases c with
 |true=>exact⟨H1,I1,f⟩
 |false=>exact d g Zq s1 Z H1 Q I1 f⟩
theorem QW.pt{t:TT}(h:QW X e t):QT X e t:=⟨h.h.pt⟩
theorem Fl(b:QT X a tA):QT X (.UnaryOp .Not a pos) (S8 tA):=⟨by
 have b:=b.h;intro Zq s Z H Q I h;exact isTrue_not (b Zq s Z H (λc H1=>Q (!c) H1) I h)⟩
theorem FZ(h:QE X e te)(f:∀a,isTrue e X.env a=(do let v <- a;standAt e.pos;holding [v] (truthy v)):=by intro _;rfl):QT X e (tB te):=⟨by
 have h:=h.h;intro Zq s Z H Q I hw;refine isTrue_plain (h.k I hw λv s1 x H1 I1 b c=>?_) (f _);obtain⟨d,rfl,q⟩:=c;cases b;exact oe ⟨H1,I1,q⟩⟩
theorem A4:QA X [] BK:=⟨λ_ _ _ _ H Q I h=>Calls.spliced_nil ⟨[],H,I,.nil,h⟩⟩
theorem A3(c:QE X e te)(b:QA X es t)(a:El X e es:=by rfl):QA X (e::es) (Ag te t):=⟨wZ c.h b.h a⟩
theorem GF{x1}(h:QA X es t):QE X (.Tuple es x1 pos) (Q7 t):=⟨jV h.h⟩
theorem Ge(h:QA X es t):QE X (.List es pos) (Sa t):=⟨zH h.h⟩
theorem UD:QO X none Vj:=⟨by
 intro Zq s Z H Q I h;rw[evalPart_none];exact hJ ⟨none,H,I,.none,h⟩⟩
theorem Si(h:QE X e te):QO X (some e) (Sy te):=⟨by
 have h:=h.h;intro Zq s Z H Q I hw;rw[evalPart_some];refine Ao (h Zq s Z H _ I hw) λu s1 WQ=>?_;obtain⟨x,H1,I1,a,b⟩:=WQ;obtain⟨i,rfl,q⟩:=b;obtain⟨t,rfl⟩:=a;exact⟨some i,H1,I1,.int i t,q⟩⟩
theorem V5{r:V->Option Int->Option Int->Hp->VK->Prop}{lo hi:Option Expr}{tl th:TO}(y:QP X r)(i:QE X e te)(g:QO X lo tl)(f:QO X hi th):QE X (.Subscript e (.Slice lo hi none p2) pos) (Ro r te tl th):=⟨by
 have i:=i.h;have g:=g.h;have f:=f.h;intro Zq s Z H Q I h;refine Subscript_ (i.k I h λv s1 x H1 I1 j o=>?_);refine wpAny_Slice (Ao (g Zq s1 Z H1 _ I1 o) λd s2⟨l,H2,I2,pl,n⟩=>Ao (f Zq s2 Z H2 _ I2 n) λc a Tn=>?_);obtain⟨u,H3,I3,p,m⟩:=Tn;rw[evalPart_none];refine hJ ?_;have B:Inv X Zq Z H3 { a with heap:=a.heap.push { cls:=.type "slice", data:=.fields #[d,c,.none] } }:=I3.kept (t':=a.toks) λb C q=>Ay _ q
 obtain⟨T,id,z,t,hg⟩:=y Zq { a with heap:=a.heap.push { cls:=.type "slice", data:=.fields #[d,c,.none] } } Z H3 x v d c l u a.heap.objs.size Q B j (Heap.IsSliceOf.new ..) pl p m
 show wpAny (model X.prog X.w) X.A (subscriptTail e (.Slice lo hi none p2) v (.ref a.heap.objs.size)) (EP X Zq Z Q) X.xe { a with heap:=a.heap.push { cls:=.type "slice", data:=.fields #[d,c,.none] } }
 exact tail_any (ops:=[.ref a.heap.objs.size,v]) t z hg (by with_unfolding_all rfl)⟩
theorem wM{r:R2}(i:Dv X r)(d:QE X a ta)(c:QE X b tb)(g:SI b):QE X (.Subscript a b pos) (B8 r ta tb):=⟨by
 have d:=d.h;have c:=c.h;intro Zq s Z H Q I h;exact Subscript_ (WZ d c I h λv u s2 x y H2 I2 f e q=>i a b Zq s2 Z H2 x y v u Q I2 f e q (g _ _))⟩
theorem wA{j k:Nat}(h:AJ X.prog X.w X.K X.mg X.base x k ps sp)(c:BY j X.A)(hk:k<=j)(a:QA X (e::es) t)(hg:Gl X x:=by rfl)(DS:(x == ("__debug__":Str))=false:=by decide)
  (he:El X e es:=by rfl) (BI:BEq X pos es:=by rfl):QE X (.Call (.Name x p) (e::es) [] pos) (Dz sp [] E0 t):=⟨by
 have a:=a.h;obtain⟨f,fd,F,b,kp,m⟩:=h;exact hX (F.mono hk) c hg m kp b .nil mL a DS he BI⟩
theorem sC{id:String}{r:List V->Hp->VK->Prop}(i:Br X (.builtin id) r)(hg:Gl X x)(g:X.mg x=none)(d:bootBuiltins x=some (.builtin id))(a:QA X (e::es) t)(f:x ≠"__name__" := by decide)(DS:(x == ("__debug__":Str))=false:=by decide)
  (he:El X e es:=by rfl) (BI:BEq X pos es:=by rfl):QE X (.Call (.Name x p) (e::es) [] pos) (CO r t):=⟨by
 have a:=a.h;intro Zq s Z H Q I h;refine v9 (K3 I hg g d ?_ f DS);exact PyProof.Rows.callWith_builtin1 (Ao (a pos Zq s Z H _ I h) λus s1 AN=>by obtain⟨vs,H1,I1,b,c⟩:=AN;exact i Zq s1 Z H1 vs us Q I1 b c) he BI⟩
theorem lI{r:List V->Hp->VK->Prop}(i:Br X (.type T) r)(hg:Gl X x)(g:X.mg x=none)(d:bootBuiltins x=some (.type T))(a:QA X (e::es) t)(f:x ≠"__name__" := by decide)(DS:(x == ("__debug__":Str))=false:=by decide)
  (he:El X e es:=by rfl) (BI:BEq X pos es:=by rfl):QE X (.Call (.Name x p) (e::es) [] pos) (CO r t):=⟨by
 have a:=a.h;intro Zq s Z H Q I h;refine v9 (K3 I hg g d ?_ f DS);exact XW (Ao (a pos Zq s Z H _ I h) λus s1 AN=>by obtain⟨vs,H1,I1,b,c⟩:=AN;exact i Zq s1 Z H1 vs us Q I1 b c) he BI⟩
theorem pO{id:String}(c:PlainAttrs T)(slot:Slot T name id)(KG:typeOf (.builtin id)=pure (.type "method_descriptor"))(d:KZ X id r)(ho:QE X o to)
  (K8:attributeBase o name X.env (eval o X.env)=eval o X.env:=by rfl) (KI:(apos.endLine == CS.line)=true:=by rfl):QE X (.Call (.Attribute o name apos) [] [] CS) (T7 X.K T r to):=⟨by
 have ho:=ho.h;intro Zq s Z H Q I h;refine wpAny_Call_method0_late K8 KI (ho.k I h λv s1 x H1 I1 a WQ=>?_);obtain⟨ty,b⟩:=WQ;obtain⟨h1,h2⟩:=fc I1 a ty;exact⟨T,id,c,slot,KG,h1,h2,ZAP rfl (PySem.evalArgs_none (d Zq s1 Z H1 x [] v [] Q I1 a .nil b))⟩⟩
theorem Hj{id:String}(j:PlainAttrs T)(slot:Slot T name id)(KG:typeOf (.builtin id)=pure (.type "method_descriptor"))(l:KZ X id r)(ho:QE X o to)(a:QA X (e::es) t)
  (K8:attributeBase o name X.env (eval o X.env)=eval o X.env:=by rfl)
  (Rx:((backTo CS (starEach (e::es) X.env)).all (λx=>!x.1) && (backToKw CS (keywordEach [] X.env)).all (λx=>x.1.isSome)
   && decide ((e::es).length+([]:List Keyword).length+(if([]:List Keyword).isEmpty then 0 else 1)<30))=true:=by rfl)
  (KI:(apos.endLine == CS.line)=true:=by rfl) (hs:El X e es:=by rfl) (VM:BEq X CS es:=by rfl) :
  QE X (.Call (.Attribute o name apos) (e::es) [] CS) (Mh X.K T r to t):=⟨by
 have ho:=ho.h;have a:=a.h;intro Zq s Z H Q I h;refine wpAny_Call_method_late K8 Rx KI rfl (ho.k I h λv s1 x H1 I1 b d=>?_);obtain⟨ty,i⟩:=d;obtain⟨h1,h2⟩:=fc I1 b ty;refine⟨T,id,j,slot,KG,h1,h2,?_⟩;have c:=a CS Zq s1 Z H1 _ I1 i;rw[hs]at c ⊢;refine ZAP (by show(false || (backTo CS (starEach es X.env)).any (·.1))=false;rw[VM] <;> rfl) (Calls.evalArgs_plain ?_)
 exact Ao c λus s2 AN=>by obtain⟨vs,H2,I2,f,g⟩:=AN;exact l Zq s2 Z H2 x vs v us Q I2 b f g⟩
variable{elt iter:Expr}{scope:Scope}{A7:List Str}{js:List Nat}
theorem Cz(c:QE X l tl):QI X tg l (ND X.K tl):=⟨by
 have c:=c.h;intro Zq s Z H R I h;refine c.k I h λv s1 x H1 I1 g i=>?_;obtain⟨tp,a,xs,e,d,q⟩:=i;subst e;cases g;have fin:∀b∈[s1.heap.objs.size],EI X Zq H1 b:=λb j=>by
  have e:b=s1.heap.objs.size:=by simpa using j
  subst e;exact I1.N2 (Aa _) (I1.AE.fresh (Aa _))
 cases tp with
 |false=>
  obtain⟨A0,f,p,hz⟩:=I1.list d;refine yI p.isList ?_;exact⟨s1.heap.objs.size,[s1.heap.objs.size],_,_,H1,rfl,I1.kept (t':=s1.toks) λb o e=>Ay _ e,jT a _ xs,⟨_,BP _ rfl,rfl,rfl⟩,fin,q⟩
 |true=>
  obtain⟨A0,f,p,hz⟩:=I1.tuple d;refine xv (show s1.heap.IsTuple a A0.toArray from p) ?_;exact⟨s1.heap.objs.size,[s1.heap.objs.size],_,_,H1,rfl,I1.kept (t':=s1.toks) λb o e=>Ay _ e,yL a _ xs,⟨_,BP _ rfl,rfl,rfl⟩,fin,q⟩⟩
theorem IJ{ta:TA}(hg:Gl X "range")(l:X.mg "range"=none)(c:QA X [a] ta)(i:starEach [a] X.env=[(false,eval a X.env)]:=by rfl):QI X tg (.Call (.Name "range" p) [a] [] pos) (RC ta):=⟨by
 have c:=c.h;intro Zq s Z H R I h;refine Call_ (K3 I hg l boot_range (XW (c.k pos I h λus s1 vs H1 I1 f b=>?_) i rfl));obtain⟨j,e,b,g,q⟩:=b;subst e;cases f with
 |cons r d=>
  cases d;obtain⟨t,rfl⟩:=r;exact call_range_1 (nU I1 (by omega) (by omega) b g (by simpa using q))⟩
theorem FG:NM X [] LJ:=⟨Y3⟩
theorem Mk{t:TT}(a:QT X c t):NM X [c] t:=⟨zD a.h⟩
theorem GW(b:X.calm=true)(S:Cg X.N X.env.scope scope x A7 js)(hi:QI X (.Name x px) iter wi)
  (Du:∀fp C s H,NM (G8 X (A7++[x]) scope (BE X.env.cells scope.names) C s H fp) ifs tt) (D4:∀fp C s H,QE (G8 X (A7++[x]) scope (BE X.env.cells scope.names) C s H fp) elt te)
  (a:∀v,foldedSetIterable iter X.env v=pure v:=by intro _;rfl):QE X (.ListComp elt [⟨.Name x px,iter,ifs,0⟩] scope pos) (GV wi js tt te):=⟨rJ b S hi.h (λfp C s H=>(Du fp C s H).h) (λfp C s H=>(D4 fp C s H).h) a⟩
theorem L9{py JE:Pos}(c:X.N.Nodup)(Dw:X.N[i]?=some y)(a:Loc X.env.scope y)(b:X.calm=true)(S:Cg X.N X.env.scope scope x A7 js)(hi:QI X (.Name x px) iter wi)
  (Du:∀fp C s H,NM (G8 X (A7++[x]) scope (BE X.env.cells scope.names) C s H fp) ifs tt) (D4:∀fp C s H,QE (G8 X (A7++[x]) scope (BE X.env.cells scope.names) C s H fp) elt te)
  (Mi:swapsWith (.ListComp elt [⟨.Name x px,iter,ifs,0⟩] scope pos) (some (.Name y py)) JE.line X.env=pure true:=by rfl)
  (hf:X.fn y=true∨X.env.scope.names.lookup y=some .local:=by first|exact .inl rfl|exact .inr rfl|assumption)
  (hs:∀v,foldedSetIterable iter X.env v=pure v:=by intro _;rfl):QS X (.Assign [.Name y py] (.ListComp elt [⟨.Name x px,iter,ifs,0⟩] scope pos) JE) (EY (GV wi js tt te) (Cf i)):=
 ⟨rR c Dw a b S hi.h (λfp C s H=>(Du fp C s H).h) (λfp C s H=>(D4 fp C s H).h) Mi hf hs⟩
theorem u6(b:X.N.Nodup)(hi:X.N[i]?=some x)(hx:Loc X.env.scope x)(a:X.fn x=true∨X.env.scope.names.lookup x=some .local:=by first|exact .inl rfl|exact .inr rfl|assumption):QG X (.Name x pos) (Cf i):=⟨Vz b hi hx a⟩
theorem NR:P6 X [] Nb:=⟨cB⟩
theorem Fw{t:TG}{u:Ga}(h1:QG X e t)(h2:P6 X es u)
  (a:(assignEach (e::es) X.env).map (·.2)=assign e X.env::(assignEach es X.env).map (·.2):=by rfl):P6 X (e::es) (JZ t u):=⟨dG h1.h h2.h a⟩
theorem MU{k:Nat}{t:Ga}(b:X.calm=true)(h:P6 X es t)(a:(assignEach es X.env).length=n:=by rfl)(FW:(assignEach es X.env).findIdx? (·.1)=none:=by rfl):QG X (.Tuple es k pos) (J8 X.K n t):=⟨gA b h.h a FW⟩
theorem Uz{i:Expr}{ti:TE}{t:QL}(ho:QE X o to)(hi:QE X i ti)(l:Vr X t)
  (m:∀v,assign (.Subscript o i pos) X.env v=(do
   let a <- holding [v] (eval o X.env)
   let b <- holding [v,a] (eval i X.env)
   standAt pos
   holding [v,a,b] (setItem a b v)
   release [v,a,b] []):=by intro _;rfl):QG X (.Subscript o i pos) (Oy to ti t):=⟨by
 have ho:=ho.h;have hi:=hi.h;intro Zq s Z H v u Q I r h;rw[m];refine dP (mB (ho.k I h λa s1 x H1 I1 e j=>?_));refine dP (mB (hi.k I1 j λb s2 y H2 I2 d g=>?_));refine dP (wpAny_standAt (dP (mB (Ao (l Zq s2 Z H2 x y v a b u _ I2 e d r g) λ_ n c=>?_))));obtain⟨H3,I3,f⟩:=c;exact wpAny_release ⟨Z,H3,I3,f⟩⟩
end
section
variable{st:Stmt}{u:TS}
theorem C9:Eo X [] Qf:=⟨λ_ _ Z H _ I h=>zj ⟨Z,H,I,h⟩⟩
theorem AL(e:body=st::rest)(h:QS X st t)(h2:Eo X rest u):Eo X body (M5 t u):=⟨kP e h.h h2.h⟩
theorem AU(e:body=[st])(h:QS X st t):Eo X body t:=⟨by have h:=h.h;rw[e];exact jl h⟩
theorem YO:QS X st Xf:=⟨λ_ _ _ _ _ _ h=>h.elim⟩
theorem Ej(a:QE X e te)(c:swapsWith e none pos.line X.env=pure false:=by rfl):QS X (.Expr e pos) (Hy te):=⟨by
 have a:=a.h;intro Zq s Z H D I h;exact wpAny_Expr_any (Ao (a Zq s Z H _ I h) λv s1 AN=>by obtain⟨x,H1,I1,d,b⟩:=AN;exact⟨Z,H1,I1,b⟩) I.quiet c⟩
theorem B1(a:QE X e te):QS X (.Return (some e) pos) (G3 te):=⟨by
 have a:=a.h;intro Zq s Z H D I h;exact wpAny_Return_some (Ao (a Zq s Z H _ I h) λv s1 AN=>by obtain⟨x,H1,I1,b,c⟩:=AN;exact⟨x,Z,H1,I1,b,c⟩)⟩
theorem C6{a b:List Stmt}(e:QT X c tc)(g:Eo X a t)(f:Eo X b u):QS X (.If c a b pos) (Ld tc t u):=⟨by
 have e:=e.h;have g:=g.h;have f:=f.h;intro Zq s Z H D I h;refine wpAny_If (Ao (e Zq s Z H _ I h) λd s1 N9=>?_);obtain⟨H1,I1,i⟩:=N9;cases d with
 |true=>exact g Zq s1 Z H1 D I1 i
 |false=>exact f Zq s1 Z H1 D I1 i⟩
theorem Nj(a:QE X e te)(hg:QG X tg g)(d:swapsWithSole [tg] e pos.line X.env=pure false:=by rfl)(hw:swappedStores [tg] e X.env=pure none:=by rfl)
  (h1:(assignEach [tg] X.env).map (·.2)=[assign tg X.env]:=by rfl):QS X (.Assign [tg] e pos) (EY te g):=⟨by
 have a:=a.h;have hg:=hg.h;intro Zq s Z H D I h;refine wpAny_Assign_stores (a.k I h λv s1 x H1 I1 b c=>?_) d hw;rw[h1];exact Ao (hg Zq s1 Z H1 x v _ I1 b c) λ_ s2 q=>q⟩
theorem wm(f:X.N.Nodup)(hi:X.N[i]?=some x)(hx:Loc X.env.scope x)(a:QE X e te)(d:swapsWith e (some (.Name x pos')) pos.line X.env=pure false:=by rfl)(hf:X.fn x=true∨X.env.scope.names.lookup x=some .local:=by first|exact .inl rfl|exact .inr rfl|assumption):
  QS X (.Assign [.Name x pos'] e pos) (EY te (Cf i)):=⟨by
 have a:=a.h;intro Zq s Z H D I h;refine wpAny_Assign_Name (a.k I h λv s1 y H1 I1 b c=>?_) d;exact aS I1 f hi hx b (λs2 I2=>⟨_,H1,I2,c⟩) hf⟩
theorem WY(o:PassesOwn (model X.prog X.w) X.A X.env X.xe)(l:QT X c tc)(m:Eo X body tb):QS X (.While c body [] pos) (Vf tc tb):=⟨by
 have l:=l.h;have m:=m.h;intro Zq s Z H D I h;obtain⟨W,⟨u,r⟩,a⟩:=h;refine wpAny_While (codeAny_whileLoop (λn s'=>∃ σ' H',Inv X Zq σ' H' s'/\W n σ' H') ?_ u ⟨Z,H,I,r⟩);rintro n s1⟨σ1,H1,I1,q⟩;refine vN o (Ao (l Zq s1 σ1 H1 _ I1 (a n σ1 H1 q)) λb s2 t=>?_);obtain⟨H2,I2,e⟩:=t;cases b with
 |true=>
  obtain⟨N,p,e⟩:=e;rw[i5 rfl];refine vN o (Ao (m Zq s2 σ1 H2 _ I2 e) λf x d=>?_);cases f with
  |next=>
   obtain⟨σ3,H3,I3,i⟩:=d;obtain⟨j,k,g⟩:=p σ3 H3 i;exact⟨j,k,σ3,H3,I3,g⟩
  |cont=>
   obtain⟨σ3,H3,I3,i⟩:=d;obtain⟨j,k,g⟩:=p σ3 H3 i;exact⟨j,k,σ3,H3,I3,g⟩
  |brk=>exact d
  |ret v=>exact d
 |false=>
  rw[i3 D1];exact zj ⟨σ1,H2,I2,e⟩⟩
theorem EX{iter:Expr}(l:PassesOwn (model X.prog X.w) X.A X.env X.xe)(B:X.calm=true)(hi:QI X tg iter wi)(hg:QG X tg g)(a:Eo X body tb)
  (hs:∀x,foldedSetIterable iter X.env x=pure x:=by intro _;rfl):QS X (.For tg iter body [] pos) (OO wi g tb):=⟨by
 have hi:=hi.h;have hg:=hg.h;have a:=a.h;intro Zq s Z H D I h;refine wpAny_For (Ao (hi Zq s Z H _ I h) λv s1 h1=>Ao h1 λQH s2 h2=>?_) hs;obtain⟨it,fp,tn,J,H2,e,I2,T,JN,C,W,⟨Y,O⟩,j⟩:=h2;subst e
 -- yQ stays true of Iz ZBS objects through Iz loop
 have t:∀{H':Hp},(∀b∈fp,H' b=none)->∀b∈fp,EI X Zq H' b:=λhn b a=>⟨hn b a,(C b a).2⟩;refine codeAny_forLoop_any (λn s'=>∃i σ' H',Inv X Zq σ' H' s'/\tn i s'.heap/\(∀b∈fp,H' b=none)/\W i n σ' H') ?_ Y ⟨0,Z,H2,I2,JN,λb a=>(C b a).1,O⟩;rintro n z⟨i,σ3,H3,I3,Z7,E,M⟩;rcases j i n σ3 H3 M with⟨stop,qn⟩|⟨go,N,hN,step⟩
 .refine vN l (Ao (T.done X rfl rfl rfl B i Zq z σ3 H3 X.xe I3 (t E) Z7 stop) λr s4 P=>?_);obtain⟨q,I4⟩:=P;subst q;exact zj ⟨σ3,H3,I4,qn⟩
 .refine vN l (Ao (T.item X rfl rfl rfl B i Zq z σ3 H3 X.xe I3 (t E) Z7 go) λr s4 F=>?_);obtain⟨u,q,h4⟩:=F;subst q;refine vN l (Ao h4 λ_ y jX=>?_);obtain⟨x,H5,I5,S,G,Ln,Qv⟩:=jX;have U:=I5.pinned (t Qv) (T.obj _ _ Ln);refine vN l (Ao (hg _ y σ3 H5 x u _ U S (step x H5 G)) λ_ Q jR=>?_);obtain⟨σ6,H6,I6,V⟩:=jR;refine vN l (Ao (a _ Q σ6 H6 _ I6 V) λf p c=>?_);have again:∀{σ7:St}{H7:Hp},Inv X (Zq++O0 fp y.heap) σ7 H7 p->N σ7 H7->∃m,m<n/\∃i σ' H',Inv X Zq σ' H' p/\tn i p.heap/\(∀b∈fp,H' b=none)/\W i m σ' H':=λ{σ7 H7}I7 k=>by
   obtain⟨σ,hm,L⟩:=hN σ7 H7 k;refine⟨σ,hm,i+1,σ7,H7,I7.N0,T.keep _ _ _ Ln λb a o e=>(I7.pin (b,o) (Bk _ (Bk _ (ON a e)))).1,λb a=>?_,L⟩;obtain⟨o,e,d⟩:=T.obj _ _ Ln b a;exact(I7.pin (b,o) (Bk _ (Bk _ (ON a e)))).2.1
  cases f with
  |next=>obtain⟨σ7,H7,I7,k⟩:=c;exact again I7 k
  |cont=>obtain⟨σ7,H7,I7,k⟩:=c;exact again I7 k
  |brk=>obtain⟨σ7,H7,I7,c⟩:=c;exact⟨σ7,H7,I7.N0,c⟩
  |ret v=>obtain⟨K,σ7,H7,I7,R,c⟩:=c;exact⟨K,σ7,H7,I7.N0,R,c⟩⟩
theorem Ca(h:QS X st t):QS X st (Tz t):=⟨by
 have h:=h.h;intro Zq s Z H D I hw;obtain⟨J,h1,h2⟩:=hw;refine Ao (h Zq s Z H _ I h1) λf s' q=>?_;cases f with
 |next=>obtain⟨σ',H',I',q⟩:=q;exact⟨σ',H',I',h2 σ' H' q⟩
 |ret v=>exact q
 |brk=>exact q
 |cont=>exact q⟩
end
theorem AR.ER{P:Program}{K:ZBx}{mg:ZBz}{ZB:Heap}{qual:Str}{st:Stmt}{fd:FuncData}{N:List Str}{k:Nat}(F:AR K x qual st f fd)(S:BG N ps (AQ st))(len:∀vs H Q E,sp vs H Q E->vs.length=ps.length)
  (IE:∀(Ad:Value)(A:Around)(outer:List Env)(s:Shared)(H:Hp)(vs:List V)(Q:VK)(E:XK),BY k (A.deeper (envOfC qual (AQ st) s.heap.objs.size f Ad))->sp vs H Q E->
   ∃t,Eo (G6 De P w K mg ZB N qual (AQ st) f Ad A outer s H E).GX (Dy st) t/\t { nx:=λ_ H'=>Q .A6 H',rt:=Q } (start N vs) H):E5 P w K mg ZB De (k+1) f fd ps sp:=
 F.ok S len λAd A outer s H vs Q E a h=>let ⟨t,q,r⟩:=IE Ad A outer s H vs Q E a h;⟨t,q.h,r⟩
end L2
namespace L2
variable{X:Cx}{Zq:ZBy}{Z:St}{H:Hp}{s s1:Shared}{h':Heap}{ep i k1 n nT nl pl sl t':Nat}{fp:List Addr}{I S a it:Addr}{o oT:Obj}{w:World}{es:Array (Int×Value)}{prog:Program}{A:Around}{E Q Q₁:Value->Shared->Prop}{t:SetTable}{α:Type}{e:Int×Value}{f v x:Value}{items ps:Array Value}{vs:List Value}{A5 ss:List Str}{Pc:List Value->Shared->Prop}
theorem Inv.Wr(I:Inv X Zq Z H s)(d:∀b∈fp,EI X Zq H b)(k:∀b o,b∉fp->s.heap.get? b=some o->h'.get? b=some o):
  Inv X Zq Z H { s with heap:=h',toks:=t' }:=by
 have f:∀b u,H b=some u->b∉fp:=λb u e z=>by rw[(d b z).1]at e;cases e
 refine I.step (g':=s.gens) (d':=s.drawn) (ch:=fp) (λb h=>?_) (λb o _ _ a e _=>k b o a e) (λb o _ _ a e _=>⟨o.slots,k b o a e⟩) (λ_ _ _ _ n=>n)
  (λb o a e=>⟨o,k b o a e⟩) (λ_ _ e=>e) (λ_ _ _ e=>e) (λm g=>?_) (λb u e=>?_) I.bare
 .obtain⟨_,h1,_,l,j,i⟩:=d b h;exact⟨l,h1,j,i⟩
 .obtain⟨o,es,ep,ho,r⟩:=g;exact⟨o,es,ep,k _ o (λz=>(d _ z).2.1 rfl) ho,r⟩
 .refine(I.AE b u e).Fo (λc v a q=>k c v ?_ q) (λ_ q=>q) λ_ _ q=>q;rcases a with z|z
  .rw[z];exact f b u e
  .exact f c _ z
theorem Inv.W4{o:HO}(I:Inv X Zq Z H s)(h:∀b∈fp,EI X Zq H b)(k:∀b o,b∉fp->s.heap.get? b=some o->h'.get? b=some o)
  (i:s.heap.objs.size<=a) (new:Bl X.prog X.w (upd H a o) h' a o):Inv X Zq Z (upd H a o) { s with heap:=h',toks:=t' }:=by
 have l:H a=none:=I.AE.fresh i;have j:∀b u,H b=some u->b∉fp:=λb u e z=>by rw[(h b z).1]at e;cases e
 have ne:∀b u,H b=some u->b≠a:=λb u e=>DV e l;have g:∀b u,s.heap.get? b=some u->b≠a:=λb u e=>Az (CG (AY e) i);refine I.step (g':=s.gens) (d':=s.drawn) (ch:=fp) (λb f=>?_) (λb o _ _ d e _=>k b o d e) (λb o _ _ d e _=>⟨o.slots,k b o d e⟩) (λb o _ e n=>by rw[AS (g b o e)];exact n)
  (λb o d e=>⟨o,k b o d e⟩) (λb _ e=>by rw[AS (ne b _ e)];exact e) (λb _ _ e=>by rw[AS (ne b _ e)];exact e) (λm p=>?_) (λb u e=>?_) I.bare
 .obtain⟨_,h1,_,y,x,t⟩:=h b f;exact⟨y,h1,x,t⟩
 .obtain⟨o,es,ep,ho,r⟩:=p;exact⟨o,es,ep,k _ o (λz=>(h _ z).2.1 rfl) ho,r⟩
 .by_cases f:b=a
  .subst f;rw[AX]at e;cases e;exact new
  .rw[AS f]at e;refine(I.AE b u e).Fo (λc v d q=>k c v ?_ q) (λc q=>by rw[AS (ne c _ q)];exact q) λc _ q=>by rw[AS (ne c _ q)];exact q
   rcases d with z|z
   .rw[z];exact j b u e
   .exact j c _ z
noncomputable def vP(K:ZBx)(a:Addr)(xs:List V):It:=
 ⟨λi H=>AG K H a xs/\i<xs.length,λi H x H'=>∃p y,xs[i]?=some y/\x=.ref p/\H p=none/\H'=upd H p (.tup [.int i,y]),λi H=>AG K H a xs/\xs.length<=i⟩
theorem oJ{P:Program}{K:ZBx}{es:List Expr}{p1:Pos}(a e it:Addr)(xs:List V)(LQ:e≠it):
  Turn P w K (.Tuple es k1 p1) (vP K a xs) [e,it] e (λi h=>(∃old,IsEnum h e it i old)/\h.IsListIter it a i) where
 mem:=by simp
 obj:=λi h st b f=>by
  obtain⟨⟨old,h1⟩,o,h2,_,d⟩:=st;rcases List.mem_cons.mp f with z|z
  .subst z;exact⟨_,h1,λv z=>by cases z⟩
  .have:b=it:=by simpa using z
   subst this;exact⟨o,h2,λv z=>by rw[d]at z;cases z⟩
 keep:=λi h h' st k=>⟨let ⟨old,h1⟩:=st.1;⟨old,k e (by simp) _ h1⟩,st.2.at λo q=>k it (by simp) o q⟩
 item:=by
  intro X n hw r y i Zq s Z H E I j st hg;subst n hw r;obtain⟨m,hi⟩:=hg;obtain⟨⟨old,g⟩,c⟩:=st;obtain⟨A0,l,p,hz⟩:=I.list m;obtain⟨u,D,C⟩:=l.get (AK hi);refine wpAny_pyNext_enum_item g c p.isList (x:=u) (by simpa using D) LQ λh1 HA M0 MI VS Uj=>⟨_,rfl,?_⟩
  refine ZA7 HA λh2 Sh DY=>?_;have B:e<s.heap.objs.size:=AY g;have A:h2.get? s.heap.objs.size=some { cls:=.type "tuple", data:=.seq #[.int i s.toks,u] }:=(DY.2 _ (EA B)).trans MI;have kp:∀b o,b∉[e,it]->s.heap.get? b=some o->h2.get? b=some o:=λb o f q=>by
   have t:b≠e/\b≠it:=by simpa using f
   exact(DY.2 b t.1).trans (Uj b o t.1 t.2 q)
  refine⟨.ref s.heap.objs.size,_,I.W4 (t':=s.toks+1) (a:=s.heap.objs.size) (o:=.tup [.int i,xs[i]]) j kp (Aa _) ?_,rfl,⟨_,_,AK hi,rfl,I.AE.fresh (Aa _),rfl⟩,⟨⟨_,Sh⟩,M0.at λo q=>(DY.2 it (BM LQ)).trans q⟩,λb f=>?_⟩
  .exact⟨(by show 2<=sizeLine;decide),[.int i s.toks,u],.cons ⟨_,rfl⟩ (.cons C .nil),⟨_,A,rfl,_,rfl⟩,λJ q=>by rw[A]at q;cases q;rfl⟩
  .have G:b<s.heap.objs.size:=by
    rcases List.mem_cons.mp f with z|z
    .rw[z];exact B
    .have:b=it:=by simpa using z
     obtain⟨o,q,_⟩:=c;rw[this];exact AY q
   rw[AS (Az G)];exact(j b f).1
 done:=by
  intro X n hw r y i Zq s Z H E I j st hg;subst n hw r;obtain⟨m,hx⟩:=hg;obtain⟨⟨old,g⟩,c⟩:=st;obtain⟨A0,l,p,hz⟩:=I.list m;have L:=l.length;exact wpAny_pyNext_enum_end (I.ok.hd y) g c p.isList (by simp;omega) λh' F=>⟨rfl,I.Wr (t':=s.toks) j λb o f q=>F b o (λz=>f (by simp[z])) q⟩
 self:=λ_ _ _ _ _ st h=>let ⟨⟨_,g⟩,_⟩:=st;yK g h
theorem kY(t:SetTable)(n:Nat):(t.orStandIn n).led=t.led:=by unfold SetTable.orStandIn;split <;> rfl
theorem vS(t:SetTable)(es:Array (Int×Value))(h:Int)(x:Value):(layNew t es h x).2.1.led=t.led:=by
 unfold layNew;split
 .show(SetTable.orStandIn (t.put _).1 _).led=t.led;rw[kY];rfl
 .rfl
theorem zV{mask b c:Nat}{d a:Bool}{e:Array Int}{p:SetTable×Array Nat}(h:SetTable.laid mask b c d a e=some p):p.1.led=d/\p.1.plain=a:=by
 unfold SetTable.laid at h;cases f:SetTable.layClean mask e with
 |none=>rw[f]at h;cases h
 |some ow=>rw[f]at h;cases h;exact⟨rfl,rfl⟩
theorem lQ(t:SetTable)(es:Array (Int×Value))(n:Nat)(a:t.plain=false):(relayAll t es n).2.1.led=t.led/\(relayAll t es n).2.1.plain=false:=by
 unfold relayAll;split
 .next t' order hr=>
  have q:=zV (p:=(t',order)) hr;dsimp only at q ⊢;split
  .exact⟨q.1,q.2.trans a⟩
  .exact⟨rfl,rfl⟩
 .exact⟨rfl,rfl⟩
noncomputable def Bb(w:World):Bool:=w.params.followText "set-order"
def AW(prog:Program)(w:World)(h:Heap)(a:Addr)(S:Str->Bool)(n:Nat):Prop:=
 ∃o es ep t,h.get? a=some o/\o.ExactSet/\o.data=.set es ep t/\ElemsOf (PySem.strKind prog w) es.toList/\(∀k,S k=true↔∃e∈es.toList,(PySem.strKind prog w).is k e.2=true)/\
  es.size<scanBound/\t.fits es.size=true/\es.size=n/\(t.led=!Bb w)/\(0<es.size->t.plain=false)
theorem AW.keep{h:Heap}{S:Str->Bool}(x:AW prog w h a S n)(k:∀o,h.get? a=some o->h'.get? a=some o):AW prog w h' a S n:=by
 obtain⟨o,es,ep,t,ho,r⟩:=x;exact⟨o,es,ep,t,k o ho,r⟩
theorem AW.congr{h:Heap}{S S':Str->Bool}{b:Nat}(x:AW prog w h a S n)(e:∀k,S k=S' k)(m:n=b):AW prog w h a S' b:=by
 obtain⟨o,es,ep,t,h1,h2,l,j,i,g,f,d,c⟩:=x;exact⟨o,es,ep,t,h1,h2,l,j,λk=>by rw[<- e k];exact i k,g,f,d.trans m,c⟩
theorem JM{h:Heap}(ho:h.get? a=some o)(hd:o.data=.set es ep t)(BJ:Array (Int×Value))(t':SetTable):
  (h.update a (Obj.putSet BJ t')).get? a=some { o with data:=.set BJ (ep+1) t' }:=by
 have q:=IU (Obj.putSet BJ t') ho (by rw[putSet_of BJ t' hd];rfl);rw[q,putSet_of BJ t' hd]
theorem AW.put{S:Str->Bool}{k:Str}{tk:Tok}{Q:Bool->Shared->Prop}(Y:AW prog w s.heap a S n)(N8:n+1<scanBound)
  (h:∀h',Heap.SameBut a s.heap h'->AW prog w h' a (λk'=>S k' || decide (k'=k)) (if S k then n else n+1)->Q (!S k) { s with heap:=h' }) :
  wpAny (model prog w) A (setAddHashed a (.str k tk) ((PySem.strKind prog w).hash k)) Q E s:=by
 obtain⟨o,es,ep,t,ho,d,hd,BS,BH,H,u,p,CB,BI⟩:=Y;have B:(PySem.strKind prog w).is k (.str k tk)=true:=XX prog w k tk;have C:(Value.str k tk).scannable=true:=rfl;have rm:es.size+1<scanBound:=by rw[p];exact N8
 have I:∀(b:Bool)(s1:Shared)(Q1:Unit->Shared->Prop),Q1 () s1->wpAny (model prog w) A (match b with|true=>rule "set.scan.the-table-gave-way" |false=>pure ()) Q1 E s1:=by
  intro b s1 Q1 q;cases b
  .exact hJ q
  .exact vb q
 unfold setAddHashed setAddHashedIn;refine mB ?_;refine dP (kC ho hd u ?_);dsimp only;rw[byScan_of C H BS];simp only[↓reduceIte];unfold setAddByScan;refine dP ?_;refine dP (vb ?_);refine dP (wpAny_setScan_of B ho hd u BS ?_);cases G:List.findIdx? (λe=>(PySem.strKind prog w).is k e.2) es.toList with
 |some j=>
  dsimp only;obtain⟨X,PK,_⟩:=List.findIdx?_eq_some_iff_getElem.mp G;have hk:S k=true:=(BH k).mpr ⟨es.toList[j],Fi X,PK⟩;refine hJ ?_;refine hJ ?_;have q:=h s.heap (ML a s.heap) ⟨o,es,ep,t,ho,d,hd,BS,λk'=>by
   rw[<- BH k',Bool.or_eq_true,iP];exact⟨λz=>z.elim id λe=>e▸hk,Or.inl⟩,H,u,by rw[i5 hk];exact p,CB,BI⟩
  rw[hk]at q;exact q
 |none=>
  dsimp only;have hk:S k=false:=by
   cases e:S k with
   |false=>rfl
   |true=>
    obtain⟨x,hx,W⟩:=(BH k).mp e;have q:=List.findIdx?_eq_none_iff.mp G x hx;rw[W]at q;exact Bool.noConfusion q
  have p1:=layNew_perm t es ((PySem.strKind prog w).hash k) (.str k tk);have l:=layNew_fits t es ((PySem.strKind prog w).hash k) (.str k tk);have l1:=vS t es ((PySem.strKind prog w).hash k) (.str k tk);generalize layNew t es ((PySem.strKind prog w).hash k) (.str k tk)=L at p1 l l1 ⊢;obtain⟨CN,t1,O,gv⟩:=L;dsimp only at p1 l l1 ⊢;rw[ZAN]at p1;have R:ElemsOf (PySem.strKind prog w) CN.toList:=(BS.push B C).perm p1;have U:∀k',(S k' || decide (k'=k))=true↔∃e∈CN.toList,(PySem.strKind prog w).is k' e.2=true:=mem_push_iff B BH p1;have D:CN.size=n+1:=by rw[<- Df,p1.length_eq,BX,Df,p];rfl
  have J:CN.size<scanBound:=by rw[D];exact N8
  have fin:∀(h':Heap)(o':Obj)(BJ:Array (Int×Value))(Gj:Nat)(t':SetTable),Heap.SameBut a s.heap h'->h'.get? a=some o'->o'.ExactSet->o'.data=.set BJ Gj t'->BJ.toList.Perm CN.toList->t'.fits BJ.size=true->t'.led=t.led->t'.plain=false->
    Q true { s with heap:=h' }:=by
   intro h' o' BJ Gj t' P go N d' f ff V T;have zz:BJ.size=n+1:=by rw[<- D,<- Df,f.length_eq,Df]
   have q:=h h' P ⟨o',BJ,Gj,t',go,N,d',R.perm f,λk'=>(U k').trans ⟨λ⟨e,v,q⟩=>⟨e,f.mem_iff.mpr v,q⟩,λ⟨e,v,q⟩=>⟨e,f.mem_iff.mp v,q⟩⟩,by rw[zz];exact N8,ff,by rw[hk];exact zz,V.trans CB,λ_=>T⟩;rw[hk]at q;exact q
  have c:∀(t2:SetTable),t2.fits CN.size=true->t2.led=t.led->t2.plain=false->wpAny (model prog w) A (do
    storeSet a CN t2
    if(
      !O && t2.tooFull)=true then do
      (match(relayAll t2 CN (SetTable.grown CN.size)).2.2 with|true=>rule "set.scan.the-table-gave-way" |false=>pure ())
      storeSet a (relayAll t2 CN (SetTable.grown CN.size)).1 (relayAll t2 CN (SetTable.grown CN.size)).2.1
      pure (some true)
     else pure (some true)) (λr s'=>match r with|some b=>Q b s'|none=>False) E s:=by
   intro t2 σ l2 IM;refine dP (qI ho hd ?_ (si J));have m:=JM ho hd CN t2;have K:=Fh s.heap a (Obj.putSet CN t2);split
   .have g:=relayAll_perm t2 CN (SetTable.grown CN.size);have y:=relayAll_fits t2 CN (SetTable.grown CN.size);have i:=lQ t2 CN (SetTable.grown CN.size) IM;generalize relayAll t2 CN (SetTable.grown CN.size)=Rl at g y i ⊢;obtain⟨J0,F,g3⟩:=Rl;dsimp only at g y i ⊢;have M:J0.size=CN.size:=by rw[<- Df,g.length_eq,Df]
    refine dP (I _ _ _ ?_);refine dP (qI m rfl ?_ (si (by rw[M];exact J)));refine hJ ?_;exact fin _ _ J0 _ F (K.trans (Fh _ a _)) (JM m rfl J0 F) d rfl g y (i.1.trans l2) i.2
   .exact hJ (fin _ _ CN _ t2 K m d rfl (HS _) σ l2 IM)
  refine dP (I _ _ _ ?_);split
  .next ZE=>
   refine dP ?_;rw[hashByValue_scannable 8 C];refine hJ ?_;refine ki (c { t1 with plain:=false } (SetTable.fits_plain_off l) l1 rfl) (λr s' q=>?_) λ_ _ e=>e
   cases r with
   |none=>exact q.elim
   |some b=>exact hJ q
  .next ZE=>
   refine dP (hJ ?_);simp only[↓reduceIte];refine ki (c t1 l l1 (by simpa using ZE)) (λr s' q=>?_) λ_ _ e=>e
   cases r with
   |none=>exact q.elim
   |some b=>exact hJ q
theorem TC{α:Type}:∀(l:List α)(i:Nat)(h:i<l.length),(l[i]::l.eraseIdx i).Perm l
 |_::_,0,_=>HS _
 |x::r,i+1,h=>(List.Perm.swap x (r[i]'(by simpa using h)) (r.eraseIdx i)).trans ((TC r i (by simpa using h)).cons x)
theorem jJ(nx:Nat->Nat):∀(n k:Nat)(l:List α)(out:Array α),l.length=n->(pickOrder.go nx n k l out).toList.Perm (out.toList++l):=by
 intro n
 induction n with
 |zero=>
  intro k l out b;rw[List.length_eq_zero_iff.mp b];unfold pickOrder.go;simp
 |succ n c=>
  intro k l out b;have a:nx k % l.length<l.length:=XT _ (by omega);unfold pickOrder.go;rw[AK a];dsimp only;refine(c _ _ _ (by rw[ZAg a];omega)).trans ?_;rw[ZAN,Bh];exact List.Perm.append_left _ (TC l _ a)
theorem QU(nx:Nat->Nat)(xs:Array α):(pickOrder nx xs).toList.Perm xs.toList:=by
 have q:=jJ nx xs.size 0 xs.toList #[] (by simp)
 simpa[pickOrder]using q
theorem kE{a:Source}{Q:Nat->Shared->Prop}(b:n≠0)(h:∀k d,k<n->Q k { s with drawn:=d }):wpAny (model prog w) A (choose a n) Q E s:=by
 intro Γ p hΓ;show Sem.wp _ _ (.choose a n .pure) _ _ _ _;rw[Sem.wp_choose];refine⟨b,?_⟩;rw[Sem.wp_pure];exact h _ _ (XT _ (Nat.pos_of_ne_zero b))
theorem tK:∀(n:Nat)(xs:List α)(s:Shared)(Q:List α->Shared->Prop),xs.length<=n->(∀ys d,ys.Perm xs->Q ys { s with drawn:=d })->wpAny (model prog w) A (drawOrder n xs) Q E s:=by
 intro n
 induction n with
 |zero=>
  intro xs s Q a h;rw[List.length_eq_zero_iff.mp (Nat.le_zero.mp a)]at h ⊢;exact hJ (h [] s.drawn (HS _))
 |succ n b=>
  intro xs s Q a h;cases xs with
  |nil=>exact hJ (h [] s.drawn (HS _))
  |cons x r=>
   unfold drawOrder;refine dP (kE (by simp) λk d hk=>?_);rw[AK hk];dsimp only;refine dP (b _ _ _ (by rw[ZAg hk];simp only[BA]at a ⊢;omega) λys d' c=>?_);exact hJ (h _ d' ((c.cons _).trans (TC (x::r) _ hk)))
theorem x6{Q:Bool->Shared->Prop}(ho:s.heap.get? a=some o)(hd:o.data=.set es ep t)(b:t.fits es.size=true)
  (h:Q (!Bb w && (!t.plain && decide (es.size > 1))) s):wpAny (model prog w) A (setDrawn a) Q E s:=by
 unfold setDrawn;refine dP (kC ho hd b ?_);dsimp only;unfold setsByText;refine dP (dP (oP (hJ ?_)));exact hJ h
theorem du{Q:Option (Value×Nat)->Shared->Prop}(d:Bb w=true)(ho:s.heap.get? a=some o)(hd:o.data=.set es ep t)(b:t.fits es.size=true)
  (h:Q (((pickOrder (w.params.setOrder a ep) es)[i]?).map λe=>(e.2,sl)) s):wpAny (model prog w) A (setNext a sl i ep) Q E s:=by
 have c:w.params.followText "set-order"=true:=d;unfold setNext;refine dP (kC ho hd b ?_);dsimp only;unfold setsByText;refine dP (dP (oP (hJ ?_)));show wpAny _ _ (if w.params.followText "set-order"=true then _ else _) _ _ _
 rw[i5 c,i3 (by simp)];refine dP ?_;unfold setWalk setsByText;refine dP (kC ho hd b ?_);dsimp only;refine dP (dP (oP (hJ ?_)));show wpAny _ _ (if w.params.followText "set-order"=true then _ else _) _ _ _
 rw[i5 c];exact dP (oP (hJ (hJ h)))
theorem Yy{Q:Option (Value×Nat)->Shared->Prop}(d:Bb w=false)(ho:s.heap.get? a=some o)(hd:o.data=.set es ep t)(c:t.fits es.size=true)
  (h1:es.size<=1) (b:t.led=true)
  (h:Q (match es[SetTable.below t.place sl]?,t.place[SetTable.below t.place sl]? with|some (_,x),some j=>some (x,j+1)|_,_=>none) s):wpAny (model prog w) A (setNext a sl i ep) Q E s:=by
 have e:w.params.followText "set-order"=false:=d;unfold setNext;refine dP (kC ho hd c ?_);dsimp only;unfold setsByText;refine dP (dP (oP (hJ ?_)));show wpAny _ _ (if w.params.followText "set-order"=true then _ else _) _ _ _
 rw[i3 (by rw[e];decide)];show wpAny _ _ (if(!t.plain && decide (es.size > 1))=true then _ else _) _ _ _
 rw[i3 (by rw[iF (by omega)];simp)];refine dP (m:=_) ?_
 wp_delta
 rw[b];exact hJ (hJ h)
theorem rh(ho:s.heap.get? a=some o)(hd:o.data=.set es ep t)(b:t.fits es.size=true)(c:es[pl]?=some e)
  (h:Q e.2 s):wpAny (model prog w) A (setNextDrawn a pl ep) Q E s:=by
 unfold setNextDrawn;refine dP (kC ho hd b ?_);dsimp only;rw[i3 (by simp),c];exact hJ h
theorem YT:Manifest.owners.lookup (String.ofList ['r','o','t','a','r','e','t','i','_','t','e','s'].reverse)=some Manifest.sig_set_iterator:=by kernel_rfl
theorem Gg:Slot "set_iterator" "__next__" "set_iterator.__next__" :=
 .of (owner:="set_iterator") (n:="__next__") (by rw[ZB8,ya];kernel_rfl) (by decide +kernel) (by decide +kernel) (by decide +kernel)
  (by first|exact .inl (by decide +kernel)|exact .inr (by decide +kernel)) (by rw[pe];kernel_rfl)
theorem RE:entryFor table "set_iterator.__next__"=some Builtin.«set_iterator.__next__»:=entryFor_of_tree (by kernel_rfl)
theorem Qe(a:Value):argsOk "set_iterator.__next__" ⟨[a],[]⟩:=by
 unfold argsOk;rw[signature?_of (id:="set_iterator.__next__") (n:=['_','_','t','x','e','n','_','_']) (o:=['r','o','t','a','r','e','t','i','_','t','e','s']) (by kernel_rfl) YT];kernel_rfl
theorem Yv:Slot "set_iterator" "__iter__" "set_iterator.__iter__" :=
 .of (owner:="set_iterator") (n:="__iter__") (by rw[ZB8,ya];kernel_rfl) (by decide +kernel) (by decide +kernel) (by decide +kernel)
  (by first|exact .inl (by decide +kernel)|exact .inr (by decide +kernel)) (by rw[pe];kernel_rfl)
theorem oA(a:Value):argsOk "set_iterator.__iter__" ⟨[a],[]⟩:=by
 unfold argsOk;rw[signature?_of (id:="set_iterator.__iter__") (n:=['_','_','r','e','t','i','_','_']) (o:=['r','o','t','a','r','e','t','i','_','t','e','s']) (by kernel_rfl) YT];kernel_rfl
theorem rb:entryFor table "set_iterator.__iter__"=some Builtin.«dict_keyiterator.__iter__»:=
 ZA5 (id' := "dict_keyiterator.__iter__") (by kernel_rfl) (by first|rfl|decide +kernel|(unfold String.splitOn;simp +decide [String.splitOnAux])) (by decide +kernel) (by kernel_rfl)
theorem pI:entryFor table "set.__iter__"=some Builtin.«frozenset.__iter__»:=
 ZA5 (id' := "frozenset.__iter__") (by kernel_rfl) (by first|rfl|decide +kernel|(unfold String.splitOn;simp +decide [String.splitOnAux])) (by decide +kernel) (by kernel_rfl)
noncomputable def IH(f:Value)(i:Nat)(S:Addr)(n ep:Nat):Array Value:=#[f,rawInt (i:Int),.ref S,rawInt (n:Int),rawInt (ep:Int)]
def EZ(h:Heap)(I:Addr)(f:Value)(i:Nat)(S:Addr)(n ep:Nat):Prop:=∃o,h.get? I=some o/\o.cls=.type "set_iterator" /\ o.data=.fields (IH f i S n ep)
theorem EZ.typeIs(x:EZ s.heap I f i S n ep):s.TypeIs (.ref I) "set_iterator" := let ⟨o,ho,hc,_⟩:=x;⟨o,ho,hc⟩
theorem EZ.at{h:Heap}(x:EZ h I f i S n ep)(e:∀o,h.get? I=some o->h'.get? I=some o):EZ h' I f i S n ep:=let ⟨o,ho,r⟩:=x;⟨o,e _ ho,r⟩
theorem ax{Q:α->Shared->Prop}{F:Value->Shared->Prop}(hh:A.handled=none)
  (hF:∀e h',(∀b o,s.heap.get? b=some o->h'.get? b=some o)->(Shared.TypeIs { s with heap:=h' } e "StopIteration")->F e { s with heap:=h' }) :
  wpAny (model prog w) A (newExc (.type "StopIteration") [] >>= λe=>raiseNew e) Q F s:=by
 refine dP ?_;simp only[newExc,newTuple];refine dP (pP ?_ (by size_fits));refine dP (m:=firstArgMember _ _) (nD (a:=Value.none) (by first|rfl|(simp only[firstArgMember];rfl)) ?_)
 refine pP ?_ (by size_fits);simp only[raiseNew];refine dP (wpAny_handled ?_);rw[hh];refine dP (hJ (wpAny_throw ?_));exact hF _ _ (λb o e=>Ay _ (Ay _ e)) ⟨_,BP _ rfl,rfl⟩
theorem fb{nx:Nat}{Q:Option Value->Shared->Prop}(b:EZ s.heap it (rawInt (sl:Int)) i S n ep)
  (ho:s.heap.get? S=some o) (hd:o.data=.set es ep t) (g:t.fits es.size=true) (f:es.size=n)
  (VE:∀(A1:Around)(E1:Value->Shared->Prop)(Q1:Option (Value×Nat)->Shared->Prop),Q1 (some (x,nx)) s->wpAny (model prog w) A1 (setNext S sl i ep) Q1 E1 s)
  (j:∀h',EZ h' it (rawInt (nx:Int)) (i+1) S n ep->Heap.SameBut it s.heap h'->Q (some x) { s with heap:=h' }):wpAny (model prog w) A (pyNext (.ref it)) Q E s:=by
 obtain⟨k,Eu,h,Ds⟩:=id b;subst f;unfold pyNext;refine dP (xj (pQ (name:=Str.ofString "__next__") b.typeIs Gg
  (mK Gg b.typeIs RE ?_ (Qe _))))
 unfold Builtin.«set_iterator.__next__»;refine dP (nD (a:=(Value.ref it,[])) rfl ?_)
 try dsimp only
 refine dP (ZA4 Eu Ds ?_);show wpAny _ _ (setEntries S >>= _) _ _ s;refine dP (p5 ho hd g ?_);rw[i3 (by simp)];show wpAny _ _ (setNext S sl i ep >>= _) _ _ s;refine dP (VE _ _ _ ?_);dsimp only;refine dP (uu Eu Ds (by simp[IH]) ?_);have d:=IU (λe=>Obj.mapFields (·.setIfInBounds 0 (rawInt (nx:Int))) e) Eu (Rn (IY Ds _))
 have c:=IY Ds (·.setIfInBounds 0 (rawInt (nx:Int)))
 refine dP (uu (s:={ s with heap:=_ }) d c (by simp[IH]) ?_)
 refine hJ ⟨x,rfl,hJ (j _ ⟨_,IU _ d (Rn (IY c _)),?_,?_⟩ ((Fh ..).trans (Fh ..)))⟩
 .exact(XU ..).trans ((XU ..).trans h)
 .rw[IY c];simp[IH]
theorem eC{Q:Option Value->Shared->Prop}(hh:A.handled=none)(c:EZ s.heap it (rawInt (sl:Int)) i S n ep)
  (ho:s.heap.get? S=some o) (hd:o.data=.set es ep t) (g:t.fits es.size=true) (f:es.size=n)
  (VE:∀(A1:Around)(E1:Value->Shared->Prop)(Q1:Option (Value×Nat)->Shared->Prop),Q1 none s->wpAny (model prog w) A1 (setNext S sl i ep) Q1 E1 s)
  (l:∀h',Heap.ExtBut it s.heap h'->Q none { s with heap:=h' }):wpAny (model prog w) A (pyNext (.ref it)) Q E s:=by
 obtain⟨m,Eu,p,Ds⟩:=id c;subst f;unfold pyNext;refine dP (xj (pQ (name:=Str.ofString "__next__") c.typeIs Gg
  (mK Gg c.typeIs RE ?_ (Qe _))))
 unfold Builtin.«set_iterator.__next__»;refine dP (nD (a:=(Value.ref it,[])) rfl ?_)
 try dsimp only
 refine dP (ZA4 Eu Ds ?_);show wpAny _ _ (setEntries S >>= _) _ _ s;refine dP (p5 ho hd g ?_);rw[i3 (by simp)];show wpAny _ _ (setNext S sl i ep >>= _) _ _ s;refine dP (VE _ _ _ ?_);dsimp only;refine dP (uu Eu Ds (by simp[IH]) ?_);refine ax (A:=A.in1) hh λe h' k j=>?_;refine dP (tO (T:="StopIteration") (b:=true) j ZBA ?_);refine hJ (l _ (λb d h e=>?_));exact k b d ((Ky _ _ (BM h)).trans e)
theorem p4{T:Addr}{Q:Option Value->Shared->Prop}(b:EZ s.heap it (.ref T) i S n ep)
  (ho:s.heap.get? S=some o) (hd:o.data=.set es ep t) (c:t.fits es.size=true) (f:es.size=n) (j:s.heap.get? T=some oT) (Sr:oT.data=.seq ps nT) (d:ps[i]?=some (rawInt (pl:Int))) (g:es[pl]?=some e)
  (k:∀h',EZ h' it (.ref T) (i+1) S n ep->Heap.SameBut it s.heap h'->Q (some e.2) { s with heap:=h' }):wpAny (model prog w) A (pyNext (.ref it)) Q E s:=by
 obtain⟨l,Eu,h,Ds⟩:=id b;subst f;unfold pyNext;refine dP (xj (pQ (name:=Str.ofString "__next__") b.typeIs Gg
  (mK Gg b.typeIs RE ?_ (Qe _))))
 unfold Builtin.«set_iterator.__next__»;refine dP (nD (a:=(Value.ref it,[])) rfl ?_)
 try dsimp only
 refine dP (ZA4 Eu Ds ?_);show wpAny _ _ (setEntries S >>= _) _ _ s;refine dP (p5 ho hd c ?_);rw[i3 (by simp)];show wpAny _ _ (seqItems? (.ref T) >>= _) _ _ s;refine dP ?_;unfold seqItems?;refine dP (ZA2 j ?_);rw[Sr];refine hJ ?_;show wpAny _ _ (match ps[i]? with|some (.int place _)=>_|some _=>_|none=>_) _ _ s
 rw[d];show wpAny _ _ (setNextDrawn S pl ep >>= _) _ _ s;refine dP (rh ho hd c g ?_);refine dP (uu Eu Ds (by simp[IH]) ?_);refine hJ ⟨e.2,rfl,hJ (k _ ⟨_,IU _ Eu (Rn (IY Ds _)),?_,?_⟩ (Fh ..))⟩
 .exact(XU ..).trans h
 .rw[IY Ds];simp[IH]
theorem pG{T:Addr}{Q:Option Value->Shared->Prop}(hh:A.handled=none)(c:EZ s.heap it (.ref T) i S n ep)
  (ho:s.heap.get? S=some o) (hd:o.data=.set es ep t) (m:t.fits es.size=true) (l:es.size=n) (f:s.heap.get? T=some oT) (Sr:oT.data=.seq ps nT) (j:ps[i]?=none)
  (p:∀h',Heap.ExtBut it s.heap h'->Q none { s with heap:=h' }):wpAny (model prog w) A (pyNext (.ref it)) Q E s:=by
 obtain⟨r,Eu,u,Ds⟩:=id c;subst l;unfold pyNext;refine dP (xj (pQ (name:=Str.ofString "__next__") c.typeIs Gg
  (mK Gg c.typeIs RE ?_ (Qe _))))
 unfold Builtin.«set_iterator.__next__»;refine dP (nD (a:=(Value.ref it,[])) rfl ?_)
 try dsimp only
 refine dP (ZA4 Eu Ds ?_);show wpAny _ _ (setEntries S >>= _) _ _ s;refine dP (p5 ho hd m ?_);rw[i3 (by simp)];show wpAny _ _ (seqItems? (.ref T) >>= _) _ _ s;refine dP ?_;unfold seqItems?;refine dP (ZA2 f ?_);rw[Sr];refine hJ ?_;show wpAny _ _ (match ps[i]? with|some (.int place _)=>_|some _=>_|none=>_) _ _ s
 rw[j];dsimp only;refine dP (uu Eu Ds (by simp[IH]) ?_);have h:=IU (λd=>Obj.mapFields (·.setIfInBounds 0 (rawInt 0)) d) Eu (Rn (IY Ds _))
 have q:=IY Ds (·.setIfInBounds 0 (rawInt 0))
 refine dP (uu (s:={ s with heap:=_ }) h q (by simp[IH]) ?_)
 refine ax (A:=A.in1) hh λe h' k f=>?_;refine dP (tO (T:="StopIteration") (b:=true) f ZBA ?_);refine hJ (p _ (λb d g e=>?_));exact k b d ((Ky _ _ (BM g)).trans ((Ky _ _ (BM g)).trans e))
theorem WW(a:EZ s.heap it f i S n ep)(h:Q (.ref it) s):wpAny (model prog w) A (pyIter (.ref it)) Q E s:=by
 refine wpAny_pyIter_slot a.typeIs Yv (mK Yv a.typeIs rb ?_ (oA _));show wpAny _ _ (ret (.ref it)) _ _ s;exact hJ ⟨_,rfl, "set_iterator", _,a.typeIs,Gg.lookup,h⟩
theorem qH(a:Bb w=true)(hh:A.handled=none)(I S:Addr)(AV:S≠I)(hd:o.data=.set es ep t)(d:t.fits es.size=true):
  Walks prog w A I [I,S] [I] es.size (λi v=>((pickOrder (w.params.setOrder S ep) es).toList.map (·.2))[i]?=some v) (λi h=>EZ h I (rawInt ((0:Nat):Int)) i S es.size ep/\h.get? S=some o) where
 sub:=λb a=>by simp at a;simp[a]
 frame:=λ_ _ _ x hk=>⟨x.1.at λo e=>hk I (by simp) o e,hk S (by simp) _ x.2⟩
 item:=λi s Q E hi x c=>by
  have l:(pickOrder (w.params.setOrder S ep) es).size=es.size:=by
   have q:=(QU (w.params.setOrder S ep) es).length_eq
   simpa using q
  have k:i<(pickOrder (w.params.setOrder S ep) es).size:=by omega
  refine fb (x:=((pickOrder (w.params.setOrder S ep) es)[i]).2) (nx:=0) x.1 x.2 hd d rfl (λA1 E1 Q1 q=>du a x.2 hd d (by rw[Kw k];exact q)) λh' NO j=>?_;exact c _ h' s.toks (by rw[AO,Kx,Kw k];rfl) ⟨NO,j.extBut S o AV x.2⟩ λb f a g=>j.extBut b f (λh=>a (by simp[h])) g
 done:=λs Q E x c=>by
  have l:(pickOrder (w.params.setOrder S ep) es).size=es.size:=by
   have q:=(QU (w.params.setOrder S ep) es).length_eq
   simpa using q
  refine eC hh x.1 x.2 hd d rfl (λA1 E1 Q1 q=>du a x.2 hd d (by rw[Wv (by omega)];exact q)) λh' m=>?_;exact c h' s.toks λb f a g=>m b f (λh=>a (by simp[h])) g
 self:=λ_ _ _ _ x c=>WW x.1 c
theorem WI:∀(a:Array α),a.size=1->∃x,a=#[x]
 | ⟨[x]⟩,_=>⟨x,rfl⟩
 | ⟨[]⟩,h=>by simp at h
 | ⟨_::_::_⟩,h=>by simp at h
theorem iK(p:Nat):SetTable.below #[p] 0=0:=by simp[SetTable.below,SetTable.below.go]
theorem below_1(p:Nat):SetTable.below #[p] (p+1)=1:=by simp[SetTable.below,SetTable.below.go]
theorem Ts(h:t.fits n=true):t.place.size=n:=by
 simp only[SetTable.fits,Cq,ZA3]at h;exact h.1
theorem iq(a:Bb w=false)(hh:A.handled=none)(I S:Addr)(AV:S≠I)(hd:o.data=.set es ep t)(c:t.fits es.size=true)(h1:es.size<=1)(r:t.led=true):
  Walks prog w A I [I,S] [I] es.size (λi v=>(es.toList.map (·.2))[i]?=some v) (λi h=>EZ h I (rawInt (((if i=0 then 0 else t.place.getD 0 0+1:Nat)):Int)) i S es.size ep/\h.get? S=some o) where
 sub:=λb a=>by simp at a;simp[a]
 frame:=λ_ _ _ x hk=>⟨x.1.at λo e=>hk I (by simp) o e,hk S (by simp) _ x.2⟩
 item:=λi s Q E hi x d=>by
  obtain rfl:i=0:=by omega
  have z:es.size=1:=by omega
  have g:t.place.size=1:=(Ts c).trans z;obtain⟨e,rfl⟩:=WI es z;obtain⟨p,f⟩:=WI t.place g;have l:=x.1;refine fb (x:=e.2) (nx:=p+1) l x.2 hd c rfl (λA1 E1 Q1 q=>Yy a x.2 hd c h1 r (by rw[f,i5 rfl,iK];exact q)) λh' NO n=>?_;refine d _ h' s.toks rfl ⟨?_,n.extBut S o AV x.2⟩ λb k a m=>n.extBut b k (λh=>a (by simp[h])) m;rw[i3 (by omega),f];exact NO
 done:=λs Q E x d=>by
  refine eC hh x.1 x.2 hd c rfl (λA1 E1 Q1 q=>Yy a x.2 hd c h1 r ?_) λh' y=>?_
  .by_cases z:es.size=0
   .rw[Wv (by omega)];exact q
   .have u:es.size=1:=by omega
    have g:t.place.size=1:=(Ts c).trans u;obtain⟨p,f⟩:=WI t.place g;rw[i3 z,f];show Q1 (match es[SetTable.below #[p] (p+1)]?,(#[p]:Array Nat)[SetTable.below #[p] (p+1)]? with|some (_,x),some j=>some (x,j+1)|_,_=>none) s
    rw[below_1,Wv (by omega)];exact q
  .exact d h' s.toks λb k a m=>y b k (λh=>a (by simp[h])) m
 self:=λ_ _ _ _ x d=>WW x.1 d
theorem zO(hh:A.handled=none)(I S T:Addr)(AV:S≠I)(u:T≠I)(hd:o.data=.set es ep t)(l:t.fits es.size=true){ps:List Nat}(g:ps.Perm (List.range es.size))(n:oT.data=.seq (ps.map λi:Nat=>rawInt i).toArray nT):
  Walks prog w A I [I,S,T] [I] es.size (λi v=>(ps.map λp=>(es[p]?.map (·.2)).getD .none)[i]?=some v) (λi h=>EZ h I (.ref T) i S es.size ep/\h.get? S=some o/\h.get? T=some oT) where
 sub:=λb a=>by simp at a;simp[a]
 frame:=λ_ _ _ x hk=>⟨x.1.at λo e=>hk I (by simp) o e,hk S (by simp) _ x.2.1,hk T (by simp) _ x.2.2⟩
 item:=λi s Q E hi x c=>by
  have y:ps.length=es.size:=by have q:=g.length_eq;simpa using q
  have k:i<ps.length:=by omega
  have r:ps[i]<es.size:=by
   have q:=g.mem_iff.mp (Fi k)
   simpa using q
  have m:es[ps[i]]?=some es[ps[i]]:=Kw r;refine p4 (pl:=ps[i]) (e:=es[ps[i]]) x.1 x.2.1 hd l rfl x.2.2 n (by rw[ZAc,AO,AK k];rfl) m λh' NO d=>?_;exact c _ h' s.toks (by rw[AO,AK k];simp only[L4,m,ZAt]) ⟨NO,d.extBut S o AV x.2.1,d.extBut T oT u x.2.2⟩ λb f a j=>d.extBut b f (λh=>a (by simp[h])) j
 done:=λs Q E x c=>by
  have y:ps.length=es.size:=by have q:=g.length_eq;simpa using q
  refine pG hh x.1 x.2.1 hd l rfl x.2.2 n (by rw[ZAc,AO,HV (by omega)];rfl) λh' z=>?_;exact c h' s.toks λb f a j=>z b f (λh=>a (by simp[h])) j
 self:=λ_ _ _ _ x c=>WW x.1 c
theorem nW(es:Array (Int×Value)):(List.range es.size).map (λp=>(es[p]?.map (·.2)).getD Value.none)=es.toList.map (·.2):=by
 refine RV (by simp) λi h1 h2=>?_;have hi:i<es.size:=by simpa using h1
 simp[Kw hi]
theorem Sk{l:List (Int×Value)}(h:ElemsOf (PySem.strKind prog w) l):∃ts,StrsAre (l.map (·.2)) ts/\∀k,k∈ts↔∃e∈l,(PySem.strKind prog w).is k e.2=true:=by
 induction l with
 |nil=>exact⟨[],.nil,λk=>by simp⟩
 |cons e r a=>
  obtain⟨ts,h1,h2⟩:=a h.tail;obtain⟨⟨k,hk,_⟩,_⟩:=h.head;obtain⟨tk,b⟩:=Ib hk;refine⟨k::ts,?_,λk'=>?_⟩
  .rw[E9,b];exact .cons k tk h1
  .rw[DP,h2 k'];constructor
   .rintro(rfl|⟨x,hx,q⟩)
    .exact⟨e,Aj,hk⟩
    .exact⟨x,B2 _ hx,q⟩
   .rintro⟨x,hx,q⟩;rcases List.mem_cons.mp hx with rfl|hx
    .exact .inl ((PySem.strKind prog w).inj x.2 k' k q hk)
    .exact .inr ⟨x,hx,q⟩
theorem StrsAre.len:∀{vs:List Value}{ss:List Str},StrsAre vs ss->vs.length=ss.length
 |_,_,.nil=>rfl
 |_,_,.cons _ _ h=>by rw[BA,BA,StrsAre.len h]
theorem StrsAre.perm{C3:List Value}(h:StrsAre vs ss)(p:C3.Perm vs):∃A5,StrsAre C3 A5/\A5.Perm ss:=by
 refine⟨C3.map strOf,strsAre_map C3 λv a=>h.all v (p.mem_iff.mp a),?_⟩;rw[<- h.strs];exact p.map strOf
section
theorem yP{f:Str->Bool}(K:AW prog w s.heap S f n)
  (h:∀(I:Addr)(h1:Heap)(d:_)(fp:List Addr)(vs:List Value)(ts:List Str)(St:Nat->Heap->Prop),(∀A2:Around,A2.handled=none->Walks prog w A2 I fp [I] n (λi v=>vs[i]?=some v) St)->St 0 h1->(∀b∈fp,b=S∨s.heap.objs.size<=b/\b<h1.objs.size)->s.heap.objs.size<=I->s.heap.objs.size<=h1.objs.size->
   (∀b o,s.heap.get? b=some o->h1.get? b=some o)->StrsAre vs ts->ts.length=n->(∀k,f k=true↔k∈ts)->Q (.ref I) { s with heap:=h1,drawn:=d }):wpAny (model prog w) A (pyIter (.ref S)) Q E s:=by
 obtain⟨o,es,ep,t,ho,u,hd,BS,BH,J,j,H,CB,BI⟩:=K;subst H;have B:s.TypeIs (.ref S) "set" := ⟨o,ho,u.1⟩;have x:S<s.heap.objs.size:=AY ho;obtain⟨D,t1,t2⟩:=Sk BS;have fin:∀(I:Addr)(h1:Heap)(d:_)(fp:List Addr)(vs:List Value)(St:Nat->Heap->Prop),(∀A2:Around,A2.handled=none->Walks prog w A2 I fp [I] es.size (λi v=>vs[i]?=some v) St)->St 0 h1->(∀b∈fp,b=S∨s.heap.objs.size<=b/\b<h1.objs.size)->s.heap.objs.size<=I->s.heap.objs.size<=h1.objs.size->
   (∀b o,s.heap.get? b=some o->h1.get? b=some o)->vs.Perm (es.toList.map (·.2))->Q (.ref I) { s with heap:=h1,drawn:=d }:=by
  intro I h1 d fp vs St a1 a2 P O N M L;obtain⟨ts,G,y⟩:=StrsAre.perm t1 L;refine h I h1 d fp vs ts St a1 a2 P O N M G ?_ λk=>?_
  .rw[y.length_eq,<- StrsAre.len t1];simp
  .rw[BH k,<- t2 k];exact y.mem_iff.symm
 refine wpAny_pyIter_slot B F.slot_set_iter (mK F.slot_set_iter B pI ?_ (F.args_set_iter_1 _));unfold Builtin.«frozenset.__iter__»;refine dP (nD (a:=S) rfl ?_);refine dP ?_;unfold Builtin.Frozenset.sizeOf;refine dP (p5 ho hd j (hJ ?_));refine dP (x6 ho hd j ?_)
 by_cases m:(!Bb w && (!t.plain && decide (es.size > 1)))=true
 .rw[i5 m];refine dP ?_;refine tK es.size (List.range es.size) _ _ (by rw[D2];exact Aa _) λps d r=>?_;have pz:(ps.map λi:Nat=>rawInt i).length<=sizeLine:=by rw[AA,r.length_eq,D2];exact si J
  refine dP (wpAny_newTuple ?_ pz);dsimp only;refine dP (sH (s:={ s with heap:=_,drawn:=d }) (Ay _ ho) hd j ?_)
  refine dP (pP ?_);have g:∀(q:Obj)(b:Addr)(c:Obj),s.heap.get? b=some c->((s.heap.push (seqObj "tuple" (ps.map λi:Nat=>rawInt i).toArray 0)).push q).get? b=some c:=λq b c e=>Ay _ (Ay _ e);have l:(s.heap.push (seqObj "tuple" (ps.map λi:Nat=>rawInt i).toArray 0)).objs.size=s.heap.objs.size+1:=DM ..;refine hJ ⟨_,rfl, "set_iterator", _,⟨_,BP _ rfl,rfl⟩,Gg.lookup,?_⟩;refine fin _ _ d [(s.heap.push (seqObj "tuple" (ps.map λi:Nat=>rawInt i).toArray 0)).objs.size,S,s.heap.objs.size] _ _ (λA2 hh=>zO hh _ S s.heap.objs.size (by rw[l];exact Az (GD x)) (by rw[l];exact Az (MQ _)) hd j r (oT:=seqObj "tuple" (ps.map λi:Nat=>rawInt i).toArray 0) rfl) ⟨⟨_,BP _ rfl,rfl,rfl⟩,g _ _ _ ho,Ay _ (BP _ rfl)⟩ ?_ (by show s.heap.objs.size<=(s.heap.push (seqObj "tuple" (ps.map λi:Nat=>rawInt i).toArray 0)).objs.size;rw[l];exact EL _) ?_ (g _) ?_
  .intro b CA;simp only[DP,Aq,uB]at CA;rw[DM,l];rcases CA with rfl|rfl|rfl
   .right;rw[l];exact⟨EL _,MQ _⟩
   .left;rfl
   .right;exact⟨Aa _,GD (MQ _)⟩
  .rw[DM,l];exact gW (EL _)
  .rw[<- nW];exact r.map _
 .rw[i3 m];refine dP (hJ ?_);refine dP (sH ho hd j ?_);refine dP (pP ?_);have g:∀(q:Obj)(b:Addr)(c:Obj),s.heap.get? b=some c->(s.heap.push q).get? b=some c:=λq b c e=>Ay _ e;refine hJ ⟨_,rfl, "set_iterator", _,⟨_,BP _ rfl,rfl⟩,Gg.lookup,?_⟩;have C:∀(q:Obj),∀b∈[s.heap.objs.size,S],b=S∨s.heap.objs.size<=b/\b<(s.heap.push q).objs.size:=by
   intro q b CA;simp only[DP,Aq,uB]at CA;rw[DM];rcases CA with rfl|rfl
   .right;omega
   .left;rfl
  cases p:Bb w with
  |true=>
   refine fin _ _ s.drawn [s.heap.objs.size,S] _ _ (λA2 hh=>qH p hh _ S (Az x) hd j) ⟨⟨_,BP _ rfl,rfl,rfl⟩,g _ _ _ ho⟩ (C _) (Aa _) (by rw[DM];omega) (g _) ?_;exact(QU _ _).map _
  |false=>
   have h1:es.size<=1:=by
    rw[p]at m
    by_cases z:es.size<=1
    .exact z
    .rw[BI (by omega),hU (by omega:es.size > 1)]at m;exact absurd rfl m
   refine fin _ _ s.drawn [s.heap.objs.size,S] _ _ (λA2 hh=>iq p hh _ S (Az x) hd j h1 (by rw[CB,p];rfl)) ⟨⟨_,BP _ rfl,rfl,rfl⟩,g _ _ _ ho⟩ (C _) (Aa _) (by rw[DM];omega) (g _) (HS _)
theorem zv:typeLookup (.type "set") "__len__"=pure (some (.builtin "set.__len__")):=by rw[ZB8,ya];kernel_rfl
theorem vO{f:Str->Bool}{Q:List Value->Shared->Prop}(hh:A.handled=none)(q:AW prog w s.heap S f n)(O:n<=sizeLine)
  (h:∀(s':Shared)(vs:List Value)(ts:List Str),(∀b o,s.heap.get? b=some o->s'.heap.get? b=some o)->s.heap.objs.size<=s'.heap.objs.size->s'.gens=s.gens->s'.os=s.os->StrsAre vs ts->ts.length=n->(∀k,f k=true↔k∈ts)->Q vs s') :
  wpAny (model prog w) A (collect (.ref S)) Q E s:=by
 have V:S<s.heap.objs.size:=by obtain⟨o,_,_,_,ho,_⟩:=q;exact AY ho
 have r:s.heap.objs.size≠S:=EA V;unfold collect;refine dP (ZB9 (uO F.entry_proto_collect ?_));rw[RQ F.plain_proto_collect _];show wpAny _ A.in1 (newList [] >>= λl=>again (.builtin "list.__iadd__" ⟨[l,.ref S],[]⟩)) _ _ s;refine dP (pP ?_);refine hJ ⟨ZAC F.plain_list_iadd _,uO F.entry_list_iadd ?_⟩;rw[RQ F.plain_list_iadd _];generalize y:({ cls:=.type "list", data:=.seq ([]:List Value).toArray }:Obj)=so;have C:AW prog w (s.heap.push so) S f n:=q.keep λo e=>Ay _ e;have K:(s.heap.push so).get? s.heap.objs.size=some so:=BP _ (by rw[<- y];rfl);have sz:(s.heap.push so).objs.size=s.heap.objs.size+1:=DM ..;have t:Shared.TypeIs { s with heap:=s.heap.push so } (.ref S) "set" := by obtain⟨o,_,_,_,ho,g,_⟩:=C;exact⟨o,ho,g.1⟩
 have h1:Builtin.List.listSameRef (.ref s.heap.objs.size) (.ref S)=false:=by simp[Builtin.List.listSameRef,r]
 show wpAny _ A.in1 (Builtin.List.listExtendWith (.ref s.heap.objs.size) (.ref S) (.ref s.heap.objs.size)) _ _ { s with heap:=s.heap.push so }
 unfold Builtin.List.listExtendWith;refine dP (wpAny_typeOf t ?_);rw[i3 (by rw[h1];decide)];refine dP (yP (s:={ s with heap:=s.heap.push so }) C λI h2 d fp vs ts St W NY PQ R ZBG kp Tq tl L=>?_)
 have B:s.heap.objs.size∉fp:=λc=>by
  rcases PQ _ c with z|⟨z,_⟩
  .exact r z
  .have J:(s.heap.push so).objs.size<=s.heap.objs.size:=z;rw[sz]at J;omega
 have j:Shared.TypeIs { s with heap:=h2,drawn:=d } (.ref S) "set" := by obtain⟨o,ho,P⟩:=t;exact⟨o,kp _ _ ho,P⟩
 refine dP (mB ?_);unfold Builtin.List.listLengthHint;refine dP (wpAny_specialOf j zv ?_);generalize u:("set.__len__":String)=l9
 wp_delta
 rw[show splitId l9=some ("set","__len__")from by subst u;decide +kernel];subst u;refine dP (tO (b:=true) j (by rw[pe];kernel_rfl) ?_);rw[i3 (by decide)];refine wpAny_ite_split (λ_=>?_) (λBt=>absurd (by decide +kernel) Bt);refine dP (wpAny_typeOf j ?_);refine hJ ?_;refine wpAny_ite_split (λ_=>?_) (λBt=>absurd (by decide +kernel) Bt);refine dP (vb ?_);refine dP ?_;show wpAny _ _ (updateSeq s.heap.objs.size (·.push .none) >>= λ_=>updateSeq s.heap.objs.size (·.pop)) _ _ _
 have H:(#[]:Array Value).size<=sizeLine:=Bo _;have m:((#[]:Array Value).push Value.none).size<=sizeLine:=by show 1<=sizeLine;decide
 have G:((#[]:Array Value).push Value.none).size<=sizeLine+1:=gW m;have D:(((#[]:Array Value).push Value.none).pop).size<=sizeLine+1:=Bo _;have x:=kp _ _ K;subst y;refine dP (zE (s:={ s with heap:=h2,drawn:=d }) x rfl ?_ H G)
 have p:=IU (Obj.mapSeq (·.push Value.none)) x rfl
 refine zE p rfl ?_ m D;have M:=IU (Obj.mapSeq (·.pop)) p rfl
 have v:∀b o,b≠s.heap.objs.size->h2.get? b=some o->((h2.update s.heap.objs.size (Obj.mapSeq (·.push Value.none))).update s.heap.objs.size (Obj.mapSeq (·.pop))).get? b=some o:=
  λb o a e=>(Ky _ _ (BM a)).trans ((Ky _ _ (BM a)).trans e)
 refine hJ ⟨ZAC PySem.F.plain_extend_loop _,codeAny_extend_loopS (W A.in1 hh).toS O _ B _ n 0 _ #[] _ rfl (Bo _) ?_ M (ItemsOf.nil _) λs' Q9 c' c HK B6=>?_⟩
 .exact(W A.in1 hh).frame 0 h2 _ NY λb a o e=>v b o (λz=>B (z▸a)) e
 .show wpAny _ A (load s.heap.objs.size >>= _) _ _ s';refine dP (ZA2 HK ?_);have T:Q9.toList=vs:=by
   have N:vs.length=n:=(StrsAre.len Tq).trans tl;refine OG λi=>?_
   by_cases hi:i<n
   .have h1:Q9[i]?=some (Q9[i]'(by rw[B6.1];exact hi)):=Kw _;rw[Kx,h1];exact(B6.2 i _ h1).symm
   .rw[HV (by rw[Df,B6.1];omega),HV (by omega)]
  refine hJ ?_;rw[<- T]at Tq;refine h s' Q9.toList ts (λb o e=>?_) (IX (AY HK)) c.gens c.os Tq tl L;have a:b<s.heap.objs.size:=AY e;refine c.heap b o ?_ (v b o (Az a) (kp b o (Ay _ e)));simp only[DP,Aq,uB,not_or];refine⟨Az a,?_⟩;have U:s.heap.objs.size+1<=I:=by rw[<- sz];exact R
  exact Az (CG a (Nat.le_of_succ_le U))
variable{R:Result->Shared->Prop}{wr:List Addr}{G:Array GenState->Array GenState->Prop}{P:Nat->Value->Prop}{St:Nat->Shared->Prop}
theorem mW(W:WalksS prog w A.in1 I fp wr G ss.length P St)(S:Addr)(Ku:S∉fp)(VH:∀i v,P i v->∃(h:i<ss.length)(t:Tok),v=.str ss[i] t)(a:ss.length+1<scanBound):
  ∀(k i:Nat)(s:Shared),ss.length - i=k->i<=ss.length->St i s->AW prog w s.heap S (λk'=>(dd (ss.take i)).any (· == k')) (dd (ss.take i)).length->
   (∀s',Moved (S::wr) G s s'->AW prog w s'.heap S (λk'=>(dd ss).any (· == k')) (dd ss).length->R (.ok (.ret .none)) s')->
   codeAny (model prog w) A (.builtin "set.update.loop" ⟨[.ref S,.ref I],[]⟩) R s:=by
 have n:S∉wr:=λh=>Ku (W.sub _ h);have j:∀{s s':Shared}{f:Str->Bool}{m:Nat},Moved wr G s s'->AW prog w s.heap S f m->AW prog w s'.heap S f m:=λc d=>d.keep λo ho=>c.heap S _ n ho;intro k
 induction k with
 |zero=>
  intro i s hk hi FW d fin;have e:i=ss.length:=by omega
  subst e;refine uO ZAw ?_;rw[RQ gg _];show wpAny _ A.in1 (pyNext (.ref I) >>= _) _ _ s;refine dP (W.done s _ _ FW λs' c=>?_);show wpAny _ A.in1 (ret Value.none) _ _ s';rw[Eg]at d;exact hJ (fin s' (c.mono λb a=>B2 _ a) (j c d))
 |succ k u=>
  intro i s hk hi FW d fin;have g:i<ss.length:=by omega
  refine uO ZAw ?_;rw[RQ gg _];show wpAny _ A.in1 (pyNext (.ref I) >>= _) _ _ s;refine dP (W.item i s _ _ g FW λv s' x y c=>?_);obtain⟨_,t,rfl⟩:=VH i v x;have B:=j c d;show wpAny _ A.in1 (holding [Value.str ss[i] t] (setAdd S (.str ss[i] t)) >>= _) _ _ s';refine dP (mB ?_);unfold setAdd;have l:(PySem.strKind prog w).is ss[i] (.str ss[i] t)=true:=XX prog w ss[i] t;refine mB (dP ((PySem.strKind prog w).pyHash l ?_));have z:(dd (ss.take i)).length+1<scanBound:=by
   have:=V6 (ss.take i);rw[GC]at this;omega
  refine AW.put (s:={ s' with toks:=s'.toks+1 }) B z λh' Iy Ko=>?_
  have p:AW prog w h' S (λk'=>(dd (ss.take (i+1))).any (· == k')) (dd (ss.take (i+1))).length:=
   Ko.congr (λk'=>by rw[cL ss i g,yh]) (by rw[cL ss i g,bb])
  refine hJ ⟨ZAC gg _,u (i+1) _ (by omega) g (W.frame _ s' _ _ y (EL _) λb a o e=>?_) p λKY r q=>?_⟩
  .rw[Iy.2 b (by rintro rfl;exact Ku a)];exact e
  .refine fin KY (Moved.trans W.gtrans ((c.mono λb a=>B2 _ a).then_heap (EL _) λb o a e=>?_) r) q;rw[Iy.2 b (by rintro rfl;exact a Aj)];exact e
theorem pF(a:Value)
  (h:Q₁ (.ref s.heap.objs.size) { s with heap:=s.heap.push { cls:=.type "set", dict:=none,data:=.set #[] 0 (.fresh 0 0 (!Bb w)) } }) :
  codeAny (model prog w) A (.call (.builtin "set.__new__") ⟨[.type "set", a],[]⟩) (wants Q₁ E) s:=by
 refine codeAny_of_tree ?_;show wpAny _ A.in1 (do checkBuiltinCall "set.__new__" ⟨[.type "set", a],[]⟩;again (.builtin "set.__new__" ⟨[.type "set", a],[]⟩)) _ _ s
 refine dP (nD (PySem.F.newCall_set_1 a) ?_);refine hJ ⟨ZAC ZAx _,uO PySem.F.entry_set_new ?_⟩;rw[RQ ZAx _];unfold Builtin.«set.__new__» Builtin.Frozenset.newClass;have c:isSubtype (.type "set") (.type "set")=pure true:=by rw[pe];kernel_rfl
 obtain⟨b,g,d,tk,os⟩:=s;dsimp only
 wp_walk
 refine oP (hJ ?_);dsimp only;simp only[newObj];refine dP (wpAny_alloc (hJ ?_));exact hJ h
theorem aV{l:Addr}{T:String}{q:Option Addr}{Fq:Array (Option Value)}(ho:s.heap.get? l=some { cls:=.type T,dict:=q,data:=.seq items nl,slots:=Fq })
  (hs1:isSubtype (.type T) (.type "set")=pure false) (DY:isSubtype (.type T) (.type "frozenset")=pure false) (AV:(Value.type T == Value.type "dict")=false) (hb:ss.length+1<scanBound)
  (hit:∀(s1:Shared)(A1:Around)(Q1:Value->Shared->Prop),A1.handled=A.handled->s1.heap.get? l=s.heap.get? l->l<s1.heap.objs.size->
   (∀f St P,WalksS prog w A1.in1 s1.heap.objs.size [s1.heap.objs.size,l] [s1.heap.objs.size] (λa b=>b=a) ss.length P St->(∀i v,P i v->∃(h:i<ss.length)(t:Tok),v=.str ss[i] t)->St 0 { s1 with heap:=s1.heap.push f }->Q1 (.ref s1.heap.objs.size) { s1 with heap:=s1.heap.push f })->
   wpAny (model prog w) A1 (pyIter (.ref l)) Q1 E s1)
  (h:∀(h':Heap)(tk:Nat),AW prog w h' s.heap.objs.size (λk'=>(dd ss).any (· == k')) (dd ss).length->(∀b o,b<s.heap.objs.size->s.heap.get? b=some o->h'.get? b=some o)->Q (.ref s.heap.objs.size) { s with heap:=h',toks:=tk }) :
  wpAny (model prog w) A (call (.type "set") [.ref l]) Q E s:=by
 have x:l<s.heap.objs.size:=AY ho;obtain⟨c,tl,ZBn⟩:=PySem.F.called_set.mro;have M:=PySem.F.called_set.made;have U:=PySem.F.called_set.sub;refine wpAny_call (codeAny_of_tree (by
  show wpAny _ _ (callAny (.type "set") _) _ _ _;refine hJ ⟨Code.quiet_builtin _ (by decide +kernel),uO PySem.F.entry_type_call ?_⟩;rw[Around.under_plain (weight_type_call_type "set" [.ref l] []) rfl];have h1:=PySem.F.called_set.notType;have h2:=PySem.F.called_set.canCreate;have D:=PySem.F.typeCall_set_1 (.ref l)
  repeat (any_goals (first|assumption|wp_step))
  refine xx (pF (.ref l) (E:=E) (Q₁:=λobj s₁=>obj=.ref s.heap.objs.size/\s₁={ s with heap:=s.heap.push { cls:=.type "set", dict:=none,data:=.set #[] 0 (.fresh 0 0 (!Bb w)) } }) ⟨rfl,rfl⟩) λr s₁ j=>?_
  cases r with
  |error e=>exact j
  |ok I=>
   cases I with
   |ret obj=>
    obtain⟨rfl,rfl⟩:=j;generalize n:({ cls:=.type "set", dict:=none,data:=.set #[] 0 (.fresh 0 0 (!Bb w)) }:Obj)=so;have hsz:(s.heap.push so).objs.size=s.heap.objs.size+1:=DM ..;have u:(s.heap.push so).get? s.heap.objs.size=some so:=BP _ (by rw[<- n];rfl);have H:Shared.TypeIs { s with heap:=s.heap.push so } (.ref s.heap.objs.size) "set" := ⟨_,u,by rw[<- n]⟩
    have S:=PySem.F.called_set.init.lookup;have G:=PySem.F.called_set.init.bind (.ref s.heap.objs.size)
    repeat (any_goals (first|assumption|wp_step))
    refine xx (codeAny_call_builtin (R:=wants (λr p=>r=.none/\∃h' tk,p={ s with heap:=h',toks:=tk }/\AW prog w h' s.heap.objs.size (λk'=>(dd ss).any (· == k')) (dd ss).length/\
      (∀b o,b<s.heap.objs.size->s.heap.get? b=some o->h'.get? b=some o)) E) PySem.F.called_set.init.plain PySem.F.entry_set_init (check_set_init_1 H ?_)) λy p d=>?_
    .have O:(s.heap.push so).get? l=some { cls:=.type T,dict:=q,data:=.seq items nl,slots:=Fq }:=Ay _ ho;subst n;unfold Builtin.«set.__init__» noKeywords Builtin.Frozenset.updateFrom;generalize z:pyIter=PI
     wp_walk
     subst z;refine hit { s with heap:=s.heap.push _ } _ _ rfl (O.trans ho.symm) (Nat.lt_of_lt_of_eq (GD x) hsz.symm) λf St P W VH NY=>?_
     refine dP (ZB9 ?_);have N:s.heap.objs.size∉[(s.heap.push { cls:=.type "set", dict:=none,data:=.set #[] 0 (.fresh 0 0 (!Bb w)) }).objs.size,l]:=by
      rw[hsz];simp only[DP,Aq,uB,not_or];exact⟨Az (MQ _),EA x⟩
     refine mW W s.heap.objs.size N VH hb (ss.length - 0) 0 _ rfl (Bo _) NY ?_ ?_
     .have hg:=Ay f u;exact⟨_,#[],0,_,hg,⟨rfl,rfl,rfl⟩,rfl,λe C=>by simp at C,λk=>by simp[dd],by decide,by rfl,rfl,rfl,λh=>absurd h (by simp)⟩
     .intro s' g HK;obtain⟨h',g',d',B,Ti⟩:=s';have K:g'=s.gens:=g.gens;have L:d'=s.drawn:=g.drawn;have J:Ti=s.os:=g.os;subst K;subst L;subst J;show wpAny _ _ _ _ _ _;refine hJ ?_;show wpAny _ _ (ret Value.none) _ _ _;refine hJ ⟨rfl,h',B,rfl,HK,λb o CA e=>?_⟩;refine g.heap b o ?_ (Ay _ (Ay _ e));rw[hsz];simp only[DP,Aq,uB,not_or];exact⟨Az CA,Az (GD CA)⟩
    .cases y with
     |error e=>exact d
     |ok m=>
      cases m with
      |ret r=>
       obtain⟨rfl,h',tk,rfl,HK,IT⟩:=d
       repeat (any_goals (first|assumption|wp_step))
       exact h _ _ HK IT
      |_=>exact d.elim
   |_=>exact j.elim))
end
noncomputable def Ci(P:Program)(w:World)(a:Addr)(f:Str->Bool)(n:Nat):HO:=.ext λh=>AW P w h a f n
theorem NA(t:X.calm=true):Br X (.type "set") (λxs H Q=>∃(p:Addr)(tp:Bool)(ss:List Str),xs=[.ref p]/\CK X.K tp H p (ss.map V.str)/\ss.length<4000/\
  ∀l,H l=none->Q (.ref l) (upd H l (Ci X.prog X.w l (λk'=>(dd ss).any (· == k')) (dd ss).length))):=by
 intro Zq s Z H xs us Q I r h;obtain⟨p,tp,ss,rfl,m,hz,q⟩:=h;obtain⟨u,rfl,z⟩:=vals1 r;cases z;have x:ss.length+1<scanBound:=by unfold scanBound;omega
 have fin:∀(h':Heap)(tk:Nat),AW X.prog X.w h' s.heap.objs.size (λk'=>(dd ss).any (· == k')) (dd ss).length->(∀b o,b<s.heap.objs.size->s.heap.get? b=some o->h'.get? b=some o)->
   EP X Zq Z Q (.ref s.heap.objs.size) { s with heap:=h',toks:=tk }:=λh' tk y kp=>by
  refine⟨.ref s.heap.objs.size,_,I.laid (t':=tk) (λb o e=>kp b o (AY e) e) (Aa _) (show Bl X.prog X.w _ h' _ (Ci X.prog X.w s.heap.objs.size _ _)from⟨y,?_,λh1 h2 Gf GU=>?_⟩),rfl,q _ (I.AE.fresh (Aa _))⟩
  .obtain⟨o,_,_,_,ho,_⟩:=y;exact⟨o,ho⟩
  .exact Gf.keep GU
 cases tp with
 |false=>
  obtain⟨A0,a,pl,O2⟩:=I.list m;have f:=a.length;rw[AA]at f;obtain⟨⟨c,d,dt,sl⟩,n,ho,Bw,hd,Jw⟩:=id pl;simp only at Bw hd Jw;subst Bw;subst hd;subst Jw;refine aV ho PySem.F.sub_list_set PySem.F.sub_list_frozenset (by decide) x (λs1 A1 Q1 j e1 l1 W5=>?_) fin;have g:s1.heap.IsList p A0.toArray:=⟨_,e1.trans ho,rfl,n,rfl⟩;have k:A0.toArray.size=ss.length:=List.size_toArray.trans f.symm;refine yI g (W5 _ (λi s=>s.heap.IsListIter s1.heap.objs.size p i/\s.heap.IsList p A0.toArray) (λi v=>A0.toArray[i]?=some v) (by
   have W:=(Walks.list (prog:=X.prog) (w:=X.w) (A:=A1.in1) (by rw[Wu,j];exact I.ok.hd t) s1.heap.objs.size p (Az l1) A0.toArray).toS;rw[k]at W;exact W) (λi v e=>fN a (by simpa using e)) ⟨⟨_,BP _ rfl,rfl,rfl⟩,g.push _⟩)
 |true=>
  obtain⟨A0,a,pl,O2⟩:=I.tuple m;have f:=a.length;rw[AA]at f;obtain⟨⟨c,d,dt,sl⟩,ho,Bw,n,Jw⟩:=id pl;simp only at Bw Jw;subst Bw;subst Jw;refine aV ho sub_tuple_set sub_tuple_frozenset (by decide) x (λs1 A1 Q1 j e1 l1 W5=>?_) fin;have g:s1.heap.IsTuple p A0.toArray:=⟨_,e1.trans ho,rfl,n,rfl⟩;have k:A0.toArray.size=ss.length:=List.size_toArray.trans f.symm;refine xv g (W5 _ (λi s=>s.heap.IsTupleIter s1.heap.objs.size p i/\s.heap.IsTuple p A0.toArray) (λi v=>A0.toArray[i]?=some v) (by
   have W:=(Walks.tuple (prog:=X.prog) (w:=X.w) (A:=A1.in1) (by rw[Wu,j];exact I.ok.hd t) s1.heap.objs.size p (Az l1) A0.toArray).toS;rw[k]at W;exact W) (λi v e=>fN a (by simpa using e)) ⟨⟨_,BP _ rfl,rfl,rfl⟩,?_⟩)
  exact⟨_,Ay _ (e1.trans ho),rfl,n,rfl⟩
theorem Inv.drew(I:Inv X Zq Z H s)(d:Drawn):Inv X Zq Z H { s with drawn:=d }:=
 I.step (h':=s.heap) (g':=s.gens) (t':=s.toks) (d':=d) (ch:=[]) (λ_ z=>nomatch z) (λb o _ _ _ e _=>e) (λb o _ _ _ e _=>⟨o.slots,e⟩) (λ_ _ _ _ n=>n) (λb o _ e=>⟨o,e⟩) (λ_ _ e=>e) (λ_ _ _ e=>e) (λm a=>a) I.AE I.bare
theorem WK{l:Addr}{Q:List Value->Shared->Prop}(a:IsTup s.heap l vs.toArray)(h:Q vs { s with heap:=(s.heap.push (seqObj "list" #[] 0)).update s.heap.objs.size (Obj.mapSeq (·++vs.toArray)) })(hsz:vs.length<=sizeLine):
  wpAny (model prog w) A (collect (.ref l)) Q E s:=by
 obtain⟨o,ho,b,n,hd⟩:=id a;unfold collect;refine dP (ZB9 (uO entry_proto_collect' ?_));show wpAny _ _ (newList [] >>= λx=>again (.builtin "list.__iadd__" ⟨[x,.ref l],[]⟩)) _ _ s;refine dP (zC ?_);refine hJ ⟨Code.quiet_builtin _ (by decide +kernel),uO entry_list_iadd' ?_⟩;show wpAny _ _ (Builtin.List.listExtendWith (.ref s.heap.objs.size) (.ref l) (.ref s.heap.objs.size)) _ _ { s with heap:=s.heap.push (seqObj "list" #[] 0) }
 unfold Builtin.List.listExtendWith;have g:(s.heap.push (seqObj "list" #[] 0)).get? l=some o:=Ay _ ho;refine dP (wpAny_typeOf (T:="tuple") ⟨o,g,b⟩ ?_);rw[i5 (by simp)];refine dP (listItems_at g hd ?_);refine dP (listItems_at (xs:=#[]) (n:=0) (BP _ rfl) rfl ?_);rw[i3 (by simp)];refine dP (listUpdate_at (xs:=#[]) (n:=0) (BP _ rfl) rfl ?_ (Bo _) (by show(#[]++vs.toArray).size<=sizeLine+1;simp only[Array.size_append,Bn,RZ];omega));refine hJ ?_;show wpAny (model prog w) A (load s.heap.objs.size >>= λo=>(match o.data with | .seq xs _=>pure xs.toList|_=>unsupported "internal:collect")) Q E _
 refine dP (ZA2 (get?_update_seq (BP _ rfl) _) ?_);show wpAny _ _ (pure ((#[]:Array Value)++vs.toArray).toList) Q E _;have e:((#[]:Array Value)++vs.toArray).toList=vs:=by simp
 rw[e];exact hJ h
theorem dw(i:∀(A1:Around)(E1:Value->Shared->Prop)(Q1:List Value->Shared->Prop),A1.handled=A.handled->(∀vs s1,Pc vs s1->Q1 vs s1)->wpAny (model prog w) A1 (collect v) Q1 E1 s)
  (h:∀vs s1,Pc vs s1->vs.length<64/\∃ss,StrsAre vs ss/\∀out A5 e h',(∀b o,s1.heap.get? b=some o->h'.get? b=some o)->h'.get? s1.heap.objs.size=some (seqObj "list" out e)->StrsAre out.toList A5->A5.Perm ss->sortedS A5=true->Q (.ref s1.heap.objs.size) { s1 with heap:=h' }) :
  wpAny (model prog w) A (call (.builtin "sorted") [v]) Q E s:=by
 refine ZAQ kind_sorted plain_sorted entry_sorted (args_sorted1 _) ?_;unfold Builtin.«sorted»;refine dP (m:=checkCount "sorted" 1 1 _) (hJ ?_);refine dP (i _ _ _ rfl λvs s1 f=>?_);obtain⟨Bf,ss,JW,k⟩:=h vs s1 f;refine dP (zC ?_);have a:(s1.heap.push (seqObj "list" vs.toArray 0)).get? s1.heap.objs.size=some (seqObj "list" vs.toArray 0):=BP _ rfl;refine dP (mB (mK slot_list_sort ⟨_,a,rfl⟩ entry_list_sort (list_sort_treeK (s:={ s1 with heap:=s1.heap.push (seqObj "list" vs.toArray 0) }) strKind_oneLt a JW.keysOf (λq p rest e=>keyKind_strs (by rw[<- e];exact JW)) Bf λET a1 a2=>⟨_,rfl,?_⟩) (args_list_sort _)))
 obtain⟨A5,n,l,j⟩:=sorted_out_str JW a1 a2;obtain⟨e,g⟩:=sortedHeap_at (out:=(arrOf ET).map (·.2)) a
 refine hJ ⟨_,rfl,k _ A5 e _ (λb o c=>?_) g n l j⟩;have d:=AY c;rw[sortedHeap_old (Az d) (by rw[DM];exact GD d)];exact Ay _ c
theorem Xg:∀{ss:List Str}{us:List Value},Vals (ss.map V.str) us->StrsAre us ss
 | [],_,.nil=>.nil
 |x::r,_,.cons ⟨t,e⟩ h=>by rw[e];exact .cons x t (Xg h)
theorem Yx:∀{ss:List Str}{us:List Value},StrsAre us ss->Vals (ss.map V.str) us
 |_,_,.nil=>.nil
 |_,_,.cons x t h=>.cons ⟨t,rfl⟩ (Yx h)
theorem aE{Q:VK}(I:Inv X Zq Z H s)(hg:s1.gens=s.gens)(ho:s1.os=s.os)(hk:∀b o,s.heap.get? b=some o->s1.heap.get? b=some o)(c:s.heap.objs.size<=s1.heap.objs.size)
  {out:Array Value}{e:Nat}(kp:∀b o,s1.heap.get? b=some o->h'.get? b=some o) (d:h'.get? s1.heap.objs.size=some (seqObj "list" out e)) (f:StrsAre out.toList A5) (Bf:A5.length<64)
  (q:∀l,H l=none->Q (.ref l) (upd H l (.lst (A5.map V.str)))):EP X Zq Z Q (.ref s1.heap.objs.size) { s1 with heap:=h' }:=by
 obtain⟨h1,g1,g,t1,h⟩:=s1;simp only at hg ho hk c kp d;subst hg;subst ho;refine⟨.ref _,_,(I.drew g).laid (a:=h1.objs.size) (h':=h') (t':=t1) (o:=.lst (A5.map V.str)) (λb o q=>kp b o (hk b o q)) c ?_,rfl,q _ (I.AE.fresh c)⟩;refine⟨?_,out.toList,e,Yx f,by simpa[seqObj]using d⟩
 rw[AA];exact CQ (IX Bf) (by decide +kernel)
def Qu(K:ZBx):List V->Hp->VK->Prop:=λxs H Q=>∃(p:Addr)(tp:Bool)(ss:List Str),xs=[.ref p]/\CK K tp H p (ss.map V.str)/\ss.length<64/\∀l A5,H l=none->A5.Perm ss->sortedS A5=true->Q (.ref l) (upd H l (.lst (A5.map V.str)))
theorem RP:Br X (.builtin "sorted") (Qu X.K):=by
 intro Zq s Z H xs us Q I r h;obtain⟨p,tp,ss,rfl,d,Bf,q⟩:=h;obtain⟨u,rfl,i⟩:=vals1 r;cases i;have key:∀A0:List Value,Vals (ss.map V.str) A0->(∀(A1:Around)(E1:Value->Shared->Prop)(Q1:List Value->Shared->Prop),Q1 A0 { s with heap:=(s.heap.push (seqObj "list" #[] 0)).update s.heap.objs.size (Obj.mapSeq (·++A0.toArray)) }->wpAny (model X.prog X.w) A1 (collect (.ref p)) Q1 E1 s)->
   wpAny (model X.prog X.w) X.A (call (.builtin "sorted") [.ref p]) (EP X Zq Z Q) X.xe s:=by
  intro A0 c Ux;have a:=c.length;rw[AA]at a;refine dw (Pc:=λvs s1=>vs=A0/\s1={ s with heap:=(s.heap.push (seqObj "list" #[] 0)).update s.heap.objs.size (Obj.mapSeq (·++A0.toArray)) }) (λA1 E1 Q1 _ k=>Ux A1 E1 Q1 (k _ _ ⟨rfl,rfl⟩)) ?_
  rintro vs s1⟨rfl,rfl⟩;refine⟨by omega,ss,Xg c,λout A5 e h' kp n t f j=>?_⟩;refine aE (s1:={ s with heap:=(s.heap.push (seqObj "list" #[] 0)).update s.heap.objs.size (Obj.mapSeq (·++vs.toArray)) }) I rfl rfl (λb o g=>?_) (by show s.heap.objs.size<=((s.heap.push (seqObj "list" #[] 0)).update s.heap.objs.size (Obj.mapSeq (·++vs.toArray))).objs.size;rw[X4,DM];exact EL _) kp n t (by rw[f.length_eq];exact Bf) λl m=>q l A5 m f j
  show((s.heap.push _).update _ _).get? b=some o;rw[X3 _ _ _ _ (Az (AY g))];exact Ay _ g
 cases tp with
 |false=>
  obtain⟨A0,c,pl,hz⟩:=I.list d;have a:=c.length;exact key A0 c λA1 E1 Q1 k=>collect_list pl.isList k (by omega)
 |true=>
  obtain⟨A0,c,pl,hz⟩:=I.tuple d;have a:=c.length;exact key A0 c λA1 E1 Q1 k=>WK pl k (by omega)
def x5(P:Program)(w:World):List V->Hp->VK->Prop:=λxs H Q=>∃(p:Addr)(f:Str->Bool)(n:Nat),xs=[.ref p]/\H p=some (Ci P w p f n)/\n<64/\∀l ts,H l=none->ts.length=n->(∀k,f k=true↔k∈ts)->sortedS ts=true->Q (.ref l) (upd H l (.lst (ts.map V.str)))
theorem kQ(y:X.calm=true):Br X (.builtin "sorted") (x5 X.prog X.w):=by
 intro Zq s Z H xs us Q I r h;obtain⟨p,f,n,rfl,B,Bf,q⟩:=h;obtain⟨u,rfl,m⟩:=vals1 r;cases m;have z:AW X.prog X.w s.heap p f n:=(I.AE p _ B).1;have hh:X.A.handled=none:=I.ok.hd y;refine dw (Pc:=λvs s1=>∃ts,(∀b o,s.heap.get? b=some o->s1.heap.get? b=some o)/\s.heap.objs.size<=s1.heap.objs.size/\s1.gens=s.gens/\s1.os=s.os/\StrsAre vs ts/\ts.length=n/\(∀k,f k=true↔k∈ts)) (λA1 E1 Q1 C k=>?_) ?_
 .exact vO (C.trans hh) z (CQ (IX Bf) (by decide +kernel)) λs' vs ts a1 a2 j i c a g=>k vs s' ⟨ts,a1,a2,j,i,c,a,g⟩
 .rintro vs s1⟨ts,a1,a2,j,i,c,a,g⟩;refine⟨by rw[StrsAre.len c,a];exact Bf,ts,c,λout A5 e h' kp x HK d t=>?_⟩;exact aE I j i a1 a2 kp x HK (by rw[d.length_eq,a];exact Bf) λl v=>q l A5 v (d.length_eq.trans a) (λk=>(g k).trans d.mem_iff.symm) t
theorem oO(i:∀(A1:Around)(E1:Value->Shared->Prop)(Q1:List Value->Shared->Prop),A1.handled=A.handled->(∀vs s1,Pc vs s1->Q1 vs s1)->wpAny (model prog w) A1 (collect v) Q1 E1 s)
  (h:∀vs s1,Pc vs s1->vs.length<64/\∃ns,IntsAre vs ns/\∀out Cb e h',(∀b o,s1.heap.get? b=some o->h'.get? b=some o)->h'.get? s1.heap.objs.size=some (seqObj "list" out e)->IntsAre out.toList Cb->Cb.Perm ns->Cb.Pairwise (·<=·)->Q (.ref s1.heap.objs.size) { s1 with heap:=h' }) :
  wpAny (model prog w) A (call (.builtin "sorted") [v]) Q E s:=by
 refine ZAQ kind_sorted plain_sorted entry_sorted (args_sorted1 _) ?_;unfold Builtin.«sorted»;refine dP (m:=checkCount "sorted" 1 1 _) (hJ ?_);refine dP (i _ _ _ rfl λvs s1 f=>?_);obtain⟨Bf,ns,JW,k⟩:=h vs s1 f;refine dP (zC ?_);have a:(s1.heap.push (seqObj "list" vs.toArray 0)).get? s1.heap.objs.size=some (seqObj "list" vs.toArray 0):=BP _ rfl;refine dP (mB (mK slot_list_sort ⟨_,a,rfl⟩ entry_list_sort (list_sort_tree (s:={ s1 with heap:=s1.heap.push (seqObj "list" vs.toArray 0) }) a JW Bf λout Cb n l j=>⟨_,rfl,?_⟩) (args_list_sort _)))
 obtain⟨e,g⟩:=sortedHeap_at (out:=out) a;refine hJ ⟨_,rfl,k _ Cb e _ (λb o c=>?_) g n l j⟩;have d:=AY c;rw[sortedHeap_old (Az d) (by rw[DM];exact GD d)];exact Ay _ c
theorem Xe:∀{ss:List Int}{us:List Value},Vals (ss.map V.int) us->IntsAre us ss
 | [],_,.nil=>.nil
 |x::r,_,.cons ⟨t,e⟩ h=>by rw[e];exact .cons x t (Xe h)
theorem cy:∀{ss:List Int}{us:List Value},IntsAre us ss->Vals (ss.map V.int) us
 |_,_,.nil=>.nil
 |_,_,.cons x t h=>.cons ⟨t,rfl⟩ (cy h)
theorem ix{Q:VK}(I:Inv X Zq Z H s)(hg:s1.gens=s.gens)(ho:s1.os=s.os)(hk:∀b o,s.heap.get? b=some o->s1.heap.get? b=some o)(c:s.heap.objs.size<=s1.heap.objs.size)
  {out:Array Value}{A5:List Int}{e:Nat}(kp:∀b o,s1.heap.get? b=some o->h'.get? b=some o) (d:h'.get? s1.heap.objs.size=some (seqObj "list" out e)) (f:IntsAre out.toList A5) (Bf:A5.length<64)
  (q:∀l,H l=none->Q (.ref l) (upd H l (.lst (A5.map V.int)))):EP X Zq Z Q (.ref s1.heap.objs.size) { s1 with heap:=h' }:=by
 obtain⟨h1,g1,g,t1,h⟩:=s1;simp only at hg ho hk c kp d;subst hg;subst ho;refine⟨.ref _,_,(I.drew g).laid (a:=h1.objs.size) (h':=h') (t':=t1) (o:=.lst (A5.map V.int)) (λb o q=>kp b o (hk b o q)) c ?_,rfl,q _ (I.AE.fresh c)⟩;refine⟨?_,out.toList,e,cy f,by simpa[seqObj]using d⟩
 rw[AA];exact CQ (IX Bf) (by decide +kernel)
def ZJ(K:ZBx):List V->Hp->VK->Prop:=λxs H Q=>∃(p:Addr)(tp:Bool)(ss:List Int),xs=[.ref p]/\CK K tp H p (ss.map V.int)/\ss.length<64/\∀(l:Addr)(A5:List Int),H l=none->A5.Perm ss->A5.Pairwise (·<=·)->Q (.ref l) (upd H l (.lst (A5.map V.int)))
theorem oC:Br X (.builtin "sorted") (ZJ X.K):=by
 intro Zq s Z H xs us Q I r h;obtain⟨p,tp,ss,rfl,d,Bf,q⟩:=h;obtain⟨u,rfl,i⟩:=vals1 r;cases i;have key:∀A0:List Value,Vals (ss.map V.int) A0->(∀(A1:Around)(E1:Value->Shared->Prop)(Q1:List Value->Shared->Prop),Q1 A0 { s with heap:=(s.heap.push (seqObj "list" #[] 0)).update s.heap.objs.size (Obj.mapSeq (·++A0.toArray)) }->wpAny (model X.prog X.w) A1 (collect (.ref p)) Q1 E1 s)->
   wpAny (model X.prog X.w) X.A (call (.builtin "sorted") [.ref p]) (EP X Zq Z Q) X.xe s:=by
  intro A0 c Ux;have a:=c.length;rw[AA]at a;refine oO (Pc:=λvs s1=>vs=A0/\s1={ s with heap:=(s.heap.push (seqObj "list" #[] 0)).update s.heap.objs.size (Obj.mapSeq (·++A0.toArray)) }) (λA1 E1 Q1 _ k=>Ux A1 E1 Q1 (k _ _ ⟨rfl,rfl⟩)) ?_
  rintro vs s1⟨rfl,rfl⟩;refine⟨by omega,ss,Xe c,λout A5 e h' kp n t f j=>?_⟩;refine ix (s1:={ s with heap:=(s.heap.push (seqObj "list" #[] 0)).update s.heap.objs.size (Obj.mapSeq (·++vs.toArray)) }) I rfl rfl (λb o g=>?_) (by show s.heap.objs.size<=((s.heap.push (seqObj "list" #[] 0)).update s.heap.objs.size (Obj.mapSeq (·++vs.toArray))).objs.size;rw[X4,DM];exact EL _) kp n t (by rw[f.length_eq];exact Bf) λl m=>q l A5 m f j
  show((s.heap.push _).update _ _).get? b=some o;rw[X3 _ _ _ _ (Az (AY g))];exact Ay _ g
 cases tp with
 |false=>
  obtain⟨A0,c,pl,hz⟩:=I.list d;have a:=c.length;exact key A0 c λA1 E1 Q1 k=>collect_list pl.isList k (by omega)
 |true=>
  obtain⟨A0,c,pl,hz⟩:=I.tuple d;have a:=c.length;exact key A0 c λA1 E1 Q1 k=>WK pl k (by omega)
end L2
namespace HT
open AutoSeq1 (wpAny_loadPart')
variable{prog:Program}{w:World}{A:Around}{E Q:Value->Shared->Prop}{it tu:Addr}{i:Nat}{old v:Value}
theorem iM(tu:Addr)(vals:Array Value)(k:Nat)(e:Option Addr)(Sb:Array (Option Value)):
  Meets (Builtin.«enumerate.__new__» ⟨[.type "enumerate",.ref tu],[]⟩) (λ_ R s=>s.heap.get? tu=some { cls:=.type "tuple", dict:=e,data:=.seq vals k,slots:=Sb }/\R (.ok (.ret (.ref (s.heap.push { cls:=.type "tuple_iterator", data:=.fields #[.ref tu,.int 0 0] }).objs.size)))
    { s with heap:=(s.heap.push { cls:=.type "tuple_iterator", data:=.fields #[.ref tu,.int 0 0] }).push { cls:=.type "enumerate", data:=.fields #[.none,.bool false,.ref s.heap.objs.size,rawInt 0,.none,.none] } }):=.of_wp λprog w A R s h=>by
 obtain⟨b,g,d,tk,os⟩:=s;obtain⟨ho,h⟩:=h;have f:=sub_enumerate;have a:Heap.IsTuple (Shared.heap ⟨b,g,d,tk,os⟩) tu vals:=⟨_,ho,rfl,k,rfl⟩
 wp_walk using wpAny_loadPart' ho
 refine wpAny_stack_any λi=>hJ ?_;split
 .rename_i c _ _ _ _ _;cases(c == Value.type "enumerate") <;> (wp_walk using wpAny_loadPart' ho,xv a;exact⟨_,rfl,h⟩)
 .wp_walk using wpAny_loadPart' ho,xv a
  exact⟨_,rfl,h⟩
section
variable{s:Shared}
theorem vx{vals:Array Value}(f:s.heap.IsTuple tu vals)
  (q:∀h',IsEnum h' (s.heap.objs.size+1) s.heap.objs.size 0 .none->h'.IsTupleIter s.heap.objs.size tu 0->h'.objs.size=s.heap.objs.size+2->(∀b o,s.heap.get? b=some o->h'.get? b=some o)->Q (.ref (s.heap.objs.size+1)) { s with heap:=h' }) :
  wpAny (model prog w) A (call (.type "enumerate") [.ref tu]) Q E s:=by
 obtain⟨⟨c,g,dt,Sb⟩,ho,a,k,hd⟩:=f;replace a:c=.type "tuple" := a;replace hd:dt=.seq vals k:=hd;subst a hd;refine callType_new F.called_enumerate (by decide) (F.typeCall_enumerate_1 _) (F.newCall_enumerate_1 _) (λe=>F.args_object_init_2 e _) F.entry_enumerate_new (iM tu vals k g Sb) ⟨ho,?_⟩;have z:(s.heap.push { cls:=.type "tuple_iterator", data:=.fields #[.ref tu,.int 0 0] }).objs.size=s.heap.objs.size+1:=DM ..;show _/\_;rw[z];have d:IsEnum ((s.heap.push { cls:=.type "tuple_iterator", data:=.fields #[.ref tu,.int 0 0] }).push { cls:=.type "enumerate", data:=.fields #[.none,.bool false,.ref s.heap.objs.size,rawInt 0,.none,.none] }) (s.heap.objs.size+1) s.heap.objs.size 0 .none:=by
  have y:=BP (s.heap.push { cls:=.type "tuple_iterator", data:=.fields #[.ref tu,.int 0 0] }) (o:={ cls:=.type "enumerate", data:=.fields #[.none,.bool false,.ref s.heap.objs.size,rawInt 0,.none,.none] }) rfl;rw[z]at y;exact y
 exact⟨⟨_,d,rfl⟩,q _ d ⟨_,Ay _ (BP _ rfl),rfl,rfl⟩ (by rw[DM,z]) λb o y=>Ay _ (Ay _ y)⟩
theorem vm{vals:Array Value}(hi:s.heap.IsTupleIter it tu i)(c:s.heap.IsTuple tu vals)(b:vals[i]?=some v)
  (q:∀h',h'.IsTupleIter it tu (i+1)->Heap.SameBut it s.heap h'->Q v { s with heap:=h' }):wpAny (model prog w) A (Builtin.SmallTypes.nextOf (.ref it)) Q E s:=by
 obtain⟨o,ho,d,hd⟩:=id hi;obtain⟨e,DL,_,k,a⟩:=c;unfold Builtin.SmallTypes.nextOf;refine dP (pQ (name:=Str.ofString "__next__") hi.typeIs X2 (mK X2 hi.typeIs ZAS ?_ (ZAR _)));show wpAny _ _ (field (.ref it) 0 >>= _) _ _ s;refine dP (ZAA ho hd (x:=.ref tu) rfl ?_);show wpAny _ _ (if(Value.ref tu == Value.none)=true then _ else _) _ _ s;rw[i3 (show ¬ ((Value.ref tu == Value.none)=true)from D1)]
 show wpAny _ _ (field (.ref it) 1 >>= _) _ _ s;refine dP (ZAA ho hd (x:=.int i 0) rfl ?_);show wpAny _ _ (seqItems? (.ref tu) >>= _) _ _ s;refine dP (wpAny_seqItems DL a ?_);simp only[GA,b];refine dP (uu ho hd (by simp) (hJ ⟨v,rfl,hJ (q _ ?_ (Fh ..))⟩));exact⟨_,IU _ ho (Rn (IY hd _)),(XU ..).trans d,by rw[IY hd];simp[rawInt]⟩
theorem cC{vals:Array Value}(hh:A.handled=none)(hi:s.heap.IsTupleIter it tu i)(d:s.heap.IsTuple tu vals)(c:vals[i]?=none)
  (q:∀h' e,Heap.ExtBut it s.heap h'->(∃o,h'.get? e=some o/\o.cls=.type "StopIteration")->E (.ref e) { s with heap:=h' }):wpAny (model prog w) A (Builtin.SmallTypes.nextOf (.ref it)) Q E s:=by
 obtain⟨o,ho,g,hd⟩:=id hi;obtain⟨f,DL,_,k,b⟩:=d;unfold Builtin.SmallTypes.nextOf;refine dP (pQ (name:=Str.ofString "__next__") hi.typeIs X2 (mK X2 hi.typeIs ZAS ?_ (ZAR _)));show wpAny _ _ (field (.ref it) 0 >>= _) _ _ s;refine dP (ZAA ho hd (x:=.ref tu) rfl ?_);show wpAny _ _ (if(Value.ref tu == Value.none)=true then _ else _) _ _ s;rw[i3 (show ¬ ((Value.ref tu == Value.none)=true)from D1)]
 show wpAny _ _ (field (.ref it) 1 >>= _) _ _ s;refine dP (ZAA ho hd (x:=.int i 0) rfl ?_);show wpAny _ _ (seqItems? (.ref tu) >>= _) _ _ s;refine dP (wpAny_seqItems DL b ?_);simp only[GA,c];refine dP (vb (dP (uu ho hd (by simp) ?_)));show wpAny _ _ (newExc (.type "StopIteration") [] >>= _) _ _ _;refine dP ?_;simp only[newExc,newTuple];refine dP (pP ?_ (by size_fits));refine dP (m:=firstArgMember _ _) (nD (a:=Value.none) (by first|rfl|(simp only[firstArgMember];rfl)) ?_);refine pP ?_ (by size_fits)
 simp only[raiseNew];refine dP (wpAny_handled ?_);first|rw[show A.in1.handled=none from hh]|rw[hh]
 refine dP (hJ (wpAny_throw ?_));exact q _ _ (((Fh ..).extBut.push _).push _) ⟨_,BP _ rfl,rfl⟩
theorem uU{e:Addr}{vals:Array Value}{j:Int}{Q:Option Value->Shared->Prop}(hh:A.handled=none)(a:IsEnum s.heap e it j old)(hi:s.heap.IsTupleIter it tu i)(d:s.heap.IsTuple tu vals)(c:vals[i]?=none)
  (q:∀h',Heap.ExtBut it s.heap h'->Q none { s with heap:=h' }):wpAny (model prog w) A (pyNext (.ref e)) Q E s:=by
 have ty:s.TypeIs (.ref e) "enumerate" := ⟨_,a,rfl⟩;unfold pyNext;refine dP (xj (pQ (name:=Str.ofString "__next__") ty F.slot_enumerate_next (mK F.slot_enumerate_next ty F.entry_enumerate_next ?_ (F.args_enumerate_next_1 _))));show wpAny _ _ (field (.ref e) 2 >>= _) _ _ _;refine dP (ZAA a rfl (x:=.ref it) rfl ?_);refine dP (cC (show A.in1.handled=none from hh) hi d c λh' x g hx=>?_)
 obtain⟨o,ho,f⟩:=hx;exact dP (tO (T:="StopIteration") (b:=true) ⟨o,ho,f⟩ ZBA (hJ (q _ g)))
end
theorem xJ(hh:A.handled=none)(it tu:Addr)(AV:tu≠it)(vals:Array Value):
  Draws prog w A it [it,tu] vals.size (λi v=>vals[i]?=some v) (λi h=>h.IsTupleIter it tu i/\h.IsTuple tu vals) where
 live:=λ_ _ st=>by obtain⟨o,ho,_⟩:=st.1;exact⟨o,ho⟩
 frame:=λ_ _ _ st hk=>by
  obtain⟨⟨o,ho,r⟩,c,DL,d⟩:=st;exact⟨⟨o,hk it (by simp) o ho,r⟩,c,hk tu (by simp) c DL,d⟩
 item:=λi s Q E hi st e=>vm st.1 st.2 (v:=vals[i]) (by simp[hi]) λh' a b=>e _ h' s.toks (by simp[hi]) ⟨a,st.2.extBut b.extBut AV⟩ b
 done:=λs Q E st f=>cC hh st.1 st.2 (by simp) f
end HT
namespace L2
variable{w:World}{es:List Expr}{k1:Nat}{p p1 pos:Pos}{t:TA}
section
variable{X:Cx}
noncomputable def eP(K:ZBx)(tp:Bool)(a:Addr)(xs:List V):It:=
 ⟨λi H=>CK K tp H a xs/\i<xs.length,λi H x H'=>∃p y,xs[i]?=some y/\x=.ref p/\H p=none/\H'=upd H p (.tup [.int i,y]),λi H=>CK K tp H a xs/\xs.length<=i⟩
theorem vJ{P:Program}{K:ZBx}(a e it:Addr)(xs:List V)(LQ:e≠it):
  Turn P w K (.Tuple es k1 p1) (eP K true a xs) [e,it] e (λi h=>(∃old,IsEnum h e it i old)/\h.IsTupleIter it a i) where
 mem:=by simp
 obj:=λi h st b f=>by
  obtain⟨⟨old,h1⟩,o,h2,_,d⟩:=st;rcases List.mem_cons.mp f with z|z
  .subst z;exact⟨_,h1,λv z=>by cases z⟩
  .have y:b=it:=by simpa using z
   subst y;exact⟨o,h2,λv z=>by rw[d]at z;cases z⟩
 keep:=λi h h' st k=>⟨let ⟨old,h1⟩:=st.1;⟨old,k e (by simp) _ h1⟩,let ⟨o,h2,r⟩:=st.2;⟨o,k it (by simp) o h2,r⟩⟩
 item:=by
  intro X D hw F C i Zq s Z H E I x st hg;subst D hw F;obtain⟨B,hi⟩:=hg;obtain⟨⟨old,g⟩,c⟩:=st;obtain⟨A0,m,j,hz⟩:=I.tuple B;obtain⟨u,S,N⟩:=m.get (AK hi);have σ:A0.toArray[i]?=some u:=by simpa using S
  have T:a<s.heap.objs.size:=j.lt;have U:a≠it:=by
   rintro rfl;obtain⟨o,t,O,_⟩:=c;obtain⟨Q,l,p,_⟩:=j;rw[t]at l;cases l;rw[O]at p;exact absurd p (by decide)
  have R:e≠a:=by
   rintro rfl;obtain⟨Q,l,p,_⟩:=j;have t:=g;unfold IsEnum at t;rw[t]at l;cases l;exact absurd (show Value.type "enumerate"=Value.type "tuple" from p) (by decide)
  have J:e<s.heap.objs.size:=AY g;refine wpAny_pyNext_enum_itemD (n:=A0.toArray.size) (HT.xJ (show X.A.in1.handled=none from I.ok.hd C) it a U A0.toArray) g ⟨c,j⟩ (by rw[Bn,<- m.length];exact hi) LQ (by simp[LQ,R]) λv h1 Sf pv HA M MI VS Uj=>⟨_,rfl,?_⟩;have W:v=u:=by rw[σ]at pv;exact(B3 pv).symm
  subst W;refine ZA7 HA λh2 Sh DY=>?_;have G:h2.get? s.heap.objs.size=some { cls:=.type "tuple", data:=.seq #[.int i Sf,v] }:=(DY.2 _ (EA J)).trans MI;have kp:∀b o,b∉[e,it]->s.heap.get? b=some o->h2.get? b=some o:=λb o f q=>by
   have y:b≠e/\b≠it:=by simpa using f
   exact(DY.2 b y.1).trans (Uj b o y.1 y.2 q)
  refine⟨.ref s.heap.objs.size,_,I.W4 (t':=Sf+1) (a:=s.heap.objs.size) (o:=.tup [.int i,xs[i]]) x kp (Aa _) ?_,rfl,⟨_,_,AK hi,rfl,I.AE.fresh (Aa _),rfl⟩,⟨⟨_,Sh⟩,?_⟩,λb f=>?_⟩
  .exact⟨(by show 2<=sizeLine;decide),[.int i Sf,v],.cons ⟨_,rfl⟩ (.cons N .nil),⟨_,G,rfl,_,rfl⟩,λob q=>by rw[G]at q;cases q;rfl⟩
  .obtain⟨o,q,r⟩:=M.1;exact⟨o,(DY.2 it (BM LQ)).trans q,r⟩
  .have y:b<s.heap.objs.size:=by
    rcases List.mem_cons.mp f with z|z
    .rw[z];exact J
    .have L:b=it:=by simpa using z
     obtain⟨o,q,_⟩:=c;rw[L];exact AY q
   rw[AS (Az y)];exact(x b f).1
 done:=by
  intro X D hw F C i Zq s Z H E I x st hg;subst D hw F;obtain⟨B,hx⟩:=hg;obtain⟨⟨old,g⟩,c⟩:=st;obtain⟨A0,m,j,hz⟩:=I.tuple B;have hl:=m.length;exact HT.uU (I.ok.hd C) g c j (by simp;omega) λh' Y=>⟨rfl,I.Wr (t':=s.toks) x λb o f q=>Y b o (λz=>f (by simp[z])) q⟩
 self:=λ_ _ _ _ _ st h=>let ⟨⟨_,g⟩,_⟩:=st;yK g h
def VQ(K:ZBx)(t:TA):TI:=λZ H R=>t Z H λvs H1=>∃a tp xs,vs=[.ref a]/\CK K tp H1 a xs/\R (eP K tp a xs) H1
theorem fq{l:Expr}(hg:Gl X "enumerate")(w:X.mg "enumerate"=none)(e:QA X [l] t)(v:starEach [l] X.env=[(false,eval l X.env)]:=by rfl):
  QI X (.Tuple es k1 p1) (.Call (.Name "enumerate" p) [l] [] pos) (VQ X.K t):=⟨by
 have e:=e.h;intro Zq s Z H R I h;refine v9 (K3 I hg w (show bootBuiltins "enumerate"=some (.type "enumerate") by decide +kernel) ?_ (by decide) (by decide));refine XW (e.k pos I h λus s1 vs H1 I1 n o=>?_) v rfl;obtain⟨a,tp,xs,rfl,f,q⟩:=o;obtain⟨u,rfl,j⟩:=vals1 n;cases j;have g:s1.heap.objs.size+1≠s1.heap.objs.size:=Nat.succ_ne_self _;have fp:∀b∈[s1.heap.objs.size+1,s1.heap.objs.size],EI X Zq H1 b:=λb x=>by
  have y:s1.heap.objs.size<=b:=by
   rcases List.mem_cons.mp x with z|z
   .rw[z];exact EL _
   .have i:b=s1.heap.objs.size:=by simpa using z
    rw[i];exact Aa _
  exact I1.N2 y (I1.AE.fresh y)
 cases tp with
 |false=>
  obtain⟨A0,m,p,hz⟩:=I1.list f;refine call_enumerate_list p.isList λh' d c hsz kp=>yK d ?_;exact⟨s1.heap.objs.size+1,[s1.heap.objs.size+1,s1.heap.objs.size],_,_,H1,rfl,I1.kept (t':=s1.toks) kp,oJ a _ _ xs g,⟨⟨_,d⟩,c⟩,fp,q⟩
 |true=>
  obtain⟨A0,m,r,hz⟩:=I1.tuple f;refine HT.vx r λh' d c hsz kp=>yK d ?_;exact⟨s1.heap.objs.size+1,[s1.heap.objs.size+1,s1.heap.objs.size],_,_,H1,rfl,I1.kept (t':=s1.toks) kp,vJ a _ _ xs g,⟨⟨_,d⟩,c⟩,fp,q⟩⟩
noncomputable def da(K:ZBx)(a b:Addr)(xs ys:List V):It:=
 ⟨λi H=>AG K H a xs/\AG K H b ys/\i<xs.length/\i<ys.length,λi H x H'=>∃p d c,xs[i]?=some d/\ys[i]?=some c/\x=.ref p/\H p=none/\H'=upd H p (.tup [d,c]),λi H=>AG K H a xs/\AG K H b ys/\(xs.length<=i∨ys.length<=i)⟩
theorem sD{P:Program}{K:ZBx}(a b z TI TO j g:Addr)(xs ys:List V)(D:ZipApart z TI TO j g a b):
  Turn P w K (.Tuple es k1 p1) (da K a b xs ys) [z,TI,TO,j,g] z (λi h=>(IsZip h z TI TO .none/\IsPair h TI (.ref j) (.ref g))/\(∃c d,IsPair h TO c d)/\h.IsListIter j a i/\h.IsListIter g b i) where
 mem:=by simp
 obj:=λi h st c l=>by
  obtain⟨⟨s1,s2⟩,⟨d,e,r⟩,⟨M,J,_,S⟩,L,G,_,R⟩:=st;simp only[DP,Aq,uB]at l;rcases l with rfl|rfl|rfl|rfl|rfl
  .exact⟨_,s1,λv y=>by cases y⟩
  .exact⟨_,s2,λv y=>by cases y⟩
  .exact⟨_,r,λv y=>by cases y⟩
  .exact⟨M,J,λv y=>by rw[S]at y;cases y⟩
  .exact⟨L,G,λv y=>by rw[R]at y;cases y⟩
 keep:=λi h h' st k=>⟨⟨k z (by simp) _ st.1.1,k TI (by simp) _ st.1.2⟩,let ⟨c,d,r⟩:=st.2.1;⟨c,d,k TO (by simp) _ r⟩,st.2.2.1.at λo q=>k j (by simp) o q,st.2.2.2.at λo q=>k g (by simp) o q⟩
 item:=by
  intro X u hw A l i Zq s Z H E I m st hg;subst u hw A;obtain⟨KD,Ni,B,EO⟩:=hg;obtain⟨⟨hz,Mj⟩,⟨c,d,QV⟩,M0,QQ⟩:=st;obtain⟨Q,LP,Ly,_⟩:=I.list KD;obtain⟨BW,M9,IM,_⟩:=I.list Ni;obtain⟨p,F,t⟩:=LP.get (AK B);obtain⟨n,MR,N⟩:=M9.get (AK EO);refine wpAny_pyNext_zip_item D hz Mj QV M0 QQ Ly.isList IM.isList (x:=p) (y:=n) (by simpa using F) (by simpa using MR) λh1 a1 a2 W U T σ hk=>⟨_,rfl,?_⟩
  refine wpAny_letOwnedTupleGo_zip a1 λh2 Gs DY=>?_;have lz:z<s.heap.objs.size:=AY hz;have up:∀b o,b≠z->h1.get? b=some o->h2.get? b=some o:=λb o f q=>(DY.2 b f).trans q;have C:IsPair h2 s.heap.objs.size p n:=up _ _ (EA lz) T;have kp:∀b o,b∉[z,TI,TO,j,g]->s.heap.get? b=some o->h2.get? b=some o:=λb o f q=>by
   simp only[DP,Aq,uB,not_or]at f;exact up b o f.1 (hk b o f.1 f.2.2.1 f.2.2.2.1 f.2.2.2.2 q)
  refine⟨.ref s.heap.objs.size,_,I.W4 (t':=s.toks) (a:=s.heap.objs.size) (o:=.tup [xs[i],ys[i]]) m kp (Aa _) ?_,rfl,⟨_,_,_,AK B,AK EO,rfl,I.AE.fresh (Aa _),rfl⟩,?_,λb f=>?_⟩
  .exact⟨(by show 2<=sizeLine;decide),[p,n],.cons t (.cons N .nil),⟨_,C,rfl,_,rfl⟩,λY q=>by rw[show h2.get? s.heap.objs.size=_ from C]at q;cases q;rfl⟩
  .exact⟨⟨Gs,up _ _ D.TIz (hk _ _ D.TIz D.TITO D.TIi1 D.TIi2 Mj)⟩,⟨_,_,up _ _ D.TOz a2⟩,W.at λo q=>up _ _ D.i1z q,U.at λo q=>up _ _ D.i2z q⟩
  .have y:b<s.heap.objs.size:=by
    simp only[DP,Aq,uB]at f;rcases f with rfl|rfl|rfl|rfl|rfl
    .exact lz
    .exact AY Mj
    .exact AY QV
    .obtain⟨o,q,_⟩:=M0;exact AY q
    .obtain⟨o,q,_⟩:=QQ;exact AY q
   rw[AS (Az y)];exact(m b f).1
 done:=by
  intro X u hw A l i Zq s Z H E I m st hg;subst u hw A;obtain⟨KD,Ni,hx⟩:=hg;obtain⟨⟨hz,Mj⟩,⟨c,d,QV⟩,M0,QQ⟩:=st;obtain⟨Q,LP,Ly,_⟩:=I.list KD;obtain⟨BW,M9,IM,_⟩:=I.list Ni;have l1:=LP.length;have l2:=M9.length;exact wpAny_pyNext_zip_end (I.ok.hd l) D hz Mj QV M0 QQ Ly.isList IM.isList (hx.imp (λh=>by simp;omega) (λh=>by simp;omega)) λh' O=>⟨rfl,I.Wr (t':=s.toks) m λb o f q=>by
   simp only[DP,Aq,uB,not_or]at f;exact O b o f.1 f.2.2.1 f.2.2.2.1 f.2.2.2.2 q⟩
 self:=λ_ _ _ _ _ st h=>wpAny_pyIter_zip st.1.1 h
def TR(K:ZBx)(t:TA):TI:=λZ H R=>t Z H λvs H1=>∃a b xs ys,vs=[.ref a,.ref b]/\AG K H1 a xs/\AG K H1 b ys/\R (da K a b xs ys) H1
theorem mf{l l2:Expr}(hg:Gl X "zip")(o:X.mg "zip"=none)(c:QA X [l,l2] t)(n:starEach [l,l2] X.env=(false,eval l X.env)::starEach [l2] X.env:=by rfl)(hp:(backTo pos (starEach [l2] X.env)).any (·.1)=false:=by rfl):
  QI X (.Tuple es k1 p1) (.Call (.Name "zip" p) [l,l2] [] pos) (TR X.K t):=⟨by
 have c:=c.h;intro Zq s Z H R I h;refine v9 (K3 I hg o (show bootBuiltins "zip"=some (.type "zip") by decide +kernel) ?_ (by decide) (by decide));refine XW (c.k pos I h λus s1 vs H1 I1 j m=>?_) n hp;obtain⟨a,b,xs,ys,rfl,KD,Ni,q⟩:=m;obtain⟨A,z,rfl,i,g⟩:=vals2 j;cases i;cases g;obtain⟨B,LP,Ly,_⟩:=I1.list KD;obtain⟨BW,M9,IM,_⟩:=I1.list Ni;have e1:a<s1.heap.objs.size:=by obtain⟨_,e,_⟩:=Ly.isList;exact AY e
 have r:b<s1.heap.objs.size:=by obtain⟨_,e,_⟩:=IM.isList;exact AY e
 refine call_zip_2 Ly.isList IM.isList λh' f x w v u hsz kp=>?_;refine wpAny_pyIter_zip f ?_;refine⟨_,[s1.heap.objs.size+4,s1.heap.objs.size+2,s1.heap.objs.size+3,s1.heap.objs.size,s1.heap.objs.size+1],_,_,H1,rfl,I1.kept (t':=s1.toks) kp,sD a b _ _ _ _ _ xs ys (zipApart_new e1 r),⟨⟨f,x⟩,⟨_,_,w⟩,v,u⟩,λb d=>?_,q⟩;have y:s1.heap.objs.size<=b:=by
  simp only[DP,Aq,uB]at d;rcases d with rfl|rfl|rfl|rfl|rfl
  .exact XQ _ 4
  .exact XQ _ 2
  .exact XQ _ 3
  .exact Aa _
  .exact XQ _ 1
 exact I1.N2 y (I1.AE.fresh y)⟩
variable{Zq:ZBy}{Z:St}{H:Hp}{s:Shared}
end
end L2
namespace MA
noncomputable def Ma:Nat->Nat->List Nat
 | 0,n=>[97+n]
 |k+1,n=>if n<26 then[97+n]else(97+n % 26)::Ma k (n / 26)
theorem Jk:∀(k:Nat){n:Nat},n<26->Ma k n=[97+n]
 | 0,_,_=>rfl
 |_+1,_,h=>i5 h
theorem dq:∀(k j n:Nat),n<=k->n<=j->Ma k n=Ma j n
 | 0,j,n,h,_=>by rw[Jk 0 (Jg h (by decide)),Jk j (Jg h (by decide))]
 |k+1,0,n,_,h=>by rw[Jk (k+1) (Jg h (by decide)),Jk 0 (Jg h (by decide))]
 |k+1,j+1,n,h1,h2=>by
  by_cases c:n<26
  .rw[Jk _ c,Jk _ c]
  .have d:n / 26<n:=Nat.div_lt_self (CG (by decide) (L3 c)) (by decide);show(if n<26 then _ else _)=(if n<26 then _ else _)
   rw[i3 c,i3 c,dq k j (n / 26) (OJ (CG d h1)) (OJ (CG d h2))]
def lets(n:Nat):List Nat:=Ma n n
noncomputable def vals:List Nat->Nat
 | []=>0
 |c::r=>(c - 97)+26 * vals r
theorem M8{n:Nat}(h:n<26):lets n=[97+n]:=Jk n h
theorem MT{n:Nat}(h:¬ n<26):lets n=(97+n % 26)::lets (n / 26):=by
 cases n with
 |zero=>exact absurd (by decide) h
 |succ k=>
  have d:(k+1) / 26<k+1:=Nat.div_lt_self (gb k) (by decide);show(if k+1<26 then _ else _)=_
  rw[i3 h,dq k ((k+1) / 26) ((k+1) / 26) (OJ d) (Aa _)];rfl
theorem Zb:∀n,vals (lets n)=n:=by
 intro n
 induction n using Nat.strongRecOn with
 |_ n a=>
  by_cases h:n<26
  .rw[M8 h];simp[vals]
  .rw[MT h];have:=a (n / 26) (by omega);simp only[vals,this];omega
theorem sy{a b:Nat}(h:lets a=lets b):a=b:=by rw[<- Zb a,h,Zb]
theorem Uw(n:Nat):1<=(lets n).length:=by
 by_cases h:n<26
 .rw[M8 h];simp
 .rw[MT h];simp
theorem Pr:∀(k n:Nat),n<26 ^ (k+1)->(lets n).length<=k+1
 | 0,n,h=>by rw[M8 (by simpa using h)];simp
 |k+1,n,h=>by
  by_cases h1:n<26
  .rw[M8 h1];simp
  .rw[MT h1];have:=Pr k (n / 26) (by rw[Nat.pow_succ]at h;exact Nat.div_lt_of_lt_mul (by rw[Nat.mul_comm];exact h));simp only[BA];omega
theorem sY:∀n,∀c∈lets n,97<=c/\c<=122:=by
 intro n
 induction n using Nat.strongRecOn with
 |_ n b=>
  by_cases h:n<26
  .rw[M8 h];intro c a;simp at a;omega
  .rw[MT h];intro c a;rcases List.mem_cons.mp a with e|e
   .omega
   .exact b (n / 26) (by omega) c e
theorem fE{α:Type}[DecidableEq α]:∀(k:Nat)(f:Nat->α)(l:List α),(∀i j,i<k->j<k->f i=f j->i=j)->(∀i,i<k->f i∈l)->k<=l.length
 | 0,_,_,_,_=>Bo _
 |k+1,f,l,hi,hm=>by
  have h1:=hm k (MQ k);have:=fE k f (l.erase (f k)) (λi j a b e=>hi i j (by omega) (by omega) e) (λi a=>by
   have c:f i≠f k:=λe=>by have:=hi i k (by omega) (by omega) e;omega
   exact(Rc c).mpr (hm i (by omega)))
  rw[MN h1]at this;have d:=XG h1;omega
end MA
namespace Lw
open L2
variable{a l p:Addr}{H H' H2:Hp}{xs:List V}{o:HO}{α:Type}{n:Nat}{i j r:Int}{ns ss:List Str}
def BV(H:Hp)(p:Addr):Prop:=∃a b:Int,H p=some (.lst [.int a,.int b])/\0<=a/\a<10 ^ 256/\0<=b/\b<2147483647
structure B4 (p:Addr) (H H':Hp):Prop where
 AH:BV H' p
 same:G5 p H H'
theorem B4.trans{H1:Hp}(a:B4 p H H1)(b:B4 p H1 H2):B4 p H H2:=⟨b.AH,a.same.trans b.same⟩
theorem B4.of(h:BV H p)(s:AD H H'):B4 p H H':=by
 obtain⟨a,b,e,r⟩:=h;exact⟨⟨a,b,s _ _ e,r⟩,G5.of s⟩
theorem B4.Ml{K:ZBx}(s:B4 p H H')(h:AG K H a xs)(AV:a≠p):AG K H' a xs:=by
 rcases h with(h|⟨o,h⟩)|h
 .exact .inl (.inl (s.same _ _ AV h))
 .exact .inl (.inr ⟨o,s.same _ _ AV h⟩)
 .exact .inr h
theorem B4.at'(s:B4 p H H')(h:H a=some o)(AV:a≠p):H' a=some o:=s.same _ _ AV h
theorem Lv{a:Int}(c:-(10 ^ 20)<a)(h1:a<10 ^ 20):a.natAbs<2 ^ 1000:=by
 have b:a.natAbs<10 ^ 20:=by omega
 exact XR b (by decide +kernel)
def Va(K:ZBx):Sp:=λvs H Q _=>∃(a:Addr)(ns:List Int)(k:Int),vs=[.ref a,.int k]/\AG K H a (ns.map V.int)/\0<=k/\k<=1000/\∀p H',H p=none->AD H H'->BV H' p->Q (.ref p) H'
def ME:Sp:=λvs H Q _=>∃(p:Addr)(m:Int),vs=[.ref p,.int m]/\BV H p/\0<m/\m<10 ^ 18/\∀r H',0<=r->r<m->B4 p H H'->Q (.int r) H'
noncomputable def Cw(l:List Nat):Str:=⟨l.toArray⟩
def eS:Sp:=λvs H Q _=>∃r:Int,vs=[.int r]/\0<=r/\r<26 ^ 8/\∀H',AD H H'->Q (.str (Cw (MA.lets r.toNat))) H'
theorem R3{xs:List α}{k:Int}{v:α}(b:0<=k)(h:xs[k.toNat]?=some v):BR xs k=some v:=by
 have a:k=((k.toNat:Nat):Int):=by omega
 have q:=EE h;rw[<- a]at q;exact q
noncomputable abbrev fW:Str:="abcdefghijklmnopqrstuvwxyz"
theorem jY:∀j,j<26->fW.cps.toList[j]?=some (97+j):=by decide +kernel
theorem ay{k:Int}(a:0<=k)(h1:k<26):BR fW.cps.toList k=some (97+k.toNat):=R3 a (jY _ (by omega))
theorem Zm(l:List Nat)(c:Nat):Cw l++(⟨#[c]⟩:Str)=Cw (l++[c]):=by
 show(⟨l.toArray++#[c]⟩:Str)=⟨(l++[c]).toArray⟩;simp
theorem Ob(l:List Nat):(Cw l).length=l.length:=by simp[Cw,Str.length]
theorem Y0{l:List Nat}:(V.str (Cw l)=V.str (Str.ofString ""))↔l=[]:=by
 constructor
 .intro h;injection h with h
  have h2:=ib (λx=>x.cps.toList) h;have e:(Str.ofString "").cps.toList=[]:=by decide +kernel
  rw[e]at h2
  simpa[Cw]using h2
 .rintro rfl;rfl
theorem small(h:n<=100000):n<=sizeLine:=CQ h (by decide +kernel)
theorem cV{k:Nat}{pre:List Nat}(h:pre++MA.lets k=MA.lets n):(0<k / 26->(pre++[97+k % 26])++MA.lets (k / 26)=MA.lets n)/\(k / 26=0->pre++[97+k % 26]=MA.lets n):=by
 constructor
 .intro h1;rw[MA.MT (by omega)]at h;rw[<- h,Bh];rfl
 .intro h1;have h2:k<26:=by omega
  rw[MA.M8 h2]at h;rw[<- h,Nat.mod_eq_of_lt h2]
def Nm(x:Str):Prop:=1<=x.length/\x.length<=8/\∀c∈x.cps.toList,97<=c/\c<=122
instance (x:Str):Decidable (Nm x):=by unfold Nm;exact inferInstance
theorem HZ(x:Str):x.length=x.cps.toList.length:=by simp[Str.length]
theorem Ut(h:n<26 ^ 8):Nm (Cw (MA.lets n)):=by
 refine⟨by rw[Ob];exact MA.Uw n,by rw[Ob];exact MA.Pr 7 n h,λc a=>MA.sY n c (by simpa[Cw]using a)⟩
noncomputable def menu:List Str:=["put","take","none","ahead","all","over","next","a","ab","abc","abcdefgh","b","step"]
theorem vQ:∀x∈menu,Nm x:=by decide +kernel
noncomputable def Oq:List V:=[.str "put",.str "take",.str "none",.str "ahead",.str "all",.str "over",.str "next",.str "a",.str "ab",.str "abc",.str "abcdefgh",.str "b",.str "step"]
theorem l7(a:0<=i)(h1:i<13):∃x,BR Oq i=some (.str x)/\Nm x:=by
 have b:menu.length=13:=rfl;have hi:i.toNat<menu.length:=by omega
 have e:Oq=menu.map V.str:=rfl;refine⟨menu[i.toNat],R3 a ?_,vQ _ (Fi hi)⟩;rw[e,AO,AK hi];rfl
theorem UG(a:0<=i)(h1:i<ns.length):∃x,BR (ns.map V.str) i=some (.str x)/\x∈ns/\ns[i.toNat]?=some x:=by
 have hi:i.toNat<ns.length:=by omega
 exact⟨ns[i.toNat],R3 a (by rw[AO,AK hi];rfl),Fi hi,AK hi⟩
theorem Hi(ns:List Str):(ns.map V.str).all EJ=true:=by
 rw[HU];intro x hx;obtain⟨y,_,rfl⟩:=List.mem_map.mp hx;rfl
theorem Qn(x:Str)(ns:List Str):JG (.str x) (ns.map V.str)=decide (x∈ns):=by
 unfold JG;rw[HQ,L0,vX];constructor
 .rintro⟨v,b,h⟩;obtain⟨y,a,rfl⟩:=List.mem_map.mp b;have h':(y == x)=true:=h;have:y=x:=by simpa using h'
  rw[<- this];exact a
 .intro h;exact⟨.str x,List.mem_map.mpr ⟨x,h,rfl⟩,by show(x == x)=true;simp⟩
theorem cu(xs:List V):Ez xs []=decide (xs=[]):=by
 cases xs with
 |nil=>rfl
 |cons x r=>rw[Jl (by simp)];simp
theorem vY{x y:Str}(h:x.cps.toList=y.cps.toList):x=y:=by
 cases x;cases y;simp only[Str.mk.injEq];exact Array.toList_inj.mp h
theorem z7(z:Str){a b:Nat}{lo hi:Option Int}(Bt:a<=b)(c:b<=z.length)(e:Builtin.Str.strSliceIndices lo hi 1 z.length=Builtin.Str.strSliceIndices (some (a:Int)) (some (b:Int)) 1 z.length):
  (Txt.slice z lo hi).cps.toList=(z.cps.toList.drop a).take (b - a):=by
 have q:=StrLaws.sliced_plain z Bt c;rw[<- e]at q;unfold Txt.slice;split
 .rename_i h;have d:(Builtin.Str.strSliceIndices lo hi 1 z.length).length=z.length:=by simpa using h
  rw[e,StrLaws.strSliceIndices_plain Bt c,AA,D2]at d;have h1:a=0:=by omega
  have h2:b=z.length:=by omega
  subst h1;subst h2;rw[List.drop_zero,Nat.sub_zero,HZ,Eg]
 .rw[<- q]
theorem tZ(h:0<=j):max (0:Int) (min j (n:Int))=max 0 (min ((min j.toNat n:Nat):Int) (n:Int)):=by
 have e:((min j.toNat n:Nat):Int)=min j n:=by
  rcases gX j.toNat n with c|c
  .rw[gY c,X7 h,Int.min_eq_left (by have:=Int.ofNat_le.mpr c;rw[X7 h]at this;exact this)]
  .rw[gZ c,Int.min_eq_right (by have:=Int.ofNat_le.mpr c;rw[X7 h]at this;exact this)]
 rw[e,Int.min_assoc,Int.min_self]
theorem t7(z:Str)(h:0<=j):(Txt.slice z none (some j)).cps.toList=z.cps.toList.take j.toNat:=by
 have e:=z7 z (a:=0) (b:=min j.toNat z.length) (lo:=none) (hi:=some j) (Bo _) (Nat.min_le_right _ _) (by
  have h1:¬ j<0:=by omega
  have h2:¬ (((min j.toNat z.length:Nat):Int)<0):=Int.not_lt.mpr (X6 _);have c:max (0:Int) (min j (z.length:Int))=max 0 (min ((min j.toNat z.length:Nat):Int) (z.length:Int)):=tZ h;simp only[Builtin.Str.strSliceIndices,h1,h2,ZBE,c];rfl)
 rw[e,List.drop_zero,Nat.sub_zero];rcases gX j.toNat z.length with h1|h1
 .rw[gY h1]
 .rw[gZ h1,HZ,Eg,XN (by rw[<- HZ];exact h1)]
theorem fL{z:Str}(h:1<=j)(b:j<=8)(hz:1<=z.length)(a:∀c∈z.cps.toList,97<=c/\c<=122):Nm (Txt.slice z none (some j)):=by
 have e:=t7 z (j:=j) (by omega);refine⟨?_,?_,λc Ep=>a c ?_⟩
 .rw[HZ,e,GC,<- HZ];omega
 .rw[HZ,e,GC];omega
 .rw[e]at Ep;exact gO Ep
theorem fQ(x y:Str):(x++y).cps.toList=x.cps.toList++y.cps.toList:=by
 show(x.cps++y.cps).toList=_;simp
theorem Ym(x y:Str):(x++y).length=x.length+y.length:=by rw[HZ,fQ,BX,<- HZ,<- HZ]
def XZ(K:ZBx):Sp:=λvs H Q _=>∃(p q:Addr)(ns:List Str),vs=[.ref p,.ref q]/\BV H p/\H q=some (.lst (ns.map V.str))/\q≠p/\(∀x∈ns,Nm x)/\ns.length<=1000/\∀x H',Nm x->x∉ns->B4 p H H'->Q (.str x) H'
theorem jE{k:Nat}(h:∀j,j<k->Cw (MA.lets j)∈ns):k<=ns.length:=
 MA.fE k (λj=>Cw (MA.lets j)) ns (λi j _ _ e=>MA.sy (by
  have:=ib (λx=>x.cps.toList) e
  simpa[Cw]using this)) h
theorem wo:1000<26 ^ 8:=by decide +kernel
theorem tI:(1000:Int)<26 ^ 8:=by decide +kernel
theorem mN:(26:Int) ^ (8:Int).toNat - 26<26 ^ 8:=by decide +kernel
theorem jk:(26:Int)<26 ^ 8:=by decide +kernel
theorem mh:(0:Int)<26 ^ (8:Int).toNat - 26:=by decide +kernel
theorem y0:(26:Int) ^ (8:Int).toNat - 26<10 ^ 18:=by decide +kernel
theorem Zw(a:0<=r)(h:r<26 ^ 8):r.toNat<26 ^ 8:=by omega
theorem B4.upd(s:B4 p H H2)(h:H l=none)(AV:l≠p):B4 p H (upd H2 l o):=by
 obtain⟨a,b,e,r⟩:=s.AH;refine⟨⟨a,b,by rw[AS (BM AV)];exact e,r⟩,λc u d q=>?_⟩;rw[AS (DV q h)];exact s.same c u d q
theorem B4.none(s:B4 p H H2)(h:H2 l=none):H l=none:=by
 cases q:H l with
 |none=>rfl
 |some o=>
  by_cases e:l=p
  .obtain⟨a,b,c,_⟩:=s.AH;rw[<- e,h]at c;cases c
  .rw[s.same l o e q]at h;cases h
theorem BV.ne(h:BV H p)(a:H l=none):l≠p:=by
 obtain⟨_,_,e,_⟩:=h;exact(DV e a).symm
theorem AD.none(s:AD H H2)(h:H2 l=none):H l=none:=by
 cases q:H l with
 |none=>rfl
 |some o=>rw[s l o q]at h;cases h
def fj:Sp:=λvs H Q _=>∃(p:Addr)(m:Int),vs=[.ref p,.int m]/\BV H p/\0<=m/\m<=100/\
 ∀l H'(ns:List Str),H l=none->B4 p H H'->H' l=some (.lst (ns.map V.str))->(ns.length:Int)=m->(∀x∈ns,Nm x)->ns.Nodup->Q (.ref l) H'
def UN:Sp:=λvs H Q _=>∃(p:Addr)(m:Int),vs=[.ref p,.int m]/\BV H p/\1<=m/\m<=100/\
 ∀l H'(ns:List Str),H l=none->B4 p H H'->H' l=some (.lst (ns.map V.str))->(ns.length:Int)<=m->(∀x∈ns,Nm x)->ns.Nodup->Q (.ref l) H'
theorem Vc{l:List α}{x:α}(h:l.Nodup)(hx:x∉l):(l++[x]).Nodup:=by
 rw[Dg];exact⟨h,by simp,λa d b c=>by
  have:b=x:=by simpa using c
  subst this;rintro rfl;exact hx d⟩
theorem nq{m:Int}(b:0<=j)(h1:j<3)(a:1<=m):∃k:Int,BR [V.int 0,V.int 1,V.int m] j=some (.int k)/\0<=k/\k<=m:=by
 have:j=0∨j=1∨j=2:=by omega
 rcases this with rfl|rfl|rfl
 .exact⟨0,rfl,by omega,by omega⟩
 .exact⟨1,rfl,by omega,by omega⟩
 .exact⟨m,rfl,by omega,by omega⟩
theorem wx(l:List α):l.filter (λ_=>true)=l:=List.filter_eq_self.mpr λ_ _=>rfl
theorem all_map(f:α->Bool)(l:List α):(l.map f).all id=l.all f:=by rw[List.all_map];rfl
theorem jP{i:Nat}{v:V}(h:(ss.map V.str)[i]?=some v):∃x,v=.str x/\x∈ss:=by
 rw[AO]at h;cases q:ss[i]? with
 |none=>rw[q]at h;cases h
 |some x=>rw[q]at h;simp at h;exact⟨x,h.symm,BB q⟩
theorem nM(xs:List Str):Ez (xs.map V.str) (xs.map V.str)=true:=by
 rw[KO rfl,HU];intro j a;have b:j<xs.length:=by simpa using a
 have e:(xs.map V.str)[j]?=some (.str xs[j]):=by rw[AO,AK b];rfl
 rw[J9 e];show(xs[j] == xs[j])=true;simp
theorem M4(K:ZBx)(t:String):PySem.W.kitOne K (.type t) (.type t)=some true:=by
 unfold PySem.W.kitOne;rw[i5 (by simp)]
def yd(K:ZBx):Sp:=λvs H Q _=>∃(a:Addr)(ns:List Int),vs=[.ref a]/\AG K H a (ns.map V.int)/\ns.length<=63/\∀H',Q (.bl true) H'
noncomputable def DJ(tp:Bool)(xs:List V):HO:=match tp with
 |false=>.lst xs
 |true=>.tup xs
theorem DJ.sq{K:ZBx}{tp:Bool}(h:H a=some (DJ tp xs)):CK K tp H a xs:=by
 cases tp
 .exact AG.of h
 .exact Ab.of h
theorem IF{c A B:Prop}[Decidable c](h:¬ c)(b:B):if c then A else B:=by rw[i3 h];exact b
theorem RF(ns:List Str):(ns.map V.str).length=ns.length:=AA _
theorem iH(K:ZBx):PySem.W.kitOne K (.type "int") (.type "bool")=some false:=by
 unfold PySem.W.kitOne;rw[i3 (by decide)];with_unfolding_all rfl
end Lw
namespace Fz
open L2 Lw
variable{F F' H H':Hp}{v:V}{C3 vs:List V}{i i0 j:Nat}{t:TA}{a l:Addr}{r:List V->Hp->VK->Prop}{Z τ:L2.St}{o:HO}{ta tc te:TE}{tb u:TS}{b neg tp:Bool}{A:List Addr}{α:Type}{Q:VK}{f:Int->Int->Bool}{g:TG}{n:String}{c tt:TT}{wi:TI}{X:XK}
inductive PV where
 |A6|bl (b:Bool)|int (i:Int)|str (x:Str)|lst (xs:List PV)|tup (xs:List PV)
 |As (ks:List Key) (xs:List PV)|obj (C:Addr) (ns:List Str) (xs:List PV)|exc (C:Addr) (ns:List Str) (xs:List PV)|con (a:Addr) (xs:List PV)
variable{p:PV}{ps xs:List PV}
noncomputable def RM(a C:Addr)(dx:Option Addr):HO:=.ext λh=>∃b vs,h.get? a=some b/\b.cls=.ref C/\b.dict=dx/\b.data=.fields vs
mutual
inductive Rep (F:Hp):V->PV->Prop where
 |A6:Rep F .A6 .A6
 |bl (b:Bool):Rep F (.bl b) (.bl b)
 |int (i:Int):Rep F (.int i) (.int i)
 |str (x:Str):Rep F (.str x) (.str x)
 |lst {a:Addr}{vs:List V}{xs:List PV}:F a=some (.lst vs)->AF F vs xs->Rep F (.ref a) (.lst xs)
 |tup {a:Addr}{vs:List V}{xs:List PV}:F a=some (.tup vs)->AF F vs xs->Rep F (.ref a) (.tup xs)
 |As {a:Addr}{ks:List Key}{vs:List V}{xs:List PV}:F a=some (.dK (ks.zip vs))->ks.length=vs.length->AF F vs xs->Rep F (.ref a) (.As ks xs)
 |obj {a C dx:Addr}{ns:List Str}{vs:List V}{xs:List PV}:F a=some (.ins C dx (ns.zip vs))->F dx=some (.own a)->ns.length=vs.length->AF F vs xs->Rep F (.ref a) (.obj C ns xs)
 |con {a:Addr}{xs:List PV}:Rep F (.ref a) (.con a xs)
 |QR {a C:Addr}:F a=some (RM a C none)->Rep F (.ref a) (.exc C [] [])
 |exc {a C dx:Addr}{ns:List Str}{vs:List V}{xs:List PV}:F a=some (RM a C (some dx))->F dx=some (.xd (ns.zip vs))->ns.length=vs.length->AF F vs xs->Rep F (.ref a) (.exc C ns xs)
inductive AF (F:Hp):List V->List PV->Prop where
 |nil:AF F [] []
 |cons {v:V}{p:PV}{vs:List V}{ps:List PV}:Rep F v p->AF F vs ps->AF F (v::vs) (p::ps)
end
theorem Rep.mono(s:AD F F')(r:Rep F v p):Rep F' v p:=
 Rep.rec (motive_1:=λv p _=>Rep F' v p) (motive_2:=λvs ps _=>AF F' vs ps) .A6 .bl .int .str (λh _ i=>.lst (s _ _ h) i) (λh _ i=>.tup (s _ _ h) i) (λh e _ i=>.As (s _ _ h) e i) (λh h2 e _ i=>.obj (s _ _ h) (s _ _ h2) e i) .con (λh=>.QR (s _ _ h)) (λh h2 e _ i=>.exc (s _ _ h) (s _ _ h2) e i) .nil (λ_ _ i k=>.cons i k) r
def we(F:Hp)(v:V):PV->Prop
 | .A6=>v=.A6
 | .bl b=>v=.bl b
 | .int i=>v=.int i
 | .str x=>v=.str x
 | .lst xs=>∃a vs,v=.ref a/\F a=some (.lst vs)/\AF F vs xs
 | .tup xs=>∃a vs,v=.ref a/\F a=some (.tup vs)/\AF F vs xs
 | .As ks xs=>∃a vs,v=.ref a/\F a=some (.dK (ks.zip vs))/\ks.length=vs.length/\AF F vs xs
 | .obj C ns xs=>∃a dx vs,v=.ref a/\F a=some (.ins C dx (ns.zip vs))/\F dx=some (.own a)/\ns.length=vs.length/\AF F vs xs
 | .con a _=>v=.ref a
 | .exc C ns xs=>(∃a,v=.ref a/\F a=some (RM a C none)/\ns=[]/\xs=[])∨∃a dx vs,v=.ref a/\F a=some (RM a C (some dx))/\F dx=some (.xd (ns.zip vs))/\ns.length=vs.length/\AF F vs xs
theorem Rep.inv(r:Rep F v p):we F v p:=by
 cases r with
 |lst h r=>exact⟨_,_,rfl,h,r⟩
 |tup h r=>exact⟨_,_,rfl,h,r⟩
 |As h l r=>exact⟨_,_,rfl,h,l,r⟩
 |obj h h2 l r=>exact⟨_,_,_,rfl,h,h2,l,r⟩
 |QR h=>exact .inl ⟨_,rfl,h,rfl,rfl⟩
 |exc h h2 l r=>exact .inr ⟨_,_,_,rfl,h,h2,l,r⟩
 |_=>exact rfl
theorem AF.inv(r:AF F vs (p::ps)):∃v ws,vs=v::ws/\Rep F v p/\AF F ws ps:=by
 cases r with
 |cons r t=>exact⟨_,_,rfl,r,t⟩
theorem AF.D0(r:AF F vs []):vs=[]:=by
 cases r;rfl
theorem AF.mono(s:AD F F')(r:AF F vs ps):AF F' vs ps:=by
 induction ps generalizing vs with
 |nil=>cases r.D0;exact .nil
 |cons p ps c=>obtain⟨v,ws,rfl,a,b⟩:=r.inv;exact .cons (a.mono s) (c b)
theorem AF.length{F:Hp}{vs:List V}{ps:List PV}(r:AF F vs ps):vs.length=ps.length:=by
 induction ps generalizing vs with
 |nil=>cases r.D0;rfl
 |cons p ps c=>obtain⟨v,ws,rfl,a,b⟩:=r.inv;exact ib (· + 1) (c b)
theorem AF.get{F:Hp}{vs:List V}{ps:List PV}{i:Nat}{p:PV}(r:AF F vs ps)(e:ps[i]?=some p):∃v,vs[i]?=some v/\Rep F v p:=by
 induction ps generalizing vs i with
 |nil=>cases e
 |cons q ps c=>
  obtain⟨v,ws,rfl,a,b⟩:=r.inv;cases i with
  |zero=>cases e;exact⟨_,rfl,a⟩
  |succ i=>exact c (vs:=ws) (i:=i) b e
theorem AF.get'(r:AF F vs ps)(e:vs[i]?=some v):∃p,ps[i]?=some p/\Rep F v p:=by
 induction ps generalizing vs i with
 |nil=>cases r.D0;cases e
 |cons q ps c=>
  obtain⟨u,ws,rfl,a,b⟩:=r.inv;cases i with
  |zero=>cases e;exact⟨_,rfl,a⟩
  |succ i=>exact c (vs:=ws) (i:=i) b e
theorem AF.append{ws:List V}{c:List PV}(r:AF F vs ps)(s:AF F ws c):AF F (vs++ws) (ps++c):=by
 induction ps generalizing vs with
 |nil=>cases r.D0;exact s
 |cons p ps d=>obtain⟨v,us,rfl,a,b⟩:=r.inv;exact .cons a (d b)
theorem AF.take(n:Nat)(r:AF F vs ps):AF F (vs.take n) (ps.take n):=by
 induction ps generalizing vs n with
 |nil=>cases r.D0;rw[List.take_nil,List.take_nil];exact .nil
 |cons p ps c=>
  obtain⟨v,us,rfl,a,b⟩:=r.inv;cases n with
  |zero=>exact .nil
  |succ n=>exact .cons a (c n b)
theorem AF.drop(n:Nat)(r:AF F vs ps):AF F (vs.drop n) (ps.drop n):=by
 induction ps generalizing vs n with
 |nil=>cases r.D0;rw[List.drop_nil,List.drop_nil];exact .nil
 |cons p ps c=>
  cases n with
  |zero=>exact r
  |succ n=>obtain⟨v,us,rfl,a,b⟩:=r.inv;exact c n b
theorem AF.one{F:Hp}{v:V}{p:PV}(r:Rep F v p):AF F [v] [p]:=.cons r .nil
noncomputable def flat:PV->Bool
 | .lst _=>false
 | .tup _=>false
 | .As _ _=>false
 | .obj _ _ _=>false
 | .exc _ _ _=>false
 | .con _ _=>false
 |_=>true
noncomputable def enc:PV->V
 | .bl b=>.bl b
 | .int i=>.int i
 | .str x=>.str x
 |_=>.A6
theorem Rep.enc(h:flat p=true)(r:Rep F v p):v=enc p:=by
 cases r <;> first|rfl|cases h
theorem z5(h:flat p=true):Rep F (enc p) p:=by
 cases p with
 |A6=>exact .A6
 |bl b=>exact .bl b
 |int i=>exact .int i
 |str x=>exact .str x
 |lst xs=>cases h
 |tup xs=>cases h
 |As ks xs=>cases h
 |obj C ns xs=>cases h
 |exc C ns xs=>cases h
 |con a xs=>cases h
theorem AF.enc(h:ps.all flat=true)(r:AF F vs ps):vs=ps.map enc:=by
 induction ps generalizing vs with
 |nil=>exact r.D0
 |cons p ps c=>
  obtain⟨v,us,rfl,a,b⟩:=r.inv;rw[RT,Cq]at h;rw[E9,<- Rep.enc h.1 a,<- c h.2 b]
theorem VB(h:ps.all flat=true):AF F (ps.map enc) ps:=by
 induction ps with
 |nil=>exact .nil
 |cons p r a=>
  rw[RT,Cq]at h;exact .cons (z5 h.1) (a h.2)
theorem Q4(h:flat p=true):EJ (Fz.enc p)=true:=by cases p <;> first|rfl|cases h
theorem Z6(ns:List Str):(ns.map PV.str).all flat=true:=by
 rw[HU];intro x hx;obtain⟨y,_,rfl⟩:=List.mem_map.mp hx;rfl
theorem cX(ns:List Int):(ns.map PV.int).all flat=true:=by
 rw[HU];intro x hx;obtain⟨y,_,rfl⟩:=List.mem_map.mp hx;rfl
theorem wX(ns:List Bool):(ns.map PV.bl).all flat=true:=by
 rw[HU];intro x hx;obtain⟨y,_,rfl⟩:=List.mem_map.mp hx;rfl
theorem YH(ns:List Str):(ns.map PV.str).map Fz.enc=ns.map V.str:=by rw[Ce];rfl
theorem rY(ns:List Bool):(ns.map PV.bl).map Fz.enc=ns.map V.bl:=by rw[Ce];rfl
theorem ZC(ns:List Int):(ns.map PV.int).map Fz.enc=ns.map V.int:=by rw[Ce];rfl
theorem AF.strs{ns:List Str}(r:AF F vs (ns.map PV.str)):vs=ns.map V.str:=(r.enc (Z6 ns)).trans (YH ns)
theorem UR(ns:List Str):AF F (ns.map V.str) (ns.map PV.str):=by rw[<- YH];exact VB (Z6 ns)
theorem AF.dU{ns:List Bool}(r:AF F vs (ns.map PV.bl)):vs=ns.map V.bl:=(r.enc (wX ns)).trans (rY ns)
theorem AF.ints{ns:List Int}(r:AF F vs (ns.map PV.int)):vs=ns.map V.int:=(r.enc (cX ns)).trans (ZC ns)
inductive NK where
 |lst|As (ks:List Key)|obj (C dx:Addr) (ns:List Str)|Pa (ks:List (List Key))
noncomputable def NK.ho:NK->List V->HO
 | .lst,vs=>.lst vs
 | .As ks,vs=>.dK (ks.zip vs)
 | .obj C dx ns,vs=>.ins C dx (ns.zip vs)
 | .Pa ks,vs=>.dT (ks.zip vs)
noncomputable def NK.more:NK->List Addr
 | .obj _ dx _=>[dx]
 |_=>[]
def NK.side(k:NK)(a:Addr)(H:Hp):Prop:=match k with
 | .obj _ dx _=>H dx=some (.own a)
 |_=>True
def NK.fit(k:NK)(n:Nat):Prop:=match k with
 | .As ks=>ks.length=n
 | .obj _ _ ns=>ns.length=n
 | .Pa ks=>ks.length=n
 |_=>True
inductive OV where
 |fz (p:PV)
 |tp (xs:List OV)
 |nd (k:NK) (a:Addr) (xs:List OV)
variable{ts:List OV}
mutual
def OV.addrs:OV->List Addr
 | .fz _=>[]
 | .tp xs=>OV.Ai xs
 | .nd k a xs=>a::(k.more++OV.Ai xs)
def OV.Ai:List OV->List Addr
 | []=>[]
 |x::r=>x.addrs++OV.Ai r
end
mutual
def OV.pv:OV->PV
 | .fz p=>p
 | .tp xs=>.tup (OV.EH xs)
 | .nd .lst _ xs=>.lst (OV.EH xs)
 | .nd (.As ks) _ xs=>.As ks (OV.EH xs)
 | .nd (.obj C _ ns) _ xs=>.obj C ns (OV.EH xs)
 | .nd (.Pa _) a _=>.con a []
def OV.EH:List OV->List PV
 | []=>[]
 |x::r=>x.pv::OV.EH r
end
mutual
inductive Af (F H:Hp):V->OV->Prop where
 |fz {v:V}{p:PV}:Rep F v p->Af F H v (.fz p)
 |tp {a:Addr}{vs:List V}{xs:List OV}:F a=some (.tup vs)->Au F H vs xs->Af F H (.ref a) (.tp xs)
 |nd {k:NK}{a:Addr}{vs:List V}{xs:List OV}:H a=some (k.ho vs)->k.side a H->k.fit vs.length->Au F H vs xs->Af F H (.ref a) (.nd k a xs)
inductive Au (F H:Hp):List V->List OV->Prop where
 |nil:Au F H [] []
 |cons {v:V}{t:OV}{vs:List V}{ts:List OV}:Af F H v t->Au F H vs ts->Au F H (v::vs) (t::ts)
end
def tF(F H:Hp)(v:V):OV->Prop
 | .fz p=>Rep F v p
 | .tp xs=>∃a vs,v=.ref a/\F a=some (.tup vs)/\Au F H vs xs
 | .nd k a xs=>∃vs,v=.ref a/\H a=some (k.ho vs)/\k.side a H/\k.fit vs.length/\Au F H vs xs
theorem Af.inv{t:OV}(r:Af F H v t):tF F H v t:=by
 cases r with
 |fz r=>exact r
 |tp h r=>exact⟨_,_,rfl,h,r⟩
 |nd h a b r=>exact⟨_,rfl,h,a,b,r⟩
theorem Au.inv{t:OV}(r:Au F H vs (t::ts)):∃v ws,vs=v::ws/\Af F H v t/\Au F H ws ts:=by
 cases r with
 |cons r t=>exact⟨_,_,rfl,r,t⟩
theorem Au.D0(r:Au F H vs []):vs=[]:=by
 cases r;rfl
theorem OV.DQ{k:NK}{xs:List OV}:(OV.nd k a xs).addrs=a::(k.more++OV.Ai xs):=by rw[OV.addrs]
theorem OV.G7{xs:List OV}:(OV.tp xs).addrs=OV.Ai xs:=by rw[OV.addrs]
theorem OV.Ll:(OV.fz p).addrs=[]:=by rw[OV.addrs]
theorem OV.Cu{x:OV}{r:List OV}:OV.Ai (x::r)=x.addrs++OV.Ai r:=by rw[OV.Ai]
theorem OV.FR:OV.Ai []=[]:=by rw[OV.Ai]
theorem NK.gC{k:NK}(h:k.side a H)(s:∀b∈k.more,∀o,H b=some o->H' b=some o):k.side a H':=by
 cases k with
 |obj C dx ns=>exact s dx (by simp[NK.more]) _ h
 |_=>trivial
theorem Af.mono(f:AD F F'){t:OV}(r:Af F H v t):(∀a∈t.addrs,∀o,H a=some o->H' a=some o)->Af F' H' v t:=
 Af.rec (motive_1:=λv t _=>(∀a∈t.addrs,∀o,H a=some o->H' a=some o)->Af F' H' v t) (motive_2:=λvs ts _=>(∀a∈OV.Ai ts,∀o,H a=some o->H' a=some o)->Au F' H' vs ts)
  (λr _=>.fz (r.mono f))
  (λh _ i s=>.tp (f _ _ h) (i (by rw[OV.G7]at s;exact s)))
  (λh d g _ i s=>by
   rw[OV.DQ]at s;exact .nd (s _ Aj _ h) (NK.gC d λb e=>s b (B2 _ (DA _ e))) g (i λa c=>s a (B2 _ (Bk _ c))))
  (λ_=>.nil)
  (λ_ _ i k s=>by
   rw[OV.Cu]at s;exact .cons (i λa c=>s a (DA _ c)) (k λa c=>s a (Bk _ c)))
  r
theorem Au.mono(f:AD F F')(r:Au F H vs ts)(s:∀a∈OV.Ai ts,∀o,H a=some o->H' a=some o):Au F' H' vs ts:=by
 induction ts generalizing vs with
 |nil=>cases r.D0;exact .nil
 |cons p ps d=>
  obtain⟨v,ws,rfl,a,b⟩:=r.inv;rw[OV.Cu]at s;exact .cons (a.mono f λa c=>s a (DA _ c)) (d b λa c=>s a (Bk _ c))
theorem Af.there{t:OV}(r:Af F H v t):∀a∈t.addrs,H a≠none:=
 Af.rec (motive_1:=λv t _=>∀a∈t.addrs,H a≠none) (motive_2:=λvs ts _=>∀a∈OV.Ai ts,H a≠none)
  (λ_ a c=>by rw[OV.Ll]at c;cases c)
  (λ_ _ i a c=>i a (by rw[OV.G7]at c;exact c))
  (λ{k b vs xs}h d f _ i a c=>by
   rw[OV.DQ,DP,Je]at c;rcases c with rfl|c|c
   .rw[h];exact λz=>by cases z
   .cases k with
    |obj C dx ns=>
     have e:a=dx:=List.mem_singleton.mp c;rw[e,show H dx=some (.own b)from d];exact λz=>by cases z
    |_=>cases c
   .exact i a c)
  (λa c=>by rw[OV.FR]at c;cases c)
  (λ_ _ i k a c=>by
   rw[OV.Cu,Je]at c;exact c.elim (i a) (k a))
  r
theorem Au.there(r:Au F H vs ts):∀a∈OV.Ai ts,H a≠none:=by
 induction ts generalizing vs with
 |nil=>intro a c;rw[OV.FR]at c;cases c
 |cons p ps d=>
  obtain⟨v,ws,rfl,x,b⟩:=r.inv;intro a c;rw[OV.Cu,Je]at c;exact c.elim (x.there a) (d b a)
theorem Au.length{F H:Hp}{vs:List V}{ts:List OV}(r:Au F H vs ts):vs.length=ts.length:=by
 induction ts generalizing vs with
 |nil=>cases r.D0;rfl
 |cons p ps c=>obtain⟨v,ws,rfl,a,b⟩:=r.inv;exact ib (· + 1) (c b)
inductive Slot where
 |any|is (p:PV)|own (xs:List PV)|AH|sq (tp:Bool) (xs:List PV)|raw (P:Hp->V->Prop)|ow (lt:Bool) (t:OV)
variable{ss:List Slot}{s:Slot}{Xl nx:List Slot->Prop}
structure Ent0 where
 A:List Addr
 F0:Hp
 H0:Hp
 B:List Addr
variable{E:Ent0}
noncomputable abbrev E3(A:List Addr)(F H:Hp):Ent0:=⟨A,F,H,[]⟩
def Ok(E:Ent0)(F H:Hp):Slot->Option (Option V)->Prop
 | .any,_=>True
 | .is p,o=>∃v,o=some (some v)/\Rep F v p
 | .own xs,o=>∃l vs,o=some (some (.ref l))/\F l=none/\E.H0 l=none/\H l=some (.lst vs)/\AF F vs xs
 | .AH,o=>∃l,o=some (some (.ref l))/\F l=none/\(E.H0 l=none∨l∈E.A)/\BV H l
 | .sq true xs,o=>∃v,o=some (some v)/\Rep F v (.tup xs)
 | .sq false xs,o=>∃l vs,o=some (some (.ref l))/\(l∉E.A/\l∉E.B)/\E.H0 l=some (.lst vs)/\AF F vs xs
 | .raw P,o=>∃v,o=some (some v)/\P F v/\∀F F',AD F F'->P F v->P F' v
 | .ow lt t,o=>∃v,o=some (some v)/\Af F H v t/\t.addrs.Nodup/\∀a∈t.addrs,F a=none/\(E.H0 a=none∨(lt=true/\a∈E.B))
def B5:Slot->Option (Option V)->Addr->Prop
 | .own _,o,l=>o=some (some (.ref l))
 | .AH,o,l=>o=some (some (.ref l))
 | .ow _ t,_,l=>l∈t.addrs
 |_,_,_=>False
structure Fin (E:Ent0) (F H:Hp):Prop where
 fh:AD F H
 f0:AD E.F0 F
 keep:∀a o,(a∉E.A/\a∉E.B)->E.H0 a=some o->H a=some o
 fresh:∀a o,F a=some o->E.F0 a=some o∨E.H0 a=none
 Dx:∀a,a∈E.A->BV H a
 MH:∀a,a∈E.A->F a=none
 a0:∀a,a∈E.A->E.H0 a≠none
 bF:∀a,a∈E.B->F a=none
 bH:∀a,a∈E.B->H a≠none
 b0:∀a,a∈E.B->E.H0 a≠none/\a∉E.A
structure Sg (E:Ent0) (ss:List Slot) (Z:L2.St) (F H:Hp):Prop extends Fin E F H where
 len:ss.length=Z.length
 ok:∀(i:Nat)s,ss[i]?=some s->Ok E F H s Z[i]?
 BL:∀(i j:Nat)s u l,i≠j->ss[i]?=some s->ss[j]?=some u->B5 s Z[i]? l->¬ B5 u Z[j]? l
structure Ex where
 C:Addr
 ns:List Str
 xs:List PV
def Ex.at(x:Ex)(F:Hp)(C:Value)(dx:Option Addr):Prop:=
 C=.ref x.C/\((x.ns=[]/\x.xs=[]/\dx=none)∨∃a vs,dx=some a/\F a=some (.xd (x.ns.zip vs))/\x.ns.length=vs.length/\AF F vs x.xs)
class Xw where
 e:L2.St->XK
 J:List Slot->Prop
 D:Ex->Prop
structure Ent [Xw] extends Ent0 where
 hx:∀(ss:List Slot)(Z:L2.St)(F H:Hp)(x:Ex)(C:Value)(dx:Option Addr),Xw.J ss->Sg toEnt0 ss Z F H->Xw.D x->x.at F C dx->Xw.e Z C dx H
instance [Xw]:CoeOut Ent Ent0:=⟨Ent.toEnt0⟩
noncomputable instance aq:Xw:=⟨λ_=>E0,λ_=>True,λ_=>False⟩
def C7(ss:List Slot)(Z:L2.St)(a:Addr):Prop:=∀i:Nat,ss[i]?=some .AH->Z[i]?≠some (some (.ref a))
structure Mv (E:Ent0) (ss:List Slot) (Z:L2.St) (F H F' H':Hp):Prop where
 st:Sg E ss Z F' H'
 ff:AD F F'
 hh:∀a o,C7 ss Z a->H a=some o->H' a=some o
 nn:∀a o,F' a=some o->F a=some o∨H a=none
theorem Sg.GO(S:Sg E ss Z F H)(h:H l=none):C7 ss Z l:=λi hi e=>by
 obtain⟨b,e1,_,_,_,_,a,_⟩:=S.ok i _ hi;rw[e]at e1;cases e1;rw[h]at a;cases a
theorem Mv.none(m:Mv E ss Z F H F' H')(h:H' a=none):H a=none:=by
 cases e:H a with
 |none=>rfl
 |some o=>rw[m.hh a o (m.st.GO h) e]at h;cases h
theorem Mv.refl{E:Ent0}{ss:List Slot}{Z:L2.St}{F H:Hp}(S:Sg E ss Z F H):Mv E ss Z F H F H:=⟨S,AD.refl _,λ_ _ _ e=>e,λ_ _ e=>.inl e⟩
theorem Mv.trans{F1 H1 F2 H2:Hp}(a:Mv E ss Z F H F1 H1)(b:Mv E ss Z F1 H1 F2 H2):Mv E ss Z F H F2 H2:=
 ⟨b.st,a.ff.trans b.ff,λc o n e=>b.hh c o n (a.hh c o n e),λc o e=>(b.nn c o e).elim (λe=>a.nn c o e) λe=>.inr (a.none e)⟩
theorem Sg.DD(S:Sg E ss Z F H){p:Addr}(h:H p=none):E.H0 p=none:=by
 cases e:E.H0 p with
 |none=>rfl
 |some o=>
  by_cases q:p∈E.A
  .obtain⟨_,_,e1,_⟩:=S.Dx p q;rw[h]at e1;cases e1
  .by_cases a:p∈E.B
   .exact absurd h (S.bH p a)
   .rw[S.keep p o ⟨q,a⟩ e]at h;cases h
theorem Sg.Bi(S:Sg E ss Z F H){p:Addr}(h:H p=none):F p=none:=AD.none S.fh h
theorem BV.keep(h:BV H l)(k:∀o,H l=some o->H' l=some o):BV H' l:=by
 obtain⟨a,b,e,r⟩:=h;exact⟨a,b,k _ e,r⟩
theorem Sg.YI(S:Sg E ss Z F H)(h:F l=some o):C7 ss Z l:=λi hi e=>by
 obtain⟨b,e1,a,_⟩:=S.ok i _ hi;rw[e]at e1;cases e1;rw[h]at a;cases a
theorem Sg.bV(S:Sg E ss Z F H)(a:l∉E.A)(h:E.H0 l=some o):C7 ss Z l:=λi hi e=>by
 obtain⟨b,e1,_,q,_⟩:=S.ok i _ hi;rw[e]at e1;cases e1;rcases q with q|q
 .rw[h]at q;cases q
 .exact a q
theorem Sg.u0(S:Sg E ss Z F H)(h:l∈E.B):C7 ss Z l:=λi hi e=>by
 obtain⟨c,e1,_,q,_⟩:=S.ok i _ hi;rw[e]at e1;cases e1;obtain⟨b,a⟩:=S.b0 l h;rcases q with q|q
 .exact b q
 .exact a q
theorem Sg.EW(S:Sg E ss Z F H)(h:ss[i]?=some s)(m:B5 s Z[i]? l):H l≠none:=by
 have k:=S.ok i s h;cases s with
 |own xs=>obtain⟨b,vs,e1,_,_,a,_⟩:=k;rw[show Z[i]?=some (some (.ref l))from m]at e1;cases e1;rw[a];simp
 |AH=>obtain⟨b,e1,_,_,_,_,a,_⟩:=k;rw[show Z[i]?=some (some (.ref l))from m]at e1;cases e1;rw[a];simp
 |ow lt t=>obtain⟨v,_,r,_⟩:=k;exact r.there l m
 |_=>cases m
theorem Sg.kc(S:Sg E ss Z F H)(h:ss[i]?=some s)(m:B5 s Z[i]? l):F l=none:=by
 have k:=S.ok i s h;cases s with
 |own xs=>obtain⟨b,vs,e1,a,_⟩:=k;rw[show Z[i]?=some (some (.ref l))from m]at e1;cases e1;exact a
 |AH=>obtain⟨b,e1,a,_⟩:=k;rw[show Z[i]?=some (some (.ref l))from m]at e1;cases e1;exact a
 |ow lt t=>obtain⟨v,_,r,_,q⟩:=k;exact(q l m).1
 |_=>cases m
theorem Sg.Kk(S:Sg E ss Z F H)(h:ss[i]?=some s)(a:H l=none):¬ B5 s Z[i]? l:=λm=>S.EW h m a
theorem Sg.Nw(S:Sg E ss Z F H)(h:ss[i]?=some s)(m:B5 s Z[i]? l)(np:s≠.AH):C7 ss Z l:=λj a b=>
 S.BL i j s _ l (by rintro rfl;rw[h]at a;exact np (B3 a)) h a m b
theorem Ok.go(S:Sg E ss Z F H)(hi:ss[i]?=some s)(ff:AD F F')(hk:∀a o,B5 s Z[i]? a->H a=some o->H' a=some o)(Bi:∀a,H a≠none->F a=none->F' a=none)(np:s≠.AH):Ok E F' H' s Z[i]?:=by
 have k:=S.ok i s hi;cases s with
 |any=>trivial
 |is p=>obtain⟨v,e,r⟩:=k;exact⟨v,e,r.mono ff⟩
 |own xs=>
  obtain⟨l,vs,e,e1,c,d,r⟩:=k;exact⟨l,vs,e,Bi l (by rw[d];simp) e1,c,hk l _ e d,r.mono ff⟩
 |AH=>exact absurd rfl np
 |sq tp xs=>
  cases tp with
  |true=>obtain⟨v,e,r⟩:=k;exact⟨v,e,r.mono ff⟩
  |false=>obtain⟨l,vs,e,e1,c,r⟩:=k;exact⟨l,vs,e,e1,c,r.mono ff⟩
 |raw P=>obtain⟨v,e,r,st⟩:=k;exact⟨v,e,st _ _ ff r,st⟩
 |ow lt t=>
  obtain⟨v,e,r,nd,q⟩:=k;exact⟨v,e,r.mono ff λa b o=>hk a o b,nd,λa b=>⟨Bi a (r.there a b) (q a b).1,(q a b).2⟩⟩
theorem Sg.step(S:Sg E ss Z F H)(ff:AD F F')(fh:AD F' H')(hk:∀a o,C7 ss Z a->H a=some o->H' a=some o)(d:∀a o,F' a=some o->F a=some o∨H a=none)
  (f:∀(i:Nat)l,ss[i]?=some .AH->Z[i]?=some (some (.ref l))->BV H' l):Mv E ss Z F H F' H':=by
 have Bi:∀a,H a≠none->F a=none->F' a=none:=λa h1 h2=>by
  cases e:F' a with
  |none=>rfl
  |some o=>
   rcases d a o e with q|q
   .rw[h2]at q;cases q
   .exact absurd q h1
 have g:∀a,BV H a->C7 ss Z a->BV H' a:=λa p n=>BV.keep p λo e=>hk a o n e;refine⟨⟨⟨fh,S.f0.trans ff,λa o b e=>?_,λa o e=>?_,λa b=>?_,λa b=>?_,S.a0,λa c=>Bi a (S.bH a c) (S.bF a c),λa c=>?_,S.b0⟩,S.len,λi s hi=>?_,S.BL⟩,ff,hk,d⟩
 .exact hk a o (S.bV b.1 e) (S.keep a o b e)
 .rcases d a o e with q|q
  .exact S.fresh a o q
  .exact .inr (S.DD q)
 .by_cases q:∃i:Nat,ss[i]?=some .AH/\Z[i]?=some (some (.ref a))
  .obtain⟨i,j,h⟩:=q;exact f i a j h
  .exact g a (S.Dx a b) λi h1 h2=>q ⟨i,h1,h2⟩
 .refine Bi a ?_ (S.MH a b);obtain⟨_,_,e1,_⟩:=S.Dx a b;rw[e1];simp
 .obtain⟨o,e⟩:=Option.ne_none_iff_exists'.mp (S.bH a c);rw[hk a o (S.u0 c) e];simp
 .by_cases np:s=.AH
  .subst np;obtain⟨l,e,e1,t,r⟩:=S.ok i _ hi;have u:=r;obtain⟨_,_,k,_⟩:=u;exact⟨l,e,Bi l (by rw[k];simp) e1,t,f i l hi e⟩
  .exact Ok.go S hi ff (λa o m=>hk a o (S.Nw hi m np)) Bi np
theorem Sg.Ek(S:Sg E ss Z F H)(hi:ss[i]?=some .AH)(e:Z[i]?=some (some (.ref l))):BV H l:=by
 obtain⟨a,e1,_,_,p⟩:=S.ok i _ hi;rw[e]at e1;cases e1;exact p
theorem Sg.alloc(S:Sg E ss Z F H){p:Addr}(h:H p=none)(o:HO):Mv E ss Z F H (upd F p o) (upd H p o):=by
 refine S.step (C1 (S.Bi h) _) (λa u e=>?_) (λa u _ e=>C1 h o a u e) (λa u e=>?_) λi l hi e=>BV.keep (S.Ek hi e) λu e=>C1 h o l u e
 .by_cases q:a=p
  .subst q;rw[AX]at e ⊢;exact e
  .rw[AS q]at e ⊢;exact S.fh a u e
 .by_cases q:a=p
  .subst q;exact .inr h
  .rw[AS q]at e;exact .inl e
theorem Sg.make(S:Sg E ss Z F H){p:Addr}(h:H p=none)(o:HO):Mv E ss Z F H F (upd H p o):=
 S.step (AD.refl _) (S.fh.trans (C1 h o)) (λa u _ e=>C1 h o a u e) (λa u e=>.inl e) λi l hi e=>BV.keep (S.Ek hi e) λu e=>C1 h o l u e
theorem Sg.grow(S:Sg E ss Z F H)(s:AD H H'):Mv E ss Z F H F H':=
 S.step (AD.refl _) (S.fh.trans s) (λa u _ e=>s a u e) (λa u e=>.inl e) λi l hi e=>BV.keep (S.Ek hi e) λu e=>s l u e
theorem Sg.setG(S:Sg E ss Z F H)(AE:Ok E F H s (some (some v)))(d:∀l,B5 s (some (some v)) l->∀(i:Nat)u,i≠j->ss[i]?=some u->¬ B5 u Z[i]? l):Sg E (ss.set j s) (Z.set j (some v)) F H:=by
 refine⟨S.toFin,by rw[HW,HW];exact S.len,λi u hi=>?_,λi k u w l Qk hi hk mu b=>?_⟩
 .by_cases q:i=j
  .subst q;have a:i<ss.length:=by have:=(List.getElem?_eq_some_iff.mp hi).1;simpa using this
   rw[Cr a]at hi;cases hi;rw[Cr (by rw[<- S.len];exact a)];exact AE
  .rw[CM (BM q)]at hi ⊢;exact S.ok i u hi
 .by_cases q:i=j
  .subst q;have a:i<ss.length:=by have:=(List.getElem?_eq_some_iff.mp hi).1;simpa using this
   rw[Cr a]at hi;rw[Cr (by rw[<- S.len];exact a)]at mu;cases hi;rw[CM Qk]at hk b;exact d l mu k w (BM Qk) hk b
  .rw[CM (BM q)]at hi mu
   by_cases c:k=j
   .subst c;have a:k<ss.length:=by have:=(List.getElem?_eq_some_iff.mp hk).1;simpa using this
    rw[Cr a]at hk;cases hk;rw[Cr (by rw[<- S.len];exact a)]at b;exact d l b i u Qk hi mu
   .rw[CM (BM c)]at hk b;exact S.BL i k u w l Qk hi hk mu b
theorem Sg.Gw(S:Sg E ss Z F H)(r:Rep F v p):Sg E (ss.set j (.is p)) (Z.set j (some v)) F H:=S.setG ⟨v,rfl,r⟩ λ_ h=>by cases h
def Sv(ss:List Slot)(Z:L2.St)(F H:Hp)(v:V):Bool->List PV->Prop
 |true,xs=>Rep F v (.tup xs)
 |false,xs=>∃l vs,v=.ref l/\C7 ss Z l/\H l=some (.lst vs)/\AF F vs xs
def Fv(E:Ent0)(F:Hp)(v:V):Bool->List PV->Prop
 |true,xs=>Rep F v (.tup xs)
 |false,xs=>∃l vs,v=.ref l/\(F l=some (.lst vs)∨((l∉E.A/\l∉E.B)/\E.H0 l=some (.lst vs)))/\AF F vs xs
structure Wp [Xw] (ss:List Slot) (t:TE) (k:PV->Prop):Prop where
 go:∀(E:Ent)(Z:L2.St)(F H:Hp)(Q:VK),Sg E ss Z F H->(∀v p F' H',Mv E ss Z F H F' H'->Rep F' v p->k p->Q v H')->t Z H Q
structure Wn [Xw] (ss:List Slot) (t:TE) (k:List PV->Prop):Prop where
 go:∀(E:Ent)(Z:L2.St)(F H:Hp)(Q:VK),Sg E ss Z F H->(∀l vs xs F' H',Mv E ss Z F H F' H'->F' l=none->H l=none->H' l=some (.lst vs)->AF F' vs xs->k xs->Q (.ref l) H')->t Z H Q
structure Wq [Xw] (ss:List Slot) (t:TE) (k:Bool->List PV->Prop):Prop where
 go:∀(E:Ent)(Z:L2.St)(F H:Hp)(Q:VK),Sg E ss Z F H->(∀v tp xs F' H',Mv E ss Z F H F' H'->Sv ss Z F' H' v tp xs->k tp xs->Q v H')->t Z H Q
structure Wz [Xw] (ss:List Slot) (t:TE) (k:Bool->List PV->Prop):Prop where
 go:∀(E:Ent)(Z:L2.St)(F H:Hp)(Q:VK),Sg E ss Z F H->(∀v tp xs F' H',Mv E ss Z F H F' H'->Fv E F' v tp xs->k tp xs->Q v H')->t Z H Q
structure Wt [Xw] (ss:List Slot) (t:TT) (k:Bool->Prop):Prop where
 go:∀(E:Ent)(Z:L2.St)(F H:Hp)(Q:Bool->Hp->Prop),Sg E ss Z F H->(∀b F' H',Mv E ss Z F H F' H'->k b->Q b H')->t Z H Q
def Av(ss:List Slot)(Z:L2.St)(F H:Hp)(v:V):Slot->Prop
 | .is p=>Rep F v p
 | .sq tp xs=>Sv ss Z F H v tp xs
 | .raw P=>P F v/\∀F F',AD F F'->P F v->P F' v
 |_=>False
inductive HE (ss:List Slot) (Z:L2.St) (F H:Hp):List V->List Slot->Prop where
 |nil:HE ss Z F H [] []
 |cons {v:V}{s:Slot}{vs:List V}{l:List Slot}:Av ss Z F H v s->HE ss Z F H vs l->HE ss Z F H (v::vs) (s::l)
structure Wa [Xw] (ss:List Slot) (t:TA) (k:List Slot->Prop):Prop where
 go:∀(E:Ent)(Z:L2.St)(F H:Hp)(Q:List V->Hp->Prop),Sg E ss Z F H->(∀vs l F' H',Mv E ss Z F H F' H'->HE ss Z F' H' vs l->k l->Q vs H')->t Z H Q
inductive Ae where
 |is (k:PV->Prop)|new (k:List PV->Prop)|AH|ow (k:OV->Prop)|mt (k:PV->OV->Prop)|Ig (k:PV->OV->OV->Prop)
noncomputable def OV.val:OV->V
 | .nd _ a _=>.ref a
 |_=>.A6
def Ae.ok(R:Ae)(E:Ent0)(F' H':Hp)(v:V):Prop:=match R with
 | .is k=>∃p,Rep F' v p/\k p
 | .new k=>∃l vs xs,v=.ref l/\F' l=none/\E.H0 l=none/\H' l=some (.lst vs)/\AF F' vs xs/\k xs
 | .AH=>∃l,v=.ref l/\F' l=none/\E.H0 l=none/\BV H' l
 | .ow k=>∃t,Af F' H' v t/\t.addrs.Nodup/\(∀a∈t.addrs,F' a=none/\E.H0 a=none)/\k t
 | .mt k=>∃p t,Rep F' v p/\Af F' H' t.val t/\t.addrs.Nodup/\(∀a∈t.addrs,F' a=none/\(E.H0 a=none∨a∈E.B))/\k p t
 | .Ig k=>∃p t u,Rep F' v p/\Af F' H' t.val t/\Af F' H' u.val u/\(t.addrs++u.addrs).Nodup/\(∀a∈t.addrs++u.addrs,F' a=none/\(E.H0 a=none∨a∈E.B))/\k p t u
structure Ws [Xw] (ss:List Slot) (t:TS) (nx:List Slot->Prop) (R:Ae):Prop where
 go:∀(E:Ent)(D:Ends)(Z:L2.St)(F H:Hp),Sg E ss Z F H->(∀A5 σ' F' H',nx A5->Sg E A5 σ' F' H'->AD F F'->D.nx σ' H')->(∀v F' H',Fin E F' H'->R.ok E F' H' v->D.rt v H')->t D Z H
section
variable[Xw]
variable{K:ZBx}{tb:TE}{k:PV->Prop}{R:Ae}
theorem Sv.mv(h:Sv ss Z F H v tp xs)(m:Mv E ss Z F H F' H'):Sv ss Z F' H' v tp xs:=by
 cases tp with
 |true=>exact Rep.mono m.ff h
 |false=>
  obtain⟨l,vs,e,n,r,q⟩:=h;exact⟨l,vs,e,n,m.hh l _ n r,q.mono m.ff⟩
theorem Sv.seq(S:Sg E ss Z F H)(h:Sv ss Z F H v tp xs):∃l vs,v=.ref l/\H l=some (DJ tp vs)/\AF F vs xs:=by
 cases tp with
 |true=>cases h with|tup e r=>exact⟨_,_,rfl,S.fh _ _ e,r⟩
 |false=>obtain⟨l,vs,e,_,r,q⟩:=h;exact⟨l,vs,e,r,q⟩
theorem Fv.sv(S:Sg E ss Z F H)(h:Fv E F v tp xs):Sv ss Z F H v tp xs:=by
 cases tp with
 |true=>exact h
 |false=>
  obtain⟨l,vs,e,h1|⟨a,h1⟩,r⟩:=h
  .exact⟨l,vs,e,S.YI h1,S.fh _ _ h1,r⟩
  .exact⟨l,vs,e,S.bV a.1 h1,S.keep _ _ a h1,r⟩
theorem ofT{A B:Prop}(h:if true=true then A else B):A:=h
theorem QC{A B:Prop}(h:if false=true then A else B):B:=h
class Flt {α:Type} (f:α->PV) (g:outParam (α->V)):Prop where
 eq:∀{F:Hp}{v:V}{i:α},Rep F v (f i)->v=g i
instance:Flt PV.int V.int:=⟨λr=>r.inv⟩
instance:Flt PV.str V.str:=⟨λr=>r.inv⟩
instance:Flt PV.bl V.bl:=⟨λr=>r.inv⟩
instance:Flt (λn:Nat=>PV.int n) λn:Nat=>V.int n:=⟨λr=>r.inv⟩
theorem Wp.el{f:α->PV}{g:α->V}[i:Flt f g]{k:α->Prop}(h:Wp ss te λx=>∃i,x=f i/\k i)(E:Ent)(S:Sg E ss Z F H)(q:∀i F1 H1,Mv E ss Z F H F1 H1->k i->Q (g i) H1):te Z H Q:=
 h.go E Z F H Q S λv p F1 H1 m r z=>by
  obtain⟨j,e,kk⟩:=z;subst e;rw[i.eq r];exact q j F1 H1 m kk
theorem AI(h:ss[i]?=some (.is p))(hk:k p):Wp ss (Ar i) k:=⟨λE Z F H Q S q=>by
 obtain⟨v,a,r⟩:=S.ok i _ h;exact⟨v,a,q v p F H (.refl S) r hk⟩⟩
theorem CL{i:Int}(hk:k (.int i)):Wp ss (tC (.int i)) k:=⟨λE Z F H Q S q=>q _ _ F H (.refl S) (.int i) hk⟩
theorem bY{x:Str}(hk:k (.str x)):Wp ss (tC (.str x)) k:=⟨λE Z F H Q S q=>q _ _ F H (.refl S) (.str x) hk⟩
theorem GN(hk:k (.bl b)):Wp ss (tC (.bl b)) k:=⟨λE Z F H Q S q=>q _ _ F H (.refl S) (.bl b) hk⟩
theorem LB(hk:k .A6):Wp ss (tC .A6) k:=⟨λE Z F H Q S q=>q _ _ F H (.refl S) .A6 hk⟩
theorem Cs(h:Wn ss te (λxs=>k (.lst xs))):Wp ss te k:=⟨λE Z F H Q S q=>h.go E Z F H Q S λl vs xs F' H' m c f D5 r kk=>by
 have b:=m.st;have z:Mv E ss Z F H (upd F' l (.lst vs)) H':=by
  have A:∀a,H' a≠none->a≠l->F' a=none->upd F' l (.lst vs) a=none:=λa _ h1 h2=>by rw[AS h1];exact h2
  refine⟨⟨⟨λa u e=>?_,b.f0.trans (C1 c _),b.keep,λa u e=>?_,b.Dx,λa y=>?_,b.a0,λa x=>?_,b.bH,b.b0⟩,b.len,λi s hi=>?_,b.BL⟩,m.ff.trans (C1 c _),m.hh,λa u e=>?_⟩
  .by_cases q:a=l
   .subst q;rw[AX]at e;rw[<- e];exact D5
   .rw[AS q]at e;exact b.fh a u e
  .by_cases q:a=l
   .subst q;exact .inr (S.DD f)
   .rw[AS q]at e;exact b.fresh a u e
  .by_cases q:a=l
   .subst q;obtain⟨_,_,e,_⟩:=S.Dx _ y;rw[f]at e;cases e
   .rw[AS q];exact b.MH a y
  .by_cases q:a=l
   .subst q;exact absurd f (S.bH _ x)
   .rw[AS q];exact b.bF a x
  .have w:∀a,B5 s Z[i]? a->a≠l:=by
    rintro a m rfl;exact S.Kk hi f m
   have kk:=b.ok i s hi;cases s with
   |any=>trivial
   |is p=>obtain⟨v,e,r⟩:=kk;exact⟨v,e,r.mono (C1 c _)⟩
   |own ys=>
    obtain⟨d,ws,e,e1,g,n,r⟩:=kk;exact⟨d,ws,e,by rw[AS (w d e)];exact e1,g,n,r.mono (C1 c _)⟩
   |AH=>
    obtain⟨d,e,e1,g,n⟩:=kk;exact⟨d,e,by rw[AS (w d e)];exact e1,g,n⟩
   |sq tp ys=>
    cases tp with
    |true=>obtain⟨v,e,r⟩:=kk;exact⟨v,e,r.mono (C1 c _)⟩
    |false=>obtain⟨d,ws,e,e1,g,r⟩:=kk;exact⟨d,ws,e,e1,g,r.mono (C1 c _)⟩
   |raw P=>obtain⟨v,e,r,st⟩:=kk;exact⟨v,e,st _ _ (C1 c _) r,st⟩
   |ow lt t=>
    obtain⟨v,e,r,nd,q⟩:=kk;exact⟨v,e,r.mono (C1 c _) λa _ o h=>h,nd,λa j=>⟨by rw[AS (w a j)];exact(q a j).1,(q a j).2⟩⟩
  .by_cases q:a=l
   .subst q;exact .inr f
   .rw[AS q]at e;exact m.nn a u e
 exact q _ _ _ _ z (.lst AX (r.mono (C1 c _))) kk⟩
theorem C5{k:Bool->List PV->Prop}(h:Wp ss te (λp=>∃xs,(p=.lst xs/\k false xs)∨(p=.tup xs/\k true xs))):Wq ss te k:=⟨λE Z F H Q S q=>h.go E Z F H Q S λv p F' H' m r AN=>by
 obtain⟨xs,h⟩:=AN;rcases h with⟨rfl,kk⟩|⟨rfl,kk⟩
 .cases r with|lst h r=>exact q _ false xs F' H' m ⟨_,_,rfl,m.st.YI h,m.st.fh _ _ h,r⟩ kk
 .exact q v true xs F' H' m r kk⟩
theorem CU{k:Bool->List PV->Prop}(h:ss[i]?=some (.is (.lst xs)))(hk:k false xs):Wq ss (Ar i) k:=C5 (AI h ⟨xs,.inl ⟨rfl,hk⟩⟩)
theorem JT{k:Bool->List PV->Prop}(h:ss[i]?=some (.is (.tup xs)))(hk:k true xs):Wq ss (Ar i) k:=C5 (AI h ⟨xs,.inr ⟨rfl,hk⟩⟩)
theorem PJ{k:Bool->List PV->Prop}(h:ss[i]?=some (.own xs))(hk:k false xs):Wq ss (Ar i) k:=⟨λE Z F H Q S q=>by
 obtain⟨l,vs,e,e1,b,a,r⟩:=S.ok i _ h;exact⟨_,e,q _ false xs F H (.refl S) ⟨l,vs,rfl,S.Nw h e (by simp),a,r⟩ hk⟩⟩
theorem SR{k:Bool->List PV->Prop}(h:ss[i]?=some (.sq tp xs))(hk:k tp xs):Wz ss (Ar i) k:=⟨λE Z F H Q S q=>by
 have kk:=S.ok i _ h;cases tp with
 |true=>obtain⟨v,e,r⟩:=kk;exact⟨_,e,q _ true xs F H (.refl S) r hk⟩
 |false=>
  obtain⟨l,vs,e,a,b,r⟩:=kk;exact⟨_,e,q _ false xs F H (.refl S) ⟨l,vs,rfl,.inr ⟨a,b⟩,r⟩ hk⟩⟩
theorem Cy{k:Bool->List PV->Prop}(h:Wp ss te (λp=>∃xs,(p=.lst xs/\k false xs)∨(p=.tup xs/\k true xs))):Wz ss te k:=⟨λE Z F H Q S q=>h.go E Z F H Q S λv p F' H' m r AN=>by
 obtain⟨xs,h⟩:=AN;rcases h with⟨rfl,kk⟩|⟨rfl,kk⟩
 .cases r with|lst h r=>exact q _ false xs F' H' m ⟨_,_,rfl,.inl h,r⟩ kk
 .exact q _ true xs F' H' m r kk⟩
theorem rS{k:Bool->List PV->Prop}(h:Wz ss te k):Wq ss te k:=⟨λE Z F H Q S q=>h.go E Z F H Q S λv tp xs F' H' m f kk=>q v tp xs F' H' m (f.sv m.st) kk⟩
theorem Fx{k:Bool->List PV->Prop}(h:ss[i]?=some (.sq tp xs))(hk:k tp xs):Wq ss (Ar i) k:=rS (SR h hk)
theorem zT{f:Int->Int->Int}(h:Wp ss ta λx=>∃i,x=.int i/\Wp ss tb λy=>∃j,y=.int j/\k (.int (f i j))):Wp ss (B8 (Fn λi j=>.int (f i j)) ta tb) k:=⟨λE Z F H Q S q=>
 h.el E S λi F1 H1 a h2=>
  h2.el E a.st λj F2 H2 m2 kk=>by
   exact⟨i,j,rfl,rfl,q _ _ F2 H2 (a.trans m2) (.int _) kk⟩⟩
theorem xm(h:Wp ss ta λx=>∃i,x=.int i/\Wp ss tb λy=>∃j,y=.int j/\k (.bl (f i j))):Wp ss (B8 (Fn λi j=>.bl (f i j)) ta tb) k:=⟨λE Z F H Q S q=>
 h.el E S λi F1 H1 a h2=>
  h2.el E a.st λj F2 H2 m2 kk=>by
   exact⟨i,j,rfl,rfl,q _ _ F2 H2 (a.trans m2) (.bl _) kk⟩⟩
theorem YF{f:Int->Int}(h:Wp ss ta λx=>∃i,x=.int i/\k (.int (f i))):Wp ss (OX (rU λi=>.int (f i)) ta) k:=⟨λE Z F H Q S q=>
 h.el E S λi F1 H1 a kk=>by
  exact⟨i,rfl,q _ _ F1 H1 a (.int _) kk⟩⟩
noncomputable def alike:PV->PV->Bool
 | .int i,.int j=>decide (i=j)
 | .str i,.str j=>decide (i=j)
 | .bl i,.bl j=>decide (i=j)
 | .A6,.A6=>true
 |_,_=>false
def MB(p q:PV):Bool:=flat p && flat q && Sj (Fz.enc p) (Fz.enc q)
theorem eI{q:PV}(h:MB p q=true):decide (Fz.enc p=Fz.enc q)=alike p q:=by
 unfold MB at h;rw[Cq,Cq]at h;obtain⟨⟨h1,h2⟩,a⟩:=h;cases p <;> first|exact Bool.noConfusion h1|skip
 all_goals cases q <;> first|exact Bool.noConfusion h2|exact Bool.noConfusion a|rfl|exact decide_eq_decide.mpr ⟨λe=>by injection e,ib _⟩
theorem fe(h:Wp ss ta λx=>Wp ss tb λy=>MB x y=true/\k (.bl (alike x y))):Wp ss (B8 YZ ta tb) k:=⟨λE Z F H Q S q=>
 h.go E Z F H _ S λv p F1 H1 a c h2=>h2.go E Z F1 H1 _ a.st λv2 p2 F2 H2 m2 b AN=>by
  obtain⟨sc,kk⟩:=AN;have d:=sc;unfold MB at sc;rw[Cq,Cq]at sc;rw[c.enc sc.1.1,b.enc sc.1.2];refine⟨sc.2,?_⟩;rw[eI d];exact q _ _ F2 H2 (a.trans m2) (.bl _) kk⟩
theorem rH(h:Wp ss ta λx=>Wp ss tb λy=>MB x y=true/\k (.bl (!alike x y))):Wp ss (B8 YC ta tb) k:=⟨λE Z F H Q S q=>
 h.go E Z F H _ S λv p F1 H1 a c h2=>h2.go E Z F1 H1 _ a.st λv2 p2 F2 H2 m2 b AN=>by
  obtain⟨sc,kk⟩:=AN;have d:=sc;unfold MB at sc;rw[Cq,Cq]at sc;rw[c.enc sc.1.1,b.enc sc.1.2];refine⟨sc.2,?_⟩;rw[eI d];exact q _ _ F2 H2 (a.trans m2) (.bl _) kk⟩
theorem O4(h:Wp ss ta λx=>∃c,x=.bl c/\if c=true then Wp ss tb k else k (.bl false)):Wp ss (Sd ta tb) k:=⟨λE Z F H Q S q=>
 h.el E S λc F1 H1 a h2=>by
  refine⟨c,rfl,?_⟩;cases c with
  |true=>exact Jj ((ofT h2).go E Z F1 H1 _ a.st λv2 p2 F2 H2 m2 b kk=>q _ _ F2 H2 (a.trans m2) b kk)
  |false=>exact FP (q _ _ F1 H1 a (.bl _) (QC h2))⟩
theorem nZ(h:Wp ss ta λx=>∃c,x=.bl c/\if c=true then k (.bl true)else Wp ss tb k):Wp ss (U3 ta tb) k:=⟨λE Z F H Q S q=>
 h.el E S λc F1 H1 a h2=>by
  refine⟨c,rfl,?_⟩;cases c with
  |true=>exact Jj (q _ _ F1 H1 a (.bl _) (ofT h2))
  |false=>exact FP ((QC h2).go E Z F1 H1 _ a.st λv2 p2 F2 H2 m2 b kk=>q _ _ F2 H2 (a.trans m2) b kk)⟩
theorem Yt(h:Wp ss ta λx=>∃c,x=.bl c/\k (.bl (!c))):Wp ss (WC ta) k:=⟨λE Z F H Q S q=>
 h.el E S λc F1 H1 a kk=>⟨c,rfl,q _ _ F1 H1 a (.bl _) kk⟩⟩
theorem V1{g:Int->Int->Bool}(h:Wp ss ta λx=>∃i,x=.int i/\Wp ss tb λy=>∃j,y=.int j/\if f i j=true then Wp ss tc (λz=>∃l,z=.int l/\k (.bl (g j l)))else k (.bl false)):
  Wp ss (NG (Fn λi j=>.bl (f i j)) (Fn λi j=>.bl (g i j)) ta tb tc) k:=⟨λE Z F H Q S q=>
 h.el E S λi F1 H1 b h2=>
  h2.el E b.st λj F2 H2 m2 a=>by
   refine⟨i,j,rfl,rfl,f i j,rfl,?_⟩;cases c:f i j with
   |true=>
    rw[c,i5 rfl]at a;rw[i5 rfl];exact a.el E m2.st λl F3 H3 d kk=>by
     exact⟨j,l,rfl,rfl,q _ _ F3 H3 (b.trans (m2.trans d)) (.bl _) kk⟩
   |false=>
    rw[c,i3 (by decide)]at a;rw[i3 (by decide)];exact q _ _ F2 H2 (b.trans m2) (.bl _) a⟩
theorem IK{k:Bool->Prop}(h:Wp ss te λx=>∃c,x=.bl c/\k c):Wt ss (KC te) k:=⟨λE Z F H Q S q=>
 h.el E S λc F1 H1 a kk=>⟨c,rfl,q _ F1 H1 a kk⟩⟩
theorem E4{k:Bool->Prop}(h:Wp ss te λx=>∃c,x=.bl c/\k c):Wt ss (tB te) k:=⟨λE Z F H Q S q=>
 h.el E S λc F1 H1 a kk=>⟨c,rfl,q _ F1 H1 a kk⟩⟩
theorem G0{k:Bool->Prop}(h:k true):Wt ss LJ k:=⟨λE Z F H Q S q=>q _ F H (.refl S) h⟩
theorem Fs{t:TT}{k:Bool->Prop}(h:Wt ss t λc=>k (!c)):Wt ss (S8 t) k:=⟨λE Z F H Q S q=>h.go E Z F H _ S λc F1 H1 a kk=>q _ F1 H1 a kk⟩
theorem bB{t u:TT}{k:Bool->Prop}(h:Wt ss t λc=>if c=true then Wt ss u k else k false):Wt ss (Wb t u) k:=⟨λE Z F H Q S q=>
 h.go E Z F H _ S λc F1 H1 a h2=>by
  show if c=true then _ else _
  cases c with
  |true=>exact Jj ((ofT h2).go E Z F1 H1 _ a.st λb F2 H2 m2 kk=>q _ F2 H2 (a.trans m2) kk)
  |false=>exact FP (q _ F1 H1 a (QC h2))⟩
theorem IQ{t u:TT}{k:Bool->Prop}(h:Wt ss t λc=>if c=true then k true else Wt ss u k):Wt ss (Mg t u) k:=⟨λE Z F H Q S q=>
 h.go E Z F H _ S λc F1 H1 a h2=>by
  show if c=true then _ else _
  cases c with
  |true=>exact Jj (q _ F1 H1 a (ofT h2))
  |false=>exact FP ((QC h2).go E Z F1 H1 _ a.st λb F2 H2 m2 kk=>q _ F2 H2 (a.trans m2) kk)⟩
end
structure We [Xw] (ss:List Slot) (t:TA) (k:List PV->Prop):Prop where
 go:∀(E:Ent)(Z:L2.St)(F H:Hp)(Q:List V->Hp->Prop),Sg E ss Z F H->(∀vs ps F' H',Mv E ss Z F H F' H'->AF F' vs ps->k ps->Q vs H')->t Z H Q
structure Wo [Xw] (ss:List Slot) (t:TO) (k:Option Int->Prop):Prop where
 go:∀(E:Ent)(Z:L2.St)(F H:Hp)(Q:Option Int->Hp->Prop),Sg E ss Z F H->(∀o F' H',Mv E ss Z F H F' H'->k o->Q o H')->t Z H Q
section
variable[Xw]
variable{K:ZBx}{tb:TE}{k:PV->Prop}{R:Ae}
theorem NN{k:List PV->Prop}(h:k []):We ss BK k:=⟨λE Z F H Q S q=>q _ _ F H (.refl S) .nil h⟩
theorem Jn{k:List PV->Prop}(h:Wp ss te λp=>We ss t λps=>k (p::ps)):We ss (Ag te t) k:=⟨λE Z F H Q S q=>
 h.go E Z F H _ S λv p F1 H1 a c h2=>h2.go E Z F1 H1 _ a.st λvs ps F2 H2 m2 b kk=>q _ _ F2 H2 (a.trans m2) (.cons (c.mono m2.ff) b) kk⟩
theorem CI{k:List Slot->Prop}(h:k []):Wa ss BK k:=⟨λE Z F H Q S q=>q _ _ F H (.refl S) .nil h⟩
theorem BQ{k:List Slot->Prop}(h:Wp ss te λp=>Wa ss t λl=>k (.is p::l)):Wa ss (Ag te t) k:=⟨λE Z F H Q S q=>
 h.go E Z F H _ S λv p F1 H1 a c h2=>h2.go E Z F1 H1 _ a.st λvs l F2 H2 m2 b kk=>q _ _ F2 H2 (a.trans m2) (.cons (s:=.is p) (c.mono m2.ff) b) kk⟩
theorem FN{k:List Slot->Prop}(h:Wq ss te λtp xs=>Wa ss t λl=>k (.sq tp xs::l)):Wa ss (Ag te t) k:=⟨λE Z F H Q S q=>
 h.go E Z F H _ S λv tp xs F1 H1 a c h2=>h2.go E Z F1 H1 _ a.st λvs l F2 H2 m2 b kk=>q _ _ F2 H2 (a.trans m2) (.cons (s:=.sq tp xs) (c.mv m2) b) kk⟩
theorem sA{k:List Slot->Prop}{P:Hp->V->Prop}(hi:ss[i]?=some (.raw P))(h:Wa ss t λl=>k (.raw P::l)):Wa ss (Ag (Ar i) t) k:=⟨λE Z F H Q S q=>by
 obtain⟨v,e,r,st⟩:=S.ok i _ hi;exact⟨v,e,h.go E Z F H _ S λvs l F2 H2 m2 a kk=>q _ _ F2 H2 m2 (.cons (s:=.raw P) ⟨st _ _ m2.ff r,st⟩ a) kk⟩⟩
theorem dN{k:Option Int->Prop}(h:k none):Wo ss Vj k:=⟨λE Z F H Q S q=>q _ F H (.refl S) h⟩
theorem eX{k:Option Int->Prop}(h:Wp ss te λp=>∃i,p=.int i/\k (some i)):Wo ss (Sy te) k:=⟨λE Z F H Q S q=>
 h.el E S λi F1 H1 a kk=>⟨i,rfl,q _ F1 H1 a kk⟩⟩
theorem Iu{n:Nat}(h:n<=99999):n<sizeLine:=CG (Nat.lt_succ_of_le h) (small (Aa 100000))
theorem Qw(h:We ss t λps=>ps.length<=100000/\k (.tup ps)):Wp ss (Q7 t) k:=⟨λE Z F H Q S q=>
 h.go E Z F H _ S λvs ps F1 H1 c b AN=>by obtain⟨hz,kk⟩:=AN;exact⟨small (by rw[b.length];exact hz),λa d=>by
  have m2:=c.st.alloc d (.tup vs);exact q _ _ _ _ (c.trans m2) (.tup AX (b.mono m2.ff)) kk⟩⟩
theorem SG{k:List PV->Prop}(h:We ss t λps=>ps.length<=100000/\k ps):Wn ss (Sa t) k:=⟨λE Z F H Q S q=>
 h.go E Z F H _ S λvs ps F1 H1 b d AN=>by obtain⟨hz,kk⟩:=AN;exact⟨small (by rw[d.length];exact hz),λa c=>by
  have m2:=b.st.make c (.lst vs);refine q a vs ps F1 _ (b.trans m2) (b.st.Bi c) ?_ AX d kk;cases e:H a with
  |none=>rfl
  |some o=>rw[b.hh a o (b.st.GO c) e]at c;cases c⟩⟩
theorem Hq(h:Wq ss te λ_ xs=>k (.int xs.length)):Wp ss (CO (Kh K) (Ag te BK)) k:=⟨λE Z F H Q S q=>
 h.go E Z F H _ S λv tp xs F1 H1 a sv kk=>by
  obtain⟨l,vs,rfl,b,r⟩:=sv.seq a.st;refine⟨l,vs,rfl,(DJ.sq (K:=K) b).or,?_⟩;rw[r.length];exact q _ _ F1 H1 a (.int _) kk⟩
theorem AF.BR{i:Int}(r:AF F vs xs)(h:L2.BR xs i=some p):∃u,L2.BR vs i=some u/\Rep F u p:=by
 unfold L2.BR at h ⊢;rw[r.length];cases e:Ey xs.length i with
 |none=>rw[e]at h;cases h
 |some j=>
  rw[e]at h;exact r.get h
theorem FA(h:Wq ss ta λtp xs=>tp=false/\Wp ss tb λy=>∃i p,y=.int i/\L2.BR xs i=some p/\k p):Wp ss (B8 (Di K) ta tb) k:=⟨λE Z F H Q S q=>
 h.go E Z F H _ S λv tp xs F1 H1 a sv⟨j,h2⟩=>h2.go E Z F1 H1 _ a.st λv2 p2 F2 H2 m2 c⟨i,p,e,g,kk⟩=>by
  subst e;cases c.inv;subst j;obtain⟨l,vs,rfl,f,r⟩:=(sv.mv m2).seq m2.st;obtain⟨u,d,b⟩:=r.BR g;exact⟨l,vs,i,u,rfl,rfl,AG.of f,d,q _ _ F2 H2 (a.trans m2) b kk⟩⟩
theorem JY(h:Wq ss ta λtp xs=>tp=true/\Wp ss tb λy=>∃i p,y=.int i/\L2.BR xs i=some p/\k p):Wp ss (B8 (Hr K) ta tb) k:=⟨λE Z F H Q S q=>
 h.go E Z F H _ S λv tp xs F1 H1 a sv⟨j,h2⟩=>h2.go E Z F1 H1 _ a.st λv2 p2 F2 H2 m2 c⟨i,p,e,g,kk⟩=>by
  subst e;cases c.inv;subst j;obtain⟨l,vs,rfl,f,r⟩:=(sv.mv m2).seq m2.st;obtain⟨u,d,b⟩:=r.BR g;exact⟨l,vs,i,u,rfl,rfl,Ab.of f,d,q _ _ F2 H2 (a.trans m2) b kk⟩⟩
theorem TM(h:Wq ss ta λtp xs=>Wp ss tb λy=>∃i p,y=.int i/\L2.BR xs i=some p/\k p):Wp ss (B8 (λx y H Q=>Di K x y H Q∨Hr K x y H Q) ta tb) k:=⟨λE Z F H Q S q=>
 h.go E Z F H _ S λv tp xs F1 H1 a sv h2=>h2.go E Z F1 H1 _ a.st λv2 p2 F2 H2 m2 f AN=>by
  obtain⟨i,p,e,g,kk⟩:=AN;subst e;cases f.inv;obtain⟨l,vs,rfl,d,r⟩:=(sv.mv m2).seq m2.st;obtain⟨u,c,b⟩:=r.BR g;cases tp with
  |false=>exact .inl ⟨l,vs,i,u,rfl,rfl,AG.of d,c,q _ _ F2 H2 (a.trans m2) b kk⟩
  |true=>exact .inr ⟨l,vs,i,u,rfl,rfl,Ab.of d,c,q _ _ F2 H2 (a.trans m2) b kk⟩⟩
theorem rV(h:Wp ss ta λp=>∃x,p=.str x/\Wq ss tb λ_ ys=>∃ns:List Str,ys=ns.map PV.str/\k (.bl (if neg then !decide (x∈ns)else decide (x∈ns)))):Wp ss (B8 (Lj K neg) ta tb) k:=⟨λE Z F H Q S q=>
 h.el E S λx F1 H1 a h2=>by
  exact h2.go E Z F1 H1 _ a.st λv2 tp ys F2 H2 m2 sv Hc=>by
   obtain⟨ns,c,kk⟩:=Hc;subst c;obtain⟨l,vs,rfl,b,r⟩:=sv.seq m2.st;rw[r.strs]at b;refine⟨l,_,rfl,(DJ.sq (K:=K) b).or,rfl,Hi ns,?_⟩;rw[Qn];exact q _ _ F2 H2 (a.trans m2) (.bl _) kk⟩
theorem Hs{k:List PV->Prop}(d:r=λxs H Q=>∃p ys,xs=[.ref p]/\(AG K H p ys∨Ab K H p ys)/\∀l,H l=none->Q (.ref l) (upd H l (.lst ys)))(h:Wq ss te λ_ xs=>k xs):Wn ss (CO r (Ag te BK)) k:=⟨λE Z F H Q S q=>
 h.go E Z F H _ S λv tp xs F1 H1 b sv kk=>by
  subst d;obtain⟨l,vs,rfl,e,r⟩:=sv.seq b.st;refine⟨l,vs,rfl,(DJ.sq (K:=K) e).or,λa c=>?_⟩;have m2:=b.st.make c (.lst vs);exact q a vs xs F1 _ (b.trans m2) (b.st.Bi c) (b.none c) AX r kk⟩
theorem U9(d:r=λxs H Q=>∃p ys,xs=[.ref p]/\((AG K H p ys/\∀l,H l=none->Q (.ref l) (upd H l (.tup ys)))∨(Ab K H p ys/\Q (.ref p) H)))(h:Wq ss te λ_ xs=>k (.tup xs)):Wp ss (CO r (Ag te BK)) k:=⟨λE Z F H Q S q=>
 h.go E Z F H _ S λv tp xs F1 H1 b sv kk=>by
  subst d;cases tp with
  |false=>
   obtain⟨l,vs,rfl,f,r⟩:=sv.seq b.st;refine⟨l,vs,rfl,.inl ⟨AG.of f,λa g=>?_⟩⟩;have m2:=b.st.alloc g (.tup vs);exact q _ _ _ _ (b.trans m2) (.tup AX (r.mono m2.ff)) kk
  |true=>
   have c:Rep F1 v (.tup xs):=sv;cases c with
   |tup e r=>exact⟨_,_,rfl,.inr ⟨Ab.of (b.st.fh _ _ e),q _ _ F1 H1 b (.tup e r) kk⟩⟩⟩
def Mm(xs:List α)(lo hi:Option Int):List α:=(xs.drop (HT.DH xs.length 0 lo)).take (HT.DH xs.length xs.length hi - HT.DH xs.length 0 lo)
theorem AF.cut(r:AF F vs xs)(lo hi:Option Int):AF F (KJ vs lo hi) (Mm xs lo hi):=by
 unfold KJ Mm;rw[r.length];exact(r.drop _).take _
theorem Yj{k:List PV->Prop}{tl th:TO}(h:Wq ss te λtp xs=>tp=false/\Wo ss tl λlo=>Wo ss th λhi=>k (Mm xs lo hi)):Wn ss (Ro (c6 K) te tl th) k:=⟨λE Z F H Q S q=>
 h.go E Z F H _ S λv tp xs F1 H1 c sv⟨i,h2⟩=>h2.go E Z F1 H1 _ c.st λlo F2 H2 m2 g=>g.go E Z F2 H2 _ m2.st λhi F3 H3 b kk=>by
  subst i;obtain⟨l,vs,rfl,f,r⟩:=(sv.mv (m2.trans b)).seq b.st;refine⟨l,vs,rfl,AG.of f,λa d=>?_⟩;have e:=b.st.make d (.lst (KJ vs lo hi));exact q a _ _ F3 _ (c.trans (m2.trans (b.trans e))) (b.st.Bi d) ((c.trans (m2.trans b)).none d) AX (r.cut lo hi) kk⟩
noncomputable def nh(tp:Bool)(xs:List PV):PV:=if tp then .tup xs else .lst xs
theorem Pp{k:List PV->Prop}(h:Wq ss te λ_ xs=>∃ns:List Str,xs=ns.map PV.str/\ns.length<64/\∀Cb:List Str,Cb.Perm ns->sortedS Cb=true->k (Cb.map PV.str)):Wn ss (CO (Qu K) (Ag te BK)) k:=⟨λE Z F H Q S q=>
 h.go E Z F H _ S λv tp xs F1 H1 b sv AN=>by
  obtain⟨ns,e,hz,kk⟩:=AN;subst e;obtain⟨l,vs,rfl,d,r⟩:=sv.seq b.st;rw[r.strs]at d;refine⟨l,tp,ns,rfl,DJ.sq d,hz,λa Cb c g f=>?_⟩;have m2:=b.st.make c (.lst (Cb.map V.str));exact q a _ _ F1 _ (b.trans m2) (b.st.Bi c) (b.none c) AX (UR Cb) (kk Cb g f)⟩
theorem yT(xs ys:List Str):Ez (xs.map V.str) (ys.map V.str)=decide (xs=ys):=by
 by_cases h:xs=ys
 .subst h;rw[nM,hU rfl]
 .rw[iF h]
  by_cases a:xs.length=ys.length
  .rw[KO (by simpa using a)]
   cases c:(List.range (xs.map V.str).length).all λj=>Dp ((xs.map V.str).getD j .A6) ((ys.map V.str).getD j .A6)with
   |false=>rfl
   |true=>
    exfalso;apply h;apply RV a;intro j h1 h2;have q:=List.all_eq_true.mp c j (List.mem_range.mpr (by simpa using h1))
    have e1:(xs.map V.str)[j]?=some (.str xs[j]):=by rw[AO,AK h1];rfl
    have d:(ys.map V.str)[j]?=some (.str ys[j]):=by rw[AO,AK h2];rfl
    rw[J9 e1,J9 d]at q;have b:(xs[j] == ys[j])=true:=q
    simpa using b
  .rw[Jl (by simpa using a)]
theorem ao(h:Wq ss ta λtp xs=>∃ns:List Str,xs=ns.map PV.str/\Wq ss tb λBZ ys=>BZ=tp/\∃ms:List Str,ys=ms.map PV.str/\k (.bl (if neg then !decide (ns=ms)else decide (ns=ms)))):Wp ss (B8 (MD K neg) ta tb) k:=⟨λE Z F H Q S q=>
 h.go E Z F H _ S λv tp xs F1 H1 a sv⟨ns,e1,h2⟩=>h2.go E Z F1 H1 _ a.st λv2 BZ ys F2 H2 m2 Jx⟨d,ms,e,kk⟩=>by
  subst e1;subst e;subst d;obtain⟨l,vs,rfl,b,r⟩:=(sv.mv m2).seq m2.st;obtain⟨l2,Ie,rfl,CJ,c⟩:=Jx.seq m2.st;rw[r.strs]at b;rw[c.strs]at CJ;refine⟨l,l2,ns.map V.str,ms.map V.str,rfl,rfl,?_,Hi _,Hi _,?_⟩
  .cases BZ
   .exact .inl ⟨AG.of b,AG.of CJ⟩
   .exact .inr ⟨Ab.of b,Ab.of CJ⟩
  .rw[yT];cases neg
   .exact q _ _ F2 H2 (a.trans m2) (.bl _) kk
   .exact q _ _ F2 H2 (a.trans m2) (.bl _) kk⟩
theorem LR(c:r=λxs H Q=>∃(p:Addr)(bs:List Bool),xs=[.ref p]/\AG K H p (bs.map V.bl)/\Q (.bl (bs.all id)) H)(h:Wq ss te λtp xs=>tp=false/\∃bs:List Bool,xs=bs.map PV.bl/\k (.bl (bs.all id))):Wp ss (CO r (Ag te BK)) k:=⟨λE Z F H Q S q=>
 h.go E Z F H _ S λv tp xs F1 H1 a sv AN=>by
  obtain⟨d,bs,e,kk⟩:=AN;subst c;subst e;subst d;obtain⟨l,vs,rfl,b,r⟩:=sv.seq a.st;rw[r.dU]at b;exact⟨l,bs,rfl,AG.of b,q _ _ F1 H1 a (.bl _) kk⟩⟩
theorem Zy(c:r=λxs H Q=>∃(p:Addr)(bs:List Bool),xs=[.ref p]/\AG K H p (bs.map V.bl)/\Q (.bl (bs.any id)) H)(h:Wq ss te λtp xs=>tp=false/\∃bs:List Bool,xs=bs.map PV.bl/\k (.bl (bs.any id))):Wp ss (CO r (Ag te BK)) k:=⟨λE Z F H Q S q=>
 h.go E Z F H _ S λv tp xs F1 H1 a sv AN=>by
  obtain⟨d,bs,e,kk⟩:=AN;subst c;subst e;subst d;obtain⟨l,vs,rfl,b,r⟩:=sv.seq a.st;rw[r.dU]at b;exact⟨l,bs,rfl,AG.of b,q _ _ F1 H1 a (.bl _) kk⟩⟩
noncomputable def tyP:PV->String
 | .A6 => "NoneType"
 | .bl _ => "bool"
 | .int _ => "int"
 | .str _ => "str"
 | .lst _ => "list"
 | .tup _ => "tuple"
 | .As _ _ => "dict"
 |_ => ""
def Kr:PV->Value
 | .obj _ _ _=>.none
 | .exc _ _ _=>.none
 | .con _ _=>.none
 |p=>.type (tyP p)
theorem Qh(h:PySem.W.kitOne K .none (.type n)=some b):False:=by
 unfold PySem.W.kitOne PySem.W.kitCls PySem.W.subIn at h;simp at h
theorem Rep.i4(s:AD F H)(r:Rep F v p)(a:PySem.W.kitOne K (Kr p) (.type n)=some b):Ef K H v (Kr p):=by
 cases r with
 |A6=>exact .A6
 |bl b=>exact .bl b
 |int i=>exact .int i
 |str x=>exact .str x
 |lst h _=>exact .lst (s _ _ h)
 |tup h _=>exact .tup (s _ _ h)
 |As h _ _=>exact .dK (s _ _ h)
 |obj _ _ _ _=>exact(Qh a).elim
 |QR _=>exact(Qh a).elim
 |con=>exact(Qh a).elim
 |exc _ _ _ _=>exact(Qh a).elim
theorem Li(h:Wp ss te λp=>∃b,PySem.W.kitOne K (Kr p) (.type n)=some b/\k (.bl b)):Wp ss (CO (N6 K) (Ag te (Ag (tC (.ty n)) BK))) k:=⟨λE Z F H Q S q=>
 h.go E Z F H _ S λv p F1 H1 a r AN=>by obtain⟨b,c,kk⟩:=AN;exact⟨v,n,_,b,rfl,r.i4 a.st.fh c,c,q _ _ F1 H1 a (.bl _) kk⟩⟩
theorem zS(h:Wq ss te λtp xs=>∃b,PySem.W.kitOne K (.type (tyP (nh tp xs))) (.type n)=some b/\k (.bl b)):Wp ss (CO (N6 K) (Ag te (Ag (tC (.ty n)) BK))) k:=⟨λE Z F H Q S q=>
 h.go E Z F H _ S λv tp xs F1 H1 a sv AN=>by
  obtain⟨b,d,kk⟩:=AN;obtain⟨l,vs,rfl,c,r⟩:=sv.seq a.st;refine⟨_,n,_,b,rfl,?_,d,q _ _ F1 H1 a (.bl _) kk⟩;cases tp
  .exact .lst c
  .exact .tup c⟩
theorem nR(c:r=λxs H Q=>∃i j,xs=[.int i,.int j]/\Q (.int (if j > i then j else i)) H)(h:Wp ss ta λx=>∃i,x=.int i/\Wp ss tb λy=>∃j,y=.int j/\k (.int (if j > i then j else i))):Wp ss (CO r (Ag ta (Ag tb BK))) k:=⟨λE Z F H Q S q=>
 h.go E Z F H _ S λv p F1 H1 a b AN=>by
  obtain⟨i,e1,h2⟩:=AN;subst c;subst e1;cases b.inv;exact h2.el E a.st λj F2 H2 m2 kk=>by
   exact⟨i,j,rfl,q _ _ F2 H2 (a.trans m2) (.int _) kk⟩⟩
theorem zM(c:r=λxs H Q=>∃i j,xs=[.int i,.int j]/\Q (.int (if j<i then j else i)) H)(h:Wp ss ta λx=>∃i,x=.int i/\Wp ss tb λy=>∃j,y=.int j/\k (.int (if j<i then j else i))):Wp ss (CO r (Ag ta (Ag tb BK))) k:=⟨λE Z F H Q S q=>
 h.go E Z F H _ S λv p F1 H1 a b AN=>by
  obtain⟨i,e1,h2⟩:=AN;subst c;subst e1;cases b.inv;exact h2.el E a.st λj F2 H2 m2 kk=>by
   exact⟨i,j,rfl,q _ _ F2 H2 (a.trans m2) (.int _) kk⟩⟩
end
structure Src (E:Ent0) (F1:Hp) (J:It) (xs:List PV):Prop where
 go:∀(ss:List Slot)(Z:L2.St)(F H:Hp)(i:Nat),AD F1 F->Sg E ss Z F H->i<xs.length->J.go i H
 stop:∀(ss:List Slot)(Z:L2.St)(F H:Hp),AD F1 F->Sg E ss Z F H->J.stop xs.length H
 Dc:∀(ss:List Slot)(Z:L2.St)(F H:Hp)(i:Nat)(x:V)(H':Hp),AD F1 F->Sg E ss Z F H->i<xs.length->J.Dc i H x H'->∃p F',xs[i]?=some p/\Mv E ss Z F H F' H'/\Rep F' x p
structure Wi [Xw] (ss:List Slot) (wi:TI) (k:List PV->Prop):Prop where
 go:∀(E:Ent)(Z:L2.St)(F H:Hp)(R:It->Hp->Prop),Sg E ss Z F H->(∀J xs F' H',Mv E ss Z F H F' H'->Src E F' J xs->k xs->R J H')->wi Z H R
structure Wg [Xw] (ss:List Slot) (g:TG) (p:PV) (k:List Slot->Prop):Prop where
 go:∀(E:Ent)(Z:L2.St)(F H:Hp)(v:V)(Q:L2.St->Hp->Prop),Sg E ss Z F H->Rep F v p->(∀A5 σ',k A5->Sg E A5 σ' F H->Q σ' H)->g v Z H Q
section
variable[Xw]
variable{K:ZBx}{tb:TE}{k:PV->Prop}{R:Ae}
theorem ZY(h:∀(ss:List Slot)(Z:L2.St)(F H:Hp),AD F' F->Sg E ss Z F H->H l=some (DJ tp vs))(r:AF F' vs xs):Src E F' (Io K tp l vs) xs where
 go:=λss Z F H i s S hi=>⟨DJ.sq (h ss Z F H s S),by rw[r.length];exact hi⟩
 stop:=λss Z F H s S=>⟨DJ.sq (h ss Z F H s S),by rw[r.length];exact Aa _⟩
 Dc:=λss Z F H i x H' s S hi y=>by
  obtain⟨e,hx⟩:=y;subst e;obtain⟨p,b,a⟩:=r.get' hx;exact⟨p,F,b,.refl S,a.mono s⟩
theorem Dh{k:List PV->Prop}(h:Wz ss te λ_ xs=>k xs):Wi ss (ND K te) k:=⟨λE Z F H R S q=>
 h.go E Z F H _ S λv tp xs F1 H1 a f kk=>by
  cases tp with
  |true=>
   have c:Rep F1 v (.tup xs):=f;cases c with
   |tup e r=>exact⟨true,_,_,rfl,Ab.of (a.st.fh _ _ e),q _ _ F1 H1 a (ZY (tp:=true) (λss Z F H s S=>S.fh _ _ (s _ _ e)) r) kk⟩
  |false=>
   obtain⟨l,vs,rfl,h1,r⟩:=f;have b:∀(ss:List Slot)(Z:L2.St)(F H:Hp),AD F1 F->Sg E ss Z F H->H l=some (.lst vs):=λss Z F H s S=>by
    rcases h1 with h1|⟨hA,h1⟩
    .exact S.fh _ _ (s _ _ h1)
    .exact S.keep _ _ hA h1
   exact⟨false,l,vs,rfl,AG.of (b ss Z F1 H1 (AD.refl _) a.st),q _ _ F1 H1 a (ZY (tp:=false) b r) kk⟩⟩
noncomputable def Kq(n:Nat):List PV:=(List.range n).map λi:Nat=>PV.int (i:Int)
theorem Jq(n:Nat):(Kq n).length=n:=by simp[Kq]
theorem Ox{n:Nat}(h:(Kq n)[i]?=some p):i<n/\p=.int (i:Int):=by
 have hi:i<n:=by have:=(List.getElem?_eq_some_iff.mp h).1;rwa [Jq]at this
 unfold Kq at h;rw[AO,RX hi]at h;exact⟨hi,(B3 h).symm⟩
theorem KW{k:List PV->Prop}(h:Wp ss te λp=>∃j:Int,p=.int j/\j<=1000000/\-1000000<=j/\k (Kq j.toNat)):Wi ss (RC (Ag te BK)) k:=⟨λE Z F H R S q=>
 h.el E S λj F1 H1 b a=>by
  obtain⟨h1,h2,kk⟩:=a;refine⟨j,rfl,by omega,by omega,q _ (Kq j.toNat) F1 H1 b ⟨λss Z F H i s S hi=>?_,λss Z F H s S=>?_,λss Z F H i x H' s S hi y=>?_⟩ kk⟩
  .rw[Jq]at hi;exact hi
  .show _<=_;rw[Jq];exact Aa _
  .obtain⟨e,hx⟩:=y;subst e;subst hx;rw[Jq]at hi;refine⟨.int (i:Int),F,?_,.refl S,?_⟩
   .unfold Kq;rw[AO,RX hi];rfl
   .rw[Int.zero_add];exact .int _⟩
theorem Gp{k:List Slot->Prop}(h:k (ss.set j (.is p))):Wg ss (Cf j) p k:=⟨λE Z F H v Q S r q=>q _ _ h (S.Gw r)⟩
theorem WL{k:List Slot->Prop}(h:∃a b,p=.tup [a,b]/\k ((ss.set i (.is a)).set j (.is b))):Wg ss (J8 K 2 (JZ (Cf i) (JZ (Cf j) Nb))) p k:=⟨λE Z F H v Q S r q=>by
 obtain⟨a,b,rfl,kk⟩:=h;obtain⟨_,_,rfl,e,r⟩:=r.inv;obtain⟨_,_,rfl,d,r⟩:=r.inv;obtain⟨_,_,rfl,c,r⟩:=r.inv;obtain rfl:=r.D0;exact⟨_,_,rfl,Ab.of (S.fh _ _ e),rfl,_,_,rfl,_,_,rfl,rfl,q _ _ kk ((S.Gw d).Gw c)⟩⟩
theorem bh{l:Nat}{k:List Slot->Prop}(h:∃a b c,p=.tup [a,b,c]/\k (((ss.set i (.is a)).set j (.is b)).set l (.is c))):Wg ss (J8 K 3 (JZ (Cf i) (JZ (Cf j) (JZ (Cf l) Nb)))) p k:=⟨λE Z F H v Q S r q=>by
 obtain⟨a,b,c,rfl,kk⟩:=h;obtain⟨_,_,rfl,e,r⟩:=r.inv;obtain⟨_,_,rfl,g,r⟩:=r.inv;obtain⟨_,_,rfl,f,r⟩:=r.inv;obtain⟨_,_,rfl,d,r⟩:=r.inv;obtain rfl:=r.D0;exact⟨_,_,rfl,Ab.of (S.fh _ _ e),rfl,_,_,rfl,_,_,rfl,_,_,rfl,rfl,q _ _ kk (((S.Gw g).Gw f).Gw d)⟩⟩
theorem B0{t:TS}(h:Ws ss t (λA5=>Ws A5 u nx R) R):Ws ss (M5 t u) nx R:=⟨λE D Z F H S c a=>
 h.go E { D with nx:=u D } Z F H S (λA5 σ' F' H' w S' s=>w.go E D σ' F' H' S' (λBy σ2 F2 H2 b S2 s2=>c By σ2 F2 H2 b S2 (s.trans s2)) a) a⟩
theorem EC{t:TS}(h:Ws ss t nx R):Ws ss (Tz t) nx R:=⟨λE D Z F H S b a=>⟨D.nx,h.go E { D with nx:=D.nx } Z F H S b a,λ_ _ q=>q⟩⟩
theorem Ws.mono{t:TS}(h:Ws ss t nx R)(i:∀s,nx s->Xl s):Ws ss t Xl R:=⟨λE D Z F H S b a=>h.go E D Z F H S (λA5 σ' F' H' n=>b A5 σ' F' H' (i _ n)) a⟩
theorem fo{t:TS}(J:List Slot->Prop)(h:Ws ss t J R)(h2:∀A5,J A5->Ws A5 u nx R):Ws ss (M5 t u) nx R:=B0 (h.mono h2)
theorem j3(h:Wp ss te λp=>nx (ss.set i (.is p))):Ws ss (EY te (Cf i)) nx R:=⟨λE D Z F H S b c=>
 h.go E Z F H _ S λv p F1 H1 a r kk=>b _ _ F1 H1 kk (a.st.Gw r) a.ff⟩
theorem bg(h:Wp ss te λp=>Wg ss g p nx):Ws ss (EY te g) nx R:=⟨λE D Z F H S b c=>
 h.go E Z F H _ S λv p F1 H1 a r kk=>kk.go E Z F1 H1 v _ a.st r λA5 σ' n S'=>b _ _ F1 H1 n S' a.ff⟩
theorem HM(h:Wn ss te λxs=>nx (ss.set i (.own xs))):Ws ss (EY te (Cf i)) nx R:=⟨λE D Z F H S d k=>
 h.go E Z F H _ S λl vs xs F1 H1 a f b Fd r kk=>d _ _ F1 H1 kk (a.st.setG ⟨l,vs,rfl,f,S.DD b,Fd,r⟩ λg e j u _ c mu=>by cases e;exact S.Kk c b mu) a.ff⟩
theorem FC(h:Wp ss te k):Ws ss (G3 te) nx (.is k):=⟨λE D Z F H S c b=>
 h.go E Z F H _ S λv p F1 H1 a r kk=>b v F1 H1 a.st.toFin ⟨p,r,kk⟩⟩
theorem N1{k:List PV->Prop}(h:Wn ss te k):Ws ss (G3 te) nx (.new k):=⟨λE D Z F H S e b=>
 h.go E Z F H _ S λl vs xs F1 H1 a d c Fd r kk=>b _ F1 H1 a.st.toFin ⟨l,vs,xs,rfl,d,S.DD c,Fd,r,kk⟩⟩
theorem Vk{k:List PV->Prop}(h:ss[i]?=some (.own xs))(kk:k xs):Ws ss (G3 (Ar i)) nx (.new k):=⟨λE D Z F H S d a=>by
 obtain⟨l,vs,e,e1,c,b,r⟩:=S.ok i _ h;exact⟨_,e,a _ F H S.toFin ⟨l,vs,xs,rfl,e1,c,b,r,kk⟩⟩⟩
theorem E8{t:TS}(h:Wt ss c λb=>if b=true then Ws ss t nx R else Ws ss u nx R):Ws ss (Ld c t u) nx R:=⟨λE D Z F H S e d=>
 h.go E Z F H _ S λb F1 H1 a w=>by
  show if b=true then _ else _
  cases b with
  |true=>rw[i5 rfl]at w ⊢;exact w.go E D Z F1 H1 a.st (λBy σ2 F2 H2 n S2 s2=>e By σ2 F2 H2 n S2 (a.ff.trans s2)) d
  |false=>rw[i3 (by decide)]at w ⊢;exact w.go E D Z F1 H1 a.st (λBy σ2 F2 H2 n S2 s2=>e By σ2 F2 H2 n S2 (a.ff.trans s2)) d⟩
theorem Ct(h:nx ss):Ws ss Qf nx R:=⟨λE D Z F H S a b=>a ss Z F H h S (AD.refl _)⟩
theorem cb(h:Wp ss te λ_=>nx ss):Ws ss (Hy te) nx R:=⟨λE D Z F H S b c=>
 h.go E Z F H _ S λv p F1 H1 a r kk=>b ss Z F1 H1 kk a.st a.ff⟩
theorem Sg.drop(S:Sg E ss Z F H)(i:Nat):Sg E (ss.set i .any) Z F H:=by
 have b:∀(j:Nat)u,(ss.set i .any)[j]?=some u->u=.any∨ss[j]?=some u:=λj u a=>by
  by_cases q:j=i
  .subst q;have d:j<ss.length:=by have:=(List.getElem?_eq_some_iff.mp a).1;simpa using this
   rw[Cr d]at a;exact .inl (B3 a).symm
  .rw[CM (BM q)]at a;exact .inr a
 refine⟨S.toFin,by rw[HW];exact S.len,λj u a=>?_,λj k u w l Pt a hk mu c=>?_⟩
 .rcases b j u a with rfl|h
  .trivial
  .exact S.ok j u h
 .rcases b j u a with rfl|h
  .cases mu
  .rcases b k w hk with rfl|h2
   .cases c
   .exact S.BL j k u w l Pt h h2 mu c
theorem Kd(e:Z[i]?=some (some v)):Z.set i (some v)=Z:=by
 apply OG;intro j
 by_cases q:j=i
 .subst q;rw[Cr (List.getElem?_eq_some_iff.mp e).1,e]
 .rw[CM (BM q)]
theorem Sg.La(S:Sg E ss Z F H)(k:F a=none)(c:E.H0 a=none∨a∈E.B)(g:∀(i:Nat)s,ss[i]?=some s->¬ B5 s Z[i]? a):Sg E ss Z F (upd H a o):=by
 have f:∀b u,b≠a->H b=some u->upd H a o b=some u:=λb u h e=>by rw[AS h];exact e
 refine⟨⟨λb u e=>?_,S.f0,λb u d e=>?_,S.fresh,λb d=>?_,S.MH,S.a0,S.bF,λb j=>?_,S.b0⟩,S.len,λi s hi=>?_,S.BL⟩
 .exact f b u (DV e k) (S.fh b u e)
 .refine f b u ?_ (S.keep b u d e);rintro rfl;rcases c with c|c
  .rw[c]at e;cases e
  .exact d.2 c
 .refine BV.keep (S.Dx b d) λu e=>f b u ?_ e;rintro rfl;rcases c with c|c
  .exact S.a0 _ d c
  .exact(S.b0 _ c).2 d
 .by_cases q:b=a
  .subst q;rw[AX];simp
  .rw[AS q];exact S.bH b j
 .by_cases np:s=.AH
  .subst np;obtain⟨l,e,e1,p,n⟩:=S.ok i _ hi;exact⟨l,e,e1,p,BV.keep n λu h=>f l u (by rintro rfl;exact g i _ hi e) h⟩
  .exact Ok.go S hi (AD.refl _) (λb u m h=>f b u (by rintro rfl;exact g i _ hi m) h) (λ_ _ h=>h) np
theorem Sg.put(S:Sg E ss Z F H){ys:List PV}(hi:ss[i]?=some (.own xs))(e:Z[i]?=some (some (.ref l)))(f:F l=none)(d:E.H0 l=none)(r:AF F C3 ys):Sg E (ss.set i (.own ys)) Z F (upd H l (.lst C3)):=by
 have a:∀(j:Nat)s,(ss.set i .any)[j]?=some s->¬ B5 s Z[j]? l:=λj s b c=>by
  by_cases q:j=i
  .subst q;have n:j<ss.length:=(List.getElem?_eq_some_iff.mp hi).1;rw[Cr n]at b;cases b;cases c
  .rw[CM (BM q)]at b;exact S.BL j i s _ l q b hi c e
 have m:=(S.drop i).La (o:=.lst C3) f (.inl d) a;have g:=m.setG (j:=i) (s:=.own ys) (v:=.ref l) ⟨l,C3,rfl,f,d,AX,r⟩ λp k j u b h mu=>by cases k;exact a j u h mu
 rw[Kd e,OI]at g;exact g
theorem SO(hi:ss[i]?=some (.own xs))(h:Wp ss te λp=>xs.length<=99999/\nx (ss.set i (.own (xs++[p])))):Ws ss (Hy (Mh K "list" QN (Ar i) (Ag te BK))) nx R:=⟨λE D Z F H S f k=>by
 obtain⟨l,vs,e,e1,m,g,r⟩:=S.ok i _ hi;refine⟨_,e,.inl ⟨rfl,_,AG.of g⟩,h.go E Z F H _ S λv p F1 H1 a d⟨hz,kk⟩=>?_⟩;obtain⟨j,C3,c,Cc,B9,O9,b⟩:=a.st.ok i _ hi;rw[e]at c;cases c;refine⟨l,C3,v,rfl,rfl,O9,Iu (by rw[b.length];exact hz),?_⟩;exact f _ Z F1 _ kk (a.st.put hi e Cc B9 (b.append (.one d))) a.ff⟩
theorem c8(hi:ss[i]?=some (.own xs))(h:Wp ss ta λa=>∃j:Int,a=.int j/\0<=j/\j<=xs.length/\Wp ss te λp=>xs.length<=99999/\nx (ss.set i (.own (xs.take j.toNat++p::xs.drop j.toNat)))):
  Ws ss (Hy (Mh K "list" W8 (Ar i) (Ag ta (Ag te BK)))) nx R:=⟨λE D Z F H S m s=>by
 obtain⟨l,vs,e,e1,t,o,r⟩:=S.ok i _ hi;refine⟨_,e,.inl ⟨rfl,_,AG.of o⟩,h.go E Z F H _ S λv1 p1 F1 H1 c LP⟨j,n,k,g,h2⟩=>?_⟩;subst n;cases LP.inv;refine h2.go E Z F1 H1 _ c.st λv p F2 H2 m2 f⟨hz,kk⟩=>?_;obtain⟨q,C3,d,Cc,B9,O9,b⟩:=m2.st.ok i _ hi;rw[e]at d;cases d;refine⟨l,C3,j,v,rfl,rfl,O9,k,by rw[b.length];exact g,Iu (by rw[b.length];exact hz),?_⟩;exact m _ Z F2 _ kk (m2.st.put hi e Cc B9 ((b.take _).append (.cons f (b.drop _)))) (c.ff.trans m2.ff)⟩
noncomputable def Bs(F H:Hp)(as:List Addr):Hp:=λa=>if a∈as then H a else F a
theorem Sg.lay(S:Sg E ss Z F H)(as:List Addr)(g:∀a∈as,F a=none/\E.H0 a=none/\H a≠none)(w:∀a∈as,∀(i:Nat)s,ss[i]?=some s->¬ B5 s Z[i]? a):Sg E ss Z (Bs F H as) H/\AD F (Bs F H as):=by
 have x:∀a,a∈as->Bs F H as a=H a:=λa h=>i5 h;have j:∀a,a∉as->Bs F H as a=F a:=λa h=>i3 h;have ff:AD F (Bs F H as):=λa o e=>by
  by_cases q:a∈as
  .rw[(g a q).1]at e;cases e
  .rw[j a q];exact e
 have f:∀a,a∉as->F a=none->Bs F H as a=none:=λa q h=>by rw[j a q];exact h
 refine⟨⟨⟨λa o e=>?_,S.f0.trans ff,S.keep,λa o e=>?_,S.Dx,λa u=>?_,S.a0,λa n=>?_,S.bH,S.b0⟩,S.len,λi s hi=>?_,S.BL⟩,ff⟩
 .by_cases q:a∈as
  .rw[x a q]at e;exact e
  .rw[j a q]at e;exact S.fh a o e
 .by_cases q:a∈as
  .exact .inr (g a q).2.1
  .rw[j a q]at e;exact S.fresh a o e
 .exact f a (λq=>S.a0 a u (g a q).2.1) (S.MH a u)
 .exact f a (λq=>(S.b0 a n).1 (g a q).2.1) (S.bF a n)
 .have no:∀a,B5 s Z[i]? a->a∉as:=λa m q=>w a q i s hi m;have kk:=S.ok i s hi;cases s with
  |any=>trivial
  |is p=>obtain⟨v,e,r⟩:=kk;exact⟨v,e,r.mono ff⟩
  |own ys=>
   obtain⟨b,ws,q,d,c,k,r⟩:=kk;exact⟨b,ws,q,f b (no b q) d,c,k,r.mono ff⟩
  |AH=>
   obtain⟨b,q,d,c,k⟩:=kk;exact⟨b,q,f b (no b q) d,c,k⟩
  |sq tp ys=>
   cases tp with
   |true=>obtain⟨v,e,r⟩:=kk;exact⟨v,e,r.mono ff⟩
   |false=>obtain⟨b,ws,q,d,c,r⟩:=kk;exact⟨b,ws,q,d,c,r.mono ff⟩
  |raw P=>obtain⟨v,e,r,st⟩:=kk;exact⟨v,e,st _ _ ff r,st⟩
  |ow lt t=>
   obtain⟨v,e,r,nd,q⟩:=kk;exact⟨v,e,r.mono ff λa _ o h=>h,nd,λa l=>⟨f a (no a l) (q a l).1,(q a l).2⟩⟩
theorem Lm{t:TS}(i:Nat)(hi:ss[i]?=some (.own xs))(h:Ws (ss.set i (.is (.lst xs))) t nx R):Ws ss t nx R:=⟨λE D Z F H S k g=>by
 obtain⟨l,vs,e,e1,o,f,r⟩:=S.ok i _ hi;have one:∀a,a∈[l]->a=l:=λa h=>by simpa using h
 obtain⟨S1,d⟩:=(S.drop i).lay [l] (λa h=>by rw[one a h,f];exact⟨e1,o,by simp⟩) λa h j s b m=>by
  rw[one a h]at m
  by_cases q:j=i
  .subst q;rw[Cr (List.getElem?_eq_some_iff.mp hi).1]at b;cases b;cases m
  .rw[CM (BM q)]at b;exact S.BL j i s _ l q b hi m e
 have c:=S1.Gw (j:=i) (v:=.ref l) (p:=.lst xs) (.lst (by unfold Bs;rw[i5 (by simp)];exact f) (r.mono d));rw[Kd e,OI]at c;exact h.go E D Z _ H c (λBy σ2 F2 H2 n c s2=>k By σ2 F2 H2 n c (d.trans s2)) g⟩
theorem FK{tb:TS}(I:List PV->Nat->List Slot->Prop)(h:Wi ss wi λxs=>I xs 0 ss/\(∀(i:Nat)p A5,xs[i]?=some p->I xs i A5->Wg A5 g p λBy=>Ws By tb (I xs (i+1)) R)/\∀A5,I xs xs.length A5->nx A5):Ws ss (OO wi g tb) nx R:=⟨λE D Z F H S v t=>
 h.go E Z F H _ S λJ xs F1 H1 k d AN=>by
  obtain⟨i0,s,hd⟩:=AN;refine⟨λi m σ' H'=>m=xs.length - i/\i<=xs.length/\∃A5 F',I xs i A5/\Sg E A5 σ' F' H'/\AD F1 F',⟨_,rfl,Bo _,ss,F1,i0,k.st,AD.refl _⟩,?_⟩;rintro i m σ' H'⟨rfl,hi,A5,F',l,S',s'⟩
  by_cases f:i<xs.length
  .refine .inr ⟨d.go A5 σ' F' H' i s' S' f,λσ2 H2=>∃By F2,I xs (i+1) By/\Sg E By σ2 F2 H2/\AD F1 F2,λσ2 H2 Hc=>by obtain⟨By,F2,a,b,c⟩:=Hc;exact⟨_,by omega,rfl,f,By,F2,a,b,c⟩,λx H3 y=>?_⟩;obtain⟨p,F3,u,j,q⟩:=d.Dc A5 σ' F' H' i x H3 s' S' f y;refine(s i p A5 u l).go E σ' F3 H3 x _ j.st q λn σ4 w S4=>?_;exact w.go E _ σ4 F3 H3 S4 (λUl σ5 F5 H5 r S5 o=>⟨Ul,F5,r,S5,(s'.trans j.ff).trans o⟩) t
  .have e:i=xs.length:=by omega
   subst e;exact .inl ⟨d.stop A5 σ' F' H' s' S',v A5 σ' F' H' (hd A5 l) S' (k.ff.trans s')⟩⟩
theorem oR{tb:TS}(I:Nat->List Slot->Prop)(e:Nat)(o:I e ss)(h:∀m A5,I m A5->Wt A5 c λb=>if b=true then Ws A5 tb (λBy=>∃a,a < m/\I a By) R else nx A5):Ws ss (Vf c tb) nx R:=⟨λE D Z F H S k j=>by
 refine⟨λm σ' H'=>∃A5 F',I m A5/\Sg E A5 σ' F' H'/\AD F F',⟨e,ss,F,o,S,AD.refl _⟩,?_⟩;rintro m σ' H'⟨A5,F',n,S',s'⟩;refine(h m A5 n).go E σ' F' H' _ S' λb F1 H1 d w=>?_;cases b with
 |true=>
  rw[i5 rfl]at w;refine⟨λσ2 H2=>∃By F2,(∃a,a < m/\I a By)/\Sg E By σ2 F2 H2/\AD F F2,λσ2 H2 AN=>by obtain⟨By,F2,⟨a,l,i⟩,b,c⟩:=AN;exact⟨a,l,By,F2,i,b,c⟩,?_⟩;exact w.go E _ σ' F1 H1 d.st (λUl σ5 F5 H5 g S5 f=>⟨Ul,F5,g,S5,(s'.trans d.ff).trans f⟩) j
 |false=>
  rw[i3 (by decide)]at w;exact k A5 σ' F1 H1 w d.st (s'.trans d.ff)⟩
end
noncomputable def Bp(js:List Nat)(ss:List Slot):List Slot:=js.map λj=>(ss[j]?).getD .any
def MG(js:List Nat)(ss:List Slot):Bool:=js.all λj=>match ss[j]? with
 |some .AH=>false
 |_=>true
section
variable[Xw]
variable{K:ZBx}{js:List Nat}
theorem dW(h:js[i]?=some j)(e:(Bp js ss)[i]?=some s):s=(ss[j]?).getD .any:=by
 unfold Bp at e;rw[AO,h]at e;exact(B3 e).symm
theorem Sg.A7(S:Sg E ss Z F H)(nd:js.Nodup)(r:AF F vs ps):Sg E (Bp js ss++ps.map .is) (Ak js Z++vs.map some) F H:=by
 have d:(Bp js ss).length=js.length:=by simp[Bp]
 have f:(Ak js Z).length=js.length:=by simp[Ak]
 have k:∀(i:Nat)(hi:i<js.length),(Bp js ss++ps.map .is)[i]?=some ((ss[js[i]]?).getD .any)/\(Ak js Z++vs.map some)[i]?=some ((Z[js[i]]?).join):=λi hi=>by
  rw[DO (by rw[d];exact hi),DO (by rw[f];exact hi)];unfold Bp Ak;rw[AO,AO,AK hi];exact⟨rfl,rfl⟩
 have c:∀(i:Nat)s,js.length<=i->(Bp js ss++ps.map .is)[i]?=some s->∃p v,s=.is p/\(Ak js Z++vs.map some)[i]?=some (some v)/\Rep F v p:=λi s hi e=>by
  rw[FD (by rw[d];exact hi),d,AO]at e;rw[FD (by rw[f];exact hi),f,AO];cases q:ps[i - js.length]? with
  |none=>rw[q]at e;cases e
  |some p=>
   rw[q]at e;obtain⟨v,h,g⟩:=r.get q;rw[h];exact⟨p,v,(B3 e).symm,rfl,g⟩
 have C:∀(s:Slot)(m:Nat)(l:Addr),B5 s (some (Z[m]?).join) l->B5 s Z[m]? l:=λs m l o=>by
  have w:∀l,some (Z[m]?).join=some (some (V.ref l))->Z[m]?=some (some (.ref l)):=λl e=>by
   cases q:Z[m]? with
   |none=>rw[q]at e;cases e
   |some o=>rw[q]at e;cases o with
    |none=>cases e
    |some v=>simpa using e
  cases s with
  |own xs=>exact w l o
  |AH=>exact w l o
  |ow lt t=>exact o
  |_=>exact o
 have n:∀(i:Nat)s l,(Bp js ss++ps.map .is)[i]?=some s->B5 s (Ak js Z++vs.map some)[i]? l->∃hi:i<js.length,ss[js[i]]?=some s/\B5 s Z[js[i]]? l:=λi s l e m=>by
  by_cases hi:i<js.length
  .rw[(k i hi).2]at m;refine⟨hi,?_,C s _ l m⟩;rw[(k i hi).1]at e;cases q:ss[js[i]]? with
   |none=>rw[q]at e;cases e;cases m
   |some u=>rw[q]at e;exact e
  .obtain⟨p,v,rfl,_⟩:=c i s (by omega) e;cases m
 refine⟨S.toFin,?_,λi s e=>?_,λi j s u l CH hi B ms mu=>?_⟩
 .rw[BX,BX,d,f,AA,AA,r.length]
 .by_cases hi:i<js.length
  .obtain⟨a,b⟩:=k i hi;rw[a]at e;rw[b];cases q:ss[js[i]]? with
   |none=>rw[q]at e;cases e;trivial
   |some u=>
    rw[q]at e;have D:u=s:=B3 e;subst D;have kk:=S.ok _ _ q;cases u with
    |any=>trivial
    |is p=>obtain⟨v,e,r⟩:=kk;rw[e];exact⟨v,rfl,r⟩
    |own xs=>obtain⟨l,vs,e,r⟩:=kk;rw[e];exact⟨l,vs,rfl,r⟩
    |AH=>obtain⟨l,e,r⟩:=kk;rw[e];exact⟨l,rfl,r⟩
    |sq tp xs=>
     cases tp with
     |true=>obtain⟨v,e,r⟩:=kk;rw[e];exact⟨v,rfl,r⟩
     |false=>obtain⟨l,vs,e,r⟩:=kk;rw[e];exact⟨l,vs,rfl,r⟩
    |raw P=>obtain⟨v,e,r⟩:=kk;rw[e];exact⟨v,rfl,r⟩
    |ow lt t=>obtain⟨v,e,r⟩:=kk;rw[e];exact⟨v,rfl,r⟩
  .obtain⟨p,v,rfl,h,g⟩:=c i s (by omega) e;rw[h];exact⟨v,rfl,g⟩
 .obtain⟨I,y,A⟩:=n i s l hi ms;obtain⟨G,x,z⟩:=n j u l B mu;refine S.BL js[i] js[j] s u l (λe=>CH ?_) y x A z;exact(ZAe nd).mp e
theorem Mv.out(S:Sg E ss Z F H)(np:MG js ss=true)(m:Mv E (Bp js ss++ps.map .is) τ F H F' H'):Mv E ss Z F H F' H':=by
 have nn:∀a,C7 (Bp js ss++ps.map .is) τ a:=λa i hi _=>by
  by_cases h:i<(Bp js ss).length
  .rw[DO h]at hi;have b:i<js.length:=by simpa[Bp]using h
   have q:=dW (AK b) hi;have z:=List.all_eq_true.mp np js[i] (Fi b);cases w:ss[js[i]]? with
   |none=>rw[w]at q;cases q
   |some u=>rw[w]at q z;cases q;cases z
  .rw[FD (by omega),AO]at hi;cases w:ps[i - (Bp js ss).length]? with
   |none=>rw[w]at hi;cases hi
   |some p=>rw[w]at hi;cases hi
 have hk:∀a o,H a=some o->H' a=some o:=λa o e=>m.hh a o (nn a) e;exact S.step m.ff m.st.fh (λa o _ e=>hk a o e) m.nn λi l hi e=>BV.keep (S.Ek hi e) λo e=>hk l o e
theorem JJ{k:List PV->Prop}(f:PV->Bool)(g:PV->PV)
  (h:Wi ss wi λxs=>xs.length<=100000/\(∀x∈xs,Wt (Bp js ss++[.is x]) tt λb=>b=f x)/\(∀x∈xs,f x=true->Wp (Bp js ss++[.is x]) te λp=>p=g x)/\k ((xs.filter f).map g))
  (nd:js.Nodup:=by decide) (np:MG js ss=true:=by rfl):Wn ss (GV wi js tt te) k:=⟨λE Z F H Q S q=>
 h.go E Z F H _ S λJ xs F1 H1 c B⟨hz,R,T,kk⟩acc B6=>by
  have L:C7 ss Z acc:=c.st.GO B6;have J7:=c.st.DD B6;have σ:∀(i:Nat)s,ss[i]?=some s->¬ B5 s Z[i]? acc:=λi s hi=>c.st.Kk hi B6;refine⟨λi m H2=>m=xs.length - i/\i<=xs.length/\∃F2 vs,Mv E ss Z F1 H1 F2 H2/\F2 acc=none/\H2 acc=some (.lst vs)/\AF F2 vs (((xs.take i).filter f).map g),⟨_,rfl,Bo _,F1,[],c.st.make B6 _,c.st.Bi B6,AX,.nil⟩,?_⟩;rintro i m H2⟨rfl,hi,F2,vs,m2,I,v,r⟩
  by_cases l:i<xs.length
  .refine .inr ⟨B.go ss Z F2 H2 i m2.ff m2.st l,λx H3 y=>?_⟩;obtain⟨p,F3,D,t,G⟩:=B.Dc ss Z F2 H2 i x H3 m2.ff m2.st l y;have N:p∈xs:=BB D;have Es:(xs.take (i+1))=xs.take i++[p]:=by
    have W:xs[i]=p:=by rw[AK l]at D;exact B3 D
    rw[Jf l,W]
   have e1:List.filter f (xs.take (i+1))=(xs.take i).filter f++(if f p=true then[p]else[]):=by
    rw[Es,XB];congr 1
    by_cases d:f p=true <;> simp[d]
   have K:∀{F4:Hp},(∀a o,F4 a=some o->F2 a=some o∨H2 a=none)->F4 acc=none:=λ{F4}n=>by
    cases e:F4 acc with
    |none=>rfl
    |some o=>
     rcases n acc o e with w|w
     .rw[I]at w;cases w
     .rw[v]at w;cases w
   have Y:=t.st.A7 (js:=js) nd (.one G);refine(R p N).go E _ F3 H3 _ Y λb F4 H4 C U=>?_;have j:=t.trans (C.out (ps:=[p]) t.st np);show if b=true then _ else _
   rw[U]
   by_cases d:f p=true
   .rw[i5 d];have X:=j.st.A7 (js:=js) nd (.one (G.mono (C.out (ps:=[p]) t.st np).ff));refine(T p N d).go E _ F4 H4 _ X λw pw F5 H5 O K9 V=>?_;have P:=C.out (ps:=[p]) t.st np;have Kb:=O.out (ps:=[p]) j.st np;have A:=j.trans Kb;have KR:=A.hh acc _ L v;have M:=K A.nn;have u:vs.length<=99999:=by
     rw[r.length,AA];have:=XF f (xs.take i);rw[GC]at this;omega
    refine⟨vs,KR,Iu u,xs.length - (i+1),by omega,rfl,l,F5,vs++[w],?_,M,AX,?_⟩
    .have z:=m2.trans A;refine⟨z.st.La M (.inl J7) σ,z.ff,λa o n e=>?_,z.nn⟩;rw[AS (DV e B6)];exact z.hh a o n e
    .rw[e1,i5 d,EK];rw[V]at K9;exact(r.mono A.ff).append (.one K9)
   .have Ht:f p=false:=by simpa using d
    rw[Ht,i3 (by decide)];refine⟨xs.length - (i+1),by omega,rfl,l,F4,vs,m2.trans j,K j.nn,j.hh acc _ L v,?_⟩;rw[e1,i3 d,GB];exact r.mono j.ff
  .have e:i=xs.length:=by omega
   subst e;refine .inl ⟨B.stop ss Z F2 H2 m2.ff m2.st,q acc vs _ F2 H2 (c.trans m2) I (c.none B6) v ?_ kk⟩;rw[Eg]at r;exact r⟩
end
abbrev Pre:=List Slot->Ae->Prop
def Ap(pre:Pre):Sp:=λvs H Q _=>∃(ss:List Slot)(R:Ae)(F:Hp)(A:List Addr),pre ss R/\Sg (E3 A F H) ss (vs.map some) F H/\∀v F' H',Fin (E3 A F H) F' H'->R.ok (E3 A F H) F' H' v->Q v H'
section
variable[Xw]
variable{pre:Pre}{k:PV->Prop}
theorem HE.at{l:List Slot}(h:HE ss Z F H vs l):∀{i:Nat}{s:Slot},l[i]?=some s->∃v,vs[i]?=some v/\Av ss Z F H v s:=by
 induction h with
 |nil=>intro i s e;simp at e
 |cons a _ b=>
  intro i s e;cases i with
  |zero=>simp at e;subst e;exact⟨_,rfl,a⟩
  |succ i=>exact b (by simpa using e)
theorem HE.len{l:List Slot}(h:HE ss Z F H vs l):l.length=vs.length:=by
 induction h with
 |nil=>rfl
 |cons a _ b=>rw[BA,BA,b]
theorem Av.ok(S:Sg E ss Z F H)(a:Av ss Z F H v s)(b:∀l,C7 ss Z l->l∉A):Ok (E3 A F H) F H s (some (some v))/\∀o l,¬ B5 s o l:=by
 cases s with
 |is p=>exact⟨⟨v,rfl,a⟩,λ_ _ z=>z⟩
 |sq tp xs=>
  cases tp with
  |true=>exact⟨⟨v,rfl,a⟩,λ_ _ z=>z⟩
  |false=>obtain⟨l,vs,rfl,n,h,r⟩:=a;exact⟨⟨l,vs,rfl,⟨b l n,Aq⟩,h,r⟩,λ_ _ z=>z⟩
 |raw P=>exact⟨⟨v,rfl,a⟩,λ_ _ z=>z⟩
 |any=>exact a.elim
 |own xs=>exact a.elim
 |AH=>exact a.elim
 |ow lt t=>exact a.elim
theorem Sg.Sn(S:Sg E ss Z F H){l:List Slot}(a:HE ss Z F H vs l):Sg (E3 [] F H) l (vs.map some) F H:=by
 have nn:∀{p:Prop}(a:Addr),a∈([]:List Addr)->p:=λa h=>absurd h Aq;refine⟨⟨S.fh,AD.refl _,λ_ _ _ e=>e,λ_ _ e=>.inl e,λa h=>nn a h,λa h=>nn a h,λa h=>nn a h,λa h=>nn a h,λa h=>nn a h,λa h=>nn a h⟩,by rw[AA];exact a.len,λi s hi=>?_,λi j s u l CH hi c ms mu=>?_⟩
 .obtain⟨v,b,q⟩:=a.at hi;rw[AO,b];exact(q.ok S λ_ _ h=>absurd h Aq).1
 .obtain⟨v,b,q⟩:=a.at hi;exact(q.ok S (A:=[]) λ_ _ h=>absurd h Aq).2 _ _ ms
theorem Sg.iA(S:Sg E ss Z F H){p:Addr}(hi:ss[i0]?=some .AH)(e:Z[i0]?=some (some (.ref p))){l:List Slot}(a:HE ss Z F H vs l):Sg (E3 [p] F H) (.AH::l) ((V.ref p::vs).map some) F H:=by
 obtain⟨r,g,fp,_,b⟩:=S.ok i0 _ hi;rw[e]at g;cases g;have f:∀l,C7 ss Z l->l∉[p]:=λl n h=>by
  have:l=p:=by simpa using h
  subst this;exact n i0 hi e
 have one:∀a,a∈[p]->a=p:=λa h=>by simpa using h
 have nn:∀{p:Prop}(a:Addr),a∈([]:List Addr)->p:=λa h=>absurd h Aq;refine⟨⟨S.fh,AD.refl _,λ_ _ _ e=>e,λ_ _ e=>.inl e,λa h=>(one a h)▸b,λa h=>(one a h)▸fp,λa h=>?_,λa h=>nn a h,λa h=>nn a h,λa h=>nn a h⟩,by rw[AA,BA,BA];rw[a.len],λi s hi=>?_,λi j s u c CH hi k ms mu=>?_⟩
 .rw[one a h];obtain⟨_,_,q,_⟩:=b;show H p≠none;rw[q];simp
 .cases i with
  |zero=>simp at hi;subst hi;exact⟨p,rfl,fp,.inr (by simp),b⟩
  |succ i=>
   obtain⟨v,d,q⟩:=a.at (i:=i) (s:=s) (by simpa using hi)
   have:((V.ref p::vs).map some)[i+1]?=some (some v):=by rw[E9,ZAb,AO,d];rfl
   rw[this];exact(q.ok S f).1
 .have z:∀(i:Nat)s o c,(Slot.AH::l)[i]?=some s->B5 s o c->i=0:=λi s o c h m=>by
   cases i with
   |zero=>rfl
   |succ i=>
    obtain⟨v,d,q⟩:=a.at (i:=i) (s:=s) (by simpa using h)
    exact((q.ok S f).2 _ _ m).elim
  exact absurd ((z i s _ _ hi ms).trans (z j u _ _ k mu).symm) CH
theorem Sg.back(S:Sg E ss Z F H)(d:∀a,a∈A->∃i:Nat,ss[i]?=some .AH/\Z[i]?=some (some (.ref a)))(f:Fin (E3 A F H) F' H'):Mv E ss Z F H F' H':=by
 refine S.step f.f0 f.fh (λa o n e=>f.keep a o ⟨λh=>?_,Aq⟩ e) f.fresh λi l hi e=>?_
 .obtain⟨i,c,b⟩:=d a h;exact n i c b
 .by_cases q:l∈A
  .exact f.Dx l q
  .exact BV.keep (S.Ek hi e) λo e=>f.keep l o ⟨q,Aq⟩ e
theorem wp_call(h:Wa ss t λl=>∃k',pre l (.is k')/\∀p,k' p->k p):Wp ss (Dz (Ap pre) [] E0 t) k:=⟨λE Z F H Q S q=>
 h.go E Z F H _ S λvs l F1 H1 b a⟨k',c,kk⟩=>by
  rw[GB];refine⟨l,.is k',F1,[],c,b.st.Sn a,λv F' H' f⟨p,r,kp⟩=>?_⟩;exact q v p F' H' (b.trans (b.st.back (λ_ h=>absurd h Aq) f)) r (kk p kp)⟩
theorem Lx{k:List PV->Prop}(h:Wa ss t λl=>∃k',pre l (.new k')/\∀xs,k' xs->k xs):Wn ss (Dz (Ap pre) [] E0 t) k:=⟨λE Z F H Q S q=>
 h.go E Z F H _ S λvs l F1 H1 b a⟨k',d,kk⟩=>by
  rw[GB];refine⟨l,.new k',F1,[],d,b.st.Sn a,λv F' H' f⟨l,vs,xs,e,i,g,D5,r,c⟩=>?_⟩;subst e;exact q l vs xs F' H' (b.trans (b.st.back (λ_ h=>absurd h Aq) f)) i (b.none g) D5 r (kk xs c)⟩
theorem iy{k:List PV->Prop}(hi:ss[i]?=some .AH)(h:Wa ss t λl=>∃k',pre (.AH::l) (.new k')/\∀xs,k' xs->k xs):Wn ss (Dz (Ap pre) [] E0 (Ag (Ar i) t)) k:=⟨λE Z F H Q S q=>by
 obtain⟨p,e,_⟩:=S.ok i _ hi;refine⟨_,e,h.go E Z F H _ S λvs l F1 H1 b a⟨k',d,kk⟩=>?_⟩;show Ap pre ((V.ref p::vs)++[]) H1 Q E0;rw[GB];refine⟨.AH::l,.new k',F1,[p],d,b.st.iA hi e a,λv F' H' f⟨l,vs,xs,m,j,g,D5,r,c⟩=>?_⟩;subst m;exact q l vs xs F' H' (b.trans (b.st.back (A:=[p]) (λa h=>⟨i,hi,(show a=p from by simpa using h)▸e⟩) f)) j (b.none g) D5 r (kk xs c)⟩
theorem Sg.grown(S:Sg E ss Z F H)(n:Nat):Sg E (ss++List.replicate n .any) (Z++List.replicate n none) F H:=by
 have f:∀(i:Nat)s,(ss++List.replicate n .any)[i]?=some s->s≠.any->ss[i]?=some s/\(Z++List.replicate n none)[i]?=Z[i]?:=λi s e k=>by
  by_cases h:i<ss.length
  .rw[DO h]at e;rw[DO (by rw[<- S.len];exact h)];exact⟨e,rfl⟩
  .rw[FD (by omega),gL]at e;split at e
   .exact absurd (B3 e).symm k
   .cases e
 refine⟨S.toFin,by simp[S.len],λi s e=>?_,λi j s u l CH hi m ms mu=>?_⟩
 .cases s with
  |any=>trivial
  |_=>obtain⟨a,b⟩:=f i _ e (by simp);rw[b];exact S.ok i _ a
 .have ns:s≠.any:=by rintro rfl;cases ms
  have g:u≠.any:=by rintro rfl;cases mu
  obtain⟨a,b⟩:=f i s hi ns;obtain⟨c,d⟩:=f j u m g;rw[b]at ms;rw[d]at mu;exact S.BL i j s u l CH a c ms mu
end
section
variable{pre:Pre}{k:PV->Prop}
noncomputable def Tw(E:Ent0):Ent:=⟨E,λ_ _ _ _ _ _ _ _ _ d=>d.elim⟩
theorem cI{N:List Str}{n:Nat}{t:TS}(h:Ap pre vs H Q X)(c:∀ss R,pre ss R->ss.length=n)
  (hw:∀ss R,pre ss R->Ws (ss++List.replicate (N.length - n) .any) t (λ_=>∃k,R=.is k/\k .A6) R):t { nx:=λ_ H'=>Q .A6 H',rt:=Q } (L2.start N vs) H:=by
 obtain⟨ss,R,F,A,a,S,q⟩:=h;have e:vs.length=n:=by have:=S.len;rw[AA]at this;rw[<- this];exact c ss R a
 unfold L2.start;rw[e];refine(hw ss R a).go (Tw (E3 A F H)) _ _ F H (S.grown _) (λA5 σ' F' H'⟨k,e,b⟩S' _=>?_) λv F' H' f ok=>q v F' H' f ok;subst e;exact q .A6 F' H' S'.toFin ⟨.A6,.A6,b⟩
theorem YL{n:Nat}(b:∀ss R,pre ss R->ss.length=n)(h:Ap pre vs H Q X):vs.length=n:=by
 obtain⟨ss,R,F,A,a,S,q⟩:=h;have:=S.len;rw[AA]at this;rw[<- this];exact b ss R a
end
end Fz
namespace L2
section
variable{X:Cx}
def YU(K:ZBx):R2:=λx y H Q=>∃p q xs,x=.ref p/\y=.ref q/\AG K H p xs/\AG K H q []/\Q (.bl (!decide (xs=[]))) H
theorem fK(a:X.A.units<cLine):Aw X (compareOp .NotEq) (YU X.K):=by
 intro Zq s Z H x y v u Q I f e h;obtain⟨p,q,xs,rfl,rfl,c,b,d⟩:=h;cases f;cases e;obtain⟨A0,i,p1,l⟩:=I.list c;obtain⟨BW,g,p2,k⟩:=I.list b;have l1:=i.length;have l2:=g.length;cases xs with
 |nil=>exact Py a Zq s Z H _ _ _ _ Q I (show RelV (.ref p) (.ref p)from rfl) (show RelV (.ref q) (.ref q)from rfl) ⟨p,q,[],[],rfl,rfl,.inl ⟨c,b⟩,rfl,rfl,d⟩
 |cons y ys=>
  have j:(A0.toArray.size != BW.toArray.size)=true:=by simp only[Bn,<- l1,<- l2];simp
  exact ZB3 p1.isList p2.isList j a _ _ _ _ ⟨.bl true,H,I,rfl,d⟩
end
end L2
namespace Lw
open L2
variable{acc l ns ss:List Str}{g j:Int}{r:Str}
theorem N4:∀l:List Nat,¬ l<l
 | [],h=>by simp at h
 |a::r,h=>by
  rw[XA]at h;rcases h with h|⟨_,h⟩
  .omega
  .exact N4 r h
theorem VL:∀{a b c:List Nat},a<b->b<c->a<c
 |_,[],_,h,_=>by simp at h
 |_,_::_,[],_,h=>by simp at h
 | [],_::_,_::_,_,_=>by simp
 |a::r,b::s,c::t,h,h'=>by
  rw[XA]at h h' ⊢;rcases h with h|⟨rfl,h⟩
  .rcases h' with h'|⟨rfl,h'⟩
   .left;omega
   .left;exact h
  .rcases h' with h'|⟨rfl,h'⟩
   .left;exact h'
   .right;exact⟨rfl,VL h h'⟩
theorem eO:∀a b:List Nat,a<b∨a=b∨b<a
 | [],[]=>.inr (.inl rfl)
 | [],_::_=>.inl (by simp)
 |_::_,[]=>.inr (.inr (by simp))
 |a::r,b::s=>by
  rw[XA,XA];rcases Nat.lt_trichotomy a b with h|rfl|h
  .exact .inl (.inl h)
  .rcases eO r s with h|rfl|h
   .exact .inl (.inr ⟨rfl,h⟩)
   .exact .inr (.inl rfl)
   .exact .inr (.inr (.inr ⟨rfl,h⟩))
  .exact .inr (.inr (.inl h))
abbrev Hd(a b:Str):Prop:=a.cps.toList<b.cps.toList
theorem Ss(a b:Str):Hd a b∨a=b∨Hd b a:=by
 rcases eO a.cps.toList b.cps.toList with h|h|h
 .exact .inl h
 .exact .inr (.inl (vY h))
 .exact .inr (.inr h)
abbrev Up(ss:List Str):Prop:=ss.Pairwise Hd
theorem Ng(h:Up ss):ss.Nodup:=by
 refine List.Pairwise.imp (λ{a b}(Bt:Hd a b)(e:a=b)=>?_) h;subst e;exact N4 _ Bt
theorem aa:∀(l:List Str)(p:Str),risingS p l=true->(∀x∈l,¬ Hd x p)/\l.Pairwise λa b=>¬ Hd b a
 | [],p,_=>⟨λx hx=>absurd hx (by simp),.nil⟩
 |y::r,p,h=>by
  have h1:(!ltCps y.cps.toList p.cps.toList && risingS y r)=true:=h;rw[Cq,ltCps_eq]at h1;have c:¬ Hd y p:=by
   intro z;rw[hU z]at h1;exact absurd h1.1 (by decide)
  obtain⟨h2,d⟩:=aa r y h1.2;refine⟨λx hx=>?_,List.pairwise_cons.mpr ⟨λx hx=>h2 x hx,d⟩⟩;rcases List.mem_cons.mp hx with rfl|hx
  .exact c
  .intro z;rcases Ss y p with q|q|q
   .exact c q
   .exact h2 x hx (q▸z)
   .exact h2 x hx (VL z q)
theorem VA(h:sortedS l=true):l.Pairwise λa b=>¬ Hd b a:=by
 cases l with
 |nil=>exact .nil
 |cons x r=>
  obtain⟨h1,h2⟩:=aa r x h;exact List.pairwise_cons.mpr ⟨h1,h2⟩
theorem So(h:sortedS l=true)(nd:l.Nodup):Up l:=by
 have w:=VA h;have q:=List.Pairwise.and w nd;refine q.imp λ{a b}Bt=>?_;rcases Ss a b with z|z|z
 .exact z
 .exact absurd z Bt.2
 .exact absurd z Bt.1
theorem RD:∀{as bs:List Str},Up as->Up bs->(∀x,x∈as↔x∈bs)->as=bs
 | [],[],_,_,_=>rfl
 | [],b::bs,_,_,h=>absurd ((h b).mpr Aj) (by simp)
 |a::as,[],_,_,h=>absurd ((h a).mp Aj) (by simp)
 |a::as,b::bs,ha,hb,h=>by
  obtain⟨a1,a2⟩:=List.pairwise_cons.mp ha;obtain⟨c,d⟩:=List.pairwise_cons.mp hb;have e:a=b:=by
   rcases List.mem_cons.mp ((h a).mp Aj)with z|z
   .exact z
   .rcases List.mem_cons.mp ((h b).mpr Aj)with y|y
    .exact y.symm
    .exact absurd (VL (a1 b y) (c a z)) (N4 _)
  subst e
  congr 1
  refine RD a2 d λx=>⟨λhx=>?_,λhx=>?_⟩
  .rcases List.mem_cons.mp ((h x).mp (B2 _ hx))with z|z
   .exact absurd (z▸a1 x hx) (N4 _)
   .exact z
  .rcases List.mem_cons.mp ((h x).mpr (B2 _ hx))with z|z
   .exact absurd (z▸c x hx) (N4 _)
   .exact z
theorem Tu:∀{as bs:List Str},as.Nodup->(∀x∈as,x∈bs)->as.length<=bs.length
 | [],_,_,_=>Bo _
 |a::as,bs,nd,h=>by
  obtain⟨h1,h2⟩:=List.nodup_cons.mp nd;have b:=h a Aj;have q:=Tu (bs:=bs.erase a) h2 λx hx=>(Rc (λe:x=a=>h1 (by rw[<- e];exact hx))).mpr (h x (B2 _ hx));have e:=MN b;have p:=XG b;simp only[BA];omega
theorem Zn:∀{as bs:List Str},as.Nodup->(∀x∈as,x∈bs)->bs.length=as.length->bs.Nodup
 | [],bs,_,_,hl=>by
  have e:bs=[]:=List.length_eq_zero_iff.mp (by simpa using hl)
  rw[e];exact IW
 |a::as,bs,nd,h,hl=>by
  obtain⟨h1,h2⟩:=List.nodup_cons.mp nd;have b:=h a Aj;have d:bs.length=as.length+1:=by simpa using hl
  have sub:∀x∈as,x∈bs.erase a:=λx hx=>(Rc (λe:x=a=>h1 (by rw[<- e];exact hx))).mpr (h x (B2 _ hx));have e:=MN b;have q:=Zn (bs:=bs.erase a) h2 sub (by omega);have p:=List.perm_cons_erase b;rw[p.nodup_iff,List.nodup_cons];refine⟨λc=>?_,q⟩;have r:=Tu (as:=a::as) (bs:=bs.erase a) nd λx hx=>by
   rcases List.mem_cons.mp hx with rfl|hx
   .exact c
   .exact sub x hx
  simp only[BA]at r;omega
theorem lT{x k:Str}:k∈EN acc x↔k∈acc∨k=x:=by
 unfold EN
 by_cases h:acc.any (· == x)=true
 .rw[i5 h];refine⟨.inl,λq=>q.elim id λe=>?_⟩;obtain⟨y,a,b⟩:=List.any_eq_true.mp h;have:y=x:=by simpa using b
  rw[e,<- this];exact a
 .rw[i3 h];simp
theorem V3:∀(l acc:List Str),acc.Nodup->(l.foldl EN acc).Nodup/\∀k,k∈l.foldl EN acc↔k∈acc∨k∈l
 | [],acc,h=>⟨h,λk=>by simp⟩
 |x::r,acc,h=>by
  have a:(EN acc x).Nodup:=by
   unfold EN
   by_cases c:acc.any (· == x)=true
   .rw[i5 c];exact h
   .rw[i3 c];exact Vc h λb=>c (List.any_eq_true.mpr ⟨x,b,by simp⟩)
  obtain⟨h1,h2⟩:=V3 r (EN acc x) a;refine⟨h1,λk=>?_⟩;rw[RW,h2 k,lT,DP,or_assoc]
theorem Pm(ss:List Str):(dd ss).Nodup:=(V3 ss [] IW).1
theorem KA(ss:List Str)(k:Str):k∈dd ss↔k∈ss:=by
 have q:=(V3 ss [] IW).2 k;refine(show(k∈dd ss↔_)from q).trans ⟨λz=>z.elim (λy=>absurd y (by simp)) id,.inr⟩
theorem Y5(l:List Str)(k:Str):l.any (· == k)=true↔k∈l:=by
 rw[L0];exact⟨λ⟨y,a,e⟩=>by
   have:y=k:=by simpa using e
   rw[<- this];exact a,λh=>⟨k,h,by simp⟩⟩
theorem lM{ts:List Str}(d:ts.length=(dd ss).length)(b:∀k,(dd ss).any (· == k)=true↔k∈ts)(c:sortedS ts=true):(ss=ts)↔Up ss:=by
 have nd:ts.Nodup:=Zn (Pm ss) (λx hx=>(b x).mp ((Y5 _ _).mpr hx)) d;have a:=So c nd;constructor
 .rintro rfl;exact a
 .intro us;exact RD us a λx=>by rw[<- b x,Y5,KA]
theorem k6:∀(as bs:List Str),Ez (as.map V.str) (bs.map V.str)=decide (as=bs):=by
 intro as bs
 by_cases a:as.length=bs.length
 .rw[KO (by simpa using a),HQ,HU,vX]
  constructor
  .intro h;refine RV a λi h1 h2=>?_;have q:=h i (by simpa using h1)
   have e1:(as.map V.str)[i]?=some (.str as[i]):=by rw[AO,AK h1];rfl
   have c:(bs.map V.str)[i]?=some (.str bs[i]):=by rw[AO,AK h2];rfl
   rw[J9 e1,J9 c]at q;have b:(as[i] == bs[i])=true:=q
   simpa using b
  .rintro rfl i hi;have h1:i<as.length:=by simpa using hi
   have e1:(as.map V.str)[i]?=some (.str as[i]):=by rw[AO,AK h1];rfl
   rw[J9 e1];show(as[i] == as[i])=true;simp
 .rw[Jl (by simpa using a),iF]
  rintro rfl;exact a rfl
noncomputable def G2:List Str:=["none","ahead","all"]
noncomputable def JB(ss:List Str):Bool:=decide (Up ss)
def JH(ns ss:List Str):Bool:=ss.all λx=>decide (x∈ns)
noncomputable def Kp(n:Nat)(g:Int):Bool:=decide (0<=g) && decide (g<=(n:Int))
def FU(ns:List Str)(r:Str)(g:Int)(ss:List Str):Bool:=decide (r∈G2) && (Kp ns.length g && (JB ss && JH ns ss))
def dz(K:ZBx):Sp:=λvs H Q _=>∃(a:Addr)(tp:Bool)(ns:List Str)(g:Int),vs=[.ref a,.int g]/\CK K tp H a (ns.map V.str)/\Q (.bl (Kp ns.length g)) H
def YG(K:ZBx):Sp:=λvs H Q _=>∃(a:Addr)(tp:Bool)(ns:List Str)(c:Addr)(ss:List Str),vs=[.ref a,.ref c]/\CK K tp H a (ns.map V.str)/\Ab K H c (ss.map V.str)/\ss.length<64/\∀H',AD H H'->Q (.bl (JB ss && JH ns ss)) H'
def LoopAt(K:ZBx)(H:Hp)(t:Addr)(r:Str)(g:Int)(ss:List Str):Prop:=∃c,Ab K H t [.str r,.int g,.ref c]/\Ab K H c (ss.map V.str)
def aN(K:ZBx):Sp:=λvs H Q _=>∃(a:Addr)(tp:Bool)(ns:List Str)(t:Addr)(r:Str)(g:Int)(ss:List Str),vs=[.ref a,.ref t]/\CK K tp H a (ns.map V.str)/\LoopAt K H t r g ss/\ss.length<64/\∀H',AD H H'->Q (.bl (FU ns r g ss)) H'
def sS(p:Addr)(H:Hp)(Q:VK)(W:Str->Int->List Str->Prop):Prop:=∀t c r g ss H',H t=none->H c=none->B4 p H H'->H' t=some (.tup [.str r,.int g,.ref c])->H' c=some (.tup (ss.map V.str))->W r g ss->Q (.ref t) H'
def V7:Sp:=λvs H Q _=>∃(p q:Addr)(ns:List Str),vs=[.ref p,.ref q]/\BV H p/\H q=some (.lst (ns.map V.str))/\q≠p/\ns.length<=40/\ns.Nodup/\
 sS p H Q λr g ss=>r∈G2/\0<=g/\g<=(ns.length:Int)/\Up ss/\(∀x∈ss,x∈ns)/\ss.length<=40
theorem ur(ns ss:List Str):((ss.map V.str).filter λ_=>true).map (λv=>V.bl (JG v (ns.map V.str)))=(ss.map λx=>decide (x∈ns)).map V.bl:=by
 rw[wx,Ce,Ce];refine MO λx _=>?_;show V.bl _=V.bl _;rw[Qn]
theorem ua{i:Nat}{v:V}(h:(ss.map V.str)[i]?=some v):∃x,v=.str x/\ss[i]?=some x:=by
 rw[AO]at h;cases q:ss[i]? with
 |none=>rw[q]at h;cases h
 |some x=>rw[q]at h;simp at h;exact⟨x,h.symm,rfl⟩
theorem ZS(c:0<=j)(h1:j<3):∃r,BR (G2.map V.str) j=some (.str r)/\r∈G2:=by
 obtain⟨x,a,b,_⟩:=UG (ns:=G2) c h1;exact⟨x,a,b⟩
def TL(H:Hp)(t:Addr)(r:Str)(g:Int)(ss:List Str):Prop:=∃c,H t=some (.tup [.str r,.int g,.ref c])/\H c=some (.tup (ss.map V.str))
theorem TL.at{H:Hp}{K:ZBx}{t:Addr}(h:TL H t r g ss):LoopAt K H t r g ss:=by
 obtain⟨c,a,b⟩:=h;exact⟨c,Ab.of a,Ab.of b⟩
structure C4 (ns:List Str) (r:Str) (g:Int) (ss:List Str):Prop where
 rule:r∈G2
 g0:0<=g
 g1:g<=(ns.length:Int)
 up:Up ss
 sub:∀x∈ss,x∈ns
theorem C4.FU(h:C4 ns r g ss):FU ns r g ss=true:=by
 unfold Lw.FU Kp JB JH;rw[hU h.rule,hU h.g0,hU h.g1,hU h.up,HR,HR,HR,HR,HU];intro x hx;exact hU (h.sub x hx)
def Vv(K:ZBx):Sp:=λvs H Q _=>∃(a:Addr)(tp:Bool)(ns:List Str)(t:Addr)(r:Str)(g:Int)(ss:List Str),vs=[.ref a,.ref t]/\CK K tp H a (ns.map V.str)/\LoopAt K H t r g ss/\ss.length<64/\FU ns r g ss=true/\∀H',AD H H'->Q .A6 H'
structure Ent where
 a:Addr
 ns:List Str
 t:Addr
 r:Str
 g:Nat
 ss:List Str
end Lw
namespace Lw
open L2
theorem C4.len{ns:List Str}{r:Str}{g:Int}{ss:List Str}(h:C4 ns r g ss):ss.length<=ns.length:=Tu (Ng h.up) h.sub
end Lw
namespace L2
variable{H H2:Hp}{s s2:Shared}{outer scope:Scope}{C acc it:Addr}{N:List Str}{wi:TI}
structure Iq (N:List Str) (outer scope:Scope) (x z:Str) (A7:List Str) (js:List Nat):Prop where
 kind:scope.kind=.function
 GJ:∀y∈scope.names,y.2≠.cell
 loc:∀y∈scope.names,y.2=.local->scope.names.lookup y.1=some .local
 HI:scope.names.lookup x=some .local
 pD:scope.names.lookup z=some .local
 at':js.map (λj=>N[j]?)=A7.map some
 cell:∀y∈A7,outer.names.lookup y=some .cell
 free:∀y∈A7,scope.names.lookup y=some .free
 all:∀y∈scope.names,y.2=.free->outer.names.lookup y.1=some .cell
 nd:(A7++[x,z]).Nodup
def YE(K:ZBx)(J:It)(js:List Nat)(te:TE)(Z:St)(H1:Hp)(acc:Addr)(Q:VK):Prop:=
 ∃W:Nat->Nat->Hp->Prop,(∃m,W 0 m (upd H1 acc (.lst [])))/\∀i m H2,W i m H2->
  (J.stop i H2/\Q (.ref acc) H2)∨(J.go i H2/\∀x H3,J.Dc i H2 x H3->∃a u v,x=.ref a/\Ab K H3 a [u,v]/\te (Ak js Z++[some u,some v]) H3 λy H5=>∃ys,H5 acc=some (.lst ys)/\ys.length<sizeLine/\∃b,b < m/\W (i+1) b (upd H5 acc (.lst (ys++[y]))))
def Om(K:ZBx)(wi:TI)(js:List Nat)(te:TE):TE:=λZ H Q=>wi Z H λJ H1=>∀acc,H1 acc=none->YE K J js te Z H1 acc Q
section
variable{X:Cx}{Zq:ZBy}{Z:St}{elt iter:Expr}{x z:Str}{px pz tp pos:Pos}{tk:Nat}{A7:List Str}{js:List Nat}{te:TE}{J:It}{fp:List Addr}{tn:Nat->Heap->Prop}
theorem Iq.G(S:Iq N outer scope x z A7 js):DE N outer scope none [x,z] A7 js:=.Xn S.kind S.GJ S.loc S.at' S.cell S.free S.all S.nd
theorem Iq.pg{cl:List (Str×Addr)}(b:X.calm=true)(S:Iq X.N X.env.scope scope x z A7 js):PG (EM X (A7++[x,z]) scope none cl C s H fp) (.Tuple [.Name x px,.Name z pz] tk tp) (J8 X.K 2 (J4 A7.length 2)):=
 jq b S.G (λy a=>by rcases List.mem_cons.mp a with rfl|a;exact S.HI;rw[List.mem_singleton.mp a];exact S.pD) (.cons (.cons .nil)) (λ_=>rfl) (λ_=>rfl)
theorem z6{W:Nat->Nat->Hp->Prop}{i m:Nat}(q:te Z H λy H5=>∃ys,H5 acc=some (.lst ys)/\ys.length<sizeLine/\∃a,a < m/\W (i+1) a (upd H5 acc (.lst (ys++[y])))):O1 LJ te acc W i m Z H:=by
 show(if true=true then(te Z H λy H5=>∃ys,H5 acc=some (.lst ys)/\ys.length<sizeLine/\∃a,a < m/\W (i+1) a (upd H5 acc (.lst (ys++[y]))))else ∃a,a < m/\W (i+1) a H)
 rw[i5 rfl];exact q
theorem pC{K:ZBx}{tt:TT}(S:Iq N outer scope x z A7 js)(J:It)(Z:St)(H1:Hp)(acc:Addr)(Q:VK)
  (h:∃W:Nat->Nat->Hp->Prop,(∃m,W 0 m (upd H1 acc (.lst [])))/\∀i m H2,W i m H2->
   (J.stop i H2/\Q (.ref acc) H2)∨(J.go i H2/\∀x H3,J.Dc i H2 x H3->∃a u v,x=.ref a/\Ab K H3 a [u,v]/\O1 tt te acc W i m (Ak js Z++[some u,some v]) H3)):LM (J8 K 2 (J4 A7.length 2)) 2 J js tt te Z H1 acc Q:=by
 obtain⟨W,c,h⟩:=h;refine qd S.G J Z H1 acc Q ⟨W,c,λi m H2 w=>(h i m H2 w).imp id λz=>⟨z.1,λx H3 y=>?_⟩⟩;obtain⟨a,u,v,e,b,q⟩:=z.2 x H3 y;exact⟨a,[u,v],e,b,rfl,q⟩
theorem p9(c:X.calm=true)(S:Iq X.N X.env.scope scope x z A7 js)(hi:PI X (.Tuple [.Name x px,.Name z pz] tk tp) iter wi)
  (D4:∀fp C s H,PE (G8 X (A7++[x,z]) scope (BE X.env.cells scope.names) C s H fp) elt te)
  (b:∀v,foldedSetIterable iter X.env v=pure v:=by intro _;rfl):PE X (.ListComp elt [⟨.Tuple [.Name x px,.Name z pz] tk tp,iter,[],0⟩] scope pos) (Om X.K wi js te):=
 Sx (CW:=λJ Z H1 acc Q=>YE X.K J js te Z H1 acc Q) (tt:=LJ) (λJ Z H1 acc Q⟨W,d,h⟩=>pC S J Z H1 acc Q ⟨W,d,λi m H2 w=>(h i m H2 w).imp id λz=>⟨z.1,λx H3 y=>by
  obtain⟨a,u,v,e,b,q⟩:=z.2 x H3 y;exact⟨a,u,v,e,b,z6 q⟩⟩⟩) c S.G hi (λ_ _ _ _=>S.pg c) (λ_ _ _ _=>Y3) D4 b
theorem sQ(b:X.calm=true)(S:Iq X.N X.env.scope scope x z A7 js)(hi:QI X (.Tuple [.Name x px,.Name z pz] tk tp) iter wi)(D4:∀fp C s H,QE (G8 X (A7++[x,z]) scope (BE X.env.cells scope.names) C s H fp) elt te)
  (a:∀v,foldedSetIterable iter X.env v=pure v:=by intro _;rfl):QE X (.ListComp elt [⟨.Tuple [.Name x px,.Name z pz] tk tp,iter,[],0⟩] scope pos) (Om X.K wi js te):=⟨p9 b S hi.h (λfp C s H=>(D4 fp C s H).h) a⟩
end
end L2
namespace Fz
open L2 Lw
variable{E:Ent0}{ss:List Slot}{Z:L2.St}{F F' H H':Hp}{js:List Nat}{ta tb te:TE}{nx:List Slot->Prop}{R:Ae}{wi:TI}{i:Nat}{α:Type}{xs:List PV}
section
variable[Xw]
variable{K:ZBx}{k:PV->Prop}
theorem fw{k:List PV->Prop}(g:PV->PV)
  (h:Wi ss wi λxs=>xs.length<=100000/\(∀x∈xs,∃a b,x=.tup [a,b]/\Wp (Bp js ss++[.is a,.is b]) te λp=>p=g x)/\k (xs.map g))
  (nd:js.Nodup:=by decide) (np:MG js ss=true:=by rfl):Wn ss (Om K wi js te) k:=⟨λE Z F H Q S q=>
 h.go E Z F H _ S λJ xs F1 H1 c v⟨hz,M,kk⟩acc B6=>by
  have X:C7 ss Z acc:=c.st.GO B6;have V:=c.st.DD B6;have R:∀(i:Nat)s,ss[i]?=some s->¬ B5 s Z[i]? acc:=λi s hi=>c.st.Kk hi B6;refine⟨λi m H2=>m=xs.length - i/\i<=xs.length/\∃F2 vs,Mv E ss Z F1 H1 F2 H2/\F2 acc=none/\H2 acc=some (.lst vs)/\AF F2 vs ((xs.take i).map g),⟨_,rfl,Bo _,F1,[],c.st.make B6 _,c.st.Bi B6,AX,.nil⟩,?_⟩;rintro i m H2⟨rfl,hi,F2,vs,m2,C,A,j⟩
  by_cases f:i<xs.length
  .refine .inr ⟨v.go ss Z F2 H2 i m2.ff m2.st f,λx H3 y=>?_⟩;obtain⟨p,F3,z,l,B⟩:=v.Dc ss Z F2 H2 i x H3 m2.ff m2.st f y;have σ:p∈xs:=BB z;have Y:(xs.take (i+1))=xs.take i++[p]:=by
    have O:xs[i]=p:=by rw[AK f]at z;exact B3 z
    rw[Jf f,O]
   have W:∀{F4:Hp},(∀a o,F4 a=some o->F2 a=some o∨H2 a=none)->F4 acc=none:=λ{F4}n=>by
    cases e:F4 acc with
    |none=>rfl
    |some o=>
     rcases n acc o e with w|w
     .rw[C]at w;cases w
     .rw[A]at w;cases w
   obtain⟨a,b,ep,hw⟩:=M p σ;rw[ep]at B;obtain⟨_,_,rfl,e,r⟩:=B.inv;obtain⟨_,_,rfl,I,r⟩:=r.inv;obtain⟨_,_,rfl,G,r⟩:=r.inv;obtain rfl:=r.D0;refine⟨_,_,_,rfl,Ab.of (l.st.fh _ _ e),?_⟩;have P:=l.st.A7 (js:=js) nd (.cons I (.one G));refine hw.go E _ F3 H3 _ P λw pw F5 H5 L K9 N=>?_;have T:=L.out (ps:=[a,b]) l.st np;have u:=l.trans T;have U:=u.hh acc _ X A;have D:=W u.nn;have d:vs.length<=99999:=by
    rw[j.length,AA,GC];omega
   refine⟨vs,U,Iu d,xs.length - (i+1),by omega,rfl,f,F5,vs++[w],?_,D,AX,?_⟩
   .have t:=m2.trans u;refine⟨t.st.La D (.inl V) R,t.ff,λa o n e=>?_,t.nn⟩;rw[AS (DV e B6)];exact t.hh a o n e
   .rw[Y,EK];rw[N]at K9;exact(j.mono u.ff).append (.one K9)
  .have e:i=xs.length:=by omega
   subst e;refine .inl ⟨v.stop ss Z F2 H2 m2.ff m2.st,q acc vs _ F2 H2 (c.trans m2) C (c.none B6) A ?_ kk⟩;rw[Eg]at j;exact j⟩
theorem Sg.UZ(S:Sg E ss Z F H){p:Addr}(hi:ss[i]?=some .AH)(e:Z[i]?=some (some (.ref p)))(s:B4 p H H'):Mv E ss Z F H F H':=by
 obtain⟨g,b,fp,_,f⟩:=S.ok i _ hi;rw[e]at b;cases b;refine S.step (AD.refl _) (λa o q=>s.same a o (DV q fp) (S.fh a o q)) (λa o n q=>s.same a o (λz=>?_) q) (λa o q=>.inl q) λj l c d=>?_
 .rw[z]at n;exact n i hi e
 .by_cases z:l=p
  .rw[z];exact s.AH
  .exact BV.keep (S.Ek c d) λo q=>s.same l o z q
theorem lK(hi:ss[i]?=some .AH)(h:Wp ss te λx=>∃m,x=.int m/\0<m/\m<10 ^ 18/\∀r:Int,0<=r->r<m->k (.int r)):Wp ss (Dz ME [] E0 (Ag (Ar i) (Ag te BK))) k:=⟨λE Z F H Q S q=>by
 obtain⟨p,e,_⟩:=S.ok i _ hi;refine⟨_,e,h.go E Z F H _ S λv x F1 H1 a r⟨m,f,d,Nh,kk⟩=>?_⟩;subst f;cases r.inv;exact⟨p,m,rfl,a.st.Ek hi e,d,Nh,λr H2 c b s=>q _ _ F1 H2 (a.trans (a.st.UZ hi e s)) (.int r) (kk r c b)⟩⟩
theorem yn{sp:Sp}{k:List PV->Prop}(Fc:sp=UN)(hi:ss[i]?=some .AH)(h:Wp ss te λx=>∃m,x=.int m/\1<=m/\m<=100/\∀ns:List Str,(ns.length:Int)<=m->(∀x∈ns,Nm x)->ns.Nodup->k (ns.map PV.str)):Wn ss (Dz sp [] E0 (Ag (Ar i) (Ag te BK))) k:=⟨λE Z F H Q S q=>by
 subst Fc;obtain⟨p,e,_⟩:=S.ok i _ hi;refine⟨_,e,h.go E Z F H _ S λv x F1 H1 a r⟨m,f,c,Nh,kk⟩=>?_⟩;subst f;cases r.inv;refine⟨p,m,rfl,a.st.Ek hi e,c,Nh,λl H2 ns b s CJ hz d nd=>?_⟩;have m2:=a.st.UZ hi e s;exact q l _ _ F1 H2 (a.trans m2) (a.st.Bi b) (a.none b) CJ (UR ns) (kk ns hz d nd)⟩
def WH(K:ZBx)(ns:List Int):Hp->V->Prop:=λF v=>∃a,v=.ref a/\AG K F a (ns.map V.int)
theorem TB(K:ZBx)(ns:List Int):∀(v:V)(F F':Hp),AD F F'->WH K ns F v->WH K ns F' v:=λv F F' s AN=>by obtain⟨a,e,h⟩:=AN;exact⟨a,e,by
 rcases h with(h|⟨o,h⟩)|h
 .exact .inl (.inl (s _ _ h))
 .exact .inl (.inr ⟨o,s _ _ h⟩)
 .exact .inr h⟩
end
section
variable[Xw]
variable{K:ZBx}{k:PV->Prop}
theorem Wi.mono{k k':List PV->Prop}(h:Wi ss wi k)(i:∀xs,k xs->k' xs):Wi ss wi k':=⟨λE Z F H R S q=>h.go E Z F H R S λJ xs F' H' m s kk=>q J xs F' H' m s (i xs kk)⟩
theorem J5{tt:TT}{k:List PV->Prop}(c:α->PV)(f:α->Bool)(g:α->PV)
  (h:Wi ss wi λxs=>∃ns:List α,xs=ns.map c/\ns.length<=100000/\(∀x∈ns,Wt (Bp js ss++[.is (c x)]) tt λb=>b=f x)/\(∀x∈ns,f x=true->Wp (Bp js ss++[.is (c x)]) te λp=>p=g x)/\k ((ns.filter f).map g))
  (inj:∀x y,c x=c y->x=y) (nd:js.Nodup:=by decide) (np:MG js ss=true:=by rfl):Wn ss (GV wi js tt te) k:=by
 by_cases hα:Nonempty α
 .obtain⟨j⟩:=hα;have inv:∀p:PV,∃x:α,∀y,c y=p->y=x:=λp=>by
   by_cases q:∃y,c y=p
   .obtain⟨y,a⟩:=q;exact⟨y,λz hz=>inj _ _ (hz.trans a.symm)⟩
   .exact⟨j,λy a=>absurd ⟨y,a⟩ q⟩
  let d:PV->α:=λp=>Classical.choose (inv p)
  have hd:∀x,d (c x)=x:=λx=>(X1 (inv (c x)) x rfl).symm;refine JJ (λp=>f (d p)) (λp=>g (d p)) (h.mono λxs⟨ns,e,hz,h1,h2,kk⟩=>?_) nd np;subst e;refine⟨by rw[AA];exact hz,λx hx=>?_,λx hx i=>?_,?_⟩
  .obtain⟨y,a,rfl⟩:=List.mem_map.mp hx;rw[hd];exact h1 y a
  .obtain⟨y,a,rfl⟩:=List.mem_map.mp hx;rw[hd]at i ⊢;exact h2 y a i
  .have e:((ns.map c).filter λp=>f (d p)).map (λp=>g (d p))=(ns.filter f).map g:=by
    rw[List.filter_map,Ce]
    congr 1
    .funext x;show g (d (c x))=g x;rw[hd]
    .congr 1;funext x;show f (d (c x))=f x;rw[hd]
   rw[e];exact kk
 .refine JJ (λ_=>true) (λp=>p) (h.mono λxs⟨ns,e,hz,h1,h2,kk⟩=>?_) nd np;have l:ns=[]:=by
   cases ns with
   |nil=>rfl
   |cons x r=>exact absurd ⟨x⟩ hα
  subst l;subst e;exact⟨by simp,λx hx=>absurd hx (by simp),λx hx=>absurd hx (by simp),kk⟩
theorem str_inj:∀x y:Str,PV.str x=PV.str y->x=y:=λ_ _ e=>by injection e
theorem Qb:∀x y:Nat,PV.int (x:Int)=PV.int (y:Int)->x=y:=λ_ _ e=>by injection e with e;omega
theorem oa(h:Wp ss ta λp=>∃x,p=.str x/\Wq ss tb λ_ ys=>∃ns:List Str,ys=ns.map PV.str/\k (.bl (decide (x∈ns)))):Wp ss (B8 (Lj K false) ta tb) k:=rV h
theorem ZU(h:Wq ss ta λtp xs=>∃ns:List Str,xs=ns.map PV.str/\Wq ss tb λBZ ys=>BZ=tp/\∃ms:List Str,ys=ms.map PV.str/\k (.bl (decide (ns=ms)))):Wp ss (B8 (MD K false) ta tb) k:=ao h
theorem ZF(h:Wq ss ta λtp xs=>∃ns:List Str,xs=ns.map PV.str/\Wq ss tb λBZ ys=>BZ=tp/\∃ms:List Str,ys=ms.map PV.str/\k (.bl (!decide (ns=ms)))):Wp ss (B8 (MD K true) ta tb) k:=ao h
theorem vC(xs:List α)(g:Nat):Mm xs (some (g:Int)) none=xs.drop g:=by
 unfold Mm;rw[HT.y8,HT.yU];rcases gX g xs.length with h|h
 .rw[gY h,XN (by rw[RY];omega)]
 .rw[gZ h,gI,List.drop_of_length_le h];simp
theorem rd(g:α->Bool)(xs:List α):xs.map (λx=>PV.bl (g x))=(xs.map g).map PV.bl:=by rw[Ce];rfl
variable{ys:List PV}
noncomputable def JD(xs:List PV):List PV:=(List.range xs.length).map λi:Nat=>.tup [.int (i:Int),xs.getD i .A6]
theorem Nk(xs:List PV):(JD xs).length=xs.length:=by simp[JD]
theorem Ve{x:PV}(h:xs[i]?=some x):(JD xs)[i]?=some (.tup [.int (i:Int),x]):=by
 have hi:i<xs.length:=(List.getElem?_eq_some_iff.mp h).1;unfold JD;rw[AO,RX hi];show some (PV.tup [PV.int (i:Int),xs.getD i PV.A6])=_;rw[DN,h];rfl
theorem yG{p:PV}(h:(JD xs)[i]?=some p):∃x,xs[i]?=some x/\p=.tup [.int (i:Int),x]:=by
 have hi:i<xs.length:=by have:=(List.getElem?_eq_some_iff.mp h).1;rwa [Nk]at this
 have e:=AK hi;refine⟨xs[i],e,?_⟩;rw[Ve e]at h;exact(B3 h).symm
theorem SS{k:List PV->Prop}(h:Wz ss te λ_ xs=>k (JD xs)):Wi ss (VQ K (Ag te BK)) k:=⟨λE Z F H R S q=>
 h.go E Z F H _ S λv tp xs F1 H1 b f kk=>by
  obtain⟨l,vs,n,a,r⟩:∃l vs,v=.ref l/\(∀(ss:List Slot)(Z:L2.St)(F H:Hp),AD F1 F->Sg E ss Z F H->H l=some (DJ tp vs))/\AF F1 vs xs:=by
   cases tp with
   |true=>
    have j:Rep F1 v (.tup xs):=f;cases j with
    |tup e r=>exact⟨_,_,rfl,λss Z F H s S=>S.fh _ _ (s _ _ e),r⟩
   |false=>
    obtain⟨l,vs,e,h1,r⟩:=f;refine⟨l,vs,e,λss Z F H s S=>?_,r⟩;rcases h1 with h1|⟨hA,h1⟩
    .exact S.fh _ _ (s _ _ h1)
    .exact S.keep _ _ hA h1
  subst n;refine⟨l,tp,vs,rfl,DJ.sq (a ss Z F1 H1 (AD.refl _) b.st),q _ (JD xs) F1 H1 b ⟨λss Z F H i s S hi=>?_,λss Z F H s S=>?_,λss Z F H i x H' s S hi y=>?_⟩ kk⟩
  .rw[Nk]at hi;exact⟨DJ.sq (a ss Z F H s S),by rw[r.length];exact hi⟩
  .refine⟨DJ.sq (a ss Z F H s S),?_⟩;rw[Nk,r.length];exact Aa _
  .obtain⟨p,y,d,ex,g,o⟩:=y;subst ex;subst o;obtain⟨z,hz,c⟩:=r.get' d;have m:=S.alloc g (.tup [.int i,y]);exact⟨_,_,Ve hz,m,.tup AX (.cons (.int _) (.one (c.mono (s.trans m.ff))))⟩⟩
theorem xY{k:List PV->Prop}(c d:α->PV)(g:α->PV)
  (h:Wi ss wi λxs=>∃ns:List α,xs=ns.map (λa=>.tup [c a,d a])/\ns.length<=100000/\(∀a∈ns,Wp (Bp js ss++[.is (c a),.is (d a)]) te λp=>p=g a)/\k (ns.map g))
  (inj:∀x y,c x=c y->d x=d y->x=y) (nd:js.Nodup:=by decide) (np:MG js ss=true:=by rfl):Wn ss (Om K wi js te) k:=by
 by_cases hα:Nonempty α
 .obtain⟨f⟩:=hα;have inv:∀p:PV,∃x:α,∀y,PV.tup [c y,d y]=p->y=x:=λp=>by
   by_cases q:∃y,PV.tup [c y,d y]=p
   .obtain⟨y,b⟩:=q;refine⟨y,λz hz=>?_⟩;have e:=hz.trans b.symm;injection e with e
    simp only[List.cons.injEq,and_true]at e;exact inj _ _ e.1 e.2
   .exact⟨f,λy b=>absurd ⟨y,b⟩ q⟩
  let w:PV->α:=λp=>Classical.choose (inv p)
  have hw:∀x,w (.tup [c x,d x])=x:=λx=>(X1 (inv (.tup [c x,d x])) x rfl).symm;refine fw (λp=>g (w p)) (h.mono λxs⟨ns,e,hz,h1,kk⟩=>?_) nd np;subst e;refine⟨by rw[AA];exact hz,λx hx=>?_,?_⟩
  .obtain⟨y,b,rfl⟩:=List.mem_map.mp hx;refine⟨_,_,rfl,?_⟩;rw[hw];exact h1 y b
  .have e:(ns.map λa=>PV.tup [c a,d a]).map (λp=>g (w p))=ns.map g:=by
    rw[Ce]
    congr 1
    funext x;show g (w _)=g x;rw[hw]
   rw[e];exact kk
 .refine fw (λp=>p) (h.mono λxs⟨ns,e,hz,h1,kk⟩=>?_) nd np;have i:ns=[]:=by
   cases ns with
   |nil=>rfl
   |cons x r=>exact absurd ⟨x⟩ hα
  subst i;subst e;exact⟨by simp,λx hx=>absurd hx (by simp),kk⟩
end
theorem i8{c A B:Prop}[Decidable c](h:c)(a:A):if c then A else B:=by rw[i5 h];exact a
theorem uw{a b:List Str}(p:a.Perm b)(d:sortedS a=true)(c:sortedS b=true):a=b:=by
 refine List.Perm.eq_of_pairwise (le:=λa b=>¬ Hd b a) (λx y _ _ h1 h2=>?_) (VA d) (VA c) p;rcases Ss x y with z|z|z
 .exact absurd z h2
 .exact z
 .exact absurd z h1
end Fz
namespace Fz
open L2 Lw
section
variable[Xw]
variable{E:Ent0}{ss:List Slot}{Z:L2.St}{F H F' H':Hp}{K:ZBx}{js:List Nat}{ta tb tc te:TE}{k:PV->Prop}{nx:List Slot->Prop}{R:Ae}{xs ys:List PV}{P:Program}{w:World}
theorem ij(h:Wq ss ta λtp xs=>tp=false/\Wq ss tb λBZ ys=>BZ=false/\ys=[]/\k (.bl (!decide (xs.length=0)))):Wp ss (B8 (YU K) ta tb) k:=⟨λE Z F H Q S q=>
 h.go E Z F H _ S λv tp xs F1 H1 a sv⟨f,h2⟩=>h2.go E Z F1 H1 _ a.st λv2 BZ ys F2 H2 m2 Jx⟨Vi,d,kk⟩=>by
  subst f;subst Vi;subst d;obtain⟨l,vs,rfl,c,r⟩:=(sv.mv m2).seq m2.st;obtain⟨l2,Ie,rfl,CJ,b⟩:=Jx.seq m2.st;cases b;refine⟨l,l2,vs,rfl,rfl,AG.of c,AG.of CJ,?_⟩;have e:decide (vs=[])=decide (xs.length=0):=by
   rw[<- r.length];cases vs <;> simp
  rw[e];exact q _ _ F2 H2 (a.trans m2) (.bl _) kk⟩
end
end Fz
namespace Lw
open L2
variable{c t:Addr}{r:Str}{g:Int}{ss:List Str}
def Ke(H:Hp)(t c:Addr)(r:Str)(g:Int)(ss:List Str):Prop:=H t=some (.tup [.str r,.int g,.ref c])/\H c=some (.tup (ss.map V.str))
theorem Ke.h{H:Hp}(h:Ke H t c r g ss):TL H t r g ss:=⟨c,h⟩
theorem Ke.same{H H':Hp}(s:AD H H')(h:Ke H t c r g ss):Ke H' t c r g ss:=⟨s _ _ h.1,s _ _ h.2⟩
end Lw
namespace Fz
open L2 Lw
variable{E:Ent0}{ss:List Slot}{Z:L2.St}{F F' F0 F1 H H' H0:Hp}{js m p:List Nat}{ta tb tc te ti:TE}{nx:List Slot->Prop}{R:Ae}{n t u x y:OV}{v:V}{r:Str}{g i j:Nat}{cs:List Str}{Mu ps xs ys:List PV}{C3 vs ws:List V}{A:Around}{A0 BW:List Value}{BZ tp:Bool}{a b:Addr}{q:PV}{tr:TA}{t':TS}{us:List OV}{pre:Pre}
def LZ(r:Str)(g:Nat)(ss:List Str):PV:=.tup [.str r,.int g,.tup (ss.map .str)]
section
variable[Xw]
variable{K:ZBx}{k:PV->Prop}
theorem Mv.adopt(m:Mv E ss Z F H F1 H')(S:Sg E ss Z F H){t:Addr}{o:HO}(c:H t=Option.none)(e:H' t=some o):Mv E ss Z F H (upd F1 t o) H':=by
 have b:AD F1 (upd F1 t o):=λa u q=>by
  by_cases z:a=t
  .subst z;have w:=m.st.fh _ _ q;rw[e]at w;rw[AX];exact w
  .rw[AS z];exact q
 refine S.step (m.ff.trans b) (λa u q=>?_) m.hh (λa u q=>?_) λi l hi d=>m.st.Ek hi d
 .by_cases z:a=t
  .subst z;rw[AX]at q;rw[<- q];exact e
  .rw[AS z]at q;exact m.st.fh a u q
 .by_cases z:a=t
  .subst z;exact .inr c
  .rw[AS z]at q;exact m.nn a u q
theorem uk(h:Rep F v (LZ r g cs)):∃t c,v=.ref t/\Ke F t c r g cs:=by
 obtain⟨_,_,rfl,e,q⟩:=h.inv;obtain⟨_,_,rfl,a,q⟩:=q.inv;obtain⟨_,_,rfl,b,q⟩:=q.inv;obtain⟨_,_,rfl,c,q⟩:=q.inv;cases q;cases a;cases b;obtain⟨_,_,rfl,d,f⟩:=c.inv;rw[f.strs]at d;exact⟨_,_,rfl,e,d⟩
theorem lL{t c:Addr}(h:Ke F t c r g cs):Rep F (.ref t) (LZ r g cs):=.tup h.1 (.cons (.str _) (.cons (.int _) (.one (.tup h.2 (UR cs)))))
theorem xa(hi:ss[i]?=some .AH)(h:Wq ss ta λtp xs=>tp=false/\∃ns:List Str,xs=ns.map PV.str/\ns.length<=40/\ns.Nodup/\∀(r:Str)(g:Nat)(cs:List Str),C4 ns r g cs->cs.length<=40->k (LZ r g cs)):
  Wp ss (Dz V7 [] E0 (Ag (Ar i) (Ag ta BK))) k:=⟨λE Z F H Q S q=>by
 obtain⟨p,e,_⟩:=S.ok i _ hi;refine⟨_,e,h.go E Z F H _ S λv tp xs F1 H1 a sv⟨I,ns,ex,hz,nd,kk⟩=>?_⟩;subst I;subst ex;obtain⟨l,vs,G,B,d,r⟩:=sv;subst G;rw[r.strs]at d;refine⟨p,l,ns,rfl,a.st.Ek hi e,d,λz=>B i hi (z▸e),hz,nd,λt c r g cs H3 A C s e1 f D=>?_⟩;obtain⟨w,b,u,o,m,j⟩:=D;obtain⟨n,rfl⟩:=X5 b;have y:=(a.st.UZ hi e s).adopt a.st C f;have x:=y.adopt a.st A e1;refine q _ _ _ H3 (a.trans x) (lL (c:=c) ⟨AX,?_⟩) (kk r n cs ⟨w,b,u,o,m⟩ j)
 by_cases z:c=t
 .subst z;rw[AX];exact e1.symm.trans f
 .rw[AS z,AX]⟩
theorem Y4{n:Nat}(h:j<n):Ey n (j:Int)=some j:=by
 unfold Ey;simp;omega
theorem AF.set:∀{xs:List PV}(j:Nat){v:V}{p:PV},AF F vs xs->Rep F v p->AF F (vs.set j v) (xs.set j p):=by
 intro xs
 induction vs generalizing xs with
 |nil=>intro j v p h r;cases h;exact .nil
 |cons a vs c=>
  intro j v p h r;cases h with
  |cons b t=>
   cases j with
   |zero=>exact .cons r t
   |succ j=>exact .cons b (c j t r)
end
mutual
def BO:PV->PV->Bool
 | .lst xs,.lst ys=>CZ xs ys
 | .tup xs,.tup ys=>CZ xs ys
 | .tup xs,.con _ ys=>CZ xs ys
 | .con _ xs,.tup ys=>CZ xs ys
 | .con _ xs,.con _ ys=>CZ xs ys
 | .A6,.A6=>true
 | .bl a,.bl b=>a == b
 | .bl a,.int b=>(if a then 1 else 0) == b
 | .int a,.bl b=>a == (if b then 1 else 0)
 | .int a,.int b=>a == b
 | .str a,.str b=>a == b
 |_,_=>false
def CZ:List PV->List PV->Bool
 | [],[]=>true
 |x::r,y::t=>BO x y && CZ r t
 |_,_=>false
end
theorem QK(x y:PV)(r t:List PV):CZ (x::r) (y::t)=(BO x y && CZ r t):=by rw[CZ]
theorem U8:∀(xs ys:List PV),xs.length≠ys.length->CZ xs ys=false
 | [],[],h=>absurd rfl h
 | [],_::_,_=>by rw[CZ];all_goals simp
 |_::_,[],_=>by rw[CZ];all_goals simp
 |x::r,y::t,h=>by rw[QK,U8 r t (by simpa using h),Ja]
theorem W3:∀(xs ys:List PV),xs.length=ys.length->CZ xs ys=(List.range xs.length).all λj=>BO (xs.getD j .A6) (ys.getD j .A6)
 | [],[],_=>by rw[CZ];rfl
 |x::r,y::t,h=>by
  rw[QK,W3 r t (by simpa using h),BA,List.range_succ_eq_map,RT,List.all_map]
  rfl
def dat(K:ZBx):Nat->PV->Prop
 |_,.A6=>True
 |_,.bl _=>True
 |_,.int _=>True
 |_,.str _=>True
 |d+1,.lst xs=>∀x∈xs,dat K d x
 |d+1,.tup xs=>∀x∈xs,dat K d x
 |d+1,.con a xs=>(∀x∈xs,dat K d x)/\xs.all flat=true/\∀H,Ab K H a (xs.map Fz.enc)
 |_,_=>False
inductive Fm (K:ZBx) (H:Hp):V->PV->Bool->Addr->List V->List PV->Prop where
 |lst {a:Addr}{vs:List V}{xs:List PV}:AG K H a vs->AF H vs xs->Fm K H (.ref a) (.lst xs) false a vs xs
 |tup {a:Addr}{vs:List V}{xs:List PV}:Ab K H a vs->AF H vs xs->Fm K H (.ref a) (.tup xs) true a vs xs
 |con {a:Addr}{vs:List V}{xs:List PV}:Ab K H a vs->AF H vs xs->Fm K H (.ref a) (.con a xs) true a vs xs
theorem FI{K:ZBx}:∀{d:Nat}{x:V}{p:PV},dat K d p->Rep H x p->(flat p=true/\x=Fz.enc p)∨∃d' tp a vs xs,d=d'+1/\Fm K H x p tp a vs xs/\∀y∈xs,dat K d' y:=by
 intro d x p h r;cases r with
 |A6=>exact .inl ⟨rfl,rfl⟩
 |bl b=>exact .inl ⟨rfl,rfl⟩
 |int b=>exact .inl ⟨rfl,rfl⟩
 |str b=>exact .inl ⟨rfl,rfl⟩
 |lst e r=>cases d with
  |zero=>exact h.elim
  |succ d=>exact .inr ⟨d,_,_,_,_,rfl,.lst (AG.of e) r,h⟩
 |tup e r=>cases d with
  |zero=>exact h.elim
  |succ d=>exact .inr ⟨d,_,_,_,_,rfl,.tup (Ab.of e) r,h⟩
 |con=>cases d with
  |zero=>exact h.elim
  |succ d=>obtain⟨h1,h2,c⟩:=h;exact .inr ⟨d,_,_,_,_,rfl,.con (c H) (VB h2),h1⟩
 |As _ _ _=>cases d <;> exact h.elim
 |obj _ _ _ _=>cases d <;> exact h.elim
 |QR _=>cases d <;> exact h.elim
 |exc _ _ _ _=>cases d <;> exact h.elim
section
variable{X:Cx}{Zq:ZBy}{s:Shared}
theorem lS(b:Vals vs A0)(a:Vals ws BW)(d:AF H vs xs)(c:AF H ws ys)
  (h:∀(x y:V)(p q:PV)(u v:Value),p∈xs->q∈ys->Rep H x p->Rep H y q->RelV x u->RelV y v->SeqAt.EqAt A s u v (BO p q)) :
  ∀j(h1:j<A0.toArray.size)(h2:j<BW.toArray.size),SeqAt.EqAt A s A0.toArray[j] BW.toArray[j] ((λj=>BO (xs.getD j .A6) (ys.getD j .A6)) j):=λj h1 h2=>by
 have l1:=b.length;have l2:=a.length;have B:=d.length;have z:=c.length;have w:j<A0.length:=by simpa using h1
 have t:j<BW.length:=by simpa using h2
 have a1:j<xs.length:=by omega
 have a2:j<ys.length:=by omega
 obtain⟨x,hx,k⟩:=d.get (i:=j) (p:=xs[j]) (AK a1);obtain⟨y,n,g⟩:=c.get (i:=j) (p:=ys[j]) (AK a2);obtain⟨u,f,m⟩:=b.get hx;obtain⟨v,e,l⟩:=a.get n;rw[AK w]at f;rw[AK t]at e;have r:A0[j]=u:=B3 f;have o:BW[j]=v:=B3 e;have q:=h x y _ _ u v (Fi a1) (Fi a2) k g m l;rw[<- r,<- o]at q;show SeqAt.EqAt A s _ _ (BO (xs.getD j .A6) (ys.getD j .A6));rw[DN,AK a1,DN,AK a2]
 simpa using q
theorem RB{p:PV}{x:V}(h:Fm X.K H x p tp a vs xs)(f:flat q=true):BO p q=false/\BO q p=false:=by
 cases h <;> cases q <;> first|exact Bool.noConfusion f|exact⟨rfl,rfl⟩
theorem UW{p:PV}{x y:V}(h:Fm X.K H x p tp a vs xs)(h2:Fm X.K H y q BZ b ws ys):BO p q=(if tp=BZ then CZ xs ys else false):=by
 cases h <;> cases h2 <;> rfl
theorem PR{p:PV}(h:flat p=true)(h2:flat q=true):BO p q=Dp (Fz.enc p) (Fz.enc q):=by
 cases p <;> cases q <;> first|exact Bool.noConfusion h|exact Bool.noConfusion h2|rfl
theorem uM{p:PV}{u v:Value}(h:flat p=true)(h2:flat q=true)(b:RelV (Fz.enc p) u)(a:RelV (Fz.enc q) v):SeqAt.RcAt A s u v (BO p q)/\SeqAt.RcNeAt A s u v (!BO p q):=by
 cases p <;> first|exact Bool.noConfusion h|skip
 all_goals cases q <;> first|exact Bool.noConfusion h2|skip
 .cases b;cases a;exact⟨.none_none,.none_none⟩
 .cases b;cases a;exact⟨.none_bool _,.none_bool _⟩
 .cases b;obtain⟨t,rfl⟩:=a;exact⟨.none_int _ _,.none_int _ _⟩
 .cases b;obtain⟨t,rfl⟩:=a;exact⟨.none_str _ _,.none_str _ _⟩
 .cases b;cases a;exact⟨.bool_none _,.bool_none _⟩
 .cases b;cases a;exact⟨.bool_bool _ _,.bool_bool _ _⟩
 .cases b;obtain⟨t,rfl⟩:=a;exact⟨.bool_int _ _ _,.bool_int _ _ _⟩
 .cases b;obtain⟨t,rfl⟩:=a;exact⟨.bool_str _ _ _,.bool_str _ _ _⟩
 .obtain⟨t,rfl⟩:=b;cases a;exact⟨.int_none _ _,.int_none _ _⟩
 .obtain⟨t,rfl⟩:=b;cases a;exact⟨.int_bool _ _ _,.int_bool _ _ _⟩
 .obtain⟨t,rfl⟩:=b;obtain⟨t2,rfl⟩:=a;exact⟨.int_int _ _ _ _,.int_int _ _ _ _⟩
 .obtain⟨t,rfl⟩:=b;obtain⟨t2,rfl⟩:=a;exact⟨.int_str _ _ _ _,.int_str _ _ _ _⟩
 .obtain⟨t,rfl⟩:=b;cases a;exact⟨.str_none _ _,.str_none _ _⟩
 .obtain⟨t,rfl⟩:=b;cases a;exact⟨.str_bool _ _ _,.str_bool _ _ _⟩
 .obtain⟨t,rfl⟩:=b;obtain⟨t2,rfl⟩:=a;exact⟨.str_int _ _ _ _,.str_int _ _ _ _⟩
 .obtain⟨t,rfl⟩:=b;obtain⟨t2,rfl⟩:=a;exact⟨.str_str _ _ _ _,.str_str _ _ _ _⟩
def Pu(h:Heap)(tp:Bool)(a:Addr)(A0:Array Value):Prop:=if tp then IsTup h a A0 else h.IsList a A0
theorem Fm.Fu(I:Inv X Zq Z H s){x:V}{p:PV}(h:Fm X.K H x p tp a vs xs):∃A0:List Value,x=.ref a/\Vals vs A0/\Pu s.heap tp a A0.toArray/\AF H vs xs:=by
 cases h with
 |lst h r=>obtain⟨A0,b,p1,_⟩:=I.list h;exact⟨A0,rfl,b,p1.isList,r⟩
 |tup h r=>obtain⟨A0,b,p1,_⟩:=I.tuple h;exact⟨A0,rfl,b,p1,r⟩
 |con h r=>obtain⟨A0,b,p1,_⟩:=I.tuple h;exact⟨A0,rfl,b,p1,r⟩
theorem RG{A0:Array Value}{v:Value}(h:Pu s.heap tp a A0)(f:flat q=true)(c:RelV (Fz.enc q) v)(b:A.units<cLine):
  (SeqAt.EqAt A s (.ref a) v false/\SeqAt.EqAt A s v (.ref a) false)/\(SeqAt.RcAt A s (.ref a) v false/\SeqAt.RcAt A s v (.ref a) false)/\(SeqAt.RcNeAt A s (.ref a) v true/\SeqAt.RcNeAt A s v (.ref a) true):=by
 cases tp with
 |false=>
  have h':s.heap.IsList a A0:=h;cases q <;> first|exact Bool.noConfusion f|skip
  .cases c;exact⟨⟨.list_none h' b,.none_list h' b⟩,⟨.list_none h' b,.none_list h' b⟩,⟨.list_none h' b,.none_list h' b⟩⟩
  .cases c;exact⟨⟨.list_bool _ h' b,.bool_list _ h' b⟩,⟨.list_bool _ h' b,.bool_list _ h' b⟩,⟨.list_bool _ h' b,.bool_list _ h' b⟩⟩
  .obtain⟨t,rfl⟩:=c;exact⟨⟨.list_int _ _ h' b,.int_list _ _ h' b⟩,⟨.list_int _ _ h' b,.int_list _ _ h' b⟩,⟨.list_int _ _ h' b,.int_list _ _ h' b⟩⟩
  .obtain⟨t,rfl⟩:=c;exact⟨⟨.list_str _ _ h' b,.str_list _ _ h' b⟩,⟨.list_str _ _ h' b,.str_list _ _ h' b⟩,⟨.list_str _ _ h' b,.str_list _ _ h' b⟩⟩
 |true=>
  have h':IsTup s.heap a A0:=h;cases q <;> first|exact Bool.noConfusion f|skip
  .cases c;exact⟨⟨.tuple_none h' b,.none_tuple h' b⟩,⟨.tuple_none h' b,.none_tuple h' b⟩,⟨.tuple_none h' b,.none_tuple h' b⟩⟩
  .cases c;exact⟨⟨.tuple_bool _ h' b,.bool_tuple _ h' b⟩,⟨.tuple_bool _ h' b,.bool_tuple _ h' b⟩,⟨.tuple_bool _ h' b,.bool_tuple _ h' b⟩⟩
  .obtain⟨t,rfl⟩:=c;exact⟨⟨.tuple_int _ _ h' b,.int_tuple _ _ h' b⟩,⟨.tuple_int _ _ h' b,.int_tuple _ _ h' b⟩,⟨.tuple_int _ _ h' b,.int_tuple _ _ h' b⟩⟩
  .obtain⟨t,rfl⟩:=c;exact⟨⟨.tuple_str _ _ h' b,.str_tuple _ _ h' b⟩,⟨.tuple_str _ _ h' b,.str_tuple _ _ h' b⟩,⟨.tuple_str _ _ h' b,.str_tuple _ _ h' b⟩⟩
theorem Fm.inj(I:Inv X Zq Z H s){x y:V}{p q:PV}{tp BZ:Bool}{a:Addr}{vs ws:List V}{xs ys:List PV}(h:Fm X.K H x p tp a vs xs)(h2:Fm X.K H y q BZ a ws ys):tp=BZ/\vs=ws:=by
 have no:∀{vs ws:List V},AG X.K H a vs->Ab X.K H a ws->False:=λ{vs ws}h1 h2=>by
  obtain⟨A0,_,p1,_⟩:=I.list h1;obtain⟨BW,_,p2,_⟩:=I.tuple h2;obtain⟨o,n,e,c,_⟩:=p1;obtain⟨f,b,d,_⟩:=p2;rw[e]at b;cases b;rw[c]at d;exact absurd d (by decide)
 cases h with
 |lst h r=>cases h2 with
  |lst h2 _=>exact⟨rfl,I.aw h h2⟩
  |tup h2 _=>exact(no h h2).elim
  |con h2 _=>exact(no h h2).elim
 |tup h r=>cases h2 with
  |lst h2 _=>exact(no h2 h).elim
  |tup h2 _=>exact⟨rfl,I.Mq h h2⟩
  |con h2 _=>exact⟨rfl,I.Mq h h2⟩
 |con h r=>cases h2 with
  |lst h2 _=>exact(no h2 h).elim
  |tup h2 _=>exact⟨rfl,I.Mq h h2⟩
  |con h2 _=>exact⟨rfl,I.Mq h h2⟩
theorem cU{p:PV}(h:flat p=true):Dp (Fz.enc p) (Fz.enc p)=true:=by cases p <;> first|exact Bool.noConfusion h|exact pV _|rfl
theorem qD(i:∀(x:V)(p q:PV),Rep H x p->Rep H x q->dat X.K d p->dat X.K d q->BO p q=true)(f:AF H vs xs)(c:AF H vs ys)(h1:∀x∈xs,dat X.K d x)(h2:∀y∈ys,dat X.K d y):CZ xs ys=true:=by
 induction xs generalizing vs ys with
 |nil=>
  cases f.D0;cases ys with
  |nil=>rfl
  |cons y t=>obtain⟨v,ws,e,_⟩:=c.inv;cases e
 |cons x xs h=>
  obtain⟨v,ws,rfl,a,b⟩:=f.inv;cases ys with
  |nil=>have e:=c.D0;cases e
  |cons y t=>
   obtain⟨v2,g,e,a2,j⟩:=c.inv;cases e;rw[QK,i _ _ _ a a2 (h1 _ Aj) (h2 _ Aj),h b j (λx hx=>h1 x (B2 _ hx)) (λx hx=>h2 x (B2 _ hx))];rfl
theorem va(I:Inv X Zq Z H s):∀(d:Nat)(x:V)(p q:PV),Rep H x p->Rep H x q->dat X.K d p->dat X.K d q->BO p q=true:=λd=>by
 induction d with
 |zero=>
  intro x p q k h h1 h2;rcases FI h1 k with⟨j,e1⟩|⟨d',_,_,_,_,e,_⟩
  .rcases FI h2 h with⟨c,g⟩|⟨d',_,_,_,_,e,_⟩
   .rw[PR j c,<- e1,g];exact cU c
   .cases e
  .cases e
 |succ d o=>
  intro x p q k h h1 h2;rcases FI h1 k with⟨j,e1⟩|⟨v,tp,a,vs,xs,e,i,k1⟩
  .rcases FI h2 h with⟨c,g⟩|⟨u,BZ,b,ws,ys,e,f,k2⟩
   .rw[PR j c,<- e1,g];exact cU c
   .obtain⟨_,ex,_⟩:=f.Fu I;subst ex;cases p <;> first|(cases j;done)|(cases e1;done)
  .cases e;rcases FI h2 h with⟨c,g⟩|⟨u,BZ,b,ws,ys,e,f,k2⟩
   .obtain⟨_,ex,_⟩:=i.Fu I;subst ex;cases q <;> first|(cases c;done)|(cases g;done)
   .cases e;obtain⟨_,ex,_,_,n⟩:=i.Fu I;obtain⟨_,l,_,_,m⟩:=f.Fu I;rw[ex]at l;cases l;obtain⟨t,r⟩:=i.inj I f;subst r;rw[UW i f,i5 t];exact qD o n m k1 k2
theorem iY(b:Vals vs A0)(a:Vals ws BW)(d:AF H vs xs)(c:AF H ws ys):A0.toArray.size=xs.length/\BW.toArray.size=ys.length:=by
 have l1:=b.length;have l2:=a.length;have f:=d.length;have e:=c.length;simp only[Bn];omega
theorem dh(h1:Pu s.heap tp a A0.toArray)(h2:Pu s.heap BZ b BW.toArray)(m:Vals vs A0)(l:Vals ws BW)(o:AF H vs xs)(n:AF H ws ys)(c:A.units<cLine)
  (h:∀(x y:V)(p q:PV)(u v:Value),p∈xs->q∈ys->Rep H x p->Rep H y q->RelV x u->RelV y v->SeqAt.EqAt A.in1 s u v (BO p q)) :
  SeqAt.RcAt A s (.ref a) (.ref b) (if tp=BZ then CZ xs ys else false)/\SeqAt.RcNeAt A s (.ref a) (.ref b) (!(if tp=BZ then CZ xs ys else false)):=by
 obtain⟨i,k⟩:=iY m l o n;have it:=lS (A:=A.in1) m l o n h;cases tp with
 |false=>cases BZ with
  |false=>
   rw[i5 rfl];have g:s.heap.IsList a A0.toArray:=h1;have f:s.heap.IsList b BW.toArray:=h2
   by_cases d:xs.length=ys.length
   .rw[W3 xs ys d,<- i];exact⟨.lists g f (by omega) c it,.lists g f (by omega) c it⟩
   .rw[U8 xs ys d];have r:(A0.toArray.size != BW.toArray.size)=true:=by simp only[bne_iff_ne,ne_eq];omega
    exact⟨.lists_lengths g f r c,.lists_lengths g f r c⟩
  |true=>rw[i3 (by decide)];exact⟨.list_tuple h1 h2 c,.list_tuple h1 h2 c⟩
 |true=>cases BZ with
  |false=>rw[i3 (by decide)];exact⟨.tuple_list h1 h2 c,.tuple_list h1 h2 c⟩
  |true=>
   rw[i5 rfl];have g:IsTup s.heap a A0.toArray:=h1;have f:IsTup s.heap b BW.toArray:=h2;have e:((List.range (min A0.toArray.size BW.toArray.size)).all (λj=>BO (xs.getD j .A6) (ys.getD j .A6)) && A0.toArray.size == BW.toArray.size)=CZ xs ys:=by
    by_cases d:xs.length=ys.length
    .rw[W3 xs ys d,i,k,<- d,XS,pV,Wy]
    .rw[U8 xs ys d,i,k,show(xs.length == ys.length)=false from by simpa using d,Ja]
   have k1:=SeqAt.RcAt.tuples (A:=A) (e:=λj=>BO (xs.getD j .A6) (ys.getD j .A6)) g f c it;have k2:=SeqAt.RcNeAt.tuples (A:=A) (e:=λj=>BO (xs.getD j .A6) (ys.getD j .A6)) g f c it;rw[e]at k1 k2;exact⟨k1,k2⟩
theorem d4(I:Inv X Zq Z H s):∀(d:Nat)(x y:V)(p q:PV),Rep H x p->Rep H y q->dat X.K d p->dat X.K d q->∀(A:Around)(u v:Value),RelV x u->RelV y v->A.units+d<cLine->SeqAt.EqAt A s u v (BO p q):=λd=>by
 induction d with
 |zero=>
  intro x y p q k h h1 h2 A u v f c D;rcases FI h1 k with⟨i,e1⟩|⟨_,_,_,_,_,e,_⟩
  .rcases FI h2 h with⟨g,m⟩|⟨_,_,_,_,_,e,_⟩
   .subst e1;subst m;rw[PR i g];exact Oi f c (Q4 i) (Q4 g)
   .cases e
  .cases e
 |succ d C=>
  intro x y p q k h h1 h2 A u v f c D;rcases FI h1 k with⟨i,e1⟩|⟨J,tp,a,vs,xs,e,n,k1⟩
  .rcases FI h2 h with⟨g,m⟩|⟨G,BZ,b,ws,ys,e,l,k2⟩
   .subst e1;subst m;rw[PR i g];exact Oi f c (Q4 i) (Q4 g)
   .obtain⟨A0,o,_,j,_⟩:=l.Fu I;subst e1;subst o;cases(show v=Value.ref b from c);rw[(RB l i).2];exact(RG j i f (by omega)).1.2
  .cases e;rcases FI h2 h with⟨g,m⟩|⟨G,BZ,b,ws,ys,e,l,k2⟩
   .obtain⟨A0,ex,_,j,_⟩:=n.Fu I;subst m;subst ex;cases(show u=Value.ref a from f);rw[(RB n g).1];exact(RG j g c (by omega)).1.1
   .cases e;obtain⟨A0,ex,v1,B,w⟩:=n.Fu I;obtain⟨BW,o,v2,z,t⟩:=l.Fu I;subst ex;subst o;cases(show u=Value.ref a from f);cases(show v=Value.ref b from c)
    by_cases r:a=b
    .subst r;rw[va I (d+1) _ p q k h h1 h2];exact .same _
    .rw[UW n l];refine SeqAt.EqAt.of_refs r (dh B z v1 v2 w t (by omega) λx y p q u v F E k h f c=>?_).1;exact C x y p q k h (k1 p F) (k2 q E) A.in1 u v f c (by show A.units+1+d<cLine;omega)
theorem wC(I:Inv X Zq Z H s)(d:Nat)(x y:V)(p q:PV)(m:Rep H x p)(i:Rep H y q)(h1:dat X.K d p)(h2:dat X.K d q)(A:Around)(u v:Value)(f:RelV x u)(c:RelV y v)(G:A.units+d<cLine):SeqAt.RcAt A s u v (BO p q)/\SeqAt.RcNeAt A s u v (!BO p q):=by
 rcases FI h1 m with⟨n,e1⟩|⟨r,tp,a,vs,xs,e,k,k1⟩
 .rcases FI h2 i with⟨l,h⟩|⟨F,BZ,b,ws,ys,e,g,k2⟩
  .subst e1;subst h;exact uM n l f c
  .obtain⟨A0,o,_,j,_⟩:=g.Fu I;subst e1;subst o;cases(show v=Value.ref b from c);rw[(RB g n).2];have z:=RG (A:=A) j n f (by omega);exact⟨z.2.1.2,z.2.2.2⟩
 .rcases FI h2 i with⟨l,h⟩|⟨F,BZ,b,ws,ys,h,g,k2⟩
  .obtain⟨A0,ex,_,j,_⟩:=k.Fu I;subst h;subst ex;cases(show u=Value.ref a from f);rw[(RB k l).1];have z:=RG (A:=A) j l c (by omega);exact⟨z.2.1.1,z.2.2.1⟩
  .subst e;cases h;obtain⟨A0,ex,v1,C,w⟩:=k.Fu I;obtain⟨BW,o,v2,B,t⟩:=g.Fu I;subst ex;subst o;cases(show u=Value.ref a from f);cases(show v=Value.ref b from c);rw[UW k g];exact dh C B v1 v2 w t (by omega) λx y p q u v E D m i f c=>d4 I r x y p q m i (k1 p E) (k2 q D) A.in1 u v f c (by show A.units+1+r<cLine;omega)
def fB(K:ZBx)(neg:Bool):R2:=λx y H Q=>∃p q,Rep H x p/\Rep H y q/\dat K 40 p/\dat K 40 q/\Q (.bl (if neg then !BO p q else BO p q)) H
theorem Ya(i:X.A.units+64<cLine):Aw X (compareOp .NotEq) (fB X.K true):=by
 intro Zq s Z H x y v u Q I b a h;obtain⟨p,q,d,c,g,f,e⟩:=h;exact(wC I 40 x y p q d c g f X.A _ _ b a (by omega)).2 _ _ _ _ ⟨.bl (!BO p q),H,I,rfl,e⟩
end
section
variable[Xw]
variable{K:ZBx}{k:PV->Prop}
theorem UM(h:Wp ss ta λp=>Wp ss tb λq=>dat K 40 p/\dat K 40 q/\k (.bl (!BO p q))):Wp ss (B8 (fB K true) ta tb) k:=⟨λE Z F H Q S q=>
 h.go E Z F H _ S λv p F1 H1 a c h2=>h2.go E Z F1 H1 _ a.st λv2 p2 F2 H2 m2 b⟨e,d,kk⟩=>
  ⟨p,p2,(c.mono m2.ff).mono m2.st.fh,b.mono m2.st.fh,e,d,q _ _ F2 H2 (a.trans m2) (.bl _) kk⟩⟩
end
noncomputable def OV.at(t:OV):List Nat->Option OV
 | []=>some t
 |j::p=>match t with
  | .nd _ _ xs=>(xs[j]?).bind λx=>OV.at x p
  | .tp xs=>(xs[j]?).bind λx=>OV.at x p
  | .fz _=>none
noncomputable def OV.put(t:OV)(l:List Nat)(n:OV):OV:=match l with
 | []=>n
 |j::p=>match t with
  | .nd k a xs=>match xs[j]? with
   |some x=>.nd k a (xs.set j (OV.put x p n))
   |none=>.nd k a xs
  | .tp xs=>match xs[j]? with
   |some x=>.tp (xs.set j (OV.put x p n))
   |none=>.tp xs
  | .fz q=>.fz q
theorem OV.LO:t.at []=some t:=by rw[OV.at]
theorem OV.O7{k:NK}{xs:List OV}:(OV.nd k a xs).at (j::p)=(xs[j]?).bind λx=>x.at p:=by rw[OV.at]
theorem OV.Ms{xs:List OV}:(OV.tp xs).at (j::p)=(xs[j]?).bind λx=>x.at p:=by rw[OV.at]
theorem OV.Nz:t.put [] n=n:=by rw[OV.put]
theorem OV.R6{k:NK}{xs:List OV}(h:xs[j]?=some x):(OV.nd k a xs).put (j::p) n=.nd k a (xs.set j (x.put p n)):=by rw[OV.put,h]
theorem OV.Ol{xs:List OV}(h:xs[j]?=some x):(OV.tp xs).put (j::p) n=.tp (xs.set j (x.put p n)):=by rw[OV.put,h]
theorem OV.OQ{u w:OV}:∀{p:List Nat}{t:OV}{j:Nat},t.at p=some u->u.at [j]=some w->t.at (p++[j])=some w
 | [],t,j,h,h2=>by rw[OV.LO]at h;cases h;exact h2
 |i::p,.nd k a xs,j,h,h2=>by
  rw[OV.O7]at h;rw[X9,OV.O7];cases e:xs[i]? with
  |none=>rw[e]at h;cases h
  |some x=>rw[e]at h;exact OV.OQ (t:=x) h h2
 |i::p,.tp xs,j,h,h2=>by
  rw[OV.Ms]at h;rw[X9,OV.Ms];cases e:xs[i]? with
  |none=>rw[e]at h;cases h
  |some x=>rw[e]at h;exact OV.OQ (t:=x) h h2
 |i::p,.fz q,j,h,h2=>by rw[OV.at]at h;cases h
theorem Ji:∀{xs:List OV}{j:Nat}{x:OV},xs[j]?=some x->∃l r,OV.Ai xs=l++x.addrs++r/\∀y:OV,OV.Ai (xs.set j y)=l++y.addrs++r
 |x::xs,0,z,h=>by
  simp at h;subst h;exact⟨[],OV.Ai xs,by rw[OV.Cu];rfl,λy=>by rw[gS,OV.Cu];rfl⟩
 |x::xs,j+1,z,h=>by
  obtain⟨l,r,e1,a⟩:=Ji (xs:=xs) (j:=j) (x:=z) (by simpa using h)
  refine⟨x.addrs++l,r,by rw[OV.Cu,e1];simp[Bh],λy=>by rw[Ri,OV.Cu,a];simp[Bh]⟩
theorem OV.split{u:OV}:∀{p:List Nat}{t:OV},t.at p=some u->∃l r,t.addrs=l++u.addrs++r/\∀n:OV,(t.put p n).addrs=l++n.addrs++r
 | [],t,h=>by rw[OV.LO]at h;cases h;exact⟨[],[],by simp,λn=>by rw[OV.Nz];simp⟩
 |j::p,.nd k a xs,h=>by
  rw[OV.O7]at h;cases e:xs[j]? with
  |none=>rw[e]at h;cases h
  |some x=>
   rw[e]at h;obtain⟨l,r,e1,f⟩:=Ji e;obtain⟨l2,b,d,c⟩:=OV.split (t:=x) h;refine⟨a::(k.more++(l++l2)),b++r,by rw[OV.DQ,e1,d];simp[Bh],λn=>by rw[OV.R6 e,OV.DQ,f,c];simp[Bh]⟩
 |j::p,.tp xs,h=>by
  rw[OV.Ms]at h;cases e:xs[j]? with
  |none=>rw[e]at h;cases h
  |some x=>
   rw[e]at h;obtain⟨l,r,e1,f⟩:=Ji e;obtain⟨l2,b,d,c⟩:=OV.split (t:=x) h;refine⟨l++l2,b++r,by rw[OV.G7,e1,d];simp[Bh],λn=>by rw[OV.Ol e,OV.G7,f,c];simp[Bh]⟩
 |j::p,.fz q,h=>by rw[OV.at]at h;cases h
theorem Au.get{F H:Hp}{vs:List V}{ts:List OV}{j:Nat}{t:OV}(r:Au F H vs ts)(e:ts[j]?=some t):∃v,vs[j]?=some v/\Af F H v t:=by
 induction ts generalizing vs j with
 |nil=>cases e
 |cons q ps c=>
  obtain⟨v,ws,rfl,a,b⟩:=r.inv;cases j with
  |zero=>cases e;exact⟨_,rfl,a⟩
  |succ j=>exact c (vs:=ws) (j:=j) b e
theorem Au.append{xs ys:List OV}(r:Au F H vs xs)(s:Au F H ws ys):Au F H (vs++ws) (xs++ys):=by
 induction xs generalizing vs with
 |nil=>cases r.D0;exact s
 |cons p ps c=>obtain⟨v,us,rfl,a,b⟩:=r.inv;exact .cons a (c b)
theorem Au.one{F H:Hp}{v:V}{t:OV}(r:Af F H v t):Au F H [v] [t]:=.cons r .nil
theorem Ud(r:AF F vs xs):Au F H vs (xs.map .fz):=by
 induction xs generalizing vs with
 |nil=>cases r.D0;exact .nil
 |cons p ps c=>obtain⟨v,us,rfl,a,b⟩:=r.inv;exact .cons (.fz a) (c b)
theorem Au.vA(r:Au F H vs (xs.map .fz)):AF F vs xs:=by
 induction xs generalizing vs with
 |nil=>cases r.D0;exact .nil
 |cons p ps c=>obtain⟨v,us,rfl,a,b⟩:=r.inv;exact .cons a.inv (c b)
theorem OP:∀(xs:List PV),OV.Ai (xs.map .fz)=[]
 | []=>by rw[Rb,OV.Ai]
 |x::r=>by rw[E9,OV.Cu,OV.Ll,OP r];rfl
theorem Au.set{xs:List OV}(j:Nat)(r:Au F H vs xs)(q:Af F H v t):Au F H (vs.set j v) (xs.set j t):=by
 induction xs generalizing vs j with
 |nil=>cases r.D0;exact .nil
 |cons p ps c=>
  obtain⟨u,us,rfl,a,b⟩:=r.inv;cases j with
  |zero=>exact .cons q b
  |succ j=>exact .cons a (c j b)
theorem Au.swap{xs:List OV}(r:Au F H vs xs)(h:xs[j]?=some x)(e:vs[j]?=some v)(hk:∀l r,OV.Ai xs=l++x.addrs++r->(∀z:OV,OV.Ai (xs.set j z)=l++z.addrs++r)->∀b∈l++r,∀o,H b=some o->H' b=some o)(f:Af F H' v y):Au F H' vs (xs.set j y):=by
 induction xs generalizing vs j with
 |nil=>cases h
 |cons p ps k=>
  obtain⟨u,us,rfl,a,b⟩:=r.inv;cases j with
  |zero=>
   cases h;cases e;refine .cons f (b.mono (AD.refl _) λc d o=>hk [] (OV.Ai ps) (by rw[OV.Cu];rfl) (λz=>by rw[gS,OV.Cu];rfl) c d o)
  |succ j=>
   rw[Ri];obtain⟨l,q,e1,m⟩:=Ji (xs:=ps) (j:=j) h;refine .cons (a.mono (AD.refl _) λc d o=>hk (p.addrs++l) q (by rw[OV.Cu,e1,Bh,Bh,Bh]) (λz=>by rw[Ri,OV.Cu,m,Bh,Bh,Bh]) c (DA _ (DA _ d)) o) (k (vs:=us) (j:=j) b h e λi g Cc B9 c d o=>?_);refine hk (p.addrs++i) g (by rw[OV.Cu,Cc,Bh,Bh,Bh]) (λz=>by rw[Ri,OV.Cu,B9,Bh,Bh,Bh]) c ?_ o;rcases List.mem_append.mp d with hz|hz
   .exact DA _ (Bk _ hz)
   .exact Bk _ hz
theorem Af.at{F H:Hp}{u:OV}:∀{p:List Nat}{t:OV}{v:V},Af F H v t->t.at p=some u->∃w,Af F H w u/\∀(H':Hp)(n:OV),Af F H' w n->(∀l r,t.addrs=l++u.addrs++r->(∀n:OV,(t.put p n).addrs=l++n.addrs++r)->∀b∈l++r,∀o,H b=some o->H' b=some o)->Af F H' v (t.put p n)
 | [],t,v,h,e=>by rw[OV.LO]at e;cases e;exact⟨v,h,λH' n r _=>by rw[OV.Nz];exact r⟩
 |j::p,.fz q,v,h,e=>by rw[OV.at]at e;cases e
 |j::p,.nd k a xs,_,.nd h sd ft r,e=>by
  rw[OV.O7]at e;cases ex:xs[j]? with
  |none=>rw[ex]at e;cases e
  |some x=>
   rw[ex]at e;obtain⟨D,TU,y⟩:=r.get ex;obtain⟨w,d,go⟩:=Af.at (t:=x) y e;refine⟨w,d,λH' n s hk=>?_⟩;obtain⟨l2,m,C,B⟩:=OV.split e;have key:∀l r,OV.Ai xs=l++x.addrs++r->(∀z:OV,OV.Ai (xs.set j z)=l++z.addrs++r)->∀b,b∈(a::(k.more++(l++l2)))++(m++r)->∀o,H b=some o->H' b=some o:=λl r e1 i b c o=>
    hk (a::(k.more++(l++l2))) (m++r) (by rw[OV.DQ,e1,C];simp[Bh]) (λn=>by rw[OV.R6 ex,OV.DQ,i,B];simp[Bh]) b c o
   obtain⟨l,q,e1,i⟩:=Ji ex;rw[OV.R6 ex];refine .nd (key l q e1 i a (by simp) _ h) (NK.gC sd λb c=>key l q e1 i b (by simp[c])) ft ?_;refine r.swap ex TU (λg f Cc B9 b c o=>key g f Cc B9 b (by rcases List.mem_append.mp c with hz|hz <;> simp[hz]) o) ?_
   refine go H' n s λg f g1 A b c o=>?_;refine hk (a::(k.more++(l++g))) (f++q) (by rw[OV.DQ,e1,g1];simp[Bh]) (λn=>by rw[OV.R6 ex,OV.DQ,i,A];simp[Bh]) b (by rcases List.mem_append.mp c with hz|hz <;> simp[hz]) o
 |j::p,.tp xs,_,.tp h r,e=>by
  rw[OV.Ms]at e;cases ex:xs[j]? with
  |none=>rw[ex]at e;cases e
  |some x=>
   rw[ex]at e;obtain⟨D,TU,y⟩:=r.get ex;obtain⟨w,d,go⟩:=Af.at (t:=x) y e;refine⟨w,d,λH' n s hk=>?_⟩;obtain⟨l2,m,C,B⟩:=OV.split e;obtain⟨l,q,e1,i⟩:=Ji ex;rw[OV.Ol ex];refine .tp h (r.swap ex TU (λg f Cc B9 b c o=>?_) (go H' n s λg f g1 A b c o=>?_))
   .exact hk (g++l2) (m++f) (by rw[OV.G7,Cc,C];simp[Bh]) (λn=>by rw[OV.Ol ex,OV.G7,B9,B];simp[Bh]) b (by rcases List.mem_append.mp c with hz|hz <;> simp[hz]) o
   .exact hk (l++g) (f++q) (by rw[OV.G7,e1,g1];simp[Bh]) (λn=>by rw[OV.Ol ex,OV.G7,i,A];simp[Bh]) b (by rcases List.mem_append.mp c with hz|hz <;> simp[hz]) o
theorem ZL{l u r n:List Addr}(h:(l++u++r).Nodup)(g:n.Nodup)(hd:∀b∈n,b∈u∨b∉l++u++r):(l++n++r).Nodup:=by
 rw[Dg]at h ⊢;obtain⟨h1,h2,f⟩:=h;rw[Dg]at h1 ⊢;obtain⟨a1,a2,i⟩:=h1;refine⟨⟨a1,g,λa c b d e=>?_⟩,h2,λa c b d e=>?_⟩
 .subst e;rcases hd a d with z|z
  .exact i a c a z rfl
  .exact z (by simp[c])
 .subst e;rcases List.mem_append.mp c with c|c
  .exact f a (by simp[c]) a d rfl
  .rcases hd a c with z|z
   .exact f a (by simp[z]) a d rfl
   .exact z (by simp[d])
theorem Sg.ag(S:Sg E ss Z F H){k:NK}{xs:List OV}{ho:HO}{lt:Bool}(hi:ss[i]?=some (.ow lt t))(Be:t.at p=some (.nd k a xs))(L:Af F (upd H a ho) (.ref a) n)(nd:n.addrs.Nodup)
  (B:∀b∈n.addrs,b∈(OV.nd k a xs).addrs∨(F b=none/\E.H0 b=none/\∀(j:Nat)s,ss[j]?=some s->¬ B5 s Z[j]? b)):Sg E (ss.set i (.ow lt (t.put p n))) Z F (upd H a ho):=by
 obtain⟨v,e,r,Ui,q⟩:=S.ok i _ hi;obtain⟨l,J,e1,y⟩:=OV.split Be;have f:a∈(OV.nd k a xs).addrs:=by rw[OV.DQ];simp
 have h:∀b∈(OV.nd k a xs).addrs,b∈t.addrs:=λb c=>by rw[e1];simp[c]
 have U:∀b∈n.addrs,b∈(OV.nd k a xs).addrs∨b∉t.addrs:=λb c=>(B b c).imp id λz m=>z.2.2 i _ hi m;obtain⟨w,u,go⟩:=r.at Be;have M:w=.ref a:=by cases u;rfl
 subst M;have g:∀(j:Nat)s,(ss.set i .any)[j]?=some s->∀b,b∈t.addrs->¬ B5 s Z[j]? b:=λj s d b c m=>by
  by_cases z:j=i
  .subst z;rw[Cr (List.getElem?_eq_some_iff.mp hi).1]at d;cases d;cases m
  .rw[CM (BM z)]at d;exact S.BL j i s _ b z d hi m c
 have T:=(S.drop i).La (o:=ho) (q a (h a f)).1 ((q a (h a f)).2.imp id λz=>z.2) λj s d=>g j s d a (h a f);have C:=Ui;rw[e1,Dg,Dg]at C;obtain⟨⟨_,_,O⟩,_,N⟩:=C;have R:∀b,b∈l++J->b≠a:=λb c z=>by
  subst z;rcases List.mem_append.mp c with c|c
  .exact O b c b f rfl
  .exact N b (by simp[f]) b c rfl
 have K:Af F (upd H a ho) v (t.put p n):=go _ n L λW V g1 X b c o I=>by
  rw[AS ?_];exact I;rintro rfl;have D:=Ui;rw[g1,Dg,Dg]at D;obtain⟨⟨_,_,Q⟩,_,P⟩:=D;rcases List.mem_append.mp c with c|c
  .exact Q b c b f rfl
  .exact P b (by simp[f]) b c rfl
 have A:∀b∈(t.put p n).addrs,b∈t.addrs∨(F b=none/\E.H0 b=none/\∀(j:Nat)s,ss[j]?=some s->¬ B5 s Z[j]? b):=λb c=>by
  rw[y]at c;rcases List.mem_append.mp c with c|c
  .rcases List.mem_append.mp c with c|c
   .exact .inl (by rw[e1];simp[c])
   .exact(B b c).imp (h b) id
  .exact .inl (by rw[e1];simp[c])
 have G:=T.setG (j:=i) (s:=.ow lt (t.put p n)) (v:=v) ⟨v,rfl,K,by rw[y];exact ZL (e1▸Ui) nd λb c=>(U b c).imp id (by rw[e1];exact id),λb c=>(A b c).elim (q b) λz=>⟨z.1,.inl z.2.1⟩⟩ λb c j s d x m=>by
  rcases A b c with z|z
  .exact g j s x b z m
  .rw[CM (BM d)]at x;exact z.2.2 j s x m
 rw[Kd e,OI]at G;exact G
structure Wl [Xw] (ss:List Slot) (i:Nat) (t:OV) (te:TE) (k:List Nat->OV->Prop):Prop where
 hi:∃lt,ss[i]?=some (.ow lt t)
 go:∀(E:Ent)(Z:L2.St)(F H:Hp)(Q:VK),Sg E ss Z F H->(∀v p u F' H',Mv E ss Z F H F' H'->Af F' H' v u->t.at p=some u->k p u->Q v H')->te Z H Q
noncomputable def Dk:List Nat->List Slot->List Slot
 | [],ss=>ss
 |i::m,ss=>Dk m (ss.set i .any)
structure Wx [Xw] (ss:List Slot) (te:TE) (k:List Nat->OV->Prop):Prop where
 go:∀(E:Ent)(Z:L2.St)(F H:Hp)(Q:VK),Sg E ss Z F H->(∀v m u F' H',Mv E ss Z F H F' H'->Af F' H' v u->u.addrs.Nodup->(∀a∈u.addrs,F' a=none/\E.H0 a=none/\((∃i∈m,∃s,s≠Slot.AH/\ss[i]?=some s/\B5 s Z[i]? a)∨H a=none))->k m u->Q v H')->te Z H Q
structure Qp [Xw] (ss:List Slot) (te:TA) (k:List Nat->List OV->Prop):Prop where
 go:∀(E:Ent)(Z:L2.St)(F H:Hp)(Q:List V->Hp->Prop),Sg E ss Z F H->(∀vs m us F' H',Mv E ss Z F H F' H'->Au F' H' vs us->(OV.Ai us).Nodup->(∀a∈OV.Ai us,F' a=none/\E.H0 a=none/\((∃i∈m,∃s,s≠Slot.AH/\ss[i]?=some s/\B5 s Z[i]? a)∨H a=none))->k m us->Q vs H')->te Z H Q
section
variable[Xw]
variable{K:ZBx}{k:PV->Prop}
theorem OV.NP(h:t.at p=some u):∀a∈u.addrs,a∈t.addrs:=λa b=>by
 obtain⟨l,r,e,_⟩:=OV.split h;rw[e];simp[b]
theorem Af.mv(r:Af F H v u)(S:Sg E ss Z F H)(hi:∃lt,ss[i]?=some (.ow lt t))(h:t.at p=some u)(m:Mv E ss Z F H F' H'):Af F' H' v u:=
 r.mono m.ff λa b o e=>m.hh a o (S.Nw hi.choose_spec (OV.NP h a b) (by simp)) e
theorem Ee{lt:Bool}{k:List Nat->OV->Prop}(hi:ss[i]?=some (.ow lt t))(hk:k [] t):Wl ss i t (Ar i) k:=⟨⟨lt,hi⟩,λE Z F H Q S q=>by
 obtain⟨v,e,r,_,_⟩:=S.ok i _ hi;exact⟨v,e,q v [] t F H (.refl S) r OV.LO hk⟩⟩
theorem O3{k:List Nat->OV->Prop}(h:Wl ss i t ta λp u=>∃a xs,u=.nd .lst a xs/\Wp ss tb λq=>∃(j:Int)(n:Nat)(w:OV),q=.int j/\Ey xs.length j=some n/\xs[n]?=some w/\k (p++[n]) w):Wl ss i t (B8 (Di K) ta tb) k:=⟨h.hi,λE Z F H Q S q=>
 h.go E Z F H _ S λv p u F1 H1 b l h1⟨a,xs,r,h2⟩=>h2.go E Z F1 H1 _ b.st λv2 p2 F2 H2 m2 g⟨j,n,w,e,m,hw,kk⟩=>by
  subst e;cases g.inv;have f:=l.mv b.st h.hi h1 m2;subst r;obtain⟨_,rfl,o,s,y,c⟩:=f.inv;obtain⟨x,hx,d⟩:=c.get hw;refine⟨a,_,j,x,rfl,rfl,AG.of o,?_,q x (p++[n]) w F2 H2 (b.trans m2) d (OV.OQ h1 (by rw[OV.O7,hw];exact OV.LO)) kk⟩;unfold L2.BR;rw[c.length,m];exact hx⟩
theorem Il{k:List Nat->OV->Prop}(h:Wl ss i t ta λp u=>∃xs,u=.tp xs/\Wp ss tb λq=>∃(j:Int)(n:Nat)(w:OV),q=.int j/\Ey xs.length j=some n/\xs[n]?=some w/\k (p++[n]) w):Wl ss i t (B8 (Hr K) ta tb) k:=⟨h.hi,λE Z F H Q S q=>
 h.go E Z F H _ S λv p u F1 H1 a g h1⟨xs,o,h2⟩=>h2.go E Z F1 H1 _ a.st λv2 p2 F2 H2 m2 f⟨j,n,w,e,l,hw,kk⟩=>by
  subst e;cases f.inv;have d:=g.mv a.st h.hi h1 m2;subst o;obtain⟨_,_,rfl,m,b⟩:=d.inv;obtain⟨x,hx,c⟩:=b.get hw;refine⟨_,_,j,x,rfl,rfl,Ab.of (m2.st.fh _ _ m),?_,q x (p++[n]) w F2 H2 (a.trans m2) c (OV.OQ h1 (by rw[OV.Ms,hw];exact OV.LO)) kk⟩;unfold L2.BR;rw[b.length,l];exact hx⟩
theorem Lf(h:Wl ss i t te λ_ u=>∃p,u=.fz p/\k p):Wp ss te k:=⟨λE Z F H Q S q=>
 h.go E Z F H _ S λv p u F1 H1 b a h1 AN=>by obtain⟨p,c,kk⟩:=AN;subst c;cases a with|fz r=>exact q v p F1 H1 b r kk⟩
theorem Ny{k:List Nat->OV->Prop}(h:Wp ss te λp=>k [] (.fz p)):Wx ss te k:=⟨λE Z F H Q S q=>
 h.go E Z F H _ S λv p F1 H1 c r kk=>q v [] (.fz p) F1 H1 c (.fz r) (by rw[OV.Ll];exact IW) (λa b=>by rw[OV.Ll]at b;cases b) kk⟩
theorem LH(a:Addr)(xs:List PV):(OV.nd .lst a (xs.map .fz)).addrs=[a]:=by rw[OV.DQ,OP];rfl
theorem KN{k:List Nat->OV->Prop}(h:Wn ss te λxs=>∀l,k [] (.nd .lst l (xs.map .fz))):Wx ss te k:=⟨λE Z F H Q S q=>
 h.go E Z F H _ S λl vs xs F1 H1 d f b Fd r kk=>q _ [] _ F1 H1 d (.nd (k:=.lst) Fd trivial trivial (Ud r)) (by rw[LH];simp) (λa c=>by
  rw[LH]at c;have e:a=l:=by simpa using c
  subst e;exact⟨f,S.DD b,.inr b⟩) (kk l)⟩
theorem bG{k:List Nat->List OV->Prop}(h:k [] []):Qp ss BK k:=⟨λE Z F H Q S q=>q _ [] [] F H (.refl S) .nil (by rw[OV.FR];exact IW) (λa b=>by rw[OV.FR]at b;cases b) h⟩
theorem zw{k:List Nat->OV->Prop}(hi:ss[i]?=some (.ow false t))(h:k [i] t):Wx ss (Ar i) k:=⟨λE Z F H Q S q=>by
 obtain⟨v,e,r,nd,c⟩:=S.ok i _ hi;refine⟨_,e,q v [i] t F H (.refl S) r nd (λa b=>⟨(c a b).1,?_,.inl ⟨i,by simp,_,by simp,hi,b⟩⟩) h⟩;exact(c a b).2.elim id λz=>by cases z.1⟩
theorem Wx.xD(S:Sg E ss Z F H)(h:(∃i∈m,∃s,s≠Slot.AH/\ss[i]?=some s/\B5 s Z[i]? a)∨H a=none):C7 ss Z a:=by
 rcases h with⟨j,_,s,c,b,o⟩|z
 .exact S.Nw b o c
 .exact S.GO z
theorem Mv.q8(m:Mv E ss Z F H F' H')(h:F a=Option.none)(h2:H a≠Option.none):F' a=Option.none:=by
 cases e:F' a with
 |none=>rfl
 |some o=>
  rcases m.nn a o e with z|z
  .rw[h]at z;cases z
  .exact absurd z h2
theorem M3{k:List Nat->List OV->Prop}(h:Wx ss te λm u=>Qp ss tr λm2 us=>(∀i∈m,i∉m2)/\k (m++m2) (u::us)):Qp ss (Ag te tr) k:=⟨λE Z F H Q S q=>
 h.go E Z F H _ S λv m u F1 H1 l g M1 a1 h2=>h2.go E Z F1 H1 _ l.st λvs r us F2 H2 m2 x GH a2 AN=>by
  obtain⟨C,kk⟩:=AN;have np:∀a∈u.addrs,C7 ss Z a:=λa c=>Wx.xD S (a1 a c).2.2;refine q (v::vs) (m++r) (u::us) F2 H2 (l.trans m2) (.cons (g.mono m2.ff λa c o e=>m2.hh a o (np a c) e) x) ?_ (λa c=>?_) kk
  .rw[OV.Cu,Dg];refine⟨M1,GH,λa c b B e=>?_⟩;subst e;rcases(a2 a B).2.2 with⟨y,QY,s2,Xm,DY,p⟩|z
   .rcases(a1 a c).2.2 with⟨j,d,s,D,A,o⟩|z
    .exact S.BL j y s s2 a (by rintro rfl;exact C j d QY) A DY o p
    .exact S.EW DY p z
   .exact g.there a c z
  .rw[OV.Cu]at c;rcases List.mem_append.mp c with c|c
   .obtain⟨f,n,w⟩:=a1 a c;exact⟨m2.q8 f (g.there a c),n,w.imp (λHc=>by obtain⟨j,d,z⟩:=Hc;exact⟨j,by simp[d],z⟩) id⟩
   .obtain⟨f,n,w⟩:=a2 a c;exact⟨f,n,w.imp (λt=>by obtain⟨j,d,z⟩:=t;exact⟨j,by simp[d],z⟩) l.none⟩⟩
theorem eQ{k:List Nat->OV->Prop}(h:Qp ss tr λm us=>us.length<=100000/\k m (.tp us)):Wx ss (Q7 tr) k:=⟨λE Z F H Q S q=>
 h.go E Z F H _ S λvs m us F1 H1 g c M1 a1 AN=>by obtain⟨hz,kk⟩:=AN;exact⟨small (by rw[c.length];exact hz),λp d=>by
  have m2:=g.st.alloc d (.tup vs);refine q _ m (.tp us) _ _ (g.trans m2) (.tp AX (c.mono m2.ff λa b o e=>by rw[AS (by rintro rfl;exact c.there _ b d)];exact e)) (by rw[OV.G7];exact M1) (λa b=>?_) kk;rw[OV.G7]at b;obtain⟨f,i,w⟩:=a1 a b;exact⟨by rw[AS (by rintro rfl;exact c.there _ b d)];exact f,i,w⟩⟩⟩
theorem Q8{j:Nat}{s:Slot}:∀{m:List Nat}{ss:List Slot},(Dk m ss)[j]?=some s->s=.any∨(ss[j]?=some s/\j∉m)
 | [],ss,h=>.inr ⟨h,by simp⟩
 |i::m,ss,h=>by
  rcases Q8 (m:=m) (ss:=ss.set i .any) h with e|⟨e,hm⟩
  .exact .inl e
  .by_cases q:j=i
   .subst q;have a:j<ss.length:=by have:=(List.getElem?_eq_some_iff.mp e).1;simpa using this
    rw[Cr a]at e;exact .inl (B3 e).symm
   .rw[CM (BM q)]at e;exact .inr ⟨e,by simp[q,hm]⟩
theorem Sg.Dk{E:Ent0}{Z:L2.St}{F H:Hp}:∀(m:List Nat){ss:List Slot},Sg E ss Z F H->Sg E (Fz.Dk m ss) Z F H
 | [],_,S=>S
 |i::m,_,S=>Sg.Dk m (S.drop i)
theorem Sg.eU(S0:Sg E ss Z F0 H0)(S:Sg E ss Z F H)(r:Af F H v u)(nd:u.addrs.Nodup)(c:∀a∈u.addrs,F a=none/\E.H0 a=none/\((∃i∈m,∃s,s≠Slot.AH/\ss[i]?=some s/\B5 s Z[i]? a)∨H0 a=none)):
  Sg E ((Fz.Dk m ss).set j (.ow false u)) (Z.set j (some v)) F H:=by
 refine(S.Dk m).setG ⟨v,rfl,r,nd,λa b=>⟨(c a b).1,.inl (c a b).2.1⟩⟩ λa b i s CH g o=>?_;rcases Q8 g with e|⟨Ii,hm⟩
 .subst e;cases o
 .rcases(c a b).2.2 with⟨f,EO,s2,_,DY,d⟩|z
  .exact S.BL i f s s2 a (by rintro rfl;exact hm EO) Ii DY o d
  .exact S0.EW Ii o z
theorem Nt(h:Wx ss te λm u=>nx ((Fz.Dk m ss).set j (.ow false u))):Ws ss (EY te (Cf j)) nx R:=⟨λE D Z F H S c d=>
 h.go E Z F H _ S λv m u F1 H1 a r nd b kk=>c _ _ F1 H1 kk (Sg.eU S a.st r nd b) a.ff⟩
theorem lr(i:Nat)(hi:ss[i]?=some (.own xs))(h:∀l,Ws (ss.set i (.ow false (.nd .lst l (xs.map .fz)))) t' nx R):Ws ss t' nx R:=⟨λE D Z F H S f d=>by
 obtain⟨l,vs,e,e1,o,n,r⟩:=S.ok i _ hi;have b:=Sg.eU (j:=i) (m:=[i]) (v:=.ref l) (u:=.nd .lst l (xs.map .fz)) S S (.nd (k:=.lst) n trivial trivial (Ud r)) (by rw[LH];simp) λa c=>by
  rw[LH]at c;have ea:a=l:=by simpa using c
  subst ea;exact⟨e1,o,.inl ⟨i,by simp,_,by simp,hi,e⟩⟩
 rw[Kd e]at b;have g:(Fz.Dk [i] ss).set i (.ow false (.nd .lst l (xs.map .fz)))=ss.set i (.ow false (.nd .lst l (xs.map .fz))):=by show(ss.set i .any).set i _=_;rw[OI]
 rw[g]at b;exact(h l).go E D Z F H b f d⟩
theorem Af.rep(ff:AD F F1):∀{v:V}{t:OV},Af F H v t->(∀a∈t.addrs,∀o,H a=some o->F1 a=some o)->Rep F1 v t.pv:=by
 intro v t r h;exact Af.rec (motive_1:=λv t _=>(∀a∈t.addrs,∀o,H a=some o->F1 a=some o)->Rep F1 v t.pv) (motive_2:=λvs ts _=>(∀a∈OV.Ai ts,∀o,H a=some o->F1 a=some o)->AF F1 vs (OV.EH ts))
  (λ{v p}r _=>by rw[OV.pv];exact r.mono ff)
  (λ{a vs xs}e _ c h=>by rw[OV.pv];exact .tup (ff _ _ e) (c (by rw[OV.G7]at h;exact h)))
  (λ{k a vs xs}e i g _ c h=>by
   rw[OV.DQ]at h;have f:=c λa b=>h a (by simp[b]);have d:=h a (by simp) _ e;cases k with
   |lst=>rw[OV.pv];exact .lst d f
   |As ks=>rw[OV.pv];exact .As d g f
   |obj C dx ns=>rw[OV.pv];exact .obj d (h dx (by simp[NK.more]) _ i) g f
   |Pa ks=>rw[OV.pv];exact .con)
  (λ_=>by rw[OV.EH];exact .nil)
  (λ_ _ D7 Dq h=>by
   rw[OV.Cu]at h;rw[OV.EH];exact .cons (D7 λa b=>h a (by simp[b])) (Dq λa b=>h a (by simp[b])))
  r h
theorem i7(i:Nat)(hi:ss[i]?=some (.ow false t))(h:Ws (ss.set i (.is t.pv)) t' nx R):Ws ss t' nx R:=⟨λE D Z F H S l k=>by
 obtain⟨v,e,r,nd,f⟩:=S.ok i _ hi;obtain⟨S1,g⟩:=(S.drop i).lay t.addrs (λa b=>⟨(f a b).1,(f a b).2.elim id (λz=>by cases z.1),r.there a b⟩) λa b j s c m=>by
  by_cases q:j=i
  .subst q;rw[Cr (List.getElem?_eq_some_iff.mp hi).1]at c;cases c;cases m
  .rw[CM (BM q)]at c;exact S.BL j i s _ a q c hi m b
 have d:=S1.Gw (j:=i) (v:=v) (p:=t.pv) (r.rep g λa b o ho=>by unfold Bs;rw[i5 b];exact ho);rw[Kd e,OI]at d;exact h.go E D Z _ H d (λBy σ2 F2 H2 n d s2=>l By σ2 F2 H2 n d (g.trans s2)) k⟩
variable{lt:Bool}
theorem LS:(OV.nd .lst a us).addrs=a::OV.Ai us:=by rw[OV.DQ];rfl
theorem M6:∀(us ws:List OV),OV.Ai (us++ws)=OV.Ai us++OV.Ai ws
 | [],ws=>by rw[gQ,OV.FR,gQ]
 |u::us,ws=>by rw[X9,OV.Cu,OV.Cu,M6 us ws,Bh]
theorem N3(u:OV):OV.Ai [u]=u.addrs:=by rw[OV.Cu,OV.FR,GB]
theorem Sg.fv{B7:List OV}(S0:Sg E ss Z F0 H0)(S:Sg E ss Z F H)(hi:ss[i]?=some (.ow lt t))(Be:t.at p=some (.nd .lst a us))
  (d:∀a∈u.addrs,F a=none/\E.H0 a=none/\((∃i∈m,∃s,s≠Slot.AH/\ss[i]?=some s/\B5 s Z[i]? a)∨H0 a=none)) (GY:i∉m)
  (I:Au F H C3 B7) (HB:(OV.Ai B7).Nodup) (K2:∀b∈OV.Ai B7,b∈OV.Ai us∨b∈u.addrs):Sg E ((Fz.Dk m ss).set i (.ow lt (t.put p (.nd .lst a B7)))) Z F (upd H a (.lst C3)):=by
 have L:(Fz.Dk m ss)[i]?=some (.ow lt t):=by
  have n:∀(m:List Nat)(ss:List Slot),ss[i]?=some (.ow lt t)->i∉m->(Fz.Dk m ss)[i]?=some (.ow lt t):=by
   intro m
   induction m with
   |nil=>intro ss h _;exact h
   |cons j m D=>
    intro ss h f;refine D _ ?_ λz=>f (by simp[z]);rw[CM (by rintro rfl;exact f (by simp))];exact h
  exact n m ss hi GY
 obtain⟨v,e,r,nd,q⟩:=S.ok i _ hi;have B:∀b,b∈a::OV.Ai us->b∈t.addrs:=λb c=>OV.NP Be b (by rw[LS];exact c);have K:∀b∈u.addrs,b∉t.addrs:=λb c z=>by
  rcases(d b c).2.2 with⟨j,J,s,_,g,o⟩|w
  .exact S.BL j i s _ b (by rintro rfl;exact GY J) g hi o z
  .exact S0.EW hi z w
 have A:(OV.nd .lst a us).addrs.Nodup:=by
  obtain⟨l,M,e1,_⟩:=OV.split Be;rw[e1,Dg,Dg]at nd;exact nd.1.2.1
 rw[LS]at A;have x:∀b∈OV.Ai B7,b≠a:=λb c z=>by
  subst z;rcases K2 b c with w|w
  .exact(List.nodup_cons.mp A).1 w
  .exact K b w (B b (by simp))
 refine(S.Dk m).ag L Be (.nd (k:=.lst) AX trivial trivial (I.mono (AD.refl _) λb c o ho=>by rw[AS (x b c)];exact ho)) (by rw[LS];exact List.nodup_cons.mpr ⟨λz=>x a z rfl,HB⟩) λb c=>?_;rw[LS]at c ⊢;rcases List.mem_cons.mp c with w|w
 .exact .inl (by simp[w])
 .rcases K2 b w with z|z
  .exact .inl (by simp[z])
  .refine .inr ⟨(d b z).1,(d b z).2.1,λj s g o=>?_⟩;rcases Q8 g with y|⟨Ii,f⟩
   .subst y;cases o
   .rcases(d b z).2.2 with⟨G,EO,s2,_,DY,C⟩|y
    .exact S.BL j G s s2 b (by rintro rfl;exact f EO) Ii DY o C
    .exact S0.EW Ii o y
theorem QD(h:Wl ss i t ta λp u=>∃lt a us,ss[i]?=some (.ow lt t)/\u=.nd .lst a us/\us.length<=99999/\Wx ss te λm w=>i∉m/\nx ((Dk m ss).set i (.ow lt (t.put p (.nd .lst a (us++[w])))))):Ws ss (Hy (Mh K "list" QN ta (Ag te BK))) nx R:=⟨λE D Z F H S N W=>
 h.go E Z F H _ S λv p u F1 H1 c J h1⟨lt,a,us,hi,T,hz,hw⟩=>by
  subst T;cases J with
  |@nd k X vs _ q B Q f=>
   refine .inl ⟨rfl,_,AG.of q⟩ |> λg=>⟨g,hw.go E Z F1 H1 _ c.st λv2 m w F2 H2 m2 I GH a2⟨GY,kk⟩=>?_⟩;have G:=(Af.nd (k:=.lst) q B Q f).mv c.st h.hi h1 m2;cases G with
   |@nd _ _ C _ UO A P r=>
    refine⟨a,C,v2,rfl,rfl,UO,Iu (by rw[r.length];exact hz),?_⟩;refine N _ Z F2 _ kk (Sg.fv (u:=w) c.st m2.st hi h1 a2 GY (r.append (.one I)) ?_ λb n=>?_) (c.ff.trans m2.ff)
    .rw[M6,N3,Dg];obtain⟨U,e0,V,HH,g⟩:=m2.st.ok i _ hi;have z:(OV.nd .lst a us).addrs.Nodup:=by
      obtain⟨l,f,e1,_⟩:=OV.split h1;rw[e1,Dg,Dg]at HH;exact HH.1.2.1
     rw[LS]at z;refine⟨(List.nodup_cons.mp z).2,GH,λx hx y L e=>?_⟩;subst e;have d:x∈t.addrs:=OV.NP h1 x (by rw[LS];simp[hx]);rcases(a2 x L).2.2 with⟨j,O,s,_,M,o⟩|w
     .exact c.st.BL j i s _ x (by rintro rfl;exact GY O) M hi o d
     .exact c.st.EW hi d w
    .rw[M6,N3]at n;exact List.mem_append.mp n⟩
theorem ji{k:OV->Prop}(h:Wx ss te λ_ u=>k u):Ws ss (G3 te) nx (.ow k):=⟨λE D Z F H S f e=>
 h.go E Z F H _ S λv m u F1 H1 d r nd b kk=>e v F1 H1 d.st.toFin ⟨u,r,nd,λa c=>⟨(b a c).1,(b a c).2.1⟩,kk⟩⟩
theorem UC{ta:TA}{k:List Nat->OV->Prop}(h:Wa ss ta λl=>∃k',pre l (.ow k')/\∀u,k' u->k [] u):Wx ss (Dz (Ap pre) [] E0 ta) k:=⟨λE Z F H Q S q=>
 h.go E Z F H _ S λvs l F1 H1 b a⟨k',g,kk⟩=>by
  rw[GB];refine⟨l,.ow k',F1,[],g,b.st.Sn a,λv F' H' f⟨u,r,nd,c,e⟩=>?_⟩;exact q v [] u F' H' (b.trans (b.st.back (λ_ h=>absurd h Aq) f)) r nd (λa d=>⟨(c a d).1,S.DD (b.none (c a d).2),.inr (b.none (c a d).2)⟩) (kk u e)⟩
end
def ptr(a:Addr):Hp->V->Prop:=λ_ v=>v=.ref a
section
variable[Xw]
variable{K:ZBx}{k:PV->Prop}{lt:Bool}
theorem Sg.i9(S:Sg E ss Z F H)(hi:ss[i]?=some (.ow lt t))(Be:t.at p=some (.nd .lst a (ps.map .fz)))(e:AF F C3 Mu):Sg E (ss.set i (.ow lt (t.put p (.nd .lst a (Mu.map .fz))))) Z F (upd H a (.lst C3)):=
 Sg.fv (m:=[]) (u:=.fz .A6) S S hi Be (λa d=>by rw[OV.Ll]at d;cases d) (by simp) (Ud e) (by rw[OP];exact IW) λb c=>by rw[OP]at c;cases c
theorem Sg.oZ(S:Sg E ss Z F H)(hi:ss[i]?=some (.ow lt t))(Be:t.at p=some (.nd .lst a (ps.map .fz))):∃vs,H a=some (.lst vs)/\AF F vs ps:=by
 obtain⟨v,e,r,_,_⟩:=S.ok i _ hi;obtain⟨w,b,_⟩:=r.at Be;obtain⟨_,rfl,d,_,_,c⟩:=b.inv;exact⟨_,d,c.vA⟩
theorem ie{k:List Nat->OV->Prop}{nk:NK}(f:ss[j]?=some (.raw (ptr a)))(hi:ss[i]?=some (.ow lt t))(Be:t.at p=some (.nd nk a us))(hk:k p (.nd nk a us)):Wl ss i t (Ar j) k:=⟨⟨lt,hi⟩,λE Z F H Q S q=>by
 obtain⟨v,e,c,_⟩:=S.ok j _ f;obtain⟨v2,h,d,_,_⟩:=S.ok i _ hi;obtain⟨w,b,_⟩:=d.at Be;have g:w=.ref a:=by cases b;rfl
 subst g;cases(show v=.ref a from c);exact⟨_,e,q _ p _ F H (.refl S) b Be hk⟩⟩
theorem km(h:Wp ss te λq=>Wl ss i t ta λp u=>∃(lt:Bool)(a:Addr)(ps:List PV),ss[i]?=some (.ow lt t)/\u=.nd .lst a (ps.map .fz)/\Wp ss ti λj=>∃n:Nat,j=.int n/\n<ps.length/\nx (ss.set i (.ow lt (t.put p (.nd .lst a ((ps.set n q).map .fz)))))):Ws ss (EY te (Oy ta ti Vt)) nx R:=⟨λE D Z F H S l y=>
 h.go E Z F H _ S λv q F1 H1 d e h2=>h2.go E Z F1 H1 _ d.st λv2 p u F2 H2 m2 g Be⟨lt,a,ps,hi,r,m⟩=>by
  subst r;have o:v2=.ref a:=by cases g;rfl
  subst o;refine m.go E Z F2 H2 _ m2.st λw x F3 H3 b f⟨n,s,RJ,kk⟩=>?_;subst s;cases f;obtain⟨vs,k,c⟩:=b.st.oZ hi Be;refine⟨a,vs,_,n,rfl,rfl,k,Y4 (by rw[c.length];exact RJ),?_⟩;exact l _ Z F3 _ kk (b.st.i9 hi Be (c.set n (e.mono (m2.ff.trans b.ff)))) (d.ff.trans (m2.ff.trans b.ff))⟩
end
def DG:List Slot->L2.St->List Addr
 | .own _::ss,some (.ref l)::Z=>l::DG ss Z
 | .ow _ t::ss,_::Z=>t.addrs++DG ss Z
 |_::ss,_::Z=>DG ss Z
 |_,_=>[]
theorem cW:∀{ss:List Slot}{Z:L2.St}{a:Addr},a∈DG ss Z->∃(i:Nat)(s:Slot),ss[i]?=some s/\s≠.AH/\B5 s Z[i]? a
 | [],Z,a,h=>absurd h Aq
 |s::ss,[],a,h=>by cases s <;> exact absurd h Aq
 |s::ss,o::Z,a,h=>by
  have up:a∈DG ss Z->∃(i:Nat)(s':Slot),(s::ss)[i]?=some s'/\s'≠.AH/\B5 s' (o::Z)[i]? a:=λh=>by
   obtain⟨i,s',h1,h2,b⟩:=cW h;exact⟨i+1,s',by simpa using h1,h2,by simpa using b⟩
  cases s with
  |own xs=>
   cases o with
   |none=>exact up h
   |some v=>
    cases v with
    |ref l=>
     have h:a∈l::DG ss Z:=h;rcases List.mem_cons.mp h with e|h
     .subst e;exact⟨0,_,rfl,by simp,rfl⟩
     .exact up h
    |_=>exact up h
  |ow lt t=>
   have h:a∈t.addrs++DG ss Z:=h;rcases List.mem_append.mp h with h|h
   .exact⟨0,_,rfl,by simp,h⟩
   .exact up h
  |_=>exact up h
theorem Tt:∀{ss:List Slot}{Z:L2.St}{i:Nat}{s:Slot}{a:Addr},ss.length=Z.length->ss[i]?=some s->s≠.AH->B5 s Z[i]? a->a∈DG ss Z
 | [],Z,i,s,a,_,h,_,_=>by simp at h
 |s0::ss,[],i,s,a,hl,_,_,_=>by simp at hl
 |s0::ss,o::Z,0,s,a,hl,h,hp,ho=>by
  simp at h;subst h;cases s0 with
  |own xs=>
   have e:o=some (.ref a):=by have:some o=some (some (V.ref a)):=ho;exact B3 this
   subst e;exact Aj
  |ow lt t=>exact DA _ ho
  |AH=>exact absurd rfl hp
  |_=>cases ho
 |s0::ss,o::Z,i+1,s,a,hl,h,hp,ho=>by
  have q:=Tt (ss:=ss) (Z:=Z) (i:=i) (a:=a) (by simpa using hl) (by simpa using h) hp (by simpa using ho)
  cases s0 with
  |own xs=>cases o with
   |none=>exact q
   |some v=>cases v with
    |ref l=>exact B2 _ q
    |_=>exact q
  |ow lt t=>exact Bk _ q
  |_=>exact q
theorem Af.ZV(r:Af F H v t):∀a∈t.addrs,∀vs,H a≠some (.tup vs):=
 Af.rec (motive_1:=λ_ t _=>∀a∈t.addrs,∀vs,H a≠some (.tup vs)) (motive_2:=λ_ ts _=>∀a∈OV.Ai ts,∀vs,H a≠some (.tup vs))
  (λ_ a c _=>by rw[OV.Ll]at c;cases c)
  (λ_ _ i a c vs=>by rw[OV.G7]at c;exact i a c vs)
  (λ{k}{b}{_}{_}h f _ _ i a c vs=>by
   rw[OV.DQ,DP,Je]at c;rcases c with rfl|c|c
   .rw[h];cases k <;> (intro z;cases z)
   .cases k with
    |obj C dx ns=>
     have e:a=dx:=List.mem_singleton.mp c;subst e;have d:H a=some (.own b):=f;rw[d];intro z;cases z
    |_=>exact absurd c Aq
   .exact i a c vs)
  (λa c _=>by rw[OV.FR]at c;cases c)
  (λ_ _ i k a c ws=>by
   rw[OV.Cu,Je]at c;rcases c with c|c
   .exact i a c ws
   .exact k a c ws)
  r
mutual
def Gd:PV->Bool
 | .lst _=>false
 | .As _ _=>false
 | .obj _ _ _=>false
 | .exc _ _ _=>false
 | .tup xs=>JF xs
 |_=>true
def JF:List PV->Bool
 | []=>true
 |x::r=>Gd x && JF r
end
noncomputable def DW(F:Hp)(as:List Addr):Hp:=λa=>if a∈as then none else F a
theorem Rep.sub{as:List Addr}(h:∀a∈as,∀vs,F a≠some (.tup vs)):∀{v:V}{p:PV},Rep F v p->Gd p=true->Rep (DW F as) v p:=by
 intro v p r d;exact Rep.rec (motive_1:=λv p _=>Gd p=true->Rep (DW F as) v p) (motive_2:=λvs ps _=>JF ps=true->AF (DW F as) vs ps)
  (λ_=>.A6) (λb _=>.bl b) (λi _=>.int i) (λx _=>.str x)
  (λ_ _ _ z=>Bool.noConfusion (show false=true from z))
  (λ{a vs xs}e _ c z=>.tup (by unfold DW;rw[i3 (λq=>h a q vs e)];exact e) (c z))
  (λ_ _ _ _ z=>Bool.noConfusion (show false=true from z))
  (λ_ _ _ _ _ z=>Bool.noConfusion (show false=true from z))
  (λ_=>.con)
  (λ_ z=>Bool.noConfusion (show false=true from z))
  (λ_ _ _ _ _ z=>Bool.noConfusion (show false=true from z))
  (λ_=>.nil)
  (λ_ _ D7 Dq z=>by
   have z:=(Cq _ _).mp z;exact .cons (D7 z.1) (Dq z.2))
  r d
theorem AF.sub{as:List Addr}(h:∀a∈as,∀vs,F a≠some (.tup vs))(r:AF F vs ps)(z:JF ps=true):AF (DW F as) vs ps:=by
 induction ps generalizing vs with
 |nil=>cases r.D0;exact .nil
 |cons p ps c=>
  obtain⟨v,ws,rfl,a,b⟩:=r.inv;have z:=(Cq _ _).mp z;exact .cons (a.sub h z.1) (c b z.2)
theorem Sg.as(S:Sg E ss Z F H)(h:a∈DG ss Z):F a=none/\H a≠none/\(∀vs,H a≠some (.tup vs))/\C7 ss Z a:=by
 obtain⟨i,s,b,c,ho⟩:=cW h;refine⟨S.kc b ho,S.EW b ho,?_,S.Nw b ho c⟩;have k:=S.ok i s b;cases s with
 |own xs=>obtain⟨l,vs,e,_,_,d,_⟩:=k;rw[show Z[i]?=some (some (.ref a))from ho]at e;cases e;rw[d];simp
 |ow lt t=>obtain⟨v,_,r,_⟩:=k;exact r.ZV a ho
 |AH=>exact absurd rfl c
 |_=>cases ho
theorem Sg.J6(S:Sg E ss Z F H):AD F (Bs F H (DG ss Z))/\AD (Bs F H (DG ss Z)) H:=by
 refine⟨λa o e=>?_,λa o e=>?_⟩
 .unfold Bs;rw[i3 (λq=>by rw[(S.as q).1]at e;cases e)];exact e
 .unfold Bs at e;split at e
  .exact e
  .exact S.fh a o e
theorem Sg.ba(S:Sg E ss Z F H)(f:Fin (E3 [] (Bs F H (DG ss Z)) H) F' H'):Mv E ss Z F H (DW F' (DG ss Z)) H'/\∀a∈DG ss Z,∀vs,F' a≠some (.tup vs):=by
 have kp:∀a o,H a=some o->H' a=some o:=λa o e=>f.keep a o ⟨Aq,Aq⟩ e;refine⟨S.step (λa o e=>?_) (λa o e=>?_) (λa o _ e=>kp a o e) (λa o e=>?_) (λi l hi e=>BV.keep (S.Ek hi e) λo e=>kp l o e),λa c vs e=>?_⟩
 .unfold DW;rw[i3 (λq=>by rw[(S.as q).1]at e;cases e)];exact f.f0 a o (S.J6.1 a o e)
 .unfold DW at e;split at e
  .cases e
  .exact f.fh a o e
 .unfold DW at e;split at e
  .cases e
  .rename_i q;rcases f.fresh a o e with z|z
   .left
    have b:Bs F H (DG ss Z) a=some o:=z;unfold Bs at b;rw[i3 q]at b;exact b
   .exact .inr z
 .obtain⟨o,ho⟩:=Option.ne_none_iff_exists'.mp (S.as c).2.1;have z:F' a=some o:=f.f0 a o (by show Bs F H (DG ss Z) a=some o;unfold Bs;rw[i5 c];exact ho);rw[z]at e;cases e;exact(S.as c).2.2.1 vs ho
section
variable[Xw]
variable{K:ZBx}{k:PV->Prop}{lt:Bool}
theorem cN(h:Wx ss te λm u=>m=[]/\k u.pv):Wp ss te k:=⟨λE Z F H Q S q=>
 h.go E Z F H _ S λv m u F1 H1 c r nd d AN=>by
  obtain⟨l,kk⟩:=AN;subst l;have g:∀a∈u.addrs,H a=none:=λa b=>by
   rcases(d a b).2.2 with⟨i,hi,_⟩|z
   .cases hi
   .exact z
  obtain⟨S1,f⟩:=c.st.lay u.addrs (λa b=>⟨(d a b).1,(d a b).2.1,r.there a b⟩) λa b i s j o=>S.EW j o (g a b);refine q v u.pv _ H1 ⟨S1,c.ff.trans f,c.hh,λa o e=>?_⟩ (r.rep f λa b o ho=>by unfold Bs;rw[i5 b];exact ho) kk;unfold Bs at e;split at e
  .rename_i z;exact .inr (g a z)
  .exact c.nn a o e⟩
end
theorem Po:∀{xs:List PV},(∀x∈xs,BO x x=true)->CZ xs xs=true
 | [],_=>by rw[CZ]
 |x::r,h=>by rw[QK,h x (by simp),Po (xs:=r) λy a=>h y (by simp[a])];rfl
theorem eM{K:ZBx}:∀(d:Nat){p:PV},dat K d p->BO p p=true:=by
 intro d
 induction d with
 |zero=>intro p h;cases p <;> first|exact h.elim|rfl|exact pV _
 |succ d b=>
  intro p h;cases p with
  |lst xs=>show CZ xs xs=true;exact Po λx hx=>b (h x hx)
  |tup xs=>show CZ xs xs=true;exact Po λx hx=>b (h x hx)
  |con a xs=>show CZ xs xs=true;exact Po λx hx=>b (h.1 x hx)
  |_=>first|exact h.elim|rfl|exact pV _
theorem VJ:∀(xs:List PV),OV.EH (xs.map .fz)=xs
 | []=>by rw[Rb,OV.EH]
 |x::r=>by rw[E9,OV.EH,OV.pv,VJ r]
end Fz
namespace L2
variable{M:Model}{A:Around}{E xe:Value->Shared->Prop}{s:Shared}{ZB:Heap}{env:Env}{outer:List Env}{C S ea f fI:Addr}{dx tb:Option Addr}{w:World}{mg:ZBz}{N ps sn:List Str}{n name par qual x:Str}{scope:Scope}{cd v:Value}{H:Hp}{X:Cx}{E':St->XK}{CS L8 np p pos:Pos}{e e0:Expr}{es:List Expr}{t:TA}{ab qU:Bool}{prog:Program}{ZBl Zq:ZBy}{Z:St}{j kk:Nat}{fd:FuncData}{body d5:List Stmt}{b0:Stmt}{eW:(St->XK)->TS}{th:TS}{sp:Sp}
theorem RF{α:Type}{l:List α}{n:Nat}(h:l.length=n+1):∃a r,l=a::r/\r.length=n:=by
 cases l with
 |nil=>cases h
 |cons a r=>exact⟨a,r,rfl,Jh h⟩
section
variable{K:ZBx}{x t:Addr}
section
open PySem.Builtin PySem.Builtin.ObjectAttr
end
end
end L2
namespace Fz
open L2 Lw
variable{E:Ent0}{ss:List Slot}{Z:L2.St}{F F' F1 H H':Hp}{ta tb tc te ti:TE}{tp:Bool}{xs:List PV}{nx:List Slot->Prop}{R:Ae}
section
variable[Xw]
variable{K:ZBx}{k:PV->Prop}{v:V}
theorem u9{k:List PV->Prop}(h:Wq ss te λ_ xs=>∃ns:List Int,xs=ns.map PV.int/\ns.length<64/\∀Cb:List Int,Cb.Perm ns->Cb.Pairwise (·<=·)->k (Cb.map PV.int)):Wn ss (CO (ZJ K) (Ag te BK)) k:=⟨λE Z F H Q S q=>
 h.go E Z F H _ S λv tp xs F1 H1 b sv AN=>by
  obtain⟨ns,e,hz,kk⟩:=AN;subst e;obtain⟨l,vs,rfl,d,r⟩:=sv.seq b.st;rw[r.ints]at d;refine⟨l,tp,ns,rfl,DJ.sq d,hz,λa Cb c g f=>?_⟩;have m2:=b.st.make c (.lst (Cb.map V.int));exact q a _ _ F1 _ (b.trans m2) (b.st.Bi c) (b.none c) AX (by rw[<- ZC];exact VB (cX Cb)) (kk Cb g f)⟩
end
def fV:Pre:=λl R=>∃(ns:List Str),l=[.sq false (ns.map .str)]/\ns.length<=1000/\R=.is λp=>p=.bl true
def cD:Pre:=λl R=>∃i:Int,l=[.is (.int i)]/\R=.is λp=>p=.bl true
end Fz
namespace Fz
open L2 Lw
variable{E:Ent0}{ss:List Slot}{Z:L2.St}{F F' H H':Hp}{te:TE}{nx:List Slot->Prop}{R:Ae}{pre:OU}
@[reducible] noncomputable def ZBW (X:XK) (D:Ex->Prop):Xw:=⟨λ_=>X,λ_=>True,D⟩
@[reducible] noncomputable def xwT (E:Ent0) (J:List Slot->Prop) (D:Ex->Prop):Xw:=⟨λZ C dx H=>∃ss F x,J ss/\Sg E ss Z F H/\D x/\x.at F C dx,J,D⟩
end Fz
namespace Fz
open L2 Lw
variable{i j n:Nat}{l ss:List Slot}{ta tb te:TE}{a a0:Addr}{N ms ns:List Str}{xs:List PV}{us:List OV}{vs:List V}{t t' u:OV}{pre:Pre}{X:XK}{F F' H H':Hp}{Z:L2.St}{E:Ent0}{nk:NK}{Q:VK}
theorem sN{b c n:Int}(e:1<=b)(d:b<=c)(a:0<=n):∃m:Nat,(if(if c<n then c else n) > b then(if c<n then c else n)else b)=(m:Int)/\(m:Int)<=c:=by
 have h:∀z:Int,1<=z->z<=c->∃m:Nat,z=(m:Int)/\(m:Int)<=c:=λz f h1=>⟨z.toNat,by omega,by omega⟩;apply h
 .split
  .omega
  .omega
 .split
  .split <;> omega
  .omega
theorem ia{as bs us vs:List Str}(p1:us.Perm as)(s1:sortedS us=true)(p2:vs.Perm bs)(s2:sortedS vs=true):decide (us=vs)=decide (as.Perm bs):=by
 rw[HQ,vX,vX];exact⟨λe=>p1.symm.trans (e▸p2),λh=>uw (p1.trans (h.trans p2.symm)) s1 s2⟩
def eB(K:ZBx):List V->Hp->VK->Prop:=λxs H Q=>∃p ys,xs=[.ref p]/\(AG K H p ys∨Ab K H p ys)/\∀l,H l=none->Q (.ref l) (upd H l (.lst ys))
theorem iO{X:Cx}:Br X (.type "list") (eB X.K):=He
noncomputable def KQ(xs ys:List PV):List PV:=List.zipWith (λx y=>.tup [x,y]) xs ys
theorem Zl(xs ys:List PV):(KQ xs ys).length=min xs.length ys.length:=by unfold KQ;rw[List.length_zipWith]
theorem yA{ys:List PV}{x y:PV}(h:xs[i]?=some x)(h2:ys[i]?=some y):(KQ xs ys)[i]?=some (.tup [x,y]):=by
 unfold KQ;rw[List.getElem?_zipWith,h,h2]
section
variable[Xw]
variable{K:ZBx}
theorem xG{k:List PV->Prop}(h:Wz ss ta λtp xs=>tp=false/\Wz ss tb λBZ ys=>BZ=false/\k (KQ xs ys)):Wi ss (TR K (Ag ta (Ag tb BK))) k:=⟨λE Z F H R S q=>
 h.go E Z F H _ S λv tp xs F1 H1 b f⟨w,h2⟩=>h2.go E Z F1 H1 _ b.st λv2 BZ ys F2 H2 m2 u⟨Vi,kk⟩=>by
  subst w;subst Vi;obtain⟨l,vs,e,h1,r⟩:=f;obtain⟨l2,Ie,A,Lq,a⟩:=u;have r:=r.mono m2.ff;have a1:∀(ss:List Slot)(Z:L2.St)(F H:Hp),AD F2 F->Sg E ss Z F H->H l=some (.lst vs):=λss Z F H s S=>by
   rcases h1 with h1|⟨hA,h1⟩
   .exact S.fh _ _ (s _ _ (m2.ff _ _ h1))
   .exact S.keep _ _ hA h1
  have a2:∀(ss:List Slot)(Z:L2.St)(F H:Hp),AD F2 F->Sg E ss Z F H->H l2=some (.lst Ie):=λss Z F H s S=>by
   rcases Lq with h1|⟨hA,h1⟩
   .exact S.fh _ _ (s _ _ h1)
   .exact S.keep _ _ hA h1
  subst e;subst A;have c:=r.length;have D:=a.length;refine⟨l,l2,vs,Ie,rfl,AG.of (a1 ss Z F2 H2 (AD.refl _) m2.st),AG.of (a2 ss Z F2 H2 (AD.refl _) m2.st),q _ (KQ xs ys) F2 H2 (b.trans m2) ⟨λss Z F H i s S hi=>?_,λss Z F H s S=>?_,λss Z F H i x H' s S hi y=>?_⟩ kk⟩
  .rw[Zl]at hi;exact⟨AG.of (a1 ss Z F H s S),AG.of (a2 ss Z F H s S),by omega,by omega⟩
  .refine⟨AG.of (a1 ss Z F H s S),AG.of (a2 ss Z F H s S),?_⟩;rw[Zl];omega
  .obtain⟨p,g,d,hx,o,ex,t,z⟩:=y;subst ex;subst z;obtain⟨C,VS,n⟩:=r.get' hx;obtain⟨B,Gs,j⟩:=a.get' o;have m:=S.alloc t (.tup [g,d]);exact⟨_,_,yA VS Gs,m,.tup AX (.cons (n.mono (s.trans m.ff)) (.one (j.mono (s.trans m.ff))))⟩⟩
end
def EU(pre:Pre):Sp:=λvs H Q _=>∃(ss:List Slot)(R:Ae)(F:Hp)(A B:List Addr),pre ss R/\Sg ⟨A,F,H,B⟩ ss (vs.map some) F H/\∀v F' H',Fin ⟨A,F,H,B⟩ F' H'->R.ok ⟨A,F,H,B⟩ F' H' v->Q v H'
inductive IA (F:Hp):List V->List Slot->Prop where
 |nil:IA F [] []
 |cons {v:V}{p:PV}{vs:List V}{l:List Slot}:Rep F v p->IA F vs l->IA F (v::vs) (.is p::l)
inductive I0 (Z:L2.St) (F:Hp) (i:Nat) (t:OV):List V->List Slot->Prop where
 |here {v:V}{vs:List V}{l:List Slot}:Z[i]?=some (some v)->IA F vs l->I0 Z F i t (v::vs) (.ow true t::l)
 |there {v:V}{p:PV}{vs:List V}{l:List Slot}:Rep F v p->I0 Z F i t vs l->I0 Z F i t (v::vs) (.is p::l)
theorem IA.len:∀{vs:List V}{l:List Slot},IA F vs l->l.length=vs.length:=by
 intro vs l h
 induction h with
 |nil=>rfl
 |cons _ _ a=>rw[BA,BA,a]
theorem I0.len:∀{vs:List V}{l:List Slot},I0 Z F i t vs l->l.length=vs.length:=by
 intro vs l h
 induction h with
 |here _ r=>rw[BA,BA,r.len]
 |there _ _ a=>rw[BA,BA,a]
theorem IA.at:∀{vs:List V}{l:List Slot},IA F vs l->∀{n:Nat}{s:Slot},l[n]?=some s->∃v p,vs[n]?=some v/\s=.is p/\Rep F v p:=by
 intro vs l h
 induction h with
 |nil=>intro n s e;rw[List.getElem?_nil]at e;cases e
 |cons r _ a=>
  intro n s e;cases n with
  |zero=>cases(show some _=some s from e);exact⟨_,_,rfl,rfl,r⟩
  |succ n=>exact a (n:=n) e
theorem I0.at:∀{vs:List V}{l:List Slot},I0 Z F i t vs l->∃m:Nat,∀{n:Nat}{s:Slot},l[n]?=some s->(n=m/\s=.ow true t/\∃v,vs[n]?=some v/\Z[i]?=some (some v))∨∃v p,vs[n]?=some v/\s=.is p/\Rep F v p:=by
 intro vs l h
 induction h with
 |here e r=>
  refine⟨0,λ{n s}h=>?_⟩;cases n with
  |zero=>cases(show some _=some s from h);exact .inl ⟨rfl,rfl,_,rfl,e⟩
  |succ n=>exact .inr (r.at (n:=n) h)
 |there r _ b=>
  obtain⟨m,c⟩:=b;refine⟨m+1,λ{n s}q=>?_⟩;cases n with
  |zero=>cases(show some _=some s from q);exact .inr ⟨_,_,rfl,rfl,r⟩
  |succ n=>
   rcases c (n:=n) (s:=s) q with⟨e,es,a⟩|a
   .exact .inl ⟨ib Nat.succ e,es,a⟩
   .exact .inr a
structure JO (E:Ent0) (ss:List Slot) (Z:L2.St) (i:Nat) (lt:Bool) (t t':OV) (F H F' H':Hp):Prop where
 st:Sg E (ss.set i (.ow lt t')) Z F' H'
 ff:AD F F'
 hh:∀a o,C7 ss Z a->a∉t.addrs->H a=some o->H' a=some o
 nn:∀a o,F' a=some o->F a=some o∨H a=none
structure ar [Xw] (ss:List Slot) (ta:TA) (k:List Slot->Prop):Prop where
 go:∀(E:Ent)(Z:L2.St)(F H:Hp)(Q:List V->Hp->Prop),Sg E ss Z F H->(∀vs l F' H',Mv E ss Z F H F' H'->IA F' vs l->k l->Q vs H')->ta Z H Q
structure QM [Xw] (ss:List Slot) (i:Nat) (t:OV) (ta:TA) (k:List Slot->Prop):Prop where
 go:∀(E:Ent)(Z:L2.St)(F H:Hp)(Q:List V->Hp->Prop),Sg E ss Z F H->(∀vs l F' H',Mv E ss Z F H F' H'->I0 Z F' i t vs l->k l->Q vs H')->ta Z H Q
structure Wm [Xw] (ss:List Slot) (i:Nat) (lt:Bool) (t:OV) (te:TE) (k:PV->OV->Prop):Prop where
 go:∀(E:Ent)(Z:L2.St)(F H:Hp)(Q:VK),Sg E ss Z F H->(∀v p t' F' H',JO E ss Z i lt t t' F H F' H'->Rep F' v p->k p t'->Q v H')->te Z H Q
structure P4 [Xw] (ss:List Slot) (i:Nat) (lt:Bool) (t:OV) (c:TT) (k:Bool->OV->Prop):Prop where
 go:∀(E:Ent)(Z:L2.St)(F H:Hp)(Q:Bool->Hp->Prop),Sg E ss Z F H->(∀b t' F' H',JO E ss Z i lt t t' F H F' H'->k b t'->Q b H')->c Z H Q
theorem JO.of{lt:Bool}(hi:ss[i]?=some (.ow lt t))(m:Mv E ss Z F H F' H'):JO E ss Z i lt t t F H F' H':=⟨by
 rw[show ss.set i (.ow lt t)=ss from by
  apply OG;intro n
  by_cases q:i=n
  .subst q;rw[Cr (List.getElem?_eq_some_iff.mp hi).1,hi]
  .rw[CM q]]
 exact m.st,m.ff,λa o n _ e=>m.hh a o n e,m.nn⟩
theorem Sg.lg{lt:Bool}(S:Sg E ss Z F H)(hi:ss[i]?=some (.ow lt t))(a:I0 Z F i t vs l):Sg ⟨[],F,H,t.addrs⟩ l (vs.map some) F H:=by
 obtain⟨w,e0,c,HH,k⟩:=S.ok i _ hi;have nn:∀{p:Prop}(a:Addr),a∈([]:List Addr)->p:=λa h=>absurd h Aq;obtain⟨m,g⟩:=a.at;refine⟨⟨S.fh,AD.refl _,λ_ _ _ e=>e,λ_ _ e=>.inl e,λa h=>nn a h,λa h=>nn a h,λa h=>nn a h,λa h=>(k a h).1,λa h=>c.there a h,λa h=>⟨c.there a h,Aq⟩⟩,by rw[AA];exact a.len,λn s f=>?_,λn j s u b Nc f x ms mu=>?_⟩
 .rcases g f with⟨_,rfl,v,d,q⟩|⟨v,p,d,rfl,r⟩
  .rw[AO,d];rw[e0]at q;cases q;exact⟨w,rfl,c,HH,λa o=>⟨(k a o).1,.inr ⟨rfl,o⟩⟩⟩
  .rw[AO,d];exact⟨v,rfl,r⟩
 .rcases g f with⟨e1,rfl,_⟩|⟨_,_,_,rfl,_⟩
  .rcases g x with⟨y,rfl,_⟩|⟨_,_,_,rfl,_⟩
   .exact Nc (e1.trans y.symm)
   .cases mu
  .cases ms
theorem Sg.ze{lt:Bool}{Gu:NK}{B7:List OV}(S:Sg E ss Z F H)(hi:ss[i]?=some (.ow lt (.nd nk a0 us)))(f:Fin ⟨[],F,H,(OV.nd nk a0 us).addrs⟩ F' H')(r:Af F' H' (.ref a0) (.nd Gu a0 B7))(nd:(OV.nd Gu a0 B7).addrs.Nodup)(q:∀a∈(OV.nd Gu a0 B7).addrs,F' a=none/\(H a=none∨a∈(OV.nd nk a0 us).addrs)):
  JO E ss Z i lt (.nd nk a0 us) (.nd Gu a0 B7) F H F' H':=by
 obtain⟨G,e0,I,HH,w⟩:=S.ok i _ hi;have M:G=.ref a0:=by cases I;rfl
 subst M;have D:i<ss.length:=(List.getElem?_eq_some_iff.mp hi).1;have kp:∀a o,a∉(OV.nd nk a0 us).addrs->H a=some o->H' a=some o:=λa o n e=>f.keep a o ⟨Aq,n⟩ e;have Bi:∀a,H a≠none->F a=none->F' a=none:=λa h1 h2=>by
  cases e:F' a with
  |none=>rfl
  |some o=>
   rcases f.fresh a o e with z|z
   .rw[show F a=some o from z]at h2;cases h2
   .exact absurd z h1
 have N:∀a,a∈E.A->a∉(OV.nd nk a0 us).addrs:=λa h m=>by
  rcases(w a m).2 with z|⟨_,z⟩
  .exact S.a0 a h z
  .exact(S.b0 a z).2 h
 have d:∀(j:Nat)s,j≠i->ss[j]?=some s->∀a,B5 s Z[j]? a->a∉(OV.nd nk a0 us).addrs:=λj s g t a ho m=>S.BL j i s _ a g t hi ho m;refine⟨⟨⟨f.fh,S.f0.trans f.f0,λa o h e=>?_,λa o e=>?_,λa h=>?_,λa h=>?_,S.a0,λa v=>?_,λa v=>?_,S.b0⟩,by rw[HW];exact S.len,λj s g=>?_,λj k s u b Pt g hk ms mu=>?_⟩,f.f0,λa o _ n e=>kp a o n e,λa o e=>f.fresh a o e⟩
 .refine kp a o (λm=>?_) (S.keep a o h e);rcases(w a m).2 with z|⟨_,z⟩
  .rw[e]at z;cases z
  .exact h.2 z
 .rcases f.fresh a o e with z|z
  .exact S.fresh a o z
  .exact .inr (S.DD z)
 .exact BV.keep (S.Dx a h) λo e=>kp a o (N a h) e
 .obtain⟨_,_,e1,_⟩:=S.Dx a h;exact Bi a (by rw[e1];simp) (S.MH a h)
 .exact Bi a (S.bH a v) (S.bF a v)
 .by_cases m:a∈(OV.nd nk a0 us).addrs
  .exact f.bH a m
  .intro z;cases e:H a with
   |none=>exact S.bH a v e
   |some o=>rw[kp a o m e]at z;cases z
 .by_cases c:j=i
  .subst c;rw[Cr D]at g;cases g;refine⟨.ref a0,e0,r,nd,λa y=>⟨(q a y).1,?_⟩⟩;rcases(q a y).2 with z|z
   .exact .inl (S.DD z)
   .exact(w a z).2
  .rw[CM (BM c)]at g
   by_cases np:s=.AH
   .subst np;obtain⟨l,e,L,K,pt⟩:=S.ok j _ g;obtain⟨_,_,e1,_⟩:=id pt;exact⟨l,e,Bi l (by rw[e1];simp) L,K,BV.keep pt λo z=>kp l o (d j _ c g l e) z⟩
   .exact Ok.go S g f.f0 (λa o ho e=>kp a o (d j s c g a ho) e) Bi np
 .have at_:∀(n:Nat)s,(ss.set i (.ow lt (.nd Gu a0 B7)))[n]?=some s->(n=i/\s=.ow lt (.nd Gu a0 B7))∨(n≠i/\ss[n]?=some s):=λn s p=>by
   by_cases c:n=i
   .subst c;rw[Cr D]at p;exact .inl ⟨rfl,(B3 p).symm⟩
   .rw[CM (BM c)]at p;exact .inr ⟨c,p⟩
  have C:∀(n:Nat)s,n≠i->ss[n]?=some s->B5 s Z[n]? b->b∉(OV.nd Gu a0 B7).addrs:=λn s p t ho m=>by
   rcases(q b m).2 with z|z
   .exact S.EW t ho z
   .exact d n s p t b ho z
  rcases at_ j s g with⟨e1,rfl⟩|⟨J,h1⟩
  .rcases at_ k u hk with⟨B,rfl⟩|⟨x,h2⟩
   .exact Pt (e1.trans B.symm)
   .exact C k u x h2 mu ms
  .rcases at_ k u hk with⟨B,rfl⟩|⟨x,h2⟩
   .exact C j s J h1 ms mu
   .exact S.BL j k s u b Pt h1 h2 ms mu
section
variable[Xw]
variable{ta:TA}{lt:Bool}{nx:List Slot->Prop}{R:Ae}
theorem fH{k:List Slot->Prop}(h:k []):ar ss BK k:=⟨λE Z F H Q S q=>q [] [] F H (Mv.refl S) .nil h⟩
theorem d3{k:List Slot->Prop}(hi:ss[i]?=some (.ow lt t))(h:ar ss ta λl=>k (.ow true t::l)):QM ss i t (Ag (Ar i) ta) k:=⟨λE Z F H Q S q=>by
 obtain⟨b,e0,_⟩:=S.ok i _ hi;exact⟨_,e0,h.go E Z F H _ S λvs l F2 H2 m2 a kk=>q _ _ F2 H2 m2 (.here e0 a) kk⟩⟩
theorem MC{k:List Slot->Prop}(h:Wp ss te λp=>QM ss i t ta λl=>k (.is p::l)):QM ss i t (Ag te ta) k:=⟨λE Z F H Q S q=>
 h.go E Z F H _ S λv p F1 H1 b r h2=>h2.go E Z F1 H1 _ b.st λvs l F2 H2 m2 a kk=>q _ _ F2 H2 (b.trans m2) (.there (r.mono m2.ff) a) kk⟩
theorem Mv.Yh{F1 H1 F2 H2:Hp}(hi:ss[i]?=some (.ow lt t))(a:Mv E ss Z F H F1 H1)(b:JO E ss Z i lt t t' F1 H1 F2 H2):JO E ss Z i lt t t' F H F2 H2:=
 ⟨b.st,a.ff.trans b.ff,λc o n z e=>b.hh c o n z (a.hh c o n e),λc o e=>(b.nn c o e).elim (λe=>a.nn c o e) λe=>.inr (a.none e)⟩
theorem aj{k:PV->OV->Prop}(hi:ss[i]?=some (.ow lt (.nd nk a0 us)))(h:QM ss i (.nd nk a0 us) ta λl=>∃k',pre l (.mt k')/\∀p t',k' p t'->∃Gu B7,t'=.nd Gu a0 B7/\k p t'):Wm ss i lt (.nd nk a0 us) (Dz (EU pre) [] E0 ta) k:=⟨λE Z F H Q S q=>
 h.go E Z F H _ S λvs l F1 H1 b a⟨k',e,kk⟩=>by
  rw[GB];refine⟨l,.mt k',F1,[],(OV.nd nk a0 us).addrs,e,b.st.lg hi a,λv F' H' f⟨p,t',r,c,nd,d,kp⟩=>?_⟩;obtain⟨Gu,B7,rfl,k2⟩:=kk p t' kp;exact q v p _ F' H' (b.Yh hi (b.st.ze hi f c nd d)) r k2⟩
theorem qh{k:Bool->OV->Prop}(h:Wm ss i lt t te λp t'=>∃c,p=.bl c/\k c t'):P4 ss i lt t (tB te) k:=⟨λE Z F H Q S q=>
 h.go E Z F H _ S λv p t' F1 H1 a r AN=>by
  obtain⟨c,e,kk⟩:=AN;subst e;cases r.inv;exact⟨c,rfl,q c t' F1 H1 a kk⟩⟩
theorem kD{c d:TT}{k:Bool->OV->Prop}(hi:ss[i]?=some (.ow lt t))(h:Wt ss c λb=>if b=true then k true t else P4 ss i lt t d k):P4 ss i lt t (Mg c d) k:=⟨λE Z F H Q S q=>
 h.go E Z F H _ S λb F1 H1 a kk=>by
  cases b with
  |false=>rw[i3 (by decide)]at kk;exact kk.go E Z F1 H1 _ a.st λb t' F2 H2 m2 k2=>q b t' F2 H2 (a.Yh hi m2) k2
  |true=>rw[i5 rfl]at kk;exact q true t F1 H1 (JO.of hi a) kk⟩
theorem zr{c:TT}{u v:TS}(h:P4 ss i lt t c λb t'=>if b=true then Ws (ss.set i (.ow lt t')) u nx R else Ws (ss.set i (.ow lt t')) v nx R):Ws ss (Ld c u v) nx R:=⟨λE D Z F H S e d=>
 h.go E Z F H _ S λb t' F1 H1 a kk=>by
  cases b with
  |true=>rw[i5 rfl]at kk;exact kk.go E D Z F1 H1 a.st (λA5 σ' F' H' n S' s=>e A5 σ' F' H' n S' (a.ff.trans s)) d
  |false=>rw[i3 (by decide)]at kk;exact kk.go E D Z F1 H1 a.st (λA5 σ' F' H' n S' s=>e A5 σ' F' H' n S' (a.ff.trans s)) d⟩
theorem nX(h:Wm ss i lt t te λ_ t'=>nx (ss.set i (.ow lt t'))):Ws ss (Hy te) nx R:=⟨λE D Z F H S b c=>
 h.go E Z F H _ S λv p t' F1 H1 a r kk=>b _ Z F1 H1 kk a.st a.ff⟩
theorem rZ{k:PV->OV->Prop}(hi:ss[i]?=some (.ow lt (.nd nk a0 us)))(h:Wp ss te λp=>k p (.nd nk a0 us)):Ws ss (G3 te) nx (.mt k):=⟨λE D Z F H S l g=>
 h.go E Z F H _ S λv p F1 H1 d r kk=>by
  obtain⟨f,e0,b,HH,c⟩:=d.st.ok i _ hi;have j:f=.ref a0:=by cases b;rfl
  subst j;exact g v F1 H1 d.st.toFin ⟨p,.nd nk a0 us,r,b,HH,λa e=>⟨(c a e).1,(c a e).2.imp id λz=>z.2⟩,kk⟩⟩
end
theorem mT{t:TS}(h:EU pre vs H Q X)(b:∀ss R,pre ss R->ss.length=n)
  (hw:∀ss R,pre ss R->Ws (ss++List.replicate (N.length - n) .any) t (λ_=>False) R):t { nx:=λ_ H'=>Q .A6 H',rt:=Q } (L2.start N vs) H:=by
 obtain⟨ss,R,F,A,B,a,S,q⟩:=h;have e:vs.length=n:=by have:=S.len;rw[AA]at this;rw[<- this];exact b ss R a
 unfold L2.start;rw[e];exact(hw ss R a).go (Tw ⟨A,F,H,B⟩) _ _ F H (S.grown _) (λA5 σ' F' H' z S' _=>z.elim) λv F' H' f ok=>q v F' H' f ok
theorem vZ(b:∀ss R,pre ss R->ss.length=n)(h:EU pre vs H Q X):vs.length=n:=by
 obtain⟨ss,R,F,A,B,a,S,q⟩:=h;have:=S.len;rw[AA]at this;rw[<- this];exact b ss R a
theorem Sg.bf(S:Sg E ss Z F H)(d:ss[j]?=some (.ow false u)):Sg E (ss.set j (.is u.pv)) Z (Bs F H u.addrs) H/\AD F (Bs F H u.addrs):=by
 obtain⟨v,e,r,nd,f⟩:=S.ok j _ d;obtain⟨S1,g⟩:=(S.drop j).lay u.addrs (λa b=>⟨(f a b).1,(f a b).2.elim id (λz=>by cases z.1),r.there a b⟩) λa b n s c m=>by
  by_cases q:n=j
  .subst q;rw[Cr (List.getElem?_eq_some_iff.mp d).1]at c;cases c;cases m
  .rw[CM (BM q)]at c;exact S.BL n j s _ a q c d m b
 have h:=S1.Gw (j:=j) (v:=v) (p:=u.pv) (r.rep g λa b o ho=>by unfold Bs;rw[i5 b];exact ho);rw[Kd e,OI]at h;exact⟨h,g⟩
theorem jm{p:Slot}(c:ss[j]?=some (.ow false u))(b:p≠.AH)(a:Addr):C7 ss Z a->C7 (ss.set j p) Z a:=λn k hk=>by
 by_cases q:k=j
 .subst q;rw[Cr (List.getElem?_eq_some_iff.mp c).1]at hk;cases hk;exact absurd rfl b
 .rw[CM (BM q)]at hk;exact n k hk
theorem Sg.ic(S:Sg E ss Z F H)(d:ss[j]?=some (.ow false u))(ff:AD (Bs F H u.addrs) F')(fh:AD F' H'):(∀a∈u.addrs,F' a=H a/\H' a=H a/\H a≠none)/\∀a∈u.addrs,∀ws,F' a≠some (.tup ws):=by
 obtain⟨v,e,r,nd,f⟩:=S.ok j _ d;have at_:∀a∈u.addrs,F' a=H a/\H' a=H a/\H a≠none:=λa b=>by
  cases q:H a with
  |none=>exact absurd q (r.there a b)
  |some o=>
   have c:F' a=some o:=ff a o (by unfold Bs;rw[i5 b];exact q);exact⟨c,fh a o c,by simp⟩
 exact⟨at_,λa b ws q=>by rw[(at_ a b).1]at q;exact r.ZV a b ws q⟩
theorem Sg.zx(S:Sg E ss Z F H)(b:ss[j]?=some (.ow false u))(m:Mv E (ss.set j (.is u.pv)) Z (Bs F H u.addrs) H F' H'):Mv E ss Z F H (DW F' u.addrs) H'/\∀a∈u.addrs,∀ws,F' a≠some (.tup ws):=by
 obtain⟨v,e,r,nd,c⟩:=S.ok j _ b;obtain⟨S2,f⟩:=S.bf b;obtain⟨at_,d⟩:=S.ic b m.ff m.st.fh;refine⟨S.step (λa o ea=>?_) (λa o ea=>?_) (λa o n ea=>m.hh a o (jm b (λz=>by cases z) a n) ea) (λa o ea=>?_) (λk l hk g=>?_),d⟩
 .unfold DW;rw[i3 (λq=>by rw[(c a q).1]at ea;cases ea)];exact m.ff a o (f a o ea)
 .unfold DW at ea;split at ea
  .cases ea
  .exact m.st.fh a o ea
 .unfold DW at ea;split at ea
  .cases ea
  .rename_i q;rcases m.nn a o ea with z|z
   .unfold Bs at z;rw[i3 q]at z;exact .inl z
   .exact .inr z
 .refine m.st.Ek (i:=k) ?_ g;rw[CM (λq=>by subst q;rw[b]at hk;cases hk)];exact hk
section
variable[Xw]
variable{lt:Bool}
theorem fG{k:List PV->Prop}(j:Nat)(a:ss[j]?=some (.ow false u))(h:Wn (ss.set j (.is u.pv)) te λys=>JF ys=true/\k ys):Wn ss te k:=⟨λE Z F H Q S q=>by
 obtain⟨S2,f⟩:=S.bf a;refine h.go E Z _ H Q S2 λl2 Ie ys F' H' m e h2 D3 b⟨d,kk⟩=>?_;obtain⟨M,c⟩:=S.zx a m;exact q l2 Ie ys _ H' M (by unfold DW;split <;> first|rfl|exact e) h2 D3 (b.sub c d) kk⟩
end
end Fz
namespace L2
section
variable{X:Cx}{o i value:Expr}{td ty tv:TE}{pos pos':Pos}
theorem lJ(f:X.A.units+1<cLine)(ho:QE X o td)(hi:QE X i ty)(j:TZ i):QE X (.Subscript o i pos) (WG td ty):=⟨by
 have ho:=ho.h;have hi:=hi.h;intro Zq s Z H Q I h;refine zN PySem.F.slot_dict_getitem.lookup j (ho.k I h λu s1 x H1 I1 c e=>hi.k I1 e λn s2 y H2 I2 b⟨a,v,ex,g,d⟩=>?_);subst ex;obtain rfl:u=Value.ref a:=c;exact⟨zF I2 g,qK f I2 g b λl m I3 Hf=>⟨v,H2,I3,Hf,d⟩⟩⟩
theorem Y7(m:X.A.units+1<cLine)(ho:QE X o td)(hi:QE X i ty)(b:QE X value tv)(n:swapsWith value (some (.Subscript o i pos')) pos.line X.env=pure false:=by rfl):
  QS X (.Assign [.Subscript o i pos'] value pos) (Qa td ty tv):=⟨by
 have ho:=ho.h;have hi:=hi.h;have b:=b.h;intro Zq s Z H D I h;refine wpAny_Assign_Subscript (b.k I h λr s1 v H1 I1 e l=>ho.k I1 l λu s2 x H2 I2 d j=>hi.k I2 j λq p y H3 I3 c⟨a,H4,ex,g,f⟩=>?_) n;subst ex;obtain rfl:u=Value.ref a:=d;exact jB m I3 g c e λs4 I4=>⟨Z,H4,I4,f⟩⟩
theorem U4:QE X (.Dict [] [] pos) PN:=⟨λZq s Z H Q I h=>
 wpAny_Dict_empty ⟨.ref s.heap.objs.size,_,I.laid (a:=s.heap.objs.size) (o:=.dK []) (t':=s.toks) (λ_ _ q=>Ay _ q) (Aa _) (qg s.heap I.big),rfl,h _ (I.AE.fresh (Aa _))⟩⟩
end
end L2
namespace Fz
open L2 Lw
variable{F:Hp}{ss:List Slot}{td tv ty:TE}{nx:List Slot->Prop}{R:Ae}{i:Nat}{ks:List Key}{C3 vs:List V}{t u:OV}{a:Addr}{us:List OV}{m p:List Nat}{f:Str}
noncomputable def NV:Key->PV
 | .inl i=>.int i
 | .inr x=>.str x
noncomputable def LK:List Key->List PV->Key->Option PV
 |k'::ks,x::xs,k=>if k'=k then some x else LK ks xs k
 |_,_,_=>none
def GZ(ks:List Key)(k:Key):Bool:=ks.any λk'=>decide (k'=k)
def JK(ks:List Key)(k:Key):List Key:=if GZ ks k=true then ks else ks++[k]
theorem Oj{v:V}{k:Key}(r:Rep F v (NV k)):v=kV k:=by
 cases k with
 |inl i=>cases r.inv;rfl
 |inr x=>cases r.inv;rfl
theorem qm{k:Key}{y:PV}:∀{ks:List Key}{vs:List V}{xs:List PV},AF F vs xs->ks.length=vs.length->LK ks xs k=some y->∃v,ES (ks.zip vs) k=some v/\Rep F v y:=by
 intro ks
 induction ks with
 |nil=>intro vs xs _ _ h;cases h
 |cons k' ks d=>
  intro vs xs r e h;cases xs with
  |nil=>cases h
  |cons x xs=>
   obtain⟨v,ws,rfl,a,b⟩:=r.inv;have h:(if k'=k then some x else LK ks xs k)=some y:=h
   rw[XO]
   by_cases c:k'=k
   .rw[i5 c]at h;cases h;exact⟨v,RA c,a⟩
   .rw[i3 c]at h;obtain⟨w,h1,h2⟩:=d b (Jh e) h;exact⟨w,by rw[RI c];exact h1,h2⟩
section
variable[Xw]
variable{k:PV->Prop}{lt:Bool}
theorem x8(h:Wp ss td λp=>∃ks xs,p=.As ks xs/\Wp ss ty λq=>∃key y,q=NV key/\LK ks xs key=some y/\k y):Wp ss (WG td ty) k:=⟨λE Z F H Q S q=>
 h.go E Z F H _ S λv p F1 H1 b f⟨ks,xs,e,h2⟩=>h2.go E Z F1 H1 _ b.st λv2 p2 F2 H2 m2 d⟨key,y,l,g,kk⟩=>by
  subst e;subst l;have m:=f.mono m2.ff;cases m with
  |As j i c=>
   obtain⟨w,hw,a⟩:=qm c i g;refine⟨_,w,rfl,?_,q w y F2 H2 (b.trans m2) a kk⟩;rw[<- hw,Oj d];exact Gy.k (m2.st.fh _ _ j)⟩
theorem bL{k:List Nat->OV->Prop}(h:∀a,k [] (.nd (.As []) a (([]:List PV).map .fz))):Wx ss PN k:=⟨λE Z F H Q S q p b=>by
 have m:=S.make b (.dK []);refine q _ [] (.nd (.As []) p (([]:List PV).map .fz)) F _ m (.nd (k:=.As []) (vs:=[]) AX trivial rfl .nil) (by rw[OV.DQ];simp[NK.more,OV.FR]) (λa c=>?_) (h p);rw[OV.DQ]at c;have e:a=p:=by simpa[NK.more,OV.FR]using c
 subst e;exact⟨S.Bi b,S.DD b,.inr b⟩⟩
theorem Vy:∀{ks:List Key}{vs:List V}{key:Key},ks.length=vs.length->(ks.zip vs).any (λkv=>decide (kv.1=key))=GZ ks key
 | [],vs,key,h=>rfl
 |k'::ks,w::vs,key,h=>by
  rw[XO,MM,Vy (by simpa using h)]
  rfl
 |_::_,[],_,h=>by simp at h
noncomputable def GP:List Key->List V->Key->V->List V
 |k'::ks,x::xs,k,p=>(if k'=k then p else x)::GP ks xs k p
 |_,xs,_,_=>xs
theorem bK:∀{ks:List Key}{vs:List V}{key:Key}{v:V},(ks.zip vs).map (λkv=>if kv.1=key then(kv.1,v)else kv)=ks.zip (GP ks vs key v)
 | [],vs,key,v=>by simp
 |k'::ks,w::vs,key,v=>by
  rw[XO,E9,bK,GP,XO]
  by_cases c:k'=key
  .rw[i5 c,i5 c]
  .rw[i3 c,i3 c]
 |_::_,[],_,_=>by simp[GP]
end
noncomputable def FY:List Key->Key->Option Nat
 | [],_=>none
 |k'::ks,k=>if k'=k then some 0 else(FY ks k).map (· + 1)
theorem d9:∀{ks:List Key}{key:Key}{n:Nat},FY ks key=some n->ks[n]?=some key
 | [],_,_,h=>by cases h
 |k'::ks,key,n,h=>by
  rw[FY]at h
  by_cases c:k'=key
  .rw[i5 c]at h;cases h;subst c;rfl
  .rw[i3 c]at h;cases e:FY ks key with
   |none=>rw[e]at h;cases h
   |some m=>rw[e]at h;cases h;exact d9 (ks:=ks) e
theorem Pz:∀{ks:List Key}{key:Key},(FY ks key).isSome=GZ ks key
 | [],_=>rfl
 |k'::ks,key=>by
  rw[FY];unfold GZ;rw[MM]
  by_cases c:k'=key
  .rw[i5 c,hU c];rfl
  .rw[i3 c,iF c,X0,gc,Pz];rfl
theorem cA{key:Key}(a:ks.length=vs.length):(ES (ks.zip vs) key).isSome=GZ ks key:=by
 rw[<- Uc,Vy a]
theorem fF:∀{ks:List Key}{vs:List V}{key:Key}{n:Nat}{v:V},ks.Nodup->FY ks key=some n->GP ks vs key v=vs.set n v
 | [],_,_,_,_,_,h=>by cases h
 |k'::ks,[],key,n,v,_,h=>by rw[GP];simp;simp
 |k'::ks,w::vs,key,n,v,nd,h=>by
  rw[FY]at h;obtain⟨f,d⟩:=List.nodup_cons.mp nd;rw[GP]
  by_cases c:k'=key
  .rw[i5 c]at h;cases h;rw[i5 c,gS]
   congr 1
   subst c;have a:∀{ks:List Key}{vs:List V},k'∉ks->GP ks vs k' v=vs:=by
    intro ks
    induction ks with
    |nil=>intro vs _;rw[GP];simp
    |cons k2 ks g=>
     intro vs b;cases vs with
     |nil=>rw[GP];simp
     |cons u vs=>
      rw[GP,i3 (λz=>b (by rw[z];simp)),g (λz=>b (by simp[z]))]
   exact a f
  .rw[i3 c]at h;cases e:FY ks key with
   |none=>rw[e]at h;cases h
   |some m=>
    rw[e]at h;cases h;rw[i3 c,Ri,fF d e]
section
variable[Xw]
variable{ta:TE}{k:PV->Prop}
theorem Zr(h:Wp ss ty λq=>Wl ss i t td λ_ u=>∃ks a us key,u=.nd (.As ks) a us/\q=NV key/\k (.bl (!GZ ks key))):Wp ss (QB ty td) k:=⟨λE Z F H Q S q=>
 h.go E Z F H _ S λv p F1 H1 b d h2=>h2.go E Z F1 H1 _ b.st λv2 p2 u F2 H2 m2 c Be AN=>by
  obtain⟨ks,a,us,key,g,eq,kk⟩:=AN;subst g;subst eq;obtain⟨vs,rfl,e,j,f,l⟩:=c.inv;refine⟨a,ES (ks.zip vs) key,rfl,by rw[Oj d];exact Gy.k e,?_⟩;rw[cA f];exact q _ _ F2 H2 (b.trans m2) (.bl _) kk⟩
theorem jd(h:Wp ss ty λq=>Wp ss td λu=>∃ks xs key,u=.As ks xs/\q=NV key/\k (.bl (!GZ ks key))):Wp ss (QB ty td) k:=⟨λE Z F H Q S q=>
 h.go E Z F H _ S λv p F1 H1 b d h2=>h2.go E Z F1 H1 _ b.st λv2 u F2 H2 m2 c AN=>by
  obtain⟨ks,xs,key,f,eq,kk⟩:=AN;subst f;subst eq;cases c with
  |@As a _ vs _ g e i=>
   refine⟨a,ES (ks.zip vs) key,rfl,by rw[Oj d];exact Gy.k (m2.st.fh _ _ g),?_⟩;rw[cA e];exact q _ _ F2 H2 (b.trans m2) (.bl _) kk⟩
theorem LX:(OV.nd (.As ks) a us).addrs=a::OV.Ai us:=by rw[OV.DQ];rfl
theorem zY{lt:Bool}:∀(m:List Nat)(ss:List Slot),ss[i]?=some (.ow lt t)->i∉m->(Fz.Dk m ss)[i]?=some (.ow lt t):=by
 intro m
 induction m with
 |nil=>intro ss h _;exact h
 |cons j m b=>
  intro ss h a;refine b _ ?_ λz=>a (by simp[z]);rw[CM (by rintro rfl;exact a (by simp))];exact h
theorem Sg.nr{lt:Bool}{E:Ent0}{Z:L2.St}{F0 H0 H:Hp}{QJ:List Key}{B7:List OV}(S0:Sg E ss Z F0 H0)(S:Sg E ss Z F H)(hi:ss[i]?=some (.ow lt t))(Be:t.at p=some (.nd (.As ks) a us))
  (d:∀a∈u.addrs,F a=none/\E.H0 a=none/\((∃i∈m,∃s,s≠Slot.AH/\ss[i]?=some s/\B5 s Z[i]? a)∨H0 a=none)) (GY:i∉m)
  (B:Au F H C3 B7) (C:QJ.length=C3.length) (HB:(OV.Ai B7).Nodup) (K2:∀b∈OV.Ai B7,b∈OV.Ai us∨b∈u.addrs):Sg E ((Fz.Dk m ss).set i (.ow lt (t.put p (.nd (.As QJ) a B7)))) Z F (upd H a (.dK (QJ.zip C3))):=by
 have I:=zY m ss hi GY;obtain⟨v,e,r,nd,q⟩:=S.ok i _ hi;have n:∀b,b∈a::OV.Ai us->b∈t.addrs:=λb c=>OV.NP Be b (by rw[LX];exact c);have G:∀b∈u.addrs,b∉t.addrs:=λb c z=>by
  rcases(d b c).2.2 with⟨j,D,s,_,f,o⟩|w
  .exact S.BL j i s _ b (by rintro rfl;exact GY D) f hi o z
  .exact S0.EW hi z w
 have h:(OV.nd (.As ks) a us).addrs.Nodup:=by
  obtain⟨l,J,e1,_⟩:=OV.split Be;rw[e1,Dg,Dg]at nd;exact nd.1.2.1
 rw[LX]at h;have g:∀b∈OV.Ai B7,b≠a:=λb c z=>by
  subst z;rcases K2 b c with w|w
  .exact(List.nodup_cons.mp h).1 w
  .exact G b w (n b (by simp))
 refine(S.Dk m).ag I Be (.nd (k:=.As QJ) AX trivial C (B.mono (AD.refl _) λb c o ho=>by rw[AS (g b c)];exact ho)) (by rw[LX];exact List.nodup_cons.mpr ⟨λz=>g a z rfl,HB⟩) λb c=>?_;rw[LX]at c ⊢;rcases List.mem_cons.mp c with w|w
 .exact .inl (by simp[w])
 .rcases K2 b w with z|z
  .exact .inl (by simp[z])
  .refine .inr ⟨(d b z).1,(d b z).2.1,λj s f o=>?_⟩;rcases Q8 f with y|⟨Ii,hm⟩
   .subst y;cases o
   .rcases(d b z).2.2 with⟨A,EO,s2,_,DY,x⟩|y
    .exact S.BL j A s s2 b (by rintro rfl;exact hm EO) Ii DY o x
    .exact S0.EW Ii o y
def Hv(ks:List Key)(us:List OV)(key:Key)(w:OV):List OV:=match FY ks key with
 |some n=>us.set n w
 |none=>us++[w]
theorem bM(h:Wx ss tv λm w=>Wl ss i t td λp u=>∃lt a ks us,ss[i]?=some (.ow lt t)/\u=.nd (.As ks) a us/\us.length<=99999/\ks.Nodup/\i∉m/\Wp ss ty λq=>∃key,q=NV key/\nx ((Fz.Dk m ss).set i (.ow lt (t.put p (.nd (.As (JK ks key)) a (Hv ks us key w)))))):Ws ss (Qa td ty tv) nx R:=⟨λE D Z F H S hn hr=>
 h.go E Z F H _ S λv m w F1 H1 N L M1 a1 h2=>h2.go E Z F1 H1 _ N.st λv2 p u F2 H2 m2 K Be z=>by
  obtain⟨lt,a,ks,us,hi,rfl,hz,hk,GY,h3⟩:=z;refine h3.go E Z F2 H2 _ m2.st λv3 q F3 H3 B r3 z=>?_;obtain⟨key,rfl,kk⟩:=z;have ev:v2=.ref a:=K.inv.elim λ_ h=>h.1;subst ev;have G:=m2.trans B;have np:∀b∈w.addrs,C7 ss Z b:=λb d k hk P=>by
   rcases(a1 b d).2.2 with⟨j,O,s,I,JW,o⟩|z
   .exact S.BL j k s _ b (λe=>by subst e;rw[JW]at hk;exact I (B3 hk)) JW hk o P
   .exact S.EW hk P z
  have U:Af F3 H3 v w:=L.mono G.ff λb d o e=>G.hh b o (np b d) e;have X:∀b∈w.addrs,F3 b=none/\E.H0 b=none/\((∃i∈m,∃s,s≠Slot.AH/\ss[i]?=some s/\B5 s Z[i]? b)∨H b=none):=λb d=>by
   refine⟨?_,(a1 b d).2⟩;cases e:F3 b with
   |none=>rfl
   |some o=>
    rcases G.nn b o e with z|z
    .rw[(a1 b d).1]at z;cases z
    .exact absurd z (L.there b d)
  have σ:=K.mv m2.st ⟨lt,hi⟩ Be B;cases σ with
  |@nd _ _ vs _ ha sd ft A=>
   have C:ks.length=vs.length:=ft;have vl:=A.length;have qz:(ks.zip vs).length<=99999:=by rw[List.length_zip];omega
   refine⟨a,_,rfl,by rw[Oj r3];exact Nx.k ha (Iu qz),?_⟩;obtain⟨v0,e0,r0,HH,q0⟩:=B.st.ok i _ hi;have J:(OV.nd (.As ks) a us).addrs.Nodup:=by
    obtain⟨l,A,e1,_⟩:=OV.split Be;rw[e1,Dg,Dg]at HH;exact HH.1.2.1
   rw[LX]at J;have f:∀b∈w.addrs,b∉OV.Ai us:=λb d z=>by
    have T:b∈t.addrs:=OV.NP Be b (by rw[LX];simp[z]);rcases(a1 b d).2.2 with⟨j,O,s,_,I,o⟩|y
    .exact S.BL j i s _ b (by rintro rfl;exact GY O) I hi o T
    .exact S.EW hi T y
   obtain⟨C3,ep,W,kg,GH,Y⟩:∃C3:List V,putK (ks.zip vs) key v=(JK ks key).zip C3/\(JK ks key).length=C3.length/\Au F3 H3 C3 (Hv ks us key w)/\(OV.Ai (Hv ks us key w)).Nodup/\∀b∈OV.Ai (Hv ks us key w),b∈OV.Ai us∨b∈w.addrs:=by
    unfold putK JK Hv;rw[Vy C];cases e:FY ks key with
    |some n=>
     have c:GZ ks key=true:=by rw[<- Pz,e];rfl
     have iB:n<us.length:=by
      have:=(List.getElem?_eq_some_iff.mp (d9 e)).1;omega
     obtain⟨l,r,e1,Q⟩:=Ji (AK iB);rw[i5 c,i5 c,bK,fF hk e];refine⟨vs.set n v,rfl,by rw[HW];exact C,A.set n U,?_,λb d=>?_⟩
     .show(OV.Ai (us.set n w)).Nodup;rw[Q];have M:=(List.nodup_cons.mp J).2;rw[e1]at M;exact ZL M M1 λb d=>.inr (by rw[<- e1];exact f b d)
     .have g:b∈OV.Ai (us.set n w):=d;rw[Q]at g;rcases List.mem_append.mp g with z|z
      .rcases List.mem_append.mp z with z|z
       .exact .inl (by rw[e1];simp[z])
       .exact .inr z
      .exact .inl (by rw[e1];simp[z])
    |none=>
     have c:¬ GZ ks key=true:=by rw[<- Pz,e];decide
     rw[i3 c,i3 c];refine⟨vs++[v],by rw[List.zip_append C];rfl,by rw[BX,BX,C];rfl,A.append (.one U),?_,λb d=>?_⟩
     .show(OV.Ai (us++[w])).Nodup;rw[M6,N3,Dg];exact⟨(List.nodup_cons.mp J).2,M1,λx hx y hy e=>f y hy (e▸hx)⟩
     .have g:b∈OV.Ai (us++[w]):=d;rw[M6,N3]at g;exact List.mem_append.mp g
   rw[ep];exact hn _ Z F3 _ kk (Sg.nr (u:=w) S B.st hi Be X GY kg W GH Y) (N.ff.trans G.ff)⟩
variable{K:ZBx}
end
end Fz
set_option maxHeartbeats 200000
namespace L2
section
variable{prog:Program}{w:World}{A:Around}{E:Value->Shared->Prop}{s:Shared}
theorem LD{v:Value}{Q:Bool->Shared->Prop}(a:s.TypeIs v "set")(h:Q true s):wpAny (model prog w) A (Builtin.Frozenset.isAnySet v) Q E s:=by
 unfold Builtin.Frozenset.isAnySet;refine dP (tO (b:=true) a (by rw[pe];kernel_rfl) ?_);exact hJ h
theorem YV{a:Addr}{o:Obj}{es:Array (Int×Value)}{ep:Nat}{t:SetTable}{Q:Array (Int×Value)->Shared->Prop}(ho:s.heap.get? a=some o)(hd:o.data=.set es ep t)(c:t.fits es.size=true)(CB:t.led=!Bb w)(KS:Bb w=false->(!t.plain && decide (es.size > 1))=false)
  (h:∀BJ:Array (Int×Value),BJ.toList.Perm es.toList->Q BJ s):wpAny (model prog w) A (setWalk a) Q E s:=by
 unfold setWalk setsByText;refine dP (kC ho hd c ?_);dsimp only;refine dP (dP (oP (hJ ?_)));show wpAny _ _ (if Bb w=true then _ else _) _ _ _
 cases b:Bb w with
 |true=>
  rw[i5 rfl];exact dP (oP (hJ (h _ (QU _ _))))
 |false=>
  rw[i3 (by decide)];show wpAny _ _ (if(!t.plain && decide (es.size > 1))=true then _ else _) _ _ _
  rw[i3 (by rw[KS b];decide)];refine dP (m:=_) ?_
  wp_delta
  rw[CB,b];exact hJ (hJ (h es (HS _)))
theorem iw:entryFor table "set.__sub__"=some Builtin.«frozenset.__sub__»:=
 ZA5 (id' := "frozenset.__sub__") (by kernel_rfl) (by first|rfl|decide +kernel|(unfold String.splitOn;simp +decide [String.splitOnAux])) (by decide +kernel) (by kernel_rfl)
end
end L2
set_option maxHeartbeats 4000000
namespace Fz
open L2 Lw
variable{F H:Hp}{ps xs:List PV}{js:List Nat}
section
variable[Xw]
variable{E:Ent0}{ss:List Slot}{Z:L2.St}{F' H':Hp}{K:ZBx}{ta tb tc te:TE}{k:PV->Prop}{v:V}{tp:Bool}{nx:List Slot->Prop}{R:Ae}
theorem cE{i j:Nat}(h:js[i]?=some j):(Ak js Z)[i]?=some ((Z[j]?).join):=by
 unfold Ak;rw[AO,h];rfl
theorem join_some{o:Option (Option V)}{a:Addr}(h:some o.join=some (some (V.ref a))):o=some (some (.ref a)):=by
 cases o with
 |none=>cases h
 |some q=>cases q with
  |none=>cases h
  |some v=>simpa using h
theorem Mv.Og{vs:List V}(S:Sg E ss Z F H)(m:Mv E (Bp js ss++ps.map .is) (Ak js Z++vs.map some) F H F' H'):Mv E ss Z F H F' H':=by
 have g:(Bp js ss).length=js.length:=by simp[Bp]
 have r:(Ak js Z).length=js.length:=by simp[Ak]
 have k:∀(i:Nat)(a:Addr),(Bp js ss++ps.map .is)[i]?=some .AH->(Ak js Z++vs.map some)[i]?=some (some (.ref a))->∃j,js[i]?=some j/\ss[j]?=some .AH/\Z[j]?=some (some (.ref a)):=λi a hi f=>by
  by_cases h:i<js.length
  .rw[DO (by rw[g];exact h)]at hi;rw[DO (by rw[r];exact h)]at f;have d:=AK h;have q:=dW d hi;rw[cE d]at f;refine⟨js[i],d,?_,join_some f⟩;cases w:ss[js[i]]? with
   |none=>rw[w]at q;cases q
   |some u=>rw[w]at q;cases q;rfl
  .rw[FD (by omega),AO]at hi;cases w:ps[i - (Bp js ss).length]? with
   |none=>rw[w]at hi;cases hi
   |some p=>rw[w]at hi;cases hi
 refine S.step m.ff m.st.fh (λa o n e=>m.hh a o (λi hi f=>?_) e) m.nn λi l hi e=>?_
 .obtain⟨j,_,h1,h2⟩:=k i a hi f;exact n j h1 h2
 .by_cases c:∃b:Nat,js[b]?=some i
  .obtain⟨b,c⟩:=c;have lt:b < js.length:=(List.getElem?_eq_some_iff.mp c).1;refine m.st.Ek (i:=b) ?_ ?_
   .rw[DO (by rw[g];exact lt)];unfold Bp;rw[AO,c];show some ((ss[i]?).getD .any)=_;rw[hi];rfl
   .rw[DO (by rw[r];exact lt),cE c,e];rfl
  .refine BV.keep (S.Ek hi e) λo v=>m.hh l o (λb Dw s=>?_) v;obtain⟨j,t,h1,h2⟩:=k b l Dw s;have d:j≠i:=by rintro rfl;exact c ⟨b,t⟩
   exact S.BL j i _ _ l d h1 hi h2 e
variable{i:Nat}{t:OV}
theorem Au.snoc{u:OV}(r:Af F H v u):∀{vs:List V}{us:List OV},Au F H vs us->Au F H (vs++[v]) (us++[u]):=by
 intro vs us q
 induction us generalizing vs with
 |nil=>cases q.D0;exact .cons r .nil
 |cons p ps c=>obtain⟨w,ws,rfl,a,b⟩:=q.inv;exact .cons a (c b)
theorem aG{wi:TI}{tt:TT}{k:List Nat->OV->Prop}(P:PV->OV->Prop)
  (h:Wi ss wi λxs=>xs.length<=100000/\(∀x∈xs,Wt (Bp js ss++[.is x]) tt λb=>b=true)/\(∀x∈xs,Wx (Bp js ss++[.is x]) te λm u=>m=[]/\P x u)/\∀(l:Addr)(us:List OV),us.length=xs.length->(∀(j:Nat)x u,xs[j]?=some x->us[j]?=some u->P x u)->k [] (.nd .lst l us))
  (nd:js.Nodup:=by decide):Wx ss (GV wi js tt te) k:=⟨λE Z F H Q S q=>
 h.go E Z F H _ S λJ xs F1 H1 d D⟨hz,ht,he,kk⟩acc B6=>by
  have HG:C7 ss Z acc:=d.st.GO B6;have σ:=d.st.DD B6;have Ks:∀(i:Nat)s,ss[i]?=some s->¬ B5 s Z[i]? acc:=λi s hi=>d.st.Kk hi B6;refine⟨λi m H2=>m=xs.length - i/\i<=xs.length/\∃F2 vs us,Mv E ss Z F1 H1 F2 H2/\F2 acc=none/\H2 acc=some (.lst vs)/\Au F2 H2 vs us/\(OV.Ai us).Nodup/\acc∉OV.Ai us/\(∀a∈OV.Ai us,F2 a=none/\H1 a=none)/\us.length=i/\∀(j:Nat)x u,xs[j]?=some x->us[j]?=some u->P x u,⟨_,rfl,Bo _,F1,[],[],d.st.make B6 _,d.st.Bi B6,AX,.nil,by rw[OV.FR];exact IW,by rw[OV.FR];exact Aq,λa g=>(by rw[OV.FR]at g;cases g),rfl,λj x y _ e=>(by simp at e)⟩,?_⟩;rintro i m H2⟨rfl,hi,F2,vs,us,m2,U,g,A,W,Uv,Kg,FJ,T⟩
  by_cases M:i<xs.length
  .refine .inr ⟨D.go ss Z F2 H2 i m2.ff m2.st M,λx H3 y=>?_⟩;obtain⟨p,F3,R,G,N⟩:=D.Dc ss Z F2 H2 i x H3 m2.ff m2.st M y;have Er:p∈xs:=BB R;have S3:=G.st.A7 (js:=js) nd (.one N);refine(ht p Er).go E _ F3 H3 _ S3 λb F4 H4 m4 f=>?_;have Y:=m4.Og (ps:=[p]) (vs:=[x]) G.st;have r:=G.trans Y;show if b=true then _ else _
   rw[f,i5 rfl];have S4:=r.st.A7 (js:=js) nd (.one (N.mono Y.ff));refine(he p Er).go E _ F4 H4 _ S4 λw mm u F5 H5 m5 ru nu fu⟨em,ew⟩=>?_;subst em;have Kb:=m5.Og (ps:=[p]) (vs:=[x]) r.st;have v:=r.trans Kb;have KR:=v.hh acc _ HG g;have there:∀a∈OV.Ai us,H2 a≠none:=λa Bg=>A.there a Bg;have HJ:∀a,H2 a≠none->F2 a=none->F5 a=none:=λa h1 h2=>by
    cases e:F5 a with
    |none=>rfl
    |some o=>
     rcases v.nn a o e with w|w
     .rw[h2]at w;cases w
     .exact absurd w h1
   have GS:F5 acc=none:=HJ acc (by rw[g];simp) U;have L:∀a∈u.addrs,H4 a=none:=λa vt=>by
    rcases(fu a vt).2.2 with⟨i,hi,_⟩|z
    .cases hi
    .exact z
   have X:acc∉u.addrs:=λz=>by
    have:=L acc z;rw[r.hh acc _ HG g]at this;cases this
   have BL:∀a∈OV.Ai us,a∉u.addrs:=λa Bg z=>by
    have O:=L a z;cases V:H2 a with
    |none=>exact there a Bg V
    |some o=>rw[r.hh a o (d.st.GO (Kg a Bg).2) V]at O;cases O
   have t:vs.length<=99999:=by
    rw[A.length,FJ];omega
   have K:OV.Ai (us++[u])=OV.Ai us++u.addrs:=by rw[M6,N3]
   have up:∀a,a≠acc->∀o,H5 a=some o->upd H5 acc (.lst (vs++[w])) a=some o:=λa AV o e=>by rw[AS AV];exact e
   refine⟨vs,KR,Iu t,xs.length - (i+1),by omega,rfl,M,F5,vs++[w],us++[u],?_,GS,AX,?_,?_,?_,?_,by simp[FJ],λj a b I f=>?_⟩
   .have B:=m2.trans v;refine⟨B.st.La GS (.inl σ) Ks,B.ff,λa o n e=>?_,B.nn⟩;rw[AS (DV e B6)];exact B.hh a o n e
   .refine Au.snoc (ru.mono (AD.refl _) λa Bg o e=>up a (λz=>X (z▸Bg)) o e) (A.mono v.ff λa Bg o e=>up a (λz=>Uv (z▸Bg)) o (v.hh a o (d.st.GO (Kg a Bg).2) e))
   .rw[K,Dg];exact⟨W,nu,λa Bg b Iv e=>BL a Bg (e▸Iv)⟩
   .rw[K,Je];exact λz=>z.elim Uv X
   .intro a Bg;rw[K,Je]at Bg;rcases Bg with z|z
    .exact⟨HJ a (there a z) (Kg a z).1,(Kg a z).2⟩
    .exact⟨(fu a z).1,m2.none (r.none (L a z))⟩
   .by_cases c:j<us.length
    .rw[DO c]at f;exact T j a b I f
    .have ej:j=i:=by
      have:=(List.getElem?_eq_some_iff.mp f).1;rw[BX,Ra]at this;omega
     subst ej;rw[FD (by omega),FJ,Rk]at f;rw[R]at I;cases I;cases f;exact ew
  .have e:i=xs.length:=by omega
   subst e;refine .inl ⟨D.stop ss Z F2 H2 m2.ff m2.st,q (.ref acc) [] _ F2 H2 (d.trans m2) (.nd (k:=.lst) g trivial trivial A) ?_ (λa Bg=>?_) (kk acc us FJ T)⟩
   .rw[OV.DQ];exact List.nodup_cons.mpr ⟨Uv,W⟩
   .rw[OV.DQ]at Bg;rcases List.mem_cons.mp Bg with z|z
    .subst z;exact⟨U,σ,.inr (d.none B6)⟩
    .have C:a∈OV.Ai us:=z;exact⟨(Kg a C).1,d.st.DD (Kg a C).2,.inr (d.none (Kg a C).2)⟩⟩
end
end Fz
namespace Fz
open L2 Lw
@[reducible] noncomputable def xwM (X:XK) (t:OV) (D:Ex->Prop):Xw:=⟨λ_=>X,λss=>ss[0]?=some (.ow true t),D⟩
variable{pre:Pre}
section
variable{P:Program}{w:World}{K:ZBx}{mg:ZBz}{ZB:Heap}{x qual:Str}{st:Stmt}{f:Addr}{fd:FuncData}{N ps:List Str}{k:Nat}
theorem nY(F:AR K x qual st f fd)(S:BG N ps (AQ st))(a:∀ss R,pre ss R->ss.length=ps.length)
  (c:∀{Ad:Value}{A:Around}{outer:List Env}{s:Shared}{H:Hp}{E:XK},BY k (A.deeper (envOfC qual (AQ st) s.heap.objs.size f Ad))->
   ∃t,Eo (G6 De P w K mg ZB N qual (AQ st) f Ad A outer s H E).GX (Dy st) t/\∀ss R,pre ss R->Ws (ss++List.replicate (N.length - ps.length) .any) t (λ_=>∃k,R=.is k/\k .A6) R):E5 P w K mg ZB De (k+1) f fd ps (Ap pre):=
 F.ER S (λvs H Q E h=>YL a h) λAd A outer s H vs Q E b h=>let ⟨t,q,r⟩:=c b;⟨t,q,cI h a r⟩
theorem yN(F:AR K x qual st f fd)(S:BG N ps (AQ st))(a:∀ss R,pre ss R->ss.length=ps.length)
  (c:∀{Ad:Value}{A:Around}{outer:List Env}{s:Shared}{H:Hp}{E:XK},BY k (A.deeper (envOfC qual (AQ st) s.heap.objs.size f Ad))->
   ∃t,Eo (G6 De P w K mg ZB N qual (AQ st) f Ad A outer s H E).GX (Dy st) t/\∀ss R,pre ss R->Ws (ss++List.replicate (N.length - ps.length) .any) t (λ_=>False) R):E5 P w K mg ZB De (k+1) f fd ps (EU pre):=
 F.ER S (λvs H Q E h=>vZ a h) λAd A outer s H vs Q E b h=>let ⟨t,q,r⟩:=c b;⟨t,q,mT h a r⟩
theorem hF(F:AR K x qual st f fd)(b:∀(kV a c:Value)(g:Option Addr)(Ad ct:Value)(us:List Value),us.length=ps.length->bindArgs (PySem.W.fnOf x qual (JX st) (Dy st) (AQ st) .none kV a c g Ad ct) ⟨us,[]⟩=pure (ps.zip us))(m:mg x=some (.ref f))(S:BG N ps (AQ st))(d:∀ss R,pre ss R->ss.length=ps.length)
  (e:∀{Ad:Value}{A:Around}{outer:List Env}{s:Shared}{H:Hp}{E:XK},BY k (A.deeper (envOfC qual (AQ st) s.heap.objs.size f Ad))->
   ∃t,Eo (G6 De P w K mg ZB N qual (AQ st) f Ad A outer s H E).GX (Dy st) t/\∀ss R,pre ss R->Ws (ss++List.replicate (N.length - ps.length) .any) t (λ_=>∃k,R=.is k/\k .A6) R):AJ P w K mg ZB x (k+1) ps (Ap pre):=
 AJ.mk F (F.binds b) m (nY F S d e)
theorem hM(F:AR K x qual st f fd)(b:∀(kV a c:Value)(g:Option Addr)(Ad ct:Value)(us:List Value),us.length=ps.length->bindArgs (PySem.W.fnOf x qual (JX st) (Dy st) (AQ st) .none kV a c g Ad ct) ⟨us,[]⟩=pure (ps.zip us))(m:mg x=some (.ref f))(S:BG N ps (AQ st))(d:∀ss R,pre ss R->ss.length=ps.length)
  (e:∀{Ad:Value}{A:Around}{outer:List Env}{s:Shared}{H:Hp}{E:XK},BY k (A.deeper (envOfC qual (AQ st) s.heap.objs.size f Ad))->
   ∃t,Eo (G6 De P w K mg ZB N qual (AQ st) f Ad A outer s H E).GX (Dy st) t/\∀ss R,pre ss R->Ws (ss++List.replicate (N.length - ps.length) .any) t (λ_=>False) R):AJ P w K mg ZB x (k+1) ps (EU pre):=
 AJ.mk F (F.binds b) m (yN F S d e)
end
end Fz
namespace Kz
variable{u v w:Nat}{ab:Nat->List Nat}
abbrev Lo:=List (Option Nat)
noncomputable def lows(lo:Lo):List Nat:=lo.filterMap id
mutual
def fu(ab:Nat->List Nat):Nat->Nat->Lo->List Nat->Bool×Lo×List Nat
 | 0,_,lo,tr=>(false,lo,tr)
 |n+1,v,lo,tr=>Bu ab n v (ab v) lo tr
def Bu(ab:Nat->List Nat):Nat->Nat->List Nat->Lo->List Nat->Bool×Lo×List Nat
 |_,_,[],lo,tr=>(false,lo,tr)
 |n,v,u::r,lo,tr=>
  if u∈tr then Bu ab n v r lo tr
  else match lo[u]?.join with
   |none=>(true,lo.set u (some v),tr++[u])
   |some w=>match fu ab n w lo (tr++[u])with
    | (true,BC,BU)=>(true,BC.set u (some v),BU)
    | (false,BC,BU)=>Bu ab n v r BC BU
end
def AP(ab:Nat->List Nat)(lo:Lo):Nat->List Nat->Prop
 |_,[]=>False
 |v,[u]=>u∈ab v/\u<lo.length/\lo[u]?.join=none
 |v,u::u2::r=>u∈ab v/\∃w,lo[u]?.join=some w/\AP ab lo w (u2::r)
noncomputable def app(lo:Lo):Nat->List Nat->Lo
 |_,[]=>lo
 |v,u::r=>(app lo ((lo[u]?.join).getD 0) r).set u (some v)
theorem Mb(lo:Lo):∀(v:Nat)(us:List Nat),(app lo v us).length=lo.length
 |_,[]=>rfl
 |v,u::r=>by unfold app;rw[HW];exact Mb lo _ r
theorem Zv{lo:Lo}{i:Nat}:∀{v:Nat}{us:List Nat},i∉us->(app lo v us)[i]?=lo[i]?
 |_,[],_=>rfl
 |v,u::r,h=>by
  unfold app;rw[CM (λz=>h (by rw[z];exact Aj))];exact Zv λz=>h (B2 _ z)
theorem join_some{lo:Lo}(h:lo[u]?.join=some w):lo[u]?=some (some w):=by
 cases e:lo[u]? with
 |none=>rw[e]at h;cases h
 |some o=>rw[e]at h;exact ib some h
theorem Fb{lo:Lo}:w∈lows lo↔∃u:Nat,lo[u]?=some (some w):=by
 unfold lows;rw[ZAi];constructor
 .rintro⟨o,ho,e⟩;obtain⟨u,a⟩:=List.mem_iff_getElem?.mp ho;exact⟨u,by rw[a,show o=some w from e]⟩
 .rintro⟨u,e⟩;exact⟨some w,BB e,rfl⟩
theorem dY{lo:Lo}(h:u<lo.length):∃l r,lows lo=l++(lo[u]?.join).toList++r/\lows (lo.set u (some v))=l++v::r:=by
 refine⟨lows (lo.take u),lows (lo.drop (u+1)),?_,?_⟩
 .have e:lo=lo.take u++lo[u]::lo.drop (u+1):=by rw[<- RU h,XM]
  unfold lows
  conv=>lhs;rw[e,ZAW]
  rw[AK h];cases q:lo[u]with
  |none=>simp
  |some w=>simp
 .rw[List.set_eq_take_append_cons_drop,i5 h];unfold lows;rw[ZAW];simp
theorem Yu{ab:Nat->List Nat}{lo:Lo}:∀{v:Nat}{us:List Nat},AP ab lo v us->us.Nodup->(∀u∈us,u<lo.length)->(lows (app lo v us)).Perm (v::lows lo)
 |_,[],h,_,_=>h.elim
 |v,[u],h,_,_=>by
  obtain⟨l,r,e1,b⟩:=dY (v:=v) h.2.1;unfold app app;rw[b,e1,h.2.2]
  simpa using ZAl
 |v,u::u2::r,h,nd,lt=>by
  obtain⟨_,w,hw,h2⟩:=h;have e:=List.nodup_cons.mp nd;have d:=Yu h2 e.2 (λx hx=>lt x (B2 _ hx));unfold app;rw[hw];show(lows ((app lo w (u2::r)).set u (some v))).Perm (v::lows lo);obtain⟨l,c,e1,b⟩:=dY (lo:=app lo w (u2::r)) (u:=u) (v:=v) (by rw[Mb];exact lt u Aj);rw[Zv e.1,hw]at e1;rw[e1]at d;rw[b];have p1:(w::(l++c)).Perm (w::lows lo):=by
   refine List.Perm.trans ?_ d
   simpa using(ZAl (a:=w) (l₁:=l) (l₂:=c)).symm
  exact List.perm_middle.trans (p1.cons_inv.cons v)
def Lh(ab:Nat->List Nat)(lo:Lo):Prop:=∀u w,lo[u]?=some (some w)->u∈ab w
theorem b8{ab:Nat->List Nat}{lo:Lo}(f:Lh ab lo):∀{v:Nat}{us:List Nat},AP ab lo v us->us.Nodup->Lh ab (app lo v us)
 |_,[],h,_=>h.elim
 |v,[u],h,_=>λu' w e=>by
  unfold app app at e
  by_cases z:u=u'
  .subst z;rw[Cr h.2.1]at e;cases e;exact h.1
  .rw[CM z]at e;exact f u' w e
 |v,u::u2::r,h,nd=>λu' a e=>by
  obtain⟨c,w,hw,h2⟩:=h;have d:=List.nodup_cons.mp nd;have b:=b8 f h2 d.2;unfold app at e;rw[hw]at e
  by_cases z:u=u'
  .subst z;rw[Cr (by rw[Mb];exact(List.getElem?_eq_some_iff.mp (join_some hw)).1)]at e;cases e;exact c
  .rw[CM z]at e;exact b u' a e
def DB(ab:Nat->List Nat)(v:Nat)(lo:Lo):Prop:=∃σ:List Nat,(∀u∈ab v,u∈σ)/\∀z∈σ,∃w,lo[z]?=some (some w)/\∀u∈ab w,u∈σ
theorem DB.no{ab:Nat->List Nat}{lo:Lo}{σ:List Nat}(cl:∀z∈σ,∃w,lo[z]?=some (some w)/\∀u∈ab w,u∈σ):∀{v:Nat}{us:List Nat},(∀u∈ab v,u∈σ)->¬ AP ab lo v us
 |_,[],_,h=>h
 |v,[u],hv,h=>by
  obtain⟨w,e,_⟩:=cl u (hv u h.1);have a:=h.2.2;rw[e]at a;cases a
 |v,u::u2::r,hv,h=>by
  obtain⟨b,w,hw,h2⟩:=h;obtain⟨d,e,c⟩:=cl u (hv u b);rw[join_some hw]at e;cases e;exact DB.no cl c h2
theorem Kj:∀{l1 l2:List Nat},l1.Nodup->(∀x∈l1,x∈l2)->l1.length<=l2.length
 | [],_,_,_=>Bo _
 |a::r,l2,nd,h=>by
  have b:=List.nodup_cons.mp nd;have c:=Kj (l2:=l2.erase a) b.2 λx hx=>(Rc (λz=>b.1 (by rw[<- z];exact hx))).mpr (h x (B2 _ hx));rw[MN (h a Aj)]at c;have:0<l2.length:=XG (h a Aj);rw[BA];omega
theorem cR{lo:Lo}:(lows lo).Nodup->∀{u u' w:Nat},lo[u]?=some (some w)->lo[u']?=some (some w)->u=u':=by
 unfold lows
 induction lo with
 |nil=>intro _ u u' w e;cases e
 |cons o r b=>
  intro nd u u' w e a;have sub:∀{k x:Nat},r[k]?=some (some x)->x∈r.filterMap id:=λ{k x}e=>List.mem_filterMap.mpr ⟨some x,BB e,rfl⟩;cases u with
  |zero=>
   cases u' with
   |zero=>rfl
   |succ u'=>
    cases(show some o=some (some w)from e);rw[ZAX (show id (some w)=some w from rfl)]at nd;exact absurd (sub (k:=u') a) (List.nodup_cons.mp nd).1
  |succ u=>
   cases u' with
   |zero=>
    cases(show some o=some (some w)from a);rw[ZAX (show id (some w)=some w from rfl)]at nd;exact absurd (sub (k:=u) e) (List.nodup_cons.mp nd).1
   |succ u'=>
    have c:(r.filterMap id).Nodup:=by
     cases o with
     |none=>simpa using nd
     |some x=>exact(List.nodup_cons.mp (by simpa using nd)).2
    rw[b c (u:=u) (u':=u') (w:=w) e a]
theorem DB.Fo{lo BC:Lo}(s:DB ab v lo)(B:(lows lo).Nodup)(f:Lh ab BC)(keep:∀w∈lows lo,w∈lows BC):DB ab v BC:=by
 obtain⟨Z0,F,q⟩:=s
 -- without ZBb
 let σ:=(List.range lo.length).filter λz=>decide (z∈Z0)
 have k:∀z,z∈σ↔z∈Z0:=λz=>by
  simp only[σ,Rf,Rg,iP];refine⟨λh=>h.2,λh=>⟨?_,h⟩⟩;obtain⟨w,e,_⟩:=q z h;exact(List.getElem?_eq_some_iff.mp e).1
 have A:σ.Nodup:=List.nodup_range.sublist ZAY;have cl:∀z∈σ,∃w,lo[z]?=some (some w)/\∀u∈ab w,u∈σ:=λz hz=>by
  obtain⟨w,e,c⟩:=q z ((k z).mp hz);exact⟨w,e,λu m=>(k u).mpr (c u m)⟩
 -- each z's lower one ZBg in BC at a place of σ
 have mv:∀z∈σ,∃y∈σ,BC[y]?=lo[z]?:=λz hz=>by
  obtain⟨w,e,c⟩:=cl z hz;obtain⟨y,d⟩:=Fb.mp (keep w (Fb.mpr ⟨z,e⟩));exact⟨y,c y (f y w d),by rw[d,e]⟩
 have ex:∀l:List Nat,(∀z∈l,z∈σ)->l.Nodup->∃ys:List Nat,ys.length=l.length/\ys.Nodup/\∀y∈ys,y∈σ/\∃z∈l,BC[y]?=lo[z]?:=by
  intro l
  induction l with
  |nil=>intro _ _;exact⟨[],rfl,.nil,λy h=>by cases h⟩
  |cons z r C=>
   intro n nd;have t:=List.nodup_cons.mp nd;obtain⟨ys,e1,o,g⟩:=C (λx hx=>n x (B2 _ hx)) t.2;obtain⟨y,D,d⟩:=mv z (n z Aj);refine⟨y::ys,by rw[BA,BA,e1],List.nodup_cons.mpr ⟨λE=>?_,o⟩,λx hx=>?_⟩
   .obtain⟨_,i,O2,p⟩:=g y E;obtain⟨w,j,_⟩:=cl z (n z Aj);rw[d,j]at p;have:=cR B j p.symm;exact t.1 (by rw[this];exact O2)
   .rcases List.mem_cons.mp hx with rfl|hx
    .exact⟨D,z,Aj,d⟩
    .obtain⟨a,i,b,c⟩:=g x hx;exact⟨a,i,B2 _ b,c⟩
 obtain⟨ys,e1,o,g⟩:=ex σ (λ_ h=>h) A;have all:∀z∈σ,z∈ys:=λz hz=>Jb λno=>by
  have:=Kj (l1:=z::ys) (l2:=σ) (List.nodup_cons.mpr ⟨no,o⟩) λx hx=>by
   rcases List.mem_cons.mp hx with rfl|hx
   .exact hz
   .exact(g x hx).1
  rw[BA]at this;omega
 refine⟨σ,λu m=>(k u).mpr (F u m),λz hz=>?_⟩;obtain⟨_,i,O2,e⟩:=g z (all z hz);obtain⟨w,j,c⟩:=cl i O2;exact⟨w,by rw[e,j],c⟩
def Res(ab:Nat->List Nat)(lo:Lo)(v:Nat)(us tr:List Nat):Bool×Lo×List Nat->Prop
 | (true,BC,_)=>∃p,AP ab lo v p/\p.Nodup/\(∀u∈p,u∉tr/\u<lo.length)/\BC=app lo v p
 | (false,BC,BU)=>BC=lo/\(∀z∈tr,z∈BU)/\BU.Nodup/\(∀z∈BU,z<lo.length)/\tr.length<=BU.length/\(∀u∈us,u∈BU)/\∀z∈BU,z∈tr∨∃w,lo[z]?=some (some w)/\∀u∈ab w,u∈BU
theorem LN{ab:Nat->List Nat}{lo:Lo}(Bt:∀v u,u∈ab v->u<lo.length):∀(n v:Nat)(tr:List Nat),tr.Nodup->(∀z∈tr,z<lo.length)->lo.length<n+tr.length->Res ab lo v (ab v) tr (fu ab n v lo tr)
 | 0,v,tr,nd,lt,g=>by
  have:=Kj (l2:=List.range lo.length) nd λx hx=>List.mem_range.mpr (lt x hx);rw[D2]at this;omega
 |n+1,v,tr,nd,lt,g=>by
  have go:∀(us tr:List Nat),(∀u∈us,u∈ab v)->tr.Nodup->(∀z∈tr,z<lo.length)->lo.length<n+1+tr.length->Res ab lo v us tr (Bu ab n v us lo tr):=by
   intro us
   induction us with
   |nil=>
    intro tr _ nd lt g;rw[Bu];exact⟨rfl,λz h=>h,nd,lt,Aa _,λu h=>(by cases h),λz h=>.inl h⟩
   |cons u r C=>
    intro tr sub nd lt g;have D:∀x∈r,x∈ab v:=λx hx=>sub x (B2 _ hx);have m:=sub u Aj;have k:=Bt v u m;rw[Bu]
    by_cases d:u∈tr
    .rw[i5 d];have q:=C tr D nd lt g;cases e:Bu ab n v r lo tr with
     |mk b x=>
      rw[e]at q;cases b with
      |true=>exact q
      |false=>
       obtain⟨a1,a2,A,t,f,s,o⟩:=q;exact⟨a1,a2,A,t,f,λy c=>by
        rcases List.mem_cons.mp c with rfl|c
        .exact a2 _ d
        .exact s y c,o⟩
    .rw[i3 d];have P:(tr++[u]).Nodup:=List.nodup_append.mpr ⟨nd,List.nodup_cons.mpr ⟨Aq,.nil⟩,λa H b G=>by rw[List.mem_singleton.mp G];exact λz=>d (by rw[<- z];exact H)⟩;have O:∀z∈tr++[u],z<lo.length:=λz hz=>by
      rcases List.mem_append.mp hz with hz|hz
      .exact lt z hz
      .rw[List.mem_singleton.mp hz];exact k
     cases i:lo[u]?.join with
     |none=>exact⟨[u],⟨m,k,i⟩,List.nodup_cons.mpr ⟨Aq,.nil⟩,λx hx=>by rw[List.mem_singleton.mp hx];exact⟨d,k⟩,rfl⟩
     |some w=>
      have q:=LN Bt n w (tr++[u]) P O (by rw[BX];simp;omega);show Res ab lo v (u::r) tr (match fu ab n w lo (tr++[u])with
       | (true,BC,BU)=>(true,BC.set u (some v),BU)
       | (false,BC,BU)=>Bu ab n v r BC BU)
      cases e:fu ab n w lo (tr++[u])with
      |mk b x=>
       obtain⟨BC,BU⟩:=x;rw[e]at q;cases b with
       |true=>
        obtain⟨p,ap,pn,pt,rfl⟩:=q;cases p with
        |nil=>exact ap.elim
        |cons B p=>
         refine⟨u::B::p,⟨m,w,i,ap⟩,List.nodup_cons.mpr ⟨λz=>(pt u z).1 (Bk _ Aj),pn⟩,λx hx=>?_,?_⟩
         .rcases List.mem_cons.mp hx with rfl|hx
          .exact⟨d,k⟩
          .exact⟨λz=>(pt x hx).1 (DA _ z),(pt x hx).2⟩
         .show _=(app lo ((lo[u]?.join).getD 0) (B::p)).set u (some v);rw[i];rfl
       |false=>
        obtain⟨rfl,a2,A,t,f,s,o⟩:=q;have l:=C BU D A t (by rw[BX]at f;simp at f;omega);show Res ab BC v (u::r) tr (Bu ab n v r BC BU);cases I:Bu ab n v r BC BU with
        |mk b x=>
         obtain⟨F,E⟩:=x;rw[I]at l;cases b with
         |true=>
          obtain⟨p,ap,pn,pt,el⟩:=l;exact⟨p,ap,pn,λx hx=>⟨λz=>(pt x hx).1 (a2 x (DA _ z)),(pt x hx).2⟩,el⟩
         |false=>
          obtain⟨N,j,M,L,Q,K,J⟩:=l;refine⟨N,λz hz=>j z (a2 z (DA _ hz)),M,L,by rw[BX]at f;simp at f;omega,λy c=>?_,λz hz=>?_⟩
          .rcases List.mem_cons.mp c with rfl|c
           .exact j _ (a2 _ (Bk _ Aj))
           .exact K y c
          .rcases J z hz with hz|hz
           .rcases o z hz with hz|⟨w2,ew,hw⟩
            .rcases List.mem_append.mp hz with hz|hz
             .exact .inl hz
             .rw[List.mem_singleton.mp hz];exact .inr ⟨w,join_some i,λy c=>j y (s y c)⟩
            .exact .inr ⟨w2,ew,λy c=>j y (hw y c)⟩
           .exact .inr hz
  rw[fu];exact go (ab v) tr (λ_ h=>h) nd lt g
theorem step{lo:Lo}{n:Nat}(Bt:∀v u,u∈ab v->u<lo.length)(g:lo.length<n)(nd:(lows lo).Nodup)(f:Lh ab lo)(c:v∉lows lo):
  ∃b BC BU,fu ab n v lo []=(b,BC,BU)/\BC.length=lo.length/\(lows BC).Nodup/\Lh ab BC/\(v∈lows BC∨DB ab v BC)/\(∀w∈lows BC,w=v∨w∈lows lo)/\∀w,(w∈lows lo∨DB ab w lo)->w∈lows BC∨DB ab w BC:=by
 have q:=LN Bt n v [] .nil (λz h=>by cases h) (by simpa using g)
 cases e:fu ab n v lo []with
 |mk b x=>
  obtain⟨BC,BU⟩:=x;rw[e]at q;refine⟨b,BC,BU,rfl,?_⟩;cases b with
  |true=>
   obtain⟨p,ap,pn,pt,rfl⟩:=q;have a:=Yu ap pn λu d=>(pt u d).2;have ff:=b8 f ap pn;have kp:∀w∈lows lo,w∈lows (app lo v p):=λw hw=>a.mem_iff.mpr (B2 _ hw);refine⟨Mb lo v p,a.nodup_iff.mpr (List.nodup_cons.mpr ⟨c,nd⟩),ff,.inl (a.mem_iff.mpr Aj),λw hw=>List.mem_cons.mp (a.mem_iff.mp hw),λw h=>h.imp (kp w) λs=>s.Fo nd ff kp⟩
  |false=>
   obtain⟨rfl,_,_,_,_,j,i⟩:=q;exact⟨rfl,nd,f,.inr ⟨BU,j,λz hz=>(i z hz).resolve_left (by simp)⟩,λw hw=>.inr hw,λw h=>h⟩
end Kz
namespace L2
variable{X:Cx}{Zq:ZBy}{Z:St}{H H2:Hp}{s s2 s₁:Shared}{T a c c' f it:Addr}{o:Obj}{pos px:Pos}{q qn x:Str}{keys ps:Array Value}{h' h1:Heap}{i t':Nat}{params:Arguments}{body elt:Expr}{outer scope:Scope}{NF cl:List (Str×Addr)}{E Q:Value->Shared->Prop}{A:Around}{cd u:Value}{js:List Nat}{m:ZBz}{tb te:TE}{w:World}{us vs:List Value}{kz ns:List Int}{xs:List V}{N loose:List Str}{ifs:List Expr}{tt:TT}
theorem Inv.LU(I:Inv X Zq Z H s)(h:s.heap.get? a=some o)(n:H a=none)(hL:a≠X.env.locals)(c:a∉X.fs)(d:∀v,o.data≠.cell v):Inv X ((a,o)::Zq) Z H s:=by
 refine⟨I.ok,I.os,I.bare,I.base,I.loc,I.cell,I.free,I.Fg,λp b=>?_,I.AE,I.len⟩;rcases List.mem_append.mp b with z|z
 .exact I.pin p (DA _ z)
 .rcases List.mem_cons.mp z with rfl|z
  .exact⟨h,n,hL,c,d⟩
  .exact I.pin p (Bk _ z)
theorem Inv.L7{p:Addr×Obj}(I:Inv X (p::Zq) Z H s):Inv X Zq Z H s:=by
 refine⟨I.ok,I.os,I.bare,I.base,I.loc,I.cell,I.free,I.Fg,λq a=>I.pin q ?_,I.AE,I.len⟩;rcases List.mem_append.mp a with z|z
 .exact DA _ z
 .exact Bk _ (B2 _ z)
theorem Inv.coded{P:Addr}(I:Inv X Zq Z H s)(a:H P=some (.C2 (.tab pos q)))(hx:Heap.ExtBut P s.heap h')(f:s.heap.objs.size<=c')(w:h'.CodeRec (.ref c') q)
  (c:h'.get? P=some (PySem.W.tabObj ps)) (tok:TriplesOk ps.toList) (y:codeAmong pos ps.toList=some (.ref c')):Inv X Zq Z (upd H c' (.C2 (.IP q))) { s with heap:=h',toks:=t' }:=by
 have k:H c'=none:=I.AE.fresh f;have ne:∀b u,H b=some u->b≠c':=λb u e=>DV e k;have nP:∀b,H b=none->b≠P:=λb n z=>by rw[z,a]at n;cases n
 have old:∀b o,s.heap.get? b=some o->b≠c':=λb o e=>Az (CG (AY e) f);refine I.step (g':=s.gens) (d':=s.drawn) (ch:=[]) (λ_ z=>nomatch z) (λb o _ _ _ e n=>hx b o (nP b n) e) (λb o _ _ _ e n=>⟨o.slots,hx b o (nP b n) e⟩) (λb o _ e n=>by rw[AS (old b o e)];exact n)
  (λb o _ e=>?_) (λb x e=>by rw[AS (ne b _ e)];exact e) (λb _ _ e=>by rw[AS (ne b _ e)];exact e) (λm l=>?_) (λb u e=>?_) I.bare
 .by_cases z:b=P
  .subst z;exact⟨_,c⟩
  .exact⟨o,hx b o z e⟩
 .obtain⟨o,es,ep,ho,r⟩:=l;exact⟨o,es,ep,hx _ o (nP _ I.free) ho,r⟩
 .by_cases g:b=c'
  .subst g;rw[AX]at e;cases e;obtain⟨B,i,vs,t,p,ho,hd,j⟩:=w;cases p;exact⟨i,vs,t,ho,hd,j⟩
  .rw[AS g]at e
   by_cases z:b=P
   .subst z;rw[a]at e;cases e;exact⟨ps,c,tok,λA h=>by rw[y]at h;cases h;exact⟨c',rfl,AX⟩⟩
   .refine(I.AE b u e).Fo (λd v hd q=>hx d v ?_ q) (λd q=>by rw[AS (ne d _ q)];exact q) λd _ q=>by rw[AS (ne d _ q)];exact q
    rcases hd with rfl|hd
    .exact z
    .rintro rfl;rw[a]at hd;cases hd
theorem ju{P:Addr}
  (I:Inv X Zq Z H s) (i:H P=some (.C2 (.tab pos q))) (C:PySem.W.CodeHd X.base c P) (g:X.env.code=.ref c) (hg:X.env.globals=mainGlobals) (Bw:closureFor scope X.env=pure NF) (t:X.base.BuiltinsAt X.mg P) (Hw:mainGlobals≠P)
  (r:X.env.qual ++ "<lambda>"=q) (Mt:defaultsOf params X.env=([],[]))
  (h:∀f c' DR s' H',Inv X ((f,PySem.W.kla_obj "<lambda>" q params body scope NF ((X.mg "__name__").getD .none) c' DR)::Zq) Z H' s'->(∀b o,H b=some o->H' b=some o)->H' c'=some (.C2 (.IP q))->s'.os=s.os->Q (.ref f) s') :
  wpAny (model X.prog X.w) X.A (eval (.Lambda params body scope pos) X.env) Q E s:=by
 subst r;have G:=I.ok.mod.glob.keeps I.bk;obtain⟨ps,k,tok,O⟩:=I.AE P _ i;have B:s.heap.BuiltinsAt X.mg P:=by
  obtain⟨y,o,N,M,L,K,F,D⟩:=t;exact⟨y,o,N,M,L,K,I.bk _ _ F,D⟩
 have j:∀(a b:Str)(c':Addr)(DR:Value)v,(PySem.W.kla_obj a b params body scope NF ((X.mg "__name__").getD .none) c' DR).data≠.cell v:=λa b c' DR v z=>by cases z
 refine PySem.W.kla_eval Mt ?_;cases d:codeAmong pos ps.toList with
 |none=>
  refine PySem.W.kla_makeFunction (mg:=X.mg) Bw hg G g (C.keeps I.bk) k tok d Hw B λc' DR h' tk hx Vm A8 n p=>?_;have l:codeAmong pos (ps++#[rawInt pos.line,rawInt pos.col,.ref c']).toList=some (.ref c'):=by
   rw[gF];exact codeAmong_snoc _ tok d
  have m:TriplesOk (ps++#[rawInt pos.line,rawInt pos.col,.ref c']).toList:=by
   rw[gF];exact TriplesOk_snoc _ _ _ _ tok
  have J:=(I.coded (t':=tk) i hx Vm n p m l).kept (t':=tk) (h':=h'.push (PySem.W.kla_obj "<lambda>" (X.env.qual ++ "<lambda>") params body scope NF ((X.mg "__name__").getD .none) c' DR)) λb u e=>Ay _ e;have hz:s.heap.objs.size<=h'.objs.size:=CQ Vm (IX A8);refine h _ c' DR _ _ (J.LU (BP _ rfl) ?_ (EA (CG I.lt hz)) (I.OA hz) (j _ _ _ _)) (λb o e=>by rw[AS (DV e (I.AE.fresh Vm))];exact e) AX rfl;rw[AS (EA A8)];exact I.AE.fresh hz
 |some x=>
  obtain⟨c',rfl,Ep⟩:=O x d;refine PySem.W.kla_makeFunctionHit (mg:=X.mg) Bw hg G g (C.keeps I.bk) k tok d B λDR h' tk hk hz=>?_;have J:=I.kept (t':=tk) (h':=h'.push (PySem.W.kla_obj "<lambda>" (X.env.qual ++ "<lambda>") params body scope NF ((X.mg "__name__").getD .none) c' DR)) λb u e=>Ay _ (hk b u e);exact h _ c' DR _ _ (J.LU (BP _ rfl) (I.AE.fresh hz) (EA (CG I.lt hz)) (I.OA hz) (j _ _ _ _)) (λb o e=>e) Ep rfl
noncomputable abbrev Mp(q:Str)(scope:Scope)(x:Str)(cl:List (Str×Addr))(L f:Addr)(cd:Value):Env:=newEnv scope L mainGlobals ((x,L+1)::cl) (q ++ ".<locals>.") (some f) cd none builtinsNs
noncomputable abbrev Qd(X:Cx)(A:Around)(N:List Str)(x:Str)(env:Env)(s:Shared)(H:Hp):Cx:=
 { X with A:=A.deeper env,N:=N,s₀:=s,H₀:=H,env:=env,outer:=X.stack,stack:=env::X.stack,ex:=[],fn:=λy=>y == x,calm:=true,pn:=[],xe:=λ_ _=>False }
theorem xZ{M:Model}{Q:Env->Shared->Prop}(hk:scope.kind=.function)(hx:scope.names.lookup x=some .cell)
  (cf:∀(n:Nat)(cl:List (Str×Addr)),cellsFrom n scope.names cl=Gk (some x) n++cl) (pc:∀h:Heap,pushCells h scope.names=NU (some x) h)
  (g:∀h' m,h'.Ns s.heap.objs.size m->(∀b o,s.heap.get? b=some o->h'.get? b=some o)->h'.IsCell (s.heap.objs.size+1) (some u)->Q (Mp q scope x cl s.heap.objs.size f cd) { s with heap:=h' }) :
  wpAny M A (newFunctionEnv scope mainGlobals cl [(x,u)] (q ++ ".<locals>.") (some f) cd none builtinsNs) Q E s:=by
 simp only[newFunctionEnv,Option.isSome_none,Bool.false_eq_true,ZBE];refine dP (wpAny_alloc ?_);refine dP (wpAny_layCells _ (λname kind cells=>by cases i:kind == NameKind.cell <;> simp[i]) _ _ _ _ ?_)
 rw[cf,pc];rw[show({ s with heap:=s.heap.push { cls:=.type "frame", data:=.dict #[] } }:Shared).heap.objs.size=s.heap.objs.size+1 from DM ..]
 refine dP ?_;rw[gK];refine dP (dP (wpAny_storeName_cell (c:=s.heap.objs.size+1) (v₀:=none) hk hx PH ?_ λh' d a=>hJ ?_))
 .exact⟨_,BP _ rfl |> λz=>by rw[DM]at z;exact z,rfl⟩
 .dsimp only;rw[XE];refine hJ (hJ (g h' _ (Heap.Ns.sameBut ((Heap.Ns.new s.heap (.type "frame")).push _) a (Az (MQ _))) (λb o e=>?_) d));exact a.extBut b o (Az (GD (AY e))) (Ay _ (Ay _ e))
section
variable{A7:List Str}{v:V}
theorem yM(S:DE X.N X.env.scope scope (some x) [x] A7 js)(hx:scope.names.lookup x=some .cell)(I:Inv X Zq Z H s)(e0:Hx X.prog X.w X.K X.mg X.base A X.stack s H)(hd:A.handled=none)(U:RelV v u)
  (E7:h1.Ns s.heap.objs.size m) (old:∀b o,s.heap.get? b=some o->h1.get? b=some o) (Bw:h1.IsCell (s.heap.objs.size+1) (some u)) :
  Inv (Qd X A (A7++[x]) x (Mp q scope x (BE X.env.cells scope.names) s.heap.objs.size f cd) s H) [] (Ak js Z++[some v]) H { s with heap:=h1,toks:=t' }:=by
 have σ:∀y∈scope.names,y.2=.free->(X.env.cells.lookup y.1).isSome=true:=λy g hk=>by
  obtain⟨c,e⟩:=I.ok.has y.1 (S.all y g hk);rw[e];rfl
 have R:∀y c,(BE X.env.cells scope.names).lookup y=some c->X.env.cells.lookup y=some c:=Vw scope.names [] σ (λ_ _ e=>by cases e);have B:js.length=A7.length:=by have:=ib List.length S.at';simpa using this
 have P:∀y c,X.env.cells.lookup y=some c->c<s.heap.objs.size:=λy c e=>by
  obtain⟨v,o,ho,_⟩:=I.cell y c e;exact AY ho
 have d:∀c v,s.heap.IsCell c v->h1.IsCell c v:=λc v AN=>by obtain⟨o,ho,hd⟩:=AN;exact⟨o,old c o ho,hd⟩
 have C:∀y c,((x,s.heap.objs.size+1)::BE X.env.cells scope.names).lookup y=some c->(some x=some y/\c=s.heap.objs.size+1)∨(some x≠some y/\X.env.cells.lookup y=some c):=λy c e=>(Zg (ce:=some x) e).imp id λz=>⟨z.1,R y c z.2⟩;have T:∀y∈A7,some x≠some y:=λy g z=>(List.nodup_append.mp S.nd).2.2 y g y (S.sub y z) rfl;refine⟨⟨e0.mod,S.kind,rfl,rfl,Aa _,λy z c e1 F=>?_,λy g=>?_,λy c L e=>?_,λ_=>hd,Around.frames_deeper e0.frames,.inr ⟨rfl,rfl⟩,λb E=>(by cases E),e0.bs,e0.Gn,λb o e E=>(by cases E),λb E=>(by cases E),e0.FH,e0.JP⟩,
  rfl,e0.bare,Un.kept old,⟨m,E7,λi y D e1 F e3=>?_⟩,λy c e=>?_,I.AE.fresh (Aa _),λy c e=>?_,λp W=>(by cases W),I.AE.kept old,?_⟩
 .rcases C y c e1 with⟨a1,rfl⟩|⟨_,CF⟩
  .rcases C z _ F with⟨a2,_⟩|⟨_,D3⟩
   .exact B3 (a1.symm.trans a2)
   .exact absurd (P z _ D3) (OK (EL _))
  .rcases C z c F with⟨_,rfl⟩|⟨_,D3⟩
   .exact absurd (P y _ CF) (OK (EL _))
   .exact I.ok.inj y z c CF D3
 .have L:scope.names.lookup y=some .free∨some x=some y:=g.elim (λg=>.inr (S.one _ (HY (show scope.names.lookup y=some .cell from g)) rfl)) λg=>.inl g;show ∃c,List.lookup y ((x,s.heap.objs.size+1)::BE X.env.cells scope.names)=some c
  by_cases ex:some x=some y
  .rw[<- B3 ex];exact⟨_,PH⟩
  .have z:=R8 (ce:=some x) (n:=s.heap.objs.size+1) (cl:=BE X.env.cells scope.names) ex;rw[show List.lookup y ((x,s.heap.objs.size+1)::BE X.env.cells scope.names)=_ from z];exact Option.isSome_iff_exists.mp (Mc scope.names [] (.inr (HY (L.resolve_right ex))))
 .rcases C y c e with⟨_,rfl⟩|⟨V,_⟩
  .exact EL _
  .exact absurd (ib some (eq_of_beq L).symm) V
 .have O:(Ak js Z).length=A7.length:=by unfold Ak;rw[AA,B]
  by_cases hi:i<A7.length
  .have t:A7[i]?=some y:=by
    have t:(A7++[x])[i]?=some y:=e1
    rwa [DO hi]at t
   have a:(Ak js Z)[i]?=some (some D):=by
    have a:(Ak js Z++[some v])[i]?=some (some D):=F
    rwa [DO (by rw[O];exact hi)]at a
   have G:y∈A7:=BB t;unfold Ak at a;rw[AO]at a;cases J:js[i]? with
   |none=>rw[J]at a;cases a
   |some j=>
    rw[J]at a;have Y:X.N[j]?=some y:=by
     have q:=ib (λl=>l[i]?) S.at';simp only[AO,J,t,L4]at q;exact B3 q
    have hσ:Z[j]?=some (some D):=by
     simp only[L4,ZAv]at a;cases q:Z[j]? with
     |none=>rw[q]at a;cases a
     |some w=>rw[q]at a;simp at a;rw[a]
    obtain⟨m0,yo,JC⟩:=I.loc;obtain⟨u',r,l⟩:=JC j y D Y hσ (.inr (S.cell y G));refine⟨u',r,?_⟩;rcases l with⟨k,_⟩|⟨_,c,e,z⟩
    .have k':X.env.scope.names.lookup y=some .local:=k;rcases S.cell y G with z|z <;> (rw[z]at k';cases k')
    .obtain⟨c',M⟩:=Option.isSome_iff_exists.mp (Mc (cells:=X.env.cells) scope.names [] (.inr (HY (S.free y G))));have Q:=R y c' M;rw[e]at Q;cases Q;exact .inr ⟨.inr (S.free y G),c,(R8 (ce:=some x) (T y G)).trans M,d c _ z⟩
  .have t:(A7++[x])[i]?=some y:=e1;have a:(Ak js Z++[some v])[i]?=some (some D):=F;rw[FD (by omega)]at t;rw[FD (by omega),O]at a;have z:i - A7.length=0:=by
    have:=(List.getElem?_eq_some_iff.mp t).1
    simpa using this
   rw[z]at t a;cases t;cases a;exact⟨u,U,.inr ⟨.inl hx,_,PH,Bw⟩⟩
 .rcases C y c e with⟨_,rfl⟩|⟨_,CF⟩
  .exact⟨some u,Bw⟩
  .obtain⟨v,z⟩:=I.cell y c CF;exact⟨v,d c v z⟩
 .rcases C y c e with⟨_,rfl⟩|⟨_,CF⟩
  .exact I.AE.fresh (EL _)
  .exact I.Fg y c CF
 .show(Ak js Z++[some v]).length=(A7++[x]).length;unfold Ak;simp[B]
theorem ZA9{k:Nat}{DR a:Value}{Q:VK}(S:DE X.N X.env.scope scope (some x) [x] A7 js)(hx:scope.names.lookup x=some .cell)(I:Inv X Zq Z H s)
  (e0:Hx X.prog X.w X.K X.mg X.base A X.stack s H) (b:BY k A) (l:s.heap.get? f=some (PySem.W.kla_obj "<lambda>" q params body scope (BE X.env.cells scope.names) a c' DR)) (o:H c'=some (.C2 (.IP q)))
  (co:scope.isCoroutine=false) (gen:scope.isGenerator=false) (bind:∀u,bindArgs (PySem.W.kla_fn "<lambda>" q params body scope (BE X.env.cells scope.names) a (.ref c') DR) ⟨[u],[]⟩=pure [(x,u)]) (c:RelV v u)
  (p:PE (Qd X A (A7++[x]) x (Mp q scope x (BE X.env.cells scope.names) s.heap.objs.size f (.ref c')) s H) body tb) (h:tb (Ak js Z++[some v]) H Q) :
  codeAny (model X.prog X.w) A (.call (.ref f) ⟨[u],[]⟩) (CR De X.stack X.prog X.w H s Q (λ_ _ _=>False)) s:=by
 have r:s.heap.CodeRec (.ref c') q:=by
  obtain⟨j,vs,t,e,d,n⟩:=I.AE c' _ o;exact⟨c',j,vs,t,rfl,e,d,n⟩
 refine PySem.W.kla_callFunE b.depth l rfl co gen rfl r ?_;rw[bind];refine hJ (xZ S.kind hx S.cf S.pc λh' m E7 old Bw=>⟨I.nolimit.keeps old,?_⟩);have J:=yM (t':=s.toks) (q:=q) (f:=f) (cd:=.ref c') S hx I e0 b.hd c E7 old Bw;refine PySem.W.kla_codeExpr (ki (p [] _ _ H Q J h) (λu' s' z=>?_) λe s' z=>False.elim z);obtain⟨y,H',J',g,i⟩:=z;exact⟨y,H',J'.os,J'.bare,J'.base,J'.AE,g,i⟩
end
theorem gn{h:Heap}{b:ZBz}(x:h.Ns a m)(y:h.Ns a b):m=b:=by
 obtain⟨o,es,ep,ho,hd,_,c⟩:=x;obtain⟨o',BJ,Gj,Bq,FQ,_,Ht⟩:=y;rw[ho]at Bq;cases Bq;rw[hd]at FQ;cases FQ
 funext n
 rw[<- c n,Ht n]
section
variable{prog:Program}
theorem lW{L kS:Addr}{e e1:Nat}{P:PySem.Fin->Shared->Prop}(E7:s.heap.Ns L m)(hk:s.heap.get? kS=some (seqObj "list" keys e))(r:s.heap.get? a=some (seqObj "list" #[] e1))
  (Fp:kS≠a) (l:kS≠L) (t:a≠L) (n:IntsAre keys.toList kz) (f:kz.length=vs.length) (Bf:vs.length<64)
  (h:∀h' tk out c,h'.Ns L m->(∀b o,b≠L->b≠kS->b≠a->s.heap.get? b=some o->h'.get? b=some o)->h'.get? a=some (seqObj "list" out c)->KskOut false kz vs out.toList->P (.done (.ret .none)) { s with heap:=h',toks:=tk }) :
  wpAny (model prog w) A (ksk_end a false vs.toArray e1 (.ref kS) keys) P E s:=by
 have mem:∀{b:Addr}{o:Obj},(b,o)∈(HC.ledger s.heap L kS).filter (λp=>decide (p.1≠a))↔(b≠L/\b≠kS/\s.heap.get? b=some o)/\b≠a:=λ{b o}=>by
  rw[Rf,HC.wt,vX]
 refine ksk_end_ (e:=e) (h₀:=HC.Pd s.heap) (L:=L) (m:=m) (news:=(HC.ledger s.heap L kS).filter (λp=>decide (p.1≠a))) (HC.ka E7) (λp d=>?_) Fp (λ⟨b,o⟩d=>(mem.mp d).1.2.1) (λ⟨b,o⟩d=>(mem.mp d).2) n f Bf λh' tk out c F N k=>?_
 .rcases List.mem_append.mp d with z|z
  .obtain⟨b,o⟩:=p;have q:=mem.mp z;exact⟨q.1.2.2,q.1.1,HC.Of _ _⟩
  .rcases List.mem_cons.mp z with rfl|z
   .exact⟨hk,l,HC.Of _ _⟩
   .rw[List.mem_singleton.mp z];exact⟨r,t,HC.Of _ _⟩
 .exact h h' tk out c F.ns (λb o j i g e=>(N (b,o) (B2 _ (mem.mpr ⟨⟨j,i,e⟩,g⟩))).1) (N (a,seqObj "list" out c) Aj).1 k
theorem Inv.xb{o:HO}(I:Inv X Zq Z H s)(n:H a=none)(hz:X.s₀.heap.objs.size<=a)(hL:a≠X.env.locals)(h:∀x c,X.env.cells.lookup x=some c->c≠a)(f:∀p∈X.pn++Zq,p.1≠a)(ok:Bl X.prog X.w (upd H a o) s.heap a o):Inv X Zq Z (upd H a o) s:=by
 have ne:∀b u,H b=some u->b≠a:=λb u e=>DV e n;refine I.step (h':=s.heap) (g':=s.gens) (d':=s.drawn) (t':=s.toks) (ch:=[a]) (λb d=>?_) (λb u _ _ _ e _=>e) (λb u _ _ _ e _=>⟨u.slots,e⟩) (λb u d e n=>by rw[AS (λz=>d (by simp[z]))];exact n) (λb u _ e=>⟨u,e⟩)
  (λb x e=>by rw[AS (ne b _ e)];exact e) (λb _ _ e=>by rw[AS (ne b _ e)];exact e) (λm g=>g) (λb u e=>?_) I.bare
 .have e:b=a:=by simpa using d
  subst e;exact⟨.inr hz,hL,h,f⟩
 .by_cases z:b=a
  .subst z;rw[AX]at e;cases e;exact ok
  .rw[AS z]at e;exact(I.AE b u e).Fo (λ_ _ _ e=>e) (λc e=>by rw[AS (ne c _ e)];exact e) λc _ e=>by rw[AS (ne c _ e)];exact e
theorem Inv.Pk(I:Inv X Zq Z H s)(e:s.heap.get? a=some o)(h:∀v,o.data≠.cell v):∀x c,X.env.cells.lookup x=some c->c≠a:=λx c q z=>by
 obtain⟨v,o',ho,hd⟩:=I.cell x c q;rw[z,e]at ho;cases ho;exact h _ hd
theorem Inv.qS{o':Obj}(I:Inv X ((a,o)::Zq) Z H s)(c:Heap.SameBut a s.heap h')(e:h'.get? a=some o')(hz:X.s₀.heap.objs.size<=a)(d:∀p∈X.pn++Zq,p.1≠a)(h:∀v,o'.data≠.cell v):
  Inv X ((a,o')::Zq) Z H { s with heap:=h',toks:=t' }:=by
 obtain⟨g,n,hL,f,Us⟩:=I.pin (a,o) (Bk _ Aj);exact(I.L7.turned (t':=t') (λb u i q=>(c.2 b i).trans q) n hL (.inr hz) (I.Pk g Us) d).LU e n hL f h
end
theorem AG.up{K:ZBx}{H':Hp}(h:AG K H a xs)(up:∀b o,H b=some o->H' b=some o):AG K H' a xs:=by
 rcases h with h|h
 .exact .inl (h.imp (up _ _) λ⟨o,e⟩=>⟨o,up _ _ e⟩)
 .exact .inr h
theorem _root_.PySem.Paired.qQ(r:Vals xs us)(e:us[i]?=some u):∃x,xs[i]?=some x/\RelV x u:=by
 have hi:=(List.getElem?_eq_some_iff.mp e).1;have c:=r.length;obtain⟨u',a,b⟩:=r.get (AK (show i<xs.length by omega));rw[e]at a;cases a;exact⟨_,AK (by omega),b⟩
theorem zy{P:Program}{K:ZBx}{mg p:ZBz}{CX:G4}{k:Nat}{A:Addr}{fd:FuncData}{sp:Sp}
  (KX:K.In s₁.heap) (E7:s₁.heap.Ns mainGlobals mg) (f:s₁.heap.Ns builtinsNs p) (t:∀x:Str,x ≠"__name__" -> p x=bootBuiltins x) (U:s₁.heap.NoLimit) (hg:s₁.gens=#[])
  (i:s₁.heap.get? a=some { cls:=.type "list", data:=.seq vs.toArray }) (hi:IntsAre vs ns) (hl:ns.length<=sizeLine) (hr:BY k callerA)
  (hT:s₁.heap.get? T=some (PySem.W.tabObj #[])) (hB:s₁.heap.BuiltinsAt mg T) (hC:PySem.W.CodeHd s₁.heap c T) (nT:K.lookup T=none)
  (F:∀ZB:Heap,K.In ZB->ZB.Ns mainGlobals mg->ZB.BuiltinsAt mg T->E5 P w K mg ZB CX k A fd [x] sp) (xT:∀(s:Shared)(u:Value),BindsTo s fd ⟨[u],[]⟩ [(x,u)])
  (Fc:∀H:Hp,H T=some (.C2 (.tab pos q))->AG K H a (ns.map V.int)->sp [.ref a] H (λv _=>v=.bl true) λ_ _ _=>False)
  (Vu:∀H e s',CX [] H s₁ (λ_ _ _=>False) e s'->False) :
  codeAny (model P w) callerA (.call (.ref A) ⟨[.ref a],[]⟩) (λr s'=>r=.ok (.ret (.bool true))/\OldK s₁.heap s'.heap/\s'.os=s₁.os/\AllBare s'.gens) s₁:=by
 have E:=Xr hi;have R:=hi.length;have M:a≠T:=λz=>by rw[z,hT]at i;cases i
 have g:∀H:Hp,(∀b,b≠T->H b=none∨∃o xs,H b=some (.En o (.lst xs)))->H T=some (.C2 (.tab pos q))->AG K H a (ns.map V.int)->Bx P w H s₁.heap->(∀b,H b≠none->b=a∨b=T)->(H a≠none->K.lookup a=none)->
   codeAny (model P w) callerA (.call (.ref A) ⟨[.ref a],[]⟩) (λr s'=>r=.ok (.ret (.bool true))/\OldK s₁.heap s'.heap/\s'.os=s₁.os/\AllBare s'.gens) s₁:=by
  intro H hO Xd hS AE y hK;have D:∀{b:Addr}{o:Obj},s₁.heap.get? b=some o->H b=none->(Gz s₁.heap H).get? b=some o:=λe n=>iZ e n;have Js:∀{b:Addr}{o:Obj}{es:Array DictEntry}{ep:Nat},s₁.heap.get? b=some o->o.data=.dict es ep->H b=none:=λ{b o es ep}e d=>by
   cases q:H b with
   |none=>rfl
   |some u=>
    rcases y b (by rw[q];simp)with e'|e'
    .subst e';rw[i]at e;cases e;have d':Data.seq vs.toArray _=Data.dict es ep:=d;cases d'
    .subst e';rw[hT]at e;cases e;have d':Data.fields (#[]:Array Value)=Data.dict es ep:=d;cases d'
  have l:∀{b:Addr}{m:ZBz},s₁.heap.Ns b m->(Gz s₁.heap H).Ns b m:=λ{b m}AN=>by obtain⟨o,es,ep,e,d,r⟩:=AN;exact⟨o,es,ep,D e (Js e d),d,r⟩
  have N:K.In (Gz s₁.heap H):=λb o e=>D (KX b o e) (by
   cases q:H b with
   |none=>rfl
   |some u=>
    rcases y b (by rw[q];simp)with e'|e'
    .subst e';rw[hK (by rw[q];simp)]at e;cases e
    .subst e';rw[nT]at e;cases e)
  have hM:Mod K mg (Gz s₁.heap H):=⟨N,l E7,⟨p,l f,t⟩,let ⟨mc,h1,h2⟩:=U;⟨mc,l h1,h2⟩⟩;have σ:(Gz s₁.heap H).BuiltinsAt mg T:=by
   obtain⟨B,o,b1,b2,b3,J,C,I,b7⟩:=hB;refine⟨B,o,b1,b2,b3,J,D C ?_,I,b7⟩;cases q:H B with
   |none=>rfl
   |some u=>
    rcases y B (by rw[q];simp)with e'|e'
    .rw[e',i]at C;cases C;exact absurd (show Value.type "list"=Value.type "module" from I) (by decide)
    .exact absurd e' J
  have e0:Hx P w K mg (Gz s₁.heap H) callerA [] s₁ H:=⟨rfl,hM,λb o e=>mV e,Rj (yw _ _),trivial,λb f=>absurd (show b∈([]:List Addr)from f) (by simp),AE,.of_eq hg⟩;refine xx ((F _ N (l E7) σ).run callerA [] s₁ H ⟨[.ref a],[]⟩ [.ref a] [.ref a] _ _ hr e0 (xT s₁ (.ref a)) (.cons rfl .nil) (Fc H Xd hS)) λr s' h=>?_;cases r with
  |error e=>exact(Vu H e s' h).elim
  |ok fl=>
   cases fl with
   |next=>exact False.elim h
   |brk=>exact False.elim h
   |cont=>exact False.elim h
   |ret u=>
    obtain⟨v,H',os,bare,un,L,X,qv⟩:=h;have Y:v=.bl true:=qv;subst Y;obtain rfl:u=Value.bool true:=X;have S:=un.Hu T (.C2 (.tab pos q)) Xd;obtain⟨ps,G,_⟩:=L T _ S;have keep:∀b o,b≠T->s₁.heap.get? b=some o->s'.heap.get? b=some o:=λb o j e=>by
     cases q:H b with
     |none=>exact un.keep b o e q (by intro z;exact absurd (show b∈([]:List Addr)from z) (by simp)) (by simp)
     |some u=>
      rcases hO b j with z|⟨ob,xs,z⟩
      .rw[q]at z;cases z
      .have Q:=un.IG b ob _ z;obtain⟨e1,_⟩:=AE b _ z;obtain⟨e2,_⟩:=L b _ Q;rw[e]at e1;cases e1;exact e2
    refine⟨rfl,⟨λb o e=>?_,λb o e=>?_⟩,os,bare⟩
    .by_cases j:b=T
     .subst j;rw[hT]at e;cases e;exact .inr (.inl ⟨(hC.tab hT).isCodeTable,rfl,#[],ps,rfl,by rw[G];simp⟩)
     .exact .inl (keep b o j e)
    .by_cases j:b=T
     .subst j;exact⟨_,G⟩
     .exact⟨o,keep b o j e⟩
 have O:∀H:Hp,Bl P w H s₁.heap T (.C2 (.tab pos q)):=λH=>⟨#[],hT,trivial,λcv h=>by cases h⟩;cases hk:K.lookup a with
 |some o=>
  have e:=KX a o hk;rw[i]at e;cases e;refine g (upd (λ_=>none) T (.C2 (.tab pos q))) (λb f=>.inl (AS f)) AX (.inr ⟨_,vs.toArray,_,hk,rfl,rfl,rfl,by rw[Bn,R];exact hl,by simpa using E⟩) (λb u z=>?_) (λb z=>?_) λz=>absurd (AS M) z
  .by_cases f:b=T
   .subst f;rw[AX]at z;cases z;exact O _
   .rw[AS f]at z;cases z
  .by_cases f:b=T
   .exact .inr f
   .exact absurd (AS f) z
 |none=>
  refine g (upd (upd (λ_=>none) a (.En { cls:=.type "list", data:=.seq vs.toArray } (.lst (ns.map V.int)))) T (.C2 (.tab pos q))) (λb f=>?_) AX (.inl (.inr ⟨{ cls:=.type "list", data:=.seq vs.toArray },by rw[AS M,AX]⟩)) (λb u z=>?_) (λb z=>?_) λ_=>hk
  .rw[AS f]
   by_cases h2:b=a
   .subst h2;exact .inr ⟨_,_,AX⟩
   .exact .inl (AS h2)
  .by_cases f:b=T
   .subst f;rw[AX]at z;cases z;exact O _
   .rw[AS f]at z
    by_cases h2:b=a
    .subst h2;rw[AX]at z;cases z;exact⟨i,by rw[AA];exact hl,vs,_,E,i⟩
    .rw[AS h2]at z;cases z
  .by_cases f:b=T
   .exact .inr f
   .rw[AS f]at z
    by_cases h2:b=a
    .exact .inl h2
    .exact absurd (AS h2) z
theorem rG{l:PySem.W.OpenLaw}{n k:Nat}{q:Program}{XP:(ZBz)->Heap->Prop}{YP:World->Heap->Prop}{d:DefRec}{K:Params->ZBx}{CX:World->G4}{sp:World->Sp}
  (D:l.most=some n) (Kc:n<=sizeLine) (Mo:d.params.defaults=[]) (C:BY k callerA)
  (I:∀(w:World)(h:Heap),YP w h->(K w.params).In h) (y:∀(w:World)(h:Heap),YP w h->h.get? T=some (PySem.W.tabObj #[])) (hC:∀w:World,PySem.W.codeHdIn (K w.params) c T=true) (nT:∀w:World,(K w.params).lookup T=none)
  (F:∀(w:World)(mg:ZBz)(p:Addr)(h:Heap),(K w.params).In h->h.Ns mainGlobals mg->mg d.name=some (.ref p)->
   ∃fd:FuncData,(∀(s:Shared)(u:Value),BindsTo s fd ⟨[u],[]⟩ [(x,u)])/\
    ∀ZB:Heap,(K w.params).In ZB->ZB.Ns mainGlobals mg->ZB.BuiltinsAt mg T->E5 l.prog w (K w.params) mg ZB (CX w) k p fd [x] (sp w))
  (Fc:∀(w:World)(H:Hp)(a:Addr)(ns:List Int),ns.length<=n->H T=some (.C2 (.tab pos qn))->AG (K w.params) H a (ns.map V.int)->sp w [.ref a] H (λv _=>v=.bl true) λ_ _ _=>False)
  (Vu:∀(w:World)(H:Hp)(s:Shared)(e:Value)(s':Shared),CX w [] H s (λ_ _ _=>False) e s'->False) :
  PySem.W.WalkO q loose XP YP l.row.toRowW d [] (λf vs=>PySem.call f vs):=by
 refine HC.oQ D Mo λw s₀ s₁ mg R p o Q cd L a vs ns G Y ho hd Ea NJ V4 j i hg=>?_;have t:=I w _ Y;obtain⟨fd,E,hF⟩:=F w mg p _ t G.T.g NJ;have J:s₁.heap.BuiltinsAt mg T:=by
  obtain⟨M,B,P,O,m,A,N,r⟩:=G.T.bmain;refine⟨M,B,P,O,λz=>?_,λz=>?_,m,A,N,r⟩
  .obtain⟨o,es,ep,e,hd,_⟩:=G.T.g;rw[z,e]at m;cases m;rw[hd]at r;cases r
  .rw[z,y w _ Y]at m;cases m;cases A
 exact zy t G.T.g G.T.b G.T.builtins G.T.nolimit hg V4 j (CQ i Kc) C (y w _ Y) J (ZB0 t (hC w)) (nT w) hF E (λH h1 h2=>Fc w H a ns i h1 h2) λH e s'=>Vu w H s₁ e s'
structure RN (N:List Str) (outer scope:Scope) (x:Str) (A7:List Str) (js:List Nat):Prop where
 kind:scope.kind=.function
 loc:∀y∈scope.names,y.2=.local->scope.names.lookup y.1=some .local
 HI:scope.names.lookup x=some .cell
 one:∀y∈scope.names,y.2=.cell->y.1=x
 cf:∀(n:Nat)(cl:List (Str×Addr)),cellsFrom n scope.names cl=(x,n)::cl
 pc:∀h:Heap,pushCells h scope.names=h.push { cls:=.type "cell", data:=.cell none }
 at':js.map (λj=>N[j]?)=A7.map some
 cell:∀y∈A7,outer.names.lookup y=some .cell
 free:∀y∈A7,scope.names.lookup y=some .free
 all:∀y∈scope.names,y.2=.free->outer.names.lookup y.1=some .cell
 nd:(A7++[x]).Nodup
section
variable{iter:Expr}{A7:List Str}{J:It}{fp:List Addr}{tn:Nat->Heap->Prop}
theorem RN.G(S:RN N outer scope x A7 js):DE N outer scope (some x) [x] A7 js:=
 ⟨S.kind,S.loc,λy a e=>by rw[S.one y a e],λy e=>by rw[B3 e];exact List.mem_singleton_self _,S.cf,S.pc,S.at',λy a=>.inl (S.cell y a),S.free,λy a e=>.inl (S.all y a e),S.nd⟩
end
structure PZ (N:List Str) (outer scope:Scope) (x:Str) (A7:List Str) (js:List Nat):Prop where
 kind:scope.kind=.function
 GJ:∀y∈scope.names,y.2≠.cell
 loc:∀y∈scope.names,y.2=.local->scope.names.lookup y.1=some .local
 HI:scope.names.lookup x=some .local
 at':js.map (λj=>N[j]?)=A7.map some
 cell:∀y∈A7,outer.names.lookup y=some .cell∨outer.names.lookup y=some .free
 free:∀y∈A7,scope.names.lookup y=some .free
 all:∀y∈scope.names,y.2=.free->outer.names.lookup y.1=some .cell∨outer.names.lookup y.1=some .free
 nd:(A7++[x]).Nodup
section
variable{iter:Expr}{A7:List Str}{wi:TI}
theorem PZ.G(S:PZ N outer scope x A7 js):DE N outer scope none [x] A7 js:=
 ⟨S.kind,S.loc,λy a e=>absurd e (S.GJ y a),λx e=>(by cases e),λn cl=>Wh S.GJ,λh=>T8 S.GJ,S.at',S.cell,S.free,S.all,S.nd⟩
theorem kJ(b:X.calm=true)(S:PZ X.N X.env.scope scope x A7 js)(hi:QI X (.Name x px) iter wi)
  (Du:∀fp C s H,NM (G8 X (A7++[x]) scope (BE X.env.cells scope.names) C s H fp) ifs tt) (D4:∀fp C s H,QE (G8 X (A7++[x]) scope (BE X.env.cells scope.names) C s H fp) elt te)
  (a:∀v,foldedSetIterable iter X.env v=pure v:=by intro _;rfl):QE X (.ListComp elt [⟨.Name x px,iter,ifs,0⟩] scope pos) (GV wi js tt te):=
 ⟨Sx (CW:=λJ Z H1 acc Q=>Jt J js tt te Z H1 acc Q) (UU S.G) b S.G hi.h (λ_ _ _ _=>SW S.G (.inl S.HI)) (λfp C s H=>(Du fp C s H).h) (λfp C s H=>(D4 fp C s H).h) a⟩
end
end L2
namespace Fz
open L2 Lw
section
variable{P:Program}{w:World}{K:ZBx}{mg:ZBz}{ZB:Heap}{x qual:Str}{st:Stmt}{f c:Addr}{fd:FuncData}{N ps:List Str}{k:Nat}
theorem hL{pre:Pre}(F:AR K x qual st f fd)(VI:fd.code=.ref c)(b:∀(kV a d:Value)(g:Option Addr)(Ad ct:Value)(us:List Value),us.length=ps.length->bindArgs (PySem.W.fnOf x qual (JX st) (Dy st) (AQ st) .none kV a d g Ad ct) ⟨us,[]⟩=pure (ps.zip us))(m:mg x=some (.ref f))(S:BG N ps (AQ st))(e:∀ss R,pre ss R->ss.length=ps.length)
  (l:∀{A:Around}{outer:List Env}{s:Shared}{H:Hp}{E:XK},BY k (A.deeper (envOfC qual (AQ st) s.heap.objs.size f (.ref c)))->
   ∃t,Eo (G6 De P w K mg ZB N qual (AQ st) f (.ref c) A outer s H E).GX (Dy st) t/\∀ss R,pre ss R->Ws (ss++List.replicate (N.length - ps.length) .any) t (λ_=>∃k,R=.is k/\k .A6) R):AJ P w K mg ZB x (k+1) ps (Ap pre):=by
 refine AJ.mk F (F.binds b) m ?_;obtain⟨o,n,kV,a,d,g,Ad,ct,Fq,rfl,i,Ea⟩:=F.ex;obtain rfl:Ad=.ref c:=VI;refine aW i Ea S (λvs H Q E h=>YL e h) λA outer s H vs Q E j h=>?_;obtain⟨t,q,r⟩:=l (A:=A) (outer:=outer) (s:=s) (H:=H) (E:=E) j;exact⟨t,q.h.GX,cI h e r⟩
end
end Fz
namespace L2
section
variable{X:Cx}
def cM(K:ZBx):R2:=λx y H Q=>∃a b xs ys,x=.ref a/\y=.ref b/\Ab K H a xs/\Ab K H b ys/\xs.length+ys.length<=sizeLine/\(xs=[]->Q (.ref b) H)/\(xs≠[]->ys=[]->Q (.ref a) H)/\(xs≠[]->ys≠[]->∀p,H p=none->Q (.ref p) (upd H p (.tup (xs++ys))))
theorem yD:Aw X (binaryOp .Add) (cM X.K):=by
 intro Zq s Z H x y v u Q I g f h;obtain⟨a,b,xs,ys,rfl,rfl,k,j,hz,r,o,m⟩:=h
 by_cases hx:xs=[]
 .have q:=r hx;subst hx;cases g;cases f;obtain⟨A0,l,p1,_⟩:=I.tuple k;obtain⟨BW,z,p2,_⟩:=I.tuple j;obtain⟨⟨cls,dd,data,sl⟩,ho,i,n,hd⟩:=id p1;obtain⟨⟨A,Qi,d,RO⟩,DL,KH,t,c⟩:=id p2;simp only at i hd KH c;subst i hd KH c;have e:A0=[]:=l.Px.mpr rfl;exact concat_meets ⟨_,ho,rfl⟩ ⟨_,DL,rfl⟩ ZB5 seq_tuple_add gj gi (gh _ _)
   (tuple_addW0 a b A0.toArray BW.toArray n t dd Qi sl RO (by simp[e])) ⟨ho,DL,⟨.ref b,H,I,rfl,q⟩⟩
 .exact z8 Zq s Z H _ _ _ _ Q I g f ⟨a,b,xs,ys,rfl,rfl,k,j,hx,hz,λe=>o hx e,λe p w=>m hx e p w⟩
end
end L2
namespace Fz
open L2 Lw
theorem AF.append'{F:Hp}:∀{vs ws:List V}{xs ys:List PV},AF F vs xs->AF F ws ys->AF F (vs++ws) (xs++ys):=by
 intro vs ws xs ys r h
 induction xs generalizing vs with
 |nil=>cases r.D0;exact h
 |cons p ps c=>obtain⟨v,vs,rfl,a,b⟩:=r.inv;exact .cons a (c b)
section
variable[Xw]
variable{E:Ent0}{ss:List Slot}{Z:L2.St}{F H F' H':Hp}{K:ZBx}{i:Nat}{t:OV}{ta tb tc te:TE}{nx:List Slot->Prop}{R:Ae}
theorem mJ{k:PV->Prop}(h:Wp ss ta λp=>∃xs,p=.tup xs/\Wp ss tb λq=>∃ys,q=.tup ys/\xs.length+ys.length<=100000/\k (.tup (xs++ys))):Wp ss (B8 (cM K) ta tb) k:=⟨λE Z F H Q S q=>
 h.go E Z F H _ S λv p F1 H1 d j⟨xs,e,h2⟩=>h2.go E Z F1 H1 _ d.st λv2 p2 F2 H2 m2 i⟨ys,n,hz,kk⟩=>by
  subst e;subst n;cases j with
  |@tup a vs _ m s1=>
   cases i with
   |@tup b ws _ g s2=>
    have g1:=m2.ff _ _ m;have t1:=s1.mono m2.ff;have l1:=t1.length;have l2:=s2.length;refine⟨a,b,vs,ws,rfl,rfl,Ab.of (m2.st.fh _ _ g1),Ab.of (m2.st.fh _ _ g),small (by omega),λz=>?_,λ_ z=>?_,λ_ _ c l=>?_⟩
    .have e:xs=[]:=by rw[z]at l1;exact List.length_eq_zero_iff.mp l1.symm
     rw[e,gQ]at kk;exact q (.ref b) _ F2 H2 (d.trans m2) (.tup g s2) kk
    .have e:ys=[]:=by rw[z]at l2;exact List.length_eq_zero_iff.mp l2.symm
     rw[e,GB]at kk;exact q (.ref a) _ F2 H2 (d.trans m2) (.tup g1 t1) kk
    .have f:=m2.st.alloc l (.tup (vs++ws));exact q (.ref c) _ _ _ (d.trans (m2.trans f)) (.tup AX ((AF.append' t1 s2).mono f.ff)) kk⟩
end
end Fz
namespace L2
section
variable{prog:Program}{w:World}{A:Around}{s:Shared}{R:Result->Shared->Prop}
variable{X:Cx}
variable{i o:Expr}{ty td:TE}{pos:Pos}
theorem bj(a:X.A.units+1<cLine)(hi:QE X i ty)(ho:QE X o td)(b:behindInMarks .NotIn o=false:=by with_unfolding_all rfl):QT X (.Compare i [.NotIn] [o] pos) (tB (QB ty td)):=⟨sW (lX a hi.h ho.h) b⟩
end
end L2
namespace Fz
open L2 Lw
theorem Yc{F H:Hp}:∀{vs:List V}{xs:List PV},Au F H vs (xs.map .fz)->AF F vs xs
 |_,[],h=>by cases h;exact .nil
 |_,x::xs,h=>by
  obtain⟨_,_,rfl,a,b⟩:=h.inv;cases a with|fz r=>exact .cons r (Yc b)
end Fz
namespace Fz
open L2 Lw
variable{ss:List Slot}{ta tb te ti:TE}{d i:Nat}{F F1:Hp}
section
variable[Xw]
variable{E:Ent0}{Z:L2.St}{H F' H':Hp}{K:ZBx}{ks:List (List Bool)}{tc:TE}{R:Ae}
variable{js:List Nat}
theorem vU{wi:TI}{tt:TT}{k:List PV->Prop}
  (h:Wi ss wi λxs=>xs.length<=100000/\(∀x∈xs,Wt (Bp js ss++[.is x]) tt λ_=>True)/\(∀x∈xs,Wp (Bp js ss++[.is x]) te λp=>p=x)/\∀ys:List PV,ys.Sublist xs->k ys)
  (nd:js.Nodup:=by decide):Wn ss (GV wi js tt te) k:=⟨λE Z F H Q S q=>
 h.go E Z F H _ S λJ xs F1 H1 c u⟨hz,P,R,kk⟩acc B6=>by
  have I:C7 ss Z acc:=c.st.GO B6;have J7:=c.st.DD B6;have X:∀(i:Nat)s,ss[i]?=some s->¬ B5 s Z[i]? acc:=λi s hi=>c.st.Kk hi B6;refine⟨λi m H2=>m=xs.length - i/\i<=xs.length/\∃F2 vs ys,Mv E ss Z F1 H1 F2 H2/\F2 acc=none/\H2 acc=some (.lst vs)/\AF F2 vs ys/\ys.Sublist (xs.take i),⟨_,rfl,Bo _,F1,[],[],c.st.make B6 _,c.st.Bi B6,AX,.nil,ZAj _⟩,?_⟩;rintro i m H2⟨rfl,hi,F2,vs,ys,m2,C,l,j,Jm⟩
  by_cases f:i<xs.length
  .refine .inr ⟨u.go ss Z F2 H2 i m2.ff m2.st f,λx H3 y=>?_⟩;obtain⟨p,F3,z,v,A⟩:=u.Dc ss Z F2 H2 i x H3 m2.ff m2.st f y;have M:p∈xs:=BB z;have L:(xs.take (i+1))=xs.take i++[p]:=by
    have U:xs[i]=p:=by rw[AK f]at z;exact B3 z
    rw[Jf f,U]
   have G:∀{F4:Hp},(∀a o,F4 a=some o->F2 a=some o∨H2 a=none)->F4 acc=none:=λ{F4}n=>by
    cases e:F4 acc with
    |none=>rfl
    |some o=>
     rcases n acc o e with w|w
     .rw[C]at w;cases w
     .rw[l]at w;cases w
   have W:=v.st.A7 (js:=js) nd (.one A);refine(P p M).go E _ F3 H3 _ W λb F4 H4 O hb=>?_;have D:=O.Og (ps:=[p]) (vs:=[x]) v.st;have d:=v.trans D;have g:vs.length<=99999:=by
    have:=Jm.length_le;rw[GC]at this;rw[j.length];omega
   show if b=true then _ else _
   cases b with
   |true=>
    rw[i5 rfl];have V:=d.st.A7 (js:=js) nd (.one (A.mono D.ff));refine(R p M).go E _ F4 H4 _ V λw B F5 H5 N K9 T=>?_;subst T;have Y:=N.Og (ps:=[B]) (vs:=[x]) d.st;have t:=d.trans Y;have σ:=t.hh acc _ I l;have K:=G t.nn;refine⟨vs,σ,Iu g,xs.length - (i+1),by omega,rfl,f,F5,vs++[w],ys++[B],?_,K,AX,(j.mono t.ff).append (.one K9),by rw[L];exact Jm.append (ZAV _)⟩;have r:=m2.trans t;refine⟨r.st.La K (.inl J7) X,r.ff,λa o n e=>?_,r.nn⟩;rw[AS (DV e B6)];exact r.hh a o n e
   |false=>
    rw[i3 (by decide)];refine⟨xs.length - (i+1),by omega,rfl,f,F4,vs,ys,m2.trans d,G d.nn,d.hh acc _ I l,j.mono d.ff,by rw[L];exact Jm.trans (ZAo _ _)⟩
  .have e:i=xs.length:=by omega
   subst e;rw[Eg]at Jm;exact .inl ⟨u.stop ss Z F2 H2 m2.ff m2.st,q acc vs _ F2 H2 (c.trans m2) C (c.none B6) l j (kk ys Jm)⟩⟩
variable{nx:List Slot->Prop}{k:PV->Prop}{xs:List PV}
theorem yu(h:Wq ss ta λtp xs=>∃ns:List Str,xs=ns.map PV.str/\Wp ss tb λp=>∃(r:Str)(g:Nat)(cs:List Str),p=LZ r g cs/\cs.length<64/\FU ns r g cs=true/\k .A6):
  Wp ss (Dz (Vv K) [] E0 (Ag ta (Ag tb BK))) k:=⟨λE Z F H Q S q=>
 h.go E Z F H _ S λv tp xs F1 H1 a sv⟨ns,ex,h2⟩=>h2.go E Z F1 H1 _ a.st λv2 p2 F2 H2 m2 d⟨r,g,cs,ep,hz,D5,kk⟩=>by
  subst ex;subst ep;obtain⟨l,vs,f,b,c⟩:=(sv.mv m2).seq m2.st;subst f;rw[c.strs]at b;obtain⟨tl,i,rfl,e⟩:=uk d;refine⟨l,tp,ns,tl,r,g,cs,rfl,DJ.sq b,(e.same m2.st.fh).h.at,hz,D5,λH3 s=>?_⟩;exact q _ _ F2 H3 (a.trans (m2.trans (m2.st.grow s))) .A6 kk⟩
theorem U1{t:TT}{k k':Bool->Prop}(h:Wt ss t k')(hk:∀b,k' b->k b):Wt ss t k:=⟨λE Z F H Q S q=>h.go E Z F H Q S λb F' H' m a=>q b F' H' m (hk b a)⟩
end
structure Lp where
 r:Str
 g:Nat
 cs:List Str
def Lp.P(l:Lp):PV:=LZ l.r l.g l.cs
def Lp.Good(ns:List Str)(l:Lp):Prop:=C4 ns l.r l.g l.cs
structure Al where
 lp:Option Lp
 tl:List PV
theorem ZS{k:Nat}(h:k<3):∃r:Str,r∈G2/\L2.BR [PV.str "none",.str "ahead",.str "all"] (k:Int)=some (.str r):=by
 have:k=0∨k=1∨k=2:=by omega
 rcases this with rfl|rfl|rfl
 .exact⟨_,by decide,rfl⟩
 .exact⟨_,by decide,rfl⟩
 .exact⟨_,by decide,rfl⟩
theorem WO(K:ZBx)(Ls:List Lp):dat K (d+3) (.lst (Ls.map Lp.P)):=λp b=>by
 obtain⟨l,_,rfl⟩:=List.mem_map.mp b;intro x hx;simp only[DP,Aq,uB]at hx;rcases hx with rfl|rfl|rfl
 .trivial
 .trivial
 .intro y a;obtain⟨z,_,rfl⟩:=List.mem_map.mp a;cases d <;> trivial
noncomputable def Oz:PV->Bool
 | .A6=>true
 |_=>false
theorem eY{v:V}{p:PV}(r:Rep F v p):decide (v=.A6)=Oz p:=by
 cases r <;> rfl
section
variable[Xw]
variable{k:PV->Prop}
theorem Zs(h:Wp ss ta λp=>Wp ss tb λq=>q=.A6/\k (.bl (Oz p))):Wp ss (B8 (λx y H Q=>y=.A6/\Q (.bl (decide (x=.A6))) H) ta tb) k:=⟨λE Z F H Q S q=>
 h.go E Z F H _ S λv p F1 H1 a c h2=>h2.go E Z F1 H1 _ a.st λv2 p2 F2 H2 m2 b AN=>by
  obtain⟨e,kk⟩:=AN;subst e;cases b.inv;refine⟨rfl,?_⟩;rw[eY c];exact q _ _ F2 H2 (a.trans m2) (.bl _) kk⟩
theorem az(h:Wp ss ta λp=>Wp ss tb λq=>q=.A6/\k (.bl (!Oz p))):Wp ss (B8 (λx y H Q=>y=.A6/\Q (.bl (!decide (x=.A6))) H) ta tb) k:=⟨λE Z F H Q S q=>
 h.go E Z F H _ S λv p F1 H1 a c h2=>h2.go E Z F1 H1 _ a.st λv2 p2 F2 H2 m2 b AN=>by
  obtain⟨e,kk⟩:=AN;subst e;cases b.inv;refine⟨rfl,?_⟩;rw[eY c];exact q _ _ F2 H2 (a.trans m2) (.bl _) kk⟩
end
def di:Pre:=λl R=>∃(tp:Bool)(ns:List Str)(a:Bool)(Ls:List Lp),l=[.sq tp (ns.map .str),.sq a (Ls.map Lp.P)]/\ns.length<=40/\Ls.length<=12/\(∀l∈Ls,l.Good ns)/\R=.is λp=>p=.A6
end Fz
namespace L2
variable{x:Str}{r:List V->Hp->VK->Prop}{op:CmpOp}
section
variable{X:Cx}{a b e o:Expr}{es:List Expr}{ta tb te:TE}{t:TA}{pos p:Pos}
theorem An{id:String}(b:Br X (.builtin id) r)(a:X.mg x=none)(c:QA X (e::es) t)(hg:Gl X x:=by rfl)(hv:bootBuiltins x=some (.builtin id):=by decide +kernel)(hn:x ≠"__name__" := by decide)(DS:(x == ("__debug__":Str))=false:=by decide)
  (he:El X e es:=by rfl) (BI:BEq X pos es:=by rfl):QE X (.Call (.Name x p) (e::es) [] pos) (CO r t):=sC b hg a hv c hn DS he BI
theorem Dm{T:String}(b:Br X (.type T) r)(a:X.mg x=none)(c:QA X (e::es) t)(hg:Gl X x:=by rfl)(hv:bootBuiltins x=some (.type T):=by decide +kernel)(hn:x ≠"__name__" := by decide)(DS:(x == ("__debug__":Str))=false:=by decide)
  (he:El X e es:=by rfl) (BI:BEq X pos es:=by rfl):QE X (.Call (.Name x p) (e::es) [] pos) (CO r t):=lI b hg a hv c hn DS he BI
theorem AZ{r:R2}(d:Dv X r)(f:QE X a ta)(e:QE X b tb)(c:SI b:=by exact λ_ _=>rfl):QE X (.Subscript a b pos) (B8 r ta tb):=wM d f e c
theorem Ah{j k:Nat}{ps:List Str}{sp:Sp}(h:AJ X.prog X.w X.K X.mg X.base x k ps sp)(a:BY j X.A)(b:QA X (e::es) t)(hk:k<=j:=by decide)(hg:Gl X x:=by rfl)(DS:(x == ("__debug__":Str))=false:=by decide)
  (he:El X e es:=by rfl) (BI:BEq X pos es:=by rfl):QE X (.Call (.Name x p) (e::es) [] pos) (Dz sp [] E0 t):=wA h a hk b hg DS he BI
theorem Ki{r:R2}(ho:Aw X (compareOp op) r)(e:QE X a ta)(d:QE X b tb)(c:behindInMarks op b=false:=by first|exact br _|with_unfolding_all rfl):QE X (.Compare a [op] [b] pos) (B8 r ta tb):=lD ho e d c
theorem Ba{r:R2}(ho:Aw X (compareOp op) r)(e:QE X a ta)(d:QE X b tb)(c:behindInMarks op b=false:=by first|exact br _|with_unfolding_all rfl):QT X (.Compare a [op] [b] pos) (KC (B8 r ta tb)):=rP ho e d c
theorem BD(i:Nat){pos':Pos}(b:X.N.Nodup)(a:QE X e te)(hi:X.N[i]?=some x:=by rfl)(hx:Loc X.env.scope x:=by first|exact Or.inl rfl|exact Or.inr rfl)(hs:swapsWith e (some (.Name x pos')) pos.line X.env=pure false:=by rfl)(hf:X.fn x=true∨X.env.scope.names.lookup x=some .local:=by first|exact .inl rfl|exact .inr rfl|assumption):
  QS X (.Assign [.Name x pos'] e pos) (EY te (Cf i)):=wm b hi hx a hs hf
theorem CY(i:Nat)(a:X.N.Nodup)(hi:X.N[i]?=some x:=by rfl)(hx:Loc X.env.scope x:=by first|exact Or.inl rfl|exact Or.inr rfl)(hf:X.fn x=true∨X.env.scope.names.lookup x=some .local:=by first|exact .inl rfl|exact .inr rfl|assumption):QG X (.Name x pos) (Cf i):=u6 a hi hx hf
end
end L2
namespace Fz
open L2 Lw
variable{ns:List Str}
noncomputable def Kl:Str:="line_of.<locals>.<lambda>"
def Cm(s:Stmt):Pos:=match Dy s with
 | [.Return (some (.Call _ _ [⟨_,.Lambda _ _ _ p,_⟩] _)) _]=>p
 |_=>⟨0,0,0,0⟩
def G9(Ls:List Lp)(ch:List Nat)(x:Str):Int:=((ch.filter λn=>match Ls[n]? with|some l=>decide (x∈l.cs)|none=>false).length:Nat)
noncomputable def Ju:PV->Str
 | .str x=>x
 |_ => ""
theorem uV{ys:List PV}(p:ys.Perm (ns.map .str)):∃ms:List Str,ys=ms.map .str/\ms.Perm ns:=by
 refine⟨ys.map Ju,?_,?_⟩
 .rw[Ce];refine(XH _).symm.trans (MO λy a=>?_);obtain⟨x,_,rfl⟩:=List.mem_map.mp (p.mem_iff.mp a);rfl
 .have q:=p.map Ju;rw[Ce]at q;exact q.trans (by rw[show Ju ∘ PV.str=id from rfl,XH])
def ZN(Ls:List Lp)(ch:List Nat):PV->Int
 | .str x=>G9 Ls ch x
 |_=>0
end Fz
set_option maxHeartbeats 400000
namespace L2
variable{ep i j mask n:Nat}{owner:Array (Option Nat)}{xs:List (Option Nat)}{α:Type}{prog:Program}{w:World}{A:Around}{E:Value->Shared->Prop}{s:Shared}{a r:Addr}{f:Str->Bool}{Q:Bool->Shared->Prop}{so:Obj}
noncomputable def lp(mask:Nat)(p:Nat×Nat):Nat×Nat:=SetTable.leap mask p.1 p.2
def DZ(mask:Nat):Nat->Nat×Nat->Nat×Nat
 | 0,p=>p
 |t+1,p=>DZ mask t (lp mask p)
theorem PD(mask a b:Nat)(p:Nat×Nat):DZ mask (a+b) p=DZ mask b (DZ mask a p):=by
 induction a generalizing p with
 |zero=>rw[Rm];rfl
 |succ a c=>rw[show a+1+b=(a+b)+1 by omega];exact c _
theorem SM(mask t:Nat)(p:Nat×Nat):(DZ mask t p).2=p.2 / 32 ^ t:=by
 induction t generalizing p with
 |zero=>simp[DZ]
 |succ t a=>
  show(DZ mask t (lp mask p)).2=_;rw[a];show p.2 / 32 / 32 ^ t=_;rw[Nat.div_div_eq_div_mul,Nat.pow_succ,Nat.mul_comm]
theorem xH(t:Nat){p:Nat×Nat}(h:p.1<=mask):(DZ mask t p).1<=mask:=by
 induction t generalizing p with
 |zero=>exact h
 |succ t a=>exact a (OJ (XT _ (gb _)))
theorem xB(fuel i p:Nat)(h:SetTable.layClean.free mask owner fuel i p=none):∀t<fuel,(owner.getD (DZ mask t (i,p)).1 (some 0)).isNone=false:=by
 induction fuel generalizing i p with
 |zero=>intro t c;omega
 |succ fuel b=>
  intro t c;unfold SetTable.layClean.free at h;cases a:(List.range (SetTable.runEnd mask i+1 - i)).find? λk=>(owner.getD (i+k) (some 0)).isNone with
  |some k=>rw[a]at h;cases h
  |none=>
   rw[a]at h;cases t with
   |zero=>
    have q:=List.find?_eq_none.mp a 0 (by rw[Rg];unfold SetTable.runEnd;split <;> omega)
    exact Bool.eq_false_iff.mpr (by simpa[DZ]using q)
   |succ t=>exact b _ _ h t (by omega)
def good(mask:Nat):Bool:=(DZ mask (mask+1) (0,0)).1 == 0 && (List.range (mask+1)).all λj=>(List.range (mask+1)).any λt=>(DZ mask t (0,0)).1 == j
theorem TN:[7,15,31,63,127].all good=true:=by decide +kernel
theorem hV(hg:good mask=true)(hi:i<=mask)(c:j<=mask):∃t,t<=mask/\(DZ mask t (i,0)).1=j:=by
 unfold good at hg;rw[Cq,ZA3,HU]at hg;obtain⟨g,h1⟩:=hg;have at':∀j,j<=mask->∃t,t<=mask/\(DZ mask t (0,0))=(j,0):=λj c=>by
  have q:=h1 j (List.mem_range.mpr (by omega));rw[L0]at q;obtain⟨t,f,e⟩:=q;rw[Rg]at f;rw[ZA3]at e;exact⟨t,by omega,Prod.ext e (by rw[SM];simp)⟩
 obtain⟨a,k,ea⟩:=at' i hi;obtain⟨b,h,d⟩:=at' j c
 by_cases l:a<=b
 .refine⟨b - a,by omega,?_⟩;rw[<- ea,<- PD,show a+(b - a)=b by omega,d]
 .refine⟨b+(mask+1) - a,by omega,?_⟩;have e0:DZ mask (mask+1) (0,0)=(0,0):=Prod.ext g (by rw[SM];simp);rw[<- ea,<- PD,show a+(b+(mask+1) - a)=(mask+1)+b by omega,PD,e0,d]
theorem mY(h:Int):SetTable.bits h<2 ^ 64:=by
 unfold SetTable.bits;have h1:=Jd h (show(2 ^ 64:Int)≠0 by decide);have h2:=Jc h (show(0:Int)<2 ^ 64 by decide);omega
theorem rl(hg:good mask=true){p:Nat}(hi:i<=mask)(b:p<2 ^ 64)(d:j<=mask)(c:owner.getD j (some 0)=none):∃k,SetTable.layClean.free mask owner (SetTable.turns mask) i p=some k:=by
 cases h:SetTable.layClean.free mask owner (SetTable.turns mask) i p with
 |some k=>exact⟨k,rfl⟩
 |none=>
  have a:DZ mask 13 (i,p)=((DZ mask 13 (i,p)).1,0):=Prod.ext rfl (by
   rw[SM];exact Nat.div_eq_of_lt (CG b (by decide)))
  obtain⟨t,f,e⟩:=hV hg (xH 13 (p:=(i,p)) hi) d;have q:=xB _ _ _ h (13+t) (by unfold SetTable.turns;omega);rw[PD,a,e,c]at q;cases q
theorem zI(fuel i p k:Nat)(h:SetTable.layClean.free mask owner fuel i p=some k):owner.getD k (some 0)=none:=by
 induction fuel generalizing i p with
 |zero=>cases h
 |succ fuel b=>
  unfold SetTable.layClean.free at h;cases a:(List.range (SetTable.runEnd mask i+1 - i)).find? λk=>(owner.getD (i+k) (some 0)).isNone with
  |some k'=>
   rw[a]at h;cases h;have q:=List.find?_some a
   simpa using q
  |none=>rw[a]at h;exact b _ _ h
theorem tQ{v:Nat}(h:xs[j]?=some none):((xs.set j (some v)).filterMap id).Perm (v::xs.filterMap id):=by
 induction xs generalizing j with
 |nil=>cases h
 |cons x xs a=>
  cases j with
  |zero=>
   cases h;exact HS _
  |succ j=>
   have q:=a (j:=j) (by simpa using h)
   cases x with
   |none=>exact q
   |some y=>exact(q.cons y).trans (List.Perm.swap _ _ _)
theorem uF(h:(xs.filterMap id).length<xs.length):∃j:Nat,xs[j]?=some none:=by
 induction xs with
 |nil=>simp at h
 |cons x xs a=>
  cases x with
  |none=>exact⟨0,rfl⟩
  |some y=>
   obtain⟨j,b⟩:=a (by simpa using h)
   exact⟨j+1,by simpa using b⟩
theorem sP(hg:good mask=true)(b:Array Int)(hz:b.size<=mask):∃owner,SetTable.layClean mask b=some owner/\owner.size=mask+1/\(owner.toList.filterMap id).Perm (List.range b.size):=by
 have key:∀(l:List Int)(owner:Array (Option Nat))(k:Nat),owner.size=mask+1->(owner.toList.filterMap id).Perm (List.range k)->k+l.length<=mask->
   ∃V0,l.foldl (λacc h=>do
    let (owner,k) <- acc
    let j <- SetTable.layClean.free mask owner (SetTable.turns mask) (SetTable.bits h % (mask+1)) (SetTable.bits h)
    pure (owner.setIfInBounds j (some k),k+1)) (some (owner,k))=some (V0,k+l.length)/\V0.size=mask+1/\(V0.toList.filterMap id).Perm (List.range (k+l.length)):=by
  intro l
  induction l with
  |nil=>intro owner k h1 h2 _;exact⟨owner,rfl,h1,h2⟩
  |cons h l f=>
   intro owner k h1 h2 r;rw[BA]at r;obtain⟨j,m⟩:=uF (xs:=owner.toList) (by rw[h2.length_eq,D2,Df];omega);have q:j<owner.size:=by have:=(List.getElem?_eq_some_iff.mp m).1;simpa using this
   have g:owner.getD j (some 0)=none:=by
    rw[Kx]at m;rw[OF,m];rfl
   obtain⟨c,o⟩:=rl (owner:=owner) hg (i:=SetTable.bits h % (mask+1)) (p:=SetTable.bits h) (OJ (XT _ (gb _))) (mY h) (show j<=mask by omega) g;have a:=zI _ _ _ _ o;have t:owner.toList[c]?=some none:=by
    rw[Kx];rw[OF]at a;cases e:owner[c]? with
    |none=>rw[e]at a;cases a
    |some y=>rw[e]at a;exact ib some a
   obtain⟨o',s,s',d⟩:=f (owner.setIfInBounds c (some k)) (k+1) (by simpa using h1) (by
    rw[Array.toList_setIfInBounds];refine(tQ t).trans ?_;rw[List.range_succ];exact(h2.cons k).trans (List.perm_append_singleton k _).symm) (by omega)
   refine⟨o',?_,s',by rw[BA,show k+(l.length+1)=k+1+l.length by omega];exact d⟩;rw[RW,BA,show k+(l.length+1)=k+1+l.length by omega,<- s]
   congr 1
   show(some (owner,k)).bind _=_;simp only[Option.bind_some,o];rfl
 obtain⟨o',e,s',d⟩:=key b.toList (Array.replicate (mask+1) none) 0 (by simp) (by
  rw[Array.toList_replicate];have:∀n,(List.replicate n (none:Option Nat)).filterMap id=[]:=λn=>by induction n with
   |zero=>rfl
   |succ n f=>rw[ZAm];exact f
  rw[this];exact HS _) (by simpa using hz)
 refine⟨o',?_,s',by simpa using d⟩
 unfold SetTable.layClean;rw[<- Array.foldl_toList,e];rfl
theorem UX(hg:good mask=true)(d mv:Nat)(ld pl:Bool)(b:Array Int)(hz:b.size<=mask):∃t a,SetTable.laid mask d mv ld pl b=some (t,a)/\t.led=ld/\t.plain=pl/\t.mask=mask/\t.dummies=#[]/\t.place.size=b.size/\a.toList.Perm (List.range b.size):=by
 obtain⟨owner,e,s,p⟩:=sP hg b hz;have c:((List.range (mask+1)).filterMap λj=>(owner.getD j none).map λx=>(j,x)).map (·.2)=owner.toList.filterMap id:=by
  rw[List.map_filterMap];have f:owner.toList=(List.range (mask+1)).map λj=>owner.getD j none:=by
   refine RV (by simp[s]) λn h1 h2=>?_;simp at h1;simp[OF,h1]
  rw[f,List.filterMap_map]
  congr 1
  funext j
  show Option.map _ (Option.map _ (owner.getD j none))=owner.getD j none;cases owner.getD j none <;> rfl
 refine⟨_,_,by unfold SetTable.laid;rw[e];rfl,rfl,rfl,rfl,rfl,?_,?_⟩
 .have q:=ib List.length c;rw[AA]at q;rw[Bn,AA];exact q.trans (by rw[p.length_eq,D2])
 .show(List.map _ _).Perm _;rw[c];exact p
theorem JL[DecidableEq α]{l:List α}:∀{m:List α},l.Nodup->(∀k∈l,k∈m)->l.length<=m.length:=by
 induction l with
 |nil=>intro m _ _;exact Bo _
 |cons x r b=>
  intro m c a;obtain⟨h1,h2⟩:=List.nodup_cons.mp c;have hx:=a x Aj;have:=b (m:=m.erase x) h2 λk hk=>(Rc (λe:k=x=>h1 (e▸hk))).mpr (a k (B2 _ hk));rw[MN hx]at this;have:=XG hx;rw[BA];omega
theorem qy[DecidableEq α]{ds A B:List α}{k:α}(nd:ds.Nodup)(a:∀x∈ds,x∈A++k::B)(hz:(A++k::B).length<=ds.length):k∉A++B:=by
 intro hk;have q:=JL (m:=A++B) nd λx hx=>by
  rcases List.mem_append.mp (a x hx)with h|h
  .exact List.mem_append.mpr (.inl h)
  .rcases List.mem_cons.mp h with rfl|h
   .exact hk
   .exact List.mem_append.mpr (.inr h)
 simp only[BX,BA]at hz q;omega
theorem AW.typeIs(h:AW prog w s.heap a f n):s.TypeIs (.ref a) "set" := by
 obtain⟨o,_,_,_,ho,b,_⟩:=h;exact⟨o,ho,b.1⟩
theorem d7(l:List Addr)(d:∀a∈l,∃f n,AW prog w s.heap a f n)(h:Q true s):wpAny (model prog w) A (setsQuiet l) Q E s:=by
 unfold setsQuiet;refine dP ?_;refine ZAH _ (λrest r s'=>s'=s/\r=(none,())/\∀a∈rest,∃f n,AW prog w s.heap a f n) _ ?_ ?_ _ _ ⟨rfl,rfl,d⟩
 .rintro a rest r s'⟨rfl,rfl,c⟩;obtain⟨f,n,o,es,ep,t,ho,i,hd,BS,BH,m,g,j,CB,BI⟩:=c a Aj;refine dP (p5 ho hd g ?_);refine dP (gU _ (λrest r s2=>s2=s'/\r=(none,())/\∀e∈rest,∃k,(PySem.strKind prog w).is k e.2=true) _ ?_ ?_ _ _ ⟨rfl,rfl,BS.keys⟩)
  .rintro⟨hh,x⟩ZBu r s2⟨rfl,rfl,QX⟩;obtain⟨k,hk⟩:=QX _ Aj;obtain⟨tk,rfl⟩:=Ib hk;exact hJ ⟨rfl,rfl,λe b=>QX e (B2 _ b)⟩
  .rintro r s2⟨rfl,rfl,_⟩;exact hJ ⟨rfl,rfl,λe b=>c e (B2 _ b)⟩
 .rintro r s'⟨rfl,rfl,_⟩;exact hJ h
noncomputable def kv:Value->Str
 | .str k _=>k
 |_=>default
theorem Lg{es:List (Int×Value)}(BS:ElemsOf (PySem.strKind prog w) es)(k:Str):(∃e∈es,(PySem.strKind prog w).is k e.2=true)↔k∈es.map (kv ·.2):=by
 rw[List.mem_map];constructor
 .rintro⟨e,a,hk⟩;obtain⟨t,b⟩:=Ib hk;exact⟨e,a,by rw[b];rfl⟩
 .rintro⟨e,a,rfl⟩;obtain⟨⟨k,hk,_⟩,_⟩:=BS e a;obtain⟨t,b⟩:=Ib hk;refine⟨e,a,?_⟩;rw[b];exact XX prog w _ t
theorem AW.cut{ds:List Str}{k:Str}{tk:Tok}(nd:ds.Nodup)(H:AW prog w s.heap a (λk=>decide (k∈ds)) ds.length)
  (I:k∉ds->Q false s)
  (h1:k∈ds->∀h',Heap.SameBut a s.heap h'->AW prog w h' a (λk'=>decide (k'∈ds.erase k)) (ds.erase k).length->Q true { s with heap:=h' }) :
  wpAny (model prog w) A (setDiscardHashed a (.str k tk) ((PySem.strKind prog w).hash k)) Q E s:=by
 obtain⟨o,es,ep,t,ho,i,hd,BS,BH,G,b,q,CB,BI⟩:=H;have L:(PySem.strKind prog w).is k (.str k tk)=true:=XX prog w k tk;have M:(Value.str k tk).scannable=true:=rfl;have d:∀k,k∈ds↔k∈es.toList.map (kv ·.2):=λk=>by rw[<- Lg BS,<- BH k,iP]
 unfold setDiscardHashed setFind setFindIn;refine dP (dP (kC ho hd b ?_));dsimp only;rw[byScan_of M G BS];simp only[↓reduceIte];refine dP (vb ?_);refine dP (wpAny_setScan_of L ho hd b BS ?_);cases m:List.findIdx? (λe=>(PySem.strKind prog w).is k e.2) es.toList with
 |none=>
  dsimp only;refine hJ ?_;dsimp only;refine hJ (I λhk=>?_);obtain⟨e,l,v⟩:=(Lg BS k).mpr ((d k).mp hk);have:=List.findIdx?_eq_none_iff.mp m e l;rw[v]at this;exact Bool.noConfusion this
 |some j=>
  dsimp only;refine hJ ?_;dsimp only;obtain⟨g,PK,_⟩:=List.findIdx?_eq_some_iff_getElem.mp m;have hk:k∈ds:=(d k).mpr ((Lg BS k).mp ⟨_,Fi g,PK⟩);refine dP (kC ho hd b ?_);dsimp only;have F:j<es.size:=by simpa using g
  rw[Rm];have el:(SetTable.eraseAt es j).toList=es.toList.take j++es.toList.drop (j+1):=by
   unfold SetTable.eraseAt;rw[gF,ZAK,ZAK];simp;exact XN (by simp)
  have J:(SetTable.eraseAt es j).size=es.size - 1:=by
   rw[<- Df,el];simp;omega
  have sp:es.toList=es.toList.take j++es.toList[j]::es.toList.drop (j+1):=by
   rw[<- RU g,XM]
  have C:kv es.toList[j].2=k:=by
   obtain⟨t,K⟩:=Ib PK;rw[K];rfl
  have f:es.toList.map (kv ·.2)=(es.toList.take j).map (kv ·.2)++k::(es.toList.drop (j+1)).map (kv ·.2):=by
   conv=>lhs;rw[sp]
   rw[EK,E9,C]
  have nk:=qy (k:=k) (A:=(es.toList.take j).map (kv ·.2)) (B:=(es.toList.drop (j+1)).map (kv ·.2)) nd (λx hx=>by rw[<- f];exact(d x).mp hx) (by rw[<- f,AA,Df,q];exact Aa _)
  have u:(SetTable.eraseAt es j).size<scanBound:=by omega
  refine dP (qI ho hd ?_ (si u));refine dP (wpAny_point ?_);have P:t.place.size=es.size:=Ts b;have y:t.fill<=t.mask:=by
   unfold SetTable.fits at b;rw[Cq,iP]at b;exact b.2
  have n:t.place[j]?=some (t.place[j]'(by omega)):=Kw _;have td:t.drop j={ t with place:=SetTable.eraseAt t.place j,dummies:=SetTable.insertAt t.dummies (SetTable.below t.dummies (t.place[j]'(by omega))) (t.place[j]'(by omega)) }:=by
   unfold SetTable.drop;rw[n]
  have D:∀(xs:Array Nat)(p x:Nat),(SetTable.insertAt xs p x).size<=xs.size+1:=λxs p x=>by
   unfold SetTable.insertAt;simp;omega
  have pz:∀(xs:Array Nat)(p:Nat),p<xs.size->(SetTable.eraseAt xs p).size=xs.size - 1:=λxs p n=>by
   unfold SetTable.eraseAt;simp;omega
  have r:ElemsOf (PySem.strKind prog w) (SetTable.eraseAt es j).toList:=by
   rw[el];intro e l;refine BS e ?_;rw[sp];rcases List.mem_append.mp l with h|h
   .exact List.mem_append.mpr (.inl h)
   .exact List.mem_append.mpr (.inr (B2 _ h))
  refine hJ (h1 hk _ (Fh s.heap a _) ⟨_,SetTable.eraseAt es j,_,_,JM ho hd _ _,i,rfl,?_,λk'=>?_,u,?_,?_,?_,λz=>?_⟩)
  .exact r
  .rw[Lg r,el,EK,iP,nd.mem_erase_iff,d,f];constructor
   .rintro⟨AV,c⟩;rcases List.mem_append.mp c with h|h
    .exact List.mem_append.mpr (.inl h)
    .rcases List.mem_cons.mp h with h|h
     .exact absurd h AV
     .exact List.mem_append.mpr (.inr h)
   .intro c;refine⟨λe=>nk (e▸c),?_⟩;rcases List.mem_append.mp c with h|h
    .exact List.mem_append.mpr (.inl h)
    .exact List.mem_append.mpr (.inr (B2 _ h))
  .rw[td];unfold SetTable.fits SetTable.fill;rw[Cq,ZA3,iP];have O:=pz t.place j (by omega);have N:=D t.dummies (SetTable.below t.dummies (t.place[j]'(by omega))) (t.place[j]'(by omega));unfold SetTable.fill at y;refine⟨by show(SetTable.eraseAt t.place j).size=_;omega,?_⟩;show(SetTable.eraseAt t.place j).size+(SetTable.insertAt _ _ _).size<=t.mask;omega
  .rw[J,MN hk,q]
  .rw[td];exact CB
  .rw[td];exact BI (by omega)
noncomputable def Zf(n:Nat):Bool:=[7,15,31,63,127].contains (SetTable.sizeAbove ((0+n) * 2) - 1) && decide (n<=SetTable.sizeAbove ((0+n) * 2) - 1) && decide (SetTable.sizeAbove ((0+n) * 2)<=128)
theorem t8:(List.range 64).all Zf=true:=by decide +kernel
section
structure Uu (w:World) (h:Heap) (r:Addr) (n:Nat) (so:Obj) (ep:Nat) (t:SetTable):Prop where
 at':h.get? r=some so
 ex:so.ExactSet
 dt:so.data=.set #[] ep t
 pl:t.place=#[]
 dm:t.dummies=#[]
 ld:t.led=!Bb w
 gd:good t.mask=true
 rm:n<=t.mask
theorem Uu.fits{h:Heap}{t:SetTable}(x:Uu w h r n so ep t):t.fits (#[]:Array (Int×Value)).size=true:=by
 unfold SetTable.fits SetTable.fill;rw[x.pl,x.dm];simp
theorem zA{Q:Unit->Shared->Prop}(b:s.heap.get? r=some so)(hx:so.ExactSet)(hd:so.data=.set #[] 0 (.fresh 0 0 (!Bb w)))(hz:n<64)
  (h:∀h' g ep t,Heap.SameBut r s.heap h'->Uu w h' r n g ep t->Q () { s with heap:=h' }):wpAny (model prog w) A (setRoomFor r n) Q E s:=by
 have e:(SetTable.fresh 0 0 (!Bb w)).fits (#[]:Array (Int×Value)).size=true:=rfl;unfold setRoomFor;refine dP (kC b hd e ?_);dsimp only;have i:(SetTable.fresh 0 0 (!Bb w)).roomFor n=if(0+n) * 5>=7 * 3 then some ((0+n) * 2)else none:=rfl
 rw[i]
 by_cases d:(0+n) * 5>=7 * 3
 .rw[i5 d];dsimp only;have q:=List.all_eq_true.mp t8 n (List.mem_range.mpr hz);unfold Zf at q;rw[Cq,Cq,iP,iP]at q;obtain⟨⟨c,k⟩,y⟩:=q;replace c:=List.all_eq_true.mp TN _ (List.contains_iff_mem.mp c);unfold setRelay;refine dP (kC b hd e ?_);dsimp only;have j:¬ SetTable.sizeAbove ((0+n) * 2) > sizeLine:=by
   have:128<=sizeLine:=by decide +kernel
   omega
  rw[i3 j];obtain⟨t,a,e1,x,z,f,v,u,p⟩:=UX c 0 ((SetTable.fresh 0 0 (!Bb w)).movedTo (SetTable.sizeAbove ((0+n) * 2) - 1)) (!Bb w) true #[] (Bo _);have o:(SetTable.fresh 0 0 (!Bb w)).relaid ((#[]:Array (Int×Value)).map (·.1)) ((0+n) * 2)=some (t,a):=by
   have l:(#[]:Array (Int×Value)).map (·.1)=#[]:=by simp
   rw[l];unfold SetTable.relaid;exact e1
  refine dP ?_
  wp_delta
  rw[o];dsimp only;have m:a=#[]:=by
   have:=p.length_eq;simp at this;exact this
  subst m;rw[i3 (by simp)];refine hJ ?_;dsimp only;refine qI b hd ?_ (Bo _);exact h _ _ _ t (Fh s.heap r _) ⟨JM b hd _ _,hx,rfl,ZAI u,v,x,by rw[f];exact c,by rw[f];exact k⟩
 .rw[i3 d];dsimp only;exact hJ (h s.heap so 0 _ (ML r s.heap) ⟨b,hx,hd,rfl,rfl,rfl,List.all_eq_true.mp TN 7 (by simp),by show n<=7;omega⟩)
theorem ot{b:Addr}{d:Sem Unit}{Q:Unit->Shared->Prop}(AV:r≠b)(m:s.heap.get? r=some so)(hx:so.ExactSet)(hd:so.data=.set #[] 0 (.fresh 0 0 (!Bb w)))
  (G:AW prog w s.heap b f n) (hz:n<64) (h:∀h',Heap.SameBut r s.heap h'->AW prog w h' r f n->Q () { s with heap:=h' }):wpAny (model prog w) A (setMerge r b d) Q E s:=by
 obtain⟨o,es,ep,t,ho,F,C,BS,BH,c,p,j,CB,BI⟩:=G;unfold setMerge;rw[i3 (by simpa using AV)]
 refine dP (kC ho C p ?_);dsimp only
 by_cases i:es.isEmpty=true
 .rw[i5 i];have e0:es=#[]:=by simpa using i
  subst e0;exact hJ (h s.heap (ML r s.heap) ⟨so,#[],0,_,m,hx,hd,BS,BH,c,rfl,j,rfl,λz=>by simp at z⟩)
 .rw[i3 i];have L8:0<es.size:=by
   rcases ZAq es.size with z|z
   .exact absurd (by simpa using ZAI z) i
   .exact z
  refine dP (zA m hx hd (n:=es.size) (by omega) λh1 D H t1 Gx B=>?_);refine dP (kC (s:={ s with heap:=h1 }) B.at' B.dt B.fits ?_)
  dsimp only;have y:¬ (t1.fill != 0)=true:=by unfold SetTable.fill;rw[B.pl,B.dm];simp
  by_cases u:(t1.mask == t.mask && t.dummies.isEmpty)=true
  .have e:t1.road t=.slotForSlot:=by unfold SetTable.road;rw[i3 y,i5 u]
   rw[e];dsimp only;refine qI (s:={ s with heap:=h1 }) B.at' B.dt ?_ (si c)
   refine h _ (Gx.trans (Fh h1 r _)) ⟨_,es,_,_,JM B.at' B.dt _ _,B.ex,rfl,BS,BH,c,p,j,?_,λz=>?_⟩
   .show(t1.led && t.led)=!Bb w;rw[B.ld,CB,Bool.and_self]
   .show(t1.plain && t.plain)=false;rw[BI z,Ja]
  .have e:t1.road t=.clean:=by unfold SetTable.road;rw[i3 y,i3 u]
   rw[e];dsimp only;obtain⟨t',a,e1,L,K,J,I,x,v⟩:=UX B.gd t1.finger t1.moves (t1.led && t.led) (t1.plain && t.plain) (es.map (·.1)) (by rw[MK];exact B.rm)
   rw[MK]at x v;refine dP ?_
   wp_delta
   rw[e1];dsimp only;have g:(a.filterMap (es[·]?)).toList.Perm es.toList:=by
    rw[ZAL];exact(v.filterMap _).trans (by rw[filterMap_getElem?_range])
   have zz:(a.filterMap (es[·]?)).size=es.size:=by rw[<- Df,g.length_eq,Df]
   rw[i3 (by rw[zz];simp)];refine hJ ?_;dsimp only;refine qI (s:={ s with heap:=h1 }) B.at' B.dt ?_ (si (by rw[zz];exact c))
   refine h _ (Gx.trans (Fh h1 r _)) ⟨_,_,_,_,JM B.at' B.dt _ _,B.ex,rfl,BS.perm g,λk=>(BH k).trans ⟨λ⟨e,l,q⟩=>⟨e,g.mem_iff.mpr l,q⟩,λ⟨e,l,q⟩=>⟨e,g.mem_iff.mp l,q⟩⟩,by rw[zz];exact c,?_,zz.trans j,?_,λ_=>?_⟩
   .unfold SetTable.fits SetTable.fill;rw[I,x,zz,J];have:=B.rm;simp;omega
   .rw[L,B.ld,CB,Bool.and_self]
   .rw[K,BI L8,Ja]
variable{X:Cx}
end
end L2
set_option maxHeartbeats 4000000
namespace Fz
open L2 Lw
theorem PM(ns:List Str):(λk'=>(dd ns).any (· == k'))=λk'=>decide (k'∈dd ns):=by
 funext k
 rw[HQ,iP];simp
end Fz
namespace L2
variable{prog:Program}{w:World}{A:Around}{E:Value->Shared->Prop}{s:Shared}{a b r:Addr}{o:Obj}{es:Array (Int×Value)}{ep m mask n:Nat}{t:SetTable}{Q:Array (Int×Value)->Shared->Prop}{f g:Str->Bool}{IL:String}{X:Cx}{gs:List Str}
theorem qp{p:Str->Bool}{j:Nat}(l:AW prog w s.heap a f n)(C:AW prog w s.heap b g m)(i:AW prog w s.heap r p j)
  (ho:s.heap.get? a=some o) (hd:o.data=.set es ep t)
  (h:∀(BJ:Array (Int×Value))(h':Heap),BJ.toList.Perm es.toList->Heap.SameBut r s.heap h'->AW prog w h' r p j->Q BJ { s with heap:=h' }):wpAny (model prog w) A (setWalkUnseen a [b,r] (some r)) Q E s:=by
 have D:=l;obtain⟨o',BJ,Gj,t',Bq,B,FQ,BS,BH,H,k,G,CB,BI⟩:=l;rw[ho]at Bq;cases Bq;rw[hd]at FQ;cases FQ;unfold setWalkUnseen setsByText;refine dP (kC ho hd k ?_);dsimp only;refine dP (dP (oP (hJ ?_)));show wpAny _ _ (if(Bb w || (t.led && t.plain) || decide (es.size<=1))=true then _ else _) _ _ _
 by_cases e:(Bb w || (t.led && t.plain) || decide (es.size<=1))=true
 .rw[i5 e];refine YV ho hd k CB (λJU=>?_) λBJ q=>h BJ s.heap q (ML r s.heap) i;rw[JU]at e CB;cases v:t.plain with
  |true=>rfl
  |false=>
   rw[v]at e;simp only[Ja,gH,X0,iP]at e;simp only[Bool.not_false,HR,ZB6];omega
 .rw[i3 e];refine dP (d7 _ (λx hx=>?_) ?_)
  .simp only[DP,Aq,uB]at hx;rcases hx with rfl|rfl|rfl
   .exact⟨_,_,D⟩
   .exact⟨_,_,C⟩
   .exact⟨_,_,i⟩
  rw[i3 (by decide)];refine dP (vb ?_);obtain⟨u,J0,OL,t2,DL,d,c,Oh,Wk,Iv,Md,Kc,WX,Rw⟩:=i;refine dP (kC DL c Md ?_);dsimp only;have y:t.led=true:=by
   rw[CB];cases F:Bb w with
   |false=>rfl
   |true=>rw[F]at e;simp at e
  split
  .refine dP (qI DL c ?_ (si Iv));refine hJ (h es _ (HS _) (Fh s.heap r _) ⟨_,J0,_,_,JM DL c J0 _,d,rfl,Oh,Wk,Iv,Md,Kc,?_,λz=>?_⟩)
   .show(t2.led && t.led)=!Bb w;rw[y,WX,Wy]
   .show(t2.plain && t.plain)=false;rw[Rw z,RS]
  .exact hJ (h es s.heap (HS _) (ML r s.heap) ⟨u,J0,OL,t2,DL,d,c,Oh,Wk,Iv,Md,Kc,WX,Rw⟩)
theorem AW.setOf{b:Heap}(h:AW prog w b a f n):b.SetOf (PySem.strKind prog w) a f n:=by
 obtain⟨o,es,ep,t,h1,h2,j,i,g,e,d,c,_⟩:=h;exact⟨o,es,ep,t,h1,h2,j,i,g,e,d,c⟩
theorem HN{Q:Nat->Shared->Prop}(e:AW prog w s.heap a f n)(h:Q n s):wpAny (model prog w) A (Builtin.Frozenset.sizeOf a) Q E s:=by
 obtain⟨o,es,ep,t,ho,d,hd,BS,BH,g,c,b,CB,BI⟩:=e;unfold Builtin.Frozenset.sizeOf;refine dP (p5 ho hd c (hJ ?_));rw[b];exact h
theorem nC{Q:Value->Shared->Prop}(v:AW prog w s.heap a f n)(B:AW prog w s.heap b g m)(hsz:n / 4<=m)
  (h:∀(h':Heap)(ds:List Str),ds.Nodup->(∀k,k∈ds↔f k=true/\g k=false)->ds.length<=n->AW prog w h' s.heap.objs.size (λk=>decide (k∈ds)) ds.length->(∀b o,s.heap.get? b=some o->h'.get? b=some o)->Q (.ref s.heap.objs.size) { s with heap:=h' }) :
  wpAny (model prog w) A (Builtin.Frozenset.difference IL a (.ref b)) Q E s:=by
 unfold Builtin.Frozenset.difference;refine dP (LD B.typeIs ?_);dsimp only;rw[i3 (by decide)];refine dP (nD (a:=b) rfl ?_);rw[i3 (by simp)];rw[i5 rfl];refine dP (HN B ?_);refine dP (HN v ?_);rw[i3 (by omega)];refine dP ?_;unfold Builtin.Frozenset.baseOf;refine dP (tO (b:=true) v.typeIs (by rw[pe];kernel_rfl) ?_);refine hJ ?_;rw[i5 rfl];unfold newSet setsByText;refine dP (dP (dP (oP (hJ ?_))));dsimp only;refine pP ?_;show wpAny _ _ _ _ _ { s with heap:=s.heap.push { cls:=.type "set", data:=.set #[] 0 (.fresh 0 0 (!Bb w)) } }
 generalize P:({ cls:=.type "set", data:=.set #[] 0 (.fresh 0 0 (!Bb w)) }:Obj)=so;have Tp:(s.heap.push so).get? s.heap.objs.size=some so:=BP _ (by rw[<- P];rfl);have I:∀b o,s.heap.get? b=some o->(s.heap.push so).get? b=some o:=λb o e=>Ay _ e;have Ru:AW prog w (s.heap.push so) s.heap.objs.size (λ_=>false) 0:=by
  subst P;exact⟨_,#[],0,_,Tp,⟨rfl,rfl,rfl⟩,rfl,λe c=>by simp at c,λk=>by simp,by decide,by rfl,rfl,rfl,λz=>by simp at z⟩
 have R:AW prog w (s.heap.push so) a f n:=v.keep λo e=>I _ _ e;have O:AW prog w (s.heap.push so) b g m:=B.keep λo e=>I _ _ e;have Ko:=R;obtain⟨o,es,ep,t,ho,X,hd,BS,BH,Y,M,K,CB,BI⟩:=Ko;have A8:a<s.heap.objs.size:=by obtain⟨o,_,_,_,ho,_⟩:=v;exact AY ho
 have Oe:b<s.heap.objs.size:=by obtain⟨o,_,_,_,ho,_⟩:=B;exact AY ho
 refine dP (nD (a:=s.heap.objs.size) rfl ?_);refine dP (sH (s:={ s with heap:=s.heap.push so }) ho hd M ?_)
 refine dP (mB ?_);rw[i5 rfl];refine dP (qp (s:={ s with heap:=s.heap.push so }) R O Ru ho hd λBJ h1 D Gx Td=>?_)
 have S:s.heap.objs.size≠a:=EA A8;have T:s.heap.objs.size≠b:=EA Oe;have zz:BJ.toList.length=es.size:=by rw[D.length_eq,Df]
 refine dP (gU _ (λrest _ s2=>∃(h2:Heap)(ds:List Str),s2={ s with heap:=h2 }/\Heap.SameBut s.heap.objs.size (s.heap.push so) h2/\ds.Nodup/\AW prog w h2 s.heap.objs.size (λk=>decide (k∈ds)) ds.length/\ds.length+rest.length<=n/\
   (∀k∈ds,f k=true/\g k=false)/\(∀k,f k=true->g k=false->k∈ds∨∃e∈rest,(PySem.strKind prog w).is k e.2=true)/\∀e∈rest,e∈es.toList) _ ?_ ?_ _ _ ⟨h1,[],rfl,Gx,IW,Td.congr (λk=>by simp) rfl,by rw[zz,K];simp,λk hk=>by simp at hk,λk hk hg=>.inr ?_,λe c=>D.mem_iff.mp c⟩)
 .rintro⟨V,x⟩rest u s2⟨h2,ds,rfl,j,nd,Hl,F,l,C,q⟩;obtain⟨⟨k,hk,hh⟩,Gm⟩:=BS _ (q _ Aj);obtain⟨tk,rfl⟩:=Ib hk;have MZ:V=(PySem.strKind prog w).hash k:=hh;subst MZ;have U:f k=true:=(BH k).mpr ⟨_,q _ Aj,hk⟩;have H:AW prog w h2 b g m:=O.keep λo e=>by rw[j.2 b (BM T)];exact e
  have ai:h2.get? a=some o:=by rw[j.2 a (BM S)];exact ho
  refine dP (mB ?_);rw[i5 rfl];dsimp only;refine dP (wpAny_setFind_of (knd:=PySem.strKind prog w) (k:=k) (s:={ s with heap:=h2 }) hk Gm H.setOf λr W=>?_)
  refine dP (hJ ?_);rw[W];have more:∀DK:List Str,(∀k',k'∈DK↔k'∈ds∨(k'=k/\g k=false))->∀k',f k'=true->g k'=false->k'∈DK∨∃e∈rest,(PySem.strKind prog w).is k' e.2=true:=by
   intro DK L k' Ht Y1;rcases C k' Ht Y1 with z|⟨e,c,z⟩
   .exact .inl ((L k').mpr (.inl z))
   .rcases List.mem_cons.mp c with rfl|c
    .have e1:=(PySem.strKind prog w).inj _ k' k z hk;subst e1;exact .inl ((L k').mpr (.inr ⟨rfl,Y1⟩))
    .exact .inr ⟨e,c,z⟩
  have d:∀(i:Heap)(DK:List Str),Heap.SameBut s.heap.objs.size (s.heap.push so) i->DK.Nodup->AW prog w i s.heap.objs.size (λk=>decide (k∈DK)) DK.length->DK.length+rest.length<=n->(∀k∈DK,f k=true/\g k=false)->(∀k',f k'=true->g k'=false->k'∈DK∨∃e∈rest,(PySem.strKind prog w).is k' e.2=true)->
    wpAny (model prog w) A (do Builtin.Frozenset.unchanged IL a ep;pure (ForInStep.yield PUnit.unit)) (λr s'=>match r with | .yield σ=>∃(h2:Heap)(ds:List Str),s'={ s with heap:=h2 }/\Heap.SameBut s.heap.objs.size (s.heap.push so) h2/\ds.Nodup/\AW prog w h2 s.heap.objs.size (λk=>decide (k∈ds)) ds.length/\ds.length+rest.length<=n/\
   (∀k∈ds,f k=true/\g k=false)/\(∀k,f k=true->g k=false->k∈ds∨∃e∈rest,(PySem.strKind prog w).is k e.2=true)/\∀e∈rest,e∈es.toList | .done σ=>False) E { s with heap:=i }:=by
   intro i DK Kt ED US D5 p1 p2;have G:i.get? a=some o:=by rw[Kt.2 a (BM S)];exact ho
   unfold Builtin.Frozenset.unchanged;refine dP (dP (sH (s:={ s with heap:=i }) G hd M ?_))
   rw[i3 (by simp)];refine hJ ?_;exact hJ ⟨i,DK,rfl,Kt,ED,US,D5,p1,p2,λe c=>q e (B2 _ c)⟩
  rw[BA]at F;cases hg:g k with
  |true=>
   rw[i3 (by decide)];refine hJ ?_;refine ki (d h2 ds j nd Hl (by omega) l (more ds λk'=>⟨.inl,λz=>z.elim id λz=>by rw[hg]at z;cases z.2⟩)) (λr s' z=>?_) λ_ _ z=>z;cases r with
   |yield _=>exact z
   |done _=>exact z.elim
  |false=>
   rw[i5 (by decide)];have W6:n<scanBound:=by rw[<- K];exact Y
   refine dP (AW.put (s:={ s with heap:=h2 }) Hl (by omega) λi O8 Le=>?_)
   refine hJ ?_;have N:=j.trans O8
   by_cases p:k∈ds
   .refine ki (d i ds N nd (Le.congr (λk'=>?_) ?_) (by omega) l (more ds λk'=>⟨.inl,λz=>z.elim id λz=>z.1▸p⟩)) (λr s' z=>?_) λ_ _ z=>z
    .by_cases e:k'=k
     .subst e;simp[p]
     .simp[e]
    .simp[p]
    .cases r with
     |yield _=>exact z
     |done _=>exact z.elim
   .refine ki (d i (ds++[k]) N ?_ (Le.congr (λk'=>?_) ?_) ?_ ?_ (more _ λk'=>?_)) (λr s' z=>?_) λ_ _ z=>z
    .rw[Dg];exact⟨nd,List.nodup_cons.mpr ⟨by simp,IW⟩,λx hx y J=>by
      rw[L1]at J;subst J;exact λe=>p (e▸hx)⟩
    .by_cases e:k'=k
     .subst e;simp
     .simp[e]
    .simp[p]
    .rw[BX];simp only[BA,RZ];omega
    .intro k' IT;rcases List.mem_append.mp IT with z|z
     .exact l k' z
     .rw[L1]at z;subst z;exact⟨U,hg⟩
    .rw[Je,L1];exact⟨λz=>z.elim .inl λe=>.inr ⟨e,hg⟩,λz=>z.elim .inl λe=>.inr e.1⟩
    .cases r with
     |yield _=>exact z
     |done _=>exact z.elim
 .rintro u s2⟨h2,ds,rfl,j,nd,Hl,F,l,C,q⟩;refine hJ (hJ ?_);refine h h2 ds nd (λk=>⟨l k,λz=>?_⟩) (by simpa using F) Hl λx ox e=>?_
  .rcases C k z.1 z.2 with z|⟨e,c,_⟩
   .exact z
   .simp at c
  .rw[j.2 x (Az (AY e))];exact I _ _ e
 .obtain⟨e,c,z⟩:=(BH k).mp hk;exact⟨e,D.mem_iff.mpr c,z⟩
def VY(mask:Nat):Nat->Nat×Nat->List Nat
 | 0,_=>[]
 |k+1,p=>p.1::VY mask k (lp mask p)
theorem oy{j:Nat}:∀{k:Nat}{p:Nat×Nat},j∈VY mask k p->∃t,t<k/\(DZ mask t p).1=j:=by
 intro k
 induction k with
 |zero=>intro p h;cases h
 |succ k a=>
  intro p h;rcases List.mem_cons.mp h with e|h
  .exact⟨0,by omega,e.symm⟩
  .obtain⟨t,b,e⟩:=a h;exact⟨t+1,by omega,e⟩
theorem tY(c:((DZ mask (mask+1) (0,0)).1 == 0)=true)(h:((List.range (mask+1)).all λj=>(VY mask (mask+1) (0,0)).contains j)=true):good mask=true:=by
 unfold good;rw[Cq];refine⟨c,?_⟩;rw[HU]at h ⊢;intro j b;obtain⟨t,a,e⟩:=oy (List.contains_iff_mem.mp (h j b));rw[L0];exact⟨t,List.mem_range.mpr a,by rw[ZA3];exact e⟩
theorem kB:good 255=true:=tY (by decide +kernel) (by decide +kernel)
noncomputable def tidy(n:Nat):Bool:=[7,15,31,63,127,255].contains (SetTable.sizeAbove (SetTable.grown n) - 1) && decide (n<=SetTable.sizeAbove (SetTable.grown n) - 1) && decide (SetTable.sizeAbove (SetTable.grown n)<=256)
theorem rA:(List.range 64).all tidy=true:=by decide +kernel
theorem yy(h:[7,15,31,63,127,255].contains mask=true):good mask=true:=by
 have:=List.contains_iff_mem.mp h;rcases List.mem_append.mp (show mask∈[7,15,31,63,127]++[255]from this)with h|h
 .exact List.all_eq_true.mp TN _ h
 .rw[List.mem_singleton.mp h];exact kB
theorem lO(d:AW prog w s.heap a f n)(k:AW prog w s.heap r g m)
  (ho:s.heap.get? a=some o) (hd:o.data=.set es ep t)
  (h:∀(BJ:Array (Int×Value)),BJ.toList.Perm es.toList->Q BJ s):wpAny (model prog w) A (setWalkUnseen a [r] none) Q E s:=by
 have l:=d;obtain⟨o',BJ,Gj,t',Bq,j,FQ,BS,BH,q,c,p,CB,BI⟩:=d;rw[ho]at Bq;cases Bq;rw[hd]at FQ;cases FQ;unfold setWalkUnseen setsByText;refine dP (kC ho hd c ?_);dsimp only;refine dP (dP (oP (hJ ?_)));show wpAny _ _ (if(Bb w || (t.led && t.plain) || decide (es.size<=1))=true then _ else _) _ _ _
 by_cases b:(Bb w || (t.led && t.plain) || decide (es.size<=1))=true
 .rw[i5 b];refine YV ho hd c CB (λJU=>?_) λBJ e=>h BJ e;rw[JU]at b CB;cases i:t.plain with
  |true=>rfl
  |false=>
   rw[i]at b;simp only[Ja,gH,X0,iP]at b;simp only[Bool.not_false,HR,ZB6];omega
 .rw[i3 b];refine dP (d7 _ (λx hx=>?_) ?_)
  .simp only[DP,Aq,uB]at hx;rcases hx with rfl|rfl
   .exact⟨_,_,l⟩
   .exact⟨_,_,k⟩
  rw[i3 (by decide)];refine dP (vb ?_);exact hJ (h es (HS _))
theorem ZA0{Q:Unit->Shared->Prop}(y:AW prog w s.heap r f n)(hz:n<64)(h:∀h',Heap.SameBut r s.heap h'->AW prog w h' r f n->Q () { s with heap:=h' }):wpAny (model prog w) A (setTidy r) Q E s:=by
 obtain⟨o,es,ep,t,ho,b,hd,BS,BH,j,g,l,CB,BI⟩:=y;unfold setTidy;refine dP (kC ho hd g ?_);dsimp only
 by_cases m:t.tooManyDummies=true
 .rw[i5 m];have q:=List.all_eq_true.mp rA es.size (List.mem_range.mpr (by omega));unfold tidy at q;rw[Cq,Cq,iP,iP]at q;obtain⟨⟨d,x⟩,H⟩:=q;replace d:=yy d;unfold setRelay;refine dP (kC ho hd g ?_);dsimp only;have v:¬ SetTable.sizeAbove (SetTable.grown es.size) > sizeLine:=by
   have:256<=sizeLine:=by decide +kernel
   omega
  rw[i3 v];obtain⟨t',a,e1,G,F,D,C,u,p⟩:=UX d t.finger (t.movedTo (SetTable.sizeAbove (SetTable.grown es.size) - 1)) t.led t.plain (es.map (·.1)) (by rw[MK];exact x)
  rw[MK]at u p;have B:t.relaid (es.map (·.1)) (SetTable.grown es.size)=some (t',a):=by
   unfold SetTable.relaid;exact e1
  refine dP ?_
  wp_delta
  rw[B];dsimp only;have c:(a.filterMap (es[·]?)).toList.Perm es.toList:=by
   rw[ZAL];exact(p.filterMap _).trans (by rw[filterMap_getElem?_range])
  have zz:(a.filterMap (es[·]?)).size=es.size:=by rw[<- Df,c.length_eq,Df]
  rw[i3 (by rw[zz];simp)];refine hJ ?_;dsimp only;refine qI ho hd ?_ (si (by rw[zz];exact j));refine h _ (Fh s.heap r _) ⟨_,_,_,_,JM ho hd _ _,b,rfl,BS.perm c,λk=>(BH k).trans ⟨λ⟨e,i,q⟩=>⟨e,c.mem_iff.mpr i,q⟩,λ⟨e,i,q⟩=>⟨e,c.mem_iff.mp i,q⟩⟩,by rw[zz];exact j,?_,zz.trans l,?_,λz=>?_⟩
  .unfold SetTable.fits SetTable.fill;rw[C,u,zz,D];simp;omega
  .rw[G,CB]
  .rw[F,BI (by rw[zz]at z;exact z)]
 .rw[i3 m];exact hJ (h s.heap (ML r s.heap) ⟨o,es,ep,t,ho,b,hd,BS,BH,j,g,l,CB,BI⟩)
theorem qX{fs:List Str}{Q:Unit->Shared->Prop}(AV:r≠a)(F:gs.Nodup)(hz:gs.length<64)(hsz:fs.length / 8<=gs.length)
  (l:AW prog w s.heap a (λk=>decide (k∈fs)) fs.length) (v:AW prog w s.heap r (λk=>decide (k∈gs)) gs.length)
  (h:∀(h':Heap)(ds:List Str),ds.Nodup->(∀k,k∈ds↔k∈gs/\k∉fs)->Heap.SameBut r s.heap h'->AW prog w h' r (λk=>decide (k∈ds)) ds.length->Q () { s with heap:=h' }) :
  wpAny (model prog w) A (Builtin.Frozenset.differenceUpdate IL r (.ref a)) Q E s:=by
 unfold Builtin.Frozenset.differenceUpdate;rw[i3 (by simpa using BM AV)]
 refine dP (LD l.typeIs ?_);rw[i5 rfl];refine dP (nD (a:=a) rfl ?_);refine dP (HN l ?_);refine dP (HN v ?_);rw[i3 (by omega)];have M:=l;obtain⟨o,es,ep,t,ho,H,hd,BS,BH,O,C,N,CB,BI⟩:=M;refine dP (sH ho hd C ?_);refine dP (mB ?_);refine dP (lO l v ho hd λBJ j=>?_);have II:∀k,k∈fs↔k∈BJ.toList.map (kv ·.2):=λk=>by
  have K:ElemsOf (PySem.strKind prog w) BJ.toList:=BS.perm j;rw[<- Lg K,<- iP (p:=k∈fs),BH k];exact⟨λ⟨e,f,q⟩=>⟨e,j.mem_iff.mpr f,q⟩,λ⟨e,f,q⟩=>⟨e,j.mem_iff.mp f,q⟩⟩
 refine dP (gU _ (λrest _ s2=>∃(h2:Heap)(ds:List Str)(c:List Str),s2={ s with heap:=h2 }/\Heap.SameBut r s.heap h2/\ds.Nodup/\AW prog w h2 r (λk=>decide (k∈ds)) ds.length/\ds.length<=gs.length/\
   BJ.toList.map (kv ·.2)=c++rest.map (kv ·.2)/\(∀k,k∈ds↔k∈gs/\k∉c)/\∀e∈rest,e∈es.toList) _ ?_ ?_ _ _ ⟨s.heap,gs,[],rfl,ML r s.heap,F,v,Aa _,rfl,λk=>by simp,λe f=>j.mem_iff.mp f⟩)
 .rintro⟨G,x⟩rest u s2⟨h2,ds,c,rfl,i,nd,Hl,B,n,g,m⟩;obtain⟨⟨k,hk,hh⟩,Gm⟩:=BS _ (m _ Aj);obtain⟨tk,rfl⟩:=Ib hk;have L:G=(PySem.strKind prog w).hash k:=hh;subst L;have J:∀b,Heap.SameBut r s.heap b->b.get? a=some o:=λb Kt=>by rw[Kt.2 a (BM AV)];exact ho
  have d:∀(b:Heap)(DK:List Str),Heap.SameBut r s.heap b->DK.Nodup->AW prog w b r (λk=>decide (k∈DK)) DK.length->DK.length<=gs.length->(∀k',k'∈DK↔k'∈gs/\k'∉c++[k])->
    wpAny (model prog w) A (do Builtin.Frozenset.unchanged IL a ep;pure (ForInStep.yield PUnit.unit)) (λD s'=>match D with | .yield I=>(∃(h2:Heap)(ds:List Str)(c:List Str),s'={ s with heap:=h2 }/\Heap.SameBut r s.heap h2/\ds.Nodup/\AW prog w h2 r (λk=>decide (k∈ds)) ds.length/\ds.length<=gs.length/\BJ.toList.map (kv ·.2)=c++rest.map (kv ·.2)/\(∀k,k∈ds↔k∈gs/\k∉c)/\∀e∈rest,e∈es.toList) | .done I=>False) E { s with heap:=b }:=by
   intro b DK Kt ED US D5 p1;unfold Builtin.Frozenset.unchanged;refine dP (dP (sH (s:={ s with heap:=b }) (J b Kt) hd C ?_))
   rw[i3 (by simp)];refine hJ ?_;exact hJ ⟨b,DK,c++[k],rfl,Kt,ED,US,D5,by rw[n,Bh];rfl,p1,λe f=>m e (B2 _ f)⟩
  have mk:∀k':Str,k'∈c++[k]↔k'∈c∨k'=k:=λk'=>by rw[Je,L1]
  dsimp only;refine dP (mB ?_);refine AW.cut (s:={ s with heap:=h2 }) nd Hl (λHb=>?_) λHb b O8 Le=>?_
  .refine ki (d h2 ds i nd Hl B λk'=>?_) (λr s' z=>?_) λ_ _ z=>z
   .rw[mk,g k']
    by_cases e:k'=k
    .subst e;have:=mt (g k').mpr Hb;constructor
     .exact λz=>absurd z this
     .exact λz=>absurd (Or.inr rfl) z.2
    .simp only[e,uB]
   .cases r with
    |yield _=>exact z
    |done _=>exact z.elim
  .have y:=MN Hb;refine ki (d b (ds.erase k) (i.trans O8) (nd.erase k) Le (by omega) λk'=>?_) (λr s' z=>?_) λ_ _ z=>z
   .rw[mk,nd.mem_erase_iff,g k']
    by_cases e:k'=k
    .subst e;simp
    .simp[e]
   .cases r with
    |yield _=>exact z
    |done _=>exact z.elim
 .rintro u s2⟨h2,ds,c,rfl,i,nd,Hl,B,n,g,m⟩;refine hJ ?_;refine ZA0 (s:={ s with heap:=h2 }) Hl (by omega) λb O8 Le=>?_
  refine h b ds nd (λk=>?_) (i.trans O8) Le;rw[g k,II k,n];simp
theorem qc{fs:List Str}{Q:Value->Shared->Prop}(p:fs.Nodup)(hz:fs.length<64)(c:AW prog w s.heap a (λk=>decide (k∈fs)) fs.length)(d:AW prog w s.heap b (λk=>decide (k∈gs)) gs.length)
  (h:∀(h':Heap)(ds:List Str),ds.Nodup->(∀k,k∈ds↔k∈fs/\k∉gs)->AW prog w h' s.heap.objs.size (λk=>decide (k∈ds)) ds.length->(∀b o,s.heap.get? b=some o->h'.get? b=some o)->Q (.ref s.heap.objs.size) { s with heap:=h' }) :
  wpAny (model prog w) A (Builtin.Frozenset.difference IL a (.ref b)) Q E s:=by
 by_cases hsz:fs.length / 4<=gs.length
 .refine nC c d hsz λh' ds nd f x q kp=>h h' ds nd (λk=>?_) q kp;rw[f k];simp
 .unfold Builtin.Frozenset.difference;refine dP (LD d.typeIs ?_);dsimp only;rw[i3 (by decide)];refine dP (nD (a:=b) rfl ?_);rw[i3 (by simp)];rw[i5 rfl];refine dP (HN d ?_);refine dP (HN c ?_);rw[i5 (by omega)];refine dP (vb ?_);refine dP ?_;unfold Builtin.Frozenset.copyOf;refine dP ?_;unfold Builtin.Frozenset.baseOf;refine dP (tO (b:=true) c.typeIs (by rw[pe];kernel_rfl) ?_);refine hJ ?_;rw[i5 rfl];unfold newSet setsByText;refine dP (dP (dP (oP (hJ ?_))));dsimp only;refine pP ?_;show wpAny _ _ _ _ _ { s with heap:=s.heap.push { cls:=.type "set", data:=.set #[] 0 (.fresh 0 0 (!Bb w)) } }
  generalize g:({ cls:=.type "set", data:=.set #[] 0 (.fresh 0 0 (!Bb w)) }:Obj)=so;have r:(s.heap.push so).get? s.heap.objs.size=some so:=BP _ (by rw[<- g];rfl);have i:∀b o,s.heap.get? b=some o->(s.heap.push so).get? b=some o:=λb o e=>Ay _ e;have u:AW prog w (s.heap.push so) a _ fs.length:=c.keep λo e=>i _ _ e;have t:AW prog w (s.heap.push so) b _ gs.length:=d.keep λo e=>i _ _ e;have v:a<s.heap.objs.size:=by obtain⟨o,_,_,_,ho,_⟩:=c;exact AY ho
  have l:b<s.heap.objs.size:=by obtain⟨o,_,_,_,ho,_⟩:=d;exact AY ho
  refine dP (nD (a:=s.heap.objs.size) rfl ?_);refine dP (ot (s:={ s with heap:=s.heap.push so }) (EA v) r (by rw[<- g];exact⟨rfl,rfl,rfl⟩) (by rw[<- g]) u hz λh1 Gx Ru=>?_)
  refine hJ ?_;have m:AW prog w h1 b _ gs.length:=t.keep λo e=>by rw[Gx.2 b (Az l)];exact e
  refine dP (nD (a:=s.heap.objs.size) rfl ?_);refine dP (mB ?_);refine qX (s:={ s with heap:=h1 }) (EA l) p hz (by omega) m Ru λh2 ds nd f n Td=>?_
  refine hJ ?_;refine h h2 ds nd f Td λb o e=>?_;have j:=Az (AY e);rw[n.2 b j];show h1.get? b=_;rw[Gx.2 b j];exact i _ _ e
def ah(P:Program)(w:World):V->V->Hp->VK->Prop:=λx y H Q=>∃(p q:Addr)(fs gs:List Str),x=.ref p/\y=.ref q/\fs.Nodup/\fs.length<64/\H p=some (Ci P w p (λk=>decide (k∈fs)) fs.length)/\H q=some (Ci P w q (λk=>decide (k∈gs)) gs.length)/\
 ∀(l:Addr)(ds:List Str),H l=none->ds.Nodup->(∀k,k∈ds↔k∈fs/\k∉gs)->Q (.ref l) (upd H l (Ci P w l (λk=>decide (k∈ds)) ds.length))
theorem kM:Aw X (binaryOp .Sub) (ah X.prog X.w):=by
 intro Zq s Z H x y v u Q I f e h;obtain⟨p,q,fs,gs,rfl,rfl,g,hz,j,i,h⟩:=h;cases f;cases e;have b:AW X.prog X.w s.heap p _ fs.length:=(I.AE p _ j).1;have c:AW X.prog X.w s.heap q _ gs.length:=(I.AE q _ i).1;refine wpAny_binaryOp_same (T:="set") (op:=.Sub) b.typeIs c.typeIs F.fills_set_sub F.slot_set_sub (mK F.slot_set_sub b.typeIs iw ?_ (F.args_set_sub_2 _ _));unfold Builtin.«frozenset.__sub__»
 wp_delta
 refine dP (nD (a:=(Value.ref p,Value.ref q)) rfl ?_);dsimp only;rw[i3 (by decide)];dsimp only;refine dP (dP (LD b.typeIs ?_));refine LD c.typeIs ?_;rw[i3 (by decide)];refine dP (nD (a:=p) rfl ?_);refine dP (qc g hz b c λh' ds nd k d kp=>?_);refine hJ ⟨_,rfl,(λz=>nomatch z),?_⟩;refine⟨.ref s.heap.objs.size,_,I.laid (t':=s.toks) kp (Aa _) (show Bl X.prog X.w _ h' _ (Ci X.prog X.w s.heap.objs.size _ _)from⟨d,?_,λh1 h2 Gf GU=>Gf.keep GU⟩),rfl,h _ ds (I.AE.fresh (Aa _)) nd k⟩;obtain⟨o,_,_,_,ho,_⟩:=d;exact⟨o,ho⟩
theorem zG:entryFor table "set.__eq__"=some Builtin.«frozenset.__eq__»:=
 ZA5 (id' := "frozenset.__eq__") (by kernel_rfl) (by first|rfl|decide +kernel|(unfold String.splitOn;simp +decide [String.splitOnAux])) (by decide +kernel) (by kernel_rfl)
theorem oS{Q:List (Int×Value)->Shared->Prop}(q:AW prog w s.heap a f n)(u:AW prog w s.heap b g m)
  (ho:s.heap.get? a=some o) (hd:o.data=.set es ep t) (h:Q es.toList s):wpAny (model prog w) A (Builtin.Frozenset.walkUnseen a b) Q E s:=by
 obtain⟨o',BJ,Gj,t',Bq,p,FQ,BS,BH,z,l,y,CB,BI⟩:=q;rw[ho]at Bq;cases Bq;rw[hd]at FQ;cases FQ;obtain⟨v,J0,OL,t2,DL,j,d,Oh,Wk,Iv,Md,Kc,WX,Rw⟩:=u;unfold Builtin.Frozenset.walkUnseen;refine dP (p5 ho hd l ?_);refine dP (p5 DL d Md ?_);refine dP ?_;refine ZAH _ (λrest r s'=>s'=s/\r=(none,())/\∀e∈rest,∃k,(PySem.strKind prog w).is k e.2=true) _ ?_ ?_ _ _ ⟨rfl,rfl,λe c=>(List.mem_append.mp c).elim (BS.keys e) (Oh.keys e)⟩
 .rintro⟨hh,x⟩rest r s'⟨rfl,rfl,i⟩;obtain⟨k,hk⟩:=i _ Aj;obtain⟨tk,rfl⟩:=Ib hk;refine dP (m:=Builtin.Frozenset.quietEq _) ?_;unfold Builtin.Frozenset.quietEq;refine hJ ?_;rw[i3 (by decide)];exact hJ ⟨rfl,rfl,λe c=>i e (B2 _ c)⟩
 .rintro r s'⟨rfl,rfl,_⟩;exact hJ h
theorem hZ{fs:List Str}{Q:Bool->Shared->Prop}(hz:fs.length<=gs.length)
  (i:AW prog w s.heap a (λk=>decide (k∈fs)) fs.length) (j:AW prog w s.heap b (λk=>decide (k∈gs)) gs.length)
  (h:Q (decide (∀k∈fs,k∈gs)) s):wpAny (model prog w) A (Builtin.Frozenset.subsetOf IL a b) Q E s:=by
 unfold Builtin.Frozenset.subsetOf;refine dP (HN i ?_);refine dP (HN j ?_);rw[i3 (by omega)];have v:=i;obtain⟨o,es,ep,t,ho,q,hd,BS,BH,B,l,y,CB,BI⟩:=v;refine dP (sH ho hd l ?_);refine dP (oS i j ho hd ?_);have II:∀k,k∈fs↔k∈es.toList.map (kv ·.2):=λk=>by rw[<- Lg BS,<- iP (p:=k∈fs),BH k]
 refine dP ?_;refine ki (ZAH _ (λrest r s'=>s'=s/\r=(none,())/\(∀e∈rest,e∈es.toList)/\∀e∈es.toList,e∈rest∨kv e.2∈gs) (λr s'=>s'=s/\((r=(none,())/\∀k∈fs,k∈gs)∨(r=(some false,())/\¬ ∀k∈fs,k∈gs))) ?_ ?_ _ _ ⟨rfl,rfl,λe c=>c,λe c=>.inl c⟩) (λr s' d=>?_) λ_ _ z=>z
 .rintro⟨n,x⟩rest r s'⟨rfl,rfl,g,f⟩;obtain⟨⟨k,hk,hh⟩,Gm⟩:=BS _ (g _ Aj);obtain⟨tk,rfl⟩:=Ib hk;have u:n=(PySem.strKind prog w).hash k:=hh;subst u;have m:k∈fs:=(II k).mpr (List.mem_map.mpr ⟨_,g _ Aj,rfl⟩);dsimp only;refine dP (mB ?_);refine wpAny_setFind_of (knd:=PySem.strKind prog w) (k:=k) hk Gm j.setOf λr d=>?_
  by_cases hg:k∈gs
  .have e:r.isSome=true:=by rw[d];exact hU hg
   rw[i3 (by cases r <;> simp_all)]
   unfold Builtin.Frozenset.unchanged;refine dP (dP (sH ho hd l ?_));rw[i3 (by simp)];refine hJ ?_;refine hJ ⟨rfl,rfl,λe c=>g e (B2 _ c),λe c=>?_⟩;rcases f e c with h|h
   .rcases List.mem_cons.mp h with rfl|h
    .exact .inr hg
    .exact .inl h
   .exact .inr h
  .have e:r.isSome=false:=by rw[d];exact iF hg
   rw[i5 (by cases r <;> simp_all)]
   exact hJ ⟨rfl,.inr ⟨rfl,λz=>hg (z k m)⟩⟩
 .rintro r s'⟨rfl,rfl,_,f⟩;refine⟨rfl,.inl ⟨rfl,λk hk=>?_⟩⟩;obtain⟨e,c,rfl⟩:=List.mem_map.mp ((II k).mp hk);exact(f e c).resolve_left Aq
 .obtain⟨rfl,⟨rfl,z⟩|⟨rfl,z⟩⟩:=d
  .rw[hU z]at h;exact hJ h
  .rw[iF z]at h;exact hJ h
def de(P:Program)(w:World):V->V->Hp->VK->Prop:=λx y H Q=>∃(p q:Addr)(fs gs:List Str),x=.ref p/\y=.ref q/\fs.Nodup/\gs.Nodup/\H p=some (Ci P w p (λk=>decide (k∈fs)) fs.length)/\H q=some (Ci P w q (λk=>decide (k∈gs)) gs.length)/\
 ∀b:Bool,(b=true↔∀k,k∈fs↔k∈gs)->Q (.bl b) H
theorem wq(o:X.A.units<cLine):Aw X (compareOp .Eq) (de X.prog X.w):=by
 intro Zq s Z H x y v u Q I i g h;obtain⟨p,q,fs,gs,rfl,rfl,f,n,t,r,h⟩:=h;cases i;cases g;have c:AW X.prog X.w s.heap p _ fs.length:=(I.AE p _ t).1;have d:AW X.prog X.w s.heap q _ gs.length:=(I.AE q _ r).1;refine wpAny_richCompare_same_room (op:=.Eq) c.typeIs d.typeIs F.slot_set_eq (mK F.slot_set_eq c.typeIs zG ?_ (F.args_set_eq_2 _ _)) o;unfold Builtin.«frozenset.__eq__»
 wp_delta
 refine dP (nD (a:=(Value.ref p,Value.ref q)) rfl ?_);dsimp only;refine dP (LD d.typeIs ?_);rw[i3 (by decide)];refine dP (nD (a:=p) rfl ?_);refine dP (nD (a:=q) rfl ?_);refine dP (HN c ?_);refine dP (HN d ?_);refine dP ?_
 by_cases hz:fs.length=gs.length
 .rw[i3 (by simpa using hz)]
  refine dP ?_;refine dP (tO (b:=false) c.typeIs (by rw[pe];kernel_rfl) ?_);refine hJ ?_;rw[i3 (by decide)];refine hZ (Rj hz) c d ?_;refine hJ ⟨_,rfl,(λx=>nomatch x),.bl _,H,I,rfl,h _ ?_⟩;rw[iP];exact⟨λz k=>⟨z k,λhk=>Jb λB=>by
   have j:=JL (l:=k::fs) (m:=gs) (List.nodup_cons.mpr ⟨B,f⟩) λx hx=>(List.mem_cons.mp hx).elim (λe=>e▸hk) (z x);rw[BA]at j;omega⟩,λz k hk=>(z k).mp hk⟩
 .rw[i5 (by simpa using hz)]
  refine hJ ?_;refine hJ ⟨_,rfl,(λx=>nomatch x),.bl _,H,I,rfl,h _ ⟨λz=>(nomatch z),λz=>absurd (Nat.le_antisymm (JL f λk hk=>(z k).mp hk) (JL n λk hk=>(z k).mpr hk)) hz⟩⟩
end L2
namespace Fz
open L2 Lw
section
variable[Xw]
variable{ss:List Slot}{K:ZBx}{ta tb:TE}{P:Program}{w:World}
theorem zo{k:PV->Prop}(h:Wq ss ta λ_ xs=>∃ns:List Str,xs=ns.map PV.str/\ns.length<4000/\Wq ss tb λ_ ys=>∃ms:List Str,ys=ms.map PV.str/\ms.length<4000/\∀b:Bool,(b=true↔∀x,x∈ns↔x∈ms)->k (.bl b)):
  Wp ss (B8 (de P w) (CO (λxs H Q=>∃(p:Addr)(tp:Bool)(ss:List Str),xs=[.ref p]/\CK K tp H p (ss.map V.str)/\ss.length<4000/\∀l,H l=none->Q (.ref l) (upd H l (Ci P w l (λk'=>(dd ss).any (· == k')) (dd ss).length))) (Ag ta BK)) (CO (λxs H Q=>∃(p:Addr)(tp:Bool)(ss:List Str),xs=[.ref p]/\CK K tp H p (ss.map V.str)/\ss.length<4000/\∀l,H l=none->Q (.ref l) (upd H l (Ci P w l (λk'=>(dd ss).any (· == k')) (dd ss).length))) (Ag tb BK))) k:=⟨λE Z F H Q S q=>
 h.go E Z F H _ S λv tp xs F1 H1 d sv⟨ns,e,hz,h2⟩=>by
  subst e;obtain⟨l,vs,rfl,g,r⟩:=sv.seq d.st;rw[r.strs]at g;refine⟨l,tp,ns,rfl,DJ.sq g,hz,λa i=>?_⟩;have m2:=d.st.make i (Ci P w a (λk'=>(dd ns).any (· == k')) (dd ns).length)
  refine h2.go E Z F1 _ _ m2.st λv2 BZ ys F2 H2 c Jx⟨ms,n,Gs,kk⟩=>?_;subst n;obtain⟨l2,Ie,rfl,CJ,j⟩:=Jx.seq c.st;rw[j.strs]at CJ;refine⟨l2,BZ,ms,rfl,DJ.sq CJ,Gs,λa2 Bg=>?_⟩;have f:=c.st.make Bg (Ci P w a2 (λk'=>(dd ms).any (· == k')) (dd ms).length)
  have np:C7 ss Z a:=d.st.GO i;have g0:=c.hh a _ np (AX (H:=H1) (a:=a) (o:=Ci P w a (λk'=>(dd ns).any (· == k')) (dd ns).length))
  have g1:=f.hh a _ np g0;rw[PM ns]at g1;refine⟨a,a2,dd ns,dd ms,rfl,rfl,Pm ns,Pm ms,g1,by rw[<- PM ms];exact AX,λb m=>?_⟩;refine q _ _ F2 _ (d.trans (m2.trans (c.trans f))) (.bl _) (kk b ?_);rw[m];exact forall_congr' λx=>by rw[KA,KA]⟩
theorem qP{k : PV -> Prop}(h : Wq ss ta λ_ xs => ∃ns : List Str, xs = ns.map PV.str /\ ns.length<64 /\ Wq ss tb λ_ ys => ∃ms : List Str, ys = ms.map PV.str /\ ms.length<64 /\
   ∀n:Nat,(n=0↔∀x∈ns,x∈ms)->k (.int (n:Nat))):
  Wp ss (CO (λxs H Q=>∃l f n,xs=[.ref l]/\H l=some (Ci P w l f n)/\Q (.int (n:Nat)) H) (Ag (B8 (ah P w) (CO (λxs H Q=>∃(p:Addr)(tp:Bool)(ss:List Str),xs=[.ref p]/\CK K tp H p (ss.map V.str)/\ss.length<4000/\∀l,H l=none->Q (.ref l) (upd H l (Ci P w l (λk'=>(dd ss).any (· == k')) (dd ss).length))) (Ag ta BK))
   (CO (λxs H Q=>∃(p:Addr)(tp:Bool)(ss:List Str),xs=[.ref p]/\CK K tp H p (ss.map V.str)/\ss.length<4000/\∀l,H l=none->Q (.ref l) (upd H l (Ci P w l (λk'=>(dd ss).any (· == k')) (dd ss).length))) (Ag tb BK))) BK)) k:=⟨λE Z F H Q S q=>
 h.go E Z F H _ S λv tp xs F1 H1 c sv⟨ns,e,hz,h2⟩=>by
  subst e;obtain⟨l,vs,rfl,g,r⟩:=sv.seq c.st;rw[r.strs]at g;refine⟨l,tp,ns,rfl,DJ.sq g,by omega,λa i=>?_⟩;have m2:=c.st.make i (Ci P w a (λk'=>(dd ns).any (· == k')) (dd ns).length)
  refine h2.go E Z F1 _ _ m2.st λv2 BZ ys F2 H2 b Jx⟨ms,C,Gs,kk⟩=>?_;subst C;obtain⟨l2,Ie,rfl,CJ,m⟩:=Jx.seq b.st;rw[m.strs]at CJ;refine⟨l2,BZ,ms,rfl,DJ.sq CJ,by omega,λa2 Bg=>?_⟩;have d:=b.st.make Bg (Ci P w a2 (λk'=>(dd ms).any (· == k')) (dd ms).length)
  have np:C7 ss Z a:=c.st.GO i;have g0:=b.hh a _ np (AX (H:=H1) (a:=a) (o:=Ci P w a (λk'=>(dd ns).any (· == k')) (dd ns).length))
  have g1:=d.hh a _ np g0;rw[PM ns]at g1;refine⟨a,a2,dd ns,dd ms,rfl,rfl,Pm ns,Jg (V6 ns) hz,g1,by rw[<- PM ms];exact AX,λj ds UO u YY=>?_⟩;have A:=d.st.make UO (Ci P w j (λk=>decide (k∈ds)) ds.length);refine⟨j,_,_,rfl,AX,q _ _ F2 _ (c.trans (m2.trans (b.trans (d.trans A)))) (.int _) (kk ds.length ⟨λz x hx=>Jb λB=>?_,λz=>?_⟩)⟩
  .rw[List.length_eq_zero_iff]at z;subst z;exact absurd ((YY x).mpr ⟨(KA ns x).mpr hx,λy=>B ((KA ms x).mp y)⟩) Aq
  .cases ds with
   |nil=>rfl
   |cons x r=>
    obtain⟨t,s⟩:=(YY x).mp Aj;exact absurd ((KA ms x).mpr (z x ((KA ns x).mp t))) s⟩
end
end Fz
namespace L2
theorem y6{X:Cx}:KZ X "list.clear" Tc:=p6
end L2
namespace Fz
open L2 Lw
def Vo(K:ZBx):R2:=λx y H Q=>∃(q:PV)(a:Addr)(vs:List V)(xs:List PV),y=.ref a/\AG K H a vs/\AF H vs xs/\Rep H x q/\(∀p∈xs,dat K 40 p)/\dat K 40 q/\Q (.bl (!xs.any λp=>BO p q)) H
section
variable{X:Cx}
theorem uQ(P:X.A.units+64<cLine):Aw X (compareOp .NotIn) (Vo X.K):=by
 intro Zq s Z H x y v u Q I C B h;obtain⟨q,a,vs,xs,rfl,G,m,D,hx,hd,k⟩:=h;cases B;obtain⟨A0,r,pl,hz⟩:=I.list G;have R:=r.length;have S:=m.length
 classical
 have at':∀(i:Nat)(w:Value),A0[i]?=some w->∃p,xs[i]?=some p/\SeqAt.EqAt X.A.in1 s w v (BO p q):=λi w hw=>by
  have hi:i<A0.length:=(List.getElem?_eq_some_iff.mp hw).1;have n:vs[i]?=some vs[i]:=AK (by omega);obtain⟨O,o,E⟩:=r.get n;rw[hw]at o;cases o;obtain⟨p,d,F⟩:=m.get' n;exact⟨p,d,d4 I 40 vs[i] x p q F D (hx p (BB d)) hd X.A.in1 w v E C (by show X.A.units+1+40<cLine;omega)⟩
 let e:Value->Bool:=λw=>decide (∃(i:Nat)(p:PV),A0[i]?=some w/\xs[i]?=some p/\BO p q=true)
 refine SeqAt.notIn_listAt e pl.isList (λw hw=>?_) ⟨.bl _,H,I,rfl,?_⟩
 .obtain⟨i,hi,M⟩:=Array.mem_iff_getElem.mp hw;have z:A0[i]?=some w:=by
   have:i<A0.length:=by simpa using hi
   rw[AK this];simpa using M
  by_cases f:∃(i:Nat)(p:PV),A0[i]?=some w/\xs[i]?=some p/\BO p q=true
  .have:e w=true:=hU f;rw[this];obtain⟨j,p,h1,h2,l⟩:=f;obtain⟨c,g,b⟩:=at' j w h1;rw[h2]at g;cases g;rw[l]at b;exact b
  .have:e w=false:=iF f;rw[this];obtain⟨c,g,b⟩:=at' i w z;have:BO c q=false:=by
    cases L:BO c q with
    |false=>rfl
    |true=>exact absurd ⟨i,c,z,g,L⟩ f
   rw[this]at b;exact b
 .have ea:A0.toArray.any e=xs.any λp=>BO p q:=by
   rw[HQ,Array.any_eq_true,L0];constructor
   .rintro⟨i,hi,h⟩;obtain⟨j,p,_,h2,l⟩:=lx h;exact⟨p,BB h2,l⟩
   .rintro⟨p,d,h⟩;obtain⟨j,J,N⟩:=List.mem_iff_getElem.mp d;have t:j<A0.length:=by omega
    exact⟨j,by simpa using t,hU ⟨j,p,by rw[AK t];simp,by rw[AK J,N],h⟩⟩
  rw[ea];exact k
end
section
variable[Xw]
variable{ss:List Slot}{ta tb:TE}{K:ZBx}{k:PV->Prop}{nx:List Slot->Prop}{R:Ae}{xs:List PV}
theorem vF(h:Wp ss ta λq=>Wq ss tb λtp xs=>tp=false/\(∀p∈xs,dat K 40 p)/\dat K 40 q/\k (.bl (!xs.any λp=>BO p q))):Wp ss (B8 (Vo K) ta tb) k:=⟨λE Z F H Q S q=>
 h.go E Z F H _ S λv p F1 H1 a b h2=>h2.go E Z F1 H1 _ a.st λv2 tp xs F2 H2 m2 sv AN=>by
  obtain⟨d,f,e,kk⟩:=AN;subst d;obtain⟨l,vs,rfl,c,r⟩:=sv.seq m2.st;exact⟨p,l,vs,xs,rfl,AG.of c,r.mono m2.st.fh,(b.mono m2.ff).mono m2.st.fh,f,e,q _ _ F2 H2 (a.trans m2) (.bl _) kk⟩⟩
theorem ZA1{i:Nat}(hi:ss[i]?=some (.own xs))(h:nx (ss.set i (.own []))):Ws ss (Hy (T7 K "list" Tc (Ar i))) nx R:=⟨λE D Z F H S b d=>by
 obtain⟨l,vs,e,e1,c,a,r⟩:=S.ok i _ hi;exact⟨_,e,.inl ⟨rfl,_,AG.of a⟩,l,vs,rfl,rfl,a,b _ Z F _ h (S.put hi e e1 c .nil) (AD.refl _)⟩⟩
variable{te:TE}
variable{P:Program}{w:World}
end
end Fz
namespace Fz
open L2 Lw
variable{ss:List Slot}
noncomputable def Mf:Slot->Slot
 | .own xs=>.is (.lst xs)
 | .ow _ t=>.is t.pv
 | .AH=>.any
 |s=>s
section
variable{E:Ent0}{Z:L2.St}{F H F' H':Hp}
theorem Sg.Xi(S:Sg E ss Z F H):Sg (E3 [] (Bs F H (DG ss Z)) H) (ss.map Mf) Z (Bs F H (DG ss Z)) H:=by
 have nn:∀{p:Prop}(a:Addr),a∈([]:List Addr)->p:=λa h=>absurd h Aq;refine⟨⟨S.J6.2,AD.refl _,λ_ _ _ e=>e,λ_ _ e=>.inl e,λa h=>nn a h,λa h=>nn a h,λa h=>nn a h,λa h=>nn a h,λa h=>nn a h,λa h=>nn a h⟩,by rw[AA,S.len],λi s hi=>?_,λi j s u l CH hi n ms mu=>?_⟩
 .rw[AO]at hi;cases e:ss[i]? with
  |none=>rw[e]at hi;cases hi
  |some s0=>
   rw[e]at hi;have es:Mf s0=s:=B3 hi;subst es;have k:=S.ok i s0 e;cases s0 with
   |any=>trivial
   |is p=>obtain⟨v,e1,r⟩:=k;exact⟨v,e1,r.mono S.J6.1⟩
   |own xs=>
    obtain⟨l,vs,e1,_,_,g,r⟩:=k;refine⟨_,e1,.lst ?_ (r.mono S.J6.1)⟩;unfold Bs;rw[i5 (Tt S.len e (by simp) e1)];exact g
   |AH=>trivial
   |sq tp xs=>
    cases tp with
    |true=>obtain⟨v,e1,r⟩:=k;exact⟨v,e1,r.mono S.J6.1⟩
    |false=>
     obtain⟨l,vs,e1,f,m,r⟩:=k;exact⟨l,vs,e1,⟨Aq,Aq⟩,S.keep l _ f m,r.mono S.J6.1⟩
   |raw P=>obtain⟨v,e1,c,b⟩:=k;exact⟨v,e1,b _ _ S.J6.1 c,b⟩
   |ow lt t=>
    obtain⟨v,e1,r,_,_⟩:=k;refine⟨v,e1,r.rep S.J6.1 λa d o ho=>?_⟩;unfold Bs;rw[i5 (Tt S.len e (by simp) d)];exact ho
 .rw[AO]at hi;cases e:ss[i]? with
  |none=>rw[e]at hi;cases hi
  |some s0=>
   rw[e]at hi;have es:Mf s0=s:=B3 hi;subst es;cases s0 <;> cases ms
mutual
def OV.FV:OV->Bool
 | .fz p=>Gd p
 | .tp xs=>OV.Fj xs
 | .nd _ _ xs=>OV.Fj xs
def OV.Fj:List OV->Bool
 | []=>true
 |x::r=>x.FV && OV.Fj r
end
theorem Af.lH{as:List Addr}(h:∀a∈as,∀vs,F a≠some (.tup vs)):∀{v:V}{t:OV},Af F H v t->t.FV=true->Af (DW F as) H v t:=by
 intro v t r d;exact Af.rec (motive_1:=λv t _=>t.FV=true->Af (DW F as) H v t) (motive_2:=λvs ts _=>OV.Fj ts=true->Au (DW F as) H vs ts)
  (λ{v p}r z=>.fz (r.sub h (by simpa[OV.FV]using z)))
  (λ{a vs xs}e _ b z=>.tp (by unfold DW;rw[i3 (λq=>h a q vs e)];exact e) (b (by simpa[OV.FV]using z)))
  (λ{k a vs xs}e c f _ b z=>.nd e c f (b (by simpa[OV.FV]using z)))
  (λ_=>.nil)
  (λ_ _ D7 Dq z=>by
   rw[OV.Fj,Cq]at z;exact .cons (D7 z.1) (Dq z.2))
  r d
end
section
variable{te:TE}{c:TT}
def bu(E:Ent0)(F H:Hp)(as:List Addr):@Ent aq:=@Ent.mk aq (E3 [] (Bs F H as) H) λ_ _ _ _ _ _ _ _ _ d _=>d.elim
theorem ZA8{k:Bool->Prop}(h:Wt (ss.map Mf) c k):Wt ss c k:=⟨λE Z F H Q S q=>by
 refine h.go (bu E F H (DG ss Z)) Z _ H Q S.Xi λb F' H' m kk=>?_;exact q b _ H' (S.ba m.st.toFin).1 kk⟩
theorem kO{k:List Nat->OV->Prop}(h:Wx (ss.map Mf) te λm u=>m=[]/\u.FV=true/\k [] u):Wx ss te k:=⟨λE Z F H Q S q=>by
 refine h.go (bu E F H (DG ss Z)) Z _ H Q S.Xi λv l u F' H' m c nd d⟨j,g,kk⟩=>?_;subst j;obtain⟨M,e⟩:=S.ba m.st.toFin;refine q v [] u _ H' M (c.lH e g) nd (λa i=>?_) kk;obtain⟨f,b,_⟩:=d a i;have b:H a=none:=b;exact⟨by unfold DW;split <;> first|rfl|exact f,S.DD b,.inr b⟩⟩
end
end Fz
namespace Fz
open L2 Lw
variable{ss:List Slot}{ta tb tc te ti:TE}{nx:List Slot->Prop}{R:Ae}{i j:Nat}
theorem Yn{pre:Pre}(b:∀ss R,¬ pre ss R){vs:List V}{H:Hp}{Q:VK}{E:XK}(h:EU pre vs H Q E):False:=by
 obtain⟨ss,R,F,A,B,a,_⟩:=h;exact b ss R a
end Fz
namespace L2
section
variable{X:Cx}
theorem jx:Br X (.builtin "len") (λxs H Q=>∃l f n,xs=[.ref l]/\H l=some (Ci X.prog X.w l f n)/\Q (.int n) H):=by
 intro Zq s Z H xs us Q I r h;obtain⟨l,f,n,rfl,e,q⟩:=h;obtain⟨u,rfl,b⟩:=vals1 r;cases b;obtain⟨⟨o,es,ep,t,ho,a,hd,_,_,Iy,d,c,_⟩,_,_⟩:=I.AE l _ e;subst c;refine PySem.call_len_set ho a hd d ?_ ⟨.int _,H,I.tok _,⟨_,rfl⟩,q⟩;have:es.size<4096:=Iy;have h2:(4096:Int)<2 ^ 63:=by decide
 omega
end
end L2
namespace Fz
open L2 Lw
variable{ch pre:List Nat}{n u x:Nat}{Ls:List Lp}
def D9(l o:Lp):Prop:=∀x∈o.cs,x∈l.cs
instance (l o:Lp):Decidable (D9 l o):=inferInstanceAs (Decidable (∀x∈o.cs,x∈l.cs))
def dr:Pre:=λl R=>∃l1 l2:Lp,l=[.is l1.P,.is l2.P]/\l1.cs.length<=40/\l2.cs.length<=40/\R=.is (·=.bl (decide (D9 l1 l2)))
def Yk:Pre:=λl R=>∃l1 l2:Lp,l=[.is l1.P,.is l2.P]/\l1.cs.length<=40/\l2.cs.length<=40/\R=.is (·=.bl (decide (D9 l2 l1)))
def WN:Pre:=λl R=>∃l1 l2:Lp,l=[.is l1.P,.is l2.P]/\l1.cs.length<=40/\l2.cs.length<=40/\R=.is (·=.bl (decide (D9 l2 l1∨D9 l1 l2)))
def CP(p:Int×Int):PV:=.tup [.int p.1,.int p.2]
noncomputable def Bc(Ls:List Lp)(n u:Nat):Bool:=match Ls[n]?,Ls[u]? with
 |some a,some b=>if a.cs=b.cs then decide (n<u)else decide (D9 b a)
 |_,_=>false
def Lu(Ls:List Lp):Prop:=Ls.length<=12/\∀l∈Ls,l.cs.length<=40
def ups(Ls:List Lp)(n:Nat):List Nat:=(List.range Ls.length).filter (Bc Ls n)
def Bv:Option Nat->PV
 |none=>.A6
 |some n=>.int n
inductive Dn (lo:List (Option Nat)):Nat->List Nat->Prop
 |one {n:Nat}:lo[n]?=some none->Dn lo n [n]
 |more {n m:Nat}{ch:List Nat}:lo[n]?=some (some m)->Dn lo m ch->Dn lo n (n::ch)
def cF:Pre:=λl R=>∃(lo:List (Option Nat))(top:Nat)(ch:List Nat),l=[.sq false (lo.map Bv),.is (.int top)]/\lo.length<=12/\Dn lo top ch/\ch.length<=12/\R=.new (·=ch.map λn:Nat=>PV.int n)
theorem yi:BR ((pre++[x]).map λn:Nat=>PV.int n) (-1)=some (.int x):=by
 rw[EK];exact wa _ _
theorem cP{α:Type}[DecidableEq α]{l m:List α}(nd:l.Nodup)(a:∀k∈l,k∈m)(hz:m.length<=l.length):∀k∈m,k∈l:=λx hx=>Jb λb=>by
 have q:=JL (l:=x::l) (m:=m) (List.nodup_cons.mpr ⟨b,nd⟩) λk hk=>(List.mem_cons.mp hk).elim (λe=>e▸hx) (a k);rw[BA]at q;omega
structure Uq (Ls:List Lp):Prop where
 len:Ls.length<=12
 nd:∀a∈Ls,a.cs.Nodup
 uq:∀a∈Ls,∀b∈Ls,(∀x,x∈a.cs↔x∈b.cs)->a.cs=b.cs
noncomputable def mu(Ls:List Lp)(n:Nat):Nat:=match Ls[n]? with
 |some l=>l.cs.length * 100+n
 |none=>0
theorem PU{l:Lp}(h:Ls[n]?=some l):mu Ls n=l.cs.length * 100+n:=by unfold mu;rw[h]
theorem HL(h:Bc Ls n u=true):∃a b,Ls[n]?=some a/\Ls[u]?=some b/\((a.cs=b.cs/\n<u)∨(a.cs≠b.cs/\D9 b a)):=by
 unfold Bc at h;cases ea:Ls[n]? with
 |none=>rw[ea]at h;cases h
 |some a=>
  cases d:Ls[u]? with
  |none=>rw[ea,d]at h;cases h
  |some b=>
   rw[ea,d]at h;refine⟨a,b,rfl,rfl,?_⟩;dsimp only at h
   by_cases c:a.cs=b.cs
   .rw[i5 c]at h;exact .inl ⟨c,lx h⟩
   .rw[i3 c]at h;exact .inr ⟨c,lx h⟩
theorem Ih(U:Uq Ls)(h:Bc Ls n u=true):mu Ls n<mu Ls u:=by
 obtain⟨a,b,ea,f,c⟩:=HL h;have i:=(List.getElem?_eq_some_iff.mp ea).1;have j:=U.len;rw[PU ea,PU f];rcases c with⟨c,A8⟩|⟨c,d⟩
 .rw[c];omega
 .have e:=BB ea;have g:=BB f;have q:=JL (U.nd a e) d;rcases ZAr q with q|q
  .omega
  .exact absurd (U.uq a e b g λx=>⟨d x,cP (U.nd a e) d (Rj q.symm) x⟩) c
theorem oK{a b c:Nat}(U:Uq Ls)(h:Bc Ls a b=true)(h2:Bc Ls b c=true):Bc Ls a c=true:=by
 have m:=Ih U h;have m2:=Ih U h2;obtain⟨x,y,ex,o,l⟩:=HL h;obtain⟨p,z,f,g,j⟩:=HL h2;rw[o]at f;cases f;have n:D9 z x:=by
  rcases l with⟨e1,_⟩|⟨_,s1⟩ <;> rcases j with⟨i,_⟩|⟨_,s2⟩
  .intro k hk;rw[<- i,<- e1];exact hk
  .intro k hk;exact s2 k (e1▸hk)
  .intro k hk;rw[<- i];exact s1 k hk
  .intro k hk;exact s2 k (s1 k hk)
 have d:mu Ls a<mu Ls c:=XR m m2;rw[PU ex,PU g]at d;unfold Bc;rw[ex,g];dsimp only
 by_cases e:x.cs=z.cs
 .rw[i5 e];rw[e]at d;exact hU (by omega)
 .rw[i3 e];exact hU n
theorem Ur{lo:List (Option Nat)}(U:Uq Ls)(hz:lo.length=Ls.length)(h:∀u v,lo[u]?=some (some v)->Bc Ls v u=true):∀(k n:Nat),mu Ls n<=k->n<lo.length->∃ch,Dn lo n ch/\ch.Nodup/\(∀x∈ch,x<lo.length/\mu Ls x<=mu Ls n):=by
 have one:∀n,n<lo.length->lo[n]?=some none->∃ch,Dn lo n ch/\ch.Nodup/\(∀x∈ch,x<lo.length/\mu Ls x<=mu Ls n):=λn c e=>
  ⟨[n],.one e,List.nodup_cons.mpr ⟨Aq,IW⟩,λx hx=>by rw[L1]at hx;subst hx;exact⟨c,Aa _⟩⟩
 intro k
 induction k with
 |zero=>
  intro n hk c;have e:=AK c;cases d:lo[n]with
  |none=>rw[d]at e;exact one n c e
  |some v=>
   rw[d]at e;have:=Ih U (h n v e);omega
 |succ k j=>
  intro n hk c;have e:=AK c;cases d:lo[n]with
  |none=>rw[d]at e;exact one n c e
  |some v=>
   rw[d]at e;have m:=Ih U (h n v e);obtain⟨a,b,ea,o,_⟩:=HL (h n v e);have l:v<lo.length:=hz▸(List.getElem?_eq_some_iff.mp ea).1;obtain⟨ch,i,g,f⟩:=j v (by omega) l;refine⟨n::ch,.more e i,List.nodup_cons.mpr ⟨λhx=>?_,g⟩,λx hx=>?_⟩
   .have:=(f n hx).2;omega
   .rcases List.mem_cons.mp hx with rfl|hx
    .exact⟨c,Aa _⟩
    .exact⟨(f x hx).1,CQ (f x hx).2 (IX m)⟩
theorem m9{lo:List (Option Nat)}(nd:ch.Nodup)(h:∀x∈ch,x<lo.length):ch.length<=lo.length:=by
 have q:=JL (m:=List.range lo.length) nd λx hx=>List.mem_range.mpr (h x hx)
 rwa [D2]at q
theorem Dn.uniq{lo:List (Option Nat)}{Hh:List Nat}(a:Dn lo n ch)(b:Dn lo n Hh):ch=Hh:=by
 induction a generalizing Hh with
 |one e=>
  cases b with
  |one _=>rfl
  |more c _=>rw[e]at c;cases c
 |more e _ d=>
  cases b with
  |one c=>rw[e]at c;cases c
  |more c f=>rw[e]at c;cases c;rw[d f]
theorem Dn.ZZ{lo:List (Option Nat)}(U:Uq Ls)(h:∀u v,lo[u]?=some (some v)->Bc Ls v u=true)(a:Dn lo n ch):ch.Pairwise (λu v=>Bc Ls v u=true)/\∀x∈ch,x=n∨Bc Ls x n=true:=by
 induction a with
 |one e=>exact⟨gR _ _,λx hx=>.inl (List.mem_singleton.mp hx)⟩
 |@more n m ch e _ b=>
  have c:=h _ _ e;have key:∀x∈ch,Bc Ls x n=true:=λx hx=>by
   rcases b.2 x hx with rfl|q
   .exact c
   .exact oK U q c
  refine⟨List.pairwise_cons.mpr ⟨key,b.1⟩,λx hx=>?_⟩;rcases List.mem_cons.mp hx with rfl|hx
  .exact .inl rfl
  .exact .inr (key x hx)
end Fz
namespace Kz
variable{ab:Nat->List Nat}{n t:Nat}{A T ch tr:List Nat}{Ls:List Lp}
def Cl(ab:Nat->List Nat)(lo:Lo)(T:List Nat):Prop:=∀z∈T,∃w,lo[z]?=some (some w)/\∀u∈ab w,u∈T
theorem yH{lo:Lo}{v:Nat}(Bt:∀v u,u∈ab v->u<lo.length)(s:DB ab v lo)(nd:tr.Nodup)(lt:∀z∈tr,z<lo.length)(k:lo.length<n+tr.length)(cl:Cl ab lo tr):
  ∃BU,fu ab n v lo tr=(false,lo,BU)/\BU.Nodup/\(∀z∈BU,z<lo.length)/\(∀z∈tr,z∈BU)/\(∀u∈ab v,u∈BU)/\Cl ab lo BU:=by
 have q:=LN Bt n v tr nd lt k;obtain⟨σ,l,m⟩:=s;cases e:fu ab n v lo tr with
 |mk b x=>
  obtain⟨BC,BU⟩:=x;rw[e]at q;cases b with
  |true=>
   obtain⟨p,j,_⟩:=q;exact absurd j (DB.no m l)
  |false=>
   obtain⟨rfl,a,g,f,_,d,c⟩:=q;refine⟨BU,rfl,g,f,a,d,λz hz=>?_⟩;rcases c z hz with h|h
   .obtain⟨w,e,h⟩:=cl z h;exact⟨w,e,λu i=>a u (h u i)⟩
   .exact h
noncomputable def gp(ab:Nat->List Nat)(m n:Nat):Nat->Lo
 | 0=>List.replicate m none
 |k+1=>(fu ab n k (gp ab m n k) []).2.1
theorem UP{ab:Nat->List Nat}{m n:Nat}(Bt:∀v u,u∈ab v->u<m)(a:m<n):∀k,(gp ab m n k).length=m/\(lows (gp ab m n k)).Nodup/\Lh ab (gp ab m n k)/\(∀w∈lows (gp ab m n k),w<k)/\∀w,w<k->w∈lows (gp ab m n k)∨DB ab w (gp ab m n k)
 | 0=>by
  have e:∀m,lows (List.replicate m none)=[]:=λm=>by
   induction m with
   |zero=>rfl
   |succ m o=>rw[ZAm];exact o
  refine⟨gN,by show(lows (List.replicate m none)).Nodup;rw[e];exact .nil,λu w h=>?_,λw h=>?_,λw h=>absurd h (Nat.not_lt_zero w)⟩
  .have:=Fb.mpr ⟨u,h⟩;rw[show lows (gp ab m n 0)=[]from e m]at this;cases this
  .rw[show lows (gp ab m n 0)=[]from e m]at h;cases h
 |k+1=>by
  obtain⟨h1,h2,q,c,p⟩:=UP Bt a k;obtain⟨b,BC,BU,e,l,j,i,g,f,d⟩:=step (v:=k) (λv u h=>by rw[h1];exact Bt v u h) (by rw[h1];exact a) h2 q λh=>MP _ (c k h);have el:gp ab m n (k+1)=BC:=by show(fu ab n k (gp ab m n k) []).2.1=BC;rw[e]
  rw[el];refine⟨l.trans h1,j,i,λw hw=>?_,λw hw=>?_⟩
  .rcases f w hw with rfl|h
   .exact MQ _
   .exact GD (c w h)
  .rcases ZAr (OJ hw)with h|rfl
   .exact d w (p w h)
   .exact g
noncomputable def tryAll(ab:Nat->List Nat)(n:Nat)(lo:Lo):List Nat->List Nat->List Nat
 | [],tr=>tr
 |t::ts,tr=>tryAll ab n lo ts (fu ab n t lo tr).2.2
theorem bU{ab:Nat->List Nat}{lo:Lo}{n:Nat}(Bt:∀v u,u∈ab v->u<lo.length)(b:lo.length<n):∀(ts tr:List Nat),(∀t∈ts,DB ab t lo)->tr.Nodup->(∀z∈tr,z<lo.length)->Cl ab lo tr->
  (tryAll ab n lo ts tr).Nodup/\(∀z∈tr,z∈tryAll ab n lo ts tr)/\Cl ab lo (tryAll ab n lo ts tr)/\∀t∈ts,∀u∈ab t,u∈tryAll ab n lo ts tr
 | [],tr,_,nd,_,cl=>⟨nd,λ_ h=>h,cl,λ_ h=>by cases h⟩
 |t::ts,tr,s,nd,lt,cl=>by
  obtain⟨BU,e,h1,h2,f,d,c⟩:=yH (n:=n) Bt (s t Aj) nd lt (by omega) cl;have q:=bU Bt b ts BU (λx hx=>s x (B2 _ hx)) h1 h2 c;have el:tryAll ab n lo (t::ts) tr=tryAll ab n lo ts BU:=by show tryAll ab n lo ts (fu ab n t lo tr).2.2=_;rw[e]
  rw[el];refine⟨q.1,λz hz=>q.2.1 z (f z hz),q.2.2.1,λx hx u a=>?_⟩;rcases List.mem_cons.mp hx with rfl|hx
  .exact q.2.1 u (d u a)
  .exact q.2.2.2 x hx u a
open Fz in
theorem fO{lo:Lo}(cl:Cl ab lo T)(d:Dn lo n ch):(∀u∈ab n,u∈T)->∃x r,(ch.filter λy=>decide (y∉T))=x::r/\x∈ch/\x∉T/\∀u∈ab x,u∈T:=by
 induction d with
 |@one n e=>
  intro h;have a:n∉T:=λz=>by
   obtain⟨w,b,_⟩:=cl n z;rw[e]at b;cases b
  exact⟨n,[],by simp[a],Aj,a,h⟩
 |@more n m ch e _ c=>
  intro h
  by_cases a:n∈T
  .obtain⟨w,b,hw⟩:=cl n a;rw[e]at b;cases b;obtain⟨x,r,h1,h2,g,f⟩:=c hw;exact⟨x,r,by rw[XC (by simp[a]),h1],B2 _ h2,g,f⟩
  .exact⟨n,ch.filter λy=>decide (y∉T),by rw[XD (by simp[a])],Aj,a,h⟩
open Fz
theorem tS{B:List Nat}(R:Nat->Nat->Prop)(d:∀a∈A,∃b,b∈B/\R a b)(inj:∀a∈A,∀j∈A,∀b,R a b->R j b->a=j)(nd:A.Nodup):A.length<=B.length:=by
 obtain⟨f,g⟩:∃f:Nat->Nat,∀a∈A,f a∈B/\R a (f a):=by
  have k:∀a,Decidable (∃b,b∈B/\R a b):=λ_=>Classical.propDecidable _;exact⟨λa=>if h:∃b,b∈B/\R a b then Classical.choose h else 0,λa c=>by
   dsimp only;rw[dif_pos (d a c)];exact X1 (d a c)⟩
 have nm:(A.map f).Nodup:=by
  unfold List.Nodup at nd ⊢;rw[Rh];refine X8 (λ{a b}c i AV e=>AV (inj a c b i (f a) (g a c).2 (e▸(g b i).2))) nd
 have q:=Kj (l2:=B) nm λx hx=>by
  obtain⟨a,c,rfl⟩:=List.mem_map.mp hx;exact(g a c).1
 rwa [AA]at q
theorem WJ{lo:Lo}(d:Dn lo n ch):n∈ch:=by cases d <;> exact Aj
theorem Nf{lo:Lo}(d:Dn lo n ch):∀x∈ch,x=n∨∃u∈ch,lo[u]?=some (some x):=by
 induction d with
 |one _=>intro x hx;exact .inl (List.mem_singleton.mp hx)
 |@more n m ch e d a=>
  intro x hx;rcases List.mem_cons.mp hx with rfl|hx
  .exact .inl rfl
  .rcases a x hx with rfl|⟨u,hu,e2⟩
   .exact .inr ⟨n,Aj,e⟩
   .exact .inr ⟨u,B2 _ hu,e2⟩
theorem ml{lo:Lo}(d:Dn lo n ch):∀u∈ch,∀x,lo[u]?=some (some x)->x∈ch:=by
 induction d with
 |one e=>
  intro u b x a;rw[List.mem_singleton.mp b,e]at a;cases a
 |@more n m ch e d c=>
  intro u b x a;rcases List.mem_cons.mp b with rfl|b
  .rw[e]at a;cases a;exact B2 _ (WJ d)
  .exact B2 _ (c u b x a)
structure Pg (Ls:List Lp) (lo:Lo):Prop where
 uq:Uq Ls
 len:lo.length=Ls.length
 fit:∀u v,lo[u]?=some (some v)->Bc Ls v u=true
 nd:(lows lo).Nodup
 bd:∀l∈Ls,l.cs.length<=40
theorem Qj{lo:Lo}(G:Pg Ls lo)(n:Nat):mu Ls n<=5000:=by
 unfold mu;cases e:Ls[n]? with
 |none=>exact Bo _
 |some l=>
  have h1:=G.bd l (BB e);have h2:=(List.getElem?_eq_some_iff.mp e).1;have a:=G.uq.len;show l.cs.length * 100+n<=5000;omega
theorem ZI{lo:Lo}(G:Pg Ls lo):∀(k n:Nat),5000 - mu Ls n<=k->n<lo.length->∃t,t<lo.length/\t∉lows lo/\∃ch,Dn lo t ch/\n∈ch:=by
 have top:∀n,n<lo.length->n∉lows lo->∃t,t<lo.length/\t∉lows lo/\∃ch,Dn lo t ch/\n∈ch:=λn a h=>by
  obtain⟨ch,d,_⟩:=Ur G.uq G.len G.fit _ n (Aa _) a;exact⟨n,a,h,ch,d,WJ d⟩
 intro k
 induction k with
 |zero=>
  intro n hk a;refine top n a λh=>?_;obtain⟨u,e⟩:=Fb.mp h;have:=Ih G.uq (G.fit u n e);have:=Qj G u;omega
 |succ k f=>
  intro n hk a
  by_cases h:n∈lows lo
  .obtain⟨u,e⟩:=Fb.mp h;have h1:=Ih G.uq (G.fit u n e);have h2:=Qj G u;obtain⟨t,c,b,ch,d,g⟩:=f u (by omega) (List.getElem?_eq_some_iff.mp e).1;exact⟨t,c,b,ch,d,ml d u g n e⟩
  .exact top n a h
theorem dv{lo:Lo}(G:Pg Ls lo){t':Nat}{Hh:List Nat}(c:t∉lows lo)(a:t'∉lows lo)(d:Dn lo t ch)(d':Dn lo t' Hh):∀(k n:Nat),5000 - mu Ls n<=k->n∈ch->n∈Hh->t=t':=by
 have no:∀{t n:Nat},t∉lows lo->(∃u∈ch,lo[u]?=some (some t))->False:=λh⟨u,_,e⟩=>h (Fb.mpr ⟨u,e⟩);intro k
 induction k with
 |zero=>
  intro n hk h h';have top:n∉lows lo:=λh=>by
   obtain⟨u,e⟩:=Fb.mp h;have:=Ih G.uq (G.fit u n e);have:=Qj G u;omega
  rcases Nf d n h with e|⟨u,_,e⟩
  .rcases Nf d' n h' with e'|⟨u,_,e'⟩
   .exact e.symm.trans e'
   .exact absurd (Fb.mpr ⟨u,e'⟩) top
  .exact absurd (Fb.mpr ⟨u,e⟩) top
 |succ k b=>
  intro n hk h h';rcases Nf d n h with e|⟨u,hu,e⟩
  .rcases Nf d' n h' with e'|⟨u,_,e'⟩
   .exact e.symm.trans e'
   .exact absurd (Fb.mpr ⟨u,e▸e'⟩) c
  .rcases Nf d' n h' with e'|⟨u',Ft,e'⟩
   .exact absurd (Fb.mpr ⟨u,e'▸e⟩) a
   .have f:=cR G.nd e e';subst f;have h1:=Ih G.uq (G.fit u n e);have h2:=Qj G u;exact b u (by omega) hu Ft
def Ax(lo:Lo):List Nat:=(List.range lo.length).filter λn=>decide (n∉lows lo)
theorem DF{lo:Lo}:t∈Ax lo↔t<lo.length/\t∉lows lo:=by unfold Ax;simp[Rf,Rg]
theorem yS{lo:Lo}(G:Pg Ls lo)(nd:A.Nodup)(lt:∀a∈A,a<lo.length)(ap:∀a∈A,∀b∈A,a≠b->¬ Bc Ls a b=true):A.length<=(Ax lo).length:=by
 refine tS (λa t=>t∉lows lo/\∃ch,Dn lo t ch/\a∈ch) (λa c=>?_) (λa c b e t h h'=>?_) nd
 .obtain⟨t,h1,h2,k⟩:=ZI G _ a (Aa _) (lt a c);exact⟨t,DF.mpr ⟨h1,h2⟩,h2,k⟩
 .obtain⟨_,ch,d,i⟩:=h;obtain⟨_,Hh,d',g⟩:=h';have m:=Dn.uniq d d';subst m;refine Jb λAV=>?_;obtain⟨f,_⟩:=Dn.ZZ G.uq G.fit d;have key:∀(l:List Nat),l.Pairwise (λu v=>Bc Ls v u=true)->a∈l->b∈l->Bc Ls a b=true∨Bc Ls b a=true:=λl=>by
   induction l with
   |nil=>intro _ h;cases h
   |cons x r j=>
    intro p h1 h2;obtain⟨p1,p2⟩:=List.pairwise_cons.mp p;rcases List.mem_cons.mp h1 with rfl|m1 <;> rcases List.mem_cons.mp h2 with rfl|m2
    .exact absurd rfl AV
    .exact .inr (p1 _ m2)
    .exact .inl (p1 _ m1)
    .exact j p2 m1 m2
  rcases key ch f i g with h|h
  .exact ap a c b e AV h
  .exact ap b e a c (BM AV) h
theorem Ov{u:Nat}:u∈ups Ls n↔u<Ls.length/\Bc Ls n u=true:=by unfold ups;simp[Rf,Rg]
theorem ra(U:Uq Ls)(bd:∀l∈Ls,l.cs.length<=40)(d:Ls.length<n):Pg Ls (gp (ups Ls) Ls.length n Ls.length)/\∀t∈Ax (gp (ups Ls) Ls.length n Ls.length),DB (ups Ls) t (gp (ups Ls) Ls.length n Ls.length):=by
 obtain⟨h1,h2,g,i,f⟩:=UP (ab:=ups Ls) (m:=Ls.length) (n:=n) (λv u h=>(Ov.mp h).1) d Ls.length;refine⟨⟨U,h1,λu v e=>(Ov.mp (g u v e)).2,h2,bd⟩,λt c=>?_⟩;obtain⟨b,a⟩:=DF.mp c;exact(f t (h1▸b)).resolve_left a
theorem pH{lo:Lo}(G:Pg Ls lo)(cl:Cl (ups Ls) lo T)(l:∀t∈Ax lo,∀u∈ups Ls t,u∈T)(f:Nat->Nat)(c:Nat->List Nat)(j:∀t∈Ax lo,Dn lo t (c t))(m:∀t∈Ax lo,∃r,((c t).filter λy=>decide (y∉T))=f t::r):
  ((Ax lo).map f).Nodup/\(∀a∈(Ax lo).map f,a<lo.length)/\∀a∈(Ax lo).map f,∀b∈(Ax lo).map f,¬ Bc Ls a b=true:=by
 have one:∀t∈Ax lo,f t∈c t/\f t∉T/\(∀u∈ups Ls (f t),u∈T)/\f t<lo.length:=λt h=>by
  obtain⟨x,r,e,h1,h2,n⟩:=fO cl (j t h) (l t h);obtain⟨o,k⟩:=m t h;rw[e]at k;injection k with k _
  subst k;obtain⟨ch,d,_,q⟩:=Ur G.uq G.len G.fit _ t (Aa _) (DF.mp h).1;have:=Dn.uniq d (j t h);subst this;exact⟨h1,h2,n,(q _ h1).1⟩
 refine⟨?_,λa g=>?_,λa g b i Bt=>?_⟩
 .have nd:(Ax lo).Nodup:=ZAU _ ZAk;unfold List.Nodup at nd ⊢;rw[Rh];refine X8 (λ{a b}g i AV e=>AV ?_) nd;exact dv G (DF.mp g).2 (DF.mp i).2 (j a g) (j b i) _ (f a) (Aa _) (one a g).1 (e▸(one b i).1)
 .obtain⟨t,h,rfl⟩:=List.mem_map.mp g;exact(one t h).2.2.2
 .obtain⟨t,h,rfl⟩:=List.mem_map.mp g;obtain⟨t',h',rfl⟩:=List.mem_map.mp i;exact(one t' h').2.1 ((one t h).2.2.1 _ (Ov.mpr ⟨G.len▸(one t' h').2.2.2,Bt⟩))
theorem qC{x y:Nat}{a b:Lp}(AV:x≠y)(e:Ls[x]?=some a)(d:Ls[y]?=some b):(D9 a b∨D9 b a)↔(Bc Ls x y=true∨Bc Ls y x=true):=by
 have e1:Bc Ls x y=if a.cs=b.cs then decide (x<y)else decide (D9 b a):=by unfold Bc;rw[e,d]
 have f:Bc Ls y x=if b.cs=a.cs then decide (y<x)else decide (D9 a b):=by unfold Bc;rw[d,e]
 rw[e1,f]
 by_cases c:a.cs=b.cs
 .rw[i5 c,i5 c.symm];refine⟨λ_=>?_,λ_=>.inl λk hk=>c▸hk⟩;rcases Nat.lt_or_gt_of_ne AV with h|h
  .exact .inl (hU h)
  .exact .inr (hU h)
 .rw[i3 c,i3 (BM c)];rw[iP,iP];exact⟨Or.symm,Or.symm⟩
end Kz
namespace Fz
open L2 Lw
variable{l ss:List Slot}{te:TE}{nx:List Slot->Prop}{R:Ae}{F H:Hp}{v1 v2 vp:V}{t1 t2:OV}{b c d l1 l2:Bool}{vs:List V}{E:Ent0}{Z:L2.St}{A:List Addr}{a:Addr}{i j n:Nat}{s:Slot}{k1 k2:NK}{Dj Dr:List OV}{kk:PV->OV->OV->Prop}
section
variable[Xw]
variable{K:ZBx}{k:PV->Prop}
theorem uv{t':TS}{l:Addr}{xs:List PV}(i:Nat)(hi:ss[i]?=some (.ow false (.nd .lst l (xs.map .fz))))(h:Ws (ss.set i (.own xs)) t' nx R):Ws ss t' nx R:=⟨λE D Z F H S n m=>by
 obtain⟨v,e,r,_,f⟩:=S.ok i _ hi;obtain⟨vs,rfl,q,w,x,d⟩:=r.inv;have a:=f l (by rw[LH];simp);have c:=S.setG (j:=i) (s:=.own xs) (v:=.ref l) ⟨l,vs,rfl,a.1,a.2.elim id (λz=>by cases z.1),q,Yc d⟩ λb p j u o k g=>by
  have t:l=b:=by have z:some (some (V.ref l))=some (some (V.ref b)):=p;injection z with z;injection z with z;injection z
  subst t;exact S.BL j i u _ l o k hi g (by show l∈OV.addrs _;rw[LH];simp)
 rw[Kd e]at c;exact h.go E D Z F H c n m⟩
end
inductive EV (F:Hp) (vp v1 v2:V) (t1 t2:OV):Bool->Bool->Bool->List V->List Slot->Prop where
 |nil:EV F vp v1 v2 t1 t2 false false false [] []
 |is {b c d:Bool}{v:V}{p:PV}{vs:List V}{l:List Slot}:Rep F v p->EV F vp v1 v2 t1 t2 b c d vs l->EV F vp v1 v2 t1 t2 b c d (v::vs) (.is p::l)
 |AH {c d:Bool}{vs:List V}{l:List Slot}:EV F vp v1 v2 t1 t2 false c d vs l->EV F vp v1 v2 t1 t2 true c d (vp::vs) (.AH::l)
 |one {b d:Bool}{vs:List V}{l:List Slot}:EV F vp v1 v2 t1 t2 b false d vs l->EV F vp v1 v2 t1 t2 b true d (v1::vs) (.ow true t1::l)
 |two {b c:Bool}{vs:List V}{l:List Slot}:EV F vp v1 v2 t1 t2 b c false vs l->EV F vp v1 v2 t1 t2 b c true (v2::vs) (.ow true t2::l)
section
variable{F':Hp}
theorem EV.len(h:EV F vp v1 v2 t1 t2 b c d vs l):l.length=vs.length:=by
 induction h with
 |nil=>rfl
 |is _ _ a=>rw[BA,BA,a]
 |AH _ a=>rw[BA,BA,a]
 |one _ a=>rw[BA,BA,a]
 |two _ a=>rw[BA,BA,a]
theorem EV.at(h:EV F vp v1 v2 t1 t2 b c d vs l):∃(n0 j i:Nat),∀(n:Nat)(s:Slot),l[n]?=some s->
  (∃v p,vs[n]?=some v/\s=.is p/\Rep F v p)∨(b=true/\n=n0/\s=.AH/\vs[n]?=some vp)∨(c=true/\n=j/\s=.ow true t1/\vs[n]?=some v1)∨(d=true/\n=i/\s=.ow true t2/\vs[n]?=some v2):=by
 induction h with
 |nil=>exact⟨0,0,0,λn s h=>by simp at h⟩
 |is r _ g=>
  obtain⟨n0,j,i,g⟩:=g;refine⟨n0+1,j+1,i+1,λn s h=>?_⟩;cases n with
  |zero=>simp at h;subst h;exact .inl ⟨_,_,rfl,rfl,r⟩
  |succ n=>
   rcases g n s (by simpa using h)with⟨v,p,q⟩|⟨a,q,f,e⟩|⟨a,q,f,e⟩|⟨a,q,f,e⟩
   .exact .inl ⟨v,p,by simpa using q⟩
   .exact .inr (.inl ⟨a,by rw[q],f,by simpa using e⟩)
   .exact .inr (.inr (.inl ⟨a,by rw[q],f,by simpa using e⟩))
   .exact .inr (.inr (.inr ⟨a,by rw[q],f,by simpa using e⟩))
 |AH _ g=>
  obtain⟨n0,j,i,g⟩:=g;refine⟨0,j+1,i+1,λn s h=>?_⟩;cases n with
  |zero=>simp at h;subst h;exact .inr (.inl ⟨rfl,rfl,rfl,rfl⟩)
  |succ n=>
   rcases g n s (by simpa using h)with⟨v,p,q⟩|⟨a,q,f,e⟩|⟨a,q,f,e⟩|⟨a,q,f,e⟩
   .exact .inl ⟨v,p,by simpa using q⟩
   .cases a
   .exact .inr (.inr (.inl ⟨a,by rw[q],f,by simpa using e⟩))
   .exact .inr (.inr (.inr ⟨a,by rw[q],f,by simpa using e⟩))
 |one _ g=>
  obtain⟨n0,j,i,g⟩:=g;refine⟨n0+1,0,i+1,λn s h=>?_⟩;cases n with
  |zero=>simp at h;subst h;exact .inr (.inr (.inl ⟨rfl,rfl,rfl,rfl⟩))
  |succ n=>
   rcases g n s (by simpa using h)with⟨v,p,q⟩|⟨a,q,f,e⟩|⟨a,q,f,e⟩|⟨a,q,f,e⟩
   .exact .inl ⟨v,p,by simpa using q⟩
   .exact .inr (.inl ⟨a,by rw[q],f,by simpa using e⟩)
   .cases a
   .exact .inr (.inr (.inr ⟨a,by rw[q],f,by simpa using e⟩))
 |two _ g=>
  obtain⟨n0,j,i,g⟩:=g;refine⟨n0+1,j+1,0,λn s h=>?_⟩;cases n with
  |zero=>simp at h;subst h;exact .inr (.inr (.inr ⟨rfl,rfl,rfl,rfl⟩))
  |succ n=>
   rcases g n s (by simpa using h)with⟨v,p,q⟩|⟨a,q,f,e⟩|⟨a,q,f,e⟩|⟨a,q,f,e⟩
   .exact .inl ⟨v,p,by simpa using q⟩
   .exact .inr (.inl ⟨a,by rw[q],f,by simpa using e⟩)
   .exact .inr (.inr (.inl ⟨a,by rw[q],f,by simpa using e⟩))
   .cases a
variable{H':Hp}
def LA(ss:List Slot)(Z:L2.St)(b:Bool)(vp:V)(A:List Addr):Prop:=(b=false/\A=[])∨∃(q:Nat)(lp:Addr),b=true/\A=[lp]/\vp=.ref lp/\ss[q]?=some .AH/\Z[q]?=some (some (.ref lp))
theorem LA.own(h:LA ss Z b vp A)(c:a∈A):∃q:Nat,ss[q]?=some .AH/\Z[q]?=some (some (.ref a)):=by
 rcases h with⟨_,rfl⟩|⟨q,lp,_,rfl,_,h1,h2⟩
 .cases c
 .rw[List.mem_singleton.mp c];exact⟨q,h1,h2⟩
theorem Sg.call2(S:Sg E ss Z F H)(y:LA ss Z b vp A)(G:Af F H v1 t1)(D:Af F H v2 t2)(nd:(t1.addrs++t2.addrs).Nodup)
  (w:∀a∈t1.addrs++t2.addrs,F a=none) (k:∀a∈t1.addrs++t2.addrs,a∉A)(a:EV F vp v1 v2 t1 t2 b c d vs l):Sg ⟨A,F,H,t1.addrs++t2.addrs⟩ l (vs.map some) F H:=by
 obtain⟨n0,K,J,m⟩:=a.at;have th:∀x∈t1.addrs++t2.addrs,H x≠none:=λx hx=>by
  rcases List.mem_append.mp hx with h|h
  .exact G.there x h
  .exact D.there x h
 have pt:∀x∈A,BV H x/\F x=none:=λx hx=>by
  obtain⟨q,h1,h2⟩:=y.own hx;obtain⟨l,e,I,_,p⟩:=S.ok q _ h1;rw[h2]at e;cases e;exact⟨p,I⟩
 have t:=List.nodup_append.mp nd;refine⟨⟨S.fh,AD.refl _,λ_ _ _ e=>e,λ_ _ e=>.inl e,λx h=>(pt x h).1,λx h=>(pt x h).2,λx h=>by obtain⟨_,_,e,_⟩:=(pt x h).1;show H x≠none;rw[e];simp,w,th,λx h=>⟨th x h,k x h⟩⟩,by rw[AA];exact a.len,λn s B=>?_,λn j s u x Nc B C ms mu=>?_⟩
 .rcases m n s B with⟨v,p,f,rfl,r⟩|⟨g,_,rfl,f⟩|⟨_,_,rfl,f⟩|⟨_,_,rfl,f⟩
  .rw[AO,f];exact⟨v,rfl,r⟩
  .rw[AO,f];rcases y with⟨h,_⟩|⟨q,lp,_,rfl,rfl,h1,h2⟩
   .rw[h]at g;cases g
   .exact⟨lp,rfl,(pt lp (by simp)).2,.inr (by simp),(pt lp (by simp)).1⟩
  .rw[AO,f];exact⟨v1,rfl,G,t.1,λx hx=>⟨w x (by simp[hx]),.inr ⟨rfl,by simp[hx]⟩⟩⟩
  .rw[AO,f];exact⟨v2,rfl,D,t.2.1,λx hx=>⟨w x (by simp[hx]),.inr ⟨rfl,by simp[hx]⟩⟩⟩
 .have o:∀{n:Nat},b=true->vs[n]?=some vp->B5 .AH ((vs.map some)[n]?) x->x∈A:=λ{n}g f ho=>by
   rcases y with⟨h,_⟩|⟨q,lp,_,rfl,rfl,h1,h2⟩
   .rw[h]at g;cases g
   .rw[AO,f]at ho;have z:some (some (V.ref lp))=some (some (V.ref x)):=ho;injection z with z;injection z with z;injection z with z
    rw[z];simp
  rcases m n s B with⟨v,p,f,rfl,r⟩|⟨g,e1,rfl,f⟩|⟨_,e1,rfl,f⟩|⟨_,e1,rfl,f⟩
  .cases ms
  .rcases m j u C with⟨_,_,_,rfl,_⟩|⟨_,i,rfl,_⟩|⟨_,i,rfl,_⟩|⟨_,i,rfl,_⟩
   .cases mu
   .exact Nc (e1.trans i.symm)
   .exact k x (DA _ mu) (o g f ms)
   .exact k x (Bk _ mu) (o g f ms)
  .rcases m j u C with⟨_,_,_,rfl,_⟩|⟨g,i,rfl,SD⟩|⟨_,i,rfl,_⟩|⟨_,i,rfl,_⟩
   .cases mu
   .exact k x (DA _ ms) (o g SD mu)
   .exact Nc (e1.trans i.symm)
   .exact t.2.2 x ms x mu rfl
  .rcases m j u C with⟨_,_,_,rfl,_⟩|⟨g,i,rfl,SD⟩|⟨_,i,rfl,_⟩|⟨_,i,rfl,_⟩
   .cases mu
   .exact k x (Bk _ ms) (o g SD mu)
   .exact t.2.2 x mu x ms rfl
   .exact Nc (e1.trans i.symm)
theorem Sg.Ze{lt:Bool}{I G:OV}(S:Sg E ss Z F H)(T:LA ss Z b vp A)(CH:i≠j)(hi:ss[i]?=some (.ow lt t1))(X:ss[j]?=some (.ow lt t2))
  (e1:Z[i]?=some (some v1)) (e2:Z[j]?=some (some v2)) (f:Fin ⟨A,F,H,t1.addrs++t2.addrs⟩ F' H') (r1:Af F' H' v1 I) (r2:Af F' H' v2 G) (nd:(I.addrs++G.addrs).Nodup)
  (q:∀a∈I.addrs++G.addrs,F' a=none/\(H a=none∨a∈t1.addrs++t2.addrs)) :
  Sg E ((ss.set i (.ow lt I)).set j (.ow lt G)) Z F' H'/\(∀a o,C7 ss Z a->a∉t1.addrs++t2.addrs->H a=some o->H' a=some o):=by
 obtain⟨w1,x1,_,_,R⟩:=S.ok i _ hi;obtain⟨w2,x2,_,_,Q⟩:=S.ok j _ X;have Ka:i<ss.length:=(List.getElem?_eq_some_iff.mp hi).1;have lG:j<ss.length:=(List.getElem?_eq_some_iff.mp X).1;have P:∀a∈t1.addrs++t2.addrs,F a=none/\(E.H0 a=none∨a∈E.B):=λa g=>by
  rcases List.mem_append.mp g with h|h
  .exact⟨(R a h).1,(R a h).2.imp id λz=>z.2⟩
  .exact⟨(Q a h).1,(Q a h).2.imp id λz=>z.2⟩
 have kp:∀a o,a∉A->a∉t1.addrs++t2.addrs->H a=some o->H' a=some o:=λa o L K e=>f.keep a o ⟨L,K⟩ e;have Bi:∀a,H a≠none->F a=none->F' a=none:=λa h1 h2=>by
  cases e:F' a with
  |none=>rfl
  |some o=>
   rcases f.fresh a o e with z|z
   .rw[show F a=some o from z]at h2;cases h2
   .exact absurd z h1
 have o8:∀a∈A,E.H0 a=none∨a∈E.A:=λa g=>by
  obtain⟨n,h1,h2⟩:=T.own g;obtain⟨l,e,_,W,_⟩:=S.ok n _ h1;rw[h2]at e;cases e;exact W
 have S6:∀a,a∈E.A->a∉t1.addrs++t2.addrs:=λa k t=>by
  rcases(P a t).2 with z|z
  .exact S.a0 a k z
  .exact(S.b0 a z).2 k
 have d:∀(n:Nat)s,n≠i->n≠j->ss[n]?=some s->∀a,B5 s Z[n]? a->a∉t1.addrs++t2.addrs:=λn s h1 h2 w a ho t=>by
  rcases List.mem_append.mp t with h|h
  .exact S.BL n i s _ a h1 w hi ho h
  .exact S.BL n j s _ a h2 w X ho h
 have Js:∀(n:Nat)s,s≠.AH->ss[n]?=some s->∀a,B5 s Z[n]? a->a∉A:=λn s np w a ho t=>by
  obtain⟨m,h1,h2⟩:=T.own t
  by_cases c:n=m
  .subst c;rw[w]at h1;exact np (B3 h1)
  .exact S.BL n m s _ a c w h1 ho h2
 have Dx:∀a,BV H a->a∉t1.addrs++t2.addrs->BV H' a:=λa p n=>by
  by_cases c:a∈A
  .exact f.Dx a c
  .exact BV.keep p λo e=>kp a o c n e
 have at_:∀(n:Nat)s,((ss.set i (.ow lt I)).set j (.ow lt G))[n]?=some s->(n=j/\s=.ow lt G)∨(n=i/\s=.ow lt I)∨(n≠i/\n≠j/\ss[n]?=some s):=λn s C=>by
  by_cases c:n=j
  .subst c;rw[Cr (by rw[HW];exact lG)]at C;exact .inl ⟨rfl,(B3 C).symm⟩
  .rw[CM (BM c)]at C
   by_cases D:n=i
   .subst D;rw[Cr Ka]at C;exact .inr (.inl ⟨rfl,(B3 C).symm⟩)
   .rw[CM (BM D)]at C;exact .inr (.inr ⟨D,c,C⟩)
 have qn:∀a∈I.addrs++G.addrs,E.H0 a=none∨a∈E.B:=λa g=>by
  rcases(q a g).2 with z|z
  .exact .inl (S.DD z)
  .exact(P a z).2
 have O:=List.nodup_append.mp nd;have U:∀a,a∈E.B->a∈I.addrs++G.addrs->lt=true:=λa J g=>by
  rcases(q a g).2 with z|z
  .exact absurd (S.DD z) (S.b0 a J).1
  .rcases List.mem_append.mp z with h|h
   .exact((R a h).2.resolve_left (S.b0 a J).1).1
   .exact((Q a h).2.resolve_left (S.b0 a J).1).1
 have σ:∀{u:OV}{v:V}{n:Nat},Z[n]?=some (some v)->Af F' H' v u->u.addrs.Nodup->(∀a∈u.addrs,a∈I.addrs++G.addrs)->Ok E F' H' (.ow lt u) Z[n]?:=λ{u v n}e r ED w=>by
  refine⟨v,e,r,ED,λa g=>⟨(q a (w a g)).1,?_⟩⟩;rcases qn a (w a g)with z|z
  .exact .inl z
  .exact .inr ⟨U a z (w a g),z⟩
 refine⟨⟨⟨f.fh,S.f0.trans f.f0,λa o k e=>?_,λa o e=>?_,λa k=>?_,λa k=>?_,S.a0,λa J=>?_,λa J=>?_,S.b0⟩,by rw[HW,HW];exact S.len,λn s C=>?_,λn m s u x W2 C t ms mu=>?_⟩,λa o np nb e=>?_⟩
 .refine kp a o (λz=>?_) (λz=>?_) (S.keep a o k e)
  .rcases o8 a z with y|y
   .rw[e]at y;cases y
   .exact k.1 y
  .rcases(P a z).2 with y|y
   .rw[e]at y;cases y
   .exact k.2 y
 .rcases f.fresh a o e with z|z
  .exact S.fresh a o z
  .exact .inr (S.DD z)
 .exact Dx a (S.Dx a k) (S6 a k)
 .obtain⟨_,_,e1,_⟩:=S.Dx a k;exact Bi a (by rw[e1];simp) (S.MH a k)
 .exact Bi a (S.bH a J) (S.bF a J)
 .by_cases t:a∈t1.addrs++t2.addrs
  .exact f.bH a t
  .by_cases k:a∈A
   .obtain⟨_,_,e1,_⟩:=f.Dx a k;rw[e1];simp
   .intro z;cases e:H a with
    |none=>exact S.bH a J e
    |some o=>rw[kp a o k t e]at z;cases z
 .rcases at_ n s C with⟨rfl,rfl⟩|⟨rfl,rfl⟩|⟨L,K,h⟩
  .exact σ e2 r2 O.2.1 λa g=>Bk _ g
  .exact σ e1 r1 O.1 λa g=>DA _ g
  .by_cases np:s=.AH
   .subst np;obtain⟨l,e,fl,W,pt⟩:=S.ok n _ h;obtain⟨_,_,e3,_⟩:=id pt;exact⟨l,e,Bi l (by rw[e3];simp) fl,W,Dx l pt (d n _ L K h l e)⟩
   .exact Ok.go S h f.f0 (λa o ho e=>kp a o (Js n s np h a ho) (d n s L K h a ho) e) Bi np
 .have N:∀(n:Nat)s,n≠i->n≠j->ss[n]?=some s->B5 s Z[n]? x->x∉I.addrs++G.addrs:=λn s h1 h2 w ho t=>by
   rcases(q x t).2 with z|z
   .exact S.EW w ho z
   .exact d n s h1 h2 w x ho z
  rcases at_ n s C with⟨Y,rfl⟩|⟨Y,rfl⟩|⟨L,K,h⟩
  .rcases at_ m u t with⟨D,rfl⟩|⟨D,rfl⟩|⟨M,m2,h'⟩
   .exact W2 (Y.trans D.symm)
   .exact O.2.2 x mu x ms rfl
   .exact N m u M m2 h' mu (Bk _ ms)
  .rcases at_ m u t with⟨D,rfl⟩|⟨D,rfl⟩|⟨M,m2,h'⟩
   .exact O.2.2 x ms x mu rfl
   .exact W2 (Y.trans D.symm)
   .exact N m u M m2 h' mu (DA _ ms)
  .rcases at_ m u t with⟨D,rfl⟩|⟨D,rfl⟩|⟨M,m2,h'⟩
   .exact N n s L K h ms (Bk _ mu)
   .exact N n s L K h ms (DA _ mu)
   .exact S.BL n m s u x W2 h h' ms mu
 .refine kp a o (λz=>?_) nb e;obtain⟨n,h1,h2⟩:=T.own z;exact np n h1 h2
end
noncomputable def Na(Z:L2.St)(q:Nat):V:=match Z[q]? with
 |some (some v)=>v
 |_=>.A6
def Qz(s:Slot)(a:Addr):Prop:=(∃lt k us,s=.ow lt (.nd k a us))∨s=.raw (ptr a)
theorem Qz.val(p:Qz s a)(S:Sg E ss Z F H)(c:ss[n]?=some s):Z[n]?=some (some (.ref a)):=by
 rcases p with⟨lt,k,us,rfl⟩|rfl
 .obtain⟨v,e,r,_⟩:=S.ok n _ c;have b:v=.ref a:=by cases r;rfl
  rw[<- b];exact e
 .obtain⟨v,e,r,_⟩:=S.ok n _ c;have b:v=.ref a:=r;rw[<- b];exact e
structure P7 (E:Ent0) (ss A5:List Slot) (Z:L2.St) (t1 t2:OV) (F H F' H':Hp):Prop where
 st:Sg E A5 Z F' H'
 ff:AD F F'
 hh:∀a o,C7 ss Z a->a∉t1.addrs++t2.addrs->H a=some o->H' a=some o
 nn:∀a o,F' a=some o->F a=some o∨H a=none
structure Iw [Xw] (ss:List Slot) (q:Nat) (a1 a2:Addr) (t1 t2:OV) (b c d:Bool) (ta:TA) (k:List Slot->Prop):Prop where
 go:∀(E:Ent)(Z:L2.St)(F H:Hp)(Q:List V->Hp->Prop),Sg E ss Z F H->(∀vs l F' H',Mv E ss Z F H F' H'->EV F' (Na Z q) (.ref a1) (.ref a2) t1 t2 b c d vs l->k l->Q vs H')->ta Z H Q
structure ZK [Xw] (ss:List Slot) (t1 t2:OV) (new:OV->OV->List Slot) (te:TE) (k:PV->OV->OV->Prop):Prop where
 go:∀(E:Ent)(Z:L2.St)(F H:Hp)(Q:VK),Sg E ss Z F H->(∀v p u1 u2 F' H',P7 E ss (new u1 u2) Z t1 t2 F H F' H'->Rep F' v p->k p u1 u2->Q v H')->te Z H Q
structure Od [Xw] (ss:List Slot) (t1 t2:OV) (new:OV->OV->List Slot) (c:TT) (k:Bool->OV->OV->Prop):Prop where
 go:∀(E:Ent)(Z:L2.St)(F H:Hp)(Q:Bool->Hp->Prop),Sg E ss Z F H->(∀b u1 u2 F' H',P7 E ss (new u1 u2) Z t1 t2 F H F' H'->k b u1 u2->Q b H')->c Z H Q
section
variable[Xw]
variable{ta:TA}{q:Nat}{lt:Bool}{a1 a2:Addr}{k:List Slot->Prop}{new:OV->OV->List Slot}
theorem nI(h:k []):Iw ss q a1 a2 t1 t2 false false false BK k:=⟨λE Z F H Q S go=>go [] [] F H (Mv.refl S) .nil h⟩
theorem YN(h:Wp ss te λp=>Iw ss q a1 a2 t1 t2 b c d ta λl=>k (.is p::l)):Iw ss q a1 a2 t1 t2 b c d (Ag te ta) k:=⟨λE Z F H Q S go=>
 h.go E Z F H _ S λv p F1 H1 e r h2=>h2.go E Z F1 H1 _ e.st λvs l F2 H2 m2 a kk=>go _ _ F2 H2 (e.trans m2) (.is (r.mono m2.ff) a) kk⟩
theorem uG(c:ss[n]?=some s)(ps:Qz s a1)(h:Iw ss q a1 a2 t1 t2 b false d ta λl=>k (.ow true t1::l)):Iw ss q a1 a2 t1 t2 b true d (Ag (Ar n) ta) k:=⟨λE Z F H Q S go=>
 ⟨_,ps.val S c,h.go E Z F H _ S λvs l F2 H2 m2 a kk=>go _ _ F2 H2 m2 (.one a) kk⟩⟩
theorem xQ(d:ss[n]?=some s)(ps:Qz s a2)(h:Iw ss q a1 a2 t1 t2 b c false ta λl=>k (.ow true t2::l)):Iw ss q a1 a2 t1 t2 b c true (Ag (Ar n) ta) k:=⟨λE Z F H Q S go=>
 ⟨_,ps.val S d,h.go E Z F H _ S λvs l F2 H2 m2 a kk=>go _ _ F2 H2 m2 (.two a) kk⟩⟩
theorem iJ(S:Sg E ss Z F H)(d:b=true->ss[q]?=some .AH):∃A,LA ss Z b (Na Z q) A/\∀a∈A,∃m:Nat,ss[m]?=some .AH/\Z[m]?=some (some (.ref a)):=by
 cases b with
 |false=>exact⟨[],.inl ⟨rfl,rfl⟩,λ_ h=>absurd h Aq⟩
 |true=>
  obtain⟨c,e,_⟩:=S.ok q _ (d rfl);have g:Na Z q=.ref c:=by unfold Na;rw[e]
  have P:LA ss Z true (Na Z q) [c]:=.inr ⟨q,c,rfl,rfl,g,d rfl,e⟩;exact⟨[c],P,λa f=>P.own f⟩
theorem tj{pre:Pre}(CH:i≠j)(hi:ss[i]?=some (.ow lt (.nd k1 a1 Dj)))(s:ss[j]?=some (.ow lt (.nd k2 a2 Dr)))(Y:b=true->ss[q]?=some .AH)
  (h:Iw ss q a1 a2 (.nd k1 a1 Dj) (.nd k2 a2 Dr) b c d ta λl=>∃k',pre l (.Ig k')/\∀p k g,k' p k g->k.val=.ref a1/\g.val=.ref a2/\kk p k g) :
  ZK ss (.nd k1 a1 Dj) (.nd k2 a2 Dr) (λk g=>(ss.set i (.ow lt k)).set j (.ow lt g)) (Dz (EU pre) [] E0 ta) kk:=⟨λE Z F H Q S go=>
 h.go E Z F H _ S λvs l F1 H1 r a⟨k',σ,W⟩=>by
  rw[GB];have n:=r.st;obtain⟨v1,I,u,V,O⟩:=n.ok i _ hi;obtain⟨v2,G,t,U,N⟩:=n.ok j _ s;have e1:v1=.ref a1:=by cases u;rfl
  have e2:v2=.ref a2:=by cases t;rfl
  subst e1;subst e2;obtain⟨A,B,own⟩:=iJ n Y;have R:((OV.nd k1 a1 Dj).addrs++(OV.nd k2 a2 Dr).addrs).Nodup:=List.nodup_append.mpr ⟨V,U,λx hx y X e=>n.BL i j _ _ x CH hi s hx (by rw[e];exact X)⟩;refine⟨l,.Ig k',F1,A,_,σ,n.call2 B u t R (λx hx=>?_) (λx hx hA=>?_) a,λv F' H' f⟨p,k,g,L,D,C,nd,M,kp⟩=>?_⟩
  .rcases List.mem_append.mp hx with z|z
   .exact(O x z).1
   .exact(N x z).1
  .obtain⟨m,p1,p2⟩:=own x hA;rcases List.mem_append.mp hx with z|z
   .by_cases w:m=i
    .subst w;rw[hi]at p1;cases p1
    .exact n.BL m i _ _ x w p1 hi p2 z
   .by_cases w:m=j
    .subst w;rw[s]at p1;cases p1
    .exact n.BL m j _ _ x w p1 s p2 z
  .obtain⟨K,J,P⟩:=W p k g kp;rw[K]at D;rw[J]at C;obtain⟨S2,hh⟩:=n.Ze B CH hi s I G f D C nd M;exact go v p k g F' H' ⟨S2,r.ff.trans f.f0,λa o np T e=>hh a o np T (r.hh a o np e),λa o e=>(f.fresh a o e).elim (λe=>r.nn a o e) λe=>.inr (r.none e)⟩ L P⟩
theorem pK{kk:Bool->OV->OV->Prop}(h:ZK ss t1 t2 new te λp b a=>∃c,p=.bl c/\kk c b a):Od ss t1 t2 new (tB te) kk:=⟨λE Z F H Q S go=>
 h.go E Z F H _ S λv p b a F1 H1 d r AN=>by
  obtain⟨c,e,k2⟩:=AN;subst e;cases r.inv;exact⟨c,rfl,go c b a F1 H1 d k2⟩⟩
theorem qT{x:TT}{u v:TS}(h:Od ss t1 t2 new x λb d c=>if b=true then Ws (new d c) u nx R else Ws (new d c) v nx R):Ws ss (Ld x u v) nx R:=⟨λE D Z F H S f e=>
 h.go E Z F H _ S λb d c F1 H1 a kk=>by
  cases b with
  |true=>rw[i5 rfl]at kk;exact kk.go E D Z F1 H1 a.st (λA5 σ' F' H' n S' s=>f A5 σ' F' H' n S' (a.ff.trans s)) e
  |false=>rw[i3 (by decide)]at kk;exact kk.go E D Z F1 H1 a.st (λA5 σ' F' H' n S' s=>f A5 σ' F' H' n S' (a.ff.trans s)) e⟩
theorem Sg.two(S:Sg E ss Z F H)(CH:i≠j)(hi:ss[i]?=some (.ow l1 (.nd k1 a1 Dj)))(g:ss[j]?=some (.ow l2 (.nd k2 a2 Dr))):
  Af F H (.ref a1) (.nd k1 a1 Dj)/\Af F H (.ref a2) (.nd k2 a2 Dr)/\((OV.nd k1 a1 Dj).addrs++(OV.nd k2 a2 Dr).addrs).Nodup/\∀a∈(OV.nd k1 a1 Dj).addrs++(OV.nd k2 a2 Dr).addrs,F a=none/\(E.H0 a=none∨a∈E.B):=by
 obtain⟨v1,q,c,l,f⟩:=S.ok i _ hi;obtain⟨v2,p,b,k,d⟩:=S.ok j _ g;have e1:v1=.ref a1:=by cases c;rfl
 have o:v2=.ref a2:=by cases b;rfl
 subst e1;subst o;refine⟨c,b,List.nodup_append.mpr ⟨l,k,λx hx y m e=>S.BL i j _ _ x CH hi g hx (by rw[e];exact m)⟩,λa n=>?_⟩;rcases List.mem_append.mp n with h|h
 .exact⟨(f a h).1,(f a h).2.imp id λz=>z.2⟩
 .exact⟨(d a h).1,(d a h).2.imp id λz=>z.2⟩
theorem Y6(CH:i≠j)(hi:ss[i]?=some (.ow l1 (.nd k1 a1 Dj)))(f:ss[j]?=some (.ow l2 (.nd k2 a2 Dr)))(h:Wp ss te λp=>kk p (.nd k1 a1 Dj) (.nd k2 a2 Dr)):Ws ss (G3 te) nx (.Ig kk):=⟨λE D Z F H S g e=>
 h.go E Z F H _ S λv p F1 H1 a r kp=>by
  obtain⟨c,b,nd,d⟩:=a.st.two CH hi f;exact e v F1 H1 a.st.toFin ⟨p,.nd k1 a1 Dj,.nd k2 a2 Dr,r,c,b,nd,d,kp⟩⟩
end
end Fz
namespace Fz
open L2 Lw
variable{ss:List Slot}{F H:Hp}{t:OV}{tb te:TE}{i j:Nat}{nx:List Slot->Prop}{R:Ae}{T a1:Addr}{pos:Pos}
section
variable{E:Ent0}{Z:List (Option V)}
theorem Sg.snoc{v:V}{lt:Bool}(S:Sg E ss Z F H)(r:Af F H v t)(nd:t.addrs.Nodup)(q:∀a∈t.addrs,F a=none/\E.H0 a=none/\∀(n:Nat)s,ss[n]?=some s->¬ B5 s Z[n]? a):Sg E (ss++[.ow lt t]) (Z++[some v]) F H:=by
 have at_:∀(n:Nat)s,(ss++[Slot.ow lt t])[n]?=some s->(n<ss.length/\ss[n]?=some s/\(Z++[some v])[n]?=Z[n]?)∨(s=.ow lt t/\n=ss.length/\(Z++[some v])[n]?=some (some v)):=λn s h=>by
  by_cases c:n<ss.length
  .rw[DO c]at h;exact .inl ⟨c,h,DO (S.len▸c)⟩
  .rw[FD (L3 c)]at h;have e:n - ss.length=0:=by
    cases e:n - ss.length with
    |zero=>rfl
    |succ k=>rw[e]at h;simp at h
   rw[e]at h;refine .inr ⟨(B3 h).symm,by omega,?_⟩;rw[FD (by rw[<- S.len];omega),<- S.len,e];rfl
 refine⟨S.toFin,by rw[BX,BX,S.len];rfl,λn s h=>?_,λi j s u a CH hi f ms mu=>?_⟩
 .rcases at_ n s h with⟨_,h,e⟩|⟨rfl,_,e⟩
  .rw[e];exact S.ok n s h
  .rw[e];exact⟨v,rfl,r,nd,λa d=>⟨(q a d).1,.inl (q a d).2.1⟩⟩
 .rcases at_ i s hi with⟨_,h1,e1⟩|⟨rfl,e1,_⟩ <;> rcases at_ j u f with⟨_,h2,b⟩|⟨rfl,b,_⟩
  .rw[e1]at ms;rw[b]at mu;exact S.BL i j s u a CH h1 h2 ms mu
  .rw[e1]at ms;exact(q a mu).2.2 i s h1 ms
  .rw[b]at mu;exact(q a ms).2.2 j u h2 mu
  .exact CH (e1.trans b.symm)
theorem Sg.uP{s:Slot}{o:Option V}(S:Sg E (ss++[s]) (Z++[o]) F H):Sg E ss Z F H:=by
 have b:ss.length=Z.length:=by have:=S.len;rw[BX,BX]at this;exact Jh this
 have at_:∀(n:Nat)u,ss[n]?=some u->(ss++[s])[n]?=some u/\(Z++[o])[n]?=Z[n]?:=λn u h=>by
  have c:=(List.getElem?_eq_some_iff.mp h).1;exact⟨(DO c).trans h,DO (b▸c)⟩
 refine⟨S.toFin,b,λn u h=>?_,λi j u w a CH hi d ms mu=>?_⟩
 .obtain⟨h1,h2⟩:=at_ n u h;rw[<- h2];exact S.ok n u h1
 .obtain⟨h1,h2⟩:=at_ i u hi;obtain⟨f,e⟩:=at_ j w d;exact S.BL i j u w a CH h1 f (by rw[h2];exact ms) (by rw[e];exact mu)
end
section
variable[Xw]
variable{ta:TA}{lt:Bool}{K:ZBx}
theorem jt{pre:Pre}{t1 t2:TE}{k1:NK}{Dj:List OV}(hi:ss[i]?=some (.ow lt (.nd k1 a1 Dj)))
  (h:Wp ss t1 λp1=>Wp ss t2 λp2=>∀a2,∃k',pre [.is p1,.is p2,.ow true (.nd k1 a1 Dj),.ow true (.nd (.As []) a2 [])] (.Ig k')/\∀p c g,k' p c g->c.val=.ref a1/\g.val=.ref a2/\nx (ss.set i (.ow lt c))) :
  Ws ss (Hy (Dz (EU pre) [] E0 (Ag t1 (Ag t2 (Ag (Ar i) (Ag PN BK)))))) nx R:=⟨λE D Z F H S X hr=>
 h.go E Z F H _ S λv1 p1 F1 H1 z M h2=>h2.go E Z F1 H1 _ z.st λv2 p2 F2 H2 m2 L Y=>by
  obtain⟨q,l,_⟩:=m2.st.ok i _ hi;refine⟨q,l,λa2 Bg=>?_⟩;have w:=m2.st.make Bg (.dK []);have d:=w.st;obtain⟨J,Zx,t,P,O⟩:=d.ok i _ hi;rw[l]at Zx;cases Zx;have σ:q=.ref a1:=t.inv.elim λ_ h=>h.1;subst σ;have j:i<ss.length:=(List.getElem?_eq_some_iff.mp hi).1;have hF:F2 a2=none:=m2.st.Bi Bg;have r:Af F2 (upd H2 a2 (.dK [])) (.ref a2) (.nd (.As []) a2 []):=.nd (k:=.As []) (vs:=[]) AX trivial rfl .nil;have ea:(OV.nd (.As []) a2 []).addrs=[a2]:=by rw[OV.DQ,OV.FR];rfl
  have u:∀(n:Nat)s,ss[n]?=some s->¬ B5 s Z[n]? a2:=λn s U ho=>m2.st.EW U ho Bg;have S4:=d.snoc (lt:=lt) r (by rw[ea];exact List.nodup_cons.mpr ⟨Aq,.nil⟩) λa h=>by
   rw[ea,L1]at h;subst h;exact⟨hF,m2.st.DD Bg,u⟩
  obtain⟨k',W,T⟩:=Y a2;have GH:((OV.nd k1 a1 Dj).addrs++(OV.nd (.As []) a2 []).addrs).Nodup:=by
   rw[ea];exact List.nodup_append.mpr ⟨P,List.nodup_cons.mpr ⟨Aq,.nil⟩,λx hx y B=>by
    rw[L1]at B;subst B;exact λe=>u i _ hi (by rw[<- e];exact hx)⟩
  show EU pre ([v1,v2,.ref a1,.ref a2]++[]) (upd H2 a2 (.dK [])) (λx H1=>D.nx Z H1) E0;rw[GB];refine⟨_,.Ig k',F2,[],_,W,d.call2 (b:=false) (vp:=.A6) (.inl ⟨rfl,rfl⟩) t r GH (λa h=>?_) (λa h=>Aq) (.is (M.mono (m2.ff)) (.is L (.one (.two .nil)))),λv F' H' f⟨p,c,g,rp,o,m,nd,N,kp⟩=>?_⟩
  .rcases List.mem_append.mp h with h|h
   .exact(O a h).1
   .rw[ea,L1]at h;subst h;exact hF
  .obtain⟨e1,e2,kk⟩:=T p c g kp;rw[e1]at o;rw[e2]at m;have CH:i≠ss.length:=Az j;have K:(ss++[Slot.ow lt (.nd (.As []) a2 [])])[i]?=some (.ow lt (.nd k1 a1 Dj)):=(DO j).trans hi;have Q:(ss++[Slot.ow lt (.nd (.As []) a2 [])])[ss.length]?=some (.ow lt (.nd (.As []) a2 [])):=by rw[FD (Aa _),Rk];rfl
   have I:(Z++[some (V.ref a2)])[i]?=some (some (.ref a1)):=(DO (d.len▸j)).trans l;have G:(Z++[some (V.ref a2)])[ss.length]?=some (some (.ref a2)):=by rw[d.len,FD (Aa _),Rk];rfl
   have C:=(S4.Ze (b:=false) (vp:=.A6) (A:=[]) (.inl ⟨rfl,rfl⟩) CH K Q I G f o m nd N).1;rw[List.set_append_left _ _ j,show ss.length=(ss.set i (.ow lt c)).length from(HW).symm,ZAn _ _ (Aa _),Rk]at C;exact X _ Z F' H' kk C.uP (z.ff.trans (m2.ff.trans (w.ff.trans f.f0)))⟩
def Em(K:ZBx)(T:Addr)(pos:Pos)(ns:List Int):Hp->V->Prop:=λF v=>WH K ns F v/\F T=some (.C2 (.tab pos Kl))
theorem wR(K:ZBx)(T:Addr)(pos:Pos)(ns:List Int):∀(v:V)(F F':Hp),AD F F'->Em K T pos ns F v->Em K T pos ns F' v:=λv F F' s h=>⟨TB K ns v F F' s h.1,s _ _ h.2⟩
variable{ns:List Int}
theorem jF{k:PV->Prop}(hi:ss[i]?=some (.raw (Em K T pos ns)))(h:k (.int ns.length)):Wp ss (CO (Kh K) (Ag (Ar i) BK)) k:=⟨λE Z F H Q S q=>by
 obtain⟨v,e,⟨⟨a,c,b⟩,_⟩,st⟩:=S.ok i _ hi;subst c;obtain⟨d,ea,UH⟩:=TB K ns _ F H S.fh ⟨a,rfl,b⟩;cases ea;refine⟨_,e,a,_,rfl,.inl UH,?_⟩;rw[AA];exact q _ _ F H (.refl S) (.int _) h⟩
theorem wH(hi:ss[i]?=some (.raw (Em K T pos ns)))(h:Wp ss te λx=>∃m,x=.int m/\0<=m/\m<=1000/\nx (ss.set j .AH)):Ws ss (EY (Dz (Va K) [] E0 (Ag (Ar i) (Ag te BK))) (Cf j)) nx R:=⟨λE D Z F H S o y=>by
 obtain⟨v,e,⟨⟨a,q,z⟩,_⟩,st⟩:=S.ok i _ hi;subst q;refine⟨_,e,h.go E Z F H _ S λv x F1 H1 c r⟨m,t,k,Nh,kk⟩=>?_⟩;subst t;cases r.inv;obtain⟨w,f,⟨KD,_⟩,_⟩:=c.st.ok i _ hi;rw[e]at f;cases f;obtain⟨A,ea,UH⟩:=TB K ns _ F1 H1 c.st.fh KD;cases ea;refine⟨a,ns,m,rfl,UH,k,Nh,λp H2 d s g=>?_⟩;have m2:=c.st.grow s;exact o _ _ F1 H2 kk (m2.st.setG ⟨p,rfl,c.st.Bi d,.inl (c.st.DD d),g⟩ λl e b u _ n mu=>by cases e;exact c.st.Kk n d mu) c.ff⟩
end
def NT(K:ZBx)(T:Addr)(pos:Pos):Sp:=λvs H Q X=>H T=some (.C2 (.tab pos Kl))/\yd K vs H Q X
theorem lq{K:ZBx}{N:List Str}{vs:List V}{Q:VK}{X:XK}{t:TS}(h:NT K T pos vs H Q X)(hw:∀ns:List Int,ns.length<=63->Ws (.raw (Em K T pos ns)::List.replicate (N.length - 1) .any) t (λ_=>False) (.is λp=>p=.bl true)):t { nx:=λ_ H'=>Q .A6 H',rt:=Q } (L2.start N vs) H:=by
 obtain⟨b,a,ns,rfl,c,MV,q⟩:=h;have S:Sg (E3 [] H H) [.raw (Em K T pos ns)] [some (.ref a)] H H:=by
  have nn:∀{p:Prop}(a:Addr),a∈([]:List Addr)->p:=λa h=>absurd h Aq;refine⟨⟨AD.refl _,AD.refl _,λ_ _ _ e=>e,λ_ _ e=>.inl e,λa h=>nn a h,λa h=>nn a h,λa h=>nn a h,λa h=>nn a h,λa h=>nn a h,λa h=>nn a h⟩,rfl,λi s hi=>?_,λi j s u l CH hi d ms=>?_⟩
  .cases i with
   |zero=>cases hi;exact⟨_,rfl,⟨⟨a,rfl,c⟩,b⟩,wR K T pos ns _⟩
   |succ i=>simp at hi
  .cases i with
   |zero=>cases hi;cases ms
   |succ i=>simp at hi
 refine(hw ns MV).go (Tw (E3 [] H H)) _ _ H H (S.grown _) (λ_ _ _ _ h=>h.elim) λv F' H' f ok=>?_;obtain⟨p,r,rfl⟩:=ok;cases r.inv;exact q H'
theorem VW:∀ps:List PV,OV.EH (ps.map .fz)=ps
 | []=>rfl
 |p::ps=>by rw[E9,OV.EH,OV.pv,VW ps]
end Fz
namespace Fz
open L2 Lw
variable{i j m n t u v w x:Nat}{new:OV->OV->List Slot}{ab c:Nat->List Nat}{A D ch l r tr xs:List Nat}{ns:List Str}{a:Addr}{AM:List (List Nat)}{f:Nat->Nat}{Ls:List Lp}
section
variable[Xw]
variable{ss:List Slot}{K:ZBx}{te:TE}{k:PV->Prop}
variable{l1 l2:Bool}{t1 t2:OV}
theorem Mv.m2{E:Ent0}{Z:L2.St}{F H F' H' F2 H2:Hp}{d c:OV}(m:Mv E ss Z F H F' H')(b:P7 E ss (new d c) Z t1 t2 F' H' F2 H2):P7 E ss (new d c) Z t1 t2 F H F2 H2:=
 ⟨b.st,m.ff.trans b.ff,λa o np f e=>b.hh a o np f (m.hh a o np e),λa o e=>(b.nn a o e).elim (λe=>m.nn a o e) λe=>.inr (m.none e)⟩
theorem yz{c d:TT}{kk:Bool->OV->OV->Prop}(j:new t1 t2=ss)(h:Wt ss c λb=>if b=true then kk true t1 t2 else Od ss t1 t2 new d kk):Od ss t1 t2 new (Mg c d) kk:=⟨λE Z F H Q S go=>
 h.go E Z F H _ S λb F1 H1 f z=>by
  cases b with
  |true=>
   rw[i5 rfl]at z;exact go true t1 t2 F1 H1 ⟨by rw[j];exact f.st,f.ff,λa o np _ e=>f.hh a o np e,f.nn⟩ z
  |false=>
   rw[i3 (by decide)]at z;exact z.go E Z F1 H1 _ f.st λb i g F2 H2 m2 k2=>go b i g F2 H2 (f.m2 m2) k2⟩
end
open Kz
noncomputable abbrev nP(n:Nat):PV:=.int n
noncomputable def FO(a:Addr)(lo:Lo):OV:=.nd .lst a ((lo.map Bv).map .fz)
noncomputable def Cd(tr:List Nat):List Key:=tr.map λu:Nat=>.inl (u:Int)
def Co(a:Addr)(tr:List Nat):OV:=.nd (.As (Cd tr)) a (tr.map λ_=>.fz (.bl true))
noncomputable def Ck(ab:Nat->List Nat)(m:Nat):PV:=.lst ((List.range m).map λv=>.lst ((ab v).map nP))
structure CV (n:Nat) (ab:Nat->List Nat) (m v:Nat) (lo:Lo) (tr:List Nat):Prop where
 len:lo.length=m
 Ew:m<=12
 lt:v<m
 ab:∀v u,u∈ab v->u<m
 lw:∀(u w:Nat),lo[u]?=some (some w)->w<m
 nd:tr.Nodup
 tl:∀z∈tr,z<m
 fuel:m<n+tr.length
def Jy(n:Nat):Pre:=λl R=>∃(ab:Nat->List Nat)(m v:Nat)(lo:Lo)(s:Slot)(tr:List Nat)(a2:Addr),l=[.is (nP v),.is (Ck ab m),s,.ow true (Co a2 tr)]/\CV n ab m v lo tr/\
 ((
   ∃a1,s=.ow true (FO a1 lo)/\R=.Ig λp t1 t2=>p=.bl (fu ab n v lo tr).1/\t1=FO a1 (fu ab n v lo tr).2.1/\t2=Co a2 (fu ab n v lo tr).2.2)∨
   (s=.is (.lst (lo.map Bv))/\DB ab v lo/\R=.mt λp t=>p=.bl false/\t=Co a2 (fu ab n v lo tr).2.2))
theorem eN:∀ss R,¬ Jy 0 ss R:=by
 rintro ss R⟨ab,m,v,lo,s,tr,a2,_,ok,_⟩;have q:=Kj (l2:=List.range m) ok.nd λx hx=>List.mem_range.mpr (ok.tl x hx);have:=ok.fuel;rw[D2]at q;omega
theorem CV.le{lo:Lo}(h:CV n ab m v lo tr):tr.length<=12:=by
 have q:=Kj (l2:=List.range m) h.nd λx hx=>List.mem_range.mpr (h.tl x hx);have:=h.Ew;rw[D2]at q;omega
theorem Nd(ns:List Nat)(x:Nat):GZ (Cd ns) (.inl (x:Int))=decide (x∈ns):=by
 unfold GZ Cd;rw[List.any_map]
 by_cases h:x∈ns
 .rw[hU h];exact List.any_eq_true.mpr ⟨x,h,hU rfl⟩
 .rw[iF h];rw[gG];intro z;obtain⟨y,a,e⟩:=List.any_eq_true.mp z;have e:=lx e;injection e with e
  exact h (Int.ofNat_inj.mp e▸a)
theorem YS{ns:List Nat}(h:ns.Nodup):(Cd ns).Nodup:=List.Pairwise.map _ (λa b(h:a≠b)=>λz=>h (by injection z with z;exact Int.ofNat_inj.mp z)) h
theorem Qy{ns:List Nat}{us:List OV}{u:OV}(h:x∉ns):JK (Cd ns) (.inl (x:Int))=Cd (ns++[x])/\Hv (Cd ns) us (.inl (x:Int)) u=us++[u]:=by
 unfold Hv JK;have e:FY (Cd ns) (.inl (x:Int))=none:=by
  have q:=Pz (ks:=Cd ns) (key:=.inl (x:Int));rw[Nd,iF h]at q;cases e:FY (Cd ns) (.inl (x:Int))with
  |none=>rfl
  |some j=>rw[e]at q;cases q
 rw[e,Nd,iF h];exact⟨by unfold Cd;rw[EK];rfl,rfl⟩
theorem xF(h:x∉tr):OV.nd (.As (JK (Cd tr) (.inl (x:Int)))) a (Hv (Cd tr) (tr.map λ_=>OV.fz (.bl true)) (.inl (x:Int)) (.fz (.bl true)))=Co a (tr++[x]):=by
 rw[(Qy (us:=[]) (u:=.fz .A6) h).1,(Qy h).2];unfold Co;rw[EK];rfl
theorem CV.at{lo:Lo}(h:CV n ab m v lo tr):BR ((List.range m).map λv=>PV.lst ((ab v).map nP)) (v:Int)=some (.lst ((ab v).map nP)):=EE (by rw[AO,RX h.lt];rfl)
theorem cG{lo:Lo}(h:u∈tr):Bu ab n v (u::r) lo tr=Bu ab n v r lo tr:=by rw[Bu,i5 h]
theorem mE{lo:Lo}(h:u∉tr)(e:lo[u]?.join=none):Bu ab n v (u::r) lo tr=(true,lo.set u (some v),tr++[u]):=by rw[Bu,i3 h,e]
theorem yp{lo:Lo}(h:u∉tr)(e:lo[u]?.join=some w)(a:(fu ab n w lo (tr++[u])).1=true):Bu ab n v (u::r) lo tr=(true,(fu ab n w lo (tr++[u])).2.1.set u (some v),(fu ab n w lo (tr++[u])).2.2):=by
 rw[Bu,i3 h,e];dsimp only;cases q:fu ab n w lo (tr++[u])with
 |mk b x=>rw[q]at a;cases(show b=true from a);rfl
theorem Yf{lo:Lo}(h:u∉tr)(e:lo[u]?.join=some w)(c:(fu ab n w lo (tr++[u])).1=false)(a:(fu ab n w lo (tr++[u])).2.1=lo):Bu ab n v (u::r) lo tr=Bu ab n v r lo (fu ab n w lo (tr++[u])).2.2:=by
 rw[Bu,i3 h,e];dsimp only;cases q:fu ab n w lo (tr++[u])with
 |mk b x=>
  rw[q]at c a;cases(show b=false from c);obtain⟨l,t⟩:=x;cases(show l=lo from a);rfl
theorem CV.fin{lo:Lo}(h:CV n ab m v lo tr)(a:(fu ab n v lo tr).1=false):(fu ab n v lo tr).2.1=lo/\(fu ab n v lo tr).2.2.Nodup/\(∀z∈(fu ab n v lo tr).2.2,z<m)/\tr.length<=(fu ab n v lo tr).2.2.length:=by
 have q:=LN (ab:=ab) (lo:=lo) (λv u c=>h.len▸h.ab v u c) n v tr h.nd (λz hz=>h.len▸h.tl z hz) (h.len▸h.fuel);cases e:fu ab n v lo tr with
 |mk b x=>
  rw[e]at q a;cases(show b=false from a);obtain⟨l,t⟩:=x;exact⟨q.1,q.2.2.1,λz hz=>h.len▸q.2.2.2.1 z hz,q.2.2.2.2.1⟩
theorem CV.yes{lo:Lo}(h:CV n ab m v lo tr)(a:(fu ab n v lo tr).1=true):(fu ab n v lo tr).2.1.length=m:=by
 have q:=LN (ab:=ab) (lo:=lo) (λv u c=>h.len▸h.ab v u c) n v tr h.nd (λz hz=>h.len▸h.tl z hz) (h.len▸h.fuel);cases e:fu ab n v lo tr with
 |mk b x=>
  rw[e]at q a;cases(show b=true from a);obtain⟨l,t⟩:=x;obtain⟨p,_,_,_,e⟩:=q;exact(ib List.length e).trans ((Mb _ _ _).trans h.len)
theorem CV.sub{lo:Lo}(h:CV (n+1) ab m v lo tr)(a:u∈ab v)(b:u∉tr)(e:lo[u]?.join=some w):CV n ab m w lo (tr++[u]):=
 ⟨h.len,h.Ew,h.lw u w (Kz.join_some e),h.ab,h.lw,Vc h.nd b,λz hz=>by
  rcases List.mem_append.mp hz with hz|hz
  .exact h.tl z hz
  .rw[List.mem_singleton.mp hz];exact h.ab v u a,by have:=h.fuel;rw[BX,Ra];omega⟩
theorem CV.next{lo:Lo}(h:CV (n+1) ab m v lo tr)(k:CV n ab m w lo (tr++[u]))(d:(fu ab n w lo (tr++[u])).1=false):CV (n+1) ab m v lo (fu ab n w lo (tr++[u])).2.2:=by
 obtain⟨e,c,b,a⟩:=k.fin d;refine⟨h.len,h.Ew,h.lt,h.ab,h.lw,c,b,?_⟩;have:=h.fuel;rw[BX,Ra]at a;omega
theorem qM{lo:Lo}(h:u<lo.length):∃o,(lo.map Bv)[u]?=some (Bv o)/\lo[u]?.join=o/\lo[u]?=some o:=by
 refine⟨lo[u],?_,?_,AK h⟩
 .rw[AO,AK h];rfl
 .rw[AK h];rfl
theorem qV(o:Option Nat):Oz (Bv o)=o.isNone:=by cases o <;> rfl
theorem qu{lo:Lo}:OV.nd .lst a ((((lo.map Bv).set u (nP v))).map .fz)=FO a (lo.set u (some v)):=by
 unfold FO;rw[XI,XI,XI];rfl
theorem dy(h:l[i]?=some x):l.drop i=x::l.drop (i+1):=by
 obtain⟨hi,rfl⟩:=List.getElem?_eq_some_iff.mp h;exact RU hi
theorem CV.stuck{lo:Lo}(h:CV n ab m v lo tr)(s:DB ab v lo):(fu ab n v lo tr).1=false:=by
 have q:=LN (ab:=ab) (lo:=lo) (λv u a=>h.len▸h.ab v u a) n v tr h.nd (λz hz=>h.len▸h.tl z hz) (h.len▸h.fuel);obtain⟨σ,d,f⟩:=s;cases e:fu ab n v lo tr with
 |mk b x=>
  cases b with
  |false=>rfl
  |true=>
   rw[e]at q;obtain⟨l,t⟩:=x;obtain⟨p,c,_⟩:=q;exact absurd c (DB.no f d)
theorem lC{lo:Lo}(s:DB ab v lo)(b:u∈ab v):∃w,lo[u]?.join=some w/\DB ab w lo:=by
 obtain⟨σ,c,a⟩:=s;obtain⟨w,e,h⟩:=a u (c u b);exact⟨w,by rw[e];rfl,σ,h,a⟩
noncomputable def CD(ch:List Nat):PV:=.lst (ch.map nP)
theorem cp(a b:List Nat)(h:CD a=CD b):a=b:=by
 injection h with h
 induction a generalizing b with
 |nil=>cases b with
  |nil=>rfl
  |cons y b=>cases h
 |cons x a c=>cases b with
  |nil=>cases h
  |cons y b=>
   injection h with h1 h2
   injection h1 with h1
   rw[Int.ofNat_inj.mp h1,c b h2]
theorem zi(a:Addr)(T:List Nat):(Co a T).pv=.As (Cd T) (T.map λ_=>.bl true):=by
 unfold Co;rw[OV.pv,show(T.map λ_=>OV.fz (.bl true))=(T.map λ_=>PV.bl true).map .fz by rw[Ce];rfl,VJ]
theorem T2{α:Type}(g:α->PV)(h:∀x,Gd (g x)=true):∀(l:List α),JF (l.map g)=true
 | []=>rfl
 |x::l=>by
  rw[E9];show(Gd (g x) && JF (l.map g))=true;rw[h x,T2 g h l];rfl
structure U0 (ab:Nat->List Nat) (m:Nat):Prop where
 Ew:m<=12
 ab:∀v u,u∈ab v->u<m
theorem yZ(h:U0 ab m)(hi:i<m):CV 13 ab m i (gp ab m 13 i) []:=by
 obtain⟨h1,h2,c,a,b⟩:=UP h.ab (show m<13 by have:=h.Ew;omega) i;exact⟨h1,h.Ew,hi,h.ab,λu w e=>XR (a w (Fb.mpr ⟨u,e⟩)) hi,.nil,λz hz=>(by cases hz),by have:=h.Ew;simp;omega⟩
def aQ:Pre:=λl R=>∃(ab:Nat->List Nat)(m:Nat),l=[.is (Ck ab m)]/\U0 ab m/\R=.new (·=(gp ab m 13 m).map Bv)
def Zo:Pre:=λl R=>∃(ch T:List Nat)(x:Nat)(r:List Nat),l=[.is (CD ch),.is (.As (Cd T) (T.map λ_=>.bl true))]/\ch.length<=12/\(ch.filter λy=>decide (y∉T))=x::r/\R=.is (·=nP x)
def JS(T ch:List Nat):Nat:=(ch.filter λy=>decide (y∉T)).headD 0
structure Ir (ab:Nat->List Nat) (m:Nat) (lo:Lo) (AM:List (List Nat)):Prop where
 ok:U0 ab m
 len:lo.length=m
 lw:∀(u w:Nat),lo[u]?=some (some w)->w<m
 cl:AM.length<=12
 ch:∀ch∈AM,∃t r,ch=t::r/\t<m/\DB ab t lo/\Dn lo t ch/\ch.length<=12
noncomputable def Fe(ch:List Nat):Nat:=ch.headD 0
def Zz:Pre:=λl R=>∃(ab:Nat->List Nat)(m:Nat)(lo:Lo)(AM:List (List Nat)),l=[.is (Ck ab m),.is (.lst (lo.map Bv)),.is (.lst (AM.map CD))]/\Ir ab m lo AM/\
 R=.new λxs=>∃A:List Nat,xs=A.map nP/\A.Perm (AM.map (JS (tryAll ab 13 lo (AM.map Fe) [])))/\A.Pairwise (·<=·)
theorem Z4(ab:Nat->List Nat)(n:Nat)(lo:Lo):∀(ts:List Nat)(t:Nat)(tr:List Nat),tryAll ab n lo (ts++[t]) tr=(fu ab n t lo (tryAll ab n lo ts tr)).2.2
 | [],t,tr=>rfl
 |s::ts,t,tr=>by
  show tryAll ab n lo (ts++[t]) (fu ab n s lo tr).2.2=(fu ab n t lo (tryAll ab n lo ts (fu ab n s lo tr).2.2)).2.2;exact Z4 ab n lo ts t _
theorem Ir.at{lo:Lo}(h:Ir ab m lo AM)(i:Nat):let T:=tryAll ab 13 lo ((AM.take i).map Fe) [];T.Nodup/\(∀z∈T,z<m)/\Cl ab lo T/\∀t∈(AM.take i).map Fe,∀u∈ab t,u∈T:=by
 have q:=bU (ab:=ab) (lo:=lo) (n:=13) (λv u a=>h.len▸h.ok.ab v u a) (by rw[h.len];have:=h.ok.Ew;omega) ((AM.take i).map Fe) [] (λt b=>by
  obtain⟨ch,c,rfl⟩:=List.mem_map.mp b;obtain⟨t,r,rfl,_,s,_⟩:=h.ch ch (gO c);exact s) .nil (λz hz=>by cases hz) (λz hz=>by cases hz)
 refine⟨q.1,λz hz=>?_,q.2.2.1,q.2.2.2⟩;obtain⟨w,e,_⟩:=q.2.2.1 z hz;exact h.len▸(List.getElem?_eq_some_iff.mp e).1
theorem Ir.fu{lo:Lo}(h:Ir ab m lo AM)(a:t<m):CV 13 ab m t lo (tryAll ab 13 lo ((AM.take i).map Fe) []):=
 ⟨h.len,h.ok.Ew,a,h.ok.ab,h.lw,(h.at i).1,(h.at i).2.1,by have:=h.ok.Ew;omega⟩
theorem zh{α β:Type}{f:α->β}{xs:List α}{x:α}(h:xs[i]?=some x):(xs.take (i+1)).map f=(xs.take i).map f++[f x]:=by
 obtain⟨hi,rfl⟩:=List.getElem?_eq_some_iff.mp h;rw[Jf hi,EK];rfl
theorem Ir.first{lo:Lo}(h:Ir ab m lo AM)(a:ch∈AM):∃r,(ch.filter λy=>decide (y∉tryAll ab 13 lo (AM.map Fe) []))=JS (tryAll ab 13 lo (AM.map Fe) []) ch::r:=by
 have q:=h.at AM.length;rw[Eg]at q;obtain⟨t,r,rfl,_,_,d,_⟩:=h.ch ch a;obtain⟨x,b,e,_⟩:=fO q.2.2.1 d λu c=>q.2.2.2 t (List.mem_map.mpr ⟨t::r,a,rfl⟩) u c;exact⟨b,by unfold JS;rw[e];rfl⟩
structure Lb (m:Nat) (AM:List (List Nat)) (f:Nat->Nat):Prop where
 Ew:m<=12
 nd:AM.flatten.Nodup
 all:∀n,n<m↔n∈AM.flatten
 at_:∀(k:Nat)ch,AM[k]?=some ch->∀n∈ch,f n=k
def JV(a:Addr)(f:Nat->Nat)(D:List Nat):OV:=.nd (.As (Cd D)) a ((D.map λn=>nP (f n)).map .fz)
theorem l8{k:Nat}(h:x∉D)(hk:f x=k):OV.nd (.As (JK (Cd D) (.inl (x:Int)))) a (Hv (Cd D) ((D.map λn=>nP (f n)).map .fz) (.inl (x:Int)) (.fz (nP k)))=JV a f (D++[x]):=by
 rw[(Qy (us:=[]) (u:=.fz .A6) h).1,(Qy h).2];unfold JV;rw[EK,EK,<- hk];rfl
theorem valN:∀{D:List Nat}{f:Nat->Nat}{x:Nat},x∈D->LK (Cd D) (D.map λn=>nP (f n)) (.inl (x:Int))=some (nP (f x))
 | [],_,_,h=>by cases h
 |d::D,f,x,h=>by
  show(if(Sum.inl (d:Int):Key)=.inl (x:Int)then some (nP (f d))else LK (Cd D) (D.map λn=>nP (f n)) (.inl (x:Int)))=_
  by_cases c:d=x
  .subst c;rw[i5 rfl]
  .rw[i3 λz=>c (by injection z with z;exact Int.ofNat_inj.mp z)]
   exact valN ((List.mem_cons.mp h).resolve_left λz=>c z.symm)
theorem qZ{k:Nat}(h:xs[k]?=some x):xs.take (k+1)=xs.take k++[x]:=by rw[gT,h];rfl
theorem wB(a:Addr)(f:Nat->Nat)(D:List Nat):(JV a f D).pv=.As (Cd D) (D.map λn=>nP (f n)):=by unfold JV;rw[OV.pv,VJ]
theorem ZG{p:Lp×Nat}(h:p∈Ls.zipIdx):Ls[p.2]?=some p.1:=List.mk_mem_zipIdx_iff_getElem?.mp h
theorem uE(Ls:List Lp):JD (Ls.map Lp.P)=Ls.zipIdx.map λa=>.tup [.int (a.2:Int),a.1.P]:=by
 apply OG;intro i;rw[AO,ZAd];cases e:Ls[i]? with
 |none=>
  rw[HV (by rw[Nk,AA];exact List.getElem?_eq_none_iff.mp e)];rfl
 |some l=>
  rw[Ve (show(Ls.map Lp.P)[i]?=some l.P by rw[AO,e];rfl)];simp
theorem rM{a b:Lp}(h:a.P=b.P):a=b:=by
 obtain⟨r,g,cs⟩:=a;obtain⟨d,e,c⟩:=b;have h:PV.tup [.str r,.int g,.tup (cs.map .str)]=.tup [.str d,.int e,.tup (c.map .str)]:=h;injection h with h
 injection h with h1 h
 injection h with h2 h
 injection h with h3 h
 injection h1 with h1
 injection h2 with h2
 injection h3 with h3
 rw[h1,Int.ofNat_inj.mp h2,List.map_inj_right (λ_ _ z=>by injection z) |>.mp h3]
theorem Lb.len(h:Lb m AM f):AM.flatten.length<=12:=by
 have q:=Kj (l2:=List.range m) h.nd λx hx=>List.mem_range.mpr ((h.all x).mpr hx);rw[D2]at q;have:=h.Ew;omega
theorem wI(h:AM[i]?=some ch)(hx:ch[j]?=some x):∃r,AM.flatten=((AM.take i).flatten++ch.take j)++x::r:=by
 obtain⟨hi,rfl⟩:=List.getElem?_eq_some_iff.mp h;obtain⟨a,rfl⟩:=List.getElem?_eq_some_iff.mp hx;refine⟨AM[i].drop (j+1)++(AM.drop (i+1)).flatten,?_⟩;have e1:AM=AM.take i++AM[i]::AM.drop (i+1):=by rw[<- RU hi,XM]
 have c:AM[i]=AM[i].take j++AM[i][j]::AM[i].drop (j+1):=by rw[<- RU a,XM]
 have b:AM.flatten=(AM.take i).flatten++(AM[i]++(AM.drop (i+1)).flatten):=by
  conv=>lhs;rw[e1,ZAZ,ZAa]
 rw[b];exact(ib (λz=>(AM.take i).flatten++(z++(AM.drop (i+1)).flatten)) c).trans (by rw[Bh (List.take j _),X9,Bh])
theorem oY(h:AM[i]?=some ch):(AM.take (i+1)).flatten=(AM.take i).flatten++ch:=by
 obtain⟨hi,rfl⟩:=List.getElem?_eq_some_iff.mp h;rw[Jf hi,ZAZ];simp
theorem fi{S:List Str}:∀{l:List Str},(l.Pairwise λa b=>a∈S->b∈S)->l=(l.filter λx=>decide (x∉S))++l.filter λx=>decide (x∈S)
 | [],_=>rfl
 |x::l,h=>by
  obtain⟨h1,h2⟩:=List.pairwise_cons.mp h;have d:=fi h2
  by_cases c:x∈S
  .have e0:(l.filter λx=>decide (x∉S))=[]:=List.filter_eq_nil_iff.mpr λa e=>by simp[h1 a e c]
   rw[XC (by simp[c]),XD (by simp[c]),e0];rw[e0]at d;exact ib (x :: ·) d
  .rw[XD (by simp[c]),XC (by simp[c])];exact ib (x :: ·) d
theorem mU{S l:List Str}(nd:ns.Nodup)(sn:S.Nodup)(sub:∀x∈S,x∈ns)(p:l.Perm ns)(up:l.Pairwise λa b=>a∈S->b∈S):(l.drop (ns.length - S.length)).Perm S:=by
 have e:=fi up;have c:(l.filter λx=>decide (x∈S)).Perm S:=by
  refine(p.filter _).trans ((List.perm_ext_iff_of_nodup (nd.sublist ZAY) sn).mpr λx=>?_);rw[Rf,iP];exact⟨And.right,λh=>⟨sub x h,h⟩⟩
 have d:(l.filter λx=>decide (x∉S)).length=ns.length - S.length:=by
  have q:=ib List.length e;rw[BX,c.length_eq,p.length_eq]at q;omega
 conv=>lhs;rw[e,<- d,List.drop_left]
 exact c
noncomputable def Ik(Ls:List Lp)(x:Str)(n:Nat):Bool:=match Ls[n]? with
 |some l=>decide (x∈l.cs)
 |none=>false
theorem OY{a:Lp}(h:Ls[n]?=some a)(x:Str):Ik Ls x n=decide (x∈a.cs):=by unfold Ik;rw[h]
theorem YR{x:Str}:G9 Ls ch x=((ch.filter (Ik Ls x)).length:Nat):=rfl
theorem qe(up:ch.Pairwise λu v=>Bc Ls v u=true){a:Lp}(t:n∈ch)(e:Ls[n]?=some a){x y:Str}(hx:x∈a.cs)(f:y∉a.cs):G9 Ls ch y<G9 Ls ch x:=by
 have g:∀{u v:Nat}{b:Lp}{z:Str}{c:Lp},Bc Ls v u=true->Ls[v]?=some c->z∈c.cs->Ls[u]?=some b->z∈b.cs:=λ{u v b z c}h w hz A=>by
  obtain⟨c',B,e1,d,q⟩:=HL h;rw[w]at e1;cases e1;rw[A]at d;cases d;rcases q with⟨q,_⟩|⟨_,q⟩
  .rw[<- q];exact hz
  .exact q z hz
 obtain⟨l,r,rfl⟩:=List.append_of_mem t;obtain⟨_,m,k⟩:=List.pairwise_append.mp up;obtain⟨j,_⟩:=List.pairwise_cons.mp m;rw[YR,YR,XB,XB,BX,BX];have i:Ik Ls x n=true:=by rw[OY e];exact hU hx
 have o:¬ Ik Ls y n=true:=by rw[OY e];simp[f]
 rw[XD i,XC o];have e1:l.filter (Ik Ls x)=l:=List.filter_eq_self.mpr λu s=>by
  have h:=k u s n Aj;obtain⟨_,b,_,d,_⟩:=HL h;rw[OY d];exact hU (g h e hx d)
 have d:r.filter (Ik Ls y)=[]:=List.filter_eq_nil_iff.mpr λv p=>by
  have h:=j v p;obtain⟨c,_,e1,_,_⟩:=HL h;rw[OY e1];intro z;exact f (g h e1 (lx z) e)
 rw[e1,d];have q:=XF (Ik Ls y) l;rw[RZ,BA];omega
structure LC (ns:List Str) (Ls:List Lp) (ls:List (List Str)) (ps:List (Int×Int)) (A:List Nat):Prop where
 len:ls.length=A.length
 perm:∀l∈ls,l.Perm ns
 pz:ps.length=Ls.length
 rT:∀(n:Nat)l,Ls[n]?=some l->∃(k:Nat)(line:List Str),ps[n]?=some ((k:Int),(ns.length:Int) - (l.cs.length:Int))/\ls[k]?=some line/\(line.drop (ns.length - l.cs.length)).Perm l.cs
 ZBt:∀k:Nat,k<ls.length->∃(n:Nat)(g:Int),ps[n]?=some ((k:Int),g)
 fits:∀(j k:Nat)a b p q,Ls[j]?=some a->Ls[k]?=some b->ps[j]?=some p->ps[k]?=some q->p.1=q.1->p.2<=q.2->D9 a b
 up:A.Pairwise (· < ·)
 lt:∀a∈A,a<Ls.length
 ap:∀a∈A,∀b∈A,¬ Bc Ls a b=true
 most:∀B:List Nat,B.Nodup->(∀b∈B,b<Ls.length)->(∀a∈B,∀b∈B,a≠b->¬ Bc Ls a b=true)->B.length<=A.length
def Am(Ls:List Lp):Lo:=gp (ups Ls) Ls.length 13 Ls.length
theorem cq(hz:Ls.length<=12)(hg:∀l∈Ls,l.Good ns):Uq Ls:=⟨hz,λa c=>Ng (show C4 ns a.r a.g a.cs from hg a c).up,λa c b d h=>RD (show C4 ns a.r a.g a.cs from hg a c).up (show C4 ns b.r b.g b.cs from hg b d).up h⟩
theorem Vb(hz:Ls.length<=12)(nz:ns.length<=40)(hg:∀l∈Ls,l.Good ns):Pg Ls (Am Ls)/\∀t∈Ax (Am Ls),DB (ups Ls) t (Am Ls):=
 ra (cq hz hg) (λl a=>CQ (C4.len (show C4 ns l.r l.g l.cs from hg l a)) nz) (by omega)
theorem cS{lo:Lo}(d:Dn lo n ch):∃r,ch=n::r:=by cases d <;> exact⟨_,rfl⟩
theorem dg{n:Nat}:∀{AM:List (List Nat)},AM.flatten.Nodup->∀{i k:Nat}{a b:List Nat},AM[i]?=some a->AM[k]?=some b->n∈a->n∈b->i=k
 | [],_,_,_,_,_,h,_,_,_=>by cases h
 |c::AM,nd,i,k,a,b,ha,hb,na,nb=>by
  rw[ZAa]at nd;obtain⟨_,e,d⟩:=List.nodup_append.mp nd;cases i with
  |zero=>
   cases(show some c=some a from ha);cases k with
   |zero=>rfl
   |succ k=>exact absurd rfl (d n na n (List.mem_flatten.mpr ⟨b,BB (show AM[k]?=some b from hb),nb⟩))
  |succ i=>
   cases k with
   |zero=>cases(show some c=some b from hb);exact absurd rfl (d n nb n (List.mem_flatten.mpr ⟨a,BB (show AM[i]?=some a from ha),na⟩))
   |succ k=>exact ib (· + 1) (dg e (show AM[i]?=some a from ha) (show AM[k]?=some b from hb) na nb)
theorem jQ{lo:Lo}(G:Pg Ls lo):∃c:Nat->List Nat,∀t,t<lo.length->Dn lo t (c t)/\(c t).length<=12/\(c t).Nodup/\∀x∈c t,x<lo.length:=by
 have b:∀t,Decidable (t<lo.length):=λ_=>inferInstance;have ex:∀t,t<lo.length->∃ch,Dn lo t ch/\ch.length<=12/\ch.Nodup/\∀x∈ch,x<lo.length:=λt a=>by
  obtain⟨ch,d,nd,h⟩:=Ur G.uq G.len G.fit _ t (Aa _) a;have q:=m9 nd λx hx=>(h x hx).1;have:=G.uq.len;have:=G.len;exact⟨ch,d,by omega,nd,λx hx=>(h x hx).1⟩
 refine⟨λt=>if h:t<lo.length then Classical.choose (ex t h)else[],λt h=>?_⟩
 dsimp only;rw[dif_pos h];exact X1 (ex t h)
theorem oV{lo:Lo}(G:Pg Ls lo)(i:∀t,t<lo.length->Dn lo t (c t)/\(c t).length<=12/\(c t).Nodup/\∀x∈c t,x<lo.length):∃f,Lb Ls.length ((Ax lo).map c) f:=by
 have m:(Ax lo).Nodup:=ZAU _ ZAk;have nd:((Ax lo).map c).flatten.Nodup:=by
  unfold List.Nodup;refine List.pairwise_flatten.mpr ⟨λl r=>?_,?_⟩
  .obtain⟨t,j,rfl⟩:=List.mem_map.mp r;exact(i t (DF.mp j).1).2.2.1
  .rw[Rh];unfold List.Nodup at m;refine X8 (λ{a b}p o AV x hx y q e=>AV ?_) m;subst e;exact dv G (DF.mp p).2 (DF.mp o).2 (i a (DF.mp p).1).1 (i b (DF.mp o).1).1 _ x (Aa _) hx q
 refine⟨λn=>((Ax lo).map c).findIdx λch=>decide (n∈ch),G.uq.len,nd,λn=>⟨λh=>?_,λh=>?_⟩,λk ch hk n g=>?_⟩
 .obtain⟨t,h1,h2,ch,d,g⟩:=ZI G _ n (Aa _) (G.len▸h);rw[Dn.uniq d (i t h1).1]at g;exact List.mem_flatten.mpr ⟨c t,List.mem_map.mpr ⟨t,DF.mpr ⟨h1,h2⟩,rfl⟩,g⟩
 .obtain⟨ch,Cj,g⟩:=List.mem_flatten.mp h;obtain⟨t,j,rfl⟩:=List.mem_map.mp Cj;exact G.len▸(i t (DF.mp j).1).2.2.2 n g
 .have s:=BB hk;have h1:((Ax lo).map c).findIdx (λch=>decide (n∈ch))<((Ax lo).map c).length:=List.findIdx_lt_length_of_exists ⟨ch,s,hU g⟩;have h2:=List.findIdx_getElem (w:=h1);exact dg nd (AK h1) hk (lx h2) g
theorem Xj(hz:Ls.length<=12)(nz:ns.length<=40)(hg:∀l∈Ls,l.Good ns)(a:∀t,t<(Am Ls).length->Dn (Am Ls) t (c t)/\(c t).length<=12/\(c t).Nodup/\∀x∈c t,x<(Am Ls).length):Ir (ups Ls) Ls.length (Am Ls) ((Ax (Am Ls)).map c):=by
 obtain⟨G,st⟩:=Vb hz nz hg;refine⟨⟨hz,λv u h=>(Ov.mp h).1⟩,G.len,λu w e=>?_,?_,λch Cj=>?_⟩
 .obtain⟨_,_,e1,_⟩:=HL (G.fit u w e);exact(List.getElem?_eq_some_iff.mp e1).1
 .rw[AA];have q:(Ax (Am Ls)).length<=(List.range (Am Ls).length).length:=XF _ _;have:=G.len;rw[D2]at q;omega
 .obtain⟨t,b,rfl⟩:=List.mem_map.mp Cj;have h1:=(DF.mp b).1;obtain⟨r,e⟩:=cS (a t h1).1;exact⟨t,r,e,G.len▸h1,st t b,(a t h1).1,(a t h1).2.1⟩
theorem pw_two{R:Nat->Nat->Prop}:l.Pairwise R->∀{a b:Nat},a∈l->b∈l->a=b∨R a b∨R b a:=by
 induction l with
 |nil=>intro _ a b h;cases h
 |cons x r c=>
  intro p a b h1 h2;obtain⟨p1,p2⟩:=List.pairwise_cons.mp p;rcases List.mem_cons.mp h1 with rfl|m1 <;> rcases List.mem_cons.mp h2 with rfl|m2
  .exact .inl rfl
  .exact .inr (.inl (p1 _ m2))
  .exact .inr (.inr (p1 _ m1))
  .exact c p2 m1 m2
theorem pZ(hz:Ls.length<=12)(nz:ns.length<=40)(nd:ns.Nodup)(hg:∀l∈Ls,l.Good ns)(E:∀t,t<(Am Ls).length->Dn (Am Ls) t (c t)/\(c t).length<=12/\(c t).Nodup/\∀x∈c t,x<(Am Ls).length)(H:Lb Ls.length ((Ax (Am Ls)).map c) f)
  {ls:List (List Str)}(hl:ls.length=(Ax (Am Ls)).length) (P:∀(k:Nat)ch l,((Ax (Am Ls)).map c)[k]?=some ch->ls[k]?=some l->l.Perm ns/\l.Pairwise λa b=>G9 Ls ch a<=G9 Ls ch b)
  (z:A.Perm (((Ax (Am Ls)).map c).map (JS (tryAll (ups Ls) 13 (Am Ls) (((Ax (Am Ls)).map c).map Fe) [])))) (R:A.Pairwise (·<=·)) :
  LC ns Ls ls (Ls.zipIdx.map λp=>((f p.2:Int),(ns.length:Int) - (p.1.cs.length:Int))) A:=by
 obtain⟨G,st⟩:=Vb hz nz hg;have U:=cq hz hg;have K:=Xj hz nz hg E;have q:=K.at ((Ax (Am Ls)).map c).length;rw[Eg]at q;obtain⟨_,_,cl,hT⟩:=q;have F:∀{n:Nat}{l:Lp},Ls[n]?=some l->(Ls.zipIdx.map λp=>((f p.2:Int),(ns.length:Int) - (p.1.cs.length:Int)))[n]?=some ((f n:Int),(ns.length:Int) - (l.cs.length:Int)):=λh=>by
  rw[AO,ZAd,h];simp
 have lz:∀{n:Nat}{l:Lp},Ls[n]?=some l->l.cs.length<=ns.length:=λh=>C4.len (show C4 ns _ _ _ from hg _ (BB h));have d:∀{n:Nat},n<Ls.length->∃(k:Nat)(ch:List Nat),((Ax (Am Ls)).map c)[k]?=some ch/\n∈ch/\f n=k:=λ{n}h=>by
  obtain⟨ch,h1,h2⟩:=List.mem_flatten.mp ((H.all n).mp h);obtain⟨k,hk⟩:=List.mem_iff_getElem?.mp h1;exact⟨k,ch,hk,h2,H.at_ k ch hk n h2⟩
 have w:∀{k:Nat}{ch:List Nat},((Ax (Am Ls)).map c)[k]?=some ch->ch.Pairwise λu v=>Bc Ls v u=true:=λ{k ch}h=>by
  obtain⟨t,s,rfl⟩:=List.mem_map.mp (BB h);exact(Dn.ZZ G.uq G.fit (E t (DF.mp s).1).1).1
 have N:A.length=(Ax (Am Ls)).length:=by rw[z.length_eq,AA,AA]
 have ap:=pH (T:=tryAll (ups Ls) 13 (Am Ls) (((Ax (Am Ls)).map c).map Fe) []) G cl (λt s u hu=>hT t (List.mem_map.mpr ⟨c t,List.mem_map.mpr ⟨t,s,rfl⟩,by
  obtain⟨r,e⟩:=cS (E t (DF.mp s).1).1;rw[e];rfl⟩) u hu) (λt=>JS (tryAll (ups Ls) 13 (Am Ls) (((Ax (Am Ls)).map c).map Fe) []) (c t)) c (λt s=>(E t (DF.mp s).1).1) λt s=>K.first (List.mem_map.mpr ⟨t,s,rfl⟩)
 rw[Ce]at z;have W:A.Nodup:=z.nodup_iff.mpr ap.1;refine⟨hl.trans N.symm,λl h=>?_,by rw[AA,ZAh],λn l h=>?_,λk hk=>?_,λj k a b p q m i L J e1 O=>?_,?_,λa m=>G.len▸ap.2.1 a (z.mem_iff.mp m),λa m b i=>ap.2.2 a (z.mem_iff.mp m) b (z.mem_iff.mp i),λB V X aB=>?_⟩
 .obtain⟨k,hk⟩:=List.mem_iff_getElem?.mp h;have IT:=(List.getElem?_eq_some_iff.mp hk).1;exact(P k _ l (AK (by rw[AA];omega)) hk).1
 .have hn:=(List.getElem?_eq_some_iff.mp h).1;obtain⟨k,ch,h1,h2,h3⟩:=d hn;have hk:k<ls.length:=by
   have:=(List.getElem?_eq_some_iff.mp h1).1;rw[AA]at this;omega
  obtain⟨p,up⟩:=P k ch _ h1 (AK hk);have M:C4 ns l.r l.g l.cs:=hg l (BB h);refine⟨k,ls[k],by rw[F h,h3],AK hk,mU nd (Ng M.up) M.sub p (up.imp λ{a b}le m=>Jb λi=>?_)⟩;have:=qe (w h1) h2 h m i;omega
 .obtain⟨t,s,e⟩:∃t∈Ax (Am Ls),((Ax (Am Ls)).map c)[k]?=some (c t):=by
   have Q:k<(Ax (Am Ls)).length:=by omega
   exact⟨(Ax (Am Ls))[k],Fi Q,by rw[AO,AK Q];rfl⟩
  have h1:=(DF.mp s).1;have h2:t<Ls.length:=G.len▸h1;exact⟨t,_,by rw[F (AK h2),H.at_ k (c t) e t (WJ (E t h1).1)]⟩
 .rw[F m]at L;rw[F i]at J;cases L;cases J;have e1:(f j:Int)=(f k:Int):=e1;have O:(ns.length:Int) - (a.cs.length:Int)<=(ns.length:Int) - (b.cs.length:Int):=O;have la:=lz m;have lb:=lz i;obtain⟨σ,c1,p1,p2,p3⟩:=d (List.getElem?_eq_some_iff.mp m).1;obtain⟨Y,c2,I,S,q3⟩:=d (List.getElem?_eq_some_iff.mp i).1;have ei:σ=Y:=by omega
  subst ei;rw[p1]at I;cases I;rcases pw_two (w p1) p2 S with e|h|h
  .subst e;rw[m]at i;cases i;exact λx hx=>hx
  .obtain⟨x,y,D,C,o⟩:=HL h;rw[i]at D;cases D;rw[m]at C;cases C;rcases o with⟨o,_⟩|⟨_,o⟩
   .intro x hx;rw[<- o];exact hx
   .exact o
  .obtain⟨x,y,D,C,o⟩:=HL h;rw[m]at D;cases D;rw[i]at C;cases C;rcases o with⟨o,_⟩|⟨_,o⟩
   .intro x hx;rw[o];exact hx
   .exact cP (Ng (show C4 ns a.r a.g a.cs from hg a (BB m)).up) o (by omega)
 .exact(List.pairwise_and_iff.mpr ⟨R,W⟩).imp λ{a b}h=>Nat.lt_of_le_of_ne h.1 h.2
 .rw[N];exact yS G V (λb i=>G.len.symm▸X b i) aB
theorem kT(lo:Lo):((List.range lo.length).filter λt:Nat=>!((lo.map Bv).any λp=>BO p (.int (t:Int))))=Ax lo:=by
 unfold Ax;refine List.filter_congr λt _=>?_;have e:((lo.map Bv).any λp=>BO p (.int (t:Int)))=decide (t∈lows lo):=by
  refine Bool.eq_iff_iff.mpr ?_;rw[iP,L0];constructor
  .rintro⟨p,b,e⟩;obtain⟨o,ho,rfl⟩:=List.mem_map.mp b;cases o with
   |none=>cases e
   |some w=>
    have e:decide ((w:Int)=(t:Int))=true:=e;have e:=Int.ofNat_inj.mp (lx e);subst e;exact List.mem_filterMap.mpr ⟨some w,ho,rfl⟩
  .intro h;obtain⟨u,a⟩:=Fb.mp h;exact⟨.int (t:Int),List.mem_map.mpr ⟨some t,BB a,rfl⟩,hU rfl⟩
 rw[e,decide_not]
noncomputable def Gh(Ls:List Lp)(j k:Nat):Bool:=match Ls[j]?,Ls[k]? with
 |some a,some b=>decide (D9 b a∨D9 a b)
 |_,_=>false
theorem Yz{k:Nat}{a b:Lp}(d:Ls[j]?=some a)(c:Ls[k]?=some b):Gh Ls j k=decide (D9 b a∨D9 a b):=by unfold Gh;rw[d,c]
def dS:Pre:=λl R=>∃(ns:List Str)(m:Nat),l=[.AH,.is (.lst (ns.map .str)),.is (.int m)]/\m<=12/\ns.length<=40/\ns.Nodup/\R=.new λxs=>∃Ls:List Lp,xs=Ls.map Lp.P/\Ls.length<=m/\∀l∈Ls,l.Good ns
end Fz
namespace L2
variable{M:Model}{Γ:PySem.Ctx}{NH kp p pos:Pos}{s s1:Shared}{e e1 g i n:Nat}{α:Type}{A:Around}{q x:Str}{E Q:Value->Shared->Prop}{a c f kS:Addr}{keys:Array Value}{A0 vs:List Value}{kz:List Int}{X:Cx}{W:Nat->List Int->Hp->Prop}{body l:Expr}{xs:List V}{ta:TA}{tb te:TE}{params:Arguments}{scope:Scope}{js:List Nat}
theorem TY{t:Sem PySem.Fin}{fs:List Frame}{e1:End}(h:Runs M Γ p t fs s e1 s1):∀{d:End}{s2:Shared},Runs M Γ p t fs s d s2->e1=d/\s1=s2:=by
 induction h with
 |done|raise|yield=>intro d s2 h2;cases h2;exact⟨rfl,rfl⟩
 |rule _ b | «at» _ b|loadIfAlive _ b|point _ b|alloc _ b|fresh _ b|ask _ b|os _ b|handled _ b|stack _ b|thread _ b|newGen _ b=>
  intro d s2 h2;cases h2;rename_i h;exact b h
 |again _ _ b|update _ _ b|choose _ _ b=>
  intro d s2 h2;cases h2;rename_i h;exact b h
 |load e0 _ b|genState e0 _ b=>
  intro d s2 h2;cases h2;rename_i e1 h;rw[e0]at e1;cases e1;exact b h
 |call _ _ D7 Dq=>
  intro d s2 h2;cases h2 with
  |call c f=>
   obtain⟨e,es⟩:=D7 c;cases e;subst es;exact Dq f
  |callSusp c=>cases(D7 c).1
 |callSusp _ b=>
  intro d s2 h2;cases h2 with
  |call c f=>cases(b c).1
  |callSusp c=>
   obtain⟨e,es⟩:=b c;cases e;subst es;exact⟨rfl,rfl⟩
 |resumeFresh e0 _ _ _ D7 Dq=>
  intro d s2 h2;cases h2 with
  |resumeFresh a c _ f=>
   rw[e0]at a;cases a;obtain⟨e,es⟩:=D7 c;subst e;subst es;exact Dq f
  |resumeJustStarted a n _=>exact absurd rfl n
  |resumeSuspended a _ _ _|resumeRunning a _|resumeFinished a _=>rw[e0]at a;cases a
 |resumeSuspended e0 _ _ _ D7 Dq=>
  intro d s2 h2;cases h2 with
  |resumeSuspended a c _ f=>
   rw[e0]at a;cases a;obtain⟨e,es⟩:=D7 c;subst e;subst es;exact Dq f
  |resumeFresh a _ _ _|resumeJustStarted a _ _|resumeThrowFresh a _|resumeRunning a _|resumeFinished a _=>rw[e0]at a;cases a
 |resumeJustStarted e0 n _ b=>
  intro d s2 h2;cases h2 with
  |resumeJustStarted a _ h=>exact b h
  |resumeFresh a _ _ _=>exact absurd rfl n
  |resumeSuspended a _ _ _|resumeRunning a _|resumeFinished a _=>rw[e0]at a;cases a
 |resumeThrowFresh e0 _ b=>
  intro d s2 h2;cases h2 with
  |resumeThrowFresh a h=>exact b h
  |resumeSuspended a _ _ _|resumeRunning a _|resumeFinished a _=>rw[e0]at a;cases a
 |resumeRunning e0 _ b=>
  intro d s2 h2;cases h2 with
  |resumeRunning a h=>exact b h
  |resumeFresh a _ _ _|resumeSuspended a _ _ _|resumeJustStarted a _ _|resumeThrowFresh a _|resumeFinished a _=>rw[e0]at a;cases a
 |resumeFinished e0 _ b=>
  intro d s2 h2;cases h2 with
  |resumeFinished a h=>exact b h
  |resumeFresh a _ _ _|resumeSuspended a _ _ _|resumeJustStarted a _ _|resumeThrowFresh a _|resumeRunning a _=>rw[e0]at a;cases a
 |segRet _ _ D7 Dq=>
  intro d s2 h2;cases h2 with
  |segRet c f=>
   obtain⟨e,es⟩:=D7 c;cases e;subst es;exact Dq f
  |segSuspOut _ c|segSuspGen _ c _ _=>cases(D7 c).1
 |segGen _ _ D7 Dq=>
  intro d s2 h2;cases h2 with
  |segGen c f=>
   obtain⟨e,es⟩:=D7 c;cases e;subst es;exact Dq f
  |segSuspOut _ c|segSuspGen _ c _ _=>cases(D7 c).1
 |segSuspOut e0 _ b=>
  intro d s2 h2;cases h2 with
  |segSuspOut _ c=>
   obtain⟨e,es⟩:=b c;cases e;subst es;exact⟨rfl,rfl⟩
  |segSuspGen a _ _ _=>rw[e0]at a;cases a
  |segRet c _|segGen c _=>cases(b c).1
 |segSuspGen e0 _ _ _ D7 Dq=>
  intro d s2 h2;cases h2 with
  |segSuspGen a c _ f=>
   rw[e0]at a;cases a;obtain⟨e,es⟩:=D7 c;cases e;subst es;exact Dq f
  |segSuspOut a _=>rw[e0]at a;cases a
  |segRet c _|segGen c _=>cases(D7 c).1
theorem vH{r:Resume}{s2:Shared}{f d:GenResult}(h1:Wakes M Γ p g r s f s1)(h2:Wakes M Γ p g r s d s2):f=d/\s1=s2:=by
 unfold Wakes at h1 h2;split at h1
 .cases h1
 .rename_i c e0;rw[e0]at h2;cases r with
  |throw x=>exact⟨h1.1.trans h2.1.symm,h1.2.trans h2.2.symm⟩
  |send v=>
   by_cases h:v=Value.none
   .subst h;obtain⟨e,t,a,_,rfl,rfl⟩:=h1;obtain⟨i,t',b,_,rfl,rfl⟩:=h2;obtain⟨rfl,rfl⟩:=TY a b;exact⟨rfl,rfl⟩
   .split at h1
    .rename_i z;cases z;exact absurd rfl h
    .simp only at h2;exact⟨h1.1.trans h2.1.symm,h1.2.trans h2.2.symm⟩
    .rename_i z;cases z
 .rename_i e0;rw[e0]at h2;obtain⟨e,t,a,_,rfl,rfl⟩:=h1;obtain⟨i,t',b,_,rfl,rfl⟩:=h2;obtain⟨rfl,rfl⟩:=TY a b;exact⟨rfl,rfl⟩
 .rename_i e0;rw[e0]at h2;exact⟨h1.1.trans h2.1.symm,h1.2.trans h2.2.symm⟩
 .rename_i e0;rw[e0]at h2;exact⟨h1.1.trans h2.1.symm,h1.2.trans h2.2.symm⟩
theorem O4{t:Sem α}{Q1 Q2:α->Pos->Shared->Prop}{E1 E2:Value->Pos->Shared->Prop}:∀{p:Pos}{s:Shared},Sem.wp M Γ t Q1 E1 p s->Sem.wp M Γ t Q2 E2 p s->Sem.wp M Γ t (λa p s=>Q1 a p s/\Q2 a p s) (λe p s=>E1 e p s/\E2 e p s) p s:=by
 induction t with
 |pure|raise=>intro p s h1 h2;exact⟨h1,h2⟩
 |unsupported|finish|register|yield|fork|await=>intro p s h1 h2;exact h1
 |rule _ _ b | «at» _ _ b|loadIfAlive _ _ b|point _ _ b|alloc _ _ b|fresh _ b|ask _ b|os _ _ _ b|handled _ _ b|stack _ b|thread _ b|newGen _ _ b=>intro p s h1 h2;exact b _ h1 h2
 |update _ _ _ _ b|choose _ _ _ b=>intro p s h1 h2;exact⟨h1.1,b _ h1.2 h2.2⟩
 |load _ _ _ b|genState _ _ b=>
  intro p s h1 h2;obtain⟨o,e,h1⟩:=h1;obtain⟨o',c,h2⟩:=h2;rw[e]at c;cases c;exact⟨o,e,b _ h1 h2⟩
 |call _ _ _ _ _ b=>
  intro p s h1 h2;obtain⟨r,s',e,h1⟩:=h1;obtain⟨d,t',c,h2⟩:=h2;obtain⟨f,rfl⟩:=TY e c;cases f;exact⟨r,s',e,b _ h1 h2⟩
 |resume _ _ _ _ b=>
  intro p s h1 h2;obtain⟨r,s',e,h1⟩:=h1;obtain⟨d,t',c,h2⟩:=h2;obtain⟨rfl,rfl⟩:=vH e c;exact⟨r,s',e,b _ h1 h2⟩
theorem Yw{t:Sem α}{Q1 Q2:α->Shared->Prop}{E1 E2:Value->Shared->Prop}(h1:wpAny M A t Q1 E1 s)(h2:wpAny M A t Q2 E2 s):wpAny M A t (λa s=>Q1 a s/\Q2 a s) (λe s=>E1 e s/\E2 e s) s:=λΓ p b=>O4 (h1 Γ p b) (h2 Γ p b)
open PySem.W
noncomputable def JA(b:Nat->Nat->Bool){α:Type}:KasT α->α
 | .ret a=>a
 | .ask i j k=>JA b (k (b i j))
def Dl(n:Nat){α:Type}(P:α->Prop):KasT α->Prop
 | .ret a=>P a
 | .ask i j k=>i<n/\j<n/\∀c,Dl n P (k c)
theorem Dl.bind{β:Type}{P:α->Prop}{R:β->Prop}{f:α->KasT β}(h:∀a,P a->Dl n R (f a)):∀{t:KasT α},Dl n P t->Dl n R (t.bind f)
 | .ret a,z=>h a z
 | .ask i j k,z=>⟨z.1,z.2.1,λc=>(z.2.2 c).bind h⟩
theorem fP{n:Nat}{b:Nat->Nat->Bool}{c:Nat->Nat->(Bool->Shared->Prop)->Shared->Prop}(d:∀i j C s,i<n->j<n->C (b i j) s->c i j C s){α:Type}{P:α->Prop}{G:α->Shared->Prop}:∀{t:KasT α}{s:Shared},Dl n P t->G (JA b t) s->t.kasWp c G s
 | .ret a,_,_,g=>g
 | .ask i j k,_,z,g=>d i j _ _ z.1 z.2.1 (fP d (z.2.2 _) g)
theorem YQ{n:Nat}(b:Nat->Nat->Bool){α:Type}{P:α->Prop}:∀{t:KasT α},Dl n P t->P (JA b t)
 | .ret a,z=>z
 | .ask i j k,z=>YQ b (t:=k (b i j)) (z.2.2 (b i j))
def Al(n:Nat)(p:Array Nat):Prop:=p.toList.Perm (List.range n)
section
variable{p q:Array Nat}
theorem Al.get(h:Al n p)(a:0<n)(i:Nat):p.getD i 0<n:=by
 by_cases c:i<p.size
 .rw[OF,Kw c];exact List.mem_range.mp (h.mem_iff.mp (Array.getElem_mem_toList c))
 .rw[OF,Wv (L3 c)];exact a
theorem Al.perm(h:Al n p)(e:q.Perm p):Al n q:=(Array.perm_iff_toList_perm.mp e).trans h
theorem VU(u v:Nat->Nat):∀(l:List Nat)(xs:Array Nat),(l.foldl (λa k=>a.swapIfInBounds (u k) (v k)) xs).Perm xs
 | [],xs=>gE _
 |k::l,xs=>(VU u v l _).trans (by
  show(xs.swapIfInBounds (u k) (v k)).Perm xs;unfold Array.swapIfInBounds;split
  .split
   .exact Array.swap_perm _ _
   .exact gE _
  .exact gE _)
theorem Al.rev(h:Al n p)(i j:Nat):Al n (kas_rev p i j):=h.perm (VU _ _ _ _)
theorem Tv(a:0<n)(h:Al n p):∀f m,Dl n (λ_=>True) (kas_asc p f m)
 | 0,m=>trivial
 |f+1,m=>⟨h.get a _,h.get a _,λc=>by
  cases c with
  |true=>exact trivial
  |false=>exact Tv a h f (m+1)⟩
theorem Q0(a:0<n):∀f{p:Array Nat}(m q:Nat),Al n p->Dl n (λr=>Al n r.1) (kas_desc f p m q)
 | 0,_,m,q,h=>h
 |f+1,p,m,q,h=>⟨h.get a _,h.get a _,λc=>by
  cases c with
  |true=>
   show Dl n _ (if q > 0 then kas_desc f (kas_rev p (m - (q+1)) m) (m+1) 0 else kas_desc f p (m+1) 0)
   split
   .exact Q0 a f _ _ (h.rev _ _)
   .exact Q0 a f _ _ h
  |false=>exact⟨h.get a _,h.get a _,λd=>by
   cases d with
   |true=>exact h
   |false=>exact Q0 a f _ _ h⟩⟩
theorem aO(d:0<n)(h:Al n p)(a b:Nat):Dl n (λr=>Al n r.2) (kas_tail3 a b p):=(Tv d (h.rev 0 a) _ _).bind λc _=>show Dl n (λr:Nat×Array Nat=>Al n r.2) (KasT.ret (c,kas_rev p 0 a))from h.rev 0 a
theorem bz(c:0<n)(h:Al n p)(a b:Nat):Dl n (λr=>Al n r.2) (kas_descPart a b p):=(Q0 c _ _ _ h).bind λr d=>by
 split
 .exact aO c (d.rev _ _) _ _
 .exact aO c d _ _
theorem iQ(d:0<n)(h:Al n p)(b:Nat):Dl n (λr=>Al n r.2) (kas_count b p):=(Tv d h _ _).bind λa _=>by
 split
 .exact h
 .split
  .exact⟨h.get d _,h.get d _,λc=>by
    cases c with
    |true=>exact h
    |false=>exact bz d (h.rev _ _) _ _⟩
  .exact bz d h _ _
theorem UQ(a:0<n)(h:Al n p)(k:Nat):∀f l r,Dl n (λ_=>True) (kas_place p k f l r)
 | 0,l,r=>trivial
 |f+1,l,r=>by
  show Dl n _ (if l>=r then KasT.ret l else _)
  split
  .exact trivial
  .exact⟨h.get a _,h.get a _,λc=>by
    cases c with
    |true=>exact UQ a h k f _ _
    |false=>exact UQ a h k f _ _⟩
theorem Y9(a:0<n):∀f{p:Array Nat}(k:Nat),Al n p->Dl n (Al n) (kas_bin f p k)
 | 0,_,k,h=>h
 |f+1,p,k,h=>(UQ a h k _ _ _).bind λl _=>Y9 a f _ (h.perm (VU _ _ _ _))
theorem aZ(b:0<n):Dl n (Al n) (kas_sort n):=by
 have h:Al n (List.range n).toArray:=.refl _;exact(iQ b h n).bind λr a=>by
  split
  .exact Y9 b _ _ a
  .exact a
end
def EG(ks:List Int):List Nat:=(JA (λi j=>decide (ks.getD i 0<ks.getD j 0)) (kas_sort ks.length)).toList
theorem NL(ks:List Int):(EG ks).Perm (List.range ks.length):=by
 by_cases c:0<ks.length
 .exact YQ _ (aZ c)
 .rw[List.eq_nil_of_length_eq_zero (Nat.eq_zero_of_not_pos c)];exact .refl _
section
variable{prog:Program}{w:World}
theorem QF:∀{vs:List Value}{ns:List Int},IntsAre vs ns->∀i,i<ns.length->∃t,vs[i]?=some (.int (ns.getD i 0) t)
 |_,_,.nil,i,h=>by simp at h
 |_,_,.cons n t r,0,_=>⟨t,rfl⟩
 |_,_,.cons n t r,i+1,h=>by
  obtain⟨u,e⟩:=QF r i (Nat.lt_of_succ_lt_succ h);exact⟨u,by rw[ZAb];exact e⟩
theorem bX{st:SortSt}{P:PySem.Fin->Shared->Prop}(hk:s.heap.get? kS=some (seqObj "list" keys e))(g:s.heap.get? a=some (seqObj "list" #[] e1))(Fp:kS≠a)(hz:keys.size<=sizeLine)(Gs:(arrOf st).size<=sizeLine)(f:failedOf st=none)
  (h:∀s' c,s'.heap.get? a=some (seqObj "list" ((arrOf st).map (·.2)) c)->P (.done (.ret .none)) s'):wpAny (model prog w) A (ksk_tail a false e1 (.ref kS) st) P E s:=by
 unfold ksk_tail;have b:(s.heap.update kS (Obj.mapSeq λ_=>(#[]:Array Value))).get? a=some (seqObj "list" #[] e1):=(Ky _ _ Fp).trans g;refine dP (zE hk rfl ?_ hz (Bo _));refine dP (wpAny_letGo ?_);unfold seqEpoch;refine dP (dP (ZA2 b ?_));refine hJ ?_;refine dP (zE b rfl ?_ (Bo _) ?_)
 .rw[f];have d:=IU (Obj.mapSeq λ_=>if false=true then((arrOf st).map (·.2)).reverse else(arrOf st).map (·.2)) b rfl
  rw[i3 (by simp)];exact hJ (h _ _ d)
 .rw[i3 (by decide),MK];exact gW Gs
theorem item_at{it:Array Keyed}(h:i<it.size):kas_item it i=it[i]:=by
 unfold kas_item;rw[OF,Kw h];rfl
def NI(kz:List Int):Prop:=(EG kz).Pairwise λi j=>kz.getD i 0<=kz.getD j 0
theorem iL:∀{kz:List Int}{vs ks:List Value},IntsAre ks kz->kz.length=vs.length->vs.length<2->List.map (·.2) (ks.zip vs)=(EG kz).map (vs.getD · .none)/\NI kz
 |_,[],_,.nil,_,_=>⟨rfl,.nil⟩
 |_,[v],_,.cons _ _ .nil,_,_=>⟨rfl,gR _ _⟩
 |_,_::_::_,_,_,_,h=>absurd h (by simp)
 |_,_::_,_,.nil,h,_=>by cases h
 |_,[_],_,.cons _ _ (.cons _ _ _),h,_=>by cases h
 |_,[],_,.cons _ _ _,h,_=>by cases h
theorem qJ{P:PySem.Fin->Shared->Prop}(hk:s.heap.get? kS=some (seqObj "list" keys e))(y:s.heap.get? a=some (seqObj "list" #[] e1))(Fp:kS≠a)(f:IntsAre keys.toList kz)(d:kz.length=vs.length)(Bf:vs.length<64)
  (h:∀s' out c,s'.heap.get? a=some (seqObj "list" out c)->out.toList=(EG kz).map (vs.getD · .none)/\NI kz->P (.done (.ret .none)) s'):wpAny (model prog w) A (ksk_end a false vs.toArray e1 (.ref kS) keys) P E s:=by
 have I:keys.size=kz.length:=by rw[<- Df];exact f.length
 have g:(keys.zip vs.toArray).size=kz.length:=by rw[Array.size_zip,I,Bn,<- d,XS]
 have line:64<=sizeLine:=by rw[vW];decide
 have hz:keys.size<=sizeLine:=by omega
 unfold ksk_end;rw[i3 (by decide)]
 by_cases c:vs.length<2
 .have N:=c;rw[i5 (by simpa using c),i5 (by simpa using c)]
  refine dP (hJ ?_);refine dP (hJ ?_);refine bX hk y Fp hz (by show(keys.zip vs.toArray).size<=_;omega) rfl λs' c o=>h s' _ _ o ?_;show((keys.zip vs.toArray).map (·.2)).toList=_/\_
  rw[ZAM,Array.toList_zip];exact iL f d N
 .rw[i3 (by simpa using c),i3 (by simpa using c),ksk_kind f (by omega)]
  refine dP (hJ ?_);have S:SortSt.mk' oneType' (keys.zip vs.toArray) #[] 7 none=kas_st oneType' (keys.zip vs.toArray) (List.range kz.length).toArray:=by
   unfold kas_st;rw[<- g,kas_range]
  dsimp only;rw[i3 (by decide)];have O:=aZ (n:=kz.length) (by omega);have H:kasC (model prog w) A E sortRuns' (λr st s'=>s'=s/\failedOf st=none/\arrOf st=(JA (λi j=>decide (kz.getD i 0<kz.getD j 0)) (kas_sort kz.length)).map (kas_item (keys.zip vs.toArray))) (SortSt.mk' oneType' (keys.zip vs.toArray) #[] 7 none) s:=by
   rw[S];refine kas_runs (n:=kz.length) (G:=λp s'=>p=JA (λi j=>decide (kz.getD i 0<kz.getD j 0)) (kas_sort kz.length)/\s'=s) (by omega) (by omega) (λT ET s' q FW v hg=>⟨hg.2,v,by rw[<- hg.1];exact FW⟩) (fP (n:=kz.length) (b:=λi j=>decide (kz.getD i 0<kz.getD j 0)) (λi j C s hi l hC=>?_) O ⟨rfl,rfl⟩);unfold kas_cmp;obtain⟨t,e1⟩:=QF f i hi;obtain⟨u,m⟩:=QF f j l;rw[item_at (by rw[g];exact hi),item_at (by rw[g];exact l),Ww,Ww,keyLt'_oneType];have L:keys[i]'(by omega)=.int (kz.getD i 0) t:=by
    rw[Kx]at e1;exact(Array.getElem?_eq_some_iff.mp e1).2
   have J:keys[j]'(by omega)=.int (kz.getD j 0) u:=by
    rw[Kx]at m;exact(Array.getElem?_eq_some_iff.mp m).2
   rw[L,J];exact oneLt_int hC
  have F:wpS (model prog w) A E s sortRuns' (λ_ st=>SortedTo (arrOf st) (keys.zip vs.toArray).size) (SortSt.mk' oneType' (keys.zip vs.toArray) #[] 7 none):=wpS_sortRuns (ksk_intKeys f) ⟨.refl _,rfl,rfl,rfl⟩ (by omega) (by omega) λ_ _ _ z=>z;refine dP (ki (Yw (E1:=E) (E2:=E) H F) ?_ λ_ _ z=>z.1);rintro⟨_,st⟩s'⟨⟨rfl,v,Bg⟩,_,so⟩;have q:(EG kz).length=kz.length:=by rw[(NL kz).length_eq,D2]
  have D:∀{i},i∈EG kz->i<kz.length:=λh=>List.mem_range.mp ((NL kz).mem_iff.mp h);have B:(JA (λi j=>decide (kz.getD i 0<kz.getD j 0)) (kas_sort kz.length)).size=kz.length:=by rw[<- Df];exact q
  refine bX hk y Fp hz (by rw[Bg,MK,B];omega) v λs' c o=>h s' _ _ o ⟨?_,?_⟩
  .rw[Bg,Array.map_map,ZAM];refine MO λi hi=>?_;have hi:=D hi;show(kas_item (keys.zip vs.toArray) i).2=_;rw[item_at (by rw[g];exact hi),Ww];rw[DN,AK (by omega)];rfl
  .refine List.pairwise_iff_getElem.mpr λi j hi l CH=>?_;have R:j<kz.length:=by rw[<- q];exact l
   have key:∀k(hk:k<(EG kz).length),K (arrOf st) k=kz.getD (EG kz)[k] 0:=λk hk=>by
    have Q:k<(arrOf st).size:=by rw[Bg,MK,B];omega
    have x:=D (Fi hk);obtain⟨t,e1⟩:=QF f _ x;rw[Kx]at e1;obtain⟨h1,m⟩:=Array.getElem?_eq_some_iff.mp e1;rw[K_eq Q];have:(arrOf st)[k]=kas_item (keys.zip vs.toArray) (EG kz)[k]:=by
     have M:(arrOf st)[k]?=some (kas_item (keys.zip vs.toArray) (EG kz)[k]):=by
      rw[Bg,Array.getElem?_map];have:(JA (λi j=>decide (kz.getD i 0<kz.getD j 0)) (kas_sort kz.length))[k]?=some (EG kz)[k]:=by
       rw[<- Kx];exact AK hk
      rw[this];rfl
     exact(Array.getElem?_eq_some_iff.mp M).2
    rw[this,item_at (by rw[g];exact x),Ww,m];rfl
   have:=so i j (IX CH) (by rw[g];exact R)
   rwa [key i hi,key j l]at this
def Me(kz:List Int)(vs out:List Value):Prop:=out=(EG kz).map (vs.getD · .none)/\NI kz
theorem zU{L:Addr}{m:ZBz}{P:PySem.Fin->Shared->Prop}(E7:s.heap.Ns L m)(hk:s.heap.get? kS=some (seqObj "list" keys e))(n:s.heap.get? a=some (seqObj "list" #[] e1))
  (Fp:kS≠a) (r:kS≠L) (u:a≠L) (l:IntsAre keys.toList kz) (d:kz.length=vs.length) (Bf:vs.length<64)
  (h:∀h' tk out c,h'.Ns L m->(∀b o,b≠L->b≠kS->b≠a->s.heap.get? b=some o->h'.get? b=some o)->h'.get? a=some (seqObj "list" out c)->Me kz vs out.toList->P (.done (.ret .none)) { s with heap:=h',toks:=tk }) :
  wpAny (model prog w) A (ksk_end a false vs.toArray e1 (.ref kS) keys) P E s:=by
 refine ki (Yw (E1:=E) (E2:=E) (lW (P:=λf s'=>∃h' tk out c,f=.done (.ret .none)/\s'={ s with heap:=h',toks:=tk }/\h'.Ns L m/\(∀b o,b≠L->b≠kS->b≠a->s.heap.get? b=some o->h'.get? b=some o)/\h'.get? a=some (seqObj "list" out c)) E7 hk n Fp r u l d Bf λh' tk out c i g j _=>⟨h',tk,out,c,rfl,rfl,i,g,j⟩) (qJ (P:=λf s'=>∃out c,s'.heap.get? a=some (seqObj "list" out c)/\Me kz vs out.toList) hk n Fp l d Bf λs' out c i g=>⟨out,c,i,g⟩)) ?_ λ_ _ z=>z.1
 rintro _ _⟨⟨h',tk,out,c,rfl,rfl,i,g,j⟩,p,t,k,q⟩;have k:h'.get? a=some (seqObj "list" p t):=k;rw[j]at k;cases k;exact h h' tk out c i g j q
variable{Zq:ZBy}{Z:St}{H:Hp}
theorem v8{P:PySem.Fin->Shared->Prop}(I:Inv X ((kS,seqObj "list" #[] 0)::(a,seqObj "list" #[] e1)::Zq) Z H s)
  (hk:X.s₀.heap.objs.size<=kS) (ha:X.s₀.heap.objs.size<=a) (Fp:kS≠a) (D:∀p∈X.pn++Zq,p.1≠kS) (Y:∀p∈X.pn++Zq,p.1≠a) (Bf:A0.length<64) (T:W 0 [] H)
  (B:∀i ks H2 s2 P2 v,A0[i]?=some v->ks.length=i->W i ks H2->Inv X P2 Z H2 s2->(∀p∈Zq,p∈P2)->wpAny (model X.prog X.w) A (call (.ref f) [v]) (EP X P2 Z (λy H3=>∃k:Int,y=.int k/\W (i+1) (ks++[k]) H3)) (λ_ _=>False) s2)
  (h:∀ks H2 s2 out c,W A0.length ks H2->ks.length=A0.length->Me ks A0 out.toList->Inv X ((a,seqObj "list" out c)::Zq) Z H2 s2->P (.done (.ret .none)) s2) :
  wpAny (model X.prog X.w) A (ksk_rest a (.ref f) false A0.toArray e1 (.ref kS)) P E s:=by
 unfold ksk_rest;refine dP (vb ?_)
 first
  |rw[List.forIn_toArray]
  | (rw[<- ZAJ];simp only[List.toList_toArray])
  |rw[<- ZAJ]
 have U:∀p∈X.pn++(a,seqObj "list" #[] e1)::Zq,p.1≠kS:=λp F=>by
  rcases List.mem_append.mp F with z|z
  .exact D p (DA _ z)
  .rcases List.mem_cons.mp z with rfl|z
   .exact Fp.symm
   .exact D p (Bk _ z)
 refine dP (ksk_fold (λi s'=>∃g e ks H2,Inv X ((kS,seqObj "list" g e)::(a,seqObj "list" #[] e1)::Zq) Z H2 s'/\W i ks H2/\IntsAre g.toList ks/\ks.length=i) A0 0 s ⟨#[],0,[],H,I,T,.nil,rfl⟩ ?step ?done)
 case step=>
  rintro j x s' hx⟨g,e,ks,H2,I2,hw,hi,r⟩;simp only[Rm]at hw r ⊢;have hj:j<A0.length:=(List.getElem?_eq_some_iff.mp hx).1;refine dP (xj (ki (B j ks H2 s' _ x hx r hw I2 λp F=>B2 _ (B2 _ F)) (λv s2 he=>?_) λ_ _ hF=>hF.elim));obtain⟨y,H3,I3,V,k,rfl,S⟩:=he;obtain⟨t,rfl⟩:∃t,v=.int k t:=V
  try dsimp only
  have nk:=(I3.pin (kS,seqObj "list" g e) (Bk _ Aj)).1;have hz:g.size<=A0.length:=by
   have h1:=hi.length;rw[Df]at h1;omega
  have s1:=Fh s2.heap kS (Obj.mapSeq (·.push (.int k t)))
  obtain⟨K,KH⟩:∃K,(s2.heap.update kS (Obj.mapSeq (·.push (.int k t)))).get? kS=some (seqObj "list" (g.push (.int k t)) K):=⟨_,get?_update_seq nk (·.push (.int k t))⟩
  refine dP (listUpdate_at nk rfl ?_ (by rw[vW];omega) (CQ (Rj (Array.size_push ..)) (by rw[vW];omega)));refine hJ ⟨rfl,g.push (.int k t),K,ks++[k],H3,I3.qS (t':=s2.toks) s1 KH hk U (λv z=>by cases z),S,?_,by rw[BX,r];rfl⟩;rw[show(g.push (Value.int k t)).toList=g.toList++[Value.int k t] by simp];exact ksk_snoc hi
 case done=>
  rintro s'⟨g,e,ks,H2,I2,hw,hi,r⟩;rw[Rm]at hw r;obtain⟨nk,σ,Q,kf,_⟩:=I2.pin (kS,seqObj "list" g e) (Bk _ Aj);have J:=I2.L7;obtain⟨M,R,L,af,_⟩:=J.pin (a,seqObj "list" #[] e1) (Bk _ Aj);obtain⟨m,E7,_⟩:=J.loc
  try dsimp only
  refine dP (listItems_at nk rfl ?_);refine zU E7 nk M Fp Q L hi r Bf λh' tk out c O keep ea ko=>?_;have C:∀b u,H2 b=some u->b≠kS/\b≠a:=λb u e=>⟨λz=>absurd (e.symm.trans (z▸σ)) (by simp),λz=>absurd (e.symm.trans (z▸R)) (by simp)⟩;have J1:Inv X Zq Z H2 { s' with heap:=h',toks:=tk }:=by
   refine J.L7.step (g':=s'.gens) (d':=s'.drawn) (ch:=[kS,a]) (λb G=>?_) (λb o h1 _ l e _=>?_) (λb o h1 _ l e _=>⟨o.slots,?_⟩) (λ_ _ _ _ n=>n) (λb o l e=>?_) (λ_ _ e=>e) (λ_ _ _ e=>e) (λm2 h2=>by rw[gn h2 E7];exact O) (λb u e=>?_) I2.bare
   .rcases List.mem_cons.mp G with rfl|G
    .exact⟨.inr hk,Q,I2.Pk nk (λv z=>by cases z),D⟩
    .rw[List.mem_singleton.mp G];exact⟨.inr ha,L,I2.Pk M (λv z=>by cases z),Y⟩
   .exact keep b o h1 (λz=>l (by simp[z])) (λz=>l (by simp[z])) e
   .exact keep b o h1 (λz=>l (by simp[z])) (λz=>l (by simp[z])) e
   .by_cases z:b=X.env.locals
    .obtain⟨o',_,_,Bq,_⟩:=O;exact⟨o',z▸Bq⟩
    .exact⟨o,keep b o z (λz=>l (by simp[z])) (λz=>l (by simp[z])) e⟩
   .have N:∀d v,H2 d=some v->d≠X.env.locals:=λd v e z=>by rw[z,I2.free]at e;cases e
    refine(I2.AE b u e).Fo (λd v hd q=>?_) (λ_ q=>q) λ_ _ q=>q;rcases hd with rfl|hd
    .exact keep d v (N d _ e) (C d _ e).1 (C d _ e).2 q
    .exact keep d v (N d _ hd) (C d _ hd).1 (C d _ hd).2 q
  exact h ks H2 _ out c hw r ko (J1.LU ea R L af λv z=>by cases z)
theorem zK{l:Addr}(I:Inv X Zq Z H s)(a:s.heap.IsList l A0.toArray∨IsTup s.heap l A0.toArray)(Bf:A0.length<64)(B:W 0 [] H)
  (j:∀i ks H2 s2 P2 v,A0[i]?=some v->ks.length=i->W i ks H2->Inv X P2 Z H2 s2->(∀p∈Zq,p∈P2)->wpAny (model X.prog X.w) X.A.in1.in1 (call (.ref f) [v]) (EP X P2 Z (λy H3=>∃k:Int,y=.int k/\W (i+1) (ks++[k]) H3)) (λ_ _=>False) s2)
  (h:∀D ks H2 s2 out c,W A0.length ks H2->ks.length=A0.length->Me ks A0 out.toList->Inv X ((D,seqObj "list" out c)::Zq) Z H2 s2->s.heap.objs.size<=D->Q (.ref D) s2) :
  wpAny (model X.prog X.w) X.A (call (.builtin "sorted") [.ref l] [(Str.ofString "key",.ref f)]) Q E s:=by
 refine call_function_entry_kw kind_sorted plain_sorted entry_sorted (ksk_s1 _ _) ?_;unfold Builtin.«sorted»;refine dP (m:=checkCount "sorted" 1 1 _) (hJ ?_);have x:A0.length<=sizeLine:=by rw[vW];omega
 have co:∀{A1:Around}{E1:Value->Shared->Prop}{Q1:List Value->Shared->Prop},Q1 A0 { s with heap:=(s.heap.push (seqObj "list" #[] 0)).update s.heap.objs.size (Obj.mapSeq (·++A0.toArray)) }->wpAny (model X.prog X.w) A1 (collect (.ref l)) Q1 E1 s:=λq=>a.elim (λa=>collect_list a q x) λa=>WK a q x
 refine dP (co ?_);refine dP (zC ?_ (by rw[vW];omega));have hsz:((s.heap.push (seqObj "list" #[] 0)).update s.heap.objs.size (Obj.mapSeq (·++A0.toArray))).objs.size=s.heap.objs.size+1:=by
  rw[X4,DM]
 have e:(((s.heap.push (seqObj "list" #[] 0)).update s.heap.objs.size (Obj.mapSeq (·++A0.toArray))).push (seqObj "list" A0.toArray 0)).get? (s.heap.objs.size+1)=some (seqObj "list" A0.toArray 0):=by
  rw[<- hsz];exact BP _ rfl
 have keep:∀b o,s.heap.get? b=some o->(((s.heap.push (seqObj "list" #[] 0)).update s.heap.objs.size (Obj.mapSeq (·++A0.toArray))).push (seqObj "list" A0.toArray 0)).get? b=some o:=λb o q=>by
  have t:b<s.heap.objs.size:=AY q;rw[Heap.get?_push_ne _ _ _ (by rw[hsz];exact Az (GD t)),X3 _ _ _ _ (Az t),Heap.get?_push_ne _ _ _ (Az t)];exact q
 show wpAny _ _ _ _ _ { s with heap:=((s.heap.push (seqObj "list" #[] 0)).update s.heap.objs.size (Obj.mapSeq (·++A0.toArray))).push (seqObj "list" A0.toArray 0) }
 rw[hsz];generalize hh:((s.heap.push (seqObj "list" #[] 0)).update s.heap.objs.size (Obj.mapSeq (·++A0.toArray))).push (seqObj "list" A0.toArray 0)=g at e keep
 refine dP (mB (wpAny_call_entry_kw slot_list_sort ⟨_,e,rfl⟩ entry_list_sort ?body (ksk_l1 _ _)))
 case body=>
  show wpAny (model X.prog X.w) X.A.in1.in1 (Builtin.«list.sort» ⟨[.ref (s.heap.objs.size+1)],[(Str.ofString "key",.ref f)]⟩) _ _ _;rw[ksk_t1];obtain⟨e1,ZQ⟩:∃e1,(g.update (s.heap.objs.size+1) (Obj.mapSeq λ_=>(#[]:Array Value))).get? (s.heap.objs.size+1)=some (seqObj "list" #[] e1):=⟨_,get?_update_seq e λ_=>#[]⟩;unfold ksk_tree;refine dP (listItems_at e rfl ?_);refine dP (listUpdate_at e rfl ?_ (by rw[Bn,vW];omega) (Bo _));refine dP (seqEpoch_at ZQ rfl ?_);refine dP (wpAny_newTuple ?_ (by show A0.length<=_;rw[vW];omega));refine dP (zC ?_ (Bo _));refine mB ?_;have C:s.heap.objs.size+1<g.objs.size:=AY e;have up:∀b o,b≠s.heap.objs.size+1->g.get? b=some o->(((g.update (s.heap.objs.size+1) (Obj.mapSeq λ_=>(#[]:Array Value))).push (seqObj "tuple" A0.toArray 0)).push (seqObj "list" #[] 0)).get? b=some o:=λb o r q=>Ay _ (Ay _ ((X3 _ _ _ _ r).trans q));have old:∀b o,s.heap.get? b=some o->(((g.update (s.heap.objs.size+1) (Obj.mapSeq λ_=>(#[]:Array Value))).push (seqObj "tuple" A0.toArray 0)).push (seqObj "list" #[] 0)).get? b=some o:=λb o q=>up b o (Az (GD (AY q))) (keep b o q);have kz:((g.update (s.heap.objs.size+1) (Obj.mapSeq λ_=>(#[]:Array Value))).push (seqObj "tuple" A0.toArray 0)).objs.size=g.objs.size+1:=by rw[DM,X4]
  have K:(((g.update (s.heap.objs.size+1) (Obj.mapSeq λ_=>(#[]:Array Value))).push (seqObj "tuple" A0.toArray 0)).push (seqObj "list" #[] 0)).get? (g.objs.size+1)=some (seqObj "list" #[] 0):=by rw[<- kz];exact BP _ rfl
  have L:(((g.update (s.heap.objs.size+1) (Obj.mapSeq λ_=>(#[]:Array Value))).push (seqObj "tuple" A0.toArray 0)).push (seqObj "list" #[] 0)).get? (s.heap.objs.size+1)=some (seqObj "list" #[] e1):=Ay _ (Ay _ ZQ);show wpAny _ _ (ksk_rest (s.heap.objs.size+1) (.ref f) false A0.toArray e1 (.ref ((g.update (s.heap.objs.size+1) (Obj.mapSeq λ_=>(#[]:Array Value))).push (seqObj "tuple" A0.toArray 0)).objs.size)) _ _ _;rw[kz];have d:s.heap.objs.size<=s.heap.objs.size+1:=EL _;have n:s.heap.objs.size<=g.objs.size+1:=by omega
  have u:∀{b:Addr},s.heap.objs.size<=b->∀p∈X.pn++Zq,p.1≠b:=λr p G z=>absurd (AY (I.pin p G).1) (by rw[z];exact OK r);have J:=I.kept (t':=s.toks) old;have N:=J.LU L (I.AE.fresh d) (EA (CG I.lt d)) (I.OA d) (λv z=>by cases z);have M:=N.LU K (I.AE.fresh n) (EA (CG I.lt n)) (I.OA n) (λv z=>by cases z);refine v8 M (CQ I.sz n) (CQ I.sz d) (EA (GD C)) (u n) (u d) Bf B j λks H2 s2 out c hw a F J3=>⟨_,rfl,?_⟩;exact hJ ⟨_,rfl,h _ ks H2 s2 out c hw a F J3 d⟩
end
def cw(kz:List Int)(xs ys:List V):Prop:=ys=(EG kz).map (xs.getD · .A6)/\NI kz
theorem Ab.up{K:ZBx}{H H':Hp}(h:Ab K H a xs)(up:∀b o,H b=some o->H' b=some o):Ab K H' a xs:=by
 rcases h with(h|⟨o,h⟩)|h
 .exact .inl (.inl (up _ _ h))
 .exact .inl (.inr ⟨o,up _ _ h⟩)
 .exact .inr h
theorem dB{xs:List V}{us:List Value}(r:Vals xs us):∀l:List Nat,Vals (l.map (xs.getD · .A6)) (l.map (us.getD · .none))
 | []=>.nil
 |i::l=>.cons (by
   show RelV (xs.getD i .A6) (us.getD i .none)
   by_cases c:i<xs.length
   .obtain⟨u,b,a⟩:=r.get (AK c);rw[DN,DN,AK c,b];exact a
   .rw[DN,DN,HV (L3 c),HV (by rw[<- r.length];exact L3 c)];rfl) (dB r l)
theorem jN{out:List Value}(r:Vals xs vs)(k:Me kz vs out):∃ys,cw kz xs ys/\Vals ys out:=⟨_,⟨rfl,k.2⟩,by rw[k.1];exact dB r _⟩
def SF(K:ZBx)(P:Addr)(pos:Pos)(q:Str)(js:List Nat)(ta:TA)(tb:TE):TE:=λZ H Q=>ta Z H λvs H1=>∃a tp xs,vs=[.ref a]/\CK K tp H1 a xs/\xs.length<64/\H1 P=some (.C2 (.tab pos q))/\
 ∀c' H2,(∀b o,H1 b=some o->H2 b=some o)->H2 c'=some (.C2 (.IP q))->
  ∃W:Nat->List Int->Hp->Prop,W 0 [] H2/\(∀i ks H3,W i ks H3->H3 c'=some (.C2 (.IP q)))/\
   (∀i ks H3 v,W i ks H3->ks.length=i->xs[i]?=some v->tb (Ak js Z++[some v]) H3 λy H4=>∃k:Int,y=.int k/\W (i+1) (ks++[k]) H4)/\
   ∀ks H3 ys,W xs.length ks H3->ks.length=xs.length->cw ks xs ys->∀l,H3 l=none->Q (.ref l) (upd H3 l (.lst ys))
section
theorem oG{P:Addr}{k:Nat}{A7:List Str}(hr:BY (k+2) X.A)(Bw:X.calm=true)(hg:Gl X "sorted")(hm:X.mg "sorted"=none)(ha:PA X [l] ta)
  (S:DE X.N X.env.scope scope (some x) [x] A7 js) (hx:scope.names.lookup x=some .cell) (co:scope.isCoroutine=false) (gen:scope.isGenerator=false) (hC:PySem.W.codeHdIn X.K c P=true) (hc:X.env.code=.ref c) (Vg:X.env.globals=mainGlobals)
  (hb:X.base.BuiltinsAt X.mg P) (Hw:mainGlobals≠P) (j:X.env.qual ++ "<lambda>"=q) (Mt:defaultsOf params X.env=([],[]))
  (bind:∀(cl:List (Str×Addr))(Y DR u:Value)(c':Addr),bindArgs (PySem.W.kla_fn "<lambda>" q params body scope cl Y (.ref c') DR) ⟨[u],[]⟩=pure [(x,u)])
  (IE:∀(f:Addr)(cd:Value)(s:Shared)(H:Hp),PE (Qd X X.A.in1.in1 (A7++[x]) x (Mp q scope x (BE X.env.cells scope.names) s.heap.objs.size f cd) s H) body tb)
  (C:starEach [l] X.env=[(false,eval l X.env)]:=by rfl) :
  PE X (.Call (.Name "sorted" p) [l] [⟨some "key",.Lambda params body scope NH,kp⟩] pos) (SF X.K P NH q js ta tb):=by
 intro Zq s Z H Q I h;refine v9 (K3 I hg hm (show bootBuiltins "sorted"=some (.builtin "sorted") by decide +kernel) ?_ (by decide) (by decide));refine callWith_kw (ha.k pos I h λus s1 vs H1 I1 T V=>?_) (by rw[C];rfl) (by rw[C];rfl) rfl rfl;obtain⟨a,tp,xs,rfl,F,Bf,hP,U⟩:=V;obtain⟨u,rfl,R⟩:=vals1 T;cases R;have N7:∀y∈scope.names,y.2=.free->(X.env.cells.lookup y.1).isSome=true:=λy t hk=>by
  obtain⟨c,e⟩:=I1.ok.has y.1 (S.all y t hk);rw[e];rfl
 refine kws_cons (ju I1 hP (ZB0 I1.ok.mod.II hC) hc Vg (Za N7) hb Hw j Mt λf c' DR s2 H2 I2 up Ep ho=>?_);refine kws_nil ?_;show wpAny (model X.prog X.w) X.A (call (.builtin "sorted") [.ref a] [(Str.ofString "key",.ref f)]) (EP X Zq Z Q) X.xe s2;obtain⟨W,L,G,m,fin⟩:=U c' H2 up Ep;obtain⟨A0,d,pl⟩:∃A0,Vals xs A0/\(s2.heap.IsList a A0.toArray∨IsTup s2.heap a A0.toArray):=by
  cases tp with
  |false=>obtain⟨A0,d,pl,_⟩:=I2.list (AG.up F up);exact⟨A0,d,.inl pl.isList⟩
  |true=>obtain⟨A0,d,pl,_⟩:=I2.tuple (Ab.up F up);exact⟨A0,d,.inr pl⟩
 have b:=d.length;refine zK (W:=W) I2 pl (by omega) L (λi ks H3 M P2 v hv B hw I3 sub=>?_) (λD ks H3 M out E hw B σ I3 big=>?_)
 .obtain⟨y,t,O⟩:=d.qQ hv;have hf:=(I3.pin (f,PySem.W.kla_obj "<lambda>" q params body scope (BE X.env.cells scope.names) ((X.mg "__name__").getD .none) c' DR) (Bk _ (sub _ Aj))).1;refine wpAny_call (xx (ZA9 (k:=k) S hx I3 I3.Xh.in1.in1 hr.in1.in1 hf (G _ _ _ hw) co gen (λu=>bind _ _ _ u _) O (IE _ _ _ _) (m i ks H3 y hw B t)) λr s' j=>?_);cases r with
  |error e=>exact False.elim j
  |ok fl=>
   cases fl with
   |ret u=>exact I3.after j
   |next=>exact False.elim j
   |brk=>exact False.elim j
   |cont=>exact False.elim j
 .obtain⟨ys,kv,M9⟩:=jN d σ;obtain⟨g,n,hL,_,Us⟩:=I3.pin (D,seqObj "list" out E) (Bk _ Aj);have J:=I3.L7.L7;have t:ys.length<=sizeLine:=by
   rw[kv.1,AA,(NL ks).length_eq,D2,vW];omega
  refine⟨.ref D,_,J.xb (o:=.lst ys) n (CQ I2.sz big) hL (J.Pk g Us) (λp hp z=>?_) ⟨t,out.toList,E,M9,by rw[Array.toArray_toList];exact g⟩,rfl,fin ks H3 ys (by rw[b];exact hw) (by rw[b];exact B) kv D n⟩;exact absurd (AY (I2.L7.pin p hp).1) (by rw[z];exact OK big)
variable{elt iter:Expr}{px:Pos}{ifs:List Expr}{A7:List Str}{tt:TT}{wi:TI}
theorem o6{P:Addr}{k:Nat}(d:BY (k+2) X.A)(Bw:X.calm=true)(hg:Gl X "sorted")(g:X.mg "sorted"=none)(m:QA X [l] ta)
  (S:RN X.N X.env.scope scope x A7 js) (hx:scope.names.lookup x=some .cell) (co:scope.isCoroutine=false) (gen:scope.isGenerator=false) (hC:PySem.W.codeHdIn X.K c P=true) (i:X.env.code=.ref c) (Vg:X.env.globals=mainGlobals)
  (j:X.base.BuiltinsAt X.mg P) (Hw:mainGlobals≠P) (e:X.env.qual ++ "<lambda>"=q) (Mt:defaultsOf params X.env=([],[]))
  (bind:∀(cl:List (Str×Addr))(a DR u:Value)(c':Addr),bindArgs (PySem.W.kla_fn "<lambda>" q params body scope cl a (.ref c') DR) ⟨[u],[]⟩=pure [(x,u)])
  (IE:∀(f:Addr)(cd:Value)(s:Shared)(H:Hp),QE (Qd X X.A.in1.in1 (A7++[x]) x (Mp q scope x (BE X.env.cells scope.names) s.heap.objs.size f cd) s H) body tb)
  (b:starEach [l] X.env=[(false,eval l X.env)]:=by rfl) :
  QE X (.Call (.Name "sorted" p) [l] [⟨some "key",.Lambda params body scope NH,kp⟩] pos) (SF X.K P NH q js ta tb):=
 ⟨oG d Bw hg g m.h S.G hx co gen hC i Vg j Hw e Mt bind (λf cd s H=>(IE f cd s H).h) b⟩
end
end L2
namespace Fz
open L2 Lw
variable{xs:List PV}{ss:List Slot}{ta:TA}{tb te:TE}{A js:List Nat}{pos:Pos}{i jp n:Nat}{T a e:Addr}{tr:Bool}{line ns:List Str}{Ls:List Lp}{ls:List (List Str)}{ps:List (Int×Int)}{α:Type}{zs:List Int}{b z:Int}{o:Lp}{B D t x:OV}{us:List OV}
def Kv(key:PV->Int)(xs:List PV):List PV:=(EG (xs.map key)).map (xs.getD · .A6)
theorem oB:(List.range xs.length).map (xs.getD · .A6)=xs:=by
 apply RV
 .rw[AA,D2]
 .intro i h1 h2;rw[List.getElem_map,List.getElem_range];show xs.getD i .A6=xs[i];rw[DN,AK h2];rfl
theorem YK(key:PV->Int)(xs:List PV):(Kv key xs).Perm xs:=by
 have h:=(NL (xs.map key)).map (xs.getD · .A6)
 rw[AA,oB]at h;exact h
theorem jA{key:PV->Int}(h:NI (xs.map key)):(Kv key xs).Pairwise λa b=>key a<=key b:=by
 refine List.pairwise_map.mpr (X8 (λ{i j}hi d z=>?_) h);have e:∀{i},i∈EG (xs.map key)->(xs.map key).getD i 0=key (xs.getD i .A6):=λ{i}hi=>by
  have c:=List.mem_range.mp ((NL _).mem_iff.mp hi);rw[AA]at c;rw[DN,DN,AO,AK c];rfl
 rwa [e hi,e d]at z
theorem ZW{F:Hp}{vs:List V}{xs:List PV}(r:AF F vs xs):∀l:List Nat,AF F (l.map (vs.getD · .A6)) (l.map (xs.getD · .A6))
 | []=>.nil
 |i::l=>.cons (by
   show Rep F (vs.getD i .A6) (xs.getD i .A6);rw[DN,DN]
   by_cases c:i<xs.length
   .obtain⟨v,b,a⟩:=r.get (i:=i) (AK c);rw[b,AK c];exact a
   .rw[HV (L3 c),HV (by rw[r.length];exact L3 c)];exact .A6) (ZW r l)
section
variable[Xw]
variable{k:List PV->Prop}{K:ZBx}{P:Addr}{q:Str}
theorem wQ{G:Hp->V->Prop}(key:PV->Int)(L:ss[jp]?=some (.raw G))(N:∀F v,G F v->F P=some (.C2 (.tab pos q)))
  (h:Wa ss ta λl=>∃tp xs,l=[.sq tp xs]/\xs.length<64/\(∀x∈xs,Wp (Bp js ss++[.is x]) tb λp=>p=.int (key x))/\((Kv key xs).Perm xs->((Kv key xs).Pairwise λa b=>key a<=key b)->k (Kv key xs)))
  (nd:js.Nodup:=by decide) (np:MG js ss=true:=by rfl):Wn ss (SF K P pos q js ta tb) k:=⟨λE Z F H Q S B=>
 h.go E Z F H _ S λvs l F1 H1 d R z=>by
  obtain⟨tp,xs,rfl,hz,hk,kk⟩:=z;cases R with
  |cons a t=>
   cases t;obtain⟨l,ws,rfl,f,r⟩:∃l ws,_=V.ref l/\CK K tp H1 l ws/\AF F1 ws xs:=by
    cases tp with
    |false=>obtain⟨l,ws,e,_,f,r⟩:=a;exact⟨l,ws,e,AG.of f,r⟩
    |true=>obtain⟨l,ws,e,f,r⟩:=Rep.inv a;exact⟨l,ws,e,Ab.of (d.st.fh _ _ f),r⟩
   obtain⟨_,_,M,_⟩:=d.st.ok jp _ L;refine⟨l,tp,ws,rfl,f,by rw[r.length];exact hz,d.st.fh _ _ (N _ _ M),λc' H2 up Ep=>?_⟩;have m2:=d.st.grow up;have u:C7 ss Z c':=λi hi e=>by
    obtain⟨U,e1,_,_,pt⟩:=m2.st.ok i _ hi;rw[e]at e1;cases e1;obtain⟨x,y,m,_⟩:=pt;rw[Ep]at m;cases m
   refine⟨λi ks H3=>i<=xs.length/\ks=(xs.take i).map key/\∃F3,Mv E ss Z F1 H2 F3 H3,⟨Bo _,rfl,F1,.refl m2.st⟩,λi ks H3 z=>?_,λi ks H3 v z hi J=>?_,λks H3 ys z _ kv l2 o=>?_⟩
   .obtain⟨_,_,F3,c⟩:=z;exact c.hh c' _ u Ep
   .obtain⟨_,j,F3,c⟩:=z;obtain⟨p,g,A⟩:=r.get' J;have s:=(List.getElem?_eq_some_iff.mp g).1;have T:=c.st.A7 (js:=js) nd (.one (A.mono c.ff));refine(hk p (BB g)).go E _ F3 H3 _ T λw n F4 H4 I C O=>?_;subst O;cases C.inv;refine⟨key p,rfl,s,?_,F4,c.trans (I.out (ps:=[p]) c.st np)⟩;have m:xs[i]=p:=by rw[AK s]at g;exact B3 g
    rw[Jf s,m,EK,j];rfl
   .obtain⟨_,j,F3,c⟩:=z;rw[r.length,Eg]at j;obtain⟨rfl,n⟩:=kv;rw[j]at n ⊢;have D:=m2.trans (c.trans (c.st.make o (.lst ((EG (xs.map key)).map (ws.getD · .A6)))))
    exact B l2 _ (Kv key xs) F3 _ (d.trans D) (c.st.Bi o) (d.none (m2.none (c.none o))) AX (ZW (r.mono c.ff) _) (kk (YK key xs) (jA n))⟩
end
open Kz
def fT:Pre:=λl R=>∃(tp:Bool)(Ls:List Lp)(n u:Nat),l=[.sq tp (Ls.map Lp.P),.is (.int n),.is (.int u)]/\Lu Ls/\n<Ls.length/\u<Ls.length/\R=.is (·=.bl (Bc Ls n u))
def fS:Pre:=λl R=>∃(tp:Bool)(Ls:List Lp)(n:Nat),l=[.sq tp (Ls.map Lp.P),.is (.int n)]/\Lu Ls/\n<Ls.length/\R=.new (·=(ups Ls n).map λu:Nat=>PV.int u)
def ck:Pre:=λl R=>∃(tr tp:Bool)(ns:List Str)(Ls:List Lp)(AM:List (List Nat))(f:Nat->Nat),l=[.sq tr (ns.map .str),.sq tp (Ls.map Lp.P),.is (.lst (AM.map CD))]/\Lb Ls.length AM f/\
 R=.new (·=(Ls.zipIdx.map λp=>((f p.2:Int),(ns.length:Int) - (p.1.cs.length:Int))).map CP)
noncomputable def Ph(tp:Bool)(xs:List PV):PV:=if tp=true then .tup xs else .lst xs
def Ff(T:Addr)(pos:Pos)(tr:Bool)(ns:List Str):Hp->V->Prop:=λF v=>Rep F v (Ph tr (ns.map .str))/\F T=some (.C2 (.tab pos Kl))
theorem j4(T:Addr)(pos:Pos)(tr:Bool)(ns:List Str):∀F F',AD F F'->∀v,Ff T pos tr ns F v->Ff T pos tr ns F' v:=λF F' s v h=>⟨h.1.mono s,s _ _ h.2⟩
section
variable[Xw]
theorem V8{k:PV->Prop}(h:ss[i]?=some (.raw (Ff T pos tr ns)))(hk:k (Ph tr (ns.map .str))):Wp ss (Ar i) k:=⟨λE Z F H Q S q=>by
 obtain⟨v,a,r,_⟩:=S.ok i _ h;exact⟨v,a,q v _ F H (.refl S) r.1 hk⟩⟩
theorem Ta{k:Bool->List PV->Prop}(h:Wp ss te λp=>∃tp xs,p=Ph tp xs/\k tp xs):Wq ss te k:=C5 ⟨λE Z F H Q S q=>h.go E Z F H Q S λv p F' H' m r⟨tp,xs,e,kk⟩=>q v p F' H' m r (by
 subst e;cases tp with
 |true=>exact⟨xs,.inr ⟨rfl,kk⟩⟩
 |false=>exact⟨xs,.inl ⟨rfl,kk⟩⟩)⟩
end
def GQ(Ls:List Lp)(ch:List Nat)(ns:List Str):List PV:=Kv (ZN Ls ch) (ns.map .str)
def fk(T:Addr)(pos:Pos):Pre:=λl R=>∃(tr tp:Bool)(ns:List Str)(Ls:List Lp)(ch:List Nat),l=[.raw (Ff T pos tr ns),.sq tp (Ls.map Lp.P),.is (.lst (ch.map λn:Nat=>PV.int n))]/\ns.length<=40/\Ls.length<=12/\ch.length<=12/\(∀n∈ch,n<Ls.length)/\
 R=.new λxs=>xs=GQ Ls ch ns/\∃ms:List Str,xs=ms.map .str/\ms.Perm ns/\ms.Pairwise λa b=>G9 Ls ch a<=G9 Ls ch b
theorem xO(Ls:List Lp)(ch:List Nat)(ns:List Str):GQ Ls ch ns=((GQ Ls ch ns).map Ju).map PV.str:=by
 rw[Ce]
 conv=>lhs;rw[<- XH (GQ Ls ch ns)]
 refine MO λx hx=>?_;obtain⟨y,_,rfl⟩:=List.mem_map.mp ((YK _ _).mem_iff.mp hx);rfl
abbrev xr(Ls:List Lp)(c:Nat->List Nat):Prop:=∀t,t<(Am Ls).length->Dn (Am Ls) t (c t)/\(c t).length<=12/\(c t).Nodup/\∀x∈c t,x<(Am Ls).length
def Gb(Ls:List Lp)(c:Nat->List Nat):List (List Nat):=(Ax (Am Ls)).map c
noncomputable def YM(ns:List Str)(Ls:List Lp)(f:Nat->Nat):List (Int×Int):=Ls.zipIdx.map λp=>((f p.2:Int),(ns.length:Int) - (p.1.cs.length:Int))
structure MX (ns:List Str) (Ls:List Lp) (ls:List (List Str)) (ps:List (Int×Int)) (A:List Nat):Prop where
 ex:∃c f,xr Ls c/\Lb Ls.length (Gb Ls c) f/\ls=(Gb Ls c).map (λch=>(GQ Ls ch ns).map Ju)/\ps=YM ns Ls f/\A.Perm ((Gb Ls c).map (JS (tryAll (ups Ls) 13 (Am Ls) ((Gb Ls c).map Fe) [])))/\A.Pairwise (·<=·)
theorem MX.uniq{Zh:List (List Str)}{Mu:List (Int×Int)}{A':List Nat}(h:MX ns Ls ls ps A)(h':MX ns Ls Zh Mu A'):ls=Zh/\ps=Mu/\A=A':=by
 obtain⟨c,f,n,d,rfl,rfl,p1,i⟩:=h.ex;obtain⟨c',q,Ep,Ht,rfl,rfl,p2,g⟩:=h'.ex;have o:Gb Ls c=Gb Ls c':=MO λt e=>(n t (DF.mp e).1).1.uniq (Ep t (DF.mp e).1).1;rw[o]at d p1 ⊢;refine⟨rfl,MO λp j=>?_,?_⟩
 .have m:=ZG j;have l:p.2∈(Gb Ls c').flatten:=(d.all p.2).mp (List.getElem?_eq_some_iff.mp m).1;obtain⟨ch,h1,h2⟩:=List.mem_flatten.mp l;obtain⟨k,hk⟩:=List.mem_iff_getElem?.mp h1;rw[d.at_ k ch hk _ h2,Ht.at_ k ch hk _ h2]
 .exact(p1.trans p2.symm).eq_of_pairwise (λa b _ _ x y=>Nat.le_antisymm x y) i g
noncomputable def C8(a:Addr)(xs:List PV):OV:=.nd .lst a (xs.map .fz)
def Zd(T:Addr)(pos:Pos):Pre:=λl R=>∃(tr tp:Bool)(ns:List Str)(Ls:List Lp),l=[.raw (Ff T pos tr ns),.sq tp (Ls.map Lp.P)]/\(ns.length<=40/\ns.Nodup)/\Ls.length<=12/\(∀l∈Ls,l.Good ns)/\
 R=.ow λu=>∃(a b d:Addr)(us:List OV)(ls:List (List Str))(ps:List (Int×Int))(A:List Nat),u=.tp [.nd .lst a us,C8 b (ps.map CP),C8 d (A.map nP)]/\us.length=ls.length/\(∀(j:Nat)x u,ls[j]?=some x->us[j]?=some u->∃e,u=C8 e (x.map .str))/\LC ns Ls ls ps A/\MX ns Ls ls ps A
def Ei(l:List Str):PV:=.lst (l.map .str)
theorem qf{a b cs:List Str}(up:Up cs)(c:b.Perm a)(sa:sortedS b=true):decide (b=cs)=decide (a.Perm cs):=by
 rw[decide_eq_decide];refine⟨λe=>e▸c.symm,λp=>?_⟩;have q:=c.trans p;exact RD (So sa (q.nodup_iff.mpr (Ng up))) up λk=>q.mem_iff
theorem W9:∀(Ls:List Lp)(ps:List (Int×Int)),KQ (Ls.map Lp.P) (ps.map CP)=(Ls.zip ps).map λx=>PV.tup [x.1.P,CP x.2]
 | [],_=>rfl
 |_::_,[]=>rfl
 |l::Ls,p::ps=>ib (PV.tup [l.P,CP p] :: ·) (W9 Ls ps)
noncomputable def FF(n:Nat)(ls:List (List Str))(l:Lp)(q:Int×Int):Bool:=decide (0<=q.1) && match ls[q.1.toNat]? with
 |some line=>decide (q.2=(n:Int) - (l.cs.length:Int)) && decide ((line.drop (n - l.cs.length)).Perm l.cs)
 |none=>false
def Ec(Ls:List Lp)(zs:List Int):Prop:=zs.Pairwise (· < ·)/\(∀z∈zs,0<=z/\z<Ls.length)/\∀x∈zs,∀y∈zs,x<y->Gh Ls x.toNat y.toNat=false
instance (Ls:List Lp) (zs:List Int):Decidable (Ec Ls zs):=by unfold Ec;infer_instance
def Oa(n:Nat)(ls:List (List Str))(Ls:List Lp)(ps:List (Int×Int)):Bool:=decide (ps.length=Ls.length) && (Ls.zip ps).all λx=>FF n ls x.1 x.2
theorem Ec.sub{ys:List Int}(h:Ec Ls zs)(s:ys.Sublist zs):Ec Ls ys:=
 ⟨h.1.sublist s,λz hz=>h.2.1 z (s.subset hz),λx hx y a=>h.2.2 x (s.subset hx) y (s.subset a)⟩
theorem xA(Ls:List Lp):Ec Ls []:=⟨.nil,λz h=>(by cases h),λx h=>(by cases h)⟩
theorem dH{p:PV}(h:0<=z)(e:xs[z.toNat]?=some p):BR xs z=some p:=by
 have q:=EE (j:=z.toNat) e;rw[X7 h]at q;exact q
theorem xU{f:Int->Bool}(h:i<=zs.length):(((List.range i).map λj=>f (zs.getD j 0)).any id)=true↔¬ ∀x∈zs.take i,f x=false:=by
 have e:((List.range i).map λj=>f (zs.getD j 0))=(zs.take i).map f:=by
  apply OG;intro j;rw[AO,AO]
  by_cases c:j<i
  .rw[RX c,gM c,AK (show j<zs.length by omega)];show some (f (zs.getD j 0))=_;rw[DN,AK (show j<zs.length by omega)];rfl
  .rw[HV (by rw[D2];omega),HV (by rw[GC];omega)];rfl
 rw[e,List.any_map];constructor
 .intro q z;obtain⟨x,hx,y⟩:=List.any_eq_true.mp q;have y:f x=true:=y;rw[z x hx]at y;cases y
 .intro q;refine Jb λz=>q λx hx=>?_;rw[gG];exact λy=>z (List.any_eq_true.mpr ⟨x,hx,y⟩)
theorem kZ(h:Ec Ls zs):Ec Ls (zs++[z])↔(0<=z/\z<Ls.length)/\(∀y,zs.getLast?=some y->y<z)/\∀x∈zs,Gh Ls x.toNat z.toNat=false:=by
 have lz:z∈zs++[z]:=Bk _ Aj;constructor
 .rintro⟨h1,h2,b⟩;obtain⟨_,_,c⟩:=List.pairwise_append.mp h1;have lt:∀x∈zs,x<z:=λx hx=>c x hx z Aj;exact⟨h2 z lz,λy a=>lt y (List.mem_of_getLast? a),λx hx=>b x (DA _ hx) z lz (lt x hx)⟩
 .rintro⟨h1,h2,b⟩;have lt:∀x∈zs,x<z:=λx hx=>by
   rcases List.eq_nil_or_concat zs with rfl|⟨l,y,rfl⟩
   .cases hx
   .rw[List.concat_eq_append]at hx h2 h;have a:=h2 y ZAf;rcases List.mem_append.mp hx with q|q
    .have:=(List.pairwise_append.mp h.1).2.2 x q y Aj;omega
    .rw[List.mem_singleton.mp q];exact a
  refine⟨List.pairwise_append.mpr ⟨h.1,gR _ _,λx hx y a=>by rw[List.mem_singleton.mp a];exact lt x hx⟩,λx hx=>?_,λx hx y a A8=>?_⟩
  .rcases List.mem_append.mp hx with q|q
   .exact h.2.1 x q
   .rw[List.mem_singleton.mp q];exact h1
  .rcases List.mem_append.mp hx with q|q <;> rcases List.mem_append.mp a with r|r
   .exact h.2.2 x q y r A8
   .rw[List.mem_singleton.mp r];exact b x q
   .rw[List.mem_singleton.mp q]at A8;have:=lt y r;omega
   .rw[List.mem_singleton.mp q,List.mem_singleton.mp r]at A8;omega
theorem nv{a:Int}(h:¬ 0<=a):FF n ls o (a,b)=false:=by
 unfold FF;rw[iF h,RS]
theorem sV{a:Int}(h:¬ a<(ls.length:Int)):FF n ls o (a,b)=false:=by
 unfold FF;rw[show ls[(a,b).1.toNat]?=none from HV (by show ls.length<=a.toNat;omega),Ja]
theorem iV{k:Nat}(h:ls[k]?=some line):FF n ls o ((k:Int),b)=(decide (b=(n:Int) - (o.cs.length:Int)) && decide ((line.drop (n - o.cs.length)).Perm o.cs)):=by
 unfold FF;show(decide (0<=(k:Int)) && match ls[(k:Int).toNat]? with|some line=>_|none=>false)=_
 rw[hU (X6 k),GA,h];rfl
theorem ph{f:α->Bool}{xs:List α}{x:α}(h:xs[i]?=some x)(hi:(xs.take i).all f=true):(xs.take (i+1)).all f=f x:=by
 obtain⟨a,rfl⟩:=List.getElem?_eq_some_iff.mp h;rw[Jf a,List.all_append,hi];simp
theorem uz{f:α->Bool}{xs:List α}{x:α}(h:xs[i]?=some x)(hx:f x=false):xs.all f=false:=by
 rw[gG];intro e;rw[List.all_eq_true.mp e x (BB h)]at hx;cases hx
structure wL (ns:List Str) (Ls:List Lp) (ls:List (List Str)) (ps:List (Int×Int)) (zs:List Int):Prop where
 nz:ns.length<=40
 nd:ns.Nodup
 Lz:Ls.length<=12
 good:∀l:Lp,l∈Ls->l.Good ns
 lz:ls.length<=50
 line:∀l∈ls,l.length<=60
 pz:ps.length<=50
 zz:zs.length<=50
def eV:Pre:=λl R=>∃(ns:List Str)(Ls:List Lp)(ls:List (List Str))(ps:List (Int×Int))(zs:List Int),l=[.is (.lst (ns.map .str)),.is (.lst (Ls.map Lp.P)),.is (.lst (ls.map Ei)),.is (.lst (ps.map CP))]/\wL ns Ls ls ps zs/\(∀l∈ls,l.Perm ns)/\R=.is (·=.bl (Oa ns.length ls Ls ps))
def Zc:Pre:=λl R=>∃(Ls:List Lp)(zs:List Int),l=[.is (.lst (Ls.map Lp.P)),.is (.lst (zs.map .int))]/\Lu Ls/\zs.length<=50/\R=.is (·=.bl (decide (Ec Ls zs)))
theorem zq(h:x.val=.ref e):∃k vs,x=.nd k e vs:=by
 cases x with
 |nd k a vs=>cases h;exact⟨k,vs,rfl⟩
 |fz=>cases h
 |tp=>cases h
theorem TJ{F H:Hp}:∀{us:List OV}{vs:List V},Au F H vs us->(∀x∈us,∃e,x.val=.ref e)->vs=us.map OV.val
 | [],_,r,_=>by cases r;rfl
 |x::us,_,r,h=>by
  obtain⟨v,ws,rfl,a,b⟩:=r.inv;obtain⟨e,c⟩:=h x Aj;obtain⟨k,vs,rfl⟩:=zq c;obtain⟨_,rfl,_⟩:=a.inv;rw[TJ b λx hx=>h x (B2 _ hx)];rfl
section
variable[Xw]
variable{j:Nat}{K:ZBx}{nx:List Slot->Prop}{R:Ae}{tb:TS}
theorem wJ(I : Nat -> List Slot -> Prop)(h : Wl ss i t te λp u => ∃a us, u = .nd .lst a us /\ (∀x ∈us, ∃e, x.val = .ref e) /\ I 0 ss /\ (∀n A5, I n A5 -> ∃lt t' B7, A5[i]? = some (.ow lt t') /\ t'.at p = some (.nd .lst a B7) /\ B7.map OV.val = us.map OV.val) /\
   (∀n x e A5,us[n]?=some x->x.val=.ref e->I n A5->Ws (A5.set j (.raw (ptr e))) tb (λBy=>I (n+1) By) R)/\∀A5,I us.length A5->nx A5):Ws ss (OO (ND K te) (Cf j) tb) nx R:=⟨λE D Z F H S P O=>
 h.go E Z F H _ S λv p u F1 H1 g r Be z=>by
  obtain⟨a,us,rfl,HB,G,T,step,done⟩:=z;obtain⟨vs,rfl,Q,V,W,J⟩:=r.inv;have f:=TJ J HB;have o:vs.length=us.length:=by rw[f,AA]
  refine⟨false,a,vs,rfl,AG.of Q,λn m σ' H'=>m=us.length - n/\n<=us.length/\∃A5 F',I n A5/\Sg E A5 σ' F' H'/\AD F1 F',⟨_,rfl,Bo _,ss,F1,G,g.st,AD.refl _⟩,?_⟩;rintro n m σ' H'⟨rfl,RJ,A5,F',N5,S',s'⟩;have B:H' a=some (.lst vs):=by
   obtain⟨lt,t',B7,hi,N,e⟩:=T n A5 N5;obtain⟨v2,X,L,_,_⟩:=S'.ok i _ hi;obtain⟨w,d,_⟩:=L.at N;obtain⟨C3,_,R4,_,_,M⟩:=d.inv;have A:=TJ M λx hx=>by
    obtain⟨k,hk⟩:=List.mem_iff_getElem?.mp hx;have q:(B7.map OV.val)[k]?=some x.val:=by rw[AO,hk];rfl
    rw[e,AO]at q;obtain⟨y,b,q⟩:=Option.map_eq_some_iff.mp q;obtain⟨e,c⟩:=HB y (BB b);exact⟨e,q.symm.trans c⟩
   rw[e,<- f]at A;subst A;exact R4
  by_cases C:n<us.length
  .refine .inr ⟨⟨AG.of B,by rw[o];exact C⟩,λσ2 H2=>∃By F2,I (n+1) By/\Sg E By σ2 F2 H2/\AD F1 F2,λσ2 H2 q=>⟨_,by omega,rfl,C,q⟩,λx H3 y=>?_⟩;obtain⟨rfl,hx⟩:=y;rw[f,AO]at hx;obtain⟨y,b,rfl⟩:=Option.map_eq_some_iff.mp hx;obtain⟨e,c⟩:=HB y (BB b);rw[c];have U:=S'.setG (j:=j) (s:=.raw (ptr e)) (v:=.ref e) ⟨.ref e,rfl,rfl,λ_ _ _ h=>h⟩ (λl h=>by cases h);exact(step n y e A5 b c N5).go E _ _ F' H3 U (λBy σ2 F2 H2 h2 S3 s2=>⟨By,F2,h2,S3,s'.trans s2⟩) O
  .have e:n=us.length:=by omega
   subst e;exact .inl ⟨⟨AG.of B,by rw[o];exact Aa _⟩,P A5 σ' F' H' (done A5 N5) S' (g.ff.trans s')⟩⟩
end
theorem qw(h:LC ns Ls ls ps A):Oa ns.length ls Ls ps=true:=by
 unfold Oa;rw[hU h.pz,HR];refine List.all_eq_true.mpr λx hx=>?_;obtain⟨n,b⟩:=List.mem_iff_getElem?.mp hx;obtain⟨l,q⟩:=x;obtain⟨h1,h2⟩:=List.getElem?_zip_eq_some.mp b;obtain⟨k,line,e1,c,a⟩:=h.rT n l h1;rw[h2]at e1;cases e1;unfold FF;rw[hU (X6 k),HR];show(match ls[(k:Int).toNat]? with|some line=>_|none=>false)=true
 rw[GA,c];show(decide _ && decide _)=true;rw[hU rfl,hU a];rfl
theorem k7(h:LC ns Ls ls ps A):Ec Ls (A.map λn:Nat=>(n:Int)):=by
 refine⟨List.pairwise_map.mpr (h.up.imp λ{a b}z=>Int.ofNat_lt.mpr z),λz hz=>?_,λx hx y g f=>?_⟩
 .obtain⟨a,c,rfl⟩:=List.mem_map.mp hz;exact⟨X6 a,Int.ofNat_lt.mpr (h.lt a c)⟩
 .obtain⟨a,c,rfl⟩:=List.mem_map.mp hx;obtain⟨b,d,rfl⟩:=List.mem_map.mp g;obtain⟨k,ea⟩:∃l,Ls[a]?=some l:=⟨_,AK (h.lt a c)⟩;obtain⟨j,e⟩:∃l,Ls[b]?=some l:=⟨_,AK (h.lt b d)⟩;show Gh Ls a b=false;rw[Yz ea e];refine iF λz=>?_;have i:a<b:=Int.ofNat_lt.mp f;rcases(qC (Az i) ea e).mp z.symm with q|q
  .exact h.ap a c b d q
  .exact h.ap b d a c q
theorem Um(xs:List α):((xs.map λ_=>true).all id)=true:=List.all_eq_true.mpr λb a=>by obtain⟨_,_,rfl⟩:=List.mem_map.mp a;rfl
theorem VV(xs:List α)(f:α->PV):((xs.map f).filter λ_=>true).map (λ_=>PV.bl true)=(xs.map λ_=>true).map PV.bl:=by
 rw[List.filter_eq_self.mpr λ_ _=>rfl,Ce,Ce];rfl
theorem Xu(h:LC ns Ls ls ps A):A.length<=Ls.length:=by
 have nd:A.Nodup:=h.up.imp λz=>Az z;have q:=JL (m:=List.range Ls.length) nd λx hx=>List.mem_range.mpr (h.lt x hx)
 rwa [D2]at q
noncomputable def HF(ls:List (List Str))(ps:List (Int×Int))(A:List Nat):PV:=.tup [.lst (ls.map Ei),.lst (ps.map CP),.lst (A.map nP)]
def c7:Pre:=λl R=>∃(ls:List (List Str))(ps:List (Int×Int))(A:List Nat),l=[.is (HF ls ps A)]/\ls.length<=50/\ps.length<=50/\A.length<=50/\(∀l∈ls,l.length<=60)/\R=.is (·=.bl true)
def dQ:Pre:=λl R=>∃(ns:List Str)(Ls:List Lp)(ls:List (List Str))(ps:List (Int×Int))(A:List Nat),l=[.is (.lst (ns.map .str)),.is (.lst (Ls.map Lp.P)),.is (HF ls ps A)]/\(ns.length<=40/\ns.Nodup)/\Ls.length<=12/\(∀l∈Ls,l.Good ns)/\LC ns Ls ls ps A/\R=.is (·=.bl true)
section
variable[Xw]
theorem Tj{P:Hp->V->Prop}{k:List Slot->Prop}(j:Nat)(c:ss[j]?=some (.raw P))(d:∀F v,P F v->F T=some (.C2 (.tab pos Kl)))
  (h:Wp ss te λp=>p=Ph tr (ns.map .str)/\Wa ss ta λl=>k (.raw (Ff T pos tr ns)::l)):Wa ss (Ag te ta) k:=⟨λE Z F H Q S q=>
 h.go E Z F H _ S λv p F1 H1 b r⟨e,h2⟩=>h2.go E Z F1 H1 _ b.st λvs l F2 H2 m2 a kk=>by
  subst e;obtain⟨_,_,pv,_⟩:=m2.st.ok j _ c;exact q _ _ F2 H2 (b.trans m2) (.cons (s:=.raw (Ff T pos tr ns)) ⟨⟨r.mono m2.ff,d _ _ pv⟩,λF F' s h=>j4 T pos tr ns F F' s v h⟩ a) kk⟩
end
theorem Qq{b d:Addr}(c:us.length=ls.length)(h:∀(j:Nat)x u,ls[j]?=some x->us[j]?=some u->∃e,u=C8 e (x.map .str)):(OV.tp [.nd .lst a us,C8 b (ps.map CP),C8 d (A.map nP)]).pv=HF ls ps A:=by
 have e:OV.EH us=ls.map Ei:=by
  induction ls generalizing us with
  |nil=>
   cases us with
   |nil=>rfl
   |cons=>cases c
  |cons x ls f=>
   cases us with
   |nil=>cases c
   |cons u us=>
    obtain⟨e,rfl⟩:=h 0 x u rfl rfl;rw[OV.EH,f (Jh c) λj x u h1 h2=>h (j+1) x u h1 h2];unfold C8;simp only[OV.pv,VW];rfl
 unfold C8 HF;simp only[OV.pv,OV.EH,VW,e]
theorem ZO{α:Type}(g:α->OV)(h:∀x,(g x).FV=true):∀(l:List α),OV.Fj (l.map g)=true
 | []=>by rw[Rb,OV.Fj]
 |x::r=>by rw[E9,OV.Fj,h x,ZO g h r];rfl
theorem Sk{P:Str->Prop}:∀{ys:List PV},(∀y∈ys,∃c,P c/\y=.str c)->∃cs:List Str,ys=cs.map .str/\∀c∈cs,P c
 | [],_=>⟨[],rfl,λc h=>absurd h Aq⟩
 |y::r,h=>by
  obtain⟨c,a,rfl⟩:=h y (by simp);obtain⟨cs,e,h2⟩:=Sk (ys:=r) λz hz=>h z (by simp[hz]);exact⟨c::cs,by rw[e];rfl,λd hd=>by
   rcases List.mem_cons.mp hd with rfl|hd
   .exact a
   .exact h2 d hd⟩
structure Hk where
 ns:List Str
 Ls:List Lp
 ls:List (List Str)
 ps:List (Int×Int)
 A:List Nat
def Hk.P(h:Hk):PV:=.tup [.lst (h.ns.map .str),.lst (h.Ls.map Lp.P),HF h.ls h.ps h.A]
structure Hk.Ok (h:Hk):Prop where
 hz:h.ns.length<=40
 nd:h.ns.Nodup
 hL:h.Ls.length<=12
 hg:∀l∈h.Ls,l.Good h.ns
 ld:MX h.ns h.Ls h.ls h.ps h.A
theorem S9(K:ZBx)(ls:List (List Str))(ps:List (Int×Int))(A:List Nat):dat K 40 (HF ls ps A):=by
 intro p b;simp only[DP,Aq,uB]at b;rcases b with rfl|rfl|rfl
 .intro x hx;obtain⟨l,_,rfl⟩:=List.mem_map.mp hx;intro y a;obtain⟨z,_,rfl⟩:=List.mem_map.mp a;trivial
 .intro x hx;obtain⟨l,_,rfl⟩:=List.mem_map.mp hx;intro y a;simp only[DP,Aq,uB]at a;rcases a with rfl|rfl <;> trivial
 .intro x hx;obtain⟨l,_,rfl⟩:=List.mem_map.mp hx;trivial
theorem U6(a:Addr)(g:α->PV)(h:∀x,Gd (g x)=true)(l:List α):(C8 a (l.map g)).FV=true:=by
 unfold C8;rw[OV.FV,Ce];exact ZO _ (λx=>by show Gd (g x)=true;exact h x) l
theorem p7(h:us[n]?=some x):(OV.tp [.nd .lst a us,B,D]).at [0,n]=some x:=by
 simp[OV.at,h]
theorem xy{y:OV}(h:us[n]?=some x):(OV.tp [.nd .lst a us,B,D]).put [0,n] y=.tp [.nd .lst a (us.set n y),B,D]:=by
 simp[OV.put,h]
theorem cH:∀{us:List OV},(∀u∈us,u.FV=true)->OV.Fj us=true
 | [],_=>by rw[OV.Fj]
 |x::r,h=>by rw[OV.Fj,h x Aj,cH λu a=>h u (B2 _ a)];rfl
end Fz
set_option maxHeartbeats 8000000
namespace Pf
open L2 Lw
variable{w:World}{mg:ZBz}{Im T c cT f:Addr}{α:Type}{Sz:Tok}{l:PySem.W.OpenLaw}
abbrev St:=L2.St
noncomputable def top(i:Nat):Stmt:=PySem.Challenge.pw_stirround_k44_whole_fewest_lines.main.body.getD i (.Pass ⟨0,0,0,0⟩)
abbrev UK:Stmt:=top 26
abbrev Uk:Stmt:=top 27
abbrev Rz:Stmt:=top 28
abbrev WD:Stmt:=top 29
abbrev T5:Stmt:=top 30
abbrev Sq:Stmt:=top 31
abbrev SJ:Stmt:=top 34
abbrev Qr:Stmt:=top 35
abbrev Ug:Stmt:=top 5
abbrev Pj:Stmt:=top 12
abbrev WM:Stmt:=top 9
abbrev Ua:Stmt:=top 10
abbrev W7:Stmt:=top 11
abbrev Qs:Stmt:=top 19
abbrev Pq:Stmt:=top 18
abbrev Vh:Stmt:=top 15
abbrev UT:Stmt:=top 16
abbrev Ql:Stmt:=top 17
abbrev SV:Stmt:=top 20
abbrev Bz:Stmt:=top 21
abbrev RK:Stmt:=top 22
abbrev PY:Stmt:=top 24
abbrev Qt:Stmt:=top 23
abbrev M7:Stmt:=top 14
abbrev SH:Stmt:=top 32
abbrev Qx:Stmt:=top 33
abbrev Jo:Stmt:=top 40
abbrev T3:Stmt:=top 38
abbrev Vp:Stmt:=top 36
abbrev VD:Stmt:=top 37
abbrev OZ:Stmt:=top 39
abbrev Oo:Stmt:=top 41
abbrev K7:Stmt:=top 42
variable{P:Program}{K:ZBx}{ZB:Heap}{fd:FuncData}
def cJ{us:List α}(h:us.length=1):∃a,us=[a]:=by
 rcases us with _|⟨a,_|⟨b,us⟩⟩
 .cases h
 .exact⟨a,rfl⟩
 .cases h
def ln2{us:List α}(h:us.length=2):∃a b,us=[a,b]:=by
 rcases us with _|⟨a,us⟩
 .cases h
 .obtain⟨b,rfl⟩:=cJ (Jh h);exact⟨a,b,rfl⟩
def cO{us:List α}(h:us.length=3):∃a b c,us=[a,b,c]:=by
 rcases us with _|⟨a,us⟩
 .cases h
 .obtain⟨b,c,rfl⟩:=ln2 (Jh h);exact⟨a,b,c,rfl⟩
def Xy{us:List α}(h:us.length=4):∃a b c d,us=[a,b,c,d]:=by
 rcases us with _|⟨a,us⟩
 .cases h
 .obtain⟨b,c,d,rfl⟩:=cO (Jh h);exact⟨a,b,c,d,rfl⟩
def Xv{us:List α}(h:us.length=5):∃a b c d e,us=[a,b,c,d,e]:=by
 rcases us with _|⟨a,us⟩
 .cases h
 .obtain⟨b,c,d,e,rfl⟩:=Xy (Jh h);exact⟨a,b,c,d,e,rfl⟩
def iS{us:List α}(h:us.length=6):∃a b c d e f,us=[a,b,c,d,e,f]:=by
 rcases us with _|⟨a,us⟩
 .cases h
 .obtain⟨b,c,d,e,f,rfl⟩:=Xv (Jh h);exact⟨a,b,c,d,e,f,rfl⟩
local macro_rules | `(tactic| walk_at "bD1")=>`(tactic| (intro _ _ _ _ _ _ us hl;obtain⟨_,e⟩:=cJ hl;subst e;rfl))
local macro_rules | `(tactic| walk_at "bD2")=>`(tactic| (intro _ _ _ _ _ _ us hl;obtain⟨_,_,e⟩:=ln2 hl;subst e;rfl))
local macro_rules | `(tactic| walk_at "bD3")=>`(tactic| (intro _ _ _ _ _ _ us hl;obtain⟨_,_,_,e⟩:=cO hl;subst e;rfl))
local macro_rules | `(tactic| walk_at "bD4")=>`(tactic| (intro _ _ _ _ _ _ us hl;obtain⟨_,_,_,_,e⟩:=Xy hl;subst e;rfl))
local macro_rules | `(tactic| walk_at "bD5")=>`(tactic| (intro _ _ _ _ _ _ us hl;obtain⟨_,_,_,_,_,e⟩:=Xv hl;subst e;rfl))
local macro_rules | `(tactic| walk_at "bD6")=>`(tactic| (intro _ _ _ _ _ _ us hl;obtain⟨_,_,_,_,_,_,e⟩:=iS hl;subst e;rfl))
abbrev nS(K:ZBx)(x:Str)(v:Value):Prop:=PySem.W.nsIn K mainGlobals x=some (some v)
abbrev nN(K:ZBx)(x:Str):Prop:=PySem.W.nsIn K mainGlobals x=some none
open Fz
def ZWM(t:String):Lean.MacroM (Lean.TSyntax `tactic):=do
 let g:Lean.TSyntax `tactic←`(tactic| fail)
 let k←`(tactic| case wk=>rfl)
 let n (s:String):=`(tactic| walk_at $(Lean.quote s):str)
 (t.splitOn " ").foldrM (λs r=>do
  let l:=((s.drop 1).toString.splitOn "/").map λx=>Lean.mkIdent (`Fz++x.toName)
  let h:Lean.Ident:=l.getLast!
  let c:=s.front
  let w:=(h.getId.getString!.toLower.replace "o" "e").replace "i" "e"
  let z←if c=='j' then `($h ?wj ?wk ?_)else if c=='k'||c=='K' then `($h ?wk ?_)else `($h ?_)
  let z←l.dropLast.foldrM (λ(f:Lean.Ident)(z:Lean.Term)=>`($f ($z))) z
  let p←if c=='e' then `(tactic| show ∃_,_=$h _/\_)else if c=='s' then `(tactic| show $h _ _ _)else `(tactic| refine' $z)
  let p←if c=='K'||c=='R'||c=='j' then pure p else `(tactic| with_reducible $p:tactic)
  let q←if c=='e' then `(tactic| refine⟨_,rfl,?_⟩)else if c=='s' then n w else if c=='n' then n "wn" else if c=='p' then n "wp" else if c=='k'||c=='K' then pure k else if c=='j' then `(tactic| ((case wj=>rfl);$k:tactic))else `(tactic| skip)
  `(tactic| first|($p:tactic;$q:tactic) | $r:tactic)) g
local macro_rules | `(tactic| walk_at "wp")=>ZWM "kLf/Il/Ee kLf/O3/Ee kLf/Il/Il/Ee kLf/O3/O3/Ee kLf/O3/Il/Ee kxa kAI rCL rbY rGN rLB rzT rxm rfe rrH rO4 rnZ rYt rV1 rYF kjF rHq rFA rJY rTM roa rQw rZU rZF rUM klK rij KnR KzM KLR KZy KU9"
local macro_rules | `(tactic| walk_at "wn")=>ZWM "rSG rYj rPp KHs jyn"
local macro_rules | `(tactic| walk_at "wq")=>do
 let z←ZWM "kPJ kFx kCU kJT"
 `(tactic| first | $z:tactic|(refine C5 (Cs ?_);walk_at "wn")|(refine C5 ?_;walk_at "wp"))
local macro_rules | `(tactic| walk_at "wz")=>`(tactic| first
 | ((with_reducible refine' SR ?wk ?_);(case wk=>rfl))
 | (refine Cy (Cs ?_);walk_at "wn")
 | (refine Cy ?_;walk_at "wp"))
local macro_rules | `(tactic| walk_at "wt")=>ZWM "rIK rE4 rG0 rFs rbB rIQ"
local macro_rules | `(tactic| walk_at "we")=>ZWM "rJn rNN rdN reX rKW rSS rDh"
local macro_rules | `(tactic| walk_at "w")=>do
 let z←ZWM "rB0 rEC rE8 rCt kSO kc8 kwH nHM pj3 kVk nN1 pFC"
 let z1←ZWM "eOV.tp eOV.fz"
 let z2←ZWM "edP"
 let z3←ZWM "sWn sWq sWz sWt sWe sWo sWi"
 let z4←ZWM "ePV.int ePV.str ePV.bl"
 `(tactic| first | $z1:tactic|((with_reducible show ∃_ _,_=OV.nd NK.lst _ _/\_);refine⟨_,_,rfl,?_⟩)|((with_reducible show ∃_ _ _,_=PV.int _/\_/\_/\_);refine⟨_,_,_,rfl,rfl,rfl,?_⟩)|((with_reducible show ∃_ _ _,_=LZ _ _ _/\_);refine⟨_,_,_,rfl,?_⟩) | $z2:tactic|((with_reducible show Wp _ _ _);first|walk_at "wp" | (refine Cs ?_;walk_at "wn")) | $z3:tactic|((with_reducible show Ws _ _ _ _);$z:tactic) | $z4:tactic|((with_reducible show(_:Bool)=_/\_);refine⟨rfl,?_⟩)|((with_reducible show ∃_ _,_=PV.int _/\L2.BR _ _=some _/\_);refine⟨_,_,rfl,rfl,?_⟩)|((with_reducible show ∃_,(_=PV.lst _/\_)∨(_=PV.tup _/\_));first|refine⟨_,.inl ⟨rfl,?_⟩⟩|refine⟨_,.inr ⟨rfl,?_⟩⟩)|((with_reducible show ∃_,_=List.map _ _/\_);first|refine⟨_,rfl,?_⟩|refine⟨[],rfl,?_⟩|refine⟨_,rd _ _,?_⟩))
local macro_rules | `(tactic| walk_at "ww")=>`(tactic| repeat walk_at "w")
local macro_rules | `(tactic| walk_at "z1")=>`(tactic| exact⟨rfl,rfl,rfl,by decide +kernel,rfl,by decide +kernel,by decide +kernel⟩)
local macro_rules | `(tactic| walk_at "z2")=>`(tactic| exact⟨rfl,by decide +kernel,by decide +kernel,rfl,rfl,by decide +kernel,by decide +kernel,by decide +kernel,by decide +kernel⟩)
def Mw:BG ["script","k","cell","rest_here"] ["script","k"] (AQ UK):=by walk_at "z1"
variable(Ac:mg "len"=none)(Np:AJ P w K mg ZB "_law_letters" 1 ["number"] (eS))(C0:AJ P w K mg ZB "_law_take" 1 ["pot","many"] (ME))(Vq:AJ P w K mg ZB "_law_name" 2 ["pot","names"] (XZ K))(Cn:mg "range"=none)(TH:AJ P w K mg ZB "_law_names" 3 ["pot","many"] (fj))(Dd:mg "sorted"=none)(Et:mg "tuple"=none)(Vn:AJ P w K mg ZB "_law_some_loop" 2 ["pot","row"] (V7))(Ed:mg "all"=none)(D8:mg "list"=none)(GI:mg "set"=none)(VF:AJ P w K mg ZB "is_coming" 1 ["row","coming"] (YG K))(VG:AJ P w K mg ZB "is_gap" 1 ["row","gap"] (dz K))(Se:mg "RULES"=some (.ref Im))(SA:∀H,Ab K H Im [.str "none",.str "ahead",.str "all"])(WB:AJ P w K mg ZB "is_loop" 2 ["row","thing"] (aN K))(VO:AJ P w K mg ZB "check_loop" 3 ["row","loop"] (Vv K))(VN:mg "MOST_LOOPS"=some (.int 12 Sz))(WR:AJ P w K mg ZB "has_all_of" 1 ["loop","other"] (Ap dr))(VT:AJ P w K mg ZB "is_above" 2 ["loops","number","upper"] (Ap fT))(VI:fd.code=.ref c)(hC:PySem.W.codeHdIn K c T=true)(bA:ZB.BuiltinsAt mg T)(Hw:mainGlobals≠T)(Qg:mg "enumerate"=none)(Ub:AJ P w K mg ZB "uppermost_untried" 1 ["chain","tried"] (Ap Zo))(Sm:AJ P w K mg ZB "apart_of" 15 ["above","lower_of","chains"] (Ap Zz))(UJ:AJ P w K mg ZB "chain_down" 1 ["lower_of","top"] (Ap cF))(WE:AJ P w K mg ZB "check_loops" 4 ["row","loops"] (Ap di))(SX:AJ P w K mg ZB "greatest_pairing" 15 ["above"] (Ap aQ))(Tr:AJ P w K mg ZB "line_of" 3 ["row","loops","chain"] (Ap (fk T (Cm Bz))))(Uh:AJ P w K mg ZB "numbers_above" 3 ["loops","number"] (Ap fS))(Rv:AJ P w K mg ZB "seats_of" 1 ["row","loops","chains"] (Ap ck))(SK:mg "bool"=none)(VC:mg "int"=none)(FL:mg "isinstance"=none)(Uo:mg "str"=none)(Tf:AJ P w K mg ZB "_law_texts" 1 ["found"] (Ap fV))(RH:AJ P w K mg ZB "_law_whole" 1 ["found"] (Ap cD))(Rq:mg "zip"=none)(P1:AJ P w K mg ZB "_law_within" 1 ["one","other"] (Ap Yk))(Rp:AJ P w K mg ZB "_law_fit" 2 ["one","other"] (Ap WN))(U2:mg "any"=none)(Wd:AJ P w K mg ZB "_law_apart" 3 ["loops","apart"] (Ap Zc))(Vd:AJ P w K mg ZB "_law_lines_form" 3 ["found"] (Ap c7))(SY:AJ P w K mg ZB "_law_seats_right" 1 ["row","loops","lines","seats"] (Ap eV))(TV:AJ P w K mg ZB "_law_loops" 3 ["pot","row","most"] (Ap dS))(VR:AJ P w K mg ZB "_law_pot" 1 ["script","k"] (Va K))(R5:AJ P w K mg ZB "_law_right" 5 ["row","loops","found"] (Ap dQ))(TQ:AJ P w K mg ZB "_law_row" 4 ["pot","most"] (UN))(Nq:AJ P w K mg ZB "lines_of" 16 ["row","loops"] (Ap (Zd T (Cm Bz))))(WS:mg "max"=none)(TK:mg "min"=none)
def mI(F:AR K "_law_pot" "_law_pot" UK f fd)(m:mg "_law_pot"=some (.ref f)):
  AJ P w K mg ZB "_law_pot" 1 ["script","k"] (Va K):=by
 refine AJ.mk F (F.binds (by walk_at "bD2")) m (F.ER (k:=0) Mw (λvs H Q E h=>?_) (λAd A outer s H vs Q E t h=>?_))
 .obtain⟨a,ns,k,rfl,b,e,k1,q⟩:=h;rfl
 obtain⟨a,ns,k,rfl,b,e,k1,q⟩:=h;refine⟨_,(AL rfl (BD 2 Mw.nd AB)
   (AL rfl (Ca (C6 (Ba Nu (qv 1) (An LG Ac (A3 (qv 0) A4))) (AU rfl (BD 2 Mw.nd (BF Ij (AZ Bj (qv 0) (qv 1)) (BF KP (BF KP (BF KP (BF LV AB AB) (BF LV AB AB)) (BF LV AB AB)) (BF LV AB AB))))) C9))
   (AL rfl (BD 3 Mw.nd AB)
   (AL rfl (Ca (C6 (Ba eG (qv 2) (BF LV AB AB)) (AU rfl (BD 3 Mw.nd (qv 2))) C9))
   (AU rfl (B1 (Ge (A3 (qv 3) (A3 (BF Ij (BF KP (BF Gq (BF Gq (BF Ij (qv 2) AB) (BF KP AB (qv 1))) AB) AB) AB) A4))))))))),?_⟩
 have j:(ns.map V.int).length=ns.length:=AA _;refine⟨λσ' H'=>∃c:Int,σ'=[some (.ref a),some (.int k),some (.int c),none]/\H=H'/\0<=c/\c<10 ^ 256,?_,?_⟩
 .refine⟨_,rfl,_,rfl,a,_,rfl,.inl b,_,_,rfl,rfl,_,rfl,?_⟩;refine CC (λc=>?_) (λc=>?_)
  .have c':k<(((ns.map V.int).length:Nat):Int):=lx c;rw[j]at c';have hk:k.toNat<ns.length:=by omega
   have i:BR (ns.map V.int) k=some (.int ns[k.toNat]):=R3 e (by rw[AO,AK hk] <;> rfl)
   refine⟨_,rfl,_,rfl,a,_,_,_,rfl,rfl,b,i,_,_,rfl,rfl,⟨by decide,by decide,by decide +kernel⟩,_,_,rfl,rfl,⟨by decide,by decide,by decide +kernel⟩,_,_,rfl,rfl,⟨by decide +kernel,by decide +kernel⟩,_,_,rfl,rfl,⟨by decide,by decide,by decide +kernel⟩,_,_,rfl,rfl,⟨by decide +kernel,by decide +kernel⟩,
    _,_,rfl,rfl,⟨by decide,by decide,by decide +kernel⟩,_,_,rfl,rfl,⟨by decide +kernel,by decide +kernel⟩,_,_,rfl,rfl,(by show(0:Int)<_;decide +kernel),?_⟩
   exact⟨_,rfl,rfl,Jd _ (by decide +kernel),Jc _ (by decide +kernel)⟩
  .exact⟨0,rfl,rfl,by decide,by decide +kernel⟩
 rintro σ' H'⟨c,rfl,rfl,r,o⟩;refine⟨λσ' H'=>∃d:Int,σ'=[some (.ref a),some (.int k),some (.int c),some (.int d)]/\H=H'/\0<=d/\d<10 ^ 256,?_,?_⟩
 .refine⟨_,rfl,_,_,rfl,rfl,⟨by decide,by decide,by decide +kernel⟩,_,_,rfl,rfl,_,rfl,?_⟩;refine CC (λ_=>?_) (λ_=>?_)
  .exact⟨_,rfl,c,rfl,rfl,r,o⟩
  .exact⟨0,rfl,rfl,by decide,by decide +kernel⟩
 rintro σ' H'⟨d,rfl,rfl,n,l⟩;have e0:0<=c % 2147483629:=Jd _ (by decide);have e1:c % 2147483629<2147483629:=Jc _ (by decide);refine⟨_,rfl,_,rfl,_,_,rfl,rfl,(by show(0:Int)<2147483629;decide),_,rfl,_,_,rfl,rfl,⟨by decide +kernel,Lv (by omega) (by omega)⟩,_,_,rfl,rfl,_,_,rfl,rfl,_,_,rfl,rfl,⟨Lv (by omega) (by omega),by decide +kernel⟩,_,_,rfl,rfl,(by show(0:Int)<2147483647;decide),?_⟩;refine⟨(by show 2<=sizeLine;decide),λp g=>?_⟩;exact q p _ g (C1 g _) ⟨d,_,AX,n,l,Jd _ (by decide),Jc _ (by decide)⟩
def YX:BG ["pot","many","found"] ["pot","many"] (AQ Uk):=by walk_at "z1"
def rg(F:AR K "_law_take" "_law_take" Uk f fd)(m:mg "_law_take"=some (.ref f)):
  AJ P w K mg ZB "_law_take" 1 ["pot","many"] (ME):=by
 refine AJ.mk F (F.binds (by walk_at "bD2")) m (F.ER (k:=0) YX (λvs H Q E h=>?_) (λAd A outer s H vs Q E r h=>?_))
 .obtain⟨p,m,rfl,⟨a,b,d,a0,a1,b0,j⟩,e,n,q⟩:=h;rfl
 obtain⟨p,m,rfl,⟨a,b,d,a0,a1,b0,j⟩,e,n,q⟩:=h;refine⟨_,(AL rfl (C6 (Ba MW (AZ Bj (qv 0) AB) AB) (AL rfl (BD 2 YX.nd (BF Ij (AZ Bj (qv 0) AB) (qv 1)))
   (AL rfl (Nj (BF VZ (AZ Bj (qv 0) AB) (qv 1)) (Uz (qv 0) AB set_list))
   (AU rfl (B1 (qv 2))))) C9)
   (AL rfl (Nj (BF Ij (BF Gq (BF KP (AZ Bj (qv 0) AB) AB) AB) AB) (Uz (qv 0) AB set_list))
   (AU rfl (B1 (BF Ij (BF VZ (BF Ij (BF KP (AZ Bj (qv 0) AB) (AZ Bj (qv 0) AB)) AB) AB) (qv 1)))))),?_⟩
 refine⟨_,rfl,p,_,_,_,rfl,rfl,AG.of d,rfl,_,_,rfl,rfl,_,rfl,?_⟩;refine CC (λc=>?_) (λc=>?_)
 .have c':0<a:=lx c;refine⟨_,rfl,p,_,_,_,rfl,rfl,AG.of d,rfl,_,rfl,_,_,rfl,rfl,e,?_⟩;refine⟨_,rfl,p,_,_,_,rfl,rfl,AG.of d,rfl,_,rfl,_,_,rfl,rfl,⟨e,Lv (by omega) (by omega)⟩,?_⟩;refine⟨_,rfl,p,_,_,_,rfl,rfl,d,rfl,?_⟩;refine⟨_,rfl,?_⟩;refine q _ _ (Jd _ (by omega)) (Jc _ e) ⟨⟨a / m,b,AX,Int.ediv_nonneg a0 (by omega),ZAT (Int.ediv_le_self _ a0) a1,b0,j⟩,G5.upd⟩
 .refine⟨_,rfl,p,_,_,_,rfl,rfl,AG.of d,rfl,_,_,rfl,rfl,⟨Lv (by omega) (by omega),by decide +kernel⟩,_,_,rfl,rfl,_,_,rfl,rfl,(by show(0:Int)<2147483647;decide),?_⟩;refine⟨_,rfl,p,_,_,_,rfl,rfl,d,rfl,?_⟩;have l:0<=(b * 69621+12345) % 2147483647:=Jd _ (by decide);have i:(b * 69621+12345) % 2147483647<2147483647:=Jc _ (by decide);generalize o:(b * 69621+12345) % 2147483647=b' at l i;have g:(upd H p (.lst [.int a,.int ((b * 69621+12345) % 2147483647)])) p=some (.lst [.int a,.int b']):=by rw[AX,o]
  refine⟨_,rfl,p,_,_,_,rfl,rfl,AG.of g,rfl,_,rfl,p,_,_,_,rfl,rfl,AG.of g,rfl,_,_,rfl,rfl,⟨Lv (by omega) (by omega),Lv (by omega) (by omega)⟩,_,_,rfl,rfl,(by show(0:Int)<2147483629;decide),?_⟩;refine⟨_,_,rfl,rfl,⟨(by show(0:Int)<64;decide),by decide +kernel⟩,_,rfl,_,_,rfl,rfl,e,?_⟩;exact q _ _ (Jd _ (by omega)) (Jc _ e) ⟨⟨a,b',g,a0,a1,l,i⟩,G5.upd⟩
def R9:BG ["number","word"] ["number"] (AQ Rz):=by walk_at "z1"
def rW(F:AR K "_law_letters" "_law_letters" Rz f fd)(m:mg "_law_letters"=some (.ref f)):
  AJ P w K mg ZB "_law_letters" 1 ["number"] (eS):=by
 refine AJ.mk F (F.binds (by walk_at "bD1")) m (F.ER (k:=0) R9 (λvs H Q E h=>?_) (λAd A outer s H vs Q E u h=>?_))
 .obtain⟨r,rfl,i,o,q⟩:=h;rfl
 obtain⟨r,rfl,i,o,q⟩:=h;refine⟨_,(AL rfl (BD 1 R9.nd DC)
   (AL rfl (Ca (WY EB (HP (Ba Hg (qv 1) DC) (IC (Ba MW (qv 0) AB))).pt (AL rfl (BD 1 R9.nd (BF bx (qv 1) (AZ nK DC (BF Ij (qv 0) AB))))
   (AU rfl (BD 0 R9.nd (BF VZ (qv 0) AB))))))
   (AU rfl (B1 (qv 1))))),?_⟩
 obtain⟨n,rfl⟩:=X5 i;have j:n<26 ^ 8:=by omega
 rw[GA]at q;refine⟨λσ' H'=>∃v,σ'=[some v,some (.str (Cw (MA.lets n)))]/\H=H',?_,?_⟩
 .refine⟨λm σ' H'=>∃(k:Nat)(pre:List Nat),σ'=[some (.int k),some (.str (Cw pre))]/\H=H'/\((pre=[]/\k=n/\m=n+2)∨(pre≠[]/\m=k+1/\(0<k->pre++MA.lets k=MA.lets n)/\(k=0->pre=MA.lets n))),⟨n+2,n,[],rfl,rfl,.inl ⟨rfl,rfl,rfl⟩⟩,?_⟩;rintro m σ' H'⟨k,pre,rfl,rfl,l⟩;refine⟨_,rfl,rfl,_,rfl,?_⟩;refine CC (λc=>Jj ?_) (λc=>⟨_,rfl,_,_,rfl,rfl,_,rfl,?_⟩)
  .have d:pre=[]:=Y0.mp (lx c);obtain⟨_,hk,p⟩|⟨h,_⟩:=l
   .have b:pre++MA.lets k=MA.lets n:=by rw[d,hk];rfl
    have a:pre.length+1<=8:=by
     have h1:=ib List.length b;rw[BX]at h1;have h2:=MA.Pr 7 n j;have t:=MA.Uw k;omega
    refine⟨λσ' H'=>σ'=[some (.int ((k:Int) / 26)),some (.str (Cw pre++⟨#[97+((k:Int) % 26).toNat]⟩))]/\H=H',?_,?_⟩
    .rintro σ' H'⟨rfl,rfl⟩;have nx:=cV b;have e1:((k:Int) % 26).toNat=k % 26:=by omega
     have e:(k:Int) / 26=((k / 26:Nat):Int):=by omega
     exact⟨k / 26+1,by omega,k / 26,pre++[97+k % 26],by rw[e1,e,Zm],rfl,.inr ⟨by simp,rfl,nx.1,nx.2⟩⟩
    .refine⟨_,rfl,_,rfl,_,_,rfl,rfl,(by show(0:Int)<26;decide),_,_,_,rfl,rfl,(by decide +kernel),ay (Jd _ (by decide)) (Jc _ (by decide)),_,_,rfl,rfl,?_,?_⟩
     .rw[Ob];exact small (show pre.length+1<=_ by omega)
     .exact⟨_,rfl,_,_,rfl,rfl,⟨(by show(0:Int)<26;decide),by decide +kernel⟩,rfl,rfl⟩
   .exact absurd d h
  .have d:pre≠[]:=λh=>c (hU (Y0.mpr h));obtain⟨h,_⟩|⟨_,p,h1,h2⟩:=l
   .exact absurd h d
   refine CC (λg=>?_) (λg=>?_)
   .have hk:0<k:=by have:(0:Int)<k:=lx g;omega
    have b:=h1 hk;have a:pre.length+1<=8:=by
     have h1:=ib List.length b;rw[BX]at h1;have h2:=MA.Pr 7 n j;have t:=MA.Uw k;omega
    refine⟨λσ' H'=>σ'=[some (.int ((k:Int) / 26)),some (.str (Cw pre++⟨#[97+((k:Int) % 26).toNat]⟩))]/\H=H',?_,?_⟩
    .rintro σ' H'⟨rfl,rfl⟩;have nx:=cV b;have e1:((k:Int) % 26).toNat=k % 26:=by omega
     have e:(k:Int) / 26=((k / 26:Nat):Int):=by omega
     exact⟨k / 26+1,by omega,k / 26,pre++[97+k % 26],by rw[e1,e,Zm],rfl,.inr ⟨by simp,rfl,nx.1,nx.2⟩⟩
    .refine⟨_,rfl,_,rfl,_,_,rfl,rfl,(by show(0:Int)<26;decide),_,_,_,rfl,rfl,(by decide +kernel),ay (Jd _ (by decide)) (Jc _ (by decide)),_,_,rfl,rfl,?_,?_⟩
     .rw[Ob];exact small (show pre.length+1<=_ by omega)
     .exact⟨_,rfl,_,_,rfl,rfl,⟨(by show(0:Int)<26;decide),by decide +kernel⟩,rfl,rfl⟩
   .have hk:k=0:=by
     have:¬ (0:Int)<k:=λz=>g (hU z);omega
    exact⟨_,by rw[h2 hk],rfl⟩
 .rintro σ' H'⟨v,rfl,rfl⟩;exact⟨_,rfl,q _ (AD.refl _)⟩
def G1:BG ["pot","names","some","way","name","number"] ["pot","names"] (AQ WD):=by walk_at "z1"
def mx(F:AR K "_law_name" "_law_name" WD f fd)(m:mg "_law_name"=some (.ref f)):
  AJ P w K mg ZB "_law_name" 2 ["pot","names"] (XZ K):=by
 refine AJ.mk F (F.binds (by walk_at "bD2")) m (F.ER (k:=1) G1 (λvs H Q E h=>?_) (λAd A outer s H vs Q E g h=>?_))
 .obtain⟨p,q,ns,rfl,U,B,AV,X,hL,K1⟩:=h;rfl
 obtain⟨p,q,ns,rfl,U,B,AV,X,hL,K1⟩:=h;refine⟨_,(AL rfl (BD 2 G1.nd (GF (A3 DC (A3 DC (A3 DC (A3 DC (A3 DC (A3 DC (A3 DC (A3 DC (A3 DC (A3 DC (A3 DC (A3 DC (A3 DC A4)))))))))))))))
   (AL rfl (BD 3 G1.nd (Ah C0 g (A3 (qv 0) (A3 AB A4))))
   (AL rfl (BD 4 G1.nd (AZ BN (qv 2) (Ah C0 g (A3 (qv 0) (A3 AB A4)))))
   (AL rfl (Ca (C6 (Ba Hg (qv 3) AB) (AU rfl (BD 4 G1.nd (Ah Np g (A3 (Ah C0 g (A3 (qv 0) (A3 (BF Qc (BF LV AB AB) AB) A4))) A4)))) C9))
   (AL rfl (Ca (C6 (LI (Ba Hg (qv 3) AB) (My (Ba (Py g.Hz) (qv 1) (Ge A4)))).pt (AL rfl (BD 4 G1.nd (AZ Bj (qv 1) (Ah C0 g (A3 (qv 0) (A3 (An LG Ac (A3 (qv 1) A4)) A4)))))
   (AU rfl (BD 4 G1.nd (V5 Xa (BF bx (qv 4) (Ah Np g (A3 (Ah C0 g (A3 (qv 0) (A3 AB A4))) A4))) UD (Si AB))))) C9))
   (AL rfl (Ca (C6 (LI (Ba Hg (qv 3) AB) (My (Ba (Py g.Hz) (qv 1) (Ge A4)))).pt (AL rfl (BD 4 G1.nd (AZ Bj (qv 1) (Ah C0 g (A3 (qv 0) (A3 (An LG Ac (A3 (qv 1) A4)) A4)))))
   (AU rfl (BD 4 G1.nd (V5 Xa (qv 4) UD (Si (BF Gq AB (Ah C0 g (A3 (qv 0) (A3 (An mq Ac (A3 (qv 4) A4)) A4))))))))) C9))
   (AL rfl (BD 5 G1.nd AB)
   (AL rfl (Ca (WY EB (Ba R1 (qv 4) (qv 1)) (AL rfl (BD 4 G1.nd (Ah Np g (A3 (qv 5) A4)))
   (AU rfl (BD 5 G1.nd (BF Gq (qv 5) AB))))))
   (AU rfl (B1 (qv 4))))))))))),?_⟩
 have G:(ns.map V.str).length=ns.length:=AA _;have B:AG K H q (ns.map V.str):=AG.of B;refine⟨(by show 13<=sizeLine;decide +kernel),λo cn=>?_⟩;have Fc:o≠p:=by
  obtain⟨_,_,e,_⟩:=U;exact(DV e cn).symm
 have g0:B4 p H (upd H o (.tup Oq)):=B4.of U (C1 cn _);refine⟨_,rfl,p,4,rfl,g0.AH,by decide,by decide,λd H1 w0 w1 s1=>?_⟩;refine⟨_,rfl,_,rfl,p,13,rfl,s1.AH,by decide,by decide,λi H2 i0 u s2=>?_⟩;have h2:H2 o=some (.tup Oq):=s2.at' (s1.at' AX Fc) Fc;obtain⟨x,hx,nx⟩:=l7 i0 u;refine⟨o,_,_,_,rfl,rfl,Ab.of h2,hx,?_⟩;have R:=g0.trans (s1.trans s2);refine⟨λσ' H'=>∃x,σ'=[some (.ref p),some (.ref q),some (.ref o),some (.int d),some (.str x),none]/\Nm x/\B4 p H H',?_,?_⟩
 .refine⟨_,rfl,rfl,_,rfl,?_⟩;refine CC (λc=>?_) (λc=>?_)
  .refine⟨_,rfl,_,_,rfl,rfl,⟨by decide,by decide,by decide +kernel⟩,_,_,rfl,rfl,p,_,rfl,R.AH,mh,y0,λr H3 D N Y=>?_⟩;have J:r<26 ^ 8:=Int.lt_trans N mN;exact⟨r,rfl,D,J,λH4 s4=>⟨_,rfl,Ut (Zw D J),(R.trans Y).trans (B4.of Y.AH s4)⟩⟩
  .exact⟨x,rfl,nx,R⟩
 clear h2 hx nx s2 R i0 u;rintro σ' H3⟨y,rfl,t,l⟩;refine⟨λσ' H'=>∃x,σ'=[some (.ref p),some (.ref q),some (.ref o),some (.int d),some (.str x),none]/\Nm x/\B4 p H H',?_,?_⟩
 .refine⟨_,rfl,rfl,_,rfl,?_⟩;refine CC (λc=>?_) (λc=>FP ⟨y,rfl,t,l⟩);refine⟨_,rfl,(by show 0<=sizeLine;decide),λe W=>?_⟩;have b:=l.trans (B4.of l.AH (C1 W (.lst [])));have M:=b.Ml B AV;refine⟨q,e,_,[],rfl,rfl,.inl ⟨M,AG.of AX⟩,Hi ns,rfl,_,rfl,?_⟩;rw[cu];refine CC (λL=>?_) (λL=>⟨y,rfl,t,b⟩);have L8:0<ns.length:=by
   cases ns with
   |nil=>simp at L
   |cons a r=>simp
  refine⟨_,rfl,_,rfl,_,rfl,q,_,rfl,.inl M,p,_,rfl,b.AH,(by rw[G];omega),(by rw[G];omega),λi H5 i0 u T=>?_⟩;rw[G]at u;have C:=b.trans T;obtain⟨z,hz,U7,_⟩:=UG i0 u;have nz:=X z U7;refine⟨q,_,_,_,rfl,rfl,C.Ml B AV,hz,?_⟩;refine⟨_,rfl,_,rfl,p,26,rfl,C.AH,by decide,by decide,λr H6 D N S=>?_⟩;have O:=C.trans S;have J:r<26 ^ 8:=Int.lt_trans N jk;refine⟨r,rfl,D,J,λH7 s7=>?_⟩;have O:=O.trans (B4.of O.AH s7);have nl:=Ut (n:=r.toNat) (Zw D J);have σ:z.length+(Cw (MA.lets r.toNat)).length<=16:=by have:=nz.2.1;have:=nl.2.1;omega
  refine⟨_,_,rfl,rfl,small (by omega),?_⟩;refine⟨_,rfl,_,rfl,small (by rw[Ym];omega),?_⟩;refine⟨_,rfl,fL (by decide) (by decide) (by rw[Ym];have:=nz.1;omega) (λc I=>?_),O⟩;rw[fQ]at I;rcases List.mem_append.mp I with I|I
  .exact nz.2.2 c I
  .exact nl.2.2 c I
 clear t l;rintro σ' H3⟨y,rfl,t,l⟩;refine⟨λσ' H'=>∃x,σ'=[some (.ref p),some (.ref q),some (.ref o),some (.int d),some (.str x),none]/\Nm x/\B4 p H H',?_,?_⟩
 .refine⟨_,rfl,rfl,_,rfl,?_⟩;refine CC (λc=>?_) (λc=>FP ⟨y,rfl,t,l⟩);refine⟨_,rfl,(by show 0<=sizeLine;decide),λe W=>?_⟩;have b:=l.trans (B4.of l.AH (C1 W (.lst [])));have M:=b.Ml B AV;refine⟨q,e,_,[],rfl,rfl,.inl ⟨M,AG.of AX⟩,Hi ns,rfl,_,rfl,?_⟩;rw[cu];refine CC (λL=>?_) (λL=>⟨y,rfl,t,b⟩);have L8:0<ns.length:=by
   cases ns with
   |nil=>simp at L
   |cons a r=>simp
  refine⟨_,rfl,_,rfl,_,rfl,q,_,rfl,.inl M,p,_,rfl,b.AH,(by rw[G];omega),(by rw[G];omega),λi H5 i0 u T=>?_⟩;rw[G]at u;have C:=b.trans T;obtain⟨z,hz,U7,_⟩:=UG i0 u;have nz:=X z U7;refine⟨q,_,_,_,rfl,rfl,C.Ml B AV,hz,?_⟩;have rE:=nz.1;have nz2:=nz.2.1;refine⟨_,rfl,_,rfl,_,rfl,_,rfl,small (by omega),p,_,rfl,C.AH,(by omega),(by omega),λr H6 D N S=>?_⟩;refine⟨_,_,rfl,rfl,_,rfl,_,rfl,small (by omega),?_⟩;exact⟨_,rfl,fL (by omega) (by omega) rE nz.2.2,C.trans S⟩
 clear t l;rintro σ' H3⟨y,rfl,t,l⟩;refine⟨λσ' H'=>∃x v,σ'=[some (.ref p),some (.ref q),some (.ref o),some (.int d),some (.str x),some v]/\Nm x/\x∉ns/\B4 p H H',?_,?_⟩
 .refine⟨λm σ' H'=>∃(k:Nat)(x:Str),σ'=[some (.ref p),some (.ref q),some (.ref o),some (.int d),some (.str x),some (.int k)]/\B4 p H H'/\Nm x/\m=ns.length+1 - k/\k<=ns.length+1/\(0<k->x=Cw (MA.lets (k - 1)))/\(∀j,j+1<k->Cw (MA.lets j)∈ns),
   ⟨ns.length+1,0,y,rfl,l,t,rfl,Bo _,λh=>absurd h (by decide),λj h=>absurd h (by omega)⟩,?_⟩
  rintro m σ' H'⟨k,x,rfl,b,nx,rfl,hk,hx,hj⟩;refine⟨_,rfl,_,rfl,q,_,rfl,.inl (b.Ml B AV),rfl,Hi ns,_,rfl,?_⟩;rw[i3 (by decide),Qn];refine CC (λc=>?_) (λc=>⟨x,_,rfl,nx,λz=>c (hU z),b⟩);have Gi:x∈ns:=lx c;have K5:∀j,j<k->Cw (MA.lets j)∈ns:=λj OB=>by
   by_cases e:j+1<k
   .exact hj j e
   .have e2:j=k - 1:=by omega
    rw[e2,<- hx (by omega)];exact Gi
  have vg:=jE K5;refine⟨λσ' H'=>σ'=[some (.ref p),some (.ref q),some (.ref o),some (.int d),some (.str (Cw (MA.lets k))),some (.int ((k:Int)+1))]/\B4 p H H',?_,?_⟩
  .rintro σ' H'⟨rfl,b⟩;exact⟨ns.length+1 - (k+1),by omega,k+1,Cw (MA.lets k),rfl,b,Ut (Jg (CQ vg hL) wo),rfl,by omega,λ_=>rfl,λj OB=>K5 j (by omega)⟩
  .refine⟨_,rfl,k,rfl,by omega,?_,λH4 s4=>?_⟩
   .have:(k:Int)<=1000:=by omega
    exact ZAT this tI
   .rw[GA];exact⟨_,rfl,_,_,rfl,rfl,rfl,b.trans (B4.of b.AH s4)⟩
 rintro σ' H'⟨x,v,rfl,nx,hx,b⟩;exact⟨_,rfl,K1 x H' nx hx b⟩
def T9:BG ["pot","many","names","k"] ["pot","many"] (AQ T5):=by walk_at "z1"
def vE(F:AR K "_law_names" "_law_names" T5 f fd)(m:mg "_law_names"=some (.ref f)):
  AJ P w K mg ZB "_law_names" 3 ["pot","many"] (fj):=by
 refine AJ.mk F (F.binds (by walk_at "bD2")) m (F.ER (k:=2) T9 (λvs H Q E h=>?_) (λAd A outer s H vs Q E u h=>?_))
 .obtain⟨p,m,rfl,j,r,o,q⟩:=h;rfl
 obtain⟨p,m,rfl,j,r,o,q⟩:=h;refine⟨_,(AL rfl (BD 2 T9.nd (Ge A4))
   (AL rfl (Ca (EX EB rfl (IJ rfl Cn (A3 (qv 1) A4)) (CY 3 T9.nd) (AU rfl (Ej (Hj IZ L5 L6 JI (qv 2) (A3 (Ah Vq u (A3 (qv 0) (A3 (qv 2) A4))) A4))))))
   (AU rfl (B1 (qv 2))))),?_⟩
 refine⟨(by show 0<=sizeLine;decide),λl c=>?_⟩;have d:=j.ne c;refine⟨λσ' H'=>∃(ns:List Str)(v:Option V),σ'=[some (.ref p),some (.int m),some (.ref l),v]/\B4 p H H'/\H' l=some (.lst (ns.map V.str))/\(ns.length:Int)=m/\(∀x∈ns,Nm x)/\ns.Nodup,?_,?_⟩
 .refine⟨_,rfl,m,rfl,by omega,by omega,vK (n:=m.toNat) (λi σ' H'=>∃(ns:List Str)(v:Option V),σ'=[some (.ref p),some (.int m),some (.ref l),v]/\B4 p H H'/\H' l=some (.lst (ns.map V.str))/\ns.length=i/\(∀x∈ns,Nm x)/\ns.Nodup) ?_ ?_ ?_⟩
  .exact⟨[],none,rfl,(B4.of j (AD.refl H)).upd c d,AX,rfl,λx hx=>absurd hx (by simp),by simp⟩
  .rintro i σ' H' hi⟨ns,v,rfl,g,e,a,b,nd⟩;refine⟨_,rfl,.inl ⟨rfl,_,AG.of e⟩,_,rfl,_,rfl,p,l,ns,rfl,g.AH,e,d,b,by omega,λx H2 nx hx s2=>?_⟩;refine⟨l,_,_,rfl,rfl,s2.at' e d,Jg (m:=100) (by rw[AA];omega) (by decide +kernel),?_⟩;refine⟨ns++[x],_,rfl,(g.trans s2).upd c d,by rw[AX,EK];rfl,by rw[BX];simp[a],λy t=>?_,Vc nd hx⟩;rcases List.mem_append.mp t with h|h
   .exact b y h
   .have:y=x:=by simpa using h
    rw[this];exact nx
  .rintro σ' H'⟨ns,v,rfl,g,e,a,b,nd⟩;exact⟨ns,v,rfl,g,e,by omega,b,nd⟩
 rintro σ' H'⟨ns,v,rfl,g,e,a,b,nd⟩;exact⟨_,rfl,q l H' ns c g e a b nd⟩
def T4:BG ["pot","most","many"] ["pot","most"] (AQ Sq):=by walk_at "z1"
def o4(F:AR K "_law_row" "_law_row" Sq f fd)(m:mg "_law_row"=some (.ref f)):
  AJ P w K mg ZB "_law_row" 4 ["pot","most"] (UN):=by
 refine AJ.mk F (F.binds (by walk_at "bD2")) m (F.ER (k:=3) T4 (λvs H Q E h=>?_) (λAd A outer s H vs Q E b h=>?_))
 .obtain⟨p,m,rfl,o,i,x,q⟩:=h;rfl
 obtain⟨p,m,rfl,o,i,x,q⟩:=h;refine⟨_,(AL rfl (BD 2 T4.nd (Ah C0 b (A3 (qv 0) (A3 (BF Gq (qv 1) AB) A4))))
   (AL rfl (Ca (C6 (Ba Hg (Ah C0 b (A3 (qv 0) (A3 AB A4))) AB) (AU rfl (BD 2 T4.nd (AZ BN (GF (A3 AB (A3 AB (A3 (qv 1) A4)))) (Ah C0 b (A3 (qv 0) (A3 AB A4)))))) C9))
   (AU rfl (B1 (Ah TH b (A3 (qv 0) (A3 (qv 2) A4))))))),?_⟩
 refine⟨_,rfl,_,rfl,_,_,rfl,rfl,p,_,rfl,o,by omega,by omega,λa H1 n0 J s1=>?_⟩;refine⟨λσ' H'=>∃k:Int,σ'=[some (.ref p),some (.int m),some (.int k)]/\0<=k/\k<=m/\B4 p H H',?_,?_⟩
 .refine⟨_,rfl,p,8,rfl,s1.AH,by decide,by decide,λr H2 I G s2=>?_⟩;have c:=s1.trans s2;refine⟨rfl,_,rfl,?_⟩;refine CC (λ_=>?_) (λ_=>⟨a,rfl,n0,by omega,c⟩);refine⟨_,rfl,(by show 3<=sizeLine;decide +kernel),λt n=>?_⟩;have D:=c.AH.ne n;have v:=c.trans (B4.of c.AH (C1 n (.tup [.int 0,.int 1,.int m])));refine⟨_,rfl,p,3,rfl,v.AH,by decide,by decide,λj H4 z y s4=>?_⟩;obtain⟨k,hk,d,k1⟩:=nq z y i;exact⟨t,_,_,_,rfl,rfl,Ab.of (s4.at' AX D),hk,k,rfl,d,k1,v.trans s4⟩
 rintro σ' H'⟨k,rfl,d,k1,g⟩;refine⟨_,rfl,_,rfl,p,k,rfl,g.AH,d,by omega,λl H' ns B s e u C nd=>?_⟩;exact q l H' ns (g.none B) (g.trans s) e (by omega) C nd
def OD:BG ["pot","row","coming","share","name","rule"] ["pot","row"] (AQ SJ):=by walk_at "z1"
def lh(F:AR K "_law_some_loop" "_law_some_loop" SJ f fd)(m:mg "_law_some_loop"=some (.ref f)):
  AJ P w K mg ZB "_law_some_loop" 2 ["pot","row"] (V7):=by
 refine AJ.mk F (F.binds (by walk_at "bD2")) m (F.ER (k:=1) OD (λvs H Q E h=>?_) (λAd A outer s H vs Q E o h=>?_))
 .obtain⟨p,q,ns,rfl,C,b,AV,hz,nd,K1⟩:=h;rfl
 obtain⟨p,q,ns,rfl,C,b,AV,hz,nd,K1⟩:=h;refine⟨_,(AL rfl (BD 2 OD.nd (Ge A4))
   (AL rfl (BD 3 OD.nd (BF Gq AB (Ah C0 o (A3 (qv 0) (A3 AB A4)))))
   (AL rfl (Ca (EX EB rfl (Cz (qv 1)) (CY 4 OD.nd) (AU rfl (C6 (Ba Nu (Ah C0 o (A3 (qv 0) (A3 AB A4))) (qv 3)) (AU rfl (Ej (Hj IZ L5 L6 JI (qv 2) (A3 (qv 4) A4)))) C9))))
   (AL rfl (BD 5 OD.nd (AZ BN (GF (A3 DC (A3 DC (A3 DC A4)))) (Ah C0 o (A3 (qv 0) (A3 AB A4)))))
   (AU rfl (B1 (GF (A3 (qv 5) (A3 (Ah C0 o (A3 (qv 0) (A3 (BF Gq (An LG Ac (A3 (qv 1) A4)) AB) A4))) (A3 (Dm OM Et (A3 (An RP Dd (A3 (qv 2) A4)) A4)) A4)))))))))),?_⟩
 have u:=Lw.RF ns;refine⟨(by show 0<=sizeLine;decide),λl JC=>?_⟩;have n:=C.ne JC;have hlq:l≠q:=(DV b JC).symm;have g0:B4 p H (upd H l (.lst [])):=B4.of C (C1 JC _);refine⟨_,rfl,p,4,rfl,g0.AH,by decide,by decide,λJ H1 _ _ s1=>⟨_,_,rfl,rfl,?_⟩⟩;have g1:=g0.trans s1;refine⟨λσ' H'=>∃(cs:List Str)(v:Option V),σ'=[some (.ref p),some (.ref q),some (.ref l),some (.int (1+J)),v,none]/\B4 p H H'/\H' l=some (.lst (cs.map V.str))/\cs.Sublist ns,?_,?_⟩
 .refine⟨_,rfl,false,q,_,rfl,AG.of (g1.at' b AV),mn (λi σ' H'=>∃(cs:List Str)(v:Option V),σ'=[some (.ref p),some (.ref q),some (.ref l),some (.int (1+J)),v,none]/\B4 p H H'/\H' l=some (.lst (cs.map V.str))/\cs.Sublist (ns.take i)) ?_ ?_ ?_ ?_⟩
  .exact⟨[],none,rfl,g1,s1.at' AX n,ZAj _⟩
  .rintro i σ' H' _⟨cs,v,rfl,g,e,a⟩;exact AG.of (g.at' b AV)
  .rintro i x σ' H' hx⟨cs,v,rfl,g,e,a⟩;obtain⟨y,rfl,R⟩:=ua hx;have hi:i<ns.length:=(List.getElem?_eq_some_iff.mp R).1;have W:ns.take (i+1)=ns.take i++[y]:=by
    rw[List.take_succ,R];rfl
   have I:cs.length<=40:=by
    have h1:=a.length_le;rw[GC]at h1;omega
   refine⟨_,rfl,p,4,rfl,g.AH,by decide,by decide,λr H2 r0 r1 s2=>⟨_,rfl,_,_,rfl,rfl,_,rfl,?_⟩⟩;have d:=s2.at' e n;refine CC (λc=>?_) (λc=>?_)
   .refine⟨_,rfl,.inl ⟨rfl,_,AG.of d⟩,_,rfl,l,_,_,rfl,rfl,d,Jg (m:=40) (by rw[AA];exact I) (by decide +kernel),?_⟩;exact⟨cs++[y],_,rfl,(g.trans s2).upd JC n,by rw[AX,EK];rfl,by rw[W];exact a.append (ZAV _)⟩
   .exact⟨cs,_,rfl,g.trans s2,d,by rw[W];exact a.trans (ZAo _ _)⟩
  .rintro σ' H'⟨cs,v,rfl,g,e,a⟩;rw[u,Eg]at a;exact⟨cs,v,rfl,g,e,a⟩
 rintro σ' H2⟨cs,v,rfl,G,d,a⟩;refine⟨(by show 3<=sizeLine;decide),λt1 MI=>?_⟩;have kH:=G.AH.ne MI;have O:=C1 MI (.tup (G2.map V.str));have U:=G.trans (B4.of G.AH O);refine⟨_,rfl,p,3,rfl,U.AH,by decide,by decide,λj H4 j0 j1 s4=>?_⟩;obtain⟨r,Y,QX⟩:=ZS j0 j1;refine⟨t1,_,_,_,rfl,rfl,Ab.of (s4.at' AX kH),Y,?_⟩;have D:=U.trans s4;have σ:=D.at' b AV;refine⟨_,rfl,_,rfl,_,rfl,q,_,rfl,.inl (AG.of σ),_,_,rfl,rfl,p,_,rfl,D.AH,(by rw[u];omega),(by rw[u];omega),λgp H5 p0 p1 L=>?_⟩;rw[u]at p1;have z:=D.trans L;have e5:=L.at' (s4.at' (O _ _ d) n) n;have I:cs.length<=40:=CQ a.length_le hz;refine⟨_,rfl,l,false,cs,rfl,AG.of e5,by omega,λl2 ts CJ Er FW=>?_⟩;have B:=C1 CJ (.lst (ts.map V.str));refine⟨l2,_,rfl,.inl ⟨AG.of AX,λc T=>?_⟩⟩;have N:=C1 T (.tup (ts.map V.str));refine⟨(by show 3<=sizeLine;decide),λt S=>?_⟩;have M:=C1 S (.tup [.str r,.int gp,.ref c]);have g8:=z.trans (B4.of z.AH (B.trans (N.trans M)));have X:ts.Nodup:=Er.nodup_iff.mpr (nd.sublist a);refine K1 t c r gp ts _ (z.none (AD.none (B.trans N) S)) (z.none (AD.none B T)) g8 AX (M _ _ AX) ⟨QX,p0,by omega,So FW X,λx hx=>a.subset (Er.mem_iff.mp hx),by rw[Er.length_eq];exact I⟩
def Hm:BG ["pot","row","most","loops","k","loop","way","one","coming"] ["pot","row","most"] (AQ Qr):=by walk_at "z1"
noncomputable abbrev Sc(l):=Scope.mk .function l false false []
def t5:=Sc [(".0",.local),("name",.local),("_law_take",.globalImplicit),("pot",.free)]
def nj:Cg ["pot","row","most","loops","k","loop","way","one","coming"] (AQ Qr) t5 "name" ["pot"] [0]:=by walk_at "z2"
def jO(F:AR K "_law_loops" "_law_loops" Qr f fd)(m:mg "_law_loops"=some (.ref f)):
  AJ P w K mg ZB "_law_loops" 3 ["pot","row","most"] (Ap dS):=by
 refine Fz.hF (k:=2) F (by walk_at "bD3") m Hm (by rintro _ _⟨ns,m,rfl,_,hz,nd,rfl⟩;rfl) λn=>⟨_,(AL rfl (BD 3 Hm.nd (Ge A4))
   (AL rfl (Ca (EX EB rfl (IJ rfl Cn (A3 (Ah C0 n (A3 (qv 0) (A3 (BF Gq (qv 2) AB) A4))) A4)) (CY 4 Hm.nd) (AL rfl (BD 5 Hm.nd (Ah Vn n (A3 (qv 0) (A3 (qv 1) A4))))
   (AL rfl (BD 6 Hm.nd (Ah C0 n (A3 (qv 0) (A3 AB A4))))
   (AL rfl (Ca (C6 (LI (Ba Hg (qv 6) AB) (My (Ba (fK n.Hz) (qv 3) (Ge A4)))).pt (AL rfl (BD 7 Hm.nd (AZ Bj (qv 3) (Ah C0 n (A3 (qv 0) (A3 (An Cp Ac (A3 (qv 3) A4)) A4)))))
   (AL rfl (L9 (i:=8) Hm.nd rfl (Or.inl rfl) rfl nj (Cz (AZ BN (qv 7) AB)) (λ_ _ _ _=>by exact(Mk (Ba MW (Ah C0 n (A3 (qv 0) (A3 AB A4))) AB))) (λ_ _ _ _=>by exact(qv 1)))
   (AU rfl (BD 5 Hm.nd (GF (A3 (AZ BN (qv 5) AB) (A3 (AZ BN (qv 5) AB) (A3 (Dm OM Et (A3 (qv 8) A4)) A4)))))))) C9))
   (AL rfl (Ca (C6 (LI (Ba Hg (qv 6) AB) (LI (Ba (fK n.Hz) (qv 3) (Ge A4)) (My (Ba Hg (Ah C0 n (A3 (qv 0) (A3 AB A4))) AB)))).pt (AU rfl (BD 5 Hm.nd (GF (A3 (AZ BN (qv 5) AB) (A3 (AZ BN (qv 5) AB) (A3 (AZ BN (AZ Bj (qv 3) (Ah C0 n (A3 (qv 0) (A3 (An Cp Ac (A3 (qv 3) A4)) A4)))) AB) A4)))))) C9))
   (AU rfl (Ej (Hj IZ ZAy PySem.F.type_list_insert vh (qv 3) (A3 (Ah C0 n (A3 (qv 0) (A3 (BF Gq (An Cp Ac (A3 (qv 3) A4)) AB) A4))) (A3 (qv 5) A4)))))))))))
   (AU rfl (B1 (qv 3))))),?_⟩
 rintro _ _⟨ns,m,rfl,V,hz,nd,rfl⟩;show Ws [_,_,_,.any,.any,.any,.any,.any,.any] _ _ _
 walk_at "ww"
 refine⟨by simp,?_⟩;refine B0 (EC (FK (λ_ i A5=>∃(Ls:List Lp)(s4 A v d a:Slot),A5=[.AH,.is (.lst (ns.map .str)),.is (.int m),.own (Ls.map Lp.P),s4,A,v,d,a]/\Ls.length=i/\∀l∈Ls,l.Good ns) ?_))
 walk_at "ww"
 refine⟨by omega,by omega,λr X h1=>⟨_,rfl,by omega,by omega,⟨[],_,_,_,_,_,rfl,rfl,by simp⟩,?_,?_⟩⟩
 .rintro i p A5 N⟨Ls,s4,A,v,d,a,rfl,hL,hg⟩;obtain⟨hi,rfl⟩:=Ox N;refine Gp ?_
  walk_at "ww"
  refine⟨hz,nd,λH g cs gd W=>?_⟩
  walk_at "ww"
  refine⟨by decide,by decide,λo S R=>?_⟩;have O:(Ls.map Lp.P).length<=12:=by rw[AA];omega
  refine fo (λA5=>∃(l:Lp)(d a:Slot),A5=[.AH,.is (.lst (ns.map .str)),.is (.int m),.own (Ls.map Lp.P),.is (.int i),.is l.P,.is (.int o),d,a]/\l.Good ns) (EC ?_) ?_
  .refine E8 (U1 (k':=λb=>b=true->Ls≠[]) ?_ ?_)
   .walk_at "ww"
    refine CC (λc=>?_) (λc=>?_)
    .walk_at "ww"
     refine⟨by simp,_,.inl ⟨rfl,rfl,rfl,_,rfl,λh e=>?_⟩⟩;subst e;simp at h
    .walk_at "ww"
     exact λz=>by cases z
   .intro b D;refine CC (λc=>?_) (λc=>Ct ⟨⟨H,g,cs⟩,_,_,rfl,gd⟩);have G:=D c;have J:0<(Ls.map Lp.P).length:=by rw[AA];exact List.length_pos_iff.mpr G
    walk_at "ww"
    refine⟨by omega,by omega,λq C B=>?_⟩;obtain⟨q,rfl⟩:=X5 C;have t:q<Ls.length:=by rw[AA]at B;omega
    refine⟨_,Ls[q].P,rfl,EE (by rw[AO,AK t];rfl),?_⟩;have s:C4 ns Ls[q].r Ls[q].g Ls[q].cs:=hg _ (Fi t);have u:=C4.len s;refine B0 (HM (vU ?_))
    walk_at "ww"
    refine⟨by rw[AA];omega,λx hx=>?_,λx hx=>AI rfl rfl,λys Jm=>?_⟩
    .walk_at "ww"
     exact⟨by decide,by decide,λr _ _=>⟨_,rfl,CL ⟨_,rfl,_,rfl,trivial⟩⟩⟩
    .obtain⟨ds,I,rfl⟩:=List.sublist_map_iff.mp Jm
     walk_at "ww"
     exact⟨by simp,⟨H,g,ds⟩,_,_,rfl,gd.rule,gd.g0,gd.g1,List.Pairwise.sublist I s.up,λy M=>s.sub y (I.subset M)⟩
  .rintro _⟨l,d,a,rfl,u⟩;refine fo (λA5=>∃(l:Lp)(d a:Slot),A5=[.AH,.is (.lst (ns.map .str)),.is (.int m),.own (Ls.map Lp.P),.is (.int i),.is l.P,.is (.int o),d,a]/\l.Good ns) (EC ?_) ?_
   .refine E8 (U1 (k':=λb=>b=true->Ls≠[]) ?_ ?_)
    .walk_at "ww"
     refine CC (λc=>?_) (λc=>?_)
     .walk_at "ww"
      refine⟨by simp,_,.inl ⟨rfl,rfl,rfl,_,rfl,?_⟩⟩;refine CC (λQ=>U1 (k':=λ_=>True) ?_ λb _ _ e=>?_) (λ_ z=>by cases z)
      .walk_at "ww"
       exact⟨by decide,by decide,λr _ _=>CL ⟨rfl,_,rfl,trivial⟩⟩
      .subst e;simp at Q
     .walk_at "ww"
      exact λz=>by cases z
    .intro b D;refine CC (λc=>?_) (λc=>Ct ⟨l,_,_,rfl,u⟩);have G:=D c;have J:0<(Ls.map Lp.P).length:=by rw[AA];exact List.length_pos_iff.mpr G
     walk_at "ww"
     refine⟨by omega,by omega,λq C B=>?_⟩;obtain⟨q,rfl⟩:=X5 C;have t:q<Ls.length:=by rw[AA]at B;omega
     have s:C4 ns Ls[q].r Ls[q].g Ls[q].cs:=hg _ (Fi t);have E:C4 ns l.r l.g l.cs:=u;refine⟨_,Ls[q].P,rfl,EE (by rw[AO,AK t];rfl),_,.inr ⟨rfl,rfl,?_⟩⟩
     walk_at "ww"
     exact⟨by simp,⟨l.r,l.g,Ls[q].cs⟩,_,_,rfl,E.rule,E.g0,E.g1,s.up,s.sub⟩
   .rintro _⟨l,d,a,rfl,u⟩;refine c8 rfl ?_
    walk_at "ww"
    refine⟨by omega,by omega,λj L U=>⟨_,rfl,L,by omega,AI rfl ⟨by omega,Ls.take j.toNat++l::Ls.drop j.toNat,.is (.int i),.is l.P,.is (.int o),d,a,?_,?_,λT D5=>?_⟩⟩⟩
    .rw[EK,E9,List.map_take,List.map_drop];rfl
    .rw[BX,BA,GC,RY];omega
    .rcases List.mem_append.mp D5 with h|h
     .exact hg _ (gO h)
     .rcases List.mem_cons.mp h with h|h
      .subst h;exact u
      .exact hg _ (List.mem_of_mem_drop h)
 .rintro A5⟨Ls,s4,A,v,d,a,rfl,hL,hg⟩;refine Vk rfl ⟨Ls,rfl,?_,hg⟩;rw[hL,Jq];omega
def xu:BG ["row","gap"] ["row","gap"] (AQ Ug):=by walk_at "z1"
def pM(F:AR K "is_gap" "is_gap" Ug f fd)(m:mg "is_gap"=some (.ref f)):
  AJ P w K mg ZB "is_gap" 1 ["row","gap"] (dz K):=by
 refine AJ.mk F (F.binds (by walk_at "bD2")) m (F.ER (k:=0) xu (λvs H Q E h=>?_) (λAd A outer s H vs Q E i h=>?_))
 .obtain⟨a,tp,ns,g,rfl,b,q⟩:=h;rfl
 obtain⟨a,tp,ns,g,rfl,b,q⟩:=h;refine⟨_,(AU rfl (B1 (iD Q5 Q5 AB (qv 1) (An LG Ac (A3 (qv 0) A4))))),?_⟩;have d:=Lw.RF ns;refine⟨_,rfl,_,_,rfl,rfl,_,rfl,?_⟩;refine CC (λc=>?_) (λc=>?_)
 .refine⟨_,rfl,a,_,rfl,b.or,_,_,rfl,rfl,?_⟩;rw[d];have e:Kp ns.length g=decide (g<=(ns.length:Int)):=by unfold Kp;rw[c];rfl
  show Q (.bl (decide (g<=(ns.length:Int)))) H;rw[<- e];exact q
 .have e:Kp ns.length g=false:=by unfold Kp;rw[Bool.eq_false_iff.mpr c];rfl
  show Q (.bl false) H;rw[<- e];exact q
def lZ:BG ["row","coming"] ["row","coming"] (AQ Pj):=by walk_at "z1"
def xM:=Sc [(".0",.local),("name",.local),("row",.free)]
def yV:Cg ["row","coming"] (AQ Pj) xM "name" ["row"] [0]:=by walk_at "z2"
def sR(F:AR K "is_coming" "is_coming" Pj f fd)(m:mg "is_coming"=some (.ref f)):
  AJ P w K mg ZB "is_coming" 1 ["row","coming"] (YG K):=by
 refine AJ.mk F (F.binds (by walk_at "bD2")) m (F.ER (k:=0) lZ (λvs H Q E h=>?_) (λAd A outer s H vs Q E z h=>?_))
 .obtain⟨a,tp,ns,c,ss,rfl,n,hC,Bf,q⟩:=h;rfl
 obtain⟨a,tp,ns,c,ss,rfl,n,hC,Bf,q⟩:=h;refine⟨_,(AU rfl (B1 (LF (Ki (TX z.Hz) (Dm He D8 (A3 (qv 1) A4)) (An (kQ rfl) Dd (A3 (Dm (NA rfl) GI (A3 (qv 1) A4)) A4))) (LL (An (Km rfl) Ed (A3 (GW rfl yV (Cz (qv 1)) (λ_ _ _ _=>by exact FG) (λ_ _ _ _=>by exact(Ki (show Aw _ (compareOp .In) (Lj K false)from R1) (qv 1) (qv 0)))) A4)))))),?_⟩;have B:=Lw.RF ss;refine⟨_,rfl,c,_,rfl,.inr hC,λl1 Fd=>?_⟩;have l:=C1 Fd (.lst (ss.map V.str));refine⟨_,rfl,c,true,ss,rfl,l.WA hC,by omega,λl2 CJ=>?_⟩;have j:=C1 CJ (Ci P w l2 (λk'=>(dd ss).any (· == k')) (dd ss).length)
 refine⟨l2,_,_,rfl,AX,by have:=V6 ss;omega,λt ts r e1 D C=>?_⟩;have g:=C1 r (.lst (ts.map V.str));have b:=l.trans (j.trans g);refine⟨l1,t,_,_,rfl,rfl,.inl ⟨AG.of (g _ _ (j _ _ AX)),AG.of AX⟩,Hi ss,Hi ts,_,rfl,?_⟩;have y:Ez (ss.map V.str) (ts.map V.str)=JB ss:=by rw[k6];unfold JB;rw[decide_eq_decide];exact lM e1 D C
 show if Ez (ss.map V.str) (ts.map V.str)=true then _ else _
 rw[y];refine CC (λd=>?_) (λd=>?_)
 .have p:=b.WA hC;refine⟨_,rfl,true,c,_,rfl,p,λacc B6=>sf (tp:=true) (λ_=>true) (λv=>.bl (JG v (ns.map V.str))) p B6 (by rw[B];exact small (by omega)) (λi v H' Q' _ _ h=>h H' (AD.refl _)) (λi v H' Q' u _ s4 h=>?_) (λH' s4 o=>?_)⟩
  .obtain⟨x,rfl,G⟩:=jP u;exact⟨_,rfl,_,rfl,a,_,rfl,((b.trans s4).sq n).or,rfl,Hi ns,h _ (AD.refl _)⟩
  .rw[ur]at o;refine⟨acc,_,rfl,AG.of o,?_⟩;rw[all_map];have e:(JB ss && JH ns ss)=JH ns ss:=by rw[d];rfl
   show Q (.bl (JH ns ss)) H';rw[<- e];exact q _ (b.trans s4)
 .have e:(JB ss && JH ns ss)=false:=by rw[Bool.eq_false_iff.mpr d];rfl
  rw[<- e];exact q _ b
def zB:BG ["row","thing"] ["row","thing"] (AQ WM):=by walk_at "z1"
def ym(F:AR K "is_loop" "is_loop" WM f fd)(m:mg "is_loop"=some (.ref f)):
  AJ P w K mg ZB "is_loop" 2 ["row","thing"] (aN K):=by
 refine AJ.mk F (F.binds (by walk_at "bD2")) m (F.ER (k:=1) zB (λvs H Q E h=>?_) (λAd A outer s H vs Q E l h=>?_))
 .obtain⟨a,tp,ns,t,r,g,ss,rfl,i,⟨c,b,hC⟩,Bf,q⟩:=h;rfl
 obtain⟨a,tp,ns,t,r,g,ss,rfl,i,⟨c,b,hC⟩,Bf,q⟩:=h;refine⟨_,(AU rfl (B1 (LF (Ki R1 (AZ BN (qv 1) AB) (Xq (v:=.ref Im) (by rfl) Se rfl)) (LF (Ah VG l (A3 (qv 0) (A3 (AZ BN (qv 1) AB) A4))) (LL (Ah VF l (A3 (qv 0) (A3 (AZ BN (qv 1) AB) A4)))))))),?_⟩;refine⟨_,rfl,t,_,_,_,rfl,rfl,b,rfl,Im,_,rfl,.inr (SA H),rfl,rfl,_,rfl,?_⟩;have n:JG (.str r) (G2.map V.str)=decide (r∈G2):=Qn r G2;show if JG (.str r) (G2.map V.str)=true then _ else _
 rw[n];refine CC (λd=>?_) (λd=>?_)
 .refine⟨_,rfl,_,rfl,t,_,_,_,rfl,rfl,b,rfl,a,tp,ns,g,rfl,i,_,rfl,?_⟩;refine CC (λj=>?_) (λj=>?_)
  .refine⟨_,rfl,_,rfl,t,_,_,_,rfl,rfl,b,rfl,a,tp,ns,c,ss,rfl,i,hC,Bf,λH' s'=>?_⟩;have e:FU ns r g ss=(JB ss && JH ns ss):=by unfold FU;rw[d,j];rfl
   rw[<- e];exact q _ s'
  .have e:FU ns r g ss=false:=by unfold FU;rw[d,Bool.eq_false_iff.mpr j];rfl
   rw[<- e];exact q _ (AD.refl _)
 .have e:FU ns r g ss=false:=by unfold FU;rw[Bool.eq_false_iff.mpr d];rfl
  rw[<- e];exact q _ (AD.refl _)
def yt:BG ["row","loop"] ["row","loop"] (AQ Ua):=by walk_at "z1"
def my(F:AR K "check_loop" "check_loop" Ua f fd)(m:mg "check_loop"=some (.ref f)):
  AJ P w K mg ZB "check_loop" 3 ["row","loop"] (Vv K):=by
 refine AJ.mk F (F.binds (by walk_at "bD2")) m (F.ER (k:=2) yt (λvs H Q E h=>?_) (λAd A outer s H vs Q E c h=>?_))
 .obtain⟨a,tp,ns,t,r,g,ss,rfl,b,hL,Bf,ok,q⟩:=h;rfl
 obtain⟨a,tp,ns,t,r,g,ss,rfl,b,hL,Bf,ok,q⟩:=h;refine⟨_,(AU rfl (C6 (Fl (FZ (Ah WB c (A3 (qv 0) (A3 (qv 1) A4))))) (AU rfl YO) C9)),?_⟩;refine⟨_,rfl,_,rfl,a,tp,ns,t,r,g,ss,rfl,b,hL,Bf,λH' s1=>⟨_,rfl,?_⟩⟩;refine IF (by rw[ok];decide) ?_;exact q _ s1
def Y2:BG ["row","loops","loop"] ["row","loops"] (AQ W7):=by walk_at "z1"
def vB(F:AR K "check_loops" "check_loops" W7 f fd)(m:mg "check_loops"=some (.ref f)):
  AJ P w K mg ZB "check_loops" 4 ["row","loops"] (Ap di):=by
 refine Fz.hF (k:=3) F (by walk_at "bD2") m Y2 (by rintro _ _⟨tp,ns,a,Ls,rfl,hz,d,hg,rfl⟩;rfl) λc=>⟨_,(AL rfl (C6 (Ba MW (An Cp Ac (A3 (qv 1) A4)) (Xq (v:=.int 12) (by rfl) VN ⟨_,rfl⟩)) (AU rfl YO) C9)
   (AU rfl (EX EB rfl (Cz (qv 1)) (CY 2 Y2.nd) (AU rfl (Ej (Ah VO c (A3 (qv 0) (A3 (qv 2) A4)))))))),?_⟩
 rintro _ _⟨tp,ns,a,Ls,rfl,hz,d,hg,rfl⟩;show Ws [_,_,.any] _ _ _
 walk_at "ww"
 refine IF (by rw[AA];simp;omega) (Ct ?_);refine FK (λ_ i A5=>∃s,A5=[.sq tp (ns.map .str),.sq a (Ls.map Lp.P),s]) ?_
 walk_at "ww"
 refine⟨⟨_,rfl⟩,?_,?_⟩
 .rintro i p A5 b⟨s,rfl⟩;rw[AO]at b;obtain⟨l,D5,rfl⟩:=Option.map_eq_some_iff.mp b;have g:=hg l (BB D5);have:=C4.len g;refine Gp ?_;refine cb (yu ?_)
  walk_at "ww"
  refine⟨by omega,C4.FU g,⟨_,rfl⟩⟩
 .rintro A5⟨s,rfl⟩;exact⟨_,rfl,rfl⟩
def W0:BG ["number","above","lower_of","tried","upper"] ["number","above","lower_of","tried"] (AQ Qs):=by walk_at "z1"
def vz(n:Nat)(F:AR K "finds_upper" "finds_upper" Qs f fd)(m:mg "finds_upper"=some (.ref f))(Ip:AJ P w K mg ZB "finds_upper" (1+n) ["number","above","lower_of","tried"] (EU (Jy (n)))):
  AJ P w K mg ZB "finds_upper" (1+n+1) ["number","above","lower_of","tried"] (EU (Jy (n+1))):=by
 refine Fz.hM (k:=1+n) F (by walk_at "bD4") m W0 (by rintro _ _⟨ab,m,v,lo,s,tr,a2,rfl,_⟩;rfl) λy=>⟨_,(AL rfl (Ca (EX EB rfl (Cz (AZ Bj (qv 1) (qv 0))) (CY 4 W0.nd) (AU rfl (C6 (bj (Mx y) (qv 4) (qv 3)) (AL rfl (Y7 (Mx y) (qv 3) (qv 4) DU)
   (AU rfl (C6 (HP (Ba zR (AZ Bj (qv 2) (qv 4)) Vx) (IC (FZ (Ah (hk:=by omega) Ip y (A3 (AZ Bj (qv 2) (qv 4)) (A3 (qv 1) (A3 (qv 2) (A3 (qv 3) A4)))))))).pt (AL rfl (Nj (qv 0) (Uz (qv 2) (qv 4) set_list))
   (AU rfl (B1 DU))) C9))) C9))))
   (AU rfl (B1 DU))),?_⟩
 rintro _ R⟨ab,m,v,lo,s,tr,a2,rfl,ok,H⟩;show Ws [.is (nP v),.is (Ck ab m),s,.ow true (Co a2 tr),.any] _ _ _;have A:Kz.fu ab (n+1) v lo tr=Kz.Bu ab n v (ab v) lo tr:=by rw[Kz.fu]
 have E:∀{s2:Slot}{u:Nat}{T:List Nat}{nx:List Slot->Prop}{R:Ae},CV (n+1) ab m v lo T->u∉T->nx [.is (nP v),.is (Ck ab m),s2,.ow true (Co a2 (T++[u])),.is (nP u)]->Ws [.is (nP v),.is (Ck ab m),s2,.ow true (Co a2 T),.is (nP u)] (Qa (Ar 3) (Ar 4) (tC (.bl true))) nx R:=λ{s2 u T nx R}CT a h=>by
  refine bM (i:=3) (Ny (GN (Ee rfl ⟨true,a2,Cd T,_,rfl,rfl,by rw[AA];have:=CT.le;omega,YS CT.nd,Aq,AI rfl ⟨.inl (u:Int),rfl,?_⟩⟩)));rw[OV.Nz,xF a];exact h
 rcases H with⟨a1,rfl,rfl⟩|⟨rfl,st,rfl⟩
 .refine B0 (EC (FK (λxs i A5=>∃(T:List Nat)(s4:Slot),A5=[.is (nP v),.is (Ck ab m),.ow true (FO a1 lo),.ow true (Co a2 T),s4]/\CV (n+1) ab m v lo T/\Kz.Bu ab n v ((ab v).drop i) lo T=Kz.Bu ab n v (ab v) lo tr) (Dh (Cy (FA (CU rfl ⟨rfl,AI rfl ⟨_,_,rfl,ok.at,?_⟩⟩))))));refine⟨_,.inl ⟨rfl,⟨tr,_,rfl,ok,rfl⟩,?_,?_⟩⟩
  .rintro i p A5 t⟨T,s4,rfl,CT,c⟩;rw[AO]at t;obtain⟨u,x,rfl⟩:=Option.map_eq_some_iff.mp t;have l:=BB x;rw[dy x]at c;refine Gp ?_;show Ws [.is (nP v),.is (Ck ab m),.ow true (FO a1 lo),.ow true (Co a2 T),.is (nP u)] _ _ _;refine E8 (E4 (Zr (AI rfl (Ee (i:=3) rfl ⟨_,a2,_,.inl (u:Int),rfl,rfl,_,rfl,?_⟩))));rw[Nd]
   by_cases a:u∈T
   .rw[hU a,i3 (by decide)];exact Ct ⟨T,_,rfl,CT,by rw[<- c,cG a]⟩
   rw[iF a,i5 (by decide)];refine B0 (E CT a ?_);obtain⟨o,e1,g,J⟩:=qM (lo:=lo) (u:=u) (by rw[CT.len];exact CT.ab v u l);have r:∀{k:PV->Prop},k (Bv o)->Wp [.is (nP v),.is (Ck ab m),.ow true (FO a1 lo),.ow true (Co a2 (T++[u])),.is (nP u)] (B8 (Di K) (Ar 2) (Ar 4)) k:=λh=>Lf (O3 (Ee (i:=2) rfl ⟨a1,_,rfl,AI rfl ⟨(u:Int),u,.fz (Bv o),rfl,Y4 (by rw[AA];exact(List.getElem?_eq_some_iff.mp e1).1),by rw[AO,e1];rfl,_,rfl,h⟩⟩));have fin:∀{BC:Kz.Lo}{T':List Nat},BC.length=m->Kz.Bu ab n v (u::(ab v).drop (i+1)) lo T=(true,BC.set u (some v),T')->Ws [.is (nP v),.is (Ck ab m),.ow true (FO a1 BC),.ow true (Co a2 T'),.is (nP u)] (M5 (EY (Ar 0) (Oy (Ar 2) (Ar 4) Vt)) (G3 (tC (.bl true)))) (λA5=>∃(T:List Nat)(s4:Slot),A5=[.is (nP v),.is (Ck ab m),.ow true (FO a1 lo),.ow true (Co a2 T),s4]/\CV (n+1) ab m v lo T/\Kz.Bu ab n v ((ab v).drop (i+1)) lo T=Kz.Bu ab n v (ab v) lo tr) (.Ig λp t1 t2=>p=.bl (Kz.fu ab (n+1) v lo tr).1/\t1=FO a1 (Kz.fu ab (n+1) v lo tr).2.1/\t2=Co a2 (Kz.fu ab (n+1) v lo tr).2.2):=λ{BC T'}G I=>by
    refine B0 (km (i:=2) (AI rfl (Ee rfl ⟨true,a1,_,rfl,rfl,AI rfl ⟨u,rfl,by rw[AA,G];exact CT.ab v u l,?_⟩⟩)));rw[OV.Nz,qu];refine Y6 (i:=2) (j:=3) (by decide) rfl rfl (GN ?_);rw[A,<- c,I];exact⟨rfl,rfl,rfl⟩
   refine qT (t1:=FO a1 lo) (t2:=Co a2 (T++[u])) (new:=λC B=>[.is (nP v),.is (Ck ab m),.ow true C,.ow true B,.is (nP u)]) (yz rfl (IK (Zs (r (LB ⟨rfl,_,rfl,?_⟩)))));rw[qV];cases o with
   |none=>
    rw[i5 (by rfl),i5 rfl];exact fin CT.len (mE a g)
   |some w=>
    rw[i3 (λz=>by cases z)];have e:=CT.sub l a g;refine pK (tj (i:=2) (j:=3) (q:=0) (b:=false) (by decide) rfl rfl (λz=>by cases z) (YN (r (YN (AI rfl (uG (n:=2) rfl (.inl ⟨_,_,_,rfl⟩) (xQ (n:=3) rfl (.inl ⟨_,_,_,rfl⟩) (nI ⟨_,⟨ab,m,w,lo,_,T++[u],a2,rfl,e,.inl ⟨a1,rfl,rfl⟩⟩,?_⟩))))))));rintro p C B⟨rfl,rfl,rfl⟩;refine⟨rfl,rfl,_,rfl,?_⟩;cases d:(Kz.fu ab n w lo (T++[u])).1 with
    |true=>
     rw[i5 rfl];exact fin (e.yes d) (yp a g d)
    |false=>
     rw[i3 (by decide),(e.fin d).1];exact Ct ⟨_,_,rfl,CT.next e d,by rw[<- c,Yf a g d (e.fin d).1]⟩
  .rintro A5⟨T,s4,rfl,CT,c⟩;rw[AA,gI,Kz.Bu]at c;refine Y6 (i:=2) (j:=3) (by decide) rfl rfl (GN ?_);rw[A,<- c];exact⟨rfl,rfl,rfl⟩
 .refine B0 (EC (FK (λxs i A5=>∃(T:List Nat)(s4:Slot),A5=[.is (nP v),.is (Ck ab m),.is (.lst (lo.map Bv)),.ow true (Co a2 T),s4]/\CV (n+1) ab m v lo T/\Kz.Bu ab n v ((ab v).drop i) lo T=Kz.Bu ab n v (ab v) lo tr) (Dh (Cy (FA (CU rfl ⟨rfl,AI rfl ⟨_,_,rfl,ok.at,?_⟩⟩))))));refine⟨_,.inl ⟨rfl,⟨tr,_,rfl,ok,rfl⟩,?_,?_⟩⟩
  .rintro i p A5 t⟨T,s4,rfl,CT,c⟩;rw[AO]at t;obtain⟨u,x,rfl⟩:=Option.map_eq_some_iff.mp t;have l:=BB x;rw[dy x]at c;refine Gp ?_;show Ws [.is (nP v),.is (Ck ab m),.is (.lst (lo.map Bv)),.ow true (Co a2 T),.is (nP u)] _ _ _;refine E8 (E4 (Zr (AI rfl (Ee (i:=3) rfl ⟨_,a2,_,.inl (u:Int),rfl,rfl,_,rfl,?_⟩))));rw[Nd]
   by_cases a:u∈T
   .rw[hU a,i3 (by decide)];exact Ct ⟨T,_,rfl,CT,by rw[<- c,cG a]⟩
   rw[iF a,i5 (by decide)];refine B0 (E CT a ?_);obtain⟨w,g,D⟩:=lC st l;have e1:(lo.map Bv)[u]?=some (.int w):=by rw[AO,Kz.join_some g];rfl
   have r:∀{k:PV->Prop},k (.int w)->Wp [.is (nP v),.is (Ck ab m),.is (.lst (lo.map Bv)),.ow true (Co a2 (T++[u])),.is (nP u)] (B8 (Di K) (Ar 2) (Ar 4)) k:=λh=>FA (CU rfl ⟨rfl,AI rfl ⟨_,_,rfl,EE e1,h⟩⟩);refine zr (i:=3) (kD rfl (IK (Zs (r (LB ⟨rfl,_,rfl,?_⟩)))));rw[i3 (λz=>by cases z)];have e:=CT.sub l a g;have d:=e.stuck D;refine qh (aj rfl (MC (r (MC (AI rfl (MC (AI rfl (d3 rfl (fH ⟨_,⟨ab,m,w,lo,_,T++[u],a2,rfl,e,.inr ⟨rfl,D,rfl⟩⟩,?_⟩)))))))));rintro p t'⟨rfl,rfl⟩;refine⟨_,_,rfl,_,rfl,?_⟩;rw[i3 (by decide)];exact Ct ⟨_,_,rfl,CT.next e d,by rw[<- c,Yf a g d (e.fin d).1]⟩
  .rintro A5⟨T,s4,rfl,CT,c⟩;rw[AA,gI,Kz.Bu]at c;refine rZ (i:=3) rfl (GN ?_);rw[A,<- c];exact⟨rfl,rfl⟩
def jG(F:AR K "finds_upper" "finds_upper" Qs f fd)(m:mg "finds_upper"=some (.ref f)): AJ P w K mg ZB "finds_upper" 14 ["number","above","lower_of","tried"] (EU (Jy 13)):=by
 have z:∀n:Nat,AJ P w K mg ZB "finds_upper" (1+n) ["number","above","lower_of","tried"] (EU (Jy (n))):=λn=>by
  induction n with
  |zero=>exact AJ.mk F (F.binds (by walk_at "bD4")) m (F.ER (k:=0) W0 (λvs H Q E h=>(Fz.Yn (eN) h).elim) (λAd A outer s H vs Q E b h=>(Fz.Yn (eN) h).elim))
  |succ n a=>exact vz  n F m a
 exact z 13
def Tg:BG ["above","lower_of","number"] ["above"] (AQ Pq):=by walk_at "z1"
def ky:=Sc [(".0",.local),("uppers",.local)]
def iG:Cg ["above","lower_of","number"] (AQ Pq) ky "uppers" [] []:=by walk_at "z2"
def k4(F:AR K "greatest_pairing" "greatest_pairing" Pq f fd)(m:mg "greatest_pairing"=some (.ref f))(Ip:AJ P w K mg ZB "finds_upper" 14 ["number","above","lower_of","tried"] (EU (Jy 13))):
  AJ P w K mg ZB "greatest_pairing" 15 ["above"] (Ap aQ):=by
 refine Fz.hF (k:=14) F (by walk_at "bD1") m Tg (by rintro _ _⟨ab,m,rfl,_,rfl⟩;rfl) λb=>⟨_,(AL rfl (L9 (i:=1) Tg.nd rfl (Or.inl rfl) rfl iG (Cz (qv 0)) (λ_ _ _ _=>by exact FG) (λ_ _ _ _=>by exact Vx))
   (AL rfl (Ca (EX EB rfl (IJ rfl Cn (A3 (An Cp Ac (A3 (qv 0) A4)) A4)) (CY 2 Tg.nd) (AU rfl (Ej (Ah Ip b (A3 (qv 2) (A3 (qv 0) (A3 (qv 1) (A3 U4 A4)))))))))
   (AU rfl (B1 (qv 1))))),?_⟩
 rintro _ _⟨ab,m,rfl,ok,rfl⟩;show Ws [.is (Ck ab m),.any,.any] _ _ _;have g:=ok.Ew;refine B0 (HM (JJ (λ_=>true) (λ_=>PV.A6) (Dh (Cy (AI rfl ⟨_,.inl ⟨rfl,by rw[AA,D2];omega,λ_ _=>G0 rfl,λ_ _ _=>LB rfl,?_⟩⟩)))));rw[List.filter_eq_self.mpr λ_ _=>rfl,Ce,show((List.range m).map ((λ_=>PV.A6) ∘ λv=>PV.lst ((ab v).map nP)))=(Kz.gp ab m 13 0).map Bv by rw[Kz.gp,List.map_replicate];exact List.map_const' .. |>.trans (by rw[D2];rfl)];refine lr 1 rfl λa=>?_;show Ws [.is (Ck ab m),.ow false (FO a (Kz.gp ab m 13 0)),.any] _ _ _;refine B0 (EC (FK (λ_ i A5=>∃s2,A5=[.is (Ck ab m),.ow false (FO a (Kz.gp ab m 13 i)),s2]) (KW (Hq (CU rfl ⟨(m:Int),by rw[AA,D2],by omega,by omega,⟨_,rfl⟩,?_,?_⟩)))))
 .rintro i p A5 c⟨s2,rfl⟩;obtain⟨hi,rfl⟩:=Ox c;rw[GA]at hi;refine Gp ?_;refine jt (i:=1) rfl (AI rfl (AI rfl λa2=>⟨_,⟨ab,m,i,_,_,[],a2,rfl,yZ ok hi,.inl ⟨a,rfl,rfl⟩⟩,?_⟩));rintro p e d⟨rfl,rfl,rfl⟩;exact⟨rfl,rfl,_,rfl⟩
 .rintro A5⟨s2,rfl⟩;rw[Jq,GA];refine uv 1 rfl (Vk (i:=1) rfl rfl)
def vD:BG ["loop","other"] ["loop","other"] (AQ Vh):=by walk_at "z1"
def xi(F:AR K "has_all_of" "has_all_of" Vh f fd)(m:mg "has_all_of"=some (.ref f)):
  AJ P w K mg ZB "has_all_of" 1 ["loop","other"] (Ap dr):=by
 refine Fz.hF (k:=0) F (by walk_at "bD2") m vD (by rintro _ _⟨l1,l2,rfl,_,_,rfl⟩;rfl) λo=>⟨_,(AU rfl (B1 (Ki Hg (An jx Ac (A3 (BF kM (Dm (NA rfl) GI (A3 (AZ BN (qv 1) AB) A4)) (Dm (NA rfl) GI (A3 (AZ BN (qv 0) AB) A4))) A4)) AB))),?_⟩
 rintro _ _⟨⟨e,g1,c⟩,⟨d,i,b⟩,rfl,h,g,rfl⟩;have l:c.length<=40:=h;have j:b.length<=40:=g;show Ws [.is (.tup [.str e,.int g1,.tup (c.map .str)]),.is (.tup [.str d,.int i,.tup (b.map .str)])] _ _ _;refine FC (fe (qP ?_))
 walk_at "ww"
 refine⟨by omega,?_⟩
 walk_at "ww"
 refine⟨by omega,λn a=>?_⟩
 walk_at "ww"
 exact ib PV.bl (decide_eq_decide.mpr ⟨λz=>a.mp (Int.ofNat_inj.mp z),λz=>by rw[a.mpr z];rfl⟩)
def pT:BG ["loops","number","upper"] ["loops","number","upper"] (AQ UT):=by walk_at "z1"
def mH(F:AR K "is_above" "is_above" UT f fd)(m:mg "is_above"=some (.ref f)):
  AJ P w K mg ZB "is_above" 2 ["loops","number","upper"] (Ap fT):=by
 refine Fz.hF (k:=1) F (by walk_at "bD3") m pT (by rintro _ _⟨tp,Ls,n,u,rfl,_,_,_,rfl⟩;rfl) λh=>⟨_,(AL rfl (C6 (Ba (TX h.Hz) (AZ BN (AZ (Bj.or BN) (qv 0) (qv 1)) AB) (AZ BN (AZ (Bj.or BN) (qv 0) (qv 2)) AB)) (AU rfl (B1 (Ki Nu (qv 1) (qv 2)))) C9)
   (AU rfl (B1 (Ah WR h (A3 (AZ (Bj.or BN) (qv 0) (qv 2)) (A3 (AZ (Bj.or BN) (qv 0) (qv 1)) A4)))))),?_⟩
 rintro _ _⟨tp,Ls,n,u,rfl,q,p,o,rfl⟩;obtain⟨a,ea⟩:∃a,Ls[n]?=some a:=⟨_,AK p⟩;obtain⟨b,d⟩:∃b,Ls[u]?=some b:=⟨_,AK o⟩;have l:=q.2 a (BB ea);have j:=q.2 b (BB d);have g:BR (Ls.map Lp.P) (n:Int)=some a.P:=EE (by rw[AO,ea];rfl);have e:BR (Ls.map Lp.P) (u:Int)=some b.P:=EE (by rw[AO,d];rfl);have i:Bc Ls n u=if a.cs=b.cs then decide (n<u)else decide (D9 b a):=by unfold Bc;rw[ea,d]
 show Ws [.sq tp (Ls.map Lp.P),.is (.int n),.is (.int u)] _ _ _
 walk_at "ww"
 refine⟨_,_,rfl,g,_,.inr ⟨rfl,rfl,CL ⟨_,_,rfl,rfl,?_⟩⟩⟩
 walk_at "ww"
 refine⟨_,_,rfl,e,_,.inr ⟨rfl,rfl,CL ⟨_,_,rfl,rfl,?_⟩⟩⟩
 walk_at "ww"
 refine CC (λc=>?_) (λc=>?_)
 .rw[i,i5 (lx c)]
  walk_at "ww"
  exact ib PV.bl (decide_eq_decide.mpr Int.ofNat_lt)
 .rw[i,i3 λz=>c (hU z)]
  walk_at "ww"
  refine FC (wp_call (BQ (TM (Fx rfl (AI rfl ⟨_,_,rfl,e,BQ (TM (Fx rfl (AI rfl ⟨_,_,rfl,g,CI ⟨_,⟨b,a,rfl,j,l,rfl⟩,?_⟩⟩)))⟩)))));rintro _ rfl;rfl
def yB:BG ["loops","number"] ["loops","number"] (AQ Ql):=by walk_at "z1"
def vf:=Sc [(".0",.local),("upper",.local),("is_above",.globalImplicit),("loops",.free),("number",.free)]
def jc:Cg ["loops","number"] (AQ Ql) vf "upper" ["loops","number"] [0,1]:=by walk_at "z2"
def qG(F:AR K "numbers_above" "numbers_above" Ql f fd)(m:mg "numbers_above"=some (.ref f)):
  AJ P w K mg ZB "numbers_above" 3 ["loops","number"] (Ap fS):=by
 refine Fz.hF (k:=2) F (by walk_at "bD2") m yB (by rintro _ _⟨tp,Ls,n,rfl,_,_,rfl⟩;rfl) λb=>⟨_,(AU rfl (B1 (GW rfl jc (IJ rfl Cn (A3 (An Cp Ac (A3 (qv 0) A4)) A4)) (λ_ _ _ _=>by exact(Mk (FZ (Ah VT b (A3 (qv 0) (A3 (qv 1) (A3 (qv 2) A4))))))) (λ_ _ _ _=>by exact(qv 2))))),?_⟩
 rintro _ _⟨tp,Ls,n,rfl,q,c,rfl⟩;have hz:=q.1;show Ws [.sq tp (Ls.map Lp.P),.is (.int n)] _ _ _;refine N1 (J5 (λu:Nat=>PV.int u) (Bc Ls n) (λu:Nat=>PV.int u) (KW (Hq (Fx rfl ⟨(Ls.length:Int),by rw[AA],by omega,by omega,List.range Ls.length,rfl,by rw[D2];omega,λu a=>?_,λu _ _=>AI rfl rfl,rfl⟩))) Qb);have d:=List.mem_range.mp a
 walk_at "ww"
 show Wp [.sq tp (Ls.map Lp.P),.is (.int n),.is (.int u)] _ _;refine wp_call (FN (Fx rfl (BQ (AI rfl (BQ (AI rfl (CI ⟨_,⟨tp,Ls,n,u,rfl,q,c,d,rfl⟩,?_⟩)))))));rintro _ rfl;exact⟨_,rfl,rfl⟩
def dI:BG ["lower_of","top","chain"] ["lower_of","top"] (AQ SV):=by walk_at "z1"
def k9(F:AR K "chain_down" "chain_down" SV f fd)(m:mg "chain_down"=some (.ref f)):
  AJ P w K mg ZB "chain_down" 1 ["lower_of","top"] (Ap cF):=by
 refine Fz.hF (k:=0) F (by walk_at "bD2") m dI (by rintro _ _⟨lo,top,ch,rfl,_,_,_,rfl⟩;rfl) λg=>⟨_,(AL rfl (BD 2 dI.nd (Ge (A3 (qv 1) A4)))
   (AL rfl (Ca (WY EB (Ba tX (AZ Bj (qv 0) (AZ Bj (qv 2) (Zp bS AB))) Vx) (AU rfl (Ej (Hj IZ L5 L6 JI (qv 2) (A3 (AZ Bj (qv 0) (AZ Bj (qv 2) (Zp bS AB))) A4))))))
   (AU rfl (B1 (qv 2))))),?_⟩
 rintro _ _⟨lo,top,ch,rfl,hz,hd,l,rfl⟩;show Ws [.sq false (lo.map Bv),.is (.int top),.any] _ _ _
 walk_at "ww"
 refine⟨by simp,?_⟩;refine B0 (EC (oR (λm A5=>∃(pre a:List Nat)(x:Nat),A5=[.sq false (lo.map Bv),.is (.int top),.own ((pre++[x]).map λn:Nat=>PV.int n)]/\Dn lo x a/\pre++a=ch/\m=a.length) ch.length ⟨[],ch,top,rfl,hd,rfl,rfl⟩ ?_));rintro m _⟨pre,a,x,rfl,hx,b,rfl⟩;have c:∀{k:PV->Prop}{o:Option Nat},lo[x]?=some o->k (Bv o)->Wp [.sq false (lo.map Bv),.is (.int top),.own ((pre++[x]).map λn:Nat=>PV.int n)] (B8 (Di K) (Ar 0) (B8 (Di K) (Ar 2) (OX (rU λi=>V.int (-i)) (tC (V.int 1))))) k:=λe h=>FA (Fx rfl ⟨rfl,FA (PJ rfl ⟨rfl,YF (CL ⟨_,rfl,_,_,rfl,yi,_,_,rfl,EE (by rw[AO,e];rfl),h⟩)⟩)⟩);cases hx with
 |one e=>
  refine IK (az (c e (LB ⟨rfl,false,rfl,?_⟩)));rw[i3 (by decide)];subst b
  walk_at "ww"
  try rfl
 |@more _ y r e d=>
  refine IK (az (c e (LB ⟨rfl,true,rfl,?_⟩)));rw[i5 rfl];have j:pre.length+(r.length+1)<=12:=by have q:=ib List.length b;rw[BX,BA]at q;omega
  refine SO rfl (c e ⟨by rw[AA,BX,Ra];omega,r.length,by rw[BA];omega,pre++[x],r,y,?_,d,by rw[<- b,Bh];rfl,rfl⟩);show[_,_,Slot.own _]=[_,_,Slot.own _];rw[EK (l₁:=pre++[x])];rfl
def oz:BG ["row","loops","chain"] ["row","loops","chain"] (AQ Bz):=by walk_at "z1"
def aI(s:Stmt):Scope:=match Dy s with
 | [.Return (some (.Call _ _ [⟨_,.Lambda _ _ sc _,_⟩] _)) _]=>sc
 |_=>{ kind:=.function,names:=[],isGenerator:=false,isCoroutine:=false }
noncomputable def kq:Scope:={ kind:=.function,names:=[(".0",.local),("number",.local),("loops",.free),("thing",.free)],isGenerator:=false,isCoroutine:=false }
def kF:RN ["row","loops","chain"] (AQ Bz) (aI Bz) "thing" ["chain","loops"] [2,1]:=⟨rfl,by decide +kernel,rfl,by decide +kernel,λ_ _=>rfl,λ_=>rfl,rfl,by decide +kernel,by decide +kernel,by decide +kernel,by decide +kernel⟩
def ip:PZ ["chain","loops","thing"] (aI Bz) kq "number" ["loops","thing"] [1,2]:=by walk_at "z2"
def y3(F:AR K "line_of" "line_of" Bz f fd)(m:mg "line_of"=some (.ref f)):
  AJ P w K mg ZB "line_of" 3 ["row","loops","chain"] (Ap (fk T (Cm Bz))):=by
 refine Fz.hL (k:=2) F VI (by walk_at "bD3") m oz (by rintro _ _⟨tr,tp,ns,Ls,ch,rfl,_,_,_,_,rfl⟩;rfl) λj=>⟨_,(AU rfl (B1 (o6 (k:=0) (c:=c) (P:=T) (q:=Kl) (x:="thing") (tb:=CO (Kh K) (Ag (GV (ND K (Ar 0)) [1,2] (KC (B8 (Lj K false) (Ar 1) (B8 (Hr K) (B8 (λx y H Q=>Di K x y H Q∨Hr K x y H Q) (Ar 0) (Ar 2)) (tC (.int 2))))) (Ar 2)) BK)) j rfl rfl Dd (A3 (qv 0) A4) kF rfl rfl rfl hC rfl rfl bA Hw (show((("line_of":Str) ++ ".<locals>.") ++ "<lambda>":Str)=Kl by decide +kernel) rfl (λ_ _ _ _ _=>rfl) λf cd s H=>by
  exact An (show Br _ (.builtin "len") (Kh K)from Cp) Ac (A3 (kJ rfl ip (by exact Cz (qv 0)) (λ_ _ _ _=>by exact Mk (Ba (show Aw _ (compareOp .In) (Lj K false)from R1) (qv 1) (AZ (show Dv _ (Hr K)from BN) (AZ (show Dv _ (λx y H Q=>Di K x y H Q∨Hr K x y H Q)from Bj.or BN) (qv 0) (qv 2)) AB))) (λ_ _ _ _=>by exact qv 2)) A4)
  ))),?_⟩
 rintro _ _⟨tr,tp,ns,Ls,ch,rfl,hz,hL,r,o,rfl⟩;show Ws [.raw (Ff T (Cm Bz) tr ns),.sq tp (Ls.map Lp.P),.is (.lst (ch.map λn:Nat=>PV.int n))] _ _ _;refine N1 (wQ (jp:=0) (ZN Ls ch) rfl (λF v h=>h.2) (FN (Ta (V8 rfl ⟨tr,_,rfl,CI ⟨tr,ns.map .str,rfl,by rw[AA];omega,λx hx=>?_,λg d=>?_⟩⟩))))
 .obtain⟨x,_,rfl⟩:=List.mem_map.mp hx;show Wp [.is (.lst (ch.map λn:Nat=>PV.int n)),.sq tp (Ls.map Lp.P),.is (.str x)] _ _;refine Hq (C5 (Cs (J5 (λn:Nat=>PV.int n) (λn=>match Ls[n]? with|some l=>decide (x∈l.cs)|none=>false) (λn:Nat=>PV.int n) (Dh (Cy (AI rfl ⟨_,.inl ⟨rfl,ch,rfl,by omega,λn p=>?_,λn _ _=>AI rfl rfl,?_⟩⟩))) (λa b e=>by injection e with e;exact Int.ofNat.inj e))))
  .have hi:=o n p;obtain⟨l,el⟩:∃l,Ls[n]?=some l:=⟨_,AK hi⟩;rw[el];show Wt [.sq tp (Ls.map Lp.P),.is (.str x),.is (.int n)] _ _
   walk_at "ww"
   refine⟨_,l.P,rfl,EE (by rw[AO,el];rfl),_,.inr ⟨rfl,rfl,CL ⟨_,_,rfl,rfl,_,.inr ⟨rfl,l.cs,rfl,_,rfl,rfl⟩⟩⟩⟩
  .exact⟨_,.inl ⟨rfl,by rw[AA];rfl⟩⟩
 .obtain⟨ms,e,i⟩:=uV g;refine⟨rfl,ms,e,i,?_⟩;rw[e]at d;exact(Rh (f:=PV.str)).mp d
def OC:BG ["row","loops","chains","line_with","line","chain","number"] ["row","loops","chains"] (AQ RK):=by walk_at "z1"
def lV:=Sc [(".0",.local),("number",.local),("loop",.local),("len",.globalImplicit),("line_with",.free),("row",.free)]
def mz:Iq ["row","loops","chains","line_with","line","chain","number"] (AQ RK) lV "number" "loop" ["line_with","row"] [3,0]:=⟨rfl,by decide +kernel,by decide +kernel,rfl,rfl,rfl,by decide +kernel,by decide +kernel,by decide +kernel,by decide +kernel⟩
def xq(F:AR K "seats_of" "seats_of" RK f fd)(m:mg "seats_of"=some (.ref f)):
  AJ P w K mg ZB "seats_of" 1 ["row","loops","chains"] (Ap ck):=by
 refine Fz.hF (k:=0) F (by walk_at "bD3") m OC (by rintro _ _⟨tr,tp,ns,Ls,AM,f,rfl,_,rfl⟩;rfl) λo=>⟨_,(AL rfl (BD 3 OC.nd U4)
   (AL rfl (Ca (EX EB rfl (fq rfl Qg (A3 (qv 2) A4)) (MU rfl (Fw (CY 4 OC.nd) (Fw (CY 5 OC.nd) NR))) (AU rfl (EX EB rfl (Cz (qv 5)) (CY 6 OC.nd) (AU rfl (Y7 (Mx o) (qv 3) (qv 6) (qv 4)))))))
   (AU rfl (B1 (sQ rfl mz (fq rfl Qg (A3 (qv 1) A4)) (λ_ _ _ _=>by exact(GF (A3 (lJ (Mx o) (qv 0) (qv 2) (λ_ _=>rfl)) (A3 (BF Qc (An (show Br _ (.builtin "len") (Kh K)from Cp) Ac (A3 (qv 1) A4)) (An (show Br _ (.builtin "len") (Kh K)from Cp) Ac (A3 (AZ (show Dv _ (Hr K)from BN) (qv 3) AB) A4))) A4))))))))),?_⟩
 rintro _ _⟨tr,tp,ns,Ls,AM,f,rfl,ok,rfl⟩;show Ws [.sq tr (ns.map .str),.sq tp (Ls.map Lp.P),.is (.lst (AM.map CD)),.any,.any,.any,.any] _ _ _;have s:=ok.len;refine B0 (Nt (bL λa=>?_));refine B0 (EC (FK (λ_ i A5=>∃s4 d b,A5=[.sq tr (ns.map .str),.sq tp (Ls.map Lp.P),.is (.lst (AM.map CD)),.ow false (JV a f (AM.take i).flatten),s4,d,b]) (SS (Cy (AI rfl ⟨_,.inl ⟨rfl,⟨_,_,_,rfl⟩,?_,?_⟩⟩)))))
 .rintro i p A5 c⟨s4,d,b,rfl⟩;obtain⟨q,eq,rfl⟩:=yG c;rw[AO]at eq;obtain⟨ch,g,rfl⟩:=Option.map_eq_some_iff.mp eq;refine WL ⟨_,_,rfl,?_⟩;show Ws [.sq tr (ns.map .str),.sq tp (Ls.map Lp.P),.is (.lst (AM.map CD)),.ow false (JV a f (AM.take i).flatten),.is (nP i),.is (CD ch),b] _ _ _;refine FK (λ_ j A5=>∃b,A5=[.sq tr (ns.map .str),.sq tp (Ls.map Lp.P),.is (.lst (AM.map CD)),.ow false (JV a f ((AM.take i).flatten++ch.take j)),.is (nP i),.is (CD ch),b]) (Dh (Cy (AI rfl ⟨_,.inl ⟨rfl,⟨_,by rw[List.take_zero,GB]⟩,?_,?_⟩⟩)))
  .rintro j p A5 c⟨b,rfl⟩;rw[AO]at c;obtain⟨n,e,rfl⟩:=Option.map_eq_some_iff.mp c;obtain⟨r,A⟩:=wI g e;have nd:=ok.nd;rw[A]at nd s;obtain⟨h,u,t⟩:=List.nodup_append.mp nd;have nx:n∉(AM.take i).flatten++ch.take j:=λz=>t n z n Aj rfl;rw[BX]at s;refine Gp ?_;refine bM (i:=3) (Ny (AI rfl (Ee rfl ⟨false,a,Cd ((AM.take i).flatten++ch.take j),_,rfl,rfl,by rw[AA,AA];omega,YS h,Aq,AI rfl ⟨.inl (n:Int),rfl,.is (nP n),?_⟩⟩)));rw[OV.Nz,l8 nx (ok.at_ i ch g n (BB e)),Bh,<- qZ e];rfl
  .rintro A5⟨b,rfl⟩;rw[AA,Eg];exact⟨_,_,_,by rw[oY g]⟩
 .rintro A5⟨s4,d,b,rfl⟩;rw[Nk,AA,Eg];refine N1 (fG 3 rfl (xY (λp:Lp×Nat=>PV.int (p.2:Int)) (λp=>p.1.P) (λp=>CP ((f p.2:Int),(ns.length:Int) - (p.1.cs.length:Int))) (SS (SR rfl ⟨Ls.zipIdx,?_,by rw[ZAh];have:=ok.Ew;omega,λp c=>?_,?_⟩)) λx y e1 B=>?_))
  .exact uE Ls
  .have v:=ZG c;obtain⟨l,n⟩:=p;show Wp [.is (JV a f AM.flatten).pv,.sq tr (ns.map .str),.is (nP n),.is l.P] _ _;rw[wB];refine Qw (Jn (x8 (AI rfl ⟨_,_,rfl,AI rfl ⟨.inl (n:Int),_,rfl,valN ((ok.all n).mp (List.getElem?_eq_some_iff.mp v).1),?_⟩⟩)))
   walk_at "ww"
   rw[AA,AA];exact⟨by show 2<=100000;decide,rfl⟩
  .exact⟨T2 _ (λ_=>rfl) _,by rw[Ce];rfl⟩
  .obtain⟨l1,h⟩:=x;obtain⟨l2,u⟩:=y;injection e1 with e1
   cases Int.ofNat_inj.mp e1;cases rM B;rfl
def fD:BG ["chain","tried","untried"] ["chain","tried"] (AQ PY):=by walk_at "z1"
def zX:=Sc [(".0",.local),("number",.local),("tried",.free)]
def yf:Cg ["chain","tried","untried"] (AQ PY) zX "number" ["tried"] [1]:=by walk_at "z2"
def vT(F:AR K "uppermost_untried" "uppermost_untried" PY f fd)(m:mg "uppermost_untried"=some (.ref f)):
  AJ P w K mg ZB "uppermost_untried" 1 ["chain","tried"] (Ap Zo):=by
 refine Fz.hF (k:=0) F (by walk_at "bD2") m fD (by rintro _ _⟨ch,T,x,r,rfl,_,_,rfl⟩;rfl) λc=>⟨_,(AL rfl (L9 (i:=2) fD.nd rfl (Or.inl rfl) rfl yf (Cz (qv 0)) (λ_ _ _ _=>by exact(Mk (bj (Mx c) (qv 1) (qv 0)))) (λ_ _ _ _=>by exact(qv 1)))
   (AU rfl (B1 (AZ Bj (qv 2) AB)))),?_⟩
 rintro _ _⟨ch,T,x,r,rfl,hz,d,rfl⟩;show Ws [.is (CD ch),.is (.As (Cd T) (T.map λ_=>.bl true)),.any] _ _ _;refine B0 (HM (J5 nP (λy=>decide (y∉T)) nP (Dh (Cy (AI rfl ⟨_,.inl ⟨rfl,ch,rfl,by omega,λy g=>?_,λy _ _=>AI rfl rfl,?_⟩⟩))) (λa b e=>by injection e with e;exact Int.ofNat_inj.mp e)))
 .refine E4 (jd (AI rfl (AI rfl ⟨_,_,.inl (y:Int),rfl,rfl,_,rfl,?_⟩)));rw[Nd,decide_not]
 .rw[d];exact FC (FA (PJ rfl ⟨rfl,CL ⟨_,_,rfl,EE (j:=0) rfl,rfl⟩⟩))
def V2:BG ["above","lower_of","chains","tried","chain"] ["above","lower_of","chains"] (AQ Qt):=by walk_at "z1"
def j7:=Sc [(".0",.local),("chain",.local),("uppermost_untried",.globalImplicit),("tried",.free)]
def um:Cg ["above","lower_of","chains","tried","chain"] (AQ Qt) j7 "chain" ["tried"] [3]:=by walk_at "z2"
def sM(F:AR K "apart_of" "apart_of" Qt f fd)(m:mg "apart_of"=some (.ref f))(Ip:AJ P w K mg ZB "finds_upper" 14 ["number","above","lower_of","tried"] (EU (Jy 13))):
  AJ P w K mg ZB "apart_of" 15 ["above","lower_of","chains"] (Ap Zz):=by
 refine Fz.hF (k:=14) F (by walk_at "bD3") m V2 (by rintro _ _⟨ab,m,lo,AM,rfl,_,rfl⟩;rfl) λc=>⟨_,(AL rfl (BD 3 V2.nd U4)
   (AL rfl (Ca (EX EB rfl (Cz (qv 2)) (CY 4 V2.nd) (AU rfl (Ej (Ah Ip c (A3 (AZ Bj (qv 4) AB) (A3 (qv 0) (A3 (qv 1) (A3 (qv 3) A4)))))))))
   (AU rfl (B1 (An oC Dd (A3 (GW rfl um (Cz (qv 2)) (λ_ _ _ _=>by exact FG) (λ_ _ _ _=>by exact(Ah Ub c (A3 (qv 1) (A3 (qv 0) A4))))) A4)))))),?_⟩
 rintro _ _⟨ab,m,lo,AM,rfl,ok,rfl⟩;show Ws [.is (Ck ab m),.is (.lst (lo.map Bv)),.is (.lst (AM.map CD)),.any,.any] _ _ _;refine B0 (Nt (bL λa=>?_));show Ws [_,_,_,.ow false (Co a []),.any] _ _ _;refine B0 (EC (FK (λxs i A5=>∃s4,A5=[.is (Ck ab m),.is (.lst (lo.map Bv)),.is (.lst (AM.map CD)),.ow false (Co a (Kz.tryAll ab 13 lo ((AM.take i).map Fe) [])),s4]) (Dh (Cy (AI rfl ⟨_,.inl ⟨rfl,⟨_,rfl⟩,?_,?_⟩⟩)))))
 .rintro i p A5 b⟨s4,rfl⟩;rw[AO]at b;obtain⟨ch,l,rfl⟩:=Option.map_eq_some_iff.mp b;obtain⟨t,r,rfl,o,st,d,_⟩:=ok.ch ch (BB l);refine Gp ?_;have hd:BR ((t::r).map nP) 0=some (nP t):=EE (j:=0) rfl;refine nX (i:=3) (aj rfl (MC (FA (CU rfl ⟨rfl,CL ⟨_,_,rfl,hd,MC (AI rfl (MC (AI rfl (d3 rfl (fH ⟨_,⟨ab,m,t,lo,_,_,a,rfl,ok.fu o,.inr ⟨rfl,st,rfl⟩⟩,?_⟩)))))⟩⟩))));rintro p t'⟨rfl,rfl⟩;refine⟨_,_,rfl,.is (CD (t::r)),?_⟩;rw[zh l,Z4];rfl
 .rintro A5⟨s4,rfl⟩;rw[AA,Eg];generalize u:Kz.tryAll ab 13 lo (AM.map Fe) []=T;refine N1 (u9 (C5 (Cs (fG 3 rfl (J5 CD (λ_=>true) (λch=>nP (JS T ch)) (Dh (Cy (AI rfl ⟨_,.inl ⟨rfl,AM,rfl,by have:=ok.cl;omega,λ_ _=>G0 rfl,λch g _=>?_,?_⟩⟩))) cp)))))
  .show Wp [.is (Co a T).pv,.is (CD ch)] _ _;rw[zi];obtain⟨r,e⟩:=ok.first g;obtain⟨_,_,_,_,_,_,Lq⟩:=ok.ch ch g;rw[u]at e;refine wp_call (BQ (AI rfl (BQ (AI rfl (CI ⟨_,⟨ch,T,_,r,rfl,Lq,e,rfl⟩,?_⟩)))));rintro _ rfl;rfl
  .rw[List.filter_eq_self.mpr λ_ _=>rfl];refine⟨T2 _ (λ_=>rfl) _,_,.inl ⟨rfl,(AM.map λch=>((JS T ch:Nat):Int)),by rw[Ce];rfl,by rw[AA];have:=ok.cl;omega,λCb b s=>?_⟩⟩;have e0:∀z∈Cb,((z.toNat:Nat):Int)=z:=λz hz=>by
    obtain⟨ch,_,rfl⟩:=List.mem_map.mp (b.mem_iff.mp hz);exact ib _ (GA _)
   refine⟨Cb.map Int.toNat,?_,?_,?_⟩
   .rw[Ce];exact MO λz hz=>ib PV.int (e0 z hz).symm
   .have q:=b.map Int.toNat;rw[Ce]at q;exact q
   .rw[Rh];exact s.imp_of_mem λ{x y}hx n h=>by have:=e0 x hx;have:=e0 y n;omega
def OE:BG ["row","loops","above","lower_of","chains","lines"] ["row","loops"] (AQ M7):=by walk_at "z1"
def uc:=Sc [(".0",.local),("number",.local),("numbers_above",.globalImplicit),("loops",.free)]
def mi:Cg ["row","loops","above","lower_of","chains","lines"] (AQ M7) uc "number" ["loops"] [1]:=by walk_at "z2"
def tR:=Sc [(".0",.local),("top",.local),("chain_down",.globalImplicit),("lower_of",.free)]
def qk:Cg ["row","loops","above","lower_of","chains","lines"] (AQ M7) tR "top" ["lower_of"] [3]:=by walk_at "z2"
def rX:=Sc [(".0",.local),("chain",.local),("line_of",.globalImplicit),("loops",.free),("row",.free)]
def r9:Cg ["row","loops","above","lower_of","chains","lines"] (AQ M7) rX "chain" ["loops","row"] [1,0]:=by walk_at "z2"
def ux(F:AR K "lines_of" "lines_of" M7 f fd)(m:mg "lines_of"=some (.ref f)):
  AJ P w K mg ZB "lines_of" 16 ["row","loops"] (Ap (Zd T (Cm Bz))):=by
 refine Fz.hF (k:=15) F (by walk_at "bD2") m OE (by rintro _ _⟨tr,tp,ns,Ls,rfl,_,_,_,rfl⟩;rfl) λq=>⟨_,(AL rfl (Ej (Ah WE q (A3 (qv 0) (A3 (qv 1) A4))))
   (AL rfl (L9 (i:=2) OE.nd rfl (Or.inl rfl) rfl mi (IJ rfl Cn (A3 (An Cp Ac (A3 (qv 1) A4)) A4)) (λ_ _ _ _=>by exact FG) (λ_ _ _ _=>by exact(Ah Uh q (A3 (qv 0) (A3 (qv 1) A4)))))
   (AL rfl (BD 3 OE.nd (Ah SX q (A3 (qv 2) A4)))
   (AL rfl (L9 (i:=4) OE.nd rfl (Or.inl rfl) rfl qk (IJ rfl Cn (A3 (An Cp Ac (A3 (qv 1) A4)) A4)) (λ_ _ _ _=>by exact(Mk (Ba (show Aw _ (compareOp .NotIn) (Fz.Vo K)from(Fz.uQ q.units)) (qv 1) (qv 0)))) (λ_ _ _ _=>by exact(Ah UJ q (A3 (qv 0) (A3 (qv 1) A4)))))
   (AL rfl (L9 (i:=5) OE.nd rfl (Or.inl rfl) rfl r9 (Cz (qv 4)) (λ_ _ _ _=>by exact FG) (λ_ _ _ _=>by exact(Ah Tr q (A3 (qv 1) (A3 (qv 0) (A3 (qv 2) A4))))))
   (AU rfl (B1 (GF (A3 (qv 5) (A3 (Ah Rv q (A3 (qv 0) (A3 (qv 1) (A3 (qv 4) A4)))) (A3 (Ah Sm q (A3 (qv 2) (A3 (qv 3) (A3 (qv 4) A4)))) A4))))))))))),?_⟩
 rintro _ _⟨tr,tp,ns,Ls,rfl,⟨hz,nd⟩,hL,hg,rfl⟩;show Ws [.raw (Ff T (Cm Bz) tr ns),.sq tp (Ls.map Lp.P),.any,.any,.any,.any] _ _ _;obtain⟨G,_⟩:=Vb hL hz hg;obtain⟨c,y⟩:=jQ G;obtain⟨f,E⟩:=oV G y;have OR:Lu Ls:=⟨hL,λl X=>CQ (C4.len (show C4 ns l.r l.g l.cs from hg l X)) hz⟩;have D:=Xj hL hz hg y;refine B0 (cb (wp_call (FN (Ta (V8 rfl ⟨tr,_,rfl,FN (Fx rfl (CI ⟨_,⟨tr,ns,tp,Ls,rfl,hz,hL,hg,rfl⟩,λp M=>?_⟩))⟩)))));refine B0 (HM (J5 nP (λ_=>true) (λv=>PV.lst ((ups Ls v).map nP)) (KW (Hq (Fx rfl ⟨(Ls.length:Int),by rw[AA],by omega,by omega,List.range Ls.length,rfl,by rw[D2];omega,λ_ _=>G0 rfl,λv V _=>?_,?_⟩))) Qb))
 .show Wp [.sq tp (Ls.map Lp.P),.is (nP v)] _ _;refine Cs (Lx (FN (Fx rfl (BQ (AI rfl (CI ⟨_,⟨tp,Ls,v,rfl,OR,List.mem_range.mp V,rfl⟩,?_⟩))))));rintro _ rfl;rfl
 rw[List.filter_eq_self.mpr λ_ _=>rfl];refine Lm 2 rfl ?_;refine B0 (HM (Lx (BQ (AI rfl (CI ⟨_,⟨ups Ls,Ls.length,rfl,D.ok,rfl⟩,?_⟩)))));rintro _ rfl;refine Lm 3 rfl ?_;show Ws [.raw (Ff T (Cm Bz) tr ns),.sq tp (Ls.map Lp.P),.is (Ck (ups Ls) Ls.length),.is (.lst ((Am Ls).map Bv)),.any,.any] _ _ _;refine B0 (HM (J5 nP (λt:Nat=>!(((Am Ls).map Bv).any λp=>BO p (.int (t:Int)))) (λt=>CD (c t)) (KW (Hq (Fx rfl ⟨(Ls.length:Int),by rw[AA],by omega,by omega,List.range Ls.length,rfl,by rw[D2];omega,λt z=>?_,λt z _=>?_,?_⟩))) Qb))
 .show Wt [.is (.lst ((Am Ls).map Bv)),.is (nP t)] _ _;refine E4 (vF (AI rfl (CU rfl ⟨rfl,λp M=>?_,trivial,_,rfl,rfl⟩)));obtain⟨o,_,rfl⟩:=List.mem_map.mp M;cases o <;> trivial
 .show Wp [.is (.lst ((Am Ls).map Bv)),.is (nP t)] _ _;have h:=y t (G.len▸List.mem_range.mp z);refine Cs (Lx (FN (CU rfl (BQ (AI rfl (CI ⟨_,⟨Am Ls,t,c t,rfl,G.len▸hL,h.1,h.2.1,rfl⟩,?_⟩))))));rintro _ rfl;rfl
 have N:=kT (Am Ls);rw[G.len]at N;rw[N,show(Kz.Ax (Am Ls)).map (λt=>CD (c t))=((Kz.Ax (Am Ls)).map c).map CD by rw[Ce];rfl];refine Lm 4 rfl ?_;show Ws [.raw (Ff T (Cm Bz) tr ns),.sq tp (Ls.map Lp.P),.is (Ck (ups Ls) Ls.length),.is (.lst ((Am Ls).map Bv)),.is (.lst (((Kz.Ax (Am Ls)).map c).map CD)),.any] _ _ _;refine B0 (Nt (aG (λx u=>∀ch,x=CD ch->∃a,u=C8 a (GQ Ls ch ns)/\∃ms:List Str,GQ Ls ch ns=ms.map .str/\ms.Perm ns/\ms.Pairwise λa b=>G9 Ls ch a<=G9 Ls ch b) (Dh (Cy (AI rfl ⟨_,.inl ⟨rfl,by rw[AA];have:=D.cl;omega,λ_ _=>G0 rfl,λx hx=>?_,λQ us L Y=>?_⟩⟩)))))
 .obtain⟨ch,s,rfl⟩:=List.mem_map.mp hx;obtain⟨t,z,rfl⟩:=List.mem_map.mp s;have h:=y t (Kz.DF.mp z).1;show Wx [.sq tp (Ls.map Lp.P),.raw (Ff T (Cm Bz) tr ns),.is (CD (c t))] _ _;refine KN (Lx (sA rfl (FN (Fx rfl (BQ (AI rfl (CI ⟨_,⟨tr,tp,ns,Ls,c t,rfl,hz,hL,h.2.1,λn W=>G.len▸h.2.2.2 n W,rfl⟩,?_⟩)))))));rintro _⟨rfl,ms,H,C,B⟩a;refine⟨rfl,λch e=>?_⟩;cases cp _ _ e;exact⟨a,rfl,ms,H,C,B⟩
 have R:∀(k:Nat)ch,(Gb Ls c)[k]?=some ch->∃u,us[k]?=some u/\∃a,u=C8 a (GQ Ls ch ns)/\∃ms:List Str,GQ Ls ch ns=ms.map .str/\ms.Perm ns/\ms.Pairwise λa b=>G9 Ls ch a<=G9 Ls ch b:=λk ch hk=>by
  have S:(((Kz.Ax (Am Ls)).map c).map CD)[k]?=some (CD ch):=by rw[AO];show Option.map CD ((Gb Ls c)[k]?)=_;rw[hk];rfl
  have U:k<us.length:=by rw[L];exact(List.getElem?_eq_some_iff.mp S).1
  exact⟨us[k],AK U,Y k _ _ S (AK U) ch rfl⟩
 show Ws [.raw (Ff T (Cm Bz) tr ns),.sq tp (Ls.map Lp.P),.is (Ck (ups Ls) Ls.length),.is (.lst ((Am Ls).map Bv)),.is (.lst (((Kz.Ax (Am Ls)).map c).map CD)),.ow false (.nd .lst Q us)] _ _ _;refine ji (eQ (M3 (zw (i:=5) rfl (M3 (KN (Lx (FN (Ta (V8 rfl ⟨tr,_,rfl,FN (Fx rfl (BQ (AI rfl (CI ⟨_,⟨tr,tp,ns,Ls,(Kz.Ax (Am Ls)).map c,f,rfl,E,rfl⟩,?_⟩))))⟩)))))))));rintro _ rfl b;refine M3 (KN (Lx (BQ (AI rfl (BQ (AI rfl (BQ (AI rfl (CI ⟨_,⟨ups Ls,Ls.length,Am Ls,(Kz.Ax (Am Ls)).map c,rfl,D,rfl⟩,?_⟩)))))))));rintro _⟨A,rfl,J,I⟩d;refine bG ⟨by simp,by simp,by simp,by show 3<=100000;decide,Q,b,d,us,(Gb Ls c).map (λch=>(GQ Ls ch ns).map Ju),YM ns Ls f,A,rfl,?_,?_,?_,⟨⟨c,f,y,E,rfl,rfl,J,I⟩⟩⟩
 .rw[L,AA,AA (as:=Gb Ls c)];rfl
 .intro j x u hx O;rw[AO]at hx;obtain⟨ch,s,rfl⟩:=Option.map_eq_some_iff.mp hx;obtain⟨u',e1,a,e2,_⟩:=R j ch s;rw[e1]at O;cases O;exact⟨a,by rw[e2,<- xO]⟩
 .refine pZ hL hz nd hg y E (by rw[AA];exact AA _) (λk ch l h1 h2=>?_) J I;rw[AO]at h2;obtain⟨Hh,s,rfl⟩:=Option.map_eq_some_iff.mp h2;have s:((Kz.Ax (Am Ls)).map c)[k]?=some Hh:=s;rw[h1]at s;cases s;obtain⟨_,_,_,_,ms,H,C,B⟩:=R k ch h1;have σ:(GQ Ls ch ns).map Ju=ms:=by rw[H,Ce];exact XH _
  rw[σ];exact⟨C,B⟩
def jj:BG ["found"] ["found"] (AQ SH):=by walk_at "z1"
def nE(F:AR K "_law_whole" "_law_whole" SH f fd)(m:mg "_law_whole"=some (.ref f)):
  AJ P w K mg ZB "_law_whole" 1 ["found"] (Ap cD):=by
 refine Fz.hF (k:=0) F (by walk_at "bD1") m jj (by rintro _ _⟨i,rfl,rfl⟩;rfl) λa=>⟨_,(AU rfl (B1 (LF (An Jp FL (A3 (qv 0) (A3 (Kf "int" VC) A4))) (LL (me (An Jp FL (A3 (qv 0) (A3 (Kf "bool" SK) A4)))))))),?_⟩
 rintro _ _⟨i,rfl,rfl⟩;show Ws [_] _ _ _;refine FC (O4 (Li (AI rfl ⟨true,M4 _ _,_,rfl,Jj ?_⟩)));exact Yt (Li (AI rfl ⟨false,iH _,_,rfl,rfl⟩))
def yg:BG ["found"] ["found"] (AQ Qx):=by walk_at "z1"
def yq:=Sc [(".0",.local),("name",.local),("isinstance",.globalImplicit),("str",.globalImplicit)]
def ue:Cg ["found"] (AQ Qx) yq "name" [] []:=by walk_at "z2"
def sT(F:AR K "_law_texts" "_law_texts" Qx f fd)(m:mg "_law_texts"=some (.ref f)):
  AJ P w K mg ZB "_law_texts" 1 ["found"] (Ap fV):=by
 refine Fz.hF (k:=0) F (by walk_at "bD1") m yg (by rintro _ _⟨ns,rfl,hz,rfl⟩;rfl) λa=>⟨_,(AU rfl (B1 (LF (An Jp FL (A3 (qv 0) (A3 (Kf "list" D8) A4))) (LL (An (Km rfl) Ed (A3 (GW rfl ue (Cz (qv 0)) (λ_ _ _ _=>by exact FG) (λ_ _ _ _=>by exact(An (show Br _ (.builtin "isinstance") (N6 K)from Jp) FL (A3 (qv 0) (A3 (Kf "str" Uo) A4))))) A4)))))),?_⟩
 rintro _ _⟨ns,rfl,hz,rfl⟩;show Ws [_] _ _ _
 walk_at "ww"
 refine zS ?_
 walk_at "ww"
 refine⟨true,M4 _ _,_,rfl,Jj ?_⟩
 walk_at "wp"
 refine C5 (Cs (J5 PV.str (λ_=>true) (λ_=>.bl true) ?_ str_inj))
 walk_at "ww"
 refine⟨by omega,λx hx=>by walk_at "ww"; rfl,λx hx _=>?_,?_⟩
 .refine Li ?_
  walk_at "ww"
  exact⟨true,M4 _ _,rfl⟩
 .walk_at "ww"
  rw[show(List.map (λ_=>true) (ns.filter λ_=>true)).all id=true from by simp]
def Xz:BG ["found","seat"] ["found"] (AQ Jo):=by walk_at "z1"
def kK:=Sc [(".0",.local),("line",.local),("_law_texts",.globalImplicit)]
def rF:Cg ["found","seat"] (AQ Jo) kK "line" [] []:=by walk_at "z2"
def jS:=Sc [(".0",.local),("part",.local),("isinstance",.globalImplicit),("list",.globalImplicit)]
def oF:Cg ["found","seat"] (AQ Jo) jS "part" [] []:=by walk_at "z2"
def gz:=Sc [(".0",.local),("number",.local),("_law_whole",.globalImplicit)]
def ZAF:Cg ["found","seat"] (AQ Jo) gz "number" [] []:=by walk_at "z2"
def pB:=Sc [(".0",.local),("number",.local),("_law_whole",.globalImplicit)]
def n9:Cg ["found","seat"] (AQ Jo) pB "number" [] []:=by walk_at "z2"
def su(F:AR K "_law_lines_form" "_law_lines_form" Jo f fd)(m:mg "_law_lines_form"=some (.ref f)):
  AJ P w K mg ZB "_law_lines_form" 3 ["found"] (Ap c7):=by
 refine Fz.hF (k:=2) F (by walk_at "bD1") m Xz (by rintro _ _⟨ls,ps,A,rfl,_,_,_,_,rfl⟩;rfl) λc=>⟨_,(AL rfl (C6 (HP (Fl (FZ (An Jp FL (A3 (qv 0) (A3 (Kf "tuple" Et) A4))))) (IC (Ba Mz (An Cp Ac (A3 (qv 0) A4)) AB))).pt (AU rfl (B1 DU)) C9)
   (AL rfl (C6 (HP (Fl (FZ (An (Km rfl) Ed (A3 (GW rfl oF (Cz (qv 0)) (λ_ _ _ _=>by exact FG) (λ_ _ _ _=>by exact(An (show Br _ (.builtin "isinstance") (N6 K)from Jp) FL (A3 (qv 0) (A3 (Kf "list" D8) A4))))) A4)))) (IC (Fl (FZ (An (Km rfl) Ed (A3 (GW rfl rF (Cz (AZ BN (qv 0) AB)) (λ_ _ _ _=>by exact FG) (λ_ _ _ _=>by exact(Ah Tf c (A3 (qv 0) A4)))) A4)))))).pt (AU rfl (B1 DU)) C9)
   (AL rfl (Ca (EX EB rfl (Cz (AZ BN (qv 0) AB)) (CY 1 Xz.nd) (AU rfl (C6 (HP (Fl (FZ (An Jp FL (A3 (qv 1) (A3 (Kf "tuple" Et) A4))))) (HP (Ba Mz (An Cp Ac (A3 (qv 1) A4)) AB) (IC (Fl (FZ (An (Km rfl) Ed (A3 (GW rfl ZAF (Cz (qv 1)) (λ_ _ _ _=>by exact FG) (λ_ _ _ _=>by exact(Ah RH c (A3 (qv 0) A4)))) A4))))))).pt (AU rfl (B1 DU)) C9))))
   (AU rfl (B1 (An (Km rfl) Ed (A3 (GW rfl n9 (Cz (AZ BN (qv 0) AB)) (λ_ _ _ _=>by exact FG) (λ_ _ _ _=>by exact(Ah RH c (A3 (qv 0) A4)))) A4))))))),?_⟩
 rintro _ _⟨ls,ps,A,rfl,q,o,j,d,rfl⟩;show Ws [.is (.tup [.lst (ls.map Ei),.lst (ps.map CP),.lst (A.map nP)]),.any] _ _ _;refine B0 (E8 (IQ (Fs (E4 (Li (AI rfl ⟨true,M4 _ _,true,rfl,FP ?_⟩))))))
 walk_at "ww"
 refine IF (λz=>absurd (show false=true from z) (by decide)) (Ct ?_);refine B0 (E8 (IQ (Fs (E4 (LR rfl (C5 (Cs (JJ (λ_=>true) (λ_=>.bl true) (Dh (Cy (AI rfl ⟨_,.inr ⟨rfl,by show 3<=100000;decide,λ_ _=>G0 rfl,λx hx _=>?_,?_⟩⟩)))))))))))
 .simp only[DP,Aq,uB]at hx;rcases hx with rfl|rfl|rfl <;> exact Li (AI rfl ⟨true,M4 _ _,rfl⟩)
 refine⟨_,.inl ⟨rfl,rfl,[true,true,true],rfl,_,rfl,IF (by decide) ?_⟩⟩;refine Fs (E4 (LR rfl (C5 (Cs (JJ (λ_=>true) (λ_=>.bl true) (Dh (Cy (JY (JT rfl ⟨rfl,CL ⟨_,_,rfl,rfl,_,.inl ⟨rfl,by rw[AA];omega,λ_ _=>G0 rfl,λx hx _=>?_,?_⟩⟩⟩)))))))))
 .obtain⟨l,g,rfl⟩:=List.mem_map.mp hx;have:=d l g;refine wp_call (FN (C5 (AI rfl ⟨_,.inl ⟨rfl,CI ⟨_,⟨l,rfl,by omega,rfl⟩,?_⟩⟩⟩)));rintro _ rfl;rfl
 rw[VV];refine⟨_,.inl ⟨rfl,rfl,_,rfl,_,rfl,IF (by rw[Um];decide) (Ct ?_)⟩⟩;refine B0 (EC (FK (λ_ i A5=>∃s1,A5=[.is (.tup [.lst (ls.map Ei),.lst (ps.map CP),.lst (A.map nP)]),s1]) (Dh (Cy (JY (JT rfl ⟨rfl,CL ⟨_,_,rfl,rfl,_,.inl ⟨rfl,⟨_,rfl⟩,?_,?_⟩⟩⟩))))))
 .rintro i p A5 e⟨s1,rfl⟩;obtain⟨⟨a,b⟩,_,rfl⟩:=List.mem_map.mp (BB e);refine Gp ?_;show Ws [.is (.tup [.lst (ls.map Ei),.lst (ps.map CP),.lst (A.map nP)]),.is (.tup [.int a,.int b])] _ _ _;refine E8 (IQ (Fs (E4 (Li (AI rfl ⟨true,M4 _ _,true,rfl,FP ?_⟩)))));refine IQ ?_
  walk_at "ww"
  refine IF (λz=>absurd (show false=true from z) (by decide)) ?_;refine Fs (E4 (LR rfl (C5 (Cs (JJ (λ_=>true) (λ_=>.bl true) (Dh (Cy (AI rfl ⟨_,.inr ⟨rfl,by show 2<=100000;decide,λ_ _=>G0 rfl,λx hx _=>?_,?_⟩⟩))))))))
  .simp only[DP,Aq,uB]at hx;rcases hx with rfl|rfl <;> exact wp_call (BQ (AI rfl (CI ⟨_,⟨_,rfl,rfl⟩,λ_ h=>h⟩)))
  exact⟨_,.inl ⟨rfl,rfl,[true,true],rfl,_,rfl,IF (by decide) (Ct ⟨_,rfl⟩)⟩⟩
 .rintro A5⟨s1,rfl⟩;refine FC (LR rfl (C5 (Cs (JJ (λ_=>true) (λ_=>.bl true) (Dh (Cy (JY (JT rfl ⟨rfl,CL ⟨_,_,rfl,rfl,_,.inl ⟨rfl,by rw[AA];omega,λ_ _=>G0 rfl,λx hx _=>?_,?_⟩⟩⟩))))))))
  .obtain⟨n,_,rfl⟩:=List.mem_map.mp hx;exact wp_call (BQ (AI rfl (CI ⟨_,⟨_,rfl,rfl⟩,λ_ h=>h⟩)))
  rw[VV];exact⟨_,.inl ⟨rfl,rfl,_,rfl,by rw[Um]⟩⟩
def Nn:BG ["row","loops","lines","seats","loop","seat","line","gap"] ["row","loops","lines","seats"] (AQ T3):=by walk_at "z1"
def iE(F:AR K "_law_seats_right" "_law_seats_right" T3 f fd)(m:mg "_law_seats_right"=some (.ref f)):
  AJ P w K mg ZB "_law_seats_right" 1 ["row","loops","lines","seats"] (Ap eV):=by
 refine Fz.hF (k:=0) F (by walk_at "bD4") m Nn (by rintro _ _⟨ns,Ls,ls,ps,zs,rfl,_,_,rfl⟩;rfl) λB=>⟨_,(AL rfl (C6 (Ba Mz (An Cp Ac (A3 (qv 3) A4)) (An Cp Ac (A3 (qv 1) A4))) (AU rfl (B1 DU)) C9)
   (AL rfl (Ca (EX EB rfl (mf rfl Rq (A3 (qv 1) (A3 (qv 3) A4))) (MU rfl (Fw (CY 4 Nn.nd) (Fw (CY 5 Nn.nd) NR))) (AL rfl (Nj (qv 5) (MU rfl (Fw (CY 6 Nn.nd) (Fw (CY 7 Nn.nd) NR))))
   (AL rfl (C6 (HP (Fl (eF Q5 Nu AB (qv 6) (An Cp Ac (A3 (qv 2) A4)))) (IC (Ba Mz (qv 7) (BF Qc (An Cp Ac (A3 (qv 0) A4)) (An Cp Ac (A3 (AZ BN (qv 4) AB) A4)))))).pt (AU rfl (B1 DU)) C9)
   (AU rfl (C6 (Ba (Py B.Hz) (An RP Dd (A3 (V5 iX (AZ Bj (qv 2) (qv 6)) (Si (qv 7)) UD) A4)) (Dm He D8 (A3 (AZ BN (qv 4) AB) A4))) (AU rfl (B1 DU)) C9))))))
   (AU rfl (B1 DU)))),?_⟩
 rintro _ _⟨ns,Ls,ls,ps,zs,rfl,J,C,rfl⟩;have h1:=J.Lz;have h2:=J.pz;have I:=J.lz;have G:=J.nz;show Ws [.is (.lst (ns.map .str)),.is (.lst (Ls.map Lp.P)),.is (.lst (ls.map Ei)),.is (.lst (ps.map CP)),.any,.any,.any,.any] _ _ _;unfold Oa
 walk_at "ww"
 rw[AA,AA];refine CC (λc=>?_) (λc=>?_)
 .have c:¬ ps.length=Ls.length:=λz=>by rw[z]at c;exact absurd c (by show ¬ (!decide _)=true;rw[hU rfl];decide)
  rw[iF c];exact FC (GN rfl)
 have c:ps.length=Ls.length:=Jb λz=>c (by show(!decide _)=true;rw[iF λy=>z (Int.ofNat_inj.mp y)];rfl);rw[hU c,HR];refine Ct (B0 (EC (FK (λ_ i A5=>∃s4 q o n,A5=[.is (.lst (ns.map .str)),.is (.lst (Ls.map Lp.P)),.is (.lst (ls.map Ei)),.is (.lst (ps.map CP)),s4,q,o,n]/\((Ls.zip ps).take i).all (λx=>FF ns.length ls x.1 x.2)=true) (xG (Cy (AI rfl ⟨_,.inl ⟨rfl,rfl,Cy (AI rfl ⟨_,.inl ⟨rfl,rfl,⟨_,_,_,_,rfl,rfl⟩,?_,?_⟩⟩)⟩⟩))))))
 .rintro i p A5 v⟨s4,q,o,n,rfl,hi⟩;rw[W9,AO]at v;obtain⟨⟨⟨r,g,cs⟩,⟨a,b⟩⟩,ex,rfl⟩:=Option.map_eq_some_iff.mp v;have gd:C4 ns r g cs:=J.good _ (XJ (BB ex)).1;have H:=C4.len gd;refine WL ⟨_,_,rfl,?_⟩;refine B0 (bg (AI rfl (WL ⟨_,_,rfl,?_⟩)));show Ws [.is (.lst (ns.map .str)),.is (.lst (Ls.map Lp.P)),.is (.lst (ls.map Ei)),.is (.lst (ps.map CP)),.is (.tup [.str r,.int g,.tup (cs.map .str)]),.is (.tup [.int a,.int b]),.is (.int a),.is (.int b)] _ _ _;have d:FF ns.length ls ⟨r,g,cs⟩ (a,b)=false->∀{nx:List Slot->Prop},Ws [.is (.lst (ns.map .str)),.is (.lst (Ls.map Lp.P)),.is (.lst (ls.map Ei)),.is (.lst (ps.map CP)),.is (.tup [.str r,.int g,.tup (cs.map .str)]),.is (.tup [.int a,.int b]),.is (.int a),.is (.int b)] (G3 (tC (.bl false))) nx (.is λx=>x=.bl ((Ls.zip ps).all λx=>FF ns.length ls x.1 x.2)):=λh{_}=>FC (GN (ib PV.bl (uz ex h).symm));have step:((Ls.zip ps).take (i+1)).all (λx=>FF ns.length ls x.1 x.2)=FF ns.length ls ⟨r,g,cs⟩ (a,b):=ph ex hi;refine B0 (E8 (IQ (Fs (E4 (V1 (CL ⟨_,rfl,AI rfl ⟨_,rfl,?_⟩⟩))))))
  by_cases u:0<=a
  .rw[i5 (hU u)];refine Hq (CU rfl ⟨_,rfl,_,rfl,?_⟩);rw[AA]
   by_cases t:a<(ls.length:Int)
   .rw[hU t,i3 (by decide)];obtain⟨k,rfl⟩:∃k:Nat,a=k:=⟨a.toNat,by omega⟩;have hk:k<ls.length:=by omega
    obtain⟨line,el⟩:∃l,ls[k]?=some l:=⟨_,AK hk⟩;have pl:=C line (BB el);have hz:=pl.length_eq;rw[iV el]at step d
    walk_at "ww"
    rw[AA,AA];refine CC (λe=>?_) (λe=>?_)
    .refine d ?_;rw[iF (show ¬ b=(ns.length:Int) - (cs.length:Int)from λz=>by subst z;exact absurd e (by show ¬ (!decide _)=true;rw[hU rfl];decide)),RS]
    .have e:b=(ns.length:Int) - (cs.length:Int):=Jb λz=>e (by show(!decide _)=true;rw[iF z];rfl);obtain⟨m,s⟩:∃m:Nat,ns.length - cs.length=m:=⟨_,rfl⟩;have D:b=(m:Int):=by omega
     subst D;have E:(m:Int)=(ns.length:Int) - ((⟨r,g,cs⟩:Lp).cs.length:Int):=e;have s:ns.length - (⟨r,g,cs⟩:Lp).cs.length=m:=s;rw[hU E,HR,s]at step d;refine Ct (E8 (IK (ZF (C5 (Cs (Pp (C5 (Cs (Yj (C5 (FA (CU rfl ⟨rfl,AI rfl ⟨_,Ei line,rfl,EE (by rw[AO,el];rfl),_,.inl ⟨rfl,rfl,eX (AI rfl ⟨_,rfl,dN ⟨_,.inl ⟨rfl,line.drop m,?_,by rw[RY];omega,λA p1 s1=>⟨_,.inl ⟨rfl,A,rfl,?_⟩⟩⟩⟩⟩)⟩⟩⟩))))))))))))
     .rw[vC,List.map_drop]
     .refine C5 (Cs (Hs rfl (C5 (JY (JT rfl ⟨rfl,CL ⟨_,_,rfl,rfl,_,.inr ⟨rfl,_,.inl ⟨rfl,rfl,cs,rfl,_,rfl,?_⟩⟩⟩⟩)))));rw[qf gd.up p1 s1]
      by_cases j:(line.drop m).Perm cs
      .rw[hU j,i3 (by decide)];exact Ct ⟨_,_,_,_,rfl,by rw[step];exact hU j⟩
      .rw[iF j,i5 (by rfl)];exact d (iF j)
   .rw[iF t,i5 (by rfl),i5 rfl];exact d (sV t)
  .rw[i3 (λz=>u (lx z))];refine⟨_,rfl,?_⟩;rw[i5 (by rfl)];exact d (nv u)
 .rintro A5⟨s4,q,o,n,rfl,hi⟩;rw[W9,AA,Eg]at hi;rw[hi];exact FC (GN rfl)
def y4:BG ["one","other"] ["one","other"] (AQ Vp):=by walk_at "z1"
def yr(F:AR K "_law_within" "_law_within" Vp f fd)(m:mg "_law_within"=some (.ref f)):
  AJ P w K mg ZB "_law_within" 1 ["one","other"] (Ap Yk):=by
 refine Fz.hF (k:=0) F (by walk_at "bD2") m y4 (by rintro _ _⟨l1,l2,rfl,_,_,rfl⟩;rfl) λi=>⟨_,(AU rfl (B1 (Ki (wq i.Hz) (Dm (NA rfl) GI (A3 (BF yD (AZ BN (qv 0) AB) (AZ BN (qv 1) AB)) A4)) (Dm (NA rfl) GI (A3 (AZ BN (qv 1) AB) A4))))),?_⟩
 rintro _ _⟨⟨e,g1,c⟩,⟨d,l,a⟩,rfl,h,g,rfl⟩;have o:c.length<=40:=h;have n:a.length<=40:=g;show Ws [.is (.tup [.str e,.int g1,.tup (c.map .str)]),.is (.tup [.str d,.int l,.tup (a.map .str)])] _ _ _;refine FC (zo ?_);refine C5 (mJ ?_)
 walk_at "ww"
 refine⟨_,rfl,?_⟩
 walk_at "ww"
 refine⟨_,rfl,by rw[AA,AA];omega,_,.inr ⟨rfl,c++a,List.map_append.symm,by rw[BX];omega,?_⟩⟩
 walk_at "ww"
 refine⟨by omega,λb j=>?_⟩;refine ib PV.bl (Bool.eq_iff_iff.mpr (j.trans ?_));rw[iP];exact⟨λz x hx=>(z x).mp (DA _ hx),λz x=>⟨λhx=>(List.mem_append.mp hx).elim (z x) id,λhx=>Bk _ hx⟩⟩
def y9:BG ["one","other"] ["one","other"] (AQ VD):=by walk_at "z1"
def oh(F:AR K "_law_fit" "_law_fit" VD f fd)(m:mg "_law_fit"=some (.ref f)):
  AJ P w K mg ZB "_law_fit" 2 ["one","other"] (Ap WN):=by
 refine Fz.hF (k:=1) F (by walk_at "bD2") m y9 (by rintro _ _⟨l1,l2,rfl,_,_,rfl⟩;rfl) λd=>⟨_,(AU rfl (B1 (zf (Ah P1 d (A3 (qv 0) (A3 (qv 1) A4))) (LL (Ah P1 d (A3 (qv 1) (A3 (qv 0) A4))))))),?_⟩
 rintro _ _⟨l1,l2,rfl,b,a,rfl⟩;show Ws [.is l1.P,.is l2.P] _ _ _
 walk_at "ww"
 refine wp_call (BQ (AI rfl (BQ (AI rfl (CI ⟨_,⟨l1,l2,rfl,b,a,rfl⟩,?_⟩)))));rintro _ rfl;refine⟨_,rfl,?_⟩
 by_cases c:D9 l2 l1
 .rw[hU c,i5 rfl,hU (show D9 l2 l1∨D9 l1 l2 from .inl c)]
 .rw[iF c,i3 (by decide)];refine wp_call (BQ (AI rfl (BQ (AI rfl (CI ⟨_,⟨l2,l1,rfl,a,b,rfl⟩,?_⟩)))));rintro _ rfl;exact ib PV.bl (decide_eq_decide.mpr ⟨.inr,λz=>z.resolve_left c⟩)
def Zj:BG ["loops","apart","k"] ["loops","apart"] (AQ OZ):=by walk_at "z1"
def nQ:=Sc [(".0",.local),("j",.local),("_law_fit",.globalImplicit),("apart",.free),("k",.free),("loops",.free)]
def sJ:Cg ["loops","apart","k"] (AQ OZ) nQ "j" ["apart","k","loops"] [1,2,0]:=by walk_at "z2"
def sG(F:AR K "_law_apart" "_law_apart" OZ f fd)(m:mg "_law_apart"=some (.ref f)):
  AJ P w K mg ZB "_law_apart" 3 ["loops","apart"] (Ap Zc):=by
 refine Fz.hF (k:=2) F (by walk_at "bD2") m Zj (by rintro _ _⟨Ls,zs,rfl,_,_,rfl⟩;rfl) λG=>⟨_,(AL rfl (Ca (EX EB rfl (IJ rfl Cn (A3 (An Cp Ac (A3 (qv 1) A4)) A4)) (CY 2 Zj.nd) (AL rfl (C6 (HP (Fl (eF Q5 Nu AB (AZ Bj (qv 1) (qv 2)) (An Cp Ac (A3 (qv 0) A4)))) (IC (LI (Ba MW (qv 2) AB) (My (Ba eG (AZ Bj (qv 1) (BF Qc (qv 2) AB)) (AZ Bj (qv 1) (qv 2))))).pt)).pt (AU rfl (B1 DU)) C9)
   (AU rfl (C6 (FZ (An (wU rfl) U2 (A3 (GW rfl sJ (IJ rfl Cn (A3 (qv 2) A4)) (λ_ _ _ _=>by exact FG) (λ_ _ _ _=>by exact(Ah Rp G (A3 (AZ (show Dv _ (Di K)from Bj) (qv 2) (AZ (show Dv _ (Di K)from Bj) (qv 0) (qv 3))) (A3 (AZ (show Dv _ (Di K)from Bj) (qv 2) (AZ (show Dv _ (Di K)from Bj) (qv 0) (qv 1))) A4))))) A4))) (AU rfl (B1 DU)) C9)))))
   (AU rfl (B1 DU))),?_⟩
 rintro _ _⟨Ls,zs,rfl,u,hz,rfl⟩;have hL:=u.1;show Ws [.is (.lst (Ls.map Lp.P)),.is (.lst (zs.map .int)),.any] _ _ _;refine B0 (EC (FK (λ_ i A5=>∃s2,A5=[.is (.lst (Ls.map Lp.P)),.is (.lst (zs.map .int)),s2]/\Ec Ls (zs.take i)) (KW (Hq (CU rfl ⟨(zs.length:Int),by rw[AA],by omega,by omega,⟨_,rfl,?_⟩,?_,?_⟩)))))
 .exact xA Ls
 .rintro i p A5 I⟨s2,rfl,hi⟩;obtain⟨hk,rfl⟩:=Ox I;rw[GA]at hk;obtain⟨z,C⟩:∃z,zs[i]?=some z:=⟨_,AK hk⟩;have D:zs.take (i+1)=zs.take i++[z]:=by rw[gT,C];rfl
  have B:BR (zs.map PV.int) (i:Int)=some (.int z):=EE (by rw[AO,C];rfl);have c:=kZ (z:=z) hi;have d:¬ Ec Ls (zs.take i++[z])->∀{nx:List Slot->Prop},Ws [.is (.lst (Ls.map Lp.P)),.is (.lst (zs.map .int)),.is (.int i)] (G3 (tC (.bl false))) nx (.is λx=>x=.bl (decide (Ec Ls zs))):=λh{_}=>FC (GN (ib PV.bl (iF λg=>h (by rw[<- D];exact g.sub (ZAp _ _))).symm));refine Gp ?_;show Ws [.is (.lst (Ls.map Lp.P)),.is (.lst (zs.map .int)),.is (.int i)] _ _ _;refine B0 (E8 (IQ (Fs (E4 (V1 (CL ⟨_,rfl,FA (CU rfl ⟨rfl,AI rfl ⟨_,_,rfl,B,_,rfl,?_⟩⟩)⟩))))))
  by_cases o:0<=z
  .rw[i5 (hU o)];refine Hq (CU rfl ⟨_,rfl,_,rfl,?_⟩);rw[AA]
   by_cases t:z<(Ls.length:Int)
   .rw[hU t,i3 (by decide)];have rest:(∀y,(zs.take i).getLast?=some y->y<z)->Ws [.is (.lst (Ls.map Lp.P)),.is (.lst (zs.map .int)),.is (.int i)] (Ld (tB (CO (λxs H Q=>∃p bs,xs=[V.ref p]/\AG K H p (List.map V.bl bs)/\Q (V.bl (bs.any id)) H) (Ag (GV (RC (Ag (Ar 2) BK)) [1,2,0] LJ (Dz (Ap WN) [] E0 (Ag (B8 (Di K) (Ar 2) (B8 (Di K) (Ar 0) (Ar 3))) (Ag (B8 (Di K) (Ar 2) (B8 (Di K) (Ar 0) (Ar 1))) BK)))) BK))) (G3 (tC (V.bl false))) Qf) (λA5=>∃s2,A5=[.is (.lst (Ls.map Lp.P)),.is (.lst (zs.map .int)),s2]/\Ec Ls (zs.take (i+1))) (.is λx=>x=.bl (decide (Ec Ls zs))):=λA8=>by
     obtain⟨b,A⟩:∃b,Ls[z.toNat]?=some b:=⟨_,AK (by omega)⟩;refine E8 (E4 (Zy rfl (C5 (Cs (J5 nP (λ_=>true) (λj=>PV.bl (Gh Ls (zs.getD j 0).toNat z.toNat)) (KW (AI rfl ⟨(i:Int),rfl,by omega,by omega,List.range i,rfl,by rw[D2];omega,λ_ _=>G0 rfl,λj v _=>?_,_,.inl ⟨rfl,rfl,(List.range i).map λj=>Gh Ls (zs.getD j 0).toNat z.toNat,by rw[List.filter_eq_self.mpr λ_ _=>rfl,Ce];rfl,_,rfl,?_⟩⟩)) Qb)))))
     .have v:=List.mem_range.mp v;obtain⟨y,l⟩:∃y,zs[j]?=some y:=⟨_,AK (by omega)⟩;have e:=hi.2.1 y (BB (show(zs.take i)[j]?=some y by rw[gM v,l]));obtain⟨a,ea⟩:∃a,Ls[y.toNat]?=some a:=⟨_,AK (by omega)⟩;have J:zs.getD j 0=y:=by rw[DN,l];rfl
      rw[J];show Wp [.is (.lst (zs.map .int)),.is (.int i),.is (.lst (Ls.map Lp.P)),.is (nP j)] _ _;refine wp_call (BQ (FA (CU rfl ⟨rfl,FA (CU rfl ⟨rfl,AI rfl ⟨_,_,rfl,EE (by rw[AO,l];rfl),_,a.P,rfl,dH e.1 (by rw[AO,ea];rfl),BQ (FA (CU rfl ⟨rfl,FA (CU rfl ⟨rfl,AI rfl ⟨_,_,rfl,B,_,b.P,rfl,dH o (by rw[AO,A];rfl),CI ⟨_,⟨a,b,rfl,u.2 a (BB ea),u.2 b (BB A),rfl⟩,?_⟩⟩⟩)⟩))⟩⟩)⟩)));rintro _ rfl;rw[Yz ea A]
     .have e0:(((List.range i).map λj=>Gh Ls (zs.getD j 0).toNat z.toNat).any id)=true↔¬ ∀x∈zs.take i,Gh Ls x.toNat z.toNat=false:=xU (zs:=zs) (i:=i) (f:=λx=>Gh Ls x.toNat z.toNat) (by omega)
      by_cases r:∀x∈zs.take i,Gh Ls x.toNat z.toNat=false
      .rw[i3 λz=>e0.mp z r];exact Ct ⟨_,rfl,by rw[D];exact c.mpr ⟨⟨o,t⟩,A8,r⟩⟩
      .rw[i5 (e0.mpr r)];exact d λh=>r (c.mp h).2.2
    refine bB (IK ?_)
    walk_at "ww"
    refine CC (λs=>?_) (λs=>?_)
    .have s:(0:Int)<i:=lx s;obtain⟨m,rfl⟩:∃m,i=m+1:=⟨i - 1,by omega⟩;obtain⟨y,l⟩:∃y,zs[m]?=some y:=⟨_,AK (by omega)⟩;have el:(zs.take (m+1)).getLast?=some y:=by rw[gT,l];exact ZAf
     walk_at "ww"
     refine⟨_,.int y,rfl,?_,?_⟩
     .rw[show(((m+1:Nat):Int) - 1)=(m:Int) by omega];exact EE (by rw[AO,l];rfl)
     walk_at "ww"
     refine⟨_,_,rfl,B,?_⟩
     walk_at "ww"
     refine CC (λn=>?_) (λn=>?_)
     .have n:z<=y:=lx n;exact d λh=>by have:=(c.mp h).2.1 y el;omega
     .have n:¬ z<=y:=λq=>n (hU q);refine Ct (rest λL e=>?_);rw[el]at e;cases e;omega
    .have E:i=0:=by have:¬ (0:Int)<i:=λz=>s (hU z);omega
     refine Ct (rest λy e=>?_);rw[E]at e;cases e
   .rw[iF t,i5 (by rfl),i5 rfl];exact d λh=>t (c.mp h).1.2
  .rw[i3 (λz=>o (lx z))];refine⟨_,rfl,?_⟩;rw[i5 (by rfl)];exact d λh=>o (c.mp h).1.1
 .rintro A5⟨s2,rfl,hi⟩;rw[Jq,GA,Eg]at hi;exact FC (GN (ib PV.bl (hU hi).symm))
def Pn:BG ["row","loops","found","lines","seats","apart"] ["row","loops","found"] (AQ Oo):=by walk_at "z1"
def sL:=Sc [(".0",.local),("line",.local),("sorted",.globalImplicit),("row",.free)]
def nG:Cg ["row","loops","found","lines","seats","apart"] (AQ Oo) sL "line" ["row"] [0]:=by walk_at "z2"
def oE(F:AR K "_law_right" "_law_right" Oo f fd)(m:mg "_law_right"=some (.ref f)):
  AJ P w K mg ZB "_law_right" 5 ["row","loops","found"] (Ap dQ):=by
 refine Fz.hF (k:=4) F (by walk_at "bD3") m Pn (by rintro _ _⟨ns,Ls,ls,ps,A,rfl,_,_,_,_,rfl⟩;rfl) λb=>⟨_,(AL rfl (C6 (Fl (FZ (Ah Vd b (A3 (qv 2) A4)))) (AU rfl (B1 DU)) C9)
   (AL rfl (Nj (qv 2) (MU rfl (Fw (CY 3 Pn.nd) (Fw (CY 4 Pn.nd) (Fw (CY 5 Pn.nd) NR)))))
   (AL rfl (C6 (HP (Fl (FZ (An (Km rfl) Ed (A3 (GW rfl nG (Cz (qv 3)) (λ_ _ _ _=>by exact FG) (λ_ _ _ _=>by exact(Ki (show Aw _ (compareOp .Eq) (MD K false)from(TX b.Hz)) (An (show Br _ (.builtin "sorted") (Qu K)from RP) Dd (A3 (qv 1) A4)) (An (show Br _ (.builtin "sorted") (Qu K)from RP) Dd (A3 (qv 0) A4))))) A4)))) (IC (Ba Mz (An Cp Ac (A3 (qv 5) A4)) (An Cp Ac (A3 (qv 3) A4))))).pt (AU rfl (B1 DU)) C9)
   (AU rfl (B1 (LF (Ah SY b (A3 (qv 0) (A3 (qv 1) (A3 (qv 3) (A3 (qv 4) A4))))) (LL (Ah Wd b (A3 (qv 1) (A3 (qv 5) A4)))))))))),?_⟩
 rintro _ _⟨ns,Ls,ls,ps,A,rfl,⟨hz,nd⟩,hL,hg,ok,rfl⟩;have o:=Xu ok;have h:=ok.len;have pz:=ok.pz;have j:Lu Ls:=⟨hL,λl a=>CQ (C4.len (show C4 ns l.r l.g l.cs from hg l a)) hz⟩;have c:∀l∈ls,l.length<=60:=λl a=>by rw[(ok.perm l a).length_eq];omega
 have i:A.map nP=(A.map λn:Nat=>(n:Int)).map PV.int:=by rw[Ce];rfl
 show Ws [.is (.lst (ns.map .str)),.is (.lst (Ls.map Lp.P)),.is (HF ls ps A),.any,.any,.any] _ _ _;refine B0 (E8 (Fs (E4 (wp_call (BQ (AI rfl (CI ⟨_,⟨ls,ps,A,rfl,by omega,by omega,by omega,c,rfl⟩,?_⟩)))))));rintro _ rfl;refine⟨true,rfl,FP (Ct ?_)⟩;refine B0 (bg (AI rfl (bh ⟨_,_,_,rfl,?_⟩)));show Ws [.is (.lst (ns.map .str)),.is (.lst (Ls.map Lp.P)),.is (HF ls ps A),.is (.lst (ls.map Ei)),.is (.lst (ps.map CP)),.is (.lst (A.map nP))] _ _ _;refine B0 (E8 (IQ (Fs (E4 (LR rfl (C5 (Cs (JJ (λ_=>true) (λ_=>.bl true) (Dh (Cy (AI rfl ⟨_,.inl ⟨rfl,by rw[AA];omega,λ_ _=>G0 rfl,λx hx _=>?_,?_⟩⟩)))))))))))
 .obtain⟨l,a,rfl⟩:=List.mem_map.mp hx;have:=c l a;have d:=ok.perm l a;show Wp [.is (.lst (ns.map .str)),.is (Ei l)] _ _;refine ZU (C5 (Cs (Pp (C5 (AI rfl ⟨_,.inl ⟨rfl,l,rfl,by omega,λe p1 s1=>⟨_,.inl ⟨rfl,e,rfl,?_⟩⟩⟩⟩)))));refine C5 (Cs (Pp (CU rfl ⟨ns,rfl,by omega,λm2 p2 s2=>⟨_,.inl ⟨rfl,rfl,m2,rfl,?_⟩⟩⟩)));refine ib PV.bl ?_;rw[ia p1 s1 p2 s2];exact hU d
 rw[VV];refine⟨_,.inl ⟨rfl,rfl,_,rfl,_,rfl,IF (by rw[Um];decide) ?_⟩⟩
 walk_at "ww"
 rw[AA,AA,h];refine IF (by show ¬ (!decide _)=true;rw[hU rfl];decide) (Ct ?_);refine FC (O4 (wp_call (BQ (AI rfl (BQ (AI rfl (BQ (AI rfl (BQ (AI rfl (CI ⟨_,⟨ns,Ls,ls,ps,A.map λn:Nat=>(n:Int),rfl,⟨hz,nd,hL,hg,by omega,c,by omega,by rw[AA];omega⟩,ok.perm,rfl⟩,?_⟩)))))))))));rintro _ rfl;rw[qw ok];refine⟨true,rfl,i8 rfl ?_⟩;rw[i];refine wp_call (BQ (AI rfl (BQ (AI rfl (CI ⟨_,⟨Ls,A.map λn:Nat=>(n:Int),rfl,j,by rw[AA];omega,rfl⟩,?_⟩)))));rintro _ rfl;rw[hU (k7 ok)]
def FX:BG ["script","held","k","pot","row","loops","handed","found","kept","line"] ["script"] (AQ K7):=by walk_at "z1"
def rB:=Sc [(".0",.local),("line",.local),("list",.globalImplicit)]
def oq:Cg ["script","held","k","pot","row","loops","handed","found","kept","line"] (AQ K7) rB "line" [] []:=by walk_at "z2"
def jK(F:AR K "law" "law" K7 f fd)(m:mg "law"=some (.ref f)):
  E5 P w K mg ZB De 17 f fd ["script"] (NT K T (Cm Bz)):=by
 refine(F.ER (k:=16) FX (λvs H Q E h=>by obtain⟨_,a,ns,rfl,_⟩:=h;rfl) (λAd A outer s H vs Q E z h=>?_));refine⟨_,(AL rfl (BD 1 FX.nd (Ge A4))
   (AL rfl (Ca (EX EB rfl (IJ rfl Cn (A3 (An (wy rfl) WS (A3 AB (A3 (An (m7 rfl) TK (A3 (An Cp Ac (A3 (qv 0) A4)) (A3 AB A4))) A4))) A4)) (CY 2 FX.nd) (AL rfl (BD 3 FX.nd (Ah VR z (A3 (qv 0) (A3 (qv 2) A4))))
   (AL rfl (BD 4 FX.nd (Ah TQ z (A3 (qv 3) (A3 AB A4))))
   (AL rfl (BD 5 FX.nd (Ah TV z (A3 (qv 3) (A3 (qv 4) (A3 AB A4)))))
   (AL rfl (BD 6 FX.nd (Dm He D8 (A3 (qv 5) A4)))
   (AL rfl (BD 7 FX.nd (Ah Nq z (A3 (Dm He D8 (A3 (qv 4) A4)) (A3 (qv 6) A4))))
   (AL rfl (C6 (HP (Fl (FZ (Ah R5 z (A3 (qv 4) (A3 (qv 5) (A3 (qv 7) A4)))))) (IC (Ba (Fz.Ya z.units) (qv 6) (qv 5)))).pt (AU rfl (B1 DU)) C9)
   (AL rfl (BD 8 FX.nd (GF (A3 (GW rfl oq (Cz (AZ BN (qv 7) AB)) (λ_ _ _ _=>by exact FG) (λ_ _ _ _=>by exact(Dm (show Br _ (.type "list") (Fz.eB K)from Fz.iO) D8 (A3 (qv 0) A4)))) (A3 (Dm He D8 (A3 (AZ BN (qv 7) AB) A4)) (A3 (Dm He D8 (A3 (AZ BN (qv 7) AB) A4)) A4)))))
   (AL rfl (Ca (EX EB rfl (Cz (AZ BN (qv 7) AB)) (CY 9 FX.nd) (AU rfl (Ej (Hj IZ L5 L6 JI (qv 9) (A3 DC A4))))))
   (AL rfl (Ej (Hj IZ L5 L6 JI (AZ BN (qv 7) AB) (A3 (Ge A4) A4)))
   (AL rfl (Ej (Hj IZ L5 L6 JI (AZ BN (qv 7) AB) (A3 (GF (A3 AB (A3 AB A4))) A4)))
   (AL rfl (Ej (Hj IZ L5 L6 JI (AZ BN (qv 7) AB) (A3 AB A4)))
   (AL rfl (Ej (pO IZ PySem.F.slot_list_clear PySem.F.type_list_clear y6 (qv 6)))
   (AU rfl (Ej (Hj IZ L5 L6 JI (qv 1) (A3 (GF (A3 (qv 4) (A3 (qv 5) (A3 (qv 8) A4)))) A4))))))))))))))))))
   (AL rfl (Ca (EX EB rfl (Cz (qv 1)) (MU rfl (Fw (CY 4 FX.nd) (Fw (CY 5 FX.nd) (Fw (CY 8 FX.nd) NR)))) (AL rfl (C6 (Ba (Fz.Ya z.units) (Ah Nq z (A3 (Dm He D8 (A3 (qv 4) A4)) (A3 (Dm He D8 (A3 (qv 5) A4)) A4))) (qv 8)) (AU rfl (B1 DU)) C9)
   (AU rfl (C6 (Fl (FZ (Ah R5 z (A3 (qv 4) (A3 (qv 5) (A3 (Ah Nq z (A3 (Dm OM Et (A3 (qv 4) A4)) (A3 (Dm OM Et (A3 (qv 5) A4)) A4))) A4)))))) (AU rfl (B1 DU)) C9)))))
   (AU rfl (B1 DU))))),?_⟩
 refine Fz.lq h ?_;intro sc MV;show Ws [_,.any,.any,.any,.any,.any,.any,.any,.any,.any] _ _ _;refine B0 (HM (SG (NN ⟨by decide,?_⟩)));refine B0 (EC (FK (λ_ i A5=>∃(t:List Hk)(s2 G s4 I D C B o:Slot),A5=[.raw (Em K T (Cm Bz) sc),.own (t.map Hk.P),s2,G,s4,I,D,C,B,o]/\t.length=i/\∀h∈t,h.Ok) ?_))
 walk_at "ww"
 obtain⟨n,en,U⟩:=sN (b:=1) (c:=5) (n:=sc.length) (by decide) (by decide) (by omega);rw[en,GA];refine⟨by omega,by omega,⟨[],_,_,_,_,_,_,_,_,rfl,rfl,λh hh=>by cases hh⟩,?_,?_⟩
 .rintro i p A5 S⟨t,s2,G,s4,I,D,C,B,o,rfl,wV,AE⟩;obtain⟨hi,rfl⟩:=Ox S;refine Gp ?_
  walk_at "ww"
  refine⟨by omega,by omega,?_⟩
  walk_at "ww"
  refine⟨by decide,by decide,λns M hN nd=>?_⟩;have hz:ns.length<=40:=by omega
  refine Lm 4 rfl ?_;refine B0 (HM (iy rfl (BQ (AI rfl (BQ (CL (CI ⟨_,⟨ns,12,rfl,by decide,hz,nd,rfl⟩,?_⟩)))))));rintro _⟨Ls,rfl,hL,hg⟩;have OR:Lu Ls:=⟨hL,λl M=>CQ (C4.len (show C4 ns l.r l.g l.cs from hg l M)) hz⟩;refine Lm 5 rfl ?_;refine B0 (HM (Hs rfl (CU rfl ?_)));refine B0 (Nt (UC (Tj (tr:=false) (ns:=ns) 0 rfl (λF v h=>h.2) (Cs (Hs rfl (CU rfl ⟨rfl,FN (PJ rfl (CI ⟨_,⟨false,false,ns,Ls,rfl,⟨hz,nd⟩,hL,hg,rfl⟩,?_⟩))⟩))))));rintro _⟨a,b,d,us,ls,ps,A,rfl,FJ,Be,ok,ld⟩;have ep:=Qq (a:=a) (b:=b) (d:=d) (ps:=ps) (A:=A) FJ Be;have el:=ok.len;have lps:=ok.pz;have lA:=Xu ok;have ll:∀l∈ls,l.length<=60:=λl M=>by rw[(ok.perm l M).length_eq];omega
  show Ws [.raw (Em K T (Cm Bz) sc),.own (t.map Hk.P),.is (.int i),.AH,.is (.lst (ns.map .str)),.is (.lst (Ls.map Lp.P)),.own (Ls.map Lp.P),.ow false (.tp [.nd .lst a us,C8 b (ps.map CP),C8 d (A.map nP)]),B,o] _ _ _;refine B0 (E8 (ZA8 ?_));show Wt [.raw (Em K T (Cm Bz) sc),.is (.lst (t.map Hk.P)),.is (.int i),.any,.is (.lst (ns.map .str)),.is (.lst (Ls.map Lp.P)),.is (.lst (Ls.map Lp.P)),.is (OV.tp [.nd .lst a us,C8 b (ps.map CP),C8 d (A.map nP)]).pv,_,_] _ _;rw[ep];refine IQ (Fs (E4 (wp_call (BQ (AI rfl (BQ (AI rfl (BQ (AI rfl (CI ⟨_,⟨ns,Ls,ls,ps,A,rfl,⟨hz,nd⟩,hL,hg,ok,rfl⟩,?_⟩))))))))));rintro _ rfl;refine⟨true,rfl,FP (IK (UM (AI rfl (AI rfl ⟨WO K Ls,WO K Ls,?_⟩))))⟩;rw[eM (K:=K) 40 (WO K Ls)];refine⟨false,rfl,FP (Ct ?_)⟩;have pj:∀(l:Addr)(B7:List OV)(b' d':Addr),B7.length=ls.length->(∀(j:Nat)x u,ls[j]?=some x->B7[j]?=some u->∃e,u=C8 e (x.map .str))->(OV.tp [.nd .lst l B7,C8 b' (ps.map CP),C8 d' (A.map nP)]).FV=true:=λl B7 b' d' R hP=>by
   simp only[OV.FV,OV.Fj];rw[U6 _ _ (λx=>by simp[CP,Gd,JF]),U6 _ _ (λx=>by simp[nP,Gd]),cH λu hu=>?_]
   .rfl
   .obtain⟨j,N⟩:=List.mem_iff_getElem?.mp hu;obtain⟨O,_⟩:=List.getElem?_eq_some_iff.mp N;obtain⟨e,rfl⟩:=hP j _ u (AK (R▸O)) N;exact U6 e .str (λ_=>by simp[Gd]) _
  refine B0 (Nt (kO ?_));show Wx [.raw (Em K T (Cm Bz) sc),.is (.lst (t.map Hk.P)),.is (.int i),.any,.is (.lst (ns.map .str)),.is (.lst (Ls.map Lp.P)),.is (.lst (Ls.map Lp.P)),.is (OV.tp [.nd .lst a us,C8 b (ps.map CP),C8 d (A.map nP)]).pv,_,_] _ _;rw[ep];refine eQ (M3 (aG (λx u=>∃e,u=.nd .lst e ((match x with | .lst ys=>ys|_=>[]).map .fz)) (Dh (Cy (JY (JT rfl ⟨rfl,CL ⟨_,_,rfl,rfl,_,.inl ⟨rfl,by rw[AA];omega,λ_ _=>G0 rfl,λx hx=>?_,λl2 Dr MR gk=>?_⟩⟩⟩))))))
  .obtain⟨l,M,rfl⟩:=List.mem_map.mp hx;exact KN (Hs rfl (C5 (AI rfl ⟨_,.inl ⟨rfl,λl=>⟨rfl,l,rfl⟩⟩⟩)))
  refine M3 (KN (Hs rfl (C5 (JY (JT rfl ⟨rfl,CL ⟨_,_,rfl,rfl,_,.inl ⟨rfl,λY=>?_⟩⟩⟩)))));refine M3 (KN (Hs rfl (C5 (JY (JT rfl ⟨rfl,CL ⟨_,_,rfl,rfl,_,.inl ⟨rfl,λX=>?_⟩⟩⟩)))));rw[AA]at MR;have ZX:∀(j:Nat)x u,ls[j]?=some x->Dr[j]?=some u->∃e,u=C8 e (x.map .str):=λj x u h1 h2=>by
   obtain⟨e,rfl⟩:=gk j (Ei x) u (by rw[AO,h1];rfl) h2;exact⟨e,rfl⟩
  refine bG ⟨by simp,by simp,by simp,by show 3<=100000;decide,rfl,pj l2 Dr Y X MR ZX,?_⟩;refine i7 8 rfl ?_;have OL:=Qq (a:=l2) (b:=Y) (d:=X) (ps:=ps) (A:=A) MR ZX;show Ws [.raw (Em K T (Cm Bz) sc),.own (t.map Hk.P),.is (.int i),.AH,.is (.lst (ns.map .str)),.is (.lst (Ls.map Lp.P)),.own (Ls.map Lp.P),.ow false (.tp [.nd .lst a us,C8 b (ps.map CP),C8 d (A.map nP)]),.is (OV.tp [.nd .lst l2 Dr,C8 Y (ps.map CP),C8 X (A.map nP)]).pv,o] _ _ _;rw[OL];have HB:∀x∈us,∃e xs,x=.nd .lst e xs/\xs.length<=60:=λx hx=>by
   obtain⟨j,N⟩:=List.mem_iff_getElem?.mp hx;obtain⟨O,_⟩:=List.getElem?_eq_some_iff.mp N;have QY:=AK (l:=ls) (FJ▸O);obtain⟨e,rfl⟩:=Be j _ x QY N;refine⟨e,_,rfl,?_⟩;rw[AA,AA];exact ll _ (BB QY)
  refine B0 (EC (wJ (i:=7) (λn A5=>∃(B7:List OV)(o:Slot),A5=[.raw (Em K T (Cm Bz) sc),.own (t.map Hk.P),.is (.int i),.AH,.is (.lst (ns.map .str)),.is (.lst (Ls.map Lp.P)),.own (Ls.map Lp.P),.ow false (.tp [.nd .lst a B7,C8 b (ps.map CP),C8 d (A.map nP)]),.is (HF ls ps A),o]/\B7.map OV.val=us.map OV.val/\∀x∈B7,∃e xs,x=.nd .lst e xs/\xs.length<=60+n) (Il (Ee rfl ⟨_,rfl,CL ⟨0,0,_,rfl,rfl,rfl,a,us,rfl,?_,⟨us,_,rfl,rfl,HB⟩,?_,?_,?_⟩⟩))))
  .intro x hx;obtain⟨e,xs,rfl,_⟩:=HB x hx;exact⟨e,rfl⟩
  .rintro n A5⟨B7,o,rfl,J,hx⟩;exact⟨_,_,B7,rfl,rfl,J⟩
  .rintro n x e A5 U Rr⟨B7,o,rfl,J,hx⟩;have O:n<us.length:=(List.getElem?_eq_some_iff.mp U).1;have R:B7.length=us.length:=by have:=ib List.length J;rwa [AA,AA]at this
   have L:B7[n]?=some B7[n]:=AK (R▸O);obtain⟨e',xs,ey,hxl⟩:=hx _ (BB L);rw[ey]at L;have ee:e'=e:=by
    have q:=ib (λl=>l[n]?) J;simp only[AO,U,L,L4]at q;have q2:OV.val (.nd .lst e' xs)=V.ref e:=(B3 q).trans Rr;cases q2;rfl
   subst ee;refine QD (i:=7) (ie (j:=9) (p:=[0,n]) rfl rfl (p7 L) ⟨_,_,_,rfl,rfl,by omega,Ny (bY ⟨by simp,?_⟩)⟩);rw[xy L];refine⟨_,_,rfl,?_,?_⟩
   .rw[<- J,XI];refine OG λk=>?_;rw[List.getElem?_set];split
    .next hk=>subst hk;rw[AO,L,i5 (by rw[AA];omega)];rfl
    .rfl
   .intro y nc;rcases List.mem_or_eq_of_mem_set nc with h|h
    .obtain⟨W,gx,rfl,h2⟩:=hx y h;exact⟨W,gx,rfl,by omega⟩
    .subst h;exact⟨_,_,rfl,by rw[BX];show xs.length+1<=_;omega⟩
  rintro A5⟨B7,s9',rfl,J,hx⟩;have R:B7.length=us.length:=by have:=ib List.length J;rwa [AA,AA]at this
  refine B0 (QD (Il (Ee rfl ⟨_,rfl,CL ⟨0,0,_,rfl,rfl,rfl,_,_,_,rfl,rfl,by omega,KN (SG (NN ⟨by decide,λl=>⟨by simp,?_⟩⟩))⟩⟩)));refine B0 (QD (Il (Ee rfl ⟨_,rfl,CL ⟨1,1,_,rfl,rfl,rfl,_,_,_,rfl,rfl,by rw[AA,AA];omega,Ny (Qw (Jn (CL (Jn (CL (NN ⟨by decide,by simp,?_⟩)))))) ⟩⟩)));refine B0 (QD (Il (Ee rfl ⟨_,rfl,CL ⟨2,2,_,rfl,rfl,rfl,_,_,_,rfl,rfl,by rw[AA,AA];omega,Ny (CL ⟨by simp,?_⟩)⟩⟩)));refine B0 (ZA1 rfl ?_);refine SO rfl (Qw (Jn (AI rfl (Jn (AI rfl (Jn (AI rfl (NN ⟨by show 3<=100000;decide,by rw[AA];omega,?_⟩))))))));refine⟨t++[⟨ns,Ls,ls,ps,A⟩],_,_,_,_,_,_,_,_,by rw[EK];rfl,by rw[BX];show _+1=_;omega,λh hh=>?_⟩;rcases List.mem_append.mp hh with h1|h1
  .exact AE h h1
  .rw[List.mem_singleton.mp h1];exact⟨hz,nd,hL,hg,ld⟩
 .rintro A5⟨t,s2,G,s4,I,D,C,B,o,rfl,wV,AE⟩;refine Lm 1 rfl ?_;refine B0 (EC (FK (λ_ _ A5=>∃s2 G s4 I D C B o:Slot,A5=[.raw (Em K T (Cm Bz) sc),.is (.lst (t.map Hk.P)),s2,G,s4,I,D,C,B,o]) (Dh (Cy (AI rfl ⟨_,.inl ⟨rfl,⟨_,_,_,_,_,_,_,_,rfl⟩,?_,?_⟩⟩)))))
  .rintro i p A5 S⟨s2,G,s4,I,D,C,B,o,rfl⟩;obtain⟨h,hh,rfl⟩:=List.mem_map.mp (BB S);obtain⟨hz,nd,hL,hg,ld⟩:=AE h hh;refine bh ⟨_,_,_,rfl,?_⟩;show Ws [.raw (Em K T (Cm Bz) sc),.is (.lst (t.map Hk.P)),s2,G,.is (.lst (h.ns.map .str)),.is (.lst (h.Ls.map Lp.P)),D,C,.is (HF h.ls h.ps h.A),o] _ _ _;refine B0 (E8 (IK (UM (cN (UC (Tj (tr:=false) (ns:=h.ns) 0 rfl (λF v h=>h.2) (Cs (Hs rfl (CU rfl ⟨rfl,FN (C5 (Cs (Hs rfl (CU rfl ⟨_,.inl ⟨rfl,CI ⟨_,⟨false,false,h.ns,h.Ls,rfl,⟨hz,nd⟩,hL,hg,rfl⟩,?_⟩⟩⟩))))⟩)))))))));rintro _⟨a,b,d,us,ls,ps,A,rfl,FJ,Be,ok,σ⟩;refine⟨rfl,?_⟩;rw[Qq FJ Be];obtain⟨e1,W,e3⟩:=σ.uniq ld;rw[e1,W,e3];refine AI rfl ⟨S9 K _ _ _,S9 K _ _ _,?_⟩;rw[eM (K:=K) 40 (S9 K _ _ _)];refine⟨false,rfl,FP (Ct ?_)⟩;refine E8 (Fs (E4 (wp_call (BQ (AI rfl (BQ (AI rfl (BQ (cN (UC (Tj (tr:=true) (ns:=h.ns) 0 rfl (λF v h=>h.2) (U9 rfl (CU rfl ⟨rfl,FN (C5 (U9 rfl (CU rfl ⟨_,.inr ⟨rfl,CI ⟨_,⟨true,true,h.ns,h.Ls,rfl,⟨hz,nd⟩,hL,hg,rfl⟩,?_⟩⟩⟩)))⟩)))))))))))));rintro _⟨a,b,d,us,ls,ps,A,rfl,FJ,Be,ok,σ⟩;refine⟨rfl,?_⟩;rw[Qq FJ Be];refine CI ⟨_,⟨h.ns,h.Ls,ls,ps,A,rfl,⟨hz,nd⟩,hL,hg,ok,rfl⟩,?_⟩;rintro _ rfl;exact⟨true,rfl,FP (Ct ⟨_,_,_,_,_,_,_,_,rfl⟩)⟩
  .rintro A5⟨s2,G,s4,I,D,C,B,o,rfl⟩;exact FC (GN rfl)
def all_mk{h:Heap}{fa f1 f2 f3 f4 f5 f6 f7 f8 f9 XY Y8 Ye bp cZ Z2 bw eL Zk Z1 df YJ Zt Xb fX gD Xt bP bo fY bT aD Zu ZM:Addr}{g1 g2 g3 g4 g5 g6 g7 g8 g9 oU lF xP gm l6 mF uo yJ m6 ug YD je r6 tV xX sj zW uY uI xw uX iN sx rN:FuncData}(X:K.In h)(G:h.Ns mainGlobals mg)(iI:mg "law"=some (.ref fa))
  
  (a1:nS K "_law_pot" (.ref f1)) (F1:AR K "_law_pot" "_law_pot" UK f1 g1)
  (a2:nS K "_law_take" (.ref f2)) (F2:AR K "_law_take" "_law_take" Uk f2 g2)
  (a3:nS K "_law_letters" (.ref f3)) (F3:AR K "_law_letters" "_law_letters" Rz f3 g3)
  (a4:nS K "_law_name" (.ref f4)) (F4:AR K "_law_name" "_law_name" WD f4 g4)
  (a5:nS K "_law_names" (.ref f5)) (F5:AR K "_law_names" "_law_names" T5 f5 g5)
  (a6:nS K "_law_row" (.ref f6)) (F6:AR K "_law_row" "_law_row" Sq f6 g6)
  (a7:nS K "_law_some_loop" (.ref f7)) (F7:AR K "_law_some_loop" "_law_some_loop" SJ f7 g7)
  (a8:nS K "_law_loops" (.ref f8)) (F8:AR K "_law_loops" "_law_loops" Qr f8 g8)
  (a9:nS K "is_gap" (.ref f9)) (F9:AR K "is_gap" "is_gap" Ug f9 g9)
  (oI:nS K "is_coming" (.ref XY)) (t9:AR K "is_coming" "is_coming" Pj XY oU)
  (iu:nS K "is_loop" (.ref Y8)) (xC:AR K "is_loop" "is_loop" WM Y8 lF)
  (wK:nS K "check_loop" (.ref Ye)) (uL:AR K "check_loop" "check_loop" Ua Ye xP)
  (ke:nS K "check_loops" (.ref bp)) (il:AR K "check_loops" "check_loops" W7 bp gm)
  (jI:nS K "finds_upper" (.ref cZ)) (zJ:AR K "finds_upper" "finds_upper" Qs cZ l6)
  (jf:nS K "greatest_pairing" (.ref Z2)) (ud:AR K "greatest_pairing" "greatest_pairing" Pq Z2 mF)
  (tT:nS K "has_all_of" (.ref bw)) (zd:AR K "has_all_of" "has_all_of" Vh bw uo)
  (uS:nS K "is_above" (.ref eL)) (o3:AR K "is_above" "is_above" UT eL yJ)
  (wG:nS K "numbers_above" (.ref Zk)) (wu:AR K "numbers_above" "numbers_above" Ql Zk m6)
  (uf:nS K "chain_down" (.ref Z1)) (nJ:AR K "chain_down" "chain_down" SV Z1 ug)
  (iR:nS K "line_of" (.ref df)) (S7:AR K "line_of" "line_of" Bz df YD/\YD.code=.ref cT/\PySem.W.codeHdIn K cT T=true)
  (wW:nS K "seats_of" (.ref YJ)) (sX:AR K "seats_of" "seats_of" RK YJ je)
  (tU:nS K "uppermost_untried" (.ref Zt)) (vi:AR K "uppermost_untried" "uppermost_untried" PY Zt r6)
  (z9:nS K "apart_of" (.ref Xb)) (jC:AR K "apart_of" "apart_of" Qt Xb tV)
  (uN:nS K "lines_of" (.ref fX)) (mS:AR K "lines_of" "lines_of" M7 fX xX)
  (qx:nS K "_law_whole" (.ref gD)) (md:AR K "_law_whole" "_law_whole" SH gD sj)
  (uj:nS K "_law_texts" (.ref Xt)) (oX:AR K "_law_texts" "_law_texts" Qx Xt zW)
  (rO:nS K "_law_lines_form" (.ref bP)) (oH:AR K "_law_lines_form" "_law_lines_form" Jo bP uY)
  (sO:nS K "_law_seats_right" (.ref bo)) (gy:AR K "_law_seats_right" "_law_seats_right" T3 bo uI)
  (vd:nS K "_law_within" (.ref fY)) (pR:AR K "_law_within" "_law_within" Vp fY xw)
  (tL:nS K "_law_fit" (.ref bT)) (ly:AR K "_law_fit" "_law_fit" VD bT uX)
  (mO:nS K "_law_apart" (.ref aD)) (kR:AR K "_law_apart" "_law_apart" OZ aD iN)
  (iU:nS K "_law_right" (.ref Zu)) (wg:AR K "_law_right" "_law_right" Oo Zu sx)
  (ak:nS K "law" (.ref ZM)) (cj:AR K "law" "law" K7 ZM rN)
  (qW:nN K "all")
  (mD:nN K "any")
  (yj:nN K "bool")
  (mP:nN K "enumerate")
  (kh:nN K "int")
  (j6:nN K "isinstance")
  (sE:nN K "len")
  (xp:nN K "list")
  (wD:nN K "max")
  (jv:nN K "min")
  (pN:nN K "range")
  (xI:nN K "set")
  (lY:nN K "sorted")
  (v5:nN K "str")
  (r8:nN K "tuple")
  (ZAD:nN K "zip")
  (ni:nS K "MOST_LOOPS" (.int 12 Sz))
  (vL:nS K "RULES" (.ref Im))
  {iC:Option Addr}{tG:Array (Option Value)}{xE:Nat}{tw oN oD:Tok}(xN:K.lookup Im=some ⟨.type "tuple", iC,.seq #[.str "none" tw,.str "ahead" oN,.str "all" oD] xE,tG⟩)
  (Hw:mainGlobals≠T)
  : ∃fd:FuncData,(∀(s:Shared)(v:Value),BindsTo s fd ⟨[v],[]⟩ [("script", v)])/\∀ZB:Heap,K.In ZB->ZB.Ns mainGlobals mg->ZB.BuiltinsAt mg T->E5 l.prog w K mg ZB De 17 fa fd ["script"] (NT K T (Cm Bz)):=by
 have e:=iI.symm.trans (Bd X G ak);cases e;have Ed:=Eh X G qW;have U2:=Eh X G mD;have SK:=Eh X G yj;have Qg:=Eh X G mP;have VC:=Eh X G kh;have FL:=Eh X G j6;have Ac:=Eh X G sE;have D8:=Eh X G xp;have WS:=Eh X G wD;have TK:=Eh X G jv;have Cn:=Eh X G pN;have GI:=Eh X G xI;have Dd:=Eh X G lY;have Uo:=Eh X G v5;have Et:=Eh X G r8;have Rq:=Eh X G ZAD;have VN:=Bd X G ni;have Se:=Bd X G vL;have SA:∀H,Ab K H Im [.str "none",.str "ahead",.str "all"]:=λH=>.inr ⟨_,_,_,xN,rfl,rfl,(by show 3<=sizeLine;decide +kernel),(.cons ⟨_,rfl⟩ (.cons ⟨_,rfl⟩ (.cons ⟨_,rfl⟩ .nil)))⟩;obtain⟨_,_,kV,dc,pm,an,cd,ct,_,rfl,_,_⟩:=id cj.ex;refine⟨PySem.W.fnOf "law" "law" (JX K7) (Dy K7) (AQ K7) .none kV dc pm an cd ct,λs v=>.of_eq rfl,λZB _ _ bA=>?_⟩;have VR:=mI (P:=l.prog) (w:=w) (ZB:=ZB) Ac F1 (Bd X G a1);have C0:=rg (P:=l.prog) (w:=w) (ZB:=ZB) F2 (Bd X G a2);have Np:=rW (P:=l.prog) (w:=w) (ZB:=ZB) F3 (Bd X G a3);have Vq:=mx Ac Np C0 F4 (Bd X G a4);have TH:=vE Vq Cn F5 (Bd X G a5);have TQ:=o4 C0 TH F6 (Bd X G a6);have Vn:=lh Ac C0 Dd Et F7 (Bd X G a7);have TV:=jO Ac C0 Cn Et Vn F8 (Bd X G a8);have VG:=pM (P:=l.prog) (w:=w) (ZB:=ZB) Ac F9 (Bd X G a9);have VF:=sR (P:=l.prog) (w:=w) (ZB:=ZB) Dd Ed D8 GI t9 (Bd X G oI);have WB:=ym VF VG Se SA xC (Bd X G iu);have VO:=my WB uL (Bd X G wK);have WE:=vB Ac VO VN il (Bd X G ke);have Ip:=jG (P:=l.prog) (w:=w) (ZB:=ZB) zJ (Bd X G jI);have SX:=k4 Ac Cn ud (Bd X G jf) Ip;have WR:=xi (P:=l.prog) (w:=w) (ZB:=ZB) Ac GI zd (Bd X G tT);have VT:=mH WR o3 (Bd X G uS);have Uh:=qG Ac Cn VT wu (Bd X G wG);have UJ:=k9 (P:=l.prog) (w:=w) (ZB:=ZB) nJ (Bd X G uf);have Tr:=y3 (P:=l.prog) (w:=w) (ZB:=ZB) Ac Dd S7.2.1 S7.2.2 bA Hw S7.1 (Bd X G iR);have Rv:=xq (P:=l.prog) (w:=w) (ZB:=ZB) Ac Qg sX (Bd X G wW);have Ub:=vT (P:=l.prog) (w:=w) (ZB:=ZB) vi (Bd X G tU);have Sm:=sM Dd Ub jC (Bd X G z9) Ip;have Nq:=ux Ac Cn Sm UJ WE SX Tr Uh Rv mS (Bd X G uN);have RH:=nE (P:=l.prog) (w:=w) (ZB:=ZB) SK VC FL md (Bd X G qx);have Tf:=sT (P:=l.prog) (w:=w) (ZB:=ZB) Ed D8 FL Uo oX (Bd X G uj);have Vd:=su Ac Et Ed D8 FL Tf RH oH (Bd X G rO);have SY:=iE (P:=l.prog) (w:=w) (ZB:=ZB) Ac Dd D8 Rq gy (Bd X G sO);have P1:=yr (P:=l.prog) (w:=w) (ZB:=ZB) GI pR (Bd X G vd);have Rp:=oh P1 ly (Bd X G tL);have Wd:=sG Ac Cn Rp U2 kR (Bd X G mO);have R5:=oE Ac Dd Ed Wd Vd SY wg (Bd X G iU);exact jK Ac Cn Et D8 TV VR R5 TQ Nq WS TK cj (Bd X G ak)
def walk{q:Program}{loose:List Str}{XP:(ZBz)->Heap->Prop}{YP:World->Heap->Prop}{d:DefRec}{K:Params->ZBx}(hn:l.most=some 63)(Mo:d.params.defaults=[])
  (hY:∀(w:World)(h:Heap),YP w h->(K w.params).In h) (hT:∀(w:World)(h:Heap),YP w h->h.get? T=some (PySem.W.tabObj #[])) (nT:∀w:World,(K w.params).lookup T=none) (hC:∀w:World,PySem.W.codeHdIn (K w.params) c T=true)
  (F:∀(w:World)(mg:ZBz)(fa:Addr)(h:Heap),(K w.params).In h->h.Ns mainGlobals mg->mg d.name=some (.ref fa)->
   ∃fd:FuncData,(∀(s:Shared)(u:Value),BindsTo s fd ⟨[u],[]⟩ [("script", u)])/\∀ZB:Heap,(K w.params).In ZB->ZB.Ns mainGlobals mg->ZB.BuiltinsAt mg T->E5 l.prog w (K w.params) mg ZB De 17 fa fd ["script"] (NT (K w.params) T (Cm Bz))) :
  PySem.W.WalkO q loose XP YP l.row.toRowW d [] (λf vs=>PySem.call f vs):=
 L2.rG (n:=63) (T:=T) (c:=c) (pos:=Cm Bz) (qn:=Kl) (k:=17) (x:="script") (CX:=λ_=>De) (sp:=λw=>NT (K w.params) T (Cm Bz)) hn (by decide) Mo ⟨rfl,by decide,by decide⟩ hY hT hC nT F (λ_ _ a ns hl hT hS=>⟨hT,a,ns,rfl,hS,hl,λ_=>rfl⟩) λ_ _ _ _ _ z=>z
end Pf
open PySem.W
local macro_rules | `(tactic| walk_at "kF")=>`(tactic| (refine' L2.vM ?_ ?_ ?_;all_goals try k_is;all_goals k_is))
set_option maxRecDepth 100000 in
set_option maxHeartbeats 0 in
theorem PySem.Challenge.cw_stirround_k44_whole_fewest_lines_holds : PySem.Challenge.rw_stirround_k44_whole_fewest_lines.Holds := by
 w_on;o_law;k_head;(case hw=>w_witness2)
 k_fill
 refine Pf.walk (c:=?c) (l:=PySem.Challenge.rw_stirround_k44_whole_fewest_lines) rfl rfl (λw h Y=>PySem.W.km_in_of Y) (λw h Y=>PySem.W.km_tabs_of Y _ (Aj ..)) (λw=>by kernel_rfl) ?hC ?F
 case F=>
  intro w mg fa h KX G NJ;apply Pf.all_mk (cT:=?c) KX G NJ
  any_goals first|k_is|(show _=_;k_is)|kernel_rfl|walk_at "kF" | (refine⟨?_,?_,?_⟩;(walk_at "kF");rfl;kernel_rfl)|decide
 case hC=>
  intro w;kernel_rfl
#print axioms PySem.Challenge.cw_stirround_k44_whole_fewest_lines_holds
