import PyProof.Rows.All
import Wide.All
import OpenK.AllK
import Wide.FinOn
import Lean
import PyProof.EqAt
import PyProof.EqKinds
import PyProof.TupleCall
import KE.KRevIter
import PyProof.CallType
import PyProof.EnumMake
import PyProof.EnumFor
import PyProof.Draws
import PyProof.Rows.CallKwBuiltin
import PyProof.StrBlockH
import KE.KIntText
import PyProof.Rows.SortStr
import PyProof.TupleIter
import PyProof.ZipIter
import PyProof.Rows.ZipGen
import PyProof.Rows.TupAdd
import KE.KLcPair
import PyProof.IsRules
import PyProof.ListRange
import PyProof.NeKinds
import KE.KTryMore
import OpenK.KOwn
import PyProof.ExcInit
import PyProof.FString
import PyProof.ReprStr
import PyProof.StrLawsRepr
import PyProof.CallStr
import OpenK.KCls
import PyProof.ExcArgsOwn
import PyProof.Rows.StrJoin2
import PyProof.FactsAll.set_2
import PyProof.MeetsSeq2
import PyProof.Rows.Range3
import PyProof.Rows.ChunkLeaf
import PyProof.DictWalks
import PyProof.ListMulRoad
import PyProof.ListCopy
import PyProof.Rows.SumAny
import PyProof.ListIndex
import PySem.Challenge.RW_stirround_k64_tickets_told
def mG:=@PySem.wpAny_bind
def mf:=@PySem.wpAny_pure
def nV:=@decide_eq_true
def nr:=@if_neg
def pR:=@if_pos
def qH:=@of_decide_eq_true
def qQ:=@decide_eq_false
def qS:=@PySem.wpAny_newObj_type
def qW:=@PySem.wpAny_callSpecial?_slot
def rJ:=@PySem.wpAny_mono
def rL:=@PySem.wpAny_call_entry
def rq:=@PySem.wpAny_truthy_bool
def sF:=@PySem.wpAny_holding
def u9:=@beq_self_eq_true
def uC:=@congrArg
def uI:=@PySem.codeAny_builtin
def uP:=@PySem.wpAny_Call_Name_kw
def uS:=@PySem.builtinLookup_eq_fast
def uc:=@PySem.wpAny_typeOf
def vb:=@PySem.isSubtype_type
def wC:=@PySem.wpAny_updateSeq
def wK:=@PySem.wpAny_isInstance
def wM:=@PySem.wpAny_setField
def wa:=@PySem.wpAny_passesOwn
def xG:=@PySem.wpAny_setState_of
def y4:=@PySem.plainId_quiet
def yT:=@PySem.wpAny_setEntries_of
def ya:=@or_false
def yc:=@PySem.wpAny_askSetting
def yg:=@PySem.wpAny_specialOf
def z8:=@PySem.wpAny_ite_split
def z9:=@PySem.typeLookup_type
def zN:=@PySem.wpAny_pyIter_enum
def ZA0:=@PySem.wpAny_of_eq
def ZA5:=@PySem.wpAny_field
def ZA6:=@PySem.codeAny_extend_loopS
def ZA8:=@PySem.wpAny_pyIter_tuple
def ZAB:=@PySem.tupleKind_room_in1
def ZAC:=@PySem.codeAny_mono
def ZAD:=@PySem.wpAny_rule
def ZAG:=@PySem.wpAny_attempt
def ZAK:=@PySem.wpAny_execs_nil
def ZAN:=@PySem.wpAny_load
def ZAO:=@PySem.wpAny_seqItems
def ZAQ:=@PySem.wpAny_runValue
def ZAS:=@PySem.wpAny_fieldsOf
def ZAT:=@PySem.wpAny_letOwnedTupleGo_enum
def ZAU:=@PySem.wpAny_pyIter_list
def ZAW:=@PySem.wpAny_pyIter_dict
def ZAY:=@PySem.fits_of_scanBound
def ZAa:=@PySem.noFill_tuple_add
def ZAd:=@PySem.call_meets
def ZAi:=@PySem.sizeLine_eq
def ZAj:=@PySem.isSubtype_stop
def ZAp:=@if_true
def ZAw:=@if_false
def AX:=@List.length_map
def Ao:=@Nat.le_refl
def As:=@PySem.W.mg_of
def Az:=@List.getElem?_map
def B4:=@List.not_mem_nil
def B9:=@List.getElem?_eq_getElem
def BC:=@PySem.Heap.lt_size
def BE:=@PySem.Heap.get?_push_of_some
def BH:=@List.length_cons
def BJ:=@Nat.ne_of_lt
def BL:=@List.length_append
def BP:=@Ne.symm
def BR:=@PySem.Heap.get?_push_size
def BS:=@Option.some.inj
def Bd:=@List.length_take
def Bn:=@List.map_cons
def Bo:=@List.size_toArray
def Bu:=@List.nodup_append
def CC:=@List.append_assoc
def CG:=@List.getElem?_set_ne
def CH:=@Nat.zero_le
def CS:=@List.map_append
def CZ:=@Nat.le_trans
def Ci:=@List.getElem?_set_self
def Cj:=@List.length_drop
def DB:=@Bool.false_ne_true
def DC:=@List.mem_cons_self
def DD:=@List.mem_of_getElem?
def DN:=@List.mem_cons
def DO:=@Nat.lt_of_lt_of_le
def DZ:=@List.mem_cons_of_mem
def Dl:=@PySem.Heap.size_push
def E4:=@Bool.and_eq_true
def ES:=@List.getD_eq_getElem?_getD
def ET:=@Nat.le_succ
def Ef:=@List.mem_append_right
def Et:=@List.append_nil
def FQ:=@PySem.Heap.get?_update_self
def FR:=@PySem.W.mg_none_of
def Fq:=@List.length_filter_le
def Fs:=@List.map_map
def Ft:=@List.zip_cons_cons
def GO:=@Array.length_toList
def GP:=@PySem.Heap.get?_update_other
def GQ:=@Int.eq_ofNat_of_zero_le
def GR:=@PySem.F.plainAttrs_list
def Gv:=@List.all_eq_true
def Gw:=@List.lookup_cons
def Gx:=@List.mem_append
def Gy:=@List.take_append_drop
def Gz:=@PySem.PassesOwn.never
def Hk:=@List.length_set
def Hl:=@List.take_length
def Hm:=@Nat.lt_of_le_of_lt
def Hn:=@Nat.lt_succ_of_lt
def Ho:=@PySem.W.kia_one
def Im:=@List.getElem?_append_left
def Io:=@List.mem_append_left
def Ip:=@PySem.Obj.data_mapFields
def Jo:=@Int.toNat_natCast
def Jp:=@Nat.min_eq_left
def Jq:=@Nat.ne_of_gt
def L8:=@Int.emod_lt_of_pos
def L9:=@Int.emod_nonneg
def LA:=@List.getElem_mem
def LB:=@Nat.le_of_lt
def LC:=@Nat.lt_irrefl
def LD:=@Nat.lt_succ_self
def LF:=@PySem.F.slot_list_append
def LG:=@PySem.F.type_list_append
def LH:=@PySem.mem_of_lookup
def Md:=@PySem.Around.under_plainId
def Me:=@Bool.eq_iff_iff
def Mf:=@Bool.true_and
def Mg:=@PySem.Heap.SameBut.update
def Mh:=@List.any_cons
def Mi:=@List.filter_append
def Mj:=@List.getElem?_append_right
def Ml:=@List.length_range
def Mm:=@List.map_drop
def Mn:=@List.map_take
def Ou:=@Array.getElem?_toList
def Ov:=@List.filter_cons
def Ow:=@List.find?_cons
def Ox:=@List.getElem?_eq_none
def Oy:=@List.length_reverse
def Oz:=@List.length_zip
def P0:=@List.nodup_nil
def P1:=@List.take_of_length_le
def P2:=@Nat.le_total
def P4:=@Nat.min_eq_right
def P5:=@Nat.sub_zero
def P6:=@PyProof.Rows.callWith_type1
def Se:=@Array.getElem?_eq_getElem
def Sf:=@List.Perm.refl
def Sh:=@List.all_cons
def Si:=@List.drop_zero
def Sj:=@List.eraseIdx_cons_succ
def Sk:=@List.length_nil
def Sl:=@List.mem_erase_of_ne
def Sm:=@List.mem_filter
def Sn:=@List.set_cons_succ
def So:=@List.set_cons_zero
def Sq:=@List.take_succ_eq_append_getElem
def Sr:=@Nat.succ.inj
def Ss:=@PySem.Obj.isFreed_of_fields
def Su:=@Option.map_some
def ZO:=@Bool.and_false
def ZP:=@PySem.F.plain_list_iadd
def ZQ:=@PySem.F.slot_tuple_iterator_next
def ZR:=@PySem.ItemsOf.nil
def ZS:=@List.cons_append
def ZT:=@List.cons_lt_cons_iff
def ZU:=@List.foldl_cons
def ZV:=@List.getElem?_drop
def ZW:=@List.getElem_idxOf
def ZX:=@List.idxOf_append
def ZY:=@List.length_erase_of_mem
def ZZ:=@List.map_congr_left
def Za:=@List.mem_of_mem_take
def Zb:=@List.nil_append
def Zc:=@List.nodup_cons
def Zd:=@List.of_mem_zip
def Ze:=@List.set_set
def Zf:=@Nat.le_succ_of_le
def Zg:=@Nat.min_self
def Zh:=@PySem.Obj.cls_mapFields
def Zi:=@Option.isSome_map
def Zj:=@PyProof.Rows.slot_tuple_getitem
def Zk:=@PySem.F.slot_list_index
def Zl:=@PySem.Walks.dictKeys
def lC:=@PySem.Around.in1_handled
def lD:=@Array.getElem?_eq_none
def lE:=@Bool.and_true
def lF:=@PySem.Calls.callWith_builtin
def lG:=@PySem.Calls.spliced_cons
def lH:=@PySem.Calls.spliced_nil
def lI:=@Int.toNat_of_nonneg
def lJ:=@List.drop_length
def lK:=@List.ext_getElem
def lL:=@List.ext_getElem?
def lM:=@List.filterMap_cons
def lN:=@List.filter_map
def lO:=@List.forIn_nil
def lP:=@List.getElem?_range
def lQ:=@List.getElem?_replicate
def lR:=@List.getElem?_take_of_lt
def lS:=@List.idxOf_cons
def lT:=@List.length_pos_of_mem
def lU:=@List.length_replicate
def lV:=@List.length_singleton
def lW:=@List.map_id'
def lX:=@List.map_nil
def lY:=@List.mem_of_mem_drop
def lZ:=@List.perm_middle
def la:=@Nat.le_of_eq
def lb:=@Nat.le_of_lt_succ
def lg:=@Nat.min_le_right
def lh:=@PySem.Paired.length
def lq:=@PyProof.Rows.F.plain_set_update_loop
def lr:=@PySem.F.args_tuple_add_2
def lu:=@PySem.F.entry_tuple_add
def lx:=@PySem.F.plain_extend_loop
def ly:=@PySem.F.slot_tuple_add
def lz:=@PySem.F.type_list_index
def m6:=@PySem.W.callWith_K
def m7:=@PySem.W.plainGet_of
def ZFq:=@Array.toList_push
def ZFr:=@PySem.Calls.Name_function_global
def ZFs:=@PySem.F.args_tuple_iterator_next_1
def ZFt:=@PySem.F.entry_tuple_iterator_next
def ZFu:=@Int.lt_of_le_of_lt
def ZFv:=@List.Pairwise.map
def ZFw:=@List.Sublist.refl
def ZFx:=@List.any_eq_false
def ZFy:=@List.any_eq_true
def ZFz:=@List.dropLast_eq_take
def ZG0:=@List.drop_eq_getElem_cons
def ZG1:=@List.drop_of_length_le
def ZG2:=@List.eraseIdx_sublist
def ZG3:=@List.filter_congr
def ZG4:=@List.filter_eq_self
def ZG5:=@List.foldl_append
def ZG6:=@List.getElem?_toArray
def ZG7:=@List.getElem_inj
def ZG8:=@List.getLastD_cons
def ZG9:=@List.getLast_eq_getLastD
def ZGA:=@List.length_eraseIdx
def ZGB:=@List.length_eraseIdx_of_lt
def ZGC:=@List.map_reverse
def ZGD:=@List.mem_map_of_mem
def ZGE:=@List.mem_of_mem_eraseIdx
def ZGF:=@List.mem_of_mem_head?
def ZGG:=@List.range'_succ
def ZGH:=@List.replicate_succ
def ZGI:=@List.reverse_cons
def ZGJ:=@List.take_sublist
def ZGK:=@Nat.le_of_not_lt
def ZGL:=@Nat.lt_trichotomy
def ZGM:=@Nat.not_lt_of_le
def ZGN:=@Nat.succ_ne_self
def ZGO:=@Option.getD_none
def ZGP:=@Option.getD_some
def ZGQ:=@Option.isSome_some
def ZGR:=@PyProof.Rows.F.entry_set_update_loop
def ZGS:=@PySem.F.plain_set_new
def ZGT:=@PySem.F.slot_dict_pop
def ZGU:=@PySem.F.slot_list_insert
def ZGV:=@PySem.F.slot_tuple_index
def ZGW:=@PySem.W.cellsFrom_some
def ZGX:=@PySem.W.kitx_dict
def ZGY:=@PySem.W.kitx_list
def ZGZ:=@PySem.W.methodCall_KW
def ZGa:=@PySem.strKind_is
open PySem PySem.Spec PyProof.Rows
abbrev ZHP:=PySem.W.Frag
abbrev ZHQ:=(List (Addr×Obj))
abbrev ZHR:=(Str->Option Value)
namespace PySem.W.Fast
def tw8144628758717475152:=0
def tw9043417275986758066:=0
def tw14860544242166849843:=0
def tw9031677605125063168:=0
def tw10610205593655825270:=0
def tw16038114895238762631:=0
def tw10784289088541654862:=0
def tw11580108154697074304:=0
def tw12771528055915746631:=0
def tw14811449421245380053:=0
def tw8677214178539249223:=0
def tw12886632302982971411:=0
def tw1750934632143158604:=0
def tw5834857162598947719:=0
def tw11513554768681100408:=0
def tw15390033583413425007:=0
def tw3422614408137846515:=0
def tw13207156992769436143:=0
def tw6862535999298610700:=0
def tw6684931073901921949:=0
def tw2844836918011900904:=0
def tw6506390425673704766:=0
def tw7589696437306467423:=0
def tw5293312108353619902:=0
def tw10116558065150144551:=0
def tw9643396968964967915:=0
def tw5605115706116714518:=0
def tw1749775429286731682:=0
def tw9410514225390601618:=0
def tw10336599326834006321:=0
def tw180369069946320301:=0
def tw375528559665678455:=0
def tw8687378966913769120:=0
def tw5500750701473265636:=0
def tw7379926204539677208:=0
def tw7037599766763831307:=0
def tw3780830049746498058:=0
def tw9056506251994739075:=0
def tw6961372667393389452:=0
def tw3553151921473669534:=0
def tw235057999343468590:=0
def tw5992661999611577521:=0
def tw11108947465504509575:=0
def tw16984984800088469171:=0
def tw5439690443220581446:=0
def tw13001718966582039713:=0
def tw9139572896467582955:=0
def tw18440033118135134267:=0
def tw2800550305815743123:=0
def tw527222120761053585:=0
def tw434060329942149841:=0
def tw5159932565981187772:=0
def tw5979731705990229342:=0
def tw7455719555913681998:=0
def tw2008583748097208946:=0
def tw2142379576596473077:=0
def tw7506168173095950929:=0
def tw16524139734873715949:=0
def tw12723348696135073983:=0
def tw6799381827355749935:=0
def tw834764660027694181:=0
def tw939829888334717931:=0
def tw14046348212595175062:=0
def tw2015338563232319650:=0
def tw5722545096459198750:=0
def tw1917066598331884400:=0
def tw10653279783529977168:=0
def tw3325730101657964076:=0
def tw2931155550263809265:=0
def tw1707527758765250487:=0
def tw1343405581772323224:=0
def tw16560153749539484568:=0
def tw13224984678061797288:=0
def tw17442261435327706559:=0
def tw14137653813598763955:=0
def tw6212051712387663433:=0
def tw4680454469770856832:=0
def tw5341847406465515385:=0
def tw3526110722291729497:=0
def tw11223634795496951360:=0
def tw14932516898367998648:=0
def tw16644293894133177612:=0
def tw11671177478255182124:=0
def tw13948045281250765243:=0
def tw14686412739259075741:=0
def tw7172243630121072073:=0
def tw454499717550990960:=0
def tw2316929336369775798:=0
def tw10976971508371936542:=0
def tw12786835101273067698:=0
def tw213177670644742421:=0
def tw1406294059139210318:=0
def tw14072759185247150325:=0
def tw2913476768008175904:=0
def tw1242260025674154250:=0
def tw6249166643218246879:=0
def tw7247037244325185891:=0
def tw6912825164746349681:=0
def tw10363275604070268827:=0
def tw15856002346244292685:=0
def tw14546998020864412116:=0
def tw14227661530635688578:=0
def tw9791698253405627747:=0
def tw15754978183257632639:=0
def tw9149129832813708879:=0
def tw6841094557773583072:=0
def tw5958930011981596840:=0
def tw17089688974889560020:=0
def tw7706016156429495589:=0
def tw1808396337043810477:=0
def tw17913116793669504670:=0
def tw17186706713439678221:=0
def tw11445763989695242569:=0
def tw8848725619493689055:=0
def tw11492603885146642092:=0
def tw14520987554996532663:=0
def tw3983639494788409149:=0
def tw11106906319464512515:=0
def tw11104275011342401623:=0
def tw16161019589413647523:=0
def tw10375665134104033165:=0
def tw14061316840426454151:=0
def tw8239166581706224428:=0
def tw1573047352268918959:=0
def tw12530316819865952048:=0
def tw9055037723655072485:=0
def tw11079236776630475296:=0
def tw7190548762644333457:=0
def tw8662570587049015277:=0
def tw15180120942336845357:=0
def tw10298115005042641635:=0
def tw11571550944582691690:=0
def tw13730331763427288895:=0
def tw5727806847901556568:=0
def tw3791797218588696261:=0
def tw15061731077550575584:=0
def tw12692801759741866012:=0
def tw14834056440173031343:=0
def tw5227426068195843786:=0
def tw3616211188620841797:=0
def tw16895606272501605136:=0
def tw608974717940788028:=0
def tw10103522438092979760:=0
def tw1172476875458832390:=0
def tw10040180602197863276:=0
def tw4180277378693925028:=0
def tw6732566554066742516:=0
def tw9367469692935905395:=0
def tw6409280160763353339:=0
def tw15554301995603023664:=0
def tw7356853714198102783:=0
def tw18186770877183028598:=0
def tw573751337482035388:=0
def tw8376643130463620240:=0
def tw11494516102566979193:=0
def tw11806491358048129431:=0
def tw1554155110002266147:=0
def tw14541709815220856098:=0
def tw3583079058910387809:=0
def tw1148713690477226951:=0
def tw8057048482787660709:=0
def tw12229335560172337502:=0
def tw12777425878920984289:=0
def tw2019633645893847926:=0
def tw2543263424623180631:=0
def tw12303270319123294044:=0
def tw7408405738964648286:=0
def tw14779872242346639440:=0
def tw8823247966801872481:=0
def tw15690827328082628762:=0
def tw16652776695978260290:=0
def tw9856660423292896158:=0
def tw6527063024254825034:=0
def tw7488278988628586784:=0
def tw1533602078573436064:=0
def tw4394275789402794696:=0
def tw11064689144558682958:=0
def tw11967643508294466301:=0
def tw17786671348778515895:=0
def tw4233564369623281993:=0
def tw13708116098935092155:=0
def tw10184622763225146134:=0
def tw14720947766670283701:=0
def tw13205997109063915674:=0
def tw9061759745307011096:=0
def tw16771713472186174069:=0
def tw9104103476719101409:=0
def tw12890066525802567047:=0
def tw9526338249772994337:=0
def tw16871084406398374098:=0
def tw4666812534713100977:=0
def tw7585423326793677625:=0
def tw3052441144718080232:=0
def tw7176043799271358131:=0
def tw676321357450427411:=0
def tw5571227795656075731:=0
def tw1208576947261845459:=0
def tw9394967151670221540:=0
def tw11507079566230010236:=0
def tw3625365796515777791:=0
def tw15549710502366952595:=0
def tw2315728209783219686:=0
end PySem.W.Fast
set_option bootstrap.genMatcherCode false
set_option Elab.async false
set_option linter.all false
set_option maxRecDepth 100000
namespace L2
variable {α κ:Type}{C a b dx it:Addr}{c cd u:Value}{w:World}{base h':Heap}{m name qual x:Str}{e tg:Expr}{j5 pins:ZHQ}{s s':Shared}{g':Array GenState}{i j n t' tk:Nat}{d':Drawn}{ch fp:List Addr}{N ks ns ps:List Str}{M:Model}{A:Around}{E Q:Value->Shared->Prop}{ZGp pos:Pos}{op:CmpOp}{es rest:List Expr}{f:Value->Value->Sem Value}{pl:Sem Bool}{ds us:List Value}{mA mg:ZHR}{prog:Program}{kw:List (Str×Value)}{fd:FuncData}{outer:List Env}{sc scope:Scope}
abbrev Key:=Sum Int Str
def IA:Key->Value->Bool
 | .inl k,v=>Value.isInt k v
 | .inr x,v=>Value.isStrOf x v
def xh (w:World):Key->Int
 | .inl k=>hashInt k
 | .inr x=>hashStr w x
theorem G2:∀{k:Key}{v:Value},IA k v=true->(∃i t,k=Sum.inl i/\v=Value.int i t)∨(∃x t,k=Sum.inr x/\v=Value.str x t)
 | .inl i,v,h=>by
  obtain⟨t,e⟩:=Value.isInt_shape (k:=i) (v:=v) h;exact .inl ⟨i,t,rfl,e⟩
 | .inr x,v,h=>by
  obtain⟨t,e⟩:=Value.isStrOf_shape (x:=x) (v:=v) h;exact .inr ⟨x,t,rfl,e⟩
theorem oO (i:Int)(t:Tok):IA (.inl i) (.int i t)=true:=by simp[IA,Value.isInt]
theorem ZAn (x:Str)(t:Tok):IA (.inr x) (.str x t)=true:=by simp[IA,Value.isStrOf]
theorem ZCD (a b:Int):decide ((Sum.inl a:Key)=Sum.inl b)=(a == b):=by
 by_cases e:a=b
 ·subst e;simp
 ·have h:¬ (Sum.inl a:Key)=Sum.inl b:=fun q=>e (Sum.inl.inj q);rw[qQ h];exact(beq_eq_false_iff_ne.mpr e).symm
theorem uV (a b:Str):decide ((Sum.inr a:Key)=Sum.inr b)=decide (a=b):=by
 by_cases e:a=b
 ·subst e;simp
 ·have h:¬ (Sum.inr a:Key)=Sum.inr b:=fun q=>e (Sum.inr.inj q);rw[qQ h,qQ e]
theorem rR (a:Int)(b:Str):decide ((Sum.inl a:Key)=Sum.inr b)=false:=qQ (fun q=>nomatch q)
theorem ZEL (a:Str)(b:Int):decide ((Sum.inr a:Key)=Sum.inl b)=false:=qQ (fun q=>nomatch q)
def C1 (prog:Program)(w:World):PySem.KeyKind prog w Key where
 is:=IA
 hash:=xh w
 inj:=fun v a b ha hb=>by
  rcases G2 ha with⟨i,t,rfl,rfl⟩|⟨x,t,rfl,rfl⟩
  ·rcases G2 hb with⟨j,u,rfl,e⟩|⟨y,u,rfl,e⟩
   ·injection e with e1 _;rw[e1]
   ·exact nomatch e
  ·rcases G2 hb with⟨j,u,rfl,e⟩|⟨y,u,rfl,e⟩
   ·exact nomatch e
   ·injection e with e1 _;rw[e1]
 byValue:=fun k v h=>by
  rcases G2 h with⟨i,t,rfl,rfl⟩|⟨x,t,rfl,rfl⟩ <;> rfl
 pyHash:=fun hv h=>by
  rcases G2 hv with⟨i,t,rfl,rfl⟩|⟨x,t,rfl,rfl⟩
  ·exact wpAny_pyHash_int h
  ·exact wpAny_pyHash_str h
 eqBool:=fun hu hv h=>by
  rcases G2 hu with⟨i,t,rfl,rfl⟩|⟨x,t,rfl,rfl⟩
  ·rcases G2 hv with⟨j,u,rfl,rfl⟩|⟨y,u,rfl,rfl⟩
   ·rw[ZCD] at h;exact wpAny_eqBool_int h
   ·rw[rR] at h;exact SeqAt.EqAt.int_str i t y u _ _ _ _ h
  ·rcases G2 hv with⟨j,u,rfl,rfl⟩|⟨y,u,rfl,rfl⟩
   ·rw[ZEL] at h;exact SeqAt.EqAt.str_int x t j u _ _ _ _ h
   ·rw[uV] at h;exact wpAny_eqBool_str h
 «strs»:=fun k x t v h=>by
  rcases G2 h with⟨i,u,rfl,e⟩|⟨y,u,rfl,e⟩
  ·exact nomatch e
  ·injection e with e1 _
   subst e1;cases v <;> rfl
theorem rT (prog:Program)(w:World)(i:Int)(t:Tok):(C1 prog w).is (.inl i) (.int i t)=true:=oO i t
theorem ZAX (prog:Program)(w:World)(x:Str)(t:Tok):(C1 prog w).is (.inr x) (.str x t)=true:=ZAn x t
inductive V where
 | AF | bl (b:Bool) | int (i:Int) | str (x:Str) | GG (b:Array UInt8) | Jz (b:UInt64) | ref (a:Addr) | ty (n:String)
 deriving DecidableEq
variable {v y:V}{DH vs:List V}
def RelV:V->Value->Prop
 | .AF,u=>u=Value.none
 | .bl b,u=>u=Value.bool b
 | .int i,u=>∃t,u=Value.int i t
 | .str x,u=>∃t,u=Value.str x t
 | .GG b,u=>∃t,u=Value.bytes b t
 | .Jz b,u=>∃t,u=Value.float b t
 | .ref a,u=>u=Value.ref a
 | .ty n,u=>u=Value.type n
abbrev Vals:List V->List Value->Prop:=Paired RelV
theorem Vals.length {xs:List V}{us:List Value}(r:Vals xs us):xs.length=us.length:=lh r
theorem Vals.get:∀{xs:List V}{us:List Value}{i:Nat}{x:V},Vals xs us->xs[i]?=some x->∃u,us[i]?=some u/\RelV x u
 | _,_,_,_,.nil,e=>by simp at e
 | _,_,0,_,.cons r _,e=>by simp at e;subst e;exact⟨_,rfl,r⟩
 | _,_,i+1,x,.cons _ t,e=>by
  obtain⟨u,h1,h2⟩:=Vals.get (i:=i) (x:=x) t (by simpa using e)
  exact⟨u,by simpa using h1,h2⟩
theorem Vals.set {x:V}{u:Value}(r:RelV x u):∀{xs:List V}{us:List Value}(i:Nat),Vals xs us->Vals (xs.set i x) (us.set i u)
 | _,_,_,.nil=>.nil
 | _,_,0,.cons _ t=>.cons r t
 | _,_,i+1,.cons q t=>.cons q (Vals.set r i t)
theorem Vals.append:∀{xs ys:List V}{us ws:List Value},Vals xs us->Vals ys ws->Vals (xs++ys) (us++ws)
 | _,_,_,_,.nil,s=>s
 | _,_,_,_,.cons r t,s=>.cons r (Vals.append t s)
theorem Vals.take:∀{xs:List V}{us:List Value}(n:Nat),Vals xs us->Vals (xs.take n) (us.take n)
 | _,_,0,_=>.nil
 | _,_,_+1,.nil=>.nil
 | _,_,n+1,.cons r t=>.cons r (Vals.take n t)
theorem Vals.drop:∀{xs:List V}{us:List Value}(n:Nat),Vals xs us->Vals (xs.drop n) (us.drop n)
 | _,_,0,r=>r
 | _,_,_+1,.nil=>.nil
 | _,_,n+1,.cons _ t=>Vals.drop n t
def EK:Option V->Option Value->Prop
 | some v,some u=>RelV v u
 | none,none=>True
 | _,_=>False
def KV:List (κ×V)->List (κ×Value)->Prop:=Paired fun(p:κ×V) (q:κ×Value)=>p.1=q.1/\RelV p.2 q.2
def kV:Key->V
 | .inl i=>.int i
 | .inr x=>.str x
inductive HO where
 /-- a list -/
 | lst (xs:List V)
 /-- a tuple (never changes) -/
 | tup (xs:List V)
 /-- a dict y8 keys are ints and texts;one y8 keys are tuples of ints and texts (Gi empty one is both) -/
 | dK (A6:List (Key×V)) | dT (A6:List (List Key×V))
 /-- a set of ints: A4 members,A4 size -/
 | set (S:Int->Bool) (n:Nat)
 /-- an instance of Gi class at C,A4 dict at dx,A4 attributes -/
 | ins (C dx:Addr) (fs:List (Str×V))
 /-- Gi dict of Gi instance at x -/
 | own (x:Addr)
 /-- Gi dict of an exception -/
 | xd (fs:List (Str×V))
 /-- a bound method,f of x -/
 | met (f x:Addr)
 /-- a range object lo,lo+1,.. below hi -/
 | Vi (lo hi:Int)
 /-- a o8 ZH5 is known to Gi object (Gi jV;a dict while a loop walks it): read,never written while it is so -/
 | CM (o:Obj) (u:HO)
 /-- a code ZGv table -/
 | IK (ps:Array Value)
 /-- any other o8,by zO is true of A4 one object (a def of ZGf own: ZEQ a S n:=HO.ext fun h=>..) -/
 | ext (φ:Heap->Prop)
variable {o o':HO}
abbrev Hp:=Addr->Option HO
variable {H H':Hp}
def upd (H:Hp)(a:Addr)(o:HO):Hp:=fun b=>if b=a then some o else H b
theorem AH:upd H a o a=some o:=by unfold upd;rw[pR rfl]
theorem Ad (h:b≠a):upd H a o b=H b:=by unfold upd;rw[nr h]
theorem oX {u:HO}(h:H a=some o)(h':H b=some u)(d:o≠u):a≠b:=by
 intro e;subst e;rw[h] at h';exact d (BS h')
theorem EU (h:H a=some o)(h':H b=none):a≠b:=by
 intro e;subst e;rw[h] at h';cases h'
section
variable (P:Program)(w:World)
def Bx (H:Hp)(h:Heap)(a:Addr):HO->Prop
 | .lst xs=>xs.length<=sizeLine/\∃(A4:List Value) (n:Nat),Vals xs A4/\h.get? a=some { cls:=.type "list", data:=.seq A4.toArray n }
 | .tup xs=>xs.length<=sizeLine/\∃A4:List Value,Vals xs A4/\(IsTup h a A4.toArray/\∀ob,h.get? a=some ob->ob.dict=none)
 | .dK A6=>A6.length<=sizeLine/\(a == sysModules)=false/\∃vs,KV A6 vs/\h.DictOf (C1 P w) a vs
 | .dT A6=>A6.length<=sizeLine/\(a == sysModules)=false/\∃xs:List (List Key×Addr×Value),
   Paired (fun(p:List Key×V) (q:List Key×Addr×Value)=>p.1=q.1/\H q.2.1=some (.tup (p.1.map kV))/\RelV p.2 q.2.2) A6 xs/\
   ∃o es ep,h.get? a=some o/\o.ExactDict/\o.data=.dict es ep/\es.toList=xs.map (entryOfKey (tupleKind (C1 P w)))/\(xs.map (·.1)).Nodup
 | .set S n=>h.SetOf (intKind P w) a S n
 | .ins C dx fs=>H dx=some (.own a)/\fs.length<=1000/\dx≠a/\h.get? a=some (PySem.W.instObj C dx)/\
   ∃mA,h.Ns1 dx mA/\(∀f,EK (fs.lookup f) (mA f))/\PySem.Within mA (fs.map (·.1))
 | .own _=>∃o,h.get? a=some o
 | .xd fs=>∃mA,h.Ns1 a mA/\∀f,EK (fs.lookup f) (mA f)
 | .Vi lo hi=>∃t u v,h.get? a=some { cls:=.type "range", data:=.fields #[.int lo t,.int hi u,.int 1 v] }
 | .CM o u=>h.get? a=some o/\Bx H h a u
 | .IK ps=>h.get? a=some { cls:=.none,data:=.fields ps }
 | .met f x=>h.get? a=some (PySem.W.methodObj (.ref f) (.ref x))
 | .ext φ=>φ h/\(∃o,h.get? a=some o)/\∀h1 h2:Heap,φ h1->(∀o,h1.get? a=some o->h2.get? a=some o)->φ h2
def C4 (H:Hp)(h:Heap):Prop:=∀a o,H a=some o->Bx P w H h a o
end
section
variable {P:Program}{h:Heap}
theorem Bx.lt (x:Bx P w H h a o):a<h.objs.size:=by
 cases o with
 | lst xs=>obtain⟨_,_,_,_,e⟩:=x;exact BC e
 | tup xs=>obtain⟨_,_,_,p⟩:=x;exact p.1.lt
 | dK A6=>obtain⟨_,_,_,_,o,_,_,e,_⟩:=x;exact BC e
 | dT A6=>obtain⟨_,_,_,_,o,_,_,e,_⟩:=x;exact BC e
 | set S n=>obtain⟨o,_,_,_,e,_⟩:=x;exact BC e
 | ins C dx fs=>obtain⟨_,_,_,e,_⟩:=x;exact BC e
 | own y=>obtain⟨_,e⟩:=x;exact BC e
 | xd fs=>obtain⟨_,⟨_,_,_,e,_⟩,_⟩:=x;exact BC e
 | Vi lo hi=>obtain⟨_,_,_,e⟩:=x;exact BC e
 | CM ob u=>obtain⟨e,_⟩:=x;exact BC e
 | IK ps=>exact BC (show h.get? a=some _ from x)
 | met f y=>exact BC (show h.get? a=some _ from x)
 | ext φ=>obtain⟨_,⟨_,e⟩,_⟩:=x;exact BC e
theorem Paired.XM {α β:Type}{F G:α->β->Prop}:∀{l₁:List α}{l₂:List β},Paired F l₁ l₂->(∀a b,F a b->G a b)->Paired G l₁ l₂
 | _,_,.nil,_=>.nil
 | _,_,.cons r t,f=>.cons (f _ _ r) (Paired.XM t f)
theorem Bx.IS (x:Bx P w H h a o)(k:∀b u,(b=a∨H b=some (.own a))->h.get? b=some u->h'.get? b=some u)
  (ho:∀b,H b=some (.own a)->H' b=some (.own a)) (ht:∀b xs,H b=some (.tup xs)->H' b=some (.tup xs)):Bx P w H' h' a o:=by
 induction o with
 | lst xs=>obtain⟨z,A4,n,r,e⟩:=x;exact⟨z,A4,n,r,k _ _ (.inl rfl) e⟩
 | tup xs=>obtain⟨z,A4,r,⟨ob,e,c⟩,dn⟩:=x;exact⟨z,A4,r,⟨ob,k _ _ (.inl rfl) e,c⟩,fun Pt e'=>by rw[k _ _ (.inl rfl) e] at e';cases e';exact dn _ e⟩
 | dK A6=>obtain⟨z,y,vs,r,ob,es,ep,e,c⟩:=x;exact⟨z,y,vs,r,ob,es,ep,k _ _ (.inl rfl) e,c⟩
 | dT A6=>
  obtain⟨z,y,xs,r,ob,es,ep,e,c⟩:=x;exact⟨z,y,xs,Paired.XM r fun p q z=>⟨z.1,ht _ _ z.2.1,z.2.2⟩,ob,es,ep,k _ _ (.inl rfl) e,c⟩
 | set S n=>obtain⟨ob,es,ep,t,e,c⟩:=x;exact⟨ob,es,ep,t,k _ _ (.inl rfl) e,c⟩
 | ins C dx fs=>
  obtain⟨d,z,ne,e,mA,⟨od,es,ep,e2,c⟩,r⟩:=x;exact⟨ho _ d,z,ne,k _ _ (.inl rfl) e,mA,⟨od,es,ep,k _ _ (.inr d) e2,c⟩,r⟩
 | own y=>obtain⟨ob,e⟩:=x;exact⟨ob,k _ _ (.inl rfl) e⟩
 | xd fs=>obtain⟨mA,⟨od,es,ep,e,c⟩,r⟩:=x;exact⟨mA,⟨od,es,ep,k _ _ (.inl rfl) e,c⟩,r⟩
 | Vi lo hi=>obtain⟨t,u,v,e⟩:=x;exact⟨t,u,v,k _ _ (.inl rfl) e⟩
 | CM ob u ih=>obtain⟨e,q⟩:=x;exact⟨k _ _ (.inl rfl) e,ih q⟩
 | IK ps=>
  have e:h.get? a=some { cls:=.none,data:=.fields ps }:=x;show h'.get? a=some { cls:=.none,data:=.fields ps };exact k a _ (.inl rfl) e
 | met f y=>
  have e:h.get? a=some (PySem.W.methodObj (.ref f) (.ref y)):=x;show h'.get? a=some (PySem.W.methodObj (.ref f) (.ref y));exact k a _ (.inl rfl) e
 | ext φ=>obtain⟨p,⟨o,e⟩,st⟩:=x;exact⟨st _ _ p fun o q=>k _ _ (.inl rfl) q,⟨o,k _ _ (.inl rfl) e⟩,st⟩
theorem C4.lt (x:C4 P w H h)(e:H a=some o):a<h.objs.size:=(x a o e).lt
theorem C4.fresh (x:C4 P w H h)(e:h.objs.size<=a):H a=none:=by
 cases q:H a with
 | none=>rfl
 | some u=>exact absurd (DO (x.lt q) e) (LC _)
theorem C4.kept (x:C4 P w H h)(k:∀b u,h.get? b=some u->h'.get? b=some u):C4 P w H h':=fun a o e=>
 (x a o e).IS (fun b u _ q=>k b u q) (fun _ q=>q) fun _ _ q=>q
theorem C4.laid (x:C4 P w H h)(k:∀b u,h.get? b=some u->h'.get? b=some u)(hp:h.objs.size<=a)(new:Bx P w (upd H a o) h' a o):C4 P w (upd H a o) h':=fun b u e=>by
 have hn:=x.fresh hp
 by_cases hb:b=a
 ·subst hb;rw[AH] at e;cases e;exact new
 ·rw[Ad hb] at e;exact(x b u e).IS (fun c v _ q=>k c v q) (fun c q=>by rw[Ad (EU q hn)];exact q) fun c xs q=>by rw[Ad (EU q hn)];exact q
end
def Rd (H:Hp)(a:Addr)(u:HO):Prop:=H a=some u∨∃o,H a=some (.CM o u)
theorem Rd.ok {P:Program}{h:Heap}{u:HO}(r:Rd H a u)(x:C4 P w H h):Bx P w H h a u:=by
 rcases r with r | ⟨o,r⟩
 ·exact x a u r
 ·obtain⟨_,q⟩:=x a _ r;exact q
def My:Option HO->Prop
 | some (.lst _)=>True
 | some (.dK _)=>True
 | some (.dT _)=>True
 | some (.set _ _)=>True
 | some (.ins _ _ _)=>True
 | some (.ext _)=>True
 | _=>False
section
variable {P:Program}{h:Heap}{x e:Addr}
theorem C4.write (ok:C4 P w H h)(mu:My (H x))(he:e=x∨H e=some (.own x))(k:∀b u,b≠e->h.get? b=some u->h'.get? b=some u)(Hb:∃u,h'.get? e=some u)
  (new:Bx P w (upd H x o') h' x o'):C4 P w (upd H x o') h':=fun b u q=>by
 have cv:∀c y,H c=some (.own y)->c≠x:=fun c y r z=>by subst z;rw[r] at mu;exact mu
 have ZBk:∀c xs,H c=some (.tup xs)->c≠x:=fun c xs r z=>by subst z;rw[r] at mu;exact mu
 by_cases hb:b=x
 ·subst hb;rw[AH] at q;cases q;exact new
 ·rw[Ad hb] at q
  by_cases KO:b=e
  ·have q':H b=some (.own x):=by
    rcases he with z | z
    ·exact absurd (KO.trans z) hb
    ·rw[KO];exact z
   rw[q] at q';cases q';obtain⟨v,hv⟩:=Hb;exact⟨v,by rw[KO];exact hv⟩
  ·refine(ok b u q).IS (fun c v hc r=>k c v ?_ r) (fun c r=>by rw[Ad (cv c b r)];exact r) fun c xs r=>by rw[Ad (ZBk c xs r)];exact r
   rcases hc with rfl | hc
   ·exact KO
   ·rintro rfl;rcases he with z | z
    ·exact cv c b hc z
    ·rw[hc] at z;cases z;exact hb rfl
end
structure Un (fs ex:List Addr) (H H':Hp) (h h':Heap):Prop where
 keep:∀b o,h.get? b=some o->H b=none->b∉fs->b∉ex->h'.get? b=some o
 slot:∀b o,h.get? b=some o->H b=none->b∈fs->b∉ex->∃sl,h'.get? b=some { o with slots:=sl }
 free:∀b o,h.get? b=some o->H b=none->b∉ex->H' b=none
 there:∀b o,h.get? b=some o->b∉ex->∃o',h'.get? b=some o'
 HJ:∀b xs,H b=some (.tup xs)->H' b=some (.tup xs)
 Gf:∀b o u,H b=some (.CM o u)->H' b=some (.CM o u)
 HI:∀b ps,H b=some (.IK ps)->∃more,H' b=some (.IK (ps++more))
section
variable {fs fs' ex ex':List Addr}{H1 H2:Hp}{h h1 h2:Heap}{x e:Addr}
theorem Un.any (u:Un fs ex H H1 h h1){ob:Obj}(q:h.get? b=some ob)(n:H b=none)(hx:b∉ex):∃sl,h1.get? b=some { ob with slots:=sl }:=by
 by_cases hb:b∈fs
 ·exact u.slot b ob q n hb hx
 ·exact⟨ob.slots,u.keep b ob q n hb hx⟩
theorem Un.kept (k:∀b u,h.get? b=some u->h'.get? b=some u):Un fs ex H H h h':=
 ⟨fun b ob q _ _ _=>k b ob q,fun b ob q _ _ _=>⟨ob.slots,k b ob q⟩,fun _ _ _ n _=>n,fun b ob q _=>⟨ob,k b ob q⟩,fun _ _ q=>q,fun _ _ _ q=>q,fun _ ps q=>⟨#[],by rw[q];simp⟩⟩
theorem Un.refl:Un fs ex H H h h:=Un.kept fun _ _ q=>q
theorem Un.laid (k:∀b u,h.get? b=some u->h'.get? b=some u)(hp:h.objs.size<=a)(hn:H a=none):Un fs ex H (upd H a o) h h' where
 keep:=fun b u q _ _ _=>k b u q
 slot:=fun b u q _ _ _=>⟨u.slots,k b u q⟩
 free:=fun b u q n _=>by rw[Ad (BJ (DO (BC q) hp))];exact n
 there:=fun b u q _=>⟨u,k b u q⟩
 HJ:=fun b xs q=>by rw[Ad (EU q hn)];exact q
 Gf:=fun b u xs q=>by rw[Ad (EU q hn)];exact q
 HI:=fun b ps q=>⟨#[],by rw[Ad (EU q hn),q];simp⟩
theorem Un.write (mu:My (H x))(he:e=x∨H e=some (.own x))(k:∀b u,b≠e->h.get? b=some u->h'.get? b=some u)(Hb:∃u,h'.get? e=some u):Un fs ex H (upd H x o) h h':=by
 have hx:∀b,H b=none->b≠x:=fun b n z=>by subst z;rw[n] at mu;exact mu
 have hb:∀b,H b=none->b≠e:=fun b n z=>by
  subst z;rcases he with r | r
  ·exact hx b n r
  ·rw[n] at r;cases r
 have hm:∀b u,H b=some u->¬ My (some u)->b≠x:=fun b u q nm z=>by subst z;rw[q] at mu;exact nm mu
 refine⟨fun b u q n _ _=>k b u (hb b n) q,fun b u q n _ _=>⟨u.slots,k b u (hb b n) q⟩,fun b u q n _=>by rw[Ad (hx b n)];exact n,fun b u q _=>?_,
  fun b xs q=>by rw[Ad (hm b _ q fun z=>z)];exact q,fun b u xs q=>by rw[Ad (hm b _ q fun z=>z)];exact q,fun b ps q=>⟨#[],by rw[Ad (hm b _ q fun z=>z),q];simp⟩⟩
 by_cases KO:b=e
 ·subst KO;exact Hb
 ·exact⟨u,k b u KO q⟩
end
def Rp (h:Heap)(H:Hp):List Addr:=(List.range h.objs.size).filter fun a=>(H a).isSome
def Ij (h:Heap)(H:Hp):Heap:=PySem.W.hideAll h (Rp h H)
theorem vk (h:Heap)(H:Hp):(Ij h H).objs.size=h.objs.size:=PySem.W.hideAll_size _ _
theorem ym {h:Heap}{o:Obj}(e:h.get? b=some o)(n:H b=none):(Ij h H).get? b=some o:=
 PySem.W.hideAll_get _ e fun hm=>by
  have q:(H b).isSome=true:=(List.mem_filter.mp hm).2;rw[n] at q;simp at q
theorem oU {h:Heap}{o:Obj}(e:(Ij h H).get? b=some o):h.get? b=some o/\H b=none:=by
 have e':h.get? b=some o:=PySem.W.of_hideAll (Rp h H) e;refine⟨e',?_⟩;cases q:H b with
 | none=>rfl
 | some x=>
  have hm:b∈Rp h H:=List.mem_filter.mpr ⟨List.mem_range.mpr (BC e'),by simp[q]⟩;have z:(Ij h H).get? b=none:=PySem.W.hideAll_none (Rp h H) hm;rw[z] at e;cases e
structure Mod (K:ZHP) (mg:ZHR) (base:Heap):Prop where
 N7:K.In base
 glob:base.Ns mainGlobals mg
 blt:∃mb,base.Ns builtinsNs mb/\∀x:Str,x ≠ "__name__" -> mb x=bootBuiltins x
 nolimit:base.NoLimit
structure Cx where
 prog:Program
 w:World
 K:ZHP
 mg:ZHR
 base:Heap
 A:Around
 N:List Str
 s₀:Shared
 H₀:Hp
 env:Env
 outer:List Env
 stack:List Env
 ex:List Addr
 fn:Str->Bool
 calm:Bool
 pn:ZHQ
 xe:Value->Shared->Prop
variable {X:Cx}
def Gn (l:List Env):List Addr:=l.filterMap (·.frame)
abbrev Cx.fs (X:Cx):List Addr:=Gn X.outer
def Va (sc:Scope)(x:Str):Prop:=sc.names.lookup x=some .local∨sc.names.lookup x=some .cell∨sc.names.lookup x=some .free
def Loc (sc:Scope)(x:Str):Prop:=sc.names.lookup x=some .local∨sc.names.lookup x=some .cell
def Look (env:Env)(h:Heap)(m:ZHR)(x:Str)(u:Value):Prop:=
 (env.kindOf x=some .local/\m x=some u)∨((env.kindOf x=some .cell∨env.kindOf x=some .free)/\∃c,env.cells.lookup x=some c/\h.IsCell c (some u))
structure Cx.Ok (X:Cx):Prop where
 mod:Mod X.K X.mg X.base
 kind:X.env.scope.kind=.function
 glob:X.env.globals=mainGlobals
 blt:X.env.builtins=builtinsNs
 above:X.s₀.heap.objs.size<=X.env.locals
 inj:∀x y c,X.env.cells.lookup x=some c->X.env.cells.lookup y=some c->x=y
 has:∀x,(X.env.kindOf x=some .cell∨X.env.kindOf x=some .free)->∃c,X.env.cells.lookup x=some c
 N3:∀x c,X.fn x=true->X.env.cells.lookup x=some c->X.s₀.heap.objs.size<=c
 hd:X.calm=true->X.A.handled=none
 frames:X.A.frames=some X.stack
 SV:X.stack=X.outer∨(X.stack=X.env::X.outer/\X.env.frame=some X.env.locals)
 PZ:∀b∈X.ex,b≠X.env.locals/\∀x c,X.env.cells.lookup x=some c->c≠b
 bs:∀b o,X.base.get? b=some o->X.s₀.heap.get? b=some o/\X.H₀ b=none
 IG:X.base.objs.size<=X.s₀.heap.objs.size
 NF:∀b o,X.base.get? b=some o->b∉X.ex
 NX:∀b∈X.ex,b∉X.fs
 G3:X.s₀.heap.FunFrames X.base X.outer
 KZ:∀b∈X.fs,X.H₀ b=none
structure Inv (X:Cx) (pins:ZHQ) (σ:List (Option V)) (H:Hp) (s:Shared):Prop where
 ok:X.Ok
 os:s.os=X.s₀.os
 bare:AllBare s.gens
 base:Un X.fs X.ex X.H₀ H X.s₀.heap s.heap
 loc:∃m,s.heap.Ns X.env.locals m/\∀(i:Nat) (x:Str) (v:V),X.N[i]?=some x->σ[i]?=some (some v)->Va X.env.scope x->∃u,RelV v u/\Look X.env s.heap m x u
 cell:∀x c,X.env.cells.lookup x=some c->∃v,s.heap.IsCell c v
 free:H X.env.locals=none
 Gd:∀x c,X.env.cells.lookup x=some c->H c=none
 pin:∀p∈X.pn++pins,s.heap.get? p.1=some p.2/\H p.1=none/\p.1≠X.env.locals/\p.1∉X.fs/\∀v,p.2.data≠.cell v
 AK:C4 X.prog X.w H s.heap
 len:σ.length=X.N.length
section
variable {σ:List (Option V)}
theorem Cx.Ok.rZ (ok:X.Ok){o:Obj}(e:X.base.get? b=some o):b∉X.fs:=fun hb=>by
 have:=(ok.G3.mem hb).1;rw[e] at this;cases this
theorem Inv.bs (I:Inv X pins σ H s):∀b o,X.base.get? b=some o->s.heap.get? b=some o/\H b=none:=fun b o e=>
 ⟨I.base.keep b o (I.ok.bs b o e).1 (I.ok.bs b o e).2 (I.ok.rZ e) (I.ok.NF b o e),I.base.free b o (I.ok.bs b o e).1 (I.ok.bs b o e).2 (I.ok.NF b o e)⟩
theorem Inv.bk (I:Inv X pins σ H s):∀b o,X.base.get? b=some o->s.heap.get? b=some o:=fun b o e=>(I.bs b o e).1
theorem Inv.mod (I:Inv X pins σ H s):Mod X.K X.mg X.base:=I.ok.mod
theorem Inv.CV (I:Inv X pins σ H s):X.K.In s.heap:=I.ok.mod.N7.keeps I.bk
theorem Inv.lt (I:Inv X pins σ H s):X.env.locals<s.heap.objs.size:=let ⟨_,hn,_⟩:=I.loc;hn.lt
theorem Inv.sz (I:Inv X pins σ H s):X.s₀.heap.objs.size<=s.heap.objs.size:=CZ I.ok.above (LB I.lt)
theorem Inv.yL (I:Inv X pins σ H s)(h:s.heap.objs.size<=a):a∉X.fs:=fun hb=>by
 obtain⟨_,o,ho,_⟩:=I.ok.G3.mem hb;exact absurd (DO (BC ho) (CZ I.sz h)) (LC _)
theorem Inv.L6 (I:Inv X pins σ H s):∀x c,X.env.cells.lookup x=some c->c≠X.env.locals:=fun x c e z=>by
 obtain⟨v,o,ho,hd⟩:=I.cell x c e;obtain⟨m,⟨o',es,ep,EA,Vv,_⟩,_⟩:=I.loc;rw[z,EA] at ho;cases ho;rw[Vv] at hd;cases hd
theorem Inv.G3 (I:Inv X pins σ H s):s.heap.FunFrames X.base X.outer:=by
 have all:∀(l:List Env),(∀b∈Gn l,b∈X.fs)->X.s₀.heap.FunFrames X.base l->s.heap.FunFrames X.base l:=by
  intro l
  induction l with
  | nil=>intro _ _;trivial
  | cons env r ih=>
   intro hs hl;obtain⟨hk,⟨L,o,hf,hn,ho,hd⟩,hr⟩:=hl;have hL:L∈X.fs:=hs L (by unfold Gn;rw[lM,hf];exact DC);obtain⟨sl,e⟩:=I.base.slot L o ho (I.ok.KZ L hL) hL fun z=>I.ok.NX L z hL;exact⟨hk,⟨L,_,hf,hn,e,hd⟩,ih (fun b hb=>hs b (by unfold Gn;rw[lM,hf];exact DZ _ hb)) hr⟩
 exact all X.outer (fun _ hb=>hb) I.ok.G3
theorem Inv.stack (I:Inv X pins σ H s):s.heap.FunFrames X.base X.stack:=by
 rcases I.ok.SV with e | ⟨e,hf⟩
 ·rw[e];exact I.G3
 ·rw[e];obtain⟨m,hn,_⟩:=I.loc;refine .cons (by rw[I.ok.kind];decide) hf hn ?_ I.G3;exact Heap.get?_none_of_le (CZ I.ok.IG I.ok.above)
theorem Inv.XN (I:Inv X pins σ H s):∀b∈Gn X.stack,b∈X.env.locals::X.fs:=fun b hb=>by
 rcases I.ok.SV with e | ⟨e,hf⟩
 ·rw[e] at hb;exact DZ _ hb
 ·rw[e] at hb;unfold Gn at hb;rw[lM,hf] at hb;exact hb
theorem Inv.jr (I:Inv X pins σ H s):∀b∈Gn X.stack,H b=none:=fun b hb=>by
 rcases List.mem_cons.mp (I.XN b hb) with e | hb
 ·rw[e];exact I.free
 ·obtain⟨_,o,ho,_⟩:=I.ok.G3.mem hb;exact I.base.free b o ho (I.ok.KZ b hb) fun z=>I.ok.NX b z hb
theorem Inv.step (I:Inv X pins σ H s)
  (HB:∀b∈ch,(b∈X.ex∨X.s₀.heap.objs.size<=b)/\b≠X.env.locals/\(∀x c,X.env.cells.lookup x=some c->c≠b)/\∀p∈X.pn++pins,p.1≠b)
  (keep:∀b o,b≠X.env.locals->b∉X.fs->b∉ch->s.heap.get? b=some o->H b=none->h'.get? b=some o)
  (slot:∀b o,b≠X.env.locals->b∈X.fs->b∉ch->s.heap.get? b=some o->H b=none->∃sl,h'.get? b=some { o with slots:=sl }) (free:∀b o,b∉ch->s.heap.get? b=some o->H b=none->H' b=none)
  (there:∀b o,b∉ch->s.heap.get? b=some o->∃o',h'.get? b=some o')
  (HJ:∀b xs,H b=some (.tup xs)->H' b=some (.tup xs)) (Gf:∀b o u,H b=some (.CM o u)->H' b=some (.CM o u)) (HI:∀b ps,H b=some (.IK ps)->∃more,H' b=some (.IK (ps++more)))
  (ns:∀m,s.heap.Ns X.env.locals m->h'.Ns X.env.locals m) (AK:C4 X.prog X.w H' h') (hg:AllBare g') :
  Inv X pins σ H' { s with heap:=h',gens:=g',drawn:=d',toks:=t' }:=by
 have bE:∀b o,X.s₀.heap.get? b=some o->b≠X.env.locals:=fun b o e=>BJ (DO (BC e) I.ok.above);have Qe:∀b o,X.s₀.heap.get? b=some o->b∉X.ex->b∉ch:=fun b o e hx hb=>by
  rcases(HB b hb).1 with z | z
  ·exact hx z
  ·exact absurd (DO (BC e) z) (LC _)
 have cellK:∀x c,X.env.cells.lookup x=some c->∀v,s.heap.IsCell c v->h'.IsCell c v:=fun x c e v AJ=>by
  obtain⟨o,ho,hd⟩:=AJ;have O3:c∉ch:=fun z=>(HB c z).2.2.1 x c e rfl
  by_cases hc:c∈X.fs
  ·obtain⟨sl,q⟩:=slot c o (I.L6 x c e) hc O3 ho (I.Gd x c e);exact⟨_,q,hd⟩
  ·exact⟨o,keep c o (I.L6 x c e) hc O3 ho (I.Gd x c e),hd⟩
 refine⟨I.ok,I.os,hg,⟨fun b o e n hb hx=>?_,fun b o e n hb hx=>?_,fun b o e n hx=>?_,fun b o e hx=>?_,fun b xs e=>HJ b xs (I.base.HJ b xs e),fun b o xs e=>Gf b o xs (I.base.Gf b o xs e),fun b ps e=>?_⟩,?_,fun x c e=>?_,?_,fun x c e=>?_,fun p hp=>?_,AK,I.len⟩
 ·exact keep b o (bE b o e) hb (Qe b o e hx) (I.base.keep b o e n hb hx) (I.base.free b o e n hx)
 ·obtain⟨sl,e1⟩:=I.base.slot b o e n hb hx;obtain⟨qz,e2⟩:=slot b _ (bE b o e) hb (Qe b o e hx) e1 (I.base.free b o e n hx);exact⟨qz,e2⟩
 ·obtain⟨o',e1⟩:=I.base.there b o e hx;exact free b o' (Qe b o e hx) e1 (I.base.free b o e n hx)
 ·obtain⟨o',e1⟩:=I.base.there b o e hx;exact there b o' (Qe b o e hx) e1
 ·obtain⟨m1,e1⟩:=I.base.HI b ps e;obtain⟨m2,e2⟩:=HI b _ e1;exact⟨m1++m2,by rw[e2,Array.append_assoc]⟩
 ·obtain⟨m,hn,hl⟩:=I.loc;refine⟨m,ns m hn,fun i x v e1 e2 e3=>?_⟩;obtain⟨u,r,l⟩:=hl i x v e1 e2 e3;refine⟨u,r,?_⟩;rcases l with l | ⟨k,c,e,z⟩
  ·exact .inl l
  ·exact .inr ⟨k,c,e,cellK x c e _ z⟩
 ·obtain⟨v,z⟩:=I.cell x c e;exact⟨v,cellK x c e v z⟩
 ·obtain⟨m,⟨o,_,_,ho,_⟩,_⟩:=I.loc;exact free _ o (fun z=>(HB _ z).2.1 rfl) ho I.free
 ·obtain⟨v,o,ho,hd⟩:=I.cell x c e;exact free c o (fun z=>(HB c z).2.2.1 x c e rfl) ho (I.Gd x c e)
 ·obtain⟨e,n,ne,nf,d⟩:=I.pin p hp;have O3:p.1∉ch:=fun z=>(HB p.1 z).2.2.2 p hp rfl;exact⟨keep p.1 p.2 ne nf O3 e n,free p.1 p.2 O3 e n,ne,nf,d⟩
theorem Inv.un (I:Inv X pins σ H s)(u:Un X.fs [] H H' s.heap h')(AK:C4 X.prog X.w H' h'):Inv X pins σ H' { s with heap:=h',toks:=t' }:=by
 obtain⟨m,⟨o,es,ep,ho,r⟩,_⟩:=id I.loc;obtain⟨sl,hL⟩:=u.any ho I.free (by simp);exact I.step (g':=s.gens) (d':=s.drawn) (ch:=[]) (fun _ z=>nomatch z) (fun b o _ hb _ e n=>u.keep b o e n hb (by simp)) (fun b o _ hb _ e n=>u.slot b o e n hb (by simp)) (fun b o _ e n=>u.free b o e n (by simp)) (fun b o _ e=>u.there b o e (by simp)) u.HJ u.Gf u.HI (fun m' hm=>by
  obtain⟨o',Di,HD,EA,r'⟩:=hm;rw[ho] at EA;cases EA;exact⟨_,Di,HD,hL,r'⟩) AK I.bare
theorem Inv.call (I:Inv X pins σ H s)(u:Un (Gn X.stack) ch H H' s.heap h')(AK:C4 X.prog X.w H' h')(hg:AllBare g')
  (HB:∀b∈ch,(b∈X.ex∨X.s₀.heap.objs.size<=b)/\b≠X.env.locals/\(∀x c,X.env.cells.lookup x=some c->c≠b)/\∀p∈X.pn++pins,p.1≠b) :
  Inv X pins σ H' { s with heap:=h',gens:=g',drawn:=d',toks:=t' }:=by
 obtain⟨m,⟨o,es,ep,ho,r⟩,_⟩:=id I.loc;obtain⟨sl,hL⟩:=u.any ho I.free fun z=>(HB _ z).2.1 rfl;exact I.step (ch:=ch) HB (fun b o hL hb hc e n=>u.keep b o e n (fun z=>(List.mem_cons.mp (I.XN b z)).elim hL hb) hc) (fun b o _ _ hc e n=>u.any e n hc) (fun b o hc e n=>u.free b o e n hc) (fun b o hc e=>u.there b o e hc) u.HJ u.Gf u.HI (fun m' hm=>by
  obtain⟨o',Di,HD,EA,r'⟩:=hm;rw[ho] at EA;cases EA;exact⟨_,Di,HD,hL,r'⟩) AK hg
theorem Inv.turned (I:Inv X pins σ H s)(k:∀b o,b≠it->s.heap.get? b=some o->h'.get? b=some o)(hn:H it=none)(hL:it≠X.env.locals)
  (h1:it∈X.ex∨X.s₀.heap.objs.size<=it) (h2:∀x c,X.env.cells.lookup x=some c->c≠it) (h3:∀p∈X.pn++pins,p.1≠it):Inv X pins σ H { s with heap:=h',toks:=t' }:=by
 have Iu:∀b u,H b=some u->b≠it:=fun b u e z=>by rw[z,hn] at e;cases e
 refine I.step (g':=s.gens) (d':=s.drawn) (ch:=[it]) (fun b hb=>?_) (fun b o _ _ hc e _=>k b o (fun z=>hc (by simp[z])) e) (fun b o _ _ hc e _=>⟨o.slots,k b o (fun z=>hc (by simp[z])) e⟩) (fun _ _ _ _ n=>n)
  (fun b o hc e=>⟨o,k b o (fun z=>hc (by simp[z])) e⟩) (fun _ _ e=>e) (fun _ _ _ e=>e) (fun b ps e=>⟨#[],by rw[e];simp⟩) (fun m hm=>?_) (fun b u e=>?_) I.bare
 ·have e:b=it:=by simpa using hb
  subst e;exact⟨h1,hL,h2,h3⟩
 ·obtain⟨o,es,ep,ho,r⟩:=hm;exact⟨o,es,ep,k _ o (BP hL) ho,r⟩
 ·refine(I.AK b u e).IS (fun c v hc q=>k c v ?_ q) (fun _ q=>q) fun _ _ q=>q;rcases hc with z | z
  ·rw[z];exact Iu b u e
  ·exact Iu c _ z
theorem Inv.tok (I:Inv X pins σ H s)(t:Nat):Inv X pins σ H { s with toks:=t }:=I.un (h':=s.heap) (t':=t) Un.refl I.AK
theorem Inv.kept (I:Inv X pins σ H s)(k:∀b u,s.heap.get? b=some u->h'.get? b=some u):Inv X pins σ H { s with heap:=h',toks:=t' }:=I.un (Un.kept k) (I.AK.kept k)
theorem Inv.laid (I:Inv X pins σ H s)(k:∀b u,s.heap.get? b=some u->h'.get? b=some u)(hp:s.heap.objs.size<=a)(new:Bx X.prog X.w (upd H a o) h' a o):
  Inv X pins σ (upd H a o) { s with heap:=h',toks:=t' }:=I.un (Un.laid k hp (I.AK.fresh hp)) (I.AK.laid k hp new)
theorem Inv.write {x e:Addr}(I:Inv X pins σ H s)(mu:My (H x))(he:e=x∨H e=some (.own x))(k:∀b u,b≠e->s.heap.get? b=some u->h'.get? b=some u)(Hb:∃u,h'.get? e=some u)
  (new:Bx X.prog X.w (upd H x o) h' x o):Inv X pins σ (upd H x o) { s with heap:=h',toks:=t' }:=I.un (Un.write mu he k Hb) (I.AK.write mu he k Hb new)
theorem Inv.gh (I:Inv X pins σ H s)(h:∀p∈j5,s.heap.get? p.1=some p.2/\H p.1=none/\p.1≠X.env.locals/\p.1∉X.fs/\∀v,p.2.data≠.cell v):Inv X j5 σ H s:=
 ⟨I.ok,I.os,I.bare,I.base,I.loc,I.cell,I.free,I.Gd,fun p hp=>(List.mem_append.mp hp).elim (fun z=>I.pin p (Io _ z)) (h p),I.AK,I.len⟩
theorem k6 (hN:N.Nodup)(a:N[i]?=some x)(b:N[j]?=some x):i=j:=by
 obtain⟨h1,e1⟩:=List.getElem?_eq_some_iff.mp a;obtain⟨h2,e2⟩:=List.getElem?_eq_some_iff.mp b;exact(ZG7 hN).mp (e1.trans e2.symm)
theorem jN {Q:Unit->Shared->Prop}(I:Inv X pins σ H s)(hN:X.N.Nodup)(hi:X.N[i]?=some x)(hx:Loc X.env.scope x)(r:RelV v u)
  (h:∀s',Inv X pins (σ.set i (some v)) H s'->(∃a,Heap.SameBut a s.heap s'.heap/\(a=X.env.locals∨X.env.cells.lookup x=some a))->Q () s') (hf:X.fn x=true∨X.env.scope.names.lookup x=some .local:=by first | exact .inl rfl | exact .inr rfl | assumption):wpAny M A (storeName X.env x u) Q E s:=by
 obtain⟨m,hn,hl⟩:=id I.loc;have ZEG:(X.env.scope.kind == .class || (X.env.scope.kind == .module && X.env.locals != X.env.globals))=false:=by rw[I.ok.kind];rfl
 have hiσ:i<σ.length:=by rw[I.len];exact(List.getElem?_eq_some_iff.mp hi).1
 have L6:=I.L6;have tracked:∀{a:Addr}{h':Heap},(∃o,s.heap.get? a=some o/\H a=none)->Heap.SameBut a s.heap h'->C4 X.prog X.w H h':=fun {a h'} ha hs b ob e=>by
  obtain⟨_,_,cP⟩:=ha;refine(I.AK b ob e).IS (fun c w' hc q=>(hs.2 c ?_).trans q) (fun _ q=>q) fun _ _ q=>q;rintro rfl;rcases hc with rfl | hc
  ·rw[cP] at e;cases e
  ·rw[cP] at hc;cases hc
 rcases hx with hk | hk
 ·refine wpAny_storeName_local hk hn (fun h' o7 hs=>?_) ZEG;obtain⟨oL,_,_,OC,_⟩:=id hn;refine h _ ⟨I.ok,I.os,I.bare,⟨fun b o e n hb hx=>?_,fun b o e n hb hx=>?_,I.base.free,fun b o e hx=>?_,I.base.HJ,I.base.Gf,I.base.HI⟩,⟨_,o7,fun j y v' e1 e2 e3=>?_⟩,fun y c e=>?_,I.free,I.Gd,fun p hp=>?_,tracked ⟨oL,OC,I.free⟩ hs,by simpa using I.len⟩ ⟨_,hs,.inl rfl⟩
  ·exact(hs.2 b (BJ (DO (BC e) I.ok.above))).trans (I.base.keep b o e n hb hx)
  ·obtain⟨sl,e1⟩:=I.base.slot b o e n hb hx;exact⟨sl,(hs.2 b (BJ (DO (BC e) I.ok.above))).trans e1⟩
  ·obtain⟨o',e1⟩:=I.base.there b o e hx;exact⟨o',(hs.2 b (BJ (DO (BC e) I.ok.above))).trans e1⟩
  ·by_cases hj:j=i
   ·subst hj;rw[hi] at e1;cases e1;rw[Ci hiσ] at e2;cases e2;exact⟨u,r,.inl ⟨hk,by simp⟩⟩
   ·rw[CG (BP hj)] at e2;obtain⟨u',r',q⟩:=hl j y v' e1 e2 e3;refine⟨u',r',?_⟩;rcases q with⟨k,e⟩|⟨k,c,e,z⟩
    ·refine .inl ⟨k,?_⟩;have:y≠x:=fun e=>hj (k6 hN e1 (e▸hi));simp[this,e]
    ·exact .inr ⟨k,c,e,z.sameBut hs (L6 y c e)⟩
  ·obtain⟨w',z⟩:=I.cell y c e;exact⟨w',z.sameBut hs (L6 y c e)⟩
  ·obtain⟨e,n,ne,nf,d⟩:=I.pin p hp;exact⟨(hs.2 p.1 ne).trans e,n,ne,nf,d⟩
 ·have TV:X.fn x=true:=by
   rcases hf with z | z
   ·exact z
   ·rw[z] at hk;cases hk
  obtain⟨c,hc⟩:=I.ok.has x (.inl hk);obtain⟨w',z⟩:=I.cell x c hc;refine wpAny_storeName_cell I.ok.kind hk hc z (fun h' GW hs=>?_);obtain⟨oc,kT,mX⟩:=id z;refine h { s with heap:=h' } ⟨I.ok,I.os,I.bare,⟨fun b o e n hb hx=>?_,fun b o e n hb hx=>?_,I.base.free,fun b o e hx=>?_,I.base.HJ,I.base.Gf,I.base.HI⟩,⟨m,hn.sameBut hs (BP (L6 x c hc)),fun j y v' e1 e2 e3=>?_⟩,fun y c' e=>?_,I.free,I.Gd,fun p hp=>?_,tracked ⟨oc,kT,I.Gd x c hc⟩ hs,by simpa using I.len⟩ ⟨c,hs,.inr hc⟩
  ·exact(hs.2 b (BJ (DO (BC e) (I.ok.N3 x c TV hc)))).trans (I.base.keep b o e n hb hx)
  ·obtain⟨sl,e1⟩:=I.base.slot b o e n hb hx;exact⟨sl,(hs.2 b (BJ (DO (BC e) (I.ok.N3 x c TV hc)))).trans e1⟩
  ·obtain⟨o',e1⟩:=I.base.there b o e hx;exact⟨o',(hs.2 b (BJ (DO (BC e) (I.ok.N3 x c TV hc)))).trans e1⟩
  ·by_cases hj:j=i
   ·subst hj;rw[hi] at e1;cases e1;rw[Ci hiσ] at e2;cases e2;exact⟨u,r,.inr ⟨.inl hk,c,hc,GW⟩⟩
   ·rw[CG (BP hj)] at e2;obtain⟨u',r',q⟩:=hl j y v' e1 e2 e3;refine⟨u',r',?_⟩;rcases q with q | ⟨k,c',e,z'⟩
    ·exact .inl q
    ·refine .inr ⟨k,c',e,z'.sameBut hs ?_⟩;rintro rfl;exact hj (k6 hN e1 (I.ok.inj _ _ _ e hc▸hi))
  ·by_cases RF:c'=c
   ·subst RF;exact⟨_,GW⟩
   ·obtain⟨w2,z2⟩:=I.cell y c' e;exact⟨w2,z2.sameBut hs RF⟩
  ·obtain⟨e,n,ne,nf,d⟩:=I.pin p hp;refine⟨(hs.2 p.1 ?_).trans e,n,ne,nf,d⟩;intro q;rw[q,kT] at e;have q':oc=p.2:=BS e;exact d w' (by rw[<- q'];exact mX)
theorem gD {Q:Unit->Shared->Prop}(I:Inv X pins σ H s)(hN:X.N.Nodup)(hi:X.N[i]?=some x)(hx:Loc X.env.scope x)(r:RelV v u)
  (h:∀s',Inv X pins (σ.set i (some v)) H s'->Q () s') (hf:X.fn x=true∨X.env.scope.names.lookup x=some .local:=by first | exact .inl rfl | exact .inr rfl | assumption):wpAny M A (storeName X.env x u) Q E s:=
 jN I hN hi hx r (fun s' I' _=>h s' I') hf
theorem Inv.ZDq (I:Inv X pins σ H s)(ho:s'.os=s.os)(u:Un (Gn X.stack) ch H H' s.heap s'.heap)(AK:C4 X.prog X.w H' s'.heap)(hg:AllBare s'.gens)
  (HB:∀b∈ch,(b∈X.ex∨X.s₀.heap.objs.size<=b)/\b≠X.env.locals/\(∀x c,X.env.cells.lookup x=some c->c≠b)/\∀p∈X.pn++pins,p.1≠b):Inv X pins σ H' s':=by
 obtain⟨h',g',d',t',o'⟩:=s';have e:o'=s.os:=ho;subst e;exact I.call (g':=g') (t':=t') (d':=d') u AK hg HB
end
abbrev XK:=Value->Option Addr->Hp->Prop
abbrev St:=List (Option V)
variable {σ:St}
abbrev VK:=V->Hp->Prop
abbrev TE:=St->Hp->VK->Prop
variable {ta tb tc te:TE}
abbrev TT:=St->Hp->(Bool->Hp->Prop)->Prop
abbrev TA:=St->Hp->(List V->Hp->Prop)->Prop
structure Ends where
 nx:St->Hp->Prop
 rt:VK
 bk:St->Hp->Prop:=fun _ _=>False
 ct:St->Hp->Prop:=fun _ _=>False
abbrev TS:=Ends->St->Hp->Prop
def EP (X:Cx)(pins:ZHQ)(σ:St)(Q:VK)(u:Value)(s':Shared):Prop:=∃v H',Inv X pins σ H' s'/\RelV v u/\Q v H'
def TP (X:Cx)(pins:ZHQ)(σ:St)(Q:Bool->Hp->Prop)(b:Bool)(s':Shared):Prop:=∃H',Inv X pins σ H' s'/\Q b H'
def AP (X:Cx)(pins:ZHQ)(σ:St)(Q:List V->Hp->Prop)(us:List Value)(s':Shared):Prop:=∃vs H',Inv X pins σ H' s'/\Vals vs us/\Q vs H'
def SP (X:Cx)(pins:ZHQ)(D:Ends)(f:Flow)(s':Shared):Prop:=
 match f with
 | .next=>∃ σ' H',Inv X pins σ' H' s'/\D.nx σ' H'
 | .brk=>∃ σ' H',Inv X pins σ' H' s'/\D.bk σ' H'
 | .cont=>∃ σ' H',Inv X pins σ' H' s'/\D.ct σ' H'
 | .ret u=>∃v σ' H',Inv X pins σ' H' s'/\RelV v u/\D.rt v H'
def PE (X:Cx)(e:Expr)(t:TE):Prop:=
 ∀(pins:ZHQ) (s:Shared) (σ:St) (H:Hp) (Q:VK),Inv X pins σ H s->t σ H Q->wpAny (model X.prog X.w) X.A (eval e X.env) (EP X pins σ Q) X.xe s
def PT (X:Cx)(e:Expr)(t:TT):Prop:=
 ∀(pins:ZHQ) (s:Shared) (σ:St) (H:Hp) (Q:Bool->Hp->Prop),Inv X pins σ H s->t σ H Q->wpAny (model X.prog X.w) X.A (isTrue e X.env (eval e X.env)) (TP X pins σ Q) X.xe s
def PW (X:Cx)(e:Expr)(t:TT):Prop:=
 ∀(whole:Sem Value) (pins:ZHQ) (s:Shared) (σ:St) (H:Hp) (Q:Bool->Hp->Prop),Inv X pins σ H s->t σ H Q->wpAny (model X.prog X.w) X.A (isTrue e X.env whole) (TP X pins σ Q) X.xe s
theorem PW.pt {t:TT}(h:PW X e t):PT X e t:=h _
def PA (X:Cx)(es:List Expr)(t:TA):Prop:=
 ∀(pos:Pos) (pins:ZHQ) (s:Shared) (σ:St) (H:Hp) (Q:List V->Hp->Prop),Inv X pins σ H s->t σ H Q->wpAny (model X.prog X.w) X.A (spliced (backTo pos (starEach es X.env))) (AP X pins σ Q) X.xe s
def PS (X:Cx)(st:Stmt)(t:TS):Prop:=
 ∀(pins:ZHQ) (s:Shared) (σ:St) (H:Hp) (D:Ends),Inv X pins σ H s->t D σ H->wpAny (model X.prog X.w) X.A (exec st X.env) (SP X pins D) X.xe s
def EN (X:Cx)(st:List Stmt)(t:TS):Prop:=
 ∀(pins:ZHQ) (s:Shared) (σ:St) (H:Hp) (D:Ends),Inv X pins σ H s->t D σ H->wpAny (model X.prog X.w) X.A (execs st X.env) (SP X pins D) X.xe s
theorem AS {t:Sem α}{Q Q':α->Shared->Prop}(h:wpAny M A t Q E s)(hQ:∀a s,Q a s->Q' a s):wpAny M A t Q' E s:=rJ h hQ fun _ _ x=>x
section
def BQ (i:Nat):TE:=fun σ H Q=>∃v,σ[i]?=some (some v)/\Q v H
def tC (v:V):TE:=fun _ H Q=>Q v H
def Gl (X:Cx)(x:Str):Prop:=X.env.kindOf x=some .globalImplicit
theorem UL (I:Inv X pins σ H s)(hg:Gl X x)(hm:X.mg x=some u)(h:Q u s)
  (hd:(x == ("__debug__":Str))=false:=by decide):wpAny (model X.prog X.w) X.A (eval (.Name x pos) X.env) Q E s:=
 ZFr I.ok.kind hg (Calls.loadGlobal_global (by rw[I.ok.glob];exact I.mod.glob.keeps I.bk) hm h) hd
theorem Iz (I:Inv X pins σ H s)(hg:Gl X x)(hm:X.mg x=none)(hv:bootBuiltins x=some u)(h:Q u s)
  (hn:x ≠ "__name__" := by decide) (hd:(x == ("__debug__":Str))=false:=by decide):wpAny (model X.prog X.w) X.A (eval (.Name x pos) X.env) Q E s:=by
 obtain⟨mb,h1,h2⟩:=I.mod.blt;exact ZFr I.ok.kind hg (Calls.loadGlobal_builtin (by rw[I.ok.glob];exact I.mod.glob.keeps I.bk) hm (by rw[I.ok.blt];exact h1.keeps I.bk) ((h2 x hn).trans hv) h) hd
theorem mW (hg:Gl X x)(hm:X.mg x=none)(hv:bootBuiltins x=some u)(r:RelV v u)(hn:x ≠ "__name__" := by decide)(hd:(x == ("__debug__":Str))=false:=by decide):PE X (.Name x pos) (tC v):=
 fun _ _ _ H _ I h=>Iz I hg hm hv ⟨v,H,I,r,h⟩ hn hd
variable {a b:Expr}
def PC (X:Cx)(op:CmpOp)(a b:Expr)(t:TE):Prop:=
 ∀(pins:ZHQ) (s:Shared) (σ:St) (H:Hp) (Q:VK),Inv X pins σ H s->t σ H Q->
  wpAny (model X.prog X.w) X.A (eval a X.env) (fun v s₁=>wpAny (model X.prog X.w) X.A (eval b X.env) (fun u s₂=>wpAny (model X.prog X.w) X.A (compareOp op v u) (EP X pins σ Q) X.xe s₂) X.xe s₁) X.xe s
theorem rd (b:Expr)(h:op≠.In)(h2:op≠.NotIn):behindInMarks op b=false:=by
 have e1:(op == CmpOp.In)=false:=by cases op <;> first | rfl | exact absurd rfl h
 have e2:(op == CmpOp.NotIn)=false:=by cases op <;> first | rfl | exact absurd rfl h2
 cases b <;> simp[behindInMarks,e1,e2]
def tB (t:TE):TT:=fun σ H Q=>t σ H fun x H1=>∃c,x=.bl c/\Q c H1
theorem ak {t:TE}(h:PC X op a b t)(h1:behindInMarks op b=false:=by first | exact rd _ (by decide) (by decide) | rfl):PT X (.Compare a [op] [b] pos) (tB t):=by
 intro pins s σ H Q I hw;refine wpAny_isTrue_Compare1 (AS (h pins s σ H _ I hw) fun v s1 h1=>AS h1 fun u s2 h2=>AS h2 fun c s3 ⟨x,H1,I1,r1,q1⟩=>?_) h1;obtain⟨d,rfl,q⟩:=q1;cases r1;exact rq ⟨H1,I1,q⟩
variable {tA Ic:TT}
def Ue (t u:TT):TT:=fun σ H Q=>t σ H fun c H1=>if c=true then u σ H1 Q else Q false H1
def Px (t u:TT):TT:=fun σ H Q=>t σ H fun c H1=>if c=true then Q true H1 else u σ H1 Q
def R3 (t:TT):TT:=fun σ H Q=>t σ H fun c H1=>Q (!c) H1
def VA (ta tb:TE):TE:=fun σ H Q=>ta σ H fun x H1=>∃c,x=.bl c/\if c=true then tb σ H1 Q else Q (.bl false) H1
def jX (ta tb:TE):TE:=fun σ H Q=>ta σ H fun x H1=>∃c,x=.bl c/\if c=true then Q (.bl true) H1 else tb σ H1 Q
def Xb (ta:TE):TE:=fun σ H Q=>ta σ H fun x H1=>∃c,x=.bl c/\Q (.bl (!c)) H1
end
def AI (K:ZHP)(H:Hp)(a:Addr)(xs:List V):Prop:=
 Rd H a (.lst xs)∨
  ∃(o:Obj) (A4:Array Value) (n:Nat),K.lookup a=some o/\o.cls=.type "list" /\ o.dict=none/\o.data=.seq A4 n/\A4.size<=sizeLine/\Vals xs A4.toList
def AA (K:ZHP)(H:Hp)(a:Addr)(xs:List V):Prop:=
 Rd H a (.tup xs)∨
  ∃(o:Obj) (A4:Array Value) (n:Nat),K.lookup a=some o/\o.cls=.type "tuple" /\ o.data=.seq A4 n/\A4.size<=sizeLine/\Vals xs A4.toList
def sD:Value->Option V
 | .none=>some .AF
 | .bool b=>some (.bl b)
 | .int i _=>some (.int i)
 | .str x _=>some (.str x)
 | .bytes b _=>some (.GG b)
 | .float b _=>some (.Jz b)
 | .ref a=>some (.ref a)
 | .type n=>some (.ty n)
 | _=>none
theorem RelV.abs {x:V}(r:RelV x u):sD u=some x:=by
 cases x with
 | AF=>cases r;rfl
 | bl _=>cases r;rfl
 | int _=>obtain⟨t,rfl⟩:=r;rfl
 | str _=>obtain⟨t,rfl⟩:=r;rfl
 | GG _=>obtain⟨t,rfl⟩:=r;rfl
 | Jz _=>obtain⟨t,rfl⟩:=r;rfl
 | ref _=>cases r;rfl
 | ty _=>cases r;rfl
theorem RelV.inj {x y:V}{u:Value}(r:RelV x u)(q:RelV y u):x=y:=BS (r.abs.symm.trans q.abs)
theorem Vals.inj:∀{xs ys:List V}{us:List Value},Vals xs us->Vals ys us->xs=ys
 | _,_,_,.nil,.nil=>rfl
 | _,_,_,.cons r t,.cons r' t'=>by rw[r.inj r',Vals.inj t t']
section
variable {xs ys:List V}
theorem AI.of {K:ZHP}(h:H a=some (.lst xs)):AI K H a xs:=.inl (.inl h)
theorem AA.of {K:ZHP}(h:H a=some (.tup xs)):AA K H a xs:=.inl (.inl h)
theorem Inv.list (I:Inv X pins σ H s)(h:AI X.K H a xs):∃A4:List Value,Vals xs A4/\PlainL s.heap a A4.toArray/\xs.length<=sizeLine:=by
 rcases h with h | ⟨o,A4,n,hk,hc,hd,hs,hz,r⟩
 ·obtain⟨z,A4,n,r,e⟩:=h.ok I.AK;exact⟨A4,r,⟨_,n,e,rfl,rfl,rfl⟩,z⟩
 ·refine⟨A4.toList,r,⟨o,n,I.CV a o hk,hc,hd,by simpa using hs⟩,?_⟩
  have e:=r.length;simp only[GO] at e;omega
theorem Inv.tuple (I:Inv X pins σ H s)(h:AA X.K H a xs):∃A4:List Value,Vals xs A4/\IsTup s.heap a A4.toArray/\xs.length<=sizeLine:=by
 rcases h with h | ⟨o,A4,n,hk,hc,hs,hz,r⟩
 ·obtain⟨z,A4,r,p⟩:=h.ok I.AK;exact⟨A4,r,p.1,z⟩
 ·refine⟨A4.toList,r,⟨o,I.CV a o hk,hc,n,by simpa using hs⟩,?_⟩
  have e:=r.length;simp only[GO] at e;omega
theorem Inv.aI (I:Inv X pins σ H s)(h:AI X.K H a xs)(h':AI X.K H a ys):xs=ys:=by
 obtain⟨A4,r,⟨o,n,e,_,_,d⟩,_⟩:=I.list h;obtain⟨its',r',⟨o',n',e',_,_,d'⟩,_⟩:=I.list h';rw[e] at e';cases e';rw[d] at d';injection d' with d1 _
 have:A4=its':=by simpa using uC Array.toList d1
 subst this;exact r.inj r'
theorem Inv.Nt (I:Inv X pins σ H s)(h:AA X.K H a xs)(h':AA X.K H a ys):xs=ys:=by
 obtain⟨A4,r,⟨o,e,_,n,d⟩,_⟩:=I.tuple h;obtain⟨its',r',⟨o',e',_,n',d'⟩,_⟩:=I.tuple h';rw[e] at e';cases e';rw[d] at d';injection d' with d1 _
 have:A4=its':=by simpa using uC Array.toList d1
 subst this;exact r.inj r'
end
abbrev Cx.Hd (X:Cx)(E:Value->Shared->Prop):Cx:={ X with xe:=E }
abbrev Cx.Np (X:Cx):Cx:=X.Hd fun _ _=>False
theorem Cx.Ok.Hd (ok:X.Ok)(E:Value->Shared->Prop):(X.Hd E).Ok:=
 ⟨ok.mod,ok.kind,ok.glob,ok.blt,ok.above,ok.inj,ok.has,ok.N3,ok.hd,ok.frames,ok.SV,ok.PZ,ok.bs,ok.IG,ok.NF,ok.NX,ok.G3,ok.KZ⟩
theorem Cx.Ok.Jm (ok:(X.Hd E).Ok):X.Ok:=
 ⟨ok.mod,ok.kind,ok.glob,ok.blt,ok.above,ok.inj,ok.has,ok.N3,ok.hd,ok.frames,ok.SV,ok.PZ,ok.bs,ok.IG,ok.NF,ok.NX,ok.G3,ok.KZ⟩
section
theorem Inv.Hd (I:Inv X pins σ H s)(E:Value->Shared->Prop):Inv (X.Hd E) pins σ H s:=⟨I.ok.Hd E,I.os,I.bare,I.base,I.loc,I.cell,I.free,I.Gd,I.pin,I.AK,I.len⟩
theorem Inv.Jm (I:Inv (X.Hd E) pins σ H s):Inv X pins σ H s:=⟨I.ok.Jm,I.os,I.bare,I.base,I.loc,I.cell,I.free,I.Gd,I.pin,I.AK,I.len⟩
theorem SP.Jm {D:Ends}{f:Flow}(h:SP (X.Hd E) pins D f s'):SP X pins D f s':=by
 cases f with
 | next=>obtain⟨σ',H',I,q⟩:=h;exact⟨σ',H',I.Jm,q⟩
 | brk=>obtain⟨σ',H',I,q⟩:=h;exact⟨σ',H',I.Jm,q⟩
 | cont=>obtain⟨σ',H',I,q⟩:=h;exact⟨σ',H',I.Jm,q⟩
 | ret u=>obtain⟨v,σ',H',I,r,q⟩:=h;exact⟨v,σ',H',I.Jm,r,q⟩
theorem EN.Np {st:List Stmt}{t:TS}(h:EN X.Np st t):EN X st t:=fun pins s σ H D I hw=>
 rJ (h pins s σ H D (I.Hd _) hw) (fun _ _ q=>q.Jm) fun _ _ z=>False.elim z
variable {st:Stmt}{rest:List Stmt}{t u:TS}
def ZA:TS:=fun D σ H=>D.nx σ H
def Nl (t u:TS):TS:=fun D σ H=>t { D with nx:=u D } σ H
theorem sJ (h1:PS X st t)(h2:EN X rest u):EN X (st::rest) (Nl t u):=by
 intro pins s σ H D I h;refine wpAny_execs_cons (AS (h1 pins s σ H { D with nx:=u D } I h) fun f s1 q=>?_)
 cases f with
 | next=>
  obtain⟨σ',H',I',q⟩:=q;exact h2 pins s1 σ' H' D I' q
 | ret v=>exact q
 | brk=>exact q
 | cont=>exact q
theorem mY (h1:PS X st t):EN X [st] t:=by
 intro pins s σ H D I h;refine wpAny_execs_cons (AS (h1 pins s σ H D I h) fun f s1 q=>?_);cases f with
 | next=>exact ZAK q
 | ret v=>exact q
 | brk=>exact q
 | cont=>exact q
theorem Inv.quiet (I:Inv X pins σ H s):interactive X.env=false:=by simp[interactive,I.ok.kind]
def Ki (te:TE):TS:=fun D σ H=>te σ H fun _ H1=>D.nx σ H1
def Hc (te:TE):TS:=fun D σ H=>te σ H D.rt
def RD (c:TT)(t u:TS):TS:=fun D σ H=>c σ H fun b H1=>if b=true then t D σ H1 else u D σ H1
def iY:TS:=fun _ _ _=>False
end
abbrev TG:=V->St->Hp->(St->Hp->Prop)->Prop
abbrev HE:=List V->St->Hp->(St->Hp->Prop)->Prop
def PG (X:Cx)(target:Expr)(t:TG):Prop:=
 ∀(pins:ZHQ) (s:Shared) (σ:St) (H:Hp) (v:V) (u:Value) (Q:St->Hp->Prop),Inv X pins σ H s->RelV v u->t v σ H Q->
  wpAny (model X.prog X.w) X.A (assign target X.env u) (fun _ s'=>∃ σ' H',Inv X pins σ' H' s'/\Q σ' H') X.xe s
def NN (X:Cx)(ts:List Expr)(t:HE):Prop:=
 ∀(pins:ZHQ) (s:Shared) (σ:St) (H:Hp) (vs:List V) (us:List Value) (Q:St->Hp->Prop),Inv X pins σ H s->Vals vs us->t vs σ H Q->
  wpAny (model X.prog X.w) X.A (assignInOrder ((assignEach ts X.env).map (·.2)) us) (fun _ s'=>∃ σ' H',Inv X pins σ' H' s'/\Q σ' H') X.xe s
abbrev Qz:=V->V->V->Hp->(Hp->Prop)->Prop
def WQ (X:Cx)(t:Qz):Prop:=
 ∀(pins:ZHQ) (s:Shared) (σ:St) (H:Hp) (o i v:V) (ov iv u:Value) (Q:Hp->Prop),Inv X pins σ H s->RelV o ov->RelV i iv->RelV v u->t o i v H Q->
  wpAny (model X.prog X.w) X.A (setItem ov iv u) (fun _ s'=>∃H',Inv X pins σ H' s'/\Q H') X.xe s
def Du (i:Nat):TG:=fun v σ H Q=>Q (σ.set i (some v)) H
theorem Zy (hN:X.N.Nodup)(hi:X.N[i]?=some x)(hx:Loc X.env.scope x)(hf:X.fn x=true∨X.env.scope.names.lookup x=some .local:=by first | exact .inl rfl | exact .inr rfl | assumption):PG X (.Name x pos) (Du i):=by
 intro pins s σ H v u Q I r h;exact wpAny_assign_Name (gD I hN hi hx r (fun s' I'=>⟨_,H,I',h⟩) hf)
def U6:HE:=fun vs σ H Q=>vs=[]/\Q σ H
def P9 (t:TG)(u:HE):HE:=fun vs σ H Q=>∃v r,vs=v::r/\t v σ H fun σ' H'=>u r σ' H' Q
def Vf (K:ZHP)(n:Nat)(t:HE):TG:=fun v σ H Q=>∃a xs,v=.ref a/\AA K H a xs/\xs.length=n/\t xs σ H Q
def da (to ti:TE)(t:Qz):TG:=fun v σ H Q=>to σ H fun o H1=>ti σ H1 fun i H2=>t o i v H2 fun H3=>Q σ H3
def Fb (te:TE)(g:TG):TS:=fun D σ H=>te σ H fun x H1=>g x σ H1 D.nx
def cH (c:TT)(tb:TS):TS:=fun D σ H=>∃W:Nat->St->Hp->Prop,(∃m,W m σ H)/\∀m σ H,W m σ H->
 c σ H fun b H1=>if b=true then ∃N:St->Hp->Prop,(∀ σ' H',N σ' H'->∃m',m' < m/\W m' σ' H')/\tb { D with nx:=N,ct:=N,bk:=D.nx } σ H1 else D.nx σ H1
structure It where
 go:Nat->Hp->Prop
 Fx:Nat->Hp->V->Hp->Prop
 stop:Nat->Hp->Prop
def Dy (X:Cx)(pins:ZHQ)(H:Hp)(b:Addr):Prop:=
 H b=none/\b≠X.env.locals/\b∉X.fs/\(b∈X.ex∨X.s₀.heap.objs.size<=b)/\(∀x c,X.env.cells.lookup x=some c->c≠b)/\∀p∈X.pn++pins,p.1≠b
theorem Inv.Kr (I:Inv X pins σ H s)(hb:s.heap.objs.size<=b)(hn:H' b=none):Dy X pins H' b:=by
 refine⟨hn,Jq (DO I.lt hb),I.yL hb,.inr (CZ I.sz hb),fun x c e z=>?_,fun p hp z=>?_⟩
 ·obtain⟨v,q⟩:=I.cell x c e;exact absurd (DO q.lt (by rw[z];exact hb)) (LC _)
 ·exact absurd (DO (BC (I.pin p hp).1) (by rw[z];exact hb)) (LC _)
structure Turn (P:Program) (w:World) (K:ZHP) (tg:Expr) (J:It) (fp:List Addr) (it:Addr) (tn:Nat->Heap->Prop):Prop where
 mem:it∈fp
 obj:∀i h,tn i h->∀b∈fp,∃o,h.get? b=some o/\∀v,o.data≠.cell v
 keep:∀i h h',tn i h->(∀b∈fp,∀o,h.get? b=some o->h'.get? b=some o)->tn i h'
 item:∀(X:Cx),X.prog=P->X.w=w->X.K=K->X.calm=true->∀(i:Nat) (pins:ZHQ) (s:Shared) (σ:St) (H:Hp) (E:Value->Shared->Prop),Inv X pins σ H s->(∀b∈fp,Dy X pins H b)->tn i s.heap->J.go i H->
  wpAny (model P w) X.A (pyNext (.ref it)) (fun r s1=>∃u,r=some u/\
   wpAny (model P w) X.A (letOwnedTupleGo tg (.ref it) u) (fun _ s2=>∃x H',Inv X pins σ H' s2/\RelV x u/\J.Fx i H x H'/\tn (i+1) s2.heap/\∀b∈fp,H' b=none) E s1) E s
 done:∀(X:Cx),X.prog=P->X.w=w->X.K=K->X.calm=true->∀(i:Nat) (pins:ZHQ) (s:Shared) (σ:St) (H:Hp) (E:Value->Shared->Prop),Inv X pins σ H s->(∀b∈fp,Dy X pins H b)->tn i s.heap->J.stop i H->
  wpAny (model P w) X.A (pyNext (.ref it)) (fun r s1=>r=none/\Inv X pins σ H s1) E s
 self:∀(A:Around) (i:Nat) (s:Shared) (Q:Value->Shared->Prop) (E:Value->Shared->Prop),tn i s.heap->Q (.ref it) s->wpAny (model P w) A (pyIter (.ref it)) Q E s
abbrev TI:=St->Hp->(It->Hp->Prop)->Prop
def iD (X:Cx)(pins:ZHQ)(σ:St)(tg:Expr)(R:It->Hp->Prop)(Q7:Value)(s2:Shared):Prop:=
 ∃(it:Addr) (fp:List Addr) (tn:Nat->Heap->Prop) (J:It) (H':Hp),Q7=.ref it/\Inv X pins σ H' s2/\Turn X.prog X.w X.K tg J fp it tn/\tn 0 s2.heap/\(∀b∈fp,Dy X pins H' b)/\R J H'
def PI (X:Cx)(tg iter:Expr)(wi:TI):Prop:=
 ∀(pins:ZHQ) (s:Shared) (σ:St) (H:Hp) (R:It->Hp->Prop),Inv X pins σ H s->wi σ H R->
  wpAny (model X.prog X.w) X.A (eval iter X.env) (fun v s1=>wpAny (model X.prog X.w) X.A (pyIter v) (iD X pins σ tg R) X.xe s1) X.xe s
theorem NQ {o:Obj}{n:String}{vs:Array Value}{Q:Unit->Shared->Prop}(ho:s.heap.get? it=some o)(hc:o.cls=.type n)(hd:o.data=.fields vs)
  (hn:["enumerate","zip","dict_itemiterator","dict_reverseitemiterator","odict_iterator","itertools.zip_longest","itertools.pairwise"].contains n=false) (hQ:Q () s):wpAny M A (letOwnedTupleGo tg (.ref it) u) Q E s:=by
 unfold letOwnedTupleGo;cases tg <;> first
  | exact mf hQ
  | (cases u <;> first
    | exact mf hQ
    | (
      refine mG (ZAN ho ?_);rw[hc,hd];show wpAny M A (if(["enumerate","zip","dict_itemiterator","dict_reverseitemiterator","odict_iterator","itertools.zip_longest","itertools.pairwise"].contains n && vs[0]? == some (rawInt _))=true then _ else _) Q E s
      rw[nr (by intro h;rw[hn,Bool.false_and] at h;cases h)];exact mf hQ))
def Itl (K:ZHP)(a:Addr):It:=
 ⟨fun i H=>∃xs x,AI K H a xs/\xs[i]?=some x,fun i H x H'=>H'=H/\∀xs,AI K H a xs->xs[i]?=some x,fun i H=>∃xs,AI K H a xs/\xs.length<=i⟩
def nD (K:ZHP)(a:Addr):It:=
 ⟨fun i H=>∃xs x,AA K H a xs/\xs[i]?=some x,fun i H x H'=>H'=H/\∀xs,AA K H a xs->xs[i]?=some x,fun i H=>∃xs,AA K H a xs/\xs.length<=i⟩
def Ln (lo:Int)(n:Nat):It:=⟨fun i _=>i<n,fun i H x H'=>H'=H/\x=.int (lo+i),fun i _=>n<=i⟩
theorem O5 {P:Program}{K:ZHP}(a it:Addr):Turn P w K tg (Itl K a) [it] it (fun i h=>h.IsListIter it a i) where
 mem:=by simp
 obj:=fun i h st b hb=>by
  have e:b=it:=by simpa using hb
  subst e;obtain⟨o,e,c,d⟩:=st;exact⟨o,e,fun v z=>by rw[d] at z;cases z⟩
 keep:=fun i h h' st k=>st.at fun o e=>k it (by simp) o e
 item:=by
  intro X hP hw hK hc i pins s σ H E I hf st hg;subst hP hw hK;obtain⟨xs,x,hq,hx⟩:=hg;obtain⟨A4,rv,p,hz⟩:=I.list hq;obtain⟨u,hu,ru⟩:=rv.get hx;obtain⟨f0,f1,f2,f3,f4,f5⟩:=hf it (by simp);refine wpAny_pyNext_list_item st p.isList (x:=u) (by simpa using hu) fun h' Cv sb=>?_
  have I1:Inv X pins σ H { s with heap:=h' }:=I.turned (t':=s.toks) (fun b o hb e=>(sb.2 b hb).trans e) f0 f1 f3 f4 f5
  obtain⟨o,e,c,d⟩:=id Cv;exact⟨u,rfl,NQ (s:={ s with heap:=h' }) e c d (by decide) ⟨x,H,I1,ru,⟨rfl,fun ys hy=>by rw[I.aI hy hq];exact hx⟩,Cv,fun b hb=>(hf b hb).1⟩⟩
 done:=by
  intro X hP hw hK hc i pins s σ H E I hf st hg;subst hP hw hK;obtain⟨xs,hq,hx⟩:=hg;obtain⟨A4,rv,p,hz⟩:=I.list hq;obtain⟨f0,f1,f2,f3,f4,f5⟩:=hf it (by simp);have hl:=rv.length;exact wpAny_pyNext_list_end (I.ok.hd hc) st p.isList (by simp;omega) fun h' eb=>⟨rfl,I.turned (t':=s.toks) (fun b o hb e=>eb b o hb e) f0 f1 f3 f4 f5⟩
 self:=fun _ _ _ _ _ st h=>wpAny_pyIter_listiter st h
theorem Ms {P:Program}{K:ZHP}(a it:Addr):Turn P w K tg (nD K a) [it] it (fun i h=>h.IsTupleIter it a i) where
 mem:=by simp
 obj:=fun i h st b hb=>by
  have e:b=it:=by simpa using hb
  subst e;obtain⟨o,e,c,d⟩:=st;exact⟨o,e,fun v z=>by rw[d] at z;cases z⟩
 keep:=fun i h h' st k=>st.at fun o e=>k it (by simp) o e
 item:=by
  intro X hP hw hK hc i pins s σ H E I hf st hg;subst hP hw hK;obtain⟨xs,x,hq,hx⟩:=hg;obtain⟨A4,rv,p,hz⟩:=I.tuple hq;obtain⟨u,hu,ru⟩:=rv.get hx;obtain⟨f0,f1,f2,f3,f4,f5⟩:=hf it (by simp);refine wpAny_pyNext_tuple_item st (show s.heap.IsTuple a A4.toArray from p) (x:=u) (by simpa using hu) fun h' Cv sb=>?_
  have I1:Inv X pins σ H { s with heap:=h' }:=I.turned (t':=s.toks) (fun b o hb e=>(sb.2 b hb).trans e) f0 f1 f3 f4 f5
  obtain⟨o,e,c,d⟩:=id Cv;exact⟨u,rfl,NQ (s:={ s with heap:=h' }) e c d (by decide) ⟨x,H,I1,ru,⟨rfl,fun ys hy=>by rw[I.Nt hy hq];exact hx⟩,Cv,fun b hb=>(hf b hb).1⟩⟩
 done:=by
  intro X hP hw hK hc i pins s σ H E I hf st hg;subst hP hw hK;obtain⟨xs,hq,hx⟩:=hg;obtain⟨A4,rv,p,hz⟩:=I.tuple hq;obtain⟨f0,f1,f2,f3,f4,f5⟩:=hf it (by simp);have hl:=rv.length;exact wpAny_pyNext_tuple_end (I.ok.hd hc) st (show s.heap.IsTuple a A4.toArray from p) (by simp;omega) fun h' eb=>⟨rfl,I.turned (t':=s.toks) (fun b o hb e=>eb b o hb e) f0 f1 f3 f4 f5⟩
 self:=fun _ _ _ _ _ st h=>wpAny_pyIter_tupleiter st h
theorem ZFI {P:Program}{K:ZHP}(it:Addr)(lo:Int)(n:Nat):Turn P w K tg (Ln lo n) [it] it (fun i h=>IsRangeIter h it (lo+(i:Nat) * 1) ((n:Int) - (i:Nat)) 1) where
 mem:=by simp
 obj:=fun i h st b hb=>by
  have e:b=it:=by simpa using hb
  subst e;exact⟨_,st,fun v z=>by
   have z':Data.fields _=Data.cell v:=z;cases z'⟩
 keep:=fun i h h' st k=>k it (by simp) _ st
 item:=by
  intro X hP hw hK hc i pins s σ H E I hf st hg;subst hP hw hK;obtain⟨f0,f1,f2,f3,f4,f5⟩:=hf it (by simp);have W:=Walks.range (prog:=X.prog) (w:=X.w) (I.ok.hd hc) it lo 1 n;refine W.item i s _ _ hg st fun v h' tk hv Cv kk=>?_;obtain⟨t,rfl⟩:=hv;have I1:Inv X pins σ H { s with heap:=h',toks:=tk }:=I.turned (fun b o hb e=>kk b o (by simpa using hb) e) f0 f1 f3 f4 f5
  refine⟨_,rfl,NQ (s:={ s with heap:=h',toks:=tk }) (n:="range_iterator") Cv rfl rfl (by decide) ⟨.int (lo+i),H,I1,⟨t,?_⟩,⟨rfl,rfl⟩,Cv,fun b hb=>(hf b hb).1⟩⟩
  rw[Int.mul_one]
 done:=by
  intro X hP hw hK hc i pins s σ H E I hf st hg;subst hP hw hK;obtain⟨f0,f1,f2,f3,f4,f5⟩:=hf it (by simp);exact wpAny_pyNext_range_end (I.ok.hd hc) st (by have:n<=i:=hg;omega) fun h' eb=>⟨rfl,I.turned (t':=s.toks) (fun b o hb e=>eb b o hb e) f0 f1 f3 f4 f5⟩
 self:=fun _ _ _ _ _ st h=>wpAny_pyIter_rangeiter st h
theorem xQ {R:It->Hp->Prop}{lo hi:Int}{t u v:Tok}(I:Inv X pins σ H s)(h1:-(2 ^ 62)<=lo)(h2:lo<2 ^ 62)(h3:-(2 ^ 62)<=hi)(h4:hi<2 ^ 62)
  (q:R (Ln lo (hi - lo).toNat) H):wpAny (model X.prog X.w) X.A (pyIter (.ref s.heap.objs.size)) (iD X pins σ tg R) E { s with heap:=s.heap.push { cls:=.type "range", data:=.fields #[.int lo t,.int hi u,.int 1 v] },toks:=tk }:=by
 refine wpAny_pyIter_range (IsRange.new ..) (small_one h1 h2 h3 h4) ?_;have I1:Inv X pins σ H { s with heap:=s.heap.push { cls:=.type "range", data:=.fields #[.int lo t,.int hi u,.int 1 v] },toks:=tk }:=I.kept fun b o e=>BE _ e
 refine⟨(s.heap.push { cls:=.type "range", data:=.fields #[.int lo t,.int hi u,.int 1 v] }).objs.size,[(s.heap.push { cls:=.type "range", data:=.fields #[.int lo t,.int hi u,.int 1 v] }).objs.size],_,_,H,rfl,
  I1.kept (t':=tk) fun b o e=>BE _ e,ZFI _ lo (hi - lo).toNat,?_,fun b hb=>?_,q⟩
 ·have e1:lo+((0:Nat):Int) * 1=lo:=by simp
  have e2:(((hi - lo).toNat:Nat):Int) - ((0:Nat):Int)=Builtin.Range.rangeSize lo hi 1:=by rw[rangeSize_one];split <;> omega
  show IsRangeIter _ _ (lo+((0:Nat):Int) * 1) ((((hi - lo).toNat:Nat):Int) - ((0:Nat):Int)) 1;rw[e1,e2];exact BR _ rfl
 ·have e:b=(s.heap.push { cls:=.type "range", data:=.fields #[.int lo t,.int hi u,.int 1 v] }).objs.size:=by simpa using hb
  subst e;exact I1.Kr (Ao _) (I1.AK.fresh (Ao _))
def Z4 (ta:TA):TI:=fun σ H R=>ta σ H fun vs H1=>∃j:Int,vs=[.int j]/\-(2 ^ 62)<=j/\j<2 ^ 62/\R (Ln 0 j.toNat) H1
def VH (wi:TI)(g:TG)(tb:TS):TS:=fun D σ H=>wi σ H fun J H1=>∃W:Nat->Nat->St->Hp->Prop,(∃m,W 0 m σ H1)/\∀i m σ H,W i m σ H->
 (J.stop i H/\D.nx σ H)∨(J.go i H/\∃N:St->Hp->Prop,(∀ σ' H',N σ' H'->∃m',m' < m/\W (i+1) m' σ' H')/\∀x H',J.Fx i H x H'->g x σ H' fun σ2 H2=>tb { D with nx:=N,ct:=N,bk:=D.nx } σ2 H2)
def N8 (fp:List Addr)(h:Heap):ZHQ:=fp.filterMap fun b=>(h.get? b).map fun o=>(b,o)
theorem QY {h:Heap}{o:Obj}(hb:b∈fp)(e:h.get? b=some o):(b,o)∈N8 fp h:=List.mem_filterMap.mpr ⟨b,hb,by rw[e];rfl⟩
theorem z4 {h:Heap}{p:Addr×Obj}(hp:p∈N8 fp h):p.1∈fp/\h.get? p.1=some p.2:=by
 obtain⟨b,hb,e⟩:=List.mem_filterMap.mp hp;cases q:h.get? b with
 | none=>rw[q] at e;cases e
 | some o=>
  rw[q] at e;have e':(b,o)=p:=BS e;subst e';exact⟨hb,q⟩
theorem Inv.pinned (I:Inv X pins σ H s)(hf:∀b∈fp,Dy X pins H b)(ho:∀b∈fp,∃o,s.heap.get? b=some o/\∀v,o.data≠.cell v):Inv X (pins++N8 fp s.heap) σ H s:=
 I.gh fun p hp=>(List.mem_append.mp hp).elim (fun z=>I.pin p (Ef _ z)) fun z=>by
  obtain⟨hb,e⟩:=z4 z;obtain⟨f0,f1,f2,_⟩:=hf p.1 hb;obtain⟨o,e',d⟩:=ho p.1 hb;rw[e] at e';cases e';exact⟨e,f0,f1,f2,d⟩
theorem Inv.Oj {pl:ZHQ}(I:Inv X (pins++pl) σ H s):Inv X pins σ H s:=I.gh fun p hp=>I.pin p (Ef _ (Io _ hp))
theorem ml {lo:Int}{g:TG}{tb:TS}{D:Ends}(Pv:Nat->St->Hp->Prop)(h0:Pv 0 σ H)
  (hs:∀i σ H,i<n->Pv i σ H->g (.int (lo+i)) σ H fun σ2 H2=>tb { D with nx:=Pv (i+1),ct:=Pv (i+1),bk:=D.nx } σ2 H2) (hd:∀ σ H,Pv n σ H->D.nx σ H) :
  ∃W:Nat->Nat->St->Hp->Prop,(∃m,W 0 m σ H)/\∀i m σ H,W i m σ H->
   ((Ln lo n).stop i H/\D.nx σ H)∨((Ln lo n).go i H/\∃N:St->Hp->Prop,(∀ σ' H',N σ' H'->∃m',m' < m/\W (i+1) m' σ' H')/\∀x H',(Ln lo n).Fx i H x H'->g x σ H' fun σ2 H2=>tb { D with nx:=N,ct:=N,bk:=D.nx } σ2 H2):=by
 refine⟨fun i m σ H=>m=n - i/\i<=n/\Pv i σ H,⟨n,by simp,CH _,h0⟩,?_⟩;rintro i m σ H ⟨rfl,hi,p⟩
 by_cases AW:i<n
 ·refine .inr ⟨AW,Pv (i+1),fun σ' H' p'=>⟨n - (i+1),by omega,rfl,AW,p'⟩,fun x H' y=>?_⟩;obtain⟨e,y⟩:=y;subst e y;exact hs i σ _ AW p
 ·have e:i=n:=by omega
  subst e;exact .inl ⟨Ao _,hd σ H p⟩
abbrev R2:=V->V->Hp->VK->Prop
def BD (X:Cx)(f:Value->Value->Sem Value)(r:R2):Prop:=
 ∀(pins:ZHQ) (s:Shared) (σ:St) (H:Hp) (x y:V) (v u:Value) (Q:VK),Inv X pins σ H s->RelV x v->RelV y u->r x y H Q->
  wpAny (model X.prog X.w) X.A (f v u) (EP X pins σ Q) X.xe s
def CY (X:Cx)(f:Value)(r:List V->Hp->VK->Prop):Prop:=
 ∀(pins:ZHQ) (s:Shared) (σ:St) (H:Hp) (xs:List V) (us:List Value) (Q:VK),Inv X pins σ H s->Vals xs us->r xs H Q->
  wpAny (model X.prog X.w) X.A (call f us) (EP X pins σ Q) X.xe s
def C5 (r:R2)(ta tb:TE):TE:=fun σ H Q=>ta σ H fun x H1=>tb σ H1 fun y H2=>r x y H2 Q
def rI (C:Int->Int->Prop)(g:Int->Int->V):R2:=fun x y H Q=>∃i j,x=.int i/\y=.int j/\C i j/\Q (g i j) H
def GL (g:Int->Int->V):R2:=fun x y H Q=>∃i j,x=.int i/\y=.int j/\Q (g i j) H
section
variable {a b c:Expr}
theorem UH (ha:PE X a ta)(hb:PE X b tb){R:V->V->Hp->Prop}(I:Inv X pins σ H s)
  (h:ta σ H fun x H1=>tb σ H1 fun y H2=>R x y H2)
  (hf:∀v u s2 x y H2,Inv X pins σ H2 s2->RelV x v->RelV y u->R x y H2->wpAny (model X.prog X.w) X.A (f v u) Q X.xe s2) :
  wpAny (model X.prog X.w) X.A (eval a X.env) (fun v s₁=>wpAny (model X.prog X.w) X.A (eval b X.env) (fun u s₂=>wpAny (model X.prog X.w) X.A (f v u) Q X.xe s₂) X.xe s₁) X.xe s:=by
 refine AS (ha pins s σ H _ I h) fun v s1 Mq=>?_;obtain⟨x,H1,I1,r1,q1⟩:=Mq;refine AS (hb pins s1 σ H1 _ I1 q1) fun u s2 ZB2=>?_;obtain⟨y,H2,I2,r2,q2⟩:=ZB2;exact hf v u s2 x y H2 I2 r1 r2 q2
theorem Q3 {C:Int->Int->Prop}{g:Int->Int->Int}
  (rule:∀(i j:Int) (t u:Tok) (s:Shared) (Q:Value->Shared->Prop) (E:Value->Shared->Prop),C i j->Q (.int (g i j) s.toks) { s with toks:=s.toks+1 }->wpAny (model X.prog X.w) X.A (f (.int i t) (.int j u)) Q E s) :
  BD X f (rI C fun i j=>.int (g i j)):=by
 intro pins s σ H x y v u Q I rx ry h;obtain⟨i,j,rfl,rfl,hc,q⟩:=h;obtain⟨t,rfl⟩:=rx;obtain⟨t',rfl⟩:=ry;exact rule i j t t' s _ _ hc ⟨.int (g i j),H,I.tok _,⟨_,rfl⟩,q⟩
theorem jh {g:Int->Int->Int}
  (rule:∀(i j:Int) (t u:Tok) (s:Shared) (Q:Value->Shared->Prop) (E:Value->Shared->Prop),Q (.int (g i j) s.toks) { s with toks:=s.toks+1 }->wpAny (model X.prog X.w) X.A (f (.int i t) (.int j u)) Q E s) :
  BD X f (GL fun i j=>.int (g i j)):=by
 intro pins s σ H x y v u Q I rx ry h;obtain⟨i,j,rfl,rfl,q⟩:=h;obtain⟨t,rfl⟩:=rx;obtain⟨t',rfl⟩:=ry;exact rule i j t t' s _ _ ⟨.int (g i j),H,I.tok _,⟨_,rfl⟩,q⟩
theorem RA {g:Int->Int->Bool}
  (rule:∀(i j:Int) (t u:Tok) (s:Shared) (Q:Value->Shared->Prop) (E:Value->Shared->Prop),Q (.bool (g i j)) s->wpAny (model X.prog X.w) X.A (f (.int i t) (.int j u)) Q E s) :
  BD X f (GL fun i j=>.bl (g i j)):=by
 intro pins s σ H x y v u Q I rx ry h;obtain⟨i,j,rfl,rfl,q⟩:=h;obtain⟨t,rfl⟩:=rx;obtain⟨t',rfl⟩:=ry;exact rule i j t t' s _ _ ⟨.bl (g i j),H,I,rfl,q⟩
def vC (i j:Int):Prop:=0<=j/\j<=1000000/\i.natAbs<2 ^ 64
theorem Dt:BD X (binaryOp .Add) (GL fun i j=>.int (i+j)):=jh fun _ _ _ _ _ _ _ q=>add_int q
theorem QV:BD X (binaryOp .Sub) (GL fun i j=>.int (i - j)):=jh fun _ _ _ _ _ _ _ q=>sub_int q
theorem J9:BD X (binaryOp .Mod) (rI (fun _ j=>0<j) fun i j=>.int (i % j)):=Q3 fun i j _ _ _ _ _ hc q=>by
 have h1:(0:Int)<j:=hc;exact mod_int' (by omega) (by rw[Int.fmod_eq_emod_of_nonneg i (by omega)];exact q)
theorem MW:BD X (binaryOp .Pow) (rI vC fun i j=>.int (i ^ j.toNat)):=Q3 fun _ _ _ _ _ _ _ hc q=>pow_int_small hc.1 hc.2.1 hc.2.2 q
end
def SG:V->V->Bool
 | .AF,.AF=>true | .AF,.int _=>true | .int _,.AF=>true | .AF,.bl _=>true | .bl _,.AF=>true | .AF,.str _=>true | .str _,.AF=>true
 | .int _,.int _=>true | .bl _,.bl _=>true | .str _,.str _=>true | .GG _,.GG _=>true
 | .int _,.str _=>true | .str _,.int _=>true | .bl _,.str _=>true | .str _,.bl _=>true
 | _,_=>false
def U1:R2:=fun x y H Q=>SG x y=true/\Q (.bl (decide (x=y))) H
def kA:R2:=fun x y H Q=>SG x y=true/\Q (.bl (!decide (x=y))) H
theorem kP {i j:Int}:decide (V.int i=V.int j)=(i == j):=by
 rw[Me];simp
theorem aA {i j:Bool}:decide (V.bl i=V.bl j)=(i == j):=by
 rw[Me];simp
theorem ae {i j:Str}:decide (V.str i=V.str j)=(i == j):=by
 rw[Me];simp
theorem jw {i j:Array UInt8}:decide (V.GG i=V.GG j)=(i.toList == j.toList):=by
 rw[Me];cases i;cases j;simp
section
variable {a b c:Expr}
theorem Bt {Q:VK}{k k':Bool}(I:Inv X pins σ H s)(q:Q (.bl k) H)(e:k=k'):EP X pins σ Q (.bool k') s:=by
 subst e;exact⟨.bl k,H,I,rfl,q⟩
theorem C2:BD X (compareOp .Eq) U1:=by
 intro pins s σ H x y v u Q I rx ry h;obtain⟨hs,q⟩:=h;cases x with
 | AF=>
  cases rx;cases y with
  | AF=>cases ry;exact PySem.EqNone.eq_none_none (Bt I q (by simp))
  | bl j=>cases ry;exact PySem.EqNone.eq_none_bool (Bt I q (by simp))
  | int j=>obtain⟨t',rfl⟩:=ry;exact PySem.EqNone.eq_none_int (Bt I q (by simp))
  | str j=>obtain⟨t',rfl⟩:=ry;exact PySem.EqNone.eq_none_str (Bt I q (by simp))
  | _=>exact absurd (show false=true from hs) DB
 | bl i=>
  cases rx;cases y with
  | AF=>cases ry;exact PySem.EqNone.eq_bool_none (Bt I q (by simp))
  | bl j=>cases ry;exact eq_bool (Bt I q aA)
  | str j=>obtain⟨t',rfl⟩:=ry;exact PySem.EqMixed.eq_bool_str (Bt I q (by simp))
  | _=>exact absurd (show false=true from hs) DB
 | int i=>
  obtain⟨t,rfl⟩:=rx;cases y with
  | AF=>cases ry;exact PySem.EqNone.eq_int_none (Bt I q (by simp))
  | int j=>obtain⟨t',rfl⟩:=ry;exact eq_int (Bt I q kP)
  | str j=>obtain⟨t',rfl⟩:=ry;exact PySem.EqMixed.eq_int_str (Bt I q (by simp))
  | _=>exact absurd (show false=true from hs) DB
 | str i=>
  obtain⟨t,rfl⟩:=rx;cases y with
  | AF=>cases ry;exact PySem.EqNone.eq_str_none (Bt I q (by simp))
  | bl j=>cases ry;exact PySem.EqMixed.eq_str_bool (Bt I q (by simp))
  | int j=>obtain⟨t',rfl⟩:=ry;exact PySem.EqMixed.eq_str_int (Bt I q (by simp))
  | str j=>obtain⟨t',rfl⟩:=ry;exact eq_str (Bt I q ae)
  | _=>exact absurd (show false=true from hs) DB
 | GG i=>
  obtain⟨t,rfl⟩:=rx;cases y with
  | GG j=>obtain⟨t',rfl⟩:=ry;exact PySem.W.eq_bytes (Bt I q jw)
  | _=>exact absurd (show false=true from hs) DB
 | _=>cases y <;> exact absurd (show false=true from hs) DB
theorem G0:BD X (compareOp .NotEq) kA:=by
 intro pins s σ H x y v u Q I rx ry h;obtain⟨hs,q⟩:=h;cases x with
 | AF=>
  cases rx;cases y with
  | AF=>cases ry;exact PySem.EqNone.ne_none_none (Bt I q (by simp))
  | bl j=>cases ry;exact PySem.EqNone.ne_none_bool (Bt I q (by simp))
  | int j=>obtain⟨t',rfl⟩:=ry;exact PySem.EqNone.ne_none_int (Bt I q (by simp))
  | str j=>obtain⟨t',rfl⟩:=ry;exact PySem.EqNone.ne_none_str (Bt I q (by simp))
  | _=>exact absurd (show false=true from hs) DB
 | bl i=>
  cases rx;cases y with
  | AF=>cases ry;exact PySem.EqNone.ne_bool_none (Bt I q (by simp))
  | bl j=>cases ry;exact ne_bool (Bt I q (uC not aA))
  | str j=>obtain⟨t',rfl⟩:=ry;exact PySem.EqMixed.ne_bool_str (Bt I q (by simp))
  | _=>exact absurd (show false=true from hs) DB
 | int i=>
  obtain⟨t,rfl⟩:=rx;cases y with
  | AF=>cases ry;exact PySem.EqNone.ne_int_none (Bt I q (by simp))
  | int j=>obtain⟨t',rfl⟩:=ry;exact ne_int (Bt I q (uC not kP))
  | str j=>obtain⟨t',rfl⟩:=ry;exact PySem.EqMixed.ne_int_str (Bt I q (by simp))
  | _=>exact absurd (show false=true from hs) DB
 | str i=>
  obtain⟨t,rfl⟩:=rx;cases y with
  | AF=>cases ry;exact PySem.EqNone.ne_str_none (Bt I q (by simp))
  | bl j=>cases ry;exact PySem.EqMixed.ne_str_bool (Bt I q (by simp))
  | int j=>obtain⟨t',rfl⟩:=ry;exact PySem.EqMixed.ne_str_int (Bt I q (by simp))
  | str j=>obtain⟨t',rfl⟩:=ry;exact ne_str (Bt I q (uC not ae))
  | _=>exact absurd (show false=true from hs) DB
 | GG i=>
  obtain⟨t,rfl⟩:=rx;cases y with
  | GG j=>obtain⟨t',rfl⟩:=ry;exact PySem.W.ne_bytes (Bt I q (uC not jw))
  | _=>exact absurd (show false=true from hs) DB
 | _=>cases y <;> exact absurd (show false=true from hs) DB
theorem GY:BD X (compareOp .Lt) (GL fun i j=>.bl (decide (i<j))):=RA fun _ _ _ _ _ _ _ q=>lt_int q
theorem Fd:BD X (compareOp .LtE) (GL fun i j=>.bl (decide (i<=j))):=RA fun _ _ _ _ _ _ _ q=>le_int q
theorem Sy:BD X (compareOp .Gt) (GL fun i j=>.bl (decide (j<i))):=RA fun _ _ _ _ _ _ _ q=>gt_int q
theorem J8:BD X (compareOp .GtE) (GL fun i j=>.bl (decide (j<=i))):=RA fun _ _ _ _ _ _ _ q=>ge_int q
theorem nE:BD X (compareOp .In) (fun x y H Q=>∃i j,x=.str i/\y=.str j/\Q (.bl (!(Builtin.Str.occurrences j i 0 j.length 1).isEmpty)) H):=by
 intro pins s σ H x y v u Q I rx ry h;obtain⟨i,j,rfl,rfl,q⟩:=h;obtain⟨t,rfl⟩:=rx;obtain⟨t',rfl⟩:=ry;exact in_str (Bt I q rfl)
theorem WK:BD X (compareOp .Is) (fun x y H Q=>y=.AF/\Q (.bl (decide (x=.AF))) H):=by
 intro pins s σ H x y v u Q I rx ry h;obtain⟨rfl,q⟩:=h;cases ry;refine is_none_gen (Bt I q ?_);cases x <;> first
  | (cases rx;rfl)
  | (obtain⟨t,rfl⟩:=rx;rfl)
theorem ki (b:Expr)(h:op≠.In:=by decide)(h2:op≠.NotIn:=by decide):behindInMarks op b=false:=by
 have e1:(op == CmpOp.In)=false:=by cases op <;> first | rfl | exact absurd rfl h
 have e2:(op == CmpOp.NotIn)=false:=by cases op <;> first | rfl | exact absurd rfl h2
 cases b <;> simp[behindInMarks,e1,e2]
def MQ (t:TE):TT:=fun σ H Q=>t σ H fun x H'=>∃k,x=.bl k/\Q k H'
theorem ZD8 {r:R2}(ho:BD X (compareOp op) r)(ha:PE X a ta)(hb:PE X b tb)(hm:behindInMarks op b=false):PT X (.Compare a [op] [b] pos) (MQ (C5 r ta tb)):=by
 intro pins s σ H Q I h;refine wpAny_isTrue_Compare1 (AS (ha pins s σ H _ I h) fun v s1 ⟨x,H1,I1,r1,q1⟩=>AS (hb pins s1 σ H1 _ I1 q1) fun u s2 ⟨y,H2,I2,r2,q2⟩=>
  AS (ho pins s2 σ H2 x y v u _ I2 r1 r2 q2) fun c s3 ⟨z,H3,I3,r3,k,e,q3⟩=>?_) hm
 subst e;cases r3;exact rq ⟨H3,I3,q3⟩
def O0 (r r':R2)(ta tb tc:TE):TE:=fun σ H Q=>ta σ H fun x H1=>tb σ H1 fun y H2=>r x y H2 fun z H3=>∃k,z=.bl k/\
 (if k=true then tc σ H3 fun w' H4=>r' y w' H4 Q else Q (.bl false) H3)
theorem JN:(sizeLine:Nat)<2 ^ 63:=by rw[ZAi];decide
theorem aQ:BD X (binaryOp .Add) (fun x y H Q=>∃i j,x=.str i/\y=.str j/\i.length+j.length<=sizeLine/\Q (.str (i++j)) H):=by
 intro pins s σ H x y v u Q I rx ry h;obtain⟨i,j,rfl,rfl,hz,q⟩:=h;obtain⟨t,rfl⟩:=rx;obtain⟨t',rfl⟩:=ry;exact add_str (fun t' tk=>⟨.str (i++j),H,I.tok _,⟨_,rfl⟩,q⟩) hz
theorem vals1 {x:V}(r:Vals [x] us):∃u,us=[u]/\RelV x u:=by
 cases r with
 | cons r1 r2=>cases r2;exact⟨_,rfl,r1⟩
theorem vals2 {x:V}(r:Vals [x,y] us):∃u w',us=[u,w']/\RelV x u/\RelV y w':=by
 cases r with
 | cons r1 r2=>
  cases r2 with
  | cons r3 r4=>cases r4;exact⟨_,_,rfl,r1,r3⟩
theorem xZ (hc:X.calm=true):CY X (.builtin "max") (fun xs H Q=>∃i j,xs=[.int i,.int j]/\Q (.int (if j > i then j else i)) H):=by
 intro pins s σ H xs us Q I r h;obtain⟨i,j,rfl,q⟩:=h;obtain⟨u,w',rfl,⟨t,rfl⟩,⟨t',rfl⟩⟩:=vals2 r;refine max_two_ints (I.ok.hd hc) fun h' tk k=>⟨_,H,I.kept k,?_,q⟩
 by_cases hj:j > i
 ·rw[pR hj,pR hj];exact⟨_,rfl⟩
 ·rw[nr hj,nr hj];exact⟨_,rfl⟩
theorem wQ (hc:X.calm=true):CY X (.builtin "min") (fun xs H Q=>∃i j,xs=[.int i,.int j]/\Q (.int (if j<i then j else i)) H):=by
 intro pins s σ H xs us Q I r h;obtain⟨i,j,rfl,q⟩:=h;obtain⟨u,w',rfl,⟨t,rfl⟩,⟨t',rfl⟩⟩:=vals2 r;refine min_two_ints (I.ok.hd hc) fun h' tk k=>⟨_,H,I.kept k,?_,q⟩
 by_cases hj:j<i
 ·rw[pR hj,pR hj];exact⟨_,rfl⟩
 ·rw[nr hj,nr hj];exact⟨_,rfl⟩
theorem U4:CY X (.type "int") (fun xs H Q=>(∃i,xs=[.int i]/\Q (.int i) H)∨∃k,xs=[.bl k]/\Q (.int (if k then 1 else 0)) H):=by
 intro pins s σ H xs us Q I r h;rcases h with⟨i,rfl,q⟩|⟨k,rfl,q⟩
 ·obtain⟨u,rfl,t,rfl⟩:=vals1 r;exact call_int_int ⟨.int i,H,I,⟨_,rfl⟩,q⟩
 ·obtain⟨u,rfl,r1⟩:=vals1 r;cases r1;exact call_int_bool ⟨.int (if k then 1 else 0),H,I.tok _,⟨_,rfl⟩,q⟩
end
structure Ju (h:Heap) (x dx C:Addr) (mA:ZHR):Prop where
 obj:h.get? x=some (PySem.W.instObj C dx)
 ns:h.Ns1 dx mA
 ne:dx≠x
theorem ZBO {h:Heap}(n:h.Ns1 dx mA):∃od,h.get? dx=some od/\∀name,PySem.W.lookIn name od=some (mA name):=by
 obtain⟨o,es,ep,ho,hd,hk,_,hm⟩:=n;refine⟨o,ho,fun name=>?_⟩;have e:=hm name;unfold nsFind findBy at e;rw[<- Array.find?_toList] at e;unfold PySem.W.lookIn;rw[hd];dsimp only;split
 ·rename_i y q;rw[q] at e;exact uC some e
 ·rename_i q;rw[q] at e;have a:es.toList.any (·.refKey)=false:=by
   rw[ZFx];intro y hy;obtain⟨z,t,Nb⟩:=hk y (Array.mem_toList_iff.mp hy);simp[DictEntry.refKey,Nb]
  have a':¬ es.toList.any (·.refKey)=true:=by rw[a];exact DB
  rw[nr a'];exact uC some e
theorem Ju.look {h:Heap}{x:Addr}(I:Ju h x dx C mA):∃od,PySem.W.InstAt h x (PySem.W.instObj C dx) C (some od)/\∀name,PySem.W.lookIn name od=some (mA name):=
 let ⟨od,ho,hl⟩:=ZBO I.ns
 ⟨od,⟨I.obj,rfl,rfl,ho⟩,hl⟩
section
variable {K:ZHP}{x f:Addr}{v:Value}
theorem get_map {expr:Bool}(X:K.In s.heap)(I:Ju s.heap x dx C mA)(hg:PySem.W.plainGet K C name=true)(hh:PySem.W.hasDictIn K C=true)
  (ha:PySem.W.findIn K (.ref C) name=some none) (hv:mA name=some v) (Ot:PySem.W.handedIn v=true) (h:Q v { s with toks:=s.toks+1 }) :
  wpAny (model prog w) A (getAttr (.ref x) name expr) Q E s:=by
 obtain⟨od,J,hl⟩:=I.look;exact PySem.W.get_value X J (m7 hg).1 (PySem.W.findObj_own hh ha rfl (by rw[hl,hv])) Ot h
theorem yX {Q:Value×List Value->Shared->Prop}(X:K.In s.heap)(I:Ju s.heap x dx C mA)(hg:PySem.W.plainGet K C name=true)
  (hf:PySem.W.findIn K (.ref C) name=some (some (.ref f))) (ht:PySem.W.isFn K (.ref f)=true) (hv:mA name=none) (h:Q (.ref f,[.ref x]) s) :
  wpAny (model prog w) A (getMethod (.ref x) name pl) Q E s:=by
 obtain⟨od,J,hl⟩:=I.look;exact PySem.W.method_fn X J (m7 hg).1 (m7 hg).2 hf (beq_iff_eq.mp ht) (by show(PySem.W.lookIn name od).map (·.isSome)=some false;rw[hl,hv];rfl) h
theorem sG {Q:Unit->Shared->Prop}(X:K.In s.heap)(I:Ju s.heap x dx C mA)
  (hs:PySem.W.findIn K (.ref C) "__setattr__"=some (some (.builtin "object.__setattr__"))) (hp:PySem.W.plainOver K C=true) (ht:PySem.W.takerIn K C name=some none) (hh:PySem.W.hasDictIn K C=true)
  (hw:PySem.Within mA ns) (hsz:ns.length<=sizeLine)
  (h:∀h',Ju h' x dx C (fun y=>if y=name then some v else mA y)->Heap.SameBut dx s.heap h'->Q () { s with heap:=h',toks:=s.toks+2 }) :
  wpAny (model prog w) A (setAttr (.ref x) name v) Q E s:=by
 obtain⟨od,J,hl⟩:=I.look;refine PySem.W.set_plain X J hs (PySem.W.osa_open (s:={ s with toks:=s.toks+1 }) (r:=none) X J hp ht fun b=>?_)
 obtain⟨cd,hc,Vv⟩:=PySem.W.any_some hh;have hx:s.heap.get? x=some ⟨.ref C,some dx,.plain,#[]⟩:=I.obj;refine mG (mf (mG (mG (wpAny_loadPart hx (mG (PySem.W.Looks.here (s:={ s with toks:=s.toks+1 }) (PySem.W.looks_clsIn X hc) ?_))))))
 rw[Vv];refine mf (a:=some dx) (mG (mf (mG ?_)));refine wpAny_nsSet1 (s:={ s with toks:=s.toks+1 }) I.ns fun h' Rc D4=>?_
 obtain⟨oD,esD,epD,wH,qI,zy⟩:=Rc.count (PySem.Within.cons name v hw);refine mG (wpAny_lookBehind wH (by rw[qI];exact pastItsLine_dict (CZ zy (by rw[BH];omega))) ?_);exact mf (h _ ⟨(D4.2 _ (BP I.ne)).trans I.obj,Rc,I.ne⟩ D4)
theorem zm {R:Result->Shared->Prop}{vs:List Value}(X:K.In s.heap)(hm:PySem.W.makesIn K C=true)
  (hi:PySem.W.findIn K (.ref C) "__init__"=some (some (.ref f))) (hf:PySem.W.typeIn K (.ref f)=some (.type "function"))
  (h:codeAny (model prog w) (A.under (.builtin "type.__call__" ⟨.ref C::vs,kw⟩)) (.call (.ref f) ⟨.ref (s.heap.objs.size+1)::vs,kw⟩) (PySem.W.InitBack (s.heap.objs.size+1) R)
   { s with heap:=(s.heap.push PySem.W.emptyDict).push (PySem.W.instObj C s.heap.objs.size) }) :
  codeAny (model prog w) A (.call (.ref C) ⟨vs,kw⟩) R s:=by
 obtain⟨hh,g,d,t,os⟩:=s;exact PySem.W.make_core (PySem.W.makes_of X hm) (PySem.W.looks_findIn X hi) (fun self=>PySem.W.bind_fn X self hf) (.inl rfl) h
end
def DY (f:Str)(v:V):List (Str×V)->List (Str×V)
 | []=>[(f,v)]
 | (g,x)::r=>if g=f then(g,v)::r else(g,x)::DY f v r
theorem aG (f g:Str)(v:V):∀fs:List (Str×V),(DY f v fs).lookup g=if g=f then some v else fs.lookup g
 | []=>by
  show List.lookup g [(f,v)]=_
  by_cases h:g=f
  ·have hb:(g == f)=true:=beq_iff_eq.mpr h;simp only[List.lookup,hb,pR h]
  ·have hb:(g == f)=false:=beq_eq_false_iff_ne.mpr h;simp only[List.lookup,hb,nr h]
 | (k,x)::r=>by
  have ih:=aG f g v r;rw[show DY f v ((k,x)::r)=(if k=f then(k,v)::r else(k,x)::DY f v r) from rfl]
  by_cases hk:k=f
  ·rw[pR hk]
   by_cases h:g=k
   ·have hb:(g == k)=true:=beq_iff_eq.mpr h;simp only[List.lookup,hb,pR (h.trans hk)]
   ·have hb:(g == k)=false:=beq_eq_false_iff_ne.mpr h;simp only[List.lookup,hb,nr (fun e:g=f=>h (e.trans hk.symm))]
  ·rw[nr hk]
   by_cases h:g=k
   ·have hb:(g == k)=true:=beq_iff_eq.mpr h;simp only[List.lookup,hb,nr (fun e:g=f=>hk (h.symm.trans e))]
   ·have hb:(g == k)=false:=beq_eq_false_iff_ne.mpr h;simp only[List.lookup,hb];exact ih
theorem VO (f:Str)(v:V):∀fs:List (Str×V),f∈(DY f v fs).map (·.1)/\∀g,g∈fs.map (·.1)->g∈(DY f v fs).map (·.1)
 | []=>⟨by simp[DY],fun g h=>by simp at h⟩
 | (k,x)::r=>by
  obtain⟨i1,i2⟩:=VO f v r;rw[show DY f v ((k,x)::r)=(if k=f then(k,v)::r else(k,x)::DY f v r) from rfl]
  by_cases hk:k=f
  ·rw[pR hk];subst hk;exact⟨by simp,fun g h=>by simpa using h⟩
  ·rw[nr hk];refine⟨?_,fun g h=>?_⟩
   ·rw[Bn];exact DZ _ i1
   ·rw[Bn] at h ⊢;rcases List.mem_cons.mp h with e | e
    ·exact List.mem_cons.mpr (.inl e)
    ·exact DZ _ (i2 g e)
theorem bc (f:Str)(v:V):∀fs:List (Str×V),(DY f v fs).length<=fs.length+1
 | []=>by simp[DY]
 | (k,x)::r=>by
  have ih:=bc f v r;rw[show DY f v ((k,x)::r)=(if k=f then(k,v)::r else(k,x)::DY f v r) from rfl]
  by_cases hk:k=f
  ·rw[pR hk,BH,BH];omega
  ·rw[nr hk,BH,BH];omega
theorem EK.some_of {o:Option Value}(r:EK (some v) o):∃u,o=some u/\RelV v u:=by
 cases o with
 | none=>exact(show False from r).elim
 | some u=>exact⟨u,rfl,r⟩
theorem EK.none_of {o:Option Value}(r:EK none o):o=none:=by
 cases o with
 | none=>rfl
 | some u=>exact(show False from r).elim
theorem tf (r:RelV v u):PySem.W.handedIn u=true:=by
 cases v with
 | AF=>cases(show u=Value.none from r);rfl
 | bl b=>cases(show u=Value.bool b from r);rfl
 | int i=>obtain⟨t,e⟩:=(show ∃t,u=Value.int i t from r);cases e;rfl
 | str x=>obtain⟨t,e⟩:=(show ∃t,u=Value.str x t from r);cases e;rfl
 | GG b=>obtain⟨t,e⟩:=(show ∃t,u=Value.bytes b t from r);cases e;rfl
 | Jz b=>obtain⟨t,e⟩:=(show ∃t,u=Value.float b t from r);cases e;rfl
 | ref a=>cases(show u=Value.ref a from r);rfl
 | ty n=>cases(show u=Value.type n from r);rfl
section
variable {P:Program}{h:Heap}{fs fs':List (Str×V)}
theorem PF (AK:C4 P w H h)(e:H a=some (.ins C dx fs)):∃mA,Ju h a dx C mA/\(∀f,EK (fs.lookup f) (mA f))/\PySem.Within mA (fs.map (·.1))/\fs.length<=1000/\H dx=some (.own a):=by
 obtain⟨d,z,ne,ob,mA,n,r,q⟩:=(show Bx P w H h a (.ins C dx fs) from AK a _ e);exact⟨mA,⟨ob,n,ne⟩,r,q,z,d⟩
end
structure C3 (K:ZHP) (C:Addr):Prop where
 pg:PySem.W.plainGet K C Str.empty=true
 hd:PySem.W.hasDictIn K C=true
 po:PySem.W.plainOver K C=true
 sa:PySem.W.findIn K (.ref C) "__setattr__"=some (some (.builtin "object.__setattr__"))
theorem C3.get {K:ZHP}{C:Addr}(c:C3 K C)(f:Str):PySem.W.plainGet K C f=true:=c.pg
def By (K:ZHP)(C:Addr)(f:Str):Prop:=PySem.W.findIn K (.ref C) f=some none
theorem By.xA {K:ZHP}{f:Str}(n:By K C f):PySem.W.takerIn K C f=some none:=by
 unfold PySem.W.takerIn;rw[show PySem.W.findIn K (.ref C) f=some none from n];rfl
structure Meth (K:ZHP) (C:Addr) (m:Str) (f:Addr):Prop where
 at_:PySem.W.findIn K (.ref C) m=some (some (.ref f))
 fn:PySem.W.isFn K (.ref f)=true
 kp:PySem.W.keepIn K (.ref f)=true
section
variable {fs:List (Str×V)}{f:Str}
theorem uK {b:Bool}(I:Inv X pins σ H s)(e:H a=some (.ins C dx fs))(c:C3 X.K C)(n:By X.K C f)(l:fs.lookup f=some v)
  (h:∀u s',Inv X pins σ H s'->RelV v u->Q u s'):wpAny (model X.prog X.w) A (getAttr (.ref a) f b) Q E s:=by
 obtain⟨mA,O,r,_,_,_⟩:=PF I.AK e;obtain⟨u,hu,ru⟩:=EK.some_of (v:=v) (o:=mA f) (by rw[<- l];exact r f);exact get_map I.CV O (c.get f) c.hd n hu (tf ru) (h u _ (I.tok _) ru)
theorem ju {g:Addr}{Q:Value×List Value->Shared->Prop}(I:Inv X pins σ H s)(e:H a=some (.ins C dx fs))(c:C3 X.K C)(k:Meth X.K C m g)(l:fs.lookup m=none)
  (h:Q (.ref g,[.ref a]) s):wpAny (model X.prog X.w) A (getMethod (.ref a) m pl) Q E s:=by
 obtain⟨mA,O,r,_,_,_⟩:=PF I.AK e;have hn:mA m=none:=EK.none_of (by rw[<- l];exact r m);exact yX I.CV O (c.get m) k.at_ k.fn hn h
theorem wD {Q:Unit->Shared->Prop}(I:Inv X pins σ H s)(e:H a=some (.ins C dx fs))(c:C3 X.K C)(n:By X.K C f)(hl:fs.length<1000)(ry:RelV y u)
  (h:∀s',Inv X pins σ (upd H a (.ins C dx (DY f y fs))) s'->Q () s'):wpAny (model X.prog X.w) A (setAttr (.ref a) f u) Q E s:=by
 obtain⟨mA,O,r,wi,_,ho⟩:=PF I.AK e;have hz:(fs.map (·.1)).length<=sizeLine:=by rw[AX,ZAi];omega
 refine sG I.CV O c.sa c.po n.xA c.hd wi hz fun h' O' sb=>h _ ?_;have hd:∃o,h'.get? dx=some o:=let ⟨o,_,_,e',_⟩:=O'.ns;⟨o,e'⟩;refine I.write (x:=a) (e:=dx) (by rw[e];exact True.intro) (.inr ho) (fun b q hb z=>(sb.2 b hb).trans z) hd ?_;refine⟨by rw[Ad O.ne];exact ho,?_,O.ne,O'.obj,_,O'.ns,fun g=>?_,fun g hg=>?_⟩
 ·have:=bc f y fs;omega
 ·show EK ((DY f y fs).lookup g) (if g=f then some u else mA g)
  rw[aG]
  by_cases q:g=f
  ·rw[pR q,pR q];exact ry
  ·rw[nr q,nr q];exact r g
 ·by_cases q:g=f
  ·rw[q];exact(VO f y fs).1
  ·refine(VO f y fs).2 g (wi g fun z=>hg ?_);show(if g=f then some u else mA g)=none
   rw[nr q];exact z
theorem Inv.made (I:Inv X pins σ H s):Inv X pins σ (upd (upd H s.heap.objs.size (.own (s.heap.objs.size+1))) (s.heap.objs.size+1) (.ins C s.heap.objs.size []))
  { s with heap:=(s.heap.push PySem.W.emptyDict).push (PySem.W.instObj C s.heap.objs.size) }:=by
 have e1:(s.heap.push PySem.W.emptyDict).get? s.heap.objs.size=some PySem.W.emptyDict:=BR s.heap rfl;have e2:((s.heap.push PySem.W.emptyDict).push (PySem.W.instObj C s.heap.objs.size)).get? (s.heap.objs.size+1)=some (PySem.W.instObj C s.heap.objs.size):=by
  have:=BR (s.heap.push PySem.W.emptyDict) (o:=PySem.W.instObj C s.heap.objs.size) rfl
  rwa [Dl] at this
 have e3:(s.heap.push PySem.W.emptyDict).Ns s.heap.objs.size (fun _=>none):=⟨PySem.W.emptyDict,#[],_,e1,rfl,(fun e he=>absurd he (by simp)),fun _=>rfl⟩;have I1:=I.laid (a:=s.heap.objs.size) (o:=.own (s.heap.objs.size+1)) (h':=s.heap.push PySem.W.emptyDict) (t':=s.toks) (fun b u q=>BE _ q) (Ao _) ⟨_,e1⟩;refine I1.laid (a:=s.heap.objs.size+1) (o:=.ins C s.heap.objs.size []) (t':=s.toks) (fun b u q=>BE _ q) (la (Dl _ _)) ?_;have ne:s.heap.objs.size≠s.heap.objs.size+1:=BJ (LD _);refine⟨by rw[Ad ne,AH],CH _,ne,e2,fun _=>none,(Heap.Ns1.of_empty e3).at fun o q=>BE _ q,fun _=>True.intro,fun y hy=>absurd rfl hy⟩
theorem uL {env:Env}(hb:attributeBase e f env (eval e env)=eval e env)
  (h:wpAny (model prog w) A (eval e env) (fun o s₁=>wpAny (model prog w) A (getAttr o f true) Q E s₁) E s):wpAny (model prog w) A (eval (.Attribute e f pos) env) Q E s:=
 Attribute_any_ h (by rw[arm_eval_Attribute,hb])
end
def Kl (K:ZHP)(ta:TE)(f:Str):TE:=fun σ H Q=>ta σ H fun x H1=>∃a C dx fs v,x=.ref a/\H1 a=some (.ins C dx fs)/\C3 K C/\By K C f/\fs.lookup f=some v/\Q v H1
def Vt (K:ZHP)(ta tv:TE)(f:Str):TS:=fun D σ H=>tv σ H fun y H1=>ta σ H1 fun x H2=>∃a C dx fs,x=.ref a/\H2 a=some (.ins C dx fs)/\C3 K C/\By K C f/\fs.length<1000/\
 D.nx σ (upd H2 a (.ins C dx (DY f y fs)))
section
variable {o value:Expr}{f:Str}{pos' YT:Pos}{tv:TE}
variable {b:Bool}
inductive Ej (K:ZHP) (H:Hp):V->Value->Prop where
 | AF:Ej K H .AF (.type "NoneType")
 | bl (x:Bool):Ej K H (.bl x) (.type "bool")
 | int (i:Int):Ej K H (.int i) (.type "int")
 | str (x:Str):Ej K H (.str x) (.type "str")
 | Jz (x:UInt64):Ej K H (.Jz x) (.type "float")
 | lst {a:Addr}{xs:List V}(e:H a=some (.lst xs)):Ej K H (.ref a) (.type "list")
 | CM {a:Addr}{o:Obj}{xs:List V}(e:H a=some (.CM o (.lst xs))):Ej K H (.ref a) (.type "list")
 | tup {a:Addr}{xs:List V}(e:H a=some (.tup xs)):Ej K H (.ref a) (.type "tuple")
 | dK {a:Addr}{A6:List (Key×V)}(e:H a=some (.dK A6)):Ej K H (.ref a) (.type "dict")
 | dT {a:Addr}{A6:List (List Key×V)}(e:H a=some (.dT A6)):Ej K H (.ref a) (.type "dict")
 | ins {a C dx:Addr}{fs:List (Str×V)}(e:H a=some (.ins C dx fs)) (cl:C3 K C) (ha:PySem.W.findIn K (.ref C) "__class__"=some (some (.builtin "object.__class__")))
   (hn:PySem.W.specialIn K (.builtin "object.__class__") "__get__"=some (some (.builtin "getset_descriptor.__get__"))) (Lz:PySem.W.takesIn K (.builtin "object.__class__")=some true)
   (hm:PySem.W.mroIn K C (.type "object")=some true):Ej K H (.ref a) (.ref C)
theorem ZBI {x:V}{t:Value}(I:Inv X pins σ H s)(rx:RelV x u)(ty:Ej X.K H x t)(e:PySem.W.kitOne X.K t c=some b)(h:∀tk,Q (.bool b) { s with toks:=tk }):
  wpAny (model X.prog X.w) A (call (.builtin "isinstance") [u,c]) Q E s:=by
 cases ty with
 | AF=>cases(show u=Value.none from rx);exact Ho PySem.W.kitx_none I.CV True.intro e (fun z=>nomatch z) h
 | bl y=>cases(show u=Value.bool y from rx);exact Ho PySem.W.kitx_bool I.CV True.intro e (fun z=>nomatch z) h
 | int i=>obtain⟨t,q⟩:=(show ∃t,u=Value.int i t from rx);cases q;exact Ho PySem.W.kitx_int I.CV True.intro e (fun z=>nomatch z) h
 | str y=>obtain⟨t,q⟩:=(show ∃t,u=Value.str y t from rx);cases q;exact Ho PySem.W.kitx_str I.CV True.intro e (fun z=>nomatch z) h
 | Jz y=>obtain⟨t,q⟩:=(show ∃t,u=Value.float y t from rx);cases q;exact Ho PySem.W.kitx_float I.CV True.intro e (fun z=>nomatch z) h
 | @lst a xs ea=>
  cases(show u=Value.ref a from rx);obtain⟨_,_,n,_,h1⟩:=(show Bx X.prog X.w H s.heap a (.lst xs) from I.AK a _ ea);exact Ho ZGY I.CV ⟨_,h1,rfl⟩ e (fun z=>nomatch z) h
 | @CM a ob xs ea=>
  cases(show u=Value.ref a from rx);obtain⟨_,_,_,n,_,h1⟩:=(show Bx X.prog X.w H s.heap a (.CM ob (.lst xs)) from I.AK a _ ea);exact Ho ZGY I.CV ⟨_,h1,rfl⟩ e (fun z=>nomatch z) h
 | @tup a xs ea=>
  cases(show u=Value.ref a from rx);obtain⟨_,_,_,p⟩:=(show Bx X.prog X.w H s.heap a (.tup xs) from I.AK a _ ea);obtain⟨o,h1,h2,_⟩:=p.1;exact Ho PySem.W.kitx_tuple I.CV ⟨o,h1,h2⟩ e (fun z=>nomatch z) h
 | @dK a A6 ea=>
  cases(show u=Value.ref a from rx);obtain⟨_,_,vs,_,p⟩:=(show Bx X.prog X.w H s.heap a (.dK A6) from I.AK a _ ea);obtain⟨o,es,ep,h1,h2,_⟩:=p;exact Ho ZGX I.CV ⟨o,h1,h2.1⟩ e (fun z=>nomatch z) h
 | @dT a A6 ea=>
  cases(show u=Value.ref a from rx);obtain⟨_,_,xs,_,o,es,ep,h1,h2,_⟩:=(show Bx X.prog X.w H s.heap a (.dT A6) from I.AK a _ ea);exact Ho ZGX I.CV ⟨o,h1,h2.1⟩ e (fun z=>nomatch z) h
 | @ins a C dx fs ea cl ha hn Lz hm=>
  cases(show u=Value.ref a from rx);obtain⟨mA,O,_⟩:=PF I.AK ea;obtain⟨od,J,_⟩:=O.look;exact Ho (PySem.W.kitx_own (cl.get _) cl.hd ha hn Lz hm) I.CV J e (fun z=>nomatch z) h
end
structure Bi (k:Nat) (A:Around):Prop where
 hd:A.handled=none
 dp:A.depth+3 * k+5<recursionLimit
 un:A.units+16 * k+200<cLine
theorem Bi.mono {k:Nat}(r:Bi k A)(h:j<=k):Bi j A:=⟨r.hd,by have:=r.dp;omega,by have:=r.un;omega⟩
theorem Bi.deeper {k:Nat}(r:Bi (k+1) A)(env:Env):Bi k (A.deeper env):=
 ⟨r.hd,by have:=r.dp;show A.depth+1+3 * k+5<_;omega,by have:=r.un;show A.units+3+16 * k+200<_;omega⟩
theorem wy:(A.under (.builtin "type.__call__" ⟨.ref C::us,kw⟩)).depth=A.depth+1:=by
 first | rfl | simp[Around.under,Code.weight,Code.isCreation,Code.isGuard,Code.isCaller,Code.frames,Code.isFrame,guardIds]
theorem tH:(A.under (.builtin "type.__call__" ⟨.ref C::us,kw⟩)).units=A.units+1:=by
 first | rfl | simp[Around.under,Code.cUnits,Code.frames,Code.isFrame]
theorem Bi.make {k:Nat}(r:Bi (k+1) A)(C:Addr)(us:List Value)(kw:List (Str×Value)):Bi k (A.under (.builtin "type.__call__" ⟨.ref C::us,kw⟩)):=
 ⟨r.hd,by have:=r.dp;rw[wy];omega,by have:=r.un;rw[tH];omega⟩
theorem Bi.depth {k:Nat}(r:Bi k A):A.depth<recursionLimit:=by have:=r.dp;omega
theorem Bi.units {k:Nat}(r:Bi k A):A.units+64<cLine:=by have:=r.un;omega
theorem Bi.FN {k:Nat}(r:Bi k A):A.units<cLine:=by have:=r.un;omega
def B8:TA:=fun _ H Q=>Q [] H
def AY (ta:TE)(tr:TA):TA:=fun σ H Q=>ta σ H fun x H1=>tr σ H1 fun xs H2=>Q (x::xs) H2
section
variable {t:TA}
theorem ZBS (ha:PE X e te)(hr:PA X es t)(hs:starEach (e::es) X.env=(false,eval e X.env)::starEach es X.env:=by rfl):PA X (e::es) (AY te t):=by
 intro pos pins s σ H Q I h;rw[hs];show wpAny _ _ (spliced ((false,eval e X.env)::backTo pos (starEach es X.env))) _ _ s;refine lG (AS (ha pins s σ H _ I h) fun u s1 Mq=>?_);obtain⟨x,H1,I1,r1,q1⟩:=Mq;exact AS (hr pos pins s1 σ H1 _ I1 q1) fun us s2 AJ=>by obtain⟨xs,H2,I2,r2,q2⟩:=AJ;exact⟨x::xs,H2,I2,.cons r1 r2,q2⟩
def RX (t:TA):TE:=fun σ H Q=>t σ H fun xs H1=>xs.length<=sizeLine/\∀p,H1 p=none->Q (.ref p) (upd H1 p (.tup xs))
def Sd (t:TA):TE:=fun σ H Q=>t σ H fun xs H1=>xs.length<=sizeLine/\∀p,H1 p=none->Q (.ref p) (upd H1 p (.lst xs))
theorem p8 {x1}(h:PA X es t):PE X (.Tuple es x1 pos) (RX t):=by
 intro pins s σ H Q I hq;refine wpAny_Tuple_spliced (AS (h pos pins s σ H _ I hq) fun us s1 ⟨xs,H1,I1,r,z,q⟩=>⟨by rw[<- r.length];exact z,?_⟩);have hf:H1 s1.heap.objs.size=none:=I1.AK.fresh (Ao _);refine⟨.ref s1.heap.objs.size,upd H1 s1.heap.objs.size (.tup xs),I1.laid (t':=s1.toks) (fun b u e=>BE _ e) (Ao _) ?_,rfl,q _ hf⟩;exact⟨z,us,r,⟨_,BR _ rfl,rfl,_,rfl⟩,fun Pt e'=>by rw[BR _ rfl] at e';cases e';rfl⟩
theorem xa (h:PA X es t):PE X (.List es pos) (Sd t):=by
 intro pins s σ H Q I hq;refine wpAny_List_spliced (AS (h pos pins s σ H _ I hq) fun us s1 ⟨xs,H1,I1,r,z,q⟩=>⟨by rw[<- r.length];exact z,?_⟩);have hf:H1 s1.heap.objs.size=none:=I1.AK.fresh (Ao _);refine⟨.ref s1.heap.objs.size,upd H1 s1.heap.objs.size (.lst xs),I1.laid (t':=s1.toks) (fun b u e=>BE _ e) (Ao _) ?_,rfl,q _ hf⟩;exact⟨z,us,0,r,BR _ rfl⟩
end
abbrev Sp:=List V->Hp->VK->XK->Prop
abbrev G9:=List Env->Hp->Shared->XK->Value->Shared->Prop
variable {CX:G9}
structure Kb (P:Program) (w:World) (K:ZHP) (mg:ZHR) (base:Heap) (A:Around) (outer:List Env) (s:Shared) (H:Hp):Prop where
 frames:A.frames=some outer
 mod:Mod K mg base
 bs:∀b o,base.get? b=some o->s.heap.get? b=some o/\H b=none
 IG:base.objs.size<=s.heap.objs.size
 G3:s.heap.FunFrames base outer
 KZ:∀b∈Gn outer,H b=none
 AK:C4 P w H s.heap
 bare:AllBare s.gens
def CE (outer:List Env)(P:Program)(w:World)(H:Hp)(s:Shared)(Q:VK)(u:Value)(s':Shared):Prop:=
 ∃v H',s'.os=s.os/\AllBare s'.gens/\Un (Gn outer) [] H H' s.heap s'.heap/\C4 P w H' s'.heap/\RelV v u/\Q v H'
def CR (CX:G9)(outer:List Env)(P:Program)(w:World)(H:Hp)(s:Shared)(Q:VK)(E:XK)(r:Result)(s':Shared):Prop:=
 match r with
 | .ok (.ret u)=>CE outer P w H s Q u s'
 | .ok _=>False
 | .error e=>CX outer H s E e s'
structure DL (P:Program) (w:World) (K:ZHP) (mg:ZHR) (base:Heap) (CX:G9) (k:Nat) (f:Addr) (fd:FuncData) (ps:List Str) (sp:Sp):Prop where
 len:∀vs H Q E,sp vs H Q E->vs.length=ps.length
 run:∀(A:Around) (outer:List Env) (s:Shared) (H:Hp) (args:Args) (us:List Value) (vs:List V) (Q:VK) (E:XK),Bi k A->Kb P w K mg base A outer s H->BindsTo s fd args (ps.zip us)->Vals vs us->sp vs H Q E->
  codeAny (model P w) A (.call (.ref f) args) (CR CX outer P w H s Q E) s
theorem DL.mono {P:Program}{K:ZHP}{k:Nat}{f:Addr}{sp:Sp}(F:DL P w K mg base CX j f fd ps sp)(h:j<=k):
  DL P w K mg base CX k f fd ps sp:=⟨F.len,fun A outer s H args us vs Q E hr=>F.run A outer s H args us vs Q E (hr.mono h)⟩
theorem Kb.make {P:Program}{K:ZHP}(e:Kb P w K mg base A outer s H)(C:Addr)(us:List Value)(kw:List (Str×Value)):
  Kb P w K mg base (A.under (.builtin "type.__call__" ⟨.ref C::us,kw⟩)) outer s H:=⟨by first | exact e.frames | (simpa[Around.under,Code.envs,Code.isFrame,pushEnvs] using e.frames),e.mod,e.bs,e.IG,e.G3,e.KZ,e.AK,e.bare⟩
theorem Inv.kI (I:Inv X pins σ H s):Kb X.prog X.w X.K X.mg X.base X.A X.stack s H:=
 ⟨I.ok.frames,I.ok.mod,I.bs,CZ I.ok.IG I.sz,I.stack,I.jr,I.AK,I.bare⟩
theorem Inv.after {Q:VK}(I:Inv X pins σ H s)(h:CE X.stack X.prog X.w H s Q u s'):EP X pins σ Q u s':=by
 obtain⟨v,H',os,bare,un,AK,r,q⟩:=h;obtain⟨hh,g,d,t,Nw⟩:=s';obtain rfl:Nw=s.os:=os;exact⟨v,H',I.call (h':=hh) (g':=g) (d':=d) (t':=t) (ch:=[]) un AK bare (fun b z=>absurd z (by simp)),r,q⟩
def CD (sp:Sp)(DH:List V)(E:XK)(t:TA):TE:=fun σ H Q=>t σ H fun vs H1=>sp (vs++DH) H1 Q E
def JM (C:Addr)(m:Str)(sp:Sp)(DH:List V)(E:XK)(ta:TE)(t:TA):TE:=fun σ H Q=>ta σ H fun x H1=>∃a dx fs,x=.ref a/\H1 a=some (.ins C dx fs)/\fs.lookup m=none/\
 t σ H1 fun vs H2=>sp (x::(vs++DH)) H2 Q E
def Uc (C:Addr)(sp:Sp)(DH:List V)(E:XK)(t:TA):TE:=fun σ H Q=>t σ H fun vs H1=>∀x dx,H1 x=none->H1 dx=none->dx≠x->
 sp (.ref x::(vs++DH)) (upd (upd H1 dx (.own x)) x (.ins C dx [])) (fun v H2=>v=.AF/\Q (.ref x) H2) E
def Binds (K:ZHP)(fd:FuncData)(ps:List Str)(ds:List Value):Prop:=
 ∀(s:Shared) (us:List Value),K.In s.heap->(us++ds).length=ps.length->BindsTo s fd ⟨us,[]⟩ (ps.zip (us++ds))
theorem Binds.all {K:ZHP}(h:∀us:List Value,us.length=ps.length->bindArgs fd ⟨us,[]⟩=pure (ps.zip us)):Binds K fd ps []:=fun s us _ hl=>by
 rw[Et] at hl ⊢;exact .of_eq (h us hl)
def Passes (CX:G9)(X:Cx)(E:XK):Prop:=∀(pins:ZHQ) (σ:St) (H:Hp) (s:Shared) (e:Value) (s':Shared),Inv X pins σ H s->CX X.stack H s E e s'->X.xe e s'
section
variable {k:Nat}{f:Addr}{sp:Sp}{E:XK}{p apos:Pos}{o:Expr}{t:TA}
theorem TC {Q:VK}(F:DL X.prog X.w X.K X.mg X.base CX k f fd ps sp)(hr:Bi k X.A)(hb:Binds X.K fd ps ds)(hd:Vals DH ds)(hx:Passes CX X E)
  (I:Inv X pins σ H s) (r:Vals vs us) (h:sp (vs++DH) H Q E):wpAny (model X.prog X.w) X.A (call (.ref f) us) (EP X pins σ Q) X.xe s:=by
 have r2:Vals (vs++DH) (us++ds):=r.append hd;have hl:(us++ds).length=ps.length:=by rw[<- r2.length];exact F.len _ _ _ _ h
 refine wpAny_call (ZAC (F.run X.A X.stack s H ⟨us,[]⟩ (us++ds) (vs++DH) Q E hr I.kI (hb s us I.CV hl) r2 h) fun r s' hq=>?_);cases r with
 | error e=>exact hx pins σ H s e s' I hq
 | ok fl=>
  cases fl with
  | ret u=>exact I.after hq
  | next=>exact False.elim hq
  | brk=>exact False.elim hq
  | cont=>exact False.elim hq
theorem ZE5 (F:DL X.prog X.w X.K X.mg X.base CX k f fd ps sp)(hr:Bi k X.A)(hg:Gl X x)(hm:X.mg x=some (.ref f))(hk:PySem.W.keepIn X.K (.ref f)=true)(hb:Binds X.K fd ps ds)(hd:Vals DH ds)(hx:Passes CX X E)
  (ha:PA X (e::es) t) (Cm:(x == ("__debug__":Str))=false:=by decide) (he:starEach (e::es) X.env=(false,eval e X.env)::starEach es X.env:=by rfl) (Bq:(backTo pos (starEach es X.env)).any (·.1)=false:=by rfl) :
  PE X (.Call (.Name x p) (e::es) [] pos) (CD sp DH E t):=by
 intro pins s σ H Q I h;refine uP (UL I hg hm ?_ Cm);refine m6 (h₀:=X.base) I.ok.mod.N7 hk (AS (ha pos pins s σ H _ I h) fun us s1 ⟨vs,H1,I1,r,q⟩=>⟨I1.CV,?_⟩) he Bq;exact TC F hr hb hd hx I1 r q
theorem xC (he:PE X o ta)(c:C3 X.K C)(hm:Meth X.K C m f)(F:DL X.prog X.w X.K X.mg X.base CX k f fd ps sp)(hr:Bi k X.A)(hb:Binds X.K fd ps ds)(hd:Vals DH ds)(hx:Passes CX X E)(ha:PA X (e::es) t)
  (CL:starEach (e::es) X.env=(false,eval e X.env)::starEach es X.env:=by rfl) (Bq:(backTo pos (starEach es X.env)).any (·.1)=false:=by rfl)
  (ht:eval (.Call (.Attribute o m apos) (e::es) [] pos) X.env=(do
   let ov <- eval o X.env
   standAt apos.atName
   let (f,first) <- holding [ov] (getMethod ov m pl)
   callWith pos f first (backTo pos (starEach (e::es) X.env)) (backToKw pos (keywordEach [] X.env))):=by rfl) :
  PE X (.Call (.Attribute o m apos) (e::es) [] pos) (JM C m sp DH E ta t):=by
 intro pins s σ H Q I h;refine ZGZ (pl:=pl) (AS (he pins s σ H _ I h) fun u s1 ⟨x,H1,I1,rx,a,dx,fs,ex,ea,l,q⟩=>?_) ht;subst ex;obtain rfl:u=Value.ref a:=rx;refine ju I1 ea c hm l ?_;refine m6 (first:=[.ref a]) (h₀:=X.base) I.ok.mod.N7 hm.kp (AS (ha pos pins s1 σ H1 _ I1 q) fun us s2 ⟨vs,H2,I2,r,q2⟩=>⟨I2.CV,?_⟩) CL Bq
 exact TC (us:=.ref a::us) (vs:=.ref a::vs) F hr hb hd hx I2 (.cons rfl r) q2
theorem ZDF (he:PE X o ta)(c:C3 X.K C)(hm:Meth X.K C m f)(F:DL X.prog X.w X.K X.mg X.base CX k f fd ps sp)(hr:Bi k X.A)(hb:Binds X.K fd ps ds)(hd:Vals DH ds)(hx:Passes CX X E)
  (ht:eval (.Call (.Attribute o m apos) [] [] pos) X.env=(do
   let ov <- eval o X.env
   standAt apos.atName
   let (f,first) <- holding [ov] (getMethod ov m pl)
   callWith pos f first (backTo pos (starEach [] X.env)) (backToKw pos (keywordEach [] X.env))):=by rfl) :
  PE X (.Call (.Attribute o m apos) [] [] pos) (JM C m sp DH E ta B8):=by
 intro pins s σ H Q I h;refine ZGZ (pl:=pl) (AS (he pins s σ H _ I h) fun u s1 ⟨x,H1,I1,rx,a,dx,fs,ex,ea,l,q⟩=>?_) ht;subst ex;obtain rfl:u=Value.ref a:=rx;refine ju I1 ea c hm l ?_;exact PySem.W.callWith_K0 (first:=[.ref a]) I1.CV hm.kp (TC (us:=[.ref a]) (vs:=[.ref a]) F hr hb hd hx I1 (.cons rfl .nil) q)
structure Mk (K:ZHP) (C f:Addr):Prop where
 makes:PySem.W.makesIn K C=true
 init:PySem.W.findIn K (.ref C) "__init__"=some (some (.ref f))
 fn:PySem.W.isFn K (.ref f)=true
 kp:PySem.W.keepIn K (.ref C)=true
theorem nR {Q:VK}(M:Mk X.K C f)(F:DL X.prog X.w X.K X.mg X.base CX k f fd ps sp)(hr:Bi (k+1) X.A)(hb:Binds X.K fd ps ds)(hd:Vals DH ds)
  (hx:Passes CX X E) (I:Inv X pins σ H s) (r:Vals vs us)
  (h:∀x dx,H x=none->H dx=none->dx≠x->sp (.ref x::(vs++DH)) (upd (upd H dx (.own x)) x (.ins C dx [])) (fun v H2=>v=.AF/\Q (.ref x) H2) E) :
  wpAny (model X.prog X.w) X.A (call (.ref C) us) (EP X pins σ Q) X.xe s:=by
 have hq:=h (s.heap.objs.size+1) s.heap.objs.size (I.AK.fresh (ET _)) (I.AK.fresh (Ao _)) (BJ (LD _));have I2:=Inv.made (C:=C) I;have r2:Vals (V.ref (s.heap.objs.size+1)::(vs++DH)) (Value.ref (s.heap.objs.size+1)::(us++ds)):=.cons rfl (r.append hd);have hl:(Value.ref (s.heap.objs.size+1)::us++ds).length=ps.length:=by
  have e:=r2.length;rw[F.len _ _ _ _ hq] at e;exact e.symm
 refine wpAny_call (zm (f:=f) I.CV M.makes M.init (beq_iff_eq.mp M.fn) (ZAC (F.run _ X.stack _ _ ⟨Value.ref (s.heap.objs.size+1)::us,[]⟩ (Value.ref (s.heap.objs.size+1)::(us++ds)) _ _ E (hr.make C us [])
  (I2.kI.make C us []) (hb _ (Value.ref (s.heap.objs.size+1)::us) I2.CV hl) r2 hq) fun r s' IV=>?_))
 cases r with
 | error e=>exact hx pins σ _ _ e s' I2 IV
 | ok fl=>
  cases fl with
  | ret u=>
   obtain⟨v,H',I3,rv,ev,q3⟩:=I2.after IV;subst ev;exact⟨rv,⟨V.ref (s.heap.objs.size+1),H',I3,rfl,q3⟩⟩
  | next=>exact False.elim IV
  | brk=>exact False.elim IV
  | cont=>exact False.elim IV
theorem zG (M:Mk X.K C f)(F:DL X.prog X.w X.K X.mg X.base CX k f fd ps sp)(hr:Bi (k+1) X.A)(hg:Gl X x)(hm:X.mg x=some (.ref C))(hb:Binds X.K fd ps ds)(hd:Vals DH ds)(hx:Passes CX X E)
  (ha:PA X (e::es) t) (Cm:(x == ("__debug__":Str))=false:=by decide) (he:starEach (e::es) X.env=(false,eval e X.env)::starEach es X.env:=by rfl) (Bq:(backTo pos (starEach es X.env)).any (·.1)=false:=by rfl) :
  PE X (.Call (.Name x p) (e::es) [] pos) (Uc C sp DH E t):=by
 intro pins s σ H Q I h;refine uP (UL I hg hm ?_ Cm);refine m6 (h₀:=X.base) I.ok.mod.N7 M.kp (AS (ha pos pins s σ H _ I h) fun us s1 ⟨vs,H1,I1,r,q⟩=>⟨I1.CV,?_⟩) he Bq;exact nR M F hr hb hd hx I1 r q
variable {kws:List Keyword}{tk:TA}{nm:Option Str}{g:List Value->List Value->List Value}{gV:List V->List V->List V}
end
structure Ak (N P:List Str) (sc:Scope):Prop where
 kind:sc.kind=.function
 co:sc.isCoroutine=false
 gen:sc.isGenerator=false
 nd:N.Nodup
 pre:N.take P.length=P
 par:∀x∈P,sc.names.lookup x=some .local∨sc.names.lookup x=some .cell
 ZAL:∀y∈sc.names,y.2≠.free
theorem gp {kindOf:Str->Option NameKind}{x:Str}:∀{binds:List (Str×Value)}{m:ZHR},(∀v,(x,v)∉binds)->bindL kindOf binds m x=m x
 | [],_,_=>rfl
 | (n,v)::r,m,h=>by
  unfold bindL;rw[gp fun w hw=>h w (DZ _ hw)];split
  ·have:x≠n:=by rintro rfl;exact h v DC
   simp[this]
  ·rfl
theorem eJ {kindOf:Str->Option NameKind}{x:Str}:∀{binds:List (Str×Value)}{m:ZHR},(∀v,(x,v)∉binds)->bindC kindOf binds m x=m x
 | [],_,_=>rfl
 | (n,v)::r,m,h=>by
  unfold bindC;rw[eJ fun w hw=>h w (DZ _ hw)];split
  ·rfl
  ·have:x≠n:=by rintro rfl;exact h v DC
   simp[this]
theorem kz {kindOf:Str->Option NameKind}{x:Str}{v:Value}:∀{P:List Str}{vs:List Value}{i:Nat}{m:ZHR},P.Nodup->P[i]?=some x->vs[i]?=some v->kindOf x=some .local->
  bindL kindOf (P.zip vs) m x=some v
 | [],_,_,_,_,h,_,_=>by simp at h
 | _::_,[],_,_,_,_,h,_=>by simp at h
 | p::P,w::vs,0,m,nd,h1,h2,hk=>by
  simp at h1 h2;subst h1;subst h2;show bindL kindOf ((p,w)::P.zip vs) m p=_;unfold bindL;rw[gp fun v hv=>(List.nodup_cons.mp nd).1 (Zd hv).1,pR hk];simp
 | p::P,w::vs,i+1,m,nd,h1,h2,hk=>by
  show bindL kindOf ((p,w)::P.zip vs) m x=_;unfold bindL;exact kz (i:=i) (List.nodup_cons.mp nd).2 (by simpa using h1) (by simpa using h2) hk
theorem jJ {kindOf:Str->Option NameKind}{x:Str}{v:Value}:∀{P:List Str}{vs:List Value}{i:Nat}{m:ZHR},P.Nodup->P[i]?=some x->vs[i]?=some v->kindOf x≠some .local->
  bindC kindOf (P.zip vs) m x=some v
 | [],_,_,_,_,h,_,_=>by simp at h
 | _::_,[],_,_,_,_,h,_=>by simp at h
 | p::P,w::vs,0,m,nd,h1,h2,hk=>by
  simp at h1 h2;subst h1;subst h2;show bindC kindOf ((p,w)::P.zip vs) m p=_;unfold bindC;rw[eJ fun v hv=>(List.nodup_cons.mp nd).1 (Zd hv).1,nr hk];simp
 | p::P,w::vs,i+1,m,nd,h1,h2,hk=>by
  show bindC kindOf ((p,w)::P.zip vs) m x=_;unfold bindC;exact jJ (i:=i) (List.nodup_cons.mp nd).2 (by simpa using h1) (by simpa using h2) hk
def start (N:List Str)(vs:List V):St:=vs.map some++List.replicate (N.length - vs.length) none
def KR (CX:G9)(P:Program)(w:World)(K:ZHP)(mg:ZHR)(base:Heap)(N:List Str)(qual:Str)(scope:Scope)(f:Addr)(cd:Value)(A:Around)(outer:List Env)(s:Shared)(H:Hp)(E:XK):Cx where
 prog:=P
 w:=w
 K:=K
 mg:=mg
 base:=base
 A:=A.deeper (envOfC qual scope s.heap.objs.size f cd)
 N:=N
 s₀:=s
 H₀:=H
 env:=envOfC qual scope s.heap.objs.size f cd
 outer:=outer
 stack:=envOfC qual scope s.heap.objs.size f cd::outer
 ex:=[]
 calm:=true
 fn:=fun _=>true
 pn:=[]
 xe:=fun e s'=>wpAny (model P w) (A.deeper (envOfC qual scope s.heap.objs.size f cd)) (leaving (envOfC qual scope s.heap.objs.size f cd) e) (fun _ Kx=>CX outer H s E e Kx) (fun e' Kx=>CX outer H s E e' Kx) s'
theorem i4 (h:sc.names.lookup x=some .cell):∃c,(cellsFrom n sc.names []).lookup x=some c:=by
 have q:=ZGW sc.names n [] (.inl h);exact Option.isSome_iff_exists.mp q
theorem rA {P:Program}{K:ZHP}{f:Addr}{s1:Shared}{E:XK}
  (S:Ak N ps scope) (hd:A.handled=none) (e0:Kb P w K mg base A outer s H) (hl:vs.length=ps.length) (r:Vals vs us)
  (x:InCallC s s.heap.objs.size (bindL (envOfC qual scope s.heap.objs.size f cd).kindOf (ps.zip us) fun _=>none) (cellsFrom (s.heap.objs.size+1) scope.names []) (bindC (envOfC qual scope s.heap.objs.size f cd).kindOf (ps.zip us) fun _=>none) s1) :
  Inv (KR CX P w K mg base N qual scope f cd A outer s H E) [] (start N vs) H s1:=by
 have Bq:ps.length<=N.length:=by have:=uC List.length S.pre;rw[Bd] at this;omega
 obtain⟨h1,tk,rfl,hk⟩:=x.done;have KD:∀b:Addr,b∉(KR CX P w K mg base N qual scope f cd A outer s H E).ex:=fun b z=>absurd (show b∈([]:List Addr) from z) (by simp);refine⟨⟨e0.mod,S.kind,rfl,rfl,Ao _,fun y z c h1 h2=>?_,fun y hy=>?_,fun y c _ h=>?_,fun _=>hd,Around.frames_deeper e0.frames,.inr ⟨rfl,rfl⟩,fun b z=>absurd z (KD b),e0.bs,e0.IG,fun b _ _=>KD b,fun b z=>absurd z (KD b),e0.G3,e0.KZ⟩,
  rfl,e0.bare,Un.kept hk,⟨_,x.toInCall.ns,fun i y v h1 h2 h3=>?_⟩,fun y c h=>⟨_,x.cell y c h⟩,e0.AK.fresh (Ao _),fun y c h=>?_,fun p hp=>absurd (show p∈([]:ZHQ) from hp) (by simp),e0.AK.kept hk,?_⟩
 ·exact name_of_addr x.apart (LH h1) (LH h2)
 ·have hy:scope.names.lookup y=some .cell∨scope.names.lookup y=some .free:=hy;rcases hy with hy | hy
  ·exact i4 hy
  ·exact absurd rfl (S.ZAL _ (LH hy))
 ·exact LB (x.above y c (LH h))
 ·have hi:i<vs.length:=by
   unfold start at h2
   by_cases hi:i<vs.length
   ·exact hi
   ·rw[Mj (by simpa using hi)] at h2
    rw[lQ] at h2;split at h2 <;> cases h2
  have ha:vs[i]?=some v:=by
   unfold start at h2;rw[Im (by simpa using hi),Az] at h2
   cases e:vs[i]? with
   | none=>rw[e] at h2;cases h2
   | some a=>rw[e] at h2;cases h2;rfl
  obtain⟨u,hu,rv⟩:=r.get ha;have hp:ps[i]?=some y:=by
   rw[<- S.pre,lR (by omega)];exact h1
  have j3:ps.Nodup:=by rw[<- S.pre];exact S.nd.sublist (ZGJ _ _)
  refine⟨u,rv,?_⟩;rcases S.par y (DD hp) with k | k
  ·exact .inl ⟨k,kz j3 hp hu k⟩
  ·obtain⟨c,e⟩:=i4 (n:=s.heap.objs.size+1) k;refine .inr ⟨.inl k,c,e,?_⟩;have q:=x.cell y c e;rw[jJ j3 hp hu (by show scope.names.lookup y≠_;rw[k];decide)] at q;exact q
 ·exact e0.AK.fresh (LB (x.above y c (LH h)))
 ·unfold start;show _=N.length;rw[BL,AX,lU];omega
theorem xv {P:Program}{K:ZHP}{k:Nat}{f:Addr}{params:Arguments}{body:List Stmt}{dV kV doc pm AU ct oc:Value}{an od:Option Addr}
  {Gs:Array (Option Value)}{sp:Sp}(lk:K.lookup f=some ⟨oc,od,.func (PySem.W.fnOf name qual params body scope dV kV doc pm an AU ct),Gs⟩) (Gh:PySem.W.codeIn K AU qual=true) (S:Ak N ps scope)
  (len:∀vs H Q E,sp vs H Q E->vs.length=ps.length)
  (NS:∀(A:Around) (outer:List Env) (s:Shared) (H:Hp) (vs:List V) (Q:VK) (E:XK),Bi k (A.deeper (envOfC qual scope s.heap.objs.size f AU))->sp vs H Q E->
   ∃t,EN (KR CX P w K mg base N qual scope f AU A outer s H E) body t/\t { nx:=fun _ H'=>Q .AF H',rt:=Q } (start N vs) H) :
  DL P w K mg base CX (k+1) f (PySem.W.fnOf name qual params body scope dV kV doc pm an AU ct) ps sp:=by
 refine⟨len,fun A outer s H args us vs Q E hr e0 hb r Fj=>?_⟩;have hl:=len _ _ _ _ Fj;have KX:K.In s.heap:=e0.mod.N7.keeps fun b o e=>(e0.bs b o e).1;have lim:s.heap.NoLimit:=e0.mod.nolimit.keeps fun b o e=>(e0.bs b o e).1;have uq:∀y∈ps.zip us,scope.names.lookup y.1=some .local∨(scope.names.lookup y.1=some .cell/\((cellsFrom (s.heap.objs.size+1) scope.names []).lookup y.1).isSome=true):=fun⟨n,v⟩ hy=>by
  rcases S.par n (Zd hy).1 with q | q
  ·exact .inl q
  ·exact .inr ⟨q,ZGW _ _ _ (.inl q)⟩
 refine codeAny_call_function hr.depth (KX _ _ lk) rfl S.co S.gen rfl (PySem.W.codeRec_of KX Gh) (hb _ _ _ _ ?_);refine wpAny_newFunctionEnv_cells S.kind uq fun env he s1 x=>?_;subst he;refine⟨lim.keeps x.toInCall.keep,codeAny_func ?_⟩;obtain⟨t,ht,hq⟩:=NS A outer s H vs Q E (hr.deeper _) Fj;have I:Inv (KR CX P w K mg base N qual scope f AU A outer s H E) [] (start N vs) H s1:=rA S hr.hd e0 hl r x;refine rJ (ht [] s1 (start N vs) H _ I hq) (fun fl s' hs=>?_) fun e s' hs=>hs;have fin:∀{σ':St} {H':Hp}{v:V}{u:Value},Inv (KR CX P w K mg base N qual scope f AU A outer s H E) [] σ' H' s'->RelV v u->Q v H'->CE outer P w H s Q u s':=
  fun {σ' H' v u} J rv q=>⟨v,H',J.os,J.bare,J.base,J.AK,rv,q⟩
 cases fl with
 | ret u=>
  obtain⟨v,σ',H',J,rv,q⟩:=hs;exact fin J rv q
 | next=>
  obtain⟨σ',H',J,q⟩:=hs;exact fin (v:=V.AF) (u:=Value.none) J rfl q
 | brk=>
  obtain⟨_,_,_,q⟩:=hs;exact False.elim q
 | cont=>
  obtain⟨_,_,_,q⟩:=hs;exact False.elim q
section
variable {p:Pos}{t:TA}{id T:String}{r:List V->Hp->VK->Prop}
def Cb (r:List V->Hp->VK->Prop)(t:TA):TE:=fun σ H Q=>t σ H fun vs H1=>r vs H1 Q
end
end L2
namespace HT
variable {E Q:Value->Shared->Prop}{sl t:Addr}{v vl vu:Value}{hi o:Option Int}
section
open PySem.SeqAt
open PySem.AutoSeq1 (wpAny_loadPart')
open PySem.MeetsSeq PySem.MeetsSeq2 PySem.MeetsSeq3
end
section
variable {prog:Program}{w:World}{A:Around}{s:Shared}
theorem xq {b:Addr}{vs ws:List Value}(ht:IsTup s.heap t vs.toArray)(hb:IsTup s.heap b ws.toArray)(hv:vs≠[])
  (h1:ws=[]->Q (.ref t) s) (h2:ws≠[]->Q (.ref s.heap.objs.size) { s with heap:=s.heap.push { cls:=.type "tuple", data:=.seq (vs++ws).toArray } })
  (hsz:vs.length+ws.length<=sizeLine):wpAny (model prog w) A (binaryOp .Add (.ref t) (.ref b)) Q E s:=by
 obtain⟨⟨cls,dd,data,sl⟩,ho,hc,n,hd⟩:=id ht;obtain⟨⟨rM,Pe,data2,R5⟩,FZ,L3,n2,hd2⟩:=id hb;simp only at hc hd L3 hd2;subst hc hd L3 hd2;have e:vs.toArray++ws.toArray=(vs++ws).toArray:=by simp
 by_cases hw:ws=[]
 ·exact concat_meets ⟨_,ho,rfl⟩ ⟨_,FZ,rfl⟩ ZAa seq_tuple_add ly lu (lr _ _)
   (tuple_addW1 t b vs.toArray ws.toArray n n2 dd Pe sl R5 (by simpa using hv) (by simp[hw])) ⟨ho,FZ,h1 hw⟩
 ·refine concat_meets ⟨_,ho,rfl⟩ ⟨_,FZ,rfl⟩ ZAa seq_tuple_add ly lu (lr _ _)
   (tuple_addW2 t b vs.toArray ws.toArray n n2 dd Pe sl R5 (by simpa using hv) (by simpa using hw) (by rw[Bo,Bo];exact hsz)) ⟨ho,FZ,?_⟩
  rw[e];exact h2 hw
def Aj (n d:Nat):Option Int->Nat
 | none=>d
 | some v=>if v<0 then(v+(n:Int)).toNat else min v.toNat n
theorem QP (n d:Nat):Aj n d none=d:=rfl
theorem Lj (n d k:Nat):Aj n d (some (k:Int))=min k n:=by
 show(if(k:Int)<0 then((k:Int)+(n:Int)).toNat else min (k:Int).toNat n)=min k n
 rw[nr (by omega),Jo]
theorem ub (n d:Nat)(hd:d<=n)(o:Option Int):Aj n d o<=n:=by
 cases o with
 | none=>exact hd
 | some v=>
  show(if v<0 then(v+(n:Int)).toNat else min v.toNat n)<=n
  by_cases hv:v<0
  ·rw[pR hv];omega
  ·rw[nr hv];exact lg _ _
theorem ag (v:Int)(n d:Nat):(if v<0 then max (v+(n:Int)) 0 else min v (n:Int))=((Aj n d (some v):Nat):Int):=by
 show(if v<0 then max (v+(n:Int)) 0 else min v (n:Int))=(((if v<0 then(v+(n:Int)).toNat else min v.toNat n):Nat):Int)
 by_cases hv:v<0
 ·simp only[pR hv];omega
 ·simp only[nr hv];omega
theorem yM (lo hi:Option Int)(n:Nat):Builtin.Slice.sliceAdjust lo hi 1 (n:Int)=(((Aj n 0 lo:Nat):Int),((Aj n n hi:Nat):Int)):=by
 have h1:¬ ((1:Int)<0):=by omega
 unfold Builtin.Slice.sliceAdjust;simp only[h1,ZAw];refine Prod.ext ?_ ?_
 ·cases lo with
  | none=>rfl
  | some v=>exact ag v n 0
 ·cases hi with
  | none=>rfl
  | some v=>exact ag v n n
theorem zZ (i j:Nat):Builtin.Slice.slicePlaces (i:Int) (j:Int) 1=j - i:=by
 unfold Builtin.Slice.slicePlaces;have h1:(1:Int) > 0:=by omega
 simp only[h1,ZAp,Int.ediv_one];split <;> omega
theorem d9 {Q:Option Int->Shared->Prop}(p:IsPart v o)(h:Q o s):wpAny (model prog w) A (Builtin.Slice.slicePartIndex v) Q E s:=by
 cases p with
 | none=>exact slicePart_none h
 | int i t=>exact slicePart_int h
theorem de {lo:Option Int}{n:Nat}{Q:Int×Int×Nat->Shared->Prop}(hs:s.heap.IsSliceOf sl vl vu .none)(pl:IsPart vl lo)(pu:IsPart vu hi)
  (h:Q (((Aj n 0 lo:Nat):Int),1,Aj n n hi - Aj n 0 lo) s):wpAny (model prog w) A (Builtin.Slice.sliceApplied (.ref sl) (pure (n:Int))) Q E s:=by
 obtain⟨os,L0,QX,Mw⟩:=id hs;unfold Builtin.Slice.sliceApplied Builtin.Slice.sliceFields;refine mG (mG (ZA5 L0 Mw (x:=vl) rfl (mG (ZA5 L0 Mw (x:=vu) rfl (mG (ZA5 L0 Mw (x:=.none) rfl (mf ?_)))))));refine mG (slicePart_none ?_);show wpAny _ _ (if((1:Int) == 0)=true then _ else _) _ _ s
 rw[nr (by decide)];refine mG (d9 pl (mG (d9 pu (mG (mf ?_)))));show wpAny _ _ (match Builtin.Slice.sliceAdjust lo hi 1 (n:Int) with | (lo,hi)=>pure (lo,(1:Int),Builtin.Slice.slicePlaces lo hi 1)) _ _ s
 rw[yM lo hi n];show wpAny _ _ (pure (((Aj n 0 lo:Nat):Int),(1:Int),Builtin.Slice.slicePlaces ((Aj n 0 lo:Nat):Int) ((Aj n n hi:Nat):Int) 1)) _ _ s;rw[zZ];exact mf h
theorem uN (xs:Array Value)(i k:Nat):((List.range k).filterMap fun(m:Nat)=>xs[((i:Int)+(m:Int) * 1).toNat]?).toArray=((xs.toList.drop i).take k).toArray:=by
 have e:(fun(m:Nat)=>xs[((i:Int)+(m:Int) * 1).toNat]?)=fun m=>xs[i+m]?:=by
  funext m
  have:((i:Int)+(m:Int) * 1).toNat=i+m:=by omega
  rw[this]
 rw[e];have:=pick_run xs i k;rw[List.filterMap_map] at this;have e2:((fun x=>xs[x]?) ∘ fun x=>i+x)=fun m=>xs[i+m]?:=rfl;rw[e2] at this;rw[this]
theorem xY {items:Array Value}{lo:Option Int}(ht:IsTup s.heap t items)(hs:s.heap.IsSliceOf sl vl vu .none)(pl:IsPart vl lo)(pu:IsPart vu hi)
  (hw:¬ (Aj items.size 0 lo=0/\Aj items.size items.size hi=items.size))
  (h:Q (.ref s.heap.objs.size) { s with heap:=s.heap.push { cls:=.type "tuple", data:=.seq ((items.toList.drop (Aj items.size 0 lo)).take (Aj items.size items.size hi - Aj items.size 0 lo)).toArray } })
  (hsz:items.size<=sizeLine):wpAny (model prog w) A (getItem (.ref t) (.ref sl)) Q E s:=by
 have R4:sizeOk (.seq ((items.toList.drop (Aj items.size 0 lo)).take (Aj items.size items.size hi - Aj items.size 0 lo)).toArray):=by
  show((items.toList.drop (Aj items.size 0 lo)).take (Aj items.size items.size hi - Aj items.size 0 lo)).toArray.size<=sizeLine;rw[Bo,Bd,Cj,GO];omega
 have hj:Aj items.size items.size hi<=items.size:=ub _ _ (Ao _) hi;obtain⟨os,L0,QX,Mw⟩:=id hs;have T8:s.TypeIs (.ref sl) "slice" := ⟨os,L0,QX⟩;unfold getItem
 try with_reducible refine sF ?_
 first | refine mG (mf ?_) | skip
 refine mG (wpAny_sequenceKey ht.typeIs (by decide) ?_);refine mG (qW (name:=Str.ofString "__getitem__") ht.typeIs Zj
  (rL Zj ht.typeIs entry_tuple_getitem ?_ (args_tuple_getitem _ _)))
 show wpAny _ _ (Builtin.Tuple.tupleItemsOf (.ref t) >>= _) _ _ s;refine mG (tupleItemsOf_ ht ?_);refine mG (uc T8 ?_);rw[pR (by decide)];refine mG (de hs pl pu ?_);have KI:¬ ((((Aj items.size 0 lo:Nat):Int) == 0 && (1:Int) == 1 && (Aj items.size items.size hi - Aj items.size 0 lo) == items.size)=true):=by
  intro q;rw[E4,E4] at q;have q1:((Aj items.size 0 lo:Nat):Int)=0:=eq_of_beq q.1.1;have q2:Aj items.size items.size hi - Aj items.size 0 lo=items.size:=eq_of_beq q.2;exact hw ⟨by omega,by omega⟩
 show wpAny _ _ (if(((Aj items.size 0 lo:Nat):Int) == 0 && (1:Int) == 1 && (Aj items.size items.size hi - Aj items.size 0 lo) == items.size)=true then _ else _) _ _ s
 rw[nr KI,uN]
 first
  | exact mG (m:=Builtin.Tuple.tupleExact _) (qS (mf ⟨_,rfl,mf h⟩) R4)
  | exact mG (m:=Builtin.Tuple.tupleExact _) (qS (mG (mf (mf ⟨_,rfl,mf h⟩))) R4)
  | exact mG (mG (m:=Builtin.Tuple.tupleExact _) (qS (mf (mf ⟨_,rfl,mf h⟩)) R4))
  | exact mG (mG (m:=Builtin.Tuple.tupleExact _) (qS (mf ⟨_,rfl,mf h⟩) R4))
end
end HT
namespace L2
variable {X:Cx}{pos:Pos}{xs ys:List V}{A4 its' us:List Value}{α:Type}{j n t':Nat}{i:Int}{pins:ZHQ}{σ:St}{H:Hp}{s:Shared}{A:Around}{x y:V}{u v:Value}{T:String}
abbrev TO:=St->Hp->(Option Int->Hp->Prop)->Prop
def PO (X:Cx)(e:Option Expr)(t:TO):Prop:=
 ∀(pins:ZHQ) (s:Shared) (σ:St) (H:Hp) (Q:Option Int->Hp->Prop),Inv X pins σ H s->t σ H Q->
  wpAny (model X.prog X.w) X.A (evalPart e X.env) (fun u s'=>∃o H',Inv X pins σ H' s'/\IsPart u o/\Q o H') X.xe s
def TL:TO:=fun _ H Q=>Q none H
def X2 (t:TE):TO:=fun σ H Q=>t σ H fun x H1=>∃i,x=.int i/\Q (some i) H1
section
variable {e:Expr}{te:TE}{lo hi:Option Expr}{tl th:TO}{p2:Pos}
def Jb (X:Cx)(r:V->Option Int->Option Int->Hp->VK->Prop):Prop:=
 ∀(pins:ZHQ) (s:Shared) (σ:St) (H:Hp) (x:V) (v vl vu:Value) (lo hi:Option Int) (sl:Addr) (Q:VK),Inv X pins σ H s->RelV x v->s.heap.IsSliceOf sl vl vu .none->IsPart vl lo->IsPart vu hi->r x lo hi H Q->
  ∃T id,typeLookup (.type T) "__getitem__"=pure (some (.builtin id))/\s.TypeIs v T/\wpAny (model X.prog X.w) X.A (getItem v (.ref sl)) (EP X pins σ Q) X.xe s
def Ng (r:V->Option Int->Option Int->Hp->VK->Prop)(te:TE)(tl th:TO):TE:=fun σ H Q=>te σ H fun x H1=>tl σ H1 fun l H2=>th σ H2 fun u H3=>r x l u H3 Q
def C7 (xs:List V)(lo hi:Option Int):List V:=(xs.drop (HT.Aj xs.length 0 lo)).take (HT.Aj xs.length xs.length hi - HT.Aj xs.length 0 lo)
theorem eP (xs:List V)(lo hi:Option Int):(C7 xs lo hi).length<=xs.length:=by
 unfold C7;rw[Bd,Cj];omega
def ZCb (K:ZHP):V->Option Int->Option Int->Hp->VK->Prop:=fun x lo hi H Q=>∃a xs,x=.ref a/\AA K H a xs/\
 ¬ (HT.Aj xs.length 0 lo=0/\HT.Aj xs.length xs.length hi=xs.length)/\∀p,H p=none->Q (.ref p) (upd H p (.tup (C7 xs lo hi)))
theorem aC:Jb X (ZCb X.K):=by
 intro pins s σ H x v vl vu lo hi sl Q I rx hs pl pu h;obtain⟨a,xs,rfl,hx,hw,q⟩:=h;cases rx;obtain⟨A4,r,ht,hz⟩:=I.tuple hx;have hlen:A4.toArray.size=xs.length:=by rw[Bo];exact r.length.symm
 refine⟨"tuple", _,PyProof.Rows.slot_tuple_getitem.lookup,ht.typeIs,?_⟩;refine HT.xY ht hs pl pu (by rw[hlen];exact hw) ?_ (by rw[hlen];exact hz);rw[hlen];refine⟨.ref s.heap.objs.size,_,I.laid (t':=s.toks) (o:=.tup (C7 xs lo hi)) (fun b ob q=>BE _ q) (Ao _) ?_,rfl,q _ (I.AK.fresh (Ao _))⟩;exact⟨CZ (eP xs lo hi) hz,_,(r.drop (HT.Aj xs.length 0 lo)).take (HT.Aj xs.length xs.length hi - HT.Aj xs.length 0 lo),⟨IsTup.new _ _,fun Pt e'=>by rw[BR _ rfl] at e';cases e';rfl⟩⟩
def zg (K:ZHP):R2:=fun x y H Q=>∃a b xs ys,x=.ref a/\y=.ref b/\AA K H a xs/\AA K H b ys/\xs≠[]/\xs.length+ys.length<=sizeLine/\
 (ys=[]->Q (.ref a) H)/\(ys≠[]->∀p,H p=none->Q (.ref p) (upd H p (.tup (xs++ys))))
theorem Vals.PB (r:Vals xs us):us=[]↔xs=[]:=by
 cases r with
 | nil=>simp
 | cons _ _=>simp
theorem xH:BD X (binaryOp .Add) (zg X.K):=by
 intro pins s σ H x y v u Q I rx ry h;obtain⟨a,b,xs,ys,rfl,rfl,ha,hb,hx,hz,q1,q2⟩:=h;cases rx;cases ry;obtain⟨A4,r1,p1,_⟩:=I.tuple ha;obtain⟨Be,r2,p2,_⟩:=I.tuple hb;refine HT.xq p1 p2 (fun z=>hx (r1.PB.mp z)) (fun z=>⟨.ref a,H,I,rfl,q1 (r2.PB.mp z)⟩) (fun z=>?_) (by rw[<- r1.length,<- r2.length];exact hz);refine⟨.ref s.heap.objs.size,_,I.laid (t':=s.toks) (o:=.tup (xs++ys)) (fun b ob q=>BE _ q) (Ao _) ?_,rfl,q2 (fun w=>z (r2.PB.mpr w)) _ (I.AK.fresh (Ao _))⟩;exact⟨by rw[BL];exact hz,_,r1.append r2,⟨IsTup.new _ _,fun Pt e'=>by rw[BR _ rfl] at e';cases e';rfl⟩⟩
end
def HH (n:Nat)(i:Int):Option Nat:=if 0<=i then(if i<n then some i.toNat else none) else if -(n:Int)<=i then some (i+n).toNat else none
def Bf (xs:List α)(i:Int):Option α:=(HH xs.length i).bind fun j=>xs[j]?
theorem iz (h:HH n i=some j):seqIndex? i n=some j/\j<n/\-(n:Int)<=i/\i<n:=by
 unfold HH at h
 by_cases h0:0<=i
 ·rw[pR h0] at h
  by_cases h1:i<n
  ·rw[pR h1] at h;have e:i.toNat=j:=BS h;exact⟨by rw[seqIndex_of h0 h1,e],by omega,by omega,h1⟩
  ·rw[nr h1] at h;cases h
 ·rw[nr h0] at h
  by_cases h1:-(n:Int)<=i
  ·rw[pR h1] at h;have e:(i+n).toNat=j:=BS h;exact⟨by rw[seqIndex_neg (by omega) h1,e],by omega,h1,by omega⟩
  ·rw[nr h1] at h;cases h
theorem Wf {xs:List α}{v:α}(h:Bf xs i=some v):∃j,seqIndex? i xs.length=some j/\xs[j]?=some v/\j<xs.length/\-(xs.length:Int)<=i/\i<xs.length:=by
 unfold Bf at h;cases e:HH xs.length i with
 | none=>rw[e] at h;cases h
 | some j=>
  rw[e] at h;obtain⟨h1,h2,h3,h4⟩:=iz e;exact⟨j,h1,h,h2,h3,h4⟩
theorem S8 {xs:List α}{v:α}(h:xs[j]?=some v):Bf xs (j:Int)=some v:=by
 have hj:j<xs.length:=(List.getElem?_eq_some_iff.mp h).1;have e:HH xs.length (j:Int)=some j:=by
  unfold HH;rw[pR (by omega),pR (by omega)];simp
 unfold Bf;rw[e];exact h
def Vw (b:Expr):Prop:=∀o i,subscripted b false o i=operate [o,i] (getItem o i)
def En (X:Cx)(r:R2):Prop:=
 ∀(value slice:Expr) (pins:ZHQ) (s:Shared) (σ:St) (H:Hp) (x y:V) (v u:Value) (Q:VK),Inv X pins σ H s->RelV x v->RelV y u->r x y H Q->
  subscripted slice false v u=operate [v,u] (getItem v u)->wpAny (model X.prog X.w) X.A (subscriptTail value slice v u) (EP X pins σ Q) X.xe s
def IU (X:Cx)(id:String)(r:V->List V->Hp->VK->Prop):Prop:=
 ∀(pins:ZHQ) (s:Shared) (σ:St) (H:Hp) (x:V) (xs:List V) (v:Value) (us:List Value) (Q:VK),Inv X pins σ H s->RelV x v->Vals xs us->r x xs H Q->
  wpAny (model X.prog X.w) X.A (call (.builtin id) (v::us)) (EP X pins σ Q) X.xe s
section
variable {a b:Expr}{ta tb:TE}
def K3 (K:ZHP):R2:=fun x y H Q=>∃p xs i v,x=.ref p/\y=.int i/\AI K H p xs/\Bf xs i=some v/\Q v H
def Jh (K:ZHP):R2:=fun x y H Q=>∃p xs i v,x=.ref p/\y=.int i/\AA K H p xs/\Bf xs i=some v/\Q v H
def ou:R2:=fun x y H Q=>∃z i c,x=.str z/\y=.int i/\z.length<=sizeLine/\Bf z.cps.toList i=some c/\Q (.str ⟨#[c]⟩) H
theorem DQ:En X (K3 X.K):=by
 intro value slice pins s σ H x y v u Q I rx ry h hs;obtain⟨p,xs,i,z,rfl,rfl,hq,he,q⟩:=h;cases rx;obtain⟨t,rfl⟩:=ry;obtain⟨A4,r,pl,hz⟩:=I.list hq;obtain⟨j,h1,h2,h3,h4,h5⟩:=Wf he;obtain⟨w,ew,FY⟩:=r.get h2;have hl:=r.length;have hn:=JN;have fin:EP X pins σ Q w s:=⟨z,H,I,FY,q⟩
 by_cases h0:0<=i
 ·have hj:i.toNat=j:=by
   rw[seqIndex_of h0 h5] at h1;exact BS h1
  exact item_listR pl.isList h0 (by omega) (by rw[hj];simpa using ew) fin hs
 ·have hj:(i+(A4.toArray.size:Int)).toNat=j:=by
   rw[seqIndex_neg (by omega) h4] at h1;rw[Bo,<- hl];exact BS h1
  exact subscriptTail_builtinR (x:=w) pl.isList.typeIs slot_list_getitem.lookup
   (wpAny_getItem_list_neg (Q:=fun r s'=>r=w/\EP X pins σ Q r s') pl.isList (by omega) (by rw[Bo] <;> omega) (by omega) (by rw[hj];simpa using ew) ⟨rfl,fin⟩) hs
theorem AZ:En X (Jh X.K):=by
 intro value slice pins s σ H x y v u Q I rx ry h hs;obtain⟨p,xs,i,z,rfl,rfl,hq,he,q⟩:=h;cases rx;obtain⟨t,rfl⟩:=ry;obtain⟨A4,r,pl,hz⟩:=I.tuple hq;obtain⟨j,h1,h2,h3,h4,h5⟩:=Wf he;obtain⟨w,ew,FY⟩:=r.get h2;have hl:=r.length;have hn:=JN;have fin:EP X pins σ Q w s:=⟨z,H,I,FY,q⟩;exact subscriptTail_builtinR (x:=w) pl.typeIs slot_tuple_getitem.lookup
  (getItem_tuple (j:=j) (Q:=fun r s'=>r=w/\EP X pins σ Q r s') pl (by omega) (by omega) (by rw[Bo,<- hl];exact h1) (by simpa using ew) ⟨rfl,fin⟩) hs
theorem pY:En X ou:=by
 intro value slice pins s σ H x y v u Q I rx ry h hs;obtain⟨z,i,c,rfl,rfl,hz,he,q⟩:=h;obtain⟨t,rfl⟩:=rx;obtain⟨t',rfl⟩:=ry;obtain⟨j,h1,h2,h3,h4,h5⟩:=Wf he;have hl:z.cps.toList.length=z.length:=by simp[Str.length]
 rw[hl] at h1 h4 h5;have hn:=JN;exact tail_any (typeIs_str s z t) slot_str_getitem.lookup (getItem_str (c:=c) (by
  have e1:decide (i < -(2 ^ 63:Int))=false:=qQ (by omega);have e2:decide (i>=2 ^ 63)=false:=qQ (by omega);rw[e1,e2,Bool.or_false]) (by rw[h1];simpa using h2) ⟨.str ⟨#[c]⟩,H,I.tok _,⟨_,rfl⟩,q⟩) hs
theorem qE (A4:List Value)(n j:Nat)(u:Value):Obj.mapSeq (·.setIfInBounds j u) { cls:=.type "list", data:=.seq A4.toArray n }={ cls:=.type "list", data:=.seq (A4.set j u).toArray n }:=by
 simp[Obj.mapSeq]
theorem Inv.lst {pins:ZHQ}{σ:St}{H:Hp}{s:Shared}{p:Addr}{xs:List V}(I:Inv X pins σ H s)(h:H p=some (.lst xs)):
  ∃(A4:List Value) (n:Nat),Vals xs A4/\s.heap.get? p=some { cls:=.type "list", data:=.seq A4.toArray n }/\xs.length<=sizeLine:=by
 obtain⟨z,A4,n,r,e⟩:=I.AK p _ h;exact⟨A4,n,r,e,z⟩
theorem Inv.zF {p:Addr}{n':Nat}{f:Obj->Obj}(I:Inv X pins σ H s)(h:H p=some (.lst xs))
  (ho:s.heap.get? p=some { cls:=.type "list", data:=.seq A4.toArray n }) (hf:f { cls:=.type "list", data:=.seq A4.toArray n }={ cls:=.type "list", data:=.seq its'.toArray n' }) (r:Vals ys its') (hz:ys.length<=sizeLine) (t:Nat) :
  Inv X pins σ (upd H p (.lst ys)) { s with heap:=s.heap.update p f,toks:=t }:=by
 have e:(s.heap.update p f).get? p=some { cls:=.type "list", data:=.seq its'.toArray n' }:=by
  rw[FQ f ho (by rw[hf] <;> rfl),hf]
 refine I.write (x:=p) (e:=p) (by rw[h];trivial) (.inl rfl) (fun b u hb q=>(GP _ _ (BP hb)).trans q) ⟨_,e⟩ ?_;exact⟨hz,its',n',r,e⟩
def yG:V->V->V->Hp->(Hp->Prop)->Prop:=fun o i v H Q=>∃p xs k j,o=.ref p/\i=.int k/\H p=some (.lst xs)/\HH xs.length k=some j/\Q (upd H p (.lst (xs.set j v)))
theorem set_list:WQ X yG:=by
 intro pins s σ H o i v ov iv u Q I ro ri rv h;obtain⟨p,xs,k,j,rfl,rfl,hp,hj,q⟩:=h;cases ro;obtain⟨t,rfl⟩:=ri;obtain⟨A4,n,r,ho,hz⟩:=I.lst hp;obtain⟨h1,h2,h3,h4⟩:=iz hj;have hl:=r.length;have hn:=JN;have I':Inv X pins σ (upd H p (.lst (xs.set j v))) { s with heap:=s.heap.update p (Obj.mapSeq (·.setIfInBounds j u)) }:=
  I.zF hp ho (qE A4 n j u) (r.set rv j) (by rw[Hk];exact hz) s.toks
 by_cases h0:0<=k
 ·have hk:k.toNat=j:=by
   rw[seqIndex_of h0 h4] at h1;exact BS h1
  exact PySem.W.ki_setAt ho h0 (by omega) (by rw[Bo,<- hl];exact h4) (by rw[hk];exact⟨_,I',q⟩)
 ·have hk:(k+(A4.toArray.size:Int)).toNat=j:=by
   rw[seqIndex_neg (by omega) h3] at h1;rw[Bo,<- hl];exact BS h1
  exact PySem.W.ki_setBack ho (by omega) (by rw[Bo,<- hl];exact h3) (by omega) (by rw[hk];exact⟨_,I',q⟩)
theorem mC (lo hi:Option Int)(n:Nat):(sliceBounds lo hi none n).1=((HT.Aj n 0 lo:Nat):Int)/\(sliceBounds lo hi none n).2.1=((HT.Aj n n hi:Nat):Int)/\(sliceBounds lo hi none n).2.2=1:=by
 refine⟨?_,?_,rfl⟩
 ·cases lo with
  | none=>simp[sliceBounds,HT.Aj]
  | some i=>
   simp only[sliceBounds,HT.Aj,ZGO,show(1:Int) > 0 by decide,ZAp]
   by_cases h:i<0
   ·simp only[h,ZAp] <;> omega
   ·simp only[h,ZAw] <;> omega
 ·cases hi with
  | none=>simp[sliceBounds,HT.Aj]
  | some i=>
   simp only[sliceBounds,HT.Aj,ZGO,show(1:Int) > 0 by decide,ZAp]
   by_cases h:i<0
   ·simp only[h,ZAp] <;> omega
   ·simp only[h,ZAw] <;> omega
theorem qe (A4:List Value)(lo hi:Option Int):slicePick A4.toArray lo hi none=((A4.drop (HT.Aj A4.length 0 lo)).take (HT.Aj A4.length A4.length hi - HT.Aj A4.length 0 lo)).toArray:=by
 obtain⟨h1,h2,h3⟩:=mC lo hi A4.toArray.size;unfold slicePick;rw[h1,h2,h3];simp only[sliceRange_one,pick_run,Bo] <;> rfl
def VI (K:ZHP):V->Option Int->Option Int->Hp->VK->Prop:=fun x lo hi H Q=>∃a xs,x=.ref a/\AI K H a xs/\∀p,H p=none->Q (.ref p) (upd H p (.lst (C7 xs lo hi)))
theorem JL:Jb X (VI X.K):=by
 intro pins s σ H x v vl vu lo hi sl Q I rx hs pl pu h;obtain⟨a,xs,rfl,hx,q⟩:=h;cases rx;obtain⟨A4,r,ht,hz⟩:=I.list hx;have hlen:=r.length;refine⟨"list", _,slot_list_getitem.lookup,ht.isList.typeIs,?_⟩;refine wpAny_getItem_list_slice ht.isList hs pl pu .none (by simp) ?_ (by rw[Bo] <;> omega)
 rw[qe,<- hlen];refine⟨.ref s.heap.objs.size,_,I.laid (t':=s.toks) (o:=.lst (C7 xs lo hi)) (fun b ob q=>BE _ q) (Ao _) ?_,rfl,q _ (I.AK.fresh (Ao _))⟩;exact⟨CZ (eP xs lo hi) hz,_,0,(r.drop (HT.Aj xs.length 0 lo)).take (HT.Aj xs.length xs.length hi - HT.Aj xs.length 0 lo),BR _ rfl⟩
def EW:V->Bool
 | .AF=>true
 | .bl _=>true
 | .int _=>true
 | .str _=>true
 | _=>false
def Dp:V->V->Bool
 | .AF,.AF=>true
 | .bl a,.bl b=>a == b
 | .bl a,.int b=>(if a then 1 else 0) == b
 | .int a,.bl b=>a == (if b then 1 else 0)
 | .int a,.int b=>a == b
 | .str a,.str b=>a == b
 | _,_=>false
theorem RS (ry:RelV y u)(rx:RelV x v)(fy:EW y=true)(fx:EW x=true):SeqAt.EqAt A s u v (Dp y x):=by
 cases y with
 | AF=>
  cases ry;cases x with
  | AF=>cases rx;exact SeqAt.EqAt.same _
  | bl b=>cases rx;exact SeqAt.EqAt.none_bool b
  | int b=>obtain⟨t,rfl⟩:=rx;exact SeqAt.EqAt.none_int b t
  | str b=>obtain⟨t,rfl⟩:=rx;exact SeqAt.EqAt.none_str b t
  | _=>exact absurd (show false=true from fx) DB
 | bl a=>
  cases ry;cases x with
  | AF=>cases rx;exact SeqAt.EqAt.bool_none a
  | bl b=>cases rx;exact SeqAt.EqAt.bool_bool a b
  | int b=>obtain⟨t,rfl⟩:=rx;exact SeqAt.EqAt.bool_int a b t
  | str b=>obtain⟨t,rfl⟩:=rx;exact SeqAt.EqAt.bool_str a b t
  | _=>exact absurd (show false=true from fx) DB
 | int a=>
  obtain⟨t',rfl⟩:=ry;cases x with
  | AF=>cases rx;exact SeqAt.EqAt.int_none a t'
  | bl b=>cases rx;exact SeqAt.EqAt.int_bool a t' b
  | int b=>obtain⟨t,rfl⟩:=rx;exact SeqAt.EqAt.int_int a t' b t
  | str b=>obtain⟨t,rfl⟩:=rx;exact SeqAt.EqAt.int_str a t' b t
  | _=>exact absurd (show false=true from fx) DB
 | str a=>
  obtain⟨t',rfl⟩:=ry;cases x with
  | AF=>cases rx;exact SeqAt.EqAt.str_none a t'
  | bl b=>cases rx;exact SeqAt.EqAt.str_bool a t' b
  | int b=>obtain⟨t,rfl⟩:=rx;exact SeqAt.EqAt.str_int a t' b t
  | str b=>obtain⟨t,rfl⟩:=rx;exact SeqAt.EqAt.str_str a t' b t
  | _=>exact absurd (show false=true from fx) DB
 | _=>exact absurd (show false=true from fy) DB
def Dx (x:V)(u:Value):Bool:=match u with
 | .none=>Dp .AF x
 | .bool b=>Dp (.bl b) x
 | .int i _=>Dp (.int i) x
 | .str z _=>Dp (.str z) x
 | _=>false
theorem eK (r:RelV y u)(f:EW y=true):Dx x u=Dp y x:=by
 cases y with
 | AF=>cases r;rfl
 | bl b=>cases r;rfl
 | int i=>obtain⟨t,rfl⟩:=r;rfl
 | str z=>obtain⟨t,rfl⟩:=r;rfl
 | _=>exact absurd (show false=true from f) DB
theorem O4 {x:V}:∀{xs:List V}{us:List Value},Vals xs us->xs.all EW=true->us.any (Dx x)=xs.any fun y=>Dp y x
 | _,_,.nil,_=>rfl
 | y::xs,u::us,.cons r t,f=>by
  rw[Sh,E4] at f;rw[Mh,Mh,eK r f.1,O4 t f.2]
theorem Kc {A:Around}{s:Shared}{x:V}{v:Value}(rx:RelV x v)(fx:EW x=true):∀{xs:List V}{us:List Value},Vals xs us->xs.all EW=true->∀u∈us,SeqAt.EqAt A s u v (Dx x u)
 | _,_,.nil,_=>fun u hu=>by cases hu
 | y::xs,u::us,.cons r t,f=>fun u' hu=>by
  rw[Sh,E4] at f;rcases List.mem_cons.mp hu with rfl | hu
  ·rw[eK r f.1];exact RS r rx f.1 fx
  ·exact Kc rx fx t f.2 u' hu
def D6 (x:V)(xs:List V):Bool:=xs.any fun y=>Dp y x
def Fi (K:ZHP)(neg:Bool):R2:=fun x y H Q=>∃p xs,y=.ref p/\(AI K H p xs∨AA K H p xs)/\EW x=true/\xs.all EW=true/\Q (.bl (if neg then !D6 x xs else D6 x xs)) H
theorem FJ:BD X (compareOp .In) (Fi X.K false):=by
 intro pins s σ H x y v u Q I rx ry h;obtain⟨p,xs,rfl,hq,fx,fs,q⟩:=h;cases ry;rcases hq with hq | hq
 ·obtain⟨A4,r,pl,hz⟩:=I.list hq;refine SeqAt.in_listAt (Dx x) pl.isList (fun w hw=>Kc rx fx r fs w (by simpa using hw)) ⟨.bl _,H,I,rfl,?_⟩
  rw[show A4.toArray.any (Dx x)=A4.any (Dx x) by simp,O4 r fs];exact q
 ·obtain⟨A4,r,pl,hz⟩:=I.tuple hq;refine SeqAt.in_tupleAt (Dx x) pl (fun w hw=>Kc rx fx r fs w (by simpa using hw)) ⟨.bl _,H,I,rfl,?_⟩
  rw[show A4.toArray.any (Dx x)=A4.any (Dx x) by simp,O4 r fs];exact q
theorem Xc:BD X (compareOp .NotIn) (Fi X.K true):=by
 intro pins s σ H x y v u Q I rx ry h;obtain⟨p,xs,rfl,hq,fx,fs,q⟩:=h;cases ry;rcases hq with hq | hq
 ·obtain⟨A4,r,pl,hz⟩:=I.list hq;refine SeqAt.notIn_listAt (Dx x) pl.isList (fun w hw=>Kc rx fx r fs w (by simpa using hw)) ⟨.bl _,H,I,rfl,?_⟩
  rw[show A4.toArray.any (Dx x)=A4.any (Dx x) by simp,O4 r fs];exact q
 ·obtain⟨A4,r,pl,hz⟩:=I.tuple hq;refine SeqAt.notIn_tupleAt (Dx x) pl (fun w hw=>Kc rx fx r fs w (by simpa using hw)) ⟨.bl _,H,I,rfl,?_⟩
  rw[show A4.toArray.any (Dx x)=A4.any (Dx x) by simp,O4 r fs];exact q
theorem EE:CY X (.builtin "len") (fun xs H Q=>∃p ys,xs=[.ref p]/\(AI X.K H p ys∨AA X.K H p ys)/\Q (.int ys.length) H):=by
 intro pins s σ H xs us Q I r h;obtain⟨p,ys,rfl,hq,q⟩:=h;obtain⟨u,rfl,rx⟩:=vals1 r;cases rx;have hn:=JN;rcases hq with hq | hq
 ·obtain⟨A4,r',pl,hz⟩:=I.list hq;have hlen:=r'.length;exact Calls.call_len_list pl.isList (by simp only[Bo] <;> omega) ⟨.int ys.length,H,I.tok _,⟨s.toks+1,by rw[Bo,hlen]⟩,q⟩
 ·obtain⟨A4,r',pl,hz⟩:=I.tuple hq;have hlen:=r'.length;exact len_tuple pl (by simp only[Bo] <;> omega) ⟨.int ys.length,H,I.tok _,⟨s.toks+1,by rw[Bo,hlen]⟩,q⟩
theorem dA:CY X (.builtin "len") (fun xs H Q=>∃z,xs=[.str z]/\z.length<=sizeLine/\Q (.int z.length) H):=by
 intro pins s σ H xs us Q I r h;obtain⟨z,rfl,hz,q⟩:=h;obtain⟨u,rfl,t,rfl⟩:=vals1 r;have hn:=JN;exact len_str (by omega) ⟨.int z.length,H,I.tok _,⟨_,rfl⟩,q⟩
theorem JH:CY X (.type "list") (fun xs H Q=>∃p ys,xs=[.ref p]/\(AI X.K H p ys∨AA X.K H p ys)/\∀l,H l=none->Q (.ref l) (upd H l (.lst ys))):=by
 intro pins s σ H xs us Q I r h;obtain⟨p,ys,rfl,hq,q⟩:=h;obtain⟨u,rfl,rx⟩:=vals1 r;cases rx;have fin:∀(A4:List Value),Vals ys A4->ys.length<=sizeLine->∀(h':Heap) (c':Nat),(∀b o',s.heap.get? b=some o'->h'.get? b=some o')->
   h'.get? s.heap.objs.size=some { cls:=.type "list", dict:=none,data:=.seq A4.toArray c',slots:=#[] }->EP X pins σ Q (.ref s.heap.objs.size) { s with heap:=h' }:=fun A4 r' hz h' c' kp e=>
  ⟨.ref s.heap.objs.size,_,I.laid (t':=s.toks) kp (Ao _) (show Bx X.prog X.w _ h' _ (.lst ys) from⟨hz,A4,c',r',e⟩),rfl,q _ (I.AK.fresh (Ao _))⟩
 rcases hq with hq | hq
 ·obtain⟨A4,r',pl,hz⟩:=I.list hq;have hlen:=r'.length;obtain⟨o,ho,hc,n,hd⟩:=pl.isList;exact call_list_seq p (.inl rfl) ho hc hd (fun h' c' kp e=>fin A4 r' hz h' c' kp e) (by simp only[Bo] <;> omega)
 ·obtain⟨A4,r',pl,hz⟩:=I.tuple hq;have hlen:=r'.length;obtain⟨o,ho,hc,n,hd⟩:=pl;exact call_list_seq p (.inr rfl) ho hc hd (fun h' c' kp e=>fin A4 r' hz h' c' kp e) (by simp only[Bo] <;> omega)
theorem JJ:CY X (.type "tuple") (fun xs H Q=>∃p ys,xs=[.ref p]/\((AI X.K H p ys/\∀l,H l=none->Q (.ref l) (upd H l (.tup ys)))∨(AA X.K H p ys/\Q (.ref p) H))):=by
 intro pins s σ H xs us Q I r h;obtain⟨p,ys,rfl,h⟩:=h;obtain⟨u,rfl,rx⟩:=vals1 r;cases rx;rcases h with⟨hq,q⟩|⟨hq,q⟩
 ·obtain⟨A4,r',pl,hz⟩:=I.list hq;have hlen:=r'.length;refine call_tuple_list pl.isList (fun h' kp=>?_) (by simp only[Bo] <;> omega)
  have I1:Inv X pins σ H { s with heap:=h' }:=I.kept (t':=s.toks) kp
  have I2:Inv X pins σ (upd H h'.objs.size (.tup ys)) { s with heap:=h'.push { cls:=.type "tuple", data:=.seq A4.toArray } }:=
   I1.laid (t':=s.toks) (fun b o e=>BE _ e) (Ao _) (show Bx X.prog X.w _ _ _ (.tup ys) from⟨hz,A4,r',⟨IsTup.new _ _,fun Pt e'=>by rw[BR _ rfl] at e';cases e';rfl⟩⟩)
  exact⟨.ref h'.objs.size,_,I2,rfl,q _ (I1.AK.fresh (Ao _))⟩
 ·obtain⟨A4,r',pl,hz⟩:=I.tuple hq;exact call_tuple_same pl ⟨.ref p,H,I,rfl,q⟩
def K0 (K:ZHP)(T:String)(x:V)(H:Hp):Prop:=match x with
 | .str _=>T="str"
 | .int _=>T="int"
 | .ref p=>(T="list" /\ ∃xs,AI K H p xs)∨(T="tuple" /\ ∃o,K.lookup p=some o/\o.cls=.type "tuple" /\ o.dict=none)∨
   (T="dict" /\ ((∃A6,H p=some (.dK A6))∨∃A6,H p=some (.dT A6)))∨(T="set" /\ ∃S n,H p=some (.set S n))∨(T="tuple" /\ ∃xs,H p=some (.tup xs))
 | _=>False
theorem bY (I:Inv X pins σ H s)(r:RelV x v)(ty:K0 X.K T x H):
  s.TypeIs v T/\∀a,v=.ref a->∃ob,s.heap.get? a=some ob/\ob.dict=none:=by
 cases x with
 | str z=>
  obtain⟨t,rfl⟩:=r;cases(show T="str" from ty);exact⟨typeIs_str s z t,fun _ e=>nomatch e⟩
 | int i=>
  obtain⟨t,rfl⟩:=r;cases(show T="int" from ty);exact⟨typeIs_int s i t,fun _ e=>nomatch e⟩
 | ref p=>
  cases r;rcases ty with⟨rfl,xs,hq⟩|⟨rfl,o,hk,hc,hd⟩|⟨rfl,hk⟩|⟨rfl,S,n,hk⟩|⟨rfl,xs,hk⟩
  ·obtain⟨A4,_,pl,_⟩:=I.list hq;refine⟨pl.isList.typeIs,fun a e=>?_⟩;cases e;obtain⟨o,n,e,c,hd,_⟩:=pl;exact⟨o,e,hd⟩
  ·refine⟨⟨o,I.CV p o hk,hc⟩,fun a e=>?_⟩;cases e;exact⟨o,I.CV _ o hk,hd⟩
  ·have z:∃o,s.heap.get? p=some o/\o.ExactDict:=by
    rcases hk with⟨A6,hk⟩|⟨A6,hk⟩
    ·obtain⟨_,_,_,_,o,_,_,e,ex,_⟩:=I.AK p _ hk;exact⟨o,e,ex⟩
    ·obtain⟨_,_,_,_,o,_,_,e,ex,_⟩:=I.AK p _ hk;exact⟨o,e,ex⟩
   obtain⟨o,e,ex⟩:=z;refine⟨⟨o,e,ex.1⟩,fun a e2=>?_⟩;cases e2;exact⟨o,e,ex.2.1⟩
  ·obtain⟨o,_,_,_,e,ex,_⟩:=I.AK p _ hk;refine⟨⟨o,e,ex.1⟩,fun a e2=>?_⟩;cases e2;exact⟨o,e,ex.2.1⟩
  ·obtain⟨_,A4,_,⟨o,e,c,_⟩,dn⟩:=I.AK p _ hk;refine⟨⟨o,e,c⟩,fun a e2=>?_⟩;cases e2;exact⟨o,e,dn o e⟩
 | _=>exact False.elim ty
def Vb (K:ZHP)(T:String)(r:V->List V->Hp->VK->Prop)(to:TE):TE:=fun σ H Q=>to σ H fun x H1=>K0 K T x H1/\r x [] H1 Q
def NG (K:ZHP)(T:String)(r:V->List V->Hp->VK->Prop)(to:TE)(t:TA):TE:=fun σ H Q=>to σ H fun x H1=>K0 K T x H1/\t σ H1 fun xs H2=>r x xs H2 Q
variable {o e:Expr}{es:List Expr}{to:TE}{t:TA}{name:Str}{apos Bj:Pos}{id:String}{r:V->List V->Hp->VK->Prop}
end
def U3 (X:Cx)(id:String)(r:V->List V->Hp->VK->Prop):Prop:=
 ∀(pins:ZHQ) (s:Shared) (σ:St) (H:Hp) (x:V) (xs:List V) (v:Value) (us:List Value) (Q:VK),Inv X pins σ H s->RelV x v->Vals xs us->r x xs H Q->
  wpAny (model X.prog X.w) X.A (call (.builtin id) (v::us)) (EP X pins σ Q) X.xe s
theorem Vals.one:∀{x:V}{us:List Value},Vals [x] us->∃u,us=[u]/\RelV x u:=fun r=>vals1 r
theorem Vals.two:∀{x y:V}{us:List Value},Vals [x,y] us->∃u v,us=[u,v]/\RelV x u/\RelV y v:=fun r=>vals2 r
theorem Vals.zero:∀{us:List Value},Vals [] us->us=[]
 | _,.nil=>rfl
theorem Vals.dropLast (h:Vals xs us):Vals xs.dropLast us.dropLast:=by
 induction h with
 | nil=>exact .nil
 | cons r t ih=>
  cases t with
  | nil=>exact .nil
  | cons q t'=>exact .cons r ih
theorem Vals.reverse (h:Vals xs us):Vals xs.reverse us.reverse:=by
 induction h with
 | nil=>exact .nil
 | cons r t ih=>rw[ZGI,ZGI];exact Vals.append ih (.cons r .nil)
theorem ZEZ (l:List α):l.eraseIdx (l.length - 1)=l.dropLast:=by
 induction l with
 | nil=>rfl
 | cons a r ih=>
  cases r with
  | nil=>rfl
  | cons b r=>
   have e:(a::b::r).length - 1=((b::r).length - 1)+1:=by
    have h1:(a::b::r).length=r.length+2:=rfl;have h2:(b::r).length=r.length+1:=rfl;omega
   rw[e,Sj,ih]
   all_goals rfl
section
variable {l b:Addr}{zs:List V}
theorem Inv.Wu {f:Array Value->Array Value}(I:Inv X pins σ H s)(hH:H l=some (.lst xs))
  (e:s.heap.get? l=some { cls:=.type "list", data:=.seq A4.toArray n }) (hf:f A4.toArray=its'.toArray) (hv:Vals ys its') (hz:ys.length<=sizeLine) :
  Inv X pins σ (upd H l (.lst ys)) { s with heap:=s.heap.update l (Obj.mapSeq f),toks:=t' }:=by
 have q:=PySem.IsL.update e f;rw[hf] at q;refine I.write (x:=l) (e:=l) (by rw[hH];exact trivial) (.inl rfl) (fun b' u hb hu=>(GP s.heap (Obj.mapSeq f) (BP hb)).trans hu) ⟨_,q⟩ ?_;exact⟨hz,its',_,hv,q⟩
theorem Inv.dO (I:Inv X pins σ H s)(hv:Vals ys A4)(hz:ys.length<=sizeLine):
  Inv X pins σ (upd H s.heap.objs.size (.lst ys)) { s with heap:=s.heap.push { cls:=.type "list", data:=.seq A4.toArray },toks:=t' }:=
 I.laid (fun _ _ q=>BE _ q) (Ao _) ⟨hz,A4,0,hv,BR _ rfl⟩
theorem Inv.fresh (I:Inv X pins σ H s):H s.heap.objs.size=none:=I.AK.fresh (Ao _)
theorem Inv.N4 (I:Inv X pins σ H s)(hH:H l=some (.lst xs)):xs.length<=sizeLine/\∃(A4:List Value) (n:Nat),Vals xs A4/\xs.length=A4.length/\s.heap.get? l=some { cls:=.type "list", data:=.seq A4.toArray n }:=by
 obtain⟨z,A4,n,r,e⟩:=I.AK l _ hH;exact⟨z,A4,n,r,r.length,e⟩
def Nv:V->List V->Hp->VK->Prop:=fun x vs H Q=>∃l xs y,x=.ref l/\vs=[y]/\H l=some (.lst xs)/\xs.length<sizeLine/\Q .AF (upd H l (.lst (xs++[y])))
theorem bB:U3 X "list.append" Nv:=by
 intro pins s σ H x vs v us Q I rx rv h;obtain⟨l,xs,y,rfl,rfl,hH,hz,q⟩:=h;cases rx;obtain⟨u,rfl,ru⟩:=rv.one;obtain⟨z,A4,n,r,hl,e⟩:=I.N4 hH;refine ZAd F.slot_list_append ⟨_,e,rfl⟩ F.entry_list_append (F.args_list_append_2 _ _) (PySem.list_append l A4.toArray n u (by rw[Bo];omega)) ⟨e,?_⟩;refine⟨.AF,_,I.Wu (its':=A4++[u]) hH e (by simp) (r.append (.cons ru .nil)) ?_,rfl,q⟩;rw[BL,lV];omega
def WO:V->List V->Hp->VK->Prop:=fun x vs H Q=>∃l xs y,x=.ref l/\vs=[]/\H l=some (.lst xs)/\xs[xs.length - 1]?=some y/\Q y (upd H l (.lst xs.dropLast))
theorem yU:U3 X "list.pop" WO:=by
 intro pins s σ H x vs v us Q I rx rv h;obtain⟨l,xs,y,rfl,rfl,hH,hy,q⟩:=h;cases rx;have x6:=rv.zero;subst x6;obtain⟨z,A4,n,r,hl,e⟩:=I.N4 hH;obtain⟨u,hu,ru⟩:=r.get hy;have RB:A4.toArray[A4.toArray.size - 1]?=some u:=by
  show A4.toArray[A4.length - 1]?=some u;rw[<- Ou,<- hl];exact hu
 refine ZAd F.slot_list_pop ⟨_,e,rfl⟩ F.entry_list_pop (F.args_list_pop_1 _) (MeetsSeq.list_pop_last l A4.toArray n u RB (by rw[Bo];omega)) ⟨e,?_⟩;refine⟨y,_,I.Wu (its':=A4.dropLast) hH e ?_ r.dropLast ?_,ru,q⟩
 ·show A4.toArray.eraseIdxIfInBounds (A4.toArray.size - 1)=A4.dropLast.toArray;rw[Bo,List.eraseIdxIfInBounds_toArray,ZEZ]
 ·rw[List.length_dropLast];omega
def gk:R2:=fun x y H Q=>∃l b xs zs,x=.ref l/\y=.ref b/\H l=some (.lst xs)/\H b=some (.lst zs)/\xs.length+zs.length<=sizeLine/\∀p,H p=none->Q (.ref p) (upd H p (.lst (xs++zs)))
theorem Hq:BD X (binaryOp .Add) gk:=by
 intro pins s σ H x y v u Q I rx ry h;obtain⟨l,b,xs,zs,rfl,rfl,hH,hB,hz,q⟩:=h;cases rx;cases ry;obtain⟨z,A4,n,r,hl,e⟩:=I.N4 hH;obtain⟨z2,Be,n2,r2,Co,e2⟩:=I.N4 hB;refine PySem.P.add_list e e2 ?_ (by rw[Bo,Bo];omega);have ea:A4.toArray++Be.toArray=(A4++Be).toArray:=by simp
 rw[ea];exact⟨.ref _,_,I.dO (t':=s.toks) (r.append r2) (by rw[BL];omega),rfl,q _ I.fresh⟩
variable {prog:Program}{w:World}{E:Value->Shared->Prop}
set_option maxRecDepth 100000 in
end
end L2
namespace ah
open PySem.W PySem.Calls
variable {l:OpenLaw}{n:Nat}{prog q:Program}
theorem nL {P:Params}{h:Heap}:∀(ns:List Int) (vs:List Value),WellAll P h vs (ns.map WData.int)->IntsAre vs ns:=by
 intro ns
 induction ns with
 | nil=>
  intro vs w;rw[lX] at w;cases w;exact .nil
 | cons n ns ih=>
  intro vs w;rw[Bn] at w;cases w with
  | cons a b=>
   cases a;exact .cons _ _ (ih _ b)
theorem pJ (hn:l.most=some n){P:Params}{h:Heap}{args:List WData}{vals:List Value}
  (ME:l.row.toRowW.claim.pre args=true) (V0:WellAll P h vals args) :
  ∃a vs ns,vals=[Value.ref a]/\args=[WData.list (ns.map WData.int)]/\h.get? a=some { cls:=.type "list", data:=.seq vs.toArray }/\IntsAre vs ns/\ns.length<=n:=by
 have w8:WShape.hasAll [] args [.list .int]=true:=(pre_splitW ME).1;have hc:l.pre.holds [] { args:=args }=true:=(pre_splitW ME).2;obtain⟨d,r,rfl,h1,h2⟩:=hasAllW_cons w8;obtain rfl:=hasAllW_nil h2;obtain⟨xs,rfl,h3⟩:=hasW_list h1;obtain⟨ns,rfl⟩:=items_int h3;have hlen:ns.length<=n:=by
  unfold OpenLaw.pre at hc;have h4:(WTm.not (.lt (.lit (.int (n:Int))) (.len (.arg 0)))).holds [] { args:=[.list (ns.map .int)] }=true:=by
   have h4:=(holds_andW hc).1;rw[hn] at h4;exact h4
  have h5:=condW_of h4 (w_not (w_lt w_lit (w_len_list (w_arg rfl))));rw[AX] at h5;refine ZGK fun q=>?_;have q':(n:Int)<((ns.length:Nat):Int):=by omega
  first
   | (rw[nV q'] at h5;exact absurd h5 (by decide))
   | (simp at h5;omega)
 cases V0 with
 | cons w1 w2=>
  cases w2;cases w1 with
  | list ho JR=>exact⟨_,_,ns,rfl,rfl,ho,nL ns _ JR,hlen⟩
theorem ZDH (l:OpenLaw)(args:List WData):l.row.toRowW.claim.post args (.bool true) args=true:=
 postW_of (r:=l.row.toRowW) (X:=(true == true))
  (show WShape.has [] (.bool true) .bool=true by first | rfl | decide | simp[WShape.has,WShape.arms,WShape.armsAll])
  (show(WTm.eq .res (.lit (.bool true))).value [] { args:=args,res:=some (.bool true),after:=args }=some (.bool (true == true)) from w_eq_bool (w_res rfl) w_lit) rfl
theorem ZCJ {loose:List Str}{XP:(ZHR)->Heap->Prop}{YP:World->Heap->Prop}{d:DefRec}
  (hn:l.most=some n) (OW:d.params.defaults=[])
  (call:∀(w:World) (s₀ s₁:Shared) (mg mb:ZHR) (fa:Addr) (o:Obj) (pm cd doc:Value) (a:Addr) (vs:List Value) (ns:List Int),
   Ground q loose [] XP w s₀ mg mb s₁.heap->YP w s₁.heap->
   s₁.heap.get? fa=some o->o.data=.func (docDef d.name d.params d.body d.scope pm cd doc)->s₁.heap.CodeRec cd d.name->mg d.name=some (.ref fa)->
   s₁.heap.get? a=some { cls:=.type "list", data:=.seq vs.toArray }->IntsAre vs ns->ns.length<=n->s₁.gens=#[]->
   codeAny (model l.prog w) callerA (.call (.ref fa) ⟨[.ref a],[]⟩) (fun r s'=>r=.ok (.ret (.bool true))/\OldK s₁.heap s'.heap/\s'.os=s₁.os/\AllBare s'.gens) s₁) :
  WalkO q loose XP YP l.row.toRowW d [] (fun f vs=>PySem.call f vs):=by
 intro w s₀ s₁ mg mb G Y fa o pm cd doc dV kV ho hd Gh hD NY hg args vals as ME ZGj hrd V0 hlo;obtain rfl:dV=.none:=Dflts.none hD OW;obtain rfl:kV=.none:=Dflts.noKw hD;obtain⟨a,vs,ns,rfl,rfl,ZI,hints,hlen⟩:=pJ hn ME V0;refine enter_call (ZAC (call w s₀ s₁ mg mb fa o pm cd doc a vs ns G Y ho (fd_plain hd) Gh NY ZI hints hlen hg) fun r s' hq=>?_);obtain⟨rfl,h2,h3,h4⟩:=hq;exact⟨.inl ⟨.bool true,.bool true,[],rfl,fun _=>rfl,.bool true,ZDH l _,fun _=>⟨List.Pairwise.nil,fun _ hm=>(nomatch hm)⟩⟩,h2,h3,h4⟩
end ah
namespace L2
variable {w:World}{mg:ZHR}{a f:Addr}{fd:FuncData}{qual x:Str}{sp:Sp}{loose ps:List Str}{X:Cx}{A B c:Prop}
theorem kQ:∀{vs:List Value}{ns:List Int},IntsAre vs ns->Vals (ns.map V.int) vs
 | _,_,.nil=>.nil
 | _,_,.cons n t h=>.cons ⟨t,rfl⟩ (kQ h)
def Xy (H:Hp):Prop:=∀b,H b=none∨∃o xs,H b=some (.CM o (.lst xs))
theorem ZDz {P:Program}{K:ZHP}{mb:ZHR}{CX:G9}{k:Nat}{fa:Addr}{s₁:Shared}{vs:List Value}{ns:List Int}
  (KX:K.In s₁.heap) (M6:s₁.heap.Ns mainGlobals mg) (hb:s₁.heap.Ns builtinsNs mb) (nQ:∀x:Str,x ≠ "__name__" -> mb x=bootBuiltins x) (pq:s₁.heap.NoLimit) (hg:s₁.gens=#[])
  (ha:s₁.heap.get? a=some { cls:=.type "list", data:=.seq vs.toArray }) (hi:IntsAre vs ns) (hl:ns.length<=sizeLine) (hr:Bi k callerA)
  (F:∀base:Heap,K.In base->base.Ns mainGlobals mg->DL P w K mg base CX k fa fd [x] sp) (oo:∀(s:Shared) (u:Value),BindsTo s fd ⟨[u],[]⟩ [(x,u)])
  (Fj:∀H:Hp,Xy H->AI K H a (ns.map V.int)->sp [.ref a] H (fun v _=>v=.bl true) fun _ _ _=>False)
  (Tg:∀H e s',CX [] H s₁ (fun _ _ _=>False) e s'->False) :
  codeAny (model P w) callerA (.call (.ref fa) ⟨[.ref a],[]⟩) (fun r s'=>r=.ok (.ret (.bool true))/\OldK s₁.heap s'.heap/\s'.os=s₁.os/\AllBare s'.gens) s₁:=by
 have rv:=kQ hi;have ZC1:=hi.length
 -- from an abstract heap in ZHB nothing but Gi jV may be tracked
 have core:∀H:Hp,Xy H->AI K H a (ns.map V.int)->C4 P w H s₁.heap->(∀b,H b≠none->b=a)->(H a≠none->K.lookup a=none)->
   codeAny (model P w) callerA (.call (.ref fa) ⟨[.ref a],[]⟩) (fun r s'=>r=.ok (.ret (.bool true))/\OldK s₁.heap s'.heap/\s'.os=s₁.os/\AllBare s'.gens) s₁:=by
  intro H hO hS AK hA hK;have bL:∀{b:Addr}{o:Obj},s₁.heap.get? b=some o->H b=none->(Ij s₁.heap H).get? b=some o:=fun e n=>ym e n;have KD:∀{b:Addr}{o:Obj}{es:Array DictEntry}{ep:Nat},s₁.heap.get? b=some o->o.data=.dict es ep->H b=none:=fun {b o es ep} e d=>by
   cases q:H b with
   | none=>rfl
   | some u=>
    have e':b=a:=hA b (by rw[q];simp);subst e';rw[ha] at e;cases e;have d':Data.seq vs.toArray _=Data.dict es ep:=d;cases d'
  have Rj:∀{b:Addr}{m:ZHR},s₁.heap.Ns b m->(Ij s₁.heap H).Ns b m:=fun {b m} AJ=>by obtain⟨o,es,ep,e,d,r⟩:=AJ;exact⟨o,es,ep,bL e (KD e d),d,r⟩
  have dN:K.In (Ij s₁.heap H):=fun b o e=>bL (KX b o e) (by
   cases q:H b with
   | none=>rfl
   | some u=>
    have e':b=a:=hA b (by rw[q];simp);subst e';rw[hK (by rw[q];simp)] at e;cases e)
  have hM:Mod K mg (Ij s₁.heap H):=⟨dN,Rj M6,⟨mb,Rj hb,nQ⟩,let ⟨mc,h1,h2⟩:=pq;⟨mc,Rj h1,h2⟩⟩;have e0:Kb P w K mg (Ij s₁.heap H) callerA [] s₁ H:=⟨rfl,hM,fun b o e=>oU e,la (vk _ _),trivial,fun b hb=>absurd (show b∈([]:List Addr) from hb) (by simp),AK,.of_eq hg⟩;refine ZAC ((F _ dN (Rj M6)).run callerA [] s₁ H ⟨[.ref a],[]⟩ [.ref a] [.ref a] _ _ hr e0 (oo s₁ (.ref a)) (.cons rfl .nil) (Fj H hO hS)) fun r s' h=>?_;cases r with
  | error e=>exact(Tg H e s' h).elim
  | ok fl=>
   cases fl with
   | next=>exact False.elim h
   | brk=>exact False.elim h
   | cont=>exact False.elim h
   | ret u=>
    obtain⟨v,H',os,bare,un,ZCZ,r',q⟩:=h;have q':v=.bl true:=q;subst q';obtain rfl:u=Value.bool true:=r';refine⟨rfl,OldK.of_keep fun b o e=>?_,os,bare⟩;cases q:H b with
    | none=>exact un.keep b o e q (by intro z;exact absurd (show b∈([]:List Addr) from z) (by simp)) (by simp)
    | some u=>
     rcases hO b with z | ⟨ob,xs,z⟩
     ·rw[q] at z;cases z
     ·have z2:=un.Gf b ob _ z;obtain⟨e1,_⟩:=AK b _ z;obtain⟨e2,_⟩:=ZCZ b _ z2;rw[e] at e1;cases e1;exact e2
 cases hk:K.lookup a with
 | some o=>
  -- Gi jV is one of Gi ZH0 own objects
  have e:=KX a o hk;rw[ha] at e;cases e;refine core (fun _=>none) (fun _=>.inl rfl) (.inr ⟨_,vs.toArray,_,hk,rfl,rfl,rfl,by rw[Bo,ZC1];exact hl,by simpa using rv⟩) (fun b u z=>by have z':(none:Option HO)=some u:=z;cases z') (fun b z=>absurd rfl z) fun z=>absurd rfl z
 | none=>
  refine core (fun b=>if b=a then some (.CM { cls:=.type "list", data:=.seq vs.toArray } (.lst (ns.map V.int))) else none) (fun b=>?_) (.inl (.inr ⟨{ cls:=.type "list", data:=.seq vs.toArray },pR rfl⟩)) (fun b u z=>?_) (fun b z=>?_) fun _=>hk
  ·by_cases hb:b=a
   ·exact .inr ⟨_,_,pR hb⟩
   ·exact .inl (nr hb)
  ·by_cases hb:b=a
   ·have z':=(pR hb).symm.trans z;cases z';subst hb;exact⟨ha,by rw[AX];exact hl,vs,_,rv,ha⟩
   ·have z':=(nr hb).symm.trans z;cases z'
  ·by_cases hb:b=a
   ·exact hb
   ·exact absurd (nr hb) z
theorem ZDP {l:PySem.W.OpenLaw}{n k:Nat}{q:Program}{XP:(ZHR)->Heap->Prop}{YP:World->Heap->Prop}{d:DefRec}{K:Params->ZHP}{CX:World->G9}{sp:World->Sp}
  (hn:l.most=some n) (Rc:n<=sizeLine) (OW:d.params.defaults=[]) (hr:Bi k callerA)
  (hY:∀(w:World) (h:Heap),YP w h->(K w.params).In h)
  (F:∀(w:World) (mg:ZHR) (fa:Addr) (h:Heap),(K w.params).In h->h.Ns mainGlobals mg->mg d.name=some (.ref fa)->
   ∃fd:FuncData,(∀(s:Shared) (u:Value),BindsTo s fd ⟨[u],[]⟩ [(x,u)])/\
    ∀base:Heap,(K w.params).In base->base.Ns mainGlobals mg->DL l.prog w (K w.params) mg base (CX w) k fa fd [x] (sp w))
  (Fj:∀(w:World) (H:Hp) (a:Addr) (ns:List Int),ns.length<=n->Xy H->AI (K w.params) H a (ns.map V.int)->sp w [.ref a] H (fun v _=>v=.bl true) fun _ _ _=>False)
  (Tg:∀(w:World) (H:Hp) (s:Shared) (e:Value) (s':Shared),CX w [] H s (fun _ _ _=>False) e s'->False) :
  PySem.W.WalkO q loose XP YP l.row.toRowW d [] (fun f vs=>PySem.call f vs):=by
 refine ah.ZCJ hn OW fun w s₀ s₁ mg mb fa o pm cd doc a vs ns G Y ho hd Gh NY ZI hints hlen hg=>?_;have KX:=hY w _ Y;obtain⟨fd,hb,hF⟩:=F w mg fa _ KX G.T.g NY;exact ZDz KX G.T.g G.T.b G.T.builtins G.T.nolimit hg ZI hints (CZ hlen Rc) hr hF hb (fun H hO hS=>Fj w H a ns hlen hO hS) fun H e s'=>Tg w H s₁ e s'
def Od (s:Stmt):Arguments:=match s with
 | .FunctionDef _ a _ _ _ _ _ _ _ _=>a
 | _=>{ posonlyargs:=[],args:=[],vararg:=none,kwonlyargs:=[],kw_defaults:=[],kwarg:=none,defaults:=[] }
def KC (s:Stmt):List Stmt:=match s with
 | .FunctionDef _ _ b _ _ _ _ _ _ _=>b
 | _=>[]
def AV (s:Stmt):Scope:=match s with
 | .FunctionDef _ _ _ _ _ _ sc _ _ _=>sc
 | _=>{ kind:=.function,names:=[],isGenerator:=false,isCoroutine:=false }
abbrev Ff:G9:=fun _ _ _ _ _ _=>False
abbrev E0:XK:=fun _ _ _=>False
theorem Ql:Passes Ff X E0:=fun _ _ _ _ _ _ _ h=>h.elim
structure AE (K:ZHP) (x qual:Str) (st:Stmt) (f:Addr) (fd:FuncData):Prop where
 ex:∃(oc:Value) (od:Option Addr) (kV doc pm:Value) (an:Option Addr) (AU ct:Value) (Gs:Array (Option Value)),
  fd=PySem.W.fnOf x qual (Od st) (KC st) (AV st) .none kV doc pm an AU ct/\K.lookup f=some ⟨oc,od,.func fd,Gs⟩/\PySem.W.codeIn K AU qual=true
 kp:PySem.W.keepIn K (.ref f)=true
section
variable {P:Program}{K:ZHP}{base:Heap}
theorem AE.ok {st:Stmt}{N:List Str}{k:Nat}(F:AE K x qual st f fd)(S:Ak N ps (AV st))(len:∀vs H Q E,sp vs H Q E->vs.length=ps.length)
  (NS:∀(AU:Value) (A:Around) (outer:List Env) (s:Shared) (H:Hp) (vs:List V) (Q:VK) (E:XK),Bi k (A.deeper (envOfC qual (AV st) s.heap.objs.size f AU))->sp vs H Q E->
   ∃t,EN (KR Ff P w K mg base N qual (AV st) f AU A outer s H E).Np (KC st) t/\t { nx:=fun _ H'=>Q .AF H',rt:=Q } (start N vs) H):DL P w K mg base Ff (k+1) f fd ps sp:=by
 obtain⟨oc,od,kV,doc,pm,an,AU,ct,Gs,rfl,lk,Gh⟩:=F.ex;refine xv lk Gh S len fun A outer s H vs Q E hr Fj=>?_;obtain⟨t,h,q⟩:=NS AU A outer s H vs Q E hr Fj;exact⟨t,h.Np,q⟩
theorem AE.binds {st:Stmt}(F:AE K x qual st f fd)
  (h:∀(kV doc pm:Value) (an:Option Addr) (AU ct:Value) (us:List Value),us.length=ps.length->bindArgs (PySem.W.fnOf x qual (Od st) (KC st) (AV st) .none kV doc pm an AU ct) ⟨us,[]⟩=pure (ps.zip us)):Binds K fd ps []:=by
 obtain⟨oc,od,kV,doc,pm,an,AU,ct,Gs,rfl,lk,Gh⟩:=F.ex;exact .all (h kV doc pm an AU ct)
theorem pX {st:Stmt}{oc:Value}{od an:Option Addr}{Gs:Array (Option Value)}{kV doc pm AU ct:Value}(l:K.lookup f=some ⟨oc,od,.func (PySem.W.fnOf x qual (Od st) (KC st) (AV st) .none kV doc pm an AU ct),Gs⟩)
  (c:PySem.W.codeIn K AU qual=true) (k:PySem.W.keepIn K (.ref f)=true):AE K x qual st f (PySem.W.fnOf x qual (Od st) (KC st) (AV st) .none kV doc pm an AU ct):=⟨⟨oc,od,kV,doc,pm,an,AU,ct,Gs,rfl,l,c⟩,k⟩
end
theorem BO {A:Around}{k:Nat}(hr:Bi k A):A.units+1<cLine:=Hm (Nat.add_le_add_left (by decide:1<=64) _) hr.units
theorem DS (h:B):if false=true then A else B:=by
 rw[nr DB];exact h
theorem Mx (h:A):if true=true then A else B:=by
 rw[pR rfl];exact h
theorem B5 [Decidable c](h1:c->A)(h2:¬ c->B):if c then A else B:=by
 by_cases h:c
 ·rw[pR h];exact h1 h
 ·rw[nr h];exact h2 h
theorem S6 [Decidable c](hc:c)(h:B):if(!decide c)=true then A else B:=by
 rw[nV hc];exact DS h
def A8 (H H':Hp):Prop:=∀b o,H b=some o->H' b=some o
theorem A8.refl (H:Hp):A8 H H:=fun _ _ h=>h
theorem A8.trans {H H1 H2:Hp}(a:A8 H H1)(b:A8 H1 H2):A8 H H2:=fun c o h=>b c o (a c o h)
theorem A8.seq {K:ZHP}{H H':Hp}{xs:List V}(e:A8 H H')(h:AI K H a xs):AI K H' a xs:=by
 rcases h with(h | ⟨o,h⟩) | h
 ·exact .inl (.inl (e _ _ h))
 ·exact .inl (.inr ⟨o,e _ _ h⟩)
 ·exact .inr h
end L2
set_option maxHeartbeats 4000000
namespace L2
variable {α κ:Type}{A6:List (List Key×V)}{o:Option V}{u:Value}{v y:V}{w:World}{H H' H1 H2 H4:Hp}{xs:List (List Key×Addr×Value)}{C a acc b it n:Addr}{X Y:Cx}{pins:ZHQ}{ws σ:St}{s s2 s4:Shared}{A:Around}{E Q:Value->Shared->Prop}{h' h1:Heap}{i j n0 t':Nat}{prog:Program}{env:Env}{c e elt tg value:Expr}{JK pos px py:Pos}{td te tv:TE}{outer scope:Scope}{cl closure:List (Str×Addr)}{qual x z:Str}{ce:Option Str}{ifs:List Expr}{R:Result->Shared->Prop}{js:List Nat}{tt:TT}{J:It}{tn:Nat->Heap->Prop}{wi:TI}{CW:It->St->Hp->Addr->VK->Prop}{N:List Str}{tp:Bool}{ys:List V}{A4:List Value}
section
variable [DecidableEq κ]
def DX (A6:List (κ×V))(k:κ):Option V:=(A6.find? fun kv=>decide (kv.1=k)).map (·.2)
def putK (A6:List (κ×V))(k:κ)(v:V):List (κ×V):=
 if(A6.any fun kv=>decide (kv.1=k))=true then A6.map (fun kv=>if kv.1=k then(kv.1,v) else kv) else A6++[(k,v)]
def Jc (A6:List (κ×V))(k:κ):List (κ×V):=A6.filter fun kv=>decide (kv.1≠k)
theorem Lg {p:κ×V}{r:List (κ×V)}{k:κ}(e:p.1=k):DX (p::r) k=some p.2:=by simp[DX,Ow,e]
theorem Lf {p:κ×V}{r:List (κ×V)}{k:κ}(e:¬ p.1=k):DX (p::r) k=DX r k:=by simp[DX,Ow,e]
theorem Pr (k:κ):∀A6:List (κ×V),(A6.any fun kv=>decide (kv.1=k))=(DX A6 k).isSome
 | []=>rfl
 | p::r=>by
  rw[Mh]
  by_cases e:p.1=k
  ·simp only[Lg e,nV e,Bool.true_or,ZGQ]
  ·rw[Lf e,qQ e,Bool.false_or];exact Pr k r
theorem YB (A6:List (κ×V))(k:κ)(v:V):(putK A6 k v).length<=A6.length+1:=by
 unfold putK;split
 ·rw[AX];omega
 ·rw[BL,BH,Sk];omega
theorem Tu {A6:List (κ×V)}{k:κ}(v:V)(h:DX A6 k=none):putK A6 k v=A6++[(k,v)]:=by
 unfold putK;rw[Pr,h];exact nr (by decide)
theorem EK.Oo {u:Option Value}(r:EK o u):o.isSome=u.isSome:=by
 cases o with
 | none=>cases u with
  | none=>rfl
  | some _=>exact(show False from r).elim
 | some _=>cases u with
  | none=>exact(show False from r).elim
  | some _=>rfl
theorem KV.val {A6:List (κ×V)}{vs:List (κ×Value)}(r:KV A6 vs)(k:κ):EK (DX A6 k) (valueAt vs k):=by
 unfold KV at r
 induction r with
 | nil=>exact True.intro
 | @cons p q ps qs h t ih=>
  obtain⟨h1,h2⟩:=h
  by_cases e:p.1=k
  ·have e':q.1=k:=h1.symm.trans e;have b:valueAt (q::qs) k=some q.2:=by simp[valueAt,Ow,e']
   rw[Lg e,b];exact h2
  ·have e':¬ q.1=k:=fun z=>e (h1.trans z);have b:valueAt (q::qs) k=valueAt qs k:=by simp[valueAt,Ow,e']
   rw[Lf e,b];exact ih
theorem KV.any {A6:List (κ×V)}{vs:List (κ×Value)}(r:KV A6 vs)(k:κ):(A6.any fun kv=>decide (kv.1=k))=vs.any fun kv=>decide (kv.1=k):=by
 unfold KV at r
 induction r with
 | nil=>rfl
 | cons h t ih=>rw[Mh,Mh,ih,h.1]
theorem KV.XX {A6:List (κ×V)}{vs:List (κ×Value)}(r:KV A6 vs)(k:κ)(ry:RelV y u):
  KV (A6.map fun kv=>if kv.1=k then(kv.1,y) else kv) (vs.map fun kv=>if kv.1=k then(kv.1,u) else kv):=by
 unfold KV at r ⊢
 induction r with
 | nil=>exact .nil
 | @cons p q ps qs h t ih=>
  rw[Bn,Bn];refine .cons ?_ ih;obtain⟨h1,h2⟩:=h
  by_cases e:p.1=k
  ·rw[pR e,pR (h1.symm.trans e)];exact⟨h1,ry⟩
  ·rw[nr e,nr (fun z=>e (h1.trans z))];exact⟨h1,h2⟩
theorem KV.put {A6:List (κ×V)}{vs:List (κ×Value)}(r:KV A6 vs)(k:κ)(ry:RelV y u):KV (putK A6 k y) (stored vs k u):=by
 unfold putK stored;rw[r.any k]
 by_cases e:(vs.any fun kv=>decide (kv.1=k))=true
 ·rw[pR e,pR e];exact r.XX k ry
 ·rw[nr e,nr e];exact Paired.snoc r ⟨rfl,ry⟩
theorem KV.drop {A6:List (κ×V)}{vs:List (κ×Value)}(r:KV A6 vs)(k:κ):KV (Jc A6 k) (without vs k):=by
 unfold KV at r ⊢;unfold Jc without
 induction r with
 | nil=>exact .nil
 | @cons p q ps qs h t ih=>
  obtain⟨h1,h2⟩:=h;rw[Ov,Ov]
  by_cases e:p.1=k
  ·have a:¬ decide (p.1≠k)=true:=by simp[e]
   have b:¬ decide (q.1≠k)=true:=by simp[h1.symm.trans e]
   rw[nr a,nr b];exact ih
  ·have e':¬ q.1=k:=fun z=>e (h1.trans z);have a:decide (p.1≠k)=true:=by simp[e]
   have b:decide (q.1≠k)=true:=by simp[e']
   rw[pR a,pR b];exact .cons ⟨h1,h2⟩ ih
theorem KV.keys {A6:List (κ×V)}{vs:List (κ×Value)}(r:KV A6 vs):A6.map (·.1)=vs.map (·.1):=by
 unfold KV at r
 induction r with
 | nil=>rfl
 | cons h t ih=>rw[Bn,Bn,ih,h.1]
theorem KV.length {A6:List (κ×V)}{vs:List (κ×Value)}(r:KV A6 vs):A6.length=vs.length:=lh r
theorem pM (A6:List (κ×V))(k:κ):(Jc A6 k).length<=A6.length:=Fq _ _
end
theorem Jt {P:Program}{k:Key}(r:RelV (kV k) u):(C1 P w).is k u=true:=by
 cases k with
 | inl i=>obtain⟨t,e⟩:=(show ∃t,u=Value.int i t from r);subst e;exact rT P w i t
 | inr x=>obtain⟨t,e⟩:=(show ∃t,u=Value.str x t from r);subst e;exact ZAX P w x t
theorem aw {P:Program}{w:World}:∀{ks:List Key}{us:List Value},Vals (ks.map kV) us->ItemsAre (C1 P w) ks us
 | [],_,r=>by rw[lX] at r;cases r;exact .nil
 | k::ks,_,r=>by
  rw[Bn] at r;cases r with
  | cons h t=>exact .cons (Jt h) (aw t)
abbrev KT (H:Hp):List (List Key×V)->List (List Key×Addr×Value)->Prop:=Paired fun p q=>p.1=q.1/\H q.2.1=some (.tup (p.1.map kV))/\RelV p.2 q.2.2
theorem KT.val (r:KT H A6 xs)(k:List Key):EK (DX A6 k) ((atKey xs k).map (·.2)):=by
 induction r with
 | nil=>exact True.intro
 | @cons p q ps qs h t ih=>
  obtain⟨h1,_,h2⟩:=h
  by_cases e:p.1=k
  ·have e':q.1=k:=h1.symm.trans e;have b:atKey (q::qs) k=some q.2:=by simp[atKey,Ow,e']
   rw[Lg e,b];exact h2
  ·have e':¬ q.1=k:=fun z=>e (h1.trans z);have b:atKey (q::qs) k=atKey qs k:=by simp[atKey,Ow,e']
   rw[Lf e,b];exact ih
theorem KT.XX (r:KT H A6 xs)(k:List Key)(ry:RelV y u):
  KT H (A6.map fun kv=>if kv.1=k then(kv.1,y) else kv) (xs.map (putAt k u)):=by
 induction r with
 | nil=>exact .nil
 | @cons p q ps qs h t ih=>
  rw[Bn,Bn];refine .cons ?_ ih;obtain⟨h1,h2,h3⟩:=h;unfold putAt
  by_cases e:p.1=k
  ·rw[pR e,pR (h1.symm.trans e)];exact⟨h1,h2,ry⟩
  ·rw[nr e,nr (fun z=>e (h1.trans z))];exact⟨h1,h2,h3⟩
theorem KT.put (r:KT H A6 xs)(k:List Key)(hb:H b=some (.tup (k.map kV)))(ry:RelV y u):
  KT H (putK A6 k y) (storedH xs k b u):=by
 have e:(A6.any fun kv=>decide (kv.1=k))=(atKey xs k).isSome:=by
  rw[Pr,(r.val k).Oo,Zi]
 unfold putK storedH;rw[e]
 by_cases q:(atKey xs k).isSome=true
 ·rw[pR q,pR q];exact r.XX k ry
 ·rw[nr q,nr q];exact Paired.snoc r ⟨rfl,hb,ry⟩
theorem KT.keeps (r:KT H A6 xs)(ht:∀b ys,H b=some (.tup ys)->H' b=some (.tup ys)):KT H' A6 xs:=
 Paired.XM r fun _ _ z=>⟨z.1,ht _ _ z.2.1,z.2.2⟩
section
variable {P:Program}{h:Heap}
theorem jq {u:HO}(ok:C4 P w H h)(e:Rd H a u):Bx P w H h a u:=e.ok ok
theorem HW {A6:List (Key×V)}(ok:C4 P w H h)(e:Rd H a (.dK A6)):A6.length<=sizeLine/\(a == sysModules)=false/\∃vs,KV A6 vs/\h.DictOf (C1 P w) a vs:=
 show Bx P w H h a (.dK A6) from jq ok e
theorem WR {A6:List (Key×V)}(ok:C4 P w H h)(e:H a=some (.dK A6)):A6.length<=sizeLine/\(a == sysModules)=false/\∃vs,KV A6 vs/\h.DictOf (C1 P w) a vs:=HW ok (.inl e)
theorem NI {ks:List Key}(ok:C4 P w H h)(e:H a=some (.tup (ks.map kV))):(tupleKind (C1 P w)).is h ks a:=by
 obtain⟨_,A4,r,⟨o,h1,h2,n,h3⟩,_⟩:=(show Bx P w H h a (.tup (ks.map kV)) from ok a _ e);exact⟨o,A4.toArray,n,h1,h2,h3,by simpa using aw r⟩
theorem Lc (ok:C4 P w H h)(e:Rd H a (.dT A6)):A6.length<=sizeLine/\(a == sysModules)=false/\
  ∃xs,KT H A6 xs/\h.DictOfH (tupleKind (C1 P w)) a xs:=by
 obtain⟨z,y,xs,r,o,es,ep,h1,h2,h3,h4,h5⟩:=(show Bx P w H h a (.dT A6) from jq ok e);refine⟨z,y,xs,r,o,es,ep,h1,h2,h3,h4,fun x hx=>?_,h5⟩;have all:∀{l:List (List Key×V)}{m:List (List Key×Addr×Value)},KT H l m->∀x∈m,(tupleKind (C1 P w)).is h x.1 x.2.1:=by
  intro l m q
  induction q with
  | nil=>intro x hx;exact nomatch hx
  | @cons p q ps qs hq t ih=>
   intro x hx;rcases List.mem_cons.mp hx with e | hx
   ·subst e;exact NI ok (by rw[<- hq.1];exact hq.2.1)
   ·exact ih x hx
 exact all r x hx
theorem ZA7 (ok:C4 P w H h)(e:H a=some (.dT A6)):A6.length<=sizeLine/\(a == sysModules)=false/\
  ∃xs,KT H A6 xs/\h.DictOfH (tupleKind (C1 P w)) a xs:=Lc ok (.inl e)
end
def FE (H:Hp)(a:Addr)(y:V)(r:Option V):Prop:=
 (∃A6 k,Rd H a (.dK A6)/\y=kV k/\r=DX A6 k)∨∃A6 k b,Rd H a (.dT A6)/\y=.ref b/\H b=some (.tup (k.map kV))/\r=DX A6 k
def OF (H:Hp)(a:Addr)(y v:V)(H':Hp):Prop:=
 (∃A6 k,H a=some (.dK A6)/\y=kV k/\A6.length<sizeLine/\H'=upd H a (.dK (putK A6 k v)))∨
 ∃A6 k b,H a=some (.dT A6)/\y=.ref b/\H b=some (.tup (k.map kV))/\A6.length<sizeLine/\H'=upd H a (.dT (putK A6 k v))
theorem FE.k {A6:List (Key×V)}{k:Key}(e:H a=some (.dK A6)):FE H a (kV k) (DX A6 k):=.inl ⟨A6,k,.inl e,rfl,rfl⟩
theorem OF.k {A6:List (Key×V)}{k:Key}(e:H a=some (.dK A6))(hl:A6.length<sizeLine):OF H a (kV k) v (upd H a (.dK (putK A6 k v))):=.inl ⟨A6,k,e,rfl,hl,rfl⟩
section
variable {r:Value}
theorem Inv.big (I:Inv X pins σ H s):sysModules<s.heap.objs.size:=by
 have h:mainGlobals<s.heap.objs.size:=(I.mod.glob.keeps I.bk).lt;exact Nat.lt_trans (by decide) h
theorem ZEr (hu:A.units+1<cLine)(I:Inv X pins σ H s)(g:FE H a y (some v))(ry:RelV y u)(h:∀w' s',Inv X pins σ H s'->RelV v w'->Q w' s'):
  wpAny (model X.prog X.w) A (getItem (.ref a) u) Q E s:=by
 rcases g with⟨A6,k,e,ey,l⟩|⟨A6,k,b,e,ey,eb,l⟩
 ·subst ey;obtain⟨z,hd,vs,rel,dd⟩:=HW I.AK e;obtain⟨w',hw,FY⟩:=EK.some_of (v:=v) (o:=valueAt vs k) (by rw[l];exact rel.val k);exact wpAny_getItem_of (Jt ry) dd.mapOf hw (h w' _ (I.tok _) FY)
 ·subst ey;cases(show u=Value.ref b from ry);obtain⟨z,hd,xs,rel,dd⟩:=Lc I.AK e;obtain⟨w',hw,FY⟩:=EK.some_of (v:=v) (o:=(atKey xs k).map (·.2)) (by rw[l];exact rel.val k)
  obtain⟨p,hp,Pl⟩:=Option.map_eq_some_iff.mp hw;refine wpAny_getItem_heap (ZAB hu) (NI I.AK eb) dd hp ?_;rw[Pl];exact h w' _ (I.tok _) FY
theorem ZBb (hu:A.units+1<cLine)(I:Inv X pins σ H s)(g:FE H a y o)(ry:RelV y u)(h:∀s',Inv X pins σ H s'->Q (.bool o.isSome) s'):
  wpAny (model X.prog X.w) A (compareOp .In u (.ref a)) Q E s:=by
 rcases g with⟨A6,k,e,ey,l⟩|⟨A6,k,b,e,ey,eb,l⟩
 ·subst ey;obtain⟨z,hd,vs,rel,dd⟩:=HW I.AK e;refine wpAny_in_of (Jt ry) hd dd.mapOf ?_;rw[<- (rel.val k).Oo,<- l];exact h _ (I.tok _)
 ·subst ey;cases(show u=Value.ref b from ry);obtain⟨z,hd,xs,rel,dd⟩:=Lc I.AK e;refine wpAny_in_heap (ZAB hu) (NI I.AK eb) hd dd ?_;have q:=(rel.val k).Oo;rw[Zi] at q;rw[<- q,<- l];exact h _ (I.tok _)
theorem ZC6 (hu:A.units+1<cLine)(I:Inv X pins σ H s)(g:FE H a y o)(ry:RelV y u)(h:∀s',Inv X pins σ H s'->Q (.bool (!o.isSome)) s'):
  wpAny (model X.prog X.w) A (compareOp .NotIn u (.ref a)) Q E s:=by
 rcases g with⟨A6,k,e,ey,l⟩|⟨A6,k,b,e,ey,eb,l⟩
 ·subst ey;obtain⟨z,hd,vs,rel,dd⟩:=HW I.AK e;refine wpAny_notIn_of (Jt ry) hd dd.mapOf ?_;rw[<- (rel.val k).Oo,<- l];exact h _ (I.tok _)
 ·subst ey;cases(show u=Value.ref b from ry);obtain⟨z,hd,xs,rel,dd⟩:=Lc I.AK e;refine wpAny_notIn_heap (ZAB hu) (NI I.AK eb) hd dd ?_;have q:=(rel.val k).Oo;rw[Zi] at q;rw[<- q,<- l];exact h _ (I.tok _)
theorem RY {ob:HO}(I:Inv X pins σ H s)(mu:My (H a))(hs:Heap.SameBut a s.heap h')(he:∃q,h'.get? a=some q)(new:Bx X.prog X.w (upd H a ob) h' a ob):
  Inv X pins σ (upd H a ob) { s with heap:=h',toks:=t' }:=
 I.write (x:=a) (e:=a) mu (.inl rfl) (fun b q hb z=>(hs.2 b hb).trans z) he new
theorem Yw {P:Program}{A6:List (Key×V)}{vs:List (Key×Value)}(z:A6.length<=sizeLine)(hd:(a == sysModules)=false)(rel:KV A6 vs)(dd:h'.DictOf (C1 P w) a vs):
  Bx P w H' h' a (.dK A6):=⟨z,hd,vs,rel,dd⟩
theorem ZAF {Q:Unit->Shared->Prop}(hu:A.units+1<cLine)(I:Inv X pins σ H s)(g:OF H a y v H')(ry:RelV y u)(rv:RelV v r)(h:∀s',Inv X pins σ H' s'->Q () s'):
  wpAny (model X.prog X.w) A (setItem (.ref a) u r) Q E s:=by
 rcases g with⟨A6,k,e,ey,l,eH⟩|⟨A6,k,b,e,ey,eb,l,eH⟩
 ·subst ey eH;obtain⟨z,hd,vs,rel,dd⟩:=WR I.AK e;have hz:vs.length<=sizeLine:=by rw[<- rel.length];exact z
  have hl:(putK A6 k v).length<=sizeLine:=by have:=YB A6 k v;omega
  refine wpAny_setItem_pairs (hsz:=hz) (Jt ry) dd fun h' HK hs=>h _ ?_;have he:∃q,h'.get? a=some q:=let ⟨q,_,_,hq,_⟩:=HK;⟨q,hq⟩;exact RY I (by rw[e];exact True.intro) hs he (Yw hl hd (rel.put k rv) HK)
 ·subst ey eH;cases(show u=Value.ref b from ry);obtain⟨z,hd,xs,rel,dd⟩:=ZA7 I.AK e;have hz:xs.length<=sizeLine:=by rw[<- lh rel];exact z
  have hl:(putK A6 k v).length<=sizeLine:=by have:=YB A6 k v;omega
  refine wpAny_setItem_heap (hsz:=hz) (ZAB hu) (NI I.AK eb) dd fun h' HK hs=>h _ ?_;obtain⟨q,es,ep,hq,h2,h3,h4,_,h5⟩:=HK;refine RY I (by rw[e];exact True.intro) hs ⟨q,hq⟩ ⟨hl,hd,_,(rel.put k eb rv).keeps fun c ys ec=>?_,q,es,ep,hq,h2,h3,h4,h5⟩;rw[Ad (oX ec e (fun z=>nomatch z))];exact ec
variable {A6:List (Key×V)}{k:Key}
theorem nj {more:List Value}(I:Inv X pins σ H s)(e:H a=some (.dK A6))(ry:RelV (kV k) u)(l:DX A6 k=some v)(hm:more=[]∨∃x,more=[x])
  (h:∀w' s',Inv X pins σ (upd H a (.dK (Jc A6 k))) s'->RelV v w'->Q w' s'):wpAny (model X.prog X.w) A (call (.builtin "dict.pop") (.ref a::u::more)) Q E s:=by
 obtain⟨z,hd,vs,rel,dd⟩:=WR I.AK e;obtain⟨w',hw,FY⟩:=EK.some_of (v:=v) (o:=valueAt vs k) (by rw[<- l];exact rel.val k);have hp:(keyPart u).isSome=true:=by
  cases k with
  | inl i=>obtain⟨t,q⟩:=(show ∃t,u=Value.int i t from ry);subst q;rfl
  | inr x=>obtain⟨t,q⟩:=(show ∃t,u=Value.str x t from ry);subst q;rfl
 have ha:argsOk "dict.pop" ⟨.ref a::u::more,[]⟩:=by
  rcases hm with q | ⟨x,q⟩
  ·subst q;exact PySem.F.args_dict_pop_2 _ _
  ·subst q;exact PySem.F.args_dict_pop_3 _ _ _
 refine call_meetsIn ZGT dd.typeIs PySem.F.entry_dict_pop ha (meets_dict_pop_there (C1 X.prog X.w) a (Jt ry) more hm hp)
  ⟨vs,w',dd,by rw[<- rel.length];exact z,hw,fun h' HK hs=>h w' _ ?_ FY⟩
 have he:∃q,h'.get? a=some q:=let ⟨q,_,_,hq,_⟩:=HK;⟨q,hq⟩;exact RY I (by rw[e];exact True.intro) hs he (Yw (CZ (pM A6 k) z) hd (rel.drop k) HK)
theorem si (I:Inv X pins σ H s)(e:Rd H a (.dK A6))(h:∀t s',Inv X pins σ H s'->Q (.int A6.length t) s'):wpAny (model X.prog X.w) A (call (.builtin "len") [.ref a]) Q E s:=by
 obtain⟨z,hd,vs,rel,dd⟩:=HW I.AK e;refine call_len_dict hd dd (by rw[<- rel.length];rw[ZAi] at z;omega) ?_;rw[<- rel.length];exact h _ _ (I.tok _)
end
def Ts (i:Expr):Prop:=∀ov iv,subscripted i false ov iv=operate [ov,iv] (getItem ov iv)
theorem zV {slice:Expr}{T id:String}
  (hl:typeLookup (.type T) "__getitem__"=pure (some (.builtin id))) (hs:Ts slice)
  (h:wpAny (model prog w) A (eval value env) (fun o s₁=>wpAny (model prog w) A (eval slice env) (fun i s₂=>s₂.TypeIs o T/\wpAny (model prog w) A (getItem o i) Q E s₂) E s₁) E s) :
  wpAny (model prog w) A (eval (.Subscript value slice pos) env) Q E s:=by
 refine Subscript_ (rJ h (fun o s₁ h₁=>rJ h₁ (fun i s₂ h₂=>?_) fun _ _ x=>x) fun _ _ x=>x);obtain⟨hT,h₂⟩:=h₂;unfold subscriptTail;refine mG ?_;rw[getitemInPython_of_ne hT.not_modules];refine mG (yg hT hl ?_);have fin:wpAny (model prog w) A (subscripted slice false o i) (fun r s₃=>wpAny (model prog w) A (letTemporaryGo value o r >>= fun _=>pure r) Q E s₃) E s₂:=by
  rw[hs o i];exact wpAny_operating (rJ h₂ (fun r s₃ h₃=>mG (wpAny_letTemporaryGo (mf h₃))) fun _ _ x=>x)
 first
  | exact mf (mG fin)
  | exact mG (mf (mG fin))
  | exact mG fin
theorem tM (I:Inv X pins σ H s)(g:FE H a y o):s.TypeIs (.ref a) "dict" := by
 rcases g with⟨A6,k,e,_,_⟩|⟨A6,k,b,e,_,_,_⟩
 ·obtain⟨_,_,vs,_,dd⟩:=HW I.AK e;exact dd.typeIs
 ·obtain⟨_,_,xs,_,dd⟩:=Lc I.AK e;exact dd.typeIs
def Gu (td ty:TE):TE:=fun σ H Q=>td σ H fun x H1=>ty σ H1 fun y H2=>∃a v,x=.ref a/\FE H2 a y (some v)/\Q v H2
def W4 (ty td:TE):TE:=fun σ H Q=>ty σ H fun y H1=>td σ H1 fun x H2=>∃a o,x=.ref a/\FE H2 a y o/\Q (.bl o.isSome) H2
def YI (ty td:TE):TE:=fun σ H Q=>ty σ H fun y H1=>td σ H1 fun x H2=>∃a o,x=.ref a/\FE H2 a y o/\Q (.bl (!o.isSome)) H2
def XI (td ty tv:TE):TS:=fun D σ H=>tv σ H fun v H1=>td σ H1 fun x H2=>ty σ H2 fun y H3=>∃a H4,x=.ref a/\OF H3 a y v H4/\D.nx σ H4
section
variable {o i:Expr}{pos' YT:Pos}{ty:TE}
theorem ZBF (hu:X.A.units+1<cLine)(hi:PE X i ty)(ho:PE X o td):PC X .In i o (W4 ty td):=by
 intro pins s σ H Q I h;refine AS (hi pins s σ H _ I h) fun iv s1 ⟨y,H1,I1,ry,q1⟩=>AS (ho pins s1 σ H1 _ I1 q1) fun u s2 ⟨x,H2,I2,rx,a,ov,ex,g,q2⟩=>?_;subst ex;obtain rfl:u=Value.ref a:=rx;exact ZBb hu I2 g ry fun s3 I3=>⟨.bl ov.isSome,H2,I3,rfl,q2⟩
theorem ZBL (hu:X.A.units+1<cLine)(hi:PE X i ty)(ho:PE X o td):PC X .NotIn i o (YI ty td):=by
 intro pins s σ H Q I h;refine AS (hi pins s σ H _ I h) fun iv s1 ⟨y,H1,I1,ry,q1⟩=>AS (ho pins s1 σ H1 _ I1 q1) fun u s2 ⟨x,H2,I2,rx,a,ov,ex,g,q2⟩=>?_;subst ex;obtain rfl:u=Value.ref a:=rx;exact ZC6 hu I2 g ry fun s3 I3=>⟨.bl (!ov.isSome),H2,I3,rfl,q2⟩
end
theorem ja {P:Program}(h:Heap)(hb:sysModules<h.objs.size):Bx P w H (h.push { cls:=.type "dict", data:=.dict #[] }) h.objs.size (.dK []):=
 ⟨CH _,beq_eq_false_iff_ne.mpr (BP (BJ hb)),[],.nil,Heap.DictOf.new h⟩
def WA:TE:=fun _ H Q=>∀p,H p=none->Q (.ref p) (upd H p (.dK []))
def Uv:List (TE×TE)->St->Hp->(List (V×V)->Hp->Prop)->Prop
 | [],_,H,Q=>Q [] H
 | (tk,tv)::r,σ,H,Q=>tk σ H fun x H1=>tv σ H1 fun y H2=>Uv r σ H2 fun ps H3=>Q ((x,y)::ps) H3
abbrev VV:List (V×V)->List (Value×Value)->Prop:=Paired fun p q=>RelV p.1 q.1/\RelV p.2 q.2
def Jd (X:Cx)(pos:Pos)(keys:List (Option Expr))(values:List Expr)(Es:List (TE×TE)):Prop:=
 ∀(pins:ZHQ) (s:Shared) (σ:St) (H:Hp) (Q:List (V×V)->Hp->Prop),Inv X pins σ H s->Uv Es σ H Q->
  wpAny (model X.prog X.w) X.A (evalPairs (pairTrees keys values X.env pos)) (fun vs s'=>∃ps H',Inv X pins σ H' s'/\VV ps vs/\Q ps H') X.xe s
theorem tV:Jd X pos [] [] []:=fun pins s σ H Q I h=>pairTrees_nil_walk ⟨[],H,I,.nil,h⟩
theorem xf {k v:Expr}{ks:List (Option Expr)}{vs:List Expr}{tk:TE}{Es:List (TE×TE)}(hk:PE X k tk)(hv:PE X v tv)(hr:Jd X pos ks vs Es):
  Jd X pos (some k::ks) (v::vs) ((tk,tv)::Es):=fun pins s σ H Q I h=>
 pairTrees_cons_walk (AS (hk pins s σ H _ I h) fun u s1 ⟨x,H1,I1,rx,q1⟩=>AS (hv pins s1 σ H1 _ I1 q1) fun w2 s2 ⟨y,H2,I2,ry,q2⟩=>
  AS (hr pins s2 σ H2 _ I2 q2) fun ws s3 ⟨ps,H3,I3,rel,q3⟩=>⟨(x,y)::ps,H3,I3,.cons ⟨rx,ry⟩ rel,q3⟩)
def JU (A6 more:List (Key×V)):List (Key×V):=more.foldl (fun acc kv=>putK acc kv.1 kv.2) A6
theorem KV.merge:∀{more:List (Key×V)}{rs:List (Key×Value)}{A6:List (Key×V)}{vs:List (Key×Value)},KV more rs->KV A6 vs->KV (JU A6 more) (merged vs rs):=by
 intro more rs A6 vs r;unfold KV at r
 induction r generalizing A6 vs with
 | nil=>intro q;exact q
 | @cons p q ps qs h t ih=>
  intro r0;have e:KV (putK A6 p.1 p.2) (stored vs q.1 q.2):=by
   have:=r0.put p.1 h.2;rw[<- h.1];exact this
  exact ih e
theorem cT:∀(more A6:List (Key×V)),(JU A6 more).length<=A6.length+more.length
 | [],A6=>by show A6.length<=A6.length+0;omega
 | p::r,A6=>by
  have h1:=cT r (putK A6 p.1 p.2);have h2:=YB A6 p.1 p.2;show(JU (putK A6 p.1 p.2) r).length<=_;rw[BH];omega
theorem aH {P:Program}{w:World}:∀{A6:List (Key×V)}{ws:List (Value×Value)},VV (A6.map fun kv=>(kV kv.1,kv.2)) ws->∃rs,Carries (C1 P w) ws rs/\KV A6 rs
 | [],_,r=>by rw[lX] at r;cases r;exact⟨[],True.intro,.nil⟩
 | p::A6,_,r=>by
  rw[Bn] at r;cases r with
  | @cons a b as bs h t=>
   obtain⟨rs,c,q⟩:=aH (P:=P) (w:=w) t;obtain⟨b1,b2⟩:=b;exact⟨(p.1,b2)::rs,⟨Jt h.1,rfl,c⟩,.cons ⟨rfl,h.2⟩ q⟩
def V3 (Es:List (TE×TE)):TE:=fun σ H Q=>∀p,H p=none->Uv Es σ (upd H p (.dK [])) fun ps H2=>H2 p=some (.dK [])/\∃A6:List (Key×V),ps=A6.map (fun kv=>(kV kv.1,kv.2))/\A6.length<=15/\Q (.ref p) (upd H2 p (.dK (JU [] A6)))
structure M1 (X:Cx) (o:Expr) (m:Str) (apos:Pos) (e:Expr) (Bj:Pos):Prop where
 base:attributeBase o m X.env (eval o X.env)=eval o X.env
 G1:((backTo Bj (starEach [e] X.env)).all (fun x=>!x.1) && (backToKw Bj (keywordEach [] X.env)).all (fun x=>x.1.isSome)
  && decide (([e]:List Expr).length+([]:List Keyword).length+(if([]:List Keyword).isEmpty then 0 else 1)<30))=true
 line:(apos.endLine == Bj.line)=true
 trees:backTo Bj (starEach [e] X.env)=[(false,eval e X.env)]
def gN (H:Hp)(a:Addr):Prop:=(∃A6,Rd H a (.dK A6))∨∃A6,Rd H a (.dT A6)
theorem oN (I:Inv X pins σ H s)(d:gN H a):
  s.TypeIs (.ref a) "dict" /\ (∀b,Value.ref a=.ref b->∃ob,s.heap.get? b=some ob/\ob.dict=none)/\(a == sysModules)=false:=by
 rcases d with⟨A6,e⟩|⟨A6,e⟩
 ·obtain⟨_,hd,vs,_,dd⟩:=HW I.AK e;refine⟨dd.typeIs,fun b q=>?_,hd⟩;cases q;obtain⟨ob,_,_,h1,h2,_⟩:=dd;exact⟨ob,h1,h2.2.1⟩
 ·obtain⟨_,hd,xs,_,dd⟩:=Lc I.AK e;refine⟨dd.typeIs,fun b q=>?_,hd⟩;cases q;obtain⟨ob,_,_,h1,h2,_⟩:=dd;exact⟨ob,h1,h2.2.1⟩
def X5 (td ty:TE):TE:=fun σ H Q=>td σ H fun x H1=>∃a,x=.ref a/\gN H1 a/\ty σ H1 fun y H2=>∃A6 k v,H2 a=some (.dK A6)/\y=kV k/\DX A6 k=some v/\Q v (upd H2 a (.dK (Jc A6 k)))
theorem vt {β:Type}{l:List α}{f:α->β->Sem (ForInStep β)}(g:β->α->β)(h:∀x∈l,∀c,f x c=pure (.yield (g c x))):∀c,forIn l c f=pure (l.foldl g c):=by
 induction l with
 | nil=>intro c;rfl
 | cons x l ih=>
  intro c;rw[List.forIn_cons,h x DC,pure_bind];exact ih (fun y hy=>h y (DZ _ hy)) (g c x)
def Ke (cells:List (Str×Addr))(cs:List (Str×Addr))(x:Str×NameKind):List (Str×Addr):=
 if x.2=.free then(x.1,(cells.lookup x.1).getD 0)::cs else cs
def CP (cells:List (Str×Addr))(names:List (Str×NameKind)):List (Str×Addr):=names.foldl (Ke cells) []
theorem ZDm (h:∀x∈scope.names,x.2=.free->(env.cells.lookup x.1).isSome=true):closureFor scope env=pure (CP env.cells scope.names):=by
 simp only[closureFor];rw[vt (Ke env.cells) (fun x hx c=>by
  obtain⟨n,k⟩:=x;unfold Ke
  by_cases hk:k=NameKind.free
  ·subst hk;have q:=h _ hx rfl;obtain⟨a,ha⟩:=Option.isSome_iff_exists.mp q;have KP:env.cells.lookup n=some a:=ha;have hc:cellOf env n=pure a:=by unfold cellOf;rw[KP]
   simp[hc,KP]
  ·have:(k == NameKind.free)=false:=by simpa using hk
   simp[this,hk])]
 rfl
theorem df {cells:List (Str×Addr)}:∀(names:List (Str×NameKind)) (acc:List (Str×Addr)),(∀y∈names,y.2=.free->(cells.lookup y.1).isSome=true)->
  (∀x c,acc.lookup x=some c->cells.lookup x=some c)->∀x c,(names.foldl (Ke cells) acc).lookup x=some c->cells.lookup x=some c
 | [],acc,_,ha,x,c,e=>ha x c e
 | (n,k)::r,acc,hs,ha,x,c,e=>by
  rw[ZU] at e;refine df r _ (fun y hy=>hs y (DZ _ hy)) (fun x c e=>?_) x c e;unfold Ke at e
  by_cases hk:k=NameKind.free
  ·rw[pR hk] at e;have q:=hs _ DC hk;obtain⟨a,q⟩:=Option.isSome_iff_exists.mp q;have q':cells.lookup n=some a:=q;rw[Gw] at e
   by_cases hx:x=n
   ·subst hx;simp only[u9,q',ZGP] at e;rw[q',<- e]
   ·have hb:(x == n)=false:=by simpa using hx
    rw[hb] at e;exact ha x c e
  ·rw[nr hk] at e;exact ha x c e
theorem Z1 {cells:List (Str×Addr)}{x:Str}:∀(names:List (Str×NameKind)) (acc:List (Str×Addr)),((acc.lookup x).isSome=true∨(x,NameKind.free)∈names)->
  ((names.foldl (Ke cells) acc).lookup x).isSome=true
 | [],acc,h=>by
  rcases h with h | h
  ·exact h
  ·cases h
 | (n,k)::r,acc,h=>by
  rw[ZU];refine Z1 r _ ?_;unfold Ke;rcases h with h | h
  ·refine .inl ?_;split
   ·rw[Gw];split
    ·rfl
    ·exact h
   ·exact h
  ·rcases List.mem_cons.mp h with e | h
   ·cases e;refine .inl ?_;rw[pR rfl,Gw];simp
   ·exact .inr h
theorem Qv {env:Env}:∀(names:List (Str×NameKind)) (x:Str),
  (names.map fun(n,k)=>if(k == NameKind.free && env.scope.kind == .function && env.kindOf n == some .cell) then(n,NameKind.cell) else(n,k)).lookup x =
   (names.lookup x).map fun k=>if(k == NameKind.free && env.scope.kind == .function && env.kindOf x == some .cell) then NameKind.cell else k
 | [],x=>rfl
 | (n,k)::r,x=>by
  have ih:=Qv (env:=env) r x;rw[Bn]
  by_cases hc:(k == NameKind.free && env.scope.kind == .function && env.kindOf n == some .cell)=true
  ·show List.lookup x ((if(k == NameKind.free && env.scope.kind == .function && env.kindOf n == some .cell)=true then(n,NameKind.cell) else(n,k))::_)=_
   rw[pR hc,Gw,Gw]
   by_cases hx:x=n
   ·subst hx;simp only[u9,Su];rw[pR hc]
   ·have hb:(x == n)=false:=by simpa using hx
    rw[hb];exact ih
  ·show List.lookup x ((if(k == NameKind.free && env.scope.kind == .function && env.kindOf n == some .cell)=true then(n,NameKind.cell) else(n,k))::_)=_
   rw[nr hc,Gw,Gw]
   by_cases hx:x=n
   ·subst hx;simp only[u9,Su];rw[nr hc]
   ·have hb:(x == n)=false:=by simpa using hx
    rw[hb];exact ih
abbrev Ja (X:Cx)(N:List Str)(scope:Scope)(cl:List (Str×Addr))(C:Addr)(s:Shared)(H:Hp)(fp:List Addr):Cx:=
 { X with N:=N,s₀:=s,H₀:=H,env:=compEnvC scope cl C X.env,outer:=X.stack,ex:=fp,fn:=fun _=>false,pn:=[],xe:=fun _ _=>False }
def Bb (js:List Nat)(σ:St):St:=js.map fun j=>(σ[j]?).join
structure Cw (N:List Str) (outer scope:Scope) (x:Str) (Ah:List Str) (js:List Nat):Prop where
 kind:scope.kind=.function
 OP:∀y∈scope.names,y.2≠.cell
 loc:∀y∈scope.names,y.2=.local->scope.names.lookup y.1=some .local
 jk:scope.names.lookup x=some .local
 at':js.map (fun j=>N[j]?)=Ah.map some
 cell:∀y∈Ah,outer.names.lookup y=some .cell
 free:∀y∈Ah,scope.names.lookup y=some .free
 all:∀y∈scope.names,y.2=.free->outer.names.lookup y.1=some .cell
 nd:(Ah++[x]).Nodup
def IZ (X:Cx)(ifs:List Expr)(t:TT):Prop:=
 ∀(pins:ZHQ) (s:Shared) (σ:St) (H:Hp) (Q:Bool->Hp->Prop),Inv X pins σ H s->t σ H Q->
  wpAny (model X.prog X.w) X.A (forIn ifs true fun c r=>if r=true then do let ok <- isTrue c X.env (eval c X.env);pure (ForInStep.yield ok) else pure (ForInStep.yield r)) (TP X pins σ Q) X.xe s
def ML:TT:=fun _ H Q=>Q true H
theorem ZBK {t:TT}(hc:PT X c t):IZ X [c] t:=fun pins s σ H Q I h=>by
 rw[List.forIn_cons];refine mG ?_;rw[pR rfl];refine mG (AS (hc pins s σ H Q I h) fun b s1 q=>mf ?_);show wpAny _ _ (forIn [] b _) _ _ s1;rw[lO];exact mf q
def KW (J:It)(js:List Nat)(tt:TT)(te:TE)(σ:St)(H1:Hp)(acc:Addr)(Q:VK):Prop:=
 ∃W:Nat->Nat->Hp->Prop,(∃m,W 0 m (upd H1 acc (.lst [])))/\∀i m H2,W i m H2->
  (J.stop i H2/\Q (.ref acc) H2)∨(J.go i H2/\∀x H3,J.Fx i H2 x H3->tt (Bb js σ++[some x]) H3 fun b H4=>
   if b=true then te (Bb js σ++[some x]) H4 fun y H5=>∃ys,H5 acc=some (.lst ys)/\ys.length<sizeLine/\∃m',m' < m/\W (i+1) m' (upd H5 acc (.lst (ys++[y])))
   else ∃m',m' < m/\W (i+1) m' H4)
def Jk (wi:TI)(js:List Nat)(tt:TT)(te:TE):TE:=fun σ H Q=>wi σ H fun J H1=>∀acc,H1 acc=none->KW J js tt te σ H1 acc Q
theorem ZEl (l:List α)(a b:α):(l++[a]).set l.length b=l++[b]:=by
 induction l with
 | nil=>rfl
 | cons x l ih=>simp[ih]
def HV:Option Str->Addr->List (Str×Addr)
 | none,_=>[]
 | some x,n=>[(x,n)]
def Rv:Option Str->Heap->Heap
 | none,h=>h
 | some _,h=>h.push { cls:=.type "cell", data:=.cell none }
structure G8 (N:List Str) (outer scope:Scope) (ce:Option Str) (zs Ah:List Str) (js:List Nat):Prop where
 kind:scope.kind=.function
 loc:∀y∈scope.names,y.2=.local->scope.names.lookup y.1=some .local
 one:∀y∈scope.names,y.2=.cell->ce=some y.1
 sub:∀x,ce=some x->x∈zs
 cf:∀(n:Nat) (cl:List (Str×Addr)),cellsFrom n scope.names cl=HV ce n++cl
 pc:∀h:Heap,pushCells h scope.names=Rv ce h
 at':js.map (fun j=>N[j]?)=Ah.map some
 cell:∀y∈Ah,outer.names.lookup y=some .cell
 free:∀y∈Ah,scope.names.lookup y=some .free
 all:∀y∈scope.names,y.2=.free->outer.names.lookup y.1=some .cell
 nd:(Ah++zs).Nodup
abbrev Fy (X:Cx)(N:List Str)(scope:Scope)(ce:Option Str)(cl:List (Str×Addr))(C:Addr)(s:Shared)(H:Hp)(fp:List Addr):Cx:=
 { X with N:=N,s₀:=s,H₀:=H,env:=compEnvC scope (HV ce (C+1)++cl) C X.env,outer:=X.stack,ex:=fp,fn:=fun y=>ce == some y,pn:=[],xe:=fun _ _=>False }
theorem mm {M:Model}{globals:Addr}{func:Option Addr}{code:Value}{outer:Env}{Q:Env->Shared->Prop}
  (cf:∀(n:Nat) (cl:List (Str×Addr)),cellsFrom n scope.names cl=HV ce n++cl) (pc:∀h:Heap,pushCells h scope.names=Rv ce h)
  (hQ:Q (newEnv scope s.heap.objs.size globals (HV ce (s.heap.objs.size+1)++closure) qual func code (some outer) builtinsNs) { s with heap:=Rv ce (s.heap.push { cls:=.type "dict", data:=.dict #[] }) }) :
  wpAny M A (newFunctionEnv scope globals closure [] qual func code (some outer)) Q E s:=by
 simp only[newFunctionEnv,ZGQ,ZAp];refine mG (wpAny_alloc ?_);refine mG (wpAny_layCells _ (fun name kind cells=>by cases Xm:kind == NameKind.cell <;> simp[Xm]) _ _ _ _ ?_)
 rw[cf,pc];rw[show({ s with heap:=s.heap.push { cls:=.type "dict", data:=.dict #[] } }:Shared).heap.objs.size=s.heap.objs.size+1 from Dl ..]
 refine mG ?_;rw[lO];exact mf (mf hQ)
theorem uJ {y:Str}{c:Addr}(h:(HV ce n++cl).lookup y=some c):(ce=some y/\c=n)∨(ce≠some y/\cl.lookup y=some c):=by
 cases ce with
 | none=>exact .inr ⟨fun z=>(by cases z),h⟩
 | some x=>
  have h:((x,n)::cl).lookup y=some c:=h;rw[Gw] at h
  by_cases e:y=x
  ·subst e;simp only[u9] at h;exact .inl ⟨rfl,(BS h).symm⟩
  ·have hb:(y == x)=false:=by simpa using e
   rw[hb] at h;exact .inr ⟨fun z=>e (BS z).symm,h⟩
theorem cm {y:Str}(h:ce≠some y):(HV ce n++cl).lookup y=cl.lookup y:=by
 cases ce with
 | none=>rfl
 | some x=>
  show((x,n)::cl).lookup y=_;have hb:(y == x)=false:=beq_eq_false_iff_ne.mpr fun z=>h (by rw[z]);rw[Gw,hb]
theorem sk:(HV (some x) n++cl).lookup x=some n:=by
 show((x,n)::cl).lookup x=_;rw[Gw,u9]
theorem ZAe {iter:Expr}{it acc:Value}(I:Nat->Shared->Prop)
  (turn:∀n s,I n s->wpAny (model prog w) A (pyNext it) (fun r s1=>match r with
   | none=>R (.ok .next) s1
   | some v=>wpAny (model prog w) A (letOwnedTupleGo tg it v) (fun _ s2=>wpAny (model prog w) A (assign tg env v) (fun _ s3=>
     wpAny (model prog w) A (forIn ifs true fun c r=>if r=true then do let ok <- isTrue c env (eval c env);pure (ForInStep.yield ok) else pure (ForInStep.yield r)) (fun ok s4=>if ok=true then
      wpAny (model prog w) A (eval elt env) (fun x s5=>wpAny (model prog w) A (call (.builtin "list.append") [acc,x]) (fun _ s6=>∃m,m<n/\I m s6) (notedBy (model prog w) A env fun e s'=>R (.error e) s') s5) (notedBy (model prog w) A env fun e s'=>R (.error e) s') s4
      else ∃m,m<n/\I m s4) (notedBy (model prog w) A env fun e s'=>R (.error e) s') s3)
     (notedBy (model prog w) A env fun e s'=>R (.error e) s') s2) (notedBy (model prog w) A env fun e s'=>R (.error e) s') s1) (notedBy (model prog w) A env fun e s'=>R (.error e) s') s)
  (n:Nat) (h:I n s):codeAny (model prog w) A (.compLoop (.ListComp elt [⟨tg,iter,ifs,0⟩] scope pos) 0 it acc env) R s:=by
 refine codeAny_loop rfl I (fun n s hI=>(show wpAny _ A ((compTurn (.ListComp elt [⟨tg,iter,ifs,0⟩] scope pos) 0 it acc env).onRaise (fun x=>do noteFrame x env;theTreesLotGoes x)) _ _ s from wpAny_noted ?_)) n h
 rw[compTurn_list];refine mG (wpAny_standAt (mG (rJ (turn n s hI) (fun r s1 q1=>?_) fun _ _ z=>z)));cases r with
 | none=>exact mf q1
 | some v=>
  refine mG (rJ q1 (fun _ s2 q2=>mG (rJ q2 (fun _ s3 q3=>mG (rJ q3 (fun ok s4 q4=>?_) fun _ _ z=>z)) fun _ _ z=>z)) fun _ _ z=>z);cases ok with
  | false=>
   rw[nr (by decide)] at q4;exact mG (mf (mf ⟨rfl,q4⟩))
  | true=>
   rw[pR rfl] at q4;exact mG (mG (rJ q4 (fun x s5 q5=>mG (rJ q5 (fun _ s6 q6=>mf (mf ⟨rfl,q6⟩)) fun _ _ z=>z)) fun _ _ z=>z))
abbrev dv (tt:TT)(te:TE)(acc:Addr)(W:Nat->Nat->Hp->Prop)(i m:Nat)(σ:St)(H:Hp):Prop:=
 tt σ H fun b H4=>if b=true then te σ H4 fun y H5=>∃ys,H5 acc=some (.lst ys)/\ys.length<sizeLine/\∃m',m' < m/\W (i+1) m' (upd H5 acc (.lst (ys++[y])))
  else ∃m',m' < m/\W (i+1) m' H4
def Qw (g:TG)(n:Nat)(J:It)(js:List Nat)(tt:TT)(te:TE)(σ:St)(H1:Hp)(acc:Addr)(Q:VK):Prop:=
 ∃W:Nat->Nat->Hp->Prop,(∃m,W 0 m (upd H1 acc (.lst [])))/\∀i m H2,W i m H2->
  (J.stop i H2/\Q (.ref acc) H2)∨(J.go i H2/\∀x H3,J.Fx i H2 x H3->∀ws,ws.length=n->g x (Bb js σ++ws) H3 fun σ8 H8=>∃us,us.length=n/\σ8=Bb js σ++us/\dv tt te acc W i m σ8 H8)
def Zo (CW:It->St->Hp->Addr->VK->Prop)(wi:TI):TE:=fun σ H Q=>wi σ H fun J H1=>∀acc,H1 acc=none->CW J σ H1 acc Q
section
variable {iter:Expr}{zs Ah:List Str}{fp:List Addr}{g:TG}
theorem ZCq (h:scope.names.lookup x=some .cell):(relabel scope env).names.lookup x=some .cell:=by
 refine(Qv (env:=env) scope.names x).trans ?_;rw[h];simp
theorem ZCS {n:Nat}(h:(List.replicate n (none:Option V))[i]?=some (some v)):False:=by
 rw[lQ] at h
 by_cases c:i<n
 ·rw[pR c] at h;cases h
 ·rw[nr c] at h;cases h
theorem mz (S:G8 X.N X.env.scope scope ce zs Ah js)(I3:Inv X pins σ H2 s2)(f2:∀b∈fp,Dy X pins H2 b)(eT:∀b∈fp,b<s2.heap.objs.size)
  {m:ZHR}(M6:h1.Ns s2.heap.objs.size m) (old:∀b o,s2.heap.get? b=some o->h1.get? b=some o) (Fg:∀x,ce=some x->h1.IsCell (s2.heap.objs.size+1) none) :
  Inv (Fy X (Ah++zs) scope ce (CP X.env.cells scope.names) s2.heap.objs.size s2 H2 fp) [] (Bb js σ++List.replicate zs.length none) H2 { s2 with heap:=h1,toks:=t' }:=by
 have uD:∀y∈scope.names,y.2=.free->(X.env.cells.lookup y.1).isSome=true:=fun y hy hk=>by
  obtain⟨c,e⟩:=I3.ok.has y.1 (.inl (S.all y hy hk));rw[e];rfl
 have eI:∀y c,(CP X.env.cells scope.names).lookup y=some c->X.env.cells.lookup y=some c:=df scope.names [] uD (fun _ _ e=>by cases e);have ke:∀y k,(relabel scope X.env).names.lookup y=some k->k=.cell∨k=.free->scope.names.lookup y=some .free∨ce=some y:=fun y k e hk=>by
  have e':=(Qv (env:=X.env) scope.names y).symm.trans e;cases q:scope.names.lookup y with
  | none=>rw[q] at e';cases e'
  | some k0=>
   rw[q] at e';cases k0 with
   | free=>exact .inl rfl
   | cell=>exact .inr (S.one _ (LH q) rfl)
   | _=>simp at e';rcases hk with rfl | rfl <;> cases e'
 have hlen:js.length=Ah.length:=by have:=uC List.length S.at';simpa using this
 have jO:∀y c,X.env.cells.lookup y=some c->c<s2.heap.objs.size:=fun y c e=>by
  obtain⟨v,o,ho,_⟩:=I3.cell y c e;exact BC ho
 have cellK:∀c v,s2.heap.IsCell c v->h1.IsCell c v:=fun c v AJ=>by obtain⟨o,ho,hd⟩:=AJ;exact⟨o,old c o ho,hd⟩
 have lk:∀y c,(HV ce (s2.heap.objs.size+1)++CP X.env.cells scope.names).lookup y=some c->(ce=some y/\c=s2.heap.objs.size+1)∨(ce≠some y/\X.env.cells.lookup y=some c):=fun y c e=>(uJ e).imp id fun z=>⟨z.1,eI y c z.2⟩;have xc:∀y∈Ah,ce≠some y:=fun y hy z=>(List.nodup_append.mp S.nd).2.2 y hy y (S.sub y z) rfl;refine⟨⟨I3.ok.mod,S.kind,I3.ok.glob,I3.ok.blt,Ao _,fun y z c e1 e2=>?_,fun y hy=>?_,fun y c hf e=>?_,I3.ok.hd,I3.ok.frames,.inl rfl,fun b hb=>⟨BJ (eT b hb),fun y c e=>?_⟩,
  fun b o e=>I3.bs b o e,CZ I3.ok.IG I3.sz,fun b o e hb=>?_,fun b hb hs=>?_,I3.stack,I3.jr⟩,rfl,I3.bare,Un.kept old,⟨m,M6,fun i y v e1 e2 e3=>?_⟩,fun y c e=>?_,I3.AK.fresh (Ao _),fun y c e=>?_,fun p hp=>(by cases hp),I3.AK.kept old,?_⟩
 ·rcases lk y c e1 with⟨a1,rfl⟩|⟨_,D8⟩
  ·rcases lk z _ e2 with⟨a2,_⟩|⟨_,Df⟩
   ·exact BS (a1.symm.trans a2)
   ·exact absurd (jO z _ Df) (ZGM (ET _))
  ·rcases lk z c e2 with⟨_,rfl⟩|⟨_,Df⟩
   ·exact absurd (jO y _ D8) (ZGM (ET _))
   ·exact I3.ok.inj y z c D8 Df
 ·have hf:scope.names.lookup y=some .free∨ce=some y:=hy.elim (fun hy=>ke y _ hy (.inl rfl)) fun hy=>ke y _ hy (.inr rfl);show ∃c,List.lookup y (HV ce (s2.heap.objs.size+1)++CP X.env.cells scope.names)=some c
  by_cases ex:ce=some y
  ·rw[ex];exact⟨_,sk⟩
  ·rw[cm ex];exact Option.isSome_iff_exists.mp (Z1 scope.names [] (.inr (LH (hf.resolve_right ex))))
 ·rcases lk y c e with⟨_,rfl⟩|⟨n1,_⟩
  ·exact ET _
  ·exact absurd (eq_of_beq hf) n1
 ·rcases lk y c e with⟨_,rfl⟩|⟨_,D8⟩
  ·exact Jq (Hn (eT b hb))
  ·exact(f2 b hb).2.2.2.2.1 y c D8
 ·rcases(f2 b hb).2.2.2.1 with z | z
  ·exact I3.ok.NF b o e z
  ·exact absurd (DO (DO (BC e) I3.ok.IG) z) (LC _)
 ·rcases List.mem_cons.mp (I3.XN b hs) with z | z
  ·exact(f2 b hb).2.1 z
  ·exact(f2 b hb).2.2.1 z
 ·have Fg:(Bb js σ).length=Ah.length:=by unfold Bb;rw[AX,hlen]
  have hi:i<Ah.length:=by
   by_cases hi:i<Ah.length
   ·exact hi
   ·have CF:(Bb js σ++List.replicate zs.length none)[i]?=some (some v):=e2;rw[Mj (by rw[Fg];omega),Fg] at CF;exact(ZCS CF).elim
  have Dw:Ah[i]?=some y:=by
   have Dw:(Ah++zs)[i]?=some y:=e1
   rwa [Im hi] at Dw
  have CF:(Bb js σ)[i]?=some (some v):=by
   have CF:(Bb js σ++List.replicate zs.length none)[i]?=some (some v):=e2
   rwa [Im (by rw[Fg];exact hi)] at CF
  have FW:y∈Ah:=DD Dw;unfold Bb at CF;rw[Az] at CF;cases hj:js[i]? with
  | none=>rw[hj] at CF;cases CF
  | some j=>
   rw[hj] at CF;have hN:X.N[j]?=some y:=by
    have q:=uC (fun l=>l[i]?) S.at';simp only[Az,hj,Dw,Su] at q;exact BS q
   have hσ:σ[j]?=some (some v):=by
    simp only[Su,Option.some.injEq] at CF;cases q:σ[j]? with
    | none=>rw[q] at CF;cases CF
    | some w=>rw[q] at CF;simp at CF;rw[CF]
   obtain⟨m0,hn0,Th⟩:=I3.loc;obtain⟨u,r,l⟩:=Th j y v hN hσ (.inr (.inl (S.cell y FW)));refine⟨u,r,?_⟩;rcases l with⟨k,_⟩|⟨_,c,e,z⟩
   ·have k':X.env.scope.names.lookup y=some .local:=k;rw[S.cell y FW] at k';cases k'
   ·have Xm:X.env.kindOf y=some .cell:=S.cell y FW;have hk:(relabel scope X.env).names.lookup y=some .cell:=by
     refine(Qv (env:=X.env) scope.names y).trans ?_;rw[S.free y FW];simp[I3.ok.kind,Xm]
    obtain⟨c',e'⟩:=Option.isSome_iff_exists.mp (Z1 (cells:=X.env.cells) scope.names [] (.inr (LH (S.free y FW))));have aa:=eI y c' e';rw[e] at aa;cases aa;exact .inr ⟨.inl hk,c,(cm (xc y FW)).trans e',cellK c _ z⟩
 ·rcases lk y c e with⟨a,rfl⟩|⟨_,D8⟩
  ·exact⟨none,Fg _ a⟩
  ·obtain⟨v,z⟩:=I3.cell y c D8;exact⟨v,cellK c v z⟩
 ·rcases lk y c e with⟨_,rfl⟩|⟨_,D8⟩
  ·exact I3.AK.fresh (ET _)
  ·exact I3.Gd y c D8
 ·show(Bb js σ++List.replicate zs.length none).length=(Ah++zs).length;unfold Bb;simp[hlen]
theorem xX (hp:Y.prog=X.prog)(hw:Y.w=X.w)(hK:Y.K=X.K)(hA:Y.A=X.A)(ot:Y.xe=fun _ _=>False)(hc:Y.calm=true)
  (hg:PG Y tg g) (Eg:IZ Y ifs tt) (Eo:PE Y elt te)
  (T:Turn X.prog X.w X.K tg J fp it tn) (oF:∀b∈fp,Y.Ok->Dy Y [] (fun _=>none) b)
  (W:Nat->Nat->Hp->Prop) (Q:VK)
  (turn:∀i m H2,W i m H2->(J.stop i H2/\Q (.ref acc) H2)∨(J.go i H2/\∀x H3,J.Fx i H2 x H3->∀ws,ws.length=n0->g x (Bb js σ++ws) H3 fun σ8 H8=>∃us,us.length=n0/\σ8=Bb js σ++us/\dv tt te acc W i m σ8 H8))
  (I4:Inv Y [] (Bb js σ++ws) H4 s4) (SK:tn 0 s4.heap) (oV:∀b∈fp,H4 b=none) (m0:Nat) (w4:W 0 m0 H4)
  (hws:ws.length=n0) (hR:∀H' s' ws,Inv Y [] (Bb js σ++ws) H' s'->Q (.ref acc) H'->R (.ok .next) s') :
  codeAny (model X.prog X.w) X.A (.compLoop (.ListComp elt [⟨tg,iter,ifs,0⟩] scope pos) 0 (.ref it) (.ref acc) Y.env) R s4:=by
 have AK:=I4.ok;have Js:∀{H':Hp},(∀b∈fp,H' b=none)->∀b∈fp,Dy Y [] H' b:=fun hn b hb=>⟨hn b hb,(oF b hb AK).2⟩;rw[<- hp,<- hw,<- hA];have no:∀{Z:Value->Shared->Prop} v s,Y.xe v s->Z v s:=fun v s z=>by rw[ot] at z;exact z.elim
 refine ZAe (fun n s'=>∃i ws H',ws.length=n0/\Inv Y [] (Bb js σ++ws) H' s'/\tn i s'.heap/\(∀b∈fp,H' b=none)/\W i n H') ?_ m0 ⟨0,ws,H4,hws,I4,SK,oV,w4⟩;rintro n s5 ⟨i,kS,H5,hw5,I5,MY,Po,w5⟩;rcases turn i n H5 w5 with⟨stop,q⟩|⟨go,step⟩
 ·have d:=T.done Y hp hw hK hc i [] s5 _ H5 (fun _ _=>False) I5 (Js Po) MY stop;rw[<- hp,<- hw] at d;refine rJ d (fun r s6 ⟨hr,I6⟩=>?_) fun _ _ z=>z.elim;subst hr;exact hR H5 s6 kS I6 q
 ·have d:=T.item Y hp hw hK hc i [] s5 _ H5 (fun _ _=>False) I5 (Js Po) MY go;rw[<- hp,<- hw] at d;refine rJ d (fun r s6 ⟨u,hr,h6⟩=>?_) fun _ _ z=>z.elim;subst hr;refine rJ h6 (fun _ s7 ⟨v,H7,I7,r7,y7,YG,qX⟩=>?_) fun _ _ z=>z.elim;have I7':=I7.pinned (Js qX) (T.obj _ _ YG);refine rJ (hg _ s7 _ H7 v u _ I7' r7 (step v H7 y7 kS hw5)) (fun _ s8 ⟨σ8,H8,I8,us,jH,e8,hte⟩=>?_) no;subst e8;have again:∀{σa:St} {Ha:Hp}{sa:Shared},Inv Y ([]++N8 fp s7.heap) σa Ha sa->tn (i+1) sa.heap/\(∀b∈fp,Ha b=none):=fun {σa Ha sa} Ia=>by
   refine⟨T.keep _ _ _ YG fun b hb o e=>(Ia.pin (b,o) (Ef _ (Ef _ (QY hb e)))).1,fun b hb=>?_⟩;obtain⟨o,e,d⟩:=T.obj _ _ YG b hb;exact(Ia.pin (b,o) (Ef _ (Ef _ (QY hb e)))).2.1
  refine rJ (Eg _ s8 _ H8 _ I8 hte) (fun b s9 ⟨H9,I9,q9⟩=>?_) no;cases b with
  | false=>
   have q9':∃m',m' < n/\W (i+1) m' H9:=q9;obtain⟨m',hm,w9⟩:=q9';rw[nr (by decide)];exact⟨m',hm,i+1,_,H9,jH,I9.Oj,(again I9).1,(again I9).2,w9⟩
  | true=>
   rw[pR rfl];rw[pR rfl] at q9;refine rJ (Eo _ s9 _ H9 _ I9 q9) (fun yv s10 ⟨y,eM,I10,r10,ys,Ax,hz,m',hm,zr⟩=>?_) no;refine rJ (bB (X:=Y) _ s10 _ eM (.ref acc) [y] (.ref acc) [yv] (fun _ cU=>cU=upd eM acc (.lst (ys++[y]))) I10 rfl (.cons r10 .nil) ⟨acc,ys,y,rfl,rfl,Ax,hz,rfl⟩)
    (fun _ s11 ⟨_,cU,Wj,_,rB⟩=>?_) no
   subst rB;exact⟨m',hm,i+1,_,_,jH,Wj.Oj,(again Wj).1,(again Wj).2,zr⟩
theorem fu {RR:Value->Addr->Result->Shared->Prop}(hc:X.calm=true)(S:G8 X.N X.env.scope scope ce zs Ah js)
  (hg:∀C s H,PG (Fy X (Ah++zs) scope ce (CP X.env.cells scope.names) C s H fp) tg g)
  (Eg:∀C s H,IZ (Fy X (Ah++zs) scope ce (CP X.env.cells scope.names) C s H fp) ifs tt) (Eo:∀C s H,PE (Fy X (Ah++zs) scope ce (CP X.env.cells scope.names) C s H fp) elt te)
  (T:Turn X.prog X.w X.K tg J fp it tn) (I2:Inv X pins σ H2 s2) (FC:tn 0 s2.heap) (f2:∀b∈fp,Dy X pins H2 b) (Q:VK) (hW:∀acc,H2 acc=none->Qw g zs.length J js tt te σ H2 acc Q)
  (qP:∀acc C H' s' m,Inv X pins σ H' s'->Dy X pins H' C->s'.heap.Ns C m->Q (.ref acc) H'->RR (.ref acc) C (.ok .next) s') :
  wpAny (model X.prog X.w) X.A (newList []) (fun acc s3=>wpAny (model X.prog X.w) X.A (newFunctionEnv scope X.env.globals (CP X.env.cells scope.names) [] X.env.qual none .none (some X.env)) (fun bM s4=>
   codeAny (model X.prog X.w) X.A (.compStart (.ListComp elt [⟨tg,iter,ifs,0⟩] scope pos) 0 (.ref it) acc { bM with scope:=relabel scope X.env }) (RR acc bM.locals) s4) E s3) E s2:=by
 refine qS (mm S.cf S.pc ?_);have I3:Inv X pins σ (upd H2 s2.heap.objs.size (.lst [])) { s2 with heap:=s2.heap.push { cls:=.type "list", data:=.seq ([]:List Value).toArray } }:=I2.dO (t':=s2.toks) .nil (CH _)
 have AW:∀b∈fp,b<s2.heap.objs.size:=fun b hb=>by
  obtain⟨o,e,_⟩:=T.obj _ _ FC b hb;exact BC e
 have hsz:(s2.heap.push { cls:=.type "list", data:=.seq ([]:List Value).toArray }).objs.size=s2.heap.objs.size+1:=Dl ..;have f3:∀b∈fp,Dy X pins (upd H2 s2.heap.objs.size (.lst [])) b:=fun b hb=>⟨by rw[Ad (BJ (AW b hb))];exact(f2 b hb).1,(f2 b hb).2⟩;generalize xS:({ s2 with heap:=s2.heap.push { cls:=.type "list", data:=.seq ([]:List Value).toArray } }:Shared)=s3 at I3 ⊢
 have fV:s3.heap=s2.heap.push { cls:=.type "list", data:=.seq ([]:List Value).toArray }:=by rw[<- xS]
 have ZEo:∀b∈fp,b<s3.heap.objs.size:=fun b hb=>by rw[fV,hsz];exact Hn (AW b hb)
 generalize bN:Rv ce (s3.heap.push { cls:=.type "dict", data:=.dict #[] })=h1;have jl:∀b o,(s3.heap.push { cls:=.type "dict", data:=.dict #[] }).get? b=some o->h1.get? b=some o:=fun b o e=>by
  rw[<- bN];cases ce with
  | none=>exact e
  | some _=>exact BE _ e
 have old:∀b o,s3.heap.get? b=some o->h1.get? b=some o:=fun b o e=>jl b o (BE _ e);have wN:∀b o,s2.heap.get? b=some o->h1.get? b=some o:=fun b o e=>old b o (by rw[fV];exact BE _ e);have M6:h1.Ns s3.heap.objs.size (fun _=>none):=(Heap.Ns.new s3.heap (.type "dict")).keeps jl;have Fg:∀x,ce=some x->h1.IsCell (s3.heap.objs.size+1) none:=fun x hx=>by
  subst hx;rw[<- bN];have e:(s3.heap.push { cls:=.type "dict", data:=.dict #[] }).objs.size=s3.heap.objs.size+1:=Dl ..;exact⟨_,by rw[<- e];exact BR _ rfl,rfl⟩
 have I4:=mz S I3 f3 ZEo M6 old Fg (t':=s3.toks);have SK:tn 0 h1:=T.keep _ _ _ FC fun b _ o e=>wN b o e;obtain⟨W,⟨m0,w0⟩,turn⟩:=hW s2.heap.objs.size (I2.AK.fresh (Ao _));have loop:codeAny (model X.prog X.w) X.A (.compLoop (.ListComp elt [⟨tg,iter,ifs,0⟩] scope pos) 0 (.ref it) (.ref s2.heap.objs.size) (compEnvC scope (HV ce (s3.heap.objs.size+1)++CP X.env.cells scope.names) s3.heap.objs.size X.env))
   (RR (.ref s2.heap.objs.size) s3.heap.objs.size) { s3 with heap:=h1 }:=by
  refine xX (X:=X) (Y:=Fy X (Ah++zs) scope ce (CP X.env.cells scope.names) s3.heap.objs.size s3 (upd H2 s2.heap.objs.size (.lst [])) fp) (acc:=s2.heap.objs.size) (Q:=Q) rfl rfl rfl rfl rfl hc (hg _ _ _) (Eg _ _ _) (Eo _ _ _) T (fun b hb ok=>⟨rfl,(ok.PZ b hb).1,ok.NX b hb,.inl hb,(ok.PZ b hb).2,fun p hp=>by cases hp⟩) W turn I4 SK (fun b hb=>(f3 b hb).1) m0 w0 (lU ..) fun H' s' w I' q=>?_;obtain⟨m,hn,_⟩:=I'.loc;exact qP _ _ H' s' m (I3.ZDq (ch:=fp) I'.os I'.base I'.AK I'.bare fun b hb=>⟨(f3 b hb).2.2.2.1,(f3 b hb).2.1,(f3 b hb).2.2.2.2.1,(f3 b hb).2.2.2.2.2⟩) (I3.Kr (Ao _) I'.free) hn q
 exact codeAny_compStart_list loop (T.self X.A 0 _ _ _ SK loop)
theorem dY (S:G8 X.N X.env.scope scope ce zs Ah js)(I:Inv X pins σ H s):closureFor scope X.env=pure (CP X.env.cells scope.names):=ZDm fun y hy hk=>by
 obtain⟨c,e⟩:=I.ok.has y.1 (.inl (S.all y hy hk));rw[e];rfl
theorem ZAV (hW:∀J σ H1 acc Q,CW J σ H1 acc Q->Qw g zs.length J js tt te σ H1 acc Q)(hc:X.calm=true)(S:G8 X.N X.env.scope scope ce zs Ah js)(hi:PI X tg iter wi)
  (hg:∀fp C s H,PG (Fy X (Ah++zs) scope ce (CP X.env.cells scope.names) C s H fp) tg g)
  (Eg:∀fp C s H,IZ (Fy X (Ah++zs) scope ce (CP X.env.cells scope.names) C s H fp) ifs tt) (Eo:∀fp C s H,PE (Fy X (Ah++zs) scope ce (CP X.env.cells scope.names) C s H fp) elt te)
  (hs:∀v,foldedSetIterable iter X.env v=pure v):PE X (.ListComp elt [⟨tg,iter,ifs,0⟩] scope pos) (Zo CW wi):=by
 intro pins s σ H Q I h;rw[eval_ListComp];refine wpAny_comprehension_free (use:=none) rfl hs (dY S I) S.kind S.loc (AS (hi pins s σ H _ I h) fun v s1 h1=>AS h1 fun Q7 s2 h2=>?_);obtain⟨it,fp,tn,J,H2,e,I2,T,FC,f2,hw⟩:=h2;subst e;refine fu (RR:=fun acc C=>compPost (model X.prog X.w) X.A X.xe none (EP X pins σ Q) acc C) hc S (hg fp) (Eg fp) (Eo fp) T I2 FC f2 Q (fun acc ha=>hW _ _ _ _ _ (hw acc ha)) fun acc C H' s' m I' fC hn q=>⟨m,hn,fun h' LP=>?_⟩;exact⟨.ref acc,H',I'.turned (t':=s'.toks) (fun b o hb e=>(LP.2 b hb).trans e) fC.1 fC.2.1 fC.2.2.2.1 fC.2.2.2.2.1 fC.2.2.2.2.2,rfl,q⟩
theorem ZB7 (hW:∀J σ H1 acc Q,CW J σ H1 acc Q->Qw g zs.length J js tt te σ H1 acc Q){y:Str}(hN:X.N.Nodup)(DM:X.N[i]?=some y)(hy:Loc X.env.scope y)(hc:X.calm=true)(S:G8 X.N X.env.scope scope ce zs Ah js)(hi:PI X tg iter wi)
  (hg:∀fp C s H,PG (Fy X (Ah++zs) scope ce (CP X.env.cells scope.names) C s H fp) tg g)
  (Eg:∀fp C s H,IZ (Fy X (Ah++zs) scope ce (CP X.env.cells scope.names) C s H fp) ifs tt) (Eo:∀fp C s H,PE (Fy X (Ah++zs) scope ce (CP X.env.cells scope.names) C s H fp) elt te)
  (NH:swapsWith (.ListComp elt [⟨tg,iter,ifs,0⟩] scope pos) (some (.Name y py)) JK.line X.env=pure true)
  (hf:X.fn y=true∨X.env.scope.names.lookup y=some .local)
  (hs:∀v,foldedSetIterable iter X.env v=pure v):PS X (.Assign [.Name y py] (.ListComp elt [⟨tg,iter,ifs,0⟩] scope pos) JK) (Fb (Zo CW wi) (Du i)):=by
 intro pins s σ H D I h;rw[exec_Assign_Name_used _ _ _ _ NH];refine mG (wpAny_standAt (mG ?_));show wpAny _ X.A (do let _ <- comprehension (.ListComp elt [⟨tg,iter,ifs,0⟩] scope pos) scope X.env _ (newList []) false (eval iter X.env) (some (assign (.Name y py) X.env))) _ _ s
 refine mG (rJ (wpAny_comprehension_free (use:=some (assign (.Name y py) X.env)) (Q:=fun _ s'=>SP X pins D .next s') rfl hs (dY S I) S.kind S.loc
  (AS (hi pins s σ H _ I h) fun v s1 h1=>AS h1 fun Q7 s2 h2=>?_)) (fun _ s' hq=>mf (mf hq)) fun _ _ e=>e)
 obtain⟨it,fp,tn,J,H2,e,I2,T,FC,f2,hw⟩:=h2;subst e;refine fu (RR:=fun acc C=>compPost (model X.prog X.w) X.A X.xe (some (assign (.Name y py) X.env)) (fun _ s'=>SP X pins D .next s') acc C) hc S (hg fp) (Eg fp) (Eo fp) T I2 FC f2 _ (fun acc ha=>hW _ _ _ _ _ (hw acc ha)) fun acc C H' s' m I' fC hn q=>?_;show wpAny _ X.A (assign (.Name y py) X.env (.ref acc)) _ _ s';refine wpAny_assign_Name (jN (v:=.ref acc) I' hN DM hy rfl (fun Kx I'' ⟨a,hsa,ha⟩=>?_) hf);have Af:C≠a:=by
  rcases ha with z | z
  ·rw[z];exact fC.2.1
  ·exact(fC.2.2.2.2.1 y a z).symm
 refine⟨m,hn.sameBut hsa Af,fun h' LP=>?_⟩;exact⟨_,H',I''.turned (t':=Kx.toks) (fun b o hb e=>(LP.2 b hb).trans e) fC.1 fC.2.1 fC.2.2.2.1 fC.2.2.2.2.1 fC.2.2.2.2.2,q⟩
theorem fY {n:Nat}{cl:List (Str×Addr)}:∀{names:List (Str×NameKind)},(∀y∈names,y.2≠.cell)->cellsFrom n names cl=cl
 | [],_=>rfl
 | (x,k)::r,h=>by
  have hk:(k == NameKind.cell)=false:=beq_eq_false_iff_ne.mpr (h _ DC);rw[cellsFrom,hk];exact fY fun y hy=>h y (DZ _ hy)
theorem kL {h0:Heap}:∀{names:List (Str×NameKind)},(∀y∈names,y.2≠.cell)->pushCells h0 names=h0
 | [],_=>rfl
 | (x,k)::r,h=>by
  have hk:(k == NameKind.cell)=false:=beq_eq_false_iff_ne.mpr (h _ DC);rw[pushCells,hk];exact kL fun y hy=>h y (DZ _ hy)
theorem G8.sX (kind:scope.kind=.function)(OP:∀y∈scope.names,y.2≠.cell)(loc:∀y∈scope.names,y.2=.local->scope.names.lookup y.1=some .local)
  (at':js.map (fun j=>N[j]?)=Ah.map some) (cell:∀y∈Ah,outer.names.lookup y=some .cell) (free:∀y∈Ah,scope.names.lookup y=some .free)
  (all:∀y∈scope.names,y.2=.free->outer.names.lookup y.1=some .cell) (nd:(Ah++zs).Nodup):G8 N outer scope none zs Ah js:=
 ⟨kind,loc,fun y hy e=>absurd e (OP y hy),fun x e=>(by cases e),fun n cl=>fY OP,fun h=>kL OP,at',cell,free,all,nd⟩
theorem G8.len (S:G8 N outer scope ce zs Ah js)(σ:St):(Bb js σ).length=Ah.length:=by
 unfold Bb;rw[AX];have:=uC List.length S.at';simpa using this
theorem cQ (S:G8 N outer scope ce [x] Ah js)(J:It)(σ:St)(H1:Hp)(acc:Addr)(Q:VK)(h:KW J js tt te σ H1 acc Q):Qw (Du Ah.length) 1 J js tt te σ H1 acc Q:=by
 obtain⟨W,h0,h⟩:=h;refine⟨W,h0,fun i m H2 w=>(h i m H2 w).imp id fun z=>⟨z.1,fun x H3 y ws hw=>?_⟩⟩
 match ws,hw with
 | [w],_=>
  have e:(Bb js σ++[w]).set Ah.length (some x)=Bb js σ++[some x]:=by rw[<- S.len σ];exact ZEl _ _ _
  exact⟨[some x],rfl,e,by rw[e];exact z.2 x H3 y⟩
theorem fi (S:G8 X.N X.env.scope scope ce [x] Ah js)(hx:scope.names.lookup x=some .local∨(ce=some x/\scope.names.lookup x=some .cell)):
  PG (Fy X (Ah++[x]) scope ce cl C s H fp) (.Name x px) (Du Ah.length):=
 Zy S.nd (by simp) (hx.imp (fun h=>lookup_relabel_local h) fun h=>ZCq h.2) (hx.symm.imp (fun h=>by show(ce == some x)=true;rw[h.1];exact u9 _) fun h=>lookup_relabel_local h)
theorem Cw.G (S:Cw N outer scope x Ah js):G8 N outer scope none [x] Ah js:=.sX S.kind S.OP S.loc S.at' S.cell S.free S.all S.nd
theorem zv (hc:X.calm=true)(S:Cw X.N X.env.scope scope x Ah js)(hi:PI X (.Name x px) iter wi)
  (Eg:∀fp C s H,IZ (Ja X (Ah++[x]) scope (CP X.env.cells scope.names) C s H fp) ifs tt) (Eo:∀fp C s H,PE (Ja X (Ah++[x]) scope (CP X.env.cells scope.names) C s H fp) elt te)
  (hs:∀v,foldedSetIterable iter X.env v=pure v:=by intro _;rfl):PE X (.ListComp elt [⟨.Name x px,iter,ifs,0⟩] scope pos) (Jk wi js tt te):=
 ZAV (CW:=fun J σ H1 acc Q=>KW J js tt te σ H1 acc Q) (cQ S.G) hc S.G hi (fun _ _ _ _=>fi S.G (.inl S.jk)) Eg Eo hs
theorem mi {y:Str}(hN:X.N.Nodup)(DM:X.N[i]?=some y)(hy:Loc X.env.scope y)(hc:X.calm=true)(S:Cw X.N X.env.scope scope x Ah js)(hi:PI X (.Name x px) iter wi)
  (Eg:∀fp C s H,IZ (Ja X (Ah++[x]) scope (CP X.env.cells scope.names) C s H fp) ifs tt) (Eo:∀fp C s H,PE (Ja X (Ah++[x]) scope (CP X.env.cells scope.names) C s H fp) elt te)
  (NH:swapsWith (.ListComp elt [⟨.Name x px,iter,ifs,0⟩] scope pos) (some (.Name y py)) JK.line X.env=pure true:=by rfl)
  (hf:X.fn y=true∨X.env.scope.names.lookup y=some .local:=by first | exact .inl rfl | exact .inr rfl | assumption)
  (hs:∀v,foldedSetIterable iter X.env v=pure v:=by intro _;rfl):PS X (.Assign [.Name y py] (.ListComp elt [⟨.Name x px,iter,ifs,0⟩] scope pos) JK) (Fb (Jk wi js tt te) (Du i)):=
 ZB7 (CW:=fun J σ H1 acc Q=>KW J js tt te σ H1 acc Q) (cQ S.G) hN DM hy hc S.G hi (fun _ _ _ _=>fi S.G (.inl S.jk)) Eg Eo NH hf hs
end
def CA (K:ZHP)(tp:Bool)(H:Hp)(a:Addr)(xs:List V):Prop:=match tp with
 | false=>AI K H a xs
 | true=>AA K H a xs
theorem CA.or {K:ZHP}{xs:List V}(h:CA K tp H a xs):AI K H a xs∨AA K H a xs:=by
 cases tp
 ·exact .inl h
 ·exact .inr h
def Oh (K:ZHP)(tp:Bool)(a:Addr)(xs:List V):It:=
 ⟨fun i H=>CA K tp H a xs/\i<xs.length,fun i H x H'=>H'=H/\xs[i]?=some x,fun i H=>CA K tp H a xs/\xs.length<=i⟩
theorem ZAq {P:Program}{K:ZHP}(a it:Addr)(xs:List V):Turn P w K tg (Oh K false a xs) [it] it (fun i h=>h.IsListIter it a i) where
 mem:=by simp
 obj:=(O5 (P:=P) (w:=w) (K:=K) (tg:=tg) a it).obj
 keep:=(O5 (P:=P) (w:=w) (K:=K) (tg:=tg) a it).keep
 item:=by
  intro X hP hw hK hc i pins s σ H E I hf st hg;obtain⟨hq,hi⟩:=hg;refine AS ((O5 (P:=P) (w:=w) (K:=K) (tg:=tg) a it).item X hP hw hK hc i pins s σ H E I hf st ⟨xs,xs[i],hq,by simp[hi]⟩) fun r s1 AJ=>by obtain⟨u,e,h⟩:=AJ;exact⟨u,e,AS h fun _ s2 Dk=>by obtain⟨x,H',I',rx,y,Cv,f'⟩:=Dk;exact⟨x,H',I',rx,⟨y.1,y.2 xs hq⟩,Cv,f'⟩⟩
 done:=by
  intro X hP hw hK hc i pins s σ H E I hf st hg;exact(O5 (P:=P) (w:=w) (K:=K) (tg:=tg) a it).done X hP hw hK hc i pins s σ H E I hf st ⟨xs,hg.1,hg.2⟩
 self:=(O5 (P:=P) (w:=w) (K:=K) (tg:=tg) a it).self
theorem ux {P:Program}{K:ZHP}(a it:Addr)(xs:List V):Turn P w K tg (Oh K true a xs) [it] it (fun i h=>h.IsTupleIter it a i) where
 mem:=by simp
 obj:=(Ms (P:=P) (w:=w) (K:=K) (tg:=tg) a it).obj
 keep:=(Ms (P:=P) (w:=w) (K:=K) (tg:=tg) a it).keep
 item:=by
  intro X hP hw hK hc i pins s σ H E I hf st hg;obtain⟨hq,hi⟩:=hg;refine AS ((Ms (P:=P) (w:=w) (K:=K) (tg:=tg) a it).item X hP hw hK hc i pins s σ H E I hf st ⟨xs,xs[i],hq,by simp[hi]⟩) fun r s1 AJ=>by obtain⟨u,e,h⟩:=AJ;exact⟨u,e,AS h fun _ s2 Dk=>by obtain⟨x,H',I',rx,y,Cv,f'⟩:=Dk;exact⟨x,H',I',rx,⟨y.1,y.2 xs hq⟩,Cv,f'⟩⟩
 done:=by
  intro X hP hw hK hc i pins s σ H E I hf st hg;exact(Ms (P:=P) (w:=w) (K:=K) (tg:=tg) a it).done X hP hw hK hc i pins s σ H E I hf st ⟨xs,hg.1,hg.2⟩
 self:=(Ms (P:=P) (w:=w) (K:=K) (tg:=tg) a it).self
def Vq (K:ZHP)(tl:TE):TI:=fun σ H R=>tl σ H fun x H1=>∃tp a xs,x=.ref a/\CA K tp H1 a xs/\R (Oh K tp a xs) H1
def YU (z:Str):It:=⟨fun i _=>i<z.cps.size,fun i H x H'=>H'=H/\∃c,z.cps[i]?=some c/\x=.str ⟨#[c]⟩,fun i _=>i=z.cps.size⟩
theorem aX {P:Program}{K:ZHP}{t:Tok}{ty:String}
  (hn:["enumerate","zip","dict_itemiterator","dict_reverseitemiterator","odict_iterator","itertools.zip_longest","itertools.pairwise"].contains ty=false)
  (W:∀A:Around,A.handled=none->Walks P w A it [it] [it] z.cps.size (SignAt z) (fun i h=>h.IsStrIter it ty z t i))
  (self:∀(A:Around) (i:Nat) (s:Shared) (Q:Value->Shared->Prop) (E:Value->Shared->Prop),s.heap.IsStrIter it ty z t i->Q (.ref it) s->wpAny (model P w) A (pyIter (.ref it)) Q E s) :
  Turn P w K tg (YU z) [it] it (fun i h=>h.IsStrIter it ty z t i) where
 mem:=by simp
 obj:=fun i h st b hb=>by
  have e:b=it:=by simpa using hb
  subst e;obtain⟨o,e,c,d⟩:=st;exact⟨o,e,fun v z=>by rw[d] at z;cases z⟩
 keep:=fun i h h' st k=>let ⟨o,e,r⟩:=st;⟨o,k it (by simp) o e,r⟩
 item:=by
  intro X hP hw hK hc i pins s σ H E I hf st hg;subst hP hw hK;obtain⟨f0,f1,f2,f3,f4,f5⟩:=hf it (by simp);refine(W X.A (I.ok.hd hc)).item i s _ _ hg st fun v h' tk ⟨c,u,RF,hv⟩ Cv kp=>?_;subst hv;have I1:Inv X pins σ H { s with heap:=h',toks:=tk }:=I.turned (t':=tk) (fun b o hb e=>kp b o (by simpa using hb) e) f0 f1 f3 f4 f5
  obtain⟨o,e,cl,d⟩:=id Cv;exact⟨_,rfl,NQ (s:={ s with heap:=h',toks:=tk }) e cl d hn ⟨.str ⟨#[c]⟩,H,I1,⟨u,rfl⟩,⟨rfl,c,RF,rfl⟩,Cv,fun b hb=>(hf b hb).1⟩⟩
 done:=by
  intro X hP hw hK hc i pins s σ H E I hf st hg;subst hP hw hK;obtain⟨f0,f1,f2,f3,f4,f5⟩:=hf it (by simp);have rX:i=z.cps.size:=hg;subst rX;exact(W X.A (I.ok.hd hc)).done s _ _ st fun h' tk kp=>⟨rfl,I.turned (t':=tk) (fun b o hb e=>kp b o (by simpa using hb) e) f0 f1 f3 f4 f5⟩
 self:=self
def aE (tl:TE):TI:=fun σ H R=>tl σ H fun x H1=>∃z,x=.str z/\R (YU z) H1
theorem Ab {p:Addr}(h:H p=none)(o:HO):A8 H (upd H p o):=fun b u q=>by rw[Ad (EU q h)];exact q
theorem A8.JZ {K:ZHP}{xs:List V}(e:A8 H H')(h:AA K H a xs):AA K H' a xs:=by
 rcases h with(h | ⟨o,h⟩) | h
 ·exact .inl (.inl (e _ _ h))
 ·exact .inl (.inr ⟨o,e _ _ h⟩)
 ·exact .inr h
theorem A8.sq {K:ZHP}{xs:List V}(e:A8 H H')(h:CA K tp H a xs):CA K tp H' a xs:=by
 cases tp
 ·exact A8.seq e h
 ·exact A8.JZ e h
theorem aq {Q:VK}(xs:List V)(f:V->Bool)(g:V->V)(Ax:H1 acc=none)(hz:xs.length<=sizeLine)
  (hgo:∀i H,A8 H1 H->i<xs.length->J.go i H) (CL:∀H,A8 H1 H->J.stop xs.length H) (hy:∀i H x H',J.Fx i H x H'->H'=H/\xs[i]?=some x)
  (ht:∀(i:Nat) (x:V) (H':Hp) (Q':Bool->Hp->Prop),xs[i]?=some x->A8 H1 H'->(∀EO,A8 H' EO->Q' (f x) EO)->tt (Bb js σ++[some x]) H' Q')
  (he:∀(i:Nat) (x:V) (H':Hp) (Q':VK),xs[i]?=some x->f x=true->A8 H1 H'->(∀EO,A8 H' EO->Q' (g x) EO)->te (Bb js σ++[some x]) H' Q')
  (hd:∀H',A8 H1 H'->H' acc=some (.lst ((xs.filter f).map g))->Q (.ref acc) H'):KW J js tt te σ H1 acc Q:=by
 refine⟨fun i m H=>m=xs.length - i/\i<=xs.length/\A8 H1 H/\H acc=some (.lst (((xs.take i).filter f).map g)),⟨xs.length,by simp,CH _,Ab Ax _,AH⟩,?_⟩;rintro i m H2 ⟨rfl,hi,sm,ha⟩
 by_cases AW:i<xs.length
 ·refine .inr ⟨hgo i H2 sm AW,fun x H3 y=>?_⟩;obtain⟨e,hx⟩:=hy i H2 x H3 y;subst e;have Lz:(xs.take (i+1))=xs.take i++[x]:=by
   have e2:xs[i]=x:=by
    rw[B9 AW] at hx;exact BS hx
   rw[Sq AW,e2]
  have e1:List.filter f (xs.take (i+1))=(xs.take i).filter f++(if f x=true then[x] else[]):=by
   rw[Lz,Mi];congr 1
   by_cases hf:f x=true <;> simp[hf]
  refine ht i x _ _ hx sm fun H4 s4=>?_
  by_cases hf:f x=true
  ·rw[pR hf];refine he i x H4 _ hx hf (sm.trans s4) fun H5 s5=>?_;have hlen:(((xs.take i).filter f).map g).length<sizeLine:=by
    rw[AX];have:=Fq f (xs.take i);rw[Bd] at this;omega
   refine⟨_,s5 _ _ (s4 _ _ ha),hlen,xs.length - (i+1),by omega,rfl,AW,fun b o q=>?_,?_⟩
   ·have hb:b≠acc:=by rintro rfl;rw[Ax] at q;cases q
    rw[Ad hb];exact s5 _ _ (s4 _ _ (sm b o q))
   ·rw[AH,e1,pR hf,CS];rfl
  ·have OR:f x=false:=by simpa using hf
   rw[OR];rw[nr (by decide)];refine⟨xs.length - (i+1),by omega,rfl,AW,sm.trans s4,?_⟩;rw[e1,nr hf,Et];exact s4 _ _ ha
 ·have e:i=xs.length:=by omega
  subst e;refine .inl ⟨CL H2 sm,hd H2 sm ?_⟩;rw[Hl] at ha;exact ha
theorem JP {K:ZHP}{xs:List V}{Q:VK}(f:V->Bool)(g:V->V)(hq:CA K tp H1 a xs)(Ax:H1 acc=none)(hz:xs.length<=sizeLine)
  (ht:∀(i:Nat) (x:V) (H':Hp) (Q':Bool->Hp->Prop),xs[i]?=some x->A8 H1 H'->(∀EO,A8 H' EO->Q' (f x) EO)->tt (Bb js σ++[some x]) H' Q')
  (he:∀(i:Nat) (x:V) (H':Hp) (Q':VK),xs[i]?=some x->f x=true->A8 H1 H'->(∀EO,A8 H' EO->Q' (g x) EO)->te (Bb js σ++[some x]) H' Q')
  (hd:∀H',A8 H1 H'->H' acc=some (.lst ((xs.filter f).map g))->Q (.ref acc) H'):KW (Oh K tp a xs) js tt te σ H1 acc Q:=
 aq xs f g Ax hz (fun i H s hi=>⟨s.sq hq,hi⟩) (fun H s=>⟨s.sq hq,Ao _⟩) (fun i H x H' y=>y) ht he hd
def G5 (z:Str):List V:=z.cps.toList.map fun c=>.str ⟨#[c]⟩
theorem Vs (z:Str):(G5 z).length=z.cps.size:=by unfold G5;simp
theorem zQ {Q:VK}(f:V->Bool)(g:V->V)(Ax:H1 acc=none)(hz:z.cps.size<=sizeLine)
  (ht:∀(i:Nat) (x:V) (H':Hp) (Q':Bool->Hp->Prop),(G5 z)[i]?=some x->A8 H1 H'->(∀EO,A8 H' EO->Q' (f x) EO)->tt (Bb js σ++[some x]) H' Q')
  (he:∀(i:Nat) (x:V) (H':Hp) (Q':VK),(G5 z)[i]?=some x->f x=true->A8 H1 H'->(∀EO,A8 H' EO->Q' (g x) EO)->te (Bb js σ++[some x]) H' Q')
  (hd:∀H',A8 H1 H'->H' acc=some (.lst (((G5 z).filter f).map g))->Q (.ref acc) H'):KW (YU z) js tt te σ H1 acc Q:=by
 refine aq (G5 z) f g Ax (by rw[Vs];exact hz) (fun i H s hi=>?_) (fun H s=>?_) (fun i H x H' y=>?_) ht he hd
 ·rw[Vs] at hi;exact hi
 ·show(G5 z).length=z.cps.size;exact Vs z
 ·obtain⟨e,c,hc,hx⟩:=y;refine⟨e,?_⟩;subst hx;unfold G5;rw[Az,Ou,hc];rfl
def E2 (xs ys:List V):Bool:=xs.length == ys.length && (List.range xs.length).all fun j=>Dp (xs.getD j .AF) (ys.getD j .AF)
theorem JQ {xs:List V}{x:V}(h:xs[j]?=some x):xs.getD j .AF=x:=by rw[ES,h];rfl
theorem fO {xs:List V}{x:V}(h:xs.all EW=true)(e:xs[j]?=some x):EW x=true:=List.all_eq_true.mp h x (DD e)
theorem SH {xs:List V}{Be:List Value}(r1:Vals xs A4)(r2:Vals ys Be)(fx:xs.all EW=true)(fy:ys.all EW=true):
  ∀j (h1:j<A4.toArray.size) (h2:j<Be.toArray.size),SeqAt.EqAt A s A4.toArray[j] Be.toArray[j] (Dp (xs.getD j .AF) (ys.getD j .AF)):=fun j h1 h2=>by
 have l1:=r1.length;have l2:=r2.length;have D8:j<A4.length:=by simpa using h1
 have Df:j<Be.length:=by simpa using h2
 have e1:xs[j]?=some (xs[j]'(by omega)):=B9 _;have e2:ys[j]?=some (ys[j]'(by omega)):=B9 _;obtain⟨u,hu,ru⟩:=r1.get e1;obtain⟨v,hv,rv⟩:=r2.get e2;rw[B9 D8] at hu;rw[B9 Df] at hv;have Ob:A4[j]=u:=BS hu;have Ot:Be[j]=v:=BS hv;rw[JQ e1,JQ e2];have q:=RS (A:=A) (s:=s) ru rv (fO fx e1) (fO fy e2);rw[<- Ob,<- Ot] at q
 simpa using q
def N2 (K:ZHP)(neg:Bool):R2:=fun x y H Q=>∃p q xs ys,x=.ref p/\y=.ref q/\((AI K H p xs/\AI K H q ys)∨(AA K H p xs/\AA K H q ys))/\xs.all EW=true/\ys.all EW=true/\
 Q (.bl (if neg then !E2 xs ys else E2 xs ys)) H
theorem Ky {xs:List V}(h:xs.length≠ys.length):E2 xs ys=false:=by
 unfold E2;have:(xs.length == ys.length)=false:=by simpa using h
 rw[this,Bool.false_and]
theorem K6 {xs:List V}(h:xs.length=ys.length):E2 xs ys=(List.range xs.length).all fun j=>Dp (xs.getD j .AF) (ys.getD j .AF):=by
 unfold E2;have:(xs.length == ys.length)=true:=by simpa using h
 rw[this,Mf]
theorem Kk (hu:X.A.units<cLine):BD X (compareOp .Eq) (N2 X.K false):=by
 intro pins s σ H x y v u Q I rx ry h;obtain⟨p,q,xs,ys,rfl,rfl,hq,fx,fy,hQ⟩:=h;cases rx;cases ry;have Dc:Q (.bl (E2 xs ys)) H:=hQ;rcases hq with⟨ha,hb⟩|⟨ha,hb⟩
 ·obtain⟨A4,r1,p1,z1⟩:=I.list ha;obtain⟨Be,r2,p2,z2⟩:=I.list hb;have l1:=r1.length;have l2:=r2.length
  by_cases hl:xs.length=ys.length
  ·refine SeqAt.eq_listAt (e:=fun j=>Dp (xs.getD j .AF) (ys.getD j .AF)) p1.isList p2.isList (by simp;omega) hu (SH r1 r2 fx fy) ⟨.bl _,H,I,rfl,?_⟩;rw[K6 hl] at Dc;simp only[Bo,<- l1];exact Dc
  ·rw[Ky hl] at Dc;exact SeqAt.eq_list_lengthsAt p1.isList p2.isList (by simp;omega) hu ⟨.bl false,H,I,rfl,Dc⟩
 ·obtain⟨A4,r1,p1,z1⟩:=I.tuple ha;obtain⟨Be,r2,p2,z2⟩:=I.tuple hb;have l1:=r1.length;have l2:=r2.length;refine SeqAt.eq_tupleAt (e:=fun j=>Dp (xs.getD j .AF) (ys.getD j .AF)) p1 p2 hu (SH r1 r2 fx fy) ⟨.bl _,H,I,rfl,?_⟩;simp only[Bo,<- l1,<- l2]
  by_cases hl:xs.length=ys.length
  ·rw[K6 hl] at Dc;have:(xs.length == ys.length)=true:=by simpa using hl
   rw[this,lE,<- hl,Zg];exact Dc
  ·rw[Ky hl] at Dc;have:(xs.length == ys.length)=false:=by simpa using hl
   rw[this,ZO];exact Dc
theorem K9 (hu:X.A.units<cLine):BD X (compareOp .NotEq) (N2 X.K true):=by
 intro pins s σ H x y v u Q I rx ry h;obtain⟨p,q,xs,ys,rfl,rfl,hq,fx,fy,hQ⟩:=h;cases rx;cases ry;have Dc:Q (.bl (!E2 xs ys)) H:=hQ;rcases hq with⟨ha,hb⟩|⟨ha,hb⟩
 ·obtain⟨A4,r1,p1,z1⟩:=I.list ha;obtain⟨Be,r2,p2,z2⟩:=I.list hb;have l1:=r1.length;have l2:=r2.length
  by_cases hl:xs.length=ys.length
  ·refine SeqAt.RcNeAt.lists (e:=fun j=>Dp (xs.getD j .AF) (ys.getD j .AF)) p1.isList p2.isList (by simp;omega) hu (SH r1 r2 fx fy) _ _ _ _ ⟨.bl _,H,I,rfl,?_⟩;rw[K6 hl] at Dc;simp only[Bo,<- l1];exact Dc
  ·rw[Ky hl] at Dc;exact SeqAt.RcNeAt.lists_lengths p1.isList p2.isList (by simp;omega) hu _ _ _ _ ⟨.bl true,H,I,rfl,Dc⟩
 ·obtain⟨A4,r1,p1,z1⟩:=I.tuple ha;obtain⟨Be,r2,p2,z2⟩:=I.tuple hb;have l1:=r1.length;have l2:=r2.length;refine SeqAt.RcNeAt.tuples (e:=fun j=>Dp (xs.getD j .AF) (ys.getD j .AF)) p1 p2 hu (SH r1 r2 fx fy) _ _ _ _ ⟨.bl _,H,I,rfl,?_⟩;simp only[Bo,<- l1,<- l2]
  by_cases hl:xs.length=ys.length
  ·rw[K6 hl] at Dc;have:(xs.length == ys.length)=true:=by simpa using hl
   rw[this,lE,<- hl,Zg];exact Dc
  ·rw[Ky hl] at Dc;have:(xs.length == ys.length)=false:=by simpa using hl
   rw[this,ZO];exact Dc
theorem yn:CY X (.builtin "isinstance") (fun xs H Q=>∃x n t b,xs=[x,.ty n]/\Ej X.K H x t/\PySem.W.kitOne X.K t (.type n)=some b/\Q (.bl b) H):=by
 intro pins s σ H xs us Q I r h;obtain⟨x,n,t,b,rfl,ty,e,q⟩:=h;obtain⟨u,w',rfl,rx,rt⟩:=vals2 r;cases rt;exact ZBI I rx ty e fun tk=>⟨.bl b,H,I.tok tk,rfl,q⟩
theorem ZE8 {bs:List Bool}(r:Vals (bs.map V.bl) A4){v:Value}(e:A4[i]?=some v):v=.bool (bs.getD i false):=by
 have hl:=r.length;rw[AX] at hl;have hi:i<A4.length:=(List.getElem?_eq_some_iff.mp e).1;have e1:(bs.map V.bl)[i]?=some (.bl (bs[i]'(by omega))):=by rw[Az,B9 (by omega)];rfl
 obtain⟨u,hu,ru⟩:=r.get e1;rw[e] at hu;cases hu;cases ru;rw[ES,B9 (by omega)];rfl
theorem range_all (bs:List Bool):(List.range bs.length).all (fun i=>bs.getD i false)=bs.all id:=by
 rw[Me,Gv,Gv];constructor
 ·intro h x hx;obtain⟨i,hi,rfl⟩:=List.mem_iff_getElem.mp hx;have:=h i (List.mem_range.mpr hi);rw[ES,B9 hi] at this;exact this
 ·intro h i hi;rw[ES,B9 (List.mem_range.mp hi)];exact h _ (LA _)
theorem LK (hc:X.calm=true):CY X (.builtin "all") (fun xs H Q=>∃(p:Addr) (bs:List Bool),xs=[.ref p]/\AI X.K H p (bs.map V.bl)/\Q (.bl (bs.all id)) H):=by
 intro pins s σ H xs us Q I r h;obtain⟨p,bs,rfl,hq,q⟩:=h;obtain⟨u,rfl,rx⟩:=vals1 r;cases rx;obtain⟨A4,rv,pl,hz⟩:=I.list hq;have hl:=rv.length;rw[AX] at hl;refine call_all_walk (ZAU pl.isList ?_);obtain⟨o,n,ho,_⟩:=id pl;have Af:p≠s.heap.objs.size:=BJ (BC ho);refine⟨s.heap.objs.size,_,_,_,_,_,fun i=>bs.getD i false,rfl,Walks.list (by rw[lC];exact I.ok.hd hc) _ p Af A4.toArray,⟨⟨_,BR _ rfl,rfl,rfl⟩,pl.isList.push _⟩,fun i v s' Q' E' hv Dc=>?_,fun h' tk kp=>?_⟩
 ·have ev:v=.bool (bs.getD i false):=ZE8 rv (by simpa using hv)
  rw[ev];exact rq Dc
 ·refine⟨.bl _,H,I.kept (t':=tk) fun b ob e=>kp b ob (by simpa using BJ (BC e)) (BE _ e),rfl,?_⟩
  rw[Bo,<- hl,range_all];exact q
def d5:V->List V->Hp->VK->Prop:=fun x vs H Q=>∃(l:Addr) (xs:List V) (j:Int) (y:V),x=.ref l/\vs=[.int j,y]/\H l=some (.lst xs)/\0<=j/\j<=xs.length/\xs.length<sizeLine/\Q .AF (upd H l (.lst (xs.take j.toNat++y::xs.drop j.toNat)))
theorem ZAP:U3 X "list.insert" d5:=by
 intro pins s σ H x vs v us Q I rx rv h;obtain⟨l,xs,j,y,rfl,rfl,hH,hj0,hj1,hz,q⟩:=h;cases rx;obtain⟨ui,uy,rfl,ri,ry⟩:=rv.two;obtain⟨t,rfl⟩:=ri;obtain⟨z,A4,n,r,hl,e⟩:=I.N4 hH;have h2:j<2 ^ 63:=by
  have h4:(xs.length:Int)<=(sizeLine:Int):=Int.ofNat_le.mpr z;have h3:((sizeLine:Nat):Int)<2 ^ 63:=by exact_mod_cast JN
  omega
 have ZBv:(!Builtin.List.listFitsIndex j)=true->False:=by
  have h1:Builtin.List.listFitsIndex j=true:=by
   unfold Builtin.List.listFitsIndex;rw[E4];exact⟨nV (by omega),nV h2⟩
  rw[h1];exact fun h=>nomatch h
 have hz2:A4.toArray.size<=sizeLine:=CZ (la (List.size_toArray.trans hl.symm)) z;refine ZAd ZGU ⟨_,e,rfl⟩ PySem.F.entry_list_insert (PySem.F.args_list_insert_3 _ _ _) (PySem.AutoSeq1.list_insert_list_int_val_1 l A4.toArray n j t uy ZBv hz2) ⟨e,?_⟩;refine⟨.AF,_,I.Wu (its':=A4.take j.toNat++uy::A4.drop j.toNat) hH e ?_ ((r.take _).append (.cons ry (r.drop _))) ?_,rfl,q⟩
 ·have h0:¬ (j<0):=by omega
  have hm:min j.toNat A4.toArray.size=j.toNat:=by simp;omega
  simp only[h0,ZAw,hm];apply Array.toList_inj.mp;simp;exact P1 (by simp)
 ·rw[BL,BH,Bd,Cj];omega
def uu:V->Option Int->Option Int->Hp->VK->Prop:=fun x lo hi H Q=>∃z,x=.str z/\z.length<=sizeLine/\Q (.str (Txt.slice z lo hi)) H
theorem part_of {v:Value}{o:Option Int}(p:IsPart v o):∃l:Option (Int×Tok),v=partValue l/\l.map (·.1)=o:=by
 cases p with
 | none=>exact⟨none,rfl,rfl⟩
 | int i t=>exact⟨some (i,t),rfl,rfl⟩
theorem fA:Jb X uu:=by
 intro pins s σ H x v vl vu lo hi sl Q I rx hs pl pu h;obtain⟨z,rfl,hz,q⟩:=h;obtain⟨t,rfl⟩:=rx;obtain⟨l,rfl,hl⟩:=part_of pl;obtain⟨u,rfl,hu⟩:=part_of pu;subst hl;subst hu;refine⟨"str", _,F.slot_str_getitem.lookup,typeIs_str _ _ _,wpAny_getItem_str_slice (l:=l) (u:=u) (st:=none) hs rfl (post_val_or_str ⟨CZ (Txt.slice_le z _ _) hz,fun t' k=>?_⟩)⟩;exact⟨.str _,H,I.tok k,⟨t',rfl⟩,q⟩
end L2
set_option exponentiation.threshold 5000
namespace L2
variable {f p:Addr}{H:Hp}
def A7 (P:Program)(w:World)(K:ZHP)(mg:ZHR)(base:Heap)(x:Str)(k:Nat)(ps:List Str)(sp:Sp):Prop:=
 ∃f fd,DL P w K mg base Ff k f fd ps sp/\Binds K fd ps []/\PySem.W.keepIn K (.ref f)=true/\mg x=some (.ref f)
section
variable {P:Program}{w:World}{K:ZHP}{mg:ZHR}{base:Heap}{x qual:Str}{k:Nat}{ps:List Str}{sp:Sp}{st:Stmt}{fd:FuncData}
theorem A7.mk (F:AE K x qual st f fd)(b:Binds K fd ps [])(m:mg x=some (.ref f))(h:DL P w K mg base Ff k f fd ps sp):A7 P w K mg base x k ps sp:=⟨f,fd,h,b,F.kp,m⟩
variable {X:Cx}{j:Nat}{p pos:Pos}{e:Expr}{es:List Expr}{t:TA}
def Xo (K:ZHP):List V->Hp->VK->Prop:=fun xs H Q=>∃(p:Addr) (ys:List V),xs=[.ref p]/\(AI K H p ys∨AA K H p ys)/\Q (.int ys.length) H
theorem EI:CY X (.builtin "len") (Xo X.K):=EE
def SM (K:ZHP):List V->Hp->VK->Prop:=fun xs H Q=>∃(x:V) (n:String) (t:Value) (b:Bool),xs=[x,.ty n]/\Ej K H x t/\PySem.W.kitOne K t (.type n)=some b/\Q (.bl b) H
theorem Hh:CY X (.builtin "isinstance") (SM X.K):=yn
theorem JA:IU X "list.append" Nv:=bB
theorem ZCT:IU X "list.insert" d5:=ZAP
theorem yk:IU X "list.pop" WO:=yU
def yQ (i j:Int):Prop:=i.natAbs<2 ^ 1000/\j.natAbs<2 ^ 1000
theorem jI {n:Nat}(h:n<2 ^ 1000):n.log2<1000:=by
 rcases Nat.eq_zero_or_pos n with e | e
 ·subst e;exact(show(0:Nat).log2<1000 by decide)
 ·exact(Nat.log2_lt (Jq e)).mpr h
theorem bits_le {i:Int}(h:i.natAbs<2 ^ 1000):Builtin.Int.intBits i<=2 ^ 20:=by
 unfold Builtin.Int.intBits;split
 ·exact CH _
 ·have:=jI h;have e:(2:Nat) ^ 20=1048576:=by decide
  omega
theorem Jx:BD X (binaryOp .Mult) (rI yQ fun i j=>.int (i * j)):=Q3 fun _ _ _ _ _ _ _ hc q=>mul_int q (.of_bits (bits_le hc.1) (bits_le hc.2))
theorem Vy:BD X (binaryOp .FloorDiv) (rI (fun _ j=>0<j/\j.natAbs<2 ^ 1000) fun i j=>.int (i / j)):=Q3 fun i j _ _ _ _ _ hc q=>by
 have h1:(0:Int)<j:=hc.1;have h2:=jI hc.2;exact floordiv_int (by omega) (by rw[Int.fdiv_eq_ediv_of_nonneg i (by omega)];exact q) (.inl (PyProof.noPylong_of_log2 (by omega)))
theorem ZAf {body rest:List Stmt}{t u:TS}(e:body=st::rest)(h:PS X st t)(h2:EN X rest u):EN X body (Nl t u):=by rw[e];exact sJ h h2
def Y5 (t:TS):TS:=fun D σ H=>∃J:St->Hp->Prop,t { D with nx:=J } σ H/\∀ σ' H',J σ' H'->D.nx σ' H'
end
def G7 (p:Addr)(H H':Hp):Prop:=∀b o,b≠p->H b=some o->H' b=some o
theorem G7.trans {H1 H2:Hp}(a:G7 p H H1)(b:G7 p H1 H2):G7 p H H2:=fun c o hc e=>b c o hc (a c o hc e)
theorem G7.of {H':Hp}(a:A8 H H'):G7 p H H':=fun c o _ e=>a c o e
theorem G7.upd {o:HO}:G7 p H (upd H p o):=fun c u hc e=>by rw[Ad hc];exact e
end L2
set_option maxHeartbeats 8000000
namespace L2
variable {ss:List Str}
def Er (acc:List Str)(x:Str):List Str:=if acc.any (· == x) then acc else acc++[x]
def dd (ss:List Str):List Str:=ss.foldl Er []
theorem ql (acc:List Str)(x k:Str):(Er acc x).any (· == k)=(acc.any (· == k) || decide (k=x)):=by
 unfold Er
 by_cases h:acc.any (· == x)=true
 ·rw[pR h]
  by_cases e:k=x
  ·subst e;rw[h];simp
  ·simp[e]
 ·rw[nr h,List.any_append]
  by_cases e:k=x
  ·subst e;simp
  ·have hb:(x == k)=false:=by simpa[beq_iff_eq] using(fun h':x=k=>e h'.symm)
   simp[hb,e]
theorem ai (acc:List Str)(x:Str):(Er acc x).length=if acc.any (· == x) then acc.length else acc.length+1:=by
 unfold Er;split <;> simp
theorem fo (ss:List Str)(i:Nat)(h:i<ss.length):dd (ss.take (i+1))=Er (dd (ss.take i)) ss[i]:=by
 unfold dd;rw[Sq h,ZG5];rfl
theorem Ys (ss:List Str):(dd ss).length<=ss.length:=by
 have:∀(l acc:List Str),(l.foldl Er acc).length<=acc.length+l.length:=by
  intro l
  induction l with
  | nil=>intro acc;simp
  | cons x r ih=>
   intro acc;rw[ZU];have h1:=ih (Er acc x);rw[ai] at h1;simp only[BH];split at h1 <;> omega
 have q:=this ss [];simp only[Sk,Nat.zero_add] at q;exact q
section
variable {prog:Program}{w:World}{A:Around}{R:Result->Shared->Prop}{I:Addr}{fp wr:List Addr}{G:Array GenState->Array GenState->Prop}{n:Nat}{P:Nat->Value->Prop}{St:Nat->Shared->Prop}
variable {E:Value->Shared->Prop}{s:Shared}
theorem sub_tuple_set:isSubtype (.type "tuple") (.type "set")=pure false:=by rw[vb];kernel_rfl
theorem sub_tuple_frozenset:isSubtype (.type "tuple") (.type "frozenset")=pure false:=by rw[vb];kernel_rfl
end
def ZEQ (P:Program)(w:World)(a:Addr)(f:Str->Bool)(n:Nat):HO:=.ext fun h=>h.SetOf (strKind P w) a f n
section
variable {X:Cx}
theorem SQ {A4:List Value}(r:Vals (ss.map V.str) A4){i:Nat}{v:Value}(e:A4[i]?=some v):∃(h:i<ss.length) (t:Tok),v=.str ss[i] t:=by
 have hl:=r.length;rw[AX] at hl;have hi:i<A4.length:=(List.getElem?_eq_some_iff.mp e).1;have DM:i<ss.length:=by omega
 have e1:(ss.map V.str)[i]?=some (.str ss[i]):=by rw[Az,B9 DM];rfl
 obtain⟨u,hu,ru⟩:=r.get e1;rw[e] at hu;cases hu;obtain⟨t,q⟩:=ru;exact⟨DM,t,q⟩
end
end L2
set_option maxHeartbeats 4000000
namespace L2
variable {X:Cx}{a c e l o tg:Expr}{es ifs:List Expr}{body rest:List Stmt}{ta te tl to:TE}{t tb:TS}{tc tt:TT}{p pos pos' px:Pos}{name x y:Str}{Ek op:CmpOp}{r:List V->Hp->VK->Prop}{i j n:Nat}{ps ss:List Str}{sp:Sp}{T:String}{wi:TI}{g:TG}{w:World}{I f:Addr}{s:Shared}{E Q:Value->Shared->Prop}
structure QE (X:Cx) (e:Expr) (t:TE):Prop where h:PE X e t
structure QT (X:Cx) (e:Expr) (t:TT):Prop where h:PT X e t
structure QW (X:Cx) (e:Expr) (t:TT):Prop where h:PW X e t
structure QA (X:Cx) (es:List Expr) (t:TA):Prop where h:PA X es t
structure QS (X:Cx) (st:Stmt) (t:TS):Prop where h:PS X st t
structure Ig (X:Cx) (st:List Stmt) (t:TS):Prop where h:EN X st t
structure QG (X:Cx) (tg:Expr) (t:TG):Prop where h:PG X tg t
structure QF (X:Cx) (ts:List Expr) (t:HE):Prop where h:NN X ts t
structure QI (X:Cx) (tg iter:Expr) (wi:TI):Prop where h:PI X tg iter wi
structure Pz (X:Cx) (ifs:List Expr) (t:TT):Prop where h:IZ X ifs t
structure QO (X:Cx) (e:Option Expr) (t:TO):Prop where h:PO X e t
section
variable {b:Expr}{rest:List Expr}{tb tc:TE}{tA Ic:TT}{t:TA}{p2 apos Bj:Pos}
theorem qv (i:Nat)(hN:X.N[i]?=some x:=by rfl)(hv:Va X.env.scope x:=by first | exact Or.inl rfl | exact Or.inr (Or.inl rfl) | exact Or.inr (Or.inr rfl))(hd:(x == ("__debug__":Str))=false:=by decide)
  (Gh:(x == ("__classdict__":Str))=false:=by decide):QE X (.Name x pos) (BQ i):=⟨by
 intro pins s σ H Q I h;obtain⟨v,e,h⟩:=h;obtain⟨m,hn,hl⟩:=I.loc;obtain⟨u,r,l⟩:=hl i x v hN e hv;have fin:EP X pins σ Q u s:=⟨v,H,I,r,h⟩;rcases l with⟨hk,hm⟩|⟨hk,c,hc,bV⟩
 ·exact wpAny_Name (wpAny_loadName_local I.ok.kind hk hn hm fin) hd
 ·rcases hk with hk | hk
  ·exact wpAny_Name (wpAny_loadName_cell I.ok.kind hk hc bV fin) hd
  ·exact wpAny_Name (wpAny_loadName_free I.ok.kind hk hc bV fin Gh) hd⟩
theorem A9 {i j pos}:QE X (.Constant (.int i) j pos) (tC (.int i)):=⟨fun _ _ _ H _ I h=>wpAny_Constant_int ⟨.int i,H,I.tok _,⟨_,rfl⟩,h⟩⟩
theorem GD {b j pos}:QE X (.Constant (.bool b) j pos) (tC (.bl b)):=⟨fun _ _ _ H _ I h=>Constant_bool ⟨.bl b,H,I,rfl,h⟩⟩
theorem Nh {j pos}:QE X (.Constant .none j pos) (tC .AF):=⟨fun _ _ _ H _ I h=>Constant_none ⟨.AF,H,I,rfl,h⟩⟩
theorem Ac {x j pos}:QE X (.Constant (.str x) j pos) (tC (.str x)):=⟨fun _ _ _ H _ I h=>Calls.Constant_str ⟨.str x,H,I.tok _,⟨_,rfl⟩,h⟩⟩
theorem KS {v:V}{u:Value}(hg:Gl X x)(hm:X.mg x=some u)(r:RelV v u)(hd:(x == ("__debug__":Str))=false:=by decide):QE X (.Name x pos) (tC v):=⟨fun _ _ _ H _ I h=>UL I hg hm ⟨v,H,I,r,h⟩ hd⟩
theorem HS (T:String)(hm:X.mg x=none)(hg:Gl X x:=by rfl)(hv:bootBuiltins x=some (.type T):=by decide +kernel)(hn:x ≠ "__name__" := by decide)(hd:(x == ("__debug__":Str))=false:=by decide):
  QE X (.Name x pos) (tC (.ty T)):=⟨mW hg hm hv rfl hn hd⟩
theorem B2 {op:Operator}{r:R2}(ho:BD X (binaryOp op) r)(ha:QE X a ta)(hb:QE X b tb):QE X (.BinOp a op b pos) (C5 r ta tb):=⟨by
 have ha:=ha.h;have hb:=hb.h;intro pins s σ H Q I h;exact wpAny_BinOp (UH ha hb I h fun v u s2 x y H2 I2 rx ry q=>ho pins s2 σ H2 x y v u Q I2 rx ry q)⟩
theorem yq {r:R2}(ho:BD X (compareOp op) r)(ha:QE X a ta)(hb:QE X b tb)(hm:behindInMarks op b=false):QE X (.Compare a [op] [b] pos) (C5 r ta tb):=⟨by
 have ha:=ha.h;have hb:=hb.h;intro pins s σ H Q I h;exact wpAny_Compare1 (UH ha hb I h fun v u s2 x y H2 I2 rx ry q=>ho pins s2 σ H2 x y v u Q I2 rx ry q) hm⟩
theorem ZBx {r:R2}(ho:BD X (compareOp op) r)(ha:QE X a ta)(hb:QE X b tb)(hm:behindInMarks op b=false):QT X (.Compare a [op] [b] pos) (MQ (C5 r ta tb)):=⟨ZD8 ho ha.h hb.h hm⟩
theorem aB {r r':R2}(ho:BD X (compareOp op) r)(EA:BD X (compareOp Ek) r')(ha:QE X a ta)(hb:QE X b tb)(hc:QE X c tc)
  (hm:lastMarks [op,Ek] [b,c]=false:=by with_unfolding_all rfl):QE X (.Compare a [op,Ek] [b,c] pos) (O0 r r' ta tb tc):=⟨by
 have ha:=ha.h;have hb:=hb.h;have hc:=hc.h;intro pins s σ H Q I h;refine Compare_chain (AS (ha pins s σ H _ I h) fun v s1 ⟨x,H1,I1,r1,q1⟩=>chain_link (AS (hb pins s1 σ H1 _ I1 q1) fun u s2 ⟨y,H2,I2,r2,q2⟩=>
  AS (ho pins s2 σ H2 x y v u _ I2 r1 r2 q2) fun d s3 ⟨z,H3,I3,r3,k,e,q3⟩=>?_)) hm
 subst e;cases r3;refine rq ?_;cases k with
 | false=>exact ite_ff ⟨.bl false,H3,I3,rfl,q3⟩
 | true=>exact ite_tt (chain_last (AS (hc pins s3 σ H3 _ I3 q3) fun w' s4 ⟨z',H4,I4,r4,q4⟩=>EA pins s4 σ H4 y z' u w' Q I4 r2 r4 q4))⟩
theorem NA {r r':R2}(ho:BD X (compareOp op) r)(EA:BD X (compareOp Ek) r')(ha:QE X a ta)(hb:QE X b tb)(hc:QE X c tc)
  (hm:lastMarks [op,Ek] [b,c]=false:=by with_unfolding_all rfl):QT X (.Compare a [op,Ek] [b,c] pos) (MQ (O0 r r' ta tb tc)):=⟨by
 have ha:=ha.h;have hb:=hb.h;have hc:=hc.h;intro pins s σ H Q I h;refine isTrue_chain (AS (ha pins s σ H _ I h) fun v s1 ⟨x,H1,I1,r1,q1⟩=>test_link (AS (hb pins s1 σ H1 _ I1 q1) fun u s2 ⟨y,H2,I2,r2,q2⟩=>
  AS (ho pins s2 σ H2 x y v u _ I2 r1 r2 q2) fun d s3 ⟨z,H3,I3,r3,k,e,q3⟩=>?_)) hm
 subst e;cases r3;refine rq ?_;cases k with
 | false=>
  obtain⟨k',e',q'⟩:=q3;cases e';exact ite_ff ⟨H3,I3,q'⟩
 | true=>
  refine ite_tt (test_last (AS (hc pins s3 σ H3 _ I3 q3) fun w' s4 ⟨z',H4,I4,r4,q4⟩=>AS (EA pins s4 σ H4 y z' u w' _ I4 r2 r4 q4) fun d' s5 qD=>?_));obtain⟨z2,H5,I5,r5,k2,e2,q5⟩:=qD;subst e2;cases r5;exact rq ⟨H5,I5,q5⟩⟩
theorem IJ {op}(h:QE X a ta):QE X (.BoolOp op [a] pos) ta:=⟨by have h:=h.h;exact fun pins s σ H Q I hw=>BoolOp_one (h pins s σ H Q I hw)⟩
theorem HN (ha:QE X a ta)(hb:QE X (.BoolOp .And (b::rest) pos) tb):QE X (.BoolOp .And (a::b::rest) pos) (VA ta tb):=⟨by
 have ha:=ha.h;have hb:=hb.h;intro pins s σ H Q I h;refine BoolOp_and (AS (ha pins s σ H _ I h) fun v s1 Ep=>?_);obtain⟨x,H1,I1,r1,q1⟩:=Ep;obtain⟨c,rfl,q1⟩:=q1;cases r1;refine rq ?_;cases c with
 | true=>exact hb pins s1 σ H1 Q I1 q1
 | false=>exact⟨.bl false,H1,I1,rfl,q1⟩⟩
theorem rD (ha:QE X a ta)(hb:QE X (.BoolOp .Or (b::rest) pos) tb):QE X (.BoolOp .Or (a::b::rest) pos) (jX ta tb):=⟨by
 have ha:=ha.h;have hb:=hb.h;intro pins s σ H Q I h;refine BoolOp_or (AS (ha pins s σ H _ I h) fun v s1 Ep=>?_);obtain⟨x,H1,I1,r1,q1⟩:=Ep;obtain⟨c,rfl,q1⟩:=q1;cases r1;refine rq ?_;cases c with
 | false=>exact hb pins s1 σ H1 Q I1 q1
 | true=>exact⟨.bl true,H1,I1,rfl,q1⟩⟩
theorem pW (ha:QE X a ta):QE X (.UnaryOp .Not a pos) (Xb ta):=⟨by
 have ha:=ha.h;intro pins s σ H Q I h;refine UnaryOp_ (AS (ha pins s σ H _ I h) fun v s1 Ep=>?_);obtain⟨x,H1,I1,r1,q1⟩:=Ep;obtain⟨c,rfl,q1⟩:=q1;cases r1;exact not_of (rq ⟨.bl (!c),H1,I1,rfl,q1⟩)⟩
theorem IM (ha:QT X a tA):QW X (.BoolOp .And [a] pos) tA:=⟨by
 have ha:=ha.h;intro wh pins s σ H Q I h;refine isTrue_and (AS (ha pins s σ H Q I h) fun c s1 e=>?_);cases c with
 | true=>exact isTrue_and_nil e
 | false=>exact e⟩
theorem Fp (ha:QT X a tA):QW X (.BoolOp .Or [a] pos) tA:=⟨by
 have ha:=ha.h;intro wh pins s σ H Q I h;refine isTrue_or (AS (ha pins s σ H Q I h) fun c s1 e=>?_);cases c with
 | false=>exact isTrue_or_nil e
 | true=>exact e⟩
theorem Hr (ha:QT X a tA)(hb:QW X (.BoolOp .And (b::rest) pos) Ic):QW X (.BoolOp .And (a::b::rest) pos) (Ue tA Ic):=⟨by
 have ha:=ha.h;have hb:=hb.h;intro wh pins s σ H Q I h;refine isTrue_and (AS (ha pins s σ H _ I h) fun c s1 Ep=>?_);obtain⟨H1,I1,q1⟩:=Ep;cases c with
 | true=>exact hb wh pins s1 σ H1 Q I1 q1
 | false=>exact⟨H1,I1,q1⟩⟩
theorem Ds (ha:QT X a tA)(hb:QW X (.BoolOp .Or (b::rest) pos) Ic):QW X (.BoolOp .Or (a::b::rest) pos) (Px tA Ic):=⟨by
 have ha:=ha.h;have hb:=hb.h;intro wh pins s σ H Q I h;refine isTrue_or (AS (ha pins s σ H _ I h) fun c s1 Ep=>?_);obtain⟨H1,I1,q1⟩:=Ep;cases c with
 | true=>exact⟨H1,I1,q1⟩
 | false=>exact hb wh pins s1 σ H1 Q I1 q1⟩
theorem QW.pt {t:TT}(h:QW X e t):QT X e t:=⟨h.h.pt⟩
theorem Cd (ha:QT X a tA):QT X (.UnaryOp .Not a pos) (R3 tA):=⟨by
 have ha:=ha.h;intro pins s σ H Q I h;exact isTrue_not (ha pins s σ H (fun c H1=>Q (!c) H1) I h)⟩
theorem DV (h:QE X e te)(he:∀whole,isTrue e X.env whole=(do let v <- whole;standAt e.pos;holding [v] (truthy v)):=by intro _;rfl):QT X e (tB te):=⟨by
 have h:=h.h;intro pins s σ H Q I hw;refine isTrue_plain (AS (h pins s σ H _ I hw) fun v s1 ⟨x,H1,I1,r1,q1⟩=>?_) (he _);obtain⟨d,rfl,q⟩:=q1;cases r1;exact rq ⟨H1,I1,q⟩⟩
theorem A5:QA X [] B8:=⟨fun _ _ _ _ H Q I h=>lH ⟨[],H,I,.nil,h⟩⟩
theorem A0 (ha:QE X e te)(hr:QA X es t)(hs:starEach (e::es) X.env=(false,eval e X.env)::starEach es X.env:=by rfl):QA X (e::es) (AY te t):=⟨ZBS ha.h hr.h hs⟩
theorem Bv {x1}(h:QA X es t):QE X (.Tuple es x1 pos) (RX t):=⟨p8 h.h⟩
theorem EH (h:QA X es t):QE X (.List es pos) (Sd t):=⟨xa h.h⟩
theorem EG:QO X none TL:=⟨by
 intro pins s σ H Q I h;rw[evalPart_none];exact mf ⟨none,H,I,.none,h⟩⟩
theorem DK (h:QE X e te):QO X (some e) (X2 te):=⟨by
 have h:=h.h;intro pins s σ H Q I hw;rw[evalPart_some];refine AS (h pins s σ H _ I hw) fun u s1 Yv=>?_;obtain⟨x,H1,I1,r1,q1⟩:=Yv;obtain⟨i,rfl,q⟩:=q1;obtain⟨t,rfl⟩:=r1;exact⟨some i,H1,I1,.int i t,q⟩⟩
theorem Dh {r:V->Option Int->Option Int->Hp->VK->Prop}{lo hi:Option Expr}{tl th:TO}(hr:Jb X r)(he:QE X e te)(hl:QO X lo tl)(hu:QO X hi th):QE X (.Subscript e (.Slice lo hi none p2) pos) (Ng r te tl th):=⟨by
 have he:=he.h;have hl:=hl.h;have hu:=hu.h;intro pins s σ H Q I h;refine Subscript_ (AS (he pins s σ H _ I h) fun v s1 Ep=>?_);obtain⟨x,H1,I1,r1,q1⟩:=Ep;refine wpAny_Slice (AS (hl pins s1 σ H1 _ I1 q1) fun vl s2 ⟨l,H2,I2,pl,q2⟩=>AS (hu pins s2 σ H2 _ I2 q2) fun vu s3 Mq=>?_);obtain⟨u,H3,I3,pu,q3⟩:=Mq;rw[evalPart_none];refine mf ?_;have I4:Inv X pins σ H3 { s3 with heap:=s3.heap.push { cls:=.type "slice", data:=.fields #[vl,vu,.none] } }:=I3.kept (t':=s3.toks) fun b ob q=>BE _ q
 obtain⟨T,id,hT,ht,hg⟩:=hr pins { s3 with heap:=s3.heap.push { cls:=.type "slice", data:=.fields #[vl,vu,.none] } } σ H3 x v vl vu l u s3.heap.objs.size Q I4 r1 (Heap.IsSliceOf.new ..) pl pu q3
 show wpAny (model X.prog X.w) X.A (subscriptTail e (.Slice lo hi none p2) v (.ref s3.heap.objs.size)) (EP X pins σ Q) X.xe { s3 with heap:=s3.heap.push { cls:=.type "slice", data:=.fields #[vl,vu,.none] } }
 exact tail_any (ops:=[.ref s3.heap.objs.size,v]) ht hT hg (by with_unfolding_all rfl)⟩
theorem oQ {r:R2}(hr:En X r)(ha:QE X a ta)(hb:QE X b tb)(hs:Vw b):QE X (.Subscript a b pos) (C5 r ta tb):=⟨by
 have ha:=ha.h;have hb:=hb.h;intro pins s σ H Q I h;exact Subscript_ (UH ha hb I h fun v u s2 x y H2 I2 rx ry q=>hr a b pins s2 σ H2 x y v u Q I2 rx ry q (hs _ _))⟩
theorem xi {k:Nat}(h:A7 X.prog X.w X.K X.mg X.base x k ps sp)(hr:Bi j X.A)(hk:k<=j)(ha:QA X (e::es) t)(hg:Gl X x:=by rfl)(Cm:(x == ("__debug__":Str))=false:=by decide)
  (he:starEach (e::es) X.env=(false,eval e X.env)::starEach es X.env:=by rfl) (Bq:(backTo pos (starEach es X.env)).any (·.1)=false:=by rfl):QE X (.Call (.Name x p) (e::es) [] pos) (CD sp [] E0 t):=⟨by
 have ha:=ha.h;obtain⟨f,fd,F,b,kp,m⟩:=h;exact ZE5 (F.mono hk) hr hg m kp b .nil Ql ha Cm he Bq⟩
theorem uU {id:String}(hc:CY X (.builtin id) r)(hg:Gl X x)(hm:X.mg x=none)(hv:bootBuiltins x=some (.builtin id))(ha:QA X (e::es) t)(hn:x ≠ "__name__" := by decide)(Cm:(x == ("__debug__":Str))=false:=by decide)
  (he:starEach (e::es) X.env=(false,eval e X.env)::starEach es X.env:=by rfl) (Bq:(backTo pos (starEach es X.env)).any (·.1)=false:=by rfl):QE X (.Call (.Name x p) (e::es) [] pos) (Cb r t):=⟨by
 have ha:=ha.h;intro pins s σ H Q I h;refine uP (Iz I hg hm hv ?_ hn Cm);exact PyProof.Rows.callWith_builtin1 (AS (ha pos pins s σ H _ I h) fun us s1 AJ=>by obtain⟨vs,H1,I1,r1,q1⟩:=AJ;exact hc pins s1 σ H1 vs us Q I1 r1 q1) he Bq⟩
theorem ZEb (hc:CY X (.type T) r)(hg:Gl X x)(hm:X.mg x=none)(hv:bootBuiltins x=some (.type T))(ha:QA X (e::es) t)(hn:x ≠ "__name__" := by decide)(Cm:(x == ("__debug__":Str))=false:=by decide)
  (he:starEach (e::es) X.env=(false,eval e X.env)::starEach es X.env:=by rfl) (Bq:(backTo pos (starEach es X.env)).any (·.1)=false:=by rfl):QE X (.Call (.Name x p) (e::es) [] pos) (Cb r t):=⟨by
 have ha:=ha.h;intro pins s σ H Q I h;refine uP (Iz I hg hm hv ?_ hn Cm);exact P6 (AS (ha pos pins s σ H _ I h) fun us s1 AJ=>by obtain⟨vs,H1,I1,r1,q1⟩:=AJ;exact hc pins s1 σ H1 vs us Q I1 r1 q1) he Bq⟩
theorem uW {id:String}{r:V->List V->Hp->VK->Prop}(pa:PlainAttrs T)(slot:Slot T name id)(L4:typeOf (.builtin id)=pure (.type "method_descriptor"))(hm:IU X id r)(ho:QE X o to)
  (Kn:attributeBase o name X.env (eval o X.env)=eval o X.env:=by rfl) (KU:(apos.endLine == Bj.line)=true:=by rfl):QE X (.Call (.Attribute o name apos) [] [] Bj) (Vb X.K T r to):=⟨by
 have ho:=ho.h;intro pins s σ H Q I h;refine wpAny_Call_method0_late Kn KU (AS (ho pins s σ H _ I h) fun v s1 Yv=>?_);obtain⟨x,H1,I1,r1,ty,q1⟩:=Yv;obtain⟨h1,h2⟩:=bY I1 r1 ty;exact⟨T,id,pa,slot,L4,h1,h2,lF rfl (PySem.evalArgs_none (hm pins s1 σ H1 x [] v [] Q I1 r1 .nil q1))⟩⟩
theorem FT {id:String}{r:V->List V->Hp->VK->Prop}(pa:PlainAttrs T)(slot:Slot T name id)(L4:typeOf (.builtin id)=pure (.type "method_descriptor"))(hm:IU X id r)(ho:QE X o to)(ha:QA X (e::es) t)
  (Kn:attributeBase o name X.env (eval o X.env)=eval o X.env:=by rfl)
  (TF:((backTo Bj (starEach (e::es) X.env)).all (fun x=>!x.1) && (backToKw Bj (keywordEach [] X.env)).all (fun x=>x.1.isSome)
   && decide ((e::es).length+([]:List Keyword).length+(if([]:List Keyword).isEmpty then 0 else 1)<30))=true:=by rfl)
  (KU:(apos.endLine == Bj.line)=true:=by rfl) (hs:starEach (e::es) X.env=(false,eval e X.env)::starEach es X.env:=by rfl) (VS:(backTo Bj (starEach es X.env)).any (·.1)=false:=by rfl) :
  QE X (.Call (.Attribute o name apos) (e::es) [] Bj) (NG X.K T r to t):=⟨by
 have ho:=ho.h;have ha:=ha.h;intro pins s σ H Q I h;refine wpAny_Call_method_late Kn TF KU rfl (AS (ho pins s σ H _ I h) fun v s1 yb=>?_);obtain⟨x,H1,I1,r1,ty,q1⟩:=yb;obtain⟨h1,h2⟩:=bY I1 r1 ty;refine⟨T,id,pa,slot,L4,h1,h2,?_⟩;have hA:=ha Bj pins s1 σ H1 _ I1 q1;rw[hs] at hA ⊢;refine lF (by show(false || (backTo Bj (starEach es X.env)).any (·.1))=false;rw[VS] <;> rfl) (Calls.evalArgs_plain ?_)
 exact AS hA fun us s2 AJ=>by obtain⟨vs,H2,I2,r2,q2⟩:=AJ;exact hm pins s2 σ H2 x vs v us Q I2 r1 r2 q2⟩
variable {elt iter:Expr}{scope:Scope}{Ah:List Str}{js:List Nat}
theorem ED (hl:QE X l tl):QI X tg l (Vq X.K tl):=⟨by
 have hl:=hl.h;intro pins s σ H R I h;refine AS (hl pins s σ H _ I h) fun v s1 ⟨x,H1,I1,r1,q1⟩=>?_;obtain⟨tp,a,xs,e,hq,q⟩:=q1;subst e;cases r1;have fin:∀b∈[s1.heap.objs.size],Dy X pins H1 b:=fun b hb=>by
  have e:b=s1.heap.objs.size:=by simpa using hb
  subst e;exact I1.Kr (Ao _) (I1.AK.fresh (Ao _))
 cases tp with
 | false=>
  obtain⟨A4,rv,p,hz⟩:=I1.list hq;refine ZAU p.isList ?_;exact⟨s1.heap.objs.size,[s1.heap.objs.size],_,_,H1,rfl,I1.kept (t':=s1.toks) fun b o e=>BE _ e,ZAq a _ xs,⟨_,BR _ rfl,rfl,rfl⟩,fin,q⟩
 | true=>
  obtain⟨A4,rv,p,hz⟩:=I1.tuple hq;refine ZA8 (show s1.heap.IsTuple a A4.toArray from p) ?_;exact⟨s1.heap.objs.size,[s1.heap.objs.size],_,_,H1,rfl,I1.kept (t':=s1.toks) fun b o e=>BE _ e,ux a _ xs,⟨_,BR _ rfl,rfl,rfl⟩,fin,q⟩⟩
theorem xg (hl:QE X l tl):QI X tg l (aE tl):=⟨by
 have hl:=hl.h;intro pins s σ H R I h;refine AS (hl pins s σ H _ I h) fun v s1 ⟨x,H1,I1,r1,q1⟩=>?_;obtain⟨z,e,q⟩:=q1;subst e;obtain⟨t,rfl⟩:=r1;have fin:∀b∈[s1.heap.objs.size],Dy X pins H1 b:=fun b hb=>by
  have e:b=s1.heap.objs.size:=by simpa using hb
  subst e;exact I1.Kr (Ao _) (I1.AK.fresh (Ao _))
 have kp:∀(ob:Obj),Inv X pins σ H1 { s1 with heap:=s1.heap.push ob }:=fun ob=>I1.kept (t':=s1.toks) fun b o e=>BE _ e
 cases ha:z.cps.all (· < 128)
 ·refine wpAny_pyIter_wide ha ?_;exact⟨s1.heap.objs.size,[s1.heap.objs.size],_,_,H1,rfl,kp _,aX (t:=t) (by decide) (fun A' hA=>Walks.strWide hA _ z t) (fun _ _ _ _ _ st h=>wpAny_pyIter_striter_wide st h),⟨_,BR _ rfl,rfl,rfl⟩,fin,q⟩
 ·refine wpAny_pyIter_ascii ha ?_;exact⟨s1.heap.objs.size,[s1.heap.objs.size],_,_,H1,rfl,kp _,aX (t:=t) (by decide) (fun A' hA=>Walks.strAscii hA _ z t) (fun _ _ _ _ _ st h=>wpAny_pyIter_striter_ascii st h),⟨_,BR _ rfl,rfl,rfl⟩,fin,q⟩⟩
theorem LY {ta:TA}(hg:Gl X "range")(hm:X.mg "range"=none)(ha:QA X [a] ta)(hs:starEach [a] X.env=[(false,eval a X.env)]:=by rfl):QI X tg (.Call (.Name "range" p) [a] [] pos) (Z4 ta):=⟨by
 have ha:=ha.h;intro pins s σ H R I h;refine Call_ (Iz I hg hm boot_range (P6 (AS (ha pos pins s σ H _ I h) fun us s1 ⟨vs,H1,I1,r1,q1⟩=>?_) hs rfl));obtain⟨j,e,q1,q2,q⟩:=q1;subst e;cases r1 with
 | cons r rr=>
  cases rr;obtain⟨t,rfl⟩:=r;exact call_range_1 (xQ I1 (by omega) (by omega) q1 q2 (by simpa using q))⟩
theorem Lh:Pz X [] ML:=⟨fun pins s σ H Q I h=>by
 rw[lO];exact mf ⟨H,I,h⟩⟩
theorem GU {t:TT}(hc:QT X c t):Pz X [c] t:=⟨ZBK hc.h⟩
theorem FK (hc:X.calm=true)(S:Cw X.N X.env.scope scope x Ah js)(hi:QI X (.Name x px) iter wi)
  (Eg:∀fp C s H,Pz (Ja X (Ah++[x]) scope (CP X.env.cells scope.names) C s H fp) ifs tt) (Eo:∀fp C s H,QE (Ja X (Ah++[x]) scope (CP X.env.cells scope.names) C s H fp) elt te)
  (hs:∀v,foldedSetIterable iter X.env v=pure v:=by intro _;rfl):QE X (.ListComp elt [⟨.Name x px,iter,ifs,0⟩] scope pos) (Jk wi js tt te):=⟨zv hc S hi.h (fun fp C s H=>(Eg fp C s H).h) (fun fp C s H=>(Eo fp C s H).h) hs⟩
theorem Tt {py JK:Pos}(hN:X.N.Nodup)(DM:X.N[i]?=some y)(hy:Loc X.env.scope y)(hc:X.calm=true)(S:Cw X.N X.env.scope scope x Ah js)(hi:QI X (.Name x px) iter wi)
  (Eg:∀fp C s H,Pz (Ja X (Ah++[x]) scope (CP X.env.cells scope.names) C s H fp) ifs tt) (Eo:∀fp C s H,QE (Ja X (Ah++[x]) scope (CP X.env.cells scope.names) C s H fp) elt te)
  (NH:swapsWith (.ListComp elt [⟨.Name x px,iter,ifs,0⟩] scope pos) (some (.Name y py)) JK.line X.env=pure true:=by rfl)
  (hf:X.fn y=true∨X.env.scope.names.lookup y=some .local:=by first | exact .inl rfl | exact .inr rfl | assumption)
  (hs:∀v,foldedSetIterable iter X.env v=pure v:=by intro _;rfl):QS X (.Assign [.Name y py] (.ListComp elt [⟨.Name x px,iter,ifs,0⟩] scope pos) JK) (Fb (Jk wi js tt te) (Du i)):=
 ⟨mi hN DM hy hc S hi.h (fun fp C s H=>(Eg fp C s H).h) (fun fp C s H=>(Eo fp C s H).h) NH hf hs⟩
theorem ZEd (hN:X.N.Nodup)(hi:X.N[i]?=some x)(hx:Loc X.env.scope x)(hf:X.fn x=true∨X.env.scope.names.lookup x=some .local:=by first | exact .inl rfl | exact .inr rfl | assumption):QG X (.Name x pos) (Du i):=⟨Zy hN hi hx hf⟩
theorem MG:QF X [] U6:=⟨by
 intro pins s σ H vs us Q I r h;obtain⟨e,h⟩:=h;subst e;cases r;exact assignInOrder_nil ⟨σ,H,I,h⟩⟩
theorem FP {t:TG}{u:HE}(h1:QG X e t)(h2:QF X es u)
  (hs:(assignEach (e::es) X.env).map (·.2)=assign e X.env::(assignEach es X.env).map (·.2):=by rfl):QF X (e::es) (P9 t u):=⟨by
 have h1:=h1.h;have h2:=h2.h;intro pins s σ H vs us Q I r h;obtain⟨v,vr,e1,h⟩:=h;subst e1;cases r with
 | cons r rr=>
  rw[hs];refine assignInOrder_cons (AS (h1 pins s σ H _ _ _ I r h) fun _ s1 mV=>?_);obtain⟨σ1,H1,I1,q1⟩:=mV;exact h2 pins s1 σ1 H1 _ _ Q I1 rr q1⟩
theorem MF {k:Nat}{t:HE}(hc:X.calm=true)(h:QF X es t)(hn:(assignEach es X.env).length=n:=by rfl)(CL:(assignEach es X.env).findIdx? (·.1)=none:=by rfl):QG X (.Tuple es k pos) (Vf X.K n t):=⟨by
 have h:=h.h;intro pins s σ H v u Q I r hw;obtain⟨a,xs,e1,hq,hl,hw⟩:=hw;subst e1;cases r;obtain⟨A4,rv,ht,hz⟩:=I.tuple hq;refine assign_Tuple_tuple (I.ok.hd hc) ht (by simp[hn,<- hl,rv.length]) CL fun h' hx=>?_;have I1:Inv X pins σ H { s with heap:=h' }:=I.kept (t':=s.toks) fun b o e=>hx b o (BJ (BC e)) e
 exact h pins _ σ H xs _ Q I1 (by simpa using rv) hw⟩
theorem eR {i:Expr}{ti:TE}{t:Qz}(ho:QE X o to)(hi:QE X i ti)(hs:WQ X t)
  (ha:∀v,assign (.Subscript o i pos) X.env v=(do
   let ov <- holding [v] (eval o X.env)
   let iv <- holding [v,ov] (eval i X.env)
   standAt pos
   holding [v,ov,iv] (setItem ov iv v)
   release [v,ov,iv] []):=by intro _;rfl):QG X (.Subscript o i pos) (da to ti t):=⟨by
 have ho:=ho.h;have hi:=hi.h;intro pins s σ H v u Q I r h;rw[ha];refine mG (sF (AS (ho pins s σ H _ I h) fun ov s1 qq=>?_));obtain⟨x,H1,I1,r1,q1⟩:=qq;refine mG (sF (AS (hi pins s1 σ H1 _ I1 q1) fun iv s2 V7=>?_));obtain⟨y,H2,I2,r2,q2⟩:=V7;refine mG (wpAny_standAt (mG (sF (AS (hs pins s2 σ H2 x y v ov iv u _ I2 r1 r2 r q2) fun _ s3 zW=>?_))));obtain⟨H3,I3,q3⟩:=zW;exact wpAny_release ⟨σ,H3,I3,q3⟩⟩
end
section
variable {st:Stmt}{u:TS}
theorem Ay:Ig X [] ZA:=⟨fun _ _ σ H _ I h=>ZAK ⟨σ,H,I,h⟩⟩
theorem AG (e:body=st::rest)(h:QS X st t)(h2:Ig X rest u):Ig X body (Nl t u):=⟨ZAf e h.h h2.h⟩
theorem AB (e:body=[st])(h:QS X st t):Ig X body t:=⟨by have h:=h.h;rw[e];exact mY h⟩
theorem E5:QS X st iY:=⟨fun _ _ _ _ _ _ h=>h.elim⟩
theorem Cf (he:QE X e te)(hs:swapsWith e none pos.line X.env=pure false:=by rfl):QS X (.Expr e pos) (Ki te):=⟨by
 have he:=he.h;intro pins s σ H D I h;exact wpAny_Expr_any (AS (he pins s σ H _ I h) fun v s1 AJ=>by obtain⟨x,H1,I1,r1,q1⟩:=AJ;exact⟨σ,H1,I1,q1⟩) I.quiet hs⟩
theorem Aa (he:QE X e te):QS X (.Return (some e) pos) (Hc te):=⟨by
 have he:=he.h;intro pins s σ H D I h;exact wpAny_Return_some (AS (he pins s σ H _ I h) fun v s1 AJ=>by obtain⟨x,H1,I1,r1,q1⟩:=AJ;exact⟨x,σ,H1,I1,r1,q1⟩)⟩
theorem Ap {a b:List Stmt}(hc:QT X c tc)(ha:Ig X a t)(hb:Ig X b u):QS X (.If c a b pos) (RD tc t u):=⟨by
 have hc:=hc.h;have ha:=ha.h;have hb:=hb.h;intro pins s σ H D I h;refine wpAny_If (AS (hc pins s σ H _ I h) fun d s1 Ep=>?_);obtain⟨H1,I1,q1⟩:=Ep;cases d with
 | true=>exact ha pins s1 σ H1 D I1 q1
 | false=>exact hb pins s1 σ H1 D I1 q1⟩
theorem LN (he:QE X e te)(hg:QG X tg g)(hs:swapsWithSole [tg] e pos.line X.env=pure false:=by rfl)(hw:swappedStores [tg] e X.env=pure none:=by rfl)
  (h1:(assignEach [tg] X.env).map (·.2)=[assign tg X.env]:=by rfl):QS X (.Assign [tg] e pos) (Fb te g):=⟨by
 have he:=he.h;have hg:=hg.h;intro pins s σ H D I h;refine wpAny_Assign_stores (AS (he pins s σ H _ I h) fun v s1 ⟨x,H1,I1,r1,q1⟩=>?_) hs hw;rw[h1];exact AS (hg pins s1 σ H1 x v _ I1 r1 q1) fun _ s2 q=>q⟩
theorem zY (hN:X.N.Nodup)(hi:X.N[i]?=some x)(hx:Loc X.env.scope x)(he:QE X e te)(hs:swapsWith e (some (.Name x pos')) pos.line X.env=pure false:=by rfl)(hf:X.fn x=true∨X.env.scope.names.lookup x=some .local:=by first | exact .inl rfl | exact .inr rfl | assumption):
  QS X (.Assign [.Name x pos'] e pos) (Fb te (Du i)):=⟨by
 have he:=he.h;intro pins s σ H D I h;refine wpAny_Assign_Name (AS (he pins s σ H _ I h) fun v s1 ⟨y,H1,I1,r1,q1⟩=>?_) hs;exact gD I1 hN hi hx r1 (fun s2 I2=>⟨_,H1,I2,q1⟩) hf⟩
theorem dD (hp:PassesOwn (model X.prog X.w) X.A X.env X.xe)(hc:QT X c tc)(hb:Ig X body tb):QS X (.While c body [] pos) (cH tc tb):=⟨by
 have hc:=hc.h;have hb:=hb.h;intro pins s σ H D I h;obtain⟨W,⟨m0,w0⟩,turn⟩:=h;refine wpAny_While (codeAny_whileLoop (fun n s'=>∃ σ' H',Inv X pins σ' H' s'/\W n σ' H') ?_ m0 ⟨σ,H,I,w0⟩);rintro n s1 ⟨σ1,H1,I1,w1⟩;refine wa hp (AS (hc pins s1 σ1 H1 _ I1 (turn n σ1 H1 w1)) fun b s2 uR=>?_);obtain⟨H2,I2,q2⟩:=uR;cases b with
 | true=>
  obtain⟨N,hN,q2⟩:=q2;rw[pR rfl];refine wa hp (AS (hb pins s2 σ1 H2 _ I2 q2) fun f s3 q3=>?_);cases f with
  | next=>
   obtain⟨σ3,H3,I3,n3⟩:=q3;obtain⟨m',hm,w3⟩:=hN σ3 H3 n3;exact⟨m',hm,σ3,H3,I3,w3⟩
  | cont=>
   obtain⟨σ3,H3,I3,n3⟩:=q3;obtain⟨m',hm,w3⟩:=hN σ3 H3 n3;exact⟨m',hm,σ3,H3,I3,w3⟩
  | brk=>exact q3
  | ret v=>exact q3
 | false=>
  rw[nr DB];exact ZAK ⟨σ1,H2,I2,q2⟩⟩
theorem HF {iter:Expr}(hp:PassesOwn (model X.prog X.w) X.A X.env X.xe)(hc:X.calm=true)(hi:QI X tg iter wi)(hg:QG X tg g)(hb:Ig X body tb)
  (hs:∀x,foldedSetIterable iter X.env x=pure x:=by intro _;rfl):QS X (.For tg iter body [] pos) (VH wi g tb):=⟨by
 have hi:=hi.h;have hg:=hg.h;have hb:=hb.h;intro pins s σ H D I h;refine wpAny_For (AS (hi pins s σ H _ I h) fun v s1 h1=>AS h1 fun Q7 s2 h2=>?_) hs;obtain⟨it,fp,tn,J,H2,e,I2,T,FC,f2,W,⟨m0,w0⟩,turn⟩:=h2;subst e
 -- zO stays true of Gi ZGk objects through Gi loop
 have Js:∀{H':Hp},(∀b∈fp,H' b=none)->∀b∈fp,Dy X pins H' b:=fun hn b hb=>⟨hn b hb,(f2 b hb).2⟩;refine codeAny_forLoop_any (fun n s'=>∃i σ' H',Inv X pins σ' H' s'/\tn i s'.heap/\(∀b∈fp,H' b=none)/\W i n σ' H') ?_ m0 ⟨0,σ,H2,I2,FC,fun b hb=>(f2 b hb).1,w0⟩;rintro n s3 ⟨i,σ3,H3,I3,jm,fL,w3⟩;rcases turn i n σ3 H3 w3 with⟨stop,qn⟩|⟨go,N,hN,step⟩
 ·refine wa hp (AS (T.done X rfl rfl rfl hc i pins s3 σ3 H3 X.xe I3 (Js fL) jm stop) fun r s4 V7=>?_);obtain⟨hr,I4⟩:=V7;subst hr;exact ZAK ⟨σ3,H3,I4,qn⟩
 ·refine wa hp (AS (T.item X rfl rfl rfl hc i pins s3 σ3 H3 X.xe I3 (Js fL) jm go) fun r s4 nP=>?_);obtain⟨u,hr,h4⟩:=nP;subst hr;refine wa hp (AS h4 fun _ s5 ZB4=>?_);obtain⟨x,H5,I5,r5,y5,MY,Po⟩:=ZB4;have I5':=I5.pinned (Js Po) (T.obj _ _ MY);refine wa hp (AS (hg _ s5 σ3 H5 x u _ I5' r5 (step x H5 y5)) fun _ s6 ZCK=>?_);obtain⟨σ6,H6,I6,q6⟩:=ZCK;refine wa hp (AS (hb _ s6 σ6 H6 _ I6 q6) fun f s7 q7=>?_);have again:∀{σ7:St} {H7:Hp},Inv X (pins++N8 fp s5.heap) σ7 H7 s7->N σ7 H7->∃m,m<n/\∃i σ' H',Inv X pins σ' H' s7/\tn i s7.heap/\(∀b∈fp,H' b=none)/\W i m σ' H':=fun {σ7 H7} I7 n7=>by
   obtain⟨m',hm,w7⟩:=hN σ7 H7 n7;refine⟨m',hm,i+1,σ7,H7,I7.Oj,T.keep _ _ _ MY fun b hb o e=>(I7.pin (b,o) (Ef _ (Ef _ (QY hb e)))).1,fun b hb=>?_,w7⟩;obtain⟨o,e,d⟩:=T.obj _ _ MY b hb;exact(I7.pin (b,o) (Ef _ (Ef _ (QY hb e)))).2.1
  cases f with
  | next=>obtain⟨σ7,H7,I7,n7⟩:=q7;exact again I7 n7
  | cont=>obtain⟨σ7,H7,I7,n7⟩:=q7;exact again I7 n7
  | brk=>obtain⟨σ7,H7,I7,q7⟩:=q7;exact⟨σ7,H7,I7.Oj,q7⟩
  | ret v=>obtain⟨x7,σ7,H7,I7,r7,q7⟩:=q7;exact⟨x7,σ7,H7,I7.Oj,r7,q7⟩⟩
theorem Cq (h:QS X st t):QS X st (Y5 t):=⟨by
 have h:=h.h;intro pins s σ H D I hw;obtain⟨J,h1,h2⟩:=hw;refine AS (h pins s σ H _ I h1) fun f s' q=>?_;cases f with
 | next=>obtain⟨σ',H',I',q⟩:=q;exact⟨σ',H',I',h2 σ' H' q⟩
 | ret v=>exact q
 | brk=>exact q
 | cont=>exact q⟩
end
theorem AE.Am {P:Program}{K:ZHP}{mg:ZHR}{base:Heap}{qual:Str}{st:Stmt}{fd:FuncData}{N:List Str}{k:Nat}(F:AE K x qual st f fd)(S:Ak N ps (AV st))(len:∀vs H Q E,sp vs H Q E->vs.length=ps.length)
  (NS:∀(AU:Value) (A:Around) (outer:List Env) (s:Shared) (H:Hp) (vs:List V) (Q:VK) (E:XK),Bi k (A.deeper (envOfC qual (AV st) s.heap.objs.size f AU))->sp vs H Q E->
   ∃t,Ig (KR Ff P w K mg base N qual (AV st) f AU A outer s H E).Np (KC st) t/\t { nx:=fun _ H'=>Q .AF H',rt:=Q } (start N vs) H):DL P w K mg base Ff (k+1) f fd ps sp:=
 F.ok S len fun AU A outer s H vs Q E hr h=>let ⟨t,q,r⟩:=NS AU A outer s H vs Q E hr h;⟨t,q.h,r⟩
section
variable {b:Expr}{tb:TE}{t:TA}
theorem An {id:String}(hc:CY X (.builtin id) r)(hm:X.mg x=none)(ha:QA X (e::es) t)(hg:Gl X x:=by rfl)(hv:bootBuiltins x=some (.builtin id):=by decide +kernel)(hn:x ≠ "__name__" := by decide)(Cm:(x == ("__debug__":Str))=false:=by decide)
  (he:starEach (e::es) X.env=(false,eval e X.env)::starEach es X.env:=by rfl) (Bq:(backTo pos (starEach es X.env)).any (·.1)=false:=by rfl):QE X (.Call (.Name x p) (e::es) [] pos) (Cb r t):=uU hc hg hm hv ha hn Cm he Bq
theorem Cr (hc:CY X (.type T) r)(hm:X.mg x=none)(ha:QA X (e::es) t)(hg:Gl X x:=by rfl)(hv:bootBuiltins x=some (.type T):=by decide +kernel)(hn:x ≠ "__name__" := by decide)(Cm:(x == ("__debug__":Str))=false:=by decide)
  (he:starEach (e::es) X.env=(false,eval e X.env)::starEach es X.env:=by rfl) (Bq:(backTo pos (starEach es X.env)).any (·.1)=false:=by rfl):QE X (.Call (.Name x p) (e::es) [] pos) (Cb r t):=ZEb hc hg hm hv ha hn Cm he Bq
theorem AM {r:R2}(hr:En X r)(ha:QE X a ta)(hb:QE X b tb)(hs:Vw b:=by exact fun _ _=>rfl):QE X (.Subscript a b pos) (C5 r ta tb):=oQ hr ha hb hs
theorem AQ {k:Nat}(h:A7 X.prog X.w X.K X.mg X.base x k ps sp)(hr:Bi j X.A)(ha:QA X (e::es) t)(hk:k<=j:=by decide)(hg:Gl X x:=by rfl)(Cm:(x == ("__debug__":Str))=false:=by decide)
  (he:starEach (e::es) X.env=(false,eval e X.env)::starEach es X.env:=by rfl) (Bq:(backTo pos (starEach es X.env)).any (·.1)=false:=by rfl):QE X (.Call (.Name x p) (e::es) [] pos) (CD sp [] E0 t):=xi h hr hk ha hg Cm he Bq
theorem Cs {r:R2}(ho:BD X (compareOp op) r)(ha:QE X a ta)(hb:QE X b tb)(hm:behindInMarks op b=false:=by first | exact ki _ | with_unfolding_all rfl):QE X (.Compare a [op] [b] pos) (C5 r ta tb):=yq ho ha hb hm
theorem Ae {r:R2}(ho:BD X (compareOp op) r)(ha:QE X a ta)(hb:QE X b tb)(hm:behindInMarks op b=false:=by first | exact ki _ | with_unfolding_all rfl):QT X (.Compare a [op] [b] pos) (MQ (C5 r ta tb)):=ZBx ho ha hb hm
theorem B3 (i:Nat)(hN:X.N.Nodup)(he:QE X e te)(hi:X.N[i]?=some x:=by rfl)(hx:Loc X.env.scope x:=by first | exact Or.inl rfl | exact Or.inr rfl)(hs:swapsWith e (some (.Name x pos')) pos.line X.env=pure false:=by rfl)(hf:X.fn x=true∨X.env.scope.names.lookup x=some .local:=by first | exact .inl rfl | exact .inr rfl | assumption):
  QS X (.Assign [.Name x pos'] e pos) (Fb te (Du i)):=zY hN hi hx he hs hf
theorem D0 (i:Nat)(hN:X.N.Nodup)(hi:X.N[i]?=some x:=by rfl)(hx:Loc X.env.scope x:=by first | exact Or.inl rfl | exact Or.inr rfl)(hf:X.fn x=true∨X.env.scope.names.lookup x=some .local:=by first | exact .inl rfl | exact .inr rfl | assumption):QG X (.Name x pos) (Du i):=ZEd hN hi hx hf
end
section
variable {pins:ZHQ}{σ:St}{H:Hp}{a:Addr}{A6:List (Str×Addr)}
theorem Qi {t:Tok}:Dx (.str x) (.str y t)=(y == x):=rfl
theorem U5 (x:Str):∀(ss:List Str) (m:Nat) (hm:m<ss.length),m<ss.idxOf x->ss[m]≠x
 | [],_,hm,_=>absurd hm (Nat.not_lt_zero _)
 | a::r,m,hm,h=>by
  rw[lS] at h
  by_cases e:a=x
  ·have:(a == x)=true:=by simpa using e
   rw[this] at h;exact absurd h (Nat.not_lt_zero _)
  ·have e':(a == x)=false:=by simpa using e
   rw[e'] at h;cases m with
   | zero=>exact e
   | succ k=>
    have h':k+1<r.idxOf x+1:=h;exact U5 x r k (by simpa using hm) (by omega)
theorem LO (h:x∈ss):∃hj:ss.idxOf x<ss.length,ss[ss.idxOf x]=x/\∀m (hm:m<ss.length),m<ss.idxOf x->ss[m]≠x:=by
 have hj:ss.idxOf x<ss.length:=List.idxOf_lt_length_iff.mpr h;exact⟨hj,ZW hj,fun m hm AW=>U5 x ss m hm AW⟩
def ZDg (K:ZHP):V->List V->Hp->VK->Prop:=fun x vs H Q=>∃(l:Addr) (ss:List Str) (y:Str),x=.ref l/\vs=[.str y]/\AI K H l (ss.map V.str)/\y∈ss/\Q (.int (ss.idxOf y:Nat)) H
theorem Y4:IU X "list.index" (ZDg X.K):=by
 intro pins s σ H x vs v us Q I rx rv h;obtain⟨l,ss,y,rfl,rfl,hq,hy,q⟩:=h;cases rx;obtain⟨u,rfl,ru⟩:=rv.one;obtain⟨A4,r,pl,hz⟩:=I.list hq;obtain⟨⟨c,d,dt,sl⟩,n,ho,hc,hd,Fm⟩:=id pl;simp only at hc hd Fm;subst hc;subst hd;subst Fm;have hl:=r.length;rw[AX] at hl;obtain⟨hj,Vp,KI⟩:=LO hy;have at':∀(m:Nat) (hm:m<A4.toArray.size),∃t,A4.toArray[m]=.str (ss[m]'(by simp at hm;omega)) t:=fun m hm=>by
  have Ym:m<A4.length:=by simpa using hm
  obtain⟨h2,t,e⟩:=SQ r (B9 Ym);exact⟨t,by simpa using e⟩
 have NJ:ss.idxOf y<A4.toArray.size:=by simp;omega
 refine ZAd Zk ⟨_,ho,rfl⟩ PySem.F.entry_list_index (PySem.F.args_list_index_2 _ _) (SeqAt.list_indexAt l A4.toArray n none sl u (Dx (.str y)) (ss.idxOf y) NJ ?_ ?_ (fun m hm AW=>?_)) ⟨ho,fun z Oq=>Kc ru rfl r (by
   rw[Gv];intro w hw;obtain⟨y',_,rfl⟩:=List.mem_map.mp hw;rfl) z (by simpa using Oq),?_⟩
 ·have h1:ss.length<=sizeLine:=by rw[AX] at hz;exact hz
  have h2:=JN;have h3:((sizeLine:Nat):Int)<2 ^ 63:=by exact_mod_cast h2
  omega
 ·obtain⟨t,e⟩:=at' _ NJ;rw[e,Qi];simpa using Vp
 ·obtain⟨t,e⟩:=at' _ hm;rw[e,Qi];have:=KI m (by simp at hm;omega) AW
  simpa using this
 ·exact⟨.int _,H,I.tok _,⟨_,rfl⟩,q⟩
theorem pG (l:Addr)(items:Array Value)(n:Nat)(dd:Option Addr)(sl:Array (Option Value))(x:Value)(e:Value->Bool)(j:Nat)(hj:j<items.size)(hit:e items[j]=true)(KI:∀m (hm:m<items.size),m<j->e items[m]=false):
  Meets (Builtin.«tuple.index» ⟨[.ref l,x],[]⟩)
   (fun A R s=>s.heap.get? l=some { cls:=.type "tuple", dict:=dd,data:=.seq items n,slots:=sl }/\(∀y,y∈items->SeqAt.EqAt A.in1 s y x (e y))/\R (.ok (.ret (.int j s.toks))) { s with toks:=s.toks+1 }):=by
 refine Meets.of_wp fun prog w A R s h=>?_;obtain⟨hp,g,d,tk,os⟩:=s;obtain⟨hl,he,h⟩:=h
 wp_walk using AutoSeq1.wpAny_loadPart' hl
 show wpAny _ _ (forIn [:min items.size items.size] ((none:Option Fin),()) (fun(i:Nat) (_:Option Fin×Unit)=>match items[i]? with
  | some y=>(do let b <- eqBool y x;if b=true then do let r <- retInt ((i:Nat):Int);pure (ForInStep.done (some r,())) else pure (ForInStep.yield (none,())))
  | _=>pure (ForInStep.yield (none,())))) _ _ _
 rw[Std.Legacy.Range.forIn_eq_forIn_range'];have hsz:([:min items.size items.size]:Std.Legacy.Range).size=items.size:=by simp[Std.Legacy.Range.size]
 show wpAny _ _ (forIn (List.range' 0 ([:min items.size items.size]:Std.Legacy.Range).size 1) _ _) _ _ _;rw[hsz];refine wpAny_forIn_list _ (fun rest b s'=>b=(none,())/\s'=⟨hp,g,d,tk,os⟩/\∃i,rest=List.range' i (items.size - i) 1/\i<=j) _ ?_ ?_ _ _ ⟨rfl,rfl,0,rfl,CH _⟩
 ·rintro i rest b s' ⟨rfl,rfl,i',hr,Bs⟩;have AW:i' < items.size:=by omega
  have e1:List.range' i' (items.size - i') 1=i'::List.range' (i'+1) (items.size - (i'+1)) 1:=by
   have:items.size - i'=(items.size - (i'+1))+1:=by omega
   rw[this,ZGG]
  rw[e1] at hr;injection hr with hr1 hr2
  subst hr1;subst hr2;have hi:items[i]?=some items[i]:=by simp[AW]
  rw[hi];refine mG (he _ (Array.getElem_mem AW) prog w _ _ ?_)
  by_cases e2:i=j
  ·subst e2;rw[hit,pR rfl]
   wp_walk
   exact⟨_,rfl,h⟩
  ·rw[KI i AW (by omega),nr (by decide)];exact mf ⟨rfl,rfl,i+1,rfl,by omega⟩
 ·rintro b s' ⟨rfl,rfl,i,hr,Bs⟩;have:0<(List.range' i (items.size - i) 1).length:=by rw[List.length_range'];omega
  rw[<- hr] at this;exact absurd this (by simp)
def nO (K:ZHP):V->List V->Hp->VK->Prop:=fun x vs H Q=>∃(l:Addr) (ss:List Str) (y:Str),x=.ref l/\vs=[.str y]/\AA K H l (ss.map V.str)/\y∈ss/\Q (.int (ss.idxOf y:Nat)) H
theorem ZA4:IU X "tuple.index" (nO X.K):=by
 intro pins s σ H x vs v us Q I rx rv h;obtain⟨l,ss,y,rfl,rfl,hq,hy,q⟩:=h;cases rx;obtain⟨u,rfl,ru⟩:=rv.one;obtain⟨A4,r,pl,hz⟩:=I.tuple hq;obtain⟨⟨c,d,dt,sl⟩,ho,hc,n,Fm⟩:=id pl;simp only at hc Fm;subst hc;subst Fm;have hl:=r.length;rw[AX] at hl;obtain⟨hj,Vp,KI⟩:=LO hy;have at':∀(m:Nat) (hm:m<A4.toArray.size),∃t,A4.toArray[m]=.str (ss[m]'(by simp at hm;omega)) t:=fun m hm=>by
  have Ym:m<A4.length:=by simpa using hm
  obtain⟨h2,t,e⟩:=SQ r (B9 Ym);exact⟨t,by simpa using e⟩
 have NJ:ss.idxOf y<A4.toArray.size:=by simp;omega
 refine ZAd ZGV ⟨_,ho,rfl⟩ PySem.F.entry_tuple_index (PySem.F.args_tuple_index_2 _ _) (pG l A4.toArray n d sl u (Dx (.str y)) (ss.idxOf y) NJ ?_ (fun m hm AW=>?_)) ⟨ho,fun z Oq=>Kc ru rfl r (by
   rw[Gv];intro w hw;obtain⟨y',_,rfl⟩:=List.mem_map.mp hw;rfl) z (by simpa using Oq),?_⟩
 ·obtain⟨t,e⟩:=at' _ NJ;rw[e,Qi];simpa using Vp
 ·obtain⟨t,e⟩:=at' _ hm;rw[e,Qi];have:=KI m (by simp at hm;omega) AW
  simpa using this
 ·exact⟨.int _,H,I.tok _,⟨_,rfl⟩,q⟩
def v9 (t u:TE):TE:=fun σ H Q=>t σ H Q∨u σ H Q
theorem yC {t u:TE}(h:QE X e t)(h2:QE X e u):QE X e (v9 t u):=⟨fun pins s σ H Q I q=>q.elim (h.h pins s σ H Q I) (h2.h pins s σ H Q I)⟩
end
theorem ZDR:typeLookup (.type "list_reverseiterator") "__len__"=pure none:=by rw[z9,uS];kernel_rfl
theorem uv:typeLookup (.type "list_reverseiterator") "__length_hint__"=pure (some (.builtin "list_reverseiterator.__length_hint__")):=by rw[z9,uS];kernel_rfl
section
variable {prog:Program}{A:Around}{R:Result->Shared->Prop}
variable {fp wr:List Addr}{G:Array GenState->Array GenState->Prop}{P:Nat->Value->Prop}{St:Nat->Shared->Prop}
theorem sM (W:WalksS prog w A.in1 I fp wr G n P St)(hT:∀i s,St i s->s.TypeIs (.ref I) "list_reverseiterator")(S:Addr)(res:Value)(c₀:Nat)(CL:St 0 s)(DF:S∉fp)(hI:I∈fp)
  (hS:s.heap.get? S=some { cls:=.type "list", data:=.seq #[] c₀ })
  (hR:∀s' Ck c',Moved (S::wr) G s s'->s'.heap.get? S=some { cls:=.type "list", dict:=none,data:=.seq Ck c',slots:=#[] }->ItemsOf P Ck n->R (.ok (.ret res)) s') (hn:n<=sizeLine) :
  wpAny (model prog w) A.in1 (Builtin.List.listExtendWith (.ref S) (.ref I) res)
   (fun fin s'=>match fin with | .done f=>R (.ok f) s' | .again c'=>c'.quiet=true/\codeAny (model prog w) A c' R s') (fun e s'=>R (.error e) s') s:=by
 have hSI:S≠I:=fun e=>DF (e▸hI);unfold Builtin.List.listExtendWith;refine mG (uc (hT 0 _ CL) ?_);have h1:Builtin.List.listSameRef (.ref S) (.ref I)=false:=by simp[Builtin.List.listSameRef,hSI]
 rw[nr (by rw[h1];decide)];refine mG (W.self 0 _ _ _ CL ?_);refine mG (sF ?_);unfold Builtin.List.listLengthHint;refine mG (yg (hT 0 _ CL) ZDR ?_);show wpAny _ A.in1 (specialOf (Value.ref I) (Str.ofString "__length_hint__") >>= _) _ _ _;refine mG (yg (hT 0 _ CL) uv ?_);generalize Gb:("list_reverseiterator.__length_hint__":String)=Ks
 wp_delta
 rw[show splitId Ks=some ("list_reverseiterator","__length_hint__") from by subst Gb;decide +kernel];subst Gb;refine mG (wK (b:=true) (hT 0 _ CL) (by rw[vb];kernel_rfl) ?_);refine mf ?_;rw[nr (by decide)];refine mf ⟨y4 F.plain_extend_loop _,ZA6 W hn _ DF _ n 0 _ _ _ rfl (CH _) CL hS (ZR P) fun s' Ck c' hm CJ Ax=>?_⟩;exact hR s' Ck c' hm CJ Ax
theorem ZAR (W:WalksS prog w A.in1 I fp wr G n P St)(hT:∀i s,St i s->s.TypeIs (.ref I) "list_reverseiterator")(S:Addr)(CL:St 0 s)(DF:S∉fp)(hI:I∈fp)
  (hS:s.heap.get? S=some { cls:=.type "list", data:=.seq #[] })
  (hR:∀s' Ck c',Moved (S::wr) G s s'->s'.heap.get? S=some { cls:=.type "list", dict:=none,data:=.seq Ck c',slots:=#[] }->ItemsOf P Ck n->R (.ok (.ret .none)) s') (hn:n<=sizeLine) :
  wpAny (model prog w) A.in1 (Builtin.«list.__init__» ⟨[.ref S,.ref I],[]⟩)
   (fun fin s'=>match fin with | .done f=>R (.ok f) s' | .again c'=>c'.quiet=true/\codeAny (model prog w) A c' R s') (fun e s'=>R (.error e) s') s:=by
 show wpAny _ A.in1 (do let old <- Builtin.List.listItems (.ref S);Builtin.List.listUpdate (.ref S) (fun _=>#[]);letGo old.toList.reverse;Builtin.List.listExtendWith (.ref S) (.ref I) .none) _ _ s
 refine mG ?_;unfold Builtin.List.listItems;refine mG (ZAO hS rfl (mf ?_));show wpAny _ A.in1 (updateSeq S (fun _=>#[]) >>= fun _=>letGo (#[]:Array Value).toList.reverse >>= fun _=>Builtin.List.listExtendWith (.ref S) (.ref I) .none) _ _ s;refine mG (wC hS rfl ?_);have hS₂:=FQ (Obj.mapSeq (fun _=>(#[]:Array Value))) hS rfl;have Gg:∀b o,b≠S->s.heap.get? b=some o->(s.heap.update S (Obj.mapSeq (fun _=>(#[]:Array Value)))).get? b=some o:=
  fun b o hb e=>(GP _ _ (BP hb)).trans e
 refine mG (wpAny_letGo ?_);refine sM (hn:=hn) W hT S .none _ (W.frame 0 s _ s.toks CL (Ao _) fun b hb o e=>Gg b o (fun h=>DF (h▸hb)) e) DF hI hS₂ fun s' Ck c' hm CJ Ax=>?_;exact hR s' Ck c' (Moved.trans W.gtrans ((Moved.refl W.grefl).then_heap (Ao _) fun b o hb e=>Gg b o (fun h=>hb (h▸DC)) e) hm) CJ Ax
theorem ZBU (W:WalksS prog w A.in1.in1 I fp wr G n P St)(hT:∀i s,St i s->s.TypeIs (.ref I) "list_reverseiterator")(CL:St 0 s)(MP:∀b∈fp,b<s.heap.objs.size)(hI:I∈fp)
  (hQ:∀s' Ck c',Moved (s.heap.objs.size::wr) G { s with heap:=s.heap.push { cls:=.type "list", data:=.seq #[] } } s'->
   s'.heap.get? s.heap.objs.size=some { cls:=.type "list", dict:=none,data:=.seq Ck c',slots:=#[] }->ItemsOf P Ck n->Q (.ref s.heap.objs.size) s') (hn:n<=sizeLine) :
  wpAny (model prog w) A (call (.type "list") [.ref I]) Q E s:=by
 have DF:s.heap.objs.size∉fp:=fun hm=>LC _ (MP _ hm);refine callType_codes (Q₁:=fun obj s₁=>obj=.ref s.heap.objs.size/\s₁={ s with heap:=s.heap.push { cls:=.type "list", data:=.seq #[] } }) F.called_list (F.typeCall_list_1 _) F.entry_list_init
  (code_list_new _ ⟨rfl,rfl⟩) fun obj s₁ h₁=>?_
 obtain⟨rfl,rfl⟩:=h₁;have hS:(s.heap.push { cls:=.type "list", data:=.seq #[] }).get? s.heap.objs.size=some { cls:=.type "list", data:=.seq #[] }:=BR _ rfl;refine⟨⟨_,hS,rfl⟩,F.args_list_init_2 _ _,ZAR (hn:=hn) W hT _ (W.frame 0 s _ s.toks CL (Ao _) fun b _ o e=>BE _ e) DF hI hS fun s' Ck c' hm CJ Ax=>?_⟩;exact⟨rfl,hQ s' Ck c' hm CJ Ax⟩
variable {l:Addr}{items:Array Value}
end
end L2
namespace HT
variable {E Q:Value->Shared->Prop}
section
variable {prog:Program}{w:World}{A:Around}{s:Shared}
theorem qG {t sl:Addr}{items:Array Value}{vl vu:Value}{lo hi:Option Int}(ht:IsTup s.heap t items)(hs:s.heap.IsSliceOf sl vl vu .none)(pl:IsPart vl lo)(pu:IsPart vu hi)
  (hw:Aj items.size 0 lo=0/\Aj items.size items.size hi=items.size) (h:Q (.ref t) s):wpAny (model prog w) A (getItem (.ref t) (.ref sl)) Q E s:=by
 obtain⟨os,L0,QX,Mw⟩:=id hs;have T8:s.TypeIs (.ref sl) "slice" := ⟨os,L0,QX⟩;unfold getItem
 try with_reducible refine sF ?_
 first | refine mG (mf ?_) | skip
 refine mG (wpAny_sequenceKey ht.typeIs (by decide) ?_);refine mG (qW (name:=Str.ofString "__getitem__") ht.typeIs Zj
  (rL Zj ht.typeIs entry_tuple_getitem ?_ (args_tuple_getitem _ _)))
 show wpAny _ _ (Builtin.Tuple.tupleItemsOf (.ref t) >>= _) _ _ s;refine mG (tupleItemsOf_ ht ?_);refine mG (uc T8 ?_);rw[pR (by decide)];refine mG (de hs pl pu ?_);have gc:((((Aj items.size 0 lo:Nat):Int) == 0 && (1:Int) == 1 && (Aj items.size items.size hi - Aj items.size 0 lo) == items.size)=true):=by
  rw[hw.1,hw.2];simp
 first
 | rw[pR gc]
 | simp only[gc,ZAp]
 refine mG ?_;unfold Builtin.Tuple.tupleIsExact;refine mG (uc ht.typeIs (mf ?_));rw[pR (by decide)];exact mG (ZAD (mf ⟨_,rfl,mf h⟩))
end
end HT
namespace L2
variable {X:Cx}{xs ys:List V}{A4 vs:List Value}{acc items ps:Array Value}{pins:ZHQ}{σ:St}{H:Hp}{s:Shared}{h':Heap}{ep i k1 n nT nl pl sl t':Nat}{fp:List Addr}{I S a it:Addr}{o oT:Obj}{w:World}{es:Array (Int×Value)}{p1 pos:Pos}{t:SetTable}{prog:Program}{A:Around}{E Q₁:Value->Shared->Prop}{e:Int×Value}{Q:Option Value->Shared->Prop}{α:Type}{f v x:Value}{AL ss:List Str}
def cR (K:ZHP):V->Option Int->Option Int->Hp->VK->Prop:=fun x lo hi H Q=>∃a xs,x=.ref a/\AA K H a xs/\
 ((HT.Aj xs.length 0 lo=0/\HT.Aj xs.length xs.length hi=xs.length)->Q (.ref a) H)/\(¬ (HT.Aj xs.length 0 lo=0/\HT.Aj xs.length xs.length hi=xs.length)->∀p,H p=none->Q (.ref p) (upd H p (.tup (C7 xs lo hi))))
theorem jA:Jb X (cR X.K):=by
 intro pins s σ H x v vl vu lo hi sl Q I rx hs pl pu h;obtain⟨a,xs,rfl,hx,q1,q2⟩:=h
 by_cases hw:HT.Aj xs.length 0 lo=0/\HT.Aj xs.length xs.length hi=xs.length
 ·cases rx;obtain⟨A4,r,ht,hz⟩:=I.tuple hx;have hlen:A4.toArray.size=xs.length:=by rw[Bo];exact r.length.symm
  refine⟨"tuple", _,PyProof.Rows.slot_tuple_getitem.lookup,ht.typeIs,?_⟩;exact HT.qG ht hs pl pu (by rw[hlen];exact hw) ⟨.ref a,H,I,rfl,q1 hw⟩
 ·exact aC pins s σ H _ v vl vu lo hi sl Q I rx hs pl pu ⟨a,xs,rfl,hx,hw,q2 hw⟩
def uw (K:ZHP):V->Option Int->Option Int->Hp->VK->Prop:=fun x lo hi H Q=>∃a tp xs,x=.ref a/\CA K tp H a xs/\∀p H',A8 H H'->CA K tp H' p (C7 xs lo hi)->Q (.ref p) H'
theorem ZCM {lo hi:Option Int}(h:HT.Aj xs.length 0 lo=0/\HT.Aj xs.length xs.length hi=xs.length):C7 xs lo hi=xs:=by
 unfold C7;rw[h.1,h.2];simp
theorem KQ:Jb X (uw X.K):=by
 intro pins s σ H x v vl vu lo hi sl Q I rx hs pl pu h;obtain⟨a,tp,xs,rfl,hx,q⟩:=h;cases tp with
 | false=>exact JL pins s σ H _ v vl vu lo hi sl Q I rx hs pl pu ⟨a,xs,rfl,hx,fun p hp=>q p _ (Ab hp _) (AI.of AH)⟩
 | true=>exact jA pins s σ H _ v vl vu lo hi sl Q I rx hs pl pu ⟨a,xs,rfl,hx,fun hw=>q a H (A8.refl _) (by rw[ZCM hw];exact hx),fun _ p hp=>q p _ (Ab hp _) (AA.of AH)⟩
theorem vQ (r:Vals ys A4)(h:ItemsOf (fun i v=>A4.toArray[A4.toArray.size - 1 - i]?=some v) acc A4.toArray.size):∃us:List Value,Vals ys.reverse us/\acc=us.toArray:=by
 have e:acc=A4.reverse.toArray:=by
  apply Array.toList_inj.mp;rw[List.toList_toArray];apply lL;intro i;have hs:acc.size=A4.length:=by rw[h.1];simp
  by_cases hi:i<A4.length
  ·have h1:acc.toList[i]?=some (acc[i]'(by omega)):=by simp
   have h2:=h.2 i (acc[i]'(by omega)) (by simp);rw[h1,List.getElem?_reverse hi];simp at h2;rw[<- h2]
  ·have h1:acc.toList[i]?=none:=Ox (by simp;omega);have h2:A4.reverse[i]?=none:=Ox (by simp;omega);rw[h1,h2]
 exact⟨A4.reverse,r.reverse,e⟩
theorem Inv.dR (I:Inv X pins σ H s)(hf:∀b∈fp,Dy X pins H b)(k:∀b o,b∉fp->s.heap.get? b=some o->h'.get? b=some o):
  Inv X pins σ H { s with heap:=h',toks:=t' }:=by
 have Iu:∀b u,H b=some u->b∉fp:=fun b u e z=>by rw[(hf b z).1] at e;cases e
 refine I.step (g':=s.gens) (d':=s.drawn) (ch:=fp) (fun b hb=>?_) (fun b o _ _ hc e _=>k b o hc e) (fun b o _ _ hc e _=>⟨o.slots,k b o hc e⟩) (fun _ _ _ _ n=>n)
  (fun b o hc e=>⟨o,k b o hc e⟩) (fun _ _ e=>e) (fun _ _ _ e=>e) (fun b ps e=>⟨#[],by rw[e];simp⟩) (fun m hm=>?_) (fun b u e=>?_) I.bare
 ·obtain⟨_,h1,_,h3,h4,h5⟩:=hf b hb;exact⟨h3,h1,h4,h5⟩
 ·obtain⟨o,es,ep,ho,r⟩:=hm;exact⟨o,es,ep,k _ o (fun z=>(hf _ z).2.1 rfl) ho,r⟩
 ·refine(I.AK b u e).IS (fun c v hc q=>k c v ?_ q) (fun _ q=>q) fun _ _ q=>q;rcases hc with z | z
  ·rw[z];exact Iu b u e
  ·exact Iu c _ z
theorem Inv.d4 {o:HO}(I:Inv X pins σ H s)(hf:∀b∈fp,Dy X pins H b)(k:∀b o,b∉fp->s.heap.get? b=some o->h'.get? b=some o)
  (ha:s.heap.objs.size<=a) (new:Bx X.prog X.w (upd H a o) h' a o):Inv X pins σ (upd H a o) { s with heap:=h',toks:=t' }:=by
 have hn:H a=none:=I.AK.fresh ha;have Iu:∀b u,H b=some u->b∉fp:=fun b u e z=>by rw[(hf b z).1] at e;cases e
 have ne:∀b u,H b=some u->b≠a:=fun b u e=>EU e hn;have ne2:∀b u,s.heap.get? b=some u->b≠a:=fun b u e=>BJ (DO (BC e) ha);refine I.step (g':=s.gens) (d':=s.drawn) (ch:=fp) (fun b hb=>?_) (fun b o _ _ hc e _=>k b o hc e) (fun b o _ _ hc e _=>⟨o.slots,k b o hc e⟩) (fun b o _ e n=>by rw[Ad (ne2 b o e)];exact n)
  (fun b o hc e=>⟨o,k b o hc e⟩) (fun b _ e=>by rw[Ad (ne b _ e)];exact e) (fun b _ _ e=>by rw[Ad (ne b _ e)];exact e) (fun b ps e=>⟨#[],by rw[Ad (ne b _ e),e];simp⟩) (fun m hm=>?_) (fun b u e=>?_) I.bare
 ·obtain⟨_,h1,_,h3,h4,h5⟩:=hf b hb;exact⟨h3,h1,h4,h5⟩
 ·obtain⟨o,es,ep,ho,r⟩:=hm;exact⟨o,es,ep,k _ o (fun z=>(hf _ z).2.1 rfl) ho,r⟩
 ·by_cases hb:b=a
  ·subst hb;rw[AH] at e;cases e;exact new
  ·rw[Ad hb] at e;refine(I.AK b u e).IS (fun c v hc q=>k c v ?_ q) (fun c q=>by rw[Ad (ne c _ q)];exact q) fun c _ q=>by rw[Ad (ne c _ q)];exact q
   rcases hc with z | z
   ·rw[z];exact Iu b u e
   ·exact Iu c _ z
def gx (K:ZHP)(a:Addr)(xs:List V):It:=
 ⟨fun i H=>AI K H a xs/\i<xs.length,fun i H x H'=>∃p y,xs[i]?=some y/\x=.ref p/\H p=none/\H'=upd H p (.tup [.int i,y]),fun i H=>AI K H a xs/\xs.length<=i⟩
theorem bw {P:Program}{K:ZHP}{es:List Expr}(a e it:Addr)(xs:List V)(MM:e≠it):
  Turn P w K (.Tuple es k1 p1) (gx K a xs) [e,it] e (fun i h=>(∃old,IsEnum h e it i old)/\h.IsListIter it a i) where
 mem:=by simp
 obj:=fun i h st b hb=>by
  obtain⟨⟨old,h1⟩,o,h2,_,d⟩:=st;rcases List.mem_cons.mp hb with z | z
  ·subst z;exact⟨_,h1,fun v z=>by cases z⟩
  ·have:b=it:=by simpa using z
   subst this;exact⟨o,h2,fun v z=>by rw[d] at z;cases z⟩
 keep:=fun i h h' st k=>⟨let ⟨old,h1⟩:=st.1;⟨old,k e (by simp) _ h1⟩,st.2.at fun o q=>k it (by simp) o q⟩
 item:=by
  intro X hP hw hK hc i pins s σ H E I hf st hg;subst hP hw hK;obtain⟨hq,hi⟩:=hg;obtain⟨⟨old,he⟩,hit⟩:=st;obtain⟨A4,rv,p,hz⟩:=I.list hq;obtain⟨u,hu,ru⟩:=rv.get (B9 hi);refine wpAny_pyNext_enum_item he hit p.isList (x:=u) (by simpa using hu) MM fun h1 Hb ZBC Kf aT VR=>⟨_,rfl,?_⟩
  refine ZAT Hb fun h2 Je D4=>?_;have AW:e<s.heap.objs.size:=BC he;have L5:h2.get? s.heap.objs.size=some { cls:=.type "tuple", data:=.seq #[.int i s.toks,u] }:=(D4.2 _ (Jq AW)).trans Kf;have kp:∀b o,b∉[e,it]->s.heap.get? b=some o->h2.get? b=some o:=fun b o hb q=>by
   have Bz:b≠e/\b≠it:=by simpa using hb
   exact(D4.2 b Bz.1).trans (VR b o Bz.1 Bz.2 q)
  refine⟨.ref s.heap.objs.size,_,I.d4 (t':=s.toks+1) (a:=s.heap.objs.size) (o:=.tup [.int i,xs[i]]) hf kp (Ao _) ?_,rfl,⟨_,_,B9 hi,rfl,I.AK.fresh (Ao _),rfl⟩,⟨⟨_,Je⟩,ZBC.at fun o q=>(D4.2 it (BP MM)).trans q⟩,fun b hb=>?_⟩
  ·exact⟨(by show 2<=sizeLine;decide),[.int i s.toks,u],.cons ⟨_,rfl⟩ (.cons ru .nil),⟨_,L5,rfl,_,rfl⟩,fun ob q=>by rw[L5] at q;cases q;rfl⟩
  ·have Qn:b<s.heap.objs.size:=by
    rcases List.mem_cons.mp hb with z | z
    ·rw[z];exact AW
    ·have:b=it:=by simpa using z
     obtain⟨o,q,_⟩:=hit;rw[this];exact BC q
   rw[Ad (BJ Qn)];exact(hf b hb).1
 done:=by
  intro X hP hw hK hc i pins s σ H E I hf st hg;subst hP hw hK;obtain⟨hq,hx⟩:=hg;obtain⟨⟨old,he⟩,hit⟩:=st;obtain⟨A4,rv,p,hz⟩:=I.list hq;have hl:=rv.length;exact wpAny_pyNext_enum_end (I.ok.hd hc) he hit p.isList (by simp;omega) fun h' eb=>⟨rfl,I.dR (t':=s.toks) hf fun b o hb q=>eb b o (fun z=>hb (by simp[z])) q⟩
 self:=fun _ _ _ _ _ st h=>let ⟨⟨_,he⟩,_⟩:=st;zN he h
def W2 (K:ZHP)(t:TA):TI:=fun σ H R=>t σ H fun vs H1=>∃a xs,vs=[.ref a]/\AI K H1 a xs/\R (gx K a xs) H1
theorem o4 {es:List Expr}{p:Pos}{l:Expr}{t:TA}(hg:Gl X "enumerate")(hm:X.mg "enumerate"=none)(ha:QA X [l] t)(hs:starEach [l] X.env=[(false,eval l X.env)]:=by rfl):
  QI X (.Tuple es k1 p1) (.Call (.Name "enumerate" p) [l] [] pos) (W2 X.K t):=⟨by
 have ha:=ha.h;intro pins s σ H R I h;refine uP (Iz I hg hm (show bootBuiltins "enumerate"=some (.type "enumerate") by decide +kernel) ?_ (by decide) (by decide));refine P6 (AS (ha pos pins s σ H _ I h) fun us s1 ⟨vs,H1,I1,r1,q1⟩=>?_) hs rfl;obtain⟨a,xs,rfl,hq,q⟩:=q1;obtain⟨u,rfl,rx⟩:=vals1 r1;cases rx;obtain⟨A4,rv,p,hz⟩:=I1.list hq;refine call_enumerate_list p.isList fun h' he hit hsz kp=>?_;refine zN he ?_;have Af:s1.heap.objs.size+1≠s1.heap.objs.size:=ZGN _;refine⟨s1.heap.objs.size+1,[s1.heap.objs.size+1,s1.heap.objs.size],_,_,H1,rfl,I1.kept (t':=s1.toks) kp,bw a _ _ xs Af,⟨⟨_,he⟩,hit⟩,fun b hb=>?_,q⟩;have Qn:s1.heap.objs.size<=b:=by
  rcases List.mem_cons.mp hb with z | z
  ·rw[z];exact ET _
  ·have:b=s1.heap.objs.size:=by simpa using z
   rw[this];exact Ao _
 exact I1.Kr Qn (I1.AK.fresh Qn)⟩
open AutoSeq1 (wpAny_loadPart')
theorem zH (t:SetTable)(n:Nat):(t.orStandIn n).led=t.led:=by unfold SetTable.orStandIn;split <;> rfl
theorem yJ (t:SetTable)(es:Array (Int×Value))(h:Int)(x:Value):(layNew t es h x).2.1.led=t.led:=by
 unfold layNew;split
 ·show(SetTable.orStandIn (t.put _).1 _).led=t.led;rw[zH];rfl
 ·rfl
theorem my {mask finger moves:Nat}{led plain:Bool}{hs:Array Int}{p:SetTable×Array Nat}(h:SetTable.laid mask finger moves led plain hs=some p):p.1.led=led/\p.1.plain=plain:=by
 unfold SetTable.laid at h;cases hc:SetTable.layClean mask hs with
 | none=>rw[hc] at h;cases h
 | some ow=>rw[hc] at h;cases h;exact⟨rfl,rfl⟩
theorem ug (t:SetTable)(es:Array (Int×Value))(n:Nat)(hp:t.plain=false):(relayAll t es n).2.1.led=t.led/\(relayAll t es n).2.1.plain=false:=by
 unfold relayAll;split
 ·next t' order hr=>
  have q:=my (p:=(t',order)) hr;dsimp only at q ⊢;split
  ·exact⟨q.1,q.2.trans hp⟩
  ·exact⟨rfl,rfl⟩
 ·exact⟨rfl,rfl⟩
def G6 (w:World):Bool:=w.params.followText "set-order"
def Ct (prog:Program)(w:World)(h:Heap)(a:Addr)(S:Str->Bool)(n:Nat):Prop:=
 ∃o es ep t,h.get? a=some o/\o.ExactSet/\o.data=.set es ep t/\ElemsOf (PySem.strKind prog w) es.toList/\(∀k,S k=true↔∃e∈es.toList,(PySem.strKind prog w).is k e.2=true)/\
  es.size<scanBound/\t.fits es.size=true/\es.size=n/\(t.led=!G6 w)/\(0<es.size->t.plain=false)
theorem Ct.keep {h:Heap}{S:Str->Bool}(x:Ct prog w h a S n)(k:∀o,h.get? a=some o->h'.get? a=some o):Ct prog w h' a S n:=by
 obtain⟨o,es,ep,t,ho,r⟩:=x;exact⟨o,es,ep,t,k o ho,r⟩
theorem Ct.congr {h:Heap}{S S':Str->Bool}{n':Nat}(x:Ct prog w h a S n)(e:∀k,S k=S' k)(en:n=n'):Ct prog w h a S' n':=by
 obtain⟨o,es,ep,t,h1,h2,h3,h4,h5,h6,h7,h8,h9⟩:=x;exact⟨o,es,ep,t,h1,h2,h3,h4,fun k=>by rw[<- e k];exact h5 k,h6,h7,h8.trans en,h9⟩
theorem iV {h:Heap}(ho:h.get? a=some o)(hd:o.data=.set es ep t)(Di:Array (Int×Value))(t':SetTable):
  (h.update a (Obj.putSet Di t')).get? a=some { o with data:=.set Di (ep+1) t' }:=by
 have q:=FQ (Obj.putSet Di t') ho (by rw[putSet_of Di t' hd];rfl);rw[q,putSet_of Di t' hd]
theorem Ct.put {S:Str->Bool}{k:Str}{tk:Tok}{Q:Bool->Shared->Prop}(hS:Ct prog w s.heap a S n)(OI:n+1<scanBound)
  (h:∀h',Heap.SameBut a s.heap h'->Ct prog w h' a (fun k'=>S k' || decide (k'=k)) (if S k then n else n+1)->Q (!S k) { s with heap:=h' }) :
  wpAny (model prog w) A (setAddHashed a (.str k tk) ((PySem.strKind prog w).hash k)) Q E s:=by
 obtain⟨o,es,ep,t,ho,hex,hd,Lr,FW,hb,hf,hn,R1,Bq⟩:=hS;have Nb:(PySem.strKind prog w).is k (.str k tk)=true:=ZGa prog w k tk;have W6:(Value.str k tk).scannable=true:=rfl;have rm:es.size+1<scanBound:=by rw[hn];exact OI
 have gw:∀(b:Bool) (s1:Shared) (Q1:Unit->Shared->Prop),Q1 () s1->wpAny (model prog w) A (match b with | true=>rule "set.scan.the-table-gave-way" | false=>pure ()) Q1 E s1:=by
  intro b s1 Q1 q;cases b
  ·exact mf q
  ·exact ZAD q
 unfold setAddHashed setAddHashedIn;refine sF ?_;refine mG (xG ho hd hf ?_);dsimp only;rw[byScan_of W6 hb Lr];simp only[↓reduceIte];unfold setAddByScan;refine mG ?_;refine mG (ZAD ?_);refine mG (wpAny_setScan_of Nb ho hd hf Lr ?_);cases hr:List.findIdx? (fun e=>(PySem.strKind prog w).is k e.2) es.toList with
 | some j=>
  dsimp only;obtain⟨hj,hpj,_⟩:=List.findIdx?_eq_some_iff_getElem.mp hr;have hk:S k=true:=(FW k).mpr ⟨es.toList[j],LA hj,hpj⟩;refine mf ?_;refine mf ?_;have q:=h s.heap (Heap.SameBut.refl a s.heap) ⟨o,es,ep,t,ho,hex,hd,Lr,fun k'=>by
   rw[<- FW k',Bool.or_eq_true,decide_eq_true_eq];exact⟨fun z=>z.elim id fun e=>e▸hk,Or.inl⟩,hb,hf,by rw[pR hk];exact hn,R1,Bq⟩
  rw[hk] at q;exact q
 | none=>
  dsimp only;have hk:S k=false:=by
   cases e:S k with
   | false=>rfl
   | true=>
    obtain⟨x,hx,hp⟩:=(FW k).mp e;have q:=List.findIdx?_eq_none_iff.mp hr x hx;rw[hp] at q;exact Bool.noConfusion q
  have p1:=layNew_perm t es ((PySem.strKind prog w).hash k) (.str k tk);have f1:=layNew_fits t es ((PySem.strKind prog w).hash k) (.str k tk);have l1:=yJ t es ((PySem.strKind prog w).hash k) (.str k tk);generalize layNew t es ((PySem.strKind prog w).hash k) (.str k tk)=L at p1 f1 l1 ⊢;obtain⟨CU,t1,wd,gv⟩:=L;dsimp only at p1 f1 l1 ⊢;rw[ZFq] at p1;have uT:ElemsOf (PySem.strKind prog w) CU.toList:=(Lr.push Nb W6).perm p1;have m1:∀k',(S k' || decide (k'=k))=true↔∃e∈CU.toList,(PySem.strKind prog w).is k' e.2=true:=mem_push_iff Nb FW p1;have z1:CU.size=n+1:=by rw[<- GO,p1.length_eq,BL,GO,hn];rfl
  have b1:CU.size<scanBound:=by rw[z1];exact OI
  have fin:∀(h':Heap) (o':Obj) (Di:Array (Int×Value)) (HD:Nat) (t':SetTable),Heap.SameBut a s.heap h'->h'.get? a=some o'->o'.ExactSet->o'.data=.set Di HD t'->Di.toList.Perm CU.toList->t'.fits Di.size=true->t'.led=t.led->t'.plain=false->
    Q true { s with heap:=h' }:=by
   intro h' o' Di HD t' sb go xo d' pp ff ll pf;have zz:Di.size=n+1:=by rw[<- z1,<- GO,pp.length_eq,GO]
   have q:=h h' sb ⟨o',Di,HD,t',go,xo,d',uT.perm pp,fun k'=>(m1 k').trans ⟨fun⟨e,he,q⟩=>⟨e,pp.mem_iff.mpr he,q⟩,fun⟨e,he,q⟩=>⟨e,pp.mem_iff.mp he,q⟩⟩,by rw[zz];exact OI,ff,by rw[hk];exact zz,ll.trans R1,fun _=>pf⟩;rw[hk] at q;exact q
  have tail:∀(t2:SetTable),t2.fits CU.size=true->t2.led=t.led->t2.plain=false->wpAny (model prog w) A (do
    storeSet a CU t2
    if(
      !wd && t2.tooFull)=true then do
      (match(relayAll t2 CU (SetTable.grown CU.size)).2.2 with | true=>rule "set.scan.the-table-gave-way" | false=>pure ())
      storeSet a (relayAll t2 CU (SetTable.grown CU.size)).1 (relayAll t2 CU (SetTable.grown CU.size)).2.1
      pure (some true)
     else pure (some true)) (fun r s'=>match r with | some b=>Q b s' | none=>False) E s:=by
   intro t2 f2 l2 cX;refine mG (wpAny_storeSet_of ho hd ?_ (ZAY b1));have o1:=iV ho hd CU t2;have gq:=Mg s.heap a (Obj.putSet CU t2);split
   ·have p3:=relayAll_perm t2 CU (SetTable.grown CU.size);have f3:=relayAll_fits t2 CU (SetTable.grown CU.size);have l3:=ug t2 CU (SetTable.grown CU.size) cX;generalize relayAll t2 CU (SetTable.grown CU.size)=Rl at p3 f3 l3 ⊢;obtain⟨U2,t3,g3⟩:=Rl;dsimp only at p3 f3 l3 ⊢;have z3:U2.size=CU.size:=by rw[<- GO,p3.length_eq,GO]
    refine mG (gw _ _ _ ?_);refine mG (wpAny_storeSet_of o1 rfl ?_ (ZAY (by rw[z3];exact b1)));refine mf ?_;exact fin _ _ U2 _ t3 (gq.trans (Mg _ a _)) (iV o1 rfl U2 t3) hex rfl p3 f3 (l3.1.trans l2) l3.2
   ·exact mf (fin _ _ CU _ t2 gq o1 hex rfl (Sf _) f2 l2 cX)
  refine mG (gw _ _ _ ?_);split
  ·next PU=>
   refine mG ?_;rw[hashByValue_scannable 8 W6];refine mf ?_;refine rJ (tail { t1 with plain:=false } (SetTable.fits_plain_off f1) l1 rfl) (fun r s' q=>?_) fun _ _ e=>e
   cases r with
   | none=>exact q.elim
   | some b=>exact mf q
  ·next PU=>
   refine mG (mf ?_);simp only[↓reduceIte];refine rJ (tail t1 f1 l1 (by simpa using PU)) (fun r s' q=>?_) fun _ _ e=>e
   cases r with
   | none=>exact q.elim
   | some b=>exact mf q
theorem Tb {α:Type}:∀(l:List α) (i:Nat) (h:i<l.length),(l[i]::l.eraseIdx i).Perm l
 | _::_,0,_=>Sf _
 | x::r,i+1,h=>(List.Perm.swap x (r[i]'(by simpa using h)) (r.eraseIdx i)).trans ((Tb r i (by simpa using h)).cons x)
theorem tQ (nx:Nat->Nat):∀(n k:Nat) (l:List α) (out:Array α),l.length=n->(pickOrder.go nx n k l out).toList.Perm (out.toList++l):=by
 intro n
 induction n with
 | zero=>
  intro k l out hl;rw[List.length_eq_zero_iff.mp hl];unfold pickOrder.go;simp
 | succ n ih=>
  intro k l out hl;have AW:nx k % l.length<l.length:=Nat.mod_lt _ (by omega);unfold pickOrder.go;rw[B9 AW];dsimp only;refine(ih _ _ _ (by rw[ZGB AW];omega)).trans ?_;rw[ZFq,CC];exact List.Perm.append_left _ (Tb l _ AW)
theorem Ww (nx:Nat->Nat)(xs:Array α):(pickOrder nx xs).toList.Perm xs.toList:=by
 have q:=tQ nx xs.size 0 xs.toList #[] (by simp)
 simpa[pickOrder] using q
theorem pN {src:Source}{Q:Nat->Shared->Prop}(hn:n≠0)(h:∀k d,k<n->Q k { s with drawn:=d }):wpAny (model prog w) A (choose src n) Q E s:=by
 intro Γ p hΓ;show Sem.wp _ _ (.choose src n .pure) _ _ _ _;rw[Sem.wp_choose];refine⟨hn,?_⟩;rw[Sem.wp_pure];exact h _ _ (Nat.mod_lt _ (Nat.pos_of_ne_zero hn))
theorem oY:∀(n:Nat) (xs:List α) (s:Shared) (Q:List α->Shared->Prop),xs.length<=n->(∀ys d,ys.Perm xs->Q ys { s with drawn:=d })->wpAny (model prog w) A (drawOrder n xs) Q E s:=by
 intro n
 induction n with
 | zero=>
  intro xs s Q hl h;rw[List.length_eq_zero_iff.mp (Nat.le_zero.mp hl)] at h ⊢;exact mf (h [] s.drawn (Sf _))
 | succ n ih=>
  intro xs s Q hl h;cases xs with
  | nil=>exact mf (h [] s.drawn (Sf _))
  | cons x r=>
   unfold drawOrder;refine mG (pN (by simp) fun k d hk=>?_);rw[B9 hk];dsimp only;refine mG (ih _ _ _ (by rw[ZGB hk];simp only[BH] at hl ⊢;omega) fun ys d' hp=>?_);exact mf (h _ d' ((hp.cons _).trans (Tb (x::r) _ hk)))
theorem ZEk {Q:Bool->Shared->Prop}(ho:s.heap.get? a=some o)(hd:o.data=.set es ep t)(hf:t.fits es.size=true)
  (h:Q (!G6 w && (!t.plain && decide (es.size > 1))) s):wpAny (model prog w) A (setDrawn a) Q E s:=by
 unfold setDrawn;refine mG (xG ho hd hf ?_);dsimp only;unfold setsByText;refine mG (mG (yc (mf ?_)));exact mf h
theorem kq {Q:Option (Value×Nat)->Shared->Prop}(hb:G6 w=true)(ho:s.heap.get? a=some o)(hd:o.data=.set es ep t)(hf:t.fits es.size=true)
  (h:Q (((pickOrder (w.params.setOrder a ep) es)[i]?).map fun e=>(e.2,sl)) s):wpAny (model prog w) A (setNext a sl i ep) Q E s:=by
 have Bz:w.params.followText "set-order"=true:=hb;unfold setNext;refine mG (xG ho hd hf ?_);dsimp only;unfold setsByText;refine mG (mG (yc (mf ?_)));show wpAny _ _ (if w.params.followText "set-order"=true then _ else _) _ _ _
 rw[pR Bz,nr (by simp)];refine mG ?_;unfold setWalk setsByText;refine mG (xG ho hd hf ?_);dsimp only;refine mG (mG (yc (mf ?_)));show wpAny _ _ (if w.params.followText "set-order"=true then _ else _) _ _ _
 rw[pR Bz];exact mG (yc (mf (mf h)))
theorem hV {Q:Option (Value×Nat)->Shared->Prop}(hb:G6 w=false)(ho:s.heap.get? a=some o)(hd:o.data=.set es ep t)(hf:t.fits es.size=true)
  (h1:es.size<=1) (hl:t.led=true)
  (h:Q (match es[SetTable.below t.place sl]?,t.place[SetTable.below t.place sl]? with | some (_,x),some j=>some (x,j+1) | _,_=>none) s):wpAny (model prog w) A (setNext a sl i ep) Q E s:=by
 have Bz:w.params.followText "set-order"=false:=hb;unfold setNext;refine mG (xG ho hd hf ?_);dsimp only;unfold setsByText;refine mG (mG (yc (mf ?_)));show wpAny _ _ (if w.params.followText "set-order"=true then _ else _) _ _ _
 rw[nr (by rw[Bz];decide)];show wpAny _ _ (if(!t.plain && decide (es.size > 1))=true then _ else _) _ _ _
 rw[nr (by rw[qQ (by omega)];simp)];refine mG (m:=_) ?_
 wp_delta
 rw[hl];exact mf (mf h)
theorem ye {Q:Value->Shared->Prop}(ho:s.heap.get? a=some o)(hd:o.data=.set es ep t)(hf:t.fits es.size=true)(he:es[pl]?=some e)
  (h:Q e.2 s):wpAny (model prog w) A (setNextDrawn a pl ep) Q E s:=by
 unfold setNextDrawn;refine mG (xG ho hd hf ?_);dsimp only;rw[nr (by simp),he];exact mf h
theorem dS:Manifest.owners.lookup (String.ofList ['r','o','t','a','r','e','t','i','_','t','e','s'].reverse)=some Manifest.sig_set_iterator:=by kernel_rfl
theorem Gp:Slot "set_iterator" "__next__" "set_iterator.__next__" :=
 .of (owner:="set_iterator") (n:="__next__") (by rw[z9,uS];kernel_rfl) (by decide +kernel) (by decide +kernel) (by decide +kernel)
  (by first | exact .inl (by decide +kernel) | exact .inr (by decide +kernel)) (by rw[vb];kernel_rfl)
theorem Py:entryFor table "set_iterator.__next__"=some Builtin.«set_iterator.__next__»:=entryFor_of_tree (by kernel_rfl)
theorem Qa (a:Value):argsOk "set_iterator.__next__" ⟨[a],[]⟩:=by
 unfold argsOk;rw[signature?_of (id:="set_iterator.__next__") (n:=['_','_','t','x','e','n','_','_']) (o:=['r','o','t','a','r','e','t','i','_','t','e','s']) (by kernel_rfl) dS];kernel_rfl
theorem i5:Slot "set_iterator" "__iter__" "set_iterator.__iter__" :=
 .of (owner:="set_iterator") (n:="__iter__") (by rw[z9,uS];kernel_rfl) (by decide +kernel) (by decide +kernel) (by decide +kernel)
  (by first | exact .inl (by decide +kernel) | exact .inr (by decide +kernel)) (by rw[vb];kernel_rfl)
theorem ZDv (a:Value):argsOk "set_iterator.__iter__" ⟨[a],[]⟩:=by
 unfold argsOk;rw[signature?_of (id:="set_iterator.__iter__") (n:=['_','_','r','e','t','i','_','_']) (o:=['r','o','t','a','r','e','t','i','_','t','e','s']) (by kernel_rfl) dS];kernel_rfl
theorem uY:entryFor table "set_iterator.__iter__"=some Builtin.«dict_keyiterator.__iter__»:=
 entryFor_alias (id' := "dict_keyiterator.__iter__") (by kernel_rfl) (by first | rfl | decide +kernel | (unfold String.splitOn;simp +decide [String.splitOnAux])) (by decide +kernel) (by kernel_rfl)
theorem vR:entryFor table "set.__iter__"=some Builtin.«frozenset.__iter__»:=
 entryFor_alias (id' := "frozenset.__iter__") (by kernel_rfl) (by first | rfl | decide +kernel | (unfold String.splitOn;simp +decide [String.splitOnAux])) (by decide +kernel) (by kernel_rfl)
def IF (f:Value)(i:Nat)(S:Addr)(n ep:Nat):Array Value:=#[f,rawInt (i:Int),.ref S,rawInt (n:Int),rawInt (ep:Int)]
def El (h:Heap)(I:Addr)(f:Value)(i:Nat)(S:Addr)(n ep:Nat):Prop:=∃o,h.get? I=some o/\o.cls=.type "set_iterator" /\ o.data=.fields (IF f i S n ep)
theorem El.typeIs (x:El s.heap I f i S n ep):s.TypeIs (.ref I) "set_iterator" := let ⟨o,ho,hc,_⟩:=x;⟨o,ho,hc⟩
theorem El.at {h:Heap}(x:El h I f i S n ep)(e:∀o,h.get? I=some o->h'.get? I=some o):El h' I f i S n ep:=let ⟨o,ho,r⟩:=x;⟨o,e _ ho,r⟩
theorem ck {Q:α->Shared->Prop}{F:Value->Shared->Prop}(hh:A.handled=none)
  (hF:∀e h',(∀b o,s.heap.get? b=some o->h'.get? b=some o)->(Shared.TypeIs { s with heap:=h' } e "StopIteration")->F e { s with heap:=h' }) :
  wpAny (model prog w) A (newExc (.type "StopIteration") [] >>= fun e=>raiseNew e) Q F s:=by
 refine mG ?_;simp only[newExc,newTuple];refine mG (qS ?_ (by size_fits));refine mG (m:=firstArgMember _ _) (ZA0 (a:=Value.none) (by first | rfl | (simp only[firstArgMember];rfl)) ?_)
 refine qS ?_ (by size_fits);simp only[raiseNew];refine mG (wpAny_handled ?_);rw[hh];refine mG (mf (wpAny_throw ?_));exact hF _ _ (fun b o e=>BE _ (BE _ e)) ⟨_,BR _ rfl,rfl⟩
theorem ee {nx:Nat}(hit:El s.heap it (rawInt (sl:Int)) i S n ep)
  (ho:s.heap.get? S=some o) (hd:o.data=.set es ep t) (hf:t.fits es.size=true) (hn:es.size=n)
  (Um:∀(A1:Around) (E1:Value->Shared->Prop) (Q1:Option (Value×Nat)->Shared->Prop),Q1 (some (x,nx)) s->wpAny (model prog w) A1 (setNext S sl i ep) Q1 E1 s)
  (hQ:∀h',El h' it (rawInt (nx:Int)) (i+1) S n ep->Heap.SameBut it s.heap h'->Q (some x) { s with heap:=h' }):wpAny (model prog w) A (pyNext (.ref it)) Q E s:=by
 obtain⟨oi,FL,hc,E9⟩:=id hit;subst hn;unfold pyNext;refine mG (ZAG (qW (name:=Str.ofString "__next__") hit.typeIs Gp
  (rL Gp hit.typeIs Py ?_ (Qa _))))
 unfold Builtin.«set_iterator.__next__»;refine mG (ZA0 (a:=(Value.ref it,[])) rfl ?_)
 try dsimp only
 refine mG (ZAS FL E9 ?_);show wpAny _ _ (setEntries S >>= _) _ _ s;refine mG (yT ho hd hf ?_);rw[nr (by simp)];show wpAny _ _ (setNext S sl i ep >>= _) _ _ s;refine mG (Um _ _ _ ?_);dsimp only;refine mG (wM FL E9 (by simp[IF]) ?_);have o1:=FQ (fun ob=>Obj.mapFields (·.setIfInBounds 0 (rawInt (nx:Int))) ob) FL (Ss (Ip E9 _))
 have d1:=Ip E9 (·.setIfInBounds 0 (rawInt (nx:Int)))
 refine mG (wM (s:={ s with heap:=_ }) o1 d1 (by simp[IF]) ?_)
 refine mf ⟨x,rfl,mf (hQ _ ⟨_,FQ _ o1 (Ss (Ip d1 _)),?_,?_⟩ ((Mg ..).trans (Mg ..)))⟩
 ·exact(Zh ..).trans ((Zh ..).trans hc)
 ·rw[Ip d1];simp[IF]
theorem cg (hh:A.handled=none)(hit:El s.heap it (rawInt (sl:Int)) i S n ep)
  (ho:s.heap.get? S=some o) (hd:o.data=.set es ep t) (hf:t.fits es.size=true) (hn:es.size=n)
  (Um:∀(A1:Around) (E1:Value->Shared->Prop) (Q1:Option (Value×Nat)->Shared->Prop),Q1 none s->wpAny (model prog w) A1 (setNext S sl i ep) Q1 E1 s)
  (hQ:∀h',Heap.ExtBut it s.heap h'->Q none { s with heap:=h' }):wpAny (model prog w) A (pyNext (.ref it)) Q E s:=by
 obtain⟨oi,FL,hc,E9⟩:=id hit;subst hn;unfold pyNext;refine mG (ZAG (qW (name:=Str.ofString "__next__") hit.typeIs Gp
  (rL Gp hit.typeIs Py ?_ (Qa _))))
 unfold Builtin.«set_iterator.__next__»;refine mG (ZA0 (a:=(Value.ref it,[])) rfl ?_)
 try dsimp only
 refine mG (ZAS FL E9 ?_);show wpAny _ _ (setEntries S >>= _) _ _ s;refine mG (yT ho hd hf ?_);rw[nr (by simp)];show wpAny _ _ (setNext S sl i ep >>= _) _ _ s;refine mG (Um _ _ _ ?_);dsimp only;refine mG (wM FL E9 (by simp[IF]) ?_);refine ck (A:=A.in1) hh fun e h' k hT=>?_;refine mG (wK (T:="StopIteration") (b:=true) hT ZAj ?_);refine mf (hQ _ (fun b ob hb e=>?_));exact k b ob ((GP _ _ (BP hb)).trans e)
theorem ZFH {T:Addr}(hit:El s.heap it (.ref T) i S n ep)
  (ho:s.heap.get? S=some o) (hd:o.data=.set es ep t) (hf:t.fits es.size=true) (hn:es.size=n) (hT:s.heap.get? T=some oT) (XD:oT.data=.seq ps nT) (hp:ps[i]?=some (rawInt (pl:Int))) (he:es[pl]?=some e)
  (hQ:∀h',El h' it (.ref T) (i+1) S n ep->Heap.SameBut it s.heap h'->Q (some e.2) { s with heap:=h' }):wpAny (model prog w) A (pyNext (.ref it)) Q E s:=by
 obtain⟨oi,FL,hc,E9⟩:=id hit;subst hn;unfold pyNext;refine mG (ZAG (qW (name:=Str.ofString "__next__") hit.typeIs Gp
  (rL Gp hit.typeIs Py ?_ (Qa _))))
 unfold Builtin.«set_iterator.__next__»;refine mG (ZA0 (a:=(Value.ref it,[])) rfl ?_)
 try dsimp only
 refine mG (ZAS FL E9 ?_);show wpAny _ _ (setEntries S >>= _) _ _ s;refine mG (yT ho hd hf ?_);rw[nr (by simp)];show wpAny _ _ (seqItems? (.ref T) >>= _) _ _ s;refine mG ?_;unfold seqItems?;refine mG (ZAN hT ?_);rw[XD];refine mf ?_;show wpAny _ _ (match ps[i]? with | some (.int place _)=>_ | some _=>_ | none=>_) _ _ s
 rw[hp];show wpAny _ _ (setNextDrawn S pl ep >>= _) _ _ s;refine mG (ye ho hd hf he ?_);refine mG (wM FL E9 (by simp[IF]) ?_);refine mf ⟨e.2,rfl,mf (hQ _ ⟨_,FQ _ FL (Ss (Ip E9 _)),?_,?_⟩ (Mg ..))⟩
 ·exact(Zh ..).trans hc
 ·rw[Ip E9];simp[IF]
theorem x4 {T:Addr}(hh:A.handled=none)(hit:El s.heap it (.ref T) i S n ep)
  (ho:s.heap.get? S=some o) (hd:o.data=.set es ep t) (hf:t.fits es.size=true) (hn:es.size=n) (hT:s.heap.get? T=some oT) (XD:oT.data=.seq ps nT) (hp:ps[i]?=none)
  (hQ:∀h',Heap.ExtBut it s.heap h'->Q none { s with heap:=h' }):wpAny (model prog w) A (pyNext (.ref it)) Q E s:=by
 obtain⟨oi,FL,hc,E9⟩:=id hit;subst hn;unfold pyNext;refine mG (ZAG (qW (name:=Str.ofString "__next__") hit.typeIs Gp
  (rL Gp hit.typeIs Py ?_ (Qa _))))
 unfold Builtin.«set_iterator.__next__»;refine mG (ZA0 (a:=(Value.ref it,[])) rfl ?_)
 try dsimp only
 refine mG (ZAS FL E9 ?_);show wpAny _ _ (setEntries S >>= _) _ _ s;refine mG (yT ho hd hf ?_);rw[nr (by simp)];show wpAny _ _ (seqItems? (.ref T) >>= _) _ _ s;refine mG ?_;unfold seqItems?;refine mG (ZAN hT ?_);rw[XD];refine mf ?_;show wpAny _ _ (match ps[i]? with | some (.int place _)=>_ | some _=>_ | none=>_) _ _ s
 rw[hp];dsimp only;refine mG (wM FL E9 (by simp[IF]) ?_);have o1:=FQ (fun ob=>Obj.mapFields (·.setIfInBounds 0 (rawInt 0)) ob) FL (Ss (Ip E9 _))
 have d1:=Ip E9 (·.setIfInBounds 0 (rawInt 0))
 refine mG (wM (s:={ s with heap:=_ }) o1 d1 (by simp[IF]) ?_)
 refine ck (A:=A.in1) hh fun e h' k hT=>?_;refine mG (wK (T:="StopIteration") (b:=true) hT ZAj ?_);refine mf (hQ _ (fun b ob hb e=>?_));exact k b ob ((GP _ _ (BP hb)).trans ((GP _ _ (BP hb)).trans e))
theorem VN {Q:Value->Shared->Prop}(hit:El s.heap it f i S n ep)(h:Q (.ref it) s):wpAny (model prog w) A (pyIter (.ref it)) Q E s:=by
 refine wpAny_pyIter_slot hit.typeIs i5 (rL i5 hit.typeIs uY ?_ (ZDv _));show wpAny _ _ (ret (.ref it)) _ _ s;exact mf ⟨_,rfl, "set_iterator", _,hit.typeIs,Gp.lookup,h⟩
theorem ZFm (hb:G6 w=true)(hh:A.handled=none)(I S:Addr)(Af:S≠I)(hd:o.data=.set es ep t)(hf:t.fits es.size=true):
  Walks prog w A I [I,S] [I] es.size (fun i v=>((pickOrder (w.params.setOrder S ep) es).toList.map (·.2))[i]?=some v) (fun i h=>El h I (rawInt ((0:Nat):Int)) i S es.size ep/\h.get? S=some o) where
 sub:=fun b hb=>by simp at hb;simp[hb]
 frame:=fun _ _ _ x hk=>⟨x.1.at fun o e=>hk I (by simp) o e,hk S (by simp) _ x.2⟩
 item:=fun i s Q E hi x hQ=>by
  have hl:(pickOrder (w.params.setOrder S ep) es).size=es.size:=by
   have q:=(Ww (w.params.setOrder S ep) es).length_eq
   simpa using q
  have EC:i<(pickOrder (w.params.setOrder S ep) es).size:=by omega
  refine ee (x:=((pickOrder (w.params.setOrder S ep) es)[i]).2) (nx:=0) x.1 x.2 hd hf rfl (fun A1 E1 Q1 q=>kq hb x.2 hd hf (by rw[Se EC];exact q)) fun h' N9 sb=>?_;exact hQ _ h' s.toks (by rw[Az,Ou,Se EC];rfl) ⟨N9,sb.extBut S o Af x.2⟩ fun b ob hb eo=>sb.extBut b ob (fun h=>hb (by simp[h])) eo
 done:=fun s Q E x hQ=>by
  have hl:(pickOrder (w.params.setOrder S ep) es).size=es.size:=by
   have q:=(Ww (w.params.setOrder S ep) es).length_eq
   simpa using q
  refine cg hh x.1 x.2 hd hf rfl (fun A1 E1 Q1 q=>kq hb x.2 hd hf (by rw[lD (by omega)];exact q)) fun h' eb=>?_;exact hQ h' s.toks fun b ob hb eo=>eb b ob (fun h=>hb (by simp[h])) eo
 self:=fun _ _ _ _ x hQ=>VN x.1 hQ
theorem Tf:∀(a:Array α),a.size=1->∃x,a=#[x]
 | ⟨[x]⟩,_=>⟨x,rfl⟩
 | ⟨[]⟩,h=>by simp at h
 | ⟨_::_::_⟩,h=>by simp at h
theorem yK (p:Nat):SetTable.below #[p] 0=0:=by simp[SetTable.below,SetTable.below.go]
theorem below_1 (p:Nat):SetTable.below #[p] (p+1)=1:=by simp[SetTable.below,SetTable.below.go]
theorem jT (h:t.fits n=true):t.place.size=n:=by
 simp only[SetTable.fits,E4,beq_iff_eq] at h;exact h.1
theorem o5 (hb:G6 w=false)(hh:A.handled=none)(I S:Addr)(Af:S≠I)(hd:o.data=.set es ep t)(hf:t.fits es.size=true)(h1:es.size<=1)(hl:t.led=true):
  Walks prog w A I [I,S] [I] es.size (fun i v=>(es.toList.map (·.2))[i]?=some v) (fun i h=>El h I (rawInt (((if i=0 then 0 else t.place.getD 0 0+1:Nat)):Int)) i S es.size ep/\h.get? S=some o) where
 sub:=fun b hb=>by simp at hb;simp[hb]
 frame:=fun _ _ _ x hk=>⟨x.1.at fun o e=>hk I (by simp) o e,hk S (by simp) _ x.2⟩
 item:=fun i s Q E hi x hQ=>by
  obtain rfl:i=0:=by omega
  have z:es.size=1:=by omega
  have zp:t.place.size=1:=(jT hf).trans z;obtain⟨e,rfl⟩:=Tf es z;obtain⟨p,hp⟩:=Tf t.place zp;have hit:=x.1;refine ee (x:=e.2) (nx:=p+1) hit x.2 hd hf rfl (fun A1 E1 Q1 q=>hV hb x.2 hd hf h1 hl (by rw[hp,pR rfl,yK];exact q)) fun h' N9 sb=>?_;refine hQ _ h' s.toks rfl ⟨?_,sb.extBut S o Af x.2⟩ fun b ob hb eo=>sb.extBut b ob (fun h=>hb (by simp[h])) eo;rw[nr (by omega),hp];exact N9
 done:=fun s Q E x hQ=>by
  refine cg hh x.1 x.2 hd hf rfl (fun A1 E1 Q1 q=>hV hb x.2 hd hf h1 hl ?_) fun h' eb=>?_
  ·by_cases z:es.size=0
   ·rw[lD (by omega)];exact q
   ·have z1:es.size=1:=by omega
    have zp:t.place.size=1:=(jT hf).trans z1;obtain⟨p,hp⟩:=Tf t.place zp;rw[nr z,hp];show Q1 (match es[SetTable.below #[p] (p+1)]?,(#[p]:Array Nat)[SetTable.below #[p] (p+1)]? with | some (_,x),some j=>some (x,j+1) | _,_=>none) s
    rw[below_1,lD (by omega)];exact q
  ·exact hQ h' s.toks fun b ob hb eo=>eb b ob (fun h=>hb (by simp[h])) eo
 self:=fun _ _ _ _ x hQ=>VN x.1 hQ
theorem ZEx (hh:A.handled=none)(I S T:Addr)(Af:S≠I)(pK:T≠I)(hd:o.data=.set es ep t)(hf:t.fits es.size=true){ps:List Nat}(hp:ps.Perm (List.range es.size))(hT:oT.data=.seq (ps.map fun i:Nat=>rawInt i).toArray nT):
  Walks prog w A I [I,S,T] [I] es.size (fun i v=>(ps.map fun p=>(es[p]?.map (·.2)).getD .none)[i]?=some v) (fun i h=>El h I (.ref T) i S es.size ep/\h.get? S=some o/\h.get? T=some oT) where
 sub:=fun b hb=>by simp at hb;simp[hb]
 frame:=fun _ _ _ x hk=>⟨x.1.at fun o e=>hk I (by simp) o e,hk S (by simp) _ x.2.1,hk T (by simp) _ x.2.2⟩
 item:=fun i s Q E hi x hQ=>by
  have hl:ps.length=es.size:=by have q:=hp.length_eq;simpa using q
  have EC:i<ps.length:=by omega
  have pe:ps[i]<es.size:=by
   have q:=hp.mem_iff.mp (LA EC)
   simpa using q
  have he:es[ps[i]]?=some es[ps[i]]:=Se pe;refine ZFH (pl:=ps[i]) (e:=es[ps[i]]) x.1 x.2.1 hd hf rfl x.2.2 hT (by rw[ZG6,Az,B9 EC];rfl) he fun h' N9 sb=>?_;exact hQ _ h' s.toks (by rw[Az,B9 EC];simp only[Su,he,ZGP]) ⟨N9,sb.extBut S o Af x.2.1,sb.extBut T oT pK x.2.2⟩ fun b ob hb eo=>sb.extBut b ob (fun h=>hb (by simp[h])) eo
 done:=fun s Q E x hQ=>by
  have hl:ps.length=es.size:=by have q:=hp.length_eq;simpa using q
  refine x4 hh x.1 x.2.1 hd hf rfl x.2.2 hT (by rw[ZG6,Az,Ox (by omega)];rfl) fun h' eb=>?_;exact hQ h' s.toks fun b ob hb eo=>eb b ob (fun h=>hb (by simp[h])) eo
 self:=fun _ _ _ _ x hQ=>VN x.1 hQ
theorem tI (es:Array (Int×Value)):(List.range es.size).map (fun p=>(es[p]?.map (·.2)).getD Value.none)=es.toList.map (·.2):=by
 refine lK (by simp) fun i h1 h2=>?_;have hi:i<es.size:=by simpa using h1
 simp[Se hi]
theorem md {l:List (Int×Value)}(h:ElemsOf (PySem.strKind prog w) l):∃ts,StrsAre (l.map (·.2)) ts/\∀k,k∈ts↔∃e∈l,(PySem.strKind prog w).is k e.2=true:=by
 induction l with
 | nil=>exact⟨[],.nil,fun k=>by simp⟩
 | cons e r ih=>
  obtain⟨ts,h1,h2⟩:=ih h.tail;obtain⟨⟨k,hk,_⟩,_⟩:=h.head;obtain⟨tk,he⟩:=Value.isStrOf_shape hk;refine⟨k::ts,?_,fun k'=>?_⟩
  ·rw[Bn,he];exact .cons k tk h1
  ·rw[DN,h2 k'];constructor
   ·rintro(rfl | ⟨x,hx,q⟩)
    ·exact⟨e,DC,hk⟩
    ·exact⟨x,DZ _ hx,q⟩
   ·rintro⟨x,hx,q⟩;rcases List.mem_cons.mp hx with rfl | hx
    ·exact .inl ((PySem.strKind prog w).inj x.2 k' k q hk)
    ·exact .inr ⟨x,hx,q⟩
theorem StrsAre.len:∀{vs:List Value}{ss:List Str},StrsAre vs ss->vs.length=ss.length
 | _,_,.nil=>rfl
 | _,_,.cons _ _ h=>by rw[BH,BH,StrsAre.len h]
theorem StrsAre.perm {CB:List Value}(h:StrsAre vs ss)(p:CB.Perm vs):∃AL,StrsAre CB AL/\AL.Perm ss:=by
 refine⟨CB.map strOf,strsAre_map CB fun v hv=>h.all v (p.mem_iff.mp hv),?_⟩;rw[<- h.strs];exact p.map strOf
section
theorem uZ {f:Str->Bool}{Q:Value->Shared->Prop}(hS:Ct prog w s.heap S f n)
  (h:∀(I:Addr) (h1:Heap) (d:_) (fp:List Addr) (vs:List Value) (ts:List Str) (St:Nat->Heap->Prop),(∀A2:Around,A2.handled=none->Walks prog w A2 I fp [I] n (fun i v=>vs[i]?=some v) St)->St 0 h1->(∀b∈fp,b=S∨s.heap.objs.size<=b/\b<h1.objs.size)->s.heap.objs.size<=I->s.heap.objs.size<=h1.objs.size->
   (∀b o,s.heap.get? b=some o->h1.get? b=some o)->StrsAre vs ts->ts.length=n->(∀k,f k=true↔k∈ts)->Q (.ref I) { s with heap:=h1,drawn:=d }):wpAny (model prog w) A (pyIter (.ref S)) Q E s:=by
 obtain⟨o,es,ep,t,ho,hex,hd,Lr,FW,hb,hf,hn,R1,Bq⟩:=hS;subst hn;have hT:s.TypeIs (.ref S) "set" := ⟨o,ho,hex.1⟩;have AW:S<s.heap.objs.size:=BC ho;obtain⟨ts0,t1,t2⟩:=md Lr;have fin:∀(I:Addr) (h1:Heap) (d:_) (fp:List Addr) (vs:List Value) (St:Nat->Heap->Prop),(∀A2:Around,A2.handled=none->Walks prog w A2 I fp [I] es.size (fun i v=>vs[i]?=some v) St)->St 0 h1->(∀b∈fp,b=S∨s.heap.objs.size<=b/\b<h1.objs.size)->s.heap.objs.size<=I->s.heap.objs.size<=h1.objs.size->
   (∀b o,s.heap.get? b=some o->h1.get? b=some o)->vs.Perm (es.toList.map (·.2))->Q (.ref I) { s with heap:=h1,drawn:=d }:=by
  intro I h1 d fp vs St a1 a2 a3 a4 a5 a6 a7;obtain⟨ts,q1,q2⟩:=StrsAre.perm t1 a7;refine h I h1 d fp vs ts St a1 a2 a3 a4 a5 a6 q1 ?_ fun k=>?_
  ·rw[q2.length_eq,<- StrsAre.len t1];simp
  ·rw[FW k,<- t2 k];exact q2.mem_iff.symm
 refine wpAny_pyIter_slot hT F.slot_set_iter (rL F.slot_set_iter hT vR ?_ (F.args_set_iter_1 _));unfold Builtin.«frozenset.__iter__»;refine mG (ZA0 (a:=S) rfl ?_);refine mG ?_;unfold Builtin.Frozenset.sizeOf;refine mG (yT ho hd hf (mf ?_));refine mG (ZEk ho hd hf ?_)
 by_cases N0:(!G6 w && (!t.plain && decide (es.size > 1)))=true
 ·rw[pR N0];refine mG ?_;refine oY es.size (List.range es.size) _ _ (by rw[Ml];exact Ao _) fun ps d hp=>?_;have pz:(ps.map fun i:Nat=>rawInt i).length<=sizeLine:=by rw[AX,hp.length_eq,Ml];exact ZAY hb
  refine mG (wpAny_newTuple ?_ pz);dsimp only;refine mG (wpAny_setEpoch_of (s:={ s with heap:=_,drawn:=d }) (BE _ ho) hd hf ?_)
  refine mG (qS ?_);have g:∀(q:Obj) (b:Addr) (ob:Obj),s.heap.get? b=some ob->((s.heap.push (seqObj "tuple" (ps.map fun i:Nat=>rawInt i).toArray 0)).push q).get? b=some ob:=fun q b ob e=>BE _ (BE _ e);have MC:(s.heap.push (seqObj "tuple" (ps.map fun i:Nat=>rawInt i).toArray 0)).objs.size=s.heap.objs.size+1:=Dl ..;refine mf ⟨_,rfl, "set_iterator", _,⟨_,BR _ rfl,rfl⟩,Gp.lookup,?_⟩;refine fin _ _ d [(s.heap.push (seqObj "tuple" (ps.map fun i:Nat=>rawInt i).toArray 0)).objs.size,S,s.heap.objs.size] _ _ (fun A2 hh=>ZEx hh _ S s.heap.objs.size (by rw[MC];exact BJ (Hn AW)) (by rw[MC];exact BJ (LD _)) hd hf hp (oT:=seqObj "tuple" (ps.map fun i:Nat=>rawInt i).toArray 0) rfl) ⟨⟨_,BR _ rfl,rfl,rfl⟩,g _ _ _ ho,BE _ (BR _ rfl)⟩ ?_ (by show s.heap.objs.size<=(s.heap.push (seqObj "tuple" (ps.map fun i:Nat=>rawInt i).toArray 0)).objs.size;rw[MC];exact ET _) ?_ (g _) ?_
  ·intro b Bz;simp only[DN,B4,ya] at Bz;rw[Dl,MC];rcases Bz with rfl | rfl | rfl
   ·right;rw[MC];exact⟨ET _,LD _⟩
   ·left;rfl
   ·right;exact⟨Ao _,Hn (LD _)⟩
  ·rw[Dl,MC];exact Zf (ET _)
  ·rw[<- tI];exact hp.map _
 ·rw[nr N0];refine mG (mf ?_);refine mG (wpAny_setEpoch_of ho hd hf ?_);refine mG (qS ?_);have g:∀(q:Obj) (b:Addr) (ob:Obj),s.heap.get? b=some ob->(s.heap.push q).get? b=some ob:=fun q b ob e=>BE _ e;refine mf ⟨_,rfl, "set_iterator", _,⟨_,BR _ rfl,rfl⟩,Gp.lookup,?_⟩;have MP:∀(q:Obj),∀b∈[s.heap.objs.size,S],b=S∨s.heap.objs.size<=b/\b<(s.heap.push q).objs.size:=by
   intro q b Bz;simp only[DN,B4,ya] at Bz;rw[Dl];rcases Bz with rfl | rfl
   ·right;omega
   ·left;rfl
  cases RQ:G6 w with
  | true=>
   refine fin _ _ s.drawn [s.heap.objs.size,S] _ _ (fun A2 hh=>ZFm RQ hh _ S (BJ AW) hd hf) ⟨⟨_,BR _ rfl,rfl,rfl⟩,g _ _ _ ho⟩ (MP _) (Ao _) (by rw[Dl];omega) (g _) ?_;exact(Ww _ _).map _
  | false=>
   have h1:es.size<=1:=by
    rw[RQ] at N0
    by_cases z:es.size<=1
    ·exact z
    ·rw[Bq (by omega),nV (by omega:es.size > 1)] at N0;exact absurd rfl N0
   refine fin _ _ s.drawn [s.heap.objs.size,S] _ _ (fun A2 hh=>o5 RQ hh _ S (BJ AW) hd hf h1 (by rw[R1,RQ];rfl)) ⟨⟨_,BR _ rfl,rfl,rfl⟩,g _ _ _ ho⟩ (MP _) (Ao _) (by rw[Dl];omega) (g _) (Sf _)
theorem ve:typeLookup (.type "set") "__len__"=pure (some (.builtin "set.__len__")):=by rw[z9,uS];kernel_rfl
theorem ZCX {f:Str->Bool}{Q:List Value->Shared->Prop}(hh:A.handled=none)(hS:Ct prog w s.heap S f n)(hn:n<=sizeLine)
  (h:∀(s':Shared) (vs:List Value) (ts:List Str),(∀b o,s.heap.get? b=some o->s'.heap.get? b=some o)->s.heap.objs.size<=s'.heap.objs.size->s'.gens=s.gens->s'.os=s.os->StrsAre vs ts->ts.length=n->(∀k,f k=true↔k∈ts)->Q vs s') :
  wpAny (model prog w) A (collect (.ref S)) Q E s:=by
 have AW:S<s.heap.objs.size:=by obtain⟨o,_,_,_,ho,_⟩:=hS;exact BC ho
 have JY:s.heap.objs.size≠S:=Jq AW;unfold collect;refine mG (ZAQ (uI F.entry_proto_collect ?_));rw[Md F.plain_proto_collect _];show wpAny _ A.in1 (newList [] >>= fun l=>again (.builtin "list.__iadd__" ⟨[l,.ref S],[]⟩)) _ _ s;refine mG (qS ?_);refine mf ⟨y4 ZP _,uI F.entry_list_iadd ?_⟩;rw[Md ZP _];generalize ND:({ cls:=.type "list", data:=.seq ([]:List Value).toArray }:Obj)=so;have Dr:Ct prog w (s.heap.push so) S f n:=hS.keep fun o e=>BE _ e;have Iq:(s.heap.push so).get? s.heap.objs.size=some so:=BR _ (by rw[<- ND];rfl);have sz:(s.heap.push so).objs.size=s.heap.objs.size+1:=Dl ..;have Bc:Shared.TypeIs { s with heap:=s.heap.push so } (.ref S) "set" := by obtain⟨o,_,_,_,ho,hex,_⟩:=Dr;exact⟨o,ho,hex.1⟩
 have h1:Builtin.List.listSameRef (.ref s.heap.objs.size) (.ref S)=false:=by simp[Builtin.List.listSameRef,JY]
 show wpAny _ A.in1 (Builtin.List.listExtendWith (.ref s.heap.objs.size) (.ref S) (.ref s.heap.objs.size)) _ _ { s with heap:=s.heap.push so }
 unfold Builtin.List.listExtendWith;refine mG (uc Bc ?_);rw[nr (by rw[h1];decide)];refine mG (uZ (s:={ s with heap:=s.heap.push so }) Dr fun I h2 d fp vs ts St W Ie MP hI ZHF kp WD tl tm=>?_)
 have DF:s.heap.objs.size∉fp:=fun hm=>by
  rcases MP _ hm with z | ⟨z,_⟩
  ·exact JY z
  ·have z':(s.heap.push so).objs.size<=s.heap.objs.size:=z;rw[sz] at z';omega
 have CQ:Shared.TypeIs { s with heap:=h2,drawn:=d } (.ref S) "set" := by obtain⟨o,ho,hc⟩:=Bc;exact⟨o,kp _ _ ho,hc⟩
 refine mG (sF ?_);unfold Builtin.List.listLengthHint;refine mG (yg CQ ve ?_);generalize Gb:("set.__len__":String)=Ks
 wp_delta
 rw[show splitId Ks=some ("set","__len__") from by subst Gb;decide +kernel];subst Gb;refine mG (wK (b:=true) CQ (by rw[vb];kernel_rfl) ?_);rw[nr (by decide)];refine z8 (fun _=>?_) (fun D3=>absurd (by decide +kernel) D3);refine mG (uc CQ ?_);refine mf ?_;refine z8 (fun _=>?_) (fun D3=>absurd (by decide +kernel) D3);refine mG (ZAD ?_);refine mG ?_;show wpAny _ _ (updateSeq s.heap.objs.size (·.push .none) >>= fun _=>updateSeq s.heap.objs.size (·.pop)) _ _ _
 have z0:(#[]:Array Value).size<=sizeLine:=CH _;have z1:((#[]:Array Value).push Value.none).size<=sizeLine:=by show 1<=sizeLine;decide
 have z2:((#[]:Array Value).push Value.none).size<=sizeLine+1:=Zf z1;have z3:(((#[]:Array Value).push Value.none).pop).size<=sizeLine+1:=CH _;have JV:=kp _ _ Iq;subst ND;refine mG (wC (s:={ s with heap:=h2,drawn:=d }) JV rfl ?_ z0 z2)
 have q2:=FQ (Obj.mapSeq (·.push Value.none)) JV rfl
 refine wC q2 rfl ?_ z1 z3;have q3:=FQ (Obj.mapSeq (·.pop)) q2 rfl
 have Gg:∀b o,b≠s.heap.objs.size->h2.get? b=some o->((h2.update s.heap.objs.size (Obj.mapSeq (·.push Value.none))).update s.heap.objs.size (Obj.mapSeq (·.pop))).get? b=some o:=
  fun b o hb e=>(GP _ _ (BP hb)).trans ((GP _ _ (BP hb)).trans e)
 refine mf ⟨y4 lx _,ZA6 (W A.in1 hh).toS hn _ DF _ n 0 _ #[] _ rfl (CH _) ?_ q3 (ZR _) fun s' Ck c' hm CJ Ax=>?_⟩
 ·exact(W A.in1 hh).frame 0 h2 _ Ie fun b hb o e=>Gg b o (fun z=>DF (z▸hb)) e
 ·show wpAny _ A (load s.heap.objs.size >>= _) _ _ s';refine mG (ZAN CJ ?_);have ev:Ck.toList=vs:=by
   have hvl:vs.length=n:=(StrsAre.len WD).trans tl;refine lL fun i=>?_
   by_cases hi:i<n
   ·have h1:Ck[i]?=some (Ck[i]'(by rw[Ax.1];exact hi)):=Se _;rw[Ou,h1];exact(Ax.2 i _ h1).symm
   ·rw[Ox (by rw[GO,Ax.1];omega),Ox (by omega)]
  refine mf ?_;rw[<- ev] at WD;refine h s' Ck.toList ts (fun b o e=>?_) (LB (BC CJ)) hm.gens hm.os WD tl tm;have hb:b<s.heap.objs.size:=BC e;refine hm.heap b o ?_ (Gg b o (BJ hb) (kp b o (BE _ e)));simp only[DN,B4,ya,not_or];refine⟨BJ hb,?_⟩;have tL:s.heap.objs.size+1<=I:=by rw[<- sz];exact hI
  exact BJ (DO hb (Nat.le_of_succ_le tL))
variable {R:Result->Shared->Prop}{wr:List Addr}{G:Array GenState->Array GenState->Prop}{P:Nat->Value->Prop}{St:Nat->Shared->Prop}
theorem vm (W:WalksS prog w A.in1 I fp wr G ss.length P St)(S:Addr)(DF:S∉fp)(YW:∀i v,P i v->∃(h:i<ss.length) (t:Tok),v=.str ss[i] t)(hb:ss.length+1<scanBound):
  ∀(k i:Nat) (s:Shared),ss.length - i=k->i<=ss.length->St i s->Ct prog w s.heap S (fun k'=>(dd (ss.take i)).any (· == k')) (dd (ss.take i)).length->
   (∀s',Moved (S::wr) G s s'->Ct prog w s'.heap S (fun k'=>(dd ss).any (· == k')) (dd ss).length->R (.ok (.ret .none)) s')->
   codeAny (model prog w) A (.builtin "set.update.loop" ⟨[.ref S,.ref I],[]⟩) R s:=by
 have ni:S∉wr:=fun h=>DF (W.sub _ h);have cM:∀{s s':Shared}{f:Str->Bool}{m:Nat},Moved wr G s s'->Ct prog w s.heap S f m->Ct prog w s'.heap S f m:=fun hm hS=>hS.keep fun o ho=>hm.heap S _ ni ho;intro k
 induction k with
 | zero=>
  intro i s hk hi CL hS fin;have e:i=ss.length:=by omega
  subst e;refine uI ZGR ?_;rw[Md lq _];show wpAny _ A.in1 (pyNext (.ref I) >>= _) _ _ s;refine mG (W.done s _ _ CL fun s' hm=>?_);show wpAny _ A.in1 (ret Value.none) _ _ s';rw[Hl] at hS;exact mf (fin s' (hm.mono fun b hb=>DZ _ hb) (cM hm hS))
 | succ k ih=>
  intro i s hk hi CL hS fin;have AW:i<ss.length:=by omega
  refine uI ZGR ?_;rw[Md lq _];show wpAny _ A.in1 (pyNext (.ref I) >>= _) _ _ s;refine mG (W.item i s _ _ AW CL fun v s' hP vN hm=>?_);obtain⟨_,t,rfl⟩:=YW i v hP;have CJ:=cM hm hS;show wpAny _ A.in1 (holding [Value.str ss[i] t] (setAdd S (.str ss[i] t)) >>= _) _ _ s';refine mG (sF ?_);unfold setAdd;have ZK:(PySem.strKind prog w).is ss[i] (.str ss[i] t)=true:=ZGa prog w ss[i] t;refine sF (mG ((PySem.strKind prog w).pyHash ZK ?_));have OI:(dd (ss.take i)).length+1<scanBound:=by
   have:=Ys (ss.take i);rw[Bd] at this;omega
  refine Ct.put (s:={ s' with toks:=s'.toks+1 }) CJ OI fun h' LP OZ=>?_
  have mJ:Ct prog w h' S (fun k'=>(dd (ss.take (i+1))).any (· == k')) (dd (ss.take (i+1))).length:=
   OZ.congr (fun k'=>by rw[fo ss i AW,ql]) (by rw[fo ss i AW,ai])
  refine mf ⟨y4 lq _,ih (i+1) _ (by omega) AW (W.frame _ s' _ _ vN (ET _) fun b hb o e=>?_) mJ fun Kx ZDh ZEp=>?_⟩
  ·rw[LP.2 b (by rintro rfl;exact DF hb)];exact e
  ·refine fin Kx (Moved.trans W.gtrans ((hm.mono fun b hb=>DZ _ hb).then_heap (ET _) fun b o hb e=>?_) ZDh) ZEp;rw[LP.2 b (by rintro rfl;exact hb DC)];exact e
theorem yu (a:Value)
  (h:Q₁ (.ref s.heap.objs.size) { s with heap:=s.heap.push { cls:=.type "set", dict:=none,data:=.set #[] 0 (.fresh 0 0 (!G6 w)) } }) :
  codeAny (model prog w) A (.call (.builtin "set.__new__") ⟨[.type "set", a],[]⟩) (wants Q₁ E) s:=by
 refine codeAny_of_tree ?_;show wpAny _ A.in1 (do checkBuiltinCall "set.__new__" ⟨[.type "set", a],[]⟩;again (.builtin "set.__new__" ⟨[.type "set", a],[]⟩)) _ _ s
 refine mG (ZA0 (PySem.F.newCall_set_1 a) ?_);refine mf ⟨y4 ZGS _,uI PySem.F.entry_set_new ?_⟩;rw[Md ZGS _];unfold Builtin.«set.__new__» Builtin.Frozenset.newClass;have EJ:isSubtype (.type "set") (.type "set")=pure true:=by rw[vb];kernel_rfl
 obtain⟨hp,g,d,tk,os⟩:=s;dsimp only
 wp_walk
 refine yc (mf ?_);dsimp only;simp only[newObj];refine mG (wpAny_alloc (mf ?_));exact mf h
theorem i7 {l:Addr}{T:String}{od:Option Addr}{Gs:Array (Option Value)}{Q:Value->Shared->Prop}(ho:s.heap.get? l=some { cls:=.type T,dict:=od,data:=.seq items nl,slots:=Gs })
  (hs1:isSubtype (.type T) (.type "set")=pure false) (D4:isSubtype (.type T) (.type "frozenset")=pure false) (Af:(Value.type T == Value.type "dict")=false) (hb:ss.length+1<scanBound)
  (hit:∀(s1:Shared) (A1:Around) (Q1:Value->Shared->Prop),A1.handled=A.handled->s1.heap.get? l=s.heap.get? l->l<s1.heap.objs.size->
   (∀ob St P,WalksS prog w A1.in1 s1.heap.objs.size [s1.heap.objs.size,l] [s1.heap.objs.size] (fun a b=>b=a) ss.length P St->(∀i v,P i v->∃(h:i<ss.length) (t:Tok),v=.str ss[i] t)->St 0 { s1 with heap:=s1.heap.push ob }->Q1 (.ref s1.heap.objs.size) { s1 with heap:=s1.heap.push ob })->
   wpAny (model prog w) A1 (pyIter (.ref l)) Q1 E s1)
  (h:∀(h':Heap) (tk:Nat),Ct prog w h' s.heap.objs.size (fun k'=>(dd ss).any (· == k')) (dd ss).length->(∀b o,b<s.heap.objs.size->s.heap.get? b=some o->h'.get? b=some o)->Q (.ref s.heap.objs.size) { s with heap:=h',toks:=tk }) :
  wpAny (model prog w) A (call (.type "set") [.ref l]) Q E s:=by
 have AW:l<s.heap.objs.size:=BC ho;obtain⟨c,tl,ZHO⟩:=PySem.F.called_set.mro;have ZGc:=PySem.F.called_set.made;have EJ:=PySem.F.called_set.sub;refine wpAny_call (codeAny_of_tree (by
  show wpAny _ _ (callAny (.type "set") _) _ _ _;refine mf ⟨Code.quiet_builtin _ (by decide +kernel),uI PySem.F.entry_type_call ?_⟩;rw[Around.under_plain (weight_type_call_type "set" [.ref l] []) rfl];have h1:=PySem.F.called_set.notType;have h2:=PySem.F.called_set.canCreate;have hct:=PySem.F.typeCall_set_1 (.ref l)
  repeat (any_goals (first | assumption | wp_step))
  refine ZAC (yu (.ref l) (E:=E) (Q₁:=fun obj s₁=>obj=.ref s.heap.objs.size/\s₁={ s with heap:=s.heap.push { cls:=.type "set", dict:=none,data:=.set #[] 0 (.fresh 0 0 (!G6 w)) } }) ⟨rfl,rfl⟩) fun r s₁ hr=>?_
  cases r with
  | error e=>exact hr
  | ok fl=>
   cases fl with
   | ret obj=>
    obtain⟨rfl,rfl⟩:=hr;generalize XB:({ cls:=.type "set", dict:=none,data:=.set #[] 0 (.fresh 0 0 (!G6 w)) }:Obj)=so;have hsz:(s.heap.push so).objs.size=s.heap.objs.size+1:=Dl ..;have hS:(s.heap.push so).get? s.heap.objs.size=some so:=BR _ (by rw[<- XB];rfl);have hT:Shared.TypeIs { s with heap:=s.heap.push so } (.ref s.heap.objs.size) "set" := ⟨_,hS,by rw[<- XB]⟩
    have QR:=PySem.F.called_set.init.lookup;have hbi:=PySem.F.called_set.init.bind (.ref s.heap.objs.size)
    repeat (any_goals (first | assumption | wp_step))
    refine ZAC (codeAny_call_builtin (R:=wants (fun r s₂=>r=.none/\∃h' tk,s₂={ s with heap:=h',toks:=tk }/\Ct prog w h' s.heap.objs.size (fun k'=>(dd ss).any (· == k')) (dd ss).length/\
      (∀b o,b<s.heap.objs.size->s.heap.get? b=some o->h'.get? b=some o)) E) PySem.F.called_set.init.plain PySem.F.entry_set_init (check_set_init_1 hT ?_)) fun r₂ s₂ hr₂=>?_
    ·have EA:(s.heap.push so).get? l=some { cls:=.type T,dict:=od,data:=.seq items nl,slots:=Gs }:=BE _ ho;subst XB;unfold Builtin.«set.__init__» noKeywords Builtin.Frozenset.updateFrom;generalize yj:pyIter=PI
     wp_walk
     subst yj;refine hit { s with heap:=s.heap.push _ } _ _ rfl (EA.trans ho.symm) (Nat.lt_of_lt_of_eq (Hn AW) hsz.symm) fun ob St P W YW Ie=>?_
     refine mG (ZAQ ?_);have DF:s.heap.objs.size∉[(s.heap.push { cls:=.type "set", dict:=none,data:=.set #[] 0 (.fresh 0 0 (!G6 w)) }).objs.size,l]:=by
      rw[hsz];simp only[DN,B4,ya,not_or];exact⟨BJ (LD _),Jq AW⟩
     refine vm W s.heap.objs.size DF YW hb (ss.length - 0) 0 _ rfl (CH _) Ie ?_ ?_
     ·have hg:=BE ob hS;exact⟨_,#[],0,_,hg,⟨rfl,rfl,rfl⟩,rfl,fun e he=>by simp at he,fun k=>by simp[dd],by decide,by rfl,rfl,rfl,fun h=>absurd h (by simp)⟩
     ·intro s' hm CJ;obtain⟨h',g',d',X3,Nw⟩:=s';have eg:g'=s.gens:=hm.gens;have ed:d'=s.drawn:=hm.drawn;have eo:Nw=s.os:=hm.os;subst eg;subst ed;subst eo;show wpAny _ _ _ _ _ _;refine mf ?_;show wpAny _ _ (ret Value.none) _ _ _;refine mf ⟨rfl,h',X3,rfl,CJ,fun b o Bz e=>?_⟩;refine hm.heap b o ?_ (BE _ (BE _ e));rw[hsz];simp only[DN,B4,ya,not_or];exact⟨BJ Bz,BJ (Hn Bz)⟩
    ·cases r₂ with
     | error e=>exact hr₂
     | ok fl₂=>
      cases fl₂ with
      | ret r=>
       obtain⟨rfl,h',tk,rfl,CJ,N5⟩:=hr₂
       repeat (any_goals (first | assumption | wp_step))
       exact h _ _ CJ N5
      | _=>exact hr₂.elim
   | _=>exact hr.elim))
end
def Ll (P:Program)(w:World)(a:Addr)(f:Str->Bool)(n:Nat):HO:=.ext fun h=>Ct P w h a f n
theorem iI (hc:X.calm=true):CY X (.type "set") (fun xs H Q=>∃(p:Addr) (tp:Bool) (ss:List Str),xs=[.ref p]/\CA X.K tp H p (ss.map V.str)/\ss.length<4000/\
  ∀l,H l=none->Q (.ref l) (upd H l (Ll X.prog X.w l (fun k'=>(dd ss).any (· == k')) (dd ss).length))):=by
 intro pins s σ H xs us Q I r h;obtain⟨p,tp,ss,rfl,hq,hz,q⟩:=h;obtain⟨u,rfl,rx⟩:=vals1 r;cases rx;have hb:ss.length+1<scanBound:=by unfold scanBound;omega
 have fin:∀(h':Heap) (tk:Nat),Ct X.prog X.w h' s.heap.objs.size (fun k'=>(dd ss).any (· == k')) (dd ss).length->(∀b o,b<s.heap.objs.size->s.heap.get? b=some o->h'.get? b=some o)->
   EP X pins σ Q (.ref s.heap.objs.size) { s with heap:=h',toks:=tk }:=fun h' tk hS kp=>by
  refine⟨.ref s.heap.objs.size,_,I.laid (t':=tk) (fun b o e=>kp b o (BC e) e) (Ao _) (show Bx X.prog X.w _ h' _ (Ll X.prog X.w s.heap.objs.size _ _) from⟨hS,?_,fun h1 h2 Dr um=>?_⟩),rfl,q _ (I.AK.fresh (Ao _))⟩
  ·obtain⟨o,_,_,_,ho,_⟩:=hS;exact⟨o,ho⟩
  ·exact Dr.keep um
 cases tp with
 | false=>
  obtain⟨A4,rv,pl,Oq⟩:=I.list hq;have hl:=rv.length;rw[AX] at hl;obtain⟨⟨c,d,dt,sl⟩,n,ho,Fg,hd,Fm⟩:=id pl;simp only at Fg hd Fm;subst Fg;subst hd;subst Fm;refine i7 ho PySem.F.sub_list_set PySem.F.sub_list_frozenset (by decide) hb (fun s1 A1 Q1 hA e1 l1 UG=>?_) fin;have FV:s1.heap.IsList p A4.toArray:=⟨_,e1.trans ho,rfl,n,rfl⟩;have WB:A4.toArray.size=ss.length:=List.size_toArray.trans hl.symm;refine ZAU FV (UG _ (fun i s=>s.heap.IsListIter s1.heap.objs.size p i/\s.heap.IsList p A4.toArray) (fun i v=>A4.toArray[i]?=some v) (by
   have W:=(Walks.list (prog:=X.prog) (w:=X.w) (A:=A1.in1) (by rw[lC,hA];exact I.ok.hd hc) s1.heap.objs.size p (BJ l1) A4.toArray).toS;rw[WB] at W;exact W) (fun i v e=>SQ rv (by simpa using e)) ⟨⟨_,BR _ rfl,rfl,rfl⟩,FV.push _⟩)
 | true=>
  obtain⟨A4,rv,pl,Oq⟩:=I.tuple hq;have hl:=rv.length;rw[AX] at hl;obtain⟨⟨c,d,dt,sl⟩,ho,Fg,n,Fm⟩:=id pl;simp only at Fg Fm;subst Fg;subst Fm;refine i7 ho sub_tuple_set sub_tuple_frozenset (by decide) hb (fun s1 A1 Q1 hA e1 l1 UG=>?_) fin;have FV:s1.heap.IsTuple p A4.toArray:=⟨_,e1.trans ho,rfl,n,rfl⟩;have WB:A4.toArray.size=ss.length:=List.size_toArray.trans hl.symm;refine ZA8 FV (UG _ (fun i s=>s.heap.IsTupleIter s1.heap.objs.size p i/\s.heap.IsTuple p A4.toArray) (fun i v=>A4.toArray[i]?=some v) (by
   have W:=(Walks.tuple (prog:=X.prog) (w:=X.w) (A:=A1.in1) (by rw[lC,hA];exact I.ok.hd hc) s1.heap.objs.size p (BJ l1) A4.toArray).toS;rw[WB] at W;exact W) (fun i v e=>SQ rv (by simpa using e)) ⟨⟨_,BR _ rfl,rfl,rfl⟩,?_⟩)
  exact⟨_,BE _ (e1.trans ho),rfl,n,rfl⟩
theorem Inv.drew (I:Inv X pins σ H s)(d:Drawn):Inv X pins σ H { s with drawn:=d }:=
 I.step (h':=s.heap) (g':=s.gens) (t':=s.toks) (d':=d) (ch:=[]) (fun _ z=>nomatch z) (fun b o _ _ _ e _=>e) (fun b o _ _ _ e _=>⟨o.slots,e⟩) (fun _ _ _ _ n=>n) (fun b o _ e=>⟨o,e⟩) (fun _ _ e=>e) (fun _ _ _ e=>e) (fun b ps e=>⟨#[],by rw[e];simp⟩) (fun m hm=>hm) I.AK I.bare
theorem rO {l:Addr}{Q:List Value->Shared->Prop}(hl:IsTup s.heap l vs.toArray)(h:Q vs { s with heap:=(s.heap.push (seqObj "list" #[] 0)).update s.heap.objs.size (Obj.mapSeq (·++vs.toArray)) })(hsz:vs.length<=sizeLine):
  wpAny (model prog w) A (collect (.ref l)) Q E s:=by
 obtain⟨o,ho,hc,n,hd⟩:=id hl;unfold collect;refine mG (ZAQ (uI entry_proto_collect' ?_));show wpAny _ _ (newList [] >>= fun x=>again (.builtin "list.__iadd__" ⟨[x,.ref l],[]⟩)) _ _ s;refine mG (wpAny_newList ?_);refine mf ⟨Code.quiet_builtin _ (by decide +kernel),uI entry_list_iadd' ?_⟩;show wpAny _ _ (Builtin.List.listExtendWith (.ref s.heap.objs.size) (.ref l) (.ref s.heap.objs.size)) _ _ { s with heap:=s.heap.push (seqObj "list" #[] 0) }
 unfold Builtin.List.listExtendWith;have g:(s.heap.push (seqObj "list" #[] 0)).get? l=some o:=BE _ ho;refine mG (uc (T:="tuple") ⟨o,g,hc⟩ ?_);rw[pR (by simp)];refine mG (listItems_at g hd ?_);refine mG (listItems_at (xs:=#[]) (n:=0) (BR _ rfl) rfl ?_);rw[nr (by simp)];refine mG (listUpdate_at (xs:=#[]) (n:=0) (BR _ rfl) rfl ?_ (CH _) (by show(#[]++vs.toArray).size<=sizeLine+1;simp only[Array.size_append,Bo,Sk];omega));refine mf ?_;show wpAny (model prog w) A (load s.heap.objs.size >>= fun o=>(match o.data with | .seq xs _=>pure xs.toList | _=>unsupported "internal:collect")) Q E _
 refine mG (ZAN (get?_update_seq (BR _ rfl) _) ?_);show wpAny _ _ (pure ((#[]:Array Value)++vs.toArray).toList) Q E _;have e:((#[]:Array Value)++vs.toArray).toList=vs:=by simp
 rw[e];exact mf h
theorem XG {Pc:List Value->Shared->Prop}{Q:Value->Shared->Prop}
  (hc:∀(A1:Around) (E1:Value->Shared->Prop) (Q1:List Value->Shared->Prop),A1.handled=A.handled->(∀vs s1,Pc vs s1->Q1 vs s1)->wpAny (model prog w) A1 (collect v) Q1 E1 s)
  (h:∀vs s1,Pc vs s1->vs.length<64/\∃ss,StrsAre vs ss/\∀out AL e h',(∀b o,s1.heap.get? b=some o->h'.get? b=some o)->h'.get? s1.heap.objs.size=some (seqObj "list" out e)->StrsAre out.toList AL->AL.Perm ss->sortedS AL=true->Q (.ref s1.heap.objs.size) { s1 with heap:=h' }) :
  wpAny (model prog w) A (call (.builtin "sorted") [v]) Q E s:=by
 refine Calls.call_function_entry kind_sorted plain_sorted entry_sorted (args_sorted1 _) ?_;unfold Builtin.«sorted»;refine mG (m:=checkCount "sorted" 1 1 _) (mf ?_);refine mG (hc _ _ _ rfl fun vs s1 hp=>?_);obtain⟨Bw,ss,ID,k⟩:=h vs s1 hp;refine mG (wpAny_newList ?_);have OC:(s1.heap.push (seqObj "list" vs.toArray 0)).get? s1.heap.objs.size=some (seqObj "list" vs.toArray 0):=BR _ rfl;refine mG (sF (rL slot_list_sort ⟨_,OC,rfl⟩ entry_list_sort (list_sort_treeK (s:={ s1 with heap:=s1.heap.push (seqObj "list" vs.toArray 0) }) strKind_oneLt OC ID.keysOf (fun v₁ v₂ rest e=>keyKind_strs (by rw[<- e];exact ID)) Bw fun Cv a1 a2=>⟨_,rfl,?_⟩) (args_list_sort _)))
 obtain⟨AL,b1,b2,b3⟩:=sorted_out_str ID a1 a2;obtain⟨e,he⟩:=sortedHeap_at (out:=(arrOf Cv).map (·.2)) OC
 refine mf ⟨_,rfl,k _ AL e _ (fun b o hb=>?_) he b1 b2 b3⟩;have AW:=BC hb;rw[sortedHeap_old (BJ AW) (by rw[Dl];exact Hn AW)];exact BE _ hb
theorem kW:∀{ss:List Str}{us:List Value},Vals (ss.map V.str) us->StrsAre us ss
 | [],_,.nil=>.nil
 | x::r,_,.cons ⟨t,e⟩ h=>by rw[e];exact .cons x t (kW h)
theorem cy:∀{ss:List Str}{us:List Value},StrsAre us ss->Vals (ss.map V.str) us
 | _,_,.nil=>.nil
 | _,_,.cons x t h=>.cons ⟨t,rfl⟩ (cy h)
theorem YF {s1:Shared}{Q:VK}(I:Inv X pins σ H s)(hg:s1.gens=s.gens)(ho:s1.os=s.os)(hk:∀b o,s.heap.get? b=some o->s1.heap.get? b=some o)(hs:s.heap.objs.size<=s1.heap.objs.size)
  {out:Array Value}{e:Nat}(kp:∀b o,s1.heap.get? b=some o->h'.get? b=some o) (he:h'.get? s1.heap.objs.size=some (seqObj "list" out e)) (hS:StrsAre out.toList AL) (Bw:AL.length<64)
  (q:∀l,H l=none->Q (.ref l) (upd H l (.lst (AL.map V.str)))):EP X pins σ Q (.ref s1.heap.objs.size) { s1 with heap:=h' }:=by
 obtain⟨h1,g1,d1,t1,o1⟩:=s1;simp only at hg ho hk hs kp he;subst hg;subst ho;refine⟨.ref _,_,(I.drew d1).laid (a:=h1.objs.size) (h':=h') (t':=t1) (o:=.lst (AL.map V.str)) (fun b o q=>kp b o (hk b o q)) hs ?_,rfl,q _ (I.AK.fresh hs)⟩;refine⟨?_,out.toList,e,cy hS,by simpa[seqObj] using he⟩
 rw[AX];exact CZ (LB Bw) (by decide +kernel)
def Zz (K:ZHP):List V->Hp->VK->Prop:=fun xs H Q=>∃(p:Addr) (tp:Bool) (ss:List Str),xs=[.ref p]/\CA K tp H p (ss.map V.str)/\ss.length<64/\∀l AL,H l=none->AL.Perm ss->sortedS AL=true->Q (.ref l) (upd H l (.lst (AL.map V.str)))
theorem KA:CY X (.builtin "sorted") (Zz X.K):=by
 intro pins s σ H xs us Q I r h;obtain⟨p,tp,ss,rfl,hq,Bw,q⟩:=h;obtain⟨u,rfl,rx⟩:=vals1 r;cases rx;have key:∀A4:List Value,Vals (ss.map V.str) A4->(∀(A1:Around) (E1:Value->Shared->Prop) (Q1:List Value->Shared->Prop),Q1 A4 { s with heap:=(s.heap.push (seqObj "list" #[] 0)).update s.heap.objs.size (Obj.mapSeq (·++A4.toArray)) }->wpAny (model X.prog X.w) A1 (collect (.ref p)) Q1 E1 s)->
   wpAny (model X.prog X.w) X.A (call (.builtin "sorted") [.ref p]) (EP X pins σ Q) X.xe s:=by
  intro A4 rv za;have hlen:=rv.length;rw[AX] at hlen;refine XG (Pc:=fun vs s1=>vs=A4/\s1={ s with heap:=(s.heap.push (seqObj "list" #[] 0)).update s.heap.objs.size (Obj.mapSeq (·++A4.toArray)) }) (fun A1 E1 Q1 _ k=>za A1 E1 Q1 (k _ _ ⟨rfl,rfl⟩)) ?_
  rintro vs s1 ⟨rfl,rfl⟩;refine⟨by omega,ss,kW rv,fun out AL e h' kp he hS hp hs=>?_⟩;refine YF (s1:={ s with heap:=(s.heap.push (seqObj "list" #[] 0)).update s.heap.objs.size (Obj.mapSeq (·++vs.toArray)) }) I rfl rfl (fun b o hb=>?_) (by show s.heap.objs.size<=((s.heap.push (seqObj "list" #[] 0)).update s.heap.objs.size (Obj.mapSeq (·++vs.toArray))).objs.size;rw[Heap.size_update,Dl];exact ET _) kp he hS (by rw[hp.length_eq];exact Bw) fun l hl=>q l AL hl hp hs
  show((s.heap.push _).update _ _).get? b=some o;rw[Heap.get?_update_ne _ _ _ _ (BJ (BC hb))];exact BE _ hb
 cases tp with
 | false=>
  obtain⟨A4,rv,pl,hz⟩:=I.list hq;have hlen:=rv.length;exact key A4 rv fun A1 E1 Q1 k=>collect_list pl.isList k (by omega)
 | true=>
  obtain⟨A4,rv,pl,hz⟩:=I.tuple hq;have hlen:=rv.length;exact key A4 rv fun A1 E1 Q1 k=>rO pl k (by omega)
def fM (P:Program)(w:World):List V->Hp->VK->Prop:=fun xs H Q=>∃(p:Addr) (f:Str->Bool) (n:Nat),xs=[.ref p]/\H p=some (Ll P w p f n)/\n<64/\∀l ts,H l=none->ts.length=n->(∀k,f k=true↔k∈ts)->sortedS ts=true->Q (.ref l) (upd H l (.lst (ts.map V.str)))
theorem ic (hc:X.calm=true):CY X (.builtin "sorted") (fM X.prog X.w):=by
 intro pins s σ H xs us Q I r h;obtain⟨p,f,n,rfl,hH,Bw,q⟩:=h;obtain⟨u,rfl,rx⟩:=vals1 r;cases rx;have hS:Ct X.prog X.w s.heap p f n:=(I.AK p _ hH).1;have hh:X.A.handled=none:=I.ok.hd hc;refine XG (Pc:=fun vs s1=>∃ts,(∀b o,s.heap.get? b=some o->s1.heap.get? b=some o)/\s.heap.objs.size<=s1.heap.objs.size/\s1.gens=s.gens/\s1.os=s.os/\StrsAre vs ts/\ts.length=n/\(∀k,f k=true↔k∈ts)) (fun A1 E1 Q1 hA k=>?_) ?_
 ·exact ZCX (hA.trans hh) hS (CZ (LB Bw) (by decide +kernel)) fun s' vs ts a1 a2 a3 a4 a5 a6 a7=>k vs s' ⟨ts,a1,a2,a3,a4,a5,a6,a7⟩
 ·rintro vs s1 ⟨ts,a1,a2,a3,a4,a5,a6,a7⟩;refine⟨by rw[StrsAre.len a5,a6];exact Bw,ts,a5,fun out AL e h' kp he CJ hp hs=>?_⟩;exact YF I a3 a4 a1 a2 kp he CJ (by rw[hp.length_eq,a6];exact Bw) fun l hl=>q l AL hl (hp.length_eq.trans a6) (fun k=>(a7 k).trans hp.mem_iff.symm) hs
theorem eO:∀{ss:List Int}{us:List Value},Vals (ss.map V.int) us->IntsAre us ss
 | [],_,.nil=>.nil
 | x::r,_,.cons ⟨t,e⟩ h=>by rw[e];exact .cons x t (eO h)
end L2
namespace HT
open AutoSeq1 (wpAny_loadPart')
variable {prog:Program}{w:World}{A:Around}{E Q:Value->Shared->Prop}{it tu:Addr}{i:Nat}{old v:Value}
theorem xR (tu:Addr)(vals:Array Value)(k:Nat)(dc:Option Addr)(V2:Array (Option Value)):
  Meets (Builtin.«enumerate.__new__» ⟨[.type "enumerate", .ref tu],[]⟩) (fun _ R s=>s.heap.get? tu=some { cls:=.type "tuple", dict:=dc,data:=.seq vals k,slots:=V2 }/\R (.ok (.ret (.ref (s.heap.push { cls:=.type "tuple_iterator", data:=.fields #[.ref tu,.int 0 0] }).objs.size)))
    { s with heap:=(s.heap.push { cls:=.type "tuple_iterator", data:=.fields #[.ref tu,.int 0 0] }).push { cls:=.type "enumerate", data:=.fields #[.none,.bool false,.ref s.heap.objs.size,rawInt 0,.none,.none] } }):=.of_wp fun prog w A R s h=>by
 obtain⟨hp,g,d,tk,os⟩:=s;obtain⟨ho,h⟩:=h;have sb:=sub_enumerate;have hT:Heap.IsTuple (Shared.heap ⟨hp,g,d,tk,os⟩) tu vals:=⟨_,ho,rfl,k,rfl⟩
 wp_walk using wpAny_loadPart' ho
 refine wpAny_stack_any fun fr=>mf ?_;split
 ·rename_i c _ _ _ _ _;cases(c == Value.type "enumerate") <;> (wp_walk using wpAny_loadPart' ho,ZA8 hT;exact⟨_,rfl,h⟩)
 ·wp_walk using wpAny_loadPart' ho,ZA8 hT
  exact⟨_,rfl,h⟩
section
variable {s:Shared}
theorem ZBw {vals:Array Value}(hT:s.heap.IsTuple tu vals)
  (q:∀h',IsEnum h' (s.heap.objs.size+1) s.heap.objs.size 0 .none->h'.IsTupleIter s.heap.objs.size tu 0->h'.objs.size=s.heap.objs.size+2->(∀b o,s.heap.get? b=some o->h'.get? b=some o)->Q (.ref (s.heap.objs.size+1)) { s with heap:=h' }) :
  wpAny (model prog w) A (call (.type "enumerate") [.ref tu]) Q E s:=by
 obtain⟨⟨c,dc,dt,V2⟩,ho,hc,k,hd⟩:=hT;replace hc:c=.type "tuple" := hc;replace hd:dt=.seq vals k:=hd;subst hc hd;refine callType_new F.called_enumerate (by decide) (F.typeCall_enumerate_1 _) (F.newCall_enumerate_1 _) (fun ob=>F.args_object_init_2 ob _) F.entry_enumerate_new (xR tu vals k dc V2) ⟨ho,?_⟩;have z:(s.heap.push { cls:=.type "tuple_iterator", data:=.fields #[.ref tu,.int 0 0] }).objs.size=s.heap.objs.size+1:=Dl ..;show _/\_;rw[z];have he:IsEnum ((s.heap.push { cls:=.type "tuple_iterator", data:=.fields #[.ref tu,.int 0 0] }).push { cls:=.type "enumerate", data:=.fields #[.none,.bool false,.ref s.heap.objs.size,rawInt 0,.none,.none] }) (s.heap.objs.size+1) s.heap.objs.size 0 .none:=by
  have y:=BR (s.heap.push { cls:=.type "tuple_iterator", data:=.fields #[.ref tu,.int 0 0] }) (o:={ cls:=.type "enumerate", data:=.fields #[.none,.bool false,.ref s.heap.objs.size,rawInt 0,.none,.none] }) rfl;rw[z] at y;exact y
 exact⟨⟨_,he,rfl⟩,q _ he ⟨_,BE _ (BR _ rfl),rfl,rfl⟩ (by rw[Dl,z]) fun b o y=>BE _ (BE _ y)⟩
theorem ZC3 {vals:Array Value}(hi:s.heap.IsTupleIter it tu i)(ht:s.heap.IsTuple tu vals)(hv:vals[i]?=some v)
  (q:∀h',h'.IsTupleIter it tu (i+1)->Heap.SameBut it s.heap h'->Q v { s with heap:=h' }):wpAny (model prog w) A (Builtin.SmallTypes.nextOf (.ref it)) Q E s:=by
 obtain⟨o,ho,hc,hd⟩:=id hi;obtain⟨o2,FZ,_,k,hd2⟩:=ht;unfold Builtin.SmallTypes.nextOf;refine mG (qW (name:=Str.ofString "__next__") hi.typeIs ZQ (rL ZQ hi.typeIs ZFt ?_ (ZFs _)));show wpAny _ _ (field (.ref it) 0 >>= _) _ _ s;refine mG (ZA5 ho hd (x:=.ref tu) rfl ?_);show wpAny _ _ (if(Value.ref tu == Value.none)=true then _ else _) _ _ s;rw[nr (show ¬ ((Value.ref tu == Value.none)=true) from DB)]
 show wpAny _ _ (field (.ref it) 1 >>= _) _ _ s;refine mG (ZA5 ho hd (x:=.int i 0) rfl ?_);show wpAny _ _ (seqItems? (.ref tu) >>= _) _ _ s;refine mG (ZAO FZ hd2 ?_);simp only[Jo,hv];refine mG (wM ho hd (by simp) (mf ⟨v,rfl,mf (q _ ?_ (Mg ..))⟩));exact⟨_,FQ _ ho (Ss (Ip hd _)),(Zh ..).trans hc,by rw[Ip hd];simp[rawInt]⟩
theorem dm {vals:Array Value}(hh:A.handled=none)(hi:s.heap.IsTupleIter it tu i)(ht:s.heap.IsTuple tu vals)(hv:vals[i]?=none)
  (q:∀h' e,Heap.ExtBut it s.heap h'->(∃o,h'.get? e=some o/\o.cls=.type "StopIteration")->E (.ref e) { s with heap:=h' }):wpAny (model prog w) A (Builtin.SmallTypes.nextOf (.ref it)) Q E s:=by
 obtain⟨o,ho,hc,hd⟩:=id hi;obtain⟨o2,FZ,_,k,hd2⟩:=ht;unfold Builtin.SmallTypes.nextOf;refine mG (qW (name:=Str.ofString "__next__") hi.typeIs ZQ (rL ZQ hi.typeIs ZFt ?_ (ZFs _)));show wpAny _ _ (field (.ref it) 0 >>= _) _ _ s;refine mG (ZA5 ho hd (x:=.ref tu) rfl ?_);show wpAny _ _ (if(Value.ref tu == Value.none)=true then _ else _) _ _ s;rw[nr (show ¬ ((Value.ref tu == Value.none)=true) from DB)]
 show wpAny _ _ (field (.ref it) 1 >>= _) _ _ s;refine mG (ZA5 ho hd (x:=.int i 0) rfl ?_);show wpAny _ _ (seqItems? (.ref tu) >>= _) _ _ s;refine mG (ZAO FZ hd2 ?_);simp only[Jo,hv];refine mG (ZAD (mG (wM ho hd (by simp) ?_)));show wpAny _ _ (newExc (.type "StopIteration") [] >>= _) _ _ _;refine mG ?_;simp only[newExc,newTuple];refine mG (qS ?_ (by size_fits));refine mG (m:=firstArgMember _ _) (ZA0 (a:=Value.none) (by first | rfl | (simp only[firstArgMember];rfl)) ?_);refine qS ?_ (by size_fits)
 simp only[raiseNew];refine mG (wpAny_handled ?_);first | rw[show A.in1.handled=none from hh] | rw[hh]
 refine mG (mf (wpAny_throw ?_));exact q _ _ (((Mg ..).extBut.push _).push _) ⟨_,BR _ rfl,rfl⟩
theorem uk {e:Addr}{vals:Array Value}{j:Int}{Q:Option Value->Shared->Prop}(hh:A.handled=none)(he:IsEnum s.heap e it j old)(hi:s.heap.IsTupleIter it tu i)(ht:s.heap.IsTuple tu vals)(hv:vals[i]?=none)
  (q:∀h',Heap.ExtBut it s.heap h'->Q none { s with heap:=h' }):wpAny (model prog w) A (pyNext (.ref e)) Q E s:=by
 have ty:s.TypeIs (.ref e) "enumerate" := ⟨_,he,rfl⟩;unfold pyNext;refine mG (ZAG (qW (name:=Str.ofString "__next__") ty F.slot_enumerate_next (rL F.slot_enumerate_next ty F.entry_enumerate_next ?_ (F.args_enumerate_next_1 _))));show wpAny _ _ (field (.ref e) 2 >>= _) _ _ _;refine mG (ZA5 he rfl (x:=.ref it) rfl ?_);refine mG (dm (show A.in1.handled=none from hh) hi ht hv fun h' x eb hx=>?_)
 obtain⟨o,ho,hc⟩:=hx;exact mG (wK (T:="StopIteration") (b:=true) ⟨o,ho,hc⟩ ZAj (mf (q _ eb)))
end
theorem ZE4 (hh:A.handled=none)(it tu:Addr)(Af:tu≠it)(vals:Array Value):
  Draws prog w A it [it,tu] vals.size (fun i v=>vals[i]?=some v) (fun i h=>h.IsTupleIter it tu i/\h.IsTuple tu vals) where
 live:=fun _ _ st=>by obtain⟨o,ho,_⟩:=st.1;exact⟨o,ho⟩
 frame:=fun _ _ _ st hk=>by
  obtain⟨⟨o,ho,r⟩,o2,FZ,r2⟩:=st;exact⟨⟨o,hk it (by simp) o ho,r⟩,o2,hk tu (by simp) o2 FZ,r2⟩
 item:=fun i s Q E hi st hQ=>ZC3 st.1 st.2 (v:=vals[i]) (by simp[hi]) fun h' a b=>hQ _ h' s.toks (by simp[hi]) ⟨a,st.2.extBut b.extBut Af⟩ b
 done:=fun s Q E st hE=>dm hh st.1 st.2 (by simp) hE
end HT
namespace L2
variable {es:List Expr}{k1:Nat}
section
variable {X:Cx}
def kO (K:ZHP)(tp:Bool)(a:Addr)(xs:List V):It:=
 ⟨fun i H=>CA K tp H a xs/\i<xs.length,fun i H x H'=>∃p y,xs[i]?=some y/\x=.ref p/\H p=none/\H'=upd H p (.tup [.int i,y]),fun i H=>CA K tp H a xs/\xs.length<=i⟩
theorem ZCR {P:Program}{w:World}{K:ZHP}{p1:Pos}(a e it:Addr)(xs:List V)(MM:e≠it):
  Turn P w K (.Tuple es k1 p1) (kO K true a xs) [e,it] e (fun i h=>(∃old,IsEnum h e it i old)/\h.IsTupleIter it a i) where
 mem:=by simp
 obj:=fun i h st b hb=>by
  obtain⟨⟨old,h1⟩,o,h2,_,d⟩:=st;rcases List.mem_cons.mp hb with z | z
  ·subst z;exact⟨_,h1,fun v z=>by cases z⟩
  ·have y:b=it:=by simpa using z
   subst y;exact⟨o,h2,fun v z=>by rw[d] at z;cases z⟩
 keep:=fun i h h' st k=>⟨let ⟨old,h1⟩:=st.1;⟨old,k e (by simp) _ h1⟩,let ⟨o,h2,r⟩:=st.2;⟨o,k it (by simp) o h2,r⟩⟩
 item:=by
  intro X hP hw hK hc i pins s σ H E I hf st hg;subst hP hw hK;obtain⟨hq,hi⟩:=hg;obtain⟨⟨old,he⟩,hit⟩:=st;obtain⟨A4,rv,ht,hz⟩:=I.tuple hq;obtain⟨u,hu,ru⟩:=rv.get (B9 hi);have Ob:A4.toArray[i]?=some u:=by simpa using hu
  have hla:a<s.heap.objs.size:=ht.lt;have ha:a≠it:=by
   rintro rfl;obtain⟨o,q1,q2,_⟩:=hit;obtain⟨o2,q3,q4,_⟩:=ht;rw[q1] at q3;cases q3;rw[q2] at q4;exact absurd q4 (by decide)
  have hea:e≠a:=by
   rintro rfl;obtain⟨o2,q3,q4,_⟩:=ht;have q1:=he;unfold IsEnum at q1;rw[q1] at q3;cases q3;exact absurd (show Value.type "enumerate"=Value.type "tuple" from q4) (by decide)
  have AW:e<s.heap.objs.size:=BC he;refine wpAny_pyNext_enum_itemD (n:=A4.toArray.size) (HT.ZE4 (show X.A.in1.handled=none from I.ok.hd hc) it a ha A4.toArray) he ⟨hit,ht⟩ (by rw[Bo,<- rv.length];exact hi) MM (by simp[MM,hea]) fun v h1 Vm pv Hb st1 Kf aT VR=>⟨_,rfl,?_⟩;have ev:v=u:=by rw[Ob] at pv;exact(BS pv).symm
  subst ev;refine ZAT Hb fun h2 Je D4=>?_;have L5:h2.get? s.heap.objs.size=some { cls:=.type "tuple", data:=.seq #[.int i Vm,v] }:=(D4.2 _ (Jq AW)).trans Kf;have kp:∀b o,b∉[e,it]->s.heap.get? b=some o->h2.get? b=some o:=fun b o hb q=>by
   have y:b≠e/\b≠it:=by simpa using hb
   exact(D4.2 b y.1).trans (VR b o y.1 y.2 q)
  refine⟨.ref s.heap.objs.size,_,I.d4 (t':=Vm+1) (a:=s.heap.objs.size) (o:=.tup [.int i,xs[i]]) hf kp (Ao _) ?_,rfl,⟨_,_,B9 hi,rfl,I.AK.fresh (Ao _),rfl⟩,⟨⟨_,Je⟩,?_⟩,fun b hb=>?_⟩
  ·exact⟨(by show 2<=sizeLine;decide),[.int i Vm,v],.cons ⟨_,rfl⟩ (.cons ru .nil),⟨_,L5,rfl,_,rfl⟩,fun ob q=>by rw[L5] at q;cases q;rfl⟩
  ·obtain⟨o,q,r⟩:=st1.1;exact⟨o,(D4.2 it (BP MM)).trans q,r⟩
  ·have y:b<s.heap.objs.size:=by
    rcases List.mem_cons.mp hb with z | z
    ·rw[z];exact AW
    ·have z':b=it:=by simpa using z
     obtain⟨o,q,_⟩:=hit;rw[z'];exact BC q
   rw[Ad (BJ y)];exact(hf b hb).1
 done:=by
  intro X hP hw hK hc i pins s σ H E I hf st hg;subst hP hw hK;obtain⟨hq,hx⟩:=hg;obtain⟨⟨old,he⟩,hit⟩:=st;obtain⟨A4,rv,ht,hz⟩:=I.tuple hq;have hl:=rv.length;exact HT.uk (I.ok.hd hc) he hit ht (by simp;omega) fun h' eb=>⟨rfl,I.dR (t':=s.toks) hf fun b o hb q=>eb b o (fun z=>hb (by simp[z])) q⟩
 self:=fun _ _ _ _ _ st h=>let ⟨⟨_,he⟩,_⟩:=st;zN he h
def Te (K:ZHP)(t:TA):TI:=fun σ H R=>t σ H fun vs H1=>∃a tp xs,vs=[.ref a]/\CA K tp H1 a xs/\R (kO K tp a xs) H1
theorem ZCY {p1 p pos:Pos}{l:Expr}{t:TA}(hg:Gl X "enumerate")(hm:X.mg "enumerate"=none)(ha:QA X [l] t)(hs:starEach [l] X.env=[(false,eval l X.env)]:=by rfl):
  QI X (.Tuple es k1 p1) (.Call (.Name "enumerate" p) [l] [] pos) (Te X.K t):=⟨by
 have ha:=ha.h;intro pins s σ H R I h;refine uP (Iz I hg hm (show bootBuiltins "enumerate"=some (.type "enumerate") by decide +kernel) ?_ (by decide) (by decide));refine P6 (AS (ha pos pins s σ H _ I h) fun us s1 ⟨vs,H1,I1,r1,q1⟩=>?_) hs rfl;obtain⟨a,tp,xs,rfl,hq,q⟩:=q1;obtain⟨u,rfl,rx⟩:=vals1 r1;cases rx;have Af:s1.heap.objs.size+1≠s1.heap.objs.size:=ZGN _;have fp:∀b∈[s1.heap.objs.size+1,s1.heap.objs.size],Dy X pins H1 b:=fun b hb=>by
  have y:s1.heap.objs.size<=b:=by
   rcases List.mem_cons.mp hb with z | z
   ·rw[z];exact ET _
   ·have z':b=s1.heap.objs.size:=by simpa using z
    rw[z'];exact Ao _
  exact I1.Kr y (I1.AK.fresh y)
 cases tp with
 | false=>
  obtain⟨A4,rv,p,hz⟩:=I1.list hq;refine call_enumerate_list p.isList fun h' he hit hsz kp=>zN he ?_;exact⟨s1.heap.objs.size+1,[s1.heap.objs.size+1,s1.heap.objs.size],_,_,H1,rfl,I1.kept (t':=s1.toks) kp,bw a _ _ xs Af,⟨⟨_,he⟩,hit⟩,fp,q⟩
 | true=>
  obtain⟨A4,rv,ht,hz⟩:=I1.tuple hq;refine HT.ZBw ht fun h' he hit hsz kp=>zN he ?_;exact⟨s1.heap.objs.size+1,[s1.heap.objs.size+1,s1.heap.objs.size],_,_,H1,rfl,I1.kept (t':=s1.toks) kp,ZCR a _ _ xs Af,⟨⟨_,he⟩,hit⟩,fp,q⟩⟩
end
end L2
namespace MA
def O6:Nat->Nat->List Nat
 | 0,n=>[97+n]
 | k+1,n=>if n<26 then[97+n] else(97+n % 26)::O6 k (n / 26)
theorem K7:∀(k:Nat){n:Nat},n<26->O6 k n=[97+n]
 | 0,_,_=>rfl
 | _+1,_,h=>pR h
theorem ir:∀(k j n:Nat),n<=k->n<=j->O6 k n=O6 j n
 | 0,j,n,h,_=>by rw[K7 0 (Hm h (by decide)),K7 j (Hm h (by decide))]
 | k+1,0,n,_,h=>by rw[K7 (k+1) (Hm h (by decide)),K7 0 (Hm h (by decide))]
 | k+1,j+1,n,h1,h2=>by
  by_cases c:n<26
  ·rw[K7 _ c,K7 _ c]
  ·have d:n / 26<n:=Nat.div_lt_self (DO (by decide) (ZGK c)) (by decide);show(if n<26 then _ else _)=(if n<26 then _ else _)
   rw[nr c,nr c,ir k j (n / 26) (lb (DO d h1)) (lb (DO d h2))]
def lets (n:Nat):List Nat:=O6 n n
def vals:List Nat->Nat
 | []=>0
 | c::r=>(c - 97)+26 * vals r
theorem MR {n:Nat}(h:n<26):lets n=[97+n]:=K7 n h
theorem OK {n:Nat}(h:¬ n<26):lets n=(97+n % 26)::lets (n / 26):=by
 cases n with
 | zero=>exact absurd (by decide) h
 | succ k=>
  have d:(k+1) / 26<k+1:=Nat.div_lt_self (Nat.succ_pos k) (by decide);show(if k+1<26 then _ else _)=_
  rw[nr h,ir k ((k+1) / 26) ((k+1) / 26) (lb d) (Ao _)];rfl
theorem fB:∀n,vals (lets n)=n:=by
 intro n
 induction n using Nat.strongRecOn with
 | _ n ih=>
  by_cases h:n<26
  ·rw[MR h];simp[vals]
  ·rw[OK h];have:=ih (n / 26) (by omega);simp only[vals,this];omega
theorem ZBM {a b:Nat}(h:lets a=lets b):a=b:=by rw[<- fB a,h,fB]
theorem X0 (n:Nat):1<=(lets n).length:=by
 by_cases h:n<26
 ·rw[MR h];simp
 ·rw[OK h];simp
theorem QD:∀(k n:Nat),n<26 ^ (k+1)->(lets n).length<=k+1
 | 0,n,h=>by rw[MR (by simpa using h)];simp
 | k+1,n,h=>by
  by_cases h1:n<26
  ·rw[MR h1];simp
  ·rw[OK h1];have:=QD k (n / 26) (by rw[Nat.pow_succ] at h;exact Nat.div_lt_of_lt_mul (by rw[Nat.mul_comm];exact h));simp only[BH];omega
theorem ZCv:∀n,∀c∈lets n,97<=c/\c<=122:=by
 intro n
 induction n using Nat.strongRecOn with
 | _ n ih=>
  by_cases h:n<26
  ·rw[MR h];intro c hc;simp at hc;omega
  ·rw[OK h];intro c hc;rcases List.mem_cons.mp hc with e | e
   ·omega
   ·exact ih (n / 26) (by omega) c e
theorem jy {α:Type}[DecidableEq α]:∀(k:Nat) (f:Nat->α) (l:List α),(∀i j,i<k->j<k->f i=f j->i=j)->(∀i,i<k->f i∈l)->k<=l.length
 | 0,_,_,_,_=>CH _
 | k+1,f,l,hi,hm=>by
  have h1:=hm k (LD k);have:=jy k f (l.erase (f k)) (fun i j a b e=>hi i j (by omega) (by omega) e) (fun i a=>by
   have Af:f i≠f k:=fun e=>by have:=hi i k (by omega) (by omega) e;omega
   exact(Sl Af).mpr (hm i (by omega)))
  rw[ZY h1] at this;have hp:=lT h1;omega
end MA
namespace Lw
open L2
variable {a l p:Addr}{H H' H2:Hp}{xs:List V}{o:HO}{α:Type}{hi i m n:Nat}{ns ss:List Str}{x y z:Str}{j r:Int}{A B c:Prop}
def BY (H:Hp)(p:Addr):Prop:=∃a b:Int,H p=some (.lst [.int a,.int b])/\0<=a/\a<10 ^ 256/\0<=b/\b<2147483647
structure BK (p:Addr) (H H':Hp):Prop where
 AD:BY H' p
 same:G7 p H H'
theorem BK.trans {H1:Hp}(a:BK p H H1)(b:BK p H1 H2):BK p H H2:=⟨b.AD,a.same.trans b.same⟩
theorem BK.of (h:BY H p)(s:A8 H H'):BK p H H':=by
 obtain⟨a,b,e,r⟩:=h;exact⟨⟨a,b,s _ _ e,r⟩,G7.of s⟩
theorem BK.NZ {K:ZHP}(s:BK p H H')(h:AI K H a xs)(Af:a≠p):AI K H' a xs:=by
 rcases h with(h | ⟨o,h⟩) | h
 ·exact .inl (.inl (s.same _ _ Af h))
 ·exact .inl (.inr ⟨o,s.same _ _ Af h⟩)
 ·exact .inr h
theorem BK.at' (s:BK p H H')(h:H a=some o)(Af:a≠p):H' a=some o:=s.same _ _ Af h
theorem MX {a:Int}(h0:-(10 ^ 20)<a)(h1:a<10 ^ 20):a.natAbs<2 ^ 1000:=by
 have h4:a.natAbs<10 ^ 20:=by omega
 exact Nat.lt_trans h4 (by decide +kernel)
def W9 (K:ZHP):Sp:=fun vs H Q _=>∃(a:Addr) (ns:List Int) (k:Int),vs=[.ref a,.int k]/\AI K H a (ns.map V.int)/\0<=k/\k<=1000/\∀p H',H p=none->A8 H H'->BY H' p->Q (.ref p) H'
def IH:Sp:=fun vs H Q _=>∃(p:Addr) (m:Int),vs=[.ref p,.int m]/\BY H p/\0<m/\m<10 ^ 18/\∀r H',0<=r->r<m->BK p H H'->Q (.int r) H'
def Cy (l:List Nat):Str:=⟨l.toArray⟩
def bD:Sp:=fun vs H Q _=>∃r:Int,vs=[.int r]/\0<=r/\r<26 ^ 8/\Q (.str (Cy (MA.lets r.toNat))) H
theorem Oe {xs:List α}{k:Int}{v:α}(h0:0<=k)(h:xs[k.toNat]?=some v):Bf xs k=some v:=by
 have ek:k=((k.toNat:Nat):Int):=by omega
 have q:=S8 h;rw[<- ek] at q;exact q
abbrev LL:Str:="abcdefghijklmnopqrstuvwxyz"
theorem ZD9:∀j,j<26->LL.cps.toList[j]?=some (97+j):=by decide +kernel
theorem jP {k:Int}(h0:0<=k)(h1:k<26):Bf LL.cps.toList k=some (97+k.toNat):=Oe h0 (ZD9 _ (by omega))
theorem ba (l:List Nat)(c:Nat):Cy l++(⟨#[c]⟩:Str)=Cy (l++[c]):=by
 show(⟨l.toArray++#[c]⟩:Str)=⟨(l++[c]).toArray⟩;simp
theorem Rw (l:List Nat):(Cy l).length=l.length:=by simp[Cy,Str.length]
theorem Zp {l:List Nat}:(V.str (Cy l)=V.str (Str.ofString ""))↔l=[]:=by
 constructor
 ·intro h;injection h with h
  have h2:=uC (fun x=>x.cps.toList) h;have e:(Str.ofString "").cps.toList=[]:=by decide +kernel
  rw[e] at h2
  simpa[Cy] using h2
 ·rintro rfl;rfl
theorem small (h:n<=100000):n<=sizeLine:=CZ h (by decide +kernel)
theorem jR {k:Nat}{pre:List Nat}(h:pre++MA.lets k=MA.lets n):(0<k / 26->(pre++[97+k % 26])++MA.lets (k / 26)=MA.lets n)/\(k / 26=0->pre++[97+k % 26]=MA.lets n):=by
 constructor
 ·intro h1;rw[MA.OK (by omega)] at h;rw[<- h,CC];rfl
 ·intro h1;have h2:k<26:=by omega
  rw[MA.MR h2] at h;rw[<- h,Nat.mod_eq_of_lt h2]
def Nm (x:Str):Prop:=1<=x.length/\x.length<=8/\∀c∈x.cps.toList,97<=c/\c<=122
instance (x:Str):Decidable (Nm x):=by unfold Nm;exact inferInstance
theorem HG (x:Str):x.length=x.cps.toList.length:=by simp[Str.length]
theorem VL (h:n<26 ^ 8):Nm (Cy (MA.lets n)):=by
 refine⟨by rw[Rw];exact MA.X0 n,by rw[Rw];exact MA.QD 7 n h,fun c hc=>MA.ZCv n c (by simpa[Cy] using hc)⟩
def menu:List Str:=["put","take","none","ahead","all","over","next","a","ab","abc","abcdefgh","b","step"]
theorem ZBt:∀x∈menu,Nm x:=by decide +kernel
def Qg:List V:=[.str "put", .str "take", .str "none", .str "ahead", .str "all", .str "over", .str "next", .str "a", .str "ab", .str "abc", .str "abcdefgh", .str "b", .str "step"]
theorem ZAh {i:Int}(h0:0<=i)(h1:i<13):∃x,Bf Qg i=some (.str x)/\Nm x:=by
 have hl:menu.length=13:=rfl;have hi:i.toNat<menu.length:=by omega
 have e:Qg=menu.map V.str:=rfl;refine⟨menu[i.toNat],Oe h0 ?_,ZBt _ (LA hi)⟩;rw[e,Az,B9 hi];rfl
theorem ON {i:Int}(h0:0<=i)(h1:i<ns.length):∃x,Bf (ns.map V.str) i=some (.str x)/\x∈ns/\ns[i.toNat]?=some x:=by
 have hi:i.toNat<ns.length:=by omega
 exact⟨ns[i.toNat],Oe h0 (by rw[Az,B9 hi];rfl),LA hi,B9 hi⟩
theorem EF (ns:List Str):(ns.map V.str).all EW=true:=by
 rw[Gv];intro x hx;obtain⟨y,_,rfl⟩:=List.mem_map.mp hx;rfl
theorem J6 (x:Str)(ns:List Str):D6 (.str x) (ns.map V.str)=decide (x∈ns):=by
 unfold D6;rw[Me,ZFy,decide_eq_true_iff];constructor
 ·rintro⟨v,hv,h⟩;obtain⟨y,hy,rfl⟩:=List.mem_map.mp hv;have h':(y == x)=true:=h;have:y=x:=by simpa using h'
  rw[<- this];exact hy
 ·intro h;exact⟨.str x,List.mem_map.mpr ⟨x,h,rfl⟩,by show(x == x)=true;simp⟩
theorem LM (xs:List V):E2 xs []=decide (xs=[]):=by
 cases xs with
 | nil=>rfl
 | cons x r=>rw[Ky (by simp)];simp
theorem wJ (h:x.cps.toList=y.cps.toList):x=y:=by
 cases x;cases y;simp only[Str.mk.injEq];exact Array.toList_inj.mp h
theorem ZBr (z:Str){a b:Nat}{lo hi:Option Int}(D3:a<=b)(hb:b<=z.length)(e:Builtin.Str.strSliceIndices lo hi 1 z.length=Builtin.Str.strSliceIndices (some (a:Int)) (some (b:Int)) 1 z.length):
  (Txt.slice z lo hi).cps.toList=(z.cps.toList.drop a).take (b - a):=by
 have q:=StrLaws.sliced_plain z D3 hb;rw[<- e] at q;unfold Txt.slice;split
 ·rename_i h;have hl:(Builtin.Str.strSliceIndices lo hi 1 z.length).length=z.length:=by simpa using h
  rw[e,StrLaws.strSliceIndices_plain D3 hb,AX,Ml] at hl;have h1:a=0:=by omega
  have h2:b=z.length:=by omega
  subst h1;subst h2;rw[Si,P5,HG,Hl]
 ·rw[<- q]
theorem xn (h:0<=j):max (0:Int) (min j (n:Int))=max 0 (min ((min j.toNat n:Nat):Int) (n:Int)):=by
 have e:((min j.toNat n:Nat):Int)=min j n:=by
  rcases P2 j.toNat n with c | c
  ·rw[Jp c,lI h,Int.min_eq_left (by have:=Int.ofNat_le.mpr c;rw[lI h] at this;exact this)]
  ·rw[P4 c,Int.min_eq_right (by have:=Int.ofNat_le.mpr c;rw[lI h] at this;exact this)]
 rw[e,Int.min_assoc,Int.min_self]
theorem uB (z:Str)(h:0<=j):(Txt.slice z none (some j)).cps.toList=z.cps.toList.take j.toNat:=by
 have e:=ZBr z (a:=0) (b:=min j.toNat z.length) (lo:=none) (hi:=some j) (CH _) (lg _ _) (by
  have h1:¬ j<0:=by omega
  have h2:¬ (((min j.toNat z.length:Nat):Int)<0):=Int.not_lt.mpr (Int.natCast_nonneg _);have h3:max (0:Int) (min j (z.length:Int))=max 0 (min ((min j.toNat z.length:Nat):Int) (z.length:Int)):=xn h;simp only[Builtin.Str.strSliceIndices,h1,h2,ZAw,h3];rfl)
 rw[e,Si,P5];rcases P2 j.toNat z.length with h1 | h1
 ·rw[Jp h1]
 ·rw[P4 h1,HG,Hl,P1 (by rw[<- HG];exact h1)]
theorem fF (h:1<=j)(hj:j<=8)(hz:1<=z.length)(hc:∀c∈z.cps.toList,97<=c/\c<=122):Nm (Txt.slice z none (some j)):=by
 have e:=uB z (j:=j) (by omega);refine⟨?_,?_,fun c GW=>hc c ?_⟩
 ·rw[HG,e,Bd,<- HG];omega
 ·rw[HG,e,Bd];omega
 ·rw[e] at GW;exact Za GW
theorem dC (x y:Str):(x++y).cps.toList=x.cps.toList++y.cps.toList:=by
 show(x.cps++y.cps).toList=_;simp
theorem dZ (x y:Str):(x++y).length=x.length+y.length:=by rw[HG,dC,BL,<- HG,<- HG]
def OQ (K:ZHP):Sp:=fun vs H Q _=>∃(p q:Addr) (ns:List Str),vs=[.ref p,.ref q]/\BY H p/\AI K H q (ns.map V.str)/\q≠p/\(∀x∈ns,Nm x)/\ns.length<=1000/\∀x H',Nm x->x∉ns->BK p H H'->Q (.str x) H'
theorem ZAk {k:Nat}(h:∀j,j<k->Cy (MA.lets j)∈ns):k<=ns.length:=
 MA.jy k (fun j=>Cy (MA.lets j)) ns (fun i j _ _ e=>MA.ZBM (by
  have:=uC (fun x=>x.cps.toList) e
  simpa[Cy] using this)) h
theorem ZEF:1000<26 ^ 8:=by decide +kernel
theorem xK:(1000:Int)<26 ^ 8:=by decide +kernel
theorem ng:(26:Int) ^ (8:Int).toNat - 26<26 ^ 8:=by decide +kernel
theorem vc:(26:Int)<26 ^ 8:=by decide +kernel
theorem ZDU:(0:Int)<26 ^ (8:Int).toNat - 26:=by decide +kernel
theorem ZAE:(26:Int) ^ (8:Int).toNat - 26<10 ^ 18:=by decide +kernel
theorem gJ (h0:0<=r)(h:r<26 ^ 8):r.toNat<26 ^ 8:=by omega
theorem BK.upd (s:BK p H H2)(h:H l=none)(Af:l≠p):BK p H (upd H2 l o):=by
 obtain⟨a,b,e,r⟩:=s.AD;refine⟨⟨a,b,by rw[Ad (BP Af)];exact e,r⟩,fun c u hc q=>?_⟩;rw[Ad (EU q h)];exact s.same c u hc q
theorem BK.none (s:BK p H H2)(h:H2 l=none):H l=none:=by
 cases q:H l with
 | none=>rfl
 | some o=>
  by_cases e:l=p
  ·obtain⟨a,b,e2,_⟩:=s.AD;rw[<- e,h] at e2;cases e2
  ·rw[s.same l o e q] at h;cases h
theorem BY.ne (h:BY H p)(hl:H l=none):l≠p:=by
 obtain⟨_,_,e,_⟩:=h;exact(EU e hl).symm
theorem A8.none (s:A8 H H2)(h:H2 l=none):H l=none:=by
 cases q:H l with
 | none=>rfl
 | some o=>rw[s l o q] at h;cases h
def j4:Sp:=fun vs H Q _=>∃(p:Addr) (m:Int),vs=[.ref p,.int m]/\BY H p/\0<=m/\m<=100/\
 ∀l H' (ns:List Str),H l=none->BK p H H'->H' l=some (.lst (ns.map V.str))->(ns.length:Int)=m->(∀x∈ns,Nm x)->ns.Nodup->Q (.ref l) H'
def ZN:Sp:=fun vs H Q _=>∃(p:Addr) (m:Int),vs=[.ref p,.int m]/\BY H p/\1<=m/\m<=100/\
 ∀l H' (ns:List Str),H l=none->BK p H H'->H' l=some (.lst (ns.map V.str))->(ns.length:Int)<=m->(∀x∈ns,Nm x)->ns.Nodup->Q (.ref l) H'
theorem PN {l:List α}{x:α}(h:l.Nodup)(hx:x∉l):(l++[x]).Nodup:=by
 rw[Bu];exact⟨h,by simp,fun a ha b hb=>by
  have:b=x:=by simpa using hb
  subst this;rintro rfl;exact hx ha⟩
theorem ZCi {m:Int}(h0:0<=j)(h1:j<3)(hm:1<=m):∃k:Int,Bf [V.int 0,V.int 1,V.int m] j=some (.int k)/\0<=k/\k<=m:=by
 have:j=0∨j=1∨j=2:=by omega
 rcases this with rfl | rfl | rfl
 ·exact⟨0,rfl,by omega,by omega⟩
 ·exact⟨1,rfl,by omega,by omega⟩
 ·exact⟨m,rfl,by omega,by omega⟩
def Q8 (c:Nat):Bool:=!(Builtin.Str.occurrences LL ⟨#[c]⟩ 0 LL.length 1).isEmpty
def isNm (x:Str):Bool:=decide ((1:Int)<=x.length) && (decide ((x.length:Int)<=8) && x.cps.toList.all Q8)
def NC:Sp:=fun vs H Q _=>∃x:Str,vs=[.str x]/\x.length<=1000/\∀H',A8 H H'->Q (.bl (isNm x)) H'
theorem bZ (l:List α):l.filter (fun _=>true)=l:=List.filter_eq_self.mpr fun _ _=>rfl
def Zr:V->V
 | .str y=>.bl (!(Builtin.Str.occurrences LL y 0 LL.length 1).isEmpty)
 | _=>.bl false
theorem tW (x:Str):((G5 x).filter (fun _=>true)).map Zr=(x.cps.toList.map Q8).map V.bl:=by
 unfold G5;rw[bZ,Fs,Fs];rfl
theorem signs_get {v:V}(h:(G5 x)[i]?=some v):∃c,v=.str ⟨#[c]⟩:=by
 unfold G5 at h;rw[Az] at h;cases q:x.cps.toList[i]? with
 | none=>rw[q] at h;cases h
 | some c=>rw[q] at h;simp at h;exact⟨c,h.symm⟩
theorem all_map (f:α->Bool)(l:List α):(l.map f).all id=l.all f:=by rw[List.all_map];rfl
theorem JI {v:V}(h:(ss.map V.str)[i]?=some v):∃x,v=.str x/\x∈ss:=by
 rw[Az] at h;cases q:ss[i]? with
 | none=>rw[q] at h;cases h
 | some x=>rw[q] at h;simp at h;exact⟨x,h.symm,DD q⟩
theorem oR (xs:List Str):E2 (xs.map V.str) (xs.map V.str)=true:=by
 rw[K6 rfl,Gv];intro j hj;have Jn:j<xs.length:=by simpa using hj
 have e:(xs.map V.str)[j]?=some (.str xs[j]):=by rw[Az,B9 Jn];rfl
 rw[JQ e];show(xs[j] == xs[j])=true;simp
theorem Hu (K:ZHP)(t:String):PySem.W.kitOne K (.type t) (.type t)=some true:=by
 unfold PySem.W.kitOne;rw[pR (by simp)]
def Ni (K:ZHP):Sp:=fun vs H Q _=>∃(a:Addr) (ns:List Int),vs=[.ref a]/\AI K H a (ns.map V.int)/\ns.length<=63/\∀H',Q (.bl true) H'
inductive AR where
 | put (x:Str) (i:Nat) | take (x:Str) | move (x:Str) (i:Nat) | turn (lo hi:Nat)
def AR.vals:AR->List V
 | .put x i=>[.str "put", .str x,.int i]
 | .take x=>[.str "take", .str x]
 | .move x i=>[.str "move", .str x,.int i]
 | .turn lo hi=>[.str "turn", .int lo,.int hi]
def AR.Ok (m:Nat)(ns:List Str):AR->Prop
 | .put x i=>Nm x/\x∉ns/\i<=ns.length/\ns.length<m
 | .take x=>x∈ns
 | .move x i=>x∈ns/\i<ns.length
 | .turn lo hi=>lo<=hi/\hi<=ns.length
def ins (ns:List Str)(x:Str)(i:Nat):List Str:=ns.take i++x::ns.drop i
def wo (ns:List Str)(x:Str):List Str:=ns.filter fun y=>!decide (y=x)
def FG (ns:List Str)(lo hi:Nat):List Str:=ns.take lo++((ns.drop lo).take (hi - lo)).reverse++ns.drop hi
def AR.done (ns:List Str):AR->List Str
 | .put x i=>ins ns x i
 | .take x=>wo ns x
 | .move x i=>ins (wo ns x) x i
 | .turn lo hi=>FG ns lo hi
theorem LU (h:x∉ns):wo ns x=ns:=by
 unfold wo;rw[ZG4];intro y hy;have:y≠x:=fun e=>h (e▸hy);simp[this]
theorem Iv:y∈wo ns x↔y∈ns/\y≠x:=by
 unfold wo;rw[Sm];simp
theorem kK (h:ns.Nodup):(wo ns x).Nodup:=h.filter _
theorem cq (as bs:List Str)(x:Str):wo (as++bs) x=wo as x++wo bs x:=by unfold wo;rw[Mi]
theorem c7 (bs:List Str)(x:Str):wo (x::bs) x=wo bs x:=by unfold wo;rw[Ov];simp
theorem Qy (h:x∈ns):ns=ns.take (ns.idxOf x)++x::ns.drop (ns.idxOf x+1):=by
 have hj:ns.idxOf x<ns.length:=List.idxOf_lt_length_iff.mpr h;have e:ns[ns.idxOf x]=x:=ZW hj
 conv=>lhs;rw[<- Gy (ns.idxOf x) ns,ZG0 hj,e]
theorem b8 (h:x∈ns):x∉ns.take (ns.idxOf x):=by
 intro hm;obtain⟨m,Oc,e⟩:=List.mem_iff_getElem.mp hm;rw[Bd] at Oc;rw[List.getElem_take] at e;exact U5 x ns m (by omega) (by omega) e
theorem gf (h:x∈ns)(nd:ns.Nodup):x∉ns.drop (ns.idxOf x+1):=by
 rw[Qy h] at nd;have h2:=(List.nodup_append.mp nd).2.1;exact(List.nodup_cons.mp h2).1
theorem pT (h:x∈ns)(nd:ns.Nodup):wo ns x=ns.take (ns.idxOf x)++ns.drop (ns.idxOf x+1):=by
 conv=>lhs;rw[Qy h]
 rw[cq,c7,LU (b8 h),LU (gf h nd)]
theorem OO (h:x∈ns)(nd:ns.Nodup):(wo ns x).length+1=ns.length:=by
 have hj:ns.idxOf x<ns.length:=List.idxOf_lt_length_iff.mpr h;rw[pT h nd,BL,Bd,Cj];omega
theorem Qr:(ins ns x i).length=ns.length+1:=by
 unfold ins;rw[BL,BH,Bd,Cj];omega
theorem RI:y∈ins ns x i↔y=x∨y∈ns:=by
 unfold ins;rw[Gx,DN];have:y∈ns↔y∈ns.take i∨y∈ns.drop i:=by rw[<- Gx,Gy]
 rw[this];constructor
 ·rintro(h | h | h)
  ·exact .inr (.inl h)
  ·exact .inl h
  ·exact .inr (.inr h)
 ·rintro(h | h | h)
  ·exact .inr (.inl h)
  ·exact .inl h
  ·exact .inr (.inr h)
theorem Uw (h:ns.Nodup)(hx:x∉ns):(ins ns x i).Nodup:=by
 unfold ins;have e:(ns.take i++ns.drop i).Nodup:=by rw[Gy];exact h
 obtain⟨h1,h2,h3⟩:=List.nodup_append.mp e;rw[Bu];refine⟨h1,List.nodup_cons.mpr ⟨fun z=>hx (lY z),h2⟩,fun a ha b hb=>?_⟩;rcases List.mem_cons.mp hb with z | z
 ·rw[z];rintro rfl;exact hx (Za ha)
 ·exact h3 a ha b z
theorem bA {lo:Nat}(h1:lo<=hi)(h2:hi<=ns.length):(FG ns lo hi).length=ns.length:=by
 unfold FG;rw[BL,BL,Oy,Bd,Bd,Cj,Cj];omega
theorem kc {lo:Nat}(h1:lo<=hi):ns=ns.take lo++(ns.drop lo).take (hi - lo)++ns.drop hi:=by
 have:ns.drop hi=(ns.drop lo).drop (hi - lo):=by rw[List.drop_drop];congr 1;omega
 rw[this,CC,Gy,Gy]
theorem bT {lo:Nat}(h1:lo<=hi):y∈FG ns lo hi↔y∈ns:=by
 conv=>rhs;rw[kc (ns:=ns) h1]
 unfold FG;simp only[Gx,List.mem_reverse]
theorem mU {lo:Nat}(h1:lo<=hi)(nd:ns.Nodup):(FG ns lo hi).Nodup:=by
 have p:List.Perm (FG ns lo hi) ns:=by
  conv=>rhs;rw[kc (ns:=ns) h1]
  unfold FG;exact((List.reverse_perm _).append_left _).append_right _
 exact p.nodup_iff.mpr nd
theorem AR.step {d:AR}(h:d.Ok m ns)(nd:ns.Nodup)(hN:∀x∈ns,Nm x)(hm:ns.length<=m):
  (d.done ns).Nodup/\(∀x∈d.done ns,Nm x)/\(d.done ns).length<=m:=by
 cases d with
 | put x i=>
  obtain⟨h1,h2,h3,h4⟩:=h;refine⟨Uw nd h2,fun y hy=>?_,?_⟩
  ·rcases RI.mp hy with e | e
   ·rw[e];exact h1
   ·exact hN y e
  ·show(ins ns x i).length<=m;rw[Qr];omega
 | take x=>
  refine⟨kK nd,fun y hy=>hN y (Iv.mp hy).1,?_⟩;have:=OO h nd;show(wo ns x).length<=m;omega
 | move x i=>
  obtain⟨h1,h2⟩:=h;refine⟨Uw (kK nd) (fun z=>(Iv.mp z).2 rfl),fun y hy=>?_,?_⟩
  ·rcases RI.mp hy with e | e
   ·rw[e];exact hN x h1
   ·exact hN y (Iv.mp e).1
  ·have:=OO h1 nd;show(ins (wo ns x) x i).length<=m;rw[Qr];omega
 | turn lo hi=>
  obtain⟨h1,h2⟩:=h;exact⟨mU h1 nd,fun y hy=>hN y ((bT h1).mp hy),by show(FG ns lo hi).length<=m;rw[bA h1 h2];exact hm⟩
theorem NW (xs:List V)(i:Nat):C7 xs none (some (i:Int))=xs.take i:=by
 unfold C7;rw[HT.QP,HT.Lj,Si,P5];rcases P2 i xs.length with h | h
 ·rw[Jp h]
 ·rw[P4 h,Hl,P1 h]
theorem Nr (xs:List V)(i:Nat):C7 xs (some (i:Int)) none=xs.drop i:=by
 unfold C7;rw[HT.QP,HT.Lj];rcases P2 i xs.length with h | h
 ·rw[Jp h,P1 (by rw[Cj];omega)]
 ·rw[P4 h,Nat.sub_self,List.take_zero,ZG1 h]
theorem iN (xs:List V){j:Nat}(hi:i<=j)(hj:j<=xs.length):C7 xs (some (i:Int)) (some (j:Int))=(xs.drop i).take (j - i):=by
 unfold C7;rw[HT.Lj,HT.Lj,Jp hj,Jp (CZ hi hj)]
def BF (tp:Bool)(xs:List V):HO:=match tp with
 | false=>.lst xs
 | true=>.tup xs
theorem BF.sq {K:ZHP}{tp:Bool}(h:H a=some (BF tp xs)):CA K tp H a xs:=by
 cases tp
 ·exact AI.of h
 ·exact AA.of h
def Jr:Sp:=fun vs H Q _=>∃(a:Addr) (tp:Bool) (ns:List Str) (x:Str),vs=[.ref a,.str x]/\H a=some (BF tp (ns.map V.str))/\x∈ns/\Q (.int (ns.idxOf x:Nat)) H
def dG:Sp:=fun vs H Q _=>∃(a:Addr) (tp:Bool) (ns:List Str) (x:Str) (i:Nat),vs=[.ref a,.str x,.int i]/\H a=some (BF tp (ns.map V.str))/\(AR.put x i).Ok 40 ns/\∀H',A8 H H'->Q .AF H'
def bz:Sp:=fun vs H Q _=>∃(a:Addr) (tp:Bool) (ns:List Str) (x:Str) (i:Nat),vs=[.ref a,.str x,.int i]/\H a=some (BF tp (ns.map V.str))/\(AR.move x i).Ok 40 ns/\Q .AF H
def eG:Sp:=fun vs H Q _=>∃(a:Addr) (tp:Bool) (ns:List Str) (lo hi:Nat),vs=[.ref a,.int lo,.int hi]/\H a=some (BF tp (ns.map V.str))/\(AR.turn lo hi).Ok 40 ns/\Q .AF H
def gE:Sp:=fun vs H Q _=>∃(a t:Addr) (tp:Bool) (ns:List Str) (d:AR),vs=[.ref a,.ref t]/\H a=some (BF tp (ns.map V.str))/\H t=some (.tup d.vals)/\d.Ok 40 ns/\∀H',A8 H H'->Q .AF H'
def J1 (H:Hp)(Q:VK)(ns:List Str):Prop:=∀l H',H l=none->A8 H H'->H' l=some (.lst (ns.map V.str))->Q (.ref l) H'
def iM:Sp:=fun vs H Q _=>∃(a:Addr) (tp:Bool) (ns:List Str) (x:Str) (i:Nat),vs=[.ref a,.str x,.int i]/\H a=some (BF tp (ns.map V.str))/\ns.length<=1000/\J1 H Q (ins ns x i)
def jW:Sp:=fun vs H Q _=>∃(a:Addr) (tp:Bool) (ns:List Str) (x:Str),vs=[.ref a,.str x]/\H a=some (BF tp (ns.map V.str))/\ns.length<=1000/\J1 H Q (wo ns x)
def WU:Sp:=fun vs H Q _=>∃(a t:Addr) (ns:List Str) (d:AR),vs=[.ref a,.ref t]/\H a=some (.lst (ns.map V.str))/\H t=some (.tup d.vals)/\d.Ok 40 ns/\ns.length<=40/\ns.Nodup/\J1 H Q (d.done ns)
def QU:Sp:=fun vs H Q _=>∃(p a:Addr) (m:Nat) (ns:List Str),vs=[.ref p,.ref a,.int m]/\BY H p/\H a=some (.lst (ns.map V.str))/\a≠p/\(∀x∈ns,Nm x)/\ns.length<=m/\1<=m/\m<=100/\
 ∀(d:AR) t H',H t=none->BK p H H'->H' t=some (.tup d.vals)->d.Ok m ns->Q (.ref t) H'
theorem HP [Decidable c](h:c)(a:A):if c then A else B:=by rw[pR h];exact a
theorem BM [Decidable c](h:¬ c)(b:B):if c then A else B:=by rw[nr h];exact b
theorem rC:∀j,j<26->Q8 (97+j)=true:=by decide +kernel
theorem X9 (h:Nm x):isNm x=true:=by
 obtain⟨h1,h2,h3⟩:=h;unfold isNm;rw[nV (by omega),nV (by omega),Mf,Mf,Gv];intro c hc;obtain⟨a,b⟩:=h3 c hc;have:=rC (c - 97) (by omega);have e:97+(c - 97)=c:=by omega
 rw[e] at this;exact this
theorem D7 (ns:List Str):(ns.map V.str).length=ns.length:=AX _
def He (y:V):V->Bool:=fun v=>!decide (v=y)
theorem Na (ns:List Str)(x:Str):((ns.map V.str).filter (He (.str x))).map (fun v=>v)=(wo ns x).map V.str:=by
 unfold wo He;rw[lW,lN]
 congr 1
 apply ZG3;intro y _;simp
theorem nv (ns:List Str)(i:Int):((ns.map V.str).filter (He (.int i))).map (fun v=>v)=ns.map V.str:=by
 unfold He;rw[lW,ZG4];intro v hv;obtain⟨y,_,rfl⟩:=List.mem_map.mp hv;rfl
theorem mM (s:A8 H H')(h:H l=none):A8 H (upd H' l o):=fun b u q=>by rw[Ad (EU q h)];exact s b u q
theorem yp (K:ZHP):PySem.W.kitOne K (.type "int") (.type "bool")=some false:=by
 unfold PySem.W.kitOne;rw[nr (by decide)];with_unfolding_all rfl
end Lw
namespace Fz
open L2 Lw
variable {F F' H H':Hp}{v:V}{CB vs:List V}{t:TA}{a l:Addr}{r:List V->Hp->VK->Prop}{σ τ:L2.St}{o:HO}{i i0 j:Nat}{ta tb tc te:TE}{b neg tp:Bool}{f:Int->Int->Bool}{g:TG}{u:TS}{n:String}{th tl:TO}{X:XK}{wi:TI}{A:List Addr}{Q:VK}
inductive PV where
 | AF | bl (b:Bool) | int (i:Int) | str (x:Str) | lst (xs:List PV) | tup (xs:List PV)
 | Aq (ks:List Key) (xs:List PV) | obj (C:Addr) (ns:List Str) (xs:List PV) | exc (C:Addr) (ns:List Str) (xs:List PV) | con (a:Addr) (xs:List PV)
variable {p:PV}{ps xs:List PV}
def P7 (a C:Addr)(dx:Option Addr):HO:=.ext fun h=>∃ob vs,h.get? a=some ob/\ob.cls=.ref C/\ob.dict=dx/\ob.data=.fields vs
mutual
inductive Rep (F:Hp):V->PV->Prop where
 | AF:Rep F .AF .AF
 | bl (b:Bool):Rep F (.bl b) (.bl b)
 | int (i:Int):Rep F (.int i) (.int i)
 | str (x:Str):Rep F (.str x) (.str x)
 | lst {a:Addr}{vs:List V}{xs:List PV}:F a=some (.lst vs)->AO F vs xs->Rep F (.ref a) (.lst xs)
 | tup {a:Addr}{vs:List V}{xs:List PV}:F a=some (.tup vs)->AO F vs xs->Rep F (.ref a) (.tup xs)
 | Aq {a:Addr}{ks:List Key}{vs:List V}{xs:List PV}:F a=some (.dK (ks.zip vs))->ks.length=vs.length->AO F vs xs->Rep F (.ref a) (.Aq ks xs)
 | obj {a C dx:Addr}{ns:List Str}{vs:List V}{xs:List PV}:F a=some (.ins C dx (ns.zip vs))->F dx=some (.own a)->ns.length=vs.length->AO F vs xs->Rep F (.ref a) (.obj C ns xs)
 | con {a:Addr}{xs:List PV}:Rep F (.ref a) (.con a xs)
 | Nx {a C:Addr}:F a=some (P7 a C none)->Rep F (.ref a) (.exc C [] [])
 | exc {a C dx:Addr}{ns:List Str}{vs:List V}{xs:List PV}:F a=some (P7 a C (some dx))->F dx=some (.xd (ns.zip vs))->ns.length=vs.length->AO F vs xs->Rep F (.ref a) (.exc C ns xs)
inductive AO (F:Hp):List V->List PV->Prop where
 | nil:AO F [] []
 | cons {v:V}{p:PV}{vs:List V}{ps:List PV}:Rep F v p->AO F vs ps->AO F (v::vs) (p::ps)
end
mutual
theorem Rep.mono {F F':Hp}(s:A8 F F'):∀{v:V}{p:PV},Rep F v p->Rep F' v p
 | _,_,.AF=>.AF
 | _,_,.bl b=>.bl b
 | _,_,.int i=>.int i
 | _,_,.str x=>.str x
 | _,_,.lst h r=>.lst (s _ _ h) (AO.mono s r)
 | _,_,.tup h r=>.tup (s _ _ h) (AO.mono s r)
 | _,_,.Aq h e r=>.Aq (s _ _ h) e (AO.mono s r)
 | _,_,.obj h h2 e r=>.obj (s _ _ h) (s _ _ h2) e (AO.mono s r)
 | _,_,.con=>.con
 | _,_,.Nx h=>.Nx (s _ _ h)
 | _,_,.exc h h2 e r=>.exc (s _ _ h) (s _ _ h2) e (AO.mono s r)
theorem AO.mono {F F':Hp}(s:A8 F F'):∀{vs:List V}{ps:List PV},AO F vs ps->AO F' vs ps
 | _,_,.nil=>.nil
 | _,_,.cons r t=>.cons (Rep.mono s r) (AO.mono s t)
end
def tO (F:Hp)(v:V):PV->Prop
 | .AF=>v=.AF
 | .bl b=>v=.bl b
 | .int i=>v=.int i
 | .str x=>v=.str x
 | .lst xs=>∃a vs,v=.ref a/\F a=some (.lst vs)/\AO F vs xs
 | .tup xs=>∃a vs,v=.ref a/\F a=some (.tup vs)/\AO F vs xs
 | .Aq ks xs=>∃a vs,v=.ref a/\F a=some (.dK (ks.zip vs))/\ks.length=vs.length/\AO F vs xs
 | .obj C ns xs=>∃a dx vs,v=.ref a/\F a=some (.ins C dx (ns.zip vs))/\F dx=some (.own a)/\ns.length=vs.length/\AO F vs xs
 | .con a _=>v=.ref a
 | .exc C ns xs=>(∃a,v=.ref a/\F a=some (P7 a C none)/\ns=[]/\xs=[])∨∃a dx vs,v=.ref a/\F a=some (P7 a C (some dx))/\F dx=some (.xd (ns.zip vs))/\ns.length=vs.length/\AO F vs xs
theorem Rep.inv (r:Rep F v p):tO F v p:=by
 cases r with
 | lst h r=>exact⟨_,_,rfl,h,r⟩
 | tup h r=>exact⟨_,_,rfl,h,r⟩
 | Aq h l r=>exact⟨_,_,rfl,h,l,r⟩
 | obj h h2 l r=>exact⟨_,_,_,rfl,h,h2,l,r⟩
 | Nx h=>exact .inl ⟨_,rfl,h,rfl,rfl⟩
 | exc h h2 l r=>exact .inr ⟨_,_,_,rfl,h,h2,l,r⟩
 | _=>exact rfl
theorem AO.inv (r:AO F vs (p::ps)):∃v ws,vs=v::ws/\Rep F v p/\AO F ws ps:=by
 cases r with
 | cons r t=>exact⟨_,_,rfl,r,t⟩
theorem AO.wz (r:AO F vs []):vs=[]:=by
 cases r;rfl
theorem AO.length {F:Hp}:∀{vs:List V}{ps:List PV},AO F vs ps->vs.length=ps.length
 | [],_,.nil=>rfl
 | _::_,_,.cons _ t=>by rw[BH,BH,AO.length t]
theorem AO.get {F:Hp}:∀{vs:List V}{ps:List PV}{i:Nat}{p:PV},AO F vs ps->ps[i]?=some p->∃v,vs[i]?=some v/\Rep F v p
 | _,_,_,_,.nil,e=>by simp at e
 | _,_,0,_,.cons r _,e=>by simp at e;subst e;exact⟨_,rfl,r⟩
 | _,_,i+1,p,.cons _ t,e=>by
  obtain⟨u,h1,h2⟩:=AO.get (i:=i) (p:=p) t (by simpa using e)
  exact⟨u,by simpa using h1,h2⟩
theorem AO.get' {F:Hp}:∀{vs:List V}{ps:List PV}{i:Nat}{v:V},AO F vs ps->vs[i]?=some v->∃p,ps[i]?=some p/\Rep F v p
 | _,_,_,_,.nil,e=>by simp at e
 | _,_,0,_,.cons r _,e=>by simp at e;subst e;exact⟨_,rfl,r⟩
 | _,_,i+1,p,.cons _ t,e=>by
  obtain⟨u,h1,h2⟩:=AO.get' (i:=i) (v:=p) t (by simpa using e)
  exact⟨u,by simpa using h1,h2⟩
theorem AO.append {F:Hp}:∀{vs ws:List V}{ps qs:List PV},AO F vs ps->AO F ws qs->AO F (vs++ws) (ps++qs)
 | _,_,_,_,.nil,s=>s
 | _,_,_,_,.cons r t,s=>.cons r (AO.append t s)
theorem AO.take {F:Hp}:∀{vs:List V}{ps:List PV}(n:Nat),AO F vs ps->AO F (vs.take n) (ps.take n)
 | _,_,0,_=>by simp only[List.take_zero];exact .nil
 | _,_,_+1,.nil=>.nil
 | _,_,n+1,.cons r t=>.cons r (AO.take n t)
theorem AO.drop {F:Hp}:∀{vs:List V}{ps:List PV}(n:Nat),AO F vs ps->AO F (vs.drop n) (ps.drop n)
 | _,_,0,r=>r
 | _,_,_+1,.nil=>.nil
 | _,_,n+1,.cons _ t=>AO.drop n t
theorem AO.one (r:Rep F v p):AO F [v] [p]:=.cons r .nil
def flat:PV->Bool
 | .lst _=>false
 | .tup _=>false
 | .Aq _ _=>false
 | .obj _ _ _=>false
 | .exc _ _ _=>false
 | .con _ _=>false
 | _=>true
def enc:PV->V
 | .bl b=>.bl b
 | .int i=>.int i
 | .str x=>.str x
 | _=>.AF
theorem Rep.enc (h:flat p=true)(r:Rep F v p):v=enc p:=by
 cases r <;> first | rfl | cases h
theorem zj (h:flat p=true):Rep F (enc p) p:=by
 cases p with
 | AF=>exact .AF
 | bl b=>exact .bl b
 | int i=>exact .int i
 | str x=>exact .str x
 | lst xs=>cases h
 | tup xs=>cases h
 | Aq ks xs=>cases h
 | obj C ns xs=>cases h
 | exc C ns xs=>cases h
 | con a xs=>cases h
theorem AO.enc {F:Hp}:∀{vs:List V}{ps:List PV},ps.all flat=true->AO F vs ps->vs=ps.map enc
 | _,_,_,.nil=>rfl
 | _,_,h,.cons r t=>by
  rw[Sh,E4] at h;rw[Bn,<- Rep.enc h.1 r,<- AO.enc h.2 t]
theorem VJ {F:Hp}:∀{ps:List PV},ps.all flat=true->AO F (ps.map enc) ps
 | [],_=>.nil
 | p::r,h=>by
  rw[Sh,E4] at h;exact .cons (zj h.1) (VJ h.2)
theorem R7 (h:flat p=true):EW (Fz.enc p)=true:=by cases p <;> first | rfl | cases h
theorem gF (ns:List Str):(ns.map PV.str).all flat=true:=by
 rw[Gv];intro x hx;obtain⟨y,_,rfl⟩:=List.mem_map.mp hx;rfl
theorem ZCU (ns:List Int):(ns.map PV.int).all flat=true:=by
 rw[Gv];intro x hx;obtain⟨y,_,rfl⟩:=List.mem_map.mp hx;rfl
theorem tF (ns:List Bool):(ns.map PV.bl).all flat=true:=by
 rw[Gv];intro x hx;obtain⟨y,_,rfl⟩:=List.mem_map.mp hx;rfl
theorem Zt (ns:List Str):(ns.map PV.str).map Fz.enc=ns.map V.str:=by rw[Fs];rfl
theorem zD (ns:List Bool):(ns.map PV.bl).map Fz.enc=ns.map V.bl:=by rw[Fs];rfl
theorem ZFV (ns:List Int):(ns.map PV.int).map Fz.enc=ns.map V.int:=by rw[Fs];rfl
theorem AO.strs {ns:List Str}(r:AO F vs (ns.map PV.str)):vs=ns.map V.str:=(r.enc (gF ns)).trans (Zt ns)
theorem JW (ns:List Str):AO F (ns.map V.str) (ns.map PV.str):=by rw[<- Zt];exact VJ (gF ns)
theorem AO.bls {ns:List Bool}(r:AO F vs (ns.map PV.bl)):vs=ns.map V.bl:=(r.enc (tF ns)).trans (zD ns)
theorem AO.ints {ns:List Int}(r:AO F vs (ns.map PV.int)):vs=ns.map V.int:=(r.enc (ZCU ns)).trans (ZFV ns)
inductive NK where
 | lst | Aq (ks:List Key) | obj (C dx:Addr) (ns:List Str)
def NK.ho:NK->List V->HO
 | .lst,vs=>.lst vs
 | .Aq ks,vs=>.dK (ks.zip vs)
 | .obj C dx ns,vs=>.ins C dx (ns.zip vs)
def NK.more:NK->List Addr
 | .obj _ dx _=>[dx]
 | _=>[]
def NK.side (k:NK)(a:Addr)(H:Hp):Prop:=match k with
 | .obj _ dx _=>H dx=some (.own a)
 | _=>True
def NK.fit (k:NK)(n:Nat):Prop:=match k with
 | .Aq ks=>ks.length=n
 | .obj _ _ ns=>ns.length=n
 | _=>True
inductive OV where
 | fz (p:PV)
 | tp (xs:List OV)
 | nd (k:NK) (a:Addr) (xs:List OV)
mutual
def OV.addrs:OV->List Addr
 | .fz _=>[]
 | .tp xs=>OV.Al xs
 | .nd k a xs=>a::(k.more++OV.Al xs)
def OV.Al:List OV->List Addr
 | []=>[]
 | x::r=>x.addrs++OV.Al r
end
mutual
def OV.pv:OV->PV
 | .fz p=>p
 | .tp xs=>.tup (OV.Fo xs)
 | .nd .lst _ xs=>.lst (OV.Fo xs)
 | .nd (.Aq ks) _ xs=>.Aq ks (OV.Fo xs)
 | .nd (.obj C _ ns) _ xs=>.obj C ns (OV.Fo xs)
def OV.Fo:List OV->List PV
 | []=>[]
 | x::r=>x.pv::OV.Fo r
end
mutual
inductive B1 (F H:Hp):V->OV->Prop where
 | fz {v:V}{p:PV}:Rep F v p->B1 F H v (.fz p)
 | tp {a:Addr}{vs:List V}{xs:List OV}:F a=some (.tup vs)->B6 F H vs xs->B1 F H (.ref a) (.tp xs)
 | nd {k:NK}{a:Addr}{vs:List V}{xs:List OV}:H a=some (k.ho vs)->k.side a H->k.fit vs.length->B6 F H vs xs->B1 F H (.ref a) (.nd k a xs)
inductive B6 (F H:Hp):List V->List OV->Prop where
 | nil:B6 F H [] []
 | cons {v:V}{t:OV}{vs:List V}{ts:List OV}:B1 F H v t->B6 F H vs ts->B6 F H (v::vs) (t::ts)
end
def ZCk (F H:Hp)(v:V):OV->Prop
 | .fz p=>Rep F v p
 | .tp xs=>∃a vs,v=.ref a/\F a=some (.tup vs)/\B6 F H vs xs
 | .nd k a xs=>∃vs,v=.ref a/\H a=some (k.ho vs)/\k.side a H/\k.fit vs.length/\B6 F H vs xs
theorem B1.inv {t:OV}(r:B1 F H v t):ZCk F H v t:=by
 cases r with
 | fz r=>exact r
 | tp h r=>exact⟨_,_,rfl,h,r⟩
 | nd h sd ft r=>exact⟨_,rfl,h,sd,ft,r⟩
theorem B6.inv {t:OV}{ts:List OV}(r:B6 F H vs (t::ts)):∃v ws,vs=v::ws/\B1 F H v t/\B6 F H ws ts:=by
 cases r with
 | cons r t=>exact⟨_,_,rfl,r,t⟩
theorem OV.DR {k:NK}{xs:List OV}:(OV.nd k a xs).addrs=a::(k.more++OV.Al xs):=by rw[OV.addrs]
theorem OV.HR {xs:List OV}:(OV.tp xs).addrs=OV.Al xs:=by rw[OV.addrs]
theorem OV.Qp:(OV.fz p).addrs=[]:=by rw[OV.addrs]
theorem OV.D1 {x:OV}{r:List OV}:OV.Al (x::r)=x.addrs++OV.Al r:=by rw[OV.Al]
theorem OV.Ib:OV.Al []=[]:=by rw[OV.Al]
theorem NK.j6 {k:NK}(h:k.side a H)(s:∀b∈k.more,∀o,H b=some o->H' b=some o):k.side a H':=by
 cases k with
 | obj C dx ns=>exact s dx (by simp[NK.more]) _ h
 | _=>trivial
mutual
theorem B1.mono {F F' H H':Hp}(f:A8 F F'):∀{v:V}{t:OV},B1 F H v t->(∀a∈t.addrs,∀o,H a=some o->H' a=some o)->B1 F' H' v t
 | _,_,.fz r,_=>.fz (r.mono f)
 | _,_,.tp h r,s=>by
  rw[OV.HR] at s;exact .tp (f _ _ h) (B6.mono f r s)
 | _,_,.nd h sd ft r,s=>by
  rw[OV.DR] at s;exact .nd (s _ (by simp) _ h) (NK.j6 sd fun b hb=>s b (by simp[hb])) ft (B6.mono f r fun a ha=>s a (by simp[ha]))
theorem B6.mono {F F' H H':Hp}(f:A8 F F'):∀{vs:List V}{ts:List OV},B6 F H vs ts->(∀a∈OV.Al ts,∀o,H a=some o->H' a=some o)->B6 F' H' vs ts
 | _,_,.nil,_=>.nil
 | _,_,.cons r t,s=>by
  rw[OV.D1] at s;exact .cons (B1.mono f r fun a ha=>s a (by simp[ha])) (B6.mono f t fun a ha=>s a (by simp[ha]))
end
mutual
theorem B1.there {F H:Hp}:∀{v:V}{t:OV},B1 F H v t->∀a∈t.addrs,H a≠none
 | _,_,.fz _,a,ha=>by rw[OV.addrs] at ha;cases ha
 | _,_,.tp _ r,a,ha=>by rw[OV.HR] at ha;exact B6.there r a ha
 | _,_,@B1.nd _ _ k b vs xs h sd ft r,a,ha=>by
  rw[OV.DR,DN,Gx] at ha;rcases ha with rfl | ha | ha
  ·rw[h];simp
  ·cases k with
   | obj C dx ns=>
    have e:a=dx:=by simpa[NK.more] using ha
    subst e;have U9:H a=some (.own b):=sd;rw[U9];simp
   | _=>simp[NK.more] at ha
  ·exact B6.there r a ha
theorem B6.there {F H:Hp}:∀{vs:List V}{ts:List OV},B6 F H vs ts->∀a∈OV.Al ts,H a≠none
 | _,_,.nil,a,ha=>by rw[OV.Ib] at ha;cases ha
 | _,_,.cons r t,a,ha=>by
  rw[OV.D1,Gx] at ha;rcases ha with ha | ha
  ·exact B1.there r a ha
  ·exact B6.there t a ha
end
theorem B6.length {F H:Hp}:∀{vs:List V}{ts:List OV},B6 F H vs ts->vs.length=ts.length
 | [],_,.nil=>rfl
 | _::_,_,.cons _ t=>by rw[BH,BH,B6.length t]
inductive Slot where
 | any | is (p:PV) | own (xs:List PV) | AD | sq (tp:Bool) (xs:List PV) | raw (P:Hp->V->Prop) | ow (lt:Bool) (t:OV)
variable {ss:List Slot}{s:Slot}{Hy nx:List Slot->Prop}
structure Ent0 where
 A:List Addr
 F0:Hp
 H0:Hp
 B:List Addr
variable {E:Ent0}
abbrev E3 (A:List Addr)(F H:Hp):Ent0:=⟨A,F,H,[]⟩
def Ok (E:Ent0)(F H:Hp):Slot->Option (Option V)->Prop
 | .any,_=>True
 | .is p,o=>∃v,o=some (some v)/\Rep F v p
 | .own xs,o=>∃l vs,o=some (some (.ref l))/\F l=none/\E.H0 l=none/\H l=some (.lst vs)/\AO F vs xs
 | .AD,o=>∃l,o=some (some (.ref l))/\F l=none/\(E.H0 l=none∨l∈E.A)/\BY H l
 | .sq true xs,o=>∃v,o=some (some v)/\Rep F v (.tup xs)
 | .sq false xs,o=>∃l vs,o=some (some (.ref l))/\(l∉E.A/\l∉E.B)/\E.H0 l=some (.lst vs)/\AO F vs xs
 | .raw P,o=>∃v,o=some (some v)/\P F v/\∀F F',A8 F F'->P F v->P F' v
 | .ow lt t,o=>∃v,o=some (some v)/\B1 F H v t/\t.addrs.Nodup/\∀a∈t.addrs,F a=none/\(E.H0 a=none∨(lt=true/\a∈E.B))
def BI:Slot->Option (Option V)->Addr->Prop
 | .own _,o,l=>o=some (some (.ref l))
 | .AD,o,l=>o=some (some (.ref l))
 | .ow _ t,_,l=>l∈t.addrs
 | _,_,_=>False
structure Fin (E:Ent0) (F H:Hp):Prop where
 fh:A8 F H
 f0:A8 E.F0 F
 keep:∀a o,(a∉E.A/\a∉E.B)->E.H0 a=some o->H a=some o
 fresh:∀a o,F a=some o->E.F0 a=some o∨E.H0 a=none
 EL:∀a,a∈E.A->BY H a
 Li:∀a,a∈E.A->F a=none
 a0:∀a,a∈E.A->E.H0 a≠none
 bF:∀a,a∈E.B->F a=none
 bH:∀a,a∈E.B->H a≠none
 b0:∀a,a∈E.B->E.H0 a≠none/\a∉E.A
structure Sg (E:Ent0) (ss:List Slot) (σ:L2.St) (F H:Hp):Prop extends Fin E F H where
 len:ss.length=σ.length
 ok:∀(i:Nat) s,ss[i]?=some s->Ok E F H s σ[i]?
 BZ:∀(i j:Nat) s u l,i≠j->ss[i]?=some s->ss[j]?=some u->BI s σ[i]? l->¬ BI u σ[j]? l
structure Ex where
 C:Addr
 ns:List Str
 xs:List PV
def Ex.at (x:Ex)(F:Hp)(C:Value)(dx:Option Addr):Prop:=
 C=.ref x.C/\((x.ns=[]/\x.xs=[]/\dx=none)∨∃a vs,dx=some a/\F a=some (.xd (x.ns.zip vs))/\x.ns.length=vs.length/\AO F vs x.xs)
class Xw where
 e:L2.St->XK
 J:List Slot->Prop
 D:Ex->Prop
structure Ent [Xw] extends Ent0 where
 hx:∀(ss:List Slot) (σ:L2.St) (F H:Hp) (x:Ex) (C:Value) (dx:Option Addr),Xw.J ss->Sg toEnt0 ss σ F H->Xw.D x->x.at F C dx->Xw.e σ C dx H
instance [Xw]:CoeOut Ent Ent0:=⟨Ent.toEnt0⟩
instance Pd:Xw:=⟨fun _=>E0,fun _=>True,fun _=>False⟩
def CK (ss:List Slot)(σ:L2.St)(a:Addr):Prop:=∀i:Nat,ss[i]?=some .AD->σ[i]?≠some (some (.ref a))
structure Mv (E:Ent0) (ss:List Slot) (σ:L2.St) (F H F' H':Hp):Prop where
 st:Sg E ss σ F' H'
 ff:A8 F F'
 hh:∀a o,CK ss σ a->H a=some o->H' a=some o
 nn:∀a o,F' a=some o->F a=some o∨H a=none
theorem Sg.OH (S:Sg E ss σ F H)(h:H l=none):CK ss σ l:=fun i hi e=>by
 obtain⟨l',e1,_,_,_,_,e2,_⟩:=S.ok i _ hi;rw[e] at e1;cases e1;rw[h] at e2;cases e2
theorem Mv.none (m:Mv E ss σ F H F' H')(h:H' a=none):H a=none:=by
 cases e:H a with
 | none=>rfl
 | some o=>rw[m.hh a o (m.st.OH h) e] at h;cases h
theorem Mv.refl {E:Ent0}{ss:List Slot}{σ:L2.St}{F H:Hp}(S:Sg E ss σ F H):Mv E ss σ F H F H:=⟨S,A8.refl _,fun _ _ _ e=>e,fun _ _ e=>.inl e⟩
theorem Mv.trans {F1 H1 F2 H2:Hp}(a:Mv E ss σ F H F1 H1)(b:Mv E ss σ F1 H1 F2 H2):Mv E ss σ F H F2 H2:=
 ⟨b.st,a.ff.trans b.ff,fun c o n e=>b.hh c o n (a.hh c o n e),fun c o e=>(b.nn c o e).elim (fun e=>a.nn c o e) fun e=>.inr (a.none e)⟩
theorem Sg.E8 (S:Sg E ss σ F H){p:Addr}(h:H p=none):E.H0 p=none:=by
 cases e:E.H0 p with
 | none=>rfl
 | some o=>
  by_cases q:p∈E.A
  ·obtain⟨_,_,e1,_⟩:=S.EL p q;rw[h] at e1;cases e1
  ·by_cases qb:p∈E.B
   ·exact absurd h (S.bH p qb)
   ·rw[S.keep p o ⟨q,qb⟩ e] at h;cases h
theorem Sg.BU (S:Sg E ss σ F H){p:Addr}(h:H p=none):F p=none:=A8.none S.fh h
theorem BY.keep (h:BY H l)(k:∀o,H l=some o->H' l=some o):BY H' l:=by
 obtain⟨a,b,e,r⟩:=h;exact⟨a,b,k _ e,r⟩
theorem Sg.i6 (S:Sg E ss σ F H)(h:F l=some o):CK ss σ l:=fun i hi e=>by
 obtain⟨l',e1,e2,_⟩:=S.ok i _ hi;rw[e] at e1;cases e1;rw[h] at e2;cases e2
theorem Sg.fk (S:Sg E ss σ F H)(hA:l∉E.A)(h:E.H0 l=some o):CK ss σ l:=fun i hi e=>by
 obtain⟨l',e1,_,q,_⟩:=S.ok i _ hi;rw[e] at e1;cases e1;rcases q with q | q
 ·rw[h] at q;cases q
 ·exact hA q
theorem Sg.ZDr (S:Sg E ss σ F H)(h:l∈E.B):CK ss σ l:=fun i hi e=>by
 obtain⟨l',e1,_,q,_⟩:=S.ok i _ hi;rw[e] at e1;cases e1;obtain⟨h0,hA⟩:=S.b0 l h;rcases q with q | q
 ·exact h0 q
 ·exact hA q
theorem Sg.Dv (S:Sg E ss σ F H)(h:ss[i]?=some s)(m:BI s σ[i]? l):H l≠none:=by
 have k:=S.ok i s h;cases s with
 | own xs=>obtain⟨l',vs,e1,_,_,e2,_⟩:=k;rw[show σ[i]?=some (some (.ref l)) from m] at e1;cases e1;rw[e2];simp
 | AD=>obtain⟨l',e1,_,_,_,_,e2,_⟩:=k;rw[show σ[i]?=some (some (.ref l)) from m] at e1;cases e1;rw[e2];simp
 | ow lt t=>obtain⟨v,_,r,_⟩:=k;exact r.there l m
 | _=>cases m
theorem Sg.mB (S:Sg E ss σ F H)(h:ss[i]?=some s)(m:BI s σ[i]? l):F l=none:=by
 have k:=S.ok i s h;cases s with
 | own xs=>obtain⟨l',vs,e1,e2,_⟩:=k;rw[show σ[i]?=some (some (.ref l)) from m] at e1;cases e1;exact e2
 | AD=>obtain⟨l',e1,e2,_⟩:=k;rw[show σ[i]?=some (some (.ref l)) from m] at e1;cases e1;exact e2
 | ow lt t=>obtain⟨v,_,r,_,q⟩:=k;exact(q l m).1
 | _=>cases m
theorem Sg.Pu (S:Sg E ss σ F H)(h:ss[i]?=some s)(hl:H l=none):¬ BI s σ[i]? l:=fun m=>S.Dv h m hl
theorem Sg.OM (S:Sg E ss σ F H)(h:ss[i]?=some s)(m:BI s σ[i]? l)(np:s≠.AD):CK ss σ l:=fun j hj ej=>
 S.BZ i j s _ l (by rintro rfl;rw[h] at hj;exact np (BS hj)) h hj m ej
theorem Ok.go (S:Sg E ss σ F H)(hi:ss[i]?=some s)(ff:A8 F F')(hk:∀a o,BI s σ[i]? a->H a=some o->H' a=some o)(BU:∀a,H a≠none->F a=none->F' a=none)(np:s≠.AD):Ok E F' H' s σ[i]?:=by
 have k:=S.ok i s hi;cases s with
 | any=>trivial
 | is p=>obtain⟨v,e,r⟩:=k;exact⟨v,e,r.mono ff⟩
 | own xs=>
  obtain⟨l,vs,e,e1,e2,e3,r⟩:=k;exact⟨l,vs,e,BU l (by rw[e3];simp) e1,e2,hk l _ e e3,r.mono ff⟩
 | AD=>exact absurd rfl np
 | sq tp xs=>
  cases tp with
  | true=>obtain⟨v,e,r⟩:=k;exact⟨v,e,r.mono ff⟩
  | false=>obtain⟨l,vs,e,e1,e2,r⟩:=k;exact⟨l,vs,e,e1,e2,r.mono ff⟩
 | raw P=>obtain⟨v,e,r,st⟩:=k;exact⟨v,e,st _ _ ff r,st⟩
 | ow lt t=>
  obtain⟨v,e,r,nd,q⟩:=k;exact⟨v,e,r.mono ff fun a ha o=>hk a o ha,nd,fun a ha=>⟨BU a (r.there a ha) (q a ha).1,(q a ha).2⟩⟩
theorem Sg.step (S:Sg E ss σ F H)(ff:A8 F F')(fh:A8 F' H')(hk:∀a o,CK ss σ a->H a=some o->H' a=some o)(hn:∀a o,F' a=some o->F a=some o∨H a=none)
  (hp:∀(i:Nat) l,ss[i]?=some .AD->σ[i]?=some (some (.ref l))->BY H' l):Mv E ss σ F H F' H':=by
 have BU:∀a,H a≠none->F a=none->F' a=none:=fun a h1 h2=>by
  cases e:F' a with
  | none=>rfl
  | some o=>
   rcases hn a o e with q | q
   ·rw[h2] at q;cases q
   ·exact absurd q h1
 have ZDn:∀a,BY H a->CK ss σ a->BY H' a:=fun a p n=>BY.keep p fun o e=>hk a o n e;refine⟨⟨⟨fh,S.f0.trans ff,fun a o hA e=>?_,fun a o e=>?_,fun a hA=>?_,fun a hA=>?_,S.a0,fun a hB=>BU a (S.bH a hB) (S.bF a hB),fun a hB=>?_,S.b0⟩,S.len,fun i s hi=>?_,S.BZ⟩,ff,hk,hn⟩
 ·exact hk a o (S.fk hA.1 e) (S.keep a o hA e)
 ·rcases hn a o e with q | q
  ·exact S.fresh a o q
  ·exact .inr (S.E8 q)
 ·by_cases q:∃i:Nat,ss[i]?=some .AD/\σ[i]?=some (some (.ref a))
  ·obtain⟨i,q1,q2⟩:=q;exact hp i a q1 q2
  ·exact ZDn a (S.EL a hA) fun i h1 h2=>q ⟨i,h1,h2⟩
 ·refine BU a ?_ (S.Li a hA);obtain⟨_,_,e1,_⟩:=S.EL a hA;rw[e1];simp
 ·obtain⟨o,e⟩:=Option.ne_none_iff_exists'.mp (S.bH a hB);rw[hk a o (S.ZDr hB) e];simp
 ·by_cases np:s=.AD
  ·subst np;obtain⟨l,e,e1,e2,e3⟩:=S.ok i _ hi;have OL:=e3;obtain⟨_,_,e4,_⟩:=OL;exact⟨l,e,BU l (by rw[e4];simp) e1,e2,hp i l hi e⟩
  ·exact Ok.go S hi ff (fun a o m=>hk a o (S.OM hi m np)) BU np
theorem Sg.E7 (S:Sg E ss σ F H)(hi:ss[i]?=some .AD)(e:σ[i]?=some (some (.ref l))):BY H l:=by
 obtain⟨l',e1,_,_,p⟩:=S.ok i _ hi;rw[e] at e1;cases e1;exact p
theorem Sg.alloc (S:Sg E ss σ F H){p:Addr}(h:H p=none)(o:HO):Mv E ss σ F H (upd F p o) (upd H p o):=by
 refine S.step (Ab (S.BU h) _) (fun a u e=>?_) (fun a u _ e=>Ab h o a u e) (fun a u e=>?_) fun i l hi e=>BY.keep (S.E7 hi e) fun u e=>Ab h o l u e
 ·by_cases q:a=p
  ·subst q;rw[AH] at e ⊢;exact e
  ·rw[Ad q] at e ⊢;exact S.fh a u e
 ·by_cases q:a=p
  ·subst q;exact .inr h
  ·rw[Ad q] at e;exact .inl e
theorem Sg.make (S:Sg E ss σ F H){p:Addr}(h:H p=none)(o:HO):Mv E ss σ F H F (upd H p o):=
 S.step (A8.refl _) (S.fh.trans (Ab h o)) (fun a u _ e=>Ab h o a u e) (fun a u e=>.inl e) fun i l hi e=>BY.keep (S.E7 hi e) fun u e=>Ab h o l u e
theorem Sg.grow (S:Sg E ss σ F H)(s:A8 H H'):Mv E ss σ F H F H':=
 S.step (A8.refl _) (S.fh.trans s) (fun a u _ e=>s a u e) (fun a u e=>.inl e) fun i l hi e=>BY.keep (S.E7 hi e) fun u e=>s l u e
theorem Sg.setG (S:Sg E ss σ F H)(AK:Ok E F H s (some (some v)))(j7:∀l,BI s (some (some v)) l->∀(i:Nat) u,i≠j->ss[i]?=some u->¬ BI u σ[i]? l):Sg E (ss.set j s) (σ.set j (some v)) F H:=by
 refine⟨S.toFin,by rw[Hk,Hk];exact S.len,fun i u hi=>?_,fun i k u w l Qh hi hk mu mw=>?_⟩
 ·by_cases q:i=j
  ·subst q;have AW:i<ss.length:=by have:=(List.getElem?_eq_some_iff.mp hi).1;simpa using this
   rw[Ci AW] at hi;cases hi;rw[Ci (by rw[<- S.len];exact AW)];exact AK
  ·rw[CG (BP q)] at hi ⊢;exact S.ok i u hi
 ·by_cases q:i=j
  ·subst q;have AW:i<ss.length:=by have:=(List.getElem?_eq_some_iff.mp hi).1;simpa using this
   rw[Ci AW] at hi;rw[Ci (by rw[<- S.len];exact AW)] at mu;cases hi;rw[CG Qh] at hk mw;exact j7 l mu k w (BP Qh) hk mw
  ·rw[CG (BP q)] at hi mu
   by_cases q2:k=j
   ·subst q2;have AW:k<ss.length:=by have:=(List.getElem?_eq_some_iff.mp hk).1;simpa using this
    rw[Ci AW] at hk;cases hk;rw[Ci (by rw[<- S.len];exact AW)] at mw;exact j7 l mw i u Qh hi mu
   ·rw[CG (BP q2)] at hk mw;exact S.BZ i k u w l Qh hi hk mu mw
theorem Sg.LJ (S:Sg E ss σ F H)(r:Rep F v p):Sg E (ss.set j (.is p)) (σ.set j (some v)) F H:=S.setG ⟨v,rfl,r⟩ fun _ h=>by cases h
def Sv (ss:List Slot)(σ:L2.St)(F H:Hp)(v:V):Bool->List PV->Prop
 | true,xs=>Rep F v (.tup xs)
 | false,xs=>∃l vs,v=.ref l/\CK ss σ l/\H l=some (.lst vs)/\AO F vs xs
def Fv (E:Ent0)(F:Hp)(v:V):Bool->List PV->Prop
 | true,xs=>Rep F v (.tup xs)
 | false,xs=>∃l vs,v=.ref l/\(F l=some (.lst vs)∨((l∉E.A/\l∉E.B)/\E.H0 l=some (.lst vs)))/\AO F vs xs
structure Wp [Xw] (ss:List Slot) (t:TE) (k:PV->Prop):Prop where
 go:∀(E:Ent) (σ:L2.St) (F H:Hp) (Q:VK),Sg E ss σ F H->(∀v p F' H',Mv E ss σ F H F' H'->Rep F' v p->k p->Q v H')->t σ H Q
structure Wn [Xw] (ss:List Slot) (t:TE) (k:List PV->Prop):Prop where
 go:∀(E:Ent) (σ:L2.St) (F H:Hp) (Q:VK),Sg E ss σ F H->(∀l vs xs F' H',Mv E ss σ F H F' H'->F' l=none->H l=none->H' l=some (.lst vs)->AO F' vs xs->k xs->Q (.ref l) H')->t σ H Q
structure Wq [Xw] (ss:List Slot) (t:TE) (k:Bool->List PV->Prop):Prop where
 go:∀(E:Ent) (σ:L2.St) (F H:Hp) (Q:VK),Sg E ss σ F H->(∀v tp xs F' H',Mv E ss σ F H F' H'->Sv ss σ F' H' v tp xs->k tp xs->Q v H')->t σ H Q
structure Wz [Xw] (ss:List Slot) (t:TE) (k:Bool->List PV->Prop):Prop where
 go:∀(E:Ent) (σ:L2.St) (F H:Hp) (Q:VK),Sg E ss σ F H->(∀v tp xs F' H',Mv E ss σ F H F' H'->Fv E F' v tp xs->k tp xs->Q v H')->t σ H Q
structure Wt [Xw] (ss:List Slot) (t:TT) (k:Bool->Prop):Prop where
 go:∀(E:Ent) (σ:L2.St) (F H:Hp) (Q:Bool->Hp->Prop),Sg E ss σ F H->(∀b F' H',Mv E ss σ F H F' H'->k b->Q b H')->t σ H Q
def Av (ss:List Slot)(σ:L2.St)(F H:Hp)(v:V):Slot->Prop
 | .is p=>Rep F v p
 | .sq tp xs=>Sv ss σ F H v tp xs
 | .raw P=>P F v/\∀F F',A8 F F'->P F v->P F' v
 | _=>False
inductive HU (ss:List Slot) (σ:L2.St) (F H:Hp):List V->List Slot->Prop where
 | nil:HU ss σ F H [] []
 | cons {v:V}{s:Slot}{vs:List V}{l:List Slot}:Av ss σ F H v s->HU ss σ F H vs l->HU ss σ F H (v::vs) (s::l)
structure Wa [Xw] (ss:List Slot) (t:TA) (k:List Slot->Prop):Prop where
 go:∀(E:Ent) (σ:L2.St) (F H:Hp) (Q:List V->Hp->Prop),Sg E ss σ F H->(∀vs l F' H',Mv E ss σ F H F' H'->HU ss σ F' H' vs l->k l->Q vs H')->t σ H Q
inductive B0 where
 | is (k:PV->Prop) | new (k:List PV->Prop) | AD | ow (k:OV->Prop) | mt (k:PV->OV->Prop) | HL (k:PV->OV->OV->Prop)
def OV.val:OV->V
 | .nd _ a _=>.ref a
 | _=>.AF
def B0.ok (R:B0)(E:Ent0)(F' H':Hp)(v:V):Prop:=match R with
 | .is k=>∃p,Rep F' v p/\k p
 | .new k=>∃l vs xs,v=.ref l/\F' l=none/\E.H0 l=none/\H' l=some (.lst vs)/\AO F' vs xs/\k xs
 | .AD=>∃l,v=.ref l/\F' l=none/\E.H0 l=none/\BY H' l
 | .ow k=>∃t,B1 F' H' v t/\t.addrs.Nodup/\(∀a∈t.addrs,F' a=none/\E.H0 a=none)/\k t
 | .mt k=>∃p t,Rep F' v p/\B1 F' H' t.val t/\t.addrs.Nodup/\(∀a∈t.addrs,F' a=none/\(E.H0 a=none∨a∈E.B))/\k p t
 | .HL k=>∃p t u,Rep F' v p/\B1 F' H' t.val t/\B1 F' H' u.val u/\(t.addrs++u.addrs).Nodup/\(∀a∈t.addrs++u.addrs,F' a=none/\(E.H0 a=none∨a∈E.B))/\k p t u
structure Ws [Xw] (ss:List Slot) (t:TS) (nx:List Slot->Prop) (R:B0):Prop where
 go:∀(E:Ent) (D:Ends) (σ:L2.St) (F H:Hp),Sg E ss σ F H->(∀AL σ' F' H',nx AL->Sg E AL σ' F' H'->A8 F F'->D.nx σ' H')->(∀v F' H',Fin E F' H'->R.ok E F' H' v->D.rt v H')->t D σ H
section
variable [Xw]
variable {K:ZHP}{k:PV->Prop}{R:B0}
theorem Sv.mv (h:Sv ss σ F H v tp xs)(m:Mv E ss σ F H F' H'):Sv ss σ F' H' v tp xs:=by
 cases tp with
 | true=>exact Rep.mono m.ff h
 | false=>
  obtain⟨l,vs,e,n,r,q⟩:=h;exact⟨l,vs,e,n,m.hh l _ n r,q.mono m.ff⟩
theorem Sv.seq (S:Sg E ss σ F H)(h:Sv ss σ F H v tp xs):∃l vs,v=.ref l/\H l=some (BF tp vs)/\AO F vs xs:=by
 cases tp with
 | true=>cases h with | tup e r=>exact⟨_,_,rfl,S.fh _ _ e,r⟩
 | false=>obtain⟨l,vs,e,_,r,q⟩:=h;exact⟨l,vs,e,r,q⟩
theorem Fv.sv (S:Sg E ss σ F H)(h:Fv E F v tp xs):Sv ss σ F H v tp xs:=by
 cases tp with
 | true=>exact h
 | false=>
  obtain⟨l,vs,e,h1 | ⟨hA,h1⟩,r⟩:=h
  ·exact⟨l,vs,e,S.i6 h1,S.fh _ _ h1,r⟩
  ·exact⟨l,vs,e,S.fk hA.1 h1,S.keep _ _ hA h1,r⟩
theorem AN (h:ss[i]?=some (.is p))(hk:k p):Wp ss (BQ i) k:=⟨fun E σ F H Q S q=>by
 obtain⟨v,hv,r⟩:=S.ok i _ h;exact⟨v,hv,q v p F H (.refl S) r hk⟩⟩
theorem JO {i:Int}(hk:k (.int i)):Wp ss (tC (.int i)) k:=⟨fun E σ F H Q S q=>q _ _ F H (.refl S) (.int i) hk⟩
theorem Eu {x:Str}(hk:k (.str x)):Wp ss (tC (.str x)) k:=⟨fun E σ F H Q S q=>q _ _ F H (.refl S) (.str x) hk⟩
theorem tq (hk:k (.bl b)):Wp ss (tC (.bl b)) k:=⟨fun E σ F H Q S q=>q _ _ F H (.refl S) (.bl b) hk⟩
theorem Ed (h:Wn ss te (fun xs=>k (.lst xs))):Wp ss te k:=⟨fun E σ F H Q S q=>h.go E σ F H Q S fun l vs xs F' H' m fl hl Dz r kk=>by
 have S':=m.st;have fr:Mv E ss σ F H (upd F' l (.lst vs)) H':=by
  have nF:∀a,H' a≠none->a≠l->F' a=none->upd F' l (.lst vs) a=none:=fun a _ h1 h2=>by rw[Ad h1];exact h2
  refine⟨⟨⟨fun a u e=>?_,S'.f0.trans (Ab fl _),S'.keep,fun a u e=>?_,S'.EL,fun a hA=>?_,S'.a0,fun a hB=>?_,S'.bH,S'.b0⟩,S'.len,fun i s hi=>?_,S'.BZ⟩,m.ff.trans (Ab fl _),m.hh,fun a u e=>?_⟩
  ·by_cases q:a=l
   ·subst q;rw[AH] at e;rw[<- e];exact Dz
   ·rw[Ad q] at e;exact S'.fh a u e
  ·by_cases q:a=l
   ·subst q;exact .inr (S.E8 hl)
   ·rw[Ad q] at e;exact S'.fresh a u e
  ·by_cases q:a=l
   ·subst q;obtain⟨_,_,e,_⟩:=S.EL _ hA;rw[hl] at e;cases e
   ·rw[Ad q];exact S'.Li a hA
  ·by_cases q:a=l
   ·subst q;exact absurd hl (S.bH _ hB)
   ·rw[Ad q];exact S'.bF a hB
  ·have WN:∀a,BI s σ[i]? a->a≠l:=by
    rintro a m rfl;exact S.Pu hi hl m
   have kk:=S'.ok i s hi;cases s with
   | any=>trivial
   | is p=>obtain⟨v,e,r⟩:=kk;exact⟨v,e,r.mono (Ab fl _)⟩
   | own ys=>
    obtain⟨l',ws,e,e1,e2,e3,r⟩:=kk;exact⟨l',ws,e,by rw[Ad (WN l' e)];exact e1,e2,e3,r.mono (Ab fl _)⟩
   | AD=>
    obtain⟨l',e,e1,e2,e3⟩:=kk;exact⟨l',e,by rw[Ad (WN l' e)];exact e1,e2,e3⟩
   | sq tp ys=>
    cases tp with
    | true=>obtain⟨v,e,r⟩:=kk;exact⟨v,e,r.mono (Ab fl _)⟩
    | false=>obtain⟨l',ws,e,e1,e2,r⟩:=kk;exact⟨l',ws,e,e1,e2,r.mono (Ab fl _)⟩
   | raw P=>obtain⟨v,e,r,st⟩:=kk;exact⟨v,e,st _ _ (Ab fl _) r,st⟩
   | ow lt t=>
    obtain⟨v,e,r,nd,q⟩:=kk;exact⟨v,e,r.mono (Ab fl _) fun a _ o h=>h,nd,fun a ha=>⟨by rw[Ad (WN a ha)];exact(q a ha).1,(q a ha).2⟩⟩
  ·by_cases q:a=l
   ·subst q;exact .inr hl
   ·rw[Ad q] at e;exact m.nn a u e
 exact q _ _ _ _ fr (.lst AH (r.mono (Ab fl _))) kk⟩
theorem Bp {k:Bool->List PV->Prop}(h:Wp ss te (fun p=>∃xs,(p=.lst xs/\k false xs)∨(p=.tup xs/\k true xs))):Wq ss te k:=⟨fun E σ F H Q S q=>h.go E σ F H Q S fun v p F' H' m r AJ=>by
 obtain⟨xs,h⟩:=AJ;rcases h with⟨rfl,kk⟩|⟨rfl,kk⟩
 ·cases r with | lst h r=>exact q _ false xs F' H' m ⟨_,_,rfl,m.st.i6 h,m.st.fh _ _ h,r⟩ kk
 ·exact q v true xs F' H' m r kk⟩
theorem Rt {k:Bool->List PV->Prop}(h:ss[i]?=some (.is (.lst xs)))(hk:k false xs):Wq ss (BQ i) k:=Bp (AN h ⟨xs,.inl ⟨rfl,hk⟩⟩)
theorem OS {k:Bool->List PV->Prop}(h:ss[i]?=some (.is (.tup xs)))(hk:k true xs):Wq ss (BQ i) k:=Bp (AN h ⟨xs,.inr ⟨rfl,hk⟩⟩)
theorem fq {k:Bool->List PV->Prop}(h:ss[i]?=some (.own xs))(hk:k false xs):Wq ss (BQ i) k:=⟨fun E σ F H Q S q=>by
 obtain⟨l,vs,e,e1,e2,e3,r⟩:=S.ok i _ h;exact⟨_,e,q _ false xs F H (.refl S) ⟨l,vs,rfl,S.OM h e (by simp),e3,r⟩ hk⟩⟩
theorem aF {k:Bool->List PV->Prop}(h:ss[i]?=some (.sq tp xs))(hk:k tp xs):Wz ss (BQ i) k:=⟨fun E σ F H Q S q=>by
 have kk:=S.ok i _ h;cases tp with
 | true=>obtain⟨v,e,r⟩:=kk;exact⟨_,e,q _ true xs F H (.refl S) r hk⟩
 | false=>
  obtain⟨l,vs,e,hA,h0,r⟩:=kk;exact⟨_,e,q _ false xs F H (.refl S) ⟨l,vs,rfl,.inr ⟨hA,h0⟩,r⟩ hk⟩⟩
theorem J5 {k:Bool->List PV->Prop}(h:Wp ss te (fun p=>∃xs,(p=.lst xs/\k false xs)∨(p=.tup xs/\k true xs))):Wz ss te k:=⟨fun E σ F H Q S q=>h.go E σ F H Q S fun v p F' H' m r AJ=>by
 obtain⟨xs,h⟩:=AJ;rcases h with⟨rfl,kk⟩|⟨rfl,kk⟩
 ·cases r with | lst h r=>exact q _ false xs F' H' m ⟨_,_,rfl,.inl h,r⟩ kk
 ·exact q _ true xs F' H' m r kk⟩
theorem yd {k:Bool->List PV->Prop}(h:Wz ss te k):Wq ss te k:=⟨fun E σ F H Q S q=>h.go E σ F H Q S fun v tp xs F' H' m f kk=>q v tp xs F' H' m (f.sv m.st) kk⟩
theorem zC {k:Bool->List PV->Prop}(h:ss[i]?=some (.sq tp xs))(hk:k tp xs):Wq ss (BQ i) k:=yd (aF h hk)
theorem gO {f:Int->Int->Int}(h:Wp ss ta fun x=>∃i,x=.int i/\Wp ss tb fun y=>∃j,y=.int j/\k (.int (f i j))):Wp ss (C5 (GL fun i j=>.int (f i j)) ta tb) k:=⟨fun E σ F H Q S q=>
 h.go E σ F H _ S fun v p F1 H1 m1 r1 AJ=>by
  obtain⟨i,e1,h2⟩:=AJ;subst e1;cases r1.inv;exact h2.go E σ F1 H1 _ m1.st fun v2 p2 F2 H2 m2 r2 Dk=>by
   obtain⟨j,e2,kk⟩:=Dk;subst e2;cases r2.inv;exact⟨i,j,rfl,rfl,q _ _ F2 H2 (m1.trans m2) (.int _) kk⟩⟩
theorem jv (h:Wp ss ta fun x=>∃i,x=.int i/\Wp ss tb fun y=>∃j,y=.int j/\k (.bl (f i j))):Wp ss (C5 (GL fun i j=>.bl (f i j)) ta tb) k:=⟨fun E σ F H Q S q=>
 h.go E σ F H _ S fun v p F1 H1 m1 r1 AJ=>by
  obtain⟨i,e1,h2⟩:=AJ;subst e1;cases r1.inv;exact h2.go E σ F1 H1 _ m1.st fun v2 p2 F2 H2 m2 r2 Dk=>by
   obtain⟨j,e2,kk⟩:=Dk;subst e2;cases r2.inv;exact⟨i,j,rfl,rfl,q _ _ F2 H2 (m1.trans m2) (.bl _) kk⟩⟩
def alike:PV->PV->Bool
 | .int i,.int j=>decide (i=j)
 | .str i,.str j=>decide (i=j)
 | .bl i,.bl j=>decide (i=j)
 | .AF,.AF=>true
 | _,_=>false
def Ii (p q:PV):Bool:=flat p && flat q && SG (Fz.enc p) (Fz.enc q)
theorem Wy {q:PV}(h:Ii p q=true):decide (Fz.enc p=Fz.enc q)=alike p q:=by
 unfold Ii at h;rw[E4,E4] at h;obtain⟨⟨h1,h2⟩,h3⟩:=h;cases p <;> first | exact Bool.noConfusion h1 | skip
 all_goals cases q <;> first | exact Bool.noConfusion h2 | exact Bool.noConfusion h3 | rfl | exact decide_eq_decide.mpr ⟨fun e=>by injection e,uC _⟩
theorem pk (h:Wp ss ta fun x=>Wp ss tb fun y=>Ii x y=true/\k (.bl (alike x y))):Wp ss (C5 U1 ta tb) k:=⟨fun E σ F H Q S q=>
 h.go E σ F H _ S fun v p F1 H1 m1 r1 h2=>h2.go E σ F1 H1 _ m1.st fun v2 p2 F2 H2 m2 r2 AJ=>by
  obtain⟨sc,kk⟩:=AJ;have Tj:=sc;unfold Ii at sc;rw[E4,E4] at sc;rw[r1.enc sc.1.1,r2.enc sc.1.2];refine⟨sc.2,?_⟩;rw[Wy Tj];exact q _ _ F2 H2 (m1.trans m2) (.bl _) kk⟩
theorem eC (h:Wp ss ta fun x=>Wp ss tb fun y=>Ii x y=true/\k (.bl (!alike x y))):Wp ss (C5 kA ta tb) k:=⟨fun E σ F H Q S q=>
 h.go E σ F H _ S fun v p F1 H1 m1 r1 h2=>h2.go E σ F1 H1 _ m1.st fun v2 p2 F2 H2 m2 r2 AJ=>by
  obtain⟨sc,kk⟩:=AJ;have Tj:=sc;unfold Ii at sc;rw[E4,E4] at sc;rw[r1.enc sc.1.1,r2.enc sc.1.2];refine⟨sc.2,?_⟩;rw[Wy Tj];exact q _ _ F2 H2 (m1.trans m2) (.bl _) kk⟩
theorem NP (h:Wp ss ta fun x=>∃c,x=.bl c/\if c=true then Wp ss tb k else k (.bl false)):Wp ss (VA ta tb) k:=⟨fun E σ F H Q S q=>
 h.go E σ F H _ S fun v p F1 H1 m1 r1 AJ=>by
  obtain⟨c,e,h2⟩:=AJ;subst e;cases r1.inv;refine⟨c,rfl,?_⟩;cases c with
  | true=>rw[pR rfl] at h2 ⊢;exact h2.go E σ F1 H1 _ m1.st fun v2 p2 F2 H2 m2 r2 kk=>q _ _ F2 H2 (m1.trans m2) r2 kk
  | false=>rw[nr (by decide)] at h2 ⊢;exact q _ _ F1 H1 m1 (.bl _) h2⟩
theorem aY (h:Wp ss ta fun x=>∃c,x=.bl c/\k (.bl (!c))):Wp ss (Xb ta) k:=⟨fun E σ F H Q S q=>
 h.go E σ F H _ S fun v p F1 H1 m1 r1 AJ=>by obtain⟨c,e,kk⟩:=AJ;subst e;cases r1.inv;exact⟨c,rfl,q _ _ F1 H1 m1 (.bl _) kk⟩⟩
theorem oa {g:Int->Int->Bool}(h:Wp ss ta fun x=>∃i,x=.int i/\Wp ss tb fun y=>∃j,y=.int j/\if f i j=true then Wp ss tc (fun z=>∃l,z=.int l/\k (.bl (g j l))) else k (.bl false)):
  Wp ss (O0 (GL fun i j=>.bl (f i j)) (GL fun i j=>.bl (g i j)) ta tb tc) k:=⟨fun E σ F H Q S q=>
 h.go E σ F H _ S fun v p F1 H1 m1 r1 AJ=>by
  obtain⟨i,e1,h2⟩:=AJ;subst e1;cases r1.inv;exact h2.go E σ F1 H1 _ m1.st fun v2 p2 F2 H2 m2 r2 Dk=>by
   obtain⟨j,e2,h3⟩:=Dk;subst e2;cases r2.inv;refine⟨i,j,rfl,rfl,f i j,rfl,?_⟩;cases c:f i j with
   | true=>
    rw[c,pR rfl] at h3;rw[pR rfl];exact h3.go E σ F2 H2 _ m2.st fun v3 p3 F3 H3 m3 r3 XT=>by
     obtain⟨l,e3,kk⟩:=XT;subst e3;cases r3.inv;exact⟨j,l,rfl,rfl,q _ _ F3 H3 (m1.trans (m2.trans m3)) (.bl _) kk⟩
   | false=>
    rw[c,nr (by decide)] at h3;rw[nr (by decide)];exact q _ _ F2 H2 (m1.trans m2) (.bl _) h3⟩
theorem Nk {k:Bool->Prop}(h:Wp ss te fun x=>∃c,x=.bl c/\k c):Wt ss (MQ te) k:=⟨fun E σ F H Q S q=>
 h.go E σ F H _ S fun v p F1 H1 m1 r1 AJ=>by obtain⟨c,e,kk⟩:=AJ;subst e;cases r1.inv;exact⟨c,rfl,q _ F1 H1 m1 kk⟩⟩
theorem Dn {k:Bool->Prop}(h:Wp ss te fun x=>∃c,x=.bl c/\k c):Wt ss (tB te) k:=⟨fun E σ F H Q S q=>
 h.go E σ F H _ S fun v p F1 H1 m1 r1 AJ=>by obtain⟨c,e,kk⟩:=AJ;subst e;cases r1.inv;exact⟨c,rfl,q _ F1 H1 m1 kk⟩⟩
theorem WS {k:Bool->Prop}(h:k true):Wt ss ML k:=⟨fun E σ F H Q S q=>q _ F H (.refl S) h⟩
theorem Ec {t:TT}{k:Bool->Prop}(h:Wt ss t fun c=>k (!c)):Wt ss (R3 t) k:=⟨fun E σ F H Q S q=>h.go E σ F H _ S fun c F1 H1 m1 kk=>q _ F1 H1 m1 kk⟩
theorem v7 {t u:TT}{k:Bool->Prop}(h:Wt ss t fun c=>if c=true then Wt ss u k else k false):Wt ss (Ue t u) k:=⟨fun E σ F H Q S q=>
 h.go E σ F H _ S fun c F1 H1 m1 h2=>by
  show if c=true then _ else _
  cases c with
  | true=>rw[pR rfl] at h2 ⊢;exact h2.go E σ F1 H1 _ m1.st fun c2 F2 H2 m2 kk=>q _ F2 H2 (m1.trans m2) kk
  | false=>rw[nr (by decide)] at h2 ⊢;exact q _ F1 H1 m1 h2⟩
theorem Hf {t u:TT}{k:Bool->Prop}(h:Wt ss t fun c=>if c=true then k true else Wt ss u k):Wt ss (Px t u) k:=⟨fun E σ F H Q S q=>
 h.go E σ F H _ S fun c F1 H1 m1 h2=>by
  show if c=true then _ else _
  cases c with
  | true=>rw[pR rfl] at h2 ⊢;exact q _ F1 H1 m1 h2
  | false=>rw[nr (by decide)] at h2 ⊢;exact h2.go E σ F1 H1 _ m1.st fun c2 F2 H2 m2 kk=>q _ F2 H2 (m1.trans m2) kk⟩
end
structure We [Xw] (ss:List Slot) (t:TA) (k:List PV->Prop):Prop where
 go:∀(E:Ent) (σ:L2.St) (F H:Hp) (Q:List V->Hp->Prop),Sg E ss σ F H->(∀vs ps F' H',Mv E ss σ F H F' H'->AO F' vs ps->k ps->Q vs H')->t σ H Q
structure Wo [Xw] (ss:List Slot) (t:TO) (k:Option Int->Prop):Prop where
 go:∀(E:Ent) (σ:L2.St) (F H:Hp) (Q:Option Int->Hp->Prop),Sg E ss σ F H->(∀o F' H',Mv E ss σ F H F' H'->k o->Q o H')->t σ H Q
section
variable [Xw]
variable {K:ZHP}{k:PV->Prop}{R:B0}
theorem Q2 {k:List PV->Prop}(h:k []):We ss B8 k:=⟨fun E σ F H Q S q=>q _ _ F H (.refl S) .nil h⟩
theorem Ka {k:List PV->Prop}(h:Wp ss te fun p=>We ss t fun ps=>k (p::ps)):We ss (AY te t) k:=⟨fun E σ F H Q S q=>
 h.go E σ F H _ S fun v p F1 H1 m1 r1 h2=>h2.go E σ F1 H1 _ m1.st fun vs ps F2 H2 m2 r2 kk=>q _ _ F2 H2 (m1.trans m2) (.cons (r1.mono m2.ff) r2) kk⟩
theorem Bm {k:List Slot->Prop}(h:k []):Wa ss B8 k:=⟨fun E σ F H Q S q=>q _ _ F H (.refl S) .nil h⟩
theorem Br {k:List Slot->Prop}(h:Wp ss te fun p=>Wa ss t fun l=>k (.is p::l)):Wa ss (AY te t) k:=⟨fun E σ F H Q S q=>
 h.go E σ F H _ S fun v p F1 H1 m1 r1 h2=>h2.go E σ F1 H1 _ m1.st fun vs l F2 H2 m2 r2 kk=>q _ _ F2 H2 (m1.trans m2) (.cons (s:=.is p) (r1.mono m2.ff) r2) kk⟩
theorem HZ {k:List Slot->Prop}(h:Wq ss te fun tp xs=>Wa ss t fun l=>k (.sq tp xs::l)):Wa ss (AY te t) k:=⟨fun E σ F H Q S q=>
 h.go E σ F H _ S fun v tp xs F1 H1 m1 r1 h2=>h2.go E σ F1 H1 _ m1.st fun vs l F2 H2 m2 r2 kk=>q _ _ F2 H2 (m1.trans m2) (.cons (s:=.sq tp xs) (r1.mv m2) r2) kk⟩
theorem r6 {k:Option Int->Prop}(h:k none):Wo ss TL k:=⟨fun E σ F H Q S q=>q _ F H (.refl S) h⟩
theorem ZAl {k:Option Int->Prop}(h:Wp ss te fun p=>∃i,p=.int i/\k (some i)):Wo ss (X2 te) k:=⟨fun E σ F H Q S q=>
 h.go E σ F H _ S fun v p F1 H1 m1 r1 AJ=>by obtain⟨i,e,kk⟩:=AJ;subst e;cases r1.inv;exact⟨i,rfl,q _ F1 H1 m1 kk⟩⟩
theorem LZ {n:Nat}(h:n<=99999):n<sizeLine:=DO (Nat.lt_succ_of_le h) (small (Ao 100000))
theorem Kt (h:We ss t fun ps=>ps.length<=100000/\k (.tup ps)):Wp ss (RX t) k:=⟨fun E σ F H Q S q=>
 h.go E σ F H _ S fun vs ps F1 H1 m1 r1 AJ=>by obtain⟨hz,kk⟩:=AJ;exact⟨small (by rw[r1.length];exact hz),fun a ha=>by
  have m2:=m1.st.alloc ha (.tup vs);exact q _ _ _ _ (m1.trans m2) (.tup AH (r1.mono m2.ff)) kk⟩⟩
theorem xu {k:List PV->Prop}(h:We ss t fun ps=>ps.length<=100000/\k ps):Wn ss (Sd t) k:=⟨fun E σ F H Q S q=>
 h.go E σ F H _ S fun vs ps F1 H1 m1 r1 AJ=>by obtain⟨hz,kk⟩:=AJ;exact⟨small (by rw[r1.length];exact hz),fun a ha=>by
  have m2:=m1.st.make ha (.lst vs);refine q a vs ps F1 _ (m1.trans m2) (m1.st.BU ha) ?_ AH r1 kk;cases e:H a with
  | none=>rfl
  | some o=>rw[m1.hh a o (m1.st.OH ha) e] at ha;cases ha⟩⟩
theorem Nf (h:Wq ss te fun _ xs=>k (.int xs.length)):Wp ss (Cb (Xo K) (AY te B8)) k:=⟨fun E σ F H Q S q=>
 h.go E σ F H _ S fun v tp xs F1 H1 m1 sv kk=>by
  obtain⟨l,vs,rfl,hl,r⟩:=sv.seq m1.st;refine⟨l,vs,rfl,(BF.sq (K:=K) hl).or,?_⟩;rw[r.length];exact q _ _ F1 H1 m1 (.int _) kk⟩
theorem AO.Bf {i:Int}(r:AO F vs xs)(h:L2.Bf xs i=some p):∃u,L2.Bf vs i=some u/\Rep F u p:=by
 unfold L2.Bf at h ⊢;rw[r.length];cases e:HH xs.length i with
 | none=>rw[e] at h;cases h
 | some j=>
  rw[e] at h;exact r.get h
theorem zk (h:Wq ss ta fun tp xs=>tp=false/\Wp ss tb fun y=>∃i p,y=.int i/\L2.Bf xs i=some p/\k p):Wp ss (C5 (K3 K) ta tb) k:=⟨fun E σ F H Q S q=>
 h.go E σ F H _ S fun v tp xs F1 H1 m1 sv ⟨et,h2⟩=>h2.go E σ F1 H1 _ m1.st fun v2 p2 F2 H2 m2 r2 ⟨i,p,e,ha,kk⟩=>by
  subst e;cases r2.inv;subst et;obtain⟨l,vs,rfl,hl,r⟩:=(sv.mv m2).seq m2.st;obtain⟨u,hu,ru⟩:=r.Bf ha;exact⟨l,vs,i,u,rfl,rfl,AI.of hl,hu,q _ _ F2 H2 (m1.trans m2) ru kk⟩⟩
theorem RZ (h:Wq ss ta fun tp xs=>tp=true/\Wp ss tb fun y=>∃i p,y=.int i/\L2.Bf xs i=some p/\k p):Wp ss (C5 (Jh K) ta tb) k:=⟨fun E σ F H Q S q=>
 h.go E σ F H _ S fun v tp xs F1 H1 m1 sv ⟨et,h2⟩=>h2.go E σ F1 H1 _ m1.st fun v2 p2 F2 H2 m2 r2 ⟨i,p,e,ha,kk⟩=>by
  subst e;cases r2.inv;subst et;obtain⟨l,vs,rfl,hl,r⟩:=(sv.mv m2).seq m2.st;obtain⟨u,hu,ru⟩:=r.Bf ha;exact⟨l,vs,i,u,rfl,rfl,AA.of hl,hu,q _ _ F2 H2 (m1.trans m2) ru kk⟩⟩
theorem fS (h:Wp ss ta fun p=>∃x,p=.str x/\Wq ss tb fun _ ys=>∃ns:List Str,ys=ns.map PV.str/\k (.bl (if neg then !decide (x∈ns) else decide (x∈ns)))):Wp ss (C5 (Fi K neg) ta tb) k:=⟨fun E σ F H Q S q=>
 h.go E σ F H _ S fun v p F1 H1 m1 r1 AJ=>by
  obtain⟨x,e,h2⟩:=AJ;subst e;cases r1.inv;exact h2.go E σ F1 H1 _ m1.st fun v2 tp ys F2 H2 m2 sv Dk=>by
   obtain⟨ns,e2,kk⟩:=Dk;subst e2;obtain⟨l,vs,rfl,hl,r⟩:=sv.seq m2.st;rw[r.strs] at hl;refine⟨l,_,rfl,(BF.sq (K:=K) hl).or,rfl,EF ns,?_⟩;rw[J6];exact q _ _ F2 H2 (m1.trans m2) (.bl _) kk⟩
theorem Z6 {k:List PV->Prop}(hr:r=fun xs H Q=>∃p ys,xs=[.ref p]/\(AI K H p ys∨AA K H p ys)/\∀l,H l=none->Q (.ref l) (upd H l (.lst ys)))(h:Wq ss te fun _ xs=>k xs):Wn ss (Cb r (AY te B8)) k:=⟨fun E σ F H Q S q=>
 h.go E σ F H _ S fun v tp xs F1 H1 m1 sv kk=>by
  subst hr;obtain⟨l,vs,rfl,hl,r⟩:=sv.seq m1.st;refine⟨l,vs,rfl,(BF.sq (K:=K) hl).or,fun a ha=>?_⟩;have m2:=m1.st.make ha (.lst vs);exact q a vs xs F1 _ (m1.trans m2) (m1.st.BU ha) (m1.none ha) AH r kk⟩
theorem ZCO (hr:r=fun xs H Q=>∃p ys,xs=[.ref p]/\((AI K H p ys/\∀l,H l=none->Q (.ref l) (upd H l (.tup ys)))∨(AA K H p ys/\Q (.ref p) H)))(h:Wq ss te fun _ xs=>k (.tup xs)):Wp ss (Cb r (AY te B8)) k:=⟨fun E σ F H Q S q=>
 h.go E σ F H _ S fun v tp xs F1 H1 m1 sv kk=>by
  subst hr;cases tp with
  | false=>
   obtain⟨l,vs,rfl,hl,r⟩:=sv.seq m1.st;refine⟨l,vs,rfl,.inl ⟨AI.of hl,fun a ha=>?_⟩⟩;have m2:=m1.st.alloc ha (.tup vs);exact q _ _ _ _ (m1.trans m2) (.tup AH (r.mono m2.ff)) kk
  | true=>
   have Uh:Rep F1 v (.tup xs):=sv;cases Uh with
   | tup e r=>exact⟨_,_,rfl,.inr ⟨AA.of (m1.st.fh _ _ e),q _ _ F1 H1 m1 (.tup e r) kk⟩⟩⟩
theorem qT {k:List PV->Prop}(h:Wq ss ta fun tp xs=>tp=false/\Wq ss tb fun BN ys=>BN=false/\xs.length+ys.length<=100000/\k (xs++ys)):Wn ss (C5 gk ta tb) k:=⟨fun E σ F H Q S q=>
 h.go E σ F H _ S fun v tp xs F1 H1 m1 sv ⟨et,h2⟩=>h2.go E σ F1 H1 _ m1.st fun v2 BN ys F2 H2 m2 Y9 ⟨et2,hz,kk⟩=>by
  subst et;subst et2;obtain⟨l,vs,rfl,hl,r⟩:=(sv.mv m2).seq m2.st;obtain⟨l2,Lq,rfl,Co,r2⟩:=Y9.seq m2.st;refine⟨l,l2,vs,Lq,rfl,rfl,hl,Co,small (by rw[r.length,r2.length];exact hz),fun a ha=>?_⟩;have m3:=m2.st.make ha (.lst (vs++Lq));exact q a _ _ F2 _ (m1.trans (m2.trans m3)) (m2.st.BU ha) ((m1.trans m2).none ha) AH (r.append r2) kk⟩
def Dj {α:Type}(xs:List α)(lo hi:Option Int):List α:=(xs.drop (HT.Aj xs.length 0 lo)).take (HT.Aj xs.length xs.length hi - HT.Aj xs.length 0 lo)
theorem AO.cut (r:AO F vs xs)(lo hi:Option Int):AO F (C7 vs lo hi) (Dj xs lo hi):=by
 unfold C7 Dj;rw[r.length];exact(r.drop _).take _
theorem ZD4 {k:List PV->Prop}(h:Wq ss te fun tp xs=>tp=false/\Wo ss tl fun lo=>Wo ss th fun hi=>k (Dj xs lo hi)):Wn ss (Ng (VI K) te tl th) k:=⟨fun E σ F H Q S q=>
 h.go E σ F H _ S fun v tp xs F1 H1 m1 sv ⟨et,h2⟩=>h2.go E σ F1 H1 _ m1.st fun lo F2 H2 m2 h3=>h3.go E σ F2 H2 _ m2.st fun hi F3 H3 m3 kk=>by
  subst et;obtain⟨l,vs,rfl,hl,r⟩:=(sv.mv (m2.trans m3)).seq m3.st;refine⟨l,vs,rfl,AI.of hl,fun a ha=>?_⟩;have m4:=m3.st.make ha (.lst (C7 vs lo hi));exact q a _ _ F3 _ (m1.trans (m2.trans (m3.trans m4))) (m3.st.BU ha) ((m1.trans (m2.trans m3)).none ha) AH (r.cut lo hi) kk⟩
def ZM (tp:Bool)(xs:List PV):PV:=if tp then .tup xs else .lst xs
def VD (K:ZHP):V->Option Int->Option Int->Hp->VK->Prop:=fun x lo hi H Q=>VI K x lo hi H Q∨cR K x lo hi H Q
theorem Ua {X:Cx}:Jb X (VD X.K):=by
 intro pins s σ H x v vl vu lo hi sl Q I rx hs pl pu h;rcases h with h | h
 ·exact JL pins s σ H x v vl vu lo hi sl Q I rx hs pl pu h
 ·exact jA pins s σ H x v vl vu lo hi sl Q I rx hs pl pu h
theorem W7 (h:Wq ss te fun tp xs=>Wo ss tl fun lo=>Wo ss th fun hi=>k (ZM tp (Dj xs lo hi))):Wp ss (Ng (VD K) te tl th) k:=⟨fun E σ F H Q S q=>
 h.go E σ F H _ S fun v tp xs F1 H1 m1 sv h2=>h2.go E σ F1 H1 _ m1.st fun lo F2 H2 m2 h3=>h3.go E σ F2 H2 _ m2.st fun hi F3 H3 m3 kk=>by
  have gB:=sv.mv (m2.trans m3);have TJ:=m1.trans (m2.trans m3);cases tp with
  | false=>
   obtain⟨l,vs,rfl,hl,r⟩:=gB.seq m3.st;refine .inl ⟨l,vs,rfl,AI.of hl,fun a ha=>?_⟩;have m4:=m3.st.alloc ha (.lst (C7 vs lo hi));exact q _ _ _ _ (TJ.trans m4) (.lst AH ((r.cut lo hi).mono m4.ff)) kk
  | true=>
   have Uh:Rep F3 v (.tup xs):=gB;cases Uh with
   | @tup _ vs _ e r=>
    refine .inr ⟨_,vs,rfl,AA.of (m3.st.fh _ _ e),fun hw=>?_,fun hw a ha=>?_⟩
    ·have ew:Dj xs lo hi=xs:=by
      rw[r.length] at hw;unfold Dj;rw[hw.1,hw.2];simp
     refine q _ _ F3 H3 TJ (.tup e r) ?_;have kh:=kk;rw[ew] at kh;exact kh
    ·have m4:=m3.st.alloc ha (.tup (C7 vs lo hi));exact q _ _ _ _ (TJ.trans m4) (.tup AH ((r.cut lo hi).mono m4.ff)) kk⟩
theorem pI {k:List PV->Prop}(h:Wq ss te fun _ xs=>∃ns:List Str,xs=ns.map PV.str/\ns.length<64/\∀Aw:List Str,Aw.Perm ns->sortedS Aw=true->k (Aw.map PV.str)):Wn ss (Cb (Zz K) (AY te B8)) k:=⟨fun E σ F H Q S q=>
 h.go E σ F H _ S fun v tp xs F1 H1 m1 sv AJ=>by
  obtain⟨ns,e,hz,kk⟩:=AJ;subst e;obtain⟨l,vs,rfl,hl,r⟩:=sv.seq m1.st;rw[r.strs] at hl;refine⟨l,tp,ns,rfl,BF.sq hl,hz,fun a Aw ha hp hs=>?_⟩;have m2:=m1.st.make ha (.lst (Aw.map V.str));exact q a _ _ F1 _ (m1.trans m2) (m1.st.BU ha) (m1.none ha) AH (JW Aw) (kk Aw hp hs)⟩
theorem wt (xs ys:List Str):E2 (xs.map V.str) (ys.map V.str)=decide (xs=ys):=by
 by_cases h:xs=ys
 ·subst h;rw[oR,nV rfl]
 ·rw[qQ h]
  by_cases hl:xs.length=ys.length
  ·rw[K6 (by simpa using hl)]
   cases c:(List.range (xs.map V.str).length).all fun j=>Dp ((xs.map V.str).getD j .AF) ((ys.map V.str).getD j .AF) with
   | false=>rfl
   | true=>
    exfalso;apply h;apply lK hl;intro j h1 h2;have q:=List.all_eq_true.mp c j (List.mem_range.mpr (by simpa using h1))
    have e1:(xs.map V.str)[j]?=some (.str xs[j]):=by rw[Az,B9 h1];rfl
    have e2:(ys.map V.str)[j]?=some (.str ys[j]):=by rw[Az,B9 h2];rfl
    rw[JQ e1,JQ e2] at q;have q':(xs[j] == ys[j])=true:=q
    simpa using q'
  ·rw[Ky (by simpa using hl)]
theorem cO (h:Wq ss ta fun tp xs=>∃ns:List Str,xs=ns.map PV.str/\Wq ss tb fun BN ys=>BN=tp/\∃ms:List Str,ys=ms.map PV.str/\k (.bl (if neg then !decide (ns=ms) else decide (ns=ms)))):Wp ss (C5 (N2 K neg) ta tb) k:=⟨fun E σ F H Q S q=>
 h.go E σ F H _ S fun v tp xs F1 H1 m1 sv ⟨ns,e1,h2⟩=>h2.go E σ F1 H1 _ m1.st fun v2 BN ys F2 H2 m2 Y9 ⟨et,ms,e2,kk⟩=>by
  subst e1;subst e2;subst et;obtain⟨l,vs,rfl,hl,r⟩:=(sv.mv m2).seq m2.st;obtain⟨l2,Lq,rfl,Co,r2⟩:=Y9.seq m2.st;rw[r.strs] at hl;rw[r2.strs] at Co;refine⟨l,l2,ns.map V.str,ms.map V.str,rfl,rfl,?_,EF _,EF _,?_⟩
  ·cases BN
   ·exact .inl ⟨AI.of hl,AI.of Co⟩
   ·exact .inr ⟨AA.of hl,AA.of Co⟩
  ·rw[wt];cases neg
   ·exact q _ _ F2 H2 (m1.trans m2) (.bl _) kk
   ·exact q _ _ F2 H2 (m1.trans m2) (.bl _) kk⟩
theorem Q6 (hr:r=fun xs H Q=>∃(p:Addr) (bs:List Bool),xs=[.ref p]/\AI K H p (bs.map V.bl)/\Q (.bl (bs.all id)) H)(h:Wq ss te fun tp xs=>tp=false/\∃bs:List Bool,xs=bs.map PV.bl/\k (.bl (bs.all id))):Wp ss (Cb r (AY te B8)) k:=⟨fun E σ F H Q S q=>
 h.go E σ F H _ S fun v tp xs F1 H1 m1 sv AJ=>by
  obtain⟨et,bs,e,kk⟩:=AJ;subst hr;subst e;subst et;obtain⟨l,vs,rfl,hl,r⟩:=sv.seq m1.st;rw[r.bls] at hl;exact⟨l,bs,rfl,AI.of hl,q _ _ F1 H1 m1 (.bl _) kk⟩⟩
def tyP:PV->String
 | .AF => "NoneType"
 | .bl _ => "bool"
 | .int _ => "int"
 | .str _ => "str"
 | .lst _ => "list"
 | .tup _ => "tuple"
 | .Aq _ _ => "dict"
 | _ => ""
def K0:PV->Value
 | .obj _ _ _=>.none
 | .exc _ _ _=>.none
 | .con _ _=>.none
 | p=>.type (tyP p)
theorem Qf (h:PySem.W.kitOne K .none (.type n)=some b):False:=by
 unfold PySem.W.kitOne PySem.W.kitCls PySem.W.subIn at h;simp at h
theorem Rep.nG (s:A8 F H)(r:Rep F v p)(hb:PySem.W.kitOne K (K0 p) (.type n)=some b):Ej K H v (K0 p):=by
 cases r with
 | AF=>exact .AF
 | bl b=>exact .bl b
 | int i=>exact .int i
 | str x=>exact .str x
 | lst h _=>exact .lst (s _ _ h)
 | tup h _=>exact .tup (s _ _ h)
 | Aq h _ _=>exact .dK (s _ _ h)
 | obj _ _ _ _=>exact(Qf hb).elim
 | Nx _=>exact(Qf hb).elim
 | con=>exact(Qf hb).elim
 | exc _ _ _ _=>exact(Qf hb).elim
theorem IX (h:Wp ss te fun p=>∃b,PySem.W.kitOne K (K0 p) (.type n)=some b/\k (.bl b)):Wp ss (Cb (SM K) (AY te (AY (tC (.ty n)) B8))) k:=⟨fun E σ F H Q S q=>
 h.go E σ F H _ S fun v p F1 H1 m1 r AJ=>by obtain⟨b,hb,kk⟩:=AJ;exact⟨v,n,_,b,rfl,r.nG m1.st.fh hb,hb,q _ _ F1 H1 m1 (.bl _) kk⟩⟩
theorem pA (h:Wq ss te fun tp xs=>∃b,PySem.W.kitOne K (.type (tyP (ZM tp xs))) (.type n)=some b/\k (.bl b)):Wp ss (Cb (SM K) (AY te (AY (tC (.ty n)) B8))) k:=⟨fun E σ F H Q S q=>
 h.go E σ F H _ S fun v tp xs F1 H1 m1 sv AJ=>by
  obtain⟨b,hb,kk⟩:=AJ;obtain⟨l,vs,rfl,hl,r⟩:=sv.seq m1.st;refine⟨_,n,_,b,rfl,?_,hb,q _ _ F1 H1 m1 (.bl _) kk⟩;cases tp
  ·exact .lst hl
  ·exact .tup hl⟩
theorem vU (hr:r=fun xs H Q=>∃i j,xs=[.int i,.int j]/\Q (.int (if j > i then j else i)) H)(h:Wp ss ta fun x=>∃i,x=.int i/\Wp ss tb fun y=>∃j,y=.int j/\k (.int (if j > i then j else i))):Wp ss (Cb r (AY ta (AY tb B8))) k:=⟨fun E σ F H Q S q=>
 h.go E σ F H _ S fun v p F1 H1 m1 r1 AJ=>by
  obtain⟨i,e1,h2⟩:=AJ;subst hr;subst e1;cases r1.inv;exact h2.go E σ F1 H1 _ m1.st fun v2 p2 F2 H2 m2 r2 Dk=>by
   obtain⟨j,e2,kk⟩:=Dk;subst e2;cases r2.inv;exact⟨i,j,rfl,q _ _ F2 H2 (m1.trans m2) (.int _) kk⟩⟩
theorem mO (hr:r=fun xs H Q=>∃i j,xs=[.int i,.int j]/\Q (.int (if j<i then j else i)) H)(h:Wp ss ta fun x=>∃i,x=.int i/\Wp ss tb fun y=>∃j,y=.int j/\k (.int (if j<i then j else i))):Wp ss (Cb r (AY ta (AY tb B8))) k:=⟨fun E σ F H Q S q=>
 h.go E σ F H _ S fun v p F1 H1 m1 r1 AJ=>by
  obtain⟨i,e1,h2⟩:=AJ;subst hr;subst e1;cases r1.inv;exact h2.go E σ F1 H1 _ m1.st fun v2 p2 F2 H2 m2 r2 Dk=>by
   obtain⟨j,e2,kk⟩:=Dk;subst e2;cases r2.inv;exact⟨i,j,rfl,q _ _ F2 H2 (m1.trans m2) (.int _) kk⟩⟩
end
structure Src (E:Ent0) (F1:Hp) (J:It) (xs:List PV):Prop where
 go:∀(ss:List Slot) (σ:L2.St) (F H:Hp) (i:Nat),A8 F1 F->Sg E ss σ F H->i<xs.length->J.go i H
 stop:∀(ss:List Slot) (σ:L2.St) (F H:Hp),A8 F1 F->Sg E ss σ F H->J.stop xs.length H
 Fx:∀(ss:List Slot) (σ:L2.St) (F H:Hp) (i:Nat) (x:V) (H':Hp),A8 F1 F->Sg E ss σ F H->i<xs.length->J.Fx i H x H'->∃p F',xs[i]?=some p/\Mv E ss σ F H F' H'/\Rep F' x p
structure Wi [Xw] (ss:List Slot) (wi:TI) (k:List PV->Prop):Prop where
 go:∀(E:Ent) (σ:L2.St) (F H:Hp) (R:It->Hp->Prop),Sg E ss σ F H->(∀J xs F' H',Mv E ss σ F H F' H'->Src E F' J xs->k xs->R J H')->wi σ H R
structure Wg [Xw] (ss:List Slot) (g:TG) (p:PV) (k:List Slot->Prop):Prop where
 go:∀(E:Ent) (σ:L2.St) (F H:Hp) (v:V) (Q:L2.St->Hp->Prop),Sg E ss σ F H->Rep F v p->(∀AL σ',k AL->Sg E AL σ' F H->Q σ' H)->g v σ H Q
section
variable [Xw]
variable {K:ZHP}{k:PV->Prop}{R:B0}
theorem iH (h:∀(ss:List Slot) (σ:L2.St) (F H:Hp),A8 F' F->Sg E ss σ F H->H l=some (BF tp vs))(r:AO F' vs xs):Src E F' (Oh K tp l vs) xs where
 go:=fun ss σ F H i s S hi=>⟨BF.sq (h ss σ F H s S),by rw[r.length];exact hi⟩
 stop:=fun ss σ F H s S=>⟨BF.sq (h ss σ F H s S),by rw[r.length];exact Ao _⟩
 Fx:=fun ss σ F H i x H' s S hi y=>by
  obtain⟨e,hx⟩:=y;subst e;obtain⟨p,hp,rp⟩:=r.get' hx;exact⟨p,F,hp,.refl S,rp.mono s⟩
theorem OD {k:List PV->Prop}(h:Wz ss te fun _ xs=>k xs):Wi ss (Vq K te) k:=⟨fun E σ F H R S q=>
 h.go E σ F H _ S fun v tp xs F1 H1 m1 f kk=>by
  cases tp with
  | true=>
   have f':Rep F1 v (.tup xs):=f;cases f' with
   | tup e r=>exact⟨true,_,_,rfl,AA.of (m1.st.fh _ _ e),q _ _ F1 H1 m1 (iH (tp:=true) (fun ss σ F H s S=>S.fh _ _ (s _ _ e)) r) kk⟩
  | false=>
   obtain⟨l,vs,rfl,h1,r⟩:=f;have hl:∀(ss:List Slot) (σ:L2.St) (F H:Hp),A8 F1 F->Sg E ss σ F H->H l=some (.lst vs):=fun ss σ F H s S=>by
    rcases h1 with h1 | ⟨hA,h1⟩
    ·exact S.fh _ _ (s _ _ h1)
    ·exact S.keep _ _ hA h1
   exact⟨false,l,vs,rfl,AI.of (hl ss σ F1 H1 (A8.refl _) m1.st),q _ _ F1 H1 m1 (iH (tp:=false) hl r) kk⟩⟩
def L1 (n:Nat):List PV:=(List.range n).map fun i:Nat=>PV.int (i:Int)
theorem MT (n:Nat):(L1 n).length=n:=by simp[L1]
theorem Xu {n:Nat}(h:(L1 n)[i]?=some p):i<n/\p=.int (i:Int):=by
 have hi:i<n:=by have:=(List.getElem?_eq_some_iff.mp h).1;rwa [MT] at this
 unfold L1 at h;rw[Az,lP hi] at h;exact⟨hi,(BS h).symm⟩
theorem vB {k:List PV->Prop}(h:Wp ss te fun p=>∃j:Int,p=.int j/\j<=1000000/\-1000000<=j/\k (L1 j.toNat)):Wi ss (Z4 (AY te B8)) k:=⟨fun E σ F H R S q=>
 h.go E σ F H _ S fun v p F1 H1 m1 r AJ=>by
  obtain⟨j,e,h1,h2,kk⟩:=AJ;subst e;cases r.inv;refine⟨j,rfl,by omega,by omega,q _ (L1 j.toNat) F1 H1 m1 ⟨fun ss σ F H i s S hi=>?_,fun ss σ F H s S=>?_,fun ss σ F H i x H' s S hi y=>?_⟩ kk⟩
  ·rw[MT] at hi;exact hi
  ·show _<=_;rw[MT];exact Ao _
  ·obtain⟨e,hx⟩:=y;subst e;subst hx;rw[MT] at hi;refine⟨.int (i:Int),F,?_,.refl S,?_⟩
   ·unfold L1;rw[Az,lP hi];rfl
   ·rw[Int.zero_add];exact .int _⟩
theorem K2 {k:List Slot->Prop}(h:k (ss.set j (.is p))):Wg ss (Du j) p k:=⟨fun E σ F H v Q S r q=>q _ _ h (S.LJ r)⟩
theorem Z9 {k:List Slot->Prop}(h:∃a b,p=.tup [a,b]/\k ((ss.set i (.is a)).set j (.is b))):Wg ss (Vf K 2 (P9 (Du i) (P9 (Du j) U6))) p k:=⟨fun E σ F H v Q S r q=>by
 obtain⟨a,b,rfl,kk⟩:=h;obtain⟨_,_,rfl,e,r⟩:=r.inv;obtain⟨_,_,rfl,r1,r⟩:=r.inv;obtain⟨_,_,rfl,r2,r⟩:=r.inv;obtain rfl:=r.wz;exact⟨_,_,rfl,AA.of (S.fh _ _ e),rfl,_,_,rfl,_,_,rfl,rfl,q _ _ kk ((S.LJ r1).LJ r2)⟩⟩
theorem BB {t:TS}(h:Ws ss t (fun AL=>Ws AL u nx R) R):Ws ss (Nl t u) nx R:=⟨fun E D σ F H S hn hr=>
 h.go E { D with nx:=u D } σ F H S (fun AL σ' F' H' w S' s=>w.go E D σ' F' H' S' (fun Ew σ2 F2 H2 n2 S2 s2=>hn Ew σ2 F2 H2 n2 S2 (s.trans s2)) hr) hr⟩
theorem Hz {t:TS}(h:Ws ss t nx R):Ws ss (Y5 t) nx R:=⟨fun E D σ F H S hn hr=>⟨D.nx,h.go E { D with nx:=D.nx } σ F H S hn hr,fun _ _ q=>q⟩⟩
theorem Ws.mono {t:TS}(h:Ws ss t nx R)(i:∀s,nx s->Hy s):Ws ss t Hy R:=⟨fun E D σ F H S hn hr=>h.go E D σ F H S (fun AL σ' F' H' n=>hn AL σ' F' H' (i _ n)) hr⟩
theorem Ub {t:TS}(J:List Slot->Prop)(h:Ws ss t J R)(h2:∀AL,J AL->Ws AL u nx R):Ws ss (Nl t u) nx R:=BB (h.mono h2)
theorem IP (h:Wp ss te fun p=>nx (ss.set i (.is p))):Ws ss (Fb te (Du i)) nx R:=⟨fun E D σ F H S hn hr=>
 h.go E σ F H _ S fun v p F1 H1 m1 r kk=>hn _ _ F1 H1 kk (m1.st.LJ r) m1.ff⟩
theorem m9 (h:Wp ss te fun p=>Wg ss g p nx):Ws ss (Fb te g) nx R:=⟨fun E D σ F H S hn hr=>
 h.go E σ F H _ S fun v p F1 H1 m1 r kk=>kk.go E σ F1 H1 v _ m1.st r fun AL σ' n S'=>hn _ _ F1 H1 n S' m1.ff⟩
theorem JX (h:Wn ss te fun xs=>nx (ss.set i (.own xs))):Ws ss (Fb te (Du i)) nx R:=⟨fun E D σ F H S hn hr=>
 h.go E σ F H _ S fun l vs xs F1 H1 m1 fl hl FV r kk=>hn _ _ F1 H1 kk (m1.st.setG ⟨l,vs,rfl,fl,S.E8 hl,FV,r⟩ fun l' e j u _ hu mu=>by cases e;exact S.Pu hu hl mu) m1.ff⟩
theorem Fu (h:Wp ss te k):Ws ss (Hc te) nx (.is k):=⟨fun E D σ F H S hn hr=>
 h.go E σ F H _ S fun v p F1 H1 m1 r kk=>hr v F1 H1 m1.st.toFin ⟨p,r,kk⟩⟩
theorem Wh {k:List PV->Prop}(h:Wn ss te k):Ws ss (Hc te) nx (.new k):=⟨fun E D σ F H S hn hr=>
 h.go E σ F H _ S fun l vs xs F1 H1 m1 fl hl FV r kk=>hr _ F1 H1 m1.st.toFin ⟨l,vs,xs,rfl,fl,S.E8 hl,FV,r,kk⟩⟩
theorem EY {c:TT}{t:TS}(h:Wt ss c fun b=>if b=true then Ws ss t nx R else Ws ss u nx R):Ws ss (RD c t u) nx R:=⟨fun E D σ F H S hn hr=>
 h.go E σ F H _ S fun b F1 H1 m1 w=>by
  show if b=true then _ else _
  cases b with
  | true=>rw[pR rfl] at w ⊢;exact w.go E D σ F1 H1 m1.st (fun Ew σ2 F2 H2 n S2 s2=>hn Ew σ2 F2 H2 n S2 (m1.ff.trans s2)) hr
  | false=>rw[nr (by decide)] at w ⊢;exact w.go E D σ F1 H1 m1.st (fun Ew σ2 F2 H2 n S2 s2=>hn Ew σ2 F2 H2 n S2 (m1.ff.trans s2)) hr⟩
theorem Cg (h:nx ss):Ws ss ZA nx R:=⟨fun E D σ F H S hn hr=>hn ss σ F H h S (A8.refl _)⟩
theorem O7 (h:Wp ss te fun _=>nx ss):Ws ss (Ki te) nx R:=⟨fun E D σ F H S hn hr=>
 h.go E σ F H _ S fun v p F1 H1 m1 r kk=>hn ss σ F1 H1 kk m1.st m1.ff⟩
theorem Sg.drop (S:Sg E ss σ F H)(i:Nat):Sg E (ss.set i .any) σ F H:=by
 have Gm:∀(j:Nat) u,(ss.set i .any)[j]?=some u->u=.any∨ss[j]?=some u:=fun j u hj=>by
  by_cases q:j=i
  ·subst q;have AW:j<ss.length:=by have:=(List.getElem?_eq_some_iff.mp hj).1;simpa using this
   rw[Ci AW] at hj;exact .inl (BS hj).symm
  ·rw[CG (BP q)] at hj;exact .inr hj
 refine⟨S.toFin,by rw[Hk];exact S.len,fun j u hj=>?_,fun j k u w l RJ hj hk mu mw=>?_⟩
 ·rcases Gm j u hj with rfl | h
  ·trivial
  ·exact S.ok j u h
 ·rcases Gm j u hj with rfl | h
  ·cases mu
  ·rcases Gm k w hk with rfl | h2
   ·cases mw
   ·exact S.BZ j k u w l RJ h h2 mu mw
theorem QM (e:σ[i]?=some (some v)):σ.set i (some v)=σ:=by
 apply lL;intro j
 by_cases q:j=i
 ·subst q;rw[Ci (List.getElem?_eq_some_iff.mp e).1,e]
 ·rw[CG (BP q)]
theorem Sg.XE (S:Sg E ss σ F H)(fa:F a=none)(h0:E.H0 a=none∨a∈E.B)(hn:∀(i:Nat) s,ss[i]?=some s->¬ BI s σ[i]? a):Sg E ss σ F (upd H a o):=by
 have hb:∀b u,b≠a->H b=some u->upd H a o b=some u:=fun b u h e=>by rw[Ad h];exact e
 refine⟨⟨fun b u e=>?_,S.f0,fun b u hA e=>?_,S.fresh,fun b hA=>?_,S.Li,S.a0,S.bF,fun b hB=>?_,S.b0⟩,S.len,fun i s hi=>?_,S.BZ⟩
 ·exact hb b u (EU e fa) (S.fh b u e)
 ·refine hb b u ?_ (S.keep b u hA e);rintro rfl;rcases h0 with h0 | h0
  ·rw[h0] at e;cases e
  ·exact hA.2 h0
 ·refine BY.keep (S.EL b hA) fun u e=>hb b u ?_ e;rintro rfl;rcases h0 with h0 | h0
  ·exact S.a0 _ hA h0
  ·exact(S.b0 _ h0).2 hA
 ·by_cases q:b=a
  ·subst q;rw[AH];simp
  ·rw[Ad q];exact S.bH b hB
 ·by_cases np:s=.AD
  ·subst np;obtain⟨l,e,e1,e2,e3⟩:=S.ok i _ hi;exact⟨l,e,e1,e2,BY.keep e3 fun u h=>hb l u (by rintro rfl;exact hn i _ hi e) h⟩
  ·exact Ok.go S hi (A8.refl _) (fun b u m h=>hb b u (by rintro rfl;exact hn i _ hi m) h) (fun _ _ h=>h) np
theorem Sg.put (S:Sg E ss σ F H){ys:List PV}(hi:ss[i]?=some (.own xs))(e:σ[i]?=some (some (.ref l)))(fl:F l=none)(h0:E.H0 l=none)(r:AO F CB ys):Sg E (ss.set i (.own ys)) σ F (upd H l (.lst CB)):=by
 have ne1:∀(j:Nat) s,(ss.set i .any)[j]?=some s->¬ BI s σ[j]? l:=fun j s hj mj=>by
  by_cases q:j=i
  ·subst q;have AW:j<ss.length:=(List.getElem?_eq_some_iff.mp hi).1;rw[Ci AW] at hj;cases hj;cases mj
  ·rw[CG (BP q)] at hj;exact S.BZ j i s _ l q hj hi mj e
 have S2:=(S.drop i).XE (o:=.lst CB) fl (.inl h0) ne1;have S3:=S2.setG (j:=i) (s:=.own ys) (v:=.ref l) ⟨l,CB,rfl,fl,h0,AH,r⟩ fun l' e' j u hj hu mu=>by cases e';exact ne1 j u hu mu
 rw[QM e,Ze] at S3;exact S3
theorem bX (hi:ss[i]?=some (.own xs))(h:Wp ss te fun p=>xs.length<=99999/\nx (ss.set i (.own (xs++[p])))):Ws ss (Ki (NG K "list" Nv (BQ i) (AY te B8))) nx R:=⟨fun E D σ F H S hn hr=>by
 obtain⟨l,vs,e,e1,e2,e3,r⟩:=S.ok i _ hi;refine⟨_,e,.inl ⟨rfl,_,AI.of e3⟩,h.go E σ F H _ S fun v p F1 H1 m1 rv ⟨hz,kk⟩=>?_⟩;obtain⟨l',CB,e',Dw,CF,OL,r'⟩:=m1.st.ok i _ hi;rw[e] at e';cases e';refine⟨l,CB,v,rfl,rfl,OL,LZ (by rw[r'.length];exact hz),?_⟩;exact hn _ σ F1 _ kk (m1.st.put hi e Dw CF (r'.append (.one rv))) m1.ff⟩
def BG (F H:Hp)(as:List Addr):Hp:=fun a=>if a∈as then H a else F a
theorem Sg.lay (S:Sg E ss σ F H)(as:List Addr)(h0:∀a∈as,F a=none/\E.H0 a=none/\H a≠none)(hn:∀a∈as,∀(i:Nat) s,ss[i]?=some s->¬ BI s σ[i]? a):Sg E ss σ (BG F H as) H/\A8 F (BG F H as):=by
 have Tz:∀a,a∈as->BG F H as a=H a:=fun a h=>pR h;have Ph:∀a,a∉as->BG F H as a=F a:=fun a h=>nr h;have ff:A8 F (BG F H as):=fun a o e=>by
  by_cases q:a∈as
  ·rw[(h0 a q).1] at e;cases e
  ·rw[Ph a q];exact e
 have nF:∀a,a∉as->F a=none->BG F H as a=none:=fun a q h=>by rw[Ph a q];exact h
 refine⟨⟨⟨fun a o e=>?_,S.f0.trans ff,S.keep,fun a o e=>?_,S.EL,fun a hA=>?_,S.a0,fun a hB=>?_,S.bH,S.b0⟩,S.len,fun i s hi=>?_,S.BZ⟩,ff⟩
 ·by_cases q:a∈as
  ·rw[Tz a q] at e;exact e
  ·rw[Ph a q] at e;exact S.fh a o e
 ·by_cases q:a∈as
  ·exact .inr (h0 a q).2.1
  ·rw[Ph a q] at e;exact S.fresh a o e
 ·exact nF a (fun q=>S.a0 a hA (h0 a q).2.1) (S.Li a hA)
 ·exact nF a (fun q=>(S.b0 a hB).1 (h0 a q).2.1) (S.bF a hB)
 ·have no:∀a,BI s σ[i]? a->a∉as:=fun a m q=>hn a q i s hi m;have kk:=S.ok i s hi;cases s with
  | any=>trivial
  | is p=>obtain⟨v,e,r⟩:=kk;exact⟨v,e,r.mono ff⟩
  | own ys=>
   obtain⟨l',ws,q,q1,q2,q3,r⟩:=kk;exact⟨l',ws,q,nF l' (no l' q) q1,q2,q3,r.mono ff⟩
  | AD=>
   obtain⟨l',q,q1,q2,q3⟩:=kk;exact⟨l',q,nF l' (no l' q) q1,q2,q3⟩
  | sq tp ys=>
   cases tp with
   | true=>obtain⟨v,e,r⟩:=kk;exact⟨v,e,r.mono ff⟩
   | false=>obtain⟨l',ws,q,q1,q2,r⟩:=kk;exact⟨l',ws,q,q1,q2,r.mono ff⟩
  | raw P=>obtain⟨v,e,r,st⟩:=kk;exact⟨v,e,st _ _ ff r,st⟩
  | ow lt t=>
   obtain⟨v,e,r,nd,q⟩:=kk;exact⟨v,e,r.mono ff fun a _ o h=>h,nd,fun a ha=>⟨nF a (no a ha) (q a ha).1,(q a ha).2⟩⟩
theorem Rg {t:TS}(i:Nat)(hi:ss[i]?=some (.own xs))(h:Ws (ss.set i (.is (.lst xs))) t nx R):Ws ss t nx R:=⟨fun E D σ F H S hn hr=>by
 obtain⟨l,vs,e,e1,e2,e3,r⟩:=S.ok i _ hi;have one:∀a,a∈[l]->a=l:=fun a h=>by simpa using h
 obtain⟨S1,nf⟩:=(S.drop i).lay [l] (fun a h=>by rw[one a h,e3];exact⟨e1,e2,by simp⟩) fun a h j s hj m=>by
  rw[one a h] at m
  by_cases q:j=i
  ·subst q;rw[Ci (List.getElem?_eq_some_iff.mp hi).1] at hj;cases hj;cases m
  ·rw[CG (BP q)] at hj;exact S.BZ j i s _ l q hj hi m e
 have S2:=S1.LJ (j:=i) (v:=.ref l) (p:=.lst xs) (.lst (by unfold BG;rw[pR (by simp)];exact e3) (r.mono nf));rw[QM e,Ze] at S2;exact h.go E D σ _ H S2 (fun Ew σ2 F2 H2 n S2 s2=>hn Ew σ2 F2 H2 n S2 (nf.trans s2)) hr⟩
theorem Hx {tb:TS}(I:List PV->Nat->List Slot->Prop)(h:Wi ss wi fun xs=>I xs 0 ss/\(∀(i:Nat) p AL,xs[i]?=some p->I xs i AL->Wg AL g p fun Ew=>Ws Ew tb (I xs (i+1)) R)/\∀AL,I xs xs.length AL->nx AL):Ws ss (VH wi g tb) nx R:=⟨fun E D σ F H S hn hr=>
 h.go E σ F H _ S fun J xs F1 H1 m1 sr AJ=>by
  obtain⟨i0,hs,hd⟩:=AJ;refine⟨fun i m σ' H'=>m=xs.length - i/\i<=xs.length/\∃AL F',I xs i AL/\Sg E AL σ' F' H'/\A8 F1 F',⟨_,rfl,CH _,ss,F1,i0,m1.st,A8.refl _⟩,?_⟩;rintro i m σ' H' ⟨rfl,hi,AL,F',hI,S',s'⟩
  by_cases AW:i<xs.length
  ·refine .inr ⟨sr.go AL σ' F' H' i s' S' AW,fun σ2 H2=>∃Ew F2,I xs (i+1) Ew/\Sg E Ew σ2 F2 H2/\A8 F1 F2,fun σ2 H2 Dk=>by obtain⟨Ew,F2,a,b,c⟩:=Dk;exact⟨_,by omega,rfl,AW,Ew,F2,a,b,c⟩,fun x H3 y=>?_⟩;obtain⟨p,F3,hp,m3,rp⟩:=sr.Fx AL σ' F' H' i x H3 s' S' AW y;refine(hs i p AL hp hI).go E σ' F3 H3 x _ m3.st rp fun ss4 σ4 w S4=>?_;exact w.go E _ σ4 F3 H3 S4 (fun vM σ5 F5 H5 n5 S5 s5=>⟨vM,F5,n5,S5,(s'.trans m3.ff).trans s5⟩) hr
  ·have e:i=xs.length:=by omega
   subst e;exact .inl ⟨sr.stop AL σ' F' H' s' S',hn AL σ' F' H' (hd AL hI) S' (m1.ff.trans s')⟩⟩
end
def Dg (js:List Nat)(ss:List Slot):List Slot:=js.map fun j=>(ss[j]?).getD .any
def Rb (js:List Nat)(ss:List Slot):Bool:=js.all fun j=>match ss[j]? with
 | some .AD=>false
 | _=>true
section
variable [Xw]
variable {K:ZHP}{js:List Nat}
theorem vF (h:js[i]?=some j)(e:(Dg js ss)[i]?=some s):s=(ss[j]?).getD .any:=by
 unfold Dg at e;rw[Az,h] at e;exact(BS e).symm
theorem Sg.Ah (S:Sg E ss σ F H)(nd:js.Nodup)(r:AO F vs ps):Sg E (Dg js ss++ps.map .is) (Bb js σ++vs.map some) F H:=by
 have hl:(Dg js ss).length=js.length:=by simp[Dg]
 have Co:(Bb js σ).length=js.length:=by simp[Bb]
 have Gm:∀(i:Nat) (hi:i<js.length),(Dg js ss++ps.map .is)[i]?=some ((ss[js[i]]?).getD .any)/\(Bb js σ++vs.map some)[i]?=some ((σ[js[i]]?).join):=fun i hi=>by
  rw[Im (by rw[hl];exact hi),Im (by rw[Co];exact hi)];unfold Dg Bb;rw[Az,Az,B9 hi];exact⟨rfl,rfl⟩
 have at2:∀(i:Nat) s,js.length<=i->(Dg js ss++ps.map .is)[i]?=some s->∃p v,s=.is p/\(Bb js σ++vs.map some)[i]?=some (some v)/\Rep F v p:=fun i s hi e=>by
  rw[Mj (by rw[hl];exact hi),hl,Az] at e;rw[Mj (by rw[Co];exact hi),Co,Az];cases q:ps[i - js.length]? with
  | none=>rw[q] at e;cases e
  | some p=>
   rw[q] at e;obtain⟨v,hv,rv⟩:=r.get q;rw[hv];exact⟨p,v,(BS e).symm,rfl,rv⟩
 have fx:∀(s:Slot) (m:Nat) (l:Addr),BI s (some (σ[m]?).join) l->BI s σ[m]? l:=fun s m l o=>by
  have fy:∀l,some (σ[m]?).join=some (some (V.ref l))->σ[m]?=some (some (.ref l)):=fun l e=>by
   cases q:σ[m]? with
   | none=>rw[q] at e;cases e
   | some o=>rw[q] at e;cases o with
    | none=>cases e
    | some v=>simpa using e
  cases s with
  | own xs=>exact fy l o
  | AD=>exact fy l o
  | ow lt t=>exact o
  | _=>exact o
 have sm:∀(i:Nat) s l,(Dg js ss++ps.map .is)[i]?=some s->BI s (Bb js σ++vs.map some)[i]? l->∃hi:i<js.length,ss[js[i]]?=some s/\BI s σ[js[i]]? l:=fun i s l e m=>by
  by_cases hi:i<js.length
  ·rw[(Gm i hi).2] at m;refine⟨hi,?_,fx s _ l m⟩;rw[(Gm i hi).1] at e;cases q:ss[js[i]]? with
   | none=>rw[q] at e;cases e;cases m
   | some u=>rw[q] at e;exact e
  ·obtain⟨p,v,rfl,_⟩:=at2 i s (by omega) e;cases m
 refine⟨S.toFin,?_,fun i s e=>?_,fun i j s u l Bs hi hj ms mu=>?_⟩
 ·rw[BL,BL,hl,Co,AX,AX,r.length]
 ·by_cases hi:i<js.length
  ·obtain⟨a,b⟩:=Gm i hi;rw[a] at e;rw[b];cases q:ss[js[i]]? with
   | none=>rw[q] at e;cases e;trivial
   | some u=>
    rw[q] at e;have eu:u=s:=BS e;subst eu;have kk:=S.ok _ _ q;cases u with
    | any=>trivial
    | is p=>obtain⟨v,e,r⟩:=kk;rw[e];exact⟨v,rfl,r⟩
    | own xs=>obtain⟨l,vs,e,r⟩:=kk;rw[e];exact⟨l,vs,rfl,r⟩
    | AD=>obtain⟨l,e,r⟩:=kk;rw[e];exact⟨l,rfl,r⟩
    | sq tp xs=>
     cases tp with
     | true=>obtain⟨v,e,r⟩:=kk;rw[e];exact⟨v,rfl,r⟩
     | false=>obtain⟨l,vs,e,r⟩:=kk;rw[e];exact⟨l,vs,rfl,r⟩
    | raw P=>obtain⟨v,e,r⟩:=kk;rw[e];exact⟨v,rfl,r⟩
    | ow lt t=>obtain⟨v,e,r⟩:=kk;rw[e];exact⟨v,rfl,r⟩
  ·obtain⟨p,v,rfl,hv,rv⟩:=at2 i s (by omega) e;rw[hv];exact⟨v,rfl,rv⟩
 ·obtain⟨li,qi,oi⟩:=sm i s l hi ms;obtain⟨lj,qj,oj⟩:=sm j u l hj mu;refine S.BZ js[i] js[j] s u l (fun e=>Bs ?_) qi qj oi oj;exact(ZG7 nd).mp e
theorem Mv.out (S:Sg E ss σ F H)(np:Rb js ss=true)(m:Mv E (Dg js ss++ps.map .is) τ F H F' H'):Mv E ss σ F H F' H':=by
 have nn:∀a,CK (Dg js ss++ps.map .is) τ a:=fun a i hi _=>by
  by_cases h:i<(Dg js ss).length
  ·rw[Im h] at hi;have hj:i<js.length:=by simpa[Dg] using h
   have q:=vF (B9 hj) hi;have z:=List.all_eq_true.mp np js[i] (LA hj);cases w:ss[js[i]]? with
   | none=>rw[w] at q;cases q
   | some u=>rw[w] at q z;cases q;cases z
  ·rw[Mj (by omega),Az] at hi;cases w:ps[i - (Dg js ss).length]? with
   | none=>rw[w] at hi;cases hi
   | some p=>rw[w] at hi;cases hi
 have hk:∀a o,H a=some o->H' a=some o:=fun a o e=>m.hh a o (nn a) e;exact S.step m.ff m.st.fh (fun a o _ e=>hk a o e) m.nn fun i l hi e=>BY.keep (S.E7 hi e) fun o e=>hk l o e
theorem aZ {tt:TT}{k:List PV->Prop}(f:PV->Bool)(g:PV->PV)
  (h:Wi ss wi fun xs=>xs.length<=100000/\(∀x∈xs,Wt (Dg js ss++[.is x]) tt fun b=>b=f x)/\(∀x∈xs,f x=true->Wp (Dg js ss++[.is x]) te fun p=>p=g x)/\k ((xs.filter f).map g))
  (nd:js.Nodup:=by decide) (np:Rb js ss=true:=by rfl):Wn ss (Jk wi js tt te) k:=⟨fun E σ F H Q S q=>
 h.go E σ F H _ S fun J xs F1 H1 m1 sr ⟨hz,ht,he,kk⟩ acc Ax=>by
  have J7:CK ss σ acc:=m1.st.OH Ax;have yz:=m1.st.E8 Ax;have sla:∀(i:Nat) s,ss[i]?=some s->¬ BI s σ[i]? acc:=fun i s hi=>m1.st.Pu hi Ax;refine⟨fun i m H2=>m=xs.length - i/\i<=xs.length/\∃F2 vs,Mv E ss σ F1 H1 F2 H2/\F2 acc=none/\H2 acc=some (.lst vs)/\AO F2 vs (((xs.take i).filter f).map g),⟨_,rfl,CH _,F1,[],m1.st.make Ax _,m1.st.BU Ax,AH,.nil⟩,?_⟩;rintro i m H2 ⟨rfl,hi,F2,vs,m2,fa,ha,rv⟩
  by_cases AW:i<xs.length
  ·refine .inr ⟨sr.go ss σ F2 H2 i m2.ff m2.st AW,fun x H3 y=>?_⟩;obtain⟨p,F3,hp,m3,rp⟩:=sr.Fx ss σ F2 H2 i x H3 m2.ff m2.st AW y;have gX:p∈xs:=DD hp;have Lz:(xs.take (i+1))=xs.take i++[p]:=by
    have e2:xs[i]=p:=by rw[B9 AW] at hp;exact BS hp
    rw[Sq AW,e2]
   have e1:List.filter f (xs.take (i+1))=(xs.take i).filter f++(if f p=true then[p] else[]):=by
    rw[Lz,Mi];congr 1
    by_cases hf:f p=true <;> simp[hf]
   have kE:∀{F4:Hp},(∀a o,F4 a=some o->F2 a=some o∨H2 a=none)->F4 acc=none:=fun {F4} n=>by
    cases e:F4 acc with
    | none=>rfl
    | some o=>
     rcases n acc o e with w | w
     ·rw[fa] at w;cases w
     ·rw[ha] at w;cases w
   have S3:=m3.st.Ah (js:=js) nd (.one rp);refine(ht p gX).go E _ F3 H3 _ S3 fun b F4 H4 m4 hb=>?_;have Kd:=m3.trans (m4.out (ps:=[p]) m3.st np);show if b=true then _ else _
   rw[hb]
   by_cases hf:f p=true
   ·rw[pR hf];have S4:=Kd.st.Ah (js:=js) nd (.one (rp.mono (m4.out (ps:=[p]) m3.st np).ff));refine(he p gX hf).go E _ F4 H4 _ S4 fun w pw F5 H5 m5 cV ew=>?_;have m45:=m4.out (ps:=[p]) m3.st np;have yl:=m5.out (ps:=[p]) Kd.st np;have PM:=Kd.trans yl;have ha5:=PM.hh acc _ J7 ha;have ij:=kE PM.nn;have hlen:vs.length<=99999:=by
     rw[rv.length,AX];have:=Fq f (xs.take i);rw[Bd] at this;omega
    refine⟨vs,ha5,LZ hlen,xs.length - (i+1),by omega,rfl,AW,F5,vs++[w],?_,ij,AH,?_⟩
    ·have Pj:=m2.trans PM;refine⟨Pj.st.XE ij (.inl yz) sla,Pj.ff,fun a o n e=>?_,Pj.nn⟩;rw[Ad (EU e Ax)];exact Pj.hh a o n e
    ·rw[e1,pR hf,CS];rw[ew] at cV;exact(rv.mono PM.ff).append (.one cV)
   ·have OR:f p=false:=by simpa using hf
    rw[OR,nr (by decide)];refine⟨xs.length - (i+1),by omega,rfl,AW,F4,vs,m2.trans Kd,kE Kd.nn,Kd.hh acc _ J7 ha,?_⟩;rw[e1,nr hf,Et];exact rv.mono Kd.ff
  ·have e:i=xs.length:=by omega
   subst e;refine .inl ⟨sr.stop ss σ F2 H2 m2.ff m2.st,q acc vs _ F2 H2 (m1.trans m2) fa (m1.none Ax) ha ?_ kk⟩;rw[Hl] at rv;exact rv⟩
end
abbrev Pre:=List Slot->B0->Prop
def Ar (pre:Pre):Sp:=fun vs H Q _=>∃(ss:List Slot) (R:B0) (F:Hp) (A:List Addr),pre ss R/\Sg (E3 A F H) ss (vs.map some) F H/\∀v F' H',Fin (E3 A F H) F' H'->R.ok (E3 A F H) F' H' v->Q v H'
section
variable [Xw]
variable {pre:Pre}{k:PV->Prop}
theorem HU.at {l:List Slot}(h:HU ss σ F H vs l):∀{i:Nat}{s:Slot},l[i]?=some s->∃v,vs[i]?=some v/\Av ss σ F H v s:=by
 induction h with
 | nil=>intro i s e;simp at e
 | cons a _ ih=>
  intro i s e;cases i with
  | zero=>simp at e;subst e;exact⟨_,rfl,a⟩
  | succ i=>exact ih (by simpa using e)
theorem HU.len {l:List Slot}(h:HU ss σ F H vs l):l.length=vs.length:=by
 induction h with
 | nil=>rfl
 | cons a _ ih=>rw[BH,BH,ih]
theorem Av.ok (S:Sg E ss σ F H)(a:Av ss σ F H v s)(hA:∀l,CK ss σ l->l∉A):Ok (E3 A F H) F H s (some (some v))/\∀o l,¬ BI s o l:=by
 cases s with
 | is p=>exact⟨⟨v,rfl,a⟩,fun _ _ z=>z⟩
 | sq tp xs=>
  cases tp with
  | true=>exact⟨⟨v,rfl,a⟩,fun _ _ z=>z⟩
  | false=>obtain⟨l,vs,rfl,n,h,r⟩:=a;exact⟨⟨l,vs,rfl,⟨hA l n,B4⟩,h,r⟩,fun _ _ z=>z⟩
 | raw P=>exact⟨⟨v,rfl,a⟩,fun _ _ z=>z⟩
 | any=>exact a.elim
 | own xs=>exact a.elim
 | AD=>exact a.elim
 | ow lt t=>exact a.elim
theorem Sg.SY (S:Sg E ss σ F H){l:List Slot}(a:HU ss σ F H vs l):Sg (E3 [] F H) l (vs.map some) F H:=by
 have nn:∀{p:Prop}(a:Addr),a∈([]:List Addr)->p:=fun a h=>absurd h B4;refine⟨⟨S.fh,A8.refl _,fun _ _ _ e=>e,fun _ _ e=>.inl e,fun a h=>nn a h,fun a h=>nn a h,fun a h=>nn a h,fun a h=>nn a h,fun a h=>nn a h,fun a h=>nn a h⟩,by rw[AX];exact a.len,fun i s hi=>?_,fun i j s u l Bs hi hj ms mu=>?_⟩
 ·obtain⟨v,hv,q⟩:=a.at hi;rw[Az,hv];exact(q.ok S fun _ _ h=>absurd h B4).1
 ·obtain⟨v,hv,q⟩:=a.at hi;exact(q.ok S (A:=[]) fun _ _ h=>absurd h B4).2 _ _ ms
theorem Sg.ka (S:Sg E ss σ F H){p:Addr}(hi:ss[i0]?=some .AD)(e:σ[i0]?=some (some (.ref p))){l:List Slot}(a:HU ss σ F H vs l):Sg (E3 [p] F H) (.AD::l) ((V.ref p::vs).map some) F H:=by
 obtain⟨p',e',fp,_,pp⟩:=S.ok i0 _ hi;rw[e] at e';cases e';have hA:∀l,CK ss σ l->l∉[p]:=fun l n h=>by
  have:l=p:=by simpa using h
  subst this;exact n i0 hi e
 have one:∀a,a∈[p]->a=p:=fun a h=>by simpa using h
 have nn:∀{p:Prop}(a:Addr),a∈([]:List Addr)->p:=fun a h=>absurd h B4;refine⟨⟨S.fh,A8.refl _,fun _ _ _ e=>e,fun _ _ e=>.inl e,fun a h=>(one a h)▸pp,fun a h=>(one a h)▸fp,fun a h=>?_,fun a h=>nn a h,fun a h=>nn a h,fun a h=>nn a h⟩,by rw[AX,BH,BH];rw[a.len],fun i s hi=>?_,fun i j s u l' Bs hi hj ms mu=>?_⟩
 ·rw[one a h];obtain⟨_,_,q,_⟩:=pp;show H p≠none;rw[q];simp
 ·cases i with
  | zero=>simp at hi;subst hi;exact⟨p,rfl,fp,.inr (by simp),pp⟩
  | succ i=>
   obtain⟨v,hv,q⟩:=a.at (i:=i) (s:=s) (by simpa using hi)
   have:((V.ref p::vs).map some)[i+1]?=some (some v):=by rw[Bn,List.getElem?_cons_succ,Az,hv];rfl
   rw[this];exact(q.ok S hA).1
 ·have z:∀(i:Nat) s o l',(Slot.AD::l)[i]?=some s->BI s o l'->i=0:=fun i s o l' h m=>by
   cases i with
   | zero=>rfl
   | succ i=>
    obtain⟨v,hv,q⟩:=a.at (i:=i) (s:=s) (by simpa using h)
    exact((q.ok S hA).2 _ _ m).elim
  exact absurd ((z i s _ _ hi ms).trans (z j u _ _ hj mu).symm) Bs
theorem Sg.back (S:Sg E ss σ F H)(hA:∀a,a∈A->∃i:Nat,ss[i]?=some .AD/\σ[i]?=some (some (.ref a)))(f:Fin (E3 A F H) F' H'):Mv E ss σ F H F' H':=by
 refine S.step f.f0 f.fh (fun a o n e=>f.keep a o ⟨fun h=>?_,B4⟩ e) f.fresh fun i l hi e=>?_
 ·obtain⟨i,q1,q2⟩:=hA a h;exact n i q1 q2
 ·by_cases q:l∈A
  ·exact f.EL l q
  ·exact BY.keep (S.E7 hi e) fun o e=>f.keep l o ⟨q,B4⟩ e
theorem wp_call (h:Wa ss t fun l=>∃k',pre l (.is k')/\∀p,k' p->k p):Wp ss (CD (Ar pre) [] E0 t) k:=⟨fun E σ F H Q S q=>
 h.go E σ F H _ S fun vs l F1 H1 m1 a ⟨k',hp,kk⟩=>by
  rw[Et];refine⟨l,.is k',F1,[],hp,m1.st.SY a,fun v F' H' f ⟨p,r,kp⟩=>?_⟩;exact q v p F' H' (m1.trans (m1.st.back (fun _ h=>absurd h B4) f)) r (kk p kp)⟩
theorem qO {k:List PV->Prop}(h:Wa ss t fun l=>∃k',pre l (.new k')/\∀xs,k' xs->k xs):Wn ss (CD (Ar pre) [] E0 t) k:=⟨fun E σ F H Q S q=>
 h.go E σ F H _ S fun vs l F1 H1 m1 a ⟨k',hp,kk⟩=>by
  rw[Et];refine⟨l,.new k',F1,[],hp,m1.st.SY a,fun v F' H' f ⟨l,vs,xs,e,fl,hl,Dz,r,kx⟩=>?_⟩;subst e;exact q l vs xs F' H' (m1.trans (m1.st.back (fun _ h=>absurd h B4) f)) fl (m1.none hl) Dz r (kk xs kx)⟩
theorem Yp (hi:ss[i]?=some .AD)(h:Wa ss t fun l=>∃k',pre (.AD::l) (.is k')/\∀p,k' p->k p):Wp ss (CD (Ar pre) [] E0 (AY (BQ i) t)) k:=⟨fun E σ F H Q S q=>by
 obtain⟨p,e,_⟩:=S.ok i _ hi;refine⟨_,e,h.go E σ F H _ S fun vs l F1 H1 m1 a ⟨k',hp,kk⟩=>?_⟩;show Ar pre ((V.ref p::vs)++[]) H1 Q E0;rw[Et];refine⟨.AD::l,.is k',F1,[p],hp,m1.st.ka hi e a,fun v F' H' f ⟨pv,r,kp⟩=>?_⟩;exact q v pv F' H' (m1.trans (m1.st.back (A:=[p]) (fun a h=>⟨i,hi,(show a=p from by simpa using h)▸e⟩) f)) r (kk pv kp)⟩
theorem Sg.grown (S:Sg E ss σ F H)(n:Nat):Sg E (ss++List.replicate n .any) (σ++List.replicate n none) F H:=by
 have Gm:∀(i:Nat) s,(ss++List.replicate n .any)[i]?=some s->s≠.any->ss[i]?=some s/\(σ++List.replicate n none)[i]?=σ[i]?:=fun i s e hs=>by
  by_cases h:i<ss.length
  ·rw[Im h] at e;rw[Im (by rw[<- S.len];exact h)];exact⟨e,rfl⟩
  ·rw[Mj (by omega),lQ] at e;split at e
   ·exact absurd (BS e).symm hs
   ·cases e
 refine⟨S.toFin,by simp[S.len],fun i s e=>?_,fun i j s u l Bs hi hj ms mu=>?_⟩
 ·cases s with
  | any=>trivial
  | _=>obtain⟨a,b⟩:=Gm i _ e (by simp);rw[b];exact S.ok i _ a
 ·have ns:s≠.any:=by rintro rfl;cases ms
  have nu:u≠.any:=by rintro rfl;cases mu
  obtain⟨a,b⟩:=Gm i s hi ns;obtain⟨c,d⟩:=Gm j u hj nu;rw[b] at ms;rw[d] at mu;exact S.BZ i j s u l Bs a c ms mu
end
section
variable {pre:Pre}{k:PV->Prop}
def Rm (E:Ent0):Ent:=⟨E,fun _ _ _ _ _ _ _ _ _ d=>d.elim⟩
theorem DE {N:List Str}{n:Nat}{t:TS}(h:Ar pre vs H Q X)(hl:∀ss R,pre ss R->ss.length=n)
  (hw:∀ss R,pre ss R->Ws (ss++List.replicate (N.length - n) .any) t (fun _=>∃k,R=.is k/\k .AF) R):t { nx:=fun _ H'=>Q .AF H',rt:=Q } (L2.start N vs) H:=by
 obtain⟨ss,R,F,A,hp,S,q⟩:=h;have e:vs.length=n:=by have:=S.len;rw[AX] at this;rw[<- this];exact hl ss R hp
 unfold L2.start;rw[e];refine(hw ss R hp).go (Rm (E3 A F H)) _ _ F H (S.grown _) (fun AL σ' F' H' ⟨k,e,kn⟩ S' _=>?_) fun v F' H' f ok=>q v F' H' f ok;subst e;exact q .AF F' H' S'.toFin ⟨.AF,.AF,kn⟩
theorem DG {n:Nat}(hl:∀ss R,pre ss R->ss.length=n)(h:Ar pre vs H Q X):vs.length=n:=by
 obtain⟨ss,R,F,A,hp,S,q⟩:=h;have:=S.len;rw[AX] at this;rw[<- this];exact hl ss R hp
end
end Fz
namespace Lw
open L2
variable {EV acc l ns ss:List Str}{r x:Str}{H H':Hp}{t:Addr}{g j:Int}
theorem Mo:∀l:List Nat,¬ l<l
 | [],h=>by simp at h
 | a::r,h=>by
  rw[ZT] at h;rcases h with h | ⟨_,h⟩
  ·omega
  ·exact Mo r h
theorem R9:∀{a b c:List Nat},a<b->b<c->a<c
 | _,[],_,h,_=>by simp at h
 | _,_::_,[],_,h=>by simp at h
 | [],_::_,_::_,_,_=>by simp
 | a::r,b::s,c::t,h,h'=>by
  rw[ZT] at h h' ⊢;rcases h with h | ⟨rfl,h⟩
  ·rcases h' with h' | ⟨rfl,h'⟩
   ·left;omega
   ·left;exact h
  ·rcases h' with h' | ⟨rfl,h'⟩
   ·left;exact h'
   ·right;exact⟨rfl,R9 h h'⟩
theorem gK:∀a b:List Nat,a<b∨a=b∨b<a
 | [],[]=>.inr (.inl rfl)
 | [],_::_=>.inl (by simp)
 | _::_,[]=>.inr (.inr (by simp))
 | a::r,b::s=>by
  rw[ZT,ZT];rcases ZGL a b with h | rfl | h
  ·exact .inl (.inl h)
  ·rcases gK r s with h | rfl | h
   ·exact .inl (.inr ⟨rfl,h⟩)
   ·exact .inr (.inl rfl)
   ·exact .inr (.inr (.inr ⟨rfl,h⟩))
  ·exact .inr (.inr (.inl h))
abbrev HY (a b:Str):Prop:=a.cps.toList<b.cps.toList
theorem RT (a b:Str):HY a b∨a=b∨HY b a:=by
 rcases gK a.cps.toList b.cps.toList with h | h | h
 ·exact .inl h
 ·exact .inr (.inl (wJ h))
 ·exact .inr (.inr h)
abbrev Up (ss:List Str):Prop:=ss.Pairwise HY
theorem O9 (h:Up ss):ss.Nodup:=by
 refine List.Pairwise.imp (fun {a b} (D3:HY a b) (e:a=b)=>?_) h;subst e;exact Mo _ D3
theorem dh:∀(l:List Str) (p:Str),risingS p l=true->(∀x∈l,¬ HY x p)/\l.Pairwise fun a b=>¬ HY b a
 | [],p,_=>⟨fun x hx=>absurd hx (by simp),.nil⟩
 | y::r,p,h=>by
  have h1:(!ltCps y.cps.toList p.cps.toList && risingS y r)=true:=h;rw[E4,ltCps_eq] at h1;have hyp:¬ HY y p:=by
   intro z;rw[nV z] at h1;exact absurd h1.1 (by decide)
  obtain⟨h2,h3⟩:=dh r y h1.2;refine⟨fun x hx=>?_,List.pairwise_cons.mpr ⟨fun x hx=>h2 x hx,h3⟩⟩;rcases List.mem_cons.mp hx with rfl | hx
  ·exact hyp
  ·intro z;rcases RT y p with q | q | q
   ·exact hyp q
   ·exact h2 x hx (q▸z)
   ·exact h2 x hx (R9 z q)
theorem Ur (h:sortedS l=true):l.Pairwise fun a b=>¬ HY b a:=by
 cases l with
 | nil=>exact .nil
 | cons x r=>
  obtain⟨h1,h2⟩:=dh r x h;exact List.pairwise_cons.mpr ⟨h1,h2⟩
theorem Ut (h:sortedS l=true)(nd:l.Nodup):Up l:=by
 have w:=Ur h;have q:=List.Pairwise.and w nd;refine q.imp fun {a b} D3=>?_;rcases RT a b with z | z | z
 ·exact z
 ·exact absurd z D3.2
 ·exact absurd z D3.1
theorem PH:∀{as bs:List Str},Up as->Up bs->(∀x,x∈as↔x∈bs)->as=bs
 | [],[],_,_,_=>rfl
 | [],b::bs,_,_,h=>absurd ((h b).mpr DC) (by simp)
 | a::as,[],_,_,h=>absurd ((h a).mp DC) (by simp)
 | a::as,b::bs,ha,hb,h=>by
  obtain⟨a1,a2⟩:=List.pairwise_cons.mp ha;obtain⟨b1,b2⟩:=List.pairwise_cons.mp hb;have e:a=b:=by
   rcases List.mem_cons.mp ((h a).mp DC) with z | z
   ·exact z
   ·rcases List.mem_cons.mp ((h b).mpr DC) with y | y
    ·exact y.symm
    ·exact absurd (R9 (a1 b y) (b1 a z)) (Mo _)
  subst e
  congr 1
  refine PH a2 b2 fun x=>⟨fun hx=>?_,fun hx=>?_⟩
  ·rcases List.mem_cons.mp ((h x).mp (DZ _ hx)) with z | z
   ·exact absurd (z▸a1 x hx) (Mo _)
   ·exact z
  ·rcases List.mem_cons.mp ((h x).mpr (DZ _ hx)) with z | z
   ·exact absurd (z▸b1 x hx) (Mo _)
   ·exact z
theorem Qb:∀{as bs:List Str},as.Nodup->(∀x∈as,x∈bs)->as.length<=bs.length
 | [],_,_,_=>CH _
 | a::as,bs,nd,h=>by
  obtain⟨h1,h2⟩:=List.nodup_cons.mp nd;have ha:=h a DC;have q:=Qb (bs:=bs.erase a) h2 fun x hx=>(Sl (fun e:x=a=>h1 (by rw[<- e];exact hx))).mpr (h x (DZ _ hx));have e:=ZY ha;have p:=lT ha;simp only[BH];omega
theorem ko:∀{as bs:List Str},as.Nodup->(∀x∈as,x∈bs)->bs.length=as.length->bs.Nodup
 | [],bs,_,_,hl=>by
  have e:bs=[]:=List.length_eq_zero_iff.mp (by simpa using hl)
  rw[e];exact P0
 | a::as,bs,nd,h,hl=>by
  obtain⟨h1,h2⟩:=List.nodup_cons.mp nd;have ha:=h a DC;have Dz:bs.length=as.length+1:=by simpa using hl
  have sub:∀x∈as,x∈bs.erase a:=fun x hx=>(Sl (fun e:x=a=>h1 (by rw[<- e];exact hx))).mpr (h x (DZ _ hx));have e:=ZY ha;have q:=ko (bs:=bs.erase a) h2 sub (by omega);have p:=List.perm_cons_erase ha;rw[p.nodup_iff,Zc];refine⟨fun hm=>?_,q⟩;have r:=Qb (as:=a::as) (bs:=bs.erase a) nd fun x hx=>by
   rcases List.mem_cons.mp hx with rfl | hx
   ·exact hm
   ·exact sub x hx
  simp only[BH] at r;omega
theorem ZDb {k:Str}:k∈Er acc x↔k∈acc∨k=x:=by
 unfold Er
 by_cases h:acc.any (· == x)=true
 ·rw[pR h];refine⟨.inl,fun q=>q.elim id fun e=>?_⟩;obtain⟨y,hy,e2⟩:=List.any_eq_true.mp h;have:y=x:=by simpa using e2
  rw[e,<- this];exact hy
 ·rw[nr h];simp
theorem YS:∀(l acc:List Str),acc.Nodup->(l.foldl Er acc).Nodup/\∀k,k∈l.foldl Er acc↔k∈acc∨k∈l
 | [],acc,h=>⟨h,fun k=>by simp⟩
 | x::r,acc,h=>by
  have hn:(Er acc x).Nodup:=by
   unfold Er
   by_cases c:acc.any (· == x)=true
   ·rw[pR c];exact h
   ·rw[nr c];exact PN h fun hm=>c (List.any_eq_true.mpr ⟨x,hm,by simp⟩)
  obtain⟨h1,h2⟩:=YS r (Er acc x) hn;refine⟨h1,fun k=>?_⟩;rw[ZU,h2 k,ZDb,DN,or_assoc]
theorem u6 (ss:List Str):(dd ss).Nodup:=(YS ss [] P0).1
theorem mr (ss:List Str)(k:Str):k∈dd ss↔k∈ss:=by
 have q:=(YS ss [] P0).2 k;refine(show(k∈dd ss↔_) from q).trans ⟨fun z=>z.elim (fun y=>absurd y (by simp)) id,.inr⟩
theorem az (l:List Str)(k:Str):l.any (· == k)=true↔k∈l:=by
 rw[ZFy];exact⟨fun⟨y,hy,e⟩=>by
   have:y=k:=by simpa using e
   rw[<- this];exact hy,fun h=>⟨k,h,by simp⟩⟩
theorem gL {ts:List Str}(hl:ts.length=(dd ss).length)(hm:∀k,(dd ss).any (· == k)=true↔k∈ts)(hs:sortedS ts=true):(ss=ts)↔Up ss:=by
 have nd:ts.Nodup:=ko (u6 ss) (fun x hx=>(hm x).mp ((az _ _).mpr hx)) hl;have ut:=Ut hs nd;constructor
 ·rintro rfl;exact ut
 ·intro us;exact PH us ut fun x=>by rw[<- hm x,az,mr]
theorem ZBR:∀(as bs:List Str),E2 (as.map V.str) (bs.map V.str)=decide (as=bs):=by
 intro as bs
 by_cases hl:as.length=bs.length
 ·rw[K6 (by simpa using hl),Me,Gv,decide_eq_true_iff]
  constructor
  ·intro h;refine lK hl fun i h1 h2=>?_;have q:=h i (by simpa using h1)
   have e1:(as.map V.str)[i]?=some (.str as[i]):=by rw[Az,B9 h1];rfl
   have e2:(bs.map V.str)[i]?=some (.str bs[i]):=by rw[Az,B9 h2];rfl
   rw[JQ e1,JQ e2] at q;have q':(as[i] == bs[i])=true:=q
   simpa using q'
  ·rintro rfl i hi;have h1:i<as.length:=by simpa using hi
   have e1:(as.map V.str)[i]?=some (.str as[i]):=by rw[Az,B9 h1];rfl
   rw[JQ e1];show(as[i] == as[i])=true;simp
 ·rw[Ky (by simpa using hl),qQ]
  rintro rfl;exact hl rfl
def Cp:List Str:=["none","ahead","all"]
def JC (ss:List Str):Bool:=decide (Up ss)
def J0 (ns ss:List Str):Bool:=ss.all fun x=>decide (x∈ns)
def K8 (n:Nat)(g:Int):Bool:=decide (0<=g) && decide (g<=(n:Int))
def FI (ns:List Str)(r:Str)(g:Int)(ss:List Str):Bool:=decide (r∈Cp) && (K8 ns.length g && (JC ss && J0 ns ss))
def ib (K:ZHP):Sp:=fun vs H Q _=>∃(a:Addr) (tp:Bool) (ns:List Str) (g:Int),vs=[.ref a,.int g]/\CA K tp H a (ns.map V.str)/\Q (.bl (K8 ns.length g)) H
def kZ (K:ZHP):Sp:=fun vs H Q _=>∃(a:Addr) (tp:Bool) (ns:List Str) (c:Addr) (ss:List Str),vs=[.ref a,.ref c]/\CA K tp H a (ns.map V.str)/\AA K H c (ss.map V.str)/\ss.length<64/\∀H',A8 H H'->Q (.bl (JC ss && J0 ns ss)) H'
def LoopAt (K:ZHP)(H:Hp)(t:Addr)(r:Str)(g:Int)(ss:List Str):Prop:=∃c,AA K H t [.str r,.int g,.ref c]/\AA K H c (ss.map V.str)
theorem LoopAt.same {K:ZHP}(s:A8 H H')(h:LoopAt K H t r g ss):LoopAt K H' t r g ss:=by
 obtain⟨c,h1,h2⟩:=h;exact⟨c,s.JZ h1,s.JZ h2⟩
def jG (K:ZHP):Sp:=fun vs H Q _=>∃(a:Addr) (tp:Bool) (ns:List Str) (t:Addr) (r:Str) (g:Int) (ss:List Str),vs=[.ref a,.ref t]/\CA K tp H a (ns.map V.str)/\LoopAt K H t r g ss/\ss.length<64/\∀H',A8 H H'->Q (.bl (FI ns r g ss)) H'
theorem ZDE (ns ss:List Str):((ss.map V.str).filter fun _=>true).map (fun v=>V.bl (D6 v (ns.map V.str)))=(ss.map fun x=>decide (x∈ns)).map V.bl:=by
 rw[bZ,Fs,Fs];refine ZZ fun x _=>?_;show V.bl _=V.bl _;rw[J6]
theorem iK (h0:0<=j)(h1:j<3):∃r,Bf (Cp.map V.str) j=some (.str r)/\r∈Cp:=by
 obtain⟨x,a,b,_⟩:=ON (ns:=Cp) h0 h1;exact⟨x,a,b⟩
def Hw (ss:List Str)(x:Str):Bool:=decide (x∈ss)
def DJ (ns:List Str)(g:Nat)(ss:List Str):List Str:=(ns.drop g).filter (Hw ss)++(ns.take g).filter (Hw ss)
theorem ZFO (ns:List Str)(g:Nat)(ss:List Str):(ns.drop g++ns.take g).filter (Hw ss)=DJ ns g ss:=Mi ..
theorem Nq {g:Nat}:x∈DJ ns g ss↔x∈ns/\x∈ss:=by
 unfold DJ;rw[Gx,Sm,Sm];have e:(x∈ns)↔(x∈ns.take g∨x∈ns.drop g):=by
  rw[<- Gx,Gy]
 unfold Hw;simp only[decide_eq_true_eq];rw[e];constructor
 ·rintro(⟨a,b⟩|⟨a,b⟩)
  ·exact⟨.inr a,b⟩
  ·exact⟨.inl a,b⟩
 ·rintro⟨a | a,b⟩
  ·exact .inr ⟨a,b⟩
  ·exact .inl ⟨a,b⟩
theorem ax (ns ss:List Str):((ns.map V.str).filter (fun v=>D6 v (ss.map V.str))).map (fun v=>v)=(ns.filter (Hw ss)).map V.str:=by
 rw[lW,lN]
 congr 1
 apply ZG3;intro y _;show D6 (.str y) (ss.map V.str)=Hw ss y;rw[J6];rfl
def IL (H:Hp)(t:Addr)(r:Str)(g:Int)(ss:List Str):Prop:=∃c,H t=some (.tup [.str r,.int g,.ref c])/\H c=some (.tup (ss.map V.str))
theorem IL.at {K:ZHP}(h:IL H t r g ss):LoopAt K H t r g ss:=by
 obtain⟨c,a,b⟩:=h;exact⟨c,AA.of a,AA.of b⟩
theorem IL.same (s:A8 H H')(h:IL H t r g ss):IL H' t r g ss:=by
 obtain⟨c,a,b⟩:=h;exact⟨c,s _ _ a,s _ _ b⟩
structure Ce (ns:List Str) (r:Str) (g:Int) (ss:List Str):Prop where
 rule:r∈Cp
 g0:0<=g
 g1:g<=(ns.length:Int)
 up:Up ss
 sub:∀x∈ss,x∈ns
theorem Ce.FI (h:Ce ns r g ss):FI ns r g ss=true:=by
 unfold Lw.FI K8 JC J0;rw[nV h.rule,nV h.g0,nV h.g1,nV h.up,Mf,Mf,Mf,Mf,Gv];intro x hx;exact nV (h.sub x hx)
theorem TK (x:Str)(h:Up ss):Up (wo ss x):=h.filter _
theorem p9 (nd:ss.Nodup)(h:x∈ss):(wo ss x).length+1=ss.length:=by
 have e:=Qy h;have h1:=b8 h;have h2:=gf h nd;have:wo ss x=ss.take (ss.idxOf x)++ss.drop (ss.idxOf x+1):=by
  conv=>lhs;rw[e]
  rw[cq,c7,LU h1,LU h2]
 rw[this]
 conv=>rhs;rw[e]
 simp only[BL,BH];omega
theorem Ce.step (h:Ce ns r g ss)(hx:x∈ns):Ce ns r ((ns.idxOf x:Nat)+1) (wo ss x):=by
 have hj:ns.idxOf x<ns.length:=List.idxOf_lt_length_iff.mpr hx;exact⟨h.rule,by omega,by omega,TK x h.up,fun y hy=>h.sub y (Iv.mp hy).1⟩
def c8 (K:ZHP):Sp:=fun vs H Q _=>∃(a:Addr) (tp:Bool) (ns:List Str) (t:Addr) (r:Str) (g:Int) (ss:List Str),vs=[.ref a,.ref t]/\CA K tp H a (ns.map V.str)/\LoopAt K H t r g ss/\ns.length<=1000/\J1 H Q (ns.filter (Hw ss))
def fR (K:ZHP):Sp:=fun vs H Q _=>∃(a:Addr) (tp:Bool) (ns:List Str) (t:Addr) (r:Str) (g:Int) (ss:List Str),vs=[.ref a,.ref t]/\CA K tp H a (ns.map V.str)/\LoopAt K H t r g ss/\ss.length<64/\FI ns r g ss=true/\∀H',A8 H H'->Q .AF H'
def du (K:ZHP):Sp:=fun vs H Q _=>∃(a:Addr) (tp:Bool) (ns:List Str) (t:Addr) (r:Str) (g:Nat) (ss:List Str),vs=[.ref a,.ref t]/\H a=some (BF tp (ns.map V.str))/\LoopAt K H t r g ss/\ss.length<64/\FI ns r g ss=true/\ns.length<=1000/\J1 H Q (DJ ns g ss)
def UN (K:ZHP):Sp:=fun vs H Q _=>∃(c:Addr) (ss:List Str) (x:Str),vs=[.ref c,.str x]/\AA K H c (ss.map V.str)/\ss.length<=1000/\∀l H',H l=none->A8 H H'->H' l=some (.tup ((wo ss x).map V.str))->Q (.ref l) H'
def IY (ns:List Str)(g:Nat)(ss:List Str):Option Str:=(DJ ns g ss).head?
def LV (ns:List Str)(g:Nat)(ss:List Str):Nat:=match IY ns g ss with
 | none=>g
 | some x=>ns.idxOf x+1
def Ko (ns:List Str)(g:Nat)(ss:List Str):List Str:=match IY ns g ss with
 | none=>ss
 | some x=>wo ss x
theorem rF {g:Nat}(h:Ce ns r g ss):Ce ns r (LV ns g ss:Nat) (Ko ns g ss)/\(Ko ns g ss).length<=ss.length - 1:=by
 unfold LV Ko;cases e:IY ns g ss with
 | none=>
  refine⟨h,?_⟩;have er:DJ ns g ss=[]:=List.head?_eq_none_iff.mp e;have:ss=[]:=by
   cases hs:ss with
   | nil=>rfl
   | cons x q=>
    have hx:x∈ss:=by rw[hs];exact DC
    have:x∈DJ ns g ss:=Nq.mpr ⟨h.sub x hx,hx⟩;rw[er] at this;simp at this
  show ss.length<=ss.length - 1;rw[this];exact Ao _
 | some x=>
  have hx:x∈DJ ns g ss:=ZGF e;obtain⟨h1,h2⟩:=Nq.mp hx;have:=p9 (O9 h.up) h2;exact⟨h.step h1,by show(wo ss x).length<=_;omega⟩
theorem NM:Bf ((x::EV).map V.str) 0=some (.str x):=Oe (by decide) rfl
structure Ent where
 a:Addr
 ns:List Str
 t:Addr
 r:Str
 g:Nat
 ss:List Str
end Lw
namespace L2
section
variable {X:Cx}
def ZCx (K:ZHP):R2:=fun x y H Q=>∃a b xs ys,x=.ref a/\y=.ref b/\AA K H a xs/\AA K H b ys/\ys≠[]/\xs.length+ys.length<=sizeLine/\∀p H',A8 H H'->AA K H' p (xs++ys)->Q (.ref p) H'
theorem Zv:BD X (binaryOp .Add) (ZCx X.K):=by
 intro pins s σ H x y v u Q I rx ry h;obtain⟨a,b,xs,ys,rfl,rfl,ha,hb,hy,hz,q⟩:=h
 by_cases hx:xs=[]
 ·subst hx;cases rx;cases ry;obtain⟨A4,r1,p1,_⟩:=I.tuple ha;obtain⟨Be,r2,p2,_⟩:=I.tuple hb;obtain⟨⟨cls,dd,data,sl⟩,ho,hc,n,hd⟩:=id p1;obtain⟨⟨rM,Pe,data2,R5⟩,FZ,L3,n2,hd2⟩:=id p2;simp only at hc hd L3 hd2;subst hc hd L3 hd2;have e:A4=[]:=r1.PB.mpr rfl;exact concat_meets ⟨_,ho,rfl⟩ ⟨_,FZ,rfl⟩ ZAa seq_tuple_add ly lu (lr _ _)
   (tuple_addW0 a b A4.toArray Be.toArray n n2 dd Pe sl R5 (by simp[e])) ⟨ho,FZ,⟨.ref b,H,I,rfl,q b H (A8.refl _) hb⟩⟩
 ·exact xH pins s σ H _ _ _ _ Q I rx ry ⟨a,b,xs,ys,rfl,rfl,ha,hb,hx,hz,fun e=>absurd e hy,fun _ p hp=>q p _ (Ab hp _) (AA.of AH)⟩
end
end L2
namespace Lw
open L2
variable {ns rs ss:List Str}{r x:Str}{g i:Nat}{d:AR}
def Ey (i g:Nat):Nat:=if i<g then g+1 else g
def EZ (p g:Nat):Nat:=if p<g then g - 1 else g
def AR.gap (ns:List Str)(g:Nat):AR->Nat
 | .put _ i=>Ey i g
 | .take x=>EZ (ns.idxOf x) g
 | .move x i=>Ey i (EZ (ns.idxOf x) g)
 | .turn _ _=>g
def Ee:List Str->Str->List Str
 | [],x=>[x]
 | y::r,x=>if HY x y then x::y::r else y::Ee r x
def DP (r:Str)(g i:Nat):Bool:=if decide (V.str r=V.str "all")=true then true else if decide (V.str r=V.str "ahead")=true then decide ((g:Int)<=(i:Int)) else false
def AR.FO (r:Str)(g:Nat)(ss:List Str):AR->List Str
 | .put x i=>if DP r g i=true then Ee ss x else ss
 | .take x=>wo ss x
 | .move _ _=>ss
 | .turn _ _=>ss
theorem OG {x k:Str}:∀{ss:List Str},k∈Ee ss x↔k=x∨k∈ss
 | []=>by simp[Ee]
 | y::r=>by
  unfold Ee;split
  ·simp
  ·rw[DN,OG (ss:=r),DN];constructor
   ·rintro(h | h | h)
    ·exact .inr (.inl h)
    ·exact .inl h
    ·exact .inr (.inr h)
   ·rintro(h | h | h)
    ·exact .inr (.inl h)
    ·exact .inl h
    ·exact .inr (.inr h)
theorem cK {x:Str}:∀{ss:List Str},(Ee ss x).length=ss.length+1
 | []=>rfl
 | y::r=>by
  unfold Ee;split
  ·rfl
  ·rw[BH,cK (ss:=r)];rfl
theorem SD {x:Str}:∀{ss:List Str},Up ss->x∉ss->Up (Ee ss x)
 | [],_,_=>List.pairwise_singleton _ _
 | y::r,h,hx=>by
  obtain⟨h1,h2⟩:=List.pairwise_cons.mp h;unfold Ee;split
  ·next c=>exact List.pairwise_cons.mpr ⟨fun k hk=>(List.mem_cons.mp hk).elim (fun e=>by rw[e];exact c) fun hk=>R9 c (h1 k hk),h⟩
  ·next c=>
   refine List.pairwise_cons.mpr ⟨fun k hk=>?_,SD h2 fun hm=>hx (DZ _ hm)⟩;rcases OG.mp hk with rfl | hk
   ·rcases RT k y with z | z | z
    ·exact absurd z c
    ·exact absurd (by rw[z];exact DC) hx
    ·exact z
   ·exact h1 k hk
theorem V8 {ts:List Str}(hp:ts.Perm (ss++[x]))(hs:sortedS ts=true)(h:Up ss)(hx:x∉ss):ts=Ee ss x:=by
 have nd:ts.Nodup:=hp.nodup_iff.mpr (PN (O9 h) hx);refine PH (Ut hs nd) (SD h hx) fun k=>?_;rw[hp.mem_iff,OG,Gx,List.mem_singleton];exact or_comm
theorem Ce.len {g:Int}(h:Ce ns r g ss):ss.length<=ns.length:=Qb (O9 h.up) h.sub
theorem Ce.led (h:Ce ns r g ss)(ok:d.Ok 40 ns)(nd:ns.Nodup):Ce (d.done ns) r (d.gap ns g:Nat) (d.FO r g ss):=by
 have g1:=h.g1;cases d with
 | put x i=>
  obtain⟨h1,h2,h3,h4⟩:=ok;refine⟨h.rule,by omega,?_,?_,?_⟩
  ·show((Ey i g:Nat):Int)<=((ins ns x i).length:Int);rw[Qr];unfold Ey;split <;> omega
  ·show Up (if DP r g i=true then Ee ss x else ss)
   split
   ·exact SD h.up fun hm=>h2 (h.sub x hm)
   ·exact h.up
  ·intro k hk;show k∈ins ns x i;rw[RI];have N5:k∈(if DP r g i=true then Ee ss x else ss):=hk
   split at N5
   ·rcases OG.mp N5 with z | z
    ·exact .inl z
    ·exact .inr (h.sub k z)
   ·exact .inr (h.sub k N5)
 | take x=>
  have hx:x∈ns:=ok;have hl:=OO hx nd;have hj:ns.idxOf x<ns.length:=List.idxOf_lt_length_iff.mpr hx;refine⟨h.rule,by omega,?_,TK x h.up,fun k hk=>?_⟩
  ·show((EZ (ns.idxOf x) g:Nat):Int)<=((wo ns x).length:Int);unfold EZ;split <;> omega
  ·obtain⟨a,b⟩:=Iv.mp (show k∈wo ss x from hk);exact Iv.mpr ⟨h.sub k a,b⟩
 | move x i=>
  obtain⟨hx,hi⟩:=ok;have hl:=OO hx nd;have hj:ns.idxOf x<ns.length:=List.idxOf_lt_length_iff.mpr hx;refine⟨h.rule,by omega,?_,h.up,fun k hk=>?_⟩
  ·show((Ey i (EZ (ns.idxOf x) g):Nat):Int)<=((ins (wo ns x) x i).length:Int);rw[Qr];unfold Ey EZ;split <;> split <;> omega
  ·show k∈ins (wo ns x) x i;rw[RI,Iv]
   by_cases e:k=x
   ·exact .inl e
   ·exact .inr ⟨h.sub k hk,e⟩
 | turn lo hi=>
  obtain⟨h1,h2⟩:=ok;refine⟨h.rule,by omega,?_,h.up,fun k hk=>(bT h1).mpr (h.sub k hk)⟩;show((g:Nat):Int)<=((FG ns lo hi).length:Int);rw[bA h1 h2];exact g1
def iS:Sp:=fun vs H Q _=>∃(g i:Nat),vs=[.int g,.int i]/\Q (.int (Ey i g:Nat)) H
def bu:Sp:=fun vs H Q _=>∃(g p:Nat),vs=[.int g,.int p]/\Q (.int (EZ p g:Nat)) H
def fP:Sp:=fun vs H Q _=>∃(a t:Addr) (ns:List Str) (g:Nat) (d:AR),vs=[.ref a,.int g,.ref t]/\H a=some (.lst (ns.map V.str))/\H t=some (.tup d.vals)/\d.Ok 40 ns/\∀H',A8 H H'->Q (.int (d.gap ns g:Nat)) H'
def kB:Sp:=fun vs H Q _=>∃(t:Addr) (r:Str) (g i:Nat) (c:Addr),vs=[.ref t,.int i]/\H t=some (.tup [.str r,.int g,.ref c])/\Q (.bl (DP r g i)) H
theorem W3 {g:Int}(h:Ce ns r g ss)(ok:d.Ok 40 ns):∀x i,d=.put x i->x∉ss:=by
 rintro x i rfl hm;exact ok.2.1 (h.sub x hm)
theorem zA (p g:Nat):((g:Int) - (if decide ((p:Int)<(g:Int))=true then 1 else 0))=((EZ p g:Nat):Int):=by
 unfold EZ
 by_cases h:p<g
 ·rw[pR h,pR (nV (by omega))];omega
 ·rw[nr h,nr (by simp;omega)];omega
theorem wI (i g:Nat):((g:Int)+(if decide ((i:Int)<(g:Int))=true then 1 else 0))=((Ey i g:Nat):Int):=by
 unfold Ey
 by_cases h:i<g
 ·rw[pR h,pR (nV (by omega))];omega
 ·rw[nr h,nr (by simp;omega)];omega
def AR.kind:AR->Str
 | .put _ _ => "put"
 | .take _ => "take"
 | .move _ _ => "move"
 | .turn _ _ => "turn"
theorem Gj (d:AR):Bf d.vals 0=some (.str d.kind):=by cases d <;> rfl
def AR.Nj (ns:List Str)(g:Nat):AR->Nat
 | .take x=>EZ (ns.idxOf x) g
 | .move x _=>EZ (ns.idxOf x) g
 | _=>g
theorem me (g:Nat)(ok:d.Ok 40 ns)(h:D6 (.str d.kind) [.str "take", .str "move"]=true):∃x,Bf d.vals 1=some (.str x)/\x∈ns/\d.Nj ns g=EZ (ns.idxOf x) g:=by
 cases d with
 | put x i=>(simp only[AR.kind] at h;exact absurd h (by decide +kernel))
 | take x=>exact⟨x,rfl,ok,rfl⟩
 | move x i=>exact⟨x,rfl,ok.1,rfl⟩
 | turn lo hi=>(simp only[AR.kind] at h;exact absurd h (by decide +kernel))
theorem xD (g:Nat)(h:¬ D6 (.str d.kind) [.str "take", .str "move"]=true):d.Nj ns g=g:=by
 cases d with
 | put x i=>rfl
 | take x=>exact absurd (by simp only[AR.kind];decide +kernel) h
 | move x i=>exact absurd (by simp only[AR.kind];decide +kernel) h
 | turn lo hi=>rfl
theorem zX (g:Nat)(h:D6 (.str d.kind) [.str "put", .str "move"]=true):∃i:Nat,Bf d.vals 2=some (.int i)/\d.gap ns g=Ey i (d.Nj ns g):=by
 cases d with
 | put x i=>exact⟨i,rfl,rfl⟩
 | take x=>(simp only[AR.kind] at h;exact absurd h (by decide +kernel))
 | move x i=>exact⟨i,rfl,rfl⟩
 | turn lo hi=>(simp only[AR.kind] at h;exact absurd h (by decide +kernel))
theorem xW (g:Nat)(h:¬ D6 (.str d.kind) [.str "put", .str "move"]=true):d.gap ns g=d.Nj ns g:=by
 cases d with
 | put x i=>exact absurd (by simp only[AR.kind];decide +kernel) h
 | take x=>rfl
 | move x i=>exact absurd (by simp only[AR.kind];decide +kernel) h
 | turn lo hi=>rfl
def AR.Rf (ss:List Str):AR->List Str
 | .take x=>wo ss x
 | _=>ss
theorem nX {r:Str}{g:Nat}(h:decide (V.str d.kind=V.str "take")=true):∃x,Bf d.vals 1=some (.str x)/\d.Rf ss=wo ss x:=by
 cases d with
 | take x=>exact⟨x,rfl,rfl⟩
 | _=>
  have h':=qH h;injection h' with h2
  exact absurd h2 (by simp only[AR.kind];decide +kernel)
theorem gu (h:¬ decide (V.str d.kind=V.str "take")=true):d.Rf ss=ss:=by
 cases d with
 | take x=>exact absurd (by simp only[AR.kind];decide +kernel) h
 | _=>rfl
theorem Z3 (h:decide (V.str d.kind=V.str "put")=true):∃x i,d=.put x i:=by
 cases d with
 | put x i=>exact⟨x,i,rfl⟩
 | _=>
  have h':=qH h;injection h' with h2
  exact absurd h2 (by simp only[AR.kind];decide +kernel)
theorem jL (h:¬ decide (V.str d.kind=V.str "put")=true):d.FO r g ss=d.Rf ss:=by
 cases d with
 | put x i=>exact absurd (by simp only[AR.kind];decide +kernel) h
 | _=>rfl
theorem Xg (h:DP r g i=true):AR.FO r g ss (.put x i)=Ee ss x:=by show(if _ then _ else _)=_;rw[pR h]
theorem VP (h:DP r g i=false):AR.FO r g ss (.put x i)=ss:=by show(if _ then _ else _)=_;rw[nr (by rw[h];decide)]
theorem Vc (h:decide (V.str d.kind=V.str "take")=true):∃x,d=.take x:=by
 cases d with
 | take x=>exact⟨x,rfl⟩
 | _=>
  have h':=qH h;injection h' with h2
  exact absurd h2 (by simp only[AR.kind];decide +kernel)
theorem uh (h:decide (V.str d.kind=V.str "move")=true):∃x i,d=.move x i:=by
 cases d with
 | move x i=>exact⟨x,i,rfl⟩
 | _=>
  have h':=qH h;injection h' with h2
  exact absurd h2 (by simp only[AR.kind];decide +kernel)
theorem pF (h1:¬ decide (V.str d.kind=V.str "put")=true)(h2:¬ decide (V.str d.kind=V.str "take")=true)(h3:¬ decide (V.str d.kind=V.str "move")=true):∃lo hi,d=.turn lo hi:=by
 cases d with
 | put x i=>exact absurd (by simp only[AR.kind];decide +kernel) h1
 | take x=>exact absurd (by simp only[AR.kind];decide +kernel) h2
 | move x i=>exact absurd (by simp only[AR.kind];decide +kernel) h3
 | turn lo hi=>exact⟨lo,hi,rfl⟩
theorem ZFX (h1:¬ decide (V.str d.kind=V.str "put")=true)(h2:¬ decide (V.str d.kind=V.str "take")=true):d.FO r g ss=ss:=by
 rw[jL h1,gu h2]
def AR.v1:AR->V
 | .put x _=>.str x
 | .take x=>.str x
 | .move x _=>.str x
 | .turn lo _=>.int lo
theorem jK (d:AR):Bf d.vals 1=some d.v1:=by cases d <;> rfl
theorem ZFJ (y:Str)(d:AR):SG (.str y) d.v1=true:=by cases d <;> rfl
def AR.made (ns:List Str):AR->List Str
 | .put x _=>wo ns x
 | .take x=>wo ns x
 | .move x _=>wo ns x
 | .turn _ _=>ns
theorem o6 (ns:List Str)(d:AR):((ns.map V.str).filter (He d.v1)).map (fun v=>v)=(d.made ns).map V.str:=by
 cases d with
 | turn lo hi=>exact nv ns lo
 | _=>exact Na ns _
theorem oB (ns:List Str)(d:AR):(d.made ns).length<=ns.length:=by
 cases d with
 | turn lo hi=>exact Ao _
 | _=>exact Fq _ _
theorem ZAg (h:decide (V.str d.kind=V.str "turn")=true):∃lo hi,d=.turn lo hi:=by
 cases d with
 | turn lo hi=>exact⟨lo,hi,rfl⟩
 | _=>
  have h':=qH h;injection h' with h2
  exact absurd h2 (by simp only[AR.kind];decide +kernel)
theorem ZC0 (h:¬ (!decide (V.str d.kind=V.str "take"))=true):d.done ns=d.made ns:=by
 have h':decide (V.str d.kind=V.str "take")=true:=by simpa using h
 obtain⟨x,rfl⟩:=Vc h';rfl
theorem ZBT (ok:d.Ok 40 ns)(nd:ns.Nodup)(h1:¬ decide (V.str d.kind=V.str "turn")=true)(h2:(!decide (V.str d.kind=V.str "take"))=true):
  ∃(x:Str) (i:Nat),Bf d.vals 2=some (.int i)/\d.v1=.str x/\i<=(d.made ns).length/\d.done ns=ins (d.made ns) x i:=by
 cases d with
 | put x i=>
  refine⟨x,i,rfl,rfl,?_,?_⟩
  ·show i<=(wo ns x).length;rw[LU ok.2.1];exact ok.2.2.1
  ·show ins ns x i=ins (wo ns x) x i;rw[LU ok.2.1]
 | take x=>exact absurd h2 (by simp only[AR.kind];decide +kernel)
 | move x i=>
  refine⟨x,i,rfl,rfl,?_,rfl⟩;show i<=(wo ns x).length;have:=OO ok.1 nd;have:=ok.2;omega
 | turn lo hi=>exact absurd (by simp only[AR.kind];decide +kernel) h1
def Pw:Sp:=fun vs H Q _=>∃r:Str,vs=[.str r]/\r∈Cp/\Q .AF H
theorem LO (nd:rs.Nodup)(h:rs[g]?=some x):rs.idxOf x=g:=by
 obtain⟨hg,e⟩:=List.getElem?_eq_some_iff.mp h;have hx:x∈rs:=DD h;have hj:rs.idxOf x<rs.length:=List.idxOf_lt_length_iff.mpr hx;have e2:rs[rs.idxOf x]=x:=ZW hj;have pw:=List.pairwise_iff_getElem.mp nd;rcases ZGL (rs.idxOf x) g with c | c | c
 ·exact absurd (e2.trans e.symm) (pw _ _ hj hg c)
 ·exact c
 ·exact absurd (e.trans e2.symm) (pw _ _ hg hj c)
end Lw
namespace L2
section
variable {X:Cx}{pins:ZHQ}{σ:St}{H2:Hp}{s2:Shared}{elt iter:Expr}{x z:Str}{px pz tp pos:Pos}{tk:Nat}{scope:Scope}{Ah:List Str}{js:List Nat}{te:TE}{J:It}{fp:List Addr}{it:Addr}
 {tn:Nat->Heap->Prop}
end
end L2
namespace Fz
open L2 Lw
variable {E:Ent0}{ss:List Slot}{σ:L2.St}{F F' H H':Hp}{js:List Nat}{ta tb te:TE}{nx:List Slot->Prop}{R:B0}{i j:Nat}{ns:List Int}{wi:TI}{α β:Type}{xs:List PV}
section
variable [Xw]
variable {K:ZHP}{k:PV->Prop}
theorem Sg.RW (S:Sg E ss σ F H){p:Addr}(hi:ss[i]?=some .AD)(e:σ[i]?=some (some (.ref p)))(s:BK p H H'):Mv E ss σ F H F H':=by
 obtain⟨p',e',fp,_,pp⟩:=S.ok i _ hi;rw[e] at e';cases e';refine S.step (A8.refl _) (fun a o q=>s.same a o (EU q fp) (S.fh a o q)) (fun a o n q=>s.same a o (fun z=>?_) q) (fun a o q=>.inl q) fun j l hj ej=>?_
 ·rw[z] at n;exact n i hi e
 ·by_cases z:l=p
  ·rw[z];exact s.AD
  ·exact BY.keep (S.E7 hj ej) fun o q=>s.same l o z q
theorem ZAb (hi:ss[i]?=some .AD)(h:Wp ss te fun x=>∃m,x=.int m/\0<m/\m<10 ^ 18/\∀r:Int,0<=r->r<m->k (.int r)):Wp ss (CD IH [] E0 (AY (BQ i) (AY te B8))) k:=⟨fun E σ F H Q S q=>by
 obtain⟨p,e,_⟩:=S.ok i _ hi;refine⟨_,e,h.go E σ F H _ S fun v x F1 H1 m1 r ⟨m,em,m0,Ny,kk⟩=>?_⟩;subst em;cases r.inv;exact⟨p,m,rfl,m1.st.E7 hi e,m0,Ny,fun r H2 r0 r1 s=>q _ _ F1 H2 (m1.trans (m1.st.RW hi e s)) (.int r) (kk r r0 r1)⟩⟩
theorem cb {sp:Sp}{k:List PV->Prop}(Fj:sp=ZN)(hi:ss[i]?=some .AD)(h:Wp ss te fun x=>∃m,x=.int m/\1<=m/\m<=100/\∀ns:List Str,(ns.length:Int)<=m->(∀x∈ns,Nm x)->ns.Nodup->k (ns.map PV.str)):Wn ss (CD sp [] E0 (AY (BQ i) (AY te B8))) k:=⟨fun E σ F H Q S q=>by
 subst Fj;obtain⟨p,e,_⟩:=S.ok i _ hi;refine⟨_,e,h.go E σ F H _ S fun v x F1 H1 m1 r ⟨m,em,m0,Ny,kk⟩=>?_⟩;subst em;cases r.inv;refine⟨p,m,rfl,m1.st.E7 hi e,m0,Ny,fun l H2 ns hl s Co hz hN nd=>?_⟩;have m2:=m1.st.RW hi e s;exact q l _ _ F1 H2 (m1.trans m2) (m1.st.BU hl) (m1.none hl) Co (JW ns) (kk ns hz hN nd)⟩
def Dm (K:ZHP)(ns:List Int):Hp->V->Prop:=fun F v=>∃a,v=.ref a/\AI K F a (ns.map V.int)
theorem Z5 (K:ZHP)(ns:List Int):∀(v:V) (F F':Hp),A8 F F'->Dm K ns F v->Dm K ns F' v:=fun v F F' s AJ=>by obtain⟨a,e,h⟩:=AJ;exact⟨a,e,by
 rcases h with(h | ⟨o,h⟩) | h
 ·exact .inl (.inl (s _ _ h))
 ·exact .inl (.inr ⟨o,s _ _ h⟩)
 ·exact .inr h⟩
theorem ZBs (hi:ss[i]?=some (.raw (Dm K ns)))(h:k (.int ns.length)):Wp ss (Cb (Xo K) (AY (BQ i) B8)) k:=⟨fun E σ F H Q S q=>by
 obtain⟨v,e,⟨a,ev,hq⟩,st⟩:=S.ok i _ hi;subst ev;obtain⟨a',ea,IV⟩:=Z5 K ns _ F H S.fh ⟨a,rfl,hq⟩;cases ea;refine⟨_,e,a,_,rfl,.inl IV,?_⟩;rw[AX];exact q _ _ F H (.refl S) (.int _) h⟩
theorem TH (hi:ss[i]?=some (.raw (Dm K ns)))(h:Wp ss te fun x=>∃m,x=.int m/\0<=m/\m<=1000/\nx (ss.set j .AD)):Ws ss (Fb (CD (W9 K) [] E0 (AY (BQ i) (AY te B8))) (Du j)) nx R:=⟨fun E D σ F H S hn hr=>by
 obtain⟨v,e,⟨a,ev,hq⟩,st⟩:=S.ok i _ hi;subst ev;refine⟨_,e,h.go E σ F H _ S fun v x F1 H1 m1 r ⟨m,em,m0,Ny,kk⟩=>?_⟩;subst em;cases r.inv;obtain⟨v',e',hq1,_⟩:=m1.st.ok i _ hi;rw[e] at e';cases e';obtain⟨a',ea,IV⟩:=Z5 K ns _ F1 H1 m1.st.fh hq1;cases ea;refine⟨a,ns,m,rfl,IV,m0,Ny,fun p H2 hp s pp=>?_⟩;have m2:=m1.st.grow s;exact hn _ _ F1 H2 kk (m2.st.setG ⟨p,rfl,m1.st.BU hp,.inl (m1.st.E8 hp),pp⟩ fun l e b u _ hu mu=>by cases e;exact m1.st.Pu hu hp mu) m1.ff⟩
end
section
variable {K:ZHP}
theorem ZDI {N:List Str}{vs:List V}{Q:VK}{X:XK}{t:TS}(h:Ni K vs H Q X)(hw:∀ns:List Int,ns.length<=63->Ws (.raw (Dm K ns)::List.replicate (N.length - 1) .any) t (fun _=>False) (.is fun p=>p=.bl true)):t { nx:=fun _ H'=>Q .AF H',rt:=Q } (L2.start N vs) H:=by
 obtain⟨a,ns,rfl,hS,iB,q⟩:=h;have S:Sg (E3 [] H H) [.raw (Dm K ns)] [some (.ref a)] H H:=by
  have nn:∀{p:Prop}(a:Addr),a∈([]:List Addr)->p:=fun a h=>absurd h B4;refine⟨⟨A8.refl _,A8.refl _,fun _ _ _ e=>e,fun _ _ e=>.inl e,fun a h=>nn a h,fun a h=>nn a h,fun a h=>nn a h,fun a h=>nn a h,fun a h=>nn a h,fun a h=>nn a h⟩,rfl,fun i s hi=>?_,fun i j s u l Bs hi hj ms=>?_⟩
  ·cases i with
   | zero=>cases hi;exact⟨_,rfl,⟨a,rfl,hS⟩,Z5 K ns _⟩
   | succ i=>simp at hi
  ·cases i with
   | zero=>cases hi;cases ms
   | succ i=>simp at hi
 refine(hw ns iB).go (Rm (E3 [] H H)) _ _ H H (S.grown _) (fun _ _ _ _ h=>h.elim) fun v F' H' f ok=>?_;obtain⟨p,r,rfl⟩:=ok;cases r.inv;exact q H'
end
section
variable [Xw]
variable {K:ZHP}{k:PV->Prop}
theorem Wi.mono {k k':List PV->Prop}(h:Wi ss wi k)(i:∀xs,k xs->k' xs):Wi ss wi k':=⟨fun E σ F H R S q=>h.go E σ F H R S fun J xs F' H' m s kk=>q J xs F' H' m s (i xs kk)⟩
theorem Kj {tt:TT}{k:List PV->Prop}(c:α->PV)(f:α->Bool)(g:α->PV)
  (h:Wi ss wi fun xs=>∃ns:List α,xs=ns.map c/\ns.length<=100000/\(∀x∈ns,Wt (Dg js ss++[.is (c x)]) tt fun b=>b=f x)/\(∀x∈ns,f x=true->Wp (Dg js ss++[.is (c x)]) te fun p=>p=g x)/\k ((ns.filter f).map g))
  (inj:∀x y,c x=c y->x=y) (nd:js.Nodup:=by decide) (np:Rb js ss=true:=by rfl):Wn ss (Jk wi js tt te) k:=by
 by_cases hα:Nonempty α
 ·obtain⟨x0⟩:=hα;have inv:∀p:PV,∃x:α,∀y,c y=p->y=x:=fun p=>by
   by_cases q:∃y,c y=p
   ·obtain⟨y,hy⟩:=q;exact⟨y,fun z hz=>inj _ _ (hz.trans hy.symm)⟩
   ·exact⟨x0,fun y hy=>absurd ⟨y,hy⟩ q⟩
  let d:PV->α:=fun p=>Classical.choose (inv p)
  have hd:∀x,d (c x)=x:=fun x=>(Classical.choose_spec (inv (c x)) x rfl).symm;refine aZ (fun p=>f (d p)) (fun p=>g (d p)) (h.mono fun xs ⟨ns,e,hz,h1,h2,kk⟩=>?_) nd np;subst e;refine⟨by rw[AX];exact hz,fun x hx=>?_,fun x hx hf=>?_,?_⟩
  ·obtain⟨y,hy,rfl⟩:=List.mem_map.mp hx;rw[hd];exact h1 y hy
  ·obtain⟨y,hy,rfl⟩:=List.mem_map.mp hx;rw[hd] at hf ⊢;exact h2 y hy hf
  ·have e:((ns.map c).filter fun p=>f (d p)).map (fun p=>g (d p))=(ns.filter f).map g:=by
    rw[lN,Fs]
    congr 1
    ·funext x;show g (d (c x))=g x;rw[hd]
    ·congr 1;funext x;show f (d (c x))=f x;rw[hd]
   rw[e];exact kk
 ·refine aZ (fun _=>true) (fun p=>p) (h.mono fun xs ⟨ns,e,hz,h1,h2,kk⟩=>?_) nd np;have en:ns=[]:=by
   cases ns with
   | nil=>rfl
   | cons x r=>exact absurd ⟨x⟩ hα
  subst en;subst e;exact⟨by simp,fun x hx=>absurd hx (by simp),fun x hx=>absurd hx (by simp),kk⟩
theorem str_inj:∀x y:Str,PV.str x=PV.str y->x=y:=fun _ _ e=>by injection e
theorem fG:∀x y:Nat,PV.int (x:Int)=PV.int (y:Int)->x=y:=fun _ _ e=>by injection e with e;omega
theorem mR (h:Wp ss ta fun p=>∃x,p=.str x/\Wq ss tb fun _ ys=>∃ns:List Str,ys=ns.map PV.str/\k (.bl (decide (x∈ns)))):Wp ss (C5 (Fi K false) ta tb) k:=fS h
theorem ZD7 (h:Wp ss ta fun p=>∃x,p=.str x/\Wq ss tb fun _ ys=>∃ns:List Str,ys=ns.map PV.str/\k (.bl (!decide (x∈ns)))):Wp ss (C5 (Fi K true) ta tb) k:=fS h
theorem iC (h:Wq ss ta fun tp xs=>∃ns:List Str,xs=ns.map PV.str/\Wq ss tb fun BN ys=>BN=tp/\∃ms:List Str,ys=ms.map PV.str/\k (.bl (decide (ns=ms)))):Wp ss (C5 (N2 K false) ta tb) k:=cO h
theorem ZEW (h:Wq ss ta fun tp xs=>∃ns:List Str,xs=ns.map PV.str/\Wq ss tb fun BN ys=>BN=tp/\∃ms:List Str,ys=ms.map PV.str/\k (.bl (!decide (ns=ms)))):Wp ss (C5 (N2 K true) ta tb) k:=cO h
theorem Wq.mono {k k':Bool->List PV->Prop}(h:Wq ss te k)(i:∀b xs,k b xs->k' b xs):Wq ss te k':=⟨fun E σ F H Q S q=>h.go E σ F H Q S fun v tp xs F' H' m s kk=>q v tp xs F' H' m s (i tp xs kk)⟩
theorem Wo.mono {t:TO}{k k':Option Int->Prop}(h:Wo ss t k)(i:∀o,k o->k' o):Wo ss t k':=⟨fun E σ F H Q S q=>h.go E σ F H Q S fun o F' H' m kk=>q o F' H' m (i o kk)⟩
theorem wY {tl th:TO}{k:Bool->List PV->Prop}(h:Wq ss te fun tp xs=>Wo ss tl fun lo=>Wo ss th fun hi=>k tp (Dj xs lo hi)):Wz ss (Ng (VD K) te tl th) k:=
 J5 (W7 (h.mono fun tp xs h=>h.mono fun lo h=>h.mono fun hi h=>by
  cases tp
  ·exact⟨_,.inl ⟨rfl,h⟩⟩
  ·exact⟨_,.inr ⟨rfl,h⟩⟩))
theorem vy (c:α->β)(xs:List α)(lo hi:Option Int):Dj (xs.map c) lo hi=(Dj xs lo hi).map c:=by
 unfold Dj;rw[AX,Mn,Mm]
theorem ZEs (c:α->β)(xs ys:List α):xs.map c++ys.map c=(xs++ys).map c:=by rw[CS]
theorem ZDD (xs:List α)(g:Nat):Dj xs none (some (g:Int))=xs.take g:=by
 unfold Dj;rw[HT.Lj,HT.QP,Si,P5];rcases P2 g xs.length with h | h
 ·rw[Jp h]
 ·rw[P4 h,Hl,P1 h]
theorem zU (xs:List α)(g:Nat):Dj xs (some (g:Int)) none=xs.drop g:=by
 unfold Dj;rw[HT.Lj,HT.QP];rcases P2 g xs.length with h | h
 ·rw[Jp h,P1 (by rw[Cj];omega)]
 ·rw[P4 h,lJ,ZG1 h];simp
theorem bS (xs:List α)(lo hi:Option Int):(Dj xs lo hi).length<=xs.length:=by
 unfold Dj;rw[Bd,Cj];omega
theorem wm (g:α->Bool)(xs:List α):xs.map (fun x=>PV.bl (g x))=(xs.map g).map PV.bl:=by rw[Fs];rfl
theorem VE {ns:List Str}(h:i<ns.length):L2.Bf (ns.map PV.str) (i:Int)=some (.str (ns.getD i "")):=by
 have e:(ns.map PV.str)[i]?=some (.str (ns.getD i "")):=by rw[Az,B9 h,ES,B9 h];rfl
 exact L2.S8 e
variable {ys:List PV}
theorem ZC2 (h:Wq ss ta fun _ xs=>∃ns:List Str,xs=ns.map PV.str/\Wp ss tb fun p=>∃x,p=.str x/\x∈ns/\k (.int (ns.idxOf x:Nat))):Wp ss (CD Jr [] E0 (AY ta (AY tb B8))) k:=⟨fun E σ F H Q S q=>
 h.go E σ F H _ S fun v tp xs F1 H1 m1 sv ⟨ns,e,h2⟩=>h2.go E σ F1 H1 _ m1.st fun v2 p2 F2 H2 m2 r2 ⟨x,e2,hx,kk⟩=>by
  subst e;subst e2;cases r2.inv;obtain⟨l,vs,rfl,hl,r⟩:=(sv.mv m2).seq m2.st;rw[r.strs] at hl;exact⟨l,tp,ns,x,rfl,hl,hx,q _ _ F2 H2 (m1.trans m2) (.int _) kk⟩⟩
def Ik (xs:List PV):List PV:=(List.range xs.length).map fun i:Nat=>.tup [.int (i:Int),xs.getD i .AF]
theorem M0 (xs:List PV):(Ik xs).length=xs.length:=by simp[Ik]
theorem ZC {x:PV}(h:xs[i]?=some x):(Ik xs)[i]?=some (.tup [.int (i:Int),x]):=by
 have hi:i<xs.length:=(List.getElem?_eq_some_iff.mp h).1;unfold Ik;rw[Az,lP hi];show some (PV.tup [PV.int (i:Int),xs.getD i PV.AF])=_;rw[ES,h];rfl
theorem jD {p:PV}(h:(Ik xs)[i]?=some p):∃x,xs[i]?=some x/\p=.tup [.int (i:Int),x]:=by
 have hi:i<xs.length:=by have:=(List.getElem?_eq_some_iff.mp h).1;rwa [M0] at this
 have e:=B9 hi;refine⟨xs[i],e,?_⟩;rw[ZC e] at h;exact(BS h).symm
theorem ZBu {k:List PV->Prop}(h:Wz ss te fun _ xs=>k (Ik xs)):Wi ss (Te K (AY te B8)) k:=⟨fun E σ F H R S q=>
 h.go E σ F H _ S fun v tp xs F1 H1 m1 f kk=>by
  obtain⟨l,vs,ev,hl,r⟩:∃l vs,v=.ref l/\(∀(ss:List Slot) (σ:L2.St) (F H:Hp),A8 F1 F->Sg E ss σ F H->H l=some (BF tp vs))/\AO F1 vs xs:=by
   cases tp with
   | true=>
    have f':Rep F1 v (.tup xs):=f;cases f' with
    | tup e r=>exact⟨_,_,rfl,fun ss σ F H s S=>S.fh _ _ (s _ _ e),r⟩
   | false=>
    obtain⟨l,vs,e,h1,r⟩:=f;refine⟨l,vs,e,fun ss σ F H s S=>?_,r⟩;rcases h1 with h1 | ⟨hA,h1⟩
    ·exact S.fh _ _ (s _ _ h1)
    ·exact S.keep _ _ hA h1
  subst ev;refine⟨l,tp,vs,rfl,BF.sq (hl ss σ F1 H1 (A8.refl _) m1.st),q _ (Ik xs) F1 H1 m1 ⟨fun ss σ F H i s S hi=>?_,fun ss σ F H s S=>?_,fun ss σ F H i x H' s S hi y=>?_⟩ kk⟩
  ·rw[M0] at hi;exact⟨BF.sq (hl ss σ F H s S),by rw[r.length];exact hi⟩
  ·refine⟨BF.sq (hl ss σ F H s S),?_⟩;rw[M0,r.length];exact Ao _
  ·obtain⟨p,y,hy,ex,hp,eH⟩:=y;subst ex;subst eH;obtain⟨z,hz,rz⟩:=r.get' hy;have m:=S.alloc hp (.tup [.int i,y]);exact⟨_,_,ZC hz,m,.tup AH (.cons (.int _) (.one (rz.mono (s.trans m.ff))))⟩⟩
theorem ZFS {y:PV}(hi:ss[i]?=some (.own xs))(hj:ss[j]?=some (.own ys))(Bs:i≠j)(hy:ys[ys.length - 1]?=some y)(h:Wp (ss.set j (.own ys.dropLast)) te fun p=>xs.length<=99999/\nx ((ss.set j (.own ys.dropLast)).set i (.own (xs++[.tup [y,p]])))):
  Ws ss (Ki (NG K "list" Nv (BQ i) (AY (RX (AY (Vb K "list" WO (BQ j)) (AY te B8))) B8))) nx R:=⟨fun E D σ F H S hn hr=>by
 obtain⟨l,vs,e,e1,e2,e3,r⟩:=S.ok i _ hi;obtain⟨l2,ws,f,f1,f2,f3,r2⟩:=S.ok j _ hj;obtain⟨u,hu,ru⟩:=r2.get hy;have yi:AO F ws.dropLast ys.dropLast:=by
  rw[ZFz,ZFz,r2.length];exact r2.take _
 refine⟨_,e,.inl ⟨rfl,_,AI.of e3⟩,_,f,.inl ⟨rfl,_,AI.of f3⟩,l2,ws,u,rfl,rfl,f3,by rw[r2.length];exact hu,?_⟩;have S1:=S.put hj f f1 f2 yi;refine h.go E σ F _ _ S1 fun v p F1 H1 m1 rv ⟨hz,kk⟩=>?_;refine⟨(by show 2<=sizeLine;decide),fun a ha=>?_⟩;have m2:=m1.st.alloc ha (.tup [u,v]);have Lx:(ss.set j (.own ys.dropLast))[i]?=some (.own xs):=by rw[CG (BP Bs)];exact hi
 obtain⟨l',CB,e',Dw,CF,OL,r'⟩:=m2.st.ok i _ Lx;rw[e] at e';cases e';refine⟨l,CB,_,rfl,rfl,OL,LZ (by rw[r'.length];exact hz),?_⟩;have rt:Rep (upd F1 a (.tup [u,v])) (.ref a) (.tup [y,p]):=.tup AH (.cons (ru.mono (m1.ff.trans m2.ff)) (.one (rv.mono m2.ff)));exact hn _ σ _ _ kk (m2.st.put Lx e Dw CF (r'.append (.one rt))) (m1.ff.trans m2.ff)⟩
theorem ph {k:List PV->Prop}(c:α->PV)(g:α->PV)
  (h:Wi ss wi fun xs=>∃ns:List α,xs=ns.map c/\ns.length<=100000/\(∀x∈ns,Wp (Dg js ss++[.is (c x)]) te fun p=>p=g x)/\k (ns.map g))
  (inj:∀x y,c x=c y->x=y) (nd:js.Nodup:=by decide) (np:Rb js ss=true:=by rfl):Wn ss (Jk wi js ML te) k:=
 Kj c (fun _=>true) g (h.mono fun xs AJ=>by obtain⟨ns,e,hz,h1,kk⟩:=AJ;exact⟨ns,e,hz,fun x hx=>WS rfl,fun x hx _=>h1 x hx,by rw[List.filter_eq_self.mpr (fun _ _=>rfl)];exact kk⟩) inj nd np
def U7 (a:Str×Str):PV:=.tup [.str a.1,.str a.2]
theorem r8 {r:List V->Hp->VK->Prop}(hr:r=fun xs H Q=>(∃i,xs=[.int i]/\Q (.int i) H)∨∃k,xs=[.bl k]/\Q (.int (if k then 1 else 0)) H)(h:Wp ss te fun p=>∃b,p=.bl b/\k (.int (if b then 1 else 0))):Wp ss (Cb r (AY te B8)) k:=⟨fun E σ F H Q S q=>
 h.go E σ F H _ S fun v p F1 H1 m1 r AJ=>by
  obtain⟨b,e,kk⟩:=AJ;subst hr;subst e;cases r.inv;exact .inr ⟨b,rfl,q _ _ F1 H1 m1 (.int _) kk⟩⟩
end
theorem OT {c A B:Prop}[Decidable c](h:c)(a:A):if c then A else B:=by rw[pR h];exact a
theorem ZCf {a b:List Str}(p:a.Perm b)(ha:sortedS a=true)(hb:sortedS b=true):a=b:=by
 refine List.Perm.eq_of_pairwise (le:=fun a b=>¬ HY b a) (fun x y _ _ h1 h2=>?_) (Ur ha) (Ur hb) p;rcases RT x y with z | z | z
 ·exact absurd z h2
 ·exact z
 ·exact absurd z h1
end Fz
namespace Fz
open L2 Lw
variable {d:AR}{t:Addr}
section
variable [Xw]
variable {E:Ent0}{ss:List Slot}{σ:L2.St}{F H F' H':Hp}{K:ZHP}{js:List Nat}{ta tb tc te:TE}{k:PV->Prop}{nx:List Slot->Prop}{R:B0}{xs ys:List PV}
def dP:AR->PV
 | .put x i=>.tup [.str "put", .str x,.int i]
 | .take x=>.tup [.str "take", .str x]
 | .move x i=>.tup [.str "move", .str x,.int i]
 | .turn lo hi=>.tup [.str "turn", .int lo,.int hi]
theorem ZA3 (h:F t=some (.tup d.vals)):Rep F (.ref t) (dP d):=by
 cases d with
 | put x i=>exact .tup h (.cons (.str _) (.cons (.str _) (.one (.int _))))
 | take x=>exact .tup h (.cons (.str _) (.one (.str _)))
 | move x i=>exact .tup h (.cons (.str _) (.cons (.str _) (.one (.int _))))
 | turn lo hi=>exact .tup h (.cons (.str _) (.cons (.int _) (.one (.int _))))
theorem Qs {v:V}(r:Rep F v (dP d)):∃t,v=.ref t/\F t=some (.tup d.vals):=by
 cases d <;> (obtain⟨a,vs,rfl,h,rr⟩:=r.inv;cases rr.enc rfl;exact⟨a,rfl,h⟩)
theorem Sg.adopt (S:Sg E ss σ F H)(m:Mv E ss σ F H F H'){o:HO}(ht:H t=none)(e:H' t=some o):Mv E ss σ F H (upd F t o) H':=by
 have fn:=S.BU ht;refine S.step (Ab fn o) (fun a u q=>?_) m.hh (fun a u q=>?_) fun i l hi ei=>m.st.E7 hi ei
 ·by_cases z:a=t
  ·subst z;rw[AH] at q;rw[<- q];exact e
  ·rw[Ad z] at q;exact m.st.fh a u q
 ·by_cases z:a=t
  ·subst z;exact .inr ht
  ·rw[Ad z] at q;exact .inl q
theorem b9 {i:Nat}(hi:ss[i]?=some .AD)(h:Wq ss ta fun tp xs=>tp=false/\∃ns:List Str,xs=ns.map PV.str/\Wp ss tb fun p=>∃m:Nat,p=.int m/\(∀x∈ns,Nm x)/\ns.length<=m/\1<=m/\m<=100/\∀d:AR,d.Ok m ns->k (dP d)):
  Wp ss (CD QU [] E0 (AY (BQ i) (AY ta (AY tb B8)))) k:=⟨fun E σ F H Q S q=>by
 obtain⟨p,e,_⟩:=S.ok i _ hi;refine⟨_,e,h.go E σ F H _ S fun v tp xs F1 H1 m1 sv ⟨et,ns,ex,h2⟩=>h2.go E σ F1 H1 _ m1.st fun v2 p2 F2 H2 m2 r2 ⟨m,em,hN,hz,h1,h3,kk⟩=>?_⟩;subst et;subst ex;subst em;cases r2.inv;obtain⟨l,vs,ev,hn,hl,r⟩:=sv.mv m2;subst ev;rw[r.strs] at hl;refine⟨p,l,m,ns,rfl,m2.st.E7 hi e,hl,fun z=>hn i hi (z▸e),hN,hz,h1,h3,fun d t H3 ht s e3 hd=>?_⟩;have m3:=m2.st.adopt (m2.st.RW hi e s) ht e3;exact q _ _ _ H3 (m1.trans (m2.trans m3)) (ZA3 AH) (kk d hd)⟩
theorem av {k:List PV->Prop}(h:Wq ss ta fun tp xs=>tp=false/\∃ns:List Str,xs=ns.map PV.str/\Wp ss tb fun p=>∃d:AR,p=dP d/\d.Ok 40 ns/\ns.length<=40/\ns.Nodup/\k ((d.done ns).map PV.str)):
  Wn ss (CD WU [] E0 (AY ta (AY tb B8))) k:=⟨fun E σ F H Q S q=>
 h.go E σ F H _ S fun v tp xs F1 H1 m1 sv ⟨et,ns,ex,h2⟩=>h2.go E σ F1 H1 _ m1.st fun v2 p2 F2 H2 m2 r2 ⟨d,em,hd,hz,nd,kk⟩=>by
  subst et;subst ex;subst em;obtain⟨l,vs,ev,hl,r⟩:=(sv.mv m2).seq m2.st;subst ev;rw[r.strs] at hl;obtain⟨t,et,ht⟩:=Qs r2;subst et;refine⟨l,t,ns,d,rfl,hl,m2.st.fh _ _ ht,hd,hz,nd,fun a H3 ha s e3=>?_⟩;have m3:=m2.st.grow s;exact q a _ _ F2 H3 (m1.trans (m2.trans m3)) (m2.st.BU ha) ((m1.trans m2).none ha) e3 (JW _) kk⟩
end
end Fz
namespace Fz
open L2 Lw
section
variable [Xw]
variable {E:Ent0}{ss:List Slot}{σ:L2.St}{F H F' H':Hp}{K:ZHP}{js:List Nat}{ta tb tc te:TE}{k:PV->Prop}{nx:List Slot->Prop}{R:B0}{xs ys:List PV}{P:Program}{w:World}
theorem ZAm {k:List PV->Prop}(h:Wq ss te fun _ xs=>∃ns:List Str,xs=ns.map PV.str/\ns.length<64/\∀ts:List Str,ts.length=(dd ns).length->(∀x,(dd ns).any (· == x)=true↔x∈ts)->sortedS ts=true->k (ts.map PV.str)):
  Wn ss (Cb (fM P w) (AY (Cb (fun xs H Q=>∃(p:Addr) (tp:Bool) (ss:List Str),xs=[.ref p]/\CA K tp H p (ss.map V.str)/\ss.length<4000/\∀l,H l=none->Q (.ref l) (upd H l (Ll P w l (fun k'=>(dd ss).any (· == k')) (dd ss).length))) (AY te B8)) B8)) k:=⟨fun E σ F H Q S q=>
 h.go E σ F H _ S fun v tp xs F1 H1 m1 sv AJ=>by
  obtain⟨ns,e,hz,kk⟩:=AJ;subst e;obtain⟨l,vs,rfl,hl,r⟩:=sv.seq m1.st;rw[r.strs] at hl;refine⟨l,tp,ns,rfl,BF.sq hl,by omega,fun a ha=>?_⟩;have m2:=m1.st.make ha (Ll P w a (fun k'=>(dd ns).any (· == k')) (dd ns).length)
  refine⟨a,_,_,rfl,AH,Hm (Ys ns) hz,fun b ts hb Co hm hs=>?_⟩;have m3:=m2.st.make hb (.lst (ts.map V.str));exact q b _ _ F1 _ (m1.trans (m2.trans m3)) (m2.st.BU hb) ((m1.trans m2).none hb) AH (JW ts) (kk ts Co hm hs)⟩
end
end Fz
namespace Lw
open L2
variable {c t:Addr}{r:Str}{g:Int}{ss:List Str}
def kf:Sp:=fun vs H Q _=>∃(a t:Addr) (tp:Bool) (ns:List Str) (g:Nat) (d:AR),vs=[.ref a,.int g,.ref t]/\H a=some (BF tp (ns.map V.str))/\H t=some (.tup d.vals)/\d.Ok 40 ns/\Q (.int (d.gap ns g:Nat)) H
def De (H:Hp)(t c:Addr)(r:Str)(g:Int)(ss:List Str):Prop:=H t=some (.tup [.str r,.int g,.ref c])/\H c=some (.tup (ss.map V.str))
theorem De.h {H:Hp}(h:De H t c r g ss):IL H t r g ss:=⟨c,h⟩
theorem De.same {H H':Hp}(s:A8 H H')(h:De H t c r g ss):De H' t c r g ss:=⟨s _ _ h.1,s _ _ h.2⟩
def c6:Sp:=fun vs H Q _=>∃(tl td c0:Addr) (r:Str) (g:Nat) (ss:List Str) (d:AR),vs=[.ref tl,.ref td]/\De H tl c0 r g ss/\H td=some (.tup d.vals)/\ss.length<=60/\Up ss/\(∀x i,d=.put x i->x∉ss)/\
 ∀c H',(H c=none∨c=c0)->A8 H H'->H' c=some (.tup ((d.FO r g ss).map V.str))->Q (.ref c) H'
def Ug:Sp:=fun vs H Q _=>∃(a tl td c0:Addr) (tp:Bool) (ns:List Str) (r:Str) (g:Nat) (ss:List Str) (d:AR),vs=[.ref a,.ref tl,.ref td]/\H a=some (BF tp (ns.map V.str))/\De H tl c0 r g ss/\H td=some (.tup d.vals)/\d.Ok 40 ns/\Ce ns r g ss/\ns.length<=40/\
 ∀t' c' H',H t'=none->(H c'=none∨c'=c0)->A8 H H'->De H' t' c' r (d.gap ns g:Nat) (d.FO r g ss)->Q (.ref t') H'
def UI:Sp:=fun vs H Q _=>∃(a tl td c0:Addr) (ns:List Str) (r:Str) (g:Nat) (ss:List Str) (d:AR),vs=[.ref a,.ref tl,.ref td]/\H a=some (.lst (ns.map V.str))/\De H tl c0 r g ss/\H td=some (.tup d.vals)/\d.Ok 40 ns/\Ce ns r g ss/\ns.length<=40/\
 ∀t' c' H',H t'=none->(H c'=none∨c'=c0)->A8 H H'->De H' t' c' r (d.gap ns g:Nat) (d.FO r g ss)->Q (.ref t') H'
def eS (K:ZHP):Sp:=fun vs H Q _=>∃(a:Addr) (tp:Bool) (ns:List Str) (t:Addr) (r:Str) (g:Nat) (ss:List Str) (x:Str),vs=[.ref a,.ref t,.str x]/\H a=some (BF tp (ns.map V.str))/\IL H t r g ss/\ss.length<64/\x∈ns/\
 ∀t' c' H',H t'=none->H c'=none->A8 H H'->De H' t' c' r ((ns.idxOf x:Nat)+1) (wo ss x)->Q (.ref t') H'
def VW (H H':Hp)(t' t:Addr)(ns:List Str)(r:Str)(g:Nat)(ss:List Str):Prop:=
 (DJ ns g ss=[]/\H' t'=some (.tup [.AF,.ref t]))∨∃x EV t2 c2,DJ ns g ss=x::EV/\H t2=none/\H c2=none/\H' t'=some (.tup [.str x,.ref t2])/\De H' t2 c2 r ((ns.idxOf x:Nat)+1) (wo ss x)
def Y8 (K:ZHP):Sp:=fun vs H Q _=>∃(a:Addr) (tp:Bool) (ns:List Str) (t:Addr) (r:Str) (g:Nat) (ss:List Str),vs=[.ref a,.ref t]/\H a=some (BF tp (ns.map V.str))/\IL H t r g ss/\ss.length<64/\FI ns r g ss=true/\ns.length<=1000/\
 ∀t' H',H t'=none->A8 H H'->VW H H' t' t ns r g ss->Q (.ref t') H'
def ZJ:Sp:=fun vs H Q _=>∃(a:Addr) (ns:List Str) (t:Addr) (r:Str) (g:Nat) (ss:List Str),vs=[.ref a,.ref t]/\H a=some (.lst (ns.map V.str))/\IL H t r g ss/\ss.length<64/\ns.length<=1000/\
 ∀t' H',H t'=none->A8 H H'->VW H H' t' t ns r g ss->Q (.ref t') H'
def QN (K:ZHP):Sp:=fun vs H Q _=>∃(a:Addr) (tp:Bool) (ns:List Str) (r:Str),vs=[.ref a,.str r]/\CA K tp H a (ns.map V.str)/\r∈Cp/\ns.length<64/\∀t c H' ts,H t=none->H c=none->A8 H H'->ts.Perm ns->sortedS ts=true->De H' t c r (0:Nat) ts->Q (.ref t) H'
end Lw
namespace Fz
open L2 Lw
variable {E:Ent0}{ss:List Slot}{σ:L2.St}{F F' F0 F1 H H' H0:Hp}{js m p:List Nat}{ta tb tc te ti:TE}{nx:List Slot->Prop}{R:B0}{n t u:OV}{o:HO}{v x:V}{r:Str}{g i j:Nat}{cs ns:List Str}{a b c:Addr}{ps xs ys:List PV}{A:Around}{CB vs ws:List V}{A4 Be:List Value}{BN tp:Bool}{q:PV}{tr:TA}{us:List OV}{pre:Pre}
def Cc (r:Str)(g:Nat)(ss:List Str):PV:=.tup [.str r,.int g,.tup (ss.map .str)]
section
variable [Xw]
variable {K:ZHP}{k:PV->Prop}
theorem Mv.adopt (m:Mv E ss σ F H F1 H')(S:Sg E ss σ F H){t:Addr}(ht:H t=Option.none)(e:H' t=some o):Mv E ss σ F H (upd F1 t o) H':=by
 have sm:A8 F1 (upd F1 t o):=fun a u q=>by
  by_cases z:a=t
  ·subst z;have w:=m.st.fh _ _ q;rw[e] at w;rw[AH];exact w
  ·rw[Ad z];exact q
 refine S.step (m.ff.trans sm) (fun a u q=>?_) m.hh (fun a u q=>?_) fun i l hi ei=>m.st.E7 hi ei
 ·by_cases z:a=t
  ·subst z;rw[AH] at q;rw[<- q];exact e
  ·rw[Ad z] at q;exact m.st.fh a u q
 ·by_cases z:a=t
  ·subst z;exact .inr ht
  ·rw[Ad z] at q;exact m.nn a u q
theorem Pa (h:Rep F v (Cc r g cs)):∃t c,v=.ref t/\De F t c r g cs:=by
 obtain⟨_,_,rfl,e,q⟩:=h.inv;obtain⟨_,_,rfl,a,q⟩:=q.inv;obtain⟨_,_,rfl,b,q⟩:=q.inv;obtain⟨_,_,rfl,c,q⟩:=q.inv;cases q;cases a;cases b;obtain⟨_,_,rfl,e2,q2⟩:=c.inv;rw[q2.strs] at e2;exact⟨_,_,rfl,e,e2⟩
theorem YH {t:Addr}(h:De F t c r g cs):Rep F (.ref t) (Cc r g cs):=.tup h.1 (.cons (.str _) (.cons (.int _) (.one (.tup h.2 (JW cs)))))
theorem Mv.Uj (m:Mv E ss σ F H F1 H')(S:Sg E ss σ F H){t c0:Addr}(ht:H t=Option.none)(hc:H c=Option.none∨c=c0)(h0:F c0=some o)(e:De H' t c r g cs):∃F2,Mv E ss σ F H F2 H'/\A8 F1 F2/\Rep F2 (.ref t) (Cc r g cs):=by
 have key:∃F2,Mv E ss σ F H F2 H'/\A8 F1 F2/\F2 c=some (.tup (cs.map V.str)):=by
  rcases hc with hc | rfl
  ·refine⟨_,m.adopt S hc e.2,fun a u q=>?_,AH⟩
   by_cases z:a=c
   ·subst z;have w:=m.st.fh _ _ q;rw[e.2] at w;rw[AH];exact w
   ·rw[Ad z];exact q
  ·refine⟨F1,m,A8.refl _,?_⟩;have w:=m.ff _ _ h0;have w2:=m.st.fh _ _ w;rw[e.2] at w2;rw[w,<- w2]
 obtain⟨F2,m2,s2,L3⟩:=key;have sm:A8 F2 (upd F2 t (.tup [.str r,.int g,.ref c])):=fun a u q=>by
  by_cases z:a=t
  ·subst z;have w:=m2.st.fh _ _ q;rw[e.1] at w;rw[AH];exact w
  ·rw[Ad z];exact q
 exact⟨_,m2.adopt S ht e.1,s2.trans sm,YH ⟨AH,sm _ _ L3⟩⟩
theorem ZDT (h:Wq ss ta fun tp xs=>∃ns:List Str,xs=ns.map PV.str/\Wp ss tb fun p=>∃(r:Str) (g:Nat) (cs:List Str),p=Cc r g cs/\Wp ss tc fun p2=>∃d:AR,p2=dP d/\d.Ok 40 ns/\Ce ns r g cs/\ns.length<=40/\k (Cc r (d.gap ns g) (d.FO r g cs))):
  Wp ss (CD Ug [] E0 (AY ta (AY tb (AY tc B8)))) k:=⟨fun E σ F H Q S q=>
 h.go E σ F H _ S fun v tp xs F1 H1 m1 sv ⟨ns,ex,h2⟩=>h2.go E σ F1 H1 _ m1.st fun v2 p2 F2 H2 m2 r2 ⟨r,g,cs,ep,h3⟩=>h3.go E σ F2 H2 _ m2.st fun v3 p3 F3 H3 m3 r3 ⟨d,ed,hd,gd,hz,kk⟩=>by
  subst ex;subst ep;subst ed;obtain⟨l,vs,rfl,hl,rr⟩:=(sv.mv (m2.trans m3)).seq m3.st;rw[rr.strs] at hl;obtain⟨tl,c0,rfl,lc⟩:=Pa (r2.mono m3.ff);obtain⟨t,rfl,ht⟩:=Qs r3;refine⟨l,tl,t,c0,tp,ns,r,g,cs,d,rfl,hl,lc.same m3.st.fh,m3.st.fh _ _ ht,hd,gd,hz,fun t' c' H4 Eh GW s4 e4=>?_⟩;obtain⟨F4,m4,_,r4⟩:=(m3.st.grow s4).Uj m3.st Eh GW lc.2 e4;exact q _ _ F4 H4 (m1.trans (m2.trans (m3.trans m4))) r4 kk⟩
theorem tj (h:Wq ss ta fun tp xs=>tp=false/\∃ns:List Str,xs=ns.map PV.str/\Wp ss tb fun p=>∃(r:Str) (g:Nat) (cs:List Str),p=Cc r g cs/\Wp ss tc fun p2=>∃d:AR,p2=dP d/\d.Ok 40 ns/\Ce ns r g cs/\ns.length<=40/\k (Cc r (d.gap ns g) (d.FO r g cs))):
  Wp ss (CD UI [] E0 (AY ta (AY tb (AY tc B8)))) k:=⟨fun E σ F H Q S q=>
 h.go E σ F H _ S fun v tp xs F1 H1 m1 sv ⟨et,ns,ex,h2⟩=>h2.go E σ F1 H1 _ m1.st fun v2 p2 F2 H2 m2 r2 ⟨r,g,cs,ep,h3⟩=>h3.go E σ F2 H2 _ m2.st fun v3 p3 F3 H3 m3 r3 ⟨d,ed,hd,gd,hz,kk⟩=>by
  subst et;subst ex;subst ep;subst ed;obtain⟨l,vs,rfl,hl,rr⟩:=(sv.mv (m2.trans m3)).seq m3.st;rw[rr.strs] at hl;obtain⟨tl,c0,rfl,lc⟩:=Pa (r2.mono m3.ff);obtain⟨t,rfl,ht⟩:=Qs r3;refine⟨l,tl,t,c0,ns,r,g,cs,d,rfl,hl,lc.same m3.st.fh,m3.st.fh _ _ ht,hd,gd,hz,fun t' c' H4 Eh GW s4 e4=>?_⟩;obtain⟨F4,m4,_,r4⟩:=(m3.st.grow s4).Uj m3.st Eh GW lc.2 e4;exact q _ _ F4 H4 (m1.trans (m2.trans (m3.trans m4))) r4 kk⟩
def Jw (ns:List Str)(r:Str)(g:Nat)(cs:List Str):PV:=match DJ ns g cs with
 | []=>.tup [.AF,Cc r g cs]
 | x::_=>.tup [.str x,Cc r (ns.idxOf x+1) (wo cs x)]
theorem Mv.cw (m:Mv E ss σ F H F1 H')(S:Sg E ss σ F H){t t':Addr}(ht:H t'=Option.none)(h0:De F t c r g cs)(e:VW H H' t' t ns r g cs):∃F2,Mv E ss σ F H F2 H'/\Rep F2 (.ref t') (Jw ns r g cs):=by
 rcases e with⟨er,e⟩|⟨x,EV,t2,c2,er,h2,h3,e,lc⟩
 ·refine⟨_,m.adopt S ht e,?_⟩;have sm:=(m.adopt S ht e).ff;unfold Jw;rw[er];exact .tup AH (.cons .AF (.one (YH (h0.same sm))))
 ·have vw:De H' t2 c2 r ((ns.idxOf x+1:Nat):Int) (wo cs x):=lc;obtain⟨F2,m2,_,r2⟩:=m.Uj S h2 (.inl h3) h0.1 vw;refine⟨_,m2.adopt S ht e,?_⟩;have sm:A8 F2 (upd F2 t' (.tup [.str x,.ref t2])):=fun a u q=>by
   by_cases z:a=t'
   ·subst z;have w:=m2.st.fh _ _ q;rw[e] at w;rw[AH];exact w
   ·rw[Ad z];exact q
  unfold Jw;rw[er];exact .tup AH (.cons (.str _) (.one (r2.mono sm)))
theorem ma (h:Wq ss ta fun tp xs=>∃ns:List Str,xs=ns.map PV.str/\Wp ss tb fun p=>∃(r:Str) (g:Nat) (cs:List Str),p=Cc r g cs/\Ce ns r g cs/\ns.length<=60/\k (Jw ns r g cs)):
  Wp ss (CD (Y8 K) [] E0 (AY ta (AY tb B8))) k:=⟨fun E σ F H Q S q=>
 h.go E σ F H _ S fun v tp xs F1 H1 m1 sv ⟨ns,ex,h2⟩=>h2.go E σ F1 H1 _ m1.st fun v2 p2 F2 H2 m2 r2 ⟨r,g,cs,ep,gd,hz,kk⟩=>by
  subst ex;subst ep;obtain⟨l,vs,rfl,hl,rr⟩:=(sv.mv m2).seq m2.st;rw[rr.strs] at hl;obtain⟨tl,c0,rfl,lc⟩:=Pa r2;have hlen:=gd.len;refine⟨l,tp,ns,tl,r,g,cs,rfl,hl,(lc.same m2.st.fh).h,by omega,gd.FI,by omega,fun t' H4 Eh s4 e4=>?_⟩;obtain⟨F4,m4,r4⟩:=(m2.st.grow s4).cw m2.st Eh lc e4;exact q _ _ F4 H4 (m1.trans (m2.trans m4)) r4 kk⟩
theorem yy (h:Wq ss ta fun tp xs=>tp=false/\∃ns:List Str,xs=ns.map PV.str/\Wp ss tb fun p=>∃(r:Str) (g:Nat) (cs:List Str),p=Cc r g cs/\Ce ns r g cs/\ns.length<=60/\k (Jw ns r g cs)):
  Wp ss (CD ZJ [] E0 (AY ta (AY tb B8))) k:=⟨fun E σ F H Q S q=>
 h.go E σ F H _ S fun v tp xs F1 H1 m1 sv ⟨et,ns,ex,h2⟩=>h2.go E σ F1 H1 _ m1.st fun v2 p2 F2 H2 m2 r2 ⟨r,g,cs,ep,gd,hz,kk⟩=>by
  subst et;subst ex;subst ep;obtain⟨l,vs,rfl,hl,rr⟩:=(sv.mv m2).seq m2.st;rw[rr.strs] at hl;obtain⟨tl,c0,rfl,lc⟩:=Pa r2;have hlen:=gd.len;refine⟨l,ns,tl,r,g,cs,rfl,hl,(lc.same m2.st.fh).h,by omega,by omega,fun t' H4 Eh s4 e4=>?_⟩;obtain⟨F4,m4,r4⟩:=(m2.st.grow s4).cw m2.st Eh lc e4;exact q _ _ F4 H4 (m1.trans (m2.trans m4)) r4 kk⟩
theorem af (h:Wq ss ta fun tp xs=>∃ns:List Str,xs=ns.map PV.str/\Wp ss tb fun p=>∃r:Str,p=.str r/\r∈Cp/\ns.length<64/\∀ts:List Str,ts.Perm ns->sortedS ts=true->k (Cc r 0 ts)):
  Wp ss (CD (QN K) [] E0 (AY ta (AY tb B8))) k:=⟨fun E σ F H Q S q=>
 h.go E σ F H _ S fun v tp xs F1 H1 m1 sv ⟨ns,ex,h2⟩=>h2.go E σ F1 H1 _ m1.st fun v2 p2 F2 H2 m2 r2 ⟨r,ep,hr,hz,kk⟩=>by
  subst ex;subst ep;cases r2.inv;obtain⟨l,vs,rfl,hl,rr⟩:=(sv.mv m2).seq m2.st;rw[rr.strs] at hl;refine⟨l,tp,ns,r,rfl,BF.sq hl,hr,hz,fun t' c' H4 ts Eh GW s4 pm st e4=>?_⟩;have Ru:De H4 t' c' r ((0:Nat):Int) ts:=e4;have m3:=(m2.st.grow s4).adopt m2.st GW Ru.2;obtain⟨F4,m4,_,r4⟩:∃F4,Mv E ss σ F2 H2 F4 H4/\True/\Rep F4 (.ref t') (Cc r 0 ts):=by
   refine⟨_,m3.adopt m2.st Eh Ru.1,trivial,YH ⟨AH,?_⟩⟩
   by_cases z:c'=t'
   ·subst z;rw[AH];exact Ru.1.symm.trans Ru.2
   ·rw[Ad z,AH]
  exact q _ _ F4 H4 (m1.trans (m2.trans m4)) r4 (kk ts pm st)⟩
end
mutual
def Bg:PV->PV->Bool
 | .lst xs,.lst ys=>DA xs ys
 | .tup xs,.tup ys=>DA xs ys
 | .tup xs,.con _ ys=>DA xs ys
 | .con _ xs,.tup ys=>DA xs ys
 | .con _ xs,.con _ ys=>DA xs ys
 | .AF,.AF=>true
 | .bl a,.bl b=>a == b
 | .bl a,.int b=>(if a then 1 else 0) == b
 | .int a,.bl b=>a == (if b then 1 else 0)
 | .int a,.int b=>a == b
 | .str a,.str b=>a == b
 | _,_=>false
def DA:List PV->List PV->Bool
 | [],[]=>true
 | x::r,y::t=>Bg x y && DA r t
 | _,_=>false
end
theorem Rx (x y:PV)(r t:List PV):DA (x::r) (y::t)=(Bg x y && DA r t):=by rw[DA]
theorem US:∀(xs ys:List PV),xs.length≠ys.length->DA xs ys=false
 | [],[],h=>absurd rfl h
 | [],_::_,_=>by rw[DA];all_goals simp
 | _::_,[],_=>by rw[DA];all_goals simp
 | x::r,y::t,h=>by rw[Rx,US r t (by simpa using h),ZO]
theorem TN:∀(xs ys:List PV),xs.length=ys.length->DA xs ys=(List.range xs.length).all fun j=>Bg (xs.getD j .AF) (ys.getD j .AF)
 | [],[],_=>by rw[DA];rfl
 | x::r,y::t,h=>by
  rw[Rx,TN r t (by simpa using h),BH,List.range_succ_eq_map,Sh,List.all_map]
  rfl
def dat (K:ZHP):Nat->PV->Prop
 | _,.AF=>True
 | _,.bl _=>True
 | _,.int _=>True
 | _,.str _=>True
 | d+1,.lst xs=>∀x∈xs,dat K d x
 | d+1,.tup xs=>∀x∈xs,dat K d x
 | d+1,.con a xs=>(∀x∈xs,dat K d x)/\xs.all flat=true/\∀H,AA K H a (xs.map Fz.enc)
 | _,_=>False
inductive GF (K:ZHP) (H:Hp):V->PV->Bool->Addr->List V->List PV->Prop where
 | lst {a:Addr}{vs:List V}{xs:List PV}:AI K H a vs->AO H vs xs->GF K H (.ref a) (.lst xs) false a vs xs
 | tup {a:Addr}{vs:List V}{xs:List PV}:AA K H a vs->AO H vs xs->GF K H (.ref a) (.tup xs) true a vs xs
 | con {a:Addr}{vs:List V}{xs:List PV}:AA K H a vs->AO H vs xs->GF K H (.ref a) (.con a xs) true a vs xs
theorem Fc {K:ZHP}:∀{d:Nat}{x:V}{p:PV},dat K d p->Rep H x p->(flat p=true/\x=Fz.enc p)∨∃d' tp a vs xs,d=d'+1/\GF K H x p tp a vs xs/\∀y∈xs,dat K d' y:=by
 intro d x p h r;cases r with
 | AF=>exact .inl ⟨rfl,rfl⟩
 | bl b=>exact .inl ⟨rfl,rfl⟩
 | int b=>exact .inl ⟨rfl,rfl⟩
 | str b=>exact .inl ⟨rfl,rfl⟩
 | lst e r=>cases d with
  | zero=>exact h.elim
  | succ d=>exact .inr ⟨d,_,_,_,_,rfl,.lst (AI.of e) r,h⟩
 | tup e r=>cases d with
  | zero=>exact h.elim
  | succ d=>exact .inr ⟨d,_,_,_,_,rfl,.tup (AA.of e) r,h⟩
 | con=>cases d with
  | zero=>exact h.elim
  | succ d=>obtain⟨h1,h2,h3⟩:=h;exact .inr ⟨d,_,_,_,_,rfl,.con (h3 H) (VJ h2),h1⟩
 | Aq _ _ _=>cases d <;> exact h.elim
 | obj _ _ _ _=>cases d <;> exact h.elim
 | Nx _=>cases d <;> exact h.elim
 | exc _ _ _ _=>cases d <;> exact h.elim
section
variable {X:Cx}{pins:ZHQ}{s:Shared}
theorem yt (r1:Vals vs A4)(r2:Vals ws Be)(q1:AO H vs xs)(q2:AO H ws ys)
  (h:∀(x y:V) (p q:PV) (u v:Value),p∈xs->q∈ys->Rep H x p->Rep H y q->RelV x u->RelV y v->SeqAt.EqAt A s u v (Bg p q)) :
  ∀j (h1:j<A4.toArray.size) (h2:j<Be.toArray.size),SeqAt.EqAt A s A4.toArray[j] Be.toArray[j] ((fun j=>Bg (xs.getD j .AF) (ys.getD j .AF)) j):=fun j h1 h2=>by
 have l1:=r1.length;have l2:=r2.length;have l3:=q1.length;have l4:=q2.length;have D8:j<A4.length:=by simpa using h1
 have Df:j<Be.length:=by simpa using h2
 have a1:j<xs.length:=by omega
 have a2:j<ys.length:=by omega
 obtain⟨x,hx,rx⟩:=q1.get (i:=j) (p:=xs[j]) (B9 a1);obtain⟨y,hy,ry⟩:=q2.get (i:=j) (p:=ys[j]) (B9 a2);obtain⟨u,hu,ru⟩:=r1.get hx;obtain⟨v,hv,rv⟩:=r2.get hy;rw[B9 D8] at hu;rw[B9 Df] at hv;have Ob:A4[j]=u:=BS hu;have Ot:Be[j]=v:=BS hv;have q:=h x y _ _ u v (LA a1) (LA a2) rx ry ru rv;rw[<- Ob,<- Ot] at q;show SeqAt.EqAt A s _ _ (Bg (xs.getD j .AF) (ys.getD j .AF));rw[ES,B9 a1,ES,B9 a2]
 simpa using q
theorem Qc {p:PV}(h:GF X.K H x p tp a vs xs)(f:flat q=true):Bg p q=false/\Bg q p=false:=by
 cases h <;> cases q <;> first | exact Bool.noConfusion f | exact⟨rfl,rfl⟩
theorem T3 {p:PV}{y:V}(h:GF X.K H x p tp a vs xs)(h2:GF X.K H y q BN b ws ys):Bg p q=(if tp=BN then DA xs ys else false):=by
 cases h <;> cases h2 <;> rfl
theorem QJ {p:PV}(h:flat p=true)(h2:flat q=true):Bg p q=Dp (Fz.enc p) (Fz.enc q):=by
 cases p <;> cases q <;> first | exact Bool.noConfusion h | exact Bool.noConfusion h2 | rfl
theorem ZDA {p:PV}{u v:Value}(h:flat p=true)(h2:flat q=true)(ru:RelV (Fz.enc p) u)(rv:RelV (Fz.enc q) v):SeqAt.RcAt A s u v (Bg p q)/\SeqAt.RcNeAt A s u v (!Bg p q):=by
 cases p <;> first | exact Bool.noConfusion h | skip
 all_goals cases q <;> first | exact Bool.noConfusion h2 | skip
 ·cases ru;cases rv;exact⟨.none_none,.none_none⟩
 ·cases ru;cases rv;exact⟨.none_bool _,.none_bool _⟩
 ·cases ru;obtain⟨t,rfl⟩:=rv;exact⟨.none_int _ _,.none_int _ _⟩
 ·cases ru;obtain⟨t,rfl⟩:=rv;exact⟨.none_str _ _,.none_str _ _⟩
 ·cases ru;cases rv;exact⟨.bool_none _,.bool_none _⟩
 ·cases ru;cases rv;exact⟨.bool_bool _ _,.bool_bool _ _⟩
 ·cases ru;obtain⟨t,rfl⟩:=rv;exact⟨.bool_int _ _ _,.bool_int _ _ _⟩
 ·cases ru;obtain⟨t,rfl⟩:=rv;exact⟨.bool_str _ _ _,.bool_str _ _ _⟩
 ·obtain⟨t,rfl⟩:=ru;cases rv;exact⟨.int_none _ _,.int_none _ _⟩
 ·obtain⟨t,rfl⟩:=ru;cases rv;exact⟨.int_bool _ _ _,.int_bool _ _ _⟩
 ·obtain⟨t,rfl⟩:=ru;obtain⟨t2,rfl⟩:=rv;exact⟨.int_int _ _ _ _,.int_int _ _ _ _⟩
 ·obtain⟨t,rfl⟩:=ru;obtain⟨t2,rfl⟩:=rv;exact⟨.int_str _ _ _ _,.int_str _ _ _ _⟩
 ·obtain⟨t,rfl⟩:=ru;cases rv;exact⟨.str_none _ _,.str_none _ _⟩
 ·obtain⟨t,rfl⟩:=ru;cases rv;exact⟨.str_bool _ _ _,.str_bool _ _ _⟩
 ·obtain⟨t,rfl⟩:=ru;obtain⟨t2,rfl⟩:=rv;exact⟨.str_int _ _ _ _,.str_int _ _ _ _⟩
 ·obtain⟨t,rfl⟩:=ru;obtain⟨t2,rfl⟩:=rv;exact⟨.str_str _ _ _ _,.str_str _ _ _ _⟩
def Pn (h:Heap)(tp:Bool)(a:Addr)(A4:Array Value):Prop:=if tp then IsTup h a A4 else h.IsList a A4
theorem GF.GB (I:Inv X pins σ H s){p:PV}(h:GF X.K H x p tp a vs xs):∃A4:List Value,x=.ref a/\Vals vs A4/\Pn s.heap tp a A4.toArray/\AO H vs xs:=by
 cases h with
 | lst h r=>obtain⟨A4,r1,p1,_⟩:=I.list h;exact⟨A4,rfl,r1,p1.isList,r⟩
 | tup h r=>obtain⟨A4,r1,p1,_⟩:=I.tuple h;exact⟨A4,rfl,r1,p1,r⟩
 | con h r=>obtain⟨A4,r1,p1,_⟩:=I.tuple h;exact⟨A4,rfl,r1,p1,r⟩
theorem SR {A4:Array Value}{v:Value}(h:Pn s.heap tp a A4)(f:flat q=true)(rv:RelV (Fz.enc q) v)(hu:A.units<cLine):
  (SeqAt.EqAt A s (.ref a) v false/\SeqAt.EqAt A s v (.ref a) false)/\(SeqAt.RcAt A s (.ref a) v false/\SeqAt.RcAt A s v (.ref a) false)/\(SeqAt.RcNeAt A s (.ref a) v true/\SeqAt.RcNeAt A s v (.ref a) true):=by
 cases tp with
 | false=>
  have h':s.heap.IsList a A4:=h;cases q <;> first | exact Bool.noConfusion f | skip
  ·cases rv;exact⟨⟨.list_none h' hu,.none_list h' hu⟩,⟨.list_none h' hu,.none_list h' hu⟩,⟨.list_none h' hu,.none_list h' hu⟩⟩
  ·cases rv;exact⟨⟨.list_bool _ h' hu,.bool_list _ h' hu⟩,⟨.list_bool _ h' hu,.bool_list _ h' hu⟩,⟨.list_bool _ h' hu,.bool_list _ h' hu⟩⟩
  ·obtain⟨t,rfl⟩:=rv;exact⟨⟨.list_int _ _ h' hu,.int_list _ _ h' hu⟩,⟨.list_int _ _ h' hu,.int_list _ _ h' hu⟩,⟨.list_int _ _ h' hu,.int_list _ _ h' hu⟩⟩
  ·obtain⟨t,rfl⟩:=rv;exact⟨⟨.list_str _ _ h' hu,.str_list _ _ h' hu⟩,⟨.list_str _ _ h' hu,.str_list _ _ h' hu⟩,⟨.list_str _ _ h' hu,.str_list _ _ h' hu⟩⟩
 | true=>
  have h':IsTup s.heap a A4:=h;cases q <;> first | exact Bool.noConfusion f | skip
  ·cases rv;exact⟨⟨.tuple_none h' hu,.none_tuple h' hu⟩,⟨.tuple_none h' hu,.none_tuple h' hu⟩,⟨.tuple_none h' hu,.none_tuple h' hu⟩⟩
  ·cases rv;exact⟨⟨.tuple_bool _ h' hu,.bool_tuple _ h' hu⟩,⟨.tuple_bool _ h' hu,.bool_tuple _ h' hu⟩,⟨.tuple_bool _ h' hu,.bool_tuple _ h' hu⟩⟩
  ·obtain⟨t,rfl⟩:=rv;exact⟨⟨.tuple_int _ _ h' hu,.int_tuple _ _ h' hu⟩,⟨.tuple_int _ _ h' hu,.int_tuple _ _ h' hu⟩,⟨.tuple_int _ _ h' hu,.int_tuple _ _ h' hu⟩⟩
  ·obtain⟨t,rfl⟩:=rv;exact⟨⟨.tuple_str _ _ h' hu,.str_tuple _ _ h' hu⟩,⟨.tuple_str _ _ h' hu,.str_tuple _ _ h' hu⟩,⟨.tuple_str _ _ h' hu,.str_tuple _ _ h' hu⟩⟩
theorem GF.inj (I:Inv X pins σ H s){x y:V}{p q:PV}{tp BN:Bool}{a:Addr}{vs ws:List V}{xs ys:List PV}(h:GF X.K H x p tp a vs xs)(h2:GF X.K H y q BN a ws ys):tp=BN/\vs=ws:=by
 have no:∀{vs ws:List V},AI X.K H a vs->AA X.K H a ws->False:=fun {vs ws} h1 h2=>by
  obtain⟨A4,_,p1,_⟩:=I.list h1;obtain⟨Be,_,p2,_⟩:=I.tuple h2;obtain⟨o,n,e,c,_⟩:=p1;obtain⟨o2,e2,c2,_⟩:=p2;rw[e] at e2;cases e2;rw[c] at c2;exact absurd c2 (by decide)
 cases h with
 | lst h r=>cases h2 with
  | lst h2 _=>exact⟨rfl,I.aI h h2⟩
  | tup h2 _=>exact(no h h2).elim
  | con h2 _=>exact(no h h2).elim
 | tup h r=>cases h2 with
  | lst h2 _=>exact(no h2 h).elim
  | tup h2 _=>exact⟨rfl,I.Nt h h2⟩
  | con h2 _=>exact⟨rfl,I.Nt h h2⟩
 | con h r=>cases h2 with
  | lst h2 _=>exact(no h2 h).elim
  | tup h2 _=>exact⟨rfl,I.Nt h h2⟩
  | con h2 _=>exact⟨rfl,I.Nt h h2⟩
theorem jd {p:PV}(h:flat p=true):Dp (Fz.enc p) (Fz.enc p)=true:=by cases p <;> first | exact Bool.noConfusion h | exact u9 _ | rfl
theorem iR (ih:∀(x:V) (p q:PV),Rep H x p->Rep H x q->dat X.K d p->dat X.K d q->Bg p q=true):∀{vs:List V}{xs ys:List PV},AO H vs xs->AO H vs ys->(∀x∈xs,dat X.K d x)->(∀y∈ys,dat X.K d y)->DA xs ys=true
 | _,_,_,.nil,.nil,_,_=>by rw[DA]
 | _,_,_,.cons r1 t1,.cons r2 t2,h1,h2=>by
  rw[Rx,ih _ _ _ r1 r2 (h1 _ (by simp)) (h2 _ (by simp)),iR ih t1 t2 (fun x hx=>h1 x (by simp[hx])) (fun x hx=>h2 x (by simp[hx]))];rfl
theorem sN (I:Inv X pins σ H s):∀(d:Nat) (x:V) (p q:PV),Rep H x p->Rep H x q->dat X.K d p->dat X.K d q->Bg p q=true:=fun d=>by
 induction d with
 | zero=>
  intro x p q r1 r2 h1 h2;rcases Fc h1 r1 with⟨f1,e1⟩|⟨d',_,_,_,_,e,_⟩
  ·rcases Fc h2 r2 with⟨f2,e2⟩|⟨d',_,_,_,_,e,_⟩
   ·rw[QJ f1 f2,<- e1,e2];exact jd f2
   ·cases e
  ·cases e
 | succ d ih=>
  intro x p q r1 r2 h1 h2;rcases Fc h1 r1 with⟨f1,e1⟩|⟨d1,tp,a,vs,xs,e,q1,k1⟩
  ·rcases Fc h2 r2 with⟨f2,e2⟩|⟨d2,BN,b,ws,ys,e,q2,k2⟩
   ·rw[QJ f1 f2,<- e1,e2];exact jd f2
   ·obtain⟨_,ex,_⟩:=q2.GB I;subst ex;cases p <;> first | (cases f1;done) | (cases e1;done)
  ·cases e;rcases Fc h2 r2 with⟨f2,e2⟩|⟨d2,BN,b,ws,ys,e,q2,k2⟩
   ·obtain⟨_,ex,_⟩:=q1.GB I;subst ex;cases q <;> first | (cases f2;done) | (cases e2;done)
   ·cases e;obtain⟨_,ex,_,_,r3⟩:=q1.GB I;obtain⟨_,ey,_,_,r4⟩:=q2.GB I;rw[ex] at ey;cases ey;obtain⟨et,ev⟩:=q1.inj I q2;subst ev;rw[T3 q1 q2,pR et];exact iR ih r3 r4 k1 k2
theorem ur (r1:Vals vs A4)(r2:Vals ws Be)(q1:AO H vs xs)(q2:AO H ws ys):A4.toArray.size=xs.length/\Be.toArray.size=ys.length:=by
 have l1:=r1.length;have l2:=r2.length;have l3:=q1.length;have l4:=q2.length;simp only[Bo];omega
theorem jf (h1:Pn s.heap tp a A4.toArray)(h2:Pn s.heap BN b Be.toArray)(r1:Vals vs A4)(r2:Vals ws Be)(q1:AO H vs xs)(q2:AO H ws ys)(hu:A.units<cLine)
  (h:∀(x y:V) (p q:PV) (u v:Value),p∈xs->q∈ys->Rep H x p->Rep H y q->RelV x u->RelV y v->SeqAt.EqAt A.in1 s u v (Bg p q)) :
  SeqAt.RcAt A s (.ref a) (.ref b) (if tp=BN then DA xs ys else false)/\SeqAt.RcNeAt A s (.ref a) (.ref b) (!(if tp=BN then DA xs ys else false)):=by
 obtain⟨z1,z2⟩:=ur r1 r2 q1 q2;have it:=yt (A:=A.in1) r1 r2 q1 q2 h;cases tp with
 | false=>cases BN with
  | false=>
   rw[pR rfl];have D8:s.heap.IsList a A4.toArray:=h1;have Df:s.heap.IsList b Be.toArray:=h2
   by_cases hl:xs.length=ys.length
   ·rw[TN xs ys hl,<- z1];exact⟨.lists D8 Df (by omega) hu it,.lists D8 Df (by omega) hu it⟩
   ·rw[US xs ys hl];have Af:(A4.toArray.size != Be.toArray.size)=true:=by simp only[bne_iff_ne,ne_eq];omega
    exact⟨.lists_lengths D8 Df Af hu,.lists_lengths D8 Df Af hu⟩
  | true=>rw[nr (by decide)];exact⟨.list_tuple h1 h2 hu,.list_tuple h1 h2 hu⟩
 | true=>cases BN with
  | false=>rw[nr (by decide)];exact⟨.tuple_list h1 h2 hu,.tuple_list h1 h2 hu⟩
  | true=>
   rw[pR rfl];have D8:IsTup s.heap a A4.toArray:=h1;have Df:IsTup s.heap b Be.toArray:=h2;have e:((List.range (min A4.toArray.size Be.toArray.size)).all (fun j=>Bg (xs.getD j .AF) (ys.getD j .AF)) && A4.toArray.size == Be.toArray.size)=DA xs ys:=by
    by_cases hl:xs.length=ys.length
    ·rw[TN xs ys hl,z1,z2,<- hl,Zg,u9,lE]
    ·rw[US xs ys hl,z1,z2,show(xs.length == ys.length)=false from by simpa using hl,ZO]
   have k1:=SeqAt.RcAt.tuples (A:=A) (e:=fun j=>Bg (xs.getD j .AF) (ys.getD j .AF)) D8 Df hu it;have k2:=SeqAt.RcNeAt.tuples (A:=A) (e:=fun j=>Bg (xs.getD j .AF) (ys.getD j .AF)) D8 Df hu it;rw[e] at k1 k2;exact⟨k1,k2⟩
theorem ZFE (I:Inv X pins σ H s):∀(d:Nat) (x y:V) (p q:PV),Rep H x p->Rep H y q->dat X.K d p->dat X.K d q->∀(A:Around) (u v:Value),RelV x u->RelV y v->A.units+d<cLine->SeqAt.EqAt A s u v (Bg p q):=fun d=>by
 induction d with
 | zero=>
  intro x y p q r1 r2 h1 h2 A u v ru rv hu;rcases Fc h1 r1 with⟨f1,e1⟩|⟨_,_,_,_,_,e,_⟩
  ·rcases Fc h2 r2 with⟨f2,e2⟩|⟨_,_,_,_,_,e,_⟩
   ·subst e1;subst e2;rw[QJ f1 f2];exact RS ru rv (R7 f1) (R7 f2)
   ·cases e
  ·cases e
 | succ d ih=>
  intro x y p q r1 r2 h1 h2 A u v ru rv hu;rcases Fc h1 r1 with⟨f1,e1⟩|⟨d1,tp,a,vs,xs,e,q1,k1⟩
  ·rcases Fc h2 r2 with⟨f2,e2⟩|⟨d2,BN,b,ws,ys,e,q2,k2⟩
   ·subst e1;subst e2;rw[QJ f1 f2];exact RS ru rv (R7 f1) (R7 f2)
   ·obtain⟨A4,ey,_,j,_⟩:=q2.GB I;subst e1;subst ey;cases(show v=Value.ref b from rv);rw[(Qc q2 f1).2];exact(SR j f1 ru (by omega)).1.2
  ·cases e;rcases Fc h2 r2 with⟨f2,e2⟩|⟨d2,BN,b,ws,ys,e,q2,k2⟩
   ·obtain⟨A4,ex,_,j,_⟩:=q1.GB I;subst e2;subst ex;cases(show u=Value.ref a from ru);rw[(Qc q1 f2).1];exact(SR j f2 rv (by omega)).1.1
   ·cases e;obtain⟨A4,ex,v1,j1,w1⟩:=q1.GB I;obtain⟨Be,ey,v2,j2,w2⟩:=q2.GB I;subst ex;subst ey;cases(show u=Value.ref a from ru);cases(show v=Value.ref b from rv)
    by_cases D3:a=b
    ·subst D3;rw[sN I (d+1) _ p q r1 r2 h1 h2];exact .same _
    ·rw[T3 q1 q2];refine SeqAt.EqAt.of_refs D3 (jf j1 j2 v1 v2 w1 w2 (by omega) fun x y p q u v hp hq r1 r2 ru rv=>?_).1;exact ih x y p q r1 r2 (k1 p hp) (k2 q hq) A.in1 u v ru rv (by show A.units+1+d<cLine;omega)
theorem iO (I:Inv X pins σ H s)(d:Nat)(x y:V)(p q:PV)(r1:Rep H x p)(r2:Rep H y q)(h1:dat X.K d p)(h2:dat X.K d q)(A:Around)(u v:Value)(ru:RelV x u)(rv:RelV y v)(hu:A.units+d<cLine):SeqAt.RcAt A s u v (Bg p q)/\SeqAt.RcNeAt A s u v (!Bg p q):=by
 rcases Fc h1 r1 with⟨f1,e1⟩|⟨d1,tp,a,vs,xs,e,q1,k1⟩
 ·rcases Fc h2 r2 with⟨f2,e2⟩|⟨d2,BN,b,ws,ys,e,q2,k2⟩
  ·subst e1;subst e2;exact ZDA f1 f2 ru rv
  ·obtain⟨A4,ey,_,j,_⟩:=q2.GB I;subst e1;subst ey;cases(show v=Value.ref b from rv);rw[(Qc q2 f1).2];have z:=SR (A:=A) j f1 ru (by omega);exact⟨z.2.1.2,z.2.2.2⟩
 ·rcases Fc h2 r2 with⟨f2,e2⟩|⟨d2,BN,b,ws,ys,e2,q2,k2⟩
  ·obtain⟨A4,ex,_,j,_⟩:=q1.GB I;subst e2;subst ex;cases(show u=Value.ref a from ru);rw[(Qc q1 f2).1];have z:=SR (A:=A) j f2 rv (by omega);exact⟨z.2.1.1,z.2.2.1⟩
  ·subst e;cases e2;obtain⟨A4,ex,v1,j1,w1⟩:=q1.GB I;obtain⟨Be,ey,v2,j2,w2⟩:=q2.GB I;subst ex;subst ey;cases(show u=Value.ref a from ru);cases(show v=Value.ref b from rv);rw[T3 q1 q2];exact jf j1 j2 v1 v2 w1 w2 (by omega) fun x y p q u v hp hq r1 r2 ru rv=>ZFE I d1 x y p q r1 r2 (k1 p hp) (k2 q hq) A.in1 u v ru rv (by show A.units+1+d1<cLine;omega)
def Qt (K:ZHP)(neg:Bool):R2:=fun x y H Q=>∃p q,Rep H x p/\Rep H y q/\dat K 40 p/\dat K 40 q/\Q (.bl (if neg then !Bg p q else Bg p q)) H
theorem fb (hu:X.A.units+64<cLine):BD X (compareOp .Eq) (Qt X.K false):=by
 intro pins s σ H x y v u Q I rx ry h;obtain⟨p,q,r1,r2,d1,d2,hQ⟩:=h;exact(iO I 40 x y p q r1 r2 d1 d2 X.A _ _ rx ry (by omega)).1 _ _ _ _ ⟨.bl (Bg p q),H,I,rfl,hQ⟩
theorem lB (hu:X.A.units+64<cLine):BD X (compareOp .NotEq) (Qt X.K true):=by
 intro pins s σ H x y v u Q I rx ry h;obtain⟨p,q,r1,r2,d1,d2,hQ⟩:=h;exact(iO I 40 x y p q r1 r2 d1 d2 X.A _ _ rx ry (by omega)).2 _ _ _ _ ⟨.bl (!Bg p q),H,I,rfl,hQ⟩
end
section
variable [Xw]
variable {K:ZHP}{k:PV->Prop}
theorem T2 (h:Wp ss ta fun p=>Wp ss tb fun q=>dat K 40 p/\dat K 40 q/\k (.bl (Bg p q))):Wp ss (C5 (Qt K false) ta tb) k:=⟨fun E σ F H Q S q=>
 h.go E σ F H _ S fun v p F1 H1 m1 r1 h2=>h2.go E σ F1 H1 _ m1.st fun v2 p2 F2 H2 m2 r2 ⟨d1,d2,kk⟩=>
  ⟨p,p2,(r1.mono m2.ff).mono m2.st.fh,r2.mono m2.st.fh,d1,d2,q _ _ F2 H2 (m1.trans m2) (.bl _) kk⟩⟩
theorem Ta (h:Wp ss ta fun p=>Wp ss tb fun q=>dat K 40 p/\dat K 40 q/\k (.bl (!Bg p q))):Wp ss (C5 (Qt K true) ta tb) k:=⟨fun E σ F H Q S q=>
 h.go E σ F H _ S fun v p F1 H1 m1 r1 h2=>h2.go E σ F1 H1 _ m1.st fun v2 p2 F2 H2 m2 r2 ⟨d1,d2,kk⟩=>
  ⟨p,p2,(r1.mono m2.ff).mono m2.st.fh,r2.mono m2.st.fh,d1,d2,q _ _ F2 H2 (m1.trans m2) (.bl _) kk⟩⟩
end
def OV.at (t:OV):List Nat->Option OV
 | []=>some t
 | j::p=>match t with
  | .nd _ _ xs=>(xs[j]?).bind fun x=>OV.at x p
  | .tp xs=>(xs[j]?).bind fun x=>OV.at x p
  | .fz _=>none
def OV.put (t:OV)(l:List Nat)(n:OV):OV:=match l with
 | []=>n
 | j::p=>match t with
  | .nd k a xs=>match xs[j]? with
   | some x=>.nd k a (xs.set j (OV.put x p n))
   | none=>.nd k a xs
  | .tp xs=>match xs[j]? with
   | some x=>.tp (xs.set j (OV.put x p n))
   | none=>.tp xs
  | .fz q=>.fz q
theorem OV.JD:t.at []=some t:=by rw[OV.at]
theorem OV.L7 {k:NK}{xs:List OV}:(OV.nd k a xs).at (j::p)=(xs[j]?).bind fun x=>x.at p:=by rw[OV.at]
theorem OV.NB {xs:List OV}:(OV.tp xs).at (j::p)=(xs[j]?).bind fun x=>x.at p:=by rw[OV.at]
theorem OV.GK:t.put [] n=n:=by rw[OV.put]
theorem OV.Iy {k:NK}{xs:List OV}{x:OV}(h:xs[j]?=some x):(OV.nd k a xs).put (j::p) n=.nd k a (xs.set j (x.put p n)):=by rw[OV.put,h]
theorem OV.Sa {xs:List OV}{x:OV}(h:xs[j]?=some x):(OV.tp xs).put (j::p) n=.tp (xs.set j (x.put p n)):=by rw[OV.put,h]
theorem OV.MU {u w:OV}:∀{p:List Nat}{t:OV}{j:Nat},t.at p=some u->u.at [j]=some w->t.at (p++[j])=some w
 | [],t,j,h,h2=>by rw[OV.JD] at h;cases h;exact h2
 | i::p,.nd k a xs,j,h,h2=>by
  rw[OV.L7] at h;rw[ZS,OV.L7];cases e:xs[i]? with
  | none=>rw[e] at h;cases h
  | some x=>rw[e] at h;exact OV.MU (t:=x) h h2
 | i::p,.tp xs,j,h,h2=>by
  rw[OV.NB] at h;rw[ZS,OV.NB];cases e:xs[i]? with
  | none=>rw[e] at h;cases h
  | some x=>rw[e] at h;exact OV.MU (t:=x) h h2
 | i::p,.fz q,j,h,h2=>by rw[OV.at] at h;cases h
theorem Ir:∀{xs:List OV}{j:Nat}{x:OV},xs[j]?=some x->∃l r,OV.Al xs=l++x.addrs++r/\∀y:OV,OV.Al (xs.set j y)=l++y.addrs++r
 | x::xs,0,z,h=>by
  simp at h;subst h;exact⟨[],OV.Al xs,by rw[OV.D1];rfl,fun y=>by rw[So,OV.D1];rfl⟩
 | x::xs,j+1,z,h=>by
  obtain⟨l,r,e1,e2⟩:=Ir (xs:=xs) (j:=j) (x:=z) (by simpa using h)
  refine⟨x.addrs++l,r,by rw[OV.D1,e1];simp[CC],fun y=>by rw[Sn,OV.D1,e2];simp[CC]⟩
theorem OV.split {u:OV}:∀{p:List Nat}{t:OV},t.at p=some u->∃l r,t.addrs=l++u.addrs++r/\∀n:OV,(t.put p n).addrs=l++n.addrs++r
 | [],t,h=>by rw[OV.JD] at h;cases h;exact⟨[],[],by simp,fun n=>by rw[OV.GK];simp⟩
 | j::p,.nd k a xs,h=>by
  rw[OV.L7] at h;cases e:xs[j]? with
  | none=>rw[e] at h;cases h
  | some x=>
   rw[e] at h;obtain⟨l,r,e1,e2⟩:=Ir e;obtain⟨l2,r2,f1,f2⟩:=OV.split (t:=x) h;refine⟨a::(k.more++(l++l2)),r2++r,by rw[OV.DR,e1,f1];simp[CC],fun n=>by rw[OV.Iy e,OV.DR,e2,f2];simp[CC]⟩
 | j::p,.tp xs,h=>by
  rw[OV.NB] at h;cases e:xs[j]? with
  | none=>rw[e] at h;cases h
  | some x=>
   rw[e] at h;obtain⟨l,r,e1,e2⟩:=Ir e;obtain⟨l2,r2,f1,f2⟩:=OV.split (t:=x) h;refine⟨l++l2,r2++r,by rw[OV.HR,e1,f1];simp[CC],fun n=>by rw[OV.Sa e,OV.HR,e2,f2];simp[CC]⟩
 | j::p,.fz q,h=>by rw[OV.at] at h;cases h
theorem B6.get {F H:Hp}:∀{vs:List V}{ts:List OV}{j:Nat}{t:OV},B6 F H vs ts->ts[j]?=some t->∃v,vs[j]?=some v/\B1 F H v t
 | _,_,_,_,.nil,e=>by simp at e
 | _,_,0,_,.cons r _,e=>by simp at e;subst e;exact⟨_,rfl,r⟩
 | _,_,j+1,t,.cons _ q,e=>by
  obtain⟨u,h1,h2⟩:=B6.get (j:=j) (t:=t) q (by simpa using e)
  exact⟨u,by simpa using h1,h2⟩
theorem B6.append {F H:Hp}:∀{vs ws:List V}{xs ys:List OV},B6 F H vs xs->B6 F H ws ys->B6 F H (vs++ws) (xs++ys)
 | _,_,_,_,.nil,s=>s
 | _,_,_,_,.cons r t,s=>.cons r (B6.append t s)
theorem B6.one (r:B1 F H v t):B6 F H [v] [t]:=.cons r .nil
theorem B6.set {F H:Hp}:∀{vs:List V}{xs:List OV}(j:Nat){v:V}{t:OV},B6 F H vs xs->B1 F H v t->B6 F H (vs.set j v) (xs.set j t)
 | _,_,_,_,_,.nil,_=>.nil
 | _,_,0,_,_,.cons _ t,r=>.cons r t
 | _,_,j+1,_,_,.cons q t,r=>.cons q (B6.set j t r)
theorem B6.swap {F H H':Hp}{y:OV}:∀{vs:List V}{xs:List OV}{j:Nat}{x:OV}{v:V},B6 F H vs xs->xs[j]?=some x->vs[j]?=some v->(∀l r,OV.Al xs=l++x.addrs++r->(∀z:OV,OV.Al (xs.set j z)=l++z.addrs++r)->∀b∈l++r,∀o,H b=some o->H' b=some o)->B1 F H' v y->B6 F H' vs (xs.set j y)
 | _,x::xs,0,z,w,.cons r t,h,hv,hk,ry=>by
  simp at h hv;subst h;subst hv;rw[So];have e:∀z:OV,OV.Al ((x::xs).set 0 z)=[]++z.addrs++OV.Al xs:=fun z=>by rw[So,OV.D1];rfl
  exact .cons ry (t.mono (A8.refl _) fun b hb o=>hk [] (OV.Al xs) (by rw[OV.D1];rfl) e b (by simpa using hb) o)
 | _,x::xs,j+1,z,w,.cons r t,h,hv,hk,ry=>by
  rw[Sn];have h':xs[j]?=some z:=by simpa using h
  obtain⟨l,q,e1,e2⟩:=Ir h';refine .cons (r.mono (A8.refl _) fun b hb o=>hk (x.addrs++l) q (by rw[OV.D1,e1];simp[CC]) (fun z=>by rw[Sn,OV.D1,e2];simp[CC]) b (by simp[hb]) o) (B6.swap (v:=w) t h' (by simpa using hv) (fun l' r' Dw CF b hb o=>hk (x.addrs++l') r' (by rw[OV.D1,Dw];simp[CC]) (fun z=>by rw[Sn,OV.D1,CF];simp[CC]) b (by rcases List.mem_append.mp hb with hz | hz <;> simp[hz]) o) ry)
theorem B1.at {F H:Hp}{u:OV}:∀{p:List Nat}{t:OV}{v:V},B1 F H v t->t.at p=some u->∃w,B1 F H w u/\∀(H':Hp) (n:OV),B1 F H' w n->(∀l r,t.addrs=l++u.addrs++r->(∀n:OV,(t.put p n).addrs=l++n.addrs++r)->∀b∈l++r,∀o,H b=some o->H' b=some o)->B1 F H' v (t.put p n)
 | [],t,v,h,e=>by rw[OV.JD] at e;cases e;exact⟨v,h,fun H' n r _=>by rw[OV.GK];exact r⟩
 | j::p,.fz q,v,h,e=>by rw[OV.at] at e;cases e
 | j::p,.nd k a xs,_,.nd h sd ft r,e=>by
  rw[OV.L7] at e;cases ex:xs[j]? with
  | none=>rw[ex] at e;cases e
  | some x=>
   rw[ex] at e;obtain⟨vj,WY,rj⟩:=r.get ex;obtain⟨w,rw_,go⟩:=B1.at (t:=x) rj e;refine⟨w,rw_,fun H' n rn hk=>?_⟩;obtain⟨l2,r2,f1,f2⟩:=OV.split e;have key:∀l r,OV.Al xs=l++x.addrs++r->(∀z:OV,OV.Al (xs.set j z)=l++z.addrs++r)->∀b,b∈(a::(k.more++(l++l2)))++(r2++r)->∀o,H b=some o->H' b=some o:=fun l r e1 e2 b hb o=>
    hk (a::(k.more++(l++l2))) (r2++r) (by rw[OV.DR,e1,f1];simp[CC]) (fun n=>by rw[OV.Iy ex,OV.DR,e2,f2];simp[CC]) b hb o
   obtain⟨l,q,e1,e2⟩:=Ir ex;rw[OV.Iy ex];refine .nd (key l q e1 e2 a (by simp) _ h) (NK.j6 sd fun b hb=>key l q e1 e2 b (by simp[hb])) ft ?_;refine r.swap ex WY (fun l' r' Dw CF b hb o=>key l' r' Dw CF b (by rcases List.mem_append.mp hb with hz | hz <;> simp[hz]) o) ?_
   refine go H' n rn fun l' r' g1 g2 b hb o=>?_;refine hk (a::(k.more++(l++l'))) (r'++q) (by rw[OV.DR,e1,g1];simp[CC]) (fun n=>by rw[OV.Iy ex,OV.DR,e2,g2];simp[CC]) b (by rcases List.mem_append.mp hb with hz | hz <;> simp[hz]) o
 | j::p,.tp xs,_,.tp h r,e=>by
  rw[OV.NB] at e;cases ex:xs[j]? with
  | none=>rw[ex] at e;cases e
  | some x=>
   rw[ex] at e;obtain⟨vj,WY,rj⟩:=r.get ex;obtain⟨w,rw_,go⟩:=B1.at (t:=x) rj e;refine⟨w,rw_,fun H' n rn hk=>?_⟩;obtain⟨l2,r2,f1,f2⟩:=OV.split e;obtain⟨l,q,e1,e2⟩:=Ir ex;rw[OV.Sa ex];refine .tp h (r.swap ex WY (fun l' r' Dw CF b hb o=>?_) (go H' n rn fun l' r' g1 g2 b hb o=>?_))
   ·exact hk (l'++l2) (r2++r') (by rw[OV.HR,Dw,f1];simp[CC]) (fun n=>by rw[OV.Sa ex,OV.HR,CF,f2];simp[CC]) b (by rcases List.mem_append.mp hb with hz | hz <;> simp[hz]) o
   ·exact hk (l++l') (r'++q) (by rw[OV.HR,e1,g1];simp[CC]) (fun n=>by rw[OV.Sa ex,OV.HR,e2,g2];simp[CC]) b (by rcases List.mem_append.mp hb with hz | hz <;> simp[hz]) o
theorem Xx {l u r n:List Addr}(h:(l++u++r).Nodup)(hn:n.Nodup)(hd:∀b∈n,b∈u∨b∉l++u++r):(l++n++r).Nodup:=by
 rw[Bu] at h ⊢;obtain⟨h1,h2,h3⟩:=h;rw[Bu] at h1 ⊢;obtain⟨a1,a2,a3⟩:=h1;refine⟨⟨a1,hn,fun a ha b hb e=>?_⟩,h2,fun a ha b hb e=>?_⟩
 ·subst e;rcases hd a hb with z | z
  ·exact a3 a ha a z rfl
  ·exact z (by simp[ha])
 ·subst e;rcases List.mem_append.mp ha with ha | ha
  ·exact h3 a (by simp[ha]) a hb rfl
  ·rcases hd a ha with z | z
   ·exact h3 a (by simp[z]) a hb rfl
   ·exact z (by simp[hb])
theorem Sg.VQ (S:Sg E ss σ F H){k:NK}{xs:List OV}{ho:HO}{lt:Bool}(hi:ss[i]?=some (.ow lt t))(Bh:t.at p=some (.nd k a xs))(hn:B1 F (upd H a ho) (.ref a) n)(nd:n.addrs.Nodup)
  (l9:∀b∈n.addrs,b∈(OV.nd k a xs).addrs∨(F b=none/\E.H0 b=none/\∀(j:Nat) s,ss[j]?=some s->¬ BI s σ[j]? b)):Sg E (ss.set i (.ow lt (t.put p n))) σ F (upd H a ho):=by
 obtain⟨v,e,r,Xi,q⟩:=S.ok i _ hi;obtain⟨l,rr,e1,e2⟩:=OV.split Bh;have au:a∈(OV.nd k a xs).addrs:=by rw[OV.DR];simp
 have ut:∀b∈(OV.nd k a xs).addrs,b∈t.addrs:=fun b hb=>by rw[e1];simp[hb]
 have Fm:∀b∈n.addrs,b∈(OV.nd k a xs).addrs∨b∉t.addrs:=fun b hb=>(l9 b hb).imp id fun z m=>z.2.2 i _ hi m;obtain⟨w,rw_,go⟩:=r.at Bh;have ew:w=.ref a:=by cases rw_;rfl
 subst ew;have ne1:∀(j:Nat) s,(ss.set i .any)[j]?=some s->∀b,b∈t.addrs->¬ BI s σ[j]? b:=fun j s hj b hb m=>by
  by_cases z:j=i
  ·subst z;rw[Ci (List.getElem?_eq_some_iff.mp hi).1] at hj;cases hj;cases m
  ·rw[CG (BP z)] at hj;exact S.BZ j i s _ b z hj hi m hb
 have S2:=(S.drop i).XE (o:=ho) (q a (ut a au)).1 ((q a (ut a au)).2.imp id fun z=>z.2) fun j s hj=>ne1 j s hj a (ut a au);have cu:=Xi;rw[e1,Bu,Bu] at cu;obtain⟨⟨_,_,d1⟩,_,d2⟩:=cu;have ZGt:∀b,b∈l++rr->b≠a:=fun b hb z=>by
  subst z;rcases List.mem_append.mp hb with hb | hb
  ·exact d1 b hb b au rfl
  ·exact d2 b (by simp[au]) b hb rfl
 have r2:B1 F (upd H a ho) v (t.put p n):=go _ n hn fun l' r' g1 g2 b hb o xE=>by
  rw[Ad ?_];exact xE;rintro rfl;have eF:=Xi;rw[g1,Bu,Bu] at eF;obtain⟨⟨_,_,c1⟩,_,c2⟩:=eF;rcases List.mem_append.mp hb with hb | hb
  ·exact c1 b hb b au rfl
  ·exact c2 b (by simp[au]) b hb rfl
 have ad:∀b∈(t.put p n).addrs,b∈t.addrs∨(F b=none/\E.H0 b=none/\∀(j:Nat) s,ss[j]?=some s->¬ BI s σ[j]? b):=fun b hb=>by
  rw[e2] at hb;rcases List.mem_append.mp hb with hb | hb
  ·rcases List.mem_append.mp hb with hb | hb
   ·exact .inl (by rw[e1];simp[hb])
   ·exact(l9 b hb).imp (ut b) id
  ·exact .inl (by rw[e1];simp[hb])
 have S3:=S2.setG (j:=i) (s:=.ow lt (t.put p n)) (v:=v) ⟨v,rfl,r2,by rw[e2];exact Xx (e1▸Xi) nd fun b hb=>(Fm b hb).imp id (by rw[e1];exact id),fun b hb=>(ad b hb).elim (q b) fun z=>⟨z.1,.inl z.2.1⟩⟩ fun b hb j s hj hs m=>by
  rcases ad b hb with z | z
  ·exact ne1 j s hs b z m
  ·rw[CG (BP hj)] at hs;exact z.2.2 j s hs m
 rw[QM e,Ze] at S3;exact S3
structure Wl [Xw] (ss:List Slot) (i:Nat) (t:OV) (te:TE) (k:List Nat->OV->Prop):Prop where
 hi:∃lt,ss[i]?=some (.ow lt t)
 go:∀(E:Ent) (σ:L2.St) (F H:Hp) (Q:VK),Sg E ss σ F H->(∀v p u F' H',Mv E ss σ F H F' H'->B1 F' H' v u->t.at p=some u->k p u->Q v H')->te σ H Q
def DT:List Nat->List Slot->List Slot
 | [],ss=>ss
 | i::m,ss=>DT m (ss.set i .any)
structure Wx [Xw] (ss:List Slot) (te:TE) (k:List Nat->OV->Prop):Prop where
 go:∀(E:Ent) (σ:L2.St) (F H:Hp) (Q:VK),Sg E ss σ F H->(∀v m u F' H',Mv E ss σ F H F' H'->B1 F' H' v u->u.addrs.Nodup->(∀a∈u.addrs,F' a=none/\E.H0 a=none/\((∃i∈m,∃s,s≠Slot.AD/\ss[i]?=some s/\BI s σ[i]? a)∨H a=none))->k m u->Q v H')->te σ H Q
structure MD [Xw] (ss:List Slot) (te:TA) (k:List Nat->List OV->Prop):Prop where
 go:∀(E:Ent) (σ:L2.St) (F H:Hp) (Q:List V->Hp->Prop),Sg E ss σ F H->(∀vs m us F' H',Mv E ss σ F H F' H'->B6 F' H' vs us->(OV.Al us).Nodup->(∀a∈OV.Al us,F' a=none/\E.H0 a=none/\((∃i∈m,∃s,s≠Slot.AD/\ss[i]?=some s/\BI s σ[i]? a)∨H a=none))->k m us->Q vs H')->te σ H Q
section
variable [Xw]
variable {K:ZHP}{k:PV->Prop}
theorem OV.J4 (h:t.at p=some u):∀a∈u.addrs,a∈t.addrs:=fun a ha=>by
 obtain⟨l,r,e,_⟩:=OV.split h;rw[e];simp[ha]
theorem B1.mv (r:B1 F H v u)(S:Sg E ss σ F H)(hi:∃lt,ss[i]?=some (.ow lt t))(h:t.at p=some u)(m:Mv E ss σ F H F' H'):B1 F' H' v u:=
 r.mono m.ff fun a ha o e=>m.hh a o (S.OM hi.choose_spec (OV.J4 h a ha) (by simp)) e
theorem Dd {lt:Bool}{k:List Nat->OV->Prop}(hi:ss[i]?=some (.ow lt t))(hk:k [] t):Wl ss i t (BQ i) k:=⟨⟨lt,hi⟩,fun E σ F H Q S q=>by
 obtain⟨v,e,r,_,_⟩:=S.ok i _ hi;exact⟨v,e,q v [] t F H (.refl S) r OV.JD hk⟩⟩
theorem S9 {k:List Nat->OV->Prop}(h:Wl ss i t ta fun p u=>∃a xs,u=.nd .lst a xs/\Wp ss tb fun q=>∃(j:Int) (n:Nat) (w:OV),q=.int j/\HH xs.length j=some n/\xs[n]?=some w/\k (p++[n]) w):Wl ss i t (C5 (K3 K) ta tb) k:=⟨h.hi,fun E σ F H Q S q=>
 h.go E σ F H _ S fun v p u F1 H1 m1 r1 h1 ⟨a,xs,eu,h2⟩=>h2.go E σ F1 H1 _ m1.st fun v2 p2 F2 H2 m2 r2 ⟨j,n,w,e,hn,hw,kk⟩=>by
  subst e;cases r2.inv;have r3:=r1.mv m1.st h.hi h1 m2;subst eu;obtain⟨_,rfl,ha,sd,ft,rr⟩:=r3.inv;obtain⟨x,hx,rx⟩:=rr.get hw;refine⟨a,_,j,x,rfl,rfl,AI.of ha,?_,q x (p++[n]) w F2 H2 (m1.trans m2) rx (OV.MU h1 (by rw[OV.L7,hw];exact OV.JD)) kk⟩;unfold L2.Bf;rw[rr.length,hn];exact hx⟩
theorem RN {k:List Nat->OV->Prop}(h:Wl ss i t ta fun p u=>∃xs,u=.tp xs/\Wp ss tb fun q=>∃(j:Int) (n:Nat) (w:OV),q=.int j/\HH xs.length j=some n/\xs[n]?=some w/\k (p++[n]) w):Wl ss i t (C5 (Jh K) ta tb) k:=⟨h.hi,fun E σ F H Q S q=>
 h.go E σ F H _ S fun v p u F1 H1 m1 r1 h1 ⟨xs,eu,h2⟩=>h2.go E σ F1 H1 _ m1.st fun v2 p2 F2 H2 m2 r2 ⟨j,n,w,e,hn,hw,kk⟩=>by
  subst e;cases r2.inv;have r3:=r1.mv m1.st h.hi h1 m2;subst eu;obtain⟨_,_,rfl,ha,rr⟩:=r3.inv;obtain⟨x,hx,rx⟩:=rr.get hw;refine⟨_,_,j,x,rfl,rfl,AA.of (m2.st.fh _ _ ha),?_,q x (p++[n]) w F2 H2 (m1.trans m2) rx (OV.MU h1 (by rw[OV.NB,hw];exact OV.JD)) kk⟩;unfold L2.Bf;rw[rr.length,hn];exact hx⟩
theorem DW (h:Wl ss i t te fun _ u=>∃p,u=.fz p/\k p):Wp ss te k:=⟨fun E σ F H Q S q=>
 h.go E σ F H _ S fun v p u F1 H1 m1 r1 h1 AJ=>by obtain⟨p,eu,kk⟩:=AJ;subst eu;cases r1 with | fz r=>exact q v p F1 H1 m1 r kk⟩
theorem FX {k:List Nat->OV->Prop}(h:Wp ss te fun p=>k [] (.fz p)):Wx ss te k:=⟨fun E σ F H Q S q=>
 h.go E σ F H _ S fun v p F1 H1 m1 r kk=>q v [] (.fz p) F1 H1 m1 (.fz r) (by rw[OV.Qp];exact P0) (fun a ha=>by rw[OV.Qp] at ha;cases ha) kk⟩
theorem Yo {k:List Nat->List OV->Prop}(h:k [] []):MD ss B8 k:=⟨fun E σ F H Q S q=>q _ [] [] F H (.refl S) .nil (by rw[OV.Ib];exact P0) (fun a ha=>by rw[OV.Ib] at ha;cases ha) h⟩
theorem Wx.ZDy (S:Sg E ss σ F H)(h:(∃i∈m,∃s,s≠Slot.AD/\ss[i]?=some s/\BI s σ[i]? a)∨H a=none):CK ss σ a:=by
 rcases h with⟨j,_,s,hp,hs,o⟩|z
 ·exact S.OM hs o hp
 ·exact S.OH z
theorem Mv.sR (m:Mv E ss σ F H F' H')(h:F a=Option.none)(h2:H a≠Option.none):F' a=Option.none:=by
 cases e:F' a with
 | none=>rfl
 | some o=>
  rcases m.nn a o e with z | z
  ·rw[h] at z;cases z
  ·exact absurd z h2
theorem WH {k:List Nat->List OV->Prop}(h:Wx ss te fun m u=>MD ss tr fun m2 us=>(∀i∈m,i∉m2)/\k (m++m2) (u::us)):MD ss (AY te tr) k:=⟨fun E σ F H Q S q=>
 h.go E σ F H _ S fun v m u F1 H1 m1 r1 Ea a1 h2=>h2.go E σ F1 H1 _ m1.st fun vs u4 us F2 H2 m2 r2 GH a2 AJ=>by
  obtain⟨dj,kk⟩:=AJ;have np:∀a∈u.addrs,CK ss σ a:=fun a ha=>Wx.ZDy S (a1 a ha).2.2;refine q (v::vs) (m++u4) (u::us) F2 H2 (m1.trans m2) (.cons (r1.mono m2.ff fun a ha o e=>m2.hh a o (np a ha) e) r2) ?_ (fun a ha=>?_) kk
  ·rw[OV.D1,Bu];refine⟨Ea,GH,fun a ha b hb e=>?_⟩;subst e;rcases(a2 a hb).2.2 with⟨j2,hj2,s2,Pl,D4,o2⟩|z
   ·rcases(a1 a ha).2.2 with⟨j,hj,s,hp,hs,o⟩|z
    ·exact S.BZ j j2 s s2 a (by rintro rfl;exact dj j hj hj2) hs D4 o o2
    ·exact S.Dv D4 o2 z
   ·exact r1.there a ha z
  ·rw[OV.D1] at ha;rcases List.mem_append.mp ha with ha | ha
   ·obtain⟨f,h0,w⟩:=a1 a ha;exact⟨m2.sR f (r1.there a ha),h0,w.imp (fun Dk=>by obtain⟨j,hj,z⟩:=Dk;exact⟨j,by simp[hj],z⟩) id⟩
   ·obtain⟨f,h0,w⟩:=a2 a ha;exact⟨f,h0,w.imp (fun XT=>by obtain⟨j,hj,z⟩:=XT;exact⟨j,by simp[hj],z⟩) m1.none⟩⟩
theorem gi {k:List Nat->OV->Prop}(h:MD ss tr fun m us=>us.length<=100000/\∀l,k m (.nd .lst l us)):Wx ss (Sd tr) k:=⟨fun E σ F H Q S q=>
 h.go E σ F H _ S fun vs m us F1 H1 m1 r1 Ea a1 AJ=>by obtain⟨hz,kk⟩:=AJ;exact⟨small (by rw[r1.length];exact hz),fun p hp=>by
  have m2:=m1.st.make hp (.lst vs);have J7:p∉OV.Al us:=fun ha=>r1.there _ ha hp;refine q _ m (.nd .lst p us) _ _ (m1.trans m2) (.nd (k:=.lst) AH trivial trivial (r1.mono m2.ff fun a ha o e=>by rw[Ad (by rintro rfl;exact J7 ha)];exact e)) ?_ (fun a ha=>?_) (kk p)
  ·rw[OV.DR];exact List.nodup_cons.mpr ⟨J7,Ea⟩
  ·rw[OV.DR] at ha;rcases List.mem_cons.mp ha with e | ha
   ·subst e;exact⟨m1.st.BU hp,m1.st.E8 hp,.inr (m1.none hp)⟩
   ·obtain⟨f,h0,w⟩:=a1 a ha;exact⟨f,h0,w⟩⟩⟩
theorem Oa {j:Nat}{s:Slot}:∀{m:List Nat}{ss:List Slot},(DT m ss)[j]?=some s->s=.any∨(ss[j]?=some s/\j∉m)
 | [],ss,h=>.inr ⟨h,by simp⟩
 | i::m,ss,h=>by
  rcases Oa (m:=m) (ss:=ss.set i .any) h with e | ⟨e,hm⟩
  ·exact .inl e
  ·by_cases q:j=i
   ·subst q;have AW:j<ss.length:=by have:=(List.getElem?_eq_some_iff.mp e).1;simpa using this
    rw[Ci AW] at e;exact .inl (BS e).symm
   ·rw[CG (BP q)] at e;exact .inr ⟨e,by simp[q,hm]⟩
theorem Sg.DT {E:Ent0}{σ:L2.St}{F H:Hp}:∀(m:List Nat){ss:List Slot},Sg E ss σ F H->Sg E (Fz.DT m ss) σ F H
 | [],_,S=>S
 | i::m,_,S=>Sg.DT m (S.drop i)
theorem Sg.ik (S0:Sg E ss σ F0 H0)(S:Sg E ss σ F H)(r:B1 F H v u)(nd:u.addrs.Nodup)(hu:∀a∈u.addrs,F a=none/\E.H0 a=none/\((∃i∈m,∃s,s≠Slot.AD/\ss[i]?=some s/\BI s σ[i]? a)∨H0 a=none)):
  Sg E ((Fz.DT m ss).set j (.ow false u)) (σ.set j (some v)) F H:=by
 refine(S.DT m).setG ⟨v,rfl,r,nd,fun a ha=>⟨(hu a ha).1,.inl (hu a ha).2.1⟩⟩ fun a ha i s Bs hs o=>?_;rcases Oa hs with e | ⟨GX,hm⟩
 ·subst e;cases o
 ·rcases(hu a ha).2.2 with⟨i2,EC,s2,_,D4,o2⟩|z
  ·exact S.BZ i i2 s s2 a (by rintro rfl;exact hm EC) GX D4 o o2
  ·exact S0.Dv GX o z
theorem fm (h:Wx ss te fun m u=>nx ((Fz.DT m ss).set j (.ow false u))):Ws ss (Fb te (Du j)) nx R:=⟨fun E D σ F H S hn hr=>
 h.go E σ F H _ S fun v m u F1 H1 m1 r nd hu kk=>hn _ _ F1 H1 kk (Sg.ik S m1.st r nd hu) m1.ff⟩
theorem B1.rep (ff:A8 F F1):∀{v:V}{t:OV},B1 F H v t->(∀a∈t.addrs,∀o,H a=some o->F1 a=some o)->Rep F1 v t.pv:=by
 intro v t r h;exact B1.rec (motive_1:=fun v t _=>(∀a∈t.addrs,∀o,H a=some o->F1 a=some o)->Rep F1 v t.pv) (motive_2:=fun vs ts _=>(∀a∈OV.Al ts,∀o,H a=some o->F1 a=some o)->AO F1 vs (OV.Fo ts))
  (fun {v p} r _=>by rw[OV.pv];exact r.mono ff)
  (fun {a vs xs} e _ ih h=>by rw[OV.pv];exact .tup (ff _ _ e) (ih (by rw[OV.HR] at h;exact h)))
  (fun {k a vs xs} e sd ft _ ih h=>by
   rw[OV.DR] at h;have Mb:=ih fun a ha=>h a (by simp[ha]);have e':=h a (by simp) _ e;cases k with
   | lst=>rw[OV.pv];exact .lst e' Mb
   | Aq ks=>rw[OV.pv];exact .Aq e' ft Mb
   | obj C dx ns=>rw[OV.pv];exact .obj e' (h dx (by simp[NK.more]) _ sd) ft Mb)
  (fun _=>by rw[OV.Fo];exact .nil)
  (fun _ _ X4 UC h=>by
   rw[OV.D1] at h;rw[OV.Fo];exact .cons (X4 fun a ha=>h a (by simp[ha])) (UC fun a ha=>h a (by simp[ha])))
  r h
variable {lt:Bool}
theorem LQ:(OV.nd .lst a us).addrs=a::OV.Al us:=by rw[OV.DR];rfl
theorem Kz:∀(us ws:List OV),OV.Al (us++ws)=OV.Al us++OV.Al ws
 | [],ws=>by rw[Zb,OV.Ib,Zb]
 | u::us,ws=>by rw[ZS,OV.D1,OV.D1,Kz us ws,CC]
theorem Lu (u:OV):OV.Al [u]=u.addrs:=by rw[OV.D1,OV.Ib,Et]
theorem Sg.ZEE {us':List OV}(S0:Sg E ss σ F0 H0)(S:Sg E ss σ F H)(hi:ss[i]?=some (.ow lt t))(Bh:t.at p=some (.nd .lst a us))
  (hu:∀a∈u.addrs,F a=none/\E.H0 a=none/\((∃i∈m,∃s,s≠Slot.AD/\ss[i]?=some s/\BI s σ[i]? a)∨H0 a=none)) (ER:i∉m)
  (hr:B6 F H CB us') (Mt:(OV.Al us').Nodup) (EJ:∀b∈OV.Al us',b∈OV.Al us∨b∈u.addrs):Sg E ((Fz.DT m ss).set i (.ow lt (t.put p (.nd .lst a us')))) σ F (upd H a (.lst CB)):=by
 have DM:(Fz.DT m ss)[i]?=some (.ow lt t):=by
  have aux:∀(m:List Nat) (ss:List Slot),ss[i]?=some (.ow lt t)->i∉m->(Fz.DT m ss)[i]?=some (.ow lt t):=by
   intro m
   induction m with
   | nil=>intro ss h _;exact h
   | cons j m ih=>
    intro ss h hm;refine ih _ ?_ fun z=>hm (by simp[z]);rw[CG (by rintro rfl;exact hm (by simp))];exact h
  exact aux m ss hi ER
 obtain⟨v,e,r,nd,q⟩:=S.ok i _ hi;have ut:∀b,b∈a::OV.Al us->b∈t.addrs:=fun b hb=>OV.J4 Bh b (by rw[LQ];exact hb);have Ma:∀b∈u.addrs,b∉t.addrs:=fun b hb z=>by
  rcases(hu b hb).2.2 with⟨j,hj,s,_,hs,o⟩|w
  ·exact S.BZ j i s _ b (by rintro rfl;exact ER hj) hs hi o z
  ·exact S0.Dv hi z w
 have DI:(OV.nd .lst a us).addrs.Nodup:=by
  obtain⟨l,rr,e1,_⟩:=OV.split Bh;rw[e1,Bu,Bu] at nd;exact nd.1.2.1
 rw[LQ] at DI;have na:∀b∈OV.Al us',b≠a:=fun b hb z=>by
  subst z;rcases EJ b hb with w | w
  ·exact(List.nodup_cons.mp DI).1 w
  ·exact Ma b w (ut b (by simp))
 refine(S.DT m).VQ DM Bh (.nd (k:=.lst) AH trivial trivial (hr.mono (A8.refl _) fun b hb o ho=>by rw[Ad (na b hb)];exact ho)) (by rw[LQ];exact List.nodup_cons.mpr ⟨fun z=>na a z rfl,Mt⟩) fun b hb=>?_;rw[LQ] at hb ⊢;rcases List.mem_cons.mp hb with w | w
 ·exact .inl (by simp[w])
 ·rcases EJ b w with z | z
  ·exact .inl (by simp[z])
  ·refine .inr ⟨(hu b z).1,(hu b z).2.1,fun j s hs o=>?_⟩;rcases Oa hs with y | ⟨GX,hm⟩
   ·subst y;cases o
   ·rcases(hu b z).2.2 with⟨i2,EC,s2,_,D4,o2⟩|y
    ·exact S.BZ j i2 s s2 b (by rintro rfl;exact hm EC) GX D4 o o2
    ·exact S0.Dv GX o y
theorem dW (h:Wl ss i t ta fun p u=>∃lt a us,ss[i]?=some (.ow lt t)/\u=.nd .lst a us/\us.length<=99999/\Wx ss te fun m w=>i∉m/\nx ((DT m ss).set i (.ow lt (t.put p (.nd .lst a (us++[w])))))):Ws ss (Ki (NG K "list" Nv ta (AY te B8))) nx R:=⟨fun E D σ F H S hn hr=>
 h.go E σ F H _ S fun v p u F1 H1 m1 r1 h1 ⟨lt,a,us,hi,eu,hz,hw⟩=>by
  subst eu;cases r1 with
  | @nd k a' vs _ ha sd ft rr=>
   refine .inl ⟨rfl,_,AI.of ha⟩ |> fun q0=>⟨q0,hw.go E σ F1 H1 _ m1.st fun v2 m w F2 H2 m2 r2 GH a2 ⟨ER,kk⟩=>?_⟩;have r3:=(B1.nd (k:=.lst) ha sd ft rr).mv m1.st h.hi h1 m2;cases r3 with
   | @nd _ _ bf _ x3 sd3 ft3 dX=>
    refine⟨a,bf,v2,rfl,rfl,x3,LZ (by rw[dX.length];exact hz),?_⟩;refine hn _ σ F2 _ kk (Sg.ZEE (u:=w) m1.st m2.st hi h1 a2 ER (dX.append (.one r2)) ?_ fun b hb=>?_) (m1.ff.trans m2.ff)
    ·rw[Kz,Lu,Bu];obtain⟨v0,e0,r0,D9,q0⟩:=m2.st.ok i _ hi;have DI:(OV.nd .lst a us).addrs.Nodup:=by
      obtain⟨l,rr,e1,_⟩:=OV.split h1;rw[e1,Bu,Bu] at D9;exact D9.1.2.1
     rw[LQ] at DI;refine⟨(List.nodup_cons.mp DI).2,GH,fun x hx y hy e=>?_⟩;subst e;have xt:x∈t.addrs:=OV.J4 h1 x (by rw[LQ];simp[hx]);rcases(a2 x hy).2.2 with⟨j,hj,s,_,hs,o⟩|w
     ·exact m1.st.BZ j i s _ x (by rintro rfl;exact ER hj) hs hi o xt
     ·exact m1.st.Dv hi xt w
    ·rw[Kz,Lu] at hb;exact List.mem_append.mp hb⟩
theorem mN {k:OV->Prop}(h:Wx ss te fun _ u=>k u):Ws ss (Hc te) nx (.ow k):=⟨fun E D σ F H S hn hr=>
 h.go E σ F H _ S fun v m u F1 H1 m1 r nd hu kk=>hr v F1 H1 m1.st.toFin ⟨u,r,nd,fun a ha=>⟨(hu a ha).1,(hu a ha).2.1⟩,kk⟩⟩
theorem pO {ta:TA}{k:List Nat->OV->Prop}(hj:ss[j]?=some .AD)(h:Wa ss ta fun l=>∃k',pre (.AD::l) (.ow k')/\∀u,k' u->k [] u):Wx ss (CD (Ar pre) [] E0 (AY (BQ j) ta)) k:=⟨fun E σ F H Q S q=>by
 obtain⟨p,e,_⟩:=S.ok j _ hj;refine⟨_,e,h.go E σ F H _ S fun vs l F1 H1 m1 a ⟨k',hp,kk⟩=>?_⟩;show Ar pre ((V.ref p::vs)++[]) H1 Q E0;rw[Et];refine⟨.AD::l,.ow k',F1,[p],hp,m1.st.ka hj e a,fun v F' H' f ⟨u,r,nd,hu,ku⟩=>?_⟩;exact q v [] u F' H' (m1.trans (m1.st.back (A:=[p]) (fun a h=>⟨j,hj,(show a=p from by simpa using h)▸e⟩) f)) r nd (fun a ha=>⟨(hu a ha).1,S.E8 (m1.none (hu a ha).2),.inr (m1.none (hu a ha).2)⟩) (kk u ku)⟩
end
def ptr (a:Addr):Hp->V->Prop:=fun _ v=>v=.ref a
def BX:List Slot->L2.St->List Addr
 | .own _::ss,some (.ref l)::σ=>l::BX ss σ
 | .ow _ t::ss,_::σ=>t.addrs++BX ss σ
 | _::ss,_::σ=>BX ss σ
 | _,_=>[]
theorem iP:∀{ss:List Slot}{σ:L2.St} {a:Addr},a∈BX ss σ->∃(i:Nat) (s:Slot),ss[i]?=some s/\s≠.AD/\BI s σ[i]? a
 | [],σ,a,h=>by simp[BX] at h
 | s::ss,[],a,h=>by cases s <;> simp[BX] at h
 | s::ss,o::σ,a,h=>by
  have up:a∈BX ss σ->∃(i:Nat) (s':Slot),(s::ss)[i]?=some s'/\s'≠.AD/\BI s' (o::σ)[i]? a:=fun h=>by
   obtain⟨i,s',h1,h2,h3⟩:=iP h;exact⟨i+1,s',by simpa using h1,h2,by simpa using h3⟩
  cases s with
  | own xs=>
   cases o with
   | none=>exact up (by simpa[BX] using h)
   | some v=>
    cases v with
    | ref l=>
     rw[BX] at h;rcases List.mem_cons.mp h with e | h
     ·subst e;exact⟨0,_,rfl,by simp,rfl⟩
     ·exact up h
    | _=>exact up (by simpa[BX] using h)
  | ow lt t=>
   rw[BX] at h;rcases List.mem_append.mp h with h | h
   ·exact⟨0,_,rfl,by simp,h⟩
   ·exact up h
  | _=>exact up (by simpa[BX] using h)
theorem Rn:∀{ss:List Slot}{σ:L2.St} {i:Nat}{s:Slot}{a:Addr},ss.length=σ.length->ss[i]?=some s->s≠.AD->BI s σ[i]? a->a∈BX ss σ
 | [],σ,i,s,a,_,h,_,_=>by simp at h
 | s0::ss,[],i,s,a,hl,_,_,_=>by simp at hl
 | s0::ss,o::σ,0,s,a,hl,h,hp,ho=>by
  simp at h;subst h;cases s0 with
  | own xs=>
   have e:o=some (.ref a):=by have:some o=some (some (V.ref a)):=ho;exact BS this
   subst e;rw[BX];simp
  | ow lt t=>rw[BX];exact Io _ ho
  | AD=>exact absurd rfl hp
  | _=>cases ho
 | s0::ss,o::σ,i+1,s,a,hl,h,hp,ho=>by
  have q:=Rn (ss:=ss) (σ:=σ) (i:=i) (a:=a) (by simpa using hl) (by simpa using h) hp (by simpa using ho)
  cases s0 with
  | own xs=>cases o with
   | none=>simpa[BX] using q
   | some v=>cases v with
    | ref l=>rw[BX];simp[q]
    | _=>simpa[BX] using q
  | ow lt t=>rw[BX];exact Ef _ q
  | _=>simpa[BX] using q
mutual
theorem B1.Kv {F H:Hp}:∀{v:V}{t:OV},B1 F H v t->∀a∈t.addrs,∀vs,H a≠some (.tup vs)
 | _,_,.fz _,a,ha,_=>by rw[OV.Qp] at ha;cases ha
 | _,_,.tp _ r,a,ha,vs=>by rw[OV.HR] at ha;exact B6.Kv r a ha vs
 | _,_,@B1.nd _ _ k b ws xs h sd ft r,a,ha,vs=>by
  rw[OV.DR,DN,Gx] at ha;rcases ha with rfl | ha | ha
  ·rw[h];cases k <;> simp[NK.ho]
  ·cases k with
   | obj C dx ns=>
    have e:a=dx:=by simpa[NK.more] using ha
    subst e;have U9:H a=some (.own b):=sd;rw[U9];simp
   | _=>simp[NK.more] at ha
  ·exact B6.Kv r a ha vs
theorem B6.Kv {F H:Hp}:∀{vs:List V}{ts:List OV},B6 F H vs ts->∀a∈OV.Al ts,∀ws,H a≠some (.tup ws)
 | _,_,.nil,a,ha,_=>by rw[OV.Ib] at ha;cases ha
 | _,_,.cons r t,a,ha,ws=>by
  rw[OV.D1,Gx] at ha;rcases ha with ha | ha
  ·exact B1.Kv r a ha ws
  ·exact B6.Kv t a ha ws
end
mutual
def Em:PV->Bool
 | .lst _=>false
 | .Aq _ _=>false
 | .obj _ _ _=>false
 | .exc _ _ _=>false
 | .tup xs=>GC xs
 | _=>true
def GC:List PV->Bool
 | []=>true
 | x::r=>Em x && GC r
end
def FD (F:Hp)(as:List Addr):Hp:=fun a=>if a∈as then none else F a
theorem Rep.sub {as:List Addr}(h:∀a∈as,∀vs,F a≠some (.tup vs)):∀{v:V}{p:PV},Rep F v p->Em p=true->Rep (FD F as) v p:=by
 intro v p r hn;exact Rep.rec (motive_1:=fun v p _=>Em p=true->Rep (FD F as) v p) (motive_2:=fun vs ps _=>GC ps=true->AO (FD F as) vs ps)
  (fun _=>.AF) (fun b _=>.bl b) (fun i _=>.int i) (fun x _=>.str x)
  (fun _ _ _ z=>by simp[Em] at z)
  (fun {a vs xs} e _ ih z=>.tup (by unfold FD;rw[nr (fun q=>h a q vs e)];exact e) (ih (by simpa[Em] using z)))
  (fun _ _ _ _ z=>by simp[Em] at z)
  (fun _ _ _ _ _ z=>by simp[Em] at z)
  (fun _=>.con)
  (fun _ z=>by simp[Em] at z)
  (fun _ _ _ _ _ z=>by simp[Em] at z)
  (fun _=>.nil)
  (fun _ _ X4 UC z=>by
   rw[GC,E4] at z;exact .cons (X4 z.1) (UC z.2))
  r hn
theorem AO.sub {as:List Addr}(h:∀a∈as,∀vs,F a≠some (.tup vs)):∀{vs:List V}{ps:List PV},AO F vs ps->GC ps=true->AO (FD F as) vs ps
 | _,_,.nil,_=>.nil
 | _,_,.cons r t,z=>by
  rw[GC,E4] at z;exact .cons (r.sub h z.1) (t.sub h z.2)
structure Wb [Xw] (ss:List Slot) (ta:TA) (k:List PV->Prop):Prop where
 go:∀(E:Ent) (σ:L2.St) (F H:Hp) (Q:List V->Hp->Prop),Sg E ss σ F H->(∀vs ps F' H',Mv E ss σ F H F' H'->AO (BG F' H' (BX ss σ)) vs ps->k ps->Q vs H')->ta σ H Q
theorem Sg.as (S:Sg E ss σ F H)(h:a∈BX ss σ):F a=none/\H a≠none/\(∀vs,H a≠some (.tup vs))/\CK ss σ a:=by
 obtain⟨i,s,hs,hp,ho⟩:=iP h;refine⟨S.mB hs ho,S.Dv hs ho,?_,S.OM hs ho hp⟩;have k:=S.ok i s hs;cases s with
 | own xs=>obtain⟨l,vs,e,_,_,e3,_⟩:=k;rw[show σ[i]?=some (some (.ref a)) from ho] at e;cases e;rw[e3];simp
 | ow lt t=>obtain⟨v,_,r,_⟩:=k;exact r.Kv a ho
 | AD=>exact absurd rfl hp
 | _=>cases ho
theorem Sg.GZ (S:Sg E ss σ F H):A8 F (BG F H (BX ss σ))/\A8 (BG F H (BX ss σ)) H:=by
 refine⟨fun a o e=>?_,fun a o e=>?_⟩
 ·unfold BG;rw[nr (fun q=>by rw[(S.as q).1] at e;cases e)];exact e
 ·unfold BG at e;split at e
  ·exact e
  ·exact S.fh a o e
theorem Sg.lend (S:Sg E ss σ F H)(r:AO (BG F H (BX ss σ)) vs ps):Sg (E3 [] (BG F H (BX ss σ)) H) (ps.map .is) (vs.map some) (BG F H (BX ss σ)) H:=by
 have nn:∀{p:Prop}(a:Addr),a∈([]:List Addr)->p:=fun a h=>absurd h B4;refine⟨⟨S.GZ.2,A8.refl _,fun _ _ _ e=>e,fun _ _ e=>.inl e,fun a h=>nn a h,fun a h=>nn a h,fun a h=>nn a h,fun a h=>nn a h,fun a h=>nn a h,fun a h=>nn a h⟩,by rw[AX,AX,r.length],fun i s hi=>?_,fun i j s u l Bs hi hj ms mu=>?_⟩
 ·rw[Az] at hi;cases e:ps[i]? with
  | none=>rw[e] at hi;cases hi
  | some p=>
   rw[e] at hi;obtain⟨v,hv,rv⟩:=r.get e;have es:Slot.is p=s:=BS hi;subst es;rw[Az,hv];exact⟨v,rfl,rv⟩
 ·rw[Az] at hi;cases e:ps[i]? with
  | none=>rw[e] at hi;cases hi
  | some p=>rw[e] at hi;have es:Slot.is p=s:=BS hi;subst es;cases ms
theorem Sg.Yb (S:Sg E ss σ F H)(f:Fin (E3 [] (BG F H (BX ss σ)) H) F' H'):Mv E ss σ F H (FD F' (BX ss σ)) H'/\∀a∈BX ss σ,∀vs,F' a≠some (.tup vs):=by
 have kp:∀a o,H a=some o->H' a=some o:=fun a o e=>f.keep a o ⟨B4,B4⟩ e;refine⟨S.step (fun a o e=>?_) (fun a o e=>?_) (fun a o _ e=>kp a o e) (fun a o e=>?_) (fun i l hi e=>BY.keep (S.E7 hi e) fun o e=>kp l o e),fun a ha vs e=>?_⟩
 ·unfold FD;rw[nr (fun q=>by rw[(S.as q).1] at e;cases e)];exact f.f0 a o (S.GZ.1 a o e)
 ·unfold FD at e;split at e
  ·cases e
  ·exact f.fh a o e
 ·unfold FD at e;split at e
  ·cases e
  ·rename_i q;rcases f.fresh a o e with z | z
   ·left
    have z':BG F H (BX ss σ) a=some o:=z;unfold BG at z';rw[nr q] at z';exact z'
   ·exact .inr z
 ·obtain⟨o,ho⟩:=Option.ne_none_iff_exists'.mp (S.as ha).2.1;have z:F' a=some o:=f.f0 a o (by show BG F H (BX ss σ) a=some o;unfold BG;rw[pR ha];exact ho);rw[z] at e;cases e;exact(S.as ha).2.2.1 vs ho
section
variable [Xw]
variable {K:ZHP}{k:PV->Prop}{lt:Bool}
theorem bg {k:List PV->Prop}(h:k []):Wb ss B8 k:=⟨fun E σ F H Q S q=>q _ _ F H (.refl S) .nil h⟩
theorem fj {k:List PV->Prop}(h:Wp ss te fun p=>Wb ss tr fun ps=>k (p::ps)):Wb ss (AY te tr) k:=⟨fun E σ F H Q S q=>
 h.go E σ F H _ S fun v p F1 H1 m1 r1 h2=>h2.go E σ F1 H1 _ m1.st fun vs ps F2 H2 m2 r2 kk=>q _ _ F2 H2 (m1.trans m2) (.cons ((r1.mono m2.ff).mono m2.st.GZ.1) r2) kk⟩
end
theorem QZ:∀{xs:List PV},(∀x∈xs,Bg x x=true)->DA xs xs=true
 | [],_=>by rw[DA]
 | x::r,h=>by rw[Rx,h x (by simp),QZ (xs:=r) fun y hy=>h y (by simp[hy])];rfl
theorem Q4 {K:ZHP}:∀(d:Nat){p:PV},dat K d p->Bg p p=true:=by
 intro d
 induction d with
 | zero=>intro p h;cases p <;> first | exact h.elim | (rw[Bg] <;> simp)
 | succ d ih=>
  intro p h;cases p with
  | lst xs=>rw[Bg];exact QZ fun x hx=>ih (h x hx)
  | tup xs=>rw[Bg];exact QZ fun x hx=>ih (h x hx)
  | con a xs=>rw[Bg];exact QZ fun x hx=>ih (h.1 x hx)
  | _=>first | exact h.elim | (rw[Bg] <;> simp)
end Fz
namespace L2
variable {M:Model}{A:Around}{E xe:Value->Shared->Prop}{s:Shared}{base:Heap}{env:Env}{outer:List Env}{C S ea f fI:Addr}{dx tb:Option Addr}{w:World}{mg:ZHR}{N ps sn:List Str}{n name par qual x:Str}{scope:Scope}{cd v:Value}{H:Hp}{X:Cx}{E':St->XK}{Bj Ht np p pos:Pos}{e e0:Expr}{es:List Expr}{t:TA}{ab xB:Bool}{prog:Program}{ZHI pins:ZHQ}{σ:St}{j kk:Nat}{fd:FuncData}{body kg:List Stmt}{b0:Stmt}{iw:(St->XK)->TS}{th:TS}{sp:Sp}
section
variable {K:ZHP}{x t:Addr}
section
open PySem.Builtin PySem.Builtin.ObjectAttr
end
end
end L2
namespace Fz
open L2 Lw
variable {E:Ent0}{ss:List Slot}{σ:L2.St}{F F' H H':Hp}{ta tb tc te:TE}{tp:Bool}{xs:List PV}{nx:List Slot->Prop}{R:B0}{α:Type}{cs ms ns pre u:List Str}{x:Str}{g i:Nat}
def C9 (ns:List Str)(g:Nat)(ms:List Str):List Str:=(ns.take g).filter (fun x=>decide (x∈ms))++(ns.drop g).filter (fun x=>!decide (x∈ms))
def Td:Pre:=fun l R=>∃(ns:List Str),l=[.sq false (ns.map .str)]/\ns.length<=1000/\R=.is fun p=>p=.bl true
theorem ZFg (ns:List Str)(g:Nat)(ms:List Str):(C9 ns g ms).length<=ns.length:=by
 unfold C9;rw[BL];have h1:=Fq (fun x=>decide (x∈ms)) (ns.take g);have h2:=Fq (fun x=>!decide (x∈ms)) (ns.drop g);rw[Bd] at h1;rw[Cj] at h2;omega
def JF (g:Nat)(ms ns:List Str)(i:Nat):Bool:=!alike (.bl (decide ((g:Int)<=(i:Int)))) (.bl (decide (ns.getD i "" ∈ ms)))
theorem dw (f:Nat->Bool)(h:Str->Bool)(ns:List Str)(s:Nat):(∀i,i<ns.length->f (s+i)=h (ns.getD i ""))->(((List.range' s ns.length).filter f).map fun i=>ns.getD (i - s) "")=ns.filter h:=by
 induction ns generalizing s with
 | nil=>intro _;rfl
 | cons x r ih=>
  intro hf;have h0:f s=h x:=by simpa using hf 0 (by simp)
  have Mb:=ih (s+1) fun i hi=>by
   have:=hf (i+1) (by simpa using hi)
   rw[show s+1+i=s+(i+1) by omega]
   simpa using this
  rw[BH,ZGG,Ov,Ov,h0];have e:((List.range' (s+1) r.length).filter f).map (fun i=>(x::r).getD (i - s) "")=((List.range' (s+1) r.length).filter f).map fun i=>r.getD (i - (s+1)) "" := by
   apply ZZ;intro i hi;have DM:=(List.mem_range'_1.mp (List.mem_filter.mp hi).1).1;rw[show i - s=(i - (s+1))+1 by omega];simp
  by_cases c:h x=true
  ·rw[c,pR rfl,pR rfl,Bn,e,Mb,Nat.sub_self];rfl
  ·have c':h x=false:=by simpa using c
   rw[c',nr (by decide),nr (by decide),e,Mb]
theorem aW (ns:List Str)(g:Nat)(ms:List Str):((List.range ns.length).filter (JF g ms ns)).map (fun i=>PV.str (ns.getD i ""))=(C9 ns g ms).map .str:=by
 have key:((List.range ns.length).filter (JF g ms ns)).map (fun i=>ns.getD i "")=C9 ns g ms:=by
  have split:∀n,n<=ns.length->List.range ns.length=List.range' 0 n++List.range' n (ns.length - n):=fun n hn=>by
   rw[List.range_eq_range',show ns.length=n+(ns.length - n) by omega,<- List.range'_append_1];simp
  unfold C9;have hn:min g ns.length<=ns.length:=lg _ _;rw[split _ hn,Mi,CS]
  congr 1
  ·have q:=dw (JF g ms ns) (fun x=>decide (x∈ms)) (ns.take g) 0 (fun i hi=>by
    rw[Bd] at hi;have e:(ns.take g).getD i ""=ns.getD i "" := by rw[ES,ES,lR (by omega)]
    rw[e,Nat.zero_add];unfold JF alike;have:¬ ((g:Int)<=(i:Int)):=by omega
    rw[qQ this];cases decide (ns.getD i "" ∈ ms) <;> rfl)
   rw[<- q,Bd];apply ZZ;intro i hi;have DM:=(List.mem_range'_1.mp (List.mem_filter.mp hi).1);rw[P5,ES,ES,lR (by omega)]
  ·have q:=dw (JF g ms ns) (fun x=>!decide (x∈ms)) (ns.drop g) (min g ns.length) (fun i hi=>by
    rw[Cj] at hi;have e:(ns.drop g).getD i ""=ns.getD (g+i) "" := by rw[ES,ES,ZV]
    rw[e,Jp (by omega)];unfold JF alike;have:((g:Int)<=((g+i:Nat):Int)):=by omega
    rw[nV this];cases decide (ns.getD (g+i) "" ∈ ms) <;> rfl)
   rw[<- q,Cj];have e2:ns.length - min g ns.length=ns.length - g:=by omega
   rw[e2];apply ZZ;intro i hi;have DM:=(List.mem_range'_1.mp (List.mem_filter.mp hi).1);rw[ES,ES,ZV]
   congr 2
   omega
 rw[<- key,Fs];rfl
theorem zx (ms:List α)(x:α)(j:Nat):(ms.take j++x::ms.drop j).Perm (x::ms):=by
 have h:=lZ (a:=x) (l₁:=ms.take j) (l₂:=ms.drop j)
 rwa [Gy] at h
theorem Uw (j:Nat)(h:ms.Nodup)(hx:x∉ms):(ms.take j++x::ms.drop j).Nodup:=(zx ms x j).nodup_iff.mpr (List.nodup_cons.mpr ⟨hx,h⟩)
theorem UO (hi:i<ns.length):ns.take (i+1)=ns.take i++[ns.getD i ""]:=by
 rw[Sq hi,ES,B9 hi];rfl
theorem uG (nd:ns.Nodup)(hi:i<ns.length):ns.getD i "" ∉ ns.take i:=by
 have h:=nd.sublist (ZGJ (i+1) ns);rw[UO hi,Bu] at h;intro hx;exact h.2.2 _ hx _ (by simp) rfl
theorem Ol:x∈C9 ns g ms↔(x∈ns.take g/\x∈ms)∨(x∈ns.drop g/\x∉ms):=by
 unfold C9;rw[Gx,Sm,Sm];simp
theorem ZEn (h:x∈C9 ns g ms):x∈ns:=by
 rcases Ol.mp h with h | h
 ·exact Za h.1
 ·exact lY h.1
theorem Yq (nd:ns.Nodup)(g:Nat)(ms:List Str):(C9 ns g ms).Nodup:=by
 have h:(ns.take g++ns.drop g).Nodup:=by rw[Gy];exact nd
 rw[Bu] at h;unfold C9;rw[Bu];exact⟨h.1.filter _,h.2.1.filter _,fun a ha b hb=>h.2.2 a (List.mem_filter.mp ha).1 b (List.mem_filter.mp hb).1⟩
theorem WX (nd:ns.Nodup)(h1:x∈ns.take g)(h2:x∈ns.drop g):False:=by
 have h:(ns.take g++ns.drop g).Nodup:=by rw[Gy];exact nd
 rw[Bu] at h;exact h.2.2 x h1 x h2 rfl
theorem U0 (g:Nat)(h:x∈ns):x∈ns.take g∨x∈ns.drop g:=by
 rw[<- Gx,Gy];exact h
theorem zi (nd:ns.Nodup){ts:List Str}(ht:∀x,x∈ts↔x∈C9 ns g cs)(x:Str):x∈C9 ns g ts↔x∈ns/\x∈cs:=by
 rw[Ol,ht,Ol];constructor
 ·rintro(⟨h1,h2⟩|⟨h1,h2⟩)
  ·rcases h2 with h2 | h2
   ·exact⟨Za h1,h2.2⟩
   ·exact(WX nd h1 h2.1).elim
  ·refine⟨lY h1,?_⟩
   by_cases c:x∈cs
   ·exact c
   ·exact absurd (.inr ⟨h1,c⟩) h2
 ·rintro⟨h1,h2⟩;rcases U0 g h1 with h | h
  ·exact .inl ⟨h,.inl ⟨h,h2⟩⟩
  ·refine .inr ⟨h,?_⟩;rintro(⟨z,_⟩|⟨_,z⟩)
   ·exact WX nd z h
   ·exact z h2
theorem yZ {as bs:List Str}(ha:as.Nodup)(hb:bs.Nodup)(h:∀x,x∈as↔x∈bs):as.Perm bs:=(List.perm_ext_iff_of_nodup ha hb).mpr h
structure Gr where
 n:Nat
 g:Nat
 u:List Str
 ps:List (Str×Str)
def KJ (cs:List Str)(s:Gr)(x:Str):Gr:=
 if x∈cs then⟨s.n+1,s.g,s.u++[x],s.ps⟩
 else if s.u=[] then⟨s.n+1,s.n+1,s.u,s.ps⟩
 else⟨s.n+1,s.g,s.u.dropLast,s.ps++[(s.u.getLastD "", x)]⟩
def gr (cs ns:List Str):Gr:=ns.foldl (KJ cs) ⟨0,0,[],[]⟩
theorem aJ (cs ns:List Str)(x:Str):gr cs (ns++[x])=KJ cs (gr cs ns) x:=by unfold gr;rw[ZG5];rfl
def cC (cs ns:List Str):Nat:=(ns.filter fun x=>decide (x∈cs)).length
def cN (cs ns:List Str):Nat:=(ns.filter fun x=>!decide (x∈cs)).length
theorem Qj (cs ns:List Str)(x:Str):cC cs (ns++[x])=cC cs ns+if x∈cs then 1 else 0:=by
 unfold cC;rw[Mi,BL]
 by_cases h:x∈cs <;> simp[h]
theorem eV (cs ns:List Str)(x:Str):cN cs (ns++[x])=cN cs ns+if x∈cs then 0 else 1:=by
 unfold cN;rw[Mi,BL]
 by_cases h:x∈cs <;> simp[h]
structure GI (cs pre:List Str) (s:Gr):Prop where
 hn:s.n=pre.length
 hg:s.g<=pre.length
 Y3:s.ps.length=cC cs (pre.take s.g)+cN cs (pre.drop s.g)
 OJ:s.ps.length+s.u.length=cC cs pre
 hu:∀x∈s.u,x∈pre/\x∈cs
 hp:∀a∈s.ps,(a.1∈pre/\a.1∈cs)/\a.2∈pre/\a.2∉cs
 ord:∀a∈s.ps,pre.idxOf a.1<pre.idxOf a.2
 Ea:(s.u++s.ps.map Prod.fst).Nodup
 GH:(s.ps.map Prod.snd).Nodup
theorem KY {y:Str}(h:y∈pre):(pre++[x]).idxOf y=pre.idxOf y:=by
 rw[ZX,pR h]
theorem qV (h:x∉pre):(pre++[x]).idxOf x=pre.length:=by
 rw[ZX,nr h];simp
theorem GI.init (cs:List Str):GI cs [] ⟨0,0,[],[]⟩:=⟨rfl,Ao _,rfl,rfl,fun _ h=>absurd h (by simp),fun _ h=>absurd h (by simp),fun _ h=>absurd h (by simp),by simp,by simp⟩
theorem wR (h:u≠[]):u.getLastD "" ∈ u/\u=u.dropLast++[u.getLastD ""]:=by
 have e:u.getLastD ""=u.getLast h:=by
  cases u with
  | nil=>exact absurd rfl h
  | cons a r=>rw[ZG8,ZG9]
 rw[e];exact⟨List.getLast_mem h,(List.dropLast_concat_getLast h).symm⟩
theorem GI.step {s:Gr}(I:GI cs pre s)(hx:x∉pre):GI cs (pre++[x]) (KJ cs s x):=by
 have hl:(pre++[x]).length=pre.length+1:=by simp
 have HM:∀{y},y∈pre->y∈pre++[x]:=fun h=>Io _ h;have iX:x∈pre++[x]:=by simp
 have tk:(pre++[x]).take s.g=pre.take s.g:=List.take_append_of_le_length I.hg;have dr:(pre++[x]).drop s.g=pre.drop s.g++[x]:=List.drop_append_of_le_length I.hg;unfold KJ
 by_cases c:x∈cs
 ·rw[pR c];refine⟨by show s.n+1=_;rw[hl,I.hn],by show s.g<=_;have:=I.hg;omega,?_,?_,?_,fun a ha=>?_,fun a ha=>?_,?_,I.GH⟩
  ·show s.ps.length=_;rw[tk,dr,eV,pR c];exact I.Y3
  ·show s.ps.length+(s.u++[x]).length=_;rw[Qj,pR c,BL,<- Nat.add_assoc,I.OJ];rfl
  ·intro y hy;rcases List.mem_append.mp hy with h | h
   ·exact⟨HM (I.hu y h).1,(I.hu y h).2⟩
   ·have:y=x:=by simpa using h
    rw[this];exact⟨iX,c⟩
  ·obtain⟨⟨a1,a2⟩,a3,a4⟩:=I.hp a ha;exact⟨⟨HM a1,a2⟩,HM a3,a4⟩
  ·obtain⟨⟨a1,a2⟩,a3,a4⟩:=I.hp a ha;rw[KY a1,KY a3];exact I.ord a ha
  ·show((s.u++[x])++s.ps.map Prod.fst).Nodup;have pm:((s.u++[x])++s.ps.map Prod.fst).Perm (x::(s.u++s.ps.map Prod.fst)):=by
    rw[CC];exact lZ
   rw[pm.nodup_iff,Zc];refine⟨fun h=>?_,I.Ea⟩;rcases List.mem_append.mp h with h | h
   ·exact hx (I.hu x h).1
   ·obtain⟨a,ha,e⟩:=List.mem_map.mp h;exact hx (e▸(I.hp a ha).1.1)
 ·rw[nr c]
  by_cases d:s.u=[]
  ·rw[pR d];refine⟨by show s.n+1=_;rw[hl,I.hn],by show s.n+1<=_;rw[hl,I.hn];exact Ao _,?_,?_,fun y hy=>?_,fun a ha=>?_,fun a ha=>?_,I.Ea,I.GH⟩
   ·show s.ps.length=cC cs ((pre++[x]).take (s.n+1))+cN cs ((pre++[x]).drop (s.n+1));rw[I.hn,<- hl,Hl,lJ,Qj,nr c];have:=I.OJ;rw[d] at this
    simpa[cN] using this
   ·show s.ps.length+s.u.length=_;rw[Qj,nr c];exact I.OJ
   ·exact⟨HM (I.hu y hy).1,(I.hu y hy).2⟩
   ·obtain⟨⟨a1,a2⟩,a3,a4⟩:=I.hp a ha;exact⟨⟨HM a1,a2⟩,HM a3,a4⟩
   ·obtain⟨⟨a1,a2⟩,a3,a4⟩:=I.hp a ha;rw[KY a1,KY a3];exact I.ord a ha
  ·rw[nr d];obtain⟨z1,z2⟩:=wR d;generalize hz:s.u.getLastD ""=z at z1 z2;have SS:=I.hu z z1;have ZHC:s.u.length=s.u.dropLast.length+1:=by
    have:=uC List.length z2
    rwa [BL] at this
   refine⟨by show s.n+1=_;rw[hl,I.hn],by show s.g<=_;have:=I.hg;omega,?_,?_,fun y hy=>?_,fun a ha=>?_,fun a ha=>?_,?_,?_⟩
   ·show(s.ps++[(z,x)]).length=_;rw[tk,dr,eV,nr c,BL,I.Y3,Nat.add_assoc];rfl
   ·show(s.ps++[(z,x)]).length+s.u.dropLast.length=_;rw[Qj,nr c,BL];have:=I.OJ;simp only[BH,Sk];omega
   ·have RB:y∈s.u:=List.dropLast_subset _ hy;exact⟨HM (I.hu y RB).1,(I.hu y RB).2⟩
   ·rcases List.mem_append.mp ha with h | h
    ·obtain⟨⟨a1,a2⟩,a3,a4⟩:=I.hp a h;exact⟨⟨HM a1,a2⟩,HM a3,a4⟩
    ·have:a=(z,x):=by simpa using h
     rw[this];exact⟨⟨HM SS.1,SS.2⟩,iX,c⟩
   ·rcases List.mem_append.mp ha with h | h
    ·obtain⟨⟨a1,a2⟩,a3,a4⟩:=I.hp a h;rw[KY a1,KY a3];exact I.ord a h
    ·have:a=(z,x):=by simpa using h
     rw[this];show(pre++[x]).idxOf z<(pre++[x]).idxOf x;rw[KY SS.1,qV hx];exact List.idxOf_lt_length_iff.mpr SS.1
   ·show(s.u.dropLast++(s.ps++[(z,x)]).map Prod.fst).Nodup;have pm:(s.u.dropLast++(s.ps++[(z,x)]).map Prod.fst).Perm (s.u++s.ps.map Prod.fst):=by
     rw[CS]
     conv=>rhs;rw[z2]
     rw[CC];exact(List.perm_append_comm).append_left _
    exact pm.nodup_iff.mpr I.Ea
   ·show((s.ps++[(z,x)]).map Prod.snd).Nodup;rw[CS];refine PN I.GH fun h=>?_;obtain⟨a,ha,e⟩:=List.mem_map.mp h;have e':a.2=x:=e;exact hx (e'▸(I.hp a ha).2.1)
theorem Ti (cs:List Str){ns:List Str}(nd:ns.Nodup):∀i,i<=ns.length->GI cs (ns.take i) (gr cs (ns.take i))
 | 0,_=>GI.init cs
 | i+1,h=>by
  have hi:i<ns.length:=h;rw[UO hi,aJ];exact(Ti cs nd i (by omega)).step (uG nd hi)
theorem Mz (cs:List Str)(nd:ns.Nodup):GI cs ns (gr cs ns):=by
 have:=Ti cs nd ns.length (Ao _)
 rwa [Hl] at this
theorem sS (cs:List Str)(nd:ns.Nodup):(C9 ns (gr cs ns).g cs).length=(gr cs ns).ps.length:=by
 rw[(Mz cs nd).Y3];unfold C9 cC cN;rw[BL]
theorem ZCo (nd:ns.Nodup)(g:Nat){a:Str×Str}(ha:a∈(gr cs ns).ps):a.1∈C9 ns g cs∨a.2∈C9 ns g cs:=by
 obtain⟨⟨a1,a2⟩,a3,a4⟩:=(Mz cs nd).hp a ha;have o:=(Mz cs nd).ord a ha;rcases U0 g a1 with h | h
 ·exact .inl (Ol.mpr (.inl ⟨h,a2⟩))
 ·refine .inr (Ol.mpr (.inr ⟨?_,a4⟩));rcases U0 g a3 with q | q
  ·exfalso;have e:ns=ns.take g++ns.drop g:=(Gy g ns).symm;have i2:ns.idxOf a.2<(ns.take g).length:=by
    conv=>lhs;rw[e]
    rw[ZX,pR q];exact List.idxOf_lt_length_iff.mpr q
   have i1:(ns.take g).length<=ns.idxOf a.1:=by
    conv=>rhs;rw[e]
    rw[ZX,nr (fun z=>WX nd z h)];omega
   omega
  ·exact q
theorem xb (h:u≠[]):(u.map PV.str)[(u.map PV.str).length - 1]?=some (.str (u.getLastD "")):=by
 have e:u.getLastD ""=u.getLast h:=by
  cases u with
  | nil=>exact absurd rfl h
  | cons a r=>rw[ZG8,ZG9]
 rw[AX,Az,e,<- List.getLast?_eq_getElem?,List.getLast?_eq_some_getLast h];rfl
theorem xw {β:Type}(f:α->β)(l:List α):(l.map f).dropLast=l.dropLast.map f:=by rw[List.map_dropLast]
def Jj (ps:List (Str×Str)):List Str:=ps.map Prod.fst++ps.map Prod.snd
theorem qg {s:Gr}(I:GI cs ns s):(Jj s.ps).Nodup/\∀x∈Jj s.ps,x∈ns:=by
 unfold Jj;constructor
 ·have h:=I.Ea;rw[Bu] at h;rw[Bu];refine⟨h.2.1,I.GH,fun a ha b hb e=>?_⟩;obtain⟨p,hp,rfl⟩:=List.mem_map.mp ha;obtain⟨q,hq,rfl⟩:=List.mem_map.mp hb;have h1:=(I.hp p hp).1.2;have h2:=(I.hp q hq).2.2;rw[e] at h1;exact h2 h1
 ·intro x hx;rcases List.mem_append.mp hx with h | h
  ·obtain⟨p,hp,rfl⟩:=List.mem_map.mp h;exact(I.hp p hp).1.1
  ·obtain⟨p,hp,rfl⟩:=List.mem_map.mp h;exact(I.hp p hp).2.1
def aM (ns cs:List Str)(p:PV):Prop:=∃ts:List Str,ts.Perm (C9 ns (gr cs ns).g cs)/\sortedS ts=true/\p=.tup [.tup [.int ((gr cs ns).g:Nat),.tup (ts.map .str)],.lst ((gr cs ns).ps.map U7)]
def Yu:Pre:=fun l R=>∃(tp BN:Bool) (ns cs:List Str),l=[.sq tp (ns.map .str),.sq BN (cs.map .str)]/\(∀x∈cs,x∈ns)/\R=.is fun p=>p=.AF
def Ya:Pre:=fun l R=>∃(tp BN:Bool) (ns cs:List Str) (g:Nat),l=[.sq tp (ns.map .str),.is (.int g),.sq BN (cs.map .str)]/\ns.length<=60/\R=.is fun p=>∃ts:List Str,ts.Perm (C9 ns g cs)/\sortedS ts=true/\p=.tup (ts.map .str)
def Vx:Pre:=fun l R=>∃(tp BN:Bool) (ns cs:List Str),l=[.sq tp (ns.map .str),.sq BN (cs.map .str)]/\ns.length<=60/\ns.Nodup/\(∀x∈cs,x∈ns)/\R=.is (aM ns cs)
def NV:Pre:=fun l R=>∃i:Int,l=[.is (.int i)]/\R=.is fun p=>p=.bl true
def fw (cs ns:List Str):Nat:=(gr cs ns).ps.length
theorem eL:∀(ps:List (Str×Str)) (M:List Str),(Jj ps).Nodup->(∀a∈ps,a.1∈M∨a.2∈M)->ps.length<=M.length
 | [],_,_,_=>CH _
 | a::ps,M,nd,h=>by
  have pm:(Jj (a::ps)).Perm (a.1::a.2::Jj ps):=by
   unfold Jj;rw[Bn,Bn,ZS];exact List.Perm.cons _ lZ
  have SU:=pm.nodup_iff.mp nd;rw[Zc,Zc] at SU;obtain⟨n1,n2,n3⟩:=SU;have key:∀x,x∈M->x∉Jj ps->(a::ps).length<=M.length:=fun x hx hn=>by
   have q:=eL ps (M.erase x) n3 fun b hb=>by
    have b1:b.1≠x:=fun e=>hn (e▸Io _ (ZGD hb));have b2:b.2≠x:=fun e=>hn (e▸Ef _ (ZGD hb));exact(h b (DZ _ hb)).imp (fun z=>(Sl b1).mpr z) fun z=>(Sl b2).mpr z
   have e:=ZY hx;have p:=lT hx;rw[BH];omega
  rcases h a DC with z | z
  ·exact key a.1 z fun w=>n1 (DZ _ w)
  ·exact key a.2 z n2
theorem uA (cs:List Str)(nd:ns.Nodup)(g:Nat):fw cs ns<=(C9 ns g cs).length:=eL _ _ (qg (Mz cs nd)).1 fun a ha=>ZCo nd g ha
theorem W5 (cs:List Str)(nd:ns.Nodup):(C9 ns (gr cs ns).g cs).length=fw cs ns/\(gr cs ns).g<=ns.length:=⟨sS cs nd,(Mz cs nd).hg⟩
section
variable [Xw]
variable {F1:Hp}{K:ZHP}{js:List Nat}{ti:TE}{k:PV->Prop}
theorem Wk (hi:ss[i]?=some .AD)(h:Wq ss ta fun tp xs=>tp=false/\∃ns:List Str,xs=ns.map PV.str/\(∀x∈ns,Nm x)/\ns.length<=1000/\∀x:Str,Nm x->x∉ns->k (.str x)):
  Wp ss (CD (OQ K) [] E0 (AY (BQ i) (AY ta B8))) k:=⟨fun E σ F H Q S q=>by
 obtain⟨p,e,_⟩:=S.ok i _ hi;refine⟨_,e,h.go E σ F H _ S fun v tp xs F1 H1 m1 sv ⟨et,ns,ex,hN,hz,kk⟩=>?_⟩;subst et;subst ex;obtain⟨l,vs,ev,hn,hl,r⟩:=sv;subst ev;rw[r.strs] at hl;exact⟨p,l,ns,rfl,m1.st.E7 hi e,AI.of hl,fun z=>hn i hi (z▸e),hN,hz,fun x H3 hx Kw s=>q _ _ F1 H3 (m1.trans (m1.st.RW hi e s)) (.str x) (kk x hx Kw)⟩⟩
def ZDs:Option Str->PV
 | none=>.AF
 | some x=>.str x
def Ro:Pre:=fun l R=>∃(ns:List Str) (r:Str),l=[.sq false (ns.map .str),.is (.str r)]/\ns.length<64/\R=.is fun p=>∃ts:List Str,ts.Perm ns/\sortedS ts=true/\p=Cc r 0 ts
end
end Fz
namespace Fz
open L2 Lw
variable {E:Ent0}{ss:List Slot}{σ:L2.St}{F F' H H':Hp}{te:TE}{nx:List Slot->Prop}{R:B0}{pre:RO}
@[reducible] def ZH6 (X:XK) (D:Ex->Prop):Xw:=⟨fun _=>X,fun _=>True,D⟩
@[reducible] def xwT (E:Ent0) (J:List Slot->Prop) (D:Ex->Prop):Xw:=⟨fun σ C dx H=>∃ss F x,J ss/\Sg E ss σ F H/\D x/\x.at F C dx,J,D⟩
end Fz
namespace Fz
open L2 Lw
variable {i j n:Nat}{l ss:List Slot}{ta te:TE}{a a0:Addr}{N ns:List Str}{t t' u:OV}{F F' H H':Hp}{σ:L2.St}{E:Ent0}{vs:List V}{us:List OV}{Q:VK}{X:XK}
theorem ZB9 {b c n:Int}(hb:1<=b)(hc:b<=c)(hn:0<=n):∃m:Nat,(if(if c<n then c else n) > b then(if c<n then c else n) else b)=(m:Int)/\(m:Int)<=c:=by
 have h:∀z:Int,1<=z->z<=c->∃m:Nat,z=(m:Int)/\(m:Int)<=c:=fun z h0 h1=>⟨z.toNat,by omega,by omega⟩;apply h
 ·split
  ·omega
  ·omega
 ·split
  ·split <;> omega
  ·omega
theorem ZFo {x:Str}(h:x.length<=100)(hx:∀c∈x.cps.toList,c<16 ^ 8):(reprText x).length<=100000:=by
 have:=PySem.StrLaws.reprText_len x hx;omega
section
variable [Xw]
variable {tb:TE}{k:PV->Prop}
variable {K:ZHP}{t u:TE}{pre:RO}{tA:TA}
theorem fc (h:Wp ss te fun p=>∃x,p=.str x/\x.length<=1000/\k (.bl (isNm x))):Wp ss (CD NC [] E0 (AY te B8)) k:=⟨fun E σ F H Q S q=>
 h.go E σ F H _ S fun v p F1 H1 m1 r AJ=>by
  obtain⟨x,e,hx,kk⟩:=AJ;subst e;cases r.inv;exact⟨x,rfl,hx,fun H3 s=>q _ _ F1 H3 (m1.trans (m1.st.grow s)) (.bl _) kk⟩⟩
end
def Cu (pre:Pre):Sp:=fun vs H Q _=>∃(ss:List Slot) (R:B0) (F:Hp) (A B:List Addr),pre ss R/\Sg ⟨A,F,H,B⟩ ss (vs.map some) F H/\∀v F' H',Fin ⟨A,F,H,B⟩ F' H'->R.ok ⟨A,F,H,B⟩ F' H' v->Q v H'
inductive II (F:Hp):List V->List Slot->Prop where
 | nil:II F [] []
 | cons {v:V}{p:PV}{vs:List V}{l:List Slot}:Rep F v p->II F vs l->II F (v::vs) (.is p::l)
inductive Jf (σ:L2.St) (F:Hp) (i:Nat) (t:OV):List V->List Slot->Prop where
 | here {v:V}{vs:List V}{l:List Slot}:σ[i]?=some (some v)->II F vs l->Jf σ F i t (v::vs) (.ow true t::l)
 | there {v:V}{p:PV}{vs:List V}{l:List Slot}:Rep F v p->Jf σ F i t vs l->Jf σ F i t (v::vs) (.is p::l)
theorem II.len:∀{vs:List V}{l:List Slot},II F vs l->l.length=vs.length
 | _,_,.nil=>rfl
 | _,_,.cons _ t=>by rw[BH,BH,t.len]
theorem Jf.len:∀{vs:List V}{l:List Slot},Jf σ F i t vs l->l.length=vs.length
 | _,_,.here _ r=>by rw[BH,BH,r.len]
 | _,_,.there _ h=>by rw[BH,BH,h.len]
theorem II.at:∀{vs:List V}{l:List Slot},II F vs l->∀{n:Nat}{s:Slot},l[n]?=some s->∃v p,vs[n]?=some v/\s=.is p/\Rep F v p
 | _,_,.nil,_,_,e=>by simp at e
 | _,_,.cons r _,0,_,e=>by simp at e;subst e;exact⟨_,_,rfl,rfl,r⟩
 | _,_,.cons _ t,n+1,s,e=>by
  obtain⟨v,p,h⟩:=t.at (n:=n) (s:=s) (by simpa using e)
  exact⟨v,p,by simpa using h⟩
theorem Jf.at:∀{vs:List V}{l:List Slot},Jf σ F i t vs l->∃m:Nat,∀{n:Nat}{s:Slot},l[n]?=some s->(n=m/\s=.ow true t/\∃v,vs[n]?=some v/\σ[i]?=some (some v))∨∃v p,vs[n]?=some v/\s=.is p/\Rep F v p
 | _,_,.here e r=>⟨0,fun {n s} h=>by
  cases n with
  | zero=>simp at h;subst h;exact .inl ⟨rfl,rfl,_,rfl,e⟩
  | succ n=>
   obtain⟨v,p,q⟩:=r.at (n:=n) (s:=s) (by simpa using h)
   exact .inr ⟨v,p,by simpa using q⟩⟩
 | _,_,.there r h=>by
  obtain⟨m,hm⟩:=h.at;refine⟨m+1,fun {n s} q=>?_⟩;cases n with
  | zero=>simp at q;subst q;exact .inr ⟨_,_,rfl,rfl,r⟩
  | succ n=>
   rcases hm (n:=n) (s:=s) (by simpa using q) with⟨e,es,v,hv⟩|⟨v,p,hv⟩
   ·exact .inl ⟨by rw[e],es,v,by simpa using hv⟩
   ·exact .inr ⟨v,p,by simpa using hv⟩
structure RK (E:Ent0) (ss:List Slot) (σ:L2.St) (i:Nat) (lt:Bool) (t t':OV) (F H F' H':Hp):Prop where
 st:Sg E (ss.set i (.ow lt t')) σ F' H'
 ff:A8 F F'
 hh:∀a o,CK ss σ a->a∉t.addrs->H a=some o->H' a=some o
 nn:∀a o,F' a=some o->F a=some o∨H a=none
structure Nz [Xw] (ss:List Slot) (ta:TA) (k:List Slot->Prop):Prop where
 go:∀(E:Ent) (σ:L2.St) (F H:Hp) (Q:List V->Hp->Prop),Sg E ss σ F H->(∀vs l F' H',Mv E ss σ F H F' H'->II F' vs l->k l->Q vs H')->ta σ H Q
structure Wm [Xw] (ss:List Slot) (i:Nat) (lt:Bool) (t:OV) (te:TE) (k:PV->OV->Prop):Prop where
 go:∀(E:Ent) (σ:L2.St) (F H:Hp) (Q:VK),Sg E ss σ F H->(∀v p t' F' H',RK E ss σ i lt t t' F H F' H'->Rep F' v p->k p t'->Q v H')->te σ H Q
theorem Sg.jF {lt:Bool}(S:Sg E ss σ F H)(hi:ss[i]?=some (.ow lt t))(a:Jf σ F i t vs l):Sg ⟨[],F,H,t.addrs⟩ l (vs.map some) F H:=by
 obtain⟨v0,e0,r0,D9,q0⟩:=S.ok i _ hi;have nn:∀{p:Prop}(a:Addr),a∈([]:List Addr)->p:=fun a h=>absurd h B4;obtain⟨m,hm⟩:=a.at;refine⟨⟨S.fh,A8.refl _,fun _ _ _ e=>e,fun _ _ e=>.inl e,fun a h=>nn a h,fun a h=>nn a h,fun a h=>nn a h,fun a h=>(q0 a h).1,fun a h=>r0.there a h,fun a h=>⟨r0.there a h,B4⟩⟩,by rw[AX];exact a.len,fun n s hn=>?_,fun n j s u b MN hn hj ms mu=>?_⟩
 ·rcases hm hn with⟨_,rfl,v,hv,ev⟩|⟨v,p,hv,rfl,r⟩
  ·rw[Az,hv];rw[e0] at ev;cases ev;exact⟨v0,rfl,r0,D9,fun a ha=>⟨(q0 a ha).1,.inr ⟨rfl,ha⟩⟩⟩
  ·rw[Az,hv];exact⟨v,rfl,r⟩
 ·rcases hm hn with⟨e1,rfl,_⟩|⟨_,_,_,rfl,_⟩
  ·rcases hm hj with⟨e2,rfl,_⟩|⟨_,_,_,rfl,_⟩
   ·exact MN (e1.trans e2.symm)
   ·cases mu
  ·cases ms
theorem Sg.gy {lt:Bool}{nk Hi:NK}{us':List OV}(S:Sg E ss σ F H)(hi:ss[i]?=some (.ow lt (.nd nk a0 us)))(f:Fin ⟨[],F,H,(OV.nd nk a0 us).addrs⟩ F' H')(r:B1 F' H' (.ref a0) (.nd Hi a0 us'))(nd:(OV.nd Hi a0 us').addrs.Nodup)(q:∀a∈(OV.nd Hi a0 us').addrs,F' a=none/\(H a=none∨a∈(OV.nd nk a0 us).addrs)):
  RK E ss σ i lt (.nd nk a0 us) (.nd Hi a0 us') F H F' H':=by
 obtain⟨v0,e0,r0,D9,q0⟩:=S.ok i _ hi;have ev:v0=.ref a0:=by cases r0;rfl
 subst ev;have AW:i<ss.length:=(List.getElem?_eq_some_iff.mp hi).1;have kp:∀a o,a∉(OV.nd nk a0 us).addrs->H a=some o->H' a=some o:=fun a o n e=>f.keep a o ⟨B4,n⟩ e;have BU:∀a,H a≠none->F a=none->F' a=none:=fun a h1 h2=>by
  cases e:F' a with
  | none=>rfl
  | some o=>
   rcases f.fresh a o e with z | z
   ·rw[show F a=some o from z] at h2;cases h2
   ·exact absurd z h1
 have YV:∀a,a∈E.A->a∉(OV.nd nk a0 us).addrs:=fun a hA hm=>by
  rcases(q0 a hm).2 with z | ⟨_,z⟩
  ·exact S.a0 a hA z
  ·exact(S.b0 a z).2 hA
 have other:∀(j:Nat) s,j≠i->ss[j]?=some s->∀a,BI s σ[j]? a->a∉(OV.nd nk a0 us).addrs:=fun j s hj hs a ho hm=>S.BZ j i s _ a hj hs hi ho hm;refine⟨⟨⟨f.fh,S.f0.trans f.f0,fun a o hA e=>?_,fun a o e=>?_,fun a hA=>?_,fun a hA=>?_,S.a0,fun a hB=>?_,fun a hB=>?_,S.b0⟩,by rw[Hk];exact S.len,fun j s hj=>?_,fun j k s u b RJ hj hk ms mu=>?_⟩,f.f0,fun a o _ n e=>kp a o n e,fun a o e=>f.fresh a o e⟩
 ·refine kp a o (fun hm=>?_) (S.keep a o hA e);rcases(q0 a hm).2 with z | ⟨_,z⟩
  ·rw[e] at z;cases z
  ·exact hA.2 z
 ·rcases f.fresh a o e with z | z
  ·exact S.fresh a o z
  ·exact .inr (S.E8 z)
 ·exact BY.keep (S.EL a hA) fun o e=>kp a o (YV a hA) e
 ·obtain⟨_,_,e1,_⟩:=S.EL a hA;exact BU a (by rw[e1];simp) (S.Li a hA)
 ·exact BU a (S.bH a hB) (S.bF a hB)
 ·by_cases hm:a∈(OV.nd nk a0 us).addrs
  ·exact f.bH a hm
  ·intro z;cases e:H a with
   | none=>exact S.bH a hB e
   | some o=>rw[kp a o hm e] at z;cases z
 ·by_cases c:j=i
  ·subst c;rw[Ci AW] at hj;cases hj;refine⟨.ref a0,e0,r,nd,fun a ha=>⟨(q a ha).1,?_⟩⟩;rcases(q a ha).2 with z | z
   ·exact .inl (S.E8 z)
   ·exact(q0 a z).2
  ·rw[CG (BP c)] at hj
   by_cases np:s=.AD
   ·subst np;obtain⟨l,e,fl,hl,pt⟩:=S.ok j _ hj;obtain⟨_,_,e1,_⟩:=id pt;exact⟨l,e,BU l (by rw[e1];simp) fl,hl,BY.keep pt fun o z=>kp l o (other j _ c hj l e) z⟩
   ·exact Ok.go S hj f.f0 (fun a o ho e=>kp a o (other j s c hj a ho) e) BU np
 ·have at_:∀(n:Nat) s,(ss.set i (.ow lt (.nd Hi a0 us')))[n]?=some s->(n=i/\s=.ow lt (.nd Hi a0 us'))∨(n≠i/\ss[n]?=some s):=fun n s hn=>by
   by_cases c:n=i
   ·subst c;rw[Ci AW] at hn;exact .inl ⟨rfl,(BS hn).symm⟩
   ·rw[CG (BP c)] at hn;exact .inr ⟨c,hn⟩
  have K5:∀(n:Nat) s,n≠i->ss[n]?=some s->BI s σ[n]? b->b∉(OV.nd Hi a0 us').addrs:=fun n s hn hs ho hm=>by
   rcases(q b hm).2 with z | z
   ·exact S.Dv hs ho z
   ·exact other n s hn hs b ho z
  rcases at_ j s hj with⟨e1,rfl⟩|⟨n1,h1⟩
  ·rcases at_ k u hk with⟨e2,rfl⟩|⟨n2,h2⟩
   ·exact RJ (e1.trans e2.symm)
   ·exact K5 k u n2 h2 mu ms
  ·rcases at_ k u hk with⟨e2,rfl⟩|⟨n2,h2⟩
   ·exact K5 j s n1 h1 ms mu
   ·exact S.BZ j k s u b RJ h1 h2 ms mu
section
variable [Xw]
variable {ta:TA}{lt:Bool}{nx:List Slot->Prop}{R:B0}
theorem OB {k:List Slot->Prop}(h:k []):Nz ss B8 k:=⟨fun E σ F H Q S q=>q [] [] F H (Mv.refl S) .nil h⟩
theorem Lb {k:List Slot->Prop}(h:Wp ss te fun p=>Nz ss ta fun l=>k (.is p::l)):Nz ss (AY te ta) k:=⟨fun E σ F H Q S q=>
 h.go E σ F H _ S fun v p F1 H1 m1 r h2=>h2.go E σ F1 H1 _ m1.st fun vs l F2 H2 m2 a kk=>q _ _ F2 H2 (m1.trans m2) (.cons (r.mono m2.ff) a) kk⟩
theorem Mv.ZEU {F1 H1 F2 H2:Hp}(hi:ss[i]?=some (.ow lt t))(a:Mv E ss σ F H F1 H1)(b:RK E ss σ i lt t t' F1 H1 F2 H2):RK E ss σ i lt t t' F H F2 H2:=
 ⟨b.st,a.ff.trans b.ff,fun c o n z e=>b.hh c o n z (a.hh c o n e),fun c o e=>(b.nn c o e).elim (fun e=>a.nn c o e) fun e=>.inr (a.none e)⟩
theorem ZCu {nk:NK}{k:PV->OV->Prop}(hi:ss[i]?=some (.ow lt (.nd nk a0 us)))(h:Wp ss te fun p=>k p (.nd nk a0 us)):Ws ss (Hc te) nx (.mt k):=⟨fun E D σ F H S hn hr=>
 h.go E σ F H _ S fun v p F1 H1 m1 r kk=>by
  obtain⟨v0,e0,r0,D9,q0⟩:=m1.st.ok i _ hi;have ev:v0=.ref a0:=by cases r0;rfl
  subst ev;exact hr v F1 H1 m1.st.toFin ⟨p,.nd nk a0 us,r,r0,D9,fun a ha=>⟨(q0 a ha).1,(q0 a ha).2.imp id fun z=>z.2⟩,kk⟩⟩
end
section
variable {pre:Pre}
theorem RM {t:TS}(h:Cu pre vs H Q X)(hl:∀ss R,pre ss R->ss.length=n)
  (hw:∀ss R,pre ss R->Ws (ss++List.replicate (N.length - n) .any) t (fun _=>False) R):t { nx:=fun _ H'=>Q .AF H',rt:=Q } (L2.start N vs) H:=by
 obtain⟨ss,R,F,A,B,hp,S,q⟩:=h;have e:vs.length=n:=by have:=S.len;rw[AX] at this;rw[<- this];exact hl ss R hp
 unfold L2.start;rw[e];exact(hw ss R hp).go (Rm ⟨A,F,H,B⟩) _ _ F H (S.grown _) (fun AL σ' F' H' z S' _=>z.elim) fun v F' H' f ok=>q v F' H' f ok
theorem Jg (hl:∀ss R,pre ss R->ss.length=n)(h:Cu pre vs H Q X):vs.length=n:=by
 obtain⟨ss,R,F,A,B,hp,S,q⟩:=h;have:=S.len;rw[AX] at this;rw[<- this];exact hl ss R hp
theorem Sg.gR (S:Sg E ss σ F H)(hj:ss[j]?=some (.ow false u)):Sg E (ss.set j (.is u.pv)) σ (BG F H u.addrs) H/\A8 F (BG F H u.addrs):=by
 obtain⟨v,e,r,nd,qa⟩:=S.ok j _ hj;obtain⟨S1,nf⟩:=(S.drop j).lay u.addrs (fun a ha=>⟨(qa a ha).1,(qa a ha).2.elim id (fun z=>by cases z.1),r.there a ha⟩) fun a ha n s hn m=>by
  by_cases q:n=j
  ·subst q;rw[Ci (List.getElem?_eq_some_iff.mp hj).1] at hn;cases hn;cases m
  ·rw[CG (BP q)] at hn;exact S.BZ n j s _ a q hn hj m ha
 have S2:=S1.LJ (j:=j) (v:=v) (p:=u.pv) (r.rep nf fun a ha o ho=>by unfold BG;rw[pR ha];exact ho);rw[QM e,Ze] at S2;exact⟨S2,nf⟩
theorem qk {p:Slot}(hj:ss[j]?=some (.ow false u))(hp:p≠.AD)(a:Addr):CK ss σ a->CK (ss.set j p) σ a:=fun n k hk=>by
 by_cases q:k=j
 ·subst q;rw[Ci (List.getElem?_eq_some_iff.mp hj).1] at hk;cases hk;exact absurd rfl hp
 ·rw[CG (BP q)] at hk;exact n k hk
theorem Sg.sg (S:Sg E ss σ F H)(hj:ss[j]?=some (.ow false u))(ff:A8 (BG F H u.addrs) F')(fh:A8 F' H'):(∀a∈u.addrs,F' a=H a/\H' a=H a/\H a≠none)/\∀a∈u.addrs,∀ws,F' a≠some (.tup ws):=by
 obtain⟨v,e,r,nd,qa⟩:=S.ok j _ hj;have at_:∀a∈u.addrs,F' a=H a/\H' a=H a/\H a≠none:=fun a ha=>by
  cases q:H a with
  | none=>exact absurd q (r.there a ha)
  | some o=>
   have f1:F' a=some o:=ff a o (by unfold BG;rw[pR ha];exact q);exact⟨f1,fh a o f1,by simp⟩
 exact⟨at_,fun a ha ws q=>by rw[(at_ a ha).1] at q;exact r.Kv a ha ws q⟩
theorem Sg.ZFZ (S:Sg E ss σ F H)(hj:ss[j]?=some (.ow false u))(m:Mv E (ss.set j (.is u.pv)) σ (BG F H u.addrs) H F' H'):Mv E ss σ F H (FD F' u.addrs) H'/\∀a∈u.addrs,∀ws,F' a≠some (.tup ws):=by
 obtain⟨v,e,r,nd,qa⟩:=S.ok j _ hj;obtain⟨S2,nf⟩:=S.gR hj;obtain⟨at_,nt⟩:=S.sg hj m.ff m.st.fh;refine⟨S.step (fun a o ea=>?_) (fun a o ea=>?_) (fun a o n ea=>m.hh a o (qk hj (fun z=>by cases z) a n) ea) (fun a o ea=>?_) (fun k l hk ek=>?_),nt⟩
 ·unfold FD;rw[nr (fun q=>by rw[(qa a q).1] at ea;cases ea)];exact m.ff a o (nf a o ea)
 ·unfold FD at ea;split at ea
  ·cases ea
  ·exact m.st.fh a o ea
 ·unfold FD at ea;split at ea
  ·cases ea
  ·rename_i q;rcases m.nn a o ea with z | z
   ·unfold BG at z;rw[nr q] at z;exact .inl z
   ·exact .inr z
 ·refine m.st.E7 (i:=k) ?_ ek;rw[CG (fun q=>by subst q;rw[hj] at hk;cases hk)];exact hk
end
section
variable [Xw]
variable {lt:Bool}
theorem gs {c:TT}{k:Bool->Prop}(j:Nat)(hj:ss[j]?=some (.ow false u))(h:Wt (ss.set j (.is u.pv)) c k):Wt ss c k:=⟨fun E σ F H Q S q=>by
 obtain⟨S2,nf⟩:=S.gR hj;refine h.go E σ _ H Q S2 fun b F' H' m kk=>?_;exact q b _ H' (S.ZFZ hj m).1 kk⟩
end
end Fz
namespace L2
section
variable {X:Cx}{o i value:Expr}{td ty tv:TE}{pos pos':Pos}
theorem Bl (hu:X.A.units+1<cLine)(ho:QE X o td)(hi:QE X i ty)(hs:Ts i):QE X (.Subscript o i pos) (Gu td ty):=⟨by
 have ho:=ho.h;have hi:=hi.h;intro pins s σ H Q I h;refine zV PySem.F.slot_dict_getitem.lookup hs (AS (ho pins s σ H _ I h) fun u s1 ⟨x,H1,I1,rx,q1⟩=>AS (hi pins s1 σ H1 _ I1 q1) fun iv s2 ⟨y,H2,I2,ry,a,v,ex,g,q2⟩=>?_);subst ex;obtain rfl:u=Value.ref a:=rx;exact⟨tM I2 g,ZEr hu I2 g ry fun w' s3 I3 FY=>⟨v,H2,I3,FY,q2⟩⟩⟩
theorem Kh (hu:X.A.units+1<cLine)(ho:QE X o td)(hi:QE X i ty)(hv:QE X value tv)(hs:swapsWith value (some (.Subscript o i pos')) pos.line X.env=pure false:=by rfl):
  QS X (.Assign [.Subscript o i pos'] value pos) (XI td ty tv):=⟨by
 have ho:=ho.h;have hi:=hi.h;have hv:=hv.h;intro pins s σ H D I h;refine wpAny_Assign_Subscript (AS (hv pins s σ H _ I h) fun r s1 ⟨v,H1,I1,rv,q1⟩=>AS (ho pins s1 σ H1 _ I1 q1) fun u s2 ⟨x,H2,I2,rx,q2⟩=>AS (hi pins s2 σ H2 _ I2 q2) fun iv s3 ⟨y,H3,I3,ry,a,H4,ex,g,q3⟩=>?_) hs;subst ex;obtain rfl:u=Value.ref a:=rx;exact ZAF hu I3 g ry rv fun s4 I4=>⟨σ,H4,I4,q3⟩⟩
theorem dk:QE X (.Dict [] [] pos) WA:=⟨fun pins s σ H Q I h=>
 wpAny_Dict_empty ⟨.ref s.heap.objs.size,_,I.laid (a:=s.heap.objs.size) (o:=.dK []) (t':=s.toks) (fun _ _ q=>BE _ q) (Ao _) (ja s.heap I.big),rfl,h _ (I.AK.fresh (Ao _))⟩⟩
end
end L2
namespace Fz
open L2 Lw
variable {F F0 H H0:Hp}{ss:List Slot}{ta td tv ty:TE}{nx:List Slot->Prop}{R:B0}{i:Nat}{ks:List Key}{CB vs:List V}{t u w:OV}{C a dx:Addr}{us us':List OV}{E:Ent0}{σ:L2.St}{m p:List Nat}{f:Str}{ns:List Str}{pre:Pre}
def Hj:Key->PV
 | .inl i=>.int i
 | .inr x=>.str x
def Ji:List Key->List PV->Key->Option PV
 | k'::ks,x::xs,k=>if k'=k then some x else Ji ks xs k
 | _,_,_=>none
def Gq (ks:List Key)(k:Key):Bool:=ks.any fun k'=>decide (k'=k)
def GS (ks:List Key)(k:Key):List Key:=if Gq ks k=true then ks else ks++[k]
theorem M7 {v:V}{k:Key}(r:Rep F v (Hj k)):v=kV k:=by
 cases k with
 | inl i=>cases r.inv;rfl
 | inr x=>cases r.inv;rfl
theorem kM {F:Hp}{k:Key}{y:PV}:∀{ks:List Key}{vs:List V}{xs:List PV},AO F vs xs->ks.length=vs.length->Ji ks xs k=some y->∃v,DX (ks.zip vs) k=some v/\Rep F v y
 | [],_,_,_,_,h=>by rw[Ji] at h;cases h;all_goals simp
 | k'::ks,v::vs,x::xs,.cons r t,hl,h=>by
  rw[Ji] at h;rw[Ft]
  by_cases c:k'=k
  ·rw[pR c] at h;cases h;exact⟨v,Lg c,r⟩
  ·rw[nr c] at h;obtain⟨w,h1,h2⟩:=kM t (by simpa using hl) h
   exact⟨w,by rw[Lf c];exact h1,h2⟩
 | k'::ks,[],xs,_,hl,_=>by simp at hl
section
variable [Xw]
variable {k:PV->Prop}{lt:Bool}
theorem Gk (h:Wp ss td fun p=>∃ks xs,p=.Aq ks xs/\Wp ss ty fun q=>∃key y,q=Hj key/\Ji ks xs key=some y/\k y):Wp ss (Gu td ty) k:=⟨fun E σ F H Q S q=>
 h.go E σ F H _ S fun v p F1 H1 m1 r1 ⟨ks,xs,e,h2⟩=>h2.go E σ F1 H1 _ m1.st fun v2 p2 F2 H2 m2 r2 ⟨key,y,e2,hy,kk⟩=>by
  subst e;subst e2;have Ga:=r1.mono m2.ff;cases Ga with
  | Aq ef hl rr=>
   obtain⟨w,hw,rw_⟩:=kM rr hl hy;refine⟨_,w,rfl,?_,q w y F2 H2 (m1.trans m2) rw_ kk⟩;rw[<- hw,M7 r2];exact FE.k (m2.st.fh _ _ ef)⟩
theorem gS {k:List Nat->OV->Prop}(h:∀a,k [] (.nd (.Aq []) a (([]:List PV).map .fz))):Wx ss WA k:=⟨fun E σ F H Q S q p hp=>by
 have m:=S.make hp (.dK []);refine q _ [] (.nd (.Aq []) p (([]:List PV).map .fz)) F _ m (.nd (k:=.Aq []) (vs:=[]) AH trivial rfl .nil) (by rw[OV.DR];simp[NK.more,OV.Ib]) (fun a ha=>?_) (h p);rw[OV.DR] at ha;have e:a=p:=by simpa[NK.more,OV.Ib] using ha
 subst e;exact⟨S.BU hp,S.E8 hp,.inr hp⟩⟩
theorem WJ:∀{ks:List Key}{vs:List V}{key:Key},ks.length=vs.length->(ks.zip vs).any (fun kv=>decide (kv.1=key))=Gq ks key
 | [],vs,key,h=>rfl
 | k'::ks,w::vs,key,h=>by
  rw[Ft,Mh,WJ (by simpa using h)]
  rfl
 | _::_,[],_,h=>by simp at h
def Ge:List Key->List V->Key->V->List V
 | k'::ks,x::xs,k,p=>(if k'=k then p else x)::Ge ks xs k p
 | _,xs,_,_=>xs
theorem bI:∀{ks:List Key}{vs:List V}{key:Key}{v:V},(ks.zip vs).map (fun kv=>if kv.1=key then(kv.1,v) else kv)=ks.zip (Ge ks vs key v)
 | [],vs,key,v=>by simp
 | k'::ks,w::vs,key,v=>by
  rw[Ft,Bn,bI,Ge,Ft]
  by_cases c:k'=key
  ·rw[pR c,pR c]
  ·rw[nr c,nr c]
 | _::_,[],_,_=>by simp[Ge]
end
def CI:List Key->Key->Option Nat
 | [],_=>none
 | k'::ks,k=>if k'=k then some 0 else(CI ks k).map (· + 1)
theorem YK:∀{ks:List Key}{key:Key}{n:Nat},CI ks key=some n->ks[n]?=some key
 | [],_,_,h=>by cases h
 | k'::ks,key,n,h=>by
  rw[CI] at h
  by_cases c:k'=key
  ·rw[pR c] at h;cases h;subst c;rfl
  ·rw[nr c] at h;cases e:CI ks key with
   | none=>rw[e] at h;cases h
   | some m=>rw[e] at h;cases h;exact YK (ks:=ks) e
theorem Z8:∀{ks:List Key}{key:Key},(CI ks key).isSome=Gq ks key
 | [],_=>rfl
 | k'::ks,key=>by
  rw[CI];unfold Gq;rw[Mh]
  by_cases c:k'=key
  ·rw[pR c,nV c];rfl
  ·rw[nr c,qQ c,Bool.false_or,Zi,Z8];rfl
theorem X1:∀{ks:List Key}{vs:List V}{key:Key}{n:Nat}{v:V},CI ks key=some n->vs[n]?=some v->DX (ks.zip vs) key=some v
 | [],_,_,_,_,h,_=>by cases h
 | k'::ks,[],key,n,v,h,hv=>by simp at hv
 | k'::ks,w::vs,key,n,v,h,hv=>by
  rw[CI] at h;rw[Ft]
  by_cases c:k'=key
  ·rw[pR c] at h;cases h;simp at hv;rw[Lg c,hv]
  ·rw[nr c] at h;cases e:CI ks key with
   | none=>rw[e] at h;cases h
   | some m=>
    rw[e] at h;cases h;rw[Lf c];exact X1 e (by simpa using hv)
theorem hJ {key:Key}(hl:ks.length=vs.length):(DX (ks.zip vs) key).isSome=Gq ks key:=by
 rw[<- Pr,WJ hl]
theorem eE:∀{ks:List Key}{vs:List V}{key:Key}{n:Nat}{v:V},ks.Nodup->CI ks key=some n->Ge ks vs key v=vs.set n v
 | [],_,_,_,_,_,h=>by cases h
 | k'::ks,[],key,n,v,_,h=>by rw[Ge];simp;simp
 | k'::ks,w::vs,key,n,v,nd,h=>by
  rw[CI] at h;obtain⟨n1,n2⟩:=List.nodup_cons.mp nd;rw[Ge]
  by_cases c:k'=key
  ·rw[pR c] at h;cases h;rw[pR c,So]
   congr 1
   subst c;have aux:∀{ks:List Key}{vs:List V},k'∉ks->Ge ks vs k' v=vs:=by
    intro ks
    induction ks with
    | nil=>intro vs _;rw[Ge];simp
    | cons k2 ks ih=>
     intro vs hn;cases vs with
     | nil=>rw[Ge];simp
     | cons u vs=>
      rw[Ge,nr (fun z=>hn (by rw[z];simp)),ih (fun z=>hn (by simp[z]))]
   exact aux n1
  ·rw[nr c] at h;cases e:CI ks key with
   | none=>rw[e] at h;cases h
   | some m=>
    rw[e] at h;cases h;rw[nr c,Sn,eE n2 e]
section
variable [Xw]
variable {k:PV->Prop}
theorem Le {k:List Nat->OV->Prop}(h:Wl ss i t td fun p u=>∃ks a us,u=.nd (.Aq ks) a us/\Wp ss ty fun q=>∃key n w,q=Hj key/\CI ks key=some n/\us[n]?=some w/\k (p++[n]) w):Wl ss i t (Gu td ty) k:=⟨h.hi,fun E σ F H Q S q=>
 h.go E σ F H _ S fun v p u F1 H1 m1 r1 h1 ⟨ks,a,us,eu,h2⟩=>h2.go E σ F1 H1 _ m1.st fun v2 p2 F2 H2 m2 r2 ⟨key,n,w,e,hn,hw,kk⟩=>by
  subst e;have r3:=r1.mv m1.st h.hi h1 m2;subst eu;obtain⟨vs,rfl,ha,sd,ft,rr⟩:=r3.inv;obtain⟨x,hx,rx⟩:=rr.get hw;refine⟨a,x,rfl,?_,q x (p++[n]) w F2 H2 (m1.trans m2) rx (OV.MU h1 (by rw[OV.L7,hw];exact OV.JD)) kk⟩;rw[<- X1 hn hx,M7 r2];exact FE.k ha⟩
theorem mF (h:Wp ss ty fun q=>Wl ss i t td fun _ u=>∃ks a us key,u=.nd (.Aq ks) a us/\q=Hj key/\k (.bl (Gq ks key))):Wp ss (W4 ty td) k:=⟨fun E σ F H Q S q=>
 h.go E σ F H _ S fun v p F1 H1 m1 r1 h2=>h2.go E σ F1 H1 _ m1.st fun v2 p2 u F2 H2 m2 r2 Bh AJ=>by
  obtain⟨ks,a,us,key,eu,eq,kk⟩:=AJ;subst eu;subst eq;obtain⟨vs,rfl,ha,sd,ft,rr⟩:=r2.inv;refine⟨a,DX (ks.zip vs) key,rfl,by rw[M7 r1];exact FE.k ha,?_⟩;rw[hJ ft];exact q _ _ F2 H2 (m1.trans m2) (.bl _) kk⟩
theorem mZ (h:Wp ss ty fun q=>Wp ss td fun u=>∃ks xs key,u=.Aq ks xs/\q=Hj key/\k (.bl (!Gq ks key))):Wp ss (YI ty td) k:=⟨fun E σ F H Q S q=>
 h.go E σ F H _ S fun v p F1 H1 m1 r1 h2=>h2.go E σ F1 H1 _ m1.st fun v2 u F2 H2 m2 r2 AJ=>by
  obtain⟨ks,xs,key,eu,eq,kk⟩:=AJ;subst eu;subst eq;cases r2 with
  | @Aq a _ vs _ ef hl rr=>
   refine⟨a,DX (ks.zip vs) key,rfl,by rw[M7 r1];exact FE.k (m2.st.fh _ _ ef),?_⟩;rw[hJ hl];exact q _ _ F2 H2 (m1.trans m2) (.bl _) kk⟩
theorem Kp:(OV.nd (.Aq ks) a us).addrs=a::OV.Al us:=by rw[OV.DR];rfl
theorem b4 {lt:Bool}:∀(m:List Nat) (ss:List Slot),ss[i]?=some (.ow lt t)->i∉m->(Fz.DT m ss)[i]?=some (.ow lt t):=by
 intro m
 induction m with
 | nil=>intro ss h _;exact h
 | cons j m ih=>
  intro ss h hm;refine ih _ ?_ fun z=>hm (by simp[z]);rw[CG (by rintro rfl;exact hm (by simp))];exact h
theorem Sg.gI {lt:Bool}{ks':List Key}(S0:Sg E ss σ F0 H0)(S:Sg E ss σ F H)(hi:ss[i]?=some (.ow lt t))(Bh:t.at p=some (.nd (.Aq ks) a us))
  (hu:∀a∈u.addrs,F a=none/\E.H0 a=none/\((∃i∈m,∃s,s≠Slot.AD/\ss[i]?=some s/\BI s σ[i]? a)∨H0 a=none)) (ER:i∉m)
  (hr:B6 F H CB us') (hl:ks'.length=CB.length) (Mt:(OV.Al us').Nodup) (EJ:∀b∈OV.Al us',b∈OV.Al us∨b∈u.addrs):Sg E ((Fz.DT m ss).set i (.ow lt (t.put p (.nd (.Aq ks') a us')))) σ F (upd H a (.dK (ks'.zip CB))):=by
 have DM:=b4 m ss hi ER;obtain⟨v,e,r,nd,q⟩:=S.ok i _ hi;have ut:∀b,b∈a::OV.Al us->b∈t.addrs:=fun b hb=>OV.J4 Bh b (by rw[Kp];exact hb);have Ma:∀b∈u.addrs,b∉t.addrs:=fun b hb z=>by
  rcases(hu b hb).2.2 with⟨j,hj,s,_,hs,o⟩|w
  ·exact S.BZ j i s _ b (by rintro rfl;exact ER hj) hs hi o z
  ·exact S0.Dv hi z w
 have DI:(OV.nd (.Aq ks) a us).addrs.Nodup:=by
  obtain⟨l,rr,e1,_⟩:=OV.split Bh;rw[e1,Bu,Bu] at nd;exact nd.1.2.1
 rw[Kp] at DI;have na:∀b∈OV.Al us',b≠a:=fun b hb z=>by
  subst z;rcases EJ b hb with w | w
  ·exact(List.nodup_cons.mp DI).1 w
  ·exact Ma b w (ut b (by simp))
 refine(S.DT m).VQ DM Bh (.nd (k:=.Aq ks') AH trivial hl (hr.mono (A8.refl _) fun b hb o ho=>by rw[Ad (na b hb)];exact ho)) (by rw[Kp];exact List.nodup_cons.mpr ⟨fun z=>na a z rfl,Mt⟩) fun b hb=>?_;rw[Kp] at hb ⊢;rcases List.mem_cons.mp hb with w | w
 ·exact .inl (by simp[w])
 ·rcases EJ b w with z | z
  ·exact .inl (by simp[z])
  ·refine .inr ⟨(hu b z).1,(hu b z).2.1,fun j s hs o=>?_⟩;rcases Oa hs with y | ⟨GX,hm⟩
   ·subst y;cases o
   ·rcases(hu b z).2.2 with⟨i2,EC,s2,_,D4,o2⟩|y
    ·exact S.BZ j i2 s s2 b (by rintro rfl;exact hm EC) GX D4 o o2
    ·exact S0.Dv GX o y
def Fh (ks:List Key)(us:List OV)(key:Key)(w:OV):List OV:=match CI ks key with
 | some n=>us.set n w
 | none=>us++[w]
theorem Ku (h:Wx ss tv fun m w=>Wl ss i t td fun p u=>∃lt a ks us,ss[i]?=some (.ow lt t)/\u=.nd (.Aq ks) a us/\us.length<=99999/\ks.Nodup/\i∉m/\Wp ss ty fun q=>∃key,q=Hj key/\nx ((Fz.DT m ss).set i (.ow lt (t.put p (.nd (.Aq (GS ks key)) a (Fh ks us key w)))))):Ws ss (XI td ty tv) nx R:=⟨fun E D σ F H S hn hr=>
 h.go E σ F H _ S fun v m w F1 H1 m1 r1 Ea a1 h2=>h2.go E σ F1 H1 _ m1.st fun v2 p u F2 H2 m2 r2 Bh ⟨lt,a,ks,us,hi,eu,hz,hk,ER,h3⟩=>h3.go E σ F2 H2 _ m2.st fun v3 q F3 H3 m3 r3 ⟨key,eq,kk⟩=>by
  subst eu;subst eq;have ev:v2=.ref a:=by cases r2;rfl
  subst ev;have Iw:=m2.trans m3;have np:∀b∈w.addrs,CK ss σ b:=fun b hb k hk ek=>by
   rcases(a1 b hb).2.2 with⟨j,hj,s,hs,ID,o⟩|z
   ·exact S.BZ j k s _ b (fun e=>by subst e;rw[ID] at hk;exact hs (BS hk)) ID hk o ek
   ·exact S.Dv hk ek z
  have Ga:B1 F3 H3 v w:=r1.mono Iw.ff fun b hb o e=>Iw.hh b o (np b hb) e;have WL:∀b∈w.addrs,F3 b=none/\E.H0 b=none/\((∃i∈m,∃s,s≠Slot.AD/\ss[i]?=some s/\BI s σ[i]? b)∨H b=none):=fun b hb=>by
   refine⟨?_,(a1 b hb).2⟩;cases e:F3 b with
   | none=>rfl
   | some o=>
    rcases Iw.nn b o e with z | z
    ·rw[(a1 b hb).1] at z;cases z
    ·exact absurd z (r1.there b hb)
  have r4:=r2.mv m2.st ⟨lt,hi⟩ Bh m3;cases r4 with
  | @nd _ _ vs _ ha sd ft rr=>
   have HC:ks.length=vs.length:=ft;have vl:=rr.length;have hzz:(ks.zip vs).length<=99999:=by rw[Oz];omega
   refine⟨a,_,rfl,by rw[M7 r3];exact OF.k ha (LZ hzz),?_⟩;obtain⟨v0,e0,r0,D9,q0⟩:=m3.st.ok i _ hi;have DI:(OV.nd (.Aq ks) a us).addrs.Nodup:=by
    obtain⟨l,rr,e1,_⟩:=OV.split Bh;rw[e1,Bu,Bu] at D9;exact D9.1.2.1
   rw[Kp] at DI;have apart:∀b∈w.addrs,b∉OV.Al us:=fun b hb z=>by
    have bt:b∈t.addrs:=OV.J4 Bh b (by rw[Kp];simp[z]);rcases(a1 b hb).2.2 with⟨j,hj,s,_,hs,o⟩|y
    ·exact S.BZ j i s _ b (by rintro rfl;exact ER hj) hs hi o bt
    ·exact S.Dv hi bt y
   obtain⟨CB,ep,NU,Mu,GH,sb⟩:∃CB:List V,putK (ks.zip vs) key v=(GS ks key).zip CB/\(GS ks key).length=CB.length/\B6 F3 H3 CB (Fh ks us key w)/\(OV.Al (Fh ks us key w)).Nodup/\∀b∈OV.Al (Fh ks us key w),b∈OV.Al us∨b∈w.addrs:=by
    unfold putK GS Fh;rw[WJ HC];cases e:CI ks key with
    | some n=>
     have c:Gq ks key=true:=by rw[<- Z8,e];rfl
     have O8:n<us.length:=by
      have:=(List.getElem?_eq_some_iff.mp (YK e)).1;omega
     obtain⟨l,r,e1,e2⟩:=Ir (B9 O8);rw[pR c,pR c,bI,eE hk e];refine⟨vs.set n v,rfl,by rw[Hk];exact HC,rr.set n Ga,?_,fun b hb=>?_⟩
     ·show(OV.Al (us.set n w)).Nodup;rw[e2];have n1:=(List.nodup_cons.mp DI).2;rw[e1] at n1;exact Xx n1 Ea fun b hb=>.inr (by rw[<- e1];exact apart b hb)
     ·have Bz:b∈OV.Al (us.set n w):=hb;rw[e2] at Bz;rcases List.mem_append.mp Bz with z | z
      ·rcases List.mem_append.mp z with z | z
       ·exact .inl (by rw[e1];simp[z])
       ·exact .inr z
      ·exact .inl (by rw[e1];simp[z])
    | none=>
     have c:¬ Gq ks key=true:=by rw[<- Z8,e];decide
     rw[nr c,nr c];refine⟨vs++[v],by rw[List.zip_append HC];rfl,by rw[BL,BL,HC];rfl,rr.append (.one Ga),?_,fun b hb=>?_⟩
     ·show(OV.Al (us++[w])).Nodup;rw[Kz,Lu,Bu];exact⟨(List.nodup_cons.mp DI).2,Ea,fun x hx y hy e=>apart y hy (e▸hx)⟩
     ·have Bz:b∈OV.Al (us++[w]):=hb;rw[Kz,Lu] at Bz;exact List.mem_append.mp Bz
   rw[ep];exact hn _ σ F3 _ kk (Sg.gI (u:=w) S m3.st hi Bh WL ER Mu NU GH sb) (m1.ff.trans Iw.ff)⟩
end
def Cn:List Str->Str->Option Nat
 | [],_=>none
 | g::ns,f=>if g=f then some 0 else(Cn ns f).map (· + 1)
def Nn (ns:List Str)(f:Str):List Str:=match Cn ns f with
 | some _=>ns
 | none=>ns++[f]
def N6 (ns:List Str)(us:List OV)(f:Str)(w:OV):List OV:=match Cn ns f with
 | some n=>us.set n w
 | none=>us++[w]
def MZ (ns:List Str)(vs:List V)(f:Str)(w:V):List V:=match Cn ns f with
 | some n=>vs.set n w
 | none=>vs++[w]
theorem cn:∀{ns:List Str}{f:Str}{n:Nat},Cn ns f=some n->n<ns.length
 | [],_,_,h=>by cases h
 | g::ns,f,n,h=>by
  rw[Cn] at h
  by_cases c:g=f
  ·rw[pR c] at h;cases h;exact Nat.succ_pos _
  ·rw[nr c] at h;cases e:Cn ns f with
   | none=>rw[e] at h;cases h
   | some m=>rw[e] at h;cases h;exact Nat.succ_lt_succ (cn e)
theorem VM:∀{ns:List Str}{vs:List V}{f:Str}{n:Nat}{v:V},Cn ns f=some n->vs[n]?=some v->(ns.zip vs).lookup f=some v
 | [],_,_,_,_,h,_=>by cases h
 | g::ns,[],f,n,v,h,hv=>by simp at hv
 | g::ns,w::vs,f,n,v,h,hv=>by
  rw[Cn] at h;rw[Ft]
  by_cases c:g=f
  ·rw[pR c] at h;cases h;simp at hv;subst c;rw[List.lookup_cons_self,hv]
  ·rw[nr c] at h;cases e:Cn ns f with
   | none=>rw[e] at h;cases h
   | some m=>
    rw[e] at h;cases h;rw[Gw];have:(f == g)=false:=by simpa using fun z=>c z.symm
    rw[this];exact VM e (by simpa using hv)
theorem j8:∀{ns:List Str}{vs:List V}{f:Str}{v:V},ns.length=vs.length->DY f v (ns.zip vs)=(Nn ns f).zip (MZ ns vs f v)/\(Nn ns f).length=(MZ ns vs f v).length
 | [],[],f,v,_=>by simp[DY,Nn,MZ,Cn]
 | [],_::_,_,_,h=>by simp at h
 | _::_,[],_,_,h=>by simp at h
 | g::ns,w::vs,f,v,h=>by
  obtain⟨i1,i2⟩:=j8 (ns:=ns) (vs:=vs) (f:=f) (v:=v) (by simpa using h)
  rw[Ft];rw[show DY f v ((g,w)::ns.zip vs)=(if g=f then(g,v)::ns.zip vs else(g,w)::DY f v (ns.zip vs)) from rfl]
  unfold Nn MZ at i1 i2 ⊢;rw[Cn]
  by_cases c:g=f
  ·rw[pR c,pR c];exact⟨by simp,by simpa using h⟩
  ·rw[nr c,nr c,i1];cases e:Cn ns f with
   | none=>rw[e] at i2;exact⟨by simp,by simpa using i2⟩
   | some m=>rw[e] at i2;exact⟨by simp,by simpa using i2⟩
section
variable [Xw]
variable {k:PV->Prop}{K:ZHP}
theorem W8 {k:List Nat->OV->Prop}(h:Wl ss i t ta fun p u=>∃C dx ns a us n w,u=.nd (.obj C dx ns) a us/\C3 K C/\By K C f/\Cn ns f=some n/\us[n]?=some w/\k (p++[n]) w):Wl ss i t (Kl K ta f) k:=⟨h.hi,fun E σ F H Q S q=>
 h.go E σ F H _ S fun v p u F1 H1 m1 r1 h1 AJ=>by
  obtain⟨C,dx,ns,a,us,n,w,eu,hc,hn,hx,hw,kk⟩:=AJ;subst eu;obtain⟨vs,rfl,ha,sd,ft,rr⟩:=r1.inv;obtain⟨x,mn,rx⟩:=rr.get hw;exact⟨a,C,dx,ns.zip vs,x,rfl,ha,hc,hn,VM hx mn,q x (p++[n]) w F1 H1 m1 rx (OV.MU h1 (by rw[OV.L7,hw];exact OV.JD)) kk⟩⟩
theorem KH:(OV.nd (.obj C dx ns) a us).addrs=a::dx::OV.Al us:=by rw[OV.DR];rfl
theorem Sg.yS {lt:Bool}{Aw:List Str}(S0:Sg E ss σ F0 H0)(S:Sg E ss σ F H)(hi:ss[i]?=some (.ow lt t))(Bh:t.at p=some (.nd (.obj C dx ns) a us))(Oi:H dx=some (.own a))
  (hu:∀a∈u.addrs,F a=none/\E.H0 a=none/\((∃i∈m,∃s,s≠Slot.AD/\ss[i]?=some s/\BI s σ[i]? a)∨H0 a=none)) (ER:i∉m)
  (hr:B6 F H CB us') (hl:Aw.length=CB.length) (Mt:(OV.Al us').Nodup) (EJ:∀b∈OV.Al us',b∈OV.Al us∨b∈u.addrs):Sg E ((Fz.DT m ss).set i (.ow lt (t.put p (.nd (.obj C dx Aw) a us')))) σ F (upd H a (.ins C dx (Aw.zip CB))):=by
 have DM:=b4 m ss hi ER;obtain⟨v,e,r,nd,q⟩:=S.ok i _ hi;have ut:∀b,b∈a::dx::OV.Al us->b∈t.addrs:=fun b hb=>OV.J4 Bh b (by rw[KH];exact hb);have Ma:∀b∈u.addrs,b∉t.addrs:=fun b hb z=>by
  rcases(hu b hb).2.2 with⟨j,hj,s,_,hs,o⟩|w
  ·exact S.BZ j i s _ b (by rintro rfl;exact ER hj) hs hi o z
  ·exact S0.Dv hi z w
 have DI:(OV.nd (.obj C dx ns) a us).addrs.Nodup:=by
  obtain⟨l,rr,e1,_⟩:=OV.split Bh;rw[e1,Bu,Bu] at nd;exact nd.1.2.1
 rw[KH] at DI;obtain⟨n1,n2⟩:=List.nodup_cons.mp DI;obtain⟨n3,n4⟩:=List.nodup_cons.mp n2;have na:∀b∈OV.Al us',b≠a:=fun b hb z=>by
  subst z;rcases EJ b hb with w | w
  ·exact n1 (by simp[w])
  ·exact Ma b w (ut b (by simp))
 have Hy:∀b∈OV.Al us',b≠dx:=fun b hb z=>by
  subst z;rcases EJ b hb with w | w
  ·exact n3 w
  ·exact Ma b w (ut b (by simp))
 have bU:dx≠a:=fun z=>n1 (by simp[z]);refine(S.DT m).VQ DM Bh (.nd (k:=.obj C dx Aw) AH (show upd H a _ dx=some (.own a) by rw[Ad bU];exact Oi) hl (hr.mono (A8.refl _) fun b hb o ho=>by rw[Ad (na b hb)];exact ho)) (by
  rw[KH];exact List.nodup_cons.mpr ⟨fun z=>by
   rcases List.mem_cons.mp z with z | z
   ·exact bU z.symm
   ·exact na a z rfl,List.nodup_cons.mpr ⟨fun z=>Hy dx z rfl,Mt⟩⟩) fun b hb=>?_
 rw[KH] at hb ⊢;rcases List.mem_cons.mp hb with w | w
 ·exact .inl (by simp[w])
 ·rcases List.mem_cons.mp w with w | w
  ·exact .inl (by simp[w])
  ·rcases EJ b w with z | z
   ·exact .inl (by simp[z])
   ·refine .inr ⟨(hu b z).1,(hu b z).2.1,fun j s hs o=>?_⟩;rcases Oa hs with y | ⟨GX,hm⟩
    ·subst y;cases o
    ·rcases(hu b z).2.2 with⟨i2,EC,s2,_,D4,o2⟩|y
     ·exact S.BZ j i2 s s2 b (by rintro rfl;exact hm EC) GX D4 o o2
     ·exact S0.Dv GX o y
theorem pU {F1 H1 F3 H3:Hp}{v:V}(S:Sg E ss σ F H)(Iw:Mv E ss σ F1 H1 F3 H3)(r1:B1 F1 H1 v w)(a1:∀a∈w.addrs,F1 a=none/\E.H0 a=none/\((∃i∈m,∃s,s≠Slot.AD/\ss[i]?=some s/\BI s σ[i]? a)∨H a=none)):
  B1 F3 H3 v w/\∀b∈w.addrs,F3 b=none/\E.H0 b=none/\((∃i∈m,∃s,s≠Slot.AD/\ss[i]?=some s/\BI s σ[i]? b)∨H b=none):=by
 have np:∀b∈w.addrs,CK ss σ b:=fun b hb k hk ek=>by
  rcases(a1 b hb).2.2 with⟨j,hj,s,hs,ID,o⟩|z
  ·exact S.BZ j k s _ b (fun e=>by subst e;rw[ID] at hk;exact hs (BS hk)) ID hk o ek
  ·exact S.Dv hk ek z
 refine⟨r1.mono Iw.ff fun b hb o e=>Iw.hh b o (np b hb) e,fun b hb=>⟨?_,(a1 b hb).2⟩⟩;cases e:F3 b with
 | none=>rfl
 | some o=>
  rcases Iw.nn b o e with z | z
  ·rw[(a1 b hb).1] at z;cases z
  ·exact absurd z (r1.there b hb)
theorem Mp (h:Wx ss tv fun m w=>Wl ss i t ta fun p u=>∃lt C dx ns a us,ss[i]?=some (.ow lt t)/\u=.nd (.obj C dx ns) a us/\C3 K C/\By K C f/\ns.length<1000/\i∉m/\nx ((Fz.DT m ss).set i (.ow lt (t.put p (.nd (.obj C dx (Nn ns f)) a (N6 ns us f w)))))):Ws ss (Vt K ta tv f) nx R:=⟨fun E D σ F H S hn hr=>
 h.go E σ F H _ S fun v m w F1 H1 m1 r1 Ea a1 h2=>h2.go E σ F1 H1 _ m1.st fun v2 p u F2 H2 m2 r2 Bh AJ=>by
  obtain⟨lt,C,dx,ns,a,us,hi,eu,hc,xJ,hz,ER,kk⟩:=AJ;subst eu;have ev:v2=.ref a:=by cases r2;rfl
  subst ev;obtain⟨Ga,WL⟩:=pU S m2 r1 a1;cases r2 with
  | @nd _ _ vs _ ha sd ft rr=>
   have HC:ns.length=vs.length:=ft;have vl:=rr.length;obtain⟨ep,NU⟩:=j8 (f:=f) (v:=v) HC;refine⟨a,C,dx,ns.zip vs,rfl,ha,hc,xJ,by rw[Oz];omega,?_⟩;obtain⟨v0,e0,r0,D9,q0⟩:=m2.st.ok i _ hi;have DI:(OV.nd (.obj C dx ns) a us).addrs.Nodup:=by
    obtain⟨l,rr,e1,_⟩:=OV.split Bh;rw[e1,Bu,Bu] at D9;exact D9.1.2.1
   rw[KH] at DI;have YM:=(List.nodup_cons.mp (List.nodup_cons.mp DI).2).2;have apart:∀b∈w.addrs,b∉OV.Al us:=fun b hb z=>by
    have bt:b∈t.addrs:=OV.J4 Bh b (by rw[KH];simp[z]);rcases(a1 b hb).2.2 with⟨j,hj,s,_,hs,o⟩|y
    ·exact S.BZ j i s _ b (by rintro rfl;exact ER hj) hs hi o bt
    ·exact S.Dv hi bt y
   obtain⟨Mu,GH,sb⟩:B6 F2 H2 (MZ ns vs f v) (N6 ns us f w)/\(OV.Al (N6 ns us f w)).Nodup/\∀b∈OV.Al (N6 ns us f w),b∈OV.Al us∨b∈w.addrs:=by
    unfold MZ N6;cases e:Cn ns f with
    | some n=>
     have O8:n<us.length:=by have:=cn e;omega
     obtain⟨l,r,e1,e2⟩:=Ir (B9 O8);refine⟨rr.set n Ga,?_,fun b hb=>?_⟩
     ·show(OV.Al (us.set n w)).Nodup;rw[e2];rw[e1] at YM;exact Xx YM Ea fun b hb=>.inr (by rw[<- e1];exact apart b hb)
     ·have Bz:b∈OV.Al (us.set n w):=hb;rw[e2] at Bz;rcases List.mem_append.mp Bz with z | z
      ·rcases List.mem_append.mp z with z | z
       ·exact .inl (by rw[e1];simp[z])
       ·exact .inr z
      ·exact .inl (by rw[e1];simp[z])
    | none=>
     refine⟨rr.append (.one Ga),?_,fun b hb=>?_⟩
     ·show(OV.Al (us++[w])).Nodup;rw[Kz,Lu,Bu];exact⟨YM,Ea,fun x hx y hy e=>apart y hy (e▸hx)⟩
     ·have Bz:b∈OV.Al (us++[w]):=hb;rw[Kz,Lu] at Bz;exact List.mem_append.mp Bz
   rw[ep];exact hn _ σ F2 _ kk (Sg.yS (u:=w) S m2.st hi Bh sd WL ER Mu NU GH sb) (m1.ff.trans m2.ff)⟩
end
theorem OU:∀{ns:List Str}{vs:List V}{f:Str},Cn ns f=none->(ns.zip vs).lookup f=none
 | [],_,_,_=>by simp
 | g::ns,[],f,h=>by simp
 | g::ns,w::vs,f,h=>by
  rw[Cn] at h
  by_cases c:g=f
  ·rw[pR c] at h;cases h
  ·rw[nr c] at h;rw[Ft,Gw];have:(f == g)=false:=by simpa using fun z=>c z.symm
   rw[this];refine OU ?_;cases e:Cn ns f with
   | none=>rfl
   | some m=>rw[e] at h;cases h
section
variable [Xw]
variable {te:TE}{ta:TA}{lt:Bool}{K:ZHP}
theorem PK {a0:Addr}{m:Str}{k:PV->OV->Prop}(hi:ss[i]?=some (.ow lt (.nd (.obj C dx ns) a0 us)))(hm:Cn ns m=none)(h:Nz ss ta fun l=>∃k',pre (.ow true (.nd (.obj C dx ns) a0 us)::l) (.mt k')/\∀p t',k' p t'->∃Hi us',t'=.nd Hi a0 us'/\k p t'):
  Wm ss i lt (.nd (.obj C dx ns) a0 us) (JM C m (Cu pre) [] E0 (BQ i) ta) k:=⟨fun E σ F H Q S q=>by
 obtain⟨v0,e0,r0,_,_⟩:=S.ok i _ hi;have ev:v0=.ref a0:=by cases r0;rfl
 subst ev;cases r0 with
 | @nd _ _ Fe _ ha sd ft rr=>
  refine⟨_,e0,a0,dx,ns.zip Fe,rfl,ha,OU hm,h.go E σ F H _ S fun vs l F1 H1 m1 a ⟨k',hp,kk⟩=>?_⟩;rw[Et];refine⟨.ow true (.nd (.obj C dx ns) a0 us)::l,.mt k',F1,[],(OV.nd (.obj C dx ns) a0 us).addrs,hp,m1.st.jF hi (.here e0 a),fun v F' H' f ⟨p,t',r,ro,nd,qa,kp⟩=>?_⟩;obtain⟨Hi,us',rfl,k2⟩:=kk p t' kp;exact q v p _ F' H' (m1.ZEU hi (m1.st.gy hi f ro nd qa)) r k2⟩
theorem GV {m:Str}{k:PV->Prop}(h:Wp ss te fun o=>∃ns xs,o=.obj C ns xs/\Cn ns m=none/\Wa ss ta fun l=>∃k',pre (.is o::l) (.is k')/\∀p,k' p->k p):Wp ss (JM C m (Ar pre) [] E0 te ta) k:=⟨fun E σ F H Q S q=>
 h.go E σ F H _ S fun v o F1 H1 m1 ro ⟨ns,xs,eo,hm,h2⟩=>by
  subst eo;cases ro with
  | @obj a _ dx _ Fe _ e1 e2 hl rr=>
   refine⟨a,dx,ns.zip Fe,rfl,m1.st.fh _ _ e1,OU hm,h2.go E σ F1 H1 _ m1.st fun vs l F2 H2 m2 al ⟨k',hp,kk⟩=>?_⟩;rw[Et];refine⟨.is (.obj C ns xs)::l,.is k',F2,[],hp,m2.st.SY (.cons (s:=.is _) (Rep.obj (m2.ff _ _ e1) (m2.ff _ _ e2) hl (rr.mono m2.ff)) al),fun v F' H' f ⟨p,r,kp⟩=>?_⟩;exact q v p F' H' (m1.trans (m2.trans (m2.st.back (fun _ h=>absurd h B4) f))) r (kk p kp)⟩
theorem JG {k:PV->Prop}(h:Wp ss te fun o=>∃C ns xs n y,o=.obj C ns xs/\C3 K C/\By K C f/\Cn ns f=some n/\xs[n]?=some y/\k y):Wp ss (Kl K te f) k:=⟨fun E σ F H Q S q=>
 h.go E σ F H _ S fun v o F1 H1 m1 ro AJ=>by
  obtain⟨C,ns,xs,n,y,eo,hc,hn,hx,hy,kk⟩:=AJ;subst eo;cases ro with
  | @obj a _ dx _ Fe _ e1 e2 hl rr=>
   obtain⟨u,hu,ru⟩:=rr.get hy;exact⟨a,C,dx,ns.zip Fe,u,rfl,m1.st.fh _ _ e1,hc,hn,VM hx hu,q u y F1 H1 m1 ru kk⟩⟩
theorem sh {k:List Nat->OV->Prop}(h:Nz ss ta fun l=>∀x dx:Addr,∃k',pre (.ow true (.nd (.obj C dx []) x [])::l) (.mt k')/\∀p t',k' p t'->p=.AF/\∃Aw us',t'=.nd (.obj C dx Aw) x us'/\k [] t'):Wx ss (Uc C (Cu pre) [] E0 ta) k:=⟨fun E σ F H Q S q=>
 h.go E σ F H _ S fun vs l F1 H1 m1 al ME x dx hx Oi Af=>by
  rw[Et];have M1:=m1.st.make Oi (.own x);have Kw:upd H1 dx (.own x) x=none:=by rw[Ad (BP Af)];exact hx
  have M2:=M1.st.make Kw (.ins C dx []);have m2:=M1.trans M2;have up:∀a o,H1 a=some o->upd (upd H1 dx (.own x)) x (.ins C dx []) a=some o:=fun a o e=>by
   rw[Ad (EU e hx),Ad (EU e Oi)];exact e
  have dn:∀a,upd (upd H1 dx (.own x)) x (.ins C dx []) a=none->H1 a=none:=fun a e=>by
   cases z:H1 a with
   | none=>rfl
   | some o=>rw[up a o z] at e;cases e
  have a0:(OV.nd (.obj C dx []) x []).addrs=[x,dx]:=by rw[KH,OV.Ib]
  have r0:B1 F1 (upd (upd H1 dx (.own x)) x (.ins C dx [])) (.ref x) (.nd (.obj C dx []) x []):=.nd (k:=.obj C dx []) (vs:=[]) AH (show upd _ x _ dx=some (.own x) by rw[Ad Af];exact AH) rfl .nil;have f0:∀a∈(OV.nd (.obj C dx []) x []).addrs,H1 a=none:=fun a ha=>by
   rw[a0] at ha;simp only[DN,B4,ya] at ha;rcases ha with rfl | rfl
   ·exact hx
   ·exact Oi
  have D9:(OV.nd (.obj C dx []) x []).addrs.Nodup:=by
   rw[a0];simp[BP Af]
  have Sx:=Sg.ik (j:=ss.length) (m:=[]) (v:=.ref x) (u:=.nd (.obj C dx []) x []) (m1.st.grown 1) (m2.st.grown 1) r0 D9 fun a ha=>⟨m1.st.BU (f0 a ha),m1.st.E8 (f0 a ha),.inr (f0 a ha)⟩;have hl:=m1.st.len;have hi:((ss++List.replicate 1 Slot.any).set ss.length (.ow false (.nd (.obj C dx []) x [])))[ss.length]?=some (.ow false (.nd (.obj C dx []) x [])):=Ci (by simp);have e0:((σ++List.replicate 1 none).set ss.length (some (V.ref x)))[ss.length]?=some (some (.ref x)):=Ci (by simp;omega);obtain⟨k',hp,kk⟩:=ME x dx;refine⟨.ow true (.nd (.obj C dx []) x [])::l,.mt k',F1,[],(OV.nd (.obj C dx []) x []).addrs,hp,Sx.jF hi (.here e0 al),fun v F' H' f ⟨p,t',r,ro,nd,qa,kp⟩=>?_⟩;obtain⟨rfl,Aw,us',rfl,k2⟩:=kk p t' kp;have B:=Sx.gy hi f ro nd qa;have at':∀n,n<ss.length->((ss++List.replicate 1 Slot.any).set ss.length (.ow false (.nd (.obj C dx []) x [])))[n]?=ss[n]?:=fun n hn=>by rw[CG (by omega),Im hn]
  have Cv:∀n,n<ss.length->((σ++List.replicate 1 none).set ss.length (some (V.ref x)))[n]?=σ[n]?:=fun n hn=>by rw[CG (by omega),Im (by omega)]
  have np:∀a,H1 a≠none->CK ss σ a->CK ((ss++List.replicate 1 Slot.any).set ss.length (.ow false (.nd (.obj C dx []) x []))) ((σ++List.replicate 1 none).set ss.length (some (V.ref x))) a:=fun a _ hn n hk=>by
   by_cases c:n<ss.length
   ·rw[at' n c] at hk;rw[Cv n c];exact hn n hk
   ·by_cases c2:n=ss.length
    ·subst c2;rw[hi] at hk;cases hk
    ·rw[Ox (by simp;omega)] at hk;cases hk
  have M3:Mv E ss σ F1 H1 F' H':=m1.st.step B.ff B.st.fh (fun a o hn e=>B.hh a o (np a (by rw[e];simp) hn) (fun z=>by rw[f0 a z] at e;cases e) (up a o e)) (fun a o e=>(B.nn a o e).imp id (dn a)) fun n l' hn en=>by
   have c:n<ss.length:=(List.getElem?_eq_some_iff.mp hn).1;refine B.st.E7 (i:=n) ?_ (by rw[Cv n c];exact en);rw[CG (by omega)];exact(at' n c).trans hn
  cases r.inv;refine⟨rfl,q (.ref x) [] _ F' H' (m1.trans M3) ro nd (fun a ha=>?_) k2⟩;have h1:H1 a=none:=(qa a ha).2.elim (dn a) (f0 a);exact⟨(qa a ha).1,m1.st.E8 h1,.inr (m1.none h1)⟩⟩
end
end Fz
namespace L2
section
variable {X:Cx}{o e value:Expr}{f:Str}{pos pos' YT:Pos}{ta tv:TE}
theorem D2 (he:QE X e ta)(hb:attributeBase e f X.env (eval e X.env)=eval e X.env:=by rfl):QE X (.Attribute e f pos) (Kl X.K ta f):=⟨by
 have he:=he.h;intro pins s σ H Q I h;refine uL hb (AS (he pins s σ H _ I h) fun u s1 Ep=>?_);obtain⟨x,H1,I1,rx,a,C,dx,fs,v,ex,ea,c,n,l,q⟩:=Ep;subst ex;obtain rfl:u=Value.ref a:=rx;exact uK I1 ea c n l fun u' s2 I2 ru=>⟨v,H1,I2,ru,q⟩⟩
theorem O2 (ha:QE X o ta)(hv:QE X value tv)(hs:swapsWith value (some (.Attribute o f pos')) pos.line X.env=pure false:=by rfl):QS X (.Assign [.Attribute o f pos'] value pos) (Vt X.K ta tv f):=⟨by
 have ha:=ha.h;have hv:=hv.h;intro pins s σ H D I h;refine plainObj_wpAny_Assign_Attribute (AS (hv pins s σ H _ I h) fun u s1 ⟨y,H1,I1,ry,q⟩=>AS (ha pins s1 σ H1 _ I1 q) fun ov s2 ⟨x,H2,I2,rx,a,C,dx,fs,ex,ea,c,n,l,q2⟩=>?_) hs;subst ex;obtain rfl:ov=Value.ref a:=rx;exact wD I2 ea c n l ry fun s3 I3=>⟨σ,_,I3,q2⟩⟩
end
end L2
namespace L2
section
variable {X:Cx}{o e:Expr}{td ty:TE}{apos Bj:Pos}
theorem kR (ho:QE X o td)(he:QE X e ty)(m:M1 X o "pop" apos e Bj):QE X (.Call (.Attribute o "pop" apos) [e] [] Bj) (X5 td ty):=⟨by
 have ho:=ho.h;have he:=he.h;intro pins s σ H Q I h;refine wpAny_Call_method m.base m.G1 m.line PySem.F.plainAttrs_dict ZGT PySem.F.type_dict_pop (AS (ho pins s σ H _ I h) fun u s1 ⟨x,H1,I1,rx,a,ex,d,q1⟩=>?_);subst ex;obtain rfl:u=Value.ref a:=rx;obtain⟨t1,t2,_⟩:=oN I1 d;refine⟨t1,t2,?_⟩;rw[m.trees];refine lF rfl (Calls.evalArgs_plain (lG (AS (he pins s1 σ H1 _ I1 q1) fun iv s2 ⟨y,H2,I2,ry,A6,k,v,ea,ey,l,q2⟩=>lH ?_)));subst ey;exact nj I2 ea ry l (.inl rfl) fun w' s3 I3 FY=>⟨v,_,I3,FY,q2⟩⟩
end
end L2
namespace Fz
open L2 Lw
theorem hZ:∀{ks:List Key}{vs:List V}{key:Key}{n:Nat},ks.Nodup->CI ks key=some n->ks.length=vs.length->Jc (ks.zip vs) key=(ks.eraseIdx n).zip (vs.eraseIdx n)
 | [],_,_,_,_,h,_=>by cases h
 | _::_,[],_,_,_,_,hl=>by simp at hl
 | k'::ks,w::vs,key,n,nd,h,hl=>by
  obtain⟨n1,n2⟩:=List.nodup_cons.mp nd;rw[CI] at h;unfold Jc;rw[Ft,Ov]
  by_cases c:k'=key
  ·rw[pR c] at h;cases h;rw[nr (by simp[c])];show List.filter _ _=ks.zip vs;refine List.filter_eq_self.mpr fun kv Ye=>?_;have:kv.1∈ks:=(Zd (a:=kv.1) (b:=kv.2) Ye).1;exact nV fun z=>n1 (by rw[c,<- z];exact this)
  ·rw[nr c] at h;cases e:CI ks key with
   | none=>rw[e] at h;cases h
   | some m=>
    rw[e] at h;cases h;rw[pR (nV c)];have ih:=hZ (vs:=vs) n2 e (by simpa using hl)
    unfold Jc at ih;rw[ih];rfl
theorem UT {α:Type}:∀(l:List α) (n:Nat),n<l.length->(l.eraseIdx n).length=l.length - 1
 | [],_,h=>by simp at h
 | _::_,0,_=>rfl
 | x::t,n+1,h=>by
  have h':n<t.length:=by simpa using h
  rw[Sj,BH,UT t n h',BH];omega
theorem B6.eB {F H:Hp}:∀{vs:List V}{us:List OV}(n:Nat),B6 F H vs us->B6 F H (vs.eraseIdx n) (us.eraseIdx n)
 | _,_,_,.nil=>.nil
 | _,_,0,.cons _ t=>t
 | _,_,n+1,.cons r t=>.cons r (B6.eB n t)
theorem UW:∀(us:List OV) (n:Nat),(OV.Al (us.eraseIdx n)).Sublist (OV.Al us)
 | [],_=>ZFw _
 | u::us,0=>by rw[List.eraseIdx_cons_zero,OV.D1];exact List.sublist_append_right _ _
 | u::us,n+1=>by rw[Sj,OV.D1,OV.D1];exact List.Sublist.append (ZFw _) (UW us n)
section
variable [Xw]
variable {ss:List Slot}{td ty:TE}{nx:List Slot->Prop}{R:B0}{i:Nat}{t:OV}
theorem fU (h:Wl ss i t td fun p u=>∃lt a ks us,ss[i]?=some (.ow lt t)/\u=.nd (.Aq ks) a us/\ks.Nodup/\Wp ss ty fun q=>∃key n,q=Hj key/\CI ks key=some n/\nx (ss.set i (.ow lt (t.put p (.nd (.Aq (ks.eraseIdx n)) a (us.eraseIdx n)))))):Ws ss (Ki (X5 td ty)) nx R:=⟨fun E D σ F H S hn hr=>
 h.go E σ F H _ S fun v p u F1 H1 m1 r1 Bh ⟨lt,a,ks,us,hi,eu,hk,h2⟩=>by
  subst eu;have ev:v=.ref a:=by cases r1;rfl
  subst ev;have Ga:=r1;cases r1 with
  | @nd _ _ Fe _ zK sd0 ft0 rr0=>
   refine⟨a,rfl,.inl ⟨_,.inl zK⟩,h2.go E σ F1 H1 _ m1.st fun v2 q F2 H2 m2 r2 ⟨key,n,eq,hx,kk⟩=>?_⟩;subst eq;have r3:=Ga.mv m1.st ⟨lt,hi⟩ Bh m2;cases r3 with
   | @nd _ _ vs _ ha sd ft rr=>
    have HC:ks.length=vs.length:=ft;have vl:=rr.length;have O8:n<ks.length:=(List.getElem?_eq_some_iff.mp (YK hx)).1;have hv:=B9 (show n<vs.length by omega);refine⟨_,key,_,ha,M7 r2,X1 hx hv,?_⟩;obtain⟨v0,e0,r0,D9,q0⟩:=m2.st.ok i _ hi;have DI:(OV.nd (.Aq ks) a us).addrs.Nodup:=by
     obtain⟨l,rr,e1,_⟩:=OV.split Bh;rw[e1,Bu,Bu] at D9;exact D9.1.2.1
    rw[Kp] at DI;rw[hZ hk hx HC];have M:=Sg.gI (m:=[]) (u:=.fz .AF) (ks':=ks.eraseIdx n) (us':=us.eraseIdx n) m1.st m2.st hi Bh (fun b hb=>by rw[OV.Qp] at hb;cases hb) (by simp) (rr.eB n) (by rw[UT _ _ O8,UT _ _ (by omega)];omega) ((List.nodup_cons.mp DI).2.sublist (UW us n)) fun b hb=>.inl ((UW us n).subset hb);exact hn _ σ F2 _ kk M (m1.ff.trans m2.ff)⟩
end
end Fz
namespace L2
variable {pl:Sem Bool}
def C6 (P:Program)(w:World)(K:ZHP)(mg:ZHR)(base:Heap)(C:Addr)(m:Str)(k:Nat)(ps:List Str)(sp:Sp):Prop:=
 ∃f fd,DL P w K mg base Ff k f fd ps sp/\Binds K fd ps []/\Meth K C m f/\C3 K C
def Xk (P:Program)(w:World)(K:ZHP)(mg:ZHR)(base:Heap)(C:Addr)(k:Nat)(ps:List Str)(sp:Sp):Prop:=
 ∃f fd,DL P w K mg base Ff k f fd ps sp/\Binds K fd ps []/\Mk K C f
section
variable {X:Cx}{o e:Expr}{es:List Expr}{m x:Str}{C:Addr}{k j:Nat}{ps:List Str}{sp:Sp}{ta:TE}{t:TA}{apos pos p:Pos}
theorem FF (h:C6 X.prog X.w X.K X.mg X.base C m k ps sp)(hr:Bi j X.A)(hk:k<=j)(he:QE X o ta)(ha:QA X (e::es) t)
  (CL:starEach (e::es) X.env=(false,eval e X.env)::starEach es X.env:=by rfl) (Bq:(backTo pos (starEach es X.env)).any (·.1)=false:=by rfl)
  (ht:eval (.Call (.Attribute o m apos) (e::es) [] pos) X.env=(do
   let ov <- eval o X.env
   standAt apos.atName
   let (f,first) <- holding [ov] (getMethod ov m pl)
   callWith pos f first (backTo pos (starEach (e::es) X.env)) (backToKw pos (keywordEach [] X.env))):=by rfl) :
  QE X (.Call (.Attribute o m apos) (e::es) [] pos) (JM C m sp [] E0 ta t):=by
 obtain⟨f,fd,F,b,hm,c⟩:=h;exact⟨xC he.h c hm (F.mono hk) hr b .nil Ql ha.h CL Bq ht⟩
theorem Of (h:C6 X.prog X.w X.K X.mg X.base C m k ps sp)(hr:Bi j X.A)(hk:k<=j)(he:QE X o ta)
  (ht:eval (.Call (.Attribute o m apos) [] [] pos) X.env=(do
   let ov <- eval o X.env
   standAt apos.atName
   let (f,first) <- holding [ov] (getMethod ov m pl)
   callWith pos f first (backTo pos (starEach [] X.env)) (backToKw pos (keywordEach [] X.env))):=by rfl) :
  QE X (.Call (.Attribute o m apos) [] [] pos) (JM C m sp [] E0 ta B8):=by
 obtain⟨f,fd,F,b,hm,c⟩:=h;exact⟨ZDF he.h c hm (F.mono hk) hr b .nil Ql ht⟩
theorem vS (h:Xk X.prog X.w X.K X.mg X.base C k ps sp)(hr:Bi (j+1) X.A)(hk:k<=j)(hm:X.mg x=some (.ref C))(ha:QA X (e::es) t)(hg:Gl X x:=by rfl)(Cm:(x == ("__debug__":Str))=false:=by decide)
  (he:starEach (e::es) X.env=(false,eval e X.env)::starEach es X.env:=by rfl) (Bq:(backTo pos (starEach es X.env)).any (·.1)=false:=by rfl):QE X (.Call (.Name x p) (e::es) [] pos) (Uc C sp [] E0 t):=by
 obtain⟨f,fd,F,b,M⟩:=h;exact⟨zG M (F.mono hk) hr hg hm b .nil Ql ha.h Cm he Bq⟩
variable {prog:Program}{w:World}{A:Around}{E:Value->Shared->Prop}{s:Shared}
end
end L2
set_option maxHeartbeats 200000
set_option maxHeartbeats 4000000
namespace L2
def GN (s:Stmt)(n:Nat):Stmt:=match s with
 | .ClassDef _ _ _ b ..=>b.getD n (.Pass ⟨0,0,0,0⟩)
 | s=>s
end L2
namespace Fz
open L2 Lw
@[reducible] def xwM (X:XK) (t:OV) (D:Ex->Prop):Xw:=⟨fun _=>X,fun ss=>ss[0]?=some (.ow true t),D⟩
variable {R:B0}{AL ss:List Slot}
section
variable {pre:RO}{H:Hp}
def ZD (R:B0)(AL:List Slot):Prop:=∃(k:PV->OV->Prop) (nk:NK) (a:Addr) (us:List OV),R=.mt k/\AL[0]?=some (.ow true (.nd nk a us))/\k .AF (.nd nk a us)
theorem ZD.ok {E:Ent0}{σ:L2.St}{F:Hp}(h:ZD R AL)(S:Sg E AL σ F H):R.ok E F H .AF:=by
 obtain⟨k,nk,a,us,rfl,h0,hk⟩:=h;obtain⟨v0,e0,r0,D9,q0⟩:=S.ok 0 _ h0;have ev:v0=.ref a:=by cases r0;rfl
 subst ev;exact⟨.AF,.nd nk a us,.AF,r0,D9,fun b hb=>⟨(q0 b hb).1,(q0 b hb).2.imp id fun z=>z.2⟩,hk⟩
end
section
variable [Xw]
variable {te tv:TE}{ta:TA}{i:Nat}{lt:Bool}{t:OV}{nx:List Slot->Prop}{K:ZHP}{f:Str}
theorem eW {pre:Pre}{C:Addr}{m:Str}{k:List PV->Prop}(h:Wp ss te fun o=>∃ns xs,o=.obj C ns xs/\Cn ns m=none/\Wa ss ta fun l=>∃k',pre (.is o::l) (.new k')/\∀p,k' p->k p):Wn ss (JM C m (Ar pre) [] E0 te ta) k:=⟨fun E σ F H Q S q=>
 h.go E σ F H _ S fun v o F1 H1 m1 ro ⟨ns,xs,eo,hm,h2⟩=>by
  subst eo;cases ro with
  | @obj a _ dx _ Fe _ e1 e2 hl rr=>
   refine⟨a,dx,ns.zip Fe,rfl,m1.st.fh _ _ e1,OU hm,h2.go E σ F1 H1 _ m1.st fun vs l F2 H2 m2 al ⟨k',hp,kk⟩=>?_⟩;rw[Et];refine⟨.is (.obj C ns xs)::l,.new k',F2,[],hp,m2.st.SY (.cons (s:=.is _) (Rep.obj (m2.ff _ _ e1) (m2.ff _ _ e2) hl (rr.mono m2.ff)) al),fun v F' H' f ⟨a,fZ,cp,ev,f1,h1,Df,r,kp⟩=>?_⟩;subst ev;exact q a fZ cp F' H' (m1.trans (m2.trans (m2.st.back (fun _ h=>absurd h B4) f))) f1 (m1.none (m2.none h1)) Df r (kk cp kp)⟩
end
end Fz
namespace L2
section
variable {prog:Program}{w:World}{A:Around}{E:Value->Shared->Prop}{s:Shared}
theorem jz:typeLookup (.type "dict") "__len__"=pure (some (.builtin "dict.__len__")):=by rw[z9,uS];kernel_rfl
theorem sO {S:Addr}{A6:List (Key×Value)}{n:Nat}{Q:List Value->Shared->Prop}(hh:A.handled=none)(Ez:(S == sysModules)=false)(hS:s.heap.DictOf (C1 prog w) S A6)(en:A6.length=n)(hn:n<=sizeLine)
  (h:∀(s':Shared) (vs:List Value),(∀b o,s.heap.get? b=some o->s'.heap.get? b=some o)->s.heap.objs.size<=s'.heap.objs.size->s'.gens=s.gens->s'.os=s.os->vs.length=n->(∀(i:Nat) v,vs[i]?=some v->∃k x,A6[i]?=some (k,x)/\(C1 prog w).is k v=true)->Q vs s') :
  wpAny (model prog w) A (collect (.ref S)) Q E s:=by
 obtain⟨ep,hS⟩:=hS.dictAt;have AW:S<s.heap.objs.size:=hS.lt_size;have JY:s.heap.objs.size≠S:=Jq AW;unfold collect;refine mG (ZAQ (uI F.entry_proto_collect ?_));rw[Md F.plain_proto_collect _];show wpAny _ A.in1 (newList [] >>= fun l=>again (.builtin "list.__iadd__" ⟨[l,.ref S],[]⟩)) _ _ s;refine mG (qS ?_);refine mf ⟨y4 ZP _,uI F.entry_list_iadd ?_⟩;rw[Md ZP _];generalize ND:({ cls:=.type "list", data:=.seq ([]:List Value).toArray }:Obj)=so;have Dr:(s.heap.push so).DictAt (C1 prog w) S A6 ep:=hS.push _;have Iq:(s.heap.push so).get? s.heap.objs.size=some so:=BR _ (by rw[<- ND];rfl);have sz:(s.heap.push so).objs.size=s.heap.objs.size+1:=Dl ..;have Bc:Shared.TypeIs { s with heap:=s.heap.push so } (.ref S) "dict" := Dr.dictOf.typeIs
 have h1:Builtin.List.listSameRef (.ref s.heap.objs.size) (.ref S)=false:=by simp[Builtin.List.listSameRef,JY]
 show wpAny _ A.in1 (Builtin.List.listExtendWith (.ref s.heap.objs.size) (.ref S) (.ref s.heap.objs.size)) _ _ { s with heap:=s.heap.push so }
 unfold Builtin.List.listExtendWith;refine mG (uc Bc ?_);rw[nr (by rw[h1];decide)];refine mG (ZAW (s:={ s with heap:=s.heap.push so }) Ez Dr ?_)
 dsimp only;generalize Jy:({ cls:=.type "dict_keyiterator", data:=.fields #[.ref S,.int 0 0,.int A6.length 0,.int ep 0] }:Obj)=io;have kp:∀b o,(s.heap.push so).get? b=some o->((s.heap.push so).push io).get? b=some o:=fun b o e=>BE _ e;have Af:S≠(s.heap.push so).objs.size:=by rw[sz];exact BJ (Hn AW)
 have W:∀A2:Around,A2.handled=none->Walks prog w A2 (s.heap.push so).objs.size [(s.heap.push so).objs.size,S] [(s.heap.push so).objs.size] A6.length _ _:=fun A2 h2=>Zl (knd:=C1 prog w) h2 (s.heap.push so).objs.size S Af A6 ep;have Ie:((s.heap.push so).push io).IsKeyIter (s.heap.push so).objs.size S 0 A6.length ep/\((s.heap.push so).push io).DictAt (C1 prog w) S A6 ep:=⟨⟨io,BR _ (by rw[<- Jy];rfl),by rw[<- Jy],by rw[<- Jy];rfl⟩,Dr.push _⟩;have DF:s.heap.objs.size∉[(s.heap.push so).objs.size,S]:=fun hm=>by
  simp only[DN,B4,ya] at hm;rcases hm with z | z
  ·rw[sz] at z;omega
  ·exact JY z
 generalize hh2:(s.heap.push so).push io=h2 at kp Ie ⊢;have CQ:Shared.TypeIs { s with heap:=h2 } (.ref S) "dict" := by obtain⟨o,ho,hc⟩:=Bc;exact⟨o,kp _ _ ho,hc⟩
 refine mG (sF ?_);unfold Builtin.List.listLengthHint;refine mG (yg CQ jz ?_);generalize Gb:("dict.__len__":String)=Ks
 wp_delta
 rw[show splitId Ks=some ("dict","__len__") from by subst Gb;decide +kernel];subst Gb;refine mG (wK (b:=true) CQ (by rw[vb];kernel_rfl) ?_);rw[nr (by decide)];refine z8 (fun _=>?_) (fun D3=>absurd (by decide +kernel) D3);refine mG (uc CQ ?_);refine mf ?_;refine z8 (fun _=>?_) (fun D3=>absurd (by decide +kernel) D3);refine mG (ZAD ?_);refine mG ?_;show wpAny _ _ (updateSeq s.heap.objs.size (·.push .none) >>= fun _=>updateSeq s.heap.objs.size (·.pop)) _ _ _
 have z0:(#[]:Array Value).size<=sizeLine:=CH _;have z1:((#[]:Array Value).push Value.none).size<=sizeLine:=by show 1<=sizeLine;decide
 have z2:((#[]:Array Value).push Value.none).size<=sizeLine+1:=Zf z1;have z3:(((#[]:Array Value).push Value.none).pop).size<=sizeLine+1:=CH _;have JV:=kp _ _ Iq;subst ND;refine mG (wC (s:={ s with heap:=h2 }) JV rfl ?_ z0 z2)
 have q2:=FQ (Obj.mapSeq (·.push Value.none)) JV rfl
 refine wC q2 rfl ?_ z1 z3;have q3:=FQ (Obj.mapSeq (·.pop)) q2 rfl
 have Gg:∀b o,b≠s.heap.objs.size->h2.get? b=some o->((h2.update s.heap.objs.size (Obj.mapSeq (·.push Value.none))).update s.heap.objs.size (Obj.mapSeq (·.pop))).get? b=some o:=
  fun b o hb e=>(GP _ _ (BP hb)).trans ((GP _ _ (BP hb)).trans e)
 refine mf ⟨y4 lx _,ZA6 (W A.in1 hh).toS (en▸hn) _ DF _ A6.length 0 _ #[] _ rfl (CH _) ?_ q3 (ZR _) fun s' Ck c' hm CJ Ax=>?_⟩
 ·exact(W A.in1 hh).frame 0 h2 _ Ie fun b hb o e=>Gg b o (fun z=>DF (z▸hb)) e
 ·show wpAny _ A (load s.heap.objs.size >>= _) _ _ s';refine mG (ZAN CJ ?_);refine mf ?_;refine h s' Ck.toList (fun b o e=>?_) (LB (BC CJ)) hm.gens hm.os (by rw[GO,Ax.1];exact en) fun i v hv=>Ax.2 i v (by rw[<- Ou];exact hv);have hb:b<s.heap.objs.size:=BC e;refine hm.heap b o ?_ (Gg b o (BJ hb) (kp b o (BE _ e)));simp only[DN,B4,ya,not_or];refine⟨BJ hb,?_⟩;rw[sz];exact BJ (Hn hb)
end
theorem ip {prog:Program}{w:World}:∀{ns:List Str}{A6:List (Key×Value)}{vs:List Value},A6.map (·.1)=ns.map Sum.inr->vs.length=A6.length->(∀(i:Nat) v,vs[i]?=some v->∃k x,A6[i]?=some (k,x)/\(C1 prog w).is k v=true)->StrsAre vs ns
 | [],[],[],_,_,_=>.nil
 | [],[],_::_,_,h,_=>by simp at h
 | [],_::_,_,h,_,_=>by simp at h
 | _::_,[],_,h,_,_=>by simp at h
 | _::_,_::_,[],_,h,_=>by simp at h
 | n::ns,kv::A6,v::vs,e,hl,h=>by
  rw[Bn,Bn] at e;injection e with e1 e2
  obtain⟨k,x,ek,hk⟩:=h 0 v rfl;have Xf:kv=(k,x):=by simpa using ek
  subst Xf;have Dw:k=Sum.inr n:=e1;subst Dw;rcases G2 (show IA (Sum.inr n) v=true from hk) with⟨i,t,z,_⟩|⟨y,t,z,rfl⟩
  ·cases z
  ·cases z;exact .cons n t (ip e2 (by simpa using hl) fun i v hv=>h (i+1) v hv)
theorem StrsAre.uO {vs:List Value}{ns:List Str}(h:StrsAre vs ns):vs.length=ns.length:=by induction h with | nil=>rfl | cons y t h ih=>simp[ih]
section
variable {X:Cx}
def VC:List V->Hp->VK->Prop:=fun xs H Q=>∃(p:Addr) (A6:List (Key×V)) (ns:List Str),xs=[.ref p]/\Rd H p (.dK A6)/\A6.map (·.1)=ns.map Sum.inr/\ns.length<64/\∀(l:Addr) (AL:List Str),H l=none->AL.Perm ns->sortedS AL=true->Q (.ref l) (upd H l (.lst (AL.map V.str)))
theorem Qq (hc:X.calm=true):CY X (.builtin "sorted") VC:=by
 intro pins s σ H xs us Q I r h;obtain⟨p,A6,ns,rfl,hH,hk,Bw,q⟩:=h;obtain⟨u,rfl,rx⟩:=vals1 r;cases rx;obtain⟨hz,Ez,Fe,rel,hS⟩:=HW I.AK hH;have hh:X.A.handled=none:=I.ok.hd hc;have ek:Fe.map (·.1)=ns.map Sum.inr:=rel.keys.symm.trans hk
 refine XG (Pc:=fun vs s1=>(∀b o,s.heap.get? b=some o->s1.heap.get? b=some o)/\s.heap.objs.size<=s1.heap.objs.size/\s1.gens=s.gens/\s1.os=s.os/\StrsAre vs ns) (fun A1 E1 Q1 hA k=>?_) ?_
 ·exact sO (hA.trans hh) Ez hS rfl (by rw[<- rel.length];exact hz) fun s' vs a1 a2 a3 a4 a5 a6=>k vs s' ⟨a1,a2,a3,a4,ip ek a5 a6⟩
 ·rintro vs s1 ⟨a1,a2,a3,a4,a5⟩;refine⟨by rw[StrsAre.uO a5];exact Bw,ns,a5,fun out AL e h' kp he CJ hp hs=>?_⟩;exact YF I a3 a4 a1 a2 kp he CJ (by rw[hp.length_eq];exact Bw) fun l hl=>q l AL hl hp hs
end
end L2
namespace Fz
open L2 Lw
theorem RU:∀{ks:List Key}{vs:List V},ks.length=vs.length->(ks.zip vs).map (·.1)=ks
 | [],[],_=>rfl
 | [],_::_,h=>by simp at h
 | _::_,[],h=>by simp at h
 | k::ks,v::vs,h=>by
  rw[Ft,Bn,RU (by simpa using h)]
section
variable [Xw]
variable {E:Ent0}{ss:List Slot}{σ:L2.St}{F H F' H':Hp}{K:ZHP}{i:Nat}{t:OV}{ta tb te:TE}{nx:List Slot->Prop}{R:B0}
theorem Vr {k:List PV->Prop}(h:Wp ss te fun p=>∃(xs:List PV) (ns:List Str),p=.Aq (ns.map Sum.inr) xs/\ns.length<64/\∀Aw:List Str,Aw.Perm ns->sortedS Aw=true->k (Aw.map PV.str)):Wn ss (Cb VC (AY te B8)) k:=⟨fun E σ F H Q S q=>
 h.go E σ F H _ S fun v p F1 H1 m1 rp AJ=>by
  obtain⟨xs,ns,e,hz,kk⟩:=AJ;subst e;cases rp with
  | @Aq a _ vs _ ef hl rr=>
   refine⟨a,_,ns,rfl,.inl (m1.st.fh _ _ ef),RU hl,hz,fun l Aw Dz hp hs=>?_⟩;have m2:=m1.st.make Dz (.lst (Aw.map V.str));exact q l _ _ F1 _ (m1.trans m2) (m1.st.BU Dz) (m1.none Dz) AH (JW Aw) (kk Aw hp hs)⟩
end
end Fz
namespace L2
section
variable {prog:Program}{w:World}{A:Around}{s:Shared}{R:Result->Shared->Prop}
theorem vq {L S:Addr}{c0:Nat}{res:Value}{A6:List (Key×Value)}{n:Nat}(hh:A.handled=none)(Ez:(S == sysModules)=false)(hL:s.heap.get? L=some { cls:=.type "list", data:=.seq #[] c0 })(rb:s.heap.DictOf (C1 prog w) S A6)(en:A6.length=n)(hn:n<=sizeLine)
  (h:∀(s':Shared) (vs:List Value) (c':Nat),(∀b o,b≠L->s.heap.get? b=some o->s'.heap.get? b=some o)->L<s'.heap.objs.size->s'.gens=s.gens->s'.os=s.os->s'.heap.get? L=some { cls:=.type "list", data:=.seq vs.toArray c' }->vs.length=n->(∀(i:Nat) v,vs[i]?=some v->∃k x,A6[i]?=some (k,x)/\(C1 prog w).is k v=true)->R (.ok (.ret res)) s') :
  wpAny (model prog w) A.in1 (Builtin.List.listExtendWith (.ref L) (.ref S) res)
   (fun fin s'=>match fin with | .done f=>R (.ok f) s' | .again c'=>c'.quiet=true/\codeAny (model prog w) A c' R s') (fun e s'=>R (.error e) s') s:=by
 obtain⟨ep,hS⟩:=rb.dictAt;have AW:S<s.heap.objs.size:=hS.lt_size;have JY:L≠S:=fun z=>by
  subst z;obtain⟨o,ho,hc⟩:=hS.dictOf.typeIs;rw[hL] at ho;cases ho;exact absurd hc (by show ¬ Value.type "list"=Value.type "dict"; decide)
 have Bc:Shared.TypeIs s (.ref S) "dict" := hS.dictOf.typeIs;have h1:Builtin.List.listSameRef (.ref L) (.ref S)=false:=by simp[Builtin.List.listSameRef,JY]
 unfold Builtin.List.listExtendWith;refine mG (uc Bc ?_);rw[nr (by rw[h1];decide)];refine mG (ZAW (s:=s) Ez hS ?_);dsimp only;generalize Jy:({ cls:=.type "dict_keyiterator", data:=.fields #[.ref S,.int 0 0,.int A6.length 0,.int ep 0] }:Obj)=io;have kp:∀b o,s.heap.get? b=some o->(s.heap.push io).get? b=some o:=fun b o e=>BE _ e;have Af:S≠s.heap.objs.size:=BJ AW;have W:∀A2:Around,A2.handled=none->Walks prog w A2 s.heap.objs.size [s.heap.objs.size,S] [s.heap.objs.size] A6.length _ _:=fun A2 h2=>Zl (knd:=C1 prog w) h2 s.heap.objs.size S Af A6 ep;have Ie:(s.heap.push io).IsKeyIter s.heap.objs.size S 0 A6.length ep/\(s.heap.push io).DictAt (C1 prog w) S A6 ep:=⟨⟨io,BR _ (by rw[<- Jy];rfl),by rw[<- Jy],by rw[<- Jy];rfl⟩,hS.push _⟩;have DF:L∉[s.heap.objs.size,S]:=fun hm=>by
  simp only[DN,B4,ya] at hm;rcases hm with z | z
  ·have q:L<s.heap.objs.size:=BC hL;rw[z] at q;exact LC _ q
  ·exact JY z
 generalize hh2:s.heap.push io=h2 at kp Ie ⊢;have CQ:Shared.TypeIs { s with heap:=h2 } (.ref S) "dict" := by obtain⟨o,ho,hc⟩:=Bc;exact⟨o,kp _ _ ho,hc⟩
 refine mG (sF ?_);unfold Builtin.List.listLengthHint;refine mG (yg CQ jz ?_);generalize Gb:("dict.__len__":String)=Ks
 wp_delta
 rw[show splitId Ks=some ("dict","__len__") from by subst Gb;decide +kernel];subst Gb;refine mG (wK (b:=true) CQ (by rw[vb];kernel_rfl) ?_);rw[nr (by decide)];refine z8 (fun _=>?_) (fun D3=>absurd (by decide +kernel) D3);refine mG (uc CQ ?_);refine mf ?_;refine z8 (fun _=>?_) (fun D3=>absurd (by decide +kernel) D3);refine mG (ZAD ?_);refine mG ?_;show wpAny _ _ (updateSeq L (·.push .none) >>= fun _=>updateSeq L (·.pop)) _ _ _
 have z0:(#[]:Array Value).size<=sizeLine:=CH _;have z1:((#[]:Array Value).push Value.none).size<=sizeLine:=by show 1<=sizeLine;decide
 have z2:((#[]:Array Value).push Value.none).size<=sizeLine+1:=Zf z1;have z3:(((#[]:Array Value).push Value.none).pop).size<=sizeLine+1:=CH _;have JV:=kp _ _ hL;refine mG (wC (s:={ s with heap:=h2 }) JV rfl ?_ z0 z2)
 have q2:=FQ (Obj.mapSeq (·.push Value.none)) JV rfl
 refine wC q2 rfl ?_ z1 z3;have q3:=FQ (Obj.mapSeq (·.pop)) q2 rfl
 have Gg:∀b o,b≠L->h2.get? b=some o->((h2.update L (Obj.mapSeq (·.push Value.none))).update L (Obj.mapSeq (·.pop))).get? b=some o:=
  fun b o hb e=>(GP _ _ (BP hb)).trans ((GP _ _ (BP hb)).trans e)
 refine mf ⟨y4 lx _,ZA6 (W A.in1 hh).toS (en▸hn) _ DF _ A6.length 0 _ #[] _ rfl (CH _) ?_ q3 (ZR _) fun s' Ck c' hm CJ Ax=>?_⟩
 ·exact(W A.in1 hh).frame 0 h2 _ Ie fun b hb o e=>Gg b o (fun z=>DF (z▸hb)) e
 ·have hsz:L<s'.heap.objs.size:=BC CJ;refine h s' Ck.toList c' (fun b o hb e=>?_) hsz hm.gens hm.os CJ (by rw[GO,Ax.1];exact en) fun i v hv=>Ax.2 i v (by rw[<- Ou];exact hv);have Bz:b<s.heap.objs.size:=BC e;refine hm.heap b o ?_ (Gg b o hb (kp b o e));simp only[DN,B4,ya,not_or];exact⟨hb,BJ Bz⟩
end
theorem gC {prog:Program}{w:World}:∀{ks:List Key}{A6:List (Key×Value)}{vs:List Value},A6.map (·.1)=ks->vs.length=A6.length->(∀(i:Nat) v,vs[i]?=some v->∃k x,A6[i]?=some (k,x)/\(C1 prog w).is k v=true)->Vals (ks.map kV) vs
 | [],[],[],_,_,_=>.nil
 | [],[],_::_,_,h,_=>by simp at h
 | [],_::_,_,h,_,_=>by simp at h
 | _::_,[],_,h,_,_=>by simp at h
 | _::_,_::_,[],_,h,_=>by simp at h
 | n::ns,kv::A6,v::vs,e,hl,h=>by
  rw[Bn] at e;injection e with e1 e2
  obtain⟨k,x,ek,hk⟩:=h 0 v rfl;have Xf:kv=(k,x):=by simpa using ek
  subst Xf;have Dw:k=n:=e1;subst Dw;refine .cons ?_ (gC e2 (by simpa using hl) fun i v hv=>h (i+1) v hv)
  rcases G2 (show IA k v=true from hk) with⟨i,t,rfl,rfl⟩|⟨y,t,rfl,rfl⟩
  ·exact⟨t,rfl⟩
  ·exact⟨t,rfl⟩
section
variable {X:Cx}
def fe:List V->Hp->VK->Prop:=fun xs H Q=>∃(p:Addr) (A6:List (Key×V)),xs=[.ref p]/\Rd H p (.dK A6)/\A6.length<=1000/\∀l:Addr,H l=none->Q (.ref l) (upd H l (.lst ((A6.map (·.1)).map kV)))
theorem kG (hc:X.calm=true):CY X (.type "list") fe:=by
 intro pins s σ H xs us Q I r h;obtain⟨p,A6,rfl,hH,aT,q⟩:=h;obtain⟨u,rfl,rx⟩:=vals1 r;cases rx;obtain⟨hz,Ez,Fe,rel,hS⟩:=HW I.AK hH;have hh:X.A.handled=none:=I.ok.hd hc;have AW:p<s.heap.objs.size:=by obtain⟨ep,h2⟩:=hS.dictAt;exact h2.lt_size
 have Af:p≠s.heap.objs.size:=BJ AW;refine callType_codes (Q₁:=fun obj s₁=>obj=.ref s.heap.objs.size/\s₁={ s with heap:=s.heap.push { cls:=.type "list", data:=.seq #[] } }) F.called_list (F.typeCall_list_1 _) F.entry_list_init
  (code_list_new _ ⟨rfl,rfl⟩) fun obj s₁ h₁=>?_
 obtain⟨rfl,rfl⟩:=h₁;have Dr:(s.heap.push { cls:=.type "list", data:=.seq #[] }).get? s.heap.objs.size=some { cls:=.type "list", data:=.seq #[] }:=BR _ rfl;refine⟨⟨_,Dr,rfl⟩,F.args_list_init_2 _ _,?_⟩;show wpAny _ X.A.in1.in1 (do let old <- Builtin.List.listItems (.ref s.heap.objs.size);Builtin.List.listUpdate (.ref s.heap.objs.size) (fun _=>#[]);letGo old.toList.reverse;Builtin.List.listExtendWith (.ref s.heap.objs.size) (.ref p) .none) _ _ _
 refine mG ?_;unfold Builtin.List.listItems;refine mG (ZAO Dr rfl (mf ?_));show wpAny _ X.A.in1.in1 (updateSeq s.heap.objs.size (fun _=>#[]) >>= fun _=>letGo (#[]:Array Value).toList.reverse >>= fun _=>Builtin.List.listExtendWith (.ref s.heap.objs.size) (.ref p) .none) _ _ _;refine mG (wC Dr rfl ?_);have OZ:=FQ (Obj.mapSeq (fun _=>(#[]:Array Value))) Dr rfl;have old:∀b o,s.heap.get? b=some o->((s.heap.push { cls:=.type "list", data:=.seq #[] }).update s.heap.objs.size (Obj.mapSeq (fun _=>(#[]:Array Value)))).get? b=some o:=fun b o e=>
  (GP _ _ (Jq (BC e))).trans (BE _ e)
 have hS3:((s.heap.push { cls:=.type "list", data:=.seq #[] }).update s.heap.objs.size (Obj.mapSeq (fun _=>(#[]:Array Value)))).DictOf (C1 X.prog X.w) p Fe:=by
  obtain⟨o,es,ep,ho,rest⟩:=hS;exact⟨o,es,ep,old _ _ ho,rest⟩
 refine mG (wpAny_letGo ?_);refine vq (A:=X.A.in1) hh Ez OZ hS3 rfl (by rw[<- rel.length];exact hz) fun s' vs c' a1 a2 a3 a4 a5 a6 a7=>?_;have vv:Vals ((A6.map (·.1)).map kV) vs:=by
  rw[rel.keys];exact gC rfl a6 a7
 refine⟨rfl,?_⟩;obtain⟨h1,g1,d1,t1,o1⟩:=s';simp only at a1 a2 a3 a4 a5;subst a3;subst a4;refine⟨.ref _,_,(I.drew d1).laid (a:=s.heap.objs.size) (h':=h1) (t':=t1) (o:=.lst ((A6.map (·.1)).map kV)) (fun b o e=>a1 b o (BJ (BC e)) (old b o e)) (Ao _) ?_,rfl,q _ (I.AK.fresh (Ao _))⟩
 exact⟨by rw[AX,AX];exact hz,vs,c',vv,a5⟩
def iL:List V->Hp->VK->Prop:=fun xs H Q=>∃(p:Addr) (A6:List (Key×V)),xs=[.ref p]/\Rd H p (.dK A6)/\Q (.int A6.length) H
theorem wV:CY X (.builtin "len") iL:=by
 intro pins s σ H xs us Q I r h;obtain⟨p,A6,rfl,hH,q⟩:=h;obtain⟨u,rfl,rx⟩:=vals1 r;cases rx;exact si I hH fun t s' I'=>⟨.int A6.length,H,I',⟨t,rfl⟩,q⟩
variable {i o:Expr}{ty td:TE}{pos:Pos}
theorem ZDO (hu:X.A.units+1<cLine)(hi:QE X i ty)(ho:QE X o td)(hm:behindInMarks .In o=false:=by with_unfolding_all rfl):QT X (.Compare i [.In] [o] pos) (tB (W4 ty td)):=⟨ak (ZBF hu hi.h ho.h) hm⟩
theorem qR (hu:X.A.units+1<cLine)(hi:QE X i ty)(ho:QE X o td)(hm:behindInMarks .NotIn o=false:=by with_unfolding_all rfl):QT X (.Compare i [.NotIn] [o] pos) (tB (YI ty td)):=⟨ak (ZBL hu hi.h ho.h) hm⟩
end
end L2
namespace Fz
open L2 Lw
theorem TX {F:Hp}:∀ks:List Key,AO F (ks.map kV) (ks.map Hj)
 | []=>.nil
 | .inl i::ks=>.cons (.int i) (TX ks)
 | .inr x::ks=>.cons (.str x) (TX ks)
section
variable [Xw]
variable {E:Ent0}{ss:List Slot}{σ:L2.St}{F H F' H':Hp}{K:ZHP}{i:Nat}{t:OV}{ta tb tc te:TE}{nx:List Slot->Prop}{R:B0}
theorem vI {k:PV->Prop}(h:Wl ss i t te fun _ u=>∃(ks:List Key) (a:Addr) (us:List OV),u=.nd (.Aq ks) a us/\k (.int ks.length)):Wp ss (Cb iL (AY te B8)) k:=⟨fun E σ F H Q S q=>
 h.go E σ F H _ S fun v p u F1 H1 m1 r Bh AJ=>by
  obtain⟨ks,a,us,eu,kk⟩:=AJ;subst eu;obtain⟨vs,rfl,ha,sd,ft,rr⟩:=r.inv;have HC:ks.length=vs.length:=ft;refine⟨a,_,rfl,.inl ha,?_⟩;rw[Oz,<- HC,Zg];exact q _ _ F1 H1 m1 (.int _) kk⟩
theorem gA {k:List PV->Prop}(h:Wl ss i t te fun _ u=>∃(ks:List Key) (a:Addr) (us:List OV),u=.nd (.Aq ks) a us/\ks.length<=1000/\k (ks.map Hj)):Wn ss (Cb fe (AY te B8)) k:=⟨fun E σ F H Q S q=>
 h.go E σ F H _ S fun v p u F1 H1 m1 r Bh AJ=>by
  obtain⟨ks,a,us,eu,hz,kk⟩:=AJ;subst eu;obtain⟨vs,rfl,ha,sd,ft,rr⟩:=r.inv;refine⟨a,_,rfl,.inl ha,by rw[Oz];omega,fun l Dz=>?_⟩;rw[RU ft];have m2:=m1.st.make Dz (.lst (ks.map kV));exact q l _ _ F1 _ (m1.trans m2) (m1.st.BU Dz) (m1.none Dz) AH (TX ks) kk⟩
theorem ZC8 {k:List PV->Prop}(h:Wl ss i t te fun _ u=>∃(ns:List Str) (a:Addr) (us:List OV),u=.nd (.Aq (ns.map Sum.inr)) a us/\ns.length<64/\∀Aw:List Str,Aw.Perm ns->sortedS Aw=true->k (Aw.map PV.str)):Wn ss (Cb VC (AY te B8)) k:=⟨fun E σ F H Q S q=>
 h.go E σ F H _ S fun v p u F1 H1 m1 r Bh AJ=>by
  obtain⟨ns,a,us,eu,hz,kk⟩:=AJ;subst eu;obtain⟨vs,rfl,ha,sd,ft,rr⟩:=r.inv;refine⟨a,_,ns,rfl,.inl ha,RU ft,hz,fun l Aw Dz hp hs=>?_⟩;have m2:=m1.st.make Dz (.lst (Aw.map V.str));exact q l _ _ F1 _ (m1.trans m2) (m1.st.BU Dz) (m1.none Dz) AH (JW Aw) (kk Aw hp hs)⟩
end
end Fz
namespace L2
variable {w:World}{H H2:Hp}{a b it:Addr}{X:Cx}{pins:ZHQ}{s s2:Shared}{r x:Value}{A6:List (Key×V)}{A:Around}{E:Value->Shared->Prop}{o:Obj}{ep i tk:Nat}{e tg:Expr}{tn:Nat->Heap->Prop}
section
variable {prog:Program}
variable {z TI TO i1 i2 l1 l2:Addr}{k:Nat}{t1 t2:Bool}{xs ys:Array Value}{y a b:Value}
variable {σ:St}
theorem Inv.swap {a:Addr}{u0 u1:HO}(I:Inv X pins σ H s)(h0:H a=some u0)(no:∀x,u0≠.own x)(nt:∀xs,u0≠.tup xs)(n1:∀o u,X.H₀ a≠some (.CM o u))(n2:∀xs,X.H₀ a≠some (.tup xs))(n3:∀ps,X.H₀ a≠some (.IK ps))
  (new:Bx X.prog X.w H s.heap a u1):Inv X pins σ (upd H a u1) s:=by
 have tr:∀b,b≠a->upd H a u1 b=H b:=fun b hb=>Ad hb;have own:∀b x,H b=some (.own x)->upd H a u1 b=some (.own x):=fun b x e=>by
  rw[tr b (by rintro rfl;rw[h0] at e;exact no x (by injection e))];exact e
 have tup:∀b xs,H b=some (.tup xs)->upd H a u1 b=some (.tup xs):=fun b xs e=>by
  rw[tr b (by rintro rfl;rw[h0] at e;exact nt xs (by injection e))];exact e
 refine⟨I.ok,I.os,I.bare,⟨I.base.keep,I.base.slot,fun b o q n hx=>?_,I.base.there,fun b xs q=>?_,fun b o u q=>?_,fun b ps q=>?_⟩,I.loc,I.cell,?_,fun y c q=>?_,fun p hp=>?_,fun b o q=>?_,I.len⟩
 ·have z:=I.base.free b o q n hx;rw[tr b (by rintro rfl;rw[h0] at z;cases z)];exact z
 ·rw[tr b (by rintro rfl;exact n2 xs q)];exact I.base.HJ b xs q
 ·rw[tr b (by rintro rfl;exact n1 o u q)];exact I.base.Gf b o u q
 ·rw[tr b (by rintro rfl;exact n3 ps q)];exact I.base.HI b ps q
 ·have z:=I.free;rw[tr _ (by rintro e;rw[e,h0] at z;cases z)];exact z
 ·have z:=I.Gd y c q;rw[tr _ (by rintro rfl;rw[h0] at z;cases z)];exact z
 ·obtain⟨h1,h2,h3⟩:=I.pin p hp;exact⟨h1,by rw[tr _ (by rintro e;rw[e,h0] at h2;cases h2)];exact h2,h3⟩
 ·by_cases z:b=a
  ·subst z;rw[AH] at q;cases q;exact new.IS (fun _ _ _ e=>e) (fun c e=>own c _ e) tup
  ·rw[tr b z] at q;exact(I.AK b o q).IS (fun _ _ _ e=>e) (fun c e=>own c _ e) tup
def Zw (X:Cx)(a:Addr):Prop:=(∀o u,X.H₀ a≠some (.CM o u))/\(∀xs,X.H₀ a≠some (.tup xs))/\∀ps,X.H₀ a≠some (.IK ps)
theorem Inv.eQ {a:Addr}(I:Inv X pins σ H s)(h0:H a=some (.dK A6)):Zw X a:=by
 refine⟨fun o u e=>?_,fun xs e=>?_,fun ps e=>?_⟩
 ·have:=I.base.Gf a o u e;rw[h0] at this;cases this
 ·have:=I.base.HJ a xs e;rw[h0] at this;cases this
 ·obtain⟨m,z⟩:=I.base.HI a ps e;rw[h0] at z;cases z
theorem Inv.held {a:Addr}(I:Inv X pins σ H s)(h0:H a=some (.dK A6)):∃o es ep,s.heap.get? a=some o/\o.data=.dict es ep/\Inv X pins σ (upd H a (.CM o (.dK A6))) s:=by
 obtain⟨z,y,vs,r,ob,es,ep,e,c,d,rest⟩:=I.AK a _ h0;have m:=I.eQ h0;exact⟨ob,es,ep,e,d,I.swap h0 (fun _ z=>by cases z) (fun _ z=>by cases z) m.1 m.2.1 m.2.2 ⟨e,z,y,vs,r,ob,es,ep,e,c,d,rest⟩⟩
theorem Inv.vA {a:Addr}{u:HO}(I:Inv X pins σ H s)(m:Zw X a)(h0:H a=some (.CM o u)):Inv X pins σ (upd H a u) s:=
 I.swap h0 (fun _ z=>by cases z) (fun _ z=>by cases z) m.1 m.2.1 m.2.2 (I.AK a _ h0).2
end
def aU (a:Addr)(o:Obj)(A6:List (Key×V)):It:=⟨fun i H=>H a=some (.CM o (.dK A6))/\i<A6.length,fun i H x H'=>H'=H/\∃k v,A6[i]?=some (k,v)/\x=kV k,fun i H=>H a=some (.CM o (.dK A6))/\i=A6.length⟩
theorem KV.at {vs:List (Key×Value)}(r:KV A6 vs){k:Key}(h:vs[i]?=some (k,x)):∃v,A6[i]?=some (k,v):=by
 have e:=r.keys;have h1:(vs.map (·.1))[i]?=some k:=by rw[Az,h];rfl
 rw[<- e,Az] at h1;cases q:A6[i]? with
 | none=>rw[q] at h1;cases h1
 | some p=>
  rw[q] at h1;obtain⟨k',v⟩:=p;have:k'=k:=by simpa using h1
  subst this;exact⟨v,rfl⟩
theorem ZEM {P:Program}{K:ZHP}{es:Array DictEntry}(hd:o.data=.dict es ep)(Af:a≠it):
  Turn P w K tg (aU a o A6) [it] it (fun i h=>h.IsKeyIter it a i A6.length ep) where
 mem:=by simp
 obj:=fun i h st b hb=>by
  have e:b=it:=by simpa using hb
  subst e;obtain⟨o,e,c,d⟩:=st;exact⟨o,e,fun v z=>by rw[d] at z;cases z⟩
 keep:=fun i h h' st k=>let ⟨o,e,r⟩:=st;⟨o,k it (by simp) o e,r⟩
 item:=by
  intro X hP hw hK hc i pins s σ H E I hf st hg;subst hP hw hK;obtain⟨f0,f1,f2,f3,f4,f5⟩:=hf it (by simp);obtain⟨e0,hz,Ez,vs,rel,ob,Di,HD,e1,c1,d1,rest⟩:=I.AK a _ hg.1;rw[e0] at e1;cases e1;rw[hd] at d1;cases d1;have hl:=rel.length;refine(Zl (knd:=C1 X.prog X.w) (I.ok.hd hc) it a Af vs ep).item i s _ _ (by rw[<- hl];exact hg.2) ⟨by rw[<- hl];exact st,o,es,e0,c1,hd,rest⟩ fun v h' tk ⟨k,x,hk,ZK⟩ Cv kp=>?_;obtain⟨v0,zu⟩:=rel.at hk;have I1:Inv X pins σ H { s with heap:=h',toks:=tk }:=I.turned (t':=tk) (fun b o hb e=>kp b o (by simpa using hb) e) f0 f1 f3 f4 f5
  obtain⟨o',e',cl,d⟩:=id Cv.1;have rk:RelV (kV k) v:=by
   rcases G2 (show IA k v=true from ZK) with⟨i,t,rfl,rfl⟩|⟨y,t,rfl,rfl⟩
   ·exact⟨t,rfl⟩
   ·exact⟨t,rfl⟩
  exact⟨_,rfl,NQ (s:={ s with heap:=h',toks:=tk }) e' cl d (by decide) ⟨kV k,H,I1,rk,⟨rfl,k,v0,zu,rfl⟩,by rw[hl];exact Cv.1,fun b hb=>(hf b hb).1⟩⟩
 done:=by
  intro X hP hw hK hc i pins s σ H E I hf st hg;subst hP hw hK;obtain⟨f0,f1,f2,f3,f4,f5⟩:=hf it (by simp);obtain⟨e0,hz,Ez,vs,rel,ob,Di,HD,e1,c1,d1,rest⟩:=I.AK a _ hg.1;rw[e0] at e1;cases e1;rw[hd] at d1;cases d1;have hl:=rel.length;have hi:i=A6.length:=hg.2;subst hi;exact(Zl (knd:=C1 X.prog X.w) (I.ok.hd hc) it a Af vs ep).done s _ _ ⟨by rw[<- hl];exact st,o,es,e0,c1,hd,rest⟩ fun h' tk kp=>⟨rfl,I.turned (t':=tk) (fun b o hb e=>kp b o (by simpa using hb) e) f0 f1 f3 f4 f5⟩
 self:=fun A i s Q E st h=>wpAny_pyIter_keyiter st h
def TM (tl:TE):TI:=fun σ H R=>tl σ H fun x H1=>∃a A6,x=.ref a/\H1 a=some (.dK A6)/\∀o,R (aU a o A6) (upd H1 a (.CM o (.dK A6)))
def Z0 (t:TE):TE:=fun σ H Q=>∃a A6,H a=some (.dK A6)/\t σ H fun v H1=>∃o u,H1 a=some (.CM o u)/\Q v (upd H1 a u)
section
variable {l:Expr}{tl t:TE}{st:Stmt}{ts:TS}
theorem vT (h:QE X l tl):QI X tg l (TM tl):=⟨by
 have hl:=h.h;intro pins s σ H R I h;refine AS (hl pins s σ H _ I h) fun v s1 ⟨x,H1,I1,r1,q1⟩=>?_;obtain⟨a,A6,e,hq,q⟩:=q1;subst e;cases r1;obtain⟨z,Ez,vs,rel,hS⟩:=HW I1.AK (.inl hq);obtain⟨o,es,ep,e0,hd,I2⟩:=I1.held hq;have AW:a<s1.heap.objs.size:=BC e0;have OZ:s1.heap.DictAt (C1 X.prog X.w) a vs ep:=by
  obtain⟨ob,Di,HD,e1,c1,d1,rest⟩:=hS;rw[e0] at e1;cases e1;rw[hd] at d1;cases d1;exact⟨o,es,e0,c1,hd,rest⟩
 have fin:∀b∈[s1.heap.objs.size],Dy X pins (upd H1 a (.CM o (.dK A6))) b:=fun b hb=>by
  have e:b=s1.heap.objs.size:=by simpa using hb
  subst e;exact I2.Kr (Ao _) (I2.AK.fresh (Ao _))
 refine ZAW Ez OZ ?_;exact⟨s1.heap.objs.size,[s1.heap.objs.size],_,_,_,rfl,I2.kept (t':=s1.toks) fun b o e=>BE _ e,ZEM hd (BJ AW),⟨_,BR _ rfl,rfl,by rw[rel.length];rfl⟩,fin,q o⟩⟩
theorem ZBp (h:QE X e t):QE X e (Z0 t):=⟨by
 have h:=h.h;intro pins s σ H Q I ⟨a,A6,h0,q⟩;have m:=I.eQ h0;refine AS (h pins s σ H _ I q) fun v s' ⟨x,H',I',r,o,u,e,q'⟩=>?_;exact⟨x,_,I'.vA m e,r,q'⟩⟩
end
end L2
namespace Fz
open L2 Lw
theorem dF {F H:Hp}:∀{vs:List V}{xs:List PV},B6 F H vs (xs.map .fz)->AO F vs xs
 | _,[],h=>by cases h;exact .nil
 | _,x::xs,h=>by
  obtain⟨_,_,rfl,a,b⟩:=h.inv;cases a with | fz r=>exact .cons r (dF b)
theorem TU:∀{ks:List Key}{vs:List V}{n:Nat}{k:Key}{v:V},ks.Nodup->ks[n]?=some k->vs[n]?=some v->DX (ks.zip vs) k=some v
 | [],_,_,_,_,_,h,_=>by simp at h
 | _::_,[],_,_,_,_,_,h=>by simp at h
 | k0::ks,v0::vs,0,k,v,_,h1,h2=>by
  have e1:k0=k:=by simpa using h1
  have e2:v0=v:=by simpa using h2
  subst e1 e2;rw[Ft];exact Lg rfl
 | k0::ks,v0::vs,n+1,k,v,nd,h1,h2=>by
  rw[Ft,Lf]
  ·exact TU (List.nodup_cons.mp nd).2 (by simpa using h1) (by simpa using h2)
  ·rintro rfl;exact(List.nodup_cons.mp nd).1 (DD (by simpa using h1))
theorem iu:∀{ks:List Key}{vs:List V}{n:Nat}{k:Key}{v:V},(ks.zip vs)[n]?=some (k,v)->ks[n]?=some k/\vs[n]?=some v
 | [],_,_,_,_,h=>by simp at h
 | _::_,[],_,_,_,h=>by simp at h
 | k0::ks,v0::vs,0,k,v,h=>by
  rw[Ft] at h;have:(k0,v0)=(k,v):=by simpa using h
  cases this;exact⟨rfl,rfl⟩
 | k0::ks,v0::vs,n+1,k,v,h=>by
  rw[Ft] at h;have:=iu (ks:=ks) (vs:=vs) (n:=n) (k:=k) (v:=v) (by simpa using h)
  exact⟨by simpa using this.1,by simpa using this.2⟩
end Fz
namespace L2
variable {values vs:List Expr}{Es:List (TE×TE)}
section
variable {X:Cx}{pos:Pos}
theorem yV:Jd X pos [] [] []:=tV
theorem Xv {k v:Expr}{ks:List (Option Expr)}{tk tv:TE}(hk:QE X k tk)(hv:QE X v tv)(hr:Jd X pos ks vs Es):Jd X pos (some k::ks) (v::vs) ((tk,tv)::Es):=xf hk.h hv.h hr
theorem yD {keys:List (Option Expr)}(h:Jd X pos keys values Es)(JR:keys.all (·.isSome)=true)(hl:keys.length=values.length)(h0:keys≠[])(PL:keys.length<=15):QE X (.Dict keys values pos) (V3 Es):=⟨by
 intro pins s σ H Q I q;have hn:=I.AK.fresh (Ao s.heap.objs.size);have I1:=I.laid (a:=s.heap.objs.size) (o:=.dK []) (h':=s.heap.push { cls:=.type "dict", data:=.dict #[] }) (t':=s.toks) (fun _ _ q=>BE _ q) (Ao _) (ja s.heap I.big);refine wpAny_Dict_walk (knd:=C1 X.prog X.w) JR hl h0 PL (AS (h pins _ σ _ _ I1 (q _ hn)) fun ws s2 ⟨ps,H2,I2,rel,e,A6,ep,lk,q2⟩=>?_);subst ep;obtain⟨rs,c,rk⟩:=aH (P:=X.prog) (w:=X.w) rel;obtain⟨z,hd,Fe,r0,dd⟩:=WR I2.AK e;cases r0;refine⟨rs,c,dd,fun h' HK hs=>⟨.ref s.heap.objs.size,_,?_,rfl,q2⟩⟩;have hz:(JU [] A6).length<=sizeLine:=by
  have h1:=cT A6 [];rw[Sk] at h1;rw[ZAi];omega
 have he:∃q,h'.get? s.heap.objs.size=some q:=let ⟨q,_,_,hq,_⟩:=HK;⟨q,hq⟩;exact RY I2 (by rw[e];exact True.intro) hs he (Yw hz hd (rk.merge .nil) HK)⟩
end
theorem cL:∀(more acc:List (Key×V)),((acc++more).map (·.1)).Nodup->JU acc more=acc++more
 | [],acc,_=>by rw[Et];rfl
 | p::r,acc,h=>by
  show JU (putK acc p.1 p.2) r=_;have hp:acc.any (fun kv=>decide (kv.1=p.1))=false:=by
   rw[ZFx];intro q hq e;have e':=qH e;rw[CS,Bn,Bu] at h;exact h.2.2 q.1 (List.mem_map.mpr ⟨q,hq,rfl⟩) p.1 DC e'
  have e:putK acc p.1 p.2=acc++[p]:=by
   unfold putK;rw[hp];rfl
  rw[e,cL r (acc++[p]) (by rw[CC];exact h),CC];rfl
end L2
namespace Fz
open L2 Lw
variable {ss:List Slot}{E:Ent0}{σ:L2.St}{F H:Hp}{C a p:Addr}{ta:TA}{Q:VK}{i n:Nat}{t w x y z:OV}{pre:Pre}
section
variable [Xw]
theorem wx {F1 H1:Hp}{o:HO}(S:Sg E ss σ F H)(m:Mv E ss σ F H F1 H1)(hp:H p=none)(hf:F1 p=none):Mv E ss σ F H F1 (upd H1 p o):=
 S.step m.ff (fun a u e=>by rw[Ad (by rintro rfl;rw[hf] at e;cases e)];exact m.st.fh a u e)
  (fun a u n e=>by rw[Ad (by rintro rfl;rw[hp] at e;cases e)];exact m.hh a u n e) m.nn
  fun i l hi e=>BY.keep (m.st.E7 hi e) fun u e2=>by
   rw[Ad (by
    rintro rfl;obtain⟨_,_,e3,_⟩:=S.E7 hi e;rw[hp] at e3;cases e3)]
   exact e2
theorem ZDo {k:List Nat->OV->Prop}{E:Ent}(ks:List Str)(hk:ks.Nodup)(PL:ks.length<=15)(S:Sg E ss σ F H)(hp:H p=none)
  (h:MD ss ta fun m us=>us.length=ks.length/\∀l,k m (.nd (.Aq (ks.map Sum.inr)) l us))
  (q:∀v m u F' H',Mv E ss σ F H F' H'->B1 F' H' v u->u.addrs.Nodup->(∀a∈u.addrs,F' a=none/\E.H0 a=none/\((∃i∈m,∃s,s≠Slot.AD/\ss[i]?=some s/\BI s σ[i]? a)∨H a=none))->k m u->Q v H') :
  ta σ (upd H p (.dK [])) fun vs H2=>H2 p=some (.dK [])/\∃A6:List (Key×V),List.zipWith (fun s v=>(V.str s,v)) ks vs=A6.map (fun kv=>(kV kv.1,kv.2))/\A6.length<=15/\Q (.ref p) (upd H2 p (.dK (JU [] A6))):=by
 have m0:=S.make hp (.dK []);have tZ:F p=none:=S.BU hp;refine h.go E σ F _ _ m0.st fun vs m us F1 H1 m1 r1 Ea a1 ⟨hl,kk⟩=>?_;have PU:H1 p=some (.dK []):=m1.hh p _ (S.OH hp) AH;have iF:F1 p=none:=by
  cases e:F1 p with
  | none=>rfl
  | some o=>
   rcases m1.nn p o e with z | z
   ·rw[tZ] at z;cases z
   ·rw[AH] at z;cases z
 have lv:vs.length=ks.length:=by rw[r1.length,hl]
 have ez:List.zipWith (fun s v=>(V.str s,v)) ks vs=((ks.map Sum.inr).zip vs:List (Key×V)).map (fun kv=>(kV kv.1,kv.2)):=by
  rw[List.zip_eq_zipWith,List.zipWith_map_left,List.map_zipWith];rfl
 refine⟨PU,(ks.map Sum.inr).zip vs,ez,by rw[Oz,AX];omega,?_⟩;have nk:((ks.map Sum.inr:List Key)).Nodup:=ZFv _ (fun a b (h:a≠b)=>fun z=>h (by injection z)) hk;rw[cL _ [] (by rw[Zb,List.map_fst_zip (by rw[AX];omega)];exact nk),Zb];have mv:=wx (o:=.dK ((ks.map Sum.inr).zip vs)) S (m0.trans m1) hp iF;have J7:p∉OV.Al us:=fun ha=>by
  rcases(a1 p ha).2.2 with⟨i,_,s,_,hs,ow⟩|z
  ·exact S.Dv hs ow hp
  ·rw[AH] at z;cases z
 refine q _ m (.nd (.Aq (ks.map Sum.inr)) p us) F1 _ mv (.nd (k:=.Aq (ks.map Sum.inr)) (vs:=vs) AH trivial (show(List.map Sum.inr ks:List Key).length=vs.length by rw[AX];exact lv.symm) (r1.mono (A8.refl _) fun a ha o e=>by rw[Ad (by rintro rfl;exact J7 ha)];exact e)) ?_ (fun a ha=>?_) (kk p)
 ·rw[OV.DR];exact List.nodup_cons.mpr ⟨J7,Ea⟩
 ·rw[OV.DR] at ha;rcases List.mem_cons.mp ha with e | ha
  ·subst e;exact⟨iF,S.E8 hp,.inr hp⟩
  ·obtain⟨f,h0,w⟩:=a1 a ha;exact⟨f,h0,w.imp id fun z=>by
    by_cases c:a=p
    ·subst c;exact hp
    ·rw[Ad c] at z;exact z⟩
theorem ZCL {k:List Nat->OV->Prop}{k1 k2 k3:Str}{t1 t2 t3:TE}(hk:[k1,k2,k3].Nodup)(h:MD ss (AY t1 (AY t2 (AY t3 B8))) fun m us=>us.length=3/\∀l,k m (.nd (.Aq [.inr k1,.inr k2,.inr k3]) l us)):Wx ss (V3 [(tC (.str k1),t1),(tC (.str k2),t2),(tC (.str k3),t3)]) k:=⟨fun E σ F H Q S q p hp=>
 ZDo (ta:=AY t1 (AY t2 (AY t3 B8))) [k1,k2,k3] hk (by show(_:Nat)+1<=15;simp) S hp h q⟩
variable {te:TE}
theorem i3 {m:Str}{k:PV->Prop}(h:Wl ss i t te fun _ u=>∃dx ns a us,u=.nd (.obj C dx ns) a us/\Cn ns m=none/\Wb ss ta fun ps=>∃k',pre ((u.pv::ps).map .is) (.is k')/\∀p,k' p->Em p=true/\k p):Wp ss (JM C m (Ar pre) [] E0 te ta) k:=⟨fun E σ F H Q S q=>
 h.go E σ F H _ S fun v p u F1 H1 m1 r1 Bh ⟨dx,ns,a,us,eu,hm,h2⟩=>by
  subst eu;have Ga:=r1;cases Ga with
  | @nd _ _ vs _ ha sd ft rr=>
   refine⟨a,dx,ns.zip vs,rfl,ha,OU hm,h2.go E σ F1 H1 _ m1.st fun vs ps F2 H2 m2 r2 ⟨k',hp,kk⟩=>?_⟩;rw[Et];have r3:=r1.mv m1.st h.hi Bh m2;have Mu:AO (BG F2 H2 (BX ss σ)) (V.ref a::vs) (_::ps):=.cons (r3.rep m2.st.GZ.1 fun a ha o ho=>by
    unfold BG;obtain⟨lt,hi⟩:=h.hi;rw[pR (Rn m2.st.len hi (by simp) (OV.J4 Bh a ha))];exact ho) r2
   refine⟨_,.is k',_,[],hp,m2.st.lend Mu,fun v F' H' f ⟨p,r,kp⟩=>?_⟩;obtain⟨mv,nt⟩:=m2.st.Yb f;exact q v p _ H' (m1.trans (m2.trans mv)) (r.sub nt (kk p kp).1) (kk p kp).2⟩
end
theorem R8 {k:NK}:(OV.nd k a [x,y,z]).put [1] w=.nd k a [x,w,z]:=by rw[OV.Iy (x:=y) rfl,OV.GK];rfl
theorem put2 {k:NK}:(OV.nd k a [x,y,z]).put [2] w=.nd k a [x,y,w]:=by rw[OV.Iy (x:=z) rfl,OV.GK];rfl
theorem Rz {N:List Str}{vs:List V}{X:XK}{t:TS}(h:Cu pre vs H Q X)(hl:∀ss R,pre ss R->ss.length=n)
  (hw:∀ss R,pre ss R->Ws (ss++List.replicate (N.length - n) .any) t (ZD R) R):t { nx:=fun _ H'=>Q .AF H',rt:=Q } (L2.start N vs) H:=by
 obtain⟨ss,R,F,A,B,hp,S,q⟩:=h;have e:vs.length=n:=by have:=S.len;rw[AX] at this;rw[<- this];exact hl ss R hp
 unfold L2.start;rw[e];exact(hw ss R hp).go (Rm ⟨A,F,H,B⟩) _ _ F H (S.grown _) (fun AL σ' F' H' z S' _=>q .AF F' H' S'.toFin (z.ok S')) fun v F' H' f ok=>q v F' H' f ok
end Fz
namespace Fz
open L2 Lw
variable {ss:List Slot}
def NR:Slot->Slot
 | .own xs=>.is (.lst xs)
 | .ow _ t=>.is t.pv
 | .AD=>.any
 | s=>s
section
variable {E:Ent0}{σ:L2.St}{F H F' H':Hp}
theorem Sg.b5 (S:Sg E ss σ F H):Sg (E3 [] (BG F H (BX ss σ)) H) (ss.map NR) σ (BG F H (BX ss σ)) H:=by
 have nn:∀{p:Prop}(a:Addr),a∈([]:List Addr)->p:=fun a h=>absurd h B4;refine⟨⟨S.GZ.2,A8.refl _,fun _ _ _ e=>e,fun _ _ e=>.inl e,fun a h=>nn a h,fun a h=>nn a h,fun a h=>nn a h,fun a h=>nn a h,fun a h=>nn a h,fun a h=>nn a h⟩,by rw[AX,S.len],fun i s hi=>?_,fun i j s u l Bs hi hj ms mu=>?_⟩
 ·rw[Az] at hi;cases e:ss[i]? with
  | none=>rw[e] at hi;cases hi
  | some s0=>
   rw[e] at hi;have es:NR s0=s:=BS hi;subst es;have k:=S.ok i s0 e;cases s0 with
   | any=>trivial
   | is p=>obtain⟨v,e1,r⟩:=k;exact⟨v,e1,r.mono S.GZ.1⟩
   | own xs=>
    obtain⟨l,vs,e1,_,_,e3,r⟩:=k;refine⟨_,e1,.lst ?_ (r.mono S.GZ.1)⟩;unfold BG;rw[pR (Rn S.len e (by simp) e1)];exact e3
   | AD=>trivial
   | sq tp xs=>
    cases tp with
    | true=>obtain⟨v,e1,r⟩:=k;exact⟨v,e1,r.mono S.GZ.1⟩
    | false=>
     obtain⟨l,vs,e1,hA,e2,r⟩:=k;exact⟨l,vs,e1,⟨B4,B4⟩,S.keep l _ hA e2,r.mono S.GZ.1⟩
   | raw P=>obtain⟨v,e1,hp,hm⟩:=k;exact⟨v,e1,hm _ _ S.GZ.1 hp,hm⟩
   | ow lt t=>
    obtain⟨v,e1,r,_,_⟩:=k;refine⟨v,e1,r.rep S.GZ.1 fun a ha o ho=>?_⟩;unfold BG;rw[pR (Rn S.len e (by simp) ha)];exact ho
 ·rw[Az] at hi;cases e:ss[i]? with
  | none=>rw[e] at hi;cases hi
  | some s0=>
   rw[e] at hi;have es:NR s0=s:=BS hi;subst es;cases s0 <;> cases ms
variable {te:TE}{c:TT}
def cI (E:Ent0)(F H:Hp)(as:List Addr):@Ent Pd:=@Ent.mk Pd (E3 [] (BG F H as) H) fun _ _ _ _ _ _ _ _ _ d _=>d.elim
theorem cD {k:Bool->Prop}(h:Wt (ss.map NR) c k):Wt ss c k:=⟨fun E σ F H Q S q=>by
 refine h.go (cI E F H (BX ss σ)) σ _ H Q S.b5 fun b F' H' m kk=>?_;exact q b _ H' (S.Yb m.st.toFin).1 kk⟩
theorem Zs {k:List PV->Prop}(h:Wn (ss.map NR) te fun ys=>GC ys=true/\k ys):Wn ss te k:=⟨fun E σ F H Q S q=>by
 refine h.go (cI E F H (BX ss σ)) σ _ H Q S.b5 fun l2 Lq ys F' H' m f2 h2 Df rp ⟨hn,kk⟩=>?_;obtain⟨M,ht⟩:=S.Yb m.st.toFin;exact q l2 Lq ys _ H' M (by unfold FD;split <;> first | rfl | exact f2) h2 Df (rp.sub ht hn) kk⟩
end
end Fz
namespace L2
variable {pins:ZHQ}{σ:St}{s s2:Shared}{tk:Nat}
section
variable {X:Cx}
theorem Inv.same {H:Hp}(I:Inv X pins σ H s){h':Heap}(k:∀b o,s.heap.get? b=some o->h'.get? b=some o):Inv X pins σ H { s with heap:=h',toks:=tk }:=I.kept (t':=tk) k
variable {elt iter:Expr}{ifs es:List Expr}{zs:List Str}{tp pos:Pos}{scope:Scope}{Ah:List Str}{js:List Nat}{tt:TT}{te:TE}
variable {H2:Hp}{x:Str}{px:Pos}{J:It}{fp:List Addr}{it:Addr}{tn:Nat->Heap->Prop}
end
end L2
namespace L2
section
variable {X:Cx}
def gU (K:ZHP)(t:TA):TE:=fun σ H Q=>t σ H fun vs H1=>∃a tp ys,vs=[.ref a]/\CA K tp H1 a ys/\tp=false/\∀l,H1 l=none->Q (.ref l) (upd H1 l (.lst ys.reverse))
theorem iG {p1 p2 Xz IW:Pos}{e:Expr}{t:TA}(hc:X.calm=true)(UX:Gl X "list")(Oc:X.mg "list"=none)(YY:Gl X "reversed")(YN:X.mg "reversed"=none)(ha:QA X [e] t)
  (he:starEach [e] X.env=[(false,eval e X.env)]:=by rfl) (Je:starEach [.Call (.Name "reversed" p2) [e] [] IW] X.env=[(false,eval (.Call (.Name "reversed" p2) [e] [] IW) X.env)]:=by rfl) :
  QE X (.Call (.Name "list" p1) [.Call (.Name "reversed" p2) [e] [] IW] [] Xz) (gU X.K t):=⟨by
 have ha:=ha.h;intro pins s σ H Q I h;refine uP (Iz I UX Oc (show bootBuiltins "list"=some (.type "list") by decide +kernel) ?_ (by decide) (by decide));refine P6 ?_ Je rfl;rw[Je];show wpAny _ _ (spliced ((false,eval (.Call (.Name "reversed" p2) [e] [] IW) X.env)::[])) _ _ s;refine lG ?_;refine uP (Iz I YY YN (show bootBuiltins "reversed"=some (.type "reversed") by decide +kernel) ?_ (by decide) (by decide));refine P6 (AS (ha IW pins s σ H _ I h) fun us s1 ⟨vs,H1,I1,r1,q1⟩=>?_) he rfl;obtain⟨a,tp,ys,rfl,hq,rfl,q⟩:=q1;obtain⟨u,rfl,rx⟩:=vals1 r1;cases rx;have fin:∀(A4:List Value) (D:Addr) (s2 s':Shared) (acc:Array Value) (c:Nat) (tk:Nat) (ob:Obj),Vals ys A4->ys.length<=sizeLine->D=s1.heap.objs.size->s2={ s1 with heap:=s1.heap.push ob,toks:=tk }->
   Moved [s2.heap.objs.size,D] (fun a b=>b=a) { s2 with heap:=s2.heap.push { cls:=.type "list", data:=.seq #[] } } s'->s'.heap.get? s2.heap.objs.size=some { cls:=.type "list", dict:=none,data:=.seq acc c,slots:=#[] }->
   ItemsOf (fun i v=>A4.toArray[A4.toArray.size - 1 - i]?=some v) acc A4.toArray.size->EP X pins σ Q (.ref s2.heap.objs.size) s':=by
  intro A4 D s2 s' acc c tk ob r hz eD e2 hm hS Ax;subst eD;subst e2;obtain⟨us,rv,rfl⟩:=vQ r Ax;obtain⟨h',g',d',X3,Nw⟩:=s';have eg:g'=s1.gens:=hm.gens;have ed:d'=s1.drawn:=hm.drawn;have eo:Nw=s1.os:=hm.os;subst eg;subst ed;subst eo;have hsz:(s1.heap.push ob).objs.size=s1.heap.objs.size+1:=Dl ..;have kp:∀b o,s1.heap.get? b=some o->h'.get? b=some o:=fun b o e=>by
   have hb:=BC e;refine hm.heap b o ?_ (BE _ (BE _ e));show b∉[(s1.heap.push ob).objs.size,s1.heap.objs.size];rw[hsz];simp only[DN,B4,ya,not_or];exact⟨BJ (Hn hb),BJ hb⟩
  refine⟨.ref _,_,I1.laid (a:=(s1.heap.push ob).objs.size) (t':=X3) kp (by rw[hsz];exact ET _) (show Bx X.prog X.w _ h' _ (.lst ys.reverse) from⟨by rw[Oy];exact hz,us,c,rv,hS⟩),rfl,q _ (I1.AK.fresh (by show _<=_;rw[hsz];exact ET _))⟩
 have hh:X.A.handled=none:=I1.ok.hd hc;obtain⟨A4,r,pl,hz⟩:=I1.list hq;have hlen:=r.length;refine call_reversed_list pl.isList ?_;refine lH ?_;obtain⟨o,n,ho,_⟩:=id pl;have AW:=BC ho;have Af:a≠s1.heap.objs.size:=BJ AW;have CL:0<=A4.toArray.size/\Heap.IsRevIter (s1.heap.push (revObj a ((A4.toArray.size:Int) - 1))) s1.heap.objs.size a ((A4.toArray.size:Int) - 1 - ((0:Nat):Int))/\Heap.IsList (s1.heap.push (revObj a ((A4.toArray.size:Int) - 1))) a A4.toArray:=
  ⟨CH _,⟨_,BR _ rfl,rfl,by simp[revObj]⟩,pl.isList.push _⟩
 refine ZBU (I:=s1.heap.objs.size) (s:={ s1 with heap:=s1.heap.push (revObj a ((A4.toArray.size:Int) - 1)) }) (Walks.listRev (prog:=X.prog) (w:=X.w) (A:=X.A.in1.in1) hh s1.heap.objs.size a Af A4.toArray).toS (fun i s st=>st.2.1.typeIs) CL ?_ (by simp) ?_ (by simp;omega)
 ·intro b hb;show b<(s1.heap.push _).objs.size;rw[Dl];rcases List.mem_cons.mp hb with h | h
  ·rw[h];exact LD _
  ·have:b=a:=by simpa using h
   rw[this];exact Hn AW
 ·intro s' acc c hm hS Ax;exact fin A4 s1.heap.objs.size { s1 with heap:=s1.heap.push (revObj a ((A4.toArray.size:Int) - 1)) } s' acc c s1.toks (revObj a ((A4.toArray.size:Int) - 1)) r hz rfl rfl hm hS Ax⟩
end
end L2
namespace Fz
open L2 Lw
variable {l ss:List Slot}{te:TE}{F H:Hp}{v2 vp:V}{t t1 t2:OV}{b c d l1 l2:Bool}{vs:List V}{E:Ent0}{σ:L2.St}{A:List Addr}{a:Addr}{i j n:Nat}{s:Slot}{k1 k2:NK}{C8 EB:List OV}{kk:PV->OV->OV->Prop}{x:TT}
inductive Ei (F:Hp) (vp v1 v2:V) (t1 t2:OV):Bool->Bool->Bool->List V->List Slot->Prop where
 | nil:Ei F vp v1 v2 t1 t2 false false false [] []
 | is {b c d:Bool}{v:V}{p:PV}{vs:List V}{l:List Slot}:Rep F v p->Ei F vp v1 v2 t1 t2 b c d vs l->Ei F vp v1 v2 t1 t2 b c d (v::vs) (.is p::l)
 | AD {c d:Bool}{vs:List V}{l:List Slot}:Ei F vp v1 v2 t1 t2 false c d vs l->Ei F vp v1 v2 t1 t2 true c d (vp::vs) (.AD::l)
 | one {b d:Bool}{vs:List V}{l:List Slot}:Ei F vp v1 v2 t1 t2 b false d vs l->Ei F vp v1 v2 t1 t2 b true d (v1::vs) (.ow true t1::l)
 | two {b c:Bool}{vs:List V}{l:List Slot}:Ei F vp v1 v2 t1 t2 b c false vs l->Ei F vp v1 v2 t1 t2 b c true (v2::vs) (.ow true t2::l)
section
variable {F':Hp}{v1:V}
theorem Ei.len (h:Ei F vp v1 v2 t1 t2 b c d vs l):l.length=vs.length:=by
 induction h with
 | nil=>rfl
 | is _ _ ih=>rw[BH,BH,ih]
 | AD _ ih=>rw[BH,BH,ih]
 | one _ ih=>rw[BH,BH,ih]
 | two _ ih=>rw[BH,BH,ih]
theorem Ei.at (h:Ei F vp v1 v2 t1 t2 b c d vs l):∃(n0 n1 n2:Nat),∀(n:Nat) (s:Slot),l[n]?=some s->
  (∃v p,vs[n]?=some v/\s=.is p/\Rep F v p)∨(b=true/\n=n0/\s=.AD/\vs[n]?=some vp)∨(c=true/\n=n1/\s=.ow true t1/\vs[n]?=some v1)∨(d=true/\n=n2/\s=.ow true t2/\vs[n]?=some v2):=by
 induction h with
 | nil=>exact⟨0,0,0,fun n s h=>by simp at h⟩
 | is r _ ih=>
  obtain⟨n0,n1,n2,ih⟩:=ih;refine⟨n0+1,n1+1,n2+1,fun n s h=>?_⟩;cases n with
  | zero=>simp at h;subst h;exact .inl ⟨_,_,rfl,rfl,r⟩
  | succ n=>
   rcases ih n s (by simpa using h) with⟨v,p,q⟩|⟨q0,q,q2,q3⟩|⟨q0,q,q2,q3⟩|⟨q0,q,q2,q3⟩
   ·exact .inl ⟨v,p,by simpa using q⟩
   ·exact .inr (.inl ⟨q0,by rw[q],q2,by simpa using q3⟩)
   ·exact .inr (.inr (.inl ⟨q0,by rw[q],q2,by simpa using q3⟩))
   ·exact .inr (.inr (.inr ⟨q0,by rw[q],q2,by simpa using q3⟩))
 | AD _ ih=>
  obtain⟨n0,n1,n2,ih⟩:=ih;refine⟨0,n1+1,n2+1,fun n s h=>?_⟩;cases n with
  | zero=>simp at h;subst h;exact .inr (.inl ⟨rfl,rfl,rfl,rfl⟩)
  | succ n=>
   rcases ih n s (by simpa using h) with⟨v,p,q⟩|⟨q0,q,q2,q3⟩|⟨q0,q,q2,q3⟩|⟨q0,q,q2,q3⟩
   ·exact .inl ⟨v,p,by simpa using q⟩
   ·cases q0
   ·exact .inr (.inr (.inl ⟨q0,by rw[q],q2,by simpa using q3⟩))
   ·exact .inr (.inr (.inr ⟨q0,by rw[q],q2,by simpa using q3⟩))
 | one _ ih=>
  obtain⟨n0,n1,n2,ih⟩:=ih;refine⟨n0+1,0,n2+1,fun n s h=>?_⟩;cases n with
  | zero=>simp at h;subst h;exact .inr (.inr (.inl ⟨rfl,rfl,rfl,rfl⟩))
  | succ n=>
   rcases ih n s (by simpa using h) with⟨v,p,q⟩|⟨q0,q,q2,q3⟩|⟨q0,q,q2,q3⟩|⟨q0,q,q2,q3⟩
   ·exact .inl ⟨v,p,by simpa using q⟩
   ·exact .inr (.inl ⟨q0,by rw[q],q2,by simpa using q3⟩)
   ·cases q0
   ·exact .inr (.inr (.inr ⟨q0,by rw[q],q2,by simpa using q3⟩))
 | two _ ih=>
  obtain⟨n0,n1,n2,ih⟩:=ih;refine⟨n0+1,n1+1,0,fun n s h=>?_⟩;cases n with
  | zero=>simp at h;subst h;exact .inr (.inr (.inr ⟨rfl,rfl,rfl,rfl⟩))
  | succ n=>
   rcases ih n s (by simpa using h) with⟨v,p,q⟩|⟨q0,q,q2,q3⟩|⟨q0,q,q2,q3⟩|⟨q0,q,q2,q3⟩
   ·exact .inl ⟨v,p,by simpa using q⟩
   ·exact .inr (.inl ⟨q0,by rw[q],q2,by simpa using q3⟩)
   ·exact .inr (.inr (.inl ⟨q0,by rw[q],q2,by simpa using q3⟩))
   ·cases q0
variable {H':Hp}
def MJ (ss:List Slot)(σ:L2.St)(b:Bool)(vp:V)(A:List Addr):Prop:=(b=false/\A=[])∨∃(q:Nat) (lp:Addr),b=true/\A=[lp]/\vp=.ref lp/\ss[q]?=some .AD/\σ[q]?=some (some (.ref lp))
theorem MJ.own (h:MJ ss σ b vp A)(ha:a∈A):∃q:Nat,ss[q]?=some .AD/\σ[q]?=some (some (.ref a)):=by
 rcases h with⟨_,rfl⟩|⟨q,lp,_,rfl,_,h1,h2⟩
 ·cases ha
 ·rw[List.mem_singleton.mp ha];exact⟨q,h1,h2⟩
theorem Sg.call2 (S:Sg E ss σ F H)(pa:MJ ss σ b vp A)(r1:B1 F H v1 t1)(r2:B1 F H v2 t2)(nd:(t1.addrs++t2.addrs).Nodup)
  (qF:∀a∈t1.addrs++t2.addrs,F a=none) (qA:∀a∈t1.addrs++t2.addrs,a∉A)(a:Ei F vp v1 v2 t1 t2 b c d vs l):Sg ⟨A,F,H,t1.addrs++t2.addrs⟩ l (vs.map some) F H:=by
 obtain⟨n0,n1,n2,hm⟩:=a.at;have th:∀x∈t1.addrs++t2.addrs,H x≠none:=fun x hx=>by
  rcases List.mem_append.mp hx with h | h
  ·exact r1.there x h
  ·exact r2.there x h
 have pt:∀x∈A,BY H x/\F x=none:=fun x hx=>by
  obtain⟨q,h1,h2⟩:=pa.own hx;obtain⟨l,e,fl,_,p⟩:=S.ok q _ h1;rw[h2] at e;cases e;exact⟨p,fl⟩
 have IT:=List.nodup_append.mp nd;refine⟨⟨S.fh,A8.refl _,fun _ _ _ e=>e,fun _ _ e=>.inl e,fun x h=>(pt x h).1,fun x h=>(pt x h).2,fun x h=>by obtain⟨_,_,e,_⟩:=(pt x h).1;show H x≠none;rw[e];simp,qF,th,fun x h=>⟨th x h,qA x h⟩⟩,by rw[AX];exact a.len,fun n s hn=>?_,fun n j s u x MN hn hj ms mu=>?_⟩
 ·rcases hm n s hn with⟨v,p,hv,rfl,r⟩|⟨hb,_,rfl,hv⟩|⟨_,_,rfl,hv⟩|⟨_,_,rfl,hv⟩
  ·rw[Az,hv];exact⟨v,rfl,r⟩
  ·rw[Az,hv];rcases pa with⟨h,_⟩|⟨q,lp,_,rfl,rfl,h1,h2⟩
   ·rw[h] at hb;cases hb
   ·exact⟨lp,rfl,(pt lp (by simp)).2,.inr (by simp),(pt lp (by simp)).1⟩
  ·rw[Az,hv];exact⟨v1,rfl,r1,IT.1,fun x hx=>⟨qF x (by simp[hx]),.inr ⟨rfl,by simp[hx]⟩⟩⟩
  ·rw[Az,hv];exact⟨v2,rfl,r2,IT.2.1,fun x hx=>⟨qF x (by simp[hx]),.inr ⟨rfl,by simp[hx]⟩⟩⟩
 ·have QK:∀{n:Nat},b=true->vs[n]?=some vp->BI .AD ((vs.map some)[n]?) x->x∈A:=fun {n} hb hv ho=>by
   rcases pa with⟨h,_⟩|⟨q,lp,_,rfl,rfl,h1,h2⟩
   ·rw[h] at hb;cases hb
   ·rw[Az,hv] at ho;have z:some (some (V.ref lp))=some (some (V.ref x)):=ho;injection z with z;injection z with z;injection z with z
    rw[z];simp
  rcases hm n s hn with⟨v,p,hv,rfl,r⟩|⟨hb,e1,rfl,hv⟩|⟨_,e1,rfl,hv⟩|⟨_,e1,rfl,hv⟩
  ·cases ms
  ·rcases hm j u hj with⟨_,_,_,rfl,_⟩|⟨_,e2,rfl,_⟩|⟨_,e2,rfl,_⟩|⟨_,e2,rfl,_⟩
   ·cases mu
   ·exact MN (e1.trans e2.symm)
   ·exact qA x (Io _ mu) (QK hb hv ms)
   ·exact qA x (Ef _ mu) (QK hb hv ms)
  ·rcases hm j u hj with⟨_,_,_,rfl,_⟩|⟨hb,e2,rfl,YJ⟩|⟨_,e2,rfl,_⟩|⟨_,e2,rfl,_⟩
   ·cases mu
   ·exact qA x (Io _ ms) (QK hb YJ mu)
   ·exact MN (e1.trans e2.symm)
   ·exact IT.2.2 x ms x mu rfl
  ·rcases hm j u hj with⟨_,_,_,rfl,_⟩|⟨hb,e2,rfl,YJ⟩|⟨_,e2,rfl,_⟩|⟨_,e2,rfl,_⟩
   ·cases mu
   ·exact qA x (Ef _ ms) (QK hb YJ mu)
   ·exact IT.2.2 x mu x ms rfl
   ·exact MN (e1.trans e2.symm)
theorem Sg.mK {lt:Bool}{u1 u2:OV}(S:Sg E ss σ F H)(pa:MJ ss σ b vp A)(Bs:i≠j)(hi:ss[i]?=some (.ow lt t1))(hj:ss[j]?=some (.ow lt t2))
  (e1:σ[i]?=some (some v1)) (e2:σ[j]?=some (some v2)) (f:Fin ⟨A,F,H,t1.addrs++t2.addrs⟩ F' H') (r1:B1 F' H' v1 u1) (r2:B1 F' H' v2 u2) (nd:(u1.addrs++u2.addrs).Nodup)
  (q:∀a∈u1.addrs++u2.addrs,F' a=none/\(H a=none∨a∈t1.addrs++t2.addrs)) :
  Sg E ((ss.set i (.ow lt u1)).set j (.ow lt u2)) σ F' H'/\(∀a o,CK ss σ a->a∉t1.addrs++t2.addrs->H a=some o->H' a=some o):=by
 obtain⟨w1,x1,_,_,q1⟩:=S.ok i _ hi;obtain⟨w2,x2,_,_,q2⟩:=S.ok j _ hj;have QR:i<ss.length:=(List.getElem?_eq_some_iff.mp hi).1;have yf:j<ss.length:=(List.getElem?_eq_some_iff.mp hj).1;have qB:∀a∈t1.addrs++t2.addrs,F a=none/\(E.H0 a=none∨a∈E.B):=fun a ha=>by
  rcases List.mem_append.mp ha with h | h
  ·exact⟨(q1 a h).1,(q1 a h).2.imp id fun z=>z.2⟩
  ·exact⟨(q2 a h).1,(q2 a h).2.imp id fun z=>z.2⟩
 have kp:∀a o,a∉A->a∉t1.addrs++t2.addrs->H a=some o->H' a=some o:=fun a o n1 n2 e=>f.keep a o ⟨n1,n2⟩ e;have BU:∀a,H a≠none->F a=none->F' a=none:=fun a h1 h2=>by
  cases e:F' a with
  | none=>rfl
  | some o=>
   rcases f.fresh a o e with z | z
   ·rw[show F a=some o from z] at h2;cases h2
   ·exact absurd z h1
 have xy:∀a∈A,E.H0 a=none∨a∈E.A:=fun a ha=>by
  obtain⟨n,h1,h2⟩:=pa.own ha;obtain⟨l,e,_,hl,_⟩:=S.ok n _ h1;rw[h2] at e;cases e;exact hl
 have YV:∀a,a∈E.A->a∉t1.addrs++t2.addrs:=fun a hA hm=>by
  rcases(qB a hm).2 with z | z
  ·exact S.a0 a hA z
  ·exact(S.b0 a z).2 hA
 have other:∀(n:Nat) s,n≠i->n≠j->ss[n]?=some s->∀a,BI s σ[n]? a->a∉t1.addrs++t2.addrs:=fun n s h1 h2 hs a ho hm=>by
  rcases List.mem_append.mp hm with h | h
  ·exact S.BZ n i s _ a h1 hs hi ho h
  ·exact S.BZ n j s _ a h2 hs hj ho h
 have KD:∀(n:Nat) s,s≠.AD->ss[n]?=some s->∀a,BI s σ[n]? a->a∉A:=fun n s np hs a ho hm=>by
  obtain⟨m,h1,h2⟩:=pa.own hm
  by_cases c:n=m
  ·subst c;rw[hs] at h1;exact np (BS h1)
  ·exact S.BZ n m s _ a c hs h1 ho h2
 have EL:∀a,BY H a->a∉t1.addrs++t2.addrs->BY H' a:=fun a p n=>by
  by_cases c:a∈A
  ·exact f.EL a c
  ·exact BY.keep p fun o e=>kp a o c n e
 have at_:∀(n:Nat) s,((ss.set i (.ow lt u1)).set j (.ow lt u2))[n]?=some s->(n=j/\s=.ow lt u2)∨(n=i/\s=.ow lt u1)∨(n≠i/\n≠j/\ss[n]?=some s):=fun n s hn=>by
  by_cases c:n=j
  ·subst c;rw[Ci (by rw[Hk];exact yf)] at hn;exact .inl ⟨rfl,(BS hn).symm⟩
  ·rw[CG (BP c)] at hn
   by_cases c2:n=i
   ·subst c2;rw[Ci QR] at hn;exact .inr (.inl ⟨rfl,(BS hn).symm⟩)
   ·rw[CG (BP c2)] at hn;exact .inr (.inr ⟨c2,c,hn⟩)
 have qn:∀a∈u1.addrs++u2.addrs,E.H0 a=none∨a∈E.B:=fun a ha=>by
  rcases(q a ha).2 with z | z
  ·exact .inl (S.E8 z)
  ·exact(qB a z).2
 have IT:=List.nodup_append.mp nd;have ltB:∀a,a∈E.B->a∈u1.addrs++u2.addrs->lt=true:=fun a hB ha=>by
  rcases(q a ha).2 with z | z
  ·exact absurd (S.E8 z) (S.b0 a hB).1
  ·rcases List.mem_append.mp z with h | h
   ·exact((q1 a h).2.resolve_left (S.b0 a hB).1).1
   ·exact((q2 a h).2.resolve_left (S.b0 a hB).1).1
 have e9:∀{u:OV}{v:V}{n:Nat},σ[n]?=some (some v)->B1 F' H' v u->u.addrs.Nodup->(∀a∈u.addrs,a∈u1.addrs++u2.addrs)->Ok E F' H' (.ow lt u) σ[n]?:=fun {u v n} e r SU hs=>by
  refine⟨v,e,r,SU,fun a ha=>⟨(q a (hs a ha)).1,?_⟩⟩;rcases qn a (hs a ha) with z | z
  ·exact .inl z
  ·exact .inr ⟨ltB a z (hs a ha),z⟩
 refine⟨⟨⟨f.fh,S.f0.trans f.f0,fun a o hA e=>?_,fun a o e=>?_,fun a hA=>?_,fun a hA=>?_,S.a0,fun a hB=>?_,fun a hB=>?_,S.b0⟩,by rw[Hk,Hk];exact S.len,fun n s hn=>?_,fun n m s u x Wc hn hm ms mu=>?_⟩,fun a o np nb e=>?_⟩
 ·refine kp a o (fun z=>?_) (fun z=>?_) (S.keep a o hA e)
  ·rcases xy a z with y | y
   ·rw[e] at y;cases y
   ·exact hA.1 y
  ·rcases(qB a z).2 with y | y
   ·rw[e] at y;cases y
   ·exact hA.2 y
 ·rcases f.fresh a o e with z | z
  ·exact S.fresh a o z
  ·exact .inr (S.E8 z)
 ·exact EL a (S.EL a hA) (YV a hA)
 ·obtain⟨_,_,e1,_⟩:=S.EL a hA;exact BU a (by rw[e1];simp) (S.Li a hA)
 ·exact BU a (S.bH a hB) (S.bF a hB)
 ·by_cases hm:a∈t1.addrs++t2.addrs
  ·exact f.bH a hm
  ·by_cases hA:a∈A
   ·obtain⟨_,_,e1,_⟩:=f.EL a hA;rw[e1];simp
   ·intro z;cases e:H a with
    | none=>exact S.bH a hB e
    | some o=>rw[kp a o hA hm e] at z;cases z
 ·rcases at_ n s hn with⟨rfl,rfl⟩|⟨rfl,rfl⟩|⟨n1,n2,h⟩
  ·exact e9 e2 r2 IT.2.1 fun a ha=>Ef _ ha
  ·exact e9 e1 r1 IT.1 fun a ha=>Io _ ha
  ·by_cases np:s=.AD
   ·subst np;obtain⟨l,e,fl,hl,pt⟩:=S.ok n _ h;obtain⟨_,_,e3,_⟩:=id pt;exact⟨l,e,BU l (by rw[e3];simp) fl,hl,EL l pt (other n _ n1 n2 h l e)⟩
   ·exact Ok.go S h f.f0 (fun a o ho e=>kp a o (KD n s np h a ho) (other n s n1 n2 h a ho) e) BU np
 ·have K5:∀(n:Nat) s,n≠i->n≠j->ss[n]?=some s->BI s σ[n]? x->x∉u1.addrs++u2.addrs:=fun n s h1 h2 hs ho hm=>by
   rcases(q x hm).2 with z | z
   ·exact S.Dv hs ho z
   ·exact other n s h1 h2 hs x ho z
  rcases at_ n s hn with⟨c1,rfl⟩|⟨c1,rfl⟩|⟨n1,n2,h⟩
  ·rcases at_ m u hm with⟨c2,rfl⟩|⟨c2,rfl⟩|⟨m1,m2,h'⟩
   ·exact Wc (c1.trans c2.symm)
   ·exact IT.2.2 x mu x ms rfl
   ·exact K5 m u m1 m2 h' mu (Ef _ ms)
  ·rcases at_ m u hm with⟨c2,rfl⟩|⟨c2,rfl⟩|⟨m1,m2,h'⟩
   ·exact IT.2.2 x ms x mu rfl
   ·exact Wc (c1.trans c2.symm)
   ·exact K5 m u m1 m2 h' mu (Io _ ms)
  ·rcases at_ m u hm with⟨c2,rfl⟩|⟨c2,rfl⟩|⟨m1,m2,h'⟩
   ·exact K5 n s n1 n2 h ms (Ef _ mu)
   ·exact K5 n s n1 n2 h ms (Io _ mu)
   ·exact S.BZ n m s u x Wc h h' ms mu
 ·refine kp a o (fun z=>?_) nb e;obtain⟨n,h1,h2⟩:=pa.own z;exact np n h1 h2
end
def KN (σ:L2.St)(q:Nat):V:=match σ[q]? with
 | some (some v)=>v
 | _=>.AF
def PQ (s:Slot)(a:Addr):Prop:=(∃lt k us,s=.ow lt (.nd k a us))∨s=.raw (ptr a)
theorem PQ.val (p:PQ s a)(S:Sg E ss σ F H)(hn:ss[n]?=some s):σ[n]?=some (some (.ref a)):=by
 rcases p with⟨lt,k,us,rfl⟩|rfl
 ·obtain⟨v,e,r,_⟩:=S.ok n _ hn;have ev:v=.ref a:=by cases r;rfl
  rw[<- ev];exact e
 ·obtain⟨v,e,r,_⟩:=S.ok n _ hn;have ev:v=.ref a:=r;rw[<- ev];exact e
structure R6 (E:Ent0) (ss AL:List Slot) (σ:L2.St) (t1 t2:OV) (F H F' H':Hp):Prop where
 st:Sg E AL σ F' H'
 ff:A8 F F'
 hh:∀a o,CK ss σ a->a∉t1.addrs++t2.addrs->H a=some o->H' a=some o
 nn:∀a o,F' a=some o->F a=some o∨H a=none
structure Hg [Xw] (ss:List Slot) (q:Nat) (a1 a2:Addr) (t1 t2:OV) (b c d:Bool) (ta:TA) (k:List Slot->Prop):Prop where
 go:∀(E:Ent) (σ:L2.St) (F H:Hp) (Q:List V->Hp->Prop),Sg E ss σ F H->(∀vs l F' H',Mv E ss σ F H F' H'->Ei F' (KN σ q) (.ref a1) (.ref a2) t1 t2 b c d vs l->k l->Q vs H')->ta σ H Q
structure Z7 [Xw] (ss:List Slot) (t1 t2:OV) (new:OV->OV->List Slot) (te:TE) (k:PV->OV->OV->Prop):Prop where
 go:∀(E:Ent) (σ:L2.St) (F H:Hp) (Q:VK),Sg E ss σ F H->(∀v p u1 u2 F' H',R6 E ss (new u1 u2) σ t1 t2 F H F' H'->Rep F' v p->k p u1 u2->Q v H')->te σ H Q
structure MS [Xw] (ss:List Slot) (t1 t2:OV) (new:OV->OV->List Slot) (c:TT) (k:Bool->OV->OV->Prop):Prop where
 go:∀(E:Ent) (σ:L2.St) (F H:Hp) (Q:Bool->Hp->Prop),Sg E ss σ F H->(∀b u1 u2 F' H',R6 E ss (new u1 u2) σ t1 t2 F H F' H'->k b u1 u2->Q b H')->c σ H Q
section
variable [Xw]
variable {ta:TA}{q:Nat}{lt:Bool}{a1 a2:Addr}{nx:List Slot->Prop}{R:B0}{k:List Slot->Prop}{new:OV->OV->List Slot}
theorem Vg (h:k []):Hg ss q a1 a2 t1 t2 false false false B8 k:=⟨fun E σ F H Q S go=>go [] [] F H (Mv.refl S) .nil h⟩
theorem dy (h:Wp ss te fun p=>Hg ss q a1 a2 t1 t2 b c d ta fun l=>k (.is p::l)):Hg ss q a1 a2 t1 t2 b c d (AY te ta) k:=⟨fun E σ F H Q S go=>
 h.go E σ F H _ S fun v p F1 H1 m1 r h2=>h2.go E σ F1 H1 _ m1.st fun vs l F2 H2 m2 a kk=>go _ _ F2 H2 (m1.trans m2) (.is (r.mono m2.ff) a) kk⟩
theorem pQ (hq:ss[q]?=some .AD)(h:Hg ss q a1 a2 t1 t2 false c d ta fun l=>k (.AD::l)):Hg ss q a1 a2 t1 t2 true c d (AY (BQ q) ta) k:=⟨fun E σ F H Q S go=>by
 obtain⟨l0,e,_⟩:=S.ok q _ hq;have ev:KN σ q=.ref l0:=by unfold KN;rw[e]
 refine⟨_,e,h.go E σ F H _ S fun vs l F2 H2 m2 a kk=>go _ _ F2 H2 m2 ?_ kk⟩;rw[<- ev];exact .AD a⟩
theorem Uq (hn:ss[n]?=some s)(ps:PQ s a1)(h:Hg ss q a1 a2 t1 t2 b false d ta fun l=>k (.ow true t1::l)):Hg ss q a1 a2 t1 t2 b true d (AY (BQ n) ta) k:=⟨fun E σ F H Q S go=>
 ⟨_,ps.val S hn,h.go E σ F H _ S fun vs l F2 H2 m2 a kk=>go _ _ F2 H2 m2 (.one a) kk⟩⟩
theorem U8 (hn:ss[n]?=some s)(ps:PQ s a2)(h:Hg ss q a1 a2 t1 t2 b c false ta fun l=>k (.ow true t2::l)):Hg ss q a1 a2 t1 t2 b c true (AY (BQ n) ta) k:=⟨fun E σ F H Q S go=>
 ⟨_,ps.val S hn,h.go E σ F H _ S fun vs l F2 H2 m2 a kk=>go _ _ F2 H2 m2 (.two a) kk⟩⟩
theorem ZF4 (S:Sg E ss σ F H)(hq:b=true->ss[q]?=some .AD):∃A,MJ ss σ b (KN σ q) A/\∀a∈A,∃m:Nat,ss[m]?=some .AD/\σ[m]?=some (some (.ref a)):=by
 cases b with
 | false=>exact⟨[],.inl ⟨rfl,rfl⟩,fun _ h=>absurd h B4⟩
 | true=>
  obtain⟨l0,e,_⟩:=S.ok q _ (hq rfl);have ev:KN σ q=.ref l0:=by unfold KN;rw[e]
  have P:MJ ss σ true (KN σ q) [l0]:=.inr ⟨q,l0,rfl,rfl,ev,hq rfl,e⟩;exact⟨[l0],P,fun a ha=>P.own ha⟩
theorem TB {pre:Pre}(Bs:i≠j)(hi:ss[i]?=some (.ow lt (.nd k1 a1 EB)))(hj:ss[j]?=some (.ow lt (.nd k2 a2 C8)))(hq:b=true->ss[q]?=some .AD)
  (h:Hg ss q a1 a2 (.nd k1 a1 EB) (.nd k2 a2 C8) b c d ta fun l=>∃k',pre l (.HL k')/\∀p u1 u2,k' p u1 u2->u1.val=.ref a1/\u2.val=.ref a2/\kk p u1 u2) :
  Z7 ss (.nd k1 a1 EB) (.nd k2 a2 C8) (fun u1 u2=>(ss.set i (.ow lt u1)).set j (.ow lt u2)) (CD (Cu pre) [] E0 ta) kk:=⟨fun E σ F H Q S go=>
 h.go E σ F H _ S fun vs l F1 H1 m1 a ⟨k',hp,kx⟩=>by
  rw[Et];have S1:=m1.st;obtain⟨v1,x1,r1,n1,q1⟩:=S1.ok i _ hi;obtain⟨v2,x2,r2,n2,q2⟩:=S1.ok j _ hj;have e1:v1=.ref a1:=by cases r1;rfl
  have e2:v2=.ref a2:=by cases r2;rfl
  subst e1;subst e2;obtain⟨A,pa,own⟩:=ZF4 S1 hq;have nU:((OV.nd k1 a1 EB).addrs++(OV.nd k2 a2 C8).addrs).Nodup:=List.nodup_append.mpr ⟨n1,n2,fun x hx y hy e=>S1.BZ i j _ _ x Bs hi hj hx (by rw[e];exact hy)⟩;refine⟨l,.HL k',F1,A,_,hp,S1.call2 pa r1 r2 nU (fun x hx=>?_) (fun x hx hA=>?_) a,fun v F' H' f ⟨p,u1,u2,rp,o1,o2,nd,qa,kp⟩=>?_⟩
  ·rcases List.mem_append.mp hx with z | z
   ·exact(q1 x z).1
   ·exact(q2 x z).1
  ·obtain⟨m,p1,p2⟩:=own x hA;rcases List.mem_append.mp hx with z | z
   ·by_cases w:m=i
    ·subst w;rw[hi] at p1;cases p1
    ·exact S1.BZ m i _ _ x w p1 hi p2 z
   ·by_cases w:m=j
    ·subst w;rw[hj] at p1;cases p1
    ·exact S1.BZ m j _ _ x w p1 hj p2 z
  ·obtain⟨w1,w2,vo⟩:=kx p u1 u2 kp;rw[w1] at o1;rw[w2] at o2;obtain⟨S2,hh⟩:=S1.mK pa Bs hi hj x1 x2 f o1 o2 nd qa;exact go v p u1 u2 F' H' ⟨S2,m1.ff.trans f.f0,fun a o np nb e=>hh a o np nb (m1.hh a o np e),fun a o e=>(f.fresh a o e).elim (fun e=>m1.nn a o e) fun e=>.inr (m1.none e)⟩ rp vo⟩
theorem fN {kk:Bool->OV->OV->Prop}(h:Z7 ss t1 t2 new te fun p u1 u2=>∃c,p=.bl c/\kk c u1 u2):MS ss t1 t2 new (tB te) kk:=⟨fun E σ F H Q S go=>
 h.go E σ F H _ S fun v p u1 u2 F1 H1 m1 r AJ=>by
  obtain⟨c,e,k2⟩:=AJ;subst e;cases r.inv;exact⟨c,rfl,go c u1 u2 F1 H1 m1 k2⟩⟩
theorem jZ {kk:Bool->OV->OV->Prop}(h:MS ss t1 t2 new x fun b u1 u2=>kk (!b) u1 u2):MS ss t1 t2 new (R3 x) kk:=⟨fun E σ F H Q S go=>
 h.go E σ F H _ S fun b u1 u2 F1 H1 m1 k2=>go (!b) u1 u2 F1 H1 m1 k2⟩
theorem gm {u v:TS}(h:MS ss t1 t2 new x fun b u1 u2=>if b=true then Ws (new u1 u2) u nx R else Ws (new u1 u2) v nx R):Ws ss (RD x u v) nx R:=⟨fun E D σ F H S hn hr=>
 h.go E σ F H _ S fun b u1 u2 F1 H1 m1 kk=>by
  cases b with
  | true=>rw[pR rfl] at kk;exact kk.go E D σ F1 H1 m1.st (fun AL σ' F' H' n S' s=>hn AL σ' F' H' n S' (m1.ff.trans s)) hr
  | false=>rw[nr (by decide)] at kk;exact kk.go E D σ F1 H1 m1.st (fun AL σ' F' H' n S' s=>hn AL σ' F' H' n S' (m1.ff.trans s)) hr⟩
theorem Sg.two (S:Sg E ss σ F H)(Bs:i≠j)(hi:ss[i]?=some (.ow l1 (.nd k1 a1 EB)))(hj:ss[j]?=some (.ow l2 (.nd k2 a2 C8))):
  B1 F H (.ref a1) (.nd k1 a1 EB)/\B1 F H (.ref a2) (.nd k2 a2 C8)/\((OV.nd k1 a1 EB).addrs++(OV.nd k2 a2 C8).addrs).Nodup/\∀a∈(OV.nd k1 a1 EB).addrs++(OV.nd k2 a2 C8).addrs,F a=none/\(E.H0 a=none∨a∈E.B):=by
 obtain⟨v1,x1,r1,n1,q1⟩:=S.ok i _ hi;obtain⟨v2,x2,r2,n2,q2⟩:=S.ok j _ hj;have e1:v1=.ref a1:=by cases r1;rfl
 have e2:v2=.ref a2:=by cases r2;rfl
 subst e1;subst e2;refine⟨r1,r2,List.nodup_append.mpr ⟨n1,n2,fun x hx y hy e=>S.BZ i j _ _ x Bs hi hj hx (by rw[e];exact hy)⟩,fun a ha=>?_⟩;rcases List.mem_append.mp ha with h | h
 ·exact⟨(q1 a h).1,(q1 a h).2.imp id fun z=>z.2⟩
 ·exact⟨(q2 a h).1,(q2 a h).2.imp id fun z=>z.2⟩
theorem ZA1 (Bs:i≠j)(hi:ss[i]?=some (.ow l1 (.nd k1 a1 EB)))(hj:ss[j]?=some (.ow l2 (.nd k2 a2 C8)))(h:Wp ss te fun p=>kk p (.nd k1 a1 EB) (.nd k2 a2 C8)):Ws ss (Hc te) nx (.HL kk):=⟨fun E D σ F H S hn hr=>
 h.go E σ F H _ S fun v p F1 H1 m1 r kp=>by
  obtain⟨r1,r2,nd,qa⟩:=m1.st.two Bs hi hj;exact hr v F1 H1 m1.st.toFin ⟨p,.nd k1 a1 EB,.nd k2 a2 C8,r,r1,r2,nd,qa,kp⟩⟩
theorem Qo (Bs:i≠j)(hi:ss[i]?=some (.ow l1 t))(hj:ss[j]?=some (.ow l2 (.nd k2 a2 C8)))(h:Wm ss i l1 t te fun p t'=>∃k' a' us',t'=.nd k' a' us'/\kk p t' (.nd k2 a2 C8)):Ws ss (Hc te) nx (.HL kk):=⟨fun E D σ F H S hn hr=>
 h.go E σ F H _ S fun v p t' F1 H1 m1 r AJ=>by
  obtain⟨k',a',us',e,kp⟩:=AJ;subst e;have QR:i<ss.length:=(List.getElem?_eq_some_iff.mp hi).1;obtain⟨r1,r2,nd,qa⟩:=m1.st.two Bs (Ci QR) (by rw[CG Bs];exact hj);exact hr v F1 H1 m1.st.toFin ⟨p,.nd k' a' us',.nd k2 a2 C8,r,r1,r2,nd,qa,kp⟩⟩
theorem ZDx {l:Bool}(Bs:i≠j)(hi:i<ss.length)(hj:j<ss.length)(h:Z7 ss t1 t2 (fun u1 u2=>(ss.set i (.ow l u1)).set j (.ow l u2)) te fun p u1 u2=>∃k1 b1 EB k2 b2 C8,u1=.nd k1 b1 EB/\u2=.nd k2 b2 C8/\kk p u1 u2):Ws ss (Hc te) nx (.HL kk):=⟨fun E D σ F H S hn hr=>
 h.go E σ F H _ S fun v p u1 u2 F1 H1 m1 r AJ=>by
  obtain⟨k1,b1,EB,k2,b2,C8,e1,e2,kp⟩:=AJ;subst e1;subst e2;obtain⟨r1,r2,nd,qa⟩:=m1.st.two (i:=i) (j:=j) Bs (by rw[CG (BP Bs),Ci hi]) (by rw[Ci (by rw[Hk];exact hj)]);exact hr v F1 H1 m1.st.toFin ⟨p,.nd k1 b1 EB,.nd k2 b2 C8,r,r1,r2,nd,qa,kp⟩⟩
end
end Fz
namespace L2
theorem A7.alias {P:Program}{w:World}{K:ZHP}{mg:ZHR}{base:Heap}{x y:Str}{k:Nat}{ps:List Str}{sp:Sp}{v:Option Value}(h:A7 P w K mg base x k ps sp)(e:mg x=v)(e':mg y=v):A7 P w K mg base y k ps sp:=by
 obtain⟨f,fd,F,b,kp,m⟩:=h;exact⟨f,fd,F,b,kp,e'.trans (e.symm.trans m)⟩
end L2
namespace Fz
open L2 Lw
variable {r x:Str}{ss:List Slot}{T1 ta tb tc te:TE}{F H:Hp}{d:AR}{nx:List Slot->Prop}{R:B0}{ps xs:List PV}{cs ns:List Str}{g i j m:Nat}{t u w y z:OV}{us:List OV}{a aK:Addr}
def bO (x:Str):Prop:=(reprText x).length<=100000/\x.length<=1000
theorem ZD6 (h:x.length<=100)(hx:∀c∈x.cps.toList,c<16 ^ 8):bO x:=⟨ZFo h hx,by omega⟩
theorem ZFh (h:Nm x):∀c∈x.cps.toList,c<16 ^ 8:=fun c hc=>Hm (h.2.2 c hc).2 (by decide)
theorem mH (K:ZHP){d:Nat}(r:Str)(g:Nat)(cs:List Str):dat K (d+2) (Cc r g cs):=fun x hx=>by
 simp only[DN,B4,ya] at hx;rcases hx with rfl | rfl | rfl
 ·trivial
 ·trivial
 ·intro y hy;obtain⟨z,_,rfl⟩:=List.mem_map.mp hy;cases d <;> trivial
theorem Ce.step (h:Ce ns r g cs):Ce ns r (LV ns g cs:Nat) (Ko ns g cs):=by
 unfold LV Ko;cases e:IY ns g cs with
 | none=>exact h
 | some x=>
  have hm:x∈DJ ns g cs:=by
   unfold IY at e;exact ZGF (by rw[e];rfl)
  obtain⟨m1,m2⟩:=Nq.mp hm;have:=List.idxOf_lt_length_iff.mpr m1;exact⟨h.rule,by show(0:Int)<=((ns.idxOf x+1:Nat):Int);omega,by show((ns.idxOf x+1:Nat):Int)<=_;omega,TK x h.up,fun y hy=>h.sub y (Iv.mp hy).1⟩
section
variable [Xw]
theorem oJ {t:TT}{k k':Bool->Prop}(h:Wt ss t k')(hk:∀b,k' b->k b):Wt ss t k:=⟨fun E σ F H Q S q=>h.go E σ F H Q S fun b F' H' m kb=>q b F' H' m (hk b kb)⟩
end
structure JE (m:Nat) (ns:List Str):Prop where
 len:ns.length<=m
 nm:∀x∈ns,Nm x
 nd:ns.Nodup
theorem JE.done (h:JE m ns)(ok:d.Ok m ns):JE m (d.done ns):=by
 obtain⟨a,b,c⟩:=AR.step ok h.nd h.nm h.len;exact⟨c,b,a⟩
structure Lp where
 r:Str
 g:Nat
 cs:List Str
variable {l:Lp}
def Lp.P (l:Lp):PV:=Cc l.r l.g l.cs
def CO (ns:List Str):List Str:=ns.foldr (fun x r=>Ee r x) []
theorem Mc {x:Str}:∀{ns:List Str},x∈CO ns↔x∈ns
 | []=>Iff.rfl
 | y::r=>by
  show x∈Ee (CO r) y↔_;rw[OG,Mc (ns:=r),DN]
theorem SE:∀{ns:List Str},ns.Nodup->Up (CO ns)
 | [],_=>List.Pairwise.nil
 | y::r,h=>by
  obtain⟨h1,h2⟩:=List.nodup_cons.mp h;exact SD (SE h2) fun z=>h1 (Mc.mp z)
theorem KL {ts:List Str}(nd:ns.Nodup)(pm:ts.Perm ns)(st:sortedS ts=true):ts=CO ns:=
 PH (Ut st (pm.nodup_iff.mpr nd)) (SE nd) fun k=>by rw[pm.mem_iff,Mc]
def Lp.led (ns:List Str)(d:AR)(l:Lp):Lp:=⟨l.r,d.gap ns l.g,d.FO l.r l.g l.cs⟩
def Lp.Fl (ns:List Str)(l:Lp):Lp:=⟨l.r,LV ns l.g l.cs,Ko ns l.g l.cs⟩
def Lp.told (ns:List Str)(l:Lp):PV:=ZDs (IY ns l.g l.cs)
def Lp.Good (ns:List Str)(l:Lp):Prop:=Ce ns l.r l.g l.cs
theorem X6 (nd:ns.Nodup)(hr:r∈Cp):Ce ns r (0:Nat) (CO ns):=⟨hr,by decide,by show(0:Int)<=_;omega,SE nd,fun x hx=>Mc.mp hx⟩
theorem iK {k:Nat}(h:k<3):∃r:Str,r∈Cp/\L2.Bf [PV.str "none", .str "ahead", .str "all"] (k:Int)=some (.str r):=by
 have:k=0∨k=1∨k=2:=by omega
 rcases this with rfl | rfl | rfl
 ·exact⟨_,by decide,rfl⟩
 ·exact⟨_,by decide,rfl⟩
 ·exact⟨_,by decide,rfl⟩
theorem Qy {l:List Str}(h:x∈l):l[l.idxOf x]?=some x:=by
 rw[B9 (List.idxOf_lt_length_iff.mpr h),ZW]
def Ai (ns:List Str):List Key:=ns.map Sum.inr
def BV (ll:List Lp):List OV:=ll.map fun l=>.fz l.P
theorem QB (ns:List Str)(x:Str):Gq (Ai ns) (.inr x)=decide (x∈ns):=by
 unfold Gq Ai;rw[List.any_map]
 by_cases h:x∈ns
 ·rw[nV h];exact List.any_eq_true.mpr ⟨x,h,nV rfl⟩
 ·rw[qQ h];rw[Bool.eq_false_iff];intro z;obtain⟨y,hy,e⟩:=List.any_eq_true.mp z;have e2:(Sum.inr y:Key)=Sum.inr x:=qH e;injection e2 with e2
  exact h (e2▸hy)
theorem Kq:∀{ns:List Str}{x:Str},x∈ns->CI (Ai ns) (.inr x)=some (ns.idxOf x)
 | [],_,h=>absurd h B4
 | y::ns,x,h=>by
  unfold Ai;rw[Bn,CI,lS]
  by_cases c:y=x
  ·subst c;rw[pR rfl,show(y == y)=true from u9 y];rfl
  ·rw[nr (fun e=>c (by injection e)),show(y == x)=false from beq_eq_false_iff_ne.mpr c];have h1:CI (ns.map fun n:Str=>(Sum.inr n:Key)) (.inr x)=some (ns.idxOf x):=Kq ((List.mem_cons.mp h).resolve_left fun z=>c z.symm);have D8:CI (ns.map (Sum.inr:Str->Key)) (.inr x)=some (ns.idxOf x):=h1;rw[D8];rfl
theorem cF:∀{ns:List Str}{x:Str},x∉ns->CI (Ai ns) (.inr x)=none
 | [],_,_=>rfl
 | y::ns,x,h=>by
  unfold Ai;rw[Bn,CI,nr (fun e=>h (by injection e with e;subst e;exact DC))]
  have h1:CI (ns.map (Sum.inr:Str->Key)) (.inr x)=none:=cF (ns:=ns) fun z=>h (DZ _ z);rw[h1];rfl
theorem IC (h:ns.Nodup):(Ai ns).Nodup:=ZFv _ (fun a b (h:a≠b)=>fun z=>h (by injection z)) h
theorem kD (h:x∉ns):GS (Ai ns) (.inr x)=Ai (ns++[x])/\Fh (Ai ns) us (.inr x) u=us++[u]:=by
 unfold Fh GS;rw[cF h,QB,qQ h];exact⟨by unfold Ai;rw[CS];rfl,rfl⟩
theorem eU (h:x∈ns):GS (Ai ns) (.inr x)=Ai ns/\Fh (Ai ns) us (.inr x) u=us.set (ns.idxOf x) u:=by
 unfold Fh GS;rw[Kq h,QB,nV h];exact⟨rfl,rfl⟩
theorem QQ (h:x∈ns):GS (Ai ns) (.inr x)=Ai ns:=(eU (us:=[]) (u:=.fz .AF) h).1
theorem RE (h:x∈ns):Fh (Ai ns) us (.inr x) u=us.set (ns.idxOf x) u:=(eU h).2
theorem Tu (h:x∉ns):GS (Ai ns) (.inr x)=Ai (ns++[x]):=(kD (us:=[]) (u:=.fz .AF) h).1
theorem di (h:x∉ns):Fh (Ai ns) us (.inr x) u=us++[u]:=(kD h).2
theorem PD (ls:List Lp)(i:Nat)(l:Lp):(BV ls).set i (.fz l.P)=BV (ls.set i l):=by unfold BV;rw[List.map_set]
theorem ZH {ls:List Lp}(h:ls[i]?=some l):(BV ls)[i]?=some (.fz l.P):=by unfold BV;rw[Az,h];rfl
theorem Uy {y:PV}:∀{ns:List Str}{xs:List PV}{x:Str},x∈ns->xs[ns.idxOf x]?=some y->Ji (Ai ns) xs (.inr x)=some y
 | [],_,_,h,_=>absurd h B4
 | z::ns,xs,x,h,e=>by
  rw[lS] at e;unfold Ai
  by_cases c:z=x
  ·subst c;rw[show(z == z)=true from u9 z] at e;cases xs with
   | nil=>cases e
   | cons w ws=>rw[Bn,Ji,pR rfl];exact e
  ·rw[show(z == x)=false from beq_eq_false_iff_ne.mpr c] at e;cases xs with
   | nil=>cases e
   | cons w ws=>
    rw[Bn,Ji,nr (fun q=>c (by injection q))];exact Uy ((List.mem_cons.mp h).resolve_left fun q=>c q.symm) e
theorem kU (ns:List Str):Em (.tup (ns.map .str))=true:=by
 rw[Em]
 induction ns with
 | nil=>rfl
 | cons x ns ih=>rw[Bn,GC,ih];rfl
def QH:Pre:=fun l R=>l=[.AD]/\R=.is fun p=>∃r,p=.str r/\r∈Cp
theorem aL (ns:List Str):(Ai ns).map Hj=ns.map PV.str:=by
 unfold Ai;rw[Fs];rfl
theorem PY:∀ns:List Str,(CO ns).length=ns.length
 | []=>rfl
 | x::r=>by
  show(Ee (CO r) x).length=_;rw[cK,PY r];rfl
theorem ZFB {K:ZHP}{d:Nat}(h:∀x∈xs,flat x=true):dat K (d+2) (.tup xs):=fun x hx=>by
 have:=h x hx;cases x <;> first | trivial | (cases this)
theorem qZ:∀x y:Int,PV.int x=PV.int y->x=y:=fun _ _ e=>by injection e
def ay:Sp:=fun vs H Q _=>∃(a:Addr) (tp:Bool) (ns:List Str) (lo hi:Nat),vs=[.ref a,.int lo,.int hi]/\H a=some (BF tp (ns.map V.str))/\tp=false/\ns.length<=1000/\lo<=hi/\hi<=ns.length/\J1 H Q (FG ns lo hi)
def Uz:Sp:=fun vs H Q _=>∃(a t:Addr) (tp:Bool) (ns:List Str) (d:AR),vs=[.ref a,.ref t]/\H a=some (BF tp (ns.map V.str))/\H t=some (.tup d.vals)/\tp=false/\d.Ok 40 ns/\ns.length<=40/\J1 H Q (d.done ns)
section
variable [Xw]
variable {K:ZHP}{k:PV->Prop}
theorem pb {k:List PV->Prop}(h:Wz ss te fun tp xs=>tp=false/\k (Ik xs)):Wi ss (W2 K (AY te B8)) k:=⟨fun E σ F H R S q=>
 h.go E σ F H _ S fun v tp xs F1 H1 m1 f AJ=>by
  obtain⟨et,kk⟩:=AJ;subst et;obtain⟨l,vs,ev,hl,r⟩:∃l vs,v=.ref l/\(∀(ss:List Slot) (σ:L2.St) (F H:Hp),A8 F1 F->Sg E ss σ F H->H l=some (.lst vs))/\AO F1 vs xs:=by
   obtain⟨l,vs,e,h1,r⟩:=f;refine⟨l,vs,e,fun ss σ F H s S=>?_,r⟩;rcases h1 with h1 | ⟨hA,h1⟩
   ·exact S.fh _ _ (s _ _ h1)
   ·exact S.keep _ _ hA h1
  subst ev;refine⟨l,vs,rfl,AI.of (hl ss σ F1 H1 (A8.refl _) m1.st),q _ (Ik xs) F1 H1 m1 ⟨fun ss σ F H i s S hi=>?_,fun ss σ F H s S=>?_,fun ss σ F H i x H' s S hi y=>?_⟩ kk⟩
  ·rw[M0] at hi;exact⟨AI.of (hl ss σ F H s S),by rw[r.length];exact hi⟩
  ·refine⟨AI.of (hl ss σ F H s S),?_⟩;rw[M0,r.length];exact Ao _
  ·obtain⟨p,y,hy,ex,hp,eH⟩:=y;subst ex;subst eH;obtain⟨z,hz,rz⟩:=r.get' hy;have m:=S.alloc hp (.tup [.int i,y]);exact⟨_,_,ZC hz,m,.tup AH (.cons (.int _) (.one (rz.mono (s.trans m.ff))))⟩⟩
theorem tX {k:List PV->Prop}(h:Wq ss ta fun tp xs=>tp=false/\∃ns:List Str,xs=ns.map PV.str/\Wp ss tb fun p=>∃d:AR,p=dP d/\d.Ok 40 ns/\ns.length<=40/\k ((d.done ns).map PV.str)):
  Wn ss (CD Uz [] E0 (AY ta (AY tb B8))) k:=⟨fun E σ F H Q S q=>
 h.go E σ F H _ S fun v tp xs F1 H1 m1 sv ⟨Km,ns,ex,h2⟩=>h2.go E σ F1 H1 _ m1.st fun v2 p2 F2 H2 m2 r2 ⟨d,em,hd,hz,kk⟩=>by
  subst ex;subst em;obtain⟨l,vs,ev,hl,r⟩:=(sv.mv m2).seq m2.st;subst ev;rw[r.strs] at hl;obtain⟨t,et,ht⟩:=Qs r2;subst et;refine⟨l,t,tp,ns,d,rfl,hl,m2.st.fh _ _ ht,Km,hd,hz,fun a H3 ha s e3=>?_⟩;have m3:=m2.st.grow s;exact q a _ _ F2 H3 (m1.trans (m2.trans m3)) (m2.st.BU ha) ((m1.trans m2).none ha) e3 (JW _) kk⟩
end
def yN:List Str:=["standing","kept","past","forgotten"]
theorem S7:∀ps:List PV,OV.Fo (ps.map .fz)=ps
 | []=>rfl
 | p::ps=>by rw[Bn,OV.Fo,OV.pv,S7 ps]
theorem cE (h:Nm x):bO x:=ZD6 (by have:=h.2.1;omega) (ZFh h)
theorem tU {k:Nat}(h:k<=ns.length):Dj ns none (some (k:Int))=ns.take k:=by
 unfold Dj;rw[show HT.Aj ns.length 0 none=0 from rfl,Si,P5]
 congr 1
 simp only[HT.Aj];split <;> omega
structure Yd where
 row:List Str
 ln:List Str
 ll:List Lp
 pa:List PV
 fg:Nat
variable {s:Yd}
structure Yd.Ok (m:Nat) (s:Yd):Prop where
 row:JE m s.row
 m4:m<=40
 l1:s.ln.length=s.ll.length
 n1:s.ln.Nodup
 G1:s.ln.length<=12
 good:∀l∈s.ll,l.Good s.row
 nm:∀x∈s.ln,Nm x
def y0 (ns:List Str):Yd:=⟨ns,[],[],[],0⟩
def Yd.Lo (s:Yd)(x r:Str):Yd:=⟨s.row,s.ln++[x],s.ll++[⟨r,0,CO s.row⟩],s.pa,s.fg⟩
def Yd.La (s:Yd)(x:Str):Yd:=⟨s.row,s.ln.eraseIdx (s.ln.idxOf x),s.ll.eraseIdx (s.ln.idxOf x),s.pa,s.fg⟩
def Yd.Fl (s:Yd)(x:Str)(l:Lp):Yd:=⟨s.row,s.ln,s.ll.set (s.ln.idxOf x) (l.Fl s.row),s.pa,s.fg⟩
def FH (s:Yd)(d:AR)(i:Nat):List Lp:=(s.ll.take i).map (Lp.led s.row d)++s.ll.drop i
def Yd.mid (s:Yd)(d:AR)(i:Nat):Yd:=⟨s.row,s.ln,FH s d i,s.pa,s.fg⟩
def OY (ns:List Str)(d:AR):PV:=.tup [.lst (ns.map .str),dP d]
def Yd.act (s:Yd)(d:AR):Yd:=⟨d.done s.row,s.ln,s.ll.map (Lp.led s.row d),s.pa++[OY s.row d],s.fg⟩
theorem iZ (s:Yd)(d:AR):FH s d s.ll.length=s.ll.map (Lp.led s.row d):=by
 unfold FH;rw[Hl,lJ,Et]
theorem km (s:Yd)(d:AR)(i:Nat):(FH s d i).length=s.ll.length:=by
 unfold FH;rw[BL,AX,Bd,Cj];omega
theorem kJ (h:s.ll[i]?=some l):(FH s d i)[i]?=some l:=by
 have hi:=(List.getElem?_eq_some_iff.mp h).1;unfold FH;rw[Mj (by rw[AX,Bd];omega),AX,Bd,ZV,show i+(i - min i s.ll.length)=i by omega];exact h
theorem gT (h:s.ll[i]?=some l):(FH s d i).set i (l.led s.row d)=FH s d (i+1):=by
 obtain⟨hi,e⟩:=List.getElem?_eq_some_iff.mp h;unfold FH;rw[List.set_append_right _ _ (by rw[AX,Bd];omega),AX,Bd,show i - min i s.ll.length=0 by omega,ZG0 hi,So,Sq hi,CS,CC,e];rfl
theorem Yd.Ok.Lo (h:s.Ok m)(hx:x∉s.ln)(nx:Nm x)(hr:r∈Cp)(hl:s.ln.length<12):(s.Lo x r).Ok m:=by
 refine⟨h.row,h.m4,?_,?_,?_,fun l hl=>?_,fun y hy=>?_⟩
 ·show(s.ln++[x]).length=(s.ll++[_]).length;rw[BL,BL,h.l1];rfl
 ·refine List.nodup_append.mpr ⟨h.n1,by simp,fun a ha b hb e=>?_⟩;rw[List.mem_singleton.mp hb] at e;subst e;exact hx ha
 ·show(s.ln++[x]).length<=12;rw[BL];exact hl
 ·rcases List.mem_append.mp hl with z | z
  ·exact h.good l z
  ·rw[List.mem_singleton.mp z];exact X6 h.row.nd hr
 ·rcases List.mem_append.mp hy with z | z
  ·exact h.nm y z
  ·rw[List.mem_singleton.mp z];exact nx
theorem Yd.Ok.La (h:s.Ok m)(x:Str):(s.La x).Ok m:=by
 refine⟨h.row,h.m4,?_,h.n1.sublist (ZG2 _ _),CZ (ZG2 _ _).length_le h.G1,fun l hl=>h.good l (ZGE hl),fun y hy=>h.nm y (ZGE hy)⟩;show(s.ln.eraseIdx _).length=(s.ll.eraseIdx _).length;rw[ZGA,ZGA,h.l1]
theorem Yd.Ok.Fl (h:s.Ok m)(hl:l∈s.ll):(s.Fl x l).Ok m:=by
 refine⟨h.row,h.m4,?_,h.n1,h.G1,fun l' Dz=>?_,h.nm⟩
 ·show s.ln.length=(s.ll.set _ _).length;rw[Hk];exact h.l1
 ·rcases List.mem_or_eq_of_mem_set Dz with z | z
  ·exact h.good l' z
  ·rw[z];exact(rF (h.good l hl)).1
theorem Yd.Ok.act (h:s.Ok m)(hd:d.Ok m s.row)(h4:d.Ok 40 s.row):(s.act d).Ok m:=by
 refine⟨h.row.done hd,h.m4,?_,h.n1,h.G1,fun l hl=>?_,h.nm⟩
 ·show s.ln.length=(s.ll.map _).length;rw[AX];exact h.l1
 ·obtain⟨l0,Th,rfl⟩:=List.mem_map.mp hl;exact(h.good l0 Th).led h4 h.row.nd
theorem zR (h:JE m ns)(hm:m<=40):(y0 ns).Ok m:=⟨h,hm,rfl,P0,CH _,fun l hl=>absurd hl B4,fun l hl=>absurd hl B4⟩
def CT:List Key:=[.inr "row", .inr "kept", .inr "past"]
def BA (s:Yd)(a aK aP:Addr):OV:=.nd (.Aq CT) a [.fz (.lst (s.row.map .str)),.nd (.Aq (Ai s.ln)) aK (BV s.ll),.nd .lst aP (s.pa.map .fz)]
def HA (s:Yd)(a:Addr)(t:OV):Prop:=∃aK aP,t=BA s a aK aP
def Fw (s:Yd):PV:=.Aq CT [.lst (s.row.map .str),.Aq (Ai s.ln) (s.ll.map Lp.P),.lst s.pa]
def B7 (s:Yd)(C a dx aK aP:Addr):OV:=.nd (.obj C dx yN) a [.fz (.lst (s.row.map .str)),.nd (.Aq (Ai s.ln)) aK (BV s.ll),.nd .lst aP (s.pa.map .fz),.fz (.int s.fg)]
def E6 (s:Yd)(C a:Addr)(t:OV):Prop:=∃dx aK aP,t=B7 s C a dx aK aP
def Cz (s:Yd)(C:Addr):PV:=.obj C yN [.lst (s.row.map .str),.Aq (Ai s.ln) (s.ll.map Lp.P),.lst s.pa,.int s.fg]
theorem bJ (ll:List Lp):OV.Fo (BV ll)=ll.map Lp.P:=by
 unfold BV;rw[show(ll.map fun l=>OV.fz l.P)=(ll.map Lp.P).map .fz by rw[Fs];rfl,S7]
theorem JB (s:Yd)(C a dx aK aP:Addr):(B7 s C a dx aK aP).pv=Cz s C:=by
 unfold B7 Cz;simp only[OV.pv,OV.Fo,S7,bJ]
theorem Nd (s:Yd)(a aK aP:Addr):(BA s a aK aP).pv=Fw s:=by
 unfold BA Fw;simp only[OV.pv,OV.Fo,S7,bJ]
theorem E6.nd {s:Yd}{C a:Addr}{t:OV}(h:E6 s C a t):∃nk us,t=.nd nk a us:=by obtain⟨dx,aK,aP,rfl⟩:=h;exact⟨_,_,rfl⟩
theorem HA.nd {s:Yd}{a:Addr}{t:OV}(h:HA s a t):∃nk us,t=.nd nk a us:=by obtain⟨aK,aP,rfl⟩:=h;exact⟨_,_,rfl⟩
section
variable [Xw]
variable {lt:Bool}{K:ZHP}{C dx aP:Addr}{k:List Nat->OV->Prop}
theorem N1 (hi:ss[i]?=some (.ow lt (B7 s C a dx aK aP)))(oc:C3 K C)(na:By K C "standing")(h:k ([]++[0]) (.fz (.lst (s.row.map .str)))):Wl ss i (B7 s C a dx aK aP) (Kl K (BQ i) "standing") k:=W8 (Dd hi ⟨C,dx,yN,a,_,0,_,rfl,oc,na,by decide +kernel,rfl,h⟩)
theorem Jl (hi:ss[i]?=some (.ow lt (B7 s C a dx aK aP)))(oc:C3 K C)(na:By K C "kept")(h:k ([]++[1]) (.nd (.Aq (Ai s.ln)) aK (BV s.ll))):Wl ss i (B7 s C a dx aK aP) (Kl K (BQ i) "kept") k:=W8 (Dd hi ⟨C,dx,yN,a,_,1,_,rfl,oc,na,by decide +kernel,rfl,h⟩)
theorem wZ (hi:ss[i]?=some (.ow lt (B7 s C a dx aK aP)))(oc:C3 K C)(na:By K C "past")(h:k ([]++[2]) (.nd .lst aP (s.pa.map .fz))):Wl ss i (B7 s C a dx aK aP) (Kl K (BQ i) "past") k:=W8 (Dd hi ⟨C,dx,yN,a,_,2,_,rfl,oc,na,by decide +kernel,rfl,h⟩)
theorem KG (hi:ss[i]?=some (.ow lt (BA s a aK aP)))(h:k ([]++[0]) (.fz (.lst (s.row.map .str)))):Wl ss i (BA s a aK aP) (Gu (BQ i) (tC (V.str "row"))) k:=Le (Dd hi ⟨CT,a,_,rfl,Eu ⟨.inr "row", 0,_,rfl,by decide +kernel,rfl,h⟩⟩)
theorem JS (hi:ss[i]?=some (.ow lt (BA s a aK aP)))(h:k ([]++[1]) (.nd (.Aq (Ai s.ln)) aK (BV s.ll))):Wl ss i (BA s a aK aP) (Gu (BQ i) (tC (V.str "kept"))) k:=Le (Dd hi ⟨CT,a,_,rfl,Eu ⟨.inr "kept", 1,_,rfl,by decide +kernel,rfl,h⟩⟩)
theorem sA (hi:ss[i]?=some (.ow lt (BA s a aK aP)))(h:k ([]++[2]) (.nd .lst aP (s.pa.map .fz))):Wl ss i (BA s a aK aP) (Gu (BQ i) (tC (V.str "past"))) k:=Le (Dd hi ⟨CT,a,_,rfl,Eu ⟨.inr "past", 2,_,rfl,by decide +kernel,rfl,h⟩⟩)
end
theorem Sb {k:NK}{x:OV}:(OV.nd k a [x,y,z,w]).put [1] u=.nd k a [x,u,z,w]:=by rw[OV.Iy (x:=y) rfl,OV.GK];rfl
theorem ZDe {k:NK}{x:OV}:(OV.nd k a [x,y,z,w]).put [2] u=.nd k a [x,y,u,w]:=by rw[OV.Iy (x:=z) rfl,OV.GK];rfl
def UY (C:Addr):Pre:=fun l R=>∃(a dx:Addr) (ns:List Str),l=[.ow true (.nd (.obj C dx []) a []),.is (.lst (ns.map .str))]/\JE 40 ns/\R=.mt fun p t'=>p=.AF/\∃aK aP,t'=B7 (y0 ns) C a dx aK aP
def Uu:Pre:=fun l R=>∃ns:List Str,l=[.is (.lst (ns.map .str))]/\JE 40 ns/\R=.is fun p=>p=.AF
def YD (C:Addr):Pre:=fun l R=>∃(m:Nat) (s:Yd) (a:Addr) (t:OV) (x r:Str),l=[.ow true t,.is (.str x),.is (.str r)]/\E6 s C a t/\s.Ok m/\x∉s.ln/\Nm x/\r∈Cp/\s.ln.length<12/\R=.mt fun p t'=>p=.AF/\E6 (s.Lo x r) C a t'
def WI (C:Addr):Pre:=fun l R=>∃(m:Nat) (s:Yd) (a:Addr) (t:OV) (x:Str),l=[.ow true t,.is (.str x)]/\E6 s C a t/\s.Ok m/\x∈s.ln/\R=.mt fun p t'=>p=.AF/\E6 (s.La x) C a t'
def VB (C:Addr):Pre:=fun l R=>∃(m:Nat) (s:Yd) (a:Addr) (t:OV) (x:Str) (lo:Lp),l=[.ow true t,.is (.str x)]/\E6 s C a t/\s.Ok m/\x∈s.ln/\s.ll[s.ln.idxOf x]?=some lo/\R=.mt fun p t'=>p=lo.told s.row/\E6 (s.Fl x lo) C a t'
def Yn (C:Addr):Pre:=fun l R=>∃(m:Nat) (s:Yd) (a:Addr) (t:OV) (d:AR),l=[.ow true t,.is (dP d)]/\E6 s C a t/\s.Ok m/\d.Ok 40 s.row/\s.pa.length<=1000/\R=.mt fun p t'=>p=.AF/\E6 (s.act d) C a t'
def MO (C:Addr):Pre:=fun l R=>∃(s:Yd) (x:Str) (lo:Lp),l=[.is (Cz s C),.is (.str x)]/\x∈s.ln/\s.ll[s.ln.idxOf x]?=some lo/\s.ln.length=s.ll.length/\R=.is fun p=>p=lo.P
def Xe (C:Addr):Pre:=fun l R=>∃s:Yd,l=[.is (Cz s C)]/\R=.new fun xs=>xs=s.row.map .str
def VZ (C:Addr):Pre:=fun l R=>∃(m:Nat) (s:Yd),l=[.is (Cz s C)]/\s.Ok m/\R=.new fun xs=>xs=(CO s.ln).map .str
def Q5 (C:Addr):Pre:=fun l R=>∃s:Yd,l=[.is (Cz s C)]/\s.pa.length<=2000/\R=.is fun p=>p=.int (s.fg+s.pa.length)
def Yj:Pre:=fun l R=>∃m:Nat,l=[.AD,.is (.int m)]/\1<=m/\m<=40/\R=.ow fun u=>∃ns a,JE m ns/\HA (y0 ns) a u
def SI (C:Addr):Pre:=fun l R=>∃(m:Nat) (s:Yd) (a1 a2:Addr) (t1 t2:OV) (d:AR),l=[.ow true t1,.ow true t2,.is (dP d)]/\E6 s C a1 t1/\HA s a2 t2/\s.Ok m/\d.Ok 40 s.row/\s.pa.length<=1000/\R=.HL fun p u1 u2=>p=.bl true/\E6 (s.act d) C a1 u1/\HA (s.act d) a2 u2
def Xn (C:Addr):Pre:=fun l R=>∃(m:Nat) (s:Yd) (a1 a2:Addr) (t1 t2:OV),l=[.AD,.ow true t1,.ow true t2,.is (.int m)]/\1<=m/\E6 s C a1 t1/\HA s a2 t2/\s.Ok m/\s.pa.length<=1000/\R=.HL fun p u1 u2=>p=.bl true/\∃s',Yd.Ok m s'/\s'.pa.length<=s.pa.length+1/\s'.fg=s.fg/\E6 s' C a1 u1/\HA s' a2 u2
def Ux (C:Addr):Pre:=fun l R=>∃(m:Nat) (s:Yd) (a1 a2:Addr) (t1 t2:OV),l=[.ow true t1,.ow true t2]/\E6 s C a1 t1/\HA s a2 t2/\s.Ok m/\s.fg=0/\s.pa.length<=1000/\R=.HL fun p u1 u2=>p=.bl true/\u1=t1/\u2=t2
def Tr:Pre:=fun l R=>∃lo:Lp,l=[.is lo.P,.is lo.P]/\R=.is fun p=>p=.bl true
section
variable [Xw]
variable {k:PV->Prop}
theorem zS (h:Wp ss te fun p=>∃r:Str,p=.str r/\r∈Cp/\k .AF):Wp ss (CD Pw [] E0 (AY te B8)) k:=⟨fun E σ F H Q S q=>
 h.go E σ F H _ S fun v p F1 H1 m1 r1 AJ=>by
  obtain⟨r,e,hr,kk⟩:=AJ;subst e;cases r1.inv;exact⟨r,rfl,hr,q _ _ F1 H1 m1 .AF kk⟩⟩
end
theorem uQ (nd:ns.Nodup){k:Nat}(e:ns[k]?=some x):x∉ns.take k:=fun h=>by
 have n2:=nd;rw[<- Gy k ns] at n2;refine(List.nodup_append.mp n2).2.2 x h x (DD (i:=0) ?_) rfl;rw[ZV];exact e
theorem NT {α β:Type}(f:α->β):∀(l:List α) (i:Nat),(l.map f).eraseIdx i=(l.eraseIdx i).map f
 | [],_=>rfl
 | _::_,0=>rfl
 | a::l,i+1=>by rw[Bn,Sj,Sj,Bn,NT f l i]
theorem fT (l:Lp):Em l.P=true:=by
 have h:=kU l.cs;unfold Lp.P Cc;rw[Em,GC,GC,GC,h];rfl
theorem gG (ns:List Str)(l:Lp):Jw ns l.r l.g l.cs=.tup [l.told ns,(l.Fl ns).P]:=by
 unfold Jw Lp.told Lp.Fl Lp.P IY LV Ko;unfold IY;cases e:DJ ns l.g l.cs with
 | nil=>rfl
 | cons x r=>rfl
theorem ra:GS CT (.inr "row")=CT:=by decide +kernel
theorem ZFa {x:OV}:Fh CT [x,y,z] (.inr "row") w=[w,y,z]:=by
 unfold Fh;rw[show CI CT (.inr "row")=some 0 by decide +kernel];rfl
section
variable [Xw]
variable {lt:Bool}{k:PV->OV->Prop}
theorem Vl (h:Wm ss i lt t te fun p t'=>p=.AF/\k (.bl true) t'):Wm ss i lt t (C5 (fun x y H Q=>y=V.AF/\Q (V.bl (decide (x=V.AF))) H) te (tC V.AF)) k:=⟨fun E σ F H Q S q=>
 h.go E σ F H _ S fun v p t' F1 H1 m1 r AJ=>by
  obtain⟨e,kk⟩:=AJ;subst e;cases r.inv;refine⟨rfl,?_⟩;rw[nV rfl];exact q _ _ t' F1 H1 m1 (.bl true) kk⟩
variable {y:PV}
theorem qM (Bs:i≠j)(hj:ss[j]?=some (.is y))(h:Wm ss i lt t te fun p t'=>Ii p y=true/\k (.bl (alike p y)) t'):Wm ss i lt t (C5 U1 te (BQ j)) k:=⟨fun E σ F H Q S q=>
 h.go E σ F H _ S fun v p t' F1 H1 m1 r1 AJ=>by
  obtain⟨hs,kk⟩:=AJ;obtain⟨v2,e,r2⟩:=m1.st.ok j (.is y) (by rw[CG Bs];exact hj);refine⟨v2,e,?_⟩;have sc:=hs;unfold Ii at sc;rw[E4,E4] at sc;rw[r1.enc sc.1.1,r2.enc sc.1.2];refine⟨sc.2,?_⟩;rw[Wy hs];exact q _ _ t' F1 H1 m1 (.bl _) kk⟩
end
theorem pj (ns:List Str)(l:Lp):Ii (l.told ns) (l.told ns)=true/\alike (l.told ns) (l.told ns)=true:=by
 unfold Lp.told;cases IY ns l.g l.cs with
 | none=>exact⟨rfl,rfl⟩
 | some x=>exact⟨rfl,by show decide (x=x)=true;exact nV rfl⟩
theorem jQ (ns:List Str):GC (ns.map .str)=true:=by
 have h:=kU ns
 rwa [Em] at h
theorem Sg.bare (fh:A8 F H){l:List Slot}{vs:List V}(hl:l.length=vs.length)(ok:∀(n:Nat) s,l[n]?=some s->s=.any∨∃v p,vs[n]?=some v/\s=.is p/\Rep F v p):Sg ⟨[],F,H,[]⟩ l (vs.map some) F H:=by
 refine⟨⟨fh,A8.refl _,fun _ _ _ e=>e,fun _ _ e=>.inl e,fun x h=>absurd h B4,fun x h=>absurd h B4,fun x h=>absurd h B4,fun x h=>absurd h B4,fun x h=>absurd h B4,fun x h=>absurd h B4⟩,by rw[AX];exact hl,fun n s hn=>?_,fun n j s u x MN hn hj ms mu=>?_⟩
 ·rcases ok n s hn with rfl | ⟨v,p,hv,rfl,r⟩
  ·trivial
  ·rw[Az,hv];exact⟨v,rfl,r⟩
 ·rcases ok n s hn with rfl | ⟨v,p,hv,rfl,r⟩
  ·cases ms
  ·cases ms
def jt (F H:Hp):@Ent Pd:=@Ent.mk Pd ⟨[],F,H,[]⟩ fun _ _ _ _ _ _ _ _ _ d _=>d.elim
theorem gY {F:Hp}:∀n:Nat,AO F (List.replicate n (V.bl true)) (List.replicate n (PV.bl true))
 | 0=>.nil
 | n+1=>by rw[ZGH,ZGH];exact .cons (.bl true) (gY n)
theorem vP {pre:Pre}{jS jY:Nat}{l1 l2:Bool}{a2:Addr}{u0 u2 tY:OV}{k:List PV->Prop}
  (hS:ss[jS]?=some (.ow l2 (.nd (.Aq CT) a2 [u0,.nd (.Aq (Ai ns)) aK (ps.map .fz),u2]))) (hY:ss[jY]?=some (.ow l1 tY)) (Bs:jY≠jS) (nd:ns.Nodup) (hl:ns.length<=1000)
  (h1:∀(n:Nat) x p,ns[n]?=some x->ps[n]?=some p->Wp [.any,.is tY.pv,.is (.str x)] T1 fun q=>q=p)
  (h2:∀p∈ps,Wp [.is p,.is p] (CD (Ar pre) [] E0 (AY (BQ 0) (AY (BQ 1) B8))) fun q=>q=.bl true) (hk:k (List.replicate ns.length (.bl true))) :
  Wn ss (Z0 (Jk (TM (Gu (BQ jS) (tC (V.str "kept")))) [jS,jY] ML (CD (Ar pre) [] E0 (AY T1 (AY (Gu (Gu (BQ 0) (tC (V.str "kept"))) (BQ 2)) B8))))) k:=⟨fun E σ F H Q S q=>by
 obtain⟨v0,e0,r0,D9,q0⟩:=S.ok jS _ hS;obtain⟨vY,eY,rY,ndY,qY⟩:=S.ok jY _ hY;obtain⟨vs,rfl,ha,sd,ft,rr⟩:=r0.inv;obtain⟨w0,fZ,rfl,r1,rr⟩:=rr.inv;obtain⟨w1,Lq,rfl,r2,rr⟩:=rr.inv;obtain⟨w2,bf,rfl,r3,rr⟩:=rr.inv;cases rr;obtain⟨ws,rfl,hK,sd2,NU,rk⟩:=r2.inv;have KP:H a2=some (.dK (CT.zip [w0,.ref aK,w2])):=ha;have TQ:H aK=some (.dK ((Ai ns).zip ws)):=hK;have fl:(Ai ns).length=ws.length:=NU;have kl:(Ai ns).length=ns.length:=by unfold Ai;rw[AX]
 have rv:=dF rk;have dH:aK∈(OV.nd (.Aq CT) a2 [u0,.nd (.Aq (Ai ns)) aK (ps.map .fz),u2]).addrs:=by
  simp[OV.addrs,OV.Al]
 have nY:aK∉tY.addrs:=fun z=>S.BZ jY jS _ _ aK Bs hY hS z dH;have nf:A8 F (BG F H tY.addrs):=fun b u e=>by
  unfold BG
  by_cases c:b∈tY.addrs
  ·rw[(qY b c).1] at e;cases e
  ·rw[nr c];exact e
 have rP:Rep (BG F H tY.addrs) vY tY.pv:=rY.rep nf fun a ha o ho=>by unfold BG;rw[pR ha];exact ho
 have fK:BG F H tY.addrs aK=none:=by unfold BG;rw[nr nY];exact(q0 aK dH).1
 have fH:A8 (BG F H tY.addrs) H:=fun b u e=>by
  unfold BG at e
  by_cases c:b∈tY.addrs
  ·rw[pR c] at e;exact e
  ·rw[nr c] at e;exact S.fh b u e
 have dg:∀H':Hp,H' a2=some (.dK (CT.zip [w0,.ref aK,w2]))->FE H' a2 (.str "kept") (some (.ref aK)):=fun H' h=>.inl ⟨_,.inr "kept", .inl h,rfl,(TU (n:=1) (by decide +kernel) rfl rfl).symm⟩;refine⟨aK,_,TQ,.ref a2,e0,a2,.ref aK,rfl,dg H KP,aK,_,rfl,TQ,fun o acc Ax=>?_⟩;have na:acc≠aK:=fun z=>by rw[z,AH] at Ax;cases Ax
 have Ld:H acc=none:=by rw[Ad na] at Ax;exact Ax
 have rf:a2≠aK:=fun z=>by
  have:=D9;rw[z] at this;simp[OV.addrs,OV.Al] at this
 have zl:((Ai ns).zip ws).length=ws.length:=by rw[Oz];omega
 refine⟨fun n m H2=>m=ws.length - n/\n<=ws.length/\H2 acc=some (.lst (List.replicate n (V.bl true)))/\∀b u,b≠acc->upd H aK (.CM o (.dK ((Ai ns).zip ws))) b=some u->H2 b=some u,⟨_,rfl,CH _,AH,fun b u hb e=>by rw[Ad hb];exact e⟩,?_⟩;rintro n m H2 ⟨rfl,hn,hA,hX⟩;have Rq:H2 aK=some (.CM o (.dK ((Ai ns).zip ws))):=hX aK _ (BP na) AH;have sx:BG F H tY.addrs acc=none:=by
  cases e:BG F H tY.addrs acc with
  | none=>rfl
  | some u=>rw[fH _ _ e] at Ld;cases Ld
 have nB:A8 (BG F H tY.addrs) H2:=fun b u e=>by
  refine hX b u (fun z=>by rw[z,sx] at e;cases e) ?_;rw[Ad (fun z=>by rw[z,fK] at e;cases e)];exact fH b u e
 by_cases AW:n<ws.length
 ·refine .inr ⟨⟨Rq,by rw[zl];exact AW⟩,fun x H3 y=>?_⟩;obtain⟨eH,key,v,Ye,ex⟩:=y;subst eH;subst ex;obtain⟨g1,g2⟩:=iu Ye;unfold ML;dsimp only;rw[pR rfl];obtain⟨x,hx,ek⟩:∃x,ns[n]?=some x/\(Sum.inr x:Key)=key:=by
   unfold Ai at g1;rw[Az] at g1;exact Option.map_eq_some_iff.mp g1
  subst ek;obtain⟨p,hp,rp⟩:=rv.get' g2;have es:Bb [jS,jY] σ++[some (kV (.inr x))]=[V.ref a2,vY,.str x].map some:=by
   show[(σ[jS]?).join,(σ[jY]?).join]++_=_;rw[e0,eY];rfl
  rw[es];refine(h1 n x p hx hp).go (jt (BG F H tY.addrs) H3) _ (BG F H tY.addrs) H3 _ (Sg.bare nB rfl fun n s hn=>?_) fun v1 p1 F4 H4 m4 r4 e4=>?_
  ·match n,hn with
   | 0,hn=>cases hn;exact .inl rfl
   | 1,hn=>cases hn;exact .inr ⟨_,_,rfl,rfl,rP⟩
   | 2,hn=>cases hn;exact .inr ⟨_,_,rfl,rfl,.str x⟩
   | n+3,hn=>simp at hn
  subst e4;have np:∀b,CK [.any,.is tY.pv,.is (.str x)] ([V.ref a2,vY,.str x].map some) b:=fun b n hn=>by
   match n,hn with
   | 0,hn=>cases hn
   | 1,hn=>cases hn
   | 2,hn=>cases hn
   | n+3,hn=>simp at hn
  have k4:∀b u,H3 b=some u->H4 b=some u:=fun b u e=>m4.hh b u (np b) e;have hA2:H4 a2=some (.dK (CT.zip [w0,.ref aK,w2])):=k4 _ _ (hX a2 _ (fun z=>by rw[z,Ld] at KP;cases KP) (by rw[Ad rf];exact KP));refine⟨.ref a2,rfl,a2,.ref aK,rfl,dg H4 hA2,kV (.inr x),rfl,aK,v,rfl,.inl ⟨_,.inr x,.inr ⟨o,k4 _ _ Rq⟩,rfl,(TU (IC nd) g1 g2).symm⟩,?_⟩;have z:=(h2 p1 (DD hp)).go (jt F4 H4) ([v1,v].map some) F4 H4 (fun y H5=>∃ys,H5 acc=some (.lst ys)/\ys.length<sizeLine/\∃m',m' < ws.length - n/\(m'=ws.length - (n+1)/\n+1<=ws.length/\upd H5 acc (.lst (ys++[y])) acc=some (.lst (List.replicate (n+1) (V.bl true)))/\∀b u,b≠acc->upd H aK (.CM o (.dK ((Ai ns).zip ws))) b=some u->upd H5 acc (.lst (ys++[y])) b=some u)) (Sg.bare m4.st.fh rfl fun n s hn=>?_) fun v5 p5 F5 H5 m5 r5 e5=>?_
  ·obtain⟨_,ea,_,eb,z⟩:=z;cases ea;cases eb;exact z
  ·match n,hn with
   | 0,hn=>cases hn;exact .inr ⟨_,_,rfl,rfl,r4⟩
   | 1,hn=>cases hn;exact .inr ⟨_,_,rfl,rfl,(rp.mono nf).mono m4.ff⟩
   | n+2,hn=>simp at hn
  ·subst e5;cases r5;have pE:∀b,CK [.is p1,.is p1] ([v1,v].map some) b:=fun b n hn=>by
    match n,hn with
    | 0,hn=>cases hn
    | 1,hn=>cases hn
    | n+2,hn=>simp at hn
   have k5:∀b u,H3 b=some u->H5 b=some u:=fun b u e=>m5.hh b u (pE b) (k4 b u e);refine⟨_,k5 acc _ hA,LZ (by rw[lU];omega),ws.length - (n+1),by omega,rfl,AW,?_,fun b u hb e=>by rw[Ad hb];exact k5 b u (hX b u hb e)⟩;rw[AH,List.replicate_succ']
 ·have e:n=ws.length:=by omega
  subst e;refine .inl ⟨⟨Rq,zl.symm⟩,o,_,Rq,?_⟩;have sm:A8 H (upd H2 aK (.dK ((Ai ns).zip ws))):=fun b u e=>by
   by_cases c:b=aK
   ·subst c;rw[AH,<- TQ,e]
   ·rw[Ad c];exact hX b u (fun z=>by rw[z,Ld] at e;cases e) (by rw[Ad c];exact e)
  refine q acc _ _ F _ (S.grow sm) (S.BU Ld) Ld (by rw[Ad na];exact hA) (gY _) ?_;rw[<- fl,kl];exact hk⟩
end Fz
namespace L2
section
variable {X:Cx}
def iA (K:ZHP):List V->Hp->VK->Prop:=fun xs H Q=>∃(p:Addr) (ss:List Int),xs=[.ref p]/\AI K H p (ss.map V.int)/\ss≠[]/\∀m∈ss,(∀y∈ss,m<=y)->Q (.int m) H
theorem ZEw (hc:X.calm=true):CY X (.builtin "min") (iA X.K):=by
 intro pins s σ H xs us Q I r h;obtain⟨p,ss,rfl,hq,Af,q⟩:=h;obtain⟨u,rfl,rx⟩:=vals1 r;cases rx;obtain⟨A4,rv,pl,_⟩:=I.list hq;have hi:=eO rv;obtain⟨ys,e⟩:=hi.allInts.items;have hl:=pl.isList;rw[e] at hl;have e2:ys.toList.map (·.1)=ss:=by
  rw[<- nums_intItems,<- e];exact hi.numsOf
 have hlen:ys.size=ss.length:=by rw[<- e2];simp
 have Ht:0<ss.length:=List.length_pos_iff.mpr Af;refine min_intList (I.ok.hd hc) hl (by omega) fun v h' tk hv hk=>?_;obtain⟨t',rfl⟩:=intItems_at hv;obtain⟨b1,b2⟩:=argBest_lt (numAt ys) (ys.size - 1);refine⟨.int _,H,I.same hk,⟨t',rfl⟩,q _ ?_ fun y hy=>?_⟩
 ·rw[numAt_eq,e2];exact getD_mem (by omega)
 ·obtain⟨j,hj,ej⟩:=mem_getD hy;have:=b2 j (by omega);rw[numAt_eq ys j,e2,ej] at this;exact this
end
end L2
namespace Fz
open L2 Lw
variable {new:OV->OV->List Slot}{cs ns:List Str}
section
variable [Xw]
variable {ss:List Slot}{K:ZHP}{te:TE}{k:PV->Prop}
theorem ZBQ (h:Wq ss te fun tp xs=>tp=false/\∃ns:List Int,xs=ns.map PV.int/\ns≠[]/\∀m∈ns,(∀y∈ns,m<=y)->k (.int m)):Wp ss (Cb (iA K) (AY te B8)) k:=⟨fun E σ F H Q S q=>
 h.go E σ F H _ S fun v tp xs F1 H1 m1 sv z=>by
  obtain⟨et,ns,e,hn,kk⟩:=z;subst et;subst e;obtain⟨l,vs,rfl,hl,r⟩:=sv.seq m1.st;rw[r.ints] at hl;exact⟨l,ns,rfl,AI.of hl,hn,fun m hm hy=>q _ _ F1 H1 m1 (.int _) (kk m hm hy)⟩⟩
variable {i j:Nat}{l1 l2:Bool}{t1 t2:OV}
theorem Mv.m2 {E:Ent0}{σ:L2.St}{F H F' H' F2 H2:Hp}{u1 u2:OV}(m:Mv E ss σ F H F' H')(b:R6 E ss (new u1 u2) σ t1 t2 F' H' F2 H2):R6 E ss (new u1 u2) σ t1 t2 F H F2 H2:=
 ⟨b.st,m.ff.trans b.ff,fun a o np nt e=>b.hh a o np nt (m.hh a o np e),fun a o e=>(b.nn a o e).elim (fun e=>m.nn a o e) fun e=>.inr (m.none e)⟩
theorem ZBa {c d:TT}{kk:Bool->OV->OV->Prop}(hn:new t1 t2=ss)(h:Wt ss c fun b=>if b=true then kk true t1 t2 else MS ss t1 t2 new d kk):MS ss t1 t2 new (Px c d) kk:=⟨fun E σ F H Q S go=>
 h.go E σ F H _ S fun b F1 H1 m1 z=>by
  cases b with
  | true=>
   rw[pR rfl] at z;exact go true t1 t2 F1 H1 ⟨by rw[hn];exact m1.st,m1.ff,fun a o np _ e=>m1.hh a o np e,m1.nn⟩ z
  | false=>
   rw[nr (by decide)] at z;exact z.go E σ F1 H1 _ m1.st fun b u1 u2 F2 H2 m2 k2=>go b u1 u2 F2 H2 (m1.m2 m2) k2⟩
end
def EM (ns cs:List Str):List Str:=CO (C9 ns (gr cs ns).g cs)
def Hv (n:Int)(ns:List Str)(lo:Lp):PV:=.tup [.int n,.str lo.r,.int lo.g,.tup [.int ((gr lo.cs ns).g:Nat),.tup ((EM ns lo.cs).map .str)]]
theorem ZCE (cs:List Str)(nd:ns.Nodup):(EM ns cs).length=fw cs ns:=by
 unfold EM;rw[PY,(W5 cs nd).1]
theorem ZCA (cs:List Str):(EM ns cs).length<=ns.length:=by
 unfold EM C9;rw[PY,BL];have h1:=Fq (fun x=>decide (x∈cs)) (ns.take (gr cs ns).g);have h2:=Fq (fun x=>!decide (x∈cs)) (ns.drop (gr cs ns).g);rw[Bd] at h1;rw[Cj] at h2;omega
theorem y9 (cs:List Str)(nd:ns.Nodup):Up (EM ns cs):=SE (Yq nd _ _)
theorem q8 {x:Str}(h:x∈EM ns cs):x∈ns:=ZEn (Mc.mp h)
theorem ZCz {q:PV}(nd:ns.Nodup)(h:aM ns cs q):q=.tup [.tup [.int ((gr cs ns).g:Nat),.tup ((EM ns cs).map .str)],.lst ((gr cs ns).ps.map U7)]:=by
 obtain⟨ts,pm,st,rfl⟩:=h;rw[KL (Yq nd _ _) pm st];rfl
theorem ZEg (nd:ns.Nodup)(hs:∀x∈cs,x∈ns)(xp:cs.Nodup):(C9 ns (gr cs ns).g (EM ns cs)).Perm cs:=yZ (Yq nd _ _) xp fun x=>by
 unfold EM;rw[zi nd (fun y=>Mc) x];exact⟨fun h=>h.2,fun h=>⟨hs x h,h⟩⟩
theorem vL (ns:List Str)(g:Nat)(cs:List Str):(C9 ns g cs).length<=ns.length:=by
 unfold C9;rw[BL];have h1:=Fq (fun x=>decide (x∈cs)) (ns.take g);have h2:=Fq (fun x=>!decide (x∈cs)) (ns.drop g);rw[Bd] at h1;rw[Cj] at h2;omega
def JT (ns cs:List Str)(i:Nat):List Int:=(List.range i).map fun g=>((C9 ns g cs).length:Int)
theorem yW (nd:ns.Nodup){m:Int}(h1:m∈JT ns cs (ns.length+1))(h2:∀y∈JT ns cs (ns.length+1),m<=y):m=(fw cs ns:Nat):=by
 obtain⟨g,hg,rfl⟩:=List.mem_map.mp h1;have a:=uA cs nd g;obtain⟨e,hz⟩:=W5 cs nd;have b:=h2 _ (List.mem_map.mpr ⟨(gr cs ns).g,List.mem_range.mpr (by omega),rfl⟩);rw[e] at b;omega
theorem cj {K:ZHP}(n:Int)(ns:List Str)(lo:Lp):dat K 40 (Hv n ns lo):=fun x hx=>by
 simp only[DN,B4,ya] at hx;rcases hx with rfl | rfl | rfl | rfl
 ·trivial
 ·trivial
 ·trivial
 ·intro y hy;simp only[DN,B4,ya] at hy;rcases hy with rfl | rfl
  ·trivial
  ·intro z hz;obtain⟨w,_,rfl⟩:=List.mem_map.mp hz;trivial
def SA (C:Addr):Pre:=fun l R=>∃(m:Nat) (s:Yd) (lo:Lp),l=[.is (Cz s C),.is lo.P]/\s.Ok m/\lo.Good s.row/\s.pa.length<=2000/\R=.is fun p=>p=Hv (s.fg+s.pa.length) s.row lo
def T6 (C:Addr):Pre:=fun l R=>∃(m:Nat) (s:Yd) (r:Str),l=[.is (Cz s C),.is (.str r)]/\s.Ok m/\r∈Cp/\s.pa.length<=2000/\R=.is fun p=>p=Hv (s.fg+s.pa.length) s.row ⟨r,0,CO s.row⟩
def T5 (C:Addr):Pre:=fun l R=>∃(m:Nat) (s:Yd) (x:Str) (lo:Lp),l=[.is (Cz s C),.is (.str x)]/\s.Ok m/\x∈s.ln/\s.ll[s.ln.idxOf x]?=some lo/\s.pa.length<=2000/\R=.is fun p=>p=Hv (s.fg+s.pa.length) s.row lo
def Y2:Pre:=fun l R=>∃(ns ts:List Str) (g:Nat),l=[.is (.lst (ns.map .str)),.is (.tup [.int g,.tup (ts.map .str)])]/\ns.length<=60/\R=.new fun xs=>∃us:List Str,us.Perm (C9 ns g ts)/\sortedS us=true/\xs=us.map .str
def Vj:Pre:=fun l R=>∃(ns cs:List Str),l=[.is (.lst (ns.map .str)),.is (.tup (cs.map .str))]/\ns.length<=60/\ns.Nodup/\R=.is fun p=>p=.int (fw cs ns:Nat)
def UB:Pre:=fun l R=>∃(n:Int) (ns:List Str) (lo:Lp),l=[.is (Hv n ns lo),.is (.int n),.is (.lst (ns.map .str)),.is lo.P]/\ns.length<=40/\ns.Nodup/\lo.Good ns/\R=.is fun p=>p=.bl true
def Yi (C:Addr):Pre:=fun l R=>∃(m:Nat) (s:Yd),l=[.AD,.is (Cz s C),.is (Fw s)]/\s.Ok m/\s.fg=0/\s.pa.length<=2000/\R=.is fun p=>p=.bl true
end Fz
set_option maxHeartbeats 8000000
namespace Pf
open L2 Lw
variable {w:World}{mg:ZHR}{A3 FU f:Addr}{α:Type}{NO Tx UU Yy:Tok}{l:PySem.W.OpenLaw}
abbrev St:=L2.St
def top (i:Nat):Stmt:=PySem.Challenge.pw_stirround_k64_tickets_told.main.body.getD i (.Pass ⟨0,0,0,0⟩)
abbrev Ri:Stmt:=top 15
abbrev Z2:Stmt:=top 53
abbrev Yr:Stmt:=GN (top 52) 0
abbrev T4:Stmt:=top 55
abbrev Xr:Stmt:=top 56
abbrev UJ:Stmt:=top 57
abbrev Vn:Stmt:=top 58
abbrev Sw:Stmt:=top 59
abbrev XF:Stmt:=top 60
abbrev Tv:Stmt:=top 70
abbrev YR:Stmt:=top 40
abbrev TY:Stmt:=top 34
abbrev Yf:Stmt:=GN (top 52) 4
abbrev Wr:Stmt:=GN (top 52) 6
abbrev YA:Stmt:=GN (top 52) 7
abbrev XA:Stmt:=top 20
abbrev P8:Stmt:=top 42
abbrev YX:Stmt:=top 33
abbrev X7:Stmt:=top 41
abbrev SJ:Stmt:=top 43
abbrev UM:Stmt:=top 37
abbrev Pq:Stmt:=top 45
abbrev V4:Stmt:=top 17
abbrev XH:Stmt:=top 39
abbrev Y6:Stmt:=top 35
abbrev WV:Stmt:=GN (top 52) 5
abbrev Uo:Stmt:=top 22
abbrev XS:Stmt:=top 23
abbrev To:Stmt:=top 24
abbrev WE:Stmt:=top 21
abbrev Vo:Stmt:=top 27
abbrev Yz:Stmt:=top 25
abbrev R0:Stmt:=top 26
abbrev V5:Stmt:=top 18
abbrev Tq:Stmt:=top 28
abbrev Ud:Stmt:=top 29
abbrev Yx:Stmt:=top 19
abbrev Y1:Stmt:=top 46
abbrev Xq:Stmt:=top 44
abbrev V6:Stmt:=top 38
abbrev WT:Stmt:=GN (top 52) 3
abbrev Pb:Stmt:=top 62
abbrev Xl:Stmt:=top 63
abbrev Qm:Stmt:=top 65
abbrev VX:Stmt:=top 72
abbrev XY:Stmt:=top 71
abbrev Y7:Stmt:=top 64
abbrev Om:Stmt:=top 66
abbrev Tw:Stmt:=top 61
abbrev UP:Stmt:=top 73
abbrev VF:Stmt:=GN (top 52) 2
abbrev Yc:Stmt:=top 49
abbrev O1:Stmt:=top 50
abbrev Ve:Stmt:=top 48
abbrev Wv:Stmt:=GN (top 52) 13
abbrev Xs:Stmt:=GN (top 52) 10
abbrev Xp:Stmt:=GN (top 52) 9
abbrev Pk:Stmt:=top 75
abbrev QC:Stmt:=top 76
abbrev XZ:Stmt:=top 67
abbrev Nc:Stmt:=top 77
abbrev UR:Stmt:=top 78
abbrev Vd:Stmt:=GN (top 52) 1
abbrev YE:Stmt:=GN (top 52) 8
abbrev RV:Stmt:=top 68
abbrev ZE:Stmt:=top 69
abbrev SW:Stmt:=top 74
abbrev LS:Stmt:=top 79
variable {P:Program}{K:ZHP}{base:Heap}{fd:FuncData}
def Zq {us:List α}(h:us.length=1):∃a,us=[a]:=by
 rcases us with _ | ⟨a,_ | ⟨b,us⟩⟩
 ·cases h
 ·exact⟨a,rfl⟩
 ·cases h
def ln2 {us:List α}(h:us.length=2):∃a b,us=[a,b]:=by
 rcases us with _ | ⟨a,us⟩
 ·cases h
 ·obtain⟨b,rfl⟩:=Zq (Sr h);exact⟨a,b,rfl⟩
def iE {us:List α}(h:us.length=3):∃a b c,us=[a,b,c]:=by
 rcases us with _ | ⟨a,us⟩
 ·cases h
 ·obtain⟨b,c,rfl⟩:=ln2 (Sr h);exact⟨a,b,c,rfl⟩
def fX {us:List α}(h:us.length=4):∃a b c d,us=[a,b,c,d]:=by
 rcases us with _ | ⟨a,us⟩
 ·cases h
 ·obtain⟨b,c,d,rfl⟩:=iE (Sr h);exact⟨a,b,c,d,rfl⟩
def aO {us:List α}(h:us.length=5):∃a b c d e,us=[a,b,c,d,e]:=by
 rcases us with _ | ⟨a,us⟩
 ·cases h
 ·obtain⟨b,c,d,e,rfl⟩:=fX (Sr h);exact⟨a,b,c,d,e,rfl⟩
def qL {us:List α}(h:us.length=6):∃a b c d e f,us=[a,b,c,d,e,f]:=by
 rcases us with _ | ⟨a,us⟩
 ·cases h
 ·obtain⟨b,c,d,e,f,rfl⟩:=aO (Sr h);exact⟨a,b,c,d,e,f,rfl⟩
local macro_rules | `(tactic| walk_at "bD1")=>`(tactic| (intro _ _ _ _ _ _ us hl;obtain⟨_,e⟩:=Zq hl;subst e;rfl))
local macro_rules | `(tactic| walk_at "bD2")=>`(tactic| (intro _ _ _ _ _ _ us hl;obtain⟨_,_,e⟩:=ln2 hl;subst e;rfl))
local macro_rules | `(tactic| walk_at "bD3")=>`(tactic| (intro _ _ _ _ _ _ us hl;obtain⟨_,_,_,e⟩:=iE hl;subst e;rfl))
local macro_rules | `(tactic| walk_at "bD4")=>`(tactic| (intro _ _ _ _ _ _ us hl;obtain⟨_,_,_,_,e⟩:=fX hl;subst e;rfl))
local macro_rules | `(tactic| walk_at "bD5")=>`(tactic| (intro _ _ _ _ _ _ us hl;obtain⟨_,_,_,_,_,e⟩:=aO hl;subst e;rfl))
local macro_rules | `(tactic| walk_at "bD6")=>`(tactic| (intro _ _ _ _ _ _ us hl;obtain⟨_,_,_,_,_,_,e⟩:=qL hl;subst e;rfl))
abbrev nS (K:ZHP)(x:Str)(v:Value):Prop:=PySem.W.nsIn K mainGlobals x=some (some v)
abbrev nN (K:ZHP)(x:Str):Prop:=PySem.W.nsIn K mainGlobals x=some none
open Fz
def ZWM (t:String):Lean.MacroM (Lean.TSyntax `tactic):=do
 let g:Lean.TSyntax `tactic←`(tactic| fail)
 let k←`(tactic| case wk=>rfl)
 let n (s:String):=`(tactic| walk_at $(Lean.quote s):str)
 (t.splitOn " ").foldrM (fun s r=>do
  let l:=((s.drop 1).toString.splitOn "/").map fun x=>Lean.mkIdent (`Fz++x.toName)
  let h:Lean.Ident:=l.getLast!
  let c:=s.front
  let w:=(h.getId.getString!.toLower.replace "o" "e").replace "i" "e"
  let z←if c=='j' then `($h ?wj ?wk ?_) else if c=='k'||c=='K' then `($h ?wk ?_) else `($h ?_)
  let z←l.dropLast.foldrM (fun(f:Lean.Ident) (z:Lean.Term)=>`($f ($z))) z
  let p←if c=='e' then `(tactic| show ∃_,_=$h _/\_) else if c=='s' then `(tactic| show $h _ _ _) else `(tactic| refine' $z)
  let p←if c=='K'||c=='R'||c=='j' then pure p else `(tactic| with_reducible $p:tactic)
  let q←if c=='e' then `(tactic| refine⟨_,rfl,?_⟩) else if c=='s' then n w else if c=='n' then n "wn" else if c=='p' then n "wp" else if c=='k'||c=='K' then pure k else if c=='j' then `(tactic| ((case wj=>rfl);$k:tactic)) else `(tactic| skip)
  `(tactic| first | ($p:tactic;$q:tactic) | $r:tactic)) g
local macro_rules | `(tactic| walk_at "wp")=>ZWM "kWk kDW/RN/Dd kDW/S9/Dd kDW/RN/RN/Dd kDW/S9/S9/Dd kDW/S9/RN/Dd kWk kAN rJO rEu rtq rgO rjv rpk reC rNP raY roa kZBs rNf rzk rRZ rmR rZD7 rKt rW7 riC rZEW rT2 rTa kZAb rZC2 KvU Kr8 kb9 KmO KQ6 KZCO"
local macro_rules | `(tactic| walk_at "wn")=>ZWM "rxu rqT rZD4 rpI RZAm rav KZ6 jcb"
local macro_rules | `(tactic| walk_at "wq")=>do
 let z←ZWM "kfq kzC kRt kOS"
 `(tactic| first | $z:tactic | (refine Bp (Ed ?_);walk_at "wn") | (refine Bp ?_;walk_at "wp"))
local macro_rules | `(tactic| walk_at "wz")=>`(tactic| first
 | ((with_reducible refine' aF ?wk ?_);(case wk=>rfl))
 | (with_reducible refine' wY ?_)
 | (refine J5 (Ed ?_);walk_at "wn")
 | (refine J5 ?_;walk_at "wp"))
local macro_rules | `(tactic| walk_at "wt")=>ZWM "rNk rDn rWS rEc rv7 rHf"
local macro_rules | `(tactic| walk_at "we")=>ZWM "rKa rQ2 rr6 rZAl rvB rZBu rOD"
local macro_rules | `(tactic| walk_at "w")=>do
 let z←ZWM "rBB rHz rEY rCg kbX kTH nJX pIP nWh pFu"
 let z1←ZWM "eOV.tp eOV.fz"
 let z2←ZWM "sWn sWq sWz sWt sWe sWo sWi"
 let z3←ZWM "ePV.int ePV.str ePV.bl"
 `(tactic| first | $z1:tactic | ((with_reducible show ∃_ _,_=OV.nd NK.lst _ _/\_);refine⟨_,_,rfl,?_⟩) | ((with_reducible show ∃_ _ _,_=PV.int _/\_/\_/\_);refine⟨_,_,_,rfl,rfl,rfl,?_⟩) | ((with_reducible show Wp _ _ _);first | walk_at "wp" | (refine Ed ?_;walk_at "wn")) | $z2:tactic | ((with_reducible show Ws _ _ _ _);$z:tactic) | $z3:tactic | ((with_reducible show(_:Bool)=_/\_);refine⟨rfl,?_⟩) | ((with_reducible show ∃_ _,_=PV.int _/\L2.Bf _ _=some _/\_);refine⟨_,_,rfl,rfl,?_⟩) | ((with_reducible show ∃_,(_=PV.lst _/\_)∨(_=PV.tup _/\_));first | refine⟨_,.inl ⟨rfl,?_⟩⟩|refine⟨_,.inr ⟨rfl,?_⟩⟩) | ((with_reducible show ∃_,_=List.map _ _/\_);first | refine⟨_,rfl,?_⟩|refine⟨[],rfl,?_⟩|refine⟨_,vy _ _ _ _,?_⟩|refine⟨_,ZEs _ _ _,?_⟩|refine⟨_,wm _ _,?_⟩))
local macro_rules | `(tactic| walk_at "ww")=>`(tactic| repeat walk_at "w")
local macro_rules | `(tactic| walk_at "z1")=>`(tactic| exact⟨rfl,rfl,rfl,by decide +kernel,rfl,by decide +kernel,by decide +kernel⟩)
local macro_rules | `(tactic| walk_at "z2")=>`(tactic| exact⟨rfl,by decide +kernel,by decide +kernel,rfl,rfl,by decide +kernel,by decide +kernel,by decide +kernel,by decide +kernel⟩)
def ZD1:Ak ["text"] ["text"] (AV Ri):=by walk_at "z1"
def oZ:Scope:={ kind:=.function,names:=[(".0", .local),("sign", .local),("LETTERS", .globalImplicit)],isGenerator:=false,isCoroutine:=false,more:=[] }
def ZFl:Cw ["text"] (AV Ri) oZ "sign" [] []:=by walk_at "z2"
variable (Eb:mg "all"=none)(Ag:mg "len"=none)(Yt:mg "LETTERS"=some (.str "abcdefghijklmnopqrstuvwxyz" Tx))(VU:mg "MOST_LETTERS"=some (.int 8 Yy))(Ih:A7 P w K mg base "is_name" 1 ["text"] (NC))(LR:mg "enumerate"=none)(Ly:mg "MOST_THINGS"=some (.int 40 NO))(Tp:A7 P w K mg base "check_new_row" 3 ["row"] (Ar Uu))(Bk:mg "list"=none)(Au:C3 K A3)(LW:By K A3 "forgotten")(CN:By K A3 "kept")(IB:By K A3 "past")(Ca:By K A3 "standing")(OA:A7 P w K mg base "_law_letters" 1 ["number"] (bD))(Ba:A7 P w K mg base "_law_take" 1 ["pot","many"] (IH))(Hs:A7 P w K mg base "_law_name" 2 ["pot","names"] (OQ K))(FA:mg "range"=none)(YL:A7 P w K mg base "_law_names" 3 ["pot","many"] (j4))(UE:A7 P w K mg base "_law_row" 4 ["pot","most"] (ZN))(MI:mg "RULES"=some (.ref FU))(LI:∀H,AA K H FU [.str "none", .str "ahead", .str "all"])(M4:A7 P w K mg base "check_rule" 1 ["rule"] (Pw))(BW:mg "sorted"=none)(C0:mg "tuple"=none)(Lm:A7 P w K mg base "begun" 2 ["row","rule"] (QN K))(Wd:mg "MOST_LOOPS"=some (.int 12 UU))(GJ:C6 P w K mg base A3 "loop" 1 ["self","name"] (Ar (MO A3)))(M5:mg "set"=none)(Xh:A7 P w K mg base "is_coming" 1 ["row","coming"] (kZ K))(XR:A7 P w K mg base "is_gap" 1 ["row","gap"] (ib K))(WZ:A7 P w K mg base "is_loop" 2 ["row","thing"] (jG K))(ZL:A7 P w K mg base "check_loop" 3 ["row","loop"] (fR K))(Rh:A7 P w K mg base "things_to_come" 1 ["things","loop"] (c8 K))(MB:A7 P w K mg base "coming_without" 1 ["coming","gone"] (UN K))(EX:A7 P w K mg base "place_of" 1 ["row","name"] (Jr))(YO:A7 P w K mg base "loop_telling" 2 ["row","loop","name"] (eS K))(YZ:A7 P w K mg base "rest" 4 ["row","loop"] (du K))(UQ:A7 P w K mg base "step_loops" 5 ["row","loop"] (Y8 K))(WG:A7 P w K mg base "check_move" 2 ["row","name","at"] (bz))(Xj:A7 P w K mg base "check_put" 2 ["row","name","at"] (dG))(Us:A7 P w K mg base "check_turn" 1 ["row","low","high"] (eG))(MH:mg "reversed"=none)(Yk:A7 P w K mg base "check_deed" 3 ["row","deed"] (gE))(XW:A7 P w K mg base "row_turned" 1 ["row","low","high"] (ay))(PJ:A7 P w K mg base "row_with" 1 ["row","name","at"] (iM))(Qd:A7 P w K mg base "row_without" 1 ["row","name"] (jW))(Qu:A7 P w K mg base "gap_behind_put" 1 ["gap","at"] (iS))(RG:A7 P w K mg base "gap_behind_take" 1 ["gap","place"] (bu))(WC:A7 P w K mg base "joins" 1 ["loop","at"] (kB))(Tn:A7 P w K mg base "coming_behind" 2 ["loop","deed"] (c6))(Xd:A7 P w K mg base "gap_led" 3 ["row","gap","deed"] (kf))(WM:A7 P w K mg base "done" 4 ["row","deed"] (Uz))(ZG:A7 P w K mg base "loop_led" 4 ["row","loop","deed"] (Ug))(HX:mg "int"=none)(TR:A7 P w K mg base "_law_gap" 1 ["row","gap","deed"] (fP))(V1:C6 P w K mg base A3 "act" 9 ["self","deed"] (Cu (Yn A3)))(Vu:A7 P w K mg base "_law_done" 1 ["row","deed"] (WU))(VG:A7 P w K mg base "_law_led" 2 ["row","loop","deed"] (UI))(UA:C6 P w K mg base A3 "begin" 8 ["self","name","rule"] (Cu (YD A3)))(Ui:C6 P w K mg base A3 "drop" 3 ["self","name"] (Cu (WI A3)))(V9:C6 P w K mg base A3 "step" 8 ["self","name"] (Cu (VB A3)))(YC:A7 P w K mg base "_law_acts" 10 ["yard","state","deed"] (Cu (SI A3)))(Ls:A7 P w K mg base "_law_begun" 1 ["row","rule"] (Ar Ro))(UD:A7 P w K mg base "_law_deed" 3 ["pot","row","most"] (QU))(MV:A7 P w K mg base "_law_rule" 2 ["pot"] (Ar QH))(Vk:A7 P w K mg base "_law_step" 1 ["row","loop"] (ZJ))(VT:A7 P w K mg base "check_coming" 2 ["row","coming"] (Ar Yu))(Y0:A7 P w K mg base "marks_at" 1 ["row","gap","coming"] (Ar Ya))(Kg:C6 P w K mg base A3 "count" 1 ["self"] (Ar (Q5 A3)))(XU:A7 P w K mg base "least_slip" 3 ["row","coming"] (Ar Vx))(Lk:C6 P w K mg base A3 "ticket_now" 4 ["self","loop"] (Ar (SA A3)))(M9:mg "min"=none)(W0:mg "bool"=none)(Dq:mg "isinstance"=none)(Yh:A7 P w K mg base "_law_least" 1 ["row","coming"] (Ar Vj))(VY:A7 P w K mg base "_law_shown" 1 ["row","slip"] (Ar Y2))(IE:A7 P w K mg base "_law_whole" 1 ["found"] (Ar NV))(RH:C6 P w K mg base A3 "ticket" 9 ["self","rule"] (Ar (T6 A3)))(SO:C6 P w K mg base A3 "ticket_of" 5 ["self","name"] (Ar (T5 A3)))(SF:A7 P w K mg base "_law_is_ticket" 2 ["found","count","row","loop"] (Ar UB))(Lv:mg "str"=none)(YQ:C6 P w K mg base A3 "loops" 1 ["self"] (Ar (VZ A3)))(Sz:C6 P w K mg base A3 "row" 1 ["self"] (Ar (Xe A3)))(T9:A7 P w K mg base "_law_is_loop" 2 ["found","due"] (Ar Tr))(Ry:A7 P w K mg base "_law_texts" 1 ["found"] (Ar Td))(XO:Xk P w K mg base A3 4 ["self","row"] (Cu (UY A3)))(XC:A7 P w K mg base "_law_new" 6 ["pot","most"] (Ar Yj))(Q0:A7 P w K mg base "_law_pot" 1 ["script","k"] (W9 K))(T7:A7 P w K mg base "_law_stands" 5 ["yard","state"] (Cu (Ux A3)))(Vz:A7 P w K mg base "_law_tickets" 10 ["pot","yard","state"] (Ar (Yi A3)))(Xt:A7 P w K mg base "_law_turn" 11 ["pot","yard","state","most"] (Cu (Xn A3)))(Vh:mg "max"=none)(UZ:mg "Yard"=some (.ref A3))
def oI (F:AE K "is_name" "is_name" Ri f fd)(m:mg "is_name"=some (.ref f)):
  A7 P w K mg base "is_name" 1 ["text"] (NC):=by
 refine A7.mk F (F.binds (by walk_at "bD1")) m (F.Am (k:=0) ZD1 (fun vs H Q E h=>?_) (fun AU A outer s H vs Q E hr h=>?_))
 ·obtain⟨x,rfl,hx,q⟩:=h;rfl
 obtain⟨x,rfl,hx,q⟩:=h;refine⟨_,(AB rfl (Aa (HN (aB Fd Fd A9 (An dA Ag (A0 (qv 0) A5)) (KS (v:=.int 8) (by rfl) VU ⟨_,rfl⟩)) (IJ (An (LK rfl) Eb (A0 (FK rfl ZFl (xg (qv 0)) (fun _ _ _ _=>by exact Lh) (fun _ _ _ _=>by exact(Cs nE (qv 0) (KS (v:=.str "abcdefghijklmnopqrstuvwxyz") (by rfl) Yt ⟨_,rfl⟩)))) A5)))))),?_⟩;refine⟨_,rfl,_,rfl,small (by omega),_,_,rfl,rfl,_,rfl,?_⟩;refine B5 (fun c=>?_) (fun c=>⟨_,rfl,DS ?_⟩)
 ·refine⟨_,_,rfl,rfl,_,rfl,?_⟩;refine B5 (fun c2=>?_) (fun c2=>?_)
  ·refine⟨_,rfl,x,rfl,fun acc Ax=>zQ (fun _=>true) Zr Ax (by rw[<- GO,<- HG];exact small (by omega)) (fun i v H' Q' _ _ h=>h H' (A8.refl _)) (fun i v H' Q' hv _ _ h=>?_) (fun H' s1 e1=>?_)⟩
   ·obtain⟨cc,rfl⟩:=signs_get hv;exact⟨_,rfl,_,_,rfl,rfl,h H' (A8.refl _)⟩
   ·rw[tW] at e1;refine⟨acc,_,rfl,AI.of e1,?_⟩;rw[all_map];have e:isNm x=x.cps.toList.all Q8:=by unfold isNm;rw[c,c2];rfl
    rw[<- e];exact q H' s1
  ·have e:isNm x=false:=by unfold isNm;rw[Bool.eq_false_iff.mpr c2];simp
   rw[<- e];exact q H (A8.refl _)
 ·have e:isNm x=false:=by unfold isNm;rw[Bool.eq_false_iff.mpr c];simp
  rw[<- e];exact q H (A8.refl _)
def SX:Ak ["row","name","place"] ["row"] (AV Z2):=by walk_at "z1"
def gZ : ∀ss R,Uu ss R->ss.length=1:=by rintro _ _ ⟨ns,rfl,_,rfl⟩;rfl
def ZCc (F:AE K "check_new_row" "check_new_row" Z2 f fd)(m:mg "check_new_row"=some (.ref f)):
  A7 P w K mg base "check_new_row" 3 ["row"] (Ar Uu):=by
 refine A7.mk F (F.binds (by walk_at "bD1")) m (F.Am (k:=2) SX (fun vs H Q E h=>Fz.DG gZ h) (fun AU A outer s H vs Q E hr h=>?_))
 refine⟨_,(AG rfl (Cq (HF Gz rfl (ED (qv 0)) (D0 1 SX.nd) (AB rfl (Ap (Cd (DV (AQ Ih hr (A0 (qv 1) A5)))) (AB rfl E5) Ay))))
   (AG rfl (Cq (HF Gz rfl (o4 rfl LR (A0 (qv 0) A5)) (MF rfl (FP (D0 2 SX.nd) (FP (D0 1 SX.nd) MG))) (AB rfl (Ap (Ae FJ (qv 1) (Dh JL (qv 0) EG (DK (qv 2)))) (AB rfl E5) Ay))))
   (AB rfl (Ap (Ae Sy (An EI Ag (A0 (qv 0) A5)) (KS (v:=.int 40) (by rfl) Ly ⟨_,rfl⟩)) (AB rfl E5) Ay)))),?_⟩
 refine Fz.DE h gZ ?_;rintro _ _ ⟨ns,rfl,hR,rfl⟩;show Ws [_,.any,.any] _ _ _;refine BB (Hz (Hx (fun _ i AL=>∃s1 s2:Slot,AL=[.is (.lst (ns.map .str)),s1,s2]) (OD (J5 (AN rfl ⟨_,.inl ⟨rfl,?_⟩⟩)))));refine⟨⟨_,_,rfl⟩,?_,?_⟩
 ·rintro k p AL hp ⟨s1,s2,rfl⟩;rw[Az] at hp;obtain⟨x,ex,rfl⟩:=Option.map_eq_some_iff.mp hp;refine K2 ?_;have hx:=hR.nm x (DD ex);refine EY (Ec (Dn (fc (AN rfl ⟨x,rfl,(cE hx).2,_,rfl,?_⟩))));rw[X9 hx];exact BM (by decide) (Cg ⟨_,_,rfl⟩)
 ·rintro AL ⟨s1,s2,rfl⟩;refine BB (Hz (Hx (fun _ i AL=>∃s1 s2:Slot,AL=[.is (.lst (ns.map .str)),s1,s2]) (pb (J5 (AN rfl ⟨_,.inl ⟨rfl,rfl,?_⟩⟩)))));refine⟨⟨_,_,rfl⟩,?_,?_⟩
  ·rintro k q AL hq ⟨s1,s2,rfl⟩;obtain⟨x0,hx,rfl⟩:=jD hq;rw[Az] at hx;obtain⟨x,ex,rfl⟩:=Option.map_eq_some_iff.mp hx;have hk:=(List.getElem?_eq_some_iff.mp ex).1;refine Z9 ⟨_,_,rfl,?_⟩
   walk_at "ww"
   rw[tU (LB hk)];refine B5 (fun c=>?_) (fun c=>Cg ⟨_,_,rfl⟩);exact absurd (qH c) (uQ hR.nd ex)
  ·rintro AL ⟨s1,s2,rfl⟩
   walk_at "ww"
   rw[AX];have:=hR.len;exact BM (fun z=>by have:=qH z;omega) (Cg ⟨_,rfl,rfl⟩)
def ZEi:Ak ["self","row"] ["self","row"] (AV Yr):=by walk_at "z1"
def b7:∀ss R,(UY A3) ss R->ss.length=2:=by rintro _ _ ⟨a,dx,ns,rfl,_,rfl⟩;rfl
def ZEJ (F:AE K "__init__" "Yard.__init__" Yr f fd)(mt:Mk K A3 f):
  Xk P w K mg base A3 4 ["self","row"] (Cu (UY A3)):=by
 refine⟨f,fd,F.Am (k:=3) ZEi (fun vs H Q E h=>Fz.Jg b7 h) (fun AU A outer s H vs Q E hr h=>?_),(F.binds (by walk_at "bD2")),mt⟩
 refine⟨_,(AG rfl (Cf (AQ Tp hr (A0 (qv 1) A5)))
   (AG rfl (O2 (qv 0) (Cr JH Bk (A0 (qv 1) A5)))
   (AG rfl (O2 (qv 0) dk)
   (AG rfl (O2 (qv 0) (EH A5))
   (AB rfl (O2 (qv 0) A9)))))),?_⟩
 refine Fz.Rz h b7 ?_;rintro _ _ ⟨a,dx,ns,rfl,hR,rfl⟩;show Ws [_,_] _ _ _;refine BB (O7 (wp_call (Br (AN rfl (Bm ⟨_,⟨ns,rfl,hR,rfl⟩,fun p hp=>?_⟩)))));refine BB (Mp (i:=0) (FX (Ed (Z6 rfl (Bp (AN rfl ⟨_,.inl ⟨rfl,Dd rfl ⟨true,A3,dx,_,a,_,rfl,rfl,Au,Ca,by decide,B4,?_⟩⟩⟩))))));rw[OV.GK];show Ws [.ow true (.nd (.obj A3 dx ["standing"]) a [.fz (.lst (ns.map .str))]),_] _ _ _;refine BB (Mp (i:=0) (gS fun b2=>Dd rfl ⟨true,A3,dx,_,a,_,rfl,rfl,Au,CN,by decide,B4,?_⟩));rw[OV.GK];show Ws [.ow true (.nd (.obj A3 dx ["standing","kept"]) a [.fz (.lst (ns.map .str)),.nd (.Aq []) b2 []]),_] _ _ _;refine BB (Mp (i:=0) (gi (Yo ⟨by decide,fun b3=>Dd rfl ⟨true,A3,dx,_,a,_,rfl,rfl,Au,IB,by decide,B4,?_⟩⟩)));rw[OV.GK];show Ws [.ow true (.nd (.obj A3 dx ["standing","kept","past"]) a [.fz (.lst (ns.map .str)),.nd (.Aq []) b2 [],.nd .lst b3 []]),_] _ _ _;refine Mp (i:=0) (FX (JO (Dd rfl ⟨true,A3,dx,_,a,_,rfl,rfl,Au,LW,by decide,B4,?_⟩)));rw[OV.GK];exact⟨_,_,_,_,rfl,rfl,rfl,b2,b3,rfl⟩
def Nu:Ak ["script","k","cell","rest_here"] ["script","k"] (AV T4):=by walk_at "z1"
def qf (F:AE K "_law_pot" "_law_pot" T4 f fd)(m:mg "_law_pot"=some (.ref f)):
  A7 P w K mg base "_law_pot" 1 ["script","k"] (W9 K):=by
 refine A7.mk F (F.binds (by walk_at "bD2")) m (F.Am (k:=0) Nu (fun vs H Q E h=>?_) (fun AU A outer s H vs Q E hr h=>?_))
 ·obtain⟨a,ns,k,rfl,hS,k0,k1,q⟩:=h;rfl
 obtain⟨a,ns,k,rfl,hS,k0,k1,q⟩:=h;refine⟨_,(AG rfl (B3 2 Nu.nd A9)
   (AG rfl (Cq (Ap (Ae GY (qv 1) (An EE Ag (A0 (qv 0) A5))) (AB rfl (B3 2 Nu.nd (B2 J9 (AM DQ (qv 0) (qv 1)) (B2 Jx (B2 Jx (B2 Jx (B2 MW A9 A9) (B2 MW A9 A9)) (B2 MW A9 A9)) (B2 MW A9 A9))))) Ay))
   (AG rfl (B3 3 Nu.nd A9)
   (AG rfl (Cq (Ap (Ae J8 (qv 2) (B2 MW A9 A9)) (AB rfl (B3 3 Nu.nd (qv 2))) Ay))
   (AB rfl (Aa (EH (A0 (qv 3) (A0 (B2 J9 (B2 Jx (B2 Dt (B2 Dt (B2 J9 (qv 2) A9) (B2 Jx A9 (qv 1))) A9) A9) A9) A5))))))))),?_⟩
 have hl:(ns.map V.int).length=ns.length:=AX _;refine⟨fun σ' H'=>∃c:Int,σ'=[some (.ref a),some (.int k),some (.int c),none]/\H=H'/\0<=c/\c<10 ^ 256,?_,?_⟩
 ·refine⟨_,rfl,_,rfl,a,_,rfl,.inl hS,_,_,rfl,rfl,_,rfl,?_⟩;refine B5 (fun c=>?_) (fun c=>?_)
  ·have c':k<(((ns.map V.int).length:Nat):Int):=qH c;rw[hl] at c';have hk:k.toNat<ns.length:=by omega
   have hv:Bf (ns.map V.int) k=some (.int ns[k.toNat]):=Oe k0 (by rw[Az,B9 hk] <;> rfl)
   refine⟨_,rfl,_,rfl,a,_,_,_,rfl,rfl,hS,hv,_,_,rfl,rfl,⟨by decide,by decide,by decide +kernel⟩,_,_,rfl,rfl,⟨by decide,by decide,by decide +kernel⟩,_,_,rfl,rfl,⟨by decide +kernel,by decide +kernel⟩,_,_,rfl,rfl,⟨by decide,by decide,by decide +kernel⟩,_,_,rfl,rfl,⟨by decide +kernel,by decide +kernel⟩,
    _,_,rfl,rfl,⟨by decide,by decide,by decide +kernel⟩,_,_,rfl,rfl,⟨by decide +kernel,by decide +kernel⟩,_,_,rfl,rfl,(by show(0:Int)<_;decide +kernel),?_⟩
   exact⟨_,rfl,rfl,L9 _ (by decide +kernel),L8 _ (by decide +kernel)⟩
  ·exact⟨0,rfl,rfl,by decide,by decide +kernel⟩
 rintro σ' H' ⟨c,rfl,rfl,c0,c1⟩;refine⟨fun σ' H'=>∃d:Int,σ'=[some (.ref a),some (.int k),some (.int c),some (.int d)]/\H=H'/\0<=d/\d<10 ^ 256,?_,?_⟩
 ·refine⟨_,rfl,_,_,rfl,rfl,⟨by decide,by decide,by decide +kernel⟩,_,_,rfl,rfl,_,rfl,?_⟩;refine B5 (fun _=>?_) (fun _=>?_)
  ·exact⟨_,rfl,c,rfl,rfl,c0,c1⟩
  ·exact⟨0,rfl,rfl,by decide,by decide +kernel⟩
 rintro σ' H' ⟨d,rfl,rfl,d0,d1⟩;have e0:0<=c % 2147483629:=L9 _ (by decide);have e1:c % 2147483629<2147483629:=L8 _ (by decide);refine⟨_,rfl,_,rfl,_,_,rfl,rfl,(by show(0:Int)<2147483629;decide),_,rfl,_,_,rfl,rfl,⟨by decide +kernel,MX (by omega) (by omega)⟩,_,_,rfl,rfl,_,_,rfl,rfl,_,_,rfl,rfl,⟨MX (by omega) (by omega),by decide +kernel⟩,_,_,rfl,rfl,(by show(0:Int)<2147483647;decide),?_⟩;refine⟨(by show 2<=sizeLine;decide),fun p hp=>?_⟩;exact q p _ hp (Ab hp _) ⟨d,_,AH,d0,d1,L9 _ (by decide),L8 _ (by decide)⟩
def iJ:Ak ["pot","many","found"] ["pot","many"] (AV Xr):=by walk_at "z1"
def zt (F:AE K "_law_take" "_law_take" Xr f fd)(m:mg "_law_take"=some (.ref f)):
  A7 P w K mg base "_law_take" 1 ["pot","many"] (IH):=by
 refine A7.mk F (F.binds (by walk_at "bD2")) m (F.Am (k:=0) iJ (fun vs H Q E h=>?_) (fun AU A outer s H vs Q E hr h=>?_))
 ·obtain⟨p,m,rfl,⟨a,b,hp,a0,a1,b0,b1⟩,m0,m1,q⟩:=h;rfl
 obtain⟨p,m,rfl,⟨a,b,hp,a0,a1,b0,b1⟩,m0,m1,q⟩:=h;refine⟨_,(AG rfl (Ap (Ae Sy (AM DQ (qv 0) A9) A9) (AG rfl (B3 2 iJ.nd (B2 J9 (AM DQ (qv 0) A9) (qv 1)))
   (AG rfl (LN (B2 Vy (AM DQ (qv 0) A9) (qv 1)) (eR (qv 0) A9 set_list))
   (AB rfl (Aa (qv 2))))) Ay)
   (AG rfl (LN (B2 J9 (B2 Dt (B2 Jx (AM DQ (qv 0) A9) A9) A9) A9) (eR (qv 0) A9 set_list))
   (AB rfl (Aa (B2 J9 (B2 Vy (B2 J9 (B2 Jx (AM DQ (qv 0) A9) (AM DQ (qv 0) A9)) A9) A9) (qv 1)))))),?_⟩
 refine⟨_,rfl,p,_,_,_,rfl,rfl,AI.of hp,rfl,_,_,rfl,rfl,_,rfl,?_⟩;refine B5 (fun c=>?_) (fun c=>?_)
 ·have c':0<a:=qH c;refine⟨_,rfl,p,_,_,_,rfl,rfl,AI.of hp,rfl,_,rfl,_,_,rfl,rfl,m0,?_⟩;refine⟨_,rfl,p,_,_,_,rfl,rfl,AI.of hp,rfl,_,rfl,_,_,rfl,rfl,⟨m0,MX (by omega) (by omega)⟩,?_⟩;refine⟨_,rfl,p,_,_,_,rfl,rfl,hp,rfl,?_⟩;refine⟨_,rfl,?_⟩;refine q _ _ (L9 _ (by omega)) (L8 _ m0) ⟨⟨a / m,b,AH,Int.ediv_nonneg a0 (by omega),ZFu (Int.ediv_le_self _ a0) a1,b0,b1⟩,G7.upd⟩
 ·refine⟨_,rfl,p,_,_,_,rfl,rfl,AI.of hp,rfl,_,_,rfl,rfl,⟨MX (by omega) (by omega),by decide +kernel⟩,_,_,rfl,rfl,_,_,rfl,rfl,(by show(0:Int)<2147483647;decide),?_⟩;refine⟨_,rfl,p,_,_,_,rfl,rfl,hp,rfl,?_⟩;have gz:0<=(b * 69621+12345) % 2147483647:=L9 _ (by decide);have jU:(b * 69621+12345) % 2147483647<2147483647:=L8 _ (by decide);generalize hb:(b * 69621+12345) % 2147483647=b' at gz jU;have Pp:(upd H p (.lst [.int a,.int ((b * 69621+12345) % 2147483647)])) p=some (.lst [.int a,.int b']):=by rw[AH,hb]
  refine⟨_,rfl,p,_,_,_,rfl,rfl,AI.of Pp,rfl,_,rfl,p,_,_,_,rfl,rfl,AI.of Pp,rfl,_,_,rfl,rfl,⟨MX (by omega) (by omega),MX (by omega) (by omega)⟩,_,_,rfl,rfl,(by show(0:Int)<2147483629;decide),?_⟩;refine⟨_,_,rfl,rfl,⟨(by show(0:Int)<64;decide),by decide +kernel⟩,_,rfl,_,_,rfl,rfl,m0,?_⟩;exact q _ _ (L9 _ (by omega)) (L8 _ m0) ⟨⟨a,b',Pp,a0,a1,gz,jU⟩,G7.upd⟩
def RP:Ak ["number","word"] ["number"] (AV UJ):=by walk_at "z1"
def ZCB (F:AE K "_law_letters" "_law_letters" UJ f fd)(m:mg "_law_letters"=some (.ref f)):
  A7 P w K mg base "_law_letters" 1 ["number"] (bD):=by
 refine A7.mk F (F.binds (by walk_at "bD1")) m (F.Am (k:=0) RP (fun vs H Q E h=>?_) (fun AU A outer s H vs Q E hr h=>?_))
 ·obtain⟨r,rfl,r0,r1,q⟩:=h;rfl
 obtain⟨r,rfl,r0,r1,q⟩:=h;refine⟨_,(AG rfl (B3 1 RP.nd Ac)
   (AG rfl (Cq (dD Gz (Ds (Ae C2 (qv 1) Ac) (Fp (Ae Sy (qv 0) A9))).pt (AG rfl (B3 1 RP.nd (B2 aQ (qv 1) (AM pY Ac (B2 J9 (qv 0) A9))))
   (AB rfl (B3 0 RP.nd (B2 Vy (qv 0) A9))))))
   (AB rfl (Aa (qv 1))))),?_⟩
 obtain⟨n,rfl⟩:=GQ r0;have hn:n<26 ^ 8:=by omega
 rw[Jo] at q;refine⟨fun σ' H'=>∃v,σ'=[some v,some (.str (Cy (MA.lets n)))]/\H=H',?_,?_⟩
 ·refine⟨fun m σ' H'=>∃(k:Nat) (pre:List Nat),σ'=[some (.int k),some (.str (Cy pre))]/\H=H'/\((pre=[]/\k=n/\m=n+2)∨(pre≠[]/\m=k+1/\(0<k->pre++MA.lets k=MA.lets n)/\(k=0->pre=MA.lets n))),⟨n+2,n,[],rfl,rfl,.inl ⟨rfl,rfl,rfl⟩⟩,?_⟩;rintro m σ' H' ⟨k,pre,rfl,rfl,hI⟩;refine⟨_,rfl,rfl,_,rfl,?_⟩;refine B5 (fun c=>Mx ?_) (fun c=>⟨_,rfl,_,_,rfl,rfl,_,rfl,?_⟩)
  ·have hp:pre=[]:=Zp.mp (qH c);obtain⟨_,hk,hm⟩|⟨h,_⟩:=hI
   ·have he:pre++MA.lets k=MA.lets n:=by rw[hp,hk];rfl
    have hlen:pre.length+1<=8:=by
     have h1:=uC List.length he;rw[BL] at h1;have h2:=MA.QD 7 n hn;have h3:=MA.X0 k;omega
    refine⟨fun σ' H'=>σ'=[some (.int ((k:Int) / 26)),some (.str (Cy pre++⟨#[97+((k:Int) % 26).toNat]⟩))]/\H=H',?_,?_⟩
    ·rintro σ' H' ⟨rfl,rfl⟩;have nx:=jR he;have e1:((k:Int) % 26).toNat=k % 26:=by omega
     have e2:(k:Int) / 26=((k / 26:Nat):Int):=by omega
     exact⟨k / 26+1,by omega,k / 26,pre++[97+k % 26],by rw[e1,e2,ba],rfl,.inr ⟨by simp,rfl,nx.1,nx.2⟩⟩
    ·refine⟨_,rfl,_,rfl,_,_,rfl,rfl,(by show(0:Int)<26;decide),_,_,_,rfl,rfl,(by decide +kernel),jP (L9 _ (by decide)) (L8 _ (by decide)),_,_,rfl,rfl,?_,?_⟩
     ·rw[Rw];exact small (show pre.length+1<=_ by omega)
     ·exact⟨_,rfl,_,_,rfl,rfl,⟨(by show(0:Int)<26;decide),by decide +kernel⟩,rfl,rfl⟩
   ·exact absurd hp h
  ·have hp:pre≠[]:=fun h=>c (nV (Zp.mpr h));obtain⟨h,_⟩|⟨_,hm,h1,h2⟩:=hI
   ·exact absurd h hp
   refine B5 (fun c2=>?_) (fun c2=>?_)
   ·have hk:0<k:=by have:(0:Int)<k:=qH c2;omega
    have he:=h1 hk;have hlen:pre.length+1<=8:=by
     have h1:=uC List.length he;rw[BL] at h1;have h2:=MA.QD 7 n hn;have h3:=MA.X0 k;omega
    refine⟨fun σ' H'=>σ'=[some (.int ((k:Int) / 26)),some (.str (Cy pre++⟨#[97+((k:Int) % 26).toNat]⟩))]/\H=H',?_,?_⟩
    ·rintro σ' H' ⟨rfl,rfl⟩;have nx:=jR he;have e1:((k:Int) % 26).toNat=k % 26:=by omega
     have e2:(k:Int) / 26=((k / 26:Nat):Int):=by omega
     exact⟨k / 26+1,by omega,k / 26,pre++[97+k % 26],by rw[e1,e2,ba],rfl,.inr ⟨by simp,rfl,nx.1,nx.2⟩⟩
    ·refine⟨_,rfl,_,rfl,_,_,rfl,rfl,(by show(0:Int)<26;decide),_,_,_,rfl,rfl,(by decide +kernel),jP (L9 _ (by decide)) (L8 _ (by decide)),_,_,rfl,rfl,?_,?_⟩
     ·rw[Rw];exact small (show pre.length+1<=_ by omega)
     ·exact⟨_,rfl,_,_,rfl,rfl,⟨(by show(0:Int)<26;decide),by decide +kernel⟩,rfl,rfl⟩
   ·have hk:k=0:=by
     have:¬ (0:Int)<k:=fun z=>c2 (nV z);omega
    exact⟨_,by rw[h2 hk],rfl⟩
 ·rintro σ' H' ⟨v,rfl,rfl⟩;exact⟨_,rfl,q⟩
def GA:Ak ["pot","names","some","way","name","number"] ["pot","names"] (AV Vn):=by walk_at "z1"
def nq (F:AE K "_law_name" "_law_name" Vn f fd)(m:mg "_law_name"=some (.ref f)):
  A7 P w K mg base "_law_name" 2 ["pot","names"] (OQ K):=by
 refine A7.mk F (F.binds (by walk_at "bD2")) m (F.Am (k:=1) GA (fun vs H Q E h=>?_) (fun AU A outer s H vs Q E hr h=>?_))
 ·obtain⟨p,q,ns,rfl,hp,hS,Af,hN,hL,K1⟩:=h;rfl
 obtain⟨p,q,ns,rfl,hp,hS,Af,hN,hL,K1⟩:=h;refine⟨_,(AG rfl (B3 2 GA.nd (Bv (A0 Ac (A0 Ac (A0 Ac (A0 Ac (A0 Ac (A0 Ac (A0 Ac (A0 Ac (A0 Ac (A0 Ac (A0 Ac (A0 Ac (A0 Ac A5)))))))))))))))
   (AG rfl (B3 3 GA.nd (AQ Ba hr (A0 (qv 0) (A0 A9 A5))))
   (AG rfl (B3 4 GA.nd (AM AZ (qv 2) (AQ Ba hr (A0 (qv 0) (A0 A9 A5)))))
   (AG rfl (Cq (Ap (Ae C2 (qv 3) A9) (AB rfl (B3 4 GA.nd (AQ OA hr (A0 (AQ Ba hr (A0 (qv 0) (A0 (B2 QV (B2 MW A9 A9) A9) A5))) A5)))) Ay))
   (AG rfl (Cq (Ap (Hr (Ae C2 (qv 3) A9) (IM (Ae (K9 hr.FN) (qv 1) (EH A5)))).pt (AG rfl (B3 4 GA.nd (AM DQ (qv 1) (AQ Ba hr (A0 (qv 0) (A0 (An EE Ag (A0 (qv 1) A5)) A5)))))
   (AB rfl (B3 4 GA.nd (Dh fA (B2 aQ (qv 4) (AQ OA hr (A0 (AQ Ba hr (A0 (qv 0) (A0 A9 A5))) A5))) EG (DK A9))))) Ay))
   (AG rfl (Cq (Ap (Hr (Ae C2 (qv 3) A9) (IM (Ae (K9 hr.FN) (qv 1) (EH A5)))).pt (AG rfl (B3 4 GA.nd (AM DQ (qv 1) (AQ Ba hr (A0 (qv 0) (A0 (An EE Ag (A0 (qv 1) A5)) A5)))))
   (AB rfl (B3 4 GA.nd (Dh fA (qv 4) EG (DK (B2 Dt A9 (AQ Ba hr (A0 (qv 0) (A0 (An dA Ag (A0 (qv 4) A5)) A5))))))))) Ay))
   (AG rfl (B3 5 GA.nd A9)
   (AG rfl (Cq (dD Gz (Ae FJ (qv 4) (qv 1)) (AG rfl (B3 4 GA.nd (AQ OA hr (A0 (qv 5) A5)))
   (AB rfl (B3 5 GA.nd (B2 Dt (qv 5) A9))))))
   (AB rfl (Aa (qv 4))))))))))),?_⟩
 have hl:(ns.map V.str).length=ns.length:=AX _;refine⟨(by show 13<=sizeLine;decide +kernel),fun sm Ez=>?_⟩;have Fj:sm≠p:=by
  obtain⟨_,_,e,_⟩:=hp;exact(EU e Ez).symm
 have g0:BK p H (upd H sm (.tup Qg)):=BK.of hp (Ab Ez _);refine⟨_,rfl,p,4,rfl,g0.AD,by decide,by decide,fun way H1 w0 w1 s1=>?_⟩;refine⟨_,rfl,_,rfl,p,13,rfl,s1.AD,by decide,by decide,fun i H2 i0 i1 s2=>?_⟩;have h2:H2 sm=some (.tup Qg):=s2.at' (s1.at' AH Fj) Fj;obtain⟨x,hx,nx⟩:=ZAh i0 i1;refine⟨sm,_,_,_,rfl,rfl,AA.of h2,hx,?_⟩;have g2:=g0.trans (s1.trans s2);refine⟨fun σ' H'=>∃x,σ'=[some (.ref p),some (.ref q),some (.ref sm),some (.int way),some (.str x),none]/\Nm x/\BK p H H',?_,?_⟩
 ·refine⟨_,rfl,rfl,_,rfl,?_⟩;refine B5 (fun c=>?_) (fun c=>?_)
  ·refine⟨_,rfl,_,_,rfl,rfl,⟨by decide,by decide,by decide +kernel⟩,_,_,rfl,rfl,p,_,rfl,g2.AD,ZDU,ZAE,fun r H3 r0 r1 s3=>?_⟩;have r2:r<26 ^ 8:=Int.lt_trans r1 ng;exact⟨r,rfl,r0,r2,_,rfl,VL (gJ r0 r2),g2.trans s3⟩
  ·exact⟨x,rfl,nx,g2⟩
 clear h2 hx nx s2 g2 i0 i1;rintro σ' H3 ⟨y,rfl,ny,g3⟩;refine⟨fun σ' H'=>∃x,σ'=[some (.ref p),some (.ref q),some (.ref sm),some (.int way),some (.str x),none]/\Nm x/\BK p H H',?_,?_⟩
 ·refine⟨_,rfl,rfl,_,rfl,?_⟩;refine B5 (fun c=>?_) (fun c=>DS ⟨y,rfl,ny,g3⟩);refine⟨_,rfl,(by show 0<=sizeLine;decide),fun e he=>?_⟩;have g4:=g3.trans (BK.of g3.AD (Ab he (.lst [])));have OX:=g4.NZ hS Af;refine⟨q,e,_,[],rfl,rfl,.inl ⟨OX,AI.of AH⟩,EF ns,rfl,_,rfl,?_⟩;rw[LM];refine B5 (fun c2=>?_) (fun c2=>⟨y,rfl,ny,g4⟩);have Ht:0<ns.length:=by
   cases ns with
   | nil=>simp at c2
   | cons a r=>simp
  refine⟨_,rfl,_,rfl,_,rfl,q,_,rfl,.inl OX,p,_,rfl,g4.AD,(by rw[hl];omega),(by rw[hl];omega),fun i H5 i0 i1 s5=>?_⟩;rw[hl] at i1;have g5:=g4.trans s5;obtain⟨z,hz,Tc,_⟩:=ON i0 i1;have nz:=hN z Tc;refine⟨q,_,_,_,rfl,rfl,g5.NZ hS Af,hz,?_⟩;refine⟨_,rfl,_,rfl,p,26,rfl,g5.AD,by decide,by decide,fun r H6 r0 r1 s6=>?_⟩;have g6:=g5.trans s6;have r2:r<26 ^ 8:=Int.lt_trans r1 vc;refine⟨r,rfl,r0,r2,?_⟩;have nl:=VL (n:=r.toNat) (gJ r0 r2);have hlen:z.length+(Cy (MA.lets r.toNat)).length<=16:=by have:=nz.2.1;have:=nl.2.1;omega
  refine⟨_,_,rfl,rfl,small (by omega),?_⟩;refine⟨_,rfl,_,rfl,small (by rw[dZ];omega),?_⟩;refine⟨_,rfl,fF (by decide) (by decide) (by rw[dZ];have:=nz.1;omega) (fun c hc=>?_),g6⟩;rw[dC] at hc;rcases List.mem_append.mp hc with hc | hc
  ·exact nz.2.2 c hc
  ·exact nl.2.2 c hc
 clear ny g3;rintro σ' H3 ⟨y,rfl,ny,g3⟩;refine⟨fun σ' H'=>∃x,σ'=[some (.ref p),some (.ref q),some (.ref sm),some (.int way),some (.str x),none]/\Nm x/\BK p H H',?_,?_⟩
 ·refine⟨_,rfl,rfl,_,rfl,?_⟩;refine B5 (fun c=>?_) (fun c=>DS ⟨y,rfl,ny,g3⟩);refine⟨_,rfl,(by show 0<=sizeLine;decide),fun e he=>?_⟩;have g4:=g3.trans (BK.of g3.AD (Ab he (.lst [])));have OX:=g4.NZ hS Af;refine⟨q,e,_,[],rfl,rfl,.inl ⟨OX,AI.of AH⟩,EF ns,rfl,_,rfl,?_⟩;rw[LM];refine B5 (fun c2=>?_) (fun c2=>⟨y,rfl,ny,g4⟩);have Ht:0<ns.length:=by
   cases ns with
   | nil=>simp at c2
   | cons a r=>simp
  refine⟨_,rfl,_,rfl,_,rfl,q,_,rfl,.inl OX,p,_,rfl,g4.AD,(by rw[hl];omega),(by rw[hl];omega),fun i H5 i0 i1 s5=>?_⟩;rw[hl] at i1;have g5:=g4.trans s5;obtain⟨z,hz,Tc,_⟩:=ON i0 i1;have nz:=hN z Tc;refine⟨q,_,_,_,rfl,rfl,g5.NZ hS Af,hz,?_⟩;have yF:=nz.1;have nz2:=nz.2.1;refine⟨_,rfl,_,rfl,_,rfl,_,rfl,small (by omega),p,_,rfl,g5.AD,(by omega),(by omega),fun r H6 r0 r1 s6=>?_⟩;refine⟨_,_,rfl,rfl,_,rfl,_,rfl,small (by omega),?_⟩;exact⟨_,rfl,fF (by omega) (by omega) yF nz.2.2,g5.trans s6⟩
 clear ny g3;rintro σ' H3 ⟨y,rfl,ny,g3⟩;refine⟨fun σ' H'=>∃x v,σ'=[some (.ref p),some (.ref q),some (.ref sm),some (.int way),some (.str x),some v]/\Nm x/\x∉ns/\H3=H',?_,?_⟩
 ·refine⟨fun m σ' H'=>∃(k:Nat) (x:Str),σ'=[some (.ref p),some (.ref q),some (.ref sm),some (.int way),some (.str x),some (.int k)]/\H3=H'/\Nm x/\m=ns.length+1 - k/\k<=ns.length+1/\(0<k->x=Cy (MA.lets (k - 1)))/\(∀j,j+1<k->Cy (MA.lets j)∈ns),
   ⟨ns.length+1,0,y,rfl,rfl,ny,rfl,CH _,fun h=>absurd h (by decide),fun j h=>absurd h (by omega)⟩,?_⟩
  rintro m σ' H' ⟨k,x,rfl,rfl,nx,rfl,hk,hx,hj⟩;refine⟨_,rfl,_,rfl,q,_,rfl,.inl (g3.NZ hS Af),rfl,EF ns,_,rfl,?_⟩;rw[nr (by decide),J6];refine B5 (fun c=>?_) (fun c=>⟨x,_,rfl,nx,fun z=>c (nV z),rfl⟩);have Tz:x∈ns:=qH c;have JR:∀j,j<k->Cy (MA.lets j)∈ns:=fun j Jn=>by
   by_cases e:j+1<k
   ·exact hj j e
   ·have e2:j=k - 1:=by omega
    rw[e2,<- hx (by omega)];exact Tz
  have nM:=ZAk JR;refine⟨fun σ' H'=>σ'=[some (.ref p),some (.ref q),some (.ref sm),some (.int way),some (.str (Cy (MA.lets k))),some (.int ((k:Int)+1))]/\H3=H',?_,?_⟩
  ·rintro σ' H' ⟨rfl,rfl⟩;exact⟨ns.length+1 - (k+1),by omega,k+1,Cy (MA.lets k),rfl,rfl,VL (Hm (CZ nM hL) ZEF),rfl,by omega,fun _=>rfl,fun j Jn=>JR j (by omega)⟩
  ·refine⟨_,rfl,k,rfl,by omega,?_,?_⟩
   ·have:(k:Int)<=1000:=by omega
    exact ZFu this xK
   ·rw[Jo];exact⟨_,rfl,_,_,rfl,rfl,rfl,rfl⟩
 rintro σ' H' ⟨x,v,rfl,nx,hx,rfl⟩;exact⟨_,rfl,K1 x H3 nx hx g3⟩
def XQ:Ak ["pot","many","names","k"] ["pot","many"] (AV Sw):=by walk_at "z1"
def ZE6 (F:AE K "_law_names" "_law_names" Sw f fd)(m:mg "_law_names"=some (.ref f)):
  A7 P w K mg base "_law_names" 3 ["pot","many"] (j4):=by
 refine A7.mk F (F.binds (by walk_at "bD2")) m (F.Am (k:=2) XQ (fun vs H Q E h=>?_) (fun AU A outer s H vs Q E hr h=>?_))
 ·obtain⟨p,m,rfl,hp,m0,m1,q⟩:=h;rfl
 obtain⟨p,m,rfl,hp,m0,m1,q⟩:=h;refine⟨_,(AG rfl (B3 2 XQ.nd (EH A5))
   (AG rfl (Cq (HF Gz rfl (LY rfl FA (A0 (qv 1) A5)) (D0 3 XQ.nd) (AB rfl (Cf (FT GR LF LG JA (qv 2) (A0 (AQ Hs hr (A0 (qv 0) (A0 (qv 2) A5))) A5))))))
   (AB rfl (Aa (qv 2))))),?_⟩
 refine⟨(by show 0<=sizeLine;decide),fun l hl=>?_⟩;have Af:=hp.ne hl;refine⟨fun σ' H'=>∃(ns:List Str) (v:Option V),σ'=[some (.ref p),some (.int m),some (.ref l),v]/\BK p H H'/\H' l=some (.lst (ns.map V.str))/\(ns.length:Int)=m/\(∀x∈ns,Nm x)/\ns.Nodup,?_,?_⟩
 ·refine⟨_,rfl,m,rfl,by omega,by omega,ml (n:=m.toNat) (fun i σ' H'=>∃(ns:List Str) (v:Option V),σ'=[some (.ref p),some (.int m),some (.ref l),v]/\BK p H H'/\H' l=some (.lst (ns.map V.str))/\ns.length=i/\(∀x∈ns,Nm x)/\ns.Nodup) ?_ ?_ ?_⟩
  ·exact⟨[],none,rfl,(BK.of hp (A8.refl H)).upd hl Af,AH,rfl,fun x hx=>absurd hx (by simp),by simp⟩
  ·rintro i σ' H' hi ⟨ns,v,rfl,g,e,hlen,hN,nd⟩;refine⟨_,rfl,.inl ⟨rfl,_,AI.of e⟩,_,rfl,_,rfl,p,l,ns,rfl,g.AD,AI.of e,Af,hN,by omega,fun x H2 nx hx s2=>?_⟩;refine⟨l,_,_,rfl,rfl,s2.at' e Af,Hm (m:=100) (by rw[AX];omega) (by decide +kernel),?_⟩;refine⟨ns++[x],_,rfl,(g.trans s2).upd hl Af,by rw[AH,CS];rfl,by rw[BL];simp[hlen],fun y hy=>?_,PN nd hx⟩;rcases List.mem_append.mp hy with h | h
   ·exact hN y h
   ·have:y=x:=by simpa using h
    rw[this];exact nx
  ·rintro σ' H' ⟨ns,v,rfl,g,e,hlen,hN,nd⟩;exact⟨ns,v,rfl,g,e,by omega,hN,nd⟩
 rintro σ' H' ⟨ns,v,rfl,g,e,hlen,hN,nd⟩;exact⟨_,rfl,q l H' ns hl g e hlen hN nd⟩
def WW:Ak ["pot","most","many"] ["pot","most"] (AV XF):=by walk_at "z1"
def xj (F:AE K "_law_row" "_law_row" XF f fd)(m:mg "_law_row"=some (.ref f)):
  A7 P w K mg base "_law_row" 4 ["pot","most"] (ZN):=by
 refine A7.mk F (F.binds (by walk_at "bD2")) m (F.Am (k:=3) WW (fun vs H Q E h=>?_) (fun AU A outer s H vs Q E hr h=>?_))
 ·obtain⟨p,m,rfl,hp,m0,m1,q⟩:=h;rfl
 obtain⟨p,m,rfl,hp,m0,m1,q⟩:=h;refine⟨_,(AG rfl (B3 2 WW.nd (AQ Ba hr (A0 (qv 0) (A0 (B2 Dt (qv 1) A9) A5))))
   (AG rfl (Cq (Ap (Ae C2 (AQ Ba hr (A0 (qv 0) (A0 A9 A5))) A9) (AB rfl (B3 2 WW.nd (AM AZ (Bv (A0 A9 (A0 A9 (A0 (qv 1) A5)))) (AQ Ba hr (A0 (qv 0) (A0 A9 A5)))))) Ay))
   (AB rfl (Aa (AQ YL hr (A0 (qv 0) (A0 (qv 2) A5))))))),?_⟩
 refine⟨_,rfl,_,rfl,_,_,rfl,rfl,p,_,rfl,hp,by omega,by omega,fun many H1 n0 n1 s1=>?_⟩;refine⟨fun σ' H'=>∃k:Int,σ'=[some (.ref p),some (.int m),some (.int k)]/\0<=k/\k<=m/\BK p H H',?_,?_⟩
 ·refine⟨_,rfl,p,8,rfl,s1.AD,by decide,by decide,fun r H2 r0 r1 s2=>?_⟩;have g2:=s1.trans s2;refine⟨rfl,_,rfl,?_⟩;refine B5 (fun _=>?_) (fun _=>⟨many,rfl,n0,by omega,g2⟩);refine⟨_,rfl,(by show 3<=sizeLine;decide +kernel),fun t ht=>?_⟩;have Af:=g2.AD.ne ht;have g3:=g2.trans (BK.of g2.AD (Ab ht (.tup [.int 0,.int 1,.int m])));refine⟨_,rfl,p,3,rfl,g3.AD,by decide,by decide,fun j H4 j0 j1 s4=>?_⟩;obtain⟨k,hk,k0,k1⟩:=ZCi j0 j1 m0;exact⟨t,_,_,_,rfl,rfl,AA.of (s4.at' AH Af),hk,k,rfl,k0,k1,g3.trans s4⟩
 rintro σ' H' ⟨k,rfl,k0,k1,g⟩;refine⟨_,rfl,_,rfl,p,k,rfl,g.AD,k0,by omega,fun l H' ns hl s e hlen hN nd=>?_⟩;exact q l H' ns (g.none hl) (g.trans s) e (by omega) hN nd
def sT:Ak ["pot","most"] ["pot","most"] (AV Tv):=by walk_at "z1"
def bQ : ∀ss R,Yj ss R->ss.length=2:=by rintro _ _ ⟨m,rfl,_,_,rfl⟩;rfl
def yw (F:AE K "_law_new" "_law_new" Tv f fd)(m:mg "_law_new"=some (.ref f)):
  A7 P w K mg base "_law_new" 6 ["pot","most"] (Ar Yj):=by
 refine A7.mk F (F.binds (by walk_at "bD2")) m (F.Am (k:=5) sT (fun vs H Q E h=>Fz.DG bQ h) (fun AU A outer s H vs Q E hr h=>?_))
 refine⟨_,(AB rfl (Aa (yD (Xv Ac (AQ UE hr (A0 (qv 0) (A0 (qv 1) A5))) (Xv Ac dk (Xv Ac (EH A5) yV))) rfl rfl (by simp) (by decide)))),?_⟩;refine Fz.DE h bQ ?_;rintro _ _ ⟨m,rfl,h1,h4,rfl⟩;show Ws [_,_] _ _ _;refine mN (ZCL (by decide +kernel) (WH (FX (Ed (cb rfl rfl (AN rfl ⟨_,rfl,by omega,by omega,fun ns l nm nd=>?_⟩))))));refine WH (gS fun aK=>WH (gi (Yo ⟨by decide,fun aP=>Yo ⟨by simp,by simp,by simp,rfl,fun a=>?_⟩⟩)));exact⟨ns,a,⟨by omega,nm,nd⟩,aK,aP,rfl⟩
def zh:Ak ["rule"] ["rule"] (AV YR):=by walk_at "z1"
def vx (F:AE K "check_rule" "check_rule" YR f fd)(m:mg "check_rule"=some (.ref f)):
  A7 P w K mg base "check_rule" 1 ["rule"] (Pw):=by
 refine A7.mk F (F.binds (by walk_at "bD1")) m (F.Am (k:=0) zh (fun vs H Q E h=>?_) (fun AU A outer s H vs Q E hr h=>?_))
 ·obtain⟨r,rfl,G4,q⟩:=h;rfl
 obtain⟨r,rfl,G4,q⟩:=h;refine⟨_,(AB rfl (Ap (Ae Xc (qv 0) (KS (v:=.ref FU) (by rfl) MI rfl)) (AB rfl E5) Ay)),?_⟩;refine⟨_,rfl,FU,_,rfl,.inr (LI H),rfl,rfl,_,rfl,?_⟩;have er:D6 (.str r) (Cp.map V.str)=decide (r∈Cp):=J6 r Cp;show if(!D6 (.str r) (Cp.map V.str))=true then _ else _
 rw[er,nV G4];exact DS q
def sP:Ak ["row","rule"] ["row","rule"] (AV TY):=by walk_at "z1"
def ZE3 (F:AE K "begun" "begun" TY f fd)(m:mg "begun"=some (.ref f)):
  A7 P w K mg base "begun" 2 ["row","rule"] (QN K):=by
 refine A7.mk F (F.binds (by walk_at "bD2")) m (F.Am (k:=1) sP (fun vs H Q E h=>?_) (fun AU A outer s H vs Q E hr h=>?_))
 ·obtain⟨a,tp,ns,r,rfl,hS,G4,hz,q⟩:=h;rfl
 obtain⟨a,tp,ns,r,rfl,hS,G4,hz,q⟩:=h;refine⟨_,(AG rfl (Cf (AQ M4 hr (A0 (qv 1) A5)))
   (AB rfl (Aa (Bv (A0 (qv 1) (A0 A9 (A0 (Cr JJ C0 (A0 (An KA BW (A0 (qv 0) A5)) A5)) A5))))))),?_⟩
 refine⟨_,rfl,r,rfl,G4,?_⟩;refine⟨_,rfl,_,rfl,a,tp,ns,rfl,hS,hz,fun l ts hl hp hs=>?_⟩;have n1:=Ab hl (.lst (ts.map V.str));refine⟨l,_,rfl,.inl ⟨AI.of AH,fun c hc=>?_⟩⟩;have n2:=Ab hc (.tup (ts.map V.str));refine⟨(by show 3<=sizeLine;decide),fun t ht=>?_⟩;have n3:=Ab ht (.tup [.str r,.int 0,.ref c]);exact q t c _ ts (A8.none (n1.trans n2) ht) (A8.none n1 hc) (n1.trans (n2.trans n3)) hp hs ⟨AH,n3 _ _ AH⟩
def qd:Ak ["self","name","rule"] ["self","name","rule"] (AV Yf):=by walk_at "z1"
def cS:∀ss R,(YD A3) ss R->ss.length=3:=by rintro _ _ ⟨m,s,a,t,x,r,rfl,_,_,_,_,_,_,rfl⟩;rfl
def ZFb (F:AE K "begin" "Yard.begin" Yf f fd)(mt:Meth K A3 "begin" f):
  C6 P w K mg base A3 "begin" 8 ["self","name","rule"] (Cu (YD A3)):=by
 refine⟨f,fd,F.Am (k:=7) qd (fun vs H Q E h=>Fz.Jg cS h) (fun AU A outer s H vs Q E hr h=>?_),(F.binds (by walk_at "bD3")),mt,Au⟩
 refine⟨_,(AG rfl (Ap (Cd (DV (AQ Ih hr (A0 (qv 1) A5)))) (AB rfl E5) Ay)
   (AG rfl (Ap (ZDO (BO hr) (qv 1) (D2 (qv 0))) (AB rfl E5) Ay)
   (AG rfl (Cf (AQ M4 hr (A0 (qv 2) A5)))
   (AG rfl (Ap (Ae J8 (An wV Ag (A0 (D2 (qv 0)) A5)) (KS (v:=.int 12) (by rfl) Wd ⟨_,rfl⟩)) (AB rfl E5) Ay)
   (AB rfl (Kh (BO hr) (D2 (qv 0)) (qv 1) (AQ Lm hr (A0 (D2 (qv 0)) (A0 (qv 2) A5))))))))),?_⟩
 refine Fz.Rz h cS ?_;rintro _ _ ⟨m,s,a,t,x,r,rfl,hT,ok,hx,nx,hr,h12,rfl⟩;obtain⟨dx,aK,aP,rfl⟩:=hT;show Ws [_,_,_] _ _ _;refine BB (EY (Ec (Dn (fc (AN rfl ⟨x,rfl,(cE nx).2,_,rfl,?_⟩)))));rw[X9 nx];refine BM (by decide) (Cg ?_);refine BB (EY (Dn (mF (AN rfl (Jl rfl Au CN ⟨Ai s.ln,aK,_,.inr x,rfl,rfl,_,rfl,?_⟩)))));rw[QB,qQ hx];refine BM (by decide) (Cg ?_);refine BB (O7 (zS (AN rfl ⟨r,rfl,hr,?_⟩)));refine BB (EY (Nk (jv (vI (Jl rfl Au CN ⟨Ai s.ln,aK,_,rfl,_,rfl,?_⟩)))));have lk:(Ai s.ln).length=s.ln.length:=by unfold Ai;rw[AX]
 rw[lk];refine JO ⟨_,rfl,_,rfl,BM (fun z=>by have:=qH z;omega) (Cg ?_)⟩;refine Ku (i:=0) (t:=B7 s A3 a dx aK aP) (FX (af (Bp (DW (N1 rfl Au Ca ⟨_,rfl,_,.inl ⟨rfl,s.row,rfl,AN rfl ⟨r,rfl,hr,by have:=ok.row.len;have:=ok.m4;omega,fun ts pm st=>?_⟩⟩⟩)))));rw[KL ok.row.nd pm st];have l1:=ok.l1;refine Jl rfl Au CN ⟨true,aK,Ai s.ln,_,rfl,rfl,by unfold BV;rw[AX];omega,IC ok.n1,B4,AN rfl ⟨.inr x,rfl,?_⟩⟩;rw[Tu hx,di hx];unfold B7;rw[show([]++[1]:List Nat)=[1] from rfl,Sb];have e1:BV s.ll++[.fz (Cc r 0 (CO s.row))]=BV (s.ll++[⟨r,0,CO s.row⟩]):=by unfold BV;rw[CS];rfl
 rw[e1];exact⟨_,_,_,_,rfl,rfl,rfl,dx,aK,aP,rfl⟩
def m8:Ak ["self","name"] ["self","name"] (AV Wr):=by walk_at "z1"
def dI:∀ss R,(MO A3) ss R->ss.length=2:=by rintro _ _ ⟨s,x,lo,rfl,_,_,_,rfl⟩;rfl
def u3 (F:AE K "loop" "Yard.loop" Wr f fd)(mt:Meth K A3 "loop" f):
  C6 P w K mg base A3 "loop" 1 ["self","name"] (Ar (MO A3)):=by
 refine⟨f,fd,F.Am (k:=0) m8 (fun vs H Q E h=>Fz.DG dI h) (fun AU A outer s H vs Q E hr h=>?_),(F.binds (by walk_at "bD2")),mt,Au⟩
 refine⟨_,(AG rfl (Ap (qR (BO hr) (qv 1) (D2 (qv 0))) (AB rfl E5) Ay)
   (AB rfl (Aa (Bl (BO hr) (D2 (qv 0)) (qv 1) (fun _ _=>rfl))))),?_⟩
 refine Fz.DE h dI ?_;rintro _ _ ⟨s,x,lo,rfl,hx,hl,l1,rfl⟩;show Ws [_,_] _ _ _;refine BB (EY (Dn (mZ (AN rfl (JG (AN rfl ⟨A3,yN,_,1,_,rfl,Au,CN,by decide +kernel,rfl,Ai s.ln,_,.inr x,rfl,rfl,_,rfl,?_⟩))))));rw[QB,nV hx];refine BM (by decide) (Cg ?_);refine Fu (Gk (JG (AN rfl ⟨A3,yN,_,1,_,rfl,Au,CN,by decide +kernel,rfl,Ai s.ln,_,rfl,AN rfl ⟨.inr x,lo.P,rfl,Uy hx ?_,rfl⟩⟩)));rw[Az,hl];rfl
def vE:Ak ["self","name"] ["self","name"] (AV YA):=by walk_at "z1"
def eX:∀ss R,(WI A3) ss R->ss.length=2:=by rintro _ _ ⟨m,s,a,t,x,rfl,_,_,_,rfl⟩;rfl
def om (F:AE K "drop" "Yard.drop" YA f fd)(mt:Meth K A3 "drop" f):
  C6 P w K mg base A3 "drop" 3 ["self","name"] (Cu (WI A3)):=by
 refine⟨f,fd,F.Am (k:=2) vE (fun vs H Q E h=>Fz.Jg eX h) (fun AU A outer s H vs Q E hr h=>?_),(F.binds (by walk_at "bD2")),mt,Au⟩
 refine⟨_,(AG rfl (Cf (FF GJ hr (by decide) (qv 0) (A0 (qv 1) A5)))
   (AB rfl (Cf (kR (D2 (qv 0)) (qv 1) ⟨rfl,rfl,rfl,rfl⟩)))),?_⟩
 refine Fz.Rz h eX ?_;rintro _ _ ⟨m,s,a,t,x,rfl,hT,ok,hx,rfl⟩;obtain⟨dx,aK,aP,rfl⟩:=hT;show Ws [_,_] _ _ _;have ix:=List.idxOf_lt_length_iff.mpr hx;have l1:=ok.l1;obtain⟨lo,el⟩:∃l,s.ll[s.ln.idxOf x]?=some l:=⟨_,B9 (by omega)⟩;refine BB (O7 (i3 (i:=0) (Dd rfl ⟨dx,yN,a,_,rfl,by decide +kernel,fj (AN rfl (bg ⟨_,⟨s,x,lo,uC (fun p=>[Slot.is p,.is (.str x)]) (JB s A3 a dx aK aP),hx,el,ok.l1,rfl⟩,fun _ hp=>hp▸⟨fT lo,?_⟩⟩))⟩)));refine fU (i:=0) (t:=B7 s A3 a dx aK aP) (Jl rfl Au CN ⟨true,aK,Ai s.ln,_,rfl,rfl,IC ok.n1,AN rfl ⟨.inr x,s.ln.idxOf x,rfl,Kq hx,?_⟩⟩);unfold B7;rw[show([]++[1]:List Nat)=[1] from rfl,Sb];have e1:(Ai s.ln).eraseIdx (s.ln.idxOf x)=Ai (s.ln.eraseIdx (s.ln.idxOf x)):=by unfold Ai;rw[NT]
 have e2:(BV s.ll).eraseIdx (s.ln.idxOf x)=BV (s.ll.eraseIdx (s.ln.idxOf x)):=by unfold BV;rw[NT]
 rw[e1,e2];exact⟨_,_,_,_,rfl,rfl,rfl,dx,aK,aP,rfl⟩
def nH:Ak ["row","gap"] ["row","gap"] (AV XA):=by walk_at "z1"
def o3 (F:AE K "is_gap" "is_gap" XA f fd)(m:mg "is_gap"=some (.ref f)):
  A7 P w K mg base "is_gap" 1 ["row","gap"] (ib K):=by
 refine A7.mk F (F.binds (by walk_at "bD2")) m (F.Am (k:=0) nH (fun vs H Q E h=>?_) (fun AU A outer s H vs Q E hr h=>?_))
 ·obtain⟨a,tp,ns,g,rfl,hS,q⟩:=h;rfl
 obtain⟨a,tp,ns,g,rfl,hS,q⟩:=h;refine⟨_,(AB rfl (Aa (aB Fd Fd A9 (qv 1) (An EE Ag (A0 (qv 0) A5))))),?_⟩;have hl:=D7 ns;refine⟨_,rfl,_,_,rfl,rfl,_,rfl,?_⟩;refine B5 (fun c=>?_) (fun c=>?_)
 ·refine⟨_,rfl,a,_,rfl,hS.or,_,_,rfl,rfl,?_⟩;rw[hl];have e:K8 ns.length g=decide (g<=(ns.length:Int)):=by unfold K8;rw[c];rfl
  show Q (.bl (decide (g<=(ns.length:Int)))) H;rw[<- e];exact q
 ·have e:K8 ns.length g=false:=by unfold K8;rw[Bool.eq_false_iff.mpr c];rfl
  show Q (.bl false) H;rw[<- e];exact q
def sU:Ak ["row","coming"] ["row","coming"] (AV P8):=by walk_at "z1"
def ZD2:Scope:={ kind:=.function,names:=[(".0", .local),("name", .local),("row", .free)],isGenerator:=false,isCoroutine:=false,more:=[] }
def yY:Cw ["row","coming"] (AV P8) ZD2 "name" ["row"] [0]:=by walk_at "z2"
def yB (F:AE K "is_coming" "is_coming" P8 f fd)(m:mg "is_coming"=some (.ref f)):
  A7 P w K mg base "is_coming" 1 ["row","coming"] (kZ K):=by
 refine A7.mk F (F.binds (by walk_at "bD2")) m (F.Am (k:=0) sU (fun vs H Q E h=>?_) (fun AU A outer s H vs Q E hr h=>?_))
 ·obtain⟨a,tp,ns,c,ss,rfl,hS,hC,Bw,q⟩:=h;rfl
 obtain⟨a,tp,ns,c,ss,rfl,hS,hC,Bw,q⟩:=h;refine⟨_,(AB rfl (Aa (HN (Cs (Kk hr.FN) (Cr JH Bk (A0 (qv 1) A5)) (An (ic rfl) BW (A0 (Cr (iI rfl) M5 (A0 (qv 1) A5)) A5))) (IJ (An (LK rfl) Eb (A0 (FK rfl yY (ED (qv 1)) (fun _ _ _ _=>by exact Lh) (fun _ _ _ _=>by exact(Cs (show BD _ (compareOp .In) (Fi K false) from FJ) (qv 1) (qv 0)))) A5)))))),?_⟩;have hl:=D7 ss;refine⟨_,rfl,c,_,rfl,.inr hC,fun l1 FV=>?_⟩;have n1:=Ab FV (.lst (ss.map V.str));refine⟨_,rfl,c,true,ss,rfl,n1.JZ hC,by omega,fun l2 Co=>?_⟩;have n2:=Ab Co (Ll P w l2 (fun k'=>(dd ss).any (· == k')) (dd ss).length)
 refine⟨l2,_,_,rfl,AH,by have:=Ys ss;omega,fun l3 ts LX e1 e2 e3=>?_⟩;have n3:=Ab LX (.lst (ts.map V.str));have s3:=n1.trans (n2.trans n3);refine⟨l1,l3,_,_,rfl,rfl,.inl ⟨AI.of (n3 _ _ (n2 _ _ AH)),AI.of AH⟩,EF ss,EF ts,_,rfl,?_⟩;have hu:E2 (ss.map V.str) (ts.map V.str)=JC ss:=by rw[ZBR];unfold JC;rw[decide_eq_decide];exact gL e1 e2 e3
 show if E2 (ss.map V.str) (ts.map V.str)=true then _ else _
 rw[hu];refine B5 (fun c1=>?_) (fun c1=>?_)
 ·have fQ:=s3.JZ hC;refine⟨_,rfl,true,c,_,rfl,fQ,fun acc Ax=>JP (tp:=true) (fun _=>true) (fun v=>.bl (D6 v (ns.map V.str))) fQ Ax (by rw[hl];exact small (by omega)) (fun i v H' Q' _ _ h=>h H' (A8.refl _)) (fun i v H' Q' hv _ s4 h=>?_) (fun H' s4 e4=>?_)⟩
  ·obtain⟨x,rfl,hm⟩:=JI hv;exact⟨_,rfl,_,rfl,a,_,rfl,((s3.trans s4).sq hS).or,rfl,EF ns,h _ (A8.refl _)⟩
  ·rw[ZDE] at e4;refine⟨acc,_,rfl,AI.of e4,?_⟩;rw[all_map];have e:(JC ss && J0 ns ss)=J0 ns ss:=by rw[c1];rfl
   show Q (.bl (J0 ns ss)) H';rw[<- e];exact q _ (s3.trans s4)
 ·have e:(JC ss && J0 ns ss)=false:=by rw[Bool.eq_false_iff.mpr c1];rfl
  rw[<- e];exact q _ s3
def ZEa:Ak ["row","thing"] ["row","thing"] (AV YX):=by walk_at "z1"
def ZDi (F:AE K "is_loop" "is_loop" YX f fd)(m:mg "is_loop"=some (.ref f)):
  A7 P w K mg base "is_loop" 2 ["row","thing"] (jG K):=by
 refine A7.mk F (F.binds (by walk_at "bD2")) m (F.Am (k:=1) ZEa (fun vs H Q E h=>?_) (fun AU A outer s H vs Q E hr h=>?_))
 ·obtain⟨a,tp,ns,t,r,g,ss,rfl,hS,⟨c,hT,hC⟩,Bw,q⟩:=h;rfl
 obtain⟨a,tp,ns,t,r,g,ss,rfl,hS,⟨c,hT,hC⟩,Bw,q⟩:=h;refine⟨_,(AB rfl (Aa (HN (Cs FJ (AM AZ (qv 1) A9) (KS (v:=.ref FU) (by rfl) MI rfl)) (HN (AQ XR hr (A0 (qv 0) (A0 (AM AZ (qv 1) A9) A5))) (IJ (AQ Xh hr (A0 (qv 0) (A0 (AM AZ (qv 1) A9) A5)))))))),?_⟩;refine⟨_,rfl,t,_,_,_,rfl,rfl,hT,rfl,FU,_,rfl,.inr (LI H),rfl,rfl,_,rfl,?_⟩;have er:D6 (.str r) (Cp.map V.str)=decide (r∈Cp):=J6 r Cp;show if D6 (.str r) (Cp.map V.str)=true then _ else _
 rw[er];refine B5 (fun c1=>?_) (fun c1=>?_)
 ·refine⟨_,rfl,_,rfl,t,_,_,_,rfl,rfl,hT,rfl,a,tp,ns,g,rfl,hS,_,rfl,?_⟩;refine B5 (fun c2=>?_) (fun c2=>?_)
  ·refine⟨_,rfl,_,rfl,t,_,_,_,rfl,rfl,hT,rfl,a,tp,ns,c,ss,rfl,hS,hC,Bw,fun H' s'=>?_⟩;have e:FI ns r g ss=(JC ss && J0 ns ss):=by unfold FI;rw[c1,c2];rfl
   rw[<- e];exact q _ s'
  ·have e:FI ns r g ss=false:=by unfold FI;rw[c1,Bool.eq_false_iff.mpr c2];rfl
   rw[<- e];exact q _ (A8.refl _)
 ·have e:FI ns r g ss=false:=by unfold FI;rw[Bool.eq_false_iff.mpr c1];rfl
  rw[<- e];exact q _ (A8.refl _)
def qt:Ak ["row","loop"] ["row","loop"] (AV X7):=by walk_at "z1"
def ZEy (F:AE K "check_loop" "check_loop" X7 f fd)(m:mg "check_loop"=some (.ref f)):
  A7 P w K mg base "check_loop" 3 ["row","loop"] (fR K):=by
 refine A7.mk F (F.binds (by walk_at "bD2")) m (F.Am (k:=2) qt (fun vs H Q E h=>?_) (fun AU A outer s H vs Q E hr h=>?_))
 ·obtain⟨a,tp,ns,t,r,g,ss,rfl,hS,hL,Bw,ok,q⟩:=h;rfl
 obtain⟨a,tp,ns,t,r,g,ss,rfl,hS,hL,Bw,ok,q⟩:=h;refine⟨_,(AB rfl (Ap (Cd (DV (AQ WZ hr (A0 (qv 0) (A0 (qv 1) A5))))) (AB rfl E5) Ay)),?_⟩;refine⟨_,rfl,_,rfl,a,tp,ns,t,r,g,ss,rfl,hS,hL,Bw,fun H' s1=>⟨_,rfl,?_⟩⟩;refine BM (by rw[ok];decide) ?_;exact q _ s1
def qJ:Ak ["things","loop"] ["things","loop"] (AV SJ):=by walk_at "z1"
def tG:Scope:={ kind:=.function,names:=[(".0", .local),("name", .local),("loop", .free)],isGenerator:=false,isCoroutine:=false,more:=[] }
def tD:Cw ["things","loop"] (AV SJ) tG "name" ["loop"] [1]:=by walk_at "z2"
def ua (F:AE K "things_to_come" "things_to_come" SJ f fd)(m:mg "things_to_come"=some (.ref f)):
  A7 P w K mg base "things_to_come" 1 ["things","loop"] (c8 K):=by
 refine A7.mk F (F.binds (by walk_at "bD2")) m (F.Am (k:=0) qJ (fun vs H Q E h=>?_) (fun AU A outer s H vs Q E hr h=>?_))
 ·obtain⟨a,tp,ns,t,r,g,ss,rfl,hS,⟨c,hT,hC⟩,hz,q⟩:=h;rfl
 obtain⟨a,tp,ns,t,r,g,ss,rfl,hS,⟨c,hT,hC⟩,hz,q⟩:=h;refine⟨_,(AB rfl (Aa (FK rfl tD (ED (qv 0)) (fun _ _ _ _=>by exact(GU (Ae (show BD _ (compareOp .In) (Fi K false) from FJ) (qv 1) (AM (show En _ (Jh K) from AZ) (qv 0) A9)))) (fun _ _ _ _=>by exact(qv 1))))),?_⟩;have hl:=D7 ns;refine⟨_,rfl,tp,a,_,rfl,hS,fun acc Ax=>JP (fun v=>D6 v (ss.map V.str)) (fun v=>v) hS Ax (by rw[hl];exact small (by omega)) (fun i v H' Q' hv s1 h=>?_) (fun i v H' Q' hv _ s1 h=>?_) (fun H' s1 e1=>?_)⟩
 ·obtain⟨x,rfl,_⟩:=JI hv;exact⟨_,rfl,_,rfl,t,_,_,_,rfl,rfl,s1.JZ hT,rfl,c,_,rfl,.inr (s1.JZ hC),rfl,EF ss,_,rfl,h _ (A8.refl _)⟩
 ·exact⟨_,rfl,h _ (A8.refl _)⟩
 ·rw[ax] at e1;exact q acc H' Ax s1 e1
def dB:Ak ["row","loop","gap"] ["row","loop"] (AV UM):=by walk_at "z1"
def mP (F:AE K "rest" "rest" UM f fd)(m:mg "rest"=some (.ref f)):
  A7 P w K mg base "rest" 4 ["row","loop"] (du K):=by
 refine A7.mk F (F.binds (by walk_at "bD2")) m (F.Am (k:=3) dB (fun vs H Q E h=>?_) (fun AU A outer s H vs Q E hr h=>?_))
 ·obtain⟨a,tp,ns,t,r,g,ss,rfl,hS,hL,Bw,ok,hz,q⟩:=h;rfl
 obtain⟨a,tp,ns,t,r,g,ss,rfl,hS,hL,Bw,ok,hz,q⟩:=h;refine⟨_,(AG rfl (Cf (AQ ZL hr (A0 (qv 0) (A0 (qv 1) A5))))
   (AG rfl (B3 2 dB.nd (AM AZ (qv 1) A9))
   (AB rfl (Aa (B2 Hq (AQ Rh hr (A0 (Dh KQ (qv 0) (DK (qv 2)) EG) (A0 (qv 1) A5))) (AQ Rh hr (A0 (Dh KQ (qv 0) EG (DK (qv 2))) (A0 (qv 1) A5)))))))),?_⟩
 have hl:=D7 ns;refine⟨_,rfl,_,rfl,a,tp,ns,t,r,g,ss,rfl,BF.sq hS,hL,Bw,ok,fun H1 s1=>?_⟩;obtain⟨c,hT,hC⟩:=id hL;have Bc:=s1.JZ hT;refine⟨_,rfl,t,_,_,_,rfl,rfl,Bc,rfl,?_⟩;have e1:=s1 _ _ hS;refine⟨_,rfl,_,rfl,_,rfl,a,tp,_,rfl,BF.sq e1,fun p2 H2 s2 e2=>?_⟩;rw[Nr,<- Mm] at e2;have k2:=s1.trans s2;refine⟨_,rfl,p2,tp,ns.drop g,t,r,g,ss,rfl,e2,hL.same k2,by rw[Cj];omega,fun l3 H3 LX s3 e3=>?_⟩;have k3:=k2.trans s3;refine⟨_,rfl,_,rfl,_,rfl,a,tp,_,rfl,BF.sq (k3 _ _ hS),fun p4 H4 s4 e4=>?_⟩;rw[NW,<- Mn] at e4;have k4:=k3.trans s4;refine⟨_,rfl,p4,tp,ns.take g,t,r,g,ss,rfl,e4,hL.same k4,by rw[Bd];omega,fun l5 H5 jC s5 e5=>?_⟩;have k5:=k4.trans s5;have z1:=Fq (Hw ss) (ns.drop g);have z2:=Fq (Hw ss) (ns.take g);rw[Cj] at z1;rw[Bd] at z2;refine⟨l3,l5,_,_,rfl,rfl,s5 _ _ (s4 _ _ e3),e5,small (by rw[AX,AX];omega),fun l6 jM=>?_⟩;refine q l6 _ (A8.none k5 jM) (k5.trans (Ab jM _)) ?_;rw[AH,<- CS];rfl
def oW:Ak ["coming","gone"] ["coming","gone"] (AV Pq):=by walk_at "z1"
def ZCg:Scope:={ kind:=.function,names:=[(".0", .local),("name", .local),("gone", .free)],isGenerator:=false,isCoroutine:=false,more:=[] }
def ZAH:Cw ["coming","gone"] (AV Pq) ZCg "name" ["gone"] [1]:=by walk_at "z2"
def wq (F:AE K "coming_without" "coming_without" Pq f fd)(m:mg "coming_without"=some (.ref f)):
  A7 P w K mg base "coming_without" 1 ["coming","gone"] (UN K):=by
 refine A7.mk F (F.binds (by walk_at "bD2")) m (F.Am (k:=0) oW (fun vs H Q E h=>?_) (fun AU A outer s H vs Q E hr h=>?_))
 ·obtain⟨c,ss,x,rfl,hC,hz,q⟩:=h;rfl
 obtain⟨c,ss,x,rfl,hC,hz,q⟩:=h;refine⟨_,(AB rfl (Aa (Cr JJ C0 (A0 (FK rfl ZAH (ED (qv 0)) (fun _ _ _ _=>by exact(GU (Ae G0 (qv 1) (qv 0)))) (fun _ _ _ _=>by exact(qv 1))) A5)))),?_⟩;have hl:=D7 ss;have IQ:CA K true H c (ss.map V.str):=hC;refine⟨_,rfl,true,c,_,rfl,IQ,fun acc Ax=>JP (He (.str x)) (fun v=>v) IQ Ax (by rw[hl];exact small (by omega)) (fun i v H' Q' hv s1 h=>?_) (fun i v H' Q' hv _ s1 h=>?_) (fun H' s1 e1=>?_)⟩
 ·obtain⟨y,rfl,_⟩:=JI hv;exact⟨_,rfl,_,rfl,rfl,_,rfl,h _ (A8.refl _)⟩
 ·exact⟨_,rfl,h _ (A8.refl _)⟩
 ·rw[Na] at e1;refine⟨acc,_,rfl,.inl ⟨AI.of e1,fun t ht=>?_⟩⟩;exact q t _ (A8.none s1 ht) (s1.trans (Ab ht _)) AH
def wF:Ak ["row","name"] ["row","name"] (AV V4):=by walk_at "z1"
def pP (F:AE K "place_of" "place_of" V4 f fd)(m:mg "place_of"=some (.ref f)):
  A7 P w K mg base "place_of" 1 ["row","name"] (Jr):=by
 refine A7.mk F (F.binds (by walk_at "bD2")) m (F.Am (k:=0) wF (fun vs H Q E h=>?_) (fun AU A outer s H vs Q E hr h=>?_))
 ·obtain⟨a,tp,ns,x,rfl,hS,hx,q⟩:=h;rfl
 obtain⟨a,tp,ns,x,rfl,hS,hx,q⟩:=h;refine⟨_,(AG rfl (Ap (Ae Xc (qv 1) (qv 0)) (AB rfl E5) Ay)
   (AB rfl (Aa (yC (FT GR Zk lz Y4 (qv 0) (A0 (qv 1) A5)) (FT PySem.F.plainAttrs_tuple ZGV PySem.F.type_tuple_index ZA4 (qv 0) (A0 (qv 1) A5)))))),?_⟩
 refine⟨_,rfl,_,rfl,a,_,rfl,(BF.sq (K:=K) hS).or,rfl,EF ns,_,rfl,?_⟩;refine BM (by show ¬ (!D6 (V.str x) (ns.map V.str))=true;rw[J6,nV hx];decide) ?_;cases tp with
 | false=>exact .inl ⟨_,rfl,.inl ⟨rfl,_,AI.of hS⟩,_,rfl,a,ns,x,rfl,rfl,AI.of hS,hx,q⟩
 | true=>exact .inr ⟨_,rfl,.inr (.inr (.inr (.inr ⟨rfl,_,hS⟩))),_,rfl,a,ns,x,rfl,rfl,AA.of hS,hx,q⟩
def wA:Ak ["row","loop","name"] ["row","loop","name"] (AV XH):=by walk_at "z1"
def mD (F:AE K "loop_telling" "loop_telling" XH f fd)(m:mg "loop_telling"=some (.ref f)):
  A7 P w K mg base "loop_telling" 2 ["row","loop","name"] (eS K):=by
 refine A7.mk F (F.binds (by walk_at "bD3")) m (F.Am (k:=1) wA (fun vs H Q E h=>?_) (fun AU A outer s H vs Q E hr h=>?_))
 ·obtain⟨a,tp,ns,t,r,g,ss,x,rfl,hS,hL,Bw,hx,q⟩:=h;rfl
 obtain⟨a,tp,ns,t,r,g,ss,x,rfl,hS,hL,Bw,hx,q⟩:=h;refine⟨_,(AB rfl (Aa (Bv (A0 (AM AZ (qv 1) A9) (A0 (B2 Dt (AQ EX hr (A0 (qv 0) (A0 (qv 2) A5))) A9) (A0 (AQ MB hr (A0 (AM AZ (qv 1) A9) (A0 (qv 2) A5))) A5)))))),?_⟩;obtain⟨c,Fn,IQ⟩:=id hL;have hT:AA K H t _:=AA.of Fn;have hC:AA K H c _:=AA.of IQ;refine⟨_,rfl,t,_,_,_,rfl,rfl,hT,rfl,_,rfl,_,rfl,a,tp,ns,x,rfl,hS,hx,_,_,rfl,rfl,?_⟩;refine⟨_,rfl,t,_,_,_,rfl,rfl,hT,rfl,_,rfl,c,ss,x,rfl,hC,by omega,fun c3 H3 r9 s3 e3=>?_⟩;refine⟨(by show 3<=sizeLine;decide),fun t4 HQ=>?_⟩;have n4:=Ab HQ (.tup [.str r,.int ((ns.idxOf x:Nat)+1),.ref c3]);exact q t4 c3 _ (A8.none s3 HQ) r9 (s3.trans n4) ⟨AH,n4 _ _ e3⟩
def ao:Ak ["row","loop","order"] ["row","loop"] (AV Y6):=by walk_at "z1"
def zI (F:AE K "step" "step" Y6 f fd)(m:mg "step"=some (.ref f)):
  A7 P w K mg base "step" 5 ["row","loop"] (Y8 K):=by
 refine A7.mk F (F.binds (by walk_at "bD2")) m (F.Am (k:=4) ao (fun vs H Q E h=>?_) (fun AU A outer s H vs Q E hr h=>?_))
 ·obtain⟨a,tp,ns,t,r,g,ss,rfl,hS,hL,Bw,ok,hz,q⟩:=h;rfl
 obtain⟨a,tp,ns,t,r,g,ss,rfl,hS,hL,Bw,ok,hz,q⟩:=h;refine⟨_,(AG rfl (B3 2 ao.nd (AQ YZ hr (A0 (qv 0) (A0 (qv 1) A5))))
   (AG rfl (Ap (Ae (Kk hr.FN) (qv 2) (EH A5)) (AB rfl (Aa (Bv (A0 Nh (A0 (qv 1) A5))))) Ay)
   (AB rfl (Aa (Bv (A0 (AM DQ (qv 2) A9) (A0 (AQ YO hr (A0 (qv 0) (A0 (qv 1) (A0 (AM DQ (qv 2) A9) A5)))) A5))))))),?_⟩
 refine⟨_,rfl,_,rfl,a,tp,ns,t,r,g,ss,rfl,hS,hL.at,Bw,ok,hz,fun l1 H1 FV s1 e1=>?_⟩;obtain⟨c,Fn,IQ⟩:=id hL;have hT:AA K H t _:=AA.of Fn;have hC:AA K H c _:=AA.of IQ;refine⟨_,rfl,(by show 0<=sizeLine;decide),fun l2 Co=>?_⟩;have n2:=Ab Co (.lst []);have k2:=s1.trans n2;refine⟨l1,l2,_,[],rfl,rfl,.inl ⟨AI.of (n2 _ _ e1),AI.of AH⟩,EF _,rfl,_,rfl,?_⟩;show if E2 ((DJ ns g ss).map V.str) []=true then _ else _
 rw[LM];refine B5 (fun c1=>?_) (fun c1=>?_)
 ·have er:DJ ns g ss=[]:=by simpa using c1
  refine⟨_,rfl,(by show 2<=sizeLine;decide),fun t' Eh=>?_⟩;exact q t' _ (A8.none k2 Eh) (k2.trans (Ab Eh _)) (.inl ⟨er,AH⟩)
 ·obtain⟨x,EV,er⟩:∃x EV,DJ ns g ss=x::EV:=by
   cases h:DJ ns g ss with
   | nil=>rw[h] at c1;simp at c1
   | cons x EV=>exact⟨x,EV,rfl⟩
  have hx:x∈ns/\x∈ss:=Nq.mp (by rw[er];exact DC);have e2:=n2 _ _ e1;rw[er] at e2;generalize hH2:upd H1 l2 (.lst [])=H2 at n2 k2 e2;refine⟨_,rfl,l1,_,_,_,rfl,rfl,AI.of e2,NM,?_⟩;refine⟨_,rfl,_,rfl,_,rfl,l1,_,_,_,rfl,rfl,AI.of e2,NM,a,tp,ns,t,r,g,ss,x,rfl,k2 _ _ hS,hL.same k2,Bw,hx.1,fun t4 c4 H4 HQ Rr s4 e4=>?_⟩;refine⟨(by show 2<=sizeLine;decide),fun t5 Og=>?_⟩;have n5:=Ab Og (.tup [.str x,.ref t4]);have k5:=k2.trans (s4.trans n5);exact q t5 _ (A8.none (k2.trans s4) Og) k5 (.inr ⟨x,EV,t4,c4,er,A8.none k2 HQ,A8.none k2 Rr,AH,e4.same n5⟩)
def jE:Ak ["self","name","answer"] ["self","name"] (AV WV):=by walk_at "z1"
def gQ:∀ss R,(VB A3) ss R->ss.length=2:=by rintro _ _ ⟨m,s,a,t,x,lo,rfl,_,_,_,_,rfl⟩;rfl
def rK (F:AE K "step" "Yard.step" WV f fd)(mt:Meth K A3 "step" f):
  C6 P w K mg base A3 "step" 8 ["self","name"] (Cu (VB A3)):=by
 refine⟨f,fd,F.Am (k:=7) jE (fun vs H Q E h=>Fz.Jg gQ h) (fun AU A outer s H vs Q E hr h=>?_),(F.binds (by walk_at "bD2")),mt,Au⟩
 refine⟨_,(AG rfl (B3 2 jE.nd (AQ UQ hr (A0 (D2 (qv 0)) (A0 (FF GJ hr (by decide) (qv 0) (A0 (qv 1) A5)) A5))))
   (AG rfl (Kh (BO hr) (D2 (qv 0)) (qv 1) (AM AZ (qv 2) A9))
   (AB rfl (Aa (AM AZ (qv 2) A9))))),?_⟩
 refine Fz.RM h gQ ?_;rintro _ _ ⟨m,s,a,t,x,lo,rfl,hT,ok,hx,el,rfl⟩;obtain⟨dx,aK,aP,rfl⟩:=hT;show Ws [_,_,.any] _ _ _;have l1:=ok.l1;have lf:=ok.G1;have hr:=ok.row.len;have h4:=ok.m4;have gl:=ok.good lo (DD el);refine BB (IP (ma (Bp (DW (N1 rfl Au Ca ⟨_,rfl,_,.inl ⟨rfl,s.row,rfl,?_⟩⟩)))));refine i3 (i:=0) (Dd rfl ⟨dx,yN,a,_,rfl,by decide +kernel,fj (AN rfl (bg ⟨_,⟨s,x,lo,uC (fun p=>[Slot.is p,.is (.str x)]) (JB s A3 a dx aK aP),hx,el,ok.l1,rfl⟩,fun _ hp=>hp▸⟨fT lo,lo.r,lo.g,lo.cs,rfl,gl,by omega,?_⟩⟩))⟩);rw[gG];show Ws [.ow true (B7 s A3 a dx aK aP),.is (.str x),.is (.tup [lo.told s.row,(lo.Fl s.row).P])] _ _ _;refine BB (Ku (i:=0) (t:=B7 s A3 a dx aK aP) (FX (RZ (OS rfl ⟨rfl,JO ⟨1,_,rfl,rfl,?_⟩⟩))));refine Jl rfl Au CN ⟨true,aK,Ai s.ln,_,rfl,rfl,by unfold BV;rw[AX];omega,IC ok.n1,B4,AN rfl ⟨.inr x,rfl,?_⟩⟩;rw[QQ hx,RE hx];unfold B7;rw[show([]++[1]:List Nat)=[1] from rfl,Sb,PD];exact ZCu (i:=0) rfl (RZ (OS rfl ⟨rfl,JO ⟨0,_,rfl,rfl,rfl,dx,aK,aP,rfl⟩⟩))
def ZEm:Ak ["row","name","at"] ["row","name","at"] (AV Uo):=by walk_at "z1"
def z6 (F:AE K "check_put" "check_put" Uo f fd)(m:mg "check_put"=some (.ref f)):
  A7 P w K mg base "check_put" 2 ["row","name","at"] (dG):=by
 refine A7.mk F (F.binds (by walk_at "bD3")) m (F.Am (k:=1) ZEm (fun vs H Q E h=>?_) (fun AU A outer s H vs Q E hr h=>?_))
 ·obtain⟨a,tp,ns,x,i,rfl,hS,⟨h1,h2,h3,h4⟩,q⟩:=h;rfl
 obtain⟨a,tp,ns,x,i,rfl,hS,⟨h1,h2,h3,h4⟩,q⟩:=h;refine⟨_,(AG rfl (Ap (Cd (DV (AQ Ih hr (A0 (qv 1) A5)))) (AB rfl E5) Ay)
   (AG rfl (Ap (Ae FJ (qv 1) (qv 0)) (AB rfl E5) Ay)
   (AG rfl (Ap (Cd (NA Fd Fd A9 (qv 2) (An EE Ag (A0 (qv 0) A5)))) (AB rfl E5) Ay)
   (AB rfl (Ap (Ae J8 (An EE Ag (A0 (qv 0) A5)) (KS (v:=.int 40) (by rfl) Ly ⟨_,rfl⟩)) (AB rfl E5) Ay))))),?_⟩
 have hl:=D7 ns;refine⟨_,rfl,x,rfl,by have:=h1.2.1;omega,fun H1 s1=>⟨_,rfl,?_⟩⟩;refine BM (by rw[X9 h1];decide) ?_;have e1:=s1 _ _ hS;refine⟨_,rfl,_,rfl,a,_,rfl,(BF.sq (K:=K) e1).or,rfl,EF ns,_,rfl,?_⟩;refine BM (by show ¬ (D6 (V.str x) (ns.map V.str))=true;rw[J6,qQ h2];decide) ?_;refine⟨_,rfl,_,_,rfl,rfl,_,rfl,HP (nV (by omega)) ?_⟩;refine⟨_,rfl,a,_,rfl,(BF.sq (K:=K) e1).or,_,_,rfl,rfl,_,rfl,S6 (by rw[hl];omega) ?_⟩;refine⟨_,rfl,a,_,rfl,(BF.sq (K:=K) e1).or,_,_,rfl,rfl,_,rfl,BM (by rw[hl,qQ (by omega)];decide) ?_⟩;exact q _ s1
def tS:Ak ["row","name","at"] ["row","name","at"] (AV XS):=by walk_at "z1"
def xF (F:AE K "check_move" "check_move" XS f fd)(m:mg "check_move"=some (.ref f)):
  A7 P w K mg base "check_move" 2 ["row","name","at"] (bz):=by
 refine A7.mk F (F.binds (by walk_at "bD3")) m (F.Am (k:=1) tS (fun vs H Q E h=>?_) (fun AU A outer s H vs Q E hr h=>?_))
 ·obtain⟨a,tp,ns,x,i,rfl,hS,⟨h1,h2⟩,q⟩:=h;rfl
 obtain⟨a,tp,ns,x,i,rfl,hS,⟨h1,h2⟩,q⟩:=h;refine⟨_,(AG rfl (Cf (AQ EX hr (A0 (qv 0) (A0 (qv 1) A5))))
   (AB rfl (Ap (Cd (NA Fd GY A9 (qv 2) (An EE Ag (A0 (qv 0) A5)))) (AB rfl E5) Ay))),?_⟩
 have hl:=D7 ns;refine⟨_,rfl,_,rfl,a,tp,ns,x,rfl,hS,h1,?_⟩;refine⟨_,rfl,_,_,rfl,rfl,_,rfl,HP (nV (by omega)) ?_⟩;refine⟨_,rfl,a,_,rfl,(BF.sq (K:=K) hS).or,_,_,rfl,rfl,_,rfl,S6 (by rw[hl];omega) ?_⟩;exact q
def p0:Ak ["row","low","high"] ["row","low","high"] (AV To):=by walk_at "z1"
def ZDG (F:AE K "check_turn" "check_turn" To f fd)(m:mg "check_turn"=some (.ref f)):
  A7 P w K mg base "check_turn" 1 ["row","low","high"] (eG):=by
 refine A7.mk F (F.binds (by walk_at "bD3")) m (F.Am (k:=0) p0 (fun vs H Q E h=>?_) (fun AU A outer s H vs Q E hr h=>?_))
 ·obtain⟨a,tp,ns,lo,hi,rfl,hS,⟨h1,h2⟩,q⟩:=h;rfl
 obtain⟨a,tp,ns,lo,hi,rfl,hS,⟨h1,h2⟩,q⟩:=h;refine⟨_,(AG rfl (Ap (Cd (NA Fd Fd A9 (qv 1) (An EE Ag (A0 (qv 0) A5)))) (AB rfl E5) Ay)
   (AB rfl (Ap (Cd (NA Fd Fd (qv 1) (qv 2) (An EE Ag (A0 (qv 0) A5)))) (AB rfl E5) Ay))),?_⟩
 have hl:=D7 ns;refine⟨_,rfl,_,_,rfl,rfl,_,rfl,HP (nV (by omega)) ?_⟩;refine⟨_,rfl,a,_,rfl,(BF.sq (K:=K) hS).or,_,_,rfl,rfl,_,rfl,S6 (by rw[hl];omega) ?_⟩;refine⟨_,rfl,_,rfl,_,_,rfl,rfl,_,rfl,HP (nV (by omega)) ?_⟩;refine⟨_,rfl,a,_,rfl,(BF.sq (K:=K) hS).or,_,_,rfl,rfl,_,rfl,S6 (by rw[hl];omega) ?_⟩;exact q
def wL:Ak ["row","deed"] ["row","deed"] (AV WE):=by walk_at "z1"
def ZDa (F:AE K "check_deed" "check_deed" WE f fd)(m:mg "check_deed"=some (.ref f)):
  A7 P w K mg base "check_deed" 3 ["row","deed"] (gE):=by
 refine A7.mk F (F.binds (by walk_at "bD2")) m (F.Am (k:=2) wL (fun vs H Q E h=>?_) (fun AU A outer s H vs Q E hr h=>?_))
 ·obtain⟨a,t,tp,ns,d,rfl,hS,hT,hd,q⟩:=h;rfl
 obtain⟨a,t,tp,ns,d,rfl,hS,hT,hd,q⟩:=h;refine⟨_,(AB rfl (Ap (Ae C2 (AM AZ (qv 1) A9) Ac) (AB rfl (Cf (AQ Xj hr (A0 (qv 0) (A0 (AM AZ (qv 1) A9) (A0 (AM AZ (qv 1) A9) A5)))))) (AB rfl (Ap (Ae C2 (AM AZ (qv 1) A9) Ac) (AB rfl (Cf (AQ EX hr (A0 (qv 0) (A0 (AM AZ (qv 1) A9) A5))))) (AB rfl (Ap (Ae C2 (AM AZ (qv 1) A9) Ac) (AB rfl (Cf (AQ WG hr (A0 (qv 0) (A0 (AM AZ (qv 1) A9) (A0 (AM AZ (qv 1) A9) A5)))))) (AB rfl (Cf (AQ Us hr (A0 (qv 0) (A0 (AM AZ (qv 1) A9) (A0 (AM AZ (qv 1) A9) A5)))))))))))),?_⟩;cases d with
 | put x i=>
  refine⟨_,rfl,t,_,_,_,rfl,rfl,AA.of hT,rfl,rfl,_,rfl,HP (by decide +kernel) ?_⟩;exact⟨_,rfl,_,rfl,t,_,_,_,rfl,rfl,AA.of hT,rfl,_,rfl,t,_,_,_,rfl,rfl,AA.of hT,rfl,a,tp,ns,x,i,rfl,hS,hd,q⟩
 | take x=>
  refine⟨_,rfl,t,_,_,_,rfl,rfl,AA.of hT,rfl,rfl,_,rfl,BM (by decide +kernel) ?_⟩;refine⟨_,rfl,t,_,_,_,rfl,rfl,AA.of hT,rfl,rfl,_,rfl,HP (by decide +kernel) ?_⟩;exact⟨_,rfl,_,rfl,t,_,_,_,rfl,rfl,AA.of hT,rfl,a,tp,ns,x,rfl,hS,hd,q _ (A8.refl _)⟩
 | move x i=>
  refine⟨_,rfl,t,_,_,_,rfl,rfl,AA.of hT,rfl,rfl,_,rfl,BM (by decide +kernel) ?_⟩;refine⟨_,rfl,t,_,_,_,rfl,rfl,AA.of hT,rfl,rfl,_,rfl,BM (by decide +kernel) ?_⟩;refine⟨_,rfl,t,_,_,_,rfl,rfl,AA.of hT,rfl,rfl,_,rfl,HP (by decide +kernel) ?_⟩;exact⟨_,rfl,_,rfl,t,_,_,_,rfl,rfl,AA.of hT,rfl,_,rfl,t,_,_,_,rfl,rfl,AA.of hT,rfl,a,tp,ns,x,i,rfl,hS,hd,q _ (A8.refl _)⟩
 | turn lo hi=>
  refine⟨_,rfl,t,_,_,_,rfl,rfl,AA.of hT,rfl,rfl,_,rfl,BM (by decide +kernel) ?_⟩;refine⟨_,rfl,t,_,_,_,rfl,rfl,AA.of hT,rfl,rfl,_,rfl,BM (by decide +kernel) ?_⟩;refine⟨_,rfl,t,_,_,_,rfl,rfl,AA.of hT,rfl,rfl,_,rfl,BM (by decide +kernel) ?_⟩;exact⟨_,rfl,_,rfl,t,_,_,_,rfl,rfl,AA.of hT,rfl,_,rfl,t,_,_,_,rfl,rfl,AA.of hT,rfl,a,tp,ns,lo,hi,rfl,hS,hd,q _ (A8.refl _)⟩
def ZCd:Ak ["row","low","high"] ["row","low","high"] (AV Vo):=by walk_at "z1"
def tK (F:AE K "row_turned" "row_turned" Vo f fd)(m:mg "row_turned"=some (.ref f)):
  A7 P w K mg base "row_turned" 1 ["row","low","high"] (ay):=by
 refine A7.mk F (F.binds (by walk_at "bD3")) m (F.Am (k:=0) ZCd (fun vs H Q E h=>?_) (fun AU A outer s H vs Q E hr h=>?_))
 ·obtain⟨a,tp,ns,lo,hi,rfl,hS,Km,hz,h1,h2,q⟩:=h;rfl
 obtain⟨a,tp,ns,lo,hi,rfl,hS,Km,hz,h1,h2,q⟩:=h;refine⟨_,(AB rfl (Aa (B2 Hq (B2 Hq (Cr JH Bk (A0 (Dh KQ (qv 0) EG (DK (qv 1))) A5)) (iG rfl rfl Bk rfl MH (A0 (Dh KQ (qv 0) (DK (qv 1)) (DK (qv 2))) A5))) (Cr JH Bk (A0 (Dh KQ (qv 0) (DK (qv 2)) EG) A5))))),?_⟩;have hl:=D7 ns;have zz:∀n:Nat,n<=2001->n<=sizeLine:=fun n h=>CZ h (by decide +kernel);refine⟨_,rfl,_,rfl,_,rfl,a,tp,_,rfl,BF.sq hS,fun p1 H1 s1 e1=>?_⟩;rw[NW] at e1;refine⟨p1,_,rfl,e1.or,fun l1 n1=>?_⟩;have t1:=Ab n1 (.lst ((ns.map V.str).take lo));have s2:=s1.trans t1;refine⟨_,rfl,_,rfl,_,rfl,_,rfl,_,rfl,a,tp,_,rfl,BF.sq (s2 _ _ hS),fun p3 H3 s3 e3=>?_⟩;rw[iN _ h1 (by rw[hl];exact h2)] at e3;refine⟨p3,tp,_,rfl,e3,Km,fun l4 n4=>?_⟩;have t4:=Ab n4 (.lst (((ns.map V.str).drop lo).take (hi - lo)).reverse);refine⟨l1,l4,_,_,rfl,rfl,t4 _ _ (s3 _ _ AH),AH,zz _ (by simp only[Bd,Oy,Cj];omega),fun l5 n5=>?_⟩;have t5:=Ab n5 (.lst ((ns.map V.str).take lo++(((ns.map V.str).drop lo).take (hi - lo)).reverse));have s5:=s2.trans (s3.trans (t4.trans t5));refine⟨_,rfl,_,rfl,_,rfl,a,tp,_,rfl,BF.sq (s5 _ _ hS),fun p6 H6 s6 e6=>?_⟩;rw[Nr] at e6;refine⟨p6,_,rfl,e6.or,fun l7 n7=>?_⟩;have t7:=Ab n7 (.lst ((ns.map V.str).drop hi));refine⟨l5,l7,_,_,rfl,rfl,t7 _ _ (s6 _ _ AH),AH,zz _ (by simp only[BL,Bd,Cj,Oy];omega),fun l8 n8=>?_⟩;have s7:=s5.trans (s6.trans t7);refine q l8 _ (A8.none s7 n8) (s7.trans (Ab n8 _)) ?_;rw[AH];unfold FG;simp only[CS,Mn,Mm,ZGC,CC]
def yA:Ak ["row","name","at"] ["row","name","at"] (AV Yz):=by walk_at "z1"
def xP (F:AE K "row_with" "row_with" Yz f fd)(m:mg "row_with"=some (.ref f)):
  A7 P w K mg base "row_with" 1 ["row","name","at"] (iM):=by
 refine A7.mk F (F.binds (by walk_at "bD3")) m (F.Am (k:=0) yA (fun vs H Q E h=>?_) (fun AU A outer s H vs Q E hr h=>?_))
 ·obtain⟨a,tp,ns,x,i,rfl,hS,hz,q⟩:=h;rfl
 obtain⟨a,tp,ns,x,i,rfl,hS,hz,q⟩:=h;refine⟨_,(AB rfl (Aa (B2 Hq (B2 Hq (Cr JH Bk (A0 (Dh KQ (qv 0) EG (DK (qv 2))) A5)) (EH (A0 (qv 1) A5))) (Cr JH Bk (A0 (Dh KQ (qv 0) (DK (qv 2)) EG) A5))))),?_⟩;have hl:=D7 ns;have zz:∀n:Nat,n<=2001->n<=sizeLine:=fun n h=>CZ h (by decide +kernel);refine⟨_,rfl,_,rfl,_,rfl,a,tp,_,rfl,BF.sq hS,fun p1 H1 s1 e1=>?_⟩;rw[NW] at e1;refine⟨p1,_,rfl,e1.or,fun l1 n1=>?_⟩;have t1:=Ab n1 (.lst ((ns.map V.str).take i));refine⟨_,rfl,zz _ (by show 1<=2001;decide),fun l2 n2=>?_⟩;have t2:=Ab n2 (.lst [.str x]);refine⟨l1,l2,_,_,rfl,rfl,t2 _ _ AH,AH,zz _ (by simp only[Bd,lV];omega),fun l3 n3=>?_⟩;have t3:=Ab n3 (.lst ((ns.map V.str).take i++[.str x]));have s3:=s1.trans (t1.trans (t2.trans t3));refine⟨_,rfl,_,rfl,_,rfl,a,tp,_,rfl,BF.sq (s3 _ _ hS),fun p4 H4 s4 e4=>?_⟩;rw[Nr] at e4;refine⟨p4,_,rfl,e4.or,fun l5 n5=>?_⟩;have t5:=Ab n5 (.lst ((ns.map V.str).drop i));refine⟨l3,l5,_,_,rfl,rfl,t5 _ _ (s4 _ _ AH),AH,zz _ (by simp only[BL,Bd,Cj,lV];omega),fun l6 n6=>?_⟩;have s5:=s3.trans (s4.trans t5);refine q l6 _ (A8.none s5 n6) (s5.trans (Ab n6 _)) ?_;rw[AH];unfold ins;simp only[CS,Mn,Bn,Mm,CC,List.singleton_append]
def oP:Ak ["row","name"] ["row","name"] (AV R0):=by walk_at "z1"
def xT:Scope:={ kind:=.function,names:=[(".0", .local),("thing", .local),("name", .free)],isGenerator:=false,isCoroutine:=false,more:=[] }
def ZCH:Cw ["row","name"] (AV R0) xT "thing" ["name"] [1]:=by walk_at "z2"
def ZCC (F:AE K "row_without" "row_without" R0 f fd)(m:mg "row_without"=some (.ref f)):
  A7 P w K mg base "row_without" 1 ["row","name"] (jW):=by
 refine A7.mk F (F.binds (by walk_at "bD2")) m (F.Am (k:=0) oP (fun vs H Q E h=>?_) (fun AU A outer s H vs Q E hr h=>?_))
 ·obtain⟨a,tp,ns,x,rfl,hS,hz,q⟩:=h;rfl
 obtain⟨a,tp,ns,x,rfl,hS,hz,q⟩:=h;refine⟨_,(AB rfl (Aa (FK rfl ZCH (ED (qv 0)) (fun _ _ _ _=>by exact(GU (Ae G0 (qv 1) (qv 0)))) (fun _ _ _ _=>by exact(qv 1))))),?_⟩;have hl:=D7 ns;refine⟨_,rfl,tp,a,_,rfl,BF.sq hS,fun acc Ax=>JP (He (.str x)) (fun v=>v) (BF.sq hS) Ax (by rw[hl];exact small (by omega)) (fun i v H' Q' hv s1 h=>?_) (fun i v H' Q' hv _ s1 h=>?_) (fun H' s1 e1=>?_)⟩
 ·obtain⟨y,rfl,hm⟩:=JI hv;exact⟨_,rfl,_,rfl,rfl,_,rfl,h H' (A8.refl _)⟩
 ·exact⟨_,rfl,h H' (A8.refl _)⟩
 ·rw[Na] at e1;exact q acc H' Ax s1 e1
def oe:Ak ["row","deed"] ["row","deed"] (AV V5):=by walk_at "z1"
def qw (F:AE K "done" "done" V5 f fd)(m:mg "done"=some (.ref f)):
  A7 P w K mg base "done" 4 ["row","deed"] (Uz):=by
 refine A7.mk F (F.binds (by walk_at "bD2")) m (F.Am (k:=3) oe (fun vs H Q E h=>?_) (fun AU A outer s H vs Q E hr h=>?_))
 ·obtain⟨a,t,tp,ns,d,rfl,hS,hT,Km,hd,hz,q⟩:=h;rfl
 obtain⟨a,t,tp,ns,d,rfl,hS,hT,Km,hd,hz,q⟩:=h;refine⟨_,(AG rfl (Cf (AQ Yk hr (A0 (qv 0) (A0 (qv 1) A5))))
   (AG rfl (Ap (Ae C2 (AM AZ (qv 1) A9) Ac) (AB rfl (Aa (AQ PJ hr (A0 (qv 0) (A0 (AM AZ (qv 1) A9) (A0 (AM AZ (qv 1) A9) A5)))))) Ay)
   (AG rfl (Ap (Ae C2 (AM AZ (qv 1) A9) Ac) (AB rfl (Aa (AQ Qd hr (A0 (qv 0) (A0 (AM AZ (qv 1) A9) A5))))) Ay)
   (AG rfl (Ap (Ae C2 (AM AZ (qv 1) A9) Ac) (AB rfl (Aa (AQ PJ hr (A0 (AQ Qd hr (A0 (qv 0) (A0 (AM AZ (qv 1) A9) A5))) (A0 (AM AZ (qv 1) A9) (A0 (AM AZ (qv 1) A9) A5)))))) Ay)
   (AB rfl (Aa (AQ XW hr (A0 (qv 0) (A0 (AM AZ (qv 1) A9) (A0 (AM AZ (qv 1) A9) A5)))))))))),?_⟩
 refine⟨_,rfl,_,rfl,a,t,tp,ns,d,rfl,hS,hT,hd,fun H1 s1=>?_⟩;have Bc:=s1 _ _ hT;have Dr:=s1 _ _ hS;have fin:J1 H1 Q (d.done ns):=fun l H' n s e=>q l H' (A8.none s1 n) (s1.trans s) e;cases d with
 | put x i=>
  refine⟨_,rfl,t,_,_,_,rfl,rfl,AA.of Bc,rfl,rfl,_,rfl,HP (by decide +kernel) ?_⟩;exact⟨_,rfl,_,rfl,t,_,_,_,rfl,rfl,AA.of Bc,rfl,_,rfl,t,_,_,_,rfl,rfl,AA.of Bc,rfl,a,tp,ns,x,i,rfl,Dr,by omega,fin⟩
 | take x=>
  refine⟨_,rfl,t,_,_,_,rfl,rfl,AA.of Bc,rfl,rfl,_,rfl,BM (by decide +kernel) ?_⟩;refine⟨_,rfl,t,_,_,_,rfl,rfl,AA.of Bc,rfl,rfl,_,rfl,HP (by decide +kernel) ?_⟩;exact⟨_,rfl,_,rfl,t,_,_,_,rfl,rfl,AA.of Bc,rfl,a,tp,ns,x,rfl,Dr,by omega,fin⟩
 | move x i=>
  refine⟨_,rfl,t,_,_,_,rfl,rfl,AA.of Bc,rfl,rfl,_,rfl,BM (by decide +kernel) ?_⟩;refine⟨_,rfl,t,_,_,_,rfl,rfl,AA.of Bc,rfl,rfl,_,rfl,BM (by decide +kernel) ?_⟩;refine⟨_,rfl,t,_,_,_,rfl,rfl,AA.of Bc,rfl,rfl,_,rfl,HP (by decide +kernel) ?_⟩;refine⟨_,rfl,_,rfl,t,_,_,_,rfl,rfl,AA.of Bc,rfl,a,tp,ns,x,rfl,Dr,by omega,fun l2 H2 n2 s2 e2=>?_⟩;have CQ:=s2 _ _ Bc;have hw:(wo ns x).length<=ns.length:=Fq _ _;exact⟨_,rfl,t,_,_,_,rfl,rfl,AA.of CQ,rfl,_,rfl,t,_,_,_,rfl,rfl,AA.of CQ,rfl,l2,false,wo ns x,x,i,rfl,e2,by omega,fun l H' n s e=>fin l H' (A8.none s2 n) (s2.trans s) e⟩
 | turn lo hi=>
  refine⟨_,rfl,t,_,_,_,rfl,rfl,AA.of Bc,rfl,rfl,_,rfl,BM (by decide +kernel) ?_⟩;refine⟨_,rfl,t,_,_,_,rfl,rfl,AA.of Bc,rfl,rfl,_,rfl,BM (by decide +kernel) ?_⟩;refine⟨_,rfl,t,_,_,_,rfl,rfl,AA.of Bc,rfl,rfl,_,rfl,BM (by decide +kernel) ?_⟩;exact⟨_,rfl,_,rfl,t,_,_,_,rfl,rfl,AA.of Bc,rfl,_,rfl,t,_,_,_,rfl,rfl,AA.of Bc,rfl,a,tp,ns,lo,hi,rfl,Dr,Km,by omega,hd.1,hd.2,fin⟩
def wc:Ak ["gap","at"] ["gap","at"] (AV Tq):=by walk_at "z1"
def rG (F:AE K "gap_behind_put" "gap_behind_put" Tq f fd)(m:mg "gap_behind_put"=some (.ref f)):
  A7 P w K mg base "gap_behind_put" 1 ["gap","at"] (iS):=by
 refine A7.mk F (F.binds (by walk_at "bD2")) m (F.Am (k:=0) wc (fun vs H Q E h=>?_) (fun AU A outer s H vs Q E hr h=>?_))
 ·obtain⟨g,i,rfl,q⟩:=h;rfl
 obtain⟨g,i,rfl,q⟩:=h;refine⟨_,(AG rfl (Ap (Ae GY (qv 1) (qv 0)) (AB rfl (Aa (B2 Dt (qv 0) A9))) Ay)
   (AB rfl (Aa (qv 0)))),?_⟩
 refine⟨_,rfl,_,rfl,_,_,rfl,rfl,_,rfl,?_⟩;refine B5 (fun c=>?_) (fun c=>?_)
 ·have c':(i:Int)<(g:Int):=qH c;have e:((Ey i g:Nat):Int)=(g:Int)+1:=by unfold Ey;rw[pR (by omega)];omega
  rw[e] at q;exact⟨_,rfl,_,_,rfl,rfl,q⟩
 ·have c':¬ (i:Int)<(g:Int):=fun z=>c (nV z);have e:Ey i g=g:=by unfold Ey;rw[nr (by omega)]
  rw[e] at q;exact⟨_,rfl,q⟩
def ZE0:Ak ["gap","place"] ["gap","place"] (AV Ud):=by walk_at "z1"
def ZBy (F:AE K "gap_behind_take" "gap_behind_take" Ud f fd)(m:mg "gap_behind_take"=some (.ref f)):
  A7 P w K mg base "gap_behind_take" 1 ["gap","place"] (bu):=by
 refine A7.mk F (F.binds (by walk_at "bD2")) m (F.Am (k:=0) ZE0 (fun vs H Q E h=>?_) (fun AU A outer s H vs Q E hr h=>?_))
 ·obtain⟨g,p,rfl,q⟩:=h;rfl
 obtain⟨g,p,rfl,q⟩:=h;refine⟨_,(AG rfl (Ap (Ae GY (qv 1) (qv 0)) (AB rfl (Aa (B2 QV (qv 0) A9))) Ay)
   (AB rfl (Aa (qv 0)))),?_⟩
 refine⟨_,rfl,_,rfl,_,_,rfl,rfl,_,rfl,?_⟩;refine B5 (fun c=>?_) (fun c=>?_)
 ·have c':(p:Int)<(g:Int):=qH c;have e:((EZ p g:Nat):Int)=(g:Int) - 1:=by unfold EZ;rw[pR (by omega)];omega
  rw[e] at q;exact⟨_,rfl,_,_,rfl,rfl,q⟩
 ·have c':¬ (p:Int)<(g:Int):=fun z=>c (nV z);have e:EZ p g=g:=by unfold EZ;rw[nr (by omega)]
  rw[e] at q;exact⟨_,rfl,q⟩
def qc:Ak ["row","gap","deed"] ["row","gap","deed"] (AV Yx):=by walk_at "z1"
def tT (F:AE K "gap_led" "gap_led" Yx f fd)(m:mg "gap_led"=some (.ref f)):
  A7 P w K mg base "gap_led" 3 ["row","gap","deed"] (kf):=by
 refine A7.mk F (F.binds (by walk_at "bD3")) m (F.Am (k:=2) qc (fun vs H Q E h=>?_) (fun AU A outer s H vs Q E hr h=>?_))
 ·obtain⟨a,t,tp,ns,g,d,rfl,hS,hT,ok,q⟩:=h;rfl
 obtain⟨a,t,tp,ns,g,d,rfl,hS,hT,ok,q⟩:=h;refine⟨_,(AG rfl (Ap (Ae C2 (AM AZ (qv 2) A9) Ac) (AB rfl (Aa (AQ Qu hr (A0 (qv 1) (A0 (AM AZ (qv 2) A9) A5))))) Ay)
   (AG rfl (Ap (Ae C2 (AM AZ (qv 2) A9) Ac) (AB rfl (Aa (AQ RG hr (A0 (qv 1) (A0 (AQ EX hr (A0 (qv 0) (A0 (AM AZ (qv 2) A9) A5))) A5))))) Ay)
   (AG rfl (Ap (Ae C2 (AM AZ (qv 2) A9) Ac) (AB rfl (Aa (AQ Qu hr (A0 (AQ RG hr (A0 (qv 1) (A0 (AQ EX hr (A0 (qv 0) (A0 (AM AZ (qv 2) A9) A5))) A5))) (A0 (AM AZ (qv 2) A9) A5))))) Ay)
   (AB rfl (Aa (qv 1)))))),?_⟩
 have e1:=hT;have a1:=hS;refine⟨_,rfl,t,_,_,_,rfl,rfl,AA.of e1,Gj d,rfl,_,rfl,B5 (fun c1=>?_) (fun c1=>?_)⟩
 ·obtain⟨x,i,rfl⟩:=Z3 c1;exact⟨_,rfl,_,rfl,t,_,_,_,rfl,rfl,AA.of e1,rfl,g,i,rfl,q⟩
 refine⟨_,rfl,t,_,_,_,rfl,rfl,AA.of e1,Gj d,rfl,_,rfl,B5 (fun c2=>?_) (fun c2=>?_)⟩
 ·obtain⟨x,rfl⟩:=Vc c2;exact⟨_,rfl,_,rfl,_,rfl,t,_,_,_,rfl,rfl,AA.of e1,rfl,a,tp,ns,x,rfl,a1,ok,g,_,rfl,q⟩
 refine⟨_,rfl,t,_,_,_,rfl,rfl,AA.of e1,Gj d,rfl,_,rfl,B5 (fun c3=>?_) (fun c3=>?_)⟩
 ·obtain⟨x,i,rfl⟩:=uh c3;exact⟨_,rfl,_,rfl,_,rfl,t,_,_,_,rfl,rfl,AA.of e1,rfl,a,tp,ns,x,rfl,a1,ok.1,g,_,rfl,_,rfl,t,_,_,_,rfl,rfl,AA.of e1,rfl,_,i,rfl,q⟩
 obtain⟨lo,hi,rfl⟩:=pF c1 c2 c3;exact⟨_,rfl,q⟩
def ZCl:Ak ["loop","at"] ["loop","at"] (AV Y1):=by walk_at "z1"
def ZB5 (F:AE K "joins" "joins" Y1 f fd)(m:mg "joins"=some (.ref f)):
  A7 P w K mg base "joins" 1 ["loop","at"] (kB):=by
 refine A7.mk F (F.binds (by walk_at "bD2")) m (F.Am (k:=0) ZCl (fun vs H Q E h=>?_) (fun AU A outer s H vs Q E hr h=>?_))
 ·obtain⟨t,r,g,i,c,rfl,hT,q⟩:=h;rfl
 obtain⟨t,r,g,i,c,rfl,hT,q⟩:=h;refine⟨_,(AB rfl (Aa (rD (Cs C2 (AM AZ (qv 0) A9) Ac) (IJ (HN (Cs C2 (AM AZ (qv 0) A9) Ac) (IJ (Cs J8 (qv 1) (AM AZ (qv 0) A9)))))))),?_⟩;refine⟨_,rfl,t,_,_,_,rfl,rfl,AA.of hT,rfl,rfl,_,rfl,?_⟩;refine B5 (fun c1=>?_) (fun c1=>?_)
 ·have e:DP r g i=true:=by unfold DP;rw[pR c1]
  rw[e] at q;exact q
 ·refine⟨_,rfl,t,_,_,_,rfl,rfl,AA.of hT,rfl,rfl,_,rfl,?_⟩;refine B5 (fun c2=>?_) (fun c2=>?_)
  ·have e:DP r g i=decide ((g:Int)<=(i:Int)):=by unfold DP;rw[nr c1,pR c2]
   rw[e] at q;exact⟨_,rfl,_,rfl,t,_,_,_,rfl,rfl,AA.of hT,rfl,_,_,rfl,rfl,q⟩
  ·have e:DP r g i=false:=by unfold DP;rw[nr c1,nr c2]
   rw[e] at q;exact q
def uf:Ak ["loop","deed"] ["loop","deed"] (AV Xq):=by walk_at "z1"
def mQ (F:AE K "coming_behind" "coming_behind" Xq f fd)(m:mg "coming_behind"=some (.ref f)):
  A7 P w K mg base "coming_behind" 2 ["loop","deed"] (c6):=by
 refine A7.mk F (F.binds (by walk_at "bD2")) m (F.Am (k:=1) uf (fun vs H Q E h=>?_) (fun AU A outer s H vs Q E hr h=>?_))
 ·obtain⟨tl,t,c,r,g,ss,d,rfl,⟨hL,hC⟩,hT,hz,up,hx,q⟩:=h;rfl
 obtain⟨tl,t,c,r,g,ss,d,rfl,⟨hL,hC⟩,hT,hz,up,hx,q⟩:=h;refine⟨_,(AG rfl (Ap (Ae C2 (AM AZ (qv 1) A9) Ac) (AB rfl (Aa (AQ MB hr (A0 (AM AZ (qv 0) A9) (A0 (AM AZ (qv 1) A9) A5))))) Ay)
   (AG rfl (Ap (Hr (Ae C2 (AM AZ (qv 1) A9) Ac) (IM (DV (AQ WC hr (A0 (qv 0) (A0 (AM AZ (qv 1) A9) A5)))))).pt (AB rfl (Aa (Cr JJ C0 (A0 (An KA BW (A0 (B2 Zv (AM AZ (qv 0) A9) (Bv (A0 (AM AZ (qv 1) A9) A5))) A5)) A5)))) Ay)
   (AB rfl (Aa (AM AZ (qv 0) A9))))),?_⟩
 refine⟨_,rfl,t,_,_,_,rfl,rfl,AA.of hT,Gj d,rfl,_,rfl,B5 (fun c2=>?_) (fun c2=>?_)⟩
 ·obtain⟨x,rfl⟩:=Vc c2;exact⟨_,rfl,tl,_,_,_,rfl,rfl,AA.of hL,rfl,_,rfl,t,_,_,_,rfl,rfl,AA.of hT,rfl,c,ss,x,rfl,AA.of hC,by omega,fun l H' hl s e=>q l H' (.inl hl) s e⟩
 refine⟨_,rfl,t,_,_,_,rfl,rfl,AA.of hT,Gj d,rfl,_,rfl,B5 (fun c1=>?_) (fun c1=>DS ⟨_,rfl,tl,_,_,_,rfl,rfl,AA.of hL,rfl,q c _ (.inr rfl) (A8.refl _) (by rw[ZFX c1 c2];exact hC)⟩)⟩;obtain⟨x,i,rfl⟩:=Z3 c1;refine⟨_,rfl,_,rfl,t,_,_,_,rfl,rfl,AA.of hT,rfl,tl,r,g,i,c,rfl,hL,_,rfl,?_⟩;refine B5 (fun hj=>?_) (fun hj=>⟨_,rfl,tl,_,_,_,rfl,rfl,AA.of hL,rfl,q c _ (.inr rfl) (A8.refl _) (by rw[VP (Bool.eq_false_iff.mpr hj)];exact hC)⟩);refine⟨_,rfl,tl,_,_,_,rfl,rfl,AA.of hL,rfl,_,rfl,t,_,_,_,rfl,rfl,AA.of hT,rfl,(by show 1<=sizeLine;decide),fun t1 Kf=>?_⟩;have n1:=Ab Kf (.tup [.str x]);refine⟨c,t1,_,_,rfl,rfl,AA.of (n1 _ _ hC),AA.of AH,by simp,small (by rw[D7];simp;omega),fun p2 H2 s2 e2=>?_⟩;have CF:AA K H2 p2 ((ss++[x]).map V.str):=by rw[CS];exact e2
 refine⟨p2,true,ss++[x],rfl,CF,by rw[BL];simp;omega,fun l3 ts LX hp hs=>?_⟩;have n3:=Ab LX (.lst (ts.map V.str));refine⟨l3,_,rfl,.inl ⟨AI.of AH,fun c4 Rr=>?_⟩⟩;exact q c4 _ (.inl (A8.none (n1.trans (s2.trans n3)) Rr)) (n1.trans (s2.trans (n3.trans (Ab Rr _)))) (by rw[AH,V8 hp hs up (hx x i rfl),Xg hj])
def va:Ak ["row","loop","deed"] ["row","loop","deed"] (AV V6):=by walk_at "z1"
def ZB3 (F:AE K "loop_led" "loop_led" V6 f fd)(m:mg "loop_led"=some (.ref f)):
  A7 P w K mg base "loop_led" 4 ["row","loop","deed"] (Ug):=by
 refine A7.mk F (F.binds (by walk_at "bD3")) m (F.Am (k:=3) va (fun vs H Q E h=>?_) (fun AU A outer s H vs Q E hr h=>?_))
 ·obtain⟨a,tl,t,c,tp,ns,r,g,ss,d,rfl,hS,⟨Iq,b6⟩,hT,ok,gd,hz,q⟩:=h;rfl
 obtain⟨a,tl,t,c,tp,ns,r,g,ss,d,rfl,hS,⟨Iq,b6⟩,hT,ok,gd,hz,q⟩:=h;refine⟨_,(AB rfl (Aa (Bv (A0 (AM AZ (qv 1) A9) (A0 (AQ Xd hr (A0 (qv 0) (A0 (AM AZ (qv 1) A9) (A0 (qv 2) A5)))) (A0 (AQ Tn hr (A0 (qv 1) (A0 (qv 2) A5))) A5)))))),?_⟩;have hlen:=gd.len;have g1:=gd.g1;refine⟨_,rfl,tl,_,_,_,rfl,rfl,AA.of Iq,rfl,_,rfl,_,rfl,tl,_,_,_,rfl,rfl,AA.of Iq,rfl,_,rfl,a,t,tp,ns,g,d,rfl,hS,hT,ok,?_⟩;refine⟨_,rfl,_,rfl,tl,t,c,r,g,ss,d,rfl,⟨Iq,b6⟩,hT,by omega,gd.up,W3 gd ok,fun c3 H3 f3 s3 e3=>?_⟩;refine⟨(by show 3<=sizeLine;decide),fun t4 HQ=>?_⟩;have n4:=Ab HQ (.tup [.str r,.int (d.gap ns g:Nat),.ref c3]);exact q t4 c3 _ (A8.none s3 HQ) f3 (s3.trans n4) ⟨AH,n4 _ _ e3⟩
def ZF:Ak ["self","deed","behind","name"] ["self","deed"] (AV WT):=by walk_at "z1"
def kj:∀ss R,(Yn A3) ss R->ss.length=2:=by rintro _ _ ⟨m,s,a,t,d,rfl,_,_,_,_,rfl⟩;rfl
def pV (F:AE K "act" "Yard.act" WT f fd)(mt:Meth K A3 "act" f):
  C6 P w K mg base A3 "act" 9 ["self","deed"] (Cu (Yn A3)):=by
 refine⟨f,fd,F.Am (k:=8) ZF (fun vs H Q E h=>Fz.Jg kj h) (fun AU A outer s H vs Q E hr h=>?_),(F.binds (by walk_at "bD2")),mt,Au⟩
 refine⟨_,(AG rfl (B3 2 ZF.nd (AQ WM hr (A0 (D2 (qv 0)) (A0 (qv 1) A5))))
   (AG rfl (Cq (HF Gz rfl (ED (Cr (kG rfl) Bk (A0 (D2 (qv 0)) A5))) (D0 3 ZF.nd) (AB rfl (Kh (BO hr) (D2 (qv 0)) (qv 3) (AQ ZG hr (A0 (D2 (qv 0)) (A0 (Bl (BO hr) (D2 (qv 0)) (qv 3) (fun _ _=>rfl)) (A0 (qv 1) A5))))))))
   (AG rfl (Cf (FT GR LF LG JA (D2 (qv 0)) (A0 (Bv (A0 (D2 (qv 0)) (A0 (qv 1) A5))) A5)))
   (AB rfl (O2 (qv 0) (qv 2)))))),?_⟩
 refine Fz.Rz h kj ?_;rintro _ _ ⟨m,s,a,t,d,rfl,hT,ok,hd,hp,rfl⟩;obtain⟨dx,aK,aP,rfl⟩:=hT;show Ws [_,_,.any,.any] _ _ _;have l1:=ok.l1;have lf:=ok.G1;have hr:=ok.row.len;have h4:=ok.m4;refine BB (JX (tX (Bp (DW (N1 rfl Au Ca ⟨_,rfl,_,.inl ⟨rfl,rfl,s.row,rfl,AN rfl ⟨d,rfl,hd,by omega,?_⟩⟩⟩)))));refine Rg 2 rfl ?_;show Ws [.ow true (B7 s A3 a dx aK aP),.is (dP d),.is (.lst ((d.done s.row).map .str)),.any] _ _ _;refine BB (Hz (Hx (fun _ i AL=>∃(s3:Slot) (t':OV),AL=[.ow true t',.is (dP d),.is (.lst ((d.done s.row).map .str)),s3]/\E6 (s.mid d i) A3 a t') (OD (J5 (Ed (gA (Jl rfl Au CN ⟨Ai s.ln,aK,_,rfl,by unfold Ai;rw[AX];omega,_,.inl ⟨rfl,?_⟩⟩)))))));rw[aL];refine⟨⟨_,_,rfl,dx,aK,aP,rfl⟩,?_,?_⟩
 ·rintro i p AL hp ⟨s3,t',rfl,Fn⟩;rw[Az] at hp;obtain⟨x,hx,rfl⟩:=Option.map_eq_some_iff.mp hp;refine K2 ?_;obtain⟨Il,D5,DU,rfl⟩:=Fn;have xm:x∈s.ln:=DD hx;have ix:s.ln.idxOf x=i:=LO ok.n1 hx;have hi:i<s.ln.length:=(List.getElem?_eq_some_iff.mp hx).1;obtain⟨l,el⟩:∃l,s.ll[i]?=some l:=⟨_,B9 (by omega)⟩;have gl:=ok.good l (DD el);refine Ku (i:=0) (t:=B7 (s.mid d i) A3 a Il D5 DU) (FX (ZDT (Bp (DW (N1 rfl Au Ca ⟨_,rfl,_,.inl ⟨rfl,s.row,rfl,?_⟩⟩)))));refine DW (Le (Jl rfl Au CN ⟨Ai s.ln,D5,_,rfl,AN rfl ⟨.inr x,i,.fz l.P,rfl,by rw[Kq xm,ix],ZH (kJ el),_,rfl,l.r,l.g,l.cs,rfl,AN rfl ⟨d,rfl,hd,gl,by omega,?_⟩⟩⟩));refine Jl rfl Au CN ⟨true,D5,Ai s.ln,_,rfl,rfl,by unfold BV;rw[AX];show(FH s d i).length<=99999;rw[km];omega,IC ok.n1,B4,AN rfl ⟨.inr x,rfl,?_⟩⟩;rw[QQ xm,RE xm];unfold B7;rw[show([]++[1]:List Nat)=[1] from rfl,Sb,ix];have e2:(BV (s.mid d i).ll).set i (.fz (Cc l.r (d.gap s.row l.g) (d.FO l.r l.g l.cs)))=BV (FH s d (i+1)):=by
   rw[<- gT el];exact PD _ _ (l.led s.row d)
  rw[e2];exact⟨_,_,rfl,Il,D5,DU,rfl⟩
 ·rintro AL ⟨s3,t',rfl,Fn⟩;rw[AX,l1] at Fn;obtain⟨Il,D5,DU,rfl⟩:=Fn;have em:(s.mid d s.ll.length).ll=s.ll.map (Lp.led s.row d):=iZ s d;refine BB (dW (i:=0) (t:=B7 (s.mid d s.ll.length) A3 a Il D5 DU) (wZ rfl Au IB ⟨true,DU,_,rfl,rfl,by rw[AX];show s.pa.length<=99999;omega,FX (Kt (Ka (DW (N1 rfl Au Ca ⟨_,rfl,Ka (AN rfl (Q2 ⟨by show 2<=100000;decide,B4,?_⟩))⟩))))⟩));unfold B7;rw[show([]++[2]:List Nat)=[2] from rfl,ZDe,em];have ep:s.pa.map .fz++[.fz (.tup [.lst (s.row.map .str),dP d])]=(s.pa++[OY s.row d]).map OV.fz:=by rw[CS];rfl
  show Ws [.ow true (.nd (.obj A3 Il yN) a [.fz (.lst (s.row.map .str)),.nd (.Aq (Ai s.ln)) D5 (BV (s.ll.map (Lp.led s.row d))),.nd .lst DU (s.pa.map .fz++[.fz (.tup [.lst (s.row.map .str),dP d])]),.fz (.int s.fg)]),.is (dP d),.is (.lst ((d.done s.row).map .str)),s3] _ _ _;rw[ep];refine Mp (i:=0) (FX (AN rfl (Dd rfl ⟨true,A3,Il,yN,a,_,rfl,rfl,Au,Ca,by decide,B4,?_⟩)));rw[OV.GK];exact⟨_,_,_,_,rfl,rfl,rfl,Il,D5,DU,rfl⟩
def Qk:Ak ["row","deed","made","low","high"] ["row","deed"] (AV Pb):=by walk_at "z1"
def ZCm:Scope:={ kind:=.function,names:=[(".0", .local),("name", .local),("deed", .free)],isGenerator:=false,isCoroutine:=false,more:=[] }
def vJ:Cw ["row","deed","made","low","high"] (AV Pb) ZCm "name" ["deed"] [1]:=by walk_at "z2"
def ZBm (F:AE K "_law_done" "_law_done" Pb f fd)(m:mg "_law_done"=some (.ref f)):
  A7 P w K mg base "_law_done" 1 ["row","deed"] (WU):=by
 refine A7.mk F (F.binds (by walk_at "bD2")) m (F.Am (k:=0) Qk (fun vs H Q E h=>?_) (fun AU A outer s H vs Q E hr h=>?_))
 ·obtain⟨a,t,ns,d,rfl,hS,hT,hd,hz,nd,q⟩:=h;rfl
 obtain⟨a,t,ns,d,rfl,hS,hT,hd,hz,nd,q⟩:=h;refine⟨_,(AG rfl (Tt (i:=2) Qk.nd rfl (Or.inl rfl) rfl vJ (ED (qv 0)) (fun _ _ _ _=>by exact(GU (Ae G0 (qv 1) (AM (show En _ (Jh K) from AZ) (qv 0) A9)))) (fun _ _ _ _=>by exact(qv 1)))
   (AG rfl (Ap (Ae C2 (AM AZ (qv 1) A9) Ac) (AG rfl (LN (Dh aC (qv 1) (DK A9) EG) (MF rfl (FP (D0 3 Qk.nd) (FP (D0 4 Qk.nd) MG))))
   (AB rfl (Aa (B2 Hq (B2 Hq (Dh JL (qv 0) EG (DK (qv 3))) (iG rfl rfl Bk rfl MH (A0 (Dh JL (qv 0) (DK (qv 3)) (DK (qv 4))) A5))) (Dh JL (qv 0) (DK (qv 4)) EG))))) Ay)
   (AG rfl (Cq (Ap (Ae G0 (AM AZ (qv 1) A9) Ac) (AB rfl (Cf (FT GR ZGU PySem.F.type_list_insert ZCT (qv 2) (A0 (AM AZ (qv 1) A9) (A0 (AM AZ (qv 1) A9) A5))))) Ay))
   (AB rfl (Aa (qv 2)))))),?_⟩
 have hl:=D7 ns;have zz:∀n:Nat,n<=2001->n<=sizeLine:=fun n h=>CZ h (by decide +kernel);have CJ:CA K false H a (ns.map V.str):=AI.of hS;have hml:=oB ns d;refine⟨_,rfl,false,a,_,rfl,CJ,fun acc Ax=>JP (He d.v1) (fun v=>v) CJ Ax (by rw[hl];exact small (by omega)) (fun i v H' Q' hv s1 h=>?_) (fun i v H' Q' hv _ s1 h=>?_) (fun H' s1 e1=>?_)⟩
 ·obtain⟨y,rfl,hm⟩:=JI hv;exact⟨_,rfl,_,rfl,t,_,_,_,rfl,rfl,AA.of (s1 _ _ hT),jK d,ZFJ y d,_,rfl,h H' (A8.refl _)⟩
 ·exact⟨_,rfl,h H' (A8.refl _)⟩
 have Bc:=s1 _ _ hT;rw[o6] at e1;refine⟨_,rfl,t,_,_,_,rfl,rfl,AA.of Bc,Gj d,rfl,_,rfl,B5 (fun c1=>?_) (fun c1=>?_)⟩
 ·obtain⟨lo,hi,rfl⟩:=ZAg c1;obtain⟨h1,h2⟩:=hd;refine⟨_,rfl,_,rfl,t,_,rfl,AA.of Bc,(fun h=>absurd h.1 (show ¬ HT.Aj 3 0 (some 1)=0 by decide)),fun p n=>?_⟩;have n1:=Ab n (.tup (C7 (AR.turn lo hi).vals (some 1) none));refine⟨p,_,rfl,AA.of AH,rfl,_,_,rfl,_,_,rfl,rfl,?_⟩;have s2:=s1.trans n1;have e2:=s2 _ _ hS;refine⟨_,rfl,_,rfl,_,rfl,a,_,rfl,AI.of e2,fun l3 n3=>?_⟩;rw[NW];have t3:=Ab n3 (.lst ((ns.map V.str).take lo));have s3:=s2.trans t3;refine⟨_,rfl,_,rfl,_,rfl,_,rfl,_,rfl,a,_,rfl,AI.of (s3 _ _ hS),fun l4 n4=>?_⟩;rw[iN _ h1 (by rw[hl];exact h2)];have t4:=Ab n4 (.lst (((ns.map V.str).drop lo).take (hi - lo)));refine⟨l4,false,_,rfl,AI.of AH,rfl,fun l5 n5=>?_⟩;have t5:=Ab n5 (.lst (((ns.map V.str).drop lo).take (hi - lo)).reverse);refine⟨l3,l5,_,_,rfl,rfl,t5 _ _ (t4 _ _ AH),AH,zz _ (by simp only[Bd,Oy,Cj];omega),fun l6 n6=>?_⟩;have t6:=Ab n6 (.lst ((ns.map V.str).take lo++(((ns.map V.str).drop lo).take (hi - lo)).reverse));have s6:=s3.trans (t4.trans (t5.trans t6));refine⟨_,rfl,_,rfl,_,rfl,a,_,rfl,AI.of (s6 _ _ hS),fun l7 n7=>?_⟩;rw[Nr];have t7:=Ab n7 (.lst ((ns.map V.str).drop hi));refine⟨l6,l7,_,_,rfl,rfl,t7 _ _ AH,AH,zz _ (by simp only[BL,Bd,Cj,Oy];omega),fun l8 n8=>?_⟩;have s7:=s6.trans t7;refine q l8 _ (A8.none s7 n8) (s7.trans (Ab n8 _)) ?_;rw[AH];show some (HO.lst _)=some (HO.lst ((FG ns lo hi).map V.str));unfold FG;simp only[CS,Mn,Mm,ZGC,CC]
 ·refine⟨fun σ' H'=>σ'=[some (.ref a),some (.ref t),some (.ref acc),none,none]/\A8 H H'/\H' acc=some (.lst ((d.done ns).map V.str)),?_,?_⟩
  ·refine⟨_,rfl,t,_,_,_,rfl,rfl,AA.of Bc,Gj d,rfl,_,rfl,B5 (fun c2=>?_) (fun c2=>⟨rfl,s1,by rw[ZC0 c2];exact e1⟩)⟩;obtain⟨x,i,Lx,hv,EC,hdn⟩:=ZBT hd nd c1 c2;refine⟨_,rfl,.inl ⟨rfl,_,AI.of e1⟩,_,rfl,t,_,_,_,rfl,rfl,AA.of Bc,Lx,_,rfl,t,_,_,_,rfl,rfl,AA.of Bc,jK d,acc,_,_,_,rfl,rfl,e1,by omega,by rw[D7];omega,by rw[D7];exact Hm hml (Hm hz (by decide +kernel)),?_⟩;refine⟨rfl,mM s1 Ax,?_⟩;rw[AH,hdn,hv];unfold ins;simp only[CS,Mn,Bn,Mm,Jo]
  ·rintro σ' H2 ⟨rfl,s2,e2⟩;exact⟨_,rfl,q acc H2 Ax s2 e2⟩
def Uk:Ak ["row","gap","deed"] ["row","gap","deed"] (AV Xl):=by walk_at "z1"
def we (F:AE K "_law_gap" "_law_gap" Xl f fd)(m:mg "_law_gap"=some (.ref f)):
  A7 P w K mg base "_law_gap" 1 ["row","gap","deed"] (fP):=by
 refine A7.mk F (F.binds (by walk_at "bD3")) m (F.Am (k:=0) Uk (fun vs H Q E h=>?_) (fun AU A outer s H vs Q E hr h=>?_))
 ·obtain⟨a,t,ns,g,d,rfl,hS,hT,ok,q⟩:=h;rfl
 obtain⟨a,t,ns,g,d,rfl,hS,hT,ok,q⟩:=h;refine⟨_,(AG rfl (Cq (Ap (Ae FJ (AM AZ (qv 2) A9) (Bv (A0 Ac (A0 Ac A5)))) (AB rfl (B3 1 Uk.nd (B2 QV (qv 1) (Cr U4 HX (A0 (Cs GY (FT GR Zk lz Y4 (qv 0) (A0 (AM AZ (qv 2) A9) A5)) (qv 1)) A5))))) Ay))
   (AG rfl (Cq (Ap (Ae FJ (AM AZ (qv 2) A9) (Bv (A0 Ac (A0 Ac A5)))) (AB rfl (B3 1 Uk.nd (B2 Dt (qv 1) (Cr U4 HX (A0 (Cs GY (AM AZ (qv 2) A9) (qv 1)) A5))))) Ay))
   (AB rfl (Aa (qv 1))))),?_⟩
 refine⟨fun σ' H'=>σ'=[some (.ref a),some (.int (d.Nj ns g:Nat)),some (.ref t)]/\A8 H H',?_,?_⟩
 ·refine⟨_,rfl,t,_,_,_,rfl,rfl,AA.of hT,Gj d,(by show 2<=sizeLine;decide),fun t1 Kf=>?_⟩;have n1:=Ab Kf (.tup [.str "take", .str "move"]);refine⟨t1,_,rfl,.inr (AA.of AH),rfl,rfl,_,rfl,?_⟩;show if D6 (.str d.kind) [.str "take", .str "move"]=true then _ else _
  refine B5 (fun c=>?_) (fun c=>?_)
  ·obtain⟨x,Ul,Kw,nc⟩:=me g ok c;refine⟨_,rfl,_,rfl,.inl ⟨rfl,_,AI.of (n1 _ _ hS)⟩,_,rfl,t,_,_,_,rfl,rfl,AA.of (n1 _ _ hT),Ul,a,ns,x,rfl,rfl,AI.of (n1 _ _ hS),Kw,_,rfl,_,_,rfl,rfl,.inr ⟨_,rfl,_,_,rfl,rfl,?_,n1⟩⟩;rw[nc,<- zA];rfl
  ·refine⟨?_,n1⟩;rw[xD g c];rfl
 rintro σ' H1 ⟨rfl,s1⟩;have Bc:=s1 _ _ hT;refine⟨fun σ' H'=>σ'=[some (.ref a),some (.int (d.gap ns g:Nat)),some (.ref t)]/\A8 H H',?_,?_⟩
 ·refine⟨_,rfl,t,_,_,_,rfl,rfl,AA.of Bc,Gj d,(by show 2<=sizeLine;decide),fun t2 L5=>?_⟩;have n2:=Ab L5 (.tup [.str "put", .str "move"]);refine⟨t2,_,rfl,.inr (AA.of AH),rfl,rfl,_,rfl,?_⟩;show if D6 (.str d.kind) [.str "put", .str "move"]=true then _ else _
  refine B5 (fun c=>?_) (fun c=>?_)
  ·obtain⟨i,Lx,EC⟩:=zX (ns:=ns) g c;refine⟨_,rfl,_,rfl,t,_,_,_,rfl,rfl,AA.of (n2 _ _ Bc),Lx,_,rfl,_,_,rfl,rfl,.inr ⟨_,rfl,_,_,rfl,rfl,?_,s1.trans n2⟩⟩;rw[EC,<- wI];rfl
  ·refine⟨?_,s1.trans n2⟩;rw[xW g c]
 rintro σ' H2 ⟨rfl,s2⟩;exact⟨_,rfl,q _ s2⟩
def MK:Ak ["row","loop","deed","rule","gap","coming"] ["row","loop","deed"] (AV Qm):=by walk_at "z1"
def ZBl:Scope:={ kind:=.function,names:=[(".0", .local),("name", .local),("deed", .free)],isGenerator:=false,isCoroutine:=false,more:=[] }
def qp:Cw ["row","loop","deed","rule","gap","coming"] (AV Qm) ZBl "name" ["deed"] [2]:=by walk_at "z2"
def z7 (F:AE K "_law_led" "_law_led" Qm f fd)(m:mg "_law_led"=some (.ref f)):
  A7 P w K mg base "_law_led" 2 ["row","loop","deed"] (UI):=by
 refine A7.mk F (F.binds (by walk_at "bD3")) m (F.Am (k:=1) MK (fun vs H Q E h=>?_) (fun AU A outer s H vs Q E hr h=>?_))
 ·obtain⟨a,tl,t,c,ns,r,g,ss,d,rfl,hS,⟨hL,hC⟩,hT,ok,gd,hz,q⟩:=h;rfl
 obtain⟨a,tl,t,c,ns,r,g,ss,d,rfl,hS,⟨hL,hC⟩,hT,ok,gd,hz,q⟩:=h;refine⟨_,(AG rfl (LN (qv 1) (MF rfl (FP (D0 3 MK.nd) (FP (D0 4 MK.nd) (FP (D0 5 MK.nd) MG)))))
   (AG rfl (Cq (Ap (Ae C2 (AM AZ (qv 2) A9) Ac) (AB rfl (B3 5 MK.nd (Cr JJ C0 (A0 (FK rfl qp (ED (qv 5)) (fun _ _ _ _=>by exact(GU (Ae G0 (qv 1) (AM (show En _ (Jh K) from AZ) (qv 0) A9)))) (fun _ _ _ _=>by exact(qv 1))) A5)))) Ay))
   (AG rfl (Cq (Ap (Hr (Ae C2 (AM AZ (qv 2) A9) Ac) (IM (Ds (Ae C2 (qv 3) Ac) (Fp (Hr (Ae C2 (qv 3) Ac) (IM (Ae J8 (AM AZ (qv 2) A9) (qv 4)))).pt)).pt)).pt (AB rfl (B3 5 MK.nd (Cr JJ C0 (A0 (An KA BW (A0 (B2 Zv (qv 5) (Bv (A0 (AM AZ (qv 2) A9) A5))) A5)) A5)))) Ay))
   (AB rfl (Aa (Bv (A0 (qv 3) (A0 (AQ TR hr (A0 (qv 0) (A0 (qv 4) (A0 (qv 2) A5)))) (A0 (qv 5) A5))))))))),?_⟩
 have hlen:=gd.len;refine⟨_,rfl,tl,_,rfl,AA.of hL,rfl,_,_,rfl,_,_,rfl,_,_,rfl,rfl,?_⟩;refine⟨fun σ' H'=>∃c':Addr,σ'=[some (.ref a),some (.ref tl),some (.ref t),some (.str r),some (.int g),some (.ref c')]/\A8 H H'/\(H c'=none∨c'=c)/\H' c'=some (.tup ((d.Rf ss).map V.str)),?_,?_⟩
 ·refine⟨_,rfl,t,_,_,_,rfl,rfl,AA.of hT,Gj d,rfl,_,rfl,?_⟩;refine B5 (fun d1=>?_) (fun d1=>⟨c,rfl,A8.refl _,.inr rfl,by rw[gu d1];exact hC⟩);obtain⟨x,Ul,Kw⟩:=nX (r:=r) (g:=g) (ss:=ss) d1;have IQ:CA K true H c (ss.map V.str):=AA.of hC;refine⟨_,rfl,true,c,_,rfl,IQ,fun acc Ax=>JP (He (.str x)) (fun v=>v) IQ Ax (by rw[D7];exact small (by omega)) (fun i v H' Q' hv s4 h=>?_) (fun i v H' Q' hv _ s4 h=>?_) (fun H4 s4 e4=>?_)⟩
  ·obtain⟨y,rfl,_⟩:=JI hv;exact⟨_,rfl,_,rfl,t,_,_,_,rfl,rfl,AA.of (s4 _ _ hT),Ul,rfl,_,rfl,h _ (A8.refl _)⟩
  ·exact⟨_,rfl,h _ (A8.refl _)⟩
  rw[Na,<- Kw] at e4;exact⟨acc,_,rfl,.inl ⟨AI.of e4,fun t5 Og=>⟨t5,rfl,s4.trans (Ab Og _),.inl (A8.none s4 Og),AH⟩⟩⟩
 rintro σ' H1 ⟨c1,rfl,s1,f1,e1⟩;refine⟨fun σ' H'=>∃c':Addr,σ'=[some (.ref a),some (.ref tl),some (.ref t),some (.str r),some (.int g),some (.ref c')]/\A8 H H'/\(H c'=none∨c'=c)/\H' c'=some (.tup ((d.FO r g ss).map V.str)),?_,?_⟩
 ·refine⟨_,rfl,t,_,_,_,rfl,rfl,AA.of (s1 _ _ hT),Gj d,rfl,_,rfl,?_⟩;refine B5 (fun d0=>?_) (fun d0=>DS ⟨c1,rfl,s1,f1,by rw[jL d0];exact e1⟩);obtain⟨x,i,rfl⟩:=Z3 d0;replace e1:H1 c1=some (.tup (ss.map V.str)):=e1;refine⟨_,rfl,rfl,_,rfl,?_⟩;refine B5 (fun d1=>?_) (fun d1=>?_)
  ·have hj:DP r g i=true:=by unfold DP;rw[pR d1]
   refine Mx ?_;refine⟨_,rfl,_,rfl,t,_,_,_,rfl,rfl,AA.of (s1 _ _ hT),rfl,(by show 1<=sizeLine;decide),fun t6 UK=>?_⟩;have n6:=Ab UK (.tup [.str x]);refine⟨c1,t6,_,_,rfl,rfl,AA.of (n6 _ _ e1),AA.of AH,by simp,small (by rw[D7];simp;omega),fun p7 H7 s7 e7=>?_⟩;have X8:AA K H7 p7 ((ss++[x]).map V.str):=by rw[CS];exact e7
   refine⟨p7,true,ss++[x],rfl,X8,by rw[BL];simp;omega,fun l8 ts Xa hp hs=>?_⟩;have n8:=Ab Xa (.lst (ts.map V.str));refine⟨l8,_,rfl,.inl ⟨AI.of AH,fun c9 NL=>?_⟩⟩;exact⟨c9,rfl,s1.trans (n6.trans (s7.trans (n8.trans (Ab NL _)))),.inl (A8.none (s1.trans (n6.trans (s7.trans n8))) NL),by rw[AH,V8 hp hs gd.up (W3 gd ok x i rfl),Xg hj]⟩
  ·refine⟨_,rfl,rfl,_,rfl,?_⟩;refine B5 (fun d2=>?_) (fun d2=>?_)
   ·refine⟨_,rfl,t,_,_,_,rfl,rfl,AA.of (s1 _ _ hT),rfl,_,rfl,_,_,rfl,rfl,_,rfl,?_⟩;have Jn:DP r g i=decide ((g:Int)<=(i:Int)):=by unfold DP;rw[nr d1,pR d2]
    refine B5 (fun d3=>?_) (fun d3=>?_)
    ·have hj:DP r g i=true:=Jn.trans d3;refine⟨_,rfl,_,rfl,t,_,_,_,rfl,rfl,AA.of (s1 _ _ hT),rfl,(by show 1<=sizeLine;decide),fun t6 UK=>?_⟩;have n6:=Ab UK (.tup [.str x]);refine⟨c1,t6,_,_,rfl,rfl,AA.of (n6 _ _ e1),AA.of AH,by simp,small (by rw[D7];simp;omega),fun p7 H7 s7 e7=>?_⟩;have X8:AA K H7 p7 ((ss++[x]).map V.str):=by rw[CS];exact e7
     refine⟨p7,true,ss++[x],rfl,X8,by rw[BL];simp;omega,fun l8 ts Xa hp hs=>?_⟩;have n8:=Ab Xa (.lst (ts.map V.str));refine⟨l8,_,rfl,.inl ⟨AI.of AH,fun c9 NL=>?_⟩⟩;exact⟨c9,rfl,s1.trans (n6.trans (s7.trans (n8.trans (Ab NL _)))),.inl (A8.none (s1.trans (n6.trans (s7.trans n8))) NL),by rw[AH,V8 hp hs gd.up (W3 gd ok x i rfl),Xg hj]⟩
    ·have hj:DP r g i=false:=Jn.trans (Bool.eq_false_iff.mpr d3);exact⟨c1,rfl,s1,f1,by rw[VP hj];exact e1⟩
   ·have hj:DP r g i=false:=by unfold DP;rw[nr d1,nr d2]
    exact DS ⟨c1,rfl,s1,f1,by rw[VP hj];exact e1⟩
 rintro σ' H2 ⟨c2,rfl,s2,f2,e2⟩;refine⟨_,rfl,_,rfl,_,rfl,_,rfl,a,t,ns,g,d,rfl,s2 _ _ hS,s2 _ _ hT,ok,fun H3 s3=>?_⟩;refine⟨_,rfl,(by show 3<=sizeLine;decide),fun t4 HQ=>?_⟩;have k3:=s2.trans s3;have n4:=Ab HQ (.tup [.str r,.int (d.gap ns g:Nat),.ref c2]);exact q t4 c2 _ (A8.none k3 HQ) f2 (k3.trans n4) ⟨AH,n4 _ _ (s3 _ _ e2)⟩
def cY:Ak ["yard","state","deed","name"] ["yard","state","deed"] (AV VX):=by walk_at "z1"
def kd:∀ss R,(SI A3) ss R->ss.length=3:=by rintro _ _ ⟨m,s,a1,a2,t1,t2,d,rfl,_,_,_,_,_,rfl⟩;rfl
def uj (F:AE K "_law_acts" "_law_acts" VX f fd)(m:mg "_law_acts"=some (.ref f)):
  A7 P w K mg base "_law_acts" 10 ["yard","state","deed"] (Cu (SI A3)):=by
 refine A7.mk F (F.binds (by walk_at "bD3")) m (F.Am (k:=9) cY (fun vs H Q E h=>Fz.Jg kd h) (fun AU A outer s H vs Q E hr h=>?_))
 refine⟨_,(AG rfl (Cq (HF Gz rfl (ED (Cr (kG rfl) Bk (A0 (Bl (BO hr) (qv 1) Ac (fun _ _=>rfl)) A5))) (D0 3 cY.nd) (AB rfl (Kh (BO hr) (Bl (BO hr) (qv 1) Ac (fun _ _=>rfl)) (qv 3) (AQ VG hr (A0 (Bl (BO hr) (qv 1) Ac (fun _ _=>rfl)) (A0 (Bl (BO hr) (Bl (BO hr) (qv 1) Ac (fun _ _=>rfl)) (qv 3) (fun _ _=>rfl)) (A0 (qv 2) A5))))))))
   (AG rfl (Cf (FT GR LF LG JA (Bl (BO hr) (qv 1) Ac (fun _ _=>rfl)) (A0 (Bv (A0 (Bl (BO hr) (qv 1) Ac (fun _ _=>rfl)) (A0 (qv 2) A5))) A5)))
   (AG rfl (Kh (BO hr) (qv 1) Ac (AQ Vu hr (A0 (Bl (BO hr) (qv 1) Ac (fun _ _=>rfl)) (A0 (qv 2) A5))))
   (AB rfl (Aa (Cs WK (FF V1 hr (by decide) (qv 0) (A0 (qv 2) A5)) Nh)))))),?_⟩
 refine Fz.RM h kd ?_;rintro _ _ ⟨m,s,a1,a2,t1,t2,d,rfl,hY,hS,ok,hd,hp,rfl⟩;obtain⟨aK,aP,rfl⟩:=hS;obtain⟨dx,bK,bP,rfl⟩:=id hY;have l1:=ok.l1;have lf:=ok.G1;have hr:=ok.row.len;have h4:=ok.m4;show Ws [.ow true (B7 s A3 a1 dx bK bP),.ow true (BA s a2 aK aP),.is (dP d),.any] _ _ _;refine BB (Hz (Hx (fun _ i AL=>∃(s3:Slot) (t':OV),AL=[.ow true (B7 s A3 a1 dx bK bP),.ow true t',.is (dP d),s3]/\HA (s.mid d i) a2 t') (OD (J5 (Ed (gA (JS rfl ⟨Ai s.ln,aK,_,rfl,by unfold Ai;rw[AX];omega,_,.inl ⟨rfl,?_⟩⟩)))))));rw[aL];refine⟨⟨_,_,rfl,aK,aP,rfl⟩,?_,?_⟩
 ·rintro i p AL hp ⟨s3,t',rfl,Fn⟩;rw[Az] at hp;obtain⟨x,hx,rfl⟩:=Option.map_eq_some_iff.mp hp;refine K2 ?_;obtain⟨D5,DU,rfl⟩:=Fn;have xm:x∈s.ln:=DD hx;have ix:s.ln.idxOf x=i:=LO ok.n1 hx;have hi:i<s.ln.length:=(List.getElem?_eq_some_iff.mp hx).1;obtain⟨l,el⟩:∃l,s.ll[i]?=some l:=⟨_,B9 (by omega)⟩;have gl:=ok.good l (DD el);refine Ku (i:=1) (t:=BA (s.mid d i) a2 D5 DU) (FX (tj (Bp (DW (KG rfl ⟨_,rfl,_,.inl ⟨rfl,rfl,s.row,rfl,?_⟩⟩)))));refine DW (Le (JS rfl ⟨Ai s.ln,D5,_,rfl,AN rfl ⟨.inr x,i,.fz l.P,rfl,by rw[Kq xm,ix],ZH (kJ el),_,rfl,l.r,l.g,l.cs,rfl,AN rfl ⟨d,rfl,hd,gl,by omega,?_⟩⟩⟩));refine JS rfl ⟨true,D5,Ai s.ln,_,rfl,rfl,by unfold BV;rw[AX];show(FH s d i).length<=99999;rw[km];omega,IC ok.n1,B4,AN rfl ⟨.inr x,rfl,?_⟩⟩;rw[QQ xm,RE xm];unfold BA;rw[show([]++[1]:List Nat)=[1] from rfl,R8,ix];have e2:(BV (s.mid d i).ll).set i (.fz (Cc l.r (d.gap s.row l.g) (d.FO l.r l.g l.cs)))=BV (FH s d (i+1)):=by
   rw[<- gT el];exact PD _ _ (l.led s.row d)
  rw[e2];exact⟨_,_,rfl,D5,DU,rfl⟩
 ·rintro AL ⟨s3,t',rfl,Fn⟩;rw[AX,l1] at Fn;obtain⟨D5,DU,rfl⟩:=Fn;have em:(s.mid d s.ll.length).ll=s.ll.map (Lp.led s.row d):=iZ s d;refine BB (dW (i:=1) (t:=BA (s.mid d s.ll.length) a2 D5 DU) (sA rfl ⟨true,DU,_,rfl,rfl,by rw[AX];show s.pa.length<=99999;omega,FX (Kt (Ka (DW (KG rfl ⟨_,rfl,Ka (AN rfl (Q2 ⟨by show 2<=100000;decide,B4,?_⟩))⟩))))⟩));unfold BA;rw[show([]++[2]:List Nat)=[2] from rfl,put2,em];have ep:s.pa.map .fz++[.fz (.tup [.lst (s.row.map .str),dP d])]=(s.pa++[OY s.row d]).map OV.fz:=by rw[CS];rfl
  show Ws [.ow true (B7 s A3 a1 dx bK bP),.ow true (.nd (.Aq CT) a2 [.fz (.lst (s.row.map .str)),.nd (.Aq (Ai s.ln)) D5 (BV (s.ll.map (Lp.led s.row d))),.nd .lst DU (s.pa.map .fz++[.fz (.tup [.lst (s.row.map .str),dP d])])]),.is (dP d),s3] _ _ _;rw[ep];show Ws [.ow true (B7 s A3 a1 dx bK bP),.ow true (BA ⟨s.row,s.ln,s.ll.map (Lp.led s.row d),s.pa++[OY s.row d],s.fg⟩ a2 D5 DU),.is (dP d),s3] _ _ _;refine BB (Ku (i:=1) (t:=BA ⟨s.row,s.ln,s.ll.map (Lp.led s.row d),s.pa++[OY s.row d],s.fg⟩ a2 D5 DU) (FX (Ed (av (Bp (DW (KG rfl ⟨_,rfl,_,.inl ⟨rfl,rfl,s.row,rfl,AN rfl ⟨d,rfl,hd,by omega,ok.row.nd,?_⟩⟩⟩)))))));refine Dd rfl ⟨true,a2,CT,_,rfl,rfl,by show 3<=99999;decide,by decide +kernel,B4,Eu ⟨.inr "row", rfl,?_⟩⟩;rw[OV.GK,ra,ZFa];show Ws [.ow true (B7 s A3 a1 dx bK bP),.ow true (BA (s.act d) a2 D5 DU),.is (dP d),s3] _ _ _;refine Qo (i:=0) (j:=1) (by decide) rfl rfl (Vl (PK rfl (by decide +kernel) (Lb (AN rfl (OB ⟨_,⟨m,s,a1,_,d,rfl,hY,ok,hd,hp,rfl⟩,?_⟩)))));rintro _ t2 ⟨rfl,CQ⟩;obtain⟨nk,C8,rfl⟩:=CQ.nd;exact⟨nk,C8,rfl,rfl,_,_,_,rfl,rfl,CQ,D5,DU,rfl⟩
def sC:Ak ["pot"] ["pot"] (AV XY):=by walk_at "z1"
def aR : ∀ss R,QH ss R->ss.length=1:=by rintro _ _ ⟨rfl,rfl⟩;rfl
def ZBY (F:AE K "_law_rule" "_law_rule" XY f fd)(m:mg "_law_rule"=some (.ref f)):
  A7 P w K mg base "_law_rule" 2 ["pot"] (Ar QH):=by
 refine A7.mk F (F.binds (by walk_at "bD1")) m (F.Am (k:=1) sC (fun vs H Q E h=>Fz.DG aR h) (fun AU A outer s H vs Q E hr h=>?_))
 refine⟨_,(AB rfl (Aa (AM AZ (Bv (A0 Ac (A0 Ac (A0 Ac A5)))) (AQ Ba hr (A0 (qv 0) (A0 A9 A5)))))),?_⟩;refine Fz.DE h aR ?_;rintro _ _ ⟨rfl,rfl⟩;show Ws [_] _ _ _
 walk_at "ww"
 refine⟨by decide,_,.inr ⟨rfl,rfl,?_⟩⟩
 walk_at "ww"
 refine⟨by decide,by decide,fun q q0 q1=>?_⟩;obtain⟨q,rfl⟩:=GQ q0;obtain⟨r,hr,er⟩:=iK (k:=q) (by omega);exact⟨_,_,rfl,er,r,rfl,hr⟩
def qm:Ak ["row","rule"] ["row","rule"] (AV Y7):=by walk_at "z1"
def dz : ∀ss R,Ro ss R->ss.length=2:=by rintro _ _ ⟨ns,r,rfl,hz,rfl⟩;rfl
def nA (F:AE K "_law_begun" "_law_begun" Y7 f fd)(m:mg "_law_begun"=some (.ref f)):
  A7 P w K mg base "_law_begun" 1 ["row","rule"] (Ar Ro):=by
 refine A7.mk F (F.binds (by walk_at "bD2")) m (F.Am (k:=0) qm (fun vs H Q E h=>Fz.DG dz h) (fun AU A outer s H vs Q E hr h=>?_))
 refine⟨_,(AB rfl (Aa (Bv (A0 (qv 1) (A0 A9 (A0 (Cr JJ C0 (A0 (An KA BW (A0 (qv 0) A5)) A5)) A5)))))),?_⟩;refine Fz.DE h dz ?_;rintro _ _ ⟨ns,r,rfl,hz,rfl⟩;show Ws [_,_] _ _ _
 walk_at "ww"
 refine⟨hz,fun ts pm st=>?_⟩
 walk_at "ww"
 exact⟨by simp,ts,pm,st,rfl⟩
def M8:Ak ["row","loop","rule","gap","coming","found","left"] ["row","loop"] (AV Om):=by walk_at "z1"
def pd:Scope:={ kind:=.function,names:=[(".0", .local),("name", .local),("coming", .free)],isGenerator:=false,isCoroutine:=false,more:=[] }
def ZFU:Cw ["row","loop","rule","gap","coming","found","left"] (AV Om) pd "name" ["coming"] [4]:=by walk_at "z2"
def qN:Scope:={ kind:=.function,names:=[(".0", .local),("name", .local),("found", .free)],isGenerator:=false,isCoroutine:=false,more:=[] }
def ZC9:Cw ["row","loop","rule","gap","coming","found","left"] (AV Om) qN "name" ["found"] [5]:=by walk_at "z2"
def ZFR (F:AE K "_law_step" "_law_step" Om f fd)(m:mg "_law_step"=some (.ref f)):
  A7 P w K mg base "_law_step" 1 ["row","loop"] (ZJ):=by
 refine A7.mk F (F.binds (by walk_at "bD2")) m (F.Am (k:=0) M8 (fun vs H Q E h=>?_) (fun AU A outer s H vs Q E hr h=>?_))
 ·obtain⟨a,ns,t,r,g,ss,rfl,hS,⟨c,hT,hC⟩,Bw,hz,q⟩:=h;rfl
 obtain⟨a,ns,t,r,g,ss,rfl,hS,⟨c,hT,hC⟩,Bw,hz,q⟩:=h;refine⟨_,(AG rfl (LN (qv 1) (MF rfl (FP (D0 2 M8.nd) (FP (D0 3 M8.nd) (FP (D0 4 M8.nd) MG)))))
   (AG rfl (B3 5 M8.nd (FK rfl ZFU (ED (B2 Hq (Dh JL (qv 0) (DK (qv 3)) EG) (Dh JL (qv 0) EG (DK (qv 3))))) (fun _ _ _ _=>by exact(GU (Ae (show BD _ (compareOp .In) (Fi K false) from FJ) (qv 1) (qv 0)))) (fun _ _ _ _=>by exact(qv 1))))
   (AG rfl (Ap (Ae (Kk hr.FN) (qv 5) (EH A5)) (AB rfl (Aa (Bv (A0 Nh (A0 (qv 1) A5))))) Ay)
   (AG rfl (B3 6 M8.nd (Cr JJ C0 (A0 (FK rfl ZC9 (ED (qv 4)) (fun _ _ _ _=>by exact(GU (Ae G0 (qv 1) (AM (show En _ (K3 K) from DQ) (qv 0) A9)))) (fun _ _ _ _=>by exact(qv 1))) A5)))
   (AB rfl (Aa (Bv (A0 (AM DQ (qv 5) A9) (A0 (Bv (A0 (qv 2) (A0 (B2 Dt (FT GR Zk lz Y4 (qv 0) (A0 (AM DQ (qv 5) A9) A5)) A9) (A0 (qv 6) A5)))) A5))))))))),?_⟩
 have hl:=D7 ns;have yh:=D7 ss;refine⟨_,rfl,t,_,rfl,AA.of hT,rfl,_,_,rfl,_,_,rfl,_,_,rfl,rfl,?_⟩;refine⟨_,rfl,_,rfl,_,rfl,a,_,rfl,AI.of hS,fun l1 FV=>?_⟩;have n1:=Ab FV (.lst (C7 (ns.map V.str) (some (g:Int)) none));refine⟨_,rfl,_,rfl,_,rfl,a,_,rfl,AI.of (n1 _ _ hS),fun l2 Co=>?_⟩;have n2:=Ab Co (.lst (C7 (ns.map V.str) none (some (g:Int))));have e1:=n2 _ _ (AH (H:=H) (a:=l1) (o:=.lst (C7 (ns.map V.str) (some (g:Int)) none)));have e2:=AH (H:=upd H l1 (.lst (C7 (ns.map V.str) (some (g:Int)) none))) (a:=l2) (o:=.lst (C7 (ns.map V.str) none (some (g:Int))));have k2:=n1.trans n2;generalize upd (upd H l1 (.lst (C7 (ns.map V.str) (some (g:Int)) none))) l2 (.lst (C7 (ns.map V.str) none (some (g:Int))))=H2 at *;rw[Nr] at e1;rw[NW] at e2;refine⟨l1,l2,_,_,rfl,rfl,e1,e2,small (by rw[Cj,Bd];omega),fun l3 LX=>?_⟩;have n3:=Ab LX (.lst ((ns.map V.str).drop g++(ns.map V.str).take g));have k3:=k2.trans n3;have hM:CA K false (upd H2 l3 (.lst ((ns.map V.str).drop g++(ns.map V.str).take g))) l3 ((ns.drop g++ns.take g).map V.str):=AI.of (by rw[AH,CS,Mm,Mn]);refine⟨false,l3,_,rfl,hM,fun acc Ax=>JP (fun v=>D6 v (ss.map V.str)) (fun v=>v) hM Ax (small (by rw[D7,BL,Cj,Bd];omega)) (fun i v H' Q' hv s4 h=>?_) (fun i v H' Q' hv _ s4 h=>?_) (fun H4 s4 e4=>?_)⟩
 ·obtain⟨x,rfl,_⟩:=JI hv;exact⟨_,rfl,_,rfl,c,_,rfl,.inr (AA.of (s4 _ _ (k3 _ _ hC))),rfl,EF ss,_,rfl,h _ (A8.refl _)⟩
 ·exact⟨_,rfl,h _ (A8.refl _)⟩
 rw[ax,ZFO] at e4;have k4:=k3.trans s4;refine⟨_,rfl,(by show 0<=sizeLine;decide),fun l5 jC=>?_⟩;have n5:=Ab jC (.lst []);have k5:=k4.trans n5;have e5:=n5 _ _ e4;refine⟨acc,l5,_,[],rfl,rfl,.inl ⟨AI.of e5,AI.of AH⟩,EF _,rfl,_,rfl,?_⟩;show if E2 ((DJ ns g ss).map V.str) []=true then _ else _
 rw[LM];refine B5 (fun c1=>?_) (fun c1=>?_)
 ·have er:DJ ns g ss=[]:=by simpa using c1
  refine⟨_,rfl,(by show 2<=sizeLine;decide),fun t' Eh=>?_⟩;exact q t' _ (A8.none k5 Eh) (k5.trans (Ab Eh _)) (.inl ⟨er,AH⟩)
 ·obtain⟨x,EV,er⟩:∃x EV,DJ ns g ss=x::EV:=by
   cases h:DJ ns g ss with
   | nil=>rw[h] at c1;simp at c1
   | cons x EV=>exact⟨x,EV,rfl⟩
  have hx:x∈ns/\x∈ss:=Nq.mp (by rw[er];exact DC);rw[er] at e5;generalize upd H4 l5 (.lst [])=H5 at *;have eA:CA K true H5 c (ss.map V.str):=AA.of (k5 _ _ hC);refine⟨_,rfl,true,c,_,rfl,eA,fun oh nC=>JP (He (.str x)) (fun v=>v) eA nC (by rw[yh];exact small (by omega)) (fun i v H' Q' hv s6 h=>?_) (fun i v H' Q' hv _ s6 h=>?_) (fun H6 s6 e6=>?_)⟩
  ·obtain⟨y,rfl,_⟩:=JI hv;exact⟨_,rfl,_,rfl,acc,_,_,_,rfl,rfl,AI.of (s6 _ _ e5),NM,rfl,_,rfl,h _ (A8.refl _)⟩
  ·exact⟨_,rfl,h _ (A8.refl _)⟩
  rw[Na] at e6;refine⟨oh,_,rfl,.inl ⟨AI.of e6,fun t7 hU=>?_⟩⟩;have n7:=Ab hU (.tup ((wo ss x).map V.str));have k7:=k5.trans (s6.trans n7);have f7:H t7=none:=A8.none (k5.trans s6) hU;have e7:=n7 _ _ (s6 _ _ e5);have u7:=AH (H:=H6) (a:=t7) (o:=.tup ((wo ss x).map V.str));generalize upd H6 t7 (.tup ((wo ss x).map V.str))=H7 at *;refine⟨_,rfl,acc,_,_,_,rfl,rfl,AI.of e7,NM,_,rfl,_,rfl,.inl ⟨rfl,_,AI.of (k7 _ _ hS)⟩,_,rfl,acc,_,_,_,rfl,rfl,AI.of e7,NM,a,ns,x,rfl,rfl,AI.of (k7 _ _ hS),hx.1,_,_,rfl,rfl,_,rfl,?_⟩;refine⟨(by show 3<=sizeLine;decide),fun t8 fv=>?_⟩;have n8:=Ab fv (.tup [.str r,.int ((ns.idxOf x:Nat)+1),.ref t7]);refine⟨(by show 2<=sizeLine;decide),fun t9 fJ=>?_⟩;have n9:=Ab fJ (.tup [.str x,.ref t8]);exact q t9 _ (A8.none (k7.trans n8) fJ) (k7.trans (n8.trans n9)) (.inr ⟨x,EV,t8,t7,er,A8.none k7 fv,f7,AH,n9 _ _ AH,n9 _ _ (n8 _ _ u7)⟩)
def RC:Ak ["pot","row","most","way","low","name"] ["pot","row","most"] (AV Tw):=by walk_at "z1"
def ZAJ (F:AE K "_law_deed" "_law_deed" Tw f fd)(m:mg "_law_deed"=some (.ref f)):
  A7 P w K mg base "_law_deed" 3 ["pot","row","most"] (QU):=by
 refine A7.mk F (F.binds (by walk_at "bD3")) m (F.Am (k:=2) RC (fun vs H Q E h=>?_) (fun AU A outer s H vs Q E hr h=>?_))
 ·obtain⟨p,a,m,ns,rfl,hp,hS,Af,hN,hz,m1,m2,q⟩:=h;rfl
 obtain⟨p,a,m,ns,rfl,hp,hS,Af,hN,hz,m1,m2,q⟩:=h;refine⟨_,(AG rfl (B3 3 RC.nd (AQ Ba hr (A0 (qv 0) (A0 A9 A5))))
   (AG rfl (Ap (Ds (Hr (Ae GY (qv 3) A9) (IM (Ae GY (An EE Ag (A0 (qv 1) A5)) (qv 2)))).pt (Fp (Ae (Kk hr.FN) (qv 1) (EH A5)))).pt (AG rfl (Ap (Ae J8 (An EE Ag (A0 (qv 1) A5)) (qv 2)) (AB rfl (Aa (Bv (A0 Ac (A0 A9 (A0 A9 A5)))))) Ay)
   (AB rfl (Aa (Bv (A0 Ac (A0 (AQ Hs hr (A0 (qv 0) (A0 (qv 1) A5))) (A0 (AQ Ba hr (A0 (qv 0) (A0 (B2 Dt (An EE Ag (A0 (qv 1) A5)) A9) A5))) A5))))))) Ay)
   (AG rfl (Ap (Ae C2 (qv 3) A9) (AG rfl (B3 4 RC.nd (AQ Ba hr (A0 (qv 0) (A0 (B2 Dt (An EE Ag (A0 (qv 1) A5)) A9) A5))))
   (AB rfl (Aa (Bv (A0 Ac (A0 (qv 4) (A0 (B2 Dt (qv 4) (AQ Ba hr (A0 (qv 0) (A0 (B2 Dt (B2 QV (An EE Ag (A0 (qv 1) A5)) (qv 4)) A9) A5)))) A5))))))) Ay)
   (AG rfl (B3 5 RC.nd (AM DQ (qv 1) (AQ Ba hr (A0 (qv 0) (A0 (An EE Ag (A0 (qv 1) A5)) A5)))))
   (AG rfl (Ap (Ae C2 (qv 3) A9) (AB rfl (Aa (Bv (A0 Ac (A0 (qv 5) (A0 (AQ Ba hr (A0 (qv 0) (A0 (An EE Ag (A0 (qv 1) A5)) A5))) A5)))))) Ay)
   (AB rfl (Aa (Bv (A0 Ac (A0 (qv 5) A5)))))))))),?_⟩
 have hl:=D7 ns;have zz:∀n:Nat,n<=3->n<=sizeLine:=fun n h=>CZ h (by decide +kernel);refine⟨_,rfl,p,5,rfl,hp,by decide,by decide,fun way H1 w0 w1 s1=>?_⟩;have e1:=s1.at' hS Af;have em:decide (ns.map V.str=[])=true->ns=[]:=fun h=>List.map_eq_nil_iff.mp (qH h);have il:¬ decide (ns.map V.str=[])=true->0<ns.length:=fun h=>by
  cases ns with
  | nil=>exact absurd (nV rfl) h
  | cons y r=>simp
 refine⟨_,rfl,_,_,rfl,rfl,_,rfl,?_⟩;refine B5 (fun cA=>?_) (fun cA=>DS ?_)
 ·refine⟨_,rfl,a,_,rfl,.inl (AI.of e1),_,rfl,_,_,rfl,rfl,_,rfl,?_⟩;refine B5 (fun cB=>Mx ?_) (fun cB=>?_)
  ·have AW:ns.length<m:=by have:=qH cB;rw[hl] at this;omega
   have gg:=s1;have eH:=e1;refine⟨_,rfl,a,_,rfl,.inl (AI.of eH),_,rfl,_,_,rfl,rfl,_,rfl,BM (by rw[hl,qQ (by omega)];decide) ?_⟩;refine⟨_,rfl,_,rfl,p,a,ns,rfl,gg.AD,AI.of eH,Af,hN,by omega,fun x H3 nx hx s3=>?_⟩;have e3:=s3.at' eH Af;refine⟨_,rfl,_,rfl,a,_,rfl,.inl (AI.of e3),_,_,rfl,rfl,p,_,rfl,s3.AD,by omega,by rw[hl];omega,fun i H4 i0 i1 s4=>?_⟩;rw[hl] at i1;obtain⟨i,rfl⟩:=GQ i0;refine⟨zz _ (by simp),fun t ht=>?_⟩;have g4:=gg.trans (s3.trans s4);exact q (.put x i) t _ (g4.none ht) (g4.trans (BK.of g4.AD (Ab ht _))) AH ⟨nx,hx,by omega,by omega⟩
  ·have hge:¬ ns.length<m:=fun z=>cB (nV (by rw[hl];omega));refine⟨_,rfl,(by show 0<=sizeLine;decide),fun e he=>?_⟩;have s2:=BK.of s1.AD (Ab he (.lst []));have gg:=s1.trans s2;have eH:=s2.at' e1 Af;refine⟨a,e,_,[],rfl,rfl,.inl ⟨AI.of eH,AI.of AH⟩,EF ns,rfl,_,rfl,?_⟩;show if E2 (ns.map V.str) []=true then _ else _
   rw[LM];refine B5 (fun cC=>?_) (fun cC=>?_)
   ·exact absurd (by rw[em cC];show 0<m;omega) hge
   ·have Ht:=il cC;refine⟨_,rfl,rfl,_,rfl,?_⟩;refine B5 (fun c4=>?_) (fun c4=>?_)
    ·refine⟨_,rfl,_,rfl,a,_,rfl,.inl (AI.of eH),_,_,rfl,rfl,p,_,rfl,gg.AD,by omega,by rw[hl];omega,fun lo H3 l0 l1 s3=>?_⟩;rw[hl] at l1;obtain⟨lo,rfl⟩:=GQ l0;have e3:=s3.at' eH Af;refine⟨_,rfl,_,rfl,_,rfl,_,rfl,a,_,rfl,.inl (AI.of e3),_,rfl,_,_,rfl,rfl,_,_,rfl,rfl,p,_,rfl,s3.AD,by rw[hl];omega,by rw[hl];omega,fun k H4 k0 k1 s4=>?_⟩;rw[hl] at k1;obtain⟨k,rfl⟩:=GQ k0;refine⟨_,_,rfl,rfl,zz _ (by simp),fun t ht=>?_⟩;have g4:=gg.trans (s3.trans s4);exact q (.turn lo (lo+k)) t _ (g4.none ht) (g4.trans (BK.of g4.AD (Ab ht _))) (by rw[AH];rfl) ⟨by omega,by omega⟩
    ·refine⟨_,rfl,_,rfl,_,rfl,a,_,rfl,.inl (AI.of eH),p,_,rfl,gg.AD,by rw[hl];omega,by rw[hl];omega,fun i H3 i0 i1 s3=>?_⟩;rw[hl] at i1;have e3:=s3.at' eH Af;obtain⟨x,hx,OE,_⟩:=ON i0 i1;refine⟨a,_,_,_,rfl,rfl,AI.of e3,hx,?_⟩;have g3:=gg.trans s3;refine⟨_,rfl,rfl,_,rfl,?_⟩;refine B5 (fun c3=>?_) (fun c3=>?_)
     ·refine⟨_,rfl,_,rfl,_,rfl,a,_,rfl,.inl (AI.of e3),p,_,rfl,s3.AD,by rw[hl];omega,by rw[hl];omega,fun k H4 k0 k1 s4=>?_⟩;rw[hl] at k1;obtain⟨k,rfl⟩:=GQ k0;have g4:=g3.trans s4;refine⟨zz _ (by simp),fun t ht=>?_⟩;exact q (.move x k) t _ (g4.none ht) (g4.trans (BK.of g4.AD (Ab ht _))) AH ⟨OE,by omega⟩
     ·refine⟨_,rfl,zz _ (by simp),fun t ht=>?_⟩;exact q (.take x) t _ (g3.none ht) (g3.trans (BK.of g3.AD (Ab ht _))) AH OE
 ·skip
  refine⟨_,rfl,(by show 0<=sizeLine;decide),fun e he=>?_⟩;have s2:=BK.of s1.AD (Ab he (.lst []));have gg:=s1.trans s2;have eH:=s2.at' e1 Af;refine⟨a,e,_,[],rfl,rfl,.inl ⟨AI.of eH,AI.of AH⟩,EF ns,rfl,_,rfl,?_⟩;show if E2 (ns.map V.str) []=true then _ else _
  rw[LM];refine B5 (fun cC=>?_) (fun cC=>?_)
  ·have AW:ns.length<m:=by rw[em cC];show 0<m;omega
   refine⟨_,rfl,a,_,rfl,.inl (AI.of eH),_,rfl,_,_,rfl,rfl,_,rfl,BM (by rw[hl,qQ (by omega)];decide) ?_⟩;refine⟨_,rfl,_,rfl,p,a,ns,rfl,gg.AD,AI.of eH,Af,hN,by omega,fun x H3 nx hx s3=>?_⟩;have e3:=s3.at' eH Af;refine⟨_,rfl,_,rfl,a,_,rfl,.inl (AI.of e3),_,_,rfl,rfl,p,_,rfl,s3.AD,by omega,by rw[hl];omega,fun i H4 i0 i1 s4=>?_⟩;rw[hl] at i1;obtain⟨i,rfl⟩:=GQ i0;refine⟨zz _ (by simp),fun t ht=>?_⟩;have g4:=gg.trans (s3.trans s4);exact q (.put x i) t _ (g4.none ht) (g4.trans (BK.of g4.AD (Ab ht _))) AH ⟨nx,hx,by omega,by omega⟩
  ·have Ht:=il cC;refine⟨_,rfl,rfl,_,rfl,?_⟩;refine B5 (fun c4=>?_) (fun c4=>?_)
   ·refine⟨_,rfl,_,rfl,a,_,rfl,.inl (AI.of eH),_,_,rfl,rfl,p,_,rfl,gg.AD,by omega,by rw[hl];omega,fun lo H3 l0 l1 s3=>?_⟩;rw[hl] at l1;obtain⟨lo,rfl⟩:=GQ l0;have e3:=s3.at' eH Af;refine⟨_,rfl,_,rfl,_,rfl,_,rfl,a,_,rfl,.inl (AI.of e3),_,rfl,_,_,rfl,rfl,_,_,rfl,rfl,p,_,rfl,s3.AD,by rw[hl];omega,by rw[hl];omega,fun k H4 k0 k1 s4=>?_⟩;rw[hl] at k1;obtain⟨k,rfl⟩:=GQ k0;refine⟨_,_,rfl,rfl,zz _ (by simp),fun t ht=>?_⟩;have g4:=gg.trans (s3.trans s4);exact q (.turn lo (lo+k)) t _ (g4.none ht) (g4.trans (BK.of g4.AD (Ab ht _))) (by rw[AH];rfl) ⟨by omega,by omega⟩
   ·refine⟨_,rfl,_,rfl,_,rfl,a,_,rfl,.inl (AI.of eH),p,_,rfl,gg.AD,by rw[hl];omega,by rw[hl];omega,fun i H3 i0 i1 s3=>?_⟩;rw[hl] at i1;have e3:=s3.at' eH Af;obtain⟨x,hx,OE,_⟩:=ON i0 i1;refine⟨a,_,_,_,rfl,rfl,AI.of e3,hx,?_⟩;have g3:=gg.trans s3;refine⟨_,rfl,rfl,_,rfl,?_⟩;refine B5 (fun c3=>?_) (fun c3=>?_)
    ·refine⟨_,rfl,_,rfl,_,rfl,a,_,rfl,.inl (AI.of e3),p,_,rfl,s3.AD,by rw[hl];omega,by rw[hl];omega,fun k H4 k0 k1 s4=>?_⟩;rw[hl] at k1;obtain⟨k,rfl⟩:=GQ k0;have g4:=g3.trans s4;refine⟨zz _ (by simp),fun t ht=>?_⟩;exact q (.move x k) t _ (g4.none ht) (g4.trans (BK.of g4.AD (Ab ht _))) AH ⟨OE,by omega⟩
    ·refine⟨_,rfl,zz _ (by simp),fun t ht=>?_⟩;exact q (.take x) t _ (g3.none ht) (g3.trans (BK.of g3.AD (Ab ht _))) AH OE
def J2:Ak ["pot","yard","state","most","names","way","name","rule","thing","later"] ["pot","yard","state","most"] (AV UP):=by walk_at "z1"
def cW:∀ss R,(Xn A3) ss R->ss.length=4:=by rintro _ _ ⟨m,s,a1,a2,t1,t2,rfl,_,_,_,_,_,rfl⟩;rfl
def ue (F:AE K "_law_turn" "_law_turn" UP f fd)(m:mg "_law_turn"=some (.ref f)):
  A7 P w K mg base "_law_turn" 11 ["pot","yard","state","most"] (Cu (Xn A3)):=by
 refine A7.mk F (F.binds (by walk_at "bD4")) m (F.Am (k:=10) J2 (fun vs H Q E h=>Fz.Jg cW h) (fun AU A outer s H vs Q E hr h=>?_))
 refine⟨_,(AG rfl (B3 4 J2.nd (An (Qq rfl) BW (A0 (Bl (BO hr) (qv 2) Ac (fun _ _=>rfl)) A5)))
   (AG rfl (B3 5 J2.nd (AQ Ba hr (A0 (qv 0) (A0 A9 A5))))
   (AG rfl (Ap (Ds (Hr (Ae C2 (qv 5) A9) (IM (Ae GY (An EI Ag (A0 (qv 4) A5)) A9))).pt (Fp (Hr (Ae (Kk hr.FN) (qv 4) (EH A5)) (IM (Ae GY (qv 5) A9))).pt)).pt (AG rfl (B3 6 J2.nd (AQ Hs hr (A0 (qv 0) (A0 (qv 4) A5))))
   (AG rfl (B3 7 J2.nd (AQ MV hr (A0 (qv 0) A5)))
   (AG rfl (Kh (BO hr) (Bl (BO hr) (qv 2) Ac (fun _ _=>rfl)) (qv 6) (AQ Ls hr (A0 (Bl (BO hr) (qv 2) Ac (fun _ _=>rfl)) (A0 (qv 7) A5))))
   (AB rfl (Aa (Cs WK (FF UA hr (by decide) (qv 1) (A0 (qv 6) (A0 (qv 7) A5))) Nh)))))) Ay)
   (AG rfl (Ap (Hr (Ae GY (qv 5) A9) (IM (Ae (K9 hr.FN) (qv 4) (EH A5)))).pt (AG rfl (B3 6 J2.nd (AM DQ (qv 4) (AQ Ba hr (A0 (qv 0) (A0 (An EI Ag (A0 (qv 4) A5)) A5)))))
   (AG rfl (Ap (Ae C2 (qv 5) A9) (AG rfl (Cf (kR (Bl (BO hr) (qv 2) Ac (fun _ _=>rfl)) (qv 6) ⟨rfl,rfl,rfl,rfl⟩))
   (AB rfl (Aa (Cs WK (FF Ui hr (by decide) (qv 1) (A0 (qv 6) A5)) Nh)))) Ay)
   (AG rfl (LN (AQ Vk hr (A0 (Bl (BO hr) (qv 2) Ac (fun _ _=>rfl)) (A0 (Bl (BO hr) (Bl (BO hr) (qv 2) Ac (fun _ _=>rfl)) (qv 6) (fun _ _=>rfl)) A5))) (MF rfl (FP (D0 8 J2.nd) (FP (D0 9 J2.nd) MG))))
   (AG rfl (Kh (BO hr) (Bl (BO hr) (qv 2) Ac (fun _ _=>rfl)) (qv 6) (qv 9))
   (AB rfl (Aa (Cs C2 (FF V9 hr (by decide) (qv 1) (A0 (qv 6) A5)) (qv 8)))))))) Ay)
   (AB rfl (Aa (AQ YC hr (A0 (qv 1) (A0 (qv 2) (A0 (AQ UD hr (A0 (qv 0) (A0 (Bl (BO hr) (qv 2) Ac (fun _ _=>rfl)) (A0 (qv 3) A5)))) A5)))))))))),?_⟩
 refine Fz.RM h cW ?_;rintro _ _ ⟨m,s,a1,a2,t1,t2,rfl,h1,hY,hS,ok,hp,rfl⟩;obtain⟨aK,aP,rfl⟩:=hS;obtain⟨dx,bK,bP,rfl⟩:=id hY;have l1:=ok.l1;have lf:=ok.G1;have hr:=ok.row.len;have h4:=ok.m4;show Ws [.AD,.ow true (B7 s A3 a1 dx bK bP),.ow true (BA s a2 aK aP),.is (.int m),.any,.any,.any,.any,.any,.any] _ _ _;refine BB (JX (ZC8 (JS rfl ⟨s.ln,aK,_,rfl,by omega,fun Aw pm st=>?_⟩)));have nl:Aw.length=s.ln.length:=pm.length_eq;refine Rg 4 rfl ?_;show Ws [.AD,.ow true (B7 s A3 a1 dx bK bP),.ow true (BA s a2 aK aP),.is (.int m),.is (.lst (Aw.map .str)),.any,.any,.any,.any,.any] _ _ _
 walk_at "ww"
 refine⟨by decide,by decide,fun w w0 w9=>?_⟩;show Ws [.AD,.ow true (B7 s A3 a1 dx bK bP),.ow true (BA s a2 aK aP),.is (.int m),.is (.lst (Aw.map .str)),.is (.int w),.any,.any,.any,.any] _ _ _;refine BB (EY (oJ (k':=fun b=>b=true->s.ln.length<12) ?_ ?_))
 ·walk_at "ww"
  refine B5 (fun c=>?_) (fun c=>?_)
  ·walk_at "ww"
   rw[AX,nl];refine B5 (fun c2=>fun _=>by have:=qH c2;omega) (fun c2=>?_)
   walk_at "ww"
   refine⟨by decide,_,.inl ⟨rfl,rfl,[],rfl,_,rfl,?_⟩⟩;refine B5 (fun c3=>?_) (fun c3 z=>by cases z);have e0:Aw=[]:=qH c3
   walk_at "ww"
   exact fun _=>by
    rw[e0] at nl;have:s.ln.length=0:=nl.symm;omega
  ·refine DS ?_
   walk_at "ww"
   refine⟨by decide,_,.inl ⟨rfl,rfl,[],rfl,_,rfl,?_⟩⟩;refine B5 (fun c3=>?_) (fun c3 z=>by cases z);have e0:Aw=[]:=qH c3
   walk_at "ww"
   exact fun _=>by
    rw[e0] at nl;have:s.ln.length=0:=nl.symm;omega
 rintro b hb;cases b with
 | true=>
  refine OT rfl ?_;refine BB (IP (Wk rfl (Rt rfl ⟨rfl,Aw,rfl,fun x hx=>ok.nm x (pm.mem_iff.mp hx),by omega,fun x hx nx=>?_⟩)));refine BB (IP (Yp rfl (Bm ⟨_,⟨rfl,rfl⟩,?_⟩)));rintro _ ⟨r,rfl,G4⟩;have Hy:x∉s.ln:=fun z=>nx (pm.mem_iff.mpr z);show Ws [.AD,.ow true (B7 s A3 a1 dx bK bP),.ow true (BA s a2 aK aP),.is (.int m),.is (.lst (Aw.map .str)),.is (.int w),.is (.str x),.is (.str r),.any,.any] _ _ _;refine BB (Ku (i:=2) (t:=BA s a2 aK aP) (FX (wp_call (HZ (Bp (DW (KG rfl ⟨_,rfl,_,.inl ⟨rfl,Br (AN rfl (Bm ⟨_,⟨s.row,r,rfl,by omega,rfl⟩,?_⟩))⟩⟩)))))));rintro _ ⟨ts,Mr,FC,rfl⟩;rw[KL ok.row.nd Mr FC];refine JS rfl ⟨true,aK,Ai s.ln,_,rfl,rfl,by unfold BV;rw[AX];omega,IC ok.n1,B4,AN rfl ⟨.inr x,rfl,?_⟩⟩;rw[Tu Hy,di Hy];unfold BA;rw[show([]++[1]:List Nat)=[1] from rfl,R8];have e1:BV s.ll++[.fz (Cc r 0 (CO s.row))]=BV (s.ll++[⟨r,0,CO s.row⟩]):=by unfold BV;rw[CS];rfl
  rw[e1];show Ws [.AD,.ow true (B7 s A3 a1 dx bK bP),.ow true (BA (s.Lo x r) a2 aK aP),.is (.int m),.is (.lst (Aw.map .str)),.is (.int w),.is (.str x),.is (.str r),.any,.any] _ _ _;refine Qo (i:=1) (j:=2) (by decide) rfl rfl (Vl (PK rfl (by decide +kernel) (Lb (AN rfl (Lb (AN rfl (OB ⟨_,⟨m,s,a1,_,x,r,rfl,hY,ok,Hy,hx,G4,hb rfl,rfl⟩,?_⟩)))))));rintro _ t2 ⟨rfl,CQ⟩;obtain⟨nk,C8,rfl⟩:=CQ.nd;exact⟨nk,C8,rfl,rfl,_,_,_,rfl,rfl,s.Lo x r,ok.Lo Hy hx G4 (hb rfl),ET _,rfl,CQ,aK,aP,rfl⟩
 | false=>
  refine BM (by decide) (Cg ?_);have fin:∀s6 s7 s8 s9:Slot,Ws [.AD,.ow true (B7 s A3 a1 dx bK bP),.ow true (BA s a2 aK aP),.is (.int m),.is (.lst (Aw.map .str)),.is (.int w),s6,s7,s8,s9] (Hc (CD (Cu (SI A3)) [] E0 (AY (BQ 1) (AY (BQ 2) (AY (CD QU [] E0 (AY (BQ 0) (AY (Gu (BQ 2) (tC (V.str "row"))) (AY (BQ 3) B8)))) B8))))) (fun x=>False) (.HL fun p u1 u2=>p=.bl true/\∃s',Yd.Ok m s'/\s'.pa.length<=s.pa.length+1/\s'.fg=s.fg/\E6 s' A3 a1 u1/\HA s' a2 u2):=fun s6 s7 s8 s9=>by
   refine ZDx (i:=1) (j:=2) (l:=true) (by decide) (by show 1<10;decide) (by show 2<10;decide) (TB (q:=0) (b:=false) (c:=true) (d:=true) (by decide) rfl rfl (fun z=>by cases z) ?_);refine Uq (n:=1) rfl (.inl ⟨_,_,_,rfl⟩) (U8 (n:=2) rfl (.inl ⟨_,_,_,rfl⟩) (dy (b9 rfl (Bp (DW (KG rfl ⟨_,rfl,_,.inl ⟨rfl,rfl,s.row,rfl,AN rfl ⟨m,rfl,ok.row.nm,hr,h1,by omega,fun d od=>?_⟩⟩⟩))))));have aN:d.Ok 40 s.row:=by
    cases d with
    | put x i=>exact⟨od.1,od.2.1,od.2.2.1,by have:=od.2.2.2;omega⟩
    | _=>exact od
   refine Vg ⟨_,⟨m,s,a1,a2,_,_,d,rfl,hY,⟨aK,aP,rfl⟩,ok,aN,hp,rfl⟩,?_⟩;rintro _ u1 u2 ⟨rfl,iT,gn⟩;obtain⟨n1,v1,rfl⟩:=iT.nd;obtain⟨n2,v2,rfl⟩:=gn.nd;exact⟨rfl,rfl,_,_,_,_,_,_,rfl,rfl,rfl,s.act d,ok.act od aN,by show(s.pa++[_]).length<=_;rw[BL];exact Ao _,rfl,iT,gn⟩
  refine Ub (fun AL=>∃s6 s7 s8 s9:Slot,AL=[.AD,.ow true (B7 s A3 a1 dx bK bP),.ow true (BA s a2 aK aP),.is (.int m),.is (.lst (Aw.map .str)),.is (.int w),s6,s7,s8,s9]) ?_ (by rintro _ ⟨s6,s7,s8,s9,rfl⟩;exact fin s6 s7 s8 s9)
  walk_at "ww"
  refine B5 (fun c=>?_) (fun c=>BM (by decide) (Cg ⟨_,_,_,_,rfl⟩))
  walk_at "ww"
  refine⟨by decide,_,.inl ⟨rfl,rfl,[],rfl,_,rfl,?_⟩⟩;refine B5 (fun c2=>?_) (fun c2=>Cg ⟨_,_,_,_,rfl⟩);have Af:Aw≠[]:=fun z=>by rw[nV z] at c2;cases c2
  have Ht:0<Aw.length:=List.length_pos_iff.mpr Af
  walk_at "ww"
  rw[AX];refine⟨by omega,by omega,fun q q0 q1=>?_⟩;obtain⟨q,rfl⟩:=GQ q0;obtain⟨x,hx⟩:∃x,Aw[q]?=some x:=⟨_,B9 (by omega)⟩;refine⟨_,.str x,rfl,?_,?_⟩
  ·exact S8 (by rw[Az,hx];rfl)
  have xm:x∈s.ln:=pm.mem_iff.mp (DD hx);have hi:=List.idxOf_lt_length_iff.mpr xm;obtain⟨l,el⟩:∃l,s.ll[s.ln.idxOf x]?=some l:=⟨_,B9 (by omega)⟩;have gl:=ok.good l (DD el);show Ws [.AD,.ow true (B7 s A3 a1 dx bK bP),.ow true (BA s a2 aK aP),.is (.int m),.is (.lst (Aw.map .str)),.is (.int w),.is (.str x),.any,.any,.any] _ _ _
  walk_at "ww"
  refine B5 (fun c3=>?_) (fun c3=>Cg ?_)
  ·refine BB (fU (i:=2) (t:=BA s a2 aK aP) (JS rfl ⟨true,aK,Ai s.ln,_,rfl,rfl,IC ok.n1,AN rfl ⟨.inr x,s.ln.idxOf x,rfl,Kq xm,?_⟩⟩));unfold BA;rw[show([]++[1]:List Nat)=[1] from rfl,R8];have e1:(Ai s.ln).eraseIdx (s.ln.idxOf x)=Ai (s.ln.eraseIdx (s.ln.idxOf x)):=by unfold Ai;rw[NT]
   have e2:(BV s.ll).eraseIdx (s.ln.idxOf x)=BV (s.ll.eraseIdx (s.ln.idxOf x)):=by unfold BV;rw[NT]
   rw[e1,e2];show Ws [.AD,.ow true (B7 s A3 a1 dx bK bP),.ow true (BA (s.La x) a2 aK aP),.is (.int m),.is (.lst (Aw.map .str)),.is (.int w),.is (.str x),.any,.any,.any] _ _ _;refine Qo (i:=1) (j:=2) (by decide) rfl rfl (Vl (PK rfl (by decide +kernel) (Lb (AN rfl (OB ⟨_,⟨m,s,a1,_,x,rfl,hY,ok,xm,rfl⟩,?_⟩)))));rintro _ t2 ⟨rfl,CQ⟩;obtain⟨nk,C8,rfl⟩:=CQ.nd;exact⟨nk,C8,rfl,rfl,_,_,_,rfl,rfl,s.La x,ok.La x,ET _,rfl,CQ,aK,aP,rfl⟩
  ·refine BB (m9 (yy (Bp (DW (KG rfl ⟨_,rfl,_,.inl ⟨rfl,rfl,s.row,rfl,DW (Le (JS rfl ⟨Ai s.ln,aK,_,rfl,AN rfl ⟨.inr x,_,.fz l.P,rfl,Kq xm,ZH el,_,rfl,l.r,l.g,l.cs,rfl,gl,by omega,?_⟩⟩))⟩⟩)))));rw[gG];refine Z9 ⟨_,_,rfl,?_⟩;show Ws [.AD,.ow true (B7 s A3 a1 dx bK bP),.ow true (BA s a2 aK aP),.is (.int m),.is (.lst (Aw.map .str)),.is (.int w),.is (.str x),.any,.is (l.told s.row),.is (l.Fl s.row).P] _ _ _;refine BB (Ku (i:=2) (t:=BA s a2 aK aP) (FX (AN rfl (JS rfl ⟨true,aK,Ai s.ln,_,rfl,rfl,by unfold BV;rw[AX];omega,IC ok.n1,B4,AN rfl ⟨.inr x,rfl,?_⟩⟩))));rw[QQ xm,RE xm];unfold BA;rw[show([]++[1]:List Nat)=[1] from rfl,R8,PD];show Ws [.AD,.ow true (B7 s A3 a1 dx bK bP),.ow true (BA (s.Fl x l) a2 aK aP),.is (.int m),.is (.lst (Aw.map .str)),.is (.int w),.is (.str x),.any,.is (l.told s.row),.is (l.Fl s.row).P] _ _ _;refine Qo (i:=1) (j:=2) (by decide) rfl rfl (qM (j:=8) (by decide) rfl (PK rfl (by decide +kernel) (Lb (AN rfl (OB ⟨_,⟨m,s,a1,_,x,l,rfl,hY,ok,xm,el,rfl⟩,?_⟩)))));rintro _ t2 ⟨rfl,CQ⟩;obtain⟨nk,C8,rfl⟩:=CQ.nd;obtain⟨z1,z2⟩:=pj s.row l;rw[z2];exact⟨nk,C8,rfl,z1,_,_,_,rfl,rfl,s.Fl x l,ok.Fl (DD el),ET _,rfl,CQ,aK,aP,rfl⟩
def ZBd:Ak ["self"] ["self"] (AV VF):=by walk_at "z1"
def jn:∀ss R,(Q5 A3) ss R->ss.length=1:=by rintro _ _ ⟨s,rfl,_,rfl⟩;rfl
def sy (F:AE K "count" "Yard.count" VF f fd)(mt:Meth K A3 "count" f):
  C6 P w K mg base A3 "count" 1 ["self"] (Ar (Q5 A3)):=by
 refine⟨f,fd,F.Am (k:=0) ZBd (fun vs H Q E h=>Fz.DG jn h) (fun AU A outer s H vs Q E hr h=>?_),(F.binds (by walk_at "bD1")),mt,Au⟩
 refine⟨_,(AB rfl (Aa (B2 Dt (D2 (qv 0)) (An EI Ag (A0 (D2 (qv 0)) A5))))),?_⟩;refine Fz.DE h jn ?_;rintro _ _ ⟨s,rfl,hp,rfl⟩;show Ws [_] _ _ _;refine Fu (gO (JG (AN rfl ⟨A3,yN,_,3,_,rfl,Au,LW,by decide +kernel,rfl,_,rfl,?_⟩)));refine Nf (Bp (JG (AN rfl ⟨A3,yN,_,2,_,rfl,Au,IB,by decide +kernel,rfl,_,.inl ⟨rfl,?_⟩⟩)));exact⟨_,rfl,rfl⟩
def kC:Ak ["row","coming","name"] ["row","coming"] (AV Yc):=by walk_at "z1"
def gW : ∀ss R,Yu ss R->ss.length=2:=by rintro _ _ ⟨tp,BN,ns,cs,rfl,EJ,rfl⟩;rfl
def ZAA (F:AE K "check_coming" "check_coming" Yc f fd)(m:mg "check_coming"=some (.ref f)):
  A7 P w K mg base "check_coming" 2 ["row","coming"] (Ar Yu):=by
 refine A7.mk F (F.binds (by walk_at "bD2")) m (F.Am (k:=1) kC (fun vs H Q E h=>Fz.DG gW h) (fun AU A outer s H vs Q E hr h=>?_))
 refine⟨_,(AB rfl (HF Gz rfl (ED (qv 1)) (D0 2 kC.nd) (AB rfl (Cf (AQ EX hr (A0 (qv 0) (A0 (qv 2) A5))))))),?_⟩;refine Fz.DE h gW ?_;rintro _ _ ⟨tp,BN,ns,cs,rfl,EJ,rfl⟩;show Ws [_,_,.any] _ _ _;refine Hx (fun _ i AL=>∃s2:Slot,AL=[.sq tp (ns.map .str),.sq BN (cs.map .str),s2]) ?_
 walk_at "ww"
 refine⟨⟨_,rfl⟩,?_,fun _ _=>⟨_,rfl,rfl⟩⟩;rintro i p AL hp ⟨s2,rfl⟩;rw[Az] at hp;cases hx:cs[i]? with
 | none=>rw[hx] at hp;cases hp
 | some x=>
  rw[hx] at hp;cases hp;refine K2 (O7 ?_)
  walk_at "ww"
  exact⟨EJ x (DD hx),_,rfl⟩
def TZ:Ak ["row","gap","coming","behind","ahead"] ["row","gap","coming"] (AV O1):=by walk_at "z1"
def vd:Scope:={ kind:=.function,names:=[(".0", .local),("thing", .local),("coming", .free)],isGenerator:=false,isCoroutine:=false,more:=[] }
def ZF3:Cw ["row","gap","coming","behind","ahead"] (AV O1) vd "thing" ["coming"] [2]:=by walk_at "z2"
def ZE7:Scope:={ kind:=.function,names:=[(".0", .local),("thing", .local),("coming", .free)],isGenerator:=false,isCoroutine:=false,more:=[] }
def ZB1:Cw ["row","gap","coming","behind","ahead"] (AV O1) ZE7 "thing" ["coming"] [2]:=by walk_at "z2"
def ji : ∀ss R,Ya ss R->ss.length=3:=by rintro _ _ ⟨tp,BN,ns,cs,g,rfl,hz,rfl⟩;rfl
def rS (F:AE K "marks_at" "marks_at" O1 f fd)(m:mg "marks_at"=some (.ref f)):
  A7 P w K mg base "marks_at" 1 ["row","gap","coming"] (Ar Ya):=by
 refine A7.mk F (F.binds (by walk_at "bD3")) m (F.Am (k:=0) TZ (fun vs H Q E h=>Fz.DG ji h) (fun AU A outer s H vs Q E hr h=>?_))
 refine⟨_,(AG rfl (Tt (i:=3) TZ.nd rfl (Or.inl rfl) rfl ZF3 (ED (Dh Fz.Ua (qv 0) EG (DK (qv 1)))) (fun _ _ _ _=>by exact(GU (Ae (show BD _ (compareOp .In) (Fi K false) from FJ) (qv 1) (qv 0)))) (fun _ _ _ _=>by exact(qv 1)))
   (AG rfl (Tt (i:=4) TZ.nd rfl (Or.inl rfl) rfl ZB1 (ED (Dh Fz.Ua (qv 0) (DK (qv 1)) EG)) (fun _ _ _ _=>by exact(GU (Ae (show BD _ (compareOp .NotIn) (Fi K true) from Xc) (qv 1) (qv 0)))) (fun _ _ _ _=>by exact(qv 1)))
   (AB rfl (Aa (Cr JJ C0 (A0 (An KA BW (A0 (B2 Hq (qv 3) (qv 4)) A5)) A5)))))),?_⟩
 refine Fz.DE h ji ?_;rintro _ _ ⟨tp,BN,ns,cs,g,rfl,hz,rfl⟩;show Ws [_,_,_,.any,.any] _ _ _
 walk_at "ww"
 refine JX (Kj PV.str (fun x=>decide (x∈cs)) PV.str ?_ str_inj)
 walk_at "ww"
 refine⟨CZ (bS _ _ _) (by omega),fun x hx=>by walk_at "ww"; rfl,fun x hx _=>by walk_at "ww"; rfl,?_⟩
 walk_at "ww"
 refine JX (Kj PV.str (fun x=>!decide (x∈cs)) PV.str ?_ str_inj)
 walk_at "ww"
 refine⟨CZ (bS _ _ _) (by omega),fun x hx=>by walk_at "ww"; rfl,fun x hx _=>by walk_at "ww"; rfl,?_⟩
 walk_at "ww"
 rw[ZDD,zU,AX,AX];have h:=ZFg ns g cs;unfold C9 at h;rw[BL] at h;refine⟨by omega,?_⟩
 walk_at "ww"
 refine⟨by rw[BL];omega,fun ts pm st=>?_⟩
 walk_at "ww"
 exact⟨ts,pm,st,rfl⟩
def Jv:Ak ["row","coming","gap","unpaired","pairs","place","thing"] ["row","coming"] (AV Ve):=by walk_at "z1"
def kX : ∀ss R,Vx ss R->ss.length=2:=by rintro _ _ ⟨tp,BN,ns,cs,rfl,hz,nd,EJ,rfl⟩;rfl
def ZDX (F:AE K "least_slip" "least_slip" Ve f fd)(m:mg "least_slip"=some (.ref f)):
  A7 P w K mg base "least_slip" 3 ["row","coming"] (Ar Vx):=by
 refine A7.mk F (F.binds (by walk_at "bD2")) m (F.Am (k:=2) Jv (fun vs H Q E h=>Fz.DG kX h) (fun AU A outer s H vs Q E hr h=>?_))
 refine⟨_,(AG rfl (Cf (AQ VT hr (A0 (qv 0) (A0 (qv 1) A5))))
   (AG rfl (B3 2 Jv.nd A9)
   (AG rfl (B3 3 Jv.nd (EH A5))
   (AG rfl (B3 4 Jv.nd (EH A5))
   (AG rfl (Cq (HF Gz rfl (ZCY rfl LR (A0 (qv 0) A5)) (MF rfl (FP (D0 5 Jv.nd) (FP (D0 6 Jv.nd) MG))) (AB rfl (Ap (Ae FJ (qv 6) (qv 1)) (AB rfl (Cf (FT GR LF LG JA (qv 3) (A0 (qv 6) A5)))) (AB rfl (Ap (Ae (Kk hr.FN) (qv 3) (EH A5)) (AB rfl (B3 2 Jv.nd (B2 Dt (qv 5) A9))) (AB rfl (Cf (FT GR LF LG JA (qv 4) (A0 (Bv (A0 (uW GR PySem.F.slot_list_pop PySem.F.type_list_pop yk (qv 3)) (A0 (qv 6) A5))) A5))))))))))
   (AB rfl (Aa (Bv (A0 (Bv (A0 (qv 2) (A0 (AQ Y0 hr (A0 (qv 0) (A0 (qv 2) (A0 (qv 1) A5)))) A5))) (A0 (qv 4) A5)))))))))),?_⟩
 refine Fz.DE h kX ?_;rintro _ _ ⟨tp,BN,ns,cs,rfl,hz,nd,EJ,rfl⟩;show Ws [_,_,.any,.any,.any,.any,.any] _ _ _;refine BB (O7 (wp_call (HZ ?_)))
 walk_at "ww"
 refine HZ ?_
 walk_at "ww"
 refine Bm ⟨_,⟨_,_,_,_,rfl,EJ,rfl⟩,fun _ _=>?_⟩
 walk_at "ww"
 refine⟨by simp,?_⟩
 walk_at "ww"
 refine⟨by simp,?_⟩
 walk_at "ww"
 refine Hx (fun _ i AL=>∃s5 s6:Slot,AL=[.sq tp (ns.map .str),.sq BN (cs.map .str),.is (.int ((gr cs (ns.take i)).g:Nat)),.own ((gr cs (ns.take i)).u.map .str),.own ((gr cs (ns.take i)).ps.map U7),s5,s6]) ?_
 walk_at "ww"
 refine⟨⟨_,_,rfl⟩,?_,?_⟩
 ·rintro i p AL hp ⟨s5,s6,rfl⟩;obtain⟨y,hy,rfl⟩:=jD hp;have hi:i<ns.length:=by have:=(List.getElem?_eq_some_iff.mp hy).1;simpa using this
  have ey:y=.str (ns.getD i ""):=by
   rw[Az,B9 hi] at hy;rw[ES,B9 hi];exact(BS hy).symm
  subst ey;have I:=Ti cs nd i (by omega);rw[UO hi,aJ];generalize ns.getD i ""=x;generalize hs:gr cs (ns.take i)=s at I;have hn:=I.hn;rw[Bd] at hn;have l1:=I.OJ;have l2:cC cs (ns.take i)<=ns.length:=CZ (Fq _ _) (by rw[Bd];omega);refine Z9 ⟨_,_,rfl,?_⟩
  walk_at "ww"
  refine B5 (fun c=>?_) (fun c=>?_)
  ·have c':x∈cs:=qH c;rw[show KJ cs s x=⟨s.n+1,s.g,s.u++[x],s.ps⟩ from pR c']
   walk_at "ww"
   exact⟨by rw[AX];omega,_,_,by rw[CS];rfl⟩
  have c':x∉cs:=fun h=>c (nV h)
  walk_at "ww"
  refine⟨by simp,?_⟩
  walk_at "ww"
  refine B5 (fun d=>?_) (fun d=>?_)
  ·have d':s.u=[]:=qH d;rw[show KJ cs s x=⟨s.n+1,s.n+1,s.u,s.ps⟩ from(nr c').trans (pR d')]
   walk_at "ww"
   exact⟨_,_,by
    show _=[_,_,Slot.is (.int ((s.n+1:Nat):Int)),_,_,_,_];rw[show((s.n+1:Nat):Int)=(i:Int)+1 by omega];rfl⟩
  ·have d':s.u≠[]:=fun h=>d (nV h);rw[show KJ cs s x=⟨s.n+1,s.g,s.u.dropLast,s.ps++[(s.u.getLastD "", x)]⟩ from(nr c').trans (nr d')];refine ZFS (i:=4) (j:=3) rfl rfl (by decide) (xb d') (AN rfl ⟨by rw[AX];omega,_,_,by rw[xw,CS];rfl⟩)
 ·rw[M0,AX];rintro AL ⟨s5,s6,rfl⟩;rw[Hl];refine Rg 4 rfl ?_;refine Fu (Kt (Ka (Kt ?_)))
  walk_at "ww"
  refine wp_call (HZ ?_)
  walk_at "ww"
  refine Br ?_
  walk_at "ww"
  refine HZ ?_
  walk_at "ww"
  refine Bm ⟨_,⟨_,_,_,_,_,rfl,hz,rfl⟩,?_⟩;rintro _ ⟨ts,pm,st,rfl⟩
  walk_at "ww"
  refine⟨by simp,?_⟩
  walk_at "ww"
  exact⟨by simp,ts,pm,st,rfl⟩
def y1:Ak ["self","loop"] ["self","loop"] (AV Wv):=by walk_at "z1"
def jx:∀ss R,(SA A3) ss R->ss.length=2:=by rintro _ _ ⟨m,s,lo,rfl,_,_,_,rfl⟩;rfl
def ZAv (F:AE K "ticket_now" "Yard.ticket_now" Wv f fd)(mt:Meth K A3 "ticket_now" f):
  C6 P w K mg base A3 "ticket_now" 4 ["self","loop"] (Ar (SA A3)):=by
 refine⟨f,fd,F.Am (k:=3) y1 (fun vs H Q E h=>Fz.DG jx h) (fun AU A outer s H vs Q E hr h=>?_),(F.binds (by walk_at "bD2")),mt,Au⟩
 refine⟨_,(AB rfl (Aa (Bv (A0 (Of Kg hr (by decide) (qv 0)) (A0 (AM AZ (qv 1) A9) (A0 (AM AZ (qv 1) A9) (A0 (AM AZ (AQ XU hr (A0 (D2 (qv 0)) (A0 (AM AZ (qv 1) A9) A5))) A9) A5))))))),?_⟩;refine Fz.DE h jx ?_;rintro _ _ ⟨m,s,⟨r,g,cs⟩,rfl,ok,gd,hp,rfl⟩;have hr:=ok.row.len;have h4:=ok.m4;show Ws [.is (Cz s A3),.is (.tup [.str r,.int g,.tup (cs.map .str)])] _ _ _;refine Fu (Kt (Ka (GV (AN rfl ⟨_,_,rfl,by decide +kernel,Bm ⟨_,⟨s,rfl,hp,rfl⟩,?_⟩⟩))));rintro _ rfl
 walk_at "ww"
 refine Bp (wp_call (HZ (Bp (JG (AN rfl ⟨A3,yN,_,0,_,rfl,Au,Ca,by decide +kernel,rfl,_,.inl ⟨rfl,?_⟩⟩)))));refine HZ (Bp ?_)
 walk_at "ww"
 refine Bm ⟨_,⟨false,true,s.row,cs,rfl,by omega,ok.row.nd,gd.sub,rfl⟩,?_⟩;intro q hq;rw[ZCz ok.row.nd hq];refine⟨_,.inr ⟨rfl,rfl,JO ⟨_,_,rfl,rfl,Q2 ⟨by show 4<=100000;decide,rfl⟩⟩⟩⟩
def oM:Ak ["self","name"] ["self","name"] (AV Xs):=by walk_at "z1"
def ig:∀ss R,(T5 A3) ss R->ss.length=2:=by rintro _ _ ⟨m,s,x,lo,rfl,_,_,_,_,rfl⟩;rfl
def ZDt (F:AE K "ticket_of" "Yard.ticket_of" Xs f fd)(mt:Meth K A3 "ticket_of" f):
  C6 P w K mg base A3 "ticket_of" 5 ["self","name"] (Ar (T5 A3)):=by
 refine⟨f,fd,F.Am (k:=4) oM (fun vs H Q E h=>Fz.DG ig h) (fun AU A outer s H vs Q E hr h=>?_),(F.binds (by walk_at "bD2")),mt,Au⟩
 refine⟨_,(AB rfl (Aa (FF Lk hr (by decide) (qv 0) (A0 (FF GJ hr (by decide) (qv 0) (A0 (qv 1) A5)) A5)))),?_⟩;refine Fz.DE h ig ?_;rintro _ _ ⟨m,s,x,lo,rfl,ok,hx,hl,hp,rfl⟩;show Ws [.is (Cz s A3),.is (.str x)] _ _ _;refine Fu (GV (AN rfl ⟨_,_,rfl,by decide +kernel,Br (GV (AN rfl ⟨_,_,rfl,by decide +kernel,Br (AN rfl (Bm ⟨_,⟨s,x,lo,rfl,hx,hl,ok.l1,rfl⟩,?_⟩))⟩))⟩));rintro _ rfl;exact Bm ⟨_,⟨m,s,lo,rfl,ok,ok.good lo (DD hl),hp,rfl⟩,fun _ h=>h⟩
def sE:Ak ["self","rule"] ["self","rule"] (AV Xp):=by walk_at "z1"
def gM:∀ss R,(T6 A3) ss R->ss.length=2:=by rintro _ _ ⟨m,s,r,rfl,_,_,_,rfl⟩;rfl
def ZEe (F:AE K "ticket" "Yard.ticket" Xp f fd)(mt:Meth K A3 "ticket" f):
  C6 P w K mg base A3 "ticket" 9 ["self","rule"] (Ar (T6 A3)):=by
 refine⟨f,fd,F.Am (k:=8) sE (fun vs H Q E h=>Fz.DG gM h) (fun AU A outer s H vs Q E hr h=>?_),(F.binds (by walk_at "bD2")),mt,Au⟩
 refine⟨_,(AB rfl (Aa (FF Lk hr (by decide) (qv 0) (A0 (AQ Lm hr (A0 (D2 (qv 0)) (A0 (qv 1) A5))) A5)))),?_⟩;refine Fz.DE h gM ?_;rintro _ _ ⟨m,s,r,rfl,ok,hr,hp,rfl⟩;have h1:=ok.row.len;have h4:=ok.m4;show Ws [.is (Cz s A3),.is (.str r)] _ _ _;refine Fu (GV (AN rfl ⟨_,_,rfl,by decide +kernel,Br (af (Bp (JG (AN rfl ⟨A3,yN,_,0,_,rfl,Au,Ca,by decide +kernel,rfl,_,.inl ⟨rfl,s.row,rfl,AN rfl ⟨r,rfl,hr,by omega,fun ts pm st=>?_⟩⟩⟩))))⟩));rw[KL ok.row.nd pm st];exact Bm ⟨_,⟨m,s,⟨r,0,CO s.row⟩,rfl,ok,X6 ok.row.nd hr,hp,rfl⟩,fun _ h=>h⟩
def zw:Ak ["row","slip"] ["row","slip"] (AV Pk):=by walk_at "z1"
def ZBe:Scope:={ kind:=.function,names:=[(".0", .local),("at", .local),("row", .free),("slip", .free)],isGenerator:=false,isCoroutine:=false,more:=[] }
def ZA9:Cw ["row","slip"] (AV Pk) ZBe "at" ["row","slip"] [0,1]:=by walk_at "z2"
def kH : ∀ss R,Y2 ss R->ss.length=2:=by rintro _ _ ⟨ns,ts,g,rfl,_,rfl⟩;rfl
def yR (F:AE K "_law_shown" "_law_shown" Pk f fd)(m:mg "_law_shown"=some (.ref f)):
  A7 P w K mg base "_law_shown" 1 ["row","slip"] (Ar Y2):=by
 refine A7.mk F (F.binds (by walk_at "bD2")) m (F.Am (k:=0) zw (fun vs H Q E h=>Fz.DG kH h) (fun AU A outer s H vs Q E hr h=>?_))
 refine⟨_,(AB rfl (Aa (An KA BW (A0 (FK rfl ZA9 (LY rfl FA (A0 (An EI Ag (A0 (qv 0) A5)) A5)) (fun _ _ _ _=>by exact(GU (Ae G0 (Cs J8 (qv 2) (AM (show En _ (Jh K) from AZ) (qv 1) A9)) (Cs (show BD _ (compareOp .In) (Fi K false) from FJ) (AM (show En _ (K3 K) from DQ) (qv 0) (qv 2)) (AM (show En _ (Jh K) from AZ) (qv 1) A9))))) (fun _ _ _ _=>by exact(AM (show En _ (K3 K) from DQ) (qv 0) (qv 2)))) A5)))),?_⟩;refine Fz.DE h kH ?_;rintro _ _ ⟨ns,ts,g,rfl,hz,rfl⟩;show Ws [.is (.lst (ns.map .str)),.is (.tup [.int g,.tup (ts.map .str)])] _ _ _
 walk_at "ww"
 refine Bp (Ed (Kj (fun i:Nat=>PV.int (i:Int)) (JF g ts ns) (fun i=>.str (ns.getD i "")) ?_ fG))
 walk_at "ww"
 rw[AX,Jo];refine⟨by omega,by omega,List.range ns.length,rfl,by rw[Ml];omega,fun i hi=>?_,fun i hi _=>?_,?_⟩
 ·have DM:=List.mem_range.mp hi
  walk_at "ww"
  refine⟨_,_,rfl,VE DM,?_⟩
  walk_at "ww"
  rfl
 ·have DM:=List.mem_range.mp hi
  walk_at "ww"
  exact⟨_,_,rfl,VE DM,rfl⟩
 ·rw[aW ns g ts];refine⟨_,.inl ⟨rfl,C9 ns g ts,rfl,?_,fun us pm st=>⟨us,pm,st,rfl⟩⟩⟩;have:=vL ns g ts;omega
def XJ:Ak ["row","coming","counts","gap"] ["row","coming"] (AV QC):=by walk_at "z1"
def nh:Scope:={ kind:=.function,names:=[(".0", .local),("at", .local),("coming", .free),("gap", .free),("row", .free)],isGenerator:=false,isCoroutine:=false,more:=[] }
def vK:Cw ["row","coming","counts","gap"] (AV QC) nh "at" ["coming","gap","row"] [1,3,0]:=by walk_at "z2"
def iy : ∀ss R,Vj ss R->ss.length=2:=by rintro _ _ ⟨ns,cs,rfl,_,_,rfl⟩;rfl
def rV (F:AE K "_law_least" "_law_least" QC f fd)(m:mg "_law_least"=some (.ref f)):
  A7 P w K mg base "_law_least" 1 ["row","coming"] (Ar Vj):=by
 refine A7.mk F (F.binds (by walk_at "bD2")) m (F.Am (k:=0) XJ (fun vs H Q E h=>Fz.DG iy h) (fun AU A outer s H vs Q E hr h=>?_))
 refine⟨_,(AG rfl (B3 2 XJ.nd (EH A5))
   (AG rfl (Cq (HF Gz rfl (LY rfl FA (A0 (B2 Dt (An EI Ag (A0 (qv 0) A5)) A9) A5)) (D0 3 XJ.nd) (AB rfl (Cf (FT GR LF LG JA (qv 2) (A0 (An EI Ag (A0 (FK rfl vK (LY rfl FA (A0 (An EI Ag (A0 (qv 0) A5)) A5)) (fun _ _ _ _=>by exact(GU (Ae G0 (Cs J8 (qv 3) (qv 1)) (Cs (show BD _ (compareOp .In) (Fi K false) from FJ) (AM (show En _ (K3 K) from DQ) (qv 2) (qv 3)) (qv 0))))) (fun _ _ _ _=>by exact(qv 3))) A5)) A5))))))
   (AB rfl (Aa (An (ZEw rfl) M9 (A0 (qv 2) A5)))))),?_⟩
 refine Fz.DE h iy ?_;rintro _ _ ⟨ns,cs,rfl,hz,nd,rfl⟩;show Ws [.is (.lst (ns.map .str)),.is (.tup (cs.map .str)),.any,.any] _ _ _
 walk_at "ww"
 refine⟨by decide,?_⟩;show Ws [.is (.lst (ns.map .str)),.is (.tup (cs.map .str)),.own [],.any] _ _ _;refine BB (Hz (Hx (fun _ i AL=>∃s3:Slot,AL=[.is (.lst (ns.map .str)),.is (.tup (cs.map .str)),.own ((JT ns cs i).map .int),s3]) ?_))
 walk_at "ww"
 rw[AX];refine⟨by omega,by omega,⟨_,rfl⟩,?_,?_⟩
 ·rintro i p AL hp ⟨s3,rfl⟩;obtain⟨hi,rfl⟩:=Xu hp;refine K2 ?_;show Ws [.is (.lst (ns.map .str)),.is (.tup (cs.map .str)),.own ((JT ns cs i).map .int),.is (.int i)] _ _ _;refine bX rfl (Nf (Bp (Ed (Kj (fun j:Nat=>PV.int (j:Int)) (JF i cs ns) (fun j=>.int j) ?_ fG))))
  walk_at "ww"
  rw[AX,Jo];refine⟨by omega,by omega,List.range ns.length,rfl,by rw[Ml];omega,fun j hj=>?_,fun j hj _=>?_,?_⟩
  ·have Jn:=List.mem_range.mp hj
   walk_at "ww"
   refine⟨_,_,rfl,VE Jn,?_⟩
   walk_at "ww"
   rfl
  ·walk_at "ww"
   rfl
  ·have el:=uC List.length (aW ns i cs);rw[AX,AX] at el;refine⟨_,.inl ⟨rfl,?_,.is (.int i),?_⟩⟩
   ·rw[AX];unfold JT;rw[AX,Ml];omega
   ·rw[AX,el];unfold JT;rw[List.range_succ,CS,CS];rfl
 ·rintro AL ⟨s3,rfl⟩;rw[MT];refine Fu (ZBQ (fq rfl ⟨rfl,JT ns cs (ns.length+1),rfl,?_,fun m hm hy=>?_⟩))
  ·intro z;have:=uC List.length z;unfold JT at this;rw[AX,Ml] at this;cases this
  ·rw[yW nd hm hy]
def ZCI:Ak ["found"] ["found"] (AV XZ):=by walk_at "z1"
def iU : ∀ss R,NV ss R->ss.length=1:=by rintro _ _ ⟨i,rfl,rfl⟩;rfl
def u5 (F:AE K "_law_whole" "_law_whole" XZ f fd)(m:mg "_law_whole"=some (.ref f)):
  A7 P w K mg base "_law_whole" 1 ["found"] (Ar NV):=by
 refine A7.mk F (F.binds (by walk_at "bD1")) m (F.Am (k:=0) ZCI (fun vs H Q E h=>Fz.DG iU h) (fun AU A outer s H vs Q E hr h=>?_))
 refine⟨_,(AB rfl (Aa (HN (An Hh Dq (A0 (qv 0) (A0 (HS "int" HX) A5))) (IJ (pW (An Hh Dq (A0 (qv 0) (A0 (HS "bool" W0) A5)))))))),?_⟩;refine Fz.DE h iU ?_;rintro _ _ ⟨i,rfl,rfl⟩;show Ws [_] _ _ _;refine Fu (NP (IX (AN rfl ⟨true,Hu _ _,_,rfl,Mx ?_⟩)));exact aY (IX (AN rfl ⟨false,yp _,_,rfl,rfl⟩))
def aj:Ak ["found","count","row","loop","slip"] ["found","count","row","loop"] (AV Nc):=by walk_at "z1"
def zE:Scope:={ kind:=.function,names:=[(".0", .local),("one", .local),("_law_whole", .globalImplicit)],isGenerator:=false,isCoroutine:=false,more:=[] }
def x8:Cw ["found","count","row","loop","slip"] (AV Nc) zE "one" [] []:=by walk_at "z2"
def uF:Scope:={ kind:=.function,names:=[(".0", .local),("name", .local),("row", .free)],isGenerator:=false,isCoroutine:=false,more:=[] }
def zT:Cw ["found","count","row","loop","slip"] (AV Nc) uF "name" ["row"] [2]:=by walk_at "z2"
def bq : ∀ss R,UB ss R->ss.length=4:=by rintro _ _ ⟨c,ns,lo,rfl,_,_,_,rfl⟩;rfl
def ZDQ (F:AE K "_law_is_ticket" "_law_is_ticket" Nc f fd)(m:mg "_law_is_ticket"=some (.ref f)):
  A7 P w K mg base "_law_is_ticket" 2 ["found","count","row","loop"] (Ar UB):=by
 refine A7.mk F (F.binds (by walk_at "bD4")) m (F.Am (k:=1) aj (fun vs H Q E h=>Fz.DG bq h) (fun AU A outer s H vs Q E hr h=>?_))
 refine⟨_,(AG rfl (Ap (Ds (Cd (DV (An Hh Dq (A0 (qv 0) (A0 (HS "tuple" C0) A5))))) (Ds (Ae G0 (An EI Ag (A0 (qv 0) A5)) A9) (Fp (Ae (Fz.lB hr.units) (Dh Fz.Ua (qv 0) EG (DK A9)) (Bv (A0 (qv 1) (A0 (AM AZ (qv 3) A9) (A0 (AM AZ (qv 3) A9) A5)))))))).pt (AB rfl (Aa GD)) Ay)
   (AG rfl (B3 4 aj.nd (AM AZ (qv 0) A9))
   (AG rfl (Ap (Ds (Cd (DV (An Hh Dq (A0 (qv 4) (A0 (HS "tuple" C0) A5))))) (Ds (Ae G0 (An EI Ag (A0 (qv 4) A5)) A9) (Fp (Cd (DV (An Hh Dq (A0 (AM AZ (qv 4) A9) (A0 (HS "tuple" C0) A5)))))))).pt (AB rfl (Aa GD)) Ay)
   (AG rfl (Ap (Ds (Cd (DV (An (LK rfl) Eb (A0 (FK rfl x8 (ED (Bv (A0 (AM AZ (qv 0) A9) (A0 (AM AZ (qv 0) A9) (A0 (AM AZ (qv 4) A9) A5))))) (fun _ _ _ _=>by exact Lh) (fun _ _ _ _=>by exact(AQ IE hr (A0 (qv 0) A5)))) A5)))) (Fp (Cd (NA Fd Fd A9 (AM AZ (qv 4) A9) (An EI Ag (A0 (qv 2) A5)))))).pt (AB rfl (Aa GD)) Ay)
   (AG rfl (Ap (Ds (Ae (K9 hr.FN) (Cr JH Bk (A0 (AM AZ (qv 4) A9) A5)) (An (ic rfl) BW (A0 (Cr (iI rfl) M5 (A0 (AM AZ (qv 4) A9) A5)) A5))) (Fp (Cd (DV (An (LK rfl) Eb (A0 (FK rfl zT (ED (AM AZ (qv 4) A9)) (fun _ _ _ _=>by exact Lh) (fun _ _ _ _=>by exact(Cs (show BD _ (compareOp .In) (Fi K false) from FJ) (qv 1) (qv 0)))) A5)))))).pt (AB rfl (Aa GD)) Ay)
   (AB rfl (Aa (HN (Cs (Kk hr.FN) (AQ VY hr (A0 (qv 2) (A0 (qv 4) A5))) (An KA BW (A0 (AM AZ (qv 3) A9) A5))) (IJ (Cs C2 (An EI Ag (A0 (AM AZ (qv 4) A9) A5)) (AQ Yh hr (A0 (qv 2) (A0 (AM AZ (qv 3) A9) A5))))))))))))),?_⟩
 refine Fz.DE h bq ?_;rintro _ _ ⟨n,ns,⟨r,g,cs⟩,rfl,hz,nd,gd,rfl⟩;have hg:=(W5 cs nd).2;have hl:=ZCA (ns:=ns) cs;show Ws [.is (.tup [.int n,.str r,.int g,.tup [.int ((gr cs ns).g:Nat),.tup ((EM ns cs).map .str)]]),.is (.int n),.is (.lst (ns.map .str)),.is (.tup [.str r,.int g,.tup (cs.map .str)]),.any] _ _ _;refine BB (EY (Hf (Ec (Dn (IX (AN rfl ⟨true,Hu _ _,true,rfl,DS ?_⟩))))))
 walk_at "ww"
 refine BM (by simp[alike]) ?_;have d3:dat K 40 (.tup [.int n,.str r,.int g]):=ZFB (d:=38) (fun x hx=>by simp at hx;rcases hx with rfl | rfl | rfl <;> rfl)
 refine Nk (Ta (W7 (OS rfl ?_)))
 walk_at "ww"
 rw[show ZM true (Dj [PV.int n,.str r,.int g,.tup [.int ((gr cs ns).g:Nat),.tup ((EM ns cs).map .str)]] none (some 3))=.tup [.int n,.str r,.int g] from rfl];refine⟨by show 3<=100000;decide,d3,d3,_,rfl,BM (by rw[Q4 40 d3];decide) (Cg ?_)⟩;refine BB (IP (RZ (OS rfl ⟨rfl,JO ⟨_,_,rfl,rfl,?_⟩⟩)));show Ws [.is (.tup [.int n,.str r,.int g,.tup [.int ((gr cs ns).g:Nat),.tup ((EM ns cs).map .str)]]),.is (.int n),.is (.lst (ns.map .str)),.is (.tup [.str r,.int g,.tup (cs.map .str)]),.is (.tup [.int ((gr cs ns).g:Nat),.tup ((EM ns cs).map .str)])] _ _ _;refine BB (EY (Hf (Ec (Dn (IX (AN rfl ⟨true,Hu _ _,true,rfl,DS ?_⟩))))))
 walk_at "ww"
 refine BM (by simp[alike]) ?_;refine Ec (Dn (IX ?_))
 walk_at "ww"
 refine⟨true,Hu _ _,true,rfl,DS (Cg ?_)⟩;refine BB (EY (Hf (Ec (Dn (Q6 rfl (Bp (Ed (Kj PV.int (fun _=>true) (fun _=>.bl true) (OD (J5 (Kt ?_))) qZ))))))))
 walk_at "ww"
 refine⟨by show 3<=100000;decide,_,.inr ⟨rfl,[n,(g:Int),((gr cs ns).g:Nat)],rfl,by show 3<=100000;decide,fun z _=>WS rfl,fun z _ _=>wp_call (Br (AN rfl (Bm ⟨_,⟨z,rfl,rfl⟩,fun _ h=>h⟩))),?_⟩⟩;refine⟨_,.inl ⟨rfl,rfl,[true,true,true],rfl,_,rfl,BM (by decide) ?_⟩⟩
 walk_at "ww"
 refine OT (nV (by omega)) ?_
 walk_at "ww"
 rw[AX];refine BM (by simp;omega) (Cg ?_);refine BB (EY (Hf ?_))
 walk_at "ww"
 refine⟨by omega,fun us Co hm hs=>?_⟩
 walk_at "ww"
 rw[nV ((gL Co hm hs).mpr (y9 cs nd))];refine BM (by decide) ?_;refine Ec (Dn (Q6 rfl (Bp (Ed (ph PV.str (fun x=>.bl (decide (x∈ns))) ?_ str_inj)))))
 walk_at "ww"
 refine⟨by omega,fun x hx=>by walk_at "ww"; rfl,?_⟩
 have ha:(((EM ns cs).map fun x=>decide (x∈ns)).all id)=true:=List.all_eq_true.mpr fun b hb=>by
  obtain⟨y,hy,rfl⟩:=List.mem_map.mp hb;exact nV (q8 hy)
 refine⟨_,.inl ⟨rfl,rfl,(EM ns cs).map fun x=>decide (x∈ns),by rw[Fs];rfl,_,rfl,BM (by rw[ha];decide) (Cg ?_)⟩⟩;refine Fu (NP (iC ?_));refine Bp (Ed (qO (Br (AN rfl (Br (AN rfl (Bm ⟨_,⟨ns,EM ns cs,(gr cs ns).g,rfl,by omega,rfl⟩,?_⟩)))))));rintro _ ⟨us,pm,su,rfl⟩;refine⟨_,.inl ⟨rfl,us,rfl,?_⟩⟩
 walk_at "ww"
 have hc:cs.length<=ns.length:=Qb (O9 gd.up) gd.sub;refine⟨by omega,fun vs Mr FC=>?_⟩;have e:us=vs:=ZCf (pm.trans ((ZEg nd gd.sub (O9 gd.up)).trans Mr.symm)) su FC;refine⟨_,.inl ⟨rfl,rfl,vs,rfl,_,rfl,?_⟩⟩;rw[nV e];refine OT rfl ?_
 walk_at "ww"
 refine wp_call (Br (AN rfl (Br ?_)))
 walk_at "ww"
 refine Bm ⟨_,⟨ns,cs,rfl,by omega,nd,rfl⟩,?_⟩;rintro _ rfl;rw[AX,ZCE cs nd];exact⟨rfl,uC PV.bl (nV rfl)⟩
def K4:Ak ["pot","yard","state","count","names","name","found","rule"] ["pot","yard","state"] (AV UR):=by walk_at "z1"
def cG:∀ss R,(Yi A3) ss R->ss.length=3:=by rintro _ _ ⟨m,s,rfl,_,_,_,rfl⟩;rfl
def ZEO (F:AE K "_law_tickets" "_law_tickets" UR f fd)(m:mg "_law_tickets"=some (.ref f)):
  A7 P w K mg base "_law_tickets" 10 ["pot","yard","state"] (Ar (Yi A3)):=by
 refine A7.mk F (F.binds (by walk_at "bD3")) m (F.Am (k:=9) K4 (fun vs H Q E h=>Fz.DG cG h) (fun AU A outer s H vs Q E hr h=>?_))
 refine⟨_,(AG rfl (B3 3 K4.nd (An EI Ag (A0 (Bl (BO hr) (qv 2) Ac (fun _ _=>rfl)) A5)))
   (AG rfl (B3 4 K4.nd (An (Qq rfl) BW (A0 (Bl (BO hr) (qv 2) Ac (fun _ _=>rfl)) A5)))
   (AG rfl (Cq (Ap (Ae (K9 hr.FN) (qv 4) (EH A5)) (AG rfl (B3 5 K4.nd (AM DQ (qv 4) (AQ Ba hr (A0 (qv 0) (A0 (An EI Ag (A0 (qv 4) A5)) A5)))))
   (AG rfl (B3 6 K4.nd (FF SO hr (by decide) (qv 1) (A0 (qv 5) A5)))
   (AB rfl (Ap (Ds (Cd (DV (AQ SF hr (A0 (qv 6) (A0 (qv 3) (A0 (Bl (BO hr) (qv 2) Ac (fun _ _=>rfl)) (A0 (Bl (BO hr) (Bl (BO hr) (qv 2) Ac (fun _ _=>rfl)) (qv 5) (fun _ _=>rfl)) A5))))))) (Fp (Ae (Fz.lB hr.units) (FF SO hr (by decide) (qv 1) (A0 (qv 5) A5)) (qv 6)))).pt (AB rfl (Aa GD)) Ay)))) Ay))
   (AG rfl (B3 7 K4.nd (AQ MV hr (A0 (qv 0) A5)))
   (AG rfl (B3 6 K4.nd (FF RH hr (by decide) (qv 1) (A0 (qv 7) A5)))
   (AG rfl (Ap (Cd (DV (AQ SF hr (A0 (qv 6) (A0 (qv 3) (A0 (Bl (BO hr) (qv 2) Ac (fun _ _=>rfl)) (A0 (AQ Ls hr (A0 (Bl (BO hr) (qv 2) Ac (fun _ _=>rfl)) (A0 (qv 7) A5))) A5))))))) (AB rfl (Aa GD)) Ay)
   (AB rfl (Aa (Cs (Fz.fb hr.units) (FF RH hr (by decide) (qv 1) (A0 (qv 7) A5)) (qv 6)))))))))),?_⟩
 refine Fz.DE h cG ?_;rintro _ _ ⟨m,s,rfl,ok,hf,hp,rfl⟩;have l1:=ok.l1;have lf:=ok.G1;have hr:=ok.row.len;have h4:=ok.m4;have en:(s.fg:Int)+s.pa.length=s.pa.length:=by rw[hf];simp
 show Ws [.AD,.is (Cz s A3),.is (Fw s),.any,.any,.any,.any,.any] _ _ _;refine BB (IP (Nf (Bp (Gk (AN rfl ⟨CT,_,rfl,Eu ⟨.inr "past", _,rfl,rfl,_,.inl ⟨rfl,?_⟩⟩⟩)))));refine BB (JX (Vr (Gk (AN rfl ⟨CT,_,rfl,Eu ⟨.inr "kept", _,rfl,rfl,_,s.ln,rfl,by omega,fun Aw pm st=>?_⟩⟩))));refine Rg 4 rfl ?_;have nl:Aw.length=s.ln.length:=pm.length_eq;show Ws [.AD,.is (Cz s A3),.is (Fw s),.is (.int s.pa.length),.is (.lst (Aw.map .str)),.any,.any,.any] _ _ _;refine Ub (fun AL=>∃s5 s6:Slot,AL=[.AD,.is (Cz s A3),.is (Fw s),.is (.int s.pa.length),.is (.lst (Aw.map .str)),s5,s6,.any]) ?_ ?_
 ·refine Hz ?_
  walk_at "ww"
  refine⟨by decide,_,.inl ⟨rfl,rfl,[],rfl,_,rfl,?_⟩⟩;refine B5 (fun c2=>?_) (fun c2=>Cg ⟨_,_,rfl⟩);have Af:Aw≠[]:=fun z=>by rw[nV z] at c2;cases c2
  have Ht:0<Aw.length:=List.length_pos_iff.mpr Af
  walk_at "ww"
  rw[AX];refine⟨by omega,by omega,fun q q0 q1=>?_⟩;obtain⟨q,rfl⟩:=GQ q0;obtain⟨x,hx⟩:∃x,Aw[q]?=some x:=⟨_,B9 (by omega)⟩;refine⟨_,.str x,rfl,?_,?_⟩
  ·exact S8 (by rw[Az,hx];rfl)
  have xm:x∈s.ln:=pm.mem_iff.mp (DD hx);have hi:=List.idxOf_lt_length_iff.mpr xm;obtain⟨l,el⟩:∃l,s.ll[s.ln.idxOf x]?=some l:=⟨_,B9 (by omega)⟩;have gl:=ok.good l (DD el);have dt:dat K 40 (Hv s.pa.length s.row l):=cj _ _ _;show Ws [.AD,.is (Cz s A3),.is (Fw s),.is (.int s.pa.length),.is (.lst (Aw.map .str)),.is (.str x),.any,.any] _ _ _;refine BB (IP (GV (AN rfl ⟨_,_,rfl,by decide +kernel,Br (AN rfl (Bm ⟨_,⟨m,s,x,l,rfl,ok,xm,el,hp,rfl⟩,?_⟩))⟩)));rintro _ rfl;rw[en];show Ws [.AD,.is (Cz s A3),.is (Fw s),.is (.int s.pa.length),.is (.lst (Aw.map .str)),.is (.str x),.is (Hv s.pa.length s.row l),.any] _ _ _;refine EY (Hf (Ec (Dn (wp_call (Br (AN rfl (Br (AN rfl (Br (Gk (AN rfl ⟨CT,_,rfl,Eu ⟨.inr "row", _,rfl,rfl,?_⟩⟩)))))))))));refine Br (Gk (Gk (AN rfl ⟨CT,_,rfl,Eu ⟨.inr "kept", _,rfl,rfl,Ai s.ln,_,rfl,AN rfl ⟨.inr x,l.P,rfl,Uy xm (by rw[Az,el];rfl),?_⟩⟩⟩)));refine Bm ⟨_,⟨(s.pa.length:Int),s.row,l,rfl,by omega,ok.row.nd,gl,rfl⟩,?_⟩;rintro _ rfl;refine⟨true,rfl,DS ?_⟩;refine Nk (Ta (GV (AN rfl ⟨_,_,rfl,by decide +kernel,Br (AN rfl (Bm ⟨_,⟨m,s,x,l,rfl,ok,xm,el,hp,rfl⟩,?_⟩))⟩)));rintro _ rfl;rw[en];exact AN rfl ⟨dt,dt,_,rfl,BM (by rw[Q4 40 dt];decide) (Cg ⟨_,_,rfl⟩)⟩
 ·rintro _ ⟨s5,s6,rfl⟩;refine BB (IP (Yp rfl (Bm ⟨_,⟨rfl,rfl⟩,?_⟩)));rintro _ ⟨r,rfl,G4⟩;show Ws [.AD,.is (Cz s A3),.is (Fw s),.is (.int s.pa.length),.is (.lst (Aw.map .str)),s5,s6,.is (.str r)] _ _ _;have gb:Lp.Good s.row ⟨r,0,CO s.row⟩:=X6 ok.row.nd G4;have dt:dat K 40 (Hv s.pa.length s.row ⟨r,0,CO s.row⟩):=cj _ _ _;refine BB (IP (GV (AN rfl ⟨_,_,rfl,by decide +kernel,Br (AN rfl (Bm ⟨_,⟨m,s,r,rfl,ok,G4,hp,rfl⟩,?_⟩))⟩)));rintro _ rfl;rw[en];show Ws [.AD,.is (Cz s A3),.is (Fw s),.is (.int s.pa.length),.is (.lst (Aw.map .str)),s5,.is (Hv s.pa.length s.row ⟨r,0,CO s.row⟩),.is (.str r)] _ _ _;refine BB (EY (Ec (Dn (wp_call (Br (AN rfl (Br (AN rfl (Br (Gk (AN rfl ⟨CT,_,rfl,Eu ⟨.inr "row", _,rfl,rfl,?_⟩⟩)))))))))));refine Br (wp_call (HZ (Bp (Gk (AN rfl ⟨CT,_,rfl,Eu ⟨.inr "row", _,rfl,rfl,_,.inl ⟨rfl,Br (AN rfl (Bm ⟨_,⟨s.row,r,rfl,by omega,rfl⟩,?_⟩))⟩⟩⟩)))));rintro _ ⟨ts,Mr,FC,rfl⟩;rw[KL ok.row.nd Mr FC];refine Bm ⟨_,⟨(s.pa.length:Int),s.row,⟨r,0,CO s.row⟩,rfl,by omega,ok.row.nd,gb,rfl⟩,?_⟩;rintro _ rfl;refine⟨true,rfl,DS (Cg ?_)⟩;refine Fu (T2 (GV (AN rfl ⟨_,_,rfl,by decide +kernel,Br (AN rfl (Bm ⟨_,⟨m,s,r,rfl,ok,G4,hp,rfl⟩,?_⟩))⟩)));rintro _ rfl;rw[en];refine AN rfl ⟨dt,dt,?_⟩;rw[Q4 40 dt]
def ZFp:Ak ["self"] ["self"] (AV Vd):=by walk_at "z1"
def Zn:∀ss R,(Xe A3) ss R->ss.length=1:=by rintro _ _ ⟨s,rfl,rfl⟩;rfl
def ZDu (F:AE K "row" "Yard.row" Vd f fd)(mt:Meth K A3 "row" f):
  C6 P w K mg base A3 "row" 1 ["self"] (Ar (Xe A3)):=by
 refine⟨f,fd,F.Am (k:=0) ZFp (fun vs H Q E h=>Fz.DG Zn h) (fun AU A outer s H vs Q E hr h=>?_),(F.binds (by walk_at "bD1")),mt,Au⟩
 refine⟨_,(AB rfl (Aa (Cr JH Bk (A0 (D2 (qv 0)) A5)))),?_⟩;refine Fz.DE h Zn ?_;rintro _ _ ⟨s,rfl,rfl⟩;show Ws [_] _ _ _;exact Wh (Z6 rfl (Bp (JG (AN rfl ⟨A3,yN,_,0,_,rfl,Au,Ca,by decide +kernel,rfl,_,.inl ⟨rfl,rfl⟩⟩))))
def oE:Ak ["self"] ["self"] (AV YE):=by walk_at "z1"
def bo:∀ss R,(VZ A3) ss R->ss.length=1:=by rintro _ _ ⟨m,s,rfl,_,rfl⟩;rfl
def rW (F:AE K "loops" "Yard.loops" YE f fd)(mt:Meth K A3 "loops" f):
  C6 P w K mg base A3 "loops" 1 ["self"] (Ar (VZ A3)):=by
 refine⟨f,fd,F.Am (k:=0) oE (fun vs H Q E h=>Fz.DG bo h) (fun AU A outer s H vs Q E hr h=>?_),(F.binds (by walk_at "bD1")),mt,Au⟩
 refine⟨_,(AB rfl (Aa (An (Qq rfl) BW (A0 (D2 (qv 0)) A5)))),?_⟩;refine Fz.DE h bo ?_;rintro _ _ ⟨m,s,rfl,ok,rfl⟩;show Ws [_] _ _ _;refine Wh (Vr (JG (AN rfl ⟨A3,yN,_,1,_,rfl,Au,CN,by decide +kernel,rfl,_,s.ln,rfl,by have:=ok.G1;omega,fun Aw pm st=>?_⟩)));show _=_;rw[KL ok.n1 pm st]
def ZA2:Ak ["found"] ["found"] (AV RV):=by walk_at "z1"
def ze:Scope:={ kind:=.function,names:=[(".0", .local),("name", .local),("isinstance", .globalImplicit),("str", .globalImplicit)],isGenerator:=false,isCoroutine:=false,more:=[] }
def ZAc:Cw ["found"] (AV RV) ze "name" [] []:=by walk_at "z2"
def ia : ∀ss R,Td ss R->ss.length=1:=by rintro _ _ ⟨ns,rfl,hz,rfl⟩;rfl
def wb (F:AE K "_law_texts" "_law_texts" RV f fd)(m:mg "_law_texts"=some (.ref f)):
  A7 P w K mg base "_law_texts" 1 ["found"] (Ar Td):=by
 refine A7.mk F (F.binds (by walk_at "bD1")) m (F.Am (k:=0) ZA2 (fun vs H Q E h=>Fz.DG ia h) (fun AU A outer s H vs Q E hr h=>?_))
 refine⟨_,(AB rfl (Aa (HN (An Hh Dq (A0 (qv 0) (A0 (HS "list" Bk) A5))) (IJ (An (LK rfl) Eb (A0 (FK rfl ZAc (ED (qv 0)) (fun _ _ _ _=>by exact Lh) (fun _ _ _ _=>by exact(An (show CY _ (.builtin "isinstance") (SM K) from Hh) Dq (A0 (qv 0) (A0 (HS "str" Lv) A5))))) A5)))))),?_⟩;refine Fz.DE h ia ?_;rintro _ _ ⟨ns,rfl,hz,rfl⟩;show Ws [_] _ _ _
 walk_at "ww"
 refine pA ?_
 walk_at "ww"
 refine⟨true,Hu _ _,_,rfl,Mx ?_⟩
 walk_at "wp"
 refine Bp (Ed (Kj PV.str (fun _=>true) (fun _=>.bl true) ?_ str_inj))
 walk_at "ww"
 refine⟨by omega,fun x hx=>by walk_at "ww"; rfl,fun x hx _=>?_,?_⟩
 ·refine IX ?_
  walk_at "ww"
  exact⟨true,Hu _ _,rfl⟩
 ·walk_at "ww"
  rw[show(List.map (fun _=>true) (ns.filter fun _=>true)).all id=true from by simp]
def ZFD:Ak ["found","due"] ["found","due"] (AV ZE):=by walk_at "z1"
def bb : ∀ss R,Tr ss R->ss.length=2:=by rintro _ _ ⟨lo,rfl,rfl⟩;rfl
def ZCP (F:AE K "_law_is_loop" "_law_is_loop" ZE f fd)(m:mg "_law_is_loop"=some (.ref f)):
  A7 P w K mg base "_law_is_loop" 2 ["found","due"] (Ar Tr):=by
 refine A7.mk F (F.binds (by walk_at "bD2")) m (F.Am (k:=1) ZFD (fun vs H Q E h=>Fz.DG bb h) (fun AU A outer s H vs Q E hr h=>?_))
 refine⟨_,(AG rfl (Ap (Ds (Cd (DV (An Hh Dq (A0 (qv 0) (A0 (HS "tuple" C0) A5))))) (Ds (Ae G0 (An EI Ag (A0 (qv 0) A5)) A9) (Fp (Cd (DV (An Hh Dq (A0 (AM AZ (qv 0) A9) (A0 (HS "tuple" C0) A5)))))))).pt (AB rfl (Aa GD)) Ay)
   (AB rfl (Aa (HN (An Hh Dq (A0 (AM AZ (qv 0) A9) (A0 (HS "str" Lv) A5))) (HN (AQ IE hr (A0 (AM AZ (qv 0) A9) A5)) (IJ (Cs (Fz.fb hr.units) (qv 0) (qv 1)))))))),?_⟩
 refine Fz.DE h bb ?_;rintro _ _ ⟨⟨r,g,ts⟩,rfl,rfl⟩;show Ws [.is (.tup [.str r,.int g,.tup (ts.map .str)]),.is (.tup [.str r,.int g,.tup (ts.map .str)])] _ _ _;refine BB (EY (Hf (Ec (Dn (IX (AN rfl ⟨true,Hu _ _,true,rfl,DS ?_⟩))))))
 walk_at "ww"
 refine BM (by simp[alike]) ?_;refine Ec (Dn (IX ?_))
 walk_at "ww"
 refine⟨true,Hu _ _,true,rfl,DS (Cg ?_)⟩;refine Fu (NP (IX ?_))
 walk_at "ww"
 refine⟨true,Hu _ _,true,rfl,OT rfl ?_⟩;refine NP (wp_call (Br ?_))
 walk_at "ww"
 refine Bm ⟨_,⟨_,rfl,rfl⟩,?_⟩;rintro _ rfl;refine⟨_,rfl,OT rfl ?_⟩;have d:dat K 40 (Cc r g ts):=mH K r g ts;refine T2 (AN rfl (AN rfl ⟨d,d,?_⟩));show PV.bl (Bg (Cc r g ts) (Cc r g ts))=PV.bl true;rw[Q4 40 d]
def Yl:Ak ["yard","state","row","names"] ["yard","state"] (AV SW):=by walk_at "z1"
def oA:Scope:={ kind:=.function,names:=[(".0", .local),("name", .local),("_law_is_loop", .globalImplicit),("state", .free),("yard", .free)],isGenerator:=false,isCoroutine:=false,more:=[] }
def ZEt:Cw ["yard","state","row","names"] (AV SW) oA "name" ["state","yard"] [1,0]:=by walk_at "z2"
def ar:∀ss R,(Ux A3) ss R->ss.length=2:=by rintro _ _ ⟨m,s,a1,a2,t1,t2,rfl,_,_,_,_,_,rfl⟩;rfl
def zJ (F:AE K "_law_stands" "_law_stands" SW f fd)(m:mg "_law_stands"=some (.ref f)):
  A7 P w K mg base "_law_stands" 5 ["yard","state"] (Cu (Ux A3)):=by
 refine A7.mk F (F.binds (by walk_at "bD2")) m (F.Am (k:=4) Yl (fun vs H Q E h=>Fz.Jg ar h) (fun AU A outer s H vs Q E hr h=>?_))
 refine⟨_,(AG rfl (B3 2 Yl.nd (Of Sz hr (by decide) (qv 0)))
   (AG rfl (B3 3 Yl.nd (Of YQ hr (by decide) (qv 0)))
   (AG rfl (Ap (Ds (Cd (DV (AQ Ry hr (A0 (qv 2) A5)))) (Ds (Ae (K9 hr.FN) (qv 2) (Bl (BO hr) (qv 1) Ac (fun _ _=>rfl))) (Ds (Cd (DV (AQ Ry hr (A0 (qv 3) A5)))) (Fp (Ae (K9 hr.FN) (qv 3) (An (Qq rfl) BW (A0 (Bl (BO hr) (qv 1) Ac (fun _ _=>rfl)) A5))))))).pt (AB rfl (Aa GD)) Ay)
   (AG rfl (Ap (Ds (Cd (DV (AQ IE hr (A0 (Of Kg hr (by decide) (qv 0)) A5)))) (Fp (Ae G0 (Of Kg hr (by decide) (qv 0)) (An EI Ag (A0 (Bl (BO hr) (qv 1) Ac (fun _ _=>rfl)) A5))))).pt (AB rfl (Aa GD)) Ay)
   (AG rfl (Cf (FT GR LF LG JA (qv 2) (A0 Ac A5)))
   (AG rfl (Cf (FT GR LF LG JA (qv 3) (A0 Ac A5)))
   (AB rfl (Aa (An (LK rfl) Eb (A0 (ZBp (FK rfl ZEt (vT (Bl (BO hr) (qv 1) Ac (fun _ _=>rfl))) (fun _ _ _ _=>by exact Lh) (fun _ _ _ _=>by exact(AQ T9 hr (A0 (FF GJ hr (by decide) (qv 1) (A0 (qv 2) A5)) (A0 (Bl (BO hr) (Bl (BO hr) (qv 0) Ac (fun _ _=>rfl)) (qv 2) (fun _ _=>rfl)) A5)))))) A5)))))))))),?_⟩
 refine Fz.RM h ar ?_;rintro _ _ ⟨m,s,a1,a2,t1,t2,rfl,hY,hS,ok,hf,hp,rfl⟩;obtain⟨dx,bK,bP,rfl⟩:=hY;obtain⟨aK,aP,rfl⟩:=hS;have l1:=ok.l1;have lf:=ok.G1;have hr:=ok.row.len;have h4:=ok.m4;show Ws [.ow true (B7 s A3 a1 dx bK bP),.ow true (BA s a2 aK aP),.any,.any] _ _ _;refine BB (JX (Zs ?_));show Wn [.is (B7 s A3 a1 dx bK bP).pv,.is (BA s a2 aK aP).pv,.any,.any] _ _;rw[JB,Nd];refine eW (AN rfl ⟨_,_,rfl,by decide +kernel,Bm ⟨_,⟨s,rfl,rfl⟩,?_⟩⟩);rintro _ rfl;refine⟨jQ s.row,?_⟩;show Ws [.ow true (B7 s A3 a1 dx bK bP),.ow true (BA s a2 aK aP),.own (s.row.map .str),.any] _ _ _;refine BB (JX (Zs ?_));show Wn [.is (B7 s A3 a1 dx bK bP).pv,.is (BA s a2 aK aP).pv,_,.any] _ _;rw[JB,Nd];refine eW (AN rfl ⟨_,_,rfl,by decide +kernel,Bm ⟨_,⟨m,s,rfl,ok,rfl⟩,?_⟩⟩);rintro _ rfl;refine⟨jQ _,?_⟩;show Ws [.ow true (B7 s A3 a1 dx bK bP),.ow true (BA s a2 aK aP),.own (s.row.map .str),.own ((CO s.ln).map .str)] _ _ _;refine BB (EY (cD ?_));show Wt [.is (B7 s A3 a1 dx bK bP).pv,.is (BA s a2 aK aP).pv,_,_] _ _;rw[JB,Nd];show Wt [.is (Cz s A3),.is (Fw s),.is (.lst (s.row.map .str)),.is (.lst ((CO s.ln).map .str))] _ _;have sl:(CO s.ln).length=s.ln.length:=PY s.ln;refine Hf (Ec (Dn (wp_call (HZ (Rt rfl (Bm ⟨_,⟨s.row,rfl,by omega,rfl⟩,?_⟩))))));rintro _ rfl;refine⟨_,rfl,BM (by decide) ?_⟩
 walk_at "ww"
 refine Bp (Gk (AN rfl ⟨CT,_,rfl,Eu ⟨.inr "row", _,rfl,rfl,_,.inl ⟨rfl,rfl,s.row,rfl,_,rfl,BM ?_ ?_⟩⟩⟩))
 ·rw[nV rfl];decide
 refine Hf (Ec (Dn (wp_call (HZ (Rt (i:=3) rfl (Bm ⟨_,⟨CO s.ln,rfl,by omega,rfl⟩,?_⟩))))));rintro _ rfl;refine⟨_,rfl,BM (by decide) ?_⟩
 walk_at "ww"
 refine Bp (Ed (Vr (Gk (AN rfl ⟨CT,_,rfl,Eu ⟨.inr "kept", _,rfl,rfl,_,s.ln,rfl,by omega,fun Aw pm st=>?_⟩⟩))));rw[KL ok.n1 pm st];refine⟨_,.inl ⟨rfl,rfl,CO s.ln,rfl,_,rfl,BM ?_ (Cg ?_)⟩⟩
 ·rw[nV rfl];decide
 refine BB (EY (cD ?_));show Wt [.is (B7 s A3 a1 dx bK bP).pv,.is (BA s a2 aK aP).pv,_,_] _ _;rw[JB,Nd];refine Hf (Ec (Dn (wp_call (Br (GV (AN rfl ⟨_,_,rfl,by decide +kernel,Bm ⟨_,⟨s,rfl,by omega,rfl⟩,?_⟩⟩))))));rintro _ rfl;refine Bm ⟨_,⟨_,rfl,rfl⟩,?_⟩;rintro _ rfl;refine⟨_,rfl,BM (by decide) ?_⟩;refine Nk (eC (GV (AN rfl ⟨_,_,rfl,by decide +kernel,Bm ⟨_,⟨s,rfl,by omega,rfl⟩,?_⟩⟩)));rintro _ rfl;refine Nf (Bp (Gk (AN rfl ⟨CT,_,rfl,Eu ⟨.inr "past", _,rfl,rfl,_,.inl ⟨rfl,?_⟩⟩⟩)));refine⟨rfl,_,rfl,BM ?_ (Cg ?_)⟩
 ·rw[hf];simp[alike]
 show Ws [.ow true (B7 s A3 a1 dx bK bP),.ow true (BA s a2 aK aP),.own (s.row.map .str),.own ((CO s.ln).map .str)] _ _ _
 walk_at "ww"
 refine⟨by rw[AX];omega,?_⟩
 walk_at "ww"
 refine⟨by rw[AX];omega,?_⟩;have el:BV s.ll=(s.ll.map Lp.P).map .fz:=by unfold BV;rw[Fs];rfl
 refine ZA1 (i:=0) (j:=1) (by decide) rfl rfl (Q6 rfl (Bp (Ed (vP (jS:=1) (jY:=0) (l2:=true) (l1:=true) (a2:=a2) (aK:=aK) (u0:=.fz (.lst (s.row.map .str))) (u2:=.nd .lst aP (s.pa.map .fz)) (tY:=B7 s A3 a1 dx bK bP) (ns:=s.ln) (ps:=s.ll.map Lp.P) ?_ rfl (by decide) ok.n1 (by omega) ?_ ?_ ?_))))
 ·show some (Slot.ow true (BA s a2 aK aP))=_;unfold BA;rw[el]
 ·intro n x p hx hq;rw[JB];rw[Az] at hq;obtain⟨lo,e2,rfl⟩:=Option.map_eq_some_iff.mp hq;have ix:s.ln.idxOf x=n:=LO ok.n1 hx;exact GV (AN rfl ⟨_,_,rfl,by decide +kernel,Br (AN rfl (Bm ⟨_,⟨s,x,lo,rfl,DD hx,by rw[ix];exact e2,l1,rfl⟩,fun q hq=>hq⟩))⟩)
 ·intro p hq;obtain⟨lo,_,rfl⟩:=List.mem_map.mp hq;exact wp_call (Br (AN rfl (Br (AN rfl (Bm ⟨_,⟨lo,rfl,rfl⟩,fun q hq=>hq⟩)))))
 ·refine⟨_,.inl ⟨rfl,rfl,List.replicate s.ln.length true,by rw[List.map_replicate],?_,rfl,rfl⟩⟩
  congr 1
  exact List.all_eq_true.mpr fun b hb=>List.eq_of_mem_replicate hb
def J3:Ak ["script","pot","most","state","yard","k","turn"] ["script"] (AV LS):=by walk_at "z1"
def uH (F:AE K "law" "law" LS f fd)(m:mg "law"=some (.ref f)):
  DL P w K mg base Ff 12 f fd ["script"] (Ni K):=by
 refine(F.Am (k:=11) J3 (fun vs H Q E h=>by obtain⟨a,ns,rfl,_⟩:=h;rfl) (fun AU A outer s H vs Q E hr h=>?_));refine⟨_,(AG rfl (B3 1 J3.nd (AQ Q0 hr (A0 (qv 0) (A0 A9 A5))))
   (AG rfl (B3 2 J3.nd (AM AZ (Bv (A0 A9 (A0 A9 A5))) (Cr U4 HX (A0 (Cs C2 (AQ Ba hr (A0 (qv 1) (A0 A9 A5))) A9) A5))))
   (AG rfl (B3 3 J3.nd (AQ XC hr (A0 (qv 1) (A0 (qv 2) A5))))
   (AG rfl (B3 4 J3.nd (vS XO hr (by decide) UZ (A0 (Bl (BO hr) (qv 3) Ac (fun _ _=>rfl)) A5)))
   (AG rfl (Cq (HF Gz rfl (LY rfl FA (A0 (An (xZ rfl) Vh (A0 A9 (A0 (An (wQ rfl) M9 (A0 (An EI Ag (A0 (qv 0) A5)) (A0 A9 A5))) A5))) A5)) (D0 5 J3.nd) (AG rfl (B3 1 J3.nd (AQ Q0 hr (A0 (qv 0) (A0 (qv 5) A5))))
   (AG rfl (Cq (HF Gz rfl (LY rfl FA (A0 (B2 Dt A9 (AQ Ba hr (A0 (qv 1) (A0 A9 A5)))) A5)) (D0 6 J3.nd) (AB rfl (Ap (Cd (DV (AQ Xt hr (A0 (qv 1) (A0 (qv 4) (A0 (qv 3) (A0 (qv 2) A5))))))) (AB rfl (Aa GD)) Ay))))
   (AB rfl (Ap (Ds (Cd (DV (AQ Vz hr (A0 (qv 1) (A0 (qv 4) (A0 (qv 3) A5)))))) (Fp (Cd (DV (AQ T7 hr (A0 (qv 4) (A0 (qv 3) A5))))))).pt (AB rfl (Aa GD)) Ay))))))
   (AB rfl (Aa GD))))))),?_⟩
 refine Fz.ZDI h ?_;intro sc iB;show Ws [_,.any,.any,.any,.any,.any,.any] _ _ _;refine BB (TH rfl (JO ⟨_,rfl,by decide,by decide,?_⟩));show Ws [.raw (Dm K sc),.AD,.any,.any,.any,.any,.any] _ _ _
 walk_at "ww"
 refine⟨by decide,_,.inr ⟨rfl,rfl,?_⟩⟩
 walk_at "ww"
 refine⟨by decide,by decide,fun r r0 r1=>?_⟩
 walk_at "ww"
 obtain⟨m,em,hm⟩:∃m:Nat,L2.Bf [PV.int 9,.int 16] (if alike (PV.int r) (.int 0)=true then 1 else 0)=some (.int m)/\(m=9∨m=16):=by
  split
  ·exact⟨16,rfl,.inr rfl⟩
  ·exact⟨9,rfl,.inl rfl⟩
 refine⟨_,_,rfl,em,?_⟩;show Ws [.raw (Dm K sc),.AD,.is (.int m),.any,.any,.any,.any] _ _ _;refine BB (fm (pO rfl (Br (AN rfl (Bm ⟨_,⟨m,rfl,by omega,by omega,rfl⟩,?_⟩)))));rintro _ ⟨ns,a2,hR,bK,bP,rfl⟩;show Ws [.raw (Dm K sc),.AD,.is (.int m),.ow false (BA (y0 ns) a2 bK bP),.any,.any,.any] _ _ _;refine BB (fm (sh (Lb (DW (KG (i:=3) rfl ⟨_,rfl,OB fun x dx=>⟨_,⟨x,dx,ns,rfl,⟨by have:=hR.len;omega,hR.nm,hR.nd⟩,rfl⟩,?_⟩⟩)))));rintro _ t2 ⟨rfl,aK,aP,rfl⟩;refine⟨rfl,_,_,rfl,?_⟩;show Ws [.raw (Dm K sc),.AD,.is (.int m),.ow false (BA (y0 ns) a2 bK bP),.ow false (B7 (y0 ns) A3 x dx aK aP),.any,.any] _ _ _;refine BB (Hz (Hx (fun _ i AL=>∃(s:Yd) (dx aK aP bK bP:Addr) (s1 s5 s6:Slot),AL=[.raw (Dm K sc),s1,.is (.int m),.ow false (BA s a2 bK bP),.ow false (B7 s A3 x dx aK aP),s5,s6]/\s.Ok m/\s.fg=0/\s.pa.length<=3 * i) ?_))
 walk_at "ww"
 obtain⟨n,en,hn⟩:=ZB9 (b:=8) (c:=24) (n:=sc.length) (by decide) (by decide) (by omega);rw[en,Jo];refine⟨by omega,by omega,⟨y0 ns,dx,aK,aP,bK,bP,_,_,_,rfl,zR hR (by omega),rfl,Ao _⟩,?_,?_⟩
 ·rintro i p AL hp ⟨s,dx,aK,aP,bK,bP,s1,s5,s6,rfl,ok,hf,I0⟩;obtain⟨hi,rfl⟩:=Xu hp;refine K2 ?_;have ZGi:i<24:=by omega
  show Ws [.raw (Dm K sc),s1,.is (.int m),.ow false (BA s a2 bK bP),.ow false (B7 s A3 x dx aK aP),.is (.int i),s6] _ _ _;refine BB (TH rfl (AN rfl ⟨_,rfl,by omega,by omega,?_⟩));show Ws [.raw (Dm K sc),.AD,.is (.int m),.ow false (BA s a2 bK bP),.ow false (B7 s A3 x dx aK aP),.is (.int i),s6] _ _ _;refine Ub (fun AL=>∃(s:Yd) (dx aK aP bK bP:Addr) (s6:Slot),AL=[.raw (Dm K sc),.AD,.is (.int m),.ow false (BA s a2 bK bP),.ow false (B7 s A3 x dx aK aP),.is (.int i),s6]/\s.Ok m/\s.fg=0/\s.pa.length<=3 * (i+1)) ?_ ?_
  ·refine Hz (Hx (fun _ j AL=>∃(s:Yd) (dx aK aP bK bP:Addr) (s6:Slot),AL=[.raw (Dm K sc),.AD,.is (.int m),.ow false (BA s a2 bK bP),.ow false (B7 s A3 x dx aK aP),.is (.int i),s6]/\s.Ok m/\s.fg=0/\s.pa.length<=3 * i+j) ?_)
   walk_at "ww"
   refine⟨by decide,by decide,fun r r0 r1=>?_⟩;obtain⟨r,rfl⟩:=GQ r0;refine⟨_,rfl,_,rfl,by omega,by omega,⟨s,dx,aK,aP,bK,bP,s6,rfl,ok,hf,I0⟩,?_,?_⟩
   ·clear hf I0 ok;rintro j p AL Pl ⟨s,dx,aK,aP,bK,bP,s6,rfl,ok,hf,I0⟩;obtain⟨hj,rfl⟩:=Xu Pl;refine K2 ?_;show Ws [.raw (Dm K sc),.AD,.is (.int m),.ow false (BA s a2 bK bP),.ow false (B7 s A3 x dx aK aP),.is (.int i),.is (.int j)] _ _ _;refine gm (jZ (fN (TB (i:=4) (j:=3) (q:=1) (by decide) rfl rfl (fun _=>rfl) (pQ rfl (Uq rfl (.inl ⟨_,_,_,rfl⟩) (U8 rfl (.inl ⟨_,_,_,rfl⟩) (dy (AN rfl (Vg ⟨_,⟨m,s,x,a2,_,_,rfl,by omega,⟨dx,aK,aP,rfl⟩,⟨bK,bP,rfl⟩,ok,by omega,rfl⟩,?_⟩)))))))));rintro _ u1 u2 ⟨rfl,s',rU,Pp,OR,⟨Il,D5,DU,rfl⟩,⟨bK',bP',rfl⟩⟩;exact⟨rfl,rfl,true,rfl,DS (Cg ⟨s',Il,D5,DU,bK',bP',_,rfl,rU,OR.trans hf,by omega⟩)⟩
   ·rintro AL ⟨s,dx,aK,aP,bK,bP,s6,rfl,ok,hf,I0⟩;rw[MT] at I0;exact⟨s,dx,aK,aP,bK,bP,s6,rfl,ok,hf,by omega⟩
  ·clear hf I0 ok;rintro _ ⟨s,dx,aK,aP,bK,bP,s6,rfl,ok,hf,I0⟩;refine gm (ZBa (t1:=B7 s A3 x dx aK aP) (t2:=BA s a2 bK bP) (new:=fun u1 u2=>([.raw (Dm K sc),.AD,.is (.int m),.ow false (BA s a2 bK bP),.ow false (B7 s A3 x dx aK aP),.is (.int i),s6].set 4 (.ow false u1)).set 3 (.ow false u2)) rfl (Ec (gs 3 rfl (gs 4 rfl ?_))));rw[Nd,JB];show Wt [.raw (Dm K sc),.AD,.is (.int m),.is (Fw s),.is (Cz s A3),.is (.int i),s6] _ _;refine Dn (Yp rfl (Br (AN rfl (Br (AN rfl (Bm ⟨_,⟨m,s,rfl,ok,hf,by omega,rfl⟩,?_⟩))))));rintro _ rfl;refine⟨true,rfl,DS ?_⟩;refine jZ (fN (TB (i:=4) (j:=3) (q:=0) (b:=false) (by decide) rfl rfl (fun z=>by cases z) (Uq rfl (.inl ⟨_,_,_,rfl⟩) (U8 rfl (.inl ⟨_,_,_,rfl⟩) (Vg ⟨_,⟨m,s,x,a2,_,_,rfl,⟨dx,aK,aP,rfl⟩,⟨bK,bP,rfl⟩,ok,hf,by omega,rfl⟩,?_⟩)))));rintro _ u1 u2 ⟨rfl,rfl,rfl⟩;exact⟨rfl,rfl,true,rfl,DS (Cg ⟨s,dx,aK,aP,bK,bP,_,_,_,rfl,ok,hf,I0⟩)⟩
 ·rintro AL ⟨s,dx,aK,aP,bK,bP,s1,s5,s6,rfl,ok,hf,I0⟩
  walk_at "ww"
  rfl
def all_mk {h:Heap}{fa f1 f2 f3 f4 f5 f6 f7 f8 f9 ky Zm Zu SN Q9 Pg dq gP Zx cx iQ hG k9 ie d7 Yg Ra kY fW fE br eZ je cJ i8 dQ bR fD cZ bW kr PX bj dE eh aV gH cz kF bp aS Rk i9 dM j9 Qx RL PR jb k8 jo d8 dJ QL Pm jc aD c5 jB:Addr}{g1 g2 g3 g4 g5 g6 g7 g8 g9 g10 g11 oH pH g14 qC mL vn g18 yr g20 g21 g22 wU yE g25 wW tN tJ nK tw g31 yP g33 g34 g35 sW zf vD g39 vh yH g42 g43 oC oG g46 z5 g48 v8 qh g51 g52 g53 zb vg g56 g57 g58 g59 wu g61 vG zc sI nW xI xO vH:FuncData}(X:K.In h)(G:h.Ns mainGlobals mg)(zd:mg "law"=some (.ref fa))
  
  (uM:PySem.W.nsIn K mainGlobals "Yard"=some (some (.ref A3)))
  (vX:PySem.W.plainGet K A3 Str.empty=true)
  (ZF1:PySem.W.hasDictIn K A3=true)
  (sf:PySem.W.plainOver K A3=true)
  (xV:PySem.W.findIn K (.ref A3) "__setattr__"=some (some (.builtin "object.__setattr__")))
  (nZ:PySem.W.makesIn K A3=true)
  (qu:PySem.W.keepIn K (.ref A3)=true)
  (LW:PySem.W.findIn K (.ref A3) "forgotten"=some none)
  (CN:PySem.W.findIn K (.ref A3) "kept"=some none)
  (IB:PySem.W.findIn K (.ref A3) "past"=some none)
  (Ca:PySem.W.findIn K (.ref A3) "standing"=some none)
  (a1:nS K "is_name" (.ref f1)) (F1:AE K "is_name" "is_name" Ri f1 g1)
  (a2:nS K "check_new_row" (.ref f2)) (F2:AE K "check_new_row" "check_new_row" Z2 f2 g2)
  (a3:PySem.W.findIn K (.ref A3) "__init__"=some (some (.ref f3))) (F3:AE K "__init__" "Yard.__init__" Yr f3 g3)
  (sj:PySem.W.isFn K (.ref f3)=true)
  (a4:nS K "_law_pot" (.ref f4)) (F4:AE K "_law_pot" "_law_pot" T4 f4 g4)
  (a5:nS K "_law_take" (.ref f5)) (F5:AE K "_law_take" "_law_take" Xr f5 g5)
  (a6:nS K "_law_letters" (.ref f6)) (F6:AE K "_law_letters" "_law_letters" UJ f6 g6)
  (a7:nS K "_law_name" (.ref f7)) (F7:AE K "_law_name" "_law_name" Vn f7 g7)
  (a8:nS K "_law_names" (.ref f8)) (F8:AE K "_law_names" "_law_names" Sw f8 g8)
  (a9:nS K "_law_row" (.ref f9)) (F9:AE K "_law_row" "_law_row" XF f9 g9)
  (sL:nS K "_law_new" (.ref ky)) (F10:AE K "_law_new" "_law_new" Tv ky g10)
  (a11:nS K "check_rule" (.ref Zm)) (F11:AE K "check_rule" "check_rule" YR Zm g11)
  (uX:nS K "begun" (.ref Zu)) (oz:AE K "begun" "begun" TY Zu oH)
  (a13:PySem.W.findIn K (.ref A3) "begin"=some (some (.ref SN))) (jj:AE K "begin" "Yard.begin" Yf SN pH)
  (ZAy:PySem.W.isFn K (.ref SN)=true)
  (a14:PySem.W.findIn K (.ref A3) "loop"=some (some (.ref Q9))) (bx:AE K "loop" "Yard.loop" Wr Q9 g14)
  (xr:PySem.W.isFn K (.ref Q9)=true)
  (pZ:PySem.W.findIn K (.ref A3) "drop"=some (some (.ref Pg))) (bC:AE K "drop" "Yard.drop" YA Pg qC)
  (ZDl:PySem.W.isFn K (.ref Pg)=true)
  (zP:nS K "is_gap" (.ref dq)) (F16:AE K "is_gap" "is_gap" XA dq mL)
  (a17:nS K "is_coming" (.ref gP)) (zq:AE K "is_coming" "is_coming" P8 gP vn)
  (a18:nS K "is_loop" (.ref Zx)) (pB:AE K "is_loop" "is_loop" YX Zx g18)
  (a19:nS K "check_loop" (.ref cx)) (F19:AE K "check_loop" "check_loop" X7 cx yr)
  (w6:nS K "things_to_come" (.ref iQ)) (y2:AE K "things_to_come" "things_to_come" SJ iQ g20)
  (pC:nS K "rest" (.ref hG)) (F21:AE K "rest" "rest" UM hG g21)
  (xU:nS K "coming_without" (.ref k9)) (tP:AE K "coming_without" "coming_without" Pq k9 g22)
  (uE:nS K "place_of" (.ref ie)) (F23:AE K "place_of" "place_of" V4 ie wU)
  (a24:nS K "loop_telling" (.ref d7)) (qr:AE K "loop_telling" "loop_telling" XH d7 yE)
  (d6:nS K "step" (.ref Yg)) (rl:AE K "step" "step" Y6 Yg g25)
  (mE:nS K "step_loops" (.ref Yg))
  (xN:PySem.W.findIn K (.ref A3) "step"=some (some (.ref Ra))) (iW:AE K "step" "Yard.step" WV Ra wW)
  (uo:PySem.W.isFn K (.ref Ra)=true)
  (oq:nS K "check_put" (.ref kY)) (sY:AE K "check_put" "check_put" Uo kY tN)
  (a28:nS K "check_move" (.ref fW)) (pL:AE K "check_move" "check_move" XS fW tJ)
  (a29:nS K "check_turn" (.ref fE)) (yO:AE K "check_turn" "check_turn" To fE nK)
  (a30:nS K "check_deed" (.ref br)) (zo:AE K "check_deed" "check_deed" WE br tw)
  (a31:nS K "row_turned" (.ref eZ)) (F31:AE K "row_turned" "row_turned" Vo eZ g31)
  (rg:nS K "row_with" (.ref je)) (pD:AE K "row_with" "row_with" Yz je yP)
  (xx:nS K "row_without" (.ref cJ)) (qx:AE K "row_without" "row_without" R0 cJ g33)
  (tE:nS K "done" (.ref i8)) (F34:AE K "done" "done" V5 i8 g34)
  (wO:nS K "gap_behind_put" (.ref dQ)) (F35:AE K "gap_behind_put" "gap_behind_put" Tq dQ g35)
  (xl:nS K "gap_behind_take" (.ref bR)) (F36:AE K "gap_behind_take" "gap_behind_take" Ud bR sW)
  (zB:nS K "gap_led" (.ref fD)) (pS:AE K "gap_led" "gap_led" Yx fD zf)
  (a38:nS K "joins" (.ref cZ)) (rE:AE K "joins" "joins" Y1 cZ vD)
  (a39:nS K "coming_behind" (.ref bW)) (F39:AE K "coming_behind" "coming_behind" Xq bW g39)
  (mT:nS K "loop_led" (.ref kr)) (F40:AE K "loop_led" "loop_led" V6 kr vh)
  (wX:PySem.W.findIn K (.ref A3) "act"=some (some (.ref PX))) (jg:AE K "act" "Yard.act" WT PX yH)
  (ZF6:PySem.W.isFn K (.ref PX)=true)
  (a42:nS K "_law_done" (.ref bj)) (F42:AE K "_law_done" "_law_done" Pb bj g42)
  (a43:nS K "_law_gap" (.ref dE)) (F43:AE K "_law_gap" "_law_gap" Xl dE g43)
  (vf:nS K "_law_led" (.ref eh)) (mq:AE K "_law_led" "_law_led" Qm eh oC)
  (sZ:nS K "_law_acts" (.ref aV)) (wG:AE K "_law_acts" "_law_acts" VX aV oG)
  (zM:nS K "_law_rule" (.ref gH)) (rQ:AE K "_law_rule" "_law_rule" XY gH g46)
  (qU:nS K "_law_begun" (.ref cz)) (F47:AE K "_law_begun" "_law_begun" Y7 cz z5)
  (o9:nS K "_law_step" (.ref kF)) (se:AE K "_law_step" "_law_step" Om kF g48)
  (a49:nS K "_law_deed" (.ref bp)) (F49:AE K "_law_deed" "_law_deed" Tw bp v8)
  (vz:nS K "_law_turn" (.ref aS)) (vZ:AE K "_law_turn" "_law_turn" UP aS qh)
  (a51:PySem.W.findIn K (.ref A3) "count"=some (some (.ref Rk))) (gj:AE K "count" "Yard.count" VF Rk g51)
  (mh:PySem.W.isFn K (.ref Rk)=true)
  (a52:nS K "check_coming" (.ref i9)) (F52:AE K "check_coming" "check_coming" Yc i9 g52)
  (a53:nS K "marks_at" (.ref dM)) (F53:AE K "marks_at" "marks_at" O1 dM g53)
  (sH:nS K "least_slip" (.ref j9)) (y6:AE K "least_slip" "least_slip" Ve j9 zb)
  (a55:PySem.W.findIn K (.ref A3) "ticket_now"=some (some (.ref Qx))) (dU:AE K "ticket_now" "Yard.ticket_now" Wv Qx vg)
  (sQ:PySem.W.isFn K (.ref Qx)=true)
  (a56:PySem.W.findIn K (.ref A3) "ticket_of"=some (some (.ref RL))) (eN:AE K "ticket_of" "Yard.ticket_of" Xs RL g56)
  (ZE2:PySem.W.isFn K (.ref RL)=true)
  (a57:PySem.W.findIn K (.ref A3) "ticket"=some (some (.ref PR))) (iq:AE K "ticket" "Yard.ticket" Xp PR g57)
  (ZAt:PySem.W.isFn K (.ref PR)=true)
  (a58:nS K "_law_shown" (.ref jb)) (x9:AE K "_law_shown" "_law_shown" Pk jb g58)
  (a59:nS K "_law_least" (.ref k8)) (F59:AE K "_law_least" "_law_least" QC k8 g59)
  (a60:nS K "_law_whole" (.ref jo)) (F60:AE K "_law_whole" "_law_whole" XZ jo wu)
  (xk:nS K "_law_is_ticket" (.ref d8)) (mx:AE K "_law_is_ticket" "_law_is_ticket" Nc d8 g61)
  (a62:nS K "_law_tickets" (.ref dJ)) (xM:AE K "_law_tickets" "_law_tickets" UR dJ vG)
  (x5:PySem.W.findIn K (.ref A3) "row"=some (some (.ref QL))) (kN:AE K "row" "Yard.row" Vd QL zc)
  (wB:PySem.W.isFn K (.ref QL)=true)
  (tR:PySem.W.findIn K (.ref A3) "loops"=some (some (.ref Pm))) (bh:AE K "loops" "Yard.loops" YE Pm sI)
  (vV:PySem.W.isFn K (.ref Pm)=true)
  (yI:nS K "_law_texts" (.ref jc)) (F65:AE K "_law_texts" "_law_texts" RV jc nW)
  (qK:nS K "_law_is_loop" (.ref aD)) (oK:AE K "_law_is_loop" "_law_is_loop" ZE aD xI)
  (a67:nS K "_law_stands" (.ref c5)) (ud:AE K "_law_stands" "_law_stands" SW c5 xO)
  (lA:nS K "law" (.ref jB)) (bG:AE K "law" "law" LS jB vH)
  (vW:nN K "all")
  (yx:nN K "bool")
  (qy:nN K "enumerate")
  (vi:nN K "int")
  (ZCa:nN K "isinstance")
  (sV:nN K "len")
  (rH:nN K "list")
  (ZAI:nN K "max")
  (ZDS:nN K "min")
  (uz:nN K "range")
  (rh:nN K "reversed")
  (rN:nN K "set")
  (ZED:nN K "sorted")
  (ZDk:nN K "str")
  (ZEA:nN K "tuple")
  (oy:nS K "LETTERS" (.str "abcdefghijklmnopqrstuvwxyz" Tx))
  (nJ:nS K "MOST_LETTERS" (.int 8 Yy))
  (mS:nS K "MOST_LOOPS" (.int 12 UU))
  (ZAM:nS K "MOST_THINGS" (.int 40 NO))
  (ZCy:nS K "RULES" (.ref FU))
  {oS:Option Addr}{ZFK:Array (Option Value)}{ZFY:Nat}{y3 ZBq vO:Tok}(ZCr:K.lookup FU=some ⟨.type "tuple", oS,.seq #[.str "none" y3,.str "ahead" ZBq,.str "all" vO] ZFY,ZFK⟩)
  : ∃fd:FuncData,(∀(s:Shared) (v:Value),BindsTo s fd ⟨[v],[]⟩ [("script", v)])/\∀base:Heap,K.In base->base.Ns mainGlobals mg->DL l.prog w K mg base Ff 12 fa fd ["script"] (Ni K):=by
 have e:=zd.symm.trans (As X G lA);cases e;have Au:C3 K A3:=⟨vX,ZF1,sf,xV⟩;have zL:Mk K A3 f3:=⟨nZ,a3,sj,qu⟩;have qo:Meth K A3 "begin" SN:=⟨a13,ZAy,jj.kp⟩;have ZAo:Meth K A3 "loop" Q9:=⟨a14,xr,bx.kp⟩;have ZFd:Meth K A3 "drop" Pg:=⟨pZ,ZDl,bC.kp⟩;have mI:Meth K A3 "step" Ra:=⟨xN,uo,iW.kp⟩;have yo:Meth K A3 "act" PX:=⟨wX,ZF6,jg.kp⟩;have ZDN:Meth K A3 "count" Rk:=⟨a51,mh,gj.kp⟩;have nI:Meth K A3 "ticket_now" Qx:=⟨a55,sQ,dU.kp⟩;have wg:Meth K A3 "ticket_of" RL:=⟨a56,ZE2,eN.kp⟩;have ZBz:Meth K A3 "ticket" PR:=⟨a57,ZAt,iq.kp⟩;have og:Meth K A3 "row" QL:=⟨x5,wB,kN.kp⟩;have ZBP:Meth K A3 "loops" Pm:=⟨tR,vV,bh.kp⟩;have Eb:=FR X G vW;have W0:=FR X G yx;have LR:=FR X G qy;have HX:=FR X G vi;have Dq:=FR X G ZCa;have Ag:=FR X G sV;have Bk:=FR X G rH;have Vh:=FR X G ZAI;have M9:=FR X G ZDS;have FA:=FR X G uz;have MH:=FR X G rh;have M5:=FR X G rN;have BW:=FR X G ZED;have Lv:=FR X G ZDk;have C0:=FR X G ZEA;have Yt:=As X G oy;have VU:=As X G nJ;have Wd:=As X G mS;have Ly:=As X G ZAM;have MI:=As X G ZCy;have LI:∀H,AA K H FU [.str "none", .str "ahead", .str "all"]:=fun H=>.inr ⟨_,_,_,ZCr,rfl,rfl,(by show 3<=sizeLine;decide +kernel),(.cons ⟨_,rfl⟩ (.cons ⟨_,rfl⟩ (.cons ⟨_,rfl⟩ .nil)))⟩;have UZ:=As X G uM;obtain⟨_,_,kV,dc,pm,an,cd,ct,_,rfl,_,_⟩:=id bG.ex;refine⟨PySem.W.fnOf "law" "law" (Od LS) (KC LS) (AV LS) .none kV dc pm an cd ct,fun s v=>.of_eq rfl,fun base _ _=>?_⟩;have Ih:=oI (P:=l.prog) (w:=w) (base:=base) Eb Ag Yt VU F1 (As X G a1);have Tp:=ZCc (P:=l.prog) (w:=w) (base:=base) Ag Ih LR Ly F2 (As X G a2);have XO:=ZEJ (P:=l.prog) (w:=w) (mg:=mg) (base:=base) (A3:=A3) Tp Bk Au LW CN IB Ca F3 zL;have Q0:=qf (P:=l.prog) (w:=w) (base:=base) Ag F4 (As X G a4);have Ba:=zt (P:=l.prog) (w:=w) (base:=base) F5 (As X G a5);have OA:=ZCB (P:=l.prog) (w:=w) (base:=base) F6 (As X G a6);have Hs:=nq (P:=l.prog) (w:=w) (base:=base) Ag OA Ba F7 (As X G a7);have YL:=ZE6 (P:=l.prog) (w:=w) (base:=base) Hs FA F8 (As X G a8);have UE:=xj (P:=l.prog) (w:=w) (base:=base) Ba YL F9 (As X G a9);have XC:=yw (P:=l.prog) (w:=w) (base:=base) UE F10 (As X G sL);have M4:=vx (P:=l.prog) (w:=w) (base:=base) MI LI F11 (As X G a11);have Lm:=ZE3 (P:=l.prog) (w:=w) (base:=base) M4 BW C0 oz (As X G uX);have UA:=ZFb (P:=l.prog) (w:=w) (mg:=mg) (base:=base) (A3:=A3) Ag Ih Au CN Ca M4 Lm Wd jj qo;have GJ:=u3 (P:=l.prog) (w:=w) (mg:=mg) (base:=base) (A3:=A3) Au CN bx ZAo;have Ui:=om (P:=l.prog) (w:=w) (mg:=mg) (base:=base) (A3:=A3) Au CN GJ bC ZFd;have XR:=o3 (P:=l.prog) (w:=w) (base:=base) Ag F16 (As X G zP);have Xh:=yB (P:=l.prog) (w:=w) (base:=base) Eb Bk BW M5 zq (As X G a17);have WZ:=ZDi (P:=l.prog) (w:=w) (base:=base) MI LI Xh XR pB (As X G a18);have ZL:=ZEy (P:=l.prog) (w:=w) (base:=base) WZ F19 (As X G a19);have Rh:=ua (P:=l.prog) (w:=w) (base:=base) y2 (As X G w6);have YZ:=mP (P:=l.prog) (w:=w) (base:=base) ZL Rh F21 (As X G pC);have MB:=wq (P:=l.prog) (w:=w) (base:=base) C0 tP (As X G xU);have EX:=pP (P:=l.prog) (w:=w) (base:=base) F23 (As X G uE)
 have YO:=mD (P:=l.prog) (w:=w) (base:=base) MB EX qr (As X G a24);have ZDf:=zI (P:=l.prog) (w:=w) (base:=base) YO YZ rl (As X G d6);have UQ:=A7.alias ZDf (As X G d6) (As X G mE);have V9:=rK (P:=l.prog) (w:=w) (mg:=mg) (base:=base) (A3:=A3) Au CN Ca GJ UQ iW mI;have Xj:=z6 (P:=l.prog) (w:=w) (base:=base) Ag Ih Ly sY (As X G oq);have WG:=xF (P:=l.prog) (w:=w) (base:=base) Ag EX pL (As X G a28);have Us:=ZDG (P:=l.prog) (w:=w) (base:=base) Ag yO (As X G a29);have Yk:=ZDa (P:=l.prog) (w:=w) (base:=base) EX WG Xj Us zo (As X G a30);have XW:=tK (P:=l.prog) (w:=w) (base:=base) Bk MH F31 (As X G a31);have PJ:=xP (P:=l.prog) (w:=w) (base:=base) Bk pD (As X G rg);have Qd:=ZCC (P:=l.prog) (w:=w) (base:=base) qx (As X G xx);have WM:=qw (P:=l.prog) (w:=w) (base:=base) Yk XW PJ Qd F34 (As X G tE);have Qu:=rG (P:=l.prog) (w:=w) (base:=base) F35 (As X G wO);have RG:=ZBy (P:=l.prog) (w:=w) (base:=base) F36 (As X G xl);have Xd:=tT (P:=l.prog) (w:=w) (base:=base) EX Qu RG pS (As X G zB);have WC:=ZB5 (P:=l.prog) (w:=w) (base:=base) rE (As X G a38);have Tn:=mQ (P:=l.prog) (w:=w) (base:=base) BW C0 MB WC F39 (As X G a39);have ZG:=ZB3 (P:=l.prog) (w:=w) (base:=base) Tn Xd F40 (As X G mT);have V1:=pV (P:=l.prog) (w:=w) (mg:=mg) (base:=base) (A3:=A3) Bk Au CN IB Ca WM ZG jg yo;have Vu:=ZBm (P:=l.prog) (w:=w) (base:=base) Bk MH F42 (As X G a42);have TR:=we (P:=l.prog) (w:=w) (base:=base) HX F43 (As X G a43);have VG:=z7 (P:=l.prog) (w:=w) (base:=base) BW C0 TR mq (As X G vf);have YC:=uj (P:=l.prog) (w:=w) (base:=base) (A3:=A3) Bk V1 Vu VG wG (As X G sZ);have MV:=ZBY (P:=l.prog) (w:=w) (base:=base) Ba rQ (As X G zM);have Ls:=nA (P:=l.prog) (w:=w) (base:=base) BW C0 F47 (As X G qU);have Vk:=ZFR (P:=l.prog) (w:=w) (base:=base) C0 se (As X G o9);have UD:=ZAJ (P:=l.prog) (w:=w) (base:=base) Ag Ba Hs F49 (As X G a49);have Xt:=ue (P:=l.prog) (w:=w) (base:=base) (A3:=A3) Ag Ba Hs BW UA Ui V9 YC Ls UD MV Vk vZ (As X G vz);have Kg:=sy (P:=l.prog) (w:=w) (mg:=mg) (base:=base) (A3:=A3) Ag Au LW IB gj ZDN;have VT:=ZAA (P:=l.prog) (w:=w) (base:=base) EX F52 (As X G a52);have Y0:=rS (P:=l.prog) (w:=w) (base:=base) BW C0 F53 (As X G a53);have XU:=ZDX (P:=l.prog) (w:=w) (base:=base) LR VT Y0 y6 (As X G sH);have Lk:=ZAv (P:=l.prog) (w:=w) (mg:=mg) (base:=base) (A3:=A3) Au Ca Kg XU dU nI;have SO:=ZDt (P:=l.prog) (w:=w) (mg:=mg) (base:=base) (A3:=A3) Au GJ Lk eN wg;have RH:=ZEe (P:=l.prog) (w:=w) (mg:=mg) (base:=base) (A3:=A3) Au Ca Lm Lk iq ZBz;have VY:=yR (P:=l.prog) (w:=w) (base:=base) Ag FA BW x9 (As X G a58);have Yh:=rV (P:=l.prog) (w:=w) (base:=base) Ag FA M9 F59 (As X G a59);have IE:=u5 (P:=l.prog) (w:=w) (base:=base) HX W0 Dq F60 (As X G a60);have SF:=ZDQ (P:=l.prog) (w:=w) (base:=base) Eb Ag Bk BW C0 M5 Dq Yh VY IE mx (As X G xk);have Vz:=ZEO (P:=l.prog) (w:=w) (base:=base) (A3:=A3) Ag Ba BW Ls MV RH SO SF xM (As X G a62);have Sz:=ZDu (P:=l.prog) (w:=w) (mg:=mg) (base:=base) (A3:=A3) Bk Au Ca kN og;have YQ:=rW (P:=l.prog) (w:=w) (mg:=mg) (base:=base) (A3:=A3) Au CN BW bh ZBP
 have Ry:=wb (P:=l.prog) (w:=w) (base:=base) Eb Bk Dq Lv F65 (As X G yI);have T9:=ZCP (P:=l.prog) (w:=w) (base:=base) Ag C0 Dq IE Lv oK (As X G qK);have T7:=zJ (P:=l.prog) (w:=w) (base:=base) (A3:=A3) Eb Ag BW GJ Kg IE YQ Sz T9 Ry ud (As X G a67);exact uH (P:=l.prog) (w:=w) (base:=base) (A3:=A3) Ag Ba FA HX M9 XO XC Q0 T7 Vz Xt Vh UZ bG (As X G lA)
def walk {q:Program}{loose:List Str}{XP:(ZHR)->Heap->Prop}{YP:World->Heap->Prop}{d:DefRec}{K:Params->ZHP}(hn:l.most=some 63)(OW:d.params.defaults=[])
  (hY:∀(w:World) (h:Heap),YP w h->(K w.params).In h)
  (F:∀(w:World) (mg:ZHR) (fa:Addr) (h:Heap),(K w.params).In h->h.Ns mainGlobals mg->mg d.name=some (.ref fa)->
   ∃fd:FuncData,(∀(s:Shared) (u:Value),BindsTo s fd ⟨[u],[]⟩ [("script", u)])/\∀base:Heap,(K w.params).In base->base.Ns mainGlobals mg->DL l.prog w (K w.params) mg base Ff 12 fa fd ["script"] (Ni (K w.params))) :
  PySem.W.WalkO q loose XP YP l.row.toRowW d [] (fun f vs=>PySem.call f vs):=
 L2.ZDP (n:=63) (k:=12) (x:="script") (CX:=fun _=>Ff) (sp:=fun w=>Ni (K w.params)) hn (by decide) OW ⟨rfl,by decide,by decide⟩ hY F (fun _ _ a ns hl _ hS=>⟨a,ns,rfl,hS,hl,fun _=>rfl⟩) fun _ _ _ _ _ z=>z
end Pf
open PySem.W
local macro_rules | `(tactic| walk_at "kF")=>`(tactic| (refine' L2.pX ?_ ?_ ?_;all_goals try k_is;all_goals k_is))
set_option maxRecDepth 100000 in
set_option maxHeartbeats 0 in
theorem PySem.Challenge.cw_stirround_k64_tickets_told_holds : PySem.Challenge.rw_stirround_k64_tickets_told.Holds := by
 w_on;o_law;k_head;(case hw=>w_witness2)
 k_fill
 refine Pf.walk (l:=PySem.Challenge.rw_stirround_k64_tickets_told) rfl rfl (fun w h Y=>PySem.W.kIn_of Y) ?F
 case F=>
  intro w mg fa h KX G NY;refine' Pf.all_mk KX G NY ?_ ?_ ?_ ?_ ?_ ?_ ?_ ?_ ?_ ?_ ?_ ?_ ?_ ?_ ?_ ?_ ?_ ?_ ?_ ?_ ?_ ?_ ?_ ?_ ?_ ?_ ?_ ?_ ?_ ?_ ?_ ?_ ?_ ?_ ?_ ?_ ?_ ?_ ?_ ?_ ?_ ?_ ?_ ?_ ?_ ?_ ?_ ?_ ?_ ?_ ?_ ?_ ?_ ?_ ?_ ?_ ?_ ?_ ?_ ?_ ?_ ?_ ?_ ?_ ?_ ?_ ?_ ?_ ?_ ?_ ?_ ?_ ?_ ?_ ?_ ?_ ?_ ?_ ?_ ?_ ?_ ?_ ?_ ?_ ?_ ?_ ?_ ?_ ?_ ?_ ?_ ?_ ?_ ?_ ?_ ?_ ?_ ?_ ?_ ?_ ?_ ?_ ?_ ?_ ?_ ?_ ?_ ?_ ?_ ?_ ?_ ?_ ?_ ?_ ?_ ?_ ?_ ?_ ?_ ?_ ?_ ?_ ?_ ?_ ?_ ?_ ?_ ?_ ?_ ?_ ?_ ?_ ?_ ?_ ?_ ?_ ?_ ?_ ?_ ?_ ?_ ?_ ?_ ?_ ?_ ?_ ?_ ?_ ?_ ?_ ?_ ?_ ?_ ?_ ?_ ?_ ?_ ?_ ?_ ?_ ?_ ?_ ?_ ?_ ?_ ?_ ?_ ?_ ?_ ?_ ?_ ?_ ?_ ?_ ?_ ?_ ?_ ?_ ?_ ?_ ?_
  any_goals first | k_is | (show _=_;k_is) | kernel_rfl | walk_at "kF"
#print axioms PySem.Challenge.cw_stirround_k64_tickets_told_holds
