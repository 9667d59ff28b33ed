import PyProof.Rows.All
import Wide.All
import OpenK.AllK
import PySem.Challenge.RW_stirround_k65_pages
set_option genSizeOf false
set_option linter.all false
set_option compiler.extract_closed false
set_option bootstrap.genMatcherCode false
noncomputable section
def pk:=@PySem.wpAny_bind
def qL:=@PySem.wpAny_pure
def rD:=@decide_eq_true
def tJ:=@if_neg
def tU:=@if_pos
def tZ:=@of_decide_eq_true
def uB:=@decide_eq_false
def ue:=@PySem.wpAny_newObj_type
def uw:=@PySem.wpAny_callSpecial?_slot
def v9:=@PySem.wpAny_mono
def wR:=@PySem.wpAny_call_entry
def xJ:=@beq_self_eq_true
def xU:=@congrArg
def xa:=@PySem.wpAny_truthy_bool
def xf:=@PySem.wpAny_holding
def yQ:=@PySem.codeAny_builtin
def yi:=@PySem.wpAny_Call_Name_kw
def zC:=@PySem.builtinLookup_eq_fast
def zU:=@PySem.wpAny_typeOf
def za:=@PySem.isSubtype_type
def ZA0:=@PySem.wpAny_updateSeq
def ZA7:=@PySem.wpAny_isInstance
def ZAA:=@PySem.wpAny_setField
def ZAB:=@PySem.wpAny_passesOwn
def ZAC:=@PySem.wpAny_setState_of
def ZAE:=@PySem.plainId_quiet
def ZAG:=@PySem.wpAny_setEntries_of
def ZAH:=@PySem.wpAny_askSetting
def ZAI:=@PySem.wpAny_specialOf
def ZAU:=@PySem.wpAny_ite_split
def ZAV:=@PySem.typeLookup_type
def ZAb:=@PySem.wpAny_pyIter_enum
def ZAf:=@or_false
def ZAg:=@PySem.wpAny_of_eq
def ZAh:=@PySem.wpAny_field
def ZAj:=@PySem.codeAny_extend_loopS
def ZAn:=@PySem.wpAny_pyIter_tuple
def ZAr:=@PySem.tupleKind_room_in1
def ZB1:=@PySem.codeAny_mono
def ZB2:=@PySem.wpAny_rule
def ZB6:=@PySem.wpAny_attempt
def ZB7:=@PySem.wpAny_execs_nil
def ZB9:=@PySem.wpAny_load
def ZBB:=@PySem.wpAny_seqItems
def ZBJ:=@PySem.wpAny_runValue
def ZBK:=@PySem.wpAny_fieldsOf
def ZBN:=@PySem.wpAny_letOwnedTupleGo_enum
def ZBO:=@PySem.wpAny_pyIter_list
def ZBS:=@PySem.wpAny_pyIter_dict
def ZBU:=@PySem.fits_of_scanBound
def ZBf:=@PySem.noFill_tuple_add
def ZBh:=@PySem.call_meets
def ZBi:=@PySem.sizeLine_eq
def ZBl:=@PySem.isSubtype_stop
def ZBx:=@if_true
def ZC9:=@if_false
def AS:=@List.length_map
def Am:=@Nat.le_refl
def Ax:=@PySem.W.mg_of
def B1:=@List.getElem?_map
def B2:=@List.not_mem_nil
def B9:=@List.getElem?_eq_getElem
def BD:=@PySem.Heap.lt_size
def BE:=@List.length_append
def BF:=@PySem.Heap.get?_push_of_some
def BP:=@Nat.ne_of_lt
def BW:=@Ne.symm
def BX:=@Option.some.inj
def BZ:=@PySem.Heap.get?_push_size
def Ba:=@List.length_cons
def Bj:=@List.append_assoc
def Bk:=@List.length_take
def Bu:=@List.map_cons
def C1:=@List.size_toArray
def C6:=@List.nodup_append
def C7:=@Nat.le_trans
def CD:=@List.map_append
def CF:=@Nat.zero_le
def CZ:=@List.getElem?_set_ne
def Co:=@List.length_drop
def Cp:=@List.mem_cons_self
def D3:=@List.mem_cons_of_mem
def DD:=@List.getElem?_set_self
def DR:=@List.mem_of_getElem?
def De:=@Bool.false_ne_true
def Dt:=@List.mem_append_right
def Du:=@Nat.lt_of_lt_of_le
def EH:=@PySem.Heap.size_push
def EI:=@List.mem_cons
def Eb:=@Bool.and_eq_true
def Ec:=@PySem.PassesOwn.never
def Ew:=@List.getD_eq_getElem?_getD
def Ey:=@Nat.le_succ
def FN:=@List.append_nil
def FO:=@PySem.F.plainAttrs_list
def Fm:=@Int.eq_ofNat_of_zero_le
def Fn:=@List.mem_append_left
def G9:=@PySem.Heap.get?_update_self
def GA:=@List.map_map
def GB:=@PySem.W.mg_none_of
def Ga:=@List.length_filter_le
def Gb:=@List.mem_append
def Gd:=@List.zip_cons_cons
def HI:=@Array.length_toList
def HJ:=@PySem.Heap.get?_update_other
def HK:=@List.getElem?_append_left
def Hr:=@Int.toNat_natCast
def Hs:=@List.all_eq_true
def Ht:=@List.lookup_cons
def Hu:=@List.take_append_drop
def Hv:=@List.take_length
def Hw:=@Nat.lt_of_le_of_lt
def Hx:=@PySem.F.slot_list_append
def Hy:=@PySem.F.type_list_append
def J4:=@List.length_set
def J5:=@Nat.le_of_lt
def J6:=@Nat.lt_succ_of_lt
def J7:=@PySem.W.kia_one
def Ji:=@List.getElem?_append_right
def Jj:=@PySem.Obj.data_mapFields
def Kr:=@Nat.min_eq_left
def Ks:=@Nat.ne_of_gt
def Lx:=@Bool.true_and
def Ly:=@Int.emod_lt_of_pos
def Lz:=@Int.emod_nonneg
def M0:=@List.getElem?_eq_none
def M4:=@List.getElem_mem
def M5:=@List.length_range
def M6:=@Nat.lt_irrefl
def M7:=@Nat.lt_succ_self
def M8:=@PySem.mem_of_lookup
def NX:=@PySem.Around.under_plainId
def NY:=@Bool.eq_iff_iff
def NZ:=@PySem.Heap.SameBut.update
def Na:=@List.any_cons
def Nb:=@List.filter_append
def Nc:=@List.map_drop
def Nd:=@List.map_take
def Nf:=@List.mem_filter
def QD:=@Array.getElem?_toList
def QF:=@List.filter_cons
def QH:=@List.find?_cons
def QJ:=@List.getElem?_drop
def QK:=@List.length_reverse
def QL:=@List.length_singleton
def QM:=@List.length_zip
def QN:=@List.nodup_nil
def QP:=@List.take_of_length_le
def QQ:=@Nat.le_total
def QR:=@Nat.min_eq_right
def QU:=@Nat.sub_zero
def QV:=@Nat.succ.inj
def QX:=@PyProof.Rows.callWith_type1
def UQ:=@Array.getElem?_eq_getElem
def UR:=@List.Perm.refl
def US:=@List.all_cons
def UT:=@List.drop_zero
def UU:=@List.eraseIdx_cons_succ
def UW:=@List.length_nil
def UX:=@List.mem_erase_of_ne
def UY:=@List.set_cons_succ
def UZ:=@List.take_succ_eq_append_getElem
def Ua:=@Nat.le_succ_of_le
def Ub:=@Nat.sub_self
def Uc:=@PySem.Obj.isFreed_of_fields
def Ud:=@Option.map_some
def b6:=@Bool.and_false
def b7:=@Bool.and_true
def b8:=@PySem.F.plain_list_iadd
def b9:=@PySem.F.slot_tuple_iterator_next
def bA:=@PySem.ItemsOf.nil
def bB:=@List.cons_append
def bC:=@List.cons_lt_cons_iff
def bD:=@List.foldl_cons
def bE:=@List.getElem_idxOf
def bG:=@List.idxOf_append
def bI:=@List.length_erase_of_mem
def bJ:=@List.map_congr_left
def bL:=@List.map_nil
def bM:=@List.mem_of_mem_take
def bN:=@List.nil_append
def bO:=@List.nodup_cons
def bQ:=@List.of_mem_zip
def bR:=@List.set_cons_zero
def bS:=@List.set_set
def bT:=@Nat.min_self
def bU:=@PySem.Obj.cls_mapFields
def bV:=@Option.isSome_map
def bW:=@PyProof.Rows.slot_tuple_getitem
def bX:=@PySem.F.slot_list_index
def bY:=@PySem.Walks.dictKeys
def oF:=@PySem.Around.in1_handled
def oG:=@Array.getElem?_eq_none
def oH:=@PySem.Calls.callWith_builtin
def oI:=@PySem.Calls.spliced_cons
def oJ:=@PySem.Calls.spliced_nil
def oK:=@Int.toNat_of_nonneg
def oM:=@List.Sublist.refl
def oN:=@List.drop_length
def oO:=@List.ext_getElem
def oP:=@List.ext_getElem?
def oQ:=@List.filterMap_cons
def oR:=@List.filter_map
def oS:=@List.forIn_nil
def oU:=@List.getElem?_range
def oV:=@List.getElem?_replicate
def oW:=@List.getElem?_take_of_lt
def oX:=@List.idxOf_cons
def oY:=@List.length_pos_of_mem
def oZ:=@List.length_replicate
def oa:=@List.map_id'
def oe:=@List.mem_of_mem_drop
def og:=@List.perm_middle
def oh:=@Nat.le_of_eq
def om:=@Nat.le_of_lt_succ
def oo:=@Nat.min_le_right
def oq:=@Nat.succ_pos
def ot:=@PySem.Paired.length
def ou:=@PyProof.Rows.F.plain_set_update_loop
def oy:=@PySem.F.args_tuple_add_2
def oz:=@PySem.F.entry_tuple_add
def p8:=@PySem.F.plain_extend_loop
def p9:=@PySem.F.slot_tuple_add
def pA:=@PySem.F.type_list_index
def pB:=@PySem.W.callWith_K
def pC:=@PySem.W.plainGet_of
def ZId:=@Array.toList_push
def ZIe:=@PySem.Calls.Name_function_global
def ZIf:=@PySem.F.args_tuple_iterator_next_1
def ZIg:=@PySem.F.entry_tuple_iterator_next
def ZIh:=@Int.lt_of_le_of_lt
def ZIi:=@List.Pairwise.map
def ZIj:=@List.any_eq_false
def ZIk:=@List.any_eq_true
def ZIl:=@List.dropLast_eq_take
def ZIm:=@List.drop_eq_getElem_cons
def ZIn:=@List.drop_of_length_le
def ZIo:=@List.eraseIdx_sublist
def ZIp:=@List.filter_congr
def ZIq:=@List.filter_eq_self
def ZIr:=@List.foldl_append
def ZIs:=@List.getElem?_toArray
def ZIt:=@List.getElem_inj
def ZIu:=@List.getLastD_cons
def ZIv:=@List.getLast_eq_getLastD
def ZIw:=@List.length_eraseIdx
def ZIx:=@List.length_eraseIdx_of_lt
def ZIy:=@List.map_reverse
def ZIz:=@List.mem_map_of_mem
def ZJ0:=@List.mem_of_mem_eraseIdx
def ZJ1:=@List.mem_of_mem_head?
def ZJ2:=@List.range'_succ
def ZJ3:=@List.replicate_succ
def ZJ4:=@List.reverse_cons
def ZJ5:=@List.take_sublist
def ZJ6:=@Nat.le_of_not_lt
def ZJ7:=@Nat.lt_trichotomy
def ZJ8:=@Nat.not_lt_of_le
def ZJ9:=@Nat.succ_le_succ
def ZJA:=@Nat.succ_ne_self
def ZJB:=@Option.getD_none
def ZJC:=@Option.getD_some
def ZJD:=@Option.isSome_some
def ZJE:=@PyProof.Rows.F.entry_set_update_loop
def ZJF:=@PySem.F.plain_set_new
def ZJG:=@PySem.F.slot_dict_pop
def ZJH:=@PySem.F.slot_list_insert
def ZJI:=@PySem.F.slot_tuple_index
def ZJJ:=@PySem.W.cellsFrom_some
def ZJK:=@PySem.W.kitx_dict
def ZJL:=@PySem.W.kitx_list
def ZJM:=@PySem.W.methodCall_KW
def ZJN:=@PySem.strKind_is
open PySem PySem.Spec PyProof.Rows
abbrev ZKG:=PySem.W.Frag
abbrev ZKH:=(List (Addr×Obj))
abbrev ZKI:=(Str->Option Value)
namespace PySem.W.Fast
def t:=Nat
def tw9018944733567316445:=t
def tw6637170688679965581:=t
def tw11156764055835889879:=t
def tw12220207090598494907:=t
def tw9518886492658682235:=t
def tw5373854269787684378:=t
def tw461046302950898770:=t
def tw6741840713130720022:=t
def tw15884548868512325658:=t
def tw6955039065717140630:=t
def tw11805007196076430855:=t
def tw11236475356770345178:=t
def tw8902626007348866897:=t
def tw9717414789320310584:=t
def tw16249881486011158909:=t
def tw4326442728654951685:=t
def tw3078298718174894557:=t
def tw4453686345262959249:=t
def tw3631310237106542690:=t
def tw3534834265154749096:=t
def tw16858217425490189036:=t
def tw545882744620989289:=t
def tw89531197489340708:=t
def tw5110770590097126843:=t
def tw17992417718589106585:=t
def tw2679243259897688816:=t
def tw6037852178336801652:=t
def tw14109545972922553870:=t
def tw10457184583043615697:=t
def tw4185743459508867875:=t
def tw13975160709583751339:=t
def tw7861700335505947794:=t
def tw16401773338641852558:=t
def tw6155882469948758556:=t
def tw4105958481580392244:=t
def tw10670478921430404343:=t
def tw5273024743324344759:=t
def tw7744437219041385911:=t
def tw3322743081478656052:=t
def tw12551370601980813163:=t
def tw8458650057807117854:=t
def tw1890450665731423164:=t
def tw1996774545831604802:=t
def tw17172288824733208150:=t
def tw15015066952469885954:=t
def tw12390042222917458244:=t
def tw9521176244448640248:=t
def tw6576887329692671810:=t
def tw9975754217960162028:=t
def tw17556108994035967436:=t
def tw7562571306014848538:=t
def tw1343910214907070018:=t
def tw10435557033515766068:=t
def tw16837593903800474207:=t
def tw9126755188941721846:=t
def tw7579583959048133065:=t
def tw3223214505337645725:=t
def tw3996163090886301309:=t
def tw5121706886965629902:=t
def tw14007294085635986133:=t
def tw9453034832930182086:=t
def tw15473563245876837636:=t
def tw7498748560947048613:=t
def tw1979102118289615517:=t
def tw6531132947885157900:=t
def tw11954279033587708263:=t
def tw7878568277687889137:=t
def tw10832967044417037040:=t
def tw14066900178114358194:=t
def tw8661070796952968937:=t
def tw7493148121750454796:=t
def tw16514536267862157220:=t
def tw11702555159458763773:=t
def tw15867168383680091272:=t
def tw135868227316988229:=t
def tw12029414370926577928:=t
def tw5288050045079312016:=t
def tw12857809206601185365:=t
def tw17471547138456466219:=t
def tw15357325179886297974:=t
def tw14443876930650475972:=t
def tw6911516260860328172:=t
def tw14692803297728255250:=t
def tw16833723960533776647:=t
def tw8703163100519109777:=t
def tw14080220960546678850:=t
def tw14473026093902296458:=t
def tw3729268344030676408:=t
def tw427550576076580464:=t
def tw14394971939979445151:=t
def tw6916196415104137125:=t
def tw2270600832323471691:=t
def tw12040771484205657143:=t
def tw1847872830839046685:=t
def tw6343730336069189177:=t
def tw7966599040242609340:=t
def tw6331409045550885314:=t
def tw3443384479313252249:=t
def tw17022138360637944620:=t
def tw8410811314702438340:=t
def tw17279391769062384912:=t
def tw16712001365181177925:=t
def tw2708601776922445930:=t
def tw755115489421522562:=t
def tw17778724761328024503:=t
def tw3430903729195666695:=t
def tw14991579743058806439:=t
def tw8232040416081246043:=t
def tw17416027625712229941:=t
def tw9622491089728480074:=t
def tw8936361069463764289:=t
def tw9606993897704319364:=t
def tw17695162271670277157:=t
def tw13412132256338461101:=t
def tw7057749640263043128:=t
def tw9654438469562439793:=t
def tw9738289433366955623:=t
def tw1041797711688344116:=t
def tw8263601684992092399:=t
def tw17475218854001853524:=t
def tw3748909355471224471:=t
def tw3058833779401669669:=t
def tw5155863668187327435:=t
def tw1550990801857937600:=t
def tw6827283845238823573:=t
def tw4732827964804116266:=t
def tw5763359897998845312:=t
def tw13199477127141289708:=t
def tw11874472231283401547:=t
def tw17204992543665381291:=t
def tw392835071899968877:=t
def tw10618751505867357762:=t
def tw12419764099338683560:=t
def tw10255396017959075992:=t
def tw9455730280566793244:=t
def tw1467226643600936952:=t
def tw6978845496685585602:=t
def tw13942585064271505537:=t
def tw13011967357080581729:=t
def tw5396340885035461559:=t
def tw7008272609792288180:=t
def tw10339512708897560951:=t
def tw8245526069362667152:=t
def tw13086420489470534594:=t
def tw4882332288467530462:=t
def tw4492992058826242651:=t
def tw14191221114449029957:=t
def tw17465834636797866820:=t
def tw15636607552723300224:=t
def tw11944752714241162079:=t
def tw5638473199311185090:=t
def tw3556997582517188004:=t
def tw14309158529756280428:=t
def tw12246910820592650097:=t
def tw5065882997811819446:=t
def tw1618755884016544024:=t
def tw10018616660043727755:=t
def tw12397776496952569152:=t
def tw7247668267749435319:=t
def tw4085960528925327399:=t
def tw14833352327626726712:=t
def tw5500244001500811451:=t
def tw7984337643694354302:=t
def tw15757246940263311153:=t
def tw2842410585206661775:=t
def tw12027890842765972862:=t
def tw10742647692176473146:=t
def tw15540423885278900068:=t
def tw8933550130886057218:=t
def tw7981959303691394650:=t
def tw7223157132055973664:=t
def tw755277908669427970:=t
def tw17629306896818326128:=t
def tw9568656754326781301:=t
def tw16254363820752454726:=t
def tw4183946501463015859:=t
def tw6669779352211602645:=t
def tw16771314702902577320:=t
def tw9706106701728125226:=t
def tw5272127886876645136:=t
def tw11957264135748523580:=t
def tw4802112974757736446:=t
def tw2282684308567070432:=t
def tw15588327270808781029:=t
def tw12696680598891164618:=t
def tw17731941310142639951:=t
def tw9745787707836145483:=t
def tw15584177940343436640:=t
def tw1752487508471009275:=t
def tw4795309517638800036:=t
def tw3630194076925155913:=t
def tw2274907467727107590:=t
def tw1057497331517074274:=t
def tw15509167086453385724:=t
def tw4247287865477189856:=t
def tw9839135046514594272:=t
def tw1791073146195045115:=t
def tw1738687339028122133:=t
def tw18351007450699687838:=t
def tw3185417669567835798:=t
def tw13173345311904707394:=t
def tw9825853849424808341:=t
def tw13917002586509860946:=t
def tw7195558426576526351:=t
def tw6603369055652072979:=t
def tw13008301148309081558:=t
def tw7115425168240058509:=t
def tw12009866970956932031:=t
def tw6521390054558062163:=t
def tw16421438866808250950:=t
def tw9757228828279036020:=t
def tw10788250948733576897:=t
def tw66291242466199890:=t
def tw1476401866511755207:=t
def tw8691877343879430364:=t
def tw15706068388052123467:=t
def tw9603530500585424148:=t
def tw6065768859162008342:=t
def tw7153091657951168811:=t
def tw3036152011711049907:=t
def tw4567574647946932472:=t
def tw17051363515487504361:=t
def tw18301958993428228748:=t
def tw10131078532862771901:=t
def tw3096606465451415021:=t
def tw17990932906190699750:=t
def tw16271169009343854813:=t
def tw9071431637757871835:=t
def tw1042758701277487573:=t
def tw7231074165449364028:=t
def tw6951940699510955630:=t
def tw12034343488300213267:=t
def tw15956707484314502592:=t
def tw17023681160357977123:=t
def tw16273501841489332215:=t
def tw927145826304127271:=t
def tw17172872592060661259:=t
def tw7225591344645863225:=t
def tw3066561176295467042:=t
def tw8990249791361757660:=t
def tw2735821770554952207:=t
def tw2700129666298554058:=t
def tw8160776026310150047:=t
def tw11793929039291095343:=t
def tw10213076387514968494:=t
def tw12877675514673494731:=t
def tw6770335164099224902:=t
def tw1705969882962871199:=t
def tw12192300854909166445:=t
def tw4398939490925695299:=t
def tw251155922939427990:=t
def tw1034150867977379314:=t
end PySem.W.Fast
set_option Elab.async false
set_option maxRecDepth 100000
namespace L2
variable{α κ:Type}{C a b dx it:Addr}{c cd u:Value}{w:World}{Zy h':Heap}{m name qual x:Str}{e tg:Expr}{jQ Zh:ZKH}{s s':Shared}{g':Array GenState}{i j n t' tk:Nat}{d':Drawn}{ch fp:List Addr}{N ks ns ps:List Str}{M:Model}{A:Around}{E Q:Value->Shared->Prop}{ZJO pos:Pos}{op:CmpOp}{es rest:List Expr}{f:Value->Value->Sem Value}{pl:Sem Bool}{ds us:List Value}{mA mg:ZKI}{prog:Program}{kw:List (Str×Value)}{fd:FuncData}{outer:List Env}{sc scope:Scope}
abbrev Key:=Sum Int Str
noncomputable def Jc:Key->Value->Bool
 | .inl k,v=>Value.isInt k v
 | .inr x,v=>Value.isStrOf x v
def ZG0(w:World):Key->Int
 | .inl k=>hashInt k
 | .inr x=>hashStr w x
theorem Gj:∀{k:Key}{v:Value},Jc k v=true->(∃i t,k=Sum.inl i/\v=Value.int i t)∨(∃x t,k=Sum.inr x/\v=Value.str x t)
 | .inl i,v,h=>by
  obtain⟨t,e⟩:=Value.isInt_shape (k:=i) (v:=v) h;exact .inl ⟨i,t,rfl,e⟩
 | .inr x,v,h=>by
  obtain⟨t,e⟩:=Value.isStrOf_shape (x:=x) (v:=v) h;exact .inr ⟨x,t,rfl,e⟩
theorem xh(i:Int)(t:Tok):Jc (.inl i) (.int i t)=true:=by simp[Jc,Value.isInt]
theorem ZHQ(x:Str)(t:Tok):Jc (.inr x) (.str x t)=true:=by simp[Jc,Value.isStrOf]
theorem uu(a b:Int):decide ((Sum.inl a:Key)=Sum.inl b)=(a == b):=by
 by_cases e:a=b
 .subst e;simp
 .have h:¬ (Sum.inl a:Key)=Sum.inl b:=λq=>e (Sum.inl.inj q);rw[uB h];exact(beq_eq_false_iff_ne.mpr e).symm
theorem ZDl(a b:Str):decide ((Sum.inr a:Key)=Sum.inr b)=decide (a=b):=by
 by_cases e:a=b
 .subst e;simp
 .have h:¬ (Sum.inr a:Key)=Sum.inr b:=λq=>e (Sum.inr.inj q);rw[uB h,uB e]
theorem yp(a:Int)(b:Str):decide ((Sum.inl a:Key)=Sum.inr b)=false:=uB (λq=>nomatch q)
theorem ZA5(a:Str)(b:Int):decide ((Sum.inr a:Key)=Sum.inl b)=false:=uB (λq=>nomatch q)
def C9(prog:Program)(w:World):PySem.KeyKind prog w Key where
 is:=Jc
 hash:=ZG0 w
 inj:=λv a b f d=>by
  rcases Gj f with⟨i,t,rfl,rfl⟩|⟨x,t,rfl,rfl⟩
  .rcases Gj d with⟨j,u,rfl,e⟩|⟨y,u,rfl,e⟩
   .injection e with e1 _;rw[e1]
   .exact nomatch e
  .rcases Gj d with⟨j,u,rfl,e⟩|⟨y,u,rfl,e⟩
   .exact nomatch e
   .injection e with e1 _;rw[e1]
 byValue:=λk v h=>by
  rcases Gj h with⟨i,t,rfl,rfl⟩|⟨x,t,rfl,rfl⟩ <;> rfl
 pyHash:=λc h=>by
  rcases Gj c with⟨i,t,rfl,rfl⟩|⟨x,t,rfl,rfl⟩
  .exact wpAny_pyHash_int h
  .exact wpAny_pyHash_str h
 eqBool:=λhu c h=>by
  rcases Gj hu with⟨i,t,rfl,rfl⟩|⟨x,t,rfl,rfl⟩
  .rcases Gj c with⟨j,u,rfl,rfl⟩|⟨y,u,rfl,rfl⟩
   .rw[uu]at h;exact wpAny_eqBool_int h
   .rw[yp]at h;exact SeqAt.EqAt.int_str i t y u _ _ _ _ h
  .rcases Gj c with⟨j,u,rfl,rfl⟩|⟨y,u,rfl,rfl⟩
   .rw[ZA5]at h;exact SeqAt.EqAt.str_int x t j u _ _ _ _ h
   .rw[ZDl]at h;exact wpAny_eqBool_str h
 «strs»:=λk x t v h=>by
  rcases Gj h with⟨i,u,rfl,e⟩|⟨y,u,rfl,e⟩
  .exact nomatch e
  .injection e with e1 _
   subst e1;cases v <;> rfl
theorem ZGP(prog:Program)(w:World)(i:Int)(t:Tok):(C9 prog w).is (.inl i) (.int i t)=true:=xh i t
theorem xF(prog:Program)(w:World)(x:Str)(t:Tok):(C9 prog w).is (.inr x) (.str x t)=true:=ZHQ x t
inductive V where
 |AG|bl (b:Bool)|int (i:Int)|str (x:Str)|Gg (b:Array UInt8)|KN (b:UInt64)|ref (a:Addr)|ty (n:String)
 deriving DecidableEq
variable{v y:V}{Dj vs:List V}
def RelV:V->Value->Prop
 | .AG,u=>u=Value.none
 | .bl b,u=>u=Value.bool b
 | .int i,u=>∃t,u=Value.int i t
 | .str x,u=>∃t,u=Value.str x t
 | .Gg b,u=>∃t,u=Value.bytes b t
 | .KN b,u=>∃t,u=Value.float b t
 | .ref a,u=>u=Value.ref a
 | .ty n,u=>u=Value.type n
abbrev Vals:List V->List Value->Prop:=Paired RelV
theorem Vals.length{xs:List V}{us:List Value}(r:Vals xs us):xs.length=us.length:=ot r
theorem Vals.get:∀{xs:List V}{us:List Value}{i:Nat}{x:V},Vals xs us->xs[i]?=some x->∃u,us[i]?=some u/\RelV x u
 |_,_,_,_,.nil,e=>by simp at e
 |_,_,0,_,.cons r _,e=>by simp at e;subst e;exact⟨_,rfl,r⟩
 |_,_,i+1,x,.cons _ t,e=>by
  obtain⟨u,h1,h2⟩:=Vals.get (i:=i) (x:=x) t (by simpa using e)
  exact⟨u,by simpa using h1,h2⟩
theorem Vals.set{x:V}{u:Value}(r:RelV x u):∀{xs:List V}{us:List Value}(i:Nat),Vals xs us->Vals (xs.set i x) (us.set i u)
 |_,_,_,.nil=>.nil
 |_,_,0,.cons _ t=>.cons r t
 |_,_,i+1,.cons q t=>.cons q (Vals.set r i t)
theorem Vals.append:∀{xs ys:List V}{us ws:List Value},Vals xs us->Vals ys ws->Vals (xs++ys) (us++ws)
 |_,_,_,_,.nil,s=>s
 |_,_,_,_,.cons r t,s=>.cons r (Vals.append t s)
theorem Vals.take:∀{xs:List V}{us:List Value}(n:Nat),Vals xs us->Vals (xs.take n) (us.take n)
 |_,_,0,_=>.nil
 |_,_,_+1,.nil=>.nil
 |_,_,n+1,.cons r t=>.cons r (Vals.take n t)
theorem Vals.drop:∀{xs:List V}{us:List Value}(n:Nat),Vals xs us->Vals (xs.drop n) (us.drop n)
 |_,_,0,r=>r
 |_,_,_+1,.nil=>.nil
 |_,_,n+1,.cons _ t=>Vals.drop n t
def Er:Option V->Option Value->Prop
 |some v,some u=>RelV v u
 |none,none=>True
 |_,_=>False
def KV:List (κ×V)->List (κ×Value)->Prop:=Paired λ(p:κ×V)(q:κ×Value)=>p.1=q.1/\RelV p.2 q.2
noncomputable def kV:Key->V
 | .inl i=>.int i
 | .inr x=>.str x
inductive HO where
 /-- a list -/
 |lst (xs:List V)
 /-- a tuple (never changes) -/
 |tup (xs:List V)
 /-- a dict ZEQ keys are ints and texts;one ZEQ keys are tuples of ints and texts (Hl empty one is both) -/
 |dK (A6:List (Key×V))|dT (A6:List (List Key×V))
 /-- a set of ints: A5 members,A5 size -/
 |set (S:Int->Bool) (n:Nat)
 /-- an instance of Hl class at C,A5 dict at dx,A5 attributes -/
 |ins (C dx:Addr) (fs:List (Str×V))
 /-- Hl dict of Hl instance at x -/
 |own (x:Addr)
 /-- Hl dict of an exception -/
 |xd (fs:List (Str×V))
 /-- a bound method,f of x -/
 |met (f x:Addr)
 /-- a range object lo,lo+1,.. below hi -/
 |V9 (lo hi:Int)
 /-- a ZHU ZJs is known to Hl object (Hl j4;a dict while a loop walks it): read,never written while it is so -/
 |Ct (o:Obj) (u:HO)
 /-- a code ZJh table -/
 |JQ (ps:Array Value)
 /-- any other ZHU,by r8 is true of A5 one object (a def of ZJn own: v7 a S n:=HO.ext λh=>..) -/
 |ext (φ:Heap->Prop)
variable{o o':HO}
abbrev Hp:=Addr->Option HO
variable{H H':Hp}
def upd(H:Hp)(a:Addr)(o:HO):Hp:=λb=>if b=a then some o else H b
theorem AJ:upd H a o a=some o:=by unfold upd;rw[tU rfl]
theorem Ah(h:b≠a):upd H a o b=H b:=by unfold upd;rw[tJ h]
theorem ZFY{u:HO}(h:H a=some o)(h':H b=some u)(d:o≠u):a≠b:=by
 intro e;subst e;rw[h]at h';exact d (BX h')
theorem Ed(h:H a=some o)(h':H b=none):a≠b:=by
 intro e;subst e;rw[h]at h';cases h'
section
variable(P:Program)(w:World)
def CC(H:Hp)(h:Heap)(a:Addr):HO->Prop
 | .lst xs=>xs.length<=sizeLine/\∃(A5:List Value)(n:Nat),Vals xs A5/\h.get? a=some { cls:=.type "list", data:=.seq A5.toArray n }
 | .tup xs=>xs.length<=sizeLine/\∃A5:List Value,Vals xs A5/\(IsTup h a A5.toArray/\∀ob,h.get? a=some ob->ob.dict=none)
 | .dK A6=>A6.length<=sizeLine/\(a == sysModules)=false/\∃vs,KV A6 vs/\h.DictOf (C9 P w) a vs
 | .dT A6=>A6.length<=sizeLine/\(a == sysModules)=false/\∃xs:List (List Key×Addr×Value),
   Paired (λ(p:List Key×V)(q:List Key×Addr×Value)=>p.1=q.1/\H q.2.1=some (.tup (p.1.map kV))/\RelV p.2 q.2.2) A6 xs/\
   ∃o es ep,h.get? a=some o/\o.ExactDict/\o.data=.dict es ep/\es.toList=xs.map (entryOfKey (tupleKind (C9 P w)))/\(xs.map (·.1)).Nodup
 | .set S n=>h.SetOf (intKind P w) a S n
 | .ins C dx fs=>H dx=some (.own a)/\fs.length<=1000/\dx≠a/\h.get? a=some (PySem.W.instObj C dx)/\
   ∃mA,h.Ns1 dx mA/\(∀f,Er (fs.lookup f) (mA f))/\PySem.Within mA (fs.map (·.1))
 | .own _=>∃o,h.get? a=some o
 | .xd fs=>∃mA,h.Ns1 a mA/\∀f,Er (fs.lookup f) (mA f)
 | .V9 lo hi=>∃t u v,h.get? a=some { cls:=.type "range", data:=.fields #[.int lo t,.int hi u,.int 1 v] }
 | .Ct o u=>h.get? a=some o/\CC H h a u
 | .JQ ps=>h.get? a=some { cls:=.none,data:=.fields ps }
 | .met f x=>h.get? a=some (PySem.W.methodObj (.ref f) (.ref x))
 | .ext φ=>φ h/\(∃o,h.get? a=some o)/\∀h1 h2:Heap,φ h1->(∀o,h1.get? a=some o->h2.get? a=some o)->φ h2
def CH(H:Hp)(h:Heap):Prop:=∀a o,H a=some o->CC P w H h a o
end
section
variable{P:Program}{h:Heap}
theorem CC.lt(x:CC P w H h a o):a<h.objs.size:=by
 cases o with
 |lst xs=>obtain⟨_,_,_,_,e⟩:=x;exact BD e
 |tup xs=>obtain⟨_,_,_,p⟩:=x;exact p.1.lt
 |dK A6=>obtain⟨_,_,_,_,o,_,_,e,_⟩:=x;exact BD e
 |dT A6=>obtain⟨_,_,_,_,o,_,_,e,_⟩:=x;exact BD e
 |set S n=>obtain⟨o,_,_,_,e,_⟩:=x;exact BD e
 |ins C dx fs=>obtain⟨_,_,_,e,_⟩:=x;exact BD e
 |own y=>obtain⟨_,e⟩:=x;exact BD e
 |xd fs=>obtain⟨_,⟨_,_,_,e,_⟩,_⟩:=x;exact BD e
 |V9 lo hi=>obtain⟨_,_,_,e⟩:=x;exact BD e
 |Ct ob u=>obtain⟨e,_⟩:=x;exact BD e
 |JQ ps=>exact BD (show h.get? a=some _ from x)
 |met f y=>exact BD (show h.get? a=some _ from x)
 |ext φ=>obtain⟨_,⟨_,e⟩,_⟩:=x;exact BD e
theorem Paired.XJ{α β:Type}{F G:α->β->Prop}:∀{l₁:List α}{l₂:List β},Paired F l₁ l₂->(∀a b,F a b->G a b)->Paired G l₁ l₂
 |_,_,.nil,_=>.nil
 |_,_,.cons r t,f=>.cons (f _ _ r) (Paired.XJ t f)
theorem CC.J8(x:CC P w H h a o)(k:∀b u,(b=a∨H b=some (.own a))->h.get? b=some u->h'.get? b=some u)
  (ho:∀b,H b=some (.own a)->H' b=some (.own a)) (l:∀b xs,H b=some (.tup xs)->H' b=some (.tup xs)):CC P w H' h' a o:=by
 induction o with
 |lst xs=>obtain⟨z,A5,n,r,e⟩:=x;exact⟨z,A5,n,r,k _ _ (.inl rfl) e⟩
 |tup xs=>obtain⟨z,A5,r,⟨ob,e,c⟩,s⟩:=x;exact⟨z,A5,r,⟨ob,k _ _ (.inl rfl) e,c⟩,λTw i=>by rw[k _ _ (.inl rfl) e]at i;cases i;exact s _ e⟩
 |dK A6=>obtain⟨z,y,vs,r,ob,es,ep,e,c⟩:=x;exact⟨z,y,vs,r,ob,es,ep,k _ _ (.inl rfl) e,c⟩
 |dT A6=>
  obtain⟨z,y,xs,r,ob,es,ep,e,c⟩:=x;exact⟨z,y,xs,Paired.XJ r λp q z=>⟨z.1,l _ _ z.2.1,z.2.2⟩,ob,es,ep,k _ _ (.inl rfl) e,c⟩
 |set S n=>obtain⟨ob,es,ep,t,e,c⟩:=x;exact⟨ob,es,ep,t,k _ _ (.inl rfl) e,c⟩
 |ins C dx fs=>
  obtain⟨d,z,ne,e,mA,⟨g,es,ep,m,c⟩,r⟩:=x;exact⟨ho _ d,z,ne,k _ _ (.inl rfl) e,mA,⟨g,es,ep,k _ _ (.inr d) m,c⟩,r⟩
 |own y=>obtain⟨ob,e⟩:=x;exact⟨ob,k _ _ (.inl rfl) e⟩
 |xd fs=>obtain⟨mA,⟨g,es,ep,e,c⟩,r⟩:=x;exact⟨mA,⟨g,es,ep,k _ _ (.inl rfl) e,c⟩,r⟩
 |V9 lo hi=>obtain⟨t,u,v,e⟩:=x;exact⟨t,u,v,k _ _ (.inl rfl) e⟩
 |Ct ob u j=>obtain⟨e,q⟩:=x;exact⟨k _ _ (.inl rfl) e,j q⟩
 |JQ ps=>
  have e:h.get? a=some { cls:=.none,data:=.fields ps }:=x;show h'.get? a=some { cls:=.none,data:=.fields ps };exact k a _ (.inl rfl) e
 |met f y=>
  have e:h.get? a=some (PySem.W.methodObj (.ref f) (.ref y)):=x;show h'.get? a=some (PySem.W.methodObj (.ref f) (.ref y));exact k a _ (.inl rfl) e
 |ext φ=>obtain⟨p,⟨o,e⟩,st⟩:=x;exact⟨st _ _ p λo q=>k _ _ (.inl rfl) q,⟨o,k _ _ (.inl rfl) e⟩,st⟩
theorem CH.lt(x:CH P w H h)(e:H a=some o):a<h.objs.size:=(x a o e).lt
theorem CH.fresh(x:CH P w H h)(e:h.objs.size<=a):H a=none:=by
 cases q:H a with
 |none=>rfl
 |some u=>exact absurd (Du (x.lt q) e) (M6 _)
theorem CH.kept(x:CH P w H h)(k:∀b u,h.get? b=some u->h'.get? b=some u):CH P w H h':=λa o e=>
 (x a o e).J8 (λb u _ q=>k b u q) (λ_ q=>q) λ_ _ q=>q
theorem CH.laid(x:CH P w H h)(k:∀b u,h.get? b=some u->h'.get? b=some u)(hp:h.objs.size<=a)(new:CC P w (upd H a o) h' a o):CH P w (upd H a o) h':=λb u e=>by
 have hn:=x.fresh hp
 by_cases d:b=a
 .subst d;rw[AJ]at e;cases e;exact new
 .rw[Ah d]at e;exact(x b u e).J8 (λc v _ q=>k c v q) (λc q=>by rw[Ah (Ed q hn)];exact q) λc xs q=>by rw[Ah (Ed q hn)];exact q
end
def Rd(H:Hp)(a:Addr)(u:HO):Prop:=H a=some u∨∃o,H a=some (.Ct o u)
theorem Rd.ok{P:Program}{h:Heap}{u:HO}(r:Rd H a u)(x:CH P w H h):CC P w H h a u:=by
 rcases r with r|⟨o,r⟩
 .exact x a u r
 .obtain⟨_,q⟩:=x a _ r;exact q
def P5:Option HO->Prop
 |some (.lst _)=>True
 |some (.dK _)=>True
 |some (.dT _)=>True
 |some (.set _ _)=>True
 |some (.ins _ _ _)=>True
 |some (.ext _)=>True
 |_=>False
section
variable{P:Program}{h:Heap}{x e:Addr}
theorem CH.write(ok:CH P w H h)(a:P5 (H x))(l:e=x∨H e=some (.own x))(k:∀b u,b≠e->h.get? b=some u->h'.get? b=some u)(I0:∃u,h'.get? e=some u)
  (new:CC P w (upd H x o') h' x o'):CH P w (upd H x o') h':=λb u q=>by
 have j:∀c y,H c=some (.own y)->c≠x:=λc y r z=>by subst z;rw[r]at a;exact a
 have m:∀c xs,H c=some (.tup xs)->c≠x:=λc xs r z=>by subst z;rw[r]at a;exact a
 by_cases f:b=x
 .subst f;rw[AJ]at q;cases q;exact new
 .rw[Ah f]at q
  by_cases g:b=e
  .have i:H b=some (.own x):=by
    rcases l with z|z
    .exact absurd (g.trans z) f
    .rw[g];exact z
   rw[q]at i;cases i;obtain⟨v,n⟩:=I0;exact⟨v,by rw[g];exact n⟩
  .refine(ok b u q).J8 (λc v d r=>k c v ?_ r) (λc r=>by rw[Ah (j c b r)];exact r) λc xs r=>by rw[Ah (m c xs r)];exact r
   rcases d with rfl|d
   .exact g
   .rintro rfl;rcases l with z|z
    .exact j c b d z
    .rw[d]at z;cases z;exact f rfl
end
structure Un (fs ex:List Addr) (H H':Hp) (h h':Heap):Prop where
 keep:∀b o,h.get? b=some o->H b=none->b∉fs->b∉ex->h'.get? b=some o
 slot:∀b o,h.get? b=some o->H b=none->b∈fs->b∉ex->∃sl,h'.get? b=some { o with slots:=sl }
 free:∀b o,h.get? b=some o->H b=none->b∉ex->H' b=none
 there:∀b o,h.get? b=some o->b∉ex->∃o',h'.get? b=some o'
 Iy:∀b xs,H b=some (.tup xs)->H' b=some (.tup xs)
 HS:∀b o u,H b=some (.Ct o u)->H' b=some (.Ct o u)
 Iw:∀b ps,H b=some (.JQ ps)->∃more,H' b=some (.JQ (ps++more))
section
variable{fs fs' ex ex':List Addr}{H1 H2:Hp}{h h1 h2:Heap}{x e:Addr}
theorem Un.any(u:Un fs ex H H1 h h1){ob:Obj}(q:h.get? b=some ob)(n:H b=none)(hx:b∉ex):∃sl,h1.get? b=some { ob with slots:=sl }:=by
 by_cases a:b∈fs
 .exact u.slot b ob q n a hx
 .exact⟨ob.slots,u.keep b ob q n a hx⟩
theorem Un.kept(k:∀b u,h.get? b=some u->h'.get? b=some u):Un fs ex H H h h':=
 ⟨λb ob q _ _ _=>k b ob q,λb ob q _ _ _=>⟨ob.slots,k b ob q⟩,λ_ _ _ n _=>n,λb ob q _=>⟨ob,k b ob q⟩,λ_ _ q=>q,λ_ _ _ q=>q,λ_ ps q=>⟨#[],by rw[q];simp⟩⟩
theorem Un.refl:Un fs ex H H h h:=Un.kept λ_ _ q=>q
theorem Un.laid(k:∀b u,h.get? b=some u->h'.get? b=some u)(hp:h.objs.size<=a)(hn:H a=none):Un fs ex H (upd H a o) h h' where
 keep:=λb u q _ _ _=>k b u q
 slot:=λb u q _ _ _=>⟨u.slots,k b u q⟩
 free:=λb u q n _=>by rw[Ah (BP (Du (BD q) hp))];exact n
 there:=λb u q _=>⟨u,k b u q⟩
 Iy:=λb xs q=>by rw[Ah (Ed q hn)];exact q
 HS:=λb u xs q=>by rw[Ah (Ed q hn)];exact q
 Iw:=λb ps q=>⟨#[],by rw[Ah (Ed q hn),q];simp⟩
theorem Un.write(a:P5 (H x))(g:e=x∨H e=some (.own x))(k:∀b u,b≠e->h.get? b=some u->h'.get? b=some u)(I0:∃u,h'.get? e=some u):Un fs ex H (upd H x o) h h':=by
 have hx:∀b,H b=none->b≠x:=λb n z=>by subst z;rw[n]at a;exact a
 have d:∀b,H b=none->b≠e:=λb n z=>by
  subst z;rcases g with r|r
  .exact hx b n r
  .rw[n]at r;cases r
 have c:∀b u,H b=some u->¬ P5 (some u)->b≠x:=λb u q nm z=>by subst z;rw[q]at a;exact nm a
 refine⟨λb u q n _ _=>k b u (d b n) q,λb u q n _ _=>⟨u.slots,k b u (d b n) q⟩,λb u q n _=>by rw[Ah (hx b n)];exact n,λb u q _=>?_,
  λb xs q=>by rw[Ah (c b _ q λz=>z)];exact q,λb u xs q=>by rw[Ah (c b _ q λz=>z)];exact q,λb ps q=>⟨#[],by rw[Ah (c b _ q λz=>z),q];simp⟩⟩
 by_cases f:b=e
 .subst f;exact I0
 .exact⟨u,k b u f q⟩
end
def SD(h:Heap)(H:Hp):List Addr:=(List.range h.objs.size).filter λa=>(H a).isSome
def Jd(h:Heap)(H:Hp):Heap:=PySem.W.hideAll h (SD h H)
theorem ZA1(h:Heap)(H:Hp):(Jd h H).objs.size=h.objs.size:=PySem.W.hideAll_size _ _
theorem ZCX{h:Heap}{o:Obj}(e:h.get? b=some o)(n:H b=none):(Jd h H).get? b=some o:=
 PySem.W.hideAll_get _ e λa=>by
  have q:(H b).isSome=true:=(List.mem_filter.mp a).2;rw[n]at q;simp at q
theorem ZEM{h:Heap}{o:Obj}(e:(Jd h H).get? b=some o):h.get? b=some o/\H b=none:=by
 have a:h.get? b=some o:=PySem.W.of_hideAll (SD h H) e;refine⟨a,?_⟩;cases q:H b with
 |none=>rfl
 |some x=>
  have c:b∈SD h H:=List.mem_filter.mpr ⟨List.mem_range.mpr (BD a),by simp[q]⟩;have z:(Jd h H).get? b=none:=PySem.W.hideAll_none (SD h H) c;rw[z]at e;cases e
structure Mod (K:ZKG) (mg:ZKI) (Zy:Heap):Prop where
 OR:K.In Zy
 glob:Zy.Ns mainGlobals mg
 blt:∃mb,Zy.Ns builtinsNs mb/\∀x:Str,x ≠"__name__" -> mb x=bootBuiltins x
 nolimit:Zy.NoLimit
structure Cx where
 prog:Program
 w:World
 K:ZKG
 mg:ZKI
 base:Heap
 A:Around
 N:List Str
 s₀:Shared
 H₀:Hp
 env:Env
 outer:List Env
 stack:List Env
 ex:List Addr
 fn:Str->Bool
 calm:Bool
 pn:ZKH
 xe:Value->Shared->Prop
variable{X:Cx}
def Hk(l:List Env):List Addr:=l.filterMap (·.frame)
abbrev Cx.fs(X:Cx):List Addr:=Hk X.outer
def ZA(sc:Scope)(x:Str):Prop:=sc.names.lookup x=some .local∨sc.names.lookup x=some .cell∨sc.names.lookup x=some .free
def Loc(sc:Scope)(x:Str):Prop:=sc.names.lookup x=some .local∨sc.names.lookup x=some .cell
def Look(env:Env)(h:Heap)(m:ZKI)(x:Str)(u:Value):Prop:=
 (env.kindOf x=some .local/\m x=some u)∨((env.kindOf x=some .cell∨env.kindOf x=some .free)/\∃c,env.cells.lookup x=some c/\h.IsCell c (some u))
structure Cx.Ok (X:Cx):Prop where
 mod:Mod X.K X.mg X.base
 kind:X.env.scope.kind=.function
 glob:X.env.globals=mainGlobals
 blt:X.env.builtins=builtinsNs
 above:X.s₀.heap.objs.size<=X.env.locals
 inj:∀x y c,X.env.cells.lookup x=some c->X.env.cells.lookup y=some c->x=y
 has:∀x,(X.env.kindOf x=some .cell∨X.env.kindOf x=some .free)->∃c,X.env.cells.lookup x=some c
 OB:∀x c,X.fn x=true->X.env.cells.lookup x=some c->X.s₀.heap.objs.size<=c
 hd:X.calm=true->X.A.handled=none
 frames:X.A.frames=some X.stack
 UC:X.stack=X.outer∨(X.stack=X.env::X.outer/\X.env.frame=some X.env.locals)
 Sd:∀b∈X.ex,b≠X.env.locals/\∀x c,X.env.cells.lookup x=some c->c≠b
 bs:∀b o,X.base.get? b=some o->X.s₀.heap.get? b=some o/\X.H₀ b=none
 Jf:X.base.objs.size<=X.s₀.heap.objs.size
 OC:∀b o,X.base.get? b=some o->b∉X.ex
 Oo:∀b∈X.ex,b∉X.fs
 HF:X.s₀.heap.FunFrames X.base X.outer
 LK:∀b∈X.fs,X.H₀ b=none
structure Inv (X:Cx) (Zh:ZKH) (Z:List (Option V)) (H:Hp) (s:Shared):Prop where
 ok:X.Ok
 os:s.os=X.s₀.os
 bare:AllBare s.gens
 base:Un X.fs X.ex X.H₀ H X.s₀.heap s.heap
 loc:∃m,s.heap.Ns X.env.locals m/\∀(i:Nat)(x:Str)(v:V),X.N[i]?=some x->Z[i]?=some (some v)->ZA X.env.scope x->∃u,RelV v u/\Look X.env s.heap m x u
 cell:∀x c,X.env.cells.lookup x=some c->∃v,s.heap.IsCell c v
 free:H X.env.locals=none
 Hn:∀x c,X.env.cells.lookup x=some c->H c=none
 pin:∀p∈X.pn++Zh,s.heap.get? p.1=some p.2/\H p.1=none/\p.1≠X.env.locals/\p.1∉X.fs/\∀v,p.2.data≠.cell v
 AQ:CH X.prog X.w H s.heap
 len:Z.length=X.N.length
section
variable{Z:List (Option V)}
theorem Cx.Ok.ZFC(ok:X.Ok){o:Obj}(e:X.base.get? b=some o):b∉X.fs:=λa=>by
 have:=(ok.HF.mem a).1;rw[e]at this;cases this
theorem Inv.bs(I:Inv X Zh Z H s):∀b o,X.base.get? b=some o->s.heap.get? b=some o/\H b=none:=λb o e=>
 ⟨I.base.keep b o (I.ok.bs b o e).1 (I.ok.bs b o e).2 (I.ok.ZFC e) (I.ok.OC b o e),I.base.free b o (I.ok.bs b o e).1 (I.ok.bs b o e).2 (I.ok.OC b o e)⟩
theorem Inv.bk(I:Inv X Zh Z H s):∀b o,X.base.get? b=some o->s.heap.get? b=some o:=λb o e=>(I.bs b o e).1
theorem Inv.mod(I:Inv X Zh Z H s):Mod X.K X.mg X.base:=I.ok.mod
theorem Inv.D2(I:Inv X Zh Z H s):X.K.In s.heap:=I.ok.mod.OR.keeps I.bk
theorem Inv.lt(I:Inv X Zh Z H s):X.env.locals<s.heap.objs.size:=let ⟨_,hn,_⟩:=I.loc;hn.lt
theorem Inv.sz(I:Inv X Zh Z H s):X.s₀.heap.objs.size<=s.heap.objs.size:=C7 I.ok.above (J5 I.lt)
theorem Inv.ZBY(I:Inv X Zh Z H s)(h:s.heap.objs.size<=a):a∉X.fs:=λb=>by
 obtain⟨_,o,ho,_⟩:=I.ok.HF.mem b;exact absurd (Du (BD ho) (C7 I.sz h)) (M6 _)
theorem Inv.L7(I:Inv X Zh Z H s):∀x c,X.env.cells.lookup x=some c->c≠X.env.locals:=λx c e z=>by
 obtain⟨v,o,ho,hd⟩:=I.cell x c e;obtain⟨m,⟨o',es,ep,Es,Vo,_⟩,_⟩:=I.loc;rw[z,Es]at ho;cases ho;rw[Vo]at hd;cases hd
theorem Inv.HF(I:Inv X Zh Z H s):s.heap.FunFrames X.base X.outer:=by
 have all:∀(l:List Env),(∀b∈Hk l,b∈X.fs)->X.s₀.heap.FunFrames X.base l->s.heap.FunFrames X.base l:=by
  intro l
  induction l with
  |nil=>intro _ _;trivial
  |cons env r f=>
   intro hs h;obtain⟨i,⟨L,o,a,hn,ho,hd⟩,g⟩:=h;have d:L∈X.fs:=hs L (by unfold Hk;rw[oQ,a];exact Cp);obtain⟨sl,e⟩:=I.base.slot L o ho (I.ok.LK L d) d λz=>I.ok.Oo L z d;exact⟨i,⟨L,_,a,hn,e,hd⟩,f (λb c=>hs b (by unfold Hk;rw[oQ,a];exact D3 _ c)) g⟩
 exact all X.outer (λ_ c=>c) I.ok.HF
theorem Inv.stack(I:Inv X Zh Z H s):s.heap.FunFrames X.base X.stack:=by
 rcases I.ok.UC with e|⟨e,hf⟩
 .rw[e];exact I.HF
 .rw[e];obtain⟨m,hn,_⟩:=I.loc;refine .cons (by rw[I.ok.kind];decide) hf hn ?_ I.HF;exact Heap.get?_none_of_le (C7 I.ok.Jf I.ok.above)
theorem Inv.VH(I:Inv X Zh Z H s):∀b∈Hk X.stack,b∈X.env.locals::X.fs:=λb a=>by
 rcases I.ok.UC with e|⟨e,hf⟩
 .rw[e]at a;exact D3 _ a
 .rw[e]at a;unfold Hk at a;rw[oQ,hf]at a;exact a
theorem Inv.kz(I:Inv X Zh Z H s):∀b∈Hk X.stack,H b=none:=λb a=>by
 rcases List.mem_cons.mp (I.VH b a)with e|a
 .rw[e];exact I.free
 .obtain⟨_,o,ho,_⟩:=I.ok.HF.mem a;exact I.base.free b o ho (I.ok.LK b a) λz=>I.ok.Oo b z a
theorem Inv.step(I:Inv X Zh Z H s)
  (IU:∀b∈ch,(b∈X.ex∨X.s₀.heap.objs.size<=b)/\b≠X.env.locals/\(∀x c,X.env.cells.lookup x=some c->c≠b)/\∀p∈X.pn++Zh,p.1≠b)
  (keep:∀b o,b≠X.env.locals->b∉X.fs->b∉ch->s.heap.get? b=some o->H b=none->h'.get? b=some o)
  (slot:∀b o,b≠X.env.locals->b∈X.fs->b∉ch->s.heap.get? b=some o->H b=none->∃sl,h'.get? b=some { o with slots:=sl }) (free:∀b o,b∉ch->s.heap.get? b=some o->H b=none->H' b=none)
  (there:∀b o,b∉ch->s.heap.get? b=some o->∃o',h'.get? b=some o')
  (Iy:∀b xs,H b=some (.tup xs)->H' b=some (.tup xs)) (HS:∀b o u,H b=some (.Ct o u)->H' b=some (.Ct o u)) (Iw:∀b ps,H b=some (.JQ ps)->∃more,H' b=some (.JQ (ps++more)))
  (ns:∀m,s.heap.Ns X.env.locals m->h'.Ns X.env.locals m) (AQ:CH X.prog X.w H' h') (hg:AllBare g') :
  Inv X Zh Z H' { s with heap:=h',gens:=g',drawn:=d',toks:=t' }:=by
 have C:∀b o,X.s₀.heap.get? b=some o->b≠X.env.locals:=λb o e=>BP (Du (BD e) I.ok.above);have t:∀b o,X.s₀.heap.get? b=some o->b∉X.ex->b∉ch:=λb o e hx g=>by
  rcases(IU b g).1 with z|z
  .exact hx z
  .exact absurd (Du (BD e) z) (M6 _)
 have a:∀x c,X.env.cells.lookup x=some c->∀v,s.heap.IsCell c v->h'.IsCell c v:=λx c e v AO=>by
  obtain⟨o,ho,hd⟩:=AO;have j:c∉ch:=λz=>(IU c z).2.2.1 x c e rfl
  by_cases B:c∈X.fs
  .obtain⟨sl,q⟩:=slot c o (I.L7 x c e) B j ho (I.Hn x c e);exact⟨_,q,hd⟩
  .exact⟨o,keep c o (I.L7 x c e) B j ho (I.Hn x c e),hd⟩
 refine⟨I.ok,I.os,hg,⟨λb o e n g hx=>?_,λb o e n g hx=>?_,λb o e n hx=>?_,λb o e hx=>?_,λb xs e=>Iy b xs (I.base.Iy b xs e),λb o xs e=>HS b o xs (I.base.HS b o xs e),λb ps e=>?_⟩,?_,λx c e=>?_,?_,λx c e=>?_,λp hp=>?_,AQ,I.len⟩
 .exact keep b o (C b o e) g (t b o e hx) (I.base.keep b o e n g hx) (I.base.free b o e n hx)
 .obtain⟨sl,f⟩:=I.base.slot b o e n g hx;obtain⟨y,h⟩:=slot b _ (C b o e) g (t b o e hx) f (I.base.free b o e n hx);exact⟨y,h⟩
 .obtain⟨o',f⟩:=I.base.there b o e hx;exact free b o' (t b o e hx) f (I.base.free b o e n hx)
 .obtain⟨o',f⟩:=I.base.there b o e hx;exact there b o' (t b o e hx) f
 .obtain⟨D,f⟩:=I.base.Iw b ps e;obtain⟨m2,h⟩:=Iw b _ f;exact⟨D++m2,by rw[h,Array.append_assoc]⟩
 .obtain⟨m,hn,E⟩:=I.loc;refine⟨m,ns m hn,λi x v f h F=>?_⟩;obtain⟨u,r,l⟩:=E i x v f h F;refine⟨u,r,?_⟩;rcases l with l|⟨k,c,e,z⟩
  .exact .inl l
  .exact .inr ⟨k,c,e,a x c e _ z⟩
 .obtain⟨v,z⟩:=I.cell x c e;exact⟨v,a x c e v z⟩
 .obtain⟨m,⟨o,_,_,ho,_⟩,_⟩:=I.loc;exact free _ o (λz=>(IU _ z).2.1 rfl) ho I.free
 .obtain⟨v,o,ho,hd⟩:=I.cell x c e;exact free c o (λz=>(IU c z).2.2.1 x c e rfl) ho (I.Hn x c e)
 .obtain⟨e,n,ne,A,d⟩:=I.pin p hp;have j:p.1∉ch:=λz=>(IU p.1 z).2.2.2 p hp rfl;exact⟨keep p.1 p.2 ne A j e n,free p.1 p.2 j e n,ne,A,d⟩
theorem Inv.un(I:Inv X Zh Z H s)(u:Un X.fs [] H H' s.heap h')(AQ:CH X.prog X.w H' h'):Inv X Zh Z H' { s with heap:=h',toks:=t' }:=by
 obtain⟨m,⟨o,es,ep,ho,r⟩,_⟩:=id I.loc;obtain⟨sl,f⟩:=u.any ho I.free (by simp);exact I.step (g':=s.gens) (d':=s.drawn) (ch:=[]) (λ_ z=>nomatch z) (λb o _ a _ e n=>u.keep b o e n a (by simp)) (λb o _ a _ e n=>u.slot b o e n a (by simp)) (λb o _ e n=>u.free b o e n (by simp)) (λb o _ e=>u.there b o e (by simp)) u.Iy u.HS u.Iw (λg d=>by
  obtain⟨o',EE,IA,Es,c⟩:=d;rw[ho]at Es;cases Es;exact⟨_,EE,IA,f,c⟩) AQ I.bare
theorem Inv.call(I:Inv X Zh Z H s)(u:Un (Hk X.stack) ch H H' s.heap h')(AQ:CH X.prog X.w H' h')(hg:AllBare g')
  (IU:∀b∈ch,(b∈X.ex∨X.s₀.heap.objs.size<=b)/\b≠X.env.locals/\(∀x c,X.env.cells.lookup x=some c->c≠b)/\∀p∈X.pn++Zh,p.1≠b) :
  Inv X Zh Z H' { s with heap:=h',gens:=g',drawn:=d',toks:=t' }:=by
 obtain⟨m,⟨o,es,ep,ho,r⟩,_⟩:=id I.loc;obtain⟨sl,d⟩:=u.any ho I.free λz=>(IU _ z).2.1 rfl;exact I.step (ch:=ch) IU (λb o d h a e n=>u.keep b o e n (λz=>(List.mem_cons.mp (I.VH b z)).elim d h) a) (λb o _ _ a e n=>u.any e n a) (λb o a e n=>u.free b o e n a) (λb o a e=>u.there b o e a) u.Iy u.HS u.Iw (λi g=>by
  obtain⟨o',EE,IA,Es,f⟩:=g;rw[ho]at Es;cases Es;exact⟨_,EE,IA,d,f⟩) AQ hg
theorem Inv.turned(I:Inv X Zh Z H s)(k:∀b o,b≠it->s.heap.get? b=some o->h'.get? b=some o)(hn:H it=none)(d:it≠X.env.locals)
  (h1:it∈X.ex∨X.s₀.heap.objs.size<=it) (h2:∀x c,X.env.cells.lookup x=some c->c≠it) (i:∀p∈X.pn++Zh,p.1≠it):Inv X Zh Z H { s with heap:=h',toks:=t' }:=by
 have f:∀b u,H b=some u->b≠it:=λb u e z=>by rw[z,hn]at e;cases e
 refine I.step (g':=s.gens) (d':=s.drawn) (ch:=[it]) (λb h=>?_) (λb o _ _ a e _=>k b o (λz=>a (by simp[z])) e) (λb o _ _ a e _=>⟨o.slots,k b o (λz=>a (by simp[z])) e⟩) (λ_ _ _ _ n=>n)
  (λb o a e=>⟨o,k b o (λz=>a (by simp[z])) e⟩) (λ_ _ e=>e) (λ_ _ _ e=>e) (λb ps e=>⟨#[],by rw[e];simp⟩) (λm g=>?_) (λb u e=>?_) I.bare
 .have e:b=it:=by simpa using h
  subst e;exact⟨h1,d,h2,i⟩
 .obtain⟨o,es,ep,ho,r⟩:=g;exact⟨o,es,ep,k _ o (BW d) ho,r⟩
 .refine(I.AQ b u e).J8 (λc v a q=>k c v ?_ q) (λ_ q=>q) λ_ _ q=>q;rcases a with z|z
  .rw[z];exact f b u e
  .exact f c _ z
theorem Inv.tok(I:Inv X Zh Z H s)(t:Nat):Inv X Zh Z H { s with toks:=t }:=I.un (h':=s.heap) (t':=t) Un.refl I.AQ
theorem Inv.kept(I:Inv X Zh Z H s)(k:∀b u,s.heap.get? b=some u->h'.get? b=some u):Inv X Zh Z H { s with heap:=h',toks:=t' }:=I.un (Un.kept k) (I.AQ.kept k)
theorem Inv.laid(I:Inv X Zh Z H s)(k:∀b u,s.heap.get? b=some u->h'.get? b=some u)(hp:s.heap.objs.size<=a)(new:CC X.prog X.w (upd H a o) h' a o):
  Inv X Zh Z (upd H a o) { s with heap:=h',toks:=t' }:=I.un (Un.laid k hp (I.AQ.fresh hp)) (I.AQ.laid k hp new)
theorem Inv.write{x e:Addr}(I:Inv X Zh Z H s)(a:P5 (H x))(c:e=x∨H e=some (.own x))(k:∀b u,b≠e->s.heap.get? b=some u->h'.get? b=some u)(I0:∃u,h'.get? e=some u)
  (new:CC X.prog X.w (upd H x o) h' x o):Inv X Zh Z (upd H x o) { s with heap:=h',toks:=t' }:=I.un (Un.write a c k I0) (I.AQ.write a c k I0 new)
theorem Inv.iy(I:Inv X Zh Z H s)(h:∀p∈jQ,s.heap.get? p.1=some p.2/\H p.1=none/\p.1≠X.env.locals/\p.1∉X.fs/\∀v,p.2.data≠.cell v):Inv X jQ Z H s:=
 ⟨I.ok,I.os,I.bare,I.base,I.loc,I.cell,I.free,I.Hn,λp hp=>(List.mem_append.mp hp).elim (λz=>I.pin p (Fn _ z)) (h p),I.AQ,I.len⟩
theorem nh(c:N.Nodup)(a:N[i]?=some x)(b:N[j]?=some x):i=j:=by
 obtain⟨h1,e⟩:=List.getElem?_eq_some_iff.mp a;obtain⟨h2,d⟩:=List.getElem?_eq_some_iff.mp b;exact(ZIt c).mp (e.trans d.symm)
theorem eX{Q:Unit->Shared->Prop}(I:Inv X Zh Z H s)(V:X.N.Nodup)(hi:X.N[i]?=some x)(hx:Loc X.env.scope x)(r:RelV v u)
  (h:∀s',Inv X Zh (Z.set i (some v)) H s'->(∃a,Heap.SameBut a s.heap s'.heap/\(a=X.env.locals∨X.env.cells.lookup x=some a))->Q () s') (hf:X.fn x=true∨X.env.scope.names.lookup x=some .local:=by first|exact .inl rfl|exact .inr rfl|assumption):wpAny M A (storeName X.env x u) Q E s:=by
 obtain⟨m,hn,U⟩:=id I.loc;have tM:(X.env.scope.kind == .class || (X.env.scope.kind == .module && X.env.locals != X.env.globals))=false:=by rw[I.ok.kind];rfl
 have hiσ:i<Z.length:=by rw[I.len];exact(List.getElem?_eq_some_iff.mp hi).1
 have L7:=I.L7;have f:∀{a:Addr}{h':Heap},(∃o,s.heap.get? a=some o/\H a=none)->Heap.SameBut a s.heap h'->CH X.prog X.w H h':=λ{a h'}ha hs b ob e=>by
  obtain⟨_,_,T⟩:=ha;refine(I.AQ b ob e).J8 (λc D l q=>(hs.2 c ?_).trans q) (λ_ q=>q) λ_ _ q=>q;rintro rfl;rcases l with rfl|l
  .rw[T]at e;cases e
  .rw[T]at l;cases l
 rcases hx with hk|hk
 .refine wpAny_storeName_local hk hn (λh' rC hs=>?_) tM;obtain⟨oL,_,_,Pg,_⟩:=id hn;refine h _ ⟨I.ok,I.os,I.bare,⟨λb o e n C hx=>?_,λb o e n C hx=>?_,I.base.free,λb o e hx=>?_,I.base.Iy,I.base.HS,I.base.Iw⟩,⟨_,rC,λj y G g t O=>?_⟩,λy c e=>?_,I.free,I.Hn,λp hp=>?_,f ⟨oL,Pg,I.free⟩ hs,by simpa using I.len⟩ ⟨_,hs,.inl rfl⟩
  .exact(hs.2 b (BP (Du (BD e) I.ok.above))).trans (I.base.keep b o e n C hx)
  .obtain⟨sl,g⟩:=I.base.slot b o e n C hx;exact⟨sl,(hs.2 b (BP (Du (BD e) I.ok.above))).trans g⟩
  .obtain⟨o',g⟩:=I.base.there b o e hx;exact⟨o',(hs.2 b (BP (Du (BD e) I.ok.above))).trans g⟩
  .by_cases B:j=i
   .subst B;rw[hi]at g;cases g;rw[DD hiσ]at t;cases t;exact⟨u,r,.inl ⟨hk,by simp⟩⟩
   .rw[CZ (BW B)]at t;obtain⟨J,K,q⟩:=U j y G g t O;refine⟨J,K,?_⟩;rcases q with⟨k,e⟩|⟨k,c,e,z⟩
    .refine .inl ⟨k,?_⟩;have:y≠x:=λe=>B (nh V g (e▸hi));simp[this,e]
    .exact .inr ⟨k,c,e,z.sameBut hs (L7 y c e)⟩
  .obtain⟨D,z⟩:=I.cell y c e;exact⟨D,z.sameBut hs (L7 y c e)⟩
  .obtain⟨e,n,ne,L,d⟩:=I.pin p hp;exact⟨(hs.2 p.1 ne).trans e,n,ne,L,d⟩
 .have P:X.fn x=true:=by
   rcases hf with z|z
   .exact z
   .rw[z]at hk;cases hk
  obtain⟨c,l⟩:=I.ok.has x (.inl hk);obtain⟨D,z⟩:=I.cell x c l;refine wpAny_storeName_cell I.ok.kind hk l z (λh' Hj hs=>?_);obtain⟨R,S,ZIC⟩:=id z;refine h { s with heap:=h' } ⟨I.ok,I.os,I.bare,⟨λb o e n C hx=>?_,λb o e n C hx=>?_,I.base.free,λb o e hx=>?_,I.base.Iy,I.base.HS,I.base.Iw⟩,⟨m,hn.sameBut hs (BW (L7 x c l)),λj y G g t O=>?_⟩,λy F e=>?_,I.free,I.Hn,λp hp=>?_,f ⟨R,S,I.Hn x c l⟩ hs,by simpa using I.len⟩ ⟨c,hs,.inr l⟩
  .exact(hs.2 b (BP (Du (BD e) (I.ok.OB x c P l)))).trans (I.base.keep b o e n C hx)
  .obtain⟨sl,g⟩:=I.base.slot b o e n C hx;exact⟨sl,(hs.2 b (BP (Du (BD e) (I.ok.OB x c P l)))).trans g⟩
  .obtain⟨o',g⟩:=I.base.there b o e hx;exact⟨o',(hs.2 b (BP (Du (BD e) (I.ok.OB x c P l)))).trans g⟩
  .by_cases B:j=i
   .subst B;rw[hi]at g;cases g;rw[DD hiσ]at t;cases t;exact⟨u,r,.inr ⟨.inl hk,c,l,Hj⟩⟩
   .rw[CZ (BW B)]at t;obtain⟨J,K,q⟩:=U j y G g t O;refine⟨J,K,?_⟩;rcases q with q|⟨k,F,e,z'⟩
    .exact .inl q
    .refine .inr ⟨k,F,e,z'.sameBut hs ?_⟩;rintro rfl;exact B (nh V g (I.ok.inj _ _ _ e l▸hi))
  .by_cases W:F=c
   .subst W;exact⟨_,Hj⟩
   .obtain⟨σ,Y⟩:=I.cell y F e;exact⟨σ,Y.sameBut hs W⟩
  .obtain⟨e,n,ne,L,d⟩:=I.pin p hp;refine⟨(hs.2 p.1 ?_).trans e,n,ne,L,d⟩;intro q;rw[q,S]at e;have q':R=p.2:=BX e;exact d D (by rw[<- q'];exact ZIC)
theorem gW{Q:Unit->Shared->Prop}(I:Inv X Zh Z H s)(b:X.N.Nodup)(hi:X.N[i]?=some x)(hx:Loc X.env.scope x)(r:RelV v u)
  (h:∀s',Inv X Zh (Z.set i (some v)) H s'->Q () s') (a:X.fn x=true∨X.env.scope.names.lookup x=some .local:=by first|exact .inl rfl|exact .inr rfl|assumption):wpAny M A (storeName X.env x u) Q E s:=
 eX I b hi hx r (λs' I' _=>h s' I') a
theorem Inv.ZCE(I:Inv X Zh Z H s)(ho:s'.os=s.os)(u:Un (Hk X.stack) ch H H' s.heap s'.heap)(AQ:CH X.prog X.w H' s'.heap)(hg:AllBare s'.gens)
  (IU:∀b∈ch,(b∈X.ex∨X.s₀.heap.objs.size<=b)/\b≠X.env.locals/\(∀x c,X.env.cells.lookup x=some c->c≠b)/\∀p∈X.pn++Zh,p.1≠b):Inv X Zh Z H' s':=by
 obtain⟨h',g',d',t',o'⟩:=s';have e:o'=s.os:=ho;subst e;exact I.call (g':=g') (t':=t') (d':=d') u AQ hg IU
end
abbrev XK:=Value->Option Addr->Hp->Prop
abbrev St:=List (Option V)
variable{Z:St}
abbrev VK:=V->Hp->Prop
abbrev TE:=St->Hp->VK->Prop
variable{ta tb tc te:TE}
abbrev TT:=St->Hp->(Bool->Hp->Prop)->Prop
abbrev TA:=St->Hp->(List V->Hp->Prop)->Prop
structure Ends where
 nx:St->Hp->Prop
 rt:VK
 bk:St->Hp->Prop:=λ_ _=>False
 ct:St->Hp->Prop:=λ_ _=>False
abbrev TS:=Ends->St->Hp->Prop
def EP(X:Cx)(Zh:ZKH)(Z:St)(Q:VK)(u:Value)(s':Shared):Prop:=∃v H',Inv X Zh Z H' s'/\RelV v u/\Q v H'
def TP(X:Cx)(Zh:ZKH)(Z:St)(Q:Bool->Hp->Prop)(b:Bool)(s':Shared):Prop:=∃H',Inv X Zh Z H' s'/\Q b H'
def AP(X:Cx)(Zh:ZKH)(Z:St)(Q:List V->Hp->Prop)(us:List Value)(s':Shared):Prop:=∃vs H',Inv X Zh Z H' s'/\Vals vs us/\Q vs H'
def SP(X:Cx)(Zh:ZKH)(D:Ends)(f:Flow)(s':Shared):Prop:=
 match f with
 | .next=>∃ σ' H',Inv X Zh σ' H' s'/\D.nx σ' H'
 | .brk=>∃ σ' H',Inv X Zh σ' H' s'/\D.bk σ' H'
 | .cont=>∃ σ' H',Inv X Zh σ' H' s'/\D.ct σ' H'
 | .ret u=>∃v σ' H',Inv X Zh σ' H' s'/\RelV v u/\D.rt v H'
def PE(X:Cx)(e:Expr)(t:TE):Prop:=
 ∀(Zh:ZKH)(s:Shared)(Z:St)(H:Hp)(Q:VK),Inv X Zh Z H s->t Z H Q->wpAny (model X.prog X.w) X.A (eval e X.env) (EP X Zh Z Q) X.xe s
def PT(X:Cx)(e:Expr)(t:TT):Prop:=
 ∀(Zh:ZKH)(s:Shared)(Z:St)(H:Hp)(Q:Bool->Hp->Prop),Inv X Zh Z H s->t Z H Q->wpAny (model X.prog X.w) X.A (isTrue e X.env (eval e X.env)) (TP X Zh Z Q) X.xe s
def PW(X:Cx)(e:Expr)(t:TT):Prop:=
 ∀(a:Sem Value)(Zh:ZKH)(s:Shared)(Z:St)(H:Hp)(Q:Bool->Hp->Prop),Inv X Zh Z H s->t Z H Q->wpAny (model X.prog X.w) X.A (isTrue e X.env a) (TP X Zh Z Q) X.xe s
theorem PW.pt{t:TT}(h:PW X e t):PT X e t:=h _
def PA(X:Cx)(es:List Expr)(t:TA):Prop:=
 ∀(pos:Pos)(Zh:ZKH)(s:Shared)(Z:St)(H:Hp)(Q:List V->Hp->Prop),Inv X Zh Z H s->t Z H Q->wpAny (model X.prog X.w) X.A (spliced (backTo pos (starEach es X.env))) (AP X Zh Z Q) X.xe s
def PS(X:Cx)(st:Stmt)(t:TS):Prop:=
 ∀(Zh:ZKH)(s:Shared)(Z:St)(H:Hp)(D:Ends),Inv X Zh Z H s->t D Z H->wpAny (model X.prog X.w) X.A (exec st X.env) (SP X Zh D) X.xe s
def En(X:Cx)(st:List Stmt)(t:TS):Prop:=
 ∀(Zh:ZKH)(s:Shared)(Z:St)(H:Hp)(D:Ends),Inv X Zh Z H s->t D Z H->wpAny (model X.prog X.w) X.A (execs st X.env) (SP X Zh D) X.xe s
theorem AY{t:Sem α}{Q Q':α->Shared->Prop}(h:wpAny M A t Q E s)(b:∀a s,Q a s->Q' a s):wpAny M A t Q' E s:=v9 h b λ_ _ x=>x
section
def BJ(i:Nat):TE:=λZ H Q=>∃v,Z[i]?=some (some v)/\Q v H
def tC(v:V):TE:=λ_ H Q=>Q v H
def Gl(X:Cx)(x:Str):Prop:=X.env.kindOf x=some .globalImplicit
theorem aY(I:Inv X Zh Z H s)(hg:Gl X x)(a:X.mg x=some u)(h:Q u s)
  (hd:(x == ("__debug__":Str))=false:=by decide):wpAny (model X.prog X.w) X.A (eval (.Name x pos) X.env) Q E s:=
 ZIe I.ok.kind hg (Calls.loadGlobal_global (by rw[I.ok.glob];exact I.mod.glob.keeps I.bk) a h) hd
theorem K3(I:Inv X Zh Z H s)(hg:Gl X x)(b:X.mg x=none)(a:bootBuiltins x=some u)(h:Q u s)
  (hn:x ≠"__name__" := by decide) (hd:(x == ("__debug__":Str))=false:=by decide):wpAny (model X.prog X.w) X.A (eval (.Name x pos) X.env) Q E s:=by
 obtain⟨c,h1,h2⟩:=I.mod.blt;exact ZIe I.ok.kind hg (Calls.loadGlobal_builtin (by rw[I.ok.glob];exact I.mod.glob.keeps I.bk) b (by rw[I.ok.blt];exact h1.keeps I.bk) ((h2 x hn).trans a) h) hd
theorem sE(hg:Gl X x)(b:X.mg x=none)(a:bootBuiltins x=some u)(r:RelV v u)(hn:x ≠"__name__" := by decide)(hd:(x == ("__debug__":Str))=false:=by decide):PE X (.Name x pos) (tC v):=
 λ_ _ _ H _ I h=>K3 I hg b a ⟨v,H,I,r,h⟩ hn hd
variable{a b:Expr}
def PC(X:Cx)(op:CmpOp)(a b:Expr)(t:TE):Prop:=
 ∀(Zh:ZKH)(s:Shared)(Z:St)(H:Hp)(Q:VK),Inv X Zh Z H s->t Z H Q->
  wpAny (model X.prog X.w) X.A (eval a X.env) (λv d=>wpAny (model X.prog X.w) X.A (eval b X.env) (λu c=>wpAny (model X.prog X.w) X.A (compareOp op v u) (EP X Zh Z Q) X.xe c) X.xe d) X.xe s
theorem xr(b:Expr)(h:op≠.In)(h2:op≠.NotIn):behindInMarks op b=false:=by
 have c:(op == CmpOp.In)=false:=by cases op <;> first|rfl|exact absurd rfl h
 have a:(op == CmpOp.NotIn)=false:=by cases op <;> first|rfl|exact absurd rfl h2
 cases b <;> simp[behindInMarks,c,a]
def tB(t:TE):TT:=λZ H Q=>t Z H λx H1=>∃c,x=.bl c/\Q c H1
theorem o8{t:TE}(h:PC X op a b t)(h1:behindInMarks op b=false:=by first|exact xr _ (by decide) (by decide)|rfl):PT X (.Compare a [op] [b] pos) (tB t):=by
 intro Zh s Z H Q I hw;refine wpAny_isTrue_Compare1 (AY (h Zh s Z H _ I hw) λv s1 h1=>AY h1 λu s2 h2=>AY h2 λc g⟨x,H1,I1,e,f⟩=>?_) h1;obtain⟨d,rfl,q⟩:=f;cases e;exact xa ⟨H1,I1,q⟩
variable{tA JL:TT}
def YS(t u:TT):TT:=λZ H Q=>t Z H λc H1=>if c=true then u Z H1 Q else Q false H1
def RF(t u:TT):TT:=λZ H Q=>t Z H λc H1=>if c=true then Q true H1 else u Z H1 Q
def TH(t:TT):TT:=λZ H Q=>t Z H λc H1=>Q (!c) H1
def Ue(ta tb:TE):TE:=λZ H Q=>ta Z H λx H1=>∃c,x=.bl c/\if c=true then tb Z H1 Q else Q (.bl false) H1
def cK(ta tb:TE):TE:=λZ H Q=>ta Z H λx H1=>∃c,x=.bl c/\if c=true then Q (.bl true) H1 else tb Z H1 Q
def aV(ta:TE):TE:=λZ H Q=>ta Z H λx H1=>∃c,x=.bl c/\Q (.bl (!c)) H1
end
def AK(K:ZKG)(H:Hp)(a:Addr)(xs:List V):Prop:=
 Rd H a (.lst xs)∨
  ∃(o:Obj)(A5:Array Value)(n:Nat),K.lookup a=some o/\o.cls=.type "list" /\ o.dict=none/\o.data=.seq A5 n/\A5.size<=sizeLine/\Vals xs A5.toList
def AE(K:ZKG)(H:Hp)(a:Addr)(xs:List V):Prop:=
 Rd H a (.tup xs)∨
  ∃(o:Obj)(A5:Array Value)(n:Nat),K.lookup a=some o/\o.cls=.type "tuple" /\ o.data=.seq A5 n/\A5.size<=sizeLine/\Vals xs A5.toList
noncomputable def sC:Value->Option V
 | .none=>some .AG
 | .bool b=>some (.bl b)
 | .int i _=>some (.int i)
 | .str x _=>some (.str x)
 | .bytes b _=>some (.Gg b)
 | .float b _=>some (.KN b)
 | .ref a=>some (.ref a)
 | .type n=>some (.ty n)
 |_=>none
theorem RelV.abs{x:V}(r:RelV x u):sC u=some x:=by
 cases x with
 |AG=>cases r;rfl
 |bl _=>cases r;rfl
 |int _=>obtain⟨t,rfl⟩:=r;rfl
 |str _=>obtain⟨t,rfl⟩:=r;rfl
 |Gg _=>obtain⟨t,rfl⟩:=r;rfl
 |KN _=>obtain⟨t,rfl⟩:=r;rfl
 |ref _=>cases r;rfl
 |ty _=>cases r;rfl
theorem RelV.inj{x y:V}{u:Value}(r:RelV x u)(q:RelV y u):x=y:=BX (r.abs.symm.trans q.abs)
theorem Vals.inj:∀{xs ys:List V}{us:List Value},Vals xs us->Vals ys us->xs=ys
 |_,_,_,.nil,.nil=>rfl
 |_,_,_,.cons r t,.cons r' t'=>by rw[r.inj r',Vals.inj t t']
section
variable{xs ys:List V}
theorem AK.of{K:ZKG}(h:H a=some (.lst xs)):AK K H a xs:=.inl (.inl h)
theorem AE.of{K:ZKG}(h:H a=some (.tup xs)):AE K H a xs:=.inl (.inl h)
theorem Inv.list(I:Inv X Zh Z H s)(h:AK X.K H a xs):∃A5:List Value,Vals xs A5/\PlainL s.heap a A5.toArray/\xs.length<=sizeLine:=by
 rcases h with h|⟨o,A5,n,hk,hc,hd,hs,hz,r⟩
 .obtain⟨z,A5,n,r,e⟩:=h.ok I.AQ;exact⟨A5,r,⟨_,n,e,rfl,rfl,rfl⟩,z⟩
 .refine⟨A5.toList,r,⟨o,n,I.D2 a o hk,hc,hd,by simpa using hs⟩,?_⟩
  have e:=r.length;simp only[HI]at e;omega
theorem Inv.tuple(I:Inv X Zh Z H s)(h:AE X.K H a xs):∃A5:List Value,Vals xs A5/\IsTup s.heap a A5.toArray/\xs.length<=sizeLine:=by
 rcases h with h|⟨o,A5,n,hk,hc,hs,hz,r⟩
 .obtain⟨z,A5,r,p⟩:=h.ok I.AQ;exact⟨A5,r,p.1,z⟩
 .refine⟨A5.toList,r,⟨o,I.D2 a o hk,hc,n,by simpa using hs⟩,?_⟩
  have e:=r.length;simp only[HI]at e;omega
theorem Inv.jr(I:Inv X Zh Z H s)(h:AK X.K H a xs)(h':AK X.K H a ys):xs=ys:=by
 obtain⟨A5,r,⟨o,n,e,_,_,d⟩,_⟩:=I.list h;obtain⟨its',c,⟨o',f,b,_,_,d'⟩,_⟩:=I.list h';rw[e]at b;cases b;rw[d]at d';injection d' with d1 _
 have:A5=its':=by simpa using xU Array.toList d1
 subst this;exact r.inj c
theorem Inv.Pa(I:Inv X Zh Z H s)(h:AE X.K H a xs)(h':AE X.K H a ys):xs=ys:=by
 obtain⟨A5,r,⟨o,e,_,n,d⟩,_⟩:=I.tuple h;obtain⟨its',c,⟨o',b,_,f,d'⟩,_⟩:=I.tuple h';rw[e]at b;cases b;rw[d]at d';injection d' with d1 _
 have:A5=its':=by simpa using xU Array.toList d1
 subst this;exact r.inj c
end
noncomputable abbrev Cx.Im(X:Cx)(E:Value->Shared->Prop):Cx:={ X with xe:=E }
noncomputable abbrev Cx.Nz(X:Cx):Cx:=X.Im λ_ _=>False
theorem Cx.Ok.Im(ok:X.Ok)(E:Value->Shared->Prop):(X.Im E).Ok:=
 ⟨ok.mod,ok.kind,ok.glob,ok.blt,ok.above,ok.inj,ok.has,ok.OB,ok.hd,ok.frames,ok.UC,ok.Sd,ok.bs,ok.Jf,ok.OC,ok.Oo,ok.HF,ok.LK⟩
theorem Cx.Ok.Jy(ok:(X.Im E).Ok):X.Ok:=
 ⟨ok.mod,ok.kind,ok.glob,ok.blt,ok.above,ok.inj,ok.has,ok.OB,ok.hd,ok.frames,ok.UC,ok.Sd,ok.bs,ok.Jf,ok.OC,ok.Oo,ok.HF,ok.LK⟩
section
theorem Inv.Im(I:Inv X Zh Z H s)(E:Value->Shared->Prop):Inv (X.Im E) Zh Z H s:=⟨I.ok.Im E,I.os,I.bare,I.base,I.loc,I.cell,I.free,I.Hn,I.pin,I.AQ,I.len⟩
theorem Inv.Jy(I:Inv (X.Im E) Zh Z H s):Inv X Zh Z H s:=⟨I.ok.Jy,I.os,I.bare,I.base,I.loc,I.cell,I.free,I.Hn,I.pin,I.AQ,I.len⟩
theorem SP.Jy{D:Ends}{f:Flow}(h:SP (X.Im E) Zh D f s'):SP X Zh D f s':=by
 cases f with
 |next=>obtain⟨σ',H',I,q⟩:=h;exact⟨σ',H',I.Jy,q⟩
 |brk=>obtain⟨σ',H',I,q⟩:=h;exact⟨σ',H',I.Jy,q⟩
 |cont=>obtain⟨σ',H',I,q⟩:=h;exact⟨σ',H',I.Jy,q⟩
 |ret u=>obtain⟨v,σ',H',I,r,q⟩:=h;exact⟨v,σ',H',I.Jy,r,q⟩
theorem En.Nz{st:List Stmt}{t:TS}(h:En X.Nz st t):En X st t:=λZh s Z H D I hw=>
 v9 (h Zh s Z H D (I.Im _) hw) (λ_ _ q=>q.Jy) λ_ _ z=>False.elim z
variable{st:Stmt}{rest:List Stmt}{t u:TS}
def Uu:TS:=λD Z H=>D.nx Z H
def OY(t u:TS):TS:=λD Z H=>t { D with nx:=u D } Z H
theorem zh(h1:PS X st t)(h2:En X rest u):En X (st::rest) (OY t u):=by
 intro Zh s Z H D I h;refine wpAny_execs_cons (AY (h1 Zh s Z H { D with nx:=u D } I h) λf s1 q=>?_)
 cases f with
 |next=>
  obtain⟨σ',H',I',q⟩:=q;exact h2 Zh s1 σ' H' D I' q
 |ret v=>exact q
 |brk=>exact q
 |cont=>exact q
theorem ZEI(h1:PS X st t):En X [st] t:=by
 intro Zh s Z H D I h;refine wpAny_execs_cons (AY (h1 Zh s Z H D I h) λf s1 q=>?_);cases f with
 |next=>exact ZB7 q
 |ret v=>exact q
 |brk=>exact q
 |cont=>exact q
theorem Inv.quiet(I:Inv X Zh Z H s):interactive X.env=false:=by simp[interactive,I.ok.kind]
def Jn(te:TE):TS:=λD Z H=>te Z H λ_ H1=>D.nx Z H1
def Ib(te:TE):TS:=λD Z H=>te Z H D.rt
def SI(c:TT)(t u:TS):TS:=λD Z H=>c Z H λb H1=>if b=true then t D Z H1 else u D Z H1
def ee:TS:=λ_ _ _=>False
end
abbrev TG:=V->St->Hp->(St->Hp->Prop)->Prop
abbrev IG:=List V->St->Hp->(St->Hp->Prop)->Prop
def PG(X:Cx)(a:Expr)(t:TG):Prop:=
 ∀(Zh:ZKH)(s:Shared)(Z:St)(H:Hp)(v:V)(u:Value)(Q:St->Hp->Prop),Inv X Zh Z H s->RelV v u->t v Z H Q->
  wpAny (model X.prog X.w) X.A (assign a X.env u) (λ_ s'=>∃ σ' H',Inv X Zh σ' H' s'/\Q σ' H') X.xe s
def Q3(X:Cx)(ts:List Expr)(t:IG):Prop:=
 ∀(Zh:ZKH)(s:Shared)(Z:St)(H:Hp)(vs:List V)(us:List Value)(Q:St->Hp->Prop),Inv X Zh Z H s->Vals vs us->t vs Z H Q->
  wpAny (model X.prog X.w) X.A (assignInOrder ((assignEach ts X.env).map (·.2)) us) (λ_ s'=>∃ σ' H',Inv X Zh σ' H' s'/\Q σ' H') X.xe s
abbrev Rc:=V->V->V->Hp->(Hp->Prop)->Prop
def V6(X:Cx)(t:Rc):Prop:=
 ∀(Zh:ZKH)(s:Shared)(Z:St)(H:Hp)(o i v:V)(a b u:Value)(Q:Hp->Prop),Inv X Zh Z H s->RelV o a->RelV i b->RelV v u->t o i v H Q->
  wpAny (model X.prog X.w) X.A (setItem a b u) (λ_ s'=>∃H',Inv X Zh Z H' s'/\Q H') X.xe s
def ES(i:Nat):TG:=λv Z H Q=>Q (Z.set i (some v)) H
theorem lY(b:X.N.Nodup)(hi:X.N[i]?=some x)(hx:Loc X.env.scope x)(a:X.fn x=true∨X.env.scope.names.lookup x=some .local:=by first|exact .inl rfl|exact .inr rfl|assumption):PG X (.Name x pos) (ES i):=by
 intro Zh s Z H v u Q I r h;exact wpAny_assign_Name (gW I b hi hx r (λs' I'=>⟨_,H,I',h⟩) a)
def X4:IG:=λvs Z H Q=>vs=[]/\Q Z H
def RH(t:TG)(u:IG):IG:=λvs Z H Q=>∃v r,vs=v::r/\t v Z H λσ' H'=>u r σ' H' Q
def XA(K:ZKG)(n:Nat)(t:IG):TG:=λv Z H Q=>∃a xs,v=.ref a/\AE K H a xs/\xs.length=n/\t xs Z H Q
def gi(to ti:TE)(t:Rc):TG:=λv Z H Q=>to Z H λo H1=>ti Z H1 λi H2=>t o i v H2 λH3=>Q Z H3
def GF(te:TE)(g:TG):TS:=λD Z H=>te Z H λx H1=>g x Z H1 D.nx
def aT(c:TT)(tb:TS):TS:=λD Z H=>∃W:Nat->St->Hp->Prop,(∃m,W m Z H)/\∀m Z H,W m Z H->
 c Z H λb H1=>if b=true then ∃N:St->Hp->Prop,(∀ σ' H',N σ' H'->∃a,a < m/\W a σ' H')/\tb { D with nx:=N,ct:=N,bk:=D.nx } Z H1 else D.nx Z H1
structure It where
 go:Nat->Hp->Prop
 GW:Nat->Hp->V->Hp->Prop
 stop:Nat->Hp->Prop
def EN(X:Cx)(Zh:ZKH)(H:Hp)(b:Addr):Prop:=
 H b=none/\b≠X.env.locals/\b∉X.fs/\(b∈X.ex∨X.s₀.heap.objs.size<=b)/\(∀x c,X.env.cells.lookup x=some c->c≠b)/\∀p∈X.pn++Zh,p.1≠b
theorem Inv.L1(I:Inv X Zh Z H s)(a:s.heap.objs.size<=b)(hn:H' b=none):EN X Zh H' b:=by
 refine⟨hn,Ks (Du I.lt a),I.ZBY a,.inr (C7 I.sz a),λx c e z=>?_,λp hp z=>?_⟩
 .obtain⟨v,q⟩:=I.cell x c e;exact absurd (Du q.lt (by rw[z];exact a)) (M6 _)
 .exact absurd (Du (BD (I.pin p hp).1) (by rw[z];exact a)) (M6 _)
structure Turn (P:Program) (w:World) (K:ZKG) (tg:Expr) (J:It) (fp:List Addr) (it:Addr) (tn:Nat->Heap->Prop):Prop where
 mem:it∈fp
 obj:∀i h,tn i h->∀b∈fp,∃o,h.get? b=some o/\∀v,o.data≠.cell v
 keep:∀i h h',tn i h->(∀b∈fp,∀o,h.get? b=some o->h'.get? b=some o)->tn i h'
 item:∀(X:Cx),X.prog=P->X.w=w->X.K=K->X.calm=true->∀(i:Nat)(Zh:ZKH)(s:Shared)(Z:St)(H:Hp)(E:Value->Shared->Prop),Inv X Zh Z H s->(∀b∈fp,EN X Zh H b)->tn i s.heap->J.go i H->
  wpAny (model P w) X.A (pyNext (.ref it)) (λr s1=>∃u,r=some u/\
   wpAny (model P w) X.A (letOwnedTupleGo tg (.ref it) u) (λ_ s2=>∃x H',Inv X Zh Z H' s2/\RelV x u/\J.GW i H x H'/\tn (i+1) s2.heap/\∀b∈fp,H' b=none) E s1) E s
 done:∀(X:Cx),X.prog=P->X.w=w->X.K=K->X.calm=true->∀(i:Nat)(Zh:ZKH)(s:Shared)(Z:St)(H:Hp)(E:Value->Shared->Prop),Inv X Zh Z H s->(∀b∈fp,EN X Zh H b)->tn i s.heap->J.stop i H->
  wpAny (model P w) X.A (pyNext (.ref it)) (λr s1=>r=none/\Inv X Zh Z H s1) E s
 self:∀(A:Around)(i:Nat)(s:Shared)(Q:Value->Shared->Prop)(E:Value->Shared->Prop),tn i s.heap->Q (.ref it) s->wpAny (model P w) A (pyIter (.ref it)) Q E s
abbrev TI:=St->Hp->(It->Hp->Prop)->Prop
def lT(X:Cx)(Zh:ZKH)(Z:St)(tg:Expr)(R:It->Hp->Prop)(UI:Value)(s2:Shared):Prop:=
 ∃(it:Addr)(fp:List Addr)(tn:Nat->Heap->Prop)(J:It)(H':Hp),UI=.ref it/\Inv X Zh Z H' s2/\Turn X.prog X.w X.K tg J fp it tn/\tn 0 s2.heap/\(∀b∈fp,EN X Zh H' b)/\R J H'
def PI(X:Cx)(tg iter:Expr)(wi:TI):Prop:=
 ∀(Zh:ZKH)(s:Shared)(Z:St)(H:Hp)(R:It->Hp->Prop),Inv X Zh Z H s->wi Z H R->
  wpAny (model X.prog X.w) X.A (eval iter X.env) (λv s1=>wpAny (model X.prog X.w) X.A (pyIter v) (lT X Zh Z tg R) X.xe s1) X.xe s
theorem Pn{o:Obj}{n:String}{vs:Array Value}{Q:Unit->Shared->Prop}(ho:s.heap.get? it=some o)(b:o.cls=.type n)(hd:o.data=.fields vs)
  (hn:["enumerate","zip","dict_itemiterator","dict_reverseitemiterator","odict_iterator","itertools.zip_longest","itertools.pairwise"].contains n=false) (a:Q () s):wpAny M A (letOwnedTupleGo tg (.ref it) u) Q E s:=by
 unfold letOwnedTupleGo;cases tg <;> first
  |exact qL a
  | (cases u <;> first
    |exact qL a
    | (
      refine pk (ZB9 ho ?_);rw[b,hd];show wpAny M A (if(["enumerate","zip","dict_itemiterator","dict_reverseitemiterator","odict_iterator","itertools.zip_longest","itertools.pairwise"].contains n && vs[0]? == some (rawInt _))=true then _ else _) Q E s
      rw[tJ (by intro h;rw[hn,Bool.false_and]at h;cases h)];exact qL a))
def vL(K:ZKG)(a:Addr):It:=
 ⟨λi H=>∃xs x,AK K H a xs/\xs[i]?=some x,λi H x H'=>H'=H/\∀xs,AK K H a xs->xs[i]?=some x,λi H=>∃xs,AK K H a xs/\xs.length<=i⟩
def vH(K:ZKG)(a:Addr):It:=
 ⟨λi H=>∃xs x,AE K H a xs/\xs[i]?=some x,λi H x H'=>H'=H/\∀xs,AE K H a xs->xs[i]?=some x,λi H=>∃xs,AE K H a xs/\xs.length<=i⟩
def NU(lo:Int)(n:Nat):It:=⟨λi _=>i<n,λi H x H'=>H'=H/\x=.int (lo+i),λi _=>n<=i⟩
theorem Nt{P:Program}{K:ZKG}(a it:Addr):Turn P w K tg (vL K a) [it] it (λi h=>h.IsListIter it a i) where
 mem:=by simp
 obj:=λi h st b f=>by
  have e:b=it:=by simpa using f
  subst e;obtain⟨o,e,c,d⟩:=st;exact⟨o,e,λv z=>by rw[d]at z;cases z⟩
 keep:=λi h h' st k=>st.at λo e=>k it (by simp) o e
 item:=by
  intro X m hw n A i Zh s Z H E I j st hg;subst m hw n;obtain⟨xs,x,g,hx⟩:=hg;obtain⟨A5,l,p,D⟩:=I.list g;obtain⟨u,hu,C⟩:=l.get hx;obtain⟨f0,y,G,t,r,q⟩:=j it (by simp);refine wpAny_pyNext_list_item st p.isList (x:=u) (by simpa using hu) λh' DI B=>?_
  have L:Inv X Zh Z H { s with heap:=h' }:=I.turned (t':=s.toks) (λb o f e=>(B.2 b f).trans e) f0 y t r q
  obtain⟨o,e,c,d⟩:=id DI;exact⟨u,rfl,Pn (s:={ s with heap:=h' }) e c d (by decide) ⟨x,H,L,C,⟨rfl,λys F=>by rw[I.jr F g];exact hx⟩,DI,λb f=>(j b f).1⟩⟩
 done:=by
  intro X m hw n A i Zh s Z H E I j st hg;subst m hw n;obtain⟨xs,g,hx⟩:=hg;obtain⟨A5,l,p,D⟩:=I.list g;obtain⟨f0,y,G,t,r,q⟩:=j it (by simp);have M:=l.length;exact wpAny_pyNext_list_end (I.ok.hd A) st p.isList (by simp;omega) λh' J=>⟨rfl,I.turned (t':=s.toks) (λb o f e=>J b o f e) f0 y t r q⟩
 self:=λ_ _ _ _ _ st h=>wpAny_pyIter_listiter st h
theorem OH{P:Program}{K:ZKG}(a it:Addr):Turn P w K tg (vH K a) [it] it (λi h=>h.IsTupleIter it a i) where
 mem:=by simp
 obj:=λi h st b f=>by
  have e:b=it:=by simpa using f
  subst e;obtain⟨o,e,c,d⟩:=st;exact⟨o,e,λv z=>by rw[d]at z;cases z⟩
 keep:=λi h h' st k=>st.at λo e=>k it (by simp) o e
 item:=by
  intro X m hw n A i Zh s Z H E I j st hg;subst m hw n;obtain⟨xs,x,g,hx⟩:=hg;obtain⟨A5,l,p,D⟩:=I.tuple g;obtain⟨u,hu,C⟩:=l.get hx;obtain⟨f0,y,G,t,r,q⟩:=j it (by simp);refine wpAny_pyNext_tuple_item st (show s.heap.IsTuple a A5.toArray from p) (x:=u) (by simpa using hu) λh' DI B=>?_
  have L:Inv X Zh Z H { s with heap:=h' }:=I.turned (t':=s.toks) (λb o f e=>(B.2 b f).trans e) f0 y t r q
  obtain⟨o,e,c,d⟩:=id DI;exact⟨u,rfl,Pn (s:={ s with heap:=h' }) e c d (by decide) ⟨x,H,L,C,⟨rfl,λys F=>by rw[I.Pa F g];exact hx⟩,DI,λb f=>(j b f).1⟩⟩
 done:=by
  intro X m hw n A i Zh s Z H E I j st hg;subst m hw n;obtain⟨xs,g,hx⟩:=hg;obtain⟨A5,l,p,D⟩:=I.tuple g;obtain⟨f0,y,G,t,r,q⟩:=j it (by simp);have M:=l.length;exact wpAny_pyNext_tuple_end (I.ok.hd A) st (show s.heap.IsTuple a A5.toArray from p) (by simp;omega) λh' J=>⟨rfl,I.turned (t':=s.toks) (λb o f e=>J b o f e) f0 y t r q⟩
 self:=λ_ _ _ _ _ st h=>wpAny_pyIter_tupleiter st h
theorem wQ{P:Program}{K:ZKG}(it:Addr)(lo:Int)(n:Nat):Turn P w K tg (NU lo n) [it] it (λi h=>IsRangeIter h it (lo+(i:Nat) * 1) ((n:Int) - (i:Nat)) 1) where
 mem:=by simp
 obj:=λi h st b a=>by
  have e:b=it:=by simpa using a
  subst e;exact⟨_,st,λv z=>by
   have q:Data.fields _=Data.cell v:=z;cases q⟩
 keep:=λi h h' st k=>k it (by simp) _ st
 item:=by
  intro X f hw g d i Zh s Z H E I c st hg;subst f hw g;obtain⟨f0,p,u,m,l,j⟩:=c it (by simp);have W:=Walks.range (prog:=X.prog) (w:=X.w) (I.ok.hd d) it lo 1 n;refine W.item i s _ _ hg st λv h' tk r DI kk=>?_;obtain⟨t,rfl⟩:=r;have y:Inv X Zh Z H { s with heap:=h',toks:=tk }:=I.turned (λb o a e=>kk b o (by simpa using a) e) f0 p m l j
  refine⟨_,rfl,Pn (s:={ s with heap:=h',toks:=tk }) (n:="range_iterator") DI rfl rfl (by decide) ⟨.int (lo+i),H,y,⟨t,?_⟩,⟨rfl,rfl⟩,DI,λb a=>(c b a).1⟩⟩
  rw[Int.mul_one]
 done:=by
  intro X f hw g d i Zh s Z H E I c st hg;subst f hw g;obtain⟨f0,p,u,m,l,j⟩:=c it (by simp);exact wpAny_pyNext_range_end (I.ok.hd d) st (by have:n<=i:=hg;omega) λh' x=>⟨rfl,I.turned (t':=s.toks) (λb o a e=>x b o a e) f0 p m l j⟩
 self:=λ_ _ _ _ _ st h=>wpAny_pyIter_rangeiter st h
theorem va{R:It->Hp->Prop}{lo hi:Int}{t u v:Tok}(I:Inv X Zh Z H s)(h1:-(2 ^ 62)<=lo)(h2:lo<2 ^ 62)(f:-(2 ^ 62)<=hi)(d:hi<2 ^ 62)
  (q:R (NU lo (hi - lo).toNat) H):wpAny (model X.prog X.w) X.A (pyIter (.ref s.heap.objs.size)) (lT X Zh Z tg R) E { s with heap:=s.heap.push { cls:=.type "range", data:=.fields #[.int lo t,.int hi u,.int 1 v] },toks:=tk }:=by
 refine wpAny_pyIter_range (IsRange.new ..) (small_one h1 h2 f d) ?_;have a:Inv X Zh Z H { s with heap:=s.heap.push { cls:=.type "range", data:=.fields #[.int lo t,.int hi u,.int 1 v] },toks:=tk }:=I.kept λb o e=>BF _ e
 refine⟨(s.heap.push { cls:=.type "range", data:=.fields #[.int lo t,.int hi u,.int 1 v] }).objs.size,[(s.heap.push { cls:=.type "range", data:=.fields #[.int lo t,.int hi u,.int 1 v] }).objs.size],_,_,H,rfl,
  a.kept (t':=tk) λb o e=>BF _ e,wQ _ lo (hi - lo).toNat,?_,λb c=>?_,q⟩
 .have h:lo+((0:Nat):Int) * 1=lo:=by simp
  have g:(((hi - lo).toNat:Nat):Int) - ((0:Nat):Int)=Builtin.Range.rangeSize lo hi 1:=by rw[rangeSize_one];split <;> omega
  show IsRangeIter _ _ (lo+((0:Nat):Int) * 1) ((((hi - lo).toNat:Nat):Int) - ((0:Nat):Int)) 1;rw[h,g];exact BZ _ rfl
 .have e:b=(s.heap.push { cls:=.type "range", data:=.fields #[.int lo t,.int hi u,.int 1 v] }).objs.size:=by simpa using c
  subst e;exact a.L1 (Am _) (a.AQ.fresh (Am _))
def Vf(ta:TA):TI:=λZ H R=>ta Z H λvs H1=>∃j:Int,vs=[.int j]/\-(2 ^ 62)<=j/\j<2 ^ 62/\R (NU 0 j.toNat) H1
def WS(wi:TI)(g:TG)(tb:TS):TS:=λD Z H=>wi Z H λJ H1=>∃W:Nat->Nat->St->Hp->Prop,(∃m,W 0 m Z H1)/\∀i m Z H,W i m Z H->
 (J.stop i H/\D.nx Z H)∨(J.go i H/\∃N:St->Hp->Prop,(∀ σ' H',N σ' H'->∃a,a < m/\W (i+1) a σ' H')/\∀x H',J.GW i H x H'->g x Z H' λσ2 H2=>tb { D with nx:=N,ct:=N,bk:=D.nx } σ2 H2)
def OU(fp:List Addr)(h:Heap):ZKH:=fp.filterMap λb=>(h.get? b).map λo=>(b,o)
theorem Qa{h:Heap}{o:Obj}(a:b∈fp)(e:h.get? b=some o):(b,o)∈OU fp h:=List.mem_filterMap.mpr ⟨b,a,by rw[e];rfl⟩
theorem xQ{h:Heap}{p:Addr×Obj}(hp:p∈OU fp h):p.1∈fp/\h.get? p.1=some p.2:=by
 obtain⟨b,a,e⟩:=List.mem_filterMap.mp hp;cases q:h.get? b with
 |none=>rw[q]at e;cases e
 |some o=>
  rw[q]at e;have c:(b,o)=p:=BX e;subst c;exact⟨a,q⟩
theorem Inv.pinned(I:Inv X Zh Z H s)(f:∀b∈fp,EN X Zh H b)(ho:∀b∈fp,∃o,s.heap.get? b=some o/\∀v,o.data≠.cell v):Inv X (Zh++OU fp s.heap) Z H s:=
 I.iy λp hp=>(List.mem_append.mp hp).elim (λz=>I.pin p (Dt _ z)) λz=>by
  obtain⟨a,e⟩:=xQ z;obtain⟨f0,h,g,_⟩:=f p.1 a;obtain⟨o,c,d⟩:=ho p.1 a;rw[e]at c;cases c;exact⟨e,f0,h,g,d⟩
theorem Inv.Nk{pl:ZKH}(I:Inv X (Zh++pl) Z H s):Inv X Zh Z H s:=I.iy λp hp=>I.pin p (Dt _ (Fn _ hp))
theorem ZCv{lo:Int}{g:TG}{tb:TS}{D:Ends}(Pv:Nat->St->Hp->Prop)(d:Pv 0 Z H)
  (hs:∀i Z H,i<n->Pv i Z H->g (.int (lo+i)) Z H λσ2 H2=>tb { D with nx:=Pv (i+1),ct:=Pv (i+1),bk:=D.nx } σ2 H2) (hd:∀ Z H,Pv n Z H->D.nx Z H) :
  ∃W:Nat->Nat->St->Hp->Prop,(∃m,W 0 m Z H)/\∀i m Z H,W i m Z H->
   ((NU lo n).stop i H/\D.nx Z H)∨((NU lo n).go i H/\∃N:St->Hp->Prop,(∀ σ' H',N σ' H'->∃b,b < m/\W (i+1) b σ' H')/\∀x H',(NU lo n).GW i H x H'->g x Z H' λσ2 H2=>tb { D with nx:=N,ct:=N,bk:=D.nx } σ2 H2):=by
 refine⟨λi m Z H=>m=n - i/\i<=n/\Pv i Z H,⟨n,by simp,CF _,d⟩,?_⟩;rintro i m Z H⟨rfl,hi,p⟩
 by_cases a:i<n
 .refine .inr ⟨a,Pv (i+1),λσ' H' c=>⟨n - (i+1),by omega,rfl,a,c⟩,λx H' y=>?_⟩;obtain⟨e,y⟩:=y;subst e y;exact hs i Z _ a p
 .have e:i=n:=by omega
  subst e;exact .inl ⟨Am _,hd Z H p⟩
abbrev R2:=V->V->Hp->VK->Prop
def BB(X:Cx)(f:Value->Value->Sem Value)(r:R2):Prop:=
 ∀(Zh:ZKH)(s:Shared)(Z:St)(H:Hp)(x y:V)(v u:Value)(Q:VK),Inv X Zh Z H s->RelV x v->RelV y u->r x y H Q->
  wpAny (model X.prog X.w) X.A (f v u) (EP X Zh Z Q) X.xe s
def D1(X:Cx)(f:Value)(r:List V->Hp->VK->Prop):Prop:=
 ∀(Zh:ZKH)(s:Shared)(Z:St)(H:Hp)(xs:List V)(us:List Value)(Q:VK),Inv X Zh Z H s->Vals xs us->r xs H Q->
  wpAny (model X.prog X.w) X.A (call f us) (EP X Zh Z Q) X.xe s
def By(r:R2)(ta tb:TE):TE:=λZ H Q=>ta Z H λx H1=>tb Z H1 λy H2=>r x y H2 Q
def rI(C:Int->Int->Prop)(g:Int->Int->V):R2:=λx y H Q=>∃i j,x=.int i/\y=.int j/\C i j/\Q (g i j) H
def Gv(g:Int->Int->V):R2:=λx y H Q=>∃i j,x=.int i/\y=.int j/\Q (g i j) H
section
variable{a b c:Expr}
theorem Z8(m:PE X a ta)(l:PE X b tb){R:V->V->Hp->Prop}(I:Inv X Zh Z H s)
  (h:ta Z H λx H1=>tb Z H1 λy H2=>R x y H2)
  (k:∀v u s2 x y H2,Inv X Zh Z H2 s2->RelV x v->RelV y u->R x y H2->wpAny (model X.prog X.w) X.A (f v u) Q X.xe s2) :
  wpAny (model X.prog X.w) X.A (eval a X.env) (λv d=>wpAny (model X.prog X.w) X.A (eval b X.env) (λu c=>wpAny (model X.prog X.w) X.A (f v u) Q X.xe c) X.xe d) X.xe s:=by
 refine AY (m Zh s Z H _ I h) λv s1 OM=>?_;obtain⟨x,H1,I1,g,j⟩:=OM;refine AY (l Zh s1 Z H1 _ I1 j) λu s2 ZIK=>?_;obtain⟨y,H2,I2,e,i⟩:=ZIK;exact k v u s2 x y H2 I2 g e i
theorem RA{C:Int->Int->Prop}{g:Int->Int->Int}
  (rule:∀(i j:Int)(t u:Tok)(s:Shared)(Q:Value->Shared->Prop)(E:Value->Shared->Prop),C i j->Q (.int (g i j) s.toks) { s with toks:=s.toks+1 }->wpAny (model X.prog X.w) X.A (f (.int i t) (.int j u)) Q E s) :
  BB X f (rI C λi j=>.int (g i j)):=by
 intro Zh s Z H x y v u Q I b a h;obtain⟨i,j,rfl,rfl,c,q⟩:=h;obtain⟨t,rfl⟩:=b;obtain⟨t',rfl⟩:=a;exact rule i j t t' s _ _ c ⟨.int (g i j),H,I.tok _,⟨_,rfl⟩,q⟩
theorem cZ{g:Int->Int->Int}
  (rule:∀(i j:Int)(t u:Tok)(s:Shared)(Q:Value->Shared->Prop)(E:Value->Shared->Prop),Q (.int (g i j) s.toks) { s with toks:=s.toks+1 }->wpAny (model X.prog X.w) X.A (f (.int i t) (.int j u)) Q E s) :
  BB X f (Gv λi j=>.int (g i j)):=by
 intro Zh s Z H x y v u Q I b a h;obtain⟨i,j,rfl,rfl,q⟩:=h;obtain⟨t,rfl⟩:=b;obtain⟨t',rfl⟩:=a;exact rule i j t t' s _ _ ⟨.int (g i j),H,I.tok _,⟨_,rfl⟩,q⟩
theorem RZ{g:Int->Int->Bool}
  (rule:∀(i j:Int)(t u:Tok)(s:Shared)(Q:Value->Shared->Prop)(E:Value->Shared->Prop),Q (.bool (g i j)) s->wpAny (model X.prog X.w) X.A (f (.int i t) (.int j u)) Q E s) :
  BB X f (Gv λi j=>.bl (g i j)):=by
 intro Zh s Z H x y v u Q I b a h;obtain⟨i,j,rfl,rfl,q⟩:=h;obtain⟨t,rfl⟩:=b;obtain⟨t',rfl⟩:=a;exact rule i j t t' s _ _ ⟨.bl (g i j),H,I,rfl,q⟩
def ZH4(i j:Int):Prop:=0<=j/\j<=1000000/\i.natAbs<2 ^ 64
theorem Dp:BB X (binaryOp .Add) (Gv λi j=>.int (i+j)):=cZ λ_ _ _ _ _ _ _ q=>add_int q
theorem NG:BB X (binaryOp .Sub) (Gv λi j=>.int (i - j)):=cZ λ_ _ _ _ _ _ _ q=>sub_int q
theorem K6:BB X (binaryOp .Mod) (rI (λ_ j=>0<j) λi j=>.int (i % j)):=RA λi j _ _ _ _ _ a q=>by
 have h1:(0:Int)<j:=a;exact mod_int' (by omega) (by rw[Int.fmod_eq_emod_of_nonneg i (by omega)];exact q)
theorem NB:BB X (binaryOp .Pow) (rI ZH4 λi j=>.int (i ^ j.toNat)):=RA λ_ _ _ _ _ _ _ a q=>pow_int_small a.1 a.2.1 a.2.2 q
end
noncomputable def SR:V->V->Bool
 | .AG,.AG=>true | .AG,.int _=>true | .int _,.AG=>true | .AG,.bl _=>true | .bl _,.AG=>true | .AG,.str _=>true | .str _,.AG=>true
 | .int _,.int _=>true | .bl _,.bl _=>true | .str _,.str _=>true | .Gg _,.Gg _=>true
 | .int _,.str _=>true | .str _,.int _=>true | .bl _,.str _=>true | .str _,.bl _=>true
 |_,_=>false
def Zk:R2:=λx y H Q=>SR x y=true/\Q (.bl (decide (x=y))) H
def fY:R2:=λx y H Q=>SR x y=true/\Q (.bl (!decide (x=y))) H
theorem kZ{i j:Int}:decide (V.int i=V.int j)=(i == j):=by
 rw[NY];simp
theorem eh{i j:Bool}:decide (V.bl i=V.bl j)=(i == j):=by
 rw[NY];simp
theorem cq{i j:Str}:decide (V.str i=V.str j)=(i == j):=by
 rw[NY];simp
theorem iX{i j:Array UInt8}:decide (V.Gg i=V.Gg j)=(i.toList == j.toList):=by
 rw[NY];cases i;cases j;simp
section
variable{a b c:Expr}
theorem Bw{Q:VK}{k k':Bool}(I:Inv X Zh Z H s)(q:Q (.bl k) H)(e:k=k'):EP X Zh Z Q (.bool k') s:=by
 subst e;exact⟨.bl k,H,I,rfl,q⟩
theorem Bs:BB X (compareOp .Eq) Zk:=by
 intro Zh s Z H x y v u Q I b a h;obtain⟨hs,q⟩:=h;cases x with
 |AG=>
  cases b;cases y with
  |AG=>cases a;exact PySem.EqNone.eq_none_none (Bw I q (by simp))
  |bl j=>cases a;exact PySem.EqNone.eq_none_bool (Bw I q (by simp))
  |int j=>obtain⟨t',rfl⟩:=a;exact PySem.EqNone.eq_none_int (Bw I q (by simp))
  |str j=>obtain⟨t',rfl⟩:=a;exact PySem.EqNone.eq_none_str (Bw I q (by simp))
  |_=>exact absurd (show false=true from hs) De
 |bl i=>
  cases b;cases y with
  |AG=>cases a;exact PySem.EqNone.eq_bool_none (Bw I q (by simp))
  |bl j=>cases a;exact eq_bool (Bw I q eh)
  |str j=>obtain⟨t',rfl⟩:=a;exact PySem.EqMixed.eq_bool_str (Bw I q (by simp))
  |_=>exact absurd (show false=true from hs) De
 |int i=>
  obtain⟨t,rfl⟩:=b;cases y with
  |AG=>cases a;exact PySem.EqNone.eq_int_none (Bw I q (by simp))
  |int j=>obtain⟨t',rfl⟩:=a;exact eq_int (Bw I q kZ)
  |str j=>obtain⟨t',rfl⟩:=a;exact PySem.EqMixed.eq_int_str (Bw I q (by simp))
  |_=>exact absurd (show false=true from hs) De
 |str i=>
  obtain⟨t,rfl⟩:=b;cases y with
  |AG=>cases a;exact PySem.EqNone.eq_str_none (Bw I q (by simp))
  |bl j=>cases a;exact PySem.EqMixed.eq_str_bool (Bw I q (by simp))
  |int j=>obtain⟨t',rfl⟩:=a;exact PySem.EqMixed.eq_str_int (Bw I q (by simp))
  |str j=>obtain⟨t',rfl⟩:=a;exact eq_str (Bw I q cq)
  |_=>exact absurd (show false=true from hs) De
 |Gg i=>
  obtain⟨t,rfl⟩:=b;cases y with
  |Gg j=>obtain⟨t',rfl⟩:=a;exact PySem.W.eq_bytes (Bw I q iX)
  |_=>exact absurd (show false=true from hs) De
 |_=>cases y <;> exact absurd (show false=true from hs) De
theorem G6:BB X (compareOp .NotEq) fY:=by
 intro Zh s Z H x y v u Q I b a h;obtain⟨hs,q⟩:=h;cases x with
 |AG=>
  cases b;cases y with
  |AG=>cases a;exact PySem.EqNone.ne_none_none (Bw I q (by simp))
  |bl j=>cases a;exact PySem.EqNone.ne_none_bool (Bw I q (by simp))
  |int j=>obtain⟨t',rfl⟩:=a;exact PySem.EqNone.ne_none_int (Bw I q (by simp))
  |str j=>obtain⟨t',rfl⟩:=a;exact PySem.EqNone.ne_none_str (Bw I q (by simp))
  |_=>exact absurd (show false=true from hs) De
 |bl i=>
  cases b;cases y with
  |AG=>cases a;exact PySem.EqNone.ne_bool_none (Bw I q (by simp))
  |bl j=>cases a;exact ne_bool (Bw I q (xU not eh))
  |str j=>obtain⟨t',rfl⟩:=a;exact PySem.EqMixed.ne_bool_str (Bw I q (by simp))
  |_=>exact absurd (show false=true from hs) De
 |int i=>
  obtain⟨t,rfl⟩:=b;cases y with
  |AG=>cases a;exact PySem.EqNone.ne_int_none (Bw I q (by simp))
  |int j=>obtain⟨t',rfl⟩:=a;exact ne_int (Bw I q (xU not kZ))
  |str j=>obtain⟨t',rfl⟩:=a;exact PySem.EqMixed.ne_int_str (Bw I q (by simp))
  |_=>exact absurd (show false=true from hs) De
 |str i=>
  obtain⟨t,rfl⟩:=b;cases y with
  |AG=>cases a;exact PySem.EqNone.ne_str_none (Bw I q (by simp))
  |bl j=>cases a;exact PySem.EqMixed.ne_str_bool (Bw I q (by simp))
  |int j=>obtain⟨t',rfl⟩:=a;exact PySem.EqMixed.ne_str_int (Bw I q (by simp))
  |str j=>obtain⟨t',rfl⟩:=a;exact ne_str (Bw I q (xU not cq))
  |_=>exact absurd (show false=true from hs) De
 |Gg i=>
  obtain⟨t,rfl⟩:=b;cases y with
  |Gg j=>obtain⟨t',rfl⟩:=a;exact PySem.W.ne_bytes (Bw I q (xU not iX))
  |_=>exact absurd (show false=true from hs) De
 |_=>cases y <;> exact absurd (show false=true from hs) De
theorem Fy:BB X (compareOp .Lt) (Gv λi j=>.bl (decide (i<j))):=RZ λ_ _ _ _ _ _ _ q=>lt_int q
theorem FQ:BB X (compareOp .LtE) (Gv λi j=>.bl (decide (i<=j))):=RZ λ_ _ _ _ _ _ _ q=>le_int q
theorem Qu:BB X (compareOp .Gt) (Gv λi j=>.bl (decide (j<i))):=RZ λ_ _ _ _ _ _ _ q=>gt_int q
theorem JU:BB X (compareOp .GtE) (Gv λi j=>.bl (decide (j<=i))):=RZ λ_ _ _ _ _ _ _ q=>ge_int q
theorem ZEX:BB X (compareOp .In) (λx y H Q=>∃i j,x=.str i/\y=.str j/\Q (.bl (!(Builtin.Str.occurrences j i 0 j.length 1).isEmpty)) H):=by
 intro Zh s Z H x y v u Q I b a h;obtain⟨i,j,rfl,rfl,q⟩:=h;obtain⟨t,rfl⟩:=b;obtain⟨t',rfl⟩:=a;exact in_str (Bw I q rfl)
theorem VN:BB X (compareOp .Is) (λx y H Q=>y=.AG/\Q (.bl (decide (x=.AG))) H):=by
 intro Zh s Z H x y v u Q I a b h;obtain⟨rfl,q⟩:=h;cases b;refine is_none_gen (Bw I q ?_);cases x <;> first
  | (cases a;rfl)
  | (obtain⟨t,rfl⟩:=a;rfl)
theorem qH:BB X (compareOp .IsNot) (λx y H Q=>y=.AG/\Q (.bl (!decide (x=.AG))) H):=by
 intro Zh s Z H x y v u Q I a b h;obtain⟨rfl,q⟩:=h;cases b;refine isnot_none_gen (Bw I q ?_);cases x <;> first
  | (cases a;rfl)
  | (obtain⟨t,rfl⟩:=a;rfl)
theorem jg(b:Expr)(h:op≠.In:=by decide)(h2:op≠.NotIn:=by decide):behindInMarks op b=false:=by
 have c:(op == CmpOp.In)=false:=by cases op <;> first|rfl|exact absurd rfl h
 have a:(op == CmpOp.NotIn)=false:=by cases op <;> first|rfl|exact absurd rfl h2
 cases b <;> simp[behindInMarks,c,a]
def NV(t:TE):TT:=λZ H Q=>t Z H λx H'=>∃k,x=.bl k/\Q k H'
theorem sO{r:R2}(ho:BB X (compareOp op) r)(o:PE X a ta)(n:PE X b tb)(m:behindInMarks op b=false):PT X (.Compare a [op] [b] pos) (NV (By r ta tb)):=by
 intro Zh s Z H Q I h;refine wpAny_isTrue_Compare1 (AY (o Zh s Z H _ I h) λv s1⟨x,H1,I1,g,l⟩=>AY (n Zh s1 Z H1 _ I1 l) λu s2⟨y,H2,I2,f,j⟩=>
  AY (ho Zh s2 Z H2 x y v u _ I2 g f j) λc p⟨z,H3,I3,d,k,e,i⟩=>?_) m
 subst e;cases d;exact xa ⟨H3,I3,i⟩
def OX(r b:R2)(ta tb tc:TE):TE:=λZ H Q=>ta Z H λx H1=>tb Z H1 λy H2=>r x y H2 λz H3=>∃k,z=.bl k/\
 (if k=true then tc Z H3 λa H4=>b y a H4 Q else Q (.bl false) H3)
theorem KH:(sizeLine:Nat)<2 ^ 63:=by rw[ZBi];decide
theorem ky:BB X (binaryOp .Add) (λx y H Q=>∃i j,x=.str i/\y=.str j/\i.length+j.length<=sizeLine/\Q (.str (i++j)) H):=by
 intro Zh s Z H x y v u Q I b a h;obtain⟨i,j,rfl,rfl,c,q⟩:=h;obtain⟨t,rfl⟩:=b;obtain⟨t',rfl⟩:=a;exact add_str (λt' tk=>⟨.str (i++j),H,I.tok _,⟨_,rfl⟩,q⟩) c
theorem vals1{x:V}(r:Vals [x] us):∃u,us=[u]/\RelV x u:=by
 cases r with
 |cons b a=>cases a;exact⟨_,rfl,b⟩
theorem vals2{x:V}(r:Vals [x,y] us):∃u a,us=[u,a]/\RelV x u/\RelV y a:=by
 cases r with
 |cons e d=>
  cases d with
  |cons c b=>cases b;exact⟨_,_,rfl,e,c⟩
theorem ZEP(b:X.calm=true):D1 X (.builtin "max") (λxs H Q=>∃i j,xs=[.int i,.int j]/\Q (.int (if j > i then j else i)) H):=by
 intro Zh s Z H xs us Q I r h;obtain⟨i,j,rfl,q⟩:=h;obtain⟨u,c,rfl,⟨t,rfl⟩,⟨t',rfl⟩⟩:=vals2 r;refine max_two_ints (I.ok.hd b) λh' tk k=>⟨_,H,I.kept k,?_,q⟩
 by_cases a:j > i
 .rw[tU a,tU a];exact⟨_,rfl⟩
 .rw[tJ a,tJ a];exact⟨_,rfl⟩
theorem x9(b:X.calm=true):D1 X (.builtin "min") (λxs H Q=>∃i j,xs=[.int i,.int j]/\Q (.int (if j<i then j else i)) H):=by
 intro Zh s Z H xs us Q I r h;obtain⟨i,j,rfl,q⟩:=h;obtain⟨u,c,rfl,⟨t,rfl⟩,⟨t',rfl⟩⟩:=vals2 r;refine min_two_ints (I.ok.hd b) λh' tk k=>⟨_,H,I.kept k,?_,q⟩
 by_cases a:j<i
 .rw[tU a,tU a];exact⟨_,rfl⟩
 .rw[tJ a,tJ a];exact⟨_,rfl⟩
theorem Og:D1 X (.type "int") (λxs H Q=>(∃i,xs=[.int i]/\Q (.int i) H)∨∃k,xs=[.bl k]/\Q (.int (if k then 1 else 0)) H):=by
 intro Zh s Z H xs us Q I r h;rcases h with⟨i,rfl,q⟩|⟨k,rfl,q⟩
 .obtain⟨u,rfl,t,rfl⟩:=vals1 r;exact call_int_int ⟨.int i,H,I,⟨_,rfl⟩,q⟩
 .obtain⟨u,rfl,a⟩:=vals1 r;cases a;exact call_int_bool ⟨.int (if k then 1 else 0),H,I.tok _,⟨_,rfl⟩,q⟩
end
structure L9 (h:Heap) (x dx C:Addr) (mA:ZKI):Prop where
 obj:h.get? x=some (PySem.W.instObj C dx)
 ns:h.Ns1 dx mA
 ne:dx≠x
theorem ZE0{h:Heap}(n:h.Ns1 dx mA):∃b,h.get? dx=some b/\∀name,PySem.W.lookIn name b=some (mA name):=by
 obtain⟨o,es,ep,ho,hd,f,_,d⟩:=n;refine⟨o,ho,λname=>?_⟩;have e:=d name;unfold nsFind findBy at e;rw[<- Array.find?_toList]at e;unfold PySem.W.lookIn;rw[hd];dsimp only;split
 .rename_i y q;rw[q]at e;exact xU some e
 .rename_i q;rw[q]at e;have a:es.toList.any (·.refKey)=false:=by
   rw[ZIj];intro y c;obtain⟨z,t,Nq⟩:=f y (Array.mem_toList_iff.mp c);simp[DictEntry.refKey,Nq]
  have g:¬ es.toList.any (·.refKey)=true:=by rw[a];exact De
  rw[tJ g];exact xU some e
theorem L9.look{h:Heap}{x:Addr}(I:L9 h x dx C mA):∃a,PySem.W.InstAt h x (PySem.W.instObj C dx) C (some a)/\∀name,PySem.W.lookIn name a=some (mA name):=
 let ⟨a,ho,hl⟩:=ZE0 I.ns
 ⟨a,⟨I.obj,rfl,rfl,ho⟩,hl⟩
section
variable{K:ZKG}{x f:Addr}{v:Value}
theorem get_map{a:Bool}(X:K.In s.heap)(I:L9 s.heap x dx C mA)(hg:PySem.W.plainGet K C name=true)(hh:PySem.W.hasDictIn K C=true)
  (d:PySem.W.findIn K (.ref C) name=some none) (b:mA name=some v) (Pp:PySem.W.handedIn v=true) (h:Q v { s with toks:=s.toks+1 }) :
  wpAny (model prog w) A (getAttr (.ref x) name a) Q E s:=by
 obtain⟨e,J,c⟩:=I.look;exact PySem.W.get_value X J (pC hg).1 (PySem.W.findObj_own hh d rfl (by rw[c,b])) Pp h
theorem tH{Q:Value×List Value->Shared->Prop}(X:K.In s.heap)(I:L9 s.heap x dx C mA)(hg:PySem.W.plainGet K C name=true)
  (e:PySem.W.findIn K (.ref C) name=some (some (.ref f))) (c:PySem.W.isFn K (.ref f)=true) (b:mA name=none) (h:Q (.ref f,[.ref x]) s) :
  wpAny (model prog w) A (getMethod (.ref x) name pl) Q E s:=by
 obtain⟨a,J,d⟩:=I.look;exact PySem.W.method_fn X J (pC hg).1 (pC hg).2 e (beq_iff_eq.mp c) (by show(PySem.W.lookIn name a).map (·.isSome)=some false;rw[d,b];rfl) h
theorem ZE2{Q:Unit->Shared->Prop}(X:K.In s.heap)(I:L9 s.heap x dx C mA)
  (hs:PySem.W.findIn K (.ref C) "__setattr__"=some (some (.builtin "object.__setattr__"))) (hp:PySem.W.plainOver K C=true) (f:PySem.W.takerIn K C name=some none) (hh:PySem.W.hasDictIn K C=true)
  (hw:PySem.Within mA ns) (hsz:ns.length<=sizeLine)
  (h:∀h',L9 h' x dx C (λy=>if y=name then some v else mA y)->Heap.SameBut dx s.heap h'->Q () { s with heap:=h',toks:=s.toks+2 }) :
  wpAny (model prog w) A (setAttr (.ref x) name v) Q E s:=by
 obtain⟨k,J,m⟩:=I.look;refine PySem.W.set_plain X J hs (PySem.W.osa_open (s:={ s with toks:=s.toks+1 }) (r:=none) X J hp f λb=>?_)
 obtain⟨cd,g,Vo⟩:=PySem.W.any_some hh;have hx:s.heap.get? x=some ⟨.ref C,some dx,.plain,#[]⟩:=I.obj;refine pk (qL (pk (pk (wpAny_loadPart hx (pk (PySem.W.Looks.here (s:={ s with toks:=s.toks+1 }) (PySem.W.looks_clsIn X g) ?_))))))
 rw[Vo];refine qL (a:=some dx) (pk (qL (pk ?_)));refine wpAny_nsSet1 (s:={ s with toks:=s.toks+1 }) I.ns λh' Sy DZ=>?_
 obtain⟨l,i,j,e,c,d⟩:=Sy.count (PySem.Within.cons name v hw);refine pk (wpAny_lookBehind e (by rw[c];exact pastItsLine_dict (C7 d (by rw[Ba];omega))) ?_);exact qL (h _ ⟨(DZ.2 _ (BW I.ne)).trans I.obj,Sy,I.ne⟩ DZ)
theorem uC{R:Result->Shared->Prop}{vs:List Value}(X:K.In s.heap)(a:PySem.W.makesIn K C=true)
  (hi:PySem.W.findIn K (.ref C) "__init__"=some (some (.ref f))) (b:PySem.W.typeIn K (.ref f)=some (.type "function"))
  (h:codeAny (model prog w) (A.under (.builtin "type.__call__" ⟨.ref C::vs,kw⟩)) (.call (.ref f) ⟨.ref (s.heap.objs.size+1)::vs,kw⟩) (PySem.W.InitBack (s.heap.objs.size+1) R)
   { s with heap:=(s.heap.push PySem.W.emptyDict).push (PySem.W.instObj C s.heap.objs.size) }) :
  codeAny (model prog w) A (.call (.ref C) ⟨vs,kw⟩) R s:=by
 obtain⟨hh,g,d,t,os⟩:=s;exact PySem.W.make_core (PySem.W.makes_of X a) (PySem.W.looks_findIn X hi) (λself=>PySem.W.bind_fn X self b) (.inl rfl) h
end
noncomputable def Dy(f:Str)(v:V):List (Str×V)->List (Str×V)
 | []=>[(f,v)]
 | (g,x)::r=>if g=f then(g,v)::r else(g,x)::Dy f v r
theorem jB(f g:Str)(v:V):∀fs:List (Str×V),(Dy f v fs).lookup g=if g=f then some v else fs.lookup g
 | []=>by
  show List.lookup g [(f,v)]=_
  by_cases h:g=f
  .have a:(g == f)=true:=beq_iff_eq.mpr h;simp only[List.lookup,a,tU h]
  .have a:(g == f)=false:=beq_eq_false_iff_ne.mpr h;simp only[List.lookup,a,tJ h]
 | (k,x)::r=>by
  have c:=jB f g v r;rw[show Dy f v ((k,x)::r)=(if k=f then(k,v)::r else(k,x)::Dy f v r)from rfl]
  by_cases b:k=f
  .rw[tU b]
   by_cases h:g=k
   .have a:(g == k)=true:=beq_iff_eq.mpr h;simp only[List.lookup,a,tU (h.trans b)]
   .have a:(g == k)=false:=beq_eq_false_iff_ne.mpr h;simp only[List.lookup,a,tJ (λe:g=f=>h (e.trans b.symm))]
  .rw[tJ b]
   by_cases h:g=k
   .have a:(g == k)=true:=beq_iff_eq.mpr h;simp only[List.lookup,a,tJ (λe:g=f=>b (h.symm.trans e))]
   .have a:(g == k)=false:=beq_eq_false_iff_ne.mpr h;simp only[List.lookup,a];exact c
theorem Z3(f:Str)(v:V):∀fs:List (Str×V),f∈(Dy f v fs).map (·.1)/\∀g,g∈fs.map (·.1)->g∈(Dy f v fs).map (·.1)
 | []=>⟨by simp[Dy],λg h=>by simp at h⟩
 | (k,x)::r=>by
  obtain⟨i1,i2⟩:=Z3 f v r;rw[show Dy f v ((k,x)::r)=(if k=f then(k,v)::r else(k,x)::Dy f v r)from rfl]
  by_cases a:k=f
  .rw[tU a];subst a;exact⟨by simp,λg h=>by simpa using h⟩
  .rw[tJ a];refine⟨?_,λg h=>?_⟩
   .rw[Bu];exact D3 _ i1
   .rw[Bu]at h ⊢;rcases List.mem_cons.mp h with e|e
    .exact List.mem_cons.mpr (.inl e)
    .exact D3 _ (i2 g e)
theorem eZ(f:Str)(v:V):∀fs:List (Str×V),(Dy f v fs).length<=fs.length+1
 | []=>by simp[Dy]
 | (k,x)::r=>by
  have b:=eZ f v r;rw[show Dy f v ((k,x)::r)=(if k=f then(k,v)::r else(k,x)::Dy f v r)from rfl]
  by_cases a:k=f
  .rw[tU a,Ba,Ba];omega
  .rw[tJ a,Ba,Ba];omega
theorem Er.some_of{o:Option Value}(r:Er (some v) o):∃u,o=some u/\RelV v u:=by
 cases o with
 |none=>exact(show False from r).elim
 |some u=>exact⟨u,rfl,r⟩
theorem Er.none_of{o:Option Value}(r:Er none o):o=none:=by
 cases o with
 |none=>rfl
 |some u=>exact(show False from r).elim
theorem uv(r:RelV v u):PySem.W.handedIn u=true:=by
 cases v with
 |AG=>cases(show u=Value.none from r);rfl
 |bl b=>cases(show u=Value.bool b from r);rfl
 |int i=>obtain⟨t,e⟩:=(show ∃t,u=Value.int i t from r);cases e;rfl
 |str x=>obtain⟨t,e⟩:=(show ∃t,u=Value.str x t from r);cases e;rfl
 |Gg b=>obtain⟨t,e⟩:=(show ∃t,u=Value.bytes b t from r);cases e;rfl
 |KN b=>obtain⟨t,e⟩:=(show ∃t,u=Value.float b t from r);cases e;rfl
 |ref a=>cases(show u=Value.ref a from r);rfl
 |ty n=>cases(show u=Value.type n from r);rfl
section
variable{P:Program}{h:Heap}{fs fs':List (Str×V)}
theorem TN(AQ:CH P w H h)(e:H a=some (.ins C dx fs)):∃mA,L9 h a dx C mA/\(∀f,Er (fs.lookup f) (mA f))/\PySem.Within mA (fs.map (·.1))/\fs.length<=1000/\H dx=some (.own a):=by
 obtain⟨d,z,ne,ob,mA,n,r,q⟩:=(show CC P w H h a (.ins C dx fs)from AQ a _ e);exact⟨mA,⟨ob,n,ne⟩,r,q,z,d⟩
end
structure C3 (K:ZKG) (C:Addr):Prop where
 pg:PySem.W.plainGet K C Str.empty=true
 hd:PySem.W.hasDictIn K C=true
 po:PySem.W.plainOver K C=true
 sa:PySem.W.findIn K (.ref C) "__setattr__"=some (some (.builtin "object.__setattr__"))
theorem C3.get{K:ZKG}{C:Addr}(c:C3 K C)(f:Str):PySem.W.plainGet K C f=true:=c.pg
def Bg(K:ZKG)(C:Addr)(f:Str):Prop:=PySem.W.findIn K (.ref C) f=some none
theorem Bg.vC{K:ZKG}{f:Str}(n:Bg K C f):PySem.W.takerIn K C f=some none:=by
 unfold PySem.W.takerIn;rw[show PySem.W.findIn K (.ref C) f=some none from n];rfl
structure N6 (K:ZKG) (C:Addr) (f:Str) (v:V) (u:Value):Prop where
 at_:PySem.W.findIn K (.ref C) f=some (some u)
 rel:RelV v u
 get:PySem.W.specialIn K u "__get__"=some none
 cp:PySem.W.copiedNames.contains f=false
structure Meth (K:ZKG) (C:Addr) (m:Str) (f:Addr):Prop where
 at_:PySem.W.findIn K (.ref C) m=some (some (.ref f))
 fn:PySem.W.isFn K (.ref f)=true
 kp:PySem.W.keepIn K (.ref f)=true
section
variable{fs:List (Str×V)}{f:Str}
theorem ZFE{b:Bool}(I:Inv X Zh Z H s)(e:H a=some (.ins C dx fs))(c:C3 X.K C)(n:Bg X.K C f)(l:fs.lookup f=some v)
  (h:∀u s',Inv X Zh Z H s'->RelV v u->Q u s'):wpAny (model X.prog X.w) A (getAttr (.ref a) f b) Q E s:=by
 obtain⟨mA,O,r,_,_,_⟩:=TN I.AQ e;obtain⟨u,hu,d⟩:=Er.some_of (v:=v) (o:=mA f) (by rw[<- l];exact r f);exact get_map I.D2 O (c.get f) c.hd n hu (uv d) (h u _ (I.tok _) d)
theorem gN{g:Addr}{Q:Value×List Value->Shared->Prop}(I:Inv X Zh Z H s)(e:H a=some (.ins C dx fs))(c:C3 X.K C)(k:Meth X.K C m g)(l:fs.lookup m=none)
  (h:Q (.ref g,[.ref a]) s):wpAny (model X.prog X.w) A (getMethod (.ref a) m pl) Q E s:=by
 obtain⟨mA,O,r,_,_,_⟩:=TN I.AQ e;have hn:mA m=none:=Er.none_of (by rw[<- l];exact r m);exact tH I.D2 O (c.get m) k.at_ k.fn hn h
theorem sZ{Q:Unit->Shared->Prop}(I:Inv X Zh Z H s)(e:H a=some (.ins C dx fs))(c:C3 X.K C)(n:Bg X.K C f)(l:fs.length<1000)(i:RelV y u)
  (h:∀s',Inv X Zh Z (upd H a (.ins C dx (Dy f y fs))) s'->Q () s'):wpAny (model X.prog X.w) A (setAttr (.ref a) f u) Q E s:=by
 obtain⟨mA,O,r,wi,_,ho⟩:=TN I.AQ e;have j:(fs.map (·.1)).length<=sizeLine:=by rw[AS,ZBi];omega
 refine ZE2 I.D2 O c.sa c.po n.vC c.hd wi j λh' O' d=>h _ ?_;have hd:∃o,h'.get? dx=some o:=let ⟨o,_,_,e',_⟩:=O'.ns;⟨o,e'⟩;refine I.write (x:=a) (e:=dx) (by rw[e];exact True.intro) (.inr ho) (λb q k z=>(d.2 b k).trans z) hd ?_;refine⟨by rw[Ah O.ne];exact ho,?_,O.ne,O'.obj,_,O'.ns,λg=>?_,λg hg=>?_⟩
 .have:=eZ f y fs;omega
 .show Er ((Dy f y fs).lookup g) (if g=f then some u else mA g)
  rw[jB]
  by_cases q:g=f
  .rw[tU q,tU q];exact i
  .rw[tJ q,tJ q];exact r g
 .by_cases q:g=f
  .rw[q];exact(Z3 f y fs).1
  .refine(Z3 f y fs).2 g (wi g λz=>hg ?_);show(if g=f then some u else mA g)=none
   rw[tJ q];exact z
theorem Inv.made(I:Inv X Zh Z H s):Inv X Zh Z (upd (upd H s.heap.objs.size (.own (s.heap.objs.size+1))) (s.heap.objs.size+1) (.ins C s.heap.objs.size []))
  { s with heap:=(s.heap.push PySem.W.emptyDict).push (PySem.W.instObj C s.heap.objs.size) }:=by
 have c:(s.heap.push PySem.W.emptyDict).get? s.heap.objs.size=some PySem.W.emptyDict:=BZ s.heap rfl;have h:((s.heap.push PySem.W.emptyDict).push (PySem.W.instObj C s.heap.objs.size)).get? (s.heap.objs.size+1)=some (PySem.W.instObj C s.heap.objs.size):=by
  have:=BZ (s.heap.push PySem.W.emptyDict) (o:=PySem.W.instObj C s.heap.objs.size) rfl
  rwa [EH]at this
 have g:(s.heap.push PySem.W.emptyDict).Ns s.heap.objs.size (λ_=>none):=⟨PySem.W.emptyDict,#[],_,c,rfl,(λe f=>absurd f (by simp)),λ_=>rfl⟩;have i:=I.laid (a:=s.heap.objs.size) (o:=.own (s.heap.objs.size+1)) (h':=s.heap.push PySem.W.emptyDict) (t':=s.toks) (λb u q=>BF _ q) (Am _) ⟨_,c⟩;refine i.laid (a:=s.heap.objs.size+1) (o:=.ins C s.heap.objs.size []) (t':=s.toks) (λb u q=>BF _ q) (oh (EH _ _)) ?_;have ne:s.heap.objs.size≠s.heap.objs.size+1:=BP (M7 _);refine⟨by rw[Ah ne,AJ],CF _,ne,h,λ_=>none,(Heap.Ns1.of_empty g).at λo q=>BF _ q,λ_=>True.intro,λy d=>absurd rfl d⟩
theorem ZDF{env:Env}(b:attributeBase e f env (eval e env)=eval e env)
  (h:wpAny (model prog w) A (eval e env) (λo a=>wpAny (model prog w) A (getAttr o f true) Q E a) E s):wpAny (model prog w) A (eval (.Attribute e f pos) env) Q E s:=
 Attribute_any_ h (by rw[arm_eval_Attribute,b])
end
def LP(K:ZKG)(ta:TE)(f:Str):TE:=λZ H Q=>ta Z H λx H1=>∃a C dx fs v,x=.ref a/\H1 a=some (.ins C dx fs)/\C3 K C/\Bg K C f/\fs.lookup f=some v/\Q v H1
def Y8(K:ZKG)(ta tv:TE)(f:Str):TS:=λD Z H=>tv Z H λy H1=>ta Z H1 λx H2=>∃a C dx fs,x=.ref a/\H2 a=some (.ins C dx fs)/\C3 K C/\Bg K C f/\fs.length<1000/\
 D.nx Z (upd H2 a (.ins C dx (Dy f y fs)))
section
variable{o value:Expr}{f:Str}{pos' aW:Pos}{tv:TE}
variable{b:Bool}
inductive FZ (K:ZKG) (H:Hp):V->Value->Prop where
 |AG:FZ K H .AG (.type "NoneType")
 |bl (x:Bool):FZ K H (.bl x) (.type "bool")
 |int (i:Int):FZ K H (.int i) (.type "int")
 |str (x:Str):FZ K H (.str x) (.type "str")
 |KN (x:UInt64):FZ K H (.KN x) (.type "float")
 |lst {a:Addr}{xs:List V}(e:H a=some (.lst xs)):FZ K H (.ref a) (.type "list")
 |Ct {a:Addr}{o:Obj}{xs:List V}(e:H a=some (.Ct o (.lst xs))):FZ K H (.ref a) (.type "list")
 |tup {a:Addr}{xs:List V}(e:H a=some (.tup xs)):FZ K H (.ref a) (.type "tuple")
 |dK {a:Addr}{A6:List (Key×V)}(e:H a=some (.dK A6)):FZ K H (.ref a) (.type "dict")
 |dT {a:Addr}{A6:List (List Key×V)}(e:H a=some (.dT A6)):FZ K H (.ref a) (.type "dict")
 |ins {a C dx:Addr}{fs:List (Str×V)}(e:H a=some (.ins C dx fs)) (cl:C3 K C) (ha:PySem.W.findIn K (.ref C) "__class__"=some (some (.builtin "object.__class__")))
   (hn:PySem.W.specialIn K (.builtin "object.__class__") "__get__"=some (some (.builtin "getset_descriptor.__get__"))) (JY:PySem.W.takesIn K (.builtin "object.__class__")=some true)
   (hm:PySem.W.mroIn K C (.type "object")=some true):FZ K H (.ref a) (.ref C)
theorem rS{x:V}{t:Value}(I:Inv X Zh Z H s)(d:RelV x u)(ty:FZ X.K H x t)(e:PySem.W.kitOne X.K t c=some b)(h:∀tk,Q (.bool b) { s with toks:=tk }):
  wpAny (model X.prog X.w) A (call (.builtin "isinstance") [u,c]) Q E s:=by
 cases ty with
 |AG=>cases(show u=Value.none from d);exact J7 PySem.W.kitx_none I.D2 True.intro e (λz=>nomatch z) h
 |bl y=>cases(show u=Value.bool y from d);exact J7 PySem.W.kitx_bool I.D2 True.intro e (λz=>nomatch z) h
 |int i=>obtain⟨t,q⟩:=(show ∃t,u=Value.int i t from d);cases q;exact J7 PySem.W.kitx_int I.D2 True.intro e (λz=>nomatch z) h
 |str y=>obtain⟨t,q⟩:=(show ∃t,u=Value.str y t from d);cases q;exact J7 PySem.W.kitx_str I.D2 True.intro e (λz=>nomatch z) h
 |KN y=>obtain⟨t,q⟩:=(show ∃t,u=Value.float y t from d);cases q;exact J7 PySem.W.kitx_float I.D2 True.intro e (λz=>nomatch z) h
 |@lst a xs ea=>
  cases(show u=Value.ref a from d);obtain⟨_,_,n,_,h1⟩:=(show CC X.prog X.w H s.heap a (.lst xs)from I.AQ a _ ea);exact J7 ZJL I.D2 ⟨_,h1,rfl⟩ e (λz=>nomatch z) h
 |@Ct a ob xs ea=>
  cases(show u=Value.ref a from d);obtain⟨_,_,_,n,_,h1⟩:=(show CC X.prog X.w H s.heap a (.Ct ob (.lst xs))from I.AQ a _ ea);exact J7 ZJL I.D2 ⟨_,h1,rfl⟩ e (λz=>nomatch z) h
 |@tup a xs ea=>
  cases(show u=Value.ref a from d);obtain⟨_,_,_,p⟩:=(show CC X.prog X.w H s.heap a (.tup xs)from I.AQ a _ ea);obtain⟨o,h1,h2,_⟩:=p.1;exact J7 PySem.W.kitx_tuple I.D2 ⟨o,h1,h2⟩ e (λz=>nomatch z) h
 |@dK a A6 ea=>
  cases(show u=Value.ref a from d);obtain⟨_,_,vs,_,p⟩:=(show CC X.prog X.w H s.heap a (.dK A6)from I.AQ a _ ea);obtain⟨o,es,ep,h1,h2,_⟩:=p;exact J7 ZJK I.D2 ⟨o,h1,h2.1⟩ e (λz=>nomatch z) h
 |@dT a A6 ea=>
  cases(show u=Value.ref a from d);obtain⟨_,_,xs,_,o,es,ep,h1,h2,_⟩:=(show CC X.prog X.w H s.heap a (.dT A6)from I.AQ a _ ea);exact J7 ZJK I.D2 ⟨o,h1,h2.1⟩ e (λz=>nomatch z) h
 |@ins a C dx fs ea cl g hn JY f=>
  cases(show u=Value.ref a from d);obtain⟨mA,O,_⟩:=TN I.AQ ea;obtain⟨j,J,_⟩:=O.look;exact J7 (PySem.W.kitx_own (cl.get _) cl.hd g hn JY f) I.D2 J e (λz=>nomatch z) h
end
structure Bq (k:Nat) (A:Around):Prop where
 hd:A.handled=none
 dp:A.depth+3 * k+5<recursionLimit
 un:A.units+16 * k+200<cLine
theorem Bq.mono{k:Nat}(r:Bq k A)(h:j<=k):Bq j A:=⟨r.hd,by have:=r.dp;omega,by have:=r.un;omega⟩
theorem Bq.deeper{k:Nat}(r:Bq (k+1) A)(env:Env):Bq k (A.deeper env):=
 ⟨r.hd,by have:=r.dp;show A.depth+1+3 * k+5<_;omega,by have:=r.un;show A.units+3+16 * k+200<_;omega⟩
theorem ZFs:(A.under (.builtin "type.__call__" ⟨.ref C::us,kw⟩)).depth=A.depth+1:=by
 first|rfl|simp[Around.under,Code.weight,Code.isCreation,Code.isGuard,Code.isCaller,Code.frames,Code.isFrame,guardIds]
theorem wg:(A.under (.builtin "type.__call__" ⟨.ref C::us,kw⟩)).units=A.units+1:=by
 first|rfl|simp[Around.under,Code.cUnits,Code.frames,Code.isFrame]
theorem Bq.make{k:Nat}(r:Bq (k+1) A)(C:Addr)(us:List Value)(kw:List (Str×Value)):Bq k (A.under (.builtin "type.__call__" ⟨.ref C::us,kw⟩)):=
 ⟨r.hd,by have:=r.dp;rw[ZFs];omega,by have:=r.un;rw[wg];omega⟩
theorem Bq.depth{k:Nat}(r:Bq k A):A.depth<recursionLimit:=by have:=r.dp;omega
theorem Bq.units{k:Nat}(r:Bq k A):A.units+64<cLine:=by have:=r.un;omega
theorem Bq.Fo{k:Nat}(r:Bq k A):A.units<cLine:=by have:=r.un;omega
def B4:TA:=λ_ H Q=>Q [] H
def AX(ta:TE)(tr:TA):TA:=λZ H Q=>ta Z H λx H1=>tr Z H1 λxs H2=>Q (x::xs) H2
section
variable{t:TA}
theorem ZGw(g:PE X e te)(f:PA X es t)(hs:starEach (e::es) X.env=(false,eval e X.env)::starEach es X.env:=by rfl):PA X (e::es) (AX te t):=by
 intro pos Zh s Z H Q I h;rw[hs];show wpAny _ _ (spliced ((false,eval e X.env)::backTo pos (starEach es X.env))) _ _ s;refine oI (AY (g Zh s Z H _ I h) λu s1 OM=>?_);obtain⟨x,H1,I1,b,d⟩:=OM;exact AY (f pos Zh s1 Z H1 _ I1 d) λus s2 AO=>by obtain⟨xs,H2,I2,a,c⟩:=AO;exact⟨x::xs,H2,I2,.cons b a,c⟩
def QC(t:TA):TE:=λZ H Q=>t Z H λxs H1=>xs.length<=sizeLine/\∀p,H1 p=none->Q (.ref p) (upd H1 p (.tup xs))
def Sr(t:TA):TE:=λZ H Q=>t Z H λxs H1=>xs.length<=sizeLine/\∀p,H1 p=none->Q (.ref p) (upd H1 p (.lst xs))
theorem ZAp{x1}(h:PA X es t):PE X (.Tuple es x1 pos) (QC t):=by
 intro Zh s Z H Q I c;refine wpAny_Tuple_spliced (AY (h pos Zh s Z H _ I c) λus s1⟨xs,H1,I1,r,z,q⟩=>⟨by rw[<- r.length];exact z,?_⟩);have d:H1 s1.heap.objs.size=none:=I1.AQ.fresh (Am _);refine⟨.ref s1.heap.objs.size,upd H1 s1.heap.objs.size (.tup xs),I1.laid (t':=s1.toks) (λb u e=>BF _ e) (Am _) ?_,rfl,q _ d⟩;exact⟨z,us,r,⟨_,BZ _ rfl,rfl,_,rfl⟩,λTw a=>by rw[BZ _ rfl]at a;cases a;rfl⟩
theorem ZEN(h:PA X es t):PE X (.List es pos) (Sr t):=by
 intro Zh s Z H Q I a;refine wpAny_List_spliced (AY (h pos Zh s Z H _ I a) λus s1⟨xs,H1,I1,r,z,q⟩=>⟨by rw[<- r.length];exact z,?_⟩);have c:H1 s1.heap.objs.size=none:=I1.AQ.fresh (Am _);refine⟨.ref s1.heap.objs.size,upd H1 s1.heap.objs.size (.lst xs),I1.laid (t':=s1.toks) (λb u e=>BF _ e) (Am _) ?_,rfl,q _ c⟩;exact⟨z,us,0,r,BZ _ rfl⟩
end
abbrev Sp:=List V->Hp->VK->XK->Prop
abbrev Gy:=List Env->Hp->Shared->XK->Value->Shared->Prop
variable{CX:Gy}
structure L6 (P:Program) (w:World) (K:ZKG) (mg:ZKI) (Zy:Heap) (A:Around) (outer:List Env) (s:Shared) (H:Hp):Prop where
 frames:A.frames=some outer
 mod:Mod K mg Zy
 bs:∀b o,Zy.get? b=some o->s.heap.get? b=some o/\H b=none
 Jf:Zy.objs.size<=s.heap.objs.size
 HF:s.heap.FunFrames Zy outer
 LK:∀b∈Hk outer,H b=none
 AQ:CH P w H s.heap
 bare:AllBare s.gens
def CE(outer:List Env)(P:Program)(w:World)(H:Hp)(s:Shared)(Q:VK)(u:Value)(s':Shared):Prop:=
 ∃v H',s'.os=s.os/\AllBare s'.gens/\Un (Hk outer) [] H H' s.heap s'.heap/\CH P w H' s'.heap/\RelV v u/\Q v H'
def CR(CX:Gy)(outer:List Env)(P:Program)(w:World)(H:Hp)(s:Shared)(Q:VK)(E:XK)(r:Result)(s':Shared):Prop:=
 match r with
 | .ok (.ret u)=>CE outer P w H s Q u s'
 | .ok _=>False
 | .error e=>CX outer H s E e s'
structure Dm (P:Program) (w:World) (K:ZKG) (mg:ZKI) (Zy:Heap) (CX:Gy) (k:Nat) (f:Addr) (fd:FuncData) (ps:List Str) (sp:Sp):Prop where
 len:∀vs H Q E,sp vs H Q E->vs.length=ps.length
 run:∀(A:Around)(outer:List Env)(s:Shared)(H:Hp)(args:Args)(us:List Value)(vs:List V)(Q:VK)(E:XK),Bq k A->L6 P w K mg Zy A outer s H->BindsTo s fd args (ps.zip us)->Vals vs us->sp vs H Q E->
  codeAny (model P w) A (.call (.ref f) args) (CR CX outer P w H s Q E) s
theorem Dm.mono{P:Program}{K:ZKG}{k:Nat}{f:Addr}{sp:Sp}(F:Dm P w K mg Zy CX j f fd ps sp)(h:j<=k):
  Dm P w K mg Zy CX k f fd ps sp:=⟨F.len,λA outer s H args us vs Q E a=>F.run A outer s H args us vs Q E (a.mono h)⟩
theorem L6.make{P:Program}{K:ZKG}(e:L6 P w K mg Zy A outer s H)(C:Addr)(us:List Value)(kw:List (Str×Value)):
  L6 P w K mg Zy (A.under (.builtin "type.__call__" ⟨.ref C::us,kw⟩)) outer s H:=⟨by first|exact e.frames|(simpa[Around.under,Code.envs,Code.isFrame,pushEnvs]using e.frames),e.mod,e.bs,e.Jf,e.HF,e.LK,e.AQ,e.bare⟩
theorem Inv.nW(I:Inv X Zh Z H s):L6 X.prog X.w X.K X.mg X.base X.A X.stack s H:=
 ⟨I.ok.frames,I.ok.mod,I.bs,C7 I.ok.Jf I.sz,I.stack,I.kz,I.AQ,I.bare⟩
theorem Inv.after{Q:VK}(I:Inv X Zh Z H s)(h:CE X.stack X.prog X.w H s Q u s'):EP X Zh Z Q u s':=by
 obtain⟨v,H',os,bare,un,AQ,r,q⟩:=h;obtain⟨hh,g,d,t,Nv⟩:=s';obtain rfl:Nv=s.os:=os;exact⟨v,H',I.call (h':=hh) (g':=g) (d':=d) (t':=t) (ch:=[]) un AQ bare (λb z=>absurd z (by simp)),r,q⟩
def C0(sp:Sp)(Dj:List V)(E:XK)(t:TA):TE:=λZ H Q=>t Z H λvs H1=>sp (vs++Dj) H1 Q E
def JB(C:Addr)(m:Str)(sp:Sp)(Dj:List V)(E:XK)(ta:TE)(t:TA):TE:=λZ H Q=>ta Z H λx H1=>∃a dx fs,x=.ref a/\H1 a=some (.ins C dx fs)/\fs.lookup m=none/\
 t Z H1 λvs H2=>sp (x::(vs++Dj)) H2 Q E
def WT(C:Addr)(sp:Sp)(Dj:List V)(E:XK)(t:TA):TE:=λZ H Q=>t Z H λvs H1=>∀x dx,H1 x=none->H1 dx=none->dx≠x->
 sp (.ref x::(vs++Dj)) (upd (upd H1 dx (.own x)) x (.ins C dx [])) (λv H2=>v=.AG/\Q (.ref x) H2) E
def Binds(K:ZKG)(fd:FuncData)(ps:List Str)(ds:List Value):Prop:=
 ∀(s:Shared)(us:List Value),K.In s.heap->(us++ds).length=ps.length->BindsTo s fd ⟨us,[]⟩ (ps.zip (us++ds))
theorem Binds.all{K:ZKG}(h:∀us:List Value,us.length=ps.length->bindArgs fd ⟨us,[]⟩=pure (ps.zip us)):Binds K fd ps []:=λs us _ a=>by
 rw[FN]at a ⊢;exact .of_eq (h us a)
def Passes(CX:Gy)(X:Cx)(E:XK):Prop:=∀(Zh:ZKH)(Z:St)(H:Hp)(s:Shared)(e:Value)(s':Shared),Inv X Zh Z H s->CX X.stack H s E e s'->X.xe e s'
section
variable{k:Nat}{f:Addr}{sp:Sp}{E:XK}{p apos:Pos}{o:Expr}{t:TA}
theorem Yb{Q:VK}(F:Dm X.prog X.w X.K X.mg X.base CX k f fd ps sp)(c:Bq k X.A)(g:Binds X.K fd ps ds)(hd:Vals Dj ds)(hx:Passes CX X E)
  (I:Inv X Zh Z H s) (r:Vals vs us) (h:sp (vs++Dj) H Q E):wpAny (model X.prog X.w) X.A (call (.ref f) us) (EP X Zh Z Q) X.xe s:=by
 have b:Vals (vs++Dj) (us++ds):=r.append hd;have d:(us++ds).length=ps.length:=by rw[<- b.length];exact F.len _ _ _ _ h
 refine wpAny_call (ZB1 (F.run X.A X.stack s H ⟨us,[]⟩ (us++ds) (vs++Dj) Q E c I.nW (g s us I.D2 d) b h) λr s' a=>?_);cases r with
 |error e=>exact hx Zh Z H s e s' I a
 |ok i=>
  cases i with
  |ret u=>exact I.after a
  |next=>exact False.elim a
  |brk=>exact False.elim a
  |cont=>exact False.elim a
theorem pY(F:Dm X.prog X.w X.K X.mg X.base CX k f fd ps sp)(a:Bq k X.A)(hg:Gl X x)(b:X.mg x=some (.ref f))(c:PySem.W.keepIn X.K (.ref f)=true)(d:Binds X.K fd ps ds)(hd:Vals Dj ds)(hx:Passes CX X E)
  (g:PA X (e::es) t) (DO:(x == ("__debug__":Str))=false:=by decide) (he:starEach (e::es) X.env=(false,eval e X.env)::starEach es X.env:=by rfl) (Bh:(backTo pos (starEach es X.env)).any (·.1)=false:=by rfl) :
  PE X (.Call (.Name x p) (e::es) [] pos) (C0 sp Dj E t):=by
 intro Zh s Z H Q I h;refine yi (aY I hg b ?_ DO);refine pB (h₀:=X.base) I.ok.mod.OR c (AY (g pos Zh s Z H _ I h) λus s1⟨vs,H1,I1,r,q⟩=>⟨I1.D2,?_⟩) he Bh;exact Yb F a d hd hx I1 r q
theorem ZC8(j:PE X o ta)(c:C3 X.K C)(b:Meth X.K C m f)(F:Dm X.prog X.w X.K X.mg X.base CX k f fd ps sp)(i:Bq k X.A)(n:Binds X.K fd ps ds)(hd:Vals Dj ds)(hx:Passes CX X E)(p:PA X (e::es) t)
  (CV:starEach (e::es) X.env=(false,eval e X.env)::starEach es X.env:=by rfl) (Bh:(backTo pos (starEach es X.env)).any (·.1)=false:=by rfl)
  (ht:eval (.Call (.Attribute o m apos) (e::es) [] pos) X.env=(do
   let ov <- eval o X.env
   standAt apos.atName
   let (f,first) <- holding [ov] (getMethod ov m pl)
   callWith pos f first (backTo pos (starEach (e::es) X.env)) (backToKw pos (keywordEach [] X.env))):=by rfl) :
  PE X (.Call (.Attribute o m apos) (e::es) [] pos) (JB C m sp Dj E ta t):=by
 intro Zh s Z H Q I h;refine ZJM (pl:=pl) (AY (j Zh s Z H _ I h) λu s1⟨x,H1,I1,d,a,dx,fs,ex,ea,l,q⟩=>?_) ht;subst ex;obtain rfl:u=Value.ref a:=d;refine gN I1 ea c b l ?_;refine pB (first:=[.ref a]) (h₀:=X.base) I.ok.mod.OR b.kp (AY (p pos Zh s1 Z H1 _ I1 q) λus s2⟨vs,H2,I2,r,g⟩=>⟨I2.D2,?_⟩) CV Bh
 exact Yb (us:=.ref a::us) (vs:=.ref a::vs) F i n hd hx I2 (.cons rfl r) g
theorem u3(i:PE X o ta)(c:C3 X.K C)(b:Meth X.K C m f)(F:Dm X.prog X.w X.K X.mg X.base CX k f fd ps sp)(g:Bq k X.A)(j:Binds X.K fd ps ds)(hd:Vals Dj ds)(hx:Passes CX X E)
  (e:eval (.Call (.Attribute o m apos) [] [] pos) X.env=(do
   let ov <- eval o X.env
   standAt apos.atName
   let (f,first) <- holding [ov] (getMethod ov m pl)
   callWith pos f first (backTo pos (starEach [] X.env)) (backToKw pos (keywordEach [] X.env))):=by rfl) :
  PE X (.Call (.Attribute o m apos) [] [] pos) (JB C m sp Dj E ta B4):=by
 intro Zh s Z H Q I h;refine ZJM (pl:=pl) (AY (i Zh s Z H _ I h) λu s1⟨x,H1,I1,d,a,dx,fs,ex,ea,l,q⟩=>?_) e;subst ex;obtain rfl:u=Value.ref a:=d;refine gN I1 ea c b l ?_;exact PySem.W.callWith_K0 (first:=[.ref a]) I1.D2 b.kp (Yb (us:=[.ref a]) (vs:=[.ref a]) F g j hd hx I1 (.cons rfl .nil) q)
structure Mk (K:ZKG) (C f:Addr):Prop where
 makes:PySem.W.makesIn K C=true
 init:PySem.W.findIn K (.ref C) "__init__"=some (some (.ref f))
 fn:PySem.W.isFn K (.ref f)=true
 kp:PySem.W.keepIn K (.ref C)=true
theorem xR{Q:VK}(M:Mk X.K C f)(F:Dm X.prog X.w X.K X.mg X.base CX k f fd ps sp)(i:Bq (k+1) X.A)(l:Binds X.K fd ps ds)(hd:Vals Dj ds)
  (hx:Passes CX X E) (I:Inv X Zh Z H s) (r:Vals vs us)
  (h:∀x dx,H x=none->H dx=none->dx≠x->sp (.ref x::(vs++Dj)) (upd (upd H dx (.own x)) x (.ins C dx [])) (λv H2=>v=.AG/\Q (.ref x) H2) E) :
  wpAny (model X.prog X.w) X.A (call (.ref C) us) (EP X Zh Z Q) X.xe s:=by
 have c:=h (s.heap.objs.size+1) s.heap.objs.size (I.AQ.fresh (Ey _)) (I.AQ.fresh (Am _)) (BP (M7 _));have a:=Inv.made (C:=C) I;have b:Vals (V.ref (s.heap.objs.size+1)::(vs++Dj)) (Value.ref (s.heap.objs.size+1)::(us++ds)):=.cons rfl (r.append hd);have j:(Value.ref (s.heap.objs.size+1)::us++ds).length=ps.length:=by
  have e:=b.length;rw[F.len _ _ _ _ c]at e;exact e.symm
 refine wpAny_call (uC (f:=f) I.D2 M.makes M.init (beq_iff_eq.mp M.fn) (ZB1 (F.run _ X.stack _ _ ⟨Value.ref (s.heap.objs.size+1)::us,[]⟩ (Value.ref (s.heap.objs.size+1)::(us++ds)) _ _ E (i.make C us [])
  (a.nW.make C us []) (l _ (Value.ref (s.heap.objs.size+1)::us) a.D2 j) b c) λr s' JX=>?_))
 cases r with
 |error e=>exact hx Zh Z _ _ e s' a JX
 |ok m=>
  cases m with
  |ret u=>
   obtain⟨v,H',I3,d,n,g⟩:=a.after JX;subst n;exact⟨d,⟨V.ref (s.heap.objs.size+1),H',I3,rfl,g⟩⟩
  |next=>exact False.elim JX
  |brk=>exact False.elim JX
  |cont=>exact False.elim JX
theorem rW(M:Mk X.K C f)(F:Dm X.prog X.w X.K X.mg X.base CX k f fd ps sp)(a:Bq (k+1) X.A)(hg:Gl X x)(b:X.mg x=some (.ref C))(c:Binds X.K fd ps ds)(hd:Vals Dj ds)(hx:Passes CX X E)
  (d:PA X (e::es) t) (DO:(x == ("__debug__":Str))=false:=by decide) (he:starEach (e::es) X.env=(false,eval e X.env)::starEach es X.env:=by rfl) (Bh:(backTo pos (starEach es X.env)).any (·.1)=false:=by rfl) :
  PE X (.Call (.Name x p) (e::es) [] pos) (WT C sp Dj E t):=by
 intro Zh s Z H Q I h;refine yi (aY I hg b ?_ DO);refine pB (h₀:=X.base) I.ok.mod.OR M.kp (AY (d pos Zh s Z H _ I h) λus s1⟨vs,H1,I1,r,q⟩=>⟨I1.D2,?_⟩) he Bh;exact xR M F a c hd hx I1 r q
variable{kws:List Keyword}{tk:TA}{nm:Option Str}{g:List Value->List Value->List Value}{gV:List V->List V->List V}
end
structure Ai (N P:List Str) (sc:Scope):Prop where
 kind:sc.kind=.function
 co:sc.isCoroutine=false
 gen:sc.isGenerator=false
 nd:N.Nodup
 pre:N.take P.length=P
 par:∀x∈P,sc.names.lookup x=some .local∨sc.names.lookup x=some .cell
 ZGu:∀y∈sc.names,y.2≠.free
theorem fv{a:Str->Option NameKind}{x:Str}:∀{binds:List (Str×Value)}{m:ZKI},(∀v,(x,v)∉binds)->bindL a binds m x=m x
 | [],_,_=>rfl
 | (n,v)::r,m,h=>by
  unfold bindL;rw[fv λw hw=>h w (D3 _ hw)];split
  .have:x≠n:=by rintro rfl;exact h v Cp
   simp[this]
  .rfl
theorem e9{a:Str->Option NameKind}{x:Str}:∀{binds:List (Str×Value)}{m:ZKI},(∀v,(x,v)∉binds)->bindC a binds m x=m x
 | [],_,_=>rfl
 | (n,v)::r,m,h=>by
  unfold bindC;rw[e9 λw hw=>h w (D3 _ hw)];split
  .rfl
  .have:x≠n:=by rintro rfl;exact h v Cp
   simp[this]
theorem gk{a:Str->Option NameKind}{x:Str}{v:Value}:∀{P:List Str}{vs:List Value}{i:Nat}{m:ZKI},P.Nodup->P[i]?=some x->vs[i]?=some v->a x=some .local->
  bindL a (P.zip vs) m x=some v
 | [],_,_,_,_,h,_,_=>by simp at h
 |_::_,[],_,_,_,_,h,_=>by simp at h
 |p::P,w::vs,0,m,nd,h1,h2,hk=>by
  simp at h1 h2;subst h1;subst h2;show bindL a ((p,w)::P.zip vs) m p=_;unfold bindL;rw[fv λv b=>(List.nodup_cons.mp nd).1 (bQ b).1,tU hk];simp
 |p::P,w::vs,i+1,m,nd,h1,h2,hk=>by
  show bindL a ((p,w)::P.zip vs) m x=_;unfold bindL;exact gk (i:=i) (List.nodup_cons.mp nd).2 (by simpa using h1) (by simpa using h2) hk
theorem bo{a:Str->Option NameKind}{x:Str}{v:Value}:∀{P:List Str}{vs:List Value}{i:Nat}{m:ZKI},P.Nodup->P[i]?=some x->vs[i]?=some v->a x≠some .local->
  bindC a (P.zip vs) m x=some v
 | [],_,_,_,_,h,_,_=>by simp at h
 |_::_,[],_,_,_,_,h,_=>by simp at h
 |p::P,w::vs,0,m,nd,h1,h2,hk=>by
  simp at h1 h2;subst h1;subst h2;show bindC a ((p,w)::P.zip vs) m p=_;unfold bindC;rw[e9 λv b=>(List.nodup_cons.mp nd).1 (bQ b).1,tJ hk];simp
 |p::P,w::vs,i+1,m,nd,h1,h2,hk=>by
  show bindC a ((p,w)::P.zip vs) m x=_;unfold bindC;exact bo (i:=i) (List.nodup_cons.mp nd).2 (by simpa using h1) (by simpa using h2) hk
def start(N:List Str)(vs:List V):St:=vs.map some++List.replicate (N.length - vs.length) none
noncomputable def LM(CX:Gy)(P:Program)(w:World)(K:ZKG)(mg:ZKI)(Zy:Heap)(N:List Str)(qual:Str)(scope:Scope)(f:Addr)(cd:Value)(A:Around)(outer:List Env)(s:Shared)(H:Hp)(E:XK):Cx where
 prog:=P
 w:=w
 K:=K
 mg:=mg
 base:=Zy
 A:=A.deeper (envOfC qual scope s.heap.objs.size f cd)
 N:=N
 s₀:=s
 H₀:=H
 env:=envOfC qual scope s.heap.objs.size f cd
 outer:=outer
 stack:=envOfC qual scope s.heap.objs.size f cd::outer
 ex:=[]
 calm:=true
 fn:=λ_=>true
 pn:=[]
 xe:=λe s'=>wpAny (model P w) (A.deeper (envOfC qual scope s.heap.objs.size f cd)) (leaving (envOfC qual scope s.heap.objs.size f cd) e) (λ_ Ky=>CX outer H s E e Ky) (λa Ky=>CX outer H s E a Ky) s'
theorem m7(h:sc.names.lookup x=some .cell):∃c,(cellsFrom n sc.names []).lookup x=some c:=by
 have q:=ZJJ sc.names n [] (.inl h);exact Option.isSome_iff_exists.mp q
theorem ZDW{P:Program}{K:ZKG}{f:Addr}{s1:Shared}{E:XK}
  (S:Ai N ps scope) (hd:A.handled=none) (e0:L6 P w K mg Zy A outer s H) (t:vs.length=ps.length) (r:Vals vs us)
  (x:InCallC s s.heap.objs.size (bindL (envOfC qual scope s.heap.objs.size f cd).kindOf (ps.zip us) λ_=>none) (cellsFrom (s.heap.objs.size+1) scope.names []) (bindC (envOfC qual scope s.heap.objs.size f cd).kindOf (ps.zip us) λ_=>none) s1) :
  Inv (LM CX P w K mg Zy N qual scope f cd A outer s H E) [] (start N vs) H s1:=by
 have C:ps.length<=N.length:=by have:=xU List.length S.pre;rw[Bk]at this;omega
 obtain⟨h1,tk,rfl,j⟩:=x.done;have g:∀b:Addr,b∉(LM CX P w K mg Zy N qual scope f cd A outer s H E).ex:=λb z=>absurd (show b∈([]:List Addr)from z) (by simp);refine⟨⟨e0.mod,S.kind,rfl,rfl,Am _,λy z c h1 h2=>?_,λy d=>?_,λy c _ h=>?_,λ_=>hd,Around.frames_deeper e0.frames,.inr ⟨rfl,rfl⟩,λb z=>absurd z (g b),e0.bs,e0.Jf,λb _ _=>g b,λb z=>absurd z (g b),e0.HF,e0.LK⟩,
  rfl,e0.bare,Un.kept j,⟨_,x.toInCall.ns,λi y v h1 h2 B=>?_⟩,λy c h=>⟨_,x.cell y c h⟩,e0.AQ.fresh (Am _),λy c h=>?_,λp hp=>absurd (show p∈([]:ZKH)from hp) (by simp),e0.AQ.kept j,?_⟩
 .exact name_of_addr x.apart (M8 h1) (M8 h2)
 .have d:scope.names.lookup y=some .cell∨scope.names.lookup y=some .free:=d;rcases d with d|d
  .exact m7 d
  .exact absurd rfl (S.ZGu _ (M8 d))
 .exact J5 (x.above y c (M8 h))
 .have hi:i<vs.length:=by
   unfold start at h2
   by_cases hi:i<vs.length
   .exact hi
   .rw[Ji (by simpa using hi)]at h2
    rw[oV]at h2;split at h2 <;> cases h2
  have o:vs[i]?=some v:=by
   unfold start at h2;rw[HK (by simpa using hi),B1]at h2
   cases e:vs[i]? with
   |none=>rw[e]at h2;cases h2
   |some a=>rw[e]at h2;cases h2;rfl
  obtain⟨u,hu,m⟩:=r.get o;have hp:ps[i]?=some y:=by
   rw[<- S.pre,oW (by omega)];exact h1
  have l:ps.Nodup:=by rw[<- S.pre];exact S.nd.sublist (ZJ5 _ _)
  refine⟨u,m,?_⟩;rcases S.par y (DR hp)with k|k
  .exact .inl ⟨k,gk l hp hu k⟩
  .obtain⟨c,e⟩:=m7 (n:=s.heap.objs.size+1) k;refine .inr ⟨.inl k,c,e,?_⟩;have q:=x.cell y c e;rw[bo l hp hu (by show scope.names.lookup y≠_;rw[k];decide)]at q;exact q
 .exact e0.AQ.fresh (J5 (x.above y c (M8 h)))
 .unfold start;show _=N.length;rw[BE,AS,oZ];omega
theorem ZH6{P:Program}{K:ZKG}{k:Nat}{f:Addr}{a:Arguments}{body:List Stmt}{l kV d j AV ct C:Value}{m B:Option Addr}
  {Hh:Array (Option Value)}{sp:Sp}(D:K.lookup f=some ⟨C,B,.func (PySem.W.fnOf name qual a body scope l kV d j m AV ct),Hh⟩) (Hi:PySem.W.codeIn K AV qual=true) (S:Ai N ps scope)
  (len:∀vs H Q E,sp vs H Q E->vs.length=ps.length)
  (Nr:∀(A:Around)(outer:List Env)(s:Shared)(H:Hp)(vs:List V)(Q:VK)(E:XK),Bq k (A.deeper (envOfC qual scope s.heap.objs.size f AV))->sp vs H Q E->
   ∃t,En (LM CX P w K mg Zy N qual scope f AV A outer s H E) body t/\t { nx:=λ_ H'=>Q .AG H',rt:=Q } (start N vs) H) :
  Dm P w K mg Zy CX (k+1) f (PySem.W.fnOf name qual a body scope l kV d j m AV ct) ps sp:=by
 refine⟨len,λA outer s H args us vs Q E i e0 R r GR=>?_⟩;have M:=len _ _ _ _ GR;have p:K.In s.heap:=e0.mod.OR.keeps λb o e=>(e0.bs b o e).1;have h:s.heap.NoLimit:=e0.mod.nolimit.keeps λb o e=>(e0.bs b o e).1;have z:∀y∈ps.zip us,scope.names.lookup y.1=some .local∨(scope.names.lookup y.1=some .cell/\((cellsFrom (s.heap.objs.size+1) scope.names []).lookup y.1).isSome=true):=λ⟨n,v⟩F=>by
  rcases S.par n (bQ F).1 with q|q
  .exact .inl q
  .exact .inr ⟨q,ZJJ _ _ _ (.inl q)⟩
 refine codeAny_call_function i.depth (p _ _ D) rfl S.co S.gen rfl (PySem.W.codeRec_of p Hi) (R _ _ _ _ ?_);refine wpAny_newFunctionEnv_cells S.kind z λenv O s1 x=>?_;subst O;refine⟨h.keeps x.toInCall.keep,codeAny_func ?_⟩;obtain⟨t,G,L⟩:=Nr A outer s H vs Q E (i.deeper _) GR;have I:Inv (LM CX P w K mg Zy N qual scope f AV A outer s H E) [] (start N vs) H s1:=ZDW S i.hd e0 M r x;refine v9 (G [] s1 (start N vs) H _ I L) (λT s' hs=>?_) λe s' hs=>hs;have c:∀{σ':St}{H':Hp}{v:V}{u:Value},Inv (LM CX P w K mg Zy N qual scope f AV A outer s H E) [] σ' H' s'->RelV v u->Q v H'->CE outer P w H s Q u s':=
  λ{σ' H' v u}J g q=>⟨v,H',J.os,J.bare,J.base,J.AQ,g,q⟩
 cases T with
 |ret u=>
  obtain⟨v,σ',H',J,g,q⟩:=hs;exact c J g q
 |next=>
  obtain⟨σ',H',J,q⟩:=hs;exact c (v:=V.AG) (u:=Value.none) J rfl q
 |brk=>
  obtain⟨_,_,_,q⟩:=hs;exact False.elim q
 |cont=>
  obtain⟨_,_,_,q⟩:=hs;exact False.elim q
section
variable{p:Pos}{t:TA}{id T:String}{r:List V->Hp->VK->Prop}
def DA(r:List V->Hp->VK->Prop)(t:TA):TE:=λZ H Q=>t Z H λvs H1=>r vs H1 Q
end
end L2
namespace HT
variable{E Q:Value->Shared->Prop}{sl t:Addr}{v vl vu:Value}{hi o:Option Int}
section
open PySem.SeqAt
open PySem.AutoSeq1 (wpAny_loadPart')
open PySem.MeetsSeq PySem.MeetsSeq2 PySem.MeetsSeq3
end
section
variable{prog:Program}{w:World}{A:Around}{s:Shared}
theorem ZFP{b:Addr}{vs ws:List Value}(h:IsTup s.heap t vs.toArray)(i:IsTup s.heap b ws.toArray)(f:vs≠[])
  (h1:ws=[]->Q (.ref t) s) (h2:ws≠[]->Q (.ref s.heap.objs.size) { s with heap:=s.heap.push { cls:=.type "tuple", data:=.seq (vs++ws).toArray } })
  (hsz:vs.length+ws.length<=sizeLine):wpAny (model prog w) A (binaryOp .Add (.ref t) (.ref b)) Q E s:=by
 obtain⟨⟨cls,dd,data,sl⟩,ho,g,n,hd⟩:=id h;obtain⟨⟨ZBs,RW,c,RE⟩,GG,LR,d,a⟩:=id i;simp only at g hd LR a;subst g hd LR a;have e:vs.toArray++ws.toArray=(vs++ws).toArray:=by simp
 by_cases hw:ws=[]
 .exact concat_meets ⟨_,ho,rfl⟩ ⟨_,GG,rfl⟩ ZBf seq_tuple_add p9 oz (oy _ _)
   (tuple_addW1 t b vs.toArray ws.toArray n d dd RW sl RE (by simpa using f) (by simp[hw])) ⟨ho,GG,h1 hw⟩
 .refine concat_meets ⟨_,ho,rfl⟩ ⟨_,GG,rfl⟩ ZBf seq_tuple_add p9 oz (oy _ _)
   (tuple_addW2 t b vs.toArray ws.toArray n d dd RW sl RE (by simpa using f) (by simpa using hw) (by rw[C1,C1];exact hsz)) ⟨ho,GG,?_⟩
  rw[e];exact h2 hw
noncomputable def As(n d:Nat):Option Int->Nat
 |none=>d
 |some v=>if v<0 then(v+(n:Int)).toNat else min v.toNat n
theorem Qh(n d:Nat):As n d none=d:=rfl
theorem MO(n d k:Nat):As n d (some (k:Int))=min k n:=by
 show(if(k:Int)<0 then((k:Int)+(n:Int)).toNat else min (k:Int).toNat n)=min k n
 rw[tJ (by omega),Hr]
theorem vn(n d:Nat)(hd:d<=n)(o:Option Int):As n d o<=n:=by
 cases o with
 |none=>exact hd
 |some v=>
  show(if v<0 then(v+(n:Int)).toNat else min v.toNat n)<=n
  by_cases a:v<0
  .rw[tU a];omega
  .rw[tJ a];exact oo _ _
theorem k8(v:Int)(n d:Nat):(if v<0 then max (v+(n:Int)) 0 else min v (n:Int))=((As n d (some v):Nat):Int):=by
 show(if v<0 then max (v+(n:Int)) 0 else min v (n:Int))=(((if v<0 then(v+(n:Int)).toNat else min v.toNat n):Nat):Int)
 by_cases a:v<0
 .simp only[tU a];omega
 .simp only[tJ a];omega
theorem ZGz(lo hi:Option Int)(n:Nat):Builtin.Slice.sliceAdjust lo hi 1 (n:Int)=(((As n 0 lo:Nat):Int),((As n n hi:Nat):Int)):=by
 have h1:¬ ((1:Int)<0):=by omega
 unfold Builtin.Slice.sliceAdjust;simp only[h1,ZC9];refine Prod.ext ?_ ?_
 .cases lo with
  |none=>rfl
  |some v=>exact k8 v n 0
 .cases hi with
  |none=>rfl
  |some v=>exact k8 v n n
theorem ZIB(i j:Nat):Builtin.Slice.slicePlaces (i:Int) (j:Int) 1=j - i:=by
 unfold Builtin.Slice.slicePlaces;have h1:(1:Int) > 0:=by omega
 simp only[h1,ZBx,Int.ediv_one];split <;> omega
theorem iE{Q:Option Int->Shared->Prop}(p:IsPart v o)(h:Q o s):wpAny (model prog w) A (Builtin.Slice.slicePartIndex v) Q E s:=by
 cases p with
 |none=>exact slicePart_none h
 |int i t=>exact slicePart_int h
theorem ij{lo:Option Int}{n:Nat}{Q:Int×Int×Nat->Shared->Prop}(hs:s.heap.IsSliceOf sl vl vu .none)(pl:IsPart vl lo)(a:IsPart vu hi)
  (h:Q (((As n 0 lo:Nat):Int),1,As n n hi - As n 0 lo) s):wpAny (model prog w) A (Builtin.Slice.sliceApplied (.ref sl) (pure (n:Int))) Q E s:=by
 obtain⟨os,LQ,ME,Pd⟩:=id hs;unfold Builtin.Slice.sliceApplied Builtin.Slice.sliceFields;refine pk (pk (ZAh LQ Pd (x:=vl) rfl (pk (ZAh LQ Pd (x:=vu) rfl (pk (ZAh LQ Pd (x:=.none) rfl (qL ?_)))))));refine pk (slicePart_none ?_);show wpAny _ _ (if((1:Int) == 0)=true then _ else _) _ _ s
 rw[tJ (by decide)];refine pk (iE pl (pk (iE a (pk (qL ?_)))));show wpAny _ _ (match Builtin.Slice.sliceAdjust lo hi 1 (n:Int)with|(lo,hi)=>pure (lo,(1:Int),Builtin.Slice.slicePlaces lo hi 1)) _ _ s
 rw[ZGz lo hi n];show wpAny _ _ (pure (((As n 0 lo:Nat):Int),(1:Int),Builtin.Slice.slicePlaces ((As n 0 lo:Nat):Int) ((As n n hi:Nat):Int) 1)) _ _ s;rw[ZIB];exact qL h
theorem vD(xs:Array Value)(i k:Nat):((List.range k).filterMap λ(m:Nat)=>xs[((i:Int)+(m:Int) * 1).toNat]?).toArray=((xs.toList.drop i).take k).toArray:=by
 have e:(λ(m:Nat)=>xs[((i:Int)+(m:Int) * 1).toNat]?)=λm=>xs[i+m]?:=by
  funext m
  have:((i:Int)+(m:Int) * 1).toNat=i+m:=by omega
  rw[this]
 rw[e];have:=pick_run xs i k;rw[List.filterMap_map]at this;have a:((λx=>xs[x]?) ∘ λx=>i+x)=λm=>xs[i+m]?:=rfl;rw[a]at this;rw[this]
theorem y2{items:Array Value}{lo:Option Int}(a:IsTup s.heap t items)(hs:s.heap.IsSliceOf sl vl vu .none)(pl:IsPart vl lo)(c:IsPart vu hi)
  (hw:¬ (As items.size 0 lo=0/\As items.size items.size hi=items.size))
  (h:Q (.ref s.heap.objs.size) { s with heap:=s.heap.push { cls:=.type "tuple", data:=.seq ((items.toList.drop (As items.size 0 lo)).take (As items.size items.size hi - As items.size 0 lo)).toArray } })
  (hsz:items.size<=sizeLine):wpAny (model prog w) A (getItem (.ref t) (.ref sl)) Q E s:=by
 have b:sizeOk (.seq ((items.toList.drop (As items.size 0 lo)).take (As items.size items.size hi - As items.size 0 lo)).toArray):=by
  show((items.toList.drop (As items.size 0 lo)).take (As items.size items.size hi - As items.size 0 lo)).toArray.size<=sizeLine;rw[C1,Bk,Co,HI];omega
 have i:As items.size items.size hi<=items.size:=vn _ _ (Am _) hi;obtain⟨os,LQ,ME,Pd⟩:=id hs;have d:s.TypeIs (.ref sl) "slice" := ⟨os,LQ,ME⟩;unfold getItem
 try with_reducible refine xf ?_
 first|refine pk (qL ?_)|skip
 refine pk (wpAny_sequenceKey a.typeIs (by decide) ?_);refine pk (uw (name:=Str.ofString "__getitem__") a.typeIs bW
  (wR bW a.typeIs entry_tuple_getitem ?_ (args_tuple_getitem _ _)))
 show wpAny _ _ (Builtin.Tuple.tupleItemsOf (.ref t) >>= _) _ _ s;refine pk (tupleItemsOf_ a ?_);refine pk (zU d ?_);rw[tU (by decide)];refine pk (ij hs pl c ?_);have e:¬ ((((As items.size 0 lo:Nat):Int) == 0 && (1:Int) == 1 && (As items.size items.size hi - As items.size 0 lo) == items.size)=true):=by
  intro q;rw[Eb,Eb]at q;have g:((As items.size 0 lo:Nat):Int)=0:=eq_of_beq q.1.1;have f:As items.size items.size hi - As items.size 0 lo=items.size:=eq_of_beq q.2;exact hw ⟨by omega,by omega⟩
 show wpAny _ _ (if(((As items.size 0 lo:Nat):Int) == 0 && (1:Int) == 1 && (As items.size items.size hi - As items.size 0 lo) == items.size)=true then _ else _) _ _ s
 rw[tJ e,vD]
 first
  |exact pk (m:=Builtin.Tuple.tupleExact _) (ue (qL ⟨_,rfl,qL h⟩) b)
  |exact pk (m:=Builtin.Tuple.tupleExact _) (ue (pk (qL (qL ⟨_,rfl,qL h⟩))) b)
  |exact pk (pk (m:=Builtin.Tuple.tupleExact _) (ue (qL (qL ⟨_,rfl,qL h⟩)) b))
  |exact pk (pk (m:=Builtin.Tuple.tupleExact _) (ue (qL ⟨_,rfl,qL h⟩) b))
end
end HT
namespace L2
variable{X:Cx}{pos:Pos}{xs ys:List V}{A5 its' us:List Value}{α:Type}{j n t':Nat}{i:Int}{Zh:ZKH}{Z:St}{H:Hp}{s:Shared}{A:Around}{x y:V}{u v:Value}{T:String}
abbrev TO:=St->Hp->(Option Int->Hp->Prop)->Prop
def PO(X:Cx)(e:Option Expr)(t:TO):Prop:=
 ∀(Zh:ZKH)(s:Shared)(Z:St)(H:Hp)(Q:Option Int->Hp->Prop),Inv X Zh Z H s->t Z H Q->
  wpAny (model X.prog X.w) X.A (evalPart e X.env) (λu s'=>∃o H',Inv X Zh Z H' s'/\IsPart u o/\Q o H') X.xe s
def Zu:TO:=λ_ H Q=>Q none H
def aM(t:TE):TO:=λZ H Q=>t Z H λx H1=>∃i,x=.int i/\Q (some i) H1
section
variable{e:Expr}{te:TE}{lo hi:Option Expr}{tl th:TO}{p2:Pos}
def Jp(X:Cx)(r:V->Option Int->Option Int->Hp->VK->Prop):Prop:=
 ∀(Zh:ZKH)(s:Shared)(Z:St)(H:Hp)(x:V)(v vl vu:Value)(lo hi:Option Int)(sl:Addr)(Q:VK),Inv X Zh Z H s->RelV x v->s.heap.IsSliceOf sl vl vu .none->IsPart vl lo->IsPart vu hi->r x lo hi H Q->
  ∃T id,typeLookup (.type T) "__getitem__"=pure (some (.builtin id))/\s.TypeIs v T/\wpAny (model X.prog X.w) X.A (getItem v (.ref sl)) (EP X Zh Z Q) X.xe s
def O5(r:V->Option Int->Option Int->Hp->VK->Prop)(te:TE)(tl th:TO):TE:=λZ H Q=>te Z H λx H1=>tl Z H1 λl H2=>th Z H2 λu H3=>r x l u H3 Q
def CL(xs:List V)(lo hi:Option Int):List V:=(xs.drop (HT.As xs.length 0 lo)).take (HT.As xs.length xs.length hi - HT.As xs.length 0 lo)
theorem dw(xs:List V)(lo hi:Option Int):(CL xs lo hi).length<=xs.length:=by
 unfold CL;rw[Bk,Co];omega
def uH(K:ZKG):V->Option Int->Option Int->Hp->VK->Prop:=λx lo hi H Q=>∃a xs,x=.ref a/\AE K H a xs/\
 ¬ (HT.As xs.length 0 lo=0/\HT.As xs.length xs.length hi=xs.length)/\∀p,H p=none->Q (.ref p) (upd H p (.tup (CL xs lo hi)))
theorem mN:Jp X (uH X.K):=by
 intro Zh s Z H x v vl vu lo hi sl Q I g hs pl i h;obtain⟨a,xs,rfl,hx,hw,q⟩:=h;cases g;obtain⟨A5,r,e,d⟩:=I.tuple hx;have c:A5.toArray.size=xs.length:=by rw[C1];exact r.length.symm
 refine⟨"tuple", _,PyProof.Rows.slot_tuple_getitem.lookup,e.typeIs,?_⟩;refine HT.y2 e hs pl i (by rw[c];exact hw) ?_ (by rw[c];exact d);rw[c];refine⟨.ref s.heap.objs.size,_,I.laid (t':=s.toks) (o:=.tup (CL xs lo hi)) (λb ob q=>BF _ q) (Am _) ?_,rfl,q _ (I.AQ.fresh (Am _))⟩;exact⟨C7 (dw xs lo hi) d,_,(r.drop (HT.As xs.length 0 lo)).take (HT.As xs.length xs.length hi - HT.As xs.length 0 lo),⟨IsTup.new _ _,λTw f=>by rw[BZ _ rfl]at f;cases f;rfl⟩⟩
def pP(K:ZKG):R2:=λx y H Q=>∃a b xs ys,x=.ref a/\y=.ref b/\AE K H a xs/\AE K H b ys/\xs≠[]/\xs.length+ys.length<=sizeLine/\
 (ys=[]->Q (.ref a) H)/\(ys≠[]->∀p,H p=none->Q (.ref p) (upd H p (.tup (xs++ys))))
theorem Vals.S9(r:Vals xs us):us=[]↔xs=[]:=by
 cases r with
 |nil=>simp
 |cons _ _=>simp
theorem vA:BB X (binaryOp .Add) (pP X.K):=by
 intro Zh s Z H x y v u Q I i g h;obtain⟨a,b,xs,ys,rfl,rfl,m,l,hx,e,k,j⟩:=h;cases i;cases g;obtain⟨A5,d,p1,_⟩:=I.tuple m;obtain⟨Bn,c,p2,_⟩:=I.tuple l;refine HT.ZFP p1 p2 (λz=>hx (d.S9.mp z)) (λz=>⟨.ref a,H,I,rfl,k (c.S9.mp z)⟩) (λz=>?_) (by rw[<- d.length,<- c.length];exact e);refine⟨.ref s.heap.objs.size,_,I.laid (t':=s.toks) (o:=.tup (xs++ys)) (λb ob q=>BF _ q) (Am _) ?_,rfl,j (λw=>z (c.S9.mpr w)) _ (I.AQ.fresh (Am _))⟩;exact⟨by rw[BE];exact e,_,d.append c,⟨IsTup.new _ _,λTw f=>by rw[BZ _ rfl]at f;cases f;rfl⟩⟩
end
noncomputable def Ip(n:Nat)(i:Int):Option Nat:=if 0<=i then(if i<n then some i.toNat else none)else if -(n:Int)<=i then some (i+n).toNat else none
def Bf(xs:List α)(i:Int):Option α:=(Ip xs.length i).bind λj=>xs[j]?
theorem iR(h:Ip n i=some j):seqIndex? i n=some j/\j<n/\-(n:Int)<=i/\i<n:=by
 unfold Ip at h
 by_cases a:0<=i
 .rw[tU a]at h
  by_cases h1:i<n
  .rw[tU h1]at h;have e:i.toNat=j:=BX h;exact⟨by rw[seqIndex_of a h1,e],by omega,by omega,h1⟩
  .rw[tJ h1]at h;cases h
 .rw[tJ a]at h
  by_cases h1:-(n:Int)<=i
  .rw[tU h1]at h;have e:(i+n).toNat=j:=BX h;exact⟨by rw[seqIndex_neg (by omega) h1,e],by omega,h1,by omega⟩
  .rw[tJ h1]at h;cases h
theorem WL{xs:List α}{v:α}(h:Bf xs i=some v):∃j,seqIndex? i xs.length=some j/\xs[j]?=some v/\j<xs.length/\-(xs.length:Int)<=i/\i<xs.length:=by
 unfold Bf at h;cases e:Ip xs.length i with
 |none=>rw[e]at h;cases h
 |some j=>
  rw[e]at h;obtain⟨h1,h2,b,a⟩:=iR e;exact⟨j,h1,h,h2,b,a⟩
theorem P0{xs:List α}{v:α}(h:xs[j]?=some v):Bf xs (j:Int)=some v:=by
 have a:j<xs.length:=(List.getElem?_eq_some_iff.mp h).1;have e:Ip xs.length (j:Int)=some j:=by
  unfold Ip;rw[tU (by omega),tU (by omega)];simp
 unfold Bf;rw[e];exact h
def YI(b:Expr):Prop:=∀o i,subscripted b false o i=operate [o,i] (getItem o i)
def EA(X:Cx)(r:R2):Prop:=
 ∀(value a:Expr)(Zh:ZKH)(s:Shared)(Z:St)(H:Hp)(x y:V)(v u:Value)(Q:VK),Inv X Zh Z H s->RelV x v->RelV y u->r x y H Q->
  subscripted a false v u=operate [v,u] (getItem v u)->wpAny (model X.prog X.w) X.A (subscriptTail value a v u) (EP X Zh Z Q) X.xe s
def JT(X:Cx)(id:String)(r:V->List V->Hp->VK->Prop):Prop:=
 ∀(Zh:ZKH)(s:Shared)(Z:St)(H:Hp)(x:V)(xs:List V)(v:Value)(us:List Value)(Q:VK),Inv X Zh Z H s->RelV x v->Vals xs us->r x xs H Q->
  wpAny (model X.prog X.w) X.A (call (.builtin id) (v::us)) (EP X Zh Z Q) X.xe s
section
variable{a b:Expr}{ta tb:TE}
def JO(K:ZKG):R2:=λx y H Q=>∃p xs i v,x=.ref p/\y=.int i/\AK K H p xs/\Bf xs i=some v/\Q v H
def Ij(K:ZKG):R2:=λx y H Q=>∃p xs i v,x=.ref p/\y=.int i/\AE K H p xs/\Bf xs i=some v/\Q v H
def pS:R2:=λx y H Q=>∃z i c,x=.str z/\y=.int i/\z.length<=sizeLine/\Bf z.cps.toList i=some c/\Q (.str ⟨#[c]⟩) H
theorem DL:EA X (JO X.K):=by
 intro value b Zh s Z H x y v u Q I g f h hs;obtain⟨p,xs,i,z,rfl,rfl,k,m,q⟩:=h;cases g;obtain⟨t,rfl⟩:=f;obtain⟨A5,r,pl,A⟩:=I.list k;obtain⟨j,h1,h2,B,o,n⟩:=WL m;obtain⟨w,e,GV⟩:=r.get h2;have l:=r.length;have hn:=KH;have a:EP X Zh Z Q w s:=⟨z,H,I,GV,q⟩
 by_cases d:0<=i
 .have c:i.toNat=j:=by
   rw[seqIndex_of d n]at h1;exact BX h1
  exact item_listR pl.isList d (by omega) (by rw[c];simpa using e) a hs
 .have c:(i+(A5.toArray.size:Int)).toNat=j:=by
   rw[seqIndex_neg (by omega) o]at h1;rw[C1,<- l];exact BX h1
  exact subscriptTail_builtinR (x:=w) pl.isList.typeIs slot_list_getitem.lookup
   (wpAny_getItem_list_neg (Q:=λr s'=>r=w/\EP X Zh Z Q r s') pl.isList (by omega) (by rw[C1] <;> omega) (by omega) (by rw[c];simpa using e) ⟨rfl,a⟩) hs
theorem AN:EA X (Ij X.K):=by
 intro value a Zh s Z H x y v u Q I d c h hs;obtain⟨p,xs,i,z,rfl,rfl,e,g,q⟩:=h;cases d;obtain⟨t,rfl⟩:=c;obtain⟨A5,r,pl,l⟩:=I.tuple e;obtain⟨j,h1,h2,o,n,m⟩:=WL g;obtain⟨w,k,GV⟩:=r.get h2;have f:=r.length;have hn:=KH;have b:EP X Zh Z Q w s:=⟨z,H,I,GV,q⟩;exact subscriptTail_builtinR (x:=w) pl.typeIs slot_tuple_getitem.lookup
  (getItem_tuple (j:=j) (Q:=λr s'=>r=w/\EP X Zh Z Q r s') pl (by omega) (by omega) (by rw[C1,<- f];exact h1) (by simpa using k) ⟨rfl,b⟩) hs
theorem xY:EA X pS:=by
 intro value a Zh s Z H x y v u Q I d b h hs;obtain⟨z,i,c,rfl,rfl,n,f,q⟩:=h;obtain⟨t,rfl⟩:=d;obtain⟨t',rfl⟩:=b;obtain⟨j,h1,h2,o,k,g⟩:=WL f;have e:z.cps.toList.length=z.length:=by simp[Str.length]
 rw[e]at h1 k g;have hn:=KH;exact tail_any (typeIs_str s z t) slot_str_getitem.lookup (getItem_str (c:=c) (by
  have m:decide (i < -(2 ^ 63:Int))=false:=uB (by omega);have l:decide (i>=2 ^ 63)=false:=uB (by omega);rw[m,l,Bool.or_false]) (by rw[h1];simpa using h2) ⟨.str ⟨#[c]⟩,H,I.tok _,⟨_,rfl⟩,q⟩) hs
theorem ZBG(A5:List Value)(n j:Nat)(u:Value):Obj.mapSeq (·.setIfInBounds j u) { cls:=.type "list", data:=.seq A5.toArray n }={ cls:=.type "list", data:=.seq (A5.set j u).toArray n }:=by
 simp[Obj.mapSeq]
theorem Inv.lst{Zh:ZKH}{Z:St}{H:Hp}{s:Shared}{p:Addr}{xs:List V}(I:Inv X Zh Z H s)(h:H p=some (.lst xs)):
  ∃(A5:List Value)(n:Nat),Vals xs A5/\s.heap.get? p=some { cls:=.type "list", data:=.seq A5.toArray n }/\xs.length<=sizeLine:=by
 obtain⟨z,A5,n,r,e⟩:=I.AQ p _ h;exact⟨A5,n,r,e,z⟩
theorem Inv.ZCF{p:Addr}{a:Nat}{f:Obj->Obj}(I:Inv X Zh Z H s)(h:H p=some (.lst xs))
  (ho:s.heap.get? p=some { cls:=.type "list", data:=.seq A5.toArray n }) (hf:f { cls:=.type "list", data:=.seq A5.toArray n }={ cls:=.type "list", data:=.seq its'.toArray a }) (r:Vals ys its') (hz:ys.length<=sizeLine) (t:Nat) :
  Inv X Zh Z (upd H p (.lst ys)) { s with heap:=s.heap.update p f,toks:=t }:=by
 have e:(s.heap.update p f).get? p=some { cls:=.type "list", data:=.seq its'.toArray a }:=by
  rw[G9 f ho (by rw[hf] <;> rfl),hf]
 refine I.write (x:=p) (e:=p) (by rw[h];trivial) (.inl rfl) (λb u c q=>(HJ _ _ (BW c)).trans q) ⟨_,e⟩ ?_;exact⟨hz,its',a,r,e⟩
def z8:V->V->V->Hp->(Hp->Prop)->Prop:=λo i v H Q=>∃p xs k j,o=.ref p/\i=.int k/\H p=some (.lst xs)/\Ip xs.length k=some j/\Q (upd H p (.lst (xs.set j v)))
theorem set_list:V6 X z8:=by
 intro Zh s Z H o i v y z u Q I l m g h;obtain⟨p,xs,k,j,rfl,rfl,hp,x,q⟩:=h;cases l;obtain⟨t,rfl⟩:=m;obtain⟨A5,n,r,ho,w⟩:=I.lst hp;obtain⟨h1,h2,d,c⟩:=iR x;have a:=r.length;have hn:=KH;have f:Inv X Zh Z (upd H p (.lst (xs.set j v))) { s with heap:=s.heap.update p (Obj.mapSeq (·.setIfInBounds j u)) }:=
  I.ZCF hp ho (ZBG A5 n j u) (r.set g j) (by rw[J4];exact w) s.toks
 by_cases e:0<=k
 .have b:k.toNat=j:=by
   rw[seqIndex_of e c]at h1;exact BX h1
  exact PySem.W.ki_setAt ho e (by omega) (by rw[C1,<- a];exact c) (by rw[b];exact⟨_,f,q⟩)
 .have b:(k+(A5.toArray.size:Int)).toNat=j:=by
   rw[seqIndex_neg (by omega) d]at h1;rw[C1,<- a];exact BX h1
  exact PySem.W.ki_setBack ho (by omega) (by rw[C1,<- a];exact d) (by omega) (by rw[b];exact⟨_,f,q⟩)
theorem xu(lo hi:Option Int)(n:Nat):(sliceBounds lo hi none n).1=((HT.As n 0 lo:Nat):Int)/\(sliceBounds lo hi none n).2.1=((HT.As n n hi:Nat):Int)/\(sliceBounds lo hi none n).2.2=1:=by
 refine⟨?_,?_,rfl⟩
 .cases lo with
  |none=>simp[sliceBounds,HT.As]
  |some i=>
   simp only[sliceBounds,HT.As,ZJB,show(1:Int) > 0 by decide,ZBx]
   by_cases h:i<0
   .simp only[h,ZBx] <;> omega
   .simp only[h,ZC9] <;> omega
 .cases hi with
  |none=>simp[sliceBounds,HT.As]
  |some i=>
   simp only[sliceBounds,HT.As,ZJB,show(1:Int) > 0 by decide,ZBx]
   by_cases h:i<0
   .simp only[h,ZBx] <;> omega
   .simp only[h,ZC9] <;> omega
theorem ZG8(A5:List Value)(lo hi:Option Int):slicePick A5.toArray lo hi none=((A5.drop (HT.As A5.length 0 lo)).take (HT.As A5.length A5.length hi - HT.As A5.length 0 lo)).toArray:=by
 obtain⟨h1,h2,a⟩:=xu lo hi A5.toArray.size;unfold slicePick;rw[h1,h2,a];simp only[sliceRange_one,pick_run,C1] <;> rfl
def Ve(K:ZKG):V->Option Int->Option Int->Hp->VK->Prop:=λx lo hi H Q=>∃a xs,x=.ref a/\AK K H a xs/\∀p,H p=none->Q (.ref p) (upd H p (.lst (CL xs lo hi)))
theorem IM:Jp X (Ve X.K):=by
 intro Zh s Z H x v vl vu lo hi sl Q I e hs pl f h;obtain⟨a,xs,rfl,hx,q⟩:=h;cases e;obtain⟨A5,r,d,g⟩:=I.list hx;have c:=r.length;refine⟨"list", _,slot_list_getitem.lookup,d.isList.typeIs,?_⟩;refine wpAny_getItem_list_slice d.isList hs pl f .none (by simp) ?_ (by rw[C1] <;> omega)
 rw[ZG8,<- c];refine⟨.ref s.heap.objs.size,_,I.laid (t':=s.toks) (o:=.lst (CL xs lo hi)) (λb ob q=>BF _ q) (Am _) ?_,rfl,q _ (I.AQ.fresh (Am _))⟩;exact⟨C7 (dw xs lo hi) g,_,0,(r.drop (HT.As xs.length 0 lo)).take (HT.As xs.length xs.length hi - HT.As xs.length 0 lo),BZ _ rfl⟩
def FL:V->Bool
 | .AG=>true
 | .bl _=>true
 | .int _=>true
 | .str _=>true
 |_=>false
noncomputable def EM:V->V->Bool
 | .AG,.AG=>true
 | .bl a,.bl b=>a == b
 | .bl a,.int b=>(if a then 1 else 0) == b
 | .int a,.bl b=>a == (if b then 1 else 0)
 | .int a,.int b=>a == b
 | .str a,.str b=>a == b
 |_,_=>false
theorem T9(d:RelV y u)(c:RelV x v)(f:FL y=true)(e:FL x=true):SeqAt.EqAt A s u v (EM y x):=by
 cases y with
 |AG=>
  cases d;cases x with
  |AG=>cases c;exact SeqAt.EqAt.same _
  |bl b=>cases c;exact SeqAt.EqAt.none_bool b
  |int b=>obtain⟨t,rfl⟩:=c;exact SeqAt.EqAt.none_int b t
  |str b=>obtain⟨t,rfl⟩:=c;exact SeqAt.EqAt.none_str b t
  |_=>exact absurd (show false=true from e) De
 |bl a=>
  cases d;cases x with
  |AG=>cases c;exact SeqAt.EqAt.bool_none a
  |bl b=>cases c;exact SeqAt.EqAt.bool_bool a b
  |int b=>obtain⟨t,rfl⟩:=c;exact SeqAt.EqAt.bool_int a b t
  |str b=>obtain⟨t,rfl⟩:=c;exact SeqAt.EqAt.bool_str a b t
  |_=>exact absurd (show false=true from e) De
 |int a=>
  obtain⟨t',rfl⟩:=d;cases x with
  |AG=>cases c;exact SeqAt.EqAt.int_none a t'
  |bl b=>cases c;exact SeqAt.EqAt.int_bool a t' b
  |int b=>obtain⟨t,rfl⟩:=c;exact SeqAt.EqAt.int_int a t' b t
  |str b=>obtain⟨t,rfl⟩:=c;exact SeqAt.EqAt.int_str a t' b t
  |_=>exact absurd (show false=true from e) De
 |str a=>
  obtain⟨t',rfl⟩:=d;cases x with
  |AG=>cases c;exact SeqAt.EqAt.str_none a t'
  |bl b=>cases c;exact SeqAt.EqAt.str_bool a t' b
  |int b=>obtain⟨t,rfl⟩:=c;exact SeqAt.EqAt.str_int a t' b t
  |str b=>obtain⟨t,rfl⟩:=c;exact SeqAt.EqAt.str_str a t' b t
  |_=>exact absurd (show false=true from e) De
 |_=>exact absurd (show false=true from f) De
def EK(x:V)(u:Value):Bool:=match u with
 | .none=>EM .AG x
 | .bool b=>EM (.bl b) x
 | .int i _=>EM (.int i) x
 | .str z _=>EM (.str z) x
 |_=>false
theorem dI(r:RelV y u)(f:FL y=true):EK x u=EM y x:=by
 cases y with
 |AG=>cases r;rfl
 |bl b=>cases r;rfl
 |int i=>obtain⟨t,rfl⟩:=r;rfl
 |str z=>obtain⟨t,rfl⟩:=r;rfl
 |_=>exact absurd (show false=true from f) De
theorem Po{x:V}:∀{xs:List V}{us:List Value},Vals xs us->xs.all FL=true->us.any (EK x)=xs.any λy=>EM y x
 |_,_,.nil,_=>rfl
 |y::xs,u::us,.cons r t,f=>by
  rw[US,Eb]at f;rw[Na,Na,dI r f.1,Po t f.2]
theorem LW{A:Around}{s:Shared}{x:V}{v:Value}(a:RelV x v)(b:FL x=true):∀{xs:List V}{us:List Value},Vals xs us->xs.all FL=true->∀u∈us,SeqAt.EqAt A s u v (EK x u)
 |_,_,.nil,_=>λu hu=>by cases hu
 |y::xs,u::us,.cons r t,f=>λc hu=>by
  rw[US,Eb]at f;rcases List.mem_cons.mp hu with rfl|hu
  .rw[dI r f.1];exact T9 r a f.1 b
  .exact LW a b t f.2 c hu
def DX(x:V)(xs:List V):Bool:=xs.any λy=>EM y x
def Et(K:ZKG)(neg:Bool):R2:=λx y H Q=>∃p xs,y=.ref p/\(AK K H p xs∨AE K H p xs)/\FL x=true/\xs.all FL=true/\Q (.bl (if neg then !DX x xs else DX x xs)) H
theorem FE:BB X (compareOp .In) (Et X.K false):=by
 intro Zh s Z H x y v u Q I b d h;obtain⟨p,xs,rfl,a,c,fs,q⟩:=h;cases d;rcases a with a|a
 .obtain⟨A5,r,pl,e⟩:=I.list a;refine SeqAt.in_listAt (EK x) pl.isList (λw hw=>LW b c r fs w (by simpa using hw)) ⟨.bl _,H,I,rfl,?_⟩
  rw[show A5.toArray.any (EK x)=A5.any (EK x) by simp,Po r fs];exact q
 .obtain⟨A5,r,pl,e⟩:=I.tuple a;refine SeqAt.in_tupleAt (EK x) pl (λw hw=>LW b c r fs w (by simpa using hw)) ⟨.bl _,H,I,rfl,?_⟩
  rw[show A5.toArray.any (EK x)=A5.any (EK x) by simp,Po r fs];exact q
theorem OT:BB X (compareOp .NotIn) (Et X.K true):=by
 intro Zh s Z H x y v u Q I b d h;obtain⟨p,xs,rfl,a,c,fs,q⟩:=h;cases d;rcases a with a|a
 .obtain⟨A5,r,pl,e⟩:=I.list a;refine SeqAt.notIn_listAt (EK x) pl.isList (λw hw=>LW b c r fs w (by simpa using hw)) ⟨.bl _,H,I,rfl,?_⟩
  rw[show A5.toArray.any (EK x)=A5.any (EK x) by simp,Po r fs];exact q
 .obtain⟨A5,r,pl,e⟩:=I.tuple a;refine SeqAt.notIn_tupleAt (EK x) pl (λw hw=>LW b c r fs w (by simpa using hw)) ⟨.bl _,H,I,rfl,?_⟩
  rw[show A5.toArray.any (EK x)=A5.any (EK x) by simp,Po r fs];exact q
theorem EL:D1 X (.builtin "len") (λxs H Q=>∃p ys,xs=[.ref p]/\(AK X.K H p ys∨AE X.K H p ys)/\Q (.int ys.length) H):=by
 intro Zh s Z H xs us Q I r h;obtain⟨p,ys,rfl,b,q⟩:=h;obtain⟨u,rfl,d⟩:=vals1 r;cases d;have hn:=KH;rcases b with b|b
 .obtain⟨A5,c,pl,e⟩:=I.list b;have a:=c.length;exact Calls.call_len_list pl.isList (by simp only[C1] <;> omega) ⟨.int ys.length,H,I.tok _,⟨s.toks+1,by rw[C1,a]⟩,q⟩
 .obtain⟨A5,c,pl,e⟩:=I.tuple b;have a:=c.length;exact len_tuple pl (by simp only[C1] <;> omega) ⟨.int ys.length,H,I.tok _,⟨s.toks+1,by rw[C1,a]⟩,q⟩
theorem lM:D1 X (.builtin "len") (λxs H Q=>∃z,xs=[.str z]/\z.length<=sizeLine/\Q (.int z.length) H):=by
 intro Zh s Z H xs us Q I r h;obtain⟨z,rfl,a,q⟩:=h;obtain⟨u,rfl,t,rfl⟩:=vals1 r;have hn:=KH;exact len_str (by omega) ⟨.int z.length,H,I.tok _,⟨_,rfl⟩,q⟩
theorem KO:D1 X (.type "list") (λxs H Q=>∃p ys,xs=[.ref p]/\(AK X.K H p ys∨AE X.K H p ys)/\∀l,H l=none->Q (.ref l) (upd H l (.lst ys))):=by
 intro Zh s Z H xs us Q I r h;obtain⟨p,ys,rfl,f,q⟩:=h;obtain⟨u,rfl,k⟩:=vals1 r;cases k;have i:∀(A5:List Value),Vals ys A5->ys.length<=sizeLine->∀(h':Heap)(c:Nat),(∀b o',s.heap.get? b=some o'->h'.get? b=some o')->
   h'.get? s.heap.objs.size=some { cls:=.type "list", dict:=none,data:=.seq A5.toArray c,slots:=#[] }->EP X Zh Z Q (.ref s.heap.objs.size) { s with heap:=h' }:=λA5 a d h' c kp e=>
  ⟨.ref s.heap.objs.size,_,I.laid (t':=s.toks) kp (Am _) (show CC X.prog X.w _ h' _ (.lst ys)from⟨d,A5,c,a,e⟩),rfl,q _ (I.AQ.fresh (Am _))⟩
 rcases f with f|f
 .obtain⟨A5,a,pl,d⟩:=I.list f;have g:=a.length;obtain⟨o,ho,j,n,hd⟩:=pl.isList;exact call_list_seq p (.inl rfl) ho j hd (λh' c kp e=>i A5 a d h' c kp e) (by simp only[C1] <;> omega)
 .obtain⟨A5,a,pl,d⟩:=I.tuple f;have g:=a.length;obtain⟨o,ho,j,n,hd⟩:=pl;exact call_list_seq p (.inr rfl) ho j hd (λh' c kp e=>i A5 a d h' c kp e) (by simp only[C1] <;> omega)
theorem HM:D1 X (.type "tuple") (λxs H Q=>∃p ys,xs=[.ref p]/\((AK X.K H p ys/\∀l,H l=none->Q (.ref l) (upd H l (.tup ys)))∨(AE X.K H p ys/\Q (.ref p) H))):=by
 intro Zh s Z H xs us Q I r h;obtain⟨p,ys,rfl,h⟩:=h;obtain⟨u,rfl,j⟩:=vals1 r;cases j;rcases h with⟨c,q⟩|⟨c,q⟩
 .obtain⟨A5,a,pl,d⟩:=I.list c;have f:=a.length;refine call_tuple_list pl.isList (λh' kp=>?_) (by simp only[C1] <;> omega)
  have i:Inv X Zh Z H { s with heap:=h' }:=I.kept (t':=s.toks) kp
  have k:Inv X Zh Z (upd H h'.objs.size (.tup ys)) { s with heap:=h'.push { cls:=.type "tuple", data:=.seq A5.toArray } }:=
   i.laid (t':=s.toks) (λb o e=>BF _ e) (Am _) (show CC X.prog X.w _ _ _ (.tup ys)from⟨d,A5,a,⟨IsTup.new _ _,λTw g=>by rw[BZ _ rfl]at g;cases g;rfl⟩⟩)
  exact⟨.ref h'.objs.size,_,k,rfl,q _ (i.AQ.fresh (Am _))⟩
 .obtain⟨A5,a,pl,d⟩:=I.tuple c;exact call_tuple_same pl ⟨.ref p,H,I,rfl,q⟩
def LJ(K:ZKG)(T:String)(x:V)(H:Hp):Prop:=match x with
 | .str _=>T="str"
 | .int _=>T="int"
 | .ref p=>(T="list" /\ ∃xs,AK K H p xs)∨(T="tuple" /\ ∃o,K.lookup p=some o/\o.cls=.type "tuple" /\ o.dict=none)∨
   (T="dict" /\ ((∃A6,H p=some (.dK A6))∨∃A6,H p=some (.dT A6)))∨(T="set" /\ ∃S n,H p=some (.set S n))∨(T="tuple" /\ ∃xs,H p=some (.tup xs))
 |_=>False
theorem mx(I:Inv X Zh Z H s)(r:RelV x v)(ty:LJ X.K T x H):
  s.TypeIs v T/\∀a,v=.ref a->∃ob,s.heap.get? a=some ob/\ob.dict=none:=by
 cases x with
 |str z=>
  obtain⟨t,rfl⟩:=r;cases(show T="str" from ty);exact⟨typeIs_str s z t,λ_ e=>nomatch e⟩
 |int i=>
  obtain⟨t,rfl⟩:=r;cases(show T="int" from ty);exact⟨typeIs_int s i t,λ_ e=>nomatch e⟩
 |ref p=>
  cases r;rcases ty with⟨rfl,xs,f⟩|⟨rfl,o,b,g,hd⟩|⟨rfl,b⟩|⟨rfl,S,n,b⟩|⟨rfl,xs,b⟩
  .obtain⟨A5,_,pl,_⟩:=I.list f;refine⟨pl.isList.typeIs,λa e=>?_⟩;cases e;obtain⟨o,n,e,c,hd,_⟩:=pl;exact⟨o,e,hd⟩
  .refine⟨⟨o,I.D2 p o b,g⟩,λa e=>?_⟩;cases e;exact⟨o,I.D2 _ o b,hd⟩
  .have z:∃o,s.heap.get? p=some o/\o.ExactDict:=by
    rcases b with⟨A6,b⟩|⟨A6,b⟩
    .obtain⟨_,_,_,_,o,_,_,e,ex,_⟩:=I.AQ p _ b;exact⟨o,e,ex⟩
    .obtain⟨_,_,_,_,o,_,_,e,ex,_⟩:=I.AQ p _ b;exact⟨o,e,ex⟩
   obtain⟨o,e,ex⟩:=z;refine⟨⟨o,e,ex.1⟩,λa d=>?_⟩;cases d;exact⟨o,e,ex.2.1⟩
  .obtain⟨o,_,_,_,e,ex,_⟩:=I.AQ p _ b;refine⟨⟨o,e,ex.1⟩,λa d=>?_⟩;cases d;exact⟨o,e,ex.2.1⟩
  .obtain⟨_,A5,_,⟨o,e,c,_⟩,h⟩:=I.AQ p _ b;refine⟨⟨o,e,c⟩,λa d=>?_⟩;cases d;exact⟨o,e,h o e⟩
 |_=>exact False.elim ty
def Y6(K:ZKG)(T:String)(r:V->List V->Hp->VK->Prop)(to:TE):TE:=λZ H Q=>to Z H λx H1=>LJ K T x H1/\r x [] H1 Q
def P2(K:ZKG)(T:String)(r:V->List V->Hp->VK->Prop)(to:TE)(t:TA):TE:=λZ H Q=>to Z H λx H1=>LJ K T x H1/\t Z H1 λxs H2=>r x xs H2 Q
variable{o e:Expr}{es:List Expr}{to:TE}{t:TA}{name:Str}{apos Bz:Pos}{id:String}{r:V->List V->Hp->VK->Prop}
end
def Uz(X:Cx)(id:String)(r:V->List V->Hp->VK->Prop):Prop:=
 ∀(Zh:ZKH)(s:Shared)(Z:St)(H:Hp)(x:V)(xs:List V)(v:Value)(us:List Value)(Q:VK),Inv X Zh Z H s->RelV x v->Vals xs us->r x xs H Q->
  wpAny (model X.prog X.w) X.A (call (.builtin id) (v::us)) (EP X Zh Z Q) X.xe s
theorem Vals.one:∀{x:V}{us:List Value},Vals [x] us->∃u,us=[u]/\RelV x u:=λr=>vals1 r
theorem Vals.two:∀{x y:V}{us:List Value},Vals [x,y] us->∃u v,us=[u,v]/\RelV x u/\RelV y v:=λr=>vals2 r
theorem Vals.zero:∀{us:List Value},Vals [] us->us=[]
 |_,.nil=>rfl
theorem Vals.dropLast(h:Vals xs us):Vals xs.dropLast us.dropLast:=by
 induction h with
 |nil=>exact .nil
 |cons r t a=>
  cases t with
  |nil=>exact .nil
  |cons q t'=>exact .cons r a
theorem Vals.reverse(h:Vals xs us):Vals xs.reverse us.reverse:=by
 induction h with
 |nil=>exact .nil
 |cons r t a=>rw[ZJ4,ZJ4];exact Vals.append a (.cons r .nil)
theorem qy(l:List α):l.eraseIdx (l.length - 1)=l.dropLast:=by
 induction l with
 |nil=>rfl
 |cons a r c=>
  cases r with
  |nil=>rfl
  |cons b r=>
   have e:(a::b::r).length - 1=((b::r).length - 1)+1:=by
    have h1:(a::b::r).length=r.length+2:=rfl;have h2:(b::r).length=r.length+1:=rfl;omega
   rw[e,UU,c]
   all_goals rfl
section
variable{l b:Addr}{zs:List V}
theorem Inv.ZG{f:Array Value->Array Value}(I:Inv X Zh Z H s)(b:H l=some (.lst xs))
  (e:s.heap.get? l=some { cls:=.type "list", data:=.seq A5.toArray n }) (hf:f A5.toArray=its'.toArray) (hv:Vals ys its') (hz:ys.length<=sizeLine) :
  Inv X Zh Z (upd H l (.lst ys)) { s with heap:=s.heap.update l (Obj.mapSeq f),toks:=t' }:=by
 have q:=PySem.IsL.update e f;rw[hf]at q;refine I.write (x:=l) (e:=l) (by rw[b];exact trivial) (.inl rfl) (λc u a hu=>(HJ s.heap (Obj.mapSeq f) (BW a)).trans hu) ⟨_,q⟩ ?_;exact⟨hz,its',_,hv,q⟩
theorem Inv.md(I:Inv X Zh Z H s)(b:Vals ys A5)(a:ys.length<=sizeLine):
  Inv X Zh Z (upd H s.heap.objs.size (.lst ys)) { s with heap:=s.heap.push { cls:=.type "list", data:=.seq A5.toArray },toks:=t' }:=
 I.laid (λ_ _ q=>BF _ q) (Am _) ⟨a,A5,0,b,BZ _ rfl⟩
theorem Inv.fresh(I:Inv X Zh Z H s):H s.heap.objs.size=none:=I.AQ.fresh (Am _)
theorem Inv.Pr(I:Inv X Zh Z H s)(a:H l=some (.lst xs)):xs.length<=sizeLine/\∃(A5:List Value)(n:Nat),Vals xs A5/\xs.length=A5.length/\s.heap.get? l=some { cls:=.type "list", data:=.seq A5.toArray n }:=by
 obtain⟨z,A5,n,r,e⟩:=I.AQ l _ a;exact⟨z,A5,n,r,r.length,e⟩
def OF:V->List V->Hp->VK->Prop:=λx vs H Q=>∃l xs y,x=.ref l/\vs=[y]/\H l=some (.lst xs)/\xs.length<sizeLine/\Q .AG (upd H l (.lst (xs++[y])))
theorem cj:Uz X "list.append" OF:=by
 intro Zh s Z H x vs v us Q I b c h;obtain⟨l,xs,y,rfl,rfl,a,f,q⟩:=h;cases b;obtain⟨u,rfl,d⟩:=c.one;obtain⟨z,A5,n,r,g,e⟩:=I.Pr a;refine ZBh F.slot_list_append ⟨_,e,rfl⟩ F.entry_list_append (F.args_list_append_2 _ _) (PySem.list_append l A5.toArray n u (by rw[C1];omega)) ⟨e,?_⟩;refine⟨.AG,_,I.ZG (its':=A5++[u]) a e (by simp) (r.append (.cons d .nil)) ?_,rfl,q⟩;rw[BE,QL];omega
def VT:V->List V->Hp->VK->Prop:=λx vs H Q=>∃l xs y,x=.ref l/\vs=[]/\H l=some (.lst xs)/\xs[xs.length - 1]?=some y/\Q y (upd H l (.lst xs.dropLast))
theorem ZFq:Uz X "list.pop" VT:=by
 intro Zh s Z H x vs v us Q I c d h;obtain⟨l,xs,y,rfl,rfl,b,g,q⟩:=h;cases c;have a:=d.zero;subst a;obtain⟨z,A5,n,r,i,e⟩:=I.Pr b;obtain⟨u,hu,f⟩:=r.get g;have j:A5.toArray[A5.toArray.size - 1]?=some u:=by
  show A5.toArray[A5.length - 1]?=some u;rw[<- QD,<- i];exact hu
 refine ZBh F.slot_list_pop ⟨_,e,rfl⟩ F.entry_list_pop (F.args_list_pop_1 _) (MeetsSeq.list_pop_last l A5.toArray n u j (by rw[C1];omega)) ⟨e,?_⟩;refine⟨y,_,I.ZG (its':=A5.dropLast) b e ?_ r.dropLast ?_,f,q⟩
 .show A5.toArray.eraseIdxIfInBounds (A5.toArray.size - 1)=A5.dropLast.toArray;rw[C1,List.eraseIdxIfInBounds_toArray,qy]
 .rw[List.length_dropLast];omega
def jA:R2:=λx y H Q=>∃l b xs zs,x=.ref l/\y=.ref b/\H l=some (.lst xs)/\H b=some (.lst zs)/\xs.length+zs.length<=sizeLine/\∀p,H p=none->Q (.ref p) (upd H p (.lst (xs++zs)))
theorem Hd:BB X (binaryOp .Add) jA:=by
 intro Zh s Z H x y v u Q I c a h;obtain⟨l,b,xs,zs,rfl,rfl,f,g,m,q⟩:=h;cases c;cases a;obtain⟨z,A5,n,r,o,e⟩:=I.Pr f;obtain⟨j,Bn,k,d,Ck,i⟩:=I.Pr g;refine PySem.P.add_list e i ?_ (by rw[C1,C1];omega);have ea:A5.toArray++Bn.toArray=(A5++Bn).toArray:=by simp
 rw[ea];exact⟨.ref _,_,I.md (t':=s.toks) (r.append d) (by rw[BE];omega),rfl,q _ I.fresh⟩
variable{prog:Program}{w:World}{E:Value->Shared->Prop}
set_option maxRecDepth 100000 in
end
end L2
namespace ik
open PySem.W PySem.Calls
variable{l:OpenLaw}{n:Nat}{prog q:Program}
theorem pW{P:Params}{h:Heap}:∀(ns:List Int)(vs:List Value),WellAll P h vs (ns.map WData.int)->IntsAre vs ns:=by
 intro ns
 induction ns with
 |nil=>
  intro vs w;rw[bL]at w;cases w;exact .nil
 |cons n ns c=>
  intro vs w;rw[Bu]at w;cases w with
  |cons a b=>
   cases a;exact .cons _ _ (c _ b)
theorem ZBp(hn:l.most=some n){P:Params}{h:Heap}{args:List WData}{vals:List Value}
  (MB:l.row.toRowW.claim.pre args=true) (o:WellAll P h vals args) :
  ∃a vs ns,vals=[Value.ref a]/\args=[WData.list (ns.map WData.int)]/\h.get? a=some { cls:=.type "list", data:=.seq vs.toArray }/\IntsAre vs ns/\ns.length<=n:=by
 have j:WShape.hasAll [] args [.list .int]=true:=(pre_splitW MB).1;have f:l.pre.holds [] { args:=args }=true:=(pre_splitW MB).2;obtain⟨d,r,rfl,h1,h2⟩:=hasAllW_cons j;obtain rfl:=hasAllW_nil h2;obtain⟨xs,rfl,m⟩:=hasW_list h1;obtain⟨ns,rfl⟩:=items_int m;have b:ns.length<=n:=by
  unfold OpenLaw.pre at f;have e:(WTm.not (.lt (.lit (.int (n:Int))) (.len (.arg 0)))).holds [] { args:=[.list (ns.map .int)] }=true:=by
   have e:=(holds_andW f).1;rw[hn]at e;exact e
  have c:=condW_of e (w_not (w_lt w_lit (w_len_list (w_arg rfl))));rw[AS]at c;refine ZJ6 λq=>?_;have k:(n:Int)<((ns.length:Nat):Int):=by omega
  first
   | (rw[rD k]at c;exact absurd c (by decide))
   | (simp at c;omega)
 cases o with
 |cons i g=>
  cases g;cases i with
  |list ho Kp=>exact⟨_,_,ns,rfl,rfl,ho,pW ns _ Kp,b⟩
theorem ZCn(l:OpenLaw)(args:List WData):l.row.toRowW.claim.post args (.bool true) args=true:=
 postW_of (r:=l.row.toRowW) (X:=(true == true))
  (show WShape.has [] (.bool true) .bool=true by first|rfl|decide|simp[WShape.has,WShape.arms,WShape.armsAll])
  (show(WTm.eq .res (.lit (.bool true))).value [] { args:=args,res:=some (.bool true),after:=args }=some (.bool (true == true))from w_eq_bool (w_res rfl) w_lit) rfl
theorem ZHs{loose:List Str}{XP:(ZKI)->Heap->Prop}{YP:World->Heap->Prop}{d:DefRec}
  (hn:l.most=some n) (Q6:d.params.defaults=[])
  (call:∀(w:World)(s₀ b:Shared)(mg j:ZKI)(h:Addr)(o:Obj)(i cd e:Value)(a:Addr)(vs:List Value)(ns:List Int),
   Ground q loose [] XP w s₀ mg j b.heap->YP w b.heap->
   b.heap.get? h=some o->o.data=.func (docDef d.name d.params d.body d.scope i cd e)->b.heap.CodeRec cd d.name->mg d.name=some (.ref h)->
   b.heap.get? a=some { cls:=.type "list", data:=.seq vs.toArray }->IntsAre vs ns->ns.length<=n->b.gens=#[]->
   codeAny (model l.prog w) callerA (.call (.ref h) ⟨[.ref a],[]⟩) (λr s'=>r=.ok (.ret (.bool true))/\OldK b.heap s'.heap/\s'.os=b.os/\AllBare s'.gens) b) :
  WalkO q loose XP YP l.row.toRowW d [] (λf vs=>PySem.call f vs):=by
 intro w s₀ b mg j G Y h o i cd e x kV ho hd Hi k O3 hg args vals as MB ZJe m y t;obtain rfl:x=.none:=Dflts.none k Q6;obtain rfl:kV=.none:=Dflts.noKw k;obtain⟨a,vs,ns,rfl,rfl,WI,c,g⟩:=ZBp hn MB y;refine enter_call (ZB1 (call w s₀ b mg j h o i cd e a vs ns G Y ho (fd_plain hd) Hi O3 WI c g hg) λr s' p=>?_);obtain⟨rfl,h2,v,u⟩:=p;exact⟨.inl ⟨.bool true,.bool true,[],rfl,λ_=>rfl,.bool true,ZCn l _,λ_=>⟨List.Pairwise.nil,λ_ s=>(nomatch s)⟩⟩,h2,v,u⟩
end ik
namespace L2
variable{w:World}{mg:ZKI}{a f:Addr}{fd:FuncData}{qual x:Str}{sp:Sp}{loose ps:List Str}{X:Cx}{A B c:Prop}
theorem kc:∀{vs:List Value}{ns:List Int},IntsAre vs ns->Vals (ns.map V.int) vs
 |_,_,.nil=>.nil
 |_,_,.cons n t h=>.cons ⟨t,rfl⟩ (kc h)
def Xe(H:Hp):Prop:=∀b,H b=none∨∃o xs,H b=some (.Ct o (.lst xs))
theorem ZAP{P:Program}{K:ZKG}{p:ZKI}{CX:Gy}{k:Nat}{A:Addr}{c:Shared}{vs:List Value}{ns:List Int}
  (KX:K.In c.heap) (MZ:c.heap.Ns mainGlobals mg) (f:c.heap.Ns builtinsNs p) (y:∀x:Str,x ≠"__name__" -> p x=bootBuiltins x) (N:c.heap.NoLimit) (hg:c.gens=#[])
  (j:c.heap.get? a=some { cls:=.type "list", data:=.seq vs.toArray }) (hi:IntsAre vs ns) (hl:ns.length<=sizeLine) (hr:Bq k callerA)
  (F:∀Zy:Heap,K.In Zy->Zy.Ns mainGlobals mg->Dm P w K mg Zy CX k A fd [x] sp) (ZD1:∀(s:Shared)(u:Value),BindsTo s fd ⟨[u],[]⟩ [(x,u)])
  (GR:∀H:Hp,Xe H->AK K H a (ns.map V.int)->sp [.ref a] H (λv _=>v=.bl true) λ_ _ _=>False)
  (Vg:∀H e s',CX [] H c (λ_ _ _=>False) e s'->False) :
  codeAny (model P w) callerA (.call (.ref A) ⟨[.ref a],[]⟩) (λr s'=>r=.ok (.ret (.bool true))/\OldK c.heap s'.heap/\s'.os=c.os/\AllBare s'.gens) c:=by
 have D:=kc hi;have C:=hi.length
 -- from an abstract heap in ZKC nothing but Hl j4 may be tracked
 have g:∀H:Hp,Xe H->AK K H a (ns.map V.int)->CH P w H c.heap->(∀b,H b≠none->b=a)->(H a≠none->K.lookup a=none)->
   codeAny (model P w) callerA (.call (.ref A) ⟨[.ref a],[]⟩) (λr s'=>r=.ok (.ret (.bool true))/\OldK c.heap s'.heap/\s'.os=c.os/\AllBare s'.gens) c:=by
  intro H G R AQ I T;have E:∀{b:Addr}{o:Obj},c.heap.get? b=some o->H b=none->(Jd c.heap H).get? b=some o:=λe n=>ZCX e n;have X:∀{b:Addr}{o:Obj}{es:Array DictEntry}{ep:Nat},c.heap.get? b=some o->o.data=.dict es ep->H b=none:=λ{b o es ep}e d=>by
   cases q:H b with
   |none=>rfl
   |some u=>
    have B:b=a:=I b (by rw[q];simp);subst B;rw[j]at e;cases e;have d':Data.seq vs.toArray _=Data.dict es ep:=d;cases d'
  have l:∀{b:Addr}{m:ZKI},c.heap.Ns b m->(Jd c.heap H).Ns b m:=λ{b m}AO=>by obtain⟨o,es,ep,e,d,r⟩:=AO;exact⟨o,es,ep,E e (X e d),d,r⟩
  have L:K.In (Jd c.heap H):=λb o e=>E (KX b o e) (by
   cases q:H b with
   |none=>rfl
   |some u=>
    have B:b=a:=I b (by rw[q];simp);subst B;rw[T (by rw[q];simp)]at e;cases e)
  have S:Mod K mg (Jd c.heap H):=⟨L,l MZ,⟨p,l f,y⟩,let ⟨mc,h1,h2⟩:=N;⟨mc,l h1,h2⟩⟩;have e0:L6 P w K mg (Jd c.heap H) callerA [] c H:=⟨rfl,S,λb o e=>ZEM e,oh (ZA1 _ _),trivial,λb f=>absurd (show b∈([]:List Addr)from f) (by simp),AQ,.of_eq hg⟩;refine ZB1 ((F _ L (l MZ)).run callerA [] c H ⟨[.ref a],[]⟩ [.ref a] [.ref a] _ _ hr e0 (ZD1 c (.ref a)) (.cons rfl .nil) (GR H G R)) λr s' h=>?_;cases r with
  |error e=>exact(Vg H e s' h).elim
  |ok U=>
   cases U with
   |next=>exact False.elim h
   |brk=>exact False.elim h
   |cont=>exact False.elim h
   |ret u=>
    obtain⟨v,H',os,bare,un,ZBu,O,q⟩:=h;have Q:v=.bl true:=q;subst Q;obtain rfl:u=Value.bool true:=O;refine⟨rfl,OldK.of_keep λb o e=>?_,os,bare⟩;cases q:H b with
    |none=>exact un.keep b o e q (by intro z;exact absurd (show b∈([]:List Addr)from z) (by simp)) (by simp)
    |some u=>
     rcases G b with z|⟨ob,xs,z⟩
     .rw[q]at z;cases z
     .have M:=un.HS b ob _ z;obtain⟨J,_⟩:=AQ b _ z;obtain⟨W,_⟩:=ZBu b _ M;rw[e]at J;cases J;exact W
 cases t:K.lookup a with
 |some o=>
  -- Hl j4 is one of Hl ZJu own objects
  have e:=KX a o t;rw[j]at e;cases e;refine g (λ_=>none) (λ_=>.inl rfl) (.inr ⟨_,vs.toArray,_,t,rfl,rfl,rfl,by rw[C1,C];exact hl,by simpa using D⟩) (λb u z=>by have i:(none:Option HO)=some u:=z;cases i) (λb z=>absurd rfl z) λz=>absurd rfl z
 |none=>
  refine g (λb=>if b=a then some (.Ct { cls:=.type "list", data:=.seq vs.toArray } (.lst (ns.map V.int)))else none) (λb=>?_) (.inl (.inr ⟨{ cls:=.type "list", data:=.seq vs.toArray },tU rfl⟩)) (λb u z=>?_) (λb z=>?_) λ_=>t
  .by_cases f:b=a
   .exact .inr ⟨_,_,tU f⟩
   .exact .inl (tJ f)
  .by_cases f:b=a
   .have i:=(tU f).symm.trans z;cases i;subst f;exact⟨j,by rw[AS];exact hl,vs,_,D,j⟩
   .have i:=(tJ f).symm.trans z;cases i
  .by_cases f:b=a
   .exact f
   .exact absurd (tJ f) z
theorem ZDG{l:PySem.W.OpenLaw}{n k:Nat}{q:Program}{XP:(ZKI)->Heap->Prop}{YP:World->Heap->Prop}{d:DefRec}{K:Params->ZKG}{CX:World->Gy}{sp:World->Sp}
  (hn:l.most=some n) (Sy:n<=sizeLine) (Q6:d.params.defaults=[]) (r:Bq k callerA)
  (y:∀(w:World)(h:Heap),YP w h->(K w.params).In h)
  (F:∀(w:World)(mg:ZKI)(j:Addr)(h:Heap),(K w.params).In h->h.Ns mainGlobals mg->mg d.name=some (.ref j)->
   ∃fd:FuncData,(∀(s:Shared)(u:Value),BindsTo s fd ⟨[u],[]⟩ [(x,u)])/\
    ∀Zy:Heap,(K w.params).In Zy->Zy.Ns mainGlobals mg->Dm l.prog w (K w.params) mg Zy (CX w) k j fd [x] (sp w))
  (GR:∀(w:World)(H:Hp)(a:Addr)(ns:List Int),ns.length<=n->Xe H->AK (K w.params) H a (ns.map V.int)->sp w [.ref a] H (λv _=>v=.bl true) λ_ _ _=>False)
  (Vg:∀(w:World)(H:Hp)(s:Shared)(e:Value)(s':Shared),CX w [] H s (λ_ _ _=>False) e s'->False) :
  PySem.W.WalkO q loose XP YP l.row.toRowW d [] (λf vs=>PySem.call f vs):=by
 refine ik.ZHs hn Q6 λw s₀ p mg E j o D cd C a vs ns G Y ho hd Hi O3 WI i c hg=>?_;have m:=y w _ Y;obtain⟨fd,t,B⟩:=F w mg j _ m G.T.g O3;exact ZAP m G.T.g G.T.b G.T.builtins G.T.nolimit hg WI i (C7 c Sy) r B t (λH A z=>GR w H a ns c A z) λH e s'=>Vg w H p e s'
def PD(s:Stmt):Arguments:=match s with
 | .FunctionDef _ a _ _ _ _ _ _ _ _=>a
 |_=>{ posonlyargs:=[],args:=[],vararg:=none,kwonlyargs:=[],kw_defaults:=[],kwarg:=none,defaults:=[] }
def Ls(s:Stmt):List Stmt:=match s with
 | .FunctionDef _ _ b _ _ _ _ _ _ _=>b
 |_=>[]
def AR(s:Stmt):Scope:=match s with
 | .FunctionDef _ _ _ _ _ _ sc _ _ _=>sc
 |_=>{ kind:=.function,names:=[],isGenerator:=false,isCoroutine:=false }
abbrev GH:Gy:=λ_ _ _ _ _ _=>False
abbrev E0:XK:=λ_ _ _=>False
theorem Tz:Passes GH X E0:=λ_ _ _ _ _ _ _ h=>h.elim
structure AF (K:ZKG) (x qual:Str) (st:Stmt) (f:Addr) (fd:FuncData):Prop where
 ex:∃(oc:Value)(od:Option Addr)(kV doc pm:Value)(an:Option Addr)(AV ct:Value)(Hh:Array (Option Value)),
  fd=PySem.W.fnOf x qual (PD st) (Ls st) (AR st) .none kV doc pm an AV ct/\K.lookup f=some ⟨oc,od,.func fd,Hh⟩/\PySem.W.codeIn K AV qual=true
 kp:PySem.W.keepIn K (.ref f)=true
section
variable{P:Program}{K:ZKG}{Zy:Heap}
theorem AF.ok{st:Stmt}{N:List Str}{k:Nat}(F:AF K x qual st f fd)(S:Ai N ps (AR st))(len:∀vs H Q E,sp vs H Q E->vs.length=ps.length)
  (Nr:∀(AV:Value)(A:Around)(outer:List Env)(s:Shared)(H:Hp)(vs:List V)(Q:VK)(E:XK),Bq k (A.deeper (envOfC qual (AR st) s.heap.objs.size f AV))->sp vs H Q E->
   ∃t,En (LM GH P w K mg Zy N qual (AR st) f AV A outer s H E).Nz (Ls st) t/\t { nx:=λ_ H'=>Q .AG H',rt:=Q } (start N vs) H):Dm P w K mg Zy GH (k+1) f fd ps sp:=by
 obtain⟨g,e,kV,c,d,i,AV,ct,Hh,rfl,a,Hi⟩:=F.ex;refine ZH6 a Hi S len λA outer s H vs Q E b GR=>?_;obtain⟨t,h,q⟩:=Nr AV A outer s H vs Q E b GR;exact⟨t,h.Nz,q⟩
theorem AF.binds{st:Stmt}(F:AF K x qual st f fd)
  (h:∀(kV a b:Value)(c:Option Addr)(AV ct:Value)(us:List Value),us.length=ps.length->bindArgs (PySem.W.fnOf x qual (PD st) (Ls st) (AR st) .none kV a b c AV ct) ⟨us,[]⟩=pure (ps.zip us)):Binds K fd ps []:=by
 obtain⟨e,d,kV,a,b,c,AV,ct,Hh,rfl,g,Hi⟩:=F.ex;exact .all (h kV a b c AV ct)
theorem sR{st:Stmt}{g:Value}{e d:Option Addr}{Hh:Array (Option Value)}{kV a b AV ct:Value}(l:K.lookup f=some ⟨g,e,.func (PySem.W.fnOf x qual (PD st) (Ls st) (AR st) .none kV a b d AV ct),Hh⟩)
  (c:PySem.W.codeIn K AV qual=true) (k:PySem.W.keepIn K (.ref f)=true):AF K x qual st f (PySem.W.fnOf x qual (PD st) (Ls st) (AR st) .none kV a b d AV ct):=⟨⟨g,e,kV,a,b,d,AV,ct,Hh,rfl,l,c⟩,k⟩
end
theorem BM{A:Around}{k:Nat}(a:Bq k A):A.units+1<cLine:=Hw (Nat.add_le_add_left (by decide:1<=64) _) a.units
theorem DQ(h:B):if false=true then A else B:=by
 rw[tJ De];exact h
theorem PX(h:A):if true=true then A else B:=by
 rw[tU rfl];exact h
theorem B3[Decidable c](h1:c->A)(h2:¬ c->B):if c then A else B:=by
 by_cases h:c
 .rw[tU h];exact h1 h
 .rw[tJ h];exact h2 h
theorem Sn[Decidable c](a:c)(h:B):if(!decide c)=true then A else B:=by
 rw[rD a];exact DQ h
def A9(H H':Hp):Prop:=∀b o,H b=some o->H' b=some o
theorem A9.refl(H:Hp):A9 H H:=λ_ _ h=>h
theorem A9.trans{H H1 H2:Hp}(a:A9 H H1)(b:A9 H1 H2):A9 H H2:=λc o h=>b c o (a c o h)
theorem A9.seq{K:ZKG}{H H':Hp}{xs:List V}(e:A9 H H')(h:AK K H a xs):AK K H' a xs:=by
 rcases h with(h|⟨o,h⟩)|h
 .exact .inl (.inl (e _ _ h))
 .exact .inl (.inr ⟨o,e _ _ h⟩)
 .exact .inr h
end L2
set_option maxHeartbeats 4000000
namespace L2
variable{α κ:Type}{A6:List (List Key×V)}{o:Option V}{u:Value}{v y:V}{w:World}{H H' H1 H2 H4:Hp}{xs:List (List Key×Addr×Value)}{C a acc b it n:Addr}{X Y:Cx}{Zh:ZKH}{ws Z:St}{s s2 s4:Shared}{A:Around}{E Q:Value->Shared->Prop}{h' h1:Heap}{i j n0 t':Nat}{prog:Program}{env:Env}{c e elt tg value:Expr}{Kg pos px py:Pos}{td te tv:TE}{outer scope:Scope}{cl closure:List (Str×Addr)}{qual x z:Str}{ce:Option Str}{ifs:List Expr}{R:Result->Shared->Prop}{js:List Nat}{tt:TT}{J:It}{tn:Nat->Heap->Prop}{wi:TI}{CW:It->St->Hp->Addr->VK->Prop}{N:List Str}{tp:Bool}{ys:List V}{A5:List Value}
section
variable[DecidableEq κ]
noncomputable def Dx(A6:List (κ×V))(k:κ):Option V:=(A6.find? λa=>decide (a.1=k)).map (·.2)
def putK(A6:List (κ×V))(k:κ)(v:V):List (κ×V):=
 if(A6.any λa=>decide (a.1=k))=true then A6.map (λa=>if a.1=k then(a.1,v)else a)else A6++[(k,v)]
noncomputable def Jv(A6:List (κ×V))(k:κ):List (κ×V):=A6.filter λa=>decide (a.1≠k)
theorem Mz{p:κ×V}{r:List (κ×V)}{k:κ}(e:p.1=k):Dx (p::r) k=some p.2:=by simp[Dx,QH,e]
theorem NP{p:κ×V}{r:List (κ×V)}{k:κ}(e:¬ p.1=k):Dx (p::r) k=Dx r k:=by simp[Dx,QH,e]
theorem TR(k:κ):∀A6:List (κ×V),(A6.any λa=>decide (a.1=k))=(Dx A6 k).isSome
 | []=>rfl
 |p::r=>by
  rw[Na]
  by_cases e:p.1=k
  .simp only[Mz e,rD e,Bool.true_or,ZJD]
  .rw[NP e,uB e,Bool.false_or];exact TR k r
theorem X1(A6:List (κ×V))(k:κ)(v:V):(putK A6 k v).length<=A6.length+1:=by
 unfold putK;split
 .rw[AS];omega
 .rw[BE,Ba,UW];omega
theorem Td{A6:List (κ×V)}{k:κ}(v:V)(h:Dx A6 k=none):putK A6 k v=A6++[(k,v)]:=by
 unfold putK;rw[TR,h];exact tJ (by decide)
theorem Er.PU{u:Option Value}(r:Er o u):o.isSome=u.isSome:=by
 cases o with
 |none=>cases u with
  |none=>rfl
  |some _=>exact(show False from r).elim
 |some _=>cases u with
  |none=>exact(show False from r).elim
  |some _=>rfl
theorem KV.val{A6:List (κ×V)}{vs:List (κ×Value)}(r:KV A6 vs)(k:κ):Er (Dx A6 k) (valueAt vs k):=by
 unfold KV at r
 induction r with
 |nil=>exact True.intro
 |@cons p q ps a h t d=>
  obtain⟨h1,h2⟩:=h
  by_cases e:p.1=k
  .have c:q.1=k:=h1.symm.trans e;have b:valueAt (q::a) k=some q.2:=by simp[valueAt,QH,c]
   rw[Mz e,b];exact h2
  .have c:¬ q.1=k:=λz=>e (h1.trans z);have b:valueAt (q::a) k=valueAt a k:=by simp[valueAt,QH,c]
   rw[NP e,b];exact d
theorem KV.any{A6:List (κ×V)}{vs:List (κ×Value)}(r:KV A6 vs)(k:κ):(A6.any λa=>decide (a.1=k))=vs.any λa=>decide (a.1=k):=by
 unfold KV at r
 induction r with
 |nil=>rfl
 |cons h t b=>rw[Na,Na,b,h.1]
theorem KV.Wy{A6:List (κ×V)}{vs:List (κ×Value)}(r:KV A6 vs)(k:κ)(b:RelV y u):
  KV (A6.map λa=>if a.1=k then(a.1,y)else a) (vs.map λa=>if a.1=k then(a.1,u)else a):=by
 unfold KV at r ⊢
 induction r with
 |nil=>exact .nil
 |@cons p q ps d h t c=>
  rw[Bu,Bu];refine .cons ?_ c;obtain⟨h1,h2⟩:=h
  by_cases e:p.1=k
  .rw[tU e,tU (h1.symm.trans e)];exact⟨h1,b⟩
  .rw[tJ e,tJ (λz=>e (h1.trans z))];exact⟨h1,h2⟩
theorem KV.put{A6:List (κ×V)}{vs:List (κ×Value)}(r:KV A6 vs)(k:κ)(a:RelV y u):KV (putK A6 k y) (stored vs k u):=by
 unfold putK stored;rw[r.any k]
 by_cases e:(vs.any λb=>decide (b.1=k))=true
 .rw[tU e,tU e];exact r.Wy k a
 .rw[tJ e,tJ e];exact Paired.snoc r ⟨rfl,a⟩
theorem KV.drop{A6:List (κ×V)}{vs:List (κ×Value)}(r:KV A6 vs)(k:κ):KV (Jv A6 k) (without vs k):=by
 unfold KV at r ⊢;unfold Jv without
 induction r with
 |nil=>exact .nil
 |@cons p q ps f h t c=>
  obtain⟨h1,h2⟩:=h;rw[QF,QF]
  by_cases e:p.1=k
  .have a:¬ decide (p.1≠k)=true:=by simp[e]
   have b:¬ decide (q.1≠k)=true:=by simp[h1.symm.trans e]
   rw[tJ a,tJ b];exact c
  .have d:¬ q.1=k:=λz=>e (h1.trans z);have a:decide (p.1≠k)=true:=by simp[e]
   have b:decide (q.1≠k)=true:=by simp[d]
   rw[tU a,tU b];exact .cons ⟨h1,h2⟩ c
theorem KV.keys{A6:List (κ×V)}{vs:List (κ×Value)}(r:KV A6 vs):A6.map (·.1)=vs.map (·.1):=by
 unfold KV at r
 induction r with
 |nil=>rfl
 |cons h t a=>rw[Bu,Bu,a,h.1]
theorem KV.length{A6:List (κ×V)}{vs:List (κ×Value)}(r:KV A6 vs):A6.length=vs.length:=ot r
theorem tL(A6:List (κ×V))(k:κ):(Jv A6 k).length<=A6.length:=Ga _ _
end
theorem LD{P:Program}{k:Key}(r:RelV (kV k) u):(C9 P w).is k u=true:=by
 cases k with
 |inl i=>obtain⟨t,e⟩:=(show ∃t,u=Value.int i t from r);subst e;exact ZGP P w i t
 |inr x=>obtain⟨t,e⟩:=(show ∃t,u=Value.str x t from r);subst e;exact xF P w x t
theorem ba{P:Program}{w:World}:∀{ks:List Key}{us:List Value},Vals (ks.map kV) us->ItemsAre (C9 P w) ks us
 | [],_,r=>by rw[bL]at r;cases r;exact .nil
 |k::ks,_,r=>by
  rw[Bu]at r;cases r with
  |cons h t=>exact .cons (LD h) (ba t)
abbrev KT(H:Hp):List (List Key×V)->List (List Key×Addr×Value)->Prop:=Paired λp q=>p.1=q.1/\H q.2.1=some (.tup (p.1.map kV))/\RelV p.2 q.2.2
theorem KT.val(r:KT H A6 xs)(k:List Key):Er (Dx A6 k) ((atKey xs k).map (·.2)):=by
 induction r with
 |nil=>exact True.intro
 |@cons p q ps a h t d=>
  obtain⟨h1,_,h2⟩:=h
  by_cases e:p.1=k
  .have c:q.1=k:=h1.symm.trans e;have b:atKey (q::a) k=some q.2:=by simp[atKey,QH,c]
   rw[Mz e,b];exact h2
  .have c:¬ q.1=k:=λz=>e (h1.trans z);have b:atKey (q::a) k=atKey a k:=by simp[atKey,QH,c]
   rw[NP e,b];exact d
theorem KT.Wy(r:KT H A6 xs)(k:List Key)(b:RelV y u):
  KT H (A6.map λa=>if a.1=k then(a.1,y)else a) (xs.map (putAt k u)):=by
 induction r with
 |nil=>exact .nil
 |@cons p q ps f h t c=>
  rw[Bu,Bu];refine .cons ?_ c;obtain⟨h1,h2,d⟩:=h;unfold putAt
  by_cases e:p.1=k
  .rw[tU e,tU (h1.symm.trans e)];exact⟨h1,h2,b⟩
  .rw[tJ e,tJ (λz=>e (h1.trans z))];exact⟨h1,h2,d⟩
theorem KT.put(r:KT H A6 xs)(k:List Key)(d:H b=some (.tup (k.map kV)))(a:RelV y u):
  KT H (putK A6 k y) (storedH xs k b u):=by
 have e:(A6.any λc=>decide (c.1=k))=(atKey xs k).isSome:=by
  rw[TR,(r.val k).PU,bV]
 unfold putK storedH;rw[e]
 by_cases q:(atKey xs k).isSome=true
 .rw[tU q,tU q];exact r.Wy k a
 .rw[tJ q,tJ q];exact Paired.snoc r ⟨rfl,d,a⟩
theorem KT.keeps(r:KT H A6 xs)(a:∀b ys,H b=some (.tup ys)->H' b=some (.tup ys)):KT H' A6 xs:=
 Paired.XJ r λ_ _ z=>⟨z.1,a _ _ z.2.1,z.2.2⟩
section
variable{P:Program}{h:Heap}
theorem eI{u:HO}(ok:CH P w H h)(e:Rd H a u):CC P w H h a u:=e.ok ok
theorem IP{A6:List (Key×V)}(ok:CH P w H h)(e:Rd H a (.dK A6)):A6.length<=sizeLine/\(a == sysModules)=false/\∃vs,KV A6 vs/\h.DictOf (C9 P w) a vs:=
 show CC P w H h a (.dK A6)from eI ok e
theorem Zf{A6:List (Key×V)}(ok:CH P w H h)(e:H a=some (.dK A6)):A6.length<=sizeLine/\(a == sysModules)=false/\∃vs,KV A6 vs/\h.DictOf (C9 P w) a vs:=IP ok (.inl e)
theorem Oj{ks:List Key}(ok:CH P w H h)(e:H a=some (.tup (ks.map kV))):(tupleKind (C9 P w)).is h ks a:=by
 obtain⟨_,A5,r,⟨o,h1,h2,n,b⟩,_⟩:=(show CC P w H h a (.tup (ks.map kV))from ok a _ e);exact⟨o,A5.toArray,n,h1,h2,b,by simpa using ba r⟩
theorem NH(ok:CH P w H h)(e:Rd H a (.dT A6)):A6.length<=sizeLine/\(a == sysModules)=false/\
  ∃xs,KT H A6 xs/\h.DictOfH (tupleKind (C9 P w)) a xs:=by
 obtain⟨z,y,xs,r,o,es,ep,h1,h2,g,f,d⟩:=(show CC P w H h a (.dT A6)from eI ok e);refine⟨z,y,xs,r,o,es,ep,h1,h2,g,f,λx hx=>?_,d⟩;have all:∀{l:List (List Key×V)}{m:List (List Key×Addr×Value)},KT H l m->∀x∈m,(tupleKind (C9 P w)).is h x.1 x.2.1:=by
  intro l m q
  induction q with
  |nil=>intro x hx;exact nomatch hx
  |@cons p q ps i b t c=>
   intro x hx;rcases List.mem_cons.mp hx with e|hx
   .subst e;exact Oj ok (by rw[<- b.1];exact b.2.1)
   .exact c x hx
 exact all r x hx
theorem ZAD(ok:CH P w H h)(e:H a=some (.dT A6)):A6.length<=sizeLine/\(a == sysModules)=false/\
  ∃xs,KT H A6 xs/\h.DictOfH (tupleKind (C9 P w)) a xs:=NH ok (.inl e)
end
def FC(H:Hp)(a:Addr)(y:V)(r:Option V):Prop:=
 (∃A6 k,Rd H a (.dK A6)/\y=kV k/\r=Dx A6 k)∨∃A6 k b,Rd H a (.dT A6)/\y=.ref b/\H b=some (.tup (k.map kV))/\r=Dx A6 k
def OD(H:Hp)(a:Addr)(y v:V)(H':Hp):Prop:=
 (∃A6 k,H a=some (.dK A6)/\y=kV k/\A6.length<sizeLine/\H'=upd H a (.dK (putK A6 k v)))∨
 ∃A6 k b,H a=some (.dT A6)/\y=.ref b/\H b=some (.tup (k.map kV))/\A6.length<sizeLine/\H'=upd H a (.dT (putK A6 k v))
theorem FC.k{A6:List (Key×V)}{k:Key}(e:H a=some (.dK A6)):FC H a (kV k) (Dx A6 k):=.inl ⟨A6,k,.inl e,rfl,rfl⟩
theorem OD.k{A6:List (Key×V)}{k:Key}(e:H a=some (.dK A6))(b:A6.length<sizeLine):OD H a (kV k) v (upd H a (.dK (putK A6 k v))):=.inl ⟨A6,k,e,rfl,b,rfl⟩
section
variable{r:Value}
theorem Inv.big(I:Inv X Zh Z H s):sysModules<s.heap.objs.size:=by
 have h:mainGlobals<s.heap.objs.size:=(I.mod.glob.keeps I.bk).lt;exact Nat.lt_trans (by decide) h
theorem xp(hu:A.units+1<cLine)(I:Inv X Zh Z H s)(g:FC H a y (some v))(f:RelV y u)(h:∀c s',Inv X Zh Z H s'->RelV v c->Q c s'):
  wpAny (model X.prog X.w) A (getItem (.ref a) u) Q E s:=by
 rcases g with⟨A6,k,e,d,l⟩|⟨A6,k,b,e,d,i,l⟩
 .subst d;obtain⟨z,hd,vs,rel,dd⟩:=IP I.AQ e;obtain⟨c,hw,GV⟩:=Er.some_of (v:=v) (o:=valueAt vs k) (by rw[l];exact rel.val k);exact wpAny_getItem_of (LD f) dd.mapOf hw (h c _ (I.tok _) GV)
 .subst d;cases(show u=Value.ref b from f);obtain⟨z,hd,xs,rel,dd⟩:=NH I.AQ e;obtain⟨c,hw,GV⟩:=Er.some_of (v:=v) (o:=(atKey xs k).map (·.2)) (by rw[l];exact rel.val k)
  obtain⟨p,hp,Q8⟩:=Option.map_eq_some_iff.mp hw;refine wpAny_getItem_heap (ZAr hu) (Oj I.AQ i) dd hp ?_;rw[Q8];exact h c _ (I.tok _) GV
theorem uL(hu:A.units+1<cLine)(I:Inv X Zh Z H s)(g:FC H a y o)(d:RelV y u)(h:∀s',Inv X Zh Z H s'->Q (.bool o.isSome) s'):
  wpAny (model X.prog X.w) A (compareOp .In u (.ref a)) Q E s:=by
 rcases g with⟨A6,k,e,c,l⟩|⟨A6,k,b,e,c,f,l⟩
 .subst c;obtain⟨z,hd,vs,rel,dd⟩:=IP I.AQ e;refine wpAny_in_of (LD d) hd dd.mapOf ?_;rw[<- (rel.val k).PU,<- l];exact h _ (I.tok _)
 .subst c;cases(show u=Value.ref b from d);obtain⟨z,hd,xs,rel,dd⟩:=NH I.AQ e;refine wpAny_in_heap (ZAr hu) (Oj I.AQ f) hd dd ?_;have q:=(rel.val k).PU;rw[bV]at q;rw[<- q,<- l];exact h _ (I.tok _)
theorem yh(hu:A.units+1<cLine)(I:Inv X Zh Z H s)(g:FC H a y o)(d:RelV y u)(h:∀s',Inv X Zh Z H s'->Q (.bool (!o.isSome)) s'):
  wpAny (model X.prog X.w) A (compareOp .NotIn u (.ref a)) Q E s:=by
 rcases g with⟨A6,k,e,c,l⟩|⟨A6,k,b,e,c,f,l⟩
 .subst c;obtain⟨z,hd,vs,rel,dd⟩:=IP I.AQ e;refine wpAny_notIn_of (LD d) hd dd.mapOf ?_;rw[<- (rel.val k).PU,<- l];exact h _ (I.tok _)
 .subst c;cases(show u=Value.ref b from d);obtain⟨z,hd,xs,rel,dd⟩:=NH I.AQ e;refine wpAny_notIn_heap (ZAr hu) (Oj I.AQ f) hd dd ?_;have q:=(rel.val k).PU;rw[bV]at q;rw[<- q,<- l];exact h _ (I.tok _)
theorem To{ob:HO}(I:Inv X Zh Z H s)(c:P5 (H a))(hs:Heap.SameBut a s.heap h')(d:∃q,h'.get? a=some q)(new:CC X.prog X.w (upd H a ob) h' a ob):
  Inv X Zh Z (upd H a ob) { s with heap:=h',toks:=t' }:=
 I.write (x:=a) (e:=a) c (.inl rfl) (λb q f z=>(hs.2 b f).trans z) d new
theorem XM{P:Program}{A6:List (Key×V)}{vs:List (Key×Value)}(z:A6.length<=sizeLine)(hd:(a == sysModules)=false)(rel:KV A6 vs)(dd:h'.DictOf (C9 P w) a vs):
  CC P w H' h' a (.dK A6):=⟨z,hd,vs,rel,dd⟩
theorem ZA6{Q:Unit->Shared->Prop}(hu:A.units+1<cLine)(I:Inv X Zh Z H s)(g:OD H a y v H')(n:RelV y u)(o:RelV v r)(h:∀s',Inv X Zh Z H' s'->Q () s'):
  wpAny (model X.prog X.w) A (setItem (.ref a) u r) Q E s:=by
 rcases g with⟨A6,k,e,j,l,m⟩|⟨A6,k,b,e,j,t,l,m⟩
 .subst j m;obtain⟨z,hd,vs,rel,dd⟩:=Zf I.AQ e;have f:vs.length<=sizeLine:=by rw[<- rel.length];exact z
  have i:(putK A6 k v).length<=sizeLine:=by have:=X1 A6 k v;omega
  refine wpAny_setItem_pairs (hsz:=f) (LD n) dd λh' IS hs=>h _ ?_;have x:∃q,h'.get? a=some q:=let ⟨q,_,_,d,_⟩:=IS;⟨q,d⟩;exact To I (by rw[e];exact True.intro) hs x (XM i hd (rel.put k o) IS)
 .subst j m;cases(show u=Value.ref b from n);obtain⟨z,hd,xs,rel,dd⟩:=ZAD I.AQ e;have f:xs.length<=sizeLine:=by rw[<- ot rel];exact z
  have i:(putK A6 k v).length<=sizeLine:=by have:=X1 A6 k v;omega
  refine wpAny_setItem_heap (hsz:=f) (ZAr hu) (Oj I.AQ t) dd λh' IS hs=>h _ ?_;obtain⟨q,es,ep,d,h2,D,C,_,B⟩:=IS;refine To I (by rw[e];exact True.intro) hs ⟨q,d⟩ ⟨i,hd,_,(rel.put k t o).keeps λc ys p=>?_,q,es,ep,d,h2,D,C,B⟩;rw[Ah (ZFY p e (λz=>nomatch z))];exact p
variable{A6:List (Key×V)}{k:Key}
theorem xK{more:List Value}(I:Inv X Zh Z H s)(e:H a=some (.dK A6))(c:RelV (kV k) u)(l:Dx A6 k=some v)(d:more=[]∨∃x,more=[x])
  (h:∀b s',Inv X Zh Z (upd H a (.dK (Jv A6 k))) s'->RelV v b->Q b s'):wpAny (model X.prog X.w) A (call (.builtin "dict.pop") (.ref a::u::more)) Q E s:=by
 obtain⟨z,hd,vs,rel,dd⟩:=Zf I.AQ e;obtain⟨b,hw,GV⟩:=Er.some_of (v:=v) (o:=valueAt vs k) (by rw[<- l];exact rel.val k);have hp:(keyPart u).isSome=true:=by
  cases k with
  |inl i=>obtain⟨t,q⟩:=(show ∃t,u=Value.int i t from c);subst q;rfl
  |inr x=>obtain⟨t,q⟩:=(show ∃t,u=Value.str x t from c);subst q;rfl
 have g:argsOk "dict.pop" ⟨.ref a::u::more,[]⟩:=by
  rcases d with q|⟨x,q⟩
  .subst q;exact PySem.F.args_dict_pop_2 _ _
  .subst q;exact PySem.F.args_dict_pop_3 _ _ _
 refine call_meetsIn ZJG dd.typeIs PySem.F.entry_dict_pop g (meets_dict_pop_there (C9 X.prog X.w) a (LD c) more d hp)
  ⟨vs,b,dd,by rw[<- rel.length];exact z,hw,λh' IS hs=>h b _ ?_ GV⟩
 have f:∃q,h'.get? a=some q:=let ⟨q,_,_,hq,_⟩:=IS;⟨q,hq⟩;exact To I (by rw[e];exact True.intro) hs f (XM (C7 (tL A6 k) z) hd (rel.drop k) IS)
theorem ZAJ(I:Inv X Zh Z H s)(e:Rd H a (.dK A6))(h:∀t s',Inv X Zh Z H s'->Q (.int A6.length t) s'):wpAny (model X.prog X.w) A (call (.builtin "len") [.ref a]) Q E s:=by
 obtain⟨z,hd,vs,rel,dd⟩:=IP I.AQ e;refine call_len_dict hd dd (by rw[<- rel.length];rw[ZBi]at z;omega) ?_;rw[<- rel.length];exact h _ _ (I.tok _)
end
def Ux(i:Expr):Prop:=∀a b,subscripted i false a b=operate [a,b] (getItem a b)
theorem zJ{a:Expr}{T id:String}
  (l:typeLookup (.type T) "__getitem__"=pure (some (.builtin id))) (hs:Ux a)
  (h:wpAny (model prog w) A (eval value env) (λo f=>wpAny (model prog w) A (eval a env) (λi c=>c.TypeIs o T/\wpAny (model prog w) A (getItem o i) Q E c) E f) E s) :
  wpAny (model prog w) A (eval (.Subscript value a pos) env) Q E s:=by
 refine Subscript_ (v9 h (λo f k=>v9 k (λi c d=>?_) λ_ _ x=>x) λ_ _ x=>x);obtain⟨g,d⟩:=d;unfold subscriptTail;refine pk ?_;rw[getitemInPython_of_ne g.not_modules];refine pk (ZAI g l ?_);have b:wpAny (model prog w) A (subscripted a false o i) (λr e=>wpAny (model prog w) A (letTemporaryGo value o r >>= λ_=>pure r) Q E e) E c:=by
  rw[hs o i];exact wpAny_operating (v9 d (λr e j=>pk (wpAny_letTemporaryGo (qL j))) λ_ _ x=>x)
 first
  |exact qL (pk b)
  |exact pk (qL (pk b))
  |exact pk b
theorem xn(I:Inv X Zh Z H s)(g:FC H a y o):s.TypeIs (.ref a) "dict" := by
 rcases g with⟨A6,k,e,_,_⟩|⟨A6,k,b,e,_,_,_⟩
 .obtain⟨_,_,vs,_,dd⟩:=IP I.AQ e;exact dd.typeIs
 .obtain⟨_,_,xs,_,dd⟩:=NH I.AQ e;exact dd.typeIs
def GJ(td ty:TE):TE:=λZ H Q=>td Z H λx H1=>ty Z H1 λy H2=>∃a v,x=.ref a/\FC H2 a y (some v)/\Q v H2
def ZQ(ty td:TE):TE:=λZ H Q=>ty Z H λy H1=>td Z H1 λx H2=>∃a o,x=.ref a/\FC H2 a y o/\Q (.bl o.isSome) H2
def WU(ty td:TE):TE:=λZ H Q=>ty Z H λy H1=>td Z H1 λx H2=>∃a o,x=.ref a/\FC H2 a y o/\Q (.bl (!o.isSome)) H2
def Xr(td ty tv:TE):TS:=λD Z H=>tv Z H λv H1=>td Z H1 λx H2=>ty Z H2 λy H3=>∃a H4,x=.ref a/\OD H3 a y v H4/\D.nx Z H4
section
variable{o i:Expr}{pos' aW:Pos}{ty:TE}
theorem ZAv(hu:X.A.units+1<cLine)(hi:PE X i ty)(ho:PE X o td):PC X .In i o (ZQ ty td):=by
 intro Zh s Z H Q I h;refine AY (hi Zh s Z H _ I h) λk s1⟨y,H1,I1,b,e⟩=>AY (ho Zh s1 Z H1 _ I1 e) λu s2⟨x,H2,I2,c,a,f,ex,g,d⟩=>?_;subst ex;obtain rfl:u=Value.ref a:=c;exact uL hu I2 g b λj I3=>⟨.bl f.isSome,H2,I3,rfl,d⟩
theorem ZAw(hu:X.A.units+1<cLine)(hi:PE X i ty)(ho:PE X o td):PC X .NotIn i o (WU ty td):=by
 intro Zh s Z H Q I h;refine AY (hi Zh s Z H _ I h) λk s1⟨y,H1,I1,b,e⟩=>AY (ho Zh s1 Z H1 _ I1 e) λu s2⟨x,H2,I2,c,a,f,ex,g,d⟩=>?_;subst ex;obtain rfl:u=Value.ref a:=c;exact yh hu I2 g b λj I3=>⟨.bl (!f.isSome),H2,I3,rfl,d⟩
end
theorem dA{P:Program}(h:Heap)(a:sysModules<h.objs.size):CC P w H (h.push { cls:=.type "dict", data:=.dict #[] }) h.objs.size (.dK []):=
 ⟨CF _,beq_eq_false_iff_ne.mpr (BW (BP a)),[],.nil,Heap.DictOf.new h⟩
def XH:TE:=λ_ H Q=>∀p,H p=none->Q (.ref p) (upd H p (.dK []))
def VP:List (TE×TE)->St->Hp->(List (V×V)->Hp->Prop)->Prop
 | [],_,H,Q=>Q [] H
 | (tk,tv)::r,Z,H,Q=>tk Z H λx H1=>tv Z H1 λy H2=>VP r Z H2 λps H3=>Q ((x,y)::ps) H3
abbrev VV:List (V×V)->List (Value×Value)->Prop:=Paired λp q=>RelV p.1 q.1/\RelV p.2 q.2
def K7(X:Cx)(pos:Pos)(keys:List (Option Expr))(values:List Expr)(Fd:List (TE×TE)):Prop:=
 ∀(Zh:ZKH)(s:Shared)(Z:St)(H:Hp)(Q:List (V×V)->Hp->Prop),Inv X Zh Z H s->VP Fd Z H Q->
  wpAny (model X.prog X.w) X.A (evalPairs (pairTrees keys values X.env pos)) (λvs s'=>∃ps H',Inv X Zh Z H' s'/\VV ps vs/\Q ps H') X.xe s
theorem xg:K7 X pos [] [] []:=λZh s Z H Q I h=>pairTrees_nil_walk ⟨[],H,I,.nil,h⟩
theorem z6{k v:Expr}{ks:List (Option Expr)}{vs:List Expr}{tk:TE}{Fd:List (TE×TE)}(i:PE X k tk)(f:PE X v tv)(g:K7 X pos ks vs Fd):
  K7 X pos (some k::ks) (v::vs) ((tk,tv)::Fd):=λZh s Z H Q I h=>
 pairTrees_cons_walk (AY (i Zh s Z H _ I h) λu s1⟨x,H1,I1,b,e⟩=>AY (f Zh s1 Z H1 _ I1 e) λj s2⟨y,H2,I2,a,d⟩=>
  AY (g Zh s2 Z H2 _ I2 d) λws l⟨ps,H3,I3,rel,c⟩=>⟨(x,y)::ps,H3,I3,.cons ⟨b,a⟩ rel,c⟩)
def KQ(A6 more:List (Key×V)):List (Key×V):=more.foldl (λacc a=>putK acc a.1 a.2) A6
theorem KV.merge:∀{more:List (Key×V)}{rs:List (Key×Value)}{A6:List (Key×V)}{vs:List (Key×Value)},KV more rs->KV A6 vs->KV (KQ A6 more) (merged vs rs):=by
 intro more rs A6 vs r;unfold KV at r
 induction r generalizing A6 vs with
 |nil=>intro q;exact q
 |@cons p q ps c h t b=>
  intro a;have e:KV (putK A6 p.1 p.2) (stored vs q.1 q.2):=by
   have:=a.put p.1 h.2;rw[<- h.1];exact this
  exact b e
theorem ib:∀(more A6:List (Key×V)),(KQ A6 more).length<=A6.length+more.length
 | [],A6=>by show A6.length<=A6.length+0;omega
 |p::r,A6=>by
  have h1:=ib r (putK A6 p.1 p.2);have h2:=X1 A6 p.1 p.2;show(KQ (putK A6 p.1 p.2) r).length<=_;rw[Ba];omega
theorem kg{P:Program}{w:World}:∀{A6:List (Key×V)}{ws:List (Value×Value)},VV (A6.map λd=>(kV d.1,d.2)) ws->∃rs,Carries (C9 P w) ws rs/\KV A6 rs
 | [],_,r=>by rw[bL]at r;cases r;exact⟨[],True.intro,.nil⟩
 |p::A6,_,r=>by
  rw[Bu]at r;cases r with
  |@cons a b as bs h t=>
   obtain⟨rs,c,q⟩:=kg (P:=P) (w:=w) t;obtain⟨f,e⟩:=b;exact⟨(p.1,e)::rs,⟨LD h.1,rfl,c⟩,.cons ⟨rfl,h.2⟩ q⟩
def Xp(Fd:List (TE×TE)):TE:=λZ H Q=>∀p,H p=none->VP Fd Z (upd H p (.dK [])) λps H2=>H2 p=some (.dK [])/\∃A6:List (Key×V),ps=A6.map (λa=>(kV a.1,a.2))/\A6.length<=15/\Q (.ref p) (upd H2 p (.dK (KQ [] A6)))
structure M1 (X:Cx) (o:Expr) (m:Str) (apos:Pos) (e:Expr) (Bz:Pos):Prop where
 base:attributeBase o m X.env (eval o X.env)=eval o X.env
 HB:((backTo Bz (starEach [e] X.env)).all (λx=>!x.1) && (backToKw Bz (keywordEach [] X.env)).all (λx=>x.1.isSome)
  && decide (([e]:List Expr).length+([]:List Keyword).length+(if([]:List Keyword).isEmpty then 0 else 1)<30))=true
 line:(apos.endLine == Bz.line)=true
 trees:backTo Bz (starEach [e] X.env)=[(false,eval e X.env)]
def iT(H:Hp)(a:Addr):Prop:=(∃A6,Rd H a (.dK A6))∨∃A6,Rd H a (.dT A6)
theorem pE(I:Inv X Zh Z H s)(d:iT H a):
  s.TypeIs (.ref a) "dict" /\ (∀b,Value.ref a=.ref b->∃ob,s.heap.get? b=some ob/\ob.dict=none)/\(a == sysModules)=false:=by
 rcases d with⟨A6,e⟩|⟨A6,e⟩
 .obtain⟨_,hd,vs,_,dd⟩:=IP I.AQ e;refine⟨dd.typeIs,λb q=>?_,hd⟩;cases q;obtain⟨ob,_,_,h1,h2,_⟩:=dd;exact⟨ob,h1,h2.2.1⟩
 .obtain⟨_,hd,xs,_,dd⟩:=NH I.AQ e;refine⟨dd.typeIs,λb q=>?_,hd⟩;cases q;obtain⟨ob,_,_,h1,h2,_⟩:=dd;exact⟨ob,h1,h2.2.1⟩
def Wc(td ty:TE):TE:=λZ H Q=>td Z H λx H1=>∃a,x=.ref a/\iT H1 a/\ty Z H1 λy H2=>∃A6 k v,H2 a=some (.dK A6)/\y=kV k/\Dx A6 k=some v/\Q v (upd H2 a (.dK (Jv A6 k)))
theorem vB{β:Type}{l:List α}{f:α->β->Sem (ForInStep β)}(g:β->α->β)(h:∀x∈l,∀c,f x c=pure (.yield (g c x))):∀c,forIn l c f=pure (l.foldl g c):=by
 induction l with
 |nil=>intro c;rfl
 |cons x l a=>
  intro c;rw[List.forIn_cons,h x Cp,pure_bind];exact a (λy b=>h y (D3 _ b)) (g c x)
noncomputable def Kv(cells:List (Str×Addr))(cs:List (Str×Addr))(x:Str×NameKind):List (Str×Addr):=
 if x.2=.free then(x.1,(cells.lookup x.1).getD 0)::cs else cs
def Cm(cells:List (Str×Addr))(names:List (Str×NameKind)):List (Str×Addr):=names.foldl (Kv cells) []
theorem uI(h:∀x∈scope.names,x.2=.free->(env.cells.lookup x.1).isSome=true):closureFor scope env=pure (Cm env.cells scope.names):=by
 simp only[closureFor];rw[vB (Kv env.cells) (λx hx c=>by
  obtain⟨n,k⟩:=x;unfold Kv
  by_cases b:k=NameKind.free
  .subst b;have q:=h _ hx rfl;obtain⟨a,f⟩:=Option.isSome_iff_exists.mp q;have d:env.cells.lookup n=some a:=f;have e:cellOf env n=pure a:=by unfold cellOf;rw[d]
   simp[e,d]
  .have:(k == NameKind.free)=false:=by simpa using b
   simp[this,b])]
 rfl
theorem m8{cells:List (Str×Addr)}:∀(names:List (Str×NameKind))(acc:List (Str×Addr)),(∀y∈names,y.2=.free->(cells.lookup y.1).isSome=true)->
  (∀x c,acc.lookup x=some c->cells.lookup x=some c)->∀x c,(names.foldl (Kv cells) acc).lookup x=some c->cells.lookup x=some c
 | [],acc,_,ha,x,c,e=>ha x c e
 | (n,k)::r,acc,hs,ha,x,c,e=>by
  rw[bD]at e;refine m8 r _ (λy f=>hs y (D3 _ f)) (λx c e=>?_) x c e;unfold Kv at e
  by_cases b:k=NameKind.free
  .rw[tU b]at e;have q:=hs _ Cp b;obtain⟨a,q⟩:=Option.isSome_iff_exists.mp q;have d:cells.lookup n=some a:=q;rw[Ht]at e
   by_cases hx:x=n
   .subst hx;simp only[xJ,d,ZJC]at e;rw[d,<- e]
   .have g:(x == n)=false:=by simpa using hx
    rw[g]at e;exact ha x c e
  .rw[tJ b]at e;exact ha x c e
theorem YF{cells:List (Str×Addr)}{x:Str}:∀(names:List (Str×NameKind))(acc:List (Str×Addr)),((acc.lookup x).isSome=true∨(x,NameKind.free)∈names)->
  ((names.foldl (Kv cells) acc).lookup x).isSome=true
 | [],acc,h=>by
  rcases h with h|h
  .exact h
  .cases h
 | (n,k)::r,acc,h=>by
  rw[bD];refine YF r _ ?_;unfold Kv;rcases h with h|h
  .refine .inl ?_;split
   .rw[Ht];split
    .rfl
    .exact h
   .exact h
  .rcases List.mem_cons.mp h with e|h
   .cases e;refine .inl ?_;rw[tU rfl,Ht];simp
   .exact .inr h
theorem Rg{env:Env}:∀(names:List (Str×NameKind))(x:Str),
  (names.map λ(n,k)=>if(k == NameKind.free && env.scope.kind == .function && env.kindOf n == some .cell)then(n,NameKind.cell)else(n,k)).lookup x =
   (names.lookup x).map λk=>if(k == NameKind.free && env.scope.kind == .function && env.kindOf x == some .cell)then NameKind.cell else k
 | [],x=>rfl
 | (n,k)::r,x=>by
  have c:=Rg (env:=env) r x;rw[Bu]
  by_cases a:(k == NameKind.free && env.scope.kind == .function && env.kindOf n == some .cell)=true
  .show List.lookup x ((if(k == NameKind.free && env.scope.kind == .function && env.kindOf n == some .cell)=true then(n,NameKind.cell)else(n,k))::_)=_
   rw[tU a,Ht,Ht]
   by_cases hx:x=n
   .subst hx;simp only[xJ,Ud];rw[tU a]
   .have b:(x == n)=false:=by simpa using hx
    rw[b];exact c
  .show List.lookup x ((if(k == NameKind.free && env.scope.kind == .function && env.kindOf n == some .cell)=true then(n,NameKind.cell)else(n,k))::_)=_
   rw[tJ a,Ht,Ht]
   by_cases hx:x=n
   .subst hx;simp only[xJ,Ud];rw[tJ a]
   .have b:(x == n)=false:=by simpa using hx
    rw[b];exact c
noncomputable abbrev Jo(X:Cx)(N:List Str)(scope:Scope)(cl:List (Str×Addr))(C:Addr)(s:Shared)(H:Hp)(fp:List Addr):Cx:=
 { X with N:=N,s₀:=s,H₀:=H,env:=compEnvC scope cl C X.env,outer:=X.stack,ex:=fp,fn:=λ_=>false,pn:=[],xe:=λ_ _=>False }
def Bm(js:List Nat)(Z:St):St:=js.map λj=>(Z[j]?).join
structure Cc (N:List Str) (outer scope:Scope) (x:Str) (Ar:List Str) (js:List Nat):Prop where
 kind:scope.kind=.function
 PJ:∀y∈scope.names,y.2≠.cell
 loc:∀y∈scope.names,y.2=.local->scope.names.lookup y.1=some .local
 lu:scope.names.lookup x=some .local
 at':js.map (λj=>N[j]?)=Ar.map some
 cell:∀y∈Ar,outer.names.lookup y=some .cell
 free:∀y∈Ar,scope.names.lookup y=some .free
 all:∀y∈scope.names,y.2=.free->outer.names.lookup y.1=some .cell
 nd:(Ar++[x]).Nodup
def JV(X:Cx)(ifs:List Expr)(t:TT):Prop:=
 ∀(Zh:ZKH)(s:Shared)(Z:St)(H:Hp)(Q:Bool->Hp->Prop),Inv X Zh Z H s->t Z H Q->
  wpAny (model X.prog X.w) X.A (forIn ifs true λc r=>if r=true then do let ok <- isTrue c X.env (eval c X.env);pure (ForInStep.yield ok)else pure (ForInStep.yield r)) (TP X Zh Z Q) X.xe s
def Md:TT:=λ_ H Q=>Q true H
theorem ZAt{t:TT}(a:PT X c t):JV X [c] t:=λZh s Z H Q I h=>by
 rw[List.forIn_cons];refine pk ?_;rw[tU rfl];refine pk (AY (a Zh s Z H Q I h) λb s1 q=>qL ?_);show wpAny _ _ (forIn [] b _) _ _ s1;rw[oS];exact qL q
def La(J:It)(js:List Nat)(tt:TT)(te:TE)(Z:St)(H1:Hp)(acc:Addr)(Q:VK):Prop:=
 ∃W:Nat->Nat->Hp->Prop,(∃m,W 0 m (upd H1 acc (.lst [])))/\∀i m H2,W i m H2->
  (J.stop i H2/\Q (.ref acc) H2)∨(J.go i H2/\∀x H3,J.GW i H2 x H3->tt (Bm js Z++[some x]) H3 λb H4=>
   if b=true then te (Bm js Z++[some x]) H4 λy H5=>∃ys,H5 acc=some (.lst ys)/\ys.length<sizeLine/\∃a,a < m/\W (i+1) a (upd H5 acc (.lst (ys++[y])))
   else ∃a,a < m/\W (i+1) a H4)
def KD(wi:TI)(js:List Nat)(tt:TT)(te:TE):TE:=λZ H Q=>wi Z H λJ H1=>∀acc,H1 acc=none->La J js tt te Z H1 acc Q
theorem sQ(l:List α)(a b:α):(l++[a]).set l.length b=l++[b]:=by
 induction l with
 |nil=>rfl
 |cons x l c=>simp[c]
noncomputable def IQ:Option Str->Addr->List (Str×Addr)
 |none,_=>[]
 |some x,n=>[(x,n)]
noncomputable def RV:Option Str->Heap->Heap
 |none,h=>h
 |some _,h=>h.push { cls:=.type "cell", data:=.cell none }
structure HE (N:List Str) (outer scope:Scope) (ce:Option Str) (zs Ar:List Str) (js:List Nat):Prop where
 kind:scope.kind=.function
 loc:∀y∈scope.names,y.2=.local->scope.names.lookup y.1=some .local
 one:∀y∈scope.names,y.2=.cell->ce=some y.1
 sub:∀x,ce=some x->x∈zs
 cf:∀(n:Nat)(cl:List (Str×Addr)),cellsFrom n scope.names cl=IQ ce n++cl
 pc:∀h:Heap,pushCells h scope.names=RV ce h
 at':js.map (λj=>N[j]?)=Ar.map some
 cell:∀y∈Ar,outer.names.lookup y=some .cell
 free:∀y∈Ar,scope.names.lookup y=some .free
 all:∀y∈scope.names,y.2=.free->outer.names.lookup y.1=some .cell
 nd:(Ar++zs).Nodup
abbrev Gn(X:Cx)(N:List Str)(scope:Scope)(ce:Option Str)(cl:List (Str×Addr))(C:Addr)(s:Shared)(H:Hp)(fp:List Addr):Cx:=
 { X with N:=N,s₀:=s,H₀:=H,env:=compEnvC scope (IQ ce (C+1)++cl) C X.env,outer:=X.stack,ex:=fp,fn:=λy=>ce == some y,pn:=[],xe:=λ_ _=>False }
theorem pV{M:Model}{a:Addr}{b:Option Addr}{c:Value}{outer:Env}{Q:Env->Shared->Prop}
  (cf:∀(n:Nat)(cl:List (Str×Addr)),cellsFrom n scope.names cl=IQ ce n++cl) (pc:∀h:Heap,pushCells h scope.names=RV ce h)
  (d:Q (newEnv scope s.heap.objs.size a (IQ ce (s.heap.objs.size+1)++closure) qual b c (some outer) builtinsNs) { s with heap:=RV ce (s.heap.push { cls:=.type "dict", data:=.dict #[] }) }) :
  wpAny M A (newFunctionEnv scope a closure [] qual b c (some outer)) Q E s:=by
 simp only[newFunctionEnv,ZJD,ZBx];refine pk (wpAny_alloc ?_);refine pk (wpAny_layCells _ (λname kind cells=>by cases e:kind == NameKind.cell <;> simp[e]) _ _ _ _ ?_)
 rw[cf,pc];rw[show({ s with heap:=s.heap.push { cls:=.type "dict", data:=.dict #[] } }:Shared).heap.objs.size=s.heap.objs.size+1 from EH ..]
 refine pk ?_;rw[oS];exact qL (qL d)
theorem ZF2{y:Str}{c:Addr}(h:(IQ ce n++cl).lookup y=some c):(ce=some y/\c=n)∨(ce≠some y/\cl.lookup y=some c):=by
 cases ce with
 |none=>exact .inr ⟨λz=>(by cases z),h⟩
 |some x=>
  have h:((x,n)::cl).lookup y=some c:=h;rw[Ht]at h
  by_cases e:y=x
  .subst e;simp only[xJ]at h;exact .inl ⟨rfl,(BX h).symm⟩
  .have a:(y == x)=false:=by simpa using e
   rw[a]at h;exact .inr ⟨λz=>e (BX z).symm,h⟩
theorem cF{y:Str}(h:ce≠some y):(IQ ce n++cl).lookup y=cl.lookup y:=by
 cases ce with
 |none=>rfl
 |some x=>
  show((x,n)::cl).lookup y=_;have a:(y == x)=false:=beq_eq_false_iff_ne.mpr λz=>h (by rw[z]);rw[Ht,a]
theorem ZDp:(IQ (some x) n++cl).lookup x=some n:=by
 show((x,n)::cl).lookup x=_;rw[Ht,xJ]
theorem ZC0{iter:Expr}{it acc:Value}(I:Nat->Shared->Prop)
  (turn:∀n s,I n s->wpAny (model prog w) A (pyNext it) (λr s1=>match r with
   |none=>R (.ok .next) s1
   |some v=>wpAny (model prog w) A (letOwnedTupleGo tg it v) (λ_ s2=>wpAny (model prog w) A (assign tg env v) (λ_ f=>
     wpAny (model prog w) A (forIn ifs true λc r=>if r=true then do let ok <- isTrue c env (eval c env);pure (ForInStep.yield ok)else pure (ForInStep.yield r)) (λok s4=>if ok=true then
      wpAny (model prog w) A (eval elt env) (λx d=>wpAny (model prog w) A (call (.builtin "list.append") [acc,x]) (λ_ b=>∃m,m<n/\I m b) (notedBy (model prog w) A env λe s'=>R (.error e) s') d) (notedBy (model prog w) A env λe s'=>R (.error e) s') s4
      else ∃m,m<n/\I m s4) (notedBy (model prog w) A env λe s'=>R (.error e) s') f)
     (notedBy (model prog w) A env λe s'=>R (.error e) s') s2) (notedBy (model prog w) A env λe s'=>R (.error e) s') s1) (notedBy (model prog w) A env λe s'=>R (.error e) s') s)
  (n:Nat) (h:I n s):codeAny (model prog w) A (.compLoop (.ListComp elt [⟨tg,iter,ifs,0⟩] scope pos) 0 it acc env) R s:=by
 refine codeAny_loop rfl I (λn s o=>(show wpAny _ A ((compTurn (.ListComp elt [⟨tg,iter,ifs,0⟩] scope pos) 0 it acc env).onRaise (λx=>do noteFrame x env;theTreesLotGoes x)) _ _ s from wpAny_noted ?_)) n h
 rw[compTurn_list];refine pk (wpAny_standAt (pk (v9 (turn n s o) (λr s1 g=>?_) λ_ _ z=>z)));cases r with
 |none=>exact qL g
 |some v=>
  refine pk (v9 g (λ_ s2 l=>pk (v9 l (λ_ f k=>pk (v9 k (λok s4 a=>?_) λ_ _ z=>z)) λ_ _ z=>z)) λ_ _ z=>z);cases ok with
  |false=>
   rw[tJ (by decide)]at a;exact pk (qL (qL ⟨rfl,a⟩))
  |true=>
   rw[tU rfl]at a;exact pk (pk (v9 a (λx d j=>pk (v9 j (λ_ b i=>qL (qL ⟨rfl,i⟩)) λ_ _ z=>z)) λ_ _ z=>z))
abbrev cw(tt:TT)(te:TE)(acc:Addr)(W:Nat->Nat->Hp->Prop)(i m:Nat)(Z:St)(H:Hp):Prop:=
 tt Z H λb H4=>if b=true then te Z H4 λy H5=>∃ys,H5 acc=some (.lst ys)/\ys.length<sizeLine/\∃m',m' < m/\W (i+1) m' (upd H5 acc (.lst (ys++[y])))
  else ∃m',m' < m/\W (i+1) m' H4
def Ry(g:TG)(n:Nat)(J:It)(js:List Nat)(tt:TT)(te:TE)(Z:St)(H1:Hp)(acc:Addr)(Q:VK):Prop:=
 ∃W:Nat->Nat->Hp->Prop,(∃m,W 0 m (upd H1 acc (.lst [])))/\∀i m H2,W i m H2->
  (J.stop i H2/\Q (.ref acc) H2)∨(J.go i H2/\∀x H3,J.GW i H2 x H3->∀ws,ws.length=n->g x (Bm js Z++ws) H3 λσ8 H8=>∃us,us.length=n/\σ8=Bm js Z++us/\cw tt te acc W i m σ8 H8)
def dh(CW:It->St->Hp->Addr->VK->Prop)(wi:TI):TE:=λZ H Q=>wi Z H λJ H1=>∀acc,H1 acc=none->CW J Z H1 acc Q
section
variable{iter:Expr}{zs Ar:List Str}{fp:List Addr}{g:TG}
theorem ZII(h:scope.names.lookup x=some .cell):(relabel scope env).names.lookup x=some .cell:=by
 refine(Rg (env:=env) scope.names x).trans ?_;rw[h];simp
theorem rg{n:Nat}(h:(List.replicate n (none:Option V))[i]?=some (some v)):False:=by
 rw[oV]at h
 by_cases c:i<n
 .rw[tU c]at h;cases h
 .rw[tJ c]at h;cases h
theorem ZCB(S:HE X.N X.env.scope scope ce zs Ar js)(I3:Inv X Zh Z H2 s2)(F:∀b∈fp,EN X Zh H2 b)(P:∀b∈fp,b<s2.heap.objs.size)
  {m:ZKI}(MZ:h1.Ns s2.heap.objs.size m) (old:∀b o,s2.heap.get? b=some o->h1.get? b=some o) (E:∀x,ce=some x->h1.IsCell (s2.heap.objs.size+1) none) :
  Inv (Gn X (Ar++zs) scope ce (Cm X.env.cells scope.names) s2.heap.objs.size s2 H2 fp) [] (Bm js Z++List.replicate zs.length none) H2 { s2 with heap:=h1,toks:=t' }:=by
 have R:∀y∈scope.names,y.2=.free->(X.env.cells.lookup y.1).isSome=true:=λy g C=>by
  obtain⟨c,e⟩:=I3.ok.has y.1 (.inl (S.all y g C));rw[e];rfl
 have K:∀y c,(Cm X.env.cells scope.names).lookup y=some c->X.env.cells.lookup y=some c:=m8 scope.names [] R (λ_ _ e=>by cases e);have O:∀y k,(relabel scope X.env).names.lookup y=some k->k=.cell∨k=.free->scope.names.lookup y=some .free∨ce=some y:=λy k e C=>by
  have t:=(Rg (env:=X.env) scope.names y).symm.trans e;cases q:scope.names.lookup y with
  |none=>rw[q]at t;cases t
  |some k0=>
   rw[q]at t;cases k0 with
   |free=>exact .inl rfl
   |cell=>exact .inr (S.one _ (M8 q) rfl)
   |_=>simp at t;rcases C with rfl|rfl <;> cases t
 have n:js.length=Ar.length:=by have:=xU List.length S.at';simpa using this
 have M:∀y c,X.env.cells.lookup y=some c->c<s2.heap.objs.size:=λy c e=>by
  obtain⟨v,o,ho,_⟩:=I3.cell y c e;exact BD ho
 have f:∀c v,s2.heap.IsCell c v->h1.IsCell c v:=λc v AO=>by obtain⟨o,ho,hd⟩:=AO;exact⟨o,old c o ho,hd⟩
 have A:∀y c,(IQ ce (s2.heap.objs.size+1)++Cm X.env.cells scope.names).lookup y=some c->(ce=some y/\c=s2.heap.objs.size+1)∨(ce≠some y/\X.env.cells.lookup y=some c):=λy c e=>(ZF2 e).imp id λz=>⟨z.1,K y c z.2⟩;have Q:∀y∈Ar,ce≠some y:=λy g z=>(List.nodup_append.mp S.nd).2.2 y g y (S.sub y z) rfl;refine⟨⟨I3.ok.mod,S.kind,I3.ok.glob,I3.ok.blt,Am _,λy z c J D=>?_,λy g=>?_,λy c I e=>?_,I3.ok.hd,I3.ok.frames,.inl rfl,λb s=>⟨BP (P b s),λy c e=>?_⟩,
  λb o e=>I3.bs b o e,C7 I3.ok.Jf I3.sz,λb o e s=>?_,λb s hs=>?_,I3.stack,I3.kz⟩,rfl,I3.bare,Un.kept old,⟨m,MZ,λi y v J D σ=>?_⟩,λy c e=>?_,I3.AQ.fresh (Am _),λy c e=>?_,λp hp=>(by cases hp),I3.AQ.kept old,?_⟩
 .rcases A y c J with⟨a1,rfl⟩|⟨_,DS⟩
  .rcases A z _ D with⟨a2,_⟩|⟨_,E9⟩
   .exact BX (a1.symm.trans a2)
   .exact absurd (M z _ E9) (ZJ8 (Ey _))
  .rcases A z c D with⟨_,rfl⟩|⟨_,E9⟩
   .exact absurd (M y _ DS) (ZJ8 (Ey _))
   .exact I3.ok.inj y z c DS E9
 .have I:scope.names.lookup y=some .free∨ce=some y:=g.elim (λg=>O y _ g (.inl rfl)) λg=>O y _ g (.inr rfl);show ∃c,List.lookup y (IQ ce (s2.heap.objs.size+1)++Cm X.env.cells scope.names)=some c
  by_cases ex:ce=some y
  .rw[ex];exact⟨_,ZDp⟩
  .rw[cF ex];exact Option.isSome_iff_exists.mp (YF scope.names [] (.inr (M8 (I.resolve_right ex))))
 .rcases A y c e with⟨_,rfl⟩|⟨n1,_⟩
  .exact Ey _
  .exact absurd (eq_of_beq I) n1
 .rcases A y c e with⟨_,rfl⟩|⟨_,DS⟩
  .exact Ks (J6 (P b s))
  .exact(F b s).2.2.2.2.1 y c DS
 .rcases(F b s).2.2.2.1 with z|z
  .exact I3.ok.OC b o e z
  .exact absurd (Du (Du (BD e) I3.ok.Jf) z) (M6 _)
 .rcases List.mem_cons.mp (I3.VH b hs)with z|z
  .exact(F b s).2.1 z
  .exact(F b s).2.2.1 z
 .have E:(Bm js Z).length=Ar.length:=by unfold Bm;rw[AS,n]
  have hi:i<Ar.length:=by
   by_cases hi:i<Ar.length
   .exact hi
   .have d:(Bm js Z++List.replicate zs.length none)[i]?=some (some v):=D;rw[Ji (by rw[E];omega),E]at d;exact(rg d).elim
  have G:Ar[i]?=some y:=by
   have G:(Ar++zs)[i]?=some y:=J
   rwa [HK hi]at G
  have d:(Bm js Z)[i]?=some (some v):=by
   have d:(Bm js Z++List.replicate zs.length none)[i]?=some (some v):=D
   rwa [HK (by rw[E];exact hi)]at d
  have B:y∈Ar:=DR G;unfold Bm at d;rw[B1]at d;cases H:js[i]? with
  |none=>rw[H]at d;cases d
  |some j=>
   rw[H]at d;have U:X.N[j]?=some y:=by
    have q:=xU (λl=>l[i]?) S.at';simp only[B1,H,G,Ud]at q;exact BX q
   have hσ:Z[j]?=some (some v):=by
    simp only[Ud,Option.some.injEq]at d;cases q:Z[j]? with
    |none=>rw[q]at d;cases d
    |some w=>rw[q]at d;simp at d;rw[d]
   obtain⟨Y,T,KZ⟩:=I3.loc;obtain⟨u,r,l⟩:=KZ j y v U hσ (.inr (.inl (S.cell y B)));refine⟨u,r,?_⟩;rcases l with⟨k,_⟩|⟨_,c,e,z⟩
   .have k':X.env.scope.names.lookup y=some .local:=k;rw[S.cell y B]at k';cases k'
   .have W:X.env.kindOf y=some .cell:=S.cell y B;have C:(relabel scope X.env).names.lookup y=some .cell:=by
     refine(Rg (env:=X.env) scope.names y).trans ?_;rw[S.free y B];simp[I3.ok.kind,W]
    obtain⟨V,t⟩:=Option.isSome_iff_exists.mp (YF (cells:=X.env.cells) scope.names [] (.inr (M8 (S.free y B))));have L:=K y V t;rw[e]at L;cases L;exact .inr ⟨.inl C,c,(cF (Q y B)).trans t,f c _ z⟩
 .rcases A y c e with⟨a,rfl⟩|⟨_,DS⟩
  .exact⟨none,E _ a⟩
  .obtain⟨v,z⟩:=I3.cell y c DS;exact⟨v,f c v z⟩
 .rcases A y c e with⟨_,rfl⟩|⟨_,DS⟩
  .exact I3.AQ.fresh (Ey _)
  .exact I3.Hn y c DS
 .show(Bm js Z++List.replicate zs.length none).length=(Ar++zs).length;unfold Bm;simp[n]
theorem ZF4(hp:Y.prog=X.prog)(hw:Y.w=X.w)(S:Y.K=X.K)(hA:Y.A=X.A)(l:Y.xe=λ_ _=>False)(P:Y.calm=true)
  (hg:PG Y tg g) (Fl:JV Y ifs tt) (Fc:PE Y elt te)
  (T:Turn X.prog X.w X.K tg J fp it tn) (vT:∀b∈fp,Y.Ok->EN Y [] (λ_=>none) b)
  (W:Nat->Nat->Hp->Prop) (Q:VK)
  (turn:∀i m H2,W i m H2->(J.stop i H2/\Q (.ref acc) H2)∨(J.go i H2/\∀x H3,J.GW i H2 x H3->∀ws,ws.length=n0->g x (Bm js Z++ws) H3 λσ8 H8=>∃us,us.length=n0/\σ8=Bm js Z++us/\cw tt te acc W i m σ8 H8))
  (I4:Inv Y [] (Bm js Z++ws) H4 s4) (U4:tn 0 s4.heap) (uP:∀b∈fp,H4 b=none) (N:Nat) (w4:W 0 N H4)
  (wX:ws.length=n0) (hR:∀H' s' ws,Inv Y [] (Bm js Z++ws) H' s'->Q (.ref acc) H'->R (.ok .next) s') :
  codeAny (model X.prog X.w) X.A (.compLoop (.ListComp elt [⟨tg,iter,ifs,0⟩] scope pos) 0 (.ref it) (.ref acc) Y.env) R s4:=by
 have AQ:=I4.ok;have E:∀{H':Hp},(∀b∈fp,H' b=none)->∀b∈fp,EN Y [] H' b:=λhn b c=>⟨hn b c,(vT b c AQ).2⟩;rw[<- hp,<- hw,<- hA];have h:∀{σ:Value->Shared->Prop}v s,Y.xe v s->σ v s:=λv s z=>by rw[l]at z;exact z.elim
 refine ZC0 (λn s'=>∃i ws H',ws.length=n0/\Inv Y [] (Bm js Z++ws) H' s'/\tn i s'.heap/\(∀b∈fp,H' b=none)/\W i n H') ?_ N ⟨0,ws,H4,wX,I4,U4,uP,w4⟩;rintro n I⟨i,U,H5,p,I5,Ma,Tr,w5⟩;rcases turn i n H5 w5 with⟨stop,q⟩|⟨go,step⟩
 .have d:=T.done Y hp hw S P i [] I _ H5 (λ_ _=>False) I5 (E Tr) Ma stop;rw[<- hp,<- hw]at d;refine v9 d (λr H⟨B,I6⟩=>?_) λ_ _ z=>z.elim;subst B;exact hR H5 H U I6 q
 .have d:=T.item Y hp hw S P i [] I _ H5 (λ_ _=>False) I5 (E Tr) Ma go;rw[<- hp,<- hw]at d;refine v9 d (λr H⟨u,B,h6⟩=>?_) λ_ _ z=>z.elim;subst B;refine v9 h6 (λ_ G⟨v,H7,I7,r7,y7,ZZ,D⟩=>?_) λ_ _ z=>z.elim;have F:=I7.pinned (E D) (T.obj _ _ ZZ);refine v9 (hg _ G _ H7 v u _ F r7 (step v H7 y7 U p)) (λ_ s8⟨σ8,H8,I8,us,O,e8,t⟩=>?_) h;subst e8;have a:∀{σa:St}{Ha:Hp}{sa:Shared},Inv Y ([]++OU fp G.heap) σa Ha sa->tn (i+1) sa.heap/\(∀b∈fp,Ha b=none):=λ{σa Ha sa}Ia=>by
   refine⟨T.keep _ _ _ ZZ λb c o e=>(Ia.pin (b,o) (Dt _ (Dt _ (Qa c e)))).1,λb c=>?_⟩;obtain⟨o,e,d⟩:=T.obj _ _ ZZ b c;exact(Ia.pin (b,o) (Dt _ (Dt _ (Qa c e)))).2.1
  refine v9 (Fl _ s8 _ H8 _ I8 t) (λb s9⟨H9,I9,k⟩=>?_) h;cases b with
  |false=>
   have ua:∃f,f < n/\W (i+1) f H9:=k;obtain⟨f,C,w9⟩:=ua;rw[tJ (by decide)];exact⟨f,C,i+1,_,H9,O,I9.Nk,(a I9).1,(a I9).2,w9⟩
  |true=>
   rw[tU rfl];rw[tU rfl]at k;refine v9 (Fc _ s9 _ H9 _ I9 k) (λV FX⟨y,M,qq,j,ys,B6,hz,f,C,uS⟩=>?_) h;refine v9 (cj (X:=Y) _ FX _ M (.ref acc) [y] (.ref acc) [V] (λ_ L=>L=upd M acc (.lst (ys++[y]))) qq rfl (.cons j .nil) ⟨acc,ys,y,rfl,rfl,B6,hz,rfl⟩)
    (λ_ s11⟨_,L,Yg,_,xZ⟩=>?_) h
   subst xZ;exact⟨f,C,i+1,_,_,O,Yg.Nk,(a Yg).1,(a Yg).2,uS⟩
theorem gn{RR:Value->Addr->Result->Shared->Prop}(F:X.calm=true)(S:HE X.N X.env.scope scope ce zs Ar js)
  (hg:∀C s H,PG (Gn X (Ar++zs) scope ce (Cm X.env.cells scope.names) C s H fp) tg g)
  (Fl:∀C s H,JV (Gn X (Ar++zs) scope ce (Cm X.env.cells scope.names) C s H fp) ifs tt) (Fc:∀C s H,PE (Gn X (Ar++zs) scope ce (Cm X.env.cells scope.names) C s H fp) elt te)
  (T:Turn X.prog X.w X.K tg J fp it tn) (I2:Inv X Zh Z H2 s2) (FJ:tn 0 s2.heap) (n:∀b∈fp,EN X Zh H2 b) (Q:VK) (G:∀acc,H2 acc=none->Ry g zs.length J js tt te Z H2 acc Q)
  (i:∀acc C H' s' m,Inv X Zh Z H' s'->EN X Zh H' C->s'.heap.Ns C m->Q (.ref acc) H'->RR (.ref acc) C (.ok .next) s') :
  wpAny (model X.prog X.w) X.A (newList []) (λacc a=>wpAny (model X.prog X.w) X.A (newFunctionEnv scope X.env.globals (Cm X.env.cells scope.names) [] X.env.qual none .none (some X.env)) (λj s4=>
   codeAny (model X.prog X.w) X.A (.compStart (.ListComp elt [⟨tg,iter,ifs,0⟩] scope pos) 0 (.ref it) acc { j with scope:=relabel scope X.env }) (RR acc j.locals) s4) E a) E s2:=by
 refine ue (pV S.cf S.pc ?_);have h:Inv X Zh Z (upd H2 s2.heap.objs.size (.lst [])) { s2 with heap:=s2.heap.push { cls:=.type "list", data:=.seq ([]:List Value).toArray } }:=I2.md (t':=s2.toks) .nil (CF _)
 have u:∀b∈fp,b<s2.heap.objs.size:=λb c=>by
  obtain⟨o,e,_⟩:=T.obj _ _ FJ b c;exact BD e
 have hsz:(s2.heap.push { cls:=.type "list", data:=.seq ([]:List Value).toArray }).objs.size=s2.heap.objs.size+1:=EH ..;have f:∀b∈fp,EN X Zh (upd H2 s2.heap.objs.size (.lst [])) b:=λb c=>⟨by rw[Ah (BP (u b c))];exact(n b c).1,(n b c).2⟩;generalize z:({ s2 with heap:=s2.heap.push { cls:=.type "list", data:=.seq ([]:List Value).toArray } }:Shared)=a at h ⊢
 have l:a.heap=s2.heap.push { cls:=.type "list", data:=.seq ([]:List Value).toArray }:=by rw[<- z]
 have y:∀b∈fp,b<a.heap.objs.size:=λb c=>by rw[l,hsz];exact J6 (u b c)
 generalize k:RV ce (a.heap.push { cls:=.type "dict", data:=.dict #[] })=h1;have r:∀b o,(a.heap.push { cls:=.type "dict", data:=.dict #[] }).get? b=some o->h1.get? b=some o:=λb o e=>by
  rw[<- k];cases ce with
  |none=>exact e
  |some _=>exact BF _ e
 have old:∀b o,a.heap.get? b=some o->h1.get? b=some o:=λb o e=>r b o (BF _ e);have B:∀b o,s2.heap.get? b=some o->h1.get? b=some o:=λb o e=>old b o (by rw[l];exact BF _ e);have I:h1.Ns a.heap.objs.size (λ_=>none):=(Heap.Ns.new a.heap (.type "dict")).keeps r;have M:∀x,ce=some x->h1.IsCell (a.heap.objs.size+1) none:=λx hx=>by
  subst hx;rw[<- k];have e:(a.heap.push { cls:=.type "dict", data:=.dict #[] }).objs.size=a.heap.objs.size+1:=EH ..;exact⟨_,by rw[<- e];exact BZ _ rfl,rfl⟩
 have L:=ZCB S h f y I old M (t':=a.toks);have t:tn 0 h1:=T.keep _ _ _ FJ λb _ o e=>B b o e;obtain⟨W,⟨D,v⟩,turn⟩:=G s2.heap.objs.size (I2.AQ.fresh (Am _));have d:codeAny (model X.prog X.w) X.A (.compLoop (.ListComp elt [⟨tg,iter,ifs,0⟩] scope pos) 0 (.ref it) (.ref s2.heap.objs.size) (compEnvC scope (IQ ce (a.heap.objs.size+1)++Cm X.env.cells scope.names) a.heap.objs.size X.env))
   (RR (.ref s2.heap.objs.size) a.heap.objs.size) { a with heap:=h1 }:=by
  refine ZF4 (X:=X) (Y:=Gn X (Ar++zs) scope ce (Cm X.env.cells scope.names) a.heap.objs.size a (upd H2 s2.heap.objs.size (.lst [])) fp) (acc:=s2.heap.objs.size) (Q:=Q) rfl rfl rfl rfl rfl F (hg _ _ _) (Fl _ _ _) (Fc _ _ _) T (λb c ok=>⟨rfl,(ok.Sd b c).1,ok.Oo b c,.inl c,(ok.Sd b c).2,λp hp=>by cases hp⟩) W turn L t (λb c=>(f b c).1) D v (oZ ..) λH' s' w I' q=>?_;obtain⟨m,hn,_⟩:=I'.loc;exact i _ _ H' s' m (h.ZCE (ch:=fp) I'.os I'.base I'.AQ I'.bare λb c=>⟨(f b c).2.2.2.1,(f b c).2.1,(f b c).2.2.2.2.1,(f b c).2.2.2.2.2⟩) (h.L1 (Am _) I'.free) hn q
 exact codeAny_compStart_list d (T.self X.A 0 _ _ _ t d)
theorem fG(S:HE X.N X.env.scope scope ce zs Ar js)(I:Inv X Zh Z H s):closureFor scope X.env=pure (Cm X.env.cells scope.names):=uI λy a b=>by
 obtain⟨c,e⟩:=I.ok.has y.1 (.inl (S.all y a b));rw[e];rfl
theorem ZDh(i:∀J Z H1 acc Q,CW J Z H1 acc Q->Ry g zs.length J js tt te Z H1 acc Q)(c:X.calm=true)(S:HE X.N X.env.scope scope ce zs Ar js)(hi:PI X tg iter wi)
  (hg:∀fp C s H,PG (Gn X (Ar++zs) scope ce (Cm X.env.cells scope.names) C s H fp) tg g)
  (Fl:∀fp C s H,JV (Gn X (Ar++zs) scope ce (Cm X.env.cells scope.names) C s H fp) ifs tt) (Fc:∀fp C s H,PE (Gn X (Ar++zs) scope ce (Cm X.env.cells scope.names) C s H fp) elt te)
  (hs:∀v,foldedSetIterable iter X.env v=pure v):PE X (.ListComp elt [⟨tg,iter,ifs,0⟩] scope pos) (dh CW wi):=by
 intro Zh s Z H Q I h;rw[eval_ListComp];refine wpAny_comprehension_free (use:=none) rfl hs (fG S I) S.kind S.loc (AY (hi Zh s Z H _ I h) λv s1 h1=>AY h1 λUI s2 h2=>?_);obtain⟨it,fp,tn,J,H2,e,I2,T,FJ,j,hw⟩:=h2;subst e;refine gn (RR:=λacc C=>compPost (model X.prog X.w) X.A X.xe none (EP X Zh Z Q) acc C) c S (hg fp) (Fl fp) (Fc fp) T I2 FJ j Q (λacc f=>i _ _ _ _ _ (hw acc f)) λacc C H' s' m I' a hn q=>⟨m,hn,λh' MY=>?_⟩;exact⟨.ref acc,H',I'.turned (t':=s'.toks) (λb o d e=>(MY.2 b d).trans e) a.1 a.2.1 a.2.2.2.1 a.2.2.2.2.1 a.2.2.2.2.2,rfl,q⟩
theorem pG(r:∀J Z H1 acc Q,CW J Z H1 acc Q->Ry g zs.length J js tt te Z H1 acc Q){y:Str}(t:X.N.Nodup)(Cy:X.N[i]?=some y)(j:Loc X.env.scope y)(n:X.calm=true)(S:HE X.N X.env.scope scope ce zs Ar js)(hi:PI X tg iter wi)
  (hg:∀fp C s H,PG (Gn X (Ar++zs) scope ce (Cm X.env.cells scope.names) C s H fp) tg g)
  (Fl:∀fp C s H,JV (Gn X (Ar++zs) scope ce (Cm X.env.cells scope.names) C s H fp) ifs tt) (Fc:∀fp C s H,PE (Gn X (Ar++zs) scope ce (Cm X.env.cells scope.names) C s H fp) elt te)
  (Q7:swapsWith (.ListComp elt [⟨tg,iter,ifs,0⟩] scope pos) (some (.Name y py)) Kg.line X.env=pure true)
  (l:X.fn y=true∨X.env.scope.names.lookup y=some .local)
  (hs:∀v,foldedSetIterable iter X.env v=pure v):PS X (.Assign [.Name y py] (.ListComp elt [⟨tg,iter,ifs,0⟩] scope pos) Kg) (GF (dh CW wi) (ES i)):=by
 intro Zh s Z H D I h;rw[exec_Assign_Name_used _ _ _ _ Q7];refine pk (wpAny_standAt (pk ?_));show wpAny _ X.A (do let _ <- comprehension (.ListComp elt [⟨tg,iter,ifs,0⟩] scope pos) scope X.env _ (newList []) false (eval iter X.env) (some (assign (.Name y py) X.env))) _ _ s
 refine pk (v9 (wpAny_comprehension_free (use:=some (assign (.Name y py) X.env)) (Q:=λ_ s'=>SP X Zh D .next s') rfl hs (fG S I) S.kind S.loc
  (AY (hi Zh s Z H _ I h) λv s1 h1=>AY h1 λUI s2 h2=>?_)) (λ_ s' k=>qL (qL k)) λ_ _ e=>e)
 obtain⟨it,fp,tn,J,H2,e,I2,T,FJ,u,hw⟩:=h2;subst e;refine gn (RR:=λacc C=>compPost (model X.prog X.w) X.A X.xe (some (assign (.Name y py) X.env)) (λ_ s'=>SP X Zh D .next s') acc C) n S (hg fp) (Fl fp) (Fc fp) T I2 FJ u _ (λacc f=>r _ _ _ _ _ (hw acc f)) λacc C H' s' m I' c hn q=>?_;show wpAny _ X.A (assign (.Name y py) X.env (.ref acc)) _ _ s';refine wpAny_assign_Name (eX (v:=.ref acc) I' t Cy j rfl (λKy I''⟨a,d,f⟩=>?_) l);have x:C≠a:=by
  rcases f with z|z
  .rw[z];exact c.2.1
  .exact(c.2.2.2.2.1 y a z).symm
 refine⟨m,hn.sameBut d x,λh' MY=>?_⟩;exact⟨_,H',I''.turned (t':=Ky.toks) (λb o p e=>(MY.2 b p).trans e) c.1 c.2.1 c.2.2.2.1 c.2.2.2.2.1 c.2.2.2.2.2,q⟩
theorem eM{n:Nat}{cl:List (Str×Addr)}:∀{names:List (Str×NameKind)},(∀y∈names,y.2≠.cell)->cellsFrom n names cl=cl
 | [],_=>rfl
 | (x,k)::r,h=>by
  have b:(k == NameKind.cell)=false:=beq_eq_false_iff_ne.mpr (h _ Cp);rw[cellsFrom,b];exact eM λy a=>h y (D3 _ a)
theorem lK{a:Heap}:∀{names:List (Str×NameKind)},(∀y∈names,y.2≠.cell)->pushCells a names=a
 | [],_=>rfl
 | (x,k)::r,h=>by
  have c:(k == NameKind.cell)=false:=beq_eq_false_iff_ne.mpr (h _ Cp);rw[pushCells,c];exact lK λy b=>h y (D3 _ b)
theorem HE.yf(kind:scope.kind=.function)(PJ:∀y∈scope.names,y.2≠.cell)(loc:∀y∈scope.names,y.2=.local->scope.names.lookup y.1=some .local)
  (at':js.map (λj=>N[j]?)=Ar.map some) (cell:∀y∈Ar,outer.names.lookup y=some .cell) (free:∀y∈Ar,scope.names.lookup y=some .free)
  (all:∀y∈scope.names,y.2=.free->outer.names.lookup y.1=some .cell) (nd:(Ar++zs).Nodup):HE N outer scope none zs Ar js:=
 ⟨kind,loc,λy a e=>absurd e (PJ y a),λx e=>(by cases e),λn cl=>eM PJ,λh=>lK PJ,at',cell,free,all,nd⟩
theorem HE.len(S:HE N outer scope ce zs Ar js)(Z:St):(Bm js Z).length=Ar.length:=by
 unfold Bm;rw[AS];have:=xU List.length S.at';simpa using this
theorem mh(S:HE N outer scope ce [x] Ar js)(J:It)(Z:St)(H1:Hp)(acc:Addr)(Q:VK)(h:La J js tt te Z H1 acc Q):Ry (ES Ar.length) 1 J js tt te Z H1 acc Q:=by
 obtain⟨W,a,h⟩:=h;refine⟨W,a,λi m H2 w=>(h i m H2 w).imp id λz=>⟨z.1,λx H3 y ws hw=>?_⟩⟩
 match ws,hw with
 | [w],_=>
  have e:(Bm js Z++[w]).set Ar.length (some x)=Bm js Z++[some x]:=by rw[<- S.len Z];exact sQ _ _ _
  exact⟨[some x],rfl,e,by rw[e];exact z.2 x H3 y⟩
theorem dR(S:HE X.N X.env.scope scope ce [x] Ar js)(hx:scope.names.lookup x=some .local∨(ce=some x/\scope.names.lookup x=some .cell)):
  PG (Gn X (Ar++[x]) scope ce cl C s H fp) (.Name x px) (ES Ar.length):=
 lY S.nd (by simp) (hx.imp (λh=>lookup_relabel_local h) λh=>ZII h.2) (hx.symm.imp (λh=>by show(ce == some x)=true;rw[h.1];exact xJ _) λh=>lookup_relabel_local h)
theorem Cc.G(S:Cc N outer scope x Ar js):HE N outer scope none [x] Ar js:=.yf S.kind S.PJ S.loc S.at' S.cell S.free S.all S.nd
theorem ZAM(a:X.calm=true)(S:Cc X.N X.env.scope scope x Ar js)(hi:PI X (.Name x px) iter wi)
  (Fl:∀fp C s H,JV (Jo X (Ar++[x]) scope (Cm X.env.cells scope.names) C s H fp) ifs tt) (Fc:∀fp C s H,PE (Jo X (Ar++[x]) scope (Cm X.env.cells scope.names) C s H fp) elt te)
  (hs:∀v,foldedSetIterable iter X.env v=pure v:=by intro _;rfl):PE X (.ListComp elt [⟨.Name x px,iter,ifs,0⟩] scope pos) (KD wi js tt te):=
 ZDh (CW:=λJ Z H1 acc Q=>La J js tt te Z H1 acc Q) (mh S.G) a S.G hi (λ_ _ _ _=>dR S.G (.inl S.lu)) Fl Fc hs
theorem ZEA{y:Str}(c:X.N.Nodup)(Cy:X.N[i]?=some y)(a:Loc X.env.scope y)(b:X.calm=true)(S:Cc X.N X.env.scope scope x Ar js)(hi:PI X (.Name x px) iter wi)
  (Fl:∀fp C s H,JV (Jo X (Ar++[x]) scope (Cm X.env.cells scope.names) C s H fp) ifs tt) (Fc:∀fp C s H,PE (Jo X (Ar++[x]) scope (Cm X.env.cells scope.names) C s H fp) elt te)
  (Q7:swapsWith (.ListComp elt [⟨.Name x px,iter,ifs,0⟩] scope pos) (some (.Name y py)) Kg.line X.env=pure true:=by rfl)
  (hf:X.fn y=true∨X.env.scope.names.lookup y=some .local:=by first|exact .inl rfl|exact .inr rfl|assumption)
  (hs:∀v,foldedSetIterable iter X.env v=pure v:=by intro _;rfl):PS X (.Assign [.Name y py] (.ListComp elt [⟨.Name x px,iter,ifs,0⟩] scope pos) Kg) (GF (KD wi js tt te) (ES i)):=
 pG (CW:=λJ Z H1 acc Q=>La J js tt te Z H1 acc Q) (mh S.G) c Cy a b S.G hi (λ_ _ _ _=>dR S.G (.inl S.lu)) Fl Fc Q7 hf hs
end
def C4(K:ZKG)(tp:Bool)(H:Hp)(a:Addr)(xs:List V):Prop:=match tp with
 |false=>AK K H a xs
 |true=>AE K H a xs
theorem C4.or{K:ZKG}{xs:List V}(h:C4 K tp H a xs):AK K H a xs∨AE K H a xs:=by
 cases tp
 .exact .inl h
 .exact .inr h
def Kb(K:ZKG)(tp:Bool)(a:Addr)(xs:List V):It:=
 ⟨λi H=>C4 K tp H a xs/\i<xs.length,λi H x H'=>H'=H/\xs[i]?=some x,λi H=>C4 K tp H a xs/\xs.length<=i⟩
theorem ZDJ{P:Program}{K:ZKG}(a it:Addr)(xs:List V):Turn P w K tg (Kb K false a xs) [it] it (λi h=>h.IsListIter it a i) where
 mem:=by simp
 obj:=(Nt (P:=P) (w:=w) (K:=K) (tg:=tg) a it).obj
 keep:=(Nt (P:=P) (w:=w) (K:=K) (tg:=tg) a it).keep
 item:=by
  intro X d hw f c i Zh s Z H E I b st hg;obtain⟨g,hi⟩:=hg;refine AY ((Nt (P:=P) (w:=w) (K:=K) (tg:=tg) a it).item X d hw f c i Zh s Z H E I b st ⟨xs,xs[i],g,by simp[hi]⟩) λr s1 AO=>by obtain⟨u,e,h⟩:=AO;exact⟨u,e,AY h λ_ s2 Ds=>by obtain⟨x,H',I',j,y,DI,k⟩:=Ds;exact⟨x,H',I',j,⟨y.1,y.2 xs g⟩,DI,k⟩⟩
 done:=by
  intro X d hw f c i Zh s Z H E I b st hg;exact(Nt (P:=P) (w:=w) (K:=K) (tg:=tg) a it).done X d hw f c i Zh s Z H E I b st ⟨xs,hg.1,hg.2⟩
 self:=(Nt (P:=P) (w:=w) (K:=K) (tg:=tg) a it).self
theorem ZHd{P:Program}{K:ZKG}(a it:Addr)(xs:List V):Turn P w K tg (Kb K true a xs) [it] it (λi h=>h.IsTupleIter it a i) where
 mem:=by simp
 obj:=(OH (P:=P) (w:=w) (K:=K) (tg:=tg) a it).obj
 keep:=(OH (P:=P) (w:=w) (K:=K) (tg:=tg) a it).keep
 item:=by
  intro X d hw f c i Zh s Z H E I b st hg;obtain⟨g,hi⟩:=hg;refine AY ((OH (P:=P) (w:=w) (K:=K) (tg:=tg) a it).item X d hw f c i Zh s Z H E I b st ⟨xs,xs[i],g,by simp[hi]⟩) λr s1 AO=>by obtain⟨u,e,h⟩:=AO;exact⟨u,e,AY h λ_ s2 Ds=>by obtain⟨x,H',I',j,y,DI,k⟩:=Ds;exact⟨x,H',I',j,⟨y.1,y.2 xs g⟩,DI,k⟩⟩
 done:=by
  intro X d hw f c i Zh s Z H E I b st hg;exact(OH (P:=P) (w:=w) (K:=K) (tg:=tg) a it).done X d hw f c i Zh s Z H E I b st ⟨xs,hg.1,hg.2⟩
 self:=(OH (P:=P) (w:=w) (K:=K) (tg:=tg) a it).self
def Xn(K:ZKG)(tl:TE):TI:=λZ H R=>tl Z H λx H1=>∃tp a xs,x=.ref a/\C4 K tp H1 a xs/\R (Kb K tp a xs) H1
def WX(z:Str):It:=⟨λi _=>i<z.cps.size,λi H x H'=>H'=H/\∃c,z.cps[i]?=some c/\x=.str ⟨#[c]⟩,λi _=>i=z.cps.size⟩
theorem ml{P:Program}{K:ZKG}{t:Tok}{ty:String}
  (hn:["enumerate","zip","dict_itemiterator","dict_reverseitemiterator","odict_iterator","itertools.zip_longest","itertools.pairwise"].contains ty=false)
  (W:∀A:Around,A.handled=none->Walks P w A it [it] [it] z.cps.size (SignAt z) (λi h=>h.IsStrIter it ty z t i))
  (self:∀(A:Around)(i:Nat)(s:Shared)(Q:Value->Shared->Prop)(E:Value->Shared->Prop),s.heap.IsStrIter it ty z t i->Q (.ref it) s->wpAny (model P w) A (pyIter (.ref it)) Q E s) :
  Turn P w K tg (WX z) [it] it (λi h=>h.IsStrIter it ty z t i) where
 mem:=by simp
 obj:=λi h st b a=>by
  have e:b=it:=by simpa using a
  subst e;obtain⟨o,e,c,d⟩:=st;exact⟨o,e,λv z=>by rw[d]at z;cases z⟩
 keep:=λi h h' st k=>let ⟨o,e,r⟩:=st;⟨o,k it (by simp) o e,r⟩
 item:=by
  intro X j hw l g i Zh s Z H E I f st hg;subst j hw l;obtain⟨f0,q,B,p,n,m⟩:=f it (by simp);refine(W X.A (I.ok.hd g)).item i s _ _ hg st λv h' tk⟨c,u,Tu,y⟩DI kp=>?_;subst y;have C:Inv X Zh Z H { s with heap:=h',toks:=tk }:=I.turned (t':=tk) (λb o a e=>kp b o (by simpa using a) e) f0 q p n m
  obtain⟨o,e,cl,d⟩:=id DI;exact⟨_,rfl,Pn (s:={ s with heap:=h',toks:=tk }) e cl d hn ⟨.str ⟨#[c]⟩,H,C,⟨u,rfl⟩,⟨rfl,c,Tu,rfl⟩,DI,λb a=>(f b a).1⟩⟩
 done:=by
  intro X j hw l g i Zh s Z H E I f st hg;subst j hw l;obtain⟨f0,q,B,p,n,m⟩:=f it (by simp);have x:i=z.cps.size:=hg;subst x;exact(W X.A (I.ok.hd g)).done s _ _ st λh' tk kp=>⟨rfl,I.turned (t':=tk) (λb o a e=>kp b o (by simpa using a) e) f0 q p n m⟩
 self:=self
def my(tl:TE):TI:=λZ H R=>tl Z H λx H1=>∃z,x=.str z/\R (WX z) H1
theorem Ab{p:Addr}(h:H p=none)(o:HO):A9 H (upd H p o):=λb u q=>by rw[Ah (Ed q h)];exact q
theorem A9.Jw{K:ZKG}{xs:List V}(e:A9 H H')(h:AE K H a xs):AE K H' a xs:=by
 rcases h with(h|⟨o,h⟩)|h
 .exact .inl (.inl (e _ _ h))
 .exact .inl (.inr ⟨o,e _ _ h⟩)
 .exact .inr h
theorem A9.sq{K:ZKG}{xs:List V}(e:A9 H H')(h:C4 K tp H a xs):C4 K tp H' a xs:=by
 cases tp
 .exact A9.seq e h
 .exact A9.Jw e h
theorem jl{Q:VK}(xs:List V)(f:V->Bool)(g:V->V)(B6:H1 acc=none)(z:xs.length<=sizeLine)
  (n:∀i H,A9 H1 H->i<xs.length->J.go i H) (CV:∀H,A9 H1 H->J.stop xs.length H) (p:∀i H x H',J.GW i H x H'->H'=H/\xs[i]?=some x)
  (r:∀(i:Nat)(x:V)(H':Hp)(Q':Bool->Hp->Prop),xs[i]?=some x->A9 H1 H'->(∀Eh,A9 H' Eh->Q' (f x) Eh)->tt (Bm js Z++[some x]) H' Q')
  (s:∀(i:Nat)(x:V)(H':Hp)(Q':VK),xs[i]?=some x->f x=true->A9 H1 H'->(∀Eh,A9 H' Eh->Q' (g x) Eh)->te (Bm js Z++[some x]) H' Q')
  (hd:∀H',A9 H1 H'->H' acc=some (.lst ((xs.filter f).map g))->Q (.ref acc) H'):La J js tt te Z H1 acc Q:=by
 refine⟨λi m H=>m=xs.length - i/\i<=xs.length/\A9 H1 H/\H acc=some (.lst (((xs.take i).filter f).map g)),⟨xs.length,by simp,CF _,Ab B6 _,AJ⟩,?_⟩;rintro i m H2⟨rfl,hi,a,j⟩
 by_cases h:i<xs.length
 .refine .inr ⟨n i H2 a h,λx H3 y=>?_⟩;obtain⟨e,hx⟩:=p i H2 x H3 y;subst e;have w:(xs.take (i+1))=xs.take i++[x]:=by
   have u:xs[i]=x:=by
    rw[B9 h]at hx;exact BX hx
   rw[UZ h,u]
  have l:List.filter f (xs.take (i+1))=(xs.take i).filter f++(if f x=true then[x]else[]):=by
   rw[w,Nb];congr 1
   by_cases c:f x=true <;> simp[c]
  refine r i x _ _ hx a λH4 s4=>?_
  by_cases c:f x=true
  .rw[tU c];refine s i x H4 _ hx c (a.trans s4) λH5 k=>?_;have d:(((xs.take i).filter f).map g).length<sizeLine:=by
    rw[AS];have:=Ga f (xs.take i);rw[Bk]at this;omega
   refine⟨_,k _ _ (s4 _ _ j),d,xs.length - (i+1),by omega,rfl,h,λb o q=>?_,?_⟩
   .have t:b≠acc:=by rintro rfl;rw[B6]at q;cases q
    rw[Ah t];exact k _ _ (s4 _ _ (a b o q))
   .rw[AJ,l,tU c,CD];rfl
  .have v:f x=false:=by simpa using c
   rw[v];rw[tJ (by decide)];refine⟨xs.length - (i+1),by omega,rfl,h,a.trans s4,?_⟩;rw[l,tJ c,FN];exact s4 _ _ j
 .have e:i=xs.length:=by omega
  subst e;refine .inl ⟨CV H2 a,hd H2 a ?_⟩;rw[Hv]at j;exact j
theorem KW{K:ZKG}{xs:List V}{Q:VK}(f:V->Bool)(g:V->V)(b:C4 K tp H1 a xs)(B6:H1 acc=none)(c:xs.length<=sizeLine)
  (d:∀(i:Nat)(x:V)(H':Hp)(Q':Bool->Hp->Prop),xs[i]?=some x->A9 H1 H'->(∀Eh,A9 H' Eh->Q' (f x) Eh)->tt (Bm js Z++[some x]) H' Q')
  (e:∀(i:Nat)(x:V)(H':Hp)(Q':VK),xs[i]?=some x->f x=true->A9 H1 H'->(∀Eh,A9 H' Eh->Q' (g x) Eh)->te (Bm js Z++[some x]) H' Q')
  (hd:∀H',A9 H1 H'->H' acc=some (.lst ((xs.filter f).map g))->Q (.ref acc) H'):La (Kb K tp a xs) js tt te Z H1 acc Q:=
 jl xs f g B6 c (λi H s hi=>⟨s.sq b,hi⟩) (λH s=>⟨s.sq b,Am _⟩) (λi H x H' y=>y) d e hd
def Gi(z:Str):List V:=z.cps.toList.map λc=>.str ⟨#[c]⟩
theorem Vm(z:Str):(Gi z).length=z.cps.size:=by unfold Gi;simp
theorem ZCJ{Q:VK}(f:V->Bool)(g:V->V)(B6:H1 acc=none)(a:z.cps.size<=sizeLine)
  (b:∀(i:Nat)(x:V)(H':Hp)(Q':Bool->Hp->Prop),(Gi z)[i]?=some x->A9 H1 H'->(∀Eh,A9 H' Eh->Q' (f x) Eh)->tt (Bm js Z++[some x]) H' Q')
  (d:∀(i:Nat)(x:V)(H':Hp)(Q':VK),(Gi z)[i]?=some x->f x=true->A9 H1 H'->(∀Eh,A9 H' Eh->Q' (g x) Eh)->te (Bm js Z++[some x]) H' Q')
  (hd:∀H',A9 H1 H'->H' acc=some (.lst (((Gi z).filter f).map g))->Q (.ref acc) H'):La (WX z) js tt te Z H1 acc Q:=by
 refine jl (Gi z) f g B6 (by rw[Vm];exact a) (λi H s hi=>?_) (λH s=>?_) (λi H x H' y=>?_) b d hd
 .rw[Vm]at hi;exact hi
 .show(Gi z).length=z.cps.size;exact Vm z
 .obtain⟨e,c,h,hx⟩:=y;refine⟨e,?_⟩;subst hx;unfold Gi;rw[B1,QD,h];rfl
def EV(xs ys:List V):Bool:=xs.length == ys.length && (List.range xs.length).all λj=>EM (xs.getD j .AG) (ys.getD j .AG)
theorem Kn{xs:List V}{x:V}(h:xs[j]?=some x):xs.getD j .AG=x:=by rw[Ew,h];rfl
theorem dy{xs:List V}{x:V}(h:xs.all FL=true)(e:xs[j]?=some x):FL x=true:=List.all_eq_true.mp h x (DR e)
theorem Tq{xs:List V}{Bn:List Value}(d:Vals xs A5)(c:Vals ys Bn)(i:xs.all FL=true)(h:ys.all FL=true):
  ∀j(h1:j<A5.toArray.size)(h2:j<Bn.toArray.size),SeqAt.EqAt A s A5.toArray[j] Bn.toArray[j] (EM (xs.getD j .AG) (ys.getD j .AG)):=λj h1 h2=>by
 have l1:=d.length;have l2:=c.length;have n:j<A5.length:=by simpa using h1
 have m:j<Bn.length:=by simpa using h2
 have b:xs[j]?=some (xs[j]'(by omega)):=B9 _;have a:ys[j]?=some (ys[j]'(by omega)):=B9 _;obtain⟨u,hu,g⟩:=d.get b;obtain⟨v,e,f⟩:=c.get a;rw[B9 n]at hu;rw[B9 m]at e;have k:A5[j]=u:=BX hu;have l:Bn[j]=v:=BX e;rw[Kn b,Kn a];have q:=T9 (A:=A) (s:=s) g f (dy i b) (dy h a);rw[<- k,<- l]at q
 simpa using q
def ON(K:ZKG)(neg:Bool):R2:=λx y H Q=>∃p q xs ys,x=.ref p/\y=.ref q/\((AK K H p xs/\AK K H q ys)∨(AE K H p xs/\AE K H q ys))/\xs.all FL=true/\ys.all FL=true/\
 Q (.bl (if neg then !EV xs ys else EV xs ys)) H
theorem L4{xs:List V}(h:xs.length≠ys.length):EV xs ys=false:=by
 unfold EV;have:(xs.length == ys.length)=false:=by simpa using h
 rw[this,Bool.false_and]
theorem Kx{xs:List V}(h:xs.length=ys.length):EV xs ys=(List.range xs.length).all λj=>EM (xs.getD j .AG) (ys.getD j .AG):=by
 unfold EV;have:(xs.length == ys.length)=true:=by simpa using h
 rw[this,Lx]
theorem LH(hu:X.A.units<cLine):BB X (compareOp .Eq) (ON X.K false):=by
 intro Zh s Z H x y v u Q I o n h;obtain⟨p,q,xs,ys,rfl,rfl,r,k,i,t⟩:=h;cases o;cases n;have b:Q (.bl (EV xs ys)) H:=t;rcases r with⟨g,f⟩|⟨g,f⟩
 .obtain⟨A5,d,p1,m⟩:=I.list g;obtain⟨Bn,c,p2,l⟩:=I.list f;have l1:=d.length;have l2:=c.length
  by_cases a:xs.length=ys.length
  .refine SeqAt.eq_listAt (e:=λj=>EM (xs.getD j .AG) (ys.getD j .AG)) p1.isList p2.isList (by simp;omega) hu (Tq d c k i) ⟨.bl _,H,I,rfl,?_⟩;rw[Kx a]at b;simp only[C1,<- l1];exact b
  .rw[L4 a]at b;exact SeqAt.eq_list_lengthsAt p1.isList p2.isList (by simp;omega) hu ⟨.bl false,H,I,rfl,b⟩
 .obtain⟨A5,d,p1,m⟩:=I.tuple g;obtain⟨Bn,c,p2,l⟩:=I.tuple f;have l1:=d.length;have l2:=c.length;refine SeqAt.eq_tupleAt (e:=λj=>EM (xs.getD j .AG) (ys.getD j .AG)) p1 p2 hu (Tq d c k i) ⟨.bl _,H,I,rfl,?_⟩;simp only[C1,<- l1,<- l2]
  by_cases a:xs.length=ys.length
  .rw[Kx a]at b;have:(xs.length == ys.length)=true:=by simpa using a
   rw[this,b7,<- a,bT];exact b
  .rw[L4 a]at b;have:(xs.length == ys.length)=false:=by simpa using a
   rw[this,b6];exact b
theorem LC(hu:X.A.units<cLine):BB X (compareOp .NotEq) (ON X.K true):=by
 intro Zh s Z H x y v u Q I o n h;obtain⟨p,q,xs,ys,rfl,rfl,r,k,i,t⟩:=h;cases o;cases n;have b:Q (.bl (!EV xs ys)) H:=t;rcases r with⟨g,f⟩|⟨g,f⟩
 .obtain⟨A5,d,p1,m⟩:=I.list g;obtain⟨Bn,c,p2,l⟩:=I.list f;have l1:=d.length;have l2:=c.length
  by_cases a:xs.length=ys.length
  .refine SeqAt.RcNeAt.lists (e:=λj=>EM (xs.getD j .AG) (ys.getD j .AG)) p1.isList p2.isList (by simp;omega) hu (Tq d c k i) _ _ _ _ ⟨.bl _,H,I,rfl,?_⟩;rw[Kx a]at b;simp only[C1,<- l1];exact b
  .rw[L4 a]at b;exact SeqAt.RcNeAt.lists_lengths p1.isList p2.isList (by simp;omega) hu _ _ _ _ ⟨.bl true,H,I,rfl,b⟩
 .obtain⟨A5,d,p1,m⟩:=I.tuple g;obtain⟨Bn,c,p2,l⟩:=I.tuple f;have l1:=d.length;have l2:=c.length;refine SeqAt.RcNeAt.tuples (e:=λj=>EM (xs.getD j .AG) (ys.getD j .AG)) p1 p2 hu (Tq d c k i) _ _ _ _ ⟨.bl _,H,I,rfl,?_⟩;simp only[C1,<- l1,<- l2]
  by_cases a:xs.length=ys.length
  .rw[Kx a]at b;have:(xs.length == ys.length)=true:=by simpa using a
   rw[this,b7,<- a,bT];exact b
  .rw[L4 a]at b;have:(xs.length == ys.length)=false:=by simpa using a
   rw[this,b6];exact b
theorem sN:D1 X (.builtin "isinstance") (λxs H Q=>∃x n t b,xs=[x,.ty n]/\FZ X.K H x t/\PySem.W.kitOne X.K t (.type n)=some b/\Q (.bl b) H):=by
 intro Zh s Z H xs us Q I r h;obtain⟨x,n,t,b,rfl,ty,e,q⟩:=h;obtain⟨u,c,rfl,a,rt⟩:=vals2 r;cases rt;exact rS I a ty e λtk=>⟨.bl b,H,I.tok tk,rfl,q⟩
theorem ZBM{bs:List Bool}(r:Vals (bs.map V.bl) A5){v:Value}(e:A5[i]?=some v):v=.bool (bs.getD i false):=by
 have b:=r.length;rw[AS]at b;have hi:i<A5.length:=(List.getElem?_eq_some_iff.mp e).1;have c:(bs.map V.bl)[i]?=some (.bl (bs[i]'(by omega))):=by rw[B1,B9 (by omega)];rfl
 obtain⟨u,hu,a⟩:=r.get c;rw[e]at hu;cases hu;cases a;rw[Ew,B9 (by omega)];rfl
theorem range_all(bs:List Bool):(List.range bs.length).all (λi=>bs.getD i false)=bs.all id:=by
 rw[NY,Hs,Hs];constructor
 .intro h x hx;obtain⟨i,hi,rfl⟩:=List.mem_iff_getElem.mp hx;have:=h i (List.mem_range.mpr hi);rw[Ew,B9 hi]at this;exact this
 .intro h i hi;rw[Ew,B9 (List.mem_range.mp hi)];exact h _ (M4 _)
theorem MU(j:X.calm=true):D1 X (.builtin "all") (λxs H Q=>∃(p:Addr)(bs:List Bool),xs=[.ref p]/\AK X.K H p (bs.map V.bl)/\Q (.bl (bs.all id)) H):=by
 intro Zh s Z H xs us Q I r h;obtain⟨p,bs,rfl,g,q⟩:=h;obtain⟨u,rfl,d⟩:=vals1 r;cases d;obtain⟨A5,a,pl,m⟩:=I.list g;have c:=a.length;rw[AS]at c;refine call_all_walk (ZBO pl.isList ?_);obtain⟨o,n,ho,_⟩:=id pl;have l:p≠s.heap.objs.size:=BP (BD ho);refine⟨s.heap.objs.size,_,_,_,_,_,λi=>bs.getD i false,rfl,Walks.list (by rw[oF];exact I.ok.hd j) _ p l A5.toArray,⟨⟨_,BZ _ rfl,rfl,rfl⟩,pl.isList.push _⟩,λi v s' Q' E' f EF=>?_,λh' tk kp=>?_⟩
 .have k:v=.bool (bs.getD i false):=ZBM a (by simpa using f)
  rw[k];exact xa EF
 .refine⟨.bl _,H,I.kept (t':=tk) λb ob e=>kp b ob (by simpa using BP (BD e)) (BF _ e),rfl,?_⟩
  rw[C1,<- c,range_all];exact q
def lH:V->List V->Hp->VK->Prop:=λx vs H Q=>∃(l:Addr)(xs:List V)(j:Int)(y:V),x=.ref l/\vs=[.int j,y]/\H l=some (.lst xs)/\0<=j/\j<=xs.length/\xs.length<sizeLine/\Q .AG (upd H l (.lst (xs.take j.toNat++y::xs.drop j.toNat)))
theorem ZBW:Uz X "list.insert" lH:=by
 intro Zh s Z H x vs v us Q I g i h;obtain⟨l,xs,j,y,rfl,rfl,d,u,p,B,q⟩:=h;cases g;obtain⟨A,c,rfl,k,f⟩:=i.two;obtain⟨t,rfl⟩:=k;obtain⟨z,A5,n,r,o,e⟩:=I.Pr d;have h2:j<2 ^ 63:=by
  have C:(xs.length:Int)<=(sizeLine:Int):=Int.ofNat_le.mpr z;have D:((sizeLine:Nat):Int)<2 ^ 63:=by exact_mod_cast KH
  omega
 have b:(!Builtin.List.listFitsIndex j)=true->False:=by
  have h1:Builtin.List.listFitsIndex j=true:=by
   unfold Builtin.List.listFitsIndex;rw[Eb];exact⟨rD (by omega),rD h2⟩
  rw[h1];exact λh=>nomatch h
 have a:A5.toArray.size<=sizeLine:=C7 (oh (List.size_toArray.trans o.symm)) z;refine ZBh ZJH ⟨_,e,rfl⟩ PySem.F.entry_list_insert (PySem.F.args_list_insert_3 _ _ _) (PySem.AutoSeq1.list_insert_list_int_val_1 l A5.toArray n j t c b a) ⟨e,?_⟩;refine⟨.AG,_,I.ZG (its':=A5.take j.toNat++c::A5.drop j.toNat) d e ?_ ((r.take _).append (.cons f (r.drop _))) ?_,rfl,q⟩
 .have w:¬ (j<0):=by omega
  have m:min j.toNat A5.toArray.size=j.toNat:=by simp;omega
  simp only[w,ZC9,m];apply Array.toList_inj.mp;simp;exact QP (by simp)
 .rw[BE,Ba,Bk,Co];omega
def z7:V->Option Int->Option Int->Hp->VK->Prop:=λx lo hi H Q=>∃z,x=.str z/\z.length<=sizeLine/\Q (.str (Txt.slice z lo hi)) H
theorem part_of{v:Value}{o:Option Int}(p:IsPart v o):∃l:Option (Int×Tok),v=partValue l/\l.map (·.1)=o:=by
 cases p with
 |none=>exact⟨none,rfl,rfl⟩
 |int i t=>exact⟨some (i,t),rfl,rfl⟩
theorem nG:Jp X z7:=by
 intro Zh s Z H x v vl vu lo hi sl Q I a hs pl b h;obtain⟨z,rfl,c,q⟩:=h;obtain⟨t,rfl⟩:=a;obtain⟨l,rfl,d⟩:=part_of pl;obtain⟨u,rfl,hu⟩:=part_of b;subst d;subst hu;refine⟨"str", _,F.slot_str_getitem.lookup,typeIs_str _ _ _,wpAny_getItem_str_slice (l:=l) (u:=u) (st:=none) hs rfl (post_val_or_str ⟨C7 (Txt.slice_le z _ _) c,λt' k=>?_⟩)⟩;exact⟨.str _,H,I.tok k,⟨t',rfl⟩,q⟩
end L2
set_option exponentiation.threshold 5000
namespace L2
variable{a f p:Addr}{H:Hp}
def A8(P:Program)(w:World)(K:ZKG)(mg:ZKI)(Zy:Heap)(x:Str)(k:Nat)(ps:List Str)(sp:Sp):Prop:=
 ∃f fd,Dm P w K mg Zy GH k f fd ps sp/\Binds K fd ps []/\PySem.W.keepIn K (.ref f)=true/\mg x=some (.ref f)
section
variable{P:Program}{w:World}{K:ZKG}{mg:ZKI}{Zy:Heap}{x qual:Str}{k:Nat}{ps:List Str}{sp:Sp}{st:Stmt}{fd:FuncData}
theorem A8.mk(F:AF K x qual st f fd)(b:Binds K fd ps [])(m:mg x=some (.ref f))(h:Dm P w K mg Zy GH k f fd ps sp):A8 P w K mg Zy x k ps sp:=⟨f,fd,h,b,F.kp,m⟩
variable{X:Cx}{j:Nat}{p pos:Pos}{e:Expr}{es:List Expr}{t:TA}
def WZ(K:ZKG):List V->Hp->VK->Prop:=λxs H Q=>∃(p:Addr)(ys:List V),xs=[.ref p]/\(AK K H p ys∨AE K H p ys)/\Q (.int ys.length) H
theorem DU:D1 X (.builtin "len") (WZ X.K):=EL
def R9(K:ZKG):List V->Hp->VK->Prop:=λxs H Q=>∃(x:V)(n:String)(t:Value)(b:Bool),xs=[x,.ty n]/\FZ K H x t/\PySem.W.kitOne K t (.type n)=some b/\Q (.bl b) H
theorem HU:D1 X (.builtin "isinstance") (R9 X.K):=sN
theorem Gk:JT X "list.append" OF:=cj
theorem ZD6:JT X "list.insert" lH:=ZBW
theorem ZEr:JT X "list.pop" VT:=ZFq
def ZGZ(i j:Int):Prop:=i.natAbs<2 ^ 1000/\j.natAbs<2 ^ 1000
theorem gy{n:Nat}(h:n<2 ^ 1000):n.log2<1000:=by
 rcases Nat.eq_zero_or_pos n with e|e
 .subst e;exact(show(0:Nat).log2<1000 by decide)
 .exact(Nat.log2_lt (Ks e)).mpr h
theorem bits_le{i:Int}(h:i.natAbs<2 ^ 1000):Builtin.Int.intBits i<=2 ^ 20:=by
 unfold Builtin.Int.intBits;split
 .exact CF _
 .have:=gy h;have e:(2:Nat) ^ 20=1048576:=by decide
  omega
theorem Jt:BB X (binaryOp .Mult) (rI ZGZ λi j=>.int (i * j)):=RA λ_ _ _ _ _ _ _ a q=>mul_int q (.of_bits (bits_le a.1) (bits_le a.2))
theorem V7:BB X (binaryOp .FloorDiv) (rI (λ_ j=>0<j/\j.natAbs<2 ^ 1000) λi j=>.int (i / j)):=RA λi j _ _ _ _ _ a q=>by
 have h1:(0:Int)<j:=a.1;have h2:=gy a.2;exact floordiv_int (by omega) (by rw[Int.fdiv_eq_ediv_of_nonneg i (by omega)];exact q) (.inl (PyProof.noPylong_of_log2 (by omega)))
theorem ZE7{body rest:List Stmt}{t u:TS}(e:body=st::rest)(h:PS X st t)(h2:En X rest u):En X body (OY t u):=by rw[e];exact zh h h2
def VO(t:TS):TS:=λD Z H=>∃J:St->Hp->Prop,t { D with nx:=J } Z H/\∀ σ' H',J σ' H'->D.nx σ' H'
end
theorem qp{K:ZKG}{tp:Bool}{xs:List V}{g:TG}{tb:TS}{D:Ends}{Z:St}(Pv:Nat->St->Hp->Prop)(h:Pv 0 Z H)(f:∀i Z H,i<=xs.length->Pv i Z H->C4 K tp H a xs)
  (hs:∀i x Z H,xs[i]?=some x->Pv i Z H->g x Z H λσ2 H2=>tb { D with nx:=Pv (i+1),ct:=Pv (i+1),bk:=D.nx } σ2 H2) (hd:∀ Z H,Pv xs.length Z H->D.nx Z H) :
  ∃W:Nat->Nat->St->Hp->Prop,(∃m,W 0 m Z H)/\∀i m Z H,W i m Z H->
   ((Kb K tp a xs).stop i H/\D.nx Z H)∨((Kb K tp a xs).go i H/\∃N:St->Hp->Prop,(∀ σ' H',N σ' H'->∃b,b < m/\W (i+1) b σ' H')/\∀x H',(Kb K tp a xs).GW i H x H'->g x Z H' λσ2 H2=>tb { D with nx:=N,ct:=N,bk:=D.nx } σ2 H2):=by
 refine⟨λi m Z H=>m=xs.length - i/\i<=xs.length/\Pv i Z H,⟨xs.length,by simp,CF _,h⟩,λi m Z H⟨e,hi,p⟩=>?_⟩;subst e;have q:=f i Z H hi p
 by_cases c:i<xs.length
 .refine .inr ⟨⟨q,c⟩,Pv (i+1),λσ' H' d=>⟨xs.length - (i+1),by omega,rfl,c,d⟩,λx H' y=>?_⟩;obtain⟨e,y⟩:=y;subst e;exact hs i x Z _ y p
 .have e:i=xs.length:=by omega
  subst e;exact .inl ⟨⟨q,Am _⟩,hd Z H p⟩
def Gx(p:Addr)(H H':Hp):Prop:=∀b o,b≠p->H b=some o->H' b=some o
theorem Gx.trans{H1 H2:Hp}(a:Gx p H H1)(b:Gx p H1 H2):Gx p H H2:=λc o d e=>b c o d (a c o d e)
theorem Gx.of{H':Hp}(a:A9 H H'):Gx p H H':=λc o _ e=>a c o e
theorem Gx.upd{o:HO}:Gx p H (upd H p o):=λc u a e=>by rw[Ah a];exact e
end L2
set_option maxHeartbeats 8000000
namespace L2
variable{ss:List Str}
def Fb(acc:List Str)(x:Str):List Str:=if acc.any (· == x)then acc else acc++[x]
def dd(ss:List Str):List Str:=ss.foldl Fb []
theorem u4(acc:List Str)(x k:Str):(Fb acc x).any (· == k)=(acc.any (· == k) || decide (k=x)):=by
 unfold Fb
 by_cases h:acc.any (· == x)=true
 .rw[tU h]
  by_cases e:k=x
  .subst e;rw[h];simp
  .simp[e]
 .rw[tJ h,List.any_append]
  by_cases e:k=x
  .subst e;simp
  .have a:(x == k)=false:=by simpa[beq_iff_eq]using(λh':x=k=>e h'.symm)
   simp[a,e]
theorem bg(acc:List Str)(x:Str):(Fb acc x).length=if acc.any (· == x)then acc.length else acc.length+1:=by
 unfold Fb;split <;> simp
theorem iB(ss:List Str)(i:Nat)(h:i<ss.length):dd (ss.take (i+1))=Fb (dd (ss.take i)) ss[i]:=by
 unfold dd;rw[UZ h,ZIr];rfl
theorem Yw(ss:List Str):(dd ss).length<=ss.length:=by
 have:∀(l acc:List Str),(l.foldl Fb acc).length<=acc.length+l.length:=by
  intro l
  induction l with
  |nil=>intro acc;simp
  |cons x r a=>
   intro acc;rw[bD];have h1:=a (Fb acc x);rw[bg]at h1;simp only[Ba];split at h1 <;> omega
 have q:=this ss [];simp only[UW,Nat.zero_add]at q;exact q
section
variable{prog:Program}{w:World}{A:Around}{R:Result->Shared->Prop}{I:Addr}{fp wr:List Addr}{G:Array GenState->Array GenState->Prop}{n:Nat}{P:Nat->Value->Prop}{St:Nat->Shared->Prop}
variable{E:Value->Shared->Prop}{s:Shared}
theorem sub_tuple_set:isSubtype (.type "tuple") (.type "set")=pure false:=by rw[za];kernel_rfl
theorem sub_tuple_frozenset:isSubtype (.type "tuple") (.type "frozenset")=pure false:=by rw[za];kernel_rfl
end
def v7(P:Program)(w:World)(a:Addr)(f:Str->Bool)(n:Nat):HO:=.ext λh=>h.SetOf (strKind P w) a f n
section
variable{X:Cx}
theorem RQ{A5:List Value}(r:Vals (ss.map V.str) A5){i:Nat}{v:Value}(e:A5[i]?=some v):∃(h:i<ss.length)(t:Tok),v=.str ss[i] t:=by
 have c:=r.length;rw[AS]at c;have hi:i<A5.length:=(List.getElem?_eq_some_iff.mp e).1;have a:i<ss.length:=by omega
 have d:(ss.map V.str)[i]?=some (.str ss[i]):=by rw[B1,B9 a];rfl
 obtain⟨u,hu,b⟩:=r.get d;rw[e]at hu;cases hu;obtain⟨t,q⟩:=b;exact⟨a,t,q⟩
end
end L2
set_option maxHeartbeats 4000000
namespace L2
variable{X:Cx}{a c e l o tg:Expr}{es ifs:List Expr}{body rest:List Stmt}{ta te tl to:TE}{t tb:TS}{tc tt:TT}{p pos pos' px:Pos}{name x y:Str}{Fg op:CmpOp}{r:List V->Hp->VK->Prop}{i j n:Nat}{ps ss:List Str}{sp:Sp}{T:String}{wi:TI}{g:TG}{w:World}{I f:Addr}{s:Shared}{E Q:Value->Shared->Prop}
structure QE (X:Cx) (e:Expr) (t:TE):Prop where h:PE X e t
structure QT (X:Cx) (e:Expr) (t:TT):Prop where h:PT X e t
structure QW (X:Cx) (e:Expr) (t:TT):Prop where h:PW X e t
structure QA (X:Cx) (es:List Expr) (t:TA):Prop where h:PA X es t
structure QS (X:Cx) (st:Stmt) (t:TS):Prop where h:PS X st t
structure JW (X:Cx) (st:List Stmt) (t:TS):Prop where h:En X st t
structure QG (X:Cx) (tg:Expr) (t:TG):Prop where h:PG X tg t
structure U7 (X:Cx) (ts:List Expr) (t:IG):Prop where h:Q3 X ts t
structure QI (X:Cx) (tg iter:Expr) (wi:TI):Prop where h:PI X tg iter wi
structure Rk (X:Cx) (ifs:List Expr) (t:TT):Prop where h:JV X ifs t
structure QO (X:Cx) (e:Option Expr) (t:TO):Prop where h:PO X e t
section
variable{b:Expr}{rest:List Expr}{tb tc:TE}{tA JL:TT}{t:TA}{p2 apos Bz:Pos}
theorem qv(i:Nat)(k:X.N[i]?=some x:=by rfl)(hv:ZA X.env.scope x:=by first|exact Or.inl rfl|exact Or.inr (Or.inl rfl)|exact Or.inr (Or.inr rfl))(hd:(x == ("__debug__":Str))=false:=by decide)
  (Hi:(x == ("__classdict__":Str))=false:=by decide):QE X (.Name x pos) (BJ i):=⟨by
 intro Zh s Z H Q I h;obtain⟨v,e,h⟩:=h;obtain⟨m,hn,j⟩:=I.loc;obtain⟨u,r,l⟩:=j i x v k e hv;have b:EP X Zh Z Q u s:=⟨v,H,I,r,h⟩;rcases l with⟨a,g⟩|⟨a,c,d,f⟩
 .exact wpAny_Name (wpAny_loadName_local I.ok.kind a hn g b) hd
 .rcases a with a|a
  .exact wpAny_Name (wpAny_loadName_cell I.ok.kind a d f b) hd
  .exact wpAny_Name (wpAny_loadName_free I.ok.kind a d f b Hi) hd⟩
theorem A7{i j pos}:QE X (.Constant (.int i) j pos) (tC (.int i)):=⟨λ_ _ _ H _ I h=>wpAny_Constant_int ⟨.int i,H,I.tok _,⟨_,rfl⟩,h⟩⟩
theorem GD{b j pos}:QE X (.Constant (.bool b) j pos) (tC (.bl b)):=⟨λ_ _ _ H _ I h=>Constant_bool ⟨.bl b,H,I,rfl,h⟩⟩
theorem NO{j pos}:QE X (.Constant .none j pos) (tC .AG):=⟨λ_ _ _ H _ I h=>Constant_none ⟨.AG,H,I,rfl,h⟩⟩
theorem Ad{x j pos}:QE X (.Constant (.str x) j pos) (tC (.str x)):=⟨λ_ _ _ H _ I h=>Calls.Constant_str ⟨.str x,H,I.tok _,⟨_,rfl⟩,h⟩⟩
theorem KA{v:V}{u:Value}(hg:Gl X x)(a:X.mg x=some u)(r:RelV v u)(hd:(x == ("__debug__":Str))=false:=by decide):QE X (.Name x pos) (tC v):=⟨λ_ _ _ H _ I h=>aY I hg a ⟨v,H,I,r,h⟩ hd⟩
theorem HV(T:String)(a:X.mg x=none)(hg:Gl X x:=by rfl)(hv:bootBuiltins x=some (.type T):=by decide +kernel)(hn:x ≠"__name__" := by decide)(hd:(x == ("__debug__":Str))=false:=by decide):
  QE X (.Name x pos) (tC (.ty T)):=⟨sE hg a hv rfl hn hd⟩
theorem Az{op:Operator}{r:R2}(ho:BB X (binaryOp op) r)(d:QE X a ta)(c:QE X b tb):QE X (.BinOp a op b pos) (By r ta tb):=⟨by
 have d:=d.h;have c:=c.h;intro Zh s Z H Q I h;exact wpAny_BinOp (Z8 d c I h λv u s2 x y H2 I2 f e q=>ho Zh s2 Z H2 x y v u Q I2 f e q)⟩
theorem ZAa{r:R2}(ho:BB X (compareOp op) r)(d:QE X a ta)(c:QE X b tb)(g:behindInMarks op b=false):QE X (.Compare a [op] [b] pos) (By r ta tb):=⟨by
 have d:=d.h;have c:=c.h;intro Zh s Z H Q I h;exact wpAny_Compare1 (Z8 d c I h λv u s2 x y H2 I2 f e q=>ho Zh s2 Z H2 x y v u Q I2 f e q) g⟩
theorem ZIJ{r:R2}(ho:BB X (compareOp op) r)(e:QE X a ta)(d:QE X b tb)(c:behindInMarks op b=false):QT X (.Compare a [op] [b] pos) (NV (By r ta tb)):=⟨sO ho e.h d.h c⟩
theorem mS{r l:R2}(ho:BB X (compareOp op) r)(Es:BB X (compareOp Fg) l)(i:QE X a ta)(g:QE X b tb)(f:QE X c tc)
  (D:lastMarks [op,Fg] [b,c]=false:=by with_unfolding_all rfl):QE X (.Compare a [op,Fg] [b,c] pos) (OX r l ta tb tc):=⟨by
 have i:=i.h;have g:=g.h;have f:=f.h;intro Zh s Z H Q I h;refine Compare_chain (AY (i Zh s Z H _ I h) λv s1⟨x,H1,I1,w,C⟩=>chain_link (AY (g Zh s1 Z H1 _ I1 C) λu s2⟨y,H2,I2,j,B⟩=>
  AY (ho Zh s2 Z H2 x y v u _ I2 w j B) λd p⟨z,H3,I3,t,k,e,m⟩=>?_)) D
 subst e;cases t;refine xa ?_;cases k with
 |false=>exact ite_ff ⟨.bl false,H3,I3,rfl,m⟩
 |true=>exact ite_tt (chain_last (AY (f Zh p Z H3 _ I3 m) λo s4⟨n,H4,I4,q,A⟩=>Es Zh s4 Z H4 y n u o Q I4 j q A))⟩
theorem NT{r l:R2}(ho:BB X (compareOp op) r)(Es:BB X (compareOp Fg) l)(i:QE X a ta)(g:QE X b tb)(f:QE X c tc)
  (G:lastMarks [op,Fg] [b,c]=false:=by with_unfolding_all rfl):QT X (.Compare a [op,Fg] [b,c] pos) (NV (OX r l ta tb tc)):=⟨by
 have i:=i.h;have g:=g.h;have f:=f.h;intro Zh s Z H Q I h;refine isTrue_chain (AY (i Zh s Z H _ I h) λv s1⟨x,H1,I1,A,E⟩=>test_link (AY (g Zh s1 Z H1 _ I1 E) λu s2⟨y,H2,I2,j,D⟩=>
  AY (ho Zh s2 Z H2 x y v u _ I2 A j D) λd p⟨z,H3,I3,w,k,e,m⟩=>?_)) G
 subst e;cases w;refine xa ?_;cases k with
 |false=>
  obtain⟨k',K,F⟩:=m;cases K;exact ite_ff ⟨H3,I3,F⟩
 |true=>
  refine ite_tt (test_last (AY (f Zh p Z H3 _ I3 m) λo s4⟨n,H4,I4,t,C⟩=>AY (Es Zh s4 Z H4 y n u o _ I4 j t C) λd' M ZA4=>?_));obtain⟨L,H5,I5,q,k2,J,B⟩:=ZA4;subst J;cases q;exact xa ⟨H5,I5,B⟩⟩
theorem Ih{op}(h:QE X a ta):QE X (.BoolOp op [a] pos) ta:=⟨by have h:=h.h;exact λZh s Z H Q I hw=>BoolOp_one (h Zh s Z H Q I hw)⟩
theorem Hf(f:QE X a ta)(e:QE X (.BoolOp .And (b::rest) pos) tb):QE X (.BoolOp .And (a::b::rest) pos) (Ue ta tb):=⟨by
 have f:=f.h;have e:=e.h;intro Zh s Z H Q I h;refine BoolOp_and (AY (f Zh s Z H _ I h) λv s1 Fh=>?_);obtain⟨x,H1,I1,g,d⟩:=Fh;obtain⟨c,rfl,d⟩:=d;cases g;refine xa ?_;cases c with
 |true=>exact e Zh s1 Z H1 Q I1 d
 |false=>exact⟨.bl false,H1,I1,rfl,d⟩⟩
theorem rN(f:QE X a ta)(e:QE X (.BoolOp .Or (b::rest) pos) tb):QE X (.BoolOp .Or (a::b::rest) pos) (cK ta tb):=⟨by
 have f:=f.h;have e:=e.h;intro Zh s Z H Q I h;refine BoolOp_or (AY (f Zh s Z H _ I h) λv s1 Fh=>?_);obtain⟨x,H1,I1,g,d⟩:=Fh;obtain⟨c,rfl,d⟩:=d;cases g;refine xa ?_;cases c with
 |false=>exact e Zh s1 Z H1 Q I1 d
 |true=>exact⟨.bl true,H1,I1,rfl,d⟩⟩
theorem pO(d:QE X a ta):QE X (.UnaryOp .Not a pos) (aV ta):=⟨by
 have d:=d.h;intro Zh s Z H Q I h;refine UnaryOp_ (AY (d Zh s Z H _ I h) λv s1 Fh=>?_);obtain⟨x,H1,I1,e,b⟩:=Fh;obtain⟨c,rfl,b⟩:=b;cases e;exact not_of (xa ⟨.bl (!c),H1,I1,rfl,b⟩)⟩
theorem IF(b:QT X a tA):QW X (.BoolOp .And [a] pos) tA:=⟨by
 have b:=b.h;intro d Zh s Z H Q I h;refine isTrue_and (AY (b Zh s Z H Q I h) λc s1 e=>?_);cases c with
 |true=>exact isTrue_and_nil e
 |false=>exact e⟩
theorem Ff(b:QT X a tA):QW X (.BoolOp .Or [a] pos) tA:=⟨by
 have b:=b.h;intro d Zh s Z H Q I h;refine isTrue_or (AY (b Zh s Z H Q I h) λc s1 e=>?_);cases c with
 |false=>exact isTrue_or_nil e
 |true=>exact e⟩
theorem Ik(e:QT X a tA)(d:QW X (.BoolOp .And (b::rest) pos) JL):QW X (.BoolOp .And (a::b::rest) pos) (YS tA JL):=⟨by
 have e:=e.h;have d:=d.h;intro g Zh s Z H Q I h;refine isTrue_and (AY (e Zh s Z H _ I h) λc s1 Fh=>?_);obtain⟨H1,I1,f⟩:=Fh;cases c with
 |true=>exact d g Zh s1 Z H1 Q I1 f
 |false=>exact⟨H1,I1,f⟩⟩
theorem DW(e:QT X a tA)(d:QW X (.BoolOp .Or (b::rest) pos) JL):QW X (.BoolOp .Or (a::b::rest) pos) (RF tA JL):=⟨by
 have e:=e.h;have d:=d.h;intro g Zh s Z H Q I h;refine isTrue_or (AY (e Zh s Z H _ I h) λc s1 Fh=>?_);obtain⟨H1,I1,f⟩:=Fh;cases c with
 |true=>exact⟨H1,I1,f⟩
 |false=>exact d g Zh s1 Z H1 Q I1 f⟩
theorem QW.pt{t:TT}(h:QW X e t):QT X e t:=⟨h.h.pt⟩
theorem CT(b:QT X a tA):QT X (.UnaryOp .Not a pos) (TH tA):=⟨by
 have b:=b.h;intro Zh s Z H Q I h;exact isTrue_not (b Zh s Z H (λc H1=>Q (!c) H1) I h)⟩
theorem DK(h:QE X e te)(f:∀a,isTrue e X.env a=(do let v <- a;standAt e.pos;holding [v] (truthy v)):=by intro _;rfl):QT X e (tB te):=⟨by
 have h:=h.h;intro Zh s Z H Q I hw;refine isTrue_plain (AY (h Zh s Z H _ I hw) λv s1⟨x,H1,I1,b,c⟩=>?_) (f _);obtain⟨d,rfl,q⟩:=c;cases b;exact xa ⟨H1,I1,q⟩⟩
theorem A4:QA X [] B4:=⟨λ_ _ _ _ H Q I h=>oJ ⟨[],H,I,.nil,h⟩⟩
theorem A0(b:QE X e te)(a:QA X es t)(hs:starEach (e::es) X.env=(false,eval e X.env)::starEach es X.env:=by rfl):QA X (e::es) (AX te t):=⟨ZGw b.h a.h hs⟩
theorem Bb{x1}(h:QA X es t):QE X (.Tuple es x1 pos) (QC t):=⟨ZAp h.h⟩
theorem Dw(h:QA X es t):QE X (.List es pos) (Sr t):=⟨ZEN h.h⟩
theorem Dn:QO X none Zu:=⟨by
 intro Zh s Z H Q I h;rw[evalPart_none];exact qL ⟨none,H,I,.none,h⟩⟩
theorem Cr(h:QE X e te):QO X (some e) (aM te):=⟨by
 have h:=h.h;intro Zh s Z H Q I hw;rw[evalPart_some];refine AY (h Zh s Z H _ I hw) λu s1 Z0=>?_;obtain⟨x,H1,I1,a,b⟩:=Z0;obtain⟨i,rfl,q⟩:=b;obtain⟨t,rfl⟩:=a;exact⟨some i,H1,I1,.int i t,q⟩⟩
theorem DM{r:V->Option Int->Option Int->Hp->VK->Prop}{lo hi:Option Expr}{tl th:TO}(n:Jp X r)(d:QE X e te)(c:QO X lo tl)(hu:QO X hi th):QE X (.Subscript e (.Slice lo hi none p2) pos) (O5 r te tl th):=⟨by
 have d:=d.h;have c:=c.h;have hu:=hu.h;intro Zh s Z H Q I h;refine Subscript_ (AY (d Zh s Z H _ I h) λv s1 Fh=>?_);obtain⟨x,H1,I1,f,j⟩:=Fh;refine wpAny_Slice (AY (c Zh s1 Z H1 _ I1 j) λvl s2⟨l,H2,I2,pl,i⟩=>AY (hu Zh s2 Z H2 _ I2 i) λvu a OM=>?_);obtain⟨u,H3,I3,k,g⟩:=OM;rw[evalPart_none];refine qL ?_;have p:Inv X Zh Z H3 { a with heap:=a.heap.push { cls:=.type "slice", data:=.fields #[vl,vu,.none] } }:=I3.kept (t':=a.toks) λb ob q=>BF _ q
 obtain⟨T,id,o,m,hg⟩:=n Zh { a with heap:=a.heap.push { cls:=.type "slice", data:=.fields #[vl,vu,.none] } } Z H3 x v vl vu l u a.heap.objs.size Q p f (Heap.IsSliceOf.new ..) pl k g
 show wpAny (model X.prog X.w) X.A (subscriptTail e (.Slice lo hi none p2) v (.ref a.heap.objs.size)) (EP X Zh Z Q) X.xe { a with heap:=a.heap.push { cls:=.type "slice", data:=.fields #[vl,vu,.none] } }
 exact tail_any (ops:=[.ref a.heap.objs.size,v]) m o hg (by with_unfolding_all rfl)⟩
theorem vy{r:R2}(g:EA X r)(d:QE X a ta)(c:QE X b tb)(hs:YI b):QE X (.Subscript a b pos) (By r ta tb):=⟨by
 have d:=d.h;have c:=c.h;intro Zh s Z H Q I h;exact Subscript_ (Z8 d c I h λv u s2 x y H2 I2 f e q=>g a b Zh s2 Z H2 x y v u Q I2 f e q (hs _ _))⟩
theorem ZFQ{k:Nat}(h:A8 X.prog X.w X.K X.mg X.base x k ps sp)(c:Bq j X.A)(d:k<=j)(a:QA X (e::es) t)(hg:Gl X x:=by rfl)(DO:(x == ("__debug__":Str))=false:=by decide)
  (he:starEach (e::es) X.env=(false,eval e X.env)::starEach es X.env:=by rfl) (Bh:(backTo pos (starEach es X.env)).any (·.1)=false:=by rfl):QE X (.Call (.Name x p) (e::es) [] pos) (C0 sp [] E0 t):=⟨by
 have a:=a.h;obtain⟨f,fd,F,b,kp,m⟩:=h;exact pY (F.mono d) c hg m kp b .nil Tz a DO he Bh⟩
theorem ZFI{id:String}(g:D1 X (.builtin id) r)(hg:Gl X x)(f:X.mg x=none)(d:bootBuiltins x=some (.builtin id))(a:QA X (e::es) t)(hn:x ≠"__name__" := by decide)(DO:(x == ("__debug__":Str))=false:=by decide)
  (he:starEach (e::es) X.env=(false,eval e X.env)::starEach es X.env:=by rfl) (Bh:(backTo pos (starEach es X.env)).any (·.1)=false:=by rfl):QE X (.Call (.Name x p) (e::es) [] pos) (DA r t):=⟨by
 have a:=a.h;intro Zh s Z H Q I h;refine yi (K3 I hg f d ?_ hn DO);exact PyProof.Rows.callWith_builtin1 (AY (a pos Zh s Z H _ I h) λus s1 AO=>by obtain⟨vs,H1,I1,b,c⟩:=AO;exact g Zh s1 Z H1 vs us Q I1 b c) he Bh⟩
theorem vK(g:D1 X (.type T) r)(hg:Gl X x)(f:X.mg x=none)(d:bootBuiltins x=some (.type T))(a:QA X (e::es) t)(hn:x ≠"__name__" := by decide)(DO:(x == ("__debug__":Str))=false:=by decide)
  (he:starEach (e::es) X.env=(false,eval e X.env)::starEach es X.env:=by rfl) (Bh:(backTo pos (starEach es X.env)).any (·.1)=false:=by rfl):QE X (.Call (.Name x p) (e::es) [] pos) (DA r t):=⟨by
 have a:=a.h;intro Zh s Z H Q I h;refine yi (K3 I hg f d ?_ hn DO);exact QX (AY (a pos Zh s Z H _ I h) λus s1 AO=>by obtain⟨vs,H1,I1,b,c⟩:=AO;exact g Zh s1 Z H1 vs us Q I1 b c) he Bh⟩
theorem ZHI{id:String}{r:V->List V->Hp->VK->Prop}(pa:PlainAttrs T)(slot:Slot T name id)(L8:typeOf (.builtin id)=pure (.type "method_descriptor"))(c:JT X id r)(ho:QE X o to)
  (LZ:attributeBase o name X.env (eval o X.env)=eval o X.env:=by rfl) (LV:(apos.endLine == Bz.line)=true:=by rfl):QE X (.Call (.Attribute o name apos) [] [] Bz) (Y6 X.K T r to):=⟨by
 have ho:=ho.h;intro Zh s Z H Q I h;refine wpAny_Call_method0_late LZ LV (AY (ho Zh s Z H _ I h) λv s1 Z0=>?_);obtain⟨x,H1,I1,a,ty,b⟩:=Z0;obtain⟨h1,h2⟩:=mx I1 a ty;exact⟨T,id,pa,slot,L8,h1,h2,oH rfl (PySem.evalArgs_none (c Zh s1 Z H1 x [] v [] Q I1 a .nil b))⟩⟩
theorem El{id:String}{r:V->List V->Hp->VK->Prop}(pa:PlainAttrs T)(slot:Slot T name id)(L8:typeOf (.builtin id)=pure (.type "method_descriptor"))(i:JT X id r)(ho:QE X o to)(a:QA X (e::es) t)
  (LZ:attributeBase o name X.env (eval o X.env)=eval o X.env:=by rfl)
  (ZE:((backTo Bz (starEach (e::es) X.env)).all (λx=>!x.1) && (backToKw Bz (keywordEach [] X.env)).all (λx=>x.1.isSome)
   && decide ((e::es).length+([]:List Keyword).length+(if([]:List Keyword).isEmpty then 0 else 1)<30))=true:=by rfl)
  (LV:(apos.endLine == Bz.line)=true:=by rfl) (hs:starEach (e::es) X.env=(false,eval e X.env)::starEach es X.env:=by rfl) (XW:(backTo Bz (starEach es X.env)).any (·.1)=false:=by rfl) :
  QE X (.Call (.Attribute o name apos) (e::es) [] Bz) (P2 X.K T r to t):=⟨by
 have ho:=ho.h;have a:=a.h;intro Zh s Z H Q I h;refine wpAny_Call_method_late LZ ZE LV rfl (AY (ho Zh s Z H _ I h) λv s1 ZIR=>?_);obtain⟨x,H1,I1,b,ty,g⟩:=ZIR;obtain⟨h1,h2⟩:=mx I1 b ty;refine⟨T,id,pa,slot,L8,h1,h2,?_⟩;have c:=a Bz Zh s1 Z H1 _ I1 g;rw[hs]at c ⊢;refine oH (by show(false || (backTo Bz (starEach es X.env)).any (·.1))=false;rw[XW] <;> rfl) (Calls.evalArgs_plain ?_)
 exact AY c λus s2 AO=>by obtain⟨vs,H2,I2,d,f⟩:=AO;exact i Zh s2 Z H2 x vs v us Q I2 b d f⟩
variable{elt iter:Expr}{scope:Scope}{Ar:List Str}{js:List Nat}
theorem DF(d:QE X l tl):QI X tg l (Xn X.K tl):=⟨by
 have d:=d.h;intro Zh s Z H R I h;refine AY (d Zh s Z H _ I h) λv s1⟨x,H1,I1,i,j⟩=>?_;obtain⟨tp,a,xs,e,f,q⟩:=j;subst e;cases i;have c:∀b∈[s1.heap.objs.size],EN X Zh H1 b:=λb m=>by
  have e:b=s1.heap.objs.size:=by simpa using m
  subst e;exact I1.L1 (Am _) (I1.AQ.fresh (Am _))
 cases tp with
 |false=>
  obtain⟨A5,g,p,k⟩:=I1.list f;refine ZBO p.isList ?_;exact⟨s1.heap.objs.size,[s1.heap.objs.size],_,_,H1,rfl,I1.kept (t':=s1.toks) λb o e=>BF _ e,ZDJ a _ xs,⟨_,BZ _ rfl,rfl,rfl⟩,c,q⟩
 |true=>
  obtain⟨A5,g,p,k⟩:=I1.tuple f;refine ZAn (show s1.heap.IsTuple a A5.toArray from p) ?_;exact⟨s1.heap.objs.size,[s1.heap.objs.size],_,_,H1,rfl,I1.kept (t':=s1.toks) λb o e=>BF _ e,ZHd a _ xs,⟨_,BZ _ rfl,rfl,rfl⟩,c,q⟩⟩
theorem ZHc(c:QE X l tl):QI X tg l (my tl):=⟨by
 have c:=c.h;intro Zh s Z H R I h;refine AY (c Zh s Z H _ I h) λv s1⟨x,H1,I1,g,i⟩=>?_;obtain⟨z,e,q⟩:=i;subst e;obtain⟨t,rfl⟩:=g;have a:∀b∈[s1.heap.objs.size],EN X Zh H1 b:=λb j=>by
  have e:b=s1.heap.objs.size:=by simpa using j
  subst e;exact I1.L1 (Am _) (I1.AQ.fresh (Am _))
 have kp:∀(ob:Obj),Inv X Zh Z H1 { s1 with heap:=s1.heap.push ob }:=λob=>I1.kept (t':=s1.toks) λb o e=>BF _ e
 cases f:z.cps.all (· < 128)
 .refine wpAny_pyIter_wide f ?_;exact⟨s1.heap.objs.size,[s1.heap.objs.size],_,_,H1,rfl,kp _,ml (t:=t) (by decide) (λA' d=>Walks.strWide d _ z t) (λ_ _ _ _ _ st h=>wpAny_pyIter_striter_wide st h),⟨_,BZ _ rfl,rfl,rfl⟩,a,q⟩
 .refine wpAny_pyIter_ascii f ?_;exact⟨s1.heap.objs.size,[s1.heap.objs.size],_,_,H1,rfl,kp _,ml (t:=t) (by decide) (λA' d=>Walks.strAscii d _ z t) (λ_ _ _ _ _ st h=>wpAny_pyIter_striter_ascii st h),⟨_,BZ _ rfl,rfl,rfl⟩,a,q⟩⟩
theorem II{ta:TA}(hg:Gl X "range")(i:X.mg "range"=none)(c:QA X [a] ta)(hs:starEach [a] X.env=[(false,eval a X.env)]:=by rfl):QI X tg (.Call (.Name "range" p) [a] [] pos) (Vf ta):=⟨by
 have c:=c.h;intro Zh s Z H R I h;refine Call_ (K3 I hg i boot_range (QX (AY (c pos Zh s Z H _ I h) λus s1⟨vs,H1,I1,f,b⟩=>?_) hs rfl));obtain⟨j,e,b,g,q⟩:=b;subst e;cases f with
 |cons r d=>
  cases d;obtain⟨t,rfl⟩:=r;exact call_range_1 (va I1 (by omega) (by omega) b g (by simpa using q))⟩
theorem Lg:Rk X [] Md:=⟨λZh s Z H Q I h=>by
 rw[oS];exact qL ⟨H,I,h⟩⟩
theorem Fu{t:TT}(a:QT X c t):Rk X [c] t:=⟨ZAt a.h⟩
theorem Fi(a:X.calm=true)(S:Cc X.N X.env.scope scope x Ar js)(hi:QI X (.Name x px) iter wi)
  (Fl:∀fp C s H,Rk (Jo X (Ar++[x]) scope (Cm X.env.cells scope.names) C s H fp) ifs tt) (Fc:∀fp C s H,QE (Jo X (Ar++[x]) scope (Cm X.env.cells scope.names) C s H fp) elt te)
  (hs:∀v,foldedSetIterable iter X.env v=pure v:=by intro _;rfl):QE X (.ListComp elt [⟨.Name x px,iter,ifs,0⟩] scope pos) (KD wi js tt te):=⟨ZAM a S hi.h (λfp C s H=>(Fl fp C s H).h) (λfp C s H=>(Fc fp C s H).h) hs⟩
theorem N4{py Kg:Pos}(c:X.N.Nodup)(Cy:X.N[i]?=some y)(a:Loc X.env.scope y)(b:X.calm=true)(S:Cc X.N X.env.scope scope x Ar js)(hi:QI X (.Name x px) iter wi)
  (Fl:∀fp C s H,Rk (Jo X (Ar++[x]) scope (Cm X.env.cells scope.names) C s H fp) ifs tt) (Fc:∀fp C s H,QE (Jo X (Ar++[x]) scope (Cm X.env.cells scope.names) C s H fp) elt te)
  (Q7:swapsWith (.ListComp elt [⟨.Name x px,iter,ifs,0⟩] scope pos) (some (.Name y py)) Kg.line X.env=pure true:=by rfl)
  (hf:X.fn y=true∨X.env.scope.names.lookup y=some .local:=by first|exact .inl rfl|exact .inr rfl|assumption)
  (hs:∀v,foldedSetIterable iter X.env v=pure v:=by intro _;rfl):QS X (.Assign [.Name y py] (.ListComp elt [⟨.Name x px,iter,ifs,0⟩] scope pos) Kg) (GF (KD wi js tt te) (ES i)):=
 ⟨ZEA c Cy a b S hi.h (λfp C s H=>(Fl fp C s H).h) (λfp C s H=>(Fc fp C s H).h) Q7 hf hs⟩
theorem rU(b:X.N.Nodup)(hi:X.N[i]?=some x)(hx:Loc X.env.scope x)(a:X.fn x=true∨X.env.scope.names.lookup x=some .local:=by first|exact .inl rfl|exact .inr rfl|assumption):QG X (.Name x pos) (ES i):=⟨lY b hi hx a⟩
theorem IE:U7 X [] X4:=⟨by
 intro Zh s Z H vs us Q I r h;obtain⟨e,h⟩:=h;subst e;cases r;exact assignInOrder_nil ⟨Z,H,I,h⟩⟩
theorem DV{t:TG}{u:IG}(h1:QG X e t)(h2:U7 X es u)
  (hs:(assignEach (e::es) X.env).map (·.2)=assign e X.env::(assignEach es X.env).map (·.2):=by rfl):U7 X (e::es) (RH t u):=⟨by
 have h1:=h1.h;have h2:=h2.h;intro Zh s Z H vs us Q I r h;obtain⟨v,d,c,h⟩:=h;subst c;cases r with
 |cons r a=>
  rw[hs];refine assignInOrder_cons (AY (h1 Zh s Z H _ _ _ I r h) λ_ s1 ZEO=>?_);obtain⟨σ1,H1,I1,b⟩:=ZEO;exact h2 Zh s1 σ1 H1 _ _ Q I1 a b⟩
theorem J3{k:Nat}{t:IG}(i:X.calm=true)(h:U7 X es t)(hn:(assignEach es X.env).length=n:=by rfl)(CV:(assignEach es X.env).findIdx? (·.1)=none:=by rfl):QG X (.Tuple es k pos) (XA X.K n t):=⟨by
 have h:=h.h;intro Zh s Z H v u Q I r hw;obtain⟨a,xs,j,f,g,hw⟩:=hw;subst j;cases r;obtain⟨A5,c,d,m⟩:=I.tuple f;refine assign_Tuple_tuple (I.ok.hd i) d (by simp[hn,<- g,c.length]) CV λh' hx=>?_;have l:Inv X Zh Z H { s with heap:=h' }:=I.kept (t':=s.toks) λb o e=>hx b o (BP (BD e)) e
 exact h Zh _ Z H xs _ Q l (by simpa using c) hw⟩
theorem lB{i:Expr}{ti:TE}{t:Rc}(ho:QE X o to)(hi:QE X i ti)(hs:V6 X t)
  (j:∀v,assign (.Subscript o i pos) X.env v=(do
   let a <- holding [v] (eval o X.env)
   let b <- holding [v,a] (eval i X.env)
   standAt pos
   holding [v,a,b] (setItem a b v)
   release [v,a,b] []):=by intro _;rfl):QG X (.Subscript o i pos) (gi to ti t):=⟨by
 have ho:=ho.h;have hi:=hi.h;intro Zh s Z H v u Q I r h;rw[j];refine pk (xf (AY (ho Zh s Z H _ I h) λa s1 ZCu=>?_));obtain⟨x,H1,I1,d,g⟩:=ZCu;refine pk (xf (AY (hi Zh s1 Z H1 _ I1 g) λb s2 YU=>?_));obtain⟨y,H2,I2,c,f⟩:=YU;refine pk (wpAny_standAt (pk (xf (AY (hs Zh s2 Z H2 x y v a b u _ I2 d c r f) λ_ k ZDd=>?_))));obtain⟨H3,I3,e⟩:=ZDd;exact wpAny_release ⟨Z,H3,I3,e⟩⟩
end
section
variable{st:Stmt}{u:TS}
theorem Ay:JW X [] Uu:=⟨λ_ _ Z H _ I h=>ZB7 ⟨Z,H,I,h⟩⟩
theorem AB(e:body=st::rest)(h:QS X st t)(h2:JW X rest u):JW X body (OY t u):=⟨ZE7 e h.h h2.h⟩
theorem AA(e:body=[st])(h:QS X st t):JW X body t:=⟨by have h:=h.h;rw[e];exact ZEI h⟩
theorem E6:QS X st ee:=⟨λ_ _ _ _ _ _ h=>h.elim⟩
theorem CI(a:QE X e te)(hs:swapsWith e none pos.line X.env=pure false:=by rfl):QS X (.Expr e pos) (Jn te):=⟨by
 have a:=a.h;intro Zh s Z H D I h;exact wpAny_Expr_any (AY (a Zh s Z H _ I h) λv s1 AO=>by obtain⟨x,H1,I1,c,b⟩:=AO;exact⟨Z,H1,I1,b⟩) I.quiet hs⟩
theorem AZ(a:QE X e te):QS X (.Return (some e) pos) (Ib te):=⟨by
 have a:=a.h;intro Zh s Z H D I h;exact wpAny_Return_some (AY (a Zh s Z H _ I h) λv s1 AO=>by obtain⟨x,H1,I1,b,c⟩:=AO;exact⟨x,Z,H1,I1,b,c⟩)⟩
theorem Aq{a b:List Stmt}(e:QT X c tc)(g:JW X a t)(f:JW X b u):QS X (.If c a b pos) (SI tc t u):=⟨by
 have e:=e.h;have g:=g.h;have f:=f.h;intro Zh s Z H D I h;refine wpAny_If (AY (e Zh s Z H _ I h) λd s1 Fh=>?_);obtain⟨H1,I1,i⟩:=Fh;cases d with
 |true=>exact g Zh s1 Z H1 D I1 i
 |false=>exact f Zh s1 Z H1 D I1 i⟩
theorem JH(a:QE X e te)(hg:QG X tg g)(hs:swapsWithSole [tg] e pos.line X.env=pure false:=by rfl)(hw:swappedStores [tg] e X.env=pure none:=by rfl)
  (h1:(assignEach [tg] X.env).map (·.2)=[assign tg X.env]:=by rfl):QS X (.Assign [tg] e pos) (GF te g):=⟨by
 have a:=a.h;have hg:=hg.h;intro Zh s Z H D I h;refine wpAny_Assign_stores (AY (a Zh s Z H _ I h) λv s1⟨x,H1,I1,b,c⟩=>?_) hs hw;rw[h1];exact AY (hg Zh s1 Z H1 x v _ I1 b c) λ_ s2 q=>q⟩
theorem ux(d:X.N.Nodup)(hi:X.N[i]?=some x)(hx:Loc X.env.scope x)(a:QE X e te)(hs:swapsWith e (some (.Name x pos')) pos.line X.env=pure false:=by rfl)(hf:X.fn x=true∨X.env.scope.names.lookup x=some .local:=by first|exact .inl rfl|exact .inr rfl|assumption):
  QS X (.Assign [.Name x pos'] e pos) (GF te (ES i)):=⟨by
 have a:=a.h;intro Zh s Z H D I h;refine wpAny_Assign_Name (AY (a Zh s Z H _ I h) λv s1⟨y,H1,I1,b,c⟩=>?_) hs;exact gW I1 d hi hx b (λs2 I2=>⟨_,H1,I2,c⟩) hf⟩
theorem ZX(hp:PassesOwn (model X.prog X.w) X.A X.env X.xe)(k:QT X c tc)(l:JW X body tb):QS X (.While c body [] pos) (aT tc tb):=⟨by
 have k:=k.h;have l:=l.h;intro Zh s Z H D I h;obtain⟨W,⟨q,p⟩,turn⟩:=h;refine wpAny_While (codeAny_whileLoop (λn s'=>∃ σ' H',Inv X Zh σ' H' s'/\W n σ' H') ?_ q ⟨Z,H,I,p⟩);rintro n s1⟨σ1,H1,I1,o⟩;refine ZAB hp (AY (k Zh s1 σ1 H1 _ I1 (turn n σ1 H1 o)) λb s2 ZDg=>?_);obtain⟨H2,I2,d⟩:=ZDg;cases b with
 |true=>
  obtain⟨N,m,d⟩:=d;rw[tU rfl];refine ZAB hp (AY (l Zh s2 σ1 H2 _ I2 d) λf r a=>?_);cases f with
  |next=>
   obtain⟨σ3,H3,I3,g⟩:=a;obtain⟨i,j,e⟩:=m σ3 H3 g;exact⟨i,j,σ3,H3,I3,e⟩
  |cont=>
   obtain⟨σ3,H3,I3,g⟩:=a;obtain⟨i,j,e⟩:=m σ3 H3 g;exact⟨i,j,σ3,H3,I3,e⟩
  |brk=>exact a
  |ret v=>exact a
 |false=>
  rw[tJ De];exact ZB7 ⟨σ1,H2,I2,d⟩⟩
theorem FG{iter:Expr}(hp:PassesOwn (model X.prog X.w) X.A X.env X.xe)(C:X.calm=true)(hi:QI X tg iter wi)(hg:QG X tg g)(a:JW X body tb)
  (hs:∀x,foldedSetIterable iter X.env x=pure x:=by intro _;rfl):QS X (.For tg iter body [] pos) (WS wi g tb):=⟨by
 have hi:=hi.h;have hg:=hg.h;have a:=a.h;intro Zh s Z H D I h;refine wpAny_For (AY (hi Zh s Z H _ I h) λv s1 h1=>AY h1 λUI s2 h2=>?_) hs;obtain⟨it,fp,tn,J,H2,e,I2,T,FJ,F,W,⟨Y,O⟩,turn⟩:=h2;subst e
 -- r8 stays true of Hl ZJQ objects through Hl loop
 have q:∀{H':Hp},(∀b∈fp,H' b=none)->∀b∈fp,EN X Zh H' b:=λhn b a=>⟨hn b a,(F b a).2⟩;refine codeAny_forLoop_any (λn s'=>∃i σ' H',Inv X Zh σ' H' s'/\tn i s'.heap/\(∀b∈fp,H' b=none)/\W i n σ' H') ?_ Y ⟨0,Z,H2,I2,FJ,λb a=>(F b a).1,O⟩;rintro n z⟨i,σ3,H3,I3,B,E,M⟩;rcases turn i n σ3 H3 M with⟨stop,U⟩|⟨go,N,hN,step⟩
 .refine ZAB hp (AY (T.done X rfl rfl rfl C i Zh z σ3 H3 X.xe I3 (q E) B stop) λr s4 YU=>?_);obtain⟨p,I4⟩:=YU;subst p;exact ZB7 ⟨σ3,H3,I4,U⟩
 .refine ZAB hp (AY (T.item X rfl rfl rfl C i Zh z σ3 H3 X.xe I3 (q E) B go) λr s4 ZD7=>?_);obtain⟨u,p,h4⟩:=ZD7;subst p;refine ZAB hp (AY h4 λ_ y ZEa=>?_);obtain⟨x,H5,I5,S,G,Ma,Tr⟩:=ZEa;have t:=I5.pinned (q Tr) (T.obj _ _ Ma);refine ZAB hp (AY (hg _ y σ3 H5 x u _ t S (step x H5 G)) λ_ Q P=>?_);obtain⟨σ6,H6,I6,V⟩:=P;refine ZAB hp (AY (a _ Q σ6 H6 _ I6 V) λf l j=>?_);have c:∀{σ7:St}{H7:Hp},Inv X (Zh++OU fp y.heap) σ7 H7 l->N σ7 H7->∃m,m<n/\∃i σ' H',Inv X Zh σ' H' l/\tn i l.heap/\(∀b∈fp,H' b=none)/\W i m σ' H':=λ{σ7 H7}I7 k=>by
   obtain⟨σ,hm,L⟩:=hN σ7 H7 k;refine⟨σ,hm,i+1,σ7,H7,I7.Nk,T.keep _ _ _ Ma λb a o e=>(I7.pin (b,o) (Dt _ (Dt _ (Qa a e)))).1,λb a=>?_,L⟩;obtain⟨o,e,d⟩:=T.obj _ _ Ma b a;exact(I7.pin (b,o) (Dt _ (Dt _ (Qa a e)))).2.1
  cases f with
  |next=>obtain⟨σ7,H7,I7,k⟩:=j;exact c I7 k
  |cont=>obtain⟨σ7,H7,I7,k⟩:=j;exact c I7 k
  |brk=>obtain⟨σ7,H7,I7,j⟩:=j;exact⟨σ7,H7,I7.Nk,j⟩
  |ret v=>obtain⟨K,σ7,H7,I7,R,j⟩:=j;exact⟨K,σ7,H7,I7.Nk,R,j⟩⟩
theorem CJ(h:QS X st t):QS X st (VO t):=⟨by
 have h:=h.h;intro Zh s Z H D I hw;obtain⟨J,h1,h2⟩:=hw;refine AY (h Zh s Z H _ I h1) λf s' q=>?_;cases f with
 |next=>obtain⟨σ',H',I',q⟩:=q;exact⟨σ',H',I',h2 σ' H' q⟩
 |ret v=>exact q
 |brk=>exact q
 |cont=>exact q⟩
end
theorem AF.Al{P:Program}{K:ZKG}{mg:ZKI}{Zy:Heap}{qual:Str}{st:Stmt}{fd:FuncData}{N:List Str}{k:Nat}(F:AF K x qual st f fd)(S:Ai N ps (AR st))(len:∀vs H Q E,sp vs H Q E->vs.length=ps.length)
  (Nr:∀(AV:Value)(A:Around)(outer:List Env)(s:Shared)(H:Hp)(vs:List V)(Q:VK)(E:XK),Bq k (A.deeper (envOfC qual (AR st) s.heap.objs.size f AV))->sp vs H Q E->
   ∃t,JW (LM GH P w K mg Zy N qual (AR st) f AV A outer s H E).Nz (Ls st) t/\t { nx:=λ_ H'=>Q .AG H',rt:=Q } (start N vs) H):Dm P w K mg Zy GH (k+1) f fd ps sp:=
 F.ok S len λAV A outer s H vs Q E a h=>let ⟨t,q,r⟩:=Nr AV A outer s H vs Q E a h;⟨t,q.h,r⟩
section
variable{b:Expr}{tb:TE}{t:TA}
theorem Ak{id:String}(b:D1 X (.builtin id) r)(a:X.mg x=none)(c:QA X (e::es) t)(hg:Gl X x:=by rfl)(hv:bootBuiltins x=some (.builtin id):=by decide +kernel)(hn:x ≠"__name__" := by decide)(DO:(x == ("__debug__":Str))=false:=by decide)
  (he:starEach (e::es) X.env=(false,eval e X.env)::starEach es X.env:=by rfl) (Bh:(backTo pos (starEach es X.env)).any (·.1)=false:=by rfl):QE X (.Call (.Name x p) (e::es) [] pos) (DA r t):=ZFI b hg a hv c hn DO he Bh
theorem CS(b:D1 X (.type T) r)(a:X.mg x=none)(c:QA X (e::es) t)(hg:Gl X x:=by rfl)(hv:bootBuiltins x=some (.type T):=by decide +kernel)(hn:x ≠"__name__" := by decide)(DO:(x == ("__debug__":Str))=false:=by decide)
  (he:starEach (e::es) X.env=(false,eval e X.env)::starEach es X.env:=by rfl) (Bh:(backTo pos (starEach es X.env)).any (·.1)=false:=by rfl):QE X (.Call (.Name x p) (e::es) [] pos) (DA r t):=vK b hg a hv c hn DO he Bh
theorem AI{r:R2}(c:EA X r)(e:QE X a ta)(d:QE X b tb)(hs:YI b:=by exact λ_ _=>rfl):QE X (.Subscript a b pos) (By r ta tb):=vy c e d hs
theorem AM{k:Nat}(h:A8 X.prog X.w X.K X.mg X.base x k ps sp)(a:Bq j X.A)(c:QA X (e::es) t)(b:k<=j:=by decide)(hg:Gl X x:=by rfl)(DO:(x == ("__debug__":Str))=false:=by decide)
  (he:starEach (e::es) X.env=(false,eval e X.env)::starEach es X.env:=by rfl) (Bh:(backTo pos (starEach es X.env)).any (·.1)=false:=by rfl):QE X (.Call (.Name x p) (e::es) [] pos) (C0 sp [] E0 t):=ZFQ h a b c hg DO he Bh
theorem Cj{r:R2}(ho:BB X (compareOp op) r)(e:QE X a ta)(d:QE X b tb)(c:behindInMarks op b=false:=by first|exact jg _|with_unfolding_all rfl):QE X (.Compare a [op] [b] pos) (By r ta tb):=ZAa ho e d c
theorem Ac{r:R2}(ho:BB X (compareOp op) r)(e:QE X a ta)(d:QE X b tb)(c:behindInMarks op b=false:=by first|exact jg _|with_unfolding_all rfl):QT X (.Compare a [op] [b] pos) (NV (By r ta tb)):=ZIJ ho e d c
theorem An(i:Nat)(b:X.N.Nodup)(a:QE X e te)(hi:X.N[i]?=some x:=by rfl)(hx:Loc X.env.scope x:=by first|exact Or.inl rfl|exact Or.inr rfl)(hs:swapsWith e (some (.Name x pos')) pos.line X.env=pure false:=by rfl)(hf:X.fn x=true∨X.env.scope.names.lookup x=some .local:=by first|exact .inl rfl|exact .inr rfl|assumption):
  QS X (.Assign [.Name x pos'] e pos) (GF te (ES i)):=ux b hi hx a hs hf
theorem Bp(i:Nat)(a:X.N.Nodup)(hi:X.N[i]?=some x:=by rfl)(hx:Loc X.env.scope x:=by first|exact Or.inl rfl|exact Or.inr rfl)(hf:X.fn x=true∨X.env.scope.names.lookup x=some .local:=by first|exact .inl rfl|exact .inr rfl|assumption):QG X (.Name x pos) (ES i):=rU a hi hx hf
end
section
variable{Zh:ZKH}{Z:St}{H:Hp}{a:Addr}{A6:List (Str×Addr)}
theorem Ql{t:Tok}:EK (.str x) (.str y t)=(y == x):=rfl
theorem Wv(x:Str):∀(ss:List Str)(m:Nat)(b:m<ss.length),m<ss.idxOf x->ss[m]≠x
 | [],_,b,_=>absurd b (Nat.not_lt_zero _)
 |a::r,m,b,h=>by
  rw[oX]at h
  by_cases e:a=x
  .have:(a == x)=true:=by simpa using e
   rw[this]at h;exact absurd h (Nat.not_lt_zero _)
  .have c:(a == x)=false:=by simpa using e
   rw[c]at h;cases m with
   |zero=>exact e
   |succ k=>
    have h':k+1<r.idxOf x+1:=h;exact Wv x r k (by simpa using b) (by omega)
theorem MK(h:x∈ss):∃a:ss.idxOf x<ss.length,ss[ss.idxOf x]=x/\∀m(b:m<ss.length),m<ss.idxOf x->ss[m]≠x:=by
 have a:ss.idxOf x<ss.length:=List.idxOf_lt_length_iff.mpr h;exact⟨a,bE a,λm b AU=>Wv x ss m b AU⟩
def ZB8(K:ZKG):V->List V->Hp->VK->Prop:=λx vs H Q=>∃(l:Addr)(ss:List Str)(y:Str),x=.ref l/\vs=[.str y]/\AK K H l (ss.map V.str)/\y∈ss/\Q (.int (ss.idxOf y:Nat)) H
theorem YL:JT X "list.index" (ZB8 X.K):=by
 intro Zh s Z H x vs v us Q I i j h;obtain⟨l,ss,y,rfl,rfl,p,o,q⟩:=h;cases i;obtain⟨u,rfl,k⟩:=j.one;obtain⟨A5,r,pl,b⟩:=I.list p;obtain⟨⟨c,d,G,sl⟩,n,ho,f,hd,GU⟩:=id pl;simp only at f hd GU;subst f;subst hd;subst GU;have A:=r.length;rw[AS]at A;obtain⟨D,WB,Kt⟩:=MK o;have at':∀(m:Nat)(a:m<A5.toArray.size),∃t,A5.toArray[m]=.str (ss[m]'(by simp at a;omega)) t:=λm a=>by
  have B:m<A5.length:=by simpa using a
  obtain⟨h2,t,e⟩:=RQ r (B9 B);exact⟨t,by simpa using e⟩
 have g:ss.idxOf y<A5.toArray.size:=by simp;omega
 refine ZBh bX ⟨_,ho,rfl⟩ PySem.F.entry_list_index (PySem.F.args_list_index_2 _ _) (SeqAt.list_indexAt l A5.toArray n none sl u (EK (.str y)) (ss.idxOf y) g ?_ ?_ (λm a AU=>?_)) ⟨ho,λz Of=>LW k rfl r (by
   rw[Hs];intro w hw;obtain⟨C,_,rfl⟩:=List.mem_map.mp hw;rfl) z (by simpa using Of),?_⟩
 .have h1:ss.length<=sizeLine:=by rw[AS]at b;exact b
  have h2:=KH;have E:((sizeLine:Nat):Int)<2 ^ 63:=by exact_mod_cast h2
  omega
 .obtain⟨t,e⟩:=at' _ g;rw[e,Ql];simpa using WB
 .obtain⟨t,e⟩:=at' _ a;rw[e,Ql];have:=Kt m (by simp at a;omega) AU
  simpa using this
 .exact⟨.int _,H,I.tok _,⟨_,rfl⟩,q⟩
theorem uO(l:Addr)(items:Array Value)(n:Nat)(dd:Option Addr)(sl:Array (Option Value))(x:Value)(e:Value->Bool)(j:Nat)(v:j<items.size)(f:e items[j]=true)(Kt:∀m(u:m<items.size),m<j->e items[m]=false):
  Meets (Builtin.«tuple.index» ⟨[.ref l,x],[]⟩)
   (λA R s=>s.heap.get? l=some { cls:=.type "tuple", dict:=dd,data:=.seq items n,slots:=sl }/\(∀y,y∈items->SeqAt.EqAt A.in1 s y x (e y))/\R (.ok (.ret (.int j s.toks))) { s with toks:=s.toks+1 }):=by
 refine Meets.of_wp λprog w A R s h=>?_;obtain⟨hp,g,d,tk,os⟩:=s;obtain⟨o,p,h⟩:=h
 wp_walk using AutoSeq1.wpAny_loadPart' o
 show wpAny _ _ (forIn [:min items.size items.size] ((none:Option Fin),()) (λ(i:Nat)(_:Option Fin×Unit)=>match items[i]? with
  |some y=>(do let b <- eqBool y x;if b=true then do let r <- retInt ((i:Nat):Int);pure (ForInStep.done (some r,()))else pure (ForInStep.yield (none,())))
  |_=>pure (ForInStep.yield (none,())))) _ _ _
 rw[Std.Legacy.Range.forIn_eq_forIn_range'];have hsz:([:min items.size items.size]:Std.Legacy.Range).size=items.size:=by simp[Std.Legacy.Range.size]
 show wpAny _ _ (forIn (List.range' 0 ([:min items.size items.size]:Std.Legacy.Range).size 1) _ _) _ _ _;rw[hsz];refine wpAny_forIn_list _ (λrest b s'=>b=(none,())/\s'=⟨hp,g,d,tk,os⟩/\∃i,rest=List.range' i (items.size - i) 1/\i<=j) _ ?_ ?_ _ _ ⟨rfl,rfl,0,rfl,CF _⟩
 .rintro i rest b s'⟨rfl,rfl,a,c,C5⟩;have k:a < items.size:=by omega
  have t:List.range' a (items.size - a) 1=a::List.range' (a+1) (items.size - (a+1)) 1:=by
   have:items.size - a=(items.size - (a+1))+1:=by omega
   rw[this,ZJ2]
  rw[t]at c;injection c with VZ Yh
  subst VZ;subst Yh;have hi:items[i]?=some items[i]:=by simp[k]
  rw[hi];refine pk (p _ (Array.getElem_mem k) prog w _ _ ?_)
  by_cases q:i=j
  .subst q;rw[f,tU rfl]
   wp_walk
   exact⟨_,rfl,h⟩
  .rw[Kt i k (by omega),tJ (by decide)];exact qL ⟨rfl,rfl,i+1,rfl,by omega⟩
 .rintro b s'⟨rfl,rfl,i,c,C5⟩;have:0<(List.range' i (items.size - i) 1).length:=by rw[List.length_range'];omega
  rw[<- c]at this;exact absurd this (by simp)
def yO(K:ZKG):V->List V->Hp->VK->Prop:=λx vs H Q=>∃(l:Addr)(ss:List Str)(y:Str),x=.ref l/\vs=[.str y]/\AE K H l (ss.map V.str)/\y∈ss/\Q (.int (ss.idxOf y:Nat)) H
theorem zj:JT X "tuple.index" (yO X.K):=by
 intro Zh s Z H x vs v us Q I g i h;obtain⟨l,ss,y,rfl,rfl,o,k,q⟩:=h;cases g;obtain⟨u,rfl,j⟩:=i.one;obtain⟨A5,r,pl,C⟩:=I.tuple o;obtain⟨⟨c,d,E,sl⟩,ho,b,n,GU⟩:=id pl;simp only at b GU;subst b;subst GU;have p:=r.length;rw[AS]at p;obtain⟨D,WB,Kt⟩:=MK k;have at':∀(m:Nat)(a:m<A5.toArray.size),∃t,A5.toArray[m]=.str (ss[m]'(by simp at a;omega)) t:=λm a=>by
  have A:m<A5.length:=by simpa using a
  obtain⟨h2,t,e⟩:=RQ r (B9 A);exact⟨t,by simpa using e⟩
 have f:ss.idxOf y<A5.toArray.size:=by simp;omega
 refine ZBh ZJI ⟨_,ho,rfl⟩ PySem.F.entry_tuple_index (PySem.F.args_tuple_index_2 _ _) (uO l A5.toArray n d sl u (EK (.str y)) (ss.idxOf y) f ?_ (λm a AU=>?_)) ⟨ho,λz Of=>LW j rfl r (by
   rw[Hs];intro w hw;obtain⟨B,_,rfl⟩:=List.mem_map.mp hw;rfl) z (by simpa using Of),?_⟩
 .obtain⟨t,e⟩:=at' _ f;rw[e,Ql];simpa using WB
 .obtain⟨t,e⟩:=at' _ a;rw[e,Ql];have:=Kt m (by simp at a;omega) AU
  simpa using this
 .exact⟨.int _,H,I.tok _,⟨_,rfl⟩,q⟩
def pb(t u:TE):TE:=λZ H Q=>t Z H Q∨u Z H Q
theorem ZAK{t u:TE}(h:QE X e t)(h2:QE X e u):QE X e (pb t u):=⟨λZh s Z H Q I q=>q.elim (h.h Zh s Z H Q I) (h2.h Zh s Z H Q I)⟩
end
theorem ZAo:typeLookup (.type "list_reverseiterator") "__len__"=pure none:=by rw[ZAV,zC];kernel_rfl
theorem ZFg:typeLookup (.type "list_reverseiterator") "__length_hint__"=pure (some (.builtin "list_reverseiterator.__length_hint__")):=by rw[ZAV,zC];kernel_rfl
section
variable{prog:Program}{A:Around}{R:Result->Shared->Prop}
variable{fp wr:List Addr}{G:Array GenState->Array GenState->Prop}{P:Nat->Value->Prop}{St:Nat->Shared->Prop}
theorem ZCQ(W:WalksS prog w A.in1 I fp wr G n P St)(c:∀i s,St i s->s.TypeIs (.ref I) "list_reverseiterator")(S:Addr)(res:Value)(m:Nat)(CV:St 0 s)(Dr:S∉fp)(l:I∈fp)
  (k:s.heap.get? S=some { cls:=.type "list", data:=.seq #[] m })
  (hR:∀s' DN a,Moved (S::wr) G s s'->s'.heap.get? S=some { cls:=.type "list", dict:=none,data:=.seq DN a,slots:=#[] }->ItemsOf P DN n->R (.ok (.ret res)) s') (hn:n<=sizeLine) :
  wpAny (model prog w) A.in1 (Builtin.List.listExtendWith (.ref S) (.ref I) res)
   (λg s'=>match g with | .done f=>R (.ok f) s' | .again a=>a.quiet=true/\codeAny (model prog w) A a R s') (λe s'=>R (.error e) s') s:=by
 have d:S≠I:=λe=>Dr (e▸l);unfold Builtin.List.listExtendWith;refine pk (zU (c 0 _ CV) ?_);have h1:Builtin.List.listSameRef (.ref S) (.ref I)=false:=by simp[Builtin.List.listSameRef,d]
 rw[tJ (by rw[h1];decide)];refine pk (W.self 0 _ _ _ CV ?_);refine pk (xf ?_);unfold Builtin.List.listLengthHint;refine pk (ZAI (c 0 _ CV) ZAo ?_);show wpAny _ A.in1 (specialOf (Value.ref I) (Str.ofString "__length_hint__") >>= _) _ _ _;refine pk (ZAI (c 0 _ CV) ZFg ?_);generalize h:("list_reverseiterator.__length_hint__":String)=LB
 wp_delta
 rw[show splitId LB=some ("list_reverseiterator","__length_hint__")from by subst h;decide +kernel];subst h;refine pk (ZA7 (b:=true) (c 0 _ CV) (by rw[za];kernel_rfl) ?_);refine qL ?_;rw[tJ (by decide)];refine qL ⟨ZAE F.plain_extend_loop _,ZAj W hn _ Dr _ n 0 _ _ _ rfl (CF _) CV k (bA P) λs' DN a j Cd B6=>?_⟩;exact hR s' DN a j Cd B6
theorem qt(W:WalksS prog w A.in1 I fp wr G n P St)(m:∀i s,St i s->s.TypeIs (.ref I) "list_reverseiterator")(S:Addr)(CV:St 0 s)(Dr:S∉fp)(p:I∈fp)
  (g:s.heap.get? S=some { cls:=.type "list", data:=.seq #[] })
  (hR:∀s' DN a,Moved (S::wr) G s s'->s'.heap.get? S=some { cls:=.type "list", dict:=none,data:=.seq DN a,slots:=#[] }->ItemsOf P DN n->R (.ok (.ret .none)) s') (hn:n<=sizeLine) :
  wpAny (model prog w) A.in1 (Builtin.«list.__init__» ⟨[.ref S,.ref I],[]⟩)
   (λj s'=>match j with | .done f=>R (.ok f) s' | .again a=>a.quiet=true/\codeAny (model prog w) A a R s') (λe s'=>R (.error e) s') s:=by
 show wpAny _ A.in1 (do let old <- Builtin.List.listItems (.ref S);Builtin.List.listUpdate (.ref S) (λ_=>#[]);letGo old.toList.reverse;Builtin.List.listExtendWith (.ref S) (.ref I) .none) _ _ s
 refine pk ?_;unfold Builtin.List.listItems;refine pk (ZBB g rfl (qL ?_));show wpAny _ A.in1 (updateSeq S (λ_=>#[]) >>= λ_=>letGo (#[]:Array Value).toList.reverse >>= λ_=>Builtin.List.listExtendWith (.ref S) (.ref I) .none) _ _ s;refine pk (ZA0 g rfl ?_);have d:=G9 (Obj.mapSeq (λ_=>(#[]:Array Value))) g rfl;have k:∀b o,b≠S->s.heap.get? b=some o->(s.heap.update S (Obj.mapSeq (λ_=>(#[]:Array Value)))).get? b=some o:=
  λb o c e=>(HJ _ _ (BW c)).trans e
 refine pk (wpAny_letGo ?_);refine ZCQ (hn:=hn) W m S .none _ (W.frame 0 s _ s.toks CV (Am _) λb c o e=>k b o (λh=>Dr (h▸c)) e) Dr p d λs' DN a l Cd B6=>?_;exact hR s' DN a (Moved.trans W.gtrans ((Moved.refl W.grefl).then_heap (Am _) λb o c e=>k b o (λh=>c (h▸Cp)) e) l) Cd B6
theorem vM(W:WalksS prog w A.in1.in1 I fp wr G n P St)(h:∀i s,St i s->s.TypeIs (.ref I) "list_reverseiterator")(CV:St 0 s)(NS:∀b∈fp,b<s.heap.objs.size)(k:I∈fp)
  (j:∀s' DN c,Moved (s.heap.objs.size::wr) G { s with heap:=s.heap.push { cls:=.type "list", data:=.seq #[] } } s'->
   s'.heap.get? s.heap.objs.size=some { cls:=.type "list", dict:=none,data:=.seq DN c,slots:=#[] }->ItemsOf P DN n->Q (.ref s.heap.objs.size) s') (hn:n<=sizeLine) :
  wpAny (model prog w) A (call (.type "list") [.ref I]) Q E s:=by
 have l:s.heap.objs.size∉fp:=λa=>M6 _ (NS _ a);refine callType_codes (Q₁:=λobj d=>obj=.ref s.heap.objs.size/\d={ s with heap:=s.heap.push { cls:=.type "list", data:=.seq #[] } }) F.called_list (F.typeCall_list_1 _) F.entry_list_init
  (code_list_new _ ⟨rfl,rfl⟩) λobj d g=>?_
 obtain⟨rfl,rfl⟩:=g;have f:(s.heap.push { cls:=.type "list", data:=.seq #[] }).get? s.heap.objs.size=some { cls:=.type "list", data:=.seq #[] }:=BZ _ rfl;refine⟨⟨_,f,rfl⟩,F.args_list_init_2 _ _,qt (hn:=hn) W h _ (W.frame 0 s _ s.toks CV (Am _) λb _ o e=>BF _ e) l k f λs' DN c a Cd B6=>?_⟩;exact⟨rfl,j s' DN c a Cd B6⟩
variable{l:Addr}{items:Array Value}
end
end L2
namespace HT
variable{E Q:Value->Shared->Prop}
section
variable{prog:Program}{w:World}{A:Around}{s:Shared}
theorem ZA3{t sl:Addr}{items:Array Value}{vl vu:Value}{lo hi:Option Int}(a:IsTup s.heap t items)(hs:s.heap.IsSliceOf sl vl vu .none)(pl:IsPart vl lo)(c:IsPart vu hi)
  (hw:As items.size 0 lo=0/\As items.size items.size hi=items.size) (h:Q (.ref t) s):wpAny (model prog w) A (getItem (.ref t) (.ref sl)) Q E s:=by
 obtain⟨os,LQ,ME,Pd⟩:=id hs;have d:s.TypeIs (.ref sl) "slice" := ⟨os,LQ,ME⟩;unfold getItem
 try with_reducible refine xf ?_
 first|refine pk (qL ?_)|skip
 refine pk (wpAny_sequenceKey a.typeIs (by decide) ?_);refine pk (uw (name:=Str.ofString "__getitem__") a.typeIs bW
  (wR bW a.typeIs entry_tuple_getitem ?_ (args_tuple_getitem _ _)))
 show wpAny _ _ (Builtin.Tuple.tupleItemsOf (.ref t) >>= _) _ _ s;refine pk (tupleItemsOf_ a ?_);refine pk (zU d ?_);rw[tU (by decide)];refine pk (ij hs pl c ?_);have b:((((As items.size 0 lo:Nat):Int) == 0 && (1:Int) == 1 && (As items.size items.size hi - As items.size 0 lo) == items.size)=true):=by
  rw[hw.1,hw.2];simp
 first
 |rw[tU b]
 |simp only[b,ZBx]
 refine pk ?_;unfold Builtin.Tuple.tupleIsExact;refine pk (zU a.typeIs (qL ?_));rw[tU (by decide)];exact pk (ZB2 (qL ⟨_,rfl,qL h⟩))
end
end HT
namespace L2
variable{X:Cx}{xs ys:List V}{A5 vs:List Value}{acc items ps:Array Value}{Zh:ZKH}{Z:St}{H:Hp}{s:Shared}{h':Heap}{ep i k1 n nT nl pl sl t':Nat}{fp:List Addr}{I S a it:Addr}{o oT:Obj}{w:World}{es:Array (Int×Value)}{p1 pos:Pos}{t:SetTable}{prog:Program}{A:Around}{E Q₁:Value->Shared->Prop}{e:Int×Value}{Q:Option Value->Shared->Prop}{α:Type}{f v x:Value}{AH ss:List Str}
def c8(K:ZKG):V->Option Int->Option Int->Hp->VK->Prop:=λx lo hi H Q=>∃a xs,x=.ref a/\AE K H a xs/\
 ((HT.As xs.length 0 lo=0/\HT.As xs.length xs.length hi=xs.length)->Q (.ref a) H)/\(¬ (HT.As xs.length 0 lo=0/\HT.As xs.length xs.length hi=xs.length)->∀p,H p=none->Q (.ref p) (upd H p (.tup (CL xs lo hi))))
theorem dz:Jp X (c8 X.K):=by
 intro Zh s Z H x v vl vu lo hi sl Q I c hs pl d h;obtain⟨a,xs,rfl,hx,g,f⟩:=h
 by_cases hw:HT.As xs.length 0 lo=0/\HT.As xs.length xs.length hi=xs.length
 .cases c;obtain⟨A5,r,e,i⟩:=I.tuple hx;have b:A5.toArray.size=xs.length:=by rw[C1];exact r.length.symm
  refine⟨"tuple", _,PyProof.Rows.slot_tuple_getitem.lookup,e.typeIs,?_⟩;exact HT.ZA3 e hs pl d (by rw[b];exact hw) ⟨.ref a,H,I,rfl,g hw⟩
 .exact mN Zh s Z H _ v vl vu lo hi sl Q I c hs pl d ⟨a,xs,rfl,hx,hw,f hw⟩
def ZBa(K:ZKG):V->Option Int->Option Int->Hp->VK->Prop:=λx lo hi H Q=>∃a tp xs,x=.ref a/\C4 K tp H a xs/\∀p H',A9 H H'->C4 K tp H' p (CL xs lo hi)->Q (.ref p) H'
theorem x3{lo hi:Option Int}(h:HT.As xs.length 0 lo=0/\HT.As xs.length xs.length hi=xs.length):CL xs lo hi=xs:=by
 unfold CL;rw[h.1,h.2];simp
theorem Lu:Jp X (ZBa X.K):=by
 intro Zh s Z H x v vl vu lo hi sl Q I b hs pl c h;obtain⟨a,tp,xs,rfl,hx,q⟩:=h;cases tp with
 |false=>exact IM Zh s Z H _ v vl vu lo hi sl Q I b hs pl c ⟨a,xs,rfl,hx,λp hp=>q p _ (Ab hp _) (AK.of AJ)⟩
 |true=>exact dz Zh s Z H _ v vl vu lo hi sl Q I b hs pl c ⟨a,xs,rfl,hx,λhw=>q a H (A9.refl _) (by rw[x3 hw];exact hx),λ_ p hp=>q p _ (Ab hp _) (AE.of AJ)⟩
theorem ZFO(r:Vals ys A5)(h:ItemsOf (λi v=>A5.toArray[A5.toArray.size - 1 - i]?=some v) acc A5.toArray.size):∃us:List Value,Vals ys.reverse us/\acc=us.toArray:=by
 have e:acc=A5.reverse.toArray:=by
  apply Array.toList_inj.mp;rw[List.toList_toArray];apply oP;intro i;have hs:acc.size=A5.length:=by rw[h.1];simp
  by_cases hi:i<A5.length
  .have h1:acc.toList[i]?=some (acc[i]'(by omega)):=by simp
   have h2:=h.2 i (acc[i]'(by omega)) (by simp);rw[h1,List.getElem?_reverse hi];simp at h2;rw[<- h2]
  .have h1:acc.toList[i]?=none:=M0 (by simp;omega);have h2:A5.reverse[i]?=none:=M0 (by simp;omega);rw[h1,h2]
 exact⟨A5.reverse,r.reverse,e⟩
theorem Inv.d9(I:Inv X Zh Z H s)(d:∀b∈fp,EN X Zh H b)(k:∀b o,b∉fp->s.heap.get? b=some o->h'.get? b=some o):
  Inv X Zh Z H { s with heap:=h',toks:=t' }:=by
 have f:∀b u,H b=some u->b∉fp:=λb u e z=>by rw[(d b z).1]at e;cases e
 refine I.step (g':=s.gens) (d':=s.drawn) (ch:=fp) (λb h=>?_) (λb o _ _ a e _=>k b o a e) (λb o _ _ a e _=>⟨o.slots,k b o a e⟩) (λ_ _ _ _ n=>n)
  (λb o a e=>⟨o,k b o a e⟩) (λ_ _ e=>e) (λ_ _ _ e=>e) (λb ps e=>⟨#[],by rw[e];simp⟩) (λm g=>?_) (λb u e=>?_) I.bare
 .obtain⟨_,h1,_,l,j,i⟩:=d b h;exact⟨l,h1,j,i⟩
 .obtain⟨o,es,ep,ho,r⟩:=g;exact⟨o,es,ep,k _ o (λz=>(d _ z).2.1 rfl) ho,r⟩
 .refine(I.AQ b u e).J8 (λc v a q=>k c v ?_ q) (λ_ q=>q) λ_ _ q=>q;rcases a with z|z
  .rw[z];exact f b u e
  .exact f c _ z
theorem Inv.l9{o:HO}(I:Inv X Zh Z H s)(h:∀b∈fp,EN X Zh H b)(k:∀b o,b∉fp->s.heap.get? b=some o->h'.get? b=some o)
  (i:s.heap.objs.size<=a) (new:CC X.prog X.w (upd H a o) h' a o):Inv X Zh Z (upd H a o) { s with heap:=h',toks:=t' }:=by
 have hn:H a=none:=I.AQ.fresh i;have j:∀b u,H b=some u->b∉fp:=λb u e z=>by rw[(h b z).1]at e;cases e
 have ne:∀b u,H b=some u->b≠a:=λb u e=>Ed e hn;have g:∀b u,s.heap.get? b=some u->b≠a:=λb u e=>BP (Du (BD e) i);refine I.step (g':=s.gens) (d':=s.drawn) (ch:=fp) (λb f=>?_) (λb o _ _ d e _=>k b o d e) (λb o _ _ d e _=>⟨o.slots,k b o d e⟩) (λb o _ e n=>by rw[Ah (g b o e)];exact n)
  (λb o d e=>⟨o,k b o d e⟩) (λb _ e=>by rw[Ah (ne b _ e)];exact e) (λb _ _ e=>by rw[Ah (ne b _ e)];exact e) (λb ps e=>⟨#[],by rw[Ah (ne b _ e),e];simp⟩) (λm l=>?_) (λb u e=>?_) I.bare
 .obtain⟨_,h1,_,x,t,p⟩:=h b f;exact⟨x,h1,t,p⟩
 .obtain⟨o,es,ep,ho,r⟩:=l;exact⟨o,es,ep,k _ o (λz=>(h _ z).2.1 rfl) ho,r⟩
 .by_cases f:b=a
  .subst f;rw[AJ]at e;cases e;exact new
  .rw[Ah f]at e;refine(I.AQ b u e).J8 (λc v d q=>k c v ?_ q) (λc q=>by rw[Ah (ne c _ q)];exact q) λc _ q=>by rw[Ah (ne c _ q)];exact q
   rcases d with z|z
   .rw[z];exact j b u e
   .exact j c _ z
def jE(K:ZKG)(a:Addr)(xs:List V):It:=
 ⟨λi H=>AK K H a xs/\i<xs.length,λi H x H'=>∃p y,xs[i]?=some y/\x=.ref p/\H p=none/\H'=upd H p (.tup [.int i,y]),λi H=>AK K H a xs/\xs.length<=i⟩
theorem kK{P:Program}{K:ZKG}{es:List Expr}(a e it:Addr)(xs:List V)(MC:e≠it):
  Turn P w K (.Tuple es k1 p1) (jE K a xs) [e,it] e (λi h=>(∃old,IsEnum h e it i old)/\h.IsListIter it a i) where
 mem:=by simp
 obj:=λi h st b f=>by
  obtain⟨⟨old,h1⟩,o,h2,_,d⟩:=st;rcases List.mem_cons.mp f with z|z
  .subst z;exact⟨_,h1,λv z=>by cases z⟩
  .have:b=it:=by simpa using z
   subst this;exact⟨o,h2,λv z=>by rw[d]at z;cases z⟩
 keep:=λi h h' st k=>⟨let ⟨old,h1⟩:=st.1;⟨old,k e (by simp) _ h1⟩,st.2.at λo q=>k it (by simp) o q⟩
 item:=by
  intro X n hw r y i Zh s Z H E I j st hg;subst n hw r;obtain⟨m,hi⟩:=hg;obtain⟨⟨old,g⟩,c⟩:=st;obtain⟨A5,l,p,F⟩:=I.list m;obtain⟨u,hu,D⟩:=l.get (B9 hi);refine wpAny_pyNext_enum_item g c p.isList (x:=u) (by simpa using hu) MC λh1 I0 C IX L Ye=>⟨_,rfl,?_⟩
  refine ZBN I0 λh2 KI DZ=>?_;have B:e<s.heap.objs.size:=BD g;have A:h2.get? s.heap.objs.size=some { cls:=.type "tuple", data:=.seq #[.int i s.toks,u] }:=(DZ.2 _ (Ks B)).trans IX;have kp:∀b o,b∉[e,it]->s.heap.get? b=some o->h2.get? b=some o:=λb o f q=>by
   have t:b≠e/\b≠it:=by simpa using f
   exact(DZ.2 b t.1).trans (Ye b o t.1 t.2 q)
  refine⟨.ref s.heap.objs.size,_,I.l9 (t':=s.toks+1) (a:=s.heap.objs.size) (o:=.tup [.int i,xs[i]]) j kp (Am _) ?_,rfl,⟨_,_,B9 hi,rfl,I.AQ.fresh (Am _),rfl⟩,⟨⟨_,KI⟩,C.at λo q=>(DZ.2 it (BW MC)).trans q⟩,λb f=>?_⟩
  .exact⟨(by show 2<=sizeLine;decide),[.int i s.toks,u],.cons ⟨_,rfl⟩ (.cons D .nil),⟨_,A,rfl,_,rfl⟩,λob q=>by rw[A]at q;cases q;rfl⟩
  .have J:b<s.heap.objs.size:=by
    rcases List.mem_cons.mp f with z|z
    .rw[z];exact B
    .have:b=it:=by simpa using z
     obtain⟨o,q,_⟩:=c;rw[this];exact BD q
   rw[Ah (BP J)];exact(j b f).1
 done:=by
  intro X n hw r y i Zh s Z H E I j st hg;subst n hw r;obtain⟨m,hx⟩:=hg;obtain⟨⟨old,g⟩,c⟩:=st;obtain⟨A5,l,p,F⟩:=I.list m;have M:=l.length;exact wpAny_pyNext_enum_end (I.ok.hd y) g c p.isList (by simp;omega) λh' G=>⟨rfl,I.d9 (t':=s.toks) j λb o f q=>G b o (λz=>f (by simp[z])) q⟩
 self:=λ_ _ _ _ _ st h=>let ⟨⟨_,g⟩,_⟩:=st;ZAb g h
def Vc(K:ZKG)(t:TA):TI:=λZ H R=>t Z H λvs H1=>∃a xs,vs=[.ref a]/\AK K H1 a xs/\R (jE K a xs) H1
theorem ZDy{es:List Expr}{p:Pos}{l:Expr}{t:TA}(hg:Gl X "enumerate")(m:X.mg "enumerate"=none)(d:QA X [l] t)(hs:starEach [l] X.env=[(false,eval l X.env)]:=by rfl):
  QI X (.Tuple es k1 p1) (.Call (.Name "enumerate" p) [l] [] pos) (Vc X.K t):=⟨by
 have d:=d.h;intro Zh s Z H R I h;refine yi (K3 I hg m (show bootBuiltins "enumerate"=some (.type "enumerate") by decide +kernel) ?_ (by decide) (by decide));refine QX (AY (d pos Zh s Z H _ I h) λus s1⟨vs,H1,I1,i,j⟩=>?_) hs rfl;obtain⟨a,xs,rfl,k,q⟩:=j;obtain⟨u,rfl,g⟩:=vals1 i;cases g;obtain⟨A5,r,p,v⟩:=I1.list k;refine call_enumerate_list p.isList λh' e c hsz kp=>?_;refine ZAb e ?_;have o:s1.heap.objs.size+1≠s1.heap.objs.size:=ZJA _;refine⟨s1.heap.objs.size+1,[s1.heap.objs.size+1,s1.heap.objs.size],_,_,H1,rfl,I1.kept (t':=s1.toks) kp,kK a _ _ xs o,⟨⟨_,e⟩,c⟩,λb n=>?_,q⟩;have f:s1.heap.objs.size<=b:=by
  rcases List.mem_cons.mp n with z|z
  .rw[z];exact Ey _
  .have:b=s1.heap.objs.size:=by simpa using z
   rw[this];exact Am _
 exact I1.L1 f (I1.AQ.fresh f)⟩
open AutoSeq1 (wpAny_loadPart')
theorem qT(t:SetTable)(n:Nat):(t.orStandIn n).led=t.led:=by unfold SetTable.orStandIn;split <;> rfl
theorem u9(t:SetTable)(es:Array (Int×Value))(h:Int)(x:Value):(layNew t es h x).2.1.led=t.led:=by
 unfold layNew;split
 .show(SetTable.orStandIn (t.put _).1 _).led=t.led;rw[qT];rfl
 .rfl
theorem ZGU{c b d:Nat}{led a:Bool}{hs:Array Int}{p:SetTable×Array Nat}(h:SetTable.laid c b d led a hs=some p):p.1.led=led/\p.1.plain=a:=by
 unfold SetTable.laid at h;cases e:SetTable.layClean c hs with
 |none=>rw[e]at h;cases h
 |some ow=>rw[e]at h;cases h;exact⟨rfl,rfl⟩
theorem ZHm(t:SetTable)(es:Array (Int×Value))(n:Nat)(hp:t.plain=false):(relayAll t es n).2.1.led=t.led/\(relayAll t es n).2.1.plain=false:=by
 unfold relayAll;split
 .next t' order hr=>
  have q:=ZGU (p:=(t',order)) hr;dsimp only at q ⊢;split
  .exact⟨q.1,q.2.trans hp⟩
  .exact⟨rfl,rfl⟩
 .exact⟨rfl,rfl⟩
def HG(w:World):Bool:=w.params.followText "set-order"
def DH(prog:Program)(w:World)(h:Heap)(a:Addr)(S:Str->Bool)(n:Nat):Prop:=
 ∃o es ep t,h.get? a=some o/\o.ExactSet/\o.data=.set es ep t/\ElemsOf (PySem.strKind prog w) es.toList/\(∀k,S k=true↔∃e∈es.toList,(PySem.strKind prog w).is k e.2=true)/\
  es.size<scanBound/\t.fits es.size=true/\es.size=n/\(t.led=!HG w)/\(0<es.size->t.plain=false)
theorem DH.keep{h:Heap}{S:Str->Bool}(x:DH prog w h a S n)(k:∀o,h.get? a=some o->h'.get? a=some o):DH prog w h' a S n:=by
 obtain⟨o,es,ep,t,ho,r⟩:=x;exact⟨o,es,ep,t,k o ho,r⟩
theorem DH.congr{h:Heap}{S S':Str->Bool}{b:Nat}(x:DH prog w h a S n)(e:∀k,S k=S' k)(m:n=b):DH prog w h a S' b:=by
 obtain⟨o,es,ep,t,h1,h2,l,j,i,g,f,d,c⟩:=x;exact⟨o,es,ep,t,h1,h2,l,j,λk=>by rw[<- e k];exact i k,g,f,d.trans m,c⟩
theorem eQ{h:Heap}(ho:h.get? a=some o)(hd:o.data=.set es ep t)(EE:Array (Int×Value))(t':SetTable):
  (h.update a (Obj.putSet EE t')).get? a=some { o with data:=.set EE (ep+1) t' }:=by
 have q:=G9 (Obj.putSet EE t') ho (by rw[putSet_of EE t' hd];rfl);rw[q,putSet_of EE t' hd]
theorem DH.put{S:Str->Bool}{k:Str}{tk:Tok}{Q:Bool->Shared->Prop}(hS:DH prog w s.heap a S n)(P7:n+1<scanBound)
  (h:∀h',Heap.SameBut a s.heap h'->DH prog w h' a (λk'=>S k' || decide (k'=k)) (if S k then n else n+1)->Q (!S k) { s with heap:=h' }) :
  wpAny (model prog w) A (setAddHashed a (.str k tk) ((PySem.strKind prog w).hash k)) Q E s:=by
 obtain⟨o,es,ep,t,ho,d,hd,Mg,GK,M,y,hn,Rx,Bh⟩:=hS;have F:(PySem.strKind prog w).is k (.str k tk)=true:=ZJN prog w k tk;have D:(Value.str k tk).scannable=true:=rfl;have rm:es.size+1<scanBound:=by rw[hn];exact P7
 have N:∀(b:Bool)(s1:Shared)(Q1:Unit->Shared->Prop),Q1 () s1->wpAny (model prog w) A (match b with|true=>rule "set.scan.the-table-gave-way" |false=>pure ()) Q1 E s1:=by
  intro b s1 Q1 q;cases b
  .exact qL q
  .exact ZB2 q
 unfold setAddHashed setAddHashedIn;refine xf ?_;refine pk (ZAC ho hd y ?_);dsimp only;rw[byScan_of D M Mg];simp only[↓reduceIte];unfold setAddByScan;refine pk ?_;refine pk (ZB2 ?_);refine pk (wpAny_setScan_of F ho hd y Mg ?_);cases K:List.findIdx? (λe=>(PySem.strKind prog w).is k e.2) es.toList with
 |some j=>
  dsimp only;obtain⟨σ,v,_⟩:=List.findIdx?_eq_some_iff_getElem.mp K;have f:S k=true:=(GK k).mpr ⟨es.toList[j],M4 σ,v⟩;refine qL ?_;refine qL ?_;have q:=h s.heap (Heap.SameBut.refl a s.heap) ⟨o,es,ep,t,ho,d,hd,Mg,λk'=>by
   rw[<- GK k',Bool.or_eq_true,decide_eq_true_eq];exact⟨λz=>z.elim id λe=>e▸f,Or.inl⟩,M,y,by rw[tU f];exact hn,Rx,Bh⟩
  rw[f]at q;exact q
 |none=>
  dsimp only;have f:S k=false:=by
   cases e:S k with
   |false=>rfl
   |true=>
    obtain⟨x,hx,hp⟩:=(GK k).mp e;have q:=List.findIdx?_eq_none_iff.mp K x hx;rw[hp]at q;exact Bool.noConfusion q
  have p1:=layNew_perm t es ((PySem.strKind prog w).hash k) (.str k tk);have p:=layNew_fits t es ((PySem.strKind prog w).hash k) (.str k tk);have l1:=u9 t es ((PySem.strKind prog w).hash k) (.str k tk);generalize layNew t es ((PySem.strKind prog w).hash k) (.str k tk)=L at p1 p l1 ⊢;obtain⟨Cz,t1,U,gv⟩:=L;dsimp only at p1 p l1 ⊢;rw[ZId]at p1;have V:ElemsOf (PySem.strKind prog w) Cz.toList:=(Mg.push F D).perm p1;have Y:∀k',(S k' || decide (k'=k))=true↔∃e∈Cz.toList,(PySem.strKind prog w).is k' e.2=true:=mem_push_iff F GK p1;have H:Cz.size=n+1:=by rw[<- HI,p1.length_eq,BE,HI,hn];rfl
  have P:Cz.size<scanBound:=by rw[H];exact P7
  have g:∀(h':Heap)(o':Obj)(EE:Array (Int×Value))(IA:Nat)(t':SetTable),Heap.SameBut a s.heap h'->h'.get? a=some o'->o'.ExactSet->o'.data=.set EE IA t'->EE.toList.Perm Cz.toList->t'.fits EE.size=true->t'.led=t.led->t'.plain=false->
    Q true { s with heap:=h' }:=by
   intro h' o' EE IA t' W go T d' i ff ll X;have G:EE.size=n+1:=by rw[<- H,<- HI,i.length_eq,HI]
   have q:=h h' W ⟨o',EE,IA,t',go,T,d',V.perm i,λk'=>(Y k').trans ⟨λ⟨e,B,q⟩=>⟨e,i.mem_iff.mpr B,q⟩,λ⟨e,B,q⟩=>⟨e,i.mem_iff.mp B,q⟩⟩,by rw[G];exact P7,ff,by rw[f];exact G,ll.trans Rx,λ_=>X⟩;rw[f]at q;exact q
  have c:∀(t2:SetTable),t2.fits Cz.size=true->t2.led=t.led->t2.plain=false->wpAny (model prog w) A (do
    storeSet a Cz t2
    if(
      !U && t2.tooFull)=true then do
      (match(relayAll t2 Cz (SetTable.grown Cz.size)).2.2 with|true=>rule "set.scan.the-table-gave-way" |false=>pure ())
      storeSet a (relayAll t2 Cz (SetTable.grown Cz.size)).1 (relayAll t2 Cz (SetTable.grown Cz.size)).2.1
      pure (some true)
     else pure (some true)) (λr s'=>match r with|some b=>Q b s'|none=>False) E s:=by
   intro t2 f2 l2 J;refine pk (wpAny_storeSet_of ho hd ?_ (ZBU P));have u:=eQ ho hd Cz t2;have O:=NZ s.heap a (Obj.putSet Cz t2);split
   .have l:=relayAll_perm t2 Cz (SetTable.grown Cz.size);have C:=relayAll_fits t2 Cz (SetTable.grown Cz.size);have m:=ZHm t2 Cz (SetTable.grown Cz.size) J;generalize relayAll t2 Cz (SetTable.grown Cz.size)=Rl at l C m ⊢;obtain⟨WO,I,g3⟩:=Rl;dsimp only at l C m ⊢;have R:WO.size=Cz.size:=by rw[<- HI,l.length_eq,HI]
    refine pk (N _ _ _ ?_);refine pk (wpAny_storeSet_of u rfl ?_ (ZBU (by rw[R];exact P)));refine qL ?_;exact g _ _ WO _ I (O.trans (NZ _ a _)) (eQ u rfl WO I) d rfl l C (m.1.trans l2) m.2
   .exact qL (g _ _ Cz _ t2 O u d rfl (UR _) f2 l2 J)
  refine pk (N _ _ _ ?_);split
  .next Qj=>
   refine pk ?_;rw[hashByValue_scannable 8 D];refine qL ?_;refine v9 (c { t1 with plain:=false } (SetTable.fits_plain_off p) l1 rfl) (λr s' q=>?_) λ_ _ e=>e
   cases r with
   |none=>exact q.elim
   |some b=>exact qL q
  .next Qj=>
   refine pk (qL ?_);simp only[↓reduceIte];refine v9 (c t1 p l1 (by simpa using Qj)) (λr s' q=>?_) λ_ _ e=>e
   cases r with
   |none=>exact q.elim
   |some b=>exact qL q
theorem aH{α:Type}:∀(l:List α)(i:Nat)(h:i<l.length),(l[i]::l.eraseIdx i).Perm l
 |_::_,0,_=>UR _
 |x::r,i+1,h=>(List.Perm.swap x (r[i]'(by simpa using h)) (r.eraseIdx i)).trans ((aH r i (by simpa using h)).cons x)
theorem ZC4(nx:Nat->Nat):∀(n k:Nat)(l:List α)(out:Array α),l.length=n->(pickOrder.go nx n k l out).toList.Perm (out.toList++l):=by
 intro n
 induction n with
 |zero=>
  intro k l out b;rw[List.length_eq_zero_iff.mp b];unfold pickOrder.go;simp
 |succ n c=>
  intro k l out b;have a:nx k % l.length<l.length:=Nat.mod_lt _ (by omega);unfold pickOrder.go;rw[B9 a];dsimp only;refine(c _ _ _ (by rw[ZIx a];omega)).trans ?_;rw[ZId,Bj];exact List.Perm.append_left _ (aH l _ a)
theorem Uv(nx:Nat->Nat)(xs:Array α):(pickOrder nx xs).toList.Perm xs.toList:=by
 have q:=ZC4 nx xs.size 0 xs.toList #[] (by simp)
 simpa[pickOrder]using q
theorem ZBw{a:Source}{Q:Nat->Shared->Prop}(hn:n≠0)(h:∀k d,k<n->Q k { s with drawn:=d }):wpAny (model prog w) A (choose a n) Q E s:=by
 intro Γ p hΓ;show Sem.wp _ _ (.choose a n .pure) _ _ _ _;rw[Sem.wp_choose];refine⟨hn,?_⟩;rw[Sem.wp_pure];exact h _ _ (Nat.mod_lt _ (Nat.pos_of_ne_zero hn))
theorem ZDu:∀(n:Nat)(xs:List α)(s:Shared)(Q:List α->Shared->Prop),xs.length<=n->(∀ys d,ys.Perm xs->Q ys { s with drawn:=d })->wpAny (model prog w) A (drawOrder n xs) Q E s:=by
 intro n
 induction n with
 |zero=>
  intro xs s Q a h;rw[List.length_eq_zero_iff.mp (Nat.le_zero.mp a)]at h ⊢;exact qL (h [] s.drawn (UR _))
 |succ n c=>
  intro xs s Q a h;cases xs with
  |nil=>exact qL (h [] s.drawn (UR _))
  |cons x r=>
   unfold drawOrder;refine pk (ZBw (by simp) λk d b=>?_);rw[B9 b];dsimp only;refine pk (c _ _ _ (by rw[ZIx b];simp only[Ba]at a ⊢;omega) λys d' hp=>?_);exact qL (h _ d' ((hp.cons _).trans (aH (x::r) _ b)))
theorem ZH9{Q:Bool->Shared->Prop}(ho:s.heap.get? a=some o)(hd:o.data=.set es ep t)(b:t.fits es.size=true)
  (h:Q (!HG w && (!t.plain && decide (es.size > 1))) s):wpAny (model prog w) A (setDrawn a) Q E s:=by
 unfold setDrawn;refine pk (ZAC ho hd b ?_);dsimp only;unfold setsByText;refine pk (pk (ZAH (qL ?_)));exact qL h
theorem hJ{Q:Option (Value×Nat)->Shared->Prop}(d:HG w=true)(ho:s.heap.get? a=some o)(hd:o.data=.set es ep t)(b:t.fits es.size=true)
  (h:Q (((pickOrder (w.params.setOrder a ep) es)[i]?).map λe=>(e.2,sl)) s):wpAny (model prog w) A (setNext a sl i ep) Q E s:=by
 have c:w.params.followText "set-order"=true:=d;unfold setNext;refine pk (ZAC ho hd b ?_);dsimp only;unfold setsByText;refine pk (pk (ZAH (qL ?_)));show wpAny _ _ (if w.params.followText "set-order"=true then _ else _) _ _ _
 rw[tU c,tJ (by simp)];refine pk ?_;unfold setWalk setsByText;refine pk (ZAC ho hd b ?_);dsimp only;refine pk (pk (ZAH (qL ?_)));show wpAny _ _ (if w.params.followText "set-order"=true then _ else _) _ _ _
 rw[tU c];exact pk (ZAH (qL (qL h)))
theorem o5{Q:Option (Value×Nat)->Shared->Prop}(d:HG w=false)(ho:s.heap.get? a=some o)(hd:o.data=.set es ep t)(c:t.fits es.size=true)
  (h1:es.size<=1) (b:t.led=true)
  (h:Q (match es[SetTable.below t.place sl]?,t.place[SetTable.below t.place sl]? with|some (_,x),some j=>some (x,j+1)|_,_=>none) s):wpAny (model prog w) A (setNext a sl i ep) Q E s:=by
 have e:w.params.followText "set-order"=false:=d;unfold setNext;refine pk (ZAC ho hd c ?_);dsimp only;unfold setsByText;refine pk (pk (ZAH (qL ?_)));show wpAny _ _ (if w.params.followText "set-order"=true then _ else _) _ _ _
 rw[tJ (by rw[e];decide)];show wpAny _ _ (if(!t.plain && decide (es.size > 1))=true then _ else _) _ _ _
 rw[tJ (by rw[uB (by omega)];simp)];refine pk (m:=_) ?_
 wp_delta
 rw[b];exact qL (qL h)
theorem ZEy{Q:Value->Shared->Prop}(ho:s.heap.get? a=some o)(hd:o.data=.set es ep t)(b:t.fits es.size=true)(c:es[pl]?=some e)
  (h:Q e.2 s):wpAny (model prog w) A (setNextDrawn a pl ep) Q E s:=by
 unfold setNextDrawn;refine pk (ZAC ho hd b ?_);dsimp only;rw[tJ (by simp),c];exact qL h
theorem jt:Manifest.owners.lookup (String.ofList ['r','o','t','a','r','e','t','i','_','t','e','s'].reverse)=some Manifest.sig_set_iterator:=by kernel_rfl
theorem HL:Slot "set_iterator" "__next__" "set_iterator.__next__" :=
 .of (owner:="set_iterator") (n:="__next__") (by rw[ZAV,zC];kernel_rfl) (by decide +kernel) (by decide +kernel) (by decide +kernel)
  (by first|exact .inl (by decide +kernel)|exact .inr (by decide +kernel)) (by rw[za];kernel_rfl)
theorem UL:entryFor table "set_iterator.__next__"=some Builtin.«set_iterator.__next__»:=entryFor_of_tree (by kernel_rfl)
theorem Rb(a:Value):argsOk "set_iterator.__next__" ⟨[a],[]⟩:=by
 unfold argsOk;rw[signature?_of (id:="set_iterator.__next__") (n:=['_','_','t','x','e','n','_','_']) (o:=['r','o','t','a','r','e','t','i','_','t','e','s']) (by kernel_rfl) jt];kernel_rfl
theorem jq:Slot "set_iterator" "__iter__" "set_iterator.__iter__" :=
 .of (owner:="set_iterator") (n:="__iter__") (by rw[ZAV,zC];kernel_rfl) (by decide +kernel) (by decide +kernel) (by decide +kernel)
  (by first|exact .inl (by decide +kernel)|exact .inr (by decide +kernel)) (by rw[za];kernel_rfl)
theorem ZFF(a:Value):argsOk "set_iterator.__iter__" ⟨[a],[]⟩:=by
 unfold argsOk;rw[signature?_of (id:="set_iterator.__iter__") (n:=['_','_','r','e','t','i','_','_']) (o:=['r','o','t','a','r','e','t','i','_','t','e','s']) (by kernel_rfl) jt];kernel_rfl
theorem ZCZ:entryFor table "set_iterator.__iter__"=some Builtin.«dict_keyiterator.__iter__»:=
 entryFor_alias (id' := "dict_keyiterator.__iter__") (by kernel_rfl) (by first|rfl|decide +kernel|(unfold String.splitOn;simp +decide [String.splitOnAux])) (by decide +kernel) (by kernel_rfl)
theorem qw:entryFor table "set.__iter__"=some Builtin.«frozenset.__iter__»:=
 entryFor_alias (id' := "frozenset.__iter__") (by kernel_rfl) (by first|rfl|decide +kernel|(unfold String.splitOn;simp +decide [String.splitOnAux])) (by decide +kernel) (by kernel_rfl)
def Je(f:Value)(i:Nat)(S:Addr)(n ep:Nat):Array Value:=#[f,rawInt (i:Int),.ref S,rawInt (n:Int),rawInt (ep:Int)]
def FV(h:Heap)(I:Addr)(f:Value)(i:Nat)(S:Addr)(n ep:Nat):Prop:=∃o,h.get? I=some o/\o.cls=.type "set_iterator" /\ o.data=.fields (Je f i S n ep)
theorem FV.typeIs(x:FV s.heap I f i S n ep):s.TypeIs (.ref I) "set_iterator" := let ⟨o,ho,hc,_⟩:=x;⟨o,ho,hc⟩
theorem FV.at{h:Heap}(x:FV h I f i S n ep)(e:∀o,h.get? I=some o->h'.get? I=some o):FV h' I f i S n ep:=let ⟨o,ho,r⟩:=x;⟨o,e _ ho,r⟩
theorem fL{Q:α->Shared->Prop}{F:Value->Shared->Prop}(hh:A.handled=none)
  (c:∀e h',(∀b o,s.heap.get? b=some o->h'.get? b=some o)->(Shared.TypeIs { s with heap:=h' } e "StopIteration")->F e { s with heap:=h' }) :
  wpAny (model prog w) A (newExc (.type "StopIteration") [] >>= λe=>raiseNew e) Q F s:=by
 refine pk ?_;simp only[newExc,newTuple];refine pk (ue ?_ (by size_fits));refine pk (m:=firstArgMember _ _) (ZAg (a:=Value.none) (by first|rfl|(simp only[firstArgMember];rfl)) ?_)
 refine ue ?_ (by size_fits);simp only[raiseNew];refine pk (wpAny_handled ?_);rw[hh];refine pk (qL (wpAny_throw ?_));exact c _ _ (λb o e=>BF _ (BF _ e)) ⟨_,BZ _ rfl,rfl⟩
theorem iO{nx:Nat}(b:FV s.heap it (rawInt (sl:Int)) i S n ep)
  (ho:s.heap.get? S=some o) (hd:o.data=.set es ep t) (e:t.fits es.size=true) (hn:es.size=n)
  (Ym:∀(A1:Around)(E1:Value->Shared->Prop)(Q1:Option (Value×Nat)->Shared->Prop),Q1 (some (x,nx)) s->wpAny (model prog w) A1 (setNext S sl i ep) Q1 E1 s)
  (g:∀h',FV h' it (rawInt (nx:Int)) (i+1) S n ep->Heap.SameBut it s.heap h'->Q (some x) { s with heap:=h' }):wpAny (model prog w) A (pyNext (.ref it)) Q E s:=by
 obtain⟨h,Fq,f,Ee⟩:=id b;subst hn;unfold pyNext;refine pk (ZB6 (uw (name:=Str.ofString "__next__") b.typeIs HL
  (wR HL b.typeIs UL ?_ (Rb _))))
 unfold Builtin.«set_iterator.__next__»;refine pk (ZAg (a:=(Value.ref it,[])) rfl ?_)
 try dsimp only
 refine pk (ZBK Fq Ee ?_);show wpAny _ _ (setEntries S >>= _) _ _ s;refine pk (ZAG ho hd e ?_);rw[tJ (by simp)];show wpAny _ _ (setNext S sl i ep >>= _) _ _ s;refine pk (Ym _ _ _ ?_);dsimp only;refine pk (ZAA Fq Ee (by simp[Je]) ?_);have d:=G9 (λob=>Obj.mapFields (·.setIfInBounds 0 (rawInt (nx:Int))) ob) Fq (Uc (Jj Ee _))
 have c:=Jj Ee (·.setIfInBounds 0 (rawInt (nx:Int)))
 refine pk (ZAA (s:={ s with heap:=_ }) d c (by simp[Je]) ?_)
 refine qL ⟨x,rfl,qL (g _ ⟨_,G9 _ d (Uc (Jj c _)),?_,?_⟩ ((NZ ..).trans (NZ ..)))⟩
 .exact(bU ..).trans ((bU ..).trans f)
 .rw[Jj c];simp[Je]
theorem cV(hh:A.handled=none)(c:FV s.heap it (rawInt (sl:Int)) i S n ep)
  (ho:s.heap.get? S=some o) (hd:o.data=.set es ep t) (d:t.fits es.size=true) (hn:es.size=n)
  (Ym:∀(A1:Around)(E1:Value->Shared->Prop)(Q1:Option (Value×Nat)->Shared->Prop),Q1 none s->wpAny (model prog w) A1 (setNext S sl i ep) Q1 E1 s)
  (h:∀h',Heap.ExtBut it s.heap h'->Q none { s with heap:=h' }):wpAny (model prog w) A (pyNext (.ref it)) Q E s:=by
 obtain⟨j,Fq,l,Ee⟩:=id c;subst hn;unfold pyNext;refine pk (ZB6 (uw (name:=Str.ofString "__next__") c.typeIs HL
  (wR HL c.typeIs UL ?_ (Rb _))))
 unfold Builtin.«set_iterator.__next__»;refine pk (ZAg (a:=(Value.ref it,[])) rfl ?_)
 try dsimp only
 refine pk (ZBK Fq Ee ?_);show wpAny _ _ (setEntries S >>= _) _ _ s;refine pk (ZAG ho hd d ?_);rw[tJ (by simp)];show wpAny _ _ (setNext S sl i ep >>= _) _ _ s;refine pk (Ym _ _ _ ?_);dsimp only;refine pk (ZAA Fq Ee (by simp[Je]) ?_);refine fL (A:=A.in1) hh λe h' k g=>?_;refine pk (ZA7 (T:="StopIteration") (b:=true) g ZBl ?_);refine qL (h _ (λb ob f e=>?_));exact k b ob ((HJ _ _ (BW f)).trans e)
theorem ZDZ{T:Addr}(b:FV s.heap it (.ref T) i S n ep)
  (ho:s.heap.get? S=some o) (hd:o.data=.set es ep t) (c:t.fits es.size=true) (hn:es.size=n) (g:s.heap.get? T=some oT) (j:oT.data=.seq ps nT) (hp:ps[i]?=some (rawInt (pl:Int))) (d:es[pl]?=some e)
  (h:∀h',FV h' it (.ref T) (i+1) S n ep->Heap.SameBut it s.heap h'->Q (some e.2) { s with heap:=h' }):wpAny (model prog w) A (pyNext (.ref it)) Q E s:=by
 obtain⟨k,Fq,f,Ee⟩:=id b;subst hn;unfold pyNext;refine pk (ZB6 (uw (name:=Str.ofString "__next__") b.typeIs HL
  (wR HL b.typeIs UL ?_ (Rb _))))
 unfold Builtin.«set_iterator.__next__»;refine pk (ZAg (a:=(Value.ref it,[])) rfl ?_)
 try dsimp only
 refine pk (ZBK Fq Ee ?_);show wpAny _ _ (setEntries S >>= _) _ _ s;refine pk (ZAG ho hd c ?_);rw[tJ (by simp)];show wpAny _ _ (seqItems? (.ref T) >>= _) _ _ s;refine pk ?_;unfold seqItems?;refine pk (ZB9 g ?_);rw[j];refine qL ?_;show wpAny _ _ (match ps[i]? with|some (.int place _)=>_|some _=>_|none=>_) _ _ s
 rw[hp];show wpAny _ _ (setNextDrawn S pl ep >>= _) _ _ s;refine pk (ZEy ho hd c d ?_);refine pk (ZAA Fq Ee (by simp[Je]) ?_);refine qL ⟨e.2,rfl,qL (h _ ⟨_,G9 _ Fq (Uc (Jj Ee _)),?_,?_⟩ (NZ ..))⟩
 .exact(bU ..).trans f
 .rw[Jj Ee];simp[Je]
theorem qN{T:Addr}(hh:A.handled=none)(c:FV s.heap it (.ref T) i S n ep)
  (ho:s.heap.get? S=some o) (hd:o.data=.set es ep t) (h:t.fits es.size=true) (hn:es.size=n) (d:s.heap.get? T=some oT) (m:oT.data=.seq ps nT) (hp:ps[i]?=none)
  (j:∀h',Heap.ExtBut it s.heap h'->Q none { s with heap:=h' }):wpAny (model prog w) A (pyNext (.ref it)) Q E s:=by
 obtain⟨p,Fq,q,Ee⟩:=id c;subst hn;unfold pyNext;refine pk (ZB6 (uw (name:=Str.ofString "__next__") c.typeIs HL
  (wR HL c.typeIs UL ?_ (Rb _))))
 unfold Builtin.«set_iterator.__next__»;refine pk (ZAg (a:=(Value.ref it,[])) rfl ?_)
 try dsimp only
 refine pk (ZBK Fq Ee ?_);show wpAny _ _ (setEntries S >>= _) _ _ s;refine pk (ZAG ho hd h ?_);rw[tJ (by simp)];show wpAny _ _ (seqItems? (.ref T) >>= _) _ _ s;refine pk ?_;unfold seqItems?;refine pk (ZB9 d ?_);rw[m];refine qL ?_;show wpAny _ _ (match ps[i]? with|some (.int place _)=>_|some _=>_|none=>_) _ _ s
 rw[hp];dsimp only;refine pk (ZAA Fq Ee (by simp[Je]) ?_);have g:=G9 (λob=>Obj.mapFields (·.setIfInBounds 0 (rawInt 0)) ob) Fq (Uc (Jj Ee _))
 have l:=Jj Ee (·.setIfInBounds 0 (rawInt 0))
 refine pk (ZAA (s:={ s with heap:=_ }) g l (by simp[Je]) ?_)
 refine fL (A:=A.in1) hh λe h' k d=>?_;refine pk (ZA7 (T:="StopIteration") (b:=true) d ZBl ?_);refine qL (j _ (λb ob f e=>?_));exact k b ob ((HJ _ _ (BW f)).trans ((HJ _ _ (BW f)).trans e))
theorem Wh{Q:Value->Shared->Prop}(a:FV s.heap it f i S n ep)(h:Q (.ref it) s):wpAny (model prog w) A (pyIter (.ref it)) Q E s:=by
 refine wpAny_pyIter_slot a.typeIs jq (wR jq a.typeIs ZCZ ?_ (ZFF _));show wpAny _ _ (ret (.ref it)) _ _ s;exact qL ⟨_,rfl, "set_iterator", _,a.typeIs,HL.lookup,h⟩
theorem ZBZ(a:HG w=true)(hh:A.handled=none)(I S:Addr)(Aj:S≠I)(hd:o.data=.set es ep t)(d:t.fits es.size=true):
  Walks prog w A I [I,S] [I] es.size (λi v=>((pickOrder (w.params.setOrder S ep) es).toList.map (·.2))[i]?=some v) (λi h=>FV h I (rawInt ((0:Nat):Int)) i S es.size ep/\h.get? S=some o) where
 sub:=λb a=>by simp at a;simp[a]
 frame:=λ_ _ _ x j=>⟨x.1.at λo e=>j I (by simp) o e,j S (by simp) _ x.2⟩
 item:=λi s Q E hi x c=>by
  have l:(pickOrder (w.params.setOrder S ep) es).size=es.size:=by
   have q:=(Uv (w.params.setOrder S ep) es).length_eq
   simpa using q
  have k:i<(pickOrder (w.params.setOrder S ep) es).size:=by omega
  refine iO (x:=((pickOrder (w.params.setOrder S ep) es)[i]).2) (nx:=0) x.1 x.2 hd d rfl (λA1 E1 Q1 q=>hJ a x.2 hd d (by rw[UQ k];exact q)) λh' Om g=>?_;exact c _ h' s.toks (by rw[B1,QD,UQ k];rfl) ⟨Om,g.extBut S o Aj x.2⟩ λb ob a f=>g.extBut b ob (λh=>a (by simp[h])) f
 done:=λs Q E x c=>by
  have l:(pickOrder (w.params.setOrder S ep) es).size=es.size:=by
   have q:=(Uv (w.params.setOrder S ep) es).length_eq
   simpa using q
  refine cV hh x.1 x.2 hd d rfl (λA1 E1 Q1 q=>hJ a x.2 hd d (by rw[oG (by omega)];exact q)) λh' m=>?_;exact c h' s.toks λb ob a f=>m b ob (λh=>a (by simp[h])) f
 self:=λ_ _ _ _ x c=>Wh x.1 c
theorem Uh:∀(a:Array α),a.size=1->∃x,a=#[x]
 | ⟨[x]⟩,_=>⟨x,rfl⟩
 | ⟨[]⟩,h=>by simp at h
 | ⟨_::_::_⟩,h=>by simp at h
theorem ZHu(p:Nat):SetTable.below #[p] 0=0:=by simp[SetTable.below,SetTable.below.go]
theorem below_1(p:Nat):SetTable.below #[p] (p+1)=1:=by simp[SetTable.below,SetTable.below.go]
theorem i5(h:t.fits n=true):t.place.size=n:=by
 simp only[SetTable.fits,Eb,beq_iff_eq]at h;exact h.1
theorem ZEZ(a:HG w=false)(hh:A.handled=none)(I S:Addr)(Aj:S≠I)(hd:o.data=.set es ep t)(c:t.fits es.size=true)(h1:es.size<=1)(m:t.led=true):
  Walks prog w A I [I,S] [I] es.size (λi v=>(es.toList.map (·.2))[i]?=some v) (λi h=>FV h I (rawInt (((if i=0 then 0 else t.place.getD 0 0+1:Nat)):Int)) i S es.size ep/\h.get? S=some o) where
 sub:=λb a=>by simp at a;simp[a]
 frame:=λ_ _ _ x n=>⟨x.1.at λo e=>n I (by simp) o e,n S (by simp) _ x.2⟩
 item:=λi s Q E hi x d=>by
  obtain rfl:i=0:=by omega
  have z:es.size=1:=by omega
  have f:t.place.size=1:=(i5 c).trans z;obtain⟨e,rfl⟩:=Uh es z;obtain⟨p,hp⟩:=Uh t.place f;have g:=x.1;refine iO (x:=e.2) (nx:=p+1) g x.2 hd c rfl (λA1 E1 Q1 q=>o5 a x.2 hd c h1 m (by rw[hp,tU rfl,ZHu];exact q)) λh' Om l=>?_;refine d _ h' s.toks rfl ⟨?_,l.extBut S o Aj x.2⟩ λb ob a k=>l.extBut b ob (λh=>a (by simp[h])) k;rw[tJ (by omega),hp];exact Om
 done:=λs Q E x d=>by
  refine cV hh x.1 x.2 hd c rfl (λA1 E1 Q1 q=>o5 a x.2 hd c h1 m ?_) λh' u=>?_
  .by_cases z:es.size=0
   .rw[oG (by omega)];exact q
   .have r:es.size=1:=by omega
    have f:t.place.size=1:=(i5 c).trans r;obtain⟨p,hp⟩:=Uh t.place f;rw[tJ z,hp];show Q1 (match es[SetTable.below #[p] (p+1)]?,(#[p]:Array Nat)[SetTable.below #[p] (p+1)]? with|some (_,x),some j=>some (x,j+1)|_,_=>none) s
    rw[below_1,oG (by omega)];exact q
  .exact d h' s.toks λb ob a k=>u b ob (λh=>a (by simp[h])) k
 self:=λ_ _ _ _ x d=>Wh x.1 d
theorem ZBm(hh:A.handled=none)(I S T:Addr)(Aj:S≠I)(f:T≠I)(hd:o.data=.set es ep t)(l:t.fits es.size=true){ps:List Nat}(hp:ps.Perm (List.range es.size))(n:oT.data=.seq (ps.map λi:Nat=>rawInt i).toArray nT):
  Walks prog w A I [I,S,T] [I] es.size (λi v=>(ps.map λp=>(es[p]?.map (·.2)).getD .none)[i]?=some v) (λi h=>FV h I (.ref T) i S es.size ep/\h.get? S=some o/\h.get? T=some oT) where
 sub:=λb a=>by simp at a;simp[a]
 frame:=λ_ _ _ x g=>⟨x.1.at λo e=>g I (by simp) o e,g S (by simp) _ x.2.1,g T (by simp) _ x.2.2⟩
 item:=λi s Q E hi x c=>by
  have u:ps.length=es.size:=by have q:=hp.length_eq;simpa using q
  have k:i<ps.length:=by omega
  have r:ps[i]<es.size:=by
   have q:=hp.mem_iff.mp (M4 k)
   simpa using q
  have m:es[ps[i]]?=some es[ps[i]]:=UQ r;refine ZDZ (pl:=ps[i]) (e:=es[ps[i]]) x.1 x.2.1 hd l rfl x.2.2 n (by rw[ZIs,B1,B9 k];rfl) m λh' Om d=>?_;exact c _ h' s.toks (by rw[B1,B9 k];simp only[Ud,m,ZJC]) ⟨Om,d.extBut S o Aj x.2.1,d.extBut T oT f x.2.2⟩ λb ob a j=>d.extBut b ob (λh=>a (by simp[h])) j
 done:=λs Q E x c=>by
  have u:ps.length=es.size:=by have q:=hp.length_eq;simpa using q
  refine qN hh x.1 x.2.1 hd l rfl x.2.2 n (by rw[ZIs,B1,M0 (by omega)];rfl) λh' y=>?_;exact c h' s.toks λb ob a j=>y b ob (λh=>a (by simp[h])) j
 self:=λ_ _ _ _ x c=>Wh x.1 c
theorem qx(es:Array (Int×Value)):(List.range es.size).map (λp=>(es[p]?.map (·.2)).getD Value.none)=es.toList.map (·.2):=by
 refine oO (by simp) λi h1 h2=>?_;have hi:i<es.size:=by simpa using h1
 simp[UQ hi]
theorem ZHN{l:List (Int×Value)}(h:ElemsOf (PySem.strKind prog w) l):∃ts,StrsAre (l.map (·.2)) ts/\∀k,k∈ts↔∃e∈l,(PySem.strKind prog w).is k e.2=true:=by
 induction l with
 |nil=>exact⟨[],.nil,λk=>by simp⟩
 |cons e r b=>
  obtain⟨ts,h1,h2⟩:=b h.tail;obtain⟨⟨k,a,_⟩,_⟩:=h.head;obtain⟨tk,c⟩:=Value.isStrOf_shape a;refine⟨k::ts,?_,λk'=>?_⟩
  .rw[Bu,c];exact .cons k tk h1
  .rw[EI,h2 k'];constructor
   .rintro(rfl|⟨x,hx,q⟩)
    .exact⟨e,Cp,a⟩
    .exact⟨x,D3 _ hx,q⟩
   .rintro⟨x,hx,q⟩;rcases List.mem_cons.mp hx with rfl|hx
    .exact .inl ((PySem.strKind prog w).inj x.2 k' k q a)
    .exact .inr ⟨x,hx,q⟩
theorem StrsAre.len:∀{vs:List Value}{ss:List Str},StrsAre vs ss->vs.length=ss.length
 |_,_,.nil=>rfl
 |_,_,.cons _ _ h=>by rw[Ba,Ba,StrsAre.len h]
theorem StrsAre.perm{CP:List Value}(h:StrsAre vs ss)(p:CP.Perm vs):∃AH,StrsAre CP AH/\AH.Perm ss:=by
 refine⟨CP.map strOf,strsAre_map CP λv a=>h.all v (p.mem_iff.mp a),?_⟩;rw[<- h.strs];exact p.map strOf
section
theorem ZHe{f:Str->Bool}{Q:Value->Shared->Prop}(H:DH prog w s.heap S f n)
  (h:∀(I:Addr)(h1:Heap)(d:_)(fp:List Addr)(vs:List Value)(ts:List Str)(St:Nat->Heap->Prop),(∀A2:Around,A2.handled=none->Walks prog w A2 I fp [I] n (λi v=>vs[i]?=some v) St)->St 0 h1->(∀b∈fp,b=S∨s.heap.objs.size<=b/\b<h1.objs.size)->s.heap.objs.size<=I->s.heap.objs.size<=h1.objs.size->
   (∀b o,s.heap.get? b=some o->h1.get? b=some o)->StrsAre vs ts->ts.length=n->(∀k,f k=true↔k∈ts)->Q (.ref I) { s with heap:=h1,drawn:=d }):wpAny (model prog w) A (pyIter (.ref S)) Q E s:=by
 obtain⟨o,es,ep,t,ho,r,hd,Mg,GK,G,c,hn,Rx,Bh⟩:=H;subst hn;have y:s.TypeIs (.ref S) "set" := ⟨o,ho,r.1⟩;have u:S<s.heap.objs.size:=BD ho;obtain⟨C,t1,t2⟩:=ZHN Mg;have j:∀(I:Addr)(h1:Heap)(d:_)(fp:List Addr)(vs:List Value)(St:Nat->Heap->Prop),(∀A2:Around,A2.handled=none->Walks prog w A2 I fp [I] es.size (λi v=>vs[i]?=some v) St)->St 0 h1->(∀b∈fp,b=S∨s.heap.objs.size<=b/\b<h1.objs.size)->s.heap.objs.size<=I->s.heap.objs.size<=h1.objs.size->
   (∀b o,s.heap.get? b=some o->h1.get? b=some o)->vs.Perm (es.toList.map (·.2))->Q (.ref I) { s with heap:=h1,drawn:=d }:=by
  intro I h1 d fp vs St a1 a2 N M L K J;obtain⟨ts,D,x⟩:=StrsAre.perm t1 J;refine h I h1 d fp vs ts St a1 a2 N M L K D ?_ λk=>?_
  .rw[x.length_eq,<- StrsAre.len t1];simp
  .rw[GK k,<- t2 k];exact x.mem_iff.symm
 refine wpAny_pyIter_slot y F.slot_set_iter (wR F.slot_set_iter y qw ?_ (F.args_set_iter_1 _));unfold Builtin.«frozenset.__iter__»;refine pk (ZAg (a:=S) rfl ?_);refine pk ?_;unfold Builtin.Frozenset.sizeOf;refine pk (ZAG ho hd c (qL ?_));refine pk (ZH9 ho hd c ?_)
 by_cases m:(!HG w && (!t.plain && decide (es.size > 1)))=true
 .rw[tU m];refine pk ?_;refine ZDu es.size (List.range es.size) _ _ (by rw[M5];exact Am _) λps d hp=>?_;have pz:(ps.map λi:Nat=>rawInt i).length<=sizeLine:=by rw[AS,hp.length_eq,M5];exact ZBU G
  refine pk (wpAny_newTuple ?_ pz);dsimp only;refine pk (wpAny_setEpoch_of (s:={ s with heap:=_,drawn:=d }) (BF _ ho) hd c ?_)
  refine pk (ue ?_);have g:∀(q:Obj)(b:Addr)(ob:Obj),s.heap.get? b=some ob->((s.heap.push (seqObj "tuple" (ps.map λi:Nat=>rawInt i).toArray 0)).push q).get? b=some ob:=λq b ob e=>BF _ (BF _ e);have l:(s.heap.push (seqObj "tuple" (ps.map λi:Nat=>rawInt i).toArray 0)).objs.size=s.heap.objs.size+1:=EH ..;refine qL ⟨_,rfl, "set_iterator", _,⟨_,BZ _ rfl,rfl⟩,HL.lookup,?_⟩;refine j _ _ d [(s.heap.push (seqObj "tuple" (ps.map λi:Nat=>rawInt i).toArray 0)).objs.size,S,s.heap.objs.size] _ _ (λA2 hh=>ZBm hh _ S s.heap.objs.size (by rw[l];exact BP (J6 u)) (by rw[l];exact BP (M7 _)) hd c hp (oT:=seqObj "tuple" (ps.map λi:Nat=>rawInt i).toArray 0) rfl) ⟨⟨_,BZ _ rfl,rfl,rfl⟩,g _ _ _ ho,BF _ (BZ _ rfl)⟩ ?_ (by show s.heap.objs.size<=(s.heap.push (seqObj "tuple" (ps.map λi:Nat=>rawInt i).toArray 0)).objs.size;rw[l];exact Ey _) ?_ (g _) ?_
  .intro b CA;simp only[EI,B2,ZAf]at CA;rw[EH,l];rcases CA with rfl|rfl|rfl
   .right;rw[l];exact⟨Ey _,M7 _⟩
   .left;rfl
   .right;exact⟨Am _,J6 (M7 _)⟩
  .rw[EH,l];exact Ua (Ey _)
  .rw[<- qx];exact hp.map _
 .rw[tJ m];refine pk (qL ?_);refine pk (wpAny_setEpoch_of ho hd c ?_);refine pk (ue ?_);have g:∀(q:Obj)(b:Addr)(ob:Obj),s.heap.get? b=some ob->(s.heap.push q).get? b=some ob:=λq b ob e=>BF _ e;refine qL ⟨_,rfl, "set_iterator", _,⟨_,BZ _ rfl,rfl⟩,HL.lookup,?_⟩;have B:∀(q:Obj),∀b∈[s.heap.objs.size,S],b=S∨s.heap.objs.size<=b/\b<(s.heap.push q).objs.size:=by
   intro q b CA;simp only[EI,B2,ZAf]at CA;rw[EH];rcases CA with rfl|rfl
   .right;omega
   .left;rfl
  cases p:HG w with
  |true=>
   refine j _ _ s.drawn [s.heap.objs.size,S] _ _ (λA2 hh=>ZBZ p hh _ S (BP u) hd c) ⟨⟨_,BZ _ rfl,rfl,rfl⟩,g _ _ _ ho⟩ (B _) (Am _) (by rw[EH];omega) (g _) ?_;exact(Uv _ _).map _
  |false=>
   have h1:es.size<=1:=by
    rw[p]at m
    by_cases z:es.size<=1
    .exact z
    .rw[Bh (by omega),rD (by omega:es.size > 1)]at m;exact absurd rfl m
   refine j _ _ s.drawn [s.heap.objs.size,S] _ _ (λA2 hh=>ZEZ p hh _ S (BP u) hd c h1 (by rw[Rx,p];rfl)) ⟨⟨_,BZ _ rfl,rfl,rfl⟩,g _ _ _ ho⟩ (B _) (Am _) (by rw[EH];omega) (g _) (UR _)
theorem ZDi:typeLookup (.type "set") "__len__"=pure (some (.builtin "set.__len__")):=by rw[ZAV,zC];kernel_rfl
theorem ZAk{f:Str->Bool}{Q:List Value->Shared->Prop}(hh:A.handled=none)(r:DH prog w s.heap S f n)(hn:n<=sizeLine)
  (h:∀(s':Shared)(vs:List Value)(ts:List Str),(∀b o,s.heap.get? b=some o->s'.heap.get? b=some o)->s.heap.objs.size<=s'.heap.objs.size->s'.gens=s.gens->s'.os=s.os->StrsAre vs ts->ts.length=n->(∀k,f k=true↔k∈ts)->Q vs s') :
  wpAny (model prog w) A (collect (.ref S)) Q E s:=by
 have U:S<s.heap.objs.size:=by obtain⟨o,_,_,_,ho,_⟩:=r;exact BD ho
 have v:s.heap.objs.size≠S:=Ks U;unfold collect;refine pk (ZBJ (yQ F.entry_proto_collect ?_));rw[NX F.plain_proto_collect _];show wpAny _ A.in1 (newList [] >>= λl=>again (.builtin "list.__iadd__" ⟨[l,.ref S],[]⟩)) _ _ s;refine pk (ue ?_);refine qL ⟨ZAE b8 _,yQ F.entry_list_iadd ?_⟩;rw[NX b8 _];generalize t:({ cls:=.type "list", data:=.seq ([]:List Value).toArray }:Obj)=so;have B:DH prog w (s.heap.push so) S f n:=r.keep λo e=>BF _ e;have T:(s.heap.push so).get? s.heap.objs.size=some so:=BZ _ (by rw[<- t];rfl);have sz:(s.heap.push so).objs.size=s.heap.objs.size+1:=EH ..;have D:Shared.TypeIs { s with heap:=s.heap.push so } (.ref S) "set" := by obtain⟨o,_,_,_,ho,g,_⟩:=B;exact⟨o,ho,g.1⟩
 have h1:Builtin.List.listSameRef (.ref s.heap.objs.size) (.ref S)=false:=by simp[Builtin.List.listSameRef,v]
 show wpAny _ A.in1 (Builtin.List.listExtendWith (.ref s.heap.objs.size) (.ref S) (.ref s.heap.objs.size)) _ _ { s with heap:=s.heap.push so }
 unfold Builtin.List.listExtendWith;refine pk (zU D ?_);rw[tJ (by rw[h1];decide)];refine pk (ZHe (s:={ s with heap:=s.heap.push so }) B λI h2 d fp vs ts St W JZ NS P ZK0 kp VR tl L=>?_)
 have C:s.heap.objs.size∉fp:=λc=>by
  rcases NS _ c with z|⟨z,_⟩
  .exact v z
  .have K:(s.heap.push so).objs.size<=s.heap.objs.size:=z;rw[sz]at K;omega
 have m:Shared.TypeIs { s with heap:=h2,drawn:=d } (.ref S) "set" := by obtain⟨o,ho,O⟩:=D;exact⟨o,kp _ _ ho,O⟩
 refine pk (xf ?_);unfold Builtin.List.listLengthHint;refine pk (ZAI m ZDi ?_);generalize x:("set.__len__":String)=LB
 wp_delta
 rw[show splitId LB=some ("set","__len__")from by subst x;decide +kernel];subst x;refine pk (ZA7 (b:=true) m (by rw[za];kernel_rfl) ?_);rw[tJ (by decide)];refine ZAU (λ_=>?_) (λDc=>absurd (by decide +kernel) Dc);refine pk (zU m ?_);refine qL ?_;refine ZAU (λ_=>?_) (λDc=>absurd (by decide +kernel) Dc);refine pk (ZB2 ?_);refine pk ?_;show wpAny _ _ (updateSeq s.heap.objs.size (·.push .none) >>= λ_=>updateSeq s.heap.objs.size (·.pop)) _ _ _
 have J:(#[]:Array Value).size<=sizeLine:=CF _;have p:((#[]:Array Value).push Value.none).size<=sizeLine:=by show 1<=sizeLine;decide
 have H:((#[]:Array Value).push Value.none).size<=sizeLine+1:=Ua p;have G:(((#[]:Array Value).push Value.none).pop).size<=sizeLine+1:=CF _;have u:=kp _ _ T;subst t;refine pk (ZA0 (s:={ s with heap:=h2,drawn:=d }) u rfl ?_ J H)
 have q:=G9 (Obj.mapSeq (·.push Value.none)) u rfl
 refine ZA0 q rfl ?_ p G;have M:=G9 (Obj.mapSeq (·.pop)) q rfl
 have y:∀b o,b≠s.heap.objs.size->h2.get? b=some o->((h2.update s.heap.objs.size (Obj.mapSeq (·.push Value.none))).update s.heap.objs.size (Obj.mapSeq (·.pop))).get? b=some o:=
  λb o a e=>(HJ _ _ (BW a)).trans ((HJ _ _ (BW a)).trans e)
 refine qL ⟨ZAE p8 _,ZAj (W A.in1 hh).toS hn _ C _ n 0 _ #[] _ rfl (CF _) ?_ M (bA _) λs' DN V c Cd B6=>?_⟩
 .exact(W A.in1 hh).frame 0 h2 _ JZ λb a o e=>y b o (λz=>C (z▸a)) e
 .show wpAny _ A (load s.heap.objs.size >>= _) _ _ s';refine pk (ZB9 Cd ?_);have R:DN.toList=vs:=by
   have N:vs.length=n:=(StrsAre.len VR).trans tl;refine oP λi=>?_
   by_cases hi:i<n
   .have h1:DN[i]?=some (DN[i]'(by rw[B6.1];exact hi)):=UQ _;rw[QD,h1];exact(B6.2 i _ h1).symm
   .rw[M0 (by rw[HI,B6.1];omega),M0 (by omega)]
  refine qL ?_;rw[<- R]at VR;refine h s' DN.toList ts (λb o e=>?_) (J5 (BD Cd)) c.gens c.os VR tl L;have a:b<s.heap.objs.size:=BD e;refine c.heap b o ?_ (y b o (BP a) (kp b o (BF _ e)));simp only[EI,B2,ZAf,not_or];refine⟨BP a,?_⟩;have j:s.heap.objs.size+1<=I:=by rw[<- sz];exact P
  exact BP (Du a (Nat.le_of_succ_le j))
variable{R:Result->Shared->Prop}{wr:List Addr}{G:Array GenState->Array GenState->Prop}{P:Nat->Value->Prop}{St:Nat->Shared->Prop}
theorem ZES(W:WalksS prog w A.in1 I fp wr G ss.length P St)(S:Addr)(Dr:S∉fp)(Va:∀i v,P i v->∃(h:i<ss.length)(t:Tok),v=.str ss[i] t)(a:ss.length+1<scanBound):
  ∀(k i:Nat)(s:Shared),ss.length - i=k->i<=ss.length->St i s->DH prog w s.heap S (λk'=>(dd (ss.take i)).any (· == k')) (dd (ss.take i)).length->
   (∀s',Moved (S::wr) G s s'->DH prog w s'.heap S (λk'=>(dd ss).any (· == k')) (dd ss).length->R (.ok (.ret .none)) s')->
   codeAny (model prog w) A (.builtin "set.update.loop" ⟨[.ref S,.ref I],[]⟩) R s:=by
 have l:S∉wr:=λh=>Dr (W.sub _ h);have n:∀{s s':Shared}{f:Str->Bool}{m:Nat},Moved wr G s s'->DH prog w s.heap S f m->DH prog w s'.heap S f m:=λc g=>g.keep λo ho=>c.heap S _ l ho;intro k
 induction k with
 |zero=>
  intro i s y hi CV g d;have e:i=ss.length:=by omega
  subst e;refine yQ ZJE ?_;rw[NX ou _];show wpAny _ A.in1 (pyNext (.ref I) >>= _) _ _ s;refine pk (W.done s _ _ CV λs' c=>?_);show wpAny _ A.in1 (ret Value.none) _ _ s';rw[Hv]at g;exact qL (d s' (c.mono λb a=>D3 _ a) (n c g))
 |succ k x=>
  intro i s y hi CV g d;have j:i<ss.length:=by omega
  refine yQ ZJE ?_;rw[NX ou _];show wpAny _ A.in1 (pyNext (.ref I) >>= _) _ _ s;refine pk (W.item i s _ _ j CV λv s' z u c=>?_);obtain⟨_,t,rfl⟩:=Va i v z;have D:=n c g;show wpAny _ A.in1 (holding [Value.str ss[i] t] (setAdd S (.str ss[i] t)) >>= _) _ _ s';refine pk (xf ?_);unfold setAdd;have B:(PySem.strKind prog w).is ss[i] (.str ss[i] t)=true:=ZJN prog w ss[i] t;refine xf (pk ((PySem.strKind prog w).pyHash B ?_));have C:(dd (ss.take i)).length+1<scanBound:=by
   have:=Yw (ss.take i);rw[Bk]at this;omega
  refine DH.put (s:={ s' with toks:=s'.toks+1 }) D C λh' MY Nw=>?_
  have q:DH prog w h' S (λk'=>(dd (ss.take (i+1))).any (· == k')) (dd (ss.take (i+1))).length:=
   Nw.congr (λk'=>by rw[iB ss i j,u4]) (by rw[iB ss i j,bg])
  refine qL ⟨ZAE ou _,x (i+1) _ (by omega) j (W.frame _ s' _ _ u (Ey _) λb a o e=>?_) q λKy r p=>?_⟩
  .rw[MY.2 b (by rintro rfl;exact Dr a)];exact e
  .refine d Ky (Moved.trans W.gtrans ((c.mono λb a=>D3 _ a).then_heap (Ey _) λb o a e=>?_) r) p;rw[MY.2 b (by rintro rfl;exact a Cp)];exact e
theorem ZAQ(a:Value)
  (h:Q₁ (.ref s.heap.objs.size) { s with heap:=s.heap.push { cls:=.type "set", dict:=none,data:=.set #[] 0 (.fresh 0 0 (!HG w)) } }) :
  codeAny (model prog w) A (.call (.builtin "set.__new__") ⟨[.type "set", a],[]⟩) (wants Q₁ E) s:=by
 refine codeAny_of_tree ?_;show wpAny _ A.in1 (do checkBuiltinCall "set.__new__" ⟨[.type "set", a],[]⟩;again (.builtin "set.__new__" ⟨[.type "set", a],[]⟩)) _ _ s
 refine pk (ZAg (PySem.F.newCall_set_1 a) ?_);refine qL ⟨ZAE ZJF _,yQ PySem.F.entry_set_new ?_⟩;rw[NX ZJF _];unfold Builtin.«set.__new__» Builtin.Frozenset.newClass;have b:isSubtype (.type "set") (.type "set")=pure true:=by rw[za];kernel_rfl
 obtain⟨hp,g,d,tk,os⟩:=s;dsimp only
 wp_walk
 refine ZAH (qL ?_);dsimp only;simp only[newObj];refine pk (wpAny_alloc (qL ?_));exact qL h
theorem jd{l:Addr}{T:String}{u:Option Addr}{Hh:Array (Option Value)}{Q:Value->Shared->Prop}(ho:s.heap.get? l=some { cls:=.type T,dict:=u,data:=.seq items nl,slots:=Hh })
  (hs1:isSubtype (.type T) (.type "set")=pure false) (DZ:isSubtype (.type T) (.type "frozenset")=pure false) (Aj:(Value.type T == Value.type "dict")=false) (hb:ss.length+1<scanBound)
  (hit:∀(s1:Shared)(A1:Around)(Q1:Value->Shared->Prop),A1.handled=A.handled->s1.heap.get? l=s.heap.get? l->l<s1.heap.objs.size->
   (∀ob St P,WalksS prog w A1.in1 s1.heap.objs.size [s1.heap.objs.size,l] [s1.heap.objs.size] (λa b=>b=a) ss.length P St->(∀i v,P i v->∃(h:i<ss.length)(t:Tok),v=.str ss[i] t)->St 0 { s1 with heap:=s1.heap.push ob }->Q1 (.ref s1.heap.objs.size) { s1 with heap:=s1.heap.push ob })->
   wpAny (model prog w) A1 (pyIter (.ref l)) Q1 E s1)
  (h:∀(h':Heap)(tk:Nat),DH prog w h' s.heap.objs.size (λk'=>(dd ss).any (· == k')) (dd ss).length->(∀b o,b<s.heap.objs.size->s.heap.get? b=some o->h'.get? b=some o)->Q (.ref s.heap.objs.size) { s with heap:=h',toks:=tk }) :
  wpAny (model prog w) A (call (.type "set") [.ref l]) Q E s:=by
 have y:l<s.heap.objs.size:=BD ho;obtain⟨c,tl,ZJT⟩:=PySem.F.called_set.mro;have L:=PySem.F.called_set.made;have S:=PySem.F.called_set.sub;refine wpAny_call (codeAny_of_tree (by
  show wpAny _ _ (callAny (.type "set") _) _ _ _;refine qL ⟨Code.quiet_builtin _ (by decide +kernel),yQ PySem.F.entry_type_call ?_⟩;rw[Around.under_plain (weight_type_call_type "set" [.ref l] []) rfl];have h1:=PySem.F.called_set.notType;have h2:=PySem.F.called_set.canCreate;have C:=PySem.F.typeCall_set_1 (.ref l)
  repeat (any_goals (first|assumption|wp_step))
  refine ZB1 (ZAQ (.ref l) (E:=E) (Q₁:=λobj q=>obj=.ref s.heap.objs.size/\q={ s with heap:=s.heap.push { cls:=.type "set", dict:=none,data:=.set #[] 0 (.fresh 0 0 (!HG w)) } }) ⟨rfl,rfl⟩) λr q g=>?_
  cases r with
  |error e=>exact g
  |ok H=>
   cases H with
   |ret obj=>
    obtain⟨rfl,rfl⟩:=g;generalize n:({ cls:=.type "set", dict:=none,data:=.set #[] 0 (.fresh 0 0 (!HG w)) }:Obj)=so;have hsz:(s.heap.push so).objs.size=s.heap.objs.size+1:=EH ..;have x:(s.heap.push so).get? s.heap.objs.size=some so:=BZ _ (by rw[<- n];rfl);have G:Shared.TypeIs { s with heap:=s.heap.push so } (.ref s.heap.objs.size) "set" := ⟨_,x,by rw[<- n]⟩
    have O:=PySem.F.called_set.init.lookup;have D:=PySem.F.called_set.init.bind (.ref s.heap.objs.size)
    repeat (any_goals (first|assumption|wp_step))
    refine ZB1 (codeAny_call_builtin (R:=wants (λr p=>r=.none/\∃h' tk,p={ s with heap:=h',toks:=tk }/\DH prog w h' s.heap.objs.size (λk'=>(dd ss).any (· == k')) (dd ss).length/\
      (∀b o,b<s.heap.objs.size->s.heap.get? b=some o->h'.get? b=some o)) E) PySem.F.called_set.init.plain PySem.F.entry_set_init (check_set_init_1 G ?_)) λz p d=>?_
    .have M:(s.heap.push so).get? l=some { cls:=.type T,dict:=u,data:=.seq items nl,slots:=Hh }:=BF _ ho;subst n;unfold Builtin.«set.__init__» noKeywords Builtin.Frozenset.updateFrom;generalize j:pyIter=PI
     wp_walk
     subst j;refine hit { s with heap:=s.heap.push _ } _ _ rfl (M.trans ho.symm) (Nat.lt_of_lt_of_eq (J6 y) hsz.symm) λob St P W Va JZ=>?_
     refine pk (ZBJ ?_);have N:s.heap.objs.size∉[(s.heap.push { cls:=.type "set", dict:=none,data:=.set #[] 0 (.fresh 0 0 (!HG w)) }).objs.size,l]:=by
      rw[hsz];simp only[EI,B2,ZAf,not_or];exact⟨BP (M7 _),Ks y⟩
     refine ZES W s.heap.objs.size N Va hb (ss.length - 0) 0 _ rfl (CF _) JZ ?_ ?_
     .have hg:=BF ob x;exact⟨_,#[],0,_,hg,⟨rfl,rfl,rfl⟩,rfl,λe B=>by simp at B,λk=>by simp[dd],by decide,by rfl,rfl,rfl,λh=>absurd h (by simp)⟩
     .intro s' f Cd;obtain⟨h',g',d',Zs,Nv⟩:=s';have J:g'=s.gens:=f.gens;have K:d'=s.drawn:=f.drawn;have I:Nv=s.os:=f.os;subst J;subst K;subst I;show wpAny _ _ _ _ _ _;refine qL ?_;show wpAny _ _ (ret Value.none) _ _ _;refine qL ⟨rfl,h',Zs,rfl,Cd,λb o CA e=>?_⟩;refine f.heap b o ?_ (BF _ (BF _ e));rw[hsz];simp only[EI,B2,ZAf,not_or];exact⟨BP CA,BP (J6 CA)⟩
    .cases z with
     |error e=>exact d
     |ok m=>
      cases m with
      |ret r=>
       obtain⟨rfl,h',tk,rfl,Cd,PL⟩:=d
       repeat (any_goals (first|assumption|wp_step))
       exact h _ _ Cd PL
      |_=>exact d.elim
   |_=>exact g.elim))
end
def Mn(P:Program)(w:World)(a:Addr)(f:Str->Bool)(n:Nat):HO:=.ext λh=>DH P w h a f n
theorem fc(y:X.calm=true):D1 X (.type "set") (λxs H Q=>∃(p:Addr)(tp:Bool)(ss:List Str),xs=[.ref p]/\C4 X.K tp H p (ss.map V.str)/\ss.length<4000/\
  ∀l,H l=none->Q (.ref l) (upd H l (Mn X.prog X.w l (λk'=>(dd ss).any (· == k')) (dd ss).length))):=by
 intro Zh s Z H xs us Q I r h;obtain⟨p,tp,ss,rfl,x,G,q⟩:=h;obtain⟨u,rfl,D⟩:=vals1 r;cases D;have z:ss.length+1<scanBound:=by unfold scanBound;omega
 have g:∀(h':Heap)(tk:Nat),DH X.prog X.w h' s.heap.objs.size (λk'=>(dd ss).any (· == k')) (dd ss).length->(∀b o,b<s.heap.objs.size->s.heap.get? b=some o->h'.get? b=some o)->
   EP X Zh Z Q (.ref s.heap.objs.size) { s with heap:=h',toks:=tk }:=λh' tk B kp=>by
  refine⟨.ref s.heap.objs.size,_,I.laid (t':=tk) (λb o e=>kp b o (BD e) e) (Am _) (show CC X.prog X.w _ h' _ (Mn X.prog X.w s.heap.objs.size _ _)from⟨B,?_,λh1 h2 EZ C=>?_⟩),rfl,q _ (I.AQ.fresh (Am _))⟩
  .obtain⟨o,_,_,_,ho,_⟩:=B;exact⟨o,ho⟩
  .exact EZ.keep C
 cases tp with
 |false=>
  obtain⟨A5,a,pl,Of⟩:=I.list x;have f:=a.length;rw[AS]at f;obtain⟨⟨c,d,E,sl⟩,n,ho,Ep,hd,GU⟩:=id pl;simp only at Ep hd GU;subst Ep;subst hd;subst GU;refine jd ho PySem.F.sub_list_set PySem.F.sub_list_frozenset (by decide) z (λs1 A1 Q1 m j l1 ZF=>?_) g;have k:s1.heap.IsList p A5.toArray:=⟨_,j.trans ho,rfl,n,rfl⟩;have t:A5.toArray.size=ss.length:=List.size_toArray.trans f.symm;refine ZBO k (ZF _ (λi s=>s.heap.IsListIter s1.heap.objs.size p i/\s.heap.IsList p A5.toArray) (λi v=>A5.toArray[i]?=some v) (by
   have W:=(Walks.list (prog:=X.prog) (w:=X.w) (A:=A1.in1) (by rw[oF,m];exact I.ok.hd y) s1.heap.objs.size p (BP l1) A5.toArray).toS;rw[t]at W;exact W) (λi v e=>RQ a (by simpa using e)) ⟨⟨_,BZ _ rfl,rfl,rfl⟩,k.push _⟩)
 |true=>
  obtain⟨A5,a,pl,Of⟩:=I.tuple x;have f:=a.length;rw[AS]at f;obtain⟨⟨c,d,E,sl⟩,ho,Ep,n,GU⟩:=id pl;simp only at Ep GU;subst Ep;subst GU;refine jd ho sub_tuple_set sub_tuple_frozenset (by decide) z (λs1 A1 Q1 m j l1 ZF=>?_) g;have k:s1.heap.IsTuple p A5.toArray:=⟨_,j.trans ho,rfl,n,rfl⟩;have t:A5.toArray.size=ss.length:=List.size_toArray.trans f.symm;refine ZAn k (ZF _ (λi s=>s.heap.IsTupleIter s1.heap.objs.size p i/\s.heap.IsTuple p A5.toArray) (λi v=>A5.toArray[i]?=some v) (by
   have W:=(Walks.tuple (prog:=X.prog) (w:=X.w) (A:=A1.in1) (by rw[oF,m];exact I.ok.hd y) s1.heap.objs.size p (BP l1) A5.toArray).toS;rw[t]at W;exact W) (λi v e=>RQ a (by simpa using e)) ⟨⟨_,BZ _ rfl,rfl,rfl⟩,?_⟩)
  exact⟨_,BF _ (j.trans ho),rfl,n,rfl⟩
theorem Inv.drew(I:Inv X Zh Z H s)(d:Drawn):Inv X Zh Z H { s with drawn:=d }:=
 I.step (h':=s.heap) (g':=s.gens) (t':=s.toks) (d':=d) (ch:=[]) (λ_ z=>nomatch z) (λb o _ _ _ e _=>e) (λb o _ _ _ e _=>⟨o.slots,e⟩) (λ_ _ _ _ n=>n) (λb o _ e=>⟨o,e⟩) (λ_ _ e=>e) (λ_ _ _ e=>e) (λb ps e=>⟨#[],by rw[e];simp⟩) (λm a=>a) I.AQ I.bare
theorem ZHA{l:Addr}{Q:List Value->Shared->Prop}(a:IsTup s.heap l vs.toArray)(h:Q vs { s with heap:=(s.heap.push (seqObj "list" #[] 0)).update s.heap.objs.size (Obj.mapSeq (·++vs.toArray)) })(hsz:vs.length<=sizeLine):
  wpAny (model prog w) A (collect (.ref l)) Q E s:=by
 obtain⟨o,ho,b,n,hd⟩:=id a;unfold collect;refine pk (ZBJ (yQ entry_proto_collect' ?_));show wpAny _ _ (newList [] >>= λx=>again (.builtin "list.__iadd__" ⟨[x,.ref l],[]⟩)) _ _ s;refine pk (wpAny_newList ?_);refine qL ⟨Code.quiet_builtin _ (by decide +kernel),yQ entry_list_iadd' ?_⟩;show wpAny _ _ (Builtin.List.listExtendWith (.ref s.heap.objs.size) (.ref l) (.ref s.heap.objs.size)) _ _ { s with heap:=s.heap.push (seqObj "list" #[] 0) }
 unfold Builtin.List.listExtendWith;have g:(s.heap.push (seqObj "list" #[] 0)).get? l=some o:=BF _ ho;refine pk (zU (T:="tuple") ⟨o,g,b⟩ ?_);rw[tU (by simp)];refine pk (listItems_at g hd ?_);refine pk (listItems_at (xs:=#[]) (n:=0) (BZ _ rfl) rfl ?_);rw[tJ (by simp)];refine pk (listUpdate_at (xs:=#[]) (n:=0) (BZ _ rfl) rfl ?_ (CF _) (by show(#[]++vs.toArray).size<=sizeLine+1;simp only[Array.size_append,C1,UW];omega));refine qL ?_;show wpAny (model prog w) A (load s.heap.objs.size >>= λo=>(match o.data with | .seq xs _=>pure xs.toList|_=>unsupported "internal:collect")) Q E _
 refine pk (ZB9 (get?_update_seq (BZ _ rfl) _) ?_);show wpAny _ _ (pure ((#[]:Array Value)++vs.toArray).toList) Q E _;have e:((#[]:Array Value)++vs.toArray).toList=vs:=by simp
 rw[e];exact qL h
theorem Uk{Pc:List Value->Shared->Prop}{Q:Value->Shared->Prop}
  (g:∀(A1:Around)(E1:Value->Shared->Prop)(Q1:List Value->Shared->Prop),A1.handled=A.handled->(∀vs s1,Pc vs s1->Q1 vs s1)->wpAny (model prog w) A1 (collect v) Q1 E1 s)
  (h:∀vs s1,Pc vs s1->vs.length<64/\∃ss,StrsAre vs ss/\∀out AH e h',(∀b o,s1.heap.get? b=some o->h'.get? b=some o)->h'.get? s1.heap.objs.size=some (seqObj "list" out e)->StrsAre out.toList AH->AH.Perm ss->sortedS AH=true->Q (.ref s1.heap.objs.size) { s1 with heap:=h' }) :
  wpAny (model prog w) A (call (.builtin "sorted") [v]) Q E s:=by
 refine Calls.call_function_entry kind_sorted plain_sorted entry_sorted (args_sorted1 _) ?_;unfold Builtin.«sorted»;refine pk (m:=checkCount "sorted" 1 1 _) (qL ?_);refine pk (g _ _ _ rfl λvs s1 hp=>?_);obtain⟨C8,ss,JR,k⟩:=h vs s1 hp;refine pk (wpAny_newList ?_);have a:(s1.heap.push (seqObj "list" vs.toArray 0)).get? s1.heap.objs.size=some (seqObj "list" vs.toArray 0):=BZ _ rfl;refine pk (xf (wR slot_list_sort ⟨_,a,rfl⟩ entry_list_sort (list_sort_treeK (s:={ s1 with heap:=s1.heap.push (seqObj "list" vs.toArray 0) }) strKind_oneLt a JR.keysOf (λp n rest e=>keyKind_strs (by rw[<- e];exact JR)) C8 λDI a1 a2=>⟨_,rfl,?_⟩) (args_list_sort _)))
 obtain⟨AH,l,j,i⟩:=sorted_out_str JR a1 a2;obtain⟨e,f⟩:=sortedHeap_at (out:=(arrOf DI).map (·.2)) a
 refine qL ⟨_,rfl,k _ AH e _ (λb o c=>?_) f l j i⟩;have d:=BD c;rw[sortedHeap_old (BP d) (by rw[EH];exact J6 d)];exact BF _ c
theorem nM:∀{ss:List Str}{us:List Value},Vals (ss.map V.str) us->StrsAre us ss
 | [],_,.nil=>.nil
 |x::r,_,.cons ⟨t,e⟩ h=>by rw[e];exact .cons x t (nM h)
theorem mi:∀{ss:List Str}{us:List Value},StrsAre us ss->Vals (ss.map V.str) us
 |_,_,.nil=>.nil
 |_,_,.cons x t h=>.cons ⟨t,rfl⟩ (mi h)
theorem Zg{s1:Shared}{Q:VK}(I:Inv X Zh Z H s)(hg:s1.gens=s.gens)(ho:s1.os=s.os)(c:∀b o,s.heap.get? b=some o->s1.heap.get? b=some o)(hs:s.heap.objs.size<=s1.heap.objs.size)
  {out:Array Value}{e:Nat}(kp:∀b o,s1.heap.get? b=some o->h'.get? b=some o) (d:h'.get? s1.heap.objs.size=some (seqObj "list" out e)) (f:StrsAre out.toList AH) (C8:AH.length<64)
  (q:∀l,H l=none->Q (.ref l) (upd H l (.lst (AH.map V.str)))):EP X Zh Z Q (.ref s1.heap.objs.size) { s1 with heap:=h' }:=by
 obtain⟨h1,g1,g,t1,h⟩:=s1;simp only at hg ho c hs kp d;subst hg;subst ho;refine⟨.ref _,_,(I.drew g).laid (a:=h1.objs.size) (h':=h') (t':=t1) (o:=.lst (AH.map V.str)) (λb o q=>kp b o (c b o q)) hs ?_,rfl,q _ (I.AQ.fresh hs)⟩;refine⟨?_,out.toList,e,mi f,by simpa[seqObj]using d⟩
 rw[AS];exact C7 (J5 C8) (by decide +kernel)
def ir(K:ZKG):List V->Hp->VK->Prop:=λxs H Q=>∃(p:Addr)(tp:Bool)(ss:List Str),xs=[.ref p]/\C4 K tp H p (ss.map V.str)/\ss.length<64/\∀l AH,H l=none->AH.Perm ss->sortedS AH=true->Q (.ref l) (upd H l (.lst (AH.map V.str)))
theorem ID:D1 X (.builtin "sorted") (ir X.K):=by
 intro Zh s Z H xs us Q I r h;obtain⟨p,tp,ss,rfl,f,C8,q⟩:=h;obtain⟨u,rfl,j⟩:=vals1 r;cases j;have d:∀A5:List Value,Vals (ss.map V.str) A5->(∀(A1:Around)(E1:Value->Shared->Prop)(Q1:List Value->Shared->Prop),Q1 A5 { s with heap:=(s.heap.push (seqObj "list" #[] 0)).update s.heap.objs.size (Obj.mapSeq (·++A5.toArray)) }->wpAny (model X.prog X.w) A1 (collect (.ref p)) Q1 E1 s)->
   wpAny (model X.prog X.w) X.A (call (.builtin "sorted") [.ref p]) (EP X Zh Z Q) X.xe s:=by
  intro A5 c i;have a:=c.length;rw[AS]at a;refine Uk (Pc:=λvs s1=>vs=A5/\s1={ s with heap:=(s.heap.push (seqObj "list" #[] 0)).update s.heap.objs.size (Obj.mapSeq (·++A5.toArray)) }) (λA1 E1 Q1 _ k=>i A1 E1 Q1 (k _ _ ⟨rfl,rfl⟩)) ?_
  rintro vs s1⟨rfl,rfl⟩;refine⟨by omega,ss,nM c,λout AH e h' kp t v hp hs=>?_⟩;refine Zg (s1:={ s with heap:=(s.heap.push (seqObj "list" #[] 0)).update s.heap.objs.size (Obj.mapSeq (·++vs.toArray)) }) I rfl rfl (λb o g=>?_) (by show s.heap.objs.size<=((s.heap.push (seqObj "list" #[] 0)).update s.heap.objs.size (Obj.mapSeq (·++vs.toArray))).objs.size;rw[Heap.size_update,EH];exact Ey _) kp t v (by rw[hp.length_eq];exact C8) λl n=>q l AH n hp hs
  show((s.heap.push _).update _ _).get? b=some o;rw[Heap.get?_update_ne _ _ _ _ (BP (BD g))];exact BF _ g
 cases tp with
 |false=>
  obtain⟨A5,c,pl,m⟩:=I.list f;have a:=c.length;exact d A5 c λA1 E1 Q1 k=>collect_list pl.isList k (by omega)
 |true=>
  obtain⟨A5,c,pl,m⟩:=I.tuple f;have a:=c.length;exact d A5 c λA1 E1 Q1 k=>ZHA pl k (by omega)
def gJ(P:Program)(w:World):List V->Hp->VK->Prop:=λxs H Q=>∃(p:Addr)(f:Str->Bool)(n:Nat),xs=[.ref p]/\H p=some (Mn P w p f n)/\n<64/\∀l ts,H l=none->ts.length=n->(∀k,f k=true↔k∈ts)->sortedS ts=true->Q (.ref l) (upd H l (.lst (ts.map V.str)))
theorem mD(v:X.calm=true):D1 X (.builtin "sorted") (gJ X.prog X.w):=by
 intro Zh s Z H xs us Q I r h;obtain⟨p,f,n,rfl,y,C8,q⟩:=h;obtain⟨u,rfl,j⟩:=vals1 r;cases j;have x:DH X.prog X.w s.heap p f n:=(I.AQ p _ y).1;have hh:X.A.handled=none:=I.ok.hd v;refine Uk (Pc:=λvs s1=>∃ts,(∀b o,s.heap.get? b=some o->s1.heap.get? b=some o)/\s.heap.objs.size<=s1.heap.objs.size/\s1.gens=s.gens/\s1.os=s.os/\StrsAre vs ts/\ts.length=n/\(∀k,f k=true↔k∈ts)) (λA1 E1 Q1 z k=>?_) ?_
 .exact ZAk (z.trans hh) x (C7 (J5 C8) (by decide +kernel)) λs' vs ts a1 a2 i g c a d=>k vs s' ⟨ts,a1,a2,i,g,c,a,d⟩
 .rintro vs s1⟨ts,a1,a2,i,g,c,a,d⟩;refine⟨by rw[StrsAre.len c,a];exact C8,ts,c,λout AH e h' kp t Cd hp hs=>?_⟩;exact Zg I i g a1 a2 kp t Cd (by rw[hp.length_eq,a];exact C8) λl m=>q l AH m (hp.length_eq.trans a) (λk=>(d k).trans hp.mem_iff.symm) hs
theorem lG:∀{ss:List Int}{us:List Value},Vals (ss.map V.int) us->IntsAre us ss
 | [],_,.nil=>.nil
 |x::r,_,.cons ⟨t,e⟩ h=>by rw[e];exact .cons x t (lG h)
end L2
namespace HT
open AutoSeq1 (wpAny_loadPart')
variable{prog:Program}{w:World}{A:Around}{E Q:Value->Shared->Prop}{it tu:Addr}{i:Nat}{old v:Value}
theorem sU(tu:Addr)(vals:Array Value)(k:Nat)(b:Option Addr)(Xv:Array (Option Value)):
  Meets (Builtin.«enumerate.__new__» ⟨[.type "enumerate",.ref tu],[]⟩) (λ_ R s=>s.heap.get? tu=some { cls:=.type "tuple", dict:=b,data:=.seq vals k,slots:=Xv }/\R (.ok (.ret (.ref (s.heap.push { cls:=.type "tuple_iterator", data:=.fields #[.ref tu,.int 0 0] }).objs.size)))
    { s with heap:=(s.heap.push { cls:=.type "tuple_iterator", data:=.fields #[.ref tu,.int 0 0] }).push { cls:=.type "enumerate", data:=.fields #[.none,.bool false,.ref s.heap.objs.size,rawInt 0,.none,.none] } }):=.of_wp λprog w A R s h=>by
 obtain⟨hp,g,d,tk,os⟩:=s;obtain⟨ho,h⟩:=h;have e:=sub_enumerate;have a:Heap.IsTuple (Shared.heap ⟨hp,g,d,tk,os⟩) tu vals:=⟨_,ho,rfl,k,rfl⟩
 wp_walk using wpAny_loadPart' ho
 refine wpAny_stack_any λf=>qL ?_;split
 .rename_i c _ _ _ _ _;cases(c == Value.type "enumerate") <;> (wp_walk using wpAny_loadPart' ho,ZAn a;exact⟨_,rfl,h⟩)
 .wp_walk using wpAny_loadPart' ho,ZAn a
  exact⟨_,rfl,h⟩
section
variable{s:Shared}
theorem uM{vals:Array Value}(e:s.heap.IsTuple tu vals)
  (q:∀h',IsEnum h' (s.heap.objs.size+1) s.heap.objs.size 0 .none->h'.IsTupleIter s.heap.objs.size tu 0->h'.objs.size=s.heap.objs.size+2->(∀b o,s.heap.get? b=some o->h'.get? b=some o)->Q (.ref (s.heap.objs.size+1)) { s with heap:=h' }) :
  wpAny (model prog w) A (call (.type "enumerate") [.ref tu]) Q E s:=by
 obtain⟨⟨c,g,f,Xv⟩,ho,a,k,hd⟩:=e;replace a:c=.type "tuple" := a;replace hd:f=.seq vals k:=hd;subst a hd;refine callType_new F.called_enumerate (by decide) (F.typeCall_enumerate_1 _) (F.newCall_enumerate_1 _) (λob=>F.args_object_init_2 ob _) F.entry_enumerate_new (sU tu vals k g Xv) ⟨ho,?_⟩;have z:(s.heap.push { cls:=.type "tuple_iterator", data:=.fields #[.ref tu,.int 0 0] }).objs.size=s.heap.objs.size+1:=EH ..;show _/\_;rw[z];have d:IsEnum ((s.heap.push { cls:=.type "tuple_iterator", data:=.fields #[.ref tu,.int 0 0] }).push { cls:=.type "enumerate", data:=.fields #[.none,.bool false,.ref s.heap.objs.size,rawInt 0,.none,.none] }) (s.heap.objs.size+1) s.heap.objs.size 0 .none:=by
  have y:=BZ (s.heap.push { cls:=.type "tuple_iterator", data:=.fields #[.ref tu,.int 0 0] }) (o:={ cls:=.type "enumerate", data:=.fields #[.none,.bool false,.ref s.heap.objs.size,rawInt 0,.none,.none] }) rfl;rw[z]at y;exact y
 exact⟨⟨_,d,rfl⟩,q _ d ⟨_,BF _ (BZ _ rfl),rfl,rfl⟩ (by rw[EH,z]) λb o y=>BF _ (BF _ y)⟩
theorem ZEg{vals:Array Value}(hi:s.heap.IsTupleIter it tu i)(c:s.heap.IsTuple tu vals)(b:vals[i]?=some v)
  (q:∀h',h'.IsTupleIter it tu (i+1)->Heap.SameBut it s.heap h'->Q v { s with heap:=h' }):wpAny (model prog w) A (Builtin.SmallTypes.nextOf (.ref it)) Q E s:=by
 obtain⟨o,ho,d,hd⟩:=id hi;obtain⟨e,GG,_,k,a⟩:=c;unfold Builtin.SmallTypes.nextOf;refine pk (uw (name:=Str.ofString "__next__") hi.typeIs b9 (wR b9 hi.typeIs ZIg ?_ (ZIf _)));show wpAny _ _ (field (.ref it) 0 >>= _) _ _ s;refine pk (ZAh ho hd (x:=.ref tu) rfl ?_);show wpAny _ _ (if(Value.ref tu == Value.none)=true then _ else _) _ _ s;rw[tJ (show ¬ ((Value.ref tu == Value.none)=true)from De)]
 show wpAny _ _ (field (.ref it) 1 >>= _) _ _ s;refine pk (ZAh ho hd (x:=.int i 0) rfl ?_);show wpAny _ _ (seqItems? (.ref tu) >>= _) _ _ s;refine pk (ZBB GG a ?_);simp only[Hr,b];refine pk (ZAA ho hd (by simp) (qL ⟨v,rfl,qL (q _ ?_ (NZ ..))⟩));exact⟨_,G9 _ ho (Uc (Jj hd _)),(bU ..).trans d,by rw[Jj hd];simp[rawInt]⟩
theorem iY{vals:Array Value}(hh:A.handled=none)(hi:s.heap.IsTupleIter it tu i)(d:s.heap.IsTuple tu vals)(c:vals[i]?=none)
  (q:∀h' e,Heap.ExtBut it s.heap h'->(∃o,h'.get? e=some o/\o.cls=.type "StopIteration")->E (.ref e) { s with heap:=h' }):wpAny (model prog w) A (Builtin.SmallTypes.nextOf (.ref it)) Q E s:=by
 obtain⟨o,ho,g,hd⟩:=id hi;obtain⟨f,GG,_,k,b⟩:=d;unfold Builtin.SmallTypes.nextOf;refine pk (uw (name:=Str.ofString "__next__") hi.typeIs b9 (wR b9 hi.typeIs ZIg ?_ (ZIf _)));show wpAny _ _ (field (.ref it) 0 >>= _) _ _ s;refine pk (ZAh ho hd (x:=.ref tu) rfl ?_);show wpAny _ _ (if(Value.ref tu == Value.none)=true then _ else _) _ _ s;rw[tJ (show ¬ ((Value.ref tu == Value.none)=true)from De)]
 show wpAny _ _ (field (.ref it) 1 >>= _) _ _ s;refine pk (ZAh ho hd (x:=.int i 0) rfl ?_);show wpAny _ _ (seqItems? (.ref tu) >>= _) _ _ s;refine pk (ZBB GG b ?_);simp only[Hr,c];refine pk (ZB2 (pk (ZAA ho hd (by simp) ?_)));show wpAny _ _ (newExc (.type "StopIteration") [] >>= _) _ _ _;refine pk ?_;simp only[newExc,newTuple];refine pk (ue ?_ (by size_fits));refine pk (m:=firstArgMember _ _) (ZAg (a:=Value.none) (by first|rfl|(simp only[firstArgMember];rfl)) ?_);refine ue ?_ (by size_fits)
 simp only[raiseNew];refine pk (wpAny_handled ?_);first|rw[show A.in1.handled=none from hh]|rw[hh]
 refine pk (qL (wpAny_throw ?_));exact q _ _ (((NZ ..).extBut.push _).push _) ⟨_,BZ _ rfl,rfl⟩
theorem ZD2{e:Addr}{vals:Array Value}{j:Int}{Q:Option Value->Shared->Prop}(hh:A.handled=none)(a:IsEnum s.heap e it j old)(hi:s.heap.IsTupleIter it tu i)(d:s.heap.IsTuple tu vals)(c:vals[i]?=none)
  (q:∀h',Heap.ExtBut it s.heap h'->Q none { s with heap:=h' }):wpAny (model prog w) A (pyNext (.ref e)) Q E s:=by
 have ty:s.TypeIs (.ref e) "enumerate" := ⟨_,a,rfl⟩;unfold pyNext;refine pk (ZB6 (uw (name:=Str.ofString "__next__") ty F.slot_enumerate_next (wR F.slot_enumerate_next ty F.entry_enumerate_next ?_ (F.args_enumerate_next_1 _))));show wpAny _ _ (field (.ref e) 2 >>= _) _ _ _;refine pk (ZAh a rfl (x:=.ref it) rfl ?_);refine pk (iY (show A.in1.handled=none from hh) hi d c λh' x g hx=>?_)
 obtain⟨o,ho,f⟩:=hx;exact pk (ZA7 (T:="StopIteration") (b:=true) ⟨o,ho,f⟩ ZBl (qL (q _ g)))
end
theorem ZA9(hh:A.handled=none)(it tu:Addr)(Aj:tu≠it)(vals:Array Value):
  Draws prog w A it [it,tu] vals.size (λi v=>vals[i]?=some v) (λi h=>h.IsTupleIter it tu i/\h.IsTuple tu vals) where
 live:=λ_ _ st=>by obtain⟨o,ho,_⟩:=st.1;exact⟨o,ho⟩
 frame:=λ_ _ _ st d=>by
  obtain⟨⟨o,ho,r⟩,c,GG,e⟩:=st;exact⟨⟨o,d it (by simp) o ho,r⟩,c,d tu (by simp) c GG,e⟩
 item:=λi s Q E hi st f=>ZEg st.1 st.2 (v:=vals[i]) (by simp[hi]) λh' a b=>f _ h' s.toks (by simp[hi]) ⟨a,st.2.extBut b.extBut Aj⟩ b
 done:=λs Q E st g=>iY hh st.1 st.2 (by simp) g
end HT
namespace L2
variable{es:List Expr}{k1:Nat}
section
variable{X:Cx}
def lV(K:ZKG)(tp:Bool)(a:Addr)(xs:List V):It:=
 ⟨λi H=>C4 K tp H a xs/\i<xs.length,λi H x H'=>∃p y,xs[i]?=some y/\x=.ref p/\H p=none/\H'=upd H p (.tup [.int i,y]),λi H=>C4 K tp H a xs/\xs.length<=i⟩
theorem zH{P:Program}{w:World}{K:ZKG}{p1:Pos}(a e it:Addr)(xs:List V)(MC:e≠it):
  Turn P w K (.Tuple es k1 p1) (lV K true a xs) [e,it] e (λi h=>(∃old,IsEnum h e it i old)/\h.IsTupleIter it a i) where
 mem:=by simp
 obj:=λi h st b f=>by
  obtain⟨⟨old,h1⟩,o,h2,_,d⟩:=st;rcases List.mem_cons.mp f with z|z
  .subst z;exact⟨_,h1,λv z=>by cases z⟩
  .have y:b=it:=by simpa using z
   subst y;exact⟨o,h2,λv z=>by rw[d]at z;cases z⟩
 keep:=λi h h' st k=>⟨let ⟨old,h1⟩:=st.1;⟨old,k e (by simp) _ h1⟩,let ⟨o,h2,r⟩:=st.2;⟨o,k it (by simp) o h2,r⟩⟩
 item:=by
  intro X F hw G D i Zh s Z H E I x st hg;subst F hw G;obtain⟨C,hi⟩:=hg;obtain⟨⟨old,g⟩,c⟩:=st;obtain⟨A5,m,j,S⟩:=I.tuple C;obtain⟨u,hu,N⟩:=m.get (B9 hi);have σ:A5.toArray[i]?=some u:=by simpa using hu
  have T:a<s.heap.objs.size:=j.lt;have U:a≠it:=by
   rintro rfl;obtain⟨o,t,Q,_⟩:=c;obtain⟨R,l,p,_⟩:=j;rw[t]at l;cases l;rw[Q]at p;exact absurd p (by decide)
  have O:e≠a:=by
   rintro rfl;obtain⟨R,l,p,_⟩:=j;have t:=g;unfold IsEnum at t;rw[t]at l;cases l;exact absurd (show Value.type "enumerate"=Value.type "tuple" from p) (by decide)
  have L:e<s.heap.objs.size:=BD g;refine wpAny_pyNext_enum_itemD (n:=A5.toArray.size) (HT.ZA9 (show X.A.in1.handled=none from I.ok.hd D) it a U A5.toArray) g ⟨c,j⟩ (by rw[C1,<- m.length];exact hi) MC (by simp[MC,O]) λv h1 Y4 pv I0 B IX ma Ye=>⟨_,rfl,?_⟩;have W:v=u:=by rw[σ]at pv;exact(BX pv).symm
  subst W;refine ZBN I0 λh2 KI DZ=>?_;have J:h2.get? s.heap.objs.size=some { cls:=.type "tuple", data:=.seq #[.int i Y4,v] }:=(DZ.2 _ (Ks L)).trans IX;have kp:∀b o,b∉[e,it]->s.heap.get? b=some o->h2.get? b=some o:=λb o f q=>by
   have y:b≠e/\b≠it:=by simpa using f
   exact(DZ.2 b y.1).trans (Ye b o y.1 y.2 q)
  refine⟨.ref s.heap.objs.size,_,I.l9 (t':=Y4+1) (a:=s.heap.objs.size) (o:=.tup [.int i,xs[i]]) x kp (Am _) ?_,rfl,⟨_,_,B9 hi,rfl,I.AQ.fresh (Am _),rfl⟩,⟨⟨_,KI⟩,?_⟩,λb f=>?_⟩
  .exact⟨(by show 2<=sizeLine;decide),[.int i Y4,v],.cons ⟨_,rfl⟩ (.cons N .nil),⟨_,J,rfl,_,rfl⟩,λob q=>by rw[J]at q;cases q;rfl⟩
  .obtain⟨o,q,r⟩:=B.1;exact⟨o,(DZ.2 it (BW MC)).trans q,r⟩
  .have y:b<s.heap.objs.size:=by
    rcases List.mem_cons.mp f with z|z
    .rw[z];exact L
    .have M:b=it:=by simpa using z
     obtain⟨o,q,_⟩:=c;rw[M];exact BD q
   rw[Ah (BP y)];exact(x b f).1
 done:=by
  intro X F hw G D i Zh s Z H E I x st hg;subst F hw G;obtain⟨C,hx⟩:=hg;obtain⟨⟨old,g⟩,c⟩:=st;obtain⟨A5,m,j,S⟩:=I.tuple C;have hl:=m.length;exact HT.ZD2 (I.ok.hd D) g c j (by simp;omega) λh' Y=>⟨rfl,I.d9 (t':=s.toks) x λb o f q=>Y b o (λz=>f (by simp[z])) q⟩
 self:=λ_ _ _ _ _ st h=>let ⟨⟨_,g⟩,_⟩:=st;ZAb g h
def XG(K:ZKG)(t:TA):TI:=λZ H R=>t Z H λvs H1=>∃a tp xs,vs=[.ref a]/\C4 K tp H1 a xs/\R (lV K tp a xs) H1
theorem ud{p1 p pos:Pos}{l:Expr}{t:TA}(hg:Gl X "enumerate")(v:X.mg "enumerate"=none)(e:QA X [l] t)(hs:starEach [l] X.env=[(false,eval l X.env)]:=by rfl):
  QI X (.Tuple es k1 p1) (.Call (.Name "enumerate" p) [l] [] pos) (XG X.K t):=⟨by
 have e:=e.h;intro Zh s Z H R I h;refine yi (K3 I hg v (show bootBuiltins "enumerate"=some (.type "enumerate") by decide +kernel) ?_ (by decide) (by decide));refine QX (AY (e pos Zh s Z H _ I h) λus s1⟨vs,H1,I1,m,n⟩=>?_) hs rfl;obtain⟨a,tp,xs,rfl,f,q⟩:=n;obtain⟨u,rfl,j⟩:=vals1 m;cases j;have g:s1.heap.objs.size+1≠s1.heap.objs.size:=ZJA _;have fp:∀b∈[s1.heap.objs.size+1,s1.heap.objs.size],EN X Zh H1 b:=λb w=>by
  have y:s1.heap.objs.size<=b:=by
   rcases List.mem_cons.mp w with z|z
   .rw[z];exact Ey _
   .have i:b=s1.heap.objs.size:=by simpa using z
    rw[i];exact Am _
  exact I1.L1 y (I1.AQ.fresh y)
 cases tp with
 |false=>
  obtain⟨A5,k,p,o⟩:=I1.list f;refine call_enumerate_list p.isList λh' d c hsz kp=>ZAb d ?_;exact⟨s1.heap.objs.size+1,[s1.heap.objs.size+1,s1.heap.objs.size],_,_,H1,rfl,I1.kept (t':=s1.toks) kp,kK a _ _ xs g,⟨⟨_,d⟩,c⟩,fp,q⟩
 |true=>
  obtain⟨A5,k,r,o⟩:=I1.tuple f;refine HT.uM r λh' d c hsz kp=>ZAb d ?_;exact⟨s1.heap.objs.size+1,[s1.heap.objs.size+1,s1.heap.objs.size],_,_,H1,rfl,I1.kept (t':=s1.toks) kp,zH a _ _ xs g,⟨⟨_,d⟩,c⟩,fp,q⟩⟩
end
end L2
namespace MA
noncomputable def PF:Nat->Nat->List Nat
 | 0,n=>[97+n]
 |k+1,n=>if n<26 then[97+n]else(97+n % 26)::PF k (n / 26)
theorem L5:∀(k:Nat){n:Nat},n<26->PF k n=[97+n]
 | 0,_,_=>rfl
 |_+1,_,h=>tU h
theorem cY:∀(k j n:Nat),n<=k->n<=j->PF k n=PF j n
 | 0,j,n,h,_=>by rw[L5 0 (Hw h (by decide)),L5 j (Hw h (by decide))]
 |k+1,0,n,_,h=>by rw[L5 (k+1) (Hw h (by decide)),L5 0 (Hw h (by decide))]
 |k+1,j+1,n,h1,h2=>by
  by_cases c:n<26
  .rw[L5 _ c,L5 _ c]
  .have d:n / 26<n:=Nat.div_lt_self (Du (by decide) (ZJ6 c)) (by decide);show(if n<26 then _ else _)=(if n<26 then _ else _)
   rw[tJ c,tJ c,cY k j (n / 26) (om (Du d h1)) (om (Du d h2))]
def lets(n:Nat):List Nat:=PF n n
def vals:List Nat->Nat
 | []=>0
 |c::r=>(c - 97)+26 * vals r
theorem Ms{n:Nat}(h:n<26):lets n=[97+n]:=L5 n h
theorem PR{n:Nat}(h:¬ n<26):lets n=(97+n % 26)::lets (n / 26):=by
 cases n with
 |zero=>exact absurd (by decide) h
 |succ k=>
  have d:(k+1) / 26<k+1:=Nat.div_lt_self (oq k) (by decide);show(if k+1<26 then _ else _)=_
  rw[tJ h,cY k ((k+1) / 26) ((k+1) / 26) (om d) (Am _)];rfl
theorem dq:∀n,vals (lets n)=n:=by
 intro n
 induction n using Nat.strongRecOn with
 |_ n a=>
  by_cases h:n<26
  .rw[Ms h];simp[vals]
  .rw[PR h];have:=a (n / 26) (by omega);simp only[vals,this];omega
theorem ZIA{a b:Nat}(h:lets a=lets b):a=b:=by rw[<- dq a,h,dq]
theorem Ug(n:Nat):1<=(lets n).length:=by
 by_cases h:n<26
 .rw[Ms h];simp
 .rw[PR h];simp
theorem RT:∀(k n:Nat),n<26 ^ (k+1)->(lets n).length<=k+1
 | 0,n,h=>by rw[Ms (by simpa using h)];simp
 |k+1,n,h=>by
  by_cases h1:n<26
  .rw[Ms h1];simp
  .rw[PR h1];have:=RT k (n / 26) (by rw[Nat.pow_succ]at h;exact Nat.div_lt_of_lt_mul (by rw[Nat.mul_comm];exact h));simp only[Ba];omega
theorem ZAx:∀n,∀c∈lets n,97<=c/\c<=122:=by
 intro n
 induction n using Nat.strongRecOn with
 |_ n b=>
  by_cases h:n<26
  .rw[Ms h];intro c a;simp at a;omega
  .rw[PR h];intro c a;rcases List.mem_cons.mp a with e|e
   .omega
   .exact b (n / 26) (by omega) c e
theorem ck{α:Type}[DecidableEq α]:∀(k:Nat)(f:Nat->α)(l:List α),(∀i j,i<k->j<k->f i=f j->i=j)->(∀i,i<k->f i∈l)->k<=l.length
 | 0,_,_,_,_=>CF _
 |k+1,f,l,hi,hm=>by
  have h1:=hm k (M7 k);have:=ck k f (l.erase (f k)) (λi j a b e=>hi i j (by omega) (by omega) e) (λi a=>by
   have c:f i≠f k:=λe=>by have:=hi i k (by omega) (by omega) e;omega
   exact(UX c).mpr (hm i (by omega)))
  rw[bI h1]at this;have hp:=oY h1;omega
end MA
namespace Lw
open L2
variable{a l p:Addr}{H H' H2:Hp}{xs:List V}{o:HO}{α:Type}{hi i m n:Nat}{ns ss:List Str}{x y z:Str}{j r:Int}{A B c:Prop}
def Be(H:Hp)(p:Addr):Prop:=∃a b:Int,H p=some (.lst [.int a,.int b])/\0<=a/\a<10 ^ 256/\0<=b/\b<2147483647
structure BA (p:Addr) (H H':Hp):Prop where
 AD:Be H' p
 same:Gx p H H'
theorem BA.trans{H1:Hp}(a:BA p H H1)(b:BA p H1 H2):BA p H H2:=⟨b.AD,a.same.trans b.same⟩
theorem BA.of(h:Be H p)(s:A9 H H'):BA p H H':=by
 obtain⟨a,b,e,r⟩:=h;exact⟨⟨a,b,s _ _ e,r⟩,Gx.of s⟩
theorem BA.Oy{K:ZKG}(s:BA p H H')(h:AK K H a xs)(Aj:a≠p):AK K H' a xs:=by
 rcases h with(h|⟨o,h⟩)|h
 .exact .inl (.inl (s.same _ _ Aj h))
 .exact .inl (.inr ⟨o,s.same _ _ Aj h⟩)
 .exact .inr h
theorem BA.at'(s:BA p H H')(h:H a=some o)(Aj:a≠p):H' a=some o:=s.same _ _ Aj h
theorem NI{a:Int}(c:-(10 ^ 20)<a)(h1:a<10 ^ 20):a.natAbs<2 ^ 1000:=by
 have b:a.natAbs<10 ^ 20:=by omega
 exact Nat.lt_trans b (by decide +kernel)
def ZT(K:ZKG):Sp:=λvs H Q _=>∃(a:Addr)(ns:List Int)(k:Int),vs=[.ref a,.int k]/\AK K H a (ns.map V.int)/\0<=k/\k<=1000/\∀p H',H p=none->A9 H H'->Be H' p->Q (.ref p) H'
def IV:Sp:=λvs H Q _=>∃(p:Addr)(m:Int),vs=[.ref p,.int m]/\Be H p/\0<m/\m<10 ^ 18/\∀r H',0<=r->r<m->BA p H H'->Q (.int r) H'
def Dd(l:List Nat):Str:=⟨l.toArray⟩
def kI:Sp:=λvs H Q _=>∃r:Int,vs=[.int r]/\0<=r/\r<26 ^ 8/\∀H',A9 H H'->Q (.str (Dd (MA.lets r.toNat))) H'
theorem Ou{xs:List α}{k:Int}{v:α}(b:0<=k)(h:xs[k.toNat]?=some v):Bf xs k=some v:=by
 have a:k=((k.toNat:Nat):Int):=by omega
 have q:=P0 h;rw[<- a]at q;exact q
abbrev MP:Str:="abcdefghijklmnopqrstuvwxyz"
theorem zd:∀j,j<26->MP.cps.toList[j]?=some (97+j):=by decide +kernel
theorem i7{k:Int}(a:0<=k)(h1:k<26):Bf MP.cps.toList k=some (97+k.toNat):=Ou a (zd _ (by omega))
theorem fD(l:List Nat)(c:Nat):Dd l++(⟨#[c]⟩:Str)=Dd (l++[c]):=by
 show(⟨l.toArray++#[c]⟩:Str)=⟨(l++[c]).toArray⟩;simp
theorem Sb(l:List Nat):(Dd l).length=l.length:=by simp[Dd,Str.length]
theorem jk{l:List Nat}:(V.str (Dd l)=V.str (Str.ofString ""))↔l=[]:=by
 constructor
 .intro h;injection h with h
  have h2:=xU (λx=>x.cps.toList) h;have e:(Str.ofString "").cps.toList=[]:=by decide +kernel
  rw[e]at h2
  simpa[Dd]using h2
 .rintro rfl;rfl
theorem small(h:n<=100000):n<=sizeLine:=C7 h (by decide +kernel)
theorem nK{k:Nat}{pre:List Nat}(h:pre++MA.lets k=MA.lets n):(0<k / 26->(pre++[97+k % 26])++MA.lets (k / 26)=MA.lets n)/\(k / 26=0->pre++[97+k % 26]=MA.lets n):=by
 constructor
 .intro h1;rw[MA.PR (by omega)]at h;rw[<- h,Bj];rfl
 .intro h1;have h2:k<26:=by omega
  rw[MA.Ms h2]at h;rw[<- h,Nat.mod_eq_of_lt h2]
def Nm(x:Str):Prop:=1<=x.length/\x.length<=8/\∀c∈x.cps.toList,97<=c/\c<=122
instance (x:Str):Decidable (Nm x):=by unfold Nm;exact inferInstance
theorem IZ(x:Str):x.length=x.cps.toList.length:=by simp[Str.length]
theorem VM(h:n<26 ^ 8):Nm (Dd (MA.lets n)):=by
 refine⟨by rw[Sb];exact MA.Ug n,by rw[Sb];exact MA.RT 7 n h,λc a=>MA.ZAx n c (by simpa[Dd]using a)⟩
noncomputable def menu:List Str:=["put","take","none","ahead","all","over","next","a","ab","abc","abcdefgh","b","step"]
theorem xw:∀x∈menu,Nm x:=by decide +kernel
noncomputable def Rw:List V:=[.str "put",.str "take",.str "none",.str "ahead",.str "all",.str "over",.str "next",.str "a",.str "ab",.str "abc",.str "abcdefgh",.str "b",.str "step"]
theorem ZGJ{i:Int}(a:0<=i)(h1:i<13):∃x,Bf Rw i=some (.str x)/\Nm x:=by
 have b:menu.length=13:=rfl;have hi:i.toNat<menu.length:=by omega
 have e:Rw=menu.map V.str:=rfl;refine⟨menu[i.toNat],Ou a ?_,xw _ (M4 hi)⟩;rw[e,B1,B9 hi];rfl
theorem Pz{i:Int}(a:0<=i)(h1:i<ns.length):∃x,Bf (ns.map V.str) i=some (.str x)/\x∈ns/\ns[i.toNat]?=some x:=by
 have hi:i.toNat<ns.length:=by omega
 exact⟨ns[i.toNat],Ou a (by rw[B1,B9 hi];rfl),M4 hi,B9 hi⟩
theorem EX(ns:List Str):(ns.map V.str).all FL=true:=by
 rw[Hs];intro x hx;obtain⟨y,_,rfl⟩:=List.mem_map.mp hx;rfl
theorem Jh(x:Str)(ns:List Str):DX (.str x) (ns.map V.str)=decide (x∈ns):=by
 unfold DX;rw[NY,ZIk,decide_eq_true_iff];constructor
 .rintro⟨v,b,h⟩;obtain⟨y,a,rfl⟩:=List.mem_map.mp b;have h':(y == x)=true:=h;have:y=x:=by simpa using h'
  rw[<- this];exact a
 .intro h;exact⟨.str x,List.mem_map.mpr ⟨x,h,rfl⟩,by show(x == x)=true;simp⟩
theorem ND(xs:List V):EV xs []=decide (xs=[]):=by
 cases xs with
 |nil=>rfl
 |cons x r=>rw[L4 (by simp)];simp
theorem ZGA(h:x.cps.toList=y.cps.toList):x=y:=by
 cases x;cases y;simp only[Str.mk.injEq];exact Array.toList_inj.mp h
theorem ZAy(z:Str){a b:Nat}{lo hi:Option Int}(Dc:a<=b)(c:b<=z.length)(e:Builtin.Str.strSliceIndices lo hi 1 z.length=Builtin.Str.strSliceIndices (some (a:Int)) (some (b:Int)) 1 z.length):
  (Txt.slice z lo hi).cps.toList=(z.cps.toList.drop a).take (b - a):=by
 have q:=StrLaws.sliced_plain z Dc c;rw[<- e]at q;unfold Txt.slice;split
 .rename_i h;have d:(Builtin.Str.strSliceIndices lo hi 1 z.length).length=z.length:=by simpa using h
  rw[e,StrLaws.strSliceIndices_plain Dc c,AS,M5]at d;have h1:a=0:=by omega
  have h2:b=z.length:=by omega
  subst h1;subst h2;rw[UT,QU,IZ,Hv]
 .rw[<- q]
theorem wu(h:0<=j):max (0:Int) (min j (n:Int))=max 0 (min ((min j.toNat n:Nat):Int) (n:Int)):=by
 have e:((min j.toNat n:Nat):Int)=min j n:=by
  rcases QQ j.toNat n with c|c
  .rw[Kr c,oK h,Int.min_eq_left (by have:=Int.ofNat_le.mpr c;rw[oK h]at this;exact this)]
  .rw[QR c,Int.min_eq_right (by have:=Int.ofNat_le.mpr c;rw[oK h]at this;exact this)]
 rw[e,Int.min_assoc,Int.min_self]
theorem pN(z:Str)(h:0<=j):(Txt.slice z none (some j)).cps.toList=z.cps.toList.take j.toNat:=by
 have e:=ZAy z (a:=0) (b:=min j.toNat z.length) (lo:=none) (hi:=some j) (CF _) (oo _ _) (by
  have h1:¬ j<0:=by omega
  have h2:¬ (((min j.toNat z.length:Nat):Int)<0):=Int.not_lt.mpr (Int.natCast_nonneg _);have c:max (0:Int) (min j (z.length:Int))=max 0 (min ((min j.toNat z.length:Nat):Int) (z.length:Int)):=wu h;simp only[Builtin.Str.strSliceIndices,h1,h2,ZC9,c];rfl)
 rw[e,UT,QU];rcases QQ j.toNat z.length with h1|h1
 .rw[Kr h1]
 .rw[QR h1,IZ,Hv,QP (by rw[<- IZ];exact h1)]
theorem cm(h:1<=j)(d:j<=8)(b:1<=z.length)(a:∀c∈z.cps.toList,97<=c/\c<=122):Nm (Txt.slice z none (some j)):=by
 have e:=pN z (j:=j) (by omega);refine⟨?_,?_,λc Hj=>a c ?_⟩
 .rw[IZ,e,Bk,<- IZ];omega
 .rw[IZ,e,Bk];omega
 .rw[e]at Hj;exact bM Hj
theorem dW(x y:Str):(x++y).cps.toList=x.cps.toList++y.cps.toList:=by
 show(x.cps++y.cps).toList=_;simp
theorem cP(x y:Str):(x++y).length=x.length+y.length:=by rw[IZ,dW,BE,<- IZ,<- IZ]
def ML(K:ZKG):Sp:=λvs H Q _=>∃(p q:Addr)(ns:List Str),vs=[.ref p,.ref q]/\Be H p/\H q=some (.lst (ns.map V.str))/\q≠p/\(∀x∈ns,Nm x)/\ns.length<=1000/\∀x H',Nm x->x∉ns->BA p H H'->Q (.str x) H'
theorem qU{k:Nat}(h:∀j,j<k->Dd (MA.lets j)∈ns):k<=ns.length:=
 MA.ck k (λj=>Dd (MA.lets j)) ns (λi j _ _ e=>MA.ZIA (by
  have:=xU (λx=>x.cps.toList) e
  simpa[Dd]using this)) h
theorem ZCo:1000<26 ^ 8:=by decide +kernel
theorem ZCp:(1000:Int)<26 ^ 8:=by decide +kernel
theorem sj:(26:Int) ^ (8:Int).toNat - 26<26 ^ 8:=by decide +kernel
theorem tV:(26:Int)<26 ^ 8:=by decide +kernel
theorem ZDS:(0:Int)<26 ^ (8:Int).toNat - 26:=by decide +kernel
theorem tF:(26:Int) ^ (8:Int).toNat - 26<10 ^ 18:=by decide +kernel
theorem iS(a:0<=r)(h:r<26 ^ 8):r.toNat<26 ^ 8:=by omega
theorem BA.upd(s:BA p H H2)(h:H l=none)(Aj:l≠p):BA p H (upd H2 l o):=by
 obtain⟨a,b,e,r⟩:=s.AD;refine⟨⟨a,b,by rw[Ah (BW Aj)];exact e,r⟩,λc u d q=>?_⟩;rw[Ah (Ed q h)];exact s.same c u d q
theorem BA.none(s:BA p H H2)(h:H2 l=none):H l=none:=by
 cases q:H l with
 |none=>rfl
 |some o=>
  by_cases e:l=p
  .obtain⟨a,b,c,_⟩:=s.AD;rw[<- e,h]at c;cases c
  .rw[s.same l o e q]at h;cases h
theorem Be.ne(h:Be H p)(a:H l=none):l≠p:=by
 obtain⟨_,_,e,_⟩:=h;exact(Ed e a).symm
theorem A9.none(s:A9 H H2)(h:H2 l=none):H l=none:=by
 cases q:H l with
 |none=>rfl
 |some o=>rw[s l o q]at h;cases h
def nE:Sp:=λvs H Q _=>∃(p:Addr)(m:Int),vs=[.ref p,.int m]/\Be H p/\0<=m/\m<=100/\
 ∀l H'(ns:List Str),H l=none->BA p H H'->H' l=some (.lst (ns.map V.str))->(ns.length:Int)=m->(∀x∈ns,Nm x)->ns.Nodup->Q (.ref l) H'
def ZR:Sp:=λvs H Q _=>∃(p:Addr)(m:Int),vs=[.ref p,.int m]/\Be H p/\1<=m/\m<=100/\
 ∀l H'(ns:List Str),H l=none->BA p H H'->H' l=some (.lst (ns.map V.str))->(ns.length:Int)<=m->(∀x∈ns,Nm x)->ns.Nodup->Q (.ref l) H'
theorem T8{l:List α}{x:α}(h:l.Nodup)(hx:x∉l):(l++[x]).Nodup:=by
 rw[C6];exact⟨h,by simp,λa d b c=>by
  have:b=x:=by simpa using c
  subst this;rintro rfl;exact hx d⟩
theorem xA{m:Int}(b:0<=j)(h1:j<3)(a:1<=m):∃k:Int,Bf [V.int 0,V.int 1,V.int m] j=some (.int k)/\0<=k/\k<=m:=by
 have:j=0∨j=1∨j=2:=by omega
 rcases this with rfl|rfl|rfl
 .exact⟨0,rfl,by omega,by omega⟩
 .exact⟨1,rfl,by omega,by omega⟩
 .exact⟨m,rfl,by omega,by omega⟩
noncomputable def QY(c:Nat):Bool:=!(Builtin.Str.occurrences MP ⟨#[c]⟩ 0 MP.length 1).isEmpty
def isNm(x:Str):Bool:=decide ((1:Int)<=x.length) && (decide ((x.length:Int)<=8) && x.cps.toList.all QY)
def PZ:Sp:=λvs H Q _=>∃x:Str,vs=[.str x]/\x.length<=1000/\∀H',A9 H H'->Q (.bl (isNm x)) H'
theorem fZ(l:List α):l.filter (λ_=>true)=l:=List.filter_eq_self.mpr λ_ _=>rfl
noncomputable def jN:V->V
 | .str y=>.bl (!(Builtin.Str.occurrences MP y 0 MP.length 1).isEmpty)
 |_=>.bl false
theorem ZCd(x:Str):((Gi x).filter (λ_=>true)).map jN=(x.cps.toList.map QY).map V.bl:=by
 unfold Gi;rw[fZ,GA,GA];rfl
theorem signs_get{v:V}(h:(Gi x)[i]?=some v):∃c,v=.str ⟨#[c]⟩:=by
 unfold Gi at h;rw[B1]at h;cases q:x.cps.toList[i]? with
 |none=>rw[q]at h;cases h
 |some c=>rw[q]at h;simp at h;exact⟨c,h.symm⟩
theorem all_map(f:α->Bool)(l:List α):(l.map f).all id=l.all f:=by rw[List.all_map];rfl
theorem KS{v:V}(h:(ss.map V.str)[i]?=some v):∃x,v=.str x/\x∈ss:=by
 rw[B1]at h;cases q:ss[i]? with
 |none=>rw[q]at h;cases h
 |some x=>rw[q]at h;simp at h;exact⟨x,h.symm,DR q⟩
theorem yT(xs:List Str):EV (xs.map V.str) (xs.map V.str)=true:=by
 rw[Kx rfl,Hs];intro j a;have b:j<xs.length:=by simpa using a
 have e:(xs.map V.str)[j]?=some (.str xs[j]):=by rw[B1,B9 b];rfl
 rw[Kn e];show(xs[j] == xs[j])=true;simp
theorem IC(K:ZKG)(t:String):PySem.W.kitOne K (.type t) (.type t)=some true:=by
 unfold PySem.W.kitOne;rw[tU (by simp)]
def Ob(K:ZKG):Sp:=λvs H Q _=>∃(a:Addr)(ns:List Int),vs=[.ref a]/\AK K H a (ns.map V.int)/\ns.length<=63/\∀H',Q (.bl true) H'
inductive AW where
 |put (x:Str) (i:Nat)|take (x:Str)|move (x:Str) (i:Nat)|turn (lo hi:Nat)
noncomputable def AW.vals:AW->List V
 | .put x i=>[.str "put",.str x,.int i]
 | .take x=>[.str "take",.str x]
 | .move x i=>[.str "move",.str x,.int i]
 | .turn lo hi=>[.str "turn",.int lo,.int hi]
def AW.Ok(m:Nat)(ns:List Str):AW->Prop
 | .put x i=>Nm x/\x∉ns/\i<=ns.length/\ns.length<m
 | .take x=>x∈ns
 | .move x i=>x∈ns/\i<ns.length
 | .turn lo hi=>lo<=hi/\hi<=ns.length
def ins(ns:List Str)(x:Str)(i:Nat):List Str:=ns.take i++x::ns.drop i
def wo(ns:List Str)(x:Str):List Str:=ns.filter λy=>!decide (y=x)
noncomputable def G7(ns:List Str)(lo hi:Nat):List Str:=ns.take lo++((ns.drop lo).take (hi - lo)).reverse++ns.drop hi
def AW.done(ns:List Str):AW->List Str
 | .put x i=>ins ns x i
 | .take x=>wo ns x
 | .move x i=>ins (wo ns x) x i
 | .turn lo hi=>G7 ns lo hi
theorem N8(h:x∉ns):wo ns x=ns:=by
 unfold wo;rw[ZIq];intro y a;have:y≠x:=λe=>h (e▸a);simp[this]
theorem Kc:y∈wo ns x↔y∈ns/\y≠x:=by
 unfold wo;rw[Nf];simp
theorem gm(h:ns.Nodup):(wo ns x).Nodup:=h.filter _
theorem fE(as bs:List Str)(x:Str):wo (as++bs) x=wo as x++wo bs x:=by unfold wo;rw[Nb]
theorem jx(bs:List Str)(x:Str):wo (x::bs) x=wo bs x:=by unfold wo;rw[QF];simp
theorem Rf(h:x∈ns):ns=ns.take (ns.idxOf x)++x::ns.drop (ns.idxOf x+1):=by
 have a:ns.idxOf x<ns.length:=List.idxOf_lt_length_iff.mpr h;have e:ns[ns.idxOf x]=x:=bE a
 conv=>lhs;rw[<- Hu (ns.idxOf x) ns,ZIm a,e]
theorem hG(h:x∈ns):x∉ns.take (ns.idxOf x):=by
 intro a;obtain⟨m,Ny,e⟩:=List.mem_iff_getElem.mp a;rw[Bk]at Ny;rw[List.getElem_take]at e;exact Wv x ns m (by omega) (by omega) e
theorem lF(h:x∈ns)(nd:ns.Nodup):x∉ns.drop (ns.idxOf x+1):=by
 rw[Rf h]at nd;have h2:=(List.nodup_append.mp nd).2.1;exact(List.nodup_cons.mp h2).1
theorem pj(h:x∈ns)(nd:ns.Nodup):wo ns x=ns.take (ns.idxOf x)++ns.drop (ns.idxOf x+1):=by
 conv=>lhs;rw[Rf h]
 rw[fE,jx,N8 (hG h),N8 (lF h nd)]
theorem OZ(h:x∈ns)(nd:ns.Nodup):(wo ns x).length+1=ns.length:=by
 have a:ns.idxOf x<ns.length:=List.idxOf_lt_length_iff.mpr h;rw[pj h nd,BE,Bk,Co];omega
theorem RL:(ins ns x i).length=ns.length+1:=by
 unfold ins;rw[BE,Ba,Bk,Co];omega
theorem Qy:y∈ins ns x i↔y=x∨y∈ns:=by
 unfold ins;rw[Gb,EI];have:y∈ns↔y∈ns.take i∨y∈ns.drop i:=by rw[<- Gb,Hu]
 rw[this];constructor
 .rintro(h|h|h)
  .exact .inr (.inl h)
  .exact .inl h
  .exact .inr (.inr h)
 .rintro(h|h|h)
  .exact .inr (.inl h)
  .exact .inl h
  .exact .inr (.inr h)
theorem aA(h:ns.Nodup)(hx:x∉ns):(ins ns x i).Nodup:=by
 unfold ins;have e:(ns.take i++ns.drop i).Nodup:=by rw[Hu];exact h
 obtain⟨h1,h2,f⟩:=List.nodup_append.mp e;rw[C6];refine⟨h1,List.nodup_cons.mpr ⟨λz=>hx (oe z),h2⟩,λa c b d=>?_⟩;rcases List.mem_cons.mp d with z|z
 .rw[z];rintro rfl;exact hx (bM c)
 .exact f a c b z
theorem hZ{lo:Nat}(h1:lo<=hi)(h2:hi<=ns.length):(G7 ns lo hi).length=ns.length:=by
 unfold G7;rw[BE,BE,QK,Bk,Bk,Co,Co];omega
theorem lN{lo:Nat}(h1:lo<=hi):ns=ns.take lo++(ns.drop lo).take (hi - lo)++ns.drop hi:=by
 have:ns.drop hi=(ns.drop lo).drop (hi - lo):=by rw[List.drop_drop];congr 1;omega
 rw[this,Bj,Hu,Hu]
theorem ja{lo:Nat}(h1:lo<=hi):y∈G7 ns lo hi↔y∈ns:=by
 conv=>rhs;rw[lN (ns:=ns) h1]
 unfold G7;simp only[Gb,List.mem_reverse]
theorem ZGa{lo:Nat}(h1:lo<=hi)(nd:ns.Nodup):(G7 ns lo hi).Nodup:=by
 have p:List.Perm (G7 ns lo hi) ns:=by
  conv=>rhs;rw[lN (ns:=ns) h1]
  unfold G7;exact((List.reverse_perm _).append_left _).append_right _
 exact p.nodup_iff.mpr nd
theorem AW.step{d:AW}(h:d.Ok m ns)(nd:ns.Nodup)(b:∀x∈ns,Nm x)(c:ns.length<=m):
  (d.done ns).Nodup/\(∀x∈d.done ns,Nm x)/\(d.done ns).length<=m:=by
 cases d with
 |put x i=>
  obtain⟨h1,h2,g,f⟩:=h;refine⟨aA nd h2,λy a=>?_,?_⟩
  .rcases Qy.mp a with e|e
   .rw[e];exact h1
   .exact b y e
  .show(ins ns x i).length<=m;rw[RL];omega
 |take x=>
  refine⟨gm nd,λy a=>b y (Kc.mp a).1,?_⟩;have:=OZ h nd;show(wo ns x).length<=m;omega
 |move x i=>
  obtain⟨h1,h2⟩:=h;refine⟨aA (gm nd) (λz=>(Kc.mp z).2 rfl),λy a=>?_,?_⟩
  .rcases Qy.mp a with e|e
   .rw[e];exact b x h1
   .exact b y (Kc.mp e).1
  .have:=OZ h1 nd;show(ins (wo ns x) x i).length<=m;rw[RL];omega
 |turn lo hi=>
  obtain⟨h1,h2⟩:=h;exact⟨ZGa h1 nd,λy a=>b y ((ja h1).mp a),by show(G7 ns lo hi).length<=m;rw[hZ h1 h2];exact c⟩
theorem OO(xs:List V)(i:Nat):CL xs none (some (i:Int))=xs.take i:=by
 unfold CL;rw[HT.Qh,HT.MO,UT,QU];rcases QQ i xs.length with h|h
 .rw[Kr h]
 .rw[QR h,Hv,QP h]
theorem Q4(xs:List V)(i:Nat):CL xs (some (i:Int)) none=xs.drop i:=by
 unfold CL;rw[HT.Qh,HT.MO];rcases QQ i xs.length with h|h
 .rw[Kr h,QP (by rw[Co];omega)]
 .rw[QR h,Ub,List.take_zero,ZIn h]
theorem kJ(xs:List V){j:Nat}(hi:i<=j)(a:j<=xs.length):CL xs (some (i:Int)) (some (j:Int))=(xs.drop i).take (j - i):=by
 unfold CL;rw[HT.MO,HT.MO,Kr a,Kr (C7 hi a)]
def BI(tp:Bool)(xs:List V):HO:=match tp with
 |false=>.lst xs
 |true=>.tup xs
theorem BI.sq{K:ZKG}{tp:Bool}(h:H a=some (BI tp xs)):C4 K tp H a xs:=by
 cases tp
 .exact AK.of h
 .exact AE.of h
def Kz:Sp:=λvs H Q _=>∃(a:Addr)(tp:Bool)(ns:List Str)(x:Str),vs=[.ref a,.str x]/\H a=some (BI tp (ns.map V.str))/\x∈ns/\Q (.int (ns.idxOf x:Nat)) H
def cI:Sp:=λvs H Q _=>∃(a:Addr)(tp:Bool)(ns:List Str)(x:Str)(i:Nat),vs=[.ref a,.str x,.int i]/\H a=some (BI tp (ns.map V.str))/\(AW.put x i).Ok 40 ns/\∀H',A9 H H'->Q .AG H'
def ip:Sp:=λvs H Q _=>∃(a:Addr)(tp:Bool)(ns:List Str)(x:Str)(i:Nat),vs=[.ref a,.str x,.int i]/\H a=some (BI tp (ns.map V.str))/\(AW.move x i).Ok 40 ns/\Q .AG H
def mK:Sp:=λvs H Q _=>∃(a:Addr)(tp:Bool)(ns:List Str)(lo hi:Nat),vs=[.ref a,.int lo,.int hi]/\H a=some (BI tp (ns.map V.str))/\(AW.turn lo hi).Ok 40 ns/\Q .AG H
def o3:Sp:=λvs H Q _=>∃(a t:Addr)(tp:Bool)(ns:List Str)(d:AW),vs=[.ref a,.ref t]/\H a=some (BI tp (ns.map V.str))/\H t=some (.tup d.vals)/\d.Ok 40 ns/\∀H',A9 H H'->Q .AG H'
def K9(H:Hp)(Q:VK)(ns:List Str):Prop:=∀l H',H l=none->A9 H H'->H' l=some (.lst (ns.map V.str))->Q (.ref l) H'
def gY:Sp:=λvs H Q _=>∃(a:Addr)(tp:Bool)(ns:List Str)(x:Str)(i:Nat),vs=[.ref a,.str x,.int i]/\H a=some (BI tp (ns.map V.str))/\ns.length<=1000/\K9 H Q (ins ns x i)
def mZ:Sp:=λvs H Q _=>∃(a:Addr)(tp:Bool)(ns:List Str)(x:Str),vs=[.ref a,.str x]/\H a=some (BI tp (ns.map V.str))/\ns.length<=1000/\K9 H Q (wo ns x)
def ZU:Sp:=λvs H Q _=>∃(a t:Addr)(ns:List Str)(d:AW),vs=[.ref a,.ref t]/\H a=some (.lst (ns.map V.str))/\H t=some (.tup d.vals)/\d.Ok 40 ns/\ns.length<=40/\ns.Nodup/\K9 H Q (d.done ns)
def Rr:Sp:=λvs H Q _=>∃(p a:Addr)(m:Nat)(ns:List Str),vs=[.ref p,.ref a,.int m]/\Be H p/\H a=some (.lst (ns.map V.str))/\a≠p/\(∀x∈ns,Nm x)/\ns.length<=m/\1<=m/\m<=100/\
 ∀(d:AW)t H',H t=none->BA p H H'->H' t=some (.tup d.vals)->d.Ok m ns->Q (.ref t) H'
theorem Ig[Decidable c](h:c)(a:A):if c then A else B:=by rw[tU h];exact a
theorem BH[Decidable c](h:¬ c)(b:B):if c then A else B:=by rw[tJ h];exact b
theorem ZG1:∀j,j<26->QY (97+j)=true:=by decide +kernel
theorem YZ(h:Nm x):isNm x=true:=by
 obtain⟨h1,h2,f⟩:=h;unfold isNm;rw[rD (by omega),rD (by omega),Lx,Lx,Hs];intro c d;obtain⟨a,b⟩:=f c d;have:=ZG1 (c - 97) (by omega);have e:97+(c - 97)=c:=by omega
 rw[e]at this;exact this
theorem DP(ns:List Str):(ns.map V.str).length=ns.length:=AS _
def J1(y:V):V->Bool:=λv=>!decide (v=y)
theorem Ow(ns:List Str)(x:Str):((ns.map V.str).filter (J1 (.str x))).map (λv=>v)=(wo ns x).map V.str:=by
 unfold wo J1;rw[oa,oR]
 congr 1
 apply ZIp;intro y _;simp
theorem uj(ns:List Str)(i:Int):((ns.map V.str).filter (J1 (.int i))).map (λv=>v)=ns.map V.str:=by
 unfold J1;rw[oa,ZIq];intro v a;obtain⟨y,_,rfl⟩:=List.mem_map.mp a;rfl
theorem rX(s:A9 H H')(h:H l=none):A9 H (upd H' l o):=λb u q=>by rw[Ah (Ed q h)];exact s b u q
theorem ZGX(K:ZKG):PySem.W.kitOne K (.type "int") (.type "bool")=some false:=by
 unfold PySem.W.kitOne;rw[tJ (by decide)];with_unfolding_all rfl
end Lw
namespace Fz
open L2 Lw
variable{F F' H H':Hp}{v:V}{CP vs:List V}{i i0 j:Nat}{t:TA}{a l:Addr}{r:List V->Hp->VK->Prop}{Z τ:L2.St}{o:HO}{ta tc te:TE}{tb u:TS}{b neg tp:Bool}{f:Int->Int->Int}{g:TG}{n:String}{th tl:TO}{X:XK}{c tt:TT}{wi:TI}{A:List Addr}{Q:VK}
inductive PV where
 |AG|bl (b:Bool)|int (i:Int)|str (x:Str)|lst (xs:List PV)|tup (xs:List PV)
 |B0 (ks:List Key) (xs:List PV)|obj (C:Addr) (ns:List Str) (xs:List PV)|exc (C:Addr) (ns:List Str) (xs:List PV)|con (a:Addr) (xs:List PV)
variable{p:PV}{ps xs:List PV}
def SH(a C:Addr)(dx:Option Addr):HO:=.ext λh=>∃ob vs,h.get? a=some ob/\ob.cls=.ref C/\ob.dict=dx/\ob.data=.fields vs
mutual
inductive Rep (F:Hp):V->PV->Prop where
 |AG:Rep F .AG .AG
 |bl (b:Bool):Rep F (.bl b) (.bl b)
 |int (i:Int):Rep F (.int i) (.int i)
 |str (x:Str):Rep F (.str x) (.str x)
 |lst {a:Addr}{vs:List V}{xs:List PV}:F a=some (.lst vs)->Aa F vs xs->Rep F (.ref a) (.lst xs)
 |tup {a:Addr}{vs:List V}{xs:List PV}:F a=some (.tup vs)->Aa F vs xs->Rep F (.ref a) (.tup xs)
 |B0 {a:Addr}{ks:List Key}{vs:List V}{xs:List PV}:F a=some (.dK (ks.zip vs))->ks.length=vs.length->Aa F vs xs->Rep F (.ref a) (.B0 ks xs)
 |obj {a C dx:Addr}{ns:List Str}{vs:List V}{xs:List PV}:F a=some (.ins C dx (ns.zip vs))->F dx=some (.own a)->ns.length=vs.length->Aa F vs xs->Rep F (.ref a) (.obj C ns xs)
 |con {a:Addr}{xs:List PV}:Rep F (.ref a) (.con a xs)
 |SW {a C:Addr}:F a=some (SH a C none)->Rep F (.ref a) (.exc C [] [])
 |exc {a C dx:Addr}{ns:List Str}{vs:List V}{xs:List PV}:F a=some (SH a C (some dx))->F dx=some (.xd (ns.zip vs))->ns.length=vs.length->Aa F vs xs->Rep F (.ref a) (.exc C ns xs)
inductive Aa (F:Hp):List V->List PV->Prop where
 |nil:Aa F [] []
 |cons {v:V}{p:PV}{vs:List V}{ps:List PV}:Rep F v p->Aa F vs ps->Aa F (v::vs) (p::ps)
end
theorem Rep.mono(s:A9 F F')(r:Rep F v p):Rep F' v p:=
 Rep.rec (motive_1:=λv p _=>Rep F' v p) (motive_2:=λvs ps _=>Aa F' vs ps) .AG .bl .int .str (λh _ i=>.lst (s _ _ h) i) (λh _ i=>.tup (s _ _ h) i) (λh e _ i=>.B0 (s _ _ h) e i) (λh h2 e _ i=>.obj (s _ _ h) (s _ _ h2) e i) .con (λh=>.SW (s _ _ h)) (λh h2 e _ i=>.exc (s _ _ h) (s _ _ h2) e i) .nil (λ_ _ i k=>.cons i k) r
def ZBd(F:Hp)(v:V):PV->Prop
 | .AG=>v=.AG
 | .bl b=>v=.bl b
 | .int i=>v=.int i
 | .str x=>v=.str x
 | .lst xs=>∃a vs,v=.ref a/\F a=some (.lst vs)/\Aa F vs xs
 | .tup xs=>∃a vs,v=.ref a/\F a=some (.tup vs)/\Aa F vs xs
 | .B0 ks xs=>∃a vs,v=.ref a/\F a=some (.dK (ks.zip vs))/\ks.length=vs.length/\Aa F vs xs
 | .obj C ns xs=>∃a dx vs,v=.ref a/\F a=some (.ins C dx (ns.zip vs))/\F dx=some (.own a)/\ns.length=vs.length/\Aa F vs xs
 | .con a _=>v=.ref a
 | .exc C ns xs=>(∃a,v=.ref a/\F a=some (SH a C none)/\ns=[]/\xs=[])∨∃a dx vs,v=.ref a/\F a=some (SH a C (some dx))/\F dx=some (.xd (ns.zip vs))/\ns.length=vs.length/\Aa F vs xs
theorem Rep.inv(r:Rep F v p):ZBd F v p:=by
 cases r with
 |lst h r=>exact⟨_,_,rfl,h,r⟩
 |tup h r=>exact⟨_,_,rfl,h,r⟩
 |B0 h l r=>exact⟨_,_,rfl,h,l,r⟩
 |obj h h2 l r=>exact⟨_,_,_,rfl,h,h2,l,r⟩
 |SW h=>exact .inl ⟨_,rfl,h,rfl,rfl⟩
 |exc h h2 l r=>exact .inr ⟨_,_,_,rfl,h,h2,l,r⟩
 |_=>exact rfl
theorem Aa.inv(r:Aa F vs (p::ps)):∃v ws,vs=v::ws/\Rep F v p/\Aa F ws ps:=by
 cases r with
 |cons r t=>exact⟨_,_,rfl,r,t⟩
theorem Aa.Ea(r:Aa F vs []):vs=[]:=by
 cases r;rfl
theorem Aa.mono(s:A9 F F')(r:Aa F vs ps):Aa F' vs ps:=by
 induction ps generalizing vs with
 |nil=>cases r.Ea;exact .nil
 |cons p ps c=>obtain⟨v,ws,rfl,a,b⟩:=r.inv;exact .cons (a.mono s) (c b)
theorem Aa.length{F:Hp}{vs:List V}{ps:List PV}(r:Aa F vs ps):vs.length=ps.length:=by
 induction ps generalizing vs with
 |nil=>cases r.Ea;rfl
 |cons p ps c=>obtain⟨v,ws,rfl,a,b⟩:=r.inv;exact xU (· + 1) (c b)
theorem Aa.get{F:Hp}{vs:List V}{ps:List PV}{i:Nat}{p:PV}(r:Aa F vs ps)(e:ps[i]?=some p):∃v,vs[i]?=some v/\Rep F v p:=by
 induction ps generalizing vs i with
 |nil=>cases e
 |cons q ps c=>
  obtain⟨v,ws,rfl,a,b⟩:=r.inv;cases i with
  |zero=>cases e;exact⟨_,rfl,a⟩
  |succ i=>exact c (vs:=ws) (i:=i) b e
theorem Aa.get'(r:Aa F vs ps)(e:vs[i]?=some v):∃p,ps[i]?=some p/\Rep F v p:=by
 induction ps generalizing vs i with
 |nil=>cases r.Ea;cases e
 |cons q ps c=>
  obtain⟨u,ws,rfl,a,b⟩:=r.inv;cases i with
  |zero=>cases e;exact⟨_,rfl,a⟩
  |succ i=>exact c (vs:=ws) (i:=i) b e
theorem Aa.append{ws:List V}{c:List PV}(r:Aa F vs ps)(s:Aa F ws c):Aa F (vs++ws) (ps++c):=by
 induction ps generalizing vs with
 |nil=>cases r.Ea;exact s
 |cons p ps d=>obtain⟨v,us,rfl,a,b⟩:=r.inv;exact .cons a (d b)
theorem Aa.take(n:Nat)(r:Aa F vs ps):Aa F (vs.take n) (ps.take n):=by
 induction ps generalizing vs n with
 |nil=>cases r.Ea;rw[List.take_nil,List.take_nil];exact .nil
 |cons p ps c=>
  obtain⟨v,us,rfl,a,b⟩:=r.inv;cases n with
  |zero=>exact .nil
  |succ n=>exact .cons a (c n b)
theorem Aa.drop(n:Nat)(r:Aa F vs ps):Aa F (vs.drop n) (ps.drop n):=by
 induction ps generalizing vs n with
 |nil=>cases r.Ea;rw[List.drop_nil,List.drop_nil];exact .nil
 |cons p ps c=>
  cases n with
  |zero=>exact r
  |succ n=>obtain⟨v,us,rfl,a,b⟩:=r.inv;exact c n b
theorem Aa.one(r:Rep F v p):Aa F [v] [p]:=.cons r .nil
def flat:PV->Bool
 | .lst _=>false
 | .tup _=>false
 | .B0 _ _=>false
 | .obj _ _ _=>false
 | .exc _ _ _=>false
 | .con _ _=>false
 |_=>true
noncomputable def enc:PV->V
 | .bl b=>.bl b
 | .int i=>.int i
 | .str x=>.str x
 |_=>.AG
theorem Rep.enc(h:flat p=true)(r:Rep F v p):v=enc p:=by
 cases r <;> first|rfl|cases h
theorem yK(h:flat p=true):Rep F (enc p) p:=by
 cases p with
 |AG=>exact .AG
 |bl b=>exact .bl b
 |int i=>exact .int i
 |str x=>exact .str x
 |lst xs=>cases h
 |tup xs=>cases h
 |B0 ks xs=>cases h
 |obj C ns xs=>cases h
 |exc C ns xs=>cases h
 |con a xs=>cases h
theorem Aa.enc(h:ps.all flat=true)(r:Aa F vs ps):vs=ps.map enc:=by
 induction ps generalizing vs with
 |nil=>exact r.Ea
 |cons p ps c=>
  obtain⟨v,us,rfl,a,b⟩:=r.inv;rw[US,Eb]at h;rw[Bu,<- Rep.enc h.1 a,<- c h.2 b]
theorem fO(h:ps.all flat=true):Aa F (ps.map enc) ps:=by
 induction ps with
 |nil=>exact .nil
 |cons p r a=>
  rw[US,Eb]at h;exact .cons (yK h.1) (a h.2)
theorem S8(h:flat p=true):FL (Fz.enc p)=true:=by cases p <;> first|rfl|cases h
theorem iF(ns:List Str):(ns.map PV.str).all flat=true:=by
 rw[Hs];intro x hx;obtain⟨y,_,rfl⟩:=List.mem_map.mp hx;rfl
theorem ZHZ(ns:List Int):(ns.map PV.int).all flat=true:=by
 rw[Hs];intro x hx;obtain⟨y,_,rfl⟩:=List.mem_map.mp hx;rfl
theorem ZIL(ns:List Bool):(ns.map PV.bl).all flat=true:=by
 rw[Hs];intro x hx;obtain⟨y,_,rfl⟩:=List.mem_map.mp hx;rfl
theorem Wd(ns:List Str):(ns.map PV.str).map Fz.enc=ns.map V.str:=by rw[GA];rfl
theorem um(ns:List Bool):(ns.map PV.bl).map Fz.enc=ns.map V.bl:=by rw[GA];rfl
theorem wH(ns:List Int):(ns.map PV.int).map Fz.enc=ns.map V.int:=by rw[GA];rfl
theorem Aa.strs{ns:List Str}(r:Aa F vs (ns.map PV.str)):vs=ns.map V.str:=(r.enc (iF ns)).trans (Wd ns)
theorem Kk(ns:List Str):Aa F (ns.map V.str) (ns.map PV.str):=by rw[<- Wd];exact fO (iF ns)
theorem Aa.bls{ns:List Bool}(r:Aa F vs (ns.map PV.bl)):vs=ns.map V.bl:=(r.enc (ZIL ns)).trans (um ns)
theorem Aa.ints{ns:List Int}(r:Aa F vs (ns.map PV.int)):vs=ns.map V.int:=(r.enc (ZHZ ns)).trans (wH ns)
inductive NK where
 |lst|B0 (ks:List Key)|obj (C dx:Addr) (ns:List Str)
noncomputable def NK.ho:NK->List V->HO
 | .lst,vs=>.lst vs
 | .B0 ks,vs=>.dK (ks.zip vs)
 | .obj C dx ns,vs=>.ins C dx (ns.zip vs)
noncomputable def NK.more:NK->List Addr
 | .obj _ dx _=>[dx]
 |_=>[]
def NK.side(k:NK)(a:Addr)(H:Hp):Prop:=match k with
 | .obj _ dx _=>H dx=some (.own a)
 |_=>True
def NK.fit(k:NK)(n:Nat):Prop:=match k with
 | .B0 ks=>ks.length=n
 | .obj _ _ ns=>ns.length=n
 |_=>True
inductive OV where
 |fz (p:PV)
 |tp (xs:List OV)
 |nd (k:NK) (a:Addr) (xs:List OV)
variable{ts:List OV}
mutual
def OV.addrs:OV->List Addr
 | .fz _=>[]
 | .tp xs=>OV.Ap xs
 | .nd k a xs=>a::(k.more++OV.Ap xs)
def OV.Ap:List OV->List Addr
 | []=>[]
 |x::r=>x.addrs++OV.Ap r
end
mutual
def OV.pv:OV->PV
 | .fz p=>p
 | .tp xs=>.tup (OV.G0 xs)
 | .nd .lst _ xs=>.lst (OV.G0 xs)
 | .nd (.B0 ks) _ xs=>.B0 ks (OV.G0 xs)
 | .nd (.obj C _ ns) _ xs=>.obj C ns (OV.G0 xs)
def OV.G0:List OV->List PV
 | []=>[]
 |x::r=>x.pv::OV.G0 r
end
mutual
inductive B8 (F H:Hp):V->OV->Prop where
 |fz {v:V}{p:PV}:Rep F v p->B8 F H v (.fz p)
 |tp {a:Addr}{vs:List V}{xs:List OV}:F a=some (.tup vs)->BN F H vs xs->B8 F H (.ref a) (.tp xs)
 |nd {k:NK}{a:Addr}{vs:List V}{xs:List OV}:H a=some (k.ho vs)->k.side a H->k.fit vs.length->BN F H vs xs->B8 F H (.ref a) (.nd k a xs)
inductive BN (F H:Hp):List V->List OV->Prop where
 |nil:BN F H [] []
 |cons {v:V}{t:OV}{vs:List V}{ts:List OV}:B8 F H v t->BN F H vs ts->BN F H (v::vs) (t::ts)
end
def ZEv(F H:Hp)(v:V):OV->Prop
 | .fz p=>Rep F v p
 | .tp xs=>∃a vs,v=.ref a/\F a=some (.tup vs)/\BN F H vs xs
 | .nd k a xs=>∃vs,v=.ref a/\H a=some (k.ho vs)/\k.side a H/\k.fit vs.length/\BN F H vs xs
theorem B8.inv{t:OV}(r:B8 F H v t):ZEv F H v t:=by
 cases r with
 |fz r=>exact r
 |tp h r=>exact⟨_,_,rfl,h,r⟩
 |nd h a b r=>exact⟨_,rfl,h,a,b,r⟩
theorem BN.inv{t:OV}(r:BN F H vs (t::ts)):∃v ws,vs=v::ws/\B8 F H v t/\BN F H ws ts:=by
 cases r with
 |cons r t=>exact⟨_,_,rfl,r,t⟩
theorem BN.Ea(r:BN F H vs []):vs=[]:=by
 cases r;rfl
theorem OV.Dh{k:NK}{xs:List OV}:(OV.nd k a xs).addrs=a::(k.more++OV.Ap xs):=by rw[OV.addrs]
theorem OV.Gm{xs:List OV}:(OV.tp xs).addrs=OV.Ap xs:=by rw[OV.addrs]
theorem OV.MM:(OV.fz p).addrs=[]:=by rw[OV.addrs]
theorem OV.Cv{x:OV}{r:List OV}:OV.Ap (x::r)=x.addrs++OV.Ap r:=by rw[OV.Ap]
theorem OV.Iq:OV.Ap []=[]:=by rw[OV.Ap]
theorem NK.c7{k:NK}(h:k.side a H)(s:∀b∈k.more,∀o,H b=some o->H' b=some o):k.side a H':=by
 cases k with
 |obj C dx ns=>exact s dx (by simp[NK.more]) _ h
 |_=>trivial
theorem B8.mono(f:A9 F F'){t:OV}(r:B8 F H v t):(∀a∈t.addrs,∀o,H a=some o->H' a=some o)->B8 F' H' v t:=
 B8.rec (motive_1:=λv t _=>(∀a∈t.addrs,∀o,H a=some o->H' a=some o)->B8 F' H' v t) (motive_2:=λvs ts _=>(∀a∈OV.Ap ts,∀o,H a=some o->H' a=some o)->BN F' H' vs ts)
  (λr _=>.fz (r.mono f))
  (λh _ i s=>.tp (f _ _ h) (i (by rw[OV.Gm]at s;exact s)))
  (λh d g _ i s=>by
   rw[OV.Dh]at s;exact .nd (s _ Cp _ h) (NK.c7 d λb e=>s b (D3 _ (Fn _ e))) g (i λa c=>s a (D3 _ (Dt _ c))))
  (λ_=>.nil)
  (λ_ _ i k s=>by
   rw[OV.Cv]at s;exact .cons (i λa c=>s a (Fn _ c)) (k λa c=>s a (Dt _ c)))
  r
theorem BN.mono(f:A9 F F')(r:BN F H vs ts)(s:∀a∈OV.Ap ts,∀o,H a=some o->H' a=some o):BN F' H' vs ts:=by
 induction ts generalizing vs with
 |nil=>cases r.Ea;exact .nil
 |cons p ps d=>
  obtain⟨v,ws,rfl,a,b⟩:=r.inv;rw[OV.Cv]at s;exact .cons (a.mono f λa c=>s a (Fn _ c)) (d b λa c=>s a (Dt _ c))
theorem B8.there{t:OV}(r:B8 F H v t):∀a∈t.addrs,H a≠none:=
 B8.rec (motive_1:=λv t _=>∀a∈t.addrs,H a≠none) (motive_2:=λvs ts _=>∀a∈OV.Ap ts,H a≠none)
  (λ_ a c=>by rw[OV.MM]at c;cases c)
  (λ_ _ i a c=>i a (by rw[OV.Gm]at c;exact c))
  (λ{k b vs xs}h d f _ i a c=>by
   rw[OV.Dh,EI,Gb]at c;rcases c with rfl|c|c
   .rw[h];exact λz=>by cases z
   .cases k with
    |obj C dx ns=>
     have e:a=dx:=List.mem_singleton.mp c;rw[e,show H dx=some (.own b)from d];exact λz=>by cases z
    |_=>cases c
   .exact i a c)
  (λa c=>by rw[OV.Iq]at c;cases c)
  (λ_ _ i k a c=>by
   rw[OV.Cv,Gb]at c;exact c.elim (i a) (k a))
  r
theorem BN.there(r:BN F H vs ts):∀a∈OV.Ap ts,H a≠none:=by
 induction ts generalizing vs with
 |nil=>intro a c;rw[OV.Iq]at c;cases c
 |cons p ps d=>
  obtain⟨v,ws,rfl,x,b⟩:=r.inv;intro a c;rw[OV.Cv,Gb]at c;exact c.elim (x.there a) (d b a)
theorem BN.length{F H:Hp}{vs:List V}{ts:List OV}(r:BN F H vs ts):vs.length=ts.length:=by
 induction ts generalizing vs with
 |nil=>cases r.Ea;rfl
 |cons p ps c=>obtain⟨v,ws,rfl,a,b⟩:=r.inv;exact xU (· + 1) (c b)
inductive Slot where
 |any|is (p:PV)|own (xs:List PV)|AD|sq (tp:Bool) (xs:List PV)|raw (P:Hp->V->Prop)|ow (lt:Bool) (t:OV)
variable{ss:List Slot}{s:Slot}{G5 nx:List Slot->Prop}
structure Ent0 where
 A:List Addr
 F0:Hp
 H0:Hp
 B:List Addr
variable{E:Ent0}
abbrev E3(A:List Addr)(F H:Hp):Ent0:=⟨A,F,H,[]⟩
def Ok(E:Ent0)(F H:Hp):Slot->Option (Option V)->Prop
 | .any,_=>True
 | .is p,o=>∃v,o=some (some v)/\Rep F v p
 | .own xs,o=>∃l vs,o=some (some (.ref l))/\F l=none/\E.H0 l=none/\H l=some (.lst vs)/\Aa F vs xs
 | .AD,o=>∃l,o=some (some (.ref l))/\F l=none/\(E.H0 l=none∨l∈E.A)/\Be H l
 | .sq true xs,o=>∃v,o=some (some v)/\Rep F v (.tup xs)
 | .sq false xs,o=>∃l vs,o=some (some (.ref l))/\(l∉E.A/\l∉E.B)/\E.H0 l=some (.lst vs)/\Aa F vs xs
 | .raw P,o=>∃v,o=some (some v)/\P F v/\∀F F',A9 F F'->P F v->P F' v
 | .ow lt t,o=>∃v,o=some (some v)/\B8 F H v t/\t.addrs.Nodup/\∀a∈t.addrs,F a=none/\(E.H0 a=none∨(lt=true/\a∈E.B))
def BO:Slot->Option (Option V)->Addr->Prop
 | .own _,o,l=>o=some (some (.ref l))
 | .AD,o,l=>o=some (some (.ref l))
 | .ow _ t,_,l=>l∈t.addrs
 |_,_,_=>False
structure Fin (E:Ent0) (F H:Hp):Prop where
 fh:A9 F H
 f0:A9 E.F0 F
 keep:∀a o,(a∉E.A/\a∉E.B)->E.H0 a=some o->H a=some o
 fresh:∀a o,F a=some o->E.F0 a=some o∨E.H0 a=none
 Eo:∀a,a∈E.A->Be H a
 Mm:∀a,a∈E.A->F a=none
 a0:∀a,a∈E.A->E.H0 a≠none
 bF:∀a,a∈E.B->F a=none
 bH:∀a,a∈E.B->H a≠none
 b0:∀a,a∈E.B->E.H0 a≠none/\a∉E.A
structure Sg (E:Ent0) (ss:List Slot) (Z:L2.St) (F H:Hp):Prop extends Fin E F H where
 len:ss.length=Z.length
 ok:∀(i:Nat)s,ss[i]?=some s->Ok E F H s Z[i]?
 Bi:∀(i j:Nat)s u l,i≠j->ss[i]?=some s->ss[j]?=some u->BO s Z[i]? l->¬ BO u Z[j]? l
structure Ex where
 C:Addr
 ns:List Str
 xs:List PV
def Ex.at(x:Ex)(F:Hp)(C:Value)(dx:Option Addr):Prop:=
 C=.ref x.C/\((x.ns=[]/\x.xs=[]/\dx=none)∨∃a vs,dx=some a/\F a=some (.xd (x.ns.zip vs))/\x.ns.length=vs.length/\Aa F vs x.xs)
class Xw where
 e:L2.St->XK
 J:List Slot->Prop
 D:Ex->Prop
structure Ent [Xw] extends Ent0 where
 hx:∀(ss:List Slot)(Z:L2.St)(F H:Hp)(x:Ex)(C:Value)(dx:Option Addr),Xw.J ss->Sg toEnt0 ss Z F H->Xw.D x->x.at F C dx->Xw.e Z C dx H
instance [Xw]:CoeOut Ent Ent0:=⟨Ent.toEnt0⟩
instance Rj:Xw:=⟨λ_=>E0,λ_=>True,λ_=>False⟩
def Ce(ss:List Slot)(Z:L2.St)(a:Addr):Prop:=∀i:Nat,ss[i]?=some .AD->Z[i]?≠some (some (.ref a))
structure Mv (E:Ent0) (ss:List Slot) (Z:L2.St) (F H F' H':Hp):Prop where
 st:Sg E ss Z F' H'
 ff:A9 F F'
 hh:∀a o,Ce ss Z a->H a=some o->H' a=some o
 nn:∀a o,F' a=some o->F a=some o∨H a=none
theorem Sg.Oh(S:Sg E ss Z F H)(h:H l=none):Ce ss Z l:=λi hi e=>by
 obtain⟨c,b,_,_,_,_,a,_⟩:=S.ok i _ hi;rw[e]at b;cases b;rw[h]at a;cases a
theorem Mv.none(m:Mv E ss Z F H F' H')(h:H' a=none):H a=none:=by
 cases e:H a with
 |none=>rfl
 |some o=>rw[m.hh a o (m.st.Oh h) e]at h;cases h
theorem Mv.refl{E:Ent0}{ss:List Slot}{Z:L2.St}{F H:Hp}(S:Sg E ss Z F H):Mv E ss Z F H F H:=⟨S,A9.refl _,λ_ _ _ e=>e,λ_ _ e=>.inl e⟩
theorem Mv.trans{F1 H1 F2 H2:Hp}(a:Mv E ss Z F H F1 H1)(b:Mv E ss Z F1 H1 F2 H2):Mv E ss Z F H F2 H2:=
 ⟨b.st,a.ff.trans b.ff,λc o n e=>b.hh c o n (a.hh c o n e),λc o e=>(b.nn c o e).elim (λe=>a.nn c o e) λe=>.inr (a.none e)⟩
theorem Sg.EU(S:Sg E ss Z F H){p:Addr}(h:H p=none):E.H0 p=none:=by
 cases e:E.H0 p with
 |none=>rfl
 |some o=>
  by_cases q:p∈E.A
  .obtain⟨_,_,b,_⟩:=S.Eo p q;rw[h]at b;cases b
  .by_cases a:p∈E.B
   .exact absurd h (S.bH p a)
   .rw[S.keep p o ⟨q,a⟩ e]at h;cases h
theorem Sg.Bd(S:Sg E ss Z F H){p:Addr}(h:H p=none):F p=none:=A9.none S.fh h
theorem Be.keep(h:Be H l)(k:∀o,H l=some o->H' l=some o):Be H' l:=by
 obtain⟨a,b,e,r⟩:=h;exact⟨a,b,k _ e,r⟩
theorem Sg.lP(S:Sg E ss Z F H)(h:F l=some o):Ce ss Z l:=λi hi e=>by
 obtain⟨c,b,a,_⟩:=S.ok i _ hi;rw[e]at b;cases b;rw[h]at a;cases a
theorem Sg.gb(S:Sg E ss Z F H)(b:l∉E.A)(h:E.H0 l=some o):Ce ss Z l:=λi hi e=>by
 obtain⟨c,a,_,q,_⟩:=S.ok i _ hi;rw[e]at a;cases a;rcases q with q|q
 .rw[h]at q;cases q
 .exact b q
theorem Sg.ZIS(S:Sg E ss Z F H)(h:l∈E.B):Ce ss Z l:=λi hi e=>by
 obtain⟨d,a,_,q,_⟩:=S.ok i _ hi;rw[e]at a;cases a;obtain⟨c,b⟩:=S.b0 l h;rcases q with q|q
 .exact c q
 .exact b q
theorem Sg.ET(S:Sg E ss Z F H)(h:ss[i]?=some s)(m:BO s Z[i]? l):H l≠none:=by
 have k:=S.ok i s h;cases s with
 |own xs=>obtain⟨c,vs,a,_,_,b,_⟩:=k;rw[show Z[i]?=some (some (.ref l))from m]at a;cases a;rw[b];simp
 |AD=>obtain⟨c,a,_,_,_,_,b,_⟩:=k;rw[show Z[i]?=some (some (.ref l))from m]at a;cases a;rw[b];simp
 |ow lt t=>obtain⟨v,_,r,_⟩:=k;exact r.there l m
 |_=>cases m
theorem Sg.yZ(S:Sg E ss Z F H)(h:ss[i]?=some s)(m:BO s Z[i]? l):F l=none:=by
 have k:=S.ok i s h;cases s with
 |own xs=>obtain⟨c,vs,a,b,_⟩:=k;rw[show Z[i]?=some (some (.ref l))from m]at a;cases a;exact b
 |AD=>obtain⟨c,a,b,_⟩:=k;rw[show Z[i]?=some (some (.ref l))from m]at a;cases a;exact b
 |ow lt t=>obtain⟨v,_,r,_,q⟩:=k;exact(q l m).1
 |_=>cases m
theorem Sg.Sk(S:Sg E ss Z F H)(h:ss[i]?=some s)(a:H l=none):¬ BO s Z[i]? l:=λm=>S.ET h m a
theorem Sg.OW(S:Sg E ss Z F H)(h:ss[i]?=some s)(m:BO s Z[i]? l)(np:s≠.AD):Ce ss Z l:=λj a b=>
 S.Bi i j s _ l (by rintro rfl;rw[h]at a;exact np (BX a)) h a m b
theorem Ok.go(S:Sg E ss Z F H)(hi:ss[i]?=some s)(ff:A9 F F')(f:∀a o,BO s Z[i]? a->H a=some o->H' a=some o)(Bd:∀a,H a≠none->F a=none->F' a=none)(np:s≠.AD):Ok E F' H' s Z[i]?:=by
 have k:=S.ok i s hi;cases s with
 |any=>trivial
 |is p=>obtain⟨v,e,r⟩:=k;exact⟨v,e,r.mono ff⟩
 |own xs=>
  obtain⟨l,vs,e,d,c,g,r⟩:=k;exact⟨l,vs,e,Bd l (by rw[g];simp) d,c,f l _ e g,r.mono ff⟩
 |AD=>exact absurd rfl np
 |sq tp xs=>
  cases tp with
  |true=>obtain⟨v,e,r⟩:=k;exact⟨v,e,r.mono ff⟩
  |false=>obtain⟨l,vs,e,d,c,r⟩:=k;exact⟨l,vs,e,d,c,r.mono ff⟩
 |raw P=>obtain⟨v,e,r,st⟩:=k;exact⟨v,e,st _ _ ff r,st⟩
 |ow lt t=>
  obtain⟨v,e,r,nd,q⟩:=k;exact⟨v,e,r.mono ff λa b o=>f a o b,nd,λa b=>⟨Bd a (r.there a b) (q a b).1,(q a b).2⟩⟩
theorem Sg.step(S:Sg E ss Z F H)(ff:A9 F F')(fh:A9 F' H')(c:∀a o,Ce ss Z a->H a=some o->H' a=some o)(hn:∀a o,F' a=some o->F a=some o∨H a=none)
  (hp:∀(i:Nat)l,ss[i]?=some .AD->Z[i]?=some (some (.ref l))->Be H' l):Mv E ss Z F H F' H':=by
 have Bd:∀a,H a≠none->F a=none->F' a=none:=λa h1 h2=>by
  cases e:F' a with
  |none=>rfl
  |some o=>
   rcases hn a o e with q|q
   .rw[h2]at q;cases q
   .exact absurd q h1
 have g:∀a,Be H a->Ce ss Z a->Be H' a:=λa p n=>Be.keep p λo e=>c a o n e;refine⟨⟨⟨fh,S.f0.trans ff,λa o b e=>?_,λa o e=>?_,λa b=>?_,λa b=>?_,S.a0,λa d=>Bd a (S.bH a d) (S.bF a d),λa d=>?_,S.b0⟩,S.len,λi s hi=>?_,S.Bi⟩,ff,c,hn⟩
 .exact c a o (S.gb b.1 e) (S.keep a o b e)
 .rcases hn a o e with q|q
  .exact S.fresh a o q
  .exact .inr (S.EU q)
 .by_cases q:∃i:Nat,ss[i]?=some .AD/\Z[i]?=some (some (.ref a))
  .obtain⟨i,j,h⟩:=q;exact hp i a j h
  .exact g a (S.Eo a b) λi h1 h2=>q ⟨i,h1,h2⟩
 .refine Bd a ?_ (S.Mm a b);obtain⟨_,_,f,_⟩:=S.Eo a b;rw[f];simp
 .obtain⟨o,e⟩:=Option.ne_none_iff_exists'.mp (S.bH a d);rw[c a o (S.ZIS d) e];simp
 .by_cases np:s=.AD
  .subst np;obtain⟨l,e,f,t,r⟩:=S.ok i _ hi;have u:=r;obtain⟨_,_,k,_⟩:=u;exact⟨l,e,Bd l (by rw[k];simp) f,t,hp i l hi e⟩
  .exact Ok.go S hi ff (λa o m=>c a o (S.OW hi m np)) Bd np
theorem Sg.EW(S:Sg E ss Z F H)(hi:ss[i]?=some .AD)(e:Z[i]?=some (some (.ref l))):Be H l:=by
 obtain⟨b,a,_,_,p⟩:=S.ok i _ hi;rw[e]at a;cases a;exact p
theorem Sg.alloc(S:Sg E ss Z F H){p:Addr}(h:H p=none)(o:HO):Mv E ss Z F H (upd F p o) (upd H p o):=by
 refine S.step (Ab (S.Bd h) _) (λa u e=>?_) (λa u _ e=>Ab h o a u e) (λa u e=>?_) λi l hi e=>Be.keep (S.EW hi e) λu e=>Ab h o l u e
 .by_cases q:a=p
  .subst q;rw[AJ]at e ⊢;exact e
  .rw[Ah q]at e ⊢;exact S.fh a u e
 .by_cases q:a=p
  .subst q;exact .inr h
  .rw[Ah q]at e;exact .inl e
theorem Sg.make(S:Sg E ss Z F H){p:Addr}(h:H p=none)(o:HO):Mv E ss Z F H F (upd H p o):=
 S.step (A9.refl _) (S.fh.trans (Ab h o)) (λa u _ e=>Ab h o a u e) (λa u e=>.inl e) λi l hi e=>Be.keep (S.EW hi e) λu e=>Ab h o l u e
theorem Sg.grow(S:Sg E ss Z F H)(s:A9 H H'):Mv E ss Z F H F H':=
 S.step (A9.refl _) (S.fh.trans s) (λa u _ e=>s a u e) (λa u e=>.inl e) λi l hi e=>Be.keep (S.EW hi e) λu e=>s l u e
theorem Sg.setG(S:Sg E ss Z F H)(AQ:Ok E F H s (some (some v)))(f:∀l,BO s (some (some v)) l->∀(i:Nat)u,i≠j->ss[i]?=some u->¬ BO u Z[i]? l):Sg E (ss.set j s) (Z.set j (some v)) F H:=by
 refine⟨S.toFin,by rw[J4,J4];exact S.len,λi u hi=>?_,λi k u w l Qp hi b d c=>?_⟩
 .by_cases q:i=j
  .subst q;have a:i<ss.length:=by have:=(List.getElem?_eq_some_iff.mp hi).1;simpa using this
   rw[DD a]at hi;cases hi;rw[DD (by rw[<- S.len];exact a)];exact AQ
  .rw[CZ (BW q)]at hi ⊢;exact S.ok i u hi
 .by_cases q:i=j
  .subst q;have a:i<ss.length:=by have:=(List.getElem?_eq_some_iff.mp hi).1;simpa using this
   rw[DD a]at hi;rw[DD (by rw[<- S.len];exact a)]at d;cases hi;rw[CZ Qp]at b c;exact f l d k w (BW Qp) b c
  .rw[CZ (BW q)]at hi d
   by_cases e:k=j
   .subst e;have a:k<ss.length:=by have:=(List.getElem?_eq_some_iff.mp b).1;simpa using this
    rw[DD a]at b;cases b;rw[DD (by rw[<- S.len];exact a)]at c;exact f l c i u Qp hi d
   .rw[CZ (BW e)]at b c;exact S.Bi i k u w l Qp hi b d c
theorem Sg.Me(S:Sg E ss Z F H)(r:Rep F v p):Sg E (ss.set j (.is p)) (Z.set j (some v)) F H:=S.setG ⟨v,rfl,r⟩ λ_ h=>by cases h
def Sv(ss:List Slot)(Z:L2.St)(F H:Hp)(v:V):Bool->List PV->Prop
 |true,xs=>Rep F v (.tup xs)
 |false,xs=>∃l vs,v=.ref l/\Ce ss Z l/\H l=some (.lst vs)/\Aa F vs xs
def Fv(E:Ent0)(F:Hp)(v:V):Bool->List PV->Prop
 |true,xs=>Rep F v (.tup xs)
 |false,xs=>∃l vs,v=.ref l/\(F l=some (.lst vs)∨((l∉E.A/\l∉E.B)/\E.H0 l=some (.lst vs)))/\Aa F vs xs
structure Wp [Xw] (ss:List Slot) (t:TE) (k:PV->Prop):Prop where
 go:∀(E:Ent)(Z:L2.St)(F H:Hp)(Q:VK),Sg E ss Z F H->(∀v p F' H',Mv E ss Z F H F' H'->Rep F' v p->k p->Q v H')->t Z H Q
structure Wn [Xw] (ss:List Slot) (t:TE) (k:List PV->Prop):Prop where
 go:∀(E:Ent)(Z:L2.St)(F H:Hp)(Q:VK),Sg E ss Z F H->(∀l vs xs F' H',Mv E ss Z F H F' H'->F' l=none->H l=none->H' l=some (.lst vs)->Aa F' vs xs->k xs->Q (.ref l) H')->t Z H Q
structure Wq [Xw] (ss:List Slot) (t:TE) (k:Bool->List PV->Prop):Prop where
 go:∀(E:Ent)(Z:L2.St)(F H:Hp)(Q:VK),Sg E ss Z F H->(∀v tp xs F' H',Mv E ss Z F H F' H'->Sv ss Z F' H' v tp xs->k tp xs->Q v H')->t Z H Q
structure Wz [Xw] (ss:List Slot) (t:TE) (k:Bool->List PV->Prop):Prop where
 go:∀(E:Ent)(Z:L2.St)(F H:Hp)(Q:VK),Sg E ss Z F H->(∀v tp xs F' H',Mv E ss Z F H F' H'->Fv E F' v tp xs->k tp xs->Q v H')->t Z H Q
structure Wt [Xw] (ss:List Slot) (t:TT) (k:Bool->Prop):Prop where
 go:∀(E:Ent)(Z:L2.St)(F H:Hp)(Q:Bool->Hp->Prop),Sg E ss Z F H->(∀b F' H',Mv E ss Z F H F' H'->k b->Q b H')->t Z H Q
def Av(ss:List Slot)(Z:L2.St)(F H:Hp)(v:V):Slot->Prop
 | .is p=>Rep F v p
 | .sq tp xs=>Sv ss Z F H v tp xs
 | .raw P=>P F v/\∀F F',A9 F F'->P F v->P F' v
 |_=>False
inductive IJ (ss:List Slot) (Z:L2.St) (F H:Hp):List V->List Slot->Prop where
 |nil:IJ ss Z F H [] []
 |cons {v:V}{s:Slot}{vs:List V}{l:List Slot}:Av ss Z F H v s->IJ ss Z F H vs l->IJ ss Z F H (v::vs) (s::l)
structure Wa [Xw] (ss:List Slot) (t:TA) (k:List Slot->Prop):Prop where
 go:∀(E:Ent)(Z:L2.St)(F H:Hp)(Q:List V->Hp->Prop),Sg E ss Z F H->(∀vs l F' H',Mv E ss Z F H F' H'->IJ ss Z F' H' vs l->k l->Q vs H')->t Z H Q
inductive Ae where
 |is (k:PV->Prop)|new (k:List PV->Prop)|AD|ow (k:OV->Prop)|mt (k:PV->OV->Prop)|Iv (k:PV->OV->OV->Prop)
def OV.val:OV->V
 | .nd _ a _=>.ref a
 |_=>.AG
def Ae.ok(R:Ae)(E:Ent0)(F' H':Hp)(v:V):Prop:=match R with
 | .is k=>∃p,Rep F' v p/\k p
 | .new k=>∃l vs xs,v=.ref l/\F' l=none/\E.H0 l=none/\H' l=some (.lst vs)/\Aa F' vs xs/\k xs
 | .AD=>∃l,v=.ref l/\F' l=none/\E.H0 l=none/\Be H' l
 | .ow k=>∃t,B8 F' H' v t/\t.addrs.Nodup/\(∀a∈t.addrs,F' a=none/\E.H0 a=none)/\k t
 | .mt k=>∃p t,Rep F' v p/\B8 F' H' t.val t/\t.addrs.Nodup/\(∀a∈t.addrs,F' a=none/\(E.H0 a=none∨a∈E.B))/\k p t
 | .Iv k=>∃p t u,Rep F' v p/\B8 F' H' t.val t/\B8 F' H' u.val u/\(t.addrs++u.addrs).Nodup/\(∀a∈t.addrs++u.addrs,F' a=none/\(E.H0 a=none∨a∈E.B))/\k p t u
structure Ws [Xw] (ss:List Slot) (t:TS) (nx:List Slot->Prop) (R:Ae):Prop where
 go:∀(E:Ent)(D:Ends)(Z:L2.St)(F H:Hp),Sg E ss Z F H->(∀AH σ' F' H',nx AH->Sg E AH σ' F' H'->A9 F F'->D.nx σ' H')->(∀v F' H',Fin E F' H'->R.ok E F' H' v->D.rt v H')->t D Z H
section
variable[Xw]
variable{K:ZKG}{tb:TE}{k:PV->Prop}{R:Ae}
theorem Sv.mv(h:Sv ss Z F H v tp xs)(m:Mv E ss Z F H F' H'):Sv ss Z F' H' v tp xs:=by
 cases tp with
 |true=>exact Rep.mono m.ff h
 |false=>
  obtain⟨l,vs,e,n,r,q⟩:=h;exact⟨l,vs,e,n,m.hh l _ n r,q.mono m.ff⟩
theorem Sv.seq(S:Sg E ss Z F H)(h:Sv ss Z F H v tp xs):∃l vs,v=.ref l/\H l=some (BI tp vs)/\Aa F vs xs:=by
 cases tp with
 |true=>cases h with|tup e r=>exact⟨_,_,rfl,S.fh _ _ e,r⟩
 |false=>obtain⟨l,vs,e,_,r,q⟩:=h;exact⟨l,vs,e,r,q⟩
theorem Fv.sv(S:Sg E ss Z F H)(h:Fv E F v tp xs):Sv ss Z F H v tp xs:=by
 cases tp with
 |true=>exact h
 |false=>
  obtain⟨l,vs,e,h1|⟨a,h1⟩,r⟩:=h
  .exact⟨l,vs,e,S.lP h1,S.fh _ _ h1,r⟩
  .exact⟨l,vs,e,S.gb a.1 h1,S.keep _ _ a h1,r⟩
theorem AL(h:ss[i]?=some (.is p))(b:k p):Wp ss (BJ i) k:=⟨λE Z F H Q S q=>by
 obtain⟨v,a,r⟩:=S.ok i _ h;exact⟨v,a,q v p F H (.refl S) r b⟩⟩
theorem CY{i:Int}(a:k (.int i)):Wp ss (tC (.int i)) k:=⟨λE Z F H Q S q=>q _ _ F H (.refl S) (.int i) a⟩
theorem Eg{x:Str}(a:k (.str x)):Wp ss (tC (.str x)) k:=⟨λE Z F H Q S q=>q _ _ F H (.refl S) (.str x) a⟩
theorem yR(a:k (.bl b)):Wp ss (tC (.bl b)) k:=⟨λE Z F H Q S q=>q _ _ F H (.refl S) (.bl b) a⟩
theorem DT(h:Wn ss te (λxs=>k (.lst xs))):Wp ss te k:=⟨λE Z F H Q S q=>h.go E Z F H Q S λl vs xs F' H' m c f ER r kk=>by
 have b:=m.st;have A:Mv E ss Z F H (upd F' l (.lst vs)) H':=by
  have B:∀a,H' a≠none->a≠l->F' a=none->upd F' l (.lst vs) a=none:=λa _ h1 h2=>by rw[Ah h1];exact h2
  refine⟨⟨⟨λa u e=>?_,b.f0.trans (Ab c _),b.keep,λa u e=>?_,b.Eo,λa z=>?_,b.a0,λa y=>?_,b.bH,b.b0⟩,b.len,λi s hi=>?_,b.Bi⟩,m.ff.trans (Ab c _),m.hh,λa u e=>?_⟩
  .by_cases q:a=l
   .subst q;rw[AJ]at e;rw[<- e];exact ER
   .rw[Ah q]at e;exact b.fh a u e
  .by_cases q:a=l
   .subst q;exact .inr (S.EU f)
   .rw[Ah q]at e;exact b.fresh a u e
  .by_cases q:a=l
   .subst q;obtain⟨_,_,e,_⟩:=S.Eo _ z;rw[f]at e;cases e
   .rw[Ah q];exact b.Mm a z
  .by_cases q:a=l
   .subst q;exact absurd f (S.bH _ y)
   .rw[Ah q];exact b.bF a y
  .have x:∀a,BO s Z[i]? a->a≠l:=by
    rintro a m rfl;exact S.Sk hi f m
   have kk:=b.ok i s hi;cases s with
   |any=>trivial
   |is p=>obtain⟨v,e,r⟩:=kk;exact⟨v,e,r.mono (Ab c _)⟩
   |own ys=>
    obtain⟨d,ws,e,j,g,w,r⟩:=kk;exact⟨d,ws,e,by rw[Ah (x d e)];exact j,g,w,r.mono (Ab c _)⟩
   |AD=>
    obtain⟨d,e,j,g,w⟩:=kk;exact⟨d,e,by rw[Ah (x d e)];exact j,g,w⟩
   |sq tp ys=>
    cases tp with
    |true=>obtain⟨v,e,r⟩:=kk;exact⟨v,e,r.mono (Ab c _)⟩
    |false=>obtain⟨d,ws,e,j,g,r⟩:=kk;exact⟨d,ws,e,j,g,r.mono (Ab c _)⟩
   |raw P=>obtain⟨v,e,r,st⟩:=kk;exact⟨v,e,st _ _ (Ab c _) r,st⟩
   |ow lt t=>
    obtain⟨v,e,r,nd,q⟩:=kk;exact⟨v,e,r.mono (Ab c _) λa _ o h=>h,nd,λa n=>⟨by rw[Ah (x a n)];exact(q a n).1,(q a n).2⟩⟩
  .by_cases q:a=l
   .subst q;exact .inr f
   .rw[Ah q]at e;exact m.nn a u e
 exact q _ _ _ _ A (.lst AJ (r.mono (Ab c _))) kk⟩
theorem BS{k:Bool->List PV->Prop}(h:Wp ss te (λp=>∃xs,(p=.lst xs/\k false xs)∨(p=.tup xs/\k true xs))):Wq ss te k:=⟨λE Z F H Q S q=>h.go E Z F H Q S λv p F' H' m r AO=>by
 obtain⟨xs,h⟩:=AO;rcases h with⟨rfl,kk⟩|⟨rfl,kk⟩
 .cases r with|lst h r=>exact q _ false xs F' H' m ⟨_,_,rfl,m.st.lP h,m.st.fh _ _ h,r⟩ kk
 .exact q v true xs F' H' m r kk⟩
theorem Gz{k:Bool->List PV->Prop}(h:ss[i]?=some (.is (.lst xs)))(a:k false xs):Wq ss (BJ i) k:=BS (AL h ⟨xs,.inl ⟨rfl,a⟩⟩)
theorem DE{k:Bool->List PV->Prop}(h:ss[i]?=some (.is (.tup xs)))(a:k true xs):Wq ss (BJ i) k:=BS (AL h ⟨xs,.inr ⟨rfl,a⟩⟩)
theorem kT{k:Bool->List PV->Prop}(h:ss[i]?=some (.own xs))(a:k false xs):Wq ss (BJ i) k:=⟨λE Z F H Q S q=>by
 obtain⟨l,vs,e,d,c,b,r⟩:=S.ok i _ h;exact⟨_,e,q _ false xs F H (.refl S) ⟨l,vs,rfl,S.OW h e (by simp),b,r⟩ a⟩⟩
theorem jP{k:Bool->List PV->Prop}(h:ss[i]?=some (.sq tp xs))(a:k tp xs):Wz ss (BJ i) k:=⟨λE Z F H Q S q=>by
 have kk:=S.ok i _ h;cases tp with
 |true=>obtain⟨v,e,r⟩:=kk;exact⟨_,e,q _ true xs F H (.refl S) r a⟩
 |false=>
  obtain⟨l,vs,e,b,c,r⟩:=kk;exact⟨_,e,q _ false xs F H (.refl S) ⟨l,vs,rfl,.inr ⟨b,c⟩,r⟩ a⟩⟩
theorem Hc{k:Bool->List PV->Prop}(h:Wp ss te (λp=>∃xs,(p=.lst xs/\k false xs)∨(p=.tup xs/\k true xs))):Wz ss te k:=⟨λE Z F H Q S q=>h.go E Z F H Q S λv p F' H' m r AO=>by
 obtain⟨xs,h⟩:=AO;rcases h with⟨rfl,kk⟩|⟨rfl,kk⟩
 .cases r with|lst h r=>exact q _ false xs F' H' m ⟨_,_,rfl,.inl h,r⟩ kk
 .exact q _ true xs F' H' m r kk⟩
theorem yY{k:Bool->List PV->Prop}(h:Wz ss te k):Wq ss te k:=⟨λE Z F H Q S q=>h.go E Z F H Q S λv tp xs F' H' m f kk=>q v tp xs F' H' m (f.sv m.st) kk⟩
theorem ZGv{k:Bool->List PV->Prop}(h:ss[i]?=some (.sq tp xs))(a:k tp xs):Wq ss (BJ i) k:=yY (jP h a)
theorem ZDE{C:Int->Int->Prop}(h:Wp ss ta λx=>∃i,x=.int i/\Wp ss tb λy=>∃j,y=.int j/\C i j/\k (.int (f i j))):Wp ss (By (rI C λi j=>.int (f i j)) ta tb) k:=⟨λE Z F H Q S q=>
 h.go E Z F H _ S λv p F1 H1 a d AO=>by
  obtain⟨i,g,h2⟩:=AO;subst g;cases d.inv;exact h2.go E Z F1 H1 _ a.st λv2 p2 F2 H2 m2 b Ds=>by
   obtain⟨j,e,c,kk⟩:=Ds;subst e;cases b.inv;exact⟨i,j,rfl,rfl,c,q _ _ F2 H2 (a.trans m2) (.int _) kk⟩⟩
theorem UN(h:Wp ss ta λx=>∃i,x=.int i/\Wp ss tb λy=>∃j,y=.int j/\k (.int (f i j))):Wp ss (By (Gv λi j=>.int (f i j)) ta tb) k:=⟨λE Z F H Q S q=>
 h.go E Z F H _ S λv p F1 H1 a c AO=>by
  obtain⟨i,e,h2⟩:=AO;subst e;cases c.inv;exact h2.go E Z F1 H1 _ a.st λv2 p2 F2 H2 m2 b Ds=>by
   obtain⟨j,d,kk⟩:=Ds;subst d;cases b.inv;exact⟨i,j,rfl,rfl,q _ _ F2 H2 (a.trans m2) (.int _) kk⟩⟩
theorem Ut{f:Int->Int->Bool}(h:Wp ss ta λx=>∃i,x=.int i/\Wp ss tb λy=>∃j,y=.int j/\k (.bl (f i j))):Wp ss (By (Gv λi j=>.bl (f i j)) ta tb) k:=⟨λE Z F H Q S q=>
 h.go E Z F H _ S λv p F1 H1 a c AO=>by
  obtain⟨i,e,h2⟩:=AO;subst e;cases c.inv;exact h2.go E Z F1 H1 _ a.st λv2 p2 F2 H2 m2 b Ds=>by
   obtain⟨j,d,kk⟩:=Ds;subst d;cases b.inv;exact⟨i,j,rfl,rfl,q _ _ F2 H2 (a.trans m2) (.bl _) kk⟩⟩
noncomputable def alike:PV->PV->Bool
 | .int i,.int j=>decide (i=j)
 | .str i,.str j=>decide (i=j)
 | .bl i,.bl j=>decide (i=j)
 | .AG,.AG=>true
 |_,_=>false
def JN(p q:PV):Bool:=flat p && flat q && SR (Fz.enc p) (Fz.enc q)
theorem Y9{q:PV}(h:JN p q=true):decide (Fz.enc p=Fz.enc q)=alike p q:=by
 unfold JN at h;rw[Eb,Eb]at h;obtain⟨⟨h1,h2⟩,a⟩:=h;cases p <;> first|exact Bool.noConfusion h1|skip
 all_goals cases q <;> first|exact Bool.noConfusion h2|exact Bool.noConfusion a|rfl|exact decide_eq_decide.mpr ⟨λe=>by injection e,xU _⟩
theorem jj(h:Wp ss ta λx=>Wp ss tb λy=>JN x y=true/\k (.bl (alike x y))):Wp ss (By Zk ta tb) k:=⟨λE Z F H Q S q=>
 h.go E Z F H _ S λv p F1 H1 a c h2=>h2.go E Z F1 H1 _ a.st λv2 p2 F2 H2 m2 b AO=>by
  obtain⟨sc,kk⟩:=AO;have d:=sc;unfold JN at sc;rw[Eb,Eb]at sc;rw[c.enc sc.1.1,b.enc sc.1.2];refine⟨sc.2,?_⟩;rw[Y9 d];exact q _ _ F2 H2 (a.trans m2) (.bl _) kk⟩
theorem df(h:Wp ss ta λx=>Wp ss tb λy=>JN x y=true/\k (.bl (!alike x y))):Wp ss (By fY ta tb) k:=⟨λE Z F H Q S q=>
 h.go E Z F H _ S λv p F1 H1 a c h2=>h2.go E Z F1 H1 _ a.st λv2 p2 F2 H2 m2 b AO=>by
  obtain⟨sc,kk⟩:=AO;have d:=sc;unfold JN at sc;rw[Eb,Eb]at sc;rw[c.enc sc.1.1,b.enc sc.1.2];refine⟨sc.2,?_⟩;rw[Y9 d];exact q _ _ F2 H2 (a.trans m2) (.bl _) kk⟩
theorem N0(h:Wp ss ta λx=>∃c,x=.bl c/\if c=true then Wp ss tb k else k (.bl false)):Wp ss (Ue ta tb) k:=⟨λE Z F H Q S q=>
 h.go E Z F H _ S λv p F1 H1 a d AO=>by
  obtain⟨c,e,h2⟩:=AO;subst e;cases d.inv;refine⟨c,rfl,?_⟩;cases c with
  |true=>rw[tU rfl]at h2 ⊢;exact h2.go E Z F1 H1 _ a.st λv2 p2 F2 H2 m2 b kk=>q _ _ F2 H2 (a.trans m2) b kk
  |false=>rw[tJ (by decide)]at h2 ⊢;exact q _ _ F1 H1 a (.bl _) h2⟩
theorem jD(h:Wp ss ta λx=>∃c,x=.bl c/\k (.bl (!c))):Wp ss (aV ta) k:=⟨λE Z F H Q S q=>
 h.go E Z F H _ S λv p F1 H1 b a AO=>by obtain⟨c,e,kk⟩:=AO;subst e;cases a.inv;exact⟨c,rfl,q _ _ F1 H1 b (.bl _) kk⟩⟩
theorem u6{f g:Int->Int->Bool}(h:Wp ss ta λx=>∃i,x=.int i/\Wp ss tb λy=>∃j,y=.int j/\if f i j=true then Wp ss tc (λz=>∃l,z=.int l/\k (.bl (g j l)))else k (.bl false)):
  Wp ss (OX (Gv λi j=>.bl (f i j)) (Gv λi j=>.bl (g i j)) ta tb tc) k:=⟨λE Z F H Q S q=>
 h.go E Z F H _ S λv p F1 H1 b m AO=>by
  obtain⟨i,s,h2⟩:=AO;subst s;cases m.inv;exact h2.go E Z F1 H1 _ b.st λv2 p2 F2 H2 m2 e Ds=>by
   obtain⟨j,r,a⟩:=Ds;subst r;cases e.inv;refine⟨i,j,rfl,rfl,f i j,rfl,?_⟩;cases c:f i j with
   |true=>
    rw[c,tU rfl]at a;rw[tU rfl];exact a.go E Z F2 H2 _ m2.st λt u F3 H3 n d W3=>by
     obtain⟨l,o,kk⟩:=W3;subst o;cases d.inv;exact⟨j,l,rfl,rfl,q _ _ F3 H3 (b.trans (m2.trans n)) (.bl _) kk⟩
   |false=>
    rw[c,tJ (by decide)]at a;rw[tJ (by decide)];exact q _ _ F2 H2 (b.trans m2) (.bl _) a⟩
theorem Lc{k:Bool->Prop}(h:Wp ss te λx=>∃c,x=.bl c/\k c):Wt ss (NV te) k:=⟨λE Z F H Q S q=>
 h.go E Z F H _ S λv p F1 H1 b a AO=>by obtain⟨c,e,kk⟩:=AO;subst e;cases a.inv;exact⟨c,rfl,q _ F1 H1 b kk⟩⟩
theorem Dg{k:Bool->Prop}(h:Wp ss te λx=>∃c,x=.bl c/\k c):Wt ss (tB te) k:=⟨λE Z F H Q S q=>
 h.go E Z F H _ S λv p F1 H1 b a AO=>by obtain⟨c,e,kk⟩:=AO;subst e;cases a.inv;exact⟨c,rfl,q _ F1 H1 b kk⟩⟩
theorem SG{k:Bool->Prop}(h:k true):Wt ss Md k:=⟨λE Z F H Q S q=>q _ F H (.refl S) h⟩
theorem Dz{t:TT}{k:Bool->Prop}(h:Wt ss t λc=>k (!c)):Wt ss (TH t) k:=⟨λE Z F H Q S q=>h.go E Z F H _ S λc F1 H1 a kk=>q _ F1 H1 a kk⟩
theorem dU{t u:TT}{k:Bool->Prop}(h:Wt ss t λc=>if c=true then Wt ss u k else k false):Wt ss (YS t u) k:=⟨λE Z F H Q S q=>
 h.go E Z F H _ S λc F1 H1 a h2=>by
  show if c=true then _ else _
  cases c with
  |true=>rw[tU rfl]at h2 ⊢;exact h2.go E Z F1 H1 _ a.st λb F2 H2 m2 kk=>q _ F2 H2 (a.trans m2) kk
  |false=>rw[tJ (by decide)]at h2 ⊢;exact q _ F1 H1 a h2⟩
theorem GL{t u:TT}{k:Bool->Prop}(h:Wt ss t λc=>if c=true then k true else Wt ss u k):Wt ss (RF t u) k:=⟨λE Z F H Q S q=>
 h.go E Z F H _ S λc F1 H1 a h2=>by
  show if c=true then _ else _
  cases c with
  |true=>rw[tU rfl]at h2 ⊢;exact q _ F1 H1 a h2
  |false=>rw[tJ (by decide)]at h2 ⊢;exact h2.go E Z F1 H1 _ a.st λb F2 H2 m2 kk=>q _ F2 H2 (a.trans m2) kk⟩
end
structure We [Xw] (ss:List Slot) (t:TA) (k:List PV->Prop):Prop where
 go:∀(E:Ent)(Z:L2.St)(F H:Hp)(Q:List V->Hp->Prop),Sg E ss Z F H->(∀vs ps F' H',Mv E ss Z F H F' H'->Aa F' vs ps->k ps->Q vs H')->t Z H Q
structure Wo [Xw] (ss:List Slot) (t:TO) (k:Option Int->Prop):Prop where
 go:∀(E:Ent)(Z:L2.St)(F H:Hp)(Q:Option Int->Hp->Prop),Sg E ss Z F H->(∀o F' H',Mv E ss Z F H F' H'->k o->Q o H')->t Z H Q
section
variable[Xw]
variable{K:ZKG}{tb:TE}{k:PV->Prop}{R:Ae}
theorem JK{k:List PV->Prop}(h:k []):We ss B4 k:=⟨λE Z F H Q S q=>q _ _ F H (.refl S) .nil h⟩
theorem HY{k:List PV->Prop}(h:Wp ss te λp=>We ss t λps=>k (p::ps)):We ss (AX te t) k:=⟨λE Z F H Q S q=>
 h.go E Z F H _ S λv p F1 H1 a c h2=>h2.go E Z F1 H1 _ a.st λvs ps F2 H2 m2 b kk=>q _ _ F2 H2 (a.trans m2) (.cons (c.mono m2.ff) b) kk⟩
theorem Bc{k:List Slot->Prop}(h:k []):Wa ss B4 k:=⟨λE Z F H Q S q=>q _ _ F H (.refl S) .nil h⟩
theorem BR{k:List Slot->Prop}(h:Wp ss te λp=>Wa ss t λl=>k (.is p::l)):Wa ss (AX te t) k:=⟨λE Z F H Q S q=>
 h.go E Z F H _ S λv p F1 H1 a c h2=>h2.go E Z F1 H1 _ a.st λvs l F2 H2 m2 b kk=>q _ _ F2 H2 (a.trans m2) (.cons (s:=.is p) (c.mono m2.ff) b) kk⟩
theorem GN{k:List Slot->Prop}(h:Wq ss te λtp xs=>Wa ss t λl=>k (.sq tp xs::l)):Wa ss (AX te t) k:=⟨λE Z F H Q S q=>
 h.go E Z F H _ S λv tp xs F1 H1 a c h2=>h2.go E Z F1 H1 _ a.st λvs l F2 H2 m2 b kk=>q _ _ F2 H2 (a.trans m2) (.cons (s:=.sq tp xs) (c.mv m2) b) kk⟩
theorem Xd{k:Option Int->Prop}(h:k none):Wo ss Zu k:=⟨λE Z F H Q S q=>q _ F H (.refl S) h⟩
theorem XF{k:Option Int->Prop}(h:Wp ss te λp=>∃i,p=.int i/\k (some i)):Wo ss (aM te) k:=⟨λE Z F H Q S q=>
 h.go E Z F H _ S λv p F1 H1 b a AO=>by obtain⟨i,e,kk⟩:=AO;subst e;cases a.inv;exact⟨i,rfl,q _ F1 H1 b kk⟩⟩
theorem Mf{n:Nat}(h:n<=99999):n<sizeLine:=Du (Nat.lt_succ_of_le h) (small (Am 100000))
theorem Kh(h:We ss t λps=>ps.length<=100000/\k (.tup ps)):Wp ss (QC t) k:=⟨λE Z F H Q S q=>
 h.go E Z F H _ S λvs ps F1 H1 c b AO=>by obtain⟨d,kk⟩:=AO;exact⟨small (by rw[b.length];exact d),λa e=>by
  have m2:=c.st.alloc e (.tup vs);exact q _ _ _ _ (c.trans m2) (.tup AJ (b.mono m2.ff)) kk⟩⟩
theorem eW{k:List PV->Prop}(h:We ss t λps=>ps.length<=100000/\k ps):Wn ss (Sr t) k:=⟨λE Z F H Q S q=>
 h.go E Z F H _ S λvs ps F1 H1 b d AO=>by obtain⟨f,kk⟩:=AO;exact⟨small (by rw[d.length];exact f),λa c=>by
  have m2:=b.st.make c (.lst vs);refine q a vs ps F1 _ (b.trans m2) (b.st.Bd c) ?_ AJ d kk;cases e:H a with
  |none=>rfl
  |some o=>rw[b.hh a o (b.st.Oh c) e]at c;cases c⟩⟩
theorem OL(h:Wq ss te λ_ xs=>k (.int xs.length)):Wp ss (DA (WZ K) (AX te B4)) k:=⟨λE Z F H Q S q=>
 h.go E Z F H _ S λv tp xs F1 H1 a sv kk=>by
  obtain⟨l,vs,rfl,b,r⟩:=sv.seq a.st;refine⟨l,vs,rfl,(BI.sq (K:=K) b).or,?_⟩;rw[r.length];exact q _ _ F1 H1 a (.int _) kk⟩
theorem Aa.Bf{i:Int}(r:Aa F vs xs)(h:L2.Bf xs i=some p):∃u,L2.Bf vs i=some u/\Rep F u p:=by
 unfold L2.Bf at h ⊢;rw[r.length];cases e:Ip xs.length i with
 |none=>rw[e]at h;cases h
 |some j=>
  rw[e]at h;exact r.get h
theorem gT(h:Wq ss ta λtp xs=>tp=false/\Wp ss tb λy=>∃i p,y=.int i/\L2.Bf xs i=some p/\k p):Wp ss (By (JO K) ta tb) k:=⟨λE Z F H Q S q=>
 h.go E Z F H _ S λv tp xs F1 H1 a sv⟨g,h2⟩=>h2.go E Z F1 H1 _ a.st λv2 p2 F2 H2 m2 c⟨i,p,e,f,kk⟩=>by
  subst e;cases c.inv;subst g;obtain⟨l,vs,rfl,d,r⟩:=(sv.mv m2).seq m2.st;obtain⟨u,hu,b⟩:=r.Bf f;exact⟨l,vs,i,u,rfl,rfl,AK.of d,hu,q _ _ F2 H2 (a.trans m2) b kk⟩⟩
theorem DJ(h:Wq ss ta λtp xs=>tp=true/\Wp ss tb λy=>∃i p,y=.int i/\L2.Bf xs i=some p/\k p):Wp ss (By (Ij K) ta tb) k:=⟨λE Z F H Q S q=>
 h.go E Z F H _ S λv tp xs F1 H1 a sv⟨g,h2⟩=>h2.go E Z F1 H1 _ a.st λv2 p2 F2 H2 m2 c⟨i,p,e,f,kk⟩=>by
  subst e;cases c.inv;subst g;obtain⟨l,vs,rfl,d,r⟩:=(sv.mv m2).seq m2.st;obtain⟨u,hu,b⟩:=r.Bf f;exact⟨l,vs,i,u,rfl,rfl,AE.of d,hu,q _ _ F2 H2 (a.trans m2) b kk⟩⟩
theorem dE(h:Wp ss ta λp=>∃x,p=.str x/\Wq ss tb λ_ ys=>∃ns:List Str,ys=ns.map PV.str/\k (.bl (if neg then !decide (x∈ns)else decide (x∈ns)))):Wp ss (By (Et K neg) ta tb) k:=⟨λE Z F H Q S q=>
 h.go E Z F H _ S λv p F1 H1 a c AO=>by
  obtain⟨x,e,h2⟩:=AO;subst e;cases c.inv;exact h2.go E Z F1 H1 _ a.st λv2 tp ys F2 H2 m2 sv Ds=>by
   obtain⟨ns,d,kk⟩:=Ds;subst d;obtain⟨l,vs,rfl,b,r⟩:=sv.seq m2.st;rw[r.strs]at b;refine⟨l,_,rfl,(BI.sq (K:=K) b).or,rfl,EX ns,?_⟩;rw[Jh];exact q _ _ F2 H2 (a.trans m2) (.bl _) kk⟩
theorem WD{k:List PV->Prop}(d:r=λxs H Q=>∃p ys,xs=[.ref p]/\(AK K H p ys∨AE K H p ys)/\∀l,H l=none->Q (.ref l) (upd H l (.lst ys)))(h:Wq ss te λ_ xs=>k xs):Wn ss (DA r (AX te B4)) k:=⟨λE Z F H Q S q=>
 h.go E Z F H _ S λv tp xs F1 H1 b sv kk=>by
  subst d;obtain⟨l,vs,rfl,e,r⟩:=sv.seq b.st;refine⟨l,vs,rfl,(BI.sq (K:=K) e).or,λa c=>?_⟩;have m2:=b.st.make c (.lst vs);exact q a vs xs F1 _ (b.trans m2) (b.st.Bd c) (b.none c) AJ r kk⟩
theorem ZAz(c:r=λxs H Q=>∃p ys,xs=[.ref p]/\((AK K H p ys/\∀l,H l=none->Q (.ref l) (upd H l (.tup ys)))∨(AE K H p ys/\Q (.ref p) H)))(h:Wq ss te λ_ xs=>k (.tup xs)):Wp ss (DA r (AX te B4)) k:=⟨λE Z F H Q S q=>
 h.go E Z F H _ S λv tp xs F1 H1 b sv kk=>by
  subst c;cases tp with
  |false=>
   obtain⟨l,vs,rfl,d,r⟩:=sv.seq b.st;refine⟨l,vs,rfl,.inl ⟨AK.of d,λa f=>?_⟩⟩;have m2:=b.st.alloc f (.tup vs);exact q _ _ _ _ (b.trans m2) (.tup AJ (r.mono m2.ff)) kk
  |true=>
   have g:Rep F1 v (.tup xs):=sv;cases g with
   |tup e r=>exact⟨_,_,rfl,.inr ⟨AE.of (b.st.fh _ _ e),q _ _ F1 H1 b (.tup e r) kk⟩⟩⟩
theorem iD{k:List PV->Prop}(h:Wq ss ta λtp xs=>tp=false/\Wq ss tb λBV ys=>BV=false/\xs.length+ys.length<=100000/\k (xs++ys)):Wn ss (By jA ta tb) k:=⟨λE Z F H Q S q=>
 h.go E Z F H _ S λv tp xs F1 H1 b sv⟨j,h2⟩=>h2.go E Z F1 H1 _ b.st λv2 BV ys F2 H2 m2 Vj⟨d,g,kk⟩=>by
  subst j;subst d;obtain⟨l,vs,rfl,i,r⟩:=(sv.mv m2).seq m2.st;obtain⟨l2,MS,rfl,Ck,e⟩:=Vj.seq m2.st;refine⟨l,l2,vs,MS,rfl,rfl,i,Ck,small (by rw[r.length,e.length];exact g),λa c=>?_⟩;have f:=m2.st.make c (.lst (vs++MS));exact q a _ _ F2 _ (b.trans (m2.trans f)) (m2.st.Bd c) ((b.trans m2).none c) AJ (r.append e) kk⟩
def EG{α:Type}(xs:List α)(lo hi:Option Int):List α:=(xs.drop (HT.As xs.length 0 lo)).take (HT.As xs.length xs.length hi - HT.As xs.length 0 lo)
theorem Aa.cut(r:Aa F vs xs)(lo hi:Option Int):Aa F (CL vs lo hi) (EG xs lo hi):=by
 unfold CL EG;rw[r.length];exact(r.drop _).take _
theorem Yu{k:List PV->Prop}(h:Wq ss te λtp xs=>tp=false/\Wo ss tl λlo=>Wo ss th λhi=>k (EG xs lo hi)):Wn ss (O5 (Ve K) te tl th) k:=⟨λE Z F H Q S q=>
 h.go E Z F H _ S λv tp xs F1 H1 c sv⟨g,h2⟩=>h2.go E Z F1 H1 _ c.st λlo F2 H2 m2 f=>f.go E Z F2 H2 _ m2.st λhi F3 H3 b kk=>by
  subst g;obtain⟨l,vs,rfl,e,r⟩:=(sv.mv (m2.trans b)).seq b.st;refine⟨l,vs,rfl,AK.of e,λa d=>?_⟩;have m4:=b.st.make d (.lst (CL vs lo hi));exact q a _ _ F3 _ (c.trans (m2.trans (b.trans m4))) (b.st.Bd d) ((c.trans (m2.trans b)).none d) AJ (r.cut lo hi) kk⟩
def aU(tp:Bool)(xs:List PV):PV:=if tp then .tup xs else .lst xs
def Um(K:ZKG):V->Option Int->Option Int->Hp->VK->Prop:=λx lo hi H Q=>Ve K x lo hi H Q∨c8 K x lo hi H Q
theorem Nh{X:Cx}:Jp X (Um X.K):=by
 intro Zh s Z H x v vl vu lo hi sl Q I a hs pl b h;rcases h with h|h
 .exact IM Zh s Z H x v vl vu lo hi sl Q I a hs pl b h
 .exact dz Zh s Z H x v vl vu lo hi sl Q I a hs pl b h
theorem YC(h:Wq ss te λtp xs=>Wo ss tl λlo=>Wo ss th λhi=>k (aU tp (EG xs lo hi))):Wp ss (O5 (Um K) te tl th) k:=⟨λE Z F H Q S q=>
 h.go E Z F H _ S λv tp xs F1 H1 g sv h2=>h2.go E Z F1 H1 _ g.st λlo F2 H2 m2 m=>m.go E Z F2 H2 _ m2.st λhi F3 H3 b kk=>by
  have f:=sv.mv (m2.trans b);have d:=g.trans (m2.trans b);cases tp with
  |false=>
   obtain⟨l,vs,rfl,j,r⟩:=f.seq b.st;refine .inl ⟨l,vs,rfl,AK.of j,λa c=>?_⟩;have m4:=b.st.alloc c (.lst (CL vs lo hi));exact q _ _ _ _ (d.trans m4) (.lst AJ ((r.cut lo hi).mono m4.ff)) kk
  |true=>
   have o:Rep F3 v (.tup xs):=f;cases o with
   |@tup _ vs _ e r=>
    refine .inr ⟨_,vs,rfl,AE.of (b.st.fh _ _ e),λhw=>?_,λhw a c=>?_⟩
    .have n:EG xs lo hi=xs:=by
      rw[r.length]at hw;unfold EG;rw[hw.1,hw.2];simp
     refine q _ _ F3 H3 d (.tup e r) ?_;have i:=kk;rw[n]at i;exact i
    .have m4:=b.st.alloc c (.tup (CL vs lo hi));exact q _ _ _ _ (d.trans m4) (.tup AJ ((r.cut lo hi).mono m4.ff)) kk⟩
theorem yz{k:List PV->Prop}(h:Wq ss te λ_ xs=>∃ns:List Str,xs=ns.map PV.str/\ns.length<64/\∀BC:List Str,BC.Perm ns->sortedS BC=true->k (BC.map PV.str)):Wn ss (DA (ir K) (AX te B4)) k:=⟨λE Z F H Q S q=>
 h.go E Z F H _ S λv tp xs F1 H1 b sv AO=>by
  obtain⟨ns,e,f,kk⟩:=AO;subst e;obtain⟨l,vs,rfl,d,r⟩:=sv.seq b.st;rw[r.strs]at d;refine⟨l,tp,ns,rfl,BI.sq d,f,λa BC c hp hs=>?_⟩;have m2:=b.st.make c (.lst (BC.map V.str));exact q a _ _ F1 _ (b.trans m2) (b.st.Bd c) (b.none c) AJ (Kk BC) (kk BC hp hs)⟩
theorem v8(xs ys:List Str):EV (xs.map V.str) (ys.map V.str)=decide (xs=ys):=by
 by_cases h:xs=ys
 .subst h;rw[yT,rD rfl]
 .rw[uB h]
  by_cases a:xs.length=ys.length
  .rw[Kx (by simpa using a)]
   cases c:(List.range (xs.map V.str).length).all λj=>EM ((xs.map V.str).getD j .AG) ((ys.map V.str).getD j .AG)with
   |false=>rfl
   |true=>
    exfalso;apply h;apply oO a;intro j h1 h2;have q:=List.all_eq_true.mp c j (List.mem_range.mpr (by simpa using h1))
    have e:(xs.map V.str)[j]?=some (.str xs[j]):=by rw[B1,B9 h1];rfl
    have d:(ys.map V.str)[j]?=some (.str ys[j]):=by rw[B1,B9 h2];rfl
    rw[Kn e,Kn d]at q;have b:(xs[j] == ys[j])=true:=q
    simpa using b
  .rw[L4 (by simpa using a)]
theorem lD(h:Wq ss ta λtp xs=>∃ns:List Str,xs=ns.map PV.str/\Wq ss tb λBV ys=>BV=tp/\∃ms:List Str,ys=ms.map PV.str/\k (.bl (if neg then !decide (ns=ms)else decide (ns=ms)))):Wp ss (By (ON K neg) ta tb) k:=⟨λE Z F H Q S q=>
 h.go E Z F H _ S λv tp xs F1 H1 a sv⟨ns,f,h2⟩=>h2.go E Z F1 H1 _ a.st λv2 BV ys F2 H2 m2 Vj⟨d,ms,e,kk⟩=>by
  subst f;subst e;subst d;obtain⟨l,vs,rfl,b,r⟩:=(sv.mv m2).seq m2.st;obtain⟨l2,MS,rfl,Ck,c⟩:=Vj.seq m2.st;rw[r.strs]at b;rw[c.strs]at Ck;refine⟨l,l2,ns.map V.str,ms.map V.str,rfl,rfl,?_,EX _,EX _,?_⟩
  .cases BV
   .exact .inl ⟨AK.of b,AK.of Ck⟩
   .exact .inr ⟨AE.of b,AE.of Ck⟩
  .rw[v8];cases neg
   .exact q _ _ F2 H2 (a.trans m2) (.bl _) kk
   .exact q _ _ F2 H2 (a.trans m2) (.bl _) kk⟩
theorem Qb(c:r=λxs H Q=>∃(p:Addr)(bs:List Bool),xs=[.ref p]/\AK K H p (bs.map V.bl)/\Q (.bl (bs.all id)) H)(h:Wq ss te λtp xs=>tp=false/\∃bs:List Bool,xs=bs.map PV.bl/\k (.bl (bs.all id))):Wp ss (DA r (AX te B4)) k:=⟨λE Z F H Q S q=>
 h.go E Z F H _ S λv tp xs F1 H1 a sv AO=>by
  obtain⟨d,bs,e,kk⟩:=AO;subst c;subst e;subst d;obtain⟨l,vs,rfl,b,r⟩:=sv.seq a.st;rw[r.bls]at b;exact⟨l,bs,rfl,AK.of b,q _ _ F1 H1 a (.bl _) kk⟩⟩
noncomputable def tyP:PV->String
 | .AG => "NoneType"
 | .bl _ => "bool"
 | .int _ => "int"
 | .str _ => "str"
 | .lst _ => "list"
 | .tup _ => "tuple"
 | .B0 _ _ => "dict"
 |_ => ""
def LJ:PV->Value
 | .obj _ _ _=>.none
 | .exc _ _ _=>.none
 | .con _ _=>.none
 |p=>.type (tyP p)
theorem UB(h:PySem.W.kitOne K .none (.type n)=some b):False:=by
 unfold PySem.W.kitOne PySem.W.kitCls PySem.W.subIn at h;simp at h
theorem Rep.r6(s:A9 F H)(r:Rep F v p)(a:PySem.W.kitOne K (LJ p) (.type n)=some b):FZ K H v (LJ p):=by
 cases r with
 |AG=>exact .AG
 |bl b=>exact .bl b
 |int i=>exact .int i
 |str x=>exact .str x
 |lst h _=>exact .lst (s _ _ h)
 |tup h _=>exact .tup (s _ _ h)
 |B0 h _ _=>exact .dK (s _ _ h)
 |obj _ _ _ _=>exact(UB a).elim
 |SW _=>exact(UB a).elim
 |con=>exact(UB a).elim
 |exc _ _ _ _=>exact(UB a).elim
theorem Il(h:Wp ss te λp=>∃b,PySem.W.kitOne K (LJ p) (.type n)=some b/\k (.bl b)):Wp ss (DA (R9 K) (AX te (AX (tC (.ty n)) B4))) k:=⟨λE Z F H Q S q=>
 h.go E Z F H _ S λv p F1 H1 a r AO=>by obtain⟨b,c,kk⟩:=AO;exact⟨v,n,_,b,rfl,r.r6 a.st.fh c,c,q _ _ F1 H1 a (.bl _) kk⟩⟩
theorem ZEx(h:Wq ss te λtp xs=>∃b,PySem.W.kitOne K (.type (tyP (aU tp xs))) (.type n)=some b/\k (.bl b)):Wp ss (DA (R9 K) (AX te (AX (tC (.ty n)) B4))) k:=⟨λE Z F H Q S q=>
 h.go E Z F H _ S λv tp xs F1 H1 a sv AO=>by
  obtain⟨b,d,kk⟩:=AO;obtain⟨l,vs,rfl,c,r⟩:=sv.seq a.st;refine⟨_,n,_,b,rfl,?_,d,q _ _ F1 H1 a (.bl _) kk⟩;cases tp
  .exact .lst c
  .exact .tup c⟩
theorem yX(d:r=λxs H Q=>∃i j,xs=[.int i,.int j]/\Q (.int (if j > i then j else i)) H)(h:Wp ss ta λx=>∃i,x=.int i/\Wp ss tb λy=>∃j,y=.int j/\k (.int (if j > i then j else i))):Wp ss (DA r (AX ta (AX tb B4))) k:=⟨λE Z F H Q S q=>
 h.go E Z F H _ S λv p F1 H1 a c AO=>by
  obtain⟨i,f,h2⟩:=AO;subst d;subst f;cases c.inv;exact h2.go E Z F1 H1 _ a.st λv2 p2 F2 H2 m2 b Ds=>by
   obtain⟨j,e,kk⟩:=Ds;subst e;cases b.inv;exact⟨i,j,rfl,q _ _ F2 H2 (a.trans m2) (.int _) kk⟩⟩
theorem ZH3(d:r=λxs H Q=>∃i j,xs=[.int i,.int j]/\Q (.int (if j<i then j else i)) H)(h:Wp ss ta λx=>∃i,x=.int i/\Wp ss tb λy=>∃j,y=.int j/\k (.int (if j<i then j else i))):Wp ss (DA r (AX ta (AX tb B4))) k:=⟨λE Z F H Q S q=>
 h.go E Z F H _ S λv p F1 H1 a c AO=>by
  obtain⟨i,f,h2⟩:=AO;subst d;subst f;cases c.inv;exact h2.go E Z F1 H1 _ a.st λv2 p2 F2 H2 m2 b Ds=>by
   obtain⟨j,e,kk⟩:=Ds;subst e;cases b.inv;exact⟨i,j,rfl,q _ _ F2 H2 (a.trans m2) (.int _) kk⟩⟩
end
structure Src (E:Ent0) (F1:Hp) (J:It) (xs:List PV):Prop where
 go:∀(ss:List Slot)(Z:L2.St)(F H:Hp)(i:Nat),A9 F1 F->Sg E ss Z F H->i<xs.length->J.go i H
 stop:∀(ss:List Slot)(Z:L2.St)(F H:Hp),A9 F1 F->Sg E ss Z F H->J.stop xs.length H
 GW:∀(ss:List Slot)(Z:L2.St)(F H:Hp)(i:Nat)(x:V)(H':Hp),A9 F1 F->Sg E ss Z F H->i<xs.length->J.GW i H x H'->∃p F',xs[i]?=some p/\Mv E ss Z F H F' H'/\Rep F' x p
structure Wi [Xw] (ss:List Slot) (wi:TI) (k:List PV->Prop):Prop where
 go:∀(E:Ent)(Z:L2.St)(F H:Hp)(R:It->Hp->Prop),Sg E ss Z F H->(∀J xs F' H',Mv E ss Z F H F' H'->Src E F' J xs->k xs->R J H')->wi Z H R
structure Wg [Xw] (ss:List Slot) (g:TG) (p:PV) (k:List Slot->Prop):Prop where
 go:∀(E:Ent)(Z:L2.St)(F H:Hp)(v:V)(Q:L2.St->Hp->Prop),Sg E ss Z F H->Rep F v p->(∀AH σ',k AH->Sg E AH σ' F H->Q σ' H)->g v Z H Q
section
variable[Xw]
variable{K:ZKG}{tb:TE}{k:PV->Prop}{R:Ae}
theorem mX(h:∀(ss:List Slot)(Z:L2.St)(F H:Hp),A9 F' F->Sg E ss Z F H->H l=some (BI tp vs))(r:Aa F' vs xs):Src E F' (Kb K tp l vs) xs where
 go:=λss Z F H i s S hi=>⟨BI.sq (h ss Z F H s S),by rw[r.length];exact hi⟩
 stop:=λss Z F H s S=>⟨BI.sq (h ss Z F H s S),by rw[r.length];exact Am _⟩
 GW:=λss Z F H i x H' s S hi y=>by
  obtain⟨e,hx⟩:=y;subst e;obtain⟨p,hp,a⟩:=r.get' hx;exact⟨p,F,hp,.refl S,a.mono s⟩
theorem KL{k:List PV->Prop}(h:Wz ss te λ_ xs=>k xs):Wi ss (Xn K te) k:=⟨λE Z F H R S q=>
 h.go E Z F H _ S λv tp xs F1 H1 a f kk=>by
  cases tp with
  |true=>
   have c:Rep F1 v (.tup xs):=f;cases c with
   |tup e r=>exact⟨true,_,_,rfl,AE.of (a.st.fh _ _ e),q _ _ F1 H1 a (mX (tp:=true) (λss Z F H s S=>S.fh _ _ (s _ _ e)) r) kk⟩
  |false=>
   obtain⟨l,vs,rfl,h1,r⟩:=f;have b:∀(ss:List Slot)(Z:L2.St)(F H:Hp),A9 F1 F->Sg E ss Z F H->H l=some (.lst vs):=λss Z F H s S=>by
    rcases h1 with h1|⟨hA,h1⟩
    .exact S.fh _ _ (s _ _ h1)
    .exact S.keep _ _ hA h1
   exact⟨false,l,vs,rfl,AK.of (b ss Z F1 H1 (A9.refl _) a.st),q _ _ F1 H1 a (mX (tp:=false) b r) kk⟩⟩
def LI(n:Nat):List PV:=(List.range n).map λi:Nat=>PV.int (i:Int)
theorem Le(n:Nat):(LI n).length=n:=by simp[LI]
theorem NL{n:Nat}(h:(LI n)[i]?=some p):i<n/\p=.int (i:Int):=by
 have hi:i<n:=by have:=(List.getElem?_eq_some_iff.mp h).1;rwa [Le]at this
 unfold LI at h;rw[B1,oU hi]at h;exact⟨hi,(BX h).symm⟩
theorem qI{k:List PV->Prop}(h:Wp ss te λp=>∃j:Int,p=.int j/\j<=1000000/\-1000000<=j/\k (LI j.toNat)):Wi ss (Vf (AX te B4)) k:=⟨λE Z F H R S q=>
 h.go E Z F H _ S λv p F1 H1 a r AO=>by
  obtain⟨j,e,h1,h2,kk⟩:=AO;subst e;cases r.inv;refine⟨j,rfl,by omega,by omega,q _ (LI j.toNat) F1 H1 a ⟨λss Z F H i s S hi=>?_,λss Z F H s S=>?_,λss Z F H i x H' s S hi y=>?_⟩ kk⟩
  .rw[Le]at hi;exact hi
  .show _<=_;rw[Le];exact Am _
  .obtain⟨e,hx⟩:=y;subst e;subst hx;rw[Le]at hi;refine⟨.int (i:Int),F,?_,.refl S,?_⟩
   .unfold LI;rw[B1,oU hi];rfl
   .rw[Int.zero_add];exact .int _⟩
theorem He{k:List Slot->Prop}(h:k (ss.set j (.is p))):Wg ss (ES j) p k:=⟨λE Z F H v Q S r q=>q _ _ h (S.Me r)⟩
theorem Lq{k:List Slot->Prop}(h:∃a b,p=.tup [a,b]/\k ((ss.set i (.is a)).set j (.is b))):Wg ss (XA K 2 (RH (ES i) (RH (ES j) X4))) p k:=⟨λE Z F H v Q S r q=>by
 obtain⟨a,b,rfl,kk⟩:=h;obtain⟨_,_,rfl,e,r⟩:=r.inv;obtain⟨_,_,rfl,d,r⟩:=r.inv;obtain⟨_,_,rfl,c,r⟩:=r.inv;obtain rfl:=r.Ea;exact⟨_,_,rfl,AE.of (S.fh _ _ e),rfl,_,_,rfl,_,_,rfl,rfl,q _ _ kk ((S.Me d).Me c)⟩⟩
theorem Aw{t:TS}(h:Ws ss t (λAH=>Ws AH u nx R) R):Ws ss (OY t u) nx R:=⟨λE D Z F H S hn a=>
 h.go E { D with nx:=u D } Z F H S (λAH σ' F' H' w S' s=>w.go E D σ' F' H' S' (λDf σ2 F2 H2 b S2 s2=>hn Df σ2 F2 H2 b S2 (s.trans s2)) a) a⟩
theorem FT{t:TS}(h:Ws ss t nx R):Ws ss (VO t) nx R:=⟨λE D Z F H S hn a=>⟨D.nx,h.go E { D with nx:=D.nx } Z F H S hn a,λ_ _ q=>q⟩⟩
theorem Ws.mono{t:TS}(h:Ws ss t nx R)(i:∀s,nx s->G5 s):Ws ss t G5 R:=⟨λE D Z F H S hn a=>h.go E D Z F H S (λAH σ' F' H' n=>hn AH σ' F' H' (i _ n)) a⟩
theorem Ss{t:TS}(J:List Slot->Prop)(h:Ws ss t J R)(h2:∀AH,J AH->Ws AH u nx R):Ws ss (OY t u) nx R:=Aw (h.mono h2)
theorem Fp(h:Wp ss te λp=>nx (ss.set i (.is p))):Ws ss (GF te (ES i)) nx R:=⟨λE D Z F H S hn b=>
 h.go E Z F H _ S λv p F1 H1 a r kk=>hn _ _ F1 H1 kk (a.st.Me r) a.ff⟩
theorem R0(h:Wp ss te λp=>Wg ss g p nx):Ws ss (GF te g) nx R:=⟨λE D Z F H S hn b=>
 h.go E Z F H _ S λv p F1 H1 a r kk=>kk.go E Z F1 H1 v _ a.st r λAH σ' n S'=>hn _ _ F1 H1 n S' a.ff⟩
theorem Hq(h:Wn ss te λxs=>nx (ss.set i (.own xs))):Ws ss (GF te (ES i)) nx R:=⟨λE D Z F H S hn g=>
 h.go E Z F H _ S λl vs xs F1 H1 a d b GC r kk=>hn _ _ F1 H1 kk (a.st.setG ⟨l,vs,rfl,d,S.EU b,GC,r⟩ λf e j u _ hu c=>by cases e;exact S.Sk hu b c) a.ff⟩
theorem FU(h:Wp ss te k):Ws ss (Ib te) nx (.is k):=⟨λE D Z F H S hn b=>
 h.go E Z F H _ S λv p F1 H1 a r kk=>b v F1 H1 a.st.toFin ⟨p,r,kk⟩⟩
theorem YG{k:List PV->Prop}(h:Wn ss te k):Ws ss (Ib te) nx (.new k):=⟨λE D Z F H S hn b=>
 h.go E Z F H _ S λl vs xs F1 H1 a d c GC r kk=>b _ F1 H1 a.st.toFin ⟨l,vs,xs,rfl,d,S.EU c,GC,r,kk⟩⟩
theorem E4{t:TS}(h:Wt ss c λb=>if b=true then Ws ss t nx R else Ws ss u nx R):Ws ss (SI c t u) nx R:=⟨λE D Z F H S hn d=>
 h.go E Z F H _ S λb F1 H1 a w=>by
  show if b=true then _ else _
  cases b with
  |true=>rw[tU rfl]at w ⊢;exact w.go E D Z F1 H1 a.st (λDf σ2 F2 H2 n S2 s2=>hn Df σ2 F2 H2 n S2 (a.ff.trans s2)) d
  |false=>rw[tJ (by decide)]at w ⊢;exact w.go E D Z F1 H1 a.st (λDf σ2 F2 H2 n S2 s2=>hn Df σ2 F2 H2 n S2 (a.ff.trans s2)) d⟩
theorem CM(h:nx ss):Ws ss Uu nx R:=⟨λE D Z F H S hn a=>hn ss Z F H h S (A9.refl _)⟩
theorem MR(h:Wp ss te λ_=>nx ss):Ws ss (Jn te) nx R:=⟨λE D Z F H S hn b=>
 h.go E Z F H _ S λv p F1 H1 a r kk=>hn ss Z F1 H1 kk a.st a.ff⟩
theorem Sg.drop(S:Sg E ss Z F H)(i:Nat):Sg E (ss.set i .any) Z F H:=by
 have b:∀(j:Nat)u,(ss.set i .any)[j]?=some u->u=.any∨ss[j]?=some u:=λj u a=>by
  by_cases q:j=i
  .subst q;have f:j<ss.length:=by have:=(List.getElem?_eq_some_iff.mp a).1;simpa using this
   rw[DD f]at a;exact .inl (BX a).symm
  .rw[CZ (BW q)]at a;exact .inr a
 refine⟨S.toFin,by rw[J4];exact S.len,λj u a=>?_,λj k u w l R7 a e d c=>?_⟩
 .rcases b j u a with rfl|h
  .trivial
  .exact S.ok j u h
 .rcases b j u a with rfl|h
  .cases d
  .rcases b k w e with rfl|h2
   .cases c
   .exact S.Bi j k u w l R7 h h2 d c
theorem Tv(e:Z[i]?=some (some v)):Z.set i (some v)=Z:=by
 apply oP;intro j
 by_cases q:j=i
 .subst q;rw[DD (List.getElem?_eq_some_iff.mp e).1,e]
 .rw[CZ (BW q)]
theorem Sg.WN(S:Sg E ss Z F H)(j:F a=none)(c:E.H0 a=none∨a∈E.B)(hn:∀(i:Nat)s,ss[i]?=some s->¬ BO s Z[i]? a):Sg E ss Z F (upd H a o):=by
 have f:∀b u,b≠a->H b=some u->upd H a o b=some u:=λb u h e=>by rw[Ah h];exact e
 refine⟨⟨λb u e=>?_,S.f0,λb u d e=>?_,S.fresh,λb d=>?_,S.Mm,S.a0,S.bF,λb g=>?_,S.b0⟩,S.len,λi s hi=>?_,S.Bi⟩
 .exact f b u (Ed e j) (S.fh b u e)
 .refine f b u ?_ (S.keep b u d e);rintro rfl;rcases c with c|c
  .rw[c]at e;cases e
  .exact d.2 c
 .refine Be.keep (S.Eo b d) λu e=>f b u ?_ e;rintro rfl;rcases c with c|c
  .exact S.a0 _ d c
  .exact(S.b0 _ c).2 d
 .by_cases q:b=a
  .subst q;rw[AJ];simp
  .rw[Ah q];exact S.bH b g
 .by_cases np:s=.AD
  .subst np;obtain⟨l,e,p,n,k⟩:=S.ok i _ hi;exact⟨l,e,p,n,Be.keep k λu h=>f l u (by rintro rfl;exact hn i _ hi e) h⟩
  .exact Ok.go S hi (A9.refl _) (λb u m h=>f b u (by rintro rfl;exact hn i _ hi m) h) (λ_ _ h=>h) np
theorem Sg.put(S:Sg E ss Z F H){ys:List PV}(hi:ss[i]?=some (.own xs))(e:Z[i]?=some (some (.ref l)))(f:F l=none)(d:E.H0 l=none)(r:Aa F CP ys):Sg E (ss.set i (.own ys)) Z F (upd H l (.lst CP)):=by
 have a:∀(j:Nat)s,(ss.set i .any)[j]?=some s->¬ BO s Z[j]? l:=λj s b c=>by
  by_cases q:j=i
  .subst q;have n:j<ss.length:=(List.getElem?_eq_some_iff.mp hi).1;rw[DD n]at b;cases b;cases c
  .rw[CZ (BW q)]at b;exact S.Bi j i s _ l q b hi c e
 have m:=(S.drop i).WN (o:=.lst CP) f (.inl d) a;have g:=m.setG (j:=i) (s:=.own ys) (v:=.ref l) ⟨l,CP,rfl,f,d,AJ,r⟩ λp k j u b hu h=>by cases k;exact a j u hu h
 rw[Tv e,bS]at g;exact g
theorem SY(hi:ss[i]?=some (.own xs))(h:Wp ss te λp=>xs.length<=99999/\nx (ss.set i (.own (xs++[p])))):Ws ss (Jn (P2 K "list" OF (BJ i) (AX te B4))) nx R:=⟨λE D Z F H S hn k=>by
 obtain⟨l,vs,e,n,m,g,r⟩:=S.ok i _ hi;refine⟨_,e,.inl ⟨rfl,_,AK.of g⟩,h.go E Z F H _ S λv p F1 H1 a d⟨f,kk⟩=>?_⟩;obtain⟨j,CP,c,EJ,CU,PH,b⟩:=a.st.ok i _ hi;rw[e]at c;cases c;refine⟨l,CP,v,rfl,rfl,PH,Mf (by rw[b.length];exact f),?_⟩;exact hn _ Z F1 _ kk (a.st.put hi e EJ CU (b.append (.one d))) a.ff⟩
noncomputable def BL(F H:Hp)(as:List Addr):Hp:=λa=>if a∈as then H a else F a
theorem Sg.lay(S:Sg E ss Z F H)(as:List Addr)(g:∀a∈as,F a=none/\E.H0 a=none/\H a≠none)(hn:∀a∈as,∀(i:Nat)s,ss[i]?=some s->¬ BO s Z[i]? a):Sg E ss Z (BL F H as) H/\A9 F (BL F H as):=by
 have x:∀a,a∈as->BL F H as a=H a:=λa h=>tU h;have j:∀a,a∉as->BL F H as a=F a:=λa h=>tJ h;have ff:A9 F (BL F H as):=λa o e=>by
  by_cases q:a∈as
  .rw[(g a q).1]at e;cases e
  .rw[j a q];exact e
 have f:∀a,a∉as->F a=none->BL F H as a=none:=λa q h=>by rw[j a q];exact h
 refine⟨⟨⟨λa o e=>?_,S.f0.trans ff,S.keep,λa o e=>?_,S.Eo,λa w=>?_,S.a0,λa u=>?_,S.bH,S.b0⟩,S.len,λi s hi=>?_,S.Bi⟩,ff⟩
 .by_cases q:a∈as
  .rw[x a q]at e;exact e
  .rw[j a q]at e;exact S.fh a o e
 .by_cases q:a∈as
  .exact .inr (g a q).2.1
  .rw[j a q]at e;exact S.fresh a o e
 .exact f a (λq=>S.a0 a w (g a q).2.1) (S.Mm a w)
 .exact f a (λq=>(S.b0 a u).1 (g a q).2.1) (S.bF a u)
 .have l:∀a,BO s Z[i]? a->a∉as:=λa m q=>hn a q i s hi m;have kk:=S.ok i s hi;cases s with
  |any=>trivial
  |is p=>obtain⟨v,e,r⟩:=kk;exact⟨v,e,r.mono ff⟩
  |own ys=>
   obtain⟨b,ws,q,d,c,k,r⟩:=kk;exact⟨b,ws,q,f b (l b q) d,c,k,r.mono ff⟩
  |AD=>
   obtain⟨b,q,d,c,k⟩:=kk;exact⟨b,q,f b (l b q) d,c,k⟩
  |sq tp ys=>
   cases tp with
   |true=>obtain⟨v,e,r⟩:=kk;exact⟨v,e,r.mono ff⟩
   |false=>obtain⟨b,ws,q,d,c,r⟩:=kk;exact⟨b,ws,q,d,c,r.mono ff⟩
  |raw P=>obtain⟨v,e,r,st⟩:=kk;exact⟨v,e,st _ _ ff r,st⟩
  |ow lt t=>
   obtain⟨v,e,r,nd,q⟩:=kk;exact⟨v,e,r.mono ff λa _ o h=>h,nd,λa n=>⟨f a (l a n) (q a n).1,(q a n).2⟩⟩
theorem UG{t:TS}(i:Nat)(hi:ss[i]?=some (.own xs))(h:Ws (ss.set i (.is (.lst xs))) t nx R):Ws ss t nx R:=⟨λE D Z F H S hn g=>by
 obtain⟨l,vs,e,o,k,f,r⟩:=S.ok i _ hi;have one:∀a,a∈[l]->a=l:=λa h=>by simpa using h
 obtain⟨S1,d⟩:=(S.drop i).lay [l] (λa h=>by rw[one a h,f];exact⟨o,k,by simp⟩) λa h j s b m=>by
  rw[one a h]at m
  by_cases q:j=i
  .subst q;rw[DD (List.getElem?_eq_some_iff.mp hi).1]at b;cases b;cases m
  .rw[CZ (BW q)]at b;exact S.Bi j i s _ l q b hi m e
 have c:=S1.Me (j:=i) (v:=.ref l) (p:=.lst xs) (.lst (by unfold BL;rw[tU (by simp)];exact f) (r.mono d));rw[Tv e,bS]at c;exact h.go E D Z _ H c (λDf σ2 F2 H2 n c s2=>hn Df σ2 F2 H2 n c (d.trans s2)) g⟩
theorem G1{tb:TS}(I:List PV->Nat->List Slot->Prop)(h:Wi ss wi λxs=>I xs 0 ss/\(∀(i:Nat)p AH,xs[i]?=some p->I xs i AH->Wg AH g p λDf=>Ws Df tb (I xs (i+1)) R)/\∀AH,I xs xs.length AH->nx AH):Ws ss (WS wi g tb) nx R:=⟨λE D Z F H S hn s=>
 h.go E Z F H _ S λJ xs F1 H1 k d AO=>by
  obtain⟨i0,hs,hd⟩:=AO;refine⟨λi m σ' H'=>m=xs.length - i/\i<=xs.length/\∃AH F',I xs i AH/\Sg E AH σ' F' H'/\A9 F1 F',⟨_,rfl,CF _,ss,F1,i0,k.st,A9.refl _⟩,?_⟩;rintro i m σ' H'⟨rfl,hi,AH,F',l,S',s'⟩
  by_cases f:i<xs.length
  .refine .inr ⟨d.go AH σ' F' H' i s' S' f,λσ2 H2=>∃Df F2,I xs (i+1) Df/\Sg E Df σ2 F2 H2/\A9 F1 F2,λσ2 H2 Ds=>by obtain⟨Df,F2,a,b,c⟩:=Ds;exact⟨_,by omega,rfl,f,Df,F2,a,b,c⟩,λx H3 y=>?_⟩;obtain⟨p,F3,hp,j,q⟩:=d.GW AH σ' F' H' i x H3 s' S' f y;refine(hs i p AH hp l).go E σ' F3 H3 x _ j.st q λn σ4 w S4=>?_;exact w.go E _ σ4 F3 H3 S4 (λVv σ5 F5 H5 r S5 o=>⟨Vv,F5,r,S5,(s'.trans j.ff).trans o⟩) s
  .have e:i=xs.length:=by omega
   subst e;exact .inl ⟨d.stop AH σ' F' H' s' S',hn AH σ' F' H' (hd AH l) S' (k.ff.trans s')⟩⟩
theorem pX{tb:TS}(I:Nat->List Slot->Prop)(e:Nat)(n:I e ss)(h:∀m AH,I m AH->Wt AH c λb=>if b=true then Ws AH tb (λDf=>∃a,a < m/\I a Df) R else nx AH):Ws ss (aT c tb) nx R:=⟨λE D Z F H S hn j=>by
 refine⟨λm σ' H'=>∃AH F',I m AH/\Sg E AH σ' F' H'/\A9 F F',⟨e,ss,F,n,S,A9.refl _⟩,?_⟩;rintro m σ' H'⟨AH,F',k,S',s'⟩;refine(h m AH k).go E σ' F' H' _ S' λb F1 H1 d w=>?_;cases b with
 |true=>
  rw[tU rfl]at w;refine⟨λσ2 H2=>∃Df F2,(∃a,a < m/\I a Df)/\Sg E Df σ2 F2 H2/\A9 F F2,λσ2 H2 AO=>by obtain⟨Df,F2,⟨a,l,i⟩,b,c⟩:=AO;exact⟨a,l,Df,F2,i,b,c⟩,?_⟩;exact w.go E _ σ' F1 H1 d.st (λVv σ5 F5 H5 g S5 f=>⟨Vv,F5,g,S5,(s'.trans d.ff).trans f⟩) j
 |false=>
  rw[tJ (by decide)]at w;exact hn AH σ' F1 H1 w d.st (s'.trans d.ff)⟩
end
def EC(js:List Nat)(ss:List Slot):List Slot:=js.map λj=>(ss[j]?).getD .any
def RO(js:List Nat)(ss:List Slot):Bool:=js.all λj=>match ss[j]? with
 |some .AD=>false
 |_=>true
section
variable[Xw]
variable{K:ZKG}{js:List Nat}
theorem ZHS(h:js[i]?=some j)(e:(EC js ss)[i]?=some s):s=(ss[j]?).getD .any:=by
 unfold EC at e;rw[B1,h]at e;exact(BX e).symm
theorem Sg.Ar(S:Sg E ss Z F H)(nd:js.Nodup)(r:Aa F vs ps):Sg E (EC js ss++ps.map .is) (Bm js Z++vs.map some) F H:=by
 have d:(EC js ss).length=js.length:=by simp[EC]
 have f:(Bm js Z).length=js.length:=by simp[Bm]
 have k:∀(i:Nat)(hi:i<js.length),(EC js ss++ps.map .is)[i]?=some ((ss[js[i]]?).getD .any)/\(Bm js Z++vs.map some)[i]?=some ((Z[js[i]]?).join):=λi hi=>by
  rw[HK (by rw[d];exact hi),HK (by rw[f];exact hi)];unfold EC Bm;rw[B1,B1,B9 hi];exact⟨rfl,rfl⟩
 have c:∀(i:Nat)s,js.length<=i->(EC js ss++ps.map .is)[i]?=some s->∃p v,s=.is p/\(Bm js Z++vs.map some)[i]?=some (some v)/\Rep F v p:=λi s hi e=>by
  rw[Ji (by rw[d];exact hi),d,B1]at e;rw[Ji (by rw[f];exact hi),f,B1];cases q:ps[i - js.length]? with
  |none=>rw[q]at e;cases e
  |some p=>
   rw[q]at e;obtain⟨v,h,g⟩:=r.get q;rw[h];exact⟨p,v,(BX e).symm,rfl,g⟩
 have D:∀(s:Slot)(m:Nat)(l:Addr),BO s (some (Z[m]?).join) l->BO s Z[m]? l:=λs m l o=>by
  have w:∀l,some (Z[m]?).join=some (some (V.ref l))->Z[m]?=some (some (.ref l)):=λl e=>by
   cases q:Z[m]? with
   |none=>rw[q]at e;cases e
   |some o=>rw[q]at e;cases o with
    |none=>cases e
    |some v=>simpa using e
  cases s with
  |own xs=>exact w l o
  |AD=>exact w l o
  |ow lt t=>exact o
  |_=>exact o
 have n:∀(i:Nat)s l,(EC js ss++ps.map .is)[i]?=some s->BO s (Bm js Z++vs.map some)[i]? l->∃hi:i<js.length,ss[js[i]]?=some s/\BO s Z[js[i]]? l:=λi s l e m=>by
  by_cases hi:i<js.length
  .rw[(k i hi).2]at m;refine⟨hi,?_,D s _ l m⟩;rw[(k i hi).1]at e;cases q:ss[js[i]]? with
   |none=>rw[q]at e;cases e;cases m
   |some u=>rw[q]at e;exact e
  .obtain⟨p,v,rfl,_⟩:=c i s (by omega) e;cases m
 refine⟨S.toFin,?_,λi s e=>?_,λi j s u l C5 hi C ms B=>?_⟩
 .rw[BE,BE,d,f,AS,AS,r.length]
 .by_cases hi:i<js.length
  .obtain⟨a,b⟩:=k i hi;rw[a]at e;rw[b];cases q:ss[js[i]]? with
   |none=>rw[q]at e;cases e;trivial
   |some u=>
    rw[q]at e;have G:u=s:=BX e;subst G;have kk:=S.ok _ _ q;cases u with
    |any=>trivial
    |is p=>obtain⟨v,e,r⟩:=kk;rw[e];exact⟨v,rfl,r⟩
    |own xs=>obtain⟨l,vs,e,r⟩:=kk;rw[e];exact⟨l,vs,rfl,r⟩
    |AD=>obtain⟨l,e,r⟩:=kk;rw[e];exact⟨l,rfl,r⟩
    |sq tp xs=>
     cases tp with
     |true=>obtain⟨v,e,r⟩:=kk;rw[e];exact⟨v,rfl,r⟩
     |false=>obtain⟨l,vs,e,r⟩:=kk;rw[e];exact⟨l,vs,rfl,r⟩
    |raw P=>obtain⟨v,e,r⟩:=kk;rw[e];exact⟨v,rfl,r⟩
    |ow lt t=>obtain⟨v,e,r⟩:=kk;rw[e];exact⟨v,rfl,r⟩
  .obtain⟨p,v,rfl,h,g⟩:=c i s (by omega) e;rw[h];exact⟨v,rfl,g⟩
 .obtain⟨J,y,A⟩:=n i s l hi ms;obtain⟨I,x,z⟩:=n j u l C B;refine S.Bi js[i] js[j] s u l (λe=>C5 ?_) y x A z;exact(ZIt nd).mp e
theorem Mv.out(S:Sg E ss Z F H)(np:RO js ss=true)(m:Mv E (EC js ss++ps.map .is) τ F H F' H'):Mv E ss Z F H F' H':=by
 have nn:∀a,Ce (EC js ss++ps.map .is) τ a:=λa i hi _=>by
  by_cases h:i<(EC js ss).length
  .rw[HK h]at hi;have c:i<js.length:=by simpa[EC]using h
   have q:=ZHS (B9 c) hi;have z:=List.all_eq_true.mp np js[i] (M4 c);cases w:ss[js[i]]? with
   |none=>rw[w]at q;cases q
   |some u=>rw[w]at q z;cases q;cases z
  .rw[Ji (by omega),B1]at hi;cases w:ps[i - (EC js ss).length]? with
   |none=>rw[w]at hi;cases hi
   |some p=>rw[w]at hi;cases hi
 have b:∀a o,H a=some o->H' a=some o:=λa o e=>m.hh a o (nn a) e;exact S.step m.ff m.st.fh (λa o _ e=>b a o e) m.nn λi l hi e=>Be.keep (S.EW hi e) λo e=>b l o e
theorem Xj{k:List PV->Prop}(f:PV->Bool)(g:PV->PV)
  (h:Wi ss wi λxs=>xs.length<=100000/\(∀x∈xs,Wt (EC js ss++[.is x]) tt λb=>b=f x)/\(∀x∈xs,f x=true->Wp (EC js ss++[.is x]) te λp=>p=g x)/\k ((xs.filter f).map g))
  (nd:js.Nodup:=by decide) (np:RO js ss=true:=by rfl):Wn ss (KD wi js tt te) k:=⟨λE Z F H Q S q=>
 h.go E Z F H _ S λJ xs F1 H1 c B⟨hz,W,X,kk⟩acc B6=>by
  have P:Ce ss Z acc:=c.st.Oh B6;have R:=c.st.EU B6;have C:∀(i:Nat)s,ss[i]?=some s->¬ BO s Z[i]? acc:=λi s hi=>c.st.Sk hi B6;refine⟨λi m H2=>m=xs.length - i/\i<=xs.length/\∃F2 vs,Mv E ss Z F1 H1 F2 H2/\F2 acc=none/\H2 acc=some (.lst vs)/\Aa F2 vs (((xs.take i).filter f).map g),⟨_,rfl,CF _,F1,[],c.st.make B6 _,c.st.Bd B6,AJ,.nil⟩,?_⟩;rintro i m H2⟨rfl,hi,F2,vs,m2,K,v,r⟩
  by_cases l:i<xs.length
  .refine .inr ⟨B.go ss Z F2 H2 i m2.ff m2.st l,λx H3 y=>?_⟩;obtain⟨p,F3,hp,t,G⟩:=B.GW ss Z F2 H2 i x H3 m2.ff m2.st l y;have O:p∈xs:=DR hp;have JY:(xs.take (i+1))=xs.take i++[p]:=by
    have e2:xs[i]=p:=by rw[B9 l]at hp;exact BX hp
    rw[UZ l,e2]
   have M:List.filter f (xs.take (i+1))=(xs.take i).filter f++(if f p=true then[p]else[]):=by
    rw[JY,Nb];congr 1
    by_cases d:f p=true <;> simp[d]
   have I:∀{F4:Hp},(∀a o,F4 a=some o->F2 a=some o∨H2 a=none)->F4 acc=none:=λ{F4}n=>by
    cases e:F4 acc with
    |none=>rfl
    |some o=>
     rcases n acc o e with w|w
     .rw[K]at w;cases w
     .rw[v]at w;cases w
   have S3:=t.st.Ar (js:=js) nd (.one G);refine(W p O).go E _ F3 H3 _ S3 λb F4 H4 m4 Y=>?_;have j:=t.trans (m4.out (ps:=[p]) t.st np);show if b=true then _ else _
   rw[Y]
   by_cases d:f p=true
   .rw[tU d];have S4:=j.st.Ar (js:=js) nd (.one (G.mono (m4.out (ps:=[p]) t.st np).ff));refine(X p O d).go E _ F4 H4 _ S4 λw pw F5 H5 U N σ=>?_;have V:=m4.out (ps:=[p]) t.st np;have T:=U.out (ps:=[p]) j.st np;have A:=j.trans T;have D:=A.hh acc _ P v;have L:=I A.nn;have u:vs.length<=99999:=by
     rw[r.length,AS];have:=Ga f (xs.take i);rw[Bk]at this;omega
    refine⟨vs,D,Mf u,xs.length - (i+1),by omega,rfl,l,F5,vs++[w],?_,L,AJ,?_⟩
    .have z:=m2.trans A;refine⟨z.st.WN L (.inl R) C,z.ff,λa o n e=>?_,z.nn⟩;rw[Ah (Ed e B6)];exact z.hh a o n e
    .rw[M,tU d,CD];rw[σ]at N;exact(r.mono A.ff).append (.one N)
   .have NA:f p=false:=by simpa using d
    rw[NA,tJ (by decide)];refine⟨xs.length - (i+1),by omega,rfl,l,F4,vs,m2.trans j,I j.nn,j.hh acc _ P v,?_⟩;rw[M,tJ d,FN];exact r.mono j.ff
  .have e:i=xs.length:=by omega
   subst e;refine .inl ⟨B.stop ss Z F2 H2 m2.ff m2.st,q acc vs _ F2 H2 (c.trans m2) K (c.none B6) v ?_ kk⟩;rw[Hv]at r;exact r⟩
end
abbrev Pre:=List Slot->Ae->Prop
def Ag(pre:Pre):Sp:=λvs H Q _=>∃(ss:List Slot)(R:Ae)(F:Hp)(A:List Addr),pre ss R/\Sg (E3 A F H) ss (vs.map some) F H/\∀v F' H',Fin (E3 A F H) F' H'->R.ok (E3 A F H) F' H' v->Q v H'
section
variable[Xw]
variable{pre:Pre}{k:PV->Prop}
theorem IJ.at{l:List Slot}(h:IJ ss Z F H vs l):∀{i:Nat}{s:Slot},l[i]?=some s->∃v,vs[i]?=some v/\Av ss Z F H v s:=by
 induction h with
 |nil=>intro i s e;simp at e
 |cons a _ b=>
  intro i s e;cases i with
  |zero=>simp at e;subst e;exact⟨_,rfl,a⟩
  |succ i=>exact b (by simpa using e)
theorem IJ.len{l:List Slot}(h:IJ ss Z F H vs l):l.length=vs.length:=by
 induction h with
 |nil=>rfl
 |cons a _ b=>rw[Ba,Ba,b]
theorem Av.ok(S:Sg E ss Z F H)(a:Av ss Z F H v s)(b:∀l,Ce ss Z l->l∉A):Ok (E3 A F H) F H s (some (some v))/\∀o l,¬ BO s o l:=by
 cases s with
 |is p=>exact⟨⟨v,rfl,a⟩,λ_ _ z=>z⟩
 |sq tp xs=>
  cases tp with
  |true=>exact⟨⟨v,rfl,a⟩,λ_ _ z=>z⟩
  |false=>obtain⟨l,vs,rfl,n,h,r⟩:=a;exact⟨⟨l,vs,rfl,⟨b l n,B2⟩,h,r⟩,λ_ _ z=>z⟩
 |raw P=>exact⟨⟨v,rfl,a⟩,λ_ _ z=>z⟩
 |any=>exact a.elim
 |own xs=>exact a.elim
 |AD=>exact a.elim
 |ow lt t=>exact a.elim
theorem Sg.PN(S:Sg E ss Z F H){l:List Slot}(a:IJ ss Z F H vs l):Sg (E3 [] F H) l (vs.map some) F H:=by
 have nn:∀{p:Prop}(a:Addr),a∈([]:List Addr)->p:=λa h=>absurd h B2;refine⟨⟨S.fh,A9.refl _,λ_ _ _ e=>e,λ_ _ e=>.inl e,λa h=>nn a h,λa h=>nn a h,λa h=>nn a h,λa h=>nn a h,λa h=>nn a h,λa h=>nn a h⟩,by rw[AS];exact a.len,λi s hi=>?_,λi j s u l C5 hi d ms c=>?_⟩
 .obtain⟨v,b,q⟩:=a.at hi;rw[B1,b];exact(q.ok S λ_ _ h=>absurd h B2).1
 .obtain⟨v,b,q⟩:=a.at hi;exact(q.ok S (A:=[]) λ_ _ h=>absurd h B2).2 _ _ ms
theorem Sg.bx(S:Sg E ss Z F H){p:Addr}(hi:ss[i0]?=some .AD)(e:Z[i0]?=some (some (.ref p))){l:List Slot}(a:IJ ss Z F H vs l):Sg (E3 [p] F H) (.AD::l) ((V.ref p::vs).map some) F H:=by
 obtain⟨t,g,fp,_,b⟩:=S.ok i0 _ hi;rw[e]at g;cases g;have f:∀l,Ce ss Z l->l∉[p]:=λl n h=>by
  have:l=p:=by simpa using h
  subst this;exact n i0 hi e
 have one:∀a,a∈[p]->a=p:=λa h=>by simpa using h
 have nn:∀{p:Prop}(a:Addr),a∈([]:List Addr)->p:=λa h=>absurd h B2;refine⟨⟨S.fh,A9.refl _,λ_ _ _ e=>e,λ_ _ e=>.inl e,λa h=>(one a h)▸b,λa h=>(one a h)▸fp,λa h=>?_,λa h=>nn a h,λa h=>nn a h,λa h=>nn a h⟩,by rw[AS,Ba,Ba];rw[a.len],λi s hi=>?_,λi j s u c C5 hi r ms k=>?_⟩
 .rw[one a h];obtain⟨_,_,q,_⟩:=b;show H p≠none;rw[q];simp
 .cases i with
  |zero=>simp at hi;subst hi;exact⟨p,rfl,fp,.inr (by simp),b⟩
  |succ i=>
   obtain⟨v,d,q⟩:=a.at (i:=i) (s:=s) (by simpa using hi)
   have:((V.ref p::vs).map some)[i+1]?=some (some v):=by rw[Bu,List.getElem?_cons_succ,B1,d];rfl
   rw[this];exact(q.ok S f).1
 .have z:∀(i:Nat)s o c,(Slot.AD::l)[i]?=some s->BO s o c->i=0:=λi s o c h m=>by
   cases i with
   |zero=>rfl
   |succ i=>
    obtain⟨v,d,q⟩:=a.at (i:=i) (s:=s) (by simpa using h)
    exact((q.ok S f).2 _ _ m).elim
  exact absurd ((z i s _ _ hi ms).trans (z j u _ _ r k).symm) C5
theorem Sg.back(S:Sg E ss Z F H)(d:∀a,a∈A->∃i:Nat,ss[i]?=some .AD/\Z[i]?=some (some (.ref a)))(f:Fin (E3 A F H) F' H'):Mv E ss Z F H F' H':=by
 refine S.step f.f0 f.fh (λa o n e=>f.keep a o ⟨λh=>?_,B2⟩ e) f.fresh λi l hi e=>?_
 .obtain⟨i,c,b⟩:=d a h;exact n i c b
 .by_cases q:l∈A
  .exact f.Eo l q
  .exact Be.keep (S.EW hi e) λo e=>f.keep l o ⟨q,B2⟩ e
theorem wp_call(h:Wa ss t λl=>∃k',pre l (.is k')/\∀p,k' p->k p):Wp ss (C0 (Ag pre) [] E0 t) k:=⟨λE Z F H Q S q=>
 h.go E Z F H _ S λvs l F1 H1 b a⟨k',hp,kk⟩=>by
  rw[FN];refine⟨l,.is k',F1,[],hp,b.st.PN a,λv F' H' f⟨p,r,kp⟩=>?_⟩;exact q v p F' H' (b.trans (b.st.back (λ_ h=>absurd h B2) f)) r (kk p kp)⟩
theorem j3{k:List PV->Prop}(h:Wa ss t λl=>∃k',pre l (.new k')/\∀xs,k' xs->k xs):Wn ss (C0 (Ag pre) [] E0 t) k:=⟨λE Z F H Q S q=>
 h.go E Z F H _ S λvs l F1 H1 b a⟨k',hp,kk⟩=>by
  rw[FN];refine⟨l,.new k',F1,[],hp,b.st.PN a,λv F' H' f⟨l,vs,xs,e,g,d,ER,r,c⟩=>?_⟩;subst e;exact q l vs xs F' H' (b.trans (b.st.back (λ_ h=>absurd h B2) f)) g (b.none d) ER r (kk xs c)⟩
theorem jJ(hi:ss[i]?=some .AD)(h:Wa ss t λl=>∃k',pre (.AD::l) (.is k')/\∀p,k' p->k p):Wp ss (C0 (Ag pre) [] E0 (AX (BJ i) t)) k:=⟨λE Z F H Q S q=>by
 obtain⟨p,e,_⟩:=S.ok i _ hi;refine⟨_,e,h.go E Z F H _ S λvs l F1 H1 b a⟨k',hp,kk⟩=>?_⟩;show Ag pre ((V.ref p::vs)++[]) H1 Q E0;rw[FN];refine⟨.AD::l,.is k',F1,[p],hp,b.st.bx hi e a,λv F' H' f⟨pv,r,kp⟩=>?_⟩;exact q v pv F' H' (b.trans (b.st.back (A:=[p]) (λa h=>⟨i,hi,(show a=p from by simpa using h)▸e⟩) f)) r (kk pv kp)⟩
theorem Sg.grown(S:Sg E ss Z F H)(n:Nat):Sg E (ss++List.replicate n .any) (Z++List.replicate n none) F H:=by
 have g:∀(i:Nat)s,(ss++List.replicate n .any)[i]?=some s->s≠.any->ss[i]?=some s/\(Z++List.replicate n none)[i]?=Z[i]?:=λi s e hs=>by
  by_cases h:i<ss.length
  .rw[HK h]at e;rw[HK (by rw[<- S.len];exact h)];exact⟨e,rfl⟩
  .rw[Ji (by omega),oV]at e;split at e
   .exact absurd (BX e).symm hs
   .cases e
 refine⟨S.toFin,by simp[S.len],λi s e=>?_,λi j s u l C5 hi m ms f=>?_⟩
 .cases s with
  |any=>trivial
  |_=>obtain⟨a,b⟩:=g i _ e (by simp);rw[b];exact S.ok i _ a
 .have ns:s≠.any:=by rintro rfl;cases ms
  have k:u≠.any:=by rintro rfl;cases f
  obtain⟨a,b⟩:=g i s hi ns;obtain⟨c,d⟩:=g j u m k;rw[b]at ms;rw[d]at f;exact S.Bi i j s u l C5 a c ms f
end
section
variable{pre:Pre}{k:PV->Prop}
def Ru(E:Ent0):Ent:=⟨E,λ_ _ _ _ _ _ _ _ _ d=>d.elim⟩
theorem CK{N:List Str}{n:Nat}{t:TS}(h:Ag pre vs H Q X)(b:∀ss R,pre ss R->ss.length=n)
  (hw:∀ss R,pre ss R->Ws (ss++List.replicate (N.length - n) .any) t (λ_=>∃k,R=.is k/\k .AG) R):t { nx:=λ_ H'=>Q .AG H',rt:=Q } (L2.start N vs) H:=by
 obtain⟨ss,R,F,A,hp,S,q⟩:=h;have e:vs.length=n:=by have:=S.len;rw[AS]at this;rw[<- this];exact b ss R hp
 unfold L2.start;rw[e];refine(hw ss R hp).go (Ru (E3 A F H)) _ _ F H (S.grown _) (λAH σ' F' H'⟨k,e,a⟩S' _=>?_) λv F' H' f ok=>q v F' H' f ok;subst e;exact q .AG F' H' S'.toFin ⟨.AG,.AG,a⟩
theorem CO{n:Nat}(a:∀ss R,pre ss R->ss.length=n)(h:Ag pre vs H Q X):vs.length=n:=by
 obtain⟨ss,R,F,A,hp,S,q⟩:=h;have:=S.len;rw[AS]at this;rw[<- this];exact a ss R hp
end
end Fz
namespace Lw
open L2
variable{FK acc l ns ss:List Str}{r x:Str}{H H':Hp}{t:Addr}{g j:Int}
theorem P1:∀l:List Nat,¬ l<l
 | [],h=>by simp at h
 |a::r,h=>by
  rw[bC]at h;rcases h with h|⟨_,h⟩
  .omega
  .exact P1 r h
theorem Ta:∀{a b c:List Nat},a<b->b<c->a<c
 |_,[],_,h,_=>by simp at h
 |_,_::_,[],_,h=>by simp at h
 | [],_::_,_::_,_,_=>by simp
 |a::r,b::s,c::t,h,h'=>by
  rw[bC]at h h' ⊢;rcases h with h|⟨rfl,h⟩
  .rcases h' with h'|⟨rfl,h'⟩
   .left;omega
   .left;exact h
  .rcases h' with h'|⟨rfl,h'⟩
   .left;exact h'
   .right;exact⟨rfl,Ta h h'⟩
theorem jO:∀a b:List Nat,a<b∨a=b∨b<a
 | [],[]=>.inr (.inl rfl)
 | [],_::_=>.inl (by simp)
 |_::_,[]=>.inr (.inr (by simp))
 |a::r,b::s=>by
  rw[bC,bC];rcases ZJ7 a b with h|rfl|h
  .exact .inl (.inl h)
  .rcases jO r s with h|rfl|h
   .exact .inl (.inr ⟨rfl,h⟩)
   .exact .inr (.inl rfl)
   .exact .inr (.inr (.inr ⟨rfl,h⟩))
  .exact .inr (.inr (.inl h))
abbrev J0(a b:Str):Prop:=a.cps.toList<b.cps.toList
theorem Sz(a b:Str):J0 a b∨a=b∨J0 b a:=by
 rcases jO a.cps.toList b.cps.toList with h|h|h
 .exact .inl h
 .exact .inr (.inl (ZGA h))
 .exact .inr (.inr h)
abbrev Up(ss:List Str):Prop:=ss.Pairwise J0
theorem L0(h:Up ss):ss.Nodup:=by
 refine List.Pairwise.imp (λ{a b}(Dc:J0 a b)(e:a=b)=>?_) h;subst e;exact P1 _ Dc
theorem eV:∀(l:List Str)(p:Str),risingS p l=true->(∀x∈l,¬ J0 x p)/\l.Pairwise λa b=>¬ J0 b a
 | [],p,_=>⟨λx hx=>absurd hx (by simp),.nil⟩
 |y::r,p,h=>by
  have h1:(!ltCps y.cps.toList p.cps.toList && risingS y r)=true:=h;rw[Eb,ltCps_eq]at h1;have c:¬ J0 y p:=by
   intro z;rw[rD z]at h1;exact absurd h1.1 (by decide)
  obtain⟨h2,d⟩:=eV r y h1.2;refine⟨λx hx=>?_,List.pairwise_cons.mpr ⟨λx hx=>h2 x hx,d⟩⟩;rcases List.mem_cons.mp hx with rfl|hx
  .exact c
  .intro z;rcases Sz y p with q|q|q
   .exact c q
   .exact h2 x hx (q▸z)
   .exact h2 x hx (Ta z q)
theorem Y1(h:sortedS l=true):l.Pairwise λa b=>¬ J0 b a:=by
 cases l with
 |nil=>exact .nil
 |cons x r=>
  obtain⟨h1,h2⟩:=eV r x h;exact List.pairwise_cons.mpr ⟨h1,h2⟩
theorem PQ(h:sortedS l=true)(nd:l.Nodup):Up l:=by
 have w:=Y1 h;have q:=List.Pairwise.and w nd;refine q.imp λ{a b}Dc=>?_;rcases Sz a b with z|z|z
 .exact z
 .exact absurd z Dc.2
 .exact absurd z Dc.1
theorem Pj:∀{as bs:List Str},Up as->Up bs->(∀x,x∈as↔x∈bs)->as=bs
 | [],[],_,_,_=>rfl
 | [],b::bs,_,_,h=>absurd ((h b).mpr Cp) (by simp)
 |a::as,[],_,_,h=>absurd ((h a).mp Cp) (by simp)
 |a::as,b::bs,ha,hb,h=>by
  obtain⟨a1,a2⟩:=List.pairwise_cons.mp ha;obtain⟨c,d⟩:=List.pairwise_cons.mp hb;have e:a=b:=by
   rcases List.mem_cons.mp ((h a).mp Cp)with z|z
   .exact z
   .rcases List.mem_cons.mp ((h b).mpr Cp)with y|y
    .exact y.symm
    .exact absurd (Ta (a1 b y) (c a z)) (P1 _)
  subst e
  congr 1
  refine Pj a2 d λx=>⟨λhx=>?_,λhx=>?_⟩
  .rcases List.mem_cons.mp ((h x).mp (D3 _ hx))with z|z
   .exact absurd (z▸a1 x hx) (P1 _)
   .exact z
  .rcases List.mem_cons.mp ((h x).mpr (D3 _ hx))with z|z
   .exact absurd (z▸c x hx) (P1 _)
   .exact z
theorem UP:∀{as bs:List Str},as.Nodup->(∀x∈as,x∈bs)->as.length<=bs.length
 | [],_,_,_=>CF _
 |a::as,bs,nd,h=>by
  obtain⟨h1,h2⟩:=List.nodup_cons.mp nd;have b:=h a Cp;have q:=UP (bs:=bs.erase a) h2 λx hx=>(UX (λe:x=a=>h1 (by rw[<- e];exact hx))).mpr (h x (D3 _ hx));have e:=bI b;have p:=oY b;simp only[Ba];omega
theorem bu:∀{as bs:List Str},as.Nodup->(∀x∈as,x∈bs)->bs.length=as.length->bs.Nodup
 | [],bs,_,_,hl=>by
  have e:bs=[]:=List.length_eq_zero_iff.mp (by simpa using hl)
  rw[e];exact QN
 |a::as,bs,nd,h,hl=>by
  obtain⟨h1,h2⟩:=List.nodup_cons.mp nd;have b:=h a Cp;have d:bs.length=as.length+1:=by simpa using hl
  have sub:∀x∈as,x∈bs.erase a:=λx hx=>(UX (λe:x=a=>h1 (by rw[<- e];exact hx))).mpr (h x (D3 _ hx));have e:=bI b;have q:=bu (bs:=bs.erase a) h2 sub (by omega);have p:=List.perm_cons_erase b;rw[p.nodup_iff,bO];refine⟨λc=>?_,q⟩;have r:=UP (as:=a::as) (bs:=bs.erase a) nd λx hx=>by
   rcases List.mem_cons.mp hx with rfl|hx
   .exact c
   .exact sub x hx
  simp only[Ba]at r;omega
theorem qo{k:Str}:k∈Fb acc x↔k∈acc∨k=x:=by
 unfold Fb
 by_cases h:acc.any (· == x)=true
 .rw[tU h];refine⟨.inl,λq=>q.elim id λe=>?_⟩;obtain⟨y,a,b⟩:=List.any_eq_true.mp h;have:y=x:=by simpa using b
  rw[e,<- this];exact a
 .rw[tJ h];simp
theorem YW:∀(l acc:List Str),acc.Nodup->(l.foldl Fb acc).Nodup/\∀k,k∈l.foldl Fb acc↔k∈acc∨k∈l
 | [],acc,h=>⟨h,λk=>by simp⟩
 |x::r,acc,h=>by
  have hn:(Fb acc x).Nodup:=by
   unfold Fb
   by_cases c:acc.any (· == x)=true
   .rw[tU c];exact h
   .rw[tJ c];exact T8 h λa=>c (List.any_eq_true.mpr ⟨x,a,by simp⟩)
  obtain⟨h1,h2⟩:=YW r (Fb acc x) hn;refine⟨h1,λk=>?_⟩;rw[bD,h2 k,qo,EI,or_assoc]
theorem vN(ss:List Str):(dd ss).Nodup:=(YW ss [] QN).1
theorem ZGl(ss:List Str)(k:Str):k∈dd ss↔k∈ss:=by
 have q:=(YW ss [] QN).2 k;refine(show(k∈dd ss↔_)from q).trans ⟨λz=>z.elim (λy=>absurd y (by simp)) id,.inr⟩
theorem dC(l:List Str)(k:Str):l.any (· == k)=true↔k∈l:=by
 rw[ZIk];exact⟨λ⟨y,a,e⟩=>by
   have:y=k:=by simpa using e
   rw[<- this];exact a,λh=>⟨k,h,by simp⟩⟩
theorem jR{ts:List Str}(c:ts.length=(dd ss).length)(b:∀k,(dd ss).any (· == k)=true↔k∈ts)(hs:sortedS ts=true):(ss=ts)↔Up ss:=by
 have nd:ts.Nodup:=bu (vN ss) (λx hx=>(b x).mp ((dC _ _).mpr hx)) c;have a:=PQ hs nd;constructor
 .rintro rfl;exact a
 .intro us;exact Pj us a λx=>by rw[<- b x,dC,ZGl]
theorem pQ:∀(as bs:List Str),EV (as.map V.str) (bs.map V.str)=decide (as=bs):=by
 intro as bs
 by_cases a:as.length=bs.length
 .rw[Kx (by simpa using a),NY,Hs,decide_eq_true_iff]
  constructor
  .intro h;refine oO a λi h1 h2=>?_;have q:=h i (by simpa using h1)
   have b:(as.map V.str)[i]?=some (.str as[i]):=by rw[B1,B9 h1];rfl
   have d:(bs.map V.str)[i]?=some (.str bs[i]):=by rw[B1,B9 h2];rfl
   rw[Kn b,Kn d]at q;have c:(as[i] == bs[i])=true:=q
   simpa using c
  .rintro rfl i hi;have h1:i<as.length:=by simpa using hi
   have b:(as.map V.str)[i]?=some (.str as[i]):=by rw[B1,B9 h1];rfl
   rw[Kn b];show(as[i] == as[i])=true;simp
 .rw[L4 (by simpa using a),uB]
  rintro rfl;exact a rfl
def Cs:List Str:=["none","ahead","all"]
noncomputable def IT(ss:List Str):Bool:=decide (Up ss)
def IK(ns ss:List Str):Bool:=ss.all λx=>decide (x∈ns)
def JG(n:Nat)(g:Int):Bool:=decide (0<=g) && decide (g<=(n:Int))
def G8(ns:List Str)(r:Str)(g:Int)(ss:List Str):Bool:=decide (r∈Cs) && (JG ns.length g && (IT ss && IK ns ss))
def O6(K:ZKG):Sp:=λvs H Q _=>∃(a:Addr)(tp:Bool)(ns:List Str)(g:Int),vs=[.ref a,.int g]/\C4 K tp H a (ns.map V.str)/\Q (.bl (JG ns.length g)) H
def UH(K:ZKG):Sp:=λvs H Q _=>∃(a:Addr)(tp:Bool)(ns:List Str)(c:Addr)(ss:List Str),vs=[.ref a,.ref c]/\C4 K tp H a (ns.map V.str)/\AE K H c (ss.map V.str)/\ss.length<64/\∀H',A9 H H'->Q (.bl (IT ss && IK ns ss)) H'
def LoopAt(K:ZKG)(H:Hp)(t:Addr)(r:Str)(g:Int)(ss:List Str):Prop:=∃c,AE K H t [.str r,.int g,.ref c]/\AE K H c (ss.map V.str)
theorem LoopAt.same{K:ZKG}(s:A9 H H')(h:LoopAt K H t r g ss):LoopAt K H' t r g ss:=by
 obtain⟨c,h1,h2⟩:=h;exact⟨c,s.Jw h1,s.Jw h2⟩
def jh(K:ZKG):Sp:=λvs H Q _=>∃(a:Addr)(tp:Bool)(ns:List Str)(t:Addr)(r:Str)(g:Int)(ss:List Str),vs=[.ref a,.ref t]/\C4 K tp H a (ns.map V.str)/\LoopAt K H t r g ss/\ss.length<64/\∀H',A9 H H'->Q (.bl (G8 ns r g ss)) H'
def ZGb(p:Addr)(H:Hp)(Q:VK)(W:Str->Int->List Str->Prop):Prop:=∀t c r g ss H',H t=none->H c=none->BA p H H'->H' t=some (.tup [.str r,.int g,.ref c])->H' c=some (.tup (ss.map V.str))->W r g ss->Q (.ref t) H'
def aS:Sp:=λvs H Q _=>∃(p q:Addr)(ns:List Str),vs=[.ref p,.ref q]/\Be H p/\H q=some (.lst (ns.map V.str))/\q≠p/\ns.length<=40/\ns.Nodup/\
 ZGb p H Q λr g ss=>r∈Cs/\0<=g/\g<=(ns.length:Int)/\Up ss/\(∀x∈ss,x∈ns)/\ss.length<=40
theorem qE(ns ss:List Str):((ss.map V.str).filter λ_=>true).map (λv=>V.bl (DX v (ns.map V.str)))=(ss.map λx=>decide (x∈ns)).map V.bl:=by
 rw[fZ,GA,GA];refine bJ λx _=>?_;show V.bl _=V.bl _;rw[Jh]
theorem ZAe{i:Nat}{v:V}(h:(ss.map V.str)[i]?=some v):∃x,v=.str x/\ss[i]?=some x:=by
 rw[B1]at h;cases q:ss[i]? with
 |none=>rw[q]at h;cases h
 |some x=>rw[q]at h;simp at h;exact⟨x,h.symm,rfl⟩
theorem Zb(c:0<=j)(h1:j<3):∃r,Bf (Cs.map V.str) j=some (.str r)/\r∈Cs:=by
 obtain⟨x,a,b,_⟩:=Pz (ns:=Cs) c h1;exact⟨x,a,b⟩
def HA(ss:List Str)(x:Str):Bool:=decide (x∈ss)
noncomputable def D5(ns:List Str)(g:Nat)(ss:List Str):List Str:=(ns.drop g).filter (HA ss)++(ns.take g).filter (HA ss)
theorem xv(ns:List Str)(g:Nat)(ss:List Str):(ns.drop g++ns.take g).filter (HA ss)=D5 ns g ss:=Nb ..
theorem O7{g:Nat}:x∈D5 ns g ss↔x∈ns/\x∈ss:=by
 unfold D5;rw[Gb,Nf,Nf];have e:(x∈ns)↔(x∈ns.take g∨x∈ns.drop g):=by
  rw[<- Gb,Hu]
 unfold HA;simp only[decide_eq_true_eq];rw[e];constructor
 .rintro(⟨a,b⟩|⟨a,b⟩)
  .exact⟨.inr a,b⟩
  .exact⟨.inl a,b⟩
 .rintro⟨a|a,b⟩
  .exact .inr ⟨a,b⟩
  .exact .inl ⟨a,b⟩
theorem nX(ns ss:List Str):((ns.map V.str).filter (λv=>DX v (ss.map V.str))).map (λv=>v)=(ns.filter (HA ss)).map V.str:=by
 rw[oa,oR]
 congr 1
 apply ZIp;intro y _;show DX (.str y) (ss.map V.str)=HA ss y;rw[Jh];rfl
def JA(H:Hp)(t:Addr)(r:Str)(g:Int)(ss:List Str):Prop:=∃c,H t=some (.tup [.str r,.int g,.ref c])/\H c=some (.tup (ss.map V.str))
theorem JA.at{K:ZKG}(h:JA H t r g ss):LoopAt K H t r g ss:=by
 obtain⟨c,a,b⟩:=h;exact⟨c,AE.of a,AE.of b⟩
theorem JA.same(s:A9 H H')(h:JA H t r g ss):JA H' t r g ss:=by
 obtain⟨c,a,b⟩:=h;exact⟨c,s _ _ a,s _ _ b⟩
structure Cw (ns:List Str) (r:Str) (g:Int) (ss:List Str):Prop where
 rule:r∈Cs
 g0:0<=g
 g1:g<=(ns.length:Int)
 up:Up ss
 sub:∀x∈ss,x∈ns
theorem Cw.G8(h:Cw ns r g ss):G8 ns r g ss=true:=by
 unfold Lw.G8 JG IT IK;rw[rD h.rule,rD h.g0,rD h.g1,rD h.up,Lx,Lx,Lx,Lx,Hs];intro x hx;exact rD (h.sub x hx)
theorem ag(x:Str)(h:Up ss):Up (wo ss x):=h.filter _
theorem ZD0(nd:ss.Nodup)(h:x∈ss):(wo ss x).length+1=ss.length:=by
 have e:=Rf h;have h1:=hG h;have h2:=lF h nd;have:wo ss x=ss.take (ss.idxOf x)++ss.drop (ss.idxOf x+1):=by
  conv=>lhs;rw[e]
  rw[fE,jx,N8 h1,N8 h2]
 rw[this]
 conv=>rhs;rw[e]
 simp only[BE,Ba];omega
theorem Cw.step(h:Cw ns r g ss)(hx:x∈ns):Cw ns r ((ns.idxOf x:Nat)+1) (wo ss x):=by
 have b:ns.idxOf x<ns.length:=List.idxOf_lt_length_iff.mpr hx;exact⟨h.rule,by omega,by omega,ag x h.up,λy a=>h.sub y (Kc.mp a).1⟩
def gB(K:ZKG):Sp:=λvs H Q _=>∃(a:Addr)(tp:Bool)(ns:List Str)(t:Addr)(r:Str)(g:Int)(ss:List Str),vs=[.ref a,.ref t]/\C4 K tp H a (ns.map V.str)/\LoopAt K H t r g ss/\ns.length<=1000/\K9 H Q (ns.filter (HA ss))
def cR(K:ZKG):Sp:=λvs H Q _=>∃(a:Addr)(tp:Bool)(ns:List Str)(t:Addr)(r:Str)(g:Int)(ss:List Str),vs=[.ref a,.ref t]/\C4 K tp H a (ns.map V.str)/\LoopAt K H t r g ss/\ss.length<64/\G8 ns r g ss=true/\∀H',A9 H H'->Q .AG H'
def eF(K:ZKG):Sp:=λvs H Q _=>∃(a:Addr)(tp:Bool)(ns:List Str)(t:Addr)(r:Str)(g:Nat)(ss:List Str),vs=[.ref a,.ref t]/\H a=some (BI tp (ns.map V.str))/\LoopAt K H t r g ss/\ss.length<64/\G8 ns r g ss=true/\ns.length<=1000/\K9 H Q (D5 ns g ss)
def XN(K:ZKG):Sp:=λvs H Q _=>∃(c:Addr)(ss:List Str)(x:Str),vs=[.ref c,.str x]/\AE K H c (ss.map V.str)/\ss.length<=1000/\∀l H',H l=none->A9 H H'->H' l=some (.tup ((wo ss x).map V.str))->Q (.ref l) H'
def Dv(ns:List Str)(g:Nat)(ss:List Str):Option Str:=(D5 ns g ss).head?
def Lo(ns:List Str)(g:Nat)(ss:List Str):Nat:=match Dv ns g ss with
 |none=>g
 |some x=>ns.idxOf x+1
def Js(ns:List Str)(g:Nat)(ss:List Str):List Str:=match Dv ns g ss with
 |none=>ss
 |some x=>wo ss x
theorem kd{g:Nat}(h:Cw ns r g ss):Cw ns r (Lo ns g ss:Nat) (Js ns g ss)/\(Js ns g ss).length<=ss.length - 1:=by
 unfold Lo Js;cases e:Dv ns g ss with
 |none=>
  refine⟨h,?_⟩;have a:D5 ns g ss=[]:=List.head?_eq_none_iff.mp e;have:ss=[]:=by
   cases hs:ss with
   |nil=>rfl
   |cons x q=>
    have hx:x∈ss:=by rw[hs];exact Cp
    have:x∈D5 ns g ss:=O7.mpr ⟨h.sub x hx,hx⟩;rw[a]at this;simp at this
  show ss.length<=ss.length - 1;rw[this];exact Am _
 |some x=>
  have hx:x∈D5 ns g ss:=ZJ1 e;obtain⟨h1,h2⟩:=O7.mp hx;have:=ZD0 (L0 h.up) h2;exact⟨h.step h1,by show(wo ss x).length<=_;omega⟩
theorem OP:Bf ((x::FK).map V.str) 0=some (.str x):=Ou (by decide) rfl
structure Ent where
 a:Addr
 ns:List Str
 t:Addr
 r:Str
 g:Nat
 ss:List Str
end Lw
namespace L2
section
variable{X:Cx}
def ZEB(K:ZKG):R2:=λx y H Q=>∃a b xs ys,x=.ref a/\y=.ref b/\AE K H a xs/\AE K H b ys/\ys≠[]/\xs.length+ys.length<=sizeLine/\∀p H',A9 H H'->AE K H' p (xs++ys)->Q (.ref p) H'
theorem i6:BB X (binaryOp .Add) (ZEB X.K):=by
 intro Zh s Z H x y v u Q I i g h;obtain⟨a,b,xs,ys,rfl,rfl,k,d,r,o,q⟩:=h
 by_cases hx:xs=[]
 .subst hx;cases i;cases g;obtain⟨A5,l,p1,_⟩:=I.tuple k;obtain⟨Bn,t,p2,_⟩:=I.tuple d;obtain⟨⟨cls,dd,data,sl⟩,ho,j,n,hd⟩:=id p1;obtain⟨⟨ZBs,RW,f,RE⟩,GG,LR,m,c⟩:=id p2;simp only at j hd LR c;subst j hd LR c;have e:A5=[]:=l.S9.mpr rfl;exact concat_meets ⟨_,ho,rfl⟩ ⟨_,GG,rfl⟩ ZBf seq_tuple_add p9 oz (oy _ _)
   (tuple_addW0 a b A5.toArray Bn.toArray n m dd RW sl RE (by simp[e])) ⟨ho,GG,⟨.ref b,H,I,rfl,q b H (A9.refl _) d⟩⟩
 .exact vA Zh s Z H _ _ _ _ Q I i g ⟨a,b,xs,ys,rfl,rfl,k,d,hx,o,λe=>absurd e r,λ_ p hp=>q p _ (Ab hp _) (AE.of AJ)⟩
end
end L2
namespace Lw
open L2
variable{ns rs ss:List Str}{r x:Str}{g i:Nat}{d:AW}
def G3(i g:Nat):Nat:=if i<g then g+1 else g
def FI(p g:Nat):Nat:=if p<g then g - 1 else g
def AW.gap(ns:List Str)(g:Nat):AW->Nat
 | .put _ i=>G3 i g
 | .take x=>FI (ns.idxOf x) g
 | .move x i=>G3 i (FI (ns.idxOf x) g)
 | .turn _ _=>g
def FA:List Str->Str->List Str
 | [],x=>[x]
 |y::r,x=>if J0 x y then x::y::r else y::FA r x
def E8(r:Str)(g i:Nat):Bool:=if decide (V.str r=V.str "all")=true then true else if decide (V.str r=V.str "ahead")=true then decide ((g:Int)<=(i:Int))else false
def AW.G4(r:Str)(g:Nat)(ss:List Str):AW->List Str
 | .put x i=>if E8 r g i=true then FA ss x else ss
 | .take x=>wo ss x
 | .move _ _=>ss
 | .turn _ _=>ss
theorem Ng{x k:Str}:∀{ss:List Str},k∈FA ss x↔k=x∨k∈ss
 | []=>by simp[FA]
 |y::r=>by
  unfold FA;split
  .simp
  .rw[EI,Ng (ss:=r),EI];constructor
   .rintro(h|h|h)
    .exact .inr (.inl h)
    .exact .inl h
    .exact .inr (.inr h)
   .rintro(h|h|h)
    .exact .inr (.inl h)
    .exact .inl h
    .exact .inr (.inr h)
theorem dS{x:Str}:∀{ss:List Str},(FA ss x).length=ss.length+1
 | []=>rfl
 |y::r=>by
  unfold FA;split
  .rfl
  .rw[Ba,dS (ss:=r)];rfl
theorem Rt{x:Str}:∀{ss:List Str},Up ss->x∉ss->Up (FA ss x)
 | [],_,_=>List.pairwise_singleton _ _
 |y::r,h,hx=>by
  obtain⟨h1,h2⟩:=List.pairwise_cons.mp h;unfold FA;split
  .next c=>exact List.pairwise_cons.mpr ⟨λk a=>(List.mem_cons.mp a).elim (λe=>by rw[e];exact c) λa=>Ta c (h1 k a),h⟩
  .next c=>
   refine List.pairwise_cons.mpr ⟨λk a=>?_,Rt h2 λb=>hx (D3 _ b)⟩;rcases Ng.mp a with rfl|a
   .rcases Sz k y with z|z|z
    .exact absurd z c
    .exact absurd (by rw[z];exact Cp) hx
    .exact z
   .exact h1 k a
theorem Xc{ts:List Str}(hp:ts.Perm (ss++[x]))(hs:sortedS ts=true)(h:Up ss)(hx:x∉ss):ts=FA ss x:=by
 have nd:ts.Nodup:=hp.nodup_iff.mpr (T8 (L0 h) hx);refine Pj (PQ hs nd) (Rt h hx) λk=>?_;rw[hp.mem_iff,Ng,Gb,List.mem_singleton];exact or_comm
theorem Cw.len{g:Int}(h:Cw ns r g ss):ss.length<=ns.length:=UP (L0 h.up) h.sub
theorem Cw.led(h:Cw ns r g ss)(ok:d.Ok 40 ns)(nd:ns.Nodup):Cw (d.done ns) r (d.gap ns g:Nat) (d.G4 r g ss):=by
 have g1:=h.g1;cases d with
 |put x i=>
  obtain⟨h1,h2,o,n⟩:=ok;refine⟨h.rule,by omega,?_,?_,?_⟩
  .show((G3 i g:Nat):Int)<=((ins ns x i).length:Int);rw[RL];unfold G3;split <;> omega
  .show Up (if E8 r g i=true then FA ss x else ss)
   split
   .exact Rt h.up λj=>h2 (h.sub x j)
   .exact h.up
  .intro k c;show k∈ins ns x i;rw[Qy];have f:k∈(if E8 r g i=true then FA ss x else ss):=c
   split at f
   .rcases Ng.mp f with z|z
    .exact .inl z
    .exact .inr (h.sub k z)
   .exact .inr (h.sub k f)
 |take x=>
  have hx:x∈ns:=ok;have l:=OZ hx nd;have m:ns.idxOf x<ns.length:=List.idxOf_lt_length_iff.mpr hx;refine⟨h.rule,by omega,?_,ag x h.up,λk c=>?_⟩
  .show((FI (ns.idxOf x) g:Nat):Int)<=((wo ns x).length:Int);unfold FI;split <;> omega
  .obtain⟨a,b⟩:=Kc.mp (show k∈wo ss x from c);exact Kc.mpr ⟨h.sub k a,b⟩
 |move x i=>
  obtain⟨hx,hi⟩:=ok;have l:=OZ hx nd;have m:ns.idxOf x<ns.length:=List.idxOf_lt_length_iff.mpr hx;refine⟨h.rule,by omega,?_,h.up,λk c=>?_⟩
  .show((G3 i (FI (ns.idxOf x) g):Nat):Int)<=((ins (wo ns x) x i).length:Int);rw[RL];unfold G3 FI;split <;> split <;> omega
  .show k∈ins (wo ns x) x i;rw[Qy,Kc]
   by_cases e:k=x
   .exact .inl e
   .exact .inr ⟨h.sub k c,e⟩
 |turn lo hi=>
  obtain⟨h1,h2⟩:=ok;refine⟨h.rule,by omega,?_,h.up,λk c=>(ja h1).mpr (h.sub k c)⟩;show((g:Nat):Int)<=((G7 ns lo hi).length:Int);rw[hZ h1 h2];exact g1
def kN:Sp:=λvs H Q _=>∃(g i:Nat),vs=[.int g,.int i]/\Q (.int (G3 i g:Nat)) H
def dG:Sp:=λvs H Q _=>∃(g p:Nat),vs=[.int g,.int p]/\Q (.int (FI p g:Nat)) H
def kf:Sp:=λvs H Q _=>∃(a t:Addr)(ns:List Str)(g:Nat)(d:AW),vs=[.ref a,.int g,.ref t]/\H a=some (.lst (ns.map V.str))/\H t=some (.tup d.vals)/\d.Ok 40 ns/\∀H',A9 H H'->Q (.int (d.gap ns g:Nat)) H'
def jy:Sp:=λvs H Q _=>∃(t:Addr)(r:Str)(g i:Nat)(c:Addr),vs=[.ref t,.int i]/\H t=some (.tup [.str r,.int g,.ref c])/\Q (.bl (E8 r g i)) H
theorem XO{g:Int}(h:Cw ns r g ss)(ok:d.Ok 40 ns):∀x i,d=.put x i->x∉ss:=by
 rintro x i rfl a;exact ok.2.1 (h.sub x a)
theorem pZ(p g:Nat):((g:Int) - (if decide ((p:Int)<(g:Int))=true then 1 else 0))=((FI p g:Nat):Int):=by
 unfold FI
 by_cases h:p<g
 .rw[tU h,tU (rD (by omega))];omega
 .rw[tJ h,tJ (by simp;omega)];omega
theorem rE(i g:Nat):((g:Int)+(if decide ((i:Int)<(g:Int))=true then 1 else 0))=((G3 i g:Nat):Int):=by
 unfold G3
 by_cases h:i<g
 .rw[tU h,tU (rD (by omega))];omega
 .rw[tJ h,tJ (by simp;omega)];omega
def AW.kind:AW->Str
 | .put _ _ => "put"
 | .take _ => "take"
 | .move _ _ => "move"
 | .turn _ _ => "turn"
theorem Hb(d:AW):Bf d.vals 0=some (.str d.kind):=by cases d <;> rfl
noncomputable def AW.Ol(ns:List Str)(g:Nat):AW->Nat
 | .take x=>FI (ns.idxOf x) g
 | .move x _=>FI (ns.idxOf x) g
 |_=>g
theorem ZCA(g:Nat)(ok:d.Ok 40 ns)(h:DX (.str d.kind) [.str "take",.str "move"]=true):∃x,Bf d.vals 1=some (.str x)/\x∈ns/\d.Ol ns g=FI (ns.idxOf x) g:=by
 cases d with
 |put x i=>(simp only[AW.kind]at h;exact absurd h (by decide +kernel))
 |take x=>exact⟨x,rfl,ok,rfl⟩
 |move x i=>exact⟨x,rfl,ok.1,rfl⟩
 |turn lo hi=>(simp only[AW.kind]at h;exact absurd h (by decide +kernel))
theorem ug(g:Nat)(h:¬ DX (.str d.kind) [.str "take",.str "move"]=true):d.Ol ns g=g:=by
 cases d with
 |put x i=>rfl
 |take x=>exact absurd (by simp only[AW.kind];decide +kernel) h
 |move x i=>exact absurd (by simp only[AW.kind];decide +kernel) h
 |turn lo hi=>rfl
theorem ZCM(g:Nat)(h:DX (.str d.kind) [.str "put",.str "move"]=true):∃i:Nat,Bf d.vals 2=some (.int i)/\d.gap ns g=G3 i (d.Ol ns g):=by
 cases d with
 |put x i=>exact⟨i,rfl,rfl⟩
 |take x=>(simp only[AW.kind]at h;exact absurd h (by decide +kernel))
 |move x i=>exact⟨i,rfl,rfl⟩
 |turn lo hi=>(simp only[AW.kind]at h;exact absurd h (by decide +kernel))
theorem ZF1(g:Nat)(h:¬ DX (.str d.kind) [.str "put",.str "move"]=true):d.gap ns g=d.Ol ns g:=by
 cases d with
 |put x i=>exact absurd (by simp only[AW.kind];decide +kernel) h
 |take x=>rfl
 |move x i=>exact absurd (by simp only[AW.kind];decide +kernel) h
 |turn lo hi=>rfl
def AW.Rm(ss:List Str):AW->List Str
 | .take x=>wo ss x
 |_=>ss
theorem uU{r:Str}{g:Nat}(h:decide (V.str d.kind=V.str "take")=true):∃x,Bf d.vals 1=some (.str x)/\d.Rm ss=wo ss x:=by
 cases d with
 |take x=>exact⟨x,rfl,rfl⟩
 |_=>
  have h':=tZ h;injection h' with h2
  exact absurd h2 (by simp only[AW.kind];decide +kernel)
theorem fQ(h:¬ decide (V.str d.kind=V.str "take")=true):d.Rm ss=ss:=by
 cases d with
 |take x=>exact absurd (by simp only[AW.kind];decide +kernel) h
 |_=>rfl
theorem Vn(h:decide (V.str d.kind=V.str "put")=true):∃x i,d=.put x i:=by
 cases d with
 |put x i=>exact⟨x,i,rfl⟩
 |_=>
  have h':=tZ h;injection h' with h2
  exact absurd h2 (by simp only[AW.kind];decide +kernel)
theorem ki(h:¬ decide (V.str d.kind=V.str "put")=true):d.G4 r g ss=d.Rm ss:=by
 cases d with
 |put x i=>exact absurd (by simp only[AW.kind];decide +kernel) h
 |_=>rfl
theorem Yf(h:E8 r g i=true):AW.G4 r g ss (.put x i)=FA ss x:=by show(if _ then _ else _)=_;rw[tU h]
theorem Zj(h:E8 r g i=false):AW.G4 r g ss (.put x i)=ss:=by show(if _ then _ else _)=_;rw[tJ (by rw[h];decide)]
theorem Yj(h:decide (V.str d.kind=V.str "take")=true):∃x,d=.take x:=by
 cases d with
 |take x=>exact⟨x,rfl⟩
 |_=>
  have h':=tZ h;injection h' with h2
  exact absurd h2 (by simp only[AW.kind];decide +kernel)
theorem ZCm(h:decide (V.str d.kind=V.str "move")=true):∃x i,d=.move x i:=by
 cases d with
 |move x i=>exact⟨x,i,rfl⟩
 |_=>
  have h':=tZ h;injection h' with h2
  exact absurd h2 (by simp only[AW.kind];decide +kernel)
theorem ZHC(h1:¬ decide (V.str d.kind=V.str "put")=true)(h2:¬ decide (V.str d.kind=V.str "take")=true)(a:¬ decide (V.str d.kind=V.str "move")=true):∃lo hi,d=.turn lo hi:=by
 cases d with
 |put x i=>exact absurd (by simp only[AW.kind];decide +kernel) h1
 |take x=>exact absurd (by simp only[AW.kind];decide +kernel) h2
 |move x i=>exact absurd (by simp only[AW.kind];decide +kernel) a
 |turn lo hi=>exact⟨lo,hi,rfl⟩
theorem ZAT(h1:¬ decide (V.str d.kind=V.str "put")=true)(h2:¬ decide (V.str d.kind=V.str "take")=true):d.G4 r g ss=ss:=by
 rw[ki h1,fQ h2]
noncomputable def AW.v1:AW->V
 | .put x _=>.str x
 | .take x=>.str x
 | .move x _=>.str x
 | .turn lo _=>.int lo
theorem ka(d:AW):Bf d.vals 1=some d.v1:=by cases d <;> rfl
theorem ZI1(y:Str)(d:AW):SR (.str y) d.v1=true:=by cases d <;> rfl
def AW.made(ns:List Str):AW->List Str
 | .put x _=>wo ns x
 | .take x=>wo ns x
 | .move x _=>wo ns x
 | .turn _ _=>ns
theorem ZAq(ns:List Str)(d:AW):((ns.map V.str).filter (J1 d.v1)).map (λv=>v)=(d.made ns).map V.str:=by
 cases d with
 |turn lo hi=>exact uj ns lo
 |_=>exact Ow ns _
theorem ZCw(ns:List Str)(d:AW):(d.made ns).length<=ns.length:=by
 cases d with
 |turn lo hi=>exact Am _
 |_=>exact Ga _ _
theorem ZBE(h:decide (V.str d.kind=V.str "turn")=true):∃lo hi,d=.turn lo hi:=by
 cases d with
 |turn lo hi=>exact⟨lo,hi,rfl⟩
 |_=>
  have h':=tZ h;injection h' with h2
  exact absurd h2 (by simp only[AW.kind];decide +kernel)
theorem sL(h:¬ (!decide (V.str d.kind=V.str "take"))=true):d.done ns=d.made ns:=by
 have h':decide (V.str d.kind=V.str "take")=true:=by simpa using h
 obtain⟨x,rfl⟩:=Yj h';rfl
theorem zX(ok:d.Ok 40 ns)(nd:ns.Nodup)(h1:¬ decide (V.str d.kind=V.str "turn")=true)(h2:(!decide (V.str d.kind=V.str "take"))=true):
  ∃(x:Str)(i:Nat),Bf d.vals 2=some (.int i)/\d.v1=.str x/\i<=(d.made ns).length/\d.done ns=ins (d.made ns) x i:=by
 cases d with
 |put x i=>
  refine⟨x,i,rfl,rfl,?_,?_⟩
  .show i<=(wo ns x).length;rw[N8 ok.2.1];exact ok.2.2.1
  .show ins ns x i=ins (wo ns x) x i;rw[N8 ok.2.1]
 |take x=>exact absurd h2 (by simp only[AW.kind];decide +kernel)
 |move x i=>
  refine⟨x,i,rfl,rfl,?_,rfl⟩;show i<=(wo ns x).length;have:=OZ ok.1 nd;have:=ok.2;omega
 |turn lo hi=>exact absurd (by simp only[AW.kind];decide +kernel) h1
def Ra:Sp:=λvs H Q _=>∃r:Str,vs=[.str r]/\r∈Cs/\Q .AG H
theorem MK(nd:rs.Nodup)(h:rs[g]?=some x):rs.idxOf x=g:=by
 obtain⟨hg,e⟩:=List.getElem?_eq_some_iff.mp h;have hx:x∈rs:=DR h;have a:rs.idxOf x<rs.length:=List.idxOf_lt_length_iff.mpr hx;have d:rs[rs.idxOf x]=x:=bE a;have b:=List.pairwise_iff_getElem.mp nd;rcases ZJ7 (rs.idxOf x) g with c|c|c
 .exact absurd (d.trans e.symm) (b _ _ a hg c)
 .exact c
 .exact absurd (e.trans d.symm) (b _ _ hg a c)
end Lw
namespace L2
section
variable{X:Cx}{Zh:ZKH}{Z:St}{H2:Hp}{s2:Shared}{elt iter:Expr}{x z:Str}{px pz tp pos:Pos}{tk:Nat}{scope:Scope}{Ar:List Str}{js:List Nat}{te:TE}{J:It}{fp:List Addr}{it:Addr}
 {tn:Nat->Heap->Prop}
end
end L2
namespace Fz
open L2 Lw
variable{E:Ent0}{ss:List Slot}{Z:L2.St}{F F' H H':Hp}{js:List Nat}{ta tb te:TE}{nx:List Slot->Prop}{R:Ae}{i j:Nat}{ns:List Int}{wi:TI}{α β:Type}{xs:List PV}
section
variable[Xw]
variable{K:ZKG}{k:PV->Prop}
theorem Sg.Oe(S:Sg E ss Z F H){p:Addr}(hi:ss[i]?=some .AD)(e:Z[i]?=some (some (.ref p)))(s:BA p H H'):Mv E ss Z F H F H':=by
 obtain⟨g,b,fp,_,f⟩:=S.ok i _ hi;rw[e]at b;cases b;refine S.step (A9.refl _) (λa o q=>s.same a o (Ed q fp) (S.fh a o q)) (λa o n q=>s.same a o (λz=>?_) q) (λa o q=>.inl q) λj l c d=>?_
 .rw[z]at n;exact n i hi e
 .by_cases z:l=p
  .rw[z];exact s.AD
  .exact Be.keep (S.EW c d) λo q=>s.same l o z q
theorem ZFk(hi:ss[i]?=some .AD)(h:Wp ss te λx=>∃m,x=.int m/\0<m/\m<10 ^ 18/\∀r:Int,0<=r->r<m->k (.int r)):Wp ss (C0 IV [] E0 (AX (BJ i) (AX te B4))) k:=⟨λE Z F H Q S q=>by
 obtain⟨p,e,_⟩:=S.ok i _ hi;refine⟨_,e,h.go E Z F H _ S λv x F1 H1 a r⟨m,f,d,PY,kk⟩=>?_⟩;subst f;cases r.inv;exact⟨p,m,rfl,a.st.EW hi e,d,PY,λr H2 c b s=>q _ _ F1 H2 (a.trans (a.st.Oe hi e s)) (.int r) (kk r c b)⟩⟩
theorem gs{sp:Sp}{k:List PV->Prop}(GR:sp=ZR)(hi:ss[i]?=some .AD)(h:Wp ss te λx=>∃m,x=.int m/\1<=m/\m<=100/\∀ns:List Str,(ns.length:Int)<=m->(∀x∈ns,Nm x)->ns.Nodup->k (ns.map PV.str)):Wn ss (C0 sp [] E0 (AX (BJ i) (AX te B4))) k:=⟨λE Z F H Q S q=>by
 subst GR;obtain⟨p,e,_⟩:=S.ok i _ hi;refine⟨_,e,h.go E Z F H _ S λv x F1 H1 a r⟨m,g,c,PY,kk⟩=>?_⟩;subst g;cases r.inv;refine⟨p,m,rfl,a.st.EW hi e,c,PY,λl H2 ns b s Ck d f nd=>?_⟩;have m2:=a.st.Oe hi e s;exact q l _ _ F1 H2 (a.trans m2) (a.st.Bd b) (a.none b) Ck (Kk ns) (kk ns d f nd)⟩
def D7(K:ZKG)(ns:List Int):Hp->V->Prop:=λF v=>∃a,v=.ref a/\AK K F a (ns.map V.int)
theorem X7(K:ZKG)(ns:List Int):∀(v:V)(F F':Hp),A9 F F'->D7 K ns F v->D7 K ns F' v:=λv F F' s AO=>by obtain⟨a,e,h⟩:=AO;exact⟨a,e,by
 rcases h with(h|⟨o,h⟩)|h
 .exact .inl (.inl (s _ _ h))
 .exact .inl (.inr ⟨o,s _ _ h⟩)
 .exact .inr h⟩
theorem ZHB(hi:ss[i]?=some (.raw (D7 K ns)))(h:k (.int ns.length)):Wp ss (DA (WZ K) (AX (BJ i) B4)) k:=⟨λE Z F H Q S q=>by
 obtain⟨v,e,⟨a,c,b⟩,st⟩:=S.ok i _ hi;subst c;obtain⟨d,ea,JX⟩:=X7 K ns _ F H S.fh ⟨a,rfl,b⟩;cases ea;refine⟨_,e,a,_,rfl,.inl JX,?_⟩;rw[AS];exact q _ _ F H (.refl S) (.int _) h⟩
theorem YX(hi:ss[i]?=some (.raw (D7 K ns)))(h:Wp ss te λx=>∃m,x=.int m/\0<=m/\m<=1000/\nx (ss.set j .AD)):Ws ss (GF (C0 (ZT K) [] E0 (AX (BJ i) (AX te B4))) (ES j)) nx R:=⟨λE D Z F H S hn w=>by
 obtain⟨v,e,⟨a,o,y⟩,st⟩:=S.ok i _ hi;subst o;refine⟨_,e,h.go E Z F H _ S λv x F1 H1 c r⟨m,q,n,PY,kk⟩=>?_⟩;subst q;cases r.inv;obtain⟨t,f,d,_⟩:=c.st.ok i _ hi;rw[e]at f;cases f;obtain⟨z,ea,JX⟩:=X7 K ns _ F1 H1 c.st.fh d;cases ea;refine⟨a,ns,m,rfl,JX,n,PY,λp H2 hp s g=>?_⟩;have m2:=c.st.grow s;exact hn _ _ F1 H2 kk (m2.st.setG ⟨p,rfl,c.st.Bd hp,.inl (c.st.EU hp),g⟩ λl e b u _ hu k=>by cases e;exact c.st.Sk hu hp k) c.ff⟩
end
section
variable{K:ZKG}
theorem ZEj{N:List Str}{vs:List V}{Q:VK}{X:XK}{t:TS}(h:Ob K vs H Q X)(hw:∀ns:List Int,ns.length<=63->Ws (.raw (D7 K ns)::List.replicate (N.length - 1) .any) t (λ_=>False) (.is λp=>p=.bl true)):t { nx:=λ_ H'=>Q .AG H',rt:=Q } (L2.start N vs) H:=by
 obtain⟨a,ns,rfl,c,b,q⟩:=h;have S:Sg (E3 [] H H) [.raw (D7 K ns)] [some (.ref a)] H H:=by
  have nn:∀{p:Prop}(a:Addr),a∈([]:List Addr)->p:=λa h=>absurd h B2;refine⟨⟨A9.refl _,A9.refl _,λ_ _ _ e=>e,λ_ _ e=>.inl e,λa h=>nn a h,λa h=>nn a h,λa h=>nn a h,λa h=>nn a h,λa h=>nn a h,λa h=>nn a h⟩,rfl,λi s hi=>?_,λi j s u l C5 hi d ms=>?_⟩
  .cases i with
   |zero=>cases hi;exact⟨_,rfl,⟨a,rfl,c⟩,X7 K ns _⟩
   |succ i=>simp at hi
  .cases i with
   |zero=>cases hi;cases ms
   |succ i=>simp at hi
 refine(hw ns b).go (Ru (E3 [] H H)) _ _ H H (S.grown _) (λ_ _ _ _ h=>h.elim) λv F' H' f ok=>?_;obtain⟨p,r,rfl⟩:=ok;cases r.inv;exact q H'
end
section
variable[Xw]
variable{K:ZKG}{k:PV->Prop}
theorem Wi.mono{k k':List PV->Prop}(h:Wi ss wi k)(i:∀xs,k xs->k' xs):Wi ss wi k':=⟨λE Z F H R S q=>h.go E Z F H R S λJ xs F' H' m s kk=>q J xs F' H' m s (i xs kk)⟩
theorem IW{tt:TT}{k:List PV->Prop}(c:α->PV)(f:α->Bool)(g:α->PV)
  (h:Wi ss wi λxs=>∃ns:List α,xs=ns.map c/\ns.length<=100000/\(∀x∈ns,Wt (EC js ss++[.is (c x)]) tt λb=>b=f x)/\(∀x∈ns,f x=true->Wp (EC js ss++[.is (c x)]) te λp=>p=g x)/\k ((ns.filter f).map g))
  (inj:∀x y,c x=c y->x=y) (nd:js.Nodup:=by decide) (np:RO js ss=true:=by rfl):Wn ss (KD wi js tt te) k:=by
 by_cases hα:Nonempty α
 .obtain⟨l⟩:=hα;have inv:∀p:PV,∃x:α,∀y,c y=p->y=x:=λp=>by
   by_cases q:∃y,c y=p
   .obtain⟨y,a⟩:=q;exact⟨y,λz i=>inj _ _ (i.trans a.symm)⟩
   .exact⟨l,λy a=>absurd ⟨y,a⟩ q⟩
  let d:PV->α:=λp=>Classical.choose (inv p)
  have hd:∀x,d (c x)=x:=λx=>(Classical.choose_spec (inv (c x)) x rfl).symm;refine Xj (λp=>f (d p)) (λp=>g (d p)) (h.mono λxs⟨ns,e,i,h1,h2,kk⟩=>?_) nd np;subst e;refine⟨by rw[AS];exact i,λx hx=>?_,λx hx j=>?_,?_⟩
  .obtain⟨y,a,rfl⟩:=List.mem_map.mp hx;rw[hd];exact h1 y a
  .obtain⟨y,a,rfl⟩:=List.mem_map.mp hx;rw[hd]at j ⊢;exact h2 y a j
  .have e:((ns.map c).filter λp=>f (d p)).map (λp=>g (d p))=(ns.filter f).map g:=by
    rw[oR,GA]
    congr 1
    .funext x;show g (d (c x))=g x;rw[hd]
    .congr 1;funext x;show f (d (c x))=f x;rw[hd]
   rw[e];exact kk
 .refine Xj (λ_=>true) (λp=>p) (h.mono λxs⟨ns,e,i,h1,h2,kk⟩=>?_) nd np;have m:ns=[]:=by
   cases ns with
   |nil=>rfl
   |cons x r=>exact absurd ⟨x⟩ hα
  subst m;subst e;exact⟨by simp,λx hx=>absurd hx (by simp),λx hx=>absurd hx (by simp),kk⟩
theorem str_inj:∀x y:Str,PV.str x=PV.str y->x=y:=λ_ _ e=>by injection e
theorem Z1:∀x y:Nat,PV.int (x:Int)=PV.int (y:Int)->x=y:=λ_ _ e=>by injection e with e;omega
theorem uG(h:Wp ss ta λp=>∃x,p=.str x/\Wq ss tb λ_ ys=>∃ns:List Str,ys=ns.map PV.str/\k (.bl (decide (x∈ns)))):Wp ss (By (Et K false) ta tb) k:=dE h
theorem ZE9(h:Wp ss ta λp=>∃x,p=.str x/\Wq ss tb λ_ ys=>∃ns:List Str,ys=ns.map PV.str/\k (.bl (!decide (x∈ns)))):Wp ss (By (Et K true) ta tb) k:=dE h
theorem kY(h:Wq ss ta λtp xs=>∃ns:List Str,xs=ns.map PV.str/\Wq ss tb λBV ys=>BV=tp/\∃ms:List Str,ys=ms.map PV.str/\k (.bl (decide (ns=ms)))):Wp ss (By (ON K false) ta tb) k:=lD h
theorem ZHF(h:Wq ss ta λtp xs=>∃ns:List Str,xs=ns.map PV.str/\Wq ss tb λBV ys=>BV=tp/\∃ms:List Str,ys=ms.map PV.str/\k (.bl (!decide (ns=ms)))):Wp ss (By (ON K true) ta tb) k:=lD h
theorem Wq.mono{k k':Bool->List PV->Prop}(h:Wq ss te k)(i:∀b xs,k b xs->k' b xs):Wq ss te k':=⟨λE Z F H Q S q=>h.go E Z F H Q S λv tp xs F' H' m s kk=>q v tp xs F' H' m s (i tp xs kk)⟩
theorem Wo.mono{t:TO}{k k':Option Int->Prop}(h:Wo ss t k)(i:∀o,k o->k' o):Wo ss t k':=⟨λE Z F H Q S q=>h.go E Z F H Q S λo F' H' m kk=>q o F' H' m (i o kk)⟩
theorem zI{tl th:TO}{k:Bool->List PV->Prop}(h:Wq ss te λtp xs=>Wo ss tl λlo=>Wo ss th λhi=>k tp (EG xs lo hi)):Wz ss (O5 (Um K) te tl th) k:=
 Hc (YC (h.mono λtp xs h=>h.mono λlo h=>h.mono λhi h=>by
  cases tp
  .exact⟨_,.inl ⟨rfl,h⟩⟩
  .exact⟨_,.inr ⟨rfl,h⟩⟩))
theorem rF(c:α->β)(xs:List α)(lo hi:Option Int):EG (xs.map c) lo hi=(EG xs lo hi).map c:=by
 unfold EG;rw[AS,Nd,Nc]
theorem cg(c:α->β)(xs ys:List α):xs.map c++ys.map c=(xs++ys).map c:=by rw[CD]
theorem kX(xs:List α)(g:Nat):EG xs none (some (g:Int))=xs.take g:=by
 unfold EG;rw[HT.MO,HT.Qh,UT,QU];rcases QQ g xs.length with h|h
 .rw[Kr h]
 .rw[QR h,Hv,QP h]
theorem Qd(xs:List α)(g:Nat):EG xs (some (g:Int)) none=xs.drop g:=by
 unfold EG;rw[HT.MO,HT.Qh];rcases QQ g xs.length with h|h
 .rw[Kr h,QP (by rw[Co];omega)]
 .rw[QR h,oN,ZIn h];simp
theorem SV(xs:List α)(lo hi:Option Int):(EG xs lo hi).length<=xs.length:=by
 unfold EG;rw[Bk,Co];omega
theorem ZBD(g:α->Bool)(xs:List α):xs.map (λx=>PV.bl (g x))=(xs.map g).map PV.bl:=by rw[GA];rfl
theorem Nl{ns:List Str}(h:i<ns.length):L2.Bf (ns.map PV.str) (i:Int)=some (.str (ns.getD i "")):=by
 have e:(ns.map PV.str)[i]?=some (.str (ns.getD i "")):=by rw[B1,B9 h,Ew,B9 h];rfl
 exact L2.P0 e
variable{ys:List PV}
theorem ZBH(h:Wq ss ta λ_ xs=>∃ns:List Str,xs=ns.map PV.str/\Wp ss tb λp=>∃x,p=.str x/\x∈ns/\k (.int (ns.idxOf x:Nat))):Wp ss (C0 Kz [] E0 (AX ta (AX tb B4))) k:=⟨λE Z F H Q S q=>
 h.go E Z F H _ S λv tp xs F1 H1 a sv⟨ns,e,h2⟩=>h2.go E Z F1 H1 _ a.st λv2 p2 F2 H2 m2 c⟨x,d,hx,kk⟩=>by
  subst e;subst d;cases c.inv;obtain⟨l,vs,rfl,b,r⟩:=(sv.mv m2).seq m2.st;rw[r.strs]at b;exact⟨l,tp,ns,x,rfl,b,hx,q _ _ F2 H2 (a.trans m2) (.int _) kk⟩⟩
def Jb(xs:List PV):List PV:=(List.range xs.length).map λi:Nat=>.tup [.int (i:Int),xs.getD i .AG]
theorem Mh(xs:List PV):(Jb xs).length=xs.length:=by simp[Jb]
theorem V4{x:PV}(h:xs[i]?=some x):(Jb xs)[i]?=some (.tup [.int (i:Int),x]):=by
 have hi:i<xs.length:=(List.getElem?_eq_some_iff.mp h).1;unfold Jb;rw[B1,oU hi];show some (PV.tup [PV.int (i:Int),xs.getD i PV.AG])=_;rw[Ew,h];rfl
theorem fq{p:PV}(h:(Jb xs)[i]?=some p):∃x,xs[i]?=some x/\p=.tup [.int (i:Int),x]:=by
 have hi:i<xs.length:=by have:=(List.getElem?_eq_some_iff.mp h).1;rwa [Mh]at this
 have e:=B9 hi;refine⟨xs[i],e,?_⟩;rw[V4 e]at h;exact(BX h).symm
theorem zf{k:List PV->Prop}(h:Wz ss te λ_ xs=>k (Jb xs)):Wi ss (XG K (AX te B4)) k:=⟨λE Z F H R S q=>
 h.go E Z F H _ S λv tp xs F1 H1 b f kk=>by
  obtain⟨l,vs,n,a,r⟩:∃l vs,v=.ref l/\(∀(ss:List Slot)(Z:L2.St)(F H:Hp),A9 F1 F->Sg E ss Z F H->H l=some (BI tp vs))/\Aa F1 vs xs:=by
   cases tp with
   |true=>
    have j:Rep F1 v (.tup xs):=f;cases j with
    |tup e r=>exact⟨_,_,rfl,λss Z F H s S=>S.fh _ _ (s _ _ e),r⟩
   |false=>
    obtain⟨l,vs,e,h1,r⟩:=f;refine⟨l,vs,e,λss Z F H s S=>?_,r⟩;rcases h1 with h1|⟨hA,h1⟩
    .exact S.fh _ _ (s _ _ h1)
    .exact S.keep _ _ hA h1
  subst n;refine⟨l,tp,vs,rfl,BI.sq (a ss Z F1 H1 (A9.refl _) b.st),q _ (Jb xs) F1 H1 b ⟨λss Z F H i s S hi=>?_,λss Z F H s S=>?_,λss Z F H i x H' s S hi y=>?_⟩ kk⟩
  .rw[Mh]at hi;exact⟨BI.sq (a ss Z F H s S),by rw[r.length];exact hi⟩
  .refine⟨BI.sq (a ss Z F H s S),?_⟩;rw[Mh,r.length];exact Am _
  .obtain⟨p,y,g,ex,hp,o⟩:=y;subst ex;subst o;obtain⟨z,d,c⟩:=r.get' g;have m:=S.alloc hp (.tup [.int i,y]);exact⟨_,_,V4 d,m,.tup AJ (.cons (.int _) (.one (c.mono (s.trans m.ff))))⟩⟩
theorem ZBz{y:PV}(hi:ss[i]?=some (.own xs))(k:ss[j]?=some (.own ys))(C5:i≠j)(w:ys[ys.length - 1]?=some y)(h:Wp (ss.set j (.own ys.dropLast)) te λp=>xs.length<=99999/\nx ((ss.set j (.own ys.dropLast)).set i (.own (xs++[.tup [y,p]])))):
  Ws ss (Jn (P2 K "list" OF (BJ i) (AX (QC (AX (Y6 K "list" VT (BJ j)) (AX te B4))) B4))) nx R:=⟨λE D Z F H S hn I=>by
 obtain⟨l,vs,e,L,J,B,r⟩:=S.ok i _ hi;obtain⟨l2,ws,f,A,z,m,b⟩:=S.ok j _ k;obtain⟨u,hu,s⟩:=b.get w;have d:Aa F ws.dropLast ys.dropLast:=by
  rw[ZIl,ZIl,b.length];exact b.take _
 refine⟨_,e,.inl ⟨rfl,_,AK.of B⟩,_,f,.inl ⟨rfl,_,AK.of m⟩,l2,ws,u,rfl,rfl,m,by rw[b.length];exact hu,?_⟩;have C:=S.put k f A z d;refine h.go E Z F _ _ C λv p F1 H1 c q⟨t,kk⟩=>?_;refine⟨(by show 2<=sizeLine;decide),λa x=>?_⟩;have m2:=c.st.alloc x (.tup [u,v]);have o:(ss.set j (.own ys.dropLast))[i]?=some (.own xs):=by rw[CZ (BW C5)];exact hi
 obtain⟨G,CP,n,EJ,CU,PH,g⟩:=m2.st.ok i _ o;rw[e]at n;cases n;refine⟨l,CP,_,rfl,rfl,PH,Mf (by rw[g.length];exact t),?_⟩;have rt:Rep (upd F1 a (.tup [u,v])) (.ref a) (.tup [y,p]):=.tup AJ (.cons (s.mono (c.ff.trans m2.ff)) (.one (q.mono m2.ff)));exact hn _ Z _ _ kk (m2.st.put o e EJ CU (g.append (.one rt))) (c.ff.trans m2.ff)⟩
theorem wy{k:List PV->Prop}(c:α->PV)(g:α->PV)
  (h:Wi ss wi λxs=>∃ns:List α,xs=ns.map c/\ns.length<=100000/\(∀x∈ns,Wp (EC js ss++[.is (c x)]) te λp=>p=g x)/\k (ns.map g))
  (inj:∀x y,c x=c y->x=y) (nd:js.Nodup:=by decide) (np:RO js ss=true:=by rfl):Wn ss (KD wi js Md te) k:=
 IW c (λ_=>true) g (h.mono λxs AO=>by obtain⟨ns,e,a,h1,kk⟩:=AO;exact⟨ns,e,a,λx hx=>SG rfl,λx hx _=>h1 x hx,by rw[List.filter_eq_self.mpr (λ_ _=>rfl)];exact kk⟩) inj nd np
noncomputable def Zr(a:Str×Str):PV:=.tup [.str a.1,.str a.2]
theorem qg{r:List V->Hp->VK->Prop}(c:r=λxs H Q=>(∃i,xs=[.int i]/\Q (.int i) H)∨∃k,xs=[.bl k]/\Q (.int (if k then 1 else 0)) H)(h:Wp ss te λp=>∃b,p=.bl b/\k (.int (if b then 1 else 0))):Wp ss (DA r (AX te B4)) k:=⟨λE Z F H Q S q=>
 h.go E Z F H _ S λv p F1 H1 a r AO=>by
  obtain⟨b,e,kk⟩:=AO;subst c;subst e;cases r.inv;exact .inr ⟨b,rfl,q _ _ F1 H1 a (.int _) kk⟩⟩
end
theorem KY{c A B:Prop}[Decidable c](h:c)(a:A):if c then A else B:=by rw[tU h];exact a
theorem qk{a b:List Str}(p:a.Perm b)(d:sortedS a=true)(c:sortedS b=true):a=b:=by
 refine List.Perm.eq_of_pairwise (le:=λa b=>¬ J0 b a) (λx y _ _ h1 h2=>?_) (Y1 d) (Y1 c) p;rcases Sz x y with z|z|z
 .exact absurd z h2
 .exact z
 .exact absurd z h1
end Fz
namespace Fz
open L2 Lw
variable{d:AW}{t:Addr}
section
variable[Xw]
variable{E:Ent0}{ss:List Slot}{Z:L2.St}{F H F' H':Hp}{K:ZKG}{js:List Nat}{ta tb tc te:TE}{k:PV->Prop}{nx:List Slot->Prop}{R:Ae}{xs ys:List PV}
def dP:AW->PV
 | .put x i=>.tup [.str "put",.str x,.int i]
 | .take x=>.tup [.str "take",.str x]
 | .move x i=>.tup [.str "move",.str x,.int i]
 | .turn lo hi=>.tup [.str "turn",.int lo,.int hi]
theorem yV(h:F t=some (.tup d.vals)):Rep F (.ref t) (dP d):=by
 cases d with
 |put x i=>exact .tup h (.cons (.str _) (.cons (.str _) (.one (.int _))))
 |take x=>exact .tup h (.cons (.str _) (.one (.str _)))
 |move x i=>exact .tup h (.cons (.str _) (.cons (.str _) (.one (.int _))))
 |turn lo hi=>exact .tup h (.cons (.str _) (.cons (.int _) (.one (.int _))))
theorem RX{v:V}(r:Rep F v (dP d)):∃t,v=.ref t/\F t=some (.tup d.vals):=by
 cases d <;> (obtain⟨a,vs,rfl,h,b⟩:=r.inv;cases b.enc rfl;exact⟨a,rfl,h⟩)
theorem Sg.adopt(S:Sg E ss Z F H)(m:Mv E ss Z F H F H'){o:HO}(b:H t=none)(e:H' t=some o):Mv E ss Z F H (upd F t o) H':=by
 have fn:=S.Bd b;refine S.step (Ab fn o) (λa u q=>?_) m.hh (λa u q=>?_) λi l hi c=>m.st.EW hi c
 .by_cases z:a=t
  .subst z;rw[AJ]at q;rw[<- q];exact e
  .rw[Ah z]at q;exact m.st.fh a u q
 .by_cases z:a=t
  .subst z;exact .inr b
  .rw[Ah z]at q;exact .inl q
theorem ic{i:Nat}(hi:ss[i]?=some .AD)(h:Wq ss ta λtp xs=>tp=false/\∃ns:List Str,xs=ns.map PV.str/\Wp ss tb λp=>∃m:Nat,p=.int m/\(∀x∈ns,Nm x)/\ns.length<=m/\1<=m/\m<=100/\∀d:AW,d.Ok m ns->k (dP d)):
  Wp ss (C0 Rr [] E0 (AX (BJ i) (AX ta (AX tb B4)))) k:=⟨λE Z F H Q S q=>by
 obtain⟨p,e,_⟩:=S.ok i _ hi;refine⟨_,e,h.go E Z F H _ S λv tp xs F1 H1 a sv⟨w,ns,ex,h2⟩=>h2.go E Z F1 H1 _ a.st λv2 p2 F2 H2 m2 c⟨m,y,n,g,h1,o,kk⟩=>?_⟩;subst w;subst ex;subst y;cases c.inv;obtain⟨l,vs,u,hn,b,r⟩:=sv.mv m2;subst u;rw[r.strs]at b;refine⟨p,l,m,ns,rfl,m2.st.EW hi e,b,λz=>hn i hi (z▸e),n,g,h1,o,λd t H3 j s A hd=>?_⟩;have f:=m2.st.adopt (m2.st.Oe hi e s) j A;exact q _ _ _ H3 (a.trans (m2.trans f)) (yV AJ) (kk d hd)⟩
theorem jH{k:List PV->Prop}(h:Wq ss ta λtp xs=>tp=false/\∃ns:List Str,xs=ns.map PV.str/\Wp ss tb λp=>∃d:AW,p=dP d/\d.Ok 40 ns/\ns.length<=40/\ns.Nodup/\k ((d.done ns).map PV.str)):
  Wn ss (C0 ZU [] E0 (AX ta (AX tb B4))) k:=⟨λE Z F H Q S q=>
 h.go E Z F H _ S λv tp xs F1 H1 b sv⟨c,ns,ex,h2⟩=>h2.go E Z F1 H1 _ b.st λv2 p2 F2 H2 m2 g⟨d,o,hd,j,nd,kk⟩=>by
  subst c;subst ex;subst o;obtain⟨l,vs,n,e,r⟩:=(sv.mv m2).seq m2.st;subst n;rw[r.strs]at e;obtain⟨t,c,m⟩:=RX g;subst c;refine⟨l,t,ns,d,rfl,e,m2.st.fh _ _ m,hd,j,nd,λa H3 f s u=>?_⟩;have i:=m2.st.grow s;exact q a _ _ F2 H3 (b.trans (m2.trans i)) (m2.st.Bd f) ((b.trans m2).none f) u (Kk _) kk⟩
end
end Fz
namespace Fz
open L2 Lw
section
variable[Xw]
variable{E:Ent0}{ss:List Slot}{Z:L2.St}{F H F' H':Hp}{K:ZKG}{js:List Nat}{ta tb tc te:TE}{k:PV->Prop}{nx:List Slot->Prop}{R:Ae}{xs ys:List PV}{P:Program}{w:World}
theorem zA{k:List PV->Prop}(h:Wq ss te λ_ xs=>∃ns:List Str,xs=ns.map PV.str/\ns.length<64/\∀ts:List Str,ts.length=(dd ns).length->(∀x,(dd ns).any (· == x)=true↔x∈ts)->sortedS ts=true->k (ts.map PV.str)):
  Wn ss (DA (gJ P w) (AX (DA (λxs H Q=>∃(p:Addr)(tp:Bool)(ss:List Str),xs=[.ref p]/\C4 K tp H p (ss.map V.str)/\ss.length<4000/\∀l,H l=none->Q (.ref l) (upd H l (Mn P w l (λk'=>(dd ss).any (· == k')) (dd ss).length))) (AX te B4)) B4)) k:=⟨λE Z F H Q S q=>
 h.go E Z F H _ S λv tp xs F1 H1 c sv AO=>by
  obtain⟨ns,e,i,kk⟩:=AO;subst e;obtain⟨l,vs,rfl,f,r⟩:=sv.seq c.st;rw[r.strs]at f;refine⟨l,tp,ns,rfl,BI.sq f,by omega,λa m=>?_⟩;have m2:=c.st.make m (Mn P w a (λk'=>(dd ns).any (· == k')) (dd ns).length)
  refine⟨a,_,_,rfl,AJ,Hw (Yw ns) i,λb ts d Ck j hs=>?_⟩;have g:=m2.st.make d (.lst (ts.map V.str));exact q b _ _ F1 _ (c.trans (m2.trans g)) (m2.st.Bd d) ((c.trans m2).none d) AJ (Kk ts) (kk ts Ck j hs)⟩
end
end Fz
namespace Lw
open L2
variable{c t:Addr}{r:Str}{g:Int}{ss:List Str}
def fP:Sp:=λvs H Q _=>∃(a t:Addr)(tp:Bool)(ns:List Str)(g:Nat)(d:AW),vs=[.ref a,.int g,.ref t]/\H a=some (BI tp (ns.map V.str))/\H t=some (.tup d.vals)/\d.Ok 40 ns/\Q (.int (d.gap ns g:Nat)) H
def ED(H:Hp)(t c:Addr)(r:Str)(g:Int)(ss:List Str):Prop:=H t=some (.tup [.str r,.int g,.ref c])/\H c=some (.tup (ss.map V.str))
theorem ED.h{H:Hp}(h:ED H t c r g ss):JA H t r g ss:=⟨c,h⟩
theorem ED.same{H H':Hp}(s:A9 H H')(h:ED H t c r g ss):ED H' t c r g ss:=⟨s _ _ h.1,s _ _ h.2⟩
def fF:Sp:=λvs H Q _=>∃(tl td a:Addr)(r:Str)(g:Nat)(ss:List Str)(d:AW),vs=[.ref tl,.ref td]/\ED H tl a r g ss/\H td=some (.tup d.vals)/\ss.length<=60/\Up ss/\(∀x i,d=.put x i->x∉ss)/\
 ∀c H',(H c=none∨c=a)->A9 H H'->H' c=some (.tup ((d.G4 r g ss).map V.str))->Q (.ref c) H'
def SU:Sp:=λvs H Q _=>∃(a tl td c:Addr)(tp:Bool)(ns:List Str)(r:Str)(g:Nat)(ss:List Str)(d:AW),vs=[.ref a,.ref tl,.ref td]/\H a=some (BI tp (ns.map V.str))/\ED H tl c r g ss/\H td=some (.tup d.vals)/\d.Ok 40 ns/\Cw ns r g ss/\ns.length<=40/\
 ∀t' b H',H t'=none->(H b=none∨b=c)->A9 H H'->ED H' t' b r (d.gap ns g:Nat) (d.G4 r g ss)->Q (.ref t') H'
def RY:Sp:=λvs H Q _=>∃(a tl td c:Addr)(ns:List Str)(r:Str)(g:Nat)(ss:List Str)(d:AW),vs=[.ref a,.ref tl,.ref td]/\H a=some (.lst (ns.map V.str))/\ED H tl c r g ss/\H td=some (.tup d.vals)/\d.Ok 40 ns/\Cw ns r g ss/\ns.length<=40/\
 ∀t' b H',H t'=none->(H b=none∨b=c)->A9 H H'->ED H' t' b r (d.gap ns g:Nat) (d.G4 r g ss)->Q (.ref t') H'
def lb(K:ZKG):Sp:=λvs H Q _=>∃(a:Addr)(tp:Bool)(ns:List Str)(t:Addr)(r:Str)(g:Nat)(ss:List Str)(x:Str),vs=[.ref a,.ref t,.str x]/\H a=some (BI tp (ns.map V.str))/\JA H t r g ss/\ss.length<64/\x∈ns/\
 ∀t' b H',H t'=none->H b=none->A9 H H'->ED H' t' b r ((ns.idxOf x:Nat)+1) (wo ss x)->Q (.ref t') H'
def ax(H H':Hp)(t' t:Addr)(ns:List Str)(r:Str)(g:Nat)(ss:List Str):Prop:=
 (D5 ns g ss=[]/\H' t'=some (.tup [.AG,.ref t]))∨∃x FK t2 a,D5 ns g ss=x::FK/\H t2=none/\H a=none/\H' t'=some (.tup [.str x,.ref t2])/\ED H' t2 a r ((ns.idxOf x:Nat)+1) (wo ss x)
def Tp(K:ZKG):Sp:=λvs H Q _=>∃(a:Addr)(tp:Bool)(ns:List Str)(t:Addr)(r:Str)(g:Nat)(ss:List Str),vs=[.ref a,.ref t]/\H a=some (BI tp (ns.map V.str))/\JA H t r g ss/\ss.length<64/\G8 ns r g ss=true/\ns.length<=1000/\
 ∀t' H',H t'=none->A9 H H'->ax H H' t' t ns r g ss->Q (.ref t') H'
def U9:Sp:=λvs H Q _=>∃(a:Addr)(ns:List Str)(t:Addr)(r:Str)(g:Nat)(ss:List Str),vs=[.ref a,.ref t]/\H a=some (.lst (ns.map V.str))/\JA H t r g ss/\ss.length<64/\ns.length<=1000/\
 ∀t' H',H t'=none->A9 H H'->ax H H' t' t ns r g ss->Q (.ref t') H'
def YV(K:ZKG):Sp:=λvs H Q _=>∃(a:Addr)(tp:Bool)(ns:List Str)(r:Str),vs=[.ref a,.str r]/\C4 K tp H a (ns.map V.str)/\r∈Cs/\ns.length<64/\∀t c H' ts,H t=none->H c=none->A9 H H'->ts.Perm ns->sortedS ts=true->ED H' t c r (0:Nat) ts->Q (.ref t) H'
end Lw
namespace Fz
open L2 Lw
variable{E:Ent0}{ss:List Slot}{Z:L2.St}{F F' F0 F1 H H' H0:Hp}{js m p:List Nat}{ta tb tc te ti:TE}{nx:List Slot->Prop}{R:Ae}{n t u x y:OV}{o:HO}{v:V}{r:Str}{g i j:Nat}{cs ns:List Str}{a b c:Addr}{ps xs ys:List PV}{A:Around}{CP vs ws:List V}{A5 Bn:List Value}{BV tp:Bool}{q:PV}{tr:TA}{us:List OV}{pre:Pre}
def Ca(r:Str)(g:Nat)(ss:List Str):PV:=.tup [.str r,.int g,.tup (ss.map .str)]
section
variable[Xw]
variable{K:ZKG}{k:PV->Prop}
theorem Mv.adopt(m:Mv E ss Z F H F1 H')(S:Sg E ss Z F H){t:Addr}(c:H t=Option.none)(e:H' t=some o):Mv E ss Z F H (upd F1 t o) H':=by
 have b:A9 F1 (upd F1 t o):=λa u q=>by
  by_cases z:a=t
  .subst z;have w:=m.st.fh _ _ q;rw[e]at w;rw[AJ];exact w
  .rw[Ah z];exact q
 refine S.step (m.ff.trans b) (λa u q=>?_) m.hh (λa u q=>?_) λi l hi d=>m.st.EW hi d
 .by_cases z:a=t
  .subst z;rw[AJ]at q;rw[<- q];exact e
  .rw[Ah z]at q;exact m.st.fh a u q
 .by_cases z:a=t
  .subst z;exact .inr c
  .rw[Ah z]at q;exact m.nn a u q
theorem U6(h:Rep F v (Ca r g cs)):∃t c,v=.ref t/\ED F t c r g cs:=by
 obtain⟨_,_,rfl,e,q⟩:=h.inv;obtain⟨_,_,rfl,a,q⟩:=q.inv;obtain⟨_,_,rfl,b,q⟩:=q.inv;obtain⟨_,_,rfl,c,q⟩:=q.inv;cases q;cases a;cases b;obtain⟨_,_,rfl,d,f⟩:=c.inv;rw[f.strs]at d;exact⟨_,_,rfl,e,d⟩
theorem RU{t:Addr}(h:ED F t c r g cs):Rep F (.ref t) (Ca r g cs):=.tup h.1 (.cons (.str _) (.cons (.int _) (.one (.tup h.2 (Kk cs)))))
theorem Mv.Uy(m:Mv E ss Z F H F1 H')(S:Sg E ss Z F H){t i:Addr}(j:H t=Option.none)(d:H c=Option.none∨c=i)(k:F i=some o)(e:ED H' t c r g cs):∃F2,Mv E ss Z F H F2 H'/\A9 F1 F2/\Rep F2 (.ref t) (Ca r g cs):=by
 have b:∃F2,Mv E ss Z F H F2 H'/\A9 F1 F2/\F2 c=some (.tup (cs.map V.str)):=by
  rcases d with d|rfl
  .refine⟨_,m.adopt S d e.2,λa u q=>?_,AJ⟩
   by_cases z:a=c
   .subst z;have w:=m.st.fh _ _ q;rw[e.2]at w;rw[AJ];exact w
   .rw[Ah z];exact q
  .refine⟨F1,m,A9.refl _,?_⟩;have w:=m.ff _ _ k;have f:=m.st.fh _ _ w;rw[e.2]at f;rw[w,<- f]
 obtain⟨F2,m2,s2,LR⟩:=b;have h:A9 F2 (upd F2 t (.tup [.str r,.int g,.ref c])):=λa u q=>by
  by_cases z:a=t
  .subst z;have w:=m2.st.fh _ _ q;rw[e.1]at w;rw[AJ];exact w
  .rw[Ah z];exact q
 exact⟨_,m2.adopt S j e.1,s2.trans h,RU ⟨AJ,h _ _ LR⟩⟩
theorem oA(h:Wq ss ta λtp xs=>∃ns:List Str,xs=ns.map PV.str/\Wp ss tb λp=>∃(r:Str)(g:Nat)(cs:List Str),p=Ca r g cs/\Wp ss tc λp2=>∃d:AW,p2=dP d/\d.Ok 40 ns/\Cw ns r g cs/\ns.length<=40/\k (Ca r (d.gap ns g) (d.G4 r g cs))):
  Wp ss (C0 SU [] E0 (AX ta (AX tb (AX tc B4)))) k:=⟨λE Z F H Q S q=>
 h.go E Z F H _ S λv tp xs F1 H1 b sv⟨ns,ex,h2⟩=>h2.go E Z F1 H1 _ b.st λv2 p2 F2 H2 m2 m⟨r,g,cs,ep,s⟩=>s.go E Z F2 H2 _ m2.st λy z F3 H3 a j⟨d,u,hd,gd,n,kk⟩=>by
  subst ex;subst ep;subst u;obtain⟨l,vs,rfl,e,f⟩:=(sv.mv (m2.trans a)).seq a.st;rw[f.strs]at e;obtain⟨tl,x,rfl,c⟩:=U6 (m.mono a.ff);obtain⟨t,rfl,o⟩:=RX j;refine⟨l,tl,t,x,tp,ns,r,g,cs,d,rfl,e,c.same a.st.fh,a.st.fh _ _ o,hd,gd,n,λt' A H4 Fe Hj s4 w=>?_⟩;obtain⟨F4,m4,_,i⟩:=(a.st.grow s4).Uy a.st Fe Hj c.2 w;exact q _ _ F4 H4 (b.trans (m2.trans (a.trans m4))) i kk⟩
theorem jv(h:Wq ss ta λtp xs=>tp=false/\∃ns:List Str,xs=ns.map PV.str/\Wp ss tb λp=>∃(r:Str)(g:Nat)(cs:List Str),p=Ca r g cs/\Wp ss tc λp2=>∃d:AW,p2=dP d/\d.Ok 40 ns/\Cw ns r g cs/\ns.length<=40/\k (Ca r (d.gap ns g) (d.G4 r g cs))):
  Wp ss (C0 RY [] E0 (AX ta (AX tb (AX tc B4)))) k:=⟨λE Z F H Q S q=>
 h.go E Z F H _ S λv tp xs F1 H1 b sv⟨u,ns,ex,h2⟩=>h2.go E Z F1 H1 _ b.st λv2 p2 F2 H2 m2 m⟨r,g,cs,ep,s⟩=>s.go E Z F2 H2 _ m2.st λz A F3 H3 a j⟨d,w,hd,gd,n,kk⟩=>by
  subst u;subst ex;subst ep;subst w;obtain⟨l,vs,rfl,e,f⟩:=(sv.mv (m2.trans a)).seq a.st;rw[f.strs]at e;obtain⟨tl,y,rfl,c⟩:=U6 (m.mono a.ff);obtain⟨t,rfl,o⟩:=RX j;refine⟨l,tl,t,y,ns,r,g,cs,d,rfl,e,c.same a.st.fh,a.st.fh _ _ o,hd,gd,n,λt' B H4 Fe Hj s4 x=>?_⟩;obtain⟨F4,m4,_,i⟩:=(a.st.grow s4).Uy a.st Fe Hj c.2 x;exact q _ _ F4 H4 (b.trans (m2.trans (a.trans m4))) i kk⟩
def Ku(ns:List Str)(r:Str)(g:Nat)(cs:List Str):PV:=match D5 ns g cs with
 | []=>.tup [.AG,Ca r g cs]
 |x::_=>.tup [.str x,Ca r (ns.idxOf x+1) (wo cs x)]
theorem Mv.mW(m:Mv E ss Z F H F1 H')(S:Sg E ss Z F H){t t':Addr}(f:H t'=Option.none)(i:ED F t c r g cs)(e:ax H H' t' t ns r g cs):∃F2,Mv E ss Z F H F2 H'/\Rep F2 (.ref t') (Ku ns r g cs):=by
 rcases e with⟨h,e⟩|⟨x,FK,t2,n,h,h2,l,e,k⟩
 .refine⟨_,m.adopt S f e,?_⟩;have b:=(m.adopt S f e).ff;unfold Ku;rw[h];exact .tup AJ (.cons .AG (.one (RU (i.same b))))
 .have d:ED H' t2 n r ((ns.idxOf x+1:Nat):Int) (wo cs x):=k;obtain⟨F2,m2,_,j⟩:=m.Uy S h2 (.inl l) i.1 d;refine⟨_,m2.adopt S f e,?_⟩;have b:A9 F2 (upd F2 t' (.tup [.str x,.ref t2])):=λa u q=>by
   by_cases z:a=t'
   .subst z;have w:=m2.st.fh _ _ q;rw[e]at w;rw[AJ];exact w
   .rw[Ah z];exact q
  unfold Ku;rw[h];exact .tup AJ (.cons (.str _) (.one (j.mono b)))
theorem eR(h:Wq ss ta λtp xs=>∃ns:List Str,xs=ns.map PV.str/\Wp ss tb λp=>∃(r:Str)(g:Nat)(cs:List Str),p=Ca r g cs/\Cw ns r g cs/\ns.length<=60/\k (Ku ns r g cs)):
  Wp ss (C0 (Tp K) [] E0 (AX ta (AX tb B4))) k:=⟨λE Z F H Q S q=>
 h.go E Z F H _ S λv tp xs F1 H1 a sv⟨ns,ex,h2⟩=>h2.go E Z F1 H1 _ a.st λv2 p2 F2 H2 m2 i⟨r,g,cs,ep,gd,m,kk⟩=>by
  subst ex;subst ep;obtain⟨l,vs,rfl,d,e⟩:=(sv.mv m2).seq m2.st;rw[e.strs]at d;obtain⟨tl,n,rfl,b⟩:=U6 i;have c:=gd.len;refine⟨l,tp,ns,tl,r,g,cs,rfl,d,(b.same m2.st.fh).h,by omega,gd.G8,by omega,λt' H4 Fe s4 j=>?_⟩;obtain⟨F4,m4,f⟩:=(m2.st.grow s4).mW m2.st Fe b j;exact q _ _ F4 H4 (a.trans (m2.trans m4)) f kk⟩
theorem mV(h:Wq ss ta λtp xs=>tp=false/\∃ns:List Str,xs=ns.map PV.str/\Wp ss tb λp=>∃(r:Str)(g:Nat)(cs:List Str),p=Ca r g cs/\Cw ns r g cs/\ns.length<=60/\k (Ku ns r g cs)):
  Wp ss (C0 U9 [] E0 (AX ta (AX tb B4))) k:=⟨λE Z F H Q S q=>
 h.go E Z F H _ S λv tp xs F1 H1 a sv⟨j,ns,ex,h2⟩=>h2.go E Z F1 H1 _ a.st λv2 p2 F2 H2 m2 i⟨r,g,cs,ep,gd,n,kk⟩=>by
  subst j;subst ex;subst ep;obtain⟨l,vs,rfl,d,e⟩:=(sv.mv m2).seq m2.st;rw[e.strs]at d;obtain⟨tl,o,rfl,b⟩:=U6 i;have c:=gd.len;refine⟨l,ns,tl,r,g,cs,rfl,d,(b.same m2.st.fh).h,by omega,by omega,λt' H4 Fe s4 m=>?_⟩;obtain⟨F4,m4,f⟩:=(m2.st.grow s4).mW m2.st Fe b m;exact q _ _ F4 H4 (a.trans (m2.trans m4)) f kk⟩
theorem ZBb(h:Wq ss ta λtp xs=>∃ns:List Str,xs=ns.map PV.str/\Wp ss tb λp=>∃r:Str,p=.str r/\r∈Cs/\ns.length<64/\∀ts:List Str,ts.Perm ns->sortedS ts=true->k (Ca r 0 ts)):
  Wp ss (C0 (YV K) [] E0 (AX ta (AX tb B4))) k:=⟨λE Z F H Q S q=>
 h.go E Z F H _ S λv tp xs F1 H1 b sv⟨ns,ex,h2⟩=>h2.go E Z F1 H1 _ b.st λv2 p2 F2 H2 m2 g⟨r,ep,n,m,kk⟩=>by
  subst ex;subst ep;cases g.inv;obtain⟨l,vs,rfl,c,e⟩:=(sv.mv m2).seq m2.st;rw[e.strs]at c;refine⟨l,tp,ns,r,rfl,BI.sq c,n,m,λt' d H4 ts Fe Hj s4 i st o=>?_⟩;have a:ED H4 t' d r ((0:Nat):Int) ts:=o;have j:=(m2.st.grow s4).adopt m2.st Hj a.2;obtain⟨F4,m4,_,f⟩:∃F4,Mv E ss Z F2 H2 F4 H4/\True/\Rep F4 (.ref t') (Ca r 0 ts):=by
   refine⟨_,j.adopt m2.st Fe a.1,trivial,RU ⟨AJ,?_⟩⟩
   by_cases z:d=t'
   .subst z;rw[AJ];exact a.1.symm.trans a.2
   .rw[Ah z,AJ]
  exact q _ _ F4 H4 (b.trans (m2.trans m4)) f (kk ts i st)⟩
theorem ZGN(hi:ss[i]?=some .AD)(h:Wq ss ta λtp xs=>tp=false/\∃ns:List Str,xs=ns.map PV.str/\ns.length<=40/\ns.Nodup/\∀(r:Str)(g:Nat)(cs:List Str),Cw ns r g cs->cs.length<=40->k (Ca r g cs)):
  Wp ss (C0 aS [] E0 (AX (BJ i) (AX ta B4))) k:=⟨λE Z F H Q S q=>by
 obtain⟨p,e,_⟩:=S.ok i _ hi;refine⟨_,e,h.go E Z F H _ S λv tp xs F1 H1 a sv⟨I,ns,ex,A,nd,kk⟩=>?_⟩;subst I;subst ex;obtain⟨l,vs,G,hn,d,r⟩:=sv;subst G;rw[r.strs]at d;refine⟨p,l,ns,rfl,a.st.EW hi e,d,λz=>hn i hi (z▸e),A,nd,λt c r g cs H3 B C s j f D=>?_⟩;obtain⟨x,b,w,u,o,m⟩:=D;obtain⟨n,rfl⟩:=Fm b;have y:=(a.st.Oe hi e s).adopt a.st C f;have m4:=y.adopt a.st B j;refine q _ _ _ H3 (a.trans m4) (RU (c:=c) ⟨AJ,?_⟩) (kk r n cs ⟨x,b,w,u,o⟩ m)
 by_cases z:c=t
 .subst z;rw[AJ];exact j.symm.trans f
 .rw[Ah z,AJ]⟩
end
mutual
def CG:PV->PV->Bool
 | .lst xs,.lst ys=>DC xs ys
 | .tup xs,.tup ys=>DC xs ys
 | .tup xs,.con _ ys=>DC xs ys
 | .con _ xs,.tup ys=>DC xs ys
 | .con _ xs,.con _ ys=>DC xs ys
 | .AG,.AG=>true
 | .bl a,.bl b=>a == b
 | .bl a,.int b=>(if a then 1 else 0) == b
 | .int a,.bl b=>a == (if b then 1 else 0)
 | .int a,.int b=>a == b
 | .str a,.str b=>a == b
 |_,_=>false
def DC:List PV->List PV->Bool
 | [],[]=>true
 |x::r,y::t=>CG x y && DC r t
 |_,_=>false
end
theorem SN(x y:PV)(r t:List PV):DC (x::r) (y::t)=(CG x y && DC r t):=by rw[DC]
theorem Xx:∀(xs ys:List PV),xs.length≠ys.length->DC xs ys=false
 | [],[],h=>absurd rfl h
 | [],_::_,_=>by rw[DC];all_goals simp
 |_::_,[],_=>by rw[DC];all_goals simp
 |x::r,y::t,h=>by rw[SN,Xx r t (by simpa using h),b6]
theorem Vk:∀(xs ys:List PV),xs.length=ys.length->DC xs ys=(List.range xs.length).all λj=>CG (xs.getD j .AG) (ys.getD j .AG)
 | [],[],_=>by rw[DC];rfl
 |x::r,y::t,h=>by
  rw[SN,Vk r t (by simpa using h),Ba,List.range_succ_eq_map,US,List.all_map]
  rfl
def dat(K:ZKG):Nat->PV->Prop
 |_,.AG=>True
 |_,.bl _=>True
 |_,.int _=>True
 |_,.str _=>True
 |d+1,.lst xs=>∀x∈xs,dat K d x
 |d+1,.tup xs=>∀x∈xs,dat K d x
 |d+1,.con a xs=>(∀x∈xs,dat K d x)/\xs.all flat=true/\∀H,AE K H a (xs.map Fz.enc)
 |_,_=>False
inductive HH (K:ZKG) (H:Hp):V->PV->Bool->Addr->List V->List PV->Prop where
 |lst {a:Addr}{vs:List V}{xs:List PV}:AK K H a vs->Aa H vs xs->HH K H (.ref a) (.lst xs) false a vs xs
 |tup {a:Addr}{vs:List V}{xs:List PV}:AE K H a vs->Aa H vs xs->HH K H (.ref a) (.tup xs) true a vs xs
 |con {a:Addr}{vs:List V}{xs:List PV}:AE K H a vs->Aa H vs xs->HH K H (.ref a) (.con a xs) true a vs xs
theorem GZ{K:ZKG}:∀{d:Nat}{x:V}{p:PV},dat K d p->Rep H x p->(flat p=true/\x=Fz.enc p)∨∃d' tp a vs xs,d=d'+1/\HH K H x p tp a vs xs/\∀y∈xs,dat K d' y:=by
 intro d x p h r;cases r with
 |AG=>exact .inl ⟨rfl,rfl⟩
 |bl b=>exact .inl ⟨rfl,rfl⟩
 |int b=>exact .inl ⟨rfl,rfl⟩
 |str b=>exact .inl ⟨rfl,rfl⟩
 |lst e r=>cases d with
  |zero=>exact h.elim
  |succ d=>exact .inr ⟨d,_,_,_,_,rfl,.lst (AK.of e) r,h⟩
 |tup e r=>cases d with
  |zero=>exact h.elim
  |succ d=>exact .inr ⟨d,_,_,_,_,rfl,.tup (AE.of e) r,h⟩
 |con=>cases d with
  |zero=>exact h.elim
  |succ d=>obtain⟨h1,h2,c⟩:=h;exact .inr ⟨d,_,_,_,_,rfl,.con (c H) (fO h2),h1⟩
 |B0 _ _ _=>cases d <;> exact h.elim
 |obj _ _ _ _=>cases d <;> exact h.elim
 |SW _=>cases d <;> exact h.elim
 |exc _ _ _ _=>cases d <;> exact h.elim
section
variable{X:Cx}{Zh:ZKH}{s:Shared}
theorem ZDH(b:Vals vs A5)(a:Vals ws Bn)(d:Aa H vs xs)(c:Aa H ws ys)
  (h:∀(x y:V)(p q:PV)(u v:Value),p∈xs->q∈ys->Rep H x p->Rep H y q->RelV x u->RelV y v->SeqAt.EqAt A s u v (CG p q)) :
  ∀j(h1:j<A5.toArray.size)(h2:j<Bn.toArray.size),SeqAt.EqAt A s A5.toArray[j] Bn.toArray[j] ((λj=>CG (xs.getD j .AG) (ys.getD j .AG)) j):=λj h1 h2=>by
 have l1:=b.length;have l2:=a.length;have z:=d.length;have w:=c.length;have t:j<A5.length:=by simpa using h1
 have r:j<Bn.length:=by simpa using h2
 have a1:j<xs.length:=by omega
 have a2:j<ys.length:=by omega
 obtain⟨x,hx,g⟩:=d.get (i:=j) (p:=xs[j]) (B9 a1);obtain⟨y,m,f⟩:=c.get (i:=j) (p:=ys[j]) (B9 a2);obtain⟨u,hu,l⟩:=b.get hx;obtain⟨v,e,k⟩:=a.get m;rw[B9 t]at hu;rw[B9 r]at e;have n:A5[j]=u:=BX hu;have o:Bn[j]=v:=BX e;have q:=h x y _ _ u v (M4 a1) (M4 a2) g f l k;rw[<- n,<- o]at q;show SeqAt.EqAt A s _ _ (CG (xs.getD j .AG) (ys.getD j .AG));rw[Ew,B9 a1,Ew,B9 a2]
 simpa using q
theorem SK{p:PV}{x:V}(h:HH X.K H x p tp a vs xs)(f:flat q=true):CG p q=false/\CG q p=false:=by
 cases h <;> cases q <;> first|exact Bool.noConfusion f|exact⟨rfl,rfl⟩
theorem WQ{p:PV}{x y:V}(h:HH X.K H x p tp a vs xs)(h2:HH X.K H y q BV b ws ys):CG p q=(if tp=BV then DC xs ys else false):=by
 cases h <;> cases h2 <;> rfl
theorem Tc{p:PV}(h:flat p=true)(h2:flat q=true):CG p q=EM (Fz.enc p) (Fz.enc q):=by
 cases p <;> cases q <;> first|exact Bool.noConfusion h|exact Bool.noConfusion h2|rfl
theorem ZDC{p:PV}{u v:Value}(h:flat p=true)(h2:flat q=true)(b:RelV (Fz.enc p) u)(a:RelV (Fz.enc q) v):SeqAt.RcAt A s u v (CG p q)/\SeqAt.RcNeAt A s u v (!CG p q):=by
 cases p <;> first|exact Bool.noConfusion h|skip
 all_goals cases q <;> first|exact Bool.noConfusion h2|skip
 .cases b;cases a;exact⟨.none_none,.none_none⟩
 .cases b;cases a;exact⟨.none_bool _,.none_bool _⟩
 .cases b;obtain⟨t,rfl⟩:=a;exact⟨.none_int _ _,.none_int _ _⟩
 .cases b;obtain⟨t,rfl⟩:=a;exact⟨.none_str _ _,.none_str _ _⟩
 .cases b;cases a;exact⟨.bool_none _,.bool_none _⟩
 .cases b;cases a;exact⟨.bool_bool _ _,.bool_bool _ _⟩
 .cases b;obtain⟨t,rfl⟩:=a;exact⟨.bool_int _ _ _,.bool_int _ _ _⟩
 .cases b;obtain⟨t,rfl⟩:=a;exact⟨.bool_str _ _ _,.bool_str _ _ _⟩
 .obtain⟨t,rfl⟩:=b;cases a;exact⟨.int_none _ _,.int_none _ _⟩
 .obtain⟨t,rfl⟩:=b;cases a;exact⟨.int_bool _ _ _,.int_bool _ _ _⟩
 .obtain⟨t,rfl⟩:=b;obtain⟨t2,rfl⟩:=a;exact⟨.int_int _ _ _ _,.int_int _ _ _ _⟩
 .obtain⟨t,rfl⟩:=b;obtain⟨t2,rfl⟩:=a;exact⟨.int_str _ _ _ _,.int_str _ _ _ _⟩
 .obtain⟨t,rfl⟩:=b;cases a;exact⟨.str_none _ _,.str_none _ _⟩
 .obtain⟨t,rfl⟩:=b;cases a;exact⟨.str_bool _ _ _,.str_bool _ _ _⟩
 .obtain⟨t,rfl⟩:=b;obtain⟨t2,rfl⟩:=a;exact⟨.str_int _ _ _ _,.str_int _ _ _ _⟩
 .obtain⟨t,rfl⟩:=b;obtain⟨t2,rfl⟩:=a;exact⟨.str_str _ _ _ _,.str_str _ _ _ _⟩
def Th(h:Heap)(tp:Bool)(a:Addr)(A5:Array Value):Prop:=if tp then IsTup h a A5 else h.IsList a A5
theorem HH.Gu(I:Inv X Zh Z H s){x:V}{p:PV}(h:HH X.K H x p tp a vs xs):∃A5:List Value,x=.ref a/\Vals vs A5/\Th s.heap tp a A5.toArray/\Aa H vs xs:=by
 cases h with
 |lst h r=>obtain⟨A5,b,p1,_⟩:=I.list h;exact⟨A5,rfl,b,p1.isList,r⟩
 |tup h r=>obtain⟨A5,b,p1,_⟩:=I.tuple h;exact⟨A5,rfl,b,p1,r⟩
 |con h r=>obtain⟨A5,b,p1,_⟩:=I.tuple h;exact⟨A5,rfl,b,p1,r⟩
theorem Sl{A5:Array Value}{v:Value}(h:Th s.heap tp a A5)(f:flat q=true)(b:RelV (Fz.enc q) v)(hu:A.units<cLine):
  (SeqAt.EqAt A s (.ref a) v false/\SeqAt.EqAt A s v (.ref a) false)/\(SeqAt.RcAt A s (.ref a) v false/\SeqAt.RcAt A s v (.ref a) false)/\(SeqAt.RcNeAt A s (.ref a) v true/\SeqAt.RcNeAt A s v (.ref a) true):=by
 cases tp with
 |false=>
  have h':s.heap.IsList a A5:=h;cases q <;> first|exact Bool.noConfusion f|skip
  .cases b;exact⟨⟨.list_none h' hu,.none_list h' hu⟩,⟨.list_none h' hu,.none_list h' hu⟩,⟨.list_none h' hu,.none_list h' hu⟩⟩
  .cases b;exact⟨⟨.list_bool _ h' hu,.bool_list _ h' hu⟩,⟨.list_bool _ h' hu,.bool_list _ h' hu⟩,⟨.list_bool _ h' hu,.bool_list _ h' hu⟩⟩
  .obtain⟨t,rfl⟩:=b;exact⟨⟨.list_int _ _ h' hu,.int_list _ _ h' hu⟩,⟨.list_int _ _ h' hu,.int_list _ _ h' hu⟩,⟨.list_int _ _ h' hu,.int_list _ _ h' hu⟩⟩
  .obtain⟨t,rfl⟩:=b;exact⟨⟨.list_str _ _ h' hu,.str_list _ _ h' hu⟩,⟨.list_str _ _ h' hu,.str_list _ _ h' hu⟩,⟨.list_str _ _ h' hu,.str_list _ _ h' hu⟩⟩
 |true=>
  have h':IsTup s.heap a A5:=h;cases q <;> first|exact Bool.noConfusion f|skip
  .cases b;exact⟨⟨.tuple_none h' hu,.none_tuple h' hu⟩,⟨.tuple_none h' hu,.none_tuple h' hu⟩,⟨.tuple_none h' hu,.none_tuple h' hu⟩⟩
  .cases b;exact⟨⟨.tuple_bool _ h' hu,.bool_tuple _ h' hu⟩,⟨.tuple_bool _ h' hu,.bool_tuple _ h' hu⟩,⟨.tuple_bool _ h' hu,.bool_tuple _ h' hu⟩⟩
  .obtain⟨t,rfl⟩:=b;exact⟨⟨.tuple_int _ _ h' hu,.int_tuple _ _ h' hu⟩,⟨.tuple_int _ _ h' hu,.int_tuple _ _ h' hu⟩,⟨.tuple_int _ _ h' hu,.int_tuple _ _ h' hu⟩⟩
  .obtain⟨t,rfl⟩:=b;exact⟨⟨.tuple_str _ _ h' hu,.str_tuple _ _ h' hu⟩,⟨.tuple_str _ _ h' hu,.str_tuple _ _ h' hu⟩,⟨.tuple_str _ _ h' hu,.str_tuple _ _ h' hu⟩⟩
theorem HH.inj(I:Inv X Zh Z H s){x y:V}{p q:PV}{tp BV:Bool}{a:Addr}{vs ws:List V}{xs ys:List PV}(h:HH X.K H x p tp a vs xs)(h2:HH X.K H y q BV a ws ys):tp=BV/\vs=ws:=by
 have b:∀{vs ws:List V},AK X.K H a vs->AE X.K H a ws->False:=λ{vs ws}h1 h2=>by
  obtain⟨A5,_,p1,_⟩:=I.list h1;obtain⟨Bn,_,p2,_⟩:=I.tuple h2;obtain⟨o,n,e,c,_⟩:=p1;obtain⟨g,d,f,_⟩:=p2;rw[e]at d;cases d;rw[c]at f;exact absurd f (by decide)
 cases h with
 |lst h r=>cases h2 with
  |lst h2 _=>exact⟨rfl,I.jr h h2⟩
  |tup h2 _=>exact(b h h2).elim
  |con h2 _=>exact(b h h2).elim
 |tup h r=>cases h2 with
  |lst h2 _=>exact(b h2 h).elim
  |tup h2 _=>exact⟨rfl,I.Pa h h2⟩
  |con h2 _=>exact⟨rfl,I.Pa h h2⟩
 |con h r=>cases h2 with
  |lst h2 _=>exact(b h2 h).elim
  |tup h2 _=>exact⟨rfl,I.Pa h h2⟩
  |con h2 _=>exact⟨rfl,I.Pa h h2⟩
theorem j6{p:PV}(h:flat p=true):EM (Fz.enc p) (Fz.enc p)=true:=by cases p <;> first|exact Bool.noConfusion h|exact xJ _|rfl
theorem ZAO(i:∀(x:V)(p q:PV),Rep H x p->Rep H x q->dat X.K d p->dat X.K d q->CG p q=true)(f:Aa H vs xs)(c:Aa H vs ys)(h1:∀x∈xs,dat X.K d x)(h2:∀y∈ys,dat X.K d y):DC xs ys=true:=by
 induction xs generalizing vs ys with
 |nil=>
  cases f.Ea;cases ys with
  |nil=>rfl
  |cons y t=>obtain⟨v,ws,e,_⟩:=c.inv;cases e
 |cons x xs h=>
  obtain⟨v,ws,rfl,a,b⟩:=f.inv;cases ys with
  |nil=>have e:=c.Ea;cases e
  |cons y t=>
   obtain⟨v2,g,e,a2,j⟩:=c.inv;cases e;rw[SN,i _ _ _ a a2 (h1 _ Cp) (h2 _ Cp),h b j (λx hx=>h1 x (D3 _ hx)) (λx hx=>h2 x (D3 _ hx))];rfl
theorem ZGK(I:Inv X Zh Z H s):∀(d:Nat)(x:V)(p q:PV),Rep H x p->Rep H x q->dat X.K d p->dat X.K d q->CG p q=true:=λd=>by
 induction d with
 |zero=>
  intro x p q l h h1 h2;rcases GZ h1 l with⟨j,k⟩|⟨d',_,_,_,_,e,_⟩
  .rcases GZ h2 h with⟨c,g⟩|⟨d',_,_,_,_,e,_⟩
   .rw[Tc j c,<- k,g];exact j6 c
   .cases e
  .cases e
 |succ d r=>
  intro x p q l h h1 h2;rcases GZ h1 l with⟨j,k⟩|⟨w,tp,a,vs,xs,e,i,k1⟩
  .rcases GZ h2 h with⟨c,g⟩|⟨v,BV,b,ws,ys,e,f,k2⟩
   .rw[Tc j c,<- k,g];exact j6 c
   .obtain⟨_,ex,_⟩:=f.Gu I;subst ex;cases p <;> first|(cases j;done)|(cases k;done)
  .cases e;rcases GZ h2 h with⟨c,g⟩|⟨v,BV,b,ws,ys,e,f,k2⟩
   .obtain⟨_,ex,_⟩:=i.Gu I;subst ex;cases q <;> first|(cases c;done)|(cases g;done)
   .cases e;obtain⟨_,ex,_,_,o⟩:=i.Gu I;obtain⟨_,m,_,_,n⟩:=f.Gu I;rw[ex]at m;cases m;obtain⟨u,t⟩:=i.inj I f;subst t;rw[WQ i f,tU u];exact ZAO r o n k1 k2
theorem x4(b:Vals vs A5)(a:Vals ws Bn)(d:Aa H vs xs)(c:Aa H ws ys):A5.toArray.size=xs.length/\Bn.toArray.size=ys.length:=by
 have l1:=b.length;have l2:=a.length;have f:=d.length;have e:=c.length;simp only[C1];omega
theorem gf(h1:Th s.heap tp a A5.toArray)(h2:Th s.heap BV b Bn.toArray)(l:Vals vs A5)(k:Vals ws Bn)(n:Aa H vs xs)(m:Aa H ws ys)(hu:A.units<cLine)
  (h:∀(x y:V)(p q:PV)(u v:Value),p∈xs->q∈ys->Rep H x p->Rep H y q->RelV x u->RelV y v->SeqAt.EqAt A.in1 s u v (CG p q)) :
  SeqAt.RcAt A s (.ref a) (.ref b) (if tp=BV then DC xs ys else false)/\SeqAt.RcNeAt A s (.ref a) (.ref b) (!(if tp=BV then DC xs ys else false)):=by
 obtain⟨g,i⟩:=x4 l k n m;have it:=ZDH (A:=A.in1) l k n m h;cases tp with
 |false=>cases BV with
  |false=>
   rw[tU rfl];have f:s.heap.IsList a A5.toArray:=h1;have d:s.heap.IsList b Bn.toArray:=h2
   by_cases c:xs.length=ys.length
   .rw[Vk xs ys c,<- g];exact⟨.lists f d (by omega) hu it,.lists f d (by omega) hu it⟩
   .rw[Xx xs ys c];have o:(A5.toArray.size != Bn.toArray.size)=true:=by simp only[bne_iff_ne,ne_eq];omega
    exact⟨.lists_lengths f d o hu,.lists_lengths f d o hu⟩
  |true=>rw[tJ (by decide)];exact⟨.list_tuple h1 h2 hu,.list_tuple h1 h2 hu⟩
 |true=>cases BV with
  |false=>rw[tJ (by decide)];exact⟨.tuple_list h1 h2 hu,.tuple_list h1 h2 hu⟩
  |true=>
   rw[tU rfl];have f:IsTup s.heap a A5.toArray:=h1;have d:IsTup s.heap b Bn.toArray:=h2;have e:((List.range (min A5.toArray.size Bn.toArray.size)).all (λj=>CG (xs.getD j .AG) (ys.getD j .AG)) && A5.toArray.size == Bn.toArray.size)=DC xs ys:=by
    by_cases c:xs.length=ys.length
    .rw[Vk xs ys c,g,i,<- c,bT,xJ,b7]
    .rw[Xx xs ys c,g,i,show(xs.length == ys.length)=false from by simpa using c,b6]
   have k1:=SeqAt.RcAt.tuples (A:=A) (e:=λj=>CG (xs.getD j .AG) (ys.getD j .AG)) f d hu it;have k2:=SeqAt.RcNeAt.tuples (A:=A) (e:=λj=>CG (xs.getD j .AG) (ys.getD j .AG)) f d hu it;rw[e]at k1 k2;exact⟨k1,k2⟩
theorem ZCN(I:Inv X Zh Z H s):∀(d:Nat)(x y:V)(p q:PV),Rep H x p->Rep H y q->dat X.K d p->dat X.K d q->∀(A:Around)(u v:Value),RelV x u->RelV y v->A.units+d<cLine->SeqAt.EqAt A s u v (CG p q):=λd=>by
 induction d with
 |zero=>
  intro x y p q k h h1 h2 A u v f c hu;rcases GZ h1 k with⟨i,o⟩|⟨_,_,_,_,_,e,_⟩
  .rcases GZ h2 h with⟨g,m⟩|⟨_,_,_,_,_,e,_⟩
   .subst o;subst m;rw[Tc i g];exact T9 f c (S8 i) (S8 g)
   .cases e
  .cases e
 |succ d D=>
  intro x y p q k h h1 h2 A u v f c hu;rcases GZ h1 k with⟨i,o⟩|⟨G,tp,a,vs,xs,e,n,k1⟩
  .rcases GZ h2 h with⟨g,m⟩|⟨F,BV,b,ws,ys,e,l,k2⟩
   .subst o;subst m;rw[Tc i g];exact T9 f c (S8 i) (S8 g)
   .obtain⟨A5,r,_,j,_⟩:=l.Gu I;subst o;subst r;cases(show v=Value.ref b from c);rw[(SK l i).2];exact(Sl j i f (by omega)).1.2
  .cases e;rcases GZ h2 h with⟨g,m⟩|⟨F,BV,b,ws,ys,e,l,k2⟩
   .obtain⟨A5,ex,_,j,_⟩:=n.Gu I;subst m;subst ex;cases(show u=Value.ref a from f);rw[(SK n g).1];exact(Sl j g c (by omega)).1.1
   .cases e;obtain⟨A5,ex,v1,C,z⟩:=n.Gu I;obtain⟨Bn,r,v2,B,w⟩:=l.Gu I;subst ex;subst r;cases(show u=Value.ref a from f);cases(show v=Value.ref b from c)
    by_cases t:a=b
    .subst t;rw[ZGK I (d+1) _ p q k h h1 h2];exact .same _
    .rw[WQ n l];refine SeqAt.EqAt.of_refs t (gf C B v1 v2 z w (by omega) λx y p q u v hp E k h f c=>?_).1;exact D x y p q k h (k1 p hp) (k2 q E) A.in1 u v f c (by show A.units+1+d<cLine;omega)
theorem mM(I:Inv X Zh Z H s)(d:Nat)(x y:V)(p q:PV)(m:Rep H x p)(i:Rep H y q)(h1:dat X.K d p)(h2:dat X.K d q)(A:Around)(u v:Value)(f:RelV x u)(c:RelV y v)(hu:A.units+d<cLine):SeqAt.RcAt A s u v (CG p q)/\SeqAt.RcNeAt A s u v (!CG p q):=by
 rcases GZ h1 m with⟨n,r⟩|⟨t,tp,a,vs,xs,e,k,k1⟩
 .rcases GZ h2 i with⟨l,h⟩|⟨F,BV,b,ws,ys,e,g,k2⟩
  .subst r;subst h;exact ZDC n l f c
  .obtain⟨A5,o,_,j,_⟩:=g.Gu I;subst r;subst o;cases(show v=Value.ref b from c);rw[(SK g n).2];have z:=Sl (A:=A) j n f (by omega);exact⟨z.2.1.2,z.2.2.2⟩
 .rcases GZ h2 i with⟨l,h⟩|⟨F,BV,b,ws,ys,h,g,k2⟩
  .obtain⟨A5,ex,_,j,_⟩:=k.Gu I;subst h;subst ex;cases(show u=Value.ref a from f);rw[(SK k l).1];have z:=Sl (A:=A) j l c (by omega);exact⟨z.2.1.1,z.2.2.1⟩
  .subst e;cases h;obtain⟨A5,ex,v1,D,B⟩:=k.Gu I;obtain⟨Bn,o,v2,C,w⟩:=g.Gu I;subst ex;subst o;cases(show u=Value.ref a from f);cases(show v=Value.ref b from c);rw[WQ k g];exact gf D C v1 v2 B w (by omega) λx y p q u v hp E m i f c=>ZCN I t x y p q m i (k1 p hp) (k2 q E) A.in1 u v f c (by show A.units+1+t<cLine;omega)
def So(K:ZKG)(neg:Bool):R2:=λx y H Q=>∃p q,Rep H x p/\Rep H y q/\dat K 40 p/\dat K 40 q/\Q (.bl (if neg then !CG p q else CG p q)) H
theorem ZI8(hu:X.A.units+64<cLine):BB X (compareOp .Eq) (So X.K false):=by
 intro Zh s Z H x y v u Q I b a h;obtain⟨p,q,d,c,g,f,e⟩:=h;exact(mM I 40 x y p q d c g f X.A _ _ b a (by omega)).1 _ _ _ _ ⟨.bl (CG p q),H,I,rfl,e⟩
theorem qm(hu:X.A.units+64<cLine):BB X (compareOp .NotEq) (So X.K true):=by
 intro Zh s Z H x y v u Q I b a h;obtain⟨p,q,d,c,g,f,e⟩:=h;exact(mM I 40 x y p q d c g f X.A _ _ b a (by omega)).2 _ _ _ _ ⟨.bl (!CG p q),H,I,rfl,e⟩
end
section
variable[Xw]
variable{K:ZKG}{k:PV->Prop}
theorem cE(h:Wp ss ta λp=>Wp ss tb λq=>dat K 40 p/\dat K 40 q/\k (.bl (CG p q))):Wp ss (By (So K false) ta tb) k:=⟨λE Z F H Q S q=>
 h.go E Z F H _ S λv p F1 H1 a c h2=>h2.go E Z F1 H1 _ a.st λv2 p2 F2 H2 m2 b⟨e,d,kk⟩=>
  ⟨p,p2,(c.mono m2.ff).mono m2.st.fh,b.mono m2.st.fh,e,d,q _ _ F2 H2 (a.trans m2) (.bl _) kk⟩⟩
theorem iZ(h:Wp ss ta λp=>Wp ss tb λq=>dat K 40 p/\dat K 40 q/\k (.bl (!CG p q))):Wp ss (By (So K true) ta tb) k:=⟨λE Z F H Q S q=>
 h.go E Z F H _ S λv p F1 H1 a c h2=>h2.go E Z F1 H1 _ a.st λv2 p2 F2 H2 m2 b⟨e,d,kk⟩=>
  ⟨p,p2,(c.mono m2.ff).mono m2.st.fh,b.mono m2.st.fh,e,d,q _ _ F2 H2 (a.trans m2) (.bl _) kk⟩⟩
end
noncomputable def OV.at(t:OV):List Nat->Option OV
 | []=>some t
 |j::p=>match t with
  | .nd _ _ xs=>(xs[j]?).bind λx=>OV.at x p
  | .tp xs=>(xs[j]?).bind λx=>OV.at x p
  | .fz _=>none
noncomputable def OV.put(t:OV)(l:List Nat)(n:OV):OV:=match l with
 | []=>n
 |j::p=>match t with
  | .nd k a xs=>match xs[j]? with
   |some x=>.nd k a (xs.set j (OV.put x p n))
   |none=>.nd k a xs
  | .tp xs=>match xs[j]? with
   |some x=>.tp (xs.set j (OV.put x p n))
   |none=>.tp xs
  | .fz q=>.fz q
theorem OV.Kl:t.at []=some t:=by rw[OV.at]
theorem OV.Ll{k:NK}{xs:List OV}:(OV.nd k a xs).at (j::p)=(xs[j]?).bind λx=>x.at p:=by rw[OV.at]
theorem OV.Oq{xs:List OV}:(OV.tp xs).at (j::p)=(xs[j]?).bind λx=>x.at p:=by rw[OV.at]
theorem OV.Gq:t.put [] n=n:=by rw[OV.put]
theorem OV.K5{k:NK}{xs:List OV}(h:xs[j]?=some x):(OV.nd k a xs).put (j::p) n=.nd k a (xs.set j (x.put p n)):=by rw[OV.put,h]
theorem OV.SA{xs:List OV}(h:xs[j]?=some x):(OV.tp xs).put (j::p) n=.tp (xs.set j (x.put p n)):=by rw[OV.put,h]
theorem OV.NM{u w:OV}:∀{p:List Nat}{t:OV}{j:Nat},t.at p=some u->u.at [j]=some w->t.at (p++[j])=some w
 | [],t,j,h,h2=>by rw[OV.Kl]at h;cases h;exact h2
 |i::p,.nd k a xs,j,h,h2=>by
  rw[OV.Ll]at h;rw[bB,OV.Ll];cases e:xs[i]? with
  |none=>rw[e]at h;cases h
  |some x=>rw[e]at h;exact OV.NM (t:=x) h h2
 |i::p,.tp xs,j,h,h2=>by
  rw[OV.Oq]at h;rw[bB,OV.Oq];cases e:xs[i]? with
  |none=>rw[e]at h;cases h
  |some x=>rw[e]at h;exact OV.NM (t:=x) h h2
 |i::p,.fz q,j,h,h2=>by rw[OV.at]at h;cases h
theorem KC:∀{xs:List OV}{j:Nat}{x:OV},xs[j]?=some x->∃l r,OV.Ap xs=l++x.addrs++r/\∀y:OV,OV.Ap (xs.set j y)=l++y.addrs++r
 |x::xs,0,z,h=>by
  simp at h;subst h;exact⟨[],OV.Ap xs,by rw[OV.Cv];rfl,λy=>by rw[bR,OV.Cv];rfl⟩
 |x::xs,j+1,z,h=>by
  obtain⟨l,r,b,a⟩:=KC (xs:=xs) (j:=j) (x:=z) (by simpa using h)
  refine⟨x.addrs++l,r,by rw[OV.Cv,b];simp[Bj],λy=>by rw[UY,OV.Cv,a];simp[Bj]⟩
theorem OV.split{u:OV}:∀{p:List Nat}{t:OV},t.at p=some u->∃l r,t.addrs=l++u.addrs++r/\∀n:OV,(t.put p n).addrs=l++n.addrs++r
 | [],t,h=>by rw[OV.Kl]at h;cases h;exact⟨[],[],by simp,λn=>by rw[OV.Gq];simp⟩
 |j::p,.nd k a xs,h=>by
  rw[OV.Ll]at h;cases e:xs[j]? with
  |none=>rw[e]at h;cases h
  |some x=>
   rw[e]at h;obtain⟨l,r,g,f⟩:=KC e;obtain⟨l2,b,d,c⟩:=OV.split (t:=x) h;refine⟨a::(k.more++(l++l2)),b++r,by rw[OV.Dh,g,d];simp[Bj],λn=>by rw[OV.K5 e,OV.Dh,f,c];simp[Bj]⟩
 |j::p,.tp xs,h=>by
  rw[OV.Oq]at h;cases e:xs[j]? with
  |none=>rw[e]at h;cases h
  |some x=>
   rw[e]at h;obtain⟨l,r,g,f⟩:=KC e;obtain⟨l2,b,d,c⟩:=OV.split (t:=x) h;refine⟨l++l2,b++r,by rw[OV.Gm,g,d];simp[Bj],λn=>by rw[OV.SA e,OV.Gm,f,c];simp[Bj]⟩
 |j::p,.fz q,h=>by rw[OV.at]at h;cases h
theorem BN.get{F H:Hp}{vs:List V}{ts:List OV}{j:Nat}{t:OV}(r:BN F H vs ts)(e:ts[j]?=some t):∃v,vs[j]?=some v/\B8 F H v t:=by
 induction ts generalizing vs j with
 |nil=>cases e
 |cons q ps c=>
  obtain⟨v,ws,rfl,a,b⟩:=r.inv;cases j with
  |zero=>cases e;exact⟨_,rfl,a⟩
  |succ j=>exact c (vs:=ws) (j:=j) b e
theorem BN.append{xs ys:List OV}(r:BN F H vs xs)(s:BN F H ws ys):BN F H (vs++ws) (xs++ys):=by
 induction xs generalizing vs with
 |nil=>cases r.Ea;exact s
 |cons p ps c=>obtain⟨v,us,rfl,a,b⟩:=r.inv;exact .cons a (c b)
theorem BN.one(r:B8 F H v t):BN F H [v] [t]:=.cons r .nil
theorem ZAc(r:Aa F vs xs):BN F H vs (xs.map .fz):=by
 induction xs generalizing vs with
 |nil=>cases r.Ea;exact .nil
 |cons p ps c=>obtain⟨v,us,rfl,a,b⟩:=r.inv;exact .cons (.fz a) (c b)
theorem dH:∀(xs:List PV),OV.Ap (xs.map .fz)=[]
 | []=>by rw[bL,OV.Ap]
 |x::r=>by rw[Bu,OV.Cv,OV.MM,dH r];rfl
theorem BN.set{xs:List OV}(j:Nat)(r:BN F H vs xs)(q:B8 F H v t):BN F H (vs.set j v) (xs.set j t):=by
 induction xs generalizing vs j with
 |nil=>cases r.Ea;exact .nil
 |cons p ps c=>
  obtain⟨u,us,rfl,a,b⟩:=r.inv;cases j with
  |zero=>exact .cons q b
  |succ j=>exact .cons a (c j b)
theorem BN.swap{xs:List OV}(r:BN F H vs xs)(h:xs[j]?=some x)(f:vs[j]?=some v)(e:∀l r,OV.Ap xs=l++x.addrs++r->(∀z:OV,OV.Ap (xs.set j z)=l++z.addrs++r)->∀b∈l++r,∀o,H b=some o->H' b=some o)(g:B8 F H' v y):BN F H' vs (xs.set j y):=by
 induction xs generalizing vs j with
 |nil=>cases h
 |cons p ps m=>
  obtain⟨u,us,rfl,a,b⟩:=r.inv;cases j with
  |zero=>
   cases h;cases f;refine .cons g (b.mono (A9.refl _) λc d o=>e [] (OV.Ap ps) (by rw[OV.Cv];rfl) (λz=>by rw[bR,OV.Cv];rfl) c d o)
  |succ j=>
   rw[UY];obtain⟨l,q,s,n⟩:=KC (xs:=ps) (j:=j) h;refine .cons (a.mono (A9.refl _) λc d o=>e (p.addrs++l) q (by rw[OV.Cv,s,Bj,Bj,Bj]) (λz=>by rw[UY,OV.Cv,n,Bj,Bj,Bj]) c (Fn _ (Fn _ d)) o) (m (vs:=us) (j:=j) b h f λk i EJ CU c d o=>?_);refine e (p.addrs++k) i (by rw[OV.Cv,EJ,Bj,Bj,Bj]) (λz=>by rw[UY,OV.Cv,CU,Bj,Bj,Bj]) c ?_ o;rcases List.mem_append.mp d with hz|hz
   .exact Fn _ (Dt _ hz)
   .exact Dt _ hz
theorem B8.at{F H:Hp}{u:OV}:∀{p:List Nat}{t:OV}{v:V},B8 F H v t->t.at p=some u->∃w,B8 F H w u/\∀(H':Hp)(n:OV),B8 F H' w n->(∀l r,t.addrs=l++u.addrs++r->(∀n:OV,(t.put p n).addrs=l++n.addrs++r)->∀b∈l++r,∀o,H b=some o->H' b=some o)->B8 F H' v (t.put p n)
 | [],t,v,h,e=>by rw[OV.Kl]at e;cases e;exact⟨v,h,λH' n r _=>by rw[OV.Gq];exact r⟩
 |j::p,.fz q,v,h,e=>by rw[OV.at]at e;cases e
 |j::p,.nd k a xs,_,.nd h sd ft r,e=>by
  rw[OV.Ll]at e;cases ex:xs[j]? with
  |none=>rw[ex]at e;cases e
  |some x=>
   rw[ex]at e;obtain⟨I,VI,C⟩:=r.get ex;obtain⟨w,d,go⟩:=B8.at (t:=x) C e;refine⟨w,d,λH' n B y=>?_⟩;obtain⟨l2,A,G,E⟩:=OV.split e;have i:∀l r,OV.Ap xs=l++x.addrs++r->(∀z:OV,OV.Ap (xs.set j z)=l++z.addrs++r)->∀b,b∈(a::(k.more++(l++l2)))++(A++r)->∀o,H b=some o->H' b=some o:=λl r s m b c o=>
    y (a::(k.more++(l++l2))) (A++r) (by rw[OV.Dh,s,G];simp[Bj]) (λn=>by rw[OV.K5 ex,OV.Dh,m,E];simp[Bj]) b c o
   obtain⟨l,q,s,m⟩:=KC ex;rw[OV.K5 ex];refine .nd (i l q s m a (by simp) _ h) (NK.c7 sd λb c=>i l q s m b (by simp[c])) ft ?_;refine r.swap ex VI (λg f EJ CU b c o=>i g f EJ CU b (by rcases List.mem_append.mp c with hz|hz <;> simp[hz]) o) ?_
   refine go H' n B λg f g1 D b c o=>?_;refine y (a::(k.more++(l++g))) (f++q) (by rw[OV.Dh,s,g1];simp[Bj]) (λn=>by rw[OV.K5 ex,OV.Dh,m,D];simp[Bj]) b (by rcases List.mem_append.mp c with hz|hz <;> simp[hz]) o
 |j::p,.tp xs,_,.tp h r,e=>by
  rw[OV.Oq]at e;cases ex:xs[j]? with
  |none=>rw[ex]at e;cases e
  |some x=>
   rw[ex]at e;obtain⟨I,VI,C⟩:=r.get ex;obtain⟨w,d,go⟩:=B8.at (t:=x) C e;refine⟨w,d,λH' n B y=>?_⟩;obtain⟨l2,A,G,E⟩:=OV.split e;obtain⟨l,q,s,m⟩:=KC ex;rw[OV.SA ex];refine .tp h (r.swap ex VI (λg f EJ CU b c o=>?_) (go H' n B λg f g1 D b c o=>?_))
   .exact y (g++l2) (A++f) (by rw[OV.Gm,EJ,G];simp[Bj]) (λn=>by rw[OV.SA ex,OV.Gm,CU,E];simp[Bj]) b (by rcases List.mem_append.mp c with hz|hz <;> simp[hz]) o
   .exact y (l++g) (f++q) (by rw[OV.Gm,s,g1];simp[Bj]) (λn=>by rw[OV.SA ex,OV.Gm,m,D];simp[Bj]) b (by rcases List.mem_append.mp c with hz|hz <;> simp[hz]) o
theorem ZI{l u r n:List Addr}(h:(l++u++r).Nodup)(hn:n.Nodup)(hd:∀b∈n,b∈u∨b∉l++u++r):(l++n++r).Nodup:=by
 rw[C6]at h ⊢;obtain⟨h1,h2,f⟩:=h;rw[C6]at h1 ⊢;obtain⟨a1,a2,g⟩:=h1;refine⟨⟨a1,hn,λa c b d e=>?_⟩,h2,λa c b d e=>?_⟩
 .subst e;rcases hd a d with z|z
  .exact g a c a z rfl
  .exact z (by simp[c])
 .subst e;rcases List.mem_append.mp c with c|c
  .exact f a (by simp[c]) a d rfl
  .rcases hd a c with z|z
   .exact f a (by simp[z]) a d rfl
   .exact z (by simp[d])
theorem Sg.Vw(S:Sg E ss Z F H){k:NK}{xs:List OV}{ho:HO}{lt:Bool}(hi:ss[i]?=some (.ow lt t))(Bt:t.at p=some (.nd k a xs))(hn:B8 F (upd H a ho) (.ref a) n)(nd:n.addrs.Nodup)
  (C:∀b∈n.addrs,b∈(OV.nd k a xs).addrs∨(F b=none/\E.H0 b=none/\∀(j:Nat)s,ss[j]?=some s->¬ BO s Z[j]? b)):Sg E (ss.set i (.ow lt (t.put p n))) Z F (upd H a ho):=by
 obtain⟨v,e,r,Y0,q⟩:=S.ok i _ hi;obtain⟨l,J,g,A⟩:=OV.split Bt;have f:a∈(OV.nd k a xs).addrs:=by rw[OV.Dh];simp
 have u:∀b∈(OV.nd k a xs).addrs,b∈t.addrs:=λb c=>by rw[g];simp[c]
 have T:∀b∈n.addrs,b∈(OV.nd k a xs).addrs∨b∉t.addrs:=λb c=>(C b c).imp id λz m=>z.2.2 i _ hi m;obtain⟨w,x,go⟩:=r.at Bt;have L:w=.ref a:=by cases x;rfl
 subst L;have h:∀(j:Nat)s,(ss.set i .any)[j]?=some s->∀b,b∈t.addrs->¬ BO s Z[j]? b:=λj s d b c m=>by
  by_cases z:j=i
  .subst z;rw[DD (List.getElem?_eq_some_iff.mp hi).1]at d;cases d;cases m
  .rw[CZ (BW z)]at d;exact S.Bi j i s _ b z d hi m c
 have R:=(S.drop i).WN (o:=ho) (q a (u a f)).1 ((q a (u a f)).2.imp id λz=>z.2) λj s d=>h j s d a (u a f);have y:=Y0;rw[g,C6,C6]at y;obtain⟨⟨_,_,N⟩,_,M⟩:=y;have Q:∀b,b∈l++J->b≠a:=λb c z=>by
  subst z;rcases List.mem_append.mp c with c|c
  .exact N b c b f rfl
  .exact M b (by simp[f]) b c rfl
 have K:B8 F (upd H a ho) v (t.put p n):=go _ n hn λV U g1 W b c o I=>by
  rw[Ah ?_];exact I;rintro rfl;have B:=Y0;rw[g1,C6,C6]at B;obtain⟨⟨_,_,P⟩,_,O⟩:=B;rcases List.mem_append.mp c with c|c
  .exact P b c b f rfl
  .exact O b (by simp[f]) b c rfl
 have D:∀b∈(t.put p n).addrs,b∈t.addrs∨(F b=none/\E.H0 b=none/\∀(j:Nat)s,ss[j]?=some s->¬ BO s Z[j]? b):=λb c=>by
  rw[A]at c;rcases List.mem_append.mp c with c|c
  .rcases List.mem_append.mp c with c|c
   .exact .inl (by rw[g];simp[c])
   .exact(C b c).imp (u b) id
  .exact .inl (by rw[g];simp[c])
 have G:=R.setG (j:=i) (s:=.ow lt (t.put p n)) (v:=v) ⟨v,rfl,K,by rw[A];exact ZI (g▸Y0) nd λb c=>(T b c).imp id (by rw[g];exact id),λb c=>(D b c).elim (q b) λz=>⟨z.1,.inl z.2.1⟩⟩ λb c j s d hs m=>by
  rcases D b c with z|z
  .exact h j s hs b z m
  .rw[CZ (BW d)]at hs;exact z.2.2 j s hs m
 rw[Tv e,bS]at G;exact G
structure Wl [Xw] (ss:List Slot) (i:Nat) (t:OV) (te:TE) (k:List Nat->OV->Prop):Prop where
 hi:∃lt,ss[i]?=some (.ow lt t)
 go:∀(E:Ent)(Z:L2.St)(F H:Hp)(Q:VK),Sg E ss Z F H->(∀v p u F' H',Mv E ss Z F H F' H'->B8 F' H' v u->t.at p=some u->k p u->Q v H')->te Z H Q
def E7:List Nat->List Slot->List Slot
 | [],ss=>ss
 |i::m,ss=>E7 m (ss.set i .any)
structure Wx [Xw] (ss:List Slot) (te:TE) (k:List Nat->OV->Prop):Prop where
 go:∀(E:Ent)(Z:L2.St)(F H:Hp)(Q:VK),Sg E ss Z F H->(∀v m u F' H',Mv E ss Z F H F' H'->B8 F' H' v u->u.addrs.Nodup->(∀a∈u.addrs,F' a=none/\E.H0 a=none/\((∃i∈m,∃s,s≠Slot.AD/\ss[i]?=some s/\BO s Z[i]? a)∨H a=none))->k m u->Q v H')->te Z H Q
structure Kw [Xw] (ss:List Slot) (te:TA) (k:List Nat->List OV->Prop):Prop where
 go:∀(E:Ent)(Z:L2.St)(F H:Hp)(Q:List V->Hp->Prop),Sg E ss Z F H->(∀vs m us F' H',Mv E ss Z F H F' H'->BN F' H' vs us->(OV.Ap us).Nodup->(∀a∈OV.Ap us,F' a=none/\E.H0 a=none/\((∃i∈m,∃s,s≠Slot.AD/\ss[i]?=some s/\BO s Z[i]? a)∨H a=none))->k m us->Q vs H')->te Z H Q
section
variable[Xw]
variable{K:ZKG}{k:PV->Prop}
theorem OV.Kj(h:t.at p=some u):∀a∈u.addrs,a∈t.addrs:=λa b=>by
 obtain⟨l,r,e,_⟩:=OV.split h;rw[e];simp[b]
theorem B8.mv(r:B8 F H v u)(S:Sg E ss Z F H)(hi:∃lt,ss[i]?=some (.ow lt t))(h:t.at p=some u)(m:Mv E ss Z F H F' H'):B8 F' H' v u:=
 r.mono m.ff λa b o e=>m.hh a o (S.OW hi.choose_spec (OV.Kj h a b) (by simp)) e
theorem E2{lt:Bool}{k:List Nat->OV->Prop}(hi:ss[i]?=some (.ow lt t))(a:k [] t):Wl ss i t (BJ i) k:=⟨⟨lt,hi⟩,λE Z F H Q S q=>by
 obtain⟨v,e,r,_,_⟩:=S.ok i _ hi;exact⟨v,e,q v [] t F H (.refl S) r OV.Kl a⟩⟩
theorem TX{k:List Nat->OV->Prop}(h:Wl ss i t ta λp u=>∃a xs,u=.nd .lst a xs/\Wp ss tb λq=>∃(j:Int)(n:Nat)(w:OV),q=.int j/\Ip xs.length j=some n/\xs[n]?=some w/\k (p++[n]) w):Wl ss i t (By (JO K) ta tb) k:=⟨h.hi,λE Z F H Q S q=>
 h.go E Z F H _ S λv p u F1 H1 b l h1⟨a,xs,o,h2⟩=>h2.go E Z F1 H1 _ b.st λv2 p2 F2 H2 m2 g⟨j,n,w,e,hn,hw,kk⟩=>by
  subst e;cases g.inv;have f:=l.mv b.st h.hi h1 m2;subst o;obtain⟨_,rfl,m,r,s,c⟩:=f.inv;obtain⟨x,hx,d⟩:=c.get hw;refine⟨a,_,j,x,rfl,rfl,AK.of m,?_,q x (p++[n]) w F2 H2 (b.trans m2) d (OV.NM h1 (by rw[OV.Ll,hw];exact OV.Kl)) kk⟩;unfold L2.Bf;rw[c.length,hn];exact hx⟩
theorem Np{k:List Nat->OV->Prop}(h:Wl ss i t ta λp u=>∃xs,u=.tp xs/\Wp ss tb λq=>∃(j:Int)(n:Nat)(w:OV),q=.int j/\Ip xs.length j=some n/\xs[n]?=some w/\k (p++[n]) w):Wl ss i t (By (Ij K) ta tb) k:=⟨h.hi,λE Z F H Q S q=>
 h.go E Z F H _ S λv p u F1 H1 a g h1⟨xs,m,h2⟩=>h2.go E Z F1 H1 _ a.st λv2 p2 F2 H2 m2 f⟨j,n,w,e,hn,hw,kk⟩=>by
  subst e;cases f.inv;have d:=g.mv a.st h.hi h1 m2;subst m;obtain⟨_,_,rfl,l,b⟩:=d.inv;obtain⟨x,hx,c⟩:=b.get hw;refine⟨_,_,j,x,rfl,rfl,AE.of (m2.st.fh _ _ l),?_,q x (p++[n]) w F2 H2 (a.trans m2) c (OV.NM h1 (by rw[OV.Oq,hw];exact OV.Kl)) kk⟩;unfold L2.Bf;rw[b.length,hn];exact hx⟩
theorem Dq(h:Wl ss i t te λ_ u=>∃p,u=.fz p/\k p):Wp ss te k:=⟨λE Z F H Q S q=>
 h.go E Z F H _ S λv p u F1 H1 b a h1 AO=>by obtain⟨p,c,kk⟩:=AO;subst c;cases a with|fz r=>exact q v p F1 H1 b r kk⟩
theorem FD{k:List Nat->OV->Prop}(h:Wp ss te λp=>k [] (.fz p)):Wx ss te k:=⟨λE Z F H Q S q=>
 h.go E Z F H _ S λv p F1 H1 c r kk=>q v [] (.fz p) F1 H1 c (.fz r) (by rw[OV.MM];exact QN) (λa b=>by rw[OV.MM]at b;cases b) kk⟩
theorem jW(a:Addr)(xs:List PV):(OV.nd .lst a (xs.map .fz)).addrs=[a]:=by rw[OV.Dh,dH];rfl
theorem ZD3{k:List Nat->OV->Prop}(hi:ss[i]?=some (.own xs))(h:∀l,k [i] (.nd .lst l (xs.map .fz))):Wx ss (BJ i) k:=⟨λE Z F H Q S q=>by
 obtain⟨l,vs,e,f,d,c,r⟩:=S.ok i _ hi;refine⟨_,e,q _ [i] _ F H (.refl S) (.nd (k:=.lst) c trivial trivial (ZAc r)) (by rw[jW];simp) (λa b=>?_) (h l)⟩;rw[jW]at b;have ea:a=l:=by simpa using b
 subst ea;exact⟨f,d,.inl ⟨i,by simp,_,by simp,hi,e⟩⟩⟩
theorem Qw{k:List Nat->List OV->Prop}(h:k [] []):Kw ss B4 k:=⟨λE Z F H Q S q=>q _ [] [] F H (.refl S) .nil (by rw[OV.Iq];exact QN) (λa b=>by rw[OV.Iq]at b;cases b) h⟩
theorem Wx.ZEu(S:Sg E ss Z F H)(h:(∃i∈m,∃s,s≠Slot.AD/\ss[i]?=some s/\BO s Z[i]? a)∨H a=none):Ce ss Z a:=by
 rcases h with⟨j,_,s,hp,hs,o⟩|z
 .exact S.OW hs o hp
 .exact S.Oh z
theorem Mv.q8(m:Mv E ss Z F H F' H')(h:F a=Option.none)(h2:H a≠Option.none):F' a=Option.none:=by
 cases e:F' a with
 |none=>rfl
 |some o=>
  rcases m.nn a o e with z|z
  .rw[h]at z;cases z
  .exact absurd z h2
theorem Od{k:List Nat->List OV->Prop}(h:Wx ss te λm u=>Kw ss tr λm2 us=>(∀i∈m,i∉m2)/\k (m++m2) (u::us)):Kw ss (AX te tr) k:=⟨λE Z F H Q S q=>
 h.go E Z F H _ S λv m u F1 H1 n g EY a1 h2=>h2.go E Z F1 H1 _ n.st λvs l us F2 H2 m2 x HC a2 AO=>by
  obtain⟨B,kk⟩:=AO;have np:∀a∈u.addrs,Ce ss Z a:=λa c=>Wx.ZEu S (a1 a c).2.2;refine q (v::vs) (m++l) (u::us) F2 H2 (n.trans m2) (.cons (g.mono m2.ff λa c o e=>m2.hh a o (np a c) e) x) ?_ (λa c=>?_) kk
  .rw[OV.Cv,C6];refine⟨EY,HC,λa c b A e=>?_⟩;subst e;rcases(a2 a A).2.2 with⟨y,t,s2,Q8,DZ,r⟩|z
   .rcases(a1 a c).2.2 with⟨j,d,s,hp,hs,o⟩|z
    .exact S.Bi j y s s2 a (by rintro rfl;exact B j d t) hs DZ o r
    .exact S.ET DZ r z
   .exact g.there a c z
  .rw[OV.Cv]at c;rcases List.mem_append.mp c with c|c
   .obtain⟨f,p,w⟩:=a1 a c;exact⟨m2.q8 f (g.there a c),p,w.imp (λDs=>by obtain⟨j,d,z⟩:=Ds;exact⟨j,by simp[d],z⟩) id⟩
   .obtain⟨f,p,w⟩:=a2 a c;exact⟨f,p,w.imp (λW3=>by obtain⟨j,d,z⟩:=W3;exact⟨j,by simp[d],z⟩) n.none⟩⟩
theorem rV{k:List Nat->OV->Prop}(h:Kw ss tr λm us=>us.length<=100000/\k m (.tp us)):Wx ss (QC tr) k:=⟨λE Z F H Q S q=>
 h.go E Z F H _ S λvs m us F1 H1 d c EY a1 AO=>by obtain⟨g,kk⟩:=AO;exact⟨small (by rw[c.length];exact g),λp hp=>by
  have m2:=d.st.alloc hp (.tup vs);refine q _ m (.tp us) _ _ (d.trans m2) (.tp AJ (c.mono m2.ff λa b o e=>by rw[Ah (by rintro rfl;exact c.there _ b hp)];exact e)) (by rw[OV.Gm];exact EY) (λa b=>?_) kk;rw[OV.Gm]at b;obtain⟨f,i,w⟩:=a1 a b;exact⟨by rw[Ah (by rintro rfl;exact c.there _ b hp)];exact f,i,w⟩⟩⟩
theorem iU{k:List Nat->OV->Prop}(h:Kw ss tr λm us=>us.length<=100000/\∀l,k m (.nd .lst l us)):Wx ss (Sr tr) k:=⟨λE Z F H Q S q=>
 h.go E Z F H _ S λvs m us F1 H1 c d EY a1 AO=>by obtain⟨i,kk⟩:=AO;exact⟨small (by rw[d.length];exact i),λp hp=>by
  have m2:=c.st.make hp (.lst vs);have g:p∉OV.Ap us:=λb=>d.there _ b hp;refine q _ m (.nd .lst p us) _ _ (c.trans m2) (.nd (k:=.lst) AJ trivial trivial (d.mono m2.ff λa b o e=>by rw[Ah (by rintro rfl;exact g b)];exact e)) ?_ (λa b=>?_) (kk p)
  .rw[OV.Dh];exact List.nodup_cons.mpr ⟨g,EY⟩
  .rw[OV.Dh]at b;rcases List.mem_cons.mp b with e|b
   .subst e;exact⟨c.st.Bd hp,c.st.EU hp,.inr (c.none hp)⟩
   .obtain⟨f,j,w⟩:=a1 a b;exact⟨f,j,w⟩⟩⟩
theorem QB{j:Nat}{s:Slot}:∀{m:List Nat}{ss:List Slot},(E7 m ss)[j]?=some s->s=.any∨(ss[j]?=some s/\j∉m)
 | [],ss,h=>.inr ⟨h,by simp⟩
 |i::m,ss,h=>by
  rcases QB (m:=m) (ss:=ss.set i .any) h with e|⟨e,hm⟩
  .exact .inl e
  .by_cases q:j=i
   .subst q;have a:j<ss.length:=by have:=(List.getElem?_eq_some_iff.mp e).1;simpa using this
    rw[DD a]at e;exact .inl (BX e).symm
   .rw[CZ (BW q)]at e;exact .inr ⟨e,by simp[q,hm]⟩
theorem Sg.E7{E:Ent0}{Z:L2.St}{F H:Hp}:∀(m:List Nat){ss:List Slot},Sg E ss Z F H->Sg E (Fz.E7 m ss) Z F H
 | [],_,S=>S
 |i::m,_,S=>Sg.E7 m (S.drop i)
theorem Sg.lU(S0:Sg E ss Z F0 H0)(S:Sg E ss Z F H)(r:B8 F H v u)(nd:u.addrs.Nodup)(hu:∀a∈u.addrs,F a=none/\E.H0 a=none/\((∃i∈m,∃s,s≠Slot.AD/\ss[i]?=some s/\BO s Z[i]? a)∨H0 a=none)):
  Sg E ((Fz.E7 m ss).set j (.ow false u)) (Z.set j (some v)) F H:=by
 refine(S.E7 m).setG ⟨v,rfl,r,nd,λa b=>⟨(hu a b).1,.inl (hu a b).2.1⟩⟩ λa b i s C5 hs o=>?_;rcases QB hs with e|⟨HN,hm⟩
 .subst e;cases o
 .rcases(hu a b).2.2 with⟨i2,Ef,s2,_,DZ,c⟩|z
  .exact S.Bi i i2 s s2 a (by rintro rfl;exact hm Ef) HN DZ o c
  .exact S0.ET HN o z
theorem WV(h:Wx ss te λm u=>nx ((Fz.E7 m ss).set j (.ow false u))):Ws ss (GF te (ES j)) nx R:=⟨λE D Z F H S hn b=>
 h.go E Z F H _ S λv m u F1 H1 a r nd hu kk=>hn _ _ F1 H1 kk (Sg.lU S a.st r nd hu) a.ff⟩
theorem B8.rep(ff:A9 F F1):∀{v:V}{t:OV},B8 F H v t->(∀a∈t.addrs,∀o,H a=some o->F1 a=some o)->Rep F1 v t.pv:=by
 intro v t r h;exact B8.rec (motive_1:=λv t _=>(∀a∈t.addrs,∀o,H a=some o->F1 a=some o)->Rep F1 v t.pv) (motive_2:=λvs ts _=>(∀a∈OV.Ap ts,∀o,H a=some o->F1 a=some o)->Aa F1 vs (OV.G0 ts))
  (λ{v p}r _=>by rw[OV.pv];exact r.mono ff)
  (λ{a vs xs}e _ c h=>by rw[OV.pv];exact .tup (ff _ _ e) (c (by rw[OV.Gm]at h;exact h)))
  (λ{k a vs xs}e i g _ c h=>by
   rw[OV.Dh]at h;have f:=c λa b=>h a (by simp[b]);have d:=h a (by simp) _ e;cases k with
   |lst=>rw[OV.pv];exact .lst d f
   |B0 ks=>rw[OV.pv];exact .B0 d g f
   |obj C dx ns=>rw[OV.pv];exact .obj d (h dx (by simp[NK.more]) _ i) g f)
  (λ_=>by rw[OV.G0];exact .nil)
  (λ_ _ Ze Yv h=>by
   rw[OV.Cv]at h;rw[OV.G0];exact .cons (Ze λa b=>h a (by simp[b])) (Yv λa b=>h a (by simp[b])))
  r h
variable{lt:Bool}
theorem Mr:(OV.nd .lst a us).addrs=a::OV.Ap us:=by rw[OV.Dh];rfl
theorem LA:∀(us ws:List OV),OV.Ap (us++ws)=OV.Ap us++OV.Ap ws
 | [],ws=>by rw[bN,OV.Iq,bN]
 |u::us,ws=>by rw[bB,OV.Cv,OV.Cv,LA us ws,Bj]
theorem MD(u:OV):OV.Ap [u]=u.addrs:=by rw[OV.Cv,OV.Iq,FN]
theorem Sg.rO{us':List OV}(S0:Sg E ss Z F0 H0)(S:Sg E ss Z F H)(hi:ss[i]?=some (.ow lt t))(Bt:t.at p=some (.nd .lst a us))
  (hu:∀a∈u.addrs,F a=none/\E.H0 a=none/\((∃i∈m,∃s,s≠Slot.AD/\ss[i]?=some s/\BO s Z[i]? a)∨H0 a=none)) (Em:i∉m)
  (C:BN F H CP us') (Ph:(OV.Ap us').Nodup) (Eu:∀b∈OV.Ap us',b∈OV.Ap us∨b∈u.addrs):Sg E ((Fz.E7 m ss).set i (.ow lt (t.put p (.nd .lst a us')))) Z F (upd H a (.lst CP)):=by
 have J:(Fz.E7 m ss)[i]?=some (.ow lt t):=by
  have f:∀(m:List Nat)(ss:List Slot),ss[i]?=some (.ow lt t)->i∉m->(Fz.E7 m ss)[i]?=some (.ow lt t):=by
   intro m
   induction m with
   |nil=>intro ss h _;exact h
   |cons j m B=>
    intro ss h d;refine B _ ?_ λz=>d (by simp[z]);rw[CZ (by rintro rfl;exact d (by simp))];exact h
  exact f m ss hi Em
 obtain⟨v,e,r,nd,q⟩:=S.ok i _ hi;have x:∀b,b∈a::OV.Ap us->b∈t.addrs:=λb c=>OV.Kj Bt b (by rw[Mr];exact c);have I:∀b∈u.addrs,b∉t.addrs:=λb c z=>by
  rcases(hu b c).2.2 with⟨j,D,s,_,hs,o⟩|w
  .exact S.Bi j i s _ b (by rintro rfl;exact Em D) hs hi o z
  .exact S0.ET hi z w
 have n:(OV.nd .lst a us).addrs.Nodup:=by
  obtain⟨l,K,G,_⟩:=OV.split Bt;rw[G,C6,C6]at nd;exact nd.1.2.1
 rw[Mr]at n;have g:∀b∈OV.Ap us',b≠a:=λb c z=>by
  subst z;rcases Eu b c with w|w
  .exact(List.nodup_cons.mp n).1 w
  .exact I b w (x b (by simp))
 refine(S.E7 m).Vw J Bt (.nd (k:=.lst) AJ trivial trivial (C.mono (A9.refl _) λb c o ho=>by rw[Ah (g b c)];exact ho)) (by rw[Mr];exact List.nodup_cons.mpr ⟨λz=>g a z rfl,Ph⟩) λb c=>?_;rw[Mr]at c ⊢;rcases List.mem_cons.mp c with w|w
 .exact .inl (by simp[w])
 .rcases Eu b w with z|z
  .exact .inl (by simp[z])
  .refine .inr ⟨(hu b z).1,(hu b z).2.1,λj s hs o=>?_⟩;rcases QB hs with y|⟨HN,d⟩
   .subst y;cases o
   .rcases(hu b z).2.2 with⟨i2,Ef,s2,_,DZ,A⟩|y
    .exact S.Bi j i2 s s2 b (by rintro rfl;exact d Ef) HN DZ o A
    .exact S0.ET HN o y
theorem Yy(h:Wl ss i t ta λp u=>∃lt a us,ss[i]?=some (.ow lt t)/\u=.nd .lst a us/\us.length<=99999/\Wx ss te λm w=>i∉m/\nx ((E7 m ss).set i (.ow lt (t.put p (.nd .lst a (us++[w])))))):Ws ss (Jn (P2 K "list" OF ta (AX te B4))) nx R:=⟨λE D Z F H S hn X=>
 h.go E Z F H _ S λv p u F1 H1 c J h1⟨lt,a,us,hi,T,M,hw⟩=>by
  subst T;cases J with
  |@nd k Y vs _ r C Q f=>
   refine .inl ⟨rfl,_,AK.of r⟩ |> λg=>⟨g,hw.go E Z F1 H1 _ c.st λv2 m w F2 H2 m2 I HC a2⟨Em,kk⟩=>?_⟩;have G:=(B8.nd (k:=.lst) r C Q f).mv c.st h.hi h1 m2;cases G with
   |@nd _ _ L _ A B P n=>
    refine⟨a,L,v2,rfl,rfl,A,Mf (by rw[n.length];exact M),?_⟩;refine hn _ Z F2 _ kk (Sg.rO (u:=w) c.st m2.st hi h1 a2 Em (n.append (.one I)) ?_ λb q=>?_) (c.ff.trans m2.ff)
    .rw[LA,MD,C6];obtain⟨V,e0,W,DY,g⟩:=m2.st.ok i _ hi;have z:(OV.nd .lst a us).addrs.Nodup:=by
      obtain⟨l,f,U,_⟩:=OV.split h1;rw[U,C6,C6]at DY;exact DY.1.2.1
     rw[Mr]at z;refine⟨(List.nodup_cons.mp z).2,HC,λx hx y N e=>?_⟩;subst e;have d:x∈t.addrs:=OV.Kj h1 x (by rw[Mr];simp[hx]);rcases(a2 x N).2.2 with⟨j,O,s,_,hs,o⟩|w
     .exact c.st.Bi j i s _ x (by rintro rfl;exact Em O) hs hi o d
     .exact c.st.ET hi d w
    .rw[LA,MD]at q;exact List.mem_append.mp q⟩
theorem jT{k:OV->Prop}(h:Wx ss te λ_ u=>k u):Ws ss (Ib te) nx (.ow k):=⟨λE D Z F H S hn d=>
 h.go E Z F H _ S λv m u F1 H1 c r nd hu kk=>d v F1 H1 c.st.toFin ⟨u,r,nd,λa b=>⟨(hu a b).1,(hu a b).2.1⟩,kk⟩⟩
theorem ZF3{ta:TA}{k:List Nat->OV->Prop}(c:ss[j]?=some .AD)(h:Wa ss ta λl=>∃k',pre (.AD::l) (.ow k')/\∀u,k' u->k [] u):Wx ss (C0 (Ag pre) [] E0 (AX (BJ j) ta)) k:=⟨λE Z F H Q S q=>by
 obtain⟨p,e,_⟩:=S.ok j _ c;refine⟨_,e,h.go E Z F H _ S λvs l F1 H1 b a⟨k',hp,kk⟩=>?_⟩;show Ag pre ((V.ref p::vs)++[]) H1 Q E0;rw[FN];refine⟨.AD::l,.ow k',F1,[p],hp,b.st.bx c e a,λv F' H' f⟨u,r,nd,hu,g⟩=>?_⟩;exact q v [] u F' H' (b.trans (b.st.back (A:=[p]) (λa h=>⟨j,c,(show a=p from by simpa using h)▸e⟩) f)) r nd (λa d=>⟨(hu a d).1,S.EU (b.none (hu a d).2),.inr (b.none (hu a d).2)⟩) (kk u g)⟩
end
def ptr(a:Addr):Hp->V->Prop:=λ_ v=>v=.ref a
def D0:List Slot->L2.St->List Addr
 | .own _::ss,some (.ref l)::Z=>l::D0 ss Z
 | .ow _ t::ss,_::Z=>t.addrs++D0 ss Z
 |_::ss,_::Z=>D0 ss Z
 |_,_=>[]
theorem nU:∀{ss:List Slot}{Z:L2.St}{a:Addr},a∈D0 ss Z->∃(i:Nat)(s:Slot),ss[i]?=some s/\s≠.AD/\BO s Z[i]? a
 | [],Z,a,h=>absurd h B2
 |s::ss,[],a,h=>by cases s <;> exact absurd h B2
 |s::ss,o::Z,a,h=>by
  have up:a∈D0 ss Z->∃(i:Nat)(s':Slot),(s::ss)[i]?=some s'/\s'≠.AD/\BO s' (o::Z)[i]? a:=λh=>by
   obtain⟨i,s',h1,h2,b⟩:=nU h;exact⟨i+1,s',by simpa using h1,h2,by simpa using b⟩
  cases s with
  |own xs=>
   cases o with
   |none=>exact up h
   |some v=>
    cases v with
    |ref l=>
     have h:a∈l::D0 ss Z:=h;rcases List.mem_cons.mp h with e|h
     .subst e;exact⟨0,_,rfl,by simp,rfl⟩
     .exact up h
    |_=>exact up h
  |ow lt t=>
   have h:a∈t.addrs++D0 ss Z:=h;rcases List.mem_append.mp h with h|h
   .exact⟨0,_,rfl,by simp,h⟩
   .exact up h
  |_=>exact up h
theorem U8:∀{ss:List Slot}{Z:L2.St}{i:Nat}{s:Slot}{a:Addr},ss.length=Z.length->ss[i]?=some s->s≠.AD->BO s Z[i]? a->a∈D0 ss Z
 | [],Z,i,s,a,_,h,_,_=>by simp at h
 |s0::ss,[],i,s,a,hl,_,_,_=>by simp at hl
 |s0::ss,o::Z,0,s,a,hl,h,hp,ho=>by
  simp at h;subst h;cases s0 with
  |own xs=>
   have e:o=some (.ref a):=by have:some o=some (some (V.ref a)):=ho;exact BX this
   subst e;exact Cp
  |ow lt t=>exact Fn _ ho
  |AD=>exact absurd rfl hp
  |_=>cases ho
 |s0::ss,o::Z,i+1,s,a,hl,h,hp,ho=>by
  have q:=U8 (ss:=ss) (Z:=Z) (i:=i) (a:=a) (by simpa using hl) (by simpa using h) hp (by simpa using ho)
  cases s0 with
  |own xs=>cases o with
   |none=>exact q
   |some v=>cases v with
    |ref l=>exact D3 _ q
    |_=>exact q
  |ow lt t=>exact Dt _ q
  |_=>exact q
theorem B8.kF(r:B8 F H v t):∀a∈t.addrs,∀vs,H a≠some (.tup vs):=
 B8.rec (motive_1:=λ_ t _=>∀a∈t.addrs,∀vs,H a≠some (.tup vs)) (motive_2:=λ_ ts _=>∀a∈OV.Ap ts,∀vs,H a≠some (.tup vs))
  (λ_ a c _=>by rw[OV.MM]at c;cases c)
  (λ_ _ i a c vs=>by rw[OV.Gm]at c;exact i a c vs)
  (λ{k}{b}{_}{_}h d _ _ i a c vs=>by
   rw[OV.Dh,EI,Gb]at c;rcases c with rfl|c|c
   .rw[h];cases k <;> (intro z;cases z)
   .cases k with
    |obj C dx ns=>
     have e:a=dx:=List.mem_singleton.mp c;subst e;have f:H a=some (.own b):=d;rw[f];intro z;cases z
    |_=>exact absurd c B2
   .exact i a c vs)
  (λa c _=>by rw[OV.Iq]at c;cases c)
  (λ_ _ i k a c ws=>by
   rw[OV.Cv,Gb]at c;rcases c with c|c
   .exact i a c ws
   .exact k a c ws)
  r
mutual
def EB:PV->Bool
 | .lst _=>false
 | .B0 _ _=>false
 | .obj _ _ _=>false
 | .exc _ _ _=>false
 | .tup xs=>Ge xs
 |_=>true
def Ge:List PV->Bool
 | []=>true
 |x::r=>EB x && Ge r
end
def Fx(F:Hp)(as:List Addr):Hp:=λa=>if a∈as then none else F a
theorem Rep.sub{as:List Addr}(h:∀a∈as,∀vs,F a≠some (.tup vs)):∀{v:V}{p:PV},Rep F v p->EB p=true->Rep (Fx F as) v p:=by
 intro v p r hn;exact Rep.rec (motive_1:=λv p _=>EB p=true->Rep (Fx F as) v p) (motive_2:=λvs ps _=>Ge ps=true->Aa (Fx F as) vs ps)
  (λ_=>.AG) (λb _=>.bl b) (λi _=>.int i) (λx _=>.str x)
  (λ_ _ _ z=>by simp[EB]at z)
  (λ{a vs xs}e _ c z=>.tup (by unfold Fx;rw[tJ (λq=>h a q vs e)];exact e) (c (by simpa[EB]using z)))
  (λ_ _ _ _ z=>by simp[EB]at z)
  (λ_ _ _ _ _ z=>by simp[EB]at z)
  (λ_=>.con)
  (λ_ z=>by simp[EB]at z)
  (λ_ _ _ _ _ z=>by simp[EB]at z)
  (λ_=>.nil)
  (λ_ _ Ze Yv z=>by
   rw[Ge,Eb]at z;exact .cons (Ze z.1) (Yv z.2))
  r hn
theorem Aa.sub{as:List Addr}(h:∀a∈as,∀vs,F a≠some (.tup vs))(r:Aa F vs ps)(z:Ge ps=true):Aa (Fx F as) vs ps:=by
 induction ps generalizing vs with
 |nil=>cases r.Ea;exact .nil
 |cons p ps c=>
  obtain⟨v,ws,rfl,a,b⟩:=r.inv;have z:=(Eb _ _).mp z;exact .cons (a.sub h z.1) (c b z.2)
structure Wb [Xw] (ss:List Slot) (ta:TA) (k:List PV->Prop):Prop where
 go:∀(E:Ent)(Z:L2.St)(F H:Hp)(Q:List V->Hp->Prop),Sg E ss Z F H->(∀vs ps F' H',Mv E ss Z F H F' H'->Aa (BL F' H' (D0 ss Z)) vs ps->k ps->Q vs H')->ta Z H Q
theorem Sg.as(S:Sg E ss Z F H)(h:a∈D0 ss Z):F a=none/\H a≠none/\(∀vs,H a≠some (.tup vs))/\Ce ss Z a:=by
 obtain⟨i,s,hs,hp,ho⟩:=nU h;refine⟨S.yZ hs ho,S.ET hs ho,?_,S.OW hs ho hp⟩;have k:=S.ok i s hs;cases s with
 |own xs=>obtain⟨l,vs,e,_,_,b,_⟩:=k;rw[show Z[i]?=some (some (.ref a))from ho]at e;cases e;rw[b];simp
 |ow lt t=>obtain⟨v,_,r,_⟩:=k;exact r.kF a ho
 |AD=>exact absurd rfl hp
 |_=>cases ho
theorem Sg.Hm(S:Sg E ss Z F H):A9 F (BL F H (D0 ss Z))/\A9 (BL F H (D0 ss Z)) H:=by
 refine⟨λa o e=>?_,λa o e=>?_⟩
 .unfold BL;rw[tJ (λq=>by rw[(S.as q).1]at e;cases e)];exact e
 .unfold BL at e;split at e
  .exact e
  .exact S.fh a o e
theorem Sg.lend(S:Sg E ss Z F H)(r:Aa (BL F H (D0 ss Z)) vs ps):Sg (E3 [] (BL F H (D0 ss Z)) H) (ps.map .is) (vs.map some) (BL F H (D0 ss Z)) H:=by
 have nn:∀{p:Prop}(a:Addr),a∈([]:List Addr)->p:=λa h=>absurd h B2;refine⟨⟨S.Hm.2,A9.refl _,λ_ _ _ e=>e,λ_ _ e=>.inl e,λa h=>nn a h,λa h=>nn a h,λa h=>nn a h,λa h=>nn a h,λa h=>nn a h,λa h=>nn a h⟩,by rw[AS,AS,r.length],λi s hi=>?_,λi j s u l C5 hi f ms d=>?_⟩
 .rw[B1]at hi;cases e:ps[i]? with
  |none=>rw[e]at hi;cases hi
  |some p=>
   rw[e]at hi;obtain⟨v,c,b⟩:=r.get e;have es:Slot.is p=s:=BX hi;subst es;rw[B1,c];exact⟨v,rfl,b⟩
 .rw[B1]at hi;cases e:ps[i]? with
  |none=>rw[e]at hi;cases hi
  |some p=>rw[e]at hi;have es:Slot.is p=s:=BX hi;subst es;cases ms
theorem Sg.XQ(S:Sg E ss Z F H)(f:Fin (E3 [] (BL F H (D0 ss Z)) H) F' H'):Mv E ss Z F H (Fx F' (D0 ss Z)) H'/\∀a∈D0 ss Z,∀vs,F' a≠some (.tup vs):=by
 have kp:∀a o,H a=some o->H' a=some o:=λa o e=>f.keep a o ⟨B2,B2⟩ e;refine⟨S.step (λa o e=>?_) (λa o e=>?_) (λa o _ e=>kp a o e) (λa o e=>?_) (λi l hi e=>Be.keep (S.EW hi e) λo e=>kp l o e),λa c vs e=>?_⟩
 .unfold Fx;rw[tJ (λq=>by rw[(S.as q).1]at e;cases e)];exact f.f0 a o (S.Hm.1 a o e)
 .unfold Fx at e;split at e
  .cases e
  .exact f.fh a o e
 .unfold Fx at e;split at e
  .cases e
  .rename_i q;rcases f.fresh a o e with z|z
   .left
    have b:BL F H (D0 ss Z) a=some o:=z;unfold BL at b;rw[tJ q]at b;exact b
   .exact .inr z
 .obtain⟨o,ho⟩:=Option.ne_none_iff_exists'.mp (S.as c).2.1;have z:F' a=some o:=f.f0 a o (by show BL F H (D0 ss Z) a=some o;unfold BL;rw[tU c];exact ho);rw[z]at e;cases e;exact(S.as c).2.2.1 vs ho
section
variable[Xw]
variable{K:ZKG}{k:PV->Prop}{lt:Bool}
theorem bf{k:List PV->Prop}(h:k []):Wb ss B4 k:=⟨λE Z F H Q S q=>q _ _ F H (.refl S) .nil h⟩
theorem kW{k:List PV->Prop}(h:Wp ss te λp=>Wb ss tr λps=>k (p::ps)):Wb ss (AX te tr) k:=⟨λE Z F H Q S q=>
 h.go E Z F H _ S λv p F1 H1 a c h2=>h2.go E Z F1 H1 _ a.st λvs ps F2 H2 m2 b kk=>q _ _ F2 H2 (a.trans m2) (.cons ((c.mono m2.ff).mono m2.st.Hm.1) b) kk⟩
end
theorem Rq:∀{xs:List PV},(∀x∈xs,CG x x=true)->DC xs xs=true
 | [],_=>by rw[DC]
 |x::r,h=>by rw[SN,h x (by simp),Rq (xs:=r) λy a=>h y (by simp[a])];rfl
theorem nD{K:ZKG}:∀(d:Nat){p:PV},dat K d p->CG p p=true:=by
 intro d
 induction d with
 |zero=>intro p h;cases p <;> first|exact h.elim|rfl|exact xJ _
 |succ d b=>
  intro p h;cases p with
  |lst xs=>show DC xs xs=true;exact Rq λx hx=>b (h x hx)
  |tup xs=>show DC xs xs=true;exact Rq λx hx=>b (h x hx)
  |con a xs=>show DC xs xs=true;exact Rq λx hx=>b (h.1 x hx)
  |_=>first|exact h.elim|rfl|exact xJ _
end Fz
namespace L2
variable{M:Model}{A:Around}{E xe:Value->Shared->Prop}{s:Shared}{Zy:Heap}{env:Env}{outer:List Env}{C S ea f fI:Addr}{dx tb:Option Addr}{w:World}{mg:ZKI}{N ps sn:List Str}{n name par qual x:Str}{scope:Scope}{cd v:Value}{H:Hp}{X:Cx}{E':St->XK}{Bz Ke np p pos:Pos}{e e0:Expr}{es:List Expr}{t:TA}{ab yM:Bool}{prog:Program}{ZJW Zh:ZKH}{Z:St}{j kk:Nat}{fd:FuncData}{body fj:List Stmt}{b0:Stmt}{ie:(St->XK)->TS}{th:TS}{sp:Sp}
section
variable{K:ZKG}{x t:Addr}
section
open PySem.Builtin PySem.Builtin.ObjectAttr
end
end
end L2
namespace Fz
open L2 Lw
variable{xs:List PV}{E:Ent0}{ss:List Slot}{Z:L2.St}{F F' H H':Hp}{ta tb tc te:TE}{tp:Bool}{nx:List Slot->Prop}{R:Ae}{α:Type}{cs ms ns pre u:List Str}{x:Str}{g i:Nat}
structure N6 (K:ZKG) (a:Addr) (xs:List PV):Prop where
 KN:xs.all flat=true
 sq:∀H,AE K H a (xs.map Fz.enc)
 ob:∃o:Obj,K.lookup a=some o/\o.cls=.type "tuple"
theorem N6.of{K:ZKG}{a:Addr}{vs:List V}(h:∀H,AE K H a vs)(e:xs.map Fz.enc=vs)(f:xs.all flat=true):N6 K a xs:=by
 subst e;refine⟨f,h,?_⟩;rcases h (λ_=>none)with h|⟨o,A5,n,h1,h2,_⟩
 .rcases h with h|⟨_,h⟩
  .cases h
  .cases h
 .exact⟨o,h1,h2⟩
def BU(ns:List Str)(g:Nat)(ms:List Str):List Str:=(ns.take g).filter (λx=>decide (x∈ms))++(ns.drop g).filter (λx=>!decide (x∈ms))
def Yz:Pre:=λl R=>∃(tp:Bool)(ns:List Str)(g:Nat)(ms:List Str),l=[.sq tp (ns.map .str),.is (.tup [.int g,.tup (ms.map .str)])]/\ns.length<=1000/\R=.new λxs=>xs=(BU ns g ms).map .str
def T7:Pre:=λl R=>∃(ns:List Str),l=[.sq false (ns.map .str)]/\ns.length<=1000/\R=.is λp=>p=.bl true
theorem bj(ns:List Str)(g:Nat)(ms:List Str):(BU ns g ms).length<=ns.length:=by
 unfold BU;rw[BE];have h1:=Ga (λx=>decide (x∈ms)) (ns.take g);have h2:=Ga (λx=>!decide (x∈ms)) (ns.drop g);rw[Bk]at h1;rw[Co]at h2;omega
def JD(g:Nat)(ms ns:List Str)(i:Nat):Bool:=!alike (.bl (decide ((g:Int)<=(i:Int)))) (.bl (decide (ns.getD i "" ∈ms)))
theorem cT(f:Nat->Bool)(h:Str->Bool)(ns:List Str)(s:Nat):(∀i,i<ns.length->f (s+i)=h (ns.getD i ""))->(((List.range' s ns.length).filter f).map λi=>ns.getD (i - s) "")=ns.filter h:=by
 induction ns generalizing s with
 |nil=>intro _;rfl
 |cons x r d=>
  intro a;have g:f s=h x:=by simpa using a 0 (by simp)
  have b:=d (s+1) λi hi=>by
   have:=a (i+1) (by simpa using hi)
   rw[show s+1+i=s+(i+1) by omega]
   simpa using this
  rw[Ba,ZJ2,QF,QF,g];have e:((List.range' (s+1) r.length).filter f).map (λi=>(x::r).getD (i - s) "")=((List.range' (s+1) r.length).filter f).map λi=>r.getD (i - (s+1)) "" := by
   apply bJ;intro i hi;have k:=(List.mem_range'_1.mp (List.mem_filter.mp hi).1).1;rw[show i - s=(i - (s+1))+1 by omega];simp
  by_cases c:h x=true
  .rw[c,tU rfl,tU rfl,Bu,e,b,Ub];rfl
  .have j:h x=false:=by simpa using c
   rw[j,tJ (by decide),tJ (by decide),e,b]
theorem YN(ns:List Str)(g:Nat)(ms:List Str):((List.range ns.length).filter (JD g ms ns)).map (λi=>PV.str (ns.getD i ""))=(BU ns g ms).map .str:=by
 have a:((List.range ns.length).filter (JD g ms ns)).map (λi=>ns.getD i "")=BU ns g ms:=by
  have split:∀n,n<=ns.length->List.range ns.length=List.range' 0 n++List.range' n (ns.length - n):=λn hn=>by
   rw[List.range_eq_range',show ns.length=n+(ns.length - n) by omega,<- List.range'_append_1];simp
  unfold BU;have hn:min g ns.length<=ns.length:=oo _ _;rw[split _ hn,Nb,CD]
  congr 1
  .have q:=cT (JD g ms ns) (λx=>decide (x∈ms)) (ns.take g) 0 (λi hi=>by
    rw[Bk]at hi;have e:(ns.take g).getD i ""=ns.getD i "" := by rw[Ew,Ew,oW (by omega)]
    rw[e,Nat.zero_add];unfold JD alike;have:¬ ((g:Int)<=(i:Int)):=by omega
    rw[uB this];cases decide (ns.getD i "" ∈ms) <;> rfl)
   rw[<- q,Bk];apply bJ;intro i hi;have c:=(List.mem_range'_1.mp (List.mem_filter.mp hi).1);rw[QU,Ew,Ew,oW (by omega)]
  .have q:=cT (JD g ms ns) (λx=>!decide (x∈ms)) (ns.drop g) (min g ns.length) (λi hi=>by
    rw[Co]at hi;have e:(ns.drop g).getD i ""=ns.getD (g+i) "" := by rw[Ew,Ew,QJ]
    rw[e,Kr (by omega)];unfold JD alike;have:((g:Int)<=((g+i:Nat):Int)):=by omega
    rw[rD this];cases decide (ns.getD (g+i) "" ∈ms) <;> rfl)
   rw[<- q,Co];have b:ns.length - min g ns.length=ns.length - g:=by omega
   rw[b];apply bJ;intro i hi;have c:=(List.mem_range'_1.mp (List.mem_filter.mp hi).1);rw[Ew,Ew,QJ]
   congr 2
   omega
 rw[<- a,GA];rfl
theorem ZEw(ms:List α)(x:α)(j:Nat):(ms.take j++x::ms.drop j).Perm (x::ms):=by
 have h:=og (a:=x) (l₁:=ms.take j) (l₂:=ms.drop j)
 rwa [Hu]at h
theorem aA(j:Nat)(h:ms.Nodup)(hx:x∉ms):(ms.take j++x::ms.drop j).Nodup:=(ZEw ms x j).nodup_iff.mpr (List.nodup_cons.mpr ⟨hx,h⟩)
theorem ZV(hi:i<ns.length):ns.take (i+1)=ns.take i++[ns.getD i ""]:=by
 rw[UZ hi,Ew,B9 hi];rfl
theorem vG(nd:ns.Nodup)(hi:i<ns.length):ns.getD i "" ∉ ns.take i:=by
 have h:=nd.sublist (ZJ5 (i+1) ns);rw[ZV hi,C6]at h;intro hx;exact h.2.2 _ hx _ (by simp) rfl
theorem Oc:x∈BU ns g ms↔(x∈ns.take g/\x∈ms)∨(x∈ns.drop g/\x∉ms):=by
 unfold BU;rw[Gb,Nf,Nf];simp
theorem iM(h:x∈BU ns g ms):x∈ns:=by
 rcases Oc.mp h with h|h
 .exact bM h.1
 .exact oe h.1
theorem Mq(nd:ns.Nodup)(g:Nat)(ms:List Str):(BU ns g ms).Nodup:=by
 have h:(ns.take g++ns.drop g).Nodup:=by rw[Hu];exact nd
 rw[C6]at h;unfold BU;rw[C6];exact⟨h.1.filter _,h.2.1.filter _,λa d b c=>h.2.2 a (List.mem_filter.mp d).1 b (List.mem_filter.mp c).1⟩
theorem ZH(nd:ns.Nodup)(h1:x∈ns.take g)(h2:x∈ns.drop g):False:=by
 have h:(ns.take g++ns.drop g).Nodup:=by rw[Hu];exact nd
 rw[C6]at h;exact h.2.2 x h1 x h2 rfl
theorem SX(g:Nat)(h:x∈ns):x∈ns.take g∨x∈ns.drop g:=by
 rw[<- Gb,Hu];exact h
theorem i3(nd:ns.Nodup){ts:List Str}(a:∀x,x∈ts↔x∈BU ns g cs)(x:Str):x∈BU ns g ts↔x∈ns/\x∈cs:=by
 rw[Oc,a,Oc];constructor
 .rintro(⟨h1,h2⟩|⟨h1,h2⟩)
  .rcases h2 with h2|h2
   .exact⟨bM h1,h2.2⟩
   .exact(ZH nd h1 h2.1).elim
  .refine⟨oe h1,?_⟩
   by_cases c:x∈cs
   .exact c
   .exact absurd (.inr ⟨h1,c⟩) h2
 .rintro⟨h1,h2⟩;rcases SX g h1 with h|h
  .exact .inl ⟨h,.inl ⟨h,h2⟩⟩
  .refine .inr ⟨h,?_⟩;rintro(⟨z,_⟩|⟨_,z⟩)
   .exact ZH nd z h
   .exact z h2
theorem nP{as bs:List Str}(b:as.Nodup)(a:bs.Nodup)(h:∀x,x∈as↔x∈bs):as.Perm bs:=(List.perm_ext_iff_of_nodup b a).mpr h
structure Gr where
 n:Nat
 g:Nat
 u:List Str
 ps:List (Str×Str)
noncomputable def Lm(cs:List Str)(s:Gr)(x:Str):Gr:=
 if x∈cs then⟨s.n+1,s.g,s.u++[x],s.ps⟩
 else if s.u=[]then⟨s.n+1,s.n+1,s.u,s.ps⟩
 else⟨s.n+1,s.g,s.u.dropLast,s.ps++[(s.u.getLastD "", x)]⟩
def gr(cs ns:List Str):Gr:=ns.foldl (Lm cs) ⟨0,0,[],[]⟩
theorem fM(cs ns:List Str)(x:Str):gr cs (ns++[x])=Lm cs (gr cs ns) x:=by unfold gr;rw[ZIr];rfl
def cC(cs ns:List Str):Nat:=(ns.filter λx=>decide (x∈cs)).length
def cN(cs ns:List Str):Nat:=(ns.filter λx=>!decide (x∈cs)).length
theorem SQ(cs ns:List Str)(x:Str):cC cs (ns++[x])=cC cs ns+if x∈cs then 1 else 0:=by
 unfold cC;rw[Nb,BE]
 by_cases h:x∈cs <;> simp[h]
theorem mz(cs ns:List Str)(x:Str):cN cs (ns++[x])=cN cs ns+if x∈cs then 0 else 1:=by
 unfold cN;rw[Nb,BE]
 by_cases h:x∈cs <;> simp[h]
structure GI (cs pre:List Str) (s:Gr):Prop where
 hn:s.n=pre.length
 hg:s.g<=pre.length
 Vz:s.ps.length=cC cs (pre.take s.g)+cN cs (pre.drop s.g)
 P8:s.ps.length+s.u.length=cC cs pre
 hu:∀x∈s.u,x∈pre/\x∈cs
 hp:∀a∈s.ps,(a.1∈pre/\a.1∈cs)/\a.2∈pre/\a.2∉cs
 ord:∀a∈s.ps,pre.idxOf a.1<pre.idxOf a.2
 EY:(s.u++s.ps.map Prod.fst).Nodup
 HC:(s.ps.map Prod.snd).Nodup
theorem LG{y:Str}(h:y∈pre):(pre++[x]).idxOf y=pre.idxOf y:=by
 rw[bG,tU h]
theorem xq(h:x∉pre):(pre++[x]).idxOf x=pre.length:=by
 rw[bG,tJ h];simp
theorem GI.init(cs:List Str):GI cs [] ⟨0,0,[],[]⟩:=⟨rfl,Am _,rfl,rfl,λ_ h=>absurd h (by simp),λ_ h=>absurd h (by simp),λ_ h=>absurd h (by simp),by simp,by simp⟩
theorem ZG6(h:u≠[]):u.getLastD "" ∈u/\u=u.dropLast++[u.getLastD ""]:=by
 have e:u.getLastD ""=u.getLast h:=by
  cases u with
  |nil=>exact absurd rfl h
  |cons a r=>rw[ZIu,ZIv]
 rw[e];exact⟨List.getLast_mem h,(List.dropLast_concat_getLast h).symm⟩
theorem GI.step{s:Gr}(I:GI cs pre s)(hx:x∉pre):GI cs (pre++[x]) (Lm cs s x):=by
 have l:(pre++[x]).length=pre.length+1:=by simp
 have i:∀{y},y∈pre->y∈pre++[x]:=λh=>Fn _ h;have r:x∈pre++[x]:=by simp
 have tk:(pre++[x]).take s.g=pre.take s.g:=List.take_append_of_le_length I.hg;have t:(pre++[x]).drop s.g=pre.drop s.g++[x]:=List.drop_append_of_le_length I.hg;unfold Lm
 by_cases c:x∈cs
 .rw[tU c];refine⟨by show s.n+1=_;rw[l,I.hn],by show s.g<=_;have:=I.hg;omega,?_,?_,?_,λa b=>?_,λa b=>?_,?_,I.HC⟩
  .show s.ps.length=_;rw[tk,t,mz,tU c];exact I.Vz
  .show s.ps.length+(s.u++[x]).length=_;rw[SQ,tU c,BE,<- Nat.add_assoc,I.P8];rfl
  .intro y k;rcases List.mem_append.mp k with h|h
   .exact⟨i (I.hu y h).1,(I.hu y h).2⟩
   .have:y=x:=by simpa using h
    rw[this];exact⟨r,c⟩
  .obtain⟨⟨a1,a2⟩,f,j⟩:=I.hp a b;exact⟨⟨i a1,a2⟩,i f,j⟩
  .obtain⟨⟨a1,a2⟩,f,j⟩:=I.hp a b;rw[LG a1,LG f];exact I.ord a b
  .show((s.u++[x])++s.ps.map Prod.fst).Nodup;have p:((s.u++[x])++s.ps.map Prod.fst).Perm (x::(s.u++s.ps.map Prod.fst)):=by
    rw[Bj];exact og
   rw[p.nodup_iff,bO];refine⟨λh=>?_,I.EY⟩;rcases List.mem_append.mp h with h|h
   .exact hx (I.hu x h).1
   .obtain⟨a,b,e⟩:=List.mem_map.mp h;exact hx (e▸(I.hp a b).1.1)
 .rw[tJ c]
  by_cases d:s.u=[]
  .rw[tU d];refine⟨by show s.n+1=_;rw[l,I.hn],by show s.n+1<=_;rw[l,I.hn];exact Am _,?_,?_,λy k=>?_,λa b=>?_,λa b=>?_,I.EY,I.HC⟩
   .show s.ps.length=cC cs ((pre++[x]).take (s.n+1))+cN cs ((pre++[x]).drop (s.n+1));rw[I.hn,<- l,Hv,oN,SQ,tJ c];have:=I.P8;rw[d]at this
    simpa[cN]using this
   .show s.ps.length+s.u.length=_;rw[SQ,tJ c];exact I.P8
   .exact⟨i (I.hu y k).1,(I.hu y k).2⟩
   .obtain⟨⟨a1,a2⟩,f,j⟩:=I.hp a b;exact⟨⟨i a1,a2⟩,i f,j⟩
   .obtain⟨⟨a1,a2⟩,f,j⟩:=I.hp a b;rw[LG a1,LG f];exact I.ord a b
  .rw[tJ d];obtain⟨q,o⟩:=ZG6 d;generalize B:s.u.getLastD ""=z at q o;have m:=I.hu z q;have A:s.u.length=s.u.dropLast.length+1:=by
    have:=xU List.length o
    rwa [BE]at this
   refine⟨by show s.n+1=_;rw[l,I.hn],by show s.g<=_;have:=I.hg;omega,?_,?_,λy k=>?_,λa b=>?_,λa b=>?_,?_,?_⟩
   .show(s.ps++[(z,x)]).length=_;rw[tk,t,mz,tJ c,BE,I.Vz,Nat.add_assoc];rfl
   .show(s.ps++[(z,x)]).length+s.u.dropLast.length=_;rw[SQ,tJ c,BE];have:=I.P8;simp only[Ba,UW];omega
   .have v:y∈s.u:=List.dropLast_subset _ k;exact⟨i (I.hu y v).1,(I.hu y v).2⟩
   .rcases List.mem_append.mp b with h|h
    .obtain⟨⟨a1,a2⟩,f,j⟩:=I.hp a h;exact⟨⟨i a1,a2⟩,i f,j⟩
    .have:a=(z,x):=by simpa using h
     rw[this];exact⟨⟨i m.1,m.2⟩,r,c⟩
   .rcases List.mem_append.mp b with h|h
    .obtain⟨⟨a1,a2⟩,f,j⟩:=I.hp a h;rw[LG a1,LG f];exact I.ord a h
    .have:a=(z,x):=by simpa using h
     rw[this];show(pre++[x]).idxOf z<(pre++[x]).idxOf x;rw[LG m.1,xq hx];exact List.idxOf_lt_length_iff.mpr m.1
   .show(s.u.dropLast++(s.ps++[(z,x)]).map Prod.fst).Nodup;have p:(s.u.dropLast++(s.ps++[(z,x)]).map Prod.fst).Perm (s.u++s.ps.map Prod.fst):=by
     rw[CD]
     conv=>rhs;rw[o]
     rw[Bj];exact(List.perm_append_comm).append_left _
    exact p.nodup_iff.mpr I.EY
   .show((s.ps++[(z,x)]).map Prod.snd).Nodup;rw[CD];refine T8 I.HC λh=>?_;obtain⟨a,b,e⟩:=List.mem_map.mp h;have w:a.2=x:=e;exact hx (w▸(I.hp a b).2.1)
theorem Yc(cs:List Str){ns:List Str}(nd:ns.Nodup):∀i,i<=ns.length->GI cs (ns.take i) (gr cs (ns.take i))
 | 0,_=>GI.init cs
 |i+1,h=>by
  have hi:i<ns.length:=h;rw[ZV hi,fM];exact(Yc cs nd i (by omega)).step (vG nd hi)
theorem Pl(cs:List Str)(nd:ns.Nodup):GI cs ns (gr cs ns):=by
 have:=Yc cs nd ns.length (Am _)
 rwa [Hv]at this
theorem ZHf(cs:List Str)(nd:ns.Nodup):(BU ns (gr cs ns).g cs).length=(gr cs ns).ps.length:=by
 rw[(Pl cs nd).Vz];unfold BU cC cN;rw[BE]
theorem ZBL(nd:ns.Nodup)(g:Nat){a:Str×Str}(b:a∈(gr cs ns).ps):a.1∈BU ns g cs∨a.2∈BU ns g cs:=by
 obtain⟨⟨a1,a2⟩,d,c⟩:=(Pl cs nd).hp a b;have o:=(Pl cs nd).ord a b;rcases SX g a1 with h|h
 .exact .inl (Oc.mpr (.inl ⟨h,a2⟩))
 .refine .inr (Oc.mpr (.inr ⟨?_,c⟩));rcases SX g d with q|q
  .exfalso;have e:ns=ns.take g++ns.drop g:=(Hu g ns).symm;have i2:ns.idxOf a.2<(ns.take g).length:=by
    conv=>lhs;rw[e]
    rw[bG,tU q];exact List.idxOf_lt_length_iff.mpr q
   have i1:(ns.take g).length<=ns.idxOf a.1:=by
    conv=>rhs;rw[e]
    rw[bG,tJ (λz=>ZH nd z h)];omega
   omega
  .exact q
theorem ZGG(h:u≠[]):(u.map PV.str)[(u.map PV.str).length - 1]?=some (.str (u.getLastD "")):=by
 have e:u.getLastD ""=u.getLast h:=by
  cases u with
  |nil=>exact absurd rfl h
  |cons a r=>rw[ZIu,ZIv]
 rw[AS,B1,e,<- List.getLast?_eq_getElem?,List.getLast?_eq_some_getLast h];rfl
theorem sS{β:Type}(f:α->β)(l:List α):(l.map f).dropLast=l.dropLast.map f:=by rw[List.map_dropLast]
def K8(ps:List (Str×Str)):List Str:=ps.map Prod.fst++ps.map Prod.snd
theorem ZC2{s:Gr}(I:GI cs ns s):(K8 s.ps).Nodup/\∀x∈K8 s.ps,x∈ns:=by
 unfold K8;constructor
 .have h:=I.EY;rw[C6]at h;rw[C6];refine⟨h.2.1,I.HC,λa f b d e=>?_⟩;obtain⟨p,hp,rfl⟩:=List.mem_map.mp f;obtain⟨q,c,rfl⟩:=List.mem_map.mp d;have h1:=(I.hp p hp).1.2;have h2:=(I.hp q c).2.2;rw[e]at h1;exact h2 h1
 .intro x hx;rcases List.mem_append.mp hx with h|h
  .obtain⟨p,hp,rfl⟩:=List.mem_map.mp h;exact(I.hp p hp).1.1
  .obtain⟨p,hp,rfl⟩:=List.mem_map.mp h;exact(I.hp p hp).2.1
def jK(ns cs:List Str)(p:PV):Prop:=∃ts:List Str,ts.Perm (BU ns (gr cs ns).g cs)/\sortedS ts=true/\p=.tup [.tup [.int ((gr cs ns).g:Nat),.tup (ts.map .str)],.lst ((gr cs ns).ps.map Zr)]
def Zn:Pre:=λl R=>∃(tp BV:Bool)(ns cs:List Str),l=[.sq tp (ns.map .str),.sq BV (cs.map .str)]/\(∀x∈cs,x∈ns)/\R=.is λp=>p=.AG
def ZJ:Pre:=λl R=>∃(tp BV:Bool)(ns cs:List Str)(g:Nat),l=[.sq tp (ns.map .str),.is (.int g),.sq BV (cs.map .str)]/\ns.length<=60/\R=.is λp=>∃ts:List Str,ts.Perm (BU ns g cs)/\sortedS ts=true/\p=.tup (ts.map .str)
def Yt:Pre:=λl R=>∃(tp BV:Bool)(ns cs:List Str),l=[.sq tp (ns.map .str),.sq BV (cs.map .str)]/\ns.length<=60/\ns.Nodup/\(∀x∈cs,x∈ns)/\R=.is (jK ns cs)
def PK:Pre:=λl R=>∃i:Int,l=[.is (.int i)]/\R=.is λp=>p=.bl true
def fw(cs ns:List Str):Nat:=(gr cs ns).ps.length
theorem mL:∀(ps:List (Str×Str))(M:List Str),(K8 ps).Nodup->(∀a∈ps,a.1∈M∨a.2∈M)->ps.length<=M.length
 | [],_,_,_=>CF _
 |a::ps,M,nd,h=>by
  have g:(K8 (a::ps)).Perm (a.1::a.2::K8 ps):=by
   unfold K8;rw[Bu,Bu,bB];exact List.Perm.cons _ og
  have f:=g.nodup_iff.mp nd;rw[bO,bO]at f;obtain⟨n1,j,i⟩:=f;have c:∀x,x∈M->x∉K8 ps->(a::ps).length<=M.length:=λx hx hn=>by
   have q:=mL ps (M.erase x) i λb d=>by
    have l:b.1≠x:=λe=>hn (e▸Fn _ (ZIz d));have k:b.2≠x:=λe=>hn (e▸Dt _ (ZIz d));exact(h b (D3 _ d)).imp (λz=>(UX l).mpr z) λz=>(UX k).mpr z
   have e:=bI hx;have p:=oY hx;rw[Ba];omega
  rcases h a Cp with z|z
  .exact c a.1 z λw=>n1 (D3 _ w)
  .exact c a.2 z j
theorem ye(cs:List Str)(nd:ns.Nodup)(g:Nat):fw cs ns<=(BU ns g cs).length:=mL _ _ (ZC2 (Pl cs nd)).1 λa b=>ZBL nd g b
theorem Yi(cs:List Str)(nd:ns.Nodup):(BU ns (gr cs ns).g cs).length=fw cs ns/\(gr cs ns).g<=ns.length:=⟨ZHf cs nd,(Pl cs nd).hg⟩
section
variable[Xw]
variable{F1:Hp}{K:ZKG}{js:List Nat}{ti:TE}{k:PV->Prop}
theorem U2(hi:ss[i]?=some .AD)(h:Wq ss ta λtp xs=>tp=false/\∃ns:List Str,xs=ns.map PV.str/\(∀x∈ns,Nm x)/\ns.length<=1000/\∀x:Str,Nm x->x∉ns->k (.str x)):
  Wp ss (C0 (ML K) [] E0 (AX (BJ i) (AX ta B4))) k:=⟨λE Z F H Q S q=>by
 obtain⟨p,e,_⟩:=S.ok i _ hi;refine⟨_,e,h.go E Z F H _ S λv tp xs F1 H1 a sv⟨g,ns,ex,d,c,kk⟩=>?_⟩;subst g;subst ex;obtain⟨l,vs,f,hn,b,r⟩:=sv;subst f;rw[r.strs]at b;exact⟨p,l,ns,rfl,a.st.EW hi e,b,λz=>hn i hi (z▸e),d,c,λx H3 hx Ln s=>q _ _ F1 H3 (a.trans (a.st.Oe hi e s)) (.str x) (kk x hx Ln)⟩⟩
def uT:Option Str->PV
 |none=>.AG
 |some x=>.str x
def Pb:Pre:=λl R=>∃(ns:List Str)(r:Str),l=[.sq false (ns.map .str),.is (.str r)]/\ns.length<64/\R=.is λp=>∃ts:List Str,ts.Perm ns/\sortedS ts=true/\p=Ca r 0 ts
end
end Fz
namespace Fz
open L2 Lw
variable{E:Ent0}{ss:List Slot}{Z:L2.St}{F F' H H':Hp}{te:TE}{nx:List Slot->Prop}{R:Ae}{pre:Qv}
@[reducible] def ZK4 (X:XK) (D:Ex->Prop):Xw:=⟨λ_=>X,λ_=>True,D⟩
@[reducible] def xwT (E:Ent0) (J:List Slot->Prop) (D:Ex->Prop):Xw:=⟨λZ C dx H=>∃ss F x,J ss/\Sg E ss Z F H/\D x/\x.at F C dx,J,D⟩
end Fz
namespace Fz
open L2 Lw
variable{i j n:Nat}{l ss:List Slot}{ta te:TE}{a a0:Addr}{N ns:List Str}{t t' u:OV}{F F' H H':Hp}{Z:L2.St}{E:Ent0}{vs:List V}{us:List OV}{Q:VK}{X:XK}
theorem qR{b c n:Int}(d:1<=b)(a:b<=c)(hn:0<=n):∃m:Nat,(if(if c<n then c else n) > b then(if c<n then c else n)else b)=(m:Int)/\(m:Int)<=c:=by
 have h:∀z:Int,1<=z->z<=c->∃m:Nat,z=(m:Int)/\(m:Int)<=c:=λz e h1=>⟨z.toNat,by omega,by omega⟩;apply h
 .split
  .omega
  .omega
 .split
  .split <;> omega
  .omega
section
variable[Xw]
variable{K:ZKG}{k:PV->Prop}
theorem zy{neg:Bool}(c:N6 K a (ns.map .str))(h:Wp ss ta λp=>∃x,p=.str x/\k (.bl (if neg then !decide (x∈ns)else decide (x∈ns)))):Wp ss (By (Et K neg) ta (tC (.ref a))) k:=⟨λE Z F H Q S q=>
 h.go E Z F H _ S λv p F1 H1 d b AO=>by
  obtain⟨x,e,kk⟩:=AO;subst e;cases b.inv;have sq:=c.sq H1;rw[Wd]at sq;refine⟨a,ns.map V.str,rfl,.inr sq,rfl,EX ns,?_⟩;rw[Jh];exact q _ _ F1 H1 d (.bl _) kk⟩
end
theorem qh{x:Str}(h:x.length<=100)(hx:∀c∈x.cps.toList,c<16 ^ 8):(reprText x).length<=100000:=by
 have:=PySem.StrLaws.reprText_len x hx;omega
section
variable[Xw]
variable{tb:TE}{k:PV->Prop}
variable{K:ZKG}{t u:TE}{pre:Qv}{tA:TA}
theorem nO(h:Wp ss te λp=>∃x,p=.str x/\x.length<=1000/\k (.bl (isNm x))):Wp ss (C0 PZ [] E0 (AX te B4)) k:=⟨λE Z F H Q S q=>
 h.go E Z F H _ S λv p F1 H1 a r AO=>by
  obtain⟨x,e,hx,kk⟩:=AO;subst e;cases r.inv;exact⟨x,rfl,hx,λH3 s=>q _ _ F1 H3 (a.trans (a.st.grow s)) (.bl _) kk⟩⟩
end
def DB(pre:Pre):Sp:=λvs H Q _=>∃(ss:List Slot)(R:Ae)(F:Hp)(A B:List Addr),pre ss R/\Sg ⟨A,F,H,B⟩ ss (vs.map some) F H/\∀v F' H',Fin ⟨A,F,H,B⟩ F' H'->R.ok ⟨A,F,H,B⟩ F' H' v->Q v H'
inductive JP (F:Hp):List V->List Slot->Prop where
 |nil:JP F [] []
 |cons {v:V}{p:PV}{vs:List V}{l:List Slot}:Rep F v p->JP F vs l->JP F (v::vs) (.is p::l)
inductive Ki (Z:L2.St) (F:Hp) (i:Nat) (t:OV):List V->List Slot->Prop where
 |here {v:V}{vs:List V}{l:List Slot}:Z[i]?=some (some v)->JP F vs l->Ki Z F i t (v::vs) (.ow true t::l)
 |there {v:V}{p:PV}{vs:List V}{l:List Slot}:Rep F v p->Ki Z F i t vs l->Ki Z F i t (v::vs) (.is p::l)
theorem JP.len:∀{vs:List V}{l:List Slot},JP F vs l->l.length=vs.length:=by
 intro vs l h
 induction h with
 |nil=>rfl
 |cons _ _ a=>rw[Ba,Ba,a]
theorem Ki.len:∀{vs:List V}{l:List Slot},Ki Z F i t vs l->l.length=vs.length:=by
 intro vs l h
 induction h with
 |here _ r=>rw[Ba,Ba,r.len]
 |there _ _ a=>rw[Ba,Ba,a]
theorem JP.at:∀{vs:List V}{l:List Slot},JP F vs l->∀{n:Nat}{s:Slot},l[n]?=some s->∃v p,vs[n]?=some v/\s=.is p/\Rep F v p:=by
 intro vs l h
 induction h with
 |nil=>intro n s e;rw[List.getElem?_nil]at e;cases e
 |cons r _ a=>
  intro n s e;cases n with
  |zero=>cases(show some _=some s from e);exact⟨_,_,rfl,rfl,r⟩
  |succ n=>exact a (n:=n) e
theorem Ki.at:∀{vs:List V}{l:List Slot},Ki Z F i t vs l->∃m:Nat,∀{n:Nat}{s:Slot},l[n]?=some s->(n=m/\s=.ow true t/\∃v,vs[n]?=some v/\Z[i]?=some (some v))∨∃v p,vs[n]?=some v/\s=.is p/\Rep F v p:=by
 intro vs l h
 induction h with
 |here e r=>
  refine⟨0,λ{n s}h=>?_⟩;cases n with
  |zero=>cases(show some _=some s from h);exact .inl ⟨rfl,rfl,_,rfl,e⟩
  |succ n=>exact .inr (r.at (n:=n) h)
 |there r _ b=>
  obtain⟨m,c⟩:=b;refine⟨m+1,λ{n s}q=>?_⟩;cases n with
  |zero=>cases(show some _=some s from q);exact .inr ⟨_,_,rfl,rfl,r⟩
  |succ n=>
   rcases c (n:=n) (s:=s) q with⟨e,es,a⟩|a
   .exact .inl ⟨xU Nat.succ e,es,a⟩
   .exact .inr a
structure Tb (E:Ent0) (ss:List Slot) (Z:L2.St) (i:Nat) (lt:Bool) (t t':OV) (F H F' H':Hp):Prop where
 st:Sg E (ss.set i (.ow lt t')) Z F' H'
 ff:A9 F F'
 hh:∀a o,Ce ss Z a->a∉t.addrs->H a=some o->H' a=some o
 nn:∀a o,F' a=some o->F a=some o∨H a=none
structure Q0 [Xw] (ss:List Slot) (ta:TA) (k:List Slot->Prop):Prop where
 go:∀(E:Ent)(Z:L2.St)(F H:Hp)(Q:List V->Hp->Prop),Sg E ss Z F H->(∀vs l F' H',Mv E ss Z F H F' H'->JP F' vs l->k l->Q vs H')->ta Z H Q
structure Wm [Xw] (ss:List Slot) (i:Nat) (lt:Bool) (t:OV) (te:TE) (k:PV->OV->Prop):Prop where
 go:∀(E:Ent)(Z:L2.St)(F H:Hp)(Q:VK),Sg E ss Z F H->(∀v p t' F' H',Tb E ss Z i lt t t' F H F' H'->Rep F' v p->k p t'->Q v H')->te Z H Q
theorem Sg.lO{lt:Bool}(S:Sg E ss Z F H)(hi:ss[i]?=some (.ow lt t))(a:Ki Z F i t vs l):Sg ⟨[],F,H,t.addrs⟩ l (vs.map some) F H:=by
 obtain⟨q,e0,c,DY,g⟩:=S.ok i _ hi;have nn:∀{p:Prop}(a:Addr),a∈([]:List Addr)->p:=λa h=>absurd h B2;obtain⟨m,f⟩:=a.at;refine⟨⟨S.fh,A9.refl _,λ_ _ _ e=>e,λ_ _ e=>.inl e,λa h=>nn a h,λa h=>nn a h,λa h=>nn a h,λa h=>(g a h).1,λa h=>c.there a h,λa h=>⟨c.there a h,B2⟩⟩,by rw[AS];exact a.len,λn s hn=>?_,λn j s u b Mp hn x ms w=>?_⟩
 .rcases f hn with⟨_,rfl,v,d,o⟩|⟨v,p,d,rfl,r⟩
  .rw[B1,d];rw[e0]at o;cases o;exact⟨q,rfl,c,DY,λa k=>⟨(g a k).1,.inr ⟨rfl,k⟩⟩⟩
  .rw[B1,d];exact⟨v,rfl,r⟩
 .rcases f hn with⟨z,rfl,_⟩|⟨_,_,_,rfl,_⟩
  .rcases f x with⟨y,rfl,_⟩|⟨_,_,_,rfl,_⟩
   .exact Mp (z.trans y.symm)
   .cases w
  .cases ms
theorem Sg.i4{lt:Bool}{p Io:NK}{us':List OV}(S:Sg E ss Z F H)(hi:ss[i]?=some (.ow lt (.nd p a0 us)))(f:Fin ⟨[],F,H,(OV.nd p a0 us).addrs⟩ F' H')(r:B8 F' H' (.ref a0) (.nd Io a0 us'))(nd:(OV.nd Io a0 us').addrs.Nodup)(q:∀a∈(OV.nd Io a0 us').addrs,F' a=none/\(H a=none∨a∈(OV.nd p a0 us).addrs)):
  Tb E ss Z i lt (.nd p a0 us) (.nd Io a0 us') F H F' H':=by
 obtain⟨J,e0,K,DY,w⟩:=S.ok i _ hi;have N:J=.ref a0:=by cases K;rfl
 subst N;have I:i<ss.length:=(List.getElem?_eq_some_iff.mp hi).1;have kp:∀a o,a∉(OV.nd p a0 us).addrs->H a=some o->H' a=some o:=λa o n e=>f.keep a o ⟨B2,n⟩ e;have Bd:∀a,H a≠none->F a=none->F' a=none:=λa h1 h2=>by
  cases e:F' a with
  |none=>rfl
  |some o=>
   rcases f.fresh a o e with z|z
   .rw[show F a=some o from z]at h2;cases h2
   .exact absurd z h1
 have O:∀a,a∈E.A->a∉(OV.nd p a0 us).addrs:=λa h m=>by
  rcases(w a m).2 with z|⟨_,z⟩
  .exact S.a0 a h z
  .exact(S.b0 a z).2 h
 have d:∀(j:Nat)s,j≠i->ss[j]?=some s->∀a,BO s Z[j]? a->a∉(OV.nd p a0 us).addrs:=λj s g hs a ho m=>S.Bi j i s _ a g hs hi ho m;refine⟨⟨⟨f.fh,S.f0.trans f.f0,λa o h e=>?_,λa o e=>?_,λa h=>?_,λa h=>?_,S.a0,λa v=>?_,λa v=>?_,S.b0⟩,by rw[J4];exact S.len,λj s g=>?_,λj k s u b R7 g B ms x=>?_⟩,f.f0,λa o _ n e=>kp a o n e,λa o e=>f.fresh a o e⟩
 .refine kp a o (λm=>?_) (S.keep a o h e);rcases(w a m).2 with z|⟨_,z⟩
  .rw[e]at z;cases z
  .exact h.2 z
 .rcases f.fresh a o e with z|z
  .exact S.fresh a o z
  .exact .inr (S.EU z)
 .exact Be.keep (S.Eo a h) λo e=>kp a o (O a h) e
 .obtain⟨_,_,t,_⟩:=S.Eo a h;exact Bd a (by rw[t];simp) (S.Mm a h)
 .exact Bd a (S.bH a v) (S.bF a v)
 .by_cases m:a∈(OV.nd p a0 us).addrs
  .exact f.bH a m
  .intro z;cases e:H a with
   |none=>exact S.bH a v e
   |some o=>rw[kp a o m e]at z;cases z
 .by_cases c:j=i
  .subst c;rw[DD I]at g;cases g;refine⟨.ref a0,e0,r,nd,λa C=>⟨(q a C).1,?_⟩⟩;rcases(q a C).2 with z|z
   .exact .inl (S.EU z)
   .exact(w a z).2
  .rw[CZ (BW c)]at g
   by_cases np:s=.AD
   .subst np;obtain⟨l,e,M,L,pt⟩:=S.ok j _ g;obtain⟨_,_,t,_⟩:=id pt;exact⟨l,e,Bd l (by rw[t];simp) M,L,Be.keep pt λo z=>kp l o (d j _ c g l e) z⟩
   .exact Ok.go S g f.f0 (λa o ho e=>kp a o (d j s c g a ho) e) Bd np
 .have at_:∀(n:Nat)s,(ss.set i (.ow lt (.nd Io a0 us')))[n]?=some s->(n=i/\s=.ow lt (.nd Io a0 us'))∨(n≠i/\ss[n]?=some s):=λn s hn=>by
   by_cases c:n=i
   .subst c;rw[DD I]at hn;exact .inl ⟨rfl,(BX hn).symm⟩
   .rw[CZ (BW c)]at hn;exact .inr ⟨c,hn⟩
  have G:∀(n:Nat)s,n≠i->ss[n]?=some s->BO s Z[n]? b->b∉(OV.nd Io a0 us').addrs:=λn s hn hs ho m=>by
   rcases(q b m).2 with z|z
   .exact S.ET hs ho z
   .exact d n s hn hs b ho z
  rcases at_ j s g with⟨t,rfl⟩|⟨n1,h1⟩
  .rcases at_ k u B with⟨D,rfl⟩|⟨y,h2⟩
   .exact R7 (t.trans D.symm)
   .exact G k u y h2 x ms
  .rcases at_ k u B with⟨D,rfl⟩|⟨y,h2⟩
   .exact G j s n1 h1 ms x
   .exact S.Bi j k s u b R7 h1 h2 ms x
section
variable[Xw]
variable{ta:TA}{lt:Bool}{nx:List Slot->Prop}{R:Ae}
theorem Mi{k:List Slot->Prop}(h:k []):Q0 ss B4 k:=⟨λE Z F H Q S q=>q [] [] F H (Mv.refl S) .nil h⟩
theorem Jm{k:List Slot->Prop}(h:Wp ss te λp=>Q0 ss ta λl=>k (.is p::l)):Q0 ss (AX te ta) k:=⟨λE Z F H Q S q=>
 h.go E Z F H _ S λv p F1 H1 b r h2=>h2.go E Z F1 H1 _ b.st λvs l F2 H2 m2 a kk=>q _ _ F2 H2 (b.trans m2) (.cons (r.mono m2.ff) a) kk⟩
theorem Mv.zT{F1 H1 F2 H2:Hp}(hi:ss[i]?=some (.ow lt t))(a:Mv E ss Z F H F1 H1)(b:Tb E ss Z i lt t t' F1 H1 F2 H2):Tb E ss Z i lt t t' F H F2 H2:=
 ⟨b.st,a.ff.trans b.ff,λc o n z e=>b.hh c o n z (a.hh c o n e),λc o e=>(b.nn c o e).elim (λe=>a.nn c o e) λe=>.inr (a.none e)⟩
theorem yI(h:Wm ss i lt t te λ_ t'=>nx (ss.set i (.ow lt t'))):Ws ss (Jn te) nx R:=⟨λE D Z F H S hn b=>
 h.go E Z F H _ S λv p t' F1 H1 a r kk=>hn _ Z F1 H1 kk a.st a.ff⟩
theorem xT{b:NK}{k:PV->OV->Prop}(hi:ss[i]?=some (.ow lt (.nd b a0 us)))(h:Wp ss te λp=>k p (.nd b a0 us)):Ws ss (Ib te) nx (.mt k):=⟨λE D Z F H S hn j=>
 h.go E Z F H _ S λv p F1 H1 e r kk=>by
  obtain⟨g,e0,c,DY,d⟩:=e.st.ok i _ hi;have l:g=.ref a0:=by cases c;rfl
  subst l;exact j v F1 H1 e.st.toFin ⟨p,.nd b a0 us,r,c,DY,λa f=>⟨(d a f).1,(d a f).2.imp id λz=>z.2⟩,kk⟩⟩
end
section
variable{pre:Pre}
theorem Qz{t:TS}(h:DB pre vs H Q X)(a:∀ss R,pre ss R->ss.length=n)
  (hw:∀ss R,pre ss R->Ws (ss++List.replicate (N.length - n) .any) t (λ_=>False) R):t { nx:=λ_ H'=>Q .AG H',rt:=Q } (L2.start N vs) H:=by
 obtain⟨ss,R,F,A,B,hp,S,q⟩:=h;have e:vs.length=n:=by have:=S.len;rw[AS]at this;rw[<- this];exact a ss R hp
 unfold L2.start;rw[e];exact(hw ss R hp).go (Ru ⟨A,F,H,B⟩) _ _ F H (S.grown _) (λAH σ' F' H' z S' _=>z.elim) λv F' H' f ok=>q v F' H' f ok
theorem Jq(a:∀ss R,pre ss R->ss.length=n)(h:DB pre vs H Q X):vs.length=n:=by
 obtain⟨ss,R,F,A,B,hp,S,q⟩:=h;have:=S.len;rw[AS]at this;rw[<- this];exact a ss R hp
theorem Sg.VC(S:Sg E ss Z F H)(c:ss[j]?=some (.ow false u)):Sg E (ss.set j (.is u.pv)) Z (BL F H u.addrs) H/\A9 F (BL F H u.addrs):=by
 obtain⟨v,e,r,nd,d⟩:=S.ok j _ c;obtain⟨S1,f⟩:=(S.drop j).lay u.addrs (λa b=>⟨(d a b).1,(d a b).2.elim id (λz=>by cases z.1),r.there a b⟩) λa b n s hn m=>by
  by_cases q:n=j
  .subst q;rw[DD (List.getElem?_eq_some_iff.mp c).1]at hn;cases hn;cases m
  .rw[CZ (BW q)]at hn;exact S.Bi n j s _ a q hn c m b
 have g:=S1.Me (j:=j) (v:=v) (p:=u.pv) (r.rep f λa b o ho=>by unfold BL;rw[tU b];exact ho);rw[Tv e,bS]at g;exact⟨g,f⟩
theorem ZBn{p:Slot}(c:ss[j]?=some (.ow false u))(hp:p≠.AD)(a:Addr):Ce ss Z a->Ce (ss.set j p) Z a:=λn k b=>by
 by_cases q:k=j
 .subst q;rw[DD (List.getElem?_eq_some_iff.mp c).1]at b;cases b;exact absurd rfl hp
 .rw[CZ (BW q)]at b;exact n k b
theorem Sg.ZHL(S:Sg E ss Z F H)(d:ss[j]?=some (.ow false u))(ff:A9 (BL F H u.addrs) F')(fh:A9 F' H'):(∀a∈u.addrs,F' a=H a/\H' a=H a/\H a≠none)/\∀a∈u.addrs,∀ws,F' a≠some (.tup ws):=by
 obtain⟨v,e,r,nd,f⟩:=S.ok j _ d;have at_:∀a∈u.addrs,F' a=H a/\H' a=H a/\H a≠none:=λa b=>by
  cases q:H a with
  |none=>exact absurd q (r.there a b)
  |some o=>
   have c:F' a=some o:=ff a o (by unfold BL;rw[tU b];exact q);exact⟨c,fh a o c,by simp⟩
 exact⟨at_,λa b ws q=>by rw[(at_ a b).1]at q;exact r.kF a b ws q⟩
theorem Sg.bw(S:Sg E ss Z F H)(b:ss[j]?=some (.ow false u))(m:Mv E (ss.set j (.is u.pv)) Z (BL F H u.addrs) H F' H'):Mv E ss Z F H (Fx F' u.addrs) H'/\∀a∈u.addrs,∀ws,F' a≠some (.tup ws):=by
 obtain⟨v,e,r,nd,d⟩:=S.ok j _ b;obtain⟨S2,g⟩:=S.VC b;obtain⟨at_,f⟩:=S.ZHL b m.ff m.st.fh;refine⟨S.step (λa o ea=>?_) (λa o ea=>?_) (λa o n ea=>m.hh a o (ZBn b (λz=>by cases z) a n) ea) (λa o ea=>?_) (λk l c h=>?_),f⟩
 .unfold Fx;rw[tJ (λq=>by rw[(d a q).1]at ea;cases ea)];exact m.ff a o (g a o ea)
 .unfold Fx at ea;split at ea
  .cases ea
  .exact m.st.fh a o ea
 .unfold Fx at ea;split at ea
  .cases ea
  .rename_i q;rcases m.nn a o ea with z|z
   .unfold BL at z;rw[tJ q]at z;exact .inl z
   .exact .inr z
 .refine m.st.EW (i:=k) ?_ h;rw[CZ (λq=>by subst q;rw[b]at c;cases c)];exact c
end
section
variable[Xw]
variable{lt:Bool}
theorem ZFJ{k:PV->Prop}(j:Nat)(a:ss[j]?=some (.ow false u))(h:Wp (ss.set j (.is u.pv)) te λp=>EB p=true/\k p):Wp ss te k:=⟨λE Z F H Q S q=>by
 obtain⟨S2,d⟩:=S.VC a;refine h.go E Z _ H Q S2 λv p F' H' m b⟨hn,kk⟩=>?_;obtain⟨M,c⟩:=S.bw a m;exact q v p _ H' M (b.sub c hn) kk⟩
theorem Rn{c:TT}{k:Bool->Prop}(j:Nat)(a:ss[j]?=some (.ow false u))(h:Wt (ss.set j (.is u.pv)) c k):Wt ss c k:=⟨λE Z F H Q S q=>by
 obtain⟨S2,d⟩:=S.VC a;refine h.go E Z _ H Q S2 λb F' H' m kk=>?_;exact q b _ H' (S.bw a m).1 kk⟩
end
end Fz
namespace L2
section
variable{X:Cx}{o i value:Expr}{td ty tv:TE}{pos pos':Pos}
theorem Bo(hu:X.A.units+1<cLine)(ho:QE X o td)(hi:QE X i ty)(hs:Ux i):QE X (.Subscript o i pos) (GJ td ty):=⟨by
 have ho:=ho.h;have hi:=hi.h;intro Zh s Z H Q I h;refine zJ PySem.F.slot_dict_getitem.lookup hs (AY (ho Zh s Z H _ I h) λu s1⟨x,H1,I1,c,e⟩=>AY (hi Zh s1 Z H1 _ I1 e) λk s2⟨y,H2,I2,b,a,v,ex,g,d⟩=>?_);subst ex;obtain rfl:u=Value.ref a:=c;exact⟨xn I2 g,xp hu I2 g b λf j I3 GV=>⟨v,H2,I3,GV,d⟩⟩⟩
theorem KR(hu:X.A.units+1<cLine)(ho:QE X o td)(hi:QE X i ty)(b:QE X value tv)(hs:swapsWith value (some (.Subscript o i pos')) pos.line X.env=pure false:=by rfl):
  QS X (.Assign [.Subscript o i pos'] value pos) (Xr td ty tv):=⟨by
 have ho:=ho.h;have hi:=hi.h;have b:=b.h;intro Zh s Z H D I h;refine wpAny_Assign_Subscript (AY (b Zh s Z H _ I h) λr s1⟨v,H1,I1,e,k⟩=>AY (ho Zh s1 Z H1 _ I1 k) λu s2⟨x,H2,I2,d,j⟩=>AY (hi Zh s2 Z H2 _ I2 j) λm l⟨y,H3,I3,c,a,H4,ex,g,f⟩=>?_) hs;subst ex;obtain rfl:u=Value.ref a:=d;exact ZA6 hu I3 g c e λs4 I4=>⟨Z,H4,I4,f⟩⟩
theorem kq:QE X (.Dict [] [] pos) XH:=⟨λZh s Z H Q I h=>
 wpAny_Dict_empty ⟨.ref s.heap.objs.size,_,I.laid (a:=s.heap.objs.size) (o:=.dK []) (t':=s.toks) (λ_ _ q=>BF _ q) (Am _) (dA s.heap I.big),rfl,h _ (I.AQ.fresh (Am _))⟩⟩
end
end L2
namespace Fz
open L2 Lw
variable{F F0 H H0:Hp}{ss:List Slot}{ta td tv ty:TE}{nx:List Slot->Prop}{R:Ae}{i:Nat}{ks:List Key}{CP vs:List V}{t u w:OV}{C a dx:Addr}{us us':List OV}{E:Ent0}{Z:L2.St}{m p:List Nat}{f:Str}{ns:List Str}{pre:Pre}
noncomputable def Iu:Key->PV
 | .inl i=>.int i
 | .inr x=>.str x
noncomputable def Lf:List Key->List PV->Key->Option PV
 |k'::ks,x::xs,k=>if k'=k then some x else Lf ks xs k
 |_,_,_=>none
def HX(ks:List Key)(k:Key):Bool:=ks.any λk'=>decide (k'=k)
def HP(ks:List Key)(k:Key):List Key:=if HX ks k=true then ks else ks++[k]
theorem My{v:V}{k:Key}(r:Rep F v (Iu k)):v=kV k:=by
 cases k with
 |inl i=>cases r.inv;rfl
 |inr x=>cases r.inv;rfl
theorem ZBR{k:Key}{y:PV}:∀{ks:List Key}{vs:List V}{xs:List PV},Aa F vs xs->ks.length=vs.length->Lf ks xs k=some y->∃v,Dx (ks.zip vs) k=some v/\Rep F v y:=by
 intro ks
 induction ks with
 |nil=>intro vs xs _ _ h;cases h
 |cons k' ks d=>
  intro vs xs r e h;cases xs with
  |nil=>cases h
  |cons x xs=>
   obtain⟨v,ws,rfl,a,b⟩:=r.inv;have h:(if k'=k then some x else Lf ks xs k)=some y:=h
   rw[Gd]
   by_cases c:k'=k
   .rw[tU c]at h;cases h;exact⟨v,Mz c,a⟩
   .rw[tJ c]at h;obtain⟨w,h1,h2⟩:=d b (QV e) h;exact⟨w,by rw[NP c];exact h1,h2⟩
section
variable[Xw]
variable{k:PV->Prop}{lt:Bool}
theorem IY(h:Wp ss td λp=>∃ks xs,p=.B0 ks xs/\Wp ss ty λq=>∃a y,q=Iu a/\Lf ks xs a=some y/\k y):Wp ss (GJ td ty) k:=⟨λE Z F H Q S q=>
 h.go E Z F H _ S λv p F1 H1 c g⟨ks,xs,e,h2⟩=>h2.go E Z F1 H1 _ c.st λv2 p2 F2 H2 m2 f⟨a,y,m,i,kk⟩=>by
  subst e;subst m;have n:=g.mono m2.ff;cases n with
  |B0 l j d=>
   obtain⟨w,hw,b⟩:=ZBR d j i;refine⟨_,w,rfl,?_,q w y F2 H2 (c.trans m2) b kk⟩;rw[<- hw,My f];exact FC.k (m2.st.fh _ _ l)⟩
theorem nV{k:List Nat->OV->Prop}(h:∀a,k [] (.nd (.B0 []) a (([]:List PV).map .fz))):Wx ss XH k:=⟨λE Z F H Q S q p hp=>by
 have m:=S.make hp (.dK []);refine q _ [] (.nd (.B0 []) p (([]:List PV).map .fz)) F _ m (.nd (k:=.B0 []) (vs:=[]) AJ trivial rfl .nil) (by rw[OV.Dh];simp[NK.more,OV.Iq]) (λa b=>?_) (h p);rw[OV.Dh]at b;have e:a=p:=by simpa[NK.more,OV.Iq]using b
 subst e;exact⟨S.Bd hp,S.EU hp,.inr hp⟩⟩
theorem X0:∀{ks:List Key}{vs:List V}{a:Key},ks.length=vs.length->(ks.zip vs).any (λb=>decide (b.1=a))=HX ks a
 | [],vs,a,h=>rfl
 |k'::ks,w::vs,a,h=>by
  rw[Gd,Na,X0 (by simpa using h)]
  rfl
 |_::_,[],_,h=>by simp at h
noncomputable def HZ:List Key->List V->Key->V->List V
 |k'::ks,x::xs,k,p=>(if k'=k then p else x)::HZ ks xs k p
 |_,xs,_,_=>xs
theorem mY:∀{ks:List Key}{vs:List V}{a:Key}{v:V},(ks.zip vs).map (λb=>if b.1=a then(b.1,v)else b)=ks.zip (HZ ks vs a v)
 | [],vs,a,v=>by simp
 |k'::ks,w::vs,a,v=>by
  rw[Gd,Bu,mY,HZ,Gd]
  by_cases c:k'=a
  .rw[tU c,tU c]
  .rw[tJ c,tJ c]
 |_::_,[],_,_=>by simp[HZ]
end
noncomputable def Cg:List Key->Key->Option Nat
 | [],_=>none
 |k'::ks,k=>if k'=k then some 0 else(Cg ks k).map (· + 1)
theorem W9:∀{ks:List Key}{a:Key}{n:Nat},Cg ks a=some n->ks[n]?=some a
 | [],_,_,h=>by cases h
 |k'::ks,a,n,h=>by
  rw[Cg]at h
  by_cases c:k'=a
  .rw[tU c]at h;cases h;subst c;rfl
  .rw[tJ c]at h;cases e:Cg ks a with
   |none=>rw[e]at h;cases h
   |some m=>rw[e]at h;cases h;exact W9 (ks:=ks) e
theorem Ya:∀{ks:List Key}{a:Key},(Cg ks a).isSome=HX ks a
 | [],_=>rfl
 |k'::ks,a=>by
  rw[Cg];unfold HX;rw[Na]
  by_cases c:k'=a
  .rw[tU c,rD c];rfl
  .rw[tJ c,uB c,Bool.false_or,bV,Ya];rfl
theorem Xg:∀{ks:List Key}{vs:List V}{a:Key}{n:Nat}{v:V},Cg ks a=some n->vs[n]?=some v->Dx (ks.zip vs) a=some v
 | [],_,_,_,_,h,_=>by cases h
 |k'::ks,[],a,n,v,h,hv=>by simp at hv
 |k'::ks,w::vs,a,n,v,h,hv=>by
  rw[Cg]at h;rw[Gd]
  by_cases c:k'=a
  .rw[tU c]at h;cases h;simp at hv;rw[Mz c,hv]
  .rw[tJ c]at h;cases e:Cg ks a with
   |none=>rw[e]at h;cases h
   |some m=>
    rw[e]at h;cases h;rw[NP c];exact Xg e (by simpa using hv)
theorem eP{a:Key}(b:ks.length=vs.length):(Dx (ks.zip vs) a).isSome=HX ks a:=by
 rw[<- TR,X0 b]
theorem gz:∀{ks:List Key}{vs:List V}{a:Key}{n:Nat}{v:V},ks.Nodup->Cg ks a=some n->HZ ks vs a v=vs.set n v
 | [],_,_,_,_,_,h=>by cases h
 |k'::ks,[],a,n,v,_,h=>by rw[HZ];simp;simp
 |k'::ks,w::vs,a,n,v,nd,h=>by
  rw[Cg]at h;obtain⟨n1,d⟩:=List.nodup_cons.mp nd;rw[HZ]
  by_cases c:k'=a
  .rw[tU c]at h;cases h;rw[tU c,bR]
   congr 1
   subst c;have b:∀{ks:List Key}{vs:List V},k'∉ks->HZ ks vs k' v=vs:=by
    intro ks
    induction ks with
    |nil=>intro vs _;rw[HZ];simp
    |cons k2 ks f=>
     intro vs hn;cases vs with
     |nil=>rw[HZ];simp
     |cons u vs=>
      rw[HZ,tJ (λz=>hn (by rw[z];simp)),f (λz=>hn (by simp[z]))]
   exact b n1
  .rw[tJ c]at h;cases e:Cg ks a with
   |none=>rw[e]at h;cases h
   |some m=>
    rw[e]at h;cases h;rw[tJ c,UY,gz d e]
section
variable[Xw]
variable{k:PV->Prop}
theorem NC{k:List Nat->OV->Prop}(h:Wl ss i t td λp u=>∃ks a us,u=.nd (.B0 ks) a us/\Wp ss ty λq=>∃b n w,q=Iu b/\Cg ks b=some n/\us[n]?=some w/\k (p++[n]) w):Wl ss i t (GJ td ty) k:=⟨h.hi,λE Z F H Q S q=>
 h.go E Z F H _ S λv p u F1 H1 c l h1⟨ks,a,us,o,h2⟩=>h2.go E Z F1 H1 _ c.st λv2 p2 F2 H2 m2 j⟨b,n,w,e,hn,hw,kk⟩=>by
  subst e;have g:=l.mv c.st h.hi h1 m2;subst o;obtain⟨vs,rfl,m,r,s,f⟩:=g.inv;obtain⟨x,hx,d⟩:=f.get hw;refine⟨a,x,rfl,?_,q x (p++[n]) w F2 H2 (c.trans m2) d (OV.NM h1 (by rw[OV.Ll,hw];exact OV.Kl)) kk⟩;rw[<- Xg hn hx,My j];exact FC.k m⟩
theorem z5(h:Wp ss ty λq=>Wl ss i t td λ_ u=>∃ks a us b,u=.nd (.B0 ks) a us/\q=Iu b/\k (.bl (HX ks b))):Wp ss (ZQ ty td) k:=⟨λE Z F H Q S q=>
 h.go E Z F H _ S λv p F1 H1 c e h2=>h2.go E Z F1 H1 _ c.st λv2 p2 u F2 H2 m2 d Bt AO=>by
  obtain⟨ks,a,us,b,j,l,kk⟩:=AO;subst j;subst l;obtain⟨vs,rfl,f,m,g,n⟩:=d.inv;refine⟨a,Dx (ks.zip vs) b,rfl,by rw[My e];exact FC.k f,?_⟩;rw[eP g];exact q _ _ F2 H2 (c.trans m2) (.bl _) kk⟩
theorem ZHt(h:Wp ss ty λq=>Wp ss td λu=>∃ks xs b,u=.B0 ks xs/\q=Iu b/\k (.bl (!HX ks b))):Wp ss (WU ty td) k:=⟨λE Z F H Q S q=>
 h.go E Z F H _ S λv p F1 H1 c e h2=>h2.go E Z F1 H1 _ c.st λv2 u F2 H2 m2 d AO=>by
  obtain⟨ks,xs,b,g,i,kk⟩:=AO;subst g;subst i;cases d with
  |@B0 a _ vs _ j f l=>
   refine⟨a,Dx (ks.zip vs) b,rfl,by rw[My e];exact FC.k (m2.st.fh _ _ j),?_⟩;rw[eP f];exact q _ _ F2 H2 (c.trans m2) (.bl _) kk⟩
theorem Lb:(OV.nd (.B0 ks) a us).addrs=a::OV.Ap us:=by rw[OV.Dh];rfl
theorem lE{lt:Bool}:∀(m:List Nat)(ss:List Slot),ss[i]?=some (.ow lt t)->i∉m->(Fz.E7 m ss)[i]?=some (.ow lt t):=by
 intro m
 induction m with
 |nil=>intro ss h _;exact h
 |cons j m b=>
  intro ss h a;refine b _ ?_ λz=>a (by simp[z]);rw[CZ (by rintro rfl;exact a (by simp))];exact h
theorem Sg.dM{lt:Bool}{ks':List Key}(S0:Sg E ss Z F0 H0)(S:Sg E ss Z F H)(hi:ss[i]?=some (.ow lt t))(Bt:t.at p=some (.nd (.B0 ks) a us))
  (hu:∀a∈u.addrs,F a=none/\E.H0 a=none/\((∃i∈m,∃s,s≠Slot.AD/\ss[i]?=some s/\BO s Z[i]? a)∨H0 a=none)) (Em:i∉m)
  (n:BN F H CP us') (x:ks'.length=CP.length) (Ph:(OV.Ap us').Nodup) (Eu:∀b∈OV.Ap us',b∈OV.Ap us∨b∈u.addrs):Sg E ((Fz.E7 m ss).set i (.ow lt (t.put p (.nd (.B0 ks') a us')))) Z F (upd H a (.dK (ks'.zip CP))):=by
 have D:=lE m ss hi Em;obtain⟨v,e,r,nd,q⟩:=S.ok i _ hi;have g:∀b,b∈a::OV.Ap us->b∈t.addrs:=λb c=>OV.Kj Bt b (by rw[Lb];exact c);have C:∀b∈u.addrs,b∉t.addrs:=λb c z=>by
  rcases(hu b c).2.2 with⟨j,A,s,_,hs,o⟩|w
  .exact S.Bi j i s _ b (by rintro rfl;exact Em A) hs hi o z
  .exact S0.ET hi z w
 have f:(OV.nd (.B0 ks) a us).addrs.Nodup:=by
  obtain⟨l,G,B,_⟩:=OV.split Bt;rw[B,C6,C6]at nd;exact nd.1.2.1
 rw[Lb]at f;have d:∀b∈OV.Ap us',b≠a:=λb c z=>by
  subst z;rcases Eu b c with w|w
  .exact(List.nodup_cons.mp f).1 w
  .exact C b w (g b (by simp))
 refine(S.E7 m).Vw D Bt (.nd (k:=.B0 ks') AJ trivial x (n.mono (A9.refl _) λb c o ho=>by rw[Ah (d b c)];exact ho)) (by rw[Lb];exact List.nodup_cons.mpr ⟨λz=>d a z rfl,Ph⟩) λb c=>?_;rw[Lb]at c ⊢;rcases List.mem_cons.mp c with w|w
 .exact .inl (by simp[w])
 .rcases Eu b w with z|z
  .exact .inl (by simp[z])
  .refine .inr ⟨(hu b z).1,(hu b z).2.1,λj s hs o=>?_⟩;rcases QB hs with y|⟨HN,hm⟩
   .subst y;cases o
   .rcases(hu b z).2.2 with⟨i2,Ef,s2,_,DZ,h⟩|y
    .exact S.Bi j i2 s s2 b (by rintro rfl;exact hm Ef) HN DZ o h
    .exact S0.ET HN o y
def GP(ks:List Key)(us:List OV)(a:Key)(w:OV):List OV:=match Cg ks a with
 |some n=>us.set n w
 |none=>us++[w]
theorem Ka(h:Wx ss tv λm w=>Wl ss i t td λp u=>∃lt a ks us,ss[i]?=some (.ow lt t)/\u=.nd (.B0 ks) a us/\us.length<=99999/\ks.Nodup/\i∉m/\Wp ss ty λq=>∃d,q=Iu d/\nx ((Fz.E7 m ss).set i (.ow lt (t.put p (.nd (.B0 (HP ks d)) a (GP ks us d w)))))):Ws ss (Xr td ty tv) nx R:=⟨λE D Z F H S hn hr=>
 h.go E Z F H _ S λv m w F1 H1 O N EY a1 h2=>h2.go E Z F1 H1 _ O.st λv2 p u F2 H2 m2 M Bt⟨lt,a,ks,us,hi,eu,hz,A,Em,h3⟩=>h3.go E Z F2 H2 _ m2.st λv3 q F3 H3 I r3⟨d,eq,kk⟩=>by
  subst eu;subst eq;have ev:v2=.ref a:=by cases M;rfl
  subst ev;have J:=m2.trans I;have np:∀b∈w.addrs,Ce ss Z b:=λb f k A Q=>by
   rcases(a1 b f).2.2 with⟨j,P,s,hs,JR,o⟩|z
   .exact S.Bi j k s _ b (λe=>by subst e;rw[JR]at A;exact hs (BX A)) JR A o Q
   .exact S.ET A Q z
  have W:B8 F3 H3 v w:=N.mono J.ff λb f o e=>J.hh b o (np b f) e;have aF:∀b∈w.addrs,F3 b=none/\E.H0 b=none/\((∃i∈m,∃s,s≠Slot.AD/\ss[i]?=some s/\BO s Z[i]? b)∨H b=none):=λb f=>by
   refine⟨?_,(a1 b f).2⟩;cases e:F3 b with
   |none=>rfl
   |some o=>
    rcases J.nn b o e with z|z
    .rw[(a1 b f).1]at z;cases z
    .exact absurd z (N.there b f)
  have σ:=M.mv m2.st ⟨lt,hi⟩ Bt I;cases σ with
  |@nd _ _ vs _ ha sd ft G=>
   have K:ks.length=vs.length:=ft;have vl:=G.length;have X:(ks.zip vs).length<=99999:=by rw[QM];omega
   refine⟨a,_,rfl,by rw[My r3];exact OD.k ha (Mf X),?_⟩;obtain⟨v0,e0,r0,DY,q0⟩:=I.st.ok i _ hi;have L:(OV.nd (.B0 ks) a us).addrs.Nodup:=by
    obtain⟨l,G,B,_⟩:=OV.split Bt;rw[B,C6,C6]at DY;exact DY.1.2.1
   rw[Lb]at L;have g:∀b∈w.addrs,b∉OV.Ap us:=λb f z=>by
    have U:b∈t.addrs:=OV.Kj Bt b (by rw[Lb];simp[z]);rcases(a1 b f).2.2 with⟨j,P,s,_,hs,o⟩|y
    .exact S.Bi j i s _ b (by rintro rfl;exact Em P) hs hi o U
    .exact S.ET hi U y
   obtain⟨CP,ep,O8,OQ,HC,Y⟩:∃CP:List V,putK (ks.zip vs) d v=(HP ks d).zip CP/\(HP ks d).length=CP.length/\BN F3 H3 CP (GP ks us d w)/\(OV.Ap (GP ks us d w)).Nodup/\∀b∈OV.Ap (GP ks us d w),b∈OV.Ap us∨b∈w.addrs:=by
    unfold putK HP GP;rw[X0 K];cases e:Cg ks d with
    |some n=>
     have c:HX ks d=true:=by rw[<- Ya,e];rfl
     have Px:n<us.length:=by
      have:=(List.getElem?_eq_some_iff.mp (W9 e)).1;omega
     obtain⟨l,r,B,T⟩:=KC (B9 Px);rw[tU c,tU c,mY,gz A e];refine⟨vs.set n v,rfl,by rw[J4];exact K,G.set n W,?_,λb f=>?_⟩
     .show(OV.Ap (us.set n w)).Nodup;rw[T];have n1:=(List.nodup_cons.mp L).2;rw[B]at n1;exact ZI n1 EY λb f=>.inr (by rw[<- B];exact g b f)
     .have C:b∈OV.Ap (us.set n w):=f;rw[T]at C;rcases List.mem_append.mp C with z|z
      .rcases List.mem_append.mp z with z|z
       .exact .inl (by rw[B];simp[z])
       .exact .inr z
      .exact .inl (by rw[B];simp[z])
    |none=>
     have c:¬ HX ks d=true:=by rw[<- Ya,e];decide
     rw[tJ c,tJ c];refine⟨vs++[v],by rw[List.zip_append K];rfl,by rw[BE,BE,K];rfl,G.append (.one W),?_,λb f=>?_⟩
     .show(OV.Ap (us++[w])).Nodup;rw[LA,MD,C6];exact⟨(List.nodup_cons.mp L).2,EY,λx hx y hy e=>g y hy (e▸hx)⟩
     .have C:b∈OV.Ap (us++[w]):=f;rw[LA,MD]at C;exact List.mem_append.mp C
   rw[ep];exact hn _ Z F3 _ kk (Sg.dM (u:=w) S I.st hi Bt aF Em OQ O8 HC Y) (O.ff.trans J.ff)⟩
end
noncomputable def D4:List Str->Str->Option Nat
 | [],_=>none
 |g::ns,f=>if g=f then some 0 else(D4 ns f).map (· + 1)
def Oz(ns:List Str)(f:Str):List Str:=match D4 ns f with
 |some _=>ns
 |none=>ns++[f]
def O0(ns:List Str)(us:List OV)(f:Str)(w:OV):List OV:=match D4 ns f with
 |some n=>us.set n w
 |none=>us++[w]
def MT(ns:List Str)(vs:List V)(f:Str)(w:V):List V:=match D4 ns f with
 |some n=>vs.set n w
 |none=>vs++[w]
theorem dm:∀{ns:List Str}{f:Str}{n:Nat},D4 ns f=some n->n<ns.length
 | [],_,_,h=>by cases h
 |g::ns,f,n,h=>by
  rw[D4]at h
  by_cases c:g=f
  .rw[tU c]at h;cases h;exact oq _
  .rw[tJ c]at h;cases e:D4 ns f with
   |none=>rw[e]at h;cases h
   |some m=>rw[e]at h;cases h;exact Nat.succ_lt_succ (dm e)
theorem X2:∀{ns:List Str}{vs:List V}{f:Str}{n:Nat}{v:V},D4 ns f=some n->vs[n]?=some v->(ns.zip vs).lookup f=some v
 | [],_,_,_,_,h,_=>by cases h
 |g::ns,[],f,n,v,h,hv=>by simp at hv
 |g::ns,w::vs,f,n,v,h,hv=>by
  rw[D4]at h;rw[Gd]
  by_cases c:g=f
  .rw[tU c]at h;cases h;simp at hv;subst c;rw[List.lookup_cons_self,hv]
  .rw[tJ c]at h;cases e:D4 ns f with
   |none=>rw[e]at h;cases h
   |some m=>
    rw[e]at h;cases h;rw[Ht];have:(f == g)=false:=by simpa using λz=>c z.symm
    rw[this];exact X2 e (by simpa using hv)
theorem lg:∀{ns:List Str}{vs:List V}{f:Str}{v:V},ns.length=vs.length->Dy f v (ns.zip vs)=(Oz ns f).zip (MT ns vs f v)/\(Oz ns f).length=(MT ns vs f v).length
 | [],[],f,v,_=>by simp[Dy,Oz,MT,D4]
 | [],_::_,_,_,h=>by simp at h
 |_::_,[],_,_,h=>by simp at h
 |g::ns,w::vs,f,v,h=>by
  obtain⟨i1,i2⟩:=lg (ns:=ns) (vs:=vs) (f:=f) (v:=v) (by simpa using h)
  rw[Gd];rw[show Dy f v ((g,w)::ns.zip vs)=(if g=f then(g,v)::ns.zip vs else(g,w)::Dy f v (ns.zip vs))from rfl]
  unfold Oz MT at i1 i2 ⊢;rw[D4]
  by_cases c:g=f
  .rw[tU c,tU c];exact⟨by simp,by simpa using h⟩
  .rw[tJ c,tJ c,i1];cases e:D4 ns f with
   |none=>rw[e]at i2;exact⟨by simp,by simpa using i2⟩
   |some m=>rw[e]at i2;exact⟨by simp,by simpa using i2⟩
section
variable[Xw]
variable{k:PV->Prop}{K:ZKG}
theorem X6{k:List Nat->OV->Prop}(h:Wl ss i t ta λp u=>∃C dx ns a us n w,u=.nd (.obj C dx ns) a us/\C3 K C/\Bg K C f/\D4 ns f=some n/\us[n]?=some w/\k (p++[n]) w):Wl ss i t (LP K ta f) k:=⟨h.hi,λE Z F H Q S q=>
 h.go E Z F H _ S λv p u F1 H1 g e h1 AO=>by
  obtain⟨C,dx,ns,a,us,n,w,m,j,hn,hx,hw,kk⟩:=AO;subst m;obtain⟨vs,rfl,l,o,r,d⟩:=e.inv;obtain⟨x,b,c⟩:=d.get hw;exact⟨a,C,dx,ns.zip vs,x,rfl,l,j,hn,X2 hx b,q x (p++[n]) w F1 H1 g c (OV.NM h1 (by rw[OV.Ll,hw];exact OV.Kl)) kk⟩⟩
theorem Li:(OV.nd (.obj C dx ns) a us).addrs=a::dx::OV.Ap us:=by rw[OV.Dh];rfl
theorem Sg.ZDx{lt:Bool}{BC:List Str}(S0:Sg E ss Z F0 H0)(S:Sg E ss Z F H)(hi:ss[i]?=some (.ow lt t))(Bt:t.at p=some (.nd (.obj C dx ns) a us))(O4:H dx=some (.own a))
  (hu:∀a∈u.addrs,F a=none/\E.H0 a=none/\((∃i∈m,∃s,s≠Slot.AD/\ss[i]?=some s/\BO s Z[i]? a)∨H0 a=none)) (Em:i∉m)
  (D:BN F H CP us') (G:BC.length=CP.length) (Ph:(OV.Ap us').Nodup) (Eu:∀b∈OV.Ap us',b∈OV.Ap us∨b∈u.addrs):Sg E ((Fz.E7 m ss).set i (.ow lt (t.put p (.nd (.obj C dx BC) a us')))) Z F (upd H a (.ins C dx (BC.zip CP))):=by
 have K:=lE m ss hi Em;obtain⟨v,e,r,nd,q⟩:=S.ok i _ hi;have d:∀b,b∈a::dx::OV.Ap us->b∈t.addrs:=λb c=>OV.Kj Bt b (by rw[Li];exact c);have h:∀b∈u.addrs,b∉t.addrs:=λb c z=>by
  rcases(hu b c).2.2 with⟨j,I,s,_,hs,o⟩|w
  .exact S.Bi j i s _ b (by rintro rfl;exact Em I) hs hi o z
  .exact S0.ET hi z w
 have n:(OV.nd (.obj C dx ns) a us).addrs.Nodup:=by
  obtain⟨l,L,J,_⟩:=OV.split Bt;rw[J,C6,C6]at nd;exact nd.1.2.1
 rw[Li]at n;obtain⟨n1,B⟩:=List.nodup_cons.mp n;obtain⟨A,M⟩:=List.nodup_cons.mp B;have f:∀b∈OV.Ap us',b≠a:=λb c z=>by
  subst z;rcases Eu b c with w|w
  .exact n1 (by simp[w])
  .exact h b w (d b (by simp))
 have G5:∀b∈OV.Ap us',b≠dx:=λb c z=>by
  subst z;rcases Eu b c with w|w
  .exact A w
  .exact h b w (d b (by simp))
 have g:dx≠a:=λz=>n1 (by simp[z]);refine(S.E7 m).Vw K Bt (.nd (k:=.obj C dx BC) AJ (show upd H a _ dx=some (.own a) by rw[Ah g];exact O4) G (D.mono (A9.refl _) λb c o ho=>by rw[Ah (f b c)];exact ho)) (by
  rw[Li];exact List.nodup_cons.mpr ⟨λz=>by
   rcases List.mem_cons.mp z with z|z
   .exact g z.symm
   .exact f a z rfl,List.nodup_cons.mpr ⟨λz=>G5 dx z rfl,Ph⟩⟩) λb c=>?_
 rw[Li]at c ⊢;rcases List.mem_cons.mp c with w|w
 .exact .inl (by simp[w])
 .rcases List.mem_cons.mp w with w|w
  .exact .inl (by simp[w])
  .rcases Eu b w with z|z
   .exact .inl (by simp[z])
   .refine .inr ⟨(hu b z).1,(hu b z).2.1,λj s hs o=>?_⟩;rcases QB hs with y|⟨HN,hm⟩
    .subst y;cases o
    .rcases(hu b z).2.2 with⟨i2,Ef,s2,_,DZ,x⟩|y
     .exact S.Bi j i2 s s2 b (by rintro rfl;exact hm Ef) HN DZ o x
     .exact S0.ET HN o y
theorem ZDv{F1 H1 F3 H3:Hp}{v:V}(S:Sg E ss Z F H)(Ko:Mv E ss Z F1 H1 F3 H3)(f:B8 F1 H1 v w)(a1:∀a∈w.addrs,F1 a=none/\E.H0 a=none/\((∃i∈m,∃s,s≠Slot.AD/\ss[i]?=some s/\BO s Z[i]? a)∨H a=none)):
  B8 F3 H3 v w/\∀b∈w.addrs,F3 b=none/\E.H0 b=none/\((∃i∈m,∃s,s≠Slot.AD/\ss[i]?=some s/\BO s Z[i]? b)∨H b=none):=by
 have np:∀b∈w.addrs,Ce ss Z b:=λb c k d g=>by
  rcases(a1 b c).2.2 with⟨j,h,s,hs,JR,o⟩|z
  .exact S.Bi j k s _ b (λe=>by subst e;rw[JR]at d;exact hs (BX d)) JR d o g
  .exact S.ET d g z
 refine⟨f.mono Ko.ff λb c o e=>Ko.hh b o (np b c) e,λb c=>⟨?_,(a1 b c).2⟩⟩;cases e:F3 b with
 |none=>rfl
 |some o=>
  rcases Ko.nn b o e with z|z
  .rw[(a1 b c).1]at z;cases z
  .exact absurd z (f.there b c)
theorem Nj(h:Wx ss tv λm w=>Wl ss i t ta λp u=>∃lt C dx ns a us,ss[i]?=some (.ow lt t)/\u=.nd (.obj C dx ns) a us/\C3 K C/\Bg K C f/\ns.length<1000/\i∉m/\nx ((Fz.E7 m ss).set i (.ow lt (t.put p (.nd (.obj C dx (Oz ns f)) a (O0 ns us f w)))))):Ws ss (Y8 K ta tv f) nx R:=⟨λE D Z F H S hn hr=>
 h.go E Z F H _ S λv m w F1 H1 I P EY a1 h2=>h2.go E Z F1 H1 _ I.st λv2 p u F2 H2 m2 G Bt AO=>by
  obtain⟨lt,C,dx,ns,a,us,hi,Y,U,A,hz,Em,kk⟩:=AO;subst Y;have X:v2=.ref a:=by cases G;rfl
  subst X;obtain⟨Ho,σ⟩:=ZDv S m2 P a1;cases G with
  |@nd _ _ vs _ V N W q=>
   have Ie:ns.length=vs.length:=W;have vl:=q.length;obtain⟨ep,O8⟩:=lg (f:=f) (v:=v) Ie;refine⟨a,C,dx,ns.zip vs,rfl,V,U,A,by rw[QM];omega,?_⟩;obtain⟨v0,e0,r0,DY,q0⟩:=m2.st.ok i _ hi;have M:(OV.nd (.obj C dx ns) a us).addrs.Nodup:=by
    obtain⟨l,q,g,_⟩:=OV.split Bt;rw[g,C6,C6]at DY;exact DY.1.2.1
   rw[Li]at M;have B:=(List.nodup_cons.mp (List.nodup_cons.mp M).2).2;have c:∀b∈w.addrs,b∉OV.Ap us:=λb d z=>by
    have L:b∈t.addrs:=OV.Kj Bt b (by rw[Li];simp[z]);rcases(a1 b d).2.2 with⟨j,T,s,_,hs,o⟩|y
    .exact S.Bi j i s _ b (by rintro rfl;exact Em T) hs hi o L
    .exact S.ET hi L y
   obtain⟨OQ,HC,O⟩:BN F2 H2 (MT ns vs f v) (O0 ns us f w)/\(OV.Ap (O0 ns us f w)).Nodup/\∀b∈OV.Ap (O0 ns us f w),b∈OV.Ap us∨b∈w.addrs:=by
    unfold MT O0;cases e:D4 ns f with
    |some n=>
     have Px:n<us.length:=by have:=dm e;omega
     obtain⟨l,r,g,J⟩:=KC (B9 Px);refine⟨q.set n Ho,?_,λb d=>?_⟩
     .show(OV.Ap (us.set n w)).Nodup;rw[J];rw[g]at B;exact ZI B EY λb d=>.inr (by rw[<- g];exact c b d)
     .have k:b∈OV.Ap (us.set n w):=d;rw[J]at k;rcases List.mem_append.mp k with z|z
      .rcases List.mem_append.mp z with z|z
       .exact .inl (by rw[g];simp[z])
       .exact .inr z
      .exact .inl (by rw[g];simp[z])
    |none=>
     refine⟨q.append (.one Ho),?_,λb d=>?_⟩
     .show(OV.Ap (us++[w])).Nodup;rw[LA,MD,C6];exact⟨B,EY,λx hx y Q e=>c y Q (e▸hx)⟩
     .have k:b∈OV.Ap (us++[w]):=d;rw[LA,MD]at k;exact List.mem_append.mp k
   rw[ep];exact hn _ Z F2 _ kk (Sg.ZDx (u:=w) S m2.st hi Bt N σ Em OQ O8 HC O) (I.ff.trans m2.ff)⟩
end
theorem N2:∀{ns:List Str}{vs:List V}{f:Str},D4 ns f=none->(ns.zip vs).lookup f=none
 | [],_,_,_=>by simp
 |g::ns,[],f,h=>by simp
 |g::ns,w::vs,f,h=>by
  rw[D4]at h
  by_cases c:g=f
  .rw[tU c]at h;cases h
  .rw[tJ c]at h;rw[Gd,Ht];have:(f == g)=false:=by simpa using λz=>c z.symm
   rw[this];refine N2 ?_;cases e:D4 ns f with
   |none=>rfl
   |some m=>rw[e]at h;cases h
section
variable[Xw]
variable{te:TE}{ta:TA}{lt:Bool}{K:ZKG}
theorem Pm{a0:Addr}{m:Str}{k:PV->OV->Prop}(hi:ss[i]?=some (.ow lt (.nd (.obj C dx ns) a0 us)))(j:D4 ns m=none)(h:Q0 ss ta λl=>∃k',pre (.ow true (.nd (.obj C dx ns) a0 us)::l) (.mt k')/\∀p t',k' p t'->∃Io us',t'=.nd Io a0 us'/\k p t'):
  Wm ss i lt (.nd (.obj C dx ns) a0 us) (JB C m (DB pre) [] E0 (BJ i) ta) k:=⟨λE Z F H Q S q=>by
 obtain⟨d,e0,c,_,_⟩:=S.ok i _ hi;have o:d=.ref a0:=by cases c;rfl
 subst o;cases c with
 |@nd _ _ FP _ n s u t=>
  refine⟨_,e0,a0,dx,ns.zip FP,rfl,n,N2 j,h.go E Z F H _ S λvs l F1 H1 b a⟨k',hp,kk⟩=>?_⟩;rw[FN];refine⟨.ow true (.nd (.obj C dx ns) a0 us)::l,.mt k',F1,[],(OV.nd (.obj C dx ns) a0 us).addrs,hp,b.st.lO hi (.here e0 a),λv F' H' f⟨p,t',r,e,nd,g,kp⟩=>?_⟩;obtain⟨Io,us',rfl,k2⟩:=kk p t' kp;exact q v p _ F' H' (b.zT hi (b.st.i4 hi f e nd g)) r k2⟩
theorem Ic{m:Str}{k:PV->Prop}(h:Wp ss te λo=>∃ns xs,o=.obj C ns xs/\D4 ns m=none/\Wa ss ta λl=>∃k',pre (.is o::l) (.is k')/\∀p,k' p->k p):Wp ss (JB C m (Ag pre) [] E0 te ta) k:=⟨λE Z F H Q S q=>
 h.go E Z F H _ S λv o F1 H1 b e⟨ns,xs,j,g,h2⟩=>by
  subst j;cases e with
  |@obj a _ dx _ FP _ c n i d=>
   refine⟨a,dx,ns.zip FP,rfl,b.st.fh _ _ c,N2 g,h2.go E Z F1 H1 _ b.st λvs l F2 H2 m2 t⟨k',hp,kk⟩=>?_⟩;rw[FN];refine⟨.is (.obj C ns xs)::l,.is k',F2,[],hp,m2.st.PN (.cons (s:=.is _) (Rep.obj (m2.ff _ _ c) (m2.ff _ _ n) i (d.mono m2.ff)) t),λv F' H' f⟨p,r,kp⟩=>?_⟩;exact q v p F' H' (b.trans (m2.trans (m2.st.back (λ_ h=>absurd h B2) f))) r (kk p kp)⟩
theorem Ft{k:PV->Prop}(h:Wp ss te λo=>∃C ns xs n y,o=.obj C ns xs/\C3 K C/\Bg K C f/\D4 ns f=some n/\xs[n]?=some y/\k y):Wp ss (LP K te f) k:=⟨λE Z F H Q S q=>
 h.go E Z F H _ S λv o F1 H1 b e AO=>by
  obtain⟨C,ns,xs,n,y,j,i,hn,hx,g,kk⟩:=AO;subst j;cases e with
  |@obj a _ dx _ FP _ l p m d=>
   obtain⟨u,hu,c⟩:=d.get g;exact⟨a,C,dx,ns.zip FP,u,rfl,b.st.fh _ _ l,i,hn,X2 hx hu,q u y F1 H1 b c kk⟩⟩
theorem zY{k:List Nat->OV->Prop}(h:Q0 ss ta λl=>∀x dx:Addr,∃k',pre (.ow true (.nd (.obj C dx []) x [])::l) (.mt k')/\∀p t',k' p t'->p=.AG/\∃BC us',t'=.nd (.obj C dx BC) x us'/\k [] t'):Wx ss (WT C (DB pre) [] E0 ta) k:=⟨λE Z F H Q S q=>
 h.go E Z F H _ S λvs l F1 H1 d J MB x dx hx O4 Aj=>by
  rw[FN];have M1:=d.st.make O4 (.own x);have M:upd H1 dx (.own x) x=none:=by rw[Ah (BW Aj)];exact hx
  have L:=M1.st.make M (.ins C dx []);have m2:=M1.trans L;have up:∀a o,H1 a=some o->upd (upd H1 dx (.own x)) x (.ins C dx []) a=some o:=λa o e=>by
   rw[Ah (Ed e hx),Ah (Ed e O4)];exact e
  have w:∀a,upd (upd H1 dx (.own x)) x (.ins C dx []) a=none->H1 a=none:=λa e=>by
   cases z:H1 a with
   |none=>rfl
   |some o=>rw[up a o z]at e;cases e
  have a0:(OV.nd (.obj C dx []) x []).addrs=[x,dx]:=by rw[Li,OV.Iq]
  have D:B8 F1 (upd (upd H1 dx (.own x)) x (.ins C dx [])) (.ref x) (.nd (.obj C dx []) x []):=.nd (k:=.obj C dx []) (vs:=[]) AJ (show upd _ x _ dx=some (.own x) by rw[Ah Aj];exact AJ) rfl .nil;have f0:∀a∈(OV.nd (.obj C dx []) x []).addrs,H1 a=none:=λa b=>by
   rw[a0]at b;simp only[EI,B2,ZAf]at b;rcases b with rfl|rfl
   .exact hx
   .exact O4
  have N:(OV.nd (.obj C dx []) x []).addrs.Nodup:=by
   rw[a0];simp[BW Aj]
  have y:=Sg.lU (j:=ss.length) (m:=[]) (v:=.ref x) (u:=.nd (.obj C dx []) x []) (d.st.grown 1) (m2.st.grown 1) D N λa b=>⟨d.st.Bd (f0 a b),d.st.EU (f0 a b),.inr (f0 a b)⟩;have P:=d.st.len;have hi:((ss++List.replicate 1 Slot.any).set ss.length (.ow false (.nd (.obj C dx []) x [])))[ss.length]?=some (.ow false (.nd (.obj C dx []) x [])):=DD (by simp);have e0:((Z++List.replicate 1 none).set ss.length (some (V.ref x)))[ss.length]?=some (some (.ref x)):=DD (by simp;omega);obtain⟨k',hp,kk⟩:=MB x dx;refine⟨.ow true (.nd (.obj C dx []) x [])::l,.mt k',F1,[],(OV.nd (.obj C dx []) x []).addrs,hp,y.lO hi (.here e0 J),λv F' H' f⟨p,t',r,t,nd,s,kp⟩=>?_⟩;obtain⟨rfl,BC,us',rfl,k2⟩:=kk p t' kp;have B:=y.i4 hi f t nd s;have at':∀n,n<ss.length->((ss++List.replicate 1 Slot.any).set ss.length (.ow false (.nd (.obj C dx []) x [])))[n]?=ss[n]?:=λn hn=>by rw[CZ (by omega),HK hn]
  have A:∀n,n<ss.length->((Z++List.replicate 1 none).set ss.length (some (V.ref x)))[n]?=Z[n]?:=λn hn=>by rw[CZ (by omega),HK (by omega)]
  have np:∀a,H1 a≠none->Ce ss Z a->Ce ((ss++List.replicate 1 Slot.any).set ss.length (.ow false (.nd (.obj C dx []) x []))) ((Z++List.replicate 1 none).set ss.length (some (V.ref x))) a:=λa _ hn n g=>by
   by_cases c:n<ss.length
   .rw[at' n c]at g;rw[A n c];exact hn n g
   .by_cases I:n=ss.length
    .subst I;rw[hi]at g;cases g
    .rw[M0 (by simp;omega)]at g;cases g
  have K:Mv E ss Z F1 H1 F' H':=d.st.step B.ff B.st.fh (λa o hn e=>B.hh a o (np a (by rw[e];simp) hn) (λz=>by rw[f0 a z]at e;cases e) (up a o e)) (λa o e=>(B.nn a o e).imp id (w a)) λn O hn G=>by
   have c:n<ss.length:=(List.getElem?_eq_some_iff.mp hn).1;refine B.st.EW (i:=n) ?_ (by rw[A n c];exact G);rw[CZ (by omega)];exact(at' n c).trans hn
  cases r.inv;refine⟨rfl,q (.ref x) [] _ F' H' (d.trans K) t nd (λa b=>?_) k2⟩;have h1:H1 a=none:=(s a b).2.elim (w a) (f0 a);exact⟨(s a b).1,d.st.EU h1,.inr (d.none h1)⟩⟩
end
end Fz
namespace L2
section
variable{X:Cx}{o e value:Expr}{f:Str}{pos pos' aW:Pos}{ta tv:TE}
theorem CQ(b:QE X e ta)(i:attributeBase e f X.env (eval e X.env)=eval e X.env:=by rfl):QE X (.Attribute e f pos) (LP X.K ta f):=⟨by
 have b:=b.h;intro Zh s Z H Q I h;refine ZDF i (AY (b Zh s Z H _ I h) λu s1 Fh=>?_);obtain⟨x,H1,I1,d,a,C,dx,fs,v,ex,ea,c,n,l,q⟩:=Fh;subst ex;obtain rfl:u=Value.ref a:=d;exact ZFE I1 ea c n l λj s2 I2 g=>⟨v,H1,I2,g,q⟩⟩
theorem PB(d:QE X o ta)(b:QE X value tv)(hs:swapsWith value (some (.Attribute o f pos')) pos.line X.env=pure false:=by rfl):QS X (.Assign [.Attribute o f pos'] value pos) (Y8 X.K ta tv f):=⟨by
 have d:=d.h;have b:=b.h;intro Zh s Z H D I h;refine plainObj_wpAny_Assign_Attribute (AY (b Zh s Z H _ I h) λu s1⟨y,H1,I1,e,q⟩=>AY (d Zh s1 Z H1 _ I1 q) λj s2⟨x,H2,I2,g,a,C,dx,fs,ex,ea,c,n,l,i⟩=>?_) hs;subst ex;obtain rfl:j=Value.ref a:=g;exact sZ I2 ea c n l e λk I3=>⟨Z,_,I3,i⟩⟩
end
end L2
namespace L2
section
variable{X:Cx}{o e:Expr}{td ty:TE}{apos Bz:Pos}
theorem jc(ho:QE X o td)(b:QE X e ty)(m:M1 X o "pop" apos e Bz):QE X (.Call (.Attribute o "pop" apos) [e] [] Bz) (Wc td ty):=⟨by
 have ho:=ho.h;have b:=b.h;intro Zh s Z H Q I h;refine wpAny_Call_method m.base m.HB m.line PySem.F.plainAttrs_dict ZJG PySem.F.type_dict_pop (AY (ho Zh s Z H _ I h) λu s1⟨x,H1,I1,f,a,ex,d,i⟩=>?_);subst ex;obtain rfl:u=Value.ref a:=f;obtain⟨t1,t2,_⟩:=pE I1 d;refine⟨t1,t2,?_⟩;rw[m.trees];refine oH rfl (Calls.evalArgs_plain (oI (AY (b Zh s1 Z H1 _ I1 i) λq s2⟨y,H2,I2,c,A6,k,v,ea,j,l,g⟩=>oJ ?_)));subst j;exact xK I2 ea c l (.inl rfl) λn p I3 GV=>⟨v,_,I3,GV,g⟩⟩
end
end L2
namespace Fz
open L2 Lw
theorem bq:∀{ks:List Key}{vs:List V}{d:Key}{n:Nat},ks.Nodup->Cg ks d=some n->ks.length=vs.length->Jv (ks.zip vs) d=(ks.eraseIdx n).zip (vs.eraseIdx n)
 | [],_,_,_,_,h,_=>by cases h
 |_::_,[],_,_,_,_,hl=>by simp at hl
 |k'::ks,w::vs,d,n,nd,h,hl=>by
  obtain⟨n1,i⟩:=List.nodup_cons.mp nd;rw[Cg]at h;unfold Jv;rw[Gd,QF]
  by_cases c:k'=d
  .rw[tU c]at h;cases h;rw[tJ (by simp[c])];show List.filter _ _=ks.zip vs;refine List.filter_eq_self.mpr λf YQ=>?_;have:f.1∈ks:=(bQ (a:=f.1) (b:=f.2) YQ).1;exact rD λz=>n1 (by rw[c,<- z];exact this)
  .rw[tJ c]at h;cases e:Cg ks d with
   |none=>rw[e]at h;cases h
   |some m=>
    rw[e]at h;cases h;rw[tU (rD c)];have g:=bq (vs:=vs) i e (by simpa using hl)
    unfold Jv at g;rw[g];rfl
theorem Z4{α:Type}:∀(l:List α)(n:Nat),n<l.length->(l.eraseIdx n).length=l.length - 1
 | [],_,h=>by simp at h
 |_::_,0,_=>rfl
 |x::t,n+1,h=>by
  have h':n<t.length:=by simpa using h
  rw[UU,Ba,Z4 t n h',Ba];omega
theorem BN.ya{F H:Hp}:∀{vs:List V}{us:List OV}(n:Nat),BN F H vs us->BN F H (vs.eraseIdx n) (us.eraseIdx n):=by
 intro vs us n r
 induction us generalizing vs n with
 |nil=>cases r.Ea;exact .nil
 |cons p ps c=>
  obtain⟨v,ws,rfl,a,b⟩:=r.inv;cases n with
  |zero=>exact b
  |succ n=>exact .cons a (c n b)
theorem VX:∀(us:List OV)(n:Nat),(OV.Ap (us.eraseIdx n)).Sublist (OV.Ap us)
 | [],_=>oM _
 |u::us,0=>by rw[List.eraseIdx_cons_zero,OV.Cv];exact List.sublist_append_right _ _
 |u::us,n+1=>by rw[UU,OV.Cv,OV.Cv];exact List.Sublist.append (oM _) (VX us n)
section
variable[Xw]
variable{ss:List Slot}{td ty:TE}{nx:List Slot->Prop}{R:Ae}{i:Nat}{t:OV}
theorem mQ(h:Wl ss i t td λp u=>∃lt a ks us,ss[i]?=some (.ow lt t)/\u=.nd (.B0 ks) a us/\ks.Nodup/\Wp ss ty λq=>∃c n,q=Iu c/\Cg ks c=some n/\nx (ss.set i (.ow lt (t.put p (.nd (.B0 (ks.eraseIdx n)) a (us.eraseIdx n)))))):Ws ss (Jn (Wc td ty)) nx R:=⟨λE D Z F H S hn U=>
 h.go E Z F H _ S λv p u F1 H1 d g Bt⟨lt,a,ks,us,hi,G,y,h2⟩=>by
  subst G;have C:v=.ref a:=by cases g;rfl
  subst C;have N:=g;cases g with
  |@nd _ _ FP _ w k A o=>
   refine⟨a,rfl,.inl ⟨_,.inl w⟩,h2.go E Z F1 H1 _ d.st λv2 q F2 H2 m2 s⟨c,n,I,hx,kk⟩=>?_⟩;subst I;have r:=N.mv d.st ⟨lt,hi⟩ Bt m2;cases r with
   |@nd _ _ vs _ z P B f=>
    have L:ks.length=vs.length:=B;have vl:=f.length;have K:n<ks.length:=(List.getElem?_eq_some_iff.mp (W9 hx)).1;have x:=B9 (show n<vs.length by omega);refine⟨_,c,_,z,My s,Xg hx x,?_⟩;obtain⟨O,e0,Q,DY,T⟩:=m2.st.ok i _ hi;have j:(OV.nd (.B0 ks) a us).addrs.Nodup:=by
     obtain⟨l,f,J,_⟩:=OV.split Bt;rw[J,C6,C6]at DY;exact DY.1.2.1
    rw[Lb]at j;rw[bq y hx L];have M:=Sg.dM (m:=[]) (u:=.fz .AG) (ks':=ks.eraseIdx n) (us':=us.eraseIdx n) d.st m2.st hi Bt (λb e=>by rw[OV.MM]at e;cases e) (by simp) (f.ya n) (by rw[Z4 _ _ K,Z4 _ _ (by omega)];omega) ((List.nodup_cons.mp j).2.sublist (VX us n)) λb e=>.inl ((VX us n).subset e);exact hn _ Z F2 _ kk M (d.ff.trans m2.ff)⟩
end
end Fz
namespace L2
variable{pl:Sem Bool}
def Br(P:Program)(w:World)(K:ZKG)(mg:ZKI)(Zy:Heap)(C:Addr)(m:Str)(k:Nat)(ps:List Str)(sp:Sp):Prop:=
 ∃f fd,Dm P w K mg Zy GH k f fd ps sp/\Binds K fd ps []/\Meth K C m f/\C3 K C
def WR(P:Program)(w:World)(K:ZKG)(mg:ZKI)(Zy:Heap)(C:Addr)(k:Nat)(ps:List Str)(sp:Sp):Prop:=
 ∃f fd,Dm P w K mg Zy GH k f fd ps sp/\Binds K fd ps []/\Mk K C f
section
variable{X:Cx}{o e:Expr}{es:List Expr}{m x:Str}{C:Addr}{k j:Nat}{ps:List Str}{sp:Sp}{ta:TE}{t:TA}{apos pos p:Pos}
theorem GX(h:Br X.prog X.w X.K X.mg X.base C m k ps sp)(a:Bq j X.A)(g:k<=j)(i:QE X o ta)(l:QA X (e::es) t)
  (CV:starEach (e::es) X.env=(false,eval e X.env)::starEach es X.env:=by rfl) (Bh:(backTo pos (starEach es X.env)).any (·.1)=false:=by rfl)
  (ht:eval (.Call (.Attribute o m apos) (e::es) [] pos) X.env=(do
   let ov <- eval o X.env
   standAt apos.atName
   let (f,first) <- holding [ov] (getMethod ov m pl)
   callWith pos f first (backTo pos (starEach (e::es) X.env)) (backToKw pos (keywordEach [] X.env))):=by rfl) :
  QE X (.Call (.Attribute o m apos) (e::es) [] pos) (JB C m sp [] E0 ta t):=by
 obtain⟨f,fd,F,b,d,c⟩:=h;exact⟨ZC8 i.h c d (F.mono g) a b .nil Tz l.h CV Bh ht⟩
theorem LN(h:Br X.prog X.w X.K X.mg X.base C m k ps sp)(d:Bq j X.A)(g:k<=j)(i:QE X o ta)
  (a:eval (.Call (.Attribute o m apos) [] [] pos) X.env=(do
   let ov <- eval o X.env
   standAt apos.atName
   let (f,first) <- holding [ov] (getMethod ov m pl)
   callWith pos f first (backTo pos (starEach [] X.env)) (backToKw pos (keywordEach [] X.env))):=by rfl) :
  QE X (.Call (.Attribute o m apos) [] [] pos) (JB C m sp [] E0 ta B4):=by
 obtain⟨f,fd,F,b,e,c⟩:=h;exact⟨u3 i.h c e (F.mono g) d b .nil Tz a⟩
theorem ZBv(h:WR X.prog X.w X.K X.mg X.base C k ps sp)(a:Bq (j+1) X.A)(d:k<=j)(c:X.mg x=some (.ref C))(g:QA X (e::es) t)(hg:Gl X x:=by rfl)(DO:(x == ("__debug__":Str))=false:=by decide)
  (he:starEach (e::es) X.env=(false,eval e X.env)::starEach es X.env:=by rfl) (Bh:(backTo pos (starEach es X.env)).any (·.1)=false:=by rfl):QE X (.Call (.Name x p) (e::es) [] pos) (WT C sp [] E0 t):=by
 obtain⟨f,fd,F,b,M⟩:=h;exact⟨rW M (F.mono d) a hg c b .nil Tz g.h DO he Bh⟩
variable{prog:Program}{w:World}{A:Around}{E:Value->Shared->Prop}{s:Shared}
end
end L2
set_option maxHeartbeats 200000
set_option maxHeartbeats 4000000
namespace L2
def Fs(s:Stmt)(n:Nat):Stmt:=match s with
 | .ClassDef _ _ _ b ..=>b.getD n (.Pass ⟨0,0,0,0⟩)
 |s=>s
end L2
namespace Fz
open L2 Lw
@[reducible] def xwM (X:XK) (t:OV) (D:Ex->Prop):Xw:=⟨λ_=>X,λss=>ss[0]?=some (.ow true t),D⟩
variable{R:Ae}{AH ss:List Slot}
section
variable{pre:Qv}{H:Hp}
def b5(R:Ae)(AH:List Slot):Prop:=∃(k:PV->OV->Prop)(nk:NK)(a:Addr)(us:List OV),R=.mt k/\AH[0]?=some (.ow true (.nd nk a us))/\k .AG (.nd nk a us)
theorem b5.ok{E:Ent0}{Z:L2.St}{F:Hp}(h:b5 R AH)(S:Sg E AH Z F H):R.ok E F H .AG:=by
 obtain⟨k,g,a,us,rfl,j,i⟩:=h;obtain⟨f,e0,c,DY,d⟩:=S.ok 0 _ j;have l:f=.ref a:=by cases c;rfl
 subst l;exact⟨.AG,.nd g a us,.AG,c,DY,λb e=>⟨(d b e).1,(d b e).2.imp id λz=>z.2⟩,i⟩
end
section
variable[Xw]
variable{te tv:TE}{ta:TA}{i:Nat}{lt:Bool}{t:OV}{nx:List Slot->Prop}{K:ZKG}{f:Str}
theorem fB{pre:Pre}{C:Addr}{m:Str}{k:List PV->Prop}(h:Wp ss te λo=>∃ns xs,o=.obj C ns xs/\D4 ns m=none/\Wa ss ta λl=>∃k',pre (.is o::l) (.new k')/\∀p,k' p->k p):Wn ss (JB C m (Ag pre) [] E0 te ta) k:=⟨λE Z F H Q S q=>
 h.go E Z F H _ S λv o F1 H1 b g⟨ns,xs,w,j,h2⟩=>by
  subst w;cases g with
  |@obj a _ dx _ FP _ d x n e=>
   refine⟨a,dx,ns.zip FP,rfl,b.st.fh _ _ d,N2 j,h2.go E Z F1 H1 _ b.st λvs l F2 H2 m2 y⟨k',hp,kk⟩=>?_⟩;rw[FN];refine⟨.is (.obj C ns xs)::l,.new k',F2,[],hp,m2.st.PN (.cons (s:=.is _) (Rep.obj (m2.ff _ _ d) (m2.ff _ _ x) n (e.mono m2.ff)) y),λv F' H' f⟨a,i,c,u,t,h1,E9,r,kp⟩=>?_⟩;subst u;exact q a i c F' H' (b.trans (m2.trans (m2.st.back (λ_ h=>absurd h B2) f))) t (b.none (m2.none h1)) E9 r (kk c kp)⟩
end
end Fz
namespace L2
section
variable{prog:Program}{w:World}{A:Around}{E:Value->Shared->Prop}{s:Shared}
theorem fe:typeLookup (.type "dict") "__len__"=pure (some (.builtin "dict.__len__")):=by rw[ZAV,zC];kernel_rfl
theorem tf{S:Addr}{A6:List (Key×Value)}{n:Nat}{Q:List Value->Shared->Prop}(hh:A.handled=none)(G2:(S == sysModules)=false)(d:s.heap.DictOf (C9 prog w) S A6)(q:A6.length=n)(hn:n<=sizeLine)
  (h:∀(s':Shared)(vs:List Value),(∀b o,s.heap.get? b=some o->s'.heap.get? b=some o)->s.heap.objs.size<=s'.heap.objs.size->s'.gens=s.gens->s'.os=s.os->vs.length=n->(∀(i:Nat)v,vs[i]?=some v->∃k x,A6[i]?=some (k,x)/\(C9 prog w).is k v=true)->Q vs s') :
  wpAny (model prog w) A (collect (.ref S)) Q E s:=by
 obtain⟨ep,d⟩:=d.dictAt;have H:S<s.heap.objs.size:=d.lt_size;have u:s.heap.objs.size≠S:=Ks H;unfold collect;refine pk (ZBJ (yQ F.entry_proto_collect ?_));rw[NX F.plain_proto_collect _];show wpAny _ A.in1 (newList [] >>= λl=>again (.builtin "list.__iadd__" ⟨[l,.ref S],[]⟩)) _ _ s;refine pk (ue ?_);refine qL ⟨ZAE b8 _,yQ F.entry_list_iadd ?_⟩;rw[NX b8 _];generalize r:({ cls:=.type "list", data:=.seq ([]:List Value).toArray }:Obj)=so;have g:(s.heap.push so).DictAt (C9 prog w) S A6 ep:=d.push _;have O:(s.heap.push so).get? s.heap.objs.size=some so:=BZ _ (by rw[<- r];rfl);have sz:(s.heap.push so).objs.size=s.heap.objs.size+1:=EH ..;have G:Shared.TypeIs { s with heap:=s.heap.push so } (.ref S) "dict" := g.dictOf.typeIs
 have h1:Builtin.List.listSameRef (.ref s.heap.objs.size) (.ref S)=false:=by simp[Builtin.List.listSameRef,u]
 show wpAny _ A.in1 (Builtin.List.listExtendWith (.ref s.heap.objs.size) (.ref S) (.ref s.heap.objs.size)) _ _ { s with heap:=s.heap.push so }
 unfold Builtin.List.listExtendWith;refine pk (zU G ?_);rw[tJ (by rw[h1];decide)];refine pk (ZBS (s:={ s with heap:=s.heap.push so }) G2 g ?_)
 dsimp only;generalize f:({ cls:=.type "dict_keyiterator", data:=.fields #[.ref S,.int 0 0,.int A6.length 0,.int ep 0] }:Obj)=io;have kp:∀b o,(s.heap.push so).get? b=some o->((s.heap.push so).push io).get? b=some o:=λb o e=>BF _ e;have P:S≠(s.heap.push so).objs.size:=by rw[sz];exact BP (J6 H)
 have W:∀A2:Around,A2.handled=none->Walks prog w A2 (s.heap.push so).objs.size [(s.heap.push so).objs.size,S] [(s.heap.push so).objs.size] A6.length _ _:=λA2 h2=>bY (knd:=C9 prog w) h2 (s.heap.push so).objs.size S P A6 ep;have y:((s.heap.push so).push io).IsKeyIter (s.heap.push so).objs.size S 0 A6.length ep/\((s.heap.push so).push io).DictAt (C9 prog w) S A6 ep:=⟨⟨io,BZ _ (by rw[<- f];rfl),by rw[<- f],by rw[<- f];rfl⟩,g.push _⟩;have D:s.heap.objs.size∉[(s.heap.push so).objs.size,S]:=λc=>by
  simp only[EI,B2,ZAf]at c;rcases c with z|z
  .rw[sz]at z;omega
  .exact u z
 generalize R:(s.heap.push so).push io=h2 at kp y ⊢;have j:Shared.TypeIs { s with heap:=h2 } (.ref S) "dict" := by obtain⟨o,ho,N⟩:=G;exact⟨o,kp _ _ ho,N⟩
 refine pk (xf ?_);unfold Builtin.List.listLengthHint;refine pk (ZAI j fe ?_);generalize B:("dict.__len__":String)=LB
 wp_delta
 rw[show splitId LB=some ("dict","__len__")from by subst B;decide +kernel];subst B;refine pk (ZA7 (b:=true) j (by rw[za];kernel_rfl) ?_);rw[tJ (by decide)];refine ZAU (λ_=>?_) (λDc=>absurd (by decide +kernel) Dc);refine pk (zU j ?_);refine qL ?_;refine ZAU (λ_=>?_) (λDc=>absurd (by decide +kernel) Dc);refine pk (ZB2 ?_);refine pk ?_;show wpAny _ _ (updateSeq s.heap.objs.size (·.push .none) >>= λ_=>updateSeq s.heap.objs.size (·.pop)) _ _ _
 have K:(#[]:Array Value).size<=sizeLine:=CF _;have m:((#[]:Array Value).push Value.none).size<=sizeLine:=by show 1<=sizeLine;decide
 have J:((#[]:Array Value).push Value.none).size<=sizeLine+1:=Ua m;have I:(((#[]:Array Value).push Value.none).pop).size<=sizeLine+1:=CF _;have t:=kp _ _ O;subst r;refine pk (ZA0 (s:={ s with heap:=h2 }) t rfl ?_ K J)
 have p:=G9 (Obj.mapSeq (·.push Value.none)) t rfl
 refine ZA0 p rfl ?_ m I;have L:=G9 (Obj.mapSeq (·.pop)) p rfl
 have C:∀b o,b≠s.heap.objs.size->h2.get? b=some o->((h2.update s.heap.objs.size (Obj.mapSeq (·.push Value.none))).update s.heap.objs.size (Obj.mapSeq (·.pop))).get? b=some o:=
  λb o a e=>(HJ _ _ (BW a)).trans ((HJ _ _ (BW a)).trans e)
 refine qL ⟨ZAE p8 _,ZAj (W A.in1 hh).toS (q▸hn) _ D _ A6.length 0 _ #[] _ rfl (CF _) ?_ L (bA _) λs' DN T c Cd B6=>?_⟩
 .exact(W A.in1 hh).frame 0 h2 _ y λb a o e=>C b o (λz=>D (z▸a)) e
 .show wpAny _ A (load s.heap.objs.size >>= _) _ _ s';refine pk (ZB9 Cd ?_);refine qL ?_;refine h s' DN.toList (λb o e=>?_) (J5 (BD Cd)) c.gens c.os (by rw[HI,B6.1];exact q) λi v M=>B6.2 i v (by rw[<- QD];exact M);have a:b<s.heap.objs.size:=BD e;refine c.heap b o ?_ (C b o (BP a) (kp b o (BF _ e)));simp only[EI,B2,ZAf,not_or];refine⟨BP a,?_⟩;rw[sz];exact BP (J6 a)
end
theorem o4{prog:Program}{w:World}:∀{ns:List Str}{A6:List (Key×Value)}{vs:List Value},A6.map (·.1)=ns.map Sum.inr->vs.length=A6.length->(∀(i:Nat)v,vs[i]?=some v->∃k x,A6[i]?=some (k,x)/\(C9 prog w).is k v=true)->StrsAre vs ns
 | [],[],[],_,_,_=>.nil
 | [],[],_::_,_,h,_=>by simp at h
 | [],_::_,_,h,_,_=>by simp at h
 |_::_,[],_,h,_,_=>by simp at h
 |_::_,_::_,[],_,h,_=>by simp at h
 |n::ns,kv::A6,v::vs,e,hl,h=>by
  rw[Bu,Bu]at e;injection e with e1 e2
  obtain⟨k,x,c,b⟩:=h 0 v rfl;have d:kv=(k,x):=by simpa using c
  subst d;have f:k=Sum.inr n:=e1;subst f;rcases Gj (show Jc (Sum.inr n) v=true from b)with⟨i,t,z,_⟩|⟨y,t,z,rfl⟩
  .cases z
  .cases z;exact .cons n t (o4 e2 (by simpa using hl) λi v a=>h (i+1) v a)
theorem StrsAre.wJ{vs:List Value}{ns:List Str}(h:StrsAre vs ns):vs.length=ns.length:=by induction h with|nil=>rfl|cons y t h a=>simp[a]
section
variable{X:Cx}
def VF:List V->Hp->VK->Prop:=λxs H Q=>∃(p:Addr)(A6:List (Key×V))(ns:List Str),xs=[.ref p]/\Rd H p (.dK A6)/\A6.map (·.1)=ns.map Sum.inr/\ns.length<64/\∀(l:Addr)(AH:List Str),H l=none->AH.Perm ns->sortedS AH=true->Q (.ref l) (upd H l (.lst (AH.map V.str)))
theorem R3(n:X.calm=true):D1 X (.builtin "sorted") VF:=by
 intro Zh s Z H xs us Q I r h;obtain⟨p,A6,ns,rfl,v,j,C8,q⟩:=h;obtain⟨u,rfl,f⟩:=vals1 r;cases f;obtain⟨g,G2,FP,rel,t⟩:=IP I.AQ v;have hh:X.A.handled=none:=I.ok.hd n;have x:FP.map (·.1)=ns.map Sum.inr:=rel.keys.symm.trans j
 refine Uk (Pc:=λvs s1=>(∀b o,s.heap.get? b=some o->s1.heap.get? b=some o)/\s.heap.objs.size<=s1.heap.objs.size/\s1.gens=s.gens/\s1.os=s.os/\StrsAre vs ns) (λA1 E1 Q1 w k=>?_) ?_
 .exact tf (w.trans hh) G2 t rfl (by rw[<- rel.length];exact g) λs' vs a1 a2 d c a y=>k vs s' ⟨a1,a2,d,c,o4 x a y⟩
 .rintro vs s1⟨a1,a2,d,c,a⟩;refine⟨by rw[StrsAre.wJ a];exact C8,ns,a,λout AH e h' kp m Cd hp hs=>?_⟩;exact Zg I d c a1 a2 kp m Cd (by rw[hp.length_eq];exact C8) λl i=>q l AH i hp hs
end
end L2
namespace Fz
open L2 Lw
theorem Sa:∀{ks:List Key}{vs:List V},ks.length=vs.length->(ks.zip vs).map (·.1)=ks
 | [],[],_=>rfl
 | [],_::_,h=>by simp at h
 |_::_,[],h=>by simp at h
 |k::ks,v::vs,h=>by
  rw[Gd,Bu,Sa (by simpa using h)]
section
variable[Xw]
variable{E:Ent0}{ss:List Slot}{Z:L2.St}{F H F' H':Hp}{K:ZKG}{i:Nat}{t:OV}{ta tb te:TE}{nx:List Slot->Prop}{R:Ae}
theorem lZ{k:List PV->Prop}(h:Wp ss te λp=>∃(xs:List PV)(ns:List Str),p=.B0 (ns.map Sum.inr) xs/\ns.length<64/\∀BC:List Str,BC.Perm ns->sortedS BC=true->k (BC.map PV.str)):Wn ss (DA VF (AX te B4)) k:=⟨λE Z F H Q S q=>
 h.go E Z F H _ S λv p F1 H1 b c AO=>by
  obtain⟨xs,ns,e,d,kk⟩:=AO;subst e;cases c with
  |@B0 a _ vs _ g f i=>
   refine⟨a,_,ns,rfl,.inl (b.st.fh _ _ g),Sa f,d,λl BC ER hp hs=>?_⟩;have m2:=b.st.make ER (.lst (BC.map V.str));exact q l _ _ F1 _ (b.trans m2) (b.st.Bd ER) (b.none ER) AJ (Kk BC) (kk BC hp hs)⟩
end
end Fz
namespace L2
section
variable{prog:Program}{w:World}{A:Around}{s:Shared}{R:Result->Shared->Prop}
theorem ZHw{L S:Addr}{N:Nat}{res:Value}{A6:List (Key×Value)}{n:Nat}(hh:A.handled=none)(G2:(S == sysModules)=false)(l:s.heap.get? L=some { cls:=.type "list", data:=.seq #[] N })(hS0:s.heap.DictOf (C9 prog w) S A6)(en:A6.length=n)(hn:n<=sizeLine)
  (h:∀(s':Shared)(vs:List Value)(d:Nat),(∀b o,b≠L->s.heap.get? b=some o->s'.heap.get? b=some o)->L<s'.heap.objs.size->s'.gens=s.gens->s'.os=s.os->s'.heap.get? L=some { cls:=.type "list", data:=.seq vs.toArray d }->vs.length=n->(∀(i:Nat)v,vs[i]?=some v->∃k x,A6[i]?=some (k,x)/\(C9 prog w).is k v=true)->R (.ok (.ret res)) s') :
  wpAny (model prog w) A.in1 (Builtin.List.listExtendWith (.ref L) (.ref S) res)
   (λm s'=>match m with | .done f=>R (.ok f) s' | .again d=>d.quiet=true/\codeAny (model prog w) A d R s') (λe s'=>R (.error e) s') s:=by
 obtain⟨ep,g⟩:=hS0.dictAt;have Q:S<s.heap.objs.size:=g.lt_size;have B:L≠S:=λz=>by
  subst z;obtain⟨o,ho,j⟩:=g.dictOf.typeIs;rw[l]at ho;cases ho;exact absurd j (by show ¬ Value.type "list"=Value.type "dict"; decide)
 have G:Shared.TypeIs s (.ref S) "dict" := g.dictOf.typeIs;have h1:Builtin.List.listSameRef (.ref L) (.ref S)=false:=by simp[Builtin.List.listSameRef,B]
 unfold Builtin.List.listExtendWith;refine pk (zU G ?_);rw[tJ (by rw[h1];decide)];refine pk (ZBS (s:=s) G2 g ?_);dsimp only;generalize p:({ cls:=.type "dict_keyiterator", data:=.fields #[.ref S,.int 0 0,.int A6.length 0,.int ep 0] }:Obj)=io;have kp:∀b o,s.heap.get? b=some o->(s.heap.push io).get? b=some o:=λb o e=>BF _ e;have P:S≠s.heap.objs.size:=BP Q;have W:∀A2:Around,A2.handled=none->Walks prog w A2 s.heap.objs.size [s.heap.objs.size,S] [s.heap.objs.size] A6.length _ _:=λA2 h2=>bY (knd:=C9 prog w) h2 s.heap.objs.size S P A6 ep;have C:(s.heap.push io).IsKeyIter s.heap.objs.size S 0 A6.length ep/\(s.heap.push io).DictAt (C9 prog w) S A6 ep:=⟨⟨io,BZ _ (by rw[<- p];rfl),by rw[<- p],by rw[<- p];rfl⟩,g.push _⟩;have F:L∉[s.heap.objs.size,S]:=λc=>by
  simp only[EI,B2,ZAf]at c;rcases c with z|z
  .have q:L<s.heap.objs.size:=BD l;rw[z]at q;exact M6 _ q
  .exact B z
 generalize T:s.heap.push io=h2 at kp C ⊢;have r:Shared.TypeIs { s with heap:=h2 } (.ref S) "dict" := by obtain⟨o,ho,j⟩:=G;exact⟨o,kp _ _ ho,j⟩
 refine pk (xf ?_);unfold Builtin.List.listLengthHint;refine pk (ZAI r fe ?_);generalize D:("dict.__len__":String)=LB
 wp_delta
 rw[show splitId LB=some ("dict","__len__")from by subst D;decide +kernel];subst D;refine pk (ZA7 (b:=true) r (by rw[za];kernel_rfl) ?_);rw[tJ (by decide)];refine ZAU (λ_=>?_) (λDc=>absurd (by decide +kernel) Dc);refine pk (zU r ?_);refine qL ?_;refine ZAU (λ_=>?_) (λDc=>absurd (by decide +kernel) Dc);refine pk (ZB2 ?_);refine pk ?_;show wpAny _ _ (updateSeq L (·.push .none) >>= λ_=>updateSeq L (·.pop)) _ _ _
 have J:(#[]:Array Value).size<=sizeLine:=CF _;have t:((#[]:Array Value).push Value.none).size<=sizeLine:=by show 1<=sizeLine;decide
 have I:((#[]:Array Value).push Value.none).size<=sizeLine+1:=Ua t;have H:(((#[]:Array Value).push Value.none).pop).size<=sizeLine+1:=CF _;have y:=kp _ _ l;refine pk (ZA0 (s:={ s with heap:=h2 }) y rfl ?_ J I)
 have u:=G9 (Obj.mapSeq (·.push Value.none)) y rfl
 refine ZA0 u rfl ?_ t H;have K:=G9 (Obj.mapSeq (·.pop)) u rfl
 have E:∀b o,b≠L->h2.get? b=some o->((h2.update L (Obj.mapSeq (·.push Value.none))).update L (Obj.mapSeq (·.pop))).get? b=some o:=
  λb o a e=>(HJ _ _ (BW a)).trans ((HJ _ _ (BW a)).trans e)
 refine qL ⟨ZAE p8 _,ZAj (W A.in1 hh).toS (en▸hn) _ F _ A6.length 0 _ #[] _ rfl (CF _) ?_ K (bA _) λs' DN d c Cd B6=>?_⟩
 .exact(W A.in1 hh).frame 0 h2 _ C λb a o e=>E b o (λz=>F (z▸a)) e
 .have hsz:L<s'.heap.objs.size:=BD Cd;refine h s' DN.toList d (λb o a e=>?_) hsz c.gens c.os Cd (by rw[HI,B6.1];exact en) λi v M=>B6.2 i v (by rw[<- QD];exact M);have O:b<s.heap.objs.size:=BD e;refine c.heap b o ?_ (E b o a (kp b o e));simp only[EI,B2,ZAf,not_or];exact⟨a,BP O⟩
end
theorem jF{prog:Program}{w:World}:∀{ks:List Key}{A6:List (Key×Value)}{vs:List Value},A6.map (·.1)=ks->vs.length=A6.length->(∀(i:Nat)v,vs[i]?=some v->∃k x,A6[i]?=some (k,x)/\(C9 prog w).is k v=true)->Vals (ks.map kV) vs
 | [],[],[],_,_,_=>.nil
 | [],[],_::_,_,h,_=>by simp at h
 | [],_::_,_,h,_,_=>by simp at h
 |_::_,[],_,h,_,_=>by simp at h
 |_::_,_::_,[],_,h,_=>by simp at h
 |n::ns,kv::A6,v::vs,e,hl,h=>by
  rw[Bu]at e;injection e with e1 e2
  obtain⟨k,x,c,b⟩:=h 0 v rfl;have d:kv=(k,x):=by simpa using c
  subst d;have f:k=n:=e1;subst f;refine .cons ?_ (jF e2 (by simpa using hl) λi v a=>h (i+1) v a)
  rcases Gj (show Jc k v=true from b)with⟨i,t,rfl,rfl⟩|⟨y,t,rfl,rfl⟩
  .exact⟨t,rfl⟩
  .exact⟨t,rfl⟩
section
variable{X:Cx}
def dF:List V->Hp->VK->Prop:=λxs H Q=>∃(p:Addr)(A6:List (Key×V)),xs=[.ref p]/\Rd H p (.dK A6)/\A6.length<=1000/\∀l:Addr,H l=none->Q (.ref l) (upd H l (.lst ((A6.map (·.1)).map kV)))
theorem lx(v:X.calm=true):D1 X (.type "list") dF:=by
 intro Zh s Z H xs us Q I r h;obtain⟨p,A6,rfl,x,J,q⟩:=h;obtain⟨u,rfl,n⟩:=vals1 r;cases n;obtain⟨f,G2,FP,rel,g⟩:=IP I.AQ x;have hh:X.A.handled=none:=I.ok.hd v;have E:p<s.heap.objs.size:=by obtain⟨ep,h2⟩:=g.dictAt;exact h2.lt_size
 have K:p≠s.heap.objs.size:=BP E;refine callType_codes (Q₁:=λobj d=>obj=.ref s.heap.objs.size/\d={ s with heap:=s.heap.push { cls:=.type "list", data:=.seq #[] } }) F.called_list (F.typeCall_list_1 _) F.entry_list_init
  (code_list_new _ ⟨rfl,rfl⟩) λobj d t=>?_
 obtain⟨rfl,rfl⟩:=t;have c:(s.heap.push { cls:=.type "list", data:=.seq #[] }).get? s.heap.objs.size=some { cls:=.type "list", data:=.seq #[] }:=BZ _ rfl;refine⟨⟨_,c,rfl⟩,F.args_list_init_2 _ _,?_⟩;show wpAny _ X.A.in1.in1 (do let old <- Builtin.List.listItems (.ref s.heap.objs.size);Builtin.List.listUpdate (.ref s.heap.objs.size) (λ_=>#[]);letGo old.toList.reverse;Builtin.List.listExtendWith (.ref s.heap.objs.size) (.ref p) .none) _ _ _
 refine pk ?_;unfold Builtin.List.listItems;refine pk (ZBB c rfl (qL ?_));show wpAny _ X.A.in1.in1 (updateSeq s.heap.objs.size (λ_=>#[]) >>= λ_=>letGo (#[]:Array Value).toList.reverse >>= λ_=>Builtin.List.listExtendWith (.ref s.heap.objs.size) (.ref p) .none) _ _ _;refine pk (ZA0 c rfl ?_);have D:=G9 (Obj.mapSeq (λ_=>(#[]:Array Value))) c rfl;have old:∀b o,s.heap.get? b=some o->((s.heap.push { cls:=.type "list", data:=.seq #[] }).update s.heap.objs.size (Obj.mapSeq (λ_=>(#[]:Array Value)))).get? b=some o:=λb o e=>
  (HJ _ _ (Ks (BD e))).trans (BF _ e)
 have m:((s.heap.push { cls:=.type "list", data:=.seq #[] }).update s.heap.objs.size (Obj.mapSeq (λ_=>(#[]:Array Value)))).DictOf (C9 X.prog X.w) p FP:=by
  obtain⟨o,es,ep,ho,rest⟩:=g;exact⟨o,es,ep,old _ _ ho,rest⟩
 refine pk (wpAny_letGo ?_);refine ZHw (A:=X.A.in1) hh G2 D m rfl (by rw[<- rel.length];exact f) λs' vs z a1 a2 k j i C B=>?_;have l:Vals ((A6.map (·.1)).map kV) vs:=by
  rw[rel.keys];exact jF rfl C B
 refine⟨rfl,?_⟩;obtain⟨h1,g1,y,t1,G⟩:=s';simp only at a1 a2 k j i;subst k;subst j;refine⟨.ref _,_,(I.drew y).laid (a:=s.heap.objs.size) (h':=h1) (t':=t1) (o:=.lst ((A6.map (·.1)).map kV)) (λb o e=>a1 b o (BP (BD e)) (old b o e)) (Am _) ?_,rfl,q _ (I.AQ.fresh (Am _))⟩
 exact⟨by rw[AS,AS];exact f,vs,z,l,i⟩
def cH:List V->Hp->VK->Prop:=λxs H Q=>∃(p:Addr)(A6:List (Key×V)),xs=[.ref p]/\Rd H p (.dK A6)/\Q (.int A6.length) H
theorem rb:D1 X (.builtin "len") cH:=by
 intro Zh s Z H xs us Q I r h;obtain⟨p,A6,rfl,b,q⟩:=h;obtain⟨u,rfl,a⟩:=vals1 r;cases a;exact ZAJ I b λt s' I'=>⟨.int A6.length,H,I',⟨t,rfl⟩,q⟩
variable{i o:Expr}{ty td:TE}{pos:Pos}
theorem z4(hu:X.A.units+1<cLine)(hi:QE X i ty)(ho:QE X o td)(a:behindInMarks .In o=false:=by with_unfolding_all rfl):QT X (.Compare i [.In] [o] pos) (tB (ZQ ty td)):=⟨o8 (ZAv hu hi.h ho.h) a⟩
theorem zt(hu:X.A.units+1<cLine)(hi:QE X i ty)(ho:QE X o td)(a:behindInMarks .NotIn o=false:=by with_unfolding_all rfl):QT X (.Compare i [.NotIn] [o] pos) (tB (WU ty td)):=⟨o8 (ZAw hu hi.h ho.h) a⟩
end
end L2
namespace Fz
open L2 Lw
theorem XI{F:Hp}:∀ks:List Key,Aa F (ks.map kV) (ks.map Iu)
 | []=>.nil
 | .inl i::ks=>.cons (.int i) (XI ks)
 | .inr x::ks=>.cons (.str x) (XI ks)
section
variable[Xw]
variable{E:Ent0}{ss:List Slot}{Z:L2.St}{F H F' H':Hp}{K:ZKG}{i:Nat}{t:OV}{ta tb tc te:TE}{nx:List Slot->Prop}{R:Ae}
theorem ZAY{k:PV->Prop}(h:Wl ss i t te λ_ u=>∃(ks:List Key)(a:Addr)(us:List OV),u=.nd (.B0 ks) a us/\k (.int ks.length)):Wp ss (DA cH (AX te B4)) k:=⟨λE Z F H Q S q=>
 h.go E Z F H _ S λv p u F1 H1 b r Bt AO=>by
  obtain⟨ks,a,us,e,kk⟩:=AO;subst e;obtain⟨vs,rfl,c,g,d,j⟩:=r.inv;have f:ks.length=vs.length:=d;refine⟨a,_,rfl,.inl c,?_⟩;rw[QM,<- f,bT];exact q _ _ F1 H1 b (.int _) kk⟩
theorem lC{k:List PV->Prop}(h:Wl ss i t te λ_ u=>∃(ks:List Key)(a:Addr)(us:List OV),u=.nd (.B0 ks) a us/\ks.length<=1000/\k (ks.map Iu)):Wn ss (DA dF (AX te B4)) k:=⟨λE Z F H Q S q=>
 h.go E Z F H _ S λv p u F1 H1 b r Bt AO=>by
  obtain⟨ks,a,us,e,j,kk⟩:=AO;subst e;obtain⟨vs,rfl,c,f,d,g⟩:=r.inv;refine⟨a,_,rfl,.inl c,by rw[QM];omega,λl ER=>?_⟩;rw[Sa d];have m2:=b.st.make ER (.lst (ks.map kV));exact q l _ _ F1 _ (b.trans m2) (b.st.Bd ER) (b.none ER) AJ (XI ks) kk⟩
theorem di{k:List PV->Prop}(h:Wl ss i t te λ_ u=>∃(ns:List Str)(a:Addr)(us:List OV),u=.nd (.B0 (ns.map Sum.inr)) a us/\ns.length<64/\∀BC:List Str,BC.Perm ns->sortedS BC=true->k (BC.map PV.str)):Wn ss (DA VF (AX te B4)) k:=⟨λE Z F H Q S q=>
 h.go E Z F H _ S λv p u F1 H1 b r Bt AO=>by
  obtain⟨ns,a,us,f,c,kk⟩:=AO;subst f;obtain⟨vs,rfl,d,g,e,j⟩:=r.inv;refine⟨a,_,ns,rfl,.inl d,Sa e,c,λl BC ER hp hs=>?_⟩;have m2:=b.st.make ER (.lst (BC.map V.str));exact q l _ _ F1 _ (b.trans m2) (b.st.Bd ER) (b.none ER) AJ (Kk BC) (kk BC hp hs)⟩
end
end Fz
namespace L2
variable{w:World}{H H2:Hp}{a b it:Addr}{X:Cx}{Zh:ZKH}{s s2:Shared}{r x:Value}{A6:List (Key×V)}{A:Around}{E:Value->Shared->Prop}{o:Obj}{ep i tk:Nat}{e tg:Expr}{tn:Nat->Heap->Prop}
section
variable{prog:Program}
variable{z TI TO i1 i2 l1 l2:Addr}{k:Nat}{t1 t2:Bool}{xs ys:Array Value}{y a b:Value}
variable{Z:St}
theorem Inv.swap{a:Addr}{u0 f:HO}(I:Inv X Zh Z H s)(d:H a=some u0)(h:∀x,u0≠.own x)(g:∀xs,u0≠.tup xs)(n1:∀o u,X.H₀ a≠some (.Ct o u))(j:∀xs,X.H₀ a≠some (.tup xs))(i:∀ps,X.H₀ a≠some (.JQ ps))
  (new:CC X.prog X.w H s.heap a f):Inv X Zh Z (upd H a f) s:=by
 have tr:∀b,b≠a->upd H a f b=H b:=λb k=>Ah k;have own:∀b x,H b=some (.own x)->upd H a f b=some (.own x):=λb x e=>by
  rw[tr b (by rintro rfl;rw[d]at e;exact h x (by injection e))];exact e
 have tup:∀b xs,H b=some (.tup xs)->upd H a f b=some (.tup xs):=λb xs e=>by
  rw[tr b (by rintro rfl;rw[d]at e;exact g xs (by injection e))];exact e
 refine⟨I.ok,I.os,I.bare,⟨I.base.keep,I.base.slot,λb o q n hx=>?_,I.base.there,λb xs q=>?_,λb o u q=>?_,λb ps q=>?_⟩,I.loc,I.cell,?_,λy c q=>?_,λp hp=>?_,λb o q=>?_,I.len⟩
 .have z:=I.base.free b o q n hx;rw[tr b (by rintro rfl;rw[d]at z;cases z)];exact z
 .rw[tr b (by rintro rfl;exact j xs q)];exact I.base.Iy b xs q
 .rw[tr b (by rintro rfl;exact n1 o u q)];exact I.base.HS b o u q
 .rw[tr b (by rintro rfl;exact i ps q)];exact I.base.Iw b ps q
 .have z:=I.free;rw[tr _ (by rintro e;rw[e,d]at z;cases z)];exact z
 .have z:=I.Hn y c q;rw[tr _ (by rintro rfl;rw[d]at z;cases z)];exact z
 .obtain⟨h1,h2,l⟩:=I.pin p hp;exact⟨h1,by rw[tr _ (by rintro e;rw[e,d]at h2;cases h2)];exact h2,l⟩
 .by_cases z:b=a
  .subst z;rw[AJ]at q;cases q;exact new.J8 (λ_ _ _ e=>e) (λc e=>own c _ e) tup
  .rw[tr b z]at q;exact(I.AQ b o q).J8 (λ_ _ _ e=>e) (λc e=>own c _ e) tup
def de(X:Cx)(a:Addr):Prop:=(∀o u,X.H₀ a≠some (.Ct o u))/\(∀xs,X.H₀ a≠some (.tup xs))/\∀ps,X.H₀ a≠some (.JQ ps)
theorem Inv.iP{a:Addr}(I:Inv X Zh Z H s)(b:H a=some (.dK A6)):de X a:=by
 refine⟨λo u e=>?_,λxs e=>?_,λps e=>?_⟩
 .have:=I.base.HS a o u e;rw[b]at this;cases this
 .have:=I.base.Iy a xs e;rw[b]at this;cases this
 .obtain⟨m,z⟩:=I.base.Iw a ps e;rw[b]at z;cases z
theorem Inv.held{a:Addr}(I:Inv X Zh Z H s)(b:H a=some (.dK A6)):∃o es ep,s.heap.get? a=some o/\o.data=.dict es ep/\Inv X Zh Z (upd H a (.Ct o (.dK A6))) s:=by
 obtain⟨z,y,vs,r,ob,es,ep,e,c,d,rest⟩:=I.AQ a _ b;have m:=I.iP b;exact⟨ob,es,ep,e,d,I.swap b (λ_ z=>by cases z) (λ_ z=>by cases z) m.1 m.2.1 m.2.2 ⟨e,z,y,vs,r,ob,es,ep,e,c,d,rest⟩⟩
theorem Inv.ZCz{a:Addr}{u:HO}(I:Inv X Zh Z H s)(m:de X a)(b:H a=some (.Ct o u)):Inv X Zh Z (upd H a u) s:=
 I.swap b (λ_ z=>by cases z) (λ_ z=>by cases z) m.1 m.2.1 m.2.2 (I.AQ a _ b).2
end
def la(a:Addr)(o:Obj)(A6:List (Key×V)):It:=⟨λi H=>H a=some (.Ct o (.dK A6))/\i<A6.length,λi H x H'=>H'=H/\∃k v,A6[i]?=some (k,v)/\x=kV k,λi H=>H a=some (.Ct o (.dK A6))/\i=A6.length⟩
theorem KV.at{vs:List (Key×Value)}(r:KV A6 vs){k:Key}(h:vs[i]?=some (k,x)):∃v,A6[i]?=some (k,v):=by
 have e:=r.keys;have h1:(vs.map (·.1))[i]?=some k:=by rw[B1,h];rfl
 rw[<- e,B1]at h1;cases q:A6[i]? with
 |none=>rw[q]at h1;cases h1
 |some p=>
  rw[q]at h1;obtain⟨k',v⟩:=p;have:k'=k:=by simpa using h1
  subst this;exact⟨v,rfl⟩
theorem ZIH{P:Program}{K:ZKG}{es:Array DictEntry}(hd:o.data=.dict es ep)(Aj:a≠it):
  Turn P w K tg (la a o A6) [it] it (λi h=>h.IsKeyIter it a i A6.length ep) where
 mem:=by simp
 obj:=λi h st b f=>by
  have e:b=it:=by simpa using f
  subst e;obtain⟨o,e,c,d⟩:=st;exact⟨o,e,λv z=>by rw[d]at z;cases z⟩
 keep:=λi h h' st k=>let ⟨o,e,r⟩:=st;⟨o,k it (by simp) o e,r⟩
 item:=by
  intro X p hw q n i Zh s Z H E I m st hg;subst p hw q;obtain⟨f0,D,O,C,B,u⟩:=m it (by simp);obtain⟨e0,M,G2,vs,rel,ob,EE,IA,j,F,l,rest⟩:=I.AQ a _ hg.1;rw[e0]at j;cases j;rw[hd]at l;cases l;have g:=rel.length;refine(bY (knd:=C9 X.prog X.w) (I.ok.hd n) it a Aj vs ep).item i s _ _ (by rw[<- g];exact hg.2) ⟨by rw[<- g];exact st,o,es,e0,F,hd,rest⟩ λv h' tk⟨k,x,N,S⟩DI kp=>?_;obtain⟨J,G⟩:=rel.at N;have T:Inv X Zh Z H { s with heap:=h',toks:=tk }:=I.turned (t':=tk) (λb o f e=>kp b o (by simpa using f) e) f0 D C B u
  obtain⟨o',R,cl,d⟩:=id DI.1;have L:RelV (kV k) v:=by
   rcases Gj (show Jc k v=true from S)with⟨i,t,rfl,rfl⟩|⟨y,t,rfl,rfl⟩
   .exact⟨t,rfl⟩
   .exact⟨t,rfl⟩
  exact⟨_,rfl,Pn (s:={ s with heap:=h',toks:=tk }) R cl d (by decide) ⟨kV k,H,T,L,⟨rfl,k,J,G,rfl⟩,by rw[g];exact DI.1,λb f=>(m b f).1⟩⟩
 done:=by
  intro X p hw q n i Zh s Z H E I m st hg;subst p hw q;obtain⟨f0,D,O,C,B,u⟩:=m it (by simp);obtain⟨e0,M,G2,vs,rel,ob,EE,IA,j,F,l,rest⟩:=I.AQ a _ hg.1;rw[e0]at j;cases j;rw[hd]at l;cases l;have g:=rel.length;have hi:i=A6.length:=hg.2;subst hi;exact(bY (knd:=C9 X.prog X.w) (I.ok.hd n) it a Aj vs ep).done s _ _ ⟨by rw[<- g];exact st,o,es,e0,F,hd,rest⟩ λh' tk kp=>⟨rfl,I.turned (t':=tk) (λb o f e=>kp b o (by simpa using f) e) f0 D C B u⟩
 self:=λA i s Q E st h=>wpAny_pyIter_keyiter st h
def WW(tl:TE):TI:=λZ H R=>tl Z H λx H1=>∃a A6,x=.ref a/\H1 a=some (.dK A6)/\∀o,R (la a o A6) (upd H1 a (.Ct o (.dK A6)))
def Zt(t:TE):TE:=λZ H Q=>∃a A6,H a=some (.dK A6)/\t Z H λv H1=>∃o u,H1 a=some (.Ct o u)/\Q v (upd H1 a u)
section
variable{l:Expr}{tl t:TE}{st:Stmt}{ts:TS}
theorem uX(h:QE X l tl):QI X tg l (WW tl):=⟨by
 have k:=h.h;intro Zh s Z H R I h;refine AY (k Zh s Z H _ I h) λv s1⟨x,H1,I1,i,j⟩=>?_;obtain⟨a,A6,e,d,q⟩:=j;subst e;cases i;obtain⟨z,G2,vs,rel,n⟩:=IP I1.AQ (.inl d);obtain⟨o,es,ep,e0,hd,I2⟩:=I1.held d;have t:a<s1.heap.objs.size:=BD e0;have r:s1.heap.DictAt (C9 X.prog X.w) a vs ep:=by
  obtain⟨ob,EE,IA,f,p,g,rest⟩:=n;rw[e0]at f;cases f;rw[hd]at g;cases g;exact⟨o,es,e0,p,hd,rest⟩
 have c:∀b∈[s1.heap.objs.size],EN X Zh (upd H1 a (.Ct o (.dK A6))) b:=λb m=>by
  have e:b=s1.heap.objs.size:=by simpa using m
  subst e;exact I2.L1 (Am _) (I2.AQ.fresh (Am _))
 refine ZBS G2 r ?_;exact⟨s1.heap.objs.size,[s1.heap.objs.size],_,_,_,rfl,I2.kept (t':=s1.toks) λb o e=>BF _ e,ZIH hd (BP t),⟨_,BZ _ rfl,rfl,by rw[rel.length];rfl⟩,c,q o⟩⟩
theorem rL(h:QE X e t):QE X e (Zt t):=⟨by
 have h:=h.h;intro Zh s Z H Q I ⟨a,A6,c,q⟩;have m:=I.iP c;refine AY (h Zh s Z H _ I q) λv s'⟨x,H',I',r,o,u,e,b⟩=>?_;exact⟨x,_,I'.ZCz m e,r,b⟩⟩
end
end L2
namespace Fz
open L2 Lw
theorem iH{F H:Hp}:∀{vs:List V}{xs:List PV},BN F H vs (xs.map .fz)->Aa F vs xs
 |_,[],h=>by cases h;exact .nil
 |_,x::xs,h=>by
  obtain⟨_,_,rfl,a,b⟩:=h.inv;cases a with|fz r=>exact .cons r (iH b)
theorem Vi:∀{ks:List Key}{vs:List V}{n:Nat}{k:Key}{v:V},ks.Nodup->ks[n]?=some k->vs[n]?=some v->Dx (ks.zip vs) k=some v
 | [],_,_,_,_,_,h,_=>by simp at h
 |_::_,[],_,_,_,_,_,h=>by simp at h
 |k0::ks,v0::vs,0,k,v,_,h1,h2=>by
  have b:k0=k:=by simpa using h1
  have a:v0=v:=by simpa using h2
  subst b a;rw[Gd];exact Mz rfl
 |k0::ks,v0::vs,n+1,k,v,nd,h1,h2=>by
  rw[Gd,NP]
  .exact Vi (List.nodup_cons.mp nd).2 (by simpa using h1) (by simpa using h2)
  .rintro rfl;exact(List.nodup_cons.mp nd).1 (DR (by simpa using h1))
theorem nA:∀{ks:List Key}{vs:List V}{n:Nat}{k:Key}{v:V},(ks.zip vs)[n]?=some (k,v)->ks[n]?=some k/\vs[n]?=some v
 | [],_,_,_,_,h=>by simp at h
 |_::_,[],_,_,_,h=>by simp at h
 |k0::ks,v0::vs,0,k,v,h=>by
  rw[Gd]at h;have:(k0,v0)=(k,v):=by simpa using h
  cases this;exact⟨rfl,rfl⟩
 |k0::ks,v0::vs,n+1,k,v,h=>by
  rw[Gd]at h;have:=nA (ks:=ks) (vs:=vs) (n:=n) (k:=k) (v:=v) (by simpa using h)
  exact⟨by simpa using this.1,by simpa using this.2⟩
end Fz
namespace L2
variable{values vs:List Expr}{Fd:List (TE×TE)}
section
variable{X:Cx}{pos:Pos}
theorem ZA2:K7 X pos [] [] []:=xg
theorem XZ{k v:Expr}{ks:List (Option Expr)}{tk tv:TE}(c:QE X k tk)(a:QE X v tv)(b:K7 X pos ks vs Fd):K7 X pos (some k::ks) (v::vs) ((tk,tv)::Fd):=z6 c.h a.h b
theorem yS{keys:List (Option Expr)}(h:K7 X pos keys values Fd)(Kp:keys.all (·.isSome)=true)(i:keys.length=values.length)(k:keys≠[])(Rp:keys.length<=15):QE X (.Dict keys values pos) (Xp Fd):=⟨by
 intro Zh s Z H Q I q;have hn:=I.AQ.fresh (Am s.heap.objs.size);have l:=I.laid (a:=s.heap.objs.size) (o:=.dK []) (h':=s.heap.push { cls:=.type "dict", data:=.dict #[] }) (t':=s.toks) (λ_ _ q=>BF _ q) (Am _) (dA s.heap I.big);refine wpAny_Dict_walk (knd:=C9 X.prog X.w) Kp i k Rp (AY (h Zh _ Z _ _ l (q _ hn)) λws s2⟨ps,H2,I2,rel,e,A6,ep,m,f⟩=>?_);subst ep;obtain⟨rs,c,b⟩:=kg (P:=X.prog) (w:=X.w) rel;obtain⟨z,hd,FP,d,dd⟩:=Zf I2.AQ e;cases d;refine⟨rs,c,dd,λh' IS hs=>⟨.ref s.heap.objs.size,_,?_,rfl,f⟩⟩;have g:(KQ [] A6).length<=sizeLine:=by
  have h1:=ib A6 [];rw[UW]at h1;rw[ZBi];omega
 have j:∃q,h'.get? s.heap.objs.size=some q:=let ⟨q,_,_,hq,_⟩:=IS;⟨q,hq⟩;exact To I2 (by rw[e];exact True.intro) hs j (XM g hd (b.merge .nil) IS)⟩
end
theorem du:∀(more acc:List (Key×V)),((acc++more).map (·.1)).Nodup->KQ acc more=acc++more
 | [],acc,_=>by rw[FN];rfl
 |p::r,acc,h=>by
  show KQ (putK acc p.1 p.2) r=_;have hp:acc.any (λa=>decide (a.1=p.1))=false:=by
   rw[ZIj];intro q b e;have c:=tZ e;rw[CD,Bu,C6]at h;exact h.2.2 q.1 (List.mem_map.mpr ⟨q,b,rfl⟩) p.1 Cp c
  have e:putK acc p.1 p.2=acc++[p]:=by
   unfold putK;rw[hp];rfl
  rw[e,du r (acc++[p]) (by rw[Bj];exact h),Bj];rfl
end L2
namespace Fz
open L2 Lw
variable{ss:List Slot}{E:Ent0}{Z:L2.St}{F H:Hp}{C a p:Addr}{ta:TA}{Q:VK}{i n:Nat}{t w x y z:OV}{pre:Pre}
section
variable[Xw]
theorem ZDr{F1 H1:Hp}{o:HO}(S:Sg E ss Z F H)(m:Mv E ss Z F H F1 H1)(hp:H p=none)(c:F1 p=none):Mv E ss Z F H F1 (upd H1 p o):=
 S.step m.ff (λa u e=>by rw[Ah (by rintro rfl;rw[c]at e;cases e)];exact m.st.fh a u e)
  (λa u n e=>by rw[Ah (by rintro rfl;rw[hp]at e;cases e)];exact m.hh a u n e) m.nn
  λi l hi e=>Be.keep (m.st.EW hi e) λu d=>by
   rw[Ah (by
    rintro rfl;obtain⟨_,_,b,_⟩:=S.EW hi e;rw[hp]at b;cases b)]
   exact d
theorem zr{k:List Nat->OV->Prop}{E:Ent}(ks:List Str)(D:ks.Nodup)(Rp:ks.length<=15)(S:Sg E ss Z F H)(hp:H p=none)
  (h:Kw ss ta λm us=>us.length=ks.length/\∀l,k m (.nd (.B0 (ks.map Sum.inr)) l us))
  (q:∀v m u F' H',Mv E ss Z F H F' H'->B8 F' H' v u->u.addrs.Nodup->(∀a∈u.addrs,F' a=none/\E.H0 a=none/\((∃i∈m,∃s,s≠Slot.AD/\ss[i]?=some s/\BO s Z[i]? a)∨H a=none))->k m u->Q v H') :
  ta Z (upd H p (.dK [])) λvs H2=>H2 p=some (.dK [])/\∃A6:List (Key×V),List.zipWith (λs v=>(V.str s,v)) ks vs=A6.map (λg=>(kV g.1,g.2))/\A6.length<=15/\Q (.ref p) (upd H2 p (.dK (KQ [] A6))):=by
 have r:=S.make hp (.dK []);have y:F p=none:=S.Bd hp;refine h.go E Z F _ _ r.st λvs m us F1 H1 j n EY a1⟨C,kk⟩=>?_;have J:H1 p=some (.dK []):=j.hh p _ (S.Oh hp) AJ;have t:F1 p=none:=by
  cases e:F1 p with
  |none=>rfl
  |some o=>
   rcases j.nn p o e with z|z
   .rw[y]at z;cases z
   .rw[AJ]at z;cases z
 have B:vs.length=ks.length:=by rw[n.length,C]
 have I:List.zipWith (λs v=>(V.str s,v)) ks vs=((ks.map Sum.inr).zip vs:List (Key×V)).map (λg=>(kV g.1,g.2)):=by
  rw[List.zip_eq_zipWith,List.zipWith_map_left,List.map_zipWith];rfl
 refine⟨J,(ks.map Sum.inr).zip vs,I,by rw[QM,AS];omega,?_⟩;have A:((ks.map Sum.inr:List Key)).Nodup:=ZIi _ (λa b(h:a≠b)=>λz=>h (by injection z)) D;rw[du _ [] (by rw[bN,List.map_fst_zip (by rw[AS];omega)];exact A),bN];have mv:=ZDr (o:=.dK ((ks.map Sum.inr).zip vs)) S (r.trans j) hp t;have x:p∉OV.Ap us:=λd=>by
  rcases(a1 p d).2.2 with⟨i,_,s,_,hs,ow⟩|z
  .exact S.ET hs ow hp
  .rw[AJ]at z;cases z
 refine q _ m (.nd (.B0 (ks.map Sum.inr)) p us) F1 _ mv (.nd (k:=.B0 (ks.map Sum.inr)) (vs:=vs) AJ trivial (show(List.map Sum.inr ks:List Key).length=vs.length by rw[AS];exact B.symm) (n.mono (A9.refl _) λa d o e=>by rw[Ah (by rintro rfl;exact x d)];exact e)) ?_ (λa d=>?_) (kk p)
 .rw[OV.Dh];exact List.nodup_cons.mpr ⟨x,EY⟩
 .rw[OV.Dh]at d;rcases List.mem_cons.mp d with e|d
  .subst e;exact⟨t,S.EU hp,.inr hp⟩
  .obtain⟨f,G,w⟩:=a1 a d;exact⟨f,G,w.imp id λz=>by
    by_cases c:a=p
    .subst c;exact hp
    .rw[Ah c]at z;exact z⟩
theorem ZBF{k:List Nat->OV->Prop}{k1 k2 a:Str}{t1 t2 b:TE}(c:[k1,k2,a].Nodup)(h:Kw ss (AX t1 (AX t2 (AX b B4))) λm us=>us.length=3/\∀l,k m (.nd (.B0 [.inr k1,.inr k2,.inr a]) l us)):Wx ss (Xp [(tC (.str k1),t1),(tC (.str k2),t2),(tC (.str a),b)]) k:=⟨λE Z F H Q S q p hp=>
 zr (ta:=AX t1 (AX t2 (AX b B4))) [k1,k2,a] c (by show(_:Nat)+1<=15;simp) S hp h q⟩
variable{te:TE}
theorem mR{m:Str}{k:PV->Prop}(h:Wl ss i t te λ_ u=>∃dx ns a us,u=.nd (.obj C dx ns) a us/\D4 ns m=none/\Wb ss ta λps=>∃k',pre ((u.pv::ps).map .is) (.is k')/\∀p,k' p->EB p=true/\k p):Wp ss (JB C m (Ag pre) [] E0 te ta) k:=⟨λE Z F H Q S q=>
 h.go E Z F H _ S λv p u F1 H1 b d Bt⟨dx,ns,a,us,n,l,h2⟩=>by
  subst n;have w:=d;cases w with
  |@nd _ _ vs _ c x z y=>
   refine⟨a,dx,ns.zip vs,rfl,c,N2 l,h2.go E Z F1 H1 _ b.st λvs ps F2 H2 m2 g⟨k',hp,kk⟩=>?_⟩;rw[FN];have e:=d.mv b.st h.hi Bt m2;have s:Aa (BL F2 H2 (D0 ss Z)) (V.ref a::vs) (_::ps):=.cons (e.rep m2.st.Hm.1 λa c o ho=>by
    unfold BL;obtain⟨lt,hi⟩:=h.hi;rw[tU (U8 m2.st.len hi (by simp) (OV.Kj Bt a c))];exact ho) g
   refine⟨_,.is k',_,[],hp,m2.st.lend s,λv F' H' f⟨p,r,kp⟩=>?_⟩;obtain⟨mv,j⟩:=m2.st.XQ f;exact q v p _ H' (b.trans (m2.trans mv)) (r.sub j (kk p kp).1) (kk p kp).2⟩
end
theorem Ov{k:NK}:(OV.nd k a [x,y,z]).put [1] w=.nd k a [x,w,z]:=by rw[OV.K5 (x:=y) rfl,OV.Gq];rfl
theorem put2{k:NK}:(OV.nd k a [x,y,z]).put [2] w=.nd k a [x,y,w]:=by rw[OV.K5 (x:=z) rfl,OV.Gq];rfl
theorem SF{N:List Str}{vs:List V}{X:XK}{t:TS}(h:DB pre vs H Q X)(a:∀ss R,pre ss R->ss.length=n)
  (hw:∀ss R,pre ss R->Ws (ss++List.replicate (N.length - n) .any) t (b5 R) R):t { nx:=λ_ H'=>Q .AG H',rt:=Q } (L2.start N vs) H:=by
 obtain⟨ss,R,F,A,B,hp,S,q⟩:=h;have e:vs.length=n:=by have:=S.len;rw[AS]at this;rw[<- this];exact a ss R hp
 unfold L2.start;rw[e];exact(hw ss R hp).go (Ru ⟨A,F,H,B⟩) _ _ F H (S.grown _) (λAH σ' F' H' z S' _=>q .AG F' H' S'.toFin (z.ok S')) λv F' H' f ok=>q v F' H' f ok
end Fz
namespace Fz
open L2 Lw
variable{ss:List Slot}
noncomputable def OS:Slot->Slot
 | .own xs=>.is (.lst xs)
 | .ow _ t=>.is t.pv
 | .AD=>.any
 |s=>s
section
variable{E:Ent0}{Z:L2.St}{F H F' H':Hp}
theorem Sg.jX(S:Sg E ss Z F H):Sg (E3 [] (BL F H (D0 ss Z)) H) (ss.map OS) Z (BL F H (D0 ss Z)) H:=by
 have nn:∀{p:Prop}(a:Addr),a∈([]:List Addr)->p:=λa h=>absurd h B2;refine⟨⟨S.Hm.2,A9.refl _,λ_ _ _ e=>e,λ_ _ e=>.inl e,λa h=>nn a h,λa h=>nn a h,λa h=>nn a h,λa h=>nn a h,λa h=>nn a h,λa h=>nn a h⟩,by rw[AS,S.len],λi s hi=>?_,λi j s u l C5 hi q ms n=>?_⟩
 .rw[B1]at hi;cases e:ss[i]? with
  |none=>rw[e]at hi;cases hi
  |some s0=>
   rw[e]at hi;have es:OS s0=s:=BX hi;subst es;have k:=S.ok i s0 e;cases s0 with
   |any=>trivial
   |is p=>obtain⟨v,b,r⟩:=k;exact⟨v,b,r.mono S.Hm.1⟩
   |own xs=>
    obtain⟨l,vs,b,_,_,g,r⟩:=k;refine⟨_,b,.lst ?_ (r.mono S.Hm.1)⟩;unfold BL;rw[tU (U8 S.len e (by simp) b)];exact g
   |AD=>trivial
   |sq tp xs=>
    cases tp with
    |true=>obtain⟨v,b,r⟩:=k;exact⟨v,b,r.mono S.Hm.1⟩
    |false=>
     obtain⟨l,vs,b,f,m,r⟩:=k;exact⟨l,vs,b,⟨B2,B2⟩,S.keep l _ f m,r.mono S.Hm.1⟩
   |raw P=>obtain⟨v,b,hp,c⟩:=k;exact⟨v,b,c _ _ S.Hm.1 hp,c⟩
   |ow lt t=>
    obtain⟨v,b,r,_,_⟩:=k;refine⟨v,b,r.rep S.Hm.1 λa d o ho=>?_⟩;unfold BL;rw[tU (U8 S.len e (by simp) d)];exact ho
 .rw[B1]at hi;cases e:ss[i]? with
  |none=>rw[e]at hi;cases hi
  |some s0=>
   rw[e]at hi;have es:OS s0=s:=BX hi;subst es;cases s0 <;> cases ms
variable{te:TE}{c:TT}
def i9(E:Ent0)(F H:Hp)(as:List Addr):@Ent Rj:=@Ent.mk Rj (E3 [] (BL F H as) H) λ_ _ _ _ _ _ _ _ _ d _=>d.elim
theorem dX{k:Bool->Prop}(h:Wt (ss.map OS) c k):Wt ss c k:=⟨λE Z F H Q S q=>by
 refine h.go (i9 E F H (D0 ss Z)) Z _ H Q S.jX λb F' H' m kk=>?_;exact q b _ H' (S.XQ m.st.toFin).1 kk⟩
theorem iK{k:List PV->Prop}(h:Wn (ss.map OS) te λys=>Ge ys=true/\k ys):Wn ss te k:=⟨λE Z F H Q S q=>by
 refine h.go (i9 E F H (D0 ss Z)) Z _ H Q S.jX λl2 MS ys F' H' m c h2 E9 a⟨hn,kk⟩=>?_;obtain⟨M,b⟩:=S.XQ m.st.toFin;exact q l2 MS ys _ H' M (by unfold Fx;split <;> first|rfl|exact c) h2 E9 (a.sub b hn) kk⟩
end
end Fz
namespace L2
variable{Zh:ZKH}{Z:St}{s s2:Shared}{tk:Nat}
section
variable{X:Cx}
theorem Inv.same{H:Hp}(I:Inv X Zh Z H s){h':Heap}(k:∀b o,s.heap.get? b=some o->h'.get? b=some o):Inv X Zh Z H { s with heap:=h',toks:=tk }:=I.kept (t':=tk) k
variable{elt iter:Expr}{ifs es:List Expr}{zs:List Str}{tp pos:Pos}{scope:Scope}{Ar:List Str}{js:List Nat}{tt:TT}{te:TE}
variable{H2:Hp}{x:Str}{px:Pos}{J:It}{fp:List Addr}{it:Addr}{tn:Nat->Heap->Prop}
end
end L2
namespace L2
section
variable{X:Cx}
def d5(K:ZKG)(t:TA):TE:=λZ H Q=>t Z H λvs H1=>∃a tp ys,vs=[.ref a]/\C4 K tp H1 a ys/\tp=false/\∀l,H1 l=none->Q (.ref l) (upd H1 l (.lst ys.reverse))
theorem mJ{p1 p2 Zc Ja:Pos}{e:Expr}{t:TA}(F:X.calm=true)(Vt:Gl X "list")(Ny:X.mg "list"=none)(YB:Gl X "reversed")(Ww:X.mg "reversed"=none)(j:QA X [e] t)
  (E:starEach [e] X.env=[(false,eval e X.env)]:=by rfl) (KI:starEach [.Call (.Name "reversed" p2) [e] [] Ja] X.env=[(false,eval (.Call (.Name "reversed" p2) [e] [] Ja) X.env)]:=by rfl) :
  QE X (.Call (.Name "list" p1) [.Call (.Name "reversed" p2) [e] [] Ja] [] Zc) (d5 X.K t):=⟨by
 have j:=j.h;intro Zh s Z H Q I h;refine yi (K3 I Vt Ny (show bootBuiltins "list"=some (.type "list") by decide +kernel) ?_ (by decide) (by decide));refine QX ?_ KI rfl;rw[KI];show wpAny _ _ (spliced ((false,eval (.Call (.Name "reversed" p2) [e] [] Ja) X.env)::[])) _ _ s;refine oI ?_;refine yi (K3 I YB Ww (show bootBuiltins "reversed"=some (.type "reversed") by decide +kernel) ?_ (by decide) (by decide));refine QX (AY (j Ja Zh s Z H _ I h) λus s1⟨vs,H1,I1,z,B⟩=>?_) E rfl;obtain⟨a,tp,ys,rfl,C,rfl,q⟩:=B;obtain⟨u,rfl,x⟩:=vals1 z;cases x;have l:∀(A5:List Value)(D:Addr)(s2 s':Shared)(acc:Array Value)(c:Nat)(tk:Nat)(ob:Obj),Vals ys A5->ys.length<=sizeLine->D=s1.heap.objs.size->s2={ s1 with heap:=s1.heap.push ob,toks:=tk }->
   Moved [s2.heap.objs.size,D] (λa b=>b=a) { s2 with heap:=s2.heap.push { cls:=.type "list", data:=.seq #[] } } s'->s'.heap.get? s2.heap.objs.size=some { cls:=.type "list", dict:=none,data:=.seq acc c,slots:=#[] }->
   ItemsOf (λi v=>A5.toArray[A5.toArray.size - 1 - i]?=some v) acc A5.toArray.size->EP X Zh Z Q (.ref s2.heap.objs.size) s':=by
  intro A5 D s2 s' acc c tk ob r g M N d k B6;subst M;subst N;obtain⟨us,y,rfl⟩:=ZFO r B6;obtain⟨h',g',d',Zs,Nv⟩:=s';have J:g'=s1.gens:=d.gens;have L:d'=s1.drawn:=d.drawn;have G:Nv=s1.os:=d.os;subst J;subst L;subst G;have hsz:(s1.heap.push ob).objs.size=s1.heap.objs.size+1:=EH ..;have kp:∀b o,s1.heap.get? b=some o->h'.get? b=some o:=λb o e=>by
   have f:=BD e;refine d.heap b o ?_ (BF _ (BF _ e));show b∉[(s1.heap.push ob).objs.size,s1.heap.objs.size];rw[hsz];simp only[EI,B2,ZAf,not_or];exact⟨BP (J6 f),BP f⟩
  refine⟨.ref _,_,I1.laid (a:=(s1.heap.push ob).objs.size) (t':=Zs) kp (by rw[hsz];exact Ey _) (show CC X.prog X.w _ h' _ (.lst ys.reverse)from⟨by rw[QK];exact g,us,c,y,k⟩),rfl,q _ (I1.AQ.fresh (by show _<=_;rw[hsz];exact Ey _))⟩
 have hh:X.A.handled=none:=I1.ok.hd F;obtain⟨A5,r,pl,g⟩:=I1.list C;have m:=r.length;refine call_reversed_list pl.isList ?_;refine oJ ?_;obtain⟨o,n,ho,_⟩:=id pl;have p:=BD ho;have P:a≠s1.heap.objs.size:=BP p;have O:0<=A5.toArray.size/\Heap.IsRevIter (s1.heap.push (revObj a ((A5.toArray.size:Int) - 1))) s1.heap.objs.size a ((A5.toArray.size:Int) - 1 - ((0:Nat):Int))/\Heap.IsList (s1.heap.push (revObj a ((A5.toArray.size:Int) - 1))) a A5.toArray:=
  ⟨CF _,⟨_,BZ _ rfl,rfl,by simp[revObj]⟩,pl.isList.push _⟩
 refine vM (I:=s1.heap.objs.size) (s:={ s1 with heap:=s1.heap.push (revObj a ((A5.toArray.size:Int) - 1)) }) (Walks.listRev (prog:=X.prog) (w:=X.w) (A:=X.A.in1.in1) hh s1.heap.objs.size a P A5.toArray).toS (λi s st=>st.2.1.typeIs) O ?_ (by simp) ?_ (by simp;omega)
 .intro b f;show b<(s1.heap.push _).objs.size;rw[EH];rcases List.mem_cons.mp f with h|h
  .rw[h];exact M7 _
  .have:b=a:=by simpa using h
   rw[this];exact J6 p
 .intro s' acc c d k B6;exact l A5 s1.heap.objs.size { s1 with heap:=s1.heap.push (revObj a ((A5.toArray.size:Int) - 1)) } s' acc c s1.toks (revObj a ((A5.toArray.size:Int) - 1)) r g rfl rfl d k B6⟩
end
end L2
namespace Fz
open L2 Lw
variable{l ss:List Slot}{te:TE}{F H:Hp}{v2 vp:V}{t t1 t2:OV}{b c d l1 l2:Bool}{vs:List V}{E:Ent0}{Z:L2.St}{A:List Addr}{a:Addr}{i j n:Nat}{s:Slot}{k1 k2:NK}{CN Ek:List OV}{kk:PV->OV->OV->Prop}{x:TT}
inductive FR (F:Hp) (vp v1 v2:V) (t1 t2:OV):Bool->Bool->Bool->List V->List Slot->Prop where
 |nil:FR F vp v1 v2 t1 t2 false false false [] []
 |is {b c d:Bool}{v:V}{p:PV}{vs:List V}{l:List Slot}:Rep F v p->FR F vp v1 v2 t1 t2 b c d vs l->FR F vp v1 v2 t1 t2 b c d (v::vs) (.is p::l)
 |AD {c d:Bool}{vs:List V}{l:List Slot}:FR F vp v1 v2 t1 t2 false c d vs l->FR F vp v1 v2 t1 t2 true c d (vp::vs) (.AD::l)
 |one {b d:Bool}{vs:List V}{l:List Slot}:FR F vp v1 v2 t1 t2 b false d vs l->FR F vp v1 v2 t1 t2 b true d (v1::vs) (.ow true t1::l)
 |two {b c:Bool}{vs:List V}{l:List Slot}:FR F vp v1 v2 t1 t2 b c false vs l->FR F vp v1 v2 t1 t2 b c true (v2::vs) (.ow true t2::l)
section
variable{F':Hp}{v1:V}
theorem FR.len(h:FR F vp v1 v2 t1 t2 b c d vs l):l.length=vs.length:=by
 induction h with
 |nil=>rfl
 |is _ _ a=>rw[Ba,Ba,a]
 |AD _ a=>rw[Ba,Ba,a]
 |one _ a=>rw[Ba,Ba,a]
 |two _ a=>rw[Ba,Ba,a]
theorem FR.at(h:FR F vp v1 v2 t1 t2 b c d vs l):∃(n0 n1 i:Nat),∀(n:Nat)(s:Slot),l[n]?=some s->
  (∃v p,vs[n]?=some v/\s=.is p/\Rep F v p)∨(b=true/\n=n0/\s=.AD/\vs[n]?=some vp)∨(c=true/\n=n1/\s=.ow true t1/\vs[n]?=some v1)∨(d=true/\n=i/\s=.ow true t2/\vs[n]?=some v2):=by
 induction h with
 |nil=>exact⟨0,0,0,λn s h=>by simp at h⟩
 |is r _ g=>
  obtain⟨n0,n1,i,g⟩:=g;refine⟨n0+1,n1+1,i+1,λn s h=>?_⟩;cases n with
  |zero=>simp at h;subst h;exact .inl ⟨_,_,rfl,rfl,r⟩
  |succ n=>
   rcases g n s (by simpa using h)with⟨v,p,q⟩|⟨a,q,f,e⟩|⟨a,q,f,e⟩|⟨a,q,f,e⟩
   .exact .inl ⟨v,p,by simpa using q⟩
   .exact .inr (.inl ⟨a,by rw[q],f,by simpa using e⟩)
   .exact .inr (.inr (.inl ⟨a,by rw[q],f,by simpa using e⟩))
   .exact .inr (.inr (.inr ⟨a,by rw[q],f,by simpa using e⟩))
 |AD _ g=>
  obtain⟨n0,n1,i,g⟩:=g;refine⟨0,n1+1,i+1,λn s h=>?_⟩;cases n with
  |zero=>simp at h;subst h;exact .inr (.inl ⟨rfl,rfl,rfl,rfl⟩)
  |succ n=>
   rcases g n s (by simpa using h)with⟨v,p,q⟩|⟨a,q,f,e⟩|⟨a,q,f,e⟩|⟨a,q,f,e⟩
   .exact .inl ⟨v,p,by simpa using q⟩
   .cases a
   .exact .inr (.inr (.inl ⟨a,by rw[q],f,by simpa using e⟩))
   .exact .inr (.inr (.inr ⟨a,by rw[q],f,by simpa using e⟩))
 |one _ g=>
  obtain⟨n0,n1,i,g⟩:=g;refine⟨n0+1,0,i+1,λn s h=>?_⟩;cases n with
  |zero=>simp at h;subst h;exact .inr (.inr (.inl ⟨rfl,rfl,rfl,rfl⟩))
  |succ n=>
   rcases g n s (by simpa using h)with⟨v,p,q⟩|⟨a,q,f,e⟩|⟨a,q,f,e⟩|⟨a,q,f,e⟩
   .exact .inl ⟨v,p,by simpa using q⟩
   .exact .inr (.inl ⟨a,by rw[q],f,by simpa using e⟩)
   .cases a
   .exact .inr (.inr (.inr ⟨a,by rw[q],f,by simpa using e⟩))
 |two _ g=>
  obtain⟨n0,n1,i,g⟩:=g;refine⟨n0+1,n1+1,0,λn s h=>?_⟩;cases n with
  |zero=>simp at h;subst h;exact .inr (.inr (.inr ⟨rfl,rfl,rfl,rfl⟩))
  |succ n=>
   rcases g n s (by simpa using h)with⟨v,p,q⟩|⟨a,q,f,e⟩|⟨a,q,f,e⟩|⟨a,q,f,e⟩
   .exact .inl ⟨v,p,by simpa using q⟩
   .exact .inr (.inl ⟨a,by rw[q],f,by simpa using e⟩)
   .exact .inr (.inr (.inl ⟨a,by rw[q],f,by simpa using e⟩))
   .cases a
variable{H':Hp}
def Mw(ss:List Slot)(Z:L2.St)(b:Bool)(vp:V)(A:List Addr):Prop:=(b=false/\A=[])∨∃(q:Nat)(a:Addr),b=true/\A=[a]/\vp=.ref a/\ss[q]?=some .AD/\Z[q]?=some (some (.ref a))
theorem Mw.own(h:Mw ss Z b vp A)(c:a∈A):∃q:Nat,ss[q]?=some .AD/\Z[q]?=some (some (.ref a)):=by
 rcases h with⟨_,rfl⟩|⟨q,d,_,rfl,_,h1,h2⟩
 .cases c
 .rw[List.mem_singleton.mp c];exact⟨q,h1,h2⟩
theorem Sg.call2(S:Sg E ss Z F H)(pa:Mw ss Z b vp A)(I:B8 F H v1 t1)(G:B8 F H v2 t2)(nd:(t1.addrs++t2.addrs).Nodup)
  (C:∀a∈t1.addrs++t2.addrs,F a=none) (m:∀a∈t1.addrs++t2.addrs,a∉A)(a:FR F vp v1 v2 t1 t2 b c d vs l):Sg ⟨A,F,H,t1.addrs++t2.addrs⟩ l (vs.map some) F H:=by
 obtain⟨n0,n1,K,t⟩:=a.at;have th:∀x∈t1.addrs++t2.addrs,H x≠none:=λx hx=>by
  rcases List.mem_append.mp hx with h|h
  .exact I.there x h
  .exact G.there x h
 have pt:∀x∈A,Be H x/\F x=none:=λx hx=>by
  obtain⟨q,h1,h2⟩:=pa.own hx;obtain⟨l,e,J,_,p⟩:=S.ok q _ h1;rw[h2]at e;cases e;exact⟨p,J⟩
 have B:=List.nodup_append.mp nd;refine⟨⟨S.fh,A9.refl _,λ_ _ _ e=>e,λ_ _ e=>.inl e,λx h=>(pt x h).1,λx h=>(pt x h).2,λx h=>by obtain⟨_,_,e,_⟩:=(pt x h).1;show H x≠none;rw[e];simp,C,th,λx h=>⟨th x h,m x h⟩⟩,by rw[AS];exact a.len,λn s hn=>?_,λn j s u x Mp hn D ms k=>?_⟩
 .rcases t n s hn with⟨v,p,f,rfl,r⟩|⟨g,_,rfl,f⟩|⟨_,_,rfl,f⟩|⟨_,_,rfl,f⟩
  .rw[B1,f];exact⟨v,rfl,r⟩
  .rw[B1,f];rcases pa with⟨h,_⟩|⟨q,o,_,rfl,rfl,h1,h2⟩
   .rw[h]at g;cases g
   .exact⟨o,rfl,(pt o (by simp)).2,.inr (by simp),(pt o (by simp)).1⟩
  .rw[B1,f];exact⟨v1,rfl,I,B.1,λx hx=>⟨C x (by simp[hx]),.inr ⟨rfl,by simp[hx]⟩⟩⟩
  .rw[B1,f];exact⟨v2,rfl,G,B.2.1,λx hx=>⟨C x (by simp[hx]),.inr ⟨rfl,by simp[hx]⟩⟩⟩
 .have y:∀{n:Nat},b=true->vs[n]?=some vp->BO .AD ((vs.map some)[n]?) x->x∈A:=λ{n}g f ho=>by
   rcases pa with⟨h,_⟩|⟨q,o,_,rfl,rfl,h1,h2⟩
   .rw[h]at g;cases g
   .rw[B1,f]at ho;have z:some (some (V.ref o))=some (some (V.ref x)):=ho;injection z with z;injection z with z;injection z with z
    rw[z];simp
  rcases t n s hn with⟨v,p,f,rfl,r⟩|⟨g,w,rfl,f⟩|⟨_,w,rfl,f⟩|⟨_,w,rfl,f⟩
  .cases ms
  .rcases t j u D with⟨_,_,_,rfl,_⟩|⟨_,i,rfl,_⟩|⟨_,i,rfl,_⟩|⟨_,i,rfl,_⟩
   .cases k
   .exact Mp (w.trans i.symm)
   .exact m x (Fn _ k) (y g f ms)
   .exact m x (Dt _ k) (y g f ms)
  .rcases t j u D with⟨_,_,_,rfl,_⟩|⟨g,i,rfl,YJ⟩|⟨_,i,rfl,_⟩|⟨_,i,rfl,_⟩
   .cases k
   .exact m x (Fn _ ms) (y g YJ k)
   .exact Mp (w.trans i.symm)
   .exact B.2.2 x ms x k rfl
  .rcases t j u D with⟨_,_,_,rfl,_⟩|⟨g,i,rfl,YJ⟩|⟨_,i,rfl,_⟩|⟨_,i,rfl,_⟩
   .cases k
   .exact m x (Dt _ ms) (y g YJ k)
   .exact B.2.2 x k x ms rfl
   .exact Mp (w.trans i.symm)
theorem Sg.wV{lt:Bool}{C u2:OV}(S:Sg E ss Z F H)(pa:Mw ss Z b vp A)(C5:i≠j)(hi:ss[i]?=some (.ow lt t1))(T:ss[j]?=some (.ow lt t2))
  (J:Z[i]?=some (some v1)) (e2:Z[j]?=some (some v2)) (f:Fin ⟨A,F,H,t1.addrs++t2.addrs⟩ F' H') (σ:B8 F' H' v1 C) (Y:B8 F' H' v2 u2) (nd:(C.addrs++u2.addrs).Nodup)
  (q:∀a∈C.addrs++u2.addrs,F' a=none/\(H a=none∨a∈t1.addrs++t2.addrs)) :
  Sg E ((ss.set i (.ow lt C)).set j (.ow lt u2)) Z F' H'/\(∀a o,Ce ss Z a->a∉t1.addrs++t2.addrs->H a=some o->H' a=some o):=by
 obtain⟨w1,x1,_,_,P⟩:=S.ok i _ hi;obtain⟨w2,x2,_,_,O⟩:=S.ok j _ T;have Ri:i<ss.length:=(List.getElem?_eq_some_iff.mp hi).1;have X:j<ss.length:=(List.getElem?_eq_some_iff.mp T).1;have N:∀a∈t1.addrs++t2.addrs,F a=none/\(E.H0 a=none∨a∈E.B):=λa g=>by
  rcases List.mem_append.mp g with h|h
  .exact⟨(P a h).1,(P a h).2.imp id λz=>z.2⟩
  .exact⟨(O a h).1,(O a h).2.imp id λz=>z.2⟩
 have kp:∀a o,a∉A->a∉t1.addrs++t2.addrs->H a=some o->H' a=some o:=λa o n1 G e=>f.keep a o ⟨n1,G⟩ e;have Bd:∀a,H a≠none->F a=none->F' a=none:=λa h1 h2=>by
  cases e:F' a with
  |none=>rfl
  |some o=>
   rcases f.fresh a o e with z|z
   .rw[show F a=some o from z]at h2;cases h2
   .exact absurd z h1
 have pI:∀a∈A,E.H0 a=none∨a∈E.A:=λa g=>by
  obtain⟨n,h1,h2⟩:=pa.own g;obtain⟨l,e,_,R,_⟩:=S.ok n _ h1;rw[h2]at e;cases e;exact R
 have Y5:∀a,a∈E.A->a∉t1.addrs++t2.addrs:=λa k t=>by
  rcases(N a t).2 with z|z
  .exact S.a0 a k z
  .exact(S.b0 a z).2 k
 have d:∀(n:Nat)s,n≠i->n≠j->ss[n]?=some s->∀a,BO s Z[n]? a->a∉t1.addrs++t2.addrs:=λn s h1 h2 hs a ho t=>by
  rcases List.mem_append.mp t with h|h
  .exact S.Bi n i s _ a h1 hs hi ho h
  .exact S.Bi n j s _ a h2 hs T ho h
 have Lv:∀(n:Nat)s,s≠.AD->ss[n]?=some s->∀a,BO s Z[n]? a->a∉A:=λn s np hs a ho t=>by
  obtain⟨m,h1,h2⟩:=pa.own t
  by_cases c:n=m
  .subst c;rw[hs]at h1;exact np (BX h1)
  .exact S.Bi n m s _ a c hs h1 ho h2
 have Eo:∀a,Be H a->a∉t1.addrs++t2.addrs->Be H' a:=λa p n=>by
  by_cases c:a∈A
  .exact f.Eo a c
  .exact Be.keep p λo e=>kp a o c n e
 have at_:∀(n:Nat)s,((ss.set i (.ow lt C)).set j (.ow lt u2))[n]?=some s->(n=j/\s=.ow lt u2)∨(n=i/\s=.ow lt C)∨(n≠i/\n≠j/\ss[n]?=some s):=λn s hn=>by
  by_cases c:n=j
  .subst c;rw[DD (by rw[J4];exact X)]at hn;exact .inl ⟨rfl,(BX hn).symm⟩
  .rw[CZ (BW c)]at hn
   by_cases w:n=i
   .subst w;rw[DD Ri]at hn;exact .inr (.inl ⟨rfl,(BX hn).symm⟩)
   .rw[CZ (BW w)]at hn;exact .inr (.inr ⟨w,c,hn⟩)
 have qn:∀a∈C.addrs++u2.addrs,E.H0 a=none∨a∈E.B:=λa g=>by
  rcases(q a g).2 with z|z
  .exact .inl (S.EU z)
  .exact(N a z).2
 have M:=List.nodup_append.mp nd;have Q:∀a,a∈E.B->a∈C.addrs++u2.addrs->lt=true:=λa D g=>by
  rcases(q a g).2 with z|z
  .exact absurd (S.EU z) (S.b0 a D).1
  .rcases List.mem_append.mp z with h|h
   .exact((P a h).2.resolve_left (S.b0 a D).1).1
   .exact((O a h).2.resolve_left (S.b0 a D).1).1
 have W:∀{u:OV}{v:V}{n:Nat},Z[n]?=some (some v)->B8 F' H' v u->u.addrs.Nodup->(∀a∈u.addrs,a∈C.addrs++u2.addrs)->Ok E F' H' (.ow lt u) Z[n]?:=λ{u v n}e r Tx hs=>by
  refine⟨v,e,r,Tx,λa g=>⟨(q a (hs a g)).1,?_⟩⟩;rcases qn a (hs a g)with z|z
  .exact .inl z
  .exact .inr ⟨Q a z (hs a g),z⟩
 refine⟨⟨⟨f.fh,S.f0.trans f.f0,λa o k e=>?_,λa o e=>?_,λa k=>?_,λa k=>?_,S.a0,λa D=>?_,λa D=>?_,S.b0⟩,by rw[J4,J4];exact S.len,λn s hn=>?_,λn m s u x Wk hn t ms I=>?_⟩,λa o np nb e=>?_⟩
 .refine kp a o (λz=>?_) (λz=>?_) (S.keep a o k e)
  .rcases pI a z with y|y
   .rw[e]at y;cases y
   .exact k.1 y
  .rcases(N a z).2 with y|y
   .rw[e]at y;cases y
   .exact k.2 y
 .rcases f.fresh a o e with z|z
  .exact S.fresh a o z
  .exact .inr (S.EU z)
 .exact Eo a (S.Eo a k) (Y5 a k)
 .obtain⟨_,_,J,_⟩:=S.Eo a k;exact Bd a (by rw[J];simp) (S.Mm a k)
 .exact Bd a (S.bH a D) (S.bF a D)
 .by_cases t:a∈t1.addrs++t2.addrs
  .exact f.bH a t
  .by_cases k:a∈A
   .obtain⟨_,_,J,_⟩:=f.Eo a k;rw[J];simp
   .intro z;cases e:H a with
    |none=>exact S.bH a D e
    |some o=>rw[kp a o k t e]at z;cases z
 .rcases at_ n s hn with⟨rfl,rfl⟩|⟨rfl,rfl⟩|⟨n1,G,h⟩
  .exact W e2 Y M.2.1 λa g=>Dt _ g
  .exact W J σ M.1 λa g=>Fn _ g
  .by_cases np:s=.AD
   .subst np;obtain⟨l,e,fl,R,pt⟩:=S.ok n _ h;obtain⟨_,_,e3,_⟩:=id pt;exact⟨l,e,Bd l (by rw[e3];simp) fl,R,Eo l pt (d n _ n1 G h l e)⟩
   .exact Ok.go S h f.f0 (λa o ho e=>kp a o (Lv n s np h a ho) (d n s n1 G h a ho) e) Bd np
 .have L:∀(n:Nat)s,n≠i->n≠j->ss[n]?=some s->BO s Z[n]? x->x∉C.addrs++u2.addrs:=λn s h1 h2 hs ho t=>by
   rcases(q x t).2 with z|z
   .exact S.ET hs ho z
   .exact d n s h1 h2 hs x ho z
  rcases at_ n s hn with⟨U,rfl⟩|⟨U,rfl⟩|⟨n1,G,h⟩
  .rcases at_ m u t with⟨w,rfl⟩|⟨w,rfl⟩|⟨K,m2,h'⟩
   .exact Wk (U.trans w.symm)
   .exact M.2.2 x I x ms rfl
   .exact L m u K m2 h' I (Dt _ ms)
  .rcases at_ m u t with⟨w,rfl⟩|⟨w,rfl⟩|⟨K,m2,h'⟩
   .exact M.2.2 x ms x I rfl
   .exact Wk (U.trans w.symm)
   .exact L m u K m2 h' I (Fn _ ms)
  .rcases at_ m u t with⟨w,rfl⟩|⟨w,rfl⟩|⟨K,m2,h'⟩
   .exact L n s n1 G h ms (Dt _ I)
   .exact L n s n1 G h ms (Fn _ I)
   .exact S.Bi n m s u x Wk h h' ms I
 .refine kp a o (λz=>?_) nb e;obtain⟨n,h1,h2⟩:=pa.own z;exact np n h1 h2
end
def Lr(Z:L2.St)(q:Nat):V:=match Z[q]? with
 |some (some v)=>v
 |_=>.AG
def Qc(s:Slot)(a:Addr):Prop:=(∃lt k us,s=.ow lt (.nd k a us))∨s=.raw (ptr a)
theorem Qc.val(p:Qc s a)(S:Sg E ss Z F H)(hn:ss[n]?=some s):Z[n]?=some (some (.ref a)):=by
 rcases p with⟨lt,k,us,rfl⟩|rfl
 .obtain⟨v,e,r,_⟩:=S.ok n _ hn;have b:v=.ref a:=by cases r;rfl
  rw[<- b];exact e
 .obtain⟨v,e,r,_⟩:=S.ok n _ hn;have b:v=.ref a:=r;rw[<- b];exact e
structure T3 (E:Ent0) (ss AH:List Slot) (Z:L2.St) (t1 t2:OV) (F H F' H':Hp):Prop where
 st:Sg E AH Z F' H'
 ff:A9 F F'
 hh:∀a o,Ce ss Z a->a∉t1.addrs++t2.addrs->H a=some o->H' a=some o
 nn:∀a o,F' a=some o->F a=some o∨H a=none
structure Iz [Xw] (ss:List Slot) (q:Nat) (a1 a2:Addr) (t1 t2:OV) (b c d:Bool) (ta:TA) (k:List Slot->Prop):Prop where
 go:∀(E:Ent)(Z:L2.St)(F H:Hp)(Q:List V->Hp->Prop),Sg E ss Z F H->(∀vs l F' H',Mv E ss Z F H F' H'->FR F' (Lr Z q) (.ref a1) (.ref a2) t1 t2 b c d vs l->k l->Q vs H')->ta Z H Q
structure Yk [Xw] (ss:List Slot) (t1 t2:OV) (new:OV->OV->List Slot) (te:TE) (k:PV->OV->OV->Prop):Prop where
 go:∀(E:Ent)(Z:L2.St)(F H:Hp)(Q:VK),Sg E ss Z F H->(∀v p u1 u2 F' H',T3 E ss (new u1 u2) Z t1 t2 F H F' H'->Rep F' v p->k p u1 u2->Q v H')->te Z H Q
structure Mb [Xw] (ss:List Slot) (t1 t2:OV) (new:OV->OV->List Slot) (c:TT) (k:Bool->OV->OV->Prop):Prop where
 go:∀(E:Ent)(Z:L2.St)(F H:Hp)(Q:Bool->Hp->Prop),Sg E ss Z F H->(∀b u1 u2 F' H',T3 E ss (new u1 u2) Z t1 t2 F H F' H'->k b u1 u2->Q b H')->c Z H Q
section
variable[Xw]
variable{ta:TA}{q:Nat}{lt:Bool}{a1 a2:Addr}{nx:List Slot->Prop}{R:Ae}{k:List Slot->Prop}{new:OV->OV->List Slot}
theorem Wj(h:k []):Iz ss q a1 a2 t1 t2 false false false B4 k:=⟨λE Z F H Q S go=>go [] [] F H (Mv.refl S) .nil h⟩
theorem cM(h:Wp ss te λp=>Iz ss q a1 a2 t1 t2 b c d ta λl=>k (.is p::l)):Iz ss q a1 a2 t1 t2 b c d (AX te ta) k:=⟨λE Z F H Q S go=>
 h.go E Z F H _ S λv p F1 H1 e r h2=>h2.go E Z F1 H1 _ e.st λvs l F2 H2 m2 a kk=>go _ _ F2 H2 (e.trans m2) (.is (r.mono m2.ff) a) kk⟩
theorem zL(f:ss[q]?=some .AD)(h:Iz ss q a1 a2 t1 t2 false c d ta λl=>k (.AD::l)):Iz ss q a1 a2 t1 t2 true c d (AX (BJ q) ta) k:=⟨λE Z F H Q S go=>by
 obtain⟨b,e,_⟩:=S.ok q _ f;have g:Lr Z q=.ref b:=by unfold Lr;rw[e]
 refine⟨_,e,h.go E Z F H _ S λvs l F2 H2 m2 a kk=>go _ _ F2 H2 m2 ?_ kk⟩;rw[<- g];exact .AD a⟩
theorem Z9(hn:ss[n]?=some s)(ps:Qc s a1)(h:Iz ss q a1 a2 t1 t2 b false d ta λl=>k (.ow true t1::l)):Iz ss q a1 a2 t1 t2 b true d (AX (BJ n) ta) k:=⟨λE Z F H Q S go=>
 ⟨_,ps.val S hn,h.go E Z F H _ S λvs l F2 H2 m2 a kk=>go _ _ F2 H2 m2 (.one a) kk⟩⟩
theorem Ui(hn:ss[n]?=some s)(ps:Qc s a2)(h:Iz ss q a1 a2 t1 t2 b c false ta λl=>k (.ow true t2::l)):Iz ss q a1 a2 t1 t2 b c true (AX (BJ n) ta) k:=⟨λE Z F H Q S go=>
 ⟨_,ps.val S hn,h.go E Z F H _ S λvs l F2 H2 m2 a kk=>go _ _ F2 H2 m2 (.two a) kk⟩⟩
theorem ZBC(S:Sg E ss Z F H)(d:b=true->ss[q]?=some .AD):∃A,Mw ss Z b (Lr Z q) A/\∀a∈A,∃m:Nat,ss[m]?=some .AD/\Z[m]?=some (some (.ref a)):=by
 cases b with
 |false=>exact⟨[],.inl ⟨rfl,rfl⟩,λ_ h=>absurd h B2⟩
 |true=>
  obtain⟨c,e,_⟩:=S.ok q _ (d rfl);have g:Lr Z q=.ref c:=by unfold Lr;rw[e]
  have P:Mw ss Z true (Lr Z q) [c]:=.inr ⟨q,c,rfl,rfl,g,d rfl,e⟩;exact⟨[c],P,λa f=>P.own f⟩
theorem Xz{pre:Pre}(C5:i≠j)(hi:ss[i]?=some (.ow lt (.nd k1 a1 Ek)))(r:ss[j]?=some (.ow lt (.nd k2 a2 CN)))(V:b=true->ss[q]?=some .AD)
  (h:Iz ss q a1 a2 (.nd k1 a1 Ek) (.nd k2 a2 CN) b c d ta λl=>∃k',pre l (.Iv k')/\∀p g u2,k' p g u2->g.val=.ref a1/\u2.val=.ref a2/\kk p g u2) :
  Yk ss (.nd k1 a1 Ek) (.nd k2 a2 CN) (λg u2=>(ss.set i (.ow lt g)).set j (.ow lt u2)) (C0 (DB pre) [] E0 ta) kk:=⟨λE Z F H Q S go=>
 h.go E Z F H _ S λvs l F1 H1 n a⟨k',hp,T⟩=>by
  rw[FN];have k:=n.st;obtain⟨v1,G,u,n1,O⟩:=k.ok i _ hi;obtain⟨v2,D,t,R,N⟩:=k.ok j _ r;have Y:v1=.ref a1:=by cases u;rfl
  have X:v2=.ref a2:=by cases t;rfl
  subst Y;subst X;obtain⟨A,pa,own⟩:=ZBC k V;have K:((OV.nd k1 a1 Ek).addrs++(OV.nd k2 a2 CN).addrs).Nodup:=List.nodup_append.mpr ⟨n1,R,λx hx y U e=>k.Bi i j _ _ x C5 hi r hx (by rw[e];exact U)⟩;refine⟨l,.Iv k',F1,A,_,hp,k.call2 pa u t K (λx hx=>?_) (λx hx W=>?_) a,λv F' H' f⟨p,g,u2,L,C,B,nd,M,kp⟩=>?_⟩
  .rcases List.mem_append.mp hx with z|z
   .exact(O x z).1
   .exact(N x z).1
  .obtain⟨m,p1,p2⟩:=own x W;rcases List.mem_append.mp hx with z|z
   .by_cases w:m=i
    .subst w;rw[hi]at p1;cases p1
    .exact k.Bi m i _ _ x w p1 hi p2 z
   .by_cases w:m=j
    .subst w;rw[r]at p1;cases p1
    .exact k.Bi m j _ _ x w p1 r p2 z
  .obtain⟨J,I,s⟩:=T p g u2 kp;rw[J]at C;rw[I]at B;obtain⟨S2,hh⟩:=k.wV pa C5 hi r G D f C B nd M;exact go v p g u2 F' H' ⟨S2,n.ff.trans f.f0,λa o np P e=>hh a o np P (n.hh a o np e),λa o e=>(f.fresh a o e).elim (λe=>n.nn a o e) λe=>.inr (n.none e)⟩ L s⟩
theorem nc{kk:Bool->OV->OV->Prop}(h:Yk ss t1 t2 new te λp a u2=>∃c,p=.bl c/\kk c a u2):Mb ss t1 t2 new (tB te) kk:=⟨λE Z F H Q S go=>
 h.go E Z F H _ S λv p a u2 F1 H1 b r AO=>by
  obtain⟨c,e,k2⟩:=AO;subst e;cases r.inv;exact⟨c,rfl,go c a u2 F1 H1 b k2⟩⟩
theorem lq{kk:Bool->OV->OV->Prop}(h:Mb ss t1 t2 new x λb a u2=>kk (!b) a u2):Mb ss t1 t2 new (TH x) kk:=⟨λE Z F H Q S go=>
 h.go E Z F H _ S λb a u2 F1 H1 c k2=>go (!b) a u2 F1 H1 c k2⟩
theorem kM{u v:TS}(h:Mb ss t1 t2 new x λb c u2=>if b=true then Ws (new c u2) u nx R else Ws (new c u2) v nx R):Ws ss (SI x u v) nx R:=⟨λE D Z F H S hn d=>
 h.go E Z F H _ S λb c u2 F1 H1 a kk=>by
  cases b with
  |true=>rw[tU rfl]at kk;exact kk.go E D Z F1 H1 a.st (λAH σ' F' H' n S' s=>hn AH σ' F' H' n S' (a.ff.trans s)) d
  |false=>rw[tJ (by decide)]at kk;exact kk.go E D Z F1 H1 a.st (λAH σ' F' H' n S' s=>hn AH σ' F' H' n S' (a.ff.trans s)) d⟩
theorem Sg.two(S:Sg E ss Z F H)(C5:i≠j)(hi:ss[i]?=some (.ow l1 (.nd k1 a1 Ek)))(g:ss[j]?=some (.ow l2 (.nd k2 a2 CN))):
  B8 F H (.ref a1) (.nd k1 a1 Ek)/\B8 F H (.ref a2) (.nd k2 a2 CN)/\((OV.nd k1 a1 Ek).addrs++(OV.nd k2 a2 CN).addrs).Nodup/\∀a∈(OV.nd k1 a1 Ek).addrs++(OV.nd k2 a2 CN).addrs,F a=none/\(E.H0 a=none∨a∈E.B):=by
 obtain⟨v1,q,c,n1,f⟩:=S.ok i _ hi;obtain⟨v2,p,b,k,d⟩:=S.ok j _ g;have o:v1=.ref a1:=by cases c;rfl
 have n:v2=.ref a2:=by cases b;rfl
 subst o;subst n;refine⟨c,b,List.nodup_append.mpr ⟨n1,k,λx hx y l e=>S.Bi i j _ _ x C5 hi g hx (by rw[e];exact l)⟩,λa m=>?_⟩;rcases List.mem_append.mp m with h|h
 .exact⟨(f a h).1,(f a h).2.imp id λz=>z.2⟩
 .exact⟨(d a h).1,(d a h).2.imp id λz=>z.2⟩
theorem ZCi(C5:i≠j)(hi:ss[i]?=some (.ow l1 (.nd k1 a1 Ek)))(f:ss[j]?=some (.ow l2 (.nd k2 a2 CN)))(h:Wp ss te λp=>kk p (.nd k1 a1 Ek) (.nd k2 a2 CN)):Ws ss (Ib te) nx (.Iv kk):=⟨λE D Z F H S hn e=>
 h.go E Z F H _ S λv p F1 H1 a r kp=>by
  obtain⟨c,b,nd,d⟩:=a.st.two C5 hi f;exact e v F1 H1 a.st.toFin ⟨p,.nd k1 a1 Ek,.nd k2 a2 CN,r,c,b,nd,d,kp⟩⟩
theorem Se(C5:i≠j)(hi:ss[i]?=some (.ow l1 t))(k:ss[j]?=some (.ow l2 (.nd k2 a2 CN)))(h:Wm ss i l1 t te λp t'=>∃k' a us',t'=.nd k' a us'/\kk p t' (.nd k2 a2 CN)):Ws ss (Ib te) nx (.Iv kk):=⟨λE D Z F H S hn g=>
 h.go E Z F H _ S λv p t' F1 H1 b r AO=>by
  obtain⟨k',a,us',e,kp⟩:=AO;subst e;have l:i<ss.length:=(List.getElem?_eq_some_iff.mp hi).1;obtain⟨d,c,nd,f⟩:=b.st.two C5 (DD l) (by rw[CZ C5];exact k);exact g v F1 H1 b.st.toFin ⟨p,.nd k' a us',.nd k2 a2 CN,r,d,c,nd,f,kp⟩⟩
theorem zF{l:Bool}(C5:i≠j)(hi:i<ss.length)(m:j<ss.length)(h:Yk ss t1 t2 (λa u2=>(ss.set i (.ow l a)).set j (.ow l u2)) te λp a u2=>∃k1 c Ek k2 b CN,a=.nd k1 c Ek/\u2=.nd k2 b CN/\kk p a u2):Ws ss (Ib te) nx (.Iv kk):=⟨λE D Z F H S hn k=>
 h.go E Z F H _ S λv p a u2 F1 H1 d r AO=>by
  obtain⟨k1,c,Ek,k2,b,CN,o,n,kp⟩:=AO;subst o;subst n;obtain⟨f,e,nd,g⟩:=d.st.two (i:=i) (j:=j) C5 (by rw[CZ (BW C5),DD hi]) (by rw[DD (by rw[J4];exact m)]);exact k v F1 H1 d.st.toFin ⟨p,.nd k1 c Ek,.nd k2 b CN,r,f,e,nd,g,kp⟩⟩
end
end Fz
namespace L2
theorem A8.alias{P:Program}{w:World}{K:ZKG}{mg:ZKI}{Zy:Heap}{x y:Str}{k:Nat}{ps:List Str}{sp:Sp}{v:Option Value}(h:A8 P w K mg Zy x k ps sp)(e:mg x=v)(a:mg y=v):A8 P w K mg Zy y k ps sp:=by
 obtain⟨f,fd,F,b,kp,m⟩:=h;exact⟨f,fd,F,b,kp,a.trans (e.symm.trans m)⟩
end L2
namespace Fz
open L2 Lw
variable{r x:Str}{ss:List Slot}{T1 ta tb tc te:TE}{F H:Hp}{d:AW}{nx:List Slot->Prop}{R:Ae}{ps xs:List PV}{cs ns:List Str}{g i j m:Nat}{t tY u w y z:OV}{us:List OV}{a a2 aK:Addr}{pre:Pre}
def jV(x:Str):Prop:=(reprText x).length<=100000/\x.length<=1000
theorem ZHn(h:x.length<=100)(hx:∀c∈x.cps.toList,c<16 ^ 8):jV x:=⟨qh h hx,by omega⟩
theorem ZCk(h:Nm x):∀c∈x.cps.toList,c<16 ^ 8:=λc a=>Hw (h.2.2 c a).2 (by decide)
theorem ZHz(K:ZKG){d:Nat}(r:Str)(g:Nat)(cs:List Str):dat K (d+2) (Ca r g cs):=λx hx=>by
 simp only[EI,B2,ZAf]at hx;rcases hx with rfl|rfl|rfl
 .trivial
 .trivial
 .intro y a;obtain⟨z,_,rfl⟩:=List.mem_map.mp a;cases d <;> trivial
theorem Cw.step(h:Cw ns r g cs):Cw ns r (Lo ns g cs:Nat) (Js ns g cs):=by
 unfold Lo Js;cases e:Dv ns g cs with
 |none=>exact h
 |some x=>
  have c:x∈D5 ns g cs:=by
   unfold Dv at e;exact ZJ1 (by rw[e];rfl)
  obtain⟨a,m2⟩:=O7.mp c;have:=List.idxOf_lt_length_iff.mpr a;exact⟨h.rule,by show(0:Int)<=((ns.idxOf x+1:Nat):Int);omega,by show((ns.idxOf x+1:Nat):Int)<=_;omega,ag x h.up,λy b=>h.sub y (Kc.mp b).1⟩
section
variable[Xw]
theorem ZHW{t:TT}{k k':Bool->Prop}(h:Wt ss t k')(c:∀b,k' b->k b):Wt ss t k:=⟨λE Z F H Q S q=>h.go E Z F H Q S λb F' H' m a=>q b F' H' m (c b a)⟩
end
structure FF (m:Nat) (ns:List Str):Prop where
 len:ns.length<=m
 nm:∀x∈ns,Nm x
 nd:ns.Nodup
theorem FF.done(h:FF m ns)(ok:d.Ok m ns):FF m (d.done ns):=by
 obtain⟨a,b,c⟩:=AW.step ok h.nd h.nm h.len;exact⟨c,b,a⟩
structure Lp where
 r:Str
 g:Nat
 cs:List Str
variable{l:Lp}
def Lp.P(l:Lp):PV:=Ca l.r l.g l.cs
noncomputable def CB(ns:List Str):List Str:=ns.foldr (λx r=>FA r x) []
theorem Jk{x:Str}:∀{ns:List Str},x∈CB ns↔x∈ns
 | []=>Iff.rfl
 |y::r=>by
  show x∈FA (CB r) y↔_;rw[Ng,Jk (ns:=r),EI]
theorem Nx:∀{ns:List Str},ns.Nodup->Up (CB ns)
 | [],_=>List.Pairwise.nil
 |y::r,h=>by
  obtain⟨h1,h2⟩:=List.nodup_cons.mp h;exact Rt (Nx h2) λz=>h1 (Jk.mp z)
theorem KP{ts:List Str}(nd:ns.Nodup)(a:ts.Perm ns)(st:sortedS ts=true):ts=CB ns:=
 Pj (PQ st (a.nodup_iff.mpr nd)) (Nx nd) λk=>by rw[a.mem_iff,Jk]
def Lp.led(ns:List Str)(d:AW)(l:Lp):Lp:=⟨l.r,d.gap ns l.g,d.G4 l.r l.g l.cs⟩
def Lp.E5(ns:List Str)(l:Lp):Lp:=⟨l.r,Lo ns l.g l.cs,Js ns l.g l.cs⟩
def Lp.told(ns:List Str)(l:Lp):PV:=uT (Dv ns l.g l.cs)
def Lp.Good(ns:List Str)(l:Lp):Prop:=Cw ns l.r l.g l.cs
theorem dZ(nd:ns.Nodup)(a:r∈Cs):Cw ns r (0:Nat) (CB ns):=⟨a,by decide,by show(0:Int)<=_;omega,Nx nd,λx hx=>Jk.mp hx⟩
theorem Zb{k:Nat}(h:k<3):∃r:Str,r∈Cs/\L2.Bf [PV.str "none",.str "ahead",.str "all"] (k:Int)=some (.str r):=by
 have:k=0∨k=1∨k=2:=by omega
 rcases this with rfl|rfl|rfl
 .exact⟨_,by decide,rfl⟩
 .exact⟨_,by decide,rfl⟩
 .exact⟨_,by decide,rfl⟩
theorem Rf{l:List Str}(h:x∈l):l[l.idxOf x]?=some x:=by
 rw[B9 (List.idxOf_lt_length_iff.mpr h),bE]
noncomputable def Au(ns:List Str):List Key:=ns.map Sum.inr
def BY(ll:List Lp):List OV:=ll.map λl=>.fz l.P
theorem TC(ns:List Str)(x:Str):HX (Au ns) (.inr x)=decide (x∈ns):=by
 unfold HX Au;rw[List.any_map]
 by_cases h:x∈ns
 .rw[rD h];exact List.any_eq_true.mpr ⟨x,h,rD rfl⟩
 .rw[uB h];rw[Bool.eq_false_iff];intro z;obtain⟨y,b,e⟩:=List.any_eq_true.mp z;have a:(Sum.inr y:Key)=Sum.inr x:=tZ e;injection a with a
  exact h (a▸b)
theorem LO:∀{ns:List Str}{x:Str},x∈ns->Cg (Au ns) (.inr x)=some (ns.idxOf x)
 | [],_,h=>absurd h B2
 |y::ns,x,h=>by
  unfold Au;rw[Bu,Cg,oX]
  by_cases c:y=x
  .subst c;rw[tU rfl,show(y == y)=true from xJ y];rfl
  .rw[tJ (λe=>c (by injection e)),show(y == x)=false from beq_eq_false_iff_ne.mpr c];have h1:Cg (ns.map λn:Str=>(Sum.inr n:Key)) (.inr x)=some (ns.idxOf x):=LO ((List.mem_cons.mp h).resolve_left λz=>c z.symm);have a:Cg (ns.map (Sum.inr:Str->Key)) (.inr x)=some (ns.idxOf x):=h1;rw[a];rfl
theorem kr:∀{ns:List Str}{x:Str},x∉ns->Cg (Au ns) (.inr x)=none
 | [],_,_=>rfl
 |y::ns,x,h=>by
  unfold Au;rw[Bu,Cg,tJ (λe=>h (by injection e with e;subst e;exact Cp))]
  have h1:Cg (ns.map (Sum.inr:Str->Key)) (.inr x)=none:=kr (ns:=ns) λz=>h (D3 _ z);rw[h1];rfl
theorem Ii(h:ns.Nodup):(Au ns).Nodup:=ZIi _ (λa b(h:a≠b)=>λz=>h (by injection z)) h
theorem ig(h:x∉ns):HP (Au ns) (.inr x)=Au (ns++[x])/\GP (Au ns) us (.inr x) u=us++[u]:=by
 unfold GP HP;rw[kr h,TC,uB h];exact⟨by unfold Au;rw[CD];rfl,rfl⟩
theorem mB(h:x∈ns):HP (Au ns) (.inr x)=Au ns/\GP (Au ns) us (.inr x) u=us.set (ns.idxOf x) u:=by
 unfold GP HP;rw[LO h,TC,rD h];exact⟨rfl,rfl⟩
theorem Rv(h:x∈ns):HP (Au ns) (.inr x)=Au ns:=(mB (us:=[]) (u:=.fz .AG) h).1
theorem R5(h:x∈ns):GP (Au ns) us (.inr x) u=us.set (ns.idxOf x) u:=(mB h).2
theorem Td(h:x∉ns):HP (Au ns) (.inr x)=Au (ns++[x]):=(ig (us:=[]) (u:=.fz .AG) h).1
theorem Z7(h:x∉ns):GP (Au ns) us (.inr x) u=us++[u]:=(ig h).2
theorem Tj(a:List Lp)(i:Nat)(l:Lp):(BY a).set i (.fz l.P)=BY (a.set i l):=by unfold BY;rw[List.map_set]
theorem YA{a:List Lp}(h:a[i]?=some l):(BY a)[i]?=some (.fz l.P):=by unfold BY;rw[B1,h];rfl
theorem eB{y:PV}:∀{ns:List Str}{xs:List PV}{x:Str},x∈ns->xs[ns.idxOf x]?=some y->Lf (Au ns) xs (.inr x)=some y
 | [],_,_,h,_=>absurd h B2
 |z::ns,xs,x,h,e=>by
  rw[oX]at e;unfold Au
  by_cases c:z=x
  .subst c;rw[show(z == z)=true from xJ z]at e;cases xs with
   |nil=>cases e
   |cons w ws=>rw[Bu,Lf,tU rfl];exact e
  .rw[show(z == x)=false from beq_eq_false_iff_ne.mpr c]at e;cases xs with
   |nil=>cases e
   |cons w ws=>
    rw[Bu,Lf,tJ (λq=>c (by injection q))];exact eB ((List.mem_cons.mp h).resolve_left λq=>c q.symm) e
theorem ZY(ns:List Str):EB (.tup (ns.map .str))=true:=by
 rw[EB]
 induction ns with
 |nil=>rfl
 |cons x ns a=>rw[Bu,Ge,a];rfl
def Yq:Pre:=λl R=>l=[.AD]/\R=.is λp=>∃r,p=.str r/\r∈Cs
theorem bp(ns:List Str):(Au ns).map Iu=ns.map PV.str:=by
 unfold Au;rw[GA];rfl
theorem OI:∀ns:List Str,(CB ns).length=ns.length
 | []=>rfl
 |x::r=>by
  show(FA (CB r) x).length=_;rw[dS,OI r];rfl
theorem ZIV{K:ZKG}{d:Nat}(h:∀x∈xs,flat x=true):dat K (d+2) (.tup xs):=λx hx=>by
 have:=h x hx;cases x <;> first|trivial|(cases this)
theorem ZCU:∀x y:Int,PV.int x=PV.int y->x=y:=λ_ _ e=>by injection e
def jw:Sp:=λvs H Q _=>∃(a:Addr)(tp:Bool)(ns:List Str)(lo hi:Nat),vs=[.ref a,.int lo,.int hi]/\H a=some (BI tp (ns.map V.str))/\tp=false/\ns.length<=1000/\lo<=hi/\hi<=ns.length/\K9 H Q (G7 ns lo hi)
def Yp:Sp:=λvs H Q _=>∃(a t:Addr)(tp:Bool)(ns:List Str)(d:AW),vs=[.ref a,.ref t]/\H a=some (BI tp (ns.map V.str))/\H t=some (.tup d.vals)/\tp=false/\d.Ok 40 ns/\ns.length<=40/\K9 H Q (d.done ns)
section
variable[Xw]
variable{K:ZKG}{k:PV->Prop}
theorem ZGH{k:List PV->Prop}(h:Wz ss te λtp xs=>tp=false/\k (Jb xs)):Wi ss (Vc K (AX te B4)) k:=⟨λE Z F H R S q=>
 h.go E Z F H _ S λv tp xs F1 H1 b f AO=>by
  obtain⟨n,kk⟩:=AO;subst n;obtain⟨l,vs,j,a,r⟩:∃l vs,v=.ref l/\(∀(ss:List Slot)(Z:L2.St)(F H:Hp),A9 F1 F->Sg E ss Z F H->H l=some (.lst vs))/\Aa F1 vs xs:=by
   obtain⟨l,vs,e,h1,r⟩:=f;refine⟨l,vs,e,λss Z F H s S=>?_,r⟩;rcases h1 with h1|⟨hA,h1⟩
   .exact S.fh _ _ (s _ _ h1)
   .exact S.keep _ _ hA h1
  subst j;refine⟨l,vs,rfl,AK.of (a ss Z F1 H1 (A9.refl _) b.st),q _ (Jb xs) F1 H1 b ⟨λss Z F H i s S hi=>?_,λss Z F H s S=>?_,λss Z F H i x H' s S hi y=>?_⟩ kk⟩
  .rw[Mh]at hi;exact⟨AK.of (a ss Z F H s S),by rw[r.length];exact hi⟩
  .refine⟨AK.of (a ss Z F H s S),?_⟩;rw[Mh,r.length];exact Am _
  .obtain⟨p,y,g,ex,hp,o⟩:=y;subst ex;subst o;obtain⟨z,d,c⟩:=r.get' g;have m:=S.alloc hp (.tup [.int i,y]);exact⟨_,_,V4 d,m,.tup AJ (.cons (.int _) (.one (c.mono (s.trans m.ff))))⟩⟩
theorem wF{k:List PV->Prop}(h:Wq ss ta λtp xs=>tp=false/\∃ns:List Str,xs=ns.map PV.str/\Wp ss tb λp=>∃d:AW,p=dP d/\d.Ok 40 ns/\ns.length<=40/\k ((d.done ns).map PV.str)):
  Wn ss (C0 Yp [] E0 (AX ta (AX tb B4))) k:=⟨λE Z F H Q S q=>
 h.go E Z F H _ S λv tp xs F1 H1 b sv⟨LL,ns,ex,h2⟩=>h2.go E Z F1 H1 _ b.st λv2 p2 F2 H2 m2 f⟨d,o,hd,i,kk⟩=>by
  subst ex;subst o;obtain⟨l,vs,m,c,r⟩:=(sv.mv m2).seq m2.st;subst m;rw[r.strs]at c;obtain⟨t,n,j⟩:=RX f;subst n;refine⟨l,t,tp,ns,d,rfl,c,m2.st.fh _ _ j,LL,hd,i,λa H3 e s u=>?_⟩;have g:=m2.st.grow s;exact q a _ _ F2 H3 (b.trans (m2.trans g)) (m2.st.Bd e) ((b.trans m2).none e) u (Kk _) kk⟩
end
def yN:List Str:=["standing","kept","past","forgotten"]
theorem OG:∀ps:List PV,OV.G0 (ps.map .fz)=ps
 | []=>rfl
 |p::ps=>by rw[Bu,OV.G0,OV.pv,OG ps]
theorem mT(h:Nm x):jV x:=ZHn (by have:=h.2.1;omega) (ZCk h)
theorem sH{k:Nat}(h:k<=ns.length):EG ns none (some (k:Int))=ns.take k:=by
 unfold EG;rw[show HT.As ns.length 0 none=0 from rfl,UT,QU]
 congr 1
 simp only[HT.As];split <;> omega
structure Yd where
 row:List Str
 ln:List Str
 ll:List Lp
 pa:List PV
 fg:Nat
variable{s:Yd}
structure Yd.Ok (m:Nat) (s:Yd):Prop where
 row:FF m s.row
 m4:m<=40
 l1:s.ln.length=s.ll.length
 n1:s.ln.Nodup
 HB:s.ln.length<=12
 good:∀l∈s.ll,l.Good s.row
 nm:∀x∈s.ln,Nm x
def y0(ns:List Str):Yd:=⟨ns,[],[],[],0⟩
def Yd.Kd(s:Yd)(x r:Str):Yd:=⟨s.row,s.ln++[x],s.ll++[⟨r,0,CB s.row⟩],s.pa,s.fg⟩
noncomputable def Yd.MF(s:Yd)(x:Str):Yd:=⟨s.row,s.ln.eraseIdx (s.ln.idxOf x),s.ll.eraseIdx (s.ln.idxOf x),s.pa,s.fg⟩
def Yd.E5(s:Yd)(x:Str)(l:Lp):Yd:=⟨s.row,s.ln,s.ll.set (s.ln.idxOf x) (l.E5 s.row),s.pa,s.fg⟩
noncomputable def Fw(s:Yd)(d:AW)(i:Nat):List Lp:=(s.ll.take i).map (Lp.led s.row d)++s.ll.drop i
def Yd.mid(s:Yd)(d:AW)(i:Nat):Yd:=⟨s.row,s.ln,Fw s d i,s.pa,s.fg⟩
def HR(ns:List Str)(d:AW):PV:=.tup [.lst (ns.map .str),dP d]
def Yd.act(s:Yd)(d:AW):Yd:=⟨d.done s.row,s.ln,s.ll.map (Lp.led s.row d),s.pa++[HR s.row d],s.fg⟩
theorem cx(s:Yd)(d:AW):Fw s d s.ll.length=s.ll.map (Lp.led s.row d):=by
 unfold Fw;rw[Hv,oN,FN]
theorem kj(s:Yd)(d:AW)(i:Nat):(Fw s d i).length=s.ll.length:=by
 unfold Fw;rw[BE,AS,Bk,Co];omega
theorem c6(h:s.ll[i]?=some l):(Fw s d i)[i]?=some l:=by
 have hi:=(List.getElem?_eq_some_iff.mp h).1;unfold Fw;rw[Ji (by rw[AS,Bk];omega),AS,Bk,QJ,show i+(i - min i s.ll.length)=i by omega];exact h
theorem ko(h:s.ll[i]?=some l):(Fw s d i).set i (l.led s.row d)=Fw s d (i+1):=by
 obtain⟨hi,e⟩:=List.getElem?_eq_some_iff.mp h;unfold Fw;rw[List.set_append_right _ _ (by rw[AS,Bk];omega),AS,Bk,show i - min i s.ll.length=0 by omega,ZIm hi,bR,UZ hi,CD,Bj,e];rfl
theorem Yd.Ok.Kd(h:s.Ok m)(hx:x∉s.ln)(nx:Nm x)(f:r∈Cs)(c:s.ln.length<12):(s.Kd x r).Ok m:=by
 refine⟨h.row,h.m4,?_,?_,?_,λl c=>?_,λy d=>?_⟩
 .show(s.ln++[x]).length=(s.ll++[_]).length;rw[BE,BE,h.l1];rfl
 .refine List.nodup_append.mpr ⟨h.n1,by simp,λa i b g e=>?_⟩;rw[List.mem_singleton.mp g]at e;subst e;exact hx i
 .show(s.ln++[x]).length<=12;rw[BE];exact c
 .rcases List.mem_append.mp c with z|z
  .exact h.good l z
  .rw[List.mem_singleton.mp z];exact dZ h.row.nd f
 .rcases List.mem_append.mp d with z|z
  .exact h.nm y z
  .rw[List.mem_singleton.mp z];exact nx
theorem Yd.Ok.MF(h:s.Ok m)(x:Str):(s.MF x).Ok m:=by
 refine⟨h.row,h.m4,?_,h.n1.sublist (ZIo _ _),C7 (ZIo _ _).length_le h.HB,λl b=>h.good l (ZJ0 b),λy a=>h.nm y (ZJ0 a)⟩;show(s.ln.eraseIdx _).length=(s.ll.eraseIdx _).length;rw[ZIw,ZIw,h.l1]
theorem Yd.Ok.E5(h:s.Ok m)(b:l∈s.ll):(s.E5 x l).Ok m:=by
 refine⟨h.row,h.m4,?_,h.n1,h.HB,λa ER=>?_,h.nm⟩
 .show s.ln.length=(s.ll.set _ _).length;rw[J4];exact h.l1
 .rcases List.mem_or_eq_of_mem_set ER with z|z
  .exact h.good a z
  .rw[z];exact(kd (h.good l b)).1
theorem Yd.Ok.act(h:s.Ok m)(hd:d.Ok m s.row)(c:d.Ok 40 s.row):(s.act d).Ok m:=by
 refine⟨h.row.done hd,h.m4,?_,h.n1,h.HB,λl b=>?_,h.nm⟩
 .show s.ln.length=(s.ll.map _).length;rw[AS];exact h.l1
 .obtain⟨a,KZ,rfl⟩:=List.mem_map.mp b;exact(h.good a KZ).led c h.row.nd
theorem qe(h:FF m ns)(b:m<=40):(y0 ns).Ok m:=⟨h,b,rfl,QN,CF _,λl a=>absurd a B2,λl a=>absurd a B2⟩
def D6:List Key:=[.inr "row",.inr "kept",.inr "past"]
def B7(s:Yd)(a aK aP:Addr):OV:=.nd (.B0 D6) a [.fz (.lst (s.row.map .str)),.nd (.B0 (Au s.ln)) aK (BY s.ll),.nd .lst aP (s.pa.map .fz)]
def IB(s:Yd)(a:Addr)(t:OV):Prop:=∃aK aP,t=B7 s a aK aP
def Cq(s:Yd):PV:=.B0 D6 [.lst (s.row.map .str),.B0 (Au s.ln) (s.ll.map Lp.P),.lst s.pa]
def B5(s:Yd)(C a dx aK aP:Addr):OV:=.nd (.obj C dx yN) a [.fz (.lst (s.row.map .str)),.nd (.B0 (Au s.ln)) aK (BY s.ll),.nd .lst aP (s.pa.map .fz),.fz (.int s.fg)]
def Ei(s:Yd)(C a:Addr)(t:OV):Prop:=∃dx aK aP,t=B5 s C a dx aK aP
def Bv(s:Yd)(C:Addr):PV:=.obj C yN [.lst (s.row.map .str),.B0 (Au s.ln) (s.ll.map Lp.P),.lst s.pa,.int s.fg]
theorem eC(ll:List Lp):OV.G0 (BY ll)=ll.map Lp.P:=by
 unfold BY;rw[show(ll.map λl=>OV.fz l.P)=(ll.map Lp.P).map .fz by rw[GA];rfl,OG]
theorem Km(s:Yd)(C a dx aK aP:Addr):(B5 s C a dx aK aP).pv=Bv s C:=by
 unfold B5 Bv;simp only[OV.pv,OV.G0,OG,eC]
theorem NR(s:Yd)(a aK aP:Addr):(B7 s a aK aP).pv=Cq s:=by
 unfold B7 Cq;simp only[OV.pv,OV.G0,OG,eC]
theorem Ei.nd{s:Yd}{C a:Addr}{t:OV}(h:Ei s C a t):∃b us,t=.nd b a us:=by obtain⟨dx,aK,aP,rfl⟩:=h;exact⟨_,_,rfl⟩
theorem IB.nd{s:Yd}{a:Addr}{t:OV}(h:IB s a t):∃b us,t=.nd b a us:=by obtain⟨aK,aP,rfl⟩:=h;exact⟨_,_,rfl⟩
section
variable[Xw]
variable{lt:Bool}{K:ZKG}{C dx aP:Addr}{k:List Nat->OV->Prop}
theorem P9(hi:ss[i]?=some (.ow lt (B5 s C a dx aK aP)))(b:C3 K C)(c:Bg K C "standing")(h:k ([]++[0]) (.fz (.lst (s.row.map .str)))):Wl ss i (B5 s C a dx aK aP) (LP K (BJ i) "standing") k:=X6 (E2 hi ⟨C,dx,yN,a,_,0,_,rfl,b,c,by decide +kernel,rfl,h⟩)
theorem KG(hi:ss[i]?=some (.ow lt (B5 s C a dx aK aP)))(b:C3 K C)(c:Bg K C "kept")(h:k ([]++[1]) (.nd (.B0 (Au s.ln)) aK (BY s.ll))):Wl ss i (B5 s C a dx aK aP) (LP K (BJ i) "kept") k:=X6 (E2 hi ⟨C,dx,yN,a,_,1,_,rfl,b,c,by decide +kernel,rfl,h⟩)
theorem ZDQ(hi:ss[i]?=some (.ow lt (B5 s C a dx aK aP)))(b:C3 K C)(c:Bg K C "past")(h:k ([]++[2]) (.nd .lst aP (s.pa.map .fz))):Wl ss i (B5 s C a dx aK aP) (LP K (BJ i) "past") k:=X6 (E2 hi ⟨C,dx,yN,a,_,2,_,rfl,b,c,by decide +kernel,rfl,h⟩)
theorem K2(hi:ss[i]?=some (.ow lt (B7 s a aK aP)))(h:k ([]++[0]) (.fz (.lst (s.row.map .str)))):Wl ss i (B7 s a aK aP) (GJ (BJ i) (tC (V.str "row"))) k:=NC (E2 hi ⟨D6,a,_,rfl,Eg ⟨.inr "row", 0,_,rfl,by decide +kernel,rfl,h⟩⟩)
theorem Hz(hi:ss[i]?=some (.ow lt (B7 s a aK aP)))(h:k ([]++[1]) (.nd (.B0 (Au s.ln)) aK (BY s.ll))):Wl ss i (B7 s a aK aP) (GJ (BJ i) (tC (V.str "kept"))) k:=NC (E2 hi ⟨D6,a,_,rfl,Eg ⟨.inr "kept", 1,_,rfl,by decide +kernel,rfl,h⟩⟩)
theorem uk(hi:ss[i]?=some (.ow lt (B7 s a aK aP)))(h:k ([]++[2]) (.nd .lst aP (s.pa.map .fz))):Wl ss i (B7 s a aK aP) (GJ (BJ i) (tC (V.str "past"))) k:=NC (E2 hi ⟨D6,a,_,rfl,Eg ⟨.inr "past", 2,_,rfl,by decide +kernel,rfl,h⟩⟩)
end
theorem UA{k:NK}{x:OV}:(OV.nd k a [x,y,z,w]).put [1] u=.nd k a [x,u,z,w]:=by rw[OV.K5 (x:=y) rfl,OV.Gq];rfl
theorem vX{k:NK}{x:OV}:(OV.nd k a [x,y,z,w]).put [2] u=.nd k a [x,y,u,w]:=by rw[OV.K5 (x:=z) rfl,OV.Gq];rfl
inductive U5 (C:Addr) (l:List Slot) (R:Ae):Prop
 |mk (a dx:Addr) (ns:List Str) (_:l=[.ow true (.nd (.obj C dx []) a []),.is (.lst (ns.map .str))]) (_:FF 40 ns) (_:R=.mt λp t'=>p=.AG/\∃aK aP,t'=B5 (y0 ns) C a dx aK aP):U5 C l R
inductive SM (l:List Slot) (R:Ae):Prop
 |mk (ns:List Str) (_:l=[.is (.lst (ns.map .str))]) (_:FF 40 ns) (_:R=.is λp=>p=.AG):SM l R
inductive Pt (C:Addr) (l:List Slot) (R:Ae):Prop
 |mk (m:Nat) (s:Yd) (a:Addr) (t:OV) (x r:Str) (_:l=[.ow true t,.is (.str x),.is (.str r)]) (_:Ei s C a t) (_:s.Ok m) (_:x∉s.ln) (_:Nm x) (_:r∈Cs) (_:s.ln.length<12) (_:R=.mt λp t'=>p=.AG/\Ei (s.Kd x r) C a t'):Pt C l R
inductive Sj (C:Addr) (l:List Slot) (R:Ae):Prop
 |mk (m:Nat) (s:Yd) (a:Addr) (t:OV) (x:Str) (_:l=[.ow true t,.is (.str x)]) (_:Ei s C a t) (_:s.Ok m) (_:x∈s.ln) (_:R=.mt λp t'=>p=.AG/\Ei (s.MF x) C a t'):Sj C l R
inductive Rz (C:Addr) (l:List Slot) (R:Ae):Prop
 |mk (m:Nat) (s:Yd) (a:Addr) (t:OV) (x:Str) (lo:Lp) (_:l=[.ow true t,.is (.str x)]) (_:Ei s C a t) (_:s.Ok m) (_:x∈s.ln) (_:s.ll[s.ln.idxOf x]?=some lo) (_:R=.mt λp t'=>p=lo.told s.row/\Ei (s.E5 x lo) C a t'):Rz C l R
inductive TB (C:Addr) (l:List Slot) (R:Ae):Prop
 |mk (m:Nat) (s:Yd) (a:Addr) (t:OV) (d:AW) (_:l=[.ow true t,.is (dP d)]) (_:Ei s C a t) (_:s.Ok m) (_:d.Ok 40 s.row) (_:s.pa.length<=1000) (_:R=.mt λp t'=>p=.AG/\Ei (s.act d) C a t'):TB C l R
inductive Mo (C:Addr) (l:List Slot) (R:Ae):Prop
 |mk (s:Yd) (x:Str) (lo:Lp) (_:l=[.is (Bv s C),.is (.str x)]) (_:x∈s.ln) (_:s.ll[s.ln.idxOf x]?=some lo) (_:s.ln.length=s.ll.length) (_:R=.is λp=>p=lo.P):Mo C l R
inductive Tn (C:Addr) (l:List Slot) (R:Ae):Prop
 |mk (s:Yd) (_:l=[.is (Bv s C)]) (_:R=.new λxs=>xs=s.row.map .str):Tn C l R
inductive Qf (C:Addr) (l:List Slot) (R:Ae):Prop
 |mk (m:Nat) (s:Yd) (_:l=[.is (Bv s C)]) (_:s.Ok m) (_:R=.new λxs=>xs=(CB s.ln).map .str):Qf C l R
inductive Ld (C:Addr) (l:List Slot) (R:Ae):Prop
 |mk (s:Yd) (_:l=[.is (Bv s C)]) (_:s.pa.length<=2000) (_:R=.is λp=>p=.int (s.fg+s.pa.length)):Ld C l R
inductive Ts (l:List Slot) (R:Ae):Prop
 |mk (m:Nat) (_:l=[.AD,.is (.int m)]) (_:1<=m) (_:m<=40) (_:R=.ow λu=>∃ns a,FF m ns/\IB (y0 ns) a u):Ts l R
inductive PM (C:Addr) (l:List Slot) (R:Ae):Prop
 |mk (m:Nat) (s:Yd) (a1 a2:Addr) (t1 t2:OV) (d:AW) (_:l=[.ow true t1,.ow true t2,.is (dP d)]) (_:Ei s C a1 t1) (_:IB s a2 t2) (_:s.Ok m) (_:d.Ok 40 s.row) (_:s.pa.length<=1000) (_:R=.Iv λp u1 u2=>p=.bl true/\Ei (s.act d) C a1 u1/\IB (s.act d) a2 u2):PM C l R
inductive Qg (C:Addr) (l:List Slot) (R:Ae):Prop
 |mk (m:Nat) (s:Yd) (a1 a2:Addr) (t1 t2:OV) (_:l=[.ow true t1,.ow true t2]) (_:Ei s C a1 t1) (_:IB s a2 t2) (_:s.Ok m) (_:s.fg=0) (_:s.pa.length<=1000) (_:R=.Iv λp u1 u2=>p=.bl true/\u1=t1/\u2=t2):Qg C l R
inductive QZ (l:List Slot) (R:Ae):Prop
 |mk (lo:Lp) (_:l=[.is lo.P,.is lo.P]) (_:R=.is λp=>p=.bl true):QZ l R
section
variable[Xw]
variable{k:PV->Prop}
theorem ZBe(h:Wp ss te λp=>∃r:Str,p=.str r/\r∈Cs/\k .AG):Wp ss (C0 Ra [] E0 (AX te B4)) k:=⟨λE Z F H Q S q=>
 h.go E Z F H _ S λv p F1 H1 b a AO=>by
  obtain⟨r,e,c,kk⟩:=AO;subst e;cases a.inv;exact⟨r,rfl,c,q _ _ F1 H1 b .AG kk⟩⟩
end
theorem ZC5(nd:ns.Nodup){k:Nat}(e:ns[k]?=some x):x∉ns.take k:=λh=>by
 have a:=nd;rw[<- Hu k ns]at a;refine(List.nodup_append.mp a).2.2 x h x (DR (i:=0) ?_) rfl;rw[QJ];exact e
theorem OJ{α β:Type}(f:α->β):∀(l:List α)(i:Nat),(l.map f).eraseIdx i=(l.eraseIdx i).map f
 | [],_=>rfl
 |_::_,0=>rfl
 |a::l,i+1=>by rw[Bu,UU,UU,Bu,OJ f l i]
theorem Uq(l:Lp):EB l.P=true:=by
 have h:=ZY l.cs;unfold Lp.P Ca;rw[EB,Ge,Ge,Ge,h];rfl
theorem Te(ns:List Str)(l:Lp):Ku ns l.r l.g l.cs=.tup [l.told ns,(l.E5 ns).P]:=by
 unfold Ku Lp.told Lp.E5 Lp.P Dv Lo Js;unfold Dv;cases e:D5 ns l.g l.cs with
 |nil=>rfl
 |cons x r=>rfl
theorem vS:HP D6 (.inr "row")=D6:=by decide +kernel
theorem yD{x:OV}:GP D6 [x,y,z] (.inr "row") w=[w,y,z]:=by
 unfold GP;rw[show Cg D6 (.inr "row")=some 0 by decide +kernel];rfl
section
variable[Xw]
variable{lt:Bool}{k:PV->OV->Prop}
theorem W6(h:Wm ss i lt t te λp t'=>p=.AG/\k (.bl true) t'):Wm ss i lt t (By (λx y H Q=>y=V.AG/\Q (V.bl (decide (x=V.AG))) H) te (tC V.AG)) k:=⟨λE Z F H Q S q=>
 h.go E Z F H _ S λv p t' F1 H1 a r AO=>by
  obtain⟨e,kk⟩:=AO;subst e;cases r.inv;refine⟨rfl,?_⟩;rw[rD rfl];exact q _ _ t' F1 H1 a (.bl true) kk⟩
variable{y:PV}
theorem ZGx(C5:i≠j)(d:ss[j]?=some (.is y))(h:Wm ss i lt t te λp t'=>JN p y=true/\k (.bl (alike p y)) t'):Wm ss i lt t (By Zk te (BJ j)) k:=⟨λE Z F H Q S q=>
 h.go E Z F H _ S λv p t' F1 H1 a c AO=>by
  obtain⟨hs,kk⟩:=AO;obtain⟨v2,e,b⟩:=a.st.ok j (.is y) (by rw[CZ C5];exact d);refine⟨v2,e,?_⟩;have sc:=hs;unfold JN at sc;rw[Eb,Eb]at sc;rw[c.enc sc.1.1,b.enc sc.1.2];refine⟨sc.2,?_⟩;rw[Y9 hs];exact q _ _ t' F1 H1 a (.bl _) kk⟩
end
theorem pK(ns:List Str)(l:Lp):JN (l.told ns) (l.told ns)=true/\alike (l.told ns) (l.told ns)=true:=by
 unfold Lp.told;cases Dv ns l.g l.cs with
 |none=>exact⟨rfl,rfl⟩
 |some x=>exact⟨rfl,by show decide (x=x)=true;exact rD rfl⟩
theorem dO(ns:List Str):Ge (ns.map .str)=true:=by
 have h:=ZY ns
 rwa [EB]at h
theorem Sg.bare(fh:A9 F H){l:List Slot}{vs:List V}(a:l.length=vs.length)(ok:∀(n:Nat)s,l[n]?=some s->s=.any∨∃v p,vs[n]?=some v/\s=.is p/\Rep F v p):Sg ⟨[],F,H,[]⟩ l (vs.map some) F H:=by
 refine⟨⟨fh,A9.refl _,λ_ _ _ e=>e,λ_ _ e=>.inl e,λx h=>absurd h B2,λx h=>absurd h B2,λx h=>absurd h B2,λx h=>absurd h B2,λx h=>absurd h B2,λx h=>absurd h B2⟩,by rw[AS];exact a,λn s hn=>?_,λn j s u x Mp hn c ms b=>?_⟩
 .rcases ok n s hn with rfl|⟨v,p,hv,rfl,r⟩
  .trivial
  .rw[B1,hv];exact⟨v,rfl,r⟩
 .rcases ok n s hn with rfl|⟨v,p,hv,rfl,r⟩
  .cases ms
  .cases ms
def fW(F H:Hp):@Ent Rj:=@Ent.mk Rj ⟨[],F,H,[]⟩ λ_ _ _ _ _ _ _ _ _ d _=>d.elim
theorem kU{F:Hp}:∀n:Nat,Aa F (List.replicate n (V.bl true)) (List.replicate n (PV.bl true))
 | 0=>.nil
 |n+1=>by rw[ZJ3,ZJ3];exact .cons (.bl true) (kU n)
theorem ZB3{p:PV}{v a:V}{D:List (Key×V)}{F0 H3:Hp}{σ:VK}(h1:Wp [.any,.is tY.pv,.is (.str x)] T1 λq=>q=p)
  (h2:Wp [.is p,.is p] (C0 (Ag pre) [] E0 (AX (BJ 0) (AX (BJ 1) B4))) λq=>q=.bl true) (fh:A9 F0 H3) (h:Rep F0 a tY.pv) (g:Rep F0 v p) (d:H3 a2=some (.dK D))
  (t:∀H',H' a2=some (.dK D)->FC H' a2 (.str "kept") (some (.ref aK))) (r:∀H',(∀b u,H3 b=some u->H' b=some u)->FC H' aK (.str x) (some v))
  (go:∀H5,(∀b u,H3 b=some u->H5 b=some u)->σ (.bl true) H5) :
  C0 (Ag pre) [] E0 (AX T1 (AX (GJ (GJ (BJ 0) (tC (V.str "kept"))) (BJ 2)) B4)) ([V.ref a2,a,.str x].map some) H3 σ:=by
 refine h1.go (fW F0 H3) _ F0 H3 _ (Sg.bare fh rfl λn s hn=>?_) λv1 p1 F4 H4 m4 j o=>?_
 .match n,hn with
  | 0,hn=>cases hn;exact .inl rfl
  | 1,hn=>cases hn;exact .inr ⟨_,_,rfl,rfl,h⟩
  | 2,hn=>cases hn;exact .inr ⟨_,_,rfl,rfl,.str x⟩
  |n+3,hn=>simp at hn
 subst o;have np:∀b,Ce [.any,.is tY.pv,.is (.str x)] ([V.ref a2,a,.str x].map some) b:=λb n hn=>by
  match n,hn with
  | 0,hn=>cases hn
  | 1,hn=>cases hn
  | 2,hn=>cases hn
  |n+3,hn=>simp at hn
 have c:∀b u,H3 b=some u->H4 b=some u:=λb u e=>m4.hh b u (np b) e;refine⟨.ref a2,rfl,a2,.ref aK,rfl,t H4 (c _ _ d),.str x,rfl,aK,v,rfl,r H4 c,?_⟩;have z:=h2.go (fW F4 H4) ([v1,v].map some) F4 H4 σ (Sg.bare m4.st.fh rfl λn s hn=>?_) λw y F5 H5 k i m=>?_
 .obtain⟨_,ea,_,l,z⟩:=z;cases ea;cases l;exact z
 .match n,hn with
  | 0,hn=>cases hn;exact .inr ⟨_,_,rfl,rfl,j⟩
  | 1,hn=>cases hn;exact .inr ⟨_,_,rfl,rfl,g.mono m4.ff⟩
  |n+2,hn=>simp at hn
 .subst m;cases i;have f:∀b,Ce [.is p1,.is p1] ([v1,v].map some) b:=λb n hn=>by
   match n,hn with
   | 0,hn=>cases hn
   | 1,hn=>cases hn
   |n+2,hn=>simp at hn
  exact go H5 λb u e=>k.hh b u (f b) (c b u e)
theorem ql{jS jY:Nat}{l1 l2:Bool}{u0 u2:OV}{k:List PV->Prop}
  (M:ss[jS]?=some (.ow l2 (.nd (.B0 D6) a2 [u0,.nd (.B0 (Au ns)) aK (ps.map .fz),u2]))) (L:ss[jY]?=some (.ow l1 tY)) (C5:jY≠jS) (nd:ns.Nodup) (hl:ns.length<=1000)
  (h1:∀(n:Nat)x p,ns[n]?=some x->ps[n]?=some p->Wp [.any,.is tY.pv,.is (.str x)] T1 λq=>q=p)
  (h2:∀p∈ps,Wp [.is p,.is p] (C0 (Ag pre) [] E0 (AX (BJ 0) (AX (BJ 1) B4))) λq=>q=.bl true) (hk:k (List.replicate ns.length (.bl true))) :
  Wn ss (Zt (KD (WW (GJ (BJ jS) (tC (V.str "kept")))) [jS,jY] Md (C0 (Ag pre) [] E0 (AX T1 (AX (GJ (GJ (BJ 0) (tC (V.str "kept"))) (BJ 2)) B4))))) k:=⟨λE Z F H Q S q=>by
 obtain⟨v0,e0,r0,DY,q0⟩:=S.ok jS _ M;obtain⟨I,eY,rY,ndY,qY⟩:=S.ok jY _ L;obtain⟨vs,rfl,w,sd,ft,d⟩:=r0.inv;obtain⟨G,mn,rfl,r1,d⟩:=d.inv;obtain⟨w1,MS,rfl,r2,d⟩:=d.inv;obtain⟨D,jm,rfl,r3,d⟩:=d.inv;cases d;obtain⟨ws,rfl,hK,Y,O8,rk⟩:=r2.inv;have l:H a2=some (.dK (D6.zip [G,.ref aK,D])):=w;have B:H aK=some (.dK ((Au ns).zip ws)):=hK;have fl:(Au ns).length=ws.length:=O8;have kl:(Au ns).length=ns.length:=by unfold Au;rw[AS]
 have σ:=iH rk;have T:aK∈(OV.nd (.B0 D6) a2 [u0,.nd (.B0 (Au ns)) aK (ps.map .fz),u2]).addrs:=by
  simp[OV.addrs,OV.Ap]
 have nY:aK∉tY.addrs:=λz=>S.Bi jY jS _ _ aK C5 L M z T;have J:A9 F (BL F H tY.addrs):=λb u e=>by
  unfold BL
  by_cases c:b∈tY.addrs
  .rw[(qY b c).1]at e;cases e
  .rw[tJ c];exact e
 have rP:Rep (BL F H tY.addrs) I tY.pv:=rY.rep J λa w o ho=>by unfold BL;rw[tU w];exact ho
 have fK:BL F H tY.addrs aK=none:=by unfold BL;rw[tJ nY];exact(q0 aK T).1
 have P:A9 (BL F H tY.addrs) H:=λb u e=>by
  unfold BL at e
  by_cases c:b∈tY.addrs
  .rw[tU c]at e;exact e
  .rw[tJ c]at e;exact S.fh b u e
 have R:∀H':Hp,H' a2=some (.dK (D6.zip [G,.ref aK,D]))->FC H' a2 (.str "kept") (some (.ref aK)):=λH' h=>.inl ⟨_,.inr "kept",.inl h,rfl,(Vi (n:=1) (by decide +kernel) rfl rfl).symm⟩;refine⟨aK,_,B,.ref a2,e0,a2,.ref aK,rfl,R H l,aK,_,rfl,B,λo acc B6=>?_⟩;have s:acc≠aK:=λz=>by rw[z,AJ]at B6;cases B6
 have f:H acc=none:=by rw[Ah s]at B6;exact B6
 have r:a2≠aK:=λz=>by
  have:=DY;rw[z]at this;simp[OV.addrs,OV.Ap]at this
 have C:((Au ns).zip ws).length=ws.length:=by rw[QM];omega
 refine⟨λn m H2=>m=ws.length - n/\n<=ws.length/\H2 acc=some (.lst (List.replicate n (V.bl true)))/\∀b u,b≠acc->upd H aK (.Ct o (.dK ((Au ns).zip ws))) b=some u->H2 b=some u,⟨_,rfl,CF _,AJ,λb u i e=>by rw[Ah i];exact e⟩,?_⟩;rintro n m H2⟨rfl,hn,N,g⟩;have j:H2 aK=some (.Ct o (.dK ((Au ns).zip ws))):=g aK _ (BW s) AJ;have W:BL F H tY.addrs acc=none:=by
  cases e:BL F H tY.addrs acc with
  |none=>rfl
  |some u=>rw[P _ _ e]at f;cases f
 have A:A9 (BL F H tY.addrs) H2:=λb u e=>by
  refine g b u (λz=>by rw[z,W]at e;cases e) ?_;rw[Ah (λz=>by rw[z,fK]at e;cases e)];exact P b u e
 by_cases U:n<ws.length
 .refine .inr ⟨⟨j,by rw[C];exact U⟩,λx H3 y=>?_⟩;obtain⟨eH,t,v,YQ,ex⟩:=y;subst eH;subst ex;obtain⟨g1,O⟩:=nA YQ;unfold Md;dsimp only;rw[tU rfl];obtain⟨x,hx,ek⟩:∃x,ns[n]?=some x/\(Sum.inr x:Key)=t:=by
   unfold Au at g1;rw[B1]at g1;exact Option.map_eq_some_iff.mp g1
  subst ek;obtain⟨p,hp,rp⟩:=σ.get' O;have es:Bm [jS,jY] Z++[some (kV (.inr x))]=[V.ref a2,I,.str x].map some:=by
   show[(Z[jS]?).join,(Z[jY]?).join]++_=_;rw[e0,eY];rfl
  rw[es];refine ZB3 (h1 n x p hx hp) (h2 p (DR hp)) A rP (rp.mono J) (g a2 _ (λz=>by rw[z,f]at l;cases l) (by rw[Ah r];exact l)) R (λH4 k4=>.inl ⟨_,.inr x,.inr ⟨o,k4 _ _ j⟩,rfl,(Vi (Ii nd) g1 O).symm⟩) λH5 K=>?_;refine⟨_,K acc _ N,Mf (by rw[oZ];omega),ws.length - (n+1),by omega,rfl,U,?_,λb u i e=>by rw[Ah i];exact K b u (g b u i e)⟩;rw[AJ,List.replicate_succ']
 .have e:n=ws.length:=by omega
  subst e;refine .inl ⟨⟨j,C.symm⟩,o,_,j,?_⟩;have X:A9 H (upd H2 aK (.dK ((Au ns).zip ws))):=λb u e=>by
   by_cases c:b=aK
   .subst c;rw[AJ,<- B,e]
   .rw[Ah c];exact g b u (λz=>by rw[z,f]at e;cases e) (by rw[Ah c];exact e)
  refine q acc _ _ F _ (S.grow X) (S.Bd f) f (by rw[Ah s];exact N) (kU _) ?_;rw[<- fl,kl];exact hk⟩
end Fz
namespace L2
section
variable{X:Cx}
def lS(K:ZKG):List V->Hp->VK->Prop:=λxs H Q=>∃(p:Addr)(ss:List Int),xs=[.ref p]/\AK K H p (ss.map V.int)/\ss≠[]/\∀m∈ss,(∀y∈ss,m<=y)->Q (.int m) H
theorem ZCV(m:X.calm=true):D1 X (.builtin "min") (lS X.K):=by
 intro Zh s Z H xs us Q I r h;obtain⟨p,ss,rfl,k,Aj,q⟩:=h;obtain⟨u,rfl,d⟩:=vals1 r;cases d;obtain⟨A5,f,pl,_⟩:=I.list k;have hi:=lG f;obtain⟨ys,e⟩:=hi.allInts.items;have c:=pl.isList;rw[e]at c;have a:ys.toList.map (·.1)=ss:=by
  rw[<- nums_intItems,<- e];exact hi.numsOf
 have b:ys.size=ss.length:=by rw[<- a];simp
 have Ke:0<ss.length:=List.length_pos_iff.mpr Aj;refine min_intList (I.ok.hd m) c (by omega) λv h' tk i l=>?_;obtain⟨t',rfl⟩:=intItems_at i;obtain⟨w,o⟩:=argBest_lt (numAt ys) (ys.size - 1);refine⟨.int _,H,I.same l,⟨t',rfl⟩,q _ ?_ λy g=>?_⟩
 .rw[numAt_eq,a];exact getD_mem (by omega)
 .obtain⟨j,t,n⟩:=mem_getD g;have:=o j (by omega);rw[numAt_eq ys j,a,n]at this;exact this
end
end L2
namespace Fz
open L2 Lw
variable{ss:List Slot}{te:TE}{i n:Nat}{new:OV->OV->List Slot}{cs ns row:List Str}{x:Str}{l:Lp}
section
variable[Xw]
variable{K:ZKG}{k:PV->Prop}
theorem y6(h:Wq ss te λtp xs=>tp=false/\∃ns:List Int,xs=ns.map PV.int/\ns≠[]/\∀m∈ns,(∀y∈ns,m<=y)->k (.int m)):Wp ss (DA (lS K) (AX te B4)) k:=⟨λE Z F H Q S q=>
 h.go E Z F H _ S λv tp xs F1 H1 a sv z=>by
  obtain⟨f,ns,e,hn,kk⟩:=z;subst f;subst e;obtain⟨l,vs,rfl,b,r⟩:=sv.seq a.st;rw[r.ints]at b;exact⟨l,ns,rfl,AK.of b,hn,λm d c=>q _ _ F1 H1 a (.int _) (kk m d c)⟩⟩
variable{j:Nat}{l1 l2:Bool}{t1 t2:OV}
theorem Mv.m2{E:Ent0}{Z:L2.St}{F H F' H' F2 H2:Hp}{c u2:OV}(m:Mv E ss Z F H F' H')(b:T3 E ss (new c u2) Z t1 t2 F' H' F2 H2):T3 E ss (new c u2) Z t1 t2 F H F2 H2:=
 ⟨b.st,m.ff.trans b.ff,λa o np d e=>b.hh a o np d (m.hh a o np e),λa o e=>(b.nn a o e).elim (λe=>m.nn a o e) λe=>.inr (m.none e)⟩
theorem ZAS{c d:TT}{kk:Bool->OV->OV->Prop}(hn:new t1 t2=ss)(h:Wt ss c λb=>if b=true then kk true t1 t2 else Mb ss t1 t2 new d kk):Mb ss t1 t2 new (RF c d) kk:=⟨λE Z F H Q S go=>
 h.go E Z F H _ S λb F1 H1 f z=>by
  cases b with
  |true=>
   rw[tU rfl]at z;exact go true t1 t2 F1 H1 ⟨by rw[hn];exact f.st,f.ff,λa o np _ e=>f.hh a o np e,f.nn⟩ z
  |false=>
   rw[tJ (by decide)]at z;exact z.go E Z F1 H1 _ f.st λb g u2 F2 H2 m2 k2=>go b g u2 F2 H2 (f.m2 m2) k2⟩
end
def Ej(ns cs:List Str):List Str:=CB (BU ns (gr cs ns).g cs)
def Ju(n:Int)(ns:List Str)(lo:Lp):PV:=.tup [.int n,.str lo.r,.int lo.g,.tup [.int ((gr lo.cs ns).g:Nat),.tup ((Ej ns lo.cs).map .str)]]
theorem zW(cs:List Str)(nd:ns.Nodup):(Ej ns cs).length=fw cs ns:=by
 unfold Ej;rw[OI,(Yi cs nd).1]
theorem wW(cs:List Str):(Ej ns cs).length<=ns.length:=by
 unfold Ej BU;rw[OI,BE];have h1:=Ga (λx=>decide (x∈cs)) (ns.take (gr cs ns).g);have h2:=Ga (λx=>!decide (x∈cs)) (ns.drop (gr cs ns).g);rw[Bk]at h1;rw[Co]at h2;omega
theorem xl(cs:List Str)(nd:ns.Nodup):Up (Ej ns cs):=Nx (Mq nd _ _)
theorem zZ(h:x∈Ej ns cs):x∈ns:=iM (Jk.mp h)
theorem ZB0{q:PV}(nd:ns.Nodup)(h:jK ns cs q):q=.tup [.tup [.int ((gr cs ns).g:Nat),.tup ((Ej ns cs).map .str)],.lst ((gr cs ns).ps.map Zr)]:=by
 obtain⟨ts,a,st,rfl⟩:=h;rw[KP (Mq nd _ _) a st];rfl
theorem zN(nd:ns.Nodup)(hs:∀x∈cs,x∈ns)(a:cs.Nodup):(BU ns (gr cs ns).g (Ej ns cs)).Perm cs:=nP (Mq nd _ _) a λx=>by
 unfold Ej;rw[i3 nd (λy=>Jk) x];exact⟨λh=>h.2,λh=>⟨hs x h,h⟩⟩
theorem Sh(ns:List Str)(g:Nat)(cs:List Str):(BU ns g cs).length<=ns.length:=by
 unfold BU;rw[BE];have h1:=Ga (λx=>decide (x∈cs)) (ns.take g);have h2:=Ga (λx=>!decide (x∈cs)) (ns.drop g);rw[Bk]at h1;rw[Co]at h2;omega
def Kq(ns cs:List Str)(i:Nat):List Int:=(List.range i).map λg=>((BU ns g cs).length:Int)
theorem ZCG(nd:ns.Nodup){m:Int}(h1:m∈Kq ns cs (ns.length+1))(h2:∀y∈Kq ns cs (ns.length+1),m<=y):m=(fw cs ns:Nat):=by
 obtain⟨g,hg,rfl⟩:=List.mem_map.mp h1;have a:=ye cs nd g;obtain⟨e,c⟩:=Yi cs nd;have b:=h2 _ (List.mem_map.mpr ⟨(gr cs ns).g,List.mem_range.mpr (by omega),rfl⟩);rw[e]at b;omega
inductive RP (C:Addr) (l:List Slot) (R:Ae):Prop
 |mk (m:Nat) (s:Yd) (lo:Lp) (_:l=[.is (Bv s C),.is lo.P]) (_:s.Ok m) (_:lo.Good s.row) (_:s.pa.length<=2000) (_:R=.is λp=>p=Ju (s.fg+s.pa.length) s.row lo):RP C l R
inductive T6 (l:List Slot) (R:Ae):Prop
 |mk (ns ts:List Str) (g:Nat) (_:l=[.is (.lst (ns.map .str)),.is (.tup [.int g,.tup (ts.map .str)])]) (_:ns.length<=60) (_:R=.new λxs=>∃us:List Str,us.Perm (BU ns g ts)/\sortedS us=true/\xs=us.map .str):T6 l R
inductive Tf (l:List Slot) (R:Ae):Prop
 |mk (ns cs:List Str) (_:l=[.is (.lst (ns.map .str)),.is (.tup (cs.map .str))]) (_:ns.length<=60) (_:ns.Nodup) (_:R=.is λp=>p=.int (fw cs ns:Nat)):Tf l R
inductive Qr (l:List Slot) (R:Ae):Prop
 |mk (n:Int) (ns:List Str) (lo:Lp) (_:l=[.is (Ju n ns lo),.is (.int n),.is (.lst (ns.map .str)),.is lo.P]) (_:ns.length<=40) (_:ns.Nodup) (_:lo.Good ns) (_:R=.is λp=>p=.bl true):Qr l R
abbrev D8:=List (List Str×AW)
variable{ps:D8}
def GS(ps:D8):List PV:=ps.map λq=>HR q.1 q.2
def rowAt(ps:D8)(row:List Str)(i:Nat):List Str:=match ps[i]? with
 |some q=>q.1
 |none=>row
theorem MX{q:List Str×AW}(h:ps[i]?=some q):rowAt ps row i=q.1:=by unfold rowAt;rw[h]
theorem U1(ps:D8)(row:List Str):rowAt ps row ps.length=row:=by unfold rowAt;rw[M0 (Am _)]
structure HD (ps:D8) (row:List Str):Prop where
 ok:∀q∈ps,FF 40 q.1/\q.2.Ok 40 q.1
 nx:∀i q,ps[i]?=some q->q.2.done q.1=rowAt ps row (i+1)
theorem ZEh(row:List Str):HD [] row:=⟨λq h=>absurd h B2,λi q h=>by simp at h⟩
theorem HD.snoc{d:AW}(h:HD ps row)(b:FF 40 row)(hd:d.Ok 40 row):HD (ps++[(row,d)]) (d.done row):=by
 refine⟨λq f=>?_,λi q hi=>?_⟩
 .rcases List.mem_append.mp f with z|z
  .exact h.ok q z
  .rw[List.mem_singleton.mp z];exact⟨b,hd⟩
 .by_cases c:i<ps.length
  .rw[HK c]at hi;rw[h.nx i q hi]
   by_cases a:i+1<ps.length
   .unfold rowAt;rw[HK a];rw[B9 a]
   .have e:i+1=ps.length:=by omega
    rw[e,U1,MX (q:=(row,d)) (by rw[Ji (Am _),Ub];rfl)]
  .have g:=(List.getElem?_eq_some_iff.mp hi).1;rw[BE,QL]at g;have e:i=ps.length:=by omega
   subst e;rw[Ji (Am _),Ub]at hi;have j:(row,d)=q:=BX hi;subst j;unfold rowAt;rw[M0 (by rw[BE,QL];exact Am _)]
theorem HD.gh(h:HD ps row)(a:FF 40 row)(i:Nat):FF 40 (rowAt ps row i):=by
 unfold rowAt;cases e:ps[i]? with
 |none=>exact a
 |some q=>exact(h.ok q (DR e)).1
noncomputable def Dk(ps:D8)(n:Nat)(l:Lp):Nat->Lp
 | 0=>l
 |j+1=>match ps[n+j]? with
  |some q=>Lp.led q.1 q.2 (Dk ps n l j)
  |none=>Dk ps n l j
theorem Qo{ps:D8}{row:List Str}(h:HD ps row){n:Nat}{l:Lp}(g:l.Good (rowAt ps row n)):∀j,n+j<=ps.length->(Dk ps n l j).Good (rowAt ps row (n+j))
 | 0,_=>g
 |j+1,hj=>by
  have b:n+j<ps.length:=by omega
  have e:=B9 b;have a:=Qo h g j (J5 b);rw[MX e]at a;obtain⟨d,c⟩:=h.ok _ (DR e);unfold Dk;rw[e,show n+(j+1)=(n+j)+1 from rfl,<- h.nx _ _ e];exact a.led c d.nd
def FY(ps:D8)(n:Nat)(l:Lp):Lp:=Dk ps n l (ps.length - n)
theorem gO(h:HD ps row)(hn:n<=ps.length)(g:l.Good (rowAt ps row n)):(FY ps n l).Good row:=by
 have:=Qo h g (ps.length - n) (by omega);rw[show n+(ps.length - n)=ps.length by omega,U1]at this;exact this
def pg(row:List Str)(l:Lp):Nat->List Str×Lp
 | 0=>([],l)
 |n+1=>match Dv row (pg row l n).2.g (pg row l n).2.cs with
  |some x=>((pg row l n).1++[x],(pg row l n).2.E5 row)
  |none=>pg row l n
theorem MW{row:List Str}{l:Lp}(g:l.Good row):∀n,(pg row l n).2.Good row
 | 0=>g
 |n+1=>by
  unfold pg;cases Dv row (pg row l n).2.g (pg row l n).2.cs with
  |none=>exact MW g n
  |some x=>exact(kd (MW g n)).1
theorem Uw(row:List Str)(l:Lp):∀n,(pg row l n).1.length<=n
 | 0=>Am _
 |n+1=>by
  have:=Uw row l n;unfold pg;cases Dv row (pg row l n).2.g (pg row l n).2.cs with
  |none=>exact Ua this
  |some x=>show((pg row l n).1++[x]).length<=n+1;rw[BE];exact ZJ9 this
theorem ZEW(row:List Str)(g:Nat):Dv row g []=none:=by
 unfold Dv D5;have e:∀l:List Str,l.filter (HA [])=[]:=λl=>List.filter_eq_nil_iff.mpr λx _ h=>by cases h
 rw[e,e];rfl
theorem ZHx(g:l.Good row)(h:l.cs≠[]):∃x,Dv row l.g l.cs=some x:=by
 cases e:Dv row l.g l.cs with
 |some x=>exact⟨x,rfl⟩
 |none=>
  exfalso;cases d:l.cs with
  |nil=>exact h d
  |cons c r=>
   have b:c∈l.cs:=by rw[d];simp
   have a:c∈D5 row l.g l.cs:=by
    unfold D5;rw[Gb,Nf,Nf];have hi:HA l.cs c=true:=by unfold HA;simp[b]
    rcases SX l.g (g.sub c b)with z|z
    .exact .inr ⟨z,hi⟩
    .exact .inl ⟨z,hi⟩
   unfold Dv at e;rw[List.head?_eq_none_iff]at e;rw[e]at a;cases a
theorem YH(h:Dv row (pg row l n).2.g (pg row l n).2.cs=some x):pg row l (n+1)=((pg row l n).1++[x],(pg row l n).2.E5 row):=by
 conv=>lhs;unfold pg
 rw[h]
theorem oB(h:Dv row (pg row l n).2.g (pg row l n).2.cs=none):pg row l (n+1)=pg row l n:=by
 conv=>lhs;unfold pg
 rw[h]
theorem nQ{row:List Str}{l:Lp}{j:Nat}(h:(pg row l j).2.cs=[]):∀n,pg row l (j+n)=pg row l j
 | 0=>rfl
 |n+1=>by
  have a:=nQ h n;refine(oB (n:=j+n) ?_).trans a;rw[a,h,ZEW]
def Cb(n a:Nat)(row:List Str)(lo:Lp):PV:=.tup [.int n,.str lo.r,.int lo.g,.tup [.int a,.tup ((CB (BU row a lo.cs)).map .str)]]
structure Pu (m:Nat) (s:Yd) (ps:D8) (n sg:Nat) (lo:Lp):Prop where
 ok:s.Ok m
 pa:s.pa=GS ps
 fg:s.fg=0
 ch:HD ps s.row
 hn:n<=ps.length
 len:ps.length<=1000
 gd:lo.Good (rowAt ps s.row n)
 hs:sg<=(rowAt ps s.row n).length
theorem Gf(ps:D8):(GS ps).length=ps.length:=AS _
theorem ZBt(nd:ns.Nodup)(g:Nat)(hs:∀x∈cs,x∈ns)(up:Up cs):(BU ns g (CB (BU ns g cs))).Perm cs:=nP (Mq nd _ _) (L0 up) λx=>by
 rw[i3 nd (λy=>Jk) x];exact⟨λh=>h.2,λh=>⟨hs x h,h⟩⟩
inductive RI (l:List Slot) (R:Ae):Prop
 |mk (ns ts:List Str) (g:Nat) (_:l=[.is (.lst (ns.map .str)),.is (.tup [.int g,.tup (ts.map .str)])]) (_:g<=ns.length) (_:Up ts) (_:(∀x∈ts,x∈ns)) (_:ts.length<64) (_:R=.is λp=>p=.bl true):RI l R
inductive Qs (l:List Slot) (R:Ae):Prop
 |mk (n sg:Nat) (ns:List Str) (lo:Lp) (_:l=[.is (.lst (ns.map .str)),.is (Cb n sg ns lo)]) (_:FF 40 ns) (_:lo.Good ns) (_:sg<=ns.length) (_:R=.is λp=>p=lo.P):Qs l R
inductive UM (C:Addr) (l:List Slot) (R:Ae):Prop
 |mk (s:Yd) (n:Nat) (r:Str) (x y:PV) (_:l=[.is (Bv s C),.is (.tup [.int n,.str r,x,y])]) (_:n<=s.pa.length) (_:s.fg=0) (_:r∈Cs) (_:s.pa.length<=2000) (_:R=.is λp=>p=.AG):UM C l R
inductive Sq (C:Addr) (l:List Slot) (R:Ae):Prop
 |mk (s:Yd) (ps:D8) (n:Nat) (_:l=[.is (Bv s C),.is (.int n)]) (_:s.pa=GS ps) (_:s.fg=0) (_:n<=ps.length) (_:ps.length<=1000) (_:R=.is λp=>p=.lst ((rowAt ps s.row n).map .str)):Sq C l R
inductive Qe (C:Addr) (l:List Slot) (R:Ae):Prop
 |mk (m:Nat) (s:Yd) (ps:D8) (n sg:Nat) (lo:Lp) (_:l=[.is (Bv s C),.is (Cb n sg (rowAt ps s.row n) lo)]) (_:Pu m s ps n sg lo) (_:R=.is λp=>p=(FY ps n lo).P):Qe C l R
inductive Qq (C:Addr) (l:List Slot) (R:Ae):Prop
 |mk (m:Nat) (s:Yd) (ps:D8) (n sg:Nat) (lo:Lp) (c:Nat) (_:l=[.is (Bv s C),.is (Cb n sg (rowAt ps s.row n) lo),.is (.int c)]) (_:Pu m s ps n sg lo) (_:c<=100) (_:R=.ow λu=>∃a,u=.tp [.nd .lst a (((pg s.row (FY ps n lo) c).1.map PV.str).map .fz),.fz (Ju s.pa.length s.row (pg s.row (FY ps n lo) c).2)]):Qq C l R
inductive Qn (l:List Slot) (R:Ae):Prop
 |mk (m:Nat) (s:Yd) (ps:D8) (_:l=[.AD,.is (Cq s)]) (_:s.Ok m) (_:s.pa=GS ps) (_:s.fg=0) (_:HD ps s.row) (_:ps.length<=1000) (_:R=.is λp=>∃(n sg:Nat)(lo:Lp),p=.tup [Cb n sg (rowAt ps s.row n) lo,lo.P]/\Pu m s ps n sg lo):Qn l R
inductive Rh (l:List Slot) (R:Ae):Prop
 |mk (m:Nat) (s:Yd) (ps:D8) (n sg:Nat) (lo:Lp) (_:l=[.is (Cq s),.is (.int n),.is lo.P]) (_:Pu m s ps n sg lo) (_:R=.is λp=>p=(FY ps n lo).P):Rh l R
inductive SE (l:List Slot) (R:Ae):Prop
 |mk (ns:List Str) (lo:Lp) (c:Nat) (_:l=[.is (.lst (ns.map .str)),.is lo.P,.is (.int c)]) (_:lo.Good ns) (_:ns.length<=40) (_:c<=100) (_:R=.is λp=>p=.tup [.lst ((pg ns lo c).1.map .str),(pg ns lo c).2.P]):SE l R
inductive Qt (C:Addr) (l:List Slot) (R:Ae):Prop
 |mk (m:Nat) (s:Yd) (ps:D8) (n sg:Nat) (lo:Lp) (c:Nat) (_:l=[.is (Bv s C),.is (Cq s),.is (Cb n sg (rowAt ps s.row n) lo),.is lo.P,.is (.int c)]) (_:Pu m s ps n sg lo) (_:c<=100) (_:R=.is λp=>p=.bl true):Qt C l R
inductive Tt (C:Addr) (l:List Slot) (R:Ae):Prop
 |mk (m:Nat) (s:Yd) (a1 a2:Addr) (t1 t2:OV) (_:l=[.AD,.ow true t1,.ow true t2,.is (.int m)]) (_:1<=m) (_:Ei s C a1 t1) (_:IB s a2 t2) (_:s.Ok m) (_:s.pa.length<=1000) (_:R=.Iv λp u1 u2=>p=.bl true/\∃s',Yd.Ok m s'/\s'.pa.length<=s.pa.length+1/\s'.fg=s.fg/\(s'.pa=s.pa/\s'.row=s.row∨∃d:AW,d.Ok 40 s.row/\s'.pa=s.pa++[HR s.row d]/\s'.row=d.done s.row)/\Ei s' C a1 u1/\IB s' a2 u2):Tt C l R
theorem uE{g:Int}(a:0<=g)(h1:g<=n):JG n g=true:=by
 unfold JG;rw[rD a,rD h1];rfl
theorem tQ{ts:List Str}(up:Up ts)(sub:∀x∈ts,x∈ns):(IT ts && IK ns ts)=true:=by
 unfold IT IK;rw[rD up,Lx];exact List.all_eq_true.mpr λx hx=>rD (sub x hx)
section
variable[Xw]
variable{K:ZKG}{ta tb:TE}{k:PV->Prop}
theorem d8(h:Wq ss ta λtp xs=>∃ns:List Str,xs=ns.map PV.str/\Wp ss tb λp=>∃g:Int,p=.int g/\0<=g/\g<=ns.length/\k (.bl true)):Wp ss (C0 (O6 K) [] E0 (AX ta (AX tb B4))) k:=⟨λE Z F H Q S q=>
 h.go E Z F H _ S λv tp xs F1 H1 b sv z=>by
  obtain⟨ns,rfl,h2⟩:=z;refine h2.go E Z F1 H1 _ b.st λv2 p2 F2 H2 m2 d c=>?_;obtain⟨g,rfl,g0,g1,kk⟩:=c;cases d.inv;obtain⟨l,vs,rfl,a,r⟩:=(sv.mv m2).seq m2.st;rw[r.strs]at a;have e:C4 K tp H2 l (ns.map V.str):=by
   cases tp with
   |true=>exact AE.of a
   |false=>exact AK.of a
  refine⟨l,tp,ns,g,rfl,e,?_⟩;rw[uE g0 g1];exact q _ _ F2 H2 (b.trans m2) (.bl true) kk⟩
theorem uf(h:Wq ss ta λtp xs=>∃ns:List Str,xs=ns.map PV.str/\Wp ss tb λp=>∃ts:List Str,p=.tup (ts.map .str)/\Up ts/\(∀x∈ts,x∈ns)/\ts.length<64/\k (.bl true)):Wp ss (C0 (UH K) [] E0 (AX ta (AX tb B4))) k:=⟨λE Z F H Q S q=>
 h.go E Z F H _ S λv tp xs F1 H1 b sv z=>by
  obtain⟨ns,rfl,h2⟩:=z;refine h2.go E Z F1 H1 _ b.st λv2 p2 F2 H2 m2 f e=>?_;obtain⟨ts,rfl,up,sub,g,kk⟩:=e;obtain⟨c,ws,rfl,d,rt⟩:=f.inv;obtain⟨l,vs,rfl,a,r⟩:=(sv.mv m2).seq m2.st;rw[r.strs]at a;rw[rt.strs]at d;have i:C4 K tp H2 l (ns.map V.str):=by
   cases tp with
   |true=>exact AE.of a
   |false=>exact AK.of a
  refine⟨l,tp,ns,c,ts,rfl,i,AE.of (m2.st.fh _ _ d),g,λH3 s=>?_⟩;rw[tQ up sub];exact q _ _ F2 H3 (b.trans (m2.trans (m2.st.grow s))) (.bl true) kk⟩
theorem cS(h:Wp ss ta λp=>flat p=true/\k (.bl (!decide (Fz.enc p=V.AG)))):Wp ss (By (λx y H Q=>y=V.AG/\Q (V.bl (!decide (x=V.AG))) H) ta (tC V.AG)) k:=⟨λE Z F H Q S q=>
 h.go E Z F H _ S λv p F1 H1 b a z=>by
  obtain⟨c,kk⟩:=z;rw[a.enc c];exact⟨rfl,q _ _ F1 H1 b (.bl _) kk⟩⟩
theorem pH{ta:TA}{pre:Pre}{C:Addr}{m:Str}{k:List Nat->OV->Prop}(h:Wp ss te λo=>∃ns xs,o=.obj C ns xs/\D4 ns m=none/\Wa ss ta λl=>∃k',pre (.is o::l) (.ow k')/\∀u,k' u->k [] u):Wx ss (JB C m (Ag pre) [] E0 te ta) k:=⟨λE Z F H Q S q=>
 h.go E Z F H _ S λv o F1 H1 b j z=>by
  obtain⟨ns,xs,rfl,p,h2⟩:=z;obtain⟨a,dx,FP,rfl,d,w,t,i⟩:=j.inv;refine⟨a,dx,ns.zip FP,rfl,b.st.fh _ _ d,N2 p,h2.go E Z F1 H1 _ b.st λvs l F2 H2 m2 x g=>?_⟩;obtain⟨k',hp,kk⟩:=g;rw[FN];refine⟨.is (.obj C ns xs)::l,.ow k',F2,[],hp,m2.st.PN (.cons (s:=.is _) (Rep.obj (m2.ff _ _ d) (m2.ff _ _ w) t (i.mono m2.ff)) x),λv F' H' f e=>?_⟩;obtain⟨u,r,nd,hu,n⟩:=e;exact q v [] u F' H' (b.trans (m2.trans (m2.st.back (λ_ h=>absurd h B2) f))) r nd (λa c=>⟨(hu a c).1,S.EU (b.none (m2.none (hu a c).2)),.inr (b.none (m2.none (hu a c).2))⟩) (kk u n)⟩
end
def jn:PV->PV
 | .tup (x::_)=>x
 |p=>p
def Ir(ps:D8)(row:List Str):List PV:=(GS ps).map jn++[.lst (row.map .str)]
theorem sk(ps:D8)(row:List Str):(Ir ps row).length=ps.length+1:=by unfold Ir;rw[BE,AS,Gf];rfl
theorem tj(row:List Str)(h:n<=ps.length):(Ir ps row)[n]?=some (.lst ((rowAt ps row n).map .str)):=by
 unfold Ir GS;rw[GA]
 by_cases c:n<ps.length
 .have e:=B9 c;rw[HK (by rw[AS];exact c),B1,e,MX e];rfl
 .have e:n=ps.length:=by omega
  subst e;rw[Ji (by rw[AS];exact Am _),AS,Ub,U1];rfl
theorem ZIX(n a:Nat)(row:List Str)(lo:Lp):EB (.tup [Cb n a row lo,lo.P])=true:=by
 have h:=ZY (CB (BU row a lo.cs));have h2:=Uq lo;unfold Cb;simp only[EB,Ge,h,h2,Bool.and_self,b7];rw[EB]at h;exact h
section
variable(s0:Slot)(m:Nat)(C x a2:Addr)
inductive iw:Nat->List Slot->Prop
 |mk {i:Nat}(s:Yd) (dx aK aP bK bP:Addr) (s5 s6:Slot) (ok:s.Ok m) (hf:s.fg=0) (C2:s.pa=[]) (hl:s.ln.length<=i) :
   iw i [s0,.AD,.is (.int m),.ow false (B7 s a2 bK bP),.ow false (B5 s C x dx aK aP),s5,s6,.any,.any,.any,.any]
inductive fX:Nat->List Slot->Prop
 |mk {i:Nat}(s:Yd) (ps:D8) (dx aK aP bK bP:Addr) (s1 s5 s6 s7 s8 s9 FX:Slot) (ok:s.Ok m) (hf:s.fg=0) (C2:s.pa=GS ps) (ch:HD ps s.row) (hl:ps.length<=3 * i) :
   fX i [s0,s1,.is (.int m),.ow false (B7 s a2 bK bP),.ow false (B5 s C x dx aK aP),s5,s6,s7,s8,s9,FX]
inductive ah (s6 s7 s8 s9 FX:Slot):Nat->List Slot->Prop
 |mk {n:Nat}(s:Yd) (ps:D8) (dx aK aP bK bP:Addr) (s5:Slot) (ok:s.Ok m) (hf:s.fg=0) (C2:s.pa=GS ps) (ch:HD ps s.row) (hl:ps.length<=n) :
   ah s6 s7 s8 s9 FX n [s0,.AD,.is (.int m),.ow false (B7 s a2 bK bP),.ow false (B5 s C x dx aK aP),s5,s6,s7,s8,s9,FX]
end
end Fz
set_option maxHeartbeats 8000000
namespace Pf
open L2 Lw
variable{w:World}{mg:ZKI}{A3 EO f:Addr}{α:Type}{O9 XB YY aE:Tok}{l:PySem.W.OpenLaw}
abbrev St:=L2.St
noncomputable def top(i:Nat):Stmt:=PySem.Challenge.pw_stirround_k65_pages.main.body.getD i (.Pass ⟨0,0,0,0⟩)
abbrev U3:Stmt:=top 17
abbrev WH:Stmt:=top 57
abbrev Za:Stmt:=Fs (top 56) 0
abbrev Vx:Stmt:=top 42
abbrev YE:Stmt:=top 36
abbrev XT:Stmt:=Fs (top 56) 4
abbrev aG:Stmt:=top 60
abbrev av:Stmt:=top 61
abbrev XU:Stmt:=top 62
abbrev Ys:Stmt:=top 63
abbrev WK:Stmt:=top 64
abbrev Wf:Stmt:=top 65
abbrev Yn:Stmt:=top 76
abbrev WC:Stmt:=top 69
abbrev VY:Stmt:=top 72
abbrev Q2:Stmt:=top 84
abbrev W4:Stmt:=Fs (top 56) 6
abbrev VE:Stmt:=Fs (top 56) 7
abbrev aC:Stmt:=top 22
abbrev Su:Stmt:=top 44
abbrev Vu:Stmt:=top 35
abbrev Uj:Stmt:=top 43
abbrev RN:Stmt:=top 45
abbrev Wu:Stmt:=top 39
abbrev TJ:Stmt:=top 47
abbrev ay:Stmt:=top 19
abbrev YM:Stmt:=top 41
abbrev V1:Stmt:=top 37
abbrev W0:Stmt:=Fs (top 56) 5
abbrev W7:Stmt:=top 24
abbrev ZL:Stmt:=top 25
abbrev Z6:Stmt:=top 26
abbrev WE:Stmt:=top 23
abbrev Xh:Stmt:=top 29
abbrev Yl:Stmt:=top 27
abbrev R1:Stmt:=top 28
abbrev aw:Stmt:=top 20
abbrev V2:Stmt:=top 30
abbrev aX:Stmt:=top 31
abbrev WG:Stmt:=top 21
abbrev Ul:Stmt:=top 48
abbrev W8:Stmt:=top 46
abbrev aI:Stmt:=top 40
abbrev Uo:Stmt:=Fs (top 56) 3
abbrev SS:Stmt:=top 67
abbrev Yr:Stmt:=top 68
abbrev RC:Stmt:=top 70
abbrev ZD:Stmt:=top 78
abbrev VA:Stmt:=top 77
abbrev P4:Stmt:=top 71
abbrev Zi:Stmt:=top 66
abbrev Zx:Stmt:=top 79
abbrev az:Stmt:=Fs (top 56) 2
abbrev Y3:Stmt:=Fs (top 56) 15
abbrev XY:Stmt:=Fs (top 56) 16
abbrev aO:Stmt:=top 52
abbrev Py:Stmt:=top 50
abbrev Xo:Stmt:=top 58
abbrev X8:Stmt:=Fs (top 56) 14
abbrev Xb:Stmt:=top 53
abbrev Pk:Stmt:=top 54
abbrev Xu:Stmt:=top 51
abbrev Xi:Stmt:=Fs (top 56) 13
abbrev Vh:Stmt:=Fs (top 56) 11
abbrev Yx:Stmt:=top 86
abbrev YR:Stmt:=top 85
abbrev UD:Stmt:=top 81
abbrev S6:Stmt:=top 82
abbrev WM:Stmt:=top 73
abbrev Oa:Stmt:=top 83
abbrev UE:Stmt:=top 74
abbrev W5:Stmt:=top 87
abbrev WY:Stmt:=Fs (top 56) 1
abbrev V3:Stmt:=Fs (top 56) 8
abbrev ZW:Stmt:=top 75
abbrev T4:Stmt:=top 80
abbrev NW:Stmt:=top 88
variable{P:Program}{K:ZKG}{Zy:Heap}{fd:FuncData}
def gI{us:List α}(h:us.length=1):∃a,us=[a]:=by
 rcases us with _|⟨a,_|⟨b,us⟩⟩
 .cases h
 .exact⟨a,rfl⟩
 .cases h
def ln2{us:List α}(h:us.length=2):∃a b,us=[a,b]:=by
 rcases us with _|⟨a,us⟩
 .cases h
 .obtain⟨b,rfl⟩:=gI (QV h);exact⟨a,b,rfl⟩
def ly{us:List α}(h:us.length=3):∃a b c,us=[a,b,c]:=by
 rcases us with _|⟨a,us⟩
 .cases h
 .obtain⟨b,c,rfl⟩:=ln2 (QV h);exact⟨a,b,c,rfl⟩
def kD{us:List α}(h:us.length=4):∃a b c d,us=[a,b,c,d]:=by
 rcases us with _|⟨a,us⟩
 .cases h
 .obtain⟨b,c,d,rfl⟩:=ly (QV h);exact⟨a,b,c,d,rfl⟩
def bz{us:List α}(h:us.length=5):∃a b c d e,us=[a,b,c,d,e]:=by
 rcases us with _|⟨a,us⟩
 .cases h
 .obtain⟨b,c,d,e,rfl⟩:=kD (QV h);exact⟨a,b,c,d,e,rfl⟩
def rd{us:List α}(h:us.length=6):∃a b c d e f,us=[a,b,c,d,e,f]:=by
 rcases us with _|⟨a,us⟩
 .cases h
 .obtain⟨b,c,d,e,f,rfl⟩:=bz (QV h);exact⟨a,b,c,d,e,f,rfl⟩
local macro_rules | `(tactic| walk_at "bD1")=>`(tactic| (intro _ _ _ _ _ _ us hl;obtain⟨_,e⟩:=gI hl;subst e;rfl))
local macro_rules | `(tactic| walk_at "bD2")=>`(tactic| (intro _ _ _ _ _ _ us hl;obtain⟨_,_,e⟩:=ln2 hl;subst e;rfl))
local macro_rules | `(tactic| walk_at "bD3")=>`(tactic| (intro _ _ _ _ _ _ us hl;obtain⟨_,_,_,e⟩:=ly hl;subst e;rfl))
local macro_rules | `(tactic| walk_at "bD4")=>`(tactic| (intro _ _ _ _ _ _ us hl;obtain⟨_,_,_,_,e⟩:=kD hl;subst e;rfl))
local macro_rules | `(tactic| walk_at "bD5")=>`(tactic| (intro _ _ _ _ _ _ us hl;obtain⟨_,_,_,_,_,e⟩:=bz hl;subst e;rfl))
local macro_rules | `(tactic| walk_at "bD6")=>`(tactic| (intro _ _ _ _ _ _ us hl;obtain⟨_,_,_,_,_,_,e⟩:=rd hl;subst e;rfl))
abbrev nS(K:ZKG)(x:Str)(v:Value):Prop:=PySem.W.nsIn K mainGlobals x=some (some v)
abbrev nN(K:ZKG)(x:Str):Prop:=PySem.W.nsIn K mainGlobals x=some none
open Fz
def ZWM(t:String):Lean.MacroM (Lean.TSyntax `tactic):=do
 let g:Lean.TSyntax `tactic←`(tactic| fail)
 let k←`(tactic| case wk=>rfl)
 let n (s:String):=`(tactic| walk_at $(Lean.quote s):str)
 (t.splitOn " ").foldrM (λs r=>do
  let l:=((s.drop 1).toString.splitOn "/").map λx=>Lean.mkIdent (`Fz++x.toName)
  let h:Lean.Ident:=l.getLast!
  let c:=s.front
  let w:=(h.getId.getString!.toLower.replace "o" "e").replace "i" "e"
  let z←if c=='j' then `($h ?wj ?wk ?_)else if c=='k'||c=='K' then `($h ?wk ?_)else `($h ?_)
  let z←l.dropLast.foldrM (λ(f:Lean.Ident)(z:Lean.Term)=>`($f ($z))) z
  let p←if c=='e' then `(tactic| show ∃_,_=$h _/\_)else if c=='s' then `(tactic| show $h _ _ _)else `(tactic| refine' $z)
  let p←if c=='K'||c=='R'||c=='j' then pure p else `(tactic| with_reducible $p:tactic)
  let q←if c=='e' then `(tactic| refine⟨_,rfl,?_⟩)else if c=='s' then n w else if c=='n' then n "wn" else if c=='p' then n "wp" else if c=='k'||c=='K' then pure k else if c=='j' then `(tactic| ((case wj=>rfl);$k:tactic))else `(tactic| skip)
  `(tactic| first|($p:tactic;$q:tactic) | $r:tactic)) g
local macro_rules | `(tactic| walk_at "wp")=>ZWM "kU2 kDq/Np/E2 kDq/TX/E2 kDq/Np/Np/E2 kDq/TX/TX/E2 kDq/TX/Np/E2 kU2 kAL rCY rEg ryR rZDE rUN rUt rjj rdf rN0 rjD ru6 kZHB rOL rgT rDJ ruG rZE9 rKh rYC rkY rZHF rcE riZ kZFk rZBH KyX Kqg kic KZH3 KQb KZAz"
local macro_rules | `(tactic| walk_at "wn")=>ZWM "reW riD rYu ryz RzA rjH KWD jgs"
local macro_rules | `(tactic| walk_at "wq")=>do
 let z←ZWM "kkT kZGv kGz kDE"
 `(tactic| first | $z:tactic|(refine BS (DT ?_);walk_at "wn")|(refine BS ?_;walk_at "wp"))
local macro_rules | `(tactic| walk_at "wz")=>`(tactic| first
 | ((with_reducible refine' jP ?wk ?_);(case wk=>rfl))
 | (with_reducible refine' zI ?_)
 | (refine Hc (DT ?_);walk_at "wn")
 | (refine Hc ?_;walk_at "wp"))
local macro_rules | `(tactic| walk_at "wt")=>ZWM "rLc rDg rSG rDz rdU rGL"
local macro_rules | `(tactic| walk_at "we")=>ZWM "rHY rJK rXd rXF rqI rzf rKL"
local macro_rules | `(tactic| walk_at "w")=>do
 let z←ZWM "rAw rFT rE4 rCM kSY kYX nHq pFp nYG pFU"
 let z1←ZWM "eOV.tp eOV.fz"
 let z2←ZWM "sWn sWq sWz sWt sWe sWo sWi"
 let z3←ZWM "ePV.int ePV.str ePV.bl"
 `(tactic| first | $z1:tactic|((with_reducible show ∃_ _,_=OV.nd NK.lst _ _/\_);refine⟨_,_,rfl,?_⟩)|((with_reducible show ∃_ _ _,_=PV.int _/\_/\_/\_);refine⟨_,_,_,rfl,rfl,rfl,?_⟩)|((with_reducible show Wp _ _ _);first|walk_at "wp" | (refine DT ?_;walk_at "wn")) | $z2:tactic|((with_reducible show Ws _ _ _ _);$z:tactic) | $z3:tactic|((with_reducible show(_:Bool)=_/\_);refine⟨rfl,?_⟩)|((with_reducible show ∃_ _,_=PV.int _/\L2.Bf _ _=some _/\_);refine⟨_,_,rfl,rfl,?_⟩)|((with_reducible show ∃_,(_=PV.lst _/\_)∨(_=PV.tup _/\_));first|refine⟨_,.inl ⟨rfl,?_⟩⟩|refine⟨_,.inr ⟨rfl,?_⟩⟩)|((with_reducible show ∃_,_=List.map _ _/\_);first|refine⟨_,rfl,?_⟩|refine⟨[],rfl,?_⟩|refine⟨_,rF _ _ _ _,?_⟩|refine⟨_,cg _ _ _,?_⟩|refine⟨_,ZBD _ _,?_⟩))
local macro_rules | `(tactic| walk_at "ww")=>`(tactic| repeat walk_at "w")
local macro_rules | `(tactic| walk_at "z1")=>`(tactic| exact⟨rfl,rfl,rfl,by decide +kernel,rfl,by decide +kernel,by decide +kernel⟩)
local macro_rules | `(tactic| walk_at "z2")=>`(tactic| exact⟨rfl,by decide +kernel,by decide +kernel,rfl,rfl,by decide +kernel,by decide +kernel,by decide +kernel,by decide +kernel⟩)
def zD:Ai ["text"] ["text"] (AR U3):=by walk_at "z1"
noncomputable abbrev Sc(l):=Scope.mk .function l false false []
noncomputable def ZIO:=Sc [(".0",.local),("sign",.local),("LETTERS",.globalImplicit)]
def wZ:Cc ["text"] (AR U3) ZIO "sign" [] []:=by walk_at "z2"
variable(Ez:mg "all"=none)(Af:mg "len"=none)(V5:mg "LETTERS"=some (.str "abcdefghijklmnopqrstuvwxyz" aE))(Vb:mg "MOST_LETTERS"=some (.int 8 YY))(JM:A8 P w K mg Zy "is_name" 1 ["text"] (PZ))(NF:mg "enumerate"=none)(MQ:mg "MOST_THINGS"=some (.int 40 O9))(aZ:A8 P w K mg Zy "check_new_row" 3 ["row"] (Ag SM))(Bx:mg "list"=none)(Ao:C3 K A3)(FW:Bg K A3 "forgotten")(Cn:Bg K A3 "kept")(Fj:Bg K A3 "past")(Cf:Bg K A3 "standing")(J9:mg "RULES"=some (.ref EO))(JE:∀H,AE K H EO [.str "none",.str "ahead",.str "all"])(N7:A8 P w K mg Zy "check_rule" 1 ["rule"] (Ra))(BK:mg "sorted"=none)(BQ:mg "tuple"=none)(Wr:A8 P w K mg Zy "begun" 2 ["row","rule"] (YV K))(Vl:mg "MOST_LOOPS"=some (.int 12 XB))(P6:A8 P w K mg Zy "_law_letters" 1 ["number"] (kI))(BG:A8 P w K mg Zy "_law_take" 1 ["pot","many"] (IV))(Gw:A8 P w K mg Zy "_law_name" 2 ["pot","names"] (ML K))(D9:mg "range"=none)(VD:A8 P w K mg Zy "_law_names" 3 ["pot","many"] (nE))(X3:A8 P w K mg Zy "_law_row" 4 ["pot","most"] (ZR))(JJ:A8 P w K mg Zy "_law_begun" 1 ["row","rule"] (Ag Pb))(V8:A8 P w K mg Zy "_law_some_loop" 2 ["pot","row"] (aS))(JI:Br P w K mg Zy A3 "loop" 1 ["self","name"] (Ag (Mo A3)))(NN:mg "set"=none)(N9:A8 P w K mg Zy "is_coming" 1 ["row","coming"] (UH K))(JF:A8 P w K mg Zy "is_gap" 1 ["row","gap"] (O6 K))(XD:A8 P w K mg Zy "is_loop" 2 ["row","thing"] (jh K))(Zl:A8 P w K mg Zy "check_loop" 3 ["row","loop"] (cR K))(TY:A8 P w K mg Zy "things_to_come" 1 ["things","loop"] (gB K))(MN:A8 P w K mg Zy "coming_without" 1 ["coming","gone"] (XN K))(FH:A8 P w K mg Zy "place_of" 1 ["row","name"] (Kz))(VB:A8 P w K mg Zy "loop_telling" 2 ["row","loop","name"] (lb K))(ZO:A8 P w K mg Zy "rest" 4 ["row","loop"] (eF K))(N1:A8 P w K mg Zy "step_loops" 5 ["row","loop"] (Tp K))(VJ:A8 P w K mg Zy "check_move" 2 ["row","name","at"] (ip))(Xf:A8 P w K mg Zy "check_put" 2 ["row","name","at"] (cI))(VQ:A8 P w K mg Zy "check_turn" 1 ["row","low","high"] (mK))(Mt:mg "reversed"=none)(ai:A8 P w K mg Zy "check_deed" 3 ["row","deed"] (o3))(YD:A8 P w K mg Zy "row_turned" 1 ["row","low","high"] (jw))(Qm:A8 P w K mg Zy "row_with" 1 ["row","name","at"] (gY))(Sw:A8 P w K mg Zy "row_without" 1 ["row","name"] (mZ))(R6:A8 P w K mg Zy "gap_behind_put" 1 ["gap","at"] (kN))(RD:A8 P w K mg Zy "gap_behind_take" 1 ["gap","place"] (dG))(VW:A8 P w K mg Zy "joins" 1 ["loop","at"] (jy))(V0:A8 P w K mg Zy "coming_behind" 2 ["loop","deed"] (fF))(aQ:A8 P w K mg Zy "gap_led" 3 ["row","gap","deed"] (fP))(Zm:A8 P w K mg Zy "done" 4 ["row","deed"] (Yp))(M9:A8 P w K mg Zy "loop_led" 4 ["row","loop","deed"] (SU))(Gs:mg "int"=none)(b4:A8 P w K mg Zy "_law_gap" 1 ["row","gap","deed"] (kf))(Vd:Br P w K mg Zy A3 "act" 9 ["self","deed"] (DB (TB A3)))(XC:A8 P w K mg Zy "_law_done" 1 ["row","deed"] (ZU))(MV:A8 P w K mg Zy "_law_led" 2 ["row","loop","deed"] (RY))(MH:Br P w K mg Zy A3 "begin" 8 ["self","name","rule"] (DB (Pt A3)))(YK:Br P w K mg Zy A3 "drop" 3 ["self","name"] (DB (Sj A3)))(Us:Br P w K mg Zy A3 "step" 8 ["self","name"] (DB (Rz A3)))(Xa:A8 P w K mg Zy "_law_acts" 10 ["yard","state","deed"] (DB (PM A3)))(XR:A8 P w K mg Zy "_law_deed" 3 ["pot","row","most"] (Rr))(X5:A8 P w K mg Zy "_law_rule" 2 ["pot"] (Ag Yq))(Mc:A8 P w K mg Zy "_law_step" 1 ["row","loop"] (U9))(GY:Br P w K mg Zy A3 "count" 1 ["self"] (Ag (Ld A3)))(Vq:A8 P w K mg Zy "is_slip" 2 ["row","slip"] (Ag RI))(Xk:A8 P w K mg Zy "shown" 1 ["row","slip"] (Ag Yz))(aD:Br P w K mg Zy A3 "check_time" 2 ["self","ticket"] (Ag (UM A3)))(ak:Br P w K mg Zy A3 "row_at" 2 ["self","number"] (Ag (Sq A3)))(Vs:A8 P w K mg Zy "loop_at" 3 ["row","ticket"] (Ag Qs))(Y2:A8 P w K mg Zy "check_coming" 2 ["row","coming"] (Ag Zn))(ao:A8 P w K mg Zy "marks_at" 1 ["row","gap","coming"] (Ag ZJ))(aL:A8 P w K mg Zy "least_slip" 3 ["row","coming"] (Ag Yt))(Vr:Br P w K mg Zy A3 "led_on" 9 ["self","ticket"] (Ag (Qe A3)))(XX:Br P w K mg Zy A3 "ticket_now" 4 ["self","loop"] (Ag (RP A3)))(MJ:mg "min"=none)(ZN:mg "bool"=none)(Dl:mg "isinstance"=none)(WJ:A8 P w K mg Zy "_law_least" 1 ["row","coming"] (Ag Tf))(aJ:A8 P w K mg Zy "_law_shown" 1 ["row","slip"] (Ag T6))(JC:A8 P w K mg Zy "_law_whole" 1 ["found"] (Ag PK))(Mx:mg "str"=none)(Zq:Br P w K mg Zy A3 "page" 10 ["self","ticket","many"] (Ag (Qq A3)))(VG:A8 P w K mg Zy "_law_is_ticket" 2 ["found","count","row","loop"] (Ag Qr))(WA:A8 P w K mg Zy "_law_led_on" 5 ["state","number","loop"] (Ag Rh))(Zd:A8 P w K mg Zy "_law_steps" 5 ["row","loop","many"] (Ag SE))(L3:A8 P w K mg Zy "_law_texts" 1 ["found"] (Ag T7))(YT:Br P w K mg Zy A3 "loops" 1 ["self"] (Ag (Qf A3)))(Yo:Br P w K mg Zy A3 "row" 1 ["self"] (Ag (Tn A3)))(aR:A8 P w K mg Zy "_law_is_loop" 2 ["found","due"] (Ag QZ))(aa:WR P w K mg Zy A3 4 ["self","row"] (DB (U5 A3)))(Xs:A8 P w K mg Zy "_law_new" 6 ["pot","most"] (Ag Ts))(Zw:A8 P w K mg Zy "_law_paged" 11 ["yard","state","ticket","loop","many"] (Ag (Qt A3)))(Tg:A8 P w K mg Zy "_law_pot" 1 ["script","k"] (ZT K))(Z5:A8 P w K mg Zy "_law_some_ticket" 6 ["pot","state"] (Ag Qn))(Xl:A8 P w K mg Zy "_law_stands" 5 ["yard","state"] (DB (Qg A3)))(ar:A8 P w K mg Zy "_law_turn" 11 ["pot","yard","state","most"] (DB (Tt A3)))(YO:mg "max"=none)(Zo:mg "Yard"=some (.ref A3))
def ZB4(F:AF K "is_name" "is_name" U3 f fd)(m:mg "is_name"=some (.ref f)):
  A8 P w K mg Zy "is_name" 1 ["text"] (PZ):=by
 refine A8.mk F (F.binds (by walk_at "bD1")) m (F.Al (k:=0) zD (λvs H Q E h=>?_) (λAV A outer s H vs Q E g h=>?_))
 .obtain⟨x,rfl,hx,q⟩:=h;rfl
 obtain⟨x,rfl,hx,q⟩:=h;refine⟨_,(AA rfl (AZ (Hf (mS FQ FQ A7 (Ak lM Af (A0 (qv 0) A4)) (KA (v:=.int 8) (by rfl) Vb ⟨_,rfl⟩)) (Ih (Ak (MU rfl) Ez (A0 (Fi rfl wZ (ZHc (qv 0)) (λ_ _ _ _=>by exact Lg) (λ_ _ _ _=>by exact(Cj ZEX (qv 0) (KA (v:=.str "abcdefghijklmnopqrstuvwxyz") (by rfl) V5 ⟨_,rfl⟩)))) A4)))))),?_⟩;refine⟨_,rfl,_,rfl,small (by omega),_,_,rfl,rfl,_,rfl,?_⟩;refine B3 (λc=>?_) (λc=>⟨_,rfl,DQ ?_⟩)
 .refine⟨_,_,rfl,rfl,_,rfl,?_⟩;refine B3 (λa=>?_) (λa=>?_)
  .refine⟨_,rfl,x,rfl,λacc B6=>ZCJ (λ_=>true) jN B6 (by rw[<- HI,<- IZ];exact small (by omega)) (λi v H' Q' _ _ h=>h H' (A9.refl _)) (λi v H' Q' d _ _ h=>?_) (λH' s1 b=>?_)⟩
   .obtain⟨j,rfl⟩:=signs_get d;exact⟨_,rfl,_,_,rfl,rfl,h H' (A9.refl _)⟩
   .rw[ZCd]at b;refine⟨acc,_,rfl,AK.of b,?_⟩;rw[all_map];have e:isNm x=x.cps.toList.all QY:=by unfold isNm;rw[c,a];rfl
    rw[<- e];exact q H' s1
  .have e:isNm x=false:=by unfold isNm;rw[Bool.eq_false_iff.mpr a];simp
   rw[<- e];exact q H (A9.refl _)
 .have e:isNm x=false:=by unfold isNm;rw[Bool.eq_false_iff.mpr c];simp
  rw[<- e];exact q H (A9.refl _)
def Qx:Ai ["row","name","place"] ["row"] (AR WH):=by walk_at "z1"
def oE : ∀ss R,SM ss R->ss.length=1:=by rintro _ _⟨ns,rfl,_,rfl⟩;rfl
def ZHk(F:AF K "check_new_row" "check_new_row" WH f fd)(m:mg "check_new_row"=some (.ref f)):
  A8 P w K mg Zy "check_new_row" 3 ["row"] (Ag SM):=by
 refine A8.mk F (F.binds (by walk_at "bD1")) m (F.Al (k:=2) Qx (λvs H Q E h=>Fz.CO oE h) (λAV A outer s H vs Q E b h=>?_))
 refine⟨_,(AB rfl (CJ (FG Ec rfl (DF (qv 0)) (Bp 1 Qx.nd) (AA rfl (Aq (CT (DK (AM JM b (A0 (qv 1) A4)))) (AA rfl E6) Ay))))
   (AB rfl (CJ (FG Ec rfl (ZDy rfl NF (A0 (qv 0) A4)) (J3 rfl (DV (Bp 2 Qx.nd) (DV (Bp 1 Qx.nd) IE))) (AA rfl (Aq (Ac FE (qv 1) (DM IM (qv 0) Dn (Cr (qv 2)))) (AA rfl E6) Ay))))
   (AA rfl (Aq (Ac Qu (Ak DU Af (A0 (qv 0) A4)) (KA (v:=.int 40) (by rfl) MQ ⟨_,rfl⟩)) (AA rfl E6) Ay)))),?_⟩
 refine Fz.CK h oE ?_;rintro _ _⟨ns,rfl,a,rfl⟩;show Ws [_,.any,.any] _ _ _;refine Aw (FT (G1 (λ_ i AH=>∃s1 s2:Slot,AH=[.is (.lst (ns.map .str)),s1,s2]) (KL (Hc (AL rfl ⟨_,.inl ⟨rfl,?_⟩⟩)))));refine⟨⟨_,_,rfl⟩,?_,?_⟩
 .rintro k p AH hp⟨s1,s2,rfl⟩;rw[B1]at hp;obtain⟨x,ex,rfl⟩:=Option.map_eq_some_iff.mp hp;refine He ?_;have hx:=a.nm x (DR ex);refine E4 (Dz (Dg (nO (AL rfl ⟨x,rfl,(mT hx).2,_,rfl,?_⟩))));rw[YZ hx];exact BH (by decide) (CM ⟨_,_,rfl⟩)
 .rintro AH⟨s1,s2,rfl⟩;refine Aw (FT (G1 (λ_ i AH=>∃s1 s2:Slot,AH=[.is (.lst (ns.map .str)),s1,s2]) (ZGH (Hc (AL rfl ⟨_,.inl ⟨rfl,rfl,?_⟩⟩)))));refine⟨⟨_,_,rfl⟩,?_,?_⟩
  .rintro k q AH d⟨s1,s2,rfl⟩;obtain⟨g,hx,rfl⟩:=fq d;rw[B1]at hx;obtain⟨x,ex,rfl⟩:=Option.map_eq_some_iff.mp hx;have e:=(List.getElem?_eq_some_iff.mp ex).1;refine Lq ⟨_,_,rfl,?_⟩
   walk_at "ww"
   rw[sH (J5 e)];refine B3 (λc=>?_) (λc=>CM ⟨_,_,rfl⟩);exact absurd (tZ c) (ZC5 a.nd ex)
  .rintro AH⟨s1,s2,rfl⟩
   walk_at "ww"
   rw[AS];have:=a.len;exact BH (λz=>by have:=tZ z;omega) (CM ⟨_,rfl,rfl⟩)
def ZEt:Ai ["self","row"] ["self","row"] (AR Za):=by walk_at "z1"
def lQ:∀ss R,(U5 A3) ss R->ss.length=2:=by rintro _ _⟨a,dx,ns,rfl,_,rfl⟩;rfl
def pJ(F:AF K "__init__" "Yard.__init__" Za f fd)(d:Mk K A3 f):
  WR P w K mg Zy A3 4 ["self","row"] (DB (U5 A3)):=by
 refine⟨f,fd,F.Al (k:=3) ZEt (λvs H Q E h=>Fz.Jq lQ h) (λAV A outer s H vs Q E e h=>?_),(F.binds (by walk_at "bD2")),d⟩
 refine⟨_,(AB rfl (CI (AM aZ e (A0 (qv 1) A4)))
   (AB rfl (PB (qv 0) (CS KO Bx (A0 (qv 1) A4)))
   (AB rfl (PB (qv 0) kq)
   (AB rfl (PB (qv 0) (Dw A4))
   (AA rfl (PB (qv 0) A7)))))),?_⟩
 refine Fz.SF h lQ ?_;rintro _ _⟨a,dx,ns,rfl,g,rfl⟩;show Ws [_,_] _ _ _;refine Aw (MR (wp_call (BR (AL rfl (Bc ⟨_,⟨ns,rfl,g,rfl⟩,λp hp=>?_⟩)))));refine Aw (Nj (i:=0) (FD (DT (WD rfl (BS (AL rfl ⟨_,.inl ⟨rfl,E2 rfl ⟨true,A3,dx,_,a,_,rfl,rfl,Ao,Cf,by decide,B2,?_⟩⟩⟩))))));rw[OV.Gq];show Ws [.ow true (.nd (.obj A3 dx ["standing"]) a [.fz (.lst (ns.map .str))]),_] _ _ _;refine Aw (Nj (i:=0) (nV λb=>E2 rfl ⟨true,A3,dx,_,a,_,rfl,rfl,Ao,Cn,by decide,B2,?_⟩));rw[OV.Gq];show Ws [.ow true (.nd (.obj A3 dx ["standing","kept"]) a [.fz (.lst (ns.map .str)),.nd (.B0 []) b []]),_] _ _ _;refine Aw (Nj (i:=0) (iU (Qw ⟨by decide,λc=>E2 rfl ⟨true,A3,dx,_,a,_,rfl,rfl,Ao,Fj,by decide,B2,?_⟩⟩)));rw[OV.Gq];show Ws [.ow true (.nd (.obj A3 dx ["standing","kept","past"]) a [.fz (.lst (ns.map .str)),.nd (.B0 []) b [],.nd .lst c []]),_] _ _ _;refine Nj (i:=0) (FD (CY (E2 rfl ⟨true,A3,dx,_,a,_,rfl,rfl,Ao,FW,by decide,B2,?_⟩)));rw[OV.Gq];exact⟨_,_,_,_,rfl,rfl,rfl,b,c,rfl⟩
def ZAZ:Ai ["rule"] ["rule"] (AR Vx):=by walk_at "z1"
def ZER(F:AF K "check_rule" "check_rule" Vx f fd)(m:mg "check_rule"=some (.ref f)):
  A8 P w K mg Zy "check_rule" 1 ["rule"] (Ra):=by
 refine A8.mk F (F.binds (by walk_at "bD1")) m (F.Al (k:=0) ZAZ (λvs H Q E h=>?_) (λAV A outer s H vs Q E b h=>?_))
 .obtain⟨r,rfl,Jz,q⟩:=h;rfl
 obtain⟨r,rfl,Jz,q⟩:=h;refine⟨_,(AA rfl (Aq (Ac OT (qv 0) (KA (v:=.ref EO) (by rfl) J9 rfl)) (AA rfl E6) Ay)),?_⟩;refine⟨_,rfl,EO,_,rfl,.inr (JE H),rfl,rfl,_,rfl,?_⟩;have a:DX (.str r) (Cs.map V.str)=decide (r∈Cs):=Jh r Cs;show if(!DX (.str r) (Cs.map V.str))=true then _ else _
 rw[a,rD Jz];exact DQ q
def ZG7:Ai ["row","rule"] ["row","rule"] (AR YE):=by walk_at "z1"
def ZHp(F:AF K "begun" "begun" YE f fd)(m:mg "begun"=some (.ref f)):
  A8 P w K mg Zy "begun" 2 ["row","rule"] (YV K):=by
 refine A8.mk F (F.binds (by walk_at "bD2")) m (F.Al (k:=1) ZG7 (λvs H Q E h=>?_) (λAV A outer s H vs Q E n h=>?_))
 .obtain⟨a,tp,ns,r,rfl,j,Jz,e,q⟩:=h;rfl
 obtain⟨a,tp,ns,r,rfl,j,Jz,e,q⟩:=h;refine⟨_,(AB rfl (CI (AM N7 n (A0 (qv 1) A4)))
   (AA rfl (AZ (Bb (A0 (qv 1) (A0 A7 (A0 (CS HM BQ (A0 (Ak ID BK (A0 (qv 0) A4)) A4)) A4))))))),?_⟩
 refine⟨_,rfl,r,rfl,Jz,?_⟩;refine⟨_,rfl,_,rfl,a,tp,ns,rfl,j,e,λl ts o hp hs=>?_⟩;have n1:=Ab o (.lst (ts.map V.str));refine⟨l,_,rfl,.inl ⟨AK.of AJ,λc i=>?_⟩⟩;have d:=Ab i (.tup (ts.map V.str));refine⟨(by show 3<=sizeLine;decide),λt g=>?_⟩;have b:=Ab g (.tup [.str r,.int 0,.ref c]);exact q t c _ ts (A9.none (n1.trans d) g) (A9.none n1 i) (n1.trans (d.trans b)) hp hs ⟨AJ,b _ _ AJ⟩
def ZCY:Ai ["self","name","rule"] ["self","name","rule"] (AR XT):=by walk_at "z1"
def cX:∀ss R,(Pt A3) ss R->ss.length=3:=by rintro _ _⟨m,s,a,t,x,r,rfl,_,_,_,_,_,_,rfl⟩;rfl
def yF(F:AF K "begin" "Yard.begin" XT f fd)(d:Meth K A3 "begin" f):
  Br P w K mg Zy A3 "begin" 8 ["self","name","rule"] (DB (Pt A3)):=by
 refine⟨f,fd,F.Al (k:=7) ZCY (λvs H Q E h=>Fz.Jq cX h) (λAV A outer s H vs Q E b h=>?_),(F.binds (by walk_at "bD3")),d,Ao⟩
 refine⟨_,(AB rfl (Aq (CT (DK (AM JM b (A0 (qv 1) A4)))) (AA rfl E6) Ay)
   (AB rfl (Aq (z4 (BM b) (qv 1) (CQ (qv 0))) (AA rfl E6) Ay)
   (AB rfl (CI (AM N7 b (A0 (qv 2) A4)))
   (AB rfl (Aq (Ac JU (Ak rb Af (A0 (CQ (qv 0)) A4)) (KA (v:=.int 12) (by rfl) Vl ⟨_,rfl⟩)) (AA rfl E6) Ay)
   (AA rfl (KR (BM b) (CQ (qv 0)) (qv 1) (AM Wr b (A0 (CQ (qv 0)) (A0 (qv 2) A4))))))))),?_⟩
 refine Fz.SF h cX ?_;rintro _ _⟨m,s,a,t,x,r,rfl,g,ok,hx,nx,b,j,rfl⟩;obtain⟨dx,aK,aP,rfl⟩:=g;show Ws [_,_,_] _ _ _;refine Aw (E4 (Dz (Dg (nO (AL rfl ⟨x,rfl,(mT nx).2,_,rfl,?_⟩)))));rw[YZ nx];refine BH (by decide) (CM ?_);refine Aw (E4 (Dg (z5 (AL rfl (KG rfl Ao Cn ⟨Au s.ln,aK,_,.inr x,rfl,rfl,_,rfl,?_⟩)))));rw[TC,uB hx];refine BH (by decide) (CM ?_);refine Aw (MR (ZBe (AL rfl ⟨r,rfl,b,?_⟩)));refine Aw (E4 (Lc (Ut (ZAY (KG rfl Ao Cn ⟨Au s.ln,aK,_,rfl,_,rfl,?_⟩)))));have e:(Au s.ln).length=s.ln.length:=by unfold Au;rw[AS]
 rw[e];refine CY ⟨_,rfl,_,rfl,BH (λz=>by have:=tZ z;omega) (CM ?_)⟩;refine Ka (i:=0) (t:=B5 s A3 a dx aK aP) (FD (ZBb (BS (Dq (P9 rfl Ao Cf ⟨_,rfl,_,.inl ⟨rfl,s.row,rfl,AL rfl ⟨r,rfl,b,by have:=ok.row.len;have:=ok.m4;omega,λts c st=>?_⟩⟩⟩)))));rw[KP ok.row.nd c st];have l1:=ok.l1;refine KG rfl Ao Cn ⟨true,aK,Au s.ln,_,rfl,rfl,by unfold BY;rw[AS];omega,Ii ok.n1,B2,AL rfl ⟨.inr x,rfl,?_⟩⟩;rw[Td hx,Z7 hx];unfold B5;rw[show([]++[1]:List Nat)=[1]from rfl,UA];have l:BY s.ll++[.fz (Ca r 0 (CB s.row))]=BY (s.ll++[⟨r,0,CB s.row⟩]):=by unfold BY;rw[CD];rfl
 rw[l];exact⟨_,_,_,_,rfl,rfl,rfl,dx,aK,aP,rfl⟩
def OA:Ai ["script","k","cell","rest_here"] ["script","k"] (AR aG):=by walk_at "z1"
def ZFo(F:AF K "_law_pot" "_law_pot" aG f fd)(m:mg "_law_pot"=some (.ref f)):
  A8 P w K mg Zy "_law_pot" 1 ["script","k"] (ZT K):=by
 refine A8.mk F (F.binds (by walk_at "bD2")) m (F.Al (k:=0) OA (λvs H Q E h=>?_) (λAV A outer s H vs Q E t h=>?_))
 .obtain⟨a,ns,k,rfl,b,k0,k1,q⟩:=h;rfl
 obtain⟨a,ns,k,rfl,b,k0,k1,q⟩:=h;refine⟨_,(AB rfl (An 2 OA.nd A7)
   (AB rfl (CJ (Aq (Ac Fy (qv 1) (Ak EL Af (A0 (qv 0) A4))) (AA rfl (An 2 OA.nd (Az K6 (AI DL (qv 0) (qv 1)) (Az Jt (Az Jt (Az Jt (Az NB A7 A7) (Az NB A7 A7)) (Az NB A7 A7)) (Az NB A7 A7))))) Ay))
   (AB rfl (An 3 OA.nd A7)
   (AB rfl (CJ (Aq (Ac JU (qv 2) (Az NB A7 A7)) (AA rfl (An 3 OA.nd (qv 2))) Ay))
   (AA rfl (AZ (Dw (A0 (qv 3) (A0 (Az K6 (Az Jt (Az Dp (Az Dp (Az K6 (qv 2) A7) (Az Jt A7 (qv 1))) A7) A7) A7) A4))))))))),?_⟩
 have g:(ns.map V.int).length=ns.length:=AS _;refine⟨λσ' H'=>∃c:Int,σ'=[some (.ref a),some (.int k),some (.int c),none]/\H=H'/\0<=c/\c<10 ^ 256,?_,?_⟩
 .refine⟨_,rfl,_,rfl,a,_,rfl,.inl b,_,_,rfl,rfl,_,rfl,?_⟩;refine B3 (λc=>?_) (λc=>?_)
  .have r:k<(((ns.map V.int).length:Nat):Int):=tZ c;rw[g]at r;have i:k.toNat<ns.length:=by omega
   have e:Bf (ns.map V.int) k=some (.int ns[k.toNat]):=Ou k0 (by rw[B1,B9 i] <;> rfl)
   refine⟨_,rfl,_,rfl,a,_,_,_,rfl,rfl,b,e,_,_,rfl,rfl,⟨by decide,by decide,by decide +kernel⟩,_,_,rfl,rfl,⟨by decide,by decide,by decide +kernel⟩,_,_,rfl,rfl,⟨by decide +kernel,by decide +kernel⟩,_,_,rfl,rfl,⟨by decide,by decide,by decide +kernel⟩,_,_,rfl,rfl,⟨by decide +kernel,by decide +kernel⟩,
    _,_,rfl,rfl,⟨by decide,by decide,by decide +kernel⟩,_,_,rfl,rfl,⟨by decide +kernel,by decide +kernel⟩,_,_,rfl,rfl,(by show(0:Int)<_;decide +kernel),?_⟩
   exact⟨_,rfl,rfl,Lz _ (by decide +kernel),Ly _ (by decide +kernel)⟩
  .exact⟨0,rfl,rfl,by decide,by decide +kernel⟩
 rintro σ' H'⟨c,rfl,rfl,o,n⟩;refine⟨λσ' H'=>∃d:Int,σ'=[some (.ref a),some (.int k),some (.int c),some (.int d)]/\H=H'/\0<=d/\d<10 ^ 256,?_,?_⟩
 .refine⟨_,rfl,_,_,rfl,rfl,⟨by decide,by decide,by decide +kernel⟩,_,_,rfl,rfl,_,rfl,?_⟩;refine B3 (λ_=>?_) (λ_=>?_)
  .exact⟨_,rfl,c,rfl,rfl,o,n⟩
  .exact⟨0,rfl,rfl,by decide,by decide +kernel⟩
 rintro σ' H'⟨d,rfl,rfl,l,j⟩;have e0:0<=c % 2147483629:=Lz _ (by decide);have u:c % 2147483629<2147483629:=Ly _ (by decide);refine⟨_,rfl,_,rfl,_,_,rfl,rfl,(by show(0:Int)<2147483629;decide),_,rfl,_,_,rfl,rfl,⟨by decide +kernel,NI (by omega) (by omega)⟩,_,_,rfl,rfl,_,_,rfl,rfl,_,_,rfl,rfl,⟨NI (by omega) (by omega),by decide +kernel⟩,_,_,rfl,rfl,(by show(0:Int)<2147483647;decide),?_⟩;refine⟨(by show 2<=sizeLine;decide),λp hp=>?_⟩;exact q p _ hp (Ab hp _) ⟨d,_,AJ,l,j,Lz _ (by decide),Ly _ (by decide)⟩
def kA:Ai ["pot","many","found"] ["pot","many"] (AR av):=by walk_at "z1"
def ZHq(F:AF K "_law_take" "_law_take" av f fd)(m:mg "_law_take"=some (.ref f)):
  A8 P w K mg Zy "_law_take" 1 ["pot","many"] (IV):=by
 refine A8.mk F (F.binds (by walk_at "bD2")) m (F.Al (k:=0) kA (λvs H Q E h=>?_) (λAV A outer s H vs Q E o h=>?_))
 .obtain⟨p,m,rfl,⟨a,b,hp,a0,a1,b0,j⟩,d,l,q⟩:=h;rfl
 obtain⟨p,m,rfl,⟨a,b,hp,a0,a1,b0,j⟩,d,l,q⟩:=h;refine⟨_,(AB rfl (Aq (Ac Qu (AI DL (qv 0) A7) A7) (AB rfl (An 2 kA.nd (Az K6 (AI DL (qv 0) A7) (qv 1)))
   (AB rfl (JH (Az V7 (AI DL (qv 0) A7) (qv 1)) (lB (qv 0) A7 set_list))
   (AA rfl (AZ (qv 2))))) Ay)
   (AB rfl (JH (Az K6 (Az Dp (Az Jt (AI DL (qv 0) A7) A7) A7) A7) (lB (qv 0) A7 set_list))
   (AA rfl (AZ (Az K6 (Az V7 (Az K6 (Az Jt (AI DL (qv 0) A7) (AI DL (qv 0) A7)) A7) A7) (qv 1)))))),?_⟩
 refine⟨_,rfl,p,_,_,_,rfl,rfl,AK.of hp,rfl,_,_,rfl,rfl,_,rfl,?_⟩;refine B3 (λc=>?_) (λc=>?_)
 .have r:0<a:=tZ c;refine⟨_,rfl,p,_,_,_,rfl,rfl,AK.of hp,rfl,_,rfl,_,_,rfl,rfl,d,?_⟩;refine⟨_,rfl,p,_,_,_,rfl,rfl,AK.of hp,rfl,_,rfl,_,_,rfl,rfl,⟨d,NI (by omega) (by omega)⟩,?_⟩;refine⟨_,rfl,p,_,_,_,rfl,rfl,hp,rfl,?_⟩;refine⟨_,rfl,?_⟩;refine q _ _ (Lz _ (by omega)) (Ly _ d) ⟨⟨a / m,b,AJ,Int.ediv_nonneg a0 (by omega),ZIh (Int.ediv_le_self _ a0) a1,b0,j⟩,Gx.upd⟩
 .refine⟨_,rfl,p,_,_,_,rfl,rfl,AK.of hp,rfl,_,_,rfl,rfl,⟨NI (by omega) (by omega),by decide +kernel⟩,_,_,rfl,rfl,_,_,rfl,rfl,(by show(0:Int)<2147483647;decide),?_⟩;refine⟨_,rfl,p,_,_,_,rfl,rfl,hp,rfl,?_⟩;have g:0<=(b * 69621+12345) % 2147483647:=Lz _ (by decide);have i:(b * 69621+12345) % 2147483647<2147483647:=Ly _ (by decide);generalize n:(b * 69621+12345) % 2147483647=b' at g i;have e:(upd H p (.lst [.int a,.int ((b * 69621+12345) % 2147483647)])) p=some (.lst [.int a,.int b']):=by rw[AJ,n]
  refine⟨_,rfl,p,_,_,_,rfl,rfl,AK.of e,rfl,_,rfl,p,_,_,_,rfl,rfl,AK.of e,rfl,_,_,rfl,rfl,⟨NI (by omega) (by omega),NI (by omega) (by omega)⟩,_,_,rfl,rfl,(by show(0:Int)<2147483629;decide),?_⟩;refine⟨_,_,rfl,rfl,⟨(by show(0:Int)<64;decide),by decide +kernel⟩,_,rfl,_,_,rfl,rfl,d,?_⟩;exact q _ _ (Lz _ (by omega)) (Ly _ d) ⟨⟨a,b',e,a0,a1,g,i⟩,Gx.upd⟩
def SJ:Ai ["number","word"] ["number"] (AR XU):=by walk_at "z1"
def xx(F:AF K "_law_letters" "_law_letters" XU f fd)(m:mg "_law_letters"=some (.ref f)):
  A8 P w K mg Zy "_law_letters" 1 ["number"] (kI):=by
 refine A8.mk F (F.binds (by walk_at "bD1")) m (F.Al (k:=0) SJ (λvs H Q E h=>?_) (λAV A outer s H vs Q E u h=>?_))
 .obtain⟨r,rfl,j,o,q⟩:=h;rfl
 obtain⟨r,rfl,j,o,q⟩:=h;refine⟨_,(AB rfl (An 1 SJ.nd Ad)
   (AB rfl (CJ (ZX Ec (DW (Ac Bs (qv 1) Ad) (Ff (Ac Qu (qv 0) A7))).pt (AB rfl (An 1 SJ.nd (Az ky (qv 1) (AI xY Ad (Az K6 (qv 0) A7))))
   (AA rfl (An 0 SJ.nd (Az V7 (qv 0) A7))))))
   (AA rfl (AZ (qv 1))))),?_⟩
 obtain⟨n,rfl⟩:=Fm j;have hn:n<26 ^ 8:=by omega
 rw[Hr]at q;refine⟨λσ' H'=>∃v,σ'=[some v,some (.str (Dd (MA.lets n)))]/\H=H',?_,?_⟩
 .refine⟨λm σ' H'=>∃(k:Nat)(pre:List Nat),σ'=[some (.int k),some (.str (Dd pre))]/\H=H'/\((pre=[]/\k=n/\m=n+2)∨(pre≠[]/\m=k+1/\(0<k->pre++MA.lets k=MA.lets n)/\(k=0->pre=MA.lets n))),⟨n+2,n,[],rfl,rfl,.inl ⟨rfl,rfl,rfl⟩⟩,?_⟩;rintro m σ' H'⟨k,pre,rfl,rfl,l⟩;refine⟨_,rfl,rfl,_,rfl,?_⟩;refine B3 (λc=>PX ?_) (λc=>⟨_,rfl,_,_,rfl,rfl,_,rfl,?_⟩)
  .have hp:pre=[]:=jk.mp (tZ c);obtain⟨_,b,p⟩|⟨h,_⟩:=l
   .have d:pre++MA.lets k=MA.lets n:=by rw[hp,b];rfl
    have a:pre.length+1<=8:=by
     have h1:=xU List.length d;rw[BE]at h1;have h2:=MA.RT 7 n hn;have t:=MA.Ug k;omega
    refine⟨λσ' H'=>σ'=[some (.int ((k:Int) / 26)),some (.str (Dd pre++⟨#[97+((k:Int) % 26).toNat]⟩))]/\H=H',?_,?_⟩
    .rintro σ' H'⟨rfl,rfl⟩;have nx:=nK d;have g:((k:Int) % 26).toNat=k % 26:=by omega
     have e:(k:Int) / 26=((k / 26:Nat):Int):=by omega
     exact⟨k / 26+1,by omega,k / 26,pre++[97+k % 26],by rw[g,e,fD],rfl,.inr ⟨by simp,rfl,nx.1,nx.2⟩⟩
    .refine⟨_,rfl,_,rfl,_,_,rfl,rfl,(by show(0:Int)<26;decide),_,_,_,rfl,rfl,(by decide +kernel),i7 (Lz _ (by decide)) (Ly _ (by decide)),_,_,rfl,rfl,?_,?_⟩
     .rw[Sb];exact small (show pre.length+1<=_ by omega)
     .exact⟨_,rfl,_,_,rfl,rfl,⟨(by show(0:Int)<26;decide),by decide +kernel⟩,rfl,rfl⟩
   .exact absurd hp h
  .have hp:pre≠[]:=λh=>c (rD (jk.mpr h));obtain⟨h,_⟩|⟨_,p,h1,h2⟩:=l
   .exact absurd h hp
   refine B3 (λi=>?_) (λi=>?_)
   .have b:0<k:=by have:(0:Int)<k:=tZ i;omega
    have d:=h1 b;have a:pre.length+1<=8:=by
     have h1:=xU List.length d;rw[BE]at h1;have h2:=MA.RT 7 n hn;have t:=MA.Ug k;omega
    refine⟨λσ' H'=>σ'=[some (.int ((k:Int) / 26)),some (.str (Dd pre++⟨#[97+((k:Int) % 26).toNat]⟩))]/\H=H',?_,?_⟩
    .rintro σ' H'⟨rfl,rfl⟩;have nx:=nK d;have g:((k:Int) % 26).toNat=k % 26:=by omega
     have e:(k:Int) / 26=((k / 26:Nat):Int):=by omega
     exact⟨k / 26+1,by omega,k / 26,pre++[97+k % 26],by rw[g,e,fD],rfl,.inr ⟨by simp,rfl,nx.1,nx.2⟩⟩
    .refine⟨_,rfl,_,rfl,_,_,rfl,rfl,(by show(0:Int)<26;decide),_,_,_,rfl,rfl,(by decide +kernel),i7 (Lz _ (by decide)) (Ly _ (by decide)),_,_,rfl,rfl,?_,?_⟩
     .rw[Sb];exact small (show pre.length+1<=_ by omega)
     .exact⟨_,rfl,_,_,rfl,rfl,⟨(by show(0:Int)<26;decide),by decide +kernel⟩,rfl,rfl⟩
   .have b:k=0:=by
     have:¬ (0:Int)<k:=λz=>i (rD z);omega
    exact⟨_,by rw[h2 b],rfl⟩
 .rintro σ' H'⟨v,rfl,rfl⟩;exact⟨_,rfl,q _ (A9.refl _)⟩
def Gh:Ai ["pot","names","some","way","name","number"] ["pot","names"] (AR Ys):=by walk_at "z1"
def ZCr(F:AF K "_law_name" "_law_name" Ys f fd)(m:mg "_law_name"=some (.ref f)):
  A8 P w K mg Zy "_law_name" 2 ["pot","names"] (ML K):=by
 refine A8.mk F (F.binds (by walk_at "bD2")) m (F.Al (k:=1) Gh (λvs H Q E h=>?_) (λAV A outer s H vs Q E g h=>?_))
 .obtain⟨p,q,ns,rfl,hp,u,Aj,X,hL,K1⟩:=h;rfl
 obtain⟨p,q,ns,rfl,hp,u,Aj,X,hL,K1⟩:=h;refine⟨_,(AB rfl (An 2 Gh.nd (Bb (A0 Ad (A0 Ad (A0 Ad (A0 Ad (A0 Ad (A0 Ad (A0 Ad (A0 Ad (A0 Ad (A0 Ad (A0 Ad (A0 Ad (A0 Ad A4)))))))))))))))
   (AB rfl (An 3 Gh.nd (AM BG g (A0 (qv 0) (A0 A7 A4))))
   (AB rfl (An 4 Gh.nd (AI AN (qv 2) (AM BG g (A0 (qv 0) (A0 A7 A4)))))
   (AB rfl (CJ (Aq (Ac Bs (qv 3) A7) (AA rfl (An 4 Gh.nd (AM P6 g (A0 (AM BG g (A0 (qv 0) (A0 (Az NG (Az NB A7 A7) A7) A4))) A4)))) Ay))
   (AB rfl (CJ (Aq (Ik (Ac Bs (qv 3) A7) (IF (Ac (LC g.Fo) (qv 1) (Dw A4)))).pt (AB rfl (An 4 Gh.nd (AI DL (qv 1) (AM BG g (A0 (qv 0) (A0 (Ak EL Af (A0 (qv 1) A4)) A4)))))
   (AA rfl (An 4 Gh.nd (DM nG (Az ky (qv 4) (AM P6 g (A0 (AM BG g (A0 (qv 0) (A0 A7 A4))) A4))) Dn (Cr A7))))) Ay))
   (AB rfl (CJ (Aq (Ik (Ac Bs (qv 3) A7) (IF (Ac (LC g.Fo) (qv 1) (Dw A4)))).pt (AB rfl (An 4 Gh.nd (AI DL (qv 1) (AM BG g (A0 (qv 0) (A0 (Ak EL Af (A0 (qv 1) A4)) A4)))))
   (AA rfl (An 4 Gh.nd (DM nG (qv 4) Dn (Cr (Az Dp A7 (AM BG g (A0 (qv 0) (A0 (Ak lM Af (A0 (qv 4) A4)) A4))))))))) Ay))
   (AB rfl (An 5 Gh.nd A7)
   (AB rfl (CJ (ZX Ec (Ac FE (qv 4) (qv 1)) (AB rfl (An 4 Gh.nd (AM P6 g (A0 (qv 5) A4)))
   (AA rfl (An 5 Gh.nd (Az Dp (qv 5) A7))))))
   (AA rfl (AZ (qv 4))))))))))),?_⟩
 have G:(ns.map V.str).length=ns.length:=AS _;have u:AK K H q (ns.map V.str):=AK.of u;refine⟨(by show 13<=sizeLine;decide +kernel),λo G2=>?_⟩;have GR:o≠p:=by
  obtain⟨_,_,e,_⟩:=hp;exact(Ed e G2).symm
 have g0:BA p H (upd H o (.tup Rw)):=BA.of hp (Ab G2 _);refine⟨_,rfl,p,4,rfl,g0.AD,by decide,by decide,λd H1 w0 w1 s1=>?_⟩;refine⟨_,rfl,_,rfl,p,13,rfl,s1.AD,by decide,by decide,λi H2 i0 i1 s2=>?_⟩;have h2:H2 o=some (.tup Rw):=s2.at' (s1.at' AJ GR) GR;obtain⟨x,hx,nx⟩:=ZGJ i0 i1;refine⟨o,_,_,_,rfl,rfl,AE.of h2,hx,?_⟩;have R:=g0.trans (s1.trans s2);refine⟨λσ' H'=>∃x,σ'=[some (.ref p),some (.ref q),some (.ref o),some (.int d),some (.str x),none]/\Nm x/\BA p H H',?_,?_⟩
 .refine⟨_,rfl,rfl,_,rfl,?_⟩;refine B3 (λc=>?_) (λc=>?_)
  .refine⟨_,rfl,_,_,rfl,rfl,⟨by decide,by decide,by decide +kernel⟩,_,_,rfl,rfl,p,_,rfl,R.AD,ZDS,tF,λr H3 D N Y=>?_⟩;have J:r<26 ^ 8:=Int.lt_trans N sj;exact⟨r,rfl,D,J,λH4 s4=>⟨_,rfl,VM (iS D J),(R.trans Y).trans (BA.of Y.AD s4)⟩⟩
  .exact⟨x,rfl,nx,R⟩
 clear h2 hx nx s2 R i0 i1;rintro σ' H3⟨y,rfl,t,l⟩;refine⟨λσ' H'=>∃x,σ'=[some (.ref p),some (.ref q),some (.ref o),some (.int d),some (.str x),none]/\Nm x/\BA p H H',?_,?_⟩
 .refine⟨_,rfl,rfl,_,rfl,?_⟩;refine B3 (λc=>?_) (λc=>DQ ⟨y,rfl,t,l⟩);refine⟨_,rfl,(by show 0<=sizeLine;decide),λe W=>?_⟩;have b:=l.trans (BA.of l.AD (Ab W (.lst [])));have M:=b.Oy u Aj;refine⟨q,e,_,[],rfl,rfl,.inl ⟨M,AK.of AJ⟩,EX ns,rfl,_,rfl,?_⟩;rw[ND];refine B3 (λL=>?_) (λL=>⟨y,rfl,t,b⟩);have Ke:0<ns.length:=by
   cases ns with
   |nil=>simp at L
   |cons a r=>simp
  refine⟨_,rfl,_,rfl,_,rfl,q,_,rfl,.inl M,p,_,rfl,b.AD,(by rw[G];omega),(by rw[G];omega),λi H5 i0 i1 T=>?_⟩;rw[G]at i1;have C:=b.trans T;obtain⟨z,U,XE,_⟩:=Pz i0 i1;have B:=X z XE;refine⟨q,_,_,_,rfl,rfl,C.Oy u Aj,U,?_⟩;refine⟨_,rfl,_,rfl,p,26,rfl,C.AD,by decide,by decide,λr H6 D N S=>?_⟩;have O:=C.trans S;have J:r<26 ^ 8:=Int.lt_trans N tV;refine⟨r,rfl,D,J,λH7 s7=>?_⟩;have O:=O.trans (BA.of O.AD s7);have nl:=VM (n:=r.toNat) (iS D J);have σ:z.length+(Dd (MA.lets r.toNat)).length<=16:=by have:=B.2.1;have:=nl.2.1;omega
  refine⟨_,_,rfl,rfl,small (by omega),?_⟩;refine⟨_,rfl,_,rfl,small (by rw[cP];omega),?_⟩;refine⟨_,rfl,cm (by decide) (by decide) (by rw[cP];have:=B.1;omega) (λc I=>?_),O⟩;rw[dW]at I;rcases List.mem_append.mp I with I|I
  .exact B.2.2 c I
  .exact nl.2.2 c I
 clear t l;rintro σ' H3⟨y,rfl,t,l⟩;refine⟨λσ' H'=>∃x,σ'=[some (.ref p),some (.ref q),some (.ref o),some (.int d),some (.str x),none]/\Nm x/\BA p H H',?_,?_⟩
 .refine⟨_,rfl,rfl,_,rfl,?_⟩;refine B3 (λc=>?_) (λc=>DQ ⟨y,rfl,t,l⟩);refine⟨_,rfl,(by show 0<=sizeLine;decide),λe W=>?_⟩;have b:=l.trans (BA.of l.AD (Ab W (.lst [])));have M:=b.Oy u Aj;refine⟨q,e,_,[],rfl,rfl,.inl ⟨M,AK.of AJ⟩,EX ns,rfl,_,rfl,?_⟩;rw[ND];refine B3 (λL=>?_) (λL=>⟨y,rfl,t,b⟩);have Ke:0<ns.length:=by
   cases ns with
   |nil=>simp at L
   |cons a r=>simp
  refine⟨_,rfl,_,rfl,_,rfl,q,_,rfl,.inl M,p,_,rfl,b.AD,(by rw[G];omega),(by rw[G];omega),λi H5 i0 i1 T=>?_⟩;rw[G]at i1;have C:=b.trans T;obtain⟨z,U,XE,_⟩:=Pz i0 i1;have B:=X z XE;refine⟨q,_,_,_,rfl,rfl,C.Oy u Aj,U,?_⟩;have vg:=B.1;have nz2:=B.2.1;refine⟨_,rfl,_,rfl,_,rfl,_,rfl,small (by omega),p,_,rfl,C.AD,(by omega),(by omega),λr H6 D N S=>?_⟩;refine⟨_,_,rfl,rfl,_,rfl,_,rfl,small (by omega),?_⟩;exact⟨_,rfl,cm (by omega) (by omega) vg B.2.2,C.trans S⟩
 clear t l;rintro σ' H3⟨y,rfl,t,l⟩;refine⟨λσ' H'=>∃x v,σ'=[some (.ref p),some (.ref q),some (.ref o),some (.int d),some (.str x),some v]/\Nm x/\x∉ns/\BA p H H',?_,?_⟩
 .refine⟨λm σ' H'=>∃(k:Nat)(x:Str),σ'=[some (.ref p),some (.ref q),some (.ref o),some (.int d),some (.str x),some (.int k)]/\BA p H H'/\Nm x/\m=ns.length+1 - k/\k<=ns.length+1/\(0<k->x=Dd (MA.lets (k - 1)))/\(∀j,j+1<k->Dd (MA.lets j)∈ns),
   ⟨ns.length+1,0,y,rfl,l,t,rfl,CF _,λh=>absurd h (by decide),λj h=>absurd h (by omega)⟩,?_⟩
  rintro m σ' H'⟨k,x,rfl,b,nx,rfl,hk,hx,hj⟩;refine⟨_,rfl,_,rfl,q,_,rfl,.inl (b.Oy u Aj),rfl,EX ns,_,rfl,?_⟩;rw[tJ (by decide),Jh];refine B3 (λc=>?_) (λc=>⟨x,_,rfl,nx,λz=>c (rD z),b⟩);have XS:x∈ns:=tZ c;have Kp:∀j,j<k->Dd (MA.lets j)∈ns:=λj KU=>by
   by_cases e:j+1<k
   .exact hj j e
   .have e2:j=k - 1:=by omega
    rw[e2,<- hx (by omega)];exact XS
  have x6:=qU Kp;refine⟨λσ' H'=>σ'=[some (.ref p),some (.ref q),some (.ref o),some (.int d),some (.str (Dd (MA.lets k))),some (.int ((k:Int)+1))]/\BA p H H',?_,?_⟩
  .rintro σ' H'⟨rfl,b⟩;exact⟨ns.length+1 - (k+1),by omega,k+1,Dd (MA.lets k),rfl,b,VM (Hw (C7 x6 hL) ZCo),rfl,by omega,λ_=>rfl,λj KU=>Kp j (by omega)⟩
  .refine⟨_,rfl,k,rfl,by omega,?_,λH4 s4=>?_⟩
   .have:(k:Int)<=1000:=by omega
    exact ZIh this ZCp
   .rw[Hr];exact⟨_,rfl,_,_,rfl,rfl,rfl,b.trans (BA.of b.AD s4)⟩
 rintro σ' H'⟨x,v,rfl,nx,hx,b⟩;exact⟨_,rfl,K1 x H' nx hx b⟩
def Vy:Ai ["pot","many","names","k"] ["pot","many"] (AR WK):=by walk_at "z1"
def pT(F:AF K "_law_names" "_law_names" WK f fd)(m:mg "_law_names"=some (.ref f)):
  A8 P w K mg Zy "_law_names" 3 ["pot","many"] (nE):=by
 refine A8.mk F (F.binds (by walk_at "bD2")) m (F.Al (k:=2) Vy (λvs H Q E h=>?_) (λAV A outer s H vs Q E t h=>?_))
 .obtain⟨p,m,rfl,hp,o,j,q⟩:=h;rfl
 obtain⟨p,m,rfl,hp,o,j,q⟩:=h;refine⟨_,(AB rfl (An 2 Vy.nd (Dw A4))
   (AB rfl (CJ (FG Ec rfl (II rfl D9 (A0 (qv 1) A4)) (Bp 3 Vy.nd) (AA rfl (CI (El FO Hx Hy Gk (qv 2) (A0 (AM Gw t (A0 (qv 0) (A0 (qv 2) A4))) A4))))))
   (AA rfl (AZ (qv 2))))),?_⟩
 refine⟨(by show 0<=sizeLine;decide),λl c=>?_⟩;have d:=hp.ne c;refine⟨λσ' H'=>∃(ns:List Str)(v:Option V),σ'=[some (.ref p),some (.int m),some (.ref l),v]/\BA p H H'/\H' l=some (.lst (ns.map V.str))/\(ns.length:Int)=m/\(∀x∈ns,Nm x)/\ns.Nodup,?_,?_⟩
 .refine⟨_,rfl,m,rfl,by omega,by omega,ZCv (n:=m.toNat) (λi σ' H'=>∃(ns:List Str)(v:Option V),σ'=[some (.ref p),some (.int m),some (.ref l),v]/\BA p H H'/\H' l=some (.lst (ns.map V.str))/\ns.length=i/\(∀x∈ns,Nm x)/\ns.Nodup) ?_ ?_ ?_⟩
  .exact⟨[],none,rfl,(BA.of hp (A9.refl H)).upd c d,AJ,rfl,λx hx=>absurd hx (by simp),by simp⟩
  .rintro i σ' H' hi⟨ns,v,rfl,g,e,a,b,nd⟩;refine⟨_,rfl,.inl ⟨rfl,_,AK.of e⟩,_,rfl,_,rfl,p,l,ns,rfl,g.AD,e,d,b,by omega,λx H2 nx hx s2=>?_⟩;refine⟨l,_,_,rfl,rfl,s2.at' e d,Hw (m:=100) (by rw[AS];omega) (by decide +kernel),?_⟩;refine⟨ns++[x],_,rfl,(g.trans s2).upd c d,by rw[AJ,CD];rfl,by rw[BE];simp[a],λy r=>?_,T8 nd hx⟩;rcases List.mem_append.mp r with h|h
   .exact b y h
   .have:y=x:=by simpa using h
    rw[this];exact nx
  .rintro σ' H'⟨ns,v,rfl,g,e,a,b,nd⟩;exact⟨ns,v,rfl,g,e,by omega,b,nd⟩
 rintro σ' H'⟨ns,v,rfl,g,e,a,b,nd⟩;exact⟨_,rfl,q l H' ns c g e a b nd⟩
def Xt:Ai ["pot","most","many"] ["pot","most"] (AR Wf):=by walk_at "z1"
def ZGV(F:AF K "_law_row" "_law_row" Wf f fd)(m:mg "_law_row"=some (.ref f)):
  A8 P w K mg Zy "_law_row" 4 ["pot","most"] (ZR):=by
 refine A8.mk F (F.binds (by walk_at "bD2")) m (F.Al (k:=3) Xt (λvs H Q E h=>?_) (λAV A outer s H vs Q E b h=>?_))
 .obtain⟨p,m,rfl,hp,d,u,q⟩:=h;rfl
 obtain⟨p,m,rfl,hp,d,u,q⟩:=h;refine⟨_,(AB rfl (An 2 Xt.nd (AM BG b (A0 (qv 0) (A0 (Az Dp (qv 1) A7) A4))))
   (AB rfl (CJ (Aq (Ac Bs (AM BG b (A0 (qv 0) (A0 A7 A4))) A7) (AA rfl (An 2 Xt.nd (AI AN (Bb (A0 A7 (A0 A7 (A0 (qv 1) A4)))) (AM BG b (A0 (qv 0) (A0 A7 A4)))))) Ay))
   (AA rfl (AZ (AM VD b (A0 (qv 0) (A0 (qv 2) A4))))))),?_⟩
 refine⟨_,rfl,_,rfl,_,_,rfl,rfl,p,_,rfl,hp,by omega,by omega,λa H1 n0 n1 s1=>?_⟩;refine⟨λσ' H'=>∃k:Int,σ'=[some (.ref p),some (.int m),some (.int k)]/\0<=k/\k<=m/\BA p H H',?_,?_⟩
 .refine⟨_,rfl,p,8,rfl,s1.AD,by decide,by decide,λr H2 G D s2=>?_⟩;have c:=s1.trans s2;refine⟨rfl,_,rfl,?_⟩;refine B3 (λ_=>?_) (λ_=>⟨a,rfl,n0,by omega,c⟩);refine⟨_,rfl,(by show 3<=sizeLine;decide +kernel),λt i=>?_⟩;have C:=c.AD.ne i;have o:=c.trans (BA.of c.AD (Ab i (.tup [.int 0,.int 1,.int m])));refine⟨_,rfl,p,3,rfl,o.AD,by decide,by decide,λj H4 x v s4=>?_⟩;obtain⟨k,z,k0,k1⟩:=xA x v d;exact⟨t,_,_,_,rfl,rfl,AE.of (s4.at' AJ C),z,k,rfl,k0,k1,o.trans s4⟩
 rintro σ' H'⟨k,rfl,k0,k1,g⟩;refine⟨_,rfl,_,rfl,p,k,rfl,g.AD,k0,by omega,λl H' ns y s e n B nd=>?_⟩;exact q l H' ns (g.none y) (g.trans s) e (by omega) B nd
def ZAN:Ai ["pot","most"] ["pot","most"] (AR Yn):=by walk_at "z1"
def d7 : ∀ss R,Ts ss R->ss.length=2:=by rintro _ _⟨m,rfl,_,_,rfl⟩;rfl
def yn(F:AF K "_law_new" "_law_new" Yn f fd)(m:mg "_law_new"=some (.ref f)):
  A8 P w K mg Zy "_law_new" 6 ["pot","most"] (Ag Ts):=by
 refine A8.mk F (F.binds (by walk_at "bD2")) m (F.Al (k:=5) ZAN (λvs H Q E h=>Fz.CO d7 h) (λAV A outer s H vs Q E b h=>?_))
 refine⟨_,(AA rfl (AZ (yS (XZ Ad (AM X3 b (A0 (qv 0) (A0 (qv 1) A4))) (XZ Ad kq (XZ Ad (Dw A4) ZA2))) rfl rfl (by simp) (by decide)))),?_⟩;refine Fz.CK h d7 ?_;rintro _ _⟨m,rfl,h1,c,rfl⟩;show Ws [_,_] _ _ _;refine jT (ZBF (by decide +kernel) (Od (FD (DT (gs rfl rfl (AL rfl ⟨_,rfl,by omega,by omega,λns l nm nd=>?_⟩))))));refine Od (nV λaK=>Od (iU (Qw ⟨by decide,λaP=>Qw ⟨by simp,by simp,by simp,rfl,λa=>?_⟩⟩)));exact⟨ns,a,⟨by omega,nm,nd⟩,aK,aP,rfl⟩
def tD:Ai ["row","rule"] ["row","rule"] (AR WC):=by walk_at "z1"
def km : ∀ss R,Pb ss R->ss.length=2:=by rintro _ _⟨ns,r,rfl,a,rfl⟩;rfl
def ZCW(F:AF K "_law_begun" "_law_begun" WC f fd)(m:mg "_law_begun"=some (.ref f)):
  A8 P w K mg Zy "_law_begun" 1 ["row","rule"] (Ag Pb):=by
 refine A8.mk F (F.binds (by walk_at "bD2")) m (F.Al (k:=0) tD (λvs H Q E h=>Fz.CO km h) (λAV A outer s H vs Q E c h=>?_))
 refine⟨_,(AA rfl (AZ (Bb (A0 (qv 1) (A0 A7 (A0 (CS HM BQ (A0 (Ak ID BK (A0 (qv 0) A4)) A4)) A4)))))),?_⟩;refine Fz.CK h km ?_;rintro _ _⟨ns,r,rfl,b,rfl⟩;show Ws [_,_] _ _ _
 walk_at "ww"
 refine⟨b,λts a st=>?_⟩
 walk_at "ww"
 exact⟨by simp,ts,a,st,rfl⟩
def Oi:Ai ["pot","row","coming","share","name","rule"] ["pot","row"] (AR VY):=by walk_at "z1"
def ZEV(F:AF K "_law_some_loop" "_law_some_loop" VY f fd)(m:mg "_law_some_loop"=some (.ref f)):
  A8 P w K mg Zy "_law_some_loop" 2 ["pot","row"] (aS):=by
 refine A8.mk F (F.binds (by walk_at "bD2")) m (F.Al (k:=1) Oi (λvs H Q E h=>?_) (λAV A outer s H vs Q E o h=>?_))
 .obtain⟨p,q,ns,rfl,hp,b,Aj,R,nd,K1⟩:=h;rfl
 obtain⟨p,q,ns,rfl,hp,b,Aj,R,nd,K1⟩:=h;refine⟨_,(AB rfl (An 2 Oi.nd (Dw A4))
   (AB rfl (An 3 Oi.nd (Az Dp A7 (AM BG o (A0 (qv 0) (A0 A7 A4)))))
   (AB rfl (CJ (FG Ec rfl (DF (qv 1)) (Bp 4 Oi.nd) (AA rfl (Aq (Ac Fy (AM BG o (A0 (qv 0) (A0 A7 A4))) (qv 3)) (AA rfl (CI (El FO Hx Hy Gk (qv 2) (A0 (qv 4) A4)))) Ay))))
   (AB rfl (An 5 Oi.nd (AI AN (Bb (A0 Ad (A0 Ad (A0 Ad A4)))) (AM BG o (A0 (qv 0) (A0 A7 A4)))))
   (AA rfl (AZ (Bb (A0 (qv 5) (A0 (AM BG o (A0 (qv 0) (A0 (Az Dp (Ak EL Af (A0 (qv 1) A4)) A7) A4))) (A0 (CS HM BQ (A0 (Ak ID BK (A0 (qv 2) A4)) A4)) A4)))))))))),?_⟩
 have u:=DP ns;refine⟨(by show 0<=sizeLine;decide),λl KZ=>?_⟩;have n:=hp.ne KZ;have hlq:l≠q:=(Ed b KZ).symm;have g0:BA p H (upd H l (.lst [])):=BA.of hp (Ab KZ _);refine⟨_,rfl,p,4,rfl,g0.AD,by decide,by decide,λJ H1 _ _ s1=>⟨_,_,rfl,rfl,?_⟩⟩;have g1:=g0.trans s1;refine⟨λσ' H'=>∃(cs:List Str)(v:Option V),σ'=[some (.ref p),some (.ref q),some (.ref l),some (.int (1+J)),v,none]/\BA p H H'/\H' l=some (.lst (cs.map V.str))/\cs.Sublist ns,?_,?_⟩
 .refine⟨_,rfl,false,q,_,rfl,AK.of (g1.at' b Aj),qp (λi σ' H'=>∃(cs:List Str)(v:Option V),σ'=[some (.ref p),some (.ref q),some (.ref l),some (.int (1+J)),v,none]/\BA p H H'/\H' l=some (.lst (cs.map V.str))/\cs.Sublist (ns.take i)) ?_ ?_ ?_ ?_⟩
  .exact⟨[],none,rfl,g1,s1.at' AJ n,List.nil_sublist _⟩
  .rintro i σ' H' _⟨cs,v,rfl,g,e,a⟩;exact AK.of (g.at' b Aj)
  .rintro i x σ' H' hx⟨cs,v,rfl,g,e,a⟩;obtain⟨y,rfl,S⟩:=ZAe hx;have hi:i<ns.length:=(List.getElem?_eq_some_iff.mp S).1;have Y:ns.take (i+1)=ns.take i++[y]:=by
    rw[List.take_succ,S];rfl
   have I:cs.length<=40:=by
    have h1:=a.length_le;rw[Bk]at h1;omega
   refine⟨_,rfl,p,4,rfl,g.AD,by decide,by decide,λr H2 r0 r1 s2=>⟨_,rfl,_,_,rfl,rfl,_,rfl,?_⟩⟩;have d:=s2.at' e n;refine B3 (λc=>?_) (λc=>?_)
   .refine⟨_,rfl,.inl ⟨rfl,_,AK.of d⟩,_,rfl,l,_,_,rfl,rfl,d,Hw (m:=40) (by rw[AS];exact I) (by decide +kernel),?_⟩;exact⟨cs++[y],_,rfl,(g.trans s2).upd KZ n,by rw[AJ,CD];rfl,by rw[Y];exact a.append (oM _)⟩
   .exact⟨cs,_,rfl,g.trans s2,d,by rw[Y];exact a.trans (List.sublist_append_left _ _)⟩
  .rintro σ' H'⟨cs,v,rfl,g,e,a⟩;rw[u,Hv]at a;exact⟨cs,v,rfl,g,e,a⟩
 rintro σ' H2⟨cs,v,rfl,G,d,a⟩;refine⟨(by show 3<=sizeLine;decide),λt1 IX=>?_⟩;have C:=G.AD.ne IX;have O:=Ab IX (.tup (Cs.map V.str));have X:=G.trans (BA.of G.AD O);refine⟨_,rfl,p,3,rfl,X.AD,by decide,by decide,λj H4 j0 j1 s4=>?_⟩;obtain⟨r,VZ,Yh⟩:=Zb j0 j1;refine⟨t1,_,_,_,rfl,rfl,AE.of (s4.at' AJ C),VZ,?_⟩;have D:=X.trans s4;have q4:=D.at' b Aj;refine⟨_,rfl,_,rfl,_,rfl,q,_,rfl,.inl (AK.of q4),_,_,rfl,rfl,p,_,rfl,D.AD,(by rw[u];omega),(by rw[u];omega),λW H5 p0 p1 L=>?_⟩;rw[u]at p1;have z:=D.trans L;have e5:=L.at' (s4.at' (O _ _ d) n) n;have I:cs.length<=40:=C7 a.length_le R;refine⟨_,rfl,l,false,cs,rfl,AK.of e5,by omega,λl2 ts Ck NJ CV=>?_⟩;have B:=Ab Ck (.lst (ts.map V.str));refine⟨l2,_,rfl,.inl ⟨AK.of AJ,λc U=>?_⟩⟩;have N:=Ab U (.tup (ts.map V.str));refine⟨(by show 3<=sizeLine;decide),λt T=>?_⟩;have M:=Ab T (.tup [.str r,.int W,.ref c]);have g8:=z.trans (BA.of z.AD (B.trans (N.trans M)));have σ:ts.Nodup:=NJ.nodup_iff.mpr (nd.sublist a);refine K1 t c r W ts _ (z.none (A9.none (B.trans N) T)) (z.none (A9.none B U)) g8 AJ (M _ _ AJ) ⟨Yh,p0,by omega,PQ CV σ,λx hx=>a.subset (NJ.mem_iff.mp hx),by rw[NJ.length_eq];exact I⟩
def Jr:Ai ["pot","state","rows","number","row","loop","gap","marks"] ["pot","state"] (AR Q2):=by walk_at "z1"
noncomputable def ZC3:=Sc [(".0",.local),("pair",.local)]
def ZDR:Cc ["pot","state","rows","number","row","loop","gap","marks"] (AR Q2) ZC3 "pair" [] []:=by walk_at "z2"
noncomputable def vP:=Sc [(".0",.local),("at",.local),("gap",.free),("loop",.free),("row",.free)]
def ZAi:Cc ["pot","state","rows","number","row","loop","gap","marks"] (AR Q2) vP "at" ["gap","loop","row"] [6,5,4]:=by walk_at "z2"
def jZ : ∀ss R,Qn ss R->ss.length=2:=by rintro _ _⟨m,s,ps,rfl,_,_,_,_,_,rfl⟩;rfl
def ZGh(F:AF K "_law_some_ticket" "_law_some_ticket" Q2 f fd)(m:mg "_law_some_ticket"=some (.ref f)):
  A8 P w K mg Zy "_law_some_ticket" 6 ["pot","state"] (Ag Qn):=by
 refine A8.mk F (F.binds (by walk_at "bD2")) m (F.Al (k:=5) Jr (λvs H Q E h=>Fz.CO jZ h) (λAV A outer s H vs Q E a h=>?_))
 refine⟨_,(AB rfl (An 2 Jr.nd (Az Hd (Fi rfl ZDR (DF (Bo (BM a) (qv 1) Ad (λ_ _=>rfl))) (λ_ _ _ _=>by exact Lg) (λ_ _ _ _=>by exact(AI (show EA _ (Ij K)from AN) (qv 0) A7))) (Dw (A0 (Bo (BM a) (qv 1) Ad (λ_ _=>rfl)) A4))))
   (AB rfl (An 3 Jr.nd (AM BG a (A0 (qv 0) (A0 (Ak DU Af (A0 (qv 2) A4)) A4))))
   (AB rfl (An 4 Jr.nd (AI DL (qv 2) (qv 3)))
   (AB rfl (An 5 Jr.nd (AM V8 a (A0 (qv 0) (A0 (qv 4) A4))))
   (AB rfl (CJ (Aq (Ac Bs (AM BG a (A0 (qv 0) (A0 A7 A4))) A7) (AA rfl (An 5 Jr.nd (AM JJ a (A0 (qv 4) (A0 (AI AN (qv 5) A7) A4))))) Ay))
   (AB rfl (An 6 Jr.nd (AM BG a (A0 (qv 0) (A0 (Az Dp (Ak DU Af (A0 (qv 4) A4)) A7) A4))))
   (AB rfl (N4 (i:=7) Jr.nd rfl (Or.inl rfl) rfl ZAi (II rfl D9 (A0 (Ak DU Af (A0 (qv 4) A4)) A4)) (λ_ _ _ _=>by exact(Fu (Ac G6 (Cj JU (qv 3) (qv 0)) (Cj (show BB _ (compareOp .In) (Et K false)from FE) (AI (show EA _ (JO K)from DL) (qv 2) (qv 3)) (AI (show EA _ (Ij K)from AN) (qv 1) A7))))) (λ_ _ _ _=>by exact(AI (show EA _ (JO K)from DL) (qv 2) (qv 3))))
   (AA rfl (AZ (Bb (A0 (Bb (A0 (qv 3) (A0 (AI AN (qv 5) A7) (A0 (AI AN (qv 5) A7) (A0 (Bb (A0 (qv 6) (A0 (CS HM BQ (A0 (Ak ID BK (A0 (qv 7) A4)) A4)) A4))) A4))))) (A0 (qv 5) A4)))))))))))),?_⟩
 refine Fz.CK h jZ ?_;rintro _ _⟨m,s,ps,rfl,ok,C2,p,ch,l,rfl⟩;have t:FF 40 s.row:=⟨C7 ok.row.len ok.m4,ok.row.nm,ok.row.nd⟩;show Ws [.AD,.is (Cq s),.any,.any,.any,.any,.any,.any] _ _ _;refine Aw (Hq (iD (BS (DT (Xj (λ_=>true) jn (KL (Hc (IY (AL rfl ⟨D6,_,rfl,Eg ⟨.inr "past", _,rfl,rfl,_,.inl ⟨rfl,by rw[C2,Gf];omega,λq c=>SG rfl,λq c _=>?_,?_⟩⟩⟩)))))))))
 .rw[C2]at c;obtain⟨z,_,rfl⟩:=List.mem_map.mp c;exact DJ (DE rfl ⟨rfl,CY ⟨_,_,rfl,rfl,rfl⟩⟩)
 refine⟨_,.inl ⟨rfl,rfl,BS (DT (eW (HY (IY (AL rfl ⟨D6,_,rfl,Eg ⟨.inr "row", _,rfl,rfl,JK ⟨by show 1<=100000;decide,_,.inl ⟨rfl,rfl,?_,?_⟩⟩⟩⟩)))))⟩⟩
 .rw[C2,List.filter_eq_self.mpr λ_ _=>rfl,AS,Gf];show ps.length+1<=100000;omega
 rw[C2,List.filter_eq_self.mpr λ_ _=>rfl];show Ws [.AD,.is (Cq s),.own (Ir ps s.row),.any,.any,.any,.any,.any] _ _ _
 walk_at "ww"
 rw[sk];refine⟨by omega,by omega,λn n0 n1=>?_⟩;obtain⟨n,rfl⟩:=Fm n0;have hn:n<=ps.length:=by omega
 walk_at "ww"
 refine⟨_,_,rfl,P0 (tj s.row hn),?_⟩;have a:=ch.gh t n;generalize d:rowAt ps s.row n=row at a;show Ws [.AD,.is (Cq s),.own (Ir ps s.row),.is (.int n),.is (.lst (row.map .str)),.any,.any,.any] _ _ _;refine Aw (Fp (ZGN rfl (Gz rfl ⟨rfl,row,rfl,a.len,a.nd,λr g cs gd y=>?_⟩)));show Ws [.AD,.is (Cq s),.own (Ir ps s.row),.is (.int n),.is (.lst (row.map .str)),.is (Ca r g cs),.any,.any] _ _ _;refine Ss (λAH=>∃lo:Lp,lo.Good row/\AH=[.AD,.is (Cq s),.own (Ir ps s.row),.is (.int n),.is (.lst (row.map .str)),.is lo.P,.any,.any]) ?_ ?_
 .refine FT ?_
  walk_at "ww"
  refine⟨by decide,by decide,λw x v=>?_⟩
  walk_at "ww"
  refine B3 (λ_=>?_) (λ_=>CM ⟨⟨r,g,cs⟩,gd,rfl⟩);refine Fp (wp_call (GN (Gz rfl (BR (DJ (DE rfl ⟨rfl,CY ⟨_,_,rfl,rfl,Bc ⟨_,⟨row,r,rfl,by have:=a.len;omega,rfl⟩,?_⟩⟩⟩))))));rintro _⟨ts,IL,FJ,rfl⟩;rw[KP a.nd IL FJ];exact⟨⟨r,0,CB row⟩,dZ a.nd gd.rule,rfl⟩
 .clear gd;rintro _⟨⟨r,g,cs⟩,gd,rfl⟩
  walk_at "ww"
  rw[AS];have u:=a.len;refine⟨by omega,by omega,λb s0 s1=>?_⟩;obtain⟨b,rfl⟩:=Fm s0;show Ws [.AD,.is (Cq s),.own (Ir ps s.row),.is (.int n),.is (.lst (row.map .str)),.is (.tup [.str r,.int g,.tup (cs.map .str)]),.is (.int b),.any] _ _ _;refine Aw (Hq (IW (λi:Nat=>PV.int (i:Int)) (JD b cs row) (λi=>.str (row.getD i "")) ?_ Z1))
  walk_at "ww"
  rw[AS,Hr];refine⟨by omega,by omega,List.range row.length,rfl,by rw[M5];omega,λi hi=>?_,λi hi _=>?_,?_⟩
  .have e:=List.mem_range.mp hi
   walk_at "ww"
   refine⟨_,_,rfl,Nl e,?_⟩
   walk_at "ww"
   rfl
  .have e:=List.mem_range.mp hi
   walk_at "ww"
   exact⟨_,_,rfl,Nl e,rfl⟩
  rw[YN row b cs];show Ws [.AD,.is (Cq s),.own (Ir ps s.row),.is (.int n),.is (.lst (row.map .str)),.is (.tup [.str r,.int g,.tup (cs.map .str)]),.is (.int b),.own ((BU row b cs).map .str)] _ _ _;have o:=Sh row b cs
  walk_at "ww"
  refine⟨by omega,λus j st=>?_⟩;rw[KP (Mq a.nd _ _) j st]
  walk_at "ww"
  refine⟨by show 2<=100000;decide,JK ⟨by show 4<=100000;decide,HY (AL rfl (JK ⟨by show 2<=100000;decide,n,b,⟨r,g,cs⟩,?_,?_⟩))⟩⟩
  .rw[d];rfl
  .exact⟨ok,C2,p,ch,hn,l,by rw[d];exact gd,by rw[d];omega⟩
def ZF8:Ai ["self","name"] ["self","name"] (AR W4):=by walk_at "z1"
def gS:∀ss R,(Mo A3) ss R->ss.length=2:=by rintro _ _⟨s,x,lo,rfl,_,_,_,rfl⟩;rfl
def ZBI(F:AF K "loop" "Yard.loop" W4 f fd)(b:Meth K A3 "loop" f):
  Br P w K mg Zy A3 "loop" 1 ["self","name"] (Ag (Mo A3)):=by
 refine⟨f,fd,F.Al (k:=0) ZF8 (λvs H Q E h=>Fz.CO gS h) (λAV A outer s H vs Q E a h=>?_),(F.binds (by walk_at "bD2")),b,Ao⟩
 refine⟨_,(AB rfl (Aq (zt (BM a) (qv 1) (CQ (qv 0))) (AA rfl E6) Ay)
   (AA rfl (AZ (Bo (BM a) (CQ (qv 0)) (qv 1) (λ_ _=>rfl))))),?_⟩
 refine Fz.CK h gS ?_;rintro _ _⟨s,x,lo,rfl,hx,c,l1,rfl⟩;show Ws [_,_] _ _ _;refine Aw (E4 (Dg (ZHt (AL rfl (Ft (AL rfl ⟨A3,yN,_,1,_,rfl,Ao,Cn,by decide +kernel,rfl,Au s.ln,_,.inr x,rfl,rfl,_,rfl,?_⟩))))));rw[TC,rD hx];refine BH (by decide) (CM ?_);refine FU (IY (Ft (AL rfl ⟨A3,yN,_,1,_,rfl,Ao,Cn,by decide +kernel,rfl,Au s.ln,_,rfl,AL rfl ⟨.inr x,lo.P,rfl,eB hx ?_,rfl⟩⟩)));rw[B1,c];rfl
def ZGL:Ai ["self","name"] ["self","name"] (AR VE):=by walk_at "z1"
def d4:∀ss R,(Sj A3) ss R->ss.length=2:=by rintro _ _⟨m,s,a,t,x,rfl,_,_,_,rfl⟩;rfl
def ZEY(F:AF K "drop" "Yard.drop" VE f fd)(b:Meth K A3 "drop" f):
  Br P w K mg Zy A3 "drop" 3 ["self","name"] (DB (Sj A3)):=by
 refine⟨f,fd,F.Al (k:=2) ZGL (λvs H Q E h=>Fz.Jq d4 h) (λAV A outer s H vs Q E c h=>?_),(F.binds (by walk_at "bD2")),b,Ao⟩
 refine⟨_,(AB rfl (CI (GX JI c (by decide) (qv 0) (A0 (qv 1) A4)))
   (AA rfl (CI (jc (CQ (qv 0)) (qv 1) ⟨rfl,rfl,rfl,rfl⟩)))),?_⟩
 refine Fz.SF h d4 ?_;rintro _ _⟨m,s,a,t,x,rfl,d,ok,hx,rfl⟩;obtain⟨dx,aK,aP,rfl⟩:=d;show Ws [_,_] _ _ _;have n:=List.idxOf_lt_length_iff.mpr hx;have l1:=ok.l1;obtain⟨lo,e⟩:∃l,s.ll[s.ln.idxOf x]?=some l:=⟨_,B9 (by omega)⟩;refine Aw (MR (mR (i:=0) (E2 rfl ⟨dx,yN,a,_,rfl,by decide +kernel,kW (AL rfl (bf ⟨_,⟨s,x,lo,xU (λp=>[Slot.is p,.is (.str x)]) (Km s A3 a dx aK aP),hx,e,ok.l1,rfl⟩,λ_ hp=>hp▸⟨Uq lo,?_⟩⟩))⟩)));refine mQ (i:=0) (t:=B5 s A3 a dx aK aP) (KG rfl Ao Cn ⟨true,aK,Au s.ln,_,rfl,rfl,Ii ok.n1,AL rfl ⟨.inr x,s.ln.idxOf x,rfl,LO hx,?_⟩⟩);unfold B5;rw[show([]++[1]:List Nat)=[1]from rfl,UA];have j:(Au s.ln).eraseIdx (s.ln.idxOf x)=Au (s.ln.eraseIdx (s.ln.idxOf x)):=by unfold Au;rw[OJ]
 have g:(BY s.ll).eraseIdx (s.ln.idxOf x)=BY (s.ll.eraseIdx (s.ln.idxOf x)):=by unfold BY;rw[OJ]
 rw[j,g];exact⟨_,_,_,_,rfl,rfl,rfl,dx,aK,aP,rfl⟩
def yw:Ai ["row","gap"] ["row","gap"] (AR aC):=by walk_at "z1"
def ZI2(F:AF K "is_gap" "is_gap" aC f fd)(m:mg "is_gap"=some (.ref f)):
  A8 P w K mg Zy "is_gap" 1 ["row","gap"] (O6 K):=by
 refine A8.mk F (F.binds (by walk_at "bD2")) m (F.Al (k:=0) yw (λvs H Q E h=>?_) (λAV A outer s H vs Q E i h=>?_))
 .obtain⟨a,tp,ns,g,rfl,b,q⟩:=h;rfl
 obtain⟨a,tp,ns,g,rfl,b,q⟩:=h;refine⟨_,(AA rfl (AZ (mS FQ FQ A7 (qv 1) (Ak EL Af (A0 (qv 0) A4))))),?_⟩;have d:=DP ns;refine⟨_,rfl,_,_,rfl,rfl,_,rfl,?_⟩;refine B3 (λc=>?_) (λc=>?_)
 .refine⟨_,rfl,a,_,rfl,b.or,_,_,rfl,rfl,?_⟩;rw[d];have e:JG ns.length g=decide (g<=(ns.length:Int)):=by unfold JG;rw[c];rfl
  show Q (.bl (decide (g<=(ns.length:Int)))) H;rw[<- e];exact q
 .have e:JG ns.length g=false:=by unfold JG;rw[Bool.eq_false_iff.mpr c];rfl
  show Q (.bl false) H;rw[<- e];exact q
def ZFh:Ai ["row","coming"] ["row","coming"] (AR Su):=by walk_at "z1"
noncomputable def ZIa:=Sc [(".0",.local),("name",.local),("row",.free)]
def ZEU:Cc ["row","coming"] (AR Su) ZIa "name" ["row"] [0]:=by walk_at "z2"
def qu(F:AF K "is_coming" "is_coming" Su f fd)(m:mg "is_coming"=some (.ref f)):
  A8 P w K mg Zy "is_coming" 1 ["row","coming"] (UH K):=by
 refine A8.mk F (F.binds (by walk_at "bD2")) m (F.Al (k:=0) ZFh (λvs H Q E h=>?_) (λAV A outer s H vs Q E u h=>?_))
 .obtain⟨a,tp,ns,c,ss,rfl,o,d,C8,q⟩:=h;rfl
 obtain⟨a,tp,ns,c,ss,rfl,o,d,C8,q⟩:=h;refine⟨_,(AA rfl (AZ (Hf (Cj (LH u.Fo) (CS KO Bx (A0 (qv 1) A4)) (Ak (mD rfl) BK (A0 (CS (fc rfl) NN (A0 (qv 1) A4)) A4))) (Ih (Ak (MU rfl) Ez (A0 (Fi rfl ZEU (DF (qv 1)) (λ_ _ _ _=>by exact Lg) (λ_ _ _ _=>by exact(Cj (show BB _ (compareOp .In) (Et K false)from FE) (qv 1) (qv 0)))) A4)))))),?_⟩;have y:=DP ss;refine⟨_,rfl,c,_,rfl,.inr d,λl1 GC=>?_⟩;have n1:=Ab GC (.lst (ss.map V.str));refine⟨_,rfl,c,true,ss,rfl,n1.Jw d,by omega,λl2 Ck=>?_⟩;have l:=Ab Ck (Mn P w l2 (λk'=>(dd ss).any (· == k')) (dd ss).length)
 refine⟨l2,_,_,rfl,AJ,by have:=Yw ss;omega,λr ts Mu C B z=>?_⟩;have j:=Ab Mu (.lst (ts.map V.str));have b:=n1.trans (l.trans j);refine⟨l1,r,_,_,rfl,rfl,.inl ⟨AK.of (j _ _ (l _ _ AJ)),AK.of AJ⟩,EX ss,EX ts,_,rfl,?_⟩;have hu:EV (ss.map V.str) (ts.map V.str)=IT ss:=by rw[pQ];unfold IT;rw[decide_eq_decide];exact jR C B z
 show if EV (ss.map V.str) (ts.map V.str)=true then _ else _
 rw[hu];refine B3 (λg=>?_) (λg=>?_)
 .have n:=b.Jw d;refine⟨_,rfl,true,c,_,rfl,n,λacc B6=>KW (tp:=true) (λ_=>true) (λv=>.bl (DX v (ns.map V.str))) n B6 (by rw[y];exact small (by omega)) (λi v H' Q' _ _ h=>h H' (A9.refl _)) (λi v H' Q' t _ s4 h=>?_) (λH' s4 p=>?_)⟩
  .obtain⟨x,rfl,D⟩:=KS t;exact⟨_,rfl,_,rfl,a,_,rfl,((b.trans s4).sq o).or,rfl,EX ns,h _ (A9.refl _)⟩
  .rw[qE]at p;refine⟨acc,_,rfl,AK.of p,?_⟩;rw[all_map];have e:(IT ss && IK ns ss)=IK ns ss:=by rw[g];rfl
   show Q (.bl (IK ns ss)) H';rw[<- e];exact q _ (b.trans s4)
 .have e:(IT ss && IK ns ss)=false:=by rw[Bool.eq_false_iff.mpr g];rfl
  rw[<- e];exact q _ b
def ZGs:Ai ["row","thing"] ["row","thing"] (AR Vu):=by walk_at "z1"
def ZAR(F:AF K "is_loop" "is_loop" Vu f fd)(m:mg "is_loop"=some (.ref f)):
  A8 P w K mg Zy "is_loop" 2 ["row","thing"] (jh K):=by
 refine A8.mk F (F.binds (by walk_at "bD2")) m (F.Al (k:=1) ZGs (λvs H Q E h=>?_) (λAV A outer s H vs Q E l h=>?_))
 .obtain⟨a,tp,ns,t,r,g,ss,rfl,i,⟨c,b,n⟩,C8,q⟩:=h;rfl
 obtain⟨a,tp,ns,t,r,g,ss,rfl,i,⟨c,b,n⟩,C8,q⟩:=h;refine⟨_,(AA rfl (AZ (Hf (Cj FE (AI AN (qv 1) A7) (KA (v:=.ref EO) (by rfl) J9 rfl)) (Hf (AM JF l (A0 (qv 0) (A0 (AI AN (qv 1) A7) A4))) (Ih (AM N9 l (A0 (qv 0) (A0 (AI AN (qv 1) A7) A4)))))))),?_⟩;refine⟨_,rfl,t,_,_,_,rfl,rfl,b,rfl,EO,_,rfl,.inr (JE H),rfl,rfl,_,rfl,?_⟩;have o:DX (.str r) (Cs.map V.str)=decide (r∈Cs):=Jh r Cs;show if DX (.str r) (Cs.map V.str)=true then _ else _
 rw[o];refine B3 (λd=>?_) (λd=>?_)
 .refine⟨_,rfl,_,rfl,t,_,_,_,rfl,rfl,b,rfl,a,tp,ns,g,rfl,i,_,rfl,?_⟩;refine B3 (λj=>?_) (λj=>?_)
  .refine⟨_,rfl,_,rfl,t,_,_,_,rfl,rfl,b,rfl,a,tp,ns,c,ss,rfl,i,n,C8,λH' s'=>?_⟩;have e:G8 ns r g ss=(IT ss && IK ns ss):=by unfold G8;rw[d,j];rfl
   rw[<- e];exact q _ s'
  .have e:G8 ns r g ss=false:=by unfold G8;rw[d,Bool.eq_false_iff.mpr j];rfl
   rw[<- e];exact q _ (A9.refl _)
 .have e:G8 ns r g ss=false:=by unfold G8;rw[Bool.eq_false_iff.mpr d];rfl
  rw[<- e];exact q _ (A9.refl _)
def ZBP:Ai ["row","loop"] ["row","loop"] (AR Uj):=by walk_at "z1"
def yk(F:AF K "check_loop" "check_loop" Uj f fd)(m:mg "check_loop"=some (.ref f)):
  A8 P w K mg Zy "check_loop" 3 ["row","loop"] (cR K):=by
 refine A8.mk F (F.binds (by walk_at "bD2")) m (F.Al (k:=2) ZBP (λvs H Q E h=>?_) (λAV A outer s H vs Q E d h=>?_))
 .obtain⟨a,tp,ns,t,r,g,ss,rfl,b,c,C8,ok,q⟩:=h;rfl
 obtain⟨a,tp,ns,t,r,g,ss,rfl,b,c,C8,ok,q⟩:=h;refine⟨_,(AA rfl (Aq (CT (DK (AM XD d (A0 (qv 0) (A0 (qv 1) A4))))) (AA rfl E6) Ay)),?_⟩;refine⟨_,rfl,_,rfl,a,tp,ns,t,r,g,ss,rfl,b,c,C8,λH' s1=>⟨_,rfl,?_⟩⟩;refine BH (by rw[ok];decide) ?_;exact q _ s1
def ZFV:Ai ["things","loop"] ["things","loop"] (AR RN):=by walk_at "z1"
noncomputable def ZEG:=Sc [(".0",.local),("name",.local),("loop",.free)]
def ZAF:Cc ["things","loop"] (AR RN) ZEG "name" ["loop"] [1]:=by walk_at "z2"
def tw(F:AF K "things_to_come" "things_to_come" RN f fd)(m:mg "things_to_come"=some (.ref f)):
  A8 P w K mg Zy "things_to_come" 1 ["things","loop"] (gB K):=by
 refine A8.mk F (F.binds (by walk_at "bD2")) m (F.Al (k:=0) ZFV (λvs H Q E h=>?_) (λAV A outer s H vs Q E p h=>?_))
 .obtain⟨a,tp,ns,t,r,g,ss,rfl,b,⟨c,e,j⟩,n,q⟩:=h;rfl
 obtain⟨a,tp,ns,t,r,g,ss,rfl,b,⟨c,e,j⟩,n,q⟩:=h;refine⟨_,(AA rfl (AZ (Fi rfl ZAF (DF (qv 0)) (λ_ _ _ _=>by exact(Fu (Ac (show BB _ (compareOp .In) (Et K false)from FE) (qv 1) (AI (show EA _ (Ij K)from AN) (qv 0) A7)))) (λ_ _ _ _=>by exact(qv 1))))),?_⟩;have o:=DP ns;refine⟨_,rfl,tp,a,_,rfl,b,λacc B6=>KW (λv=>DX v (ss.map V.str)) (λv=>v) b B6 (by rw[o];exact small (by omega)) (λi v H' Q' d s1 h=>?_) (λi v H' Q' d _ s1 h=>?_) (λH' s1 l=>?_)⟩
 .obtain⟨x,rfl,_⟩:=KS d;exact⟨_,rfl,_,rfl,t,_,_,_,rfl,rfl,s1.Jw e,rfl,c,_,rfl,.inr (s1.Jw j),rfl,EX ss,_,rfl,h _ (A9.refl _)⟩
 .exact⟨_,rfl,h _ (A9.refl _)⟩
 .rw[nX]at l;exact q acc H' B6 s1 l
def kQ:Ai ["row","loop","gap"] ["row","loop"] (AR Wu):=by walk_at "z1"
def ZF0(F:AF K "rest" "rest" Wu f fd)(m:mg "rest"=some (.ref f)):
  A8 P w K mg Zy "rest" 4 ["row","loop"] (eF K):=by
 refine A8.mk F (F.binds (by walk_at "bD2")) m (F.Al (k:=3) kQ (λvs H Q E h=>?_) (λAV A outer s H vs Q E e h=>?_))
 .obtain⟨a,tp,ns,t,r,g,ss,rfl,d,b,C8,ok,G,q⟩:=h;rfl
 obtain⟨a,tp,ns,t,r,g,ss,rfl,d,b,C8,ok,G,q⟩:=h;refine⟨_,(AB rfl (CI (AM Zl e (A0 (qv 0) (A0 (qv 1) A4))))
   (AB rfl (An 2 kQ.nd (AI AN (qv 1) A7))
   (AA rfl (AZ (Az Hd (AM TY e (A0 (DM Lu (qv 0) (Cr (qv 2)) Dn) (A0 (qv 1) A4))) (AM TY e (A0 (DM Lu (qv 0) Dn (Cr (qv 2))) (A0 (qv 1) A4)))))))),?_⟩
 have R:=DP ns;refine⟨_,rfl,_,rfl,a,tp,ns,t,r,g,ss,rfl,BI.sq d,b,C8,ok,λH1 s1=>?_⟩;obtain⟨c,I,S⟩:=id b;have N:=s1.Jw I;refine⟨_,rfl,t,_,_,_,rfl,rfl,N,rfl,?_⟩;have M:=s1 _ _ d;refine⟨_,rfl,_,rfl,_,rfl,a,tp,_,rfl,BI.sq M,λp2 H2 s2 u=>?_⟩;rw[Q4,<- Nc]at u;have k2:=s1.trans s2;refine⟨_,rfl,p2,tp,ns.drop g,t,r,g,ss,rfl,u,b.same k2,by rw[Co];omega,λD H3 Mu y L=>?_⟩;have o:=k2.trans y;refine⟨_,rfl,_,rfl,_,rfl,a,tp,_,rfl,BI.sq (o _ _ d),λz H4 s4 p=>?_⟩;rw[OO,<- Nd]at p;have n:=o.trans s4;refine⟨_,rfl,z,tp,ns.take g,t,r,g,ss,rfl,p,b.same n,by rw[Bk];omega,λC H5 O i J=>?_⟩;have l:=n.trans i;have x:=Ga (HA ss) (ns.drop g);have v:=Ga (HA ss) (ns.take g);rw[Co]at x;rw[Bk]at v;refine⟨D,C,_,_,rfl,rfl,i _ _ (s4 _ _ L),J,small (by rw[AS,AS];omega),λB j=>?_⟩;refine q B _ (A9.none l j) (l.trans (Ab j _)) ?_;rw[AJ,<- CD];rfl
def ZGt:Ai ["coming","gone"] ["coming","gone"] (AR TJ):=by walk_at "z1"
noncomputable def ZBj:=Sc [(".0",.local),("name",.local),("gone",.free)]
def pd:Cc ["coming","gone"] (AR TJ) ZBj "name" ["gone"] [1]:=by walk_at "z2"
def ZGi(F:AF K "coming_without" "coming_without" TJ f fd)(m:mg "coming_without"=some (.ref f)):
  A8 P w K mg Zy "coming_without" 1 ["coming","gone"] (XN K):=by
 refine A8.mk F (F.binds (by walk_at "bD2")) m (F.Al (k:=0) ZGt (λvs H Q E h=>?_) (λAV A outer s H vs Q E n h=>?_))
 .obtain⟨c,ss,x,rfl,d,j,q⟩:=h;rfl
 obtain⟨c,ss,x,rfl,d,j,q⟩:=h;refine⟨_,(AA rfl (AZ (CS HM BQ (A0 (Fi rfl pd (DF (qv 0)) (λ_ _ _ _=>by exact(Fu (Ac G6 (qv 1) (qv 0)))) (λ_ _ _ _=>by exact(qv 1))) A4)))),?_⟩;have l:=DP ss;have g:C4 K true H c (ss.map V.str):=d;refine⟨_,rfl,true,c,_,rfl,g,λacc B6=>KW (J1 (.str x)) (λv=>v) g B6 (by rw[l];exact small (by omega)) (λi v H' Q' a s1 h=>?_) (λi v H' Q' a _ s1 h=>?_) (λH' s1 e=>?_)⟩
 .obtain⟨y,rfl,_⟩:=KS a;exact⟨_,rfl,_,rfl,rfl,_,rfl,h _ (A9.refl _)⟩
 .exact⟨_,rfl,h _ (A9.refl _)⟩
 .rw[Ow]at e;refine⟨acc,_,rfl,.inl ⟨AK.of e,λt b=>?_⟩⟩;exact q t _ (A9.none s1 b) (s1.trans (Ab b _)) AJ
def wB:Ai ["row","name"] ["row","name"] (AR ay):=by walk_at "z1"
def sT(F:AF K "place_of" "place_of" ay f fd)(m:mg "place_of"=some (.ref f)):
  A8 P w K mg Zy "place_of" 1 ["row","name"] (Kz):=by
 refine A8.mk F (F.binds (by walk_at "bD2")) m (F.Al (k:=0) wB (λvs H Q E h=>?_) (λAV A outer s H vs Q E c h=>?_))
 .obtain⟨a,tp,ns,x,rfl,b,hx,q⟩:=h;rfl
 obtain⟨a,tp,ns,x,rfl,b,hx,q⟩:=h;refine⟨_,(AB rfl (Aq (Ac OT (qv 1) (qv 0)) (AA rfl E6) Ay)
   (AA rfl (AZ (ZAK (El FO bX pA YL (qv 0) (A0 (qv 1) A4)) (El PySem.F.plainAttrs_tuple ZJI PySem.F.type_tuple_index zj (qv 0) (A0 (qv 1) A4)))))),?_⟩
 refine⟨_,rfl,_,rfl,a,_,rfl,(BI.sq (K:=K) b).or,rfl,EX ns,_,rfl,?_⟩;refine BH (by show ¬ (!DX (V.str x) (ns.map V.str))=true;rw[Jh,rD hx];decide) ?_;cases tp with
 |false=>exact .inl ⟨_,rfl,.inl ⟨rfl,_,AK.of b⟩,_,rfl,a,ns,x,rfl,rfl,AK.of b,hx,q⟩
 |true=>exact .inr ⟨_,rfl,.inr (.inr (.inr (.inr ⟨rfl,_,b⟩))),_,rfl,a,ns,x,rfl,rfl,AE.of b,hx,q⟩
def ZIY:Ai ["row","loop","name"] ["row","loop","name"] (AR YM):=by walk_at "z1"
def ZH5(F:AF K "loop_telling" "loop_telling" YM f fd)(m:mg "loop_telling"=some (.ref f)):
  A8 P w K mg Zy "loop_telling" 2 ["row","loop","name"] (lb K):=by
 refine A8.mk F (F.binds (by walk_at "bD3")) m (F.Al (k:=1) ZIY (λvs H Q E h=>?_) (λAV A outer s H vs Q E i h=>?_))
 .obtain⟨a,tp,ns,t,r,g,ss,x,rfl,l,n,C8,hx,q⟩:=h;rfl
 obtain⟨a,tp,ns,t,r,g,ss,x,rfl,l,n,C8,hx,q⟩:=h;refine⟨_,(AA rfl (AZ (Bb (A0 (AI AN (qv 1) A7) (A0 (Az Dp (AM FH i (A0 (qv 0) (A0 (qv 2) A4))) A7) (A0 (AM MN i (A0 (AI AN (qv 1) A7) (A0 (qv 2) A4))) A4)))))),?_⟩;obtain⟨c,GQ,JS⟩:=id n;have j:AE K H t _:=AE.of GQ;have u:AE K H c _:=AE.of JS;refine⟨_,rfl,t,_,_,_,rfl,rfl,j,rfl,_,rfl,_,rfl,a,tp,ns,x,rfl,l,hx,_,_,rfl,rfl,?_⟩;refine⟨_,rfl,t,_,_,_,rfl,rfl,j,rfl,_,rfl,c,ss,x,rfl,u,by omega,λo H3 b d v=>?_⟩;refine⟨(by show 3<=sizeLine;decide),λp J2=>?_⟩;have e:=Ab J2 (.tup [.str r,.int ((ns.idxOf x:Nat)+1),.ref o]);exact q p o _ (A9.none d J2) b (d.trans e) ⟨AJ,e _ _ v⟩
def eG:Ai ["row","loop","order"] ["row","loop"] (AR V1):=by walk_at "z1"
def pD(F:AF K "step" "step" V1 f fd)(m:mg "step"=some (.ref f)):
  A8 P w K mg Zy "step" 5 ["row","loop"] (Tp K):=by
 refine A8.mk F (F.binds (by walk_at "bD2")) m (F.Al (k:=4) eG (λvs H Q E h=>?_) (λAV A outer s H vs Q E l h=>?_))
 .obtain⟨a,tp,ns,t,r,g,ss,rfl,n,e,C8,ok,u,q⟩:=h;rfl
 obtain⟨a,tp,ns,t,r,g,ss,rfl,n,e,C8,ok,u,q⟩:=h;refine⟨_,(AB rfl (An 2 eG.nd (AM ZO l (A0 (qv 0) (A0 (qv 1) A4))))
   (AB rfl (Aq (Ac (LH l.Fo) (qv 2) (Dw A4)) (AA rfl (AZ (Bb (A0 NO (A0 (qv 1) A4))))) Ay)
   (AA rfl (AZ (Bb (A0 (AI DL (qv 2) A7) (A0 (AM VB l (A0 (qv 0) (A0 (qv 1) (A0 (AI DL (qv 2) A7) A4)))) A4))))))),?_⟩
 refine⟨_,rfl,_,rfl,a,tp,ns,t,r,g,ss,rfl,n,e.at,C8,ok,u,λl1 H1 GC s1 v=>?_⟩;obtain⟨c,GQ,JS⟩:=id e;have G:AE K H t _:=AE.of GQ;have I:AE K H c _:=AE.of JS;refine⟨_,rfl,(by show 0<=sizeLine;decide),λl2 Ck=>?_⟩;have d:=Ab Ck (.lst []);have k2:=s1.trans d;refine⟨l1,l2,_,[],rfl,rfl,.inl ⟨AK.of (d _ _ v),AK.of AJ⟩,EX _,rfl,_,rfl,?_⟩;show if EV ((D5 ns g ss).map V.str) []=true then _ else _
 rw[ND];refine B3 (λj=>?_) (λj=>?_)
 .have b:D5 ns g ss=[]:=by simpa using j
  refine⟨_,rfl,(by show 2<=sizeLine;decide),λt' Fe=>?_⟩;exact q t' _ (A9.none k2 Fe) (k2.trans (Ab Fe _)) (.inl ⟨b,AJ⟩)
 .obtain⟨x,FK,b⟩:∃x FK,D5 ns g ss=x::FK:=by
   cases h:D5 ns g ss with
   |nil=>rw[h]at j;simp at j
   |cons x FK=>exact⟨x,FK,rfl⟩
  have hx:x∈ns/\x∈ss:=O7.mp (by rw[b];exact Cp);have i:=d _ _ v;rw[b]at i;generalize B:upd H1 l2 (.lst [])=H2 at d k2 i;refine⟨_,rfl,l1,_,_,_,rfl,rfl,AK.of i,OP,?_⟩;refine⟨_,rfl,_,rfl,_,rfl,l1,_,_,_,rfl,rfl,AK.of i,OP,a,tp,ns,t,r,g,ss,x,rfl,k2 _ _ n,e.same k2,C8,hx.1,λo D H4 J2 TU s4 C=>?_⟩;refine⟨(by show 2<=sizeLine;decide),λy OE=>?_⟩;have p:=Ab OE (.tup [.str x,.ref o]);have z:=k2.trans (s4.trans p);exact q y _ (A9.none (k2.trans s4) OE) z (.inr ⟨x,FK,o,D,b,A9.none k2 J2,A9.none k2 TU,AJ,C.same p⟩)
def jz:Ai ["self","name","answer"] ["self","name"] (AR W0):=by walk_at "z1"
def iG:∀ss R,(Rz A3) ss R->ss.length=2:=by rintro _ _⟨m,s,a,t,x,lo,rfl,_,_,_,_,rfl⟩;rfl
def ZFx(F:AF K "step" "Yard.step" W0 f fd)(d:Meth K A3 "step" f):
  Br P w K mg Zy A3 "step" 8 ["self","name"] (DB (Rz A3)):=by
 refine⟨f,fd,F.Al (k:=7) jz (λvs H Q E h=>Fz.Jq iG h) (λAV A outer s H vs Q E b h=>?_),(F.binds (by walk_at "bD2")),d,Ao⟩
 refine⟨_,(AB rfl (An 2 jz.nd (AM N1 b (A0 (CQ (qv 0)) (A0 (GX JI b (by decide) (qv 0) (A0 (qv 1) A4)) A4))))
   (AB rfl (KR (BM b) (CQ (qv 0)) (qv 1) (AI AN (qv 2) A7))
   (AA rfl (AZ (AI AN (qv 2) A7))))),?_⟩
 refine Fz.Qz h iG ?_;rintro _ _⟨m,s,a,t,x,lo,rfl,e,ok,hx,c,rfl⟩;obtain⟨dx,aK,aP,rfl⟩:=e;show Ws [_,_,.any] _ _ _;have l1:=ok.l1;have l:=ok.HB;have b:=ok.row.len;have n:=ok.m4;have j:=ok.good lo (DR c);refine Aw (Fp (eR (BS (Dq (P9 rfl Ao Cf ⟨_,rfl,_,.inl ⟨rfl,s.row,rfl,?_⟩⟩)))));refine mR (i:=0) (E2 rfl ⟨dx,yN,a,_,rfl,by decide +kernel,kW (AL rfl (bf ⟨_,⟨s,x,lo,xU (λp=>[Slot.is p,.is (.str x)]) (Km s A3 a dx aK aP),hx,c,ok.l1,rfl⟩,λ_ hp=>hp▸⟨Uq lo,lo.r,lo.g,lo.cs,rfl,j,by omega,?_⟩⟩))⟩);rw[Te];show Ws [.ow true (B5 s A3 a dx aK aP),.is (.str x),.is (.tup [lo.told s.row,(lo.E5 s.row).P])] _ _ _;refine Aw (Ka (i:=0) (t:=B5 s A3 a dx aK aP) (FD (DJ (DE rfl ⟨rfl,CY ⟨1,_,rfl,rfl,?_⟩⟩))));refine KG rfl Ao Cn ⟨true,aK,Au s.ln,_,rfl,rfl,by unfold BY;rw[AS];omega,Ii ok.n1,B2,AL rfl ⟨.inr x,rfl,?_⟩⟩;rw[Rv hx,R5 hx];unfold B5;rw[show([]++[1]:List Nat)=[1]from rfl,UA,Tj];exact xT (i:=0) rfl (DJ (DE rfl ⟨rfl,CY ⟨0,_,rfl,rfl,rfl,dx,aK,aP,rfl⟩⟩))
def ZED:Ai ["row","name","at"] ["row","name","at"] (AR W7):=by walk_at "z1"
def zu(F:AF K "check_put" "check_put" W7 f fd)(m:mg "check_put"=some (.ref f)):
  A8 P w K mg Zy "check_put" 2 ["row","name","at"] (cI):=by
 refine A8.mk F (F.binds (by walk_at "bD3")) m (F.Al (k:=1) ZED (λvs H Q E h=>?_) (λAV A outer s H vs Q E e h=>?_))
 .obtain⟨a,tp,ns,x,i,rfl,d,⟨h1,h2,j,g⟩,q⟩:=h;rfl
 obtain⟨a,tp,ns,x,i,rfl,d,⟨h1,h2,j,g⟩,q⟩:=h;refine⟨_,(AB rfl (Aq (CT (DK (AM JM e (A0 (qv 1) A4)))) (AA rfl E6) Ay)
   (AB rfl (Aq (Ac FE (qv 1) (qv 0)) (AA rfl E6) Ay)
   (AB rfl (Aq (CT (NT FQ FQ A7 (qv 2) (Ak EL Af (A0 (qv 0) A4)))) (AA rfl E6) Ay)
   (AA rfl (Aq (Ac JU (Ak EL Af (A0 (qv 0) A4)) (KA (v:=.int 40) (by rfl) MQ ⟨_,rfl⟩)) (AA rfl E6) Ay))))),?_⟩
 have c:=DP ns;refine⟨_,rfl,x,rfl,by have:=h1.2.1;omega,λH1 s1=>⟨_,rfl,?_⟩⟩;refine BH (by rw[YZ h1];decide) ?_;have b:=s1 _ _ d;refine⟨_,rfl,_,rfl,a,_,rfl,(BI.sq (K:=K) b).or,rfl,EX ns,_,rfl,?_⟩;refine BH (by show ¬ (DX (V.str x) (ns.map V.str))=true;rw[Jh,uB h2];decide) ?_;refine⟨_,rfl,_,_,rfl,rfl,_,rfl,Ig (rD (by omega)) ?_⟩;refine⟨_,rfl,a,_,rfl,(BI.sq (K:=K) b).or,_,_,rfl,rfl,_,rfl,Sn (by rw[c];omega) ?_⟩;refine⟨_,rfl,a,_,rfl,(BI.sq (K:=K) b).or,_,_,rfl,rfl,_,rfl,BH (by rw[c,uB (by omega)];decide) ?_⟩;exact q _ s1
def ZBg:Ai ["row","name","at"] ["row","name","at"] (AR ZL):=by walk_at "z1"
def zV(F:AF K "check_move" "check_move" ZL f fd)(m:mg "check_move"=some (.ref f)):
  A8 P w K mg Zy "check_move" 2 ["row","name","at"] (ip):=by
 refine A8.mk F (F.binds (by walk_at "bD3")) m (F.Al (k:=1) ZBg (λvs H Q E h=>?_) (λAV A outer s H vs Q E c h=>?_))
 .obtain⟨a,tp,ns,x,i,rfl,b,⟨h1,h2⟩,q⟩:=h;rfl
 obtain⟨a,tp,ns,x,i,rfl,b,⟨h1,h2⟩,q⟩:=h;refine⟨_,(AB rfl (CI (AM FH c (A0 (qv 0) (A0 (qv 1) A4))))
   (AA rfl (Aq (CT (NT FQ Fy A7 (qv 2) (Ak EL Af (A0 (qv 0) A4)))) (AA rfl E6) Ay))),?_⟩
 have d:=DP ns;refine⟨_,rfl,_,rfl,a,tp,ns,x,rfl,b,h1,?_⟩;refine⟨_,rfl,_,_,rfl,rfl,_,rfl,Ig (rD (by omega)) ?_⟩;refine⟨_,rfl,a,_,rfl,(BI.sq (K:=K) b).or,_,_,rfl,rfl,_,rfl,Sn (by rw[d];omega) ?_⟩;exact q
def ZGI:Ai ["row","low","high"] ["row","low","high"] (AR Z6):=by walk_at "z1"
def ZBT(F:AF K "check_turn" "check_turn" Z6 f fd)(m:mg "check_turn"=some (.ref f)):
  A8 P w K mg Zy "check_turn" 1 ["row","low","high"] (mK):=by
 refine A8.mk F (F.binds (by walk_at "bD3")) m (F.Al (k:=0) ZGI (λvs H Q E h=>?_) (λAV A outer s H vs Q E d h=>?_))
 .obtain⟨a,tp,ns,lo,hi,rfl,b,⟨h1,h2⟩,q⟩:=h;rfl
 obtain⟨a,tp,ns,lo,hi,rfl,b,⟨h1,h2⟩,q⟩:=h;refine⟨_,(AB rfl (Aq (CT (NT FQ FQ A7 (qv 1) (Ak EL Af (A0 (qv 0) A4)))) (AA rfl E6) Ay)
   (AA rfl (Aq (CT (NT FQ FQ (qv 1) (qv 2) (Ak EL Af (A0 (qv 0) A4)))) (AA rfl E6) Ay))),?_⟩
 have c:=DP ns;refine⟨_,rfl,_,_,rfl,rfl,_,rfl,Ig (rD (by omega)) ?_⟩;refine⟨_,rfl,a,_,rfl,(BI.sq (K:=K) b).or,_,_,rfl,rfl,_,rfl,Sn (by rw[c];omega) ?_⟩;refine⟨_,rfl,_,rfl,_,_,rfl,rfl,_,rfl,Ig (rD (by omega)) ?_⟩;refine⟨_,rfl,a,_,rfl,(BI.sq (K:=K) b).or,_,_,rfl,rfl,_,rfl,Sn (by rw[c];omega) ?_⟩;exact q
def xS:Ai ["row","deed"] ["row","deed"] (AR WE):=by walk_at "z1"
def yq(F:AF K "check_deed" "check_deed" WE f fd)(m:mg "check_deed"=some (.ref f)):
  A8 P w K mg Zy "check_deed" 3 ["row","deed"] (o3):=by
 refine A8.mk F (F.binds (by walk_at "bD2")) m (F.Al (k:=2) xS (λvs H Q E h=>?_) (λAV A outer s H vs Q E e h=>?_))
 .obtain⟨a,t,tp,ns,d,rfl,c,b,hd,q⟩:=h;rfl
 obtain⟨a,t,tp,ns,d,rfl,c,b,hd,q⟩:=h;refine⟨_,(AA rfl (Aq (Ac Bs (AI AN (qv 1) A7) Ad) (AA rfl (CI (AM Xf e (A0 (qv 0) (A0 (AI AN (qv 1) A7) (A0 (AI AN (qv 1) A7) A4)))))) (AA rfl (Aq (Ac Bs (AI AN (qv 1) A7) Ad) (AA rfl (CI (AM FH e (A0 (qv 0) (A0 (AI AN (qv 1) A7) A4))))) (AA rfl (Aq (Ac Bs (AI AN (qv 1) A7) Ad) (AA rfl (CI (AM VJ e (A0 (qv 0) (A0 (AI AN (qv 1) A7) (A0 (AI AN (qv 1) A7) A4)))))) (AA rfl (CI (AM VQ e (A0 (qv 0) (A0 (AI AN (qv 1) A7) (A0 (AI AN (qv 1) A7) A4)))))))))))),?_⟩;cases d with
 |put x i=>
  refine⟨_,rfl,t,_,_,_,rfl,rfl,AE.of b,rfl,rfl,_,rfl,Ig (by decide +kernel) ?_⟩;exact⟨_,rfl,_,rfl,t,_,_,_,rfl,rfl,AE.of b,rfl,_,rfl,t,_,_,_,rfl,rfl,AE.of b,rfl,a,tp,ns,x,i,rfl,c,hd,q⟩
 |take x=>
  refine⟨_,rfl,t,_,_,_,rfl,rfl,AE.of b,rfl,rfl,_,rfl,BH (by decide +kernel) ?_⟩;refine⟨_,rfl,t,_,_,_,rfl,rfl,AE.of b,rfl,rfl,_,rfl,Ig (by decide +kernel) ?_⟩;exact⟨_,rfl,_,rfl,t,_,_,_,rfl,rfl,AE.of b,rfl,a,tp,ns,x,rfl,c,hd,q _ (A9.refl _)⟩
 |move x i=>
  refine⟨_,rfl,t,_,_,_,rfl,rfl,AE.of b,rfl,rfl,_,rfl,BH (by decide +kernel) ?_⟩;refine⟨_,rfl,t,_,_,_,rfl,rfl,AE.of b,rfl,rfl,_,rfl,BH (by decide +kernel) ?_⟩;refine⟨_,rfl,t,_,_,_,rfl,rfl,AE.of b,rfl,rfl,_,rfl,Ig (by decide +kernel) ?_⟩;exact⟨_,rfl,_,rfl,t,_,_,_,rfl,rfl,AE.of b,rfl,_,rfl,t,_,_,_,rfl,rfl,AE.of b,rfl,a,tp,ns,x,i,rfl,c,hd,q _ (A9.refl _)⟩
 |turn lo hi=>
  refine⟨_,rfl,t,_,_,_,rfl,rfl,AE.of b,rfl,rfl,_,rfl,BH (by decide +kernel) ?_⟩;refine⟨_,rfl,t,_,_,_,rfl,rfl,AE.of b,rfl,rfl,_,rfl,BH (by decide +kernel) ?_⟩;refine⟨_,rfl,t,_,_,_,rfl,rfl,AE.of b,rfl,rfl,_,rfl,BH (by decide +kernel) ?_⟩;exact⟨_,rfl,_,rfl,t,_,_,_,rfl,rfl,AE.of b,rfl,_,rfl,t,_,_,_,rfl,rfl,AE.of b,rfl,a,tp,ns,lo,hi,rfl,c,hd,q _ (A9.refl _)⟩
def ZBr:Ai ["row","low","high"] ["row","low","high"] (AR Xh):=by walk_at "z1"
def ZGC(F:AF K "row_turned" "row_turned" Xh f fd)(m:mg "row_turned"=some (.ref f)):
  A8 P w K mg Zy "row_turned" 1 ["row","low","high"] (jw):=by
 refine A8.mk F (F.binds (by walk_at "bD3")) m (F.Al (k:=0) ZBr (λvs H Q E h=>?_) (λAV A outer s H vs Q E M h=>?_))
 .obtain⟨a,tp,ns,lo,hi,rfl,b,LL,J,h1,h2,q⟩:=h;rfl
 obtain⟨a,tp,ns,lo,hi,rfl,b,LL,J,h1,h2,q⟩:=h;refine⟨_,(AA rfl (AZ (Az Hd (Az Hd (CS KO Bx (A0 (DM Lu (qv 0) Dn (Cr (qv 1))) A4)) (mJ rfl rfl Bx rfl Mt (A0 (DM Lu (qv 0) (Cr (qv 1)) (Cr (qv 2))) A4))) (CS KO Bx (A0 (DM Lu (qv 0) (Cr (qv 2)) Dn) A4))))),?_⟩;have L:=DP ns;have c:∀n:Nat,n<=2001->n<=sizeLine:=λn h=>C7 h (by decide +kernel);refine⟨_,rfl,_,rfl,_,rfl,a,tp,_,rfl,BI.sq b,λp1 H1 s1 t=>?_⟩;rw[OO]at t;refine⟨p1,_,rfl,t.or,λl1 n1=>?_⟩;have t1:=Ab n1 (.lst ((ns.map V.str).take lo));have s2:=s1.trans t1;refine⟨_,rfl,_,rfl,_,rfl,_,rfl,_,rfl,a,tp,_,rfl,BI.sq (s2 _ _ b),λx H3 l r=>?_⟩;rw[kJ _ h1 (by rw[L];exact h2)]at r;refine⟨x,tp,_,rfl,r,LL,λI B=>?_⟩;have e:=Ab B (.lst (((ns.map V.str).drop lo).take (hi - lo)).reverse);refine⟨l1,I,_,_,rfl,rfl,e _ _ (l _ _ AJ),AJ,c _ (by simp only[Bk,QK,Co];omega),λG z=>?_⟩;have u:=Ab z (.lst ((ns.map V.str).take lo++(((ns.map V.str).drop lo).take (hi - lo)).reverse));have j:=s2.trans (l.trans (e.trans u));refine⟨_,rfl,_,rfl,_,rfl,a,tp,_,rfl,BI.sq (j _ _ b),λv H6 i p=>?_⟩;rw[Q4]at p;refine⟨v,_,rfl,p.or,λD y=>?_⟩;have d:=Ab y (.lst ((ns.map V.str).drop hi));refine⟨G,D,_,_,rfl,rfl,d _ _ (i _ _ AJ),AJ,c _ (by simp only[BE,Bk,Co,QK];omega),λC o=>?_⟩;have g:=j.trans (i.trans d);refine q C _ (A9.none g o) (g.trans (Ab o _)) ?_;rw[AJ];unfold G7;simp only[CD,Nd,Nc,ZIy,Bj]
def ZHh:Ai ["row","name","at"] ["row","name","at"] (AR Yl):=by walk_at "z1"
def sA(F:AF K "row_with" "row_with" Yl f fd)(m:mg "row_with"=some (.ref f)):
  A8 P w K mg Zy "row_with" 1 ["row","name","at"] (gY):=by
 refine A8.mk F (F.binds (by walk_at "bD3")) m (F.Al (k:=0) ZHh (λvs H Q E h=>?_) (λAV A outer s H vs Q E D h=>?_))
 .obtain⟨a,tp,ns,x,i,rfl,c,C,q⟩:=h;rfl
 obtain⟨a,tp,ns,x,i,rfl,c,C,q⟩:=h;refine⟨_,(AA rfl (AZ (Az Hd (Az Hd (CS KO Bx (A0 (DM Lu (qv 0) Dn (Cr (qv 2))) A4)) (Dw (A0 (qv 1) A4))) (CS KO Bx (A0 (DM Lu (qv 0) (Cr (qv 2)) Dn) A4))))),?_⟩;have G:=DP ns;have b:∀n:Nat,n<=2001->n<=sizeLine:=λn h=>C7 h (by decide +kernel);refine⟨_,rfl,_,rfl,_,rfl,a,tp,_,rfl,BI.sq c,λp1 H1 s1 o=>?_⟩;rw[OO]at o;refine⟨p1,_,rfl,o.or,λl1 n1=>?_⟩;have t1:=Ab n1 (.lst ((ns.map V.str).take i));refine⟨_,rfl,b _ (by show 1<=2001;decide),λl2 v=>?_⟩;have t2:=Ab v (.lst [.str x]);refine⟨l1,l2,_,_,rfl,rfl,t2 _ _ AJ,AJ,b _ (by simp only[Bk,QL];omega),λB u=>?_⟩;have p:=Ab u (.lst ((ns.map V.str).take i++[.str x]));have g:=s1.trans (t1.trans (t2.trans p));refine⟨_,rfl,_,rfl,_,rfl,a,tp,_,rfl,BI.sq (g _ _ c),λr H4 s4 l=>?_⟩;rw[Q4]at l;refine⟨r,_,rfl,l.or,λz t=>?_⟩;have d:=Ab t (.lst ((ns.map V.str).drop i));refine⟨B,z,_,_,rfl,rfl,d _ _ (s4 _ _ AJ),AJ,b _ (by simp only[BE,Bk,Co,QL];omega),λy j=>?_⟩;have e:=g.trans (s4.trans d);refine q y _ (A9.none e j) (e.trans (Ab j _)) ?_;rw[AJ];unfold ins;simp only[CD,Nd,Bu,Nc,Bj,List.singleton_append]
def zq:Ai ["row","name"] ["row","name"] (AR R1):=by walk_at "z1"
noncomputable def xX:=Sc [(".0",.local),("thing",.local),("name",.free)]
def ZDU:Cc ["row","name"] (AR R1) xX "thing" ["name"] [1]:=by walk_at "z2"
def ZDN(F:AF K "row_without" "row_without" R1 f fd)(m:mg "row_without"=some (.ref f)):
  A8 P w K mg Zy "row_without" 1 ["row","name"] (mZ):=by
 refine A8.mk F (F.binds (by walk_at "bD2")) m (F.Al (k:=0) zq (λvs H Q E h=>?_) (λAV A outer s H vs Q E j h=>?_))
 .obtain⟨a,tp,ns,x,rfl,b,e,q⟩:=h;rfl
 obtain⟨a,tp,ns,x,rfl,b,e,q⟩:=h;refine⟨_,(AA rfl (AZ (Fi rfl ZDU (DF (qv 0)) (λ_ _ _ _=>by exact(Fu (Ac G6 (qv 1) (qv 0)))) (λ_ _ _ _=>by exact(qv 1))))),?_⟩;have g:=DP ns;refine⟨_,rfl,tp,a,_,rfl,BI.sq b,λacc B6=>KW (J1 (.str x)) (λv=>v) (BI.sq b) B6 (by rw[g];exact small (by omega)) (λi v H' Q' c s1 h=>?_) (λi v H' Q' c _ s1 h=>?_) (λH' s1 d=>?_)⟩
 .obtain⟨y,rfl,l⟩:=KS c;exact⟨_,rfl,_,rfl,rfl,_,rfl,h H' (A9.refl _)⟩
 .exact⟨_,rfl,h H' (A9.refl _)⟩
 .rw[Ow]at d;exact q acc H' B6 s1 d
def ZEJ:Ai ["row","deed"] ["row","deed"] (AR aw):=by walk_at "z1"
def uA(F:AF K "done" "done" aw f fd)(m:mg "done"=some (.ref f)):
  A8 P w K mg Zy "done" 4 ["row","deed"] (Yp):=by
 refine A8.mk F (F.binds (by walk_at "bD2")) m (F.Al (k:=3) ZEJ (λvs H Q E h=>?_) (λAV A outer s H vs Q E g h=>?_))
 .obtain⟨a,t,tp,ns,d,rfl,p,o,LL,hd,u,q⟩:=h;rfl
 obtain⟨a,t,tp,ns,d,rfl,p,o,LL,hd,u,q⟩:=h;refine⟨_,(AB rfl (CI (AM ai g (A0 (qv 0) (A0 (qv 1) A4))))
   (AB rfl (Aq (Ac Bs (AI AN (qv 1) A7) Ad) (AA rfl (AZ (AM Qm g (A0 (qv 0) (A0 (AI AN (qv 1) A7) (A0 (AI AN (qv 1) A7) A4)))))) Ay)
   (AB rfl (Aq (Ac Bs (AI AN (qv 1) A7) Ad) (AA rfl (AZ (AM Sw g (A0 (qv 0) (A0 (AI AN (qv 1) A7) A4))))) Ay)
   (AB rfl (Aq (Ac Bs (AI AN (qv 1) A7) Ad) (AA rfl (AZ (AM Qm g (A0 (AM Sw g (A0 (qv 0) (A0 (AI AN (qv 1) A7) A4))) (A0 (AI AN (qv 1) A7) (A0 (AI AN (qv 1) A7) A4)))))) Ay)
   (AA rfl (AZ (AM YD g (A0 (qv 0) (A0 (AI AN (qv 1) A7) (A0 (AI AN (qv 1) A7) A4)))))))))),?_⟩
 refine⟨_,rfl,_,rfl,a,t,tp,ns,d,rfl,p,o,hd,λH1 s1=>?_⟩;have b:=s1 _ _ o;have j:=s1 _ _ p;have c:K9 H1 Q (d.done ns):=λl H' n s e=>q l H' (A9.none s1 n) (s1.trans s) e;cases d with
 |put x i=>
  refine⟨_,rfl,t,_,_,_,rfl,rfl,AE.of b,rfl,rfl,_,rfl,Ig (by decide +kernel) ?_⟩;exact⟨_,rfl,_,rfl,t,_,_,_,rfl,rfl,AE.of b,rfl,_,rfl,t,_,_,_,rfl,rfl,AE.of b,rfl,a,tp,ns,x,i,rfl,j,by omega,c⟩
 |take x=>
  refine⟨_,rfl,t,_,_,_,rfl,rfl,AE.of b,rfl,rfl,_,rfl,BH (by decide +kernel) ?_⟩;refine⟨_,rfl,t,_,_,_,rfl,rfl,AE.of b,rfl,rfl,_,rfl,Ig (by decide +kernel) ?_⟩;exact⟨_,rfl,_,rfl,t,_,_,_,rfl,rfl,AE.of b,rfl,a,tp,ns,x,rfl,j,by omega,c⟩
 |move x i=>
  refine⟨_,rfl,t,_,_,_,rfl,rfl,AE.of b,rfl,rfl,_,rfl,BH (by decide +kernel) ?_⟩;refine⟨_,rfl,t,_,_,_,rfl,rfl,AE.of b,rfl,rfl,_,rfl,BH (by decide +kernel) ?_⟩;refine⟨_,rfl,t,_,_,_,rfl,rfl,AE.of b,rfl,rfl,_,rfl,Ig (by decide +kernel) ?_⟩;refine⟨_,rfl,_,rfl,t,_,_,_,rfl,rfl,AE.of b,rfl,a,tp,ns,x,rfl,j,by omega,λl2 H2 y s2 v=>?_⟩;have r:=s2 _ _ b;have hw:(wo ns x).length<=ns.length:=Ga _ _;exact⟨_,rfl,t,_,_,_,rfl,rfl,AE.of r,rfl,_,rfl,t,_,_,_,rfl,rfl,AE.of r,rfl,l2,false,wo ns x,x,i,rfl,v,by omega,λl H' n s e=>c l H' (A9.none s2 n) (s2.trans s) e⟩
 |turn lo hi=>
  refine⟨_,rfl,t,_,_,_,rfl,rfl,AE.of b,rfl,rfl,_,rfl,BH (by decide +kernel) ?_⟩;refine⟨_,rfl,t,_,_,_,rfl,rfl,AE.of b,rfl,rfl,_,rfl,BH (by decide +kernel) ?_⟩;refine⟨_,rfl,t,_,_,_,rfl,rfl,AE.of b,rfl,rfl,_,rfl,BH (by decide +kernel) ?_⟩;exact⟨_,rfl,_,rfl,t,_,_,_,rfl,rfl,AE.of b,rfl,_,rfl,t,_,_,_,rfl,rfl,AE.of b,rfl,a,tp,ns,lo,hi,rfl,j,LL,by omega,hd.1,hd.2,c⟩
def ZAW:Ai ["gap","at"] ["gap","at"] (AR V2):=by walk_at "z1"
def ZGg(F:AF K "gap_behind_put" "gap_behind_put" V2 f fd)(m:mg "gap_behind_put"=some (.ref f)):
  A8 P w K mg Zy "gap_behind_put" 1 ["gap","at"] (kN):=by
 refine A8.mk F (F.binds (by walk_at "bD2")) m (F.Al (k:=0) ZAW (λvs H Q E h=>?_) (λAV A outer s H vs Q E b h=>?_))
 .obtain⟨g,i,rfl,q⟩:=h;rfl
 obtain⟨g,i,rfl,q⟩:=h;refine⟨_,(AB rfl (Aq (Ac Fy (qv 1) (qv 0)) (AA rfl (AZ (Az Dp (qv 0) A7))) Ay)
   (AA rfl (AZ (qv 0)))),?_⟩
 refine⟨_,rfl,_,rfl,_,_,rfl,rfl,_,rfl,?_⟩;refine B3 (λc=>?_) (λc=>?_)
 .have a:(i:Int)<(g:Int):=tZ c;have e:((G3 i g:Nat):Int)=(g:Int)+1:=by unfold G3;rw[tU (by omega)];omega
  rw[e]at q;exact⟨_,rfl,_,_,rfl,rfl,q⟩
 .have a:¬ (i:Int)<(g:Int):=λz=>c (rD z);have e:G3 i g=g:=by unfold G3;rw[tJ (by omega)]
  rw[e]at q;exact⟨_,rfl,q⟩
def zQ:Ai ["gap","place"] ["gap","place"] (AR aX):=by walk_at "z1"
def ZFZ(F:AF K "gap_behind_take" "gap_behind_take" aX f fd)(m:mg "gap_behind_take"=some (.ref f)):
  A8 P w K mg Zy "gap_behind_take" 1 ["gap","place"] (dG):=by
 refine A8.mk F (F.binds (by walk_at "bD2")) m (F.Al (k:=0) zQ (λvs H Q E h=>?_) (λAV A outer s H vs Q E b h=>?_))
 .obtain⟨g,p,rfl,q⟩:=h;rfl
 obtain⟨g,p,rfl,q⟩:=h;refine⟨_,(AB rfl (Aq (Ac Fy (qv 1) (qv 0)) (AA rfl (AZ (Az NG (qv 0) A7))) Ay)
   (AA rfl (AZ (qv 0)))),?_⟩
 refine⟨_,rfl,_,rfl,_,_,rfl,rfl,_,rfl,?_⟩;refine B3 (λc=>?_) (λc=>?_)
 .have a:(p:Int)<(g:Int):=tZ c;have e:((FI p g:Nat):Int)=(g:Int) - 1:=by unfold FI;rw[tU (by omega)];omega
  rw[e]at q;exact⟨_,rfl,_,_,rfl,rfl,q⟩
 .have a:¬ (p:Int)<(g:Int):=λz=>c (rD z);have e:FI p g=g:=by unfold FI;rw[tJ (by omega)]
  rw[e]at q;exact⟨_,rfl,q⟩
def qS:Ai ["row","gap","deed"] ["row","gap","deed"] (AR WG):=by walk_at "z1"
def yB(F:AF K "gap_led" "gap_led" WG f fd)(m:mg "gap_led"=some (.ref f)):
  A8 P w K mg Zy "gap_led" 3 ["row","gap","deed"] (fP):=by
 refine A8.mk F (F.binds (by walk_at "bD3")) m (F.Al (k:=2) qS (λvs H Q E h=>?_) (λAV A outer s H vs Q E c h=>?_))
 .obtain⟨a,t,tp,ns,g,d,rfl,o,n,ok,q⟩:=h;rfl
 obtain⟨a,t,tp,ns,g,d,rfl,o,n,ok,q⟩:=h;refine⟨_,(AB rfl (Aq (Ac Bs (AI AN (qv 2) A7) Ad) (AA rfl (AZ (AM R6 c (A0 (qv 1) (A0 (AI AN (qv 2) A7) A4))))) Ay)
   (AB rfl (Aq (Ac Bs (AI AN (qv 2) A7) Ad) (AA rfl (AZ (AM RD c (A0 (qv 1) (A0 (AM FH c (A0 (qv 0) (A0 (AI AN (qv 2) A7) A4))) A4))))) Ay)
   (AB rfl (Aq (Ac Bs (AI AN (qv 2) A7) Ad) (AA rfl (AZ (AM R6 c (A0 (AM RD c (A0 (qv 1) (A0 (AM FH c (A0 (qv 0) (A0 (AI AN (qv 2) A7) A4))) A4))) (A0 (AI AN (qv 2) A7) A4))))) Ay)
   (AA rfl (AZ (qv 1)))))),?_⟩
 have b:=n;have a1:=o;refine⟨_,rfl,t,_,_,_,rfl,rfl,AE.of b,Hb d,rfl,_,rfl,B3 (λl=>?_) (λl=>?_)⟩
 .obtain⟨x,i,rfl⟩:=Vn l;exact⟨_,rfl,_,rfl,t,_,_,_,rfl,rfl,AE.of b,rfl,g,i,rfl,q⟩
 refine⟨_,rfl,t,_,_,_,rfl,rfl,AE.of b,Hb d,rfl,_,rfl,B3 (λj=>?_) (λj=>?_)⟩
 .obtain⟨x,rfl⟩:=Yj j;exact⟨_,rfl,_,rfl,_,rfl,t,_,_,_,rfl,rfl,AE.of b,rfl,a,tp,ns,x,rfl,a1,ok,g,_,rfl,q⟩
 refine⟨_,rfl,t,_,_,_,rfl,rfl,AE.of b,Hb d,rfl,_,rfl,B3 (λe=>?_) (λe=>?_)⟩
 .obtain⟨x,i,rfl⟩:=ZCm e;exact⟨_,rfl,_,rfl,_,rfl,t,_,_,_,rfl,rfl,AE.of b,rfl,a,tp,ns,x,rfl,a1,ok.1,g,_,rfl,_,rfl,t,_,_,_,rfl,rfl,AE.of b,rfl,_,i,rfl,q⟩
 obtain⟨lo,hi,rfl⟩:=ZHC l j e;exact⟨_,rfl,q⟩
def ZFU:Ai ["loop","at"] ["loop","at"] (AR Ul):=by walk_at "z1"
def sD(F:AF K "joins" "joins" Ul f fd)(m:mg "joins"=some (.ref f)):
  A8 P w K mg Zy "joins" 1 ["loop","at"] (jy):=by
 refine A8.mk F (F.binds (by walk_at "bD2")) m (F.Al (k:=0) ZFU (λvs H Q E h=>?_) (λAV A outer s H vs Q E j h=>?_))
 .obtain⟨t,r,g,i,c,rfl,a,q⟩:=h;rfl
 obtain⟨t,r,g,i,c,rfl,a,q⟩:=h;refine⟨_,(AA rfl (AZ (rN (Cj Bs (AI AN (qv 0) A7) Ad) (Ih (Hf (Cj Bs (AI AN (qv 0) A7) Ad) (Ih (Cj JU (qv 1) (AI AN (qv 0) A7)))))))),?_⟩;refine⟨_,rfl,t,_,_,_,rfl,rfl,AE.of a,rfl,rfl,_,rfl,?_⟩;refine B3 (λb=>?_) (λb=>?_)
 .have e:E8 r g i=true:=by unfold E8;rw[tU b]
  rw[e]at q;exact q
 .refine⟨_,rfl,t,_,_,_,rfl,rfl,AE.of a,rfl,rfl,_,rfl,?_⟩;refine B3 (λd=>?_) (λd=>?_)
  .have e:E8 r g i=decide ((g:Int)<=(i:Int)):=by unfold E8;rw[tJ b,tU d]
   rw[e]at q;exact⟨_,rfl,_,rfl,t,_,_,_,rfl,rfl,AE.of a,rfl,_,_,rfl,rfl,q⟩
  .have e:E8 r g i=false:=by unfold E8;rw[tJ b,tJ d]
   rw[e]at q;exact q
def ZHV:Ai ["loop","deed"] ["loop","deed"] (AR W8):=by walk_at "z1"
def uq(F:AF K "coming_behind" "coming_behind" W8 f fd)(m:mg "coming_behind"=some (.ref f)):
  A8 P w K mg Zy "coming_behind" 2 ["loop","deed"] (fF):=by
 refine A8.mk F (F.binds (by walk_at "bD2")) m (F.Al (k:=1) ZHV (λvs H Q E h=>?_) (λAV A outer s H vs Q E v h=>?_))
 .obtain⟨tl,t,c,r,g,ss,d,rfl,⟨b,j⟩,a,z,up,hx,q⟩:=h;rfl
 obtain⟨tl,t,c,r,g,ss,d,rfl,⟨b,j⟩,a,z,up,hx,q⟩:=h;refine⟨_,(AB rfl (Aq (Ac Bs (AI AN (qv 1) A7) Ad) (AA rfl (AZ (AM MN v (A0 (AI AN (qv 0) A7) (A0 (AI AN (qv 1) A7) A4))))) Ay)
   (AB rfl (Aq (Ik (Ac Bs (AI AN (qv 1) A7) Ad) (IF (DK (AM VW v (A0 (qv 0) (A0 (AI AN (qv 1) A7) A4)))))).pt (AA rfl (AZ (CS HM BQ (A0 (Ak ID BK (A0 (Az i6 (AI AN (qv 0) A7) (Bb (A0 (AI AN (qv 1) A7) A4))) A4)) A4)))) Ay)
   (AA rfl (AZ (AI AN (qv 0) A7))))),?_⟩
 refine⟨_,rfl,t,_,_,_,rfl,rfl,AE.of a,Hb d,rfl,_,rfl,B3 (λo=>?_) (λo=>?_)⟩
 .obtain⟨x,rfl⟩:=Yj o;exact⟨_,rfl,tl,_,_,_,rfl,rfl,AE.of b,rfl,_,rfl,t,_,_,_,rfl,rfl,AE.of a,rfl,c,ss,x,rfl,AE.of j,by omega,λl H' B s e=>q l H' (.inl B) s e⟩
 refine⟨_,rfl,t,_,_,_,rfl,rfl,AE.of a,Hb d,rfl,_,rfl,B3 (λp=>?_) (λp=>DQ ⟨_,rfl,tl,_,_,_,rfl,rfl,AE.of b,rfl,q c _ (.inr rfl) (A9.refl _) (by rw[ZAT p o];exact j)⟩)⟩;obtain⟨x,i,rfl⟩:=Vn p;refine⟨_,rfl,_,rfl,t,_,_,_,rfl,rfl,AE.of a,rfl,tl,r,g,i,c,rfl,b,_,rfl,?_⟩;refine B3 (λn=>?_) (λn=>⟨_,rfl,tl,_,_,_,rfl,rfl,AE.of b,rfl,q c _ (.inr rfl) (A9.refl _) (by rw[Zj (Bool.eq_false_iff.mpr n)];exact j)⟩);refine⟨_,rfl,tl,_,_,_,rfl,rfl,AE.of b,rfl,_,rfl,t,_,_,_,rfl,rfl,AE.of a,rfl,(by show 1<=sizeLine;decide),λt1 IX=>?_⟩;have n1:=Ab IX (.tup [.str x]);refine⟨c,t1,_,_,rfl,rfl,AE.of (n1 _ _ j),AE.of AJ,by simp,small (by rw[DP];simp;omega),λp2 H2 s2 C=>?_⟩;have G:AE K H2 p2 ((ss++[x]).map V.str):=by rw[CD];exact C
 refine⟨p2,true,ss++[x],rfl,G,by rw[BE];simp;omega,λy ts Mu hp hs=>?_⟩;have u:=Ab Mu (.lst (ts.map V.str));refine⟨y,_,rfl,.inl ⟨AK.of AJ,λD TU=>?_⟩⟩;exact q D _ (.inl (A9.none (n1.trans (s2.trans u)) TU)) (n1.trans (s2.trans (u.trans (Ab TU _)))) (by rw[AJ,Xc hp hs up (hx x i rfl),Yf n])
def r9:Ai ["row","loop","deed"] ["row","loop","deed"] (AR aI):=by walk_at "z1"
def vw(F:AF K "loop_led" "loop_led" aI f fd)(m:mg "loop_led"=some (.ref f)):
  A8 P w K mg Zy "loop_led" 4 ["row","loop","deed"] (SU):=by
 refine A8.mk F (F.binds (by walk_at "bD3")) m (F.Al (k:=3) r9 (λvs H Q E h=>?_) (λAV A outer s H vs Q E j h=>?_))
 .obtain⟨a,tl,t,c,tp,ns,r,g,ss,d,rfl,n,⟨Kf,o⟩,b,ok,gd,v,q⟩:=h;rfl
 obtain⟨a,tl,t,c,tp,ns,r,g,ss,d,rfl,n,⟨Kf,o⟩,b,ok,gd,v,q⟩:=h;refine⟨_,(AA rfl (AZ (Bb (A0 (AI AN (qv 1) A7) (A0 (AM aQ j (A0 (qv 0) (A0 (AI AN (qv 1) A7) (A0 (qv 2) A4)))) (A0 (AM V0 j (A0 (qv 1) (A0 (qv 2) A4))) A4)))))),?_⟩;have l:=gd.len;have g1:=gd.g1;refine⟨_,rfl,tl,_,_,_,rfl,rfl,AE.of Kf,rfl,_,rfl,_,rfl,tl,_,_,_,rfl,rfl,AE.of Kf,rfl,_,rfl,a,t,tp,ns,g,d,rfl,n,b,ok,?_⟩;refine⟨_,rfl,_,rfl,tl,t,c,r,g,ss,d,rfl,⟨Kf,o⟩,b,by omega,gd.up,XO gd ok,λp H3 x e y=>?_⟩;refine⟨(by show 3<=sizeLine;decide),λu J2=>?_⟩;have i:=Ab J2 (.tup [.str r,.int (d.gap ns g:Nat),.ref p]);exact q u p _ (A9.none e J2) x (e.trans i) ⟨AJ,i _ _ y⟩
def Zp:Ai ["self","deed","behind","name"] ["self","deed"] (AR Uo):=by walk_at "z1"
def gD:∀ss R,(TB A3) ss R->ss.length=2:=by rintro _ _⟨m,s,a,t,d,rfl,_,_,_,_,rfl⟩;rfl
def xM(F:AF K "act" "Yard.act" Uo f fd)(o:Meth K A3 "act" f):
  Br P w K mg Zy A3 "act" 9 ["self","deed"] (DB (TB A3)):=by
 refine⟨f,fd,F.Al (k:=8) Zp (λvs H Q E h=>Fz.Jq gD h) (λAV A outer s H vs Q E b h=>?_),(F.binds (by walk_at "bD2")),o,Ao⟩
 refine⟨_,(AB rfl (An 2 Zp.nd (AM Zm b (A0 (CQ (qv 0)) (A0 (qv 1) A4))))
   (AB rfl (CJ (FG Ec rfl (DF (CS (lx rfl) Bx (A0 (CQ (qv 0)) A4))) (Bp 3 Zp.nd) (AA rfl (KR (BM b) (CQ (qv 0)) (qv 3) (AM M9 b (A0 (CQ (qv 0)) (A0 (Bo (BM b) (CQ (qv 0)) (qv 3) (λ_ _=>rfl)) (A0 (qv 1) A4))))))))
   (AB rfl (CI (El FO Hx Hy Gk (CQ (qv 0)) (A0 (Bb (A0 (CQ (qv 0)) (A0 (qv 1) A4))) A4)))
   (AA rfl (PB (qv 0) (qv 2)))))),?_⟩
 refine Fz.SF h gD ?_;rintro _ _⟨m,s,a,t,d,rfl,q,ok,hd,hp,rfl⟩;obtain⟨dx,aK,aP,rfl⟩:=q;show Ws [_,_,.any,.any] _ _ _;have l1:=ok.l1;have z:=ok.HB;have b:=ok.row.len;have B:=ok.m4;refine Aw (Hq (wF (BS (Dq (P9 rfl Ao Cf ⟨_,rfl,_,.inl ⟨rfl,rfl,s.row,rfl,AL rfl ⟨d,rfl,hd,by omega,?_⟩⟩⟩)))));refine UG 2 rfl ?_;show Ws [.ow true (B5 s A3 a dx aK aP),.is (dP d),.is (.lst ((d.done s.row).map .str)),.any] _ _ _;refine Aw (FT (G1 (λ_ i AH=>∃(c:Slot)(t':OV),AH=[.ow true t',.is (dP d),.is (.lst ((d.done s.row).map .str)),c]/\Ei (s.mid d i) A3 a t') (KL (Hc (DT (lC (KG rfl Ao Cn ⟨Au s.ln,aK,_,rfl,by unfold Au;rw[AS];omega,_,.inl ⟨rfl,?_⟩⟩)))))));rw[bp];refine⟨⟨_,_,rfl,dx,aK,aP,rfl⟩,?_,?_⟩
 .rintro i p AH hp⟨c,t',rfl,GQ⟩;rw[B1]at hp;obtain⟨x,hx,rfl⟩:=Option.map_eq_some_iff.mp hp;refine He ?_;obtain⟨Gp,Cu,DG,rfl⟩:=GQ;have e:x∈s.ln:=DR hx;have n:s.ln.idxOf x=i:=MK ok.n1 hx;have hi:i<s.ln.length:=(List.getElem?_eq_some_iff.mp hx).1;obtain⟨l,j⟩:∃l,s.ll[i]?=some l:=⟨_,B9 (by omega)⟩;have u:=ok.good l (DR j);refine Ka (i:=0) (t:=B5 (s.mid d i) A3 a Gp Cu DG) (FD (oA (BS (Dq (P9 rfl Ao Cf ⟨_,rfl,_,.inl ⟨rfl,s.row,rfl,?_⟩⟩)))));refine Dq (NC (KG rfl Ao Cn ⟨Au s.ln,Cu,_,rfl,AL rfl ⟨.inr x,i,.fz l.P,rfl,by rw[LO e,n],YA (c6 j),_,rfl,l.r,l.g,l.cs,rfl,AL rfl ⟨d,rfl,hd,u,by omega,?_⟩⟩⟩));refine KG rfl Ao Cn ⟨true,Cu,Au s.ln,_,rfl,rfl,by unfold BY;rw[AS];show(Fw s d i).length<=99999;rw[kj];omega,Ii ok.n1,B2,AL rfl ⟨.inr x,rfl,?_⟩⟩;rw[Rv e,R5 e];unfold B5;rw[show([]++[1]:List Nat)=[1]from rfl,UA,n];have y:(BY (s.mid d i).ll).set i (.fz (Ca l.r (d.gap s.row l.g) (d.G4 l.r l.g l.cs)))=BY (Fw s d (i+1)):=by
   rw[<- ko j];exact Tj _ _ (l.led s.row d)
  rw[y];exact⟨_,_,rfl,Gp,Cu,DG,rfl⟩
 .rintro AH⟨c,t',rfl,GQ⟩;rw[AS,l1]at GQ;obtain⟨Gp,Cu,DG,rfl⟩:=GQ;have v:(s.mid d s.ll.length).ll=s.ll.map (Lp.led s.row d):=cx s d;refine Aw (Yy (i:=0) (t:=B5 (s.mid d s.ll.length) A3 a Gp Cu DG) (ZDQ rfl Ao Fj ⟨true,DG,_,rfl,rfl,by rw[AS];show s.pa.length<=99999;omega,FD (Kh (HY (Dq (P9 rfl Ao Cf ⟨_,rfl,HY (AL rfl (JK ⟨by show 2<=100000;decide,B2,?_⟩))⟩))))⟩));unfold B5;rw[show([]++[2]:List Nat)=[2]from rfl,vX,v];have ep:s.pa.map .fz++[.fz (.tup [.lst (s.row.map .str),dP d])]=(s.pa++[HR s.row d]).map OV.fz:=by rw[CD];rfl
  show Ws [.ow true (.nd (.obj A3 Gp yN) a [.fz (.lst (s.row.map .str)),.nd (.B0 (Au s.ln)) Cu (BY (s.ll.map (Lp.led s.row d))),.nd .lst DG (s.pa.map .fz++[.fz (.tup [.lst (s.row.map .str),dP d])]),.fz (.int s.fg)]),.is (dP d),.is (.lst ((d.done s.row).map .str)),c] _ _ _;rw[ep];refine Nj (i:=0) (FD (AL rfl (E2 rfl ⟨true,A3,Gp,yN,a,_,rfl,rfl,Ao,Cf,by decide,B2,?_⟩)));rw[OV.Gq];exact⟨_,_,_,_,rfl,rfl,rfl,Gp,Cu,DG,rfl⟩
def TZ:Ai ["row","deed","made","low","high"] ["row","deed"] (AR SS):=by walk_at "z1"
noncomputable def ZEo:=Sc [(".0",.local),("name",.local),("deed",.free)]
def qV:Cc ["row","deed","made","low","high"] (AR SS) ZEo "name" ["deed"] [1]:=by walk_at "z2"
def ra(F:AF K "_law_done" "_law_done" SS f fd)(m:mg "_law_done"=some (.ref f)):
  A8 P w K mg Zy "_law_done" 1 ["row","deed"] (ZU):=by
 refine A8.mk F (F.binds (by walk_at "bD2")) m (F.Al (k:=0) TZ (λvs H Q E h=>?_) (λAV A outer s H vs Q E hr h=>?_))
 .obtain⟨a,t,ns,d,rfl,b,l,hd,M,nd,q⟩:=h;rfl
 obtain⟨a,t,ns,d,rfl,b,l,hd,M,nd,q⟩:=h;refine⟨_,(AB rfl (N4 (i:=2) TZ.nd rfl (Or.inl rfl) rfl qV (DF (qv 0)) (λ_ _ _ _=>by exact(Fu (Ac G6 (qv 1) (AI (show EA _ (Ij K)from AN) (qv 0) A7)))) (λ_ _ _ _=>by exact(qv 1)))
   (AB rfl (Aq (Ac Bs (AI AN (qv 1) A7) Ad) (AB rfl (JH (DM mN (qv 1) (Cr A7) Dn) (J3 rfl (DV (Bp 3 TZ.nd) (DV (Bp 4 TZ.nd) IE))))
   (AA rfl (AZ (Az Hd (Az Hd (DM IM (qv 0) Dn (Cr (qv 3))) (mJ rfl rfl Bx rfl Mt (A0 (DM IM (qv 0) (Cr (qv 3)) (Cr (qv 4))) A4))) (DM IM (qv 0) (Cr (qv 4)) Dn))))) Ay)
   (AB rfl (CJ (Aq (Ac G6 (AI AN (qv 1) A7) Ad) (AA rfl (CI (El FO ZJH PySem.F.type_list_insert ZD6 (qv 2) (A0 (AI AN (qv 1) A7) (A0 (AI AN (qv 1) A7) A4))))) Ay))
   (AA rfl (AZ (qv 2)))))),?_⟩
 have N:=DP ns;have z:∀n:Nat,n<=2001->n<=sizeLine:=λn h=>C7 h (by decide +kernel);have O:C4 K false H a (ns.map V.str):=AK.of b;have R:=ZCw ns d;refine⟨_,rfl,false,a,_,rfl,O,λacc B6=>KW (J1 d.v1) (λv=>v) O B6 (by rw[N];exact small (by omega)) (λi v H' Q' e s1 h=>?_) (λi v H' Q' e _ s1 h=>?_) (λH' s1 g=>?_)⟩
 .obtain⟨y,rfl,hm⟩:=KS e;exact⟨_,rfl,_,rfl,t,_,_,_,rfl,rfl,AE.of (s1 _ _ l),ka d,ZI1 y d,_,rfl,h H' (A9.refl _)⟩
 .exact⟨_,rfl,h H' (A9.refl _)⟩
 have c:=s1 _ _ l;rw[ZAq]at g;refine⟨_,rfl,t,_,_,_,rfl,rfl,AE.of c,Hb d,rfl,_,rfl,B3 (λu=>?_) (λu=>?_)⟩
 .obtain⟨lo,hi,rfl⟩:=ZBE u;obtain⟨h1,h2⟩:=hd;refine⟨_,rfl,_,rfl,t,_,rfl,AE.of c,(λh=>absurd h.1 (show ¬ HT.As 3 0 (some 1)=0 by decide)),λp n=>?_⟩;have n1:=Ab n (.tup (CL (AW.turn lo hi).vals (some 1) none));refine⟨p,_,rfl,AE.of AJ,rfl,_,_,rfl,_,_,rfl,rfl,?_⟩;have s2:=s1.trans n1;have o:=s2 _ _ b;refine⟨_,rfl,_,rfl,_,rfl,a,_,rfl,AK.of o,λl3 σ=>?_⟩;rw[OO];have T:=Ab σ (.lst ((ns.map V.str).take lo));have J:=s2.trans T;refine⟨_,rfl,_,rfl,_,rfl,_,rfl,_,rfl,a,_,rfl,AK.of (J _ _ b),λl4 Y=>?_⟩;rw[kJ _ h1 (by rw[N];exact h2)];have D:=Ab Y (.lst (((ns.map V.str).drop lo).take (hi - lo)));refine⟨l4,false,_,rfl,AK.of AJ,rfl,λl5 X=>?_⟩;have C:=Ab X (.lst (((ns.map V.str).drop lo).take (hi - lo)).reverse);refine⟨l3,l5,_,_,rfl,rfl,C _ _ (D _ _ AJ),AJ,z _ (by simp only[Bk,QK,Co];omega),λl6 W=>?_⟩;have S:=Ab W (.lst ((ns.map V.str).take lo++(((ns.map V.str).drop lo).take (hi - lo)).reverse));have I:=J.trans (D.trans (C.trans S));refine⟨_,rfl,_,rfl,_,rfl,a,_,rfl,AK.of (I _ _ b),λl7 U=>?_⟩;rw[Q4];have B:=Ab U (.lst ((ns.map V.str).drop hi));refine⟨l6,l7,_,_,rfl,rfl,B _ _ AJ,AJ,z _ (by simp only[BE,Bk,Co,QK];omega),λl8 L=>?_⟩;have G:=I.trans B;refine q l8 _ (A9.none G L) (G.trans (Ab L _)) ?_;rw[AJ];show some (HO.lst _)=some (HO.lst ((G7 ns lo hi).map V.str));unfold G7;simp only[CD,Nd,Nc,ZIy,Bj]
 .refine⟨λσ' H'=>σ'=[some (.ref a),some (.ref t),some (.ref acc),none,none]/\A9 H H'/\H' acc=some (.lst ((d.done ns).map V.str)),?_,?_⟩
  .refine⟨_,rfl,t,_,_,_,rfl,rfl,AE.of c,Hb d,rfl,_,rfl,B3 (λr=>?_) (λr=>⟨rfl,s1,by rw[sL r];exact g⟩)⟩;obtain⟨x,i,MI,e,Ef,j⟩:=zX hd nd u r;refine⟨_,rfl,.inl ⟨rfl,_,AK.of g⟩,_,rfl,t,_,_,_,rfl,rfl,AE.of c,MI,_,rfl,t,_,_,_,rfl,rfl,AE.of c,ka d,acc,_,_,_,rfl,rfl,g,by omega,by rw[DP];omega,by rw[DP];exact Hw R (Hw M (by decide +kernel)),?_⟩;refine⟨rfl,rX s1 B6,?_⟩;rw[AJ,j,e];unfold ins;simp only[CD,Nd,Bu,Nc,Hr]
  .rintro σ' H2⟨rfl,s2,o⟩;exact⟨_,rfl,q acc H2 B6 s2 o⟩
def Zz:Ai ["row","gap","deed"] ["row","gap","deed"] (AR Yr):=by walk_at "z1"
def ZFy(F:AF K "_law_gap" "_law_gap" Yr f fd)(m:mg "_law_gap"=some (.ref f)):
  A8 P w K mg Zy "_law_gap" 1 ["row","gap","deed"] (kf):=by
 refine A8.mk F (F.binds (by walk_at "bD3")) m (F.Al (k:=0) Zz (λvs H Q E h=>?_) (λAV A outer s H vs Q E o h=>?_))
 .obtain⟨a,t,ns,g,d,rfl,l,b,ok,q⟩:=h;rfl
 obtain⟨a,t,ns,g,d,rfl,l,b,ok,q⟩:=h;refine⟨_,(AB rfl (CJ (Aq (Ac FE (AI AN (qv 2) A7) (Bb (A0 Ad (A0 Ad A4)))) (AA rfl (An 1 Zz.nd (Az NG (qv 1) (CS Og Gs (A0 (Cj Fy (El FO bX pA YL (qv 0) (A0 (AI AN (qv 2) A7) A4)) (qv 1)) A4))))) Ay))
   (AB rfl (CJ (Aq (Ac FE (AI AN (qv 2) A7) (Bb (A0 Ad (A0 Ad A4)))) (AA rfl (An 1 Zz.nd (Az Dp (qv 1) (CS Og Gs (A0 (Cj Fy (AI AN (qv 2) A7) (qv 1)) A4))))) Ay))
   (AA rfl (AZ (qv 1))))),?_⟩
 refine⟨λσ' H'=>σ'=[some (.ref a),some (.int (d.Ol ns g:Nat)),some (.ref t)]/\A9 H H',?_,?_⟩
 .refine⟨_,rfl,t,_,_,_,rfl,rfl,AE.of b,Hb d,(by show 2<=sizeLine;decide),λt1 IX=>?_⟩;have n1:=Ab IX (.tup [.str "take",.str "move"]);refine⟨t1,_,rfl,.inr (AE.of AJ),rfl,rfl,_,rfl,?_⟩;show if DX (.str d.kind) [.str "take",.str "move"]=true then _ else _
  refine B3 (λc=>?_) (λc=>?_)
  .obtain⟨x,Xy,Ln,j⟩:=ZCA g ok c;refine⟨_,rfl,_,rfl,.inl ⟨rfl,_,AK.of (n1 _ _ l)⟩,_,rfl,t,_,_,_,rfl,rfl,AE.of (n1 _ _ b),Xy,a,ns,x,rfl,rfl,AK.of (n1 _ _ l),Ln,_,rfl,_,_,rfl,rfl,.inr ⟨_,rfl,_,_,rfl,rfl,?_,n1⟩⟩;rw[j,<- pZ];rfl
  .refine⟨?_,n1⟩;rw[ug g c];rfl
 rintro σ' H1⟨rfl,s1⟩;have n:=s1 _ _ b;refine⟨λσ' H'=>σ'=[some (.ref a),some (.int (d.gap ns g:Nat)),some (.ref t)]/\A9 H H',?_,?_⟩
 .refine⟨_,rfl,t,_,_,_,rfl,rfl,AE.of n,Hb d,(by show 2<=sizeLine;decide),λt2 Lk=>?_⟩;have e:=Ab Lk (.tup [.str "put",.str "move"]);refine⟨t2,_,rfl,.inr (AE.of AJ),rfl,rfl,_,rfl,?_⟩;show if DX (.str d.kind) [.str "put",.str "move"]=true then _ else _
  refine B3 (λc=>?_) (λc=>?_)
  .obtain⟨i,MI,Ef⟩:=ZCM (ns:=ns) g c;refine⟨_,rfl,_,rfl,t,_,_,_,rfl,rfl,AE.of (e _ _ n),MI,_,rfl,_,_,rfl,rfl,.inr ⟨_,rfl,_,_,rfl,rfl,?_,s1.trans e⟩⟩;rw[Ef,<- rE];rfl
  .refine⟨?_,s1.trans e⟩;rw[ZF1 g c]
 rintro σ' H2⟨rfl,s2⟩;exact⟨_,rfl,q _ s2⟩
def MG:Ai ["row","loop","deed","rule","gap","coming"] ["row","loop","deed"] (AR RC):=by walk_at "z1"
noncomputable def sG:=Sc [(".0",.local),("name",.local),("deed",.free)]
def ZEq:Cc ["row","loop","deed","rule","gap","coming"] (AR RC) sG "name" ["deed"] [2]:=by walk_at "z2"
def ZI4(F:AF K "_law_led" "_law_led" RC f fd)(m:mg "_law_led"=some (.ref f)):
  A8 P w K mg Zy "_law_led" 2 ["row","loop","deed"] (RY):=by
 refine A8.mk F (F.binds (by walk_at "bD3")) m (F.Al (k:=1) MG (λvs H Q E h=>?_) (λAV A outer s H vs Q E hr h=>?_))
 .obtain⟨a,tl,t,c,ns,r,g,ss,d,rfl,Y,⟨σ,G⟩,e,ok,gd,hz,q⟩:=h;rfl
 obtain⟨a,tl,t,c,ns,r,g,ss,d,rfl,Y,⟨σ,G⟩,e,ok,gd,hz,q⟩:=h;refine⟨_,(AB rfl (JH (qv 1) (J3 rfl (DV (Bp 3 MG.nd) (DV (Bp 4 MG.nd) (DV (Bp 5 MG.nd) IE)))))
   (AB rfl (CJ (Aq (Ac Bs (AI AN (qv 2) A7) Ad) (AA rfl (An 5 MG.nd (CS HM BQ (A0 (Fi rfl ZEq (DF (qv 5)) (λ_ _ _ _=>by exact(Fu (Ac G6 (qv 1) (AI (show EA _ (Ij K)from AN) (qv 0) A7)))) (λ_ _ _ _=>by exact(qv 1))) A4)))) Ay))
   (AB rfl (CJ (Aq (Ik (Ac Bs (AI AN (qv 2) A7) Ad) (IF (DW (Ac Bs (qv 3) Ad) (Ff (Ik (Ac Bs (qv 3) Ad) (IF (Ac JU (AI AN (qv 2) A7) (qv 4)))).pt)).pt)).pt (AA rfl (An 5 MG.nd (CS HM BQ (A0 (Ak ID BK (A0 (Az i6 (qv 5) (Bb (A0 (AI AN (qv 2) A7) A4))) A4)) A4)))) Ay))
   (AA rfl (AZ (Bb (A0 (qv 3) (A0 (AM b4 hr (A0 (qv 0) (A0 (qv 4) (A0 (qv 2) A4)))) (A0 (qv 5) A4))))))))),?_⟩
 have X:=gd.len;refine⟨_,rfl,tl,_,rfl,AE.of σ,rfl,_,_,rfl,_,_,rfl,_,_,rfl,rfl,?_⟩;refine⟨λσ' H'=>∃b:Addr,σ'=[some (.ref a),some (.ref tl),some (.ref t),some (.str r),some (.int g),some (.ref b)]/\A9 H H'/\(H b=none∨b=c)/\H' b=some (.tup ((d.Rm ss).map V.str)),?_,?_⟩
 .refine⟨_,rfl,t,_,_,_,rfl,rfl,AE.of e,Hb d,rfl,_,rfl,?_⟩;refine B3 (λj=>?_) (λj=>⟨c,rfl,A9.refl _,.inr rfl,by rw[fQ j];exact G⟩);obtain⟨x,Xy,Ln⟩:=uU (r:=r) (g:=g) (ss:=ss) j;have JS:C4 K true H c (ss.map V.str):=AE.of G;refine⟨_,rfl,true,c,_,rfl,JS,λacc B6=>KW (J1 (.str x)) (λv=>v) JS B6 (by rw[DP];exact small (by omega)) (λi v H' Q' W s4 h=>?_) (λi v H' Q' W _ s4 h=>?_) (λH4 s4 e4=>?_)⟩
  .obtain⟨y,rfl,_⟩:=KS W;exact⟨_,rfl,_,rfl,t,_,_,_,rfl,rfl,AE.of (s4 _ _ e),Xy,rfl,_,rfl,h _ (A9.refl _)⟩
  .exact⟨_,rfl,h _ (A9.refl _)⟩
  rw[Ow,<- Ln]at e4;exact⟨acc,_,rfl,.inl ⟨AK.of e4,λt5 OE=>⟨t5,rfl,s4.trans (Ab OE _),.inl (A9.none s4 OE),AJ⟩⟩⟩
 rintro σ' H1⟨p,rfl,s1,I,o⟩;refine⟨λσ' H'=>∃b:Addr,σ'=[some (.ref a),some (.ref tl),some (.ref t),some (.str r),some (.int g),some (.ref b)]/\A9 H H'/\(H b=none∨b=c)/\H' b=some (.tup ((d.G4 r g ss).map V.str)),?_,?_⟩
 .refine⟨_,rfl,t,_,_,_,rfl,rfl,AE.of (s1 _ _ e),Hb d,rfl,_,rfl,?_⟩;refine B3 (λN=>?_) (λN=>DQ ⟨p,rfl,s1,I,by rw[ki N];exact o⟩);obtain⟨x,i,rfl⟩:=Vn N;replace o:H1 p=some (.tup (ss.map V.str)):=o;refine⟨_,rfl,rfl,_,rfl,?_⟩;refine B3 (λj=>?_) (λj=>?_)
  .have n:E8 r g i=true:=by unfold E8;rw[tU j]
   refine PX ?_;refine⟨_,rfl,_,rfl,t,_,_,_,rfl,rfl,AE.of (s1 _ _ e),rfl,(by show 1<=sizeLine;decide),λC ZP=>?_⟩;have l:=Ab ZP (.tup [.str x]);refine⟨p,C,_,_,rfl,rfl,AE.of (l _ _ o),AE.of AJ,by simp,small (by rw[DP];simp;omega),λz H7 u J=>?_⟩;have R:AE K H7 z ((ss++[x]).map V.str):=by rw[CD];exact J
   refine⟨z,true,ss++[x],rfl,R,by rw[BE];simp;omega,λD ts Zv hp hs=>?_⟩;have B:=Ab Zv (.lst (ts.map V.str));refine⟨D,_,rfl,.inl ⟨AK.of AJ,λO Q9=>?_⟩⟩;exact⟨O,rfl,s1.trans (l.trans (u.trans (B.trans (Ab Q9 _)))),.inl (A9.none (s1.trans (l.trans (u.trans B))) Q9),by rw[AJ,Xc hp hs gd.up (XO gd ok x i rfl),Yf n]⟩
  .refine⟨_,rfl,rfl,_,rfl,?_⟩;refine B3 (λM=>?_) (λM=>?_)
   .refine⟨_,rfl,t,_,_,_,rfl,rfl,AE.of (s1 _ _ e),rfl,_,rfl,_,_,rfl,rfl,_,rfl,?_⟩;have KU:E8 r g i=decide ((g:Int)<=(i:Int)):=by unfold E8;rw[tJ j,tU M]
    refine B3 (λL=>?_) (λL=>?_)
    .have n:E8 r g i=true:=KU.trans L;refine⟨_,rfl,_,rfl,t,_,_,_,rfl,rfl,AE.of (s1 _ _ e),rfl,(by show 1<=sizeLine;decide),λC ZP=>?_⟩;have l:=Ab ZP (.tup [.str x]);refine⟨p,C,_,_,rfl,rfl,AE.of (l _ _ o),AE.of AJ,by simp,small (by rw[DP];simp;omega),λz H7 u J=>?_⟩;have R:AE K H7 z ((ss++[x]).map V.str):=by rw[CD];exact J
     refine⟨z,true,ss++[x],rfl,R,by rw[BE];simp;omega,λD ts Zv hp hs=>?_⟩;have B:=Ab Zv (.lst (ts.map V.str));refine⟨D,_,rfl,.inl ⟨AK.of AJ,λO Q9=>?_⟩⟩;exact⟨O,rfl,s1.trans (l.trans (u.trans (B.trans (Ab Q9 _)))),.inl (A9.none (s1.trans (l.trans (u.trans B))) Q9),by rw[AJ,Xc hp hs gd.up (XO gd ok x i rfl),Yf n]⟩
    .have n:E8 r g i=false:=KU.trans (Bool.eq_false_iff.mpr L);exact⟨p,rfl,s1,I,by rw[Zj n];exact o⟩
   .have n:E8 r g i=false:=by unfold E8;rw[tJ j,tJ M]
    exact DQ ⟨p,rfl,s1,I,by rw[Zj n];exact o⟩
 rintro σ' H2⟨c2,rfl,s2,f2,e2⟩;refine⟨_,rfl,_,rfl,_,rfl,_,rfl,a,t,ns,g,d,rfl,s2 _ _ Y,s2 _ _ e,ok,λH3 S=>?_⟩;refine⟨_,rfl,(by show 3<=sizeLine;decide),λt4 J2=>?_⟩;have U:=s2.trans S;have T:=Ab J2 (.tup [.str r,.int (d.gap ns g:Nat),.ref c2]);exact q t4 c2 _ (A9.none U J2) f2 (U.trans T) ⟨AJ,T _ _ (S _ _ e2)⟩
def fU:Ai ["yard","state","deed","name"] ["yard","state","deed"] (AR ZD):=by walk_at "z1"
def dB:∀ss R,(PM A3) ss R->ss.length=3:=by rintro _ _⟨m,s,a1,a2,t1,t2,d,rfl,_,_,_,_,_,rfl⟩;rfl
def ZCR(F:AF K "_law_acts" "_law_acts" ZD f fd)(m:mg "_law_acts"=some (.ref f)):
  A8 P w K mg Zy "_law_acts" 10 ["yard","state","deed"] (DB (PM A3)):=by
 refine A8.mk F (F.binds (by walk_at "bD3")) m (F.Al (k:=9) fU (λvs H Q E h=>Fz.Jq dB h) (λAV A outer s H vs Q E a h=>?_))
 refine⟨_,(AB rfl (CJ (FG Ec rfl (DF (CS (lx rfl) Bx (A0 (Bo (BM a) (qv 1) Ad (λ_ _=>rfl)) A4))) (Bp 3 fU.nd) (AA rfl (KR (BM a) (Bo (BM a) (qv 1) Ad (λ_ _=>rfl)) (qv 3) (AM MV a (A0 (Bo (BM a) (qv 1) Ad (λ_ _=>rfl)) (A0 (Bo (BM a) (Bo (BM a) (qv 1) Ad (λ_ _=>rfl)) (qv 3) (λ_ _=>rfl)) (A0 (qv 2) A4))))))))
   (AB rfl (CI (El FO Hx Hy Gk (Bo (BM a) (qv 1) Ad (λ_ _=>rfl)) (A0 (Bb (A0 (Bo (BM a) (qv 1) Ad (λ_ _=>rfl)) (A0 (qv 2) A4))) A4)))
   (AB rfl (KR (BM a) (qv 1) Ad (AM XC a (A0 (Bo (BM a) (qv 1) Ad (λ_ _=>rfl)) (A0 (qv 2) A4))))
   (AA rfl (AZ (Cj VN (GX Vd a (by decide) (qv 0) (A0 (qv 2) A4)) NO)))))),?_⟩
 refine Fz.Qz h dB ?_;rintro _ _⟨m,s,a1,a2,t1,t2,d,rfl,u,y,ok,hd,hp,rfl⟩;obtain⟨aK,aP,rfl⟩:=y;obtain⟨dx,e,c,rfl⟩:=id u;have l1:=ok.l1;have D:=ok.HB;have a:=ok.row.len;have G:=ok.m4;show Ws [.ow true (B5 s A3 a1 dx e c),.ow true (B7 s a2 aK aP),.is (dP d),.any] _ _ _;refine Aw (FT (G1 (λ_ i AH=>∃(b:Slot)(t':OV),AH=[.ow true (B5 s A3 a1 dx e c),.ow true t',.is (dP d),b]/\IB (s.mid d i) a2 t') (KL (Hc (DT (lC (Hz rfl ⟨Au s.ln,aK,_,rfl,by unfold Au;rw[AS];omega,_,.inl ⟨rfl,?_⟩⟩)))))));rw[bp];refine⟨⟨_,_,rfl,aK,aP,rfl⟩,?_,?_⟩
 .rintro i p AH hp⟨b,t',rfl,GQ⟩;rw[B1]at hp;obtain⟨x,hx,rfl⟩:=Option.map_eq_some_iff.mp hp;refine He ?_;obtain⟨Cu,DG,rfl⟩:=GQ;have n:x∈s.ln:=DR hx;have q:s.ln.idxOf x=i:=MK ok.n1 hx;have hi:i<s.ln.length:=(List.getElem?_eq_some_iff.mp hx).1;obtain⟨l,o⟩:∃l,s.ll[i]?=some l:=⟨_,B9 (by omega)⟩;have z:=ok.good l (DR o);refine Ka (i:=1) (t:=B7 (s.mid d i) a2 Cu DG) (FD (jv (BS (Dq (K2 rfl ⟨_,rfl,_,.inl ⟨rfl,rfl,s.row,rfl,?_⟩⟩)))));refine Dq (NC (Hz rfl ⟨Au s.ln,Cu,_,rfl,AL rfl ⟨.inr x,i,.fz l.P,rfl,by rw[LO n,q],YA (c6 o),_,rfl,l.r,l.g,l.cs,rfl,AL rfl ⟨d,rfl,hd,z,by omega,?_⟩⟩⟩));refine Hz rfl ⟨true,Cu,Au s.ln,_,rfl,rfl,by unfold BY;rw[AS];show(Fw s d i).length<=99999;rw[kj];omega,Ii ok.n1,B2,AL rfl ⟨.inr x,rfl,?_⟩⟩;rw[Rv n,R5 n];unfold B7;rw[show([]++[1]:List Nat)=[1]from rfl,Ov,q];have C:(BY (s.mid d i).ll).set i (.fz (Ca l.r (d.gap s.row l.g) (d.G4 l.r l.g l.cs)))=BY (Fw s d (i+1)):=by
   rw[<- ko o];exact Tj _ _ (l.led s.row d)
  rw[C];exact⟨_,_,rfl,Cu,DG,rfl⟩
 .rintro AH⟨b,t',rfl,GQ⟩;rw[AS,l1]at GQ;obtain⟨Cu,DG,rfl⟩:=GQ;have B:(s.mid d s.ll.length).ll=s.ll.map (Lp.led s.row d):=cx s d;refine Aw (Yy (i:=1) (t:=B7 (s.mid d s.ll.length) a2 Cu DG) (uk rfl ⟨true,DG,_,rfl,rfl,by rw[AS];show s.pa.length<=99999;omega,FD (Kh (HY (Dq (K2 rfl ⟨_,rfl,HY (AL rfl (JK ⟨by show 2<=100000;decide,B2,?_⟩))⟩))))⟩));unfold B7;rw[show([]++[2]:List Nat)=[2]from rfl,put2,B];have ep:s.pa.map .fz++[.fz (.tup [.lst (s.row.map .str),dP d])]=(s.pa++[HR s.row d]).map OV.fz:=by rw[CD];rfl
  show Ws [.ow true (B5 s A3 a1 dx e c),.ow true (.nd (.B0 D6) a2 [.fz (.lst (s.row.map .str)),.nd (.B0 (Au s.ln)) Cu (BY (s.ll.map (Lp.led s.row d))),.nd .lst DG (s.pa.map .fz++[.fz (.tup [.lst (s.row.map .str),dP d])])]),.is (dP d),b] _ _ _;rw[ep];show Ws [.ow true (B5 s A3 a1 dx e c),.ow true (B7 ⟨s.row,s.ln,s.ll.map (Lp.led s.row d),s.pa++[HR s.row d],s.fg⟩ a2 Cu DG),.is (dP d),b] _ _ _;refine Aw (Ka (i:=1) (t:=B7 ⟨s.row,s.ln,s.ll.map (Lp.led s.row d),s.pa++[HR s.row d],s.fg⟩ a2 Cu DG) (FD (DT (jH (BS (Dq (K2 rfl ⟨_,rfl,_,.inl ⟨rfl,rfl,s.row,rfl,AL rfl ⟨d,rfl,hd,by omega,ok.row.nd,?_⟩⟩⟩)))))));refine E2 rfl ⟨true,a2,D6,_,rfl,rfl,by show 3<=99999;decide,by decide +kernel,B2,Eg ⟨.inr "row", rfl,?_⟩⟩;rw[OV.Gq,vS,yD];show Ws [.ow true (B5 s A3 a1 dx e c),.ow true (B7 (s.act d) a2 Cu DG),.is (dP d),b] _ _ _;refine Se (i:=0) (j:=1) (by decide) rfl rfl (W6 (Pm rfl (by decide +kernel) (Jm (AL rfl (Mi ⟨_,⟨m,s,a1,_,d,rfl,u,ok,hd,hp,rfl⟩,?_⟩)))));rintro _ t2⟨rfl,Ci⟩;obtain⟨v,CN,rfl⟩:=Ci.nd;exact⟨v,CN,rfl,rfl,_,_,_,rfl,rfl,Ci,Cu,DG,rfl⟩
def ZHv:Ai ["pot"] ["pot"] (AR VA):=by walk_at "z1"
def gU : ∀ss R,Yq ss R->ss.length=1:=by rintro _ _⟨rfl,rfl⟩;rfl
def ZHH(F:AF K "_law_rule" "_law_rule" VA f fd)(m:mg "_law_rule"=some (.ref f)):
  A8 P w K mg Zy "_law_rule" 2 ["pot"] (Ag Yq):=by
 refine A8.mk F (F.binds (by walk_at "bD1")) m (F.Al (k:=1) ZHv (λvs H Q E h=>Fz.CO gU h) (λAV A outer s H vs Q E a h=>?_))
 refine⟨_,(AA rfl (AZ (AI AN (Bb (A0 Ad (A0 Ad (A0 Ad A4)))) (AM BG a (A0 (qv 0) (A0 A7 A4)))))),?_⟩;refine Fz.CK h gU ?_;rintro _ _⟨rfl,rfl⟩;show Ws [_] _ _ _
 walk_at "ww"
 refine⟨by decide,_,.inr ⟨rfl,rfl,?_⟩⟩
 walk_at "ww"
 refine⟨by decide,by decide,λq b d=>?_⟩;obtain⟨q,rfl⟩:=Fm b;obtain⟨r,a,c⟩:=Zb (k:=q) (by omega);exact⟨_,_,rfl,c,r,rfl,a⟩
def Ml:Ai ["row","loop","rule","gap","coming","found","left"] ["row","loop"] (AR P4):=by walk_at "z1"
noncomputable def ZGc:=Sc [(".0",.local),("name",.local),("coming",.free)]
def ZCy:Cc ["row","loop","rule","gap","coming","found","left"] (AR P4) ZGc "name" ["coming"] [4]:=by walk_at "z2"
noncomputable def ZIM:=Sc [(".0",.local),("name",.local),("found",.free)]
def ZB5:Cc ["row","loop","rule","gap","coming","found","left"] (AR P4) ZIM "name" ["found"] [5]:=by walk_at "z2"
def wm(F:AF K "_law_step" "_law_step" P4 f fd)(m:mg "_law_step"=some (.ref f)):
  A8 P w K mg Zy "_law_step" 1 ["row","loop"] (U9):=by
 refine A8.mk F (F.binds (by walk_at "bD2")) m (F.Al (k:=0) Ml (λvs H Q E h=>?_) (λAV A outer s H vs Q E hr h=>?_))
 .obtain⟨a,ns,t,r,g,ss,rfl,n,⟨c,W,I⟩,C8,hz,q⟩:=h;rfl
 obtain⟨a,ns,t,r,g,ss,rfl,n,⟨c,W,I⟩,C8,hz,q⟩:=h;refine⟨_,(AB rfl (JH (qv 1) (J3 rfl (DV (Bp 2 Ml.nd) (DV (Bp 3 Ml.nd) (DV (Bp 4 Ml.nd) IE)))))
   (AB rfl (An 5 Ml.nd (Fi rfl ZCy (DF (Az Hd (DM IM (qv 0) (Cr (qv 3)) Dn) (DM IM (qv 0) Dn (Cr (qv 3))))) (λ_ _ _ _=>by exact(Fu (Ac (show BB _ (compareOp .In) (Et K false)from FE) (qv 1) (qv 0)))) (λ_ _ _ _=>by exact(qv 1))))
   (AB rfl (Aq (Ac (LH hr.Fo) (qv 5) (Dw A4)) (AA rfl (AZ (Bb (A0 NO (A0 (qv 1) A4))))) Ay)
   (AB rfl (An 6 Ml.nd (CS HM BQ (A0 (Fi rfl ZB5 (DF (qv 4)) (λ_ _ _ _=>by exact(Fu (Ac G6 (qv 1) (AI (show EA _ (JO K)from DL) (qv 0) A7)))) (λ_ _ _ _=>by exact(qv 1))) A4)))
   (AA rfl (AZ (Bb (A0 (AI DL (qv 5) A7) (A0 (Bb (A0 (qv 2) (A0 (Az Dp (El FO bX pA YL (qv 0) (A0 (AI DL (qv 5) A7) A4)) A7) (A0 (qv 6) A4)))) A4))))))))),?_⟩
 have hl:=DP ns;have G:=DP ss;refine⟨_,rfl,t,_,rfl,AE.of W,rfl,_,_,rfl,_,_,rfl,_,_,rfl,rfl,?_⟩;refine⟨_,rfl,_,rfl,_,rfl,a,_,rfl,AK.of n,λl1 GC=>?_⟩;have n1:=Ab GC (.lst (CL (ns.map V.str) (some (g:Int)) none));refine⟨_,rfl,_,rfl,_,rfl,a,_,rfl,AK.of (n1 _ _ n),λl2 Ck=>?_⟩;have N:=Ab Ck (.lst (CL (ns.map V.str) none (some (g:Int))));have e1:=N _ _ (AJ (H:=H) (a:=l1) (o:=.lst (CL (ns.map V.str) (some (g:Int)) none)));have e2:=AJ (H:=upd H l1 (.lst (CL (ns.map V.str) (some (g:Int)) none))) (a:=l2) (o:=.lst (CL (ns.map V.str) none (some (g:Int))));have k2:=n1.trans N;generalize upd (upd H l1 (.lst (CL (ns.map V.str) (some (g:Int)) none))) l2 (.lst (CL (ns.map V.str) none (some (g:Int))))=H2 at *;rw[Q4]at e1;rw[OO]at e2;refine⟨l1,l2,_,_,rfl,rfl,e1,e2,small (by rw[Co,Bk];omega),λD Mu=>?_⟩;have n3:=Ab Mu (.lst ((ns.map V.str).drop g++(ns.map V.str).take g));have T:=k2.trans n3;have X:C4 K false (upd H2 D (.lst ((ns.map V.str).drop g++(ns.map V.str).take g))) D ((ns.drop g++ns.take g).map V.str):=AK.of (by rw[AJ,CD,Nc,Nd]);refine⟨false,D,_,rfl,X,λacc B6=>KW (λv=>DX v (ss.map V.str)) (λv=>v) X B6 (small (by rw[DP,BE,Co,Bk];omega)) (λi v H' Q' l s4 h=>?_) (λi v H' Q' l _ s4 h=>?_) (λH4 s4 e4=>?_)⟩
 .obtain⟨x,rfl,_⟩:=KS l;exact⟨_,rfl,_,rfl,c,_,rfl,.inr (AE.of (s4 _ _ (T _ _ I))),rfl,EX ss,_,rfl,h _ (A9.refl _)⟩
 .exact⟨_,rfl,h _ (A9.refl _)⟩
 rw[nX,xv]at e4;have k4:=T.trans s4;refine⟨_,rfl,(by show 0<=sizeLine;decide),λR mU=>?_⟩;have M:=Ab mU (.lst []);have j:=k4.trans M;have u:=M _ _ e4;refine⟨acc,R,_,[],rfl,rfl,.inl ⟨AK.of u,AK.of AJ⟩,EX _,rfl,_,rfl,?_⟩;show if EV ((D5 ns g ss).map V.str) []=true then _ else _
 rw[ND];refine B3 (λz=>?_) (λz=>?_)
 .have p:D5 ns g ss=[]:=by simpa using z
  refine⟨_,rfl,(by show 2<=sizeLine;decide),λt' Fe=>?_⟩;exact q t' _ (A9.none j Fe) (j.trans (Ab Fe _)) (.inl ⟨p,AJ⟩)
 .obtain⟨x,FK,p⟩:∃x FK,D5 ns g ss=x::FK:=by
   cases h:D5 ns g ss with
   |nil=>rw[h]at z;simp at z
   |cons x FK=>exact⟨x,FK,rfl⟩
  have hx:x∈ns/\x∈ss:=O7.mp (by rw[p];exact Cp);rw[p]at u;generalize upd H4 R (.lst [])=H5 at *;have U:C4 K true H5 c (ss.map V.str):=AE.of (j _ _ I);refine⟨_,rfl,true,c,_,rfl,U,λvh qW=>KW (J1 (.str x)) (λv=>v) U qW (by rw[G];exact small (by omega)) (λi v H' Q' l b h=>?_) (λi v H' Q' l _ b h=>?_) (λH6 b e6=>?_)⟩
  .obtain⟨y,rfl,_⟩:=KS l;exact⟨_,rfl,_,rfl,acc,_,_,_,rfl,rfl,AK.of (b _ _ u),OP,rfl,_,rfl,h _ (A9.refl _)⟩
  .exact⟨_,rfl,h _ (A9.refl _)⟩
  rw[Ow]at e6;refine⟨vh,_,rfl,.inl ⟨AK.of e6,λd S=>?_⟩⟩;have L:=Ab S (.tup ((wo ss x).map V.str));have e:=j.trans (b.trans L);have f7:H d=none:=A9.none (j.trans b) S;have σ:=L _ _ (b _ _ u);have u7:=AJ (H:=H6) (a:=d) (o:=.tup ((wo ss x).map V.str));generalize upd H6 d (.tup ((wo ss x).map V.str))=H7 at *;refine⟨_,rfl,acc,_,_,_,rfl,rfl,AK.of σ,OP,_,rfl,_,rfl,.inl ⟨rfl,_,AK.of (e _ _ n)⟩,_,rfl,acc,_,_,_,rfl,rfl,AK.of σ,OP,a,ns,x,rfl,rfl,AK.of (e _ _ n),hx.1,_,_,rfl,rfl,_,rfl,?_⟩;refine⟨(by show 3<=sizeLine;decide),λJ O=>?_⟩;have C:=Ab O (.tup [.str r,.int ((ns.idxOf x:Nat)+1),.ref d]);refine⟨(by show 2<=sizeLine;decide),λt9 Y=>?_⟩;have B:=Ab Y (.tup [.str x,.ref J]);exact q t9 _ (A9.none (e.trans C) Y) (e.trans (C.trans B)) (.inr ⟨x,FK,J,d,p,A9.none e O,f7,AJ,B _ _ AJ,B _ _ (C _ _ u7)⟩)
def TK:Ai ["pot","row","most","way","low","name"] ["pot","row","most"] (AR Zi):=by walk_at "z1"
def ZCf(F:AF K "_law_deed" "_law_deed" Zi f fd)(m:mg "_law_deed"=some (.ref f)):
  A8 P w K mg Zy "_law_deed" 3 ["pot","row","most"] (Rr):=by
 refine A8.mk F (F.binds (by walk_at "bD3")) m (F.Al (k:=2) TK (λvs H Q E h=>?_) (λAV A outer s H vs Q E B h=>?_))
 .obtain⟨p,a,m,ns,rfl,hp,O,Aj,J,W,U,m2,q⟩:=h;rfl
 obtain⟨p,a,m,ns,rfl,hp,O,Aj,J,W,U,m2,q⟩:=h;refine⟨_,(AB rfl (An 3 TK.nd (AM BG B (A0 (qv 0) (A0 A7 A4))))
   (AB rfl (Aq (DW (Ik (Ac Fy (qv 3) A7) (IF (Ac Fy (Ak EL Af (A0 (qv 1) A4)) (qv 2)))).pt (Ff (Ac (LH B.Fo) (qv 1) (Dw A4)))).pt (AB rfl (Aq (Ac JU (Ak EL Af (A0 (qv 1) A4)) (qv 2)) (AA rfl (AZ (Bb (A0 Ad (A0 A7 (A0 A7 A4)))))) Ay)
   (AA rfl (AZ (Bb (A0 Ad (A0 (AM Gw B (A0 (qv 0) (A0 (qv 1) A4))) (A0 (AM BG B (A0 (qv 0) (A0 (Az Dp (Ak EL Af (A0 (qv 1) A4)) A7) A4))) A4))))))) Ay)
   (AB rfl (Aq (Ac Bs (qv 3) A7) (AB rfl (An 4 TK.nd (AM BG B (A0 (qv 0) (A0 (Az Dp (Ak EL Af (A0 (qv 1) A4)) A7) A4))))
   (AA rfl (AZ (Bb (A0 Ad (A0 (qv 4) (A0 (Az Dp (qv 4) (AM BG B (A0 (qv 0) (A0 (Az Dp (Az NG (Ak EL Af (A0 (qv 1) A4)) (qv 4)) A7) A4)))) A4))))))) Ay)
   (AB rfl (An 5 TK.nd (AI DL (qv 1) (AM BG B (A0 (qv 0) (A0 (Ak EL Af (A0 (qv 1) A4)) A4)))))
   (AB rfl (Aq (Ac Bs (qv 3) A7) (AA rfl (AZ (Bb (A0 Ad (A0 (qv 5) (A0 (AM BG B (A0 (qv 0) (A0 (Ak EL Af (A0 (qv 1) A4)) A4))) A4)))))) Ay)
   (AA rfl (AZ (Bb (A0 Ad (A0 (qv 5) A4)))))))))),?_⟩
 have b:=DP ns;have v:∀n:Nat,n<=3->n<=sizeLine:=λn h=>C7 h (by decide +kernel);refine⟨_,rfl,p,5,rfl,hp,by decide,by decide,λT H1 w0 σ s1=>?_⟩;have C:=s1.at' O Aj;have R:decide (ns.map V.str=[])=true->ns=[]:=λh=>List.map_eq_nil_iff.mp (tZ h);have S:¬ decide (ns.map V.str=[])=true->0<ns.length:=λh=>by
  cases ns with
  |nil=>exact absurd (rD rfl) h
  |cons y r=>simp
 refine⟨_,rfl,_,_,rfl,rfl,_,rfl,?_⟩;refine B3 (λX=>?_) (λX=>DQ ?_)
 .refine⟨_,rfl,a,_,rfl,.inl (AK.of C),_,rfl,_,_,rfl,rfl,_,rfl,?_⟩;refine B3 (λL=>PX ?_) (λL=>?_)
  .have Y:ns.length<m:=by have:=tZ L;rw[b]at this;omega
   have l:=s1;have j:=C;refine⟨_,rfl,a,_,rfl,.inl (AK.of j),_,rfl,_,_,rfl,rfl,_,rfl,BH (by rw[b,uB (by omega)];decide) ?_⟩;refine⟨_,rfl,_,rfl,p,a,ns,rfl,l.AD,j,Aj,J,by omega,λx H3 nx hx c=>?_⟩;have o:=c.at' j Aj;refine⟨_,rfl,_,rfl,a,_,rfl,.inl (AK.of o),_,_,rfl,rfl,p,_,rfl,c.AD,by omega,by rw[b];omega,λi H4 i0 i1 s4=>?_⟩;rw[b]at i1;obtain⟨i,rfl⟩:=Fm i0;refine⟨v _ (by simp),λt d=>?_⟩;have g:=l.trans (c.trans s4);exact q (.put x i) t _ (g.none d) (g.trans (BA.of g.AD (Ab d _))) AJ ⟨nx,hx,by omega,by omega⟩
  .have G:¬ ns.length<m:=λz=>L (rD (by rw[b];omega));refine⟨_,rfl,(by show 0<=sizeLine;decide),λe I=>?_⟩;have s2:=BA.of s1.AD (Ab I (.lst []));have l:=s1.trans s2;have j:=s2.at' C Aj;refine⟨a,e,_,[],rfl,rfl,.inl ⟨AK.of j,AK.of AJ⟩,EX ns,rfl,_,rfl,?_⟩;show if EV (ns.map V.str) []=true then _ else _
   rw[ND];refine B3 (λcC=>?_) (λcC=>?_)
   .exact absurd (by rw[R cC];show 0<m;omega) G
   .have Ke:=S cC;refine⟨_,rfl,rfl,_,rfl,?_⟩;refine B3 (λM=>?_) (λM=>?_)
    .refine⟨_,rfl,_,rfl,a,_,rfl,.inl (AK.of j),_,_,rfl,rfl,p,_,rfl,l.AD,by omega,by rw[b];omega,λlo H3 D l1 c=>?_⟩;rw[b]at l1;obtain⟨lo,rfl⟩:=Fm D;have o:=c.at' j Aj;refine⟨_,rfl,_,rfl,_,rfl,_,rfl,a,_,rfl,.inl (AK.of o),_,rfl,_,_,rfl,rfl,_,_,rfl,rfl,p,_,rfl,c.AD,by rw[b];omega,by rw[b];omega,λk H4 k0 k1 s4=>?_⟩;rw[b]at k1;obtain⟨k,rfl⟩:=Fm k0;refine⟨_,_,rfl,rfl,v _ (by simp),λt d=>?_⟩;have g:=l.trans (c.trans s4);exact q (.turn lo (lo+k)) t _ (g.none d) (g.trans (BA.of g.AD (Ab d _))) (by rw[AJ];rfl) ⟨by omega,by omega⟩
    .refine⟨_,rfl,_,rfl,_,rfl,a,_,rfl,.inl (AK.of j),p,_,rfl,l.AD,by rw[b];omega,by rw[b];omega,λi H3 i0 i1 c=>?_⟩;rw[b]at i1;have o:=c.at' j Aj;obtain⟨x,hx,O1,_⟩:=Pz i0 i1;refine⟨a,_,_,_,rfl,rfl,AK.of o,hx,?_⟩;have u:=l.trans c;refine⟨_,rfl,rfl,_,rfl,?_⟩;refine B3 (λN=>?_) (λN=>?_)
     .refine⟨_,rfl,_,rfl,_,rfl,a,_,rfl,.inl (AK.of o),p,_,rfl,c.AD,by rw[b];omega,by rw[b];omega,λk H4 k0 k1 s4=>?_⟩;rw[b]at k1;obtain⟨k,rfl⟩:=Fm k0;have g:=u.trans s4;refine⟨v _ (by simp),λt d=>?_⟩;exact q (.move x k) t _ (g.none d) (g.trans (BA.of g.AD (Ab d _))) AJ ⟨O1,by omega⟩
     .refine⟨_,rfl,v _ (by simp),λt d=>?_⟩;exact q (.take x) t _ (u.none d) (u.trans (BA.of u.AD (Ab d _))) AJ O1
 .skip
  refine⟨_,rfl,(by show 0<=sizeLine;decide),λe I=>?_⟩;have s2:=BA.of s1.AD (Ab I (.lst []));have l:=s1.trans s2;have j:=s2.at' C Aj;refine⟨a,e,_,[],rfl,rfl,.inl ⟨AK.of j,AK.of AJ⟩,EX ns,rfl,_,rfl,?_⟩;show if EV (ns.map V.str) []=true then _ else _
  rw[ND];refine B3 (λcC=>?_) (λcC=>?_)
  .have Y:ns.length<m:=by rw[R cC];show 0<m;omega
   refine⟨_,rfl,a,_,rfl,.inl (AK.of j),_,rfl,_,_,rfl,rfl,_,rfl,BH (by rw[b,uB (by omega)];decide) ?_⟩;refine⟨_,rfl,_,rfl,p,a,ns,rfl,l.AD,j,Aj,J,by omega,λx H3 nx hx c=>?_⟩;have o:=c.at' j Aj;refine⟨_,rfl,_,rfl,a,_,rfl,.inl (AK.of o),_,_,rfl,rfl,p,_,rfl,c.AD,by omega,by rw[b];omega,λi H4 i0 i1 s4=>?_⟩;rw[b]at i1;obtain⟨i,rfl⟩:=Fm i0;refine⟨v _ (by simp),λt d=>?_⟩;have g:=l.trans (c.trans s4);exact q (.put x i) t _ (g.none d) (g.trans (BA.of g.AD (Ab d _))) AJ ⟨nx,hx,by omega,by omega⟩
  .have Ke:=S cC;refine⟨_,rfl,rfl,_,rfl,?_⟩;refine B3 (λM=>?_) (λM=>?_)
   .refine⟨_,rfl,_,rfl,a,_,rfl,.inl (AK.of j),_,_,rfl,rfl,p,_,rfl,l.AD,by omega,by rw[b];omega,λlo H3 D l1 c=>?_⟩;rw[b]at l1;obtain⟨lo,rfl⟩:=Fm D;have o:=c.at' j Aj;refine⟨_,rfl,_,rfl,_,rfl,_,rfl,a,_,rfl,.inl (AK.of o),_,rfl,_,_,rfl,rfl,_,_,rfl,rfl,p,_,rfl,c.AD,by rw[b];omega,by rw[b];omega,λk H4 k0 k1 s4=>?_⟩;rw[b]at k1;obtain⟨k,rfl⟩:=Fm k0;refine⟨_,_,rfl,rfl,v _ (by simp),λt d=>?_⟩;have g:=l.trans (c.trans s4);exact q (.turn lo (lo+k)) t _ (g.none d) (g.trans (BA.of g.AD (Ab d _))) (by rw[AJ];rfl) ⟨by omega,by omega⟩
   .refine⟨_,rfl,_,rfl,_,rfl,a,_,rfl,.inl (AK.of j),p,_,rfl,l.AD,by rw[b];omega,by rw[b];omega,λi H3 i0 i1 c=>?_⟩;rw[b]at i1;have o:=c.at' j Aj;obtain⟨x,hx,O1,_⟩:=Pz i0 i1;refine⟨a,_,_,_,rfl,rfl,AK.of o,hx,?_⟩;have u:=l.trans c;refine⟨_,rfl,rfl,_,rfl,?_⟩;refine B3 (λN=>?_) (λN=>?_)
    .refine⟨_,rfl,_,rfl,_,rfl,a,_,rfl,.inl (AK.of o),p,_,rfl,c.AD,by rw[b];omega,by rw[b];omega,λk H4 k0 k1 s4=>?_⟩;rw[b]at k1;obtain⟨k,rfl⟩:=Fm k0;have g:=u.trans s4;refine⟨v _ (by simp),λt d=>?_⟩;exact q (.move x k) t _ (g.none d) (g.trans (BA.of g.AD (Ab d _))) AJ ⟨O1,by omega⟩
    .refine⟨_,rfl,v _ (by simp),λt d=>?_⟩;exact q (.take x) t _ (u.none d) (u.trans (BA.of u.AD (Ab d _))) AJ O1
def K4:Ai ["pot","yard","state","most","names","way","name","rule","thing","later"] ["pot","yard","state","most"] (AR Zx):=by walk_at "z1"
def nZ:∀ss R,(Tt A3) ss R->ss.length=4:=by rintro _ _⟨m,s,a1,a2,t1,t2,rfl,_,_,_,_,_,rfl⟩;rfl
def qZ(F:AF K "_law_turn" "_law_turn" Zx f fd)(m:mg "_law_turn"=some (.ref f)):
  A8 P w K mg Zy "_law_turn" 11 ["pot","yard","state","most"] (DB (Tt A3)):=by
 refine A8.mk F (F.binds (by walk_at "bD4")) m (F.Al (k:=10) K4 (λvs H Q E h=>Fz.Jq nZ h) (λAV A outer s H vs Q E a h=>?_))
 refine⟨_,(AB rfl (An 4 K4.nd (Ak (R3 rfl) BK (A0 (Bo (BM a) (qv 2) Ad (λ_ _=>rfl)) A4)))
   (AB rfl (An 5 K4.nd (AM BG a (A0 (qv 0) (A0 A7 A4))))
   (AB rfl (Aq (DW (Ik (Ac Bs (qv 5) A7) (IF (Ac Fy (Ak DU Af (A0 (qv 4) A4)) A7))).pt (Ff (Ik (Ac (LH a.Fo) (qv 4) (Dw A4)) (IF (Ac Fy (qv 5) A7))).pt)).pt (AB rfl (An 6 K4.nd (AM Gw a (A0 (qv 0) (A0 (qv 4) A4))))
   (AB rfl (An 7 K4.nd (AM X5 a (A0 (qv 0) A4)))
   (AB rfl (KR (BM a) (Bo (BM a) (qv 2) Ad (λ_ _=>rfl)) (qv 6) (AM JJ a (A0 (Bo (BM a) (qv 2) Ad (λ_ _=>rfl)) (A0 (qv 7) A4))))
   (AA rfl (AZ (Cj VN (GX MH a (by decide) (qv 1) (A0 (qv 6) (A0 (qv 7) A4))) NO)))))) Ay)
   (AB rfl (Aq (Ik (Ac Fy (qv 5) A7) (IF (Ac (LC a.Fo) (qv 4) (Dw A4)))).pt (AB rfl (An 6 K4.nd (AI DL (qv 4) (AM BG a (A0 (qv 0) (A0 (Ak DU Af (A0 (qv 4) A4)) A4)))))
   (AB rfl (Aq (Ac Bs (qv 5) A7) (AB rfl (CI (jc (Bo (BM a) (qv 2) Ad (λ_ _=>rfl)) (qv 6) ⟨rfl,rfl,rfl,rfl⟩))
   (AA rfl (AZ (Cj VN (GX YK a (by decide) (qv 1) (A0 (qv 6) A4)) NO)))) Ay)
   (AB rfl (JH (AM Mc a (A0 (Bo (BM a) (qv 2) Ad (λ_ _=>rfl)) (A0 (Bo (BM a) (Bo (BM a) (qv 2) Ad (λ_ _=>rfl)) (qv 6) (λ_ _=>rfl)) A4))) (J3 rfl (DV (Bp 8 K4.nd) (DV (Bp 9 K4.nd) IE))))
   (AB rfl (KR (BM a) (Bo (BM a) (qv 2) Ad (λ_ _=>rfl)) (qv 6) (qv 9))
   (AA rfl (AZ (Cj Bs (GX Us a (by decide) (qv 1) (A0 (qv 6) A4)) (qv 8)))))))) Ay)
   (AA rfl (AZ (AM Xa a (A0 (qv 1) (A0 (qv 2) (A0 (AM XR a (A0 (qv 0) (A0 (Bo (BM a) (qv 2) Ad (λ_ _=>rfl)) (A0 (qv 3) A4)))) A4)))))))))),?_⟩
 refine Fz.Qz h nZ ?_;rintro _ _⟨m,s,a1,a2,t1,t2,rfl,h1,L,hS,ok,hp,rfl⟩;obtain⟨aK,aP,rfl⟩:=hS;obtain⟨dx,o,e,rfl⟩:=id L;have l1:=ok.l1;have lf:=ok.HB;have a:=ok.row.len;have h4:=ok.m4;show Ws [.AD,.ow true (B5 s A3 a1 dx o e),.ow true (B7 s a2 aK aP),.is (.int m),.any,.any,.any,.any,.any,.any] _ _ _;refine Aw (Hq (di (Hz rfl ⟨s.ln,aK,_,rfl,by omega,λBC M st=>?_⟩)));have nl:BC.length=s.ln.length:=M.length_eq;refine UG 4 rfl ?_;show Ws [.AD,.ow true (B5 s A3 a1 dx o e),.ow true (B7 s a2 aK aP),.is (.int m),.is (.lst (BC.map .str)),.any,.any,.any,.any,.any] _ _ _
 walk_at "ww"
 refine⟨by decide,by decide,λw w0 w9=>?_⟩;show Ws [.AD,.ow true (B5 s A3 a1 dx o e),.ow true (B7 s a2 aK aP),.is (.int m),.is (.lst (BC.map .str)),.is (.int w),.any,.any,.any,.any] _ _ _;refine Aw (E4 (ZHW (k':=λb=>b=true->s.ln.length<12) ?_ ?_))
 .walk_at "ww"
  refine B3 (λc=>?_) (λc=>?_)
  .walk_at "ww"
   rw[AS,nl];refine B3 (λI=>λ_=>by have:=tZ I;omega) (λI=>?_)
   walk_at "ww"
   refine⟨by decide,_,.inl ⟨rfl,rfl,[],rfl,_,rfl,?_⟩⟩;refine B3 (λv=>?_) (λv z=>by cases z);have e0:BC=[]:=tZ v
   walk_at "ww"
   exact λ_=>by
    rw[e0]at nl;have:s.ln.length=0:=nl.symm;omega
  .refine DQ ?_
   walk_at "ww"
   refine⟨by decide,_,.inl ⟨rfl,rfl,[],rfl,_,rfl,?_⟩⟩;refine B3 (λv=>?_) (λv z=>by cases z);have e0:BC=[]:=tZ v
   walk_at "ww"
   exact λ_=>by
    rw[e0]at nl;have:s.ln.length=0:=nl.symm;omega
 rintro b X;cases b with
 |true=>
  refine KY rfl ?_;refine Aw (Fp (U2 rfl (Gz rfl ⟨rfl,BC,rfl,λx hx=>ok.nm x (M.mem_iff.mp hx),by omega,λx hx nx=>?_⟩)));refine Aw (Fp (jJ rfl (Bc ⟨_,⟨rfl,rfl⟩,?_⟩)));rintro _⟨r,rfl,Jz⟩;have G5:x∉s.ln:=λz=>nx (M.mem_iff.mpr z);show Ws [.AD,.ow true (B5 s A3 a1 dx o e),.ow true (B7 s a2 aK aP),.is (.int m),.is (.lst (BC.map .str)),.is (.int w),.is (.str x),.is (.str r),.any,.any] _ _ _;refine Aw (Ka (i:=2) (t:=B7 s a2 aK aP) (FD (wp_call (GN (BS (Dq (K2 rfl ⟨_,rfl,_,.inl ⟨rfl,BR (AL rfl (Bc ⟨_,⟨s.row,r,rfl,by omega,rfl⟩,?_⟩))⟩⟩)))))));rintro _⟨ts,IL,FJ,rfl⟩;rw[KP ok.row.nd IL FJ];refine Hz rfl ⟨true,aK,Au s.ln,_,rfl,rfl,by unfold BY;rw[AS];omega,Ii ok.n1,B2,AL rfl ⟨.inr x,rfl,?_⟩⟩;rw[Td G5,Z7 G5];unfold B7;rw[show([]++[1]:List Nat)=[1]from rfl,Ov];have R:BY s.ll++[.fz (Ca r 0 (CB s.row))]=BY (s.ll++[⟨r,0,CB s.row⟩]):=by unfold BY;rw[CD];rfl
  rw[R];show Ws [.AD,.ow true (B5 s A3 a1 dx o e),.ow true (B7 (s.Kd x r) a2 aK aP),.is (.int m),.is (.lst (BC.map .str)),.is (.int w),.is (.str x),.is (.str r),.any,.any] _ _ _;refine Se (i:=1) (j:=2) (by decide) rfl rfl (W6 (Pm rfl (by decide +kernel) (Jm (AL rfl (Jm (AL rfl (Mi ⟨_,⟨m,s,a1,_,x,r,rfl,L,ok,G5,hx,Jz,X rfl,rfl⟩,?_⟩)))))));rintro _ t2⟨rfl,Ci⟩;obtain⟨J,CN,rfl⟩:=Ci.nd;exact⟨J,CN,rfl,rfl,_,_,_,rfl,rfl,s.Kd x r,ok.Kd G5 hx Jz (X rfl),Ey _,rfl,.inl ⟨rfl,rfl⟩,Ci,aK,aP,rfl⟩
 |false=>
  refine BH (by decide) (CM ?_);have O:∀D C B y:Slot,Ws [.AD,.ow true (B5 s A3 a1 dx o e),.ow true (B7 s a2 aK aP),.is (.int m),.is (.lst (BC.map .str)),.is (.int w),D,C,B,y] (Ib (C0 (DB (PM A3)) [] E0 (AX (BJ 1) (AX (BJ 2) (AX (C0 Rr [] E0 (AX (BJ 0) (AX (GJ (BJ 2) (tC (V.str "row"))) (AX (BJ 3) B4)))) B4))))) (λx=>False) (.Iv λp T u2=>p=.bl true/\∃s',Yd.Ok m s'/\s'.pa.length<=s.pa.length+1/\s'.fg=s.fg/\(s'.pa=s.pa/\s'.row=s.row∨∃d:AW,d.Ok 40 s.row/\s'.pa=s.pa++[HR s.row d]/\s'.row=d.done s.row)/\Ei s' A3 a1 T/\IB s' a2 u2):=λD C B y=>by
   refine zF (i:=1) (j:=2) (l:=true) (by decide) (by show 1<10;decide) (by show 2<10;decide) (Xz (q:=0) (b:=false) (c:=true) (d:=true) (by decide) rfl rfl (λz=>by cases z) ?_);refine Z9 (n:=1) rfl (.inl ⟨_,_,_,rfl⟩) (Ui (n:=2) rfl (.inl ⟨_,_,_,rfl⟩) (cM (ic rfl (BS (Dq (K2 rfl ⟨_,rfl,_,.inl ⟨rfl,rfl,s.row,rfl,AL rfl ⟨m,rfl,ok.row.nm,a,h1,by omega,λd G=>?_⟩⟩⟩))))));have S:d.Ok 40 s.row:=by
    cases d with
    |put x i=>exact⟨G.1,G.2.1,G.2.2.1,by have:=G.2.2.2;omega⟩
    |_=>exact G
   refine Wj ⟨_,⟨m,s,a1,a2,_,_,d,rfl,L,⟨aK,aP,rfl⟩,ok,S,hp,rfl⟩,?_⟩;rintro _ T u2⟨rfl,W,U⟩;obtain⟨n1,v1,rfl⟩:=W.nd;obtain⟨n2,v2,rfl⟩:=U.nd;exact⟨rfl,rfl,_,_,_,_,_,_,rfl,rfl,rfl,s.act d,ok.act G S,by show(s.pa++[_]).length<=_;rw[BE];exact Am _,rfl,.inr ⟨d,S,rfl,rfl⟩,W,U⟩
  refine Ss (λAH=>∃D C B y:Slot,AH=[.AD,.ow true (B5 s A3 a1 dx o e),.ow true (B7 s a2 aK aP),.is (.int m),.is (.lst (BC.map .str)),.is (.int w),D,C,B,y]) ?_ (by rintro _⟨D,C,B,y,rfl⟩;exact O D C B y)
  walk_at "ww"
  refine B3 (λc=>?_) (λc=>BH (by decide) (CM ⟨_,_,_,_,rfl⟩))
  walk_at "ww"
  refine⟨by decide,_,.inl ⟨rfl,rfl,[],rfl,_,rfl,?_⟩⟩;refine B3 (λI=>?_) (λI=>CM ⟨_,_,_,_,rfl⟩);have Aj:BC≠[]:=λz=>by rw[rD z]at I;cases I
  have Ke:0<BC.length:=List.length_pos_iff.mpr Aj
  walk_at "ww"
  rw[AS];refine⟨by omega,by omega,λq q0 q1=>?_⟩;obtain⟨q,rfl⟩:=Fm q0;obtain⟨x,hx⟩:∃x,BC[q]?=some x:=⟨_,B9 (by omega)⟩;refine⟨_,.str x,rfl,?_,?_⟩
  .exact P0 (by rw[B1,hx];rfl)
  have u:x∈s.ln:=M.mem_iff.mp (DR hx);have hi:=List.idxOf_lt_length_iff.mpr u;obtain⟨l,N⟩:∃l,s.ll[s.ln.idxOf x]?=some l:=⟨_,B9 (by omega)⟩;have gl:=ok.good l (DR N);show Ws [.AD,.ow true (B5 s A3 a1 dx o e),.ow true (B7 s a2 aK aP),.is (.int m),.is (.lst (BC.map .str)),.is (.int w),.is (.str x),.any,.any,.any] _ _ _
  walk_at "ww"
  refine B3 (λv=>?_) (λv=>CM ?_)
  .refine Aw (mQ (i:=2) (t:=B7 s a2 aK aP) (Hz rfl ⟨true,aK,Au s.ln,_,rfl,rfl,Ii ok.n1,AL rfl ⟨.inr x,s.ln.idxOf x,rfl,LO u,?_⟩⟩));unfold B7;rw[show([]++[1]:List Nat)=[1]from rfl,Ov];have R:(Au s.ln).eraseIdx (s.ln.idxOf x)=Au (s.ln.eraseIdx (s.ln.idxOf x)):=by unfold Au;rw[OJ]
   have e2:(BY s.ll).eraseIdx (s.ln.idxOf x)=BY (s.ll.eraseIdx (s.ln.idxOf x)):=by unfold BY;rw[OJ]
   rw[R,e2];show Ws [.AD,.ow true (B5 s A3 a1 dx o e),.ow true (B7 (s.MF x) a2 aK aP),.is (.int m),.is (.lst (BC.map .str)),.is (.int w),.is (.str x),.any,.any,.any] _ _ _;refine Se (i:=1) (j:=2) (by decide) rfl rfl (W6 (Pm rfl (by decide +kernel) (Jm (AL rfl (Mi ⟨_,⟨m,s,a1,_,x,rfl,L,ok,u,rfl⟩,?_⟩)))));rintro _ t2⟨rfl,Ci⟩;obtain⟨J,CN,rfl⟩:=Ci.nd;exact⟨J,CN,rfl,rfl,_,_,_,rfl,rfl,s.MF x,ok.MF x,Ey _,rfl,.inl ⟨rfl,rfl⟩,Ci,aK,aP,rfl⟩
  .refine Aw (R0 (mV (BS (Dq (K2 rfl ⟨_,rfl,_,.inl ⟨rfl,rfl,s.row,rfl,Dq (NC (Hz rfl ⟨Au s.ln,aK,_,rfl,AL rfl ⟨.inr x,_,.fz l.P,rfl,LO u,YA N,_,rfl,l.r,l.g,l.cs,rfl,gl,by omega,?_⟩⟩))⟩⟩)))));rw[Te];refine Lq ⟨_,_,rfl,?_⟩;show Ws [.AD,.ow true (B5 s A3 a1 dx o e),.ow true (B7 s a2 aK aP),.is (.int m),.is (.lst (BC.map .str)),.is (.int w),.is (.str x),.any,.is (l.told s.row),.is (l.E5 s.row).P] _ _ _;refine Aw (Ka (i:=2) (t:=B7 s a2 aK aP) (FD (AL rfl (Hz rfl ⟨true,aK,Au s.ln,_,rfl,rfl,by unfold BY;rw[AS];omega,Ii ok.n1,B2,AL rfl ⟨.inr x,rfl,?_⟩⟩))));rw[Rv u,R5 u];unfold B7;rw[show([]++[1]:List Nat)=[1]from rfl,Ov,Tj];show Ws [.AD,.ow true (B5 s A3 a1 dx o e),.ow true (B7 (s.E5 x l) a2 aK aP),.is (.int m),.is (.lst (BC.map .str)),.is (.int w),.is (.str x),.any,.is (l.told s.row),.is (l.E5 s.row).P] _ _ _;refine Se (i:=1) (j:=2) (by decide) rfl rfl (ZGx (j:=8) (by decide) rfl (Pm rfl (by decide +kernel) (Jm (AL rfl (Mi ⟨_,⟨m,s,a1,_,x,l,rfl,L,ok,u,N,rfl⟩,?_⟩)))));rintro _ t2⟨rfl,Ci⟩;obtain⟨J,CN,rfl⟩:=Ci.nd;obtain⟨σ,Y⟩:=pK s.row l;rw[Y];exact⟨J,CN,rfl,σ,_,_,_,rfl,rfl,s.E5 x l,ok.E5 (DR N),Ey _,rfl,.inl ⟨rfl,rfl⟩,Ci,aK,aP,rfl⟩
def vq:Ai ["self"] ["self"] (AR az):=by walk_at "z1"
def jU:∀ss R,(Ld A3) ss R->ss.length=1:=by rintro _ _⟨s,rfl,_,rfl⟩;rfl
def ZH7(F:AF K "count" "Yard.count" az f fd)(a:Meth K A3 "count" f):
  Br P w K mg Zy A3 "count" 1 ["self"] (Ag (Ld A3)):=by
 refine⟨f,fd,F.Al (k:=0) vq (λvs H Q E h=>Fz.CO jU h) (λAV A outer s H vs Q E b h=>?_),(F.binds (by walk_at "bD1")),a,Ao⟩
 refine⟨_,(AA rfl (AZ (Az Dp (CQ (qv 0)) (Ak DU Af (A0 (CQ (qv 0)) A4))))),?_⟩;refine Fz.CK h jU ?_;rintro _ _⟨s,rfl,hp,rfl⟩;show Ws [_] _ _ _;refine FU (UN (Ft (AL rfl ⟨A3,yN,_,3,_,rfl,Ao,FW,by decide +kernel,rfl,_,rfl,?_⟩)));refine OL (BS (Ft (AL rfl ⟨A3,yN,_,2,_,rfl,Ao,Fj,by decide +kernel,rfl,_,.inl ⟨rfl,?_⟩⟩)));exact⟨_,rfl,rfl⟩
def ZFj:Ai ["self","ticket"] ["self","ticket"] (AR Y3):=by walk_at "z1"
def fA:∀ss R,(UM A3) ss R->ss.length=2:=by rintro _ _⟨s,n,r,x,y,rfl,_,_,_,_,rfl⟩;rfl
def uJ(F:AF K "check_time" "Yard.check_time" Y3 f fd)(b:Meth K A3 "check_time" f):
  Br P w K mg Zy A3 "check_time" 2 ["self","ticket"] (Ag (UM A3)):=by
 refine⟨f,fd,F.Al (k:=1) ZFj (λvs H Q E h=>Fz.CO fA h) (λAV A outer s H vs Q E a h=>?_),(F.binds (by walk_at "bD2")),b,Ao⟩
 refine⟨_,(AB rfl (Aq (DW (CT (NT FQ FQ A7 (AI AN (qv 1) A7) (LN GY a (by decide) (qv 0)))) (Ff (Ac OT (AI AN (qv 1) A7) (KA (v:=.ref EO) (by rfl) J9 rfl)))).pt (AA rfl E6) Ay)
   (AA rfl (Aq (Ac Fy (AI AN (qv 1) A7) (CQ (qv 0))) (AA rfl E6) Ay))),?_⟩
 refine Fz.CK h fA ?_;rintro _ _⟨s,n,r,x,y,rfl,hn,c,a,hp,rfl⟩;show Ws [.is (Bv s A3),.is (.tup [.int n,.str r,x,y])] _ _ _;refine Aw (E4 (GL (Dz ?_)))
 walk_at "ww"
 refine KY (rD (by omega)) ?_;refine Ic (AL rfl ⟨_,_,rfl,by decide +kernel,Bc ⟨_,⟨s,rfl,hp,rfl⟩,?_⟩⟩);rintro _ rfl;refine⟨_,rfl,_,rfl,BH (by rw[rD (by omega)];decide) ?_⟩;have C:N6 K EO ([("none":Str), "ahead","all"].map .str):=N6.of JE rfl rfl;refine Lc (zy (neg:=true) C (DJ (DE rfl ⟨rfl,CY ⟨_,_,rfl,rfl,r,rfl,_,rfl,BH (by rw[rD (show r∈[("none":Str), "ahead","all"]from a)];decide) (CM ?_)⟩⟩)));refine E4 (Lc (Ut (DJ (DE rfl ⟨rfl,CY ⟨_,_,rfl,rfl,_,rfl,?_⟩⟩))));refine Ft (AL rfl ⟨A3,yN,_,3,_,rfl,Ao,FW,by decide +kernel,rfl,_,rfl,_,rfl,BH ?_ (CM ⟨_,rfl,rfl⟩)⟩);rw[c];exact λz=>by have:=tZ z;omega
def z9:Ai ["self","number"] ["self","number"] (AR XY):=by walk_at "z1"
def ng:∀ss R,(Sq A3) ss R->ss.length=2:=by rintro _ _⟨s,ps,n,rfl,_,_,_,_,rfl⟩;rfl
def ZDk(F:AF K "row_at" "Yard.row_at" XY f fd)(b:Meth K A3 "row_at" f):
  Br P w K mg Zy A3 "row_at" 2 ["self","number"] (Ag (Sq A3)):=by
 refine⟨f,fd,F.Al (k:=1) z9 (λvs H Q E h=>Fz.CO ng h) (λAV A outer s H vs Q E d h=>?_),(F.binds (by walk_at "bD2")),b,Ao⟩
 refine⟨_,(AB rfl (Aq (Ac Bs (qv 1) (LN GY d (by decide) (qv 0))) (AA rfl (AZ (CQ (qv 0)))) Ay)
   (AA rfl (AZ (AI AN (AI DL (CQ (qv 0)) (Az NG (qv 1) (CQ (qv 0)))) A7)))),?_⟩
 refine Fz.CK h ng ?_;rintro _ _⟨s,ps,n,rfl,C2,a,hn,j,rfl⟩;show Ws [.is (Bv s A3),.is (.int n)] _ _ _;refine Aw (E4 (Lc (jj (AL rfl (Ic (AL rfl ⟨_,_,rfl,by decide +kernel,Bc ⟨_,⟨s,rfl,by rw[C2,Gf];omega,rfl⟩,?_⟩⟩))))));rintro _ rfl;have g:(s.fg:Int)+s.pa.length=ps.length:=by rw[a,C2,Gf];simp
 rw[g];refine⟨rfl,_,rfl,B3 (λc=>?_) (λc=>CM ?_)⟩
 .have e:n=ps.length:=by have:=tZ c;omega
  subst e;rw[U1];exact FU (Ft (AL rfl ⟨A3,yN,_,0,_,rfl,Ao,Cf,by decide +kernel,rfl,rfl⟩))
 .have i:n<ps.length:=by
   rcases Nat.lt_or_eq_of_le hn with h|h
   .exact h
   .exact absurd (rD (by rw[h])) c
  have e:=B9 i;rw[MX e];refine FU (DJ (BS (gT (BS (Ft (AL rfl ⟨A3,yN,_,2,_,rfl,Ao,Fj,by decide +kernel,rfl,_,.inl ⟨rfl,rfl,?_⟩⟩))))));refine UN (AL rfl ⟨_,rfl,Ft (AL rfl ⟨A3,yN,_,3,_,rfl,Ao,FW,by decide +kernel,rfl,_,rfl,_,HR ps[n].1 ps[n].2,rfl,?_,_,.inr ⟨rfl,rfl,CY ⟨_,_,rfl,rfl,rfl⟩⟩⟩)⟩);rw[a,C2];show L2.Bf (GS ps) ((n:Int) - ((0:Nat):Int))=_;rw[show(n:Int) - ((0:Nat):Int)=(n:Int) by simp];exact P0 (by unfold GS;rw[B1,e];rfl)
def ZE1:Ai ["row","slip"] ["row","slip"] (AR aO):=by walk_at "z1"
def mm : ∀ss R,RI ss R->ss.length=2:=by rintro _ _⟨ns,ts,g,rfl,_,_,_,_,rfl⟩;rfl
def ZDY(F:AF K "is_slip" "is_slip" aO f fd)(m:mg "is_slip"=some (.ref f)):
  A8 P w K mg Zy "is_slip" 2 ["row","slip"] (Ag RI):=by
 refine A8.mk F (F.binds (by walk_at "bD2")) m (F.Al (k:=1) ZE1 (λvs H Q E h=>Fz.CO mm h) (λAV A outer s H vs Q E a h=>?_))
 refine⟨_,(AA rfl (AZ (Hf (AM JF a (A0 (qv 0) (A0 (AI AN (qv 1) A7) A4))) (Ih (AM N9 a (A0 (qv 0) (A0 (AI AN (qv 1) A7) A4))))))),?_⟩;refine Fz.CK h mm ?_;rintro _ _⟨ns,ts,g,rfl,hg,up,sub,b,rfl⟩;show Ws [.is (.lst (ns.map .str)),.is (.tup [.int g,.tup (ts.map .str)])] _ _ _;refine FU (N0 (d8 (Gz rfl ⟨ns,rfl,DJ (DE rfl ⟨rfl,CY ⟨_,_,rfl,rfl,g,rfl,by omega,by omega,_,rfl,KY rfl ?_⟩⟩)⟩)));exact uf (Gz rfl ⟨ns,rfl,DJ (DE rfl ⟨rfl,CY ⟨_,_,rfl,rfl,ts,rfl,up,sub,b,rfl⟩⟩)⟩)
def Pq:Ai ["row","slip","gap","marks","behind","ahead"] ["row","slip"] (AR Py):=by walk_at "z1"
noncomputable def ZC1:=Sc [(".0",.local),("thing",.local),("marks",.free)]
def ZIZ:Cc ["row","slip","gap","marks","behind","ahead"] (AR Py) ZC1 "thing" ["marks"] [3]:=by walk_at "z2"
noncomputable def vF:=Sc [(".0",.local),("thing",.local),("marks",.free)]
def vE:Cc ["row","slip","gap","marks","behind","ahead"] (AR Py) vF "thing" ["marks"] [3]:=by walk_at "z2"
def gL : ∀ss R,Yz ss R->ss.length=2:=by rintro _ _⟨tp,ns,g,ms,rfl,a,rfl⟩;rfl
def uo(F:AF K "shown" "shown" Py f fd)(m:mg "shown"=some (.ref f)):
  A8 P w K mg Zy "shown" 1 ["row","slip"] (Ag Yz):=by
 refine A8.mk F (F.binds (by walk_at "bD2")) m (F.Al (k:=0) Pq (λvs H Q E h=>Fz.CO gL h) (λAV A outer s H vs Q E b h=>?_))
 refine⟨_,(AB rfl (An 2 Pq.nd (AI AN (qv 1) A7))
   (AB rfl (An 3 Pq.nd (AI AN (qv 1) A7))
   (AB rfl (N4 (i:=4) Pq.nd rfl (Or.inl rfl) rfl ZIZ (DF (DM Fz.Nh (qv 0) Dn (Cr (qv 2)))) (λ_ _ _ _=>by exact(Fu (Ac (show BB _ (compareOp .In) (Et K false)from FE) (qv 1) (qv 0)))) (λ_ _ _ _=>by exact(qv 1)))
   (AB rfl (N4 (i:=5) Pq.nd rfl (Or.inl rfl) rfl vE (DF (DM Fz.Nh (qv 0) (Cr (qv 2)) Dn)) (λ_ _ _ _=>by exact(Fu (Ac (show BB _ (compareOp .NotIn) (Et K true)from OT) (qv 1) (qv 0)))) (λ_ _ _ _=>by exact(qv 1)))
   (AA rfl (AZ (Az Hd (qv 4) (qv 5)))))))),?_⟩
 refine Fz.CK h gL ?_;rintro _ _⟨tp,ns,g,ms,rfl,a,rfl⟩;show Ws [_,_,.any,.any,.any,.any] _ _ _
 walk_at "ww"
 refine Hq (IW PV.str (λx=>decide (x∈ms)) PV.str ?_ str_inj)
 walk_at "ww"
 refine⟨C7 (SV _ _ _) (by omega),λx hx=>by walk_at "ww"; rfl,λx hx _=>by walk_at "ww"; rfl,?_⟩
 walk_at "ww"
 refine Hq (IW PV.str (λx=>!decide (x∈ms)) PV.str ?_ str_inj)
 walk_at "ww"
 refine⟨C7 (SV _ _ _) (by omega),λx hx=>by walk_at "ww"; rfl,λx hx _=>by walk_at "ww"; rfl,?_⟩
 walk_at "ww"
 rw[kX,Qd,cg,AS,AS];refine⟨?_,rfl⟩;have h:=bj ns g ms;unfold BU at h;rw[BE]at h;omega
def ZGk:Ai ["row","ticket"] ["row","ticket"] (AR Xo):=by walk_at "z1"
def fo : ∀ss R,Qs ss R->ss.length=2:=by rintro _ _⟨n,a,ns,lo,rfl,_,_,_,rfl⟩;rfl
def ZDD(F:AF K "loop_at" "loop_at" Xo f fd)(m:mg "loop_at"=some (.ref f)):
  A8 P w K mg Zy "loop_at" 3 ["row","ticket"] (Ag Qs):=by
 refine A8.mk F (F.binds (by walk_at "bD2")) m (F.Al (k:=2) ZGk (λvs H Q E h=>Fz.CO fo h) (λAV A outer s H vs Q E b h=>?_))
 refine⟨_,(AB rfl (Aq (DW (CT (DK (AM JF b (A0 (qv 0) (A0 (AI AN (qv 1) A7) A4))))) (Ff (CT (DK (AM Vq b (A0 (qv 0) (A0 (AI AN (qv 1) A7) A4))))))).pt (AA rfl E6) Ay)
   (AA rfl (AZ (Bb (A0 (AI AN (qv 1) A7) (A0 (AI AN (qv 1) A7) (A0 (CS HM BQ (A0 (Ak ID BK (A0 (AM Xk b (A0 (qv 0) (A0 (AI AN (qv 1) A7) A4))) A4)) A4)) A4))))))),?_⟩
 refine Fz.CK h fo ?_;rintro _ _⟨n,a,ns,⟨r,g,cs⟩,rfl,c,gd,hs,rfl⟩;have o:=c.len;have hg:(g:Int)<=ns.length:=gd.g1;have l:=Sh ns a cs;have j:(CB (BU ns a cs)).length=(BU ns a cs).length:=OI _;show Ws [.is (.lst (ns.map .str)),.is (.tup [.int n,.str r,.int g,.tup [.int a,.tup ((CB (BU ns a cs)).map .str)]])] _ _ _;refine Aw (E4 (GL (Dz (Dg (d8 (Gz rfl ⟨ns,rfl,DJ (DE rfl ⟨rfl,CY ⟨_,_,rfl,rfl,g,rfl,by omega,by omega,_,rfl,DQ ?_⟩⟩)⟩))))));refine Dz (Dg (wp_call (BR (AL rfl (BR (DJ (DE rfl ⟨rfl,CY ⟨_,_,rfl,rfl,Bc ⟨_,⟨ns,CB (BU ns a cs),a,rfl,hs,Nx (Mq c.nd _ _),λx hx=>iM (Jk.mp hx),by omega,rfl⟩,?_⟩⟩⟩)))))));rintro _ rfl;refine⟨true,rfl,DQ (CM ?_)⟩
 walk_at "ww"
 refine BS (DT (j3 (GN (Gz rfl (BR (DJ (DE rfl ⟨rfl,CY ⟨_,_,rfl,rfl,Bc ⟨_,⟨false,ns,a,CB (BU ns a cs),rfl,by omega,rfl⟩,?_⟩⟩⟩)))))));rintro _ rfl;have p:=Sh ns a (CB (BU ns a cs));refine⟨_,.inl ⟨rfl,_,rfl,by omega,λus i st=>?_⟩⟩;have d:=i.trans (ZBt c.nd a gd.sub gd.up);have e:us=cs:=Pj (PQ st (d.nodup_iff.mpr (L0 gd.up))) gd.up λk=>d.mem_iff;rw[e];exact⟨_,.inl ⟨rfl,JK ⟨by show 3<=100000;decide,rfl⟩⟩⟩
def TM:Ai ["self","ticket","loop","moment"] ["self","ticket"] (AR X8):=by walk_at "z1"
def nL:∀ss R,(Qe A3) ss R->ss.length=2:=by rintro _ _⟨m,s,ps,n,a,lo,rfl,_,rfl⟩;rfl
def vx(F:AF K "led_on" "Yard.led_on" X8 f fd)(o:Meth K A3 "led_on" f):
  Br P w K mg Zy A3 "led_on" 9 ["self","ticket"] (Ag (Qe A3)):=by
 refine⟨f,fd,F.Al (k:=8) TM (λvs H Q E h=>Fz.CO nL h) (λAV A outer s H vs Q E b h=>?_),(F.binds (by walk_at "bD2")),o,Ao⟩
 refine⟨_,(AB rfl (CI (GX aD b (by decide) (qv 0) (A0 (qv 1) A4)))
   (AB rfl (An 2 TM.nd (AM Vs b (A0 (GX ak b (by decide) (qv 0) (A0 (AI AN (qv 1) A7) A4)) (A0 (qv 1) A4))))
   (AB rfl (CJ (FG Ec rfl (DF (DM IM (CQ (qv 0)) (Cr (Az NG (AI AN (qv 1) A7) (CQ (qv 0)))) Dn)) (Bp 3 TM.nd) (AA rfl (An 2 TM.nd (AM M9 b (A0 (AI AN (qv 3) A7) (A0 (qv 2) (A0 (AI AN (qv 3) A7) A4))))))))
   (AA rfl (AZ (qv 2)))))),?_⟩
 refine Fz.CK h nL ?_;rintro _ _⟨m,s,ps,n,a,lo,rfl,T,rfl⟩;have x:s.pa.length=ps.length:=by rw[T.pa,Gf]
 have u:FF 40 s.row:=⟨C7 T.ok.row.len T.ok.m4,T.ok.row.nm,T.ok.row.nd⟩;have t:=T.len;have hn:=T.hn;show Ws [.is (Bv s A3),.is (Cb n a (rowAt ps s.row n) lo),.any,.any] _ _ _;refine Aw (MR (Ic (AL rfl ⟨_,_,rfl,by decide +kernel,BR (AL rfl (Bc ⟨_,⟨s,n,lo.r,_,_,rfl,by omega,T.fg,T.gd.rule,by omega,rfl⟩,?_⟩))⟩)));rintro _ rfl;refine Aw (Fp (wp_call (BR (Ic (AL rfl ⟨_,_,rfl,by decide +kernel,BR (DJ (DE rfl ⟨rfl,CY ⟨_,_,rfl,rfl,Bc ⟨_,⟨s,ps,n,rfl,T.pa,T.fg,hn,t,rfl⟩,?_⟩⟩⟩))⟩)))));rintro _ rfl;refine BR (AL rfl (Bc ⟨_,⟨n,a,rowAt ps s.row n,lo,rfl,T.ch.gh u n,T.gd,T.hs,rfl⟩,?_⟩));rintro _ rfl;show Ws [.is (Bv s A3),.is (Cb n a (rowAt ps s.row n) lo),.is lo.P,.any] _ _ _;refine Aw (FT (G1 (λ_ j AH=>∃d:Slot,AH=[.is (Bv s A3),.is (Cb n a (rowAt ps s.row n) lo),.is (Dk ps n lo j).P,d]) (KL (Hc (DT (Yu (BS (Ft (AL rfl ⟨A3,yN,_,2,_,rfl,Ao,Fj,by decide +kernel,rfl,_,.inl ⟨rfl,rfl,?_⟩⟩)))))))));refine XF (UN (DJ (DE rfl ⟨rfl,CY ⟨_,_,rfl,rfl,_,rfl,Ft (AL rfl ⟨A3,yN,_,3,_,rfl,Ao,FW,by decide +kernel,rfl,_,rfl,_,rfl,Xd ?_⟩)⟩⟩)));have e0:(n:Int) - (s.fg:Int)=(n:Int):=by rw[T.fg];simp
 rw[e0,Qd,T.pa];refine⟨_,.inl ⟨rfl,⟨_,rfl⟩,?_,?_⟩⟩
 .rintro j p AH hp⟨d,rfl⟩;rw[QJ]at hp;unfold GS at hp;rw[B1]at hp;obtain⟨q,c,rfl⟩:=Option.map_eq_some_iff.mp hp;have v:=(List.getElem?_eq_some_iff.mp c).1;have e:=Qo T.ch T.gd j (J5 v);rw[MX c]at e;obtain⟨l,i⟩:=T.ch.ok q (DR c);refine He ?_;show Ws [.is (Bv s A3),.is (Cb n a (rowAt ps s.row n) lo),.is (Dk ps n lo j).P,.is (HR q.1 q.2)] _ _ _;refine Fp (oA (BS (DJ (DE rfl ⟨rfl,CY ⟨_,_,rfl,rfl,_,.inl ⟨rfl,q.1,rfl,AL rfl ⟨(Dk ps n lo j).r,(Dk ps n lo j).g,(Dk ps n lo j).cs,rfl,DJ (DE rfl ⟨rfl,CY ⟨_,_,rfl,rfl,q.2,rfl,i,e,l.len,.is (HR q.1 q.2),?_⟩⟩)⟩⟩⟩⟩))));rw[show Dk ps n lo (j+1)=Lp.led q.1 q.2 (Dk ps n lo j)from by conv=>lhs;unfold Dk;rw[c]]
  rfl
 .rintro AH⟨d,rfl⟩;rw[Co,Gf];exact FU (AL rfl rfl)
def bh:Ai ["row","coming","name"] ["row","coming"] (AR Xb):=by walk_at "z1"
def iz : ∀ss R,Zn ss R->ss.length=2:=by rintro _ _⟨tp,BV,ns,cs,rfl,Eu,rfl⟩;rfl
def ZAX(F:AF K "check_coming" "check_coming" Xb f fd)(m:mg "check_coming"=some (.ref f)):
  A8 P w K mg Zy "check_coming" 2 ["row","coming"] (Ag Zn):=by
 refine A8.mk F (F.binds (by walk_at "bD2")) m (F.Al (k:=1) bh (λvs H Q E h=>Fz.CO iz h) (λAV A outer s H vs Q E a h=>?_))
 refine⟨_,(AA rfl (FG Ec rfl (DF (qv 1)) (Bp 2 bh.nd) (AA rfl (CI (AM FH a (A0 (qv 0) (A0 (qv 2) A4))))))),?_⟩;refine Fz.CK h iz ?_;rintro _ _⟨tp,BV,ns,cs,rfl,Eu,rfl⟩;show Ws [_,_,.any] _ _ _;refine G1 (λ_ i AH=>∃s2:Slot,AH=[.sq tp (ns.map .str),.sq BV (cs.map .str),s2]) ?_
 walk_at "ww"
 refine⟨⟨_,rfl⟩,?_,λ_ _=>⟨_,rfl,rfl⟩⟩;rintro i p AH hp⟨s2,rfl⟩;rw[B1]at hp;cases hx:cs[i]? with
 |none=>rw[hx]at hp;cases hp
 |some x=>
  rw[hx]at hp;cases hp;refine He (MR ?_)
  walk_at "ww"
  exact⟨Eu x (DR hx),_,rfl⟩
def X9:Ai ["row","gap","coming","behind","ahead"] ["row","gap","coming"] (AR Pk):=by walk_at "z1"
noncomputable def ZDI:=Sc [(".0",.local),("thing",.local),("coming",.free)]
def xW:Cc ["row","gap","coming","behind","ahead"] (AR Pk) ZDI "thing" ["coming"] [2]:=by walk_at "z2"
noncomputable def xi:=Sc [(".0",.local),("thing",.local),("coming",.free)]
def yE:Cc ["row","gap","coming","behind","ahead"] (AR Pk) xi "thing" ["coming"] [2]:=by walk_at "z2"
def dN : ∀ss R,ZJ ss R->ss.length=3:=by rintro _ _⟨tp,BV,ns,cs,g,rfl,a,rfl⟩;rfl
def ZE6(F:AF K "marks_at" "marks_at" Pk f fd)(m:mg "marks_at"=some (.ref f)):
  A8 P w K mg Zy "marks_at" 1 ["row","gap","coming"] (Ag ZJ):=by
 refine A8.mk F (F.binds (by walk_at "bD3")) m (F.Al (k:=0) X9 (λvs H Q E h=>Fz.CO dN h) (λAV A outer s H vs Q E c h=>?_))
 refine⟨_,(AB rfl (N4 (i:=3) X9.nd rfl (Or.inl rfl) rfl xW (DF (DM Fz.Nh (qv 0) Dn (Cr (qv 1)))) (λ_ _ _ _=>by exact(Fu (Ac (show BB _ (compareOp .In) (Et K false)from FE) (qv 1) (qv 0)))) (λ_ _ _ _=>by exact(qv 1)))
   (AB rfl (N4 (i:=4) X9.nd rfl (Or.inl rfl) rfl yE (DF (DM Fz.Nh (qv 0) (Cr (qv 1)) Dn)) (λ_ _ _ _=>by exact(Fu (Ac (show BB _ (compareOp .NotIn) (Et K true)from OT) (qv 1) (qv 0)))) (λ_ _ _ _=>by exact(qv 1)))
   (AA rfl (AZ (CS HM BQ (A0 (Ak ID BK (A0 (Az Hd (qv 3) (qv 4)) A4)) A4)))))),?_⟩
 refine Fz.CK h dN ?_;rintro _ _⟨tp,BV,ns,cs,g,rfl,b,rfl⟩;show Ws [_,_,_,.any,.any] _ _ _
 walk_at "ww"
 refine Hq (IW PV.str (λx=>decide (x∈cs)) PV.str ?_ str_inj)
 walk_at "ww"
 refine⟨C7 (SV _ _ _) (by omega),λx hx=>by walk_at "ww"; rfl,λx hx _=>by walk_at "ww"; rfl,?_⟩
 walk_at "ww"
 refine Hq (IW PV.str (λx=>!decide (x∈cs)) PV.str ?_ str_inj)
 walk_at "ww"
 refine⟨C7 (SV _ _ _) (by omega),λx hx=>by walk_at "ww"; rfl,λx hx _=>by walk_at "ww"; rfl,?_⟩
 walk_at "ww"
 rw[kX,Qd,AS,AS];have h:=bj ns g cs;unfold BU at h;rw[BE]at h;refine⟨by omega,?_⟩
 walk_at "ww"
 refine⟨by rw[BE];omega,λts a st=>?_⟩
 walk_at "ww"
 exact⟨ts,a,st,rfl⟩
def Lj:Ai ["row","coming","gap","unpaired","pairs","place","thing"] ["row","coming"] (AR Xu):=by walk_at "z1"
def jM : ∀ss R,Yt ss R->ss.length=2:=by rintro _ _⟨tp,BV,ns,cs,rfl,a,nd,Eu,rfl⟩;rfl
def ZFf(F:AF K "least_slip" "least_slip" Xu f fd)(m:mg "least_slip"=some (.ref f)):
  A8 P w K mg Zy "least_slip" 3 ["row","coming"] (Ag Yt):=by
 refine A8.mk F (F.binds (by walk_at "bD2")) m (F.Al (k:=2) Lj (λvs H Q E h=>Fz.CO jM h) (λAV A outer s H vs Q E o h=>?_))
 refine⟨_,(AB rfl (CI (AM Y2 o (A0 (qv 0) (A0 (qv 1) A4))))
   (AB rfl (An 2 Lj.nd A7)
   (AB rfl (An 3 Lj.nd (Dw A4))
   (AB rfl (An 4 Lj.nd (Dw A4))
   (AB rfl (CJ (FG Ec rfl (ud rfl NF (A0 (qv 0) A4)) (J3 rfl (DV (Bp 5 Lj.nd) (DV (Bp 6 Lj.nd) IE))) (AA rfl (Aq (Ac FE (qv 6) (qv 1)) (AA rfl (CI (El FO Hx Hy Gk (qv 3) (A0 (qv 6) A4)))) (AA rfl (Aq (Ac (LH o.Fo) (qv 3) (Dw A4)) (AA rfl (An 2 Lj.nd (Az Dp (qv 5) A7))) (AA rfl (CI (El FO Hx Hy Gk (qv 4) (A0 (Bb (A0 (ZHI FO PySem.F.slot_list_pop PySem.F.type_list_pop ZEr (qv 3)) (A0 (qv 6) A4))) A4))))))))))
   (AA rfl (AZ (Bb (A0 (Bb (A0 (qv 2) (A0 (AM ao o (A0 (qv 0) (A0 (qv 2) (A0 (qv 1) A4)))) A4))) (A0 (qv 4) A4)))))))))),?_⟩
 refine Fz.CK h jM ?_;rintro _ _⟨tp,BV,ns,cs,rfl,r,nd,Eu,rfl⟩;show Ws [_,_,.any,.any,.any,.any,.any] _ _ _;refine Aw (MR (wp_call (GN ?_)))
 walk_at "ww"
 refine GN ?_
 walk_at "ww"
 refine Bc ⟨_,⟨_,_,_,_,rfl,Eu,rfl⟩,λ_ _=>?_⟩
 walk_at "ww"
 refine⟨by simp,?_⟩
 walk_at "ww"
 refine⟨by simp,?_⟩
 walk_at "ww"
 refine G1 (λ_ i AH=>∃e b:Slot,AH=[.sq tp (ns.map .str),.sq BV (cs.map .str),.is (.int ((gr cs (ns.take i)).g:Nat)),.own ((gr cs (ns.take i)).u.map .str),.own ((gr cs (ns.take i)).ps.map Zr),e,b]) ?_
 walk_at "ww"
 refine⟨⟨_,_,rfl⟩,?_,?_⟩
 .rintro i p AH hp⟨e,b,rfl⟩;obtain⟨y,l,rfl⟩:=fq hp;have hi:i<ns.length:=by have:=(List.getElem?_eq_some_iff.mp l).1;simpa using this
  have t:y=.str (ns.getD i ""):=by
   rw[B1,B9 hi]at l;rw[Ew,B9 hi];exact(BX l).symm
  subst t;have I:=Yc cs nd i (by omega);rw[ZV hi,fM];generalize ns.getD i ""=x;generalize hs:gr cs (ns.take i)=s at I;have hn:=I.hn;rw[Bk]at hn;have l1:=I.P8;have l2:cC cs (ns.take i)<=ns.length:=C7 (Ga _ _) (by rw[Bk];omega);refine Lq ⟨_,_,rfl,?_⟩
  walk_at "ww"
  refine B3 (λc=>?_) (λc=>?_)
  .have a:x∈cs:=tZ c;rw[show Lm cs s x=⟨s.n+1,s.g,s.u++[x],s.ps⟩from tU a]
   walk_at "ww"
   exact⟨by rw[AS];omega,_,_,by rw[CD];rfl⟩
  have a:x∉cs:=λh=>c (rD h)
  walk_at "ww"
  refine⟨by simp,?_⟩
  walk_at "ww"
  refine B3 (λd=>?_) (λd=>?_)
  .have d':s.u=[]:=tZ d;rw[show Lm cs s x=⟨s.n+1,s.n+1,s.u,s.ps⟩from(tJ a).trans (tU d')]
   walk_at "ww"
   exact⟨_,_,by
    show _=[_,_,Slot.is (.int ((s.n+1:Nat):Int)),_,_,_,_];rw[show((s.n+1:Nat):Int)=(i:Int)+1 by omega];rfl⟩
  .have d':s.u≠[]:=λh=>d (rD h);rw[show Lm cs s x=⟨s.n+1,s.g,s.u.dropLast,s.ps++[(s.u.getLastD "", x)]⟩from(tJ a).trans (tJ d')];refine ZBz (i:=4) (j:=3) rfl rfl (by decide) (ZGG d') (AL rfl ⟨by rw[AS];omega,_,_,by rw[sS,CD];rfl⟩)
 .rw[Mh,AS];rintro AH⟨e,b,rfl⟩;rw[Hv];refine UG 4 rfl ?_;refine FU (Kh (HY (Kh ?_)))
  walk_at "ww"
  refine wp_call (GN ?_)
  walk_at "ww"
  refine BR ?_
  walk_at "ww"
  refine GN ?_
  walk_at "ww"
  refine Bc ⟨_,⟨_,_,_,_,_,rfl,r,rfl⟩,?_⟩;rintro _⟨ts,q,st,rfl⟩
  walk_at "ww"
  refine⟨by simp,?_⟩
  walk_at "ww"
  exact⟨by simp,ts,q,st,rfl⟩
def ZDP:Ai ["self","loop"] ["self","loop"] (AR Xi):=by walk_at "z1"
def mf:∀ss R,(RP A3) ss R->ss.length=2:=by rintro _ _⟨m,s,lo,rfl,_,_,_,rfl⟩;rfl
def rT(F:AF K "ticket_now" "Yard.ticket_now" Xi f fd)(b:Meth K A3 "ticket_now" f):
  Br P w K mg Zy A3 "ticket_now" 4 ["self","loop"] (Ag (RP A3)):=by
 refine⟨f,fd,F.Al (k:=3) ZDP (λvs H Q E h=>Fz.CO mf h) (λAV A outer s H vs Q E a h=>?_),(F.binds (by walk_at "bD2")),b,Ao⟩
 refine⟨_,(AA rfl (AZ (Bb (A0 (LN GY a (by decide) (qv 0)) (A0 (AI AN (qv 1) A7) (A0 (AI AN (qv 1) A7) (A0 (AI AN (AM aL a (A0 (CQ (qv 0)) (A0 (AI AN (qv 1) A7) A4))) A7) A4))))))),?_⟩;refine Fz.CK h mf ?_;rintro _ _⟨m,s,⟨r,g,cs⟩,rfl,ok,gd,hp,rfl⟩;have a:=ok.row.len;have d:=ok.m4;show Ws [.is (Bv s A3),.is (.tup [.str r,.int g,.tup (cs.map .str)])] _ _ _;refine FU (Kh (HY (Ic (AL rfl ⟨_,_,rfl,by decide +kernel,Bc ⟨_,⟨s,rfl,hp,rfl⟩,?_⟩⟩))));rintro _ rfl
 walk_at "ww"
 refine BS (wp_call (GN (BS (Ft (AL rfl ⟨A3,yN,_,0,_,rfl,Ao,Cf,by decide +kernel,rfl,_,.inl ⟨rfl,?_⟩⟩)))));refine GN (BS ?_)
 walk_at "ww"
 refine Bc ⟨_,⟨false,true,s.row,cs,rfl,by omega,ok.row.nd,gd.sub,rfl⟩,?_⟩;intro q c;rw[ZB0 ok.row.nd c];refine⟨_,.inr ⟨rfl,rfl,CY ⟨_,_,rfl,rfl,JK ⟨by show 4<=100000;decide,rfl⟩⟩⟩⟩
def Ni:Ai ["self","ticket","many","loop","things","answer"] ["self","ticket","many"] (AR Vh):=by walk_at "z1"
def bc:∀ss R,(Qq A3) ss R->ss.length=3:=by rintro _ _⟨m,s,ps,n,a,lo,c,rfl,_,_,rfl⟩;rfl
def ZDX(F:AF K "page" "Yard.page" Vh f fd)(y:Meth K A3 "page" f):
  Br P w K mg Zy A3 "page" 10 ["self","ticket","many"] (Ag (Qq A3)):=by
 refine⟨f,fd,F.Al (k:=9) Ni (λvs H Q E h=>Fz.CO bc h) (λAV A outer s H vs Q E l h=>?_),(F.binds (by walk_at "bD3")),y,Ao⟩
 refine⟨_,(AB rfl (An 3 Ni.nd (GX Vr l (by decide) (qv 0) (A0 (qv 1) A4)))
   (AB rfl (An 4 Ni.nd (Dw A4))
   (AB rfl (CJ (ZX Ec (Ik (Ac Fy (Ak DU Af (A0 (qv 4) A4)) (qv 2)) (IF (Ac Qu (Ak DU Af (A0 (AI AN (qv 3) A7) A4)) A7))).pt (AB rfl (An 5 Ni.nd (AM N1 l (A0 (CQ (qv 0)) (A0 (qv 3) A4))))
   (AB rfl (CI (El FO Hx Hy Gk (qv 4) (A0 (AI AN (qv 5) A7) A4)))
   (AA rfl (An 3 Ni.nd (AI AN (qv 5) A7)))))))
   (AA rfl (AZ (Bb (A0 (qv 4) (A0 (GX XX l (by decide) (qv 0) (A0 (qv 3) A4)) A4)))))))),?_⟩
 refine Fz.CK h bc ?_;rintro _ _⟨m,s,ps,n,b,lo,c,rfl,T,I,rfl⟩;have L:s.pa.length=ps.length:=by rw[T.pa,Gf]
 have D:=T.len;have h1:=T.ok.row.len;have J:=T.ok.m4;have o:=gO T.ch T.hn T.gd;show Ws [.is (Bv s A3),.is (Cb n b (rowAt ps s.row n) lo),.is (.int c),.any,.any,.any] _ _ _;refine Aw (Fp (Ic (AL rfl ⟨_,_,rfl,by decide +kernel,BR (AL rfl (Bc ⟨_,⟨m,s,ps,n,b,lo,rfl,T,rfl⟩,?_⟩))⟩)));rintro _ rfl;generalize FY ps n lo=l0 at o ⊢
 walk_at "ww"
 refine⟨by decide,?_⟩;show Ws [.is (Bv s A3),.is (Cb n b (rowAt ps s.row n) lo),.is (.int c),.is l0.P,.own [],.any] _ _ _;refine Ss (λAH=>∃d:Slot,AH=[.is (Bv s A3),.is (Cb n b (rowAt ps s.row n) lo),.is (.int c),.is (pg s.row l0 c).2.P,.own ((pg s.row l0 c).1.map .str),d]) (FT (pX (λk AH=>∃(j:Nat)(d:Slot),AH=[.is (Bv s A3),.is (Cb n b (rowAt ps s.row n) lo),.is (.int c),.is (pg s.row l0 j).2.P,.own ((pg s.row l0 j).1.map .str),d]/\k=c - j/\j<=c/\(pg s.row l0 j).1.length=j) c ⟨0,_,rfl,by simp,CF _,rfl⟩ ?_)) ?_
 .rintro k AH⟨j,d,rfl,rfl,G,t⟩;have u:=MW o j;refine dU ?_
  walk_at "ww"
  rw[AS,t];refine B3 (λq=>?_) (λq=>?_)
  .have v:=tZ q
   walk_at "ww"
   rw[AS];refine B3 (λp=>?_) (λp=>?_)
   .have C:(pg s.row l0 j).2.cs≠[]:=λz=>by
     have:=tZ p;rw[z]at this;exact absurd this (by decide)
    obtain⟨x,ex⟩:=ZHx u C;refine Aw (Fp (eR (BS (Ft (AL rfl ⟨A3,yN,_,0,_,rfl,Ao,Cf,by decide +kernel,rfl,_,.inl ⟨rfl,s.row,rfl,AL rfl ⟨(pg s.row l0 j).2.r,(pg s.row l0 j).2.g,(pg s.row l0 j).2.cs,rfl,u,by omega,?_⟩⟩⟩)))));rw[Te,show(pg s.row l0 j).2.told s.row=.str x by unfold Lp.told;rw[ex];rfl];show Ws [.is (Bv s A3),.is (Cb n b (rowAt ps s.row n) lo),.is (.int c),.is (pg s.row l0 j).2.P,.own ((pg s.row l0 j).1.map .str),.is (.tup [.str x,((pg s.row l0 j).2.E5 s.row).P])] _ _ _;refine Aw (SY rfl (DJ (DE rfl ⟨rfl,CY ⟨_,_,rfl,rfl,by rw[AS];omega,?_⟩⟩)));refine Fp (DJ (DE rfl ⟨rfl,CY ⟨_,_,rfl,rfl,c - (j+1),by omega,j+1,.is (.tup [.str x,((pg s.row l0 j).2.E5 s.row).P]),?_,rfl,by omega,?_⟩⟩))
    .rw[YH ex,CD];rfl
    .rw[YH ex,BE,t];rfl
   .have B:(pg s.row l0 j).2.cs=[]:=by
     cases e:(pg s.row l0 j).2.cs with
     |nil=>rfl
     |cons z r=>exact absurd (rD (by rw[e];exact Int.natCast_pos.mpr (oq _))) p
    have e:pg s.row l0 c=pg s.row l0 j:=by
     have:=nQ B (c - j);rw[show j+(c - j)=c by omega]at this;exact this
    exact⟨_,by rw[e]⟩
  .have v:j=c:=by
    have:¬ ((j:Int)<c):=λh=>q (rD h);omega
   subst v;exact⟨_,rfl⟩
 .rintro _⟨d,rfl⟩;refine jT (rV (Od (ZD3 (i:=4) rfl λa=>?_)));refine Od (FD (Ic (AL rfl ⟨_,_,rfl,by decide +kernel,BR (AL rfl (Bc ⟨_,⟨m,s,_,rfl,T.ok,MW o c,by omega,rfl⟩,?_⟩))⟩)));rintro _ rfl;rw[T.fg,show((0:Nat):Int)+(s.pa.length:Int)=s.pa.length by simp];exact Qw ⟨by simp,by simp,by show 2<=100000;decide,a,rfl⟩
def Nu:Ai ["row","loop","many","told","turn","thing"] ["row","loop","many"] (AR Yx):=by walk_at "z1"
def nC : ∀ss R,SE ss R->ss.length=3:=by rintro _ _⟨ns,lo,c,rfl,_,_,_,rfl⟩;rfl
def ZAd(F:AF K "_law_steps" "_law_steps" Yx f fd)(m:mg "_law_steps"=some (.ref f)):
  A8 P w K mg Zy "_law_steps" 5 ["row","loop","many"] (Ag SE):=by
 refine A8.mk F (F.binds (by walk_at "bD3")) m (F.Al (k:=4) Nu (λvs H Q E h=>Fz.CO nC h) (λAV A outer s H vs Q E d h=>?_))
 refine⟨_,(AB rfl (An 3 Nu.nd (Dw A4))
   (AB rfl (CJ (FG Ec rfl (II rfl D9 (A0 (qv 2) A4)) (Bp 4 Nu.nd) (AB rfl (JH (AM Mc d (A0 (qv 0) (A0 (qv 1) A4))) (J3 rfl (DV (Bp 5 Nu.nd) (DV (Bp 1 Nu.nd) IE))))
   (AA rfl (Aq (Ac qH (qv 5) NO) (AA rfl (CI (El FO Hx Hy Gk (qv 3) (A0 (qv 5) A4)))) Ay)))))
   (AA rfl (AZ (Bb (A0 (qv 3) (A0 (qv 1) A4))))))),?_⟩
 refine Fz.CK h nC ?_;rintro _ _⟨ns,lo,c,rfl,gd,o,t,rfl⟩;show Ws [.is (.lst (ns.map .str)),.is lo.P,.is (.int c),.any,.any,.any] _ _ _
 walk_at "ww"
 refine⟨by decide,?_⟩;show Ws [.is (.lst (ns.map .str)),.is lo.P,.is (.int c),.own [],.any,.any] _ _ _;refine Aw (FT (G1 (λ_ j AH=>∃s4 a:Slot,AH=[.is (.lst (ns.map .str)),.is (pg ns lo j).2.P,.is (.int c),.own ((pg ns lo j).1.map .str),s4,a]) ?_))
 walk_at "ww"
 rw[Hr];refine⟨by omega,by omega,⟨_,_,rfl⟩,?_,?_⟩
 .rintro j p AH hp⟨s4,a,rfl⟩;obtain⟨q,rfl⟩:=NL hp;refine He ?_;have i:=MW gd j;have n:=Uw ns lo j;show Ws [.is (.lst (ns.map .str)),.is (pg ns lo j).2.P,.is (.int c),.own ((pg ns lo j).1.map .str),.is (.int j),a] _ _ _;refine Aw (R0 (mV (Gz rfl ⟨rfl,ns,rfl,AL rfl ⟨(pg ns lo j).2.r,(pg ns lo j).2.g,(pg ns lo j).2.cs,rfl,i,by omega,?_⟩⟩)));rw[Te];refine Lq ⟨_,_,rfl,?_⟩;cases e:Dv ns (pg ns lo j).2.g (pg ns lo j).2.cs with
  |none=>
   have b:(pg ns lo j).2.told ns=.AG:=by unfold Lp.told;rw[e];rfl
   have l:(pg ns lo j).2.E5 ns=(pg ns lo j).2:=by unfold Lp.E5 Lo Js;rw[e]
   rw[b,l];show Ws [.is (.lst (ns.map .str)),.is (pg ns lo j).2.P,.is (.int c),.own ((pg ns lo j).1.map .str),.is (.int j),.is .AG] _ _ _
   walk_at "ww"
   exact cS (AL rfl ⟨rfl,_,rfl,BH (by decide) (CM ⟨.is (.int j),.is .AG,by rw[oB e]⟩)⟩)
  |some x=>
   have b:(pg ns lo j).2.told ns=.str x:=by unfold Lp.told;rw[e];rfl
   rw[b];show Ws [.is (.lst (ns.map .str)),.is ((pg ns lo j).2.E5 ns).P,.is (.int c),.own ((pg ns lo j).1.map .str),.is (.int j),.is (.str x)] _ _ _
   walk_at "ww"
   refine cS (AL rfl ⟨rfl,_,rfl,KY (by rw[uB (λh=>by cases h)];rfl) ?_⟩);refine SY rfl (AL rfl ⟨by rw[AS];omega,.is (.int j),.is (.str x),?_⟩);rw[YH e,CD];rfl
 .rintro AH⟨s4,a,rfl⟩;rw[Le];refine UG 3 rfl ?_;exact FU (Kh (HY (AL rfl (HY (AL rfl (JK ⟨by show 2<=100000;decide,rfl⟩))))))
def Qi:Ai ["state","number","loop","row","deed"] ["state","number","loop"] (AR YR):=by walk_at "z1"
def iC : ∀ss R,Rh ss R->ss.length=3:=by rintro _ _⟨m,s,ps,n,a,lo,rfl,_,rfl⟩;rfl
def ZI7(F:AF K "_law_led_on" "_law_led_on" YR f fd)(m:mg "_law_led_on"=some (.ref f)):
  A8 P w K mg Zy "_law_led_on" 5 ["state","number","loop"] (Ag Rh):=by
 refine A8.mk F (F.binds (by walk_at "bD3")) m (F.Al (k:=4) Qi (λvs H Q E h=>Fz.CO iC h) (λAV A outer s H vs Q E c h=>?_))
 refine⟨_,(AB rfl (CJ (FG Ec rfl (DF (DM IM (Bo (BM c) (qv 0) Ad (λ_ _=>rfl)) (Cr (qv 1)) Dn)) (J3 rfl (DV (Bp 3 Qi.nd) (DV (Bp 4 Qi.nd) IE))) (AA rfl (An 2 Qi.nd (AM MV c (A0 (qv 3) (A0 (qv 2) (A0 (qv 4) A4))))))))
   (AA rfl (AZ (qv 2)))),?_⟩
 refine Fz.CK h iC ?_;rintro _ _⟨m,s,ps,n,o,lo,rfl,T,rfl⟩;have u:FF 40 s.row:=⟨C7 T.ok.row.len T.ok.m4,T.ok.row.nm,T.ok.row.nd⟩;have t:=T.len;have hn:=T.hn;show Ws [.is (Cq s),.is (.int n),.is lo.P,.any,.any] _ _ _;refine Aw (FT (G1 (λ_ j AH=>∃b s4:Slot,AH=[.is (Cq s),.is (.int n),.is (Dk ps n lo j).P,b,s4]) (KL (Hc (DT (Yu (BS (IY (AL rfl ⟨D6,_,rfl,Eg ⟨.inr "past", _,rfl,rfl,_,.inl ⟨rfl,rfl,?_⟩⟩⟩)))))))));refine XF (AL rfl ⟨_,rfl,Xd ?_⟩);rw[Qd,T.pa];refine⟨_,.inl ⟨rfl,⟨_,_,rfl⟩,?_,?_⟩⟩
 .rintro j p AH hp⟨b,s4,rfl⟩;rw[QJ]at hp;unfold GS at hp;rw[B1]at hp;obtain⟨q,a,rfl⟩:=Option.map_eq_some_iff.mp hp;have l:=(List.getElem?_eq_some_iff.mp a).1;have d:=Qo T.ch T.gd j (J5 l);rw[MX a]at d;obtain⟨i,e⟩:=T.ch.ok q (DR a);refine Lq ⟨_,_,rfl,?_⟩;show Ws [.is (Cq s),.is (.int n),.is (Dk ps n lo j).P,.is (.lst (q.1.map .str)),.is (dP q.2)] _ _ _;refine Fp (jv (Gz rfl ⟨rfl,q.1,rfl,AL rfl ⟨(Dk ps n lo j).r,(Dk ps n lo j).g,(Dk ps n lo j).cs,rfl,AL rfl ⟨q.2,rfl,e,d,i.len,.is (.lst (q.1.map .str)),.is (dP q.2),?_⟩⟩⟩));rw[show Dk ps n lo (j+1)=Lp.led q.1 q.2 (Dk ps n lo j)from by conv=>lhs;unfold Dk;rw[a]]
  rfl
 .rintro AH⟨b,s4,rfl⟩;rw[Co,Gf];exact FU (AL rfl rfl)
def wL:Ai ["row","slip"] ["row","slip"] (AR UD):=by walk_at "z1"
noncomputable def ZFS:=Sc [(".0",.local),("at",.local),("row",.free),("slip",.free)]
def yb:Cc ["row","slip"] (AR UD) ZFS "at" ["row","slip"] [0,1]:=by walk_at "z2"
def eA : ∀ss R,T6 ss R->ss.length=2:=by rintro _ _⟨ns,ts,g,rfl,_,rfl⟩;rfl
def xN(F:AF K "_law_shown" "_law_shown" UD f fd)(m:mg "_law_shown"=some (.ref f)):
  A8 P w K mg Zy "_law_shown" 1 ["row","slip"] (Ag T6):=by
 refine A8.mk F (F.binds (by walk_at "bD2")) m (F.Al (k:=0) wL (λvs H Q E h=>Fz.CO eA h) (λAV A outer s H vs Q E d h=>?_))
 refine⟨_,(AA rfl (AZ (Ak ID BK (A0 (Fi rfl yb (II rfl D9 (A0 (Ak DU Af (A0 (qv 0) A4)) A4)) (λ_ _ _ _=>by exact(Fu (Ac G6 (Cj JU (qv 2) (AI (show EA _ (Ij K)from AN) (qv 1) A7)) (Cj (show BB _ (compareOp .In) (Et K false)from FE) (AI (show EA _ (JO K)from DL) (qv 0) (qv 2)) (AI (show EA _ (Ij K)from AN) (qv 1) A7))))) (λ_ _ _ _=>by exact(AI (show EA _ (JO K)from DL) (qv 0) (qv 2)))) A4)))),?_⟩;refine Fz.CK h eA ?_;rintro _ _⟨ns,ts,g,rfl,c,rfl⟩;show Ws [.is (.lst (ns.map .str)),.is (.tup [.int g,.tup (ts.map .str)])] _ _ _
 walk_at "ww"
 refine BS (DT (IW (λi:Nat=>PV.int (i:Int)) (JD g ts ns) (λi=>.str (ns.getD i "")) ?_ Z1))
 walk_at "ww"
 rw[AS,Hr];refine⟨by omega,by omega,List.range ns.length,rfl,by rw[M5];omega,λi hi=>?_,λi hi _=>?_,?_⟩
 .have a:=List.mem_range.mp hi
  walk_at "ww"
  refine⟨_,_,rfl,Nl a,?_⟩
  walk_at "ww"
  rfl
 .have a:=List.mem_range.mp hi
  walk_at "ww"
  exact⟨_,_,rfl,Nl a,rfl⟩
 .rw[YN ns g ts];refine⟨_,.inl ⟨rfl,BU ns g ts,rfl,?_,λus b st=>⟨us,b,st,rfl⟩⟩⟩;have:=Sh ns g ts;omega
def VL:Ai ["row","coming","counts","gap"] ["row","coming"] (AR S6):=by walk_at "z1"
noncomputable def ZDV:=Sc [(".0",.local),("at",.local),("coming",.free),("gap",.free),("row",.free)]
def vV:Cc ["row","coming","counts","gap"] (AR S6) ZDV "at" ["coming","gap","row"] [1,3,0]:=by walk_at "z2"
def mC : ∀ss R,Tf ss R->ss.length=2:=by rintro _ _⟨ns,cs,rfl,_,_,rfl⟩;rfl
def yo(F:AF K "_law_least" "_law_least" S6 f fd)(m:mg "_law_least"=some (.ref f)):
  A8 P w K mg Zy "_law_least" 1 ["row","coming"] (Ag Tf):=by
 refine A8.mk F (F.binds (by walk_at "bD2")) m (F.Al (k:=0) VL (λvs H Q E h=>Fz.CO mC h) (λAV A outer s H vs Q E n h=>?_))
 refine⟨_,(AB rfl (An 2 VL.nd (Dw A4))
   (AB rfl (CJ (FG Ec rfl (II rfl D9 (A0 (Az Dp (Ak DU Af (A0 (qv 0) A4)) A7) A4)) (Bp 3 VL.nd) (AA rfl (CI (El FO Hx Hy Gk (qv 2) (A0 (Ak DU Af (A0 (Fi rfl vV (II rfl D9 (A0 (Ak DU Af (A0 (qv 0) A4)) A4)) (λ_ _ _ _=>by exact(Fu (Ac G6 (Cj JU (qv 3) (qv 1)) (Cj (show BB _ (compareOp .In) (Et K false)from FE) (AI (show EA _ (JO K)from DL) (qv 2) (qv 3)) (qv 0))))) (λ_ _ _ _=>by exact(qv 3))) A4)) A4))))))
   (AA rfl (AZ (Ak (ZCV rfl) MJ (A0 (qv 2) A4)))))),?_⟩
 refine Fz.CK h mC ?_;rintro _ _⟨ns,cs,rfl,l,nd,rfl⟩;show Ws [.is (.lst (ns.map .str)),.is (.tup (cs.map .str)),.any,.any] _ _ _
 walk_at "ww"
 refine⟨by decide,?_⟩;show Ws [.is (.lst (ns.map .str)),.is (.tup (cs.map .str)),.own [],.any] _ _ _;refine Aw (FT (G1 (λ_ i AH=>∃a:Slot,AH=[.is (.lst (ns.map .str)),.is (.tup (cs.map .str)),.own ((Kq ns cs i).map .int),a]) ?_))
 walk_at "ww"
 rw[AS];refine⟨by omega,by omega,⟨_,rfl⟩,?_,?_⟩
 .rintro i p AH hp⟨a,rfl⟩;obtain⟨hi,rfl⟩:=NL hp;refine He ?_;show Ws [.is (.lst (ns.map .str)),.is (.tup (cs.map .str)),.own ((Kq ns cs i).map .int),.is (.int i)] _ _ _;refine SY rfl (OL (BS (DT (IW (λj:Nat=>PV.int (j:Int)) (JD i cs ns) (λj=>.int j) ?_ Z1))))
  walk_at "ww"
  rw[AS,Hr];refine⟨by omega,by omega,List.range ns.length,rfl,by rw[M5];omega,λj b=>?_,λj b _=>?_,?_⟩
  .have g:=List.mem_range.mp b
   walk_at "ww"
   refine⟨_,_,rfl,Nl g,?_⟩
   walk_at "ww"
   rfl
  .walk_at "ww"
   rfl
  .have c:=xU List.length (YN ns i cs);rw[AS,AS]at c;refine⟨_,.inl ⟨rfl,?_,.is (.int i),?_⟩⟩
   .rw[AS];unfold Kq;rw[AS,M5];omega
   .rw[AS,c];unfold Kq;rw[List.range_succ,CD,CD];rfl
 .rintro AH⟨a,rfl⟩;rw[Le];refine FU (y6 (kT rfl ⟨rfl,Kq ns cs (ns.length+1),rfl,?_,λm e d=>?_⟩))
  .intro z;have:=xU List.length z;unfold Kq at this;rw[AS,M5]at this;cases this
  .rw[ZCG nd e d]
def zP:Ai ["found"] ["found"] (AR WM):=by walk_at "z1"
def kh : ∀ss R,PK ss R->ss.length=1:=by rintro _ _⟨i,rfl,rfl⟩;rfl
def x8(F:AF K "_law_whole" "_law_whole" WM f fd)(m:mg "_law_whole"=some (.ref f)):
  A8 P w K mg Zy "_law_whole" 1 ["found"] (Ag PK):=by
 refine A8.mk F (F.binds (by walk_at "bD1")) m (F.Al (k:=0) zP (λvs H Q E h=>Fz.CO kh h) (λAV A outer s H vs Q E a h=>?_))
 refine⟨_,(AA rfl (AZ (Hf (Ak HU Dl (A0 (qv 0) (A0 (HV "int" Gs) A4))) (Ih (pO (Ak HU Dl (A0 (qv 0) (A0 (HV "bool" ZN) A4)))))))),?_⟩;refine Fz.CK h kh ?_;rintro _ _⟨i,rfl,rfl⟩;show Ws [_] _ _ _;refine FU (N0 (Il (AL rfl ⟨true,IC _ _,_,rfl,PX ?_⟩)));exact jD (Il (AL rfl ⟨false,ZGX _,_,rfl,rfl⟩))
def jf:Ai ["found","count","row","loop","slip"] ["found","count","row","loop"] (AR Oa):=by walk_at "z1"
noncomputable def vm:=Sc [(".0",.local),("one",.local),("_law_whole",.globalImplicit)]
def ZGM:Cc ["found","count","row","loop","slip"] (AR Oa) vm "one" [] []:=by walk_at "z2"
noncomputable def ZEi:=Sc [(".0",.local),("name",.local),("row",.free)]
def ZDT:Cc ["found","count","row","loop","slip"] (AR Oa) ZEi "name" ["row"] [2]:=by walk_at "z2"
def gF : ∀ss R,Qr ss R->ss.length=4:=by rintro _ _⟨c,ns,lo,rfl,_,_,_,rfl⟩;rfl
def sF(F:AF K "_law_is_ticket" "_law_is_ticket" Oa f fd)(m:mg "_law_is_ticket"=some (.ref f)):
  A8 P w K mg Zy "_law_is_ticket" 2 ["found","count","row","loop"] (Ag Qr):=by
 refine A8.mk F (F.binds (by walk_at "bD4")) m (F.Al (k:=1) jf (λvs H Q E h=>Fz.CO gF h) (λAV A outer s H vs Q E a h=>?_))
 refine⟨_,(AB rfl (Aq (DW (CT (DK (Ak HU Dl (A0 (qv 0) (A0 (HV "tuple" BQ) A4))))) (DW (Ac G6 (Ak DU Af (A0 (qv 0) A4)) A7) (Ff (Ac (Fz.qm a.units) (DM Fz.Nh (qv 0) Dn (Cr A7)) (Bb (A0 (qv 1) (A0 (AI AN (qv 3) A7) (A0 (AI AN (qv 3) A7) A4)))))))).pt (AA rfl (AZ GD)) Ay)
   (AB rfl (An 4 jf.nd (AI AN (qv 0) A7))
   (AB rfl (Aq (DW (CT (DK (Ak HU Dl (A0 (qv 4) (A0 (HV "tuple" BQ) A4))))) (DW (Ac G6 (Ak DU Af (A0 (qv 4) A4)) A7) (Ff (CT (DK (Ak HU Dl (A0 (AI AN (qv 4) A7) (A0 (HV "tuple" BQ) A4)))))))).pt (AA rfl (AZ GD)) Ay)
   (AB rfl (Aq (DW (CT (DK (Ak (MU rfl) Ez (A0 (Fi rfl ZGM (DF (Bb (A0 (AI AN (qv 0) A7) (A0 (AI AN (qv 0) A7) (A0 (AI AN (qv 4) A7) A4))))) (λ_ _ _ _=>by exact Lg) (λ_ _ _ _=>by exact(AM JC a (A0 (qv 0) A4)))) A4)))) (Ff (CT (NT FQ FQ A7 (AI AN (qv 4) A7) (Ak DU Af (A0 (qv 2) A4)))))).pt (AA rfl (AZ GD)) Ay)
   (AB rfl (Aq (DW (Ac (LC a.Fo) (CS KO Bx (A0 (AI AN (qv 4) A7) A4)) (Ak (mD rfl) BK (A0 (CS (fc rfl) NN (A0 (AI AN (qv 4) A7) A4)) A4))) (Ff (CT (DK (Ak (MU rfl) Ez (A0 (Fi rfl ZDT (DF (AI AN (qv 4) A7)) (λ_ _ _ _=>by exact Lg) (λ_ _ _ _=>by exact(Cj (show BB _ (compareOp .In) (Et K false)from FE) (qv 1) (qv 0)))) A4)))))).pt (AA rfl (AZ GD)) Ay)
   (AA rfl (AZ (Hf (Cj (LH a.Fo) (AM aJ a (A0 (qv 2) (A0 (qv 4) A4))) (Ak ID BK (A0 (AI AN (qv 3) A7) A4))) (Ih (Cj Bs (Ak DU Af (A0 (AI AN (qv 4) A7) A4)) (AM WJ a (A0 (qv 2) (A0 (AI AN (qv 3) A7) A4))))))))))))),?_⟩
 refine Fz.CK h gF ?_;rintro _ _⟨n,ns,⟨r,g,cs⟩,rfl,t,nd,gd,rfl⟩;have hg:=(Yi cs nd).2;have u:=wW (ns:=ns) cs;show Ws [.is (.tup [.int n,.str r,.int g,.tup [.int ((gr cs ns).g:Nat),.tup ((Ej ns cs).map .str)]]),.is (.int n),.is (.lst (ns.map .str)),.is (.tup [.str r,.int g,.tup (cs.map .str)]),.any] _ _ _;refine Aw (E4 (GL (Dz (Dg (Il (AL rfl ⟨true,IC _ _,true,rfl,DQ ?_⟩))))))
 walk_at "ww"
 refine BH (by simp[alike]) ?_;have c:dat K 40 (.tup [.int n,.str r,.int g]):=ZIV (d:=38) (λx hx=>by simp at hx;rcases hx with rfl|rfl|rfl <;> rfl)
 refine Lc (iZ (YC (DE rfl ?_)))
 walk_at "ww"
 rw[show aU true (EG [PV.int n,.str r,.int g,.tup [.int ((gr cs ns).g:Nat),.tup ((Ej ns cs).map .str)]] none (some 3))=.tup [.int n,.str r,.int g]from rfl];refine⟨by show 3<=100000;decide,c,c,_,rfl,BH (by rw[nD 40 c];decide) (CM ?_)⟩;refine Aw (Fp (DJ (DE rfl ⟨rfl,CY ⟨_,_,rfl,rfl,?_⟩⟩)));show Ws [.is (.tup [.int n,.str r,.int g,.tup [.int ((gr cs ns).g:Nat),.tup ((Ej ns cs).map .str)]]),.is (.int n),.is (.lst (ns.map .str)),.is (.tup [.str r,.int g,.tup (cs.map .str)]),.is (.tup [.int ((gr cs ns).g:Nat),.tup ((Ej ns cs).map .str)])] _ _ _;refine Aw (E4 (GL (Dz (Dg (Il (AL rfl ⟨true,IC _ _,true,rfl,DQ ?_⟩))))))
 walk_at "ww"
 refine BH (by simp[alike]) ?_;refine Dz (Dg (Il ?_))
 walk_at "ww"
 refine⟨true,IC _ _,true,rfl,DQ (CM ?_)⟩;refine Aw (E4 (GL (Dz (Dg (Qb rfl (BS (DT (IW PV.int (λ_=>true) (λ_=>.bl true) (KL (Hc (Kh ?_))) ZCU))))))))
 walk_at "ww"
 refine⟨by show 3<=100000;decide,_,.inr ⟨rfl,[n,(g:Int),((gr cs ns).g:Nat)],rfl,by show 3<=100000;decide,λz _=>SG rfl,λz _ _=>wp_call (BR (AL rfl (Bc ⟨_,⟨z,rfl,rfl⟩,λ_ h=>h⟩))),?_⟩⟩;refine⟨_,.inl ⟨rfl,rfl,[true,true,true],rfl,_,rfl,BH (by decide) ?_⟩⟩
 walk_at "ww"
 refine KY (rD (by omega)) ?_
 walk_at "ww"
 rw[AS];refine BH (by simp;omega) (CM ?_);refine Aw (E4 (GL ?_))
 walk_at "ww"
 refine⟨by omega,λus Ck o hs=>?_⟩
 walk_at "ww"
 rw[rD ((jR Ck o hs).mpr (xl cs nd))];refine BH (by decide) ?_;refine Dz (Dg (Qb rfl (BS (DT (wy PV.str (λx=>.bl (decide (x∈ns))) ?_ str_inj)))))
 walk_at "ww"
 refine⟨by omega,λx hx=>by walk_at "ww"; rfl,?_⟩
 have q:(((Ej ns cs).map λx=>decide (x∈ns)).all id)=true:=List.all_eq_true.mpr λb p=>by
  obtain⟨y,l,rfl⟩:=List.mem_map.mp p;exact rD (zZ l)
 refine⟨_,.inl ⟨rfl,rfl,(Ej ns cs).map λx=>decide (x∈ns),by rw[GA];rfl,_,rfl,BH (by rw[q];decide) (CM ?_)⟩⟩;refine FU (N0 (kY ?_));refine BS (DT (j3 (BR (AL rfl (BR (AL rfl (Bc ⟨_,⟨ns,Ej ns cs,(gr cs ns).g,rfl,by omega,rfl⟩,?_⟩)))))));rintro _⟨us,j,i,rfl⟩;refine⟨_,.inl ⟨rfl,us,rfl,?_⟩⟩
 walk_at "ww"
 have v:cs.length<=ns.length:=UP (L0 gd.up) gd.sub;refine⟨by omega,λvs IL FJ=>?_⟩;have e:us=vs:=qk (j.trans ((zN nd gd.sub (L0 gd.up)).trans IL.symm)) i FJ;refine⟨_,.inl ⟨rfl,rfl,vs,rfl,_,rfl,?_⟩⟩;rw[rD e];refine KY rfl ?_
 walk_at "ww"
 refine wp_call (BR (AL rfl (BR ?_)))
 walk_at "ww"
 refine Bc ⟨_,⟨ns,cs,rfl,by omega,nd,rfl⟩,?_⟩;rintro _ rfl;rw[AS,zW cs nd];exact⟨rfl,xU PV.bl (rD rfl)⟩
def ZGB:Ai ["found"] ["found"] (AR UE):=by walk_at "z1"
noncomputable def sI:=Sc [(".0",.local),("name",.local),("isinstance",.globalImplicit),("str",.globalImplicit)]
def ZBq:Cc ["found"] (AR UE) sI "name" [] []:=by walk_at "z2"
def dJ : ∀ss R,T7 ss R->ss.length=1:=by rintro _ _⟨ns,rfl,a,rfl⟩;rfl
def ZCj(F:AF K "_law_texts" "_law_texts" UE f fd)(m:mg "_law_texts"=some (.ref f)):
  A8 P w K mg Zy "_law_texts" 1 ["found"] (Ag T7):=by
 refine A8.mk F (F.binds (by walk_at "bD1")) m (F.Al (k:=0) ZGB (λvs H Q E h=>Fz.CO dJ h) (λAV A outer s H vs Q E b h=>?_))
 refine⟨_,(AA rfl (AZ (Hf (Ak HU Dl (A0 (qv 0) (A0 (HV "list" Bx) A4))) (Ih (Ak (MU rfl) Ez (A0 (Fi rfl ZBq (DF (qv 0)) (λ_ _ _ _=>by exact Lg) (λ_ _ _ _=>by exact(Ak (show D1 _ (.builtin "isinstance") (R9 K)from HU) Dl (A0 (qv 0) (A0 (HV "str" Mx) A4))))) A4)))))),?_⟩;refine Fz.CK h dJ ?_;rintro _ _⟨ns,rfl,a,rfl⟩;show Ws [_] _ _ _
 walk_at "ww"
 refine ZEx ?_
 walk_at "ww"
 refine⟨true,IC _ _,_,rfl,PX ?_⟩
 walk_at "wp"
 refine BS (DT (IW PV.str (λ_=>true) (λ_=>.bl true) ?_ str_inj))
 walk_at "ww"
 refine⟨by omega,λx hx=>by walk_at "ww"; rfl,λx hx _=>?_,?_⟩
 .refine Il ?_
  walk_at "ww"
  exact⟨true,IC _ _,rfl⟩
 .walk_at "ww"
  rw[show(List.map (λ_=>true) (ns.filter λ_=>true)).all id=true from by simp]
def Ox:Ai ["yard","state","ticket","loop","many","told","later","turn","found"] ["yard","state","ticket","loop","many"] (AR W5):=by walk_at "z1"
def jI:∀ss R,(Qt A3) ss R->ss.length=5:=by rintro _ _⟨m,s,ps,n,a,lo,c,rfl,_,_,rfl⟩;rfl
def wq(F:AF K "_law_paged" "_law_paged" W5 f fd)(m:mg "_law_paged"=some (.ref f)):
  A8 P w K mg Zy "_law_paged" 11 ["yard","state","ticket","loop","many"] (Ag (Qt A3)):=by
 refine A8.mk F (F.binds (by walk_at "bD5")) m (F.Al (k:=10) Ox (λvs H Q E h=>Fz.CO jI h) (λAV A outer s H vs Q E d h=>?_))
 refine⟨_,(AB rfl (JH (AM Zd d (A0 (Bo (BM d) (qv 1) Ad (λ_ _=>rfl)) (A0 (AM WA d (A0 (qv 1) (A0 (AI AN (qv 2) A7) (A0 (qv 3) A4)))) (A0 (qv 4) A4)))) (J3 rfl (DV (Bp 5 Ox.nd) (DV (Bp 6 Ox.nd) IE))))
   (AB rfl (CJ (FG Ec rfl (II rfl D9 (A0 A7 A4)) (Bp 7 Ox.nd) (AB rfl (An 8 Ox.nd (GX Zq d (by decide) (qv 0) (A0 (qv 2) (A0 (qv 4) A4))))
   (AB rfl (Aq (DW (CT (DK (Ak HU Dl (A0 (qv 8) (A0 (HV "tuple" BQ) A4))))) (DW (Ac G6 (Ak DU Af (A0 (qv 8) A4)) A7) (DW (CT (DK (AM L3 d (A0 (AI AN (qv 8) A7) A4)))) (Ff (Ac (LC d.Fo) (AI AN (qv 8) A7) (qv 5)))))).pt (AA rfl (AZ GD)) Ay)
   (AB rfl (Aq (CT (DK (AM VG d (A0 (AI AN (qv 8) A7) (A0 (Ak DU Af (A0 (Bo (BM d) (qv 1) Ad (λ_ _=>rfl)) A4)) (A0 (Bo (BM d) (qv 1) Ad (λ_ _=>rfl)) (A0 (qv 6) A4))))))) (AA rfl (AZ GD)) Ay)
   (AA rfl (CI (El FO Hx Hy Gk (AI AN (qv 8) A7) (A0 Ad A4)))))))))
   (AA rfl (AZ GD)))),?_⟩
 refine Fz.CK h jI ?_;rintro _ _⟨m,s,ps,n,b,lo,c,rfl,T,j,rfl⟩;have x:s.pa.length=ps.length:=by rw[T.pa,Gf]
 have t:=T.len;have h1:=T.ok.row.len;have u:=T.ok.m4;have l:=gO T.ch T.hn T.gd;show Ws [.is (Bv s A3),.is (Cq s),.is (Cb n b (rowAt ps s.row n) lo),.is lo.P,.is (.int c),.any,.any,.any,.any] _ _ _;refine Aw (R0 (wp_call (BR (IY (AL rfl ⟨D6,_,rfl,Eg ⟨.inr "row", _,rfl,rfl,?_⟩⟩)))));refine BR (wp_call (BR (AL rfl (BR (DJ (DE rfl ⟨rfl,CY ⟨_,_,rfl,rfl,BR (AL rfl (Bc ⟨_,⟨m,s,ps,n,b,lo,rfl,T,rfl⟩,?_⟩))⟩⟩))))));rintro _ rfl;refine BR (AL rfl (Bc ⟨_,⟨s.row,FY ps n lo,c,rfl,l,by omega,j,rfl⟩,?_⟩));rintro _ rfl;refine Lq ⟨_,_,rfl,?_⟩;show Ws [.is (Bv s A3),.is (Cq s),.is (Cb n b (rowAt ps s.row n) lo),.is lo.P,.is (.int c),.is (.lst ((pg s.row (FY ps n lo) c).1.map .str)),.is (pg s.row (FY ps n lo) c).2.P,.any,.any] _ _ _;have q:=MW l c;have r:=Uw s.row (FY ps n lo) c;refine Aw (FT (G1 (λ_ i AH=>∃g e:Slot,AH=[.is (Bv s A3),.is (Cq s),.is (Cb n b (rowAt ps s.row n) lo),.is lo.P,.is (.int c),.is (.lst ((pg s.row (FY ps n lo) c).1.map .str)),.is (pg s.row (FY ps n lo) c).2.P,g,e]) ?_))
 walk_at "ww"
 refine⟨by decide,by decide,⟨_,_,rfl⟩,?_,?_⟩
 .rintro i p AH hp⟨g,e,rfl⟩;obtain⟨hi,rfl⟩:=NL hp;refine He ?_;show Ws [.is (Bv s A3),.is (Cq s),.is (Cb n b (rowAt ps s.row n) lo),.is lo.P,.is (.int c),.is (.lst ((pg s.row (FY ps n lo) c).1.map .str)),.is (pg s.row (FY ps n lo) c).2.P,.is (.int i),e] _ _ _;refine Aw (WV (pH (AL rfl ⟨_,_,rfl,by decide +kernel,BR (AL rfl (BR (AL rfl (Bc ⟨_,⟨m,s,ps,n,b,lo,c,rfl,T,j,rfl⟩,?_⟩))))⟩)));rintro _⟨a,rfl⟩;generalize FY ps n lo=l0 at *;show Ws [.is (Bv s A3),.is (Cq s),.is (Cb n b (rowAt ps s.row n) lo),.is lo.P,.is (.int c),.is (.lst ((pg s.row l0 c).1.map .str)),.is (pg s.row l0 c).2.P,.is (.int i),.ow false (.tp [.nd .lst a (((pg s.row l0 c).1.map PV.str).map .fz),.fz (Ju s.pa.length s.row (pg s.row l0 c).2)])] _ _ _;have o:(OV.tp [.nd .lst a (((pg s.row l0 c).1.map PV.str).map .fz),.fz (Ju s.pa.length s.row (pg s.row l0 c).2)]).pv=.tup [.lst ((pg s.row l0 c).1.map .str),Ju s.pa.length s.row (pg s.row l0 c).2]:=by simp only[OV.pv,OV.G0,OG]
  refine Aw (E4 (Rn 8 rfl ?_));rw[o];show Wt [.is (Bv s A3),.is (Cq s),.is (Cb n b (rowAt ps s.row n) lo),.is lo.P,.is (.int c),.is (.lst ((pg s.row l0 c).1.map .str)),.is (pg s.row l0 c).2.P,.is (.int i),.is (.tup [.lst ((pg s.row l0 c).1.map .str),Ju s.pa.length s.row (pg s.row l0 c).2])] _ _;refine GL (Dz (Dg (Il (AL rfl ⟨true,IC _ _,true,rfl,DQ ?_⟩))))
  walk_at "ww"
  refine BH (by simp[alike]) ?_;refine GL (Dz (Dg (wp_call (GN (BS (DJ (DE rfl ⟨rfl,CY ⟨_,_,rfl,rfl,_,.inl ⟨rfl,Bc ⟨_,⟨(pg s.row l0 c).1,rfl,by omega,rfl⟩,?_⟩⟩⟩⟩)))))));rintro _ rfl;refine⟨true,rfl,DQ ?_⟩
  walk_at "ww"
  rw[rD rfl];refine BH (by decide) (CM ?_);have v:s.pa.length<=2000:=by omega
  refine Aw (E4 (Rn 8 rfl ?_));rw[o];show Wt [.is (Bv s A3),.is (Cq s),.is (Cb n b (rowAt ps s.row n) lo),.is lo.P,.is (.int c),.is (.lst ((pg s.row l0 c).1.map .str)),.is (pg s.row l0 c).2.P,.is (.int i),.is (.tup [.lst ((pg s.row l0 c).1.map .str),Ju s.pa.length s.row (pg s.row l0 c).2])] _ _;refine Dz (Dg (wp_call (BR (DJ (DE rfl ⟨rfl,CY ⟨_,_,rfl,rfl,BR (OL (BS (IY (AL rfl ⟨D6,_,rfl,Eg ⟨.inr "past", _,rfl,rfl,_,.inl ⟨rfl,?_⟩⟩⟩))))⟩⟩)))));refine BR (IY (AL rfl ⟨D6,_,rfl,Eg ⟨.inr "row", _,rfl,rfl,BR (AL rfl (Bc ⟨_,⟨(s.pa.length:Int),s.row,(pg s.row l0 c).2,rfl,by omega,T.ok.row.nd,q,rfl⟩,?_⟩))⟩⟩));rintro _ rfl;refine⟨true,rfl,DQ (CM ?_)⟩;refine Yy (i:=8) (Np (E2 rfl ⟨_,rfl,CY ⟨_,0,_,rfl,rfl,rfl,false,a,_,rfl,rfl,by rw[AS,AS];omega,?_⟩⟩));exact FD (Eg ⟨by simp,_,_,rfl⟩)
 .rintro AH⟨g,e,rfl⟩
  walk_at "ww"
  rfl
def rR:Ai ["self"] ["self"] (AR WY):=by walk_at "z1"
def bb:∀ss R,(Tn A3) ss R->ss.length=1:=by rintro _ _⟨s,rfl,rfl⟩;rfl
def w8(F:AF K "row" "Yard.row" WY f fd)(a:Meth K A3 "row" f):
  Br P w K mg Zy A3 "row" 1 ["self"] (Ag (Tn A3)):=by
 refine⟨f,fd,F.Al (k:=0) rR (λvs H Q E h=>Fz.CO bb h) (λAV A outer s H vs Q E b h=>?_),(F.binds (by walk_at "bD1")),a,Ao⟩
 refine⟨_,(AA rfl (AZ (CS KO Bx (A0 (CQ (qv 0)) A4)))),?_⟩;refine Fz.CK h bb ?_;rintro _ _⟨s,rfl,rfl⟩;show Ws [_] _ _ _;exact YG (WD rfl (BS (Ft (AL rfl ⟨A3,yN,_,0,_,rfl,Ao,Cf,by decide +kernel,rfl,_,.inl ⟨rfl,rfl⟩⟩))))
def vQ:Ai ["self"] ["self"] (AR V3):=by walk_at "z1"
def iI:∀ss R,(Qf A3) ss R->ss.length=1:=by rintro _ _⟨m,s,rfl,_,rfl⟩;rfl
def ZBk(F:AF K "loops" "Yard.loops" V3 f fd)(b:Meth K A3 "loops" f):
  Br P w K mg Zy A3 "loops" 1 ["self"] (Ag (Qf A3)):=by
 refine⟨f,fd,F.Al (k:=0) vQ (λvs H Q E h=>Fz.CO iI h) (λAV A outer s H vs Q E c h=>?_),(F.binds (by walk_at "bD1")),b,Ao⟩
 refine⟨_,(AA rfl (AZ (Ak (R3 rfl) BK (A0 (CQ (qv 0)) A4)))),?_⟩;refine Fz.CK h iI ?_;rintro _ _⟨m,s,rfl,ok,rfl⟩;show Ws [_] _ _ _;refine YG (lZ (Ft (AL rfl ⟨A3,yN,_,1,_,rfl,Ao,Cn,by decide +kernel,rfl,_,s.ln,rfl,by have:=ok.HB;omega,λBC a st=>?_⟩)));show _=_;rw[KP ok.n1 a st]
def xV:Ai ["found","due"] ["found","due"] (AR ZW):=by walk_at "z1"
def ju : ∀ss R,QZ ss R->ss.length=2:=by rintro _ _⟨lo,rfl,rfl⟩;rfl
def ZGn(F:AF K "_law_is_loop" "_law_is_loop" ZW f fd)(m:mg "_law_is_loop"=some (.ref f)):
  A8 P w K mg Zy "_law_is_loop" 2 ["found","due"] (Ag QZ):=by
 refine A8.mk F (F.binds (by walk_at "bD2")) m (F.Al (k:=1) xV (λvs H Q E h=>Fz.CO ju h) (λAV A outer s H vs Q E a h=>?_))
 refine⟨_,(AB rfl (Aq (DW (CT (DK (Ak HU Dl (A0 (qv 0) (A0 (HV "tuple" BQ) A4))))) (DW (Ac G6 (Ak DU Af (A0 (qv 0) A4)) A7) (Ff (CT (DK (Ak HU Dl (A0 (AI AN (qv 0) A7) (A0 (HV "tuple" BQ) A4)))))))).pt (AA rfl (AZ GD)) Ay)
   (AA rfl (AZ (Hf (Ak HU Dl (A0 (AI AN (qv 0) A7) (A0 (HV "str" Mx) A4))) (Hf (AM JC a (A0 (AI AN (qv 0) A7) A4)) (Ih (Cj (Fz.ZI8 a.units) (qv 0) (qv 1)))))))),?_⟩
 refine Fz.CK h ju ?_;rintro _ _⟨⟨r,g,ts⟩,rfl,rfl⟩;show Ws [.is (.tup [.str r,.int g,.tup (ts.map .str)]),.is (.tup [.str r,.int g,.tup (ts.map .str)])] _ _ _;refine Aw (E4 (GL (Dz (Dg (Il (AL rfl ⟨true,IC _ _,true,rfl,DQ ?_⟩))))))
 walk_at "ww"
 refine BH (by simp[alike]) ?_;refine Dz (Dg (Il ?_))
 walk_at "ww"
 refine⟨true,IC _ _,true,rfl,DQ (CM ?_)⟩;refine FU (N0 (Il ?_))
 walk_at "ww"
 refine⟨true,IC _ _,true,rfl,KY rfl ?_⟩;refine N0 (wp_call (BR ?_))
 walk_at "ww"
 refine Bc ⟨_,⟨_,rfl,rfl⟩,?_⟩;rintro _ rfl;refine⟨_,rfl,KY rfl ?_⟩;have d:dat K 40 (Ca r g ts):=ZHz K r g ts;refine cE (AL rfl (AL rfl ⟨d,d,?_⟩));show PV.bl (CG (Ca r g ts) (Ca r g ts))=PV.bl true;rw[nD 40 d]
def ZS:Ai ["yard","state","row","names"] ["yard","state"] (AR T4):=by walk_at "z1"
noncomputable def ZHb:=Sc [(".0",.local),("name",.local),("_law_is_loop",.globalImplicit),("state",.free),("yard",.free)]
def ZE5:Cc ["yard","state","row","names"] (AR T4) ZHb "name" ["state","yard"] [1,0]:=by walk_at "z2"
def mq:∀ss R,(Qg A3) ss R->ss.length=2:=by rintro _ _⟨m,s,a1,a2,t1,t2,rfl,_,_,_,_,_,rfl⟩;rfl
def uD(F:AF K "_law_stands" "_law_stands" T4 f fd)(m:mg "_law_stands"=some (.ref f)):
  A8 P w K mg Zy "_law_stands" 5 ["yard","state"] (DB (Qg A3)):=by
 refine A8.mk F (F.binds (by walk_at "bD2")) m (F.Al (k:=4) ZS (λvs H Q E h=>Fz.Jq mq h) (λAV A outer s H vs Q E a h=>?_))
 refine⟨_,(AB rfl (An 2 ZS.nd (LN Yo a (by decide) (qv 0)))
   (AB rfl (An 3 ZS.nd (LN YT a (by decide) (qv 0)))
   (AB rfl (Aq (DW (CT (DK (AM L3 a (A0 (qv 2) A4)))) (DW (Ac (LC a.Fo) (qv 2) (Bo (BM a) (qv 1) Ad (λ_ _=>rfl))) (DW (CT (DK (AM L3 a (A0 (qv 3) A4)))) (Ff (Ac (LC a.Fo) (qv 3) (Ak (R3 rfl) BK (A0 (Bo (BM a) (qv 1) Ad (λ_ _=>rfl)) A4))))))).pt (AA rfl (AZ GD)) Ay)
   (AB rfl (Aq (DW (CT (DK (AM JC a (A0 (LN GY a (by decide) (qv 0)) A4)))) (Ff (Ac G6 (LN GY a (by decide) (qv 0)) (Ak DU Af (A0 (Bo (BM a) (qv 1) Ad (λ_ _=>rfl)) A4))))).pt (AA rfl (AZ GD)) Ay)
   (AB rfl (CI (El FO Hx Hy Gk (qv 2) (A0 Ad A4)))
   (AB rfl (CI (El FO Hx Hy Gk (qv 3) (A0 Ad A4)))
   (AA rfl (AZ (Ak (MU rfl) Ez (A0 (rL (Fi rfl ZE5 (uX (Bo (BM a) (qv 1) Ad (λ_ _=>rfl))) (λ_ _ _ _=>by exact Lg) (λ_ _ _ _=>by exact(AM aR a (A0 (GX JI a (by decide) (qv 1) (A0 (qv 2) A4)) (A0 (Bo (BM a) (Bo (BM a) (qv 0) Ad (λ_ _=>rfl)) (qv 2) (λ_ _=>rfl)) A4)))))) A4)))))))))),?_⟩
 refine Fz.Qz h mq ?_;rintro _ _⟨m,s,a1,a2,t1,t2,rfl,t,u,ok,o,hp,rfl⟩;obtain⟨dx,d,c,rfl⟩:=t;obtain⟨aK,aP,rfl⟩:=u;have l1:=ok.l1;have z:=ok.HB;have a:=ok.row.len;have B:=ok.m4;show Ws [.ow true (B5 s A3 a1 dx d c),.ow true (B7 s a2 aK aP),.any,.any] _ _ _;refine Aw (Hq (iK ?_));show Wn [.is (B5 s A3 a1 dx d c).pv,.is (B7 s a2 aK aP).pv,.any,.any] _ _;rw[Km,NR];refine fB (AL rfl ⟨_,_,rfl,by decide +kernel,Bc ⟨_,⟨s,rfl,rfl⟩,?_⟩⟩);rintro _ rfl;refine⟨dO s.row,?_⟩;show Ws [.ow true (B5 s A3 a1 dx d c),.ow true (B7 s a2 aK aP),.own (s.row.map .str),.any] _ _ _;refine Aw (Hq (iK ?_));show Wn [.is (B5 s A3 a1 dx d c).pv,.is (B7 s a2 aK aP).pv,_,.any] _ _;rw[Km,NR];refine fB (AL rfl ⟨_,_,rfl,by decide +kernel,Bc ⟨_,⟨m,s,rfl,ok,rfl⟩,?_⟩⟩);rintro _ rfl;refine⟨dO _,?_⟩;show Ws [.ow true (B5 s A3 a1 dx d c),.ow true (B7 s a2 aK aP),.own (s.row.map .str),.own ((CB s.ln).map .str)] _ _ _;refine Aw (E4 (dX ?_));show Wt [.is (B5 s A3 a1 dx d c).pv,.is (B7 s a2 aK aP).pv,_,_] _ _;rw[Km,NR];show Wt [.is (Bv s A3),.is (Cq s),.is (.lst (s.row.map .str)),.is (.lst ((CB s.ln).map .str))] _ _;have sl:(CB s.ln).length=s.ln.length:=OI s.ln;refine GL (Dz (Dg (wp_call (GN (Gz rfl (Bc ⟨_,⟨s.row,rfl,by omega,rfl⟩,?_⟩))))));rintro _ rfl;refine⟨_,rfl,BH (by decide) ?_⟩
 walk_at "ww"
 refine BS (IY (AL rfl ⟨D6,_,rfl,Eg ⟨.inr "row", _,rfl,rfl,_,.inl ⟨rfl,rfl,s.row,rfl,_,rfl,BH ?_ ?_⟩⟩⟩))
 .rw[rD rfl];decide
 refine GL (Dz (Dg (wp_call (GN (Gz (i:=3) rfl (Bc ⟨_,⟨CB s.ln,rfl,by omega,rfl⟩,?_⟩))))));rintro _ rfl;refine⟨_,rfl,BH (by decide) ?_⟩
 walk_at "ww"
 refine BS (DT (lZ (IY (AL rfl ⟨D6,_,rfl,Eg ⟨.inr "kept", _,rfl,rfl,_,s.ln,rfl,by omega,λBC g st=>?_⟩⟩))));rw[KP ok.n1 g st];refine⟨_,.inl ⟨rfl,rfl,CB s.ln,rfl,_,rfl,BH ?_ (CM ?_)⟩⟩
 .rw[rD rfl];decide
 refine Aw (E4 (dX ?_));show Wt [.is (B5 s A3 a1 dx d c).pv,.is (B7 s a2 aK aP).pv,_,_] _ _;rw[Km,NR];refine GL (Dz (Dg (wp_call (BR (Ic (AL rfl ⟨_,_,rfl,by decide +kernel,Bc ⟨_,⟨s,rfl,by omega,rfl⟩,?_⟩⟩))))));rintro _ rfl;refine Bc ⟨_,⟨_,rfl,rfl⟩,?_⟩;rintro _ rfl;refine⟨_,rfl,BH (by decide) ?_⟩;refine Lc (df (Ic (AL rfl ⟨_,_,rfl,by decide +kernel,Bc ⟨_,⟨s,rfl,by omega,rfl⟩,?_⟩⟩)));rintro _ rfl;refine OL (BS (IY (AL rfl ⟨D6,_,rfl,Eg ⟨.inr "past", _,rfl,rfl,_,.inl ⟨rfl,?_⟩⟩⟩)));refine⟨rfl,_,rfl,BH ?_ (CM ?_)⟩
 .rw[o];simp[alike]
 show Ws [.ow true (B5 s A3 a1 dx d c),.ow true (B7 s a2 aK aP),.own (s.row.map .str),.own ((CB s.ln).map .str)] _ _ _
 walk_at "ww"
 refine⟨by rw[AS];omega,?_⟩
 walk_at "ww"
 refine⟨by rw[AS];omega,?_⟩;have v:BY s.ll=(s.ll.map Lp.P).map .fz:=by unfold BY;rw[GA];rfl
 refine ZCi (i:=0) (j:=1) (by decide) rfl rfl (Qb rfl (BS (DT (ql (jS:=1) (jY:=0) (l2:=true) (l1:=true) (a2:=a2) (aK:=aK) (u0:=.fz (.lst (s.row.map .str))) (u2:=.nd .lst aP (s.pa.map .fz)) (tY:=B5 s A3 a1 dx d c) (ns:=s.ln) (ps:=s.ll.map Lp.P) ?_ rfl (by decide) ok.n1 (by omega) ?_ ?_ ?_))))
 .show some (Slot.ow true (B7 s a2 aK aP))=_;unfold B7;rw[v]
 .intro n x p hx e;rw[Km];rw[B1]at e;obtain⟨lo,y,rfl⟩:=Option.map_eq_some_iff.mp e;have l:s.ln.idxOf x=n:=MK ok.n1 hx;exact Ic (AL rfl ⟨_,_,rfl,by decide +kernel,BR (AL rfl (Bc ⟨_,⟨s,x,lo,rfl,DR hx,by rw[l];exact y,l1,rfl⟩,λq e=>e⟩))⟩)
 .intro p e;obtain⟨lo,_,rfl⟩:=List.mem_map.mp e;exact wp_call (BR (AL rfl (BR (AL rfl (Bc ⟨_,⟨lo,rfl,rfl⟩,λq e=>e⟩)))))
 .refine⟨_,.inl ⟨rfl,rfl,List.replicate s.ln.length true,by rw[List.map_replicate],?_,rfl,rfl⟩⟩
  congr 1
  exact List.all_eq_true.mpr λb r=>List.eq_of_mem_replicate r
def GO:Ai ["script","pot","most","state","yard","turn","name","k","ticket","loop","many"] ["script"] (AR NW):=by walk_at "z1"
def ZAL(F:AF K "law" "law" NW f fd)(m:mg "law"=some (.ref f)):
  Dm P w K mg Zy GH 13 f fd ["script"] (Ob K):=by
 refine(F.Al (k:=12) GO (λvs H Q E h=>by obtain⟨a,ns,rfl,_⟩:=h;rfl) (λAV A outer s H vs Q E l h=>?_));refine⟨_,(AB rfl (An 1 GO.nd (AM Tg l (A0 (qv 0) (A0 A7 A4))))
   (AB rfl (An 2 GO.nd (AI AN (Bb (A0 A7 (A0 A7 A4))) (CS Og Gs (A0 (Cj Bs (AM BG l (A0 (qv 1) (A0 A7 A4))) A7) A4))))
   (AB rfl (An 3 GO.nd (AM Xs l (A0 (qv 1) (A0 (qv 2) A4))))
   (AB rfl (An 4 GO.nd (ZBv aa l (by decide) Zo (A0 (Bo (BM l) (qv 3) Ad (λ_ _=>rfl)) A4)))
   (AB rfl (CJ (FG Ec rfl (II rfl D9 (A0 (Az Jt A7 (CS Og Gs (A0 (Cj Bs (AM BG l (A0 (qv 1) (A0 A7 A4))) A7) A4))) A4)) (Bp 5 GO.nd) (AB rfl (An 6 GO.nd (AM Gw l (A0 (qv 1) (A0 (Ak (R3 rfl) BK (A0 (Bo (BM l) (qv 3) Ad (λ_ _=>rfl)) A4)) A4))))
   (AB rfl (CI (GX MH l (by decide) (qv 4) (A0 (qv 6) (A0 Ad A4))))
   (AA rfl (KR (BM l) (Bo (BM l) (qv 3) Ad (λ_ _=>rfl)) (qv 6) (AM JJ l (A0 (Bo (BM l) (qv 3) Ad (λ_ _=>rfl)) (A0 Ad A4)))))))))
   (AB rfl (CJ (FG Ec rfl (II rfl D9 (A0 (Ak (ZEP rfl) YO (A0 A7 (A0 (Ak (x9 rfl) MJ (A0 (Ak DU Af (A0 (qv 0) A4)) (A0 A7 A4))) A4))) A4)) (Bp 7 GO.nd) (AB rfl (An 1 GO.nd (AM Tg l (A0 (qv 0) (A0 (qv 7) A4))))
   (AB rfl (CJ (FG Ec rfl (II rfl D9 (A0 (Az Dp A7 (AM BG l (A0 (qv 1) (A0 A7 A4)))) A4)) (Bp 5 GO.nd) (AA rfl (Aq (CT (DK (AM ar l (A0 (qv 1) (A0 (qv 4) (A0 (qv 3) (A0 (qv 2) A4))))))) (AA rfl (AZ GD)) Ay))))
   (AB rfl (JH (AM Z5 l (A0 (qv 1) (A0 (qv 3) A4))) (J3 rfl (DV (Bp 8 GO.nd) (DV (Bp 9 GO.nd) IE))))
   (AB rfl (An 10 GO.nd (AM BG l (A0 (qv 1) (A0 (AI AN (Bb (A0 A7 (A0 A7 A4))) (CS Og Gs (A0 (Cj Bs (AM BG l (A0 (qv 1) (A0 A7 A4))) A7) A4))) A4))))
   (AA rfl (Aq (DW (CT (DK (AM Zw l (A0 (qv 4) (A0 (qv 3) (A0 (qv 8) (A0 (qv 9) (A0 (qv 10) A4)))))))) (Ff (CT (DK (AM Xl l (A0 (qv 4) (A0 (qv 3) A4))))))).pt (AA rfl (AZ GD)) Ay))))))))
   (AA rfl (AZ GD)))))))),?_⟩
 refine Fz.ZEj h ?_;intro sc kP;show Ws [_,.any,.any,.any,.any,.any,.any,.any,.any,.any,.any] _ _ _;refine Aw (YX rfl (CY ⟨_,rfl,by decide,by decide,?_⟩));show Ws [.raw (D7 K sc),.AD,.any,.any,.any,.any,.any,.any,.any,.any,.any] _ _ _
 walk_at "ww"
 refine⟨by decide,_,.inr ⟨rfl,rfl,?_⟩⟩
 walk_at "ww"
 refine⟨by decide,by decide,λr R r1=>?_⟩
 walk_at "ww"
 obtain⟨m,em,hm⟩:∃m:Nat,L2.Bf [PV.int 9,.int 16] (if alike (PV.int r) (.int 0)=true then 1 else 0)=some (.int m)/\(m=9∨m=16):=by
  split
  .exact⟨16,rfl,.inr rfl⟩
  .exact⟨9,rfl,.inl rfl⟩
 refine⟨_,_,rfl,em,?_⟩;show Ws [.raw (D7 K sc),.AD,.is (.int m),.any,.any,.any,.any,.any,.any,.any,.any] _ _ _;refine Aw (WV (ZF3 rfl (BR (AL rfl (Bc ⟨_,⟨m,rfl,by omega,by omega,rfl⟩,?_⟩)))));rintro _⟨ns,a2,J,e,g,rfl⟩;show Ws [.raw (D7 K sc),.AD,.is (.int m),.ow false (B7 (y0 ns) a2 e g),.any,.any,.any,.any,.any,.any,.any] _ _ _;refine Aw (WV (zY (Jm (Dq (K2 (i:=3) rfl ⟨_,rfl,Mi λx dx=>⟨_,⟨x,dx,ns,rfl,⟨by have:=J.len;omega,J.nm,J.nd⟩,rfl⟩,?_⟩⟩)))));rintro _ t2⟨rfl,aK,aP,rfl⟩;refine⟨rfl,_,_,rfl,?_⟩;show Ws [.raw (D7 K sc),.AD,.is (.int m),.ow false (B7 (y0 ns) a2 e g),.ow false (B5 (y0 ns) A3 x dx aK aP),.any,.any,.any,.any,.any,.any] _ _ _;refine Aw (FT (G1 (λ_ i AH=>iw (.raw (D7 K sc)) m A3 x a2 i AH) ?_))
 walk_at "ww"
 refine⟨by decide,by decide,λr2 σ Y=>?_⟩
 walk_at "ww"
 obtain⟨N,eN,hN⟩:∃N:Nat,(12:Int) * (if alike (PV.int r2) (.int 0)=true then 1 else 0)=(N:Int)/\N<=12:=by
  split
  .exact⟨12,rfl,Am _⟩
  .exact⟨0,rfl,CF _⟩
 refine⟨?_,_,rfl,?_⟩
 .split
  .exact⟨by decide +kernel,by decide +kernel⟩
  .exact⟨by decide +kernel,by decide +kernel⟩
 rw[eN,Hr];refine⟨by omega,by omega,⟨y0 ns,dx,aK,aP,e,g,_,_,qe J (by omega),rfl,rfl,Am _⟩,?_,?_⟩
 .rintro i p AH hp⟨s,dx,aK,aP,e,g,u,v,ok,o,C2,B⟩;obtain⟨hi,rfl⟩:=NL hp;refine He ?_;have l1:=ok.l1;have lf:=ok.HB;have l:=ok.row.len;have h4:=ok.m4;show Ws [.raw (D7 K sc),.AD,.is (.int m),.ow false (B7 s a2 e g),.ow false (B5 s A3 x dx aK aP),.is (.int i),v,.any,.any,.any,.any] _ _ _;refine Aw (Fp (U2 rfl (BS (DT (di (Hz (i:=3) rfl ⟨s.ln,e,_,rfl,by omega,λBC M st=>⟨_,.inl ⟨rfl,rfl,BC,rfl,λx hx=>ok.nm x (M.mem_iff.mp hx),by have:=M.length_eq;omega,λy V ny=>?_⟩⟩⟩))))));have G5:y∉s.ln:=λz=>ny (M.mem_iff.mpr z);show Ws [.raw (D7 K sc),.AD,.is (.int m),.ow false (B7 s a2 e g),.ow false (B5 s A3 x dx aK aP),.is (.int i),.is (.str y),.any,.any,.any,.any] _ _ _;refine Aw (yI (Pm (i:=4) rfl (by decide +kernel) (Jm (AL rfl (Jm (Eg (Mi ⟨_,⟨m,s,x,_,y, "all", rfl,⟨dx,aK,aP,rfl⟩,ok,G5,V,by decide,by omega,rfl⟩,?_⟩)))))));rintro _ t2⟨rfl,Gp,Cu,DG,rfl⟩;refine⟨_,_,rfl,?_⟩;refine Ka (i:=3) (t:=B7 s a2 e g) (FD (wp_call (GN (BS (Dq (K2 rfl ⟨_,rfl,_,.inl ⟨rfl,BR (Eg (Bc ⟨_,⟨s.row, "all", rfl,by omega,rfl⟩,?_⟩))⟩⟩))))));rintro _⟨ts,IL,FJ,rfl⟩;rw[KP ok.row.nd IL FJ];refine Hz rfl ⟨false,e,Au s.ln,_,rfl,rfl,by unfold BY;rw[AS];omega,Ii ok.n1,B2,AL rfl ⟨.inr y,rfl,?_⟩⟩;rw[Td G5,Z7 G5];unfold B7;rw[show([]++[1]:List Nat)=[1]from rfl,Ov];have I:BY s.ll++[.fz (Ca "all" 0 (CB s.row))]=BY (s.ll++[⟨"all", 0,CB s.row⟩]):=by unfold BY;rw[CD];rfl
  rw[I];exact⟨s.Kd y "all", Gp,Cu,DG,e,g,_,_,ok.Kd G5 V (by decide) (by omega),o,C2,by show(s.ln++[y]).length<=i+1;rw[BE];exact ZJ9 B⟩
 .rintro AH⟨s,dx,aK,aP,e,g,u,v,ok,o,C2,B⟩;refine Aw (FT (G1 (λ_ i AH=>fX (.raw (D7 K sc)) m A3 x a2 i AH) ?_))
  walk_at "ww"
  obtain⟨n,en,hn⟩:=qR (b:=8) (c:=24) (n:=sc.length) (by decide) (by decide) (by omega);rw[en,Hr];refine⟨by omega,by omega,⟨s,[],dx,aK,aP,e,g,_,_,_,_,_,_,_,ok,o,C2,ZEh _,Am _⟩,?_,?_⟩
  .clear o B ok C2;rintro i p AH hp⟨s,ps,dx,aK,aP,e,g,s1,u,v,X,D,C,FX,ok,o,C2,ch,B⟩;obtain⟨hi,rfl⟩:=NL hp;refine He ?_;have ZJw:i<24:=by omega
   show Ws [.raw (D7 K sc),s1,.is (.int m),.ow false (B7 s a2 e g),.ow false (B5 s A3 x dx aK aP),u,v,.is (.int i),D,C,FX] _ _ _;refine Aw (YX rfl (AL rfl ⟨_,rfl,by omega,by omega,?_⟩));show Ws [.raw (D7 K sc),.AD,.is (.int m),.ow false (B7 s a2 e g),.ow false (B5 s A3 x dx aK aP),u,v,.is (.int i),D,C,FX] _ _ _;refine Ss (λAH=>ah (.raw (D7 K sc)) m A3 x a2 v (.is (.int i)) D C FX (3 * (i+1)) AH) ?_ ?_
   .refine FT (G1 (λ_ j AH=>ah (.raw (D7 K sc)) m A3 x a2 v (.is (.int i)) D C FX (3 * i+j) AH) ?_)
    walk_at "ww"
    refine⟨by decide,by decide,λr R r1=>?_⟩;obtain⟨r,rfl⟩:=Fm R;refine⟨_,rfl,_,rfl,by omega,by omega,⟨s,ps,dx,aK,aP,e,g,u,ok,o,C2,ch,B⟩,?_,?_⟩
    .clear o B ok ch C2;rintro j p AH Q8⟨s,ps,dx,aK,aP,e,g,u,ok,o,C2,ch,B⟩;obtain⟨hj,rfl⟩:=NL Q8;have Bh:s.pa.length=ps.length:=by rw[C2,Gf]
     refine He ?_;show Ws [.raw (D7 K sc),.AD,.is (.int m),.ow false (B7 s a2 e g),.ow false (B5 s A3 x dx aK aP),.is (.int j),v,.is (.int i),D,C,FX] _ _ _;refine kM (lq (nc (Xz (i:=4) (j:=3) (q:=1) (by decide) rfl rfl (λ_=>rfl) (zL rfl (Z9 rfl (.inl ⟨_,_,_,rfl⟩) (Ui rfl (.inl ⟨_,_,_,rfl⟩) (cM (AL rfl (Wj ⟨_,⟨m,s,x,a2,_,_,rfl,by omega,⟨dx,aK,aP,rfl⟩,⟨e,g,rfl⟩,ok,by omega,rfl⟩,?_⟩)))))))));rintro _ L u2⟨rfl,s',W,RG,NA,ZAl,⟨Gp,Cu,DG,rfl⟩,⟨S,U,rfl⟩⟩;refine⟨rfl,rfl,true,rfl,DQ (CM ?_)⟩;rcases ZAl with⟨I,O⟩|⟨d,hd,I,O⟩
     .exact⟨s',ps,Gp,Cu,DG,S,U,_,W,NA.trans o,I.trans C2,by rw[O];exact ch,by omega⟩
     .exact⟨s',ps++[(s.row,d)],Gp,Cu,DG,S,U,_,W,NA.trans o,by rw[I,C2];unfold GS;rw[CD];rfl,by rw[O];exact ch.snoc ⟨C7 ok.row.len ok.m4,ok.row.nm,ok.row.nd⟩ hd,by rw[BE,QL];omega⟩
    .rintro AH⟨s,ps,dx,aK,aP,e,g,u,ok,o,C2,ch,B⟩;rw[Le]at B;exact⟨s,ps,dx,aK,aP,e,g,u,ok,o,C2,ch,by omega⟩
   .clear o B ok ch C2;rintro _⟨s,ps,dx,aK,aP,e,g,u,ok,o,C2,ch,B⟩;have Bh:s.pa.length=ps.length:=by rw[C2,Gf]
    refine Aw (R0 (ZFJ 3 rfl ?_));rw[NR];show Wp [.raw (D7 K sc),.AD,.is (.int m),.is (Cq s),.ow false (B5 s A3 x dx aK aP),u,v,.is (.int i),D,C,FX] _ _;refine jJ rfl (BR (AL rfl (Bc ⟨_,⟨m,s,ps,rfl,ok,C2,o,ch,by omega,rfl⟩,?_⟩)));rintro _⟨n,G,lo,rfl,T⟩;refine⟨ZIX _ _ _ _,Lq ⟨_,_,rfl,?_⟩⟩;show Ws [.raw (D7 K sc),.AD,.is (.int m),.ow false (B7 s a2 e g),.ow false (B5 s A3 x dx aK aP),u,v,.is (.int i),.is (Cb n G (rowAt ps s.row n) lo),.is lo.P,FX] _ _ _
    walk_at "ww"
    refine⟨by decide,_,.inr ⟨rfl,rfl,?_⟩⟩
    walk_at "ww"
    refine⟨by decide,by decide,λq q0 q1=>?_⟩
    walk_at "ww"
    obtain⟨b,eb,hb⟩:∃b:Nat,L2.Bf [PV.int 4,.int 61] (if alike (PV.int q) (.int 0)=true then 1 else 0)=some (.int b)/\(b=4∨b=61):=by
     split
     .exact⟨61,rfl,.inr rfl⟩
     .exact⟨4,rfl,.inl rfl⟩
    refine⟨_,_,rfl,eb,_,rfl,by omega,by omega,λc c0 c1=>?_⟩;obtain⟨c,rfl⟩:=Fm c0;show Ws [.raw (D7 K sc),.AD,.is (.int m),.ow false (B7 s a2 e g),.ow false (B5 s A3 x dx aK aP),u,v,.is (.int i),.is (Cb n G (rowAt ps s.row n) lo),.is lo.P,.is (.int c)] _ _ _;refine kM (ZAS (t1:=B5 s A3 x dx aK aP) (t2:=B7 s a2 e g) (new:=λL u2=>([.raw (D7 K sc),.AD,.is (.int m),.ow false (B7 s a2 e g),.ow false (B5 s A3 x dx aK aP),u,v,.is (.int i),.is (Cb n G (rowAt ps s.row n) lo),.is lo.P,.is (.int c)].set 4 (.ow false L)).set 3 (.ow false u2)) rfl (Dz (Rn 3 rfl (Rn 4 rfl ?_))));rw[NR,Km];show Wt [.raw (D7 K sc),.AD,.is (.int m),.is (Cq s),.is (Bv s A3),u,v,.is (.int i),.is (Cb n G (rowAt ps s.row n) lo),.is lo.P,.is (.int c)] _ _;refine Dg (wp_call (BR (AL rfl (BR (AL rfl (BR (AL rfl (BR (AL rfl (BR (AL rfl (Bc ⟨_,⟨m,s,ps,n,G,lo,c,rfl,T,by omega,rfl⟩,?_⟩))))))))))));rintro _ rfl;refine⟨true,rfl,DQ ?_⟩;refine lq (nc (Xz (i:=4) (j:=3) (q:=0) (b:=false) (by decide) rfl rfl (λz=>by cases z) (Z9 rfl (.inl ⟨_,_,_,rfl⟩) (Ui rfl (.inl ⟨_,_,_,rfl⟩) (Wj ⟨_,⟨m,s,x,a2,_,_,rfl,⟨dx,aK,aP,rfl⟩,⟨e,g,rfl⟩,ok,o,by omega,rfl⟩,?_⟩)))));rintro _ L u2⟨rfl,rfl,rfl⟩;exact⟨rfl,rfl,true,rfl,DQ (CM ⟨s,ps,dx,aK,aP,e,g,_,_,_,_,_,_,_,ok,o,C2,ch,B⟩)⟩
  .rintro AH⟨s,ps,dx,aK,aP,e,g,s1,u,v,X,D,C,FX,ok,o,C2,ch,B⟩
   walk_at "ww"
   rfl
def all_mk{h:Heap}{fa f1 f2 f3 f4 f5 f6 f7 f8 f9 lR mP fV j5 cn fk iu Ti R4 mO lh cJ dv gP dY k9 eL mF Xm TQ kE gM il jo j9 fT fR lz iV ia fb cL iN d6 R8 fJ bZ gQ c5 iA m6 jC kG S7 RB TV eT eK nJ SO o7 lL lI T2 RK mG gH gX fm k6 gE dQ nR UK U0 eS o9 oC:Addr}{g1 g2 g3 g4 g5 g6 g7 g8 g9 g10 g11 g12 qO g14 y3 g16 zk y4 g19 sJ g21 g22 g23 g24 yc xO g27 zi g29 g30 xP g32 wz qd g35 vU ze g38 g39 g40 pF vc g43 g44 g45 g46 uY g48 g49 ub wI g52 vk zc g55 g56 g57 qz rK g60 yC g62 g63 vz pM g66 g67 g68 qD yP zm g72 g73 g74 wb rM g77:FuncData}(X:K.In h)(G:h.Ns mainGlobals mg)(hfa:mg "law"=some (.ref fa))
  
  (ZEz:PySem.W.nsIn K mainGlobals "Yard"=some (some (.ref A3)))
  (ZHY:PySem.W.plainGet K A3 Str.empty=true)
  (we:PySem.W.hasDictIn K A3=true)
  (sy:PySem.W.plainOver K A3=true)
  (yL:PySem.W.findIn K (.ref A3) "__setattr__"=some (some (.builtin "object.__setattr__")))
  (vb:PySem.W.makesIn K A3=true)
  (qr:PySem.W.keepIn K (.ref A3)=true)
  (FW:PySem.W.findIn K (.ref A3) "forgotten"=some none)
  (Cn:PySem.W.findIn K (.ref A3) "kept"=some none)
  (Fj:PySem.W.findIn K (.ref A3) "past"=some none)
  (Cf:PySem.W.findIn K (.ref A3) "standing"=some none)
  (a1:nS K "is_name" (.ref f1)) (F1:AF K "is_name" "is_name" U3 f1 g1)
  (a2:nS K "check_new_row" (.ref f2)) (F2:AF K "check_new_row" "check_new_row" WH f2 g2)
  (a3:PySem.W.findIn K (.ref A3) "__init__"=some (some (.ref f3))) (F3:AF K "__init__" "Yard.__init__" Za f3 g3)
  (fn3:PySem.W.isFn K (.ref f3)=true)
  (a4:nS K "check_rule" (.ref f4)) (F4:AF K "check_rule" "check_rule" Vx f4 g4)
  (a5:nS K "begun" (.ref f5)) (F5:AF K "begun" "begun" YE f5 g5)
  (a6:PySem.W.findIn K (.ref A3) "begin"=some (some (.ref f6))) (F6:AF K "begin" "Yard.begin" XT f6 g6)
  (tG:PySem.W.isFn K (.ref f6)=true)
  (a7:nS K "_law_pot" (.ref f7)) (F7:AF K "_law_pot" "_law_pot" aG f7 g7)
  (a8:nS K "_law_take" (.ref f8)) (F8:AF K "_law_take" "_law_take" av f8 g8)
  (a9:nS K "_law_letters" (.ref f9)) (F9:AF K "_law_letters" "_law_letters" XU f9 g9)
  (yt:nS K "_law_name" (.ref lR)) (F10:AF K "_law_name" "_law_name" Ys lR g10)
  (a11:nS K "_law_names" (.ref mP)) (F11:AF K "_law_names" "_law_names" WK mP g11)
  (a12:nS K "_law_row" (.ref fV)) (wC:AF K "_law_row" "_law_row" Wf fV g12)
  (a13:nS K "_law_new" (.ref j5)) (qX:AF K "_law_new" "_law_new" Yn j5 qO)
  (a14:nS K "_law_begun" (.ref cn)) (qG:AF K "_law_begun" "_law_begun" WC cn g14)
  (tN:nS K "_law_some_loop" (.ref fk)) (F15:AF K "_law_some_loop" "_law_some_loop" VY fk y3)
  (a16:nS K "_law_some_ticket" (.ref iu)) (F16:AF K "_law_some_ticket" "_law_some_ticket" Q2 iu g16)
  (rQ:PySem.W.findIn K (.ref A3) "loop"=some (some (.ref Ti))) (jL:AF K "loop" "Yard.loop" W4 Ti zk)
  (yA:PySem.W.isFn K (.ref Ti)=true)
  (a18:PySem.W.findIn K (.ref A3) "drop"=some (some (.ref R4))) (fu:AF K "drop" "Yard.drop" VE R4 y4)
  (tS:PySem.W.isFn K (.ref R4)=true)
  (pe:nS K "is_gap" (.ref mO)) (F19:AF K "is_gap" "is_gap" aC mO g19)
  (a20:nS K "is_coming" (.ref lh)) (vd:AF K "is_coming" "is_coming" Su lh sJ)
  (xb:nS K "is_loop" (.ref cJ)) (F21:AF K "is_loop" "is_loop" Vu cJ g21)
  (uR:nS K "check_loop" (.ref dv)) (F22:AF K "check_loop" "check_loop" Uj dv g22)
  (a23:nS K "things_to_come" (.ref gP)) (sV:AF K "things_to_come" "things_to_come" RN gP g23)
  (a24:nS K "rest" (.ref dY)) (xC:AF K "rest" "rest" Wu dY g24)
  (a25:nS K "coming_without" (.ref k9)) (F25:AF K "coming_without" "coming_without" TJ k9 yc)
  (a26:nS K "place_of" (.ref eL)) (uZ:AF K "place_of" "place_of" ay eL xO)
  (a27:nS K "loop_telling" (.ref mF)) (F27:AF K "loop_telling" "loop_telling" YM mF g27)
  (mI:nS K "step" (.ref Xm)) (F28:AF K "step" "step" V1 Xm zi)
  (xy:nS K "step_loops" (.ref Xm))
  (zb:PySem.W.findIn K (.ref A3) "step"=some (some (.ref TQ))) (kS:AF K "step" "Yard.step" W0 TQ g29)
  (tK:PySem.W.isFn K (.ref TQ)=true)
  (a30:nS K "check_put" (.ref kE)) (F30:AF K "check_put" "check_put" W7 kE g30)
  (zg:nS K "check_move" (.ref gM)) (yr:AF K "check_move" "check_move" ZL gM xP)
  (uK:nS K "check_turn" (.ref il)) (F32:AF K "check_turn" "check_turn" Z6 il g32)
  (a33:nS K "check_deed" (.ref jo)) (wN:AF K "check_deed" "check_deed" WE jo wz)
  (rq:nS K "row_turned" (.ref j9)) (vR:AF K "row_turned" "row_turned" Xh j9 qd)
  (sW:nS K "row_with" (.ref fT)) (yy:AF K "row_with" "row_with" Yl fT g35)
  (tX:nS K "row_without" (.ref fR)) (qP:AF K "row_without" "row_without" R1 fR vU)
  (rJ:nS K "done" (.ref lz)) (yd:AF K "done" "done" aw lz ze)
  (a38:nS K "gap_behind_put" (.ref iV)) (F38:AF K "gap_behind_put" "gap_behind_put" V2 iV g38)
  (sM:nS K "gap_behind_take" (.ref ia)) (pL:AF K "gap_behind_take" "gap_behind_take" aX ia g39)
  (a40:nS K "gap_led" (.ref fb)) (F40:AF K "gap_led" "gap_led" WG fb g40)
  (yu:nS K "joins" (.ref cL)) (F41:AF K "joins" "joins" Ul cL pF)
  (yj:nS K "coming_behind" (.ref iN)) (si:AF K "coming_behind" "coming_behind" W8 iN vc)
  (zv:nS K "loop_led" (.ref d6)) (F43:AF K "loop_led" "loop_led" aI d6 g43)
  (a44:PySem.W.findIn K (.ref A3) "act"=some (some (.ref R8))) (kB:AF K "act" "Yard.act" Uo R8 g44)
  (sf:PySem.W.isFn K (.ref R8)=true)
  (rZ:nS K "_law_done" (.ref fJ)) (xk:AF K "_law_done" "_law_done" SS fJ g45)
  (a46:nS K "_law_gap" (.ref bZ)) (wD:AF K "_law_gap" "_law_gap" Yr bZ g46)
  (xE:nS K "_law_led" (.ref gQ)) (F47:AF K "_law_led" "_law_led" RC gQ uY)
  (a48:nS K "_law_acts" (.ref c5)) (ph:AF K "_law_acts" "_law_acts" ZD c5 g48)
  (zG:nS K "_law_rule" (.ref iA)) (ve:AF K "_law_rule" "_law_rule" VA iA g49)
  (a50:nS K "_law_step" (.ref m6)) (F50:AF K "_law_step" "_law_step" P4 m6 ub)
  (uN:nS K "_law_deed" (.ref jC)) (F51:AF K "_law_deed" "_law_deed" Zi jC wI)
  (qJ:nS K "_law_turn" (.ref kG)) (F52:AF K "_law_turn" "_law_turn" Zx kG g52)
  (qf:PySem.W.findIn K (.ref A3) "count"=some (some (.ref S7))) (gZ:AF K "count" "Yard.count" az S7 vk)
  (rh:PySem.W.isFn K (.ref S7)=true)
  (a54:PySem.W.findIn K (.ref A3) "check_time"=some (some (.ref RB))) (cz:AF K "check_time" "Yard.check_time" Y3 RB zc)
  (ym:PySem.W.isFn K (.ref RB)=true)
  (vZ:PySem.W.findIn K (.ref A3) "row_at"=some (some (.ref TV))) (gC:AF K "row_at" "Yard.row_at" XY TV g55)
  (ZAs:PySem.W.isFn K (.ref TV)=true)
  (yU:nS K "is_slip" (.ref eT)) (xB:AF K "is_slip" "is_slip" aO eT g56)
  (a57:nS K "shown" (.ref eK)) (zo:AF K "shown" "shown" Py eK g57)
  (pR:nS K "loop_at" (.ref nJ)) (qM:AF K "loop_at" "loop_at" Xo nJ qz)
  (rB:PySem.W.findIn K (.ref A3) "led_on"=some (some (.ref SO))) (kL:AF K "led_on" "Yard.led_on" X8 SO rK)
  (yl:PySem.W.isFn K (.ref SO)=true)
  (a60:nS K "check_coming" (.ref o7)) (wt:AF K "check_coming" "check_coming" Xb o7 g60)
  (a61:nS K "marks_at" (.ref lL)) (F61:AF K "marks_at" "marks_at" Pk lL yC)
  (wU:nS K "least_slip" (.ref lI)) (F62:AF K "least_slip" "least_slip" Xu lI g62)
  (a63:PySem.W.findIn K (.ref A3) "ticket_now"=some (some (.ref T2))) (gx:AF K "ticket_now" "Yard.ticket_now" Xi T2 g63)
  (x5:PySem.W.isFn K (.ref T2)=true)
  (a64:PySem.W.findIn K (.ref A3) "page"=some (some (.ref RK))) (jb:AF K "page" "Yard.page" Vh RK vz)
  (yx:PySem.W.isFn K (.ref RK)=true)
  (vi:nS K "_law_steps" (.ref mG)) (wO:AF K "_law_steps" "_law_steps" Yx mG pM)
  (a66:nS K "_law_led_on" (.ref gH)) (F66:AF K "_law_led_on" "_law_led_on" YR gH g66)
  (zO:nS K "_law_shown" (.ref gX)) (F67:AF K "_law_shown" "_law_shown" UD gX g67)
  (a68:nS K "_law_least" (.ref fm)) (F68:AF K "_law_least" "_law_least" S6 fm g68)
  (a69:nS K "_law_whole" (.ref k6)) (F69:AF K "_law_whole" "_law_whole" WM k6 qD)
  (zx:nS K "_law_is_ticket" (.ref gE)) (F70:AF K "_law_is_ticket" "_law_is_ticket" Oa gE yP)
  (a71:nS K "_law_texts" (.ref dQ)) (zK:AF K "_law_texts" "_law_texts" UE dQ zm)
  (a72:nS K "_law_paged" (.ref nR)) (F72:AF K "_law_paged" "_law_paged" W5 nR g72)
  (a73:PySem.W.findIn K (.ref A3) "row"=some (some (.ref UK))) (i8:AF K "row" "Yard.row" WY UK g73)
  (ZFX:PySem.W.isFn K (.ref UK)=true)
  (a74:PySem.W.findIn K (.ref A3) "loops"=some (some (.ref U0))) (iQ:AF K "loops" "Yard.loops" V3 U0 g74)
  (ZDm:PySem.W.isFn K (.ref U0)=true)
  (a75:nS K "_law_is_loop" (.ref eS)) (F75:AF K "_law_is_loop" "_law_is_loop" ZW eS wb)
  (a76:nS K "_law_stands" (.ref o9)) (rG:AF K "_law_stands" "_law_stands" T4 o9 rM)
  (gu:nS K "law" (.ref oC)) (gG:AF K "law" "law" NW oC g77)
  (ZE8:nN K "all")
  (ZFH:nN K "bool")
  (ZBc:nN K "enumerate")
  (ZCL:nN K "int")
  (ZAm:nN K "isinstance")
  (ZIb:nN K "len")
  (ZHr:nN K "list")
  (tq:nN K "max")
  (wc:nN K "min")
  (ZBo:nN K "range")
  (xj:nN K "reversed")
  (ZGd:nN K "set")
  (ZAu:nN K "sorted")
  (wY:nN K "str")
  (qC:nN K "tuple")
  (zM:nS K "LETTERS" (.str "abcdefghijklmnopqrstuvwxyz" aE))
  (tT:nS K "MOST_LETTERS" (.int 8 YY))
  (ur:nS K "MOST_LOOPS" (.int 12 XB))
  (vO:nS K "MOST_THINGS" (.int 40 O9))
  (ZI5:nS K "RULES" (.ref EO))
  {rl:Option Addr}{rf:Array (Option Value)}{ZA8:Nat}{y8 ZEf yg:Tok}(tP:K.lookup EO=some ⟨.type "tuple", rl,.seq #[.str "none" y8,.str "ahead" ZEf,.str "all" yg] ZA8,rf⟩)
  : ∃fd:FuncData,(∀(s:Shared)(v:Value),BindsTo s fd ⟨[v],[]⟩ [("script", v)])/\∀Zy:Heap,K.In Zy->Zy.Ns mainGlobals mg->Dm l.prog w K mg Zy GH 13 fa fd ["script"] (Ob K):=by
 have e:=hfa.symm.trans (Ax X G gu);cases e;have Ao:C3 K A3:=⟨ZHY,we,sy,yL⟩;have mt3:Mk K A3 f3:=⟨vb,a3,fn3,qr⟩;have mt6:Meth K A3 "begin" f6:=⟨a6,tG,F6.kp⟩;have yW:Meth K A3 "loop" Ti:=⟨rQ,yA,jL.kp⟩;have yH:Meth K A3 "drop" R4:=⟨a18,tS,fu.kp⟩;have ZBA:Meth K A3 "step" TQ:=⟨zb,tK,kS.kp⟩;have ZFG:Meth K A3 "act" R8:=⟨a44,sf,kB.kp⟩;have sY:Meth K A3 "count" S7:=⟨qf,rh,gZ.kp⟩;have xI:Meth K A3 "check_time" RB:=⟨a54,ym,cz.kp⟩;have zE:Meth K A3 "row_at" TV:=⟨vZ,ZAs,gC.kp⟩;have vf:Meth K A3 "led_on" SO:=⟨rB,yl,kL.kp⟩;have qK:Meth K A3 "ticket_now" T2:=⟨a63,x5,gx.kp⟩;have ZBX:Meth K A3 "page" RK:=⟨a64,yx,jb.kp⟩;have ZF9:Meth K A3 "row" UK:=⟨a73,ZFX,i8.kp⟩;have wG:Meth K A3 "loops" U0:=⟨a74,ZDm,iQ.kp⟩;have Ez:=GB X G ZE8;have ZN:=GB X G ZFH;have NF:=GB X G ZBc;have Gs:=GB X G ZCL;have Dl:=GB X G ZAm;have Af:=GB X G ZIb;have Bx:=GB X G ZHr;have YO:=GB X G tq;have MJ:=GB X G wc;have D9:=GB X G ZBo;have Mt:=GB X G xj;have NN:=GB X G ZGd;have BK:=GB X G ZAu;have Mx:=GB X G wY;have BQ:=GB X G qC;have V5:=Ax X G zM;have Vb:=Ax X G tT;have Vl:=Ax X G ur;have MQ:=Ax X G vO;have J9:=Ax X G ZI5;have JE:∀H,AE K H EO [.str "none",.str "ahead",.str "all"]:=λH=>.inr ⟨_,_,_,tP,rfl,rfl,(by show 3<=sizeLine;decide +kernel),(.cons ⟨_,rfl⟩ (.cons ⟨_,rfl⟩ (.cons ⟨_,rfl⟩ .nil)))⟩;have Zo:=Ax X G ZEz;obtain⟨_,_,kV,dc,pm,an,cd,ct,_,rfl,_,_⟩:=id gG.ex;refine⟨PySem.W.fnOf "law" "law" (PD NW) (Ls NW) (AR NW) .none kV dc pm an cd ct,λs v=>.of_eq rfl,λZy _ _=>?_⟩;have JM:=ZB4 (P:=l.prog) (w:=w) (Zy:=Zy) Ez Af V5 Vb F1 (Ax X G a1);have aZ:=ZHk Af JM NF MQ F2 (Ax X G a2);have aa:=pJ (P:=l.prog) (w:=w) (mg:=mg) (Zy:=Zy) (A3:=A3) aZ Bx Ao FW Cn Fj Cf F3 mt3;have N7:=ZER (P:=l.prog) (w:=w) (Zy:=Zy) J9 JE F4 (Ax X G a4);have Wr:=ZHp N7 BK BQ F5 (Ax X G a5);have MH:=yF (P:=l.prog) (w:=w) (mg:=mg) (Zy:=Zy) (A3:=A3) Af JM Ao Cn Cf N7 Wr Vl F6 mt6;have Tg:=ZFo (P:=l.prog) (w:=w) (Zy:=Zy) Af F7 (Ax X G a7);have BG:=ZHq (P:=l.prog) (w:=w) (Zy:=Zy) F8 (Ax X G a8);have P6:=xx (P:=l.prog) (w:=w) (Zy:=Zy) F9 (Ax X G a9);have Gw:=ZCr Af P6 BG F10 (Ax X G yt);have VD:=pT Gw D9 F11 (Ax X G a11);have X3:=ZGV BG VD wC (Ax X G a12);have Xs:=yn X3 qX (Ax X G a13);have JJ:=ZCW (P:=l.prog) (w:=w) (Zy:=Zy) BK BQ qG (Ax X G a14);have V8:=ZEV Af BK BQ BG F15 (Ax X G tN);have Z5:=ZGh Af BK BQ BG D9 JJ V8 F16 (Ax X G a16);have JI:=ZBI (P:=l.prog) (w:=w) (mg:=mg) (Zy:=Zy) (A3:=A3) Ao Cn jL yW;have YK:=ZEY (P:=l.prog) (w:=w) (mg:=mg) (Zy:=Zy) (A3:=A3) Ao Cn JI fu yH;have JF:=ZI2 (P:=l.prog) (w:=w) (Zy:=Zy) Af F19 (Ax X G pe);have N9:=qu (P:=l.prog) (w:=w) (Zy:=Zy) Ez Bx BK NN vd (Ax X G a20);have XD:=ZAR J9 JE N9 JF F21 (Ax X G xb)
 have Zl:=yk XD F22 (Ax X G uR);have TY:=tw (P:=l.prog) (w:=w) (Zy:=Zy) sV (Ax X G a23);have ZO:=ZF0 Zl TY xC (Ax X G a24);have MN:=ZGi (P:=l.prog) (w:=w) (Zy:=Zy) BQ F25 (Ax X G a25);have FH:=sT (P:=l.prog) (w:=w) (Zy:=Zy) uZ (Ax X G a26);have VB:=ZH5 MN FH F27 (Ax X G a27);have vJ:=pD VB ZO F28 (Ax X G mI);have N1:=A8.alias vJ (Ax X G mI) (Ax X G xy);have Us:=ZFx (P:=l.prog) (w:=w) (mg:=mg) (Zy:=Zy) (A3:=A3) Ao Cn Cf JI N1 kS ZBA;have Xf:=zu Af JM MQ F30 (Ax X G a30);have VJ:=zV Af FH yr (Ax X G zg);have VQ:=ZBT (P:=l.prog) (w:=w) (Zy:=Zy) Af F32 (Ax X G uK);have ai:=yq FH VJ Xf VQ wN (Ax X G a33);have YD:=ZGC (P:=l.prog) (w:=w) (Zy:=Zy) Bx Mt vR (Ax X G rq);have Qm:=sA (P:=l.prog) (w:=w) (Zy:=Zy) Bx yy (Ax X G sW);have Sw:=ZDN (P:=l.prog) (w:=w) (Zy:=Zy) qP (Ax X G tX);have Zm:=uA ai YD Qm Sw yd (Ax X G rJ);have R6:=ZGg (P:=l.prog) (w:=w) (Zy:=Zy) F38 (Ax X G a38);have RD:=ZFZ (P:=l.prog) (w:=w) (Zy:=Zy) pL (Ax X G sM);have aQ:=yB FH R6 RD F40 (Ax X G a40);have VW:=sD (P:=l.prog) (w:=w) (Zy:=Zy) F41 (Ax X G yu);have V0:=uq BK BQ MN VW si (Ax X G yj);have M9:=vw V0 aQ F43 (Ax X G zv);have Vd:=xM (P:=l.prog) (w:=w) (mg:=mg) (Zy:=Zy) (A3:=A3) Bx Ao Cn Fj Cf Zm M9 kB ZFG;have XC:=ra (P:=l.prog) (w:=w) (Zy:=Zy) Bx Mt xk (Ax X G rZ);have b4:=ZFy (P:=l.prog) (w:=w) (Zy:=Zy) Gs wD (Ax X G a46);have MV:=ZI4 BK BQ b4 F47 (Ax X G xE);have Xa:=ZCR (A3:=A3) Bx Vd XC MV ph (Ax X G a48);have X5:=ZHH BG ve (Ax X G zG);have Mc:=wm (P:=l.prog) (w:=w) (Zy:=Zy) BQ F50 (Ax X G a50);have XR:=ZCf Af BG Gw F51 (Ax X G uN);have ar:=qZ (A3:=A3) Af BK BG Gw JJ MH YK Us Xa XR X5 Mc F52 (Ax X G qJ);have GY:=ZH7 (P:=l.prog) (w:=w) (mg:=mg) (Zy:=Zy) (A3:=A3) Af Ao FW Fj gZ sY;have aD:=uJ (P:=l.prog) (w:=w) (mg:=mg) (Zy:=Zy) (A3:=A3) Ao FW J9 JE GY cz xI;have ak:=ZDk (P:=l.prog) (w:=w) (mg:=mg) (Zy:=Zy) (A3:=A3) Ao FW Fj Cf GY gC zE;have Vq:=ZDY N9 JF xB (Ax X G yU);have Xk:=uo (P:=l.prog) (w:=w) (Zy:=Zy) zo (Ax X G a57);have Vs:=ZDD BK BQ JF Vq Xk qM (Ax X G pR);have Vr:=vx (P:=l.prog) (w:=w) (mg:=mg) (Zy:=Zy) (A3:=A3) Ao FW Fj M9 aD ak Vs kL vf;have Y2:=ZAX FH wt (Ax X G a60);have ao:=ZE6 (P:=l.prog) (w:=w) (Zy:=Zy) BK BQ F61 (Ax X G a61);have aL:=ZFf NF Y2 ao F62 (Ax X G wU);have XX:=rT (P:=l.prog) (w:=w) (mg:=mg) (Zy:=Zy) (A3:=A3) Ao Cf GY aL gx qK
 have Zq:=ZDX (P:=l.prog) (w:=w) (mg:=mg) (Zy:=Zy) (A3:=A3) Af Ao Cf N1 Vr XX jb ZBX;have Zd:=ZAd D9 Mc wO (Ax X G vi);have WA:=ZI7 MV F66 (Ax X G a66);have aJ:=xN (P:=l.prog) (w:=w) (Zy:=Zy) Af BK D9 F67 (Ax X G zO);have WJ:=yo (P:=l.prog) (w:=w) (Zy:=Zy) Af D9 MJ F68 (Ax X G a68);have JC:=x8 (P:=l.prog) (w:=w) (Zy:=Zy) Gs ZN Dl F69 (Ax X G a69);have VG:=sF Ez Af Bx BK BQ NN Dl WJ aJ JC F70 (Ax X G zx);have L3:=ZCj (P:=l.prog) (w:=w) (Zy:=Zy) Ez Bx Dl Mx zK (Ax X G a71);have Zw:=wq (A3:=A3) Af BQ D9 Dl Zq VG WA Zd L3 F72 (Ax X G a72);have Yo:=w8 (P:=l.prog) (w:=w) (mg:=mg) (Zy:=Zy) (A3:=A3) Bx Ao Cf i8 ZF9;have YT:=ZBk (P:=l.prog) (w:=w) (mg:=mg) (Zy:=Zy) (A3:=A3) Ao Cn BK iQ wG;have aR:=ZGn Af BQ Dl JC Mx F75 (Ax X G a75);have Xl:=uD (A3:=A3) Ez Af BK JI GY JC L3 YT Yo aR rG (Ax X G a76);exact ZAL (A3:=A3) Af BK BG Gw D9 JJ Gs MH MJ aa Xs Zw Tg Z5 Xl ar YO Zo gG (Ax X G gu)
def walk{q:Program}{loose:List Str}{XP:(ZKI)->Heap->Prop}{YP:World->Heap->Prop}{d:DefRec}{K:Params->ZKG}(hn:l.most=some 63)(Q6:d.params.defaults=[])
  (hY:∀(w:World)(h:Heap),YP w h->(K w.params).In h)
  (F:∀(w:World)(mg:ZKI)(fa:Addr)(h:Heap),(K w.params).In h->h.Ns mainGlobals mg->mg d.name=some (.ref fa)->
   ∃fd:FuncData,(∀(s:Shared)(u:Value),BindsTo s fd ⟨[u],[]⟩ [("script", u)])/\∀Zy:Heap,(K w.params).In Zy->Zy.Ns mainGlobals mg->Dm l.prog w (K w.params) mg Zy GH 13 fa fd ["script"] (Ob (K w.params))) :
  PySem.W.WalkO q loose XP YP l.row.toRowW d [] (λf vs=>PySem.call f vs):=
 L2.ZDG (n:=63) (k:=13) (x:="script") (CX:=λ_=>GH) (sp:=λw=>Ob (K w.params)) hn (by decide) Q6 ⟨rfl,by decide,by decide⟩ hY F (λ_ _ a ns hl _ hS=>⟨a,ns,rfl,hS,hl,λ_=>rfl⟩) λ_ _ _ _ _ z=>z
end Pf
open PySem.W
local macro_rules | `(tactic| walk_at "kF")=>`(tactic| (refine' L2.sR ?_ ?_ ?_;all_goals try k_is;all_goals k_is))
set_option maxRecDepth 100000 in
set_option maxHeartbeats 0 in
theorem PySem.Challenge.cw_stirround_k65_pages_holds : PySem.Challenge.rw_stirround_k65_pages.Holds := by
 w_on;o_law;k_head;(case hw=>w_witness2)
 k_fill
 refine Pf.walk (l:=PySem.Challenge.rw_stirround_k65_pages) rfl rfl (λw h Y=>PySem.W.kIn_of Y) ?F
 case F=>
  intro w mg fa h KX G O3;refine' Pf.all_mk KX G O3 ?_ ?_ ?_ ?_ ?_ ?_ ?_ ?_ ?_ ?_ ?_ ?_ ?_ ?_ ?_ ?_ ?_ ?_ ?_ ?_ ?_ ?_ ?_ ?_ ?_ ?_ ?_ ?_ ?_ ?_ ?_ ?_ ?_ ?_ ?_ ?_ ?_ ?_ ?_ ?_ ?_ ?_ ?_ ?_ ?_ ?_ ?_ ?_ ?_ ?_ ?_ ?_ ?_ ?_ ?_ ?_ ?_ ?_ ?_ ?_ ?_ ?_ ?_ ?_ ?_ ?_ ?_ ?_ ?_ ?_ ?_ ?_ ?_ ?_ ?_ ?_ ?_ ?_ ?_ ?_ ?_ ?_ ?_ ?_ ?_ ?_ ?_ ?_ ?_ ?_ ?_ ?_ ?_ ?_ ?_ ?_ ?_ ?_ ?_ ?_ ?_ ?_ ?_ ?_ ?_ ?_ ?_ ?_ ?_ ?_ ?_ ?_ ?_ ?_ ?_ ?_ ?_ ?_ ?_ ?_ ?_ ?_ ?_ ?_ ?_ ?_ ?_ ?_ ?_ ?_ ?_ ?_ ?_ ?_ ?_ ?_ ?_ ?_ ?_ ?_ ?_ ?_ ?_ ?_ ?_ ?_ ?_ ?_ ?_ ?_ ?_ ?_ ?_ ?_ ?_ ?_ ?_ ?_ ?_ ?_ ?_ ?_ ?_ ?_ ?_ ?_ ?_ ?_ ?_ ?_ ?_ ?_ ?_ ?_ ?_ ?_ ?_ ?_ ?_ ?_ ?_ ?_ ?_ ?_ ?_ ?_ ?_ ?_ ?_ ?_ ?_ ?_ ?_ ?_ ?_ ?_ ?_ ?_ ?_ ?_ ?_
  any_goals first|k_is|(show _=_;k_is)|kernel_rfl|walk_at "kF"
#print axioms PySem.Challenge.cw_stirround_k65_pages_holds
