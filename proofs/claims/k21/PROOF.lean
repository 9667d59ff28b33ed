import PyProof.Rows.All
import Wide.All
import OpenK.AllK
import PySem.Challenge.RW_stirround_k21_first_wrong_entries
set_option genSizeOf false
set_option linter.all false
set_option compiler.extract_closed false
set_option bootstrap.genMatcherCode false
noncomputable section
def oS:=@PySem.wpAny_bind
def oW:=@decide_eq_true
def qP:=@if_neg
def qh:=@PySem.wpAny_pure
def rE:=@of_decide_eq_true
def rG:=@if_pos
def rV:=@PyProof.Rows.wpS_bind
def sL:=@PyProof.Rows.wpS_pure
def sS:=@decide_eq_false
def tN:=@PySem.wpAny_mono
def tO:=@beq_self_eq_true
def tq:=@congrArg
def tu:=@PySem.wpAny_holding
def uB:=@PyProof.Rows.wpS_forRange
def uD:=@PySem.wpAny_truthy_bool
def uc:=@PySem.wpAny_Call_Name_kw
def vH:=@PySem.wpAny_newObj_type
def vS:=@PySem.wpAny_typeOf
def vd:=@PySem.wpAny_passesOwn
def vf:=@PyProof.Rows.wpS_mono
def vo:=@PySem.wpAny_updateSeq
def vx:=@PySem.wpAny_execs_nil
def wY:=@PySem.wpAny_loadPart_at
def xi:=@PyProof.Rows.wpS_modify
def yJ:=@PySem.wpAny_rule
def yR:=@PySem.wpAny_specialOf
def yY:=@PySem.tupleKind_room_in1
def ya:=@PySem.codeAny_mono
def yg:=@PySem.plainObj_wpAny_Assign_Attribute
def ze:=@PySem.builtinLookup_eq_fast
def zg:=@PySem.wpAny_call
def ZA6:=@PySem.wpAny_call_entry
def ZA8:=@PySem.wpAny_standAt
def ZA9:=@PySem.wpAny_field
def ZAI:=@PySem.codeAny_extend_loopS
def ZAJ:=@PySem.codeAny_call_builtin
def ZAM:=@PySem.wpAny_ite_split
def ZAO:=@PySem.codeAny_builtin
def ZAP:=@PyProof.Rows.wpS_get
def ZAQ:=@if_false
def ZAR:=@decide_eq_true_iff
def ZAW:=@PySem.wpAny_newList
def ZAX:=@PySem.plainId_quiet
def ZAi:=@PyProof.Rows.wpS_lift
def ZAn:=@or_false
def ZAo:=@PySem.wpAny_isInstance
def ZAv:=@PySem.noFill_tuple_add
def ZAw:=@PySem.typeLookup_type
def ZAz:=@PySem.sizeLine_eq
def ZB2:=@PySem.wpAny_setField
def ZB3:=@PySem.isSubtype_type
def ZB8:=@if_true
def ZBK:=@beq_iff_eq
def AL:=@List.length_map
def Az:=@Nat.le_refl
def B5:=@PySem.W.mg_of
def BA:=@PySem.Heap.lt_size
def BB:=@List.not_mem_nil
def BG:=@List.getElem?_eq_getElem
def BN:=@Ne.symm
def Bb:=@PySem.Heap.get?_push_of_some
def Bc:=@List.getElem?_map
def Bg:=@Nat.le_trans
def Bn:=@Nat.ne_of_lt
def Bo:=@Option.some.inj
def C4:=@List.append_assoc
def C8:=@List.map_cons
def C9:=@List.size_toArray
def CI:=@PySem.Heap.get?_push_size
def CJ:=@List.getElem?_set_ne
def CK:=@List.length_append
def Ca:=@List.length_cons
def Cm:=@List.getElem?_set_self
def Cn:=@Nat.zero_le
def Ct:=@List.nodup_append
def D4:=@Int.eq_ofNat_of_zero_le
def D5:=@List.mem_cons_self
def DO:=@List.length_take
def DP:=@List.mem_cons_of_mem
def De:=@Nat.lt_of_lt_of_le
def Dl:=@Bool.and_eq_true
def Dm:=@Bool.false_ne_true
def E4:=@List.map_append
def EI:=@List.mem_of_getElem?
def FX:=@PySem.Heap.get?_update_other
def FY:=@List.mem_append_right
def FZ:=@Nat.le_succ
def G0:=@List.append_nil
def Gd:=@PySem.Heap.size_push
def Ge:=@List.length_drop
def HW:=@List.getElem?_append_left
def HX:=@List.lookup_cons
def HY:=@List.mem_append_left
def HZ:=@List.mem_cons
def Hb:=@PySem.W.mg_none_of
def IK:=@Nat.lt_of_le_of_lt
def J6:=@PySem.Heap.get?_update_self
def J7:=@List.mem_append
def J8:=@PySem.W.kia_one
def Jj:=@Decidable.byContradiction
def Jk:=@List.getElem?_append_right
def Jl:=@List.length_set
def Jm:=@List.zip_cons_cons
def Jn:=@Nat.min_eq_left
def L6:=@List.all_eq_true
def L7:=@List.getElem?_eq_none
def L8:=@List.take_append_drop
def L9:=@Nat.lt_succ_of_lt
def LA:=@PySem.PassesOwn.never
def MU:=@Array.length_toList
def MV:=@Int.emod_lt_of_pos
def MW:=@Int.emod_nonneg
def MX:=@List.getElem_mem
def MY:=@List.take_length
def MZ:=@Nat.lt_irrefl
def Ma:=@PySem.mem_of_lookup
def OD:=@Bool.eq_iff_iff
def OE:=@PySem.Heap.get?_none_of_le
def OF:=@List.any_cons
def OG:=@List.getD_eq_getElem?_getD
def OH:=@List.length_filter_le
def OI:=@List.length_zip
def OJ:=@List.take_of_length_le
def OK:=@Nat.le_of_lt
def OL:=@Nat.ne_of_gt
def OM:=@PySem.F.plainAttrs_list
def Qr:=@Int.toNat_natCast
def Qs:=@List.eraseIdx_cons_succ
def Qt:=@List.find?_cons
def Qu:=@List.length_reverse
def Qv:=@List.map_drop
def Qw:=@List.map_map
def Qx:=@List.map_take
def Qy:=@List.nodup_nil
def Qz:=@Nat.le_total
def R0:=@Nat.min_eq_right
def R1:=@Nat.succ.inj
def R3:=@PyProof.Rows.callWith_type1
def UX:=@Array.getElem?_toList
def UY:=@Bool.and_false
def UZ:=@PySem.Heap.size_after_update
def Ua:=@List.all_cons
def Ub:=@List.filterMap_cons
def Uc:=@List.getElem?_range
def Ud:=@List.map_nil
def Ue:=@List.of_mem_zip
def Ug:=@List.set_cons_succ
def Uh:=@List.set_set
def Ui:=@List.take_succ_eq_append_getElem
def Uj:=@Nat.le_of_eq
def Uk:=@PySem.F.slot_list_index
def Ul:=@PySem.W.callWith_K
def bg:=@Bool.true_and
def bh:=@PySem.Calls.evalArgs_plain
def bj:=@List.cons_append
def bo:=@List.cons_lt_cons_iff
def bp:=@List.drop_zero
def bq:=@List.ext_getElem?
def br:=@List.filter_append
def bu:=@List.filter_cons
def bx:=@List.getElem_idxOf
def bz:=@List.idxOf_eq_length
def c5:=@List.length_nil
def c6:=@List.nil_append
def c7:=@List.reverse_cons
def c8:=@List.set_cons_zero
def cA:=@Nat.lt_succ_self
def cB:=@Nat.lt_trichotomy
def cC:=@Nat.min_self
def cD:=@Nat.sub_zero
def cE:=@Option.isSome_map
def cF:=@Option.map_some
def cG:=@PyProof.Rows.slot_tuple_getitem
def cH:=@PySem.F.type_list_index
def cI:=@PySem.W.looks_findIn
def nV:=@Array.toList_push
def nW:=@Bool.and_true
def nX:=@PySem.Calls.callWith_builtin
def nY:=@PySem.Calls.spliced_cons
def nZ:=@PySem.Calls.spliced_nil
def nc:=@PySem.Code.quiet_builtin
def ng:=@PySem.Heap.size_update
def nh:=@Int.toNat_of_nonneg
def ni:=@List.drop_eq_getElem_cons
def nj:=@List.eraseIdx_sublist
def nq:=@List.filter_map
def nr:=@List.forIn_nil
def nv:=@List.getElem?_replicate
def o4:=@List.idxOf_cons
def o5:=@List.length_singleton
def o6:=@List.map_id'
def o7:=@List.map_reverse
def o8:=@List.mem_filter
def o9:=@List.mem_of_mem_take
def oA:=@Nat.le_of_lt_succ
def oB:=@Nat.le_succ_of_le
def oE:=@Nat.log2_lt
def oF:=@Nat.lt_trans
def oG:=@Nat.sub_self
def oH:=@PySem.Obj.data_mapFields
def oJ:=@PySem.Paired.length
def oK:=@PySem.F.args_tuple_add_2
def oM:=@PySem.F.entry_tuple_add
def oN:=@PySem.F.excBase_ValueError
def oO:=@PySem.F.slot_tuple_add
def oP:=@PySem.W.any_some
def oQ:=@PySem.W.looks_clsIn
def oR:=@PySem.W.plainGet_of
def ZH1:=@Array.find?_toList
def ZH2:=@Array.size_extract
def ZH3:=@Array.toList_setIfInBounds
def ZH4:=@PySem.Calls.Name_function_global
def ZH5:=@PySem.Calls.call_function_entry
def ZH6:=@Int.lt_of_le_of_lt
def ZH7:=@Int.natCast_nonneg
def ZH8:=@List.Pairwise.map
def ZH9:=@List.Sublist.refl
def ZHA:=@List.any_eq_false
def ZHB:=@List.contains_cons
def ZHC:=@List.drop_length
def ZHD:=@List.drop_of_length_le
def ZHE:=@List.exists_cons_of_ne_nil
def ZHF:=@List.filter_congr
def ZHG:=@List.filter_eq_self
def ZHH:=@List.getElem?_reverse
def ZHI:=@List.getElem_inj
def ZHJ:=@List.length_eraseIdx_of_lt
def ZHK:=@List.length_erase_of_mem
def ZHL:=@List.length_pos_of_mem
def ZHM:=@List.length_replicate
def ZHN:=@List.lookup_cons_self
def ZHO:=@List.mem_erase_of_ne
def ZHP:=@List.mem_of_mem_drop
def ZHQ:=@List.mem_or_eq_of_mem_set
def ZHR:=@Nat.le_of_not_lt
def ZHS:=@Nat.min_le_right
def ZHT:=@Nat.not_lt_of_le
def ZHU:=@Option.getD_none
def ZHV:=@Option.getD_some
def ZHW:=@Option.isSome_some
def ZHX:=@PySem.F.plain_extend_loop
def ZHY:=@PySem.F.slot_dict_pop
def ZHZ:=@PySem.F.slot_list_append
def ZHa:=@PySem.F.slot_list_insert
def ZHb:=@PySem.F.slot_tuple_index
def ZHc:=@PySem.F.type_list_append
def ZHd:=@PySem.W.Looks.here
def ZHe:=@PySem.W.Looks.ld
def ZHf:=@PySem.W.cellsFrom_some
def ZHg:=@PySem.W.findObj_own
def ZHh:=@PySem.W.kitx_dict
def ZHi:=@PySem.W.kitx_list
def ZHj:=@PySem.W.looks_mroIn
def ZHk:=@PySem.W.methodCall_KW
def ZHl:=@PySem.W.set_plain
def ZHm:=@PySem.Within.cons
open PySem PySem.Spec PyProof.Rows
abbrev ZIV:=PySem.W.Frag
abbrev ZIW:=(List (Addr×Obj))
abbrev ZIX:=(Str->Option Value)
namespace PySem.W.Fast
def t:=Nat
def tw1737189543097955653:=t
def tw4858756986865596261:=t
def tw14136536918921755195:=t
def tw17779711144500166978:=t
def tw6620280645967044020:=t
def tw230138512549671616:=t
def tw1876335220946612115:=t
def tw7720516468793265937:=t
def tw17522860985364171734:=t
def tw5622574265358271010:=t
def tw2051440482708181556:=t
def tw4170776609814873210:=t
def tw13157471718836159622:=t
def tw12607068258511470459:=t
def tw10717373507492101215:=t
def tw6077297945156205867:=t
def tw2562960519672661743:=t
def tw10640224870324822633:=t
def tw4171649660887701782:=t
def tw3039112886194581089:=t
def tw13881965935956805179:=t
def tw370694553360294597:=t
def tw3000273237608440224:=t
def tw3002459466557132727:=t
def tw5837810882366227916:=t
def tw13492299289395717009:=t
def tw16629836982386406555:=t
def tw7718796580397727801:=t
def tw5265431918950522917:=t
def tw9831275865338705632:=t
def tw11271049286796664711:=t
def tw1949774530853299833:=t
def tw10556327664340755230:=t
def tw3240855464792275199:=t
def tw9895502491914185208:=t
def tw13862447688640498854:=t
def tw11158148840885547076:=t
def tw15222700401572299322:=t
def tw17443899143609933607:=t
def tw10622474886241518029:=t
def tw15199561168158092915:=t
def tw2546843080206763623:=t
def tw17432657632690194227:=t
def tw5158769011884201140:=t
def tw7187532898525530106:=t
def tw17159643769641304287:=t
def tw17483089742690998796:=t
def tw14510447339062116687:=t
def tw4125744805226730253:=t
def tw7183138854460667734:=t
def tw12167792656480690125:=t
def tw16175254820848057363:=t
def tw5562973319838286903:=t
def tw6057837309956504543:=t
def tw8913946627684487611:=t
def tw1245341227880195417:=t
def tw5648239953610085837:=t
def tw16176254414984604599:=t
def tw13059742273549112834:=t
def tw14615411062848449029:=t
def tw10599635508680630467:=t
def tw2004626881277665485:=t
def tw17847117494848583196:=t
def tw14632673331705843300:=t
def tw8610077648774470097:=t
def tw12731100721439618476:=t
def tw1897825565499595291:=t
def tw11605725839894861451:=t
def tw9494940625383825765:=t
def tw12675152196128031531:=t
def tw14209395127344784575:=t
def tw15354674178998747952:=t
def tw11238119096169516932:=t
def tw11761229315662866654:=t
def tw6630779520354745768:=t
def tw8408793611172921582:=t
def tw10330098544855829627:=t
def tw16619915097195186301:=t
def tw13764911476234060321:=t
def tw712403658073183619:=t
def tw11895550463540105062:=t
def tw6128859089185580408:=t
def tw11681161806503006547:=t
def tw4325396349450246354:=t
def tw17432599324026281467:=t
def tw9102766493004534485:=t
def tw4608340619614008568:=t
def tw2613032399968048569:=t
def tw15820276416667871587:=t
def tw2716102964433705759:=t
def tw7488729989657812211:=t
def tw7796990255407695278:=t
def tw6837809340768920072:=t
def tw13556966186357475376:=t
def tw1413772240304833672:=t
def tw1364881586631357616:=t
def tw2861393436943410657:=t
def tw4771761365659893254:=t
def tw7913548797172454898:=t
def tw7945228764338691446:=t
def tw18359846983278170923:=t
def tw10429697566778744786:=t
def tw12701937159256314057:=t
def tw4891117742092432618:=t
def tw9723639156562295400:=t
def tw5929288802484699933:=t
def tw3171621911039003273:=t
def tw17744032659212724505:=t
def tw2296122985888635749:=t
def tw6005077458045903673:=t
def tw329748015559691833:=t
def tw16692438869247568377:=t
def tw6072010467136032448:=t
def tw15164039738513519443:=t
def tw11689695557394332244:=t
def tw15967135733561671717:=t
def tw16719234200923308565:=t
def tw7762312795278141407:=t
def tw16138527073830946256:=t
def tw18232188359827970965:=t
def tw14217335527899321240:=t
def tw15927112381132834098:=t
def tw2725033899057983039:=t
def tw2440302393314627908:=t
def tw6020682861131411649:=t
def tw16150344035451508073:=t
def tw9113631552565119208:=t
def tw15260033961534659278:=t
def tw16123503820146068130:=t
def tw7420019885367349374:=t
def tw14830400661573205354:=t
def tw73594784078310910:=t
def tw14041922142125283892:=t
def tw6295475618532695377:=t
def tw7573024401656437733:=t
def tw8807709305562605779:=t
def tw1016858112516669632:=t
def tw9664747407528644852:=t
def tw6950113533580139450:=t
def tw17444084218549394621:=t
def tw981743901342104766:=t
def tw13200223705039438263:=t
def tw659947297081294005:=t
def tw4086801540020992039:=t
def tw8501447199502312796:=t
def tw16227952910314061744:=t
def tw9956219690206438660:=t
def tw14362223089160151006:=t
def tw16086538349330910912:=t
def tw12822003864086703057:=t
def tw7361488852478507742:=t
def tw2073187523952760480:=t
def tw11634680017028296006:=t
def tw14710337824021462708:=t
def tw1310606574117500038:=t
def tw10240546295621539587:=t
def tw13285142609023794170:=t
def tw6945019891510456411:=t
def tw10388034221166304386:=t
def tw6745077442576446200:=t
def tw16372951602972495050:=t
def tw17776799570505031096:=t
def tw8580597004548732860:=t
def tw7215868372762887862:=t
def tw12564790863395055144:=t
def tw18151058182341988727:=t
def tw14405607318046056620:=t
def tw8049377644505957861:=t
def tw7862266600851540183:=t
def tw755030893228373934:=t
def tw16065812038176271901:=t
def tw5257201323142909737:=t
def tw4683500771974196494:=t
def tw17440289291675061679:=t
def tw13655746245547557101:=t
def tw8629850187440198892:=t
def tw9719638508487909475:=t
def tw9542355661404800697:=t
def tw626836071975058356:=t
def tw10176111921621281921:=t
def tw15577986707719947012:=t
def tw11134896395414151776:=t
def tw3424464201241342702:=t
def tw16357510858574472542:=t
def tw13477597049854608653:=t
def tw4816300775583978403:=t
def tw7390032497268895957:=t
def tw13163735271435626091:=t
def tw7627862930149060931:=t
def tw15313237723360915908:=t
def tw13288051790929620598:=t
def tw15997282621901326796:=t
def tw8314961610224147019:=t
def tw16730458684462451559:=t
def tw15857272951158414158:=t
def tw2647451464149252579:=t
def tw16888482425733114900:=t
def tw15349701608345472770:=t
def tw6168960772901808513:=t
def tw17143379165335911735:=t
def tw1755658566463510027:=t
def tw302131122136603614:=t
def tw13417454556433814632:=t
def tw5911913882063064279:=t
def tw10763974718095475046:=t
def tw8053566748222012353:=t
def tw10300719571273211449:=t
def tw1318606924892580118:=t
def tw2867757534123089060:=t
def tw14703150955668083416:=t
def tw7038786056399607879:=t
def tw12869562142690597243:=t
def tw2387771370513781581:=t
def tw11576970325645895496:=t
def tw13457092578575151593:=t
def tw2351370249943194669:=t
def tw6168632864912739127:=t
def tw13347930717426990628:=t
def tw13401129530352751250:=t
def tw15986126484082636224:=t
def tw13543488420698048396:=t
def tw2124779272520337710:=t
def tw1438856965747702231:=t
def tw11439589344340462557:=t
def tw8172132491844822730:=t
def tw4260619597081188496:=t
def tw8426549855971182734:=t
def tw15348349249141887449:=t
def tw6046795293623846224:=t
def tw10683154805801641632:=t
def tw12068056272854493283:=t
def tw322022514389369072:=t
def tw15876315243765700459:=t
def tw5177039310141891251:=t
def tw5611612141190043443:=t
def tw12242624329019264215:=t
def tw16619463242537015599:=t
def tw3380905238760627899:=t
def tw14299988396711021382:=t
def tw18223798178199763929:=t
def tw11262545654591623757:=t
def tw13622175041093539817:=t
def tw5311215350448223918:=t
def tw6187545629845835813:=t
def tw6515580312036591528:=t
def tw8148366213421709724:=t
def tw14309927437630079130:=t
def tw7925361152139339589:=t
def tw2306935459304234738:=t
def tw17681863291463227443:=t
def tw14065530413344226769:=t
def tw17391281614547241329:=t
def tw3452589928923982626:=t
def tw7936485626386935855:=t
def tw7897485510874406951:=t
def tw10856839852398704944:=t
def tw1761376979813808309:=t
def tw13158261546068912144:=t
def tw8793943753743819763:=t
def tw7090015812702941654:=t
def tw11520298485429473695:=t
def tw18243920728591038102:=t
def tw13394395858925446642:=t
def tw8147150395821211004:=t
def tw6007442680165637641:=t
def tw11492700781086147695:=t
def tw3952269510608391934:=t
def tw1803777566067936824:=t
def tw7799791192147140016:=t
def tw5175309692446553423:=t
def tw7124953319077606744:=t
def tw14258403304179650937:=t
def tw17690287223546748934:=t
def tw4926040124386673194:=t
def tw11063498988340337273:=t
def tw5697167306636813938:=t
def tw5112177590731347709:=t
def tw15754044183030711551:=t
def tw12640161853235230545:=t
def tw7862399600335496210:=t
def tw5184805092392883474:=t
def tw2060036048799384016:=t
def tw14586543198413960139:=t
def tw16553288059285711762:=t
def tw18001441888088329096:=t
def tw3186150058126364946:=t
def tw7697326829634514271:=t
def tw17623004901689808127:=t
def tw18430387248737338069:=t
def tw3403199794756840342:=t
def tw13762198841796384506:=t
def tw5872057198417408043:=t
def tw18083336911562970126:=t
def tw16016006266838243406:=t
def tw1617912336983595166:=t
def tw12806125163220305573:=t
def tw3893161101861153207:=t
def tw7265752010719923079:=t
def tw4036529243008110874:=t
def tw17822981125926566317:=t
def tw17526439166350275963:=t
def tw889621012943399899:=t
def tw12197802793964538143:=t
def tw4686336053273750404:=t
def tw6963065474469675570:=t
def tw5663187569356647262:=t
def tw550676634529096630:=t
def tw13673336216597998544:=t
def tw10641466174989809372:=t
def tw2682599213810376876:=t
def tw11983088533320233937:=t
def tw1720309512765317904:=t
def tw11796226236932078754:=t
def tw1396304148721907003:=t
def tw1360567897796101509:=t
def tw5418657832581903409:=t
def tw11931821604552499097:=t
def tw4995740824035436893:=t
def tw3760239979460253301:=t
def tw6611584654419454441:=t
def tw14955706547639716502:=t
def tw7427865266731075032:=t
def tw14659440337980293024:=t
def tw1404596111623733873:=t
def tw4580307058124248794:=t
def tw15411352330175490568:=t
def tw9237157650183657180:=t
def tw9075401182297405313:=t
def tw16862617286017035085:=t
def tw3295766236632001313:=t
def tw10765747555175360798:=t
def tw11406574082833477980:=t
def tw3155718338024052035:=t
def tw5621719796681607513:=t
def tw5412230416031817670:=t
def tw13295033059934346475:=t
def tw7591793656071496181:=t
def tw7307345776495514697:=t
def tw16021999123309634067:=t
def tw3812535969892127768:=t
def tw10355074790848613470:=t
def tw388614946635597647:=t
def tw7397330127231756102:=t
def tw5241121007918995564:=t
def tw5603803761343648405:=t
def tw2467291624966911662:=t
def tw9409558110267278751:=t
def tw6005666888579756733:=t
def tw16360993695712414941:=t
def tw9531264718943572400:=t
def tw4182030323247856153:=t
def tw12858610501512066400:=t
def tw3581637763869015517:=t
def tw6656999135340216009:=t
def tw17752269587060422458:=t
def tw16331140723710127280:=t
def tw3331481128113991243:=t
def tw7778127534390862170:=t
def tw11695794135593827141:=t
def tw5537958605036472847:=t
def tw9352746132053525638:=t
def tw11196561764938934939:=t
def tw14564689098251406513:=t
def tw8609001951899974260:=t
def tw15108747387621854265:=t
def tw2155977746758890229:=t
def tw7683516805651584368:=t
def tw8940064291764080404:=t
def tw754519152399930071:=t
def tw2192511387574901785:=t
def tw17648181356291696587:=t
def tw2850693484232548254:=t
def tw1790226868778682019:=t
def tw18087702439283200968:=t
def tw2483270715648314547:=t
def tw11820502376790345866:=t
def tw10663907217225633361:=t
def tw16186485471225763512:=t
def tw11459090453894247705:=t
def tw14968398669479146495:=t
def tw12879719832371594136:=t
end PySem.W.Fast
set_option Elab.async false
set_option maxRecDepth 100000
namespace L2
variable{α κ:Type}{C a b dx it:Addr}{c cd u:Value}{w:World}{ZB h':Heap}{m name qual x:Str}{e tg:Expr}{lr Zy:ZIW}{s s':Shared}{g':Array GenState}{i j n t' tk:Nat}{d':Drawn}{ch fp:List Addr}{N ks ns ps:List Str}{M:Model}{A:Around}{E Q:Value->Shared->Prop}{ZHs pos:Pos}{op:CmpOp}{es rest:List Expr}{f:Value->Value->Sem Value}{pl:Sem Bool}{ds us:List Value}{mA mg:ZIX}{prog:Program}{kw:List (Str×Value)}{fd:FuncData}{outer:List Env}{sc scope:Scope}
abbrev Key:=Sum Int Str
noncomputable def Kk:Key->Value->Bool
 | .inl k,v=>Value.isInt k v
 | .inr x,v=>Value.isStrOf x v
noncomputable def uP(w:World):Key->Int
 | .inl k=>hashInt k
 | .inr x=>hashStr w x
theorem Hu:∀{k:Key}{v:Value},Kk k v=true->(∃i t,k=Sum.inl i/\v=Value.int i t)∨(∃x t,k=Sum.inr x/\v=Value.str x t)
 | .inl i,v,h=>by
  obtain⟨t,e⟩:=Value.isInt_shape (k:=i) (v:=v) h;exact .inl ⟨i,t,rfl,e⟩
 | .inr x,v,h=>by
  obtain⟨t,e⟩:=Value.isStrOf_shape (x:=x) (v:=v) h;exact .inr ⟨x,t,rfl,e⟩
theorem ZA5(i:Int)(t:Tok):Kk (.inl i) (.int i t)=true:=by simp[Kk,Value.isInt]
theorem zC(x:Str)(t:Tok):Kk (.inr x) (.str x t)=true:=by simp[Kk,Value.isStrOf]
theorem ZFW(a b:Int):decide ((Sum.inl a:Key)=Sum.inl b)=(a == b):=by
 by_cases e:a=b
 .subst e;simp
 .have h:¬ (Sum.inl a:Key)=Sum.inl b:=λq=>e (Sum.inl.inj q);rw[sS h];exact(beq_eq_false_iff_ne.mpr e).symm
theorem zI(a b:Str):decide ((Sum.inr a:Key)=Sum.inr b)=decide (a=b):=by
 by_cases e:a=b
 .subst e;simp
 .have h:¬ (Sum.inr a:Key)=Sum.inr b:=λq=>e (Sum.inr.inj q);rw[sS h,sS e]
theorem ZBo(a:Int)(b:Str):decide ((Sum.inl a:Key)=Sum.inr b)=false:=sS (λq=>nomatch q)
theorem wz(a:Str)(b:Int):decide ((Sum.inr a:Key)=Sum.inl b)=false:=sS (λq=>nomatch q)
def CP(prog:Program)(w:World):PySem.KeyKind prog w Key where
 is:=Kk
 hash:=uP w
 inj:=λv a b g d=>by
  rcases Hu g with⟨i,t,rfl,rfl⟩|⟨x,t,rfl,rfl⟩
  .rcases Hu d with⟨j,u,rfl,e⟩|⟨y,u,rfl,e⟩
   .injection e with e1 _;rw[e1]
   .exact nomatch e
  .rcases Hu d with⟨j,u,rfl,e⟩|⟨y,u,rfl,e⟩
   .exact nomatch e
   .injection e with e1 _;rw[e1]
 byValue:=λk v h=>by
  rcases Hu h with⟨i,t,rfl,rfl⟩|⟨x,t,rfl,rfl⟩ <;> rfl
 pyHash:=λc h=>by
  rcases Hu c with⟨i,t,rfl,rfl⟩|⟨x,t,rfl,rfl⟩
  .exact wpAny_pyHash_int h
  .exact wpAny_pyHash_str h
 eqBool:=λf c h=>by
  rcases Hu f with⟨i,t,rfl,rfl⟩|⟨x,t,rfl,rfl⟩
  .rcases Hu c with⟨j,u,rfl,rfl⟩|⟨y,u,rfl,rfl⟩
   .rw[ZFW]at h;exact wpAny_eqBool_int h
   .rw[ZBo]at h;exact SeqAt.EqAt.int_str i t y u _ _ _ _ h
  .rcases Hu c with⟨j,u,rfl,rfl⟩|⟨y,u,rfl,rfl⟩
   .rw[wz]at h;exact SeqAt.EqAt.str_int x t j u _ _ _ _ h
   .rw[zI]at h;exact wpAny_eqBool_str h
 «strs»:=λk x t v h=>by
  rcases Hu h with⟨i,u,rfl,e⟩|⟨y,u,rfl,e⟩
  .exact nomatch e
  .injection e with e1 _
   subst e1;cases v <;> rfl
theorem ZED(prog:Program)(w:World)(i:Int)(t:Tok):(CP prog w).is (.inl i) (.int i t)=true:=ZA5 i t
theorem ZAr(prog:Program)(w:World)(x:Str)(t:Tok):(CP prog w).is (.inr x) (.str x t)=true:=zC x t
inductive V where
 |A8|bl (b:Bool)|int (i:Int)|str (x:Str)|HH (b:Array UInt8)|Jx (b:UInt64)|ref (a:Addr)|ty (n:String)
 deriving DecidableEq
variable{v y:V}{Dp vs:List V}
def RelV:V->Value->Prop
 | .A8,u=>u=Value.none
 | .bl b,u=>u=Value.bool b
 | .int i,u=>∃t,u=Value.int i t
 | .str x,u=>∃t,u=Value.str x t
 | .HH b,u=>∃t,u=Value.bytes b t
 | .Jx b,u=>∃t,u=Value.float b t
 | .ref a,u=>u=Value.ref a
 | .ty n,u=>u=Value.type n
abbrev Vals:List V->List Value->Prop:=Paired RelV
theorem Vals.length{xs:List V}{us:List Value}(r:Vals xs us):xs.length=us.length:=oJ r
theorem Vals.get:∀{xs:List V}{us:List Value}{i:Nat}{x:V},Vals xs us->xs[i]?=some x->∃u,us[i]?=some u/\RelV x u
 |_,_,_,_,.nil,e=>by simp at e
 |_,_,0,_,.cons r _,e=>by simp at e;subst e;exact⟨_,rfl,r⟩
 |_,_,i+1,x,.cons _ t,e=>by
  obtain⟨u,h1,h2⟩:=Vals.get (i:=i) (x:=x) t (by simpa using e)
  exact⟨u,by simpa using h1,h2⟩
theorem Vals.set{x:V}{u:Value}(r:RelV x u):∀{xs:List V}{us:List Value}(i:Nat),Vals xs us->Vals (xs.set i x) (us.set i u)
 |_,_,_,.nil=>.nil
 |_,_,0,.cons _ t=>.cons r t
 |_,_,i+1,.cons q t=>.cons q (Vals.set r i t)
theorem Vals.append:∀{xs ys:List V}{us ws:List Value},Vals xs us->Vals ys ws->Vals (xs++ys) (us++ws)
 |_,_,_,_,.nil,s=>s
 |_,_,_,_,.cons r t,s=>.cons r (Vals.append t s)
theorem Vals.take:∀{xs:List V}{us:List Value}(n:Nat),Vals xs us->Vals (xs.take n) (us.take n)
 |_,_,0,_=>.nil
 |_,_,_+1,.nil=>.nil
 |_,_,n+1,.cons r t=>.cons r (Vals.take n t)
theorem Vals.drop:∀{xs:List V}{us:List Value}(n:Nat),Vals xs us->Vals (xs.drop n) (us.drop n)
 |_,_,0,r=>r
 |_,_,_+1,.nil=>.nil
 |_,_,n+1,.cons _ t=>Vals.drop n t
def EF:Option V->Option Value->Prop
 |some v,some u=>RelV v u
 |none,none=>True
 |_,_=>False
def KV:List (κ×V)->List (κ×Value)->Prop:=Paired λ(p:κ×V)(q:κ×Value)=>p.1=q.1/\RelV p.2 q.2
noncomputable def kV:Key->V
 | .inl i=>.int i
 | .inr x=>.str x
inductive HO where
 /-- a list -/
 |lst (xs:List V)
 /-- a tuple (never changes) -/
 |tup (xs:List V)
 /-- a dict ZBh keys are ints and texts;one ZBh keys are tuples of ints and texts (Hl empty one is both) -/
 |dK (A6:List (Key×V))|dT (A6:List (List Key×V))
 /-- a set of ints: A5 members,A5 size -/
 |set (S:Int->Bool) (n:Nat)
 /-- an instance of Hl class at C,A5 dict at dx,A5 attributes -/
 |ins (C dx:Addr) (fs:List (Str×V))
 /-- Hl dict of Hl instance at x -/
 |own (x:Addr)
 /-- Hl dict of an exception -/
 |xd (fs:List (Str×V))
 /-- a bound method,f of x -/
 |met (f x:Addr)
 /-- a range object lo,lo+1,.. below hi -/
 |RZ (lo hi:Int)
 /-- a vA ZHx is known to Hl object (Hl eI;a dict while a loop walks it): read,never written while it is so -/
 |FD (o:Obj) (u:HO)
 /-- a code ZHo table -/
 |K3 (ps:Array Value)
 /-- any other vA,by ZFS is true of A5 one object (a def of ZIJ own: ZA3 a S n:=HO.ext λh=>..) -/
 |ext (φ:Heap->Prop)
variable{o o':HO}
abbrev Hp:=Addr->Option HO
variable{H H':Hp}
noncomputable def upd(H:Hp)(a:Addr)(o:HO):Hp:=λb=>if b=a then some o else H b
theorem AW:upd H a o a=some o:=by unfold upd;rw[rG rfl]
theorem AY(h:b≠a):upd H a o b=H b:=by unfold upd;rw[qP h]
theorem tJ{u:HO}(h:H a=some o)(h':H b=some u)(d:o≠u):a≠b:=by
 intro e;subst e;rw[h]at h';exact d (Bo h')
theorem DH(h:H a=some o)(h':H b=none):a≠b:=by
 intro e;subst e;rw[h]at h';cases h'
section
variable(P:Program)(w:World)
def CC(H:Hp)(h:Heap)(a:Addr):HO->Prop
 | .lst xs=>xs.length<=sizeLine/\∃(A5:List Value)(n:Nat),Vals xs A5/\h.get? a=some { cls:=.type "list", data:=.seq A5.toArray n }
 | .tup xs=>xs.length<=sizeLine/\∃A5:List Value,Vals xs A5/\(IsTup h a A5.toArray/\∀ob,h.get? a=some ob->ob.dict=none)
 | .dK A6=>A6.length<=sizeLine/\(a == sysModules)=false/\∃vs,KV A6 vs/\h.DictOf (CP P w) a vs
 | .dT A6=>A6.length<=sizeLine/\(a == sysModules)=false/\∃xs:List (List Key×Addr×Value),
   Paired (λ(p:List Key×V)(q:List Key×Addr×Value)=>p.1=q.1/\H q.2.1=some (.tup (p.1.map kV))/\RelV p.2 q.2.2) A6 xs/\
   ∃o es b,h.get? a=some o/\o.ExactDict/\o.data=.dict es b/\es.toList=xs.map (entryOfKey (tupleKind (CP P w)))/\(xs.map (·.1)).Nodup
 | .set S n=>h.SetOf (intKind P w) a S n
 | .ins C dx fs=>H dx=some (.own a)/\fs.length<=1000/\dx≠a/\h.get? a=some (PySem.W.instObj C dx)/\
   ∃mA,h.Ns1 dx mA/\(∀f,EF (fs.lookup f) (mA f))/\PySem.Within mA (fs.map (·.1))
 | .own _=>∃o,h.get? a=some o
 | .xd fs=>∃mA,h.Ns1 a mA/\∀f,EF (fs.lookup f) (mA f)
 | .RZ lo hi=>∃t u v,h.get? a=some { cls:=.type "range", data:=.fields #[.int lo t,.int hi u,.int 1 v] }
 | .FD o u=>h.get? a=some o/\CC H h a u
 | .K3 ps=>h.get? a=some { cls:=.none,data:=.fields ps }
 | .met f x=>h.get? a=some (PySem.W.methodObj (.ref f) (.ref x))
 | .ext φ=>φ h/\(∃o,h.get? a=some o)/\∀h1 h2:Heap,φ h1->(∀o,h1.get? a=some o->h2.get? a=some o)->φ h2
def Bv(H:Hp)(h:Heap):Prop:=∀a o,H a=some o->CC P w H h a o
end
section
variable{P:Program}{h:Heap}
theorem CC.lt(x:CC P w H h a o):a<h.objs.size:=by
 cases o with
 |lst xs=>obtain⟨_,_,_,_,e⟩:=x;exact BA e
 |tup xs=>obtain⟨_,_,_,p⟩:=x;exact p.1.lt
 |dK A6=>obtain⟨_,_,_,_,o,_,_,e,_⟩:=x;exact BA e
 |dT A6=>obtain⟨_,_,_,_,o,_,_,e,_⟩:=x;exact BA e
 |set S n=>obtain⟨o,_,_,_,e,_⟩:=x;exact BA e
 |ins C dx fs=>obtain⟨_,_,_,e,_⟩:=x;exact BA e
 |own y=>obtain⟨_,e⟩:=x;exact BA e
 |xd fs=>obtain⟨_,⟨_,_,_,e,_⟩,_⟩:=x;exact BA e
 |RZ lo hi=>obtain⟨_,_,_,e⟩:=x;exact BA e
 |FD ob u=>obtain⟨e,_⟩:=x;exact BA e
 |K3 ps=>exact BA (show h.get? a=some _ from x)
 |met f y=>exact BA (show h.get? a=some _ from x)
 |ext φ=>obtain⟨_,⟨_,e⟩,_⟩:=x;exact BA e
theorem Paired.VC{α β:Type}{F G:α->β->Prop}:∀{l₁:List α}{l₂:List β},Paired F l₁ l₂->(∀a b,F a b->G a b)->Paired G l₁ l₂
 |_,_,.nil,_=>.nil
 |_,_,.cons r t,f=>.cons (f _ _ r) (Paired.VC t f)
theorem CC.HG(x:CC P w H h a o)(k:∀b u,(b=a∨H b=some (.own a))->h.get? b=some u->h'.get? b=some u)
  (ho:∀b,H b=some (.own a)->H' b=some (.own a)) (l:∀b xs,H b=some (.tup xs)->H' b=some (.tup xs)):CC P w H' h' a o:=by
 induction o with
 |lst xs=>obtain⟨z,A5,n,r,e⟩:=x;exact⟨z,A5,n,r,k _ _ (.inl rfl) e⟩
 |tup xs=>obtain⟨z,A5,r,⟨ob,e,c⟩,s⟩:=x;exact⟨z,A5,r,⟨ob,k _ _ (.inl rfl) e,c⟩,λRj i=>by rw[k _ _ (.inl rfl) e]at i;cases i;exact s _ e⟩
 |dK A6=>obtain⟨z,y,vs,r,ob,es,g,e,c⟩:=x;exact⟨z,y,vs,r,ob,es,g,k _ _ (.inl rfl) e,c⟩
 |dT A6=>
  obtain⟨z,y,xs,r,ob,es,g,e,c⟩:=x;exact⟨z,y,xs,Paired.VC r λp q z=>⟨z.1,l _ _ z.2.1,z.2.2⟩,ob,es,g,k _ _ (.inl rfl) e,c⟩
 |set S n=>obtain⟨ob,es,g,t,e,c⟩:=x;exact⟨ob,es,g,t,k _ _ (.inl rfl) e,c⟩
 |ins C dx fs=>
  obtain⟨d,z,ne,e,mA,⟨od,es,g,m,c⟩,r⟩:=x;exact⟨ho _ d,z,ne,k _ _ (.inl rfl) e,mA,⟨od,es,g,k _ _ (.inr d) m,c⟩,r⟩
 |own y=>obtain⟨ob,e⟩:=x;exact⟨ob,k _ _ (.inl rfl) e⟩
 |xd fs=>obtain⟨mA,⟨od,es,g,e,c⟩,r⟩:=x;exact⟨mA,⟨od,es,g,k _ _ (.inl rfl) e,c⟩,r⟩
 |RZ lo hi=>obtain⟨t,u,v,e⟩:=x;exact⟨t,u,v,k _ _ (.inl rfl) e⟩
 |FD ob u j=>obtain⟨e,q⟩:=x;exact⟨k _ _ (.inl rfl) e,j q⟩
 |K3 ps=>
  have e:h.get? a=some { cls:=.none,data:=.fields ps }:=x;show h'.get? a=some { cls:=.none,data:=.fields ps };exact k a _ (.inl rfl) e
 |met f y=>
  have e:h.get? a=some (PySem.W.methodObj (.ref f) (.ref y)):=x;show h'.get? a=some (PySem.W.methodObj (.ref f) (.ref y));exact k a _ (.inl rfl) e
 |ext φ=>obtain⟨p,⟨o,e⟩,st⟩:=x;exact⟨st _ _ p λo q=>k _ _ (.inl rfl) q,⟨o,k _ _ (.inl rfl) e⟩,st⟩
theorem Bv.lt(x:Bv P w H h)(e:H a=some o):a<h.objs.size:=(x a o e).lt
theorem Bv.fresh(x:Bv P w H h)(e:h.objs.size<=a):H a=none:=by
 cases q:H a with
 |none=>rfl
 |some u=>exact absurd (De (x.lt q) e) (MZ _)
theorem Bv.kept(x:Bv P w H h)(k:∀b u,h.get? b=some u->h'.get? b=some u):Bv P w H h':=λa o e=>
 (x a o e).HG (λb u _ q=>k b u q) (λ_ q=>q) λ_ _ q=>q
theorem Bv.laid(x:Bv P w H h)(k:∀b u,h.get? b=some u->h'.get? b=some u)(g:h.objs.size<=a)(d:CC P w (upd H a o) h' a o):Bv P w (upd H a o) h':=λb u e=>by
 have hn:=x.fresh g
 by_cases f:b=a
 .subst f;rw[AW]at e;cases e;exact d
 .rw[AY f]at e;exact(x b u e).HG (λc v _ q=>k c v q) (λc q=>by rw[AY (DH q hn)];exact q) λc xs q=>by rw[AY (DH q hn)];exact q
end
def Rd(H:Hp)(a:Addr)(u:HO):Prop:=H a=some u∨∃o,H a=some (.FD o u)
theorem Rd.ok{P:Program}{h:Heap}{u:HO}(r:Rd H a u)(x:Bv P w H h):CC P w H h a u:=by
 rcases r with r|⟨o,r⟩
 .exact x a u r
 .obtain⟨_,q⟩:=x a _ r;exact q
def Nd:Option HO->Prop
 |some (.lst _)=>True
 |some (.dK _)=>True
 |some (.dT _)=>True
 |some (.set _ _)=>True
 |some (.ins _ _ _)=>True
 |some (.ext _)=>True
 |_=>False
section
variable{P:Program}{h:Heap}{x e:Addr}
theorem Bv.write(ok:Bv P w H h)(a:Nd (H x))(n:e=x∨H e=some (.own x))(k:∀b u,b≠e->h.get? b=some u->h'.get? b=some u)(Jq:∃u,h'.get? e=some u)
  (i:CC P w (upd H x o') h' x o'):Bv P w (upd H x o') h':=λb u q=>by
 have m:∀c y,H c=some (.own y)->c≠x:=λc y r z=>by subst z;rw[r]at a;exact a
 have j:∀c xs,H c=some (.tup xs)->c≠x:=λc xs r z=>by subst z;rw[r]at a;exact a
 by_cases f:b=x
 .subst f;rw[AW]at q;cases q;exact i
 .rw[AY f]at q
  by_cases g:b=e
  .have l:H b=some (.own x):=by
    rcases n with z|z
    .exact absurd (g.trans z) f
    .rw[g];exact z
   rw[q]at l;cases l;obtain⟨v,o⟩:=Jq;exact⟨v,by rw[g];exact o⟩
  .refine(ok b u q).HG (λc v d r=>k c v ?_ r) (λc r=>by rw[AY (m c b r)];exact r) λc xs r=>by rw[AY (j c xs r)];exact r
   rcases d with rfl|d
   .exact g
   .rintro rfl;rcases n with z|z
    .exact m c b d z
    .rw[d]at z;cases z;exact f rfl
end
structure Un (fs ex:List Addr) (H H':Hp) (h h':Heap):Prop where
 keep:∀b o,h.get? b=some o->H b=none->b∉fs->b∉ex->h'.get? b=some o
 slot:∀b o,h.get? b=some o->H b=none->b∈fs->b∉ex->∃sl,h'.get? b=some { o with slots:=sl }
 free:∀b o,h.get? b=some o->H b=none->b∉ex->H' b=none
 there:∀b o,h.get? b=some o->b∉ex->∃o',h'.get? b=some o'
 GW:∀b xs,H b=some (.tup xs)->H' b=some (.tup xs)
 Fp:∀b o u,H b=some (.FD o u)->H' b=some (.FD o u)
 GR:∀b ps,H b=some (.K3 ps)->∃more,H' b=some (.K3 (ps++more))
section
variable{fs Nw ex ex':List Addr}{H1 H2:Hp}{h h1 h2:Heap}{x e:Addr}
theorem Un.any(u:Un fs ex H H1 h h1){ob:Obj}(q:h.get? b=some ob)(n:H b=none)(hx:b∉ex):∃sl,h1.get? b=some { ob with slots:=sl }:=by
 by_cases a:b∈fs
 .exact u.slot b ob q n a hx
 .exact⟨ob.slots,u.keep b ob q n a hx⟩
theorem Un.kept(k:∀b u,h.get? b=some u->h'.get? b=some u):Un fs ex H H h h':=
 ⟨λb ob q _ _ _=>k b ob q,λb ob q _ _ _=>⟨ob.slots,k b ob q⟩,λ_ _ _ n _=>n,λb ob q _=>⟨ob,k b ob q⟩,λ_ _ q=>q,λ_ _ _ q=>q,λ_ ps q=>⟨#[],by rw[q];simp⟩⟩
theorem Un.refl:Un fs ex H H h h:=Un.kept λ_ _ q=>q
theorem Un.laid(k:∀b u,h.get? b=some u->h'.get? b=some u)(c:h.objs.size<=a)(hn:H a=none):Un fs ex H (upd H a o) h h' where
 keep:=λb u q _ _ _=>k b u q
 slot:=λb u q _ _ _=>⟨u.slots,k b u q⟩
 free:=λb u q n _=>by rw[AY (Bn (De (BA q) c))];exact n
 there:=λb u q _=>⟨u,k b u q⟩
 GW:=λb xs q=>by rw[AY (DH q hn)];exact q
 Fp:=λb u xs q=>by rw[AY (DH q hn)];exact q
 GR:=λb ps q=>⟨#[],by rw[AY (DH q hn),q];simp⟩
theorem Un.write(a:Nd (H x))(g:e=x∨H e=some (.own x))(k:∀b u,b≠e->h.get? b=some u->h'.get? b=some u)(Jq:∃u,h'.get? e=some u):Un fs ex H (upd H x o) h h':=by
 have hx:∀b,H b=none->b≠x:=λb n z=>by subst z;rw[n]at a;exact a
 have d:∀b,H b=none->b≠e:=λb n z=>by
  subst z;rcases g with r|r
  .exact hx b n r
  .rw[n]at r;cases r
 have c:∀b u,H b=some u->¬ Nd (some u)->b≠x:=λb u q nm z=>by subst z;rw[q]at a;exact nm a
 refine⟨λb u q n _ _=>k b u (d b n) q,λb u q n _ _=>⟨u.slots,k b u (d b n) q⟩,λb u q n _=>by rw[AY (hx b n)];exact n,λb u q _=>?_,
  λb xs q=>by rw[AY (c b _ q λz=>z)];exact q,λb u xs q=>by rw[AY (c b _ q λz=>z)];exact q,λb ps q=>⟨#[],by rw[AY (c b _ q λz=>z),q];simp⟩⟩
 by_cases f:b=e
 .subst f;exact Jq
 .exact⟨u,k b u f q⟩
end
def T8(h:Heap)(H:Hp):List Addr:=(List.range h.objs.size).filter λa=>(H a).isSome
def JM(h:Heap)(H:Hp):Heap:=PySem.W.hideAll h (T8 h H)
theorem xa(h:Heap)(H:Hp):(JM h H).objs.size=h.objs.size:=PySem.W.hideAll_size _ _
theorem ZGP{h:Heap}{o:Obj}(e:h.get? b=some o)(n:H b=none):(JM h H).get? b=some o:=
 PySem.W.hideAll_get _ e λa=>by
  have q:(H b).isSome=true:=(List.mem_filter.mp a).2;rw[n]at q;simp at q
theorem ZAm{h:Heap}{o:Obj}(e:(JM h H).get? b=some o):h.get? b=some o/\H b=none:=by
 have a:h.get? b=some o:=PySem.W.of_hideAll (T8 h H) e;refine⟨a,?_⟩;cases q:H b with
 |none=>rfl
 |some x=>
  have c:b∈T8 h H:=List.mem_filter.mpr ⟨List.mem_range.mpr (BA a),by simp[q]⟩;have z:(JM h H).get? b=none:=PySem.W.hideAll_none (T8 h H) c;rw[z]at e;cases e
structure Mod (K:ZIV) (mg:ZIX) (ZB:Heap):Prop where
 IX:K.In ZB
 glob:ZB.Ns mainGlobals mg
 blt:∃mb,ZB.Ns builtinsNs mb/\∀x:Str,x ≠"__name__" -> mb x=bootBuiltins x
 nolimit:ZB.NoLimit
structure Cx where
 prog:Program
 w:World
 K:ZIV
 mg:ZIX
 base:Heap
 A:Around
 N:List Str
 s₀:Shared
 H₀:Hp
 env:Env
 outer:List Env
 stack:List Env
 ex:List Addr
 fn:Str->Bool
 calm:Bool
 pn:ZIW
 xe:Value->Shared->Prop
variable{X:Cx}
noncomputable def CS(l:List Env):List Addr:=l.filterMap (·.frame)
abbrev Cx.fs(X:Cx):List Addr:=CS X.outer
def SJ(sc:Scope)(x:Str):Prop:=sc.names.lookup x=some .local∨sc.names.lookup x=some .cell∨sc.names.lookup x=some .free
def Loc(sc:Scope)(x:Str):Prop:=sc.names.lookup x=some .local∨sc.names.lookup x=some .cell
def Look(env:Env)(h:Heap)(m:ZIX)(x:Str)(u:Value):Prop:=
 (env.kindOf x=some .local/\m x=some u)∨((env.kindOf x=some .cell∨env.kindOf x=some .free)/\∃c,env.cells.lookup x=some c/\h.IsCell c (some u))
structure Cx.Ok (X:Cx):Prop where
 mod:Mod X.K X.mg X.base
 kind:X.env.scope.kind=.function
 glob:X.env.globals=mainGlobals
 blt:X.env.builtins=builtinsNs
 above:X.s₀.heap.objs.size<=X.env.locals
 inj:∀x y c,X.env.cells.lookup x=some c->X.env.cells.lookup y=some c->x=y
 has:∀x,(X.env.kindOf x=some .cell∨X.env.kindOf x=some .free)->∃c,X.env.cells.lookup x=some c
 Kf:∀x c,X.fn x=true->X.env.cells.lookup x=some c->X.s₀.heap.objs.size<=c
 hd:X.calm=true->X.A.handled=none
 frames:X.A.frames=some X.stack
 Iy:X.stack=X.outer∨(X.stack=X.env::X.outer/\X.env.frame=some X.env.locals)
 LK:∀b∈X.ex,b≠X.env.locals/\∀x c,X.env.cells.lookup x=some c->c≠b
 bs:∀b o,X.base.get? b=some o->X.s₀.heap.get? b=some o/\X.H₀ b=none
 Gp:X.base.objs.size<=X.s₀.heap.objs.size
 Kh:∀b o,X.base.get? b=some o->b∉X.ex
 Jr:∀b∈X.ex,b∉X.fs
 FN:X.s₀.heap.FunFrames X.base X.outer
 Ih:∀b∈X.fs,X.H₀ b=none
structure Inv (X:Cx) (Zy:ZIW) (Z:List (Option V)) (H:Hp) (s:Shared):Prop where
 ok:X.Ok
 os:s.os=X.s₀.os
 bare:AllBare s.gens
 base:Un X.fs X.ex X.H₀ H X.s₀.heap s.heap
 loc:∃m,s.heap.Ns X.env.locals m/\∀(i:Nat)(x:Str)(v:V),X.N[i]?=some x->Z[i]?=some (some v)->SJ X.env.scope x->∃u,RelV v u/\Look X.env s.heap m x u
 cell:∀x c,X.env.cells.lookup x=some c->∃v,s.heap.IsCell c v
 free:H X.env.locals=none
 EE:∀x c,X.env.cells.lookup x=some c->H c=none
 pin:∀p∈X.pn++Zy,s.heap.get? p.1=some p.2/\H p.1=none/\p.1≠X.env.locals/\p.1∉X.fs/\∀v,p.2.data≠.cell v
 AJ:Bv X.prog X.w H s.heap
 len:Z.length=X.N.length
section
variable{Z:List (Option V)}
theorem Cx.Ok.ZEH(ok:X.Ok){o:Obj}(e:X.base.get? b=some o):b∉X.fs:=λa=>by
 have:=(ok.FN.mem a).1;rw[e]at this;cases this
theorem Inv.bs(I:Inv X Zy Z H s):∀b o,X.base.get? b=some o->s.heap.get? b=some o/\H b=none:=λb o e=>
 ⟨I.base.keep b o (I.ok.bs b o e).1 (I.ok.bs b o e).2 (I.ok.ZEH e) (I.ok.Kh b o e),I.base.free b o (I.ok.bs b o e).1 (I.ok.bs b o e).2 (I.ok.Kh b o e)⟩
theorem Inv.bk(I:Inv X Zy Z H s):∀b o,X.base.get? b=some o->s.heap.get? b=some o:=λb o e=>(I.bs b o e).1
theorem Inv.mod(I:Inv X Zy Z H s):Mod X.K X.mg X.base:=I.ok.mod
theorem Inv.Bt(I:Inv X Zy Z H s):X.K.In s.heap:=I.ok.mod.IX.keeps I.bk
theorem Inv.lt(I:Inv X Zy Z H s):X.env.locals<s.heap.objs.size:=let ⟨_,hn,_⟩:=I.loc;hn.lt
theorem Inv.sz(I:Inv X Zy Z H s):X.s₀.heap.objs.size<=s.heap.objs.size:=Bg I.ok.above (OK I.lt)
theorem Inv.pB(I:Inv X Zy Z H s)(h:s.heap.objs.size<=a):a∉X.fs:=λb=>by
 obtain⟨_,o,ho,_⟩:=I.ok.FN.mem b;exact absurd (De (BA ho) (Bg I.sz h)) (MZ _)
theorem Inv.GQ(I:Inv X Zy Z H s):∀x c,X.env.cells.lookup x=some c->c≠X.env.locals:=λx c e z=>by
 obtain⟨v,o,ho,hd⟩:=I.cell x c e;obtain⟨m,⟨o',es,a,ED,DI,_⟩,_⟩:=I.loc;rw[z,ED]at ho;cases ho;rw[DI]at hd;cases hd
theorem Inv.FN(I:Inv X Zy Z H s):s.heap.FunFrames X.base X.outer:=by
 have all:∀(l:List Env),(∀b∈CS l,b∈X.fs)->X.s₀.heap.FunFrames X.base l->s.heap.FunFrames X.base l:=by
  intro l
  induction l with
  |nil=>intro _ _;trivial
  |cons env r g=>
   intro f i;obtain⟨j,⟨L,o,a,hn,ho,hd⟩,h⟩:=i;have d:L∈X.fs:=f L (by unfold CS;rw[Ub,a];exact D5);obtain⟨sl,e⟩:=I.base.slot L o ho (I.ok.Ih L d) d λz=>I.ok.Jr L z d;exact⟨j,⟨L,_,a,hn,e,hd⟩,g (λb c=>f b (by unfold CS;rw[Ub,a];exact DP _ c)) h⟩
 exact all X.outer (λ_ c=>c) I.ok.FN
theorem Inv.stack(I:Inv X Zy Z H s):s.heap.FunFrames X.base X.stack:=by
 rcases I.ok.Iy with e|⟨e,hf⟩
 .rw[e];exact I.FN
 .rw[e];obtain⟨m,hn,_⟩:=I.loc;refine .cons (by rw[I.ok.kind];decide) hf hn ?_ I.FN;exact OE (Bg I.ok.Gp I.ok.above)
theorem Inv.P6(I:Inv X Zy Z H s):∀b∈CS X.stack,b∈X.env.locals::X.fs:=λb a=>by
 rcases I.ok.Iy with e|⟨e,hf⟩
 .rw[e]at a;exact DP _ a
 .rw[e]at a;unfold CS at a;rw[Ub,hf]at a;exact a
theorem Inv.UB(I:Inv X Zy Z H s):∀b∈CS X.stack,H b=none:=λb a=>by
 rcases List.mem_cons.mp (I.P6 b a)with e|a
 .rw[e];exact I.free
 .obtain⟨_,o,ho,_⟩:=I.ok.FN.mem a;exact I.base.free b o ho (I.ok.Ih b a) λz=>I.ok.Jr b z a
theorem Inv.step(I:Inv X Zy Z H s)
  (Iz:∀b∈ch,(b∈X.ex∨X.s₀.heap.objs.size<=b)/\b≠X.env.locals/\(∀x c,X.env.cells.lookup x=some c->c≠b)/\∀p∈X.pn++Zy,p.1≠b)
  (keep:∀b o,b≠X.env.locals->b∉X.fs->b∉ch->s.heap.get? b=some o->H b=none->h'.get? b=some o)
  (slot:∀b o,b≠X.env.locals->b∈X.fs->b∉ch->s.heap.get? b=some o->H b=none->∃sl,h'.get? b=some { o with slots:=sl }) (free:∀b o,b∉ch->s.heap.get? b=some o->H b=none->H' b=none)
  (there:∀b o,b∉ch->s.heap.get? b=some o->∃o',h'.get? b=some o')
  (GW:∀b xs,H b=some (.tup xs)->H' b=some (.tup xs)) (Fp:∀b o u,H b=some (.FD o u)->H' b=some (.FD o u)) (GR:∀b ps,H b=some (.K3 ps)->∃more,H' b=some (.K3 (ps++more)))
  (ns:∀m,s.heap.Ns X.env.locals m->h'.Ns X.env.locals m) (AJ:Bv X.prog X.w H' h') (hg:AllBare g') :
  Inv X Zy Z H' { s with heap:=h',gens:=g',drawn:=d',toks:=t' }:=by
 have D:∀b o,X.s₀.heap.get? b=some o->b≠X.env.locals:=λb o e=>Bn (De (BA e) I.ok.above);have t:∀b o,X.s₀.heap.get? b=some o->b∉X.ex->b∉ch:=λb o e hx g=>by
  rcases(Iz b g).1 with z|z
  .exact hx z
  .exact absurd (De (BA e) z) (MZ _)
 have a:∀x c,X.env.cells.lookup x=some c->∀v,s.heap.IsCell c v->h'.IsCell c v:=λx c e v AH=>by
  obtain⟨o,ho,hd⟩:=AH;have j:c∉ch:=λz=>(Iz c z).2.2.1 x c e rfl
  by_cases C:c∈X.fs
  .obtain⟨sl,q⟩:=slot c o (I.GQ x c e) C j ho (I.EE x c e);exact⟨_,q,hd⟩
  .exact⟨o,keep c o (I.GQ x c e) C j ho (I.EE x c e),hd⟩
 refine⟨I.ok,I.os,hg,⟨λb o e n g hx=>?_,λb o e n g hx=>?_,λb o e n hx=>?_,λb o e hx=>?_,λb xs e=>GW b xs (I.base.GW b xs e),λb o xs e=>Fp b o xs (I.base.Fp b o xs e),λb ps e=>?_⟩,?_,λx c e=>?_,?_,λx c e=>?_,λp B=>?_,AJ,I.len⟩
 .exact keep b o (D b o e) g (t b o e hx) (I.base.keep b o e n g hx) (I.base.free b o e n hx)
 .obtain⟨sl,f⟩:=I.base.slot b o e n g hx;obtain⟨y,h⟩:=slot b _ (D b o e) g (t b o e hx) f (I.base.free b o e n hx);exact⟨y,h⟩
 .obtain⟨o',f⟩:=I.base.there b o e hx;exact free b o' (t b o e hx) f (I.base.free b o e n hx)
 .obtain⟨o',f⟩:=I.base.there b o e hx;exact there b o' (t b o e hx) f
 .obtain⟨F,f⟩:=I.base.GR b ps e;obtain⟨E,h⟩:=GR b _ f;exact⟨F++E,by rw[h,Array.append_assoc]⟩
 .obtain⟨m,hn,G⟩:=I.loc;refine⟨m,ns m hn,λi x v f h J=>?_⟩;obtain⟨u,r,l⟩:=G i x v f h J;refine⟨u,r,?_⟩;rcases l with l|⟨k,c,e,z⟩
  .exact .inl l
  .exact .inr ⟨k,c,e,a x c e _ z⟩
 .obtain⟨v,z⟩:=I.cell x c e;exact⟨v,a x c e v z⟩
 .obtain⟨m,⟨o,_,_,ho,_⟩,_⟩:=I.loc;exact free _ o (λz=>(Iz _ z).2.1 rfl) ho I.free
 .obtain⟨v,o,ho,hd⟩:=I.cell x c e;exact free c o (λz=>(Iz c z).2.2.1 x c e rfl) ho (I.EE x c e)
 .obtain⟨e,n,ne,A,d⟩:=I.pin p B;have j:p.1∉ch:=λz=>(Iz p.1 z).2.2.2 p B rfl;exact⟨keep p.1 p.2 ne A j e n,free p.1 p.2 j e n,ne,A,d⟩
theorem Inv.un(I:Inv X Zy Z H s)(u:Un X.fs [] H H' s.heap h')(AJ:Bv X.prog X.w H' h'):Inv X Zy Z H' { s with heap:=h',toks:=t' }:=by
 obtain⟨m,⟨o,es,h,ho,r⟩,_⟩:=id I.loc;obtain⟨sl,f⟩:=u.any ho I.free (by simp);exact I.step (g':=s.gens) (d':=s.drawn) (ch:=[]) (λ_ z=>nomatch z) (λb o _ a _ e n=>u.keep b o e n a (by simp)) (λb o _ a _ e n=>u.slot b o e n a (by simp)) (λb o _ e n=>u.free b o e n (by simp)) (λb o _ e=>u.there b o e (by simp)) u.GW u.Fp u.GR (λg d=>by
  obtain⟨o',N8,VS,ED,c⟩:=d;rw[ho]at ED;cases ED;exact⟨_,N8,VS,f,c⟩) AJ I.bare
theorem Inv.call(I:Inv X Zy Z H s)(u:Un (CS X.stack) ch H H' s.heap h')(AJ:Bv X.prog X.w H' h')(h:AllBare g')
  (Iz:∀b∈ch,(b∈X.ex∨X.s₀.heap.objs.size<=b)/\b≠X.env.locals/\(∀x c,X.env.cells.lookup x=some c->c≠b)/\∀p∈X.pn++Zy,p.1≠b) :
  Inv X Zy Z H' { s with heap:=h',gens:=g',drawn:=d',toks:=t' }:=by
 obtain⟨m,⟨o,es,k,ho,r⟩,_⟩:=id I.loc;obtain⟨sl,d⟩:=u.any ho I.free λz=>(Iz _ z).2.1 rfl;exact I.step (ch:=ch) Iz (λb o d i a e n=>u.keep b o e n (λz=>(List.mem_cons.mp (I.P6 b z)).elim d i) a) (λb o _ _ a e n=>u.any e n a) (λb o a e n=>u.free b o e n a) (λb o a e=>u.there b o e a) u.GW u.Fp u.GR (λj g=>by
  obtain⟨o',N8,VS,ED,f⟩:=g;rw[ho]at ED;cases ED;exact⟨_,N8,VS,d,f⟩) AJ h
theorem Inv.turned(I:Inv X Zy Z H s)(k:∀b o,b≠it->s.heap.get? b=some o->h'.get? b=some o)(hn:H it=none)(d:it≠X.env.locals)
  (h1:it∈X.ex∨X.s₀.heap.objs.size<=it) (h2:∀x c,X.env.cells.lookup x=some c->c≠it) (i:∀p∈X.pn++Zy,p.1≠it):Inv X Zy Z H { s with heap:=h',toks:=t' }:=by
 have f:∀b u,H b=some u->b≠it:=λb u e z=>by rw[z,hn]at e;cases e
 refine I.step (g':=s.gens) (d':=s.drawn) (ch:=[it]) (λb h=>?_) (λb o _ _ a e _=>k b o (λz=>a (by simp[z])) e) (λb o _ _ a e _=>⟨o.slots,k b o (λz=>a (by simp[z])) e⟩) (λ_ _ _ _ n=>n)
  (λb o a e=>⟨o,k b o (λz=>a (by simp[z])) e⟩) (λ_ _ e=>e) (λ_ _ _ e=>e) (λb ps e=>⟨#[],by rw[e];simp⟩) (λm g=>?_) (λb u e=>?_) I.bare
 .have e:b=it:=by simpa using h
  subst e;exact⟨h1,d,h2,i⟩
 .obtain⟨o,es,j,ho,r⟩:=g;exact⟨o,es,j,k _ o (BN d) ho,r⟩
 .refine(I.AJ b u e).HG (λc v a q=>k c v ?_ q) (λ_ q=>q) λ_ _ q=>q;rcases a with z|z
  .rw[z];exact f b u e
  .exact f c _ z
theorem Inv.tok(I:Inv X Zy Z H s)(t:Nat):Inv X Zy Z H { s with toks:=t }:=I.un (h':=s.heap) (t':=t) Un.refl I.AJ
theorem Inv.kept(I:Inv X Zy Z H s)(k:∀b u,s.heap.get? b=some u->h'.get? b=some u):Inv X Zy Z H { s with heap:=h',toks:=t' }:=I.un (Un.kept k) (I.AJ.kept k)
theorem Inv.laid(I:Inv X Zy Z H s)(k:∀b u,s.heap.get? b=some u->h'.get? b=some u)(d:s.heap.objs.size<=a)(c:CC X.prog X.w (upd H a o) h' a o):
  Inv X Zy Z (upd H a o) { s with heap:=h',toks:=t' }:=I.un (Un.laid k d (I.AJ.fresh d)) (I.AJ.laid k d c)
theorem Inv.write{x e:Addr}(I:Inv X Zy Z H s)(c:Nd (H x))(d:e=x∨H e=some (.own x))(k:∀b u,b≠e->s.heap.get? b=some u->h'.get? b=some u)(Jq:∃u,h'.get? e=some u)
  (a:CC X.prog X.w (upd H x o) h' x o):Inv X Zy Z (upd H x o) { s with heap:=h',toks:=t' }:=I.un (Un.write c d k Jq) (I.AJ.write c d k Jq a)
theorem Inv.dY(I:Inv X Zy Z H s)(h:∀p∈lr,s.heap.get? p.1=some p.2/\H p.1=none/\p.1≠X.env.locals/\p.1∉X.fs/\∀v,p.2.data≠.cell v):Inv X lr Z H s:=
 ⟨I.ok,I.os,I.bare,I.base,I.loc,I.cell,I.free,I.EE,λp a=>(List.mem_append.mp a).elim (λz=>I.pin p (HY _ z)) (h p),I.AJ,I.len⟩
theorem Zn(c:N.Nodup)(a:N[i]?=some x)(b:N[j]?=some x):i=j:=by
 obtain⟨h1,e⟩:=List.getElem?_eq_some_iff.mp a;obtain⟨h2,d⟩:=List.getElem?_eq_some_iff.mp b;exact(ZHI c).mp (e.trans d.symm)
theorem V8{Q:Unit->Shared->Prop}(I:Inv X Zy Z H s)(V:X.N.Nodup)(hi:X.N[i]?=some x)(hx:Loc X.env.scope x)(r:RelV v u)
  (h:∀s',Inv X Zy (Z.set i (some v)) H s'->(∃a,Heap.SameBut a s.heap s'.heap/\(a=X.env.locals∨X.env.cells.lookup x=some a))->Q () s') (hf:X.fn x=true∨X.env.scope.names.lookup x=some .local:=by first|exact .inl rfl|exact .inr rfl|assumption):wpAny M A (storeName X.env x u) Q E s:=by
 obtain⟨m,hn,U⟩:=id I.loc;have Yh:(X.env.scope.kind == .class || (X.env.scope.kind == .module && X.env.locals != X.env.globals))=false:=by rw[I.ok.kind];rfl
 have hiσ:i<Z.length:=by rw[I.len];exact(List.getElem?_eq_some_iff.mp hi).1
 have GQ:=I.GQ;have g:∀{a:Addr}{h':Heap},(∃o,s.heap.get? a=some o/\H a=none)->Heap.SameBut a s.heap h'->Bv X.prog X.w H h':=λ{a h'}ha f b ob e=>by
  obtain⟨_,_,W⟩:=ha;refine(I.AJ b ob e).HG (λc F t q=>(f.2 c ?_).trans q) (λ_ q=>q) λ_ _ q=>q;rintro rfl;rcases t with rfl|t
  .rw[W]at e;cases e
  .rw[W]at t;cases t
 rcases hx with hk|hk
 .refine wpAny_storeName_local hk hn (λh' Js f=>?_) Yh;obtain⟨oL,_,_,IB,_⟩:=id hn;refine h _ ⟨I.ok,I.os,I.bare,⟨λb o e n D hx=>?_,λb o e n D hx=>?_,I.base.free,λb o e hx=>?_,I.base.GW,I.base.Fp,I.base.GR⟩,⟨_,Js,λj y J l B R=>?_⟩,λy c e=>?_,I.free,I.EE,λp P=>?_,g ⟨oL,IB,I.free⟩ f,by simpa using I.len⟩ ⟨_,f,.inl rfl⟩
  .exact(f.2 b (Bn (De (BA e) I.ok.above))).trans (I.base.keep b o e n D hx)
  .obtain⟨sl,l⟩:=I.base.slot b o e n D hx;exact⟨sl,(f.2 b (Bn (De (BA e) I.ok.above))).trans l⟩
  .obtain⟨o',l⟩:=I.base.there b o e hx;exact⟨o',(f.2 b (Bn (De (BA e) I.ok.above))).trans l⟩
  .by_cases C:j=i
   .subst C;rw[hi]at l;cases l;rw[Cm hiσ]at B;cases B;exact⟨u,r,.inl ⟨hk,by simp⟩⟩
   .rw[CJ (BN C)]at B;obtain⟨K,L,q⟩:=U j y J l B R;refine⟨K,L,?_⟩;rcases q with⟨k,e⟩|⟨k,c,e,z⟩
    .refine .inl ⟨k,?_⟩;have:y≠x:=λe=>C (Zn V l (e▸hi));simp[this,e]
    .exact .inr ⟨k,c,e,z.sameBut f (GQ y c e)⟩
  .obtain⟨F,z⟩:=I.cell y c e;exact⟨F,z.sameBut f (GQ y c e)⟩
  .obtain⟨e,n,ne,O,d⟩:=I.pin p P;exact⟨(f.2 p.1 ne).trans e,n,ne,O,d⟩
 .have S:X.fn x=true:=by
   rcases hf with z|z
   .exact z
   .rw[z]at hk;cases hk
  obtain⟨c,t⟩:=I.ok.has x (.inl hk);obtain⟨F,z⟩:=I.cell x c t;refine wpAny_storeName_cell I.ok.kind hk t z (λh' LG f=>?_);obtain⟨T,TX,ZDu⟩:=id z;refine h { s with heap:=h' } ⟨I.ok,I.os,I.bare,⟨λb o e n D hx=>?_,λb o e n D hx=>?_,I.base.free,λb o e hx=>?_,I.base.GW,I.base.Fp,I.base.GR⟩,⟨m,hn.sameBut f (BN (GQ x c t)),λj y J l B R=>?_⟩,λy G e=>?_,I.free,I.EE,λp P=>?_,g ⟨T,TX,I.EE x c t⟩ f,by simpa using I.len⟩ ⟨c,f,.inr t⟩
  .exact(f.2 b (Bn (De (BA e) (I.ok.Kf x c S t)))).trans (I.base.keep b o e n D hx)
  .obtain⟨sl,l⟩:=I.base.slot b o e n D hx;exact⟨sl,(f.2 b (Bn (De (BA e) (I.ok.Kf x c S t)))).trans l⟩
  .obtain⟨o',l⟩:=I.base.there b o e hx;exact⟨o',(f.2 b (Bn (De (BA e) (I.ok.Kf x c S t)))).trans l⟩
  .by_cases C:j=i
   .subst C;rw[hi]at l;cases l;rw[Cm hiσ]at B;cases B;exact⟨u,r,.inr ⟨.inl hk,c,t,LG⟩⟩
   .rw[CJ (BN C)]at B;obtain⟨K,L,q⟩:=U j y J l B R;refine⟨K,L,?_⟩;rcases q with q|⟨k,G,e,z'⟩
    .exact .inl q
    .refine .inr ⟨k,G,e,z'.sameBut f ?_⟩;rintro rfl;exact C (Zn V l (I.ok.inj _ _ _ e t▸hi))
  .by_cases Y:G=c
   .subst Y;exact⟨_,LG⟩
   .obtain⟨w2,σ⟩:=I.cell y G e;exact⟨w2,σ.sameBut f Y⟩
  .obtain⟨e,n,ne,O,d⟩:=I.pin p P;refine⟨(f.2 p.1 ?_).trans e,n,ne,O,d⟩;intro q;rw[q,TX]at e;have q':T=p.2:=Bo e;exact d F (by rw[<- q'];exact ZDu)
theorem Zg{Q:Unit->Shared->Prop}(I:Inv X Zy Z H s)(b:X.N.Nodup)(hi:X.N[i]?=some x)(hx:Loc X.env.scope x)(r:RelV v u)
  (h:∀s',Inv X Zy (Z.set i (some v)) H s'->Q () s') (a:X.fn x=true∨X.env.scope.names.lookup x=some .local:=by first|exact .inl rfl|exact .inr rfl|assumption):wpAny M A (storeName X.env x u) Q E s:=
 V8 I b hi hx r (λs' I' _=>h s' I') a
theorem Inv.ZEz(I:Inv X Zy Z H s)(ho:s'.os=s.os)(u:Un (CS X.stack) ch H H' s.heap s'.heap)(AJ:Bv X.prog X.w H' s'.heap)(a:AllBare s'.gens)
  (Iz:∀b∈ch,(b∈X.ex∨X.s₀.heap.objs.size<=b)/\b≠X.env.locals/\(∀x c,X.env.cells.lookup x=some c->c≠b)/\∀p∈X.pn++Zy,p.1≠b):Inv X Zy Z H' s':=by
 obtain⟨h',g',d',t',o'⟩:=s';have e:o'=s.os:=ho;subst e;exact I.call (g':=g') (t':=t') (d':=d') u AJ a Iz
end
abbrev XK:=Value->Option Addr->Hp->Prop
abbrev St:=List (Option V)
variable{Z:St}
abbrev VK:=V->Hp->Prop
abbrev TE:=St->Hp->VK->Prop
variable{ta tb tc te:TE}
abbrev TT:=St->Hp->(Bool->Hp->Prop)->Prop
abbrev TA:=St->Hp->(List V->Hp->Prop)->Prop
structure Ends where
 nx:St->Hp->Prop
 rt:VK
 bk:St->Hp->Prop:=λ_ _=>False
 ct:St->Hp->Prop:=λ_ _=>False
abbrev TS:=Ends->St->Hp->Prop
def EP(X:Cx)(Zy:ZIW)(Z:St)(Q:VK)(u:Value)(s':Shared):Prop:=∃v H',Inv X Zy Z H' s'/\RelV v u/\Q v H'
def TP(X:Cx)(Zy:ZIW)(Z:St)(Q:Bool->Hp->Prop)(b:Bool)(s':Shared):Prop:=∃H',Inv X Zy Z H' s'/\Q b H'
def AP(X:Cx)(Zy:ZIW)(Z:St)(Q:List V->Hp->Prop)(us:List Value)(s':Shared):Prop:=∃vs H',Inv X Zy Z H' s'/\Vals vs us/\Q vs H'
def SP(X:Cx)(Zy:ZIW)(D:Ends)(f:Flow)(s':Shared):Prop:=
 match f with
 | .next=>∃ σ' H',Inv X Zy σ' H' s'/\D.nx σ' H'
 | .brk=>∃ σ' H',Inv X Zy σ' H' s'/\D.bk σ' H'
 | .cont=>∃ σ' H',Inv X Zy σ' H' s'/\D.ct σ' H'
 | .ret u=>∃v σ' H',Inv X Zy σ' H' s'/\RelV v u/\D.rt v H'
def PE(X:Cx)(e:Expr)(t:TE):Prop:=
 ∀(Zy:ZIW)(s:Shared)(Z:St)(H:Hp)(Q:VK),Inv X Zy Z H s->t Z H Q->wpAny (model X.prog X.w) X.A (eval e X.env) (EP X Zy Z Q) X.xe s
def PT(X:Cx)(e:Expr)(t:TT):Prop:=
 ∀(Zy:ZIW)(s:Shared)(Z:St)(H:Hp)(Q:Bool->Hp->Prop),Inv X Zy Z H s->t Z H Q->wpAny (model X.prog X.w) X.A (isTrue e X.env (eval e X.env)) (TP X Zy Z Q) X.xe s
def PW(X:Cx)(e:Expr)(t:TT):Prop:=
 ∀(a:Sem Value)(Zy:ZIW)(s:Shared)(Z:St)(H:Hp)(Q:Bool->Hp->Prop),Inv X Zy Z H s->t Z H Q->wpAny (model X.prog X.w) X.A (isTrue e X.env a) (TP X Zy Z Q) X.xe s
theorem PW.pt{t:TT}(h:PW X e t):PT X e t:=h _
def PA(X:Cx)(es:List Expr)(t:TA):Prop:=
 ∀(pos:Pos)(Zy:ZIW)(s:Shared)(Z:St)(H:Hp)(Q:List V->Hp->Prop),Inv X Zy Z H s->t Z H Q->wpAny (model X.prog X.w) X.A (spliced (backTo pos (starEach es X.env))) (AP X Zy Z Q) X.xe s
def PS(X:Cx)(st:Stmt)(t:TS):Prop:=
 ∀(Zy:ZIW)(s:Shared)(Z:St)(H:Hp)(D:Ends),Inv X Zy Z H s->t D Z H->wpAny (model X.prog X.w) X.A (exec st X.env) (SP X Zy D) X.xe s
def DR(X:Cx)(st:List Stmt)(t:TS):Prop:=
 ∀(Zy:ZIW)(s:Shared)(Z:St)(H:Hp)(D:Ends),Inv X Zy Z H s->t D Z H->wpAny (model X.prog X.w) X.A (execs st X.env) (SP X Zy D) X.xe s
theorem AQ{t:Sem α}{Q Q':α->Shared->Prop}(h:wpAny M A t Q E s)(b:∀a s,Q a s->Q' a s):wpAny M A t Q' E s:=tN h b λ_ _ x=>x
section
def BS(i:Nat):TE:=λZ H Q=>∃v,Z[i]?=some (some v)/\Q v H
def tC(v:V):TE:=λ_ H Q=>Q v H
theorem nJ(n:X.N[i]?=some x)(g:SJ X.env.scope x)(hd:(x == ("__debug__":Str))=false:=by decide)(Ew:(x == ("__classdict__":Str))=false:=by decide):PE X (.Name x pos) (BS i):=by
 intro Zy s Z H Q I h;obtain⟨v,e,h⟩:=h;obtain⟨m,hn,k⟩:=I.loc;obtain⟨u,r,l⟩:=k i x v n e g;have b:EP X Zy Z Q u s:=⟨v,H,I,r,h⟩;rcases l with⟨a,j⟩|⟨a,c,d,f⟩
 .exact wpAny_Name (wpAny_loadName_local I.ok.kind a hn j b) hd
 .rcases a with a|a
  .exact wpAny_Name (wpAny_loadName_cell I.ok.kind a d f b) hd
  .exact wpAny_Name (wpAny_loadName_free I.ok.kind a d f b Ew) hd
def Gl(X:Cx)(x:Str):Prop:=X.env.kindOf x=some .globalImplicit
theorem JN(I:Inv X Zy Z H s)(b:Gl X x)(a:X.mg x=some u)(h:Q u s)
  (hd:(x == ("__debug__":Str))=false:=by decide):wpAny (model X.prog X.w) X.A (eval (.Name x pos) X.env) Q E s:=
 ZH4 I.ok.kind b (Calls.loadGlobal_global (by rw[I.ok.glob];exact I.mod.glob.keeps I.bk) a h) hd
theorem KG(I:Inv X Zy Z H s)(c:Gl X x)(b:X.mg x=none)(a:bootBuiltins x=some u)(h:Q u s)
  (hn:x ≠"__name__" := by decide) (hd:(x == ("__debug__":Str))=false:=by decide):wpAny (model X.prog X.w) X.A (eval (.Name x pos) X.env) Q E s:=by
 obtain⟨mb,h1,h2⟩:=I.mod.blt;exact ZH4 I.ok.kind c (Calls.loadGlobal_builtin (by rw[I.ok.glob];exact I.mod.glob.keeps I.bk) b (by rw[I.ok.blt];exact h1.keeps I.bk) ((h2 x hn).trans a) h) hd
theorem vL(c:Gl X x)(b:X.mg x=none)(a:bootBuiltins x=some u)(r:RelV v u)(hn:x ≠"__name__" := by decide)(hd:(x == ("__debug__":Str))=false:=by decide):PE X (.Name x pos) (tC v):=
 λ_ _ _ H _ I h=>KG I c b a ⟨v,H,I,r,h⟩ hn hd
variable{a b:Expr}
def PC(X:Cx)(op:CmpOp)(a b:Expr)(t:TE):Prop:=
 ∀(Zy:ZIW)(s:Shared)(Z:St)(H:Hp)(Q:VK),Inv X Zy Z H s->t Z H Q->
  wpAny (model X.prog X.w) X.A (eval a X.env) (λv d=>wpAny (model X.prog X.w) X.A (eval b X.env) (λu c=>wpAny (model X.prog X.w) X.A (compareOp op v u) (EP X Zy Z Q) X.xe c) X.xe d) X.xe s
theorem ZAH(b:Expr)(h:op≠.In)(h2:op≠.NotIn):behindInMarks op b=false:=by
 have c:(op == CmpOp.In)=false:=by cases op <;> first|rfl|exact absurd rfl h
 have a:(op == CmpOp.NotIn)=false:=by cases op <;> first|rfl|exact absurd rfl h2
 cases b <;> simp[behindInMarks,c,a]
def tB(t:TE):TT:=λZ H Q=>t Z H λx H1=>∃c,x=.bl c/\Q c H1
theorem ky{t:TE}(h:PC X op a b t)(h1:behindInMarks op b=false:=by first|exact ZAH _ (by decide) (by decide)|rfl):PT X (.Compare a [op] [b] pos) (tB t):=by
 intro Zy s Z H Q I hw;refine wpAny_isTrue_Compare1 (AQ (h Zy s Z H _ I hw) λv s1 h1=>AQ h1 λu s2 h2=>AQ h2 λc g⟨x,H1,I1,e,f⟩=>?_) h1;obtain⟨d,rfl,q⟩:=f;cases e;exact uD ⟨H1,I1,q⟩
variable{tA JL:TT}
def Tj(t u:TT):TT:=λZ H Q=>t Z H λc H1=>if c=true then u Z H1 Q else Q false H1
def ZO(t u:TT):TT:=λZ H Q=>t Z H λc H1=>if c=true then Q true H1 else u Z H1 Q
def TY(t:TT):TT:=λZ H Q=>t Z H λc H1=>Q (!c) H1
def Uo(ta tb:TE):TE:=λZ H Q=>ta Z H λx H1=>∃c,x=.bl c/\if c=true then tb Z H1 Q else Q (.bl false) H1
def VN(ta tb:TE):TE:=λZ H Q=>ta Z H λx H1=>∃c,x=.bl c/\if c=true then Q (.bl true) H1 else tb Z H1 Q
def YN(ta:TE):TE:=λZ H Q=>ta Z H λx H1=>∃c,x=.bl c/\Q (.bl (!c)) H1
end
def Ac(K:ZIV)(H:Hp)(a:Addr)(xs:List V):Prop:=
 Rd H a (.lst xs)∨
  ∃(o:Obj)(A5:Array Value)(n:Nat),K.lookup a=some o/\o.cls=.type "list" /\ o.dict=none/\o.data=.seq A5 n/\A5.size<=sizeLine/\Vals xs A5.toList
def AS(K:ZIV)(H:Hp)(a:Addr)(xs:List V):Prop:=
 Rd H a (.tup xs)∨
  ∃(o:Obj)(A5:Array Value)(n:Nat),K.lookup a=some o/\o.cls=.type "tuple" /\ o.data=.seq A5 n/\A5.size<=sizeLine/\Vals xs A5.toList
noncomputable def zl:Value->Option V
 | .none=>some .A8
 | .bool b=>some (.bl b)
 | .int i _=>some (.int i)
 | .str x _=>some (.str x)
 | .bytes b _=>some (.HH b)
 | .float b _=>some (.Jx b)
 | .ref a=>some (.ref a)
 | .type n=>some (.ty n)
 |_=>none
theorem RelV.abs{x:V}(r:RelV x u):zl u=some x:=by
 cases x with
 |A8=>cases r;rfl
 |bl _=>cases r;rfl
 |int _=>obtain⟨t,rfl⟩:=r;rfl
 |str _=>obtain⟨t,rfl⟩:=r;rfl
 |HH _=>obtain⟨t,rfl⟩:=r;rfl
 |Jx _=>obtain⟨t,rfl⟩:=r;rfl
 |ref _=>cases r;rfl
 |ty _=>cases r;rfl
theorem RelV.inj{x y:V}{u:Value}(r:RelV x u)(q:RelV y u):x=y:=Bo (r.abs.symm.trans q.abs)
theorem Vals.inj:∀{xs ys:List V}{us:List Value},Vals xs us->Vals ys us->xs=ys
 |_,_,_,.nil,.nil=>rfl
 |_,_,_,.cons r t,.cons r' t'=>by rw[r.inj r',Vals.inj t t']
section
variable{xs ys:List V}
theorem Ac.of{K:ZIV}(h:H a=some (.lst xs)):Ac K H a xs:=.inl (.inl h)
theorem AS.of{K:ZIV}(h:H a=some (.tup xs)):AS K H a xs:=.inl (.inl h)
theorem Inv.list(I:Inv X Zy Z H s)(h:Ac X.K H a xs):∃A5:List Value,Vals xs A5/\PlainL s.heap a A5.toArray/\xs.length<=sizeLine:=by
 rcases h with h|⟨o,A5,n,hk,hc,hd,hs,hz,r⟩
 .obtain⟨z,A5,n,r,e⟩:=h.ok I.AJ;exact⟨A5,r,⟨_,n,e,rfl,rfl,rfl⟩,z⟩
 .refine⟨A5.toList,r,⟨o,n,I.Bt a o hk,hc,hd,by simpa using hs⟩,?_⟩
  have e:=r.length;simp only[MU]at e;omega
theorem Inv.tuple(I:Inv X Zy Z H s)(h:AS X.K H a xs):∃A5:List Value,Vals xs A5/\IsTup s.heap a A5.toArray/\xs.length<=sizeLine:=by
 rcases h with h|⟨o,A5,n,hk,hc,hs,hz,r⟩
 .obtain⟨z,A5,r,p⟩:=h.ok I.AJ;exact⟨A5,r,p.1,z⟩
 .refine⟨A5.toList,r,⟨o,I.Bt a o hk,hc,n,by simpa using hs⟩,?_⟩
  have e:=r.length;simp only[MU]at e;omega
theorem Inv.dU(I:Inv X Zy Z H s)(h:Ac X.K H a xs)(h':Ac X.K H a ys):xs=ys:=by
 obtain⟨A5,r,⟨o,n,e,_,_,d⟩,_⟩:=I.list h;obtain⟨its',c,⟨o',f,b,_,_,d'⟩,_⟩:=I.list h';rw[e]at b;cases b;rw[d]at d';injection d' with d1 _
 have:A5=its':=by simpa using tq Array.toList d1
 subst this;exact r.inj c
theorem Inv.PJ(I:Inv X Zy Z H s)(h:AS X.K H a xs)(h':AS X.K H a ys):xs=ys:=by
 obtain⟨A5,r,⟨o,e,_,n,d⟩,_⟩:=I.tuple h;obtain⟨its',c,⟨o',b,_,f,d'⟩,_⟩:=I.tuple h';rw[e]at b;cases b;rw[d]at d';injection d' with d1 _
 have:A5=its':=by simpa using tq Array.toList d1
 subst this;exact r.inj c
end
noncomputable abbrev Cx.IW(X:Cx)(E:Value->Shared->Prop):Cx:={ X with xe:=E }
noncomputable abbrev Cx.PX(X:Cx):Cx:=X.IW λ_ _=>False
theorem Cx.Ok.IW(ok:X.Ok)(E:Value->Shared->Prop):(X.IW E).Ok:=
 ⟨ok.mod,ok.kind,ok.glob,ok.blt,ok.above,ok.inj,ok.has,ok.Kf,ok.hd,ok.frames,ok.Iy,ok.LK,ok.bs,ok.Gp,ok.Kh,ok.Jr,ok.FN,ok.Ih⟩
theorem Cx.Ok.Km(ok:(X.IW E).Ok):X.Ok:=
 ⟨ok.mod,ok.kind,ok.glob,ok.blt,ok.above,ok.inj,ok.has,ok.Kf,ok.hd,ok.frames,ok.Iy,ok.LK,ok.bs,ok.Gp,ok.Kh,ok.Jr,ok.FN,ok.Ih⟩
section
theorem Inv.IW(I:Inv X Zy Z H s)(E:Value->Shared->Prop):Inv (X.IW E) Zy Z H s:=⟨I.ok.IW E,I.os,I.bare,I.base,I.loc,I.cell,I.free,I.EE,I.pin,I.AJ,I.len⟩
theorem Inv.Km(I:Inv (X.IW E) Zy Z H s):Inv X Zy Z H s:=⟨I.ok.Km,I.os,I.bare,I.base,I.loc,I.cell,I.free,I.EE,I.pin,I.AJ,I.len⟩
theorem SP.Km{D:Ends}{f:Flow}(h:SP (X.IW E) Zy D f s'):SP X Zy D f s':=by
 cases f with
 |next=>obtain⟨σ',H',I,q⟩:=h;exact⟨σ',H',I.Km,q⟩
 |brk=>obtain⟨σ',H',I,q⟩:=h;exact⟨σ',H',I.Km,q⟩
 |cont=>obtain⟨σ',H',I,q⟩:=h;exact⟨σ',H',I.Km,q⟩
 |ret u=>obtain⟨v,σ',H',I,r,q⟩:=h;exact⟨v,σ',H',I.Km,r,q⟩
theorem DR.PX{st:List Stmt}{t:TS}(h:DR X.PX st t):DR X st t:=λZy s Z H D I hw=>
 tN (h Zy s Z H D (I.IW _) hw) (λ_ _ q=>q.Km) λ_ _ z=>False.elim z
variable{st:Stmt}{rest:List Stmt}{t u:TS}
def RE:TS:=λD Z H=>D.nx Z H
def LZ(t u:TS):TS:=λD Z H=>t { D with nx:=u D } Z H
theorem Lz:DR X [] RE:=λ_ _ Z H _ I h=>vx ⟨Z,H,I,h⟩
theorem GD(h1:PS X st t)(h2:DR X rest u):DR X (st::rest) (LZ t u):=by
 intro Zy s Z H D I h;refine wpAny_execs_cons (AQ (h1 Zy s Z H { D with nx:=u D } I h) λf s1 q=>?_)
 cases f with
 |next=>
  obtain⟨σ',H',I',q⟩:=q;exact h2 Zy s1 σ' H' D I' q
 |ret v=>exact q
 |brk=>exact q
 |cont=>exact q
theorem ZGG(h1:PS X st t):DR X [st] t:=by
 intro Zy s Z H D I h;refine wpAny_execs_cons (AQ (h1 Zy s Z H D I h) λf s1 q=>?_);cases f with
 |next=>exact vx q
 |ret v=>exact q
 |brk=>exact q
 |cont=>exact q
theorem Inv.quiet(I:Inv X Zy Z H s):interactive X.env=false:=by simp[interactive,I.ok.kind]
def Kt(te:TE):TS:=λD Z H=>te Z H λ_ H1=>D.nx Z H1
theorem MB(c:PE X e te)(b:swapsWith e none pos.line X.env=pure false:=by rfl):PS X (.Expr e pos) (Kt te):=by
 intro Zy s Z H D I h;exact wpAny_Expr_any (AQ (c Zy s Z H _ I h) λv s1 AH=>by obtain⟨x,H1,I1,d,a⟩:=AH;exact⟨Z,H1,I1,a⟩) I.quiet b
def Gf(te:TE):TS:=λD Z H=>te Z H D.rt
def NS(c:TT)(t u:TS):TS:=λD Z H=>c Z H λb H1=>if b=true then t D Z H1 else u D Z H1
end
abbrev TG:=V->St->Hp->(St->Hp->Prop)->Prop
abbrev Ic:=List V->St->Hp->(St->Hp->Prop)->Prop
def PG(X:Cx)(a:Expr)(t:TG):Prop:=
 ∀(Zy:ZIW)(s:Shared)(Z:St)(H:Hp)(v:V)(u:Value)(Q:St->Hp->Prop),Inv X Zy Z H s->RelV v u->t v Z H Q->
  wpAny (model X.prog X.w) X.A (assign a X.env u) (λ_ s'=>∃ σ' H',Inv X Zy σ' H' s'/\Q σ' H') X.xe s
def PM(X:Cx)(ts:List Expr)(t:Ic):Prop:=
 ∀(Zy:ZIW)(s:Shared)(Z:St)(H:Hp)(vs:List V)(us:List Value)(Q:St->Hp->Prop),Inv X Zy Z H s->Vals vs us->t vs Z H Q->
  wpAny (model X.prog X.w) X.A (assignInOrder ((assignEach ts X.env).map (·.2)) us) (λ_ s'=>∃ σ' H',Inv X Zy σ' H' s'/\Q σ' H') X.xe s
abbrev SY:=V->V->V->Hp->(Hp->Prop)->Prop
def Vd(X:Cx)(t:SY):Prop:=
 ∀(Zy:ZIW)(s:Shared)(Z:St)(H:Hp)(o i v:V)(a b u:Value)(Q:Hp->Prop),Inv X Zy Z H s->RelV o a->RelV i b->RelV v u->t o i v H Q->
  wpAny (model X.prog X.w) X.A (setItem a b u) (λ_ s'=>∃H',Inv X Zy Z H' s'/\Q H') X.xe s
abbrev j3:=V->V->Hp->VK->Prop
def xG(X:Cx)(op:Operator)(t:j3):Prop:=
 ∀(Zy:ZIW)(s:Shared)(Z:St)(H:Hp)(x y:V)(v u:Value)(Q:VK),Inv X Zy Z H s->RelV x v->RelV y u->t x y H Q->
  wpAny (model X.prog X.w) X.A (inplaceOp op v u) (EP X Zy Z Q) X.xe s
def Cd(i:Nat):TG:=λv Z H Q=>Q (Z.set i (some v)) H
theorem dB(b:X.N.Nodup)(hi:X.N[i]?=some x)(hx:Loc X.env.scope x)(a:X.fn x=true∨X.env.scope.names.lookup x=some .local:=by first|exact .inl rfl|exact .inr rfl|assumption):PG X (.Name x pos) (Cd i):=by
 intro Zy s Z H v u Q I r h;exact wpAny_assign_Name (Zg I b hi hx r (λs' I'=>⟨_,H,I',h⟩) a)
def Oa:Ic:=λvs Z H Q=>vs=[]/\Q Z H
def IE(t:TG)(u:Ic):Ic:=λvs Z H Q=>∃v r,vs=v::r/\t v Z H λσ' H'=>u r σ' H' Q
def QD(K:ZIV)(n:Nat)(t:Ic):TG:=λv Z H Q=>∃a xs,v=.ref a/\AS K H a xs/\xs.length=n/\t xs Z H Q
def Ww(to ti:TE)(t:SY):TG:=λv Z H Q=>to Z H λo H1=>ti Z H1 λi H2=>t o i v H2 λH3=>Q Z H3
def Ep(te:TE)(g:TG):TS:=λD Z H=>te Z H λx H1=>g x Z H1 D.nx
def hV(f:Int->Int->Int):j3:=λx y H Q=>∃i j,x=.int i/\y=.int j/\Q (.int (f i j)) H
theorem W9:xG X .Add (hV λi j=>i+j):=by
 intro Zy s Z H x y v u Q I b a h;obtain⟨i,j,d,c,q⟩:=h;subst d;subst c;obtain⟨t,rfl⟩:=b;obtain⟨t',rfl⟩:=a;exact iadd_int ⟨.int _,H,I.tok _,⟨_,rfl⟩,q⟩
def dR(c:TT)(tb:TS):TS:=λD Z H=>∃W:Nat->St->Hp->Prop,(∃m,W m Z H)/\∀m Z H,W m Z H->
 c Z H λb H1=>if b=true then ∃N:St->Hp->Prop,(∀ σ' H',N σ' H'->∃a,a < m/\W a σ' H')/\tb { D with nx:=N,ct:=N,bk:=D.nx } Z H1 else D.nx Z H1
structure It where
 go:Nat->Hp->Prop
 HA:Nat->Hp->V->Hp->Prop
 stop:Nat->Hp->Prop
def Ej(X:Cx)(Zy:ZIW)(H:Hp)(b:Addr):Prop:=
 H b=none/\b≠X.env.locals/\b∉X.fs/\(b∈X.ex∨X.s₀.heap.objs.size<=b)/\(∀x c,X.env.cells.lookup x=some c->c≠b)/\∀p∈X.pn++Zy,p.1≠b
theorem Inv.Ol(I:Inv X Zy Z H s)(a:s.heap.objs.size<=b)(hn:H' b=none):Ej X Zy H' b:=by
 refine⟨hn,OL (De I.lt a),I.pB a,.inr (Bg I.sz a),λx c e z=>?_,λp d z=>?_⟩
 .obtain⟨v,q⟩:=I.cell x c e;exact absurd (De q.lt (by rw[z];exact a)) (MZ _)
 .exact absurd (De (BA (I.pin p d).1) (by rw[z];exact a)) (MZ _)
structure Turn (P:Program) (w:World) (K:ZIV) (tg:Expr) (J:It) (fp:List Addr) (it:Addr) (tn:Nat->Heap->Prop):Prop where
 mem:it∈fp
 obj:∀i h,tn i h->∀b∈fp,∃o,h.get? b=some o/\∀v,o.data≠.cell v
 keep:∀i h h',tn i h->(∀b∈fp,∀o,h.get? b=some o->h'.get? b=some o)->tn i h'
 item:∀(X:Cx),X.prog=P->X.w=w->X.K=K->X.calm=true->∀(i:Nat)(Zy:ZIW)(s:Shared)(Z:St)(H:Hp)(E:Value->Shared->Prop),Inv X Zy Z H s->(∀b∈fp,Ej X Zy H b)->tn i s.heap->J.go i H->
  wpAny (model P w) X.A (pyNext (.ref it)) (λr s1=>∃u,r=some u/\
   wpAny (model P w) X.A (letOwnedTupleGo tg (.ref it) u) (λ_ s2=>∃x H',Inv X Zy Z H' s2/\RelV x u/\J.HA i H x H'/\tn (i+1) s2.heap/\∀b∈fp,H' b=none) E s1) E s
 done:∀(X:Cx),X.prog=P->X.w=w->X.K=K->X.calm=true->∀(i:Nat)(Zy:ZIW)(s:Shared)(Z:St)(H:Hp)(E:Value->Shared->Prop),Inv X Zy Z H s->(∀b∈fp,Ej X Zy H b)->tn i s.heap->J.stop i H->
  wpAny (model P w) X.A (pyNext (.ref it)) (λr s1=>r=none/\Inv X Zy Z H s1) E s
 self:∀(A:Around)(i:Nat)(s:Shared)(Q:Value->Shared->Prop)(E:Value->Shared->Prop),tn i s.heap->Q (.ref it) s->wpAny (model P w) A (pyIter (.ref it)) Q E s
abbrev TI:=St->Hp->(It->Hp->Prop)->Prop
def nM(X:Cx)(Zy:ZIW)(Z:St)(tg:Expr)(R:It->Hp->Prop)(US:Value)(s2:Shared):Prop:=
 ∃(it:Addr)(fp:List Addr)(tn:Nat->Heap->Prop)(J:It)(H':Hp),US=.ref it/\Inv X Zy Z H' s2/\Turn X.prog X.w X.K tg J fp it tn/\tn 0 s2.heap/\(∀b∈fp,Ej X Zy H' b)/\R J H'
def PI(X:Cx)(tg iter:Expr)(wi:TI):Prop:=
 ∀(Zy:ZIW)(s:Shared)(Z:St)(H:Hp)(R:It->Hp->Prop),Inv X Zy Z H s->wi Z H R->
  wpAny (model X.prog X.w) X.A (eval iter X.env) (λv s1=>wpAny (model X.prog X.w) X.A (pyIter v) (nM X Zy Z tg R) X.xe s1) X.xe s
theorem TF{o:Obj}{n:String}{vs:Array Value}{Q:Unit->Shared->Prop}(ho:s.heap.get? it=some o)(b:o.cls=.type n)(hd:o.data=.fields vs)
  (hn:["enumerate","zip","dict_itemiterator","dict_reverseitemiterator","odict_iterator","itertools.zip_longest","itertools.pairwise"].contains n=false) (a:Q () s):wpAny M A (letOwnedTupleGo tg (.ref it) u) Q E s:=by
 unfold letOwnedTupleGo;cases tg <;> first
  |exact qh a
  | (cases u <;> first
    |exact qh a
    | (
      refine oS (wpAny_load ho ?_);rw[b,hd];show wpAny M A (if(["enumerate","zip","dict_itemiterator","dict_reverseitemiterator","odict_iterator","itertools.zip_longest","itertools.pairwise"].contains n && vs[0]? == some (rawInt _))=true then _ else _) Q E s
      rw[qP (by intro h;rw[hn,Bool.false_and]at h;cases h)];exact qh a))
noncomputable def Itl(K:ZIV)(a:Addr):It:=
 ⟨λi H=>∃xs x,Ac K H a xs/\xs[i]?=some x,λi H x H'=>H'=H/\∀xs,Ac K H a xs->xs[i]?=some x,λi H=>∃xs,Ac K H a xs/\xs.length<=i⟩
noncomputable def Itt(K:ZIV)(a:Addr):It:=
 ⟨λi H=>∃xs x,AS K H a xs/\xs[i]?=some x,λi H x H'=>H'=H/\∀xs,AS K H a xs->xs[i]?=some x,λi H=>∃xs,AS K H a xs/\xs.length<=i⟩
noncomputable def MF(lo:Int)(n:Nat):It:=⟨λi _=>i<n,λi H x H'=>H'=H/\x=.int (lo+i),λi _=>n<=i⟩
theorem QP{P:Program}{K:ZIV}(a it:Addr):Turn P w K tg (Itl K a) [it] it (λi h=>h.IsListIter it a i) where
 mem:=by simp
 obj:=λi h st b f=>by
  have e:b=it:=by simpa using f
  subst e;obtain⟨o,e,c,d⟩:=st;exact⟨o,e,λv z=>by rw[d]at z;cases z⟩
 keep:=λi h h' st k=>st.at λo e=>k it (by simp) o e
 item:=by
  intro X n hw q B i Zy s Z H E I j st m;subst n hw q;obtain⟨xs,x,g,hx⟩:=m;obtain⟨A5,l,p,F⟩:=I.list g;obtain⟨u,J,D⟩:=l.get hx;obtain⟨f0,A,L,y,t,r⟩:=j it (by simp);refine wpAny_pyNext_list_item st p.isList (x:=u) (by simpa using J) λh' AF C=>?_
  have N:Inv X Zy Z H { s with heap:=h' }:=I.turned (t':=s.toks) (λb o f e=>(C.2 b f).trans e) f0 A y t r
  obtain⟨o,e,c,d⟩:=id AF;exact⟨u,rfl,TF (s:={ s with heap:=h' }) e c d (by decide) ⟨x,H,N,D,⟨rfl,λys G=>by rw[I.dU G g];exact hx⟩,AF,λb f=>(j b f).1⟩⟩
 done:=by
  intro X n hw q B i Zy s Z H E I j st m;subst n hw q;obtain⟨xs,g,hx⟩:=m;obtain⟨A5,l,p,F⟩:=I.list g;obtain⟨f0,A,L,y,t,r⟩:=j it (by simp);have O:=l.length;exact wpAny_pyNext_list_end (I.ok.hd B) st p.isList (by simp;omega) λh' M=>⟨rfl,I.turned (t':=s.toks) (λb o f e=>M b o f e) f0 A y t r⟩
 self:=λ_ _ _ _ _ st h=>wpAny_pyIter_listiter st h
theorem Oo{P:Program}{K:ZIV}(a it:Addr):Turn P w K tg (Itt K a) [it] it (λi h=>h.IsTupleIter it a i) where
 mem:=by simp
 obj:=λi h st b f=>by
  have e:b=it:=by simpa using f
  subst e;obtain⟨o,e,c,d⟩:=st;exact⟨o,e,λv z=>by rw[d]at z;cases z⟩
 keep:=λi h h' st k=>st.at λo e=>k it (by simp) o e
 item:=by
  intro X n hw q B i Zy s Z H E I j st m;subst n hw q;obtain⟨xs,x,g,hx⟩:=m;obtain⟨A5,l,p,F⟩:=I.tuple g;obtain⟨u,J,D⟩:=l.get hx;obtain⟨f0,A,L,y,t,r⟩:=j it (by simp);refine wpAny_pyNext_tuple_item st (show s.heap.IsTuple a A5.toArray from p) (x:=u) (by simpa using J) λh' AF C=>?_
  have N:Inv X Zy Z H { s with heap:=h' }:=I.turned (t':=s.toks) (λb o f e=>(C.2 b f).trans e) f0 A y t r
  obtain⟨o,e,c,d⟩:=id AF;exact⟨u,rfl,TF (s:={ s with heap:=h' }) e c d (by decide) ⟨x,H,N,D,⟨rfl,λys G=>by rw[I.PJ G g];exact hx⟩,AF,λb f=>(j b f).1⟩⟩
 done:=by
  intro X n hw q B i Zy s Z H E I j st m;subst n hw q;obtain⟨xs,g,hx⟩:=m;obtain⟨A5,l,p,F⟩:=I.tuple g;obtain⟨f0,A,L,y,t,r⟩:=j it (by simp);have O:=l.length;exact wpAny_pyNext_tuple_end (I.ok.hd B) st (show s.heap.IsTuple a A5.toArray from p) (by simp;omega) λh' M=>⟨rfl,I.turned (t':=s.toks) (λb o f e=>M b o f e) f0 A y t r⟩
 self:=λ_ _ _ _ _ st h=>wpAny_pyIter_tupleiter st h
theorem ZFO{P:Program}{K:ZIV}(it:Addr)(lo:Int)(n:Nat):Turn P w K tg (MF lo n) [it] it (λi h=>IsRangeIter h it (lo+(i:Nat) * 1) ((n:Int) - (i:Nat)) 1) where
 mem:=by simp
 obj:=λi h st b a=>by
  have e:b=it:=by simpa using a
  subst e;exact⟨_,st,λv z=>by
   have r:Data.fields _=Data.cell v:=z;cases r⟩
 keep:=λi h h' st k=>k it (by simp) _ st
 item:=by
  intro X g hw j f i Zy s Z H E I c st d;subst g hw j;obtain⟨f0,q,x,p,m,l⟩:=c it (by simp);have W:=Walks.range (prog:=X.prog) (w:=X.w) (I.ok.hd f) it lo 1 n;refine W.item i s _ _ d st λv h' tk u AF kk=>?_;obtain⟨t,rfl⟩:=u;have A:Inv X Zy Z H { s with heap:=h',toks:=tk }:=I.turned (λb o a e=>kk b o (by simpa using a) e) f0 q p m l
  refine⟨_,rfl,TF (s:={ s with heap:=h',toks:=tk }) (n:="range_iterator") AF rfl rfl (by decide) ⟨.int (lo+i),H,A,⟨t,?_⟩,⟨rfl,rfl⟩,AF,λb a=>(c b a).1⟩⟩
  rw[Int.mul_one]
 done:=by
  intro X g hw j f i Zy s Z H E I c st d;subst g hw j;obtain⟨f0,q,x,p,m,l⟩:=c it (by simp);exact wpAny_pyNext_range_end (I.ok.hd f) st (by have:n<=i:=d;omega) λh' y=>⟨rfl,I.turned (t':=s.toks) (λb o a e=>y b o a e) f0 q p m l⟩
 self:=λ_ _ _ _ _ st h=>wpAny_pyIter_rangeiter st h
theorem lL{R:It->Hp->Prop}{lo hi:Int}{t u v:Tok}(I:Inv X Zy Z H s)(h1:-(2 ^ 62)<=lo)(h2:lo<2 ^ 62)(f:-(2 ^ 62)<=hi)(d:hi<2 ^ 62)
  (q:R (MF lo (hi - lo).toNat) H):wpAny (model X.prog X.w) X.A (pyIter (.ref s.heap.objs.size)) (nM X Zy Z tg R) E { s with heap:=s.heap.push { cls:=.type "range", data:=.fields #[.int lo t,.int hi u,.int 1 v] },toks:=tk }:=by
 refine wpAny_pyIter_range (IsRange.new ..) (small_one h1 h2 f d) ?_;have a:Inv X Zy Z H { s with heap:=s.heap.push { cls:=.type "range", data:=.fields #[.int lo t,.int hi u,.int 1 v] },toks:=tk }:=I.kept λb o e=>Bb _ e
 refine⟨(s.heap.push { cls:=.type "range", data:=.fields #[.int lo t,.int hi u,.int 1 v] }).objs.size,[(s.heap.push { cls:=.type "range", data:=.fields #[.int lo t,.int hi u,.int 1 v] }).objs.size],_,_,H,rfl,
  a.kept (t':=tk) λb o e=>Bb _ e,ZFO _ lo (hi - lo).toNat,?_,λb c=>?_,q⟩
 .have h:lo+((0:Nat):Int) * 1=lo:=by simp
  have g:(((hi - lo).toNat:Nat):Int) - ((0:Nat):Int)=Builtin.Range.rangeSize lo hi 1:=by rw[rangeSize_one];split <;> omega
  show IsRangeIter _ _ (lo+((0:Nat):Int) * 1) ((((hi - lo).toNat:Nat):Int) - ((0:Nat):Int)) 1;rw[h,g];exact CI _ rfl
 .have e:b=(s.heap.push { cls:=.type "range", data:=.fields #[.int lo t,.int hi u,.int 1 v] }).objs.size:=by simpa using c
  subst e;exact a.Ol (Az _) (a.AJ.fresh (Az _))
def WG(ta:TA):TI:=λZ H R=>ta Z H λvs H1=>∃j:Int,vs=[.int j]/\-(2 ^ 62)<=j/\j<2 ^ 62/\R (MF 0 j.toNat) H1
def WQ(ta:TA):TI:=λZ H R=>ta Z H λvs H1=>∃i j:Int,vs=[.int i,.int j]/\(-(2 ^ 62)<=i/\i<2 ^ 62/\-(2 ^ 62)<=j/\j<2 ^ 62)/\R (MF i (j - i).toNat) H1
def Yc(wi:TI)(g:TG)(tb:TS):TS:=λD Z H=>wi Z H λJ H1=>∃W:Nat->Nat->St->Hp->Prop,(∃m,W 0 m Z H1)/\∀i m Z H,W i m Z H->
 (J.stop i H/\D.nx Z H)∨(J.go i H/\∃N:St->Hp->Prop,(∀ σ' H',N σ' H'->∃a,a < m/\W (i+1) a σ' H')/\∀x H',J.HA i H x H'->g x Z H' λσ2 H2=>tb { D with nx:=N,ct:=N,bk:=D.nx } σ2 H2)
noncomputable def Qk(fp:List Addr)(h:Heap):ZIW:=fp.filterMap λb=>(h.get? b).map λo=>(b,o)
theorem Rg{h:Heap}{o:Obj}(a:b∈fp)(e:h.get? b=some o):(b,o)∈Qk fp h:=List.mem_filterMap.mpr ⟨b,a,by rw[e];rfl⟩
theorem ZA0{h:Heap}{p:Addr×Obj}(a:p∈Qk fp h):p.1∈fp/\h.get? p.1=some p.2:=by
 obtain⟨b,c,e⟩:=List.mem_filterMap.mp a;cases q:h.get? b with
 |none=>rw[q]at e;cases e
 |some o=>
  rw[q]at e;have d:(b,o)=p:=Bo e;subst d;exact⟨c,q⟩
theorem Inv.pinned(I:Inv X Zy Z H s)(g:∀b∈fp,Ej X Zy H b)(ho:∀b∈fp,∃o,s.heap.get? b=some o/\∀v,o.data≠.cell v):Inv X (Zy++Qk fp s.heap) Z H s:=
 I.dY λp f=>(List.mem_append.mp f).elim (λz=>I.pin p (FY _ z)) λz=>by
  obtain⟨a,e⟩:=ZA0 z;obtain⟨f0,i,h,_⟩:=g p.1 a;obtain⟨o,c,d⟩:=ho p.1 a;rw[e]at c;cases c;exact⟨e,f0,i,h,d⟩
theorem Inv.Pe{pl:ZIW}(I:Inv X (Zy++pl) Z H s):Inv X Zy Z H s:=I.dY λp a=>I.pin p (FY _ (HY _ a))
theorem ZAl{lo:Int}{g:TG}{tb:TS}{D:Ends}(Pv:Nat->St->Hp->Prop)(f:Pv 0 Z H)
  (d:∀i Z H,i<n->Pv i Z H->g (.int (lo+i)) Z H λσ2 H2=>tb { D with nx:=Pv (i+1),ct:=Pv (i+1),bk:=D.nx } σ2 H2) (hd:∀ Z H,Pv n Z H->D.nx Z H) :
  ∃W:Nat->Nat->St->Hp->Prop,(∃m,W 0 m Z H)/\∀i m Z H,W i m Z H->
   ((MF lo n).stop i H/\D.nx Z H)∨((MF lo n).go i H/\∃N:St->Hp->Prop,(∀ σ' H',N σ' H'->∃b,b < m/\W (i+1) b σ' H')/\∀x H',(MF lo n).HA i H x H'->g x Z H' λσ2 H2=>tb { D with nx:=N,ct:=N,bk:=D.nx } σ2 H2):=by
 refine⟨λi m Z H=>m=n - i/\i<=n/\Pv i Z H,⟨n,by simp,Cn _,f⟩,?_⟩;rintro i m Z H⟨rfl,hi,p⟩
 by_cases a:i<n
 .refine .inr ⟨a,Pv (i+1),λσ' H' c=>⟨n - (i+1),by omega,rfl,a,c⟩,λx H' y=>?_⟩;obtain⟨e,y⟩:=y;subst e y;exact d i Z _ a p
 .have e:i=n:=by omega
  subst e;exact .inl ⟨Az _,hd Z H p⟩
abbrev R2:=V->V->Hp->VK->Prop
def BX(X:Cx)(f:Value->Value->Sem Value)(r:R2):Prop:=
 ∀(Zy:ZIW)(s:Shared)(Z:St)(H:Hp)(x y:V)(v u:Value)(Q:VK),Inv X Zy Z H s->RelV x v->RelV y u->r x y H Q->
  wpAny (model X.prog X.w) X.A (f v u) (EP X Zy Z Q) X.xe s
def UR(X:Cx)(f:Value->Sem Value)(r:V->Hp->VK->Prop):Prop:=
 ∀(Zy:ZIW)(s:Shared)(Z:St)(H:Hp)(x:V)(v:Value)(Q:VK),Inv X Zy Z H s->RelV x v->r x H Q->
  wpAny (model X.prog X.w) X.A (f v) (EP X Zy Z Q) X.xe s
def DW(X:Cx)(f:Value)(r:List V->Hp->VK->Prop):Prop:=
 ∀(Zy:ZIW)(s:Shared)(Z:St)(H:Hp)(xs:List V)(us:List Value)(Q:VK),Inv X Zy Z H s->Vals xs us->r xs H Q->
  wpAny (model X.prog X.w) X.A (call f us) (EP X Zy Z Q) X.xe s
def C5(r:R2)(ta tb:TE):TE:=λZ H Q=>ta Z H λx H1=>tb Z H1 λy H2=>r x y H2 Q
def OP(r:V->Hp->VK->Prop)(ta:TE):TE:=λZ H Q=>ta Z H λx H1=>r x H1 Q
def rI(C:Int->Int->Prop)(g:Int->Int->V):R2:=λx y H Q=>∃i j,x=.int i/\y=.int j/\C i j/\Q (g i j) H
def HK(g:Int->Int->V):R2:=λx y H Q=>∃i j,x=.int i/\y=.int j/\Q (g i j) H
def rU(g:Int->V):V->Hp->VK->Prop:=λx H Q=>∃i,x=.int i/\Q (g i) H
section
variable{a b c:Expr}
theorem Y2(m:PE X a ta)(l:PE X b tb){R:V->V->Hp->Prop}(I:Inv X Zy Z H s)
  (h:ta Z H λx H1=>tb Z H1 λy H2=>R x y H2)
  (k:∀v u s2 x y H2,Inv X Zy Z H2 s2->RelV x v->RelV y u->R x y H2->wpAny (model X.prog X.w) X.A (f v u) Q X.xe s2) :
  wpAny (model X.prog X.w) X.A (eval a X.env) (λv d=>wpAny (model X.prog X.w) X.A (eval b X.env) (λu c=>wpAny (model X.prog X.w) X.A (f v u) Q X.xe c) X.xe d) X.xe s:=by
 refine AQ (m Zy s Z H _ I h) λv s1 Oy=>?_;obtain⟨x,H1,I1,g,j⟩:=Oy;refine AQ (l Zy s1 Z H1 _ I1 j) λu s2 XA=>?_;obtain⟨y,H2,I2,e,i⟩:=XA;exact k v u s2 x y H2 I2 g e i
theorem SX{C:Int->Int->Prop}{g:Int->Int->Int}
  (rule:∀(i j:Int)(t u:Tok)(s:Shared)(Q:Value->Shared->Prop)(E:Value->Shared->Prop),C i j->Q (.int (g i j) s.toks) { s with toks:=s.toks+1 }->wpAny (model X.prog X.w) X.A (f (.int i t) (.int j u)) Q E s) :
  BX X f (rI C λi j=>.int (g i j)):=by
 intro Zy s Z H x y v u Q I b a h;obtain⟨i,j,rfl,rfl,c,q⟩:=h;obtain⟨t,rfl⟩:=b;obtain⟨t',rfl⟩:=a;exact rule i j t t' s _ _ c ⟨.int (g i j),H,I.tok _,⟨_,rfl⟩,q⟩
theorem fV{g:Int->Int->Int}
  (rule:∀(i j:Int)(t u:Tok)(s:Shared)(Q:Value->Shared->Prop)(E:Value->Shared->Prop),Q (.int (g i j) s.toks) { s with toks:=s.toks+1 }->wpAny (model X.prog X.w) X.A (f (.int i t) (.int j u)) Q E s) :
  BX X f (HK λi j=>.int (g i j)):=by
 intro Zy s Z H x y v u Q I b a h;obtain⟨i,j,rfl,rfl,q⟩:=h;obtain⟨t,rfl⟩:=b;obtain⟨t',rfl⟩:=a;exact rule i j t t' s _ _ ⟨.int (g i j),H,I.tok _,⟨_,rfl⟩,q⟩
theorem Tu{g:Int->Int->Bool}
  (rule:∀(i j:Int)(t u:Tok)(s:Shared)(Q:Value->Shared->Prop)(E:Value->Shared->Prop),Q (.bool (g i j)) s->wpAny (model X.prog X.w) X.A (f (.int i t) (.int j u)) Q E s) :
  BX X f (HK λi j=>.bl (g i j)):=by
 intro Zy s Z H x y v u Q I b a h;obtain⟨i,j,rfl,rfl,q⟩:=h;obtain⟨t,rfl⟩:=b;obtain⟨t',rfl⟩:=a;exact rule i j t t' s _ _ ⟨.bl (g i j),H,I,rfl,q⟩
def ZCC(i j:Int):Prop:=0<=j/\j<=1000000/\i.natAbs<2 ^ 64
theorem DL:BX X (binaryOp .Add) (HK λi j=>.int (i+j)):=fV λ_ _ _ _ _ _ _ q=>add_int q
theorem Nh:BX X (binaryOp .Sub) (HK λi j=>.int (i - j)):=fV λ_ _ _ _ _ _ _ q=>sub_int q
theorem Kq:BX X (binaryOp .Mod) (rI (λ_ j=>0<j) λi j=>.int (i % j)):=SX λi j _ _ _ _ _ a q=>by
 have h1:(0:Int)<j:=a;exact mod_int' (by omega) (by rw[Int.fmod_eq_emod_of_nonneg i (by omega)];exact q)
theorem M7:BX X (binaryOp .Pow) (rI ZCC λi j=>.int (i ^ j.toNat)):=SX λ_ _ _ _ _ _ _ a q=>pow_int_small a.1 a.2.1 a.2.2 q
theorem z9{f:Value->Sem Value}{g:Int->Int}
  (rule:∀(i:Int)(t:Tok)(s:Shared)(Q:Value->Shared->Prop)(E:Value->Shared->Prop),Q (.int (g i) s.toks) { s with toks:=s.toks+1 }->wpAny (model X.prog X.w) X.A (f (.int i t)) Q E s) :
  UR X f (rU λi=>.int (g i)):=by
 intro Zy s Z H x v Q I a h;obtain⟨i,rfl,q⟩:=h;obtain⟨t,rfl⟩:=a;exact rule i t s _ _ ⟨.int (g i),H,I.tok _,⟨_,rfl⟩,q⟩
theorem Zs:UR X (unaryOp .USub) (rU λi=>.int (-i)):=z9 λ_ _ _ _ _ q=>neg_int q
end
noncomputable def VF:V->V->Bool
 | .A8,.A8=>true | .A8,.int _=>true | .int _,.A8=>true | .A8,.bl _=>true | .bl _,.A8=>true | .A8,.str _=>true | .str _,.A8=>true
 | .int _,.int _=>true | .bl _,.bl _=>true | .str _,.str _=>true | .HH _,.HH _=>true
 | .int _,.str _=>true | .str _,.int _=>true | .bl _,.str _=>true | .str _,.bl _=>true
 |_,_=>false
def gk:R2:=λx y H Q=>VF x y=true/\Q (.bl (decide (x=y))) H
def m6:R2:=λx y H Q=>VF x y=true/\Q (.bl (!decide (x=y))) H
theorem lh{i j:Int}:decide (V.int i=V.int j)=(i == j):=by
 rw[OD];simp
theorem d5{i j:Bool}:decide (V.bl i=V.bl j)=(i == j):=by
 rw[OD];simp
theorem jW{i j:Str}:decide (V.str i=V.str j)=(i == j):=by
 rw[OD];simp
theorem e9{i j:Array UInt8}:decide (V.HH i=V.HH j)=(i.toList == j.toList):=by
 rw[OD];cases i;cases j;simp
section
variable{a b c:Expr}
theorem C6{Q:VK}{k k':Bool}(I:Inv X Zy Z H s)(q:Q (.bl k) H)(e:k=k'):EP X Zy Z Q (.bool k') s:=by
 subst e;exact⟨.bl k,H,I,rfl,q⟩
theorem BU:BX X (compareOp .Eq) gk:=by
 intro Zy s Z H x y v u Q I c a h;obtain⟨b,q⟩:=h;cases x with
 |A8=>
  cases c;cases y with
  |A8=>cases a;exact PySem.EqNone.eq_none_none (C6 I q (by simp))
  |bl j=>cases a;exact PySem.EqNone.eq_none_bool (C6 I q (by simp))
  |int j=>obtain⟨t',rfl⟩:=a;exact PySem.EqNone.eq_none_int (C6 I q (by simp))
  |str j=>obtain⟨t',rfl⟩:=a;exact PySem.EqNone.eq_none_str (C6 I q (by simp))
  |_=>exact absurd (show false=true from b) Dm
 |bl i=>
  cases c;cases y with
  |A8=>cases a;exact PySem.EqNone.eq_bool_none (C6 I q (by simp))
  |bl j=>cases a;exact eq_bool (C6 I q d5)
  |str j=>obtain⟨t',rfl⟩:=a;exact PySem.EqMixed.eq_bool_str (C6 I q (by simp))
  |_=>exact absurd (show false=true from b) Dm
 |int i=>
  obtain⟨t,rfl⟩:=c;cases y with
  |A8=>cases a;exact PySem.EqNone.eq_int_none (C6 I q (by simp))
  |int j=>obtain⟨t',rfl⟩:=a;exact eq_int (C6 I q lh)
  |str j=>obtain⟨t',rfl⟩:=a;exact PySem.EqMixed.eq_int_str (C6 I q (by simp))
  |_=>exact absurd (show false=true from b) Dm
 |str i=>
  obtain⟨t,rfl⟩:=c;cases y with
  |A8=>cases a;exact PySem.EqNone.eq_str_none (C6 I q (by simp))
  |bl j=>cases a;exact PySem.EqMixed.eq_str_bool (C6 I q (by simp))
  |int j=>obtain⟨t',rfl⟩:=a;exact PySem.EqMixed.eq_str_int (C6 I q (by simp))
  |str j=>obtain⟨t',rfl⟩:=a;exact eq_str (C6 I q jW)
  |_=>exact absurd (show false=true from b) Dm
 |HH i=>
  obtain⟨t,rfl⟩:=c;cases y with
  |HH j=>obtain⟨t',rfl⟩:=a;exact PySem.W.eq_bytes (C6 I q e9)
  |_=>exact absurd (show false=true from b) Dm
 |_=>cases y <;> exact absurd (show false=true from b) Dm
theorem LF:BX X (compareOp .NotEq) m6:=by
 intro Zy s Z H x y v u Q I c a h;obtain⟨b,q⟩:=h;cases x with
 |A8=>
  cases c;cases y with
  |A8=>cases a;exact PySem.EqNone.ne_none_none (C6 I q (by simp))
  |bl j=>cases a;exact PySem.EqNone.ne_none_bool (C6 I q (by simp))
  |int j=>obtain⟨t',rfl⟩:=a;exact PySem.EqNone.ne_none_int (C6 I q (by simp))
  |str j=>obtain⟨t',rfl⟩:=a;exact PySem.EqNone.ne_none_str (C6 I q (by simp))
  |_=>exact absurd (show false=true from b) Dm
 |bl i=>
  cases c;cases y with
  |A8=>cases a;exact PySem.EqNone.ne_bool_none (C6 I q (by simp))
  |bl j=>cases a;exact ne_bool (C6 I q (tq not d5))
  |str j=>obtain⟨t',rfl⟩:=a;exact PySem.EqMixed.ne_bool_str (C6 I q (by simp))
  |_=>exact absurd (show false=true from b) Dm
 |int i=>
  obtain⟨t,rfl⟩:=c;cases y with
  |A8=>cases a;exact PySem.EqNone.ne_int_none (C6 I q (by simp))
  |int j=>obtain⟨t',rfl⟩:=a;exact ne_int (C6 I q (tq not lh))
  |str j=>obtain⟨t',rfl⟩:=a;exact PySem.EqMixed.ne_int_str (C6 I q (by simp))
  |_=>exact absurd (show false=true from b) Dm
 |str i=>
  obtain⟨t,rfl⟩:=c;cases y with
  |A8=>cases a;exact PySem.EqNone.ne_str_none (C6 I q (by simp))
  |bl j=>cases a;exact PySem.EqMixed.ne_str_bool (C6 I q (by simp))
  |int j=>obtain⟨t',rfl⟩:=a;exact PySem.EqMixed.ne_str_int (C6 I q (by simp))
  |str j=>obtain⟨t',rfl⟩:=a;exact ne_str (C6 I q (tq not jW))
  |_=>exact absurd (show false=true from b) Dm
 |HH i=>
  obtain⟨t,rfl⟩:=c;cases y with
  |HH j=>obtain⟨t',rfl⟩:=a;exact PySem.W.ne_bytes (C6 I q (tq not e9))
  |_=>exact absurd (show false=true from b) Dm
 |_=>cases y <;> exact absurd (show false=true from b) Dm
theorem FW:BX X (compareOp .Lt) (HK λi j=>.bl (decide (i<j))):=Tu λ_ _ _ _ _ _ _ q=>lt_int q
theorem EG:BX X (compareOp .LtE) (HK λi j=>.bl (decide (i<=j))):=Tu λ_ _ _ _ _ _ _ q=>le_int q
theorem LW:BX X (compareOp .Gt) (HK λi j=>.bl (decide (j<i))):=Tu λ_ _ _ _ _ _ _ q=>gt_int q
theorem Mj:BX X (compareOp .GtE) (HK λi j=>.bl (decide (j<=i))):=Tu λ_ _ _ _ _ _ _ q=>ge_int q
theorem nE:BX X (compareOp .In) (λx y H Q=>∃i j,x=.str i/\y=.str j/\Q (.bl (!(Builtin.Str.occurrences j i 0 j.length 1).isEmpty)) H):=by
 intro Zy s Z H x y v u Q I b a h;obtain⟨i,j,rfl,rfl,q⟩:=h;obtain⟨t,rfl⟩:=b;obtain⟨t',rfl⟩:=a;exact in_str (C6 I q rfl)
theorem aR:BX X (compareOp .Is) (λx y H Q=>y=.A8/\Q (.bl (decide (x=.A8))) H):=by
 intro Zy s Z H x y v u Q I a b h;obtain⟨rfl,q⟩:=h;cases b;refine is_none_gen (C6 I q ?_);cases x <;> first
  | (cases a;rfl)
  | (obtain⟨t,rfl⟩:=a;rfl)
theorem pK:BX X (compareOp .IsNot) (λx y H Q=>y=.A8/\Q (.bl (!decide (x=.A8))) H):=by
 intro Zy s Z H x y v u Q I a b h;obtain⟨rfl,q⟩:=h;cases b;refine isnot_none_gen (C6 I q ?_);cases x <;> first
  | (cases a;rfl)
  | (obtain⟨t,rfl⟩:=a;rfl)
theorem lU(b:Expr)(h:op≠.In:=by decide)(h2:op≠.NotIn:=by decide):behindInMarks op b=false:=by
 have c:(op == CmpOp.In)=false:=by cases op <;> first|rfl|exact absurd rfl h
 have a:(op == CmpOp.NotIn)=false:=by cases op <;> first|rfl|exact absurd rfl h2
 cases b <;> simp[behindInMarks,c,a]
def Mn(t:TE):TT:=λZ H Q=>t Z H λx H'=>∃k,x=.bl k/\Q k H'
theorem ZBQ{r:R2}(ho:BX X (compareOp op) r)(o:PE X a ta)(n:PE X b tb)(m:behindInMarks op b=false):PT X (.Compare a [op] [b] pos) (Mn (C5 r ta tb)):=by
 intro Zy s Z H Q I h;refine wpAny_isTrue_Compare1 (AQ (o Zy s Z H _ I h) λv s1⟨x,H1,I1,g,l⟩=>AQ (n Zy s1 Z H1 _ I1 l) λu s2⟨y,H2,I2,f,j⟩=>
  AQ (ho Zy s2 Z H2 x y v u _ I2 g f j) λc p⟨z,H3,I3,d,k,e,i⟩=>?_) m
 subst e;cases d;exact uD ⟨H3,I3,i⟩
def OS(r b:R2)(ta tb tc:TE):TE:=λZ H Q=>ta Z H λx H1=>tb Z H1 λy H2=>r x y H2 λz H3=>∃k,z=.bl k/\
 (if k=true then tc Z H3 λa H4=>b y a H4 Q else Q (.bl false) H3)
theorem K6:(sizeLine:Nat)<2 ^ 63:=by rw[ZAz];decide
theorem mR:BX X (binaryOp .Add) (λx y H Q=>∃i j,x=.str i/\y=.str j/\i.length+j.length<=sizeLine/\Q (.str (i++j)) H):=by
 intro Zy s Z H x y v u Q I b a h;obtain⟨i,j,rfl,rfl,c,q⟩:=h;obtain⟨t,rfl⟩:=b;obtain⟨t',rfl⟩:=a;exact add_str (λt' tk=>⟨.str (i++j),H,I.tok _,⟨_,rfl⟩,q⟩) c
theorem vals1{x:V}(r:Vals [x] us):∃u,us=[u]/\RelV x u:=by
 cases r with
 |cons b a=>cases a;exact⟨_,rfl,b⟩
theorem vals2{x:V}(r:Vals [x,y] us):∃u a,us=[u,a]/\RelV x u/\RelV y a:=by
 cases r with
 |cons e d=>
  cases d with
  |cons c b=>cases b;exact⟨_,_,rfl,e,c⟩
theorem ZCj(b:X.calm=true):DW X (.builtin "max") (λxs H Q=>∃i j,xs=[.int i,.int j]/\Q (.int (if j > i then j else i)) H):=by
 intro Zy s Z H xs us Q I r h;obtain⟨i,j,rfl,q⟩:=h;obtain⟨u,c,rfl,⟨t,rfl⟩,⟨t',rfl⟩⟩:=vals2 r;refine max_two_ints (I.ok.hd b) λh' tk k=>⟨_,H,I.kept k,?_,q⟩
 by_cases a:j > i
 .rw[rG a,rG a];exact⟨_,rfl⟩
 .rw[qP a,qP a];exact⟨_,rfl⟩
theorem tW(b:X.calm=true):DW X (.builtin "min") (λxs H Q=>∃i j,xs=[.int i,.int j]/\Q (.int (if j<i then j else i)) H):=by
 intro Zy s Z H xs us Q I r h;obtain⟨i,j,rfl,q⟩:=h;obtain⟨u,c,rfl,⟨t,rfl⟩,⟨t',rfl⟩⟩:=vals2 r;refine min_two_ints (I.ok.hd b) λh' tk k=>⟨_,H,I.kept k,?_,q⟩
 by_cases a:j<i
 .rw[rG a,rG a];exact⟨_,rfl⟩
 .rw[qP a,qP a];exact⟨_,rfl⟩
theorem S6:DW X (.type "int") (λxs H Q=>(∃i,xs=[.int i]/\Q (.int i) H)∨∃k,xs=[.bl k]/\Q (.int (if k then 1 else 0)) H):=by
 intro Zy s Z H xs us Q I r h;rcases h with⟨i,rfl,q⟩|⟨k,rfl,q⟩
 .obtain⟨u,rfl,t,rfl⟩:=vals1 r;exact call_int_int ⟨.int i,H,I,⟨_,rfl⟩,q⟩
 .obtain⟨u,rfl,a⟩:=vals1 r;cases a;exact call_int_bool ⟨.int (if k then 1 else 0),H,I.tok _,⟨_,rfl⟩,q⟩
end
structure M5 (h:Heap) (x dx C:Addr) (mA:ZIX):Prop where
 obj:h.get? x=some (PySem.W.instObj C dx)
 ns:h.Ns1 dx mA
 ne:dx≠x
theorem gL{h:Heap}(n:h.Ns1 dx mA):∃od,h.get? dx=some od/\∀name,PySem.W.lookIn name od=some (mA name):=by
 obtain⟨o,es,g,ho,hd,d,_,c⟩:=n;refine⟨o,ho,λname=>?_⟩;have e:=c name;unfold nsFind findBy at e;rw[<- ZH1]at e;unfold PySem.W.lookIn;rw[hd];dsimp only;split
 .rename_i y q;rw[q]at e;exact tq some e
 .rename_i q;rw[q]at e;have a:es.toList.any (·.refKey)=false:=by
   rw[ZHA];intro y b;obtain⟨z,t,Tr⟩:=d y (Array.mem_toList_iff.mp b);simp[DictEntry.refKey,Tr]
  have f:¬ es.toList.any (·.refKey)=true:=by rw[a];exact Dm
  rw[qP f];exact tq some e
theorem M5.look{h:Heap}{x:Addr}(I:M5 h x dx C mA):∃od,PySem.W.InstAt h x (PySem.W.instObj C dx) C (some od)/\∀name,PySem.W.lookIn name od=some (mA name):=
 let ⟨od,ho,hl⟩:=gL I.ns
 ⟨od,⟨I.obj,rfl,rfl,ho⟩,hl⟩
section
variable{K:ZIV}{x f:Addr}{v:Value}
theorem get_map{expr:Bool}(X:K.In s.heap)(I:M5 s.heap x dx C mA)(c:PySem.W.plainGet K C name=true)(hh:PySem.W.hasDictIn K C=true)
  (d:PySem.W.findIn K (.ref C) name=some none) (a:mA name=some v) (Qa:PySem.W.handedIn v=true) (h:Q v { s with toks:=s.toks+1 }) :
  wpAny (model prog w) A (getAttr (.ref x) name expr) Q E s:=by
 obtain⟨od,J,b⟩:=I.look;exact PySem.W.get_value X J (oR c).1 (ZHg hh d rfl (by rw[b,a])) Qa h
theorem ZG8{Q:Value×List Value->Shared->Prop}(X:K.In s.heap)(I:M5 s.heap x dx C mA)(a:PySem.W.plainGet K C name=true)
  (e:PySem.W.findIn K (.ref C) name=some (some (.ref f))) (c:PySem.W.isFn K (.ref f)=true) (b:mA name=none) (h:Q (.ref f,[.ref x]) s) :
  wpAny (model prog w) A (getMethod (.ref x) name pl) Q E s:=by
 obtain⟨od,J,d⟩:=I.look;exact PySem.W.method_fn X J (oR a).1 (oR a).2 e (beq_iff_eq.mp c) (by show(PySem.W.lookIn name od).map (·.isSome)=some false;rw[d,b];rfl) h
theorem ZCv{Q:Unit->Shared->Prop}(X:K.In s.heap)(I:M5 s.heap x dx C mA)
  (d:PySem.W.findIn K (.ref C) "__setattr__"=some (some (.builtin "object.__setattr__"))) (e:PySem.W.plainOver K C=true) (c:PySem.W.takerIn K C name=some none) (hh:PySem.W.hasDictIn K C=true)
  (hw:PySem.Within mA ns) (hsz:ns.length<=sizeLine)
  (h:∀h',M5 h' x dx C (λy=>if y=name then some v else mA y)->Heap.SameBut dx s.heap h'->Q () { s with heap:=h',toks:=s.toks+2 }) :
  wpAny (model prog w) A (setAttr (.ref x) name v) Q E s:=by
 obtain⟨od,J,l⟩:=I.look;refine ZHl X J d (PySem.W.osa_open (s:={ s with toks:=s.toks+1 }) (r:=none) X J e c λb=>?_)
 obtain⟨cd,f,DI⟩:=oP hh;have hx:s.heap.get? x=some ⟨.ref C,some dx,.plain,#[]⟩:=I.obj;refine oS (qh (oS (oS (wpAny_loadPart hx (oS (ZHd (s:={ s with toks:=s.toks+1 }) (oQ X f) ?_))))))
 rw[DI];refine qh (a:=some dx) (oS (qh (oS ?_)));refine wpAny_nsSet1 (s:={ s with toks:=s.toks+1 }) I.ns λh' K0 Cb=>?_
 obtain⟨k,j,g,ZM,Vv,i⟩:=K0.count (ZHm name v hw);refine oS (wpAny_lookBehind ZM (by rw[Vv];exact pastItsLine_dict (Bg i (by rw[Ca];omega))) ?_);exact qh (h _ ⟨(Cb.2 _ (BN I.ne)).trans I.obj,K0,I.ne⟩ Cb)
theorem ZGx{R:Result->Shared->Prop}{vs:List Value}(X:K.In s.heap)(a:PySem.W.makesIn K C=true)
  (hi:PySem.W.findIn K (.ref C) "__init__"=some (some (.ref f))) (b:PySem.W.typeIn K (.ref f)=some (.type "function"))
  (h:codeAny (model prog w) (A.under (.builtin "type.__call__" ⟨.ref C::vs,kw⟩)) (.call (.ref f) ⟨.ref (s.heap.objs.size+1)::vs,kw⟩) (PySem.W.InitBack (s.heap.objs.size+1) R)
   { s with heap:=(s.heap.push PySem.W.emptyDict).push (PySem.W.instObj C s.heap.objs.size) }) :
  codeAny (model prog w) A (.call (.ref C) ⟨vs,kw⟩) R s:=by
 obtain⟨hh,g,d,t,os⟩:=s;exact PySem.W.make_core (PySem.W.makes_of X a) (cI X hi) (λself=>PySem.W.bind_fn X self b) (.inl rfl) h
end
noncomputable def Dc(f:Str)(v:V):List (Str×V)->List (Str×V)
 | []=>[(f,v)]
 | (g,x)::r=>if g=f then(g,v)::r else(g,x)::Dc f v r
theorem gp(f g:Str)(v:V):∀fs:List (Str×V),(Dc f v fs).lookup g=if g=f then some v else fs.lookup g
 | []=>by
  show List.lookup g [(f,v)]=_
  by_cases h:g=f
  .have a:(g == f)=true:=beq_iff_eq.mpr h;simp only[List.lookup,a,rG h]
  .have a:(g == f)=false:=beq_eq_false_iff_ne.mpr h;simp only[List.lookup,a,qP h]
 | (k,x)::r=>by
  have c:=gp f g v r;rw[show Dc f v ((k,x)::r)=(if k=f then(k,v)::r else(k,x)::Dc f v r)from rfl]
  by_cases b:k=f
  .rw[rG b]
   by_cases h:g=k
   .have a:(g == k)=true:=beq_iff_eq.mpr h;simp only[List.lookup,a,rG (h.trans b)]
   .have a:(g == k)=false:=beq_eq_false_iff_ne.mpr h;simp only[List.lookup,a,qP (λe:g=f=>h (e.trans b.symm))]
  .rw[qP b]
   by_cases h:g=k
   .have a:(g == k)=true:=beq_iff_eq.mpr h;simp only[List.lookup,a,qP (λe:g=f=>b (h.symm.trans e))]
   .have a:(g == k)=false:=beq_eq_false_iff_ne.mpr h;simp only[List.lookup,a];exact c
theorem aY(f:Str)(v:V):∀fs:List (Str×V),f∈(Dc f v fs).map (·.1)/\∀g,g∈fs.map (·.1)->g∈(Dc f v fs).map (·.1)
 | []=>⟨by simp[Dc],λg h=>by simp at h⟩
 | (k,x)::r=>by
  obtain⟨c,b⟩:=aY f v r;rw[show Dc f v ((k,x)::r)=(if k=f then(k,v)::r else(k,x)::Dc f v r)from rfl]
  by_cases a:k=f
  .rw[rG a];subst a;exact⟨by simp,λg h=>by simpa using h⟩
  .rw[qP a];refine⟨?_,λg h=>?_⟩
   .rw[C8];exact DP _ c
   .rw[C8]at h ⊢;rcases List.mem_cons.mp h with e|e
    .exact List.mem_cons.mpr (.inl e)
    .exact DP _ (b g e)
theorem jj(f:Str)(v:V):∀fs:List (Str×V),(Dc f v fs).length<=fs.length+1
 | []=>by simp[Dc]
 | (k,x)::r=>by
  have b:=jj f v r;rw[show Dc f v ((k,x)::r)=(if k=f then(k,v)::r else(k,x)::Dc f v r)from rfl]
  by_cases a:k=f
  .rw[rG a,Ca,Ca];omega
  .rw[qP a,Ca,Ca];omega
theorem EF.some_of{o:Option Value}(r:EF (some v) o):∃u,o=some u/\RelV v u:=by
 cases o with
 |none=>exact(show False from r).elim
 |some u=>exact⟨u,rfl,r⟩
theorem EF.none_of{o:Option Value}(r:EF none o):o=none:=by
 cases o with
 |none=>rfl
 |some u=>exact(show False from r).elim
theorem kY(r:RelV v u):PySem.W.handedIn u=true:=by
 cases v with
 |A8=>cases(show u=Value.none from r);rfl
 |bl b=>cases(show u=Value.bool b from r);rfl
 |int i=>obtain⟨t,e⟩:=(show ∃t,u=Value.int i t from r);cases e;rfl
 |str x=>obtain⟨t,e⟩:=(show ∃t,u=Value.str x t from r);cases e;rfl
 |HH b=>obtain⟨t,e⟩:=(show ∃t,u=Value.bytes b t from r);cases e;rfl
 |Jx b=>obtain⟨t,e⟩:=(show ∃t,u=Value.float b t from r);cases e;rfl
 |ref a=>cases(show u=Value.ref a from r);rfl
 |ty n=>cases(show u=Value.type n from r);rfl
section
variable{P:Program}{h:Heap}{fs Nw:List (Str×V)}
theorem R8(AJ:Bv P w H h)(e:H a=some (.ins C dx fs)):∃mA,M5 h a dx C mA/\(∀f,EF (fs.lookup f) (mA f))/\PySem.Within mA (fs.map (·.1))/\fs.length<=1000/\H dx=some (.own a):=by
 obtain⟨d,z,ne,ob,mA,n,r,q⟩:=(show CC P w H h a (.ins C dx fs)from AJ a _ e);exact⟨mA,⟨ob,n,ne⟩,r,q,z,d⟩
end
structure CF (K:ZIV) (C:Addr):Prop where
 pg:PySem.W.plainGet K C Str.empty=true
 hd:PySem.W.hasDictIn K C=true
 po:PySem.W.plainOver K C=true
 sa:PySem.W.findIn K (.ref C) "__setattr__"=some (some (.builtin "object.__setattr__"))
theorem CF.get{K:ZIV}{C:Addr}(c:CF K C)(f:Str):PySem.W.plainGet K C f=true:=c.pg
def Bj(K:ZIV)(C:Addr)(f:Str):Prop:=PySem.W.findIn K (.ref C) f=some none
theorem Bj.ZEM{K:ZIV}{f:Str}(n:Bj K C f):PySem.W.takerIn K C f=some none:=by
 unfold PySem.W.takerIn;rw[show PySem.W.findIn K (.ref C) f=some none from n];rfl
structure Kb (K:ZIV) (C:Addr) (f:Str) (v:V) (u:Value):Prop where
 at_:PySem.W.findIn K (.ref C) f=some (some u)
 rel:RelV v u
 get:PySem.W.specialIn K u "__get__"=some none
 cp:PySem.W.copiedNames.contains f=false
structure Meth (K:ZIV) (C:Addr) (m:Str) (f:Addr):Prop where
 at_:PySem.W.findIn K (.ref C) m=some (some (.ref f))
 fn:PySem.W.isFn K (.ref f)=true
 kp:PySem.W.keepIn K (.ref f)=true
section
variable{fs:List (Str×V)}{f:Str}
theorem jy{b:Bool}(I:Inv X Zy Z H s)(e:H a=some (.ins C dx fs))(c:CF X.K C)(n:Bj X.K C f)(l:fs.lookup f=some v)
  (h:∀u s',Inv X Zy Z H s'->RelV v u->Q u s'):wpAny (model X.prog X.w) A (getAttr (.ref a) f b) Q E s:=by
 obtain⟨mA,O,r,_,_,_⟩:=R8 I.AJ e;obtain⟨u,g,d⟩:=EF.some_of (v:=v) (o:=mA f) (by rw[<- l];exact r f);exact get_map I.Bt O (c.get f) c.hd n g (kY d) (h u _ (I.tok _) d)
theorem ZEv{g:Addr}{Q:Value×List Value->Shared->Prop}(I:Inv X Zy Z H s)(e:H a=some (.ins C dx fs))(c:CF X.K C)(k:Meth X.K C m g)(l:fs.lookup m=none)
  (h:Q (.ref g,[.ref a]) s):wpAny (model X.prog X.w) A (getMethod (.ref a) m pl) Q E s:=by
 obtain⟨mA,O,r,_,_,_⟩:=R8 I.AJ e;have hn:mA m=none:=EF.none_of (by rw[<- l];exact r m);exact ZG8 I.Bt O (c.get m) k.at_ k.fn hn h
theorem fo{Q:Unit->Shared->Prop}(I:Inv X Zy Z H s)(e:H a=some (.ins C dx fs))(c:CF X.K C)(n:Bj X.K C f)(m:fs.length<1000)(i:RelV y u)
  (h:∀s',Inv X Zy Z (upd H a (.ins C dx (Dc f y fs))) s'->Q () s'):wpAny (model X.prog X.w) A (setAttr (.ref a) f u) Q E s:=by
 obtain⟨mA,O,r,wi,_,ho⟩:=R8 I.AJ e;have j:(fs.map (·.1)).length<=sizeLine:=by rw[AL,ZAz];omega
 refine ZCv I.Bt O c.sa c.po n.ZEM c.hd wi j λh' O' d=>h _ ?_;have hd:∃o,h'.get? dx=some o:=let ⟨o,_,_,e',_⟩:=O'.ns;⟨o,e'⟩;refine I.write (x:=a) (e:=dx) (by rw[e];exact True.intro) (.inr ho) (λb q l z=>(d.2 b l).trans z) hd ?_;refine⟨by rw[AY O.ne];exact ho,?_,O.ne,O'.obj,_,O'.ns,λg=>?_,λg k=>?_⟩
 .have:=jj f y fs;omega
 .show EF ((Dc f y fs).lookup g) (if g=f then some u else mA g)
  rw[gp]
  by_cases q:g=f
  .rw[rG q,rG q];exact i
  .rw[qP q,qP q];exact r g
 .by_cases q:g=f
  .rw[q];exact(aY f y fs).1
  .refine(aY f y fs).2 g (wi g λz=>k ?_);show(if g=f then some u else mA g)=none
   rw[qP q];exact z
theorem Inv.made(I:Inv X Zy Z H s):Inv X Zy Z (upd (upd H s.heap.objs.size (.own (s.heap.objs.size+1))) (s.heap.objs.size+1) (.ins C s.heap.objs.size []))
  { s with heap:=(s.heap.push PySem.W.emptyDict).push (PySem.W.instObj C s.heap.objs.size) }:=by
 have c:(s.heap.push PySem.W.emptyDict).get? s.heap.objs.size=some PySem.W.emptyDict:=CI s.heap rfl;have h:((s.heap.push PySem.W.emptyDict).push (PySem.W.instObj C s.heap.objs.size)).get? (s.heap.objs.size+1)=some (PySem.W.instObj C s.heap.objs.size):=by
  have:=CI (s.heap.push PySem.W.emptyDict) (o:=PySem.W.instObj C s.heap.objs.size) rfl
  rwa [Gd]at this
 have g:(s.heap.push PySem.W.emptyDict).Ns s.heap.objs.size (λ_=>none):=⟨PySem.W.emptyDict,#[],_,c,rfl,(λe f=>absurd f (by simp)),λ_=>rfl⟩;have i:=I.laid (a:=s.heap.objs.size) (o:=.own (s.heap.objs.size+1)) (h':=s.heap.push PySem.W.emptyDict) (t':=s.toks) (λb u q=>Bb _ q) (Az _) ⟨_,c⟩;refine i.laid (a:=s.heap.objs.size+1) (o:=.ins C s.heap.objs.size []) (t':=s.toks) (λb u q=>Bb _ q) (Uj (Gd _ _)) ?_;have ne:s.heap.objs.size≠s.heap.objs.size+1:=Bn (cA _);refine⟨by rw[AY ne,AW],Cn _,ne,h,λ_=>none,(Heap.Ns1.of_empty g).at λo q=>Bb _ q,λ_=>True.intro,λy d=>absurd rfl d⟩
theorem iY{env:Env}(b:attributeBase e f env (eval e env)=eval e env)
  (h:wpAny (model prog w) A (eval e env) (λo a=>wpAny (model prog w) A (getAttr o f true) Q E a) E s):wpAny (model prog w) A (eval (.Attribute e f pos) env) Q E s:=
 Attribute_any_ h (by rw[arm_eval_Attribute,b])
end
def K5(K:ZIV)(ta:TE)(f:Str):TE:=λZ H Q=>ta Z H λx H1=>∃a C dx fs v,x=.ref a/\H1 a=some (.ins C dx fs)/\CF K C/\Bj K C f/\fs.lookup f=some v/\Q v H1
def aU(K:ZIV)(ta tv:TE)(f:Str):TS:=λD Z H=>tv Z H λy H1=>ta Z H1 λx H2=>∃a C dx fs,x=.ref a/\H2 a=some (.ins C dx fs)/\CF K C/\Bj K C f/\fs.length<1000/\
 D.nx Z (upd H2 a (.ins C dx (Dc f y fs)))
def jl(X:Cx)(op:Operator)(rd:V->V->Hp->VK->Prop):Prop:=
 ∀(Zy:ZIW)(s:Shared)(Z:St)(H:Hp)(x y:V)(u v:Value)(Q:VK),Inv X Zy Z H s->RelV x u->RelV y v->rd x y H Q->wpAny (model X.prog X.w) X.A (inplaceOp op u v) (EP X Zy Z Q) X.xe s
def Xu(K:ZIV)(ta tv:TE)(rd:V->V->Hp->VK->Prop)(f:Str):TS:=λD Z H=>ta Z H λx H1=>∃a C dx fs v,x=.ref a/\H1 a=some (.ins C dx fs)/\CF K C/\Bj K C f/\fs.lookup f=some v/\
 tv Z H1 λy H2=>rd v y H2 λz H3=>∃dx' Nw,H3 a=some (.ins C dx' Nw)/\Nw.length<1000/\D.nx Z (upd H3 a (.ins C dx' (Dc f z Nw)))
section
variable{o value:Expr}{f:Str}{pos' Qo:Pos}{tv:TE}
variable{b:Bool}
inductive FR (K:ZIV) (H:Hp):V->Value->Prop where
 |A8:FR K H .A8 (.type "NoneType")
 |bl (x:Bool):FR K H (.bl x) (.type "bool")
 |int (i:Int):FR K H (.int i) (.type "int")
 |str (x:Str):FR K H (.str x) (.type "str")
 |Jx (x:UInt64):FR K H (.Jx x) (.type "float")
 |lst {a:Addr}{xs:List V}(e:H a=some (.lst xs)):FR K H (.ref a) (.type "list")
 |FD {a:Addr}{o:Obj}{xs:List V}(e:H a=some (.FD o (.lst xs))):FR K H (.ref a) (.type "list")
 |tup {a:Addr}{xs:List V}(e:H a=some (.tup xs)):FR K H (.ref a) (.type "tuple")
 |dK {a:Addr}{A6:List (Key×V)}(e:H a=some (.dK A6)):FR K H (.ref a) (.type "dict")
 |dT {a:Addr}{A6:List (List Key×V)}(e:H a=some (.dT A6)):FR K H (.ref a) (.type "dict")
 |ins {a C dx:Addr}{fs:List (Str×V)}(e:H a=some (.ins C dx fs)) (cl:CF K C) (ha:PySem.W.findIn K (.ref C) "__class__"=some (some (.builtin "object.__class__")))
   (hn:PySem.W.specialIn K (.builtin "object.__class__") "__get__"=some (some (.builtin "getset_descriptor.__get__"))) (NC:PySem.W.takesIn K (.builtin "object.__class__")=some true)
   (hm:PySem.W.mroIn K C (.type "object")=some true):FR K H (.ref a) (.ref C)
theorem ZAT{x:V}{t:Value}(I:Inv X Zy Z H s)(d:RelV x u)(ty:FR X.K H x t)(e:PySem.W.kitOne X.K t c=some b)(h:∀tk,Q (.bool b) { s with toks:=tk }):
  wpAny (model X.prog X.w) A (call (.builtin "isinstance") [u,c]) Q E s:=by
 cases ty with
 |A8=>cases(show u=Value.none from d);exact J8 PySem.W.kitx_none I.Bt True.intro e (λz=>nomatch z) h
 |bl y=>cases(show u=Value.bool y from d);exact J8 PySem.W.kitx_bool I.Bt True.intro e (λz=>nomatch z) h
 |int i=>obtain⟨t,q⟩:=(show ∃t,u=Value.int i t from d);cases q;exact J8 PySem.W.kitx_int I.Bt True.intro e (λz=>nomatch z) h
 |str y=>obtain⟨t,q⟩:=(show ∃t,u=Value.str y t from d);cases q;exact J8 PySem.W.kitx_str I.Bt True.intro e (λz=>nomatch z) h
 |Jx y=>obtain⟨t,q⟩:=(show ∃t,u=Value.float y t from d);cases q;exact J8 PySem.W.kitx_float I.Bt True.intro e (λz=>nomatch z) h
 |@lst a xs ea=>
  cases(show u=Value.ref a from d);obtain⟨_,_,n,_,h1⟩:=(show CC X.prog X.w H s.heap a (.lst xs)from I.AJ a _ ea);exact J8 ZHi I.Bt ⟨_,h1,rfl⟩ e (λz=>nomatch z) h
 |@FD a ob xs ea=>
  cases(show u=Value.ref a from d);obtain⟨_,_,_,n,_,h1⟩:=(show CC X.prog X.w H s.heap a (.FD ob (.lst xs))from I.AJ a _ ea);exact J8 ZHi I.Bt ⟨_,h1,rfl⟩ e (λz=>nomatch z) h
 |@tup a xs ea=>
  cases(show u=Value.ref a from d);obtain⟨_,_,_,p⟩:=(show CC X.prog X.w H s.heap a (.tup xs)from I.AJ a _ ea);obtain⟨o,h1,h2,_⟩:=p.1;exact J8 PySem.W.kitx_tuple I.Bt ⟨o,h1,h2⟩ e (λz=>nomatch z) h
 |@dK a A6 ea=>
  cases(show u=Value.ref a from d);obtain⟨_,_,vs,_,p⟩:=(show CC X.prog X.w H s.heap a (.dK A6)from I.AJ a _ ea);obtain⟨o,es,j,h1,h2,_⟩:=p;exact J8 ZHh I.Bt ⟨o,h1,h2.1⟩ e (λz=>nomatch z) h
 |@dT a A6 ea=>
  cases(show u=Value.ref a from d);obtain⟨_,_,xs,_,o,es,j,h1,h2,_⟩:=(show CC X.prog X.w H s.heap a (.dT A6)from I.AJ a _ ea);exact J8 ZHh I.Bt ⟨o,h1,h2.1⟩ e (λz=>nomatch z) h
 |@ins a C dx fs ea cl g hn NC f=>
  cases(show u=Value.ref a from d);obtain⟨mA,O,_⟩:=R8 I.AJ ea;obtain⟨od,J,_⟩:=O.look;exact J8 (PySem.W.kitx_own (cl.get _) cl.hd g hn NC f) I.Bt J e (λz=>nomatch z) h
end
structure Bi (k:Nat) (A:Around):Prop where
 hd:A.handled=none
 dp:A.depth+3 * k+5<recursionLimit
 un:A.units+16 * k+200<cLine
theorem Bi.mono{k:Nat}(r:Bi k A)(h:j<=k):Bi j A:=⟨r.hd,by have:=r.dp;omega,by have:=r.un;omega⟩
theorem Bi.deeper{k:Nat}(r:Bi (k+1) A)(env:Env):Bi k (A.deeper env):=
 ⟨r.hd,by have:=r.dp;show A.depth+1+3 * k+5<_;omega,by have:=r.un;show A.units+3+16 * k+200<_;omega⟩
theorem pM:(A.under (.builtin "type.__call__" ⟨.ref C::us,kw⟩)).depth=A.depth+1:=by
 first|rfl|simp[Around.under,Code.weight,Code.isCreation,Code.isGuard,Code.isCaller,Code.frames,Code.isFrame,guardIds]
theorem z6:(A.under (.builtin "type.__call__" ⟨.ref C::us,kw⟩)).units=A.units+1:=by
 first|rfl|simp[Around.under,Code.cUnits,Code.frames,Code.isFrame]
theorem Bi.make{k:Nat}(r:Bi (k+1) A)(C:Addr)(us:List Value)(kw:List (Str×Value)):Bi k (A.under (.builtin "type.__call__" ⟨.ref C::us,kw⟩)):=
 ⟨r.hd,by have:=r.dp;rw[pM];omega,by have:=r.un;rw[z6];omega⟩
theorem Bi.depth{k:Nat}(r:Bi k A):A.depth<recursionLimit:=by have:=r.dp;omega
theorem Bi.units{k:Nat}(r:Bi k A):A.units+64<cLine:=by have:=r.un;omega
theorem Bi.JJ{k:Nat}(r:Bi k A):A.units<cLine:=by have:=r.un;omega
def BR:TA:=λ_ H Q=>Q [] H
def Al(ta:TE)(tr:TA):TA:=λZ H Q=>ta Z H λx H1=>tr Z H1 λxs H2=>Q (x::xs) H2
section
variable{t:TA}
theorem LN:PA X [] BR:=λ_ _ _ _ H Q I h=>nZ ⟨[],H,I,.nil,h⟩
theorem GF(i:PE X e te)(g:PA X es t)(f:starEach (e::es) X.env=(false,eval e X.env)::starEach es X.env:=by rfl):PA X (e::es) (Al te t):=by
 intro pos Zy s Z H Q I h;rw[f];show wpAny _ _ (spliced ((false,eval e X.env)::backTo pos (starEach es X.env))) _ _ s;refine nY (AQ (i Zy s Z H _ I h) λu s1 Oy=>?_);obtain⟨x,H1,I1,b,d⟩:=Oy;exact AQ (g pos Zy s1 Z H1 _ I1 d) λus s2 AH=>by obtain⟨xs,H2,I2,a,c⟩:=AH;exact⟨x::xs,H2,I2,.cons b a,c⟩
def Rh(t:TA):TE:=λZ H Q=>t Z H λxs H1=>xs.length<=sizeLine/\∀p,H1 p=none->Q (.ref p) (upd H1 p (.tup xs))
def RK(t:TA):TE:=λZ H Q=>t Z H λxs H1=>xs.length<=sizeLine/\∀p,H1 p=none->Q (.ref p) (upd H1 p (.lst xs))
theorem ZBB{x1}(h:PA X es t):PE X (.Tuple es x1 pos) (Rh t):=by
 intro Zy s Z H Q I c;refine wpAny_Tuple_spliced (AQ (h pos Zy s Z H _ I c) λus s1⟨xs,H1,I1,r,z,q⟩=>⟨by rw[<- r.length];exact z,?_⟩);have d:H1 s1.heap.objs.size=none:=I1.AJ.fresh (Az _);refine⟨.ref s1.heap.objs.size,upd H1 s1.heap.objs.size (.tup xs),I1.laid (t':=s1.toks) (λb u e=>Bb _ e) (Az _) ?_,rfl,q _ d⟩;exact⟨z,us,r,⟨_,CI _ rfl,rfl,_,rfl⟩,λRj a=>by rw[CI _ rfl]at a;cases a;rfl⟩
theorem yj(h:PA X es t):PE X (.List es pos) (RK t):=by
 intro Zy s Z H Q I a;refine wpAny_List_spliced (AQ (h pos Zy s Z H _ I a) λus s1⟨xs,H1,I1,r,z,q⟩=>⟨by rw[<- r.length];exact z,?_⟩);have c:H1 s1.heap.objs.size=none:=I1.AJ.fresh (Az _);refine⟨.ref s1.heap.objs.size,upd H1 s1.heap.objs.size (.lst xs),I1.laid (t':=s1.toks) (λb u e=>Bb _ e) (Az _) ?_,rfl,q _ c⟩;exact⟨z,us,0,r,CI _ rfl⟩
end
abbrev Sp:=List V->Hp->VK->XK->Prop
abbrev G1:=List Env->Hp->Shared->XK->Value->Shared->Prop
variable{CX:G1}
structure Lr (P:Program) (w:World) (K:ZIV) (mg:ZIX) (ZB:Heap) (A:Around) (outer:List Env) (s:Shared) (H:Hp):Prop where
 frames:A.frames=some outer
 mod:Mod K mg ZB
 bs:∀b o,ZB.get? b=some o->s.heap.get? b=some o/\H b=none
 Gp:ZB.objs.size<=s.heap.objs.size
 FN:s.heap.FunFrames ZB outer
 Ih:∀b∈CS outer,H b=none
 AJ:Bv P w H s.heap
 bare:AllBare s.gens
def CE(outer:List Env)(P:Program)(w:World)(H:Hp)(s:Shared)(Q:VK)(u:Value)(s':Shared):Prop:=
 ∃v H',s'.os=s.os/\AllBare s'.gens/\Un (CS outer) [] H H' s.heap s'.heap/\Bv P w H' s'.heap/\RelV v u/\Q v H'
def CR(CX:G1)(outer:List Env)(P:Program)(w:World)(H:Hp)(s:Shared)(Q:VK)(E:XK)(r:Result)(s':Shared):Prop:=
 match r with
 | .ok (.ret u)=>CE outer P w H s Q u s'
 | .ok _=>False
 | .error e=>CX outer H s E e s'
structure Cc (P:Program) (w:World) (K:ZIV) (mg:ZIX) (ZB:Heap) (CX:G1) (k:Nat) (f:Addr) (fd:FuncData) (ps:List Str) (sp:Sp):Prop where
 len:∀vs H Q E,sp vs H Q E->vs.length=ps.length
 run:∀(A:Around)(outer:List Env)(s:Shared)(H:Hp)(args:Args)(us:List Value)(vs:List V)(Q:VK)(E:XK),Bi k A->Lr P w K mg ZB A outer s H->BindsTo s fd args (ps.zip us)->Vals vs us->sp vs H Q E->
  codeAny (model P w) A (.call (.ref f) args) (CR CX outer P w H s Q E) s
theorem Cc.mono{P:Program}{K:ZIV}{k:Nat}{f:Addr}{sp:Sp}(F:Cc P w K mg ZB CX j f fd ps sp)(h:j<=k):
  Cc P w K mg ZB CX k f fd ps sp:=⟨F.len,λA outer s H args us vs Q E a=>F.run A outer s H args us vs Q E (a.mono h)⟩
theorem Lr.make{P:Program}{K:ZIV}(e:Lr P w K mg ZB A outer s H)(C:Addr)(us:List Value)(kw:List (Str×Value)):
  Lr P w K mg ZB (A.under (.builtin "type.__call__" ⟨.ref C::us,kw⟩)) outer s H:=⟨by first|exact e.frames|(simpa[Around.under,Code.envs,Code.isFrame,pushEnvs]using e.frames),e.mod,e.bs,e.Gp,e.FN,e.Ih,e.AJ,e.bare⟩
theorem Inv.Rn(I:Inv X Zy Z H s):Lr X.prog X.w X.K X.mg X.base X.A X.stack s H:=
 ⟨I.ok.frames,I.ok.mod,I.bs,Bg I.ok.Gp I.sz,I.stack,I.UB,I.AJ,I.bare⟩
theorem Inv.after{Q:VK}(I:Inv X Zy Z H s)(h:CE X.stack X.prog X.w H s Q u s'):EP X Zy Z Q u s':=by
 obtain⟨v,H',os,bare,un,AJ,r,q⟩:=h;obtain⟨hh,g,d,t,Qd⟩:=s';obtain rfl:Qd=s.os:=os;exact⟨v,H',I.call (h':=hh) (g':=g) (d':=d) (t':=t) (ch:=[]) un AJ bare (λb z=>absurd z (by simp)),r,q⟩
def Dg(sp:Sp)(Dp:List V)(E:XK)(t:TA):TE:=λZ H Q=>t Z H λvs H1=>sp (vs++Dp) H1 Q E
def Ng(C:Addr)(m:Str)(sp:Sp)(Dp:List V)(E:XK)(ta:TE)(t:TA):TE:=λZ H Q=>ta Z H λx H1=>∃a dx fs,x=.ref a/\H1 a=some (.ins C dx fs)/\fs.lookup m=none/\
 t Z H1 λvs H2=>sp (x::(vs++Dp)) H2 Q E
def ZJ(C:Addr)(sp:Sp)(Dp:List V)(E:XK)(t:TA):TE:=λZ H Q=>t Z H λvs H1=>∀x dx,H1 x=none->H1 dx=none->dx≠x->
 sp (.ref x::(vs++Dp)) (upd (upd H1 dx (.own x)) x (.ins C dx [])) (λv H2=>v=.A8/\Q (.ref x) H2) E
def Binds(K:ZIV)(fd:FuncData)(ps:List Str)(ds:List Value):Prop:=
 ∀(s:Shared)(us:List Value),K.In s.heap->(us++ds).length=ps.length->BindsTo s fd ⟨us,[]⟩ (ps.zip (us++ds))
theorem Binds.all{K:ZIV}(h:∀us:List Value,us.length=ps.length->bindArgs fd ⟨us,[]⟩=pure (ps.zip us)):Binds K fd ps []:=λs us _ a=>by
 rw[G0]at a ⊢;exact .of_eq (h us a)
def Passes(CX:G1)(X:Cx)(E:XK):Prop:=∀(Zy:ZIW)(Z:St)(H:Hp)(s:Shared)(e:Value)(s':Shared),Inv X Zy Z H s->CX X.stack H s E e s'->X.xe e s'
section
variable{k:Nat}{f:Addr}{sp:Sp}{E:XK}{p apos:Pos}{o:Expr}{t:TA}
theorem fR{Q:VK}(F:Cc X.prog X.w X.K X.mg X.base CX k f fd ps sp)(c:Bi k X.A)(g:Binds X.K fd ps ds)(hd:Vals Dp ds)(hx:Passes CX X E)
  (I:Inv X Zy Z H s) (r:Vals vs us) (h:sp (vs++Dp) H Q E):wpAny (model X.prog X.w) X.A (call (.ref f) us) (EP X Zy Z Q) X.xe s:=by
 have b:Vals (vs++Dp) (us++ds):=r.append hd;have d:(us++ds).length=ps.length:=by rw[<- b.length];exact F.len _ _ _ _ h
 refine zg (ya (F.run X.A X.stack s H ⟨us,[]⟩ (us++ds) (vs++Dp) Q E c I.Rn (g s us I.Bt d) b h) λr s' a=>?_);cases r with
 |error e=>exact hx Zy Z H s e s' I a
 |ok i=>
  cases i with
  |ret u=>exact I.after a
  |next=>exact False.elim a
  |brk=>exact False.elim a
  |cont=>exact False.elim a
theorem tY(F:Cc X.prog X.w X.K X.mg X.base CX k f fd ps sp)(a:Bi k X.A)(d:Gl X x)(b:X.mg x=some (.ref f))(c:PySem.W.keepIn X.K (.ref f)=true)(g:Binds X.K fd ps ds)(hd:Vals Dp ds)(hx:Passes CX X E)
  (i:PA X (e::es) t) (BL:(x == ("__debug__":Str))=false:=by decide) (he:starEach (e::es) X.env=(false,eval e X.env)::starEach es X.env:=by rfl) (BW:(backTo pos (starEach es X.env)).any (·.1)=false:=by rfl) :
  PE X (.Call (.Name x p) (e::es) [] pos) (Dg sp Dp E t):=by
 intro Zy s Z H Q I h;refine uc (JN I d b ?_ BL);refine Ul (h₀:=X.base) I.ok.mod.IX c (AQ (i pos Zy s Z H _ I h) λus s1⟨vs,H1,I1,r,q⟩=>⟨I1.Bt,?_⟩) he BW;exact fR F a g hd hx I1 r q
theorem ZFx(j:PE X o ta)(c:CF X.K C)(b:Meth X.K C m f)(F:Cc X.prog X.w X.K X.mg X.base CX k f fd ps sp)(i:Bi k X.A)(n:Binds X.K fd ps ds)(hd:Vals Dp ds)(hx:Passes CX X E)(p:PA X (e::es) t)
  (BM:starEach (e::es) X.env=(false,eval e X.env)::starEach es X.env:=by rfl) (BW:(backTo pos (starEach es X.env)).any (·.1)=false:=by rfl)
  (ht:eval (.Call (.Attribute o m apos) (e::es) [] pos) X.env=(do
   let ov <- eval o X.env
   standAt apos.atName
   let (f,first) <- holding [ov] (getMethod ov m pl)
   callWith pos f first (backTo pos (starEach (e::es) X.env)) (backToKw pos (keywordEach [] X.env))):=by rfl) :
  PE X (.Call (.Attribute o m apos) (e::es) [] pos) (Ng C m sp Dp E ta t):=by
 intro Zy s Z H Q I h;refine ZHk (pl:=pl) (AQ (j Zy s Z H _ I h) λu s1⟨x,H1,I1,d,a,dx,fs,ex,ea,l,q⟩=>?_) ht;subst ex;obtain rfl:u=Value.ref a:=d;refine ZEv I1 ea c b l ?_;refine Ul (first:=[.ref a]) (h₀:=X.base) I.ok.mod.IX b.kp (AQ (p pos Zy s1 Z H1 _ I1 q) λus s2⟨vs,H2,I2,r,g⟩=>⟨I2.Bt,?_⟩) BM BW
 exact fR (us:=.ref a::us) (vs:=.ref a::vs) F i n hd hx I2 (.cons rfl r) g
structure Mk (K:ZIV) (C f:Addr):Prop where
 makes:PySem.W.makesIn K C=true
 init:PySem.W.findIn K (.ref C) "__init__"=some (some (.ref f))
 fn:PySem.W.isFn K (.ref f)=true
 kp:PySem.W.keepIn K (.ref C)=true
theorem ZEC{Q:VK}(M:Mk X.K C f)(F:Cc X.prog X.w X.K X.mg X.base CX k f fd ps sp)(i:Bi (k+1) X.A)(l:Binds X.K fd ps ds)(hd:Vals Dp ds)
  (hx:Passes CX X E) (I:Inv X Zy Z H s) (r:Vals vs us)
  (h:∀x dx,H x=none->H dx=none->dx≠x->sp (.ref x::(vs++Dp)) (upd (upd H dx (.own x)) x (.ins C dx [])) (λv H2=>v=.A8/\Q (.ref x) H2) E) :
  wpAny (model X.prog X.w) X.A (call (.ref C) us) (EP X Zy Z Q) X.xe s:=by
 have c:=h (s.heap.objs.size+1) s.heap.objs.size (I.AJ.fresh (FZ _)) (I.AJ.fresh (Az _)) (Bn (cA _));have a:=Inv.made (C:=C) I;have b:Vals (V.ref (s.heap.objs.size+1)::(vs++Dp)) (Value.ref (s.heap.objs.size+1)::(us++ds)):=.cons rfl (r.append hd);have j:(Value.ref (s.heap.objs.size+1)::us++ds).length=ps.length:=by
  have e:=b.length;rw[F.len _ _ _ _ c]at e;exact e.symm
 refine zg (ZGx (f:=f) I.Bt M.makes M.init (beq_iff_eq.mp M.fn) (ya (F.run _ X.stack _ _ ⟨Value.ref (s.heap.objs.size+1)::us,[]⟩ (Value.ref (s.heap.objs.size+1)::(us++ds)) _ _ E (i.make C us [])
  (a.Rn.make C us []) (l _ (Value.ref (s.heap.objs.size+1)::us) a.Bt j) b c) λr s' Hg=>?_))
 cases r with
 |error e=>exact hx Zy Z _ _ e s' a Hg
 |ok m=>
  cases m with
  |ret u=>
   obtain⟨v,H',I3,d,n,g⟩:=a.after Hg;subst n;exact⟨d,⟨V.ref (s.heap.objs.size+1),H',I3,rfl,g⟩⟩
  |next=>exact False.elim Hg
  |brk=>exact False.elim Hg
  |cont=>exact False.elim Hg
theorem uz(M:Mk X.K C f)(F:Cc X.prog X.w X.K X.mg X.base CX k f fd ps sp)(a:Bi (k+1) X.A)(c:Gl X x)(b:X.mg x=some (.ref C))(d:Binds X.K fd ps ds)(hd:Vals Dp ds)(hx:Passes CX X E)
  (g:PA X (e::es) t) (BL:(x == ("__debug__":Str))=false:=by decide) (he:starEach (e::es) X.env=(false,eval e X.env)::starEach es X.env:=by rfl) (BW:(backTo pos (starEach es X.env)).any (·.1)=false:=by rfl) :
  PE X (.Call (.Name x p) (e::es) [] pos) (ZJ C sp Dp E t):=by
 intro Zy s Z H Q I h;refine uc (JN I c b ?_ BL);refine Ul (h₀:=X.base) I.ok.mod.IX M.kp (AQ (g pos Zy s Z H _ I h) λus s1⟨vs,H1,I1,r,q⟩=>⟨I1.Bt,?_⟩) he BW;exact ZEC M F a d hd hx I1 r q
variable{kws:List Keyword}{tk:TA}{nm:Option Str}{g:List Value->List Value->List Value}{gV:List V->List V->List V}
end
structure Aw (N P:List Str) (sc:Scope):Prop where
 kind:sc.kind=.function
 co:sc.isCoroutine=false
 gen:sc.isGenerator=false
 nd:N.Nodup
 pre:N.take P.length=P
 par:∀x∈P,sc.names.lookup x=some .local∨sc.names.lookup x=some .cell
 uu:∀y∈sc.names,y.2≠.free
theorem lZ{a:Str->Option NameKind}{x:Str}:∀{binds:List (Str×Value)}{m:ZIX},(∀v,(x,v)∉binds)->bindL a binds m x=m x
 | [],_,_=>rfl
 | (n,v)::r,m,h=>by
  unfold bindL;rw[lZ λw hw=>h w (DP _ hw)];split
  .have:x≠n:=by rintro rfl;exact h v D5
   simp[this]
  .rfl
theorem nD{a:Str->Option NameKind}{x:Str}:∀{binds:List (Str×Value)}{m:ZIX},(∀v,(x,v)∉binds)->bindC a binds m x=m x
 | [],_,_=>rfl
 | (n,v)::r,m,h=>by
  unfold bindC;rw[nD λw hw=>h w (DP _ hw)];split
  .rfl
  .have:x≠n:=by rintro rfl;exact h v D5
   simp[this]
theorem kX{a:Str->Option NameKind}{x:Str}{v:Value}:∀{P:List Str}{vs:List Value}{i:Nat}{m:ZIX},P.Nodup->P[i]?=some x->vs[i]?=some v->a x=some .local->
  bindL a (P.zip vs) m x=some v
 | [],_,_,_,_,h,_,_=>by simp at h
 |_::_,[],_,_,_,_,h,_=>by simp at h
 |p::P,w::vs,0,m,nd,h1,h2,hk=>by
  simp at h1 h2;subst h1;subst h2;show bindL a ((p,w)::P.zip vs) m p=_;unfold bindL;rw[lZ λv b=>(List.nodup_cons.mp nd).1 (Ue b).1,rG hk];simp
 |p::P,w::vs,i+1,m,nd,h1,h2,hk=>by
  show bindL a ((p,w)::P.zip vs) m x=_;unfold bindL;exact kX (i:=i) (List.nodup_cons.mp nd).2 (by simpa using h1) (by simpa using h2) hk
theorem jw{a:Str->Option NameKind}{x:Str}{v:Value}:∀{P:List Str}{vs:List Value}{i:Nat}{m:ZIX},P.Nodup->P[i]?=some x->vs[i]?=some v->a x≠some .local->
  bindC a (P.zip vs) m x=some v
 | [],_,_,_,_,h,_,_=>by simp at h
 |_::_,[],_,_,_,_,h,_=>by simp at h
 |p::P,w::vs,0,m,nd,h1,h2,hk=>by
  simp at h1 h2;subst h1;subst h2;show bindC a ((p,w)::P.zip vs) m p=_;unfold bindC;rw[nD λv b=>(List.nodup_cons.mp nd).1 (Ue b).1,qP hk];simp
 |p::P,w::vs,i+1,m,nd,h1,h2,hk=>by
  show bindC a ((p,w)::P.zip vs) m x=_;unfold bindC;exact jw (i:=i) (List.nodup_cons.mp nd).2 (by simpa using h1) (by simpa using h2) hk
noncomputable def start(N:List Str)(vs:List V):St:=vs.map some++List.replicate (N.length - vs.length) none
noncomputable def Ea(CX:G1)(P:Program)(w:World)(K:ZIV)(mg:ZIX)(ZB:Heap)(N:List Str)(qual:Str)(scope:Scope)(f:Addr)(cd:Value)(A:Around)(outer:List Env)(s:Shared)(H:Hp)(E:XK):Cx where
 prog:=P
 w:=w
 K:=K
 mg:=mg
 base:=ZB
 A:=A.deeper (envOfC qual scope s.heap.objs.size f cd)
 N:=N
 s₀:=s
 H₀:=H
 env:=envOfC qual scope s.heap.objs.size f cd
 outer:=outer
 stack:=envOfC qual scope s.heap.objs.size f cd::outer
 ex:=[]
 calm:=true
 fn:=λ_=>true
 pn:=[]
 xe:=λe s'=>wpAny (model P w) (A.deeper (envOfC qual scope s.heap.objs.size f cd)) (leaving (envOfC qual scope s.heap.objs.size f cd) e) (λ_ Pn=>CX outer H s E e Pn) (λa Pn=>CX outer H s E a Pn) s'
theorem kL(h:sc.names.lookup x=some .cell):∃c,(cellsFrom n sc.names []).lookup x=some c:=by
 have q:=ZHf sc.names n [] (.inl h);exact Option.isSome_iff_exists.mp q
theorem ZGq{P:Program}{K:ZIV}{f:Addr}{s1:Shared}{E:XK}
  (S:Aw N ps scope) (hd:A.handled=none) (e0:Lr P w K mg ZB A outer s H) (C:vs.length=ps.length) (r:Vals vs us)
  (x:InCallC s s.heap.objs.size (bindL (envOfC qual scope s.heap.objs.size f cd).kindOf (ps.zip us) λ_=>none) (cellsFrom (s.heap.objs.size+1) scope.names []) (bindC (envOfC qual scope s.heap.objs.size f cd).kindOf (ps.zip us) λ_=>none) s1) :
  Inv (Ea CX P w K mg ZB N qual scope f cd A outer s H E) [] (start N vs) H s1:=by
 have F:ps.length<=N.length:=by have:=tq List.length S.pre;rw[DO]at this;omega
 obtain⟨h1,tk,rfl,o⟩:=x.done;have j:∀b:Addr,b∉(Ea CX P w K mg ZB N qual scope f cd A outer s H E).ex:=λb z=>absurd (show b∈([]:List Addr)from z) (by simp);refine⟨⟨e0.mod,S.kind,rfl,rfl,Az _,λy z c h1 h2=>?_,λy d=>?_,λy c _ h=>?_,λ_=>hd,Around.frames_deeper e0.frames,.inr ⟨rfl,rfl⟩,λb z=>absurd z (j b),e0.bs,e0.Gp,λb _ _=>j b,λb z=>absurd z (j b),e0.FN,e0.Ih⟩,
  rfl,e0.bare,Un.kept o,⟨_,x.toInCall.ns,λi y v h1 h2 D=>?_⟩,λy c h=>⟨_,x.cell y c h⟩,e0.AJ.fresh (Az _),λy c h=>?_,λp g=>absurd (show p∈([]:ZIW)from g) (by simp),e0.AJ.kept o,?_⟩
 .exact name_of_addr x.apart (Ma h1) (Ma h2)
 .have d:scope.names.lookup y=some .cell∨scope.names.lookup y=some .free:=d;rcases d with d|d
  .exact kL d
  .exact absurd rfl (S.uu _ (Ma d))
 .exact OK (x.above y c (Ma h))
 .have hi:i<vs.length:=by
   unfold start at h2
   by_cases hi:i<vs.length
   .exact hi
   .rw[Jk (by simpa using hi)]at h2
    rw[nv]at h2;split at h2 <;> cases h2
  have B:vs[i]?=some v:=by
   unfold start at h2;rw[HW (by simpa using hi),Bc]at h2
   cases e:vs[i]? with
   |none=>rw[e]at h2;cases h2
   |some a=>rw[e]at h2;cases h2;rfl
  obtain⟨u,m,t⟩:=r.get B;have g:ps[i]?=some y:=by
   rw[<- S.pre,List.getElem?_take_of_lt (by omega)];exact h1
  have l:ps.Nodup:=by rw[<- S.pre];exact S.nd.sublist (List.take_sublist _ _)
  refine⟨u,t,?_⟩;rcases S.par y (EI g)with k|k
  .exact .inl ⟨k,kX l g m k⟩
  .obtain⟨c,e⟩:=kL (n:=s.heap.objs.size+1) k;refine .inr ⟨.inl k,c,e,?_⟩;have q:=x.cell y c e;rw[jw l g m (by show scope.names.lookup y≠_;rw[k];decide)]at q;exact q
 .exact e0.AJ.fresh (OK (x.above y c (Ma h)))
 .unfold start;show _=N.length;rw[CK,AL,ZHM];omega
theorem fZ{P:Program}{K:ZIV}{k:Nat}{f:Addr}{a:Arguments}{body:List Stmt}{p kV g m AX ct C:Value}{z od:Option Addr}
  {JI:Array (Option Value)}{sp:Sp}(D:K.lookup f=some ⟨C,od,.func (PySem.W.fnOf name qual a body scope p kV g m z AX ct),JI⟩) (Ew:PySem.W.codeIn K AX qual=true) (S:Aw N ps scope)
  (len:∀vs H Q E,sp vs H Q E->vs.length=ps.length)
  (Lg:∀(A:Around)(outer:List Env)(s:Shared)(H:Hp)(vs:List V)(Q:VK)(E:XK),Bi k (A.deeper (envOfC qual scope s.heap.objs.size f AX))->sp vs H Q E->
   ∃t,DR (Ea CX P w K mg ZB N qual scope f AX A outer s H E) body t/\t { nx:=λ_ H'=>Q .A8 H',rt:=Q } (start N vs) H) :
  Cc P w K mg ZB CX (k+1) f (PySem.W.fnOf name qual a body scope p kV g m z AX ct) ps sp:=by
 refine⟨len,λA outer s H args us vs Q E j e0 R r FF=>?_⟩;have M:=len _ _ _ _ FF;have B:K.In s.heap:=e0.mod.IX.keeps λb o e=>(e0.bs b o e).1;have i:s.heap.NoLimit:=e0.mod.nolimit.keeps λb o e=>(e0.bs b o e).1;have l:∀y∈ps.zip us,scope.names.lookup y.1=some .local∨(scope.names.lookup y.1=some .cell/\((cellsFrom (s.heap.objs.size+1) scope.names []).lookup y.1).isSome=true):=λ⟨n,v⟩F=>by
  rcases S.par n (Ue F).1 with q|q
  .exact .inl q
  .exact .inr ⟨q,ZHf _ _ _ (.inl q)⟩
 refine codeAny_call_function j.depth (B _ _ D) rfl S.co S.gen rfl (PySem.W.codeRec_of B Ew) (R _ _ _ _ ?_);refine wpAny_newFunctionEnv_cells S.kind l λenv O s1 x=>?_;subst O;refine⟨i.keeps x.toInCall.keep,codeAny_func ?_⟩;obtain⟨t,G,L⟩:=Lg A outer s H vs Q E (j.deeper _) FF;have I:Inv (Ea CX P w K mg ZB N qual scope f AX A outer s H E) [] (start N vs) H s1:=ZGq S j.hd e0 M r x;refine tN (G [] s1 (start N vs) H _ I L) (λT s' c=>?_) λe s' c=>c;have d:∀{σ':St}{H':Hp}{v:V}{u:Value},Inv (Ea CX P w K mg ZB N qual scope f AX A outer s H E) [] σ' H' s'->RelV v u->Q v H'->CE outer P w H s Q u s':=
  λ{σ' H' v u}J h q=>⟨v,H',J.os,J.bare,J.base,J.AJ,h,q⟩
 cases T with
 |ret u=>
  obtain⟨v,σ',H',J,h,q⟩:=c;exact d J h q
 |next=>
  obtain⟨σ',H',J,q⟩:=c;exact d (v:=V.A8) (u:=Value.none) J rfl q
 |brk=>
  obtain⟨_,_,_,q⟩:=c;exact False.elim q
 |cont=>
  obtain⟨_,_,_,q⟩:=c;exact False.elim q
section
variable{p:Pos}{t:TA}{id T:String}{r:List V->Hp->VK->Prop}
def Dk(r:List V->Hp->VK->Prop)(t:TA):TE:=λZ H Q=>t Z H λvs H1=>r vs H1 Q
end
end L2
namespace HT
variable{E Q:Value->Shared->Prop}{sl t:Addr}{v vl vu:Value}{hi o:Option Int}
section
open PySem.SeqAt
open PySem.AutoSeq1 (wpAny_loadPart')
open PySem.MeetsSeq PySem.MeetsSeq2 PySem.MeetsSeq3
end
section
variable{prog:Program}{w:World}{A:Around}{s:Shared}
theorem tG{b:Addr}{vs ws:List Value}(g:IsTup s.heap t vs.toArray)(h:IsTup s.heap b ws.toArray)(d:vs≠[])
  (h1:ws=[]->Q (.ref t) s) (h2:ws≠[]->Q (.ref s.heap.objs.size) { s with heap:=s.heap.push { cls:=.type "tuple", data:=.seq (vs++ws).toArray } })
  (hsz:vs.length+ws.length<=sizeLine):wpAny (model prog w) A (binaryOp .Add (.ref t) (.ref b)) Q E s:=by
 obtain⟨⟨cls,dd,data,sl⟩,ho,f,n,hd⟩:=id g;obtain⟨⟨ZDZ,T5,c,HR⟩,Ho,Lu,n2,a⟩:=id h;simp only at f hd Lu a;subst f hd Lu a;have e:vs.toArray++ws.toArray=(vs++ws).toArray:=by simp
 by_cases hw:ws=[]
 .exact concat_meets ⟨_,ho,rfl⟩ ⟨_,Ho,rfl⟩ ZAv seq_tuple_add oO oM (oK _ _)
   (tuple_addW1 t b vs.toArray ws.toArray n n2 dd T5 sl HR (by simpa using d) (by simp[hw])) ⟨ho,Ho,h1 hw⟩
 .refine concat_meets ⟨_,ho,rfl⟩ ⟨_,Ho,rfl⟩ ZAv seq_tuple_add oO oM (oK _ _)
   (tuple_addW2 t b vs.toArray ws.toArray n n2 dd T5 sl HR (by simpa using d) (by simpa using hw) (by rw[C9,C9];exact hsz)) ⟨ho,Ho,?_⟩
  rw[e];exact h2 hw
noncomputable def Ar(n d:Nat):Option Int->Nat
 |none=>d
 |some v=>if v<0 then(v+(n:Int)).toNat else min v.toNat n
theorem SR(n d:Nat):Ar n d none=d:=rfl
theorem Ky(n d k:Nat):Ar n d (some (k:Int))=min k n:=by
 show(if(k:Int)<0 then((k:Int)+(n:Int)).toNat else min (k:Int).toNat n)=min k n
 rw[qP (by omega),Qr]
theorem oX(n d:Nat)(hd:d<=n)(o:Option Int):Ar n d o<=n:=by
 cases o with
 |none=>exact hd
 |some v=>
  show(if v<0 then(v+(n:Int)).toNat else min v.toNat n)<=n
  by_cases a:v<0
  .rw[rG a];omega
  .rw[qP a];exact ZHS _ _
theorem jK(v:Int)(n d:Nat):(if v<0 then max (v+(n:Int)) 0 else min v (n:Int))=((Ar n d (some v):Nat):Int):=by
 show(if v<0 then max (v+(n:Int)) 0 else min v (n:Int))=(((if v<0 then(v+(n:Int)).toNat else min v.toNat n):Nat):Int)
 by_cases a:v<0
 .simp only[rG a];omega
 .simp only[qP a];omega
theorem ZCc(lo hi:Option Int)(n:Nat):Builtin.Slice.sliceAdjust lo hi 1 (n:Int)=(((Ar n 0 lo:Nat):Int),((Ar n n hi:Nat):Int)):=by
 have h1:¬ ((1:Int)<0):=by omega
 unfold Builtin.Slice.sliceAdjust;simp only[h1,ZAQ];refine Prod.ext ?_ ?_
 .cases lo with
  |none=>rfl
  |some v=>exact jK v n 0
 .cases hi with
  |none=>rfl
  |some v=>exact jK v n n
theorem xx(i j:Nat):Builtin.Slice.slicePlaces (i:Int) (j:Int) 1=j - i:=by
 unfold Builtin.Slice.slicePlaces;have h1:(1:Int) > 0:=by omega
 simp only[h1,ZB8,Int.ediv_one];split <;> omega
theorem jJ{Q:Option Int->Shared->Prop}(p:IsPart v o)(h:Q o s):wpAny (model prog w) A (Builtin.Slice.slicePartIndex v) Q E s:=by
 cases p with
 |none=>exact slicePart_none h
 |int i t=>exact slicePart_int h
theorem eB{lo:Option Int}{n:Nat}{Q:Int×Int×Nat->Shared->Prop}(b:s.heap.IsSliceOf sl vl vu .none)(pl:IsPart vl lo)(a:IsPart vu hi)
  (h:Q (((Ar n 0 lo:Nat):Int),1,Ar n n hi - Ar n 0 lo) s):wpAny (model prog w) A (Builtin.Slice.sliceApplied (.ref sl) (pure (n:Int))) Q E s:=by
 obtain⟨os,Lo,RT,QZ⟩:=id b;unfold Builtin.Slice.sliceApplied Builtin.Slice.sliceFields;refine oS (oS (ZA9 Lo QZ (x:=vl) rfl (oS (ZA9 Lo QZ (x:=vu) rfl (oS (ZA9 Lo QZ (x:=.none) rfl (qh ?_)))))));refine oS (slicePart_none ?_);show wpAny _ _ (if((1:Int) == 0)=true then _ else _) _ _ s
 rw[qP (by decide)];refine oS (jJ pl (oS (jJ a (oS (qh ?_)))));show wpAny _ _ (match Builtin.Slice.sliceAdjust lo hi 1 (n:Int)with|(lo,hi)=>pure (lo,(1:Int),Builtin.Slice.slicePlaces lo hi 1)) _ _ s
 rw[ZCc lo hi n];show wpAny _ _ (pure (((Ar n 0 lo:Nat):Int),(1:Int),Builtin.Slice.slicePlaces ((Ar n 0 lo:Nat):Int) ((Ar n n hi:Nat):Int) 1)) _ _ s;rw[xx];exact qh h
theorem y8(xs:Array Value)(i k:Nat):((List.range k).filterMap λ(m:Nat)=>xs[((i:Int)+(m:Int) * 1).toNat]?).toArray=((xs.toList.drop i).take k).toArray:=by
 have e:(λ(m:Nat)=>xs[((i:Int)+(m:Int) * 1).toNat]?)=λm=>xs[i+m]?:=by
  funext m
  have:((i:Int)+(m:Int) * 1).toNat=i+m:=by omega
  rw[this]
 rw[e];have:=pick_run xs i k;rw[List.filterMap_map]at this;have a:((λx=>xs[x]?) ∘ λx=>i+x)=λm=>xs[i+m]?:=rfl;rw[a]at this;rw[this]
theorem ZAZ{items:Array Value}{lo:Option Int}(a:IsTup s.heap t items)(c:s.heap.IsSliceOf sl vl vu .none)(pl:IsPart vl lo)(d:IsPart vu hi)
  (hw:¬ (Ar items.size 0 lo=0/\Ar items.size items.size hi=items.size))
  (h:Q (.ref s.heap.objs.size) { s with heap:=s.heap.push { cls:=.type "tuple", data:=.seq ((items.toList.drop (Ar items.size 0 lo)).take (Ar items.size items.size hi - Ar items.size 0 lo)).toArray } })
  (hsz:items.size<=sizeLine):wpAny (model prog w) A (getItem (.ref t) (.ref sl)) Q E s:=by
 have b:sizeOk (.seq ((items.toList.drop (Ar items.size 0 lo)).take (Ar items.size items.size hi - Ar items.size 0 lo)).toArray):=by
  show((items.toList.drop (Ar items.size 0 lo)).take (Ar items.size items.size hi - Ar items.size 0 lo)).toArray.size<=sizeLine;rw[C9,DO,Ge,MU];omega
 have j:Ar items.size items.size hi<=items.size:=oX _ _ (Az _) hi;obtain⟨os,Lo,RT,QZ⟩:=id c;have e:s.TypeIs (.ref sl) "slice" := ⟨os,Lo,RT⟩;unfold getItem
 try with_reducible refine tu ?_
 first|refine oS (qh ?_)|skip
 refine oS (wpAny_sequenceKey a.typeIs (by decide) ?_);refine oS (wpAny_callSpecial?_slot (name:=Str.ofString "__getitem__") a.typeIs cG
  (ZA6 cG a.typeIs entry_tuple_getitem ?_ (args_tuple_getitem _ _)))
 show wpAny _ _ (Builtin.Tuple.tupleItemsOf (.ref t) >>= _) _ _ s;refine oS (tupleItemsOf_ a ?_);refine oS (vS e ?_);rw[rG (by decide)];refine oS (eB c pl d ?_);have f:¬ ((((Ar items.size 0 lo:Nat):Int) == 0 && (1:Int) == 1 && (Ar items.size items.size hi - Ar items.size 0 lo) == items.size)=true):=by
  intro q;rw[Dl,Dl]at q;have i:((Ar items.size 0 lo:Nat):Int)=0:=eq_of_beq q.1.1;have g:Ar items.size items.size hi - Ar items.size 0 lo=items.size:=eq_of_beq q.2;exact hw ⟨by omega,by omega⟩
 show wpAny _ _ (if(((Ar items.size 0 lo:Nat):Int) == 0 && (1:Int) == 1 && (Ar items.size items.size hi - Ar items.size 0 lo) == items.size)=true then _ else _) _ _ s
 rw[qP f,y8]
 first
  |exact oS (m:=Builtin.Tuple.tupleExact _) (vH (qh ⟨_,rfl,qh h⟩) b)
  |exact oS (m:=Builtin.Tuple.tupleExact _) (vH (oS (qh (qh ⟨_,rfl,qh h⟩))) b)
  |exact oS (oS (m:=Builtin.Tuple.tupleExact _) (vH (qh (qh ⟨_,rfl,qh h⟩)) b))
  |exact oS (oS (m:=Builtin.Tuple.tupleExact _) (vH (qh ⟨_,rfl,qh h⟩) b))
end
end HT
namespace L2
variable{X:Cx}{pos:Pos}{xs ys:List V}{A5 its' us:List Value}{α:Type}{j n t':Nat}{i:Int}{Zy:ZIW}{Z:St}{H:Hp}{s:Shared}{A:Around}{x y:V}{u v:Value}{T:String}
abbrev TO:=St->Hp->(Option Int->Hp->Prop)->Prop
def PO(X:Cx)(e:Option Expr)(t:TO):Prop:=
 ∀(Zy:ZIW)(s:Shared)(Z:St)(H:Hp)(Q:Option Int->Hp->Prop),Inv X Zy Z H s->t Z H Q->
  wpAny (model X.prog X.w) X.A (evalPart e X.env) (λu s'=>∃o H',Inv X Zy Z H' s'/\IsPart u o/\Q o H') X.xe s
def WM:TO:=λ_ H Q=>Q none H
def PF(t:TE):TO:=λZ H Q=>t Z H λx H1=>∃i,x=.int i/\Q (some i) H1
section
variable{e:Expr}{te:TE}{lo hi:Option Expr}{tl th:TO}{p2:Pos}
def Lh(X:Cx)(r:V->Option Int->Option Int->Hp->VK->Prop):Prop:=
 ∀(Zy:ZIW)(s:Shared)(Z:St)(H:Hp)(x:V)(v vl vu:Value)(lo hi:Option Int)(sl:Addr)(Q:VK),Inv X Zy Z H s->RelV x v->s.heap.IsSliceOf sl vl vu .none->IsPart vl lo->IsPart vu hi->r x lo hi H Q->
  ∃T id,typeLookup (.type T) "__getitem__"=pure (some (.builtin id))/\s.TypeIs v T/\wpAny (model X.prog X.w) X.A (getItem v (.ref sl)) (EP X Zy Z Q) X.xe s
def Qh(r:V->Option Int->Option Int->Hp->VK->Prop)(te:TE)(tl th:TO):TE:=λZ H Q=>te Z H λx H1=>tl Z H1 λl H2=>th Z H2 λu H3=>r x l u H3 Q
def Cp(xs:List V)(lo hi:Option Int):List V:=(xs.drop (HT.Ar xs.length 0 lo)).take (HT.Ar xs.length xs.length hi - HT.Ar xs.length 0 lo)
theorem fS(xs:List V)(lo hi:Option Int):(Cp xs lo hi).length<=xs.length:=by
 unfold Cp;rw[DO,Ge];omega
def wA(K:ZIV):V->Option Int->Option Int->Hp->VK->Prop:=λx lo hi H Q=>∃a xs,x=.ref a/\AS K H a xs/\
 ¬ (HT.Ar xs.length 0 lo=0/\HT.Ar xs.length xs.length hi=xs.length)/\∀p,H p=none->Q (.ref p) (upd H p (.tup (Cp xs lo hi)))
theorem ij:Lh X (wA X.K):=by
 intro Zy s Z H x v vl vu lo hi sl Q I g j pl i h;obtain⟨a,xs,rfl,hx,hw,q⟩:=h;cases g;obtain⟨A5,r,e,d⟩:=I.tuple hx;have c:A5.toArray.size=xs.length:=by rw[C9];exact r.length.symm
 refine⟨"tuple", _,PyProof.Rows.slot_tuple_getitem.lookup,e.typeIs,?_⟩;refine HT.ZAZ e j pl i (by rw[c];exact hw) ?_ (by rw[c];exact d);rw[c];refine⟨.ref s.heap.objs.size,_,I.laid (t':=s.toks) (o:=.tup (Cp xs lo hi)) (λb ob q=>Bb _ q) (Az _) ?_,rfl,q _ (I.AJ.fresh (Az _))⟩;exact⟨Bg (fS xs lo hi) d,_,(r.drop (HT.Ar xs.length 0 lo)).take (HT.Ar xs.length xs.length hi - HT.Ar xs.length 0 lo),⟨IsTup.new _ _,λRj f=>by rw[CI _ rfl]at f;cases f;rfl⟩⟩
def wO(K:ZIV):R2:=λx y H Q=>∃a b xs ys,x=.ref a/\y=.ref b/\AS K H a xs/\AS K H b ys/\xs≠[]/\xs.length+ys.length<=sizeLine/\
 (ys=[]->Q (.ref a) H)/\(ys≠[]->∀p,H p=none->Q (.ref p) (upd H p (.tup (xs++ys))))
theorem Vals.Tn(r:Vals xs us):us=[]↔xs=[]:=by
 cases r with
 |nil=>simp
 |cons _ _=>simp
theorem ZFy:BX X (binaryOp .Add) (wO X.K):=by
 intro Zy s Z H x y v u Q I i g h;obtain⟨a,b,xs,ys,rfl,rfl,m,l,hx,e,k,j⟩:=h;cases i;cases g;obtain⟨A5,d,p1,_⟩:=I.tuple m;obtain⟨Bx,c,p2,_⟩:=I.tuple l;refine HT.tG p1 p2 (λz=>hx (d.Tn.mp z)) (λz=>⟨.ref a,H,I,rfl,k (c.Tn.mp z)⟩) (λz=>?_) (by rw[<- d.length,<- c.length];exact e);refine⟨.ref s.heap.objs.size,_,I.laid (t':=s.toks) (o:=.tup (xs++ys)) (λb ob q=>Bb _ q) (Az _) ?_,rfl,j (λw=>z (c.Tn.mpr w)) _ (I.AJ.fresh (Az _))⟩;exact⟨by rw[CK];exact e,_,d.append c,⟨IsTup.new _ _,λRj f=>by rw[CI _ rfl]at f;cases f;rfl⟩⟩
end
noncomputable def HN(n:Nat)(i:Int):Option Nat:=if 0<=i then(if i<n then some i.toNat else none)else if -(n:Int)<=i then some (i+n).toNat else none
def Bp(xs:List α)(i:Int):Option α:=(HN xs.length i).bind λj=>xs[j]?
theorem cx(h:HN n i=some j):seqIndex? i n=some j/\j<n/\-(n:Int)<=i/\i<n:=by
 unfold HN at h
 by_cases a:0<=i
 .rw[rG a]at h
  by_cases h1:i<n
  .rw[rG h1]at h;have e:i.toNat=j:=Bo h;exact⟨by rw[seqIndex_of a h1,e],by omega,by omega,h1⟩
  .rw[qP h1]at h;cases h
 .rw[qP a]at h
  by_cases h1:-(n:Int)<=i
  .rw[rG h1]at h;have e:(i+n).toNat=j:=Bo h;exact⟨by rw[seqIndex_neg (by omega) h1,e],by omega,h1,by omega⟩
  .rw[qP h1]at h;cases h
theorem Yn{xs:List α}{v:α}(h:Bp xs i=some v):∃j,seqIndex? i xs.length=some j/\xs[j]?=some v/\j<xs.length/\-(xs.length:Int)<=i/\i<xs.length:=by
 unfold Bp at h;cases e:HN xs.length i with
 |none=>rw[e]at h;cases h
 |some j=>
  rw[e]at h;obtain⟨h1,h2,b,a⟩:=cx e;exact⟨j,h1,h,h2,b,a⟩
theorem Kr{xs:List α}{v:α}(h:xs[j]?=some v):Bp xs (j:Int)=some v:=by
 have a:j<xs.length:=(List.getElem?_eq_some_iff.mp h).1;have e:HN xs.length (j:Int)=some j:=by
  unfold HN;rw[rG (by omega),rG (by omega)];simp
 unfold Bp;rw[e];exact h
def XQ(b:Expr):Prop:=∀o i,subscripted b false o i=operate [o,i] (getItem o i)
def Ib(X:Cx)(r:R2):Prop:=
 ∀(value a:Expr)(Zy:ZIW)(s:Shared)(Z:St)(H:Hp)(x y:V)(v u:Value)(Q:VK),Inv X Zy Z H s->RelV x v->RelV y u->r x y H Q->
  subscripted a false v u=operate [v,u] (getItem v u)->wpAny (model X.prog X.w) X.A (subscriptTail value a v u) (EP X Zy Z Q) X.xe s
def Mt(X:Cx)(id:String)(r:V->List V->Hp->VK->Prop):Prop:=
 ∀(Zy:ZIW)(s:Shared)(Z:St)(H:Hp)(x:V)(xs:List V)(v:Value)(us:List Value)(Q:VK),Inv X Zy Z H s->RelV x v->Vals xs us->r x xs H Q->
  wpAny (model X.prog X.w) X.A (call (.builtin id) (v::us)) (EP X Zy Z Q) X.xe s
section
variable{a b:Expr}{ta tb:TE}
def Tq(K:ZIV):R2:=λx y H Q=>∃p xs i v,x=.ref p/\y=.int i/\Ac K H p xs/\Bp xs i=some v/\Q v H
def NF(K:ZIV):R2:=λx y H Q=>∃p xs i v,x=.ref p/\y=.int i/\AS K H p xs/\Bp xs i=some v/\Q v H
def yd:R2:=λx y H Q=>∃z i c,x=.str z/\y=.int i/\z.length<=sizeLine/\Bp z.cps.toList i=some c/\Q (.str ⟨#[c]⟩) H
theorem EX:Ib X (Tq X.K):=by
 intro value b Zy s Z H x y v u Q I k g h d;obtain⟨p,xs,i,z,rfl,rfl,l,n,q⟩:=h;cases k;obtain⟨t,rfl⟩:=g;obtain⟨A5,r,pl,B⟩:=I.list l;obtain⟨j,h1,h2,C,A,o⟩:=Yn n;obtain⟨w,f,G5⟩:=r.get h2;have m:=r.length;have hn:=K6;have a:EP X Zy Z Q w s:=⟨z,H,I,G5,q⟩
 by_cases e:0<=i
 .have c:i.toNat=j:=by
   rw[seqIndex_of e o]at h1;exact Bo h1
  exact item_listR pl.isList e (by omega) (by rw[c];simpa using f) a d
 .have c:(i+(A5.toArray.size:Int)).toNat=j:=by
   rw[seqIndex_neg (by omega) A]at h1;rw[C9,<- m];exact Bo h1
  exact subscriptTail_builtinR (x:=w) pl.isList.typeIs slot_list_getitem.lookup
   (wpAny_getItem_list_neg (Q:=λr s'=>r=w/\EP X Zy Z Q r s') pl.isList (by omega) (by rw[C9] <;> omega) (by omega) (by rw[c];simpa using f) ⟨rfl,a⟩) d
theorem AK:Ib X (NF X.K):=by
 intro value a Zy s Z H x y v u Q I d c h e;obtain⟨p,xs,i,z,rfl,rfl,f,k,q⟩:=h;cases d;obtain⟨t,rfl⟩:=c;obtain⟨A5,r,pl,m⟩:=I.tuple f;obtain⟨j,h1,h2,A,o,n⟩:=Yn k;obtain⟨w,l,G5⟩:=r.get h2;have g:=r.length;have hn:=K6;have b:EP X Zy Z Q w s:=⟨z,H,I,G5,q⟩;exact subscriptTail_builtinR (x:=w) pl.typeIs slot_tuple_getitem.lookup
  (getItem_tuple (j:=j) (Q:=λr s'=>r=w/\EP X Zy Z Q r s') pl (by omega) (by omega) (by rw[C9,<- g];exact h1) (by simpa using l) ⟨rfl,b⟩) e
theorem ZEA:Ib X yd:=by
 intro value a Zy s Z H x y v u Q I d b h e;obtain⟨z,i,c,rfl,rfl,o,g,q⟩:=h;obtain⟨t,rfl⟩:=d;obtain⟨t',rfl⟩:=b;obtain⟨j,h1,h2,p,l,k⟩:=Yn g;have f:z.cps.toList.length=z.length:=by simp[Str.length]
 rw[f]at h1 l k;have hn:=K6;exact tail_any (typeIs_str s z t) slot_str_getitem.lookup (getItem_str (c:=c) (by
  have n:decide (i < -(2 ^ 63:Int))=false:=sS (by omega);have m:decide (i>=2 ^ 63)=false:=sS (by omega);rw[n,m,Bool.or_false]) (by rw[h1];simpa using h2) ⟨.str ⟨#[c]⟩,H,I.tok _,⟨_,rfl⟩,q⟩) e
theorem w8(A5:List Value)(n j:Nat)(u:Value):Obj.mapSeq (·.setIfInBounds j u) { cls:=.type "list", data:=.seq A5.toArray n }={ cls:=.type "list", data:=.seq (A5.set j u).toArray n }:=by
 simp[Obj.mapSeq]
theorem Inv.lst{Zy:ZIW}{Z:St}{H:Hp}{s:Shared}{p:Addr}{xs:List V}(I:Inv X Zy Z H s)(h:H p=some (.lst xs)):
  ∃(A5:List Value)(n:Nat),Vals xs A5/\s.heap.get? p=some { cls:=.type "list", data:=.seq A5.toArray n }/\xs.length<=sizeLine:=by
 obtain⟨z,A5,n,r,e⟩:=I.AJ p _ h;exact⟨A5,n,r,e,z⟩
theorem Inv.ZB7{p:Addr}{a:Nat}{f:Obj->Obj}(I:Inv X Zy Z H s)(h:H p=some (.lst xs))
  (ho:s.heap.get? p=some { cls:=.type "list", data:=.seq A5.toArray n }) (hf:f { cls:=.type "list", data:=.seq A5.toArray n }={ cls:=.type "list", data:=.seq its'.toArray a }) (r:Vals ys its') (hz:ys.length<=sizeLine) (t:Nat) :
  Inv X Zy Z (upd H p (.lst ys)) { s with heap:=s.heap.update p f,toks:=t }:=by
 have e:(s.heap.update p f).get? p=some { cls:=.type "list", data:=.seq its'.toArray a }:=by
  rw[J6 f ho (by rw[hf] <;> rfl),hf]
 refine I.write (x:=p) (e:=p) (by rw[h];trivial) (.inl rfl) (λb u c q=>(FX _ _ (BN c)).trans q) ⟨_,e⟩ ?_;exact⟨hz,its',a,r,e⟩
def kz:V->V->V->Hp->(Hp->Prop)->Prop:=λo i v H Q=>∃p xs k j,o=.ref p/\i=.int k/\H p=some (.lst xs)/\HN xs.length k=some j/\Q (upd H p (.lst (xs.set j v)))
theorem set_list:Vd X kz:=by
 intro Zy s Z H o i v z A u Q I m w l h;obtain⟨p,xs,k,j,rfl,rfl,c,y,q⟩:=h;cases m;obtain⟨t,rfl⟩:=w;obtain⟨A5,n,r,ho,x⟩:=I.lst c;obtain⟨h1,h2,e,d⟩:=cx y;have a:=r.length;have hn:=K6;have g:Inv X Zy Z (upd H p (.lst (xs.set j v))) { s with heap:=s.heap.update p (Obj.mapSeq (·.setIfInBounds j u)) }:=
  I.ZB7 c ho (w8 A5 n j u) (r.set l j) (by rw[Jl];exact x) s.toks
 by_cases f:0<=k
 .have b:k.toNat=j:=by
   rw[seqIndex_of f d]at h1;exact Bo h1
  exact PySem.W.ki_setAt ho f (by omega) (by rw[C9,<- a];exact d) (by rw[b];exact⟨_,g,q⟩)
 .have b:(k+(A5.toArray.size:Int)).toNat=j:=by
   rw[seqIndex_neg (by omega) e]at h1;rw[C9,<- a];exact Bo h1
  exact PySem.W.ki_setBack ho (by omega) (by rw[C9,<- a];exact e) (by omega) (by rw[b];exact⟨_,g,q⟩)
theorem rW(lo hi:Option Int)(n:Nat):(sliceBounds lo hi none n).1=((HT.Ar n 0 lo:Nat):Int)/\(sliceBounds lo hi none n).2.1=((HT.Ar n n hi:Nat):Int)/\(sliceBounds lo hi none n).2.2=1:=by
 refine⟨?_,?_,rfl⟩
 .cases lo with
  |none=>simp[sliceBounds,HT.Ar]
  |some i=>
   simp only[sliceBounds,HT.Ar,ZHU,show(1:Int) > 0 by decide,ZB8]
   by_cases h:i<0
   .simp only[h,ZB8] <;> omega
   .simp only[h,ZAQ] <;> omega
 .cases hi with
  |none=>simp[sliceBounds,HT.Ar]
  |some i=>
   simp only[sliceBounds,HT.Ar,ZHU,show(1:Int) > 0 by decide,ZB8]
   by_cases h:i<0
   .simp only[h,ZB8] <;> omega
   .simp only[h,ZAQ] <;> omega
theorem ZBT(A5:List Value)(lo hi:Option Int):slicePick A5.toArray lo hi none=((A5.drop (HT.Ar A5.length 0 lo)).take (HT.Ar A5.length A5.length hi - HT.Ar A5.length 0 lo)).toArray:=by
 obtain⟨h1,h2,a⟩:=rW lo hi A5.toArray.size;unfold slicePick;rw[h1,h2,a];simp only[sliceRange_one,pick_run,C9] <;> rfl
def eG(K:ZIV):V->Option Int->Option Int->Hp->VK->Prop:=λx lo hi H Q=>∃a xs,x=.ref a/\Ac K H a xs/\∀p,H p=none->Q (.ref p) (upd H p (.lst (Cp xs lo hi)))
theorem NH:Lh X (eG X.K):=by
 intro Zy s Z H x v vl vu lo hi sl Q I e i pl f h;obtain⟨a,xs,rfl,hx,q⟩:=h;cases e;obtain⟨A5,r,d,g⟩:=I.list hx;have c:=r.length;refine⟨"list", _,slot_list_getitem.lookup,d.isList.typeIs,?_⟩;refine wpAny_getItem_list_slice d.isList i pl f .none (by simp) ?_ (by rw[C9] <;> omega)
 rw[ZBT,<- c];refine⟨.ref s.heap.objs.size,_,I.laid (t':=s.toks) (o:=.lst (Cp xs lo hi)) (λb ob q=>Bb _ q) (Az _) ?_,rfl,q _ (I.AJ.fresh (Az _))⟩;exact⟨Bg (fS xs lo hi) g,_,0,(r.drop (HT.Ar xs.length 0 lo)).take (HT.Ar xs.length xs.length hi - HT.Ar xs.length 0 lo),CI _ rfl⟩
noncomputable def Ec:V->Bool
 | .A8=>true
 | .bl _=>true
 | .int _=>true
 | .str _=>true
 |_=>false
noncomputable def E6:V->V->Bool
 | .A8,.A8=>true
 | .bl a,.bl b=>a == b
 | .bl a,.int b=>(if a then 1 else 0) == b
 | .int a,.bl b=>a == (if b then 1 else 0)
 | .int a,.int b=>a == b
 | .str a,.str b=>a == b
 |_,_=>false
theorem To(d:RelV y u)(c:RelV x v)(f:Ec y=true)(e:Ec x=true):SeqAt.EqAt A s u v (E6 y x):=by
 cases y with
 |A8=>
  cases d;cases x with
  |A8=>cases c;exact SeqAt.EqAt.same _
  |bl b=>cases c;exact SeqAt.EqAt.none_bool b
  |int b=>obtain⟨t,rfl⟩:=c;exact SeqAt.EqAt.none_int b t
  |str b=>obtain⟨t,rfl⟩:=c;exact SeqAt.EqAt.none_str b t
  |_=>exact absurd (show false=true from e) Dm
 |bl a=>
  cases d;cases x with
  |A8=>cases c;exact SeqAt.EqAt.bool_none a
  |bl b=>cases c;exact SeqAt.EqAt.bool_bool a b
  |int b=>obtain⟨t,rfl⟩:=c;exact SeqAt.EqAt.bool_int a b t
  |str b=>obtain⟨t,rfl⟩:=c;exact SeqAt.EqAt.bool_str a b t
  |_=>exact absurd (show false=true from e) Dm
 |int a=>
  obtain⟨t',rfl⟩:=d;cases x with
  |A8=>cases c;exact SeqAt.EqAt.int_none a t'
  |bl b=>cases c;exact SeqAt.EqAt.int_bool a t' b
  |int b=>obtain⟨t,rfl⟩:=c;exact SeqAt.EqAt.int_int a t' b t
  |str b=>obtain⟨t,rfl⟩:=c;exact SeqAt.EqAt.int_str a t' b t
  |_=>exact absurd (show false=true from e) Dm
 |str a=>
  obtain⟨t',rfl⟩:=d;cases x with
  |A8=>cases c;exact SeqAt.EqAt.str_none a t'
  |bl b=>cases c;exact SeqAt.EqAt.str_bool a t' b
  |int b=>obtain⟨t,rfl⟩:=c;exact SeqAt.EqAt.str_int a t' b t
  |str b=>obtain⟨t,rfl⟩:=c;exact SeqAt.EqAt.str_str a t' b t
  |_=>exact absurd (show false=true from e) Dm
 |_=>exact absurd (show false=true from f) Dm
def E7(x:V)(u:Value):Bool:=match u with
 | .none=>E6 .A8 x
 | .bool b=>E6 (.bl b) x
 | .int i _=>E6 (.int i) x
 | .str z _=>E6 (.str z) x
 |_=>false
theorem j5(r:RelV y u)(f:Ec y=true):E7 x u=E6 y x:=by
 cases y with
 |A8=>cases r;rfl
 |bl b=>cases r;rfl
 |int i=>obtain⟨t,rfl⟩:=r;rfl
 |str z=>obtain⟨t,rfl⟩:=r;rfl
 |_=>exact absurd (show false=true from f) Dm
theorem PN{x:V}:∀{xs:List V}{us:List Value},Vals xs us->xs.all Ec=true->us.any (E7 x)=xs.any λy=>E6 y x
 |_,_,.nil,_=>rfl
 |y::xs,u::us,.cons r t,f=>by
  rw[Ua,Dl]at f;rw[OF,OF,j5 r f.1,PN t f.2]
theorem LU{A:Around}{s:Shared}{x:V}{v:Value}(b:RelV x v)(c:Ec x=true):∀{xs:List V}{us:List Value},Vals xs us->xs.all Ec=true->∀u∈us,SeqAt.EqAt A s u v (E7 x u)
 |_,_,.nil,_=>λu a=>by cases a
 |y::xs,u::us,.cons r t,f=>λd a=>by
  rw[Ua,Dl]at f;rcases List.mem_cons.mp a with rfl|a
  .rw[j5 r f.1];exact To r b f.1 c
  .exact LU b c t f.2 d a
def GI(x:V)(xs:List V):Bool:=xs.any λy=>E6 y x
def Lm(K:ZIV)(neg:Bool):R2:=λx y H Q=>∃p xs,y=.ref p/\(Ac K H p xs∨AS K H p xs)/\Ec x=true/\xs.all Ec=true/\Q (.bl (if neg then !GI x xs else GI x xs)) H
theorem Mi:BX X (compareOp .In) (Lm X.K false):=by
 intro Zy s Z H x y v u Q I b d h;obtain⟨p,xs,rfl,a,c,fs,q⟩:=h;cases d;rcases a with a|a
 .obtain⟨A5,r,pl,e⟩:=I.list a;refine SeqAt.in_listAt (E7 x) pl.isList (λw hw=>LU b c r fs w (by simpa using hw)) ⟨.bl _,H,I,rfl,?_⟩
  rw[show A5.toArray.any (E7 x)=A5.any (E7 x) by simp,PN r fs];exact q
 .obtain⟨A5,r,pl,e⟩:=I.tuple a;refine SeqAt.in_tupleAt (E7 x) pl (λw hw=>LU b c r fs w (by simpa using hw)) ⟨.bl _,H,I,rfl,?_⟩
  rw[show A5.toArray.any (E7 x)=A5.any (E7 x) by simp,PN r fs];exact q
theorem LO:BX X (compareOp .NotIn) (Lm X.K true):=by
 intro Zy s Z H x y v u Q I b d h;obtain⟨p,xs,rfl,a,c,fs,q⟩:=h;cases d;rcases a with a|a
 .obtain⟨A5,r,pl,e⟩:=I.list a;refine SeqAt.notIn_listAt (E7 x) pl.isList (λw hw=>LU b c r fs w (by simpa using hw)) ⟨.bl _,H,I,rfl,?_⟩
  rw[show A5.toArray.any (E7 x)=A5.any (E7 x) by simp,PN r fs];exact q
 .obtain⟨A5,r,pl,e⟩:=I.tuple a;refine SeqAt.notIn_tupleAt (E7 x) pl (λw hw=>LU b c r fs w (by simpa using hw)) ⟨.bl _,H,I,rfl,?_⟩
  rw[show A5.toArray.any (E7 x)=A5.any (E7 x) by simp,PN r fs];exact q
theorem RF:DW X (.builtin "len") (λxs H Q=>∃p ys,xs=[.ref p]/\(Ac X.K H p ys∨AS X.K H p ys)/\Q (.int ys.length) H):=by
 intro Zy s Z H xs us Q I r h;obtain⟨p,ys,rfl,b,q⟩:=h;obtain⟨u,rfl,d⟩:=vals1 r;cases d;have hn:=K6;rcases b with b|b
 .obtain⟨A5,c,pl,e⟩:=I.list b;have a:=c.length;exact Calls.call_len_list pl.isList (by simp only[C9] <;> omega) ⟨.int ys.length,H,I.tok _,⟨s.toks+1,by rw[C9,a]⟩,q⟩
 .obtain⟨A5,c,pl,e⟩:=I.tuple b;have a:=c.length;exact len_tuple pl (by simp only[C9] <;> omega) ⟨.int ys.length,H,I.tok _,⟨s.toks+1,by rw[C9,a]⟩,q⟩
theorem Z0:DW X (.builtin "len") (λxs H Q=>∃z,xs=[.str z]/\z.length<=sizeLine/\Q (.int z.length) H):=by
 intro Zy s Z H xs us Q I r h;obtain⟨z,rfl,a,q⟩:=h;obtain⟨u,rfl,t,rfl⟩:=vals1 r;have hn:=K6;exact len_str (by omega) ⟨.int z.length,H,I.tok _,⟨_,rfl⟩,q⟩
theorem KA:DW X (.type "list") (λxs H Q=>∃p ys,xs=[.ref p]/\(Ac X.K H p ys∨AS X.K H p ys)/\∀l,H l=none->Q (.ref l) (upd H l (.lst ys))):=by
 intro Zy s Z H xs us Q I r h;obtain⟨p,ys,rfl,f,q⟩:=h;obtain⟨u,rfl,k⟩:=vals1 r;cases k;have i:∀(A5:List Value),Vals ys A5->ys.length<=sizeLine->∀(h':Heap)(c:Nat),(∀b o',s.heap.get? b=some o'->h'.get? b=some o')->
   h'.get? s.heap.objs.size=some { cls:=.type "list", dict:=none,data:=.seq A5.toArray c,slots:=#[] }->EP X Zy Z Q (.ref s.heap.objs.size) { s with heap:=h' }:=λA5 a d h' c kp e=>
  ⟨.ref s.heap.objs.size,_,I.laid (t':=s.toks) kp (Az _) (show CC X.prog X.w _ h' _ (.lst ys)from⟨d,A5,c,a,e⟩),rfl,q _ (I.AJ.fresh (Az _))⟩
 rcases f with f|f
 .obtain⟨A5,a,pl,d⟩:=I.list f;have g:=a.length;obtain⟨o,ho,j,n,hd⟩:=pl.isList;exact call_list_seq p (.inl rfl) ho j hd (λh' c kp e=>i A5 a d h' c kp e) (by simp only[C9] <;> omega)
 .obtain⟨A5,a,pl,d⟩:=I.tuple f;have g:=a.length;obtain⟨o,ho,j,n,hd⟩:=pl;exact call_list_seq p (.inr rfl) ho j hd (λh' c kp e=>i A5 a d h' c kp e) (by simp only[C9] <;> omega)
theorem JE:DW X (.type "tuple") (λxs H Q=>∃p ys,xs=[.ref p]/\((Ac X.K H p ys/\∀l,H l=none->Q (.ref l) (upd H l (.tup ys)))∨(AS X.K H p ys/\Q (.ref p) H))):=by
 intro Zy s Z H xs us Q I r h;obtain⟨p,ys,rfl,h⟩:=h;obtain⟨u,rfl,j⟩:=vals1 r;cases j;rcases h with⟨c,q⟩|⟨c,q⟩
 .obtain⟨A5,a,pl,d⟩:=I.list c;have f:=a.length;refine call_tuple_list pl.isList (λh' kp=>?_) (by simp only[C9] <;> omega)
  have i:Inv X Zy Z H { s with heap:=h' }:=I.kept (t':=s.toks) kp
  have k:Inv X Zy Z (upd H h'.objs.size (.tup ys)) { s with heap:=h'.push { cls:=.type "tuple", data:=.seq A5.toArray } }:=
   i.laid (t':=s.toks) (λb o e=>Bb _ e) (Az _) (show CC X.prog X.w _ _ _ (.tup ys)from⟨d,A5,a,⟨IsTup.new _ _,λRj g=>by rw[CI _ rfl]at g;cases g;rfl⟩⟩)
  exact⟨.ref h'.objs.size,_,k,rfl,q _ (i.AJ.fresh (Az _))⟩
 .obtain⟨A5,a,pl,d⟩:=I.tuple c;exact call_tuple_same pl ⟨.ref p,H,I,rfl,q⟩
def NY(K:ZIV)(T:String)(x:V)(H:Hp):Prop:=match x with
 | .str _=>T="str"
 | .int _=>T="int"
 | .ref p=>(T="list" /\ ∃xs,Ac K H p xs)∨(T="tuple" /\ ∃o,K.lookup p=some o/\o.cls=.type "tuple" /\ o.dict=none)∨
   (T="dict" /\ ((∃A6,H p=some (.dK A6))∨∃A6,H p=some (.dT A6)))∨(T="set" /\ ∃S n,H p=some (.set S n))∨(T="tuple" /\ ∃xs,H p=some (.tup xs))
 |_=>False
theorem yL(I:Inv X Zy Z H s)(r:RelV x v)(ty:NY X.K T x H):
  s.TypeIs v T/\∀a,v=.ref a->∃ob,s.heap.get? a=some ob/\ob.dict=none:=by
 cases x with
 |str z=>
  obtain⟨t,rfl⟩:=r;cases(show T="str" from ty);exact⟨typeIs_str s z t,λ_ e=>nomatch e⟩
 |int i=>
  obtain⟨t,rfl⟩:=r;cases(show T="int" from ty);exact⟨typeIs_int s i t,λ_ e=>nomatch e⟩
 |ref p=>
  cases r;rcases ty with⟨rfl,xs,f⟩|⟨rfl,o,b,g,hd⟩|⟨rfl,b⟩|⟨rfl,S,n,b⟩|⟨rfl,xs,b⟩
  .obtain⟨A5,_,pl,_⟩:=I.list f;refine⟨pl.isList.typeIs,λa e=>?_⟩;cases e;obtain⟨o,n,e,c,hd,_⟩:=pl;exact⟨o,e,hd⟩
  .refine⟨⟨o,I.Bt p o b,g⟩,λa e=>?_⟩;cases e;exact⟨o,I.Bt _ o b,hd⟩
  .have z:∃o,s.heap.get? p=some o/\o.ExactDict:=by
    rcases b with⟨A6,b⟩|⟨A6,b⟩
    .obtain⟨_,_,_,_,o,_,_,e,ex,_⟩:=I.AJ p _ b;exact⟨o,e,ex⟩
    .obtain⟨_,_,_,_,o,_,_,e,ex,_⟩:=I.AJ p _ b;exact⟨o,e,ex⟩
   obtain⟨o,e,ex⟩:=z;refine⟨⟨o,e,ex.1⟩,λa d=>?_⟩;cases d;exact⟨o,e,ex.2.1⟩
  .obtain⟨o,_,_,_,e,ex,_⟩:=I.AJ p _ b;refine⟨⟨o,e,ex.1⟩,λa d=>?_⟩;cases d;exact⟨o,e,ex.2.1⟩
  .obtain⟨_,A5,_,⟨o,e,c,_⟩,h⟩:=I.AJ p _ b;refine⟨⟨o,e,c⟩,λa d=>?_⟩;cases d;exact⟨o,e,h o e⟩
 |_=>exact False.elim ty
def ON(K:ZIV)(T:String)(r:V->List V->Hp->VK->Prop)(to:TE)(t:TA):TE:=λZ H Q=>to Z H λx H1=>NY K T x H1/\t Z H1 λxs H2=>r x xs H2 Q
variable{o e:Expr}{es:List Expr}{to:TE}{t:TA}{name:Str}{apos Bd:Pos}{id:String}{r:V->List V->Hp->VK->Prop}
end
def lg(X:Cx)(id:String)(r:V->List V->Hp->VK->Prop):Prop:=
 ∀(Zy:ZIW)(s:Shared)(Z:St)(H:Hp)(x:V)(xs:List V)(v:Value)(us:List Value)(Q:VK),Inv X Zy Z H s->RelV x v->Vals xs us->r x xs H Q->
  wpAny (model X.prog X.w) X.A (call (.builtin id) (v::us)) (EP X Zy Z Q) X.xe s
theorem Vals.one:∀{x:V}{us:List Value},Vals [x] us->∃u,us=[u]/\RelV x u:=λr=>vals1 r
theorem Vals.two:∀{x y:V}{us:List Value},Vals [x,y] us->∃u v,us=[u,v]/\RelV x u/\RelV y v:=λr=>vals2 r
theorem Vals.reverse(h:Vals xs us):Vals xs.reverse us.reverse:=by
 induction h with
 |nil=>exact .nil
 |cons r t a=>rw[c7,c7];exact Vals.append a (.cons r .nil)
section
variable{l b:Addr}{zs:List V}
theorem Inv.gY{f:Array Value->Array Value}(I:Inv X Zy Z H s)(c:H l=some (.lst xs))
  (e:s.heap.get? l=some { cls:=.type "list", data:=.seq A5.toArray n }) (hf:f A5.toArray=its'.toArray) (hv:Vals ys its') (hz:ys.length<=sizeLine) :
  Inv X Zy Z (upd H l (.lst ys)) { s with heap:=s.heap.update l (Obj.mapSeq f),toks:=t' }:=by
 have q:=PySem.IsL.update e f;rw[hf]at q;refine I.write (x:=l) (e:=l) (by rw[c];exact trivial) (.inl rfl) (λd u b a=>(FX s.heap (Obj.mapSeq f) (BN b)).trans a) ⟨_,q⟩ ?_;exact⟨hz,its',_,hv,q⟩
theorem Inv.Y0(I:Inv X Zy Z H s)(b:Vals ys A5)(a:ys.length<=sizeLine):
  Inv X Zy Z (upd H s.heap.objs.size (.lst ys)) { s with heap:=s.heap.push { cls:=.type "list", data:=.seq A5.toArray },toks:=t' }:=
 I.laid (λ_ _ q=>Bb _ q) (Az _) ⟨a,A5,0,b,CI _ rfl⟩
theorem Inv.fresh(I:Inv X Zy Z H s):H s.heap.objs.size=none:=I.AJ.fresh (Az _)
theorem Inv.Sk(I:Inv X Zy Z H s)(a:H l=some (.lst xs)):xs.length<=sizeLine/\∃(A5:List Value)(n:Nat),Vals xs A5/\xs.length=A5.length/\s.heap.get? l=some { cls:=.type "list", data:=.seq A5.toArray n }:=by
 obtain⟨z,A5,n,r,e⟩:=I.AJ l _ a;exact⟨z,A5,n,r,r.length,e⟩
def Yo:V->List V->Hp->VK->Prop:=λx vs H Q=>∃l xs y,x=.ref l/\vs=[y]/\H l=some (.lst xs)/\xs.length<sizeLine/\Q .A8 (upd H l (.lst (xs++[y])))
theorem k8:lg X "list.append" Yo:=by
 intro Zy s Z H x vs v us Q I b c h;obtain⟨l,xs,y,rfl,rfl,a,f,q⟩:=h;cases b;obtain⟨u,rfl,d⟩:=c.one;obtain⟨z,A5,n,r,g,e⟩:=I.Sk a;refine call_meets F.slot_list_append ⟨_,e,rfl⟩ F.entry_list_append (F.args_list_append_2 _ _) (PySem.list_append l A5.toArray n u (by rw[C9];omega)) ⟨e,?_⟩;refine⟨.A8,_,I.gY (its':=A5++[u]) a e (by simp) (r.append (.cons d .nil)) ?_,rfl,q⟩;rw[CK,o5];omega
def mI:R2:=λx y H Q=>∃l b xs zs,x=.ref l/\y=.ref b/\H l=some (.lst xs)/\H b=some (.lst zs)/\xs.length+zs.length<=sizeLine/\∀p,H p=none->Q (.ref p) (upd H p (.lst (xs++zs)))
theorem IV:BX X (binaryOp .Add) mI:=by
 intro Zy s Z H x y v u Q I c a h;obtain⟨l,b,xs,zs,rfl,rfl,f,g,k,q⟩:=h;cases c;cases a;obtain⟨z,A5,n,r,m,e⟩:=I.Sk f;obtain⟨j,Bx,n2,d,FA,i⟩:=I.Sk g;refine PySem.P.add_list e i ?_ (by rw[C9,C9];omega);have ea:A5.toArray++Bx.toArray=(A5++Bx).toArray:=by simp
 rw[ea];exact⟨.ref _,_,I.Y0 (t':=s.toks) (r.append d) (by rw[CK];omega),rfl,q _ I.fresh⟩
variable{prog:Program}{w:World}{E:Value->Shared->Prop}
set_option maxRecDepth 100000 in
end
end L2
namespace jI
open PySem.W PySem.Calls
variable{l:OpenLaw}{n:Nat}{prog q:Program}
theorem ZB0{P:Params}{h:Heap}:∀(ns:List Int)(vs:List Value),WellAll P h vs (ns.map WData.int)->IntsAre vs ns:=by
 intro ns
 induction ns with
 |nil=>
  intro vs w;rw[Ud]at w;cases w;exact .nil
 |cons n ns c=>
  intro vs w;rw[C8]at w;cases w with
  |cons a b=>
   cases a;exact .cons _ _ (c _ b)
theorem ZFE(hn:l.most=some n){P:Params}{h:Heap}{args:List WData}{vals:List Value}
  (Nc:l.row.toRowW.claim.pre args=true) (Ju:WellAll P h vals args) :
  ∃a vs ns,vals=[Value.ref a]/\args=[WData.list (ns.map WData.int)]/\h.get? a=some { cls:=.type "list", data:=.seq vs.toArray }/\IntsAre vs ns/\ns.length<=n:=by
 have g:WShape.hasAll [] args [.list .int]=true:=(pre_splitW Nc).1;have f:l.pre.holds [] { args:=args }=true:=(pre_splitW Nc).2;obtain⟨d,r,rfl,h1,h2⟩:=hasAllW_cons g;obtain rfl:=hasAllW_nil h2;obtain⟨xs,rfl,m⟩:=hasW_list h1;obtain⟨ns,rfl⟩:=items_int m;have b:ns.length<=n:=by
  unfold OpenLaw.pre at f;have e:(WTm.not (.lt (.lit (.int (n:Int))) (.len (.arg 0)))).holds [] { args:=[.list (ns.map .int)] }=true:=by
   have e:=(holds_andW f).1;rw[hn]at e;exact e
  have c:=condW_of e (w_not (w_lt w_lit (w_len_list (w_arg rfl))));rw[AL]at c;refine ZHR λq=>?_;have k:(n:Int)<((ns.length:Nat):Int):=by omega
  first
   | (rw[oW k]at c;exact absurd c (by decide))
   | (simp at c;omega)
 cases Ju with
 |cons j i=>
  cases i;cases j with
  |list ho KW=>exact⟨_,_,ns,rfl,rfl,ho,ZB0 ns _ KW,b⟩
theorem ZAN(l:OpenLaw)(args:List WData):l.row.toRowW.claim.post args (.bool true) args=true:=
 postW_of (r:=l.row.toRowW) (X:=(true == true))
  (show WShape.has [] (.bool true) .bool=true by first|rfl|decide|simp[WShape.has,WShape.arms,WShape.armsAll])
  (show(WTm.eq .res (.lit (.bool true))).value [] { args:=args,res:=some (.bool true),after:=args }=some (.bool (true == true))from w_eq_bool (w_res rfl) w_lit) rfl
theorem ZCS{loose:List Str}{XP:(ZIX)->Heap->Prop}{YP:World->Heap->Prop}{d:DefRec}
  (hn:l.most=some n) (PB:d.params.defaults=[])
  (call:∀(w:World)(s₀ b:Shared)(mg mb:ZIX)(h:Addr)(o:Obj)(i cd e:Value)(a:Addr)(vs:List Value)(ns:List Int),
   Ground q loose [] XP w s₀ mg mb b.heap->YP w b.heap->
   b.heap.get? h=some o->o.data=.func (docDef d.name d.params d.body d.scope i cd e)->b.heap.CodeRec cd d.name->mg d.name=some (.ref h)->
   b.heap.get? a=some { cls:=.type "list", data:=.seq vs.toArray }->IntsAre vs ns->ns.length<=n->b.gens=#[]->
   codeAny (model l.prog w) callerA (.call (.ref h) ⟨[.ref a],[]⟩) (λr s'=>r=.ok (.ret (.bool true))/\OldK b.heap s'.heap/\s'.os=b.os/\AllBare s'.gens) b) :
  WalkO q loose XP YP l.row.toRowW d [] (λf vs=>PySem.call f vs):=by
 intro w s₀ b mg mb G Y h o i cd e v kV ho hd Ew j Oi s args vals as Nc ZI1 k Ju y;obtain rfl:v=.none:=Dflts.none j PB;obtain rfl:kV=.none:=Dflts.noKw j;obtain⟨a,vs,ns,rfl,rfl,x,c,g⟩:=ZFE hn Nc Ju;refine enter_call (ya (call w s₀ b mg mb h o i cd e a vs ns G Y ho (fd_plain hd) Ew Oi x c g s) λr s' m=>?_);obtain⟨rfl,h2,u,t⟩:=m;exact⟨.inl ⟨.bool true,.bool true,[],rfl,λ_=>rfl,.bool true,ZAN l _,λ_=>⟨List.Pairwise.nil,λ_ p=>(nomatch p)⟩⟩,h2,u,t⟩
end jI
namespace L2
variable{w:World}{mg:ZIX}{a f:Addr}{fd:FuncData}{qual x:Str}{sp:Sp}{loose ps:List Str}{X:Cx}{A B:Prop}
theorem dD:∀{vs:List Value}{ns:List Int},IntsAre vs ns->Vals (ns.map V.int) vs
 |_,_,.nil=>.nil
 |_,_,.cons n t h=>.cons ⟨t,rfl⟩ (dD h)
def aN(H:Hp):Prop:=∀b,H b=none∨∃o xs,H b=some (.FD o (.lst xs))
theorem ZEW{P:Program}{K:ZIV}{mb:ZIX}{CX:G1}{k:Nat}{y:Addr}{c:Shared}{vs:List Value}{ns:List Int}
  (KX:K.In c.heap) (NG:c.heap.Ns mainGlobals mg) (f:c.heap.Ns builtinsNs mb) (M:∀x:Str,x ≠"__name__" -> mb x=bootBuiltins x) (ZF8:c.heap.NoLimit) (R:c.gens=#[])
  (l:c.heap.get? a=some { cls:=.type "list", data:=.seq vs.toArray }) (hi:IntsAre vs ns) (hl:ns.length<=sizeLine) (hr:Bi k callerA)
  (F:∀ZB:Heap,K.In ZB->ZB.Ns mainGlobals mg->Cc P w K mg ZB CX k y fd [x] sp) (yC:∀(s:Shared)(u:Value),BindsTo s fd ⟨[u],[]⟩ [(x,u)])
  (FF:∀H:Hp,aN H->Ac K H a (ns.map V.int)->sp [.ref a] H (λv _=>v=.bl true) λ_ _ _=>False)
  (Xc:∀H e s',CX [] H c (λ_ _ _=>False) e s'->False) :
  codeAny (model P w) callerA (.call (.ref y) ⟨[.ref a],[]⟩) (λr s'=>r=.ok (.ret (.bool true))/\OldK c.heap s'.heap/\s'.os=c.os/\AllBare s'.gens) c:=by
 have B:=dD hi;have J:=hi.length
 -- from an abstract heap in ZHu nothing but Hl eI may be tracked
 have g:∀H:Hp,aN H->Ac K H a (ns.map V.int)->Bv P w H c.heap->(∀b,H b≠none->b=a)->(H a≠none->K.lookup a=none)->
   codeAny (model P w) callerA (.call (.ref y) ⟨[.ref a],[]⟩) (λr s'=>r=.ok (.ret (.bool true))/\OldK c.heap s'.heap/\s'.os=c.os/\AllBare s'.gens) c:=by
  intro H D S AJ E U;have C:∀{b:Addr}{o:Obj},c.heap.get? b=some o->H b=none->(JM c.heap H).get? b=some o:=λe n=>ZGP e n;have Y:∀{b:Addr}{o:Obj}{es:Array DictEntry}{j:Nat},c.heap.get? b=some o->o.data=.dict es j->H b=none:=λ{b o es j}e d=>by
   cases q:H b with
   |none=>rfl
   |some u=>
    have A:b=a:=E b (by rw[q];simp);subst A;rw[l]at e;cases e;have d':Data.seq vs.toArray _=Data.dict es j:=d;cases d'
  have p:∀{b:Addr}{m:ZIX},c.heap.Ns b m->(JM c.heap H).Ns b m:=λ{b m}AH=>by obtain⟨o,es,j,e,d,r⟩:=AH;exact⟨o,es,j,C e (Y e d),d,r⟩
  have I:K.In (JM c.heap H):=λb o e=>C (KX b o e) (by
   cases q:H b with
   |none=>rfl
   |some u=>
    have A:b=a:=E b (by rw[q];simp);subst A;rw[U (by rw[q];simp)]at e;cases e)
  have T:Mod K mg (JM c.heap H):=⟨I,p NG,⟨mb,p f,M⟩,let ⟨mc,h1,h2⟩:=ZF8;⟨mc,p h1,h2⟩⟩;have e0:Lr P w K mg (JM c.heap H) callerA [] c H:=⟨rfl,T,λb o e=>ZAm e,Uj (xa _ _),trivial,λb f=>absurd (show b∈([]:List Addr)from f) (by simp),AJ,.of_eq R⟩;refine ya ((F _ I (p NG)).run callerA [] c H ⟨[.ref a],[]⟩ [.ref a] [.ref a] _ _ hr e0 (yC c (.ref a)) (.cons rfl .nil) (FF H D S)) λr s' h=>?_;cases r with
  |error e=>exact(Xc H e s' h).elim
  |ok W=>
   cases W with
   |next=>exact False.elim h
   |brk=>exact False.elim h
   |cont=>exact False.elim h
   |ret u=>
    obtain⟨v,H',os,bare,un,N,O,q⟩:=h;have Q:v=.bl true:=q;subst Q;obtain rfl:u=Value.bool true:=O;refine⟨rfl,OldK.of_keep λb o e=>?_,os,bare⟩;cases q:H b with
    |none=>exact un.keep b o e q (by intro z;exact absurd (show b∈([]:List Addr)from z) (by simp)) (by simp)
    |some u=>
     rcases D b with z|⟨ob,xs,z⟩
     .rw[q]at z;cases z
     .have L:=un.Fp b ob _ z;obtain⟨G,_⟩:=AJ b _ z;obtain⟨X,_⟩:=N b _ L;rw[e]at G;cases G;exact X
 cases t:K.lookup a with
 |some o=>
  -- Hl eI is one of Hl ZIE own objects
  have e:=KX a o t;rw[l]at e;cases e;refine g (λ_=>none) (λ_=>.inl rfl) (.inr ⟨_,vs.toArray,_,t,rfl,rfl,rfl,by rw[C9,J];exact hl,by simpa using B⟩) (λb u z=>by have i:(none:Option HO)=some u:=z;cases i) (λb z=>absurd rfl z) λz=>absurd rfl z
 |none=>
  refine g (λb=>if b=a then some (.FD { cls:=.type "list", data:=.seq vs.toArray } (.lst (ns.map V.int)))else none) (λb=>?_) (.inl (.inr ⟨{ cls:=.type "list", data:=.seq vs.toArray },rG rfl⟩)) (λb u z=>?_) (λb z=>?_) λ_=>t
  .by_cases f:b=a
   .exact .inr ⟨_,_,rG f⟩
   .exact .inl (qP f)
  .by_cases f:b=a
   .have i:=(rG f).symm.trans z;cases i;subst f;exact⟨l,by rw[AL];exact hl,vs,_,B,l⟩
   .have i:=(qP f).symm.trans z;cases i
  .by_cases f:b=a
   .exact f
   .exact absurd (qP f) z
theorem ZCQ{l:PySem.W.OpenLaw}{n k:Nat}{q:Program}{XP:(ZIX)->Heap->Prop}{YP:World->Heap->Prop}{d:DefRec}{K:Params->ZIV}{CX:World->G1}{sp:World->Sp}
  (hn:l.most=some n) (K0:n<=sizeLine) (PB:d.params.defaults=[]) (r:Bi k callerA)
  (z:∀(w:World)(h:Heap),YP w h->(K w.params).In h)
  (F:∀(w:World)(mg:ZIX)(j:Addr)(h:Heap),(K w.params).In h->h.Ns mainGlobals mg->mg d.name=some (.ref j)->
   ∃fd:FuncData,(∀(s:Shared)(u:Value),BindsTo s fd ⟨[u],[]⟩ [(x,u)])/\
    ∀ZB:Heap,(K w.params).In ZB->ZB.Ns mainGlobals mg->Cc l.prog w (K w.params) mg ZB (CX w) k j fd [x] (sp w))
  (FF:∀(w:World)(H:Hp)(a:Addr)(ns:List Int),ns.length<=n->aN H->Ac (K w.params) H a (ns.map V.int)->sp w [.ref a] H (λv _=>v=.bl true) λ_ _ _=>False)
  (Xc:∀(w:World)(H:Hp)(s:Shared)(e:Value)(s':Shared),CX w [] H s (λ_ _ _=>False) e s'->False) :
  PySem.W.WalkO q loose XP YP l.row.toRowW d [] (λf vs=>PySem.call f vs):=by
 refine jI.ZCS hn PB λw s₀ p mg mb j o I cd D a vs ns G Y ho hd Ew Oi E i c t=>?_;have m:=z w _ Y;obtain⟨fd,y,C⟩:=F w mg j _ m G.T.g Oi;exact ZEW m G.T.g G.T.b G.T.builtins G.T.nolimit t E i (Bg c K0) r C y (λH B A=>FF w H a ns c B A) λH e s'=>Xc w H p e s'
noncomputable def QF(s:Stmt):Arguments:=match s with
 | .FunctionDef _ a _ _ _ _ _ _ _ _=>a
 |_=>{ posonlyargs:=[],args:=[],vararg:=none,kwonlyargs:=[],kw_defaults:=[],kwarg:=none,defaults:=[] }
noncomputable def K8(s:Stmt):List Stmt:=match s with
 | .FunctionDef _ _ b _ _ _ _ _ _ _=>b
 |_=>[]
noncomputable def Ag(s:Stmt):Scope:=match s with
 | .FunctionDef _ _ _ _ _ _ sc _ _ _=>sc
 |_=>{ kind:=.function,names:=[],isGenerator:=false,isCoroutine:=false }
abbrev El:G1:=λ_ _ _ _ _ _=>False
abbrev E0:XK:=λ_ _ _=>False
theorem VR:Passes El X E0:=λ_ _ _ _ _ _ _ h=>h.elim
structure AG (K:ZIV) (x qual:Str) (st:Stmt) (f:Addr) (fd:FuncData):Prop where
 ex:∃(oc:Value)(od:Option Addr)(kV doc pm:Value)(an:Option Addr)(AX ct:Value)(JI:Array (Option Value)),
  fd=PySem.W.fnOf x qual (QF st) (K8 st) (Ag st) .none kV doc pm an AX ct/\K.lookup f=some ⟨oc,od,.func fd,JI⟩/\PySem.W.codeIn K AX qual=true
 kp:PySem.W.keepIn K (.ref f)=true
section
variable{P:Program}{K:ZIV}{ZB:Heap}
theorem AG.ok{st:Stmt}{N:List Str}{k:Nat}(F:AG K x qual st f fd)(S:Aw N ps (Ag st))(len:∀vs H Q E,sp vs H Q E->vs.length=ps.length)
  (Lg:∀(AX:Value)(A:Around)(outer:List Env)(s:Shared)(H:Hp)(vs:List V)(Q:VK)(E:XK),Bi k (A.deeper (envOfC qual (Ag st) s.heap.objs.size f AX))->sp vs H Q E->
   ∃t,DR (Ea El P w K mg ZB N qual (Ag st) f AX A outer s H E).PX (K8 st) t/\t { nx:=λ_ H'=>Q .A8 H',rt:=Q } (start N vs) H):Cc P w K mg ZB El (k+1) f fd ps sp:=by
 obtain⟨e,od,kV,c,d,g,AX,ct,JI,rfl,a,Ew⟩:=F.ex;refine fZ a Ew S len λA outer s H vs Q E b FF=>?_;obtain⟨t,h,q⟩:=Lg AX A outer s H vs Q E b FF;exact⟨t,h.PX,q⟩
theorem AG.binds{st:Stmt}(F:AG K x qual st f fd)
  (h:∀(kV a b:Value)(c:Option Addr)(AX ct:Value)(us:List Value),us.length=ps.length->bindArgs (PySem.W.fnOf x qual (QF st) (K8 st) (Ag st) .none kV a b c AX ct) ⟨us,[]⟩=pure (ps.zip us)):Binds K fd ps []:=by
 obtain⟨d,od,kV,a,b,c,AX,ct,JI,rfl,e,Ew⟩:=F.ex;exact .all (h kV a b c AX ct)
theorem zc{st:Stmt}{e:Value}{od d:Option Addr}{JI:Array (Option Value)}{kV a b AX ct:Value}(l:K.lookup f=some ⟨e,od,.func (PySem.W.fnOf x qual (QF st) (K8 st) (Ag st) .none kV a b d AX ct),JI⟩)
  (c:PySem.W.codeIn K AX qual=true) (k:PySem.W.keepIn K (.ref f)=true):AG K x qual st f (PySem.W.fnOf x qual (QF st) (K8 st) (Ag st) .none kV a b d AX ct):=⟨⟨e,od,kV,a,b,d,AX,ct,JI,rfl,l,c⟩,k⟩
end
theorem BH{A:Around}{k:Nat}(a:Bi k A):A.units+1<cLine:=IK (Nat.add_le_add_left (by decide:1<=64) _) a.units
theorem pv(i:Nat){pos:Pos}(a:X.N[i]?=some x:=by rfl)(hv:SJ X.env.scope x:=by first|exact Or.inl rfl|exact Or.inr (Or.inl rfl)|exact Or.inr (Or.inr rfl))(hd:(x == ("__debug__":Str))=false:=by decide)
  (Ew:(x == ("__classdict__":Str))=false:=by decide):PE X (.Name x pos) (BS i):=nJ a hv hd Ew
theorem Dd(h:B):if false=true then A else B:=by
 rw[qP Dm];exact h
theorem Np(h:A):if true=true then A else B:=by
 rw[rG rfl];exact h
theorem Ad{c:Prop}[Decidable c](h1:c->A)(h2:¬ c->B):if c then A else B:=by
 by_cases h:c
 .rw[rG h];exact h1 h
 .rw[qP h];exact h2 h
def AB(H H':Hp):Prop:=∀b o,H b=some o->H' b=some o
theorem AB.refl(H:Hp):AB H H:=λ_ _ h=>h
theorem AB.trans{H H1 H2:Hp}(a:AB H H1)(b:AB H1 H2):AB H H2:=λc o h=>b c o (a c o h)
theorem AB.seq{K:ZIV}{H H':Hp}{xs:List V}(e:AB H H')(h:Ac K H a xs):Ac K H' a xs:=by
 rcases h with(h|⟨o,h⟩)|h
 .exact .inl (.inl (e _ _ h))
 .exact .inl (.inr ⟨o,e _ _ h⟩)
 .exact .inr h
end L2
set_option maxHeartbeats 4000000
namespace L2
variable{α:Type}{outer scope:Scope}{env:Env}{X Y:Cx}{c elt tg:Expr}{A:Around}{E:Value->Shared->Prop}{s s2 s4:Shared}{cl closure:List (Str×Addr)}{qual x y z:Str}{ce:Option Str}{C a acc it n p:Addr}{w:World}{ifs:List Expr}{Ku pos px py:Pos}{R:Result->Shared->Prop}{Zy:ZIW}{ws Z:St}{H H' H1 H2 H4:Hp}{js:List Nat}{tt:TT}{te:TE}{J:It}{tn:Nat->Heap->Prop}{i j n0 t':Nat}{v:Value}{wi:TI}{CW:It->St->Hp->Addr->VK->Prop}{N:List Str}{tp:Bool}{xs ys:List V}{A5:List Value}
theorem yx{β:Type}{l:List α}{f:α->β->Sem (ForInStep β)}(g:β->α->β)(h:∀x∈l,∀c,f x c=pure (.yield (g c x))):∀c,forIn l c f=pure (l.foldl g c):=by
 induction l with
 |nil=>intro c;rfl
 |cons x l a=>
  intro c;rw[List.forIn_cons,h x D5,pure_bind];exact a (λy b=>h y (DP _ b)) (g c x)
noncomputable def Li(cells:List (Str×Addr))(cs:List (Str×Addr))(x:Str×NameKind):List (Str×Addr):=
 if x.2=.free then(x.1,(cells.lookup x.1).getD 0)::cs else cs
def Ck(cells:List (Str×Addr))(names:List (Str×NameKind)):List (Str×Addr):=names.foldl (Li cells) []
theorem ZC3(h:∀x∈scope.names,x.2=.free->(env.cells.lookup x.1).isSome=true):closureFor scope env=pure (Ck env.cells scope.names):=by
 simp only[closureFor];rw[yx (Li env.cells) (λx hx c=>by
  obtain⟨n,k⟩:=x;unfold Li
  by_cases b:k=NameKind.free
  .subst b;have q:=h _ hx rfl;obtain⟨a,f⟩:=Option.isSome_iff_exists.mp q;have d:env.cells.lookup n=some a:=f;have e:cellOf env n=pure a:=by unfold cellOf;rw[d]
   simp[e,d]
  .have:(k == NameKind.free)=false:=by simpa using b
   simp[this,b])]
 rfl
theorem gu{cells:List (Str×Addr)}:∀(names:List (Str×NameKind))(acc:List (Str×Addr)),(∀y∈names,y.2=.free->(cells.lookup y.1).isSome=true)->
  (∀x c,acc.lookup x=some c->cells.lookup x=some c)->∀x c,(names.foldl (Li cells) acc).lookup x=some c->cells.lookup x=some c
 | [],acc,_,ha,x,c,e=>ha x c e
 | (n,k)::r,acc,hs,ha,x,c,e=>by
  rw[List.foldl_cons]at e;refine gu r _ (λy f=>hs y (DP _ f)) (λx c e=>?_) x c e;unfold Li at e
  by_cases b:k=NameKind.free
  .rw[rG b]at e;have q:=hs _ D5 b;obtain⟨a,q⟩:=Option.isSome_iff_exists.mp q;have d:cells.lookup n=some a:=q;rw[HX]at e
   by_cases hx:x=n
   .subst hx;simp only[tO,d,ZHV]at e;rw[d,<- e]
   .have g:(x == n)=false:=by simpa using hx
    rw[g]at e;exact ha x c e
  .rw[qP b]at e;exact ha x c e
theorem WI{cells:List (Str×Addr)}{x:Str}:∀(names:List (Str×NameKind))(acc:List (Str×Addr)),((acc.lookup x).isSome=true∨(x,NameKind.free)∈names)->
  ((names.foldl (Li cells) acc).lookup x).isSome=true
 | [],acc,h=>by
  rcases h with h|h
  .exact h
  .cases h
 | (n,k)::r,acc,h=>by
  rw[List.foldl_cons];refine WI r _ ?_;unfold Li;rcases h with h|h
  .refine .inl ?_;split
   .rw[HX];split
    .rfl
    .exact h
   .exact h
  .rcases List.mem_cons.mp h with e|h
   .cases e;refine .inl ?_;rw[rG rfl,HX];simp
   .exact .inr h
theorem R5{env:Env}:∀(names:List (Str×NameKind))(x:Str),
  (names.map λ(n,k)=>if(k == NameKind.free && env.scope.kind == .function && env.kindOf n == some .cell)then(n,NameKind.cell)else(n,k)).lookup x =
   (names.lookup x).map λk=>if(k == NameKind.free && env.scope.kind == .function && env.kindOf x == some .cell)then NameKind.cell else k
 | [],x=>rfl
 | (n,k)::r,x=>by
  have c:=R5 (env:=env) r x;rw[C8]
  by_cases a:(k == NameKind.free && env.scope.kind == .function && env.kindOf n == some .cell)=true
  .show List.lookup x ((if(k == NameKind.free && env.scope.kind == .function && env.kindOf n == some .cell)=true then(n,NameKind.cell)else(n,k))::_)=_
   rw[rG a,HX,HX]
   by_cases hx:x=n
   .subst hx;simp only[tO,cF];rw[rG a]
   .have b:(x == n)=false:=by simpa using hx
    rw[b];exact c
  .show List.lookup x ((if(k == NameKind.free && env.scope.kind == .function && env.kindOf n == some .cell)=true then(n,NameKind.cell)else(n,k))::_)=_
   rw[qP a,HX,HX]
   by_cases hx:x=n
   .subst hx;simp only[tO,cF];rw[qP a]
   .have b:(x == n)=false:=by simpa using hx
    rw[b];exact c
noncomputable abbrev Kg(X:Cx)(N:List Str)(scope:Scope)(cl:List (Str×Addr))(C:Addr)(s:Shared)(H:Hp)(fp:List Addr):Cx:=
 { X with N:=N,s₀:=s,H₀:=H,env:=compEnvC scope cl C X.env,outer:=X.stack,ex:=fp,fn:=λ_=>false,pn:=[],xe:=λ_ _=>False }
noncomputable def C0(js:List Nat)(Z:St):St:=js.map λj=>(Z[j]?).join
structure FK (N:List Str) (outer scope:Scope) (x:Str) (Ao:List Str) (js:List Nat):Prop where
 kind:scope.kind=.function
 OZ:∀y∈scope.names,y.2≠.cell
 loc:∀y∈scope.names,y.2=.local->scope.names.lookup y.1=some .local
 kM:scope.names.lookup x=some .local
 at':js.map (λj=>N[j]?)=Ao.map some
 cell:∀y∈Ao,outer.names.lookup y=some .cell
 free:∀y∈Ao,scope.names.lookup y=some .free
 all:∀y∈scope.names,y.2=.free->outer.names.lookup y.1=some .cell
 nd:(Ao++[x]).Nodup
def JH(X:Cx)(ifs:List Expr)(t:TT):Prop:=
 ∀(Zy:ZIW)(s:Shared)(Z:St)(H:Hp)(Q:Bool->Hp->Prop),Inv X Zy Z H s->t Z H Q->
  wpAny (model X.prog X.w) X.A (forIn ifs true λc r=>if r=true then do let ok <- isTrue c X.env (eval c X.env);pure (ForInStep.yield ok)else pure (ForInStep.yield r)) (TP X Zy Z Q) X.xe s
def kA:TT:=λ_ H Q=>Q true H
theorem sj{t:TT}(a:PT X c t):JH X [c] t:=λZy s Z H Q I h=>by
 rw[List.forIn_cons];refine oS ?_;rw[rG rfl];refine oS (AQ (a Zy s Z H Q I h) λb s1 q=>qh ?_);show wpAny _ _ (forIn [] b _) _ _ s1;rw[nr];exact qh q
def Lk(J:It)(js:List Nat)(tt:TT)(te:TE)(Z:St)(H1:Hp)(acc:Addr)(Q:VK):Prop:=
 ∃W:Nat->Nat->Hp->Prop,(∃m,W 0 m (upd H1 acc (.lst [])))/\∀i m H2,W i m H2->
  (J.stop i H2/\Q (.ref acc) H2)∨(J.go i H2/\∀x H3,J.HA i H2 x H3->tt (C0 js Z++[some x]) H3 λb H4=>
   if b=true then te (C0 js Z++[some x]) H4 λy H5=>∃ys,H5 acc=some (.lst ys)/\ys.length<sizeLine/\∃a,a < m/\W (i+1) a (upd H5 acc (.lst (ys++[y])))
   else ∃a,a < m/\W (i+1) a H4)
def Mu(wi:TI)(js:List Nat)(tt:TT)(te:TE):TE:=λZ H Q=>wi Z H λJ H1=>∀acc,H1 acc=none->Lk J js tt te Z H1 acc Q
theorem sM(l:List α)(a b:α):(l++[a]).set l.length b=l++[b]:=by
 induction l with
 |nil=>rfl
 |cons x l c=>simp[c]
noncomputable def IZ:Option Str->Addr->List (Str×Addr)
 |none,_=>[]
 |some x,n=>[(x,n)]
noncomputable def SH:Option Str->Heap->Heap
 |none,h=>h
 |some _,h=>h.push { cls:=.type "cell", data:=.cell none }
structure Gz (N:List Str) (outer scope:Scope) (ce:Option Str) (zs Ao:List Str) (js:List Nat):Prop where
 kind:scope.kind=.function
 loc:∀y∈scope.names,y.2=.local->scope.names.lookup y.1=some .local
 one:∀y∈scope.names,y.2=.cell->ce=some y.1
 sub:∀x,ce=some x->x∈zs
 cf:∀(n:Nat)(cl:List (Str×Addr)),cellsFrom n scope.names cl=IZ ce n++cl
 pc:∀h:Heap,pushCells h scope.names=SH ce h
 at':js.map (λj=>N[j]?)=Ao.map some
 cell:∀y∈Ao,outer.names.lookup y=some .cell
 free:∀y∈Ao,scope.names.lookup y=some .free
 all:∀y∈scope.names,y.2=.free->outer.names.lookup y.1=some .cell
 nd:(Ao++zs).Nodup
abbrev HV(X:Cx)(N:List Str)(scope:Scope)(ce:Option Str)(cl:List (Str×Addr))(C:Addr)(s:Shared)(H:Hp)(fp:List Addr):Cx:=
 { X with N:=N,s₀:=s,H₀:=H,env:=compEnvC scope (IZ ce (C+1)++cl) C X.env,outer:=X.stack,ex:=fp,fn:=λy=>ce == some y,pn:=[],xe:=λ_ _=>False }
theorem ZCb{M:Model}{a:Addr}{b:Option Addr}{c:Value}{outer:Env}{Q:Env->Shared->Prop}
  (cf:∀(n:Nat)(cl:List (Str×Addr)),cellsFrom n scope.names cl=IZ ce n++cl) (pc:∀h:Heap,pushCells h scope.names=SH ce h)
  (d:Q (newEnv scope s.heap.objs.size a (IZ ce (s.heap.objs.size+1)++closure) qual b c (some outer) builtinsNs) { s with heap:=SH ce (s.heap.push { cls:=.type "dict", data:=.dict #[] }) }) :
  wpAny M A (newFunctionEnv scope a closure [] qual b c (some outer)) Q E s:=by
 simp only[newFunctionEnv,ZHW,ZB8];refine oS (wpAny_alloc ?_);refine oS (wpAny_layCells _ (λname kind cells=>by cases e:kind == NameKind.cell <;> simp[e]) _ _ _ _ ?_)
 rw[cf,pc];rw[show({ s with heap:=s.heap.push { cls:=.type "dict", data:=.dict #[] } }:Shared).heap.objs.size=s.heap.objs.size+1 from Gd ..]
 refine oS ?_;rw[nr];exact qh (qh d)
theorem ZEK{c:Addr}(h:(IZ ce n++cl).lookup y=some c):(ce=some y/\c=n)∨(ce≠some y/\cl.lookup y=some c):=by
 cases ce with
 |none=>exact .inr ⟨λz=>(by cases z),h⟩
 |some x=>
  have h:((x,n)::cl).lookup y=some c:=h;rw[HX]at h
  by_cases e:y=x
  .subst e;simp only[tO]at h;exact .inl ⟨rfl,(Bo h).symm⟩
  .have a:(y == x)=false:=by simpa using e
   rw[a]at h;exact .inr ⟨λz=>e (Bo z).symm,h⟩
theorem fT(h:ce≠some y):(IZ ce n++cl).lookup y=cl.lookup y:=by
 cases ce with
 |none=>rfl
 |some x=>
  show((x,n)::cl).lookup y=_;have a:(y == x)=false:=beq_eq_false_iff_ne.mpr λz=>h (by rw[z]);rw[HX,a]
theorem rD:(IZ (some x) n++cl).lookup x=some n:=by
 show((x,n)::cl).lookup x=_;rw[HX,tO]
theorem xt{prog:Program}{iter:Expr}{it acc:Value}(I:Nat->Shared->Prop)
  (turn:∀n s,I n s->wpAny (model prog w) A (pyNext it) (λr s1=>match r with
   |none=>R (.ok .next) s1
   |some v=>wpAny (model prog w) A (letOwnedTupleGo tg it v) (λ_ s2=>wpAny (model prog w) A (assign tg env v) (λ_ f=>
     wpAny (model prog w) A (forIn ifs true λc r=>if r=true then do let ok <- isTrue c env (eval c env);pure (ForInStep.yield ok)else pure (ForInStep.yield r)) (λok s4=>if ok=true then
      wpAny (model prog w) A (eval elt env) (λx d=>wpAny (model prog w) A (call (.builtin "list.append") [acc,x]) (λ_ b=>∃m,m<n/\I m b) (notedBy (model prog w) A env λe s'=>R (.error e) s') d) (notedBy (model prog w) A env λe s'=>R (.error e) s') s4
      else ∃m,m<n/\I m s4) (notedBy (model prog w) A env λe s'=>R (.error e) s') f)
     (notedBy (model prog w) A env λe s'=>R (.error e) s') s2) (notedBy (model prog w) A env λe s'=>R (.error e) s') s1) (notedBy (model prog w) A env λe s'=>R (.error e) s') s)
  (n:Nat) (h:I n s):codeAny (model prog w) A (.compLoop (.ListComp elt [⟨tg,iter,ifs,0⟩] scope pos) 0 it acc env) R s:=by
 refine codeAny_loop rfl I (λn s o=>(show wpAny _ A ((compTurn (.ListComp elt [⟨tg,iter,ifs,0⟩] scope pos) 0 it acc env).onRaise (λx=>do noteFrame x env;theTreesLotGoes x)) _ _ s from wpAny_noted ?_)) n h
 rw[compTurn_list];refine oS (ZA8 (oS (tN (turn n s o) (λr s1 g=>?_) λ_ _ z=>z)));cases r with
 |none=>exact qh g
 |some v=>
  refine oS (tN g (λ_ s2 l=>oS (tN l (λ_ f k=>oS (tN k (λok s4 a=>?_) λ_ _ z=>z)) λ_ _ z=>z)) λ_ _ z=>z);cases ok with
  |false=>
   rw[qP (by decide)]at a;exact oS (qh (qh ⟨rfl,a⟩))
  |true=>
   rw[rG rfl]at a;exact oS (oS (tN a (λx d j=>oS (tN j (λ_ b i=>qh (qh ⟨rfl,i⟩)) λ_ _ z=>z)) λ_ _ z=>z))
abbrev h9(tt:TT)(te:TE)(acc:Addr)(W:Nat->Nat->Hp->Prop)(i m:Nat)(Z:St)(H:Hp):Prop:=
 tt Z H λb H4=>if b=true then te Z H4 λy H5=>∃ys,H5 acc=some (.lst ys)/\ys.length<sizeLine/\∃m',m' < m/\W (i+1) m' (upd H5 acc (.lst (ys++[y])))
  else ∃m',m' < m/\W (i+1) m' H4
def TM(g:TG)(n:Nat)(J:It)(js:List Nat)(tt:TT)(te:TE)(Z:St)(H1:Hp)(acc:Addr)(Q:VK):Prop:=
 ∃W:Nat->Nat->Hp->Prop,(∃m,W 0 m (upd H1 acc (.lst [])))/\∀i m H2,W i m H2->
  (J.stop i H2/\Q (.ref acc) H2)∨(J.go i H2/\∀x H3,J.HA i H2 x H3->∀ws,ws.length=n->g x (C0 js Z++ws) H3 λσ8 H8=>∃us,us.length=n/\σ8=C0 js Z++us/\h9 tt te acc W i m σ8 H8)
def gU(CW:It->St->Hp->Addr->VK->Prop)(wi:TI):TE:=λZ H Q=>wi Z H λJ H1=>∀acc,H1 acc=none->CW J Z H1 acc Q
section
variable{iter:Expr}{zs Ao:List Str}{fp:List Addr}{g:TG}
theorem ZAC(h:scope.names.lookup x=some .cell):(relabel scope env).names.lookup x=some .cell:=by
 refine(R5 (env:=env) scope.names x).trans ?_;rw[h];simp
theorem ZGe{n:Nat}{v:V}(h:(List.replicate n (none:Option V))[i]?=some (some v)):False:=by
 rw[nv]at h
 by_cases c:i<n
 .rw[rG c]at h;cases h
 .rw[qP c]at h;cases h
theorem ZFz(S:Gz X.N X.env.scope scope ce zs Ao js)(I3:Inv X Zy Z H2 s2)(G:∀b∈fp,Ej X Zy H2 b)(Q:∀b∈fp,b<s2.heap.objs.size){h1:Heap}
  {m:ZIX}(NG:h1.Ns s2.heap.objs.size m) (A:∀b o,s2.heap.get? b=some o->h1.get? b=some o) (F:∀x,ce=some x->h1.IsCell (s2.heap.objs.size+1) none) :
  Inv (HV X (Ao++zs) scope ce (Ck X.env.cells scope.names) s2.heap.objs.size s2 H2 fp) [] (C0 js Z++List.replicate zs.length none) H2 { s2 with heap:=h1,toks:=t' }:=by
 have R:∀y∈scope.names,y.2=.free->(X.env.cells.lookup y.1).isSome=true:=λy g D=>by
  obtain⟨c,e⟩:=I3.ok.has y.1 (.inl (S.all y g D));rw[e];rfl
 have P:∀y c,(Ck X.env.cells scope.names).lookup y=some c->X.env.cells.lookup y=some c:=gu scope.names [] R (λ_ _ e=>by cases e);have O:∀y k,(relabel scope X.env).names.lookup y=some k->k=.cell∨k=.free->scope.names.lookup y=some .free∨ce=some y:=λy k e D=>by
  have t:=(R5 (env:=X.env) scope.names y).symm.trans e;cases q:scope.names.lookup y with
  |none=>rw[q]at t;cases t
  |some k0=>
   rw[q]at t;cases k0 with
   |free=>exact .inl rfl
   |cell=>exact .inr (S.one _ (Ma q) rfl)
   |_=>simp at t;rcases D with rfl|rfl <;> cases t
 have n:js.length=Ao.length:=by have:=tq List.length S.at';simpa using this
 have L:∀y c,X.env.cells.lookup y=some c->c<s2.heap.objs.size:=λy c e=>by
  obtain⟨v,o,ho,_⟩:=I3.cell y c e;exact BA ho
 have f:∀c v,s2.heap.IsCell c v->h1.IsCell c v:=λc v AH=>by obtain⟨o,ho,hd⟩:=AH;exact⟨o,A c o ho,hd⟩
 have B:∀y c,(IZ ce (s2.heap.objs.size+1)++Ck X.env.cells scope.names).lookup y=some c->(ce=some y/\c=s2.heap.objs.size+1)∨(ce≠some y/\X.env.cells.lookup y=some c):=λy c e=>(ZEK e).imp id λz=>⟨z.1,P y c z.2⟩;have T:∀y∈Ao,ce≠some y:=λy g z=>(List.nodup_append.mp S.nd).2.2 y g y (S.sub y z) rfl;refine⟨⟨I3.ok.mod,S.kind,I3.ok.glob,I3.ok.blt,Az _,λy z c K E=>?_,λy g=>?_,λy c J e=>?_,I3.ok.hd,I3.ok.frames,.inl rfl,λb s=>⟨Bn (Q b s),λy c e=>?_⟩,
  λb o e=>I3.bs b o e,Bg I3.ok.Gp I3.sz,λb o e s=>?_,λb s V=>?_,I3.stack,I3.UB⟩,rfl,I3.bare,Un.kept A,⟨m,NG,λi y v K E e3=>?_⟩,λy c e=>?_,I3.AJ.fresh (Az _),λy c e=>?_,λp W=>(by cases W),I3.AJ.kept A,?_⟩
 .rcases B y c K with⟨a1,rfl⟩|⟨_,D0⟩
  .rcases B z _ E with⟨a2,_⟩|⟨_,FE⟩
   .exact Bo (a1.symm.trans a2)
   .exact absurd (L z _ FE) (ZHT (FZ _))
  .rcases B z c E with⟨_,rfl⟩|⟨_,FE⟩
   .exact absurd (L y _ D0) (ZHT (FZ _))
   .exact I3.ok.inj y z c D0 FE
 .have J:scope.names.lookup y=some .free∨ce=some y:=g.elim (λg=>O y _ g (.inl rfl)) λg=>O y _ g (.inr rfl);show ∃c,List.lookup y (IZ ce (s2.heap.objs.size+1)++Ck X.env.cells scope.names)=some c
  by_cases ex:ce=some y
  .rw[ex];exact⟨_,rD⟩
  .rw[fT ex];exact Option.isSome_iff_exists.mp (WI scope.names [] (.inr (Ma (J.resolve_right ex))))
 .rcases B y c e with⟨_,rfl⟩|⟨n1,_⟩
  .exact FZ _
  .exact absurd (eq_of_beq J) n1
 .rcases B y c e with⟨_,rfl⟩|⟨_,D0⟩
  .exact OL (L9 (Q b s))
  .exact(G b s).2.2.2.2.1 y c D0
 .rcases(G b s).2.2.2.1 with z|z
  .exact I3.ok.Kh b o e z
  .exact absurd (De (De (BA e) I3.ok.Gp) z) (MZ _)
 .rcases List.mem_cons.mp (I3.P6 b V)with z|z
  .exact(G b s).2.1 z
  .exact(G b s).2.2.1 z
 .have F:(C0 js Z).length=Ao.length:=by unfold C0;rw[AL,n]
  have hi:i<Ao.length:=by
   by_cases hi:i<Ao.length
   .exact hi
   .have d:(C0 js Z++List.replicate zs.length none)[i]?=some (some v):=E;rw[Jk (by rw[F];omega),F]at d;exact(ZGe d).elim
  have H:Ao[i]?=some y:=by
   have H:(Ao++zs)[i]?=some y:=K
   rwa [HW hi]at H
  have d:(C0 js Z)[i]?=some (some v):=by
   have d:(C0 js Z++List.replicate zs.length none)[i]?=some (some v):=E
   rwa [HW (by rw[F];exact hi)]at d
  have C:y∈Ao:=EI H;unfold C0 at d;rw[Bc]at d;cases I:js[i]? with
  |none=>rw[I]at d;cases d
  |some j=>
   rw[I]at d;have σ:X.N[j]?=some y:=by
    have q:=tq (λl=>l[i]?) S.at';simp only[Bc,I,H,cF]at q;exact Bo q
   have hσ:Z[j]?=some (some v):=by
    simp only[cF,Option.some.injEq]at d;cases q:Z[j]? with
    |none=>rw[q]at d;cases d
    |some w=>rw[q]at d;simp at d;rw[d]
   obtain⟨m0,Y,U⟩:=I3.loc;obtain⟨u,r,l⟩:=U j y v σ hσ (.inr (.inl (S.cell y C)));refine⟨u,r,?_⟩;rcases l with⟨k,_⟩|⟨_,c,e,z⟩
   .have k':X.env.scope.names.lookup y=some .local:=k;rw[S.cell y C]at k';cases k'
   .have YJ:X.env.kindOf y=some .cell:=S.cell y C;have D:(relabel scope X.env).names.lookup y=some .cell:=by
     refine(R5 (env:=X.env) scope.names y).trans ?_;rw[S.free y C];simp[I3.ok.kind,YJ]
    obtain⟨c',t⟩:=Option.isSome_iff_exists.mp (WI (cells:=X.env.cells) scope.names [] (.inr (Ma (S.free y C))));have M:=P y c' t;rw[e]at M;cases M;exact .inr ⟨.inl D,c,(fT (T y C)).trans t,f c _ z⟩
 .rcases B y c e with⟨a,rfl⟩|⟨_,D0⟩
  .exact⟨none,F _ a⟩
  .obtain⟨v,z⟩:=I3.cell y c D0;exact⟨v,f c v z⟩
 .rcases B y c e with⟨_,rfl⟩|⟨_,D0⟩
  .exact I3.AJ.fresh (FZ _)
  .exact I3.EE y c D0
 .show(C0 js Z++List.replicate zs.length none).length=(Ao++zs).length;unfold C0;simp[n]
theorem z5(h:Y.prog=X.prog)(hw:Y.w=X.w)(U:Y.K=X.K)(hA:Y.A=X.A)(t:Y.xe=λ_ _=>False)(S:Y.calm=true)
  (hg:PG Y tg g) (FL:JH Y ifs tt) (Ey:PE Y elt te)
  (T:Turn X.prog X.w X.K tg J fp it tn) (p:∀b∈fp,Y.Ok->Ej Y [] (λ_=>none) b)
  (W:Nat->Nat->Hp->Prop) (Q:VK)
  (turn:∀i m H2,W i m H2->(J.stop i H2/\Q (.ref acc) H2)∨(J.go i H2/\∀x H3,J.HA i H2 x H3->∀ws,ws.length=n0->g x (C0 js Z++ws) H3 λσ8 H8=>∃us,us.length=n0/\σ8=C0 js Z++us/\h9 tt te acc W i m σ8 H8))
  (I4:Inv Y [] (C0 js Z++ws) H4 s4) (Dn:tn 0 s4.heap) (F:∀b∈fp,H4 b=none) (P:Nat) (w4:W 0 P H4)
  (wI:ws.length=n0) (hR:∀H' s' ws,Inv Y [] (C0 js Z++ws) H' s'->Q (.ref acc) H'->R (.ok .next) s') :
  codeAny (model X.prog X.w) X.A (.compLoop (.ListComp elt [⟨tg,iter,ifs,0⟩] scope pos) 0 (.ref it) (.ref acc) Y.env) R s4:=by
 have AJ:=I4.ok;have L:∀{H':Hp},(∀b∈fp,H' b=none)->∀b∈fp,Ej Y [] H' b:=λhn b c=>⟨hn b c,(p b c AJ).2⟩;rw[<- h,<- hw,<- hA];have j:∀{σ:Value->Shared->Prop}v s,Y.xe v s->σ v s:=λv s z=>by rw[t]at z;exact z.elim
 refine xt (λn s'=>∃i ws H',ws.length=n0/\Inv Y [] (C0 js Z++ws) H' s'/\tn i s'.heap/\(∀b∈fp,H' b=none)/\W i n H') ?_ P ⟨0,ws,H4,wI,I4,Dn,F,w4⟩;rintro n O⟨i,eY,H5,zo,I5,KY,RC,w5⟩;rcases turn i n H5 w5 with⟨stop,q⟩|⟨go,step⟩
 .have d:=T.done Y h hw U S i [] O _ H5 (λ_ _=>False) I5 (L RC) KY stop;rw[<- h,<- hw]at d;refine tN d (λr N⟨C,I6⟩=>?_) λ_ _ z=>z.elim;subst C;exact hR H5 N eY I6 q
 .have d:=T.item Y h hw U S i [] O _ H5 (λ_ _=>False) I5 (L RC) KY go;rw[<- h,<- hw]at d;refine tN d (λr N⟨u,C,h6⟩=>?_) λ_ _ z=>z.elim;subst C;refine tN h6 (λ_ M⟨v,H7,I7,r7,y7,H,E⟩=>?_) λ_ _ z=>z.elim;have tD:=I7.pinned (L E) (T.obj _ _ H);refine tN (hg _ M _ H7 v u _ tD r7 (step v H7 y7 eY zo)) (λ_ s8⟨σ8,H8,I8,us,V,e8,B⟩=>?_) j;subst e8;have a:∀{σa:St}{Ha:Hp}{sa:Shared},Inv Y ([]++Qk fp M.heap) σa Ha sa->tn (i+1) sa.heap/\(∀b∈fp,Ha b=none):=λ{σa Ha sa}Ia=>by
   refine⟨T.keep _ _ _ H λb c o e=>(Ia.pin (b,o) (FY _ (FY _ (Rg c e)))).1,λb c=>?_⟩;obtain⟨o,e,d⟩:=T.obj _ _ H b c;exact(Ia.pin (b,o) (FY _ (FY _ (Rg c e)))).2.1
  refine tN (FL _ s8 _ H8 _ I8 B) (λb s9⟨H9,I9,l⟩=>?_) j;cases b with
  |false=>
   have k:∃f,f < n/\W (i+1) f H9:=l;obtain⟨f,D,w9⟩:=k;rw[qP (by decide)];exact⟨f,D,i+1,_,H9,V,I9.Pe,(a I9).1,(a I9).2,w9⟩
  |true=>
   rw[rG rfl];rw[rG rfl]at l;refine tN (Ey _ s9 _ H9 _ I9 l) (λyv IG⟨y,dW,ug,zP,ys,BD,hz,f,D,qH⟩=>?_) j;refine tN (k8 (X:=Y) _ IG _ dW (.ref acc) [y] (.ref acc) [yv] (λ_ eN=>eN=upd dW acc (.lst (ys++[y]))) ug rfl (.cons zP .nil) ⟨acc,ys,y,rfl,rfl,BD,hz,rfl⟩)
    (λ_ s11⟨_,eN,I,_,G⟩=>?_) j
   subst G;exact⟨f,D,i+1,_,_,V,I.Pe,(a I).1,(a I).2,qH⟩
theorem cL{RR:Value->Addr->Result->Shared->Prop}(L:X.calm=true)(S:Gz X.N X.env.scope scope ce zs Ao js)
  (I:∀C s H,PG (HV X (Ao++zs) scope ce (Ck X.env.cells scope.names) C s H fp) tg g)
  (FL:∀C s H,JH (HV X (Ao++zs) scope ce (Ck X.env.cells scope.names) C s H fp) ifs tt) (Ey:∀C s H,PE (HV X (Ao++zs) scope ce (Ck X.env.cells scope.names) C s H fp) elt te)
  (T:Turn X.prog X.w X.K tg J fp it tn) (I2:Inv X Zy Z H2 s2) (DY:tn 0 s2.heap) (t:∀b∈fp,Ej X Zy H2 b) (Q:VK) (M:∀acc,H2 acc=none->TM g zs.length J js tt te Z H2 acc Q)
  (k:∀acc C H' s' m,Inv X Zy Z H' s'->Ej X Zy H' C->s'.heap.Ns C m->Q (.ref acc) H'->RR (.ref acc) C (.ok .next) s') :
  wpAny (model X.prog X.w) X.A (newList []) (λacc a=>wpAny (model X.prog X.w) X.A (newFunctionEnv scope X.env.globals (Ck X.env.cells scope.names) [] X.env.qual none .none (some X.env)) (λv s4=>
   codeAny (model X.prog X.w) X.A (.compStart (.ListComp elt [⟨tg,iter,ifs,0⟩] scope pos) 0 (.ref it) acc { v with scope:=relabel scope X.env }) (RR acc v.locals) s4) E a) E s2:=by
 refine vH (ZCb S.cf S.pc ?_);have i:Inv X Zy Z (upd H2 s2.heap.objs.size (.lst [])) { s2 with heap:=s2.heap.push { cls:=.type "list", data:=.seq ([]:List Value).toArray } }:=I2.Y0 (t':=s2.toks) .nil (Cn _)
 have z:∀b∈fp,b<s2.heap.objs.size:=λb c=>by
  obtain⟨o,e,_⟩:=T.obj _ _ DY b c;exact BA e
 have hsz:(s2.heap.push { cls:=.type "list", data:=.seq ([]:List Value).toArray }).objs.size=s2.heap.objs.size+1:=Gd ..;have f:∀b∈fp,Ej X Zy (upd H2 s2.heap.objs.size (.lst [])) b:=λb c=>⟨by rw[AY (Bn (z b c))];exact(t b c).1,(t b c).2⟩;generalize j:({ s2 with heap:=s2.heap.push { cls:=.type "list", data:=.seq ([]:List Value).toArray } }:Shared)=a at i ⊢
 have u:a.heap=s2.heap.push { cls:=.type "list", data:=.seq ([]:List Value).toArray }:=by rw[<- j]
 have l:∀b∈fp,b<a.heap.objs.size:=λb c=>by rw[u,hsz];exact L9 (z b c)
 generalize n:SH ce (a.heap.push { cls:=.type "dict", data:=.dict #[] })=h1;have r:∀b o,(a.heap.push { cls:=.type "dict", data:=.dict #[] }).get? b=some o->h1.get? b=some o:=λb o e=>by
  rw[<- n];cases ce with
  |none=>exact e
  |some _=>exact Bb _ e
 have h:∀b o,a.heap.get? b=some o->h1.get? b=some o:=λb o e=>r b o (Bb _ e);have D:∀b o,s2.heap.get? b=some o->h1.get? b=some o:=λb o e=>h b o (by rw[u];exact Bb _ e);have O:h1.Ns a.heap.objs.size (λ_=>none):=(Heap.Ns.new a.heap (.type "dict")).keeps r;have P:∀x,ce=some x->h1.IsCell (a.heap.objs.size+1) none:=λx hx=>by
  subst hx;rw[<- n];have e:(a.heap.push { cls:=.type "dict", data:=.dict #[] }).objs.size=a.heap.objs.size+1:=Gd ..;exact⟨_,by rw[<- e];exact CI _ rfl,rfl⟩
 have R:=ZFz S i f l O h P (t':=a.toks);have y:tn 0 h1:=T.keep _ _ _ DY λb _ o e=>D b o e;obtain⟨W,⟨F,B⟩,turn⟩:=M s2.heap.objs.size (I2.AJ.fresh (Az _));have d:codeAny (model X.prog X.w) X.A (.compLoop (.ListComp elt [⟨tg,iter,ifs,0⟩] scope pos) 0 (.ref it) (.ref s2.heap.objs.size) (compEnvC scope (IZ ce (a.heap.objs.size+1)++Ck X.env.cells scope.names) a.heap.objs.size X.env))
   (RR (.ref s2.heap.objs.size) a.heap.objs.size) { a with heap:=h1 }:=by
  refine z5 (X:=X) (Y:=HV X (Ao++zs) scope ce (Ck X.env.cells scope.names) a.heap.objs.size a (upd H2 s2.heap.objs.size (.lst [])) fp) (acc:=s2.heap.objs.size) (Q:=Q) rfl rfl rfl rfl rfl L (I _ _ _) (FL _ _ _) (Ey _ _ _) T (λb c ok=>⟨rfl,(ok.LK b c).1,ok.Jr b c,.inl c,(ok.LK b c).2,λp G=>by cases G⟩) W turn R y (λb c=>(f b c).1) F B (ZHM ..) λH' s' w I' q=>?_;obtain⟨m,hn,_⟩:=I'.loc;exact k _ _ H' s' m (i.ZEz (ch:=fp) I'.os I'.base I'.AJ I'.bare λb c=>⟨(f b c).2.2.2.1,(f b c).2.1,(f b c).2.2.2.2.1,(f b c).2.2.2.2.2⟩) (i.Ol (Az _) I'.free) hn q
 exact codeAny_compStart_list d (T.self X.A 0 _ _ _ y d)
theorem lF(S:Gz X.N X.env.scope scope ce zs Ao js)(I:Inv X Zy Z H s):closureFor scope X.env=pure (Ck X.env.cells scope.names):=ZC3 λy a b=>by
 obtain⟨c,e⟩:=I.ok.has y.1 (.inl (S.all y a b));rw[e];rfl
theorem zy(k:∀J Z H1 acc Q,CW J Z H1 acc Q->TM g zs.length J js tt te Z H1 acc Q)(f:X.calm=true)(S:Gz X.N X.env.scope scope ce zs Ao js)(hi:PI X tg iter wi)
  (d:∀fp C s H,PG (HV X (Ao++zs) scope ce (Ck X.env.cells scope.names) C s H fp) tg g)
  (FL:∀fp C s H,JH (HV X (Ao++zs) scope ce (Ck X.env.cells scope.names) C s H fp) ifs tt) (Ey:∀fp C s H,PE (HV X (Ao++zs) scope ce (Ck X.env.cells scope.names) C s H fp) elt te)
  (c:∀v,foldedSetIterable iter X.env v=pure v):PE X (.ListComp elt [⟨tg,iter,ifs,0⟩] scope pos) (gU CW wi):=by
 intro Zy s Z H Q I h;rw[eval_ListComp];refine wpAny_comprehension_free (use:=none) rfl c (lF S I) S.kind S.loc (AQ (hi Zy s Z H _ I h) λv s1 h1=>AQ h1 λUS s2 h2=>?_);obtain⟨it,fp,tn,J,H2,e,I2,T,DY,l,hw⟩:=h2;subst e;refine cL (RR:=λacc C=>compPost (model X.prog X.w) X.A X.xe none (EP X Zy Z Q) acc C) f S (d fp) (FL fp) (Ey fp) T I2 DY l Q (λacc j=>k _ _ _ _ _ (hw acc j)) λacc C H' s' m I' a hn q=>⟨m,hn,λh' X9=>?_⟩;exact⟨.ref acc,H',I'.turned (t':=s'.toks) (λb o i e=>(X9.2 b i).trans e) a.1 a.2.1 a.2.2.2.1 a.2.2.2.2.1 a.2.2.2.2.2,rfl,q⟩
theorem ZBS(x:∀J Z H1 acc Q,CW J Z H1 acc Q->TM g zs.length J js tt te Z H1 acc Q)(B:X.N.Nodup)(Eu:X.N[i]?=some y)(k:Loc X.env.scope y)(t:X.calm=true)(S:Gz X.N X.env.scope scope ce zs Ao js)(hi:PI X tg iter wi)
  (p:∀fp C s H,PG (HV X (Ao++zs) scope ce (Ck X.env.cells scope.names) C s H fp) tg g)
  (FL:∀fp C s H,JH (HV X (Ao++zs) scope ce (Ck X.env.cells scope.names) C s H fp) ifs tt) (Ey:∀fp C s H,PE (HV X (Ao++zs) scope ce (Ck X.env.cells scope.names) C s H fp) elt te)
  (Pk:swapsWith (.ListComp elt [⟨tg,iter,ifs,0⟩] scope pos) (some (.Name y py)) Ku.line X.env=pure true)
  (r:X.fn y=true∨X.env.scope.names.lookup y=some .local)
  (l:∀v,foldedSetIterable iter X.env v=pure v):PS X (.Assign [.Name y py] (.ListComp elt [⟨tg,iter,ifs,0⟩] scope pos) Ku) (Ep (gU CW wi) (Cd i)):=by
 intro Zy s Z H D I h;rw[exec_Assign_Name_used _ _ _ _ Pk];refine oS (ZA8 (oS ?_));show wpAny _ X.A (do let _ <- comprehension (.ListComp elt [⟨tg,iter,ifs,0⟩] scope pos) scope X.env _ (newList []) false (eval iter X.env) (some (assign (.Name y py) X.env))) _ _ s
 refine oS (tN (wpAny_comprehension_free (use:=some (assign (.Name y py) X.env)) (Q:=λ_ s'=>SP X Zy D .next s') rfl l (lF S I) S.kind S.loc
  (AQ (hi Zy s Z H _ I h) λv s1 h1=>AQ h1 λUS s2 h2=>?_)) (λ_ s' n=>qh (qh n)) λ_ _ e=>e)
 obtain⟨it,fp,tn,J,H2,e,I2,T,DY,E,hw⟩:=h2;subst e;refine cL (RR:=λacc C=>compPost (model X.prog X.w) X.A X.xe (some (assign (.Name y py) X.env)) (λ_ s'=>SP X Zy D .next s') acc C) t S (p fp) (FL fp) (Ey fp) T I2 DY E _ (λacc f=>x _ _ _ _ _ (hw acc f)) λacc C H' s' m I' c hn q=>?_;show wpAny _ X.A (assign (.Name y py) X.env (.ref acc)) _ _ s';refine wpAny_assign_Name (V8 (v:=.ref acc) I' B Eu k rfl (λPn j⟨a,d,f⟩=>?_) r);have F:C≠a:=by
  rcases f with z|z
  .rw[z];exact c.2.1
  .exact(c.2.2.2.2.1 y a z).symm
 refine⟨m,hn.sameBut d F,λh' X9=>?_⟩;exact⟨_,H',j.turned (t':=Pn.toks) (λb o u e=>(X9.2 b u).trans e) c.1 c.2.1 c.2.2.2.1 c.2.2.2.2.1 c.2.2.2.2.2,q⟩
theorem lE{n:Nat}{cl:List (Str×Addr)}:∀{names:List (Str×NameKind)},(∀y∈names,y.2≠.cell)->cellsFrom n names cl=cl
 | [],_=>rfl
 | (x,k)::r,h=>by
  have b:(k == NameKind.cell)=false:=beq_eq_false_iff_ne.mpr (h _ D5);rw[cellsFrom,b];exact lE λy a=>h y (DP _ a)
theorem fP{a:Heap}:∀{names:List (Str×NameKind)},(∀y∈names,y.2≠.cell)->pushCells a names=a
 | [],_=>rfl
 | (x,k)::r,h=>by
  have c:(k == NameKind.cell)=false:=beq_eq_false_iff_ne.mpr (h _ D5);rw[pushCells,c];exact fP λy b=>h y (DP _ b)
theorem Gz.mk0(kind:scope.kind=.function)(OZ:∀y∈scope.names,y.2≠.cell)(loc:∀y∈scope.names,y.2=.local->scope.names.lookup y.1=some .local)
  (at':js.map (λj=>N[j]?)=Ao.map some) (cell:∀y∈Ao,outer.names.lookup y=some .cell) (free:∀y∈Ao,scope.names.lookup y=some .free)
  (all:∀y∈scope.names,y.2=.free->outer.names.lookup y.1=some .cell) (nd:(Ao++zs).Nodup):Gz N outer scope none zs Ao js:=
 ⟨kind,loc,λy a e=>absurd e (OZ y a),λx e=>(by cases e),λn cl=>lE OZ,λh=>fP OZ,at',cell,free,all,nd⟩
theorem Gz.len(S:Gz N outer scope ce zs Ao js)(Z:St):(C0 js Z).length=Ao.length:=by
 unfold C0;rw[AL];have:=tq List.length S.at';simpa using this
theorem cq(S:Gz N outer scope ce [x] Ao js)(J:It)(Z:St)(H1:Hp)(acc:Addr)(Q:VK)(h:Lk J js tt te Z H1 acc Q):TM (Cd Ao.length) 1 J js tt te Z H1 acc Q:=by
 obtain⟨W,a,h⟩:=h;refine⟨W,a,λi m H2 w=>(h i m H2 w).imp id λz=>⟨z.1,λx H3 y ws hw=>?_⟩⟩
 match ws,hw with
 | [w],_=>
  have e:(C0 js Z++[w]).set Ao.length (some x)=C0 js Z++[some x]:=by rw[<- S.len Z];exact sM _ _ _
  exact⟨[some x],rfl,e,by rw[e];exact z.2 x H3 y⟩
theorem lA(S:Gz X.N X.env.scope scope ce [x] Ao js)(hx:scope.names.lookup x=some .local∨(ce=some x/\scope.names.lookup x=some .cell)):
  PG (HV X (Ao++[x]) scope ce cl C s H fp) (.Name x px) (Cd Ao.length):=
 dB S.nd (by simp) (hx.imp (λh=>lookup_relabel_local h) λh=>ZAC h.2) (hx.symm.imp (λh=>by show(ce == some x)=true;rw[h.1];exact tO _) λh=>lookup_relabel_local h)
theorem FK.G(S:FK N outer scope x Ao js):Gz N outer scope none [x] Ao js:=.mk0 S.kind S.OZ S.loc S.at' S.cell S.free S.all S.nd
theorem uR(b:X.calm=true)(S:FK X.N X.env.scope scope x Ao js)(hi:PI X (.Name x px) iter wi)
  (FL:∀fp C s H,JH (Kg X (Ao++[x]) scope (Ck X.env.cells scope.names) C s H fp) ifs tt) (Ey:∀fp C s H,PE (Kg X (Ao++[x]) scope (Ck X.env.cells scope.names) C s H fp) elt te)
  (a:∀v,foldedSetIterable iter X.env v=pure v:=by intro _;rfl):PE X (.ListComp elt [⟨.Name x px,iter,ifs,0⟩] scope pos) (Mu wi js tt te):=
 zy (CW:=λJ Z H1 acc Q=>Lk J js tt te Z H1 acc Q) (cq S.G) b S.G hi (λ_ _ _ _=>lA S.G (.inl S.kM)) FL Ey a
theorem ZEm(c:X.N.Nodup)(Eu:X.N[i]?=some y)(a:Loc X.env.scope y)(b:X.calm=true)(S:FK X.N X.env.scope scope x Ao js)(hi:PI X (.Name x px) iter wi)
  (FL:∀fp C s H,JH (Kg X (Ao++[x]) scope (Ck X.env.cells scope.names) C s H fp) ifs tt) (Ey:∀fp C s H,PE (Kg X (Ao++[x]) scope (Ck X.env.cells scope.names) C s H fp) elt te)
  (Pk:swapsWith (.ListComp elt [⟨.Name x px,iter,ifs,0⟩] scope pos) (some (.Name y py)) Ku.line X.env=pure true:=by rfl)
  (hf:X.fn y=true∨X.env.scope.names.lookup y=some .local:=by first|exact .inl rfl|exact .inr rfl|assumption)
  (hs:∀v,foldedSetIterable iter X.env v=pure v:=by intro _;rfl):PS X (.Assign [.Name y py] (.ListComp elt [⟨.Name x px,iter,ifs,0⟩] scope pos) Ku) (Ep (Mu wi js tt te) (Cd i)):=
 ZBS (CW:=λJ Z H1 acc Q=>Lk J js tt te Z H1 acc Q) (cq S.G) c Eu a b S.G hi (λ_ _ _ _=>lA S.G (.inl S.kM)) FL Ey Pk hf hs
end
def Es(K:ZIV)(tp:Bool)(H:Hp)(a:Addr)(xs:List V):Prop:=match tp with
 |false=>Ac K H a xs
 |true=>AS K H a xs
theorem Es.or{K:ZIV}(h:Es K tp H a xs):Ac K H a xs∨AS K H a xs:=by
 cases tp
 .exact .inl h
 .exact .inr h
noncomputable def P8(K:ZIV)(tp:Bool)(a:Addr)(xs:List V):It:=
 ⟨λi H=>Es K tp H a xs/\i<xs.length,λi H x H'=>H'=H/\xs[i]?=some x,λi H=>Es K tp H a xs/\xs.length<=i⟩
theorem uq{P:Program}{K:ZIV}(a it:Addr)(xs:List V):Turn P w K tg (P8 K false a xs) [it] it (λi h=>h.IsListIter it a i) where
 mem:=by simp
 obj:=(QP (P:=P) (w:=w) (K:=K) (tg:=tg) a it).obj
 keep:=(QP (P:=P) (w:=w) (K:=K) (tg:=tg) a it).keep
 item:=by
  intro X f hw g d i Zy s Z H E I c st b;obtain⟨j,hi⟩:=b;refine AQ ((QP (P:=P) (w:=w) (K:=K) (tg:=tg) a it).item X f hw g d i Zy s Z H E I c st ⟨xs,xs[i],j,by simp[hi]⟩) λr s1 AH=>by obtain⟨u,e,h⟩:=AH;exact⟨u,e,AQ h λ_ s2 Cr=>by obtain⟨x,H',I',k,y,AF,l⟩:=Cr;exact⟨x,H',I',k,⟨y.1,y.2 xs j⟩,AF,l⟩⟩
 done:=by
  intro X f hw g d i Zy s Z H E I c st b;exact(QP (P:=P) (w:=w) (K:=K) (tg:=tg) a it).done X f hw g d i Zy s Z H E I c st ⟨xs,b.1,b.2⟩
 self:=(QP (P:=P) (w:=w) (K:=K) (tg:=tg) a it).self
theorem wB{P:Program}{K:ZIV}(a it:Addr)(xs:List V):Turn P w K tg (P8 K true a xs) [it] it (λi h=>h.IsTupleIter it a i) where
 mem:=by simp
 obj:=(Oo (P:=P) (w:=w) (K:=K) (tg:=tg) a it).obj
 keep:=(Oo (P:=P) (w:=w) (K:=K) (tg:=tg) a it).keep
 item:=by
  intro X f hw g d i Zy s Z H E I c st b;obtain⟨j,hi⟩:=b;refine AQ ((Oo (P:=P) (w:=w) (K:=K) (tg:=tg) a it).item X f hw g d i Zy s Z H E I c st ⟨xs,xs[i],j,by simp[hi]⟩) λr s1 AH=>by obtain⟨u,e,h⟩:=AH;exact⟨u,e,AQ h λ_ s2 Cr=>by obtain⟨x,H',I',k,y,AF,l⟩:=Cr;exact⟨x,H',I',k,⟨y.1,y.2 xs j⟩,AF,l⟩⟩
 done:=by
  intro X f hw g d i Zy s Z H E I c st b;exact(Oo (P:=P) (w:=w) (K:=K) (tg:=tg) a it).done X f hw g d i Zy s Z H E I c st ⟨xs,b.1,b.2⟩
 self:=(Oo (P:=P) (w:=w) (K:=K) (tg:=tg) a it).self
def Xp(K:ZIV)(tl:TE):TI:=λZ H R=>tl Z H λx H1=>∃tp a xs,x=.ref a/\Es K tp H1 a xs/\R (P8 K tp a xs) H1
noncomputable def Yv(z:Str):It:=⟨λi _=>i<z.cps.size,λi H x H'=>H'=H/\∃c,z.cps[i]?=some c/\x=.str ⟨#[c]⟩,λi _=>i=z.cps.size⟩
theorem kr{P:Program}{K:ZIV}{t:Tok}{ty:String}
  (hn:["enumerate","zip","dict_itemiterator","dict_reverseitemiterator","odict_iterator","itertools.zip_longest","itertools.pairwise"].contains ty=false)
  (W:∀A:Around,A.handled=none->Walks P w A it [it] [it] z.cps.size (SignAt z) (λi h=>h.IsStrIter it ty z t i))
  (self:∀(A:Around)(i:Nat)(s:Shared)(Q:Value->Shared->Prop)(E:Value->Shared->Prop),s.heap.IsStrIter it ty z t i->Q (.ref it) s->wpAny (model P w) A (pyIter (.ref it)) Q E s) :
  Turn P w K tg (Yv z) [it] it (λi h=>h.IsStrIter it ty z t i) where
 mem:=by simp
 obj:=λi h st b a=>by
  have e:b=it:=by simpa using a
  subst e;obtain⟨o,e,c,d⟩:=st;exact⟨o,e,λv z=>by rw[d]at z;cases z⟩
 keep:=λi h h' st k=>let ⟨o,e,r⟩:=st;⟨o,k it (by simp) o e,r⟩
 item:=by
  intro X l hw m j i Zy s Z H E I f st g;subst l hw m;obtain⟨f0,x,C,q,p,n⟩:=f it (by simp);refine(W X.A (I.ok.hd j)).item i s _ _ g st λv h' tk⟨c,u,Tx,B⟩AF kp=>?_;subst B;have D:Inv X Zy Z H { s with heap:=h',toks:=tk }:=I.turned (t':=tk) (λb o a e=>kp b o (by simpa using a) e) f0 x q p n
  obtain⟨o,e,cl,d⟩:=id AF;exact⟨_,rfl,TF (s:={ s with heap:=h',toks:=tk }) e cl d hn ⟨.str ⟨#[c]⟩,H,D,⟨u,rfl⟩,⟨rfl,c,Tx,rfl⟩,AF,λb a=>(f b a).1⟩⟩
 done:=by
  intro X l hw m j i Zy s Z H E I f st g;subst l hw m;obtain⟨f0,x,C,q,p,n⟩:=f it (by simp);have y:i=z.cps.size:=g;subst y;exact(W X.A (I.ok.hd j)).done s _ _ st λh' tk kp=>⟨rfl,I.turned (t':=tk) (λb o a e=>kp b o (by simpa using a) e) f0 x q p n⟩
 self:=self
def iU(tl:TE):TI:=λZ H R=>tl Z H λx H1=>∃z,x=.str z/\R (Yv z) H1
theorem BP(h:H p=none)(o:HO):AB H (upd H p o):=λb u q=>by rw[AY (DH q h)];exact q
theorem AB.sqT{K:ZIV}(e:AB H H')(h:AS K H a xs):AS K H' a xs:=by
 rcases h with(h|⟨o,h⟩)|h
 .exact .inl (.inl (e _ _ h))
 .exact .inl (.inr ⟨o,e _ _ h⟩)
 .exact .inr h
theorem AB.sq{K:ZIV}(e:AB H H')(h:Es K tp H a xs):Es K tp H' a xs:=by
 cases tp
 .exact AB.seq e h
 .exact AB.sqT e h
theorem mm{Q:VK}(xs:List V)(f:V->Bool)(g:V->V)(BD:H1 acc=none)(z:xs.length<=sizeLine)
  (k:∀i H,AB H1 H->i<xs.length->J.go i H) (BM:∀H,AB H1 H->J.stop xs.length H) (p:∀i H x H',J.HA i H x H'->H'=H/\xs[i]?=some x)
  (r:∀(i:Nat)(x:V)(H':Hp)(Q':Bool->Hp->Prop),xs[i]?=some x->AB H1 H'->(∀EU,AB H' EU->Q' (f x) EU)->tt (C0 js Z++[some x]) H' Q')
  (s:∀(i:Nat)(x:V)(H':Hp)(Q':VK),xs[i]?=some x->f x=true->AB H1 H'->(∀EU,AB H' EU->Q' (g x) EU)->te (C0 js Z++[some x]) H' Q')
  (hd:∀H',AB H1 H'->H' acc=some (.lst ((xs.filter f).map g))->Q (.ref acc) H'):Lk J js tt te Z H1 acc Q:=by
 refine⟨λi m H=>m=xs.length - i/\i<=xs.length/\AB H1 H/\H acc=some (.lst (((xs.take i).filter f).map g)),⟨xs.length,by simp,Cn _,BP BD _,AW⟩,?_⟩;rintro i m H2⟨rfl,hi,a,j⟩
 by_cases h:i<xs.length
 .refine .inr ⟨k i H2 a h,λx H3 y=>?_⟩;obtain⟨e,hx⟩:=p i H2 x H3 y;subst e;have w:(xs.take (i+1))=xs.take i++[x]:=by
   have u:xs[i]=x:=by
    rw[BG h]at hx;exact Bo hx
   rw[Ui h,u]
  have n:List.filter f (xs.take (i+1))=(xs.take i).filter f++(if f x=true then[x]else[]):=by
   rw[w,br];congr 1
   by_cases c:f x=true <;> simp[c]
  refine r i x _ _ hx a λH4 s4=>?_
  by_cases c:f x=true
  .rw[rG c];refine s i x H4 _ hx c (a.trans s4) λH5 l=>?_;have d:(((xs.take i).filter f).map g).length<sizeLine:=by
    rw[AL];have:=OH f (xs.take i);rw[DO]at this;omega
   refine⟨_,l _ _ (s4 _ _ j),d,xs.length - (i+1),by omega,rfl,h,λb o q=>?_,?_⟩
   .have t:b≠acc:=by rintro rfl;rw[BD]at q;cases q
    rw[AY t];exact l _ _ (s4 _ _ (a b o q))
   .rw[AW,n,rG c,E4];rfl
  .have v:f x=false:=by simpa using c
   rw[v];rw[qP (by decide)];refine⟨xs.length - (i+1),by omega,rfl,h,a.trans s4,?_⟩;rw[n,qP c,G0];exact s4 _ _ j
 .have e:i=xs.length:=by omega
  subst e;refine .inl ⟨BM H2 a,hd H2 a ?_⟩;rw[MY]at j;exact j
theorem MD{K:ZIV}{Q:VK}(f:V->Bool)(g:V->V)(b:Es K tp H1 a xs)(BD:H1 acc=none)(c:xs.length<=sizeLine)
  (d:∀(i:Nat)(x:V)(H':Hp)(Q':Bool->Hp->Prop),xs[i]?=some x->AB H1 H'->(∀EU,AB H' EU->Q' (f x) EU)->tt (C0 js Z++[some x]) H' Q')
  (e:∀(i:Nat)(x:V)(H':Hp)(Q':VK),xs[i]?=some x->f x=true->AB H1 H'->(∀EU,AB H' EU->Q' (g x) EU)->te (C0 js Z++[some x]) H' Q')
  (hd:∀H',AB H1 H'->H' acc=some (.lst ((xs.filter f).map g))->Q (.ref acc) H'):Lk (P8 K tp a xs) js tt te Z H1 acc Q:=
 mm xs f g BD c (λi H s hi=>⟨s.sq b,hi⟩) (λH s=>⟨s.sq b,Az _⟩) (λi H x H' y=>y) d e hd
noncomputable def HL(z:Str):List V:=z.cps.toList.map λc=>.str ⟨#[c]⟩
theorem Zj(z:Str):(HL z).length=z.cps.size:=by unfold HL;simp
theorem jF{Q:VK}(f:V->Bool)(g:V->V)(BD:H1 acc=none)(a:z.cps.size<=sizeLine)
  (b:∀(i:Nat)(x:V)(H':Hp)(Q':Bool->Hp->Prop),(HL z)[i]?=some x->AB H1 H'->(∀EU,AB H' EU->Q' (f x) EU)->tt (C0 js Z++[some x]) H' Q')
  (d:∀(i:Nat)(x:V)(H':Hp)(Q':VK),(HL z)[i]?=some x->f x=true->AB H1 H'->(∀EU,AB H' EU->Q' (g x) EU)->te (C0 js Z++[some x]) H' Q')
  (hd:∀H',AB H1 H'->H' acc=some (.lst (((HL z).filter f).map g))->Q (.ref acc) H'):Lk (Yv z) js tt te Z H1 acc Q:=by
 refine mm (HL z) f g BD (by rw[Zj];exact a) (λi H s hi=>?_) (λH s=>?_) (λi H x H' y=>?_) b d hd
 .rw[Zj]at hi;exact hi
 .show(HL z).length=z.cps.size;exact Zj z
 .obtain⟨e,c,h,hx⟩:=y;refine⟨e,?_⟩;subst hx;unfold HL;rw[Bc,UX,h];rfl
def Gs(xs ys:List V):Bool:=xs.length == ys.length && (List.range xs.length).all λj=>E6 (xs.getD j .A8) (ys.getD j .A8)
theorem Oe{x:V}(h:xs[j]?=some x):xs.getD j .A8=x:=by rw[OG,h];rfl
theorem cv{x:V}(h:xs.all Ec=true)(e:xs[j]?=some x):Ec x=true:=List.all_eq_true.mp h x (EI e)
theorem Rx{Bx:List Value}(d:Vals xs A5)(c:Vals ys Bx)(k:xs.all Ec=true)(i:ys.all Ec=true):
  ∀j(h1:j<A5.toArray.size)(h2:j<Bx.toArray.size),SeqAt.EqAt A s A5.toArray[j] Bx.toArray[j] (E6 (xs.getD j .A8) (ys.getD j .A8)):=λj h1 h2=>by
 have l1:=d.length;have l2:=c.length;have o:j<A5.length:=by simpa using h1
 have n:j<Bx.length:=by simpa using h2
 have b:xs[j]?=some (xs[j]'(by omega)):=BG _;have a:ys[j]?=some (ys[j]'(by omega)):=BG _;obtain⟨u,f,h⟩:=d.get b;obtain⟨v,e,g⟩:=c.get a;rw[BG o]at f;rw[BG n]at e;have m:A5[j]=u:=Bo f;have l:Bx[j]=v:=Bo e;rw[Oe b,Oe a];have q:=To (A:=A) (s:=s) h g (cv k b) (cv i a);rw[<- m,<- l]at q
 simpa using q
def Oz(K:ZIV)(neg:Bool):R2:=λx y H Q=>∃p q xs ys,x=.ref p/\y=.ref q/\((Ac K H p xs/\Ac K H q ys)∨(AS K H p xs/\AS K H q ys))/\xs.all Ec=true/\ys.all Ec=true/\
 Q (.bl (if neg then !Gs xs ys else Gs xs ys)) H
theorem Nv(h:xs.length≠ys.length):Gs xs ys=false:=by
 unfold Gs;have:(xs.length == ys.length)=false:=by simpa using h
 rw[this,Bool.false_and]
theorem O3(h:xs.length=ys.length):Gs xs ys=(List.range xs.length).all λj=>E6 (xs.getD j .A8) (ys.getD j .A8):=by
 unfold Gs;have:(xs.length == ys.length)=true:=by simpa using h
 rw[this,bg]
theorem R6(f:X.A.units<cLine):BX X (compareOp .Eq) (Oz X.K false):=by
 intro Zy s Z H x y v u Q I r o h;obtain⟨p,q,xs,ys,rfl,rfl,t,l,k,w⟩:=h;cases r;cases o;have b:Q (.bl (Gs xs ys)) H:=w;rcases t with⟨i,g⟩|⟨i,g⟩
 .obtain⟨A5,d,p1,n⟩:=I.list i;obtain⟨Bx,c,p2,m⟩:=I.list g;have l1:=d.length;have l2:=c.length
  by_cases a:xs.length=ys.length
  .refine SeqAt.eq_listAt (e:=λj=>E6 (xs.getD j .A8) (ys.getD j .A8)) p1.isList p2.isList (by simp;omega) f (Rx d c l k) ⟨.bl _,H,I,rfl,?_⟩;rw[O3 a]at b;simp only[C9,<- l1];exact b
  .rw[Nv a]at b;exact SeqAt.eq_list_lengthsAt p1.isList p2.isList (by simp;omega) f ⟨.bl false,H,I,rfl,b⟩
 .obtain⟨A5,d,p1,n⟩:=I.tuple i;obtain⟨Bx,c,p2,m⟩:=I.tuple g;have l1:=d.length;have l2:=c.length;refine SeqAt.eq_tupleAt (e:=λj=>E6 (xs.getD j .A8) (ys.getD j .A8)) p1 p2 f (Rx d c l k) ⟨.bl _,H,I,rfl,?_⟩;simp only[C9,<- l1,<- l2]
  by_cases a:xs.length=ys.length
  .rw[O3 a]at b;have:(xs.length == ys.length)=true:=by simpa using a
   rw[this,nW,<- a,cC];exact b
  .rw[Nv a]at b;have:(xs.length == ys.length)=false:=by simpa using a
   rw[this,UY];exact b
theorem Qn(f:X.A.units<cLine):BX X (compareOp .NotEq) (Oz X.K true):=by
 intro Zy s Z H x y v u Q I r o h;obtain⟨p,q,xs,ys,rfl,rfl,t,l,k,w⟩:=h;cases r;cases o;have b:Q (.bl (!Gs xs ys)) H:=w;rcases t with⟨i,g⟩|⟨i,g⟩
 .obtain⟨A5,d,p1,n⟩:=I.list i;obtain⟨Bx,c,p2,m⟩:=I.list g;have l1:=d.length;have l2:=c.length
  by_cases a:xs.length=ys.length
  .refine SeqAt.RcNeAt.lists (e:=λj=>E6 (xs.getD j .A8) (ys.getD j .A8)) p1.isList p2.isList (by simp;omega) f (Rx d c l k) _ _ _ _ ⟨.bl _,H,I,rfl,?_⟩;rw[O3 a]at b;simp only[C9,<- l1];exact b
  .rw[Nv a]at b;exact SeqAt.RcNeAt.lists_lengths p1.isList p2.isList (by simp;omega) f _ _ _ _ ⟨.bl true,H,I,rfl,b⟩
 .obtain⟨A5,d,p1,n⟩:=I.tuple i;obtain⟨Bx,c,p2,m⟩:=I.tuple g;have l1:=d.length;have l2:=c.length;refine SeqAt.RcNeAt.tuples (e:=λj=>E6 (xs.getD j .A8) (ys.getD j .A8)) p1 p2 f (Rx d c l k) _ _ _ _ ⟨.bl _,H,I,rfl,?_⟩;simp only[C9,<- l1,<- l2]
  by_cases a:xs.length=ys.length
  .rw[O3 a]at b;have:(xs.length == ys.length)=true:=by simpa using a
   rw[this,nW,<- a,cC];exact b
  .rw[Nv a]at b;have:(xs.length == ys.length)=false:=by simpa using a
   rw[this,UY];exact b
theorem sH:DW X (.builtin "isinstance") (λxs H Q=>∃x n t b,xs=[x,.ty n]/\FR X.K H x t/\PySem.W.kitOne X.K t (.type n)=some b/\Q (.bl b) H):=by
 intro Zy s Z H xs us Q I r h;obtain⟨x,n,t,b,rfl,ty,e,q⟩:=h;obtain⟨u,c,rfl,a,rt⟩:=vals2 r;cases rt;exact ZAT I a ty e λtk=>⟨.bl b,H,I.tok tk,rfl,q⟩
theorem yo{bs:List Bool}(r:Vals (bs.map V.bl) A5)(e:A5[i]?=some v):v=.bool (bs.getD i false):=by
 have c:=r.length;rw[AL]at c;have hi:i<A5.length:=(List.getElem?_eq_some_iff.mp e).1;have d:(bs.map V.bl)[i]?=some (.bl (bs[i]'(by omega))):=by rw[Bc,BG (by omega)];rfl
 obtain⟨u,a,b⟩:=r.get d;rw[e]at a;cases a;cases b;rw[OG,BG (by omega)];rfl
theorem range_all(bs:List Bool):(List.range bs.length).all (λi=>bs.getD i false)=bs.all id:=by
 rw[OD,L6,L6];constructor
 .intro h x hx;obtain⟨i,hi,rfl⟩:=List.mem_iff_getElem.mp hx;have:=h i (List.mem_range.mpr hi);rw[OG,BG hi]at this;exact this
 .intro h i hi;rw[OG,BG (List.mem_range.mp hi)];exact h _ (MX _)
theorem i3(j:X.calm=true):DW X (.builtin "all") (λxs H Q=>∃(p:Addr)(bs:List Bool),xs=[.ref p]/\Ac X.K H p (bs.map V.bl)/\Q (.bl (bs.all id)) H):=by
 intro Zy s Z H xs us Q I r h;obtain⟨p,bs,rfl,g,q⟩:=h;obtain⟨u,rfl,d⟩:=vals1 r;cases d;obtain⟨A5,a,pl,m⟩:=I.list g;have c:=a.length;rw[AL]at c;refine call_all_walk (wpAny_pyIter_list pl.isList ?_);obtain⟨o,n,ho,_⟩:=id pl;have l:p≠s.heap.objs.size:=Bn (BA ho);refine⟨s.heap.objs.size,_,_,_,_,_,λi=>bs.getD i false,rfl,Walks.list (by rw[Around.in1_handled];exact I.ok.hd j) _ p l A5.toArray,⟨⟨_,CI _ rfl,rfl,rfl⟩,pl.isList.push _⟩,λi v s' Q' E' f Du=>?_,λh' tk kp=>?_⟩
 .have k:v=.bool (bs.getD i false):=yo a (by simpa using f)
  rw[k];exact uD Du
 .refine⟨.bl _,H,I.kept (t':=tk) λb ob e=>kp b ob (by simpa using Bn (BA e)) (Bb _ e),rfl,?_⟩
  rw[C9,<- c,range_all];exact q
def eZ:V->List V->Hp->VK->Prop:=λx vs H Q=>∃(l:Addr)(xs:List V)(j:Int)(y:V),x=.ref l/\vs=[.int j,y]/\H l=some (.lst xs)/\0<=j/\j<=xs.length/\xs.length<sizeLine/\Q .A8 (upd H l (.lst (xs.take j.toNat++y::xs.drop j.toNat)))
theorem xR:lg X "list.insert" eZ:=by
 intro Zy s Z H x vs v us Q I g i h;obtain⟨l,xs,j,y,rfl,rfl,c,u,p,B,q⟩:=h;cases g;obtain⟨A,b,rfl,k,f⟩:=i.two;obtain⟨t,rfl⟩:=k;obtain⟨z,A5,n,r,o,e⟩:=I.Sk c;have h2:j<2 ^ 63:=by
  have C:(xs.length:Int)<=(sizeLine:Int):=Int.ofNat_le.mpr z;have D:((sizeLine:Nat):Int)<2 ^ 63:=by exact_mod_cast K6
  omega
 have a:(!Builtin.List.listFitsIndex j)=true->False:=by
  have h1:Builtin.List.listFitsIndex j=true:=by
   unfold Builtin.List.listFitsIndex;rw[Dl];exact⟨oW (by omega),oW h2⟩
  rw[h1];exact λh=>nomatch h
 have d:A5.toArray.size<=sizeLine:=Bg (Uj (List.size_toArray.trans o.symm)) z;refine call_meets ZHa ⟨_,e,rfl⟩ PySem.F.entry_list_insert (PySem.F.args_list_insert_3 _ _ _) (PySem.AutoSeq1.list_insert_list_int_val_1 l A5.toArray n j t b a d) ⟨e,?_⟩;refine⟨.A8,_,I.gY (its':=A5.take j.toNat++b::A5.drop j.toNat) c e ?_ ((r.take _).append (.cons f (r.drop _))) ?_,rfl,q⟩
 .have w:¬ (j<0):=by omega
  have m:min j.toNat A5.toArray.size=j.toNat:=by simp;omega
  simp only[w,ZAQ,m];apply Array.toList_inj.mp;simp;exact OJ (by simp)
 .rw[CK,Ca,DO,Ge];omega
def ZFo:V->Option Int->Option Int->Hp->VK->Prop:=λx lo hi H Q=>∃z,x=.str z/\z.length<=sizeLine/\Q (.str (Txt.slice z lo hi)) H
theorem part_of{o:Option Int}(p:IsPart v o):∃l:Option (Int×Tok),v=partValue l/\l.map (·.1)=o:=by
 cases p with
 |none=>exact⟨none,rfl,rfl⟩
 |int i t=>exact⟨some (i,t),rfl,rfl⟩
theorem dr:Lh X ZFo:=by
 intro Zy s Z H x v vl vu lo hi sl Q I a e pl b h;obtain⟨z,rfl,c,q⟩:=h;obtain⟨t,rfl⟩:=a;obtain⟨l,rfl,f⟩:=part_of pl;obtain⟨u,rfl,d⟩:=part_of b;subst f;subst d;refine⟨"str", _,F.slot_str_getitem.lookup,typeIs_str _ _ _,wpAny_getItem_str_slice (l:=l) (u:=u) (st:=none) e rfl (post_val_or_str ⟨Bg (Txt.slice_le z _ _) c,λt' k=>?_⟩)⟩;exact⟨.str _,H,I.tok k,⟨t',rfl⟩,q⟩
end L2
set_option exponentiation.threshold 5000
namespace L2
variable{f p:Addr}{H:Hp}
def AI(P:Program)(w:World)(K:ZIV)(mg:ZIX)(ZB:Heap)(x:Str)(k:Nat)(ps:List Str)(sp:Sp):Prop:=
 ∃f fd,Cc P w K mg ZB El k f fd ps sp/\Binds K fd ps []/\PySem.W.keepIn K (.ref f)=true/\mg x=some (.ref f)
section
variable{P:Program}{w:World}{K:ZIV}{mg:ZIX}{ZB:Heap}{x qual:Str}{k:Nat}{ps:List Str}{sp:Sp}{st:Stmt}{fd:FuncData}
theorem AI.mk(F:AG K x qual st f fd)(b:Binds K fd ps [])(m:mg x=some (.ref f))(h:Cc P w K mg ZB El k f fd ps sp):AI P w K mg ZB x k ps sp:=⟨f,fd,h,b,F.kp,m⟩
variable{X:Cx}{j:Nat}{p pos:Pos}{e:Expr}{es:List Expr}{t:TA}
def XX(K:ZIV):List V->Hp->VK->Prop:=λxs H Q=>∃(p:Addr)(ys:List V),xs=[.ref p]/\(Ac K H p ys∨AS K H p ys)/\Q (.int ys.length) H
theorem Bs:DW X (.builtin "len") (XX X.K):=RF
def fg(K:ZIV):List V->Hp->VK->Prop:=λxs H Q=>∃(x:V)(n:String)(t:Value)(b:Bool),xs=[x,.ty n]/\FR K H x t/\PySem.W.kitOne K t (.type n)=some b/\Q (.bl b) H
theorem m7:DW X (.builtin "isinstance") (fg X.K):=sH
theorem iB:Mt X "list.append" Yo:=k8
theorem q8:Mt X "list.insert" eZ:=xR
def vt(i j:Int):Prop:=i.natAbs<2 ^ 1000/\j.natAbs<2 ^ 1000
theorem iz{n:Nat}(h:n<2 ^ 1000):n.log2<1000:=by
 rcases Nat.eq_zero_or_pos n with e|e
 .subst e;exact(show(0:Nat).log2<1000 by decide)
 .exact(oE (OL e)).mpr h
theorem bits_le{i:Int}(h:i.natAbs<2 ^ 1000):Builtin.Int.intBits i<=2 ^ 20:=by
 unfold Builtin.Int.intBits;split
 .exact Cn _
 .have:=iz h;have e:(2:Nat) ^ 20=1048576:=by decide
  omega
theorem LV:BX X (binaryOp .Mult) (rI vt λi j=>.int (i * j)):=SX λ_ _ _ _ _ _ _ a q=>mul_int q (.of_bits (bits_le a.1) (bits_le a.2))
theorem WD:BX X (binaryOp .FloorDiv) (rI (λ_ j=>0<j/\j.natAbs<2 ^ 1000) λi j=>.int (i / j)):=SX λi j _ _ _ _ _ a q=>by
 have h1:(0:Int)<j:=a.1;have h2:=iz a.2;exact floordiv_int (by omega) (by rw[Int.fdiv_eq_ediv_of_nonneg i (by omega)];exact q) (.inl (PyProof.noPylong_of_log2 (by omega)))
theorem ZFm{body rest:List Stmt}{t u:TS}(e:body=st::rest)(h:PS X st t)(h2:DR X rest u):DR X body (LZ t u):=by rw[e];exact GD h h2
def Vj(t:TS):TS:=λD Z H=>∃J:St->Hp->Prop,t { D with nx:=J } Z H/\∀ σ' H',J σ' H'->D.nx σ' H'
end
def HJ(p:Addr)(H H':Hp):Prop:=∀b o,b≠p->H b=some o->H' b=some o
theorem HJ.trans{H1 H2:Hp}(a:HJ p H H1)(b:HJ p H1 H2):HJ p H H2:=λc o d e=>b c o d (a c o d e)
theorem HJ.of{H':Hp}(a:AB H H'):HJ p H H':=λc o _ e=>a c o e
theorem HJ.upd{o:HO}:HJ p H (upd H p o):=λc u a e=>by rw[AY a];exact e
end L2
set_option maxHeartbeats 8000000
namespace L2
variable{ss:List Str}
noncomputable def ZA3(P:Program)(w:World)(a:Addr)(f:Str->Bool)(n:Nat):HO:=.ext λh=>h.SetOf (strKind P w) a f n
section
variable{X:Cx}
theorem jr{A5:List Value}(r:Vals (ss.map V.str) A5){i:Nat}{v:Value}(e:A5[i]?=some v):∃(h:i<ss.length)(t:Tok),v=.str ss[i] t:=by
 have d:=r.length;rw[AL]at d;have hi:i<A5.length:=(List.getElem?_eq_some_iff.mp e).1;have b:i<ss.length:=by omega
 have f:(ss.map V.str)[i]?=some (.str ss[i]):=by rw[Bc,BG b];rfl
 obtain⟨u,a,c⟩:=r.get f;rw[e]at a;cases a;obtain⟨t,q⟩:=c;exact⟨b,t,q⟩
end
end L2
set_option maxHeartbeats 4000000
namespace L2
variable{X:Cx}{a c e l o tg:Expr}{es ifs:List Expr}{body rest:List Stmt}{ta te tl to:TE}{t tb:TS}{tc tt:TT}{p pos pos' px:Pos}{name x y:Str}{FT op:CmpOp}{r:List V->Hp->VK->Prop}{i j n:Nat}{ps ss:List Str}{sp:Sp}{T:String}{wi:TI}{g:TG}{w:World}{I f:Addr}{E Q:Value->Shared->Prop}
structure QE (X:Cx) (e:Expr) (t:TE):Prop where h:PE X e t
structure QT (X:Cx) (e:Expr) (t:TT):Prop where h:PT X e t
structure QW (X:Cx) (e:Expr) (t:TT):Prop where h:PW X e t
structure QA (X:Cx) (es:List Expr) (t:TA):Prop where h:PA X es t
structure QS (X:Cx) (st:Stmt) (t:TS):Prop where h:PS X st t
structure Fh (X:Cx) (st:List Stmt) (t:TS):Prop where h:DR X st t
structure QG (X:Cx) (tg:Expr) (t:TG):Prop where h:PG X tg t
structure Rr (X:Cx) (ts:List Expr) (t:Ic):Prop where h:PM X ts t
structure QI (X:Cx) (tg iter:Expr) (wi:TI):Prop where h:PI X tg iter wi
structure S7 (X:Cx) (ifs:List Expr) (t:TT):Prop where h:JH X ifs t
structure QO (X:Cx) (e:Option Expr) (t:TO):Prop where h:PO X e t
section
variable{b:Expr}{rest:List Expr}{tb tc:TE}{tA JL:TT}{t:TA}{p2 apos Bd:Pos}
theorem qv(i:Nat)(a:X.N[i]?=some x:=by rfl)(hv:SJ X.env.scope x:=by first|exact Or.inl rfl|exact Or.inr (Or.inl rfl)|exact Or.inr (Or.inr rfl))(hd:(x == ("__debug__":Str))=false:=by decide)
  (Ew:(x == ("__classdict__":Str))=false:=by decide):QE X (.Name x pos) (BS i):=⟨nJ a hv hd Ew⟩
theorem A4{i j pos}:QE X (.Constant (.int i) j pos) (tC (.int i)):=⟨λ_ _ _ H _ I h=>wpAny_Constant_int ⟨.int i,H,I.tok _,⟨_,rfl⟩,h⟩⟩
theorem DD{b j pos}:QE X (.Constant (.bool b) j pos) (tC (.bl b)):=⟨λ_ _ _ H _ I h=>Constant_bool ⟨.bl b,H,I,rfl,h⟩⟩
theorem M4{j pos}:QE X (.Constant .none j pos) (tC .A8):=⟨λ_ _ _ H _ I h=>Constant_none ⟨.A8,H,I,rfl,h⟩⟩
theorem AO{x j pos}:QE X (.Constant (.str x) j pos) (tC (.str x)):=⟨λ_ _ _ H _ I h=>Calls.Constant_str ⟨.str x,H,I.tok _,⟨_,rfl⟩,h⟩⟩
theorem Pp{v:V}{u:Value}(b:Gl X x)(a:X.mg x=some u)(r:RelV v u)(hd:(x == ("__debug__":Str))=false:=by decide):QE X (.Name x pos) (tC v):=⟨λ_ _ _ H _ I h=>JN I b a ⟨v,H,I,r,h⟩ hd⟩
theorem eL(T:String)(a:X.mg x=none)(b:Gl X x:=by rfl)(hv:bootBuiltins x=some (.type T):=by decide +kernel)(hn:x ≠"__name__" := by decide)(hd:(x == ("__debug__":Str))=false:=by decide):
  QE X (.Name x pos) (tC (.ty T)):=⟨vL b a hv rfl hn hd⟩
theorem Au{op:Operator}{r:R2}(ho:BX X (binaryOp op) r)(d:QE X a ta)(c:QE X b tb):QE X (.BinOp a op b pos) (C5 r ta tb):=⟨by
 have d:=d.h;have c:=c.h;intro Zy s Z H Q I h;exact wpAny_BinOp (Y2 d c I h λv u s2 x y H2 I2 f e q=>ho Zy s2 Z H2 x y v u Q I2 f e q)⟩
theorem Vl{op:UnaryOp}{r:V->Hp->VK->Prop}(ho:UR X (unaryOp op) r)(b:QE X a ta):QE X (.UnaryOp op a pos) (OP r ta):=⟨by
 have b:=b.h;intro Zy s Z H Q I h;exact UnaryOp_ (AQ (b Zy s Z H _ I h) λv s1 AH=>by obtain⟨x,H1,I1,c,d⟩:=AH;exact ho Zy s1 Z H1 x v Q I1 c d)⟩
theorem om{r:R2}(ho:BX X (compareOp op) r)(d:QE X a ta)(c:QE X b tb)(g:behindInMarks op b=false):QE X (.Compare a [op] [b] pos) (C5 r ta tb):=⟨by
 have d:=d.h;have c:=c.h;intro Zy s Z H Q I h;exact wpAny_Compare1 (Y2 d c I h λv u s2 x y H2 I2 f e q=>ho Zy s2 Z H2 x y v u Q I2 f e q) g⟩
theorem wa{r:R2}(ho:BX X (compareOp op) r)(e:QE X a ta)(d:QE X b tb)(c:behindInMarks op b=false):QT X (.Compare a [op] [b] pos) (Mn (C5 r ta tb)):=⟨ZBQ ho e.h d.h c⟩
theorem Mq{r l:R2}(ho:BX X (compareOp op) r)(ED:BX X (compareOp FT) l)(i:QE X a ta)(g:QE X b tb)(f:QE X c tc)
  (D:lastMarks [op,FT] [b,c]=false:=by with_unfolding_all rfl):QE X (.Compare a [op,FT] [b,c] pos) (OS r l ta tb tc):=⟨by
 have i:=i.h;have g:=g.h;have f:=f.h;intro Zy s Z H Q I h;refine Compare_chain (AQ (i Zy s Z H _ I h) λv s1⟨x,H1,I1,w,C⟩=>chain_link (AQ (g Zy s1 Z H1 _ I1 C) λu s2⟨y,H2,I2,j,B⟩=>
  AQ (ho Zy s2 Z H2 x y v u _ I2 w j B) λd p⟨z,H3,I3,t,k,e,m⟩=>?_)) D
 subst e;cases t;refine uD ?_;cases k with
 |false=>exact ite_ff ⟨.bl false,H3,I3,rfl,m⟩
 |true=>exact ite_tt (chain_last (AQ (f Zy p Z H3 _ I3 m) λo s4⟨n,H4,I4,q,A⟩=>ED Zy s4 Z H4 y n u o Q I4 j q A))⟩
theorem R4{r l:R2}(ho:BX X (compareOp op) r)(ED:BX X (compareOp FT) l)(i:QE X a ta)(g:QE X b tb)(f:QE X c tc)
  (J:lastMarks [op,FT] [b,c]=false:=by with_unfolding_all rfl):QT X (.Compare a [op,FT] [b,c] pos) (Mn (OS r l ta tb tc)):=⟨by
 have i:=i.h;have g:=g.h;have f:=f.h;intro Zy s Z H Q I h;refine isTrue_chain (AQ (i Zy s Z H _ I h) λv s1⟨x,H1,I1,B,F⟩=>test_link (AQ (g Zy s1 Z H1 _ I1 F) λu s2⟨y,H2,I2,j,E⟩=>
  AQ (ho Zy s2 Z H2 x y v u _ I2 B j E) λd q⟨z,H3,I3,A,k,e,m⟩=>?_)) J
 subst e;cases A;refine uD ?_;cases k with
 |false=>
  obtain⟨k',L,G⟩:=m;cases L;exact ite_ff ⟨H3,I3,G⟩
 |true=>
  refine ite_tt (test_last (AQ (f Zy q Z H3 _ I3 m) λp s4⟨n,H4,I4,w,D⟩=>AQ (ED Zy s4 Z H4 y n u p _ I4 j w D) λd' N o=>?_));obtain⟨M,H5,I5,t,k2,K,C⟩:=o;subst K;cases t;exact uD ⟨H5,I5,C⟩⟩
theorem Kw{op}(h:QE X a ta):QE X (.BoolOp op [a] pos) ta:=⟨by have h:=h.h;exact λZy s Z H Q I hw=>BoolOp_one (h Zy s Z H Q I hw)⟩
theorem NJ(f:QE X a ta)(e:QE X (.BoolOp .And (b::rest) pos) tb):QE X (.BoolOp .And (a::b::rest) pos) (Uo ta tb):=⟨by
 have f:=f.h;have e:=e.h;intro Zy s Z H Q I h;refine BoolOp_and (AQ (f Zy s Z H _ I h) λv s1 EN=>?_);obtain⟨x,H1,I1,g,d⟩:=EN;obtain⟨c,rfl,d⟩:=d;cases g;refine uD ?_;cases c with
 |true=>exact e Zy s1 Z H1 Q I1 d
 |false=>exact⟨.bl false,H1,I1,rfl,d⟩⟩
theorem nL(f:QE X a ta)(e:QE X (.BoolOp .Or (b::rest) pos) tb):QE X (.BoolOp .Or (a::b::rest) pos) (VN ta tb):=⟨by
 have f:=f.h;have e:=e.h;intro Zy s Z H Q I h;refine BoolOp_or (AQ (f Zy s Z H _ I h) λv s1 EN=>?_);obtain⟨x,H1,I1,g,d⟩:=EN;obtain⟨c,rfl,d⟩:=d;cases g;refine uD ?_;cases c with
 |false=>exact e Zy s1 Z H1 Q I1 d
 |true=>exact⟨.bl true,H1,I1,rfl,d⟩⟩
theorem qm(d:QE X a ta):QE X (.UnaryOp .Not a pos) (YN ta):=⟨by
 have d:=d.h;intro Zy s Z H Q I h;refine UnaryOp_ (AQ (d Zy s Z H _ I h) λv s1 EN=>?_);obtain⟨x,H1,I1,e,b⟩:=EN;obtain⟨c,rfl,b⟩:=b;cases e;exact not_of (uD ⟨.bl (!c),H1,I1,rfl,b⟩)⟩
theorem Gg(b:QT X a tA):QW X (.BoolOp .And [a] pos) tA:=⟨by
 have b:=b.h;intro d Zy s Z H Q I h;refine isTrue_and (AQ (b Zy s Z H Q I h) λc s1 e=>?_);cases c with
 |true=>exact isTrue_and_nil e
 |false=>exact e⟩
theorem HI(b:QT X a tA):QW X (.BoolOp .Or [a] pos) tA:=⟨by
 have b:=b.h;intro d Zy s Z H Q I h;refine isTrue_or (AQ (b Zy s Z H Q I h) λc s1 e=>?_);cases c with
 |false=>exact isTrue_or_nil e
 |true=>exact e⟩
theorem HS(e:QT X a tA)(d:QW X (.BoolOp .And (b::rest) pos) JL):QW X (.BoolOp .And (a::b::rest) pos) (Tj tA JL):=⟨by
 have e:=e.h;have d:=d.h;intro g Zy s Z H Q I h;refine isTrue_and (AQ (e Zy s Z H _ I h) λc s1 EN=>?_);obtain⟨H1,I1,f⟩:=EN;cases c with
 |true=>exact d g Zy s1 Z H1 Q I1 f
 |false=>exact⟨H1,I1,f⟩⟩
theorem Eg(e:QT X a tA)(d:QW X (.BoolOp .Or (b::rest) pos) JL):QW X (.BoolOp .Or (a::b::rest) pos) (ZO tA JL):=⟨by
 have e:=e.h;have d:=d.h;intro g Zy s Z H Q I h;refine isTrue_or (AQ (e Zy s Z H _ I h) λc s1 EN=>?_);obtain⟨H1,I1,f⟩:=EN;cases c with
 |true=>exact⟨H1,I1,f⟩
 |false=>exact d g Zy s1 Z H1 Q I1 f⟩
theorem QW.pt{t:TT}(h:QW X e t):QT X e t:=⟨h.h.pt⟩
theorem G6(b:QT X a tA):QT X (.UnaryOp .Not a pos) (TY tA):=⟨by
 have b:=b.h;intro Zy s Z H Q I h;exact isTrue_not (b Zy s Z H (λc H1=>Q (!c) H1) I h)⟩
theorem J0(h:QE X e te)(f:∀a,isTrue e X.env a=(do let v <- a;standAt e.pos;holding [v] (truthy v)):=by intro _;rfl):QT X e (tB te):=⟨by
 have h:=h.h;intro Zy s Z H Q I hw;refine isTrue_plain (AQ (h Zy s Z H _ I hw) λv s1⟨x,H1,I1,b,c⟩=>?_) (f _);obtain⟨d,rfl,q⟩:=c;cases b;exact uD ⟨H1,I1,q⟩⟩
theorem A3:QA X [] BR:=⟨LN⟩
theorem A0(c:QE X e te)(b:QA X es t)(a:starEach (e::es) X.env=(false,eval e X.env)::starEach es X.env:=by rfl):QA X (e::es) (Al te t):=⟨GF c.h b.h a⟩
theorem BF{x1}(h:QA X es t):QE X (.Tuple es x1 pos) (Rh t):=⟨ZBB h.h⟩
theorem Fg(h:QA X es t):QE X (.List es pos) (RK t):=⟨yj h.h⟩
theorem IA:QO X none WM:=⟨by
 intro Zy s Z H Q I h;rw[evalPart_none];exact qh ⟨none,H,I,.none,h⟩⟩
theorem Em(h:QE X e te):QO X (some e) (PF te):=⟨by
 have h:=h.h;intro Zy s Z H Q I hw;rw[evalPart_some];refine AQ (h Zy s Z H _ I hw) λu s1 a=>?_;obtain⟨x,H1,I1,b,c⟩:=a;obtain⟨i,rfl,q⟩:=c;obtain⟨t,rfl⟩:=b;exact⟨some i,H1,I1,.int i t,q⟩⟩
theorem GY{r:V->Option Int->Option Int->Hp->VK->Prop}{lo hi:Option Expr}{tl th:TO}(o:Lh X r)(f:QE X e te)(d:QO X lo tl)(c:QO X hi th):QE X (.Subscript e (.Slice lo hi none p2) pos) (Qh r te tl th):=⟨by
 have f:=f.h;have d:=d.h;have c:=c.h;intro Zy s Z H Q I h;refine Subscript_ (AQ (f Zy s Z H _ I h) λv s1 EN=>?_);obtain⟨x,H1,I1,g,k⟩:=EN;refine wpAny_Slice (AQ (d Zy s1 Z H1 _ I1 k) λvl s2⟨l,H2,I2,pl,j⟩=>AQ (c Zy s2 Z H2 _ I2 j) λvu a Oy=>?_);obtain⟨u,H3,I3,m,i⟩:=Oy;rw[evalPart_none];refine qh ?_;have y:Inv X Zy Z H3 { a with heap:=a.heap.push { cls:=.type "slice", data:=.fields #[vl,vu,.none] } }:=I3.kept (t':=a.toks) λb ob q=>Bb _ q
 obtain⟨T,id,t,n,p⟩:=o Zy { a with heap:=a.heap.push { cls:=.type "slice", data:=.fields #[vl,vu,.none] } } Z H3 x v vl vu l u a.heap.objs.size Q y g (Heap.IsSliceOf.new ..) pl m i
 show wpAny (model X.prog X.w) X.A (subscriptTail e (.Slice lo hi none p2) v (.ref a.heap.objs.size)) (EP X Zy Z Q) X.xe { a with heap:=a.heap.push { cls:=.type "slice", data:=.fields #[vl,vu,.none] } }
 exact tail_any (ops:=[.ref a.heap.objs.size,v]) n t p (by with_unfolding_all rfl)⟩
theorem ZBF{r:R2}(i:Ib X r)(d:QE X a ta)(c:QE X b tb)(g:XQ b):QE X (.Subscript a b pos) (C5 r ta tb):=⟨by
 have d:=d.h;have c:=c.h;intro Zy s Z H Q I h;exact Subscript_ (Y2 d c I h λv u s2 x y H2 I2 f e q=>i a b Zy s2 Z H2 x y v u Q I2 f e q (g _ _))⟩
theorem ZCU{k:Nat}(h:AI X.prog X.w X.K X.mg X.base x k ps sp)(c:Bi j X.A)(d:k<=j)(a:QA X (e::es) t)(g:Gl X x:=by rfl)(BL:(x == ("__debug__":Str))=false:=by decide)
  (he:starEach (e::es) X.env=(false,eval e X.env)::starEach es X.env:=by rfl) (BW:(backTo pos (starEach es X.env)).any (·.1)=false:=by rfl):QE X (.Call (.Name x p) (e::es) [] pos) (Dg sp [] E0 t):=⟨by
 have a:=a.h;obtain⟨f,fd,F,b,kp,m⟩:=h;exact tY (F.mono d) c g m kp b .nil VR a BL he BW⟩
theorem uG{id:String}(i:DW X (.builtin id) r)(g:Gl X x)(f:X.mg x=none)(d:bootBuiltins x=some (.builtin id))(a:QA X (e::es) t)(hn:x ≠"__name__" := by decide)(BL:(x == ("__debug__":Str))=false:=by decide)
  (he:starEach (e::es) X.env=(false,eval e X.env)::starEach es X.env:=by rfl) (BW:(backTo pos (starEach es X.env)).any (·.1)=false:=by rfl):QE X (.Call (.Name x p) (e::es) [] pos) (Dk r t):=⟨by
 have a:=a.h;intro Zy s Z H Q I h;refine uc (KG I g f d ?_ hn BL);exact PyProof.Rows.callWith_builtin1 (AQ (a pos Zy s Z H _ I h) λus s1 AH=>by obtain⟨vs,H1,I1,b,c⟩:=AH;exact i Zy s1 Z H1 vs us Q I1 b c) he BW⟩
theorem pk(i:DW X (.type T) r)(g:Gl X x)(f:X.mg x=none)(d:bootBuiltins x=some (.type T))(a:QA X (e::es) t)(hn:x ≠"__name__" := by decide)(BL:(x == ("__debug__":Str))=false:=by decide)
  (he:starEach (e::es) X.env=(false,eval e X.env)::starEach es X.env:=by rfl) (BW:(backTo pos (starEach es X.env)).any (·.1)=false:=by rfl):QE X (.Call (.Name x p) (e::es) [] pos) (Dk r t):=⟨by
 have a:=a.h;intro Zy s Z H Q I h;refine uc (KG I g f d ?_ hn BL);exact R3 (AQ (a pos Zy s Z H _ I h) λus s1 AH=>by obtain⟨vs,H1,I1,b,c⟩:=AH;exact i Zy s1 Z H1 vs us Q I1 b c) he BW⟩
theorem KP{id:String}{r:V->List V->Hp->VK->Prop}(j:PlainAttrs T)(slot:Slot T name id)(Z6:typeOf (.builtin id)=pure (.type "method_descriptor"))(k:Mt X id r)(ho:QE X o to)(a:QA X (e::es) t)
  (WH:attributeBase o name X.env (eval o X.env)=eval o X.env:=by rfl)
  (ba:((backTo Bd (starEach (e::es) X.env)).all (λx=>!x.1) && (backToKw Bd (keywordEach [] X.env)).all (λx=>x.1.isSome)
   && decide ((e::es).length+([]:List Keyword).length+(if([]:List Keyword).isEmpty then 0 else 1)<30))=true:=by rfl)
  (WV:(apos.endLine == Bd.line)=true:=by rfl) (hs:starEach (e::es) X.env=(false,eval e X.env)::starEach es X.env:=by rfl) (ZD:(backTo Bd (starEach es X.env)).any (·.1)=false:=by rfl) :
  QE X (.Call (.Attribute o name apos) (e::es) [] Bd) (ON X.K T r to t):=⟨by
 have ho:=ho.h;have a:=a.h;intro Zy s Z H Q I h;refine wpAny_Call_method_late WH ba WV rfl (AQ (ho Zy s Z H _ I h) λv s1 f=>?_);obtain⟨x,H1,I1,b,ty,i⟩:=f;obtain⟨h1,h2⟩:=yL I1 b ty;refine⟨T,id,j,slot,Z6,h1,h2,?_⟩;have c:=a Bd Zy s1 Z H1 _ I1 i;rw[hs]at c ⊢;refine nX (by show(false || (backTo Bd (starEach es X.env)).any (·.1))=false;rw[ZD] <;> rfl) (bh ?_)
 exact AQ c λus s2 AH=>by obtain⟨vs,H2,I2,d,g⟩:=AH;exact k Zy s2 Z H2 x vs v us Q I2 b d g⟩
variable{elt iter:Expr}{scope:Scope}{Ao:List Str}{js:List Nat}
theorem Im(d:QE X l tl):QI X tg l (Xp X.K tl):=⟨by
 have d:=d.h;intro Zy s Z H R I h;refine AQ (d Zy s Z H _ I h) λv s1⟨x,H1,I1,i,j⟩=>?_;obtain⟨tp,a,xs,e,f,q⟩:=j;subst e;cases i;have c:∀b∈[s1.heap.objs.size],Ej X Zy H1 b:=λb m=>by
  have e:b=s1.heap.objs.size:=by simpa using m
  subst e;exact I1.Ol (Az _) (I1.AJ.fresh (Az _))
 cases tp with
 |false=>
  obtain⟨A5,g,p,k⟩:=I1.list f;refine wpAny_pyIter_list p.isList ?_;exact⟨s1.heap.objs.size,[s1.heap.objs.size],_,_,H1,rfl,I1.kept (t':=s1.toks) λb o e=>Bb _ e,uq a _ xs,⟨_,CI _ rfl,rfl,rfl⟩,c,q⟩
 |true=>
  obtain⟨A5,g,p,k⟩:=I1.tuple f;refine wpAny_pyIter_tuple (show s1.heap.IsTuple a A5.toArray from p) ?_;exact⟨s1.heap.objs.size,[s1.heap.objs.size],_,_,H1,rfl,I1.kept (t':=s1.toks) λb o e=>Bb _ e,wB a _ xs,⟨_,CI _ rfl,rfl,rfl⟩,c,q⟩⟩
theorem gi(c:QE X l tl):QI X tg l (iU tl):=⟨by
 have c:=c.h;intro Zy s Z H R I h;refine AQ (c Zy s Z H _ I h) λv s1⟨x,H1,I1,g,i⟩=>?_;obtain⟨z,e,q⟩:=i;subst e;obtain⟨t,rfl⟩:=g;have a:∀b∈[s1.heap.objs.size],Ej X Zy H1 b:=λb j=>by
  have e:b=s1.heap.objs.size:=by simpa using j
  subst e;exact I1.Ol (Az _) (I1.AJ.fresh (Az _))
 have kp:∀(ob:Obj),Inv X Zy Z H1 { s1 with heap:=s1.heap.push ob }:=λob=>I1.kept (t':=s1.toks) λb o e=>Bb _ e
 cases f:z.cps.all (· < 128)
 .refine wpAny_pyIter_wide f ?_;exact⟨s1.heap.objs.size,[s1.heap.objs.size],_,_,H1,rfl,kp _,kr (t:=t) (by decide) (λA' d=>Walks.strWide d _ z t) (λ_ _ _ _ _ st h=>wpAny_pyIter_striter_wide st h),⟨_,CI _ rfl,rfl,rfl⟩,a,q⟩
 .refine wpAny_pyIter_ascii f ?_;exact⟨s1.heap.objs.size,[s1.heap.objs.size],_,_,H1,rfl,kp _,kr (t:=t) (by decide) (λA' d=>Walks.strAscii d _ z t) (λ_ _ _ _ _ st h=>wpAny_pyIter_striter_ascii st h),⟨_,CI _ rfl,rfl,rfl⟩,a,q⟩⟩
theorem Y5{ta:TA}(l:Gl X "range")(k:X.mg "range"=none)(c:QA X [a] ta)(i:starEach [a] X.env=[(false,eval a X.env)]:=by rfl):QI X tg (.Call (.Name "range" p) [a] [] pos) (WG ta):=⟨by
 have c:=c.h;intro Zy s Z H R I h;refine Call_ (KG I l k boot_range (R3 (AQ (c pos Zy s Z H _ I h) λus s1⟨vs,H1,I1,f,b⟩=>?_) i rfl));obtain⟨j,e,b,g,q⟩:=b;subst e;cases f with
 |cons r d=>
  cases d;obtain⟨t,rfl⟩:=r;exact call_range_1 (lL I1 (by omega) (by omega) b g (by simpa using q))⟩
theorem hU:S7 X [] kA:=⟨λZy s Z H Q I h=>by
 rw[nr];exact qh ⟨H,I,h⟩⟩
theorem Ly{t:TT}(a:QT X c t):S7 X [c] t:=⟨sj a.h⟩
theorem KL(b:X.calm=true)(S:FK X.N X.env.scope scope x Ao js)(hi:QI X (.Name x px) iter wi)
  (FL:∀fp C s H,S7 (Kg X (Ao++[x]) scope (Ck X.env.cells scope.names) C s H fp) ifs tt) (Ey:∀fp C s H,QE (Kg X (Ao++[x]) scope (Ck X.env.cells scope.names) C s H fp) elt te)
  (a:∀v,foldedSetIterable iter X.env v=pure v:=by intro _;rfl):QE X (.ListComp elt [⟨.Name x px,iter,ifs,0⟩] scope pos) (Mu wi js tt te):=⟨uR b S hi.h (λfp C s H=>(FL fp C s H).h) (λfp C s H=>(Ey fp C s H).h) a⟩
theorem xQ{py Ku:Pos}(c:X.N.Nodup)(Eu:X.N[i]?=some y)(a:Loc X.env.scope y)(b:X.calm=true)(S:FK X.N X.env.scope scope x Ao js)(hi:QI X (.Name x px) iter wi)
  (FL:∀fp C s H,S7 (Kg X (Ao++[x]) scope (Ck X.env.cells scope.names) C s H fp) ifs tt) (Ey:∀fp C s H,QE (Kg X (Ao++[x]) scope (Ck X.env.cells scope.names) C s H fp) elt te)
  (Pk:swapsWith (.ListComp elt [⟨.Name x px,iter,ifs,0⟩] scope pos) (some (.Name y py)) Ku.line X.env=pure true:=by rfl)
  (hf:X.fn y=true∨X.env.scope.names.lookup y=some .local:=by first|exact .inl rfl|exact .inr rfl|assumption)
  (hs:∀v,foldedSetIterable iter X.env v=pure v:=by intro _;rfl):QS X (.Assign [.Name y py] (.ListComp elt [⟨.Name x px,iter,ifs,0⟩] scope pos) Ku) (Ep (Mu wi js tt te) (Cd i)):=
 ⟨ZEm c Eu a b S hi.h (λfp C s H=>(FL fp C s H).h) (λfp C s H=>(Ey fp C s H).h) Pk hf hs⟩
theorem ZA1(b:X.N.Nodup)(hi:X.N[i]?=some x)(hx:Loc X.env.scope x)(a:X.fn x=true∨X.env.scope.names.lookup x=some .local:=by first|exact .inl rfl|exact .inr rfl|assumption):QG X (.Name x pos) (Cd i):=⟨dB b hi hx a⟩
theorem NV:Rr X [] Oa:=⟨by
 intro Zy s Z H vs us Q I r h;obtain⟨e,h⟩:=h;subst e;cases r;exact assignInOrder_nil ⟨Z,H,I,h⟩⟩
theorem ES{t:TG}{u:Ic}(h1:QG X e t)(h2:Rr X es u)
  (d:(assignEach (e::es) X.env).map (·.2)=assign e X.env::(assignEach es X.env).map (·.2):=by rfl):Rr X (e::es) (IE t u):=⟨by
 have h1:=h1.h;have h2:=h2.h;intro Zy s Z H vs us Q I r h;obtain⟨v,g,f,h⟩:=h;subst f;cases r with
 |cons r b=>
  rw[d];refine assignInOrder_cons (AQ (h1 Zy s Z H _ _ _ I r h) λ_ s1 a=>?_);obtain⟨σ1,H1,I1,c⟩:=a;exact h2 Zy s1 σ1 H1 _ _ Q I1 b c⟩
theorem Mw{k:Nat}{t:Ic}(i:X.calm=true)(h:Rr X es t)(hn:(assignEach es X.env).length=n:=by rfl)(BM:(assignEach es X.env).findIdx? (·.1)=none:=by rfl):QG X (.Tuple es k pos) (QD X.K n t):=⟨by
 have h:=h.h;intro Zy s Z H v u Q I r hw;obtain⟨a,xs,j,f,g,hw⟩:=hw;subst j;cases r;obtain⟨A5,c,d,m⟩:=I.tuple f;refine assign_Tuple_tuple (I.ok.hd i) d (by simp[hn,<- g,c.length]) BM λh' hx=>?_;have l:Inv X Zy Z H { s with heap:=h' }:=I.kept (t':=s.toks) λb o e=>hx b o (Bn (BA e)) e
 exact h Zy _ Z H xs _ Q l (by simpa using c) hw⟩
theorem bb{i:Expr}{ti:TE}{t:SY}(ho:QE X o to)(hi:QE X i ti)(l:Vd X t)
  (m:∀v,assign (.Subscript o i pos) X.env v=(do
   let a <- holding [v] (eval o X.env)
   let b <- holding [v,a] (eval i X.env)
   standAt pos
   holding [v,a,b] (setItem a b v)
   release [v,a,b] []):=by intro _;rfl):QG X (.Subscript o i pos) (Ww to ti t):=⟨by
 have ho:=ho.h;have hi:=hi.h;intro Zy s Z H v u Q I r h;rw[m];refine oS (tu (AQ (ho Zy s Z H _ I h) λa s1 d=>?_));obtain⟨x,H1,I1,f,k⟩:=d;refine oS (tu (AQ (hi Zy s1 Z H1 _ I1 k) λb s2 Y6=>?_));obtain⟨y,H2,I2,e,j⟩:=Y6;refine oS (ZA8 (oS (tu (AQ (l Zy s2 Z H2 x y v a b u _ I2 f e r j) λ_ n c=>?_))));obtain⟨H3,I3,g⟩:=c;exact wpAny_release ⟨Z,H3,I3,g⟩⟩
end
section
variable{st:Stmt}{u:TS}
theorem Ak:Fh X [] RE:=⟨Lz⟩
theorem A9(e:body=st::rest)(h:QS X st t)(h2:Fh X rest u):Fh X body (LZ t u):=⟨ZFm e h.h h2.h⟩
theorem AA(e:body=[st])(h:QS X st t):Fh X body t:=⟨by have h:=h.h;rw[e];exact ZGG h⟩
theorem EL(b:QE X e te)(a:swapsWith e none pos.line X.env=pure false:=by rfl):QS X (.Expr e pos) (Kt te):=⟨MB b.h a⟩
theorem AR(a:QE X e te):QS X (.Return (some e) pos) (Gf te):=⟨by
 have a:=a.h;intro Zy s Z H D I h;exact wpAny_Return_some (AQ (a Zy s Z H _ I h) λv s1 AH=>by obtain⟨x,H1,I1,b,c⟩:=AH;exact⟨x,Z,H1,I1,b,c⟩)⟩
theorem Ai{a b:List Stmt}(e:QT X c tc)(g:Fh X a t)(f:Fh X b u):QS X (.If c a b pos) (NS tc t u):=⟨by
 have e:=e.h;have g:=g.h;have f:=f.h;intro Zy s Z H D I h;refine wpAny_If (AQ (e Zy s Z H _ I h) λd s1 EN=>?_);obtain⟨H1,I1,i⟩:=EN;cases d with
 |true=>exact g Zy s1 Z H1 D I1 i
 |false=>exact f Zy s1 Z H1 D I1 i⟩
theorem LJ(b:QE X e te)(a:QG X tg g)(f:swapsWithSole [tg] e pos.line X.env=pure false:=by rfl)(hw:swappedStores [tg] e X.env=pure none:=by rfl)
  (h1:(assignEach [tg] X.env).map (·.2)=[assign tg X.env]:=by rfl):QS X (.Assign [tg] e pos) (Ep te g):=⟨by
 have b:=b.h;have a:=a.h;intro Zy s Z H D I h;refine wpAny_Assign_stores (AQ (b Zy s Z H _ I h) λv s1⟨x,H1,I1,c,d⟩=>?_) f hw;rw[h1];exact AQ (a Zy s1 Z H1 x v _ I1 c d) λ_ s2 q=>q⟩
theorem ye(f:X.N.Nodup)(hi:X.N[i]?=some x)(hx:Loc X.env.scope x)(a:QE X e te)(d:swapsWith e (some (.Name x pos')) pos.line X.env=pure false:=by rfl)(hf:X.fn x=true∨X.env.scope.names.lookup x=some .local:=by first|exact .inl rfl|exact .inr rfl|assumption):
  QS X (.Assign [.Name x pos'] e pos) (Ep te (Cd i)):=⟨by
 have a:=a.h;intro Zy s Z H D I h;refine wpAny_Assign_Name (AQ (a Zy s Z H _ I h) λv s1⟨y,H1,I1,b,c⟩=>?_) d;exact Zg I1 f hi hx b (λs2 I2=>⟨_,H1,I2,c⟩) hf⟩
theorem mW(m:PassesOwn (model X.prog X.w) X.A X.env X.xe)(k:QT X c tc)(l:Fh X body tb):QS X (.While c body [] pos) (dR tc tb):=⟨by
 have k:=k.h;have l:=l.h;intro Zy s Z H D I h;obtain⟨W,⟨t,q⟩,turn⟩:=h;refine wpAny_While (codeAny_whileLoop (λn s'=>∃ σ' H',Inv X Zy σ' H' s'/\W n σ' H') ?_ t ⟨Z,H,I,q⟩);rintro n s1⟨σ1,H1,I1,p⟩;refine vd m (AQ (k Zy s1 σ1 H1 _ I1 (turn n σ1 H1 p)) λb s2 r=>?_);obtain⟨H2,I2,d⟩:=r;cases b with
 |true=>
  obtain⟨N,o,d⟩:=d;rw[rG rfl];refine vd m (AQ (l Zy s2 σ1 H2 _ I2 d) λf u a=>?_);cases f with
  |next=>
   obtain⟨σ3,H3,I3,g⟩:=a;obtain⟨i,j,e⟩:=o σ3 H3 g;exact⟨i,j,σ3,H3,I3,e⟩
  |cont=>
   obtain⟨σ3,H3,I3,g⟩:=a;obtain⟨i,j,e⟩:=o σ3 H3 g;exact⟨i,j,σ3,H3,I3,e⟩
  |brk=>exact a
  |ret v=>exact a
 |false=>
  rw[qP Dm];exact vx ⟨σ1,H2,I2,d⟩⟩
theorem Kn{iter:Expr}(l:PassesOwn (model X.prog X.w) X.A X.env X.xe)(C:X.calm=true)(hi:QI X tg iter wi)(t:QG X tg g)(a:Fh X body tb)
  (hs:∀x,foldedSetIterable iter X.env x=pure x:=by intro _;rfl):QS X (.For tg iter body [] pos) (Yc wi g tb):=⟨by
 have hi:=hi.h;have t:=t.h;have a:=a.h;intro Zy s Z H D I h;refine wpAny_For (AQ (hi Zy s Z H _ I h) λv s1 h1=>AQ h1 λUS s2 h2=>?_) hs;obtain⟨it,fp,tn,J,H2,e,I2,T,DY,F,W,⟨m0,P⟩,turn⟩:=h2;subst e
 -- ZFS stays true of Hl ZIB objects through Hl loop
 have y:∀{H':Hp},(∀b∈fp,H' b=none)->∀b∈fp,Ej X Zy H' b:=λhn b a=>⟨hn b a,(F b a).2⟩;refine codeAny_forLoop_any (λn s'=>∃i σ' H',Inv X Zy σ' H' s'/\tn i s'.heap/\(∀b∈fp,H' b=none)/\W i n σ' H') ?_ m0 ⟨0,Z,H2,I2,DY,λb a=>(F b a).1,P⟩;rintro n B⟨i,σ3,H3,I3,Jf,E,O⟩;rcases turn i n σ3 H3 O with⟨stop,qn⟩|⟨go,N,hN,step⟩
 .refine vd l (AQ (T.done X rfl rfl rfl C i Zy B σ3 H3 X.xe I3 (y E) Jf stop) λr s4 Y6=>?_);obtain⟨q,I4⟩:=Y6;subst q;exact vx ⟨σ3,H3,I4,qn⟩
 .refine vd l (AQ (T.item X rfl rfl rfl C i Zy B σ3 H3 X.xe I3 (y E) Jf go) λr s4 R=>?_);obtain⟨u,q,h4⟩:=R;subst q;refine vd l (AQ h4 λ_ z G=>?_);obtain⟨x,H5,I5,U,K,KY,RC⟩:=G;have V:=I5.pinned (y RC) (T.obj _ _ KY);refine vd l (AQ (t _ z σ3 H5 x u _ V U (step x H5 K)) λ_ Q σ=>?_);obtain⟨σ6,H6,I6,Y⟩:=σ;refine vd l (AQ (a _ Q σ6 H6 _ I6 Y) λf p j=>?_);have c:∀{σ7:St}{H7:Hp},Inv X (Zy++Qk fp z.heap) σ7 H7 p->N σ7 H7->∃m,m<n/\∃i σ' H',Inv X Zy σ' H' p/\tn i p.heap/\(∀b∈fp,H' b=none)/\W i m σ' H':=λ{σ7 H7}I7 k=>by
   obtain⟨m',hm,M⟩:=hN σ7 H7 k;refine⟨m',hm,i+1,σ7,H7,I7.Pe,T.keep _ _ _ KY λb a o e=>(I7.pin (b,o) (FY _ (FY _ (Rg a e)))).1,λb a=>?_,M⟩;obtain⟨o,e,d⟩:=T.obj _ _ KY b a;exact(I7.pin (b,o) (FY _ (FY _ (Rg a e)))).2.1
  cases f with
  |next=>obtain⟨σ7,H7,I7,k⟩:=j;exact c I7 k
  |cont=>obtain⟨σ7,H7,I7,k⟩:=j;exact c I7 k
  |brk=>obtain⟨σ7,H7,I7,j⟩:=j;exact⟨σ7,H7,I7.Pe,j⟩
  |ret v=>obtain⟨L,σ7,H7,I7,S,j⟩:=j;exact⟨L,σ7,H7,I7.Pe,S,j⟩⟩
theorem D1(h:QS X st t):QS X st (Vj t):=⟨by
 have h:=h.h;intro Zy s Z H D I hw;obtain⟨J,h1,h2⟩:=hw;refine AQ (h Zy s Z H _ I h1) λf s' q=>?_;cases f with
 |next=>obtain⟨σ',H',I',q⟩:=q;exact⟨σ',H',I',h2 σ' H' q⟩
 |ret v=>exact q
 |brk=>exact q
 |cont=>exact q⟩
end
theorem AG.BO{P:Program}{K:ZIV}{mg:ZIX}{ZB:Heap}{qual:Str}{st:Stmt}{fd:FuncData}{N:List Str}{k:Nat}(F:AG K x qual st f fd)(S:Aw N ps (Ag st))(len:∀vs H Q E,sp vs H Q E->vs.length=ps.length)
  (Lg:∀(AX:Value)(A:Around)(outer:List Env)(s:Shared)(H:Hp)(vs:List V)(Q:VK)(E:XK),Bi k (A.deeper (envOfC qual (Ag st) s.heap.objs.size f AX))->sp vs H Q E->
   ∃t,Fh (Ea El P w K mg ZB N qual (Ag st) f AX A outer s H E).PX (K8 st) t/\t { nx:=λ_ H'=>Q .A8 H',rt:=Q } (start N vs) H):Cc P w K mg ZB El (k+1) f fd ps sp:=
 F.ok S len λAX A outer s H vs Q E a h=>let ⟨t,q,r⟩:=Lg AX A outer s H vs Q E a h;⟨t,q.h,r⟩
section
variable{b:Expr}{tb:TE}{t:TA}
theorem BC{id:String}(c:DW X (.builtin id) r)(a:X.mg x=none)(d:QA X (e::es) t)(b:Gl X x:=by rfl)(hv:bootBuiltins x=some (.builtin id):=by decide +kernel)(hn:x ≠"__name__" := by decide)(BL:(x == ("__debug__":Str))=false:=by decide)
  (he:starEach (e::es) X.env=(false,eval e X.env)::starEach es X.env:=by rfl) (BW:(backTo pos (starEach es X.env)).any (·.1)=false:=by rfl):QE X (.Call (.Name x p) (e::es) [] pos) (Dk r t):=uG c b a hv d hn BL he BW
theorem Cg(c:DW X (.type T) r)(a:X.mg x=none)(d:QA X (e::es) t)(b:Gl X x:=by rfl)(hv:bootBuiltins x=some (.type T):=by decide +kernel)(hn:x ≠"__name__" := by decide)(BL:(x == ("__debug__":Str))=false:=by decide)
  (he:starEach (e::es) X.env=(false,eval e X.env)::starEach es X.env:=by rfl) (BW:(backTo pos (starEach es X.env)).any (·.1)=false:=by rfl):QE X (.Call (.Name x p) (e::es) [] pos) (Dk r t):=pk c b a hv d hn BL he BW
theorem AE{r:R2}(d:Ib X r)(f:QE X a ta)(e:QE X b tb)(c:XQ b:=by exact λ_ _=>rfl):QE X (.Subscript a b pos) (C5 r ta tb):=ZBF d f e c
theorem AZ{k:Nat}(h:AI X.prog X.w X.K X.mg X.base x k ps sp)(a:Bi j X.A)(c:QA X (e::es) t)(b:k<=j:=by decide)(hg:Gl X x:=by rfl)(BL:(x == ("__debug__":Str))=false:=by decide)
  (he:starEach (e::es) X.env=(false,eval e X.env)::starEach es X.env:=by rfl) (BW:(backTo pos (starEach es X.env)).any (·.1)=false:=by rfl):QE X (.Call (.Name x p) (e::es) [] pos) (Dg sp [] E0 t):=ZCU h a b c hg BL he BW
theorem Gn{r:R2}(ho:BX X (compareOp op) r)(e:QE X a ta)(d:QE X b tb)(c:behindInMarks op b=false:=by first|exact lU _|with_unfolding_all rfl):QE X (.Compare a [op] [b] pos) (C5 r ta tb):=om ho e d c
theorem AU{r:R2}(ho:BX X (compareOp op) r)(e:QE X a ta)(d:QE X b tb)(c:behindInMarks op b=false:=by first|exact lU _|with_unfolding_all rfl):QT X (.Compare a [op] [b] pos) (Mn (C5 r ta tb)):=wa ho e d c
theorem Ax(i:Nat)(b:X.N.Nodup)(a:QE X e te)(hi:X.N[i]?=some x:=by rfl)(hx:Loc X.env.scope x:=by first|exact Or.inl rfl|exact Or.inr rfl)(hs:swapsWith e (some (.Name x pos')) pos.line X.env=pure false:=by rfl)(hf:X.fn x=true∨X.env.scope.names.lookup x=some .local:=by first|exact .inl rfl|exact .inr rfl|assumption):
  QS X (.Assign [.Name x pos'] e pos) (Ep te (Cd i)):=ye b hi hx a hs hf
theorem D6(i:Nat)(a:X.N.Nodup)(hi:X.N[i]?=some x:=by rfl)(hx:Loc X.env.scope x:=by first|exact Or.inl rfl|exact Or.inr rfl)(hf:X.fn x=true∨X.env.scope.names.lookup x=some .local:=by first|exact .inl rfl|exact .inr rfl|assumption):QG X (.Name x pos) (Cd i):=ZA1 a hi hx hf
theorem Sy{t:Tok}:E7 (.str x) (.str y t)=(y == x):=rfl
theorem Zd(x:Str):∀(ss:List Str)(m:Nat)(b:m<ss.length),m<ss.idxOf x->ss[m]≠x
 | [],_,b,_=>absurd b (Nat.not_lt_zero _)
 |a::r,m,b,h=>by
  rw[o4]at h
  by_cases e:a=x
  .have:(a == x)=true:=by simpa using e
   rw[this]at h;exact absurd h (Nat.not_lt_zero _)
  .have c:(a == x)=false:=by simpa using e
   rw[c]at h;cases m with
   |zero=>exact e
   |succ k=>
    have h':k+1<r.idxOf x+1:=h;exact Zd x r k (by simpa using b) (by omega)
theorem ND(h:x∈ss):∃a:ss.idxOf x<ss.length,ss[ss.idxOf x]=x/\∀m(b:m<ss.length),m<ss.idxOf x->ss[m]≠x:=by
 have a:ss.idxOf x<ss.length:=List.idxOf_lt_length_iff.mpr h;exact⟨a,bx a,λm b Am=>Zd x ss m b Am⟩
def dq(K:ZIV):V->List V->Hp->VK->Prop:=λx vs H Q=>∃(l:Addr)(ss:List Str)(y:Str),x=.ref l/\vs=[.str y]/\Ac K H l (ss.map V.str)/\y∈ss/\Q (.int (ss.idxOf y:Nat)) H
theorem TB:Mt X "list.index" (dq X.K):=by
 intro Zy s Z H x vs v us Q I i j h;obtain⟨l,ss,y,rfl,rfl,p,o,q⟩:=h;cases i;obtain⟨u,rfl,k⟩:=j.one;obtain⟨A5,r,pl,b⟩:=I.list p;obtain⟨⟨c,d,G,sl⟩,n,ho,f,hd,ME⟩:=id pl;simp only at f hd ME;subst f;subst hd;subst ME;have A:=r.length;rw[AL]at A;obtain⟨D,ZU,LM⟩:=ND o;have at':∀(m:Nat)(a:m<A5.toArray.size),∃t,A5.toArray[m]=.str (ss[m]'(by simp at a;omega)) t:=λm a=>by
  have B:m<A5.length:=by simpa using a
  obtain⟨h2,t,e⟩:=jr r (BG B);exact⟨t,by simpa using e⟩
 have g:ss.idxOf y<A5.toArray.size:=by simp;omega
 refine call_meets Uk ⟨_,ho,rfl⟩ PySem.F.entry_list_index (PySem.F.args_list_index_2 _ _) (SeqAt.list_indexAt l A5.toArray n none sl u (E7 (.str y)) (ss.idxOf y) g ?_ ?_ (λm a Am=>?_)) ⟨ho,λz Yt=>LU k rfl r (by
   rw[L6];intro w hw;obtain⟨C,_,rfl⟩:=List.mem_map.mp hw;rfl) z (by simpa using Yt),?_⟩
 .have h1:ss.length<=sizeLine:=by rw[AL]at b;exact b
  have h2:=K6;have E:((sizeLine:Nat):Int)<2 ^ 63:=by exact_mod_cast h2
  omega
 .obtain⟨t,e⟩:=at' _ g;rw[e,Sy];simpa using ZU
 .obtain⟨t,e⟩:=at' _ a;rw[e,Sy];have:=LM m (by simp at a;omega) Am
  simpa using this
 .exact⟨.int _,H,I.tok _,⟨_,rfl⟩,q⟩
theorem zU(l:Addr)(items:Array Value)(n:Nat)(dd:Option Addr)(sl:Array (Option Value))(x:Value)(e:Value->Bool)(j:Nat)(z:j<items.size)(f:e items[j]=true)(LM:∀m(v:m<items.size),m<j->e items[m]=false):
  Meets (Builtin.«tuple.index» ⟨[.ref l,x],[]⟩)
   (λA R s=>s.heap.get? l=some { cls:=.type "tuple", dict:=dd,data:=.seq items n,slots:=sl }/\(∀y,y∈items->SeqAt.EqAt A.in1 s y x (e y))/\R (.ok (.ret (.int j s.toks))) { s with toks:=s.toks+1 }):=by
 refine Meets.of_wp λprog w A R s h=>?_;obtain⟨o,g,d,tk,os⟩:=s;obtain⟨p,q,h⟩:=h
 wp_walk using AutoSeq1.wpAny_loadPart' p
 show wpAny _ _ (forIn [:min items.size items.size] ((none:Option Fin),()) (λ(i:Nat)(_:Option Fin×Unit)=>match items[i]? with
  |some y=>(do let b <- eqBool y x;if b=true then do let r <- retInt ((i:Nat):Int);pure (ForInStep.done (some r,()))else pure (ForInStep.yield (none,())))
  |_=>pure (ForInStep.yield (none,())))) _ _ _
 rw[Std.Legacy.Range.forIn_eq_forIn_range'];have hsz:([:min items.size items.size]:Std.Legacy.Range).size=items.size:=by simp[Std.Legacy.Range.size]
 show wpAny _ _ (forIn (List.range' 0 ([:min items.size items.size]:Std.Legacy.Range).size 1) _ _) _ _ _;rw[hsz];refine wpAny_forIn_list _ (λrest b s'=>b=(none,())/\s'=⟨o,g,d,tk,os⟩/\∃i,rest=List.range' i (items.size - i) 1/\i<=j) _ ?_ ?_ _ _ ⟨rfl,rfl,0,rfl,Cn _⟩
 .rintro i rest b s'⟨rfl,rfl,a,c,FI⟩;have k:a < items.size:=by omega
  have u:List.range' a (items.size - a) 1=a::List.range' (a+1) (items.size - (a+1)) 1:=by
   have:items.size - a=(items.size - (a+1))+1:=by omega
   rw[this,List.range'_succ]
  rw[u]at c;injection c with hr1 hr2
  subst hr1;subst hr2;have hi:items[i]?=some items[i]:=by simp[k]
  rw[hi];refine oS (q _ (Array.getElem_mem k) prog w _ _ ?_)
  by_cases t:i=j
  .subst t;rw[f,rG rfl]
   wp_walk
   exact⟨_,rfl,h⟩
  .rw[LM i k (by omega),qP (by decide)];exact qh ⟨rfl,rfl,i+1,rfl,by omega⟩
 .rintro b s'⟨rfl,rfl,i,c,FI⟩;have:0<(List.range' i (items.size - i) 1).length:=by rw[List.length_range'];omega
  rw[<- c]at this;exact absurd this (by simp)
def nA(K:ZIV):V->List V->Hp->VK->Prop:=λx vs H Q=>∃(l:Addr)(ss:List Str)(y:Str),x=.ref l/\vs=[.str y]/\AS K H l (ss.map V.str)/\y∈ss/\Q (.int (ss.idxOf y:Nat)) H
theorem vR:Mt X "tuple.index" (nA X.K):=by
 intro Zy s Z H x vs v us Q I g i h;obtain⟨l,ss,y,rfl,rfl,o,k,q⟩:=h;cases g;obtain⟨u,rfl,j⟩:=i.one;obtain⟨A5,r,pl,C⟩:=I.tuple o;obtain⟨⟨c,d,E,sl⟩,ho,b,n,ME⟩:=id pl;simp only at b ME;subst b;subst ME;have p:=r.length;rw[AL]at p;obtain⟨D,ZU,LM⟩:=ND k;have at':∀(m:Nat)(a:m<A5.toArray.size),∃t,A5.toArray[m]=.str (ss[m]'(by simp at a;omega)) t:=λm a=>by
  have A:m<A5.length:=by simpa using a
  obtain⟨h2,t,e⟩:=jr r (BG A);exact⟨t,by simpa using e⟩
 have f:ss.idxOf y<A5.toArray.size:=by simp;omega
 refine call_meets ZHb ⟨_,ho,rfl⟩ PySem.F.entry_tuple_index (PySem.F.args_tuple_index_2 _ _) (zU l A5.toArray n d sl u (E7 (.str y)) (ss.idxOf y) f ?_ (λm a Am=>?_)) ⟨ho,λz Yt=>LU j rfl r (by
   rw[L6];intro w hw;obtain⟨B,_,rfl⟩:=List.mem_map.mp hw;rfl) z (by simpa using Yt),?_⟩
 .obtain⟨t,e⟩:=at' _ f;rw[e,Sy];simpa using ZU
 .obtain⟨t,e⟩:=at' _ a;rw[e,Sy];have:=LM m (by simp at a;omega) Am
  simpa using this
 .exact⟨.int _,H,I.tok _,⟨_,rfl⟩,q⟩
def aM(t u:TE):TE:=λZ H Q=>t Z H Q∨u Z H Q
theorem ZGm{t u:TE}(h:QE X e t)(h2:QE X e u):QE X e (aM t u):=⟨λZy s Z H Q I q=>q.elim (h.h Zy s Z H Q I) (h2.h Zy s Z H Q I)⟩
end
theorem yi:typeLookup (.type "list_reverseiterator") "__len__"=pure none:=by rw[ZAw,ze];kernel_rfl
theorem ZDB:typeLookup (.type "list_reverseiterator") "__length_hint__"=pure (some (.builtin "list_reverseiterator.__length_hint__")):=by rw[ZAw,ze];kernel_rfl
section
variable{prog:Program}{A:Around}{s:Shared}{R:Result->Shared->Prop}
variable{fp wr:List Addr}{G:Array GenState->Array GenState->Prop}{P:Nat->Value->Prop}{St:Nat->Shared->Prop}
theorem ZBj(W:WalksS prog w A.in1 I fp wr G n P St)(c:∀i s,St i s->s.TypeIs (.ref I) "list_reverseiterator")(S:Addr)(res:Value)(m:Nat)(BM:St 0 s)(GH:S∉fp)(l:I∈fp)
  (k:s.heap.get? S=some { cls:=.type "list", data:=.seq #[] m })
  (hR:∀s' EA a,Moved (S::wr) G s s'->s'.heap.get? S=some { cls:=.type "list", dict:=none,data:=.seq EA a,slots:=#[] }->ItemsOf P EA n->R (.ok (.ret res)) s') (hn:n<=sizeLine) :
  wpAny (model prog w) A.in1 (Builtin.List.listExtendWith (.ref S) (.ref I) res)
   (λd s'=>match d with | .done f=>R (.ok f) s' | .again a=>a.quiet=true/\codeAny (model prog w) A a R s') (λe s'=>R (.error e) s') s:=by
 have h:S≠I:=λe=>GH (e▸l);unfold Builtin.List.listExtendWith;refine oS (vS (c 0 _ BM) ?_);have h1:Builtin.List.listSameRef (.ref S) (.ref I)=false:=by simp[Builtin.List.listSameRef,h]
 rw[qP (by rw[h1];decide)];refine oS (W.self 0 _ _ _ BM ?_);refine oS (tu ?_);unfold Builtin.List.listLengthHint;refine oS (yR (c 0 _ BM) yi ?_);show wpAny _ A.in1 (specialOf (Value.ref I) (Str.ofString "__length_hint__") >>= _) _ _ _;refine oS (yR (c 0 _ BM) ZDB ?_);generalize g:("list_reverseiterator.__length_hint__":String)=Pl
 wp_delta
 rw[show splitId Pl=some ("list_reverseiterator","__length_hint__")from by subst g;decide +kernel];subst g;refine oS (ZAo (b:=true) (c 0 _ BM) (by rw[ZB3];kernel_rfl) ?_);refine qh ?_;rw[qP (by decide)];refine qh ⟨ZAX F.plain_extend_loop _,ZAI W hn _ GH _ n 0 _ _ _ rfl (Cn _) BM k (ItemsOf.nil P) λs' EA a j DA BD=>?_⟩;exact hR s' EA a j DA BD
theorem xJ(W:WalksS prog w A.in1 I fp wr G n P St)(m:∀i s,St i s->s.TypeIs (.ref I) "list_reverseiterator")(S:Addr)(BM:St 0 s)(GH:S∉fp)(p:I∈fp)
  (g:s.heap.get? S=some { cls:=.type "list", data:=.seq #[] })
  (hR:∀s' EA a,Moved (S::wr) G s s'->s'.heap.get? S=some { cls:=.type "list", dict:=none,data:=.seq EA a,slots:=#[] }->ItemsOf P EA n->R (.ok (.ret .none)) s') (hn:n<=sizeLine) :
  wpAny (model prog w) A.in1 (Builtin.«list.__init__» ⟨[.ref S,.ref I],[]⟩)
   (λj s'=>match j with | .done f=>R (.ok f) s' | .again a=>a.quiet=true/\codeAny (model prog w) A a R s') (λe s'=>R (.error e) s') s:=by
 show wpAny _ A.in1 (do let old <- Builtin.List.listItems (.ref S);Builtin.List.listUpdate (.ref S) (λ_=>#[]);letGo old.toList.reverse;Builtin.List.listExtendWith (.ref S) (.ref I) .none) _ _ s
 refine oS ?_;unfold Builtin.List.listItems;refine oS (wpAny_seqItems g rfl (qh ?_));show wpAny _ A.in1 (updateSeq S (λ_=>#[]) >>= λ_=>letGo (#[]:Array Value).toList.reverse >>= λ_=>Builtin.List.listExtendWith (.ref S) (.ref I) .none) _ _ s;refine oS (vo g rfl ?_);have d:=J6 (Obj.mapSeq (λ_=>(#[]:Array Value))) g rfl;have k:∀b o,b≠S->s.heap.get? b=some o->(s.heap.update S (Obj.mapSeq (λ_=>(#[]:Array Value)))).get? b=some o:=
  λb o c e=>(FX _ _ (BN c)).trans e
 refine oS (wpAny_letGo ?_);refine ZBj (hn:=hn) W m S .none _ (W.frame 0 s _ s.toks BM (Az _) λb c o e=>k b o (λh=>GH (h▸c)) e) GH p d λs' EA a l DA BD=>?_;exact hR s' EA a (Moved.trans W.gtrans ((Moved.refl W.grefl).then_heap (Az _) λb o c e=>k b o (λh=>c (h▸D5)) e) l) DA BD
theorem qu(W:WalksS prog w A.in1.in1 I fp wr G n P St)(j:∀i s,St i s->s.TypeIs (.ref I) "list_reverseiterator")(BM:St 0 s)(c:∀b∈fp,b<s.heap.objs.size)(l:I∈fp)
  (k:∀s' EA d,Moved (s.heap.objs.size::wr) G { s with heap:=s.heap.push { cls:=.type "list", data:=.seq #[] } } s'->
   s'.heap.get? s.heap.objs.size=some { cls:=.type "list", dict:=none,data:=.seq EA d,slots:=#[] }->ItemsOf P EA n->Q (.ref s.heap.objs.size) s') (hn:n<=sizeLine) :
  wpAny (model prog w) A (call (.type "list") [.ref I]) Q E s:=by
 have m:s.heap.objs.size∉fp:=λa=>MZ _ (c _ a);refine callType_codes (Q₁:=λobj f=>obj=.ref s.heap.objs.size/\f={ s with heap:=s.heap.push { cls:=.type "list", data:=.seq #[] } }) F.called_list (F.typeCall_list_1 _) F.entry_list_init
  (code_list_new _ ⟨rfl,rfl⟩) λobj f h=>?_
 obtain⟨rfl,rfl⟩:=h;have g:(s.heap.push { cls:=.type "list", data:=.seq #[] }).get? s.heap.objs.size=some { cls:=.type "list", data:=.seq #[] }:=CI _ rfl;refine⟨⟨_,g,rfl⟩,F.args_list_init_2 _ _,xJ (hn:=hn) W j _ (W.frame 0 s _ s.toks BM (Az _) λb _ o e=>Bb _ e) m l g λs' EA d a DA BD=>?_⟩;exact⟨rfl,k s' EA d a DA BD⟩
variable{l:Addr}{items:Array Value}
end
end L2
namespace HT
variable{E Q:Value->Shared->Prop}
section
variable{prog:Program}{w:World}{A:Around}{s:Shared}
theorem ZFA{t sl:Addr}{items:Array Value}{vl vu:Value}{lo hi:Option Int}(a:IsTup s.heap t items)(b:s.heap.IsSliceOf sl vl vu .none)(pl:IsPart vl lo)(d:IsPart vu hi)
  (hw:Ar items.size 0 lo=0/\Ar items.size items.size hi=items.size) (h:Q (.ref t) s):wpAny (model prog w) A (getItem (.ref t) (.ref sl)) Q E s:=by
 obtain⟨os,Lo,RT,QZ⟩:=id b;have e:s.TypeIs (.ref sl) "slice" := ⟨os,Lo,RT⟩;unfold getItem
 try with_reducible refine tu ?_
 first|refine oS (qh ?_)|skip
 refine oS (wpAny_sequenceKey a.typeIs (by decide) ?_);refine oS (wpAny_callSpecial?_slot (name:=Str.ofString "__getitem__") a.typeIs cG
  (ZA6 cG a.typeIs entry_tuple_getitem ?_ (args_tuple_getitem _ _)))
 show wpAny _ _ (Builtin.Tuple.tupleItemsOf (.ref t) >>= _) _ _ s;refine oS (tupleItemsOf_ a ?_);refine oS (vS e ?_);rw[rG (by decide)];refine oS (eB b pl d ?_);have c:((((Ar items.size 0 lo:Nat):Int) == 0 && (1:Int) == 1 && (Ar items.size items.size hi - Ar items.size 0 lo) == items.size)=true):=by
  rw[hw.1,hw.2];simp
 first
 |rw[rG c]
 |simp only[c,ZB8]
 refine oS ?_;unfold Builtin.Tuple.tupleIsExact;refine oS (vS a.typeIs (qh ?_));rw[rG (by decide)];exact oS (yJ (qh ⟨_,rfl,qh h⟩))
end
end HT
namespace L2
variable{X:Cx}{A5 vs:List Value}{Zy:ZIW}{Z:St}{H:Hp}{s:Shared}{h':Heap}{e k1 n t':Nat}{fp:List Addr}{I a:Addr}{w:World}{es:List Expr}{AN ss:List Str}{Pc Q:List Value->Shared->Prop}
section
def jY(K:ZIV):V->Option Int->Option Int->Hp->VK->Prop:=λx lo hi H Q=>∃a xs,x=.ref a/\AS K H a xs/\
 ((HT.Ar xs.length 0 lo=0/\HT.Ar xs.length xs.length hi=xs.length)->Q (.ref a) H)/\(¬ (HT.Ar xs.length 0 lo=0/\HT.Ar xs.length xs.length hi=xs.length)->∀p,H p=none->Q (.ref p) (upd H p (.tup (Cp xs lo hi))))
theorem ZG5:Lh X (jY X.K):=by
 intro Zy s Z H x v vl vu lo hi sl Q I c f pl d h;obtain⟨a,xs,rfl,hx,i,g⟩:=h
 by_cases hw:HT.Ar xs.length 0 lo=0/\HT.Ar xs.length xs.length hi=xs.length
 .cases c;obtain⟨A5,r,e,j⟩:=I.tuple hx;have b:A5.toArray.size=xs.length:=by rw[C9];exact r.length.symm
  refine⟨"tuple", _,PyProof.Rows.slot_tuple_getitem.lookup,e.typeIs,?_⟩;exact HT.ZFA e f pl d (by rw[b];exact hw) ⟨.ref a,H,I,rfl,i hw⟩
 .exact ij Zy s Z H _ v vl vu lo hi sl Q I c f pl d ⟨a,xs,rfl,hx,hw,g hw⟩
theorem wb{ys:List V}(r:Vals ys A5){acc:Array Value}(h:ItemsOf (λi v=>A5.toArray[A5.toArray.size - 1 - i]?=some v) acc A5.toArray.size):∃us:List Value,Vals ys.reverse us/\acc=us.toArray:=by
 have e:acc=A5.reverse.toArray:=by
  apply Array.toList_inj.mp;rw[List.toList_toArray];apply bq;intro i;have a:acc.size=A5.length:=by rw[h.1];simp
  by_cases hi:i<A5.length
  .have h1:acc.toList[i]?=some (acc[i]'(by omega)):=by simp
   have h2:=h.2 i (acc[i]'(by omega)) (by simp);rw[h1,ZHH hi];simp at h2;rw[<- h2]
  .have h1:acc.toList[i]?=none:=L7 (by simp;omega);have h2:A5.reverse[i]?=none:=L7 (by simp;omega);rw[h1,h2]
 exact⟨A5.reverse,r.reverse,e⟩
theorem Inv.zS(I:Inv X Zy Z H s)(d:∀b∈fp,Ej X Zy H b)(k:∀b o,b∉fp->s.heap.get? b=some o->h'.get? b=some o):
  Inv X Zy Z H { s with heap:=h',toks:=t' }:=by
 have f:∀b u,H b=some u->b∉fp:=λb u e z=>by rw[(d b z).1]at e;cases e
 refine I.step (g':=s.gens) (d':=s.drawn) (ch:=fp) (λb h=>?_) (λb o _ _ a e _=>k b o a e) (λb o _ _ a e _=>⟨o.slots,k b o a e⟩) (λ_ _ _ _ n=>n)
  (λb o a e=>⟨o,k b o a e⟩) (λ_ _ e=>e) (λ_ _ _ e=>e) (λb ps e=>⟨#[],by rw[e];simp⟩) (λm g=>?_) (λb u e=>?_) I.bare
 .obtain⟨_,h1,_,l,j,i⟩:=d b h;exact⟨l,h1,j,i⟩
 .obtain⟨o,es,p,ho,r⟩:=g;exact⟨o,es,p,k _ o (λz=>(d _ z).2.1 rfl) ho,r⟩
 .refine(I.AJ b u e).HG (λc v a q=>k c v ?_ q) (λ_ q=>q) λ_ _ q=>q;rcases a with z|z
  .rw[z];exact f b u e
  .exact f c _ z
theorem Inv.ZDQ{o:HO}(I:Inv X Zy Z H s)(i:∀b∈fp,Ej X Zy H b)(k:∀b o,b∉fp->s.heap.get? b=some o->h'.get? b=some o)
  (j:s.heap.objs.size<=a) (g:CC X.prog X.w (upd H a o) h' a o):Inv X Zy Z (upd H a o) { s with heap:=h',toks:=t' }:=by
 have hn:H a=none:=I.AJ.fresh j;have l:∀b u,H b=some u->b∉fp:=λb u e z=>by rw[(i b z).1]at e;cases e
 have ne:∀b u,H b=some u->b≠a:=λb u e=>DH e hn;have h:∀b u,s.heap.get? b=some u->b≠a:=λb u e=>Bn (De (BA e) j);refine I.step (g':=s.gens) (d':=s.drawn) (ch:=fp) (λb f=>?_) (λb o _ _ d e _=>k b o d e) (λb o _ _ d e _=>⟨o.slots,k b o d e⟩) (λb o _ e n=>by rw[AY (h b o e)];exact n)
  (λb o d e=>⟨o,k b o d e⟩) (λb _ e=>by rw[AY (ne b _ e)];exact e) (λb _ _ e=>by rw[AY (ne b _ e)];exact e) (λb ps e=>⟨#[],by rw[AY (ne b _ e),e];simp⟩) (λm p=>?_) (λb u e=>?_) I.bare
 .obtain⟨_,h1,_,y,x,t⟩:=i b f;exact⟨y,h1,x,t⟩
 .obtain⟨o,es,A,ho,r⟩:=p;exact⟨o,es,A,k _ o (λz=>(i _ z).2.1 rfl) ho,r⟩
 .by_cases f:b=a
  .subst f;rw[AW]at e;cases e;exact g
  .rw[AY f]at e;refine(I.AJ b u e).HG (λc v d q=>k c v ?_ q) (λc q=>by rw[AY (ne c _ q)];exact q) λc _ q=>by rw[AY (ne c _ q)];exact q
   rcases d with z|z
   .rw[z];exact l b u e
   .exact l c _ z
noncomputable def ki(K:ZIV)(a:Addr)(xs:List V):It:=
 ⟨λi H=>Ac K H a xs/\i<xs.length,λi H x H'=>∃p y,xs[i]?=some y/\x=.ref p/\H p=none/\H'=upd H p (.tup [.int i,y]),λi H=>Ac K H a xs/\xs.length<=i⟩
theorem zx{P:Program}{K:ZIV}{p1:Pos}(a e it:Addr)(xs:List V)(C:e≠it):
  Turn P w K (.Tuple es k1 p1) (ki K a xs) [e,it] e (λi h=>(∃c,IsEnum h e it i c)/\h.IsListIter it a i) where
 mem:=by simp
 obj:=λi h st b g=>by
  obtain⟨⟨c,h1⟩,o,h2,_,d⟩:=st;rcases List.mem_cons.mp g with z|z
  .subst z;exact⟨_,h1,λv z=>by cases z⟩
  .have:b=it:=by simpa using z
   subst this;exact⟨o,h2,λv z=>by rw[d]at z;cases z⟩
 keep:=λi h h' st k=>⟨let ⟨c,h1⟩:=st.1;⟨c,k e (by simp) _ h1⟩,st.2.at λo q=>k it (by simp) o q⟩
 item:=by
  intro X t hw y B i Zy s Z H E I l st r;subst t hw y;obtain⟨n,hi⟩:=r;obtain⟨⟨c,j⟩,f⟩:=st;obtain⟨A5,m,p,J⟩:=I.list n;obtain⟨u,L,G⟩:=m.get (BG hi);refine wpAny_pyNext_enum_item j f p.isList (x:=u) (by simpa using L) C λh1 Jq ZGE Zt O O7=>⟨_,rfl,?_⟩
  refine wpAny_letOwnedTupleGo_enum Jq λh2 Mz Cb=>?_;have F:e<s.heap.objs.size:=BA j;have D:h2.get? s.heap.objs.size=some { cls:=.type "tuple", data:=.seq #[.int i s.toks,u] }:=(Cb.2 _ (OL F)).trans Zt;have kp:∀b o,b∉[e,it]->s.heap.get? b=some o->h2.get? b=some o:=λb o g q=>by
   have A:b≠e/\b≠it:=by simpa using g
   exact(Cb.2 b A.1).trans (O7 b o A.1 A.2 q)
  refine⟨.ref s.heap.objs.size,_,I.ZDQ (t':=s.toks+1) (a:=s.heap.objs.size) (o:=.tup [.int i,xs[i]]) l kp (Az _) ?_,rfl,⟨_,_,BG hi,rfl,I.AJ.fresh (Az _),rfl⟩,⟨⟨_,Mz⟩,ZGE.at λo q=>(Cb.2 it (BN C)).trans q⟩,λb g=>?_⟩
  .exact⟨(by show 2<=sizeLine;decide),[.int i s.toks,u],.cons ⟨_,rfl⟩ (.cons G .nil),⟨_,D,rfl,_,rfl⟩,λob q=>by rw[D]at q;cases q;rfl⟩
  .have N:b<s.heap.objs.size:=by
    rcases List.mem_cons.mp g with z|z
    .rw[z];exact F
    .have:b=it:=by simpa using z
     obtain⟨o,q,_⟩:=f;rw[this];exact BA q
   rw[AY (Bn N)];exact(l b g).1
 done:=by
  intro X t hw y B i Zy s Z H E I l st r;subst t hw y;obtain⟨n,hx⟩:=r;obtain⟨⟨c,j⟩,f⟩:=st;obtain⟨A5,m,p,J⟩:=I.list n;have Q:=m.length;exact wpAny_pyNext_enum_end (I.ok.hd B) j f p.isList (by simp;omega) λh' M=>⟨rfl,I.zS (t':=s.toks) l λb o g q=>M b o (λz=>g (by simp[z])) q⟩
 self:=λ_ _ _ _ _ st h=>let ⟨⟨_,j⟩,_⟩:=st;wpAny_pyIter_enum j h
def ZH(K:ZIV)(t:TA):TI:=λZ H R=>t Z H λvs H1=>∃a xs,vs=[.ref a]/\Ac K H1 a xs/\R (ki K a xs) H1
theorem ZCE{p1 p pos:Pos}{l:Expr}{t:TA}(o:Gl X "enumerate")(n:X.mg "enumerate"=none)(d:QA X [l] t)(k:starEach [l] X.env=[(false,eval l X.env)]:=by rfl):
  QI X (.Tuple es k1 p1) (.Call (.Name "enumerate" p) [l] [] pos) (ZH X.K t):=⟨by
 have d:=d.h;intro Zy s Z H R I h;refine uc (KG I o n (show bootBuiltins "enumerate"=some (.type "enumerate") by decide +kernel) ?_ (by decide) (by decide));refine R3 (AQ (d pos Zy s Z H _ I h) λus s1⟨vs,H1,I1,i,j⟩=>?_) k rfl;obtain⟨a,xs,rfl,m,q⟩:=j;obtain⟨u,rfl,g⟩:=vals1 i;cases g;obtain⟨A5,w,p,x⟩:=I1.list m;refine call_enumerate_list p.isList λh' e c hsz kp=>?_;refine wpAny_pyIter_enum e ?_;have v:s1.heap.objs.size+1≠s1.heap.objs.size:=Nat.succ_ne_self _;refine⟨s1.heap.objs.size+1,[s1.heap.objs.size+1,s1.heap.objs.size],_,_,H1,rfl,I1.kept (t':=s1.toks) kp,zx a _ _ xs v,⟨⟨_,e⟩,c⟩,λb r=>?_,q⟩;have f:s1.heap.objs.size<=b:=by
  rcases List.mem_cons.mp r with z|z
  .rw[z];exact FZ _
  .have:b=s1.heap.objs.size:=by simpa using z
   rw[this];exact Az _
 exact I1.Ol f (I1.AJ.fresh f)⟩
variable{prog:Program}{A:Around}{E:Value->Shared->Prop}
variable{R:Result->Shared->Prop}{wr:List Addr}{G:Array GenState->Array GenState->Prop}{P:Nat->Value->Prop}{St:Nat->Shared->Prop}
theorem Inv.drew(I:Inv X Zy Z H s)(d:Drawn):Inv X Zy Z H { s with drawn:=d }:=
 I.step (h':=s.heap) (g':=s.gens) (t':=s.toks) (d':=d) (ch:=[]) (λ_ z=>nomatch z) (λb o _ _ _ e _=>e) (λb o _ _ _ e _=>⟨o.slots,e⟩) (λ_ _ _ _ n=>n) (λb o _ e=>⟨o,e⟩) (λ_ _ e=>e) (λ_ _ _ e=>e) (λb ps e=>⟨#[],by rw[e];simp⟩) (λm a=>a) I.AJ I.bare
theorem r6{l:Addr}(a:IsTup s.heap l vs.toArray)(h:Q vs { s with heap:=(s.heap.push (seqObj "list" #[] 0)).update s.heap.objs.size (Obj.mapSeq (·++vs.toArray)) })(hsz:vs.length<=sizeLine):
  wpAny (model prog w) A (collect (.ref l)) Q E s:=by
 obtain⟨o,ho,b,n,hd⟩:=id a;unfold collect;refine oS (wpAny_runValue (ZAO entry_proto_collect' ?_));show wpAny _ _ (newList [] >>= λx=>again (.builtin "list.__iadd__" ⟨[x,.ref l],[]⟩)) _ _ s;refine oS (ZAW ?_);refine qh ⟨nc _ (by decide +kernel),ZAO entry_list_iadd' ?_⟩;show wpAny _ _ (Builtin.List.listExtendWith (.ref s.heap.objs.size) (.ref l) (.ref s.heap.objs.size)) _ _ { s with heap:=s.heap.push (seqObj "list" #[] 0) }
 unfold Builtin.List.listExtendWith;have g:(s.heap.push (seqObj "list" #[] 0)).get? l=some o:=Bb _ ho;refine oS (vS (T:="tuple") ⟨o,g,b⟩ ?_);rw[rG (by simp)];refine oS (listItems_at g hd ?_);refine oS (listItems_at (xs:=#[]) (n:=0) (CI _ rfl) rfl ?_);rw[qP (by simp)];refine oS (listUpdate_at (xs:=#[]) (n:=0) (CI _ rfl) rfl ?_ (Cn _) (by show(#[]++vs.toArray).size<=sizeLine+1;simp only[Array.size_append,C9,c5];omega));refine qh ?_;show wpAny (model prog w) A (load s.heap.objs.size >>= λo=>(match o.data with | .seq xs _=>pure xs.toList|_=>unsupported "internal:collect")) Q E _
 refine oS (wpAny_load (get?_update_seq (CI _ rfl) _) ?_);show wpAny _ _ (pure ((#[]:Array Value)++vs.toArray).toList) Q E _;have e:((#[]:Array Value)++vs.toArray).toList=vs:=by simp
 rw[e];exact qh h
theorem vi{v:Value}{Q:Value->Shared->Prop}
  (i:∀(A1:Around)(E1:Value->Shared->Prop)(Q1:List Value->Shared->Prop),A1.handled=A.handled->(∀vs s1,Pc vs s1->Q1 vs s1)->wpAny (model prog w) A1 (collect v) Q1 E1 s)
  (h:∀vs s1,Pc vs s1->vs.length<64/\∃ss,StrsAre vs ss/\∀out AN e h',(∀b o,s1.heap.get? b=some o->h'.get? b=some o)->h'.get? s1.heap.objs.size=some (seqObj "list" out e)->StrsAre out.toList AN->AN.Perm ss->sortedS AN=true->Q (.ref s1.heap.objs.size) { s1 with heap:=h' }) :
  wpAny (model prog w) A (call (.builtin "sorted") [v]) Q E s:=by
 refine ZH5 kind_sorted plain_sorted entry_sorted (args_sorted1 _) ?_;unfold Builtin.«sorted»;refine oS (m:=checkCount "sorted" 1 1 _) (qh ?_);refine oS (i _ _ _ rfl λvs s1 f=>?_);obtain⟨MQ,ss,Ft,k⟩:=h vs s1 f;refine oS (ZAW ?_);have a:(s1.heap.push (seqObj "list" vs.toArray 0)).get? s1.heap.objs.size=some (seqObj "list" vs.toArray 0):=CI _ rfl;refine oS (tu (ZA6 slot_list_sort ⟨_,a,rfl⟩ entry_list_sort (list_sort_treeK (s:={ s1 with heap:=s1.heap.push (seqObj "list" vs.toArray 0) }) strKind_oneLt a Ft.keysOf (λt r rest e=>keyKind_strs (by rw[<- e];exact Ft)) MQ λAF q p=>⟨_,rfl,?_⟩) (args_list_sort _)))
 obtain⟨AN,n,l,j⟩:=sorted_out_str Ft q p;obtain⟨e,g⟩:=sortedHeap_at (out:=(arrOf AF).map (·.2)) a
 refine qh ⟨_,rfl,k _ AN e _ (λb o c=>?_) g n l j⟩;have d:=BA c;rw[sortedHeap_old (Bn d) (by rw[Gd];exact L9 d)];exact Bb _ c
end
theorem lJ:∀{ss:List Str}{us:List Value},Vals (ss.map V.str) us->StrsAre us ss
 | [],_,.nil=>.nil
 |x::r,_,.cons ⟨t,e⟩ h=>by rw[e];exact .cons x t (lJ h)
theorem WZ:∀{ss:List Str}{us:List Value},StrsAre us ss->Vals (ss.map V.str) us
 |_,_,.nil=>.nil
 |_,_,.cons x t h=>.cons ⟨t,rfl⟩ (WZ h)
theorem yh{s1:Shared}{Q:VK}(I:Inv X Zy Z H s)(f:s1.gens=s.gens)(ho:s1.os=s.os)(d:∀b o,s.heap.get? b=some o->s1.heap.get? b=some o)(c:s.heap.objs.size<=s1.heap.objs.size)
  {out:Array Value}(kp:∀b o,s1.heap.get? b=some o->h'.get? b=some o) (g:h'.get? s1.heap.objs.size=some (seqObj "list" out e)) (i:StrsAre out.toList AN) (MQ:AN.length<64)
  (q:∀l,H l=none->Q (.ref l) (upd H l (.lst (AN.map V.str)))):EP X Zy Z Q (.ref s1.heap.objs.size) { s1 with heap:=h' }:=by
 obtain⟨h1,g1,j,h,k⟩:=s1;simp only at f ho d c kp g;subst f;subst ho;refine⟨.ref _,_,(I.drew j).laid (a:=h1.objs.size) (h':=h') (t':=h) (o:=.lst (AN.map V.str)) (λb o q=>kp b o (d b o q)) c ?_,rfl,q _ (I.AJ.fresh c)⟩;refine⟨?_,out.toList,e,WZ i,by simpa[seqObj]using g⟩
 rw[AL];exact Bg (OK MQ) (by decide +kernel)
def Vi(K:ZIV):List V->Hp->VK->Prop:=λxs H Q=>∃(p:Addr)(tp:Bool)(ss:List Str),xs=[.ref p]/\Es K tp H p (ss.map V.str)/\ss.length<64/\∀l AN,H l=none->AN.Perm ss->sortedS AN=true->Q (.ref l) (upd H l (.lst (AN.map V.str)))
theorem Rb:DW X (.builtin "sorted") (Vi X.K):=by
 intro Zy s Z H xs us Q I r h;obtain⟨p,tp,ss,rfl,d,MQ,q⟩:=h;obtain⟨u,rfl,i⟩:=vals1 r;cases i;have key:∀A5:List Value,Vals (ss.map V.str) A5->(∀(A1:Around)(E1:Value->Shared->Prop)(Q1:List Value->Shared->Prop),Q1 A5 { s with heap:=(s.heap.push (seqObj "list" #[] 0)).update s.heap.objs.size (Obj.mapSeq (·++A5.toArray)) }->wpAny (model X.prog X.w) A1 (collect (.ref p)) Q1 E1 s)->
   wpAny (model X.prog X.w) X.A (call (.builtin "sorted") [.ref p]) (EP X Zy Z Q) X.xe s:=by
  intro A5 c ZCq;have a:=c.length;rw[AL]at a;refine vi (Pc:=λvs s1=>vs=A5/\s1={ s with heap:=(s.heap.push (seqObj "list" #[] 0)).update s.heap.objs.size (Obj.mapSeq (·++A5.toArray)) }) (λA1 E1 Q1 _ k=>ZCq A1 E1 Q1 (k _ _ ⟨rfl,rfl⟩)) ?_
  rintro vs s1⟨rfl,rfl⟩;refine⟨by omega,ss,lJ c,λout AN e h' kp t v f m=>?_⟩;refine yh (s1:={ s with heap:=(s.heap.push (seqObj "list" #[] 0)).update s.heap.objs.size (Obj.mapSeq (·++vs.toArray)) }) I rfl rfl (λb o g=>?_) (by show s.heap.objs.size<=((s.heap.push (seqObj "list" #[] 0)).update s.heap.objs.size (Obj.mapSeq (·++vs.toArray))).objs.size;rw[ng,Gd];exact FZ _) kp t v (by rw[f.length_eq];exact MQ) λl n=>q l AN n f m
  show((s.heap.push _).update _ _).get? b=some o;rw[Heap.get?_update_ne _ _ _ _ (Bn (BA g))];exact Bb _ g
 cases tp with
 |false=>
  obtain⟨A5,c,pl,j⟩:=I.list d;have a:=c.length;exact key A5 c λA1 E1 Q1 k=>collect_list pl.isList k (by omega)
 |true=>
  obtain⟨A5,c,pl,j⟩:=I.tuple d;have a:=c.length;exact key A5 c λA1 E1 Q1 k=>r6 pl k (by omega)
end L2
namespace MA
noncomputable def Py:Nat->Nat->List Nat
 | 0,n=>[97+n]
 |k+1,n=>if n<26 then[97+n]else(97+n % 26)::Py k (n / 26)
theorem Lb:∀(k:Nat){n:Nat},n<26->Py k n=[97+n]
 | 0,_,_=>rfl
 |_+1,_,h=>rG h
theorem kq:∀(k j n:Nat),n<=k->n<=j->Py k n=Py j n
 | 0,j,n,h,_=>by rw[Lb 0 (IK h (by decide)),Lb j (IK h (by decide))]
 |k+1,0,n,_,h=>by rw[Lb (k+1) (IK h (by decide)),Lb 0 (IK h (by decide))]
 |k+1,j+1,n,h1,h2=>by
  by_cases c:n<26
  .rw[Lb _ c,Lb _ c]
  .have d:n / 26<n:=Nat.div_lt_self (De (by decide) (ZHR c)) (by decide);show(if n<26 then _ else _)=(if n<26 then _ else _)
   rw[qP c,qP c,kq k j (n / 26) (oA (De d h1)) (oA (De d h2))]
def lets(n:Nat):List Nat:=Py n n
noncomputable def vals:List Nat->Nat
 | []=>0
 |c::r=>(c - 97)+26 * vals r
theorem Nb{n:Nat}(h:n<26):lets n=[97+n]:=Lb n h
theorem Ou{n:Nat}(h:¬ n<26):lets n=(97+n % 26)::lets (n / 26):=by
 cases n with
 |zero=>exact absurd (by decide) h
 |succ k=>
  have d:(k+1) / 26<k+1:=Nat.div_lt_self (Nat.succ_pos k) (by decide);show(if k+1<26 then _ else _)=_
  rw[qP h,kq k ((k+1) / 26) ((k+1) / 26) (oA d) (Az _)];rfl
theorem jk:∀n,vals (lets n)=n:=by
 intro n
 induction n using Nat.strongRecOn with
 |_ n a=>
  by_cases h:n<26
  .rw[Nb h];simp[vals]
  .rw[Ou h];have:=a (n / 26) (by omega);simp only[vals,this];omega
theorem v7{a b:Nat}(h:lets a=lets b):a=b:=by rw[<- jk a,h,jk]
theorem X6(n:Nat):1<=(lets n).length:=by
 by_cases h:n<26
 .rw[Nb h];simp
 .rw[Ou h];simp
theorem SW:∀(k n:Nat),n<26 ^ (k+1)->(lets n).length<=k+1
 | 0,n,h=>by rw[Nb (by simpa using h)];simp
 |k+1,n,h=>by
  by_cases h1:n<26
  .rw[Nb h1];simp
  .rw[Ou h1];have:=SW k (n / 26) (by rw[Nat.pow_succ]at h;exact Nat.div_lt_of_lt_mul (by rw[Nat.mul_comm];exact h));simp only[Ca];omega
theorem xM:∀n,∀c∈lets n,97<=c/\c<=122:=by
 intro n
 induction n using Nat.strongRecOn with
 |_ n b=>
  by_cases h:n<26
  .rw[Nb h];intro c a;simp at a;omega
  .rw[Ou h];intro c a;rcases List.mem_cons.mp a with e|e
   .omega
   .exact b (n / 26) (by omega) c e
theorem ka{α:Type}[DecidableEq α]:∀(k:Nat)(f:Nat->α)(l:List α),(∀i j,i<k->j<k->f i=f j->i=j)->(∀i,i<k->f i∈l)->k<=l.length
 | 0,_,_,_,_=>Cn _
 |k+1,f,l,hi,hm=>by
  have h1:=hm k (cA k);have:=ka k f (l.erase (f k)) (λi j a b e=>hi i j (by omega) (by omega) e) (λi a=>by
   have c:f i≠f k:=λe=>by have:=hi i k (by omega) (by omega) e;omega
   exact(ZHO c).mpr (hm i (by omega)))
  rw[ZHK h1]at this;have d:=ZHL h1;omega
end MA
namespace Lw
open L2
variable{a l p:Addr}{H H' H2:Hp}{xs:List V}{o:HO}{α:Type}{hi i m n:Nat}{ns ss:List Str}{x y z:Str}{j r:Int}{A B c:Prop}
def Bz(H:Hp)(p:Addr):Prop:=∃a b:Int,H p=some (.lst [.int a,.int b])/\0<=a/\a<10 ^ 256/\0<=b/\b<2147483647
structure Bl (p:Addr) (H H':Hp):Prop where
 AV:Bz H' p
 same:HJ p H H'
theorem Bl.trans{H1:Hp}(a:Bl p H H1)(b:Bl p H1 H2):Bl p H H2:=⟨b.AV,a.same.trans b.same⟩
theorem Bl.of(h:Bz H p)(s:AB H H'):Bl p H H':=by
 obtain⟨a,b,e,r⟩:=h;exact⟨⟨a,b,s _ _ e,r⟩,HJ.of s⟩
theorem Bl.Qc{K:ZIV}(s:Bl p H H')(h:Ac K H a xs)(BZ:a≠p):Ac K H' a xs:=by
 rcases h with(h|⟨o,h⟩)|h
 .exact .inl (.inl (s.same _ _ BZ h))
 .exact .inl (.inr ⟨o,s.same _ _ BZ h⟩)
 .exact .inr h
theorem Bl.at'(s:Bl p H H')(h:H a=some o)(BZ:a≠p):H' a=some o:=s.same _ _ BZ h
theorem N6{a:Int}(c:-(10 ^ 20)<a)(h1:a<10 ^ 20):a.natAbs<2 ^ 1000:=by
 have b:a.natAbs<10 ^ 20:=by omega
 exact oF b (by decide +kernel)
def Q8(K:ZIV):Sp:=λvs H Q _=>∃(a:Addr)(ns:List Int)(k:Int),vs=[.ref a,.int k]/\Ac K H a (ns.map V.int)/\0<=k/\k<=1000/\∀p H',H p=none->AB H H'->Bz H' p->Q (.ref p) H'
def Hc:Sp:=λvs H Q _=>∃(p:Addr)(m:Int),vs=[.ref p,.int m]/\Bz H p/\0<m/\m<10 ^ 18/\∀r H',0<=r->r<m->Bl p H H'->Q (.int r) H'
noncomputable def DM(l:List Nat):Str:=⟨l.toArray⟩
def eM:Sp:=λvs H Q _=>∃r:Int,vs=[.int r]/\0<=r/\r<26 ^ 8/\∀H',AB H H'->Q (.str (DM (MA.lets r.toNat))) H'
theorem QL{xs:List α}{k:Int}{v:α}(b:0<=k)(h:xs[k.toNat]?=some v):Bp xs k=some v:=by
 have a:k=((k.toNat:Nat):Int):=by omega
 have q:=Kr h;rw[<- a]at q;exact q
noncomputable abbrev Iq:Str:="abcdefghijklmnopqrstuvwxyz"
theorem ZCZ:∀j,j<26->Iq.cps.toList[j]?=some (97+j):=by decide +kernel
theorem dQ{k:Int}(a:0<=k)(h1:k<26):Bp Iq.cps.toList k=some (97+k.toNat):=QL a (ZCZ _ (by omega))
theorem kE(l:List Nat)(c:Nat):DM l++(⟨#[c]⟩:Str)=DM (l++[c]):=by
 show(⟨l.toArray++#[c]⟩:Str)=⟨(l++[c]).toArray⟩;simp
theorem Ro(l:List Nat):(DM l).length=l.length:=by simp[DM,Str.length]
theorem cO{l:List Nat}:(V.str (DM l)=V.str (Str.ofString ""))↔l=[]:=by
 constructor
 .intro h;injection h with h
  have h2:=tq (λx=>x.cps.toList) h;have e:(Str.ofString "").cps.toList=[]:=by decide +kernel
  rw[e]at h2
  simpa[DM]using h2
 .rintro rfl;rfl
theorem small(h:n<=100000):n<=sizeLine:=Bg h (by decide +kernel)
theorem mz{k:Nat}{pre:List Nat}(h:pre++MA.lets k=MA.lets n):(0<k / 26->(pre++[97+k % 26])++MA.lets (k / 26)=MA.lets n)/\(k / 26=0->pre++[97+k % 26]=MA.lets n):=by
 constructor
 .intro h1;rw[MA.Ou (by omega)]at h;rw[<- h,C4];rfl
 .intro h1;have h2:k<26:=by omega
  rw[MA.Nb h2]at h;rw[<- h,Nat.mod_eq_of_lt h2]
def Nm(x:Str):Prop:=1<=x.length/\x.length<=8/\∀c∈x.cps.toList,97<=c/\c<=122
instance (x:Str):Decidable (Nm x):=by unfold Nm;exact inferInstance
theorem Hs(x:Str):x.length=x.cps.toList.length:=by simp[Str.length]
theorem b6(h:n<26 ^ 8):Nm (DM (MA.lets n)):=by
 refine⟨by rw[Ro];exact MA.X6 n,by rw[Ro];exact MA.SW 7 n h,λc a=>MA.xM n c (by simpa[DM]using a)⟩
noncomputable def menu:List Str:=["put","take","none","ahead","all","over","next","a","ab","abc","abcdefgh","b","step"]
theorem ZAa:∀x∈menu,Nm x:=by decide +kernel
noncomputable def UO:List V:=[.str "put",.str "take",.str "none",.str "ahead",.str "all",.str "over",.str "next",.str "a",.str "ab",.str "abc",.str "abcdefgh",.str "b",.str "step"]
theorem ud{i:Int}(a:0<=i)(h1:i<13):∃x,Bp UO i=some (.str x)/\Nm x:=by
 have b:menu.length=13:=rfl;have hi:i.toNat<menu.length:=by omega
 have e:UO=menu.map V.str:=rfl;refine⟨menu[i.toNat],QL a ?_,ZAa _ (MX hi)⟩;rw[e,Bc,BG hi];rfl
theorem W7{i:Int}(a:0<=i)(h1:i<ns.length):∃x,Bp (ns.map V.str) i=some (.str x)/\x∈ns/\ns[i.toNat]?=some x:=by
 have hi:i.toNat<ns.length:=by omega
 exact⟨ns[i.toNat],QL a (by rw[Bc,BG hi];rfl),MX hi,BG hi⟩
theorem JC(ns:List Str):(ns.map V.str).all Ec=true:=by
 rw[L6];intro x hx;obtain⟨y,_,rfl⟩:=List.mem_map.mp hx;rfl
theorem U3(x:Str)(ns:List Str):GI (.str x) (ns.map V.str)=decide (x∈ns):=by
 unfold GI;rw[OD,List.any_eq_true,ZAR];constructor
 .rintro⟨v,b,h⟩;obtain⟨y,a,rfl⟩:=List.mem_map.mp b;have h':(y == x)=true:=h;have:y=x:=by simpa using h'
  rw[<- this];exact a
 .intro h;exact⟨.str x,List.mem_map.mpr ⟨x,h,rfl⟩,by show(x == x)=true;simp⟩
theorem YK(xs:List V):Gs xs []=decide (xs=[]):=by
 cases xs with
 |nil=>rfl
 |cons x r=>rw[Nv (by simp)];simp
theorem vI(h:x.cps.toList=y.cps.toList):x=y:=by
 cases x;cases y;simp only[Str.mk.injEq];exact Array.toList_inj.mp h
theorem ZDV(z:Str){a b:Nat}{lo hi:Option Int}(E5:a<=b)(c:b<=z.length)(e:Builtin.Str.strSliceIndices lo hi 1 z.length=Builtin.Str.strSliceIndices (some (a:Int)) (some (b:Int)) 1 z.length):
  (Txt.slice z lo hi).cps.toList=(z.cps.toList.drop a).take (b - a):=by
 have q:=StrLaws.sliced_plain z E5 c;rw[<- e]at q;unfold Txt.slice;split
 .rename_i h;have d:(Builtin.Str.strSliceIndices lo hi 1 z.length).length=z.length:=by simpa using h
  rw[e,StrLaws.strSliceIndices_plain E5 c,AL,List.length_range]at d;have h1:a=0:=by omega
  have h2:b=z.length:=by omega
  subst h1;subst h2;rw[bp,cD,Hs,MY]
 .rw[<- q]
theorem wL(h:0<=j):max (0:Int) (min j (n:Int))=max 0 (min ((min j.toNat n:Nat):Int) (n:Int)):=by
 have e:((min j.toNat n:Nat):Int)=min j n:=by
  rcases Qz j.toNat n with c|c
  .rw[Jn c,nh h,Int.min_eq_left (by have:=Int.ofNat_le.mpr c;rw[nh h]at this;exact this)]
  .rw[R0 c,Int.min_eq_right (by have:=Int.ofNat_le.mpr c;rw[nh h]at this;exact this)]
 rw[e,Int.min_assoc,Int.min_self]
theorem ZEZ(z:Str)(h:0<=j):(Txt.slice z none (some j)).cps.toList=z.cps.toList.take j.toNat:=by
 have e:=ZDV z (a:=0) (b:=min j.toNat z.length) (lo:=none) (hi:=some j) (Cn _) (ZHS _ _) (by
  have h1:¬ j<0:=by omega
  have h2:¬ (((min j.toNat z.length:Nat):Int)<0):=Int.not_lt.mpr (ZH7 _);have c:max (0:Int) (min j (z.length:Int))=max 0 (min ((min j.toNat z.length:Nat):Int) (z.length:Int)):=wL h;simp only[Builtin.Str.strSliceIndices,h1,h2,ZAQ,c];rfl)
 rw[e,bp,cD];rcases Qz j.toNat z.length with h1|h1
 .rw[Jn h1]
 .rw[R0 h1,Hs,MY,OJ (by rw[<- Hs];exact h1)]
theorem dM(h:1<=j)(d:j<=8)(b:1<=z.length)(a:∀c∈z.cps.toList,97<=c/\c<=122):Nm (Txt.slice z none (some j)):=by
 have e:=ZEZ z (j:=j) (by omega);refine⟨?_,?_,λc LG=>a c ?_⟩
 .rw[Hs,e,DO,<- Hs];omega
 .rw[Hs,e,DO];omega
 .rw[e]at LG;exact o9 LG
theorem jm(x y:Str):(x++y).cps.toList=x.cps.toList++y.cps.toList:=by
 show(x.cps++y.cps).toList=_;simp
theorem dE(x y:Str):(x++y).length=x.length+y.length:=by rw[Hs,jm,CK,<- Hs,<- Hs]
def O6(K:ZIV):Sp:=λvs H Q _=>∃(p q:Addr)(ns:List Str),vs=[.ref p,.ref q]/\Bz H p/\H q=some (.lst (ns.map V.str))/\q≠p/\(∀x∈ns,Nm x)/\ns.length<=1000/\∀x H',Nm x->x∉ns->Bl p H H'->Q (.str x) H'
theorem ZAU{k:Nat}(h:∀j,j<k->DM (MA.lets j)∈ns):k<=ns.length:=
 MA.ka k (λj=>DM (MA.lets j)) ns (λi j _ _ e=>MA.v7 (by
  have:=tq (λx=>x.cps.toList) e
  simpa[DM]using this)) h
theorem qd:1000<26 ^ 8:=by decide +kernel
theorem yB:(1000:Int)<26 ^ 8:=by decide +kernel
theorem ZBa:(26:Int) ^ (8:Int).toNat - 26<26 ^ 8:=by decide +kernel
theorem rR:(26:Int)<26 ^ 8:=by decide +kernel
theorem sO:(0:Int)<26 ^ (8:Int).toNat - 26:=by decide +kernel
theorem pQ:(26:Int) ^ (8:Int).toNat - 26<10 ^ 18:=by decide +kernel
theorem jX(a:0<=r)(h:r<26 ^ 8):r.toNat<26 ^ 8:=by omega
theorem Bl.upd(s:Bl p H H2)(h:H l=none)(BZ:l≠p):Bl p H (upd H2 l o):=by
 obtain⟨a,b,e,r⟩:=s.AV;refine⟨⟨a,b,by rw[AY (BN BZ)];exact e,r⟩,λc u d q=>?_⟩;rw[AY (DH q h)];exact s.same c u d q
theorem Bl.none(s:Bl p H H2)(h:H2 l=none):H l=none:=by
 cases q:H l with
 |none=>rfl
 |some o=>
  by_cases e:l=p
  .obtain⟨a,b,c,_⟩:=s.AV;rw[<- e,h]at c;cases c
  .rw[s.same l o e q]at h;cases h
theorem Bz.ne(h:Bz H p)(a:H l=none):l≠p:=by
 obtain⟨_,_,e,_⟩:=h;exact(DH e a).symm
theorem AB.none(s:AB H H2)(h:H2 l=none):H l=none:=by
 cases q:H l with
 |none=>rfl
 |some o=>rw[s l o q]at h;cases h
def gN:Sp:=λvs H Q _=>∃(p:Addr)(m:Int),vs=[.ref p,.int m]/\Bz H p/\0<=m/\m<=100/\
 ∀l H'(ns:List Str),H l=none->Bl p H H'->H' l=some (.lst (ns.map V.str))->(ns.length:Int)=m->(∀x∈ns,Nm x)->ns.Nodup->Q (.ref l) H'
def YS:Sp:=λvs H Q _=>∃(p:Addr)(m:Int),vs=[.ref p,.int m]/\Bz H p/\1<=m/\m<=100/\
 ∀l H'(ns:List Str),H l=none->Bl p H H'->H' l=some (.lst (ns.map V.str))->(ns.length:Int)<=m->(∀x∈ns,Nm x)->ns.Nodup->Q (.ref l) H'
theorem Rf{l:List α}{x:α}(h:l.Nodup)(hx:x∉l):(l++[x]).Nodup:=by
 rw[Ct];exact⟨h,by simp,λa d b c=>by
  have:b=x:=by simpa using c
  subst this;rintro rfl;exact hx d⟩
theorem zW{m:Int}(b:0<=j)(h1:j<3)(a:1<=m):∃k:Int,Bp [V.int 0,V.int 1,V.int m] j=some (.int k)/\0<=k/\k<=m:=by
 have:j=0∨j=1∨j=2:=by omega
 rcases this with rfl|rfl|rfl
 .exact⟨0,rfl,by omega,by omega⟩
 .exact⟨1,rfl,by omega,by omega⟩
 .exact⟨m,rfl,by omega,by omega⟩
noncomputable def LI(c:Nat):Bool:=!(Builtin.Str.occurrences Iq ⟨#[c]⟩ 0 Iq.length 1).isEmpty
def isNm(x:Str):Bool:=decide ((1:Int)<=x.length) && (decide ((x.length:Int)<=8) && x.cps.toList.all LI)
def MR:Sp:=λvs H Q _=>∃x:Str,vs=[.str x]/\x.length<=1000/\∀H',AB H H'->Q (.bl (isNm x)) H'
theorem qg(l:List α):l.filter (λ_=>true)=l:=List.filter_eq_self.mpr λ_ _=>rfl
noncomputable def bE:V->V
 | .str y=>.bl (!(Builtin.Str.occurrences Iq y 0 Iq.length 1).isEmpty)
 |_=>.bl false
theorem iF(x:Str):((HL x).filter (λ_=>true)).map bE=(x.cps.toList.map LI).map V.bl:=by
 unfold HL;rw[qg,Qw,Qw];rfl
theorem signs_get{v:V}(h:(HL x)[i]?=some v):∃c,v=.str ⟨#[c]⟩:=by
 unfold HL at h;rw[Bc]at h;cases q:x.cps.toList[i]? with
 |none=>rw[q]at h;cases h
 |some c=>rw[q]at h;simp at h;exact⟨c,h.symm⟩
theorem all_map(f:α->Bool)(l:List α):(l.map f).all id=l.all f:=by rw[List.all_map];rfl
theorem LS{v:V}(h:(ss.map V.str)[i]?=some v):∃x,v=.str x/\x∈ss:=by
 rw[Bc]at h;cases q:ss[i]? with
 |none=>rw[q]at h;cases h
 |some x=>rw[q]at h;simp at h;exact⟨x,h.symm,EI q⟩
theorem vq(xs:List Str):Gs (xs.map V.str) (xs.map V.str)=true:=by
 rw[O3 rfl,L6];intro j a;have b:j<xs.length:=by simpa using a
 have e:(xs.map V.str)[j]?=some (.str xs[j]):=by rw[Bc,BG b];rfl
 rw[Oe e];show(xs[j] == xs[j])=true;simp
theorem y3(K:ZIV)(t:String):PySem.W.kitOne K (.type t) (.type t)=some true:=by
 unfold PySem.W.kitOne;rw[rG (by simp)]
def PL(K:ZIV):Sp:=λvs H Q _=>∃(a:Addr)(ns:List Int),vs=[.ref a]/\Ac K H a (ns.map V.int)/\ns.length<=63/\∀H',Q (.bl true) H'
inductive Af where
 |put (x:Str) (i:Nat)|take (x:Str)|move (x:Str) (i:Nat)|turn (lo hi:Nat)
noncomputable def Af.vals:Af->List V
 | .put x i=>[.str "put",.str x,.int i]
 | .take x=>[.str "take",.str x]
 | .move x i=>[.str "move",.str x,.int i]
 | .turn lo hi=>[.str "turn",.int lo,.int hi]
def Af.Ok(m:Nat)(ns:List Str):Af->Prop
 | .put x i=>Nm x/\x∉ns/\i<=ns.length/\ns.length<m
 | .take x=>x∈ns
 | .move x i=>x∈ns/\i<ns.length
 | .turn lo hi=>lo<=hi/\hi<=ns.length
noncomputable def ins(ns:List Str)(x:Str)(i:Nat):List Str:=ns.take i++x::ns.drop i
def wo(ns:List Str)(x:Str):List Str:=ns.filter λy=>!decide (y=x)
noncomputable def Fq(ns:List Str)(lo hi:Nat):List Str:=ns.take lo++((ns.drop lo).take (hi - lo)).reverse++ns.drop hi
def Af.done(ns:List Str):Af->List Str
 | .put x i=>ins ns x i
 | .take x=>wo ns x
 | .move x i=>ins (wo ns x) x i
 | .turn lo hi=>Fq ns lo hi
theorem Rm(h:x∉ns):wo ns x=ns:=by
 unfold wo;rw[ZHG];intro y a;have:y≠x:=λe=>h (e▸a);simp[this]
theorem Jt:y∈wo ns x↔y∈ns/\y≠x:=by
 unfold wo;rw[o8];simp
theorem dm(h:ns.Nodup):(wo ns x).Nodup:=h.filter _
theorem ZBy(as bs:List Str)(x:Str):wo (as++bs) x=wo as x++wo bs x:=by unfold wo;rw[br]
theorem ZGg(bs:List Str)(x:Str):wo (x::bs) x=wo bs x:=by unfold wo;rw[bu];simp
theorem ak(h:x∈ns):ns=ns.take (ns.idxOf x)++x::ns.drop (ns.idxOf x+1):=by
 have a:ns.idxOf x<ns.length:=List.idxOf_lt_length_iff.mpr h;have e:ns[ns.idxOf x]=x:=bx a
 conv=>lhs;rw[<- L8 (ns.idxOf x) ns,ni a,e]
theorem rm(h:x∈ns):x∉ns.take (ns.idxOf x):=by
 intro a;obtain⟨m,Iv,e⟩:=List.mem_iff_getElem.mp a;rw[DO]at Iv;rw[List.getElem_take]at e;exact Zd x ns m (by omega) (by omega) e
theorem ZBO(h:x∈ns)(nd:ns.Nodup):x∉ns.drop (ns.idxOf x+1):=by
 rw[ak h]at nd;have h2:=(List.nodup_append.mp nd).2.1;exact(List.nodup_cons.mp h2).1
theorem ZEN(h:x∈ns)(nd:ns.Nodup):wo ns x=ns.take (ns.idxOf x)++ns.drop (ns.idxOf x+1):=by
 conv=>lhs;rw[ak h]
 rw[ZBy,ZGg,Rm (rm h),Rm (ZBO h nd)]
theorem Q5(h:x∈ns)(nd:ns.Nodup):(wo ns x).length+1=ns.length:=by
 have a:ns.idxOf x<ns.length:=List.idxOf_lt_length_iff.mpr h;rw[ZEN h nd,CK,DO,Ge];omega
theorem T4:(ins ns x i).length=ns.length+1:=by
 unfold ins;rw[CK,Ca,DO,Ge];omega
theorem Rc:y∈ins ns x i↔y=x∨y∈ns:=by
 unfold ins;rw[J7,HZ];have:y∈ns↔y∈ns.take i∨y∈ns.drop i:=by rw[<- J7,L8]
 rw[this];constructor
 .rintro(h|h|h)
  .exact .inr (.inl h)
  .exact .inl h
  .exact .inr (.inr h)
 .rintro(h|h|h)
  .exact .inr (.inl h)
  .exact .inl h
  .exact .inr (.inr h)
theorem W0(h:ns.Nodup)(hx:x∉ns):(ins ns x i).Nodup:=by
 unfold ins;have e:(ns.take i++ns.drop i).Nodup:=by rw[L8];exact h
 obtain⟨h1,h2,f⟩:=List.nodup_append.mp e;rw[Ct];refine⟨h1,List.nodup_cons.mpr ⟨λz=>hx (ZHP z),h2⟩,λa c b d=>?_⟩;rcases List.mem_cons.mp d with z|z
 .rw[z];rintro rfl;exact hx (o9 c)
 .exact f a c b z
theorem kU{lo:Nat}(h1:lo<=hi)(h2:hi<=ns.length):(Fq ns lo hi).length=ns.length:=by
 unfold Fq;rw[CK,CK,Qu,DO,DO,Ge,Ge];omega
theorem iA{lo:Nat}(h1:lo<=hi):ns=ns.take lo++(ns.drop lo).take (hi - lo)++ns.drop hi:=by
 have:ns.drop hi=(ns.drop lo).drop (hi - lo):=by rw[List.drop_drop];congr 1;omega
 rw[this,C4,L8,L8]
theorem jG{lo:Nat}(h1:lo<=hi):y∈Fq ns lo hi↔y∈ns:=by
 conv=>rhs;rw[iA (ns:=ns) h1]
 unfold Fq;simp only[J7,List.mem_reverse]
theorem ZEB{lo:Nat}(h1:lo<=hi)(nd:ns.Nodup):(Fq ns lo hi).Nodup:=by
 have p:List.Perm (Fq ns lo hi) ns:=by
  conv=>rhs;rw[iA (ns:=ns) h1]
  unfold Fq;exact((List.reverse_perm _).append_left _).append_right _
 exact p.nodup_iff.mpr nd
theorem Af.step{d:Af}(h:d.Ok m ns)(nd:ns.Nodup)(b:∀x∈ns,Nm x)(c:ns.length<=m):
  (d.done ns).Nodup/\(∀x∈d.done ns,Nm x)/\(d.done ns).length<=m:=by
 cases d with
 |put x i=>
  obtain⟨h1,h2,g,f⟩:=h;refine⟨W0 nd h2,λy a=>?_,?_⟩
  .rcases Rc.mp a with e|e
   .rw[e];exact h1
   .exact b y e
  .show(ins ns x i).length<=m;rw[T4];omega
 |take x=>
  refine⟨dm nd,λy a=>b y (Jt.mp a).1,?_⟩;have:=Q5 h nd;show(wo ns x).length<=m;omega
 |move x i=>
  obtain⟨h1,h2⟩:=h;refine⟨W0 (dm nd) (λz=>(Jt.mp z).2 rfl),λy a=>?_,?_⟩
  .rcases Rc.mp a with e|e
   .rw[e];exact b x h1
   .exact b y (Jt.mp e).1
  .have:=Q5 h1 nd;show(ins (wo ns x) x i).length<=m;rw[T4];omega
 |turn lo hi=>
  obtain⟨h1,h2⟩:=h;exact⟨ZEB h1 nd,λy a=>b y ((jG h1).mp a),by show(Fq ns lo hi).length<=m;rw[kU h1 h2];exact c⟩
theorem eJ(xs:List V)(i:Nat):Cp xs none (some (i:Int))=xs.take i:=by
 unfold Cp;rw[HT.SR,HT.Ky,bp,cD];rcases Qz i xs.length with h|h
 .rw[Jn h]
 .rw[R0 h,MY,OJ h]
theorem ik(xs:List V)(i:Nat):Cp xs (some (i:Int)) none=xs.drop i:=by
 unfold Cp;rw[HT.SR,HT.Ky];rcases Qz i xs.length with h|h
 .rw[Jn h,OJ (by rw[Ge];omega)]
 .rw[R0 h,oG,List.take_zero,ZHD h]
theorem qR(xs:List V){j:Nat}(hi:i<=j)(a:j<=xs.length):Cp xs (some (i:Int)) (some (j:Int))=(xs.drop i).take (j - i):=by
 unfold Cp;rw[HT.Ky,HT.Ky,Jn a,Jn (Bg hi a)]
noncomputable def Hk(tp:Bool)(xs:List V):HO:=match tp with
 |false=>.lst xs
 |true=>.tup xs
theorem Hk.sq{K:ZIV}{tp:Bool}(h:H a=some (Hk tp xs)):Es K tp H a xs:=by
 cases tp
 .exact Ac.of h
 .exact AS.of h
def ZFF(H:Hp)(Q:VK)(ns:List Str):Prop:=∀l H',H l=none->AB H H'->H' l=some (.lst (ns.map V.str))->Q (.ref l) H'
def XC:Sp:=λvs H Q _=>∃(a t:Addr)(ns:List Str)(d:Af),vs=[.ref a,.ref t]/\H a=some (.lst (ns.map V.str))/\H t=some (.tup d.vals)/\d.Ok 40 ns/\ns.length<=40/\ns.Nodup/\ZFF H Q (d.done ns)
theorem WS[Decidable c](h:c)(a:A):if c then A else B:=by rw[rG h];exact a
theorem B4[Decidable c](h:¬ c)(b:B):if c then A else B:=by rw[qP h];exact b
theorem ZAE:∀j,j<26->LI (97+j)=true:=by decide +kernel
theorem u6(h:Nm x):isNm x=true:=by
 obtain⟨h1,h2,f⟩:=h;unfold isNm;rw[oW (by omega),oW (by omega),bg,bg,L6];intro c d;obtain⟨a,b⟩:=f c d;have:=ZAE (c - 97) (by omega);have e:97+(c - 97)=c:=by omega
 rw[e]at this;exact this
theorem IC(ns:List Str):(ns.map V.str).length=ns.length:=AL _
noncomputable def J1(y:V):V->Bool:=λv=>!decide (v=y)
theorem Ph(ns:List Str)(x:Str):((ns.map V.str).filter (J1 (.str x))).map (λv=>v)=(wo ns x).map V.str:=by
 unfold wo J1;rw[o6,nq]
 congr 1
 apply ZHF;intro y _;simp
theorem zN(ns:List Str)(i:Int):((ns.map V.str).filter (J1 (.int i))).map (λv=>v)=ns.map V.str:=by
 unfold J1;rw[o6,ZHG];intro v a;obtain⟨y,_,rfl⟩:=List.mem_map.mp a;rfl
theorem jn(s:AB H H')(h:H l=none):AB H (upd H' l o):=λb u q=>by rw[AY (DH q h)];exact s b u q
theorem ZF2(K:ZIV):PySem.W.kitOne K (.type "int") (.type "bool")=some false:=by
 unfold PySem.W.kitOne;rw[qP (by decide)];with_unfolding_all rfl
end Lw
namespace Fz
open L2 Lw
variable{F F' H H':Hp}{v:V}{CY vs:List V}{i i0 j:Nat}{N ns:List Str}{t:TA}{a l:Addr}{r:List V->Hp->VK->Prop}{Z τ:L2.St}{o:HO}{ta tb tc te:TE}{b neg tp:Bool}{f:Int->Int->Int}{g:TG}{u:TS}{n:String}{X:XK}{wi:TI}{A:List Addr}{Q:VK}
inductive PV where
 |A8|bl (b:Bool)|int (i:Int)|str (x:Str)|lst (xs:List PV)|tup (xs:List PV)
 |B2 (ks:List Key) (xs:List PV)|obj (C:Addr) (ns:List Str) (xs:List PV)|exc (C:Addr) (ns:List Str) (xs:List PV)|con (a:Addr) (xs:List PV)
variable{p:PV}{ps xs:List PV}
noncomputable def Iu(a C:Addr)(dx:Option Addr):HO:=.ext λh=>∃ob vs,h.get? a=some ob/\ob.cls=.ref C/\ob.dict=dx/\ob.data=.fields vs
mutual
inductive Rep (F:Hp):V->PV->Prop where
 |A8:Rep F .A8 .A8
 |bl (b:Bool):Rep F (.bl b) (.bl b)
 |int (i:Int):Rep F (.int i) (.int i)
 |str (x:Str):Rep F (.str x) (.str x)
 |lst {a:Addr}{vs:List V}{xs:List PV}:F a=some (.lst vs)->Aa F vs xs->Rep F (.ref a) (.lst xs)
 |tup {a:Addr}{vs:List V}{xs:List PV}:F a=some (.tup vs)->Aa F vs xs->Rep F (.ref a) (.tup xs)
 |B2 {a:Addr}{ks:List Key}{vs:List V}{xs:List PV}:F a=some (.dK (ks.zip vs))->ks.length=vs.length->Aa F vs xs->Rep F (.ref a) (.B2 ks xs)
 |obj {a C dx:Addr}{ns:List Str}{vs:List V}{xs:List PV}:F a=some (.ins C dx (ns.zip vs))->F dx=some (.own a)->ns.length=vs.length->Aa F vs xs->Rep F (.ref a) (.obj C ns xs)
 |con {a:Addr}{xs:List PV}:Rep F (.ref a) (.con a xs)
 |OU {a C:Addr}:F a=some (Iu a C none)->Rep F (.ref a) (.exc C [] [])
 |exc {a C dx:Addr}{ns:List Str}{vs:List V}{xs:List PV}:F a=some (Iu a C (some dx))->F dx=some (.xd (ns.zip vs))->ns.length=vs.length->Aa F vs xs->Rep F (.ref a) (.exc C ns xs)
inductive Aa (F:Hp):List V->List PV->Prop where
 |nil:Aa F [] []
 |cons {v:V}{p:PV}{vs:List V}{ps:List PV}:Rep F v p->Aa F vs ps->Aa F (v::vs) (p::ps)
end
theorem Rep.mono(s:AB F F')(r:Rep F v p):Rep F' v p:=
 Rep.rec (motive_1:=λv p _=>Rep F' v p) (motive_2:=λvs ps _=>Aa F' vs ps) .A8 .bl .int .str (λh _ i=>.lst (s _ _ h) i) (λh _ i=>.tup (s _ _ h) i) (λh e _ i=>.B2 (s _ _ h) e i) (λh h2 e _ i=>.obj (s _ _ h) (s _ _ h2) e i) .con (λh=>.OU (s _ _ h)) (λh h2 e _ i=>.exc (s _ _ h) (s _ _ h2) e i) .nil (λ_ _ i k=>.cons i k) r
def ZBl(F:Hp)(v:V):PV->Prop
 | .A8=>v=.A8
 | .bl b=>v=.bl b
 | .int i=>v=.int i
 | .str x=>v=.str x
 | .lst xs=>∃a vs,v=.ref a/\F a=some (.lst vs)/\Aa F vs xs
 | .tup xs=>∃a vs,v=.ref a/\F a=some (.tup vs)/\Aa F vs xs
 | .B2 ks xs=>∃a vs,v=.ref a/\F a=some (.dK (ks.zip vs))/\ks.length=vs.length/\Aa F vs xs
 | .obj C ns xs=>∃a dx vs,v=.ref a/\F a=some (.ins C dx (ns.zip vs))/\F dx=some (.own a)/\ns.length=vs.length/\Aa F vs xs
 | .con a _=>v=.ref a
 | .exc C ns xs=>(∃a,v=.ref a/\F a=some (Iu a C none)/\ns=[]/\xs=[])∨∃a dx vs,v=.ref a/\F a=some (Iu a C (some dx))/\F dx=some (.xd (ns.zip vs))/\ns.length=vs.length/\Aa F vs xs
theorem Rep.inv(r:Rep F v p):ZBl F v p:=by
 cases r with
 |lst h r=>exact⟨_,_,rfl,h,r⟩
 |tup h r=>exact⟨_,_,rfl,h,r⟩
 |B2 h l r=>exact⟨_,_,rfl,h,l,r⟩
 |obj h h2 l r=>exact⟨_,_,_,rfl,h,h2,l,r⟩
 |OU h=>exact .inl ⟨_,rfl,h,rfl,rfl⟩
 |exc h h2 l r=>exact .inr ⟨_,_,_,rfl,h,h2,l,r⟩
 |_=>exact rfl
theorem Aa.inv(r:Aa F vs (p::ps)):∃v ws,vs=v::ws/\Rep F v p/\Aa F ws ps:=by
 cases r with
 |cons r t=>exact⟨_,_,rfl,r,t⟩
theorem Aa.DS(r:Aa F vs []):vs=[]:=by
 cases r;rfl
theorem Aa.mono(s:AB F F')(r:Aa F vs ps):Aa F' vs ps:=by
 induction ps generalizing vs with
 |nil=>cases r.DS;exact .nil
 |cons p ps c=>obtain⟨v,ws,rfl,a,b⟩:=r.inv;exact .cons (a.mono s) (c b)
theorem Aa.length{F:Hp}{vs:List V}{ps:List PV}(r:Aa F vs ps):vs.length=ps.length:=by
 induction ps generalizing vs with
 |nil=>cases r.DS;rfl
 |cons p ps c=>obtain⟨v,ws,rfl,a,b⟩:=r.inv;exact tq (· + 1) (c b)
theorem Aa.get{F:Hp}{vs:List V}{ps:List PV}{i:Nat}{p:PV}(r:Aa F vs ps)(e:ps[i]?=some p):∃v,vs[i]?=some v/\Rep F v p:=by
 induction ps generalizing vs i with
 |nil=>cases e
 |cons q ps c=>
  obtain⟨v,ws,rfl,a,b⟩:=r.inv;cases i with
  |zero=>cases e;exact⟨_,rfl,a⟩
  |succ i=>exact c (vs:=ws) (i:=i) b e
theorem Aa.get'(r:Aa F vs ps)(e:vs[i]?=some v):∃p,ps[i]?=some p/\Rep F v p:=by
 induction ps generalizing vs i with
 |nil=>cases r.DS;cases e
 |cons q ps c=>
  obtain⟨u,ws,rfl,a,b⟩:=r.inv;cases i with
  |zero=>cases e;exact⟨_,rfl,a⟩
  |succ i=>exact c (vs:=ws) (i:=i) b e
theorem Aa.append{ws:List V}{c:List PV}(r:Aa F vs ps)(s:Aa F ws c):Aa F (vs++ws) (ps++c):=by
 induction ps generalizing vs with
 |nil=>cases r.DS;exact s
 |cons p ps d=>obtain⟨v,us,rfl,a,b⟩:=r.inv;exact .cons a (d b)
theorem Aa.take(n:Nat)(r:Aa F vs ps):Aa F (vs.take n) (ps.take n):=by
 induction ps generalizing vs n with
 |nil=>cases r.DS;rw[List.take_nil,List.take_nil];exact .nil
 |cons p ps c=>
  obtain⟨v,us,rfl,a,b⟩:=r.inv;cases n with
  |zero=>exact .nil
  |succ n=>exact .cons a (c n b)
theorem Aa.drop(n:Nat)(r:Aa F vs ps):Aa F (vs.drop n) (ps.drop n):=by
 induction ps generalizing vs n with
 |nil=>cases r.DS;rw[List.drop_nil,List.drop_nil];exact .nil
 |cons p ps c=>
  cases n with
  |zero=>exact r
  |succ n=>obtain⟨v,us,rfl,a,b⟩:=r.inv;exact c n b
theorem Aa.one(r:Rep F v p):Aa F [v] [p]:=.cons r .nil
theorem Aa.reverse(r:Aa F vs ps):Aa F vs.reverse ps.reverse:=by
 induction ps generalizing vs with
 |nil=>cases r.DS;exact .nil
 |cons p ps c=>obtain⟨v,us,rfl,a,b⟩:=r.inv;rw[c7,c7];exact(c b).append (.one a)
noncomputable def flat:PV->Bool
 | .lst _=>false
 | .tup _=>false
 | .B2 _ _=>false
 | .obj _ _ _=>false
 | .exc _ _ _=>false
 | .con _ _=>false
 |_=>true
noncomputable def enc:PV->V
 | .bl b=>.bl b
 | .int i=>.int i
 | .str x=>.str x
 |_=>.A8
theorem Rep.enc(h:flat p=true)(r:Rep F v p):v=enc p:=by
 cases r <;> first|rfl|cases h
theorem ZC9(h:flat p=true):Rep F (enc p) p:=by
 cases p with
 |A8=>exact .A8
 |bl b=>exact .bl b
 |int i=>exact .int i
 |str x=>exact .str x
 |lst xs=>cases h
 |tup xs=>cases h
 |B2 ks xs=>cases h
 |obj C ns xs=>cases h
 |exc C ns xs=>cases h
 |con a xs=>cases h
theorem Aa.enc(h:ps.all flat=true)(r:Aa F vs ps):vs=ps.map enc:=by
 induction ps generalizing vs with
 |nil=>exact r.DS
 |cons p ps c=>
  obtain⟨v,us,rfl,a,b⟩:=r.inv;rw[Ua,Dl]at h;rw[C8,<- Rep.enc h.1 a,<- c h.2 b]
theorem gZ(h:ps.all flat=true):Aa F (ps.map enc) ps:=by
 induction ps with
 |nil=>exact .nil
 |cons p r a=>
  rw[Ua,Dl]at h;exact .cons (ZC9 h.1) (a h.2)
theorem SE(h:flat p=true):Ec (Fz.enc p)=true:=by cases p <;> first|rfl|cases h
theorem kJ(ns:List Str):(ns.map PV.str).all flat=true:=by
 rw[L6];intro x hx;obtain⟨y,_,rfl⟩:=List.mem_map.mp hx;rfl
theorem Uu(ns:List Str):(ns.map PV.str).map Fz.enc=ns.map V.str:=by rw[Qw];rfl
theorem Aa.strs(r:Aa F vs (ns.map PV.str)):vs=ns.map V.str:=(r.enc (kJ ns)).trans (Uu ns)
theorem N9(ns:List Str):Aa F (ns.map V.str) (ns.map PV.str):=by rw[<- Uu];exact gZ (kJ ns)
inductive NK where
 |lst|B2 (ks:List Key)|obj (C dx:Addr) (ns:List Str)
noncomputable def NK.ho:NK->List V->HO
 | .lst,vs=>.lst vs
 | .B2 ks,vs=>.dK (ks.zip vs)
 | .obj C dx ns,vs=>.ins C dx (ns.zip vs)
noncomputable def NK.more:NK->List Addr
 | .obj _ dx _=>[dx]
 |_=>[]
def NK.side(k:NK)(a:Addr)(H:Hp):Prop:=match k with
 | .obj _ dx _=>H dx=some (.own a)
 |_=>True
def NK.fit(k:NK)(n:Nat):Prop:=match k with
 | .B2 ks=>ks.length=n
 | .obj _ _ ns=>ns.length=n
 |_=>True
inductive OV where
 |fz (p:PV)
 |tp (xs:List OV)
 |nd (k:NK) (a:Addr) (xs:List OV)
variable{ts:List OV}
mutual
def OV.addrs:OV->List Addr
 | .fz _=>[]
 | .tp xs=>OV.Ap xs
 | .nd k a xs=>a::(k.more++OV.Ap xs)
def OV.Ap:List OV->List Addr
 | []=>[]
 |x::r=>x.addrs++OV.Ap r
end
mutual
def OV.pv:OV->PV
 | .fz p=>p
 | .tp xs=>.tup (OV.Cz xs)
 | .nd .lst _ xs=>.lst (OV.Cz xs)
 | .nd (.B2 ks) _ xs=>.B2 ks (OV.Cz xs)
 | .nd (.obj C _ ns) _ xs=>.obj C ns (OV.Cz xs)
def OV.Cz:List OV->List PV
 | []=>[]
 |x::r=>x.pv::OV.Cz r
end
mutual
inductive BI (F H:Hp):V->OV->Prop where
 |fz {v:V}{p:PV}:Rep F v p->BI F H v (.fz p)
 |tp {a:Addr}{vs:List V}{xs:List OV}:F a=some (.tup vs)->BV F H vs xs->BI F H (.ref a) (.tp xs)
 |nd {k:NK}{a:Addr}{vs:List V}{xs:List OV}:H a=some (k.ho vs)->k.side a H->k.fit vs.length->BV F H vs xs->BI F H (.ref a) (.nd k a xs)
inductive BV (F H:Hp):List V->List OV->Prop where
 |nil:BV F H [] []
 |cons {v:V}{t:OV}{vs:List V}{ts:List OV}:BI F H v t->BV F H vs ts->BV F H (v::vs) (t::ts)
end
def vp(F H:Hp)(v:V):OV->Prop
 | .fz p=>Rep F v p
 | .tp xs=>∃a vs,v=.ref a/\F a=some (.tup vs)/\BV F H vs xs
 | .nd k a xs=>∃vs,v=.ref a/\H a=some (k.ho vs)/\k.side a H/\k.fit vs.length/\BV F H vs xs
theorem BI.inv{t:OV}(r:BI F H v t):vp F H v t:=by
 cases r with
 |fz r=>exact r
 |tp h r=>exact⟨_,_,rfl,h,r⟩
 |nd h a b r=>exact⟨_,rfl,h,a,b,r⟩
theorem BV.inv{t:OV}(r:BV F H vs (t::ts)):∃v ws,vs=v::ws/\BI F H v t/\BV F H ws ts:=by
 cases r with
 |cons r t=>exact⟨_,_,rfl,r,t⟩
theorem BV.DS(r:BV F H vs []):vs=[]:=by
 cases r;rfl
theorem OV.Di{k:NK}{xs:List OV}:(OV.nd k a xs).addrs=a::(k.more++OV.Ap xs):=by rw[OV.addrs]
theorem OV.IL{xs:List OV}:(OV.tp xs).addrs=OV.Ap xs:=by rw[OV.addrs]
theorem OV.Hq:(OV.fz p).addrs=[]:=by rw[OV.addrs]
theorem OV.Cq{x:OV}{r:List OV}:OV.Ap (x::r)=x.addrs++OV.Ap r:=by rw[OV.Ap]
theorem OV.J5:OV.Ap []=[]:=by rw[OV.Ap]
theorem NK.jf{k:NK}(h:k.side a H)(s:∀b∈k.more,∀o,H b=some o->H' b=some o):k.side a H':=by
 cases k with
 |obj C dx ns=>exact s dx (by simp[NK.more]) _ h
 |_=>trivial
theorem BI.mono(f:AB F F'){t:OV}(r:BI F H v t):(∀a∈t.addrs,∀o,H a=some o->H' a=some o)->BI F' H' v t:=
 BI.rec (motive_1:=λv t _=>(∀a∈t.addrs,∀o,H a=some o->H' a=some o)->BI F' H' v t) (motive_2:=λvs ts _=>(∀a∈OV.Ap ts,∀o,H a=some o->H' a=some o)->BV F' H' vs ts)
  (λr _=>.fz (r.mono f))
  (λh _ i s=>.tp (f _ _ h) (i (by rw[OV.IL]at s;exact s)))
  (λh d g _ i s=>by
   rw[OV.Di]at s;exact .nd (s _ D5 _ h) (NK.jf d λb e=>s b (DP _ (HY _ e))) g (i λa c=>s a (DP _ (FY _ c))))
  (λ_=>.nil)
  (λ_ _ i k s=>by
   rw[OV.Cq]at s;exact .cons (i λa c=>s a (HY _ c)) (k λa c=>s a (FY _ c)))
  r
theorem BV.mono(f:AB F F')(r:BV F H vs ts)(s:∀a∈OV.Ap ts,∀o,H a=some o->H' a=some o):BV F' H' vs ts:=by
 induction ts generalizing vs with
 |nil=>cases r.DS;exact .nil
 |cons p ps d=>
  obtain⟨v,ws,rfl,a,b⟩:=r.inv;rw[OV.Cq]at s;exact .cons (a.mono f λa c=>s a (HY _ c)) (d b λa c=>s a (FY _ c))
theorem BI.there{t:OV}(r:BI F H v t):∀a∈t.addrs,H a≠none:=
 BI.rec (motive_1:=λv t _=>∀a∈t.addrs,H a≠none) (motive_2:=λvs ts _=>∀a∈OV.Ap ts,H a≠none)
  (λ_ a c=>by rw[OV.Hq]at c;cases c)
  (λ_ _ i a c=>i a (by rw[OV.IL]at c;exact c))
  (λ{k b vs xs}h d f _ i a c=>by
   rw[OV.Di,HZ,J7]at c;rcases c with rfl|c|c
   .rw[h];exact λz=>by cases z
   .cases k with
    |obj C dx ns=>
     have e:a=dx:=List.mem_singleton.mp c;rw[e,show H dx=some (.own b)from d];exact λz=>by cases z
    |_=>cases c
   .exact i a c)
  (λa c=>by rw[OV.J5]at c;cases c)
  (λ_ _ i k a c=>by
   rw[OV.Cq,J7]at c;exact c.elim (i a) (k a))
  r
theorem BV.there(r:BV F H vs ts):∀a∈OV.Ap ts,H a≠none:=by
 induction ts generalizing vs with
 |nil=>intro a c;rw[OV.J5]at c;cases c
 |cons p ps d=>
  obtain⟨v,ws,rfl,x,b⟩:=r.inv;intro a c;rw[OV.Cq,J7]at c;exact c.elim (x.there a) (d b a)
theorem BV.length{F H:Hp}{vs:List V}{ts:List OV}(r:BV F H vs ts):vs.length=ts.length:=by
 induction ts generalizing vs with
 |nil=>cases r.DS;rfl
 |cons p ps c=>obtain⟨v,ws,rfl,a,b⟩:=r.inv;exact tq (· + 1) (c b)
inductive Slot where
 |any|is (p:PV)|own (xs:List PV)|AV|sq (tp:Bool) (xs:List PV)|raw (P:Hp->V->Prop)|ow (lt:Bool) (t:OV)
variable{ss:List Slot}{s:Slot}{UJ nx:List Slot->Prop}
structure Ent0 where
 A:List Addr
 F0:Hp
 H0:Hp
 B:List Addr
variable{E:Ent0}
noncomputable abbrev E3(A:List Addr)(F H:Hp):Ent0:=⟨A,F,H,[]⟩
def Ok(E:Ent0)(F H:Hp):Slot->Option (Option V)->Prop
 | .any,_=>True
 | .is p,o=>∃v,o=some (some v)/\Rep F v p
 | .own xs,o=>∃l vs,o=some (some (.ref l))/\F l=none/\E.H0 l=none/\H l=some (.lst vs)/\Aa F vs xs
 | .AV,o=>∃l,o=some (some (.ref l))/\F l=none/\(E.H0 l=none∨l∈E.A)/\Bz H l
 | .sq true xs,o=>∃v,o=some (some v)/\Rep F v (.tup xs)
 | .sq false xs,o=>∃l vs,o=some (some (.ref l))/\(l∉E.A/\l∉E.B)/\E.H0 l=some (.lst vs)/\Aa F vs xs
 | .raw P,o=>∃v,o=some (some v)/\P F v/\∀F F',AB F F'->P F v->P F' v
 | .ow lt t,o=>∃v,o=some (some v)/\BI F H v t/\t.addrs.Nodup/\∀a∈t.addrs,F a=none/\(E.H0 a=none∨(lt=true/\a∈E.B))
def Be:Slot->Option (Option V)->Addr->Prop
 | .own _,o,l=>o=some (some (.ref l))
 | .AV,o,l=>o=some (some (.ref l))
 | .ow _ t,_,l=>l∈t.addrs
 |_,_,_=>False
structure Fin (E:Ent0) (F H:Hp):Prop where
 fh:AB F H
 f0:AB E.F0 F
 keep:∀a o,(a∉E.A/\a∉E.B)->E.H0 a=some o->H a=some o
 fresh:∀a o,F a=some o->E.F0 a=some o∨E.H0 a=none
 Gm:∀a,a∈E.A->Bz H a
 La:∀a,a∈E.A->F a=none
 a0:∀a,a∈E.A->E.H0 a≠none
 bF:∀a,a∈E.B->F a=none
 bH:∀a,a∈E.B->H a≠none
 b0:∀a,a∈E.B->E.H0 a≠none/\a∉E.A
structure Sg (E:Ent0) (ss:List Slot) (Z:L2.St) (F H:Hp):Prop extends Fin E F H where
 len:ss.length=Z.length
 ok:∀(i:Nat)s,ss[i]?=some s->Ok E F H s Z[i]?
 CG:∀(i j:Nat)s u l,i≠j->ss[i]?=some s->ss[j]?=some u->Be s Z[i]? l->¬ Be u Z[j]? l
structure Ex where
 C:Addr
 ns:List Str
 xs:List PV
def Ex.at(x:Ex)(F:Hp)(C:Value)(dx:Option Addr):Prop:=
 C=.ref x.C/\((x.ns=[]/\x.xs=[]/\dx=none)∨∃a vs,dx=some a/\F a=some (.xd (x.ns.zip vs))/\x.ns.length=vs.length/\Aa F vs x.xs)
class Xw where
 e:L2.St->XK
 J:List Slot->Prop
 D:Ex->Prop
structure Ent [Xw] extends Ent0 where
 hx:∀(ss:List Slot)(Z:L2.St)(F H:Hp)(x:Ex)(C:Value)(dx:Option Addr),Xw.J ss->Sg toEnt0 ss Z F H->Xw.D x->x.at F C dx->Xw.e Z C dx H
instance [Xw]:CoeOut Ent Ent0:=⟨Ent.toEnt0⟩
noncomputable instance noX:Xw:=⟨λ_=>E0,λ_=>True,λ_=>False⟩
def Cw(ss:List Slot)(Z:L2.St)(a:Addr):Prop:=∀i:Nat,ss[i]?=some .AV->Z[i]?≠some (some (.ref a))
structure Mv (E:Ent0) (ss:List Slot) (Z:L2.St) (F H F' H':Hp):Prop where
 st:Sg E ss Z F' H'
 ff:AB F F'
 hh:∀a o,Cw ss Z a->H a=some o->H' a=some o
 nn:∀a o,F' a=some o->F a=some o∨H a=none
theorem Sg.PY(S:Sg E ss Z F H)(h:H l=none):Cw ss Z l:=λi hi e=>by
 obtain⟨c,b,_,_,_,_,a,_⟩:=S.ok i _ hi;rw[e]at b;cases b;rw[h]at a;cases a
theorem Mv.none(m:Mv E ss Z F H F' H')(h:H' a=none):H a=none:=by
 cases e:H a with
 |none=>rfl
 |some o=>rw[m.hh a o (m.st.PY h) e]at h;cases h
theorem Mv.refl{E:Ent0}{ss:List Slot}{Z:L2.St}{F H:Hp}(S:Sg E ss Z F H):Mv E ss Z F H F H:=⟨S,AB.refl _,λ_ _ _ e=>e,λ_ _ e=>.inl e⟩
theorem Mv.trans{F1 H1 F2 H2:Hp}(a:Mv E ss Z F H F1 H1)(b:Mv E ss Z F1 H1 F2 H2):Mv E ss Z F H F2 H2:=
 ⟨b.st,a.ff.trans b.ff,λc o n e=>b.hh c o n (a.hh c o n e),λc o e=>(b.nn c o e).elim (λe=>a.nn c o e) λe=>.inr (a.none e)⟩
theorem Sg.EK(S:Sg E ss Z F H){p:Addr}(h:H p=none):E.H0 p=none:=by
 cases e:E.H0 p with
 |none=>rfl
 |some o=>
  by_cases q:p∈E.A
  .obtain⟨_,_,b,_⟩:=S.Gm p q;rw[h]at b;cases b
  .by_cases a:p∈E.B
   .exact absurd h (S.bH p a)
   .rw[S.keep p o ⟨q,a⟩ e]at h;cases h
theorem Sg.CA(S:Sg E ss Z F H){p:Addr}(h:H p=none):F p=none:=AB.none S.fh h
theorem Bz.keep(h:Bz H l)(k:∀o,H l=some o->H' l=some o):Bz H' l:=by
 obtain⟨a,b,e,r⟩:=h;exact⟨a,b,k _ e,r⟩
theorem Sg.k6(S:Sg E ss Z F H)(h:F l=some o):Cw ss Z l:=λi hi e=>by
 obtain⟨c,b,a,_⟩:=S.ok i _ hi;rw[e]at b;cases b;rw[h]at a;cases a
theorem Sg.mE(S:Sg E ss Z F H)(b:l∉E.A)(h:E.H0 l=some o):Cw ss Z l:=λi hi e=>by
 obtain⟨c,a,_,q,_⟩:=S.ok i _ hi;rw[e]at a;cases a;rcases q with q|q
 .rw[h]at q;cases q
 .exact b q
theorem Sg.zQ(S:Sg E ss Z F H)(h:l∈E.B):Cw ss Z l:=λi hi e=>by
 obtain⟨d,a,_,q,_⟩:=S.ok i _ hi;rw[e]at a;cases a;obtain⟨c,b⟩:=S.b0 l h;rcases q with q|q
 .exact c q
 .exact b q
theorem Sg.Eb(S:Sg E ss Z F H)(h:ss[i]?=some s)(m:Be s Z[i]? l):H l≠none:=by
 have k:=S.ok i s h;cases s with
 |own xs=>obtain⟨c,vs,a,_,_,b,_⟩:=k;rw[show Z[i]?=some (some (.ref l))from m]at a;cases a;rw[b];simp
 |AV=>obtain⟨c,a,_,_,_,_,b,_⟩:=k;rw[show Z[i]?=some (some (.ref l))from m]at a;cases a;rw[b];simp
 |ow lt t=>obtain⟨v,_,r,_⟩:=k;exact r.there l m
 |_=>cases m
theorem Sg.x9(S:Sg E ss Z F H)(h:ss[i]?=some s)(m:Be s Z[i]? l):F l=none:=by
 have k:=S.ok i s h;cases s with
 |own xs=>obtain⟨c,vs,a,b,_⟩:=k;rw[show Z[i]?=some (some (.ref l))from m]at a;cases a;exact b
 |AV=>obtain⟨c,a,b,_⟩:=k;rw[show Z[i]?=some (some (.ref l))from m]at a;cases a;exact b
 |ow lt t=>obtain⟨v,_,r,_,q⟩:=k;exact(q l m).1
 |_=>cases m
theorem Sg.OR(S:Sg E ss Z F H)(h:ss[i]?=some s)(a:H l=none):¬ Be s Z[i]? l:=λm=>S.Eb h m a
theorem Sg.Pa(S:Sg E ss Z F H)(h:ss[i]?=some s)(m:Be s Z[i]? l)(np:s≠.AV):Cw ss Z l:=λj a b=>
 S.CG i j s _ l (by rintro rfl;rw[h]at a;exact np (Bo a)) h a m b
theorem Ok.go(S:Sg E ss Z F H){i:Nat}{s:Slot}(hi:ss[i]?=some s)(ff:AB F F')(f:∀a o,Be s Z[i]? a->H a=some o->H' a=some o)(CA:∀a,H a≠none->F a=none->F' a=none)(np:s≠.AV):Ok E F' H' s Z[i]?:=by
 have k:=S.ok i s hi;cases s with
 |any=>trivial
 |is p=>obtain⟨v,e,r⟩:=k;exact⟨v,e,r.mono ff⟩
 |own xs=>
  obtain⟨l,vs,e,d,c,g,r⟩:=k;exact⟨l,vs,e,CA l (by rw[g];simp) d,c,f l _ e g,r.mono ff⟩
 |AV=>exact absurd rfl np
 |sq tp xs=>
  cases tp with
  |true=>obtain⟨v,e,r⟩:=k;exact⟨v,e,r.mono ff⟩
  |false=>obtain⟨l,vs,e,d,c,r⟩:=k;exact⟨l,vs,e,d,c,r.mono ff⟩
 |raw P=>obtain⟨v,e,r,st⟩:=k;exact⟨v,e,st _ _ ff r,st⟩
 |ow lt t=>
  obtain⟨v,e,r,nd,q⟩:=k;exact⟨v,e,r.mono ff λa b o=>f a o b,nd,λa b=>⟨CA a (r.there a b) (q a b).1,(q a b).2⟩⟩
theorem Sg.step(S:Sg E ss Z F H)(ff:AB F F')(fh:AB F' H')(c:∀a o,Cw ss Z a->H a=some o->H' a=some o)(hn:∀a o,F' a=some o->F a=some o∨H a=none)
  (g:∀(i:Nat)l,ss[i]?=some .AV->Z[i]?=some (some (.ref l))->Bz H' l):Mv E ss Z F H F' H':=by
 have CA:∀a,H a≠none->F a=none->F' a=none:=λa h1 h2=>by
  cases e:F' a with
  |none=>rfl
  |some o=>
   rcases hn a o e with q|q
   .rw[h2]at q;cases q
   .exact absurd q h1
 have h:∀a,Bz H a->Cw ss Z a->Bz H' a:=λa p n=>Bz.keep p λo e=>c a o n e;refine⟨⟨⟨fh,S.f0.trans ff,λa o b e=>?_,λa o e=>?_,λa b=>?_,λa b=>?_,S.a0,λa d=>CA a (S.bH a d) (S.bF a d),λa d=>?_,S.b0⟩,S.len,λi s hi=>?_,S.CG⟩,ff,c,hn⟩
 .exact c a o (S.mE b.1 e) (S.keep a o b e)
 .rcases hn a o e with q|q
  .exact S.fresh a o q
  .exact .inr (S.EK q)
 .by_cases q:∃i:Nat,ss[i]?=some .AV/\Z[i]?=some (some (.ref a))
  .obtain⟨i,k,j⟩:=q;exact g i a k j
  .exact h a (S.Gm a b) λi h1 h2=>q ⟨i,h1,h2⟩
 .refine CA a ?_ (S.La a b);obtain⟨_,_,f,_⟩:=S.Gm a b;rw[f];simp
 .obtain⟨o,e⟩:=Option.ne_none_iff_exists'.mp (S.bH a d);rw[c a o (S.zQ d) e];simp
 .by_cases np:s=.AV
  .subst np;obtain⟨l,e,f,u,t⟩:=S.ok i _ hi;have v:=t;obtain⟨_,_,r,_⟩:=v;exact⟨l,e,CA l (by rw[r];simp) f,u,g i l hi e⟩
  .exact Ok.go S hi ff (λa o m=>c a o (S.Pa hi m np)) CA np
theorem Sg.En(S:Sg E ss Z F H)(hi:ss[i]?=some .AV)(e:Z[i]?=some (some (.ref l))):Bz H l:=by
 obtain⟨b,a,_,_,p⟩:=S.ok i _ hi;rw[e]at a;cases a;exact p
theorem Sg.alloc(S:Sg E ss Z F H){p:Addr}(h:H p=none)(o:HO):Mv E ss Z F H (upd F p o) (upd H p o):=by
 refine S.step (BP (S.CA h) _) (λa u e=>?_) (λa u _ e=>BP h o a u e) (λa u e=>?_) λi l hi e=>Bz.keep (S.En hi e) λu e=>BP h o l u e
 .by_cases q:a=p
  .subst q;rw[AW]at e ⊢;exact e
  .rw[AY q]at e ⊢;exact S.fh a u e
 .by_cases q:a=p
  .subst q;exact .inr h
  .rw[AY q]at e;exact .inl e
theorem Sg.make(S:Sg E ss Z F H){p:Addr}(h:H p=none)(o:HO):Mv E ss Z F H F (upd H p o):=
 S.step (AB.refl _) (S.fh.trans (BP h o)) (λa u _ e=>BP h o a u e) (λa u e=>.inl e) λi l hi e=>Bz.keep (S.En hi e) λu e=>BP h o l u e
theorem Sg.grow(S:Sg E ss Z F H)(s:AB H H'):Mv E ss Z F H F H':=
 S.step (AB.refl _) (S.fh.trans s) (λa u _ e=>s a u e) (λa u e=>.inl e) λi l hi e=>Bz.keep (S.En hi e) λu e=>s l u e
theorem Sg.setG(S:Sg E ss Z F H)(AJ:Ok E F H s (some (some v)))(f:∀l,Be s (some (some v)) l->∀(i:Nat)u,i≠j->ss[i]?=some u->¬ Be u Z[i]? l):Sg E (ss.set j s) (Z.set j (some v)) F H:=by
 refine⟨S.toFin,by rw[Jl,Jl];exact S.len,λi u hi=>?_,λi k u w l Mb hi b d c=>?_⟩
 .by_cases q:i=j
  .subst q;have a:i<ss.length:=by have:=(List.getElem?_eq_some_iff.mp hi).1;simpa using this
   rw[Cm a]at hi;cases hi;rw[Cm (by rw[<- S.len];exact a)];exact AJ
  .rw[CJ (BN q)]at hi ⊢;exact S.ok i u hi
 .by_cases q:i=j
  .subst q;have a:i<ss.length:=by have:=(List.getElem?_eq_some_iff.mp hi).1;simpa using this
   rw[Cm a]at hi;rw[Cm (by rw[<- S.len];exact a)]at d;cases hi;rw[CJ Mb]at b c;exact f l d k w (BN Mb) b c
  .rw[CJ (BN q)]at hi d
   by_cases e:k=j
   .subst e;have a:k<ss.length:=by have:=(List.getElem?_eq_some_iff.mp b).1;simpa using this
    rw[Cm a]at b;cases b;rw[Cm (by rw[<- S.len];exact a)]at c;exact f l c i u Mb hi d
   .rw[CJ (BN e)]at b c;exact S.CG i k u w l Mb hi b d c
theorem Sg.Er(S:Sg E ss Z F H)(r:Rep F v p):Sg E (ss.set j (.is p)) (Z.set j (some v)) F H:=S.setG ⟨v,rfl,r⟩ λ_ h=>by cases h
def Sv(ss:List Slot)(Z:L2.St)(F H:Hp)(v:V):Bool->List PV->Prop
 |true,xs=>Rep F v (.tup xs)
 |false,xs=>∃l vs,v=.ref l/\Cw ss Z l/\H l=some (.lst vs)/\Aa F vs xs
def Fv(E:Ent0)(F:Hp)(v:V):Bool->List PV->Prop
 |true,xs=>Rep F v (.tup xs)
 |false,xs=>∃l vs,v=.ref l/\(F l=some (.lst vs)∨((l∉E.A/\l∉E.B)/\E.H0 l=some (.lst vs)))/\Aa F vs xs
structure Wp [Xw] (ss:List Slot) (t:TE) (k:PV->Prop):Prop where
 go:∀(E:Ent)(Z:L2.St)(F H:Hp)(Q:VK),Sg E ss Z F H->(∀v p F' H',Mv E ss Z F H F' H'->Rep F' v p->k p->Q v H')->t Z H Q
structure Wn [Xw] (ss:List Slot) (t:TE) (k:List PV->Prop):Prop where
 go:∀(E:Ent)(Z:L2.St)(F H:Hp)(Q:VK),Sg E ss Z F H->(∀l vs xs F' H',Mv E ss Z F H F' H'->F' l=none->H l=none->H' l=some (.lst vs)->Aa F' vs xs->k xs->Q (.ref l) H')->t Z H Q
structure Wq [Xw] (ss:List Slot) (t:TE) (k:Bool->List PV->Prop):Prop where
 go:∀(E:Ent)(Z:L2.St)(F H:Hp)(Q:VK),Sg E ss Z F H->(∀v tp xs F' H',Mv E ss Z F H F' H'->Sv ss Z F' H' v tp xs->k tp xs->Q v H')->t Z H Q
structure Wz [Xw] (ss:List Slot) (t:TE) (k:Bool->List PV->Prop):Prop where
 go:∀(E:Ent)(Z:L2.St)(F H:Hp)(Q:VK),Sg E ss Z F H->(∀v tp xs F' H',Mv E ss Z F H F' H'->Fv E F' v tp xs->k tp xs->Q v H')->t Z H Q
structure Wt [Xw] (ss:List Slot) (t:TT) (k:Bool->Prop):Prop where
 go:∀(E:Ent)(Z:L2.St)(F H:Hp)(Q:Bool->Hp->Prop),Sg E ss Z F H->(∀b F' H',Mv E ss Z F H F' H'->k b->Q b H')->t Z H Q
def Av(ss:List Slot)(Z:L2.St)(F H:Hp)(v:V):Slot->Prop
 | .is p=>Rep F v p
 | .sq tp xs=>Sv ss Z F H v tp xs
 | .raw P=>P F v/\∀F F',AB F F'->P F v->P F' v
 |_=>False
inductive J2 (ss:List Slot) (Z:L2.St) (F H:Hp):List V->List Slot->Prop where
 |nil:J2 ss Z F H [] []
 |cons {v:V}{s:Slot}{vs:List V}{l:List Slot}:Av ss Z F H v s->J2 ss Z F H vs l->J2 ss Z F H (v::vs) (s::l)
structure Wa [Xw] (ss:List Slot) (t:TA) (k:List Slot->Prop):Prop where
 go:∀(E:Ent)(Z:L2.St)(F H:Hp)(Q:List V->Hp->Prop),Sg E ss Z F H->(∀vs l F' H',Mv E ss Z F H F' H'->J2 ss Z F' H' vs l->k l->Q vs H')->t Z H Q
inductive Aq where
 |is (k:PV->Prop)|new (k:List PV->Prop)|AV|ow (k:OV->Prop)|mt (k:PV->OV->Prop)|mt2 (k:PV->OV->OV->Prop)
noncomputable def OV.val:OV->V
 | .nd _ a _=>.ref a
 |_=>.A8
def Aq.ok(R:Aq)(E:Ent0)(F' H':Hp)(v:V):Prop:=match R with
 | .is k=>∃p,Rep F' v p/\k p
 | .new k=>∃l vs xs,v=.ref l/\F' l=none/\E.H0 l=none/\H' l=some (.lst vs)/\Aa F' vs xs/\k xs
 | .AV=>∃l,v=.ref l/\F' l=none/\E.H0 l=none/\Bz H' l
 | .ow k=>∃t,BI F' H' v t/\t.addrs.Nodup/\(∀a∈t.addrs,F' a=none/\E.H0 a=none)/\k t
 | .mt k=>∃p t,Rep F' v p/\BI F' H' t.val t/\t.addrs.Nodup/\(∀a∈t.addrs,F' a=none/\(E.H0 a=none∨a∈E.B))/\k p t
 | .mt2 k=>∃p t u,Rep F' v p/\BI F' H' t.val t/\BI F' H' u.val u/\(t.addrs++u.addrs).Nodup/\(∀a∈t.addrs++u.addrs,F' a=none/\(E.H0 a=none∨a∈E.B))/\k p t u
structure Ws [Xw] (ss:List Slot) (t:TS) (nx:List Slot->Prop) (R:Aq):Prop where
 go:∀(E:Ent)(D:Ends)(Z:L2.St)(F H:Hp),Sg E ss Z F H->(∀AN σ' F' H',nx AN->Sg E AN σ' F' H'->AB F F'->D.nx σ' H')->(∀v F' H',Fin E F' H'->R.ok E F' H' v->D.rt v H')->t D Z H
section
variable[Xw]
variable{K:ZIV}{k:PV->Prop}{R:Aq}
theorem Sv.mv(h:Sv ss Z F H v tp xs)(m:Mv E ss Z F H F' H'):Sv ss Z F' H' v tp xs:=by
 cases tp with
 |true=>exact Rep.mono m.ff h
 |false=>
  obtain⟨l,vs,e,n,r,q⟩:=h;exact⟨l,vs,e,n,m.hh l _ n r,q.mono m.ff⟩
theorem Sv.seq(S:Sg E ss Z F H)(h:Sv ss Z F H v tp xs):∃l vs,v=.ref l/\H l=some (Hk tp vs)/\Aa F vs xs:=by
 cases tp with
 |true=>cases h with|tup e r=>exact⟨_,_,rfl,S.fh _ _ e,r⟩
 |false=>obtain⟨l,vs,e,_,r,q⟩:=h;exact⟨l,vs,e,r,q⟩
theorem Fv.sv(S:Sg E ss Z F H)(h:Fv E F v tp xs):Sv ss Z F H v tp xs:=by
 cases tp with
 |true=>exact h
 |false=>
  obtain⟨l,vs,e,h1|⟨a,h1⟩,r⟩:=h
  .exact⟨l,vs,e,S.k6 h1,S.fh _ _ h1,r⟩
  .exact⟨l,vs,e,S.mE a.1 h1,S.keep _ _ a h1,r⟩
theorem AD(h:ss[i]?=some (.is p))(b:k p):Wp ss (BS i) k:=⟨λE Z F H Q S q=>by
 obtain⟨v,a,r⟩:=S.ok i _ h;exact⟨v,a,q v p F H (.refl S) r b⟩⟩
theorem Br{i:Int}(a:k (.int i)):Wp ss (tC (.int i)) k:=⟨λE Z F H Q S q=>q _ _ F H (.refl S) (.int i) a⟩
theorem DX{x:Str}(a:k (.str x)):Wp ss (tC (.str x)) k:=⟨λE Z F H Q S q=>q _ _ F H (.refl S) (.str x) a⟩
theorem Cj(a:k (.bl b)):Wp ss (tC (.bl b)) k:=⟨λE Z F H Q S q=>q _ _ F H (.refl S) (.bl b) a⟩
theorem LH(a:k .A8):Wp ss (tC .A8) k:=⟨λE Z F H Q S q=>q _ _ F H (.refl S) .A8 a⟩
theorem EH(h:Wn ss te (λxs=>k (.lst xs))):Wp ss te k:=⟨λE Z F H Q S q=>h.go E Z F H Q S λl vs xs F' H' m c f CZ r kk=>by
 have b:=m.st;have fr:Mv E ss Z F H (upd F' l (.lst vs)) H':=by
  have A:∀a,H' a≠none->a≠l->F' a=none->upd F' l (.lst vs) a=none:=λa _ h1 h2=>by rw[AY h1];exact h2
  refine⟨⟨⟨λa u e=>?_,b.f0.trans (BP c _),b.keep,λa u e=>?_,b.Gm,λa z=>?_,b.a0,λa y=>?_,b.bH,b.b0⟩,b.len,λi s hi=>?_,b.CG⟩,m.ff.trans (BP c _),m.hh,λa u e=>?_⟩
  .by_cases q:a=l
   .subst q;rw[AW]at e;rw[<- e];exact CZ
   .rw[AY q]at e;exact b.fh a u e
  .by_cases q:a=l
   .subst q;exact .inr (S.EK f)
   .rw[AY q]at e;exact b.fresh a u e
  .by_cases q:a=l
   .subst q;obtain⟨_,_,e,_⟩:=S.Gm _ z;rw[f]at e;cases e
   .rw[AY q];exact b.La a z
  .by_cases q:a=l
   .subst q;exact absurd f (S.bH _ y)
   .rw[AY q];exact b.bF a y
  .have x:∀a,Be s Z[i]? a->a≠l:=by
    rintro a m rfl;exact S.OR hi f m
   have kk:=b.ok i s hi;cases s with
   |any=>trivial
   |is p=>obtain⟨v,e,r⟩:=kk;exact⟨v,e,r.mono (BP c _)⟩
   |own ys=>
    obtain⟨d,ws,e,j,g,w,r⟩:=kk;exact⟨d,ws,e,by rw[AY (x d e)];exact j,g,w,r.mono (BP c _)⟩
   |AV=>
    obtain⟨d,e,j,g,w⟩:=kk;exact⟨d,e,by rw[AY (x d e)];exact j,g,w⟩
   |sq tp ys=>
    cases tp with
    |true=>obtain⟨v,e,r⟩:=kk;exact⟨v,e,r.mono (BP c _)⟩
    |false=>obtain⟨d,ws,e,j,g,r⟩:=kk;exact⟨d,ws,e,j,g,r.mono (BP c _)⟩
   |raw P=>obtain⟨v,e,r,st⟩:=kk;exact⟨v,e,st _ _ (BP c _) r,st⟩
   |ow lt t=>
    obtain⟨v,e,r,nd,q⟩:=kk;exact⟨v,e,r.mono (BP c _) λa _ o h=>h,nd,λa n=>⟨by rw[AY (x a n)];exact(q a n).1,(q a n).2⟩⟩
  .by_cases q:a=l
   .subst q;exact .inr f
   .rw[AY q]at e;exact m.nn a u e
 exact q _ _ _ _ fr (.lst AW (r.mono (BP c _))) kk⟩
theorem Ba{k:Bool->List PV->Prop}(h:Wp ss te (λp=>∃xs,(p=.lst xs/\k false xs)∨(p=.tup xs/\k true xs))):Wq ss te k:=⟨λE Z F H Q S q=>h.go E Z F H Q S λv p F' H' m r AH=>by
 obtain⟨xs,h⟩:=AH;rcases h with⟨rfl,kk⟩|⟨rfl,kk⟩
 .cases r with|lst h r=>exact q _ false xs F' H' m ⟨_,_,rfl,m.st.k6 h,m.st.fh _ _ h,r⟩ kk
 .exact q v true xs F' H' m r kk⟩
theorem M6{k:Bool->List PV->Prop}(h:ss[i]?=some (.is (.lst xs)))(a:k false xs):Wq ss (BS i) k:=Ba (AD h ⟨xs,.inl ⟨rfl,a⟩⟩)
theorem GL{k:Bool->List PV->Prop}(h:ss[i]?=some (.is (.tup xs)))(a:k true xs):Wq ss (BS i) k:=Ba (AD h ⟨xs,.inr ⟨rfl,a⟩⟩)
theorem ZCW{k:Bool->List PV->Prop}(h:ss[i]?=some (.own xs))(a:k false xs):Wq ss (BS i) k:=⟨λE Z F H Q S q=>by
 obtain⟨l,vs,e,d,c,b,r⟩:=S.ok i _ h;exact⟨_,e,q _ false xs F H (.refl S) ⟨l,vs,rfl,S.Pa h e (by simp),b,r⟩ a⟩⟩
theorem iT{k:Bool->List PV->Prop}(h:ss[i]?=some (.sq tp xs))(a:k tp xs):Wz ss (BS i) k:=⟨λE Z F H Q S q=>by
 have kk:=S.ok i _ h;cases tp with
 |true=>obtain⟨v,e,r⟩:=kk;exact⟨_,e,q _ true xs F H (.refl S) r a⟩
 |false=>
  obtain⟨l,vs,e,b,c,r⟩:=kk;exact⟨_,e,q _ false xs F H (.refl S) ⟨l,vs,rfl,.inr ⟨b,c⟩,r⟩ a⟩⟩
theorem Ks{k:Bool->List PV->Prop}(h:Wp ss te (λp=>∃xs,(p=.lst xs/\k false xs)∨(p=.tup xs/\k true xs))):Wz ss te k:=⟨λE Z F H Q S q=>h.go E Z F H Q S λv p F' H' m r AH=>by
 obtain⟨xs,h⟩:=AH;rcases h with⟨rfl,kk⟩|⟨rfl,kk⟩
 .cases r with|lst h r=>exact q _ false xs F' H' m ⟨_,_,rfl,.inl h,r⟩ kk
 .exact q _ true xs F' H' m r kk⟩
theorem i4{k:Bool->List PV->Prop}(h:Wz ss te k):Wq ss te k:=⟨λE Z F H Q S q=>h.go E Z F H Q S λv tp xs F' H' m f kk=>q v tp xs F' H' m (f.sv m.st) kk⟩
theorem FC{k:Bool->List PV->Prop}(h:ss[i]?=some (.sq tp xs))(a:k tp xs):Wq ss (BS i) k:=i4 (iT h a)
theorem ZEa{C:Int->Int->Prop}(h:Wp ss ta λx=>∃i,x=.int i/\Wp ss tb λy=>∃j,y=.int j/\C i j/\k (.int (f i j))):Wp ss (C5 (rI C λi j=>.int (f i j)) ta tb) k:=⟨λE Z F H Q S q=>
 h.go E Z F H _ S λv p F1 H1 a d AH=>by
  obtain⟨i,l,h2⟩:=AH;subst l;cases d.inv;exact h2.go E Z F1 H1 _ a.st λm p2 F2 H2 e b Cr=>by
   obtain⟨j,g,c,kk⟩:=Cr;subst g;cases b.inv;exact⟨i,j,rfl,rfl,c,q _ _ F2 H2 (a.trans e) (.int _) kk⟩⟩
theorem Yl(h:Wp ss ta λx=>∃i,x=.int i/\Wp ss tb λy=>∃j,y=.int j/\k (.int (f i j))):Wp ss (C5 (HK λi j=>.int (f i j)) ta tb) k:=⟨λE Z F H Q S q=>
 h.go E Z F H _ S λv p F1 H1 a c AH=>by
  obtain⟨i,g,h2⟩:=AH;subst g;cases c.inv;exact h2.go E Z F1 H1 _ a.st λl p2 F2 H2 d b Cr=>by
   obtain⟨j,e,kk⟩:=Cr;subst e;cases b.inv;exact⟨i,j,rfl,rfl,q _ _ F2 H2 (a.trans d) (.int _) kk⟩⟩
theorem Fu{f:Int->Int->Bool}(h:Wp ss ta λx=>∃i,x=.int i/\Wp ss tb λy=>∃j,y=.int j/\k (.bl (f i j))):Wp ss (C5 (HK λi j=>.bl (f i j)) ta tb) k:=⟨λE Z F H Q S q=>
 h.go E Z F H _ S λv p F1 H1 a c AH=>by
  obtain⟨i,g,h2⟩:=AH;subst g;cases c.inv;exact h2.go E Z F1 H1 _ a.st λl p2 F2 H2 d b Cr=>by
   obtain⟨j,e,kk⟩:=Cr;subst e;cases b.inv;exact⟨i,j,rfl,rfl,q _ _ F2 H2 (a.trans d) (.bl _) kk⟩⟩
theorem dg{f:Int->Int}(h:Wp ss ta λx=>∃i,x=.int i/\k (.int (f i))):Wp ss (OP (rU λi=>.int (f i)) ta) k:=⟨λE Z F H Q S q=>
 h.go E Z F H _ S λv p F1 H1 b a AH=>by
  obtain⟨i,c,kk⟩:=AH;subst c;cases a.inv;exact⟨i,rfl,q _ _ F1 H1 b (.int _) kk⟩⟩
noncomputable def alike:PV->PV->Bool
 | .int i,.int j=>decide (i=j)
 | .str i,.str j=>decide (i=j)
 | .bl i,.bl j=>decide (i=j)
 | .A8,.A8=>true
 |_,_=>false
def Mx(p q:PV):Bool:=flat p && flat q && VF (Fz.enc p) (Fz.enc q)
theorem mZ{q:PV}(h:Mx p q=true):decide (Fz.enc p=Fz.enc q)=alike p q:=by
 unfold Mx at h;rw[Dl,Dl]at h;obtain⟨⟨h1,h2⟩,a⟩:=h;cases p <;> first|exact Bool.noConfusion h1|skip
 all_goals cases q <;> first|exact Bool.noConfusion h2|exact Bool.noConfusion a|rfl|exact decide_eq_decide.mpr ⟨λe=>by injection e,tq _⟩
theorem XS(h:Wp ss ta λx=>Wp ss tb λy=>Mx x y=true/\k (.bl (alike x y))):Wp ss (C5 gk ta tb) k:=⟨λE Z F H Q S q=>
 h.go E Z F H _ S λv p F1 H1 a c h2=>h2.go E Z F1 H1 _ a.st λf p2 F2 H2 d b AH=>by
  obtain⟨sc,kk⟩:=AH;have e:=sc;unfold Mx at sc;rw[Dl,Dl]at sc;rw[c.enc sc.1.1,b.enc sc.1.2];refine⟨sc.2,?_⟩;rw[mZ e];exact q _ _ F2 H2 (a.trans d) (.bl _) kk⟩
theorem qw(h:Wp ss ta λx=>Wp ss tb λy=>Mx x y=true/\k (.bl (!alike x y))):Wp ss (C5 m6 ta tb) k:=⟨λE Z F H Q S q=>
 h.go E Z F H _ S λv p F1 H1 a c h2=>h2.go E Z F1 H1 _ a.st λf p2 F2 H2 d b AH=>by
  obtain⟨sc,kk⟩:=AH;have e:=sc;unfold Mx at sc;rw[Dl,Dl]at sc;rw[c.enc sc.1.1,b.enc sc.1.2];refine⟨sc.2,?_⟩;rw[mZ e];exact q _ _ F2 H2 (a.trans d) (.bl _) kk⟩
theorem T6(h:Wp ss ta λx=>∃c,x=.bl c/\if c=true then Wp ss tb k else k (.bl false)):Wp ss (Uo ta tb) k:=⟨λE Z F H Q S q=>
 h.go E Z F H _ S λv p F1 H1 a d AH=>by
  obtain⟨c,e,h2⟩:=AH;subst e;cases d.inv;refine⟨c,rfl,?_⟩;cases c with
  |true=>rw[rG rfl]at h2 ⊢;exact h2.go E Z F1 H1 _ a.st λg p2 F2 H2 f b kk=>q _ _ F2 H2 (a.trans f) b kk
  |false=>rw[qP (by decide)]at h2 ⊢;exact q _ _ F1 H1 a (.bl _) h2⟩
theorem je(h:Wp ss ta λx=>∃c,x=.bl c/\if c=true then k (.bl true)else Wp ss tb k):Wp ss (VN ta tb) k:=⟨λE Z F H Q S q=>
 h.go E Z F H _ S λv p F1 H1 a d AH=>by
  obtain⟨c,e,h2⟩:=AH;subst e;cases d.inv;refine⟨c,rfl,?_⟩;cases c with
  |true=>rw[rG rfl]at h2 ⊢;exact q _ _ F1 H1 a (.bl _) h2
  |false=>rw[qP (by decide)]at h2 ⊢;exact h2.go E Z F1 H1 _ a.st λg p2 F2 H2 f b kk=>q _ _ F2 H2 (a.trans f) b kk⟩
theorem nR(h:Wp ss ta λx=>∃c,x=.bl c/\k (.bl (!c))):Wp ss (YN ta) k:=⟨λE Z F H Q S q=>
 h.go E Z F H _ S λv p F1 H1 b a AH=>by obtain⟨c,e,kk⟩:=AH;subst e;cases a.inv;exact⟨c,rfl,q _ _ F1 H1 b (.bl _) kk⟩⟩
theorem Oq{f g:Int->Int->Bool}(h:Wp ss ta λx=>∃i,x=.int i/\Wp ss tb λy=>∃j,y=.int j/\if f i j=true then Wp ss tc (λz=>∃l,z=.int l/\k (.bl (g j l)))else k (.bl false)):
  Wp ss (OS (HK λi j=>.bl (f i j)) (HK λi j=>.bl (g i j)) ta tb tc) k:=⟨λE Z F H Q S q=>
 h.go E Z F H _ S λv p F1 H1 d n AH=>by
  obtain⟨i,t,h2⟩:=AH;subst t;cases n.inv;exact h2.go E Z F1 H1 _ d.st λw p2 F2 H2 b m Cr=>by
   obtain⟨j,s,a⟩:=Cr;subst s;cases m.inv;refine⟨i,j,rfl,rfl,f i j,rfl,?_⟩;cases c:f i j with
   |true=>
    rw[c,rG rfl]at a;rw[rG rfl];exact a.go E Z F2 H2 _ b.st λu p3 F3 H3 o e Wr=>by
     obtain⟨l,r,kk⟩:=Wr;subst r;cases e.inv;exact⟨j,l,rfl,rfl,q _ _ F3 H3 (d.trans (b.trans o)) (.bl _) kk⟩
   |false=>
    rw[c,qP (by decide)]at a;rw[qP (by decide)];exact q _ _ F2 H2 (d.trans b) (.bl _) a⟩
theorem CM{k:Bool->Prop}(h:Wp ss te λx=>∃c,x=.bl c/\k c):Wt ss (Mn te) k:=⟨λE Z F H Q S q=>
 h.go E Z F H _ S λv p F1 H1 b a AH=>by obtain⟨c,e,kk⟩:=AH;subst e;cases a.inv;exact⟨c,rfl,q _ F1 H1 b kk⟩⟩
theorem FP{k:Bool->Prop}(h:Wp ss te λx=>∃c,x=.bl c/\k c):Wt ss (tB te) k:=⟨λE Z F H Q S q=>
 h.go E Z F H _ S λv p F1 H1 b a AH=>by obtain⟨c,e,kk⟩:=AH;subst e;cases a.inv;exact⟨c,rfl,q _ F1 H1 b kk⟩⟩
theorem Gq{t:TT}{k:Bool->Prop}(h:Wt ss t λc=>k (!c)):Wt ss (TY t) k:=⟨λE Z F H Q S q=>h.go E Z F H _ S λc F1 H1 a kk=>q _ F1 H1 a kk⟩
theorem ZFU{t u:TT}{k:Bool->Prop}(h:Wt ss t λc=>if c=true then Wt ss u k else k false):Wt ss (Tj t u) k:=⟨λE Z F H Q S q=>
 h.go E Z F H _ S λc F1 H1 a h2=>by
  show if c=true then _ else _
  cases c with
  |true=>rw[rG rfl]at h2 ⊢;exact h2.go E Z F1 H1 _ a.st λc2 F2 H2 b kk=>q _ F2 H2 (a.trans b) kk
  |false=>rw[qP (by decide)]at h2 ⊢;exact q _ F1 H1 a h2⟩
theorem Hz{t u:TT}{k:Bool->Prop}(h:Wt ss t λc=>if c=true then k true else Wt ss u k):Wt ss (ZO t u) k:=⟨λE Z F H Q S q=>
 h.go E Z F H _ S λc F1 H1 a h2=>by
  show if c=true then _ else _
  cases c with
  |true=>rw[rG rfl]at h2 ⊢;exact q _ F1 H1 a h2
  |false=>rw[qP (by decide)]at h2 ⊢;exact h2.go E Z F1 H1 _ a.st λc2 F2 H2 b kk=>q _ F2 H2 (a.trans b) kk⟩
end
structure We [Xw] (ss:List Slot) (t:TA) (k:List PV->Prop):Prop where
 go:∀(E:Ent)(Z:L2.St)(F H:Hp)(Q:List V->Hp->Prop),Sg E ss Z F H->(∀vs ps F' H',Mv E ss Z F H F' H'->Aa F' vs ps->k ps->Q vs H')->t Z H Q
structure Wo [Xw] (ss:List Slot) (t:TO) (k:Option Int->Prop):Prop where
 go:∀(E:Ent)(Z:L2.St)(F H:Hp)(Q:Option Int->Hp->Prop),Sg E ss Z F H->(∀o F' H',Mv E ss Z F H F' H'->k o->Q o H')->t Z H Q
section
variable[Xw]
variable{K:ZIV}{k:PV->Prop}{R:Aq}
theorem DN{k:List PV->Prop}(h:k []):We ss BR k:=⟨λE Z F H Q S q=>q _ _ F H (.refl S) .nil h⟩
theorem Cu{k:List PV->Prop}(h:Wp ss te λp=>We ss t λps=>k (p::ps)):We ss (Al te t) k:=⟨λE Z F H Q S q=>
 h.go E Z F H _ S λv p F1 H1 b d h2=>h2.go E Z F1 H1 _ b.st λvs ps F2 H2 a c kk=>q _ _ F2 H2 (b.trans a) (.cons (d.mono a.ff) c) kk⟩
theorem BY{k:List Slot->Prop}(h:k []):Wa ss BR k:=⟨λE Z F H Q S q=>q _ _ F H (.refl S) .nil h⟩
theorem As{k:List Slot->Prop}(h:Wp ss te λp=>Wa ss t λl=>k (.is p::l)):Wa ss (Al te t) k:=⟨λE Z F H Q S q=>
 h.go E Z F H _ S λv p F1 H1 b d h2=>h2.go E Z F1 H1 _ b.st λvs l F2 H2 a c kk=>q _ _ F2 H2 (b.trans a) (.cons (s:=.is p) (d.mono a.ff) c) kk⟩
theorem Dh{k:List Slot->Prop}(h:Wq ss te λtp xs=>Wa ss t λl=>k (.sq tp xs::l)):Wa ss (Al te t) k:=⟨λE Z F H Q S q=>
 h.go E Z F H _ S λv tp xs F1 H1 b d h2=>h2.go E Z F1 H1 _ b.st λvs l F2 H2 a c kk=>q _ _ F2 H2 (b.trans a) (.cons (s:=.sq tp xs) (d.mv a) c) kk⟩
theorem pE{k:List Slot->Prop}{P:Hp->V->Prop}(hi:ss[i]?=some (.raw P))(h:Wa ss t λl=>k (.raw P::l)):Wa ss (Al (BS i) t) k:=⟨λE Z F H Q S q=>by
 obtain⟨v,e,r,st⟩:=S.ok i _ hi;exact⟨v,e,h.go E Z F H _ S λvs l F2 H2 a b kk=>q _ _ F2 H2 a (.cons (s:=.raw P) ⟨st _ _ a.ff r,st⟩ b) kk⟩⟩
theorem zV{k:Option Int->Prop}(h:k none):Wo ss WM k:=⟨λE Z F H Q S q=>q _ F H (.refl S) h⟩
theorem fk{k:Option Int->Prop}(h:Wp ss te λp=>∃i,p=.int i/\k (some i)):Wo ss (PF te) k:=⟨λE Z F H Q S q=>
 h.go E Z F H _ S λv p F1 H1 b a AH=>by obtain⟨i,e,kk⟩:=AH;subst e;cases a.inv;exact⟨i,rfl,q _ F1 H1 b kk⟩⟩
theorem XM{n:Nat}(h:n<=99999):n<sizeLine:=De (Nat.lt_succ_of_le h) (small (Az 100000))
theorem Hd(h:We ss t λps=>ps.length<=100000/\k (.tup ps)):Wp ss (Rh t) k:=⟨λE Z F H Q S q=>
 h.go E Z F H _ S λvs ps F1 H1 d b AH=>by obtain⟨e,kk⟩:=AH;exact⟨small (by rw[b.length];exact e),λa f=>by
  have c:=d.st.alloc f (.tup vs);exact q _ _ _ _ (d.trans c) (.tup AW (b.mono c.ff)) kk⟩⟩
theorem VT{k:List PV->Prop}(h:We ss t λps=>ps.length<=100000/\k ps):Wn ss (RK t) k:=⟨λE Z F H Q S q=>
 h.go E Z F H _ S λvs ps F1 H1 b d AH=>by obtain⟨g,kk⟩:=AH;exact⟨small (by rw[d.length];exact g),λa c=>by
  have f:=b.st.make c (.lst vs);refine q a vs ps F1 _ (b.trans f) (b.st.CA c) ?_ AW d kk;cases e:H a with
  |none=>rfl
  |some o=>rw[b.hh a o (b.st.PY c) e]at c;cases c⟩⟩
theorem D7(h:Wq ss te λ_ xs=>k (.int xs.length)):Wp ss (Dk (XX K) (Al te BR)) k:=⟨λE Z F H Q S q=>
 h.go E Z F H _ S λv tp xs F1 H1 a sv kk=>by
  obtain⟨l,vs,rfl,b,r⟩:=sv.seq a.st;refine⟨l,vs,rfl,(Hk.sq (K:=K) b).or,?_⟩;rw[r.length];exact q _ _ F1 H1 a (.int _) kk⟩
theorem Aa.Bp{i:Int}(r:Aa F vs xs)(h:L2.Bp xs i=some p):∃u,L2.Bp vs i=some u/\Rep F u p:=by
 unfold L2.Bp at h ⊢;rw[r.length];cases e:HN xs.length i with
 |none=>rw[e]at h;cases h
 |some j=>
  rw[e]at h;exact r.get h
theorem ZGy(h:Wq ss ta λtp xs=>tp=false/\Wp ss tb λy=>∃i p,y=.int i/\L2.Bp xs i=some p/\k p):Wp ss (C5 (Tq K) ta tb) k:=⟨λE Z F H Q S q=>
 h.go E Z F H _ S λv tp xs F1 H1 b sv⟨m,h2⟩=>h2.go E Z F1 H1 _ b.st λn p2 F2 H2 a d⟨i,p,e,j,kk⟩=>by
  subst e;cases d.inv;subst m;obtain⟨l,vs,rfl,g,r⟩:=(sv.mv a).seq a.st;obtain⟨u,f,c⟩:=r.Bp j;exact⟨l,vs,i,u,rfl,rfl,Ac.of g,f,q _ _ F2 H2 (b.trans a) c kk⟩⟩
theorem FO(h:Wq ss ta λtp xs=>tp=true/\Wp ss tb λy=>∃i p,y=.int i/\L2.Bp xs i=some p/\k p):Wp ss (C5 (NF K) ta tb) k:=⟨λE Z F H Q S q=>
 h.go E Z F H _ S λv tp xs F1 H1 b sv⟨m,h2⟩=>h2.go E Z F1 H1 _ b.st λn p2 F2 H2 a d⟨i,p,e,j,kk⟩=>by
  subst e;cases d.inv;subst m;obtain⟨l,vs,rfl,g,r⟩:=(sv.mv a).seq a.st;obtain⟨u,f,c⟩:=r.Bp j;exact⟨l,vs,i,u,rfl,rfl,AS.of g,f,q _ _ F2 H2 (b.trans a) c kk⟩⟩
theorem kW(h:Wp ss ta λp=>∃x,p=.str x/\Wq ss tb λ_ ys=>∃ns:List Str,ys=ns.map PV.str/\k (.bl (if neg then !decide (x∈ns)else decide (x∈ns)))):Wp ss (C5 (Lm K neg) ta tb) k:=⟨λE Z F H Q S q=>
 h.go E Z F H _ S λv p F1 H1 b d AH=>by
  obtain⟨x,e,h2⟩:=AH;subst e;cases d.inv;exact h2.go E Z F1 H1 _ b.st λg tp ys F2 H2 a sv Cr=>by
   obtain⟨ns,f,kk⟩:=Cr;subst f;obtain⟨l,vs,rfl,c,r⟩:=sv.seq a.st;rw[r.strs]at c;refine⟨l,_,rfl,(Hk.sq (K:=K) c).or,rfl,JC ns,?_⟩;rw[U3];exact q _ _ F2 H2 (b.trans a) (.bl _) kk⟩
theorem NP{k:List PV->Prop}(e:r=λxs H Q=>∃p ys,xs=[.ref p]/\(Ac K H p ys∨AS K H p ys)/\∀l,H l=none->Q (.ref l) (upd H l (.lst ys)))(h:Wq ss te λ_ xs=>k xs):Wn ss (Dk r (Al te BR)) k:=⟨λE Z F H Q S q=>
 h.go E Z F H _ S λv tp xs F1 H1 b sv kk=>by
  subst e;obtain⟨l,vs,rfl,f,r⟩:=sv.seq b.st;refine⟨l,vs,rfl,(Hk.sq (K:=K) f).or,λa c=>?_⟩;have d:=b.st.make c (.lst vs);exact q a vs xs F1 _ (b.trans d) (b.st.CA c) (b.none c) AW r kk⟩
theorem Ql(d:r=λxs H Q=>∃p ys,xs=[.ref p]/\((Ac K H p ys/\∀l,H l=none->Q (.ref l) (upd H l (.tup ys)))∨(AS K H p ys/\Q (.ref p) H)))(h:Wq ss te λ_ xs=>k (.tup xs)):Wp ss (Dk r (Al te BR)) k:=⟨λE Z F H Q S q=>
 h.go E Z F H _ S λv tp xs F1 H1 b sv kk=>by
  subst d;cases tp with
  |false=>
   obtain⟨l,vs,rfl,f,r⟩:=sv.seq b.st;refine⟨l,vs,rfl,.inl ⟨Ac.of f,λa g=>?_⟩⟩;have c:=b.st.alloc g (.tup vs);exact q _ _ _ _ (b.trans c) (.tup AW (r.mono c.ff)) kk
  |true=>
   have i:Rep F1 v (.tup xs):=sv;cases i with
   |tup e r=>exact⟨_,_,rfl,.inr ⟨AS.of (b.st.fh _ _ e),q _ _ F1 H1 b (.tup e r) kk⟩⟩⟩
theorem qQ{k:List PV->Prop}(h:Wq ss ta λtp xs=>tp=false/\Wq ss tb λCT ys=>CT=false/\xs.length+ys.length<=100000/\k (xs++ys)):Wn ss (C5 mI ta tb) k:=⟨λE Z F H Q S q=>
 h.go E Z F H _ S λv tp xs F1 H1 c sv⟨m,h2⟩=>h2.go E Z F1 H1 _ c.st λo CT ys F2 H2 b n⟨e,i,kk⟩=>by
  subst m;subst e;obtain⟨l,vs,rfl,j,r⟩:=(sv.mv b).seq b.st;obtain⟨l2,K7,rfl,FA,f⟩:=n.seq b.st;refine⟨l,l2,vs,K7,rfl,rfl,j,FA,small (by rw[r.length,f.length];exact i),λa d=>?_⟩;have g:=b.st.make d (.lst (vs++K7));exact q a _ _ F2 _ (c.trans (b.trans g)) (b.st.CA d) ((c.trans b).none d) AW (r.append f) kk⟩
def GC{α:Type}(xs:List α)(lo hi:Option Int):List α:=(xs.drop (HT.Ar xs.length 0 lo)).take (HT.Ar xs.length xs.length hi - HT.Ar xs.length 0 lo)
theorem Aa.cut(r:Aa F vs xs)(lo hi:Option Int):Aa F (Cp vs lo hi) (GC xs lo hi):=by
 unfold Cp GC;rw[r.length];exact(r.drop _).take _
noncomputable def vW(tp:Bool)(xs:List PV):PV:=if tp then .tup xs else .lst xs
def UA(K:ZIV):V->Option Int->Option Int->Hp->VK->Prop:=λx lo hi H Q=>eG K x lo hi H Q∨jY K x lo hi H Q
theorem Oc{X:Cx}:Lh X (UA X.K):=by
 intro Zy s Z H x v vl vu lo hi sl Q I a c pl b h;rcases h with h|h
 .exact NH Zy s Z H x v vl vu lo hi sl Q I a c pl b h
 .exact ZG5 Zy s Z H x v vl vu lo hi sl Q I a c pl b h
theorem d7{tl th:TO}(h:Wq ss te λtp xs=>Wo ss tl λlo=>Wo ss th λhi=>k (vW tp (GC xs lo hi))):Wp ss (Qh (UA K) te tl th) k:=⟨λE Z F H Q S q=>
 h.go E Z F H _ S λv tp xs F1 H1 i sv h2=>h2.go E Z F1 H1 _ i.st λlo F2 H2 d o=>o.go E Z F2 H2 _ d.st λhi F3 H3 b kk=>by
  have m:=sv.mv (d.trans b);have g:=i.trans (d.trans b);cases tp with
  |false=>
   obtain⟨l,vs,rfl,n,r⟩:=m.seq b.st;refine .inl ⟨l,vs,rfl,Ac.of n,λa f=>?_⟩;have c:=b.st.alloc f (.lst (Cp vs lo hi));exact q _ _ _ _ (g.trans c) (.lst AW ((r.cut lo hi).mono c.ff)) kk
  |true=>
   have s:Rep F3 v (.tup xs):=m;cases s with
   |@tup _ vs _ e r=>
    refine .inr ⟨_,vs,rfl,AS.of (b.st.fh _ _ e),λhw=>?_,λhw a f=>?_⟩
    .have p:GC xs lo hi=xs:=by
      rw[r.length]at hw;unfold GC;rw[hw.1,hw.2];simp
     refine q _ _ F3 H3 g (.tup e r) ?_;have j:=kk;rw[p]at j;exact j
    .have c:=b.st.alloc f (.tup (Cp vs lo hi));exact q _ _ _ _ (g.trans c) (.tup AW ((r.cut lo hi).mono c.ff)) kk⟩
theorem pS{k:List PV->Prop}(h:Wq ss te λ_ xs=>∃ns:List Str,xs=ns.map PV.str/\ns.length<64/\∀Bk:List Str,Bk.Perm ns->sortedS Bk=true->k (Bk.map PV.str)):Wn ss (Dk (Vi K) (Al te BR)) k:=⟨λE Z F H Q S q=>
 h.go E Z F H _ S λv tp xs F1 H1 b sv AH=>by
  obtain⟨ns,e,g,kk⟩:=AH;subst e;obtain⟨l,vs,rfl,d,r⟩:=sv.seq b.st;rw[r.strs]at d;refine⟨l,tp,ns,rfl,Hk.sq d,g,λa Bk c j i=>?_⟩;have f:=b.st.make c (.lst (Bk.map V.str));exact q a _ _ F1 _ (b.trans f) (b.st.CA c) (b.none c) AW (N9 Bk) (kk Bk j i)⟩
theorem wu(xs ys:List Str):Gs (xs.map V.str) (ys.map V.str)=decide (xs=ys):=by
 by_cases h:xs=ys
 .subst h;rw[vq,oW rfl]
 .rw[sS h]
  by_cases a:xs.length=ys.length
  .rw[O3 (by simpa using a)]
   cases c:(List.range (xs.map V.str).length).all λj=>E6 ((xs.map V.str).getD j .A8) ((ys.map V.str).getD j .A8)with
   |false=>rfl
   |true=>
    exfalso;apply h;apply List.ext_getElem a;intro j h1 h2;have q:=List.all_eq_true.mp c j (List.mem_range.mpr (by simpa using h1))
    have e:(xs.map V.str)[j]?=some (.str xs[j]):=by rw[Bc,BG h1];rfl
    have d:(ys.map V.str)[j]?=some (.str ys[j]):=by rw[Bc,BG h2];rfl
    rw[Oe e,Oe d]at q;have b:(xs[j] == ys[j])=true:=q
    simpa using b
  .rw[Nv (by simpa using a)]
theorem mn(h:Wq ss ta λtp xs=>∃ns:List Str,xs=ns.map PV.str/\Wq ss tb λCT ys=>CT=tp/\∃ms:List Str,ys=ms.map PV.str/\k (.bl (if neg then !decide (ns=ms)else decide (ns=ms)))):Wp ss (C5 (Oz K neg) ta tb) k:=⟨λE Z F H Q S q=>
 h.go E Z F H _ S λv tp xs F1 H1 b sv⟨ns,g,h2⟩=>h2.go E Z F1 H1 _ b.st λj CT ys F2 H2 a i⟨e,ms,f,kk⟩=>by
  subst g;subst f;subst e;obtain⟨l,vs,rfl,c,r⟩:=(sv.mv a).seq a.st;obtain⟨l2,K7,rfl,FA,d⟩:=i.seq a.st;rw[r.strs]at c;rw[d.strs]at FA;refine⟨l,l2,ns.map V.str,ms.map V.str,rfl,rfl,?_,JC _,JC _,?_⟩
  .cases CT
   .exact .inl ⟨Ac.of c,Ac.of FA⟩
   .exact .inr ⟨AS.of c,AS.of FA⟩
  .rw[wu];cases neg
   .exact q _ _ F2 H2 (b.trans a) (.bl _) kk
   .exact q _ _ F2 H2 (b.trans a) (.bl _) kk⟩
noncomputable def tyP:PV->String
 | .A8 => "NoneType"
 | .bl _ => "bool"
 | .int _ => "int"
 | .str _ => "str"
 | .lst _ => "list"
 | .tup _ => "tuple"
 | .B2 _ _ => "dict"
 |_ => ""
def NY:PV->Value
 | .obj _ _ _=>.none
 | .exc _ _ _=>.none
 | .con _ _=>.none
 |p=>.type (tyP p)
theorem Ss(h:PySem.W.kitOne K .none (.type n)=some b):False:=by
 unfold PySem.W.kitOne PySem.W.kitCls PySem.W.subIn at h;simp at h
theorem Rep.ZBn(s:AB F H)(r:Rep F v p)(a:PySem.W.kitOne K (NY p) (.type n)=some b):FR K H v (NY p):=by
 cases r with
 |A8=>exact .A8
 |bl b=>exact .bl b
 |int i=>exact .int i
 |str x=>exact .str x
 |lst h _=>exact .lst (s _ _ h)
 |tup h _=>exact .tup (s _ _ h)
 |B2 h _ _=>exact .dK (s _ _ h)
 |obj _ _ _ _=>exact(Ss a).elim
 |OU _=>exact(Ss a).elim
 |con=>exact(Ss a).elim
 |exc _ _ _ _=>exact(Ss a).elim
theorem dz(h:Wp ss te λp=>∃b,PySem.W.kitOne K (NY p) (.type n)=some b/\k (.bl b)):Wp ss (Dk (fg K) (Al te (Al (tC (.ty n)) BR))) k:=⟨λE Z F H Q S q=>
 h.go E Z F H _ S λv p F1 H1 a r AH=>by obtain⟨b,c,kk⟩:=AH;exact⟨v,n,_,b,rfl,r.ZBn a.st.fh c,c,q _ _ F1 H1 a (.bl _) kk⟩⟩
theorem uI(e:r=λxs H Q=>∃i j,xs=[.int i,.int j]/\Q (.int (if j > i then j else i)) H)(h:Wp ss ta λx=>∃i,x=.int i/\Wp ss tb λy=>∃j,y=.int j/\k (.int (if j > i then j else i))):Wp ss (Dk r (Al ta (Al tb BR))) k:=⟨λE Z F H Q S q=>
 h.go E Z F H _ S λv p F1 H1 a c AH=>by
  obtain⟨i,g,h2⟩:=AH;subst e;subst g;cases c.inv;exact h2.go E Z F1 H1 _ a.st λl p2 F2 H2 d b Cr=>by
   obtain⟨j,f,kk⟩:=Cr;subst f;cases b.inv;exact⟨i,j,rfl,q _ _ F2 H2 (a.trans d) (.int _) kk⟩⟩
theorem ZGJ(e:r=λxs H Q=>∃i j,xs=[.int i,.int j]/\Q (.int (if j<i then j else i)) H)(h:Wp ss ta λx=>∃i,x=.int i/\Wp ss tb λy=>∃j,y=.int j/\k (.int (if j<i then j else i))):Wp ss (Dk r (Al ta (Al tb BR))) k:=⟨λE Z F H Q S q=>
 h.go E Z F H _ S λv p F1 H1 a c AH=>by
  obtain⟨i,g,h2⟩:=AH;subst e;subst g;cases c.inv;exact h2.go E Z F1 H1 _ a.st λl p2 F2 H2 d b Cr=>by
   obtain⟨j,f,kk⟩:=Cr;subst f;cases b.inv;exact⟨i,j,rfl,q _ _ F2 H2 (a.trans d) (.int _) kk⟩⟩
end
structure Src (E:Ent0) (F1:Hp) (J:It) (xs:List PV):Prop where
 go:∀(ss:List Slot)(Z:L2.St)(F H:Hp)(i:Nat),AB F1 F->Sg E ss Z F H->i<xs.length->J.go i H
 stop:∀(ss:List Slot)(Z:L2.St)(F H:Hp),AB F1 F->Sg E ss Z F H->J.stop xs.length H
 HA:∀(ss:List Slot)(Z:L2.St)(F H:Hp)(i:Nat)(x:V)(H':Hp),AB F1 F->Sg E ss Z F H->i<xs.length->J.HA i H x H'->∃p F',xs[i]?=some p/\Mv E ss Z F H F' H'/\Rep F' x p
structure Wi [Xw] (ss:List Slot) (wi:TI) (k:List PV->Prop):Prop where
 go:∀(E:Ent)(Z:L2.St)(F H:Hp)(R:It->Hp->Prop),Sg E ss Z F H->(∀J xs F' H',Mv E ss Z F H F' H'->Src E F' J xs->k xs->R J H')->wi Z H R
structure Wg [Xw] (ss:List Slot) (g:TG) (p:PV) (k:List Slot->Prop):Prop where
 go:∀(E:Ent)(Z:L2.St)(F H:Hp)(v:V)(Q:L2.St->Hp->Prop),Sg E ss Z F H->Rep F v p->(∀AN σ',k AN->Sg E AN σ' F H->Q σ' H)->g v Z H Q
section
variable[Xw]
variable{K:ZIV}{k:PV->Prop}{R:Aq}
theorem d8(h:∀(ss:List Slot)(Z:L2.St)(F H:Hp),AB F' F->Sg E ss Z F H->H l=some (Hk tp vs))(r:Aa F' vs xs):Src E F' (P8 K tp l vs) xs where
 go:=λss Z F H i s S hi=>⟨Hk.sq (h ss Z F H s S),by rw[r.length];exact hi⟩
 stop:=λss Z F H s S=>⟨Hk.sq (h ss Z F H s S),by rw[r.length];exact Az _⟩
 HA:=λss Z F H i x H' s S hi y=>by
  obtain⟨e,hx⟩:=y;subst e;obtain⟨p,b,a⟩:=r.get' hx;exact⟨p,F,b,.refl S,a.mono s⟩
theorem Ot{k:List PV->Prop}(h:Wz ss te λ_ xs=>k xs):Wi ss (Xp K te) k:=⟨λE Z F H R S q=>
 h.go E Z F H _ S λv tp xs F1 H1 a f kk=>by
  cases tp with
  |true=>
   have c:Rep F1 v (.tup xs):=f;cases c with
   |tup e r=>exact⟨true,_,_,rfl,AS.of (a.st.fh _ _ e),q _ _ F1 H1 a (d8 (tp:=true) (λss Z F H s S=>S.fh _ _ (s _ _ e)) r) kk⟩
  |false=>
   obtain⟨l,vs,rfl,h1,r⟩:=f;have b:∀(ss:List Slot)(Z:L2.St)(F H:Hp),AB F1 F->Sg E ss Z F H->H l=some (.lst vs):=λss Z F H s S=>by
    rcases h1 with h1|⟨hA,h1⟩
    .exact S.fh _ _ (s _ _ h1)
    .exact S.keep _ _ hA h1
   exact⟨false,l,vs,rfl,Ac.of (b ss Z F1 H1 (AB.refl _) a.st),q _ _ F1 H1 a (d8 (tp:=false) b r) kk⟩⟩
noncomputable def LL(n:Nat):List PV:=(List.range n).map λi:Nat=>PV.int (i:Int)
theorem Pw(n:Nat):(LL n).length=n:=by simp[LL]
theorem ZDv{n:Nat}(h:(LL n)[i]?=some p):i<n/\p=.int (i:Int):=by
 have hi:i<n:=by have:=(List.getElem?_eq_some_iff.mp h).1;rwa [Pw]at this
 unfold LL at h;rw[Bc,Uc hi]at h;exact⟨hi,(Bo h).symm⟩
theorem ZGQ{k:List PV->Prop}(h:Wp ss te λp=>∃j:Int,p=.int j/\j<=1000000/\-1000000<=j/\k (LL j.toNat)):Wi ss (WG (Al te BR)) k:=⟨λE Z F H R S q=>
 h.go E Z F H _ S λv p F1 H1 a r AH=>by
  obtain⟨j,e,h1,h2,kk⟩:=AH;subst e;cases r.inv;refine⟨j,rfl,by omega,by omega,q _ (LL j.toNat) F1 H1 a ⟨λss Z F H i s S hi=>?_,λss Z F H s S=>?_,λss Z F H i x H' s S hi y=>?_⟩ kk⟩
  .rw[Pw]at hi;exact hi
  .show _<=_;rw[Pw];exact Az _
  .obtain⟨e,hx⟩:=y;subst e;subst hx;rw[Pw]at hi;refine⟨.int (i:Int),F,?_,.refl S,?_⟩
   .unfold LL;rw[Bc,Uc hi];rfl
   .rw[Int.zero_add];exact .int _⟩
theorem Q4{k:List Slot->Prop}(h:k (ss.set j (.is p))):Wg ss (Cd j) p k:=⟨λE Z F H v Q S r q=>q _ _ h (S.Er r)⟩
theorem ZAj{k:List Slot->Prop}(h:∃a b,p=.tup [a,b]/\k ((ss.set i (.is a)).set j (.is b))):Wg ss (QD K 2 (IE (Cd i) (IE (Cd j) Oa))) p k:=⟨λE Z F H v Q S r q=>by
 obtain⟨a,b,rfl,kk⟩:=h;obtain⟨_,_,rfl,e,r⟩:=r.inv;obtain⟨_,_,rfl,d,r⟩:=r.inv;obtain⟨_,_,rfl,c,r⟩:=r.inv;obtain rfl:=r.DS;exact⟨_,_,rfl,AS.of (S.fh _ _ e),rfl,_,_,rfl,_,_,rfl,rfl,q _ _ kk ((S.Er d).Er c)⟩⟩
theorem ZF1{l:Nat}{k:List Slot->Prop}(h:∃a b c,p=.tup [a,b,c]/\k (((ss.set i (.is a)).set j (.is b)).set l (.is c))):Wg ss (QD K 3 (IE (Cd i) (IE (Cd j) (IE (Cd l) Oa)))) p k:=⟨λE Z F H v Q S r q=>by
 obtain⟨a,b,c,rfl,kk⟩:=h;obtain⟨_,_,rfl,e,r⟩:=r.inv;obtain⟨_,_,rfl,g,r⟩:=r.inv;obtain⟨_,_,rfl,f,r⟩:=r.inv;obtain⟨_,_,rfl,d,r⟩:=r.inv;obtain rfl:=r.DS;exact⟨_,_,rfl,AS.of (S.fh _ _ e),rfl,_,_,rfl,_,_,rfl,_,_,rfl,rfl,q _ _ kk (((S.Er g).Er f).Er d)⟩⟩
theorem An{t:TS}(h:Ws ss t (λAN=>Ws AN u nx R) R):Ws ss (LZ t u) nx R:=⟨λE D Z F H S hn a=>
 h.go E { D with nx:=u D } Z F H S (λAN σ' F' H' w S' s=>w.go E D σ' F' H' S' (λDf σ2 F2 H2 n2 S2 s2=>hn Df σ2 F2 H2 n2 S2 (s.trans s2)) a) a⟩
theorem Ff{t:TS}(h:Ws ss t nx R):Ws ss (Vj t) nx R:=⟨λE D Z F H S hn a=>⟨D.nx,h.go E { D with nx:=D.nx } Z F H S hn a,λ_ _ q=>q⟩⟩
theorem Ws.mono{t:TS}(h:Ws ss t nx R)(i:∀s,nx s->UJ s):Ws ss t UJ R:=⟨λE D Z F H S hn a=>h.go E D Z F H S (λAN σ' F' H' n=>hn AN σ' F' H' (i _ n)) a⟩
theorem Yy{t:TS}(J:List Slot->Prop)(h:Ws ss t J R)(h2:∀AN,J AN->Ws AN u nx R):Ws ss (LZ t u) nx R:=An (h.mono h2)
theorem JY(h:Wp ss te λp=>nx (ss.set i (.is p))):Ws ss (Ep te (Cd i)) nx R:=⟨λE D Z F H S hn b=>
 h.go E Z F H _ S λv p F1 H1 a r kk=>hn _ _ F1 H1 kk (a.st.Er r) a.ff⟩
theorem y9(h:Wp ss te λp=>Wg ss g p nx):Ws ss (Ep te g) nx R:=⟨λE D Z F H S hn b=>
 h.go E Z F H _ S λv p F1 H1 a r kk=>kk.go E Z F1 H1 v _ a.st r λAN σ' n S'=>hn _ _ F1 H1 n S' a.ff⟩
theorem Nt(h:Wn ss te λxs=>nx (ss.set i (.own xs))):Ws ss (Ep te (Cd i)) nx R:=⟨λE D Z F H S hn k=>
 h.go E Z F H _ S λl vs xs F1 H1 a f b PD r kk=>hn _ _ F1 H1 kk (a.st.setG ⟨l,vs,rfl,f,S.EK b,PD,r⟩ λg e j u _ d c=>by cases e;exact S.OR d b c) a.ff⟩
theorem CB(h:Wp ss te k):Ws ss (Gf te) nx (.is k):=⟨λE D Z F H S hn b=>
 h.go E Z F H _ S λv p F1 H1 a r kk=>b v F1 H1 a.st.toFin ⟨p,r,kk⟩⟩
theorem Nn{k:List PV->Prop}(h:Wn ss te k):Ws ss (Gf te) nx (.new k):=⟨λE D Z F H S hn b=>
 h.go E Z F H _ S λl vs xs F1 H1 a d c PD r kk=>b _ F1 H1 a.st.toFin ⟨l,vs,xs,rfl,d,S.EK c,PD,r,kk⟩⟩
theorem Bu{c:TT}{t:TS}(h:Wt ss c λb=>if b=true then Ws ss t nx R else Ws ss u nx R):Ws ss (NS c t u) nx R:=⟨λE D Z F H S hn d=>
 h.go E Z F H _ S λb F1 H1 a w=>by
  show if b=true then _ else _
  cases b with
  |true=>rw[rG rfl]at w ⊢;exact w.go E D Z F1 H1 a.st (λDf σ2 F2 H2 n S2 s2=>hn Df σ2 F2 H2 n S2 (a.ff.trans s2)) d
  |false=>rw[qP (by decide)]at w ⊢;exact w.go E D Z F1 H1 a.st (λDf σ2 F2 H2 n S2 s2=>hn Df σ2 F2 H2 n S2 (a.ff.trans s2)) d⟩
theorem Ab(h:nx ss):Ws ss RE nx R:=⟨λE D Z F H S hn a=>hn ss Z F H h S (AB.refl _)⟩
theorem Ke(h:Wp ss te λ_=>nx ss):Ws ss (Kt te) nx R:=⟨λE D Z F H S hn b=>
 h.go E Z F H _ S λv p F1 H1 a r kk=>hn ss Z F1 H1 kk a.st a.ff⟩
theorem Sg.drop(S:Sg E ss Z F H)(i:Nat):Sg E (ss.set i .any) Z F H:=by
 have Dr:∀(j:Nat)u,(ss.set i .any)[j]?=some u->u=.any∨ss[j]?=some u:=λj u a=>by
  by_cases q:j=i
  .subst q;have e:j<ss.length:=by have:=(List.getElem?_eq_some_iff.mp a).1;simpa using this
   rw[Cm e]at a;exact .inl (Bo a).symm
  .rw[CJ (BN q)]at a;exact .inr a
 refine⟨S.toFin,by rw[Jl];exact S.len,λj u a=>?_,λj k u w l Tc a d c b=>?_⟩
 .rcases Dr j u a with rfl|h
  .trivial
  .exact S.ok j u h
 .rcases Dr j u a with rfl|h
  .cases c
  .rcases Dr k w d with rfl|h2
   .cases b
   .exact S.CG j k u w l Tc h h2 c b
theorem QC(e:Z[i]?=some (some v)):Z.set i (some v)=Z:=by
 apply bq;intro j
 by_cases q:j=i
 .subst q;rw[Cm (List.getElem?_eq_some_iff.mp e).1,e]
 .rw[CJ (BN q)]
theorem Sg.Zz(S:Sg E ss Z F H)(j:F a=none)(c:E.H0 a=none∨a∈E.B)(hn:∀(i:Nat)s,ss[i]?=some s->¬ Be s Z[i]? a):Sg E ss Z F (upd H a o):=by
 have f:∀b u,b≠a->H b=some u->upd H a o b=some u:=λb u h e=>by rw[AY h];exact e
 refine⟨⟨λb u e=>?_,S.f0,λb u d e=>?_,S.fresh,λb d=>?_,S.La,S.a0,S.bF,λb g=>?_,S.b0⟩,S.len,λi s hi=>?_,S.CG⟩
 .exact f b u (DH e j) (S.fh b u e)
 .refine f b u ?_ (S.keep b u d e);rintro rfl;rcases c with c|c
  .rw[c]at e;cases e
  .exact d.2 c
 .refine Bz.keep (S.Gm b d) λu e=>f b u ?_ e;rintro rfl;rcases c with c|c
  .exact S.a0 _ d c
  .exact(S.b0 _ c).2 d
 .by_cases q:b=a
  .subst q;rw[AW];simp
  .rw[AY q];exact S.bH b g
 .by_cases np:s=.AV
  .subst np;obtain⟨l,e,p,n,k⟩:=S.ok i _ hi;exact⟨l,e,p,n,Bz.keep k λu h=>f l u (by rintro rfl;exact hn i _ hi e) h⟩
  .exact Ok.go S hi (AB.refl _) (λb u m h=>f b u (by rintro rfl;exact hn i _ hi m) h) (λ_ _ h=>h) np
theorem Sg.put(S:Sg E ss Z F H){ys:List PV}(hi:ss[i]?=some (.own xs))(e:Z[i]?=some (some (.ref l)))(f:F l=none)(d:E.H0 l=none)(r:Aa F CY ys):Sg E (ss.set i (.own ys)) Z F (upd H l (.lst CY)):=by
 have a:∀(j:Nat)s,(ss.set i .any)[j]?=some s->¬ Be s Z[j]? l:=λj s b c=>by
  by_cases q:j=i
  .subst q;have p:j<ss.length:=(List.getElem?_eq_some_iff.mp hi).1;rw[Cm p]at b;cases b;cases c
  .rw[CJ (BN q)]at b;exact S.CG j i s _ l q b hi c e
 have n:=(S.drop i).Zz (o:=.lst CY) f (.inl d) a;have g:=n.setG (j:=i) (s:=.own ys) (v:=.ref l) ⟨l,CY,rfl,f,d,AW,r⟩ λt m j u b k h=>by cases m;exact a j u k h
 rw[QC e,Uh]at g;exact g
theorem zD(hi:ss[i]?=some (.own xs))(h:Wp ss te λp=>xs.length<=99999/\nx (ss.set i (.own (xs++[p])))):Ws ss (Kt (ON K "list" Yo (BS i) (Al te BR))) nx R:=⟨λE D Z F H S hn k=>by
 obtain⟨l,vs,e,n,m,g,r⟩:=S.ok i _ hi;refine⟨_,e,.inl ⟨rfl,_,Ac.of g⟩,h.go E Z F H _ S λv p F1 H1 a d⟨f,kk⟩=>?_⟩;obtain⟨j,CY,c,Ef,D3,Xq,b⟩:=a.st.ok i _ hi;rw[e]at c;cases c;refine⟨l,CY,v,rfl,rfl,Xq,XM (by rw[b.length];exact f),?_⟩;exact hn _ Z F1 _ kk (a.st.put hi e Ef D3 (b.append (.one d))) a.ff⟩
noncomputable def CD(F H:Hp)(as:List Addr):Hp:=λa=>if a∈as then H a else F a
theorem Sg.lay(S:Sg E ss Z F H)(as:List Addr)(g:∀a∈as,F a=none/\E.H0 a=none/\H a≠none)(hn:∀a∈as,∀(i:Nat)s,ss[i]?=some s->¬ Be s Z[i]? a):Sg E ss Z (CD F H as) H/\AB F (CD F H as):=by
 have x:∀a,a∈as->CD F H as a=H a:=λa h=>rG h;have j:∀a,a∉as->CD F H as a=F a:=λa h=>qP h;have ff:AB F (CD F H as):=λa o e=>by
  by_cases q:a∈as
  .rw[(g a q).1]at e;cases e
  .rw[j a q];exact e
 have f:∀a,a∉as->F a=none->CD F H as a=none:=λa q h=>by rw[j a q];exact h
 refine⟨⟨⟨λa o e=>?_,S.f0.trans ff,S.keep,λa o e=>?_,S.Gm,λa w=>?_,S.a0,λa u=>?_,S.bH,S.b0⟩,S.len,λi s hi=>?_,S.CG⟩,ff⟩
 .by_cases q:a∈as
  .rw[x a q]at e;exact e
  .rw[j a q]at e;exact S.fh a o e
 .by_cases q:a∈as
  .exact .inr (g a q).2.1
  .rw[j a q]at e;exact S.fresh a o e
 .exact f a (λq=>S.a0 a w (g a q).2.1) (S.La a w)
 .exact f a (λq=>(S.b0 a u).1 (g a q).2.1) (S.bF a u)
 .have l:∀a,Be s Z[i]? a->a∉as:=λa m q=>hn a q i s hi m;have kk:=S.ok i s hi;cases s with
  |any=>trivial
  |is p=>obtain⟨v,e,r⟩:=kk;exact⟨v,e,r.mono ff⟩
  |own ys=>
   obtain⟨b,ws,q,d,c,k,r⟩:=kk;exact⟨b,ws,q,f b (l b q) d,c,k,r.mono ff⟩
  |AV=>
   obtain⟨b,q,d,c,k⟩:=kk;exact⟨b,q,f b (l b q) d,c,k⟩
  |sq tp ys=>
   cases tp with
   |true=>obtain⟨v,e,r⟩:=kk;exact⟨v,e,r.mono ff⟩
   |false=>obtain⟨b,ws,q,d,c,r⟩:=kk;exact⟨b,ws,q,d,c,r.mono ff⟩
  |raw P=>obtain⟨v,e,r,st⟩:=kk;exact⟨v,e,st _ _ ff r,st⟩
  |ow lt t=>
   obtain⟨v,e,r,nd,q⟩:=kk;exact⟨v,e,r.mono ff λa _ o h=>h,nd,λa n=>⟨f a (l a n) (q a n).1,(q a n).2⟩⟩
theorem Ln{t:TS}(i:Nat)(hi:ss[i]?=some (.own xs))(h:Ws (ss.set i (.is (.lst xs))) t nx R):Ws ss t nx R:=⟨λE D Z F H S hn g=>by
 obtain⟨l,vs,e,o,k,f,r⟩:=S.ok i _ hi;have one:∀a,a∈[l]->a=l:=λa h=>by simpa using h
 obtain⟨S1,d⟩:=(S.drop i).lay [l] (λa h=>by rw[one a h,f];exact⟨o,k,by simp⟩) λa h j s b m=>by
  rw[one a h]at m
  by_cases q:j=i
  .subst q;rw[Cm (List.getElem?_eq_some_iff.mp hi).1]at b;cases b;cases m
  .rw[CJ (BN q)]at b;exact S.CG j i s _ l q b hi m e
 have c:=S1.Er (j:=i) (v:=.ref l) (p:=.lst xs) (.lst (by unfold CD;rw[rG (by simp)];exact f) (r.mono d));rw[QC e,Uh]at c;exact h.go E D Z _ H c (λDf σ2 F2 H2 n c s2=>hn Df σ2 F2 H2 n c (d.trans s2)) g⟩
theorem Ld{tb:TS}(I:List PV->Nat->List Slot->Prop)(h:Wi ss wi λxs=>I xs 0 ss/\(∀(i:Nat)p AN,xs[i]?=some p->I xs i AN->Wg AN g p λDf=>Ws Df tb (I xs (i+1)) R)/\∀AN,I xs xs.length AN->nx AN):Ws ss (Yc wi g tb) nx R:=⟨λE D Z F H S hn u=>
 h.go E Z F H _ S λJ xs F1 H1 k d AH=>by
  obtain⟨i0,t,hd⟩:=AH;refine⟨λi m σ' H'=>m=xs.length - i/\i<=xs.length/\∃AN F',I xs i AN/\Sg E AN σ' F' H'/\AB F1 F',⟨_,rfl,Cn _,ss,F1,i0,k.st,AB.refl _⟩,?_⟩;rintro i m σ' H'⟨rfl,hi,AN,F',l,S',s'⟩
  by_cases f:i<xs.length
  .refine .inr ⟨d.go AN σ' F' H' i s' S' f,λσ2 H2=>∃Df F2,I xs (i+1) Df/\Sg E Df σ2 F2 H2/\AB F1 F2,λσ2 H2 Cr=>by obtain⟨Df,F2,a,b,c⟩:=Cr;exact⟨_,by omega,rfl,f,Df,F2,a,b,c⟩,λx H3 y=>?_⟩;obtain⟨p,F3,v,j,q⟩:=d.HA AN σ' F' H' i x H3 s' S' f y;refine(t i p AN v l).go E σ' F3 H3 x _ j.st q λn σ4 w S4=>?_;exact w.go E _ σ4 F3 H3 S4 (λr σ5 F5 H5 s S5 o=>⟨r,F5,s,S5,(s'.trans j.ff).trans o⟩) u
  .have e:i=xs.length:=by omega
   subst e;exact .inl ⟨d.stop AN σ' F' H' s' S',hn AN σ' F' H' (hd AN l) S' (k.ff.trans s')⟩⟩
end
noncomputable def EC(js:List Nat)(ss:List Slot):List Slot:=js.map λj=>(ss[j]?).getD .any
def V1(js:List Nat)(ss:List Slot):Bool:=js.all λj=>match ss[j]? with
 |some .AV=>false
 |_=>true
section
variable[Xw]
variable{K:ZIV}{js:List Nat}
theorem ZC2(h:js[i]?=some j)(e:(EC js ss)[i]?=some s):s=(ss[j]?).getD .any:=by
 unfold EC at e;rw[Bc,h]at e;exact(Bo e).symm
theorem Sg.Ao(S:Sg E ss Z F H)(nd:js.Nodup)(r:Aa F vs ps):Sg E (EC js ss++ps.map .is) (C0 js Z++vs.map some) F H:=by
 have c:(EC js ss).length=js.length:=by simp[EC]
 have d:(C0 js Z).length=js.length:=by simp[C0]
 have Dr:∀(i:Nat)(hi:i<js.length),(EC js ss++ps.map .is)[i]?=some ((ss[js[i]]?).getD .any)/\(C0 js Z++vs.map some)[i]?=some ((Z[js[i]]?).join):=λi hi=>by
  rw[HW (by rw[c];exact hi),HW (by rw[d];exact hi)];unfold EC C0;rw[Bc,Bc,BG hi];exact⟨rfl,rfl⟩
 have at2:∀(i:Nat)s,js.length<=i->(EC js ss++ps.map .is)[i]?=some s->∃p v,s=.is p/\(C0 js Z++vs.map some)[i]?=some (some v)/\Rep F v p:=λi s hi e=>by
  rw[Jk (by rw[c];exact hi),c,Bc]at e;rw[Jk (by rw[d];exact hi),d,Bc];cases q:ps[i - js.length]? with
  |none=>rw[q]at e;cases e
  |some p=>
   rw[q]at e;obtain⟨v,g,f⟩:=r.get q;rw[g];exact⟨p,v,(Bo e).symm,rfl,f⟩
 have B:∀(s:Slot)(m:Nat)(l:Addr),Be s (some (Z[m]?).join) l->Be s Z[m]? l:=λs m l o=>by
  have k:∀l,some (Z[m]?).join=some (some (V.ref l))->Z[m]?=some (some (.ref l)):=λl e=>by
   cases q:Z[m]? with
   |none=>rw[q]at e;cases e
   |some o=>rw[q]at e;cases o with
    |none=>cases e
    |some v=>simpa using e
  cases s with
  |own xs=>exact k l o
  |AV=>exact k l o
  |ow lt t=>exact o
  |_=>exact o
 have h:∀(i:Nat)s l,(EC js ss++ps.map .is)[i]?=some s->Be s (C0 js Z++vs.map some)[i]? l->∃hi:i<js.length,ss[js[i]]?=some s/\Be s Z[js[i]]? l:=λi s l e m=>by
  by_cases hi:i<js.length
  .rw[(Dr i hi).2]at m;refine⟨hi,?_,B s _ l m⟩;rw[(Dr i hi).1]at e;cases q:ss[js[i]]? with
   |none=>rw[q]at e;cases e;cases m
   |some u=>rw[q]at e;exact e
  .obtain⟨p,v,rfl,_⟩:=at2 i s (by omega) e;cases m
 refine⟨S.toFin,?_,λi s e=>?_,λi j s u l FI hi A ms z=>?_⟩
 .rw[CK,CK,c,d,AL,AL,r.length]
 .by_cases hi:i<js.length
  .obtain⟨a,b⟩:=Dr i hi;rw[a]at e;rw[b];cases q:ss[js[i]]? with
   |none=>rw[q]at e;cases e;trivial
   |some u=>
    rw[q]at e;have C:u=s:=Bo e;subst C;have kk:=S.ok _ _ q;cases u with
    |any=>trivial
    |is p=>obtain⟨v,e,r⟩:=kk;rw[e];exact⟨v,rfl,r⟩
    |own xs=>obtain⟨l,vs,e,r⟩:=kk;rw[e];exact⟨l,vs,rfl,r⟩
    |AV=>obtain⟨l,e,r⟩:=kk;rw[e];exact⟨l,rfl,r⟩
    |sq tp xs=>
     cases tp with
     |true=>obtain⟨v,e,r⟩:=kk;rw[e];exact⟨v,rfl,r⟩
     |false=>obtain⟨l,vs,e,r⟩:=kk;rw[e];exact⟨l,vs,rfl,r⟩
    |raw P=>obtain⟨v,e,r⟩:=kk;rw[e];exact⟨v,rfl,r⟩
    |ow lt t=>obtain⟨v,e,r⟩:=kk;rw[e];exact⟨v,rfl,r⟩
  .obtain⟨p,v,rfl,g,f⟩:=at2 i s (by omega) e;rw[g];exact⟨v,rfl,f⟩
 .obtain⟨G,w,y⟩:=h i s l hi ms;obtain⟨D,n,x⟩:=h j u l A z;refine S.CG js[i] js[j] s u l (λe=>FI ?_) w n y x;exact(ZHI nd).mp e
theorem Mv.out(S:Sg E ss Z F H)(np:V1 js ss=true)(m:Mv E (EC js ss++ps.map .is) τ F H F' H'):Mv E ss Z F H F' H':=by
 have nn:∀a,Cw (EC js ss++ps.map .is) τ a:=λa i hi _=>by
  by_cases h:i<(EC js ss).length
  .rw[HW h]at hi;have c:i<js.length:=by simpa[EC]using h
   have q:=ZC2 (BG c) hi;have z:=List.all_eq_true.mp np js[i] (MX c);cases w:ss[js[i]]? with
   |none=>rw[w]at q;cases q
   |some u=>rw[w]at q z;cases q;cases z
  .rw[Jk (by omega),Bc]at hi;cases w:ps[i - (EC js ss).length]? with
   |none=>rw[w]at hi;cases hi
   |some p=>rw[w]at hi;cases hi
 have b:∀a o,H a=some o->H' a=some o:=λa o e=>m.hh a o (nn a) e;exact S.step m.ff m.st.fh (λa o _ e=>b a o e) m.nn λi l hi e=>Bz.keep (S.En hi e) λo e=>b l o e
theorem mh{tt:TT}{k:List PV->Prop}(f:PV->Bool)(g:PV->PV)
  (h:Wi ss wi λxs=>xs.length<=100000/\(∀x∈xs,Wt (EC js ss++[.is x]) tt λb=>b=f x)/\(∀x∈xs,f x=true->Wp (EC js ss++[.is x]) te λp=>p=g x)/\k ((xs.filter f).map g))
  (nd:js.Nodup:=by decide) (np:V1 js ss=true:=by rfl):Wn ss (Mu wi js tt te) k:=⟨λE Z F H Q S q=>
 h.go E Z F H _ S λJ xs F1 H1 d C⟨hz,σ,he,kk⟩acc BD=>by
  have U:Cw ss Z acc:=d.st.PY BD;have K:=d.st.EK BD;have V:∀(i:Nat)s,ss[i]?=some s->¬ Be s Z[i]? acc:=λi s hi=>d.st.OR hi BD;refine⟨λi m H2=>m=xs.length - i/\i<=xs.length/\∃F2 vs,Mv E ss Z F1 H1 F2 H2/\F2 acc=none/\H2 acc=some (.lst vs)/\Aa F2 vs (((xs.take i).filter f).map g),⟨_,rfl,Cn _,F1,[],d.st.make BD _,d.st.CA BD,AW,.nil⟩,?_⟩;rintro i m H2⟨rfl,hi,F2,vs,c,P,z,t⟩
  by_cases r:i<xs.length
  .refine .inr ⟨C.go ss Z F2 H2 i c.ff c.st r,λx H3 y=>?_⟩;obtain⟨p,F3,I,u,L⟩:=C.HA ss Z F2 H2 i x H3 c.ff c.st r y;have N:p∈xs:=EI I;have NC:(xs.take (i+1))=xs.take i++[p]:=by
    have e2:xs[i]=p:=by rw[BG r]at I;exact Bo I
    rw[Ui r,e2]
   have T:List.filter f (xs.take (i+1))=(xs.take i).filter f++(if f p=true then[p]else[]):=by
    rw[NC,br];congr 1
    by_cases j:f p=true <;> simp[j]
   have R:∀{F4:Hp},(∀a o,F4 a=some o->F2 a=some o∨H2 a=none)->F4 acc=none:=λ{F4}n=>by
    cases e:F4 acc with
    |none=>rfl
    |some o=>
     rcases n acc o e with w|w
     .rw[P]at w;cases w
     .rw[z]at w;cases w
   have S3:=u.st.Ao (js:=js) nd (.one L);refine(σ p N).go E _ F3 H3 _ S3 λb F4 H4 G hb=>?_;have l:=u.trans (G.out (ps:=[p]) u.st np);show if b=true then _ else _
   rw[hb]
   by_cases j:f p=true
   .rw[rG j];have S4:=l.st.Ao (js:=js) nd (.one (L.mono (G.out (ps:=[p]) u.st np).ff));refine(he p N j).go E _ F4 H4 _ S4 λw pw F5 H5 X M ew=>?_;have Y:=G.out (ps:=[p]) u.st np;have D:=X.out (ps:=[p]) l.st np;have B:=l.trans D;have W:=B.hh acc _ U z;have O:=R B.nn;have v:vs.length<=99999:=by
     rw[t.length,AL];have:=OH f (xs.take i);rw[DO]at this;omega
    refine⟨vs,W,XM v,xs.length - (i+1),by omega,rfl,r,F5,vs++[w],?_,O,AW,?_⟩
    .have A:=c.trans B;refine⟨A.st.Zz O (.inl K) V,A.ff,λa o n e=>?_,A.nn⟩;rw[AY (DH e BD)];exact A.hh a o n e
    .rw[T,rG j,E4];rw[ew]at M;exact(t.mono B.ff).append (.one M)
   .have Zh:f p=false:=by simpa using j
    rw[Zh,qP (by decide)];refine⟨xs.length - (i+1),by omega,rfl,r,F4,vs,c.trans l,R l.nn,l.hh acc _ U z,?_⟩;rw[T,qP j,G0];exact t.mono l.ff
  .have e:i=xs.length:=by omega
   subst e;refine .inl ⟨C.stop ss Z F2 H2 c.ff c.st,q acc vs _ F2 H2 (d.trans c) P (d.none BD) z ?_ kk⟩;rw[MY]at t;exact t⟩
end
abbrev Pre:=List Slot->Aq->Prop
def B7(pre:Pre):Sp:=λvs H Q _=>∃(ss:List Slot)(R:Aq)(F:Hp)(A:List Addr),pre ss R/\Sg (E3 A F H) ss (vs.map some) F H/\∀v F' H',Fin (E3 A F H) F' H'->R.ok (E3 A F H) F' H' v->Q v H'
section
variable[Xw]
variable{pre:Pre}{k:PV->Prop}
theorem J2.at{l:List Slot}(h:J2 ss Z F H vs l):∀{i:Nat}{s:Slot},l[i]?=some s->∃v,vs[i]?=some v/\Av ss Z F H v s:=by
 induction h with
 |nil=>intro i s e;simp at e
 |cons a _ b=>
  intro i s e;cases i with
  |zero=>simp at e;subst e;exact⟨_,rfl,a⟩
  |succ i=>exact b (by simpa using e)
theorem J2.len{l:List Slot}(h:J2 ss Z F H vs l):l.length=vs.length:=by
 induction h with
 |nil=>rfl
 |cons a _ b=>rw[Ca,Ca,b]
theorem Av.ok(S:Sg E ss Z F H)(a:Av ss Z F H v s)(b:∀l,Cw ss Z l->l∉A):Ok (E3 A F H) F H s (some (some v))/\∀o l,¬ Be s o l:=by
 cases s with
 |is p=>exact⟨⟨v,rfl,a⟩,λ_ _ z=>z⟩
 |sq tp xs=>
  cases tp with
  |true=>exact⟨⟨v,rfl,a⟩,λ_ _ z=>z⟩
  |false=>obtain⟨l,vs,rfl,n,h,r⟩:=a;exact⟨⟨l,vs,rfl,⟨b l n,BB⟩,h,r⟩,λ_ _ z=>z⟩
 |raw P=>exact⟨⟨v,rfl,a⟩,λ_ _ z=>z⟩
 |any=>exact a.elim
 |own xs=>exact a.elim
 |AV=>exact a.elim
 |ow lt t=>exact a.elim
theorem Sg.Pm(S:Sg E ss Z F H){l:List Slot}(a:J2 ss Z F H vs l):Sg (E3 [] F H) l (vs.map some) F H:=by
 have nn:∀{p:Prop}(a:Addr),a∈([]:List Addr)->p:=λa h=>absurd h BB;refine⟨⟨S.fh,AB.refl _,λ_ _ _ e=>e,λ_ _ e=>.inl e,λa h=>nn a h,λa h=>nn a h,λa h=>nn a h,λa h=>nn a h,λa h=>nn a h,λa h=>nn a h⟩,by rw[AL];exact a.len,λi s hi=>?_,λi j s u l FI hi d ms c=>?_⟩
 .obtain⟨v,b,q⟩:=a.at hi;rw[Bc,b];exact(q.ok S λ_ _ h=>absurd h BB).1
 .obtain⟨v,b,q⟩:=a.at hi;exact(q.ok S (A:=[]) λ_ _ h=>absurd h BB).2 _ _ ms
theorem Sg.xo(S:Sg E ss Z F H){p:Addr}(hi:ss[i0]?=some .AV)(e:Z[i0]?=some (some (.ref p))){l:List Slot}(a:J2 ss Z F H vs l):Sg (E3 [p] F H) (.AV::l) ((V.ref p::vs).map some) F H:=by
 obtain⟨t,g,fp,_,b⟩:=S.ok i0 _ hi;rw[e]at g;cases g;have f:∀l,Cw ss Z l->l∉[p]:=λl n h=>by
  have:l=p:=by simpa using h
  subst this;exact n i0 hi e
 have one:∀a,a∈[p]->a=p:=λa h=>by simpa using h
 have nn:∀{p:Prop}(a:Addr),a∈([]:List Addr)->p:=λa h=>absurd h BB;refine⟨⟨S.fh,AB.refl _,λ_ _ _ e=>e,λ_ _ e=>.inl e,λa h=>(one a h)▸b,λa h=>(one a h)▸fp,λa h=>?_,λa h=>nn a h,λa h=>nn a h,λa h=>nn a h⟩,by rw[AL,Ca,Ca];rw[a.len],λi s hi=>?_,λi j s u c FI hi r ms k=>?_⟩
 .rw[one a h];obtain⟨_,_,q,_⟩:=b;show H p≠none;rw[q];simp
 .cases i with
  |zero=>simp at hi;subst hi;exact⟨p,rfl,fp,.inr (by simp),b⟩
  |succ i=>
   obtain⟨v,d,q⟩:=a.at (i:=i) (s:=s) (by simpa using hi)
   have:((V.ref p::vs).map some)[i+1]?=some (some v):=by rw[C8,List.getElem?_cons_succ,Bc,d];rfl
   rw[this];exact(q.ok S f).1
 .have z:∀(i:Nat)s o c,(Slot.AV::l)[i]?=some s->Be s o c->i=0:=λi s o c h m=>by
   cases i with
   |zero=>rfl
   |succ i=>
    obtain⟨v,d,q⟩:=a.at (i:=i) (s:=s) (by simpa using h)
    exact((q.ok S f).2 _ _ m).elim
  exact absurd ((z i s _ _ hi ms).trans (z j u _ _ r k).symm) FI
theorem Sg.back(S:Sg E ss Z F H)(d:∀a,a∈A->∃i:Nat,ss[i]?=some .AV/\Z[i]?=some (some (.ref a)))(f:Fin (E3 A F H) F' H'):Mv E ss Z F H F' H':=by
 refine S.step f.f0 f.fh (λa o n e=>f.keep a o ⟨λh=>?_,BB⟩ e) f.fresh λi l hi e=>?_
 .obtain⟨i,c,b⟩:=d a h;exact n i c b
 .by_cases q:l∈A
  .exact f.Gm l q
  .exact Bz.keep (S.En hi e) λo e=>f.keep l o ⟨q,BB⟩ e
theorem wp_call(h:Wa ss t λl=>∃k',pre l (.is k')/\∀p,k' p->k p):Wp ss (Dg (B7 pre) [] E0 t) k:=⟨λE Z F H Q S q=>
 h.go E Z F H _ S λvs l F1 H1 b a⟨k',c,kk⟩=>by
  rw[G0];refine⟨l,.is k',F1,[],c,b.st.Pm a,λv F' H' f⟨p,r,kp⟩=>?_⟩;exact q v p F' H' (b.trans (b.st.back (λ_ h=>absurd h BB) f)) r (kk p kp)⟩
theorem Qm{k:List PV->Prop}(h:Wa ss t λl=>∃k',pre l (.new k')/\∀xs,k' xs->k xs):Wn ss (Dg (B7 pre) [] E0 t) k:=⟨λE Z F H Q S q=>
 h.go E Z F H _ S λvs l F1 H1 b a⟨k',d,kk⟩=>by
  rw[G0];refine⟨l,.new k',F1,[],d,b.st.Pm a,λv F' H' f⟨l,vs,xs,e,i,g,CZ,r,c⟩=>?_⟩;subst e;exact q l vs xs F' H' (b.trans (b.st.back (λ_ h=>absurd h BB) f)) i (b.none g) CZ r (kk xs c)⟩
theorem Q2(hi:ss[i]?=some .AV)(h:Wa ss t λl=>∃k',pre (.AV::l) (.is k')/\∀p,k' p->k p):Wp ss (Dg (B7 pre) [] E0 (Al (BS i) t)) k:=⟨λE Z F H Q S q=>by
 obtain⟨p,e,_⟩:=S.ok i _ hi;refine⟨_,e,h.go E Z F H _ S λvs l F1 H1 b a⟨k',c,kk⟩=>?_⟩;show B7 pre ((V.ref p::vs)++[]) H1 Q E0;rw[G0];refine⟨.AV::l,.is k',F1,[p],c,b.st.xo hi e a,λv F' H' f⟨pv,r,kp⟩=>?_⟩;exact q v pv F' H' (b.trans (b.st.back (A:=[p]) (λa h=>⟨i,hi,(show a=p from by simpa using h)▸e⟩) f)) r (kk pv kp)⟩
theorem Sg.grown(S:Sg E ss Z F H)(n:Nat):Sg E (ss++List.replicate n .any) (Z++List.replicate n none) F H:=by
 have Dr:∀(i:Nat)s,(ss++List.replicate n .any)[i]?=some s->s≠.any->ss[i]?=some s/\(Z++List.replicate n none)[i]?=Z[i]?:=λi s e k=>by
  by_cases h:i<ss.length
  .rw[HW h]at e;rw[HW (by rw[<- S.len];exact h)];exact⟨e,rfl⟩
  .rw[Jk (by omega),nv]at e;split at e
   .exact absurd (Bo e).symm k
   .cases e
 refine⟨S.toFin,by simp[S.len],λi s e=>?_,λi j s u l FI hi m ms f=>?_⟩
 .cases s with
  |any=>trivial
  |_=>obtain⟨a,b⟩:=Dr i _ e (by simp);rw[b];exact S.ok i _ a
 .have ns:s≠.any:=by rintro rfl;cases ms
  have g:u≠.any:=by rintro rfl;cases f
  obtain⟨a,b⟩:=Dr i s hi ns;obtain⟨c,d⟩:=Dr j u m g;rw[b]at ms;rw[d]at f;exact S.CG i j s u l FI a c ms f
end
section
variable{pre:Pre}{k:PV->Prop}
noncomputable def T7(E:Ent0):Ent:=⟨E,λ_ _ _ _ _ _ _ _ _ d=>d.elim⟩
theorem DK{n:Nat}{t:TS}(h:B7 pre vs H Q X)(c:∀ss R,pre ss R->ss.length=n)
  (hw:∀ss R,pre ss R->Ws (ss++List.replicate (N.length - n) .any) t (λ_=>∃k,R=.is k/\k .A8) R):t { nx:=λ_ H'=>Q .A8 H',rt:=Q } (L2.start N vs) H:=by
 obtain⟨ss,R,F,A,a,S,q⟩:=h;have e:vs.length=n:=by have:=S.len;rw[AL]at this;rw[<- this];exact c ss R a
 unfold L2.start;rw[e];refine(hw ss R a).go (T7 (E3 A F H)) _ _ F H (S.grown _) (λAN σ' F' H'⟨k,e,b⟩S' _=>?_) λv F' H' f ok=>q v F' H' f ok;subst e;exact q .A8 F' H' S'.toFin ⟨.A8,.A8,b⟩
theorem DJ{n:Nat}(b:∀ss R,pre ss R->ss.length=n)(h:B7 pre vs H Q X):vs.length=n:=by
 obtain⟨ss,R,F,A,a,S,q⟩:=h;have:=S.len;rw[AL]at this;rw[<- this];exact b ss R a
end
end Fz
namespace Lw
open L2
variable{GP l ns ss:List Str}{r x:Str}
theorem Q0:∀l:List Nat,¬ l<l
 | [],h=>by simp at h
 |a::r,h=>by
  rw[bo]at h;rcases h with h|⟨_,h⟩
  .omega
  .exact Q0 r h
theorem Sz:∀{a b c:List Nat},a<b->b<c->a<c
 |_,[],_,h,_=>by simp at h
 |_,_::_,[],_,h=>by simp at h
 | [],_::_,_::_,_,_=>by simp
 |a::r,b::s,c::t,h,h'=>by
  rw[bo]at h h' ⊢;rcases h with h|⟨rfl,h⟩
  .rcases h' with h'|⟨rfl,h'⟩
   .left;omega
   .left;exact h
  .rcases h' with h'|⟨rfl,h'⟩
   .left;exact h'
   .right;exact⟨rfl,Sz h h'⟩
theorem jD:∀a b:List Nat,a<b∨a=b∨b<a
 | [],[]=>.inr (.inl rfl)
 | [],_::_=>.inl (by simp)
 |_::_,[]=>.inr (.inr (by simp))
 |a::r,b::s=>by
  rw[bo,bo];rcases cB a b with h|rfl|h
  .exact .inl (.inl h)
  .rcases jD r s with h|rfl|h
   .exact .inl (.inr ⟨rfl,h⟩)
   .exact .inr (.inl rfl)
   .exact .inr (.inr (.inr ⟨rfl,h⟩))
  .exact .inr (.inr (.inl h))
abbrev JP(a b:Str):Prop:=a.cps.toList<b.cps.toList
theorem VD(a b:Str):JP a b∨a=b∨JP b a:=by
 rcases jD a.cps.toList b.cps.toList with h|h|h
 .exact .inl h
 .exact .inr (.inl (vI h))
 .exact .inr (.inr h)
abbrev Up(ss:List Str):Prop:=ss.Pairwise JP
theorem jx(h:Up ss):ss.Nodup:=by
 refine List.Pairwise.imp (λ{a b}(E5:JP a b)(e:a=b)=>?_) h;subst e;exact Q0 _ E5
theorem i5:∀(l:List Str)(p:Str),risingS p l=true->(∀x∈l,¬ JP x p)/\l.Pairwise λa b=>¬ JP b a
 | [],p,_=>⟨λx hx=>absurd hx (by simp),.nil⟩
 |y::r,p,h=>by
  have h1:(!ltCps y.cps.toList p.cps.toList && risingS y r)=true:=h;rw[Dl,ltCps_eq]at h1;have c:¬ JP y p:=by
   intro z;rw[oW z]at h1;exact absurd h1.1 (by decide)
  obtain⟨h2,d⟩:=i5 r y h1.2;refine⟨λx hx=>?_,List.pairwise_cons.mpr ⟨λx hx=>h2 x hx,d⟩⟩;rcases List.mem_cons.mp hx with rfl|hx
  .exact c
  .intro z;rcases VD y p with q|q|q
   .exact c q
   .exact h2 x hx (q▸z)
   .exact h2 x hx (Sz z q)
theorem uh(h:sortedS l=true):l.Pairwise λa b=>¬ JP b a:=by
 cases l with
 |nil=>exact .nil
 |cons x r=>
  obtain⟨h1,h2⟩:=i5 r x h;exact List.pairwise_cons.mpr ⟨h1,h2⟩
theorem kQ(h:sortedS l=true)(nd:l.Nodup):Up l:=by
 have w:=uh h;have q:=List.Pairwise.and w nd;refine q.imp λ{a b}E5=>?_;rcases VD a b with z|z|z
 .exact z
 .exact absurd z E5.2
 .exact absurd z E5.1
theorem WW:∀{as bs:List Str},Up as->Up bs->(∀x,x∈as↔x∈bs)->as=bs
 | [],[],_,_,_=>rfl
 | [],b::bs,_,_,h=>absurd ((h b).mpr D5) (by simp)
 |a::as,[],_,_,h=>absurd ((h a).mp D5) (by simp)
 |a::as,b::bs,ha,hb,h=>by
  obtain⟨d,g⟩:=List.pairwise_cons.mp ha;obtain⟨c,f⟩:=List.pairwise_cons.mp hb;have e:a=b:=by
   rcases List.mem_cons.mp ((h a).mp D5)with z|z
   .exact z
   .rcases List.mem_cons.mp ((h b).mpr D5)with y|y
    .exact y.symm
    .exact absurd (Sz (d b y) (c a z)) (Q0 _)
  subst e
  congr 1
  refine WW g f λx=>⟨λhx=>?_,λhx=>?_⟩
  .rcases List.mem_cons.mp ((h x).mp (DP _ hx))with z|z
   .exact absurd (z▸d x hx) (Q0 _)
   .exact z
  .rcases List.mem_cons.mp ((h x).mpr (DP _ hx))with z|z
   .exact absurd (z▸c x hx) (Q0 _)
   .exact z
theorem Ig:∀{as bs:List Str},as.Nodup->(∀x∈as,x∈bs)->as.length<=bs.length
 | [],_,_,_=>Cn _
 |a::as,bs,nd,h=>by
  obtain⟨h1,h2⟩:=List.nodup_cons.mp nd;have b:=h a D5;have q:=Ig (bs:=bs.erase a) h2 λx hx=>(ZHO (λe:x=a=>h1 (by rw[<- e];exact hx))).mpr (h x (DP _ hx));have e:=ZHK b;have p:=ZHL b;simp only[Ca];omega
noncomputable def KN:List Str:=["none","ahead","all"]
theorem mf{j:Int}(c:0<=j)(h1:j<3):∃r,Bp (KN.map V.str) j=some (.str r)/\r∈KN:=by
 obtain⟨x,a,b,_⟩:=W7 (ns:=KN) c h1;exact⟨x,a,b⟩
noncomputable def NA(ss:List Str)(x:Str):Bool:=decide (x∈ss)
def Fw(ns:List Str)(g:Nat)(ss:List Str):List Str:=(ns.drop g).filter (NA ss)++(ns.take g).filter (NA ss)
theorem ZDl(ns:List Str)(g:Nat)(ss:List Str):(ns.drop g++ns.take g).filter (NA ss)=Fw ns g ss:=br ..
theorem UU{g:Nat}:x∈Fw ns g ss↔x∈ns/\x∈ss:=by
 unfold Fw;rw[J7,o8,o8];have e:(x∈ns)↔(x∈ns.take g∨x∈ns.drop g):=by
  rw[<- J7,L8]
 unfold NA;simp only[decide_eq_true_eq];rw[e];constructor
 .rintro(⟨a,b⟩|⟨a,b⟩)
  .exact⟨.inr a,b⟩
  .exact⟨.inl a,b⟩
 .rintro⟨a|a,b⟩
  .exact .inr ⟨a,b⟩
  .exact .inl ⟨a,b⟩
theorem vb(ns ss:List Str):((ns.map V.str).filter (λv=>GI v (ss.map V.str))).map (λv=>v)=(ns.filter (NA ss)).map V.str:=by
 rw[o6,nq]
 congr 1
 apply ZHF;intro y _;show GI (.str y) (ss.map V.str)=NA ss y;rw[U3];rfl
def jT(H:Hp)(t:Addr)(r:Str)(g:Int)(ss:List Str):Prop:=∃c,H t=some (.tup [.str r,.int g,.ref c])/\H c=some (.tup (ss.map V.str))
structure Dy (ns:List Str) (r:Str) (g:Int) (ss:List Str):Prop where
 rule:r∈KN
 g0:0<=g
 g1:g<=(ns.length:Int)
 up:Up ss
 sub:∀x∈ss,x∈ns
theorem ZA(x:Str)(h:Up ss):Up (wo ss x):=h.filter _
theorem Dy.step{g:Int}(h:Dy ns r g ss)(hx:x∈ns):Dy ns r ((ns.idxOf x:Nat)+1) (wo ss x):=by
 have b:ns.idxOf x<ns.length:=List.idxOf_lt_length_iff.mpr hx;exact⟨h.rule,by omega,by omega,ZA x h.up,λy a=>h.sub y (Jt.mp a).1⟩
def SU(ns:List Str)(g:Nat)(ss:List Str):Option Str:=(Fw ns g ss).head?
def cy(ns:List Str)(g:Nat)(ss:List Str):Nat:=match SU ns g ss with
 |none=>g
 |some x=>ns.idxOf x+1
def jE(ns:List Str)(g:Nat)(ss:List Str):List Str:=match SU ns g ss with
 |none=>ss
 |some x=>wo ss x
theorem Y7:Bp ((x::GP).map V.str) 0=some (.str x):=QL (by decide) rfl
structure Ent where
 a:Addr
 ns:List Str
 t:Addr
 r:Str
 g:Nat
 ss:List Str
end Lw
namespace L2
section
variable{X:Cx}
def fE(K:ZIV):R2:=λx y H Q=>∃a b xs ys,x=.ref a/\y=.ref b/\AS K H a xs/\AS K H b ys/\ys≠[]/\xs.length+ys.length<=sizeLine/\∀p H',AB H H'->AS K H' p (xs++ys)->Q (.ref p) H'
theorem cN:BX X (binaryOp .Add) (fE X.K):=by
 intro Zy s Z H x y v u Q I i g h;obtain⟨a,b,xs,ys,rfl,rfl,k,d,o,m,q⟩:=h
 by_cases hx:xs=[]
 .subst hx;cases i;cases g;obtain⟨A5,l,p1,_⟩:=I.tuple k;obtain⟨Bx,t,p2,_⟩:=I.tuple d;obtain⟨⟨cls,dd,data,sl⟩,ho,j,n,hd⟩:=id p1;obtain⟨⟨ZDZ,T5,f,HR⟩,Ho,Lu,n2,c⟩:=id p2;simp only at j hd Lu c;subst j hd Lu c;have e:A5=[]:=l.Tn.mpr rfl;exact concat_meets ⟨_,ho,rfl⟩ ⟨_,Ho,rfl⟩ ZAv seq_tuple_add oO oM (oK _ _)
   (tuple_addW0 a b A5.toArray Bx.toArray n n2 dd T5 sl HR (by simp[e])) ⟨ho,Ho,⟨.ref b,H,I,rfl,q b H (AB.refl _) d⟩⟩
 .exact ZFy Zy s Z H _ _ _ _ Q I i g ⟨a,b,xs,ys,rfl,rfl,k,d,hx,m,λe=>absurd e o,λ_ p r=>q p _ (BP r _) (AS.of AW)⟩
end
end L2
namespace Lw
open L2
variable{ns rs ss:List Str}{r x:Str}{g i:Nat}{d:Af}
def Gi(i g:Nat):Nat:=if i<g then g+1 else g
def Fx(p g:Nat):Nat:=if p<g then g - 1 else g
def Af.gap(ns:List Str)(g:Nat):Af->Nat
 | .put _ i=>Gi i g
 | .take x=>Fx (ns.idxOf x) g
 | .move x i=>Gi i (Fx (ns.idxOf x) g)
 | .turn _ _=>g
def G9:List Str->Str->List Str
 | [],x=>[x]
 |y::r,x=>if JP x y then x::y::r else y::G9 r x
def Ek(r:Str)(g i:Nat):Bool:=if decide (V.str r=V.str "all")=true then true else if decide (V.str r=V.str "ahead")=true then decide ((g:Int)<=(i:Int))else false
def Af.Gv(r:Str)(g:Nat)(ss:List Str):Af->List Str
 | .put x i=>if Ek r g i=true then G9 ss x else ss
 | .take x=>wo ss x
 | .move _ _=>ss
 | .turn _ _=>ss
theorem P0{x k:Str}:∀{ss:List Str},k∈G9 ss x↔k=x∨k∈ss
 | []=>by simp[G9]
 |y::r=>by
  unfold G9;split
  .simp
  .rw[HZ,P0 (ss:=r),HZ];constructor
   .rintro(h|h|h)
    .exact .inr (.inl h)
    .exact .inl h
    .exact .inr (.inr h)
   .rintro(h|h|h)
    .exact .inr (.inl h)
    .exact .inl h
    .exact .inr (.inr h)
theorem U4{x:Str}:∀{ss:List Str},Up ss->x∉ss->Up (G9 ss x)
 | [],_,_=>List.pairwise_singleton _ _
 |y::r,h,hx=>by
  obtain⟨h1,h2⟩:=List.pairwise_cons.mp h;unfold G9;split
  .next c=>exact List.pairwise_cons.mpr ⟨λk a=>(List.mem_cons.mp a).elim (λe=>by rw[e];exact c) λa=>Sz c (h1 k a),h⟩
  .next c=>
   refine List.pairwise_cons.mpr ⟨λk a=>?_,U4 h2 λb=>hx (DP _ b)⟩;rcases P0.mp a with rfl|a
   .rcases VD k y with z|z|z
    .exact absurd z c
    .exact absurd (by rw[z];exact D5) hx
    .exact z
   .exact h1 k a
theorem ZN{ts:List Str}(a:ts.Perm (ss++[x]))(b:sortedS ts=true)(h:Up ss)(hx:x∉ss):ts=G9 ss x:=by
 have nd:ts.Nodup:=a.nodup_iff.mpr (Rf (jx h) hx);refine WW (kQ b nd) (U4 h hx) λk=>?_;rw[a.mem_iff,P0,J7,List.mem_singleton];exact or_comm
theorem Dy.len{g:Int}(h:Dy ns r g ss):ss.length<=ns.length:=Ig (jx h.up) h.sub
theorem Dy.led(h:Dy ns r g ss)(ok:d.Ok 40 ns)(nd:ns.Nodup):Dy (d.done ns) r (d.gap ns g:Nat) (d.Gv r g ss):=by
 have g1:=h.g1;cases d with
 |put x i=>
  obtain⟨h1,h2,o,n⟩:=ok;refine⟨h.rule,by omega,?_,?_,?_⟩
  .show((Gi i g:Nat):Int)<=((ins ns x i).length:Int);rw[T4];unfold Gi;split <;> omega
  .show Up (if Ek r g i=true then G9 ss x else ss)
   split
   .exact U4 h.up λj=>h2 (h.sub x j)
   .exact h.up
  .intro k c;show k∈ins ns x i;rw[Rc];have f:k∈(if Ek r g i=true then G9 ss x else ss):=c
   split at f
   .rcases P0.mp f with z|z
    .exact .inl z
    .exact .inr (h.sub k z)
   .exact .inr (h.sub k f)
 |take x=>
  have hx:x∈ns:=ok;have l:=Q5 hx nd;have m:ns.idxOf x<ns.length:=List.idxOf_lt_length_iff.mpr hx;refine⟨h.rule,by omega,?_,ZA x h.up,λk c=>?_⟩
  .show((Fx (ns.idxOf x) g:Nat):Int)<=((wo ns x).length:Int);unfold Fx;split <;> omega
  .obtain⟨a,b⟩:=Jt.mp (show k∈wo ss x from c);exact Jt.mpr ⟨h.sub k a,b⟩
 |move x i=>
  obtain⟨hx,hi⟩:=ok;have l:=Q5 hx nd;have m:ns.idxOf x<ns.length:=List.idxOf_lt_length_iff.mpr hx;refine⟨h.rule,by omega,?_,h.up,λk c=>?_⟩
  .show((Gi i (Fx (ns.idxOf x) g):Nat):Int)<=((ins (wo ns x) x i).length:Int);rw[T4];unfold Gi Fx;split <;> split <;> omega
  .show k∈ins (wo ns x) x i;rw[Rc,Jt]
   by_cases e:k=x
   .exact .inl e
   .exact .inr ⟨h.sub k c,e⟩
 |turn lo hi=>
  obtain⟨h1,h2⟩:=ok;refine⟨h.rule,by omega,?_,h.up,λk c=>(jG h1).mpr (h.sub k c)⟩;show((g:Nat):Int)<=((Fq ns lo hi).length:Int);rw[kU h1 h2];exact g1
def fb:Sp:=λvs H Q _=>∃(a t:Addr)(ns:List Str)(g:Nat)(d:Af),vs=[.ref a,.int g,.ref t]/\H a=some (.lst (ns.map V.str))/\H t=some (.tup d.vals)/\d.Ok 40 ns/\∀H',AB H H'->Q (.int (d.gap ns g:Nat)) H'
theorem Zc{g:Int}(h:Dy ns r g ss)(ok:d.Ok 40 ns):∀x i,d=.put x i->x∉ss:=by
 rintro x i rfl a;exact ok.2.1 (h.sub x a)
theorem ZFf(p g:Nat):((g:Int) - (if decide ((p:Int)<(g:Int))=true then 1 else 0))=((Fx p g:Nat):Int):=by
 unfold Fx
 by_cases h:p<g
 .rw[rG h,rG (oW (by omega))];omega
 .rw[qP h,qP (by simp;omega)];omega
theorem tI(i g:Nat):((g:Int)+(if decide ((i:Int)<(g:Int))=true then 1 else 0))=((Gi i g:Nat):Int):=by
 unfold Gi
 by_cases h:i<g
 .rw[rG h,rG (oW (by omega))];omega
 .rw[qP h,qP (by simp;omega)];omega
noncomputable def Af.kind:Af->Str
 | .put _ _ => "put"
 | .take _ => "take"
 | .move _ _ => "move"
 | .turn _ _ => "turn"
theorem Rz(d:Af):Bp d.vals 0=some (.str d.kind):=by cases d <;> rfl
noncomputable def Af.Po(ns:List Str)(g:Nat):Af->Nat
 | .take x=>Fx (ns.idxOf x) g
 | .move x _=>Fx (ns.idxOf x) g
 |_=>g
theorem ZEn(g:Nat)(ok:d.Ok 40 ns)(h:GI (.str d.kind) [.str "take",.str "move"]=true):∃x,Bp d.vals 1=some (.str x)/\x∈ns/\d.Po ns g=Fx (ns.idxOf x) g:=by
 cases d with
 |put x i=>(simp only[Af.kind]at h;exact absurd h (by decide +kernel))
 |take x=>exact⟨x,rfl,ok,rfl⟩
 |move x i=>exact⟨x,rfl,ok.1,rfl⟩
 |turn lo hi=>(simp only[Af.kind]at h;exact absurd h (by decide +kernel))
theorem sN(g:Nat)(h:¬ GI (.str d.kind) [.str "take",.str "move"]=true):d.Po ns g=g:=by
 cases d with
 |put x i=>rfl
 |take x=>exact absurd (by simp only[Af.kind];decide +kernel) h
 |move x i=>exact absurd (by simp only[Af.kind];decide +kernel) h
 |turn lo hi=>rfl
theorem yG(g:Nat)(h:GI (.str d.kind) [.str "put",.str "move"]=true):∃i:Nat,Bp d.vals 2=some (.int i)/\d.gap ns g=Gi i (d.Po ns g):=by
 cases d with
 |put x i=>exact⟨i,rfl,rfl⟩
 |take x=>(simp only[Af.kind]at h;exact absurd h (by decide +kernel))
 |move x i=>exact⟨i,rfl,rfl⟩
 |turn lo hi=>(simp only[Af.kind]at h;exact absurd h (by decide +kernel))
theorem ZCP(g:Nat)(h:¬ GI (.str d.kind) [.str "put",.str "move"]=true):d.gap ns g=d.Po ns g:=by
 cases d with
 |put x i=>exact absurd (by simp only[Af.kind];decide +kernel) h
 |take x=>rfl
 |move x i=>exact absurd (by simp only[Af.kind];decide +kernel) h
 |turn lo hi=>rfl
noncomputable def Af.U8(ss:List Str):Af->List Str
 | .take x=>wo ss x
 |_=>ss
theorem xq{r:Str}{g:Nat}(h:decide (V.str d.kind=V.str "take")=true):∃x,Bp d.vals 1=some (.str x)/\d.U8 ss=wo ss x:=by
 cases d with
 |take x=>exact⟨x,rfl,rfl⟩
 |_=>
  have h':=rE h;injection h' with h2
  exact absurd h2 (by simp only[Af.kind];decide +kernel)
theorem qc(h:¬ decide (V.str d.kind=V.str "take")=true):d.U8 ss=ss:=by
 cases d with
 |take x=>exact absurd (by simp only[Af.kind];decide +kernel) h
 |_=>rfl
theorem ZCM(h:decide (V.str d.kind=V.str "put")=true):∃x i,d=.put x i:=by
 cases d with
 |put x i=>exact⟨x,i,rfl⟩
 |_=>
  have h':=rE h;injection h' with h2
  exact absurd h2 (by simp only[Af.kind];decide +kernel)
theorem xF(h:¬ decide (V.str d.kind=V.str "put")=true):d.Gv r g ss=d.U8 ss:=by
 cases d with
 |put x i=>exact absurd (by simp only[Af.kind];decide +kernel) h
 |_=>rfl
theorem V0(h:Ek r g i=true):Af.Gv r g ss (.put x i)=G9 ss x:=by show(if _ then _ else _)=_;rw[rG h]
theorem aA(h:Ek r g i=false):Af.Gv r g ss (.put x i)=ss:=by show(if _ then _ else _)=_;rw[qP (by rw[h];decide)]
noncomputable def Af.v1:Af->V
 | .put x _=>.str x
 | .take x=>.str x
 | .move x _=>.str x
 | .turn lo _=>.int lo
noncomputable def Af.made(ns:List Str):Af->List Str
 | .put x _=>wo ns x
 | .take x=>wo ns x
 | .move x _=>wo ns x
 | .turn _ _=>ns
theorem ND(nd:rs.Nodup)(h:rs[g]?=some x):rs.idxOf x=g:=by
 obtain⟨d,e⟩:=List.getElem?_eq_some_iff.mp h;have hx:x∈rs:=EI h;have a:rs.idxOf x<rs.length:=List.idxOf_lt_length_iff.mpr hx;have f:rs[rs.idxOf x]=x:=bx a;have b:=List.pairwise_iff_getElem.mp nd;rcases cB (rs.idxOf x) g with c|c|c
 .exact absurd (f.trans e.symm) (b _ _ a d c)
 .exact c
 .exact absurd (e.trans f.symm) (b _ _ d a c)
end Lw
namespace L2
section
variable{X:Cx}{Zy:ZIW}{Z:St}{H2:Hp}{s2:Shared}{elt iter:Expr}{x z:Str}{px pz tp pos:Pos}{tk:Nat}{scope:Scope}{Ao:List Str}{js:List Nat}{te:TE}{J:It}{fp:List Addr}{it:Addr}
 {tn:Nat->Heap->Prop}
end
end L2
namespace Fz
open L2 Lw
variable{E:Ent0}{ss:List Slot}{Z:L2.St}{F F' H H':Hp}{js:List Nat}{ta tb te:TE}{nx:List Slot->Prop}{R:Aq}{i:Nat}{ns:List Int}{wi:TI}{α:Type}{th tl:TO}
section
variable[Xw]
variable{K:ZIV}{k:PV->Prop}
theorem Sg.X5(S:Sg E ss Z F H){p:Addr}(hi:ss[i]?=some .AV)(e:Z[i]?=some (some (.ref p)))(s:Bl p H H'):Mv E ss Z F H F H':=by
 obtain⟨g,b,fp,_,f⟩:=S.ok i _ hi;rw[e]at b;cases b;refine S.step (AB.refl _) (λa o q=>s.same a o (DH q fp) (S.fh a o q)) (λa o n q=>s.same a o (λz=>?_) q) (λa o q=>.inl q) λj l c d=>?_
 .rw[z]at n;exact n i hi e
 .by_cases z:l=p
  .rw[z];exact s.AV
  .exact Bz.keep (S.En c d) λo q=>s.same l o z q
theorem rP(hi:ss[i]?=some .AV)(h:Wp ss te λx=>∃m,x=.int m/\0<m/\m<10 ^ 18/\∀r:Int,0<=r->r<m->k (.int r)):Wp ss (Dg Hc [] E0 (Al (BS i) (Al te BR))) k:=⟨λE Z F H Q S q=>by
 obtain⟨p,e,_⟩:=S.ok i _ hi;refine⟨_,e,h.go E Z F H _ S λv x F1 H1 a r⟨m,f,d,MP,kk⟩=>?_⟩;subst f;cases r.inv;exact⟨p,m,rfl,a.st.En hi e,d,MP,λr H2 c b s=>q _ _ F1 H2 (a.trans (a.st.X5 hi e s)) (.int r) (kk r c b)⟩⟩
theorem r8{sp:Sp}{k:List PV->Prop}(FF:sp=YS)(hi:ss[i]?=some .AV)(h:Wp ss te λx=>∃m,x=.int m/\1<=m/\m<=100/\∀ns:List Str,(ns.length:Int)<=m->(∀x∈ns,Nm x)->ns.Nodup->k (ns.map PV.str)):Wn ss (Dg sp [] E0 (Al (BS i) (Al te BR))) k:=⟨λE Z F H Q S q=>by
 subst FF;obtain⟨p,e,_⟩:=S.ok i _ hi;refine⟨_,e,h.go E Z F H _ S λv x F1 H1 a r⟨m,j,d,MP,kk⟩=>?_⟩;subst j;cases r.inv;refine⟨p,m,rfl,a.st.En hi e,d,MP,λl H2 ns b s FA f g nd=>?_⟩;have c:=a.st.X5 hi e s;exact q l _ _ F1 H2 (a.trans c) (a.st.CA b) (a.none b) FA (N9 ns) (kk ns f g nd)⟩
def DU(K:ZIV)(ns:List Int):Hp->V->Prop:=λF v=>∃a,v=.ref a/\Ac K F a (ns.map V.int)
theorem KS(K:ZIV)(ns:List Int):∀(v:V)(F F':Hp),AB F F'->DU K ns F v->DU K ns F' v:=λv F F' s AH=>by obtain⟨a,e,h⟩:=AH;exact⟨a,e,by
 rcases h with(h|⟨o,h⟩)|h
 .exact .inl (.inl (s _ _ h))
 .exact .inl (.inr ⟨o,s _ _ h⟩)
 .exact .inr h⟩
theorem v8(hi:ss[i]?=some (.raw (DU K ns)))(h:k (.int ns.length)):Wp ss (Dk (XX K) (Al (BS i) BR)) k:=⟨λE Z F H Q S q=>by
 obtain⟨v,e,⟨a,c,b⟩,st⟩:=S.ok i _ hi;subst c;obtain⟨d,ea,Hg⟩:=KS K ns _ F H S.fh ⟨a,rfl,b⟩;cases ea;refine⟨_,e,a,_,rfl,.inl Hg,?_⟩;rw[AL];exact q _ _ F H (.refl S) (.int _) h⟩
theorem qG{j:Nat}(hi:ss[i]?=some (.raw (DU K ns)))(h:Wp ss te λx=>∃m,x=.int m/\0<=m/\m<=1000/\nx (ss.set j .AV)):Ws ss (Ep (Dg (Q8 K) [] E0 (Al (BS i) (Al te BR))) (Cd j)) nx R:=⟨λE D Z F H S hn A=>by
 obtain⟨v,e,⟨a,t,B⟩,st⟩:=S.ok i _ hi;subst t;refine⟨_,e,h.go E Z F H _ S λv x F1 H1 c r⟨m,w,o,MP,kk⟩=>?_⟩;subst w;cases r.inv;obtain⟨z,f,y,_⟩:=c.st.ok i _ hi;rw[e]at f;cases f;obtain⟨C,ea,Hg⟩:=KS K ns _ F1 H1 c.st.fh y;cases ea;refine⟨a,ns,m,rfl,Hg,o,MP,λp H2 d s g=>?_⟩;have n:=c.st.grow s;exact hn _ _ F1 H2 kk (n.st.setG ⟨p,rfl,c.st.CA d,.inl (c.st.EK d),g⟩ λl e b u _ q k=>by cases e;exact c.st.OR q d k) c.ff⟩
end
section
variable{K:ZIV}
theorem z4{N:List Str}{vs:List V}{Q:VK}{X:XK}{t:TS}(h:PL K vs H Q X)(hw:∀ns:List Int,ns.length<=63->Ws (.raw (DU K ns)::List.replicate (N.length - 1) .any) t (λ_=>False) (.is λp=>p=.bl true)):t { nx:=λ_ H'=>Q .A8 H',rt:=Q } (L2.start N vs) H:=by
 obtain⟨a,ns,rfl,b,P5,q⟩:=h;have S:Sg (E3 [] H H) [.raw (DU K ns)] [some (.ref a)] H H:=by
  have nn:∀{p:Prop}(a:Addr),a∈([]:List Addr)->p:=λa h=>absurd h BB;refine⟨⟨AB.refl _,AB.refl _,λ_ _ _ e=>e,λ_ _ e=>.inl e,λa h=>nn a h,λa h=>nn a h,λa h=>nn a h,λa h=>nn a h,λa h=>nn a h,λa h=>nn a h⟩,rfl,λi s hi=>?_,λi j s u l FI hi c ms=>?_⟩
  .cases i with
   |zero=>cases hi;exact⟨_,rfl,⟨a,rfl,b⟩,KS K ns _⟩
   |succ i=>simp at hi
  .cases i with
   |zero=>cases hi;cases ms
   |succ i=>simp at hi
 refine(hw ns P5).go (T7 (E3 [] H H)) _ _ H H (S.grown _) (λ_ _ _ _ h=>h.elim) λv F' H' f ok=>?_;obtain⟨p,r,rfl⟩:=ok;cases r.inv;exact q H'
end
section
variable[Xw]
variable{K:ZIV}{k:PV->Prop}
theorem Wi.mono{k k':List PV->Prop}(h:Wi ss wi k)(i:∀xs,k xs->k' xs):Wi ss wi k':=⟨λE Z F H R S q=>h.go E Z F H R S λJ xs F' H' m s kk=>q J xs F' H' m s (i xs kk)⟩
theorem VQ{tt:TT}{k:List PV->Prop}(c:α->PV)(f:α->Bool)(g:α->PV)
  (h:Wi ss wi λxs=>∃ns:List α,xs=ns.map c/\ns.length<=100000/\(∀x∈ns,Wt (EC js ss++[.is (c x)]) tt λb=>b=f x)/\(∀x∈ns,f x=true->Wp (EC js ss++[.is (c x)]) te λp=>p=g x)/\k ((ns.filter f).map g))
  (inj:∀x y,c x=c y->x=y) (nd:js.Nodup:=by decide) (np:V1 js ss=true:=by rfl):Wn ss (Mu wi js tt te) k:=by
 by_cases hα:Nonempty α
 .obtain⟨l⟩:=hα;have inv:∀p:PV,∃x:α,∀y,c y=p->y=x:=λp=>by
   by_cases q:∃y,c y=p
   .obtain⟨y,a⟩:=q;exact⟨y,λz i=>inj _ _ (i.trans a.symm)⟩
   .exact⟨l,λy a=>absurd ⟨y,a⟩ q⟩
  let d:PV->α:=λp=>Classical.choose (inv p)
  have hd:∀x,d (c x)=x:=λx=>(Classical.choose_spec (inv (c x)) x rfl).symm;refine mh (λp=>f (d p)) (λp=>g (d p)) (h.mono λxs⟨ns,e,i,h1,h2,kk⟩=>?_) nd np;subst e;refine⟨by rw[AL];exact i,λx hx=>?_,λx hx j=>?_,?_⟩
  .obtain⟨y,a,rfl⟩:=List.mem_map.mp hx;rw[hd];exact h1 y a
  .obtain⟨y,a,rfl⟩:=List.mem_map.mp hx;rw[hd]at j ⊢;exact h2 y a j
  .have e:((ns.map c).filter λp=>f (d p)).map (λp=>g (d p))=(ns.filter f).map g:=by
    rw[nq,Qw]
    congr 1
    .funext x;show g (d (c x))=g x;rw[hd]
    .congr 1;funext x;show f (d (c x))=f x;rw[hd]
   rw[e];exact kk
 .refine mh (λ_=>true) (λp=>p) (h.mono λxs⟨ns,e,i,h1,h2,kk⟩=>?_) nd np;have m:ns=[]:=by
   cases ns with
   |nil=>rfl
   |cons x r=>exact absurd ⟨x⟩ hα
  subst m;subst e;exact⟨by simp,λx hx=>absurd hx (by simp),λx hx=>absurd hx (by simp),kk⟩
theorem str_inj:∀x y:Str,PV.str x=PV.str y->x=y:=λ_ _ e=>by injection e
theorem pW(h:Wp ss ta λp=>∃x,p=.str x/\Wq ss tb λ_ ys=>∃ns:List Str,ys=ns.map PV.str/\k (.bl (decide (x∈ns)))):Wp ss (C5 (Lm K false) ta tb) k:=kW h
theorem Zx(h:Wp ss ta λp=>∃x,p=.str x/\Wq ss tb λ_ ys=>∃ns:List Str,ys=ns.map PV.str/\k (.bl (!decide (x∈ns)))):Wp ss (C5 (Lm K true) ta tb) k:=kW h
theorem sT(h:Wq ss ta λtp xs=>∃ns:List Str,xs=ns.map PV.str/\Wq ss tb λCT ys=>CT=tp/\∃ms:List Str,ys=ms.map PV.str/\k (.bl (decide (ns=ms)))):Wp ss (C5 (Oz K false) ta tb) k:=mn h
theorem m8(h:Wq ss ta λtp xs=>∃ns:List Str,xs=ns.map PV.str/\Wq ss tb λCT ys=>CT=tp/\∃ms:List Str,ys=ms.map PV.str/\k (.bl (!decide (ns=ms)))):Wp ss (C5 (Oz K true) ta tb) k:=mn h
theorem Wq.mono{k k':Bool->List PV->Prop}(h:Wq ss te k)(i:∀b xs,k b xs->k' b xs):Wq ss te k':=⟨λE Z F H Q S q=>h.go E Z F H Q S λv tp xs F' H' m s kk=>q v tp xs F' H' m s (i tp xs kk)⟩
theorem Wo.mono{t:TO}{k k':Option Int->Prop}(h:Wo ss t k)(i:∀o,k o->k' o):Wo ss t k':=⟨λE Z F H Q S q=>h.go E Z F H Q S λo F' H' m kk=>q o F' H' m (i o kk)⟩
theorem iH{k:Bool->List PV->Prop}(h:Wq ss te λtp xs=>Wo ss tl λlo=>Wo ss th λhi=>k tp (GC xs lo hi)):Wz ss (Qh (UA K) te tl th) k:=
 Ks (d7 (h.mono λtp xs h=>h.mono λlo h=>h.mono λhi h=>by
  cases tp
  .exact⟨_,.inl ⟨rfl,h⟩⟩
  .exact⟨_,.inr ⟨rfl,h⟩⟩))
theorem ZAL{k:Bool->List PV->Prop}(h:Wq ss te λtp xs=>Wo ss tl λlo=>Wo ss th λhi=>k tp (GC xs lo hi)):Wq ss (Qh (UA K) te tl th) k:=i4 (iH h)
theorem kG(xs:List α)(g:Nat):GC xs none (some (g:Int))=xs.take g:=by
 unfold GC;rw[HT.Ky,HT.SR,bp,cD];rcases Qz g xs.length with h|h
 .rw[Jn h]
 .rw[R0 h,MY,OJ h]
theorem gC(xs:List α)(g:Nat):GC xs (some (g:Int)) none=xs.drop g:=by
 unfold GC;rw[HT.Ky,HT.SR];rcases Qz g xs.length with h|h
 .rw[Jn h,OJ (by rw[Ge];omega)]
 .rw[R0 h,ZHC,ZHD h];simp
end
end Fz
namespace Fz
open L2 Lw
variable{xs:List PV}{i:Nat}
section
variable[Xw]
variable{E:Ent0}{ss:List Slot}{Z:L2.St}{F H F' H':Hp}{K:ZIV}{js:List Nat}{ta tb te:TE}{k:PV->Prop}{nx:List Slot->Prop}{R:Aq}{ys:List PV}
theorem b5(h:Wq ss ta λtp xs=>tp=false/\∃ns:List Str,xs=ns.map PV.str/\Wp ss tb λp=>∃x,p=.str x/\x∈ns/\k (.int (ns.idxOf x:Nat))):Wp ss (ON K "list" (dq K) ta (Al tb BR)) k:=⟨λE Z F H Q S q=>
 h.go E Z F H _ S λv tp xs F1 H1 b sv⟨g,ns,e,h2⟩=>by
  subst e;subst g;obtain⟨l,vs,rfl,f,r⟩:=sv.seq b.st;refine⟨.inl ⟨rfl,_,Ac.of f⟩,h2.go E Z F1 H1 _ b.st λm p2 F2 H2 a c⟨x,i,hx,kk⟩=>?_⟩;subst i;cases c.inv;obtain⟨n,CY,j,CZ,d⟩:=(sv.mv a).seq a.st;cases j;rw[d.strs]at CZ;exact⟨l,ns,x,rfl,rfl,Ac.of CZ,hx,q _ _ F2 H2 (b.trans a) (.int _) kk⟩⟩
noncomputable def M0(xs:List PV):List PV:=(List.range xs.length).map λi:Nat=>.tup [.int (i:Int),xs.getD i .A8]
theorem So(xs:List PV):(M0 xs).length=xs.length:=by simp[M0]
theorem iJ{x:PV}(h:xs[i]?=some x):(M0 xs)[i]?=some (.tup [.int (i:Int),x]):=by
 have hi:i<xs.length:=(List.getElem?_eq_some_iff.mp h).1;unfold M0;rw[Bc,Uc hi];show some (PV.tup [PV.int (i:Int),xs.getD i PV.A8])=_;rw[OG,h];rfl
theorem yb{p:PV}(h:(M0 xs)[i]?=some p):∃x,xs[i]?=some x/\p=.tup [.int (i:Int),x]:=by
 have hi:i<xs.length:=by have:=(List.getElem?_eq_some_iff.mp h).1;rwa [So]at this
 have e:=BG hi;refine⟨xs[i],e,?_⟩;rw[iJ e]at h;exact(Bo h).symm
theorem ZDH{r:List V->Hp->VK->Prop}(c:r=λxs H Q=>(∃i,xs=[.int i]/\Q (.int i) H)∨∃k,xs=[.bl k]/\Q (.int (if k then 1 else 0)) H)(h:Wp ss te λp=>∃b,p=.bl b/\k (.int (if b then 1 else 0))):Wp ss (Dk r (Al te BR)) k:=⟨λE Z F H Q S q=>
 h.go E Z F H _ S λv p F1 H1 a r AH=>by
  obtain⟨b,e,kk⟩:=AH;subst c;subst e;cases r.inv;exact .inr ⟨b,rfl,q _ _ F1 H1 a (.int _) kk⟩⟩
end
theorem Bq{c A B:Prop}[Decidable c](h:c)(a:A):if c then A else B:=by rw[rG h];exact a
end Fz
namespace L2
theorem uF{X:Cx}{tg:Expr}{a b:Expr}{ta:TA}{p pos:Pos}(v:Gl X "range")(u:X.mg "range"=none)(f:QA X [a,b] ta)(o:starEach [a,b] X.env=[(false,eval a X.env),(false,eval b X.env)]:=by rfl)(Cb:starEach [b] X.env=[(false,eval b X.env)]:=by rfl):QI X tg (.Call (.Name "range" p) [a,b] [] pos) (WQ ta):=⟨by
 have f:=f.h;intro Zy s Z H R I h;refine Call_ (KG I v u boot_range (R3 (AQ (f pos Zy s Z H _ I h) λus s1⟨vs,H1,I1,g,d⟩=>?_) (by rw[o,Cb]) (by rw[Cb];rfl)));obtain⟨i,j,e,⟨d,n,m,l⟩,q⟩:=d;subst e;cases g with
 |cons r c=>
  cases c with
  |cons k c=>
   cases c;obtain⟨t,rfl⟩:=r;obtain⟨t',rfl⟩:=k;exact call_range_2 (lL I1 d n m l q)⟩
end L2
namespace Fz
open L2 Lw
section
variable[Xw]
variable{E:Ent0}{ss:List Slot}{Z:L2.St}{F H F' H':Hp}{K:ZIV}{js:List Nat}{ta tb tc te:TE}{k:PV->Prop}{nx:List Slot->Prop}{R:Aq}{xs ys:List PV}
noncomputable def Lf(i:Int)(n:Nat):List PV:=(List.range n).map λj:Nat=>PV.int (i+(j:Int))
theorem Q9(i:Int)(n:Nat):(Lf i n).length=n:=by simp[Lf]
theorem ZBf{i:Int}{n j:Nat}{p:PV}(h:(Lf i n)[j]?=some p):j<n/\p=.int (i+(j:Int)):=by
 have a:j<n:=by have:=(List.getElem?_eq_some_iff.mp h).1;rwa [Q9]at this
 unfold Lf at h;rw[Bc,Uc a]at h;exact⟨a,(Bo h).symm⟩
theorem uU{k:List PV->Prop}(h:Wp ss ta λp=>∃i:Int,p=.int i/\Wp ss tb λp=>∃j:Int,p=.int j/\(i<=1000000/\-1000000<=i/\j<=1000000/\-1000000<=j)/\k (Lf i (j - i).toNat)):Wi ss (WQ (Al ta (Al tb BR))) k:=⟨λE Z F H R S q=>
 h.go E Z F H _ S λv p F1 H1 a r AH=>by
  obtain⟨i,e,h2⟩:=AH;subst e;cases r.inv;exact h2.go E Z F1 H1 _ a.st λf p2 F2 H2 c b Cr=>by
   obtain⟨j,d,g,kk⟩:=Cr;subst d;cases b.inv;refine⟨i,j,rfl,by omega,q _ (Lf i (j - i).toNat) F2 H2 (a.trans c) ⟨λss Z F H n s S hn=>?_,λss Z F H s S=>?_,λss Z F H n x H' s S hn y=>?_⟩ kk⟩
   .rw[Q9]at hn;exact hn
   .show _<=_;rw[Q9];exact Az _
   .obtain⟨e,hx⟩:=y;subst e;subst hx;rw[Q9]at hn;refine⟨.int (i+(n:Int)),F,?_,.refl S,.int _⟩;unfold Lf;rw[Bc,Uc hn];rfl⟩
noncomputable def dP:Af->PV
 | .put x i=>.tup [.str "put",.str x,.int i]
 | .take x=>.tup [.str "take",.str x]
 | .move x i=>.tup [.str "move",.str x,.int i]
 | .turn lo hi=>.tup [.str "turn",.int lo,.int hi]
theorem iy{d:Af}{v:V}(r:Rep F v (dP d)):∃t,v=.ref t/\F t=some (.tup d.vals):=by
 cases d <;> (obtain⟨a,vs,rfl,h,b⟩:=r.inv;cases b.enc rfl;exact⟨a,rfl,h⟩)
theorem fQ{k:List PV->Prop}(h:Wq ss ta λtp xs=>tp=false/\∃ns:List Str,xs=ns.map PV.str/\Wp ss tb λp=>∃d:Af,p=dP d/\d.Ok 40 ns/\ns.length<=40/\ns.Nodup/\k ((d.done ns).map PV.str)):
  Wn ss (Dg XC [] E0 (Al ta (Al tb BR))) k:=⟨λE Z F H Q S q=>
 h.go E Z F H _ S λv tp xs F1 H1 c sv⟨e,ns,ex,h2⟩=>h2.go E Z F1 H1 _ c.st λx p2 F2 H2 b i⟨d,u,hd,m,nd,kk⟩=>by
  subst e;subst ex;subst u;obtain⟨l,vs,o,f,r⟩:=(sv.mv b).seq b.st;subst o;rw[r.strs]at f;obtain⟨t,e,n⟩:=iy i;subst e;refine⟨l,t,ns,d,rfl,f,b.st.fh _ _ n,hd,m,nd,λa H3 g s w=>?_⟩;have j:=b.st.grow s;exact q a _ _ F2 H3 (c.trans (b.trans j)) (b.st.CA g) ((c.trans b).none g) w (N9 _) kk⟩
end
end Fz
namespace Lw
open L2
variable{c t:Addr}{r:Str}{g:Int}{ss:List Str}
def Gb(H:Hp)(t c:Addr)(r:Str)(g:Int)(ss:List Str):Prop:=H t=some (.tup [.str r,.int g,.ref c])/\H c=some (.tup (ss.map V.str))
theorem Gb.h{H:Hp}(h:Gb H t c r g ss):jT H t r g ss:=⟨c,h⟩
theorem Gb.same{H H':Hp}(s:AB H H')(h:Gb H t c r g ss):Gb H' t c r g ss:=⟨s _ _ h.1,s _ _ h.2⟩
def VU:Sp:=λvs H Q _=>∃(a tl td c0:Addr)(ns:List Str)(r:Str)(g:Nat)(ss:List Str)(d:Af),vs=[.ref a,.ref tl,.ref td]/\H a=some (.lst (ns.map V.str))/\Gb H tl c0 r g ss/\H td=some (.tup d.vals)/\d.Ok 40 ns/\Dy ns r g ss/\ns.length<=40/\
 ∀t' b H',H t'=none->(H b=none∨b=c0)->AB H H'->Gb H' t' b r (d.gap ns g:Nat) (d.Gv r g ss)->Q (.ref t') H'
def iq(H H':Hp)(t' t:Addr)(ns:List Str)(r:Str)(g:Nat)(ss:List Str):Prop:=
 (Fw ns g ss=[]/\H' t'=some (.tup [.A8,.ref t]))∨∃x GP a c2,Fw ns g ss=x::GP/\H a=none/\H c2=none/\H' t'=some (.tup [.str x,.ref a])/\Gb H' a c2 r ((ns.idxOf x:Nat)+1) (wo ss x)
def aC:Sp:=λvs H Q _=>∃(a:Addr)(ns:List Str)(t:Addr)(r:Str)(g:Nat)(ss:List Str),vs=[.ref a,.ref t]/\H a=some (.lst (ns.map V.str))/\jT H t r g ss/\ss.length<64/\ns.length<=1000/\
 ∀t' H',H t'=none->AB H H'->iq H H' t' t ns r g ss->Q (.ref t') H'
end Lw
namespace Fz
open L2 Lw
variable{E:Ent0}{ss:List Slot}{Z:L2.St}{F F' F0 F1 H H' H0:Hp}{js m p:List Nat}{ta tb tc te ti:TE}{nx:List Slot->Prop}{R:Aq}{n t u x y:OV}{o:HO}{v:V}{r:Str}{g i j:Nat}{cs ns:List Str}{a b c:Addr}{iZ ps xs ys:List PV}{CY vs ws:List V}{A:Around}{A5 Bx:List Value}{CT tp:Bool}{q:PV}{tr:TA}{us:List OV}
def Eh(r:Str)(g:Nat)(ss:List Str):PV:=.tup [.str r,.int g,.tup (ss.map .str)]
section
variable[Xw]
variable{K:ZIV}{k:PV->Prop}
theorem Mv.adopt(m:Mv E ss Z F H F1 H')(S:Sg E ss Z F H){t:Addr}(c:H t=Option.none)(e:H' t=some o):Mv E ss Z F H (upd F1 t o) H':=by
 have b:AB F1 (upd F1 t o):=λa u q=>by
  by_cases z:a=t
  .subst z;have w:=m.st.fh _ _ q;rw[e]at w;rw[AW];exact w
  .rw[AY z];exact q
 refine S.step (m.ff.trans b) (λa u q=>?_) m.hh (λa u q=>?_) λi l hi d=>m.st.En hi d
 .by_cases z:a=t
  .subst z;rw[AW]at q;rw[<- q];exact e
  .rw[AY z]at q;exact m.st.fh a u q
 .by_cases z:a=t
  .subst z;exact .inr c
  .rw[AY z]at q;exact m.nn a u q
theorem fW(h:Rep F v (Eh r g cs)):∃t c,v=.ref t/\Gb F t c r g cs:=by
 obtain⟨_,_,rfl,e,q⟩:=h.inv;obtain⟨_,_,rfl,a,q⟩:=q.inv;obtain⟨_,_,rfl,b,q⟩:=q.inv;obtain⟨_,_,rfl,c,q⟩:=q.inv;cases q;cases a;cases b;obtain⟨_,_,rfl,d,f⟩:=c.inv;rw[f.strs]at d;exact⟨_,_,rfl,e,d⟩
theorem ly{t:Addr}(h:Gb F t c r g cs):Rep F (.ref t) (Eh r g cs):=.tup h.1 (.cons (.str _) (.cons (.int _) (.one (.tup h.2 (N9 cs)))))
theorem Mv.mL(m:Mv E ss Z F H F1 H')(S:Sg E ss Z F H){t c0:Addr}(i:H t=Option.none)(b:H c=Option.none∨c=c0)(j:F c0=some o)(e:Gb H' t c r g cs):∃F2,Mv E ss Z F H F2 H'/\AB F1 F2/\Rep F2 (.ref t) (Eh r g cs):=by
 have key:∃F2,Mv E ss Z F H F2 H'/\AB F1 F2/\F2 c=some (.tup (cs.map V.str)):=by
  rcases b with b|rfl
  .refine⟨_,m.adopt S b e.2,λa u q=>?_,AW⟩
   by_cases z:a=c
   .subst z;have w:=m.st.fh _ _ q;rw[e.2]at w;rw[AW];exact w
   .rw[AY z];exact q
  .refine⟨F1,m,AB.refl _,?_⟩;have w:=m.ff _ _ j;have d:=m.st.fh _ _ w;rw[e.2]at d;rw[w,<- d]
 obtain⟨F2,h,s2,Lu⟩:=key;have f:AB F2 (upd F2 t (.tup [.str r,.int g,.ref c])):=λa u q=>by
  by_cases z:a=t
  .subst z;have w:=h.st.fh _ _ q;rw[e.1]at w;rw[AW];exact w
  .rw[AY z];exact q
 exact⟨_,h.adopt S i e.1,s2.trans f,ly ⟨AW,f _ _ Lu⟩⟩
theorem ZDp(h:Wq ss ta λtp xs=>tp=false/\∃ns:List Str,xs=ns.map PV.str/\Wp ss tb λp=>∃(r:Str)(g:Nat)(cs:List Str),p=Eh r g cs/\Wp ss tc λp2=>∃d:Af,p2=dP d/\d.Ok 40 ns/\Dy ns r g cs/\ns.length<=40/\k (Eh r (d.gap ns g) (d.Gv r g cs))):
  Wp ss (Dg VU [] E0 (Al ta (Al tb (Al tc BR)))) k:=⟨λE Z F H Q S q=>
 h.go E Z F H _ S λv tp xs F1 H1 c sv⟨y,ns,ex,h2⟩=>h2.go E Z F1 H1 _ c.st λD p2 F2 H2 b n⟨r,g,cs,z,w⟩=>w.go E Z F2 H2 _ b.st λC p3 F3 H3 a m⟨d,A,hd,x,s,kk⟩=>by
  subst y;subst ex;subst z;subst A;obtain⟨l,vs,rfl,f,i⟩:=(sv.mv (b.trans a)).seq a.st;rw[i.strs]at f;obtain⟨tl,c0,rfl,e⟩:=fW (n.mono a.ff);obtain⟨t,rfl,u⟩:=iy m;refine⟨l,tl,t,c0,ns,r,g,cs,d,rfl,f,e.same a.st.fh,a.st.fh _ _ u,hd,x,s,λt' G H4 MC LG s4 B=>?_⟩;obtain⟨F4,o,_,j⟩:=(a.st.grow s4).mL a.st MC LG e.2 B;exact q _ _ F4 H4 (c.trans (b.trans (a.trans o))) j kk⟩
def Nf(ns:List Str)(r:Str)(g:Nat)(cs:List Str):PV:=match Fw ns g cs with
 | []=>.tup [.A8,Eh r g cs]
 |x::_=>.tup [.str x,Eh r (ns.idxOf x+1) (wo cs x)]
theorem Mv.oV(m:Mv E ss Z F H F1 H')(S:Sg E ss Z F H){t t':Addr}(f:H t'=Option.none)(k:Gb F t c r g cs)(e:iq H H' t' t ns r g cs):∃F2,Mv E ss Z F H F2 H'/\Rep F2 (.ref t') (Nf ns r g cs):=by
 rcases e with⟨h,e⟩|⟨x,GP,i,c2,h,h2,o,e,n⟩
 .refine⟨_,m.adopt S f e,?_⟩;have b:=(m.adopt S f e).ff;unfold Nf;rw[h];exact .tup AW (.cons .A8 (.one (ly (k.same b))))
 .have d:Gb H' i c2 r ((ns.idxOf x+1:Nat):Int) (wo cs x):=n;obtain⟨F2,j,_,l⟩:=m.mL S h2 (.inl o) k.1 d;refine⟨_,j.adopt S f e,?_⟩;have b:AB F2 (upd F2 t' (.tup [.str x,.ref i])):=λa u q=>by
   by_cases z:a=t'
   .subst z;have w:=j.st.fh _ _ q;rw[e]at w;rw[AW];exact w
   .rw[AY z];exact q
  unfold Nf;rw[h];exact .tup AW (.cons (.str _) (.one (l.mono b)))
theorem ZAt(h:Wq ss ta λtp xs=>tp=false/\∃ns:List Str,xs=ns.map PV.str/\Wp ss tb λp=>∃(r:Str)(g:Nat)(cs:List Str),p=Eh r g cs/\Dy ns r g cs/\ns.length<=60/\k (Nf ns r g cs)):
  Wp ss (Dg aC [] E0 (Al ta (Al tb BR))) k:=⟨λE Z F H Q S q=>
 h.go E Z F H _ S λv tp xs F1 H1 b sv⟨o,ns,ex,h2⟩=>h2.go E Z F1 H1 _ b.st λu p2 F2 H2 a j⟨r,g,cs,s,n,w,kk⟩=>by
  subst o;subst ex;subst s;obtain⟨l,vs,rfl,e,f⟩:=(sv.mv a).seq a.st;rw[f.strs]at e;obtain⟨tl,c0,rfl,c⟩:=fW j;have d:=n.len;refine⟨l,ns,tl,r,g,cs,rfl,e,(c.same a.st.fh).h,by omega,by omega,λt' H4 MC s4 t=>?_⟩;obtain⟨F4,m,i⟩:=(a.st.grow s4).oV a.st MC c t;exact q _ _ F4 H4 (b.trans (a.trans m)) i kk⟩
theorem cz{n:Nat}(h:j<n):HN n (j:Int)=some j:=by
 unfold HN;simp;omega
theorem Aa.set:∀{xs:List PV}(j:Nat){v:V}{p:PV},Aa F vs xs->Rep F v p->Aa F (vs.set j v) (xs.set j p):=by
 intro xs
 induction vs generalizing xs with
 |nil=>intro j v p h r;cases h;exact .nil
 |cons a vs c=>
  intro j v p h r;cases h with
  |cons b t=>
   cases j with
   |zero=>exact .cons r t
   |succ j=>exact .cons b (c j t r)
end
mutual
def CL:PV->PV->Bool
 | .lst xs,.lst ys=>D2 xs ys
 | .tup xs,.tup ys=>D2 xs ys
 | .tup xs,.con _ ys=>D2 xs ys
 | .con _ xs,.tup ys=>D2 xs ys
 | .con _ xs,.con _ ys=>D2 xs ys
 | .A8,.A8=>true
 | .bl a,.bl b=>a == b
 | .bl a,.int b=>(if a then 1 else 0) == b
 | .int a,.bl b=>a == (if b then 1 else 0)
 | .int a,.int b=>a == b
 | .str a,.str b=>a == b
 |_,_=>false
def D2:List PV->List PV->Bool
 | [],[]=>true
 |x::r,y::t=>CL x y && D2 r t
 |_,_=>false
end
theorem UI(x y:PV)(r t:List PV):D2 (x::r) (y::t)=(CL x y && D2 r t):=by rw[D2]
theorem VJ:∀(xs ys:List PV),xs.length≠ys.length->D2 xs ys=false
 | [],[],h=>absurd rfl h
 | [],_::_,_=>by rw[D2];all_goals simp
 |_::_,[],_=>by rw[D2];all_goals simp
 |x::r,y::t,h=>by rw[UI,VJ r t (by simpa using h),UY]
theorem Zp:∀(xs ys:List PV),xs.length=ys.length->D2 xs ys=(List.range xs.length).all λj=>CL (xs.getD j .A8) (ys.getD j .A8)
 | [],[],_=>by rw[D2];rfl
 |x::r,y::t,h=>by
  rw[UI,Zp r t (by simpa using h),Ca,List.range_succ_eq_map,Ua,List.all_map]
  rfl
def dat(K:ZIV):Nat->PV->Prop
 |_,.A8=>True
 |_,.bl _=>True
 |_,.int _=>True
 |_,.str _=>True
 |d+1,.lst xs=>∀x∈xs,dat K d x
 |d+1,.tup xs=>∀x∈xs,dat K d x
 |d+1,.con a xs=>(∀x∈xs,dat K d x)/\xs.all flat=true/\∀H,AS K H a (xs.map Fz.enc)
 |_,_=>False
inductive Gx (K:ZIV) (H:Hp):V->PV->Bool->Addr->List V->List PV->Prop where
 |lst {a:Addr}{vs:List V}{xs:List PV}:Ac K H a vs->Aa H vs xs->Gx K H (.ref a) (.lst xs) false a vs xs
 |tup {a:Addr}{vs:List V}{xs:List PV}:AS K H a vs->Aa H vs xs->Gx K H (.ref a) (.tup xs) true a vs xs
 |con {a:Addr}{vs:List V}{xs:List PV}:AS K H a vs->Aa H vs xs->Gx K H (.ref a) (.con a xs) true a vs xs
theorem GN{K:ZIV}:∀{d:Nat}{x:V}{p:PV},dat K d p->Rep H x p->(flat p=true/\x=Fz.enc p)∨∃d' tp a vs xs,d=d'+1/\Gx K H x p tp a vs xs/\∀y∈xs,dat K d' y:=by
 intro d x p h r;cases r with
 |A8=>exact .inl ⟨rfl,rfl⟩
 |bl b=>exact .inl ⟨rfl,rfl⟩
 |int b=>exact .inl ⟨rfl,rfl⟩
 |str b=>exact .inl ⟨rfl,rfl⟩
 |lst e r=>cases d with
  |zero=>exact h.elim
  |succ d=>exact .inr ⟨d,_,_,_,_,rfl,.lst (Ac.of e) r,h⟩
 |tup e r=>cases d with
  |zero=>exact h.elim
  |succ d=>exact .inr ⟨d,_,_,_,_,rfl,.tup (AS.of e) r,h⟩
 |con=>cases d with
  |zero=>exact h.elim
  |succ d=>obtain⟨h1,h2,c⟩:=h;exact .inr ⟨d,_,_,_,_,rfl,.con (c H) (gZ h2),h1⟩
 |B2 _ _ _=>cases d <;> exact h.elim
 |obj _ _ _ _=>cases d <;> exact h.elim
 |OU _=>cases d <;> exact h.elim
 |exc _ _ _ _=>cases d <;> exact h.elim
section
variable{X:Cx}{Zy:ZIW}{s:Shared}
theorem ZBm(d:Vals vs A5)(c:Vals ws Bx)(f:Aa H vs xs)(e:Aa H ws ys)
  (h:∀(x y:V)(p q:PV)(u v:Value),p∈xs->q∈ys->Rep H x p->Rep H y q->RelV x u->RelV y v->SeqAt.EqAt A s u v (CL p q)) :
  ∀j(h1:j<A5.toArray.size)(h2:j<Bx.toArray.size),SeqAt.EqAt A s A5.toArray[j] Bx.toArray[j] ((λj=>CL (xs.getD j .A8) (ys.getD j .A8)) j):=λj h1 h2=>by
 have l1:=d.length;have l2:=c.length;have D:=f.length;have C:=e.length;have B:j<A5.length:=by simpa using h1
 have z:j<Bx.length:=by simpa using h2
 have b:j<xs.length:=by omega
 have a:j<ys.length:=by omega
 obtain⟨x,hx,m⟩:=f.get (i:=j) (p:=xs[j]) (BG b);obtain⟨y,r,l⟩:=e.get (i:=j) (p:=ys[j]) (BG a);obtain⟨u,k,o⟩:=d.get hx;obtain⟨v,g,n⟩:=c.get r;rw[BG B]at k;rw[BG z]at g;have w:A5[j]=u:=Bo k;have t:Bx[j]=v:=Bo g;have q:=h x y _ _ u v (MX b) (MX a) m l o n;rw[<- w,<- t]at q;show SeqAt.EqAt A s _ _ (CL (xs.getD j .A8) (ys.getD j .A8));rw[OG,BG b,OG,BG a]
 simpa using q
theorem Sb{p:PV}{x:V}(h:Gx X.K H x p tp a vs xs)(f:flat q=true):CL p q=false/\CL q p=false:=by
 cases h <;> cases q <;> first|exact Bool.noConfusion f|exact⟨rfl,rfl⟩
theorem X4{p:PV}{x y:V}(h:Gx X.K H x p tp a vs xs)(h2:Gx X.K H y q CT b ws ys):CL p q=(if tp=CT then D2 xs ys else false):=by
 cases h <;> cases h2 <;> rfl
theorem Sj{p:PV}(h:flat p=true)(h2:flat q=true):CL p q=E6 (Fz.enc p) (Fz.enc q):=by
 cases p <;> cases q <;> first|exact Bool.noConfusion h|exact Bool.noConfusion h2|rfl
theorem qt{p:PV}{u v:Value}(h:flat p=true)(h2:flat q=true)(b:RelV (Fz.enc p) u)(a:RelV (Fz.enc q) v):SeqAt.RcAt A s u v (CL p q)/\SeqAt.RcNeAt A s u v (!CL p q):=by
 cases p <;> first|exact Bool.noConfusion h|skip
 all_goals cases q <;> first|exact Bool.noConfusion h2|skip
 .cases b;cases a;exact⟨.none_none,.none_none⟩
 .cases b;cases a;exact⟨.none_bool _,.none_bool _⟩
 .cases b;obtain⟨t,rfl⟩:=a;exact⟨.none_int _ _,.none_int _ _⟩
 .cases b;obtain⟨t,rfl⟩:=a;exact⟨.none_str _ _,.none_str _ _⟩
 .cases b;cases a;exact⟨.bool_none _,.bool_none _⟩
 .cases b;cases a;exact⟨.bool_bool _ _,.bool_bool _ _⟩
 .cases b;obtain⟨t,rfl⟩:=a;exact⟨.bool_int _ _ _,.bool_int _ _ _⟩
 .cases b;obtain⟨t,rfl⟩:=a;exact⟨.bool_str _ _ _,.bool_str _ _ _⟩
 .obtain⟨t,rfl⟩:=b;cases a;exact⟨.int_none _ _,.int_none _ _⟩
 .obtain⟨t,rfl⟩:=b;cases a;exact⟨.int_bool _ _ _,.int_bool _ _ _⟩
 .obtain⟨t,rfl⟩:=b;obtain⟨c,rfl⟩:=a;exact⟨.int_int _ _ _ _,.int_int _ _ _ _⟩
 .obtain⟨t,rfl⟩:=b;obtain⟨c,rfl⟩:=a;exact⟨.int_str _ _ _ _,.int_str _ _ _ _⟩
 .obtain⟨t,rfl⟩:=b;cases a;exact⟨.str_none _ _,.str_none _ _⟩
 .obtain⟨t,rfl⟩:=b;cases a;exact⟨.str_bool _ _ _,.str_bool _ _ _⟩
 .obtain⟨t,rfl⟩:=b;obtain⟨c,rfl⟩:=a;exact⟨.str_int _ _ _ _,.str_int _ _ _ _⟩
 .obtain⟨t,rfl⟩:=b;obtain⟨c,rfl⟩:=a;exact⟨.str_str _ _ _ _,.str_str _ _ _ _⟩
def UW(h:Heap)(tp:Bool)(a:Addr)(A5:Array Value):Prop:=if tp then IsTup h a A5 else h.IsList a A5
theorem Gx.HD(I:Inv X Zy Z H s){x:V}{p:PV}(h:Gx X.K H x p tp a vs xs):∃A5:List Value,x=.ref a/\Vals vs A5/\UW s.heap tp a A5.toArray/\Aa H vs xs:=by
 cases h with
 |lst h r=>obtain⟨A5,b,p1,_⟩:=I.list h;exact⟨A5,rfl,b,p1.isList,r⟩
 |tup h r=>obtain⟨A5,b,p1,_⟩:=I.tuple h;exact⟨A5,rfl,b,p1,r⟩
 |con h r=>obtain⟨A5,b,p1,_⟩:=I.tuple h;exact⟨A5,rfl,b,p1,r⟩
theorem Ts{A5:Array Value}{v:Value}(h:UW s.heap tp a A5)(f:flat q=true)(c:RelV (Fz.enc q) v)(b:A.units<cLine):
  (SeqAt.EqAt A s (.ref a) v false/\SeqAt.EqAt A s v (.ref a) false)/\(SeqAt.RcAt A s (.ref a) v false/\SeqAt.RcAt A s v (.ref a) false)/\(SeqAt.RcNeAt A s (.ref a) v true/\SeqAt.RcNeAt A s v (.ref a) true):=by
 cases tp with
 |false=>
  have h':s.heap.IsList a A5:=h;cases q <;> first|exact Bool.noConfusion f|skip
  .cases c;exact⟨⟨.list_none h' b,.none_list h' b⟩,⟨.list_none h' b,.none_list h' b⟩,⟨.list_none h' b,.none_list h' b⟩⟩
  .cases c;exact⟨⟨.list_bool _ h' b,.bool_list _ h' b⟩,⟨.list_bool _ h' b,.bool_list _ h' b⟩,⟨.list_bool _ h' b,.bool_list _ h' b⟩⟩
  .obtain⟨t,rfl⟩:=c;exact⟨⟨.list_int _ _ h' b,.int_list _ _ h' b⟩,⟨.list_int _ _ h' b,.int_list _ _ h' b⟩,⟨.list_int _ _ h' b,.int_list _ _ h' b⟩⟩
  .obtain⟨t,rfl⟩:=c;exact⟨⟨.list_str _ _ h' b,.str_list _ _ h' b⟩,⟨.list_str _ _ h' b,.str_list _ _ h' b⟩,⟨.list_str _ _ h' b,.str_list _ _ h' b⟩⟩
 |true=>
  have h':IsTup s.heap a A5:=h;cases q <;> first|exact Bool.noConfusion f|skip
  .cases c;exact⟨⟨.tuple_none h' b,.none_tuple h' b⟩,⟨.tuple_none h' b,.none_tuple h' b⟩,⟨.tuple_none h' b,.none_tuple h' b⟩⟩
  .cases c;exact⟨⟨.tuple_bool _ h' b,.bool_tuple _ h' b⟩,⟨.tuple_bool _ h' b,.bool_tuple _ h' b⟩,⟨.tuple_bool _ h' b,.bool_tuple _ h' b⟩⟩
  .obtain⟨t,rfl⟩:=c;exact⟨⟨.tuple_int _ _ h' b,.int_tuple _ _ h' b⟩,⟨.tuple_int _ _ h' b,.int_tuple _ _ h' b⟩,⟨.tuple_int _ _ h' b,.int_tuple _ _ h' b⟩⟩
  .obtain⟨t,rfl⟩:=c;exact⟨⟨.tuple_str _ _ h' b,.str_tuple _ _ h' b⟩,⟨.tuple_str _ _ h' b,.str_tuple _ _ h' b⟩,⟨.tuple_str _ _ h' b,.str_tuple _ _ h' b⟩⟩
theorem Gx.inj(I:Inv X Zy Z H s){x y:V}{p q:PV}{tp CT:Bool}{a:Addr}{vs ws:List V}{xs ys:List PV}(h:Gx X.K H x p tp a vs xs)(h2:Gx X.K H y q CT a ws ys):tp=CT/\vs=ws:=by
 have b:∀{vs ws:List V},Ac X.K H a vs->AS X.K H a ws->False:=λ{vs ws}h1 h2=>by
  obtain⟨A5,_,p1,_⟩:=I.list h1;obtain⟨Bx,_,p2,_⟩:=I.tuple h2;obtain⟨o,n,e,c,_⟩:=p1;obtain⟨f,d,c2,_⟩:=p2;rw[e]at d;cases d;rw[c]at c2;exact absurd c2 (by decide)
 cases h with
 |lst h r=>cases h2 with
  |lst h2 _=>exact⟨rfl,I.dU h h2⟩
  |tup h2 _=>exact(b h h2).elim
  |con h2 _=>exact(b h h2).elim
 |tup h r=>cases h2 with
  |lst h2 _=>exact(b h2 h).elim
  |tup h2 _=>exact⟨rfl,I.PJ h h2⟩
  |con h2 _=>exact⟨rfl,I.PJ h h2⟩
 |con h r=>cases h2 with
  |lst h2 _=>exact(b h2 h).elim
  |tup h2 _=>exact⟨rfl,I.PJ h h2⟩
  |con h2 _=>exact⟨rfl,I.PJ h h2⟩
theorem lI{p:PV}(h:flat p=true):E6 (Fz.enc p) (Fz.enc p)=true:=by cases p <;> first|exact Bool.noConfusion h|exact tO _|rfl
theorem ZGH(i:∀(x:V)(p q:PV),Rep H x p->Rep H x q->dat X.K d p->dat X.K d q->CL p q=true)(g:Aa H vs xs)(c:Aa H vs ys)(h1:∀x∈xs,dat X.K d x)(h2:∀y∈ys,dat X.K d y):D2 xs ys=true:=by
 induction xs generalizing vs ys with
 |nil=>
  cases g.DS;cases ys with
  |nil=>rfl
  |cons y t=>obtain⟨v,ws,e,_⟩:=c.inv;cases e
 |cons x xs f=>
  obtain⟨v,ws,rfl,a,b⟩:=g.inv;cases ys with
  |nil=>have e:=c.DS;cases e
  |cons y t=>
   obtain⟨l,h,e,k,j⟩:=c.inv;cases e;rw[UI,i _ _ _ a k (h1 _ D5) (h2 _ D5),f b j (λx hx=>h1 x (DP _ hx)) (λx hx=>h2 x (DP _ hx))];rfl
theorem vC(I:Inv X Zy Z H s):∀(d:Nat)(x:V)(p q:PV),Rep H x p->Rep H x q->dat X.K d p->dat X.K d q->CL p q=true:=λd=>by
 induction d with
 |zero=>
  intro x p q l h h1 h2;rcases GN h1 l with⟨j,k⟩|⟨d',_,_,_,_,e,_⟩
  .rcases GN h2 h with⟨c,g⟩|⟨d',_,_,_,_,e,_⟩
   .rw[Sj j c,<- k,g];exact lI c
   .cases e
  .cases e
 |succ d r=>
  intro x p q l h h1 h2;rcases GN h1 l with⟨j,k⟩|⟨w,tp,a,vs,xs,e,i,k1⟩
  .rcases GN h2 h with⟨c,g⟩|⟨v,CT,b,ws,ys,e,f,k2⟩
   .rw[Sj j c,<- k,g];exact lI c
   .obtain⟨_,ex,_⟩:=f.HD I;subst ex;cases p <;> first|(cases j;done)|(cases k;done)
  .cases e;rcases GN h2 h with⟨c,g⟩|⟨v,CT,b,ws,ys,e,f,k2⟩
   .obtain⟨_,ex,_⟩:=i.HD I;subst ex;cases q <;> first|(cases c;done)|(cases g;done)
   .cases e;obtain⟨_,ex,_,_,o⟩:=i.HD I;obtain⟨_,m,_,_,n⟩:=f.HD I;rw[ex]at m;cases m;obtain⟨u,t⟩:=i.inj I f;subst t;rw[X4 i f,rG u];exact ZGH r o n k1 k2
theorem ZBc(b:Vals vs A5)(a:Vals ws Bx)(d:Aa H vs xs)(c:Aa H ws ys):A5.toArray.size=xs.length/\Bx.toArray.size=ys.length:=by
 have l1:=b.length;have l2:=a.length;have f:=d.length;have e:=c.length;simp only[C9];omega
theorem lM(h1:UW s.heap tp a A5.toArray)(h2:UW s.heap CT b Bx.toArray)(m:Vals vs A5)(l:Vals ws Bx)(o:Aa H vs xs)(n:Aa H ws ys)(c:A.units<cLine)
  (h:∀(x y:V)(p q:PV)(u v:Value),p∈xs->q∈ys->Rep H x p->Rep H y q->RelV x u->RelV y v->SeqAt.EqAt A.in1 s u v (CL p q)) :
  SeqAt.RcAt A s (.ref a) (.ref b) (if tp=CT then D2 xs ys else false)/\SeqAt.RcNeAt A s (.ref a) (.ref b) (!(if tp=CT then D2 xs ys else false)):=by
 obtain⟨i,k⟩:=ZBc m l o n;have it:=ZBm (A:=A.in1) m l o n h;cases tp with
 |false=>cases CT with
  |false=>
   rw[rG rfl];have g:s.heap.IsList a A5.toArray:=h1;have f:s.heap.IsList b Bx.toArray:=h2
   by_cases d:xs.length=ys.length
   .rw[Zp xs ys d,<- i];exact⟨.lists g f (by omega) c it,.lists g f (by omega) c it⟩
   .rw[VJ xs ys d];have r:(A5.toArray.size != Bx.toArray.size)=true:=by simp only[bne_iff_ne,ne_eq];omega
    exact⟨.lists_lengths g f r c,.lists_lengths g f r c⟩
  |true=>rw[qP (by decide)];exact⟨.list_tuple h1 h2 c,.list_tuple h1 h2 c⟩
 |true=>cases CT with
  |false=>rw[qP (by decide)];exact⟨.tuple_list h1 h2 c,.tuple_list h1 h2 c⟩
  |true=>
   rw[rG rfl];have g:IsTup s.heap a A5.toArray:=h1;have f:IsTup s.heap b Bx.toArray:=h2;have e:((List.range (min A5.toArray.size Bx.toArray.size)).all (λj=>CL (xs.getD j .A8) (ys.getD j .A8)) && A5.toArray.size == Bx.toArray.size)=D2 xs ys:=by
    by_cases d:xs.length=ys.length
    .rw[Zp xs ys d,i,k,<- d,cC,tO,nW]
    .rw[VJ xs ys d,i,k,show(xs.length == ys.length)=false from by simpa using d,UY]
   have k1:=SeqAt.RcAt.tuples (A:=A) (e:=λj=>CL (xs.getD j .A8) (ys.getD j .A8)) g f c it;have k2:=SeqAt.RcNeAt.tuples (A:=A) (e:=λj=>CL (xs.getD j .A8) (ys.getD j .A8)) g f c it;rw[e]at k1 k2;exact⟨k1,k2⟩
theorem yP(I:Inv X Zy Z H s):∀(d:Nat)(x y:V)(p q:PV),Rep H x p->Rep H y q->dat X.K d p->dat X.K d q->∀(A:Around)(u v:Value),RelV x u->RelV y v->A.units+d<cLine->SeqAt.EqAt A s u v (CL p q):=λd=>by
 induction d with
 |zero=>
  intro x y p q k h h1 h2 A u v f c F;rcases GN h1 k with⟨i,o⟩|⟨_,_,_,_,_,e,_⟩
  .rcases GN h2 h with⟨g,m⟩|⟨_,_,_,_,_,e,_⟩
   .subst o;subst m;rw[Sj i g];exact To f c (SE i) (SE g)
   .cases e
  .cases e
 |succ d E=>
  intro x y p q k h h1 h2 A u v f c F;rcases GN h1 k with⟨i,o⟩|⟨M,tp,a,vs,xs,e,n,k1⟩
  .rcases GN h2 h with⟨g,m⟩|⟨L,CT,b,ws,ys,e,l,k2⟩
   .subst o;subst m;rw[Sj i g];exact To f c (SE i) (SE g)
   .obtain⟨A5,r,_,j,_⟩:=l.HD I;subst o;subst r;cases(show v=Value.ref b from c);rw[(Sb l i).2];exact(Ts j i f (by omega)).1.2
  .cases e;rcases GN h2 h with⟨g,m⟩|⟨L,CT,b,ws,ys,e,l,k2⟩
   .obtain⟨A5,ex,_,j,_⟩:=n.HD I;subst m;subst ex;cases(show u=Value.ref a from f);rw[(Sb n g).1];exact(Ts j g c (by omega)).1.1
   .cases e;obtain⟨A5,ex,v1,D,z⟩:=n.HD I;obtain⟨Bx,r,B,C,w⟩:=l.HD I;subst ex;subst r;cases(show u=Value.ref a from f);cases(show v=Value.ref b from c)
    by_cases t:a=b
    .subst t;rw[vC I (d+1) _ p q k h h1 h2];exact .same _
    .rw[X4 n l];refine SeqAt.EqAt.of_refs t (lM D C v1 B z w (by omega) λx y p q u v J G k h f c=>?_).1;exact E x y p q k h (k1 p J) (k2 q G) A.in1 u v f c (by show A.units+1+d<cLine;omega)
theorem gX(I:Inv X Zy Z H s)(d:Nat)(x y:V)(p q:PV)(m:Rep H x p)(i:Rep H y q)(h1:dat X.K d p)(h2:dat X.K d q)(A:Around)(u v:Value)(f:RelV x u)(c:RelV y v)(L:A.units+d<cLine):SeqAt.RcAt A s u v (CL p q)/\SeqAt.RcNeAt A s u v (!CL p q):=by
 rcases GN h1 m with⟨n,r⟩|⟨t,tp,a,vs,xs,e,k,k1⟩
 .rcases GN h2 i with⟨l,h⟩|⟨J,CT,b,ws,ys,e,g,k2⟩
  .subst r;subst h;exact qt n l f c
  .obtain⟨A5,o,_,j,_⟩:=g.HD I;subst r;subst o;cases(show v=Value.ref b from c);rw[(Sb g n).2];have z:=Ts (A:=A) j n f (by omega);exact⟨z.2.1.2,z.2.2.2⟩
 .rcases GN h2 i with⟨l,h⟩|⟨J,CT,b,ws,ys,h,g,k2⟩
  .obtain⟨A5,ex,_,j,_⟩:=k.HD I;subst h;subst ex;cases(show u=Value.ref a from f);rw[(Sb k l).1];have z:=Ts (A:=A) j l c (by omega);exact⟨z.2.1.1,z.2.2.1⟩
  .subst e;cases h;obtain⟨A5,ex,v1,E,B⟩:=k.HD I;obtain⟨Bx,o,C,D,w⟩:=g.HD I;subst ex;subst o;cases(show u=Value.ref a from f);cases(show v=Value.ref b from c);rw[X4 k g];exact lM E D v1 C B w (by omega) λx y p q u v G F m i f c=>yP I t x y p q m i (k1 p G) (k2 q F) A.in1 u v f c (by show A.units+1+t<cLine;omega)
def Td(K:ZIV)(neg:Bool):R2:=λx y H Q=>∃p q,Rep H x p/\Rep H y q/\dat K 40 p/\dat K 40 q/\Q (.bl (if neg then !CL p q else CL p q)) H
theorem tU(i:X.A.units+64<cLine):BX X (compareOp .Eq) (Td X.K false):=by
 intro Zy s Z H x y v u Q I b a h;obtain⟨p,q,d,c,g,f,e⟩:=h;exact(gX I 40 x y p q d c g f X.A _ _ b a (by omega)).1 _ _ _ _ ⟨.bl (CL p q),H,I,rfl,e⟩
theorem jH(i:X.A.units+64<cLine):BX X (compareOp .NotEq) (Td X.K true):=by
 intro Zy s Z H x y v u Q I b a h;obtain⟨p,q,d,c,g,f,e⟩:=h;exact(gX I 40 x y p q d c g f X.A _ _ b a (by omega)).2 _ _ _ _ ⟨.bl (!CL p q),H,I,rfl,e⟩
end
section
variable[Xw]
variable{K:ZIV}{k:PV->Prop}
theorem mS(h:Wp ss ta λp=>Wp ss tb λq=>dat K 40 p/\dat K 40 q/\k (.bl (CL p q))):Wp ss (C5 (Td K false) ta tb) k:=⟨λE Z F H Q S q=>
 h.go E Z F H _ S λv p F1 H1 b d h2=>h2.go E Z F1 H1 _ b.st λg p2 F2 H2 a c⟨f,e,kk⟩=>
  ⟨p,p2,(d.mono a.ff).mono a.st.fh,c.mono a.st.fh,f,e,q _ _ F2 H2 (b.trans a) (.bl _) kk⟩⟩
theorem Ut(h:Wp ss ta λp=>Wp ss tb λq=>dat K 40 p/\dat K 40 q/\k (.bl (!CL p q))):Wp ss (C5 (Td K true) ta tb) k:=⟨λE Z F H Q S q=>
 h.go E Z F H _ S λv p F1 H1 b d h2=>h2.go E Z F1 H1 _ b.st λg p2 F2 H2 a c⟨f,e,kk⟩=>
  ⟨p,p2,(d.mono a.ff).mono a.st.fh,c.mono a.st.fh,f,e,q _ _ F2 H2 (b.trans a) (.bl _) kk⟩⟩
end
noncomputable def OV.at(t:OV):List Nat->Option OV
 | []=>some t
 |j::p=>match t with
  | .nd _ _ xs=>(xs[j]?).bind λx=>OV.at x p
  | .tp xs=>(xs[j]?).bind λx=>OV.at x p
  | .fz _=>none
noncomputable def OV.put(t:OV)(l:List Nat)(n:OV):OV:=match l with
 | []=>n
 |j::p=>match t with
  | .nd k a xs=>match xs[j]? with
   |some x=>.nd k a (xs.set j (OV.put x p n))
   |none=>.nd k a xs
  | .tp xs=>match xs[j]? with
   |some x=>.tp (xs.set j (OV.put x p n))
   |none=>.tp xs
  | .fz q=>.fz q
theorem OV.J4:t.at []=some t:=by rw[OV.at]
theorem OV.Lq{k:NK}{xs:List OV}:(OV.nd k a xs).at (j::p)=(xs[j]?).bind λx=>x.at p:=by rw[OV.at]
theorem OV.QH{xs:List OV}:(OV.tp xs).at (j::p)=(xs[j]?).bind λx=>x.at p:=by rw[OV.at]
theorem OV.Fb:t.put [] n=n:=by rw[OV.put]
theorem OV.K2{k:NK}{xs:List OV}(h:xs[j]?=some x):(OV.nd k a xs).put (j::p) n=.nd k a (xs.set j (x.put p n)):=by rw[OV.put,h]
theorem OV.RI{xs:List OV}(h:xs[j]?=some x):(OV.tp xs).put (j::p) n=.tp (xs.set j (x.put p n)):=by rw[OV.put,h]
theorem OV.NO{u w:OV}:∀{p:List Nat}{t:OV}{j:Nat},t.at p=some u->u.at [j]=some w->t.at (p++[j])=some w
 | [],t,j,h,h2=>by rw[OV.J4]at h;cases h;exact h2
 |i::p,.nd k a xs,j,h,h2=>by
  rw[OV.Lq]at h;rw[bj,OV.Lq];cases e:xs[i]? with
  |none=>rw[e]at h;cases h
  |some x=>rw[e]at h;exact OV.NO (t:=x) h h2
 |i::p,.tp xs,j,h,h2=>by
  rw[OV.QH]at h;rw[bj,OV.QH];cases e:xs[i]? with
  |none=>rw[e]at h;cases h
  |some x=>rw[e]at h;exact OV.NO (t:=x) h h2
 |i::p,.fz q,j,h,h2=>by rw[OV.at]at h;cases h
theorem JV:∀{xs:List OV}{j:Nat}{x:OV},xs[j]?=some x->∃l r,OV.Ap xs=l++x.addrs++r/\∀y:OV,OV.Ap (xs.set j y)=l++y.addrs++r
 |x::xs,0,z,h=>by
  simp at h;subst h;exact⟨[],OV.Ap xs,by rw[OV.Cq];rfl,λy=>by rw[c8,OV.Cq];rfl⟩
 |x::xs,j+1,z,h=>by
  obtain⟨l,r,b,a⟩:=JV (xs:=xs) (j:=j) (x:=z) (by simpa using h)
  refine⟨x.addrs++l,r,by rw[OV.Cq,b];simp[C4],λy=>by rw[Ug,OV.Cq,a];simp[C4]⟩
theorem OV.split{u:OV}:∀{p:List Nat}{t:OV},t.at p=some u->∃l r,t.addrs=l++u.addrs++r/\∀n:OV,(t.put p n).addrs=l++n.addrs++r
 | [],t,h=>by rw[OV.J4]at h;cases h;exact⟨[],[],by simp,λn=>by rw[OV.Fb];simp⟩
 |j::p,.nd k a xs,h=>by
  rw[OV.Lq]at h;cases e:xs[j]? with
  |none=>rw[e]at h;cases h
  |some x=>
   rw[e]at h;obtain⟨l,r,g,f⟩:=JV e;obtain⟨l2,b,d,c⟩:=OV.split (t:=x) h;refine⟨a::(k.more++(l++l2)),b++r,by rw[OV.Di,g,d];simp[C4],λn=>by rw[OV.K2 e,OV.Di,f,c];simp[C4]⟩
 |j::p,.tp xs,h=>by
  rw[OV.QH]at h;cases e:xs[j]? with
  |none=>rw[e]at h;cases h
  |some x=>
   rw[e]at h;obtain⟨l,r,g,f⟩:=JV e;obtain⟨l2,b,d,c⟩:=OV.split (t:=x) h;refine⟨l++l2,b++r,by rw[OV.IL,g,d];simp[C4],λn=>by rw[OV.RI e,OV.IL,f,c];simp[C4]⟩
 |j::p,.fz q,h=>by rw[OV.at]at h;cases h
theorem BV.get{F H:Hp}{vs:List V}{ts:List OV}{j:Nat}{t:OV}(r:BV F H vs ts)(e:ts[j]?=some t):∃v,vs[j]?=some v/\BI F H v t:=by
 induction ts generalizing vs j with
 |nil=>cases e
 |cons q ps c=>
  obtain⟨v,ws,rfl,a,b⟩:=r.inv;cases j with
  |zero=>cases e;exact⟨_,rfl,a⟩
  |succ j=>exact c (vs:=ws) (j:=j) b e
theorem BV.append{xs ys:List OV}(r:BV F H vs xs)(s:BV F H ws ys):BV F H (vs++ws) (xs++ys):=by
 induction xs generalizing vs with
 |nil=>cases r.DS;exact s
 |cons p ps c=>obtain⟨v,us,rfl,a,b⟩:=r.inv;exact .cons a (c b)
theorem BV.one(r:BI F H v t):BV F H [v] [t]:=.cons r .nil
theorem ZAy(r:Aa F vs xs):BV F H vs (xs.map .fz):=by
 induction xs generalizing vs with
 |nil=>cases r.DS;exact .nil
 |cons p ps c=>obtain⟨v,us,rfl,a,b⟩:=r.inv;exact .cons (.fz a) (c b)
theorem BV.rO(r:BV F H vs (xs.map .fz)):Aa F vs xs:=by
 induction xs generalizing vs with
 |nil=>cases r.DS;exact .nil
 |cons p ps c=>obtain⟨v,us,rfl,a,b⟩:=r.inv;exact .cons a.inv (c b)
theorem b4:∀(xs:List PV),OV.Ap (xs.map .fz)=[]
 | []=>by rw[Ud,OV.Ap]
 |x::r=>by rw[C8,OV.Cq,OV.Hq,b4 r];rfl
theorem BV.set{xs:List OV}(j:Nat)(r:BV F H vs xs)(q:BI F H v t):BV F H (vs.set j v) (xs.set j t):=by
 induction xs generalizing vs j with
 |nil=>cases r.DS;exact .nil
 |cons p ps c=>
  obtain⟨u,us,rfl,a,b⟩:=r.inv;cases j with
  |zero=>exact .cons q b
  |succ j=>exact .cons a (c j b)
theorem BV.swap{xs:List OV}(r:BV F H vs xs)(h:xs[j]?=some x)(f:vs[j]?=some v)(e:∀l r,OV.Ap xs=l++x.addrs++r->(∀z:OV,OV.Ap (xs.set j z)=l++z.addrs++r)->∀b∈l++r,∀o,H b=some o->H' b=some o)(g:BI F H' v y):BV F H' vs (xs.set j y):=by
 induction xs generalizing vs j with
 |nil=>cases h
 |cons p ps m=>
  obtain⟨u,us,rfl,a,b⟩:=r.inv;cases j with
  |zero=>
   cases h;cases f;refine .cons g (b.mono (AB.refl _) λc d o=>e [] (OV.Ap ps) (by rw[OV.Cq];rfl) (λz=>by rw[c8,OV.Cq];rfl) c d o)
  |succ j=>
   rw[Ug];obtain⟨l,q,s,n⟩:=JV (xs:=ps) (j:=j) h;refine .cons (a.mono (AB.refl _) λc d o=>e (p.addrs++l) q (by rw[OV.Cq,s,C4,C4,C4]) (λz=>by rw[Ug,OV.Cq,n,C4,C4,C4]) c (HY _ (HY _ d)) o) (m (vs:=us) (j:=j) b h f λk i Ef D3 c d o=>?_);refine e (p.addrs++k) i (by rw[OV.Cq,Ef,C4,C4,C4]) (λz=>by rw[Ug,OV.Cq,D3,C4,C4,C4]) c ?_ o;rcases List.mem_append.mp d with hz|hz
   .exact HY _ (FY _ hz)
   .exact FY _ hz
theorem BI.at{F H:Hp}{u:OV}:∀{p:List Nat}{t:OV}{v:V},BI F H v t->t.at p=some u->∃w,BI F H w u/\∀(H':Hp)(n:OV),BI F H' w n->(∀l r,t.addrs=l++u.addrs++r->(∀n:OV,(t.put p n).addrs=l++n.addrs++r)->∀b∈l++r,∀o,H b=some o->H' b=some o)->BI F H' v (t.put p n)
 | [],t,v,h,e=>by rw[OV.J4]at e;cases e;exact⟨v,h,λH' n r _=>by rw[OV.Fb];exact r⟩
 |j::p,.fz q,v,h,e=>by rw[OV.at]at e;cases e
 |j::p,.nd k a xs,_,.nd h sd ft r,e=>by
  rw[OV.Lq]at e;cases ex:xs[j]? with
  |none=>rw[ex]at e;cases e
  |some x=>
   rw[ex]at e;obtain⟨G,V7,B⟩:=r.get ex;obtain⟨w,d,go⟩:=BI.at (t:=x) B e;refine⟨w,d,λH' n A s=>?_⟩;obtain⟨l2,y,E,D⟩:=OV.split e;have key:∀l r,OV.Ap xs=l++x.addrs++r->(∀z:OV,OV.Ap (xs.set j z)=l++z.addrs++r)->∀b,b∈(a::(k.more++(l++l2)))++(y++r)->∀o,H b=some o->H' b=some o:=λl r m i b c o=>
    s (a::(k.more++(l++l2))) (y++r) (by rw[OV.Di,m,E];simp[C4]) (λn=>by rw[OV.K2 ex,OV.Di,i,D];simp[C4]) b c o
   obtain⟨l,q,m,i⟩:=JV ex;rw[OV.K2 ex];refine .nd (key l q m i a (by simp) _ h) (NK.jf sd λb c=>key l q m i b (by simp[c])) ft ?_;refine r.swap ex V7 (λg f Ef D3 b c o=>key g f Ef D3 b (by rcases List.mem_append.mp c with hz|hz <;> simp[hz]) o) ?_
   refine go H' n A λg f g1 C b c o=>?_;refine s (a::(k.more++(l++g))) (f++q) (by rw[OV.Di,m,g1];simp[C4]) (λn=>by rw[OV.K2 ex,OV.Di,i,C];simp[C4]) b (by rcases List.mem_append.mp c with hz|hz <;> simp[hz]) o
 |j::p,.tp xs,_,.tp h r,e=>by
  rw[OV.QH]at e;cases ex:xs[j]? with
  |none=>rw[ex]at e;cases e
  |some x=>
   rw[ex]at e;obtain⟨G,V7,B⟩:=r.get ex;obtain⟨w,d,go⟩:=BI.at (t:=x) B e;refine⟨w,d,λH' n A s=>?_⟩;obtain⟨l2,y,E,D⟩:=OV.split e;obtain⟨l,q,m,i⟩:=JV ex;rw[OV.RI ex];refine .tp h (r.swap ex V7 (λg f Ef D3 b c o=>?_) (go H' n A λg f g1 C b c o=>?_))
   .exact s (g++l2) (y++f) (by rw[OV.IL,Ef,E];simp[C4]) (λn=>by rw[OV.RI ex,OV.IL,D3,D];simp[C4]) b (by rcases List.mem_append.mp c with hz|hz <;> simp[hz]) o
   .exact s (l++g) (f++q) (by rw[OV.IL,m,g1];simp[C4]) (λn=>by rw[OV.RI ex,OV.IL,i,C];simp[C4]) b (by rcases List.mem_append.mp c with hz|hz <;> simp[hz]) o
theorem Rw{l u r n:List Addr}(h:(l++u++r).Nodup)(hn:n.Nodup)(hd:∀b∈n,b∈u∨b∉l++u++r):(l++n++r).Nodup:=by
 rw[Ct]at h ⊢;obtain⟨h1,h2,f⟩:=h;rw[Ct]at h1 ⊢;obtain⟨i,j,g⟩:=h1;refine⟨⟨i,hn,λa c b d e=>?_⟩,h2,λa c b d e=>?_⟩
 .subst e;rcases hd a d with z|z
  .exact g a c a z rfl
  .exact z (by simp[c])
 .subst e;rcases List.mem_append.mp c with c|c
  .exact f a (by simp[c]) a d rfl
  .rcases hd a c with z|z
   .exact f a (by simp[z]) a d rfl
   .exact z (by simp[d])
theorem Sg.Yw(S:Sg E ss Z F H){k:NK}{xs:List OV}{ho:HO}{lt:Bool}(hi:ss[i]?=some (.ow lt t))(B3:t.at p=some (.nd k a xs))(hn:BI F (upd H a ho) (.ref a) n)(nd:n.addrs.Nodup)
  (G:∀b∈n.addrs,b∈(OV.nd k a xs).addrs∨(F b=none/\E.H0 b=none/\∀(j:Nat)s,ss[j]?=some s->¬ Be s Z[j]? b)):Sg E (ss.set i (.ow lt (t.put p n))) Z F (upd H a ho):=by
 obtain⟨v,e,r,Zw,q⟩:=S.ok i _ hi;obtain⟨l,K,g,D⟩:=OV.split B3;have f:a∈(OV.nd k a xs).addrs:=by rw[OV.Di];simp
 have u:∀b∈(OV.nd k a xs).addrs,b∈t.addrs:=λb c=>by rw[g];simp[c]
 have R:∀b∈n.addrs,b∈(OV.nd k a xs).addrs∨b∉t.addrs:=λb c=>(G b c).imp id λz m=>z.2.2 i _ hi m;obtain⟨w,x,go⟩:=r.at B3;have M:w=.ref a:=by cases x;rfl
 subst M;have h:∀(j:Nat)s,(ss.set i .any)[j]?=some s->∀b,b∈t.addrs->¬ Be s Z[j]? b:=λj s d b c m=>by
  by_cases z:j=i
  .subst z;rw[Cm (List.getElem?_eq_some_iff.mp hi).1]at d;cases d;cases m
  .rw[CJ (BN z)]at d;exact S.CG j i s _ b z d hi m c
 have Q:=(S.drop i).Zz (o:=ho) (q a (u a f)).1 ((q a (u a f)).2.imp id λz=>z.2) λj s d=>h j s d a (u a f);have C:=Zw;rw[g,Ct,Ct]at C;obtain⟨⟨_,_,O⟩,_,N⟩:=C;have P:∀b,b∈l++K->b≠a:=λb c z=>by
  subst z;rcases List.mem_append.mp c with c|c
  .exact O b c b f rfl
  .exact N b (by simp[f]) b c rfl
 have L:BI F (upd H a ho) v (t.put p n):=go _ n hn λU T g1 V b c o A=>by
  rw[AY ?_];exact A;rintro rfl;have B:=Zw;rw[g1,Ct,Ct]at B;obtain⟨⟨_,_,c1⟩,_,c2⟩:=B;rcases List.mem_append.mp c with c|c
  .exact c1 b c b f rfl
  .exact c2 b (by simp[f]) b c rfl
 have I:∀b∈(t.put p n).addrs,b∈t.addrs∨(F b=none/\E.H0 b=none/\∀(j:Nat)s,ss[j]?=some s->¬ Be s Z[j]? b):=λb c=>by
  rw[D]at c;rcases List.mem_append.mp c with c|c
  .rcases List.mem_append.mp c with c|c
   .exact .inl (by rw[g];simp[c])
   .exact(G b c).imp (u b) id
  .exact .inl (by rw[g];simp[c])
 have J:=Q.setG (j:=i) (s:=.ow lt (t.put p n)) (v:=v) ⟨v,rfl,L,by rw[D];exact Rw (g▸Zw) nd λb c=>(R b c).imp id (by rw[g];exact id),λb c=>(I b c).elim (q b) λz=>⟨z.1,.inl z.2.1⟩⟩ λb c j s d y m=>by
  rcases I b c with z|z
  .exact h j s y b z m
  .rw[CJ (BN d)]at y;exact z.2.2 j s y m
 rw[QC e,Uh]at J;exact J
structure Wl [Xw] (ss:List Slot) (i:Nat) (t:OV) (te:TE) (k:List Nat->OV->Prop):Prop where
 hi:∃lt,ss[i]?=some (.ow lt t)
 go:∀(E:Ent)(Z:L2.St)(F H:Hp)(Q:VK),Sg E ss Z F H->(∀v p u F' H',Mv E ss Z F H F' H'->BI F' H' v u->t.at p=some u->k p u->Q v H')->te Z H Q
noncomputable def Dq:List Nat->List Slot->List Slot
 | [],ss=>ss
 |i::m,ss=>Dq m (ss.set i .any)
structure Wx [Xw] (ss:List Slot) (te:TE) (k:List Nat->OV->Prop):Prop where
 go:∀(E:Ent)(Z:L2.St)(F H:Hp)(Q:VK),Sg E ss Z F H->(∀v m u F' H',Mv E ss Z F H F' H'->BI F' H' v u->u.addrs.Nodup->(∀a∈u.addrs,F' a=none/\E.H0 a=none/\((∃i∈m,∃s,s≠Slot.AV/\ss[i]?=some s/\Be s Z[i]? a)∨H a=none))->k m u->Q v H')->te Z H Q
structure Mg [Xw] (ss:List Slot) (te:TA) (k:List Nat->List OV->Prop):Prop where
 go:∀(E:Ent)(Z:L2.St)(F H:Hp)(Q:List V->Hp->Prop),Sg E ss Z F H->(∀vs m us F' H',Mv E ss Z F H F' H'->BV F' H' vs us->(OV.Ap us).Nodup->(∀a∈OV.Ap us,F' a=none/\E.H0 a=none/\((∃i∈m,∃s,s≠Slot.AV/\ss[i]?=some s/\Be s Z[i]? a)∨H a=none))->k m us->Q vs H')->te Z H Q
section
variable[Xw]
variable{K:ZIV}{k:PV->Prop}
theorem OV.LD(h:t.at p=some u):∀a∈u.addrs,a∈t.addrs:=λa b=>by
 obtain⟨l,r,e,_⟩:=OV.split h;rw[e];simp[b]
theorem BI.mv(r:BI F H v u)(S:Sg E ss Z F H)(hi:∃lt,ss[i]?=some (.ow lt t))(h:t.at p=some u)(m:Mv E ss Z F H F' H'):BI F' H' v u:=
 r.mono m.ff λa b o e=>m.hh a o (S.Pa hi.choose_spec (OV.LD h a b) (by simp)) e
theorem DG{lt:Bool}{k:List Nat->OV->Prop}(hi:ss[i]?=some (.ow lt t))(a:k [] t):Wl ss i t (BS i) k:=⟨⟨lt,hi⟩,λE Z F H Q S q=>by
 obtain⟨v,e,r,_,_⟩:=S.ok i _ hi;exact⟨v,e,q v [] t F H (.refl S) r OV.J4 a⟩⟩
theorem QN{k:List Nat->OV->Prop}(h:Wl ss i t ta λp u=>∃a xs,u=.nd .lst a xs/\Wp ss tb λq=>∃(j:Int)(n:Nat)(w:OV),q=.int j/\HN xs.length j=some n/\xs[n]?=some w/\k (p++[n]) w):Wl ss i t (C5 (Tq K) ta tb) k:=⟨h.hi,λE Z F H Q S q=>
 h.go E Z F H _ S λv p u F1 H1 b m h1⟨a,xs,r,h2⟩=>h2.go E Z F1 H1 _ b.st λs p2 F2 H2 d l⟨j,n,w,e,hn,hw,kk⟩=>by
  subst e;cases l.inv;have g:=m.mv b.st h.hi h1 d;subst r;obtain⟨_,rfl,o,y,z,c⟩:=g.inv;obtain⟨x,hx,f⟩:=c.get hw;refine⟨a,_,j,x,rfl,rfl,Ac.of o,?_,q x (p++[n]) w F2 H2 (b.trans d) f (OV.NO h1 (by rw[OV.Lq,hw];exact OV.J4)) kk⟩;unfold L2.Bp;rw[c.length,hn];exact hx⟩
theorem RD{k:List Nat->OV->Prop}(h:Wl ss i t ta λp u=>∃xs,u=.tp xs/\Wp ss tb λq=>∃(j:Int)(n:Nat)(w:OV),q=.int j/\HN xs.length j=some n/\xs[n]?=some w/\k (p++[n]) w):Wl ss i t (C5 (NF K) ta tb) k:=⟨h.hi,λE Z F H Q S q=>
 h.go E Z F H _ S λv p u F1 H1 b l h1⟨xs,o,h2⟩=>h2.go E Z F1 H1 _ b.st λr p2 F2 H2 a g⟨j,n,w,e,hn,hw,kk⟩=>by
  subst e;cases g.inv;have f:=l.mv b.st h.hi h1 a;subst o;obtain⟨_,_,rfl,m,c⟩:=f.inv;obtain⟨x,hx,d⟩:=c.get hw;refine⟨_,_,j,x,rfl,rfl,AS.of (a.st.fh _ _ m),?_,q x (p++[n]) w F2 H2 (b.trans a) d (OV.NO h1 (by rw[OV.QH,hw];exact OV.J4)) kk⟩;unfold L2.Bp;rw[c.length,hn];exact hx⟩
theorem D9(h:Wl ss i t te λ_ u=>∃p,u=.fz p/\k p):Wp ss te k:=⟨λE Z F H Q S q=>
 h.go E Z F H _ S λv p u F1 H1 b a h1 AH=>by obtain⟨p,c,kk⟩:=AH;subst c;cases a with|fz r=>exact q v p F1 H1 b r kk⟩
theorem E2{k:List Nat->OV->Prop}(h:Wp ss te λp=>k [] (.fz p)):Wx ss te k:=⟨λE Z F H Q S q=>
 h.go E Z F H _ S λv p F1 H1 c r kk=>q v [] (.fz p) F1 H1 c (.fz r) (by rw[OV.Hq];exact Qy) (λa b=>by rw[OV.Hq]at b;cases b) kk⟩
theorem lV{k:List Nat->List OV->Prop}(h:k [] []):Mg ss BR k:=⟨λE Z F H Q S q=>q _ [] [] F H (.refl S) .nil (by rw[OV.J5];exact Qy) (λa b=>by rw[OV.J5]at b;cases b) h⟩
theorem ZAK{k:List Nat->OV->Prop}(hi:ss[i]?=some (.ow false t))(h:k [i] t):Wx ss (BS i) k:=⟨λE Z F H Q S q=>by
 obtain⟨v,e,r,nd,c⟩:=S.ok i _ hi;refine⟨_,e,q v [i] t F H (.refl S) r nd (λa b=>⟨(c a b).1,?_,.inl ⟨i,by simp,_,by simp,hi,b⟩⟩) h⟩;exact(c a b).2.elim id λz=>by cases z.1⟩
theorem Wx.ZEf(S:Sg E ss Z F H)(h:(∃i∈m,∃s,s≠Slot.AV/\ss[i]?=some s/\Be s Z[i]? a)∨H a=none):Cw ss Z a:=by
 rcases h with⟨j,_,s,c,b,o⟩|z
 .exact S.Pa b o c
 .exact S.PY z
theorem Mv.sC(m:Mv E ss Z F H F' H')(h:F a=Option.none)(h2:H a≠Option.none):F' a=Option.none:=by
 cases e:F' a with
 |none=>rfl
 |some o=>
  rcases m.nn a o e with z|z
  .rw[h]at z;cases z
  .exact absurd z h2
theorem Lv{k:List Nat->List OV->Prop}(h:Wx ss te λm u=>Mg ss tr λd us=>(∀i∈m,i∉d)/\k (m++d) (u::us)):Mg ss (Al te tr) k:=⟨λE Z F H Q S q=>
 h.go E Z F H _ S λv m u F1 H1 p l ID x h2=>h2.go E Z F1 H1 _ p.st λvs n us F2 H2 d B Qj A AH=>by
  obtain⟨I,kk⟩:=AH;have np:∀a∈u.addrs,Cw ss Z a:=λa c=>Wx.ZEf S (x a c).2.2;refine q (v::vs) (m++n) (u::us) F2 H2 (p.trans d) (.cons (l.mono d.ff λa c o e=>d.hh a o (np a c) e) B) ?_ (λa c=>?_) kk
  .rw[OV.Cq,Ct];refine⟨ID,Qj,λa c b G e=>?_⟩;subst e;rcases(A a G).2.2 with⟨C,r,s2,K,Cb,y⟩|z
   .rcases(x a c).2.2 with⟨j,g,s,J,D,o⟩|z
    .exact S.CG j C s s2 a (by rintro rfl;exact I j g r) D Cb o y
    .exact S.Eb Cb y z
   .exact l.there a c z
  .rw[OV.Cq]at c;rcases List.mem_append.mp c with c|c
   .obtain⟨f,t,w⟩:=x a c;exact⟨d.sC f (l.there a c),t,w.imp (λCr=>by obtain⟨j,g,z⟩:=Cr;exact⟨j,by simp[g],z⟩) id⟩
   .obtain⟨f,t,w⟩:=A a c;exact⟨f,t,w.imp (λWr=>by obtain⟨j,g,z⟩:=Wr;exact⟨j,by simp[g],z⟩) p.none⟩⟩
theorem uf{k:List Nat->OV->Prop}(h:Mg ss tr λm us=>us.length<=100000/\∀l,k m (.nd .lst l us)):Wx ss (RK tr) k:=⟨λE Z F H Q S q=>
 h.go E Z F H _ S λvs m us F1 H1 c g ID s AH=>by obtain⟨n,kk⟩:=AH;exact⟨small (by rw[g.length];exact n),λp d=>by
  have i:=c.st.make d (.lst vs);have j:p∉OV.Ap us:=λb=>g.there _ b d;refine q _ m (.nd .lst p us) _ _ (c.trans i) (.nd (k:=.lst) AW trivial trivial (g.mono i.ff λa b o e=>by rw[AY (by rintro rfl;exact j b)];exact e)) ?_ (λa b=>?_) (kk p)
  .rw[OV.Di];exact List.nodup_cons.mpr ⟨j,ID⟩
  .rw[OV.Di]at b;rcases List.mem_cons.mp b with e|b
   .subst e;exact⟨c.st.CA d,c.st.EK d,.inr (c.none d)⟩
   .obtain⟨f,r,w⟩:=s a b;exact⟨f,r,w⟩⟩⟩
theorem QQ{j:Nat}{s:Slot}:∀{m:List Nat}{ss:List Slot},(Dq m ss)[j]?=some s->s=.any∨(ss[j]?=some s/\j∉m)
 | [],ss,h=>.inr ⟨h,by simp⟩
 |i::m,ss,h=>by
  rcases QQ (m:=m) (ss:=ss.set i .any) h with e|⟨e,hm⟩
  .exact .inl e
  .by_cases q:j=i
   .subst q;have a:j<ss.length:=by have:=(List.getElem?_eq_some_iff.mp e).1;simpa using this
    rw[Cm a]at e;exact .inl (Bo e).symm
   .rw[CJ (BN q)]at e;exact .inr ⟨e,by simp[q,hm]⟩
theorem Sg.Dq{E:Ent0}{Z:L2.St}{F H:Hp}:∀(m:List Nat){ss:List Slot},Sg E ss Z F H->Sg E (Fz.Dq m ss) Z F H
 | [],_,S=>S
 |i::m,_,S=>Sg.Dq m (S.drop i)
theorem Sg.eQ(S0:Sg E ss Z F0 H0)(S:Sg E ss Z F H)(r:BI F H v u)(nd:u.addrs.Nodup)(c:∀a∈u.addrs,F a=none/\E.H0 a=none/\((∃i∈m,∃s,s≠Slot.AV/\ss[i]?=some s/\Be s Z[i]? a)∨H0 a=none)):
  Sg E ((Fz.Dq m ss).set j (.ow false u)) (Z.set j (some v)) F H:=by
 refine(S.Dq m).setG ⟨v,rfl,r,nd,λa b=>⟨(c a b).1,.inl (c a b).2.1⟩⟩ λa b i s FI g o=>?_;rcases QQ g with e|⟨He,hm⟩
 .subst e;cases o
 .rcases(c a b).2.2 with⟨f,Hn,s2,_,Cb,d⟩|z
  .exact S.CG i f s s2 a (by rintro rfl;exact hm Hn) He Cb o d
  .exact S0.Eb He o z
theorem cU(h:Wx ss te λm u=>nx ((Fz.Dq m ss).set j (.ow false u))):Ws ss (Ep te (Cd j)) nx R:=⟨λE D Z F H S hn c=>
 h.go E Z F H _ S λv m u F1 H1 a r nd b kk=>hn _ _ F1 H1 kk (Sg.eQ S a.st r nd b) a.ff⟩
theorem BI.rep(ff:AB F F1):∀{v:V}{t:OV},BI F H v t->(∀a∈t.addrs,∀o,H a=some o->F1 a=some o)->Rep F1 v t.pv:=by
 intro v t r h;exact BI.rec (motive_1:=λv t _=>(∀a∈t.addrs,∀o,H a=some o->F1 a=some o)->Rep F1 v t.pv) (motive_2:=λvs ts _=>(∀a∈OV.Ap ts,∀o,H a=some o->F1 a=some o)->Aa F1 vs (OV.Cz ts))
  (λ{v p}r _=>by rw[OV.pv];exact r.mono ff)
  (λ{a vs xs}e _ c h=>by rw[OV.pv];exact .tup (ff _ _ e) (c (by rw[OV.IL]at h;exact h)))
  (λ{k a vs xs}e i g _ c h=>by
   rw[OV.Di]at h;have f:=c λa b=>h a (by simp[b]);have d:=h a (by simp) _ e;cases k with
   |lst=>rw[OV.pv];exact .lst d f
   |B2 ks=>rw[OV.pv];exact .B2 d g f
   |obj C dx ns=>rw[OV.pv];exact .obj d (h dx (by simp[NK.more]) _ i) g f)
  (λ_=>by rw[OV.Cz];exact .nil)
  (λ_ _ j W2 h=>by
   rw[OV.Cq]at h;rw[OV.Cz];exact .cons (j λa b=>h a (by simp[b])) (W2 λa b=>h a (by simp[b])))
  r h
theorem ZGj{t':TS}(i:Nat)(hi:ss[i]?=some (.ow false t))(h:Ws (ss.set i (.is t.pv)) t' nx R):Ws ss t' nx R:=⟨λE D Z F H S hn k=>by
 obtain⟨v,e,r,nd,f⟩:=S.ok i _ hi;obtain⟨S1,g⟩:=(S.drop i).lay t.addrs (λa b=>⟨(f a b).1,(f a b).2.elim id (λz=>by cases z.1),r.there a b⟩) λa b j s c m=>by
  by_cases q:j=i
  .subst q;rw[Cm (List.getElem?_eq_some_iff.mp hi).1]at c;cases c;cases m
  .rw[CJ (BN q)]at c;exact S.CG j i s _ a q c hi m b
 have d:=S1.Er (j:=i) (v:=v) (p:=t.pv) (r.rep g λa b o ho=>by unfold CD;rw[rG b];exact ho);rw[QC e,Uh]at d;exact h.go E D Z _ H d (λDf σ2 F2 H2 n d s2=>hn Df σ2 F2 H2 n d (g.trans s2)) k⟩
variable{lt:Bool}
theorem UG:(OV.nd .lst a us).addrs=a::OV.Ap us:=by rw[OV.Di];rfl
theorem OQ:∀(us ws:List OV),OV.Ap (us++ws)=OV.Ap us++OV.Ap ws
 | [],ws=>by rw[c6,OV.J5,c6]
 |u::us,ws=>by rw[bj,OV.Cq,OV.Cq,OQ us ws,C4]
theorem SD(u:OV):OV.Ap [u]=u.addrs:=by rw[OV.Cq,OV.J5,G0]
theorem Sg.qK{us':List OV}(S0:Sg E ss Z F0 H0)(S:Sg E ss Z F H)(hi:ss[i]?=some (.ow lt t))(B3:t.at p=some (.nd .lst a us))
  (d:∀a∈u.addrs,F a=none/\E.H0 a=none/\((∃i∈m,∃s,s≠Slot.AV/\ss[i]?=some s/\Be s Z[i]? a)∨H0 a=none)) (Fi:i∉m)
  (G:BV F H CY us') (P7:(OV.Ap us').Nodup) (JG:∀b∈OV.Ap us',b∈OV.Ap us∨b∈u.addrs):Sg E ((Fz.Dq m ss).set i (.ow lt (t.put p (.nd .lst a us')))) Z F (upd H a (.lst CY)):=by
 have L:(Fz.Dq m ss)[i]?=some (.ow lt t):=by
  have n:∀(m:List Nat)(ss:List Slot),ss[i]?=some (.ow lt t)->i∉m->(Fz.Dq m ss)[i]?=some (.ow lt t):=by
   intro m
   induction m with
   |nil=>intro ss h _;exact h
   |cons j m C=>
    intro ss h f;refine C _ ?_ λz=>f (by simp[z]);rw[CJ (by rintro rfl;exact f (by simp))];exact h
  exact n m ss hi Fi
 obtain⟨v,e,r,nd,q⟩:=S.ok i _ hi;have A:∀b,b∈a::OV.Ap us->b∈t.addrs:=λb c=>OV.LD B3 b (by rw[UG];exact c);have K:∀b∈u.addrs,b∉t.addrs:=λb c z=>by
  rcases(d b c).2.2 with⟨j,I,s,_,g,o⟩|w
  .exact S.CG j i s _ b (by rintro rfl;exact Fi I) g hi o z
  .exact S0.Eb hi z w
 have x:(OV.nd .lst a us).addrs.Nodup:=by
  obtain⟨l,M,J,_⟩:=OV.split B3;rw[J,Ct,Ct]at nd;exact nd.1.2.1
 rw[UG]at x;have na:∀b∈OV.Ap us',b≠a:=λb c z=>by
  subst z;rcases JG b c with w|w
  .exact(List.nodup_cons.mp x).1 w
  .exact K b w (A b (by simp))
 refine(S.Dq m).Yw L B3 (.nd (k:=.lst) AW trivial trivial (G.mono (AB.refl _) λb c o ho=>by rw[AY (na b c)];exact ho)) (by rw[UG];exact List.nodup_cons.mpr ⟨λz=>na a z rfl,P7⟩) λb c=>?_;rw[UG]at c ⊢;rcases List.mem_cons.mp c with w|w
 .exact .inl (by simp[w])
 .rcases JG b w with z|z
  .exact .inl (by simp[z])
  .refine .inr ⟨(d b z).1,(d b z).2.1,λj s g o=>?_⟩;rcases QQ g with y|⟨He,f⟩
   .subst y;cases o
   .rcases(d b z).2.2 with⟨D,Hn,s2,_,Cb,B⟩|y
    .exact S.CG j D s s2 b (by rintro rfl;exact f Hn) He Cb o B
    .exact S0.Eb He o y
theorem vZ{k:OV->Prop}(h:Wx ss te λ_ u=>k u):Ws ss (Gf te) nx (.ow k):=⟨λE D Z F H S hn e=>
 h.go E Z F H _ S λv m u F1 H1 d r nd b kk=>e v F1 H1 d.st.toFin ⟨u,r,nd,λa c=>⟨(b a c).1,(b a c).2.1⟩,kk⟩⟩
end
def ptr(a:Addr):Hp->V->Prop:=λ_ v=>v=.ref a
section
variable[Xw]
variable{K:ZIV}{k:PV->Prop}{lt:Bool}
theorem Sg.wg(S:Sg E ss Z F H)(hi:ss[i]?=some (.ow lt t))(B3:t.at p=some (.nd .lst a (ps.map .fz)))(e:Aa F CY iZ):Sg E (ss.set i (.ow lt (t.put p (.nd .lst a (iZ.map .fz))))) Z F (upd H a (.lst CY)):=
 Sg.qK (m:=[]) (u:=.fz .A8) S S hi B3 (λa d=>by rw[OV.Hq]at d;cases d) (by simp) (ZAy e) (by rw[b4];exact Qy) λb c=>by rw[b4]at c;cases c
theorem Sg.wV(S:Sg E ss Z F H)(hi:ss[i]?=some (.ow lt t))(B3:t.at p=some (.nd .lst a (ps.map .fz))):∃vs,H a=some (.lst vs)/\Aa F vs ps:=by
 obtain⟨v,e,r,_,_⟩:=S.ok i _ hi;obtain⟨w,b,_⟩:=r.at B3;obtain⟨_,rfl,d,_,_,c⟩:=b.inv;exact⟨_,d,c.rO⟩
theorem Ij{k:List Nat->OV->Prop}{nk:NK}(g:ss[j]?=some (.raw (ptr a)))(hi:ss[i]?=some (.ow lt t))(B3:t.at p=some (.nd nk a us))(f:k p (.nd nk a us)):Wl ss i t (BS j) k:=⟨⟨lt,hi⟩,λE Z F H Q S q=>by
 obtain⟨v,e,c,_⟩:=S.ok j _ g;obtain⟨l,m,d,_,_⟩:=S.ok i _ hi;obtain⟨w,b,_⟩:=d.at B3;have h:w=.ref a:=by cases b;rfl
 subst h;cases(show v=.ref a from c);exact⟨_,e,q _ p _ F H (.refl S) b B3 f⟩⟩
theorem u3(h:Wp ss te λq=>Wl ss i t ta λp u=>∃(lt:Bool)(a:Addr)(ps:List PV),ss[i]?=some (.ow lt t)/\u=.nd .lst a (ps.map .fz)/\Wp ss ti λl=>∃n:Nat,l=.int n/\n<ps.length/\nx (ss.set i (.ow lt (t.put p (.nd .lst a ((ps.set n q).map .fz)))))):Ws ss (Ep te (Ww ta ti kz)) nx R:=⟨λE D Z F H S hn z=>
 h.go E Z F H _ S λv q F1 H1 e g h2=>h2.go E Z F1 H1 _ e.st λf p u F2 H2 c k B3⟨lt,a,ps,hi,s,o⟩=>by
  subst s;have r:f=.ref a:=by cases k;rfl
  subst r;refine o.go E Z F2 H2 _ c.st λx y F3 H3 b j⟨n,w,Js,kk⟩=>?_;subst w;cases j;obtain⟨vs,m,d⟩:=b.st.wV hi B3;refine⟨a,vs,_,n,rfl,rfl,m,cz (by rw[d.length];exact Js),?_⟩;exact hn _ Z F3 _ kk (b.st.wg hi B3 (d.set n (g.mono (c.ff.trans b.ff)))) (e.ff.trans (c.ff.trans b.ff))⟩
end
def DQ:List Slot->L2.St->List Addr
 | .own _::ss,some (.ref l)::Z=>l::DQ ss Z
 | .ow _ t::ss,_::Z=>t.addrs++DQ ss Z
 |_::ss,_::Z=>DQ ss Z
 |_,_=>[]
theorem cw:∀{ss:List Slot}{Z:L2.St}{a:Addr},a∈DQ ss Z->∃(i:Nat)(s:Slot),ss[i]?=some s/\s≠.AV/\Be s Z[i]? a
 | [],Z,a,h=>absurd h BB
 |s::ss,[],a,h=>by cases s <;> exact absurd h BB
 |s::ss,o::Z,a,h=>by
  have up:a∈DQ ss Z->∃(i:Nat)(s':Slot),(s::ss)[i]?=some s'/\s'≠.AV/\Be s' (o::Z)[i]? a:=λh=>by
   obtain⟨i,s',h1,h2,b⟩:=cw h;exact⟨i+1,s',by simpa using h1,h2,by simpa using b⟩
  cases s with
  |own xs=>
   cases o with
   |none=>exact up h
   |some v=>
    cases v with
    |ref l=>
     have h:a∈l::DQ ss Z:=h;rcases List.mem_cons.mp h with e|h
     .subst e;exact⟨0,_,rfl,by simp,rfl⟩
     .exact up h
    |_=>exact up h
  |ow lt t=>
   have h:a∈t.addrs++DQ ss Z:=h;rcases List.mem_append.mp h with h|h
   .exact⟨0,_,rfl,by simp,h⟩
   .exact up h
  |_=>exact up h
theorem jZ:∀{ss:List Slot}{Z:L2.St}{i:Nat}{s:Slot}{a:Addr},ss.length=Z.length->ss[i]?=some s->s≠.AV->Be s Z[i]? a->a∈DQ ss Z
 | [],Z,i,s,a,_,h,_,_=>by simp at h
 |s0::ss,[],i,s,a,hl,_,_,_=>by simp at hl
 |s0::ss,o::Z,0,s,a,hl,h,hp,ho=>by
  simp at h;subst h;cases s0 with
  |own xs=>
   have e:o=some (.ref a):=by have:some o=some (some (V.ref a)):=ho;exact Bo this
   subst e;exact D5
  |ow lt t=>exact HY _ ho
  |AV=>exact absurd rfl hp
  |_=>cases ho
 |s0::ss,o::Z,i+1,s,a,hl,h,hp,ho=>by
  have q:=jZ (ss:=ss) (Z:=Z) (i:=i) (a:=a) (by simpa using hl) (by simpa using h) hp (by simpa using ho)
  cases s0 with
  |own xs=>cases o with
   |none=>exact q
   |some v=>cases v with
    |ref l=>exact DP _ q
    |_=>exact q
  |ow lt t=>exact FY _ q
  |_=>exact q
theorem BI.iP(r:BI F H v t):∀a∈t.addrs,∀vs,H a≠some (.tup vs):=
 BI.rec (motive_1:=λ_ t _=>∀a∈t.addrs,∀vs,H a≠some (.tup vs)) (motive_2:=λ_ ts _=>∀a∈OV.Ap ts,∀vs,H a≠some (.tup vs))
  (λ_ a c _=>by rw[OV.Hq]at c;cases c)
  (λ_ _ i a c vs=>by rw[OV.IL]at c;exact i a c vs)
  (λ{k}{b}{_}{_}h f _ _ i a c vs=>by
   rw[OV.Di,HZ,J7]at c;rcases c with rfl|c|c
   .rw[h];cases k <;> (intro z;cases z)
   .cases k with
    |obj C dx ns=>
     have e:a=dx:=List.mem_singleton.mp c;subst e;have d:H a=some (.own b):=f;rw[d];intro z;cases z
    |_=>exact absurd c BB
   .exact i a c vs)
  (λa c _=>by rw[OV.J5]at c;cases c)
  (λ_ _ i k a c ws=>by
   rw[OV.Cq,J7]at c;rcases c with c|c
   .exact i a c ws
   .exact k a c ws)
  r
mutual
def Fc:PV->Bool
 | .lst _=>false
 | .B2 _ _=>false
 | .obj _ _ _=>false
 | .exc _ _ _=>false
 | .tup xs=>QJ xs
 |_=>true
def QJ:List PV->Bool
 | []=>true
 |x::r=>Fc x && QJ r
end
noncomputable def HB(F:Hp)(as:List Addr):Hp:=λa=>if a∈as then none else F a
theorem Rep.sub{as:List Addr}(h:∀a∈as,∀vs,F a≠some (.tup vs)):∀{v:V}{p:PV},Rep F v p->Fc p=true->Rep (HB F as) v p:=by
 intro v p r hn;exact Rep.rec (motive_1:=λv p _=>Fc p=true->Rep (HB F as) v p) (motive_2:=λvs ps _=>QJ ps=true->Aa (HB F as) vs ps)
  (λ_=>.A8) (λb _=>.bl b) (λi _=>.int i) (λx _=>.str x)
  (λ_ _ _ z=>by simp[Fc]at z)
  (λ{a vs xs}e _ c z=>.tup (by unfold HB;rw[qP (λq=>h a q vs e)];exact e) (c (by simpa[Fc]using z)))
  (λ_ _ _ _ z=>by simp[Fc]at z)
  (λ_ _ _ _ _ z=>by simp[Fc]at z)
  (λ_=>.con)
  (λ_ z=>by simp[Fc]at z)
  (λ_ _ _ _ _ z=>by simp[Fc]at z)
  (λ_=>.nil)
  (λ_ _ d W2 z=>by
   rw[QJ,Dl]at z;exact .cons (d z.1) (W2 z.2))
  r hn
structure Wb [Xw] (ss:List Slot) (ta:TA) (k:List PV->Prop):Prop where
 go:∀(E:Ent)(Z:L2.St)(F H:Hp)(Q:List V->Hp->Prop),Sg E ss Z F H->(∀vs ps F' H',Mv E ss Z F H F' H'->Aa (CD F' H' (DQ ss Z)) vs ps->k ps->Q vs H')->ta Z H Q
theorem Sg.as(S:Sg E ss Z F H)(h:a∈DQ ss Z):F a=none/\H a≠none/\(∀vs,H a≠some (.tup vs))/\Cw ss Z a:=by
 obtain⟨i,s,b,c,ho⟩:=cw h;refine⟨S.x9 b ho,S.Eb b ho,?_,S.Pa b ho c⟩;have k:=S.ok i s b;cases s with
 |own xs=>obtain⟨l,vs,e,_,_,d,_⟩:=k;rw[show Z[i]?=some (some (.ref a))from ho]at e;cases e;rw[d];simp
 |ow lt t=>obtain⟨v,_,r,_⟩:=k;exact r.iP a ho
 |AV=>exact absurd rfl c
 |_=>cases ho
theorem Sg.TK(S:Sg E ss Z F H):AB F (CD F H (DQ ss Z))/\AB (CD F H (DQ ss Z)) H:=by
 refine⟨λa o e=>?_,λa o e=>?_⟩
 .unfold CD;rw[qP (λq=>by rw[(S.as q).1]at e;cases e)];exact e
 .unfold CD at e;split at e
  .exact e
  .exact S.fh a o e
theorem Sg.lend(S:Sg E ss Z F H)(r:Aa (CD F H (DQ ss Z)) vs ps):Sg (E3 [] (CD F H (DQ ss Z)) H) (ps.map .is) (vs.map some) (CD F H (DQ ss Z)) H:=by
 have nn:∀{p:Prop}(a:Addr),a∈([]:List Addr)->p:=λa h=>absurd h BB;refine⟨⟨S.TK.2,AB.refl _,λ_ _ _ e=>e,λ_ _ e=>.inl e,λa h=>nn a h,λa h=>nn a h,λa h=>nn a h,λa h=>nn a h,λa h=>nn a h,λa h=>nn a h⟩,by rw[AL,AL,r.length],λi s hi=>?_,λi j s u l FI hi f ms d=>?_⟩
 .rw[Bc]at hi;cases e:ps[i]? with
  |none=>rw[e]at hi;cases hi
  |some p=>
   rw[e]at hi;obtain⟨v,c,b⟩:=r.get e;have es:Slot.is p=s:=Bo hi;subst es;rw[Bc,c];exact⟨v,rfl,b⟩
 .rw[Bc]at hi;cases e:ps[i]? with
  |none=>rw[e]at hi;cases hi
  |some p=>rw[e]at hi;have es:Slot.is p=s:=Bo hi;subst es;cases ms
theorem Sg.uK(S:Sg E ss Z F H)(f:Fin (E3 [] (CD F H (DQ ss Z)) H) F' H'):Mv E ss Z F H (HB F' (DQ ss Z)) H'/\∀a∈DQ ss Z,∀vs,F' a≠some (.tup vs):=by
 have kp:∀a o,H a=some o->H' a=some o:=λa o e=>f.keep a o ⟨BB,BB⟩ e;refine⟨S.step (λa o e=>?_) (λa o e=>?_) (λa o _ e=>kp a o e) (λa o e=>?_) (λi l hi e=>Bz.keep (S.En hi e) λo e=>kp l o e),λa c vs e=>?_⟩
 .unfold HB;rw[qP (λq=>by rw[(S.as q).1]at e;cases e)];exact f.f0 a o (S.TK.1 a o e)
 .unfold HB at e;split at e
  .cases e
  .exact f.fh a o e
 .unfold HB at e;split at e
  .cases e
  .rename_i q;rcases f.fresh a o e with z|z
   .left
    have b:CD F H (DQ ss Z) a=some o:=z;unfold CD at b;rw[qP q]at b;exact b
   .exact .inr z
 .obtain⟨o,ho⟩:=Option.ne_none_iff_exists'.mp (S.as c).2.1;have z:F' a=some o:=f.f0 a o (by show CD F H (DQ ss Z) a=some o;unfold CD;rw[rG c];exact ho);rw[z]at e;cases e;exact(S.as c).2.2.1 vs ho
section
variable[Xw]
variable{K:ZIV}{k:PV->Prop}{lt:Bool}{pre:Pre}
theorem ZC6{k:List PV->Prop}(h:k []):Wb ss BR k:=⟨λE Z F H Q S q=>q _ _ F H (.refl S) .nil h⟩
theorem tw{k:List PV->Prop}(h:Wp ss te λp=>Wb ss tr λps=>k (p::ps)):Wb ss (Al te tr) k:=⟨λE Z F H Q S q=>
 h.go E Z F H _ S λv p F1 H1 b d h2=>h2.go E Z F1 H1 _ b.st λvs ps F2 H2 a c kk=>q _ _ F2 H2 (b.trans a) (.cons ((d.mono a.ff).mono a.st.TK.1) c) kk⟩
theorem pF(h:Wx ss te λm u=>m=[]/\k u.pv):Wp ss te k:=⟨λE Z F H Q S q=>
 h.go E Z F H _ S λv m u F1 H1 c r nd d AH=>by
  obtain⟨l,kk⟩:=AH;subst l;have g:∀a∈u.addrs,H a=none:=λa b=>by
   rcases(d a b).2.2 with⟨i,hi,_⟩|z
   .cases hi
   .exact z
  obtain⟨S1,f⟩:=c.st.lay u.addrs (λa b=>⟨(d a b).1,(d a b).2.1,r.there a b⟩) λa b i s j o=>S.Eb j o (g a b);refine q v u.pv _ H1 ⟨S1,c.ff.trans f,c.hh,λa o e=>?_⟩ (r.rep f λa b o ho=>by unfold CD;rw[rG b];exact ho) kk;unfold CD at e;split at e
  .rename_i z;exact .inr (g a z)
  .exact c.nn a o e⟩
end
theorem UC:∀{xs:List PV},(∀x∈xs,CL x x=true)->D2 xs xs=true
 | [],_=>by rw[D2]
 |x::r,h=>by rw[UI,h x (by simp),UC (xs:=r) λy a=>h y (by simp[a])];rfl
theorem Xh{K:ZIV}:∀(d:Nat){p:PV},dat K d p->CL p p=true:=by
 intro d
 induction d with
 |zero=>intro p h;cases p <;> first|exact h.elim|rfl|exact tO _
 |succ d b=>
  intro p h;cases p with
  |lst xs=>show D2 xs xs=true;exact UC λx hx=>b (h x hx)
  |tup xs=>show D2 xs xs=true;exact UC λx hx=>b (h x hx)
  |con a xs=>show D2 xs xs=true;exact UC λx hx=>b (h.1 x hx)
  |_=>first|exact h.elim|rfl|exact tO _
theorem Ym:∀(xs:List PV),OV.Cz (xs.map .fz)=xs
 | []=>by rw[Ud,OV.Cz]
 |x::r=>by rw[C8,OV.Cz,OV.pv,Ym r]
theorem vO(a:Addr)(xs:List PV):(OV.nd .lst a (xs.map .fz)).pv=.lst xs:=by rw[OV.pv,Ym]
end Fz
namespace L2
variable{M:Model}{A:Around}{E Q xe:Value->Shared->Prop}{s s':Shared}{ZB h':Heap}{env:Env}{l outer:List Env}{C S a b ea f fI:Addr}{dd dx fr tb:Option Addr}{o:HO}{vs:Array Value}{cd head u v:Value}{oI oe ox:Obj}{w:World}{mN mg:ZIX}{N ps sn:List Str}{n name par qual x:Str}{scope:Scope}{H H':Hp}{e e0:Expr}{X:Cx}{IU r:Option Value}{E':St->XK}{Bd Ie np p pos:Pos}{es:List Expr}{t:TA}{ab hdct:Bool}{prog:Program}{UT us:List Value}{od:Option Obj}{tk:Tok}{Zy pn:ZIW}{Z:St}{j kk t':Nat}{ta te:TE}{fd:FuncData}{b0:Stmt}{Ip:(St->XK)->TS}{th:TS}{sp:Sp}
structure Fo (h:Heap) (ea:Addr) (C:Value) (dx tb:Option Addr):Prop where
 obj:∃oe vs,h.get? ea=some oe/\oe.cls=C/\oe.dict=dx/\oe.data=.fields vs/\1<vs.size/\vs[1]?=some (tb.elim Value.none Value.ref)
 ent:∀T,tb=some T->T≠ea/\∃oT ts,h.get? T=some oT/\oT.data=.fields ts/\3<ts.size
section
variable{L:Addr}{C:Value}{Q:Unit->Shared->Prop}
theorem ZEq(o:Obj)(g:Array Value->Array Value):(o.mapFields g).dict=o.dict:=by
 obtain⟨c,d,a,sl⟩:=o;cases a <;> rfl
structure Kp (l:List Env) (ea:Addr) (tb:Option Addr) (h h':Heap):Prop where
 keep:∀b o,h.get? b=some o->b∉CS l->b≠ea->tb≠some b->h'.get? b=some o
 slot:∀b o,h.get? b=some o->b∈CS l->∃sl,h'.get? b=some { o with slots:=sl }
 size:h.objs.size<=h'.objs.size
theorem km(d:s.heap.FunFrames ZB (env::outer)){o:Obj}(ho:s.heap.get? b=some o)(hd:o.data=.fields vs):b∉CS (env::outer):=λc=>by
 obtain⟨_,u,a,hn⟩:=d.mem c;rw[ho]at a;cases a;exact hn vs hd
theorem du{more:Bool}(Ki:A.frames=some (env::outer))(i:s.heap.FunFrames ZB (env::outer))(r:env.frame=some L)
  (j:s.heap.get? ea=some oe) (t:oe.cls=C) (M9:oe.dict=dx) (hd:oe.data=.fields vs) (c:1<vs.size)
  (h:∀h' T,Kp (env::outer) ea none s.heap h'->s.heap.objs.size<=T->Fo h' ea C dx (some T)->Q () { s with heap:=h' }) :
  wpAny M A (do
   let fr <- frameOf env
   let pl <- entryPlaceOf L more
   let b <- EntryCells.newEntry head fr Value.none (rawInt L) Value.none pl
   setField (.ref ea) 1 b) Q E s:=by
 have f:=km i j hd;refine oS (wpAny_frameOf_fun Ki i r λg a=>?_);refine oS (wpAny_entryPlaceOf λpl q=>?_);unfold EntryCells.newEntry newFields;refine oS (vH ?_ (q.sizeOk5 _ _ _ _ _));generalize u:([head,Value.ref L,Value.none,rawInt L,Value.none]++(if pl.isEmpty then List.replicate 6 Value.none else pl)).toArray=ts
 have p:3<ts.size:=by
  rw[<- u];simp only[C9,CK,Ca,c5];omega
 have l:g.get? ea=some oe:=(a.2.1 ea f).trans j;have v:(g.push { cls:=.type "traceback", dict:=none,data:=.fields ts }).get? g.objs.size=some { cls:=.type "traceback", dict:=none,data:=.fields ts }:=CI g rfl;have k:=Bb (h:=g) { cls:=.type "traceback", dict:=none,data:=.fields ts } l;have n:g.objs.size≠ea:=OL (BA l);have m:=oH hd (·.setIfInBounds 1 (Value.ref g.objs.size))
 have x:=J6 (Obj.mapFields (·.setIfInBounds 1 (Value.ref g.objs.size))) k (Obj.isFreed_of_fields m)
 have y:=(FX (g.push { cls:=.type "traceback", dict:=none,data:=.fields ts }) (Obj.mapFields (·.setIfInBounds 1 (Value.ref g.objs.size))) (BN n)).trans v
 refine ZB2 k hd c (h _ g.objs.size ⟨λb o d O9 E9 _=>?_,λb o d JX=>?_,?_⟩ ?_ ⟨⟨_,_,x,?_,?_,m,?_,?_⟩,λT w=>?_⟩)
 .have e:g.get? b=some o:=(a.2.1 b O9).trans d;rw[FX _ _ (BN E9)];exact Bb _ e
 .obtain⟨sl,e⟩:=a.2.2 b o d;refine⟨sl,?_⟩;rw[FX _ _ (by rintro rfl;exact f JX)];exact Bb _ e
 .rw[UZ,Gd,a.1];exact FZ _
 .rw[a.1];exact Az _
 .rw[Obj.cls_mapFields];exact t
 .rw[ZEq];exact M9
 .simpa using c
 .simp[c]
 .cases w;exact⟨n,_,_,y,rfl,p⟩
theorem Kp.refl{l:List Env}{ea:Addr}{tb:Option Addr}{h:Heap}:Kp l ea tb h h:=⟨λ_ _ a _ _ _=>a,λ_ o a _=>⟨o.slots,a⟩,Az _⟩
theorem ZDY(Ki:A.frames=some (env::outer))(e:s.heap.FunFrames ZB (env::outer))(f:env.frame=some L)(hx:Fo s.heap ea C dx tb)
  (h:∀h' T,Kp (env::outer) ea tb s.heap h'->s.heap.objs.size<=T∨tb=some T->Fo h' ea C dx (some T)->Q () { s with heap:=h' }) :
  wpAny M A (noteFrame (.ref ea) env) Q E s:=by
 obtain⟨oe,vs,g,m,hd,Gh,j,h1⟩:=hx.obj;unfold noteFrame;simp only[f];refine oS (ZA9 g Gh h1 ?_);cases tb with
 |none=>
  rw[qP (by decide)];exact du Ki e f g m hd Gh j λh' T k q=>h h' T k (.inl q)
 |some T=>
  obtain⟨MO,p,ts,c,IH,i⟩:=hx.ent T rfl;show wpAny M A (do if(Value.ref T != Value.none)=true then _ else _) _ _ _
  rw[rG (show(Value.ref T != Value.none)=true from by simp)];refine oS (ZA9 c IH (Array.getElem?_eq_getElem i) ?_)
  by_cases l:(ts[3] == rawInt L)=true
  .rw[rG l];exact qh (h s.heap T Kp.refl (.inr rfl) hx)
  rw[qP l];refine oS (ZB2 c IH i ?_);have d:∀b,b≠T->(s.heap.update T (Obj.mapFields (·.setIfInBounds 3 Value.none))).get? b=s.heap.get? b:=λb a=>FX _ _ (BN a)
  have n:=km e c IH;refine du (s:={ s with heap:=s.heap.update T (Obj.mapFields (·.setIfInBounds 3 Value.none)) }) Ki (e.of_keeps λb o a hn=>⟨o,(d b (by rintro rfl;rw[c]at a;cases a;exact hn ts IH)).trans a,rfl⟩) f ((d ea (BN MO)).trans g) m hd Gh j λh' T' k hn x=>?_
  refine h h' T' ⟨λb o a O9 E9 O8=>k.keep b o ((d b (by rintro rfl;exact O8 rfl)).trans a) O9 E9 (by simp),λb o a JX=>k.slot b o ((d b (by rintro rfl;exact n JX)).trans a) JX,?_⟩ (.inl ?_) x
  .have z:=k.size;rw[show(s.heap.update T (Obj.mapFields (·.setIfInBounds 3 Value.none))).objs.size=s.heap.objs.size from UZ ..]at z
   exact z
  .have z:=hn;rw[show(s.heap.update T (Obj.mapFields (·.setIfInBounds 3 Value.none))).objs.size=s.heap.objs.size from UZ ..]at z
   exact z
theorem ZX(x:Fo s.heap ea C dx tb)(j:∀b∈CS l,∃o,s.heap.get? b=some o/\∀vs,o.data≠.fields vs)
  (h:∀h',Kp l ea tb s.heap h'->Fo h' ea C dx tb->Q () { s with heap:=h' }):wpAny M A (setFlight (.ref ea) fr) Q E s:=by
 obtain⟨oe,vs,g,k,hd,Gh,i,h1⟩:=x.obj;unfold setFlight;refine oS (ZA9 g Gh h1 ?_);cases tb with
 |none=>
  rw[qP (by decide)];exact qh (h s.heap Kp.refl x)
 |some T=>
  obtain⟨MO,p,ts,c,IH,e⟩:=x.ent T rfl;rw[rG (show((some T).elim Value.none Value.ref != Value.none)=true from by simp)];generalize (fr.elim Value.none λf=>rawInt f)=mk;have d:∀b,b≠T->(s.heap.update T (Obj.mapFields (·.setIfInBounds 3 mk))).get? b=s.heap.get? b:=λb a=>FX _ _ (BN a)
  have n:=J6 (Obj.mapFields (·.setIfInBounds 3 mk)) c (Obj.isFreed_of_fields (oH IH _))
  refine ZB2 c IH e (h _ ⟨λb o a _ _ O8=>(d b (by rintro rfl;exact O8 rfl)).trans a,λb o a JX=>⟨o.slots,(d b ?_).trans a⟩,by rw[UZ];exact Az _⟩ ⟨⟨oe,vs,(d ea (BN MO)).trans g,k,hd,Gh,i,h1⟩,λT' m=>?_⟩)
  .rintro rfl;obtain⟨o',ED,hn⟩:=j b JX;rw[c]at ED;cases ED;exact hn ts IH
  .cases m;exact⟨MO,_,_,n,oH IH _,by simpa using e⟩
theorem Kp.frames{h:Heap}(k:Kp l ea tb h h')(c:h.FunFrames ZB l):∀b∈CS l,∃o,h'.get? b=some o/\∀vs,o.data≠.fields vs:=λb a=>by
 obtain⟨_,o,ho,hn⟩:=c.mem a;obtain⟨sl,e⟩:=k.slot b o ho a;exact⟨_,e,hn⟩
theorem Kp.trans{T:Addr}{h h1 h2:Heap}(k:Kp l ea tb h h1)(c:h.objs.size<=T∨tb=some T)(k2:Kp l ea (some T) h1 h2):Kp l ea tb h h2:=
 ⟨λb o a O9 E9 O8=>k2.keep b o (k.keep b o a O9 E9 O8) O9 E9 (λz=>c.elim (λy=>absurd (BA a) (Nat.not_lt.mpr (Bo z▸y))) λy=>O8 (y.trans z)),
  λb o a JX=>by
  obtain⟨sl,e⟩:=k.slot b o a JX;obtain⟨HR,d⟩:=k2.slot b _ e JX;exact⟨HR,d⟩,Bg k.size k2.size⟩
theorem aQ(Ki:A.frames=some (env::outer))(a:s.heap.FunFrames ZB (env::outer))(d:env.frame=some L)(hx:Fo s.heap ea C dx tb)
  (h:∀h' T,Kp (env::outer) ea tb s.heap h'->s.heap.objs.size<=T∨tb=some T->Fo h' ea C dx (some T)->Q () { s with heap:=h' }) :
  wpAny M A (noteFrame (.ref ea) env) (λ_ s'=>wpAny M A (setFlight (.ref ea) none) Q E s') E s:=
 ZDY Ki a d hx λh1 T k b x=>ZX x (k.frames a) λh2 k2 c=>h h2 T (k.trans b k2) b c
theorem wc(Ki:A.frames=some (env::outer))(a:s.heap.FunFrames ZB (env::outer))(b:env.frame=some L)(hx:Fo s.heap ea C dx tb)
  (h:∀h' T,Kp (env::outer) ea tb s.heap h'->s.heap.objs.size<=T∨tb=some T->Fo h' ea C dx (some T)->Q () { s with heap:=h' }):wpAny M A (leaving env (.ref ea)) Q E s:=by
 unfold leaving;exact oS (aQ Ki a b hx h)
end
def Hy(P:Program)(w:World):G1:=λouter H s E e s'=>∃(ea C:Addr)(dx tb:Option Addr)(H':Hp),e=.ref ea/\s'.os=s.os/\AllBare s'.gens/\Un (CS outer) [] H H' s.heap s'.heap/\Bv P w H' s'.heap/\
 Fo s'.heap ea (.ref C) dx tb/\(H' ea=none/\s.heap.get? ea=none)/\(∀T,tb=some T->H' T=none/\s.heap.get? T=none)/\E (.ref C) dx H'
def XZ(X:Cx)(E:XK)(e:Value)(s':Shared):Prop:=∃(Zy:ZIW)(Z:St)(H':Hp)(ea C:Addr)(dx tb:Option Addr),e=.ref ea/\Inv X Zy Z H' s'/\
 Fo s'.heap ea (.ref C) dx tb/\(H' ea=none/\X.s₀.heap.get? ea=none)/\(∀T,tb=some T->H' T=none/\X.s₀.heap.get? T=none)/\E (.ref C) dx H'
section
variable{P:Program}{K:ZIV}{E:XK}
theorem Bv.gv{h:Heap}(ok:Bv P w H' h)(k:∀b u,H' b≠none->h.get? b=some u->h'.get? b=some u):Bv P w H' h':=λa o e=>
 (ok a o e).HG (λb u c d=>k b u (by rcases c with rfl|c;(rw[e];simp);(rw[c];simp)) d) (λ_ z=>z) λ_ _ z=>z
theorem XZ.leave{e:Value}(r:XZ (Ea (Hy P w) P w K mg ZB N qual scope f cd A outer s H E) E e s'):(Ea (Hy P w) P w K mg ZB N qual scope f cd A outer s H E).xe e s':=by
 obtain⟨Zy,Z,H',ea,C,dx,tb,rfl,I,x,⟨j,g⟩,d,n⟩:=r;have fr:=I.ok.frames
 change s.heap.get? ea=none at g
 have d:∀T,tb=some T->H' T=none/\s.heap.get? T=none:=d;refine wc (outer:=outer) (L:=s.heap.objs.size) fr I.stack rfl x λh' T kp h m=>?_;have l:∀b o,s.heap.get? b=some o->b≠s.heap.objs.size:=λb o a=>Bn (BA a);have mem:∀b,b∈CS (envOfC qual scope s.heap.objs.size f cd::outer)->b=s.heap.objs.size∨b∈CS outer:=λb a=>by
  rcases List.mem_cons.mp (I.P6 b a)with z|z
  .exact .inl z
  .exact .inr z
 have i:∀b o,s'.heap.get? b=some o->H' b≠none->h'.get? b=some o:=λb o a hn=>kp.keep b o a (λz=>hn (I.UB b z)) (λz=>hn (z▸j)) λz=>hn (d b z).1;refine⟨ea,C,dx,some T,H',rfl,I.os,I.bare,⟨λb o a hn c _=>?_,λb o a hn c _=>?_,λb o a hn hx=>I.base.free b o a hn hx,λb o a hx=>?_,I.base.GW,I.base.Fp,I.base.GR⟩,I.AJ.gv λb u hn a=>i b u a hn,m,⟨j,g⟩,λT' p=>?_,n⟩
 .refine kp.keep b o (I.base.keep b o a hn c (by simp[Ea])) (λz=>(mem b z).elim (l b o a) c) (by rintro rfl;rw[g]at a;cases a) λz=>?_;rw[(d b z).2]at a;cases a
 .obtain⟨sl,h1⟩:=I.base.slot b o a hn c (by simp[Ea]);have q:b∈CS (envOfC qual scope s.heap.objs.size f cd::outer):=by
   show b∈List.filterMap _ (_::_);rw[Ub];exact DP _ c
  obtain⟨HR,h2⟩:=kp.slot b _ h1 q;exact⟨HR,h2⟩
 .obtain⟨k,h1⟩:=I.base.there b o a (by simp[Ea])
  by_cases c:b∈CS (envOfC qual scope s.heap.objs.size f cd::outer)
  .obtain⟨HR,h2⟩:=kp.slot b _ h1 c;exact⟨_,h2⟩
  .exact⟨k,kp.keep b k h1 c (by rintro rfl;rw[g]at a;cases a) λz=>by rw[(d b z).2]at a;cases a⟩
 .cases p;exact h.elim (λh=>⟨I.AJ.fresh h,OE (Bg I.sz h)⟩) (d T)
end
noncomputable abbrev lG:List Value:=[.type "ValueError",.type "Exception",.type "BaseException",.type "object"]
structure lb (h:Heap) (C:Addr) (IU:Option Value):Prop where
 obj:∃bm N nm q bs hdct sn sub ab col dd k0 k1 k2 k3 k5 mN,h.get? C=some (excClassObj nm q C N bs bm hdct sn sub ab col dd k0 k1 k2 k3 k5 "ValueError.__new__")/\h.Ns N mN/\mN "__init__"=IU/\OwnTail h lG bm
noncomputable def FU(K:ZIV)(C:Addr)(IU:Option Value):Bool:=match K.lookup C with
 |some ⟨.type "type", _,.cls cd,sl⟩=>(match cd.mro,sl.toList with
  | .ref C'::bm,[_,_,_,_,some (.builtin n),_]=>C' == C && n == "ValueError.__new__" && !cd.hasDel && PySem.W.tailIn K lG bm && PySem.W.nsOkIn K cd.ns && PySem.W.nsIn K cd.ns "__init__" == some IU
  |_,_=>false)
 |_=>false
theorem Ow{K:ZIV}{h:Heap}(X:K.In h)(q:FU K C IU=true):lb h C IU:=by
 unfold FU at q;split at q
 .rename_i dd cd sl ho;split at q
  .rename_i C' bm k0 k1 k2 k3 n k5 hm hs;simp only[Dl,ZBK,Bool.not_eq_true']at q;obtain⟨⟨⟨⟨⟨rfl,rfl⟩,f⟩,i⟩,AJ⟩,Fy⟩:=q;obtain⟨nm,bs,g,ns,qn,hd,sn,sub,ab,col,k⟩:=cd;dsimp only at hm f AJ Fy;subst hm f;obtain⟨l⟩:=sl;simp only at hs;subst hs;have G:h.Ns ns (h.nsMap ns):=.of_isNs (PySem.W.isNs_of_in X AJ);refine⟨bm,ns,nm,qn,bs,hd,sn,sub,ab,col,dd,k0,k1,k2,k3,k5,_,X _ _ ho,G,?_,PySem.W.tail_of_in X i⟩;cases IU with
   |none=>exact PySem.W.ns_none_of X G Fy
   |some v=>
    obtain⟨o,es,m,a,b,_,j⟩:=G;unfold PySem.W.nsIn at Fy;split at Fy
    .rename_i c d N8 n' sl q2;have z:=X _ _ q2;rw[a]at z;cases z;cases b;split at Fy
     .rename_i e he;rw[<- j];unfold nsFind findBy;rw[<- ZH1,he]
      simpa using Fy
     .split at Fy <;> cases Fy
    .cases Fy
  .cases q
 .cases q
theorem CC.there{P:Program}{h:Heap}(x:CC P w H h a o):∃u,h.get? a=some u:=by
 induction o with
 |lst xs=>obtain⟨_,_,_,_,e⟩:=x;exact⟨_,e⟩
 |tup xs=>obtain⟨_,_,_,⟨_,e,_⟩,_⟩:=x;exact⟨_,e⟩
 |dK A6=>obtain⟨_,_,_,_,_,_,_,e,_⟩:=x;exact⟨_,e⟩
 |dT A6=>obtain⟨_,_,_,_,_,_,_,e,_⟩:=x;exact⟨_,e⟩
 |set S n=>obtain⟨_,_,_,_,e,_⟩:=x;exact⟨_,e⟩
 |ins C dx fs=>obtain⟨_,_,_,e,_⟩:=x;exact⟨_,e⟩
 |own y=>exact x
 |xd fs=>obtain⟨_,⟨_,_,_,e,_⟩,_⟩:=x;exact⟨_,e⟩
 |met f y=>exact⟨_,x⟩
 |RZ lo hi=>obtain⟨_,_,_,e⟩:=x;exact⟨_,e⟩
 |FD ob u _=>exact⟨_,x.1⟩
 |K3 ps=>exact⟨_,x⟩
 |ext φ=>exact x.2.1
theorem Bv.there{P:Program}{h:Heap}(x:Bv P w H h)(e:H a=some o):∃u,h.get? a=some u:=(x a o e).there
section
variable{E:XK}
def Vh(C:Addr)(E:St->XK)(t:TA):TS:=λ_ Z H=>t Z H λvs H1=>vs.length<=1000/\E Z (.ref C) none H1
def Goes(X:Cx)(E:St->XK):Prop:=∀(Zy:ZIW)(Z:St)(H':Hp)(s':Shared)(ea C:Addr)(dx tb:Option Addr),Inv X Zy Z H' s'->Fo s'.heap ea (.ref C) dx tb->(H' ea=none/\X.s₀.heap.get? ea=none)->(∀T,tb=some T->H' T=none/\X.s₀.heap.get? T=none)->
 (∀p∈X.pn++Zy,p.1≠ea/\tb≠some p.1)->E Z (.ref C) dx H'->X.xe (.ref ea) s'
end
noncomputable abbrev JF(C t:Addr)(dx:Option Addr):Obj:={ cls:=.ref C,dict:=dx,data:=.fields #[.ref t,.none,.none,.none,.bool false,.none] }
section
variable{nm qn:Str}{N:Addr}{bs bm:List Value}{sub:List Value}{col:Option Bool}{k0 k1 k2 k3 k5:Option Value}{newId:String}
theorem yN{y:Sem Value}{Q:Flow->Shared->Prop}(e:bm.contains (.type "BaseException")=true)(hh:A.handled=none)
  (c:wpAny M A y (λv z=>∃ea t dx,v=.ref ea/\z.heap.get? C=some (excClassObj nm qn C N bs bm hdct sn sub ab col dd k0 k1 k2 k3 k5 newId)/\z.heap.get? ea=some (JF C t dx)/\E (.ref ea) z) E s) :
  wpAny M A (raiseStmt env (some y) none) Q E s:=by
 have h:(Value.ref C::bm).contains (.type "BaseException")=true:=by
  rw[ZHB,e,Bool.or_true]
 unfold raiseStmt;refine oS (tN c (λv z b=>?_) λ_ _ q=>q);obtain⟨ea,t,dx,rfl,a,oe,f⟩:=b;obtain⟨i,g,d,tk,os⟩:=z
 repeat (first
  |with_reducible refine wY oe ?_
  |with_reducible refine wY a ?_
  | (with_reducible refine wpAny_isSubtype_exc a ?_;rw[h])
  |wp_step)
 exact wpAny_raiseNew_none hh f
variable{h:Heap}{g:Array GenState}{d:Drawn}{t:Nat}{os:OsState}{B nC:String}
theorem ZGB(F:ExcBaseFacts B newId nC UT)(T:OwnTail h UT bm){Q:PySem.Fin->Shared->Prop}
  (a:h.get? C=some (excClassObj nm qn C N bs bm hdct sn sub ab col dd k0 k1 k2 k3 k5 newId)) (hn:h.Ns N mN) (hi:mN "__init__"=some (.ref fI)) (WR:h.get? fI=some oI) (Vx:oI.cls=.type "function") (BJ:us.length<=sizeLine)
  (m:∀h' ea,h.objs.size<=ea->Heap.MadeExcOf h h' ea (.ref C) us->wpAny (model prog w) A (call (.ref fI) (.ref ea::us)) (λr s'=>r=.none/\Q (.done (.ret (.ref ea))) s') E ⟨h',g,d,t,os⟩) :
  wpAny (model prog w) A (Builtin.«type.__call__» ⟨.ref C::us,[]⟩) Q E ⟨h,g,d,t,os⟩:=by
 repeat (first
  |with_reducible refine wY a ?_
  |with_reducible refine wpAny_madeBy_exc a ?_
  |wp_step)
 refine codeAny_call_builtin_code (nc _ F.quiet) (wpAny_check_new_subT F T a ?_);refine codeAny_exc_new_subT F T a ?_ BJ;show wpAny _ _ _ _ _ _;generalize f:({ cls:=.type "tuple", data:=.seq us.toArray }:Obj)=o1;generalize c:({ cls:=.ref C,data:=.fields #[.ref h.objs.size,.none,.none,.none,.bool false,.none] }:Obj)=o2;have up:∀{b:Addr}{o:Obj},h.get? b=some o->((h.push o1).push o2).get? b=some o:=λe=>Bb _ (Bb _ e);have i:((h.push o1).push o2).get? (h.objs.size+1)=some o2:=by
  rw[<- Gd h o1];exact CI _ (by rw[<- c];rfl)
 have g1:((h.push o1).push o2).get? h.objs.size=some o1:=Bb _ (CI h (by rw[<- f];rfl));have n2:((h.push o1).push o2).Ns N mN:=hn.keeps λb o e=>up e;have j:=up a;have k:=up WR;have u:=T.keeps (h':=(h.push o1).push o2) λb o e=>up e;have s:(Value.ref C::bm).contains (.ref C)=true:=by simp
 have v:o2.cls=.ref C:=by rw[<- c]
 unfold isInstance;subst c
 repeat (first
  |with_reducible refine wY i ?_
  | (with_reducible refine wpAny_isSubtype_exc j ?_;rw[s])
  |wp_step)
 show wpAny _ _ (typeLookup (.ref C) _) _ _ _;refine wpAny_typeLookup_tail j n2 u F.mroIs F.init.lookup ?_;rw[hi];refine tu (oS ?_);unfold bindSpecial;refine oS (vS (T:="function") ⟨_,k,Vx⟩ ?_);rw[rG (by decide)];subst f;refine qh (oS (tN (m _ (h.objs.size+1) (FZ _) ⟨λb o n=>up n,OE (FZ _),h.objs.size,i,OE (Az _),g1⟩) (λr s' l=>?_) λ_ _ q=>q));obtain⟨rfl,p⟩:=l
 wp_walk
 exact p
theorem ZAh(F:ExcBaseFacts B newId nC UT)(T:OwnTail h UT bm)
  (a:h.get? C=some (excClassObj nm qn C N bs bm hdct sn sub ab col dd k0 k1 k2 k3 k5 newId)) (hn:h.Ns N mN) (hi:mN "__init__"=some (.ref fI)) (WR:h.get? fI=some oI) (Vx:oI.cls=.type "function") (BJ:us.length<=sizeLine)
  (b:∀h' ea,h.objs.size<=ea->Heap.MadeExcOf h h' ea (.ref C) us->wpAny (model prog w) (A.under (.builtin "type.__call__" ⟨.ref C::us,[]⟩)) (call (.ref fI) (.ref ea::us)) (λr s'=>r=.none/\Q (.ref ea) s') E ⟨h',g,d,t,os⟩) :
  wpAny (model prog w) A (call (.ref C) us) Q E ⟨h,g,d,t,os⟩:=by
 have e:=tc_lookup;have c:=tc_bind (.ref C);have ty:(⟨h,g,d,t,os⟩:Shared).TypeIs (.ref C) "type" := ⟨_,a,rfl⟩;refine zg (codeAny_of_tree ?_);show wpAny _ _ (callAny (.ref C) _) _ _ _
 repeat (any_goals (first
  |assumption
  |with_reducible refine wY a ?_
  |wp_step))
 refine⟨rfl,?_⟩;exact codeAny_call_builtin_at (nc _ (by decide +kernel)) entry_typeCall (wpAny_check_type_call_sub a (ZGB F T a hn hi WR Vx BJ b))
end
section
variable{K:ZIV}{x t:Addr}
noncomputable def LR:List Value->Bool
 | [.type a,.type b,.type c,.type d]=>a == "ValueError" && (b == "Exception" && (c == "BaseException" && d == "object"))
 | .ref _::r=>LR r
 |_=>false
theorem sF(self:Value):PySem.refuseLoop self "__setattr__" [.type "ValueError",.type "Exception",.type "BaseException",.type "object"]=pure ():=by
 first|rfl|kernel_rfl
theorem d6{l:List Value}(h:LR l=true):l=[.type "ValueError",.type "Exception",.type "BaseException",.type "object"]∨∃c r,l=.ref c::r/\LR r=true:=by
 unfold LR at h;split at h
 .simp only[Dl,ZBK]at h;obtain⟨rfl,rfl,rfl,rfl⟩:=h;exact .inl rfl
 .exact .inr ⟨_,_,rfl,h⟩
 .cases h
theorem qX(self:Value):∀{l:List Value},LR l=true->PySem.refuseLoop self "__setattr__" l=pure ():=by
 intro l
 induction l with
 |nil=>intro h;cases h
 |cons x r a=>
  intro h;rcases d6 h with e|⟨c,r',e,h'⟩
  .rw[e];exact sF self
  .cases e;rw[PySem.refuseLoop_ref];exact a h'
theorem ZAs:∀{l:List Value},LR l=true->l.contains (.type "object")=true:=by
 intro l
 induction l with
 |nil=>intro h;cases h
 |cons x r a=>
  intro h;rcases d6 h with e|⟨c,r',e,h'⟩
  .rw[e];decide
  .cases e;rw[ZHB,a h',Bool.or_true]
def JT(K:ZIV)(C:Addr):Bool:=(PySem.W.clsIn K C).any λcd=>LR cd.mro
section
open PySem.Builtin PySem.Builtin.ObjectAttr
theorem ZA2{R:Result->Shared->Prop}(X:K.In s.heap)(I:PySem.W.InstAt s.heap x ox C od)(m:JT K C=true)(l:PySem.W.takerIn K C name=some r)
  (h:∀b,wpAny (model prog w) A.in1 (match r with|some a=>setByDescriptor a (.ref x) v|none=>storeInOwnDict (.ref x) (.ref C) (.str name tk) name v b)
   (λg s'=>match g with | .done f=>R (.ok f) s' | .again k=>k.quiet=true/\codeAny (model prog w) A k R s') (λe s'=>R (.error e) s') s) :
  codeAny (model prog w) A (.call (.builtin "object.__setattr__") ⟨[.ref x,.str name tk,v],[]⟩) R s:=by
 have d:=PySem.F.store_object;obtain⟨cd,j,ho⟩:=oP m;have ne:cd.mro.isEmpty=false:=by cases q:cd.mro with|nil=>rw[q]at ho;cases ho|cons _ _=>rfl
 have sub:PySem.W.Looks (model prog w) s.heap (isInstance (.ref x) (.type "object")) true:=I.type.andThen (ZHj X (by unfold PySem.W.mroIn;rw[j,Option.bind_some,qP (by rw[ne];decide),ZAs ho]));refine ZAJ d.slot.plain d.entry (@PySem.W.check_slot (model prog w) _ _ s "object.__setattr__" "object" "__setattr__" (.ref x) [.str name tk,v] [] _ d.kind d.split sub (d.args (.ref x) (.str name tk) v) ?_);obtain⟨c,p,i⟩:=Option.bind_eq_some_iff.mp l;have n:PySem.W.Looks (model prog w) s.heap (mroOf (.ref C)) cd.mro:=(oQ X j).andThen .now;have t:PySem.W.Looks (model prog w) s.heap (storeTaker? c) r:=by
  cases c with
  |none=>cases i;exact .now
  |some a=>
   obtain⟨b,o,rfl⟩:=Option.map_eq_some_iff.mp i;refine(PySem.W.looks_takesIn X o).andThen ?_;cases b <;> exact .now
 rw[PySem.W.osa_eq,PySem.refuse_eq];refine oS (oS (I.type.here (oS (n.here ?_))));rw[qX _ ho];refine qh (oS (I.type.here (oS ((cI X p).here (oS (t.here ?_))))));exact h _
end
theorem u5(h:Heap):(h.push { cls:=.type "dict", data:=.dict #[] }).Ns1 h.objs.size (λ_=>none):=by
 refine⟨_,#[],_,CI h rfl,rfl,?_⟩;refine⟨λe a=>?_,?_,λ_=>rfl⟩
 .simp at a
 .simp[UniqKeys]
theorem ZFT{Q:Unit->Shared->Prop}(X:K.In s.heap)(ho:s.heap.get? x=some (JF C t none))
  (j:PySem.W.findIn K (.ref C) "__setattr__"=some (some (.builtin "object.__setattr__"))) (k:JT K C=true) (i:PySem.W.takerIn K C name=some none) (hh:PySem.W.hasDictIn K C=true)
  (h:∀h' d,s.heap.objs.size<=d->h'.get? x=some (JF C t (some d))->h'.Ns1 d (λy=>if y=name then some v else none)->(∀b o,b≠x->s.heap.get? b=some o->h'.get? b=some o)->s.heap.objs.size<=h'.objs.size->Q () { s with heap:=h',toks:=s.toks+2 }) :
  wpAny (model prog w) A (setAttr (.ref x) name v) Q E s:=by
 have J:PySem.W.InstAt s.heap x (JF C t none) C none:=⟨ho,rfl,rfl,trivial⟩;refine ZHl X J j (ZA2 (s:={ s with toks:=s.toks+1 }) (r:=none) X J k i λb=>?_)
 obtain⟨cd,l,DI⟩:=oP hh;refine oS (qh (oS (oS (wpAny_loadPart ho (oS (ZHd (s:={ s with toks:=s.toks+1 }) (oQ X l) ?_))))))
 rw[DI,qP (by decide)];show wpAny _ _ (do
  let d <- alloc { cls:=Value.type "dict", data:=Data.dict #[] }
  update x λo=>{ o with dict:=some d }
  dictMade (Value.ref C) x d) _ _ _
 have f:x<s.heap.objs.size:=BA ho;refine oS (wpAny_alloc (oS (wpAny_update (Bb _ ho) ?_)));refine oS (qh (qh ?_));generalize a:((s.heap.push { cls:=Value.type "dict", data:=Data.dict #[] }).update x λo=>{ o with dict:=some s.heap.objs.size })=g
 have n:g.get? x=some (JF C t (some s.heap.objs.size)):=by
  rw[<- a];exact J6 _ (Bb _ ho) rfl
 have q:∀b o,b≠x->s.heap.get? b=some o->g.get? b=some o:=λb o c e=>by
  rw[<- a,FX _ _ (BN c)];exact Bb _ e
 have m:g.objs.size=s.heap.objs.size+1:=by rw[<- a,UZ,Gd]
 have p:g.Ns1 s.heap.objs.size (λ_=>none):=(u5 s.heap).at λo e=>by
  rw[<- a,FX _ _ (Bn f)];exact e
 refine oS (qh (oS ?_));refine wpAny_nsSet1 (s:=⟨g,s.gens,s.drawn,s.toks+1,s.os⟩) p λh' K0 Cb=>?_;obtain⟨D,B,u,ZM,Vv,z⟩:=K0.count (ZHm (ns:=[]) name v PySem.Within.nil);refine oS (wpAny_lookBehind ZM (by rw[Vv];exact pastItsLine_dict (Bg z (Nat.succ_le_succ (Cn _)))) ?_);exact qh (h h' s.heap.objs.size (Az _) ((Cb.2 x (Bn f)).trans n) K0 (λb o c e=>(Cb.2 b (Bn (BA e))).trans (q b o c e)) (by rw[Cb.1,m];exact FZ _))
end
noncomputable def Ei(ea C:Addr)(dx:Option Addr):HO:=.ext λh=>∃t,h.get? ea=some (JF C t dx)
theorem aI{P:Program}{h:Heap}{t:Addr}(e:h.get? ea=some (JF C t dx)):CC P w H h ea (Ei ea C dx):=
 ⟨⟨t,e⟩,⟨_,e⟩,λ_ _⟨t',a⟩k=>⟨t',k _ a⟩⟩
theorem Inv.exc(I:Inv X Zy Z H s){ea C:Addr}{dx:Option Addr}(e:H ea=some (Ei ea C dx)):∃t,s.heap.get? ea=some (JF C t dx):=(I.AJ ea _ e).1
theorem Inv.vk{t:Addr}{dx':Option Addr}(I:Inv X Zy Z H s)(e:H ea=some (Ei ea C dx))(k:∀b u,b≠ea->s.heap.get? b=some u->h'.get? b=some u)(a:h'.get? ea=some (JF C t dx')):
  Inv X Zy Z (upd H ea (Ei ea C dx')) { s with heap:=h',toks:=t' }:=by
 have c:Nd (H ea):=by rw[e];trivial
 exact I.write c (.inl rfl) k ⟨_,a⟩ (aI a)
def Ru:V->Prop
 | .str x=>(reprText x).length<=100000
 | .int i=>i.natAbs.log2<1920
 |_=>False
section
variable{p1 p2 p3:Pos}{k1 k2:Nat}{c1 c2:Str}
theorem dJ{R:St->Hp->Prop}(d:PE X e te)(I:Inv X Zy Z H s)(h:te Z H λv H1=>Ru v/\R Z H1)
  (b:∀y t s1 H1,y.length<=200000->Inv X Zy Z H1 s1->R Z H1->Q (.str y t) s1):wpAny (model X.prog X.w) X.A (eval (.FormattedValue e 114 none pos) X.env) Q X.xe s:=by
 refine wpAny_FormattedValue_repr (AQ (d Zy s Z H _ I h) λu s1⟨v,H1,I1,c,sv,a⟩=>?_);cases v with
 |str x=>
  obtain⟨t,rfl⟩:=c;have sz:(reprText x).length<=sizeLine:=Bg sv (by decide +kernel);refine wpAny_pyReprObj_str ?_ sz;refine wpAny_formatField_str ?_ ?_ sz
  .exact b _ _ _ H1 (Bg sv (by decide)) (I1.tok _) a
  .exact b _ _ _ H1 (Bg sv (by decide)) (I1.tok _) a
 |int i=>
  obtain⟨t,rfl⟩:=c;have l1:(Str.ofString (toString i)).length<=sizeLine:=int_text_fits sv;have f:i.natAbs.log2<1920:=sv;have l2:(Str.ofString (toString i)).length<=200000:=by
   have h1:i.natAbs<10 ^ 600:=by
    by_cases z:i.natAbs=0
    .rw[z];decide +kernel
    .exact oF ((oE z).mp f) (by decide +kernel)
   have e:=int_text_length_le10 (k:=600) (by decide) h1;clear h1;rw[PySem.ofString_length];omega
  refine wpAny_pyReprObj_gives (typeIs_int _ i t) F.slot_int_repr F.entry_int_repr (F.args_int_repr_1 _) (gives_int_repr i t sv) ?_ rfl l1;refine wpAny_formatField_str ?_ ?_ l1
  .exact b _ _ _ H1 l2 (I1.tok _) a
  .exact b _ _ _ H1 l2 (I1.tok _) a
 |_=>exact sv.elim
def Zi(te:TE):TE:=λZ H Q=>te Z H λv H1=>Ru v/\∀y,Q (.str y) H1
theorem len_app(a b:Str):(a++b).length=a.length+b.length:=strLen_append a b
theorem Px(b:PE X e te)(h1:c1.length<=1000):PE X (.JoinedStr [.Constant (.str c1) k1 p1,.FormattedValue e 114 none p2] pos) (Zi te):=by
 intro Zy s Z H Q I h;have a:(Str.empty++c1).length<=1000:=by rw[len_app];show 0+_<=_;omega
 refine wpAny_JoinedStr (show wpAny _ _ (eval (.Constant (.str c1) k1 p1) X.env) _ _ s from λ_ _ _=>⟨c1,_,rfl,Bg a (by decide +kernel),?_⟩);refine dJ (R:=λ_ H1=>∀y,Q (.str y) H1) b (I.tok _) h λy t s1 H1 d I1 c=>⟨y,t,rfl,?_,?_,?_⟩
 .rw[len_app];exact Bg (show _<=201000 by omega) (by decide +kernel)
 .rw[len_app];exact Bg (show _<=201000 by omega) (by decide +kernel)
 .exact⟨.str _,H1,I1.tok _,⟨_,rfl⟩,c _⟩
theorem ZCy(b:PE X e te)(h1:c1.length<=1000)(h2:c2.length<=1000):PE X (.JoinedStr [.Constant (.str c1) k1 p1,.FormattedValue e 114 none p2,.Constant (.str c2) k2 p3] pos) (Zi te):=by
 intro Zy s Z H Q I h;have a:(Str.empty++c1).length<=1000:=by rw[len_app];show 0+_<=_;omega
 refine wpAny_JoinedStr (show wpAny _ _ (eval (.Constant (.str c1) k1 p1) X.env) _ _ s from λ_ _ _=>⟨c1,_,rfl,Bg a (by decide +kernel),?_⟩);refine dJ (R:=λ_ H1=>∀y,Q (.str y) H1) b (I.tok _) h λy t s1 H1 d I1 c=>⟨y,t,rfl,?_,?_⟩
 .rw[len_app];exact Bg (show _<=201000 by omega) (by decide +kernel)
 .refine show wpAny _ _ (eval (.Constant (.str c2) k2 p3) X.env) _ _ s1 from λ_ _ _=>⟨c2,_,rfl,?_,?_,?_⟩
  .rw[len_app,len_app];exact Bg (show _<=202000 by omega) (by decide +kernel)
  .rw[len_app,len_app];exact Bg (show _<=202000 by omega) (by decide +kernel)
  .exact⟨.str _,H1,(I1.tok _).tok _,⟨_,rfl⟩,c _⟩
end
structure MH (K:ZIV) (S:Addr):Prop where
 ga:PySem.W.specialIn K (.ref S) "__getattribute__"=some (some (.builtin "type.__getattribute__"))
 rd:PySem.W.readsIn K S (.type "type")=true
 fd:PySem.W.findCls K (.ref S) (.type "type") "__init__"=some (.val (.builtin "ValueError.__init__"))
 hd:PySem.W.handedIn (.builtin "ValueError.__init__")=true
structure Io (K:ZIV) (C fI:Addr) (fld:Str):Prop where
 ex:FU K C (some (.ref fI))=true
 sa:PySem.W.findIn K (.ref C) "__setattr__"=some (some (.builtin "object.__setattr__"))
 po:JT K C=true
 tk:PySem.W.takerIn K C fld=some none
 hd:PySem.W.hasDictIn K C=true
 fn:PySem.W.isFn K (.ref fI)=true
 kp:PySem.W.keepIn K (.ref C)=true
theorem gQ{x:V}{xs:List V}(r:Vals (x::xs) us):∃u us',us=u::us'/\RelV x u/\Vals xs us':=by
 cases r with
 |cons a b=>exact⟨_,_,rfl,a,b⟩
theorem yz(h:H a=some o):upd H a o=H:=by
 funext b
 unfold upd;split
 .rename_i e;rw[e,h]
 .rfl
section
variable{fld:Str}
theorem ZEQ{t:Addr}(I:Inv X Zy Z H s)(hx:H ea=some (Ei ea C none))(q:FU X.K C IU=true)
  (i:∀s',Inv X Zy Z H s'->Q .none s'):wpAny (model X.prog X.w) X.A (call (.builtin "ValueError.__init__") [.ref ea,u]) Q X.xe s:=by
 obtain⟨l,ho⟩:=I.exc hx;obtain⟨bm,N,nm,qn,bs,hdct,sn,sub,ab,col,dd,k0,k1,k2,k3,k5,mN,j,m,Fy,T⟩:=(Ow I.Bt q).obj;have F:=oN;have n:H C=none:=by
  cases z:X.base.get? C with
  |some o=>exact(I.bs C o z).2
  |none=>
   obtain⟨_,_,_,_,_,_,_,_,_,_,_,_,_,_,_,_,_,c,_⟩:=(Ow I.mod.IX q).obj;rw[z]at c;cases c
 obtain⟨a,g,d,tk,os⟩:=s;refine zg (ZAJ F.init.plain F.initEntry (wpAny_check_init_subT F T j ho rfl ?_))
 wp_walk
 refine i _ ?_;have f:=I.vk (h':=(a.push { cls:=Value.type "tuple", data:=Data.seq #[u] }).update ea (Obj.mapFields λx=>x.setIfInBounds 0 (Value.ref a.objs.size))) (t':=tk) (t:=a.objs.size) (dx':=none) hx (λb k h e=>by
  rw[FX _ _ (BN h)];exact Bb _ e) (by
  rw[J6 _ (Bb _ ho) rfl];rfl)
 rw[yz hx]at f;exact f
def gK(C:Addr)(t:TA):TE:=λZ H Q=>t Z H λvs H1=>∃ea v,vs=[.ref ea,v]/\H1 ea=some (Ei ea C none)/\Q .A8 H1
theorem NR{pl:Sem Bool}{apos:Pos}(sp:MH X.K S)(m:Gl X x)(l:X.mg x=some (.ref S))(q:FU X.K C IU=true)(n:PA X (e::es) t)
  (BL:(x == ("__debug__":Str))=false:=by decide) (BM:starEach (e::es) X.env=(false,eval e X.env)::starEach es X.env:=by rfl) (BW:(backTo pos (starEach es X.env)).any (·.1)=false:=by rfl)
  (ht:eval (.Call (.Attribute (.Name x p) "__init__" apos) (e::es) [] pos) X.env=(do
   let ov <- eval (.Name x p) X.env
   standAt apos.atName
   let (f,first) <- holding [ov] (getMethod ov "__init__" pl)
   callWith pos f first (backTo pos (starEach (e::es) X.env)) (backToKw pos (keywordEach [] X.env))):=by rfl) :
  PE X (.Call (.Attribute (.Name x p) "__init__" apos) (e::es) [] pos) (gK C t):=by
 intro Zy s Z H Q I h;refine ZHk (pl:=pl) (JN I m l ?_ BL) ht;refine PySem.W.method_cls I.Bt sp.ga (PySem.W.cls_value I.Bt sp.rd sp.fd sp.hd ?_);have a:=n pos Zy { s with toks:=s.toks+1 } Z H _ (I.tok _) h
 show wpAny _ _ (callWith pos (.builtin "ValueError.__init__") [] (backTo pos (starEach (e::es) X.env)) _) _ _ _;rw[BM]at a ⊢;refine nX (by show(false || (backTo pos (starEach es X.env)).any (·.1))=false;rw[BW] <;> rfl) (bh ?_)
 refine AQ a λus s2⟨vs,H2,I2,k,ea,v,r,hx,o⟩=>?_;subst r;obtain⟨c,b,rfl,g,j⟩:=gQ k;obtain⟨u,Fl,rfl,d,i⟩:=gQ j;cases i;cases(show c=Value.ref ea from g);exact ZEQ (t:=ea) I2 hx q λs' I'=>⟨.A8,H2,I',rfl,o⟩
def iS(C:Addr)(f:Str)(ta tv:TE):TS:=λD Z H=>tv Z H λy H1=>ta Z H1 λx H2=>∃ea,x=.ref ea/\H2 ea=some (Ei ea C none)/\∀d,H2 d=none->D.nx Z (upd (upd H2 d (.xd [(f,y)])) ea (Ei ea C (some d)))
theorem Ms{o value:Expr}{pos':Pos}{tv:TE}(c:Io X.K C fI fld)(E:PE X o ta)(w:PE X value tv)(B:swapsWith value (some (.Attribute o fld pos')) pos.line X.env=pure false):PS X (.Assign [.Attribute o fld pos'] value pos) (iS C fld ta tv):=by
 intro Zy s Z H D I h;refine yg (AQ (w Zy s Z H _ I h) λu s1⟨y,H1,I1,p,q⟩=>AQ (E Zy s1 Z H1 _ I1 q) λv s2⟨x,H2,I2,r,ea,ex,hx,t⟩=>?_) B;subst ex;obtain rfl:v=Value.ref ea:=r;obtain⟨F,ho⟩:=I2.exc hx;refine ZFT I2.Bt ho c.sa c.po c.tk c.hd λh' d hd l hn k G=>?_;have f:H2 d=none:=I2.AJ.fresh hd;have J:d≠ea:=by rintro rfl;rw[hx]at f;cases f
 refine⟨Z,_,I2.un (t':=s2.toks+2) (h':=h') ⟨λb o e n _ _=>k b o (by rintro rfl;rw[hx]at n;cases n) e,λb o e n _ _=>⟨o.slots,k b o (by rintro rfl;rw[hx]at n;cases n) e⟩,λb o e n _=>?_,λb o e _=>?_,λb xs e=>?_,λb o' j e=>?_,λb ps e=>?_⟩ ?_,t d f⟩
 .rw[AY (by rintro rfl;rw[hx]at n;cases n),AY (by rintro rfl;exact absurd (BA e) (Nat.not_lt.mpr hd))];exact n
 .by_cases z:b=ea
  .subst z;exact⟨_,l⟩
  .exact⟨o,k b o z e⟩
 .rw[AY (by rintro rfl;rw[hx]at e;cases e),AY (DH e f)];exact e
 .rw[AY (by rintro rfl;rw[hx]at e;cases e),AY (DH e f)];exact e
 .exact⟨#[],by rw[AY (by rintro rfl;rw[hx]at e;cases e),AY (DH e f),e];simp⟩
 .intro b o e
  by_cases z:b=ea
  .subst z;rw[AW]at e;cases e;exact aI l
  .rw[AY z]at e
   by_cases i:b=d
   .subst i;rw[AW]at e;cases e;refine⟨_,hn,λm=>?_⟩
    by_cases g:m=fld
    .subst g;rw[rG rfl,ZHN];exact p
    .rw[qP g,HX];rw[show(m == fld)=false from by simpa using g]
     exact trivial
   .rw[AY i]at e;refine(I2.AJ b o e).HG (λc j a A=>k c j ?_ A) (λc a=>?_) λc xs a=>?_
    .rcases a with rfl|a
     .exact z
     .rintro rfl;rw[hx]at a;cases a
    .rw[AY (by rintro rfl;rw[hx]at a;cases a),AY (DH a f)];exact a
    .rw[AY (by rintro rfl;rw[hx]at a;cases a),AY (DH a f)];exact a
end
def Nl(C:Addr)(fld:Str):Sp:=λvs H Q _=>∃(ea:Addr)(v:V),vs=[.ref ea,v]/\Ru v/\H ea=some (Ei ea C none)/\∀d,H d=none->Q .A8 (upd (upd H d (.xd [(fld,v)])) ea (Ei ea C (some d)))
def TU(C:Addr)(fld:Str)(E:St->XK)(t:TA):TS:=λ_ Z H=>t Z H λvs H1=>∃v,vs=[v]/\Ru v/\∀d,H1 d=none->E Z (.ref C) (some d) (upd H1 d (.xd [(fld,v)]))
noncomputable def OA(H:Hp)(a:Addr):Hp:=λb=>if b=a then none else H b
theorem Tg(h:b≠a):OA H a b=H b:=qP h
theorem Vo:OA H a a=none:=rG rfl
section
theorem Inv.forget(I:Inv X Zy Z H s){φ:Heap->Prop}(e:H a=some (.ext φ))(k:∀p∈X.pn++Zy,p.1≠a):Inv X Zy Z (OA H a) s:=by
 have keep:∀b o,b≠a->H b=o->OA H a b=o:=λb o h q=>by rw[Tg h];exact q
 have f:∀b,H b=none->OA H a b=none:=λb q=>by
  by_cases z:b=a
  .subst z;exact Vo
  .rw[Tg z];exact q
 refine⟨I.ok,I.os,I.bare,⟨I.base.keep,I.base.slot,λb o q n hx=>f b (I.base.free b o q n hx),I.base.there,λb xs q=>?_,λb o u q=>?_,λb ps q=>?_⟩,I.loc,I.cell,f _ I.free,λx c q=>f c (I.EE x c q),λp Ed=>?_,λb o q=>?_,I.len⟩
 .have z:=I.base.GW b xs q;exact keep b _ (by rintro rfl;rw[e]at z;cases z) z
 .have z:=I.base.Fp b o u q;exact keep b _ (by rintro rfl;rw[e]at z;cases z) z
 .obtain⟨m,z⟩:=I.base.GR b ps q;exact⟨m,keep b _ (by rintro rfl;rw[e]at z;cases z) z⟩
 .obtain⟨h1,h2,j⟩:=I.pin p Ed;exact⟨h1,f _ h2,j⟩
 .have i:b≠a:=by rintro rfl;rw[Vo]at q;cases q
  rw[Tg i]at q;refine(I.AJ b o q).HG (λc u _ g=>g) (λc d=>keep c _ (by rintro rfl;rw[e]at d;cases d) d) λc xs d=>keep c _ (by rintro rfl;rw[e]at d;cases d) d
variable{fld:Str}
end
section
variable{C:Value}
theorem Inv.TN(I:Inv X Zy Z H s)(BM:X.stack=X.env::X.outer)(x:Fo s.heap ea C dx tb)(J:H ea=none)(t:X.s₀.heap.get? ea=none)(g:∀T,tb=some T->H T=none/\X.s₀.heap.get? T=none)
  (D:∀p∈X.pn++Zy,p.1≠ea/\tb≠some p.1)(kp:Kp (X.env::X.outer) ea tb s.heap h'):Inv X Zy Z H { s with heap:=h' }:=by
 obtain⟨oe,vs,N,_,_,G,_⟩:=x.obj;have mem:∀b,b∈CS (X.env::X.outer)->b=X.env.locals∨b∈X.fs:=λb a=>by
  rw[<- BM]at a;exact List.mem_cons.mp (I.P6 b a)
 have B:∀b,b=X.env.locals∨b∈X.fs->b∈CS (X.env::X.outer):=λb a=>by
  have d:X.env.frame=some X.env.locals:=by
   rcases I.ok.Iy with e|⟨_,d⟩
   .rw[e]at BM;exact absurd (tq List.length BM) (by simp)
   .exact d
  unfold CS;rw[Ub,d];rcases a with rfl|a
  .exact D5
  .exact DP _ a
 have f:∀b o,s.heap.get? b=some o->(∀vs,o.data≠.fields vs)->∃sl,h'.get? b=some { o with slots:=sl }:=λb o a hd=>by
  by_cases d:b∈CS (X.env::X.outer)
  .exact kp.slot b o a d
  .refine⟨o.slots,kp.keep b o a d (by rintro rfl;rw[N]at a;cases a;exact hd _ G) λz=>?_⟩;obtain⟨_,R,ts,O,IH,_⟩:=x.ent b z;rw[O]at a;cases a;exact hd _ IH
 have h:∀b o,s.heap.get? b=some o->H b≠none->h'.get? b=some o:=λb o a hn=>kp.keep b o a (λz=>hn (I.UB b (by rw[BM];exact z))) (λz=>hn (z▸J)) λz=>hn (g b z).1;have j:∀b o,X.s₀.heap.get? b=some o->b≠X.env.locals:=λb o a z=>absurd (BA a) (Nat.not_lt.mpr (z▸I.ok.above));have A:∀c v,s.heap.IsCell c v->h'.IsCell c v:=λc v AH=>by
  obtain⟨o,ho,hd⟩:=AH;obtain⟨sl,h1⟩:=f c o ho (by rw[hd];intro vs z;cases z);exact⟨_,h1,hd⟩
 refine⟨I.ok,I.os,I.bare,⟨λb o a hn d hx=>?_,λb o a hn d hx=>?_,I.base.free,λb o a hx=>?_,I.base.GW,I.base.Fp,I.base.GR⟩,?_,λy c q=>?_,I.free,I.EE,λp Ed=>?_,I.AJ.gv λb u hn a=>h b u a hn,I.len⟩
 .exact kp.keep b o (I.base.keep b o a hn d hx) (λz=>(mem b z).elim (j b o a) d) (by rintro rfl;rw[t]at a;cases a) λz=>by rw[(g b z).2]at a;cases a
 .obtain⟨sl,h1⟩:=I.base.slot b o a hn d hx;obtain⟨HR,h2⟩:=kp.slot b _ h1 (B b (.inr d));exact⟨HR,h2⟩
 .obtain⟨w,h1⟩:=I.base.there b o a hx
  by_cases d:b∈CS (X.env::X.outer)
  .obtain⟨HR,h2⟩:=kp.slot b _ h1 d;exact⟨_,h2⟩
  .exact⟨w,kp.keep b w h1 d (by rintro rfl;rw[t]at a;cases a) λz=>by rw[(g b z).2]at a;cases a⟩
 .obtain⟨m,⟨o,es,Q,ho,r⟩,M⟩:=I.loc;obtain⟨sl,h1⟩:=kp.slot _ _ ho (B _ (.inl rfl));refine⟨m,⟨_,es,Q,h1,r⟩,λi y v hi n L=>?_⟩;obtain⟨u,K,l⟩:=M i y v hi n L;refine⟨u,K,?_⟩;rcases l with l|⟨k,c,hc,ic⟩
  .exact .inl l
  .exact .inr ⟨k,c,hc,A c _ ic⟩
 .obtain⟨v,n⟩:=I.cell y c q;exact⟨v,A c v n⟩
 .obtain⟨h1,h2,F,E,P⟩:=I.pin p Ed;exact⟨kp.keep _ _ h1 (λz=>(mem _ z).elim F E) (D p Ed).1 (D p Ed).2,h2,F,E,P⟩
end
theorem Inv.unbind{Q:Unit->Shared->Prop}(I:Inv X Zy Z H s)(G:X.N.Nodup)(g:X.N[j]?=some n)(r:X.env.scope.names.lookup n=some .local)
  (h:∀s',Inv X Zy (Z.set j none) H s'->Q () s'):wpAny M A (do bindName X.env n .none;unbindBehindTheSuite X.env n pos) Q E s:=by
 refine oS (wpAny_bindName (V8 (v:=.A8) I G g (.inl r) rfl (λs1 I1 _=>?_) (.inr r)));unfold unbindBehindTheSuite;refine wpAny_onRaise ?_;obtain⟨m,hn,F⟩:=id I1.loc;have T:(X.env.scope.kind == .class || (X.env.scope.kind == .module && X.env.locals != X.env.globals))=false:=by rw[I.ok.kind];rfl
 have hjσ:j<Z.length:=by rw[I.len];exact(List.getElem?_eq_some_iff.mp g).1
 obtain⟨u,W,O⟩:=F j n .A8 g (Cm hjσ) (.inl r);have R:m n=some u:=by
  rcases O with⟨_,e⟩|⟨z,_⟩
  .exact e
  .have U:X.env.kindOf n=some .local:=r;rw[U]at z;rcases z with z|z <;> cases z
 refine wpAny_unbindName_local r hn R T λh' V Js f=>?_;obtain⟨Y,_,_,IB,_⟩:=id hn;have GQ:=I1.GQ;have a:∀b o,X.s₀.heap.get? b=some o->b≠X.env.locals:=λb o t=>Bn (De (BA t) I.ok.above);refine h _ ⟨I1.ok,I1.os,I1.bare,⟨λb o e n t hx=>(f.2 b (a b o e)).trans (I1.base.keep b o e n t hx),λb o e n t hx=>?_,I1.base.free,λb o e hx=>?_,I1.base.GW,I1.base.Fp,I1.base.GR⟩,⟨_,Js,λi y J l B S=>?_⟩,λy c e=>?_,I1.free,I1.EE,λp P=>?_,λb ob e=>?_,by simpa using I.len⟩
 .obtain⟨sl,l⟩:=I1.base.slot b o e n t hx;exact⟨sl,(f.2 b (a b o e)).trans l⟩
 .obtain⟨o',l⟩:=I1.base.there b o e hx;exact⟨o',(f.2 b (a b o e)).trans l⟩
 .have C:i≠j:=by
   rintro rfl;rw[Cm hjσ]at B;cases B
  rw[CJ (BN C)]at B;obtain⟨w,K,q⟩:=F i y J l (by rw[CJ (BN C)];exact B) S;refine⟨w,K,?_⟩;rcases q with⟨k,e⟩|⟨k,c,e,z⟩
  .refine .inl ⟨k,?_⟩;have:y≠n:=λe=>C (Zn G l (e▸g));simp[this,e]
  .exact .inr ⟨k,c,e,z.sameBut f (GQ y c e)⟩
 .obtain⟨D,z⟩:=I1.cell y c e;exact⟨D,z.sameBut f (GQ y c e)⟩
 .obtain⟨e,n,ne,L,d⟩:=I1.pin p P;exact⟨(f.2 p.1 ne).trans e,n,ne,L,d⟩
 .refine(I1.AJ b ob e).HG (λc D x q=>(f.2 c ?_).trans q) (λ_ q=>q) λ_ _ q=>q;rintro rfl;have fr:=I1.free;rcases x with rfl|x
  .rw[fr]at e;cases e
  .rw[fr]at x;cases x
theorem Inv.ZDJ(I:Inv X Zy Z H s)(x:Fo s.heap ea (.ref C) dx tb)(h:H ea=none)(g:X.s₀.heap.get? ea=none)(l:∀p∈X.pn++Zy,p.1≠ea):Inv X Zy Z (upd H ea (Fz.Iu ea C dx)) s:=by
 obtain⟨oe,vs,e,d,hd,Gh,_⟩:=x.obj;have i:X.env.locals≠ea:=λz=>by
  obtain⟨m,⟨o,es,A,ho,a,_⟩,_⟩:=I.loc;rw[z,e]at ho;cases ho;rw[Gh]at a;cases a
 have GQ:∀y c,X.env.cells.lookup y=some c->c≠ea:=λy c q z=>by
  obtain⟨v,o,ho,a⟩:=I.cell y c q;rw[z,e]at ho;cases ho;rw[Gh]at a;cases a
 have tr:∀b o,H b=some o->upd H ea (Fz.Iu ea C dx) b=some o:=λb o q=>by
  rw[AY (by rintro rfl;rw[h]at q;cases q)];exact q
 refine⟨I.ok,I.os,I.bare,⟨I.base.keep,I.base.slot,λb o q n hx=>?_,I.base.there,λb xs q=>tr b _ (I.base.GW b xs q),λb o u q=>tr b _ (I.base.Fp b o u q),λb ps q=>?_⟩,I.loc,I.cell,?_,λy c q=>?_,λp Ed=>?_,λb o q=>?_,I.len⟩
 .rw[AY (by rintro rfl;rw[g]at q;cases q)];exact I.base.free b o q n hx
 .obtain⟨m,z⟩:=I.base.GR b ps q;exact⟨m,tr b _ z⟩
 .rw[AY i];exact I.free
 .rw[AY (GQ y c q)];exact I.EE y c q
 .obtain⟨h1,h2,t⟩:=I.pin p Ed;exact⟨h1,by rw[AY (l p Ed)];exact h2,t⟩
 .by_cases z:b=ea
  .subst z;rw[AW]at q;cases q;exact⟨⟨oe,vs,e,d,hd,Gh⟩,⟨_,e⟩,λ_ _⟨o',f,w,r⟩k=>⟨o',f,k _ w,r⟩⟩
  .rw[AY z]at q;exact(I.AJ b o q).HG (λc u _ j=>j) (λc d=>tr c _ d) λc xs d=>tr c _ d
noncomputable abbrev Cx.EV(X:Cx)(pn:ZIW)(xe:Value->Shared->Prop):Cx:={ X with pn:=pn,xe:=xe }
noncomputable abbrev Cx.CQ(X:Cx)(e:Value):Cx:={ X with A:=X.A.mark (some e),calm:=false,xe:=λ_ _=>False }
section
variable{Xa:ZIW}{e:Value}
theorem Cx.Ok.EV(ok:X.Ok):(X.EV pn xe).Ok:=⟨ok.mod,ok.kind,ok.glob,ok.blt,ok.above,ok.inj,ok.has,ok.Kf,ok.hd,ok.frames,ok.Iy,ok.LK,ok.bs,ok.Gp,ok.Kh,ok.Jr,ok.FN,ok.Ih⟩
theorem Cx.Ok.HE(ok:(X.EV pn xe).Ok):X.Ok:=⟨ok.mod,ok.kind,ok.glob,ok.blt,ok.above,ok.inj,ok.has,ok.Kf,ok.hd,ok.frames,ok.Iy,ok.LK,ok.bs,ok.Gp,ok.Kh,ok.Jr,ok.FN,ok.Ih⟩
theorem Cx.Ok.CQ(ok:X.Ok):(X.CQ e).Ok:=⟨ok.mod,ok.kind,ok.glob,ok.blt,ok.above,ok.inj,ok.has,ok.Kf,λz=>(by cases z),ok.frames,ok.Iy,ok.LK,ok.bs,ok.Gp,ok.Kh,ok.Jr,ok.FN,ok.Ih⟩
theorem Inv.EV(I:Inv X Zy Z H s):Inv (X.EV (X.pn++Zy) xe) [] Z H s:=⟨I.ok.EV,I.os,I.bare,I.base,I.loc,I.cell,I.free,I.EE,λp a=>I.pin p (by simpa using a),I.AJ,I.len⟩
theorem Inv.HE(I:Inv (X.EV (X.pn++Zy) xe) Xa Z H s):Inv X Zy Z H s:=⟨I.ok.HE,I.os,I.bare,I.base,I.loc,I.cell,I.free,I.EE,λp a=>I.pin p (HY _ a),I.AJ,I.len⟩
theorem Inv.CQ(I:Inv X Zy Z H s):Inv (X.CQ e) Zy Z H s:=⟨I.ok.CQ,I.os,I.bare,I.base,I.loc,I.cell,I.free,I.EE,I.pin,I.AJ,I.len⟩
theorem Inv.Kv(ok:X.Ok)(I:Inv (X.CQ e) Zy Z H s):Inv X Zy Z H s:=⟨ok,I.os,I.bare,I.base,I.loc,I.cell,I.free,I.EE,I.pin,I.AJ,I.len⟩
end
noncomputable def Ends.drop(D:Ends)(j:Nat):Ends:=⟨λZ H=>D.nx (Z.set j none) H,D.rt,λZ H=>D.bk (Z.set j none) H,λZ H=>D.ct (Z.set j none) H⟩
def YQ(K:ZIV)(S:Addr)(j:Nat)(tb:(St->XK)->TS)(th:TS):TS:=λD Z H=>∃E1:St->XK,tb E1 D Z H/\
 ∀ σ1 C dx ea H1,E1 σ1 (.ref C) dx H1->H1 ea=none->PySem.W.exmOne K (.ref C) (.ref S)=some true/\th (D.drop j) (σ1.set j (some (.ref ea))) (upd H1 ea (Fz.Iu ea C dx))
def My(sp:Sp)(E:St->XK)(t:TA):TE:=λZ H Q=>t Z H λvs H1=>sp vs H1 Q (E Z)
def C1(P:Program)(w:World)(K:ZIV)(mg:ZIX)(ZB:Heap)(x:Str)(k:Nat)(ps:List Str)(sp:Sp):Prop:=
 ∃f fd,Cc P w K mg ZB (Hy P w) k f fd ps sp/\Binds K fd ps []/\PySem.W.keepIn K (.ref f)=true/\mg x=some (.ref f)
section
variable{P:Program}{K:ZIV}{k:Nat}{st:Stmt}
theorem C1.mk(F:AG K x qual st f fd)(b:Binds K fd ps [])(m:mg x=some (.ref f))(h:Cc P w K mg ZB (Hy P w) k f fd ps sp):C1 P w K mg ZB x k ps sp:=⟨f,fd,h,b,F.kp,m⟩
variable{E:St->XK}
theorem Goes.ZDR(go:Goes X E)(i:∀b∈X.ex,∃p∈X.pn,p.1=b){e:Value}(I:Inv X Zy Z H s)(h:Hy X.prog X.w X.stack H s (E Z) e s'):X.xe e s':=by
 have EK:∀a,s.heap.get? a=none->X.s₀.heap.get? a=none:=λa k=>by
  cases q:X.s₀.heap.get? a with
  |none=>rfl
  |some o=>
   by_cases hx:a∈X.ex
   .obtain⟨p,c,rfl⟩:=i a hx;have h1:=(I.pin p (HY _ c)).1;rw[k]at h1;cases h1
   .obtain⟨u,h1⟩:=I.base.there a o q hx;rw[k]at h1;cases h1
 obtain⟨ea,C,dx,tb,H',rfl,os,bare,un,AJ,x,⟨m,j⟩,f,n⟩:=h;obtain⟨hh,g,d,t,Qd⟩:=s';obtain rfl:Qd=s.os:=os;have r:=I.call (h':=hh) (g':=g) (d':=d) (t':=t) (ch:=[]) un AJ bare (λb z=>absurd z (by simp));refine go Zy Z H' _ ea C dx tb r x ⟨m,EK _ j⟩ (λT l=>⟨(f T l).1,EK _ (f T l).2⟩) (λp c=>⟨λz=>?_,λz=>?_⟩) n
 .have:=(I.pin p c).1;rw[z,j]at this;cases this
 .have:=(I.pin p c).1;rw[(f _ z).2]at this;cases this
theorem yZ(a:X.ex=[]):∀b∈X.ex,∃p∈X.pn,p.1=b:=λb c=>by rw[a]at c;cases c
theorem ZGU(h:C1 X.prog X.w X.K X.mg X.base x k ps sp)(d:Bi j X.A)(i:k<=j)(go:Goes X E)(c:∀b∈X.ex,∃p∈X.pn,p.1=b)(n:PA X (e::es) t)(l:Gl X x:=by rfl)(BL:(x == ("__debug__":Str))=false:=by decide)
  (he:starEach (e::es) X.env=(false,eval e X.env)::starEach es X.env:=by rfl) (BW:(backTo pos (starEach es X.env)).any (·.1)=false:=by rfl) :
  PE X (.Call (.Name x p) (e::es) [] pos) (My sp E t):=by
 obtain⟨f,fd,F,b,kp,m⟩:=h;have F:=F.mono i;intro Zy s Z H Q I h;refine uc (JN I l m ?_ BL);refine Ul (h₀:=X.base) I.ok.mod.IX kp (AQ (n pos Zy s Z H _ I h) λus s1⟨vs,H1,I1,r,q⟩=>⟨I1.Bt,?_⟩) he BW;have g:us.length=ps.length:=by rw[<- r.length];exact F.len _ _ _ _ q
 refine zg (ya (F.run X.A X.stack s1 H1 ⟨us,[]⟩ us vs Q (E Z) d I1.Rn (by have z:=b s1 us I1.Bt (by rw[G0];exact g);rw[G0]at z;exact z) r q) λr s' a=>?_);cases r with
 |error e=>exact go.ZDR c I1 a
 |ok o=>
  cases o with
  |ret u=>exact I1.after a
  |next=>exact False.elim a
  |brk=>exact False.elim a
  |cont=>exact False.elim a
end
section
variable{P:Program}{K:ZIV}{E:XK}
theorem EM:Goes (Ea (Hy P w) P w K mg ZB N qual scope f cd A outer s H E) (λ_=>E):=λZy Z H' s' ea C dx tb I x u a _ b=>
 XZ.leave ⟨Zy,Z,H',ea,C,dx,tb,rfl,I,x,u,a,b⟩
theorem pR:PassesOwn (model P w) (Ea (Hy P w) P w K mg ZB N qual scope f cd A outer s H E).A (Ea (Hy P w) P w K mg ZB N qual scope f cd A outer s H E).env (Ea (Hy P w) P w K mg ZB N qual scope f cd A outer s H E).xe:=PassesOwn.leaving
end
theorem AG.JR{P:Program}{K:ZIV}{st:Stmt}{k:Nat}(F:AG K x qual st f fd)(S:Aw N ps (Ag st))(len:∀vs H Q E,sp vs H Q E->vs.length=ps.length)
  (Lg:∀(AX:Value)(A:Around)(outer:List Env)(s:Shared)(H:Hp)(vs:List V)(Q:VK)(E:XK),Bi k (A.deeper (envOfC qual (Ag st) s.heap.objs.size f AX))->sp vs H Q E->
   ∃t,Fh (Ea (Hy P w) P w K mg ZB N qual (Ag st) f AX A outer s H E) (K8 st) t/\t { nx:=λ_ H'=>Q .A8 H',rt:=Q } (start N vs) H):Cc P w K mg ZB (Hy P w) (k+1) f fd ps sp:=by
 obtain⟨e,od,kV,c,d,g,AX,ct,JI,rfl,a,Ew⟩:=F.ex;refine fZ a Ew S len λA outer s H vs Q E b FF=>?_;obtain⟨t,h,q⟩:=Lg AX A outer s H vs Q E b FF;exact⟨t,h.h,q⟩
section
variable{i k:Nat}{E:St->XK}{body CQ:List Stmt}{fld:Str}
theorem G8(h:C1 X.prog X.w X.K X.mg X.base x k ps sp)(c:Bi j X.A)(d:k<=j)(go:Goes X E)(a:X.ex=[])(b:QA X (e::es) t)(f:Gl X x:=by rfl)(BL:(x == ("__debug__":Str))=false:=by decide)
  (he:starEach (e::es) X.env=(false,eval e X.env)::starEach es X.env:=by rfl) (BW:(backTo pos (starEach es X.env)).any (·.1)=false:=by rfl):QE X (.Call (.Name x p) (e::es) [] pos) (My sp E t):=⟨by have b:=b.h;exact ZGU h c d go (yZ a) b f BL he BW⟩
theorem ZGT(m:Gl X x)(a:X.mg x=some (.ref C))(q:FU X.K C none=true)(n:X.calm=true)(d:X.ex=[])(go:Goes X E)(f:QA X (e0::es) t)
  (BL:(x == ("__debug__":Str))=false:=by decide) (he:starEach (e0::es) X.env=(false,eval e0 X.env)::starEach es X.env:=by rfl) (BW:(backTo Bd (starEach es X.env)).any (·.1)=false:=by rfl) :
  QS X (.Raise (some (.Call (.Name x np) (e0::es) [] Bd)) none pos) (Vh C E t):=⟨by
 have f:=f.h;intro Zy s Z H D I h;have mk:∀h':Heap,X.K.In h'->lb h' C none:=λh' k=>Ow k q;obtain⟨bm,N,nm,qn,bs,hdct,sn,sub,ab,col,dd,k0,k1,k2,k3,k5,mN,y,v,Fy,T⟩:=(Ow (X:=I.mod.IX) q).obj;refine wpAny_Raise_call_subT (C:=C) (nm:=nm) (q:=qn) (N:=N) (bs:=bs) (bm:=bm) (hdct:=hdct) (sn:=sn) (sub:=sub) (ab:=ab) (col:=col) (dd:=dd) (k0:=k0) (k1:=k1) (k2:=k2) (k3:=k3) (k5:=k5)
  oN (mN:=mN) (T.hasType rfl) (I.ok.hd n) (by rw[he];show(false || (backTo Bd (starEach es X.env)).any (·.1))=false;rw[BW];rfl) Fy (JN I m a ⟨rfl,?_⟩ BL)
 rw[he];have i:=f Bd Zy s Z H _ I h;rw[he]at i;refine bh (AQ i λus s2⟨vs,H2,I2,r,j,w⟩=>⟨rfl,?_,I2.bk _ _ y,v.keeps I2.bk,T.keeps I2.bk,λh' e a=>?_⟩)
 .rw[<- r.length];exact Bg j (by decide +kernel)
 .obtain⟨t',LP,MC,_⟩:=a.there;have g:s2.heap.get? e=none:=a.new;have A:=I2.call (h':=h') (g':=s2.gens) (d':=s2.drawn) (t':=s2.toks) (ch:=[]) (Un.kept a.keeps) (I2.AJ.kept a.keeps) I2.bare (λb z=>absurd z (by simp));refine go Zy Z H2 _ e C none none A ⟨⟨_,_,LP,rfl,rfl,rfl,by simp,rfl⟩,λT z=>by cases z⟩ ⟨?_,?_⟩ (λT z=>by cases z) (λp l=>⟨λz=>?_,by simp⟩) w
  .cases z:H2 e with
   |none=>rfl
   |some o=>obtain⟨u,c⟩:=I2.AJ.there z;rw[g]at c;cases c
  .cases z:X.s₀.heap.get? e with
   |none=>rfl
   |some o=>obtain⟨u,c⟩:=I2.base.there e o z (by rw[d];simp);rw[g]at c;cases c
  .have:=(I2.pin p l).1;rw[z,g]at this;cases this⟩
theorem ZAB(c:Io X.K C fI fld)(hg:Gl X x)(hm:X.mg x=some (.ref C))(Fn:Cc X.prog X.w X.K X.mg X.base El kk fI fd ["self", par] (Nl C fld))(hb:Binds X.K fd ["self", par] [])(Y:Bi (kk+1) X.A)(m:X.calm=true)(hex:X.ex=[])(go:Goes X E)(n:QA X [e0] t)
  (BL:(x == ("__debug__":Str))=false:=by decide) (he:starEach [e0] X.env=(false,eval e0 X.env)::starEach [] X.env:=by rfl) (BW:(backTo Bd (starEach [] X.env)).any (·.1)=false:=by rfl) :
  QS X (.Raise (some (.Call (.Name x np) [e0] [] Bd)) none pos) (TU C fld E t):=⟨by
 have n:=n.h;intro Zy s Z H D I h;obtain⟨bm,N,nm,qn,bs,hdct,sn,sub,ab,col,dd,k0,k1,k2,k3,k5,mN,G,hN,Fy,T⟩:=(Ow I.mod.IX c.ex).obj;rw[arm_exec_Raise];show wpAny _ _ (do standAt pos;raiseStmt X.env (some (do let v <- eval (.Call (.Name x np) [e0] [] Bd) X.env;standAt pos;pure v)) none) _ _ s
 refine oS (ZA8 (yN (C:=C) (nm:=nm) (qn:=qn) (N:=N) (bs:=bs) (bm:=bm) (hdct:=hdct) (sn:=sn) (sub:=sub) (ab:=ab) (col:=col) (dd:=dd) (k0:=k0) (k1:=k1) (k2:=k2) (k3:=k3) (k5:=k5) (newId:="ValueError.__new__") (T.hasType rfl) (I.ok.hd m) (oS ?_)));refine uc (JN I hg hm ?_ BL);refine Ul (h₀:=X.base) I.ok.mod.IX c.kp (AQ (n Bd Zy s Z H _ I h) λus s1⟨vs,H1,I1,r,v,ev,sv,hE⟩=>⟨I1.Bt,?_⟩) he BW;subst ev;obtain⟨u,rfl,Q⟩:=vals1 r;obtain⟨σ,g,d,tk,os⟩:=s1;have OX:∃oI,σ.get? fI=some oI/\oI.cls=.type "function" := by
  have z:=beq_iff_eq.mp c.fn;unfold PySem.W.typeIn at z;obtain⟨o,ho,m⟩:=Option.map_eq_some_iff.mp z;exact⟨o,I1.Bt _ _ ho,m⟩
 obtain⟨oI,U,TX⟩:=OX;refine ZAh oN (T.keeps I1.bk) (I1.bk _ _ G) (hN.keeps I1.bk) Fy U TX (by show 1<=sizeLine;decide +kernel) λh' ea Lj F=>?_;obtain⟨t',LP,_,_⟩:=F.there;have J:H1 ea=none:=I1.AJ.fresh Lj;have q:Inv X Zy Z (upd H1 ea (Ei ea C none)) ⟨h',g,d,tk,os⟩:=I1.laid (t':=tk) F.keeps Lj (aI LP);have S:Nl C fld ([.ref ea,v]++[]) (upd H1 ea (Ei ea C none)) (λw H3=>w=.A8/\∃d,H1 d=none/\d≠ea/\H3=upd (upd (upd H1 ea (Ei ea C none)) d (.xd [(fld,v)])) ea (Ei ea C (some d))) E0:=
  ⟨ea,v,rfl,sv,AW,λd hd=>by
   have j:d≠ea:=by rintro rfl;rw[AW]at hd;cases hd
   rw[AY j]at hd;exact⟨rfl,d,hd,j,rfl⟩⟩
 refine zg (ya (Fn.run _ X.stack _ _ ⟨[.ref ea,u],[]⟩ [.ref ea,u] [.ref ea,v] _ E0 (Y.make C [u] []) (q.Rn.make C [u] []) (hb _ [.ref ea,u] q.Bt rfl) (.cons rfl (.cons Q .nil)) S) λR s' i=>?_);cases R with
 |error e=>exact False.elim i
 |ok fl=>
  cases fl with
  |ret O=>
   obtain⟨w3,H3,I3,V,ew,f,l,j,eH⟩:=q.after i;subst ew;subst eH;cases(show O=Value.none from V);refine⟨rfl,oS (ZA8 (qh ?_))⟩;obtain⟨P,y⟩:=I3.exc (C:=C) (dx:=some f) AW;refine⟨ea,P,some f,rfl,I3.bk _ _ G,y,?_⟩;have B:∀p∈X.pn++Zy,p.1≠ea:=λp Ed z=>by
    have:=BA (I1.pin p Ed).1;rw[z]at this;exact absurd this (Nat.not_lt.mpr Lj)
   have L:=I3.forget (a:=ea) AW B;have M:OA (upd (upd (upd H1 ea (Ei ea C none)) f (.xd [(fld,v)])) ea (Ei ea C (some f))) ea=upd H1 f (.xd [(fld,v)]):=by
    funext b
    by_cases z:b=ea
    .subst z;rw[Vo,AY (BN j),J]
    .rw[Tg z,AY z]
     by_cases k:b=f
     .subst k;rw[AW,AW]
     .rw[AY k,AY k,AY z]
   rw[M]at L;refine go Zy Z _ s' ea C (some f) none L ⟨⟨_,_,y,rfl,rfl,rfl,by simp,rfl⟩,λT z=>by cases z⟩ ⟨by rw[AY (BN j)];exact J,?_⟩ (λT z=>by cases z) (λp Ed=>⟨B p Ed,by simp⟩) (hE f l);exact OE (Bg I1.sz Lj)
  |next=>exact False.elim i
  |brk=>exact False.elim i
  |cont=>exact False.elim i⟩
theorem ZFn(BM:X.stack=X.env::X.outer)(Y:X.ex=[])(B:X.N.Nodup)(t:X.N[j]?=some n)(i:X.env.scope.names.lookup n=some .local)(V:Gl X x)(U:X.mg x=some (.ref S))
  (A:∀(pn:ZIW)(xe:Value->Shared->Prop)(E1:St->XK),Goes (X.EV pn xe) E1->Fh (X.EV pn xe) body (Ip E1))
  (hh:∀e,Fh (X.CQ e) (b0::CQ) th) (BL:(x == ("__debug__":Str))=false:=by decide) :
  QS X (.Try body [.ExceptHandler (some (.Name x np)) (some n) (b0::CQ) Ie] [] [] pos) (YQ X.K S j Ip th):=⟨by
 have A:=λpn xe E1 g=>(A pn xe E1 g).h;have hh:=λe=>(hh e).h;intro Zy s Z H D I h;obtain⟨E1,h1,h2⟩:=h;have M:X.env.frame=some X.env.locals:=by
  rcases I.ok.Iy with e|⟨_,M⟩
  .rw[e]at BM;exact absurd (tq List.length BM) (by simp)
  .exact M
 refine wpAny_Try_except ?_;refine tN (A (X.pn++Zy) _ E1 ?_ [] s Z H D I.EV h1) (λf s1 q=>?_) (λe s1 q=>q)
 .intro Xa σ1 H1 s1 ea C dx tb I1 O ⟨F,m⟩ E c hE;have k:Inv X Zy σ1 H1 s1:=I1.HE;have m:X.s₀.heap.get? ea=none:=m;have E:∀T,tb=some T->H1 T=none/\X.s₀.heap.get? T=none:=E;have c:∀p∈X.pn++Zy,p.1≠ea/\tb≠some p.1:=λp q=>c p (HY _ q);refine aQ (outer:=X.outer) (L:=X.env.locals) (by rw[<- BM];exact k.ok.frames) (ZB:=X.base) (by rw[<- BM];exact k.stack) M O λh' T kp a J=>?_;have G:=k.TN BM O F m E c kp;obtain⟨WU,Ve⟩:=h2 σ1 C dx ea H1 hE F;refine wpAny_handleBy_cons ?_ (λz=>by cases z);refine codeAny_handlers_test ?_;refine JN (X:=X.CQ (.ref ea)) G.CQ V U ?_ BL;obtain⟨oe,vs,σ,hc,hd,Gh,hz,h3⟩:=J.obj;have LT:PySem.W.Looks (model X.prog X.w) h' (typeOf (.ref ea)) (.ref C):=by
   rw[<- hc];exact(ZHe σ).andThen .now
  refine(PySem.W.exm_one (K:=X.K) G.Bt LT WU).here ?_;refine codeAny_handlers_suite_as ?_;have fl:∀b∈CS (X.env::X.outer),∃o,h'.get? b=some o/\∀vs,o.data≠.fields vs:=λb A=>by
   have st:=G.stack;rw[BM]at st;obtain⟨_,o,ho,hn⟩:=st.mem A;exact⟨o,ho,hn⟩
  refine ZX (s:={ s1 with heap:=h' }) (l:=X.env::X.outer) J fl λh4 W8 Q=>?_
  have Zo:∀T',some T=some T'->H1 T'=none/\X.s₀.heap.get? T'=none:=λT' eT=>by
   cases eT;exact a.elim (λa=>⟨k.AJ.fresh a,OE (Bg k.sz a)⟩) (E T)
  have Ya:∀p∈X.pn++Zy,p.1≠ea/\some T≠some p.1:=λp q=>⟨(c p q).1,λz=>a.elim (λa=>by
   have P:=BA (k.pin p q).1;rw[<- Bo z]at P;exact absurd P (Nat.not_lt.mpr a)) λy=>(c p q).2 (y.trans z)⟩
  have I4:=G.TN BM J F m Zo Ya W8;have I5:=I4.ZDJ Q F m λp q=>(c p q).1;refine Zg (X:=X.CQ (.ref ea)) (v:=.ref ea) I5.CQ B t (.inl i) rfl (λR I6=>?_) (.inr i);refine tN (hh (.ref ea) Zy R _ _ (D.drop j) I6 Ve) (λf s7 q=>?_) (λ_ _ z=>z.elim);cases f with
  |next=>
   obtain⟨σ7,H7,I7,d⟩:=q;exact(I7.Kv I.ok).unbind B t i λs' I9=>⟨_,_,I9,d⟩
  |brk=>
   obtain⟨σ7,H7,I7,d⟩:=q;exact(I7.Kv I.ok).unbind B t i λs' I9=>⟨_,_,I9,d⟩
  |cont=>
   obtain⟨σ7,H7,I7,d⟩:=q;exact(I7.Kv I.ok).unbind B t i λs' I9=>⟨_,_,I9,d⟩
  |ret u=>
   obtain⟨v,σ7,H7,I7,r,d⟩:=q;exact(I7.Kv I.ok).unbind B t i λs' I9=>⟨v,_,_,I9,r,d⟩
 .cases f with
  |next=>
   obtain⟨σ7,H7,I7,d⟩:=q;exact vx ⟨_,_,I7.HE,d⟩
  |brk=>
   obtain⟨σ7,H7,I7,d⟩:=q;exact⟨_,_,I7.HE,d⟩
  |cont=>
   obtain⟨σ7,H7,I7,d⟩:=q;exact⟨_,_,I7.HE,d⟩
  |ret u=>
   obtain⟨v,σ7,H7,I7,r,d⟩:=q;exact⟨v,_,_,I7.HE,r,d⟩⟩
end
section
variable{K:ZIV}{x:Addr}{fill expr:Bool}
structure ExGet (K:ZIV) (C:Addr):Prop where
 ga:PySem.W.findIn K (.ref C) "__getattribute__"=some (some (.builtin "BaseException.__getattribute__"))
 gt:PySem.W.findIn K (.ref C) "__getattr__"=some none
 mb:PySem.W.mroIn K C (.type "BaseException")=some true
theorem rh(o:Value):bindSpecial (.builtin "BaseException.__getattribute__") o=pure (.builtin "BaseException.__getattribute__", [o]):=by
 first|rfl|kernel_rfl
theorem ZD7(X:K.In s.heap)(I:PySem.W.InstAt s.heap x ox C od)(g:ExGet K C)
  (h:wpAny (model prog w) A.in1 (Builtin.«object.__getattribute__» ⟨[.ref x,.str name tk],[]⟩) (λa s'=>match a with | .done (.ret v)=>wpAny (model prog w) A (handedOut v) Q E s'|_=>False) (λ_ _=>False) s) :
  wpAny (model prog w) A (getAttrBy (.ref x) (.str name tk) fill expr) Q E s:=by
 obtain⟨hh,m,d,t,os⟩:=s;have b:=I.type (M:=model prog w);have k:=cI (M:=model prog w) X g.ga;have j:=cI (M:=model prog w) X g.gt;have i:=ZHj (M:=model prog w) X g.mb;unfold getAttrBy;refine tu (oS (b.at (oS (k.at ?_))));have l:(Value.builtin "BaseException.__getattribute__" == Value.builtin "object.__getattribute__")=false:=by decide +kernel
 dsimp only;rw[qP (by rw[l,UY];decide)];unfold getAttrByItsOwn hookBefore;rw[rG (show onTheHeap (Value.ref C)=true from rfl)];refine oS (j.at (oS (wpAny_attempt (tu ?_))));unfold callGetattribute;rw[qP (show ¬ (expr && onTheHeap (Value.builtin "BaseException.__getattribute__"))=true by cases expr <;> decide)]
 unfold boundAndCalled;rw[rh];refine oS (qh ?_);show wpAny _ _ (call (.builtin "BaseException.__getattribute__") [.ref x,.str name tk]) _ _ _;refine zg (ZAJ PySem.F.excAttr_ValueError.ga.plain PySem.F.entry_bexc_ga ?_);have e:builtinKind "BaseException.__getattribute__"=some .slot:=by decide +kernel
 have c:splitId "BaseException.__getattribute__"=some ("BaseException","__getattribute__"):=by decide +kernel
 have f:=PySem.F.args_bexc_ga (.ref x) (.str name tk);simp only[checkBuiltinCall,e,c];unfold isInstance;refine oS (oS (b.at (i.at ?_)));rw[qP (by decide)];refine wpAny_of_eq f ?_;refine tN h (λa s' z=>?_) λ_ _ z=>z.elim;rcases a with(_|_|_|_)|_ <;> first|exact z|exact z.elim
theorem qr(X:K.In s.heap)(I:PySem.W.InstAt s.heap x ox C od)(g:ExGet K C)(a:PySem.W.findObj K C od name=some (.value v))(hh:PySem.W.handedIn v=true)(h:Q v { s with toks:=s.toks+1 }):
  wpAny (model prog w) A (getAttr (.ref x) name expr) Q E s:=by
 unfold getAttr;refine oS (wpAny_mkText (ZD7 (s:={ s with toks:=s.toks+1 }) X I g ?_))
 obtain⟨e,f,d,t,os⟩:=s;have c:=I.type (M:=model prog w);have b:=PySem.W.looks_find (M:=model prog w) X I a;refine oS (qh (oS (qh (oS (c.at (oS (b.at ?_)))))));refine qh ?_;show wpAny _ _ (handedOut v) _ _ _;rw[PySem.W.handedOut_of hh];exact qh h
end
structure u0 (K:ZIV) (C:Addr):Prop extends ExGet K C where
 cl:(PySem.W.clsIn K C).isSome=true
 gc:PySem.W.findIn K (.ref C) "__class__"=some (some (.builtin "object.__class__"))
 gn:PySem.W.specialIn K (.builtin "object.__class__") "__get__"=some (some (.builtin "getset_descriptor.__get__"))
 tk:PySem.W.takesIn K (.builtin "object.__class__")=some true
 mo:PySem.W.mroIn K C (.type "object")=some true
def Rv(K:ZIV)(ta:TE)(f:Str):TE:=λZ H Q=>ta Z H λx H1=>∃a C dx fs v,x=.ref a/\H1 a=some (Fz.Iu a C (some dx))/\H1 dx=some (.xd fs)/\ExGet K C/\PySem.W.hasDictIn K C=true/\Bj K C f/\fs.lookup f=some v/\Q v H1
section
variable{f:Str}
theorem sX(c:QE X e ta)(m:attributeBase e f X.env (eval e X.env)=eval e X.env:=by rfl):QE X (.Attribute e f pos) (Rv X.K ta f):=⟨by
 have c:=c.h;intro Zy s Z H Q I h;refine iY m (AQ (c Zy s Z H _ I h) λu s1⟨x,H1,I1,i,a,C,dx,fs,v,ex,ea,w,g,hd,n,l,q⟩=>?_);subst ex;obtain rfl:u=Value.ref a:=i;obtain⟨ob,vs,h1,h2,t,p⟩:=(I1.AJ a _ ea).1;obtain⟨mA,ns,r⟩:=I1.AJ dx _ w;obtain⟨od,b,j⟩:=gL ns;obtain⟨u,k,d⟩:=EF.some_of (v:=v) (o:=mA f) (by rw[<- l];exact r f);have J:PySem.W.InstAt s1.heap a ob C (some od):=⟨h1,h2,by unfold PySem.W.notCls;rw[p],by rw[t];exact b⟩;exact qr I1.Bt J g (ZHg hd n rfl (by rw[j f,k])) (kY d) ⟨v,H1,I1.tok _,d,q⟩⟩
end
end L2
namespace Fz
open L2 Lw
variable{xs:List PV}{E:Ent0}{ss:List Slot}{Z:L2.St}{F F' H H':Hp}{ta tb tc te:TE}{tp:Bool}{nx:List Slot->Prop}{R:Aq}{α:Type}
structure Kb (K:ZIV) (a:Addr) (xs:List PV):Prop where
 Jx:xs.all flat=true
 sq:∀H,AS K H a (xs.map Fz.enc)
 ob:∃o:Obj,K.lookup a=some o/\o.cls=.type "tuple"
theorem Kb.of{K:ZIV}{a:Addr}{vs:List V}(h:∀H,AS K H a vs)(e:xs.map Fz.enc=vs)(f:xs.all flat=true):Kb K a xs:=by
 subst e;refine⟨f,h,?_⟩;rcases h (λ_=>none)with h|⟨o,A5,n,h1,h2,_⟩
 .rcases h with h|⟨_,h⟩
  .cases h
  .cases h
 .exact⟨o,h1,h2⟩
theorem ZBV(ms:List α)(x:α)(j:Nat):(ms.take j++x::ms.drop j).Perm (x::ms):=by
 have h:=List.perm_middle (a:=x) (l₁:=ms.take j) (l₂:=ms.drop j)
 rwa [L8]at h
theorem W0{ms:List Str}{x:Str}(j:Nat)(h:ms.Nodup)(hx:x∉ms):(ms.take j++x::ms.drop j).Nodup:=(ZBV ms x j).nodup_iff.mpr (List.nodup_cons.mpr ⟨hx,h⟩)
theorem ZEw(xs:List α){i j:Nat}(hi:i<=j)(a:j<=xs.length):GC xs (some (i:Int)) (some (j:Int))=(xs.drop i).take (j - i):=by
 unfold GC;rw[HT.Ky,HT.Ky,Jn a,Jn (Bg hi a)]
theorem eE(ns:List Str)(x:Str):(ns.filter λy=>!alike (.str y) (.str x))=wo ns x:=by
 unfold wo alike;rfl
section
variable[Xw]
variable{F1:Hp}{K:ZIV}{js:List Nat}{ti:TE}{k:PV->Prop}
theorem RY{i:Nat}(hi:ss[i]?=some .AV)(h:Wq ss ta λtp xs=>tp=false/\∃ns:List Str,xs=ns.map PV.str/\(∀x∈ns,Nm x)/\ns.length<=1000/\∀x:Str,Nm x->x∉ns->k (.str x)):
  Wp ss (Dg (O6 K) [] E0 (Al (BS i) (Al ta BR))) k:=⟨λE Z F H Q S q=>by
 obtain⟨p,e,_⟩:=S.ok i _ hi;refine⟨_,e,h.go E Z F H _ S λv tp xs F1 H1 a sv⟨g,ns,ex,d,c,kk⟩=>?_⟩;subst g;subst ex;obtain⟨l,vs,f,hn,b,r⟩:=sv;subst f;rw[r.strs]at b;exact⟨p,l,ns,rfl,a.st.En hi e,b,λz=>hn i hi (z▸e),d,c,λx H3 hx Fs s=>q _ _ F1 H3 (a.trans (a.st.X5 hi e s)) (.str x) (kk x hx Fs)⟩⟩
def Vt:Pre:=λl R=>∃(ns:List Str)(r:Str),l=[.sq false (ns.map .str),.is (.str r)]/\ns.length<64/\R=.is λp=>∃ts:List Str,ts.Perm ns/\sortedS ts=true/\p=Eh r 0 ts
end
end Fz
namespace Fz
open L2 Lw
variable{E:Ent0}{AN ss:List Slot}{Z σ':L2.St}{F F' H H':Hp}{te:TE}{v:V}{nx:List Slot->Prop}{R:Aq}{j n:Nat}{vs:List V}{Q:VK}{X:XK}
abbrev Ez:=List Slot->Aq->(Ex->Prop)->Prop
def Ci(pre:Ez):Sp:=λvs H Q X=>∃(ss:List Slot)(R:Aq)(D:Ex->Prop)(F:Hp)(A:List Addr),pre ss R D/\Sg (E3 A F H) ss (vs.map some) F H/\(∀v F' H',Fin (E3 A F H) F' H'->R.ok (E3 A F H) F' H' v->Q v H')/\
 ∀(x:Ex)(C:Value)(dx:Option Addr)F' H',Fin (E3 A F H) F' H'->D x->x.at F' C dx->X C dx H'
@[reducible] noncomputable def lD (X:XK) (D:Ex->Prop):Xw:=⟨λ_=>X,λ_=>True,D⟩
@[reducible] noncomputable def HF (E:Ent0) (J:List Slot->Prop) (D:Ex->Prop):Xw:=⟨λZ C dx H=>∃ss F x,J ss/\Sg E ss Z F H/\D x/\x.at F C dx,J,D⟩
def ZAf:PV->Prop
 | .str x=>(reprText x).length<=100000
 | .int i=>i.natAbs.log2<1920
 |_=>False
section
variable[Xw]
variable{pre:Ez}{t:TA}{k:PV->Prop}{K:ZIV}{C S:Addr}{fld:Str}
theorem Hf(h:Wa ss t λl=>∃k' D,pre l (.is k') D/\Xw.J ss/\(∀x,D x->Xw.D x)/\∀p,k' p->k p):Wp ss (My (Ci pre) Xw.e t) k:=⟨λE Z F H Q S q=>
 h.go E Z F H _ S λvs l F1 H1 b a⟨k',D,c,g,i,kk⟩=>by
  refine⟨l,.is k',D,F1,[],c,b.st.Pm a,λv F' H' f⟨p,r,kp⟩=>?_,λx C dx F' H' f d B3=>?_⟩
  .exact q v p F' H' (b.trans (b.st.back (λ_ h=>absurd h BB) f)) r (kk p kp)
  .exact E.hx ss Z F' H' x C dx g (b.st.back (λ_ h=>absurd h BB) f).st (i x d) B3⟩
theorem rN(h:We ss t λps=>ps.length<=1000/\Xw.J ss/\Xw.D ⟨C,[],[]⟩):Ws ss (Vh C Xw.e t) nx R:=⟨λE D Z F H S hn f=>
 h.go E Z F H _ S λvs ps F1 H1 a rs AH=>by obtain⟨b,c,d⟩:=AH;exact⟨by rw[rs.length];exact b,E.hx ss Z F1 H1 ⟨C,[],[]⟩ (.ref C) none c a.st d ⟨rfl,.inl ⟨rfl,rfl,rfl⟩⟩⟩⟩
theorem GV(h:Wp ss te λp=>ZAf p/\Xw.J ss/\Xw.D ⟨C,[fld],[p]⟩):Ws ss (TU C fld Xw.e (Al te BR)) nx R:=⟨λE D Z F H S hn g=>
 h.go E Z F H _ S λv p F1 H1 b r AH=>by
  obtain⟨sp,c,f⟩:=AH;refine⟨v,rfl,?_,λd hd=>?_⟩
  .cases r <;> first|exact sp|exact sp.elim
  .have a:=b.st.alloc hd (.xd [(fld,v)]);exact E.hx ss Z _ _ ⟨C,[fld],[p]⟩ (.ref C) (some d) c a.st f ⟨rfl,.inr ⟨d,[v],rfl,AW,rfl,.cons (r.mono a.ff) .nil⟩⟩⟩
end
section
variable{pre:Ez}
theorem JO{N:List Str}{t:TS}(h:Ci pre vs H Q X)(g:∀ss R D,pre ss R D->ss.length=n)
  (hw:∀ss R D,pre ss R D->let _i:Xw:=lD X D;Ws (ss++List.replicate (N.length - n) .any) t (λ_=>∃k,R=.is k/\k .A8) R):t { nx:=λ_ H'=>Q .A8 H',rt:=Q } (L2.start N vs) H:=by
 obtain⟨ss,R,D,F,A,a,S,q,b⟩:=h;have e:vs.length=n:=by have:=S.len;rw[AL]at this;rw[<- this];exact g ss R D a
 unfold L2.start;rw[e];letI:Xw:=lD X D;refine(hw ss R D a).go ⟨E3 A F H,λAN σ' F' H' x C dx _ S' d B3=>b x C dx F' H' S'.toFin d B3⟩ _ _ F H (S.grown _) (λAN σ' F' H'⟨k,e,c⟩S' _=>?_) λv F' H' f ok=>q v F' H' f ok;subst e;exact q .A8 F' H' S'.toFin ⟨.A8,.A8,c⟩
theorem Jh(b:∀ss R D,pre ss R D->ss.length=n)(h:Ci pre vs H Q X):vs.length=n:=by
 obtain⟨ss,R,D,F,A,a,S,q⟩:=h;have:=S.len;rw[AL]at this;rw[<- this];exact b ss R D a
noncomputable abbrev Ent0.at(E:Ent0)(F:Hp):Ent0:=⟨E.A,F,E.H0,E.B⟩
theorem Fin.un(S:Fin E F H)(f:Fin (E.at F) F' H'):Fin E F' H':=⟨f.fh,S.f0.trans f.f0,f.keep,λa o e=>(f.fresh a o e).elim (λe=>S.fresh a o e) .inr,f.Gm,f.La,f.a0,f.bF,f.bH,f.b0⟩
theorem Ok.un{G:Hp}{s:Slot}{o:Option (Option V)}:Ok (E.at G) F H s o↔Ok E F H s o:=by
 cases s with
 |sq tp xs=>cases tp <;> exact Iff.rfl
 |_=>exact Iff.rfl
theorem Sg.un(S:Sg E ss Z F H)(S':Sg (E.at F) AN σ' F' H'):Sg E AN σ' F' H':=⟨S.toFin.un S'.toFin,S'.len,λi s hi=>Ok.un.mp (S'.ok i s hi),S'.CG⟩
theorem Sg.k9(S:Sg E ss Z F H):Sg (E.at F) ss Z F H:=⟨⟨S.fh,AB.refl _,S.keep,λ_ _ e=>.inl e,S.Gm,S.La,S.a0,S.bF,S.bH,S.b0⟩,S.len,λi s hi=>Ok.un.mpr (S.ok i s hi),S.CG⟩
theorem Aq.un{G:Hp}(h:R.ok (E.at G) F H v):R.ok E F H v:=by
 cases R <;> exact h
theorem Sg.ZBE(S:Sg E ss Z F H)(j:Nat):Sg E (ss.set j .any) (Z.set j none) F H:=by
 have at_:∀(i:Nat)(s:Slot),(ss.set j .any)[i]?=some s->s=.any∨(i≠j/\ss[i]?=some s):=λi s hi=>by
  by_cases q:i=j
  .subst q
   by_cases d:i<ss.length
   .rw[Cm d]at hi;cases hi;exact .inl rfl
   .rw[L7 (by rw[Jl];omega)]at hi;cases hi
  .rw[CJ (BN q)]at hi;exact .inr ⟨q,hi⟩
 refine⟨S.toFin,by rw[Jl,Jl];exact S.len,λi s hi=>?_,λi k u w l Mb hi c b a=>?_⟩
 .rcases at_ i s hi with rfl|⟨q,hi⟩
  .trivial
  .rw[CJ (BN q)];exact S.ok i s hi
 .rcases at_ i u hi with rfl|⟨q,hi⟩
  .exact b
  .rcases at_ k w c with rfl|⟨q2,c⟩
   .exact a
   .rw[CJ (BN q)]at b;rw[CJ (BN q2)]at a;exact S.CG i k u w l Mb hi c b a
end
section
variable[Xw]
variable{K:ZIV}{S:Addr}{tb:(L2.St->XK)->TS}{th:TS}
theorem zJ(J:List Slot->Prop)(Dx:Ex->Prop)(l:∀E:Ent0,@Ws (HF E J Dx) ss (tb (HF E J Dx).e) nx R)
  (hh:∀Hx x,J Hx->Dx x->PySem.W.exmOne K (.ref x.C) (.ref S)=some true/\Ws (Hx.set j (.is (.exc x.C x.ns x.xs))) th (λDf=>nx (Df.set j .any)) R):Ws ss (YQ K S j tb th) nx R:=⟨λE D Z F H S0 hn i=>by
 refine⟨(HF (E.toEnt0.at F) J Dx).e,@Ws.go (HF (E.toEnt0.at F) J Dx) _ _ _ _ (l (E.toEnt0.at F)) (@Ent.mk (HF (E.toEnt0.at F) J Dx) (E.toEnt0.at F) λss Z F H x C dx b S d B3=>⟨ss,F,x,b,S,d,B3⟩) D Z F H S0.k9 (λAN σ' F' H' n S' ff=>hn AN σ' F' H' n (S0.un S') ff) (λv F' H' f ok=>i v F' H' (S0.toFin.un f) (Aq.un ok)),λσ1 C dx ea H1 k Lj=>?_⟩;obtain⟨Hx,F1,x,b,S1,o,p,B3⟩:=k;obtain⟨K4,hw⟩:=hh Hx x b o;cases p;have s:=S0.un S1;have m:=s.alloc Lj (Iu ea x.C dx);have r:Rep (upd F1 ea (Iu ea x.C dx)) (.ref ea) (.exc x.C x.ns x.xs):=by
  rcases B3 with⟨h,g,c⟩|⟨a,vs,h,g,c,q⟩
  .subst c;rw[h,g];exact .OU AW
  .subst h;exact .exc AW (m.ff _ _ g) c (q.mono m.ff)
 exact⟨K4,hw.go E (D.drop j) _ _ _ (m.st.Er r) (λDf σ2 F3 H3 n2 S2 ff=>hn _ _ F3 H3 n2 (S2.ZBE j) (S1.f0.trans (m.ff.trans ff))) λv F' H' f ok=>i v F' H' f ok⟩⟩
variable{k:PV->Prop}{fld:Str}
theorem ZG9(h:Wp ss te λp=>∃C x,p=.exc C [fld] [x]/\ExGet K C/\PySem.W.hasDictIn K C=true/\Bj K C fld/\k x):Wp ss (Rv K te fld) k:=⟨λE Z F H Q S q=>
 h.go E Z F H _ S λv p F1 H1 b r AH=>by
  obtain⟨C,x,e,g,hd,n,kk⟩:=AH;subst e;cases r with
  |@exc a _ dx _ vs _ f d i c=>
   match vs,c with
   | [u],.cons r1 .nil=>exact⟨a,C,dx,_,u,rfl,b.st.fh _ _ f,b.st.fh _ _ d,g,hd,n,by simp[List.zip,List.lookup],q _ _ F1 H1 b r1 kk⟩⟩
end
end Fz
namespace L2
variable{C:Addr}{X:Cx}
noncomputable def Nq(s:Stmt):Stmt:=match s with
 | .ClassDef _ _ _ (d::_) ..=>d
 |s=>s
def FH(P:Program)(w:World)(K:ZIV)(mg:ZIX)(ZB:Heap)(C:Addr)(fld:Str):Prop:=
 ∃(fI:Addr)(fd:FuncData)(par:Str),Io K C fI fld/\Cc P w K mg ZB El 1 fI fd ["self", par] (Nl C fld)/\Binds K fd ["self", par] []
theorem OC{fld:Str}{a b:Str}:∀vs H Q E,Nl C fld vs H Q E->vs.length=[a,b].length:=λvs H Q E h=>by obtain⟨ea,v,rfl,_⟩:=h;rfl
theorem NN{fld:Str}{vs:List V}{H:Hp}{Q:VK}{E:XK}{N:List Str}(a:N.length=2)(h:Nl C fld vs H Q E):
  LZ (Kt (gK C (Al (BS 0) (Al (Zi (BS 1)) BR)))) (LZ (iS C fld (BS 0) (BS 1)) RE) { nx:=λ_ H'=>Q .A8 H',rt:=Q } (start N vs) H:=by
 obtain⟨ea,v,rfl,sv,hx,q⟩:=h;have e0:(start N [V.ref ea,v])=[some (.ref ea),some v]:=by
  unfold start;simp[a]
 rw[e0];refine⟨_,rfl,_,rfl,sv,λy=>⟨ea,_,rfl,hx,?_⟩⟩;refine⟨_,rfl,_,rfl,ea,rfl,hx,λd hd=>q d hd⟩
theorem U1:Goes X (λ_=>E0):=λ_ _ _ _ _ _ _ _ _ _ _ _ _ h=>h.elim
section
variable{x:Str}{fld:Str}{E:St->XK}{np Bd pos:Pos}{e0:Expr}{t:TA}{j:Nat}
theorem JZ(c:FH X.prog X.w X.K X.mg X.base C fld)(f:Gl X x)(d:X.mg x=some (.ref C))(b:Bi j X.A)(e:2<=j)(g:X.calm=true)(a:X.ex=[])(go:Goes X E)(i:QA X [e0] t)
  (BL:(x == ("__debug__":Str))=false:=by decide) (he:starEach [e0] X.env=(false,eval e0 X.env)::starEach [] X.env:=by rfl) (BW:(backTo Bd (starEach [] X.env)).any (·.1)=false:=by rfl) :
  QS X (.Raise (some (.Call (.Name x np) [e0] [] Bd)) none pos) (TU C fld E t):=by
 obtain⟨fI,fd,par,k,Fn,h⟩:=c;exact ZAB k f d Fn h (b.mono e) g a go i BL he BW
end
end L2
namespace Fz
open L2 Lw
variable{C a:Addr}{ss:List Slot}{ta tb tc te:TE}{cs ns:List Str}{x:Str}{F:Hp}{d':Af}
theorem ZC5{b c n:Int}(d:1<=b)(a:b<=c)(hn:0<=n):∃m:Nat,(if(if c<n then c else n) > b then(if c<n then c else n)else b)=(m:Int)/\(m:Int)<=c:=by
 have h:∀z:Int,1<=z->z<=c->∃m:Nat,z=(m:Int)/\(m:Int)<=c:=λz e h1=>⟨z.toNat,by omega,by omega⟩;apply h
 .split
  .omega
  .omega
 .split
  .split <;> omega
  .omega
noncomputable def SV(K:ZIV)(C:Addr):Bool:=PySem.W.findIn K (.ref C) "__getattribute__" == some (some (.builtin "BaseException.__getattribute__")) && (PySem.W.findIn K (.ref C) "__getattr__" == some none && (PySem.W.mroIn K C (.type "BaseException") == some true && ((PySem.W.clsIn K C).isSome && (PySem.W.findIn K (.ref C) "__class__" == some (some (.builtin "object.__class__")) && (PySem.W.specialIn K (.builtin "object.__class__") "__get__" == some (some (.builtin "getset_descriptor.__get__")) && (PySem.W.takesIn K (.builtin "object.__class__") == some true && PySem.W.mroIn K C (.type "object") == some true))))))
theorem oo{K:ZIV}(h:SV K C=true):u0 K C:=by
 unfold SV at h;simp only[Dl,ZBK]at h;obtain⟨h1,h2,f,e,d,c,b,a⟩:=h;exact⟨⟨h1,h2,f⟩,e,d,c,b,a⟩
section
variable[Xw]
variable{K:ZIV}{k:PV->Prop}
theorem fD{neg:Bool}(c:Kb K a (ns.map .str))(h:Wp ss ta λp=>∃x,p=.str x/\k (.bl (if neg then !decide (x∈ns)else decide (x∈ns)))):Wp ss (C5 (Lm K neg) ta (tC (.ref a))) k:=⟨λE Z F H Q S q=>
 h.go E Z F H _ S λv p F1 H1 d b AH=>by
  obtain⟨x,e,kk⟩:=AH;subst e;cases b.inv;have sq:=c.sq H1;rw[Uu]at sq;refine⟨a,ns.map V.str,rfl,.inr sq,rfl,JC ns,?_⟩;rw[U3];exact q _ _ F1 H1 d (.bl _) kk⟩
end
noncomputable def IT(r:Str):Bool:=decide (r∈([("none":Str), "ahead","all"]))
noncomputable def jP(C:Addr)(r:Str):Ex:=⟨C,["rule"],[.str r]⟩
def aJ(C:Addr):Ez:=λl R D=>∃r:Str,l=[.is (.str r)]/\(reprText r).length<=100000/\(R=.is λp=>p=.A8/\IT r=true)/\D=λx=>x=jP C r/\IT r=false
def ZBg(r:Str)(ns:List Str)(p:PV):Prop:=IT r=true/\∃ts:List Str,ts.Perm ns/\sortedS ts=true/\p=.tup [.str r,.int 0,.tup (ts.map .str)]
def Ze(C:Addr):Ez:=λl R D=>∃(tp:Bool)(ns:List Str)(r:Str),l=[.sq tp (ns.map .str),.is (.str r)]/\ns.length<64/\(reprText r).length<=100000/\(R=.is (ZBg r ns))/\D=λx=>x=jP C r/\IT r=false
theorem fL(h:x.length<=100)(hx:∀c∈x.cps.toList,c<16 ^ 8):(reprText x).length<=100000:=by
 have:=PySem.StrLaws.reprText_len x hx;omega
theorem ZCx(h:Nm x):(reprText x).length<=100000:=fL (Bg h.2.1 (by decide)) λc a=>IK (h.2.2 c a).2 (by decide)
noncomputable def Kx:PV->Bool
 | .A8=>true
 |_=>false
theorem Rep.Kx{v:V}{p:PV}(r:Rep F v p):decide (v=.A8)=Kx p:=by
 cases r <;> rfl
section
variable[Xw]
variable{k:PV->Prop}
theorem SQ(h:Wp ss ta λp=>Wp ss tb λq=>q=.A8/\k (.bl (Kx p))):Wp ss (C5 (λx y H Q=>y=.A8/\Q (.bl (decide (x=.A8))) H) ta tb) k:=⟨λE Z F H Q S q=>
 h.go E Z F H _ S λv p F1 H1 a c h2=>h2.go E Z F1 H1 _ a.st λf p2 F2 H2 d b AH=>by
  obtain⟨e,kk⟩:=AH;subst e;cases b.inv;refine⟨rfl,?_⟩;rw[c.Kx];exact q _ _ F2 H2 (a.trans d) (.bl _) kk⟩
theorem ZB4(h:Wp ss ta λp=>Wp ss tb λq=>q=.A8/\k (.bl (!Kx p))):Wp ss (C5 (λx y H Q=>y=.A8/\Q (.bl (!decide (x=.A8))) H) ta tb) k:=⟨λE Z F H Q S q=>
 h.go E Z F H _ S λv p F1 H1 a c h2=>h2.go E Z F1 H1 _ a.st λf p2 F2 H2 d b AH=>by
  obtain⟨e,kk⟩:=AH;subst e;cases b.inv;refine⟨rfl,?_⟩;rw[c.Kx];exact q _ _ F2 H2 (a.trans d) (.bl _) kk⟩
variable{K:ZIV}{t u:TE}{pre:Ez}{tA:TA}
theorem yS(h:Wp ss t k):Wp ss (aM t u) k:=⟨λE Z F H Q S q=>.inl (h.go E Z F H Q S q)⟩
theorem zu(h:Wp ss u k):Wp ss (aM t u) k:=⟨λE Z F H Q S q=>.inr (h.go E Z F H Q S q)⟩
theorem ZBx(h:Wq ss ta λtp xs=>tp=true/\∃ns:List Str,xs=ns.map PV.str/\Wp ss tb λp=>∃x,p=.str x/\x∈ns/\k (.int (ns.idxOf x:Nat))):Wp ss (ON K "tuple" (nA K) ta (Al tb BR)) k:=⟨λE Z F H Q S q=>
 h.go E Z F H _ S λv tp xs F1 H1 b sv⟨g,ns,e,h2⟩=>by
  subst e;subst g;obtain⟨l,vs,rfl,f,r⟩:=sv.seq b.st;refine⟨.inr (.inr (.inr (.inr ⟨rfl,_,f⟩))),h2.go E Z F1 H1 _ b.st λm p2 F2 H2 a c⟨x,i,hx,kk⟩=>?_⟩;subst i;cases c.inv;obtain⟨n,CY,j,CZ,d⟩:=(sv.mv a).seq a.st;cases j;rw[d.strs]at CZ;exact⟨l,ns,x,rfl,rfl,AS.of CZ,hx,q _ _ F2 H2 (b.trans a) (.int _) kk⟩⟩
theorem Tp(h:Wp ss te λp=>∃x,p=.str x/\x.length<=1000/\k (.bl (isNm x))):Wp ss (Dg MR [] E0 (Al te BR)) k:=⟨λE Z F H Q S q=>
 h.go E Z F H _ S λv p F1 H1 a r AH=>by
  obtain⟨x,e,hx,kk⟩:=AH;subst e;cases r.inv;exact⟨x,rfl,hx,λH3 s=>q _ _ F1 H3 (a.trans (a.st.grow s)) (.bl _) kk⟩⟩
theorem qI{k:List PV->Prop}(h:Wa ss tA λl=>∃k' D,pre l (.new k') D/\Xw.J ss/\(∀x,D x->Xw.D x)/\∀xs,k' xs->k xs):Wn ss (My (Ci pre) Xw.e tA) k:=⟨λE Z F H Q S q=>
 h.go E Z F H _ S λvs l F1 H1 b a⟨k',D,g,j,m,kk⟩=>by
  refine⟨l,.new k',D,F1,[],g,b.st.Pm a,λv F' H' f⟨l,vs,xs,e,n,i,CZ,r,c⟩=>?_,λx C dx F' H' f d B3=>?_⟩
  .subst e;exact q l vs xs F' H' (b.trans (b.st.back (λ_ h=>absurd h BB) f)) n (b.none i) CZ r (kk xs c)
  .exact E.hx ss Z F' H' x C dx j (b.st.back (λ_ h=>absurd h BB) f).st (m x d) B3⟩
end
inductive Ae where
 |put (x:Str) (i:Int)|take (x:Str)|move (x:Str) (i:Int)|turn (lo hi:Int)
def aP:Ae->PV
 | .put x i=>.tup [.str "put",.str x,.int i]
 | .take x=>.tup [.str "take",.str x]
 | .move x i=>.tup [.str "move",.str x,.int i]
 | .turn lo hi=>.tup [.str "turn",.int lo,.int hi]
structure GG where
 noName:Addr
 there:Addr
 gone:Addr
 OO:Addr
 full:Addr
noncomputable def Pb(C:Addr)(nm:Str):Ex:=⟨C,["name"],[.str nm]⟩
noncomputable def SN(C:Addr)(i:Int):Ex:=⟨C,["at"],[.int i]⟩
noncomputable def yl(C:Addr):Ex:=⟨C,[],[]⟩
def inR(i:Int)(lo hi:Int):Prop:=lo<=i/\i<=hi
instance {i lo hi:Int}:Decidable (inR i lo hi):=by unfold inR;infer_instance
def Ae.B0(c:GG)(ns:List Str):Ae->Option Ex
 | .put x i=>if isNm x=false then some (Pb c.noName x)else if x∈ns then some (Pb c.there x)else if ¬ inR i 0 ns.length then some (SN c.OO i)else if 40<=ns.length then some (yl c.full)else none
 | .take x=>if x∉ns then some (Pb c.gone x)else none
 | .move x i=>if x∉ns then some (Pb c.gone x)else if ¬ inR i 0 (ns.length - 1)then some (SN c.OO i)else none
 | .turn lo hi=>if ¬ inR lo 0 ns.length then some (SN c.OO lo)else if ¬ inR hi lo ns.length then some (SN c.OO hi)else none
def C7(x:Str):Prop:=(reprText x).length<=100000/\x.length<=1000
def Eo(i:Int):Prop:=i.natAbs.log2<1920
def Ae.say:Ae->Prop
 | .put x i=>C7 x/\Eo i
 | .take x=>C7 x
 | .move x i=>C7 x/\Eo i
 | .turn lo hi=>Eo lo/\Eo hi
def Ae.Is(d:Ae)(ns:List Str)(d':Af):Prop:=aP d=dP d'/\d'.Ok 40 ns
theorem ZG1{c:Nat}(h:LI c=true):97<=c/\c<=122:=by
 refine Jj λhn=>?_;have e:∀i,i<26->Iq.cps.extract i (i+1)=#[97+i]:=by decide +kernel
 have a:∀i,i+(Str.length ⟨#[c]⟩)<=Iq.length->Builtin.Str.subAt Iq ⟨#[c]⟩ i=false:=λi hi=>by
  have d:i+1<=26:=hi;show(Iq.cps.extract i (i+1) == #[c])=false;rw[e i (by omega)];cases b:(#[97+i] == #[c])with
  |false=>rfl
  |true=>
   have q:=eq_of_beq b;simp at q;exact absurd ⟨by omega,by omega⟩ hn
 unfold LI at h;rw[PySem.W.occ_nil_of_no _ _ 1 a]at h;exact absurd h (by decide)
theorem cj(h:isNm x=true):Nm x:=by
 unfold isNm at h;simp only[Dl,decide_eq_true_eq,L6]at h;obtain⟨h1,h2,b⟩:=h;exact⟨by omega,by omega,λc a=>ZG1 (b c a)⟩
theorem Ae.good{c:GG}{d:Ae}(h:d.B0 c ns=none):∃d':Af,d.Is ns d':=by
 cases d with
 |put x i=>
  simp only[Ae.B0]at h;split at h
  .cases h
  .next h1=>
   split at h
   .cases h
   .next h2=>
    split at h
    .cases h
    .next h3=>
     split at h
     .cases h
     .next h4=>
      have f:inR i 0 ns.length:=Decidable.not_not.mp h3;obtain⟨a,b⟩:=f;obtain⟨n,rfl⟩:=D4 a;refine⟨.put x n,rfl,cj (by cases e:isNm x <;> simp_all),h2,by omega,by omega⟩
 |take x=>
  simp only[Ae.B0]at h;split at h
  .cases h
  .next h1=>exact⟨.take x,rfl,(Decidable.not_not.mp h1:x∈ns)⟩
 |move x i=>
  simp only[Ae.B0]at h;split at h
  .cases h
  .next h1=>
   split at h
   .cases h
   .next h3=>
    have f:inR i 0 (ns.length - 1):=Decidable.not_not.mp h3;obtain⟨a,b⟩:=f;obtain⟨n,rfl⟩:=D4 a;exact⟨.move x n,rfl,Decidable.not_not.mp h1,by omega⟩
 |turn lo hi=>
  simp only[Ae.B0]at h;split at h
  .cases h
  .next h1=>
   split at h
   .cases h
   .next h3=>
    have j:inR lo 0 ns.length:=Decidable.not_not.mp h1;have f:inR hi lo ns.length:=Decidable.not_not.mp h3;obtain⟨a,b⟩:=j;obtain⟨g,k⟩:=f;obtain⟨n,rfl⟩:=D4 a;obtain⟨m,rfl⟩:=D4 (Int.le_trans a g);exact⟨.turn n m,rfl,by omega,by omega⟩
noncomputable def MT:Af->Ae
 | .put x i=>.put x i
 | .take x=>.take x
 | .move x i=>.move x i
 | .turn lo hi=>.turn lo hi
theorem wJ(d:Af):aP (MT d)=dP d:=by cases d <;> rfl
theorem tm{c:GG}{d:Af}(h:d.Ok 40 ns):(MT d).B0 c ns=none:=by
 cases d with
 |put x i=>
  obtain⟨h1,h2,b,a⟩:=h;simp only[MT,Ae.B0];rw[qP (by rw[u6 h1];decide),qP h2,qP (Decidable.not_not.mpr ⟨by omega,by omega⟩),qP (by omega)]
 |take x=>simp only[MT,Ae.B0];rw[qP (Decidable.not_not.mpr (show x∈ns from h))]
 |move x i=>
  obtain⟨h1,h2⟩:=h;simp only[MT,Ae.B0];rw[qP (Decidable.not_not.mpr h1),qP (Decidable.not_not.mpr ⟨by omega,by omega⟩)]
 |turn lo hi=>
  obtain⟨h1,h2⟩:=h;simp only[MT,Ae.B0];rw[qP (Decidable.not_not.mpr ⟨by omega,by omega⟩),qP (Decidable.not_not.mpr ⟨by omega,by omega⟩)]
theorem P2:¬ Str.ofString "put"=Str.ofString "move" := by decide +kernel
theorem yE{d e:Af}(h:dP d=dP e):d=e:=by
 cases d <;> cases e <;> simp[dP]at h <;> first|(exact absurd h.1 P2)|(exact absurd h.1.symm P2)|(obtain⟨a,b⟩:=h;subst a;congr;omega)|(obtain⟨a,b⟩:=h;congr <;> omega)|(subst h;rfl)
theorem ZR{i:Int}(h:i.natAbs<2 ^ 1000):Eo i:=by
 unfold Eo
 by_cases z:i.natAbs=0
 .rw[z];decide
 .have:=(oE z).mpr h;omega
theorem K9{i:Nat}(h:i<=1000000):Eo i:=ZR (by
 have:(1000000:Nat)<2 ^ 1000:=by decide +kernel
 show Int.natAbs (i:Int)<_;rw[Int.natAbs_natCast];omega)
theorem Ir(h:Nm x):C7 x:=⟨ZCx h,by have:=h.2.1;omega⟩
theorem Ae.ZP{d:Ae}(h:d.say)(e:d.Is ns d'):∀x,d'=.take x∨(∃i,d'=.move x i)->C7 x:=by
 rintro x(rfl|⟨i,rfl⟩)
 .have q:=e.1;cases d with
  |take y=>simp[aP,dP]at q;subst q;exact h
  |_=>simp[aP,dP]at q
 .have q:=e.1;cases d with
  |move y j=>simp[aP,dP]at q;rw[<- q.1];exact h.1
  |put y j=>simp[aP,dP]at q;exact absurd q.1 P2
  |_=>simp[aP,dP]at q
def NZ(C:Addr):Ez:=λl R D=>∃(tp:Bool)(ns:List Str)(x:Str),l=[.sq tp (ns.map .str),.is (.str x)]/\C7 x/\(R=.is λp=>x∈ns/\p=.int (ns.idxOf x:Nat))/\D=λe=>x∉ns/\e=Pb C x
def Y8(c:GG):Ez:=λl R D=>∃(tp:Bool)(ns:List Str)(x:Str)(i:Int),l=[.sq tp (ns.map .str),.is (.str x),.is (.int i)]/\(C7 x/\Eo i)/\(R=.is λp=>(Ae.put x i).B0 c ns=none)/\D=λe=>(Ae.put x i).B0 c ns=some e
def V2(c:GG):Ez:=λl R D=>∃(tp:Bool)(ns:List Str)(x:Str)(i:Int),l=[.sq tp (ns.map .str),.is (.str x),.is (.int i)]/\(C7 x/\Eo i)/\(R=.is λp=>(Ae.move x i).B0 c ns=none)/\D=λe=>(Ae.move x i).B0 c ns=some e
def Zu(c:GG):Ez:=λl R D=>∃(tp:Bool)(ns:List Str)(lo hi:Int),l=[.sq tp (ns.map .str),.is (.int lo),.is (.int hi)]/\(Eo lo/\Eo hi)/\(R=.is λp=>(Ae.turn lo hi).B0 c ns=none)/\D=λe=>(Ae.turn lo hi).B0 c ns=some e
def YL(c:GG):Ez:=λl R D=>∃(tp:Bool)(ns:List Str)(d:Ae),l=[.sq tp (ns.map .str),.is (aP d)]/\d.say/\(R=.is λp=>d.B0 c ns=none)/\D=λe=>d.B0 c ns=some e
def VB:Pre:=λl R=>∃(g i:Nat),l=[.is (.int g),.is (.int i)]/\R=.is λp=>p=.int (Gi i g:Nat)
def YO:Pre:=λl R=>∃(g i:Nat),l=[.is (.int g),.is (.int i)]/\R=.is λp=>p=.int (Fx i g:Nat)
def Ur:Pre:=λl R=>∃(tp:Bool)(ns:List Str)(g:Nat)(d:Af),l=[.sq tp (ns.map .str),.is (.int g),.is (dP d)]/\d.Ok 40 ns/\(∀x,d=.take x∨(∃i,d=.move x i)->C7 x)/\R=.is λp=>p=.int (d.gap ns g:Nat)
def X1:Pre:=λl R=>∃(tp:Bool)(ns:List Str)(x:Str)(i:Nat),l=[.sq tp (ns.map .str),.is (.str x),.is (.int i)]/\ns.length<=1000/\R=.new λxs=>xs=(ins ns x i).map .str
def ZC:Pre:=λl R=>∃(tp:Bool)(ns:List Str)(x:Str),l=[.sq tp (ns.map .str),.is (.str x)]/\ns.length<=1000/\R=.new λxs=>xs=(wo ns x).map .str
theorem TZ(h:x.length<=100)(hx:∀c∈x.cps.toList,c<16 ^ 8):C7 x:=⟨fL h hx,by omega⟩
theorem ZD4{r:Int}(a:0<=r)(h1:r<1000):Eo (r - 1):=ZR (by
 have:(1000:Nat)<2 ^ 1000:=by decide +kernel
 omega)
theorem Rt{k:Nat}(h:k<ns.length):∃x,x∈ns/\L2.Bp (ns.map PV.str) (k:Int)=some (.str x):=
 ⟨ns[k],MX h,Kr (by rw[Bc,BG h];rfl)⟩
theorem Is.ZAx{d:Ae}(h:d.say)(e:d.Is ns d'):(∀x,d'=.take x->C7 x)/\∀x i,d'=.move x i->C7 x:=⟨λx q=>Ae.ZP h e x (.inl q),λx i q=>Ae.ZP h e x (.inr ⟨i,q⟩)⟩
noncomputable def N0(r:Str)(g:Int)(cs:List Str):PV:=.tup [.str r,.int g,.tup (cs.map .str)]
section
variable[Xw]
variable{K:ZIV}{k:PV->Prop}
theorem ZFZ{k:List PV->Prop}(h:Wp ss ta λp=>∃cs:List Str,p=.tup (cs.map .str)/\Wp ss tb λq=>∃ys:List Str,q=.tup (ys.map .str)/\ys≠[]/\(cs++ys).length<64/\∀Bk:List Str,Bk.Perm (cs++ys)->sortedS Bk=true->k (Bk.map PV.str)):Wn ss (Dk (Vi K) (Al (C5 (fE K) ta tb) BR)) k:=⟨λE Z F H Q S q=>
 h.go E Z F H _ S λv p F1 H1 i t⟨cs,e,h2⟩=>h2.go E Z F1 H1 _ i.st λB p2 F2 H2 d r⟨ys,A,w,j,kk⟩=>by
  subst e;subst A;cases t with
  |@tup a vs _ n s1=>
   cases r with
   |@tup b ws _ m s2=>
    rw[s1.strs]at n;rw[s2.strs]at m;rw[CK]at j;refine⟨a,b,_,_,rfl,rfl,AS.of (d.st.fh _ _ (d.ff _ _ n)),AS.of (d.st.fh _ _ m),λz=>w (by simpa using z),small (by rw[AL,AL];omega),λc H3 s l=>?_⟩
    have f:=d.st.grow s;rw[<- E4]at l;refine⟨c,true,cs++ys,rfl,l,by rw[CK];exact j,λa Bk g y x=>?_⟩;have u:=f.st.make g (.lst (Bk.map V.str));have o:=i.trans (d.trans f);exact q a _ _ F2 _ (o.trans u) (f.st.CA g) (o.none g) AW (N9 Bk) (kk Bk y x)⟩
end
def Tw:Pre:=λl R=>∃(cs:List Str)(x:Str),l=[.is (.tup (cs.map .str)),.is (.str x)]/\cs.length<=1000/\R=.is λp=>p=.tup ((wo cs x).map .str)
def Xt:Pre:=λl R=>∃(tp:Bool)(ns:List Str)(r:Str)(g:Nat)(cs:List Str)(x:Str),l=[.sq tp (ns.map .str),.is (N0 r g cs),.is (.str x)]/\cs.length<=1000/\C7 x/\x∈ns/\R=.is λp=>p=Eh r (ns.idxOf x+1) (wo cs x)
def Vy:Pre:=λl R=>∃(r:Str)(g i:Nat)(xs:List PV),l=[.is (.tup (.str r :: .int g::xs)),.is (.int i)]/\R=.is λp=>p=.bl (Ek r g i)
def VY:Pre:=λl R=>∃(r:Str)(g:Nat)(cs:List Str)(d:Af),l=[.is (N0 r g cs),.is (dP d)]/\cs.length<=60/\Up cs/\(∀x i,d=.put x i->x∉cs)/\R=.is λp=>p=.tup ((d.Gv r g cs).map .str)
def Va:Pre:=λl R=>∃(tp:Bool)(ns:List Str)(r:Str)(g:Nat)(cs:List Str)(d:Af),l=[.sq tp (ns.map .str),.is (N0 r g cs),.is (dP d)]/\d.Ok 40 ns/\Dy ns r g cs/\ns.length<=40/\(∀x,d=.take x∨(∃i,d=.move x i)->C7 x)/\R=.is λp=>p=Eh r (d.gap ns g) (d.Gv r g cs)
theorem pC(K:ZIV)(ns:List Str):dat K 40 (.lst (ns.map .str)):=λx hx=>by obtain⟨z,_,rfl⟩:=List.mem_map.mp hx;trivial
theorem Dy.step{r:Str}{g:Nat}(h:Dy ns r g cs):Dy ns r (cy ns g cs:Nat) (jE ns g cs):=by
 unfold cy jE;cases e:SU ns g cs with
 |none=>exact h
 |some x=>
  have c:x∈Fw ns g cs:=by
   unfold SU at e;exact List.mem_of_mem_head? (by rw[e];rfl)
  obtain⟨a,d⟩:=UU.mp c;have:=List.idxOf_lt_length_iff.mpr a;exact⟨h.rule,by show(0:Int)<=((ns.idxOf x+1:Nat):Int);omega,by show((ns.idxOf x+1:Nat):Int)<=_;omega,ZA x h.up,λy b=>h.sub y (Jt.mp b).1⟩
section
variable[Xw]
theorem fG{t:TT}{k k':Bool->Prop}(h:Wt ss t k')(c:∀b,k' b->k b):Wt ss t k:=⟨λE Z F H Q S q=>h.go E Z F H Q S λb F' H' m a=>q b F' H' m (c b a)⟩
end
structure IJ (m:Nat) (ns:List Str):Prop where
 len:ns.length<=m
 nm:∀x∈ns,Nm x
 nd:ns.Nodup
theorem IJ.done{m:Nat}{d:Af}(h:IJ m ns)(ok:d.Ok m ns):IJ m (d.done ns):=by
 obtain⟨a,b,c⟩:=Af.step ok h.nd h.nm h.len;exact⟨c,b,a⟩
structure Lp where
 r:Str
 g:Nat
 cs:List Str
def Lp.P(l:Lp):PV:=Eh l.r l.g l.cs
noncomputable def GZ(ns:List Str):List Str:=ns.foldr (λx r=>G9 r x) []
theorem Sl{x:Str}:∀{ns:List Str},x∈GZ ns↔x∈ns
 | []=>Iff.rfl
 |y::r=>by
  show x∈G9 (GZ r) y↔_;rw[P0,Sl (ns:=r),HZ]
theorem Y9:∀{ns:List Str},ns.Nodup->Up (GZ ns)
 | [],_=>List.Pairwise.nil
 |y::r,h=>by
  obtain⟨h1,h2⟩:=List.nodup_cons.mp h;exact U4 (Y9 h2) λz=>h1 (Sl.mp z)
theorem kg{ts:List Str}(nd:ns.Nodup)(a:ts.Perm ns)(st:sortedS ts=true):ts=GZ ns:=
 WW (kQ st (a.nodup_iff.mpr nd)) (Y9 nd) λk=>by rw[a.mem_iff,Sl]
def Lp.led(ns:List Str)(d:Af)(l:Lp):Lp:=⟨l.r,d.gap ns l.g,d.Gv l.r l.g l.cs⟩
def Lp.Good(ns:List Str)(l:Lp):Prop:=Dy ns l.r l.g l.cs
theorem mf{k:Nat}(h:k<3):∃r:Str,r∈KN/\L2.Bp [PV.str "none",.str "ahead",.str "all"] (k:Int)=some (.str r):=by
 have:k=0∨k=1∨k=2:=by omega
 rcases this with rfl|rfl|rfl
 .exact⟨_,by decide,rfl⟩
 .exact⟨_,by decide,rfl⟩
 .exact⟨_,by decide,rfl⟩
end Fz
namespace L2
variable{A6:List (List Key×V)}{o:Option V}{u:Value}{v y:V}{w:World}{H H':Hp}{xs:List (List Key×Addr×Value)}{a b:Addr}{X:Cx}{Zy:ZIW}{Z:St}{s:Shared}{A:Around}{E Q:Value->Shared->Prop}{h':Heap}{e value:Expr}{pos:Pos}{td tv ty:TE}
section
variable{κ:Type}[DecidableEq κ]
noncomputable def Dj(A6:List (κ×V))(k:κ):Option V:=(A6.find? λa=>decide (a.1=k)).map (·.2)
def putK(A6:List (κ×V))(k:κ)(v:V):List (κ×V):=
 if(A6.any λa=>decide (a.1=k))=true then A6.map (λa=>if a.1=k then(a.1,v)else a)else A6++[(k,v)]
noncomputable def Jz(A6:List (κ×V))(k:κ):List (κ×V):=A6.filter λa=>decide (a.1≠k)
theorem Q7{p:κ×V}{r:List (κ×V)}{k:κ}(e:p.1=k):Dj (p::r) k=some p.2:=by simp[Dj,Qt,e]
theorem QU{p:κ×V}{r:List (κ×V)}{k:κ}(e:¬ p.1=k):Dj (p::r) k=Dj r k:=by simp[Dj,Qt,e]
theorem UM(k:κ):∀A6:List (κ×V),(A6.any λa=>decide (a.1=k))=(Dj A6 k).isSome
 | []=>rfl
 |p::r=>by
  rw[OF]
  by_cases e:p.1=k
  .simp only[Q7 e,oW e,Bool.true_or,ZHW]
  .rw[QU e,sS e,Bool.false_or];exact UM k r
theorem V9(A6:List (κ×V))(k:κ)(v:V):(putK A6 k v).length<=A6.length+1:=by
 unfold putK;split
 .rw[AL];omega
 .rw[CK,Ca,c5];omega
theorem Pu{A6:List (κ×V)}{k:κ}(v:V)(h:Dj A6 k=none):putK A6 k v=A6++[(k,v)]:=by
 unfold putK;rw[UM,h];exact qP (by decide)
theorem EF.Oj{u:Option Value}(r:EF o u):o.isSome=u.isSome:=by
 cases o with
 |none=>cases u with
  |none=>rfl
  |some _=>exact(show False from r).elim
 |some _=>cases u with
  |none=>exact(show False from r).elim
  |some _=>rfl
theorem KV.val{A6:List (κ×V)}{vs:List (κ×Value)}(r:KV A6 vs)(k:κ):EF (Dj A6 k) (valueAt vs k):=by
 unfold KV at r
 induction r with
 |nil=>exact True.intro
 |@cons p q ps a h t d=>
  obtain⟨h1,h2⟩:=h
  by_cases e:p.1=k
  .have c:q.1=k:=h1.symm.trans e;have b:valueAt (q::a) k=some q.2:=by simp[valueAt,Qt,c]
   rw[Q7 e,b];exact h2
  .have c:¬ q.1=k:=λz=>e (h1.trans z);have b:valueAt (q::a) k=valueAt a k:=by simp[valueAt,Qt,c]
   rw[QU e,b];exact d
theorem KV.any{A6:List (κ×V)}{vs:List (κ×Value)}(r:KV A6 vs)(k:κ):(A6.any λa=>decide (a.1=k))=vs.any λa=>decide (a.1=k):=by
 unfold KV at r
 induction r with
 |nil=>rfl
 |cons h t b=>rw[OF,OF,b,h.1]
theorem KV.Uy{A6:List (κ×V)}{vs:List (κ×Value)}(r:KV A6 vs)(k:κ)(b:RelV y u):
  KV (A6.map λa=>if a.1=k then(a.1,y)else a) (vs.map λa=>if a.1=k then(a.1,u)else a):=by
 unfold KV at r ⊢
 induction r with
 |nil=>exact .nil
 |@cons p q ps d h t c=>
  rw[C8,C8];refine .cons ?_ c;obtain⟨h1,h2⟩:=h
  by_cases e:p.1=k
  .rw[rG e,rG (h1.symm.trans e)];exact⟨h1,b⟩
  .rw[qP e,qP (λz=>e (h1.trans z))];exact⟨h1,h2⟩
theorem KV.put{A6:List (κ×V)}{vs:List (κ×Value)}(r:KV A6 vs)(k:κ)(a:RelV y u):KV (putK A6 k y) (stored vs k u):=by
 unfold putK stored;rw[r.any k]
 by_cases e:(vs.any λb=>decide (b.1=k))=true
 .rw[rG e,rG e];exact r.Uy k a
 .rw[qP e,qP e];exact Paired.snoc r ⟨rfl,a⟩
theorem KV.drop{A6:List (κ×V)}{vs:List (κ×Value)}(r:KV A6 vs)(k:κ):KV (Jz A6 k) (without vs k):=by
 unfold KV at r ⊢;unfold Jz without
 induction r with
 |nil=>exact .nil
 |@cons p q ps f h t c=>
  obtain⟨h1,h2⟩:=h;rw[bu,bu]
  by_cases e:p.1=k
  .have a:¬ decide (p.1≠k)=true:=by simp[e]
   have b:¬ decide (q.1≠k)=true:=by simp[h1.symm.trans e]
   rw[qP a,qP b];exact c
  .have d:¬ q.1=k:=λz=>e (h1.trans z);have a:decide (p.1≠k)=true:=by simp[e]
   have b:decide (q.1≠k)=true:=by simp[d]
   rw[rG a,rG b];exact .cons ⟨h1,h2⟩ c
theorem KV.keys{A6:List (κ×V)}{vs:List (κ×Value)}(r:KV A6 vs):A6.map (·.1)=vs.map (·.1):=by
 unfold KV at r
 induction r with
 |nil=>rfl
 |cons h t a=>rw[C8,C8,a,h.1]
theorem KV.length{A6:List (κ×V)}{vs:List (κ×Value)}(r:KV A6 vs):A6.length=vs.length:=oJ r
theorem ZGb(A6:List (κ×V))(k:κ):(Jz A6 k).length<=A6.length:=OH _ _
end
theorem MN{P:Program}{k:Key}(r:RelV (kV k) u):(CP P w).is k u=true:=by
 cases k with
 |inl i=>obtain⟨t,e⟩:=(show ∃t,u=Value.int i t from r);subst e;exact ZED P w i t
 |inr x=>obtain⟨t,e⟩:=(show ∃t,u=Value.str x t from r);subst e;exact ZAr P w x t
theorem dS{P:Program}{w:World}:∀{ks:List Key}{us:List Value},Vals (ks.map kV) us->ItemsAre (CP P w) ks us
 | [],_,r=>by rw[Ud]at r;cases r;exact .nil
 |k::ks,_,r=>by
  rw[C8]at r;cases r with
  |cons h t=>exact .cons (MN h) (dS t)
abbrev KT(H:Hp):List (List Key×V)->List (List Key×Addr×Value)->Prop:=Paired λp q=>p.1=q.1/\H q.2.1=some (.tup (p.1.map kV))/\RelV p.2 q.2.2
theorem KT.val(r:KT H A6 xs)(k:List Key):EF (Dj A6 k) ((atKey xs k).map (·.2)):=by
 induction r with
 |nil=>exact True.intro
 |@cons p q ps a h t d=>
  obtain⟨h1,_,h2⟩:=h
  by_cases e:p.1=k
  .have c:q.1=k:=h1.symm.trans e;have b:atKey (q::a) k=some q.2:=by simp[atKey,Qt,c]
   rw[Q7 e,b];exact h2
  .have c:¬ q.1=k:=λz=>e (h1.trans z);have b:atKey (q::a) k=atKey a k:=by simp[atKey,Qt,c]
   rw[QU e,b];exact d
theorem KT.Uy(r:KT H A6 xs)(k:List Key)(b:RelV y u):
  KT H (A6.map λa=>if a.1=k then(a.1,y)else a) (xs.map (putAt k u)):=by
 induction r with
 |nil=>exact .nil
 |@cons p q ps f h t c=>
  rw[C8,C8];refine .cons ?_ c;obtain⟨h1,h2,d⟩:=h;unfold putAt
  by_cases e:p.1=k
  .rw[rG e,rG (h1.symm.trans e)];exact⟨h1,h2,b⟩
  .rw[qP e,qP (λz=>e (h1.trans z))];exact⟨h1,h2,d⟩
theorem KT.put(r:KT H A6 xs)(k:List Key)(d:H b=some (.tup (k.map kV)))(a:RelV y u):
  KT H (putK A6 k y) (storedH xs k b u):=by
 have e:(A6.any λc=>decide (c.1=k))=(atKey xs k).isSome:=by
  rw[UM,(r.val k).Oj,cE]
 unfold putK storedH;rw[e]
 by_cases q:(atKey xs k).isSome=true
 .rw[rG q,rG q];exact r.Uy k a
 .rw[qP q,qP q];exact Paired.snoc r ⟨rfl,d,a⟩
theorem KT.keeps(r:KT H A6 xs)(a:∀b ys,H b=some (.tup ys)->H' b=some (.tup ys)):KT H' A6 xs:=
 Paired.VC r λ_ _ z=>⟨z.1,a _ _ z.2.1,z.2.2⟩
section
variable{P:Program}{h:Heap}
theorem iW{u:HO}(ok:Bv P w H h)(e:Rd H a u):CC P w H h a u:=e.ok ok
theorem JB{A6:List (Key×V)}(ok:Bv P w H h)(e:Rd H a (.dK A6)):A6.length<=sizeLine/\(a == sysModules)=false/\∃vs,KV A6 vs/\h.DictOf (CP P w) a vs:=
 show CC P w H h a (.dK A6)from iW ok e
theorem bD{A6:List (Key×V)}(ok:Bv P w H h)(e:H a=some (.dK A6)):A6.length<=sizeLine/\(a == sysModules)=false/\∃vs,KV A6 vs/\h.DictOf (CP P w) a vs:=JB ok (.inl e)
theorem Ob{ks:List Key}(ok:Bv P w H h)(e:H a=some (.tup (ks.map kV))):(tupleKind (CP P w)).is h ks a:=by
 obtain⟨_,A5,r,⟨o,h1,h2,n,b⟩,_⟩:=(show CC P w H h a (.tup (ks.map kV))from ok a _ e);exact⟨o,A5.toArray,n,h1,h2,b,by simpa using dS r⟩
theorem Nu(ok:Bv P w H h)(e:Rd H a (.dT A6)):A6.length<=sizeLine/\(a == sysModules)=false/\
  ∃xs,KT H A6 xs/\h.DictOfH (tupleKind (CP P w)) a xs:=by
 obtain⟨z,y,xs,r,o,es,i,h1,h2,g,f,d⟩:=(show CC P w H h a (.dT A6)from iW ok e);refine⟨z,y,xs,r,o,es,i,h1,h2,g,f,λx hx=>?_,d⟩;have all:∀{l:List (List Key×V)}{m:List (List Key×Addr×Value)},KT H l m->∀x∈m,(tupleKind (CP P w)).is h x.1 x.2.1:=by
  intro l m q
  induction q with
  |nil=>intro x hx;exact nomatch hx
  |@cons p q ps j b t c=>
   intro x hx;rcases List.mem_cons.mp hx with e|hx
   .subst e;exact Ob ok (by rw[<- b.1];exact b.2.1)
   .exact c x hx
 exact all r x hx
theorem uL(ok:Bv P w H h)(e:H a=some (.dT A6)):A6.length<=sizeLine/\(a == sysModules)=false/\
  ∃xs,KT H A6 xs/\h.DictOfH (tupleKind (CP P w)) a xs:=Nu ok (.inl e)
end
def Fm(H:Hp)(a:Addr)(y:V)(r:Option V):Prop:=
 (∃A6 k,Rd H a (.dK A6)/\y=kV k/\r=Dj A6 k)∨∃A6 k b,Rd H a (.dT A6)/\y=.ref b/\H b=some (.tup (k.map kV))/\r=Dj A6 k
def OT(H:Hp)(a:Addr)(y v:V)(H':Hp):Prop:=
 (∃A6 k,H a=some (.dK A6)/\y=kV k/\A6.length<sizeLine/\H'=upd H a (.dK (putK A6 k v)))∨
 ∃A6 k b,H a=some (.dT A6)/\y=.ref b/\H b=some (.tup (k.map kV))/\A6.length<sizeLine/\H'=upd H a (.dT (putK A6 k v))
theorem Fm.k{A6:List (Key×V)}{k:Key}(e:H a=some (.dK A6)):Fm H a (kV k) (Dj A6 k):=.inl ⟨A6,k,.inl e,rfl,rfl⟩
theorem OT.k{A6:List (Key×V)}{k:Key}(e:H a=some (.dK A6))(b:A6.length<sizeLine):OT H a (kV k) v (upd H a (.dK (putK A6 k v))):=.inl ⟨A6,k,e,rfl,b,rfl⟩
section
variable{r:Value}
theorem Inv.big(I:Inv X Zy Z H s):sysModules<s.heap.objs.size:=by
 have h:mainGlobals<s.heap.objs.size:=(I.mod.glob.keeps I.bk).lt;exact oF (by decide) h
theorem rK(i:A.units+1<cLine)(I:Inv X Zy Z H s)(g:Fm H a y (some v))(f:RelV y u)(h:∀c s',Inv X Zy Z H s'->RelV v c->Q c s'):
  wpAny (model X.prog X.w) A (getItem (.ref a) u) Q E s:=by
 rcases g with⟨A6,k,e,d,l⟩|⟨A6,k,b,e,d,n,l⟩
 .subst d;obtain⟨z,hd,vs,rel,dd⟩:=JB I.AJ e;obtain⟨c,hw,G5⟩:=EF.some_of (v:=v) (o:=valueAt vs k) (by rw[l];exact rel.val k);exact wpAny_getItem_of (MN f) dd.mapOf hw (h c _ (I.tok _) G5)
 .subst d;cases(show u=Value.ref b from f);obtain⟨z,hd,xs,rel,dd⟩:=Nu I.AJ e;obtain⟨c,hw,G5⟩:=EF.some_of (v:=v) (o:=(atKey xs k).map (·.2)) (by rw[l];exact rel.val k)
  obtain⟨p,j,m⟩:=Option.map_eq_some_iff.mp hw;refine wpAny_getItem_heap (yY i) (Ob I.AJ n) dd j ?_;rw[m];exact h c _ (I.tok _) G5
theorem ZBD(f:A.units+1<cLine)(I:Inv X Zy Z H s)(g:Fm H a y o)(d:RelV y u)(h:∀s',Inv X Zy Z H s'->Q (.bool o.isSome) s'):
  wpAny (model X.prog X.w) A (compareOp .In u (.ref a)) Q E s:=by
 rcases g with⟨A6,k,e,c,l⟩|⟨A6,k,b,e,c,i,l⟩
 .subst c;obtain⟨z,hd,vs,rel,dd⟩:=JB I.AJ e;refine wpAny_in_of (MN d) hd dd.mapOf ?_;rw[<- (rel.val k).Oj,<- l];exact h _ (I.tok _)
 .subst c;cases(show u=Value.ref b from d);obtain⟨z,hd,xs,rel,dd⟩:=Nu I.AJ e;refine wpAny_in_heap (yY f) (Ob I.AJ i) hd dd ?_;have q:=(rel.val k).Oj;rw[cE]at q;rw[<- q,<- l];exact h _ (I.tok _)
theorem ph(f:A.units+1<cLine)(I:Inv X Zy Z H s)(g:Fm H a y o)(d:RelV y u)(h:∀s',Inv X Zy Z H s'->Q (.bool (!o.isSome)) s'):
  wpAny (model X.prog X.w) A (compareOp .NotIn u (.ref a)) Q E s:=by
 rcases g with⟨A6,k,e,c,l⟩|⟨A6,k,b,e,c,i,l⟩
 .subst c;obtain⟨z,hd,vs,rel,dd⟩:=JB I.AJ e;refine wpAny_notIn_of (MN d) hd dd.mapOf ?_;rw[<- (rel.val k).Oj,<- l];exact h _ (I.tok _)
 .subst c;cases(show u=Value.ref b from d);obtain⟨z,hd,xs,rel,dd⟩:=Nu I.AJ e;refine wpAny_notIn_heap (yY f) (Ob I.AJ i) hd dd ?_;have q:=(rel.val k).Oj;rw[cE]at q;rw[<- q,<- l];exact h _ (I.tok _)
theorem SM{t':Nat}{ob:HO}(I:Inv X Zy Z H s)(d:Nd (H a))(f:Heap.SameBut a s.heap h')(g:∃q,h'.get? a=some q)(c:CC X.prog X.w (upd H a ob) h' a ob):
  Inv X Zy Z (upd H a ob) { s with heap:=h',toks:=t' }:=
 I.write (x:=a) (e:=a) d (.inl rfl) (λb q h z=>(f.2 b h).trans z) g c
theorem WA{P:Program}{A6:List (Key×V)}{vs:List (Key×Value)}(z:A6.length<=sizeLine)(hd:(a == sysModules)=false)(rel:KV A6 vs)(dd:h'.DictOf (CP P w) a vs):
  CC P w H' h' a (.dK A6):=⟨z,hd,vs,rel,dd⟩
theorem ZG2{Q:Unit->Shared->Prop}(B:A.units+1<cLine)(I:Inv X Zy Z H s)(g:OT H a y v H')(o:RelV y u)(p:RelV v r)(h:∀s',Inv X Zy Z H' s'->Q () s'):
  wpAny (model X.prog X.w) A (setItem (.ref a) u r) Q E s:=by
 rcases g with⟨A6,k,e,m,l,n⟩|⟨A6,k,b,e,m,x,l,n⟩
 .subst m n;obtain⟨z,hd,vs,rel,dd⟩:=bD I.AJ e;have f:vs.length<=sizeLine:=by rw[<- rel.length];exact z
  have j:(putK A6 k v).length<=sizeLine:=by have:=V9 A6 k v;omega
  refine wpAny_setItem_pairs (hsz:=f) (MN o) dd λh' Iw i=>h _ ?_;have C:∃q,h'.get? a=some q:=let ⟨q,_,_,d,_⟩:=Iw;⟨q,d⟩;exact SM I (by rw[e];exact True.intro) i C (WA j hd (rel.put k p) Iw)
 .subst m n;cases(show u=Value.ref b from o);obtain⟨z,hd,xs,rel,dd⟩:=uL I.AJ e;have f:xs.length<=sizeLine:=by rw[<- oJ rel];exact z
  have j:(putK A6 k v).length<=sizeLine:=by have:=V9 A6 k v;omega
  refine wpAny_setItem_heap (hsz:=f) (yY B) (Ob I.AJ x) dd λh' Iw i=>h _ ?_;obtain⟨q,es,J,d,h2,G,F,_,D⟩:=Iw;refine SM I (by rw[e];exact True.intro) i ⟨q,d⟩ ⟨j,hd,_,(rel.put k x p).keeps λc ys t=>?_,q,es,J,d,h2,G,F,D⟩;rw[AY (tJ t e (λz=>nomatch z))];exact t
variable{A6:List (Key×V)}{k:Key}
theorem rZ{more:List Value}(I:Inv X Zy Z H s)(e:H a=some (.dK A6))(c:RelV (kV k) u)(l:Dj A6 k=some v)(d:more=[]∨∃x,more=[x])
  (h:∀b s',Inv X Zy Z (upd H a (.dK (Jz A6 k))) s'->RelV v b->Q b s'):wpAny (model X.prog X.w) A (call (.builtin "dict.pop") (.ref a::u::more)) Q E s:=by
 obtain⟨z,hd,vs,rel,dd⟩:=bD I.AJ e;obtain⟨b,hw,G5⟩:=EF.some_of (v:=v) (o:=valueAt vs k) (by rw[<- l];exact rel.val k);have g:(keyPart u).isSome=true:=by
  cases k with
  |inl i=>obtain⟨t,q⟩:=(show ∃t,u=Value.int i t from c);subst q;rfl
  |inr x=>obtain⟨t,q⟩:=(show ∃t,u=Value.str x t from c);subst q;rfl
 have m:argsOk "dict.pop" ⟨.ref a::u::more,[]⟩:=by
  rcases d with q|⟨x,q⟩
  .subst q;exact PySem.F.args_dict_pop_2 _ _
  .subst q;exact PySem.F.args_dict_pop_3 _ _ _
 refine call_meetsIn ZHY dd.typeIs PySem.F.entry_dict_pop m (meets_dict_pop_there (CP X.prog X.w) a (MN c) more d g)
  ⟨vs,b,dd,by rw[<- rel.length];exact z,hw,λh' Iw f=>h b _ ?_ G5⟩
 have j:∃q,h'.get? a=some q:=let ⟨q,_,_,hq,_⟩:=Iw;⟨q,hq⟩;exact SM I (by rw[e];exact True.intro) f j (WA (Bg (ZGb A6 k) z) hd (rel.drop k) Iw)
theorem ZCK(I:Inv X Zy Z H s)(e:Rd H a (.dK A6))(h:∀t s',Inv X Zy Z H s'->Q (.int A6.length t) s'):wpAny (model X.prog X.w) A (call (.builtin "len") [.ref a]) Q E s:=by
 obtain⟨z,hd,vs,rel,dd⟩:=JB I.AJ e;refine call_len_dict hd dd (by rw[<- rel.length];rw[ZAz]at z;omega) ?_;rw[<- rel.length];exact h _ _ (I.tok _)
end
def Z9(i:Expr):Prop:=∀a b,subscripted i false a b=operate [a,b] (getItem a b)
theorem ZD2{prog:Program}{env:Env}{a:Expr}{T id:String}
  (m:typeLookup (.type T) "__getitem__"=pure (some (.builtin id))) (l:Z9 a)
  (h:wpAny (model prog w) A (eval value env) (λo f=>wpAny (model prog w) A (eval a env) (λi c=>c.TypeIs o T/\wpAny (model prog w) A (getItem o i) Q E c) E f) E s) :
  wpAny (model prog w) A (eval (.Subscript value a pos) env) Q E s:=by
 refine Subscript_ (tN h (λo f k=>tN k (λi c d=>?_) λ_ _ x=>x) λ_ _ x=>x);obtain⟨g,d⟩:=d;unfold subscriptTail;refine oS ?_;rw[getitemInPython_of_ne g.not_modules];refine oS (yR g m ?_);have b:wpAny (model prog w) A (subscripted a false o i) (λr e=>wpAny (model prog w) A (letTemporaryGo value o r >>= λ_=>pure r) Q E e) E c:=by
  rw[l o i];exact wpAny_operating (tN d (λr e j=>oS (wpAny_letTemporaryGo (qh j))) λ_ _ x=>x)
 first
  |exact qh (oS b)
  |exact oS (qh (oS b))
  |exact oS b
theorem zB(I:Inv X Zy Z H s)(g:Fm H a y o):s.TypeIs (.ref a) "dict" := by
 rcases g with⟨A6,k,e,_,_⟩|⟨A6,k,b,e,_,_,_⟩
 .obtain⟨_,_,vs,_,dd⟩:=JB I.AJ e;exact dd.typeIs
 .obtain⟨_,_,xs,_,dd⟩:=Nu I.AJ e;exact dd.typeIs
def KD(td ty:TE):TE:=λZ H Q=>td Z H λx H1=>ty Z H1 λy H2=>∃a v,x=.ref a/\Fm H2 a y (some v)/\Q v H2
def Z7(ty td:TE):TE:=λZ H Q=>ty Z H λy H1=>td Z H1 λx H2=>∃a o,x=.ref a/\Fm H2 a y o/\Q (.bl o.isSome) H2
def RW(ty td:TE):TE:=λZ H Q=>ty Z H λy H1=>td Z H1 λx H2=>∃a o,x=.ref a/\Fm H2 a y o/\Q (.bl (!o.isSome)) H2
def Sh(td ty tv:TE):TS:=λD Z H=>tv Z H λv H1=>td Z H1 λx H2=>ty Z H2 λy H3=>∃a H4,x=.ref a/\OT H3 a y v H4/\D.nx Z H4
section
variable{o i:Expr}{pos' Qo:Pos}
theorem qN(j:X.A.units+1<cLine)(hi:PE X i ty)(ho:PE X o td):PC X .In i o (Z7 ty td):=by
 intro Zy s Z H Q I h;refine AQ (hi Zy s Z H _ I h) λl s1⟨y,H1,I1,b,e⟩=>AQ (ho Zy s1 Z H1 _ I1 e) λu s2⟨x,H2,I2,c,a,f,ex,g,d⟩=>?_;subst ex;obtain rfl:u=Value.ref a:=c;exact ZBD j I2 g b λk I3=>⟨.bl f.isSome,H2,I3,rfl,d⟩
theorem ZGk(j:X.A.units+1<cLine)(hi:PE X i ty)(ho:PE X o td):PC X .NotIn i o (RW ty td):=by
 intro Zy s Z H Q I h;refine AQ (hi Zy s Z H _ I h) λl s1⟨y,H1,I1,b,e⟩=>AQ (ho Zy s1 Z H1 _ I1 e) λu s2⟨x,H2,I2,c,a,f,ex,g,d⟩=>?_;subst ex;obtain rfl:u=Value.ref a:=c;exact ph j I2 g b λk I3=>⟨.bl (!f.isSome),H2,I3,rfl,d⟩
end
theorem jt{P:Program}(h:Heap)(a:sysModules<h.objs.size):CC P w H (h.push { cls:=.type "dict", data:=.dict #[] }) h.objs.size (.dK []):=
 ⟨Cn _,beq_eq_false_iff_ne.mpr (BN (Bn a)),[],.nil,Heap.DictOf.new h⟩
def W4:TE:=λ_ H Q=>∀p,H p=none->Q (.ref p) (upd H p (.dK []))
def YF:List (TE×TE)->St->Hp->(List (V×V)->Hp->Prop)->Prop
 | [],_,H,Q=>Q [] H
 | (tk,tv)::r,Z,H,Q=>tk Z H λx H1=>tv Z H1 λy H2=>YF r Z H2 λps H3=>Q ((x,y)::ps) H3
abbrev VV:List (V×V)->List (Value×Value)->Prop:=Paired λp q=>RelV p.1 q.1/\RelV p.2 q.2
def KO(X:Cx)(pos:Pos)(keys:List (Option Expr))(values:List Expr)(FV:List (TE×TE)):Prop:=
 ∀(Zy:ZIW)(s:Shared)(Z:St)(H:Hp)(Q:List (V×V)->Hp->Prop),Inv X Zy Z H s->YF FV Z H Q->
  wpAny (model X.prog X.w) X.A (evalPairs (pairTrees keys values X.env pos)) (λvs s'=>∃ps H',Inv X Zy Z H' s'/\VV ps vs/\Q ps H') X.xe s
theorem ZB6:KO X pos [] [] []:=λZy s Z H Q I h=>pairTrees_nil_walk ⟨[],H,I,.nil,h⟩
theorem oY{k v:Expr}{ks:List (Option Expr)}{vs:List Expr}{tk:TE}{FV:List (TE×TE)}(i:PE X k tk)(f:PE X v tv)(g:KO X pos ks vs FV):
  KO X pos (some k::ks) (v::vs) ((tk,tv)::FV):=λZy s Z H Q I h=>
 pairTrees_cons_walk (AQ (i Zy s Z H _ I h) λu s1⟨x,H1,I1,b,e⟩=>AQ (f Zy s1 Z H1 _ I1 e) λj s2⟨y,H2,I2,a,d⟩=>
  AQ (g Zy s2 Z H2 _ I2 d) λws l⟨ps,H3,I3,rel,c⟩=>⟨(x,y)::ps,H3,I3,.cons ⟨b,a⟩ rel,c⟩)
def L4(A6 more:List (Key×V)):List (Key×V):=more.foldl (λacc a=>putK acc a.1 a.2) A6
theorem KV.merge:∀{more:List (Key×V)}{rs:List (Key×Value)}{A6:List (Key×V)}{vs:List (Key×Value)},KV more rs->KV A6 vs->KV (L4 A6 more) (merged vs rs):=by
 intro more rs A6 vs r;unfold KV at r
 induction r generalizing A6 vs with
 |nil=>intro q;exact q
 |@cons p q ps c h t b=>
  intro a;have e:KV (putK A6 p.1 p.2) (stored vs q.1 q.2):=by
   have:=a.put p.1 h.2;rw[<- h.1];exact this
  exact b e
theorem fi:∀(more A6:List (Key×V)),(L4 A6 more).length<=A6.length+more.length
 | [],A6=>by show A6.length<=A6.length+0;omega
 |p::r,A6=>by
  have h1:=fi r (putK A6 p.1 p.2);have h2:=V9 A6 p.1 p.2;show(L4 (putK A6 p.1 p.2) r).length<=_;rw[Ca];omega
theorem l9{P:Program}{w:World}:∀{A6:List (Key×V)}{ws:List (Value×Value)},VV (A6.map λd=>(kV d.1,d.2)) ws->∃rs,Carries (CP P w) ws rs/\KV A6 rs
 | [],_,r=>by rw[Ud]at r;cases r;exact⟨[],True.intro,.nil⟩
 |p::A6,_,r=>by
  rw[C8]at r;cases r with
  |@cons a b as bs h t=>
   obtain⟨rs,c,q⟩:=l9 (P:=P) (w:=w) t;obtain⟨f,e⟩:=b;exact⟨(p.1,e)::rs,⟨MN h.1,rfl,c⟩,.cons ⟨rfl,h.2⟩ q⟩
def aH(FV:List (TE×TE)):TE:=λZ H Q=>∀p,H p=none->YF FV Z (upd H p (.dK [])) λps H2=>H2 p=some (.dK [])/\∃A6:List (Key×V),ps=A6.map (λa=>(kV a.1,a.2))/\A6.length<=15/\Q (.ref p) (upd H2 p (.dK (L4 [] A6)))
structure M1 (X:Cx) (o:Expr) (m:Str) (apos:Pos) (e:Expr) (Bd:Pos):Prop where
 base:attributeBase o m X.env (eval o X.env)=eval o X.env
 few:((backTo Bd (starEach [e] X.env)).all (λx=>!x.1) && (backToKw Bd (keywordEach [] X.env)).all (λx=>x.1.isSome)
  && decide (([e]:List Expr).length+([]:List Keyword).length+(if([]:List Keyword).isEmpty then 0 else 1)<30))=true
 line:(apos.endLine == Bd.line)=true
 trees:backTo Bd (starEach [e] X.env)=[(false,eval e X.env)]
def dk(H:Hp)(a:Addr):Prop:=(∃A6,Rd H a (.dK A6))∨∃A6,Rd H a (.dT A6)
theorem qV(I:Inv X Zy Z H s)(d:dk H a):
  s.TypeIs (.ref a) "dict" /\ (∀b,Value.ref a=.ref b->∃ob,s.heap.get? b=some ob/\ob.dict=none)/\(a == sysModules)=false:=by
 rcases d with⟨A6,e⟩|⟨A6,e⟩
 .obtain⟨_,hd,vs,_,dd⟩:=JB I.AJ e;refine⟨dd.typeIs,λb q=>?_,hd⟩;cases q;obtain⟨ob,_,_,h1,h2,_⟩:=dd;exact⟨ob,h1,h2.2.1⟩
 .obtain⟨_,hd,xs,_,dd⟩:=Nu I.AJ e;refine⟨dd.typeIs,λb q=>?_,hd⟩;cases q;obtain⟨ob,_,_,h1,h2,_⟩:=dd;exact⟨ob,h1,h2.2.1⟩
def Wc(td ty:TE):TE:=λZ H Q=>td Z H λx H1=>∃a,x=.ref a/\dk H1 a/\ty Z H1 λy H2=>∃A6 k v,H2 a=some (.dK A6)/\y=kV k/\Dj A6 k=some v/\Q v (upd H2 a (.dK (Jz A6 k)))
end L2
namespace Fz
open L2 Lw
variable{l ss:List Slot}{F F' H H':Hp}{Z:L2.St}{i j n:Nat}{t t' u:OV}{E:Ent0}{vs:List V}{nk:NK}{a0:Addr}{us:List OV}{te:TE}{pre:Pre}{c:TT}{Q:VK}{X:XK}
def C2(pre:Pre):Sp:=λvs H Q _=>∃(ss:List Slot)(R:Aq)(F:Hp)(A B:List Addr),pre ss R/\Sg ⟨A,F,H,B⟩ ss (vs.map some) F H/\∀v F' H',Fin ⟨A,F,H,B⟩ F' H'->R.ok ⟨A,F,H,B⟩ F' H' v->Q v H'
inductive Je (F:Hp):List V->List Slot->Prop where
 |nil:Je F [] []
 |cons {v:V}{p:PV}{vs:List V}{l:List Slot}:Rep F v p->Je F vs l->Je F (v::vs) (.is p::l)
inductive JU (Z:L2.St) (F:Hp) (i:Nat) (t:OV):List V->List Slot->Prop where
 |here {v:V}{vs:List V}{l:List Slot}:Z[i]?=some (some v)->Je F vs l->JU Z F i t (v::vs) (.ow true t::l)
 |there {v:V}{p:PV}{vs:List V}{l:List Slot}:Rep F v p->JU Z F i t vs l->JU Z F i t (v::vs) (.is p::l)
theorem Je.len:∀{vs:List V}{l:List Slot},Je F vs l->l.length=vs.length:=by
 intro vs l h
 induction h with
 |nil=>rfl
 |cons _ _ a=>rw[Ca,Ca,a]
theorem JU.len:∀{vs:List V}{l:List Slot},JU Z F i t vs l->l.length=vs.length:=by
 intro vs l h
 induction h with
 |here _ r=>rw[Ca,Ca,r.len]
 |there _ _ a=>rw[Ca,Ca,a]
theorem Je.at:∀{vs:List V}{l:List Slot},Je F vs l->∀{n:Nat}{s:Slot},l[n]?=some s->∃v p,vs[n]?=some v/\s=.is p/\Rep F v p:=by
 intro vs l h
 induction h with
 |nil=>intro n s e;rw[List.getElem?_nil]at e;cases e
 |cons r _ a=>
  intro n s e;cases n with
  |zero=>cases(show some _=some s from e);exact⟨_,_,rfl,rfl,r⟩
  |succ n=>exact a (n:=n) e
theorem JU.at:∀{vs:List V}{l:List Slot},JU Z F i t vs l->∃m:Nat,∀{n:Nat}{s:Slot},l[n]?=some s->(n=m/\s=.ow true t/\∃v,vs[n]?=some v/\Z[i]?=some (some v))∨∃v p,vs[n]?=some v/\s=.is p/\Rep F v p:=by
 intro vs l h
 induction h with
 |here e r=>
  refine⟨0,λ{n s}h=>?_⟩;cases n with
  |zero=>cases(show some _=some s from h);exact .inl ⟨rfl,rfl,_,rfl,e⟩
  |succ n=>exact .inr (r.at (n:=n) h)
 |there r _ b=>
  obtain⟨m,c⟩:=b;refine⟨m+1,λ{n s}q=>?_⟩;cases n with
  |zero=>cases(show some _=some s from q);exact .inr ⟨_,_,rfl,rfl,r⟩
  |succ n=>
   rcases c (n:=n) (s:=s) q with⟨e,es,a⟩|a
   .exact .inl ⟨tq Nat.succ e,es,a⟩
   .exact .inr a
structure PK (E:Ent0) (ss:List Slot) (Z:L2.St) (i:Nat) (lt:Bool) (t t':OV) (F H F' H':Hp):Prop where
 st:Sg E (ss.set i (.ow lt t')) Z F' H'
 ff:AB F F'
 hh:∀a o,Cw ss Z a->a∉t.addrs->H a=some o->H' a=some o
 nn:∀a o,F' a=some o->F a=some o∨H a=none
structure Mo [Xw] (ss:List Slot) (ta:TA) (k:List Slot->Prop):Prop where
 go:∀(E:Ent)(Z:L2.St)(F H:Hp)(Q:List V->Hp->Prop),Sg E ss Z F H->(∀vs l F' H',Mv E ss Z F H F' H'->Je F' vs l->k l->Q vs H')->ta Z H Q
structure jd [Xw] (ss:List Slot) (i:Nat) (t:OV) (ta:TA) (k:List Slot->Prop):Prop where
 go:∀(E:Ent)(Z:L2.St)(F H:Hp)(Q:List V->Hp->Prop),Sg E ss Z F H->(∀vs l F' H',Mv E ss Z F H F' H'->JU Z F' i t vs l->k l->Q vs H')->ta Z H Q
structure Wm [Xw] (ss:List Slot) (i:Nat) (lt:Bool) (t:OV) (te:TE) (k:PV->OV->Prop):Prop where
 go:∀(E:Ent)(Z:L2.St)(F H:Hp)(Q:VK),Sg E ss Z F H->(∀v p t' F' H',PK E ss Z i lt t t' F H F' H'->Rep F' v p->k p t'->Q v H')->te Z H Q
structure Qe [Xw] (ss:List Slot) (i:Nat) (lt:Bool) (t:OV) (c:TT) (k:Bool->OV->Prop):Prop where
 go:∀(E:Ent)(Z:L2.St)(F H:Hp)(Q:Bool->Hp->Prop),Sg E ss Z F H->(∀b t' F' H',PK E ss Z i lt t t' F H F' H'->k b t'->Q b H')->c Z H Q
theorem Sg.X2{lt:Bool}(S:Sg E ss Z F H)(hi:ss[i]?=some (.ow lt t))(a:JU Z F i t vs l):Sg ⟨[],F,H,t.addrs⟩ l (vs.map some) F H:=by
 obtain⟨q,e0,c,DE,g⟩:=S.ok i _ hi;have nn:∀{p:Prop}(a:Addr),a∈([]:List Addr)->p:=λa h=>absurd h BB;obtain⟨m,f⟩:=a.at;refine⟨⟨S.fh,AB.refl _,λ_ _ _ e=>e,λ_ _ e=>.inl e,λa h=>nn a h,λa h=>nn a h,λa h=>nn a h,λa h=>(g a h).1,λa h=>c.there a h,λa h=>⟨c.there a h,BB⟩⟩,by rw[AL];exact a.len,λn s hn=>?_,λn j s u b w hn y ms x=>?_⟩
 .rcases f hn with⟨_,rfl,v,d,o⟩|⟨v,p,d,rfl,r⟩
  .rw[Bc,d];rw[e0]at o;cases o;exact⟨q,rfl,c,DE,λa k=>⟨(g a k).1,.inr ⟨rfl,k⟩⟩⟩
  .rw[Bc,d];exact⟨v,rfl,r⟩
 .rcases f hn with⟨A,rfl,_⟩|⟨_,_,_,rfl,_⟩
  .rcases f y with⟨z,rfl,_⟩|⟨_,_,_,rfl,_⟩
   .exact w (A.trans z.symm)
   .cases x
  .cases ms
theorem Sg.VP{lt:Bool}{EW:NK}{us':List OV}(S:Sg E ss Z F H)(hi:ss[i]?=some (.ow lt (.nd nk a0 us)))(f:Fin ⟨[],F,H,(OV.nd nk a0 us).addrs⟩ F' H')(r:BI F' H' (.ref a0) (.nd EW a0 us'))(nd:(OV.nd EW a0 us').addrs.Nodup)(q:∀a∈(OV.nd EW a0 us').addrs,F' a=none/\(H a=none∨a∈(OV.nd nk a0 us).addrs)):
  PK E ss Z i lt (.nd nk a0 us) (.nd EW a0 us') F H F' H':=by
 obtain⟨J,e0,K,DE,w⟩:=S.ok i _ hi;have N:J=.ref a0:=by cases K;rfl
 subst N;have G:i<ss.length:=(List.getElem?_eq_some_iff.mp hi).1;have kp:∀a o,a∉(OV.nd nk a0 us).addrs->H a=some o->H' a=some o:=λa o n e=>f.keep a o ⟨BB,n⟩ e;have CA:∀a,H a≠none->F a=none->F' a=none:=λa h1 h2=>by
  cases e:F' a with
  |none=>rfl
  |some o=>
   rcases f.fresh a o e with z|z
   .rw[show F a=some o from z]at h2;cases h2
   .exact absurd z h1
 have I:∀a,a∈E.A->a∉(OV.nd nk a0 us).addrs:=λa h m=>by
  rcases(w a m).2 with z|⟨_,z⟩
  .exact S.a0 a h z
  .exact(S.b0 a z).2 h
 have d:∀(j:Nat)s,j≠i->ss[j]?=some s->∀a,Be s Z[j]? a->a∉(OV.nd nk a0 us).addrs:=λj s g t a ho m=>S.CG j i s _ a g t hi ho m;refine⟨⟨⟨f.fh,S.f0.trans f.f0,λa o h e=>?_,λa o e=>?_,λa h=>?_,λa h=>?_,S.a0,λa v=>?_,λa v=>?_,S.b0⟩,by rw[Jl];exact S.len,λj s g=>?_,λj k s u b Tc g B ms x=>?_⟩,f.f0,λa o _ n e=>kp a o n e,λa o e=>f.fresh a o e⟩
 .refine kp a o (λm=>?_) (S.keep a o h e);rcases(w a m).2 with z|⟨_,z⟩
  .rw[e]at z;cases z
  .exact h.2 z
 .rcases f.fresh a o e with z|z
  .exact S.fresh a o z
  .exact .inr (S.EK z)
 .exact Bz.keep (S.Gm a h) λo e=>kp a o (I a h) e
 .obtain⟨_,_,p,_⟩:=S.Gm a h;exact CA a (by rw[p];simp) (S.La a h)
 .exact CA a (S.bH a v) (S.bF a v)
 .by_cases m:a∈(OV.nd nk a0 us).addrs
  .exact f.bH a m
  .intro z;cases e:H a with
   |none=>exact S.bH a v e
   |some o=>rw[kp a o m e]at z;cases z
 .by_cases c:j=i
  .subst c;rw[Cm G]at g;cases g;refine⟨.ref a0,e0,r,nd,λa C=>⟨(q a C).1,?_⟩⟩;rcases(q a C).2 with z|z
   .exact .inl (S.EK z)
   .exact(w a z).2
  .rw[CJ (BN c)]at g
   by_cases np:s=.AV
   .subst np;obtain⟨l,e,M,L,pt⟩:=S.ok j _ g;obtain⟨_,_,p,_⟩:=id pt;exact⟨l,e,CA l (by rw[p];simp) M,L,Bz.keep pt λo z=>kp l o (d j _ c g l e) z⟩
   .exact Ok.go S g f.f0 (λa o ho e=>kp a o (d j s c g a ho) e) CA np
 .have at_:∀(n:Nat)s,(ss.set i (.ow lt (.nd EW a0 us')))[n]?=some s->(n=i/\s=.ow lt (.nd EW a0 us'))∨(n≠i/\ss[n]?=some s):=λn s hn=>by
   by_cases c:n=i
   .subst c;rw[Cm G]at hn;exact .inl ⟨rfl,(Bo hn).symm⟩
   .rw[CJ (BN c)]at hn;exact .inr ⟨c,hn⟩
  have y:∀(n:Nat)s,n≠i->ss[n]?=some s->Be s Z[n]? b->b∉(OV.nd EW a0 us').addrs:=λn s hn t ho m=>by
   rcases(q b m).2 with z|z
   .exact S.Eb t ho z
   .exact d n s hn t b ho z
  rcases at_ j s g with⟨p,rfl⟩|⟨n1,h1⟩
  .rcases at_ k u B with⟨D,rfl⟩|⟨n2,h2⟩
   .exact Tc (p.trans D.symm)
   .exact y k u n2 h2 x ms
  .rcases at_ k u B with⟨D,rfl⟩|⟨n2,h2⟩
   .exact y j s n1 h1 ms x
   .exact S.CG j k s u b Tc h1 h2 ms x
section
variable[Xw]
variable{ta:TA}{lt:Bool}{nx:List Slot->Prop}{R:Aq}
theorem GJ{k:List Slot->Prop}(h:k []):Mo ss BR k:=⟨λE Z F H Q S q=>q [] [] F H (Mv.refl S) .nil h⟩
theorem Dw{k:List Slot->Prop}(h:Wp ss te λp=>Mo ss ta λl=>k (.is p::l)):Mo ss (Al te ta) k:=⟨λE Z F H Q S q=>
 h.go E Z F H _ S λv p F1 H1 c r h2=>h2.go E Z F1 H1 _ c.st λvs l F2 H2 b a kk=>q _ _ F2 H2 (c.trans b) (.cons (r.mono b.ff) a) kk⟩
theorem Q3{k:List Slot->Prop}(hi:ss[i]?=some (.ow lt t))(h:Mo ss ta λl=>k (.ow true t::l)):jd ss i t (Al (BS i) ta) k:=⟨λE Z F H Q S q=>by
 obtain⟨c,e0,_⟩:=S.ok i _ hi;exact⟨_,e0,h.go E Z F H _ S λvs l F2 H2 b a kk=>q _ _ F2 H2 b (.here e0 a) kk⟩⟩
theorem Mv.i8{F1 H1 F2 H2:Hp}(hi:ss[i]?=some (.ow lt t))(a:Mv E ss Z F H F1 H1)(b:PK E ss Z i lt t t' F1 H1 F2 H2):PK E ss Z i lt t t' F H F2 H2:=
 ⟨b.st,a.ff.trans b.ff,λc o n z e=>b.hh c o n z (a.hh c o n e),λc o e=>(b.nn c o e).elim (λe=>a.nn c o e) λe=>.inr (a.none e)⟩
theorem Ox{k:PV->OV->Prop}(hi:ss[i]?=some (.ow lt (.nd nk a0 us)))(h:jd ss i (.nd nk a0 us) ta λl=>∃k',pre l (.mt k')/\∀p t',k' p t'->∃EW us',t'=.nd EW a0 us'/\k p t'):Wm ss i lt (.nd nk a0 us) (Dg (C2 pre) [] E0 ta) k:=⟨λE Z F H Q S q=>
 h.go E Z F H _ S λvs l F1 H1 b a⟨k',e,kk⟩=>by
  rw[G0];refine⟨l,.mt k',F1,[],(OV.nd nk a0 us).addrs,e,b.st.X2 hi a,λv F' H' f⟨p,t',r,c,nd,d,kp⟩=>?_⟩;obtain⟨EW,us',rfl,k2⟩:=kk p t' kp;exact q v p _ F' H' (b.i8 hi (b.st.VP hi f c nd d)) r k2⟩
theorem eW{k:Bool->OV->Prop}(h:Wm ss i lt t te λp t'=>∃c,p=.bl c/\k c t'):Qe ss i lt t (tB te) k:=⟨λE Z F H Q S q=>
 h.go E Z F H _ S λv p t' F1 H1 a r AH=>by
  obtain⟨c,e,kk⟩:=AH;subst e;cases r.inv;exact⟨c,rfl,q c t' F1 H1 a kk⟩⟩
theorem cK{k:Bool->OV->Prop}(h:Qe ss i lt t c λb t'=>k (!b) t'):Qe ss i lt t (TY c) k:=⟨λE Z F H Q S q=>
 h.go E Z F H _ S λb t' F1 H1 a kk=>q (!b) t' F1 H1 a kk⟩
theorem ZEI{u v:TS}(h:Qe ss i lt t c λb t'=>if b=true then Ws (ss.set i (.ow lt t')) u nx R else Ws (ss.set i (.ow lt t')) v nx R):Ws ss (NS c u v) nx R:=⟨λE D Z F H S hn d=>
 h.go E Z F H _ S λb t' F1 H1 a kk=>by
  cases b with
  |true=>rw[rG rfl]at kk;exact kk.go E D Z F1 H1 a.st (λAN σ' F' H' n S' s=>hn AN σ' F' H' n S' (a.ff.trans s)) d
  |false=>rw[qP (by decide)]at kk;exact kk.go E D Z F1 H1 a.st (λAN σ' F' H' n S' s=>hn AN σ' F' H' n S' (a.ff.trans s)) d⟩
theorem Vc(h:Wm ss i lt t te λ_ t'=>nx (ss.set i (.ow lt t'))):Ws ss (Kt te) nx R:=⟨λE D Z F H S hn b=>
 h.go E Z F H _ S λv p t' F1 H1 a r kk=>hn _ Z F1 H1 kk a.st a.ff⟩
theorem Dv{k:PV->OV->Prop}(hi:ss[i]?=some (.ow lt (.nd nk a0 us)))(h:Wp ss te λp=>k p (.nd nk a0 us)):Ws ss (Gf te) nx (.mt k):=⟨λE D Z F H S hn g=>
 h.go E Z F H _ S λv p F1 H1 d r kk=>by
  obtain⟨f,e0,b,DE,c⟩:=d.st.ok i _ hi;have j:f=.ref a0:=by cases b;rfl
  subst j;exact g v F1 H1 d.st.toFin ⟨p,.nd nk a0 us,r,b,DE,λa e=>⟨(c a e).1,(c a e).2.imp id λz=>z.2⟩,kk⟩⟩
end
theorem Jp{N:List Str}{t:TS}(h:C2 pre vs H Q X)(b:∀ss R,pre ss R->ss.length=n)
  (hw:∀ss R,pre ss R->Ws (ss++List.replicate (N.length - n) .any) t (λ_=>False) R):t { nx:=λ_ H'=>Q .A8 H',rt:=Q } (L2.start N vs) H:=by
 obtain⟨ss,R,F,A,B,a,S,q⟩:=h;have e:vs.length=n:=by have:=S.len;rw[AL]at this;rw[<- this];exact b ss R a
 unfold L2.start;rw[e];exact(hw ss R a).go (T7 ⟨A,F,H,B⟩) _ _ F H (S.grown _) (λAN σ' F' H' z S' _=>z.elim) λv F' H' f ok=>q v F' H' f ok
theorem Gw(b:∀ss R,pre ss R->ss.length=n)(h:C2 pre vs H Q X):vs.length=n:=by
 obtain⟨ss,R,F,A,B,a,S,q⟩:=h;have:=S.len;rw[AL]at this;rw[<- this];exact b ss R a
theorem Sg.jC(S:Sg E ss Z F H)(c:ss[j]?=some (.ow false u)):Sg E (ss.set j (.is u.pv)) Z (CD F H u.addrs) H/\AB F (CD F H u.addrs):=by
 obtain⟨v,e,r,nd,d⟩:=S.ok j _ c;obtain⟨S1,f⟩:=(S.drop j).lay u.addrs (λa b=>⟨(d a b).1,(d a b).2.elim id (λz=>by cases z.1),r.there a b⟩) λa b n s hn m=>by
  by_cases q:n=j
  .subst q;rw[Cm (List.getElem?_eq_some_iff.mp c).1]at hn;cases hn;cases m
  .rw[CJ (BN q)]at hn;exact S.CG n j s _ a q hn c m b
 have g:=S1.Er (j:=j) (v:=v) (p:=u.pv) (r.rep f λa b o ho=>by unfold CD;rw[rG b];exact ho);rw[QC e,Uh]at g;exact⟨g,f⟩
theorem vY{p:Slot}(d:ss[j]?=some (.ow false u))(c:p≠.AV)(a:Addr):Cw ss Z a->Cw (ss.set j p) Z a:=λn k b=>by
 by_cases q:k=j
 .subst q;rw[Cm (List.getElem?_eq_some_iff.mp d).1]at b;cases b;exact absurd rfl c
 .rw[CJ (BN q)]at b;exact n k b
theorem Sg.zi(S:Sg E ss Z F H)(d:ss[j]?=some (.ow false u))(ff:AB (CD F H u.addrs) F')(fh:AB F' H'):(∀a∈u.addrs,F' a=H a/\H' a=H a/\H a≠none)/\∀a∈u.addrs,∀ws,F' a≠some (.tup ws):=by
 obtain⟨v,e,r,nd,f⟩:=S.ok j _ d;have at_:∀a∈u.addrs,F' a=H a/\H' a=H a/\H a≠none:=λa b=>by
  cases q:H a with
  |none=>exact absurd q (r.there a b)
  |some o=>
   have c:F' a=some o:=ff a o (by unfold CD;rw[rG b];exact q);exact⟨c,fh a o c,by simp⟩
 exact⟨at_,λa b ws q=>by rw[(at_ a b).1]at q;exact r.iP a b ws q⟩
theorem Sg.ZCL(S:Sg E ss Z F H)(b:ss[j]?=some (.ow false u))(m:Mv E (ss.set j (.is u.pv)) Z (CD F H u.addrs) H F' H'):Mv E ss Z F H (HB F' u.addrs) H'/\∀a∈u.addrs,∀ws,F' a≠some (.tup ws):=by
 obtain⟨v,e,r,nd,d⟩:=S.ok j _ b;obtain⟨S2,g⟩:=S.jC b;obtain⟨at_,f⟩:=S.zi b m.ff m.st.fh;refine⟨S.step (λa o ea=>?_) (λa o ea=>?_) (λa o n ea=>m.hh a o (vY b (λz=>by cases z) a n) ea) (λa o ea=>?_) (λk l c h=>?_),f⟩
 .unfold HB;rw[qP (λq=>by rw[(d a q).1]at ea;cases ea)];exact m.ff a o (g a o ea)
 .unfold HB at ea;split at ea
  .cases ea
  .exact m.st.fh a o ea
 .unfold HB at ea;split at ea
  .cases ea
  .rename_i q;rcases m.nn a o ea with z|z
   .unfold CD at z;rw[qP q]at z;exact .inl z
   .exact .inr z
 .refine m.st.En (i:=k) ?_ h;rw[CJ (λq=>by subst q;rw[b]at c;cases c)];exact c
section
variable[Xw]
variable{lt:Bool}
theorem eK{k:PV->Prop}(j:Nat)(a:ss[j]?=some (.ow false u))(h:Wp (ss.set j (.is u.pv)) te λp=>Fc p=true/\k p):Wp ss te k:=⟨λE Z F H Q S q=>by
 obtain⟨S2,d⟩:=S.jC a;refine h.go E Z _ H Q S2 λv p F' H' m b⟨hn,kk⟩=>?_;obtain⟨M,c⟩:=S.ZCL a m;exact q v p _ H' M (b.sub c hn) kk⟩
end
end Fz
namespace L2
section
variable{X:Cx}{o i value:Expr}{td ty tv:TE}{pos pos':Pos}
theorem Bw(f:X.A.units+1<cLine)(ho:QE X o td)(hi:QE X i ty)(j:Z9 i):QE X (.Subscript o i pos) (KD td ty):=⟨by
 have ho:=ho.h;have hi:=hi.h;intro Zy s Z H Q I h;refine ZD2 PySem.F.slot_dict_getitem.lookup j (AQ (ho Zy s Z H _ I h) λu s1⟨x,H1,I1,c,e⟩=>AQ (hi Zy s1 Z H1 _ I1 e) λm s2⟨y,H2,I2,b,a,v,ex,g,d⟩=>?_);subst ex;obtain rfl:u=Value.ref a:=c;exact⟨zB I2 g,rK f I2 g b λk l I3 G5=>⟨v,H2,I3,G5,d⟩⟩⟩
theorem Ja(l:X.A.units+1<cLine)(ho:QE X o td)(hi:QE X i ty)(b:QE X value tv)(m:swapsWith value (some (.Subscript o i pos')) pos.line X.env=pure false:=by rfl):
  QS X (.Assign [.Subscript o i pos'] value pos) (Sh td ty tv):=⟨by
 have ho:=ho.h;have hi:=hi.h;have b:=b.h;intro Zy s Z H D I h;refine wpAny_Assign_Subscript (AQ (b Zy s Z H _ I h) λr s1⟨v,H1,I1,e,k⟩=>AQ (ho Zy s1 Z H1 _ I1 k) λu s2⟨x,H2,I2,d,j⟩=>AQ (hi Zy s2 Z H2 _ I2 j) λp n⟨y,H3,I3,c,a,H4,ex,g,f⟩=>?_) m;subst ex;obtain rfl:u=Value.ref a:=d;exact ZG2 l I3 g c e λs4 I4=>⟨Z,H4,I4,f⟩⟩
theorem Tf:QE X (.Dict [] [] pos) W4:=⟨λZy s Z H Q I h=>
 wpAny_Dict_empty ⟨.ref s.heap.objs.size,_,I.laid (a:=s.heap.objs.size) (o:=.dK []) (t':=s.toks) (λ_ _ q=>Bb _ q) (Az _) (jt s.heap I.big),rfl,h _ (I.AJ.fresh (Az _))⟩⟩
end
end L2
namespace Fz
open L2 Lw
variable{F F0 H H0:Hp}{ss:List Slot}{ta td tv ty:TE}{nx:List Slot->Prop}{R:Aq}{i:Nat}{ks:List Key}{CY vs:List V}{t u w:OV}{C a dx:Addr}{us us':List OV}{E:Ent0}{Z:L2.St}{m p:List Nat}{f:Str}{ns:List Str}{pre:Pre}
noncomputable def HM:Key->PV
 | .inl i=>.int i
 | .inr x=>.str x
noncomputable def ML:List Key->List PV->Key->Option PV
 |k'::ks,x::xs,k=>if k'=k then some x else ML ks xs k
 |_,_,_=>none
def Gu(ks:List Key)(k:Key):Bool:=ks.any λk'=>decide (k'=k)
def Hv(ks:List Key)(k:Key):List Key:=if Gu ks k=true then ks else ks++[k]
theorem MI{v:V}{k:Key}(r:Rep F v (HM k)):v=kV k:=by
 cases k with
 |inl i=>cases r.inv;rfl
 |inr x=>cases r.inv;rfl
theorem pe{k:Key}{y:PV}:∀{ks:List Key}{vs:List V}{xs:List PV},Aa F vs xs->ks.length=vs.length->ML ks xs k=some y->∃v,Dj (ks.zip vs) k=some v/\Rep F v y:=by
 intro ks
 induction ks with
 |nil=>intro vs xs _ _ h;cases h
 |cons k' ks d=>
  intro vs xs r e h;cases xs with
  |nil=>cases h
  |cons x xs=>
   obtain⟨v,ws,rfl,a,b⟩:=r.inv;have h:(if k'=k then some x else ML ks xs k)=some y:=h
   rw[Jm]
   by_cases c:k'=k
   .rw[rG c]at h;cases h;exact⟨v,Q7 c,a⟩
   .rw[qP c]at h;obtain⟨w,h1,h2⟩:=d b (R1 e) h;exact⟨w,by rw[QU c];exact h1,h2⟩
section
variable[Xw]
variable{k:PV->Prop}{lt:Bool}
theorem I0(h:Wp ss td λp=>∃ks xs,p=.B2 ks xs/\Wp ss ty λq=>∃key y,q=HM key/\ML ks xs key=some y/\k y):Wp ss (KD td ty) k:=⟨λE Z F H Q S q=>
 h.go E Z F H _ S λv p F1 H1 c g⟨ks,xs,e,h2⟩=>h2.go E Z F1 H1 _ c.st λo p2 F2 H2 b f⟨key,y,m,i,kk⟩=>by
  subst e;subst m;have n:=g.mono b.ff;cases n with
  |B2 l j d=>
   obtain⟨w,hw,a⟩:=pe d j i;refine⟨_,w,rfl,?_,q w y F2 H2 (c.trans b) a kk⟩;rw[<- hw,MI f];exact Fm.k (b.st.fh _ _ l)⟩
theorem Ry{k:List Nat->OV->Prop}(h:∀a,k [] (.nd (.B2 []) a (([]:List PV).map .fz))):Wx ss W4 k:=⟨λE Z F H Q S q p b=>by
 have m:=S.make b (.dK []);refine q _ [] (.nd (.B2 []) p (([]:List PV).map .fz)) F _ m (.nd (k:=.B2 []) (vs:=[]) AW trivial rfl .nil) (by rw[OV.Di];simp[NK.more,OV.J5]) (λa c=>?_) (h p);rw[OV.Di]at c;have e:a=p:=by simpa[NK.more,OV.J5]using c
 subst e;exact⟨S.CA b,S.EK b,.inr b⟩⟩
theorem Yq:∀{ks:List Key}{vs:List V}{key:Key},ks.length=vs.length->(ks.zip vs).any (λa=>decide (a.1=key))=Gu ks key
 | [],vs,key,h=>rfl
 |k'::ks,w::vs,key,h=>by
  rw[Jm,OF,Yq (by simpa using h)]
  rfl
 |_::_,[],_,h=>by simp at h
noncomputable def Hh:List Key->List V->Key->V->List V
 |k'::ks,x::xs,k,p=>(if k'=k then p else x)::Hh ks xs k p
 |_,xs,_,_=>xs
theorem eS:∀{ks:List Key}{vs:List V}{key:Key}{v:V},(ks.zip vs).map (λa=>if a.1=key then(a.1,v)else a)=ks.zip (Hh ks vs key v)
 | [],vs,key,v=>by simp
 |k'::ks,w::vs,key,v=>by
  rw[Jm,C8,eS,Hh,Jm]
  by_cases c:k'=key
  .rw[rG c,rG c]
  .rw[qP c,qP c]
 |_::_,[],_,_=>by simp[Hh]
end
noncomputable def CU:List Key->Key->Option Nat
 | [],_=>none
 |k'::ks,k=>if k'=k then some 0 else(CU ks k).map (· + 1)
theorem ZK:∀{ks:List Key}{key:Key}{n:Nat},CU ks key=some n->ks[n]?=some key
 | [],_,_,h=>by cases h
 |k'::ks,key,n,h=>by
  rw[CU]at h
  by_cases c:k'=key
  .rw[rG c]at h;cases h;subst c;rfl
  .rw[qP c]at h;cases e:CU ks key with
   |none=>rw[e]at h;cases h
   |some m=>rw[e]at h;cases h;exact ZK (ks:=ks) e
theorem Vs:∀{ks:List Key}{key:Key},(CU ks key).isSome=Gu ks key
 | [],_=>rfl
 |k'::ks,key=>by
  rw[CU];unfold Gu;rw[OF]
  by_cases c:k'=key
  .rw[rG c,oW c];rfl
  .rw[qP c,sS c,Bool.false_or,cE,Vs];rfl
theorem XO:∀{ks:List Key}{vs:List V}{key:Key}{n:Nat}{v:V},CU ks key=some n->vs[n]?=some v->Dj (ks.zip vs) key=some v
 | [],_,_,_,_,h,_=>by cases h
 |k'::ks,[],key,n,v,h,hv=>by simp at hv
 |k'::ks,w::vs,key,n,v,h,hv=>by
  rw[CU]at h;rw[Jm]
  by_cases c:k'=key
  .rw[rG c]at h;cases h;simp at hv;rw[Q7 c,hv]
  .rw[qP c]at h;cases e:CU ks key with
   |none=>rw[e]at h;cases h
   |some m=>
    rw[e]at h;cases h;rw[QU c];exact XO e (by simpa using hv)
theorem YM{key:Key}(a:ks.length=vs.length):(Dj (ks.zip vs) key).isSome=Gu ks key:=by
 rw[<- UM,Yq a]
theorem iK:∀{ks:List Key}{vs:List V}{key:Key}{n:Nat}{v:V},ks.Nodup->CU ks key=some n->Hh ks vs key v=vs.set n v
 | [],_,_,_,_,_,h=>by cases h
 |k'::ks,[],key,n,v,_,h=>by rw[Hh];simp;simp
 |k'::ks,w::vs,key,n,v,nd,h=>by
  rw[CU]at h;obtain⟨n1,n2⟩:=List.nodup_cons.mp nd;rw[Hh]
  by_cases c:k'=key
  .rw[rG c]at h;cases h;rw[rG c,c8]
   congr 1
   subst c;have a:∀{ks:List Key}{vs:List V},k'∉ks->Hh ks vs k' v=vs:=by
    intro ks
    induction ks with
    |nil=>intro vs _;rw[Hh];simp
    |cons k2 ks b=>
     intro vs hn;cases vs with
     |nil=>rw[Hh];simp
     |cons u vs=>
      rw[Hh,qP (λz=>hn (by rw[z];simp)),b (λz=>hn (by simp[z]))]
   exact a n1
  .rw[qP c]at h;cases e:CU ks key with
   |none=>rw[e]at h;cases h
   |some m=>
    rw[e]at h;cases h;rw[qP c,Ug,iK n2 e]
section
variable[Xw]
variable{k:PV->Prop}
theorem G7{k:List Nat->OV->Prop}(h:Wl ss i t td λp u=>∃ks a us,u=.nd (.B2 ks) a us/\Wp ss ty λq=>∃key n w,q=HM key/\CU ks key=some n/\us[n]?=some w/\k (p++[n]) w):Wl ss i t (KD td ty) k:=⟨h.hi,λE Z F H Q S q=>
 h.go E Z F H _ S λv p u F1 H1 b l h1⟨ks,a,us,o,h2⟩=>h2.go E Z F1 H1 _ b.st λr p2 F2 H2 c j⟨key,n,w,e,hn,hw,kk⟩=>by
  subst e;have g:=l.mv b.st h.hi h1 c;subst o;obtain⟨vs,rfl,m,s,y,f⟩:=g.inv;obtain⟨x,hx,d⟩:=f.get hw;refine⟨a,x,rfl,?_,q x (p++[n]) w F2 H2 (b.trans c) d (OV.NO h1 (by rw[OV.Lq,hw];exact OV.J4)) kk⟩;rw[<- XO hn hx,MI j];exact Fm.k m⟩
theorem dF(h:Wp ss ty λq=>Wl ss i t td λ_ u=>∃ks a us key,u=.nd (.B2 ks) a us/\q=HM key/\k (.bl (Gu ks key))):Wp ss (Z7 ty td) k:=⟨λE Z F H Q S q=>
 h.go E Z F H _ S λv p F1 H1 b d h2=>h2.go E Z F1 H1 _ b.st λm p2 u F2 H2 e c B3 AH=>by
  obtain⟨ks,a,us,key,j,l,kk⟩:=AH;subst j;subst l;obtain⟨vs,rfl,f,n,g,o⟩:=c.inv;refine⟨a,Dj (ks.zip vs) key,rfl,by rw[MI d];exact Fm.k f,?_⟩;rw[YM g];exact q _ _ F2 H2 (b.trans e) (.bl _) kk⟩
theorem ZE(h:Wp ss ty λq=>Wl ss i t td λ_ u=>∃ks a us key,u=.nd (.B2 ks) a us/\q=HM key/\k (.bl (!Gu ks key))):Wp ss (RW ty td) k:=⟨λE Z F H Q S q=>
 h.go E Z F H _ S λv p F1 H1 b d h2=>h2.go E Z F1 H1 _ b.st λm p2 u F2 H2 e c B3 AH=>by
  obtain⟨ks,a,us,key,j,l,kk⟩:=AH;subst j;subst l;obtain⟨vs,rfl,f,n,g,o⟩:=c.inv;refine⟨a,Dj (ks.zip vs) key,rfl,by rw[MI d];exact Fm.k f,?_⟩;rw[YM g];exact q _ _ F2 H2 (b.trans e) (.bl _) kk⟩
theorem y2(h:Wp ss ty λq=>Wp ss td λu=>∃ks xs key,u=.B2 ks xs/\q=HM key/\k (.bl (!Gu ks key))):Wp ss (RW ty td) k:=⟨λE Z F H Q S q=>
 h.go E Z F H _ S λv p F1 H1 c e h2=>h2.go E Z F1 H1 _ c.st λl u F2 H2 b d AH=>by
  obtain⟨ks,xs,key,g,i,kk⟩:=AH;subst g;subst i;cases d with
  |@B2 a _ vs _ j f m=>
   refine⟨a,Dj (ks.zip vs) key,rfl,by rw[MI e];exact Fm.k (b.st.fh _ _ j),?_⟩;rw[YM f];exact q _ _ F2 H2 (c.trans b) (.bl _) kk⟩
theorem LB:(OV.nd (.B2 ks) a us).addrs=a::OV.Ap us:=by rw[OV.Di];rfl
theorem iE{lt:Bool}:∀(m:List Nat)(ss:List Slot),ss[i]?=some (.ow lt t)->i∉m->(Fz.Dq m ss)[i]?=some (.ow lt t):=by
 intro m
 induction m with
 |nil=>intro ss h _;exact h
 |cons j m b=>
  intro ss h a;refine b _ ?_ λz=>a (by simp[z]);rw[CJ (by rintro rfl;exact a (by simp))];exact h
theorem Sg.lY{lt:Bool}{ks':List Key}(S0:Sg E ss Z F0 H0)(S:Sg E ss Z F H)(hi:ss[i]?=some (.ow lt t))(B3:t.at p=some (.nd (.B2 ks) a us))
  (d:∀a∈u.addrs,F a=none/\E.H0 a=none/\((∃i∈m,∃s,s≠Slot.AV/\ss[i]?=some s/\Be s Z[i]? a)∨H0 a=none)) (Fi:i∉m)
  (A:BV F H CY us') (B:ks'.length=CY.length) (P7:(OV.Ap us').Nodup) (JG:∀b∈OV.Ap us',b∈OV.Ap us∨b∈u.addrs):Sg E ((Fz.Dq m ss).set i (.ow lt (t.put p (.nd (.B2 ks') a us')))) Z F (upd H a (.dK (ks'.zip CY))):=by
 have I:=iE m ss hi Fi;obtain⟨v,e,r,nd,q⟩:=S.ok i _ hi;have h:∀b,b∈a::OV.Ap us->b∈t.addrs:=λb c=>OV.LD B3 b (by rw[LB];exact c);have G:∀b∈u.addrs,b∉t.addrs:=λb c z=>by
  rcases(d b c).2.2 with⟨j,C,s,_,f,o⟩|w
  .exact S.CG j i s _ b (by rintro rfl;exact Fi C) f hi o z
  .exact S0.Eb hi z w
 have g:(OV.nd (.B2 ks) a us).addrs.Nodup:=by
  obtain⟨l,J,D,_⟩:=OV.split B3;rw[D,Ct,Ct]at nd;exact nd.1.2.1
 rw[LB]at g;have na:∀b∈OV.Ap us',b≠a:=λb c z=>by
  subst z;rcases JG b c with w|w
  .exact(List.nodup_cons.mp g).1 w
  .exact G b w (h b (by simp))
 refine(S.Dq m).Yw I B3 (.nd (k:=.B2 ks') AW trivial B (A.mono (AB.refl _) λb c o ho=>by rw[AY (na b c)];exact ho)) (by rw[LB];exact List.nodup_cons.mpr ⟨λz=>na a z rfl,P7⟩) λb c=>?_;rw[LB]at c ⊢;rcases List.mem_cons.mp c with w|w
 .exact .inl (by simp[w])
 .rcases JG b w with z|z
  .exact .inl (by simp[z])
  .refine .inr ⟨(d b z).1,(d b z).2.1,λj s f o=>?_⟩;rcases QQ f with y|⟨He,hm⟩
   .subst y;cases o
   .rcases(d b z).2.2 with⟨x,Hn,s2,_,Cb,n⟩|y
    .exact S.CG j x s s2 b (by rintro rfl;exact hm Hn) He Cb o n
    .exact S0.Eb He o y
def GS(ks:List Key)(us:List OV)(key:Key)(w:OV):List OV:=match CU ks key with
 |some n=>us.set n w
 |none=>us++[w]
theorem JD(h:Wx ss tv λm w=>Wl ss i t td λp u=>∃lt a ks us,ss[i]?=some (.ow lt t)/\u=.nd (.B2 ks) a us/\us.length<=99999/\ks.Nodup/\i∉m/\Wp ss ty λq=>∃key,q=HM key/\nx ((Fz.Dq m ss).set i (.ow lt (t.put p (.nd (.B2 (Hv ks key)) a (GS ks us key w)))))):Ws ss (Sh td ty tv) nx R:=⟨λE D Z F H S hn hr=>
 h.go E Z F H _ S λv m w F1 H1 T Q ID I h2=>h2.go E Z F1 H1 _ T.st λv2 p u F2 H2 L P B3⟨lt,a,ks,us,hi,eu,hz,g,Fi,h3⟩=>h3.go E Z F2 H2 _ L.st λv3 q F3 H3 G r3⟨key,eq,kk⟩=>by
  subst eu;subst eq;have ev:v2=.ref a:=by cases P;rfl
  subst ev;have J:=L.trans G;have np:∀b∈w.addrs,Cw ss Z b:=λb d k g W=>by
   rcases(I b d).2.2 with⟨j,U,s,N,Ft,o⟩|z
   .exact S.CG j k s _ b (λe=>by subst e;rw[Ft]at g;exact N (Bo g)) Ft g o W
   .exact S.Eb g W z
  have σ:BI F3 H3 v w:=Q.mono J.ff λb d o e=>J.hh b o (np b d) e;have YV:∀b∈w.addrs,F3 b=none/\E.H0 b=none/\((∃i∈m,∃s,s≠Slot.AV/\ss[i]?=some s/\Be s Z[i]? b)∨H b=none):=λb d=>by
   refine⟨?_,(I b d).2⟩;cases e:F3 b with
   |none=>rfl
   |some o=>
    rcases J.nn b o e with z|z
    .rw[(I b d).1]at z;cases z
    .exact absurd z (Q.there b d)
  have r4:=P.mv L.st ⟨lt,hi⟩ B3 G;cases r4 with
  |@nd _ _ vs _ ha sd ft C=>
   have K:ks.length=vs.length:=ft;have vl:=C.length;have M:(ks.zip vs).length<=99999:=by rw[OI];omega
   refine⟨a,_,rfl,by rw[MI r3];exact OT.k ha (XM M),?_⟩;obtain⟨v0,e0,r0,DE,q0⟩:=G.st.ok i _ hi;have O:(OV.nd (.B2 ks) a us).addrs.Nodup:=by
    obtain⟨l,C,A,_⟩:=OV.split B3;rw[A,Ct,Ct]at DE;exact DE.1.2.1
   rw[LB]at O;have f:∀b∈w.addrs,b∉OV.Ap us:=λb d z=>by
    have Y:b∈t.addrs:=OV.LD B3 b (by rw[LB];simp[z]);rcases(I b d).2.2 with⟨j,U,s,_,N,o⟩|y
    .exact S.CG j i s _ b (by rintro rfl;exact Fi U) N hi o Y
    .exact S.Eb hi Y y
   obtain⟨CY,ep,Qb,KZ,Qj,sb⟩:∃CY:List V,putK (ks.zip vs) key v=(Hv ks key).zip CY/\(Hv ks key).length=CY.length/\BV F3 H3 CY (GS ks us key w)/\(OV.Ap (GS ks us key w)).Nodup/\∀b∈OV.Ap (GS ks us key w),b∈OV.Ap us∨b∈w.addrs:=by
    unfold putK Hv GS;rw[Yq K];cases e:CU ks key with
    |some n=>
     have c:Gu ks key=true:=by rw[<- Vs,e];rfl
     have Ll:n<us.length:=by
      have:=(List.getElem?_eq_some_iff.mp (ZK e)).1;omega
     obtain⟨l,r,A,X⟩:=JV (BG Ll);rw[rG c,rG c,eS,iK g e];refine⟨vs.set n v,rfl,by rw[Jl];exact K,C.set n σ,?_,λb d=>?_⟩
     .show(OV.Ap (us.set n w)).Nodup;rw[X];have n1:=(List.nodup_cons.mp O).2;rw[A]at n1;exact Rw n1 ID λb d=>.inr (by rw[<- A];exact f b d)
     .have B:b∈OV.Ap (us.set n w):=d;rw[X]at B;rcases List.mem_append.mp B with z|z
      .rcases List.mem_append.mp z with z|z
       .exact .inl (by rw[A];simp[z])
       .exact .inr z
      .exact .inl (by rw[A];simp[z])
    |none=>
     have c:¬ Gu ks key=true:=by rw[<- Vs,e];decide
     rw[qP c,qP c];refine⟨vs++[v],by rw[List.zip_append K];rfl,by rw[CK,CK,K];rfl,C.append (.one σ),?_,λb d=>?_⟩
     .show(OV.Ap (us++[w])).Nodup;rw[OQ,SD,Ct];exact⟨(List.nodup_cons.mp O).2,ID,λx hx y hy e=>f y hy (e▸hx)⟩
     .have B:b∈OV.Ap (us++[w]):=d;rw[OQ,SD]at B;exact List.mem_append.mp B
   rw[ep];exact hn _ Z F3 _ kk (Sg.lY (u:=w) S G.st hi B3 YV Fi KZ Qb Qj sb) (T.ff.trans J.ff)⟩
end
noncomputable def DB:List Str->Str->Option Nat
 | [],_=>none
 |g::ns,f=>if g=f then some 0 else(DB ns f).map (· + 1)
def MM(ns:List Str)(f:Str):List Str:=match DB ns f with
 |some _=>ns
 |none=>ns++[f]
def Of(ns:List Str)(us:List OV)(f:Str)(w:OV):List OV:=match DB ns f with
 |some n=>us.set n w
 |none=>us++[w]
def Jv(ns:List Str)(vs:List V)(f:Str)(w:V):List V:=match DB ns f with
 |some n=>vs.set n w
 |none=>vs++[w]
theorem XG:∀{ns:List Str}{f:Str}{n:Nat},DB ns f=some n->n<ns.length
 | [],_,_,h=>by cases h
 |g::ns,f,n,h=>by
  rw[DB]at h
  by_cases c:g=f
  .rw[rG c]at h;cases h;exact Nat.succ_pos _
  .rw[qP c]at h;cases e:DB ns f with
   |none=>rw[e]at h;cases h
   |some m=>rw[e]at h;cases h;exact Nat.succ_lt_succ (XG e)
theorem SS:∀{ns:List Str}{vs:List V}{f:Str}{n:Nat}{v:V},DB ns f=some n->vs[n]?=some v->(ns.zip vs).lookup f=some v
 | [],_,_,_,_,h,_=>by cases h
 |g::ns,[],f,n,v,h,hv=>by simp at hv
 |g::ns,w::vs,f,n,v,h,hv=>by
  rw[DB]at h;rw[Jm]
  by_cases c:g=f
  .rw[rG c]at h;cases h;simp at hv;subst c;rw[ZHN,hv]
  .rw[qP c]at h;cases e:DB ns f with
   |none=>rw[e]at h;cases h
   |some m=>
    rw[e]at h;cases h;rw[HX];have:(f == g)=false:=by simpa using λz=>c z.symm
    rw[this];exact SS e (by simpa using hv)
theorem Zm:∀{ns:List Str}{vs:List V}{f:Str}{v:V},ns.length=vs.length->Dc f v (ns.zip vs)=(MM ns f).zip (Jv ns vs f v)/\(MM ns f).length=(Jv ns vs f v).length
 | [],[],f,v,_=>by simp[Dc,MM,Jv,DB]
 | [],_::_,_,_,h=>by simp at h
 |_::_,[],_,_,h=>by simp at h
 |g::ns,w::vs,f,v,h=>by
  obtain⟨b,a⟩:=Zm (ns:=ns) (vs:=vs) (f:=f) (v:=v) (by simpa using h)
  rw[Jm];rw[show Dc f v ((g,w)::ns.zip vs)=(if g=f then(g,v)::ns.zip vs else(g,w)::Dc f v (ns.zip vs))from rfl]
  unfold MM Jv at b a ⊢;rw[DB]
  by_cases c:g=f
  .rw[rG c,rG c];exact⟨by simp,by simpa using h⟩
  .rw[qP c,qP c,b];cases e:DB ns f with
   |none=>rw[e]at a;exact⟨by simp,by simpa using a⟩
   |some m=>rw[e]at a;exact⟨by simp,by simpa using a⟩
section
variable[Xw]
variable{k:PV->Prop}{K:ZIV}
theorem YC{k:List Nat->OV->Prop}(h:Wl ss i t ta λp u=>∃C dx ns a us n w,u=.nd (.obj C dx ns) a us/\CF K C/\Bj K C f/\DB ns f=some n/\us[n]?=some w/\k (p++[n]) w):Wl ss i t (K5 K ta f) k:=⟨h.hi,λE Z F H Q S q=>
 h.go E Z F H _ S λv p u F1 H1 g e h1 AH=>by
  obtain⟨C,dx,ns,a,us,n,w,m,j,hn,hx,hw,kk⟩:=AH;subst m;obtain⟨vs,rfl,l,o,r,d⟩:=e.inv;obtain⟨x,b,c⟩:=d.get hw;exact⟨a,C,dx,ns.zip vs,x,rfl,l,j,hn,SS hx b,q x (p++[n]) w F1 H1 g c (OV.NO h1 (by rw[OV.Lq,hw];exact OV.J4)) kk⟩⟩
theorem Kc:(OV.nd (.obj C dx ns) a us).addrs=a::dx::OV.Ap us:=by rw[OV.Di];rfl
theorem Sg.mK{lt:Bool}{Bk:List Str}(S0:Sg E ss Z F0 H0)(S:Sg E ss Z F H)(hi:ss[i]?=some (.ow lt t))(B3:t.at p=some (.nd (.obj C dx ns) a us))(M9:H dx=some (.own a))
  (d:∀a∈u.addrs,F a=none/\E.H0 a=none/\((∃i∈m,∃s,s≠Slot.AV/\ss[i]?=some s/\Be s Z[i]? a)∨H0 a=none)) (Fi:i∉m)
  (G:BV F H CY us') (I:Bk.length=CY.length) (P7:(OV.Ap us').Nodup) (JG:∀b∈OV.Ap us',b∈OV.Ap us∨b∈u.addrs):Sg E ((Fz.Dq m ss).set i (.ow lt (t.put p (.nd (.obj C dx Bk) a us')))) Z F (upd H a (.ins C dx (Bk.zip CY))):=by
 have L:=iE m ss hi Fi;obtain⟨v,e,r,nd,q⟩:=S.ok i _ hi;have g:∀b,b∈a::dx::OV.Ap us->b∈t.addrs:=λb c=>OV.LD B3 b (by rw[Kc];exact c);have n:∀b∈u.addrs,b∉t.addrs:=λb c z=>by
  rcases(d b c).2.2 with⟨j,J,s,_,f,o⟩|w
  .exact S.CG j i s _ b (by rintro rfl;exact Fi J) f hi o z
  .exact S0.Eb hi z w
 have x:(OV.nd (.obj C dx ns) a us).addrs.Nodup:=by
  obtain⟨l,M,K,_⟩:=OV.split B3;rw[K,Ct,Ct]at nd;exact nd.1.2.1
 rw[Kc]at x;obtain⟨n1,n2⟩:=List.nodup_cons.mp x;obtain⟨B,N⟩:=List.nodup_cons.mp n2;have na:∀b∈OV.Ap us',b≠a:=λb c z=>by
  subst z;rcases JG b c with w|w
  .exact n1 (by simp[w])
  .exact n b w (g b (by simp))
 have UJ:∀b∈OV.Ap us',b≠dx:=λb c z=>by
  subst z;rcases JG b c with w|w
  .exact B w
  .exact n b w (g b (by simp))
 have h:dx≠a:=λz=>n1 (by simp[z]);refine(S.Dq m).Yw L B3 (.nd (k:=.obj C dx Bk) AW (show upd H a _ dx=some (.own a) by rw[AY h];exact M9) I (G.mono (AB.refl _) λb c o ho=>by rw[AY (na b c)];exact ho)) (by
  rw[Kc];exact List.nodup_cons.mpr ⟨λz=>by
   rcases List.mem_cons.mp z with z|z
   .exact h z.symm
   .exact na a z rfl,List.nodup_cons.mpr ⟨λz=>UJ dx z rfl,P7⟩⟩) λb c=>?_
 rw[Kc]at c ⊢;rcases List.mem_cons.mp c with w|w
 .exact .inl (by simp[w])
 .rcases List.mem_cons.mp w with w|w
  .exact .inl (by simp[w])
  .rcases JG b w with z|z
   .exact .inl (by simp[z])
   .refine .inr ⟨(d b z).1,(d b z).2.1,λj s f o=>?_⟩;rcases QQ f with y|⟨He,hm⟩
    .subst y;cases o
    .rcases(d b z).2.2 with⟨D,Hn,s2,_,Cb,A⟩|y
     .exact S.CG j D s s2 b (by rintro rfl;exact hm Hn) He Cb o A
     .exact S0.Eb He o y
theorem ZAg{F1 H1 F3 H3:Hp}{v:V}(S:Sg E ss Z F H)(KH:Mv E ss Z F1 H1 F3 H3)(g:BI F1 H1 v w)(f:∀a∈w.addrs,F1 a=none/\E.H0 a=none/\((∃i∈m,∃s,s≠Slot.AV/\ss[i]?=some s/\Be s Z[i]? a)∨H a=none)):
  BI F3 H3 v w/\∀b∈w.addrs,F3 b=none/\E.H0 b=none/\((∃i∈m,∃s,s≠Slot.AV/\ss[i]?=some s/\Be s Z[i]? b)∨H b=none):=by
 have np:∀b∈w.addrs,Cw ss Z b:=λb c k d h=>by
  rcases(f b c).2.2 with⟨j,n,s,l,Ft,o⟩|z
  .exact S.CG j k s _ b (λe=>by subst e;rw[Ft]at d;exact l (Bo d)) Ft d o h
  .exact S.Eb d h z
 refine⟨g.mono KH.ff λb c o e=>KH.hh b o (np b c) e,λb c=>⟨?_,(f b c).2⟩⟩;cases e:F3 b with
 |none=>rfl
 |some o=>
  rcases KH.nn b o e with z|z
  .rw[(f b c).1]at z;cases z
  .exact absurd z (g.there b c)
theorem JW(h:Wx ss tv λm w=>Wl ss i t ta λp u=>∃lt C dx ns a us,ss[i]?=some (.ow lt t)/\u=.nd (.obj C dx ns) a us/\CF K C/\Bj K C f/\ns.length<1000/\i∉m/\nx ((Fz.Dq m ss).set i (.ow lt (t.put p (.nd (.obj C dx (MM ns f)) a (Of ns us f w)))))):Ws ss (aU K ta tv f) nx R:=⟨λE D Z F H S hn hr=>
 h.go E Z F H _ S λv m w F1 H1 I T ID M h2=>h2.go E Z F1 H1 _ I.st λO p u F2 H2 A G B3 AH=>by
  obtain⟨lt,C,dx,ns,a,us,hi,eu,X,Xf,hz,Fi,kk⟩:=AH;subst eu;have ev:O=.ref a:=by cases G;rfl
  subst ev;obtain⟨GB,YV⟩:=ZAg S A T M;cases G with
  |@nd _ _ vs _ Y P σ q=>
   have IY:ns.length=vs.length:=σ;have vl:=q.length;obtain⟨ep,Qb⟩:=Zm (f:=f) (v:=v) IY;refine⟨a,C,dx,ns.zip vs,rfl,Y,X,Xf,by rw[OI];omega,?_⟩;obtain⟨v0,e0,r0,DE,q0⟩:=A.st.ok i _ hi;have N:(OV.nd (.obj C dx ns) a us).addrs.Nodup:=by
    obtain⟨l,q,g,_⟩:=OV.split B3;rw[g,Ct,Ct]at DE;exact DE.1.2.1
   rw[Kc]at N;have B:=(List.nodup_cons.mp (List.nodup_cons.mp N).2).2;have c:∀b∈w.addrs,b∉OV.Ap us:=λb d z=>by
    have L:b∈t.addrs:=OV.LD B3 b (by rw[Kc];simp[z]);rcases(M b d).2.2 with⟨j,W,s,_,V,o⟩|y
    .exact S.CG j i s _ b (by rintro rfl;exact Fi W) V hi o L
    .exact S.Eb hi L y
   obtain⟨KZ,Qj,Q⟩:BV F2 H2 (Jv ns vs f v) (Of ns us f w)/\(OV.Ap (Of ns us f w)).Nodup/\∀b∈OV.Ap (Of ns us f w),b∈OV.Ap us∨b∈w.addrs:=by
    unfold Jv Of;cases e:DB ns f with
    |some n=>
     have Ll:n<us.length:=by have:=XG e;omega
     obtain⟨l,r,g,J⟩:=JV (BG Ll);refine⟨q.set n GB,?_,λb d=>?_⟩
     .show(OV.Ap (us.set n w)).Nodup;rw[J];rw[g]at B;exact Rw B ID λb d=>.inr (by rw[<- g];exact c b d)
     .have k:b∈OV.Ap (us.set n w):=d;rw[J]at k;rcases List.mem_append.mp k with z|z
      .rcases List.mem_append.mp z with z|z
       .exact .inl (by rw[g];simp[z])
       .exact .inr z
      .exact .inl (by rw[g];simp[z])
    |none=>
     refine⟨q.append (.one GB),?_,λb d=>?_⟩
     .show(OV.Ap (us++[w])).Nodup;rw[OQ,SD,Ct];exact⟨B,ID,λx hx y U e=>c y U (e▸hx)⟩
     .have k:b∈OV.Ap (us++[w]):=d;rw[OQ,SD]at k;exact List.mem_append.mp k
   rw[ep];exact hn _ Z F2 _ kk (Sg.mK (u:=w) S A.st hi B3 P YV Fi KZ Qb Qj Q) (I.ff.trans A.ff)⟩
end
theorem bJ:∀{ns:List Str}{vs:List V}{f:Str},DB ns f=none->(ns.zip vs).lookup f=none
 | [],_,_,_=>by simp
 |g::ns,[],f,h=>by simp
 |g::ns,w::vs,f,h=>by
  rw[DB]at h
  by_cases c:g=f
  .rw[rG c]at h;cases h
  .rw[qP c]at h;rw[Jm,HX];have:(f == g)=false:=by simpa using λz=>c z.symm
   rw[this];refine bJ ?_;cases e:DB ns f with
   |none=>rfl
   |some m=>rw[e]at h;cases h
section
variable[Xw]
variable{te:TE}{ta:TA}{lt:Bool}{K:ZIV}
theorem N5{a0:Addr}{m:Str}{k:PV->OV->Prop}(hi:ss[i]?=some (.ow lt (.nd (.obj C dx ns) a0 us)))(n:DB ns m=none)(h:Mo ss ta λl=>∃k',pre (.ow true (.nd (.obj C dx ns) a0 us)::l) (.mt k')/\∀p t',k' p t'->∃EW us',t'=.nd EW a0 us'/\k p t'):
  Wm ss i lt (.nd (.obj C dx ns) a0 us) (Ng C m (C2 pre) [] E0 (BS i) ta) k:=⟨λE Z F H Q S q=>by
 obtain⟨d,e0,c,_,_⟩:=S.ok i _ hi;have s:d=.ref a0:=by cases c;rfl
 subst s;cases c with
 |@nd _ _ J9 _ o t w u=>
  refine⟨_,e0,a0,dx,ns.zip J9,rfl,o,bJ n,h.go E Z F H _ S λvs l F1 H1 b a⟨k',j,kk⟩=>?_⟩;rw[G0];refine⟨.ow true (.nd (.obj C dx ns) a0 us)::l,.mt k',F1,[],(OV.nd (.obj C dx ns) a0 us).addrs,j,b.st.X2 hi (.here e0 a),λv F' H' f⟨p,t',r,e,nd,g,kp⟩=>?_⟩;obtain⟨EW,us',rfl,k2⟩:=kk p t' kp;exact q v p _ F' H' (b.i8 hi (b.st.VP hi f e nd g)) r k2⟩
theorem lQ{k:PV->Prop}(h:Wp ss te λo=>∃C ns xs n y,o=.obj C ns xs/\CF K C/\Bj K C f/\DB ns f=some n/\xs[n]?=some y/\k y):Wp ss (K5 K te f) k:=⟨λE Z F H Q S q=>
 h.go E Z F H _ S λv o F1 H1 b e AH=>by
  obtain⟨C,ns,xs,n,y,l,j,hn,hx,g,kk⟩:=AH;subst l;cases e with
  |@obj a _ dx _ J9 _ m r p d=>
   obtain⟨u,i,c⟩:=d.get g;exact⟨a,C,dx,ns.zip J9,u,rfl,b.st.fh _ _ m,j,hn,SS hx i,q u y F1 H1 b c kk⟩⟩
theorem mO{k:List Nat->OV->Prop}(h:Mo ss ta λl=>∀x dx:Addr,∃k',pre (.ow true (.nd (.obj C dx []) x [])::l) (.mt k')/\∀p t',k' p t'->p=.A8/\∃Bk us',t'=.nd (.obj C dx Bk) x us'/\k [] t'):Wx ss (ZJ C (C2 pre) [] E0 ta) k:=⟨λE Z F H Q S q=>
 h.go E Z F H _ S λvs l F1 H1 d al Nc x dx hx M9 BZ=>by
  rw[G0];have M1:=d.st.make M9 (.own x);have M:upd H1 dx (.own x) x=none:=by rw[AY (BN BZ)];exact hx
  have L:=M1.st.make M (.ins C dx []);have G:=M1.trans L;have up:∀a o,H1 a=some o->upd (upd H1 dx (.own x)) x (.ins C dx []) a=some o:=λa o e=>by
   rw[AY (DH e hx),AY (DH e M9)];exact e
  have w:∀a,upd (upd H1 dx (.own x)) x (.ins C dx []) a=none->H1 a=none:=λa e=>by
   cases z:H1 a with
   |none=>rfl
   |some o=>rw[up a o z]at e;cases e
  have a0:(OV.nd (.obj C dx []) x []).addrs=[x,dx]:=by rw[Kc,OV.J5]
  have D:BI F1 (upd (upd H1 dx (.own x)) x (.ins C dx [])) (.ref x) (.nd (.obj C dx []) x []):=.nd (k:=.obj C dx []) (vs:=[]) AW (show upd _ x _ dx=some (.own x) by rw[AY BZ];exact AW) rfl .nil;have f0:∀a∈(OV.nd (.obj C dx []) x []).addrs,H1 a=none:=λa b=>by
   rw[a0]at b;simp only[HZ,BB,ZAn]at b;rcases b with rfl|rfl
   .exact hx
   .exact M9
  have N:(OV.nd (.obj C dx []) x []).addrs.Nodup:=by
   rw[a0];simp[BN BZ]
  have y:=Sg.eQ (j:=ss.length) (m:=[]) (v:=.ref x) (u:=.nd (.obj C dx []) x []) (d.st.grown 1) (G.st.grown 1) D N λa b=>⟨d.st.CA (f0 a b),d.st.EK (f0 a b),.inr (f0 a b)⟩;have P:=d.st.len;have hi:((ss++List.replicate 1 Slot.any).set ss.length (.ow false (.nd (.obj C dx []) x [])))[ss.length]?=some (.ow false (.nd (.obj C dx []) x [])):=Cm (by simp);have e0:((Z++List.replicate 1 none).set ss.length (some (V.ref x)))[ss.length]?=some (some (.ref x)):=Cm (by simp;omega);obtain⟨k',I,kk⟩:=Nc x dx;refine⟨.ow true (.nd (.obj C dx []) x [])::l,.mt k',F1,[],(OV.nd (.obj C dx []) x []).addrs,I,y.X2 hi (.here e0 al),λv F' H' f⟨p,t',r,t,nd,s,kp⟩=>?_⟩;obtain⟨rfl,Bk,us',rfl,k2⟩:=kk p t' kp;have B:=y.VP hi f t nd s;have at':∀n,n<ss.length->((ss++List.replicate 1 Slot.any).set ss.length (.ow false (.nd (.obj C dx []) x [])))[n]?=ss[n]?:=λn hn=>by rw[CJ (by omega),HW hn]
  have A:∀n,n<ss.length->((Z++List.replicate 1 none).set ss.length (some (V.ref x)))[n]?=Z[n]?:=λn hn=>by rw[CJ (by omega),HW (by omega)]
  have np:∀a,H1 a≠none->Cw ss Z a->Cw ((ss++List.replicate 1 Slot.any).set ss.length (.ow false (.nd (.obj C dx []) x []))) ((Z++List.replicate 1 none).set ss.length (some (V.ref x))) a:=λa _ hn n g=>by
   by_cases c:n<ss.length
   .rw[at' n c]at g;rw[A n c];exact hn n g
   .by_cases c2:n=ss.length
    .subst c2;rw[hi]at g;cases g
    .rw[L7 (by simp;omega)]at g;cases g
  have K:Mv E ss Z F1 H1 F' H':=d.st.step B.ff B.st.fh (λa o hn e=>B.hh a o (np a (by rw[e];simp) hn) (λz=>by rw[f0 a z]at e;cases e) (up a o e)) (λa o e=>(B.nn a o e).imp id (w a)) λn O hn J=>by
   have c:n<ss.length:=(List.getElem?_eq_some_iff.mp hn).1;refine B.st.En (i:=n) ?_ (by rw[A n c];exact J);rw[CJ (by omega)];exact(at' n c).trans hn
  cases r.inv;refine⟨rfl,q (.ref x) [] _ F' H' (d.trans K) t nd (λa b=>?_) k2⟩;have h1:H1 a=none:=(s a b).2.elim (w a) (f0 a);exact⟨(s a b).1,d.st.EK h1,.inr (d.none h1)⟩⟩
end
end Fz
namespace L2
section
variable{X:Cx}{o e value:Expr}{f:Str}{pos pos' Qo:Pos}{ta tv:TE}
theorem Ds(b:QE X e ta)(i:attributeBase e f X.env (eval e X.env)=eval e X.env:=by rfl):QE X (.Attribute e f pos) (K5 X.K ta f):=⟨by
 have b:=b.h;intro Zy s Z H Q I h;refine iY i (AQ (b Zy s Z H _ I h) λu s1 EN=>?_);obtain⟨x,H1,I1,d,a,C,dx,fs,v,ex,ea,c,n,l,q⟩:=EN;subst ex;obtain rfl:u=Value.ref a:=d;exact jy I1 ea c n l λj s2 I2 g=>⟨v,H1,I2,g,q⟩⟩
theorem KC(d:QE X o ta)(b:QE X value tv)(k:swapsWith value (some (.Attribute o f pos')) pos.line X.env=pure false:=by rfl):QS X (.Assign [.Attribute o f pos'] value pos) (aU X.K ta tv f):=⟨by
 have d:=d.h;have b:=b.h;intro Zy s Z H D I h;refine yg (AQ (b Zy s Z H _ I h) λu s1⟨y,H1,I1,e,q⟩=>AQ (d Zy s1 Z H1 _ I1 q) λj s2⟨x,H2,I2,g,a,C,dx,fs,ex,ea,c,n,l,i⟩=>?_) k;subst ex;obtain rfl:j=Value.ref a:=g;exact fo I2 ea c n l e λm I3=>⟨Z,_,I3,i⟩⟩
theorem Xz{op:Operator}{rd:V->V->Hp->VK->Prop}(d:QE X o ta)(b:QE X value tv)(WT:jl X op rd):QS X (.AugAssign (.Attribute o f Qo) op value pos) (Xu X.K ta tv rd f):=⟨by
 have d:=d.h;have b:=b.h;intro Zy s Z H D I h;refine wpAny_AugAssign_AttributeAny (AQ (d Zy s Z H _ I h) λw s1 EN=>?_);obtain⟨x,H1,I1,k,a,C,dx,fs,v,ex,ea,c,n,l,q⟩:=EN;subst ex;obtain rfl:w=Value.ref a:=k;refine jy I1 ea c n l λu s2 I2 m=>AQ (b Zy s2 Z H1 _ I2 q) λe g⟨y,H2,I3,j,r⟩=>AQ (WT Zy g Z H2 v y u e _ I3 m j r) λB s4 XA=>?_;obtain⟨z,H3,I4,i,dx',Nw,t,A,p⟩:=XA;exact fo I4 t c n A i λE I5=>⟨Z,_,I5,p⟩⟩
end
end L2
namespace Fz
open L2 Lw
section
variable[Xw]
variable{ss:List Slot}{ta tv:TE}{nx:List Slot->Prop}{R:Aq}{i:Nat}{t:OV}{K:ZIV}{f:Str}
theorem Xy{g:Int->Int->Int}(h:Wl ss i t ta λp u=>∃lt C dx ns a us n x,ss[i]?=some (.ow lt t)/\u=.nd (.obj C dx ns) a us/\CF K C/\Bj K C f/\ns.length<1000/\DB ns f=some n/\us[n]?=some (.fz (.int x))/\Wp ss tv λq=>∃y,q=.int y/\nx (ss.set i (.ow lt (t.put p (.nd (.obj C dx ns) a (us.set n (.fz (.int (g x y))))))))):Ws ss (Xu K ta tv (hV g) f) nx R:=⟨λE D Z F H S hn hr=>
 h.go E Z F H _ S λv p u F1 H1 j o B3 z=>by
  obtain⟨lt,C,dx,ns,a,us,n,x,hi,eu,V,Xf,hz,hx,U,h2⟩:=z;subst eu;have σ:v=.ref a:=o.inv.elim λ_ h=>h.1;subst σ;have GB:=o;obtain⟨vs,_,W,sd,ft,A⟩:=o.inv;obtain⟨w,hw,k⟩:=A.get U;have Y:w=.int x:=(k.inv:Rep _ _ _).inv;subst Y;refine⟨a,C,dx,ns.zip vs,.int x,rfl,W,V,Xf,SS hx hw,h2.go E Z F1 H1 _ j.st λv2 q F2 H2 e T O=>?_⟩;obtain⟨y,X,kk⟩:=O;subst X;cases T.inv;refine⟨x,y,rfl,rfl,?_⟩;have Q:=GB.mv j.st ⟨lt,hi⟩ B3 e;obtain⟨K7,_,s,P,Qb,KZ⟩:=Q.inv;have IY:ns.length=K7.length:=Qb;have vl:=KZ.length;obtain⟨ep,B⟩:=Zm (f:=f) (v:=.int (g x y)) IY;refine⟨dx,ns.zip K7,s,by rw[OI];omega,?_⟩;have Ll:n<us.length:=by have:=XG hx;omega
  obtain⟨v0,e0,r0,DE,q0⟩:=e.st.ok i _ hi;have N:(OV.nd (.obj C dx ns) a us).addrs.Nodup:=by
   obtain⟨l,A,d,_⟩:=OV.split B3;rw[d,Ct,Ct]at DE;exact DE.1.2.1
  rw[Kc]at N;have L:=(List.nodup_cons.mp (List.nodup_cons.mp N).2).2;have I:MM ns f=ns:=by unfold MM;rw[hx]
  have G:Jv ns K7 f (.int (g x y))=K7.set n (.int (g x y)):=by unfold Jv;rw[hx]
  rw[ep,I,G];rw[I,G]at B;obtain⟨l,r,d,J⟩:=JV (BG Ll);have M:=Sg.mK (m:=[]) (u:=.fz (.int (g x y))) (us':=us.set n (.fz (.int (g x y)))) j.st e.st hi B3 P (λb c=>by rw[OV.Hq]at c;cases c) (by simp) (KZ.set n (.fz (.int _))) B (by
   rw[J];rw[d]at L;exact Rw L (by rw[OV.Hq];exact Qy) λb c=>by rw[OV.Hq]at c;cases c) λb c=>by
    rw[J,OV.Hq]at c;rcases List.mem_append.mp c with z|z
    .rcases List.mem_append.mp z with z|z
     .exact .inl (by rw[d];simp[z])
     .cases z
    .exact .inl (by rw[d];simp[z])
  exact hn _ Z F2 _ kk M (j.ff.trans e.ff)⟩
end
end Fz
namespace L2
section
variable{X:Cx}{o e:Expr}{td ty:TE}{apos Bd:Pos}
theorem mX(ho:QE X o td)(b:QE X e ty)(m:M1 X o "pop" apos e Bd):QE X (.Call (.Attribute o "pop" apos) [e] [] Bd) (Wc td ty):=⟨by
 have ho:=ho.h;have b:=b.h;intro Zy s Z H Q I h;refine wpAny_Call_method m.base m.few m.line PySem.F.plainAttrs_dict ZHY PySem.F.type_dict_pop (AQ (ho Zy s Z H _ I h) λu s1⟨x,H1,I1,i,a,ex,d,n⟩=>?_);subst ex;obtain rfl:u=Value.ref a:=i;obtain⟨f,c,_⟩:=qV I1 d;refine⟨f,c,?_⟩;rw[m.trees];refine nX rfl (bh (nY (AQ (b Zy s1 Z H1 _ I1 n) λt s2⟨y,H2,I2,g,A6,k,v,ea,p,l,j⟩=>nZ ?_)));subst p;exact rZ I2 ea g l (.inl rfl) λq r I3 G5=>⟨v,_,I3,G5,j⟩⟩
end
end L2
namespace Fz
open L2 Lw
theorem gs:∀{ks:List Key}{vs:List V}{key:Key}{n:Nat},ks.Nodup->CU ks key=some n->ks.length=vs.length->Jz (ks.zip vs) key=(ks.eraseIdx n).zip (vs.eraseIdx n)
 | [],_,_,_,_,h,_=>by cases h
 |_::_,[],_,_,_,_,hl=>by simp at hl
 |k'::ks,w::vs,key,n,nd,h,hl=>by
  obtain⟨n1,n2⟩:=List.nodup_cons.mp nd;rw[CU]at h;unfold Jz;rw[Jm,bu]
  by_cases c:k'=key
  .rw[rG c]at h;cases h;rw[qP (by simp[c])];show List.filter _ _=ks.zip vs;refine List.filter_eq_self.mpr λd f=>?_;have:d.1∈ks:=(Ue (a:=d.1) (b:=d.2) f).1;exact oW λz=>n1 (by rw[c,<- z];exact this)
  .rw[qP c]at h;cases e:CU ks key with
   |none=>rw[e]at h;cases h
   |some m=>
    rw[e]at h;cases h;rw[rG (oW c)];have g:=gs (vs:=vs) n2 e (by simpa using hl)
    unfold Jz at g;rw[g];rfl
theorem bf{α:Type}:∀(l:List α)(n:Nat),n<l.length->(l.eraseIdx n).length=l.length - 1
 | [],_,h=>by simp at h
 |_::_,0,_=>rfl
 |x::t,n+1,h=>by
  have h':n<t.length:=by simpa using h
  rw[Qs,Ca,bf t n h',Ca];omega
theorem BV.xl{F H:Hp}:∀{vs:List V}{us:List OV}(n:Nat),BV F H vs us->BV F H (vs.eraseIdx n) (us.eraseIdx n):=by
 intro vs us n r
 induction us generalizing vs n with
 |nil=>cases r.DS;exact .nil
 |cons p ps c=>
  obtain⟨v,ws,rfl,a,b⟩:=r.inv;cases n with
  |zero=>exact b
  |succ n=>exact .cons a (c n b)
theorem Yk:∀(us:List OV)(n:Nat),(OV.Ap (us.eraseIdx n)).Sublist (OV.Ap us)
 | [],_=>ZH9 _
 |u::us,0=>by rw[List.eraseIdx_cons_zero,OV.Cq];exact List.sublist_append_right _ _
 |u::us,n+1=>by rw[Qs,OV.Cq,OV.Cq];exact List.Sublist.append (ZH9 _) (Yk us n)
section
variable[Xw]
variable{ss:List Slot}{td ty:TE}{nx:List Slot->Prop}{R:Aq}{i:Nat}{t:OV}
theorem il(h:Wl ss i t td λp u=>∃lt a ks us,ss[i]?=some (.ow lt t)/\u=.nd (.B2 ks) a us/\ks.Nodup/\Wp ss ty λq=>∃key n,q=HM key/\CU ks key=some n/\nx (ss.set i (.ow lt (t.put p (.nd (.B2 (ks.eraseIdx n)) a (us.eraseIdx n)))))):Ws ss (Kt (Wc td ty)) nx R:=⟨λE D Z F H S hn V=>
 h.go E Z F H _ S λv p u F1 H1 d g B3⟨lt,a,ks,us,hi,G,y,h2⟩=>by
  subst G;have C:v=.ref a:=by cases g;rfl
  subst C;have N:=g;cases g with
  |@nd _ _ J9 _ k o A r=>
   refine⟨a,rfl,.inl ⟨_,.inl k⟩,h2.go E Z F1 H1 _ d.st λO q F2 H2 c w⟨key,n,I,hx,kk⟩=>?_⟩;subst I;have s:=N.mv d.st ⟨lt,hi⟩ B3 c;cases s with
   |@nd _ _ vs _ z Q B f=>
    have L:ks.length=vs.length:=B;have vl:=f.length;have K:n<ks.length:=(List.getElem?_eq_some_iff.mp (ZK hx)).1;have x:=BG (show n<vs.length by omega);refine⟨_,key,_,z,MI w,XO hx x,?_⟩;obtain⟨P,e0,T,DE,U⟩:=c.st.ok i _ hi;have j:(OV.nd (.B2 ks) a us).addrs.Nodup:=by
     obtain⟨l,f,J,_⟩:=OV.split B3;rw[J,Ct,Ct]at DE;exact DE.1.2.1
    rw[LB]at j;rw[gs y hx L];have M:=Sg.lY (m:=[]) (u:=.fz .A8) (ks':=ks.eraseIdx n) (us':=us.eraseIdx n) d.st c.st hi B3 (λb e=>by rw[OV.Hq]at e;cases e) (by simp) (f.xl n) (by rw[bf _ _ K,bf _ _ (by omega)];omega) ((List.nodup_cons.mp j).2.sublist (Yk us n)) λb e=>.inl ((Yk us n).subset e);exact hn _ Z F2 _ kk M (d.ff.trans c.ff)⟩
end
end Fz
namespace L2
def EJ(P:Program)(w:World)(K:ZIV)(mg:ZIX)(ZB:Heap)(C:Addr)(m:Str)(k:Nat)(ps:List Str)(sp:Sp):Prop:=
 ∃f fd,Cc P w K mg ZB El k f fd ps sp/\Binds K fd ps []/\Meth K C m f/\CF K C
def PU(P:Program)(w:World)(K:ZIV)(mg:ZIX)(ZB:Heap)(C:Addr)(k:Nat)(ps:List Str)(sp:Sp):Prop:=
 ∃f fd,Cc P w K mg ZB El k f fd ps sp/\Binds K fd ps []/\Mk K C f
section
variable{X:Cx}{o e:Expr}{es:List Expr}{m x:Str}{C:Addr}{k j:Nat}{ps:List Str}{sp:Sp}{ta:TE}{t:TA}{apos pos p:Pos}
theorem Hj{pl:Sem Bool}(h:EJ X.prog X.w X.K X.mg X.base C m k ps sp)(a:Bi j X.A)(g:k<=j)(i:QE X o ta)(l:QA X (e::es) t)
  (BM:starEach (e::es) X.env=(false,eval e X.env)::starEach es X.env:=by rfl) (BW:(backTo pos (starEach es X.env)).any (·.1)=false:=by rfl)
  (ht:eval (.Call (.Attribute o m apos) (e::es) [] pos) X.env=(do
   let ov <- eval o X.env
   standAt apos.atName
   let (f,first) <- holding [ov] (getMethod ov m pl)
   callWith pos f first (backTo pos (starEach (e::es) X.env)) (backToKw pos (keywordEach [] X.env))):=by rfl) :
  QE X (.Call (.Attribute o m apos) (e::es) [] pos) (Ng C m sp [] E0 ta t):=by
 obtain⟨f,fd,F,b,d,c⟩:=h;exact⟨ZFx i.h c d (F.mono g) a b .nil VR l.h BM BW ht⟩
theorem m9(h:PU X.prog X.w X.K X.mg X.base C k ps sp)(a:Bi (j+1) X.A)(d:k<=j)(c:X.mg x=some (.ref C))(i:QA X (e::es) t)(g:Gl X x:=by rfl)(BL:(x == ("__debug__":Str))=false:=by decide)
  (he:starEach (e::es) X.env=(false,eval e X.env)::starEach es X.env:=by rfl) (BW:(backTo pos (starEach es X.env)).any (·.1)=false:=by rfl):QE X (.Call (.Name x p) (e::es) [] pos) (ZJ C sp [] E0 t):=by
 obtain⟨f,fd,F,b,M⟩:=h;exact⟨uz M (F.mono d) a g c b .nil VR i.h BL he BW⟩
variable{prog:Program}{w:World}{A:Around}{E:Value->Shared->Prop}{s:Shared}
end
end L2
set_option maxHeartbeats 200000
set_option maxHeartbeats 4000000
namespace L2
def WO(K:ZIV)(S:Addr)(tb:(St->XK)->TS)(th:TS):TS:=λD Z H=>∃E1:St->XK,tb E1 D Z H/\
 ∀ σ1 C dx ea H1,E1 σ1 (.ref C) dx H1->H1 ea=none->PySem.W.exmOne K (.ref C) (.ref S)=some true/\th D σ1 H1
section
variable{X:Cx}{x:Str}{S:Addr}{body CQ:List Stmt}{b0:Stmt}{np Ie pos:Pos}{Ip:(St->XK)->TS}{th:TS}
theorem ZCz(BM:X.stack=X.env::X.outer)(M:X.ex=[])(J:Gl X x)(G:X.mg x=some (.ref S))
  (j:∀(pn:ZIW)(xe:Value->Shared->Prop)(E1:St->XK),Goes (X.EV pn xe) E1->Fh (X.EV pn xe) body (Ip E1))
  (hh:∀e,Fh (X.CQ e) (b0::CQ) th) (BL:(x == ("__debug__":Str))=false:=by decide) :
  QS X (.Try body [.ExceptHandler (some (.Name x np)) none (b0::CQ) Ie] [] [] pos) (WO X.K S Ip th):=⟨by
 have j:=λpn xe E1 g=>(j pn xe E1 g).h;have hh:=λe=>(hh e).h;intro Zy s Z H D I h;obtain⟨E1,h1,h2⟩:=h;have B:X.env.frame=some X.env.locals:=by
  rcases I.ok.Iy with e|⟨_,B⟩
  .rw[e]at BM;exact absurd (tq List.length BM) (by simp)
  .exact B
 refine wpAny_Try_except ?_;refine tN (j (X.pn++Zy) _ E1 ?_ [] s Z H D I.EV h1) (λf s1 q=>?_) (λe s1 q=>q)
 .intro Xa σ1 H1 s1 ea C dx tb I1 E ⟨A,m⟩ k i P;have c:Inv X Zy σ1 H1 s1:=I1.HE;have m:X.s₀.heap.get? ea=none:=m;have k:∀T,tb=some T->H1 T=none/\X.s₀.heap.get? T=none:=k;have i:∀p∈X.pn++Zy,p.1≠ea/\tb≠some p.1:=λp q=>i p (HY _ q);refine aQ (outer:=X.outer) (L:=X.env.locals) (by rw[<- BM];exact c.ok.frames) (ZB:=X.base) (by rw[<- BM];exact c.stack) B E λh' T kp a t=>?_;have n:=c.TN BM E A m k i kp;obtain⟨WU,Ve⟩:=h2 σ1 C dx ea H1 P A;refine wpAny_handleBy_cons ?_ (λz=>by cases z);refine codeAny_handlers_test ?_;refine JN (X:=X.CQ (.ref ea)) n.CQ J G ?_ BL;obtain⟨oe,vs,N,O,hd,Gh,hz,h3⟩:=t.obj;have Y:PySem.W.Looks (model X.prog X.w) h' (typeOf (.ref ea)) (.ref C):=by
   rw[<- O];exact(ZHe N).andThen .now
  refine(PySem.W.exm_one (K:=X.K) n.Bt Y WU).here ?_;refine codeAny_handlers_suite ?_;have Q:∀b∈CS (X.env::X.outer),∃o,h'.get? b=some o/\∀vs,o.data≠.fields vs:=λb j=>by
   have st:=n.stack;rw[BM]at st;obtain⟨_,o,ho,hn⟩:=st.mem j;exact⟨o,ho,hn⟩
  refine ZX (s:={ s1 with heap:=h' }) (l:=X.env::X.outer) t Q λh4 W8 x4=>?_
  have U:∀T',some T=some T'->H1 T'=none/\X.s₀.heap.get? T'=none:=λT' R=>by
   cases R;exact a.elim (λa=>⟨c.AJ.fresh a,OE (Bg c.sz a)⟩) (k T)
  have V:∀p∈X.pn++Zy,p.1≠ea/\some T≠some p.1:=λp q=>⟨(i p q).1,λz=>a.elim (λa=>by
   have F:=BA (c.pin p q).1;rw[<- Bo z]at F;exact absurd F (Nat.not_lt.mpr a)) λy=>(i p q).2 (y.trans z)⟩
  have σ:=n.TN BM t A m U V W8;refine tN (hh (.ref ea) Zy _ _ _ D σ.CQ Ve) (λf s7 q=>?_) (λ_ _ z=>z.elim);cases f with
  |next=>
   obtain⟨σ7,H7,I7,d⟩:=q;exact⟨_,_,I7.Kv I.ok,d⟩
  |brk=>
   obtain⟨σ7,H7,I7,d⟩:=q;exact⟨_,_,I7.Kv I.ok,d⟩
  |cont=>
   obtain⟨σ7,H7,I7,d⟩:=q;exact⟨_,_,I7.Kv I.ok,d⟩
  |ret u=>
   obtain⟨v,σ7,H7,I7,r,d⟩:=q;exact⟨v,_,_,I7.Kv I.ok,r,d⟩
 .cases f with
  |next=>
   obtain⟨σ7,H7,I7,d⟩:=q;exact vx ⟨_,_,I7.HE,d⟩
  |brk=>
   obtain⟨σ7,H7,I7,d⟩:=q;exact⟨_,_,I7.HE,d⟩
  |cont=>
   obtain⟨σ7,H7,I7,d⟩:=q;exact⟨_,_,I7.HE,d⟩
  |ret u=>
   obtain⟨v,σ7,H7,I7,r,d⟩:=q;exact⟨v,_,_,I7.HE,r,d⟩⟩
end
end L2
namespace Fz
open L2 Lw
section
variable[Xw]
variable{ss:List Slot}{nx:List Slot->Prop}{R:Aq}{K:ZIV}{S:Addr}{tb:(L2.St->XK)->TS}{th:TS}{ta te ti:TE}{xs:List PV}{F:Hp}
theorem ZGD(J:List Slot->Prop)(Dx:Ex->Prop)(g:∀E:Ent0,@Ws (HF E J Dx) ss (tb (HF E J Dx).e) nx R)
  (hh:∀Hx x,J Hx->Dx x->PySem.W.exmOne K (.ref x.C) (.ref S)=some true/\Ws Hx th nx R):Ws ss (WO K S tb th) nx R:=⟨λE D Z F H S0 hn b=>by
 refine⟨(HF (E.toEnt0.at F) J Dx).e,@Ws.go (HF (E.toEnt0.at F) J Dx) _ _ _ _ (g (E.toEnt0.at F)) (@Ent.mk (HF (E.toEnt0.at F) J Dx) (E.toEnt0.at F) λss Z F H x C dx a S d B3=>⟨ss,F,x,a,S,d,B3⟩) D Z F H S0.k9 (λAN σ' F' H' n S' ff=>hn AN σ' F' H' n (S0.un S') ff) (λv F' H' f ok=>b v F' H' (S0.toFin.un f) (Aq.un ok)),λσ1 C dx ea H1 c Lj=>?_⟩;obtain⟨Hx,F1,x,a,S1,h,i,B3⟩:=c;obtain⟨K4,hw⟩:=hh Hx x a h;cases i;have j:=S0.un S1;exact⟨K4,hw.go E D _ _ _ j (λDf σ2 F3 H3 n2 S2 ff=>hn _ _ F3 H3 n2 S2 (S1.f0.trans ff)) λv F' H' f ok=>b v F' H' f ok⟩⟩
end
end Fz
namespace Fz
open L2 Lw
variable{ss:List Slot}{ta tb:TE}
section
variable[Xw]
variable{E:Ent0}{Z:L2.St}{F H F' H':Hp}{K:ZIV}{tc te:TE}{k:PV->Prop}{xs:List PV}{nx:List Slot->Prop}{R:Aq}
variable{pre:Ez}{t:TA}
theorem ZAF{k:List Nat->OV->Prop}(h:Wa ss t λl=>∃k' D,pre l (.ow k') D/\Xw.J ss/\(∀x,D x->Xw.D x)/\∀u,k' u->k [] u):Wx ss (My (Ci pre) Xw.e t) k:=⟨λE Z F H Q S q=>
 h.go E Z F H _ S λvs l F1 H1 b a⟨k',D,j,m,n,kk⟩=>by
  refine⟨l,.ow k',D,F1,[],j,b.st.Pm a,λv F' H' f⟨u,r,nd,c,i⟩=>?_,λx C dx F' H' f d B3=>?_⟩
  .exact q v [] u F' H' (b.trans (b.st.back (λ_ h=>absurd h BB) f)) r nd (λa g=>⟨(c a g).1,S.EK (b.none (c a g).2),.inr (b.none (c a g).2)⟩) (kk u i)
  .exact E.hx ss Z F' H' x C dx m (b.st.back (λ_ h=>absurd h BB) f).st (n x d) B3⟩
end
end Fz
namespace L2
noncomputable def Ji(s:Stmt)(n:Nat):Stmt:=match s with
 | .ClassDef _ _ _ b ..=>b.getD n (.Pass ⟨0,0,0,0⟩)
 |s=>s
end L2
namespace Fz
open L2 Lw
@[reducible] noncomputable def xwM (X:XK) (t:OV) (D:Ex->Prop):Xw:=⟨λ_=>X,λss=>ss[0]?=some (.ow true t),D⟩
variable{R:Aq}{AN ss:List Slot}
section
variable{pre:Ez}{H:Hp}
def UK(R:Aq)(AN:List Slot):Prop:=∃(k:PV->OV->Prop)(nk:NK)(a:Addr)(us:List OV),R=.mt k/\AN[0]?=some (.ow true (.nd nk a us))/\k .A8 (.nd nk a us)
theorem UK.ok{E:Ent0}{Z:L2.St}{F:Hp}(h:UK R AN)(S:Sg E AN Z F H):R.ok E F H .A8:=by
 obtain⟨k,nk,a,us,rfl,i,g⟩:=h;obtain⟨f,e0,c,DE,d⟩:=S.ok 0 _ i;have j:f=.ref a:=by cases c;rfl
 subst j;exact⟨.A8,.nd nk a us,.A8,c,DE,λb e=>⟨(d b e).1,(d b e).2.imp id λz=>z.2⟩,g⟩
end
end Fz
namespace L2
section
variable{prog:Program}{w:World}{A:Around}{E:Value->Shared->Prop}{s:Shared}
theorem gA:typeLookup (.type "dict") "__len__"=pure (some (.builtin "dict.__len__")):=by rw[ZAw,ze];kernel_rfl
theorem qA{S:Addr}{A6:List (Key×Value)}{n:Nat}{Q:List Value->Shared->Prop}(hh:A.handled=none)(IM:(S == sysModules)=false)(f:s.heap.DictOf (CP prog w) S A6)(t:A6.length=n)(hn:n<=sizeLine)
  (h:∀(s':Shared)(vs:List Value),(∀b o,s.heap.get? b=some o->s'.heap.get? b=some o)->s.heap.objs.size<=s'.heap.objs.size->s'.gens=s.gens->s'.os=s.os->vs.length=n->(∀(i:Nat)v,vs[i]?=some v->∃k x,A6[i]?=some (k,x)/\(CP prog w).is k v=true)->Q vs s') :
  wpAny (model prog w) A (collect (.ref S)) Q E s:=by
 obtain⟨d,f⟩:=f.dictAt;have I:S<s.heap.objs.size:=f.lt_size;have y:s.heap.objs.size≠S:=OL I;unfold collect;refine oS (wpAny_runValue (ZAO F.entry_proto_collect ?_));rw[Around.under_plainId F.plain_proto_collect _];show wpAny _ A.in1 (newList [] >>= λl=>again (.builtin "list.__iadd__" ⟨[l,.ref S],[]⟩)) _ _ s;refine oS (vH ?_);refine qh ⟨ZAX F.plain_list_iadd _,ZAO F.entry_list_iadd ?_⟩;rw[Around.under_plainId F.plain_list_iadd _];generalize u:({ cls:=.type "list", data:=.seq ([]:List Value).toArray }:Obj)=so;have m:(s.heap.push so).DictAt (CP prog w) S A6 d:=f.push _;have g:(s.heap.push so).get? s.heap.objs.size=some so:=CI _ (by rw[<- u];rfl);have sz:(s.heap.push so).objs.size=s.heap.objs.size+1:=Gd ..;have H:Shared.TypeIs { s with heap:=s.heap.push so } (.ref S) "dict" := m.dictOf.typeIs
 have h1:Builtin.List.listSameRef (.ref s.heap.objs.size) (.ref S)=false:=by simp[Builtin.List.listSameRef,y]
 show wpAny _ A.in1 (Builtin.List.listExtendWith (.ref s.heap.objs.size) (.ref S) (.ref s.heap.objs.size)) _ _ { s with heap:=s.heap.push so }
 unfold Builtin.List.listExtendWith;refine oS (vS H ?_);rw[qP (by rw[h1];decide)];refine oS (wpAny_pyIter_dict (s:={ s with heap:=s.heap.push so }) IM m ?_)
 dsimp only;generalize j:({ cls:=.type "dict_keyiterator", data:=.fields #[.ref S,.int 0 0,.int A6.length 0,.int d 0] }:Obj)=io;have kp:∀b o,(s.heap.push so).get? b=some o->((s.heap.push so).push io).get? b=some o:=λb o e=>Bb _ e;have P:S≠(s.heap.push so).objs.size:=by rw[sz];exact Bn (L9 I)
 have W:∀A2:Around,A2.handled=none->Walks prog w A2 (s.heap.push so).objs.size [(s.heap.push so).objs.size,S] [(s.heap.push so).objs.size] A6.length _ _:=λA2 h2=>Walks.dictKeys (knd:=CP prog w) h2 (s.heap.push so).objs.size S P A6 d;have Dz:((s.heap.push so).push io).IsKeyIter (s.heap.push so).objs.size S 0 A6.length d/\((s.heap.push so).push io).DictAt (CP prog w) S A6 d:=⟨⟨io,CI _ (by rw[<- j];rfl),by rw[<- j],by rw[<- j];rfl⟩,m.push _⟩;have D:s.heap.objs.size∉[(s.heap.push so).objs.size,S]:=λc=>by
  simp only[HZ,BB,ZAn]at c;rcases c with z|z
  .rw[sz]at z;omega
  .exact y z
 generalize R:(s.heap.push so).push io=h2 at kp Dz ⊢;have p:Shared.TypeIs { s with heap:=h2 } (.ref S) "dict" := by obtain⟨o,ho,O⟩:=H;exact⟨o,kp _ _ ho,O⟩
 refine oS (tu ?_);unfold Builtin.List.listLengthHint;refine oS (yR p gA ?_);generalize C:("dict.__len__":String)=Pl
 wp_delta
 rw[show splitId Pl=some ("dict","__len__")from by subst C;decide +kernel];subst C;refine oS (ZAo (b:=true) p (by rw[ZB3];kernel_rfl) ?_);rw[qP (by decide)];refine ZAM (λ_=>?_) (λE5=>absurd (by decide +kernel) E5);refine oS (vS p ?_);refine qh ?_;refine ZAM (λ_=>?_) (λE5=>absurd (by decide +kernel) E5);refine oS (yJ ?_);refine oS ?_;show wpAny _ _ (updateSeq s.heap.objs.size (·.push .none) >>= λ_=>updateSeq s.heap.objs.size (·.pop)) _ _ _
 have L:(#[]:Array Value).size<=sizeLine:=Cn _;have q:((#[]:Array Value).push Value.none).size<=sizeLine:=by show 1<=sizeLine;decide
 have K:((#[]:Array Value).push Value.none).size<=sizeLine+1:=oB q;have J:(((#[]:Array Value).push Value.none).pop).size<=sizeLine+1:=Cn _;have B:=kp _ _ g;subst u;refine oS (vo (s:={ s with heap:=h2 }) B rfl ?_ L K)
 have r:=J6 (Obj.mapSeq (·.push Value.none)) B rfl
 refine vo r rfl ?_ q J;have M:=J6 (Obj.mapSeq (·.pop)) r rfl
 have G:∀b o,b≠s.heap.objs.size->h2.get? b=some o->((h2.update s.heap.objs.size (Obj.mapSeq (·.push Value.none))).update s.heap.objs.size (Obj.mapSeq (·.pop))).get? b=some o:=
  λb o a e=>(FX _ _ (BN a)).trans ((FX _ _ (BN a)).trans e)
 refine qh ⟨ZAX ZHX _,ZAI (W A.in1 hh).toS (t▸hn) _ D _ A6.length 0 _ #[] _ rfl (Cn _) ?_ M (ItemsOf.nil _) λs' EA T c DA BD=>?_⟩
 .exact(W A.in1 hh).frame 0 h2 _ Dz λb a o e=>G b o (λz=>D (z▸a)) e
 .show wpAny _ A (load s.heap.objs.size >>= _) _ _ s';refine oS (wpAny_load DA ?_);refine qh ?_;refine h s' EA.toList (λb o e=>?_) (OK (BA DA)) c.gens c.os (by rw[MU,BD.1];exact t) λi v N=>BD.2 i v (by rw[<- UX];exact N);have a:b<s.heap.objs.size:=BA e;refine c.heap b o ?_ (G b o (Bn a) (kp b o (Bb _ e)));simp only[HZ,BB,ZAn,not_or];refine⟨Bn a,?_⟩;rw[sz];exact Bn (L9 a)
end
theorem ir{prog:Program}{w:World}:∀{ns:List Str}{A6:List (Key×Value)}{vs:List Value},A6.map (·.1)=ns.map Sum.inr->vs.length=A6.length->(∀(i:Nat)v,vs[i]?=some v->∃k x,A6[i]?=some (k,x)/\(CP prog w).is k v=true)->StrsAre vs ns
 | [],[],[],_,_,_=>.nil
 | [],[],_::_,_,h,_=>by simp at h
 | [],_::_,_,h,_,_=>by simp at h
 |_::_,[],_,h,_,_=>by simp at h
 |_::_,_::_,[],_,h,_=>by simp at h
 |n::ns,kv::A6,v::vs,e,hl,h=>by
  rw[C8,C8]at e;injection e with e1 e2
  obtain⟨k,x,c,b⟩:=h 0 v rfl;have d:kv=(k,x):=by simpa using c
  subst d;have f:k=Sum.inr n:=e1;subst f;rcases Hu (show Kk (Sum.inr n) v=true from b)with⟨i,t,z,_⟩|⟨y,t,z,rfl⟩
  .cases z
  .cases z;exact .cons n t (ir e2 (by simpa using hl) λi v a=>h (i+1) v a)
theorem StrsAre.ig{vs:List Value}{ns:List Str}(h:StrsAre vs ns):vs.length=ns.length:=by induction h with|nil=>rfl|cons y t h a=>simp[a]
end L2
namespace Fz
open L2 Lw
theorem TQ:∀{ks:List Key}{vs:List V},ks.length=vs.length->(ks.zip vs).map (·.1)=ks
 | [],[],_=>rfl
 | [],_::_,h=>by simp at h
 |_::_,[],h=>by simp at h
 |k::ks,v::vs,h=>by
  rw[Jm,C8,TQ (by simpa using h)]
end Fz
namespace L2
section
variable{prog:Program}{w:World}{A:Around}{s:Shared}{R:Result->Shared->Prop}
theorem vN{L S:Addr}{c0:Nat}{res:Value}{A6:List (Key×Value)}{n:Nat}(hh:A.handled=none)(IM:(S == sysModules)=false)(m:s.heap.get? L=some { cls:=.type "list", data:=.seq #[] c0 })(vE:s.heap.DictOf (CP prog w) S A6)(en:A6.length=n)(hn:n<=sizeLine)
  (h:∀(s':Shared)(vs:List Value)(d:Nat),(∀b o,b≠L->s.heap.get? b=some o->s'.heap.get? b=some o)->L<s'.heap.objs.size->s'.gens=s.gens->s'.os=s.os->s'.heap.get? L=some { cls:=.type "list", data:=.seq vs.toArray d }->vs.length=n->(∀(i:Nat)v,vs[i]?=some v->∃k x,A6[i]?=some (k,x)/\(CP prog w).is k v=true)->R (.ok (.ret res)) s') :
  wpAny (model prog w) A.in1 (Builtin.List.listExtendWith (.ref L) (.ref S) res)
   (λp s'=>match p with | .done f=>R (.ok f) s' | .again d=>d.quiet=true/\codeAny (model prog w) A d R s') (λe s'=>R (.error e) s') s:=by
 obtain⟨j,g⟩:=vE.dictAt;have P:S<s.heap.objs.size:=g.lt_size;have B:L≠S:=λz=>by
  subst z;obtain⟨o,ho,l⟩:=g.dictOf.typeIs;rw[m]at ho;cases ho;exact absurd l (by show ¬ Value.type "list"=Value.type "dict"; decide)
 have G:Shared.TypeIs s (.ref S) "dict" := g.dictOf.typeIs;have h1:Builtin.List.listSameRef (.ref L) (.ref S)=false:=by simp[Builtin.List.listSameRef,B]
 unfold Builtin.List.listExtendWith;refine oS (vS G ?_);rw[qP (by rw[h1];decide)];refine oS (wpAny_pyIter_dict (s:=s) IM g ?_);dsimp only;generalize r:({ cls:=.type "dict_keyiterator", data:=.fields #[.ref S,.int 0 0,.int A6.length 0,.int j 0] }:Obj)=io;have kp:∀b o,s.heap.get? b=some o->(s.heap.push io).get? b=some o:=λb o e=>Bb _ e;have O:S≠s.heap.objs.size:=Bn P;have W:∀A2:Around,A2.handled=none->Walks prog w A2 s.heap.objs.size [s.heap.objs.size,S] [s.heap.objs.size] A6.length _ _:=λA2 h2=>Walks.dictKeys (knd:=CP prog w) h2 s.heap.objs.size S O A6 j;have Dz:(s.heap.push io).IsKeyIter s.heap.objs.size S 0 A6.length j/\(s.heap.push io).DictAt (CP prog w) S A6 j:=⟨⟨io,CI _ (by rw[<- r];rfl),by rw[<- r],by rw[<- r];rfl⟩,g.push _⟩;have E:L∉[s.heap.objs.size,S]:=λc=>by
  simp only[HZ,BB,ZAn]at c;rcases c with z|z
  .have q:L<s.heap.objs.size:=BA m;rw[z]at q;exact MZ _ q
  .exact B z
 generalize Q:s.heap.push io=h2 at kp Dz ⊢;have t:Shared.TypeIs { s with heap:=h2 } (.ref S) "dict" := by obtain⟨o,ho,l⟩:=G;exact⟨o,kp _ _ ho,l⟩
 refine oS (tu ?_);unfold Builtin.List.listLengthHint;refine oS (yR t gA ?_);generalize D:("dict.__len__":String)=Pl
 wp_delta
 rw[show splitId Pl=some ("dict","__len__")from by subst D;decide +kernel];subst D;refine oS (ZAo (b:=true) t (by rw[ZB3];kernel_rfl) ?_);rw[qP (by decide)];refine ZAM (λ_=>?_) (λE5=>absurd (by decide +kernel) E5);refine oS (vS t ?_);refine qh ?_;refine ZAM (λ_=>?_) (λE5=>absurd (by decide +kernel) E5);refine oS (yJ ?_);refine oS ?_;show wpAny _ _ (updateSeq L (·.push .none) >>= λ_=>updateSeq L (·.pop)) _ _ _
 have J:(#[]:Array Value).size<=sizeLine:=Cn _;have u:((#[]:Array Value).push Value.none).size<=sizeLine:=by show 1<=sizeLine;decide
 have I:((#[]:Array Value).push Value.none).size<=sizeLine+1:=oB u;have H:(((#[]:Array Value).push Value.none).pop).size<=sizeLine+1:=Cn _;have C:=kp _ _ m;refine oS (vo (s:={ s with heap:=h2 }) C rfl ?_ J I)
 have y:=J6 (Obj.mapSeq (·.push Value.none)) C rfl
 refine vo y rfl ?_ u H;have K:=J6 (Obj.mapSeq (·.pop)) y rfl
 have F:∀b o,b≠L->h2.get? b=some o->((h2.update L (Obj.mapSeq (·.push Value.none))).update L (Obj.mapSeq (·.pop))).get? b=some o:=
  λb o a e=>(FX _ _ (BN a)).trans ((FX _ _ (BN a)).trans e)
 refine qh ⟨ZAX ZHX _,ZAI (W A.in1 hh).toS (en▸hn) _ E _ A6.length 0 _ #[] _ rfl (Cn _) ?_ K (ItemsOf.nil _) λs' EA d c DA BD=>?_⟩
 .exact(W A.in1 hh).frame 0 h2 _ Dz λb a o e=>F b o (λz=>E (z▸a)) e
 .have hsz:L<s'.heap.objs.size:=BA DA;refine h s' EA.toList d (λb o a e=>?_) hsz c.gens c.os DA (by rw[MU,BD.1];exact en) λi v M=>BD.2 i v (by rw[<- UX];exact M);have N:b<s.heap.objs.size:=BA e;refine c.heap b o ?_ (F b o a (kp b o e));simp only[HZ,BB,ZAn,not_or];exact⟨a,Bn N⟩
end
theorem kl{prog:Program}{w:World}:∀{ks:List Key}{A6:List (Key×Value)}{vs:List Value},A6.map (·.1)=ks->vs.length=A6.length->(∀(i:Nat)v,vs[i]?=some v->∃k x,A6[i]?=some (k,x)/\(CP prog w).is k v=true)->Vals (ks.map kV) vs
 | [],[],[],_,_,_=>.nil
 | [],[],_::_,_,h,_=>by simp at h
 | [],_::_,_,h,_,_=>by simp at h
 |_::_,[],_,h,_,_=>by simp at h
 |_::_,_::_,[],_,h,_=>by simp at h
 |n::ns,kv::A6,v::vs,e,hl,h=>by
  rw[C8]at e;injection e with e1 e2
  obtain⟨k,x,c,b⟩:=h 0 v rfl;have d:kv=(k,x):=by simpa using c
  subst d;have f:k=n:=e1;subst f;refine .cons ?_ (kl e2 (by simpa using hl) λi v a=>h (i+1) v a)
  rcases Hu (show Kk k v=true from b)with⟨i,t,rfl,rfl⟩|⟨y,t,rfl,rfl⟩
  .exact⟨t,rfl⟩
  .exact⟨t,rfl⟩
section
variable{X:Cx}
def aO:List V->Hp->VK->Prop:=λxs H Q=>∃(p:Addr)(A6:List (Key×V)),xs=[.ref p]/\Rd H p (.dK A6)/\A6.length<=1000/\∀l:Addr,H l=none->Q (.ref l) (upd H l (.lst ((A6.map (·.1)).map kV)))
theorem Qf(C:X.calm=true):DW X (.type "list") aO:=by
 intro Zy s Z H xs us Q I r h;obtain⟨p,A6,rfl,D,N,q⟩:=h;obtain⟨u,rfl,z⟩:=vals1 r;cases z;obtain⟨j,IM,J9,rel,k⟩:=JB I.AJ D;have hh:X.A.handled=none:=I.ok.hd C;have M:p<s.heap.objs.size:=by obtain⟨l,h2⟩:=k.dictAt;exact h2.lt_size
 have P:p≠s.heap.objs.size:=Bn M;refine callType_codes (Q₁:=λobj i=>obj=.ref s.heap.objs.size/\i={ s with heap:=s.heap.push { cls:=.type "list", data:=.seq #[] } }) F.called_list (F.typeCall_list_1 _) F.entry_list_init
  (code_list_new _ ⟨rfl,rfl⟩) λobj i B=>?_
 obtain⟨rfl,rfl⟩:=B;have d:(s.heap.push { cls:=.type "list", data:=.seq #[] }).get? s.heap.objs.size=some { cls:=.type "list", data:=.seq #[] }:=CI _ rfl;refine⟨⟨_,d,rfl⟩,F.args_list_init_2 _ _,?_⟩;show wpAny _ X.A.in1.in1 (do let c <- Builtin.List.listItems (.ref s.heap.objs.size);Builtin.List.listUpdate (.ref s.heap.objs.size) (λ_=>#[]);letGo c.toList.reverse;Builtin.List.listExtendWith (.ref s.heap.objs.size) (.ref p) .none) _ _ _
 refine oS ?_;unfold Builtin.List.listItems;refine oS (wpAny_seqItems d rfl (qh ?_));show wpAny _ X.A.in1.in1 (updateSeq s.heap.objs.size (λ_=>#[]) >>= λ_=>letGo (#[]:Array Value).toList.reverse >>= λ_=>Builtin.List.listExtendWith (.ref s.heap.objs.size) (.ref p) .none) _ _ _;refine oS (vo d rfl ?_);have g:=J6 (Obj.mapSeq (λ_=>(#[]:Array Value))) d rfl;have c:∀b o,s.heap.get? b=some o->((s.heap.push { cls:=.type "list", data:=.seq #[] }).update s.heap.objs.size (Obj.mapSeq (λ_=>(#[]:Array Value)))).get? b=some o:=λb o e=>
  (FX _ _ (OL (BA e))).trans (Bb _ e)
 have f:((s.heap.push { cls:=.type "list", data:=.seq #[] }).update s.heap.objs.size (Obj.mapSeq (λ_=>(#[]:Array Value)))).DictOf (CP X.prog X.w) p J9:=by
  obtain⟨o,es,l,ho,rest⟩:=k;exact⟨o,es,l,c _ _ ho,rest⟩
 refine oS (wpAny_letGo ?_);refine vN (A:=X.A.in1) hh IM g f rfl (by rw[<- rel.length];exact j) λs' vs G v L t n m K J=>?_;have x:Vals ((A6.map (·.1)).map kV) vs:=by
  rw[rel.keys];exact kl rfl K J
 refine⟨rfl,?_⟩;obtain⟨h1,g1,E,y,O⟩:=s';simp only at v L t n m;subst t;subst n;refine⟨.ref _,_,(I.drew E).laid (a:=s.heap.objs.size) (h':=h1) (t':=y) (o:=.lst ((A6.map (·.1)).map kV)) (λb o e=>v b o (Bn (BA e)) (c b o e)) (Az _) ?_,rfl,q _ (I.AJ.fresh (Az _))⟩
 exact⟨by rw[AL,AL];exact j,vs,G,x,m⟩
def gP:List V->Hp->VK->Prop:=λxs H Q=>∃(p:Addr)(A6:List (Key×V)),xs=[.ref p]/\Rd H p (.dK A6)/\Q (.int A6.length) H
theorem ZFG:DW X (.builtin "len") gP:=by
 intro Zy s Z H xs us Q I r h;obtain⟨p,A6,rfl,b,q⟩:=h;obtain⟨u,rfl,a⟩:=vals1 r;cases a;exact ZCK I b λt s' I'=>⟨.int A6.length,H,I',⟨t,rfl⟩,q⟩
variable{i o:Expr}{ty td:TE}{pos:Pos}
theorem lX(a:X.A.units+1<cLine)(hi:QE X i ty)(ho:QE X o td)(b:behindInMarks .In o=false:=by with_unfolding_all rfl):QT X (.Compare i [.In] [o] pos) (tB (Z7 ty td)):=⟨ky (qN a hi.h ho.h) b⟩
theorem RU(a:X.A.units+1<cLine)(hi:QE X i ty)(ho:QE X o td)(b:behindInMarks .NotIn o=false:=by with_unfolding_all rfl):QT X (.Compare i [.NotIn] [o] pos) (tB (RW ty td)):=⟨ky (ZGk a hi.h ho.h) b⟩
end
end L2
namespace Fz
open L2 Lw
theorem Sd{F:Hp}:∀ks:List Key,Aa F (ks.map kV) (ks.map HM)
 | []=>.nil
 | .inl i::ks=>.cons (.int i) (Sd ks)
 | .inr x::ks=>.cons (.str x) (Sd ks)
section
variable[Xw]
variable{E:Ent0}{ss:List Slot}{Z:L2.St}{F H F' H':Hp}{K:ZIV}{i:Nat}{t:OV}{ta tb tc te:TE}{nx:List Slot->Prop}{R:Aq}
theorem aE{k:List PV->Prop}(h:Wp ss te λp=>∃(ks:List Key)(xs:List PV),p=.B2 ks xs/\ks.length<=1000/\k (ks.map HM)):Wn ss (Dk aO (Al te BR)) k:=⟨λE Z F H Q S q=>
 h.go E Z F H _ S λv p F1 H1 b c AH=>by
  obtain⟨ks,xs,e,j,kk⟩:=AH;subst e;cases c with
  |@B2 a _ vs _ g f i=>
   refine⟨a,_,rfl,.inl (b.st.fh _ _ g),by rw[OI];omega,λl CZ=>?_⟩;rw[TQ f];have d:=b.st.make CZ (.lst (ks.map kV));exact q l _ _ F1 _ (b.trans d) (b.st.CA CZ) (b.none CZ) AW (Sd ks) kk⟩
theorem ZCD{k:PV->Prop}(h:Wp ss te λp=>∃(ks:List Key)(xs:List PV),p=.B2 ks xs/\k (.int ks.length)):Wp ss (Dk gP (Al te BR)) k:=⟨λE Z F H Q S q=>
 h.go E Z F H _ S λv p F1 H1 b c AH=>by
  obtain⟨ks,xs,e,kk⟩:=AH;subst e;cases c with
  |@B2 a _ vs _ f d g=>
   refine⟨a,_,rfl,.inl (b.st.fh _ _ f),?_⟩;rw[OI,<- d,cC];exact q _ _ F1 H1 b (.int _) kk⟩
theorem i7{k:List PV->Prop}(h:Wl ss i t te λ_ u=>∃(ks:List Key)(a:Addr)(us:List OV),u=.nd (.B2 ks) a us/\ks.length<=1000/\k (ks.map HM)):Wn ss (Dk aO (Al te BR)) k:=⟨λE Z F H Q S q=>
 h.go E Z F H _ S λv p u F1 H1 b r B3 AH=>by
  obtain⟨ks,a,us,f,m,kk⟩:=AH;subst f;obtain⟨vs,rfl,d,g,e,j⟩:=r.inv;refine⟨a,_,rfl,.inl d,by rw[OI];omega,λl CZ=>?_⟩;rw[TQ e];have c:=b.st.make CZ (.lst (ks.map kV));exact q l _ _ F1 _ (b.trans c) (b.st.CA CZ) (b.none CZ) AW (Sd ks) kk⟩
end
end Fz
namespace L2
variable{values vs:List Expr}{FV:List (TE×TE)}
section
variable{X:Cx}{pos:Pos}
theorem ZBk:KO X pos [] [] []:=ZB6
theorem ZV{k v:Expr}{ks:List (Option Expr)}{tk tv:TE}(c:QE X k tk)(a:QE X v tv)(b:KO X pos ks vs FV):KO X pos (some k::ks) (v::vs) ((tk,tv)::FV):=oY c.h a.h b
theorem qU{keys:List (Option Expr)}(h:KO X pos keys values FV)(KW:keys.all (·.isSome)=true)(j:keys.length=values.length)(l:keys≠[])(Rk:keys.length<=15):QE X (.Dict keys values pos) (aH FV):=⟨by
 intro Zy s Z H Q I q;have hn:=I.AJ.fresh (Az s.heap.objs.size);have n:=I.laid (a:=s.heap.objs.size) (o:=.dK []) (h':=s.heap.push { cls:=.type "dict", data:=.dict #[] }) (t':=s.toks) (λ_ _ q=>Bb _ q) (Az _) (jt s.heap I.big);refine wpAny_Dict_walk (knd:=CP X.prog X.w) KW j l Rk (AQ (h Zy _ Z _ _ n (q _ hn)) λws s2⟨ps,H2,I2,rel,e,A6,m,p,f⟩=>?_);subst m;obtain⟨rs,c,b⟩:=l9 (P:=X.prog) (w:=X.w) rel;obtain⟨z,hd,J9,d,dd⟩:=bD I2.AJ e;cases d;refine⟨rs,c,dd,λh' Iw i=>⟨.ref s.heap.objs.size,_,?_,rfl,f⟩⟩;have g:(L4 [] A6).length<=sizeLine:=by
  have h1:=fi A6 [];rw[c5]at h1;rw[ZAz];omega
 have k:∃q,h'.get? s.heap.objs.size=some q:=let ⟨q,_,_,hq,_⟩:=Iw;⟨q,hq⟩;exact SM I2 (by rw[e];exact True.intro) i k (WA g hd (b.merge .nil) Iw)⟩
end
theorem nU:∀(more acc:List (Key×V)),((acc++more).map (·.1)).Nodup->L4 acc more=acc++more
 | [],acc,_=>by rw[G0];rfl
 |p::r,acc,h=>by
  show L4 (putK acc p.1 p.2) r=_;have c:acc.any (λa=>decide (a.1=p.1))=false:=by
   rw[ZHA];intro q b e;have d:=rE e;rw[E4,C8,Ct]at h;exact h.2.2 q.1 (List.mem_map.mpr ⟨q,b,rfl⟩) p.1 D5 d
  have e:putK acc p.1 p.2=acc++[p]:=by
   unfold putK;rw[c];rfl
  rw[e,nU r (acc++[p]) (by rw[C4];exact h),C4];rfl
end L2
namespace Fz
open L2 Lw
variable{ss:List Slot}{Z:L2.St}{F H:Hp}{C S a aL aS b dx p:Addr}{ta:TA}{Q:VK}{te:TE}{i j n:Nat}{t u w y z:OV}{pre:Pre}{ls m:List Lp}{nx:List Slot->Prop}{R:Aq}{x:Str}{us:List OV}{l:Lp}{N ns:List Str}{d:Ae}{d':Af}{c:GG}
section
variable[Xw]
theorem zh{E:Ent0}{F1 H1:Hp}{o:HO}(S:Sg E ss Z F H)(m:Mv E ss Z F H F1 H1)(b:H p=none)(d:F1 p=none):Mv E ss Z F H F1 (upd H1 p o):=
 S.step m.ff (λa u e=>by rw[AY (by rintro rfl;rw[d]at e;cases e)];exact m.st.fh a u e)
  (λa u n e=>by rw[AY (by rintro rfl;rw[b]at e;cases e)];exact m.hh a u n e) m.nn
  λi l hi e=>Bz.keep (m.st.En hi e) λu f=>by
   rw[AY (by
    rintro rfl;obtain⟨_,_,c,_⟩:=S.En hi e;rw[b]at c;cases c)]
   exact f
theorem qo{k:List Nat->OV->Prop}{E:Ent}(ks:List Str)(J:ks.Nodup)(Rk:ks.length<=15)(S:Sg E ss Z F H)(d:H p=none)
  (h:Mg ss ta λm us=>us.length=ks.length/\∀l,k m (.nd (.B2 (ks.map Sum.inr)) l us))
  (q:∀v m u F' H',Mv E ss Z F H F' H'->BI F' H' v u->u.addrs.Nodup->(∀a∈u.addrs,F' a=none/\E.H0 a=none/\((∃i∈m,∃s,s≠Slot.AV/\ss[i]?=some s/\Be s Z[i]? a)∨H a=none))->k m u->Q v H') :
  ta Z (upd H p (.dK [])) λvs H2=>H2 p=some (.dK [])/\∃A6:List (Key×V),List.zipWith (λs v=>(V.str s,v)) ks vs=A6.map (λj=>(kV j.1,j.2))/\A6.length<=15/\Q (.ref p) (upd H2 p (.dK (L4 [] A6))):=by
 have t:=S.make d (.dK []);have B:F p=none:=S.CA d;refine h.go E Z F _ _ t.st λvs m us F1 H1 n r ID y⟨I,kk⟩=>?_;have C:H1 p=some (.dK []):=n.hh p _ (S.PY d) AW;have x:F1 p=none:=by
  cases e:F1 p with
  |none=>rfl
  |some o=>
   rcases n.nn p o e with z|z
   .rw[B]at z;cases z
   .rw[AW]at z;cases z
 have D:vs.length=ks.length:=by rw[r.length,I]
 have L:List.zipWith (λs v=>(V.str s,v)) ks vs=((ks.map Sum.inr).zip vs:List (Key×V)).map (λj=>(kV j.1,j.2)):=by
  rw[List.zip_eq_zipWith,List.zipWith_map_left,List.map_zipWith];rfl
 refine⟨C,(ks.map Sum.inr).zip vs,L,by rw[OI,AL];omega,?_⟩;have nk:((ks.map Sum.inr:List Key)).Nodup:=ZH8 _ (λa b(h:a≠b)=>λz=>h (by injection z)) J;rw[nU _ [] (by rw[c6,List.map_fst_zip (by rw[AL];omega)];exact nk),c6];have mv:=zh (o:=.dK ((ks.map Sum.inr).zip vs)) S (t.trans n) d x;have A:p∉OV.Ap us:=λg=>by
  rcases(y p g).2.2 with⟨i,_,s,_,G,ow⟩|z
  .exact S.Eb G ow d
  .rw[AW]at z;cases z
 refine q _ m (.nd (.B2 (ks.map Sum.inr)) p us) F1 _ mv (.nd (k:=.B2 (ks.map Sum.inr)) (vs:=vs) AW trivial (show(List.map Sum.inr ks:List Key).length=vs.length by rw[AL];exact D.symm) (r.mono (AB.refl _) λa g o e=>by rw[AY (by rintro rfl;exact A g)];exact e)) ?_ (λa g=>?_) (kk p)
 .rw[OV.Di];exact List.nodup_cons.mpr ⟨A,ID⟩
 .rw[OV.Di]at g;rcases List.mem_cons.mp g with e|g
  .subst e;exact⟨x,S.EK d,.inr d⟩
  .obtain⟨f,K,w⟩:=y a g;exact⟨f,K,w.imp id λz=>by
    by_cases c:a=p
    .subst c;exact d
    .rw[AY c]at z;exact z⟩
theorem qW{k:List Nat->OV->Prop}{k1 k2 k3:Str}{c b a:TE}(e:[k1,k2,k3].Nodup)(h:Mg ss (Al c (Al b (Al a BR))) λm us=>us.length=3/\∀l,k m (.nd (.B2 [.inr k1,.inr k2,.inr k3]) l us)):Wx ss (aH [(tC (.str k1),c),(tC (.str k2),b),(tC (.str k3),a)]) k:=⟨λE Z F H Q S q p d=>
 qo (ta:=Al c (Al b (Al a BR))) [k1,k2,k3] e (by show(_:Nat)+1<=15;simp) S d h q⟩
theorem ZE3{m:Str}{k:PV->Prop}(h:Wl ss i t te λ_ u=>∃dx ns a us,u=.nd (.obj C dx ns) a us/\DB ns m=none/\Wb ss ta λps=>∃k',pre ((u.pv::ps).map .is) (.is k')/\∀p,k' p->Fc p=true/\k p):Wp ss (Ng C m (B7 pre) [] E0 te ta) k:=⟨λE Z F H Q S q=>
 h.go E Z F H _ S λv p u F1 H1 c e B3⟨dx,ns,a,us,w,s,h2⟩=>by
  subst w;have y:=e;cases y with
  |@nd _ _ vs _ d z B A=>
   refine⟨a,dx,ns.zip vs,rfl,d,bJ s,h2.go E Z F1 H1 _ c.st λvs ps F2 H2 b j⟨k',n,kk⟩=>?_⟩;rw[G0];have g:=e.mv c.st h.hi B3 b;have x:Aa (CD F2 H2 (DQ ss Z)) (V.ref a::vs) (_::ps):=.cons (g.rep b.st.TK.1 λa d o ho=>by
    unfold CD;obtain⟨lt,hi⟩:=h.hi;rw[rG (jZ b.st.len hi (by simp) (OV.LD B3 a d))];exact ho) j
   refine⟨_,.is k',_,[],n,b.st.lend x,λv F' H' f⟨p,r,kp⟩=>?_⟩;obtain⟨mv,l⟩:=b.st.uK f;exact q v p _ H' (c.trans (b.trans mv)) (r.sub l (kk p kp).1) (kk p kp).2⟩
theorem YY(h:Wl ss i t te λ_ u=>∃nk a us,u=.nd nk a us/\nx (ss.set j (.raw (ptr a)))):Ws ss (Ep te (Cd j)) nx R:=⟨λE D Z F H S hn d=>
 h.go E Z F H _ S λv p u F1 H1 b r B3 AH=>by
  obtain⟨nk,a,us,c,kk⟩:=AH;subst c;cases r;exact hn _ _ F1 H1 kk (b.st.setG ⟨_,rfl,rfl,λ_ _ _ h=>h⟩ λ_ z=>by cases z) b.ff⟩
end
theorem Ko{k:NK}{x:OV}:(OV.nd k a [x,y,z]).put [1] w=.nd k a [x,w,z]:=by rw[OV.K2 (x:=y) rfl,OV.Fb];rfl
theorem put2{k:NK}{x:OV}:(OV.nd k a [x,y,z]).put [2] w=.nd k a [x,y,w]:=by rw[OV.K2 (x:=z) rfl,OV.Fb];rfl
theorem SG{k k':NK}{x:OV}(h:us[n]?=some u):(OV.nd k a [x,y,.nd k' b us]).put [2,n] w=.nd k a [x,y,.nd k' b (us.set n w)]:=by rw[OV.K2 (x:=.nd k' b us) rfl,OV.K2 h,OV.Fb];rfl
theorem XT{k k':NK}{x:OV}(h:us[n]?=some u):(OV.nd k a [x,y,.nd k' b us]).at [2,n]=some u:=by
 rw[OV.at];show OV.at (.nd k' b us) [n]=some u;rw[OV.at,h];exact OV.J4
theorem Dr{k:NK}{x:OV}:(OV.nd k a [x,y,z]).at [1]=some y:=by
 rw[OV.at];exact OV.J4
theorem ZEp[Xw]{K:ZIV}{l m:Nat}{p:PV}{k:List Slot->Prop}(h:∃a b c d,p=.tup [a,b,c,d]/\k ((((ss.set i (.is a)).set j (.is b)).set l (.is c)).set m (.is d))):Wg ss (QD K 4 (IE (Cd i) (IE (Cd j) (IE (Cd l) (IE (Cd m) Oa))))) p k:=⟨λE Z F H v Q S r q=>by
 obtain⟨a,b,c,d,rfl,kk⟩:=h;obtain⟨_,_,rfl,e,r⟩:=r.inv;obtain⟨_,_,rfl,o,r⟩:=r.inv;obtain⟨_,_,rfl,n,r⟩:=r.inv;obtain⟨_,_,rfl,g,r⟩:=r.inv;obtain⟨_,_,rfl,f,r⟩:=r.inv;obtain rfl:=r.DS;exact⟨_,_,rfl,AS.of (S.fh _ _ e),rfl,_,_,rfl,_,_,rfl,_,_,rfl,_,_,rfl,rfl,q _ _ kk ((((S.Er o).Er n).Er g).Er f)⟩⟩
theorem UN{vs:List V}{X:XK}{t:TS}(h:C2 pre vs H Q X)(b:∀ss R,pre ss R->ss.length=n)
  (hw:∀ss R,pre ss R->Ws (ss++List.replicate (N.length - n) .any) t (UK R) R):t { nx:=λ_ H'=>Q .A8 H',rt:=Q } (L2.start N vs) H:=by
 obtain⟨ss,R,F,A,B,a,S,q⟩:=h;have e:vs.length=n:=by have:=S.len;rw[AL]at this;rw[<- this];exact b ss R a
 unfold L2.start;rw[e];exact(hw ss R a).go (T7 ⟨A,F,H,B⟩) _ _ F H (S.grown _) (λAN σ' F' H' z S' _=>q .A8 F' H' S'.toFin (z.ok S')) λv F' H' f ok=>q v F' H' f ok
structure Sm where
 stood:Nat
 joined:Nat
 told:Nat
 taken:Nat
structure Ls where
 row:List Str
 ln:List Str
 ll:List Lp
 sn:List Str
 sq:List Sm
variable{s s':Ls}
inductive LE where
 |Hr (x r:Str)|tell (x y:Str)|over (x:Str)|Ee (d:Ae)
variable{e:LE}{es:List LE}
def LE.P:LE->PV
 | .Hr x r=>.tup [.str "begin",.str x,.str r]
 | .tell x y=>.tup [.str "tell",.str x,.str y]
 | .over x=>.tup [.str "over",.str x]
 | .Ee d=>aP d
def LE.say:LE->Prop
 | .Hr x r=>C7 x/\C7 r
 | .tell x y=>C7 x/\C7 y
 | .over x=>C7 x
 | .Ee d=>d.say
noncomputable def Fe(ns:List Str)(d:Ae):Option Af:=open Classical in if h:∃d',d.Is ns d' then some h.choose else none
theorem kh(h:d.Is ns d'):Fe ns d=some d':=by
 have e:∃d',d.Is ns d':=⟨d',h⟩;unfold Fe;rw[dif_pos e];exact tq some (yE (e.choose_spec.1.symm.trans h.1))
theorem Uw(h:Fe ns d=some d'):d.Is ns d':=by
 unfold Fe at h;split at h
 .next e=>cases h;exact e.choose_spec
 .cases h
theorem tP{e:Ae}(h:aP d=aP e):d=e:=by
 cases d <;> cases e <;> simp[aP]at h <;> first|(exact absurd h.1 P2)|(exact absurd h.1.symm P2)|(obtain⟨a,b⟩:=h;subst a;subst b;rfl)|(subst h;rfl)
theorem ZFk(h:d.Is ns d'):d.B0 c ns=none:=by
 have:d=MT d':=tP (h.1.trans (wJ d').symm);rw[this];exact tm h.2
theorem hZ{e:Ex}(h:d.B0 c ns=some e):Fe ns d=none:=by
 cases q:Fe ns d with
 |none=>rfl
 |some d'=>rw[ZFk (Uw q)]at h;cases h
noncomputable def c0:GG:=⟨0,0,0,0,0⟩
theorem Jd(ns:List Str)(d:Ae):(Fe ns d).isSome=(d.B0 c0 ns).isNone:=by
 cases h:d.B0 c0 ns with
 |none=>
  obtain⟨d',h'⟩:=Ae.good h;rw[kh h'];rfl
 |some e=>rw[hZ h];rfl
theorem ZDP{i:Int}(h1:isNm x=true)(h2:x∉ns)(a:ns.length<40):(Fe ns (.put x i)).isSome=decide (inR i 0 ns.length):=by
 rw[Jd];simp only[Ae.B0];rw[qP (by rw[h1];decide),qP h2]
 by_cases c:inR i 0 ns.length
 .rw[qP (Decidable.not_not.mpr c),qP (by omega),oW c];rfl
 .rw[rG c,sS c];rfl
theorem ZAD{i:Int}(h1:isNm x=true)(h2:x∉ns)(a:40<=ns.length):(Fe ns (.put x i)).isSome=false:=by
 rw[Jd];simp only[Ae.B0];rw[qP (by rw[h1];decide),qP h2]
 by_cases c:inR i 0 ns.length
 .rw[qP (Decidable.not_not.mpr c),rG a];rfl
 .rw[rG c];rfl
theorem ZAe{i:Int}(h2:x∈ns):(Fe ns (.move x i)).isSome=decide (inR i 0 (ns.length - 1)):=by
 rw[Jd];simp only[Ae.B0];rw[qP (Decidable.not_not.mpr h2)]
 by_cases c:inR i 0 (ns.length - 1)
 .rw[qP (Decidable.not_not.mpr c),oW c];rfl
 .rw[rG c,sS c];rfl
theorem sP{lo hi:Int}:(Fe ns (.turn lo hi)).isSome=(decide (inR lo 0 ns.length) && decide (inR hi lo ns.length)):=by
 rw[Jd];simp only[Ae.B0]
 by_cases c:inR lo 0 ns.length
 .rw[qP (Decidable.not_not.mpr c),oW c]
  by_cases e:inR hi lo ns.length
  .rw[qP (Decidable.not_not.mpr e),oW e];rfl
  .rw[rG e,sS e];rfl
 .rw[rG c,sS c];rfl
theorem Te{i lo hi:Int}:decide (inR i lo hi)=(decide (lo<=i) && decide (i<=hi)):=by
 by_cases h1:lo<=i
 .by_cases h2:i<=hi
  .rw[oW (show inR i lo hi from⟨h1,h2⟩),oW h1,oW h2];rfl
  .rw[sS (λz:inR i lo hi=>h2 z.2),oW h1,sS h2];rfl
 .rw[sS (λz:inR i lo hi=>h1 z.1),sS h1];rfl
noncomputable def Sm.join(q:Sm):Sm:=⟨q.stood,q.joined+1,q.told,q.taken⟩
noncomputable def Sm.tell(q:Sm):Sm:=⟨q.stood,q.joined,q.told+1,q.taken⟩
noncomputable def Sm.take(q:Sm):Sm:=⟨q.stood,q.joined,q.told,q.taken+1⟩
def Sm.by(n m:Nat):Sm->Sm:=if n<m then Sm.join else if m<n then Sm.take else id
def Cf(s:Ls)(d:Af):Nat->List Sm
 | 0=>s.sq
 |i+1=>match s.ln[i]?,s.ll[i]? with
  |some x,some l=>(Cf s d i).modify (s.sn.idxOf x) (Sm.by l.cs.length (l.led s.row d).cs.length)
  |_,_=>Cf s d i
noncomputable def CN(s:Ls)(d:Af)(i:Nat):List Lp:=(s.ll.take i).map (Lp.led s.row d)++s.ll.drop i
def GX(s:Ls)(x r:Str):Option Ls:=if isNm x=true/\x∉s.sn/\IT r=true then some ⟨s.row,s.ln++[x],s.ll++[⟨r,0,GZ s.row⟩],s.sn++[x],s.sq++[⟨s.row.length,0,0,0⟩]⟩else none
def FJ(s:Ls)(x y:Str):Option Ls:=match s.ll[s.ln.idxOf x]? with
 |some l=>if y∈l.cs then some ⟨s.row,s.ln,s.ll.set (s.ln.idxOf x) ⟨l.r,s.row.idxOf y+1,wo l.cs y⟩,s.sn,s.sq.modify (s.sn.idxOf x) Sm.tell⟩else none
 |none=>none
noncomputable def FQ(s:Ls)(x:Str):Option Ls:=match s.ll[s.ln.idxOf x]? with
 |some l=>if l.cs=[]then some ⟨s.row,s.ln.eraseIdx (s.ln.idxOf x),s.ll.eraseIdx (s.ln.idxOf x),s.sn,s.sq⟩else none
 |none=>none
noncomputable def Gk(s:Ls)(d:Ae):Option Ls:=match Fe s.row d with
 |some d'=>some ⟨d'.done s.row,s.ln,s.ll.map (Lp.led s.row d'),s.sn,Cf s d' s.ln.length⟩
 |none=>none
noncomputable def FG(s:Ls):LE->Option Ls
 | .Hr x r=>GX s x r
 | .tell x y=>FJ s x y
 | .over x=>FQ s x
 | .Ee d=>Gk s d
structure Ls.Ok (s:Ls):Prop where
 row:IJ 40 s.row
 l1:s.ln.length=s.ll.length
 l2:s.sn.length=s.sq.length
 n1:s.ln.Nodup
 n2:s.sn.Nodup
 sub:∀x∈s.ln,x∈s.sn
 good:∀l∈s.ll,l.Good s.row
 nm:∀x∈s.sn,Nm x
theorem Ov(s:Ls)(d:Af):∀i,(Cf s d i).length=s.sq.length
 | 0=>rfl
 |i+1=>by
  unfold Cf;split
  .rw[List.length_modify,Ov]
  .exact Ov s d i
theorem gH(s:Ls)(d:Af):CN s d s.ll.length=s.ll.map (Lp.led s.row d):=by
 unfold CN;rw[MY,ZHC,G0]
theorem Jg(s:Ls)(d:Af)(i:Nat):(CN s d i).length=s.ll.length:=by
 unfold CN;rw[CK,AL,DO,Ge];omega
theorem ay{d:Af}(h:s.ll[i]?=some l):(CN s d i)[i]?=some l:=by
 have hi:=(List.getElem?_eq_some_iff.mp h).1;unfold CN;rw[Jk (by rw[AL,DO];omega),AL,DO,List.getElem?_drop];rw[show i+(i - min i s.ll.length)=i by omega];exact h
theorem af{d:Af}(h:s.ll[i]?=some l):(CN s d i).set i (l.led s.row d)=CN s d (i+1):=by
 obtain⟨hi,e⟩:=List.getElem?_eq_some_iff.mp h;unfold CN;rw[List.set_append_right _ _ (by rw[AL,DO];omega),AL,DO,show i - min i s.ll.length=0 by omega,ni hi,c8,Ui hi,E4,C4,e];rfl
theorem ak{l:List Str}(h:x∈l):l[l.idxOf x]?=some x:=by
 rw[BG (List.idxOf_lt_length_iff.mpr h),bx]
theorem vU{l:List Str}{a:Lp}(b:l.length=m.length)(h:m[l.idxOf x]?=some a):x∈l:=by
 have:=(List.getElem?_eq_some_iff.mp h).1;exact List.idxOf_lt_length_iff.mp (by omega)
theorem Ls.Ok.step(h:s.Ok)(g:FG s e=some s'):s'.Ok:=by
 cases e with
 |Hr x r=>
  have g:GX s x r=some s':=g;unfold GX at g;split at g
  .next c=>
   cases g;obtain⟨c1,c2,m⟩:=c;refine⟨h.row,by simp[h.l1],by simp[h.l2],?_,?_,?_,?_,?_⟩
   .exact Rf h.n1 λz=>c2 (h.sub x z)
   .exact Rf h.n2 c2
   .intro y a;rcases List.mem_append.mp a with z|z
    .exact List.mem_append.mpr (.inl (h.sub y z))
    .exact List.mem_append.mpr (.inr z)
   .intro l f;rcases List.mem_append.mp f with z|z
    .exact h.good l z
    .rw[List.mem_singleton.mp z];exact⟨rE m,Int.le_refl _,ZH7 _,Y9 h.row.nd,λy a=>Sl.mp a⟩
   .intro y a;rcases List.mem_append.mp a with z|z
    .exact h.nm y z
    .rw[List.mem_singleton.mp z];exact cj c1
  .cases g
 |tell x y=>
  have g:FJ s x y=some s':=g;unfold FJ at g;split at g
  .next l e=>
   split at g
   .next c=>
    cases g;have i:=h.good l (EI e);refine⟨h.row,by simp[h.l1],by simp[h.l2],h.n1,h.n2,h.sub,?_,h.nm⟩;intro b CZ;rcases ZHQ CZ with z|z
    .exact h.good b z
    .rw[z];exact Lw.Dy.step i (i.sub y c)
   .cases g
  .cases g
 |over x=>
  have g:FQ s x=some s':=g;unfold FQ at g;split at g
  .next l e=>
   split at g
   .next c=>
    cases g;have hi:=(List.getElem?_eq_some_iff.mp e).1;refine⟨h.row,?_,h.l2,List.Nodup.sublist (nj _ _) h.n1,h.n2,λy a=>h.sub y ((nj _ _).subset a),λb CZ=>h.good b ((nj _ _).subset CZ),h.nm⟩;have h1:=h.l1;show(s.ln.eraseIdx _).length=(s.ll.eraseIdx _).length;rw[ZHJ (by omega),ZHJ hi,h1]
   .cases g
  .cases g
 |Ee d=>
  have g:Gk s d=some s':=g;unfold Gk at g;split at g
  .next d' e=>
   cases g;have ok:=(Uw e).2;refine⟨h.row.done ok,by simp[h.l1],by rw[Ov];exact h.l2,h.n1,h.n2,h.sub,?_,h.nm⟩;intro l f;obtain⟨j,k,rfl⟩:=List.mem_map.mp f;exact Lw.Dy.led (h.good j k) ok h.row.nd
  .cases g
def R2(P:OV->Sm->Prop)(us:List OV)(a:List Sm):Prop:=us.length=a.length/\∀(n:Nat)u q,us[n]?=some u->a[n]?=some q->P u q
theorem R2.nil{P:OV->Sm->Prop}:R2 P [] []:=⟨rfl,λn u q h=>by cases h⟩
theorem R2.snoc{P:OV->Sm->Prop}{d:List Sm}{q:Sm}(h:R2 P us d)(e:P u q):R2 P (us++[u]) (d++[q]):=by
 refine⟨by simp[h.1],λn v p a b=>?_⟩;have f:=h.1
 by_cases c:n<us.length
 .rw[HW c]at a;rw[HW (by omega)]at b;exact h.2 n v p a b
 .have h1:=(List.getElem?_eq_some_iff.mp a).1;simp at h1;have:n=us.length:=by omega
  subst this;rw[Jk (Az _),oG]at a;rw[Jk (by omega),show us.length - d.length=0 by omega]at b;cases a;cases b;exact e
theorem R2.set{P:OV->Sm->Prop}{d:List Sm}{f:Sm->Sm}(h:R2 P us d)(g:∀q,d[n]?=some q->P u (f q)):R2 P (us.set n u) (d.modify n f):=by
 refine⟨by simp[h.1],λm v p b a=>?_⟩
 by_cases c:n=m
 .subst c;have h1:=(List.getElem?_eq_some_iff.mp b).1;rw[Jl]at h1;rw[Cm h1]at b;rw[List.getElem?_modify_eq]at a;cases e:d[n]? with
  |none=>rw[e]at a;cases a
  |some q=>rw[e]at a;cases a;cases b;exact g q e
 .rw[CJ c]at b;rw[List.getElem?_modify_ne _ _ c]at a;exact h.2 m v p b a
theorem R2.get{P:OV->Sm->Prop}{us:List OV}{a:List Sm}{n:Nat}{q:Sm}(h:R2 P us a)(b:a[n]?=some q):∃u,us[n]?=some u/\P u q:=by
 have h1:=(List.getElem?_eq_some_iff.mp b).1;have c:=h.1;exact⟨us[n],BG (by omega),h.2 n _ q (BG (by omega)) b⟩
def GO(q:Sm):List PV:=[.int q.stood,.int q.joined,.int q.told,.int q.taken]
noncomputable def Ah(ns:List Str):List Key:=ns.map Sum.inr
noncomputable def CH(ll:List Lp):List OV:=ll.map λl=>.fz l.P
def iO(u:OV)(q:Sm):Prop:=∃b,u=.nd .lst b ((GO q).map .fz)
def Qq(T:Addr)(u:OV)(q:Sm):Prop:=∃e b,u=.nd (.obj T e ["stood","joined","told","taken"]) b ((GO q).map .fz)
noncomputable def k3:List Key:=[.inr "row",.inr "live",.inr "sums"]
def Bf(s:Ls)(a aL aS:Addr)(us:List OV):OV:=.nd (.B2 k3) a [.fz (.lst (s.row.map .str)),.nd (.B2 (Ah s.ln)) aL (CH s.ll),.nd (.B2 (Ah s.sn)) aS us]
def DZ(s:Ls)(a:Addr)(t:OV):Prop:=∃aL aS us,R2 iO us s.sq/\t=Bf s a aL aS us
noncomputable def JQ:List Str:=["standing","running","tallies"]
def Bm(s:Ls)(C a dx aL aS:Addr)(us:List OV):OV:=.nd (.obj C dx JQ) a [.fz (.lst (s.row.map .str)),.nd (.B2 (Ah s.ln)) aL (CH s.ll),.nd (.B2 (Ah s.sn)) aS us]
def DC(s:Ls)(C T a:Addr)(t:OV):Prop:=∃dx aL aS us,R2 (Qq T) us s.sq/\t=Bm s C a dx aL aS us
theorem Kj(ns:List Str)(x:Str):Gu (Ah ns) (.inr x)=decide (x∈ns):=by
 unfold Gu Ah;rw[List.any_map]
 by_cases h:x∈ns
 .rw[oW h];exact List.any_eq_true.mpr ⟨x,h,oW rfl⟩
 .rw[sS h];rw[Bool.eq_false_iff];intro z;obtain⟨y,b,e⟩:=List.any_eq_true.mp z;have a:(Sum.inr y:Key)=Sum.inr x:=rE e;injection a with a
  exact h (a▸b)
theorem Fj:∀{ns:List Str}{x:Str},x∈ns->CU (Ah ns) (.inr x)=some (ns.idxOf x)
 | [],_,h=>absurd h BB
 |y::ns,x,h=>by
  unfold Ah;rw[C8,CU,o4]
  by_cases c:y=x
  .subst c;rw[rG rfl,show(y == y)=true from tO y];rfl
  .rw[qP (λe=>c (by injection e)),show(y == x)=false from beq_eq_false_iff_ne.mpr c];have h1:CU (ns.map λn:Str=>(Sum.inr n:Key)) (.inr x)=some (ns.idxOf x):=Fj ((List.mem_cons.mp h).resolve_left λz=>c z.symm);have a:CU (ns.map (Sum.inr:Str->Key)) (.inr x)=some (ns.idxOf x):=h1;rw[a];rfl
theorem my:∀{ns:List Str}{x:Str},x∉ns->CU (Ah ns) (.inr x)=none
 | [],_,_=>rfl
 |y::ns,x,h=>by
  unfold Ah;rw[C8,CU,qP (λe=>h (by injection e with e;subst e;exact D5))]
  have h1:CU (ns.map (Sum.inr:Str->Key)) (.inr x)=none:=my (ns:=ns) λz=>h (DP _ z);rw[h1];rfl
theorem J3(h:ns.Nodup):(Ah ns).Nodup:=ZH8 _ (λa b(h:a≠b)=>λz=>h (by injection z)) h
theorem dy(h:x∉ns):Hv (Ah ns) (.inr x)=Ah (ns++[x])/\GS (Ah ns) us (.inr x) u=us++[u]:=by
 unfold GS Hv;rw[my h,Kj,sS h];exact⟨by unfold Ah;rw[E4];rfl,rfl⟩
theorem gr(h:x∈ns):Hv (Ah ns) (.inr x)=Ah ns/\GS (Ah ns) us (.inr x) u=us.set (ns.idxOf x) u:=by
 unfold GS Hv;rw[Fj h,Kj,oW h];exact⟨rfl,rfl⟩
theorem RM(h:x∈ns):Hv (Ah ns) (.inr x)=Ah ns:=(gr (us:=[]) (u:=.fz .A8) h).1
theorem SI(h:x∈ns):GS (Ah ns) us (.inr x) u=us.set (ns.idxOf x) u:=(gr h).2
theorem Pu(h:x∉ns):Hv (Ah ns) (.inr x)=Ah (ns++[x]):=(dy (us:=[]) (u:=.fz .A8) h).1
theorem UH(h:x∉ns):GS (Ah ns) us (.inr x) u=us++[u]:=(dy h).2
theorem mP(ns:List Str)(i:Nat):(Ah ns).eraseIdx i=Ah (ns.eraseIdx i):=by
 unfold Ah
 induction ns generalizing i with
 |nil=>rfl
 |cons x ns a=>cases i with
  |zero=>rfl
  |succ i=>rw[C8,Qs,Qs,C8,a]
theorem cP(ls:List Lp)(i:Nat):(CH ls).eraseIdx i=CH (ls.eraseIdx i):=by
 unfold CH
 induction ls generalizing i with
 |nil=>rfl
 |cons x ns a=>cases i with
  |zero=>rfl
  |succ i=>rw[C8,Qs,Qs,C8,a]
theorem TV(ls:List Lp)(i:Nat)(l:Lp):(CH ls).set i (.fz l.P)=CH (ls.set i l):=by unfold CH;rw[List.map_set]
theorem Mh(h:ls[i]?=some l):(CH ls)[i]?=some (.fz l.P):=by unfold CH;rw[Bc,h];rfl
theorem Wf{y:PV}:∀{ns:List Str}{xs:List PV}{x:Str},x∈ns->xs[ns.idxOf x]?=some y->ML (Ah ns) xs (.inr x)=some y
 | [],_,_,h,_=>absurd h BB
 |z::ns,xs,x,h,e=>by
  rw[o4]at e;unfold Ah
  by_cases c:z=x
  .subst c;rw[show(z == z)=true from tO z]at e;cases xs with
   |nil=>cases e
   |cons w ws=>rw[C8,ML,rG rfl];exact e
  .rw[show(z == x)=false from beq_eq_false_iff_ne.mpr c]at e;cases xs with
   |nil=>cases e
   |cons w ws=>
    rw[C8,ML,qP (λq=>c (by injection q))];exact Wf ((List.mem_cons.mp h).resolve_left λq=>c q.symm) e
theorem WC:∀us:List OV,OV.Cz us=us.map OV.pv
 | []=>by rw[OV.Cz];rfl
 |u::us=>by rw[OV.Cz,WC us];rfl
theorem iX(ll:List Lp):OV.Cz (CH ll)=ll.map Lp.P:=by
 have:=Ym (ll.map Lp.P);rw[Qw]at this;exact this
theorem mH{d:Af}(hx:s.ln[i]?=some x)(a:s.ll[i]?=some l):Cf s d (i+1)=(Cf s d i).modify (s.sn.idxOf x) (Sm.by l.cs.length (l.led s.row d).cs.length):=by
 rw[Cf,hx,a]
theorem ZDm{d:Af}(ok:s.Ok)(hx:x∈s.sn):∃q,(Cf s d i)[s.sn.idxOf x]?=some q:=by
 have h1:=List.idxOf_lt_length_iff.mpr hx;have h2:=ok.l2;exact⟨_,BG (by rw[Ov];omega)⟩
theorem gq{α:Type}(l:List α)(n:Nat):l.modify n id=l:=by
 apply bq;intro k;rw[List.getElem?_modify];cases l[k]? with
 |none=>rfl
 |some x=>by_cases c:n=k <;> simp[c]
theorem ZDh(ns:List Str):Fc (.tup (ns.map .str))=true:=by
 rw[Fc]
 induction ns with
 |nil=>rfl
 |cons x ns a=>rw[C8,QJ,a];rfl
theorem yF:Hv k3 (.inr "row")=k3:=by decide +kernel
theorem ZC7{x:OV}:GS k3 [x,y,z] (.inr "row") w=[w,y,z]:=by
 unfold GS;rw[show CU k3 (.inr "row")=some 0 by decide +kernel];rfl
noncomputable def LX(tp:Bool)(xs:List PV):PV:=if tp=true then .tup xs else .lst xs
def Dt(T:Ls->OV->Prop)(s:Ls)(o:Option Ls)(p:PV)(t':OV):Prop:=(∃s',o=some s'/\p=.bl true/\T s' t')∨(o=none/\p=.bl false/\T s t')
noncomputable def EB(s:Ls)(x:Str):List Str:=match s.ll[s.ln.idxOf x]? with
 |some l=>l.cs
 |none=>[]
def YX(C:Addr)(s:Ls)(xs:List PV):PV:=.obj C JQ [.lst (s.row.map .str),.B2 (Ah s.ln) (s.ll.map Lp.P),.B2 (Ah s.sn) xs]
theorem ZFJ:(Bm s C a dx aL aS us).pv=YX C s (us.map OV.pv):=by
 unfold Bm YX;rw[OV.pv,OV.Cz,OV.Cz,OV.Cz,OV.Cz,OV.pv,OV.pv,OV.pv,iX,WC]
theorem ee(nd:s.ln.Nodup)(hx:s.ln[i]?=some x)(a:s.ll[i]?=some l):EB s x=l.cs:=by
 unfold EB;rw[ND nd hx,a]
def Us(T:Addr):Pre:=λl R=>∃(a dx:Addr)(n:Nat),l=[.ow true (.nd (.obj T dx []) a []),.is (.int n)]/\R=.mt λp t'=>p=.A8/\t'=.nd (.obj T dx ["stood","joined","told","taken"]) a ((GO ⟨n,0,0,0⟩).map .fz)
def Uz(C T:Addr):Pre:=λl R=>∃(a dx:Addr)(tp:Bool)(ns:List Str),l=[.ow true (.nd (.obj C dx []) a []),.is (LX tp (ns.map .str))]/\R=.mt λp t'=>p=.A8/\∃aL aS,t'=Bm ⟨ns,[],[],[],[]⟩ C a dx aL aS []
def NM(C:Addr):Pre:=λl R=>∃(s:Ls)(xs:List PV)(x:Str),l=[.is (YX C s xs),.is (.str x)]/\s.ln.length=s.ll.length/\R=.is λp=>p=.tup ((EB s x).map .str)
def bY(C T:Addr):Pre:=λl R=>∃(s:Ls)(a:Addr)(t:OV)(x r:Str),l=[.ow true t,.is (.str x),.is (.str r)]/\DC s C T a t/\s.Ok/\C7 x/\C7 r/\s.sn.length<=1000/\R=.mt (Dt (λs t=>DC s C T a t) s (GX s x r))
def Wu(C T:Addr):Pre:=λl R=>∃(s:Ls)(a:Addr)(t:OV)(x y:Str),l=[.ow true t,.is (.str x),.is (.str y)]/\DC s C T a t/\s.Ok/\s.sn.length<=1000/\R=.mt (Dt (λs t=>DC s C T a t) s (FJ s x y))
def Xk(C T:Addr):Pre:=λl R=>∃(s:Ls)(a:Addr)(t:OV)(x:Str),l=[.ow true t,.is (.str x)]/\DC s C T a t/\s.Ok/\R=.mt (Dt (λs t=>DC s C T a t) s (FQ s x))
def Sq(C T:Addr):Pre:=λl R=>∃(s:Ls)(a:Addr)(t:OV)(d:Ae),l=[.ow true t,.is (aP d)]/\DC s C T a t/\s.Ok/\d.say/\s.sn.length<=1000/\R=.mt (Dt (λs t=>DC s C T a t) s (Gk s d))
def bZ(C T:Addr):Pre:=λl R=>∃(s:Ls)(a:Addr)(t:OV)(e:LE),l=[.ow true t,.is e.P]/\DC s C T a t/\s.Ok/\e.say/\s.sn.length<=1000/\R=.mt (Dt (λs t=>DC s C T a t) s (FG s e))
def EO(s:Ls)(d:Af)(i:Nat):Ls:=⟨s.row,s.ln,CN s d i,s.sn,Cf s d i⟩
def Wh(C T:Addr):Pre:=λl R=>∃(s:Ls)(a:Addr)(t:OV)(d:Af)(i:Nat)(x:Str),l=[.ow true t,.is (.str x),.is (dP d)]/\DC (EO s d i) C T a t/\s.Ok/\s.ln[i]?=some x/\d.Ok 40 s.row/\(∀x,d=.take x∨(∃i,d=.move x i)->C7 x)/\s.sn.length<=1000/\R=.mt λp t'=>p=.A8/\DC (EO s d (i+1)) C T a t'
noncomputable def runs(s:Ls):List LE->Option Ls
 | []=>some s
 |e::r=>match FG s e with
  |some s'=>runs s' r
  |none=>none
noncomputable def Dz(ns:List Str):Ls:=⟨ns,[],[],[],[]⟩
noncomputable def Y3(C:Addr)(n:Int):Ex:=⟨C,["number"],[.int n]⟩
def HU(ns:List Str)(es:List LE)(i:Nat):Prop:=∃s e,runs (Dz ns) (es.take i)=some s/\es[i]?=some e/\FG s e=none
theorem fO(h:IJ 40 ns):(Dz ns).Ok:=⟨h,rfl,rfl,Qy,Qy,λx hx=>absurd hx BB,λx hx=>absurd hx BB,λx hx=>absurd hx BB⟩
theorem ZGs:∀{s s':Ls},s.Ok->runs s es=some s'->s'.Ok:=by
 induction es with
 |nil=>intro s s' h e;rw[runs]at e;cases e;exact h
 |cons x es a=>
  intro s s' h e;rw[runs]at e;split at e
  .next s1 e1=>exact a (h.step e1) e
  .cases e
theorem VW{fs:List LE}:∀{s:Ls},runs s (es++fs)=(runs s es).bind λs'=>runs s' fs:=by
 induction es with
 |nil=>intro s;rfl
 |cons x es a=>
  intro s;rw[bj,runs,runs];split
  .exact a
  .rfl
theorem Qg(h:runs s es=some s'):runs s (es++[e])=FG s' e:=by
 rw[VW,h];show runs s' [e]=_;rw[runs];cases FG s' e <;> rfl
theorem nI(h:HU ns es i):runs (Dz ns) es≠some s:=λz=>by
 obtain⟨s1,e,h1,h2,a⟩:=h;obtain⟨hi,b⟩:=List.getElem?_eq_some_iff.mp h2;have c:es=es.take i++[e]++es.drop (i+1):=by
  rw[C4]
  conv=>lhs;rw[<- L8 i es,ni hi,b]
  rfl
 rw[c,VW,Qg h1,a]at z;cases z
theorem qY(h:FG s e=some s'):s'.sn.length<=s.sn.length+1:=by
 cases e with
 |Hr x r=>
  have h:GX s x r=some s':=h;unfold GX at h;split at h
  .cases h;show(s.sn++[x]).length<=_;rw[CK];exact Az _
  .cases h
 |tell x y=>
  have h:FJ s x y=some s':=h;unfold FJ at h;split at h
  .split at h
   .cases h;exact FZ _
   .cases h
  .cases h
 |over x=>
  have h:FQ s x=some s':=h;unfold FQ at h;split at h
  .split at h
   .cases h;exact FZ _
   .cases h
  .cases h
 |Ee d=>
  have h:Gk s d=some s':=h;unfold Gk at h;split at h
  .cases h;exact FZ _
  .cases h
theorem iM:∀{s s':Ls},runs s es=some s'->s'.sn.length<=s.sn.length+es.length:=by
 induction es with
 |nil=>intro s s' e;rw[runs]at e;cases e;exact Az _
 |cons x es a=>
  intro s s' e;rw[runs]at e;split at e
  .next s1 e1=>have:=a e;have:=qY e1;rw[Ca];omega
  .cases e
def ZG(C T N:Addr):Ez:=λl R D=>∃(tp:Bool)(ns:List Str)(es:List LE),l=[.is (LX tp (ns.map .str)),.is (.lst (es.map LE.P))]/\IJ 40 ns/\(∀e∈es,e.say)/\es.length<=200/\(R=.ow λu=>∃s a,runs (Dz ns) es=some s/\DC s C T a u)/\D=λx=>∃i:Nat,x=Y3 N i/\HU ns es i
def VO:Pre:=λl R=>∃(ns:List Str)(d:Ae),l=[.is (.lst (ns.map .str)),.is (aP d)]/\d.say/\ns.length<=40/\R=.is λp=>p=.bl (Fe ns d).isSome
def XH(k:Nat)(q:Sm):Sm:=if k=1 then q.join else if k=2 then q.tell else q.take
def P4:Pre:=λl R=>∃(s:Ls)(a:Addr)(t:OV)(x:Str)(k:Nat),l=[.ow true t,.is (.str x),.is (.int k)]/\DZ s a t/\x∈s.sn/\s.sn.length=s.sq.length/\(k=1∨k=2∨k=3)/\R=.mt λp t'=>p=.A8/\DZ ⟨s.row,s.ln,s.ll,s.sn,s.sq.modify (s.sn.idxOf x) (XH k)⟩ a t'
def Sa:Pre:=λl R=>∃(s:Ls)(a:Addr)(t:OV)(d:Ae),l=[.ow true t,.is (aP d)]/\DZ s a t/\s.Ok/\d.say/\s.sn.length<=1000/\R=.mt (Dt (λs t=>DZ s a t) s (Gk s d))
def Yd:Pre:=λl R=>∃(s:Ls)(a:Addr)(t:OV)(x r:Str),l=[.ow true t,.is (.str x),.is (.str r)]/\DZ s a t/\s.Ok/\C7 x/\C7 r/\s.sn.length<=1000/\R=.mt (Dt (λs t=>DZ s a t) s (GX s x r))
def b8:Pre:=λl R=>∃(s:Ls)(a:Addr)(t:OV)(e:LE),l=[.ow true t,.is e.P]/\DZ s a t/\s.Ok/\e.say/\s.sn.length<=1000/\R=.mt (Dt (λs t=>DZ s a t) s (FG s e))
def U9:Pre:=λl R=>l=[.AV]/\R=.is λp=>∃r,p=.str r/\r∈KN
def EZ(s:Ls):PV:=.B2 k3 [.lst (s.row.map .str),.B2 (Ah s.ln) (s.ll.map Lp.P),.B2 (Ah s.sn) (s.sq.map λq=>.lst (GO q))]
theorem Yf(h:R2 iO us s.sq):(Bf s a aL aS us).pv=EZ s:=by
 have e:OV.Cz us=s.sq.map λq=>.lst (GO q):=by
  rw[WC];apply bq;intro n;rw[Bc,Bc];have f:=h.1;cases c:us[n]? with
  |none=>rw[L7 (by have:=List.getElem?_eq_none_iff.mp c;omega)];rfl
  |some u=>
   have hn:=(List.getElem?_eq_some_iff.mp c).1;have d:=BG (l:=s.sq) (i:=n) (by omega);obtain⟨b,rfl⟩:=h.2 n u _ c d;rw[d];show some _=some _;rw[vO]
 unfold Bf EZ;rw[OV.pv,OV.Cz,OV.Cz,OV.Cz,OV.Cz,OV.pv,OV.pv,OV.pv,iX,e]
theorem jV(e:LE):Fc e.P=true:=by
 cases e with
 |Ee d=>cases d <;> rfl
 |_=>rfl
noncomputable def RO(K:ZIV)(S:Addr)(c:GG):Bool:=PySem.W.exmOne K (.ref c.noName) (.ref S) == some true && (PySem.W.exmOne K (.ref c.there) (.ref S) == some true && (PySem.W.exmOne K (.ref c.gone) (.ref S) == some true && (PySem.W.exmOne K (.ref c.OO) (.ref S) == some true && PySem.W.exmOne K (.ref c.full) (.ref S) == some true)))
theorem ZDk{K:ZIV}{e:Ex}(h:RO K S c=true)(hd:d.B0 c ns=some e):PySem.W.exmOne K (.ref e.C) (.ref S)=some true:=by
 unfold RO at h;simp only[Dl,ZBK]at h;obtain⟨h1,h2,b,a,f⟩:=h;cases d with
 |put x i=>
  simp only[Ae.B0]at hd;split at hd
  .cases hd;exact h1
  .split at hd
   .cases hd;exact h2
   .split at hd
    .cases hd;exact a
    .split at hd
     .cases hd;exact f
     .cases hd
 |take x=>
  simp only[Ae.B0]at hd;split at hd
  .cases hd;exact b
  .cases hd
 |move x i=>
  simp only[Ae.B0]at hd;split at hd
  .cases hd;exact b
  .split at hd
   .cases hd;exact a
   .cases hd
 |turn lo hi=>
  simp only[Ae.B0]at hd;split at hd
  .cases hd;exact a
  .split at hd
   .cases hd;exact a
   .cases hd
theorem DC.nd{s:Ls}{C T a:Addr}{t:OV}(h:DC s C T a t):∃nk us,t=.nd nk a us:=by
 obtain⟨dx,aL,aS,us,_,rfl⟩:=h;exact⟨_,_,rfl⟩
theorem DZ.nd{s:Ls}{a:Addr}{t:OV}(h:DZ s a t):∃nk us,t=.nd nk a us:=by
 obtain⟨aL,aS,us,_,rfl⟩:=h;exact⟨_,_,rfl⟩
theorem Dt.nd{T:Ls->OV->Prop}{a:Addr}{s:Ls}{o:Option Ls}{p:PV}{t:OV}(h:Dt T s o p t)(b:∀s t,T s t->∃nk us,t=.nd nk a us):∃nk us,t=.nd nk a us:=by
 rcases h with⟨s',_,_,h⟩|⟨_,_,h⟩
 .exact b _ _ h
 .exact b _ _ h
theorem Pz(ns:List Str):(Ah ns).map HM=ns.map PV.str:=by
 unfold Ah;rw[Qw];rfl
section
variable[Xw]
theorem N7{lt:Bool}{k:PV->OV->Prop}(hi:ss[i]?=some (.ow lt t))(h:Wm ss i lt t te λp t'=>(∃nk a us,t'=.nd nk a us)/\k p t'):Ws ss (Gf te) nx (.mt k):=⟨λE D Z F H S hn j=>
 h.go E Z F H _ S λv p t' F1 H1 d r AH=>by
  obtain⟨⟨nk,a0,us,e⟩,kk⟩:=AH;subst e;have l:i<ss.length:=(List.getElem?_eq_some_iff.mp hi).1;obtain⟨g,e0,b,DE,c⟩:=d.st.ok i (.ow lt (.nd nk a0 us)) (by rw[Cm l]);have m:g=.ref a0:=by cases b;rfl
  subst m;exact j v F1 H1 d.st.toFin ⟨p,.nd nk a0 us,r,b,DE,λa f=>⟨(c a f).1,(c a f).2.imp id λz=>z.2⟩,kk⟩⟩
theorem Pd{lt:Bool}{K:ZIV}{k:List Nat->OV->Prop}(hi:ss[i]?=some (.ow lt (Bm s C a dx aL aS us)))(b:CF K C)(na:Bj K C "standing")(h:k ([]++[0]) (.fz (.lst (s.row.map .str)))):Wl ss i (Bm s C a dx aL aS us) (K5 K (BS i) "standing") k:=YC (DG hi ⟨C,dx,JQ,a,_,0,_,rfl,b,na,by decide +kernel,rfl,h⟩)
theorem KR{lt:Bool}{K:ZIV}{k:List Nat->OV->Prop}(hi:ss[i]?=some (.ow lt (Bm s C a dx aL aS us)))(b:CF K C)(na:Bj K C "running")(h:k ([]++[1]) (.nd (.B2 (Ah s.ln)) aL (CH s.ll))):Wl ss i (Bm s C a dx aL aS us) (K5 K (BS i) "running") k:=YC (DG hi ⟨C,dx,JQ,a,_,1,_,rfl,b,na,by decide +kernel,rfl,h⟩)
theorem U7{lt:Bool}{K:ZIV}{k:List Nat->OV->Prop}(hi:ss[i]?=some (.ow lt (Bm s C a dx aL aS us)))(b:CF K C)(na:Bj K C "tallies")(h:k ([]++[2]) (.nd (.B2 (Ah s.sn)) aS us)):Wl ss i (Bm s C a dx aL aS us) (K5 K (BS i) "tallies") k:=YC (DG hi ⟨C,dx,JQ,a,_,2,_,rfl,b,na,by decide +kernel,rfl,h⟩)
theorem NQ{lt:Bool}{k:List Nat->OV->Prop}(hi:ss[i]?=some (.ow lt (Bf s a aL aS us)))(h:k ([]++[0]) (.fz (.lst (s.row.map .str)))):Wl ss i (Bf s a aL aS us) (KD (BS i) (tC (V.str "row"))) k:=G7 (DG hi ⟨k3,a,_,rfl,DX ⟨.inr "row", 0,_,rfl,by decide +kernel,rfl,h⟩⟩)
theorem Pj{lt:Bool}{k:List Nat->OV->Prop}(hi:ss[i]?=some (.ow lt (Bf s a aL aS us)))(h:k ([]++[1]) (.nd (.B2 (Ah s.ln)) aL (CH s.ll))):Wl ss i (Bf s a aL aS us) (KD (BS i) (tC (V.str "live"))) k:=G7 (DG hi ⟨k3,a,_,rfl,DX ⟨.inr "live", 1,_,rfl,by decide +kernel,rfl,h⟩⟩)
theorem Tv{lt:Bool}{k:List Nat->OV->Prop}(hi:ss[i]?=some (.ow lt (Bf s a aL aS us)))(h:k ([]++[2]) (.nd (.B2 (Ah s.sn)) aS us)):Wl ss i (Bf s a aL aS us) (KD (BS i) (tC (V.str "sums"))) k:=G7 (DG hi ⟨k3,a,_,rfl,DX ⟨.inr "sums", 2,_,rfl,by decide +kernel,rfl,h⟩⟩)
theorem JA{lt:Bool}{k:Bool->List PV->Prop}(e:ss[0]?=some (.ow lt (Bm s C a dx aL aS us)))(h1:ss[1]?=some (.is (.str x)))(c:s.ln.length=s.ll.length)(d:k true ((EB s x).map .str)):Wq ss (Ng C "coming" (B7 (NM C)) [] E0 (BS 0) (Al (BS 1) BR)) k:=
 Ba (ZE3 (i:=0) (DG e ⟨dx,JQ,a,_,rfl,by decide +kernel,tw (AD h1 (ZC6 ⟨_,⟨s,_,x,tq (λp=>[Slot.is p,.is (.str x)]) ZFJ,c,rfl⟩,λ_ b=>b▸⟨ZDh _,_,.inr ⟨rfl,d⟩⟩⟩))⟩))
variable{ta tb:TE}{K:ZIV}{xs:List PV}
end
theorem y4(h:HU ns es i)(k:HU ns es j):i=j:=by
 have lt:∀{i j:Nat},HU ns es i->HU ns es j->¬ i<j:=λ{i j}h k lt=>by
  obtain⟨s1,b,f,d,c1⟩:=h;obtain⟨s2,l,a,c,c2⟩:=k;obtain⟨hi,q⟩:=List.getElem?_eq_some_iff.mp d;have g:=(List.getElem?_eq_some_iff.mp c).1;have e:es.take j=es.take i++[b]++(es.take j).drop (i+1):=by
   conv=>lhs;rw[<- L8 (i+1) (es.take j),List.take_take,show min (i+1) j=i+1 by omega,Ui hi,q]
  rw[e,VW,Qg f,c1]at a;cases a
 have:=lt h k;have:=lt k h;omega
def MK(ns:List Str)(es:List LE)(p:PV):Prop:=(p=.A8/\∃s,runs (Dz ns) es=some s)∨∃i:Nat,p=.int i/\HU ns es i
theorem Yj{p q:PV}(h:MK ns es p)(k:MK ns es q):p=q:=by
 rcases h with⟨rfl,s,h⟩|⟨i,rfl,h⟩ <;> rcases k with⟨rfl,s',k⟩|⟨j,rfl,k⟩
 .rfl
 .exact absurd h (nI k)
 .exact absurd k (nI h)
 .rw[y4 h k]
def X7:Pre:=λl R=>∃(tp:Bool)(ns:List Str)(es:List LE),l=[.is (LX tp (ns.map .str)),.is (.lst (es.map LE.P))]/\IJ 40 ns/\(∀e∈es,e.say)/\es.length<=200/\R=.is (MK ns es)
end Fz
namespace L2
variable{prog:Program}{w:World}{A:Around}{E:Value->Shared->Prop}{s:Shared}{κ:KeyKind}{S:Keyed->Prop}{arr xs ys:Array Keyed}{e i m n na nb nrem:Nat}{key x:Keyed}{Q:Bool->SortSt->Prop}{α γ:Type}{c:Prop}{p:Array (Nat×Nat×Nat)}{rs vs:List Value}{ms ns:List Str}
noncomputable def ZAq:=sortPriv% PySem.Builtin.gallop
noncomputable def ZGc:=sortPriv% PySem.Builtin.mergeLo
noncomputable def vP:=sortPriv% PySem.Builtin.mergeHi
def Bh(S:Keyed->Prop)(xs:Array Keyed):Prop:=∀p∈xs.toList,S p
theorem Bh.at(h:Bh S xs)(hi:i<xs.size):S xs[i]:=h _ (by simp)
theorem Bh.push(h:Bh S xs)(hx:S x):Bh S (xs.push x):=λp a=>by
 rw[nV]at a;exact(List.mem_append.mp a).elim (h p) λz=>by rw[List.mem_singleton.mp z];exact hx
theorem Bh.app(h:Bh S xs)(k:Bh S ys):Bh S (xs++ys):=λp a=>by
 rw[Array.toList_append]at a;exact(List.mem_append.mp a).elim (h p) (k p)
theorem Bh.ext(h:Bh S xs)(i j:Nat):Bh S (xs.extract i j):=λp a=>by
 rw[Array.toList_extract]at a;exact h p (ZHP (o9 a))
theorem Bh.rev(h:Bh S xs):Bh S xs.reverse:=λp a=>by
 rw[Array.toList_reverse]at a;exact h p (List.mem_reverse.mp a)
theorem Bh.one(hx:S x):Bh S #[x]:=λp a=>by rw[List.mem_singleton.mp a];exact hx
structure IP (κ:KeyKind) (S:Keyed->Prop):Prop where
 lt:κ.OneLt
 key:∀p,S p->∃a,κ.keyOf p.1=some a
theorem PZ{st:SortSt}{y:Keyed}{Q:Option Bool->SortSt->Prop}(c:IP κ S)(e:kindOf st=oneType')(hx:S x)(d:S y)(h:∀b,Q (some b) st):wpS (model prog w) A E s (lt' x y) Q st:=by
 obtain⟨a,g⟩:=c.key x hx;obtain⟨b,f⟩:=c.key y d;rw[lt'_eq];refine rV (ZAP ?_);rw[e,keyLt'_oneType];exact rV (ZAi (wpAny_attempt (c.lt prog w A _ s _ _ a b g f ⟨rfl,sL (h _)⟩)))
theorem D8{st:SortSt}{Q:Keyed->SortSt->Prop}(hi:i<xs.size)(h:Q xs[i] st):wpS (model prog w) A E s (elem' xs i) Q st:=by
 rw[elem'_eq,getElem?_pos xs i hi];exact sL h
theorem B6[Decidable c]{b a:StateT SortSt Sem α}{Q:α->SortSt->Prop}{st:SortSt}(h1:c->wpS (model prog w) A E s b Q st)(h2:¬ c->wpS (model prog w) A E s a Q st):wpS (model prog w) A E s (if c then b else a) Q st:=by
 split
 .next c=>exact h1 c
 .next c=>exact h2 c
theorem ET{x y:Nat}(h:¬ (x == y)=true):x≠y:=λz=>h (by rw[z];exact tO y)
theorem Nx{st:SortSt}{left:Bool}{ZB hint:Nat}{Q:Option Nat->SortSt->Prop}(j:IP κ S)(f:kindOf st=oneType')(Tr:S key)(g:Bh S arr)(m:ZB+n<=arr.size)(hh:hint<n)
  (h:∀k,k<=n->Q (some k) st):wpS (model prog w) A E s (ZAq left key arr ZB n hint) Q st:=by
 have d:∀(i:Nat)(Q':Option Bool->SortSt->Prop),i<n->(∀b,Q' (some b) st)->wpS (model prog w) A E s (do
   let x <- elem' arr (ZB+i)
   if left=true then lt' x key else do
    let r <- lt' key x
    pure (Option.map (λx=>!x) r)) Q' st:=λi Q' hi e=>by
  have a:ZB+i<arr.size:=by omega
  refine rV (D8 a (B6 (λ_=>PZ j f (g.at a) Tr e) (λ_=>rV (PZ j f Tr (g.at a) λb=>sL (e _)))))
 refine rV (d _ _ hh λright=>B6 (λ_=>?_) (λ_=>?_))
 all_goals
  refine rV (vf (uB (I:=λ_ c AF=>AF=st/\∃l o,c=(none,l,o)) (Q:=λc AF=>AF=st/\∃l o,c=(none,l,o)) ?_ (λ_ _ z=>z) ⟨rfl,0,1,rfl⟩) ?_)
  .rintro x c AF _ _⟨rfl,l,o,rfl⟩;dsimp only;refine B6 (λ_=>sL ⟨rfl,l,o,rfl⟩) (λ_=>rV (d _ _ (by omega) λb=>B6 (λ_=>sL ⟨rfl,_,_,rfl⟩) (λ_=>sL ⟨rfl,_,_,rfl⟩)))
  .rintro c AF⟨rfl,l,o,rfl⟩;dsimp only;refine rV (vf (uB (I:=λ_ c Oh=>Oh=AF/\∃l o,o<=n/\c=(none,l,o)) (Q:=λc Oh=>Oh=AF/\∃l o,o<=n/\c=(none,l,o)) ?_ (λ_ _ z=>z) ⟨rfl,_,_,by omega,rfl⟩) ?_)
   .rintro x c Oh _ _⟨rfl,l,o,ho,rfl⟩;dsimp only;exact B6 (λ_=>sL ⟨rfl,l,o,ho,rfl⟩) (λ_=>rV (d _ _ (by omega) λb=>B6 (λ_=>sL ⟨rfl,_,_,ho,rfl⟩) (λ_=>sL ⟨rfl,_,_,by omega,rfl⟩)))
   .rintro c Oh⟨rfl,l,o,ho,rfl⟩;exact sL (h o ho)
def IF(st AF:SortSt):Prop:=∃g,AF=SortSt.mk' (kindOf st) (arrOf st) (pendingOf st) g (failedOf st)
def N3(S:Keyed->Prop)(st:SortSt)(G:γ->Prop)(c:Option (Array Keyed)×γ)(AF:SortSt):Prop:=IF st AF/\((∃r,c.1=some r/\Bh S r)∨c.1=none/\G c.2)
section
variable{a b:Array Keyed}
abbrev Gj(a b:Array Keyed)(m ia ib:Nat):Prop:=ia+1<a.size/\ib<b.size/\m<=ia+ib
def QV(S:Keyed->Prop)(a b:Array Keyed)(m:Nat)(out:Array Keyed)(ia ib:Nat):Prop:=Gj a b m ia ib/\Bh S out
section
variable{k ia ib:Nat}
theorem df(h:Gj a b m ia ib)(c:¬ (ib+1 == b.size)=true):Gj a b (m+1) ia (ib+1):=by have:=ET c;omega
theorem lC(h:Gj a b m ia ib)(c:¬ (ia+1+1 == a.size)=true):Gj a b (m+1) (ia+1) ib:=by have:=ET c;omega
theorem ZDy(h:Gj a b m ia ib)(d:k<=b.size - ib)(c:¬ (ib+k == b.size)=true):Gj a b m ia (ib+k):=by have:=ET c;omega
theorem ZDM(h:Gj a b m ia ib)(d:k<=a.size - ia)(c:¬ (ia+k+1 == a.size)=true)(c2:¬ (ia+k == a.size)=true):Gj a b m (ia+k) ib:=by have:=ET c;have:=ET c2;omega
theorem lo_le(h:Gj a b m ia ib)(e:n<=m):Gj a b n ia ib:=⟨h.1,h.2.1,Bg e h.2.2⟩
theorem Tz(h:Gj a b m ia ib):ia<a.size/\ia+(a.size - ia)<=a.size/\0<a.size - ia/\ib+(b.size - ib)<=b.size/\0<b.size - ib:=by omega
end
theorem ZCh{st:SortSt}{Q:Array Keyed->SortSt->Prop}(H:IP κ S)(G:kindOf st=oneType')(m:Bh S a)(l:Bh S b)(h1:1<=a.size)(h2:1<=b.size)
  (h:∀out AF,IF st AF->Bh S out->Q out AF):wpS (model prog w) A E s (ZGc a b) Q st:=by
 have v:=λ{out:Array Keyed}(o:Bh S out)(i j:Nat)=>(o.app (m.ext i a.size)).app (l.ext j b.size);have C:=λ{out:Array Keyed}(o:Bh S out)(i j:Nat)=>(o.app (l.ext j b.size)).app (m.ext i a.size);refine rV (ZAi (yJ ⟨rfl,rV (D8 h2 ?_)⟩));have D:=Bh.one (l.at h2);have s0:IF st st:=⟨gallopOf st,rfl⟩;refine B6 (λ_=>sL (h _ _ s0 (v D _ _))) (λc1=>B6 (λ_=>sL (h _ _ s0 (C D _ _))) (λc2=>?_));have c1:=ET c1;have c2:=ET c2;refine rV (ZAP (rV (vf (uB (I:=λx c AF=>IF st AF/\∃out ia ib g,QV S a b x out ia ib/\c=(none,out,ia,ib,g)) (Q:=N3 S st λ_=>False) ?_ ?_ ⟨s0,_,0,1,_,⟨by omega,D⟩,rfl⟩) ?_)))
 .rintro x c Jw _ _⟨Wv,ZEy,L,K,g1,XJ,rfl⟩;refine rV (vf (uB (I:=λy c AF=>IF st AF/\∃out ia ib p n,QV S a b (x+y) out ia ib/\c=(none,out,ia,ib,p,n)) (Q:=N3 S st λc=>QV S a b (x+1) c.1 c.2.1 c.2.2.1) ?_ ?_ ⟨Wv,_,_,_,_,_,XJ,rfl⟩) ?_)
  .rintro y c AF _ M⟨e,out,ia,ib,p,n,⟨d,al⟩,rfl⟩;have F:=(Tz d).1;refine rV (D8 d.2.1 (rV (D8 F (rV (PZ H (by obtain⟨g,rfl⟩:=e;exact G) (l.at _) (m.at _) λN=>B6 (λ_=>rV (D8 d.2.1 ?_)) (λ_=>rV (D8 F ?_)))))))
   .have q:=al.push (l.at d.2.1);refine B6 (λ_=>sL ⟨e,.inl ⟨_,rfl,v q _ _⟩⟩) (λc=>?_);have B:=df d c;exact B6 (λ_=>sL ⟨e,.inr ⟨rfl,lo_le B (by omega),q⟩⟩) (λ_=>sL ⟨e,_,_,_,_,_,⟨B,q⟩,rfl⟩)
   .have q:=al.push (m.at F);refine B6 (λ_=>sL ⟨e,.inl ⟨_,rfl,C q _ _⟩⟩) (λc=>?_);have B:=lC d c;exact B6 (λ_=>sL ⟨e,.inr ⟨rfl,lo_le B (by omega),q⟩⟩) (λ_=>sL ⟨e,_,_,_,_,_,⟨B,q⟩,rfl⟩)
  .rintro c AF⟨e,out,ia,ib,p,n,d,rfl⟩;exact⟨e,.inr ⟨rfl,lo_le d.1 (by omega),d.2⟩⟩
  .rintro⟨_,c⟩DY⟨Pr,⟨r,f,t⟩|⟨f,X8⟩⟩
   .cases f;exact sL ⟨Pr,.inl ⟨_,rfl,t⟩⟩
   .cases f;refine rV (ZAi (yJ ⟨rfl,rV (vf (uB (I:=λ_ c AF=>IF st AF/\∃out ia ib g p n,QV S a b (x+1) out ia ib/\c=(none,out,ia,ib,g,p,n)) (Q:=N3 S st λc=>QV S a b (x+1) c.1 c.2.1 c.2.2.1) ?_ ?_ ⟨Pr,_,_,_,_,_,_,X8,rfl⟩) ?_)⟩))
    .rintro y c AF _ _⟨⟨g0,rfl⟩,out,ia,ib,g,p,n,⟨d,al⟩,rfl⟩;have u:=Tz d;refine B6 (λ_=>?_) (λ_=>?_)
     all_goals
      refine rV (xi (rV (D8 d.2.1 (rV (Nx H G (l.at _) m u.2.1 u.2.2.1 λk O7=>B6 (λ_=>?_) (λ_=>?_))))))
      case' refine_1=>
       have al:=al.app (m.ext ia (ia+k));refine B6 (λ_=>sL ⟨⟨_,rfl⟩,.inl ⟨_,rfl,C al _ _⟩⟩) (λc=>B6 (λ_=>sL ⟨⟨_,rfl⟩,.inl ⟨_,rfl,v al _ _⟩⟩) (λc2=>?_));have d:=ZDM d O7 c c2
      all_goals
       have J:=(Tz d).1;refine rV (D8 d.2.1 ?_);have al:=al.push (l.at d.2.1);refine B6 (λ_=>sL ⟨⟨_,rfl⟩,.inl ⟨_,rfl,v al _ _⟩⟩) (λc=>?_);have d:=df d c;have u:=Tz d;refine rV (D8 J (rV (Nx H G (m.at _) l u.2.2.2.1 u.2.2.2.2 λk2 UL=>B6 (λ_=>?_) (λ_=>?_))))
       case' refine_1=>
        have al:=al.app (l.ext (ib+1) (ib+1+k2));refine B6 (λ_=>sL ⟨⟨_,rfl⟩,.inl ⟨_,rfl,v al _ _⟩⟩) (λc2=>?_);have d:=ZDy d UL c2
       all_goals
        refine rV (D8 J ?_);have al:=al.push (m.at J);refine B6 (λ_=>sL ⟨⟨_,rfl⟩,.inl ⟨_,rfl,C al _ _⟩⟩) (λc=>?_);have d:=lo_le (lC d c) (show x+1<=_ by omega);exact B6 (λ_=>sL ⟨⟨_,rfl⟩,.inr ⟨rfl,d,al⟩⟩) (λ_=>sL ⟨⟨_,rfl⟩,_,_,_,_,_,_,⟨d,al⟩,rfl⟩)
    .rintro c AF⟨e,out,ia,ib,g,p,n,d,rfl⟩;exact⟨e,.inr ⟨rfl,d⟩⟩
    .rintro⟨_,c⟩Jf⟨OW,⟨r,f,t⟩|⟨f,Yp⟩⟩
     .cases f;exact sL ⟨OW,.inl ⟨_,rfl,t⟩⟩
     .cases f;obtain⟨g0,rfl⟩:=OW;exact rV (xi (sL ⟨⟨_,rfl⟩,_,_,_,_,Yp,rfl⟩))
 .rintro c AF⟨e,out,ia,ib,g,d,rfl⟩;have:=d.1;exact absurd this (by omega)
 .rintro⟨_,c⟩AF⟨e,⟨r,f,t⟩|⟨_,z⟩⟩
  .cases f;exact sL (h _ _ e t)
  .exact z.elim
abbrev Gy(a b:Array Keyed)(m na nb:Nat):Prop:=(1<=na/\na<=a.size)/\(2<=nb/\nb<=b.size)/\na+nb+m<=a.size+b.size
def QR(S:Keyed->Prop)(a b:Array Keyed)(m:Nat)(na nb:Nat)(out:Array Keyed):Prop:=Gy a b m na nb/\Bh S out
section
variable{k:Nat}
theorem i6(h:Gy a b m na nb)(c:¬ (nb - 1 == 1)=true):Gy a b (m+1) na (nb - 1):=by have:=ET c;omega
theorem jR(h:Gy a b m na nb)(c:¬ (na - 1 == 0)=true):Gy a b (m+1) (na - 1) nb:=by have:=ET c;omega
theorem ZFc(h:Gy a b m na nb)(d:k<=nb)(c:¬ (k == 1)=true)(c2:¬ (k == 0)=true):Gy a b m na k:=by have:=ET c;have:=ET c2;omega
theorem p8(h:Gy a b m na nb)(d:k<=na)(c:¬ (k == 0)=true):Gy a b m k nb:=by have:=ET c;omega
theorem TC(h:Gy a b m na nb)(e:n<=m):Gy a b n na nb:=by omega
theorem SA(h:Gy a b m na nb):na - 1<a.size/\nb - 1<b.size/\(0+na<=a.size/\na - 1<na)/\0+nb<=b.size/\nb - 1<nb:=by omega
end
theorem tM{st:SortSt}{Q:Array Keyed->SortSt->Prop}(D:IP κ S)(C:kindOf st=oneType')(m:Bh S a)(n:Bh S b)(h1:1<=a.size)(h2:1<=b.size)
  (h:∀out AF,IF st AF->Bh S out->Q out AF):wpS (model prog w) A E s (vP a b) Q st:=by
 have u:=λ{out:Array Keyed}(o:Bh S out)(i j:Nat)=>((m.ext 0 i).app (n.ext 0 j)).app o.rev;have v:=λ{out:Array Keyed}(o:Bh S out)(i j:Nat)=>((n.ext 0 j).app (m.ext 0 i)).app o.rev;have H:a.size - 1<a.size:=by omega
 refine rV (ZAi (yJ ⟨rfl,rV (D8 H ?_)⟩));have B:=Bh.one (m.at H);have s0:IF st st:=⟨gallopOf st,rfl⟩;refine B6 (λ_=>sL (h _ _ s0 (u B _ _))) (λc1=>B6 (λ_=>sL (h _ _ s0 (v B _ _))) (λc2=>?_));have c1:=ET c1;have c2:=ET c2;refine rV (ZAP (rV (vf (uB (I:=λx c AF=>IF st AF/\∃na nb out g,QR S a b x na nb out/\c=(none,na,nb,out,g)) (Q:=N3 S st λ_=>False) ?_ ?_ ⟨s0,_,_,_,_,⟨by omega,B⟩,rfl⟩) ?_)))
 .rintro x c Jw _ _⟨Wv,K,J,ZEy,g1,XJ,rfl⟩;refine rV (vf (uB (I:=λy c AF=>IF st AF/\∃na nb out q p,QR S a b (x+y) na nb out/\c=(none,na,nb,out,q,p)) (Q:=N3 S st λc=>QR S a b (x+1) c.1 c.2.1 c.2.2.1) ?_ ?_ ⟨Wv,_,_,_,_,_,XJ,rfl⟩) ?_)
  .rintro y c AF _ M⟨e,na,nb,out,q,p,⟨d,al⟩,rfl⟩;have f:=SA d;refine rV (D8 f.2.1 (rV (D8 f.1 (rV (PZ D (by obtain⟨g,rfl⟩:=e;exact C) (n.at _) (m.at _) λN=>B6 (λ_=>rV (D8 f.1 ?_)) (λ_=>rV (D8 f.2.1 ?_)))))))
   .have al:=al.push (m.at f.1);refine B6 (λ_=>sL ⟨e,.inl ⟨_,rfl,u al _ _⟩⟩) (λc=>?_);have d:=jR d c;exact B6 (λ_=>sL ⟨e,.inr ⟨rfl,TC d (by omega),al⟩⟩) (λ_=>sL ⟨e,_,_,_,_,_,⟨d,al⟩,rfl⟩)
   .have al:=al.push (n.at f.2.1);refine B6 (λ_=>sL ⟨e,.inl ⟨_,rfl,v al _ _⟩⟩) (λc=>?_);have d:=i6 d c;exact B6 (λ_=>sL ⟨e,.inr ⟨rfl,TC d (by omega),al⟩⟩) (λ_=>sL ⟨e,_,_,_,_,_,⟨d,al⟩,rfl⟩)
  .rintro c AF⟨e,na,nb,out,q,p,d,rfl⟩;exact⟨e,.inr ⟨rfl,TC d.1 (by omega),d.2⟩⟩
  .rintro⟨_,c⟩DY⟨Pr,⟨r,l,t⟩|⟨l,X8⟩⟩
   .cases l;exact sL ⟨Pr,.inl ⟨_,rfl,t⟩⟩
   .cases l;refine rV (ZAi (yJ ⟨rfl,rV (vf (uB (I:=λ_ c AF=>IF st AF/\∃na nb out g q p,QR S a b (x+1) na nb out/\c=(none,na,nb,out,g,q,p)) (Q:=N3 S st λc=>QR S a b (x+1) c.1 c.2.1 c.2.2.1) ?_ ?_ ⟨Pr,_,_,_,_,_,_,X8,rfl⟩) ?_)⟩))
    .rintro y c AF _ _⟨⟨g0,rfl⟩,na,nb,out,g,q,p,⟨d,al⟩,rfl⟩;have f:=SA d;refine B6 (λ_=>?_) (λ_=>?_)
     all_goals
      refine rV (xi (rV (D8 f.2.1 (rV (Nx D C (n.at _) m f.2.2.1.1 f.2.2.1.2 λk O7=>B6 (λ_=>?_) (λ_=>?_))))))
      case' refine_1=>
       have al:=al.app (m.ext k na).rev;refine B6 (λ_=>sL ⟨⟨_,rfl⟩,.inl ⟨_,rfl,u al _ _⟩⟩) (λc=>?_);have d:=p8 d O7 c
      all_goals
       have F:=(SA d).1;refine rV (D8 f.2.1 ?_);have al:=al.push (n.at f.2.1);refine B6 (λ_=>sL ⟨⟨_,rfl⟩,.inl ⟨_,rfl,v al _ _⟩⟩) (λc=>?_);have d:=i6 d c;have G:=SA d;refine rV (D8 F (rV (Nx D C (m.at _) n G.2.2.2.1 G.2.2.2.2 λk2 UL=>B6 (λ_=>?_) (λ_=>?_))))
       case' refine_1=>
        have al:=al.app (n.ext k2 (nb - 1)).rev;refine B6 (λ_=>sL ⟨⟨_,rfl⟩,.inl ⟨_,rfl,v al _ _⟩⟩) (λc2=>B6 (λ_=>sL ⟨⟨_,rfl⟩,.inl ⟨_,rfl,u al _ _⟩⟩) (λL=>?_));have d:=ZFc d UL c2 L
       all_goals
        refine rV (D8 F ?_);have al:=al.push (m.at F);refine B6 (λ_=>sL ⟨⟨_,rfl⟩,.inl ⟨_,rfl,u al _ _⟩⟩) (λc=>?_);have d:=TC (jR d c) (show x+1<=_ by omega);exact B6 (λ_=>sL ⟨⟨_,rfl⟩,.inr ⟨rfl,d,al⟩⟩) (λ_=>sL ⟨⟨_,rfl⟩,_,_,_,_,_,_,⟨d,al⟩,rfl⟩)
    .rintro c AF⟨e,na,nb,out,g,q,p,d,rfl⟩;exact⟨e,.inr ⟨rfl,d⟩⟩
    .rintro⟨_,c⟩Jf⟨OW,⟨r,l,t⟩|⟨l,Yp⟩⟩
     .cases l;exact sL ⟨OW,.inl ⟨_,rfl,t⟩⟩
     .cases l;obtain⟨g0,rfl⟩:=OW;exact rV (xi (sL ⟨⟨_,rfl⟩,_,_,_,_,Yp,rfl⟩))
 .rintro c AF⟨e,na,nb,out,g,d,rfl⟩;have:=d.1;exact absurd this (by omega)
 .rintro⟨_,c⟩AF⟨e,⟨r,l,t⟩|⟨_,z⟩⟩
  .cases l;exact sL (h _ _ e t)
  .exact z.elim
end
structure CO (S:Keyed->Prop) (n:Nat) (p:Array (Nat×Nat×Nat)) (st:SortSt):Prop where
 size:(arrOf st).size=n
 al:Bh S (arrOf st)
 kind:kindOf st=oneType'
 failed:failedOf st=none
 pend:pendingOf st=p
theorem Bh.perm(h:Bh S ys)(e:xs.Perm ys):Bh S xs:=λq a=>h q ((Array.perm_iff_toList_perm.mp e).mem_iff.mp a)
theorem CO.set{st:SortSt}(h:CO S n p st)(e:xs.Perm (arrOf st)):CO S n p (setArr st xs):=⟨e.size_eq.trans h.size,h.al.perm e,h.kind,h.failed,h.pend⟩
theorem qS{st x:SortSt}{Q:PUnit->SortSt->Prop}(h:Q ⟨⟩ x):wpS (model prog w) A E s (set x:StateT SortSt Sem PUnit) Q st:=by
 unfold wpS;rw[StateT.run_set];exact qh ⟨rfl,h⟩
theorem lP{sa:Nat}:∀(l:List (Keyed×Nat))(xs:Array Keyed),Bh S xs->(∀q∈l,S q.1)->Bh S (l.foldl (λa q=>a.setIfInBounds (sa+q.2) q.1) xs)/\(l.foldl (λa q=>a.setIfInBounds (sa+q.2) q.1) xs).size=xs.size
 | [],xs,h,_=>⟨h,rfl⟩
 |q::l,xs,h,hl=>by
  have h':Bh S (xs.setIfInBounds (sa+q.2) q.1):=λy b=>by
   rw[ZH3]at b;exact(ZHQ b).elim (h y) λz=>by rw[z];exact hl q D5
  have:=lP (sa:=sa) l _ h' λy b=>hl y (DP _ b);exact⟨this.1,this.2.trans Array.size_setIfInBounds⟩
theorem sY{st:SortSt}{sa d NX:Nat}(e:IP κ S)(v:CO S n p st)(z:p[i]?=some (sa,na,d))(y:p[i+1]?=some (sa+na,nb,NX))(h1:1<=na)(h2:1<=nb)(B:sa+na+nb<=n)
  (h:∀AF,CO S n ((p.setIfInBounds i (sa,na+nb,d)).eraseIdxIfInBounds (i+1)) AF->Q true AF):wpS (model prog w) A E s (mergeAt' i) Q st:=by
 obtain⟨hsz,b,o,u,rfl⟩:=v;refine rV (ZAP ?_);rw[z,y];refine rV (qS ?_);obtain⟨DY,M8⟩:∃DY,DY=SortSt.mk' (kindOf st) (arrOf st) (((pendingOf st).setIfInBounds i (sa,na+nb,d)).eraseIdxIfInBounds (i+1)) (gallopOf st) (failedOf st):=⟨_,rfl⟩;have ea:arrOf DY=arrOf st:=by rw[M8]
 have a:CO S n (((pendingOf st).setIfInBounds i (sa,na+nb,d)).eraseIdxIfInBounds (i+1)) DY:=by rw[M8];exact⟨hsz,b,o,u,rfl⟩
 show wpS _ _ _ _ _ Q (SortSt.mk' (kindOf st) (arrOf st) (((pendingOf st).setIfInBounds i (sa,na+nb,d)).eraseIdxIfInBounds (i+1)) (gallopOf st) (failedOf st));rw[<- M8];refine rV (D8 (show sa+na<(arrOf st).size by omega) (rV (Nx (arr:=arrOf st) (ZB:=sa) (n:=na) (hint:=0) e a.kind (b.at _) b (by omega) (by omega) λk o=>B6 (λ_=>sL (h _ a)) (λ(c:¬ (na - k == 0)=true)=>?_))));have c:=ET c;refine rV (D8 (show sa+k+(na - k) - 1<(arrOf st).size by omega) (rV (Nx (arr:=arrOf st) (ZB:=sa+na) (n:=nb) (hint:=nb - 1) e a.kind (b.at _) b (by omega) (by omega) λm C=>B6 (λ_=>sL (h _ a)) (λ(c2:¬ (m == 0)=true)=>?_))));have c2:=ET c2;have j:1<=((arrOf st).extract (sa+k) (sa+na)).size:=by rw[ZH2];omega
 have f:1<=((arrOf st).extract (sa+na) (sa+na+m)).size:=by rw[ZH2];omega
 refine B6 (λ_=>rV (ZCh e a.kind (b.ext _ _) (b.ext _ _) j f λout Jf l r=>?_)) (λ_=>rV (tM e a.kind (b.ext _ _) (b.ext _ _) j f λout Jf l r=>?_))
 all_goals
  obtain⟨g,rfl⟩:=l;have pl:=lP (sa:=sa+k) out.toList.zipIdx (arrOf st) b λq t=>r q.1 (List.fst_mem_of_mem_zipIdx t);rw[<- ea]at pl;refine rV (xi (rV (ZAP (sL ?_))));show Q (Option.isNone (failedOf DY)) _;have x:Option.isNone (failedOf DY)=true:=by rw[a.failed];rfl
  rw[x];exact h _ ⟨pl.2.trans a.size,pl.1,a.kind,a.failed,a.pend⟩
theorem Mm{st:SortSt}{j:Nat}{Q:Option Bool->SortSt->Prop}(d:IP κ S)(a:CO S n p st)(hi:i<n)(c:j<n)(h:∀b,Q (some b) st):wpS (model prog w) A E s (ltAt' i j) Q st:=by
 rw[ltAt'_eq];rw[<- a.size]at hi c;exact rV (ZAP (rV (D8 hi (rV (D8 c (PZ d a.kind (a.al.at hi) (a.al.at c) h))))))
theorem lS{st:SortSt}{a:Nat}{Q:Option (Option Nat)×Nat->SortSt->Prop}{f:Nat->Option (Option Nat)×Nat->StateT SortSt Sem (ForInStep (Option (Option Nat)×Nat))}(b:a<=nrem)(d:∀x AF,CO S n p AF->x<nrem->a<=x->∀R:ForInStep (Option (Option Nat)×Nat)->SortSt->Prop,(R (.done (none,x)) AF)->(R (.yield (none,x+1)) AF)->wpS (model prog w) A E s (f x (none,x)) R AF)(e:CO S n p st)
  (h:∀m AF,CO S n p AF->a<=m->m<=nrem->Q (none,m) AF):wpS (model prog w) A E s (forIn [a:nrem] (none,a) f) Q st:=by
 refine uB (I:=λx c AF=>CO S n p AF/\c=(none,x)) ?_ ?_ ⟨e,rfl⟩
 .rintro x c AF h1 h2⟨Ce,rfl⟩;exact d x AF Ce h2 h1 _ (h x AF Ce h1 (OK h2)) ⟨Ce,rfl⟩
 .rintro c AF⟨Ce,rfl⟩;rw[Nat.max_eq_right b];exact h nrem AF Ce b (Az _)
theorem ZFp{st:SortSt}{lo:Nat}{Q:Option Nat->SortSt->Prop}(k:IP κ S)(y:lo+nrem<=n)(hn:1<=nrem)(v:CO S n p st)
  (h:∀m AF,CO S n p AF->1<=m->m<=nrem->Q (some m) AF):wpS (model prog w) A E s (countRun' lo nrem) Q st:=by
 have a:∀{x:Nat},x<nrem->lo+x<n/\lo+x - 1<n:=λhx=>by omega
 have o:∀{AF:SortSt}(i j d:Nat),CO S n p AF->CO S n p (setArr AF (mirror (arrOf AF) i j d)):=λi j d Ce=>Ce.set (mirror_perm _ _ _ _);have l:∀{AF:SortSt}{x:Nat}{R:ForInStep (Option (Option Nat)×Nat)->SortSt->Prop},CO S n p AF->x<nrem->(R (.done (none,x)) AF)->(R (.yield (none,x+1)) AF)->∀b,wpS (model prog w) A E s (if b=true then pure (ForInStep.done (none,x))else pure (ForInStep.yield (none,x+1))) R AF:=λ_ _ g f b=>B6 (λ_=>sL g) (λ_=>sL f)
 refine rV (lS (p:=p) hn (λx AF Ce hx _ R g f=>rV (Mm k Ce (a hx).1 (a hx).2 (l Ce hx g f))) v λm Jw e Iv KI=>?_);refine B6 (λ_=>sL (h m Jw e Iv KI)) (λ(c:¬ (m == nrem)=true)=>?_);have c:=ET c;refine B6 (λ_=>rV (Mm k e (show lo<n by omega) (show lo+m - 1<n by omega) λb=>B6 (λ_=>sL (h m Jw e Iv KI)) (λ_=>rV (wpS_reverse ?_)))) (λ_=>?_)
 case' refine_1=>have e:=o lo (lo+m) ((lo+m - lo) / 2) e
 all_goals
  refine rV (ZAi (yJ ⟨rfl,rV (vf (uB (I:=λx c AF=>CO S n p AF/\∃q,c=(none,x,q)) (Q:=λc AF=>CO S n p AF/\∃m q,1<=m/\m<=nrem/\c=(none,m,q)) ?_ ?_ ⟨e,0,rfl⟩) ?_)⟩))
  .rintro x u AF K4 Fs⟨Ce,q,rfl⟩;refine rV (Mm k Ce (a Fs).1 (a Fs).2 λb=>B6 (λ_=>B6 (λ_=>rV (wpS_reverse (sL ⟨o _ _ _ Ce,_,rfl⟩))) (λ_=>sL ⟨Ce,_,rfl⟩)) (λ_=>rV (Mm k Ce (a Fs).2 (a Fs).1 λb=>B6 (λ_=>sL ⟨Ce,x,q,by omega,by omega,rfl⟩) (λ_=>sL ⟨Ce,_,rfl⟩))))
  .rintro u AF⟨Ce,q,rfl⟩;exact⟨Ce,_,q,by omega,by omega,rfl⟩
  .rintro u Jf⟨t,r,q,Iv,KI,rfl⟩;refine B6 (λ_=>rV (wpS_reverse ?_)) (λ_=>?_)
   case' refine_1=>have t:=o (lo+r - (q+1)) (lo+r) ((lo+r - (lo+r - (q+1))) / 2) t
   all_goals
    refine rV (wpS_reverse (rV (lS (p:=p) KI (λx AF Ce hx _ R g f=>rV (Mm k Ce (a hx).1 (a hx).2 (l Ce hx g f))) (o _ _ _ t) λm Jw e h1 h2=>sL (h m Jw e (Bg Iv h1) h2))))
theorem ve{st:SortSt}{lo ok:Nat}(e:IP κ S)(f:lo+m<=n)(d:CO S n p st)
  (h:∀AF,CO S n p AF->Q true AF):wpS (model prog w) A E s (binarySort' lo m ok) Q st:=by
 refine rV (vf (uB (I:=λ_ c AF=>CO S n p AF/\c=(none,())) (Q:=λc AF=>CO S n p AF/\c=(none,())) ?_ (λ_ _ z=>z) ⟨d,rfl⟩) ?_)
 .rintro k c AF O7 UL⟨Ce,rfl⟩;refine rV (vf (uB (I:=λ_ c AF=>CO S n p AF/\∃l r,r<=k/\c=(none,l,r)) (Q:=λc AF=>CO S n p AF/\∃l r,r<=k/\c=(none,l,r)) ?_ (λ_ _ z=>z) ⟨Ce,0,k,Az _,rfl⟩) ?_)
  .rintro x c DY _ hx⟨DT,l,r,a,rfl⟩;exact B6 (λ_=>sL ⟨DT,l,r,a,rfl⟩) (λ(c:¬ l>=r)=>rV (Mm e DT (show lo+k<n by omega) (show lo+(l+r) / 2<n by omega) λb=>B6 (λ_=>sL ⟨DT,l,(l+r) / 2,by omega,rfl⟩) (λ_=>sL ⟨DT,(l+r) / 2+1,r,a,rfl⟩)))
  .rintro c DY⟨DT,l,r,_,rfl⟩;refine rV ?_;rw[show(sortPriv% PySem.Builtin.moveDown)=moveDown' from rfl,moveDown'_eq];exact xi (sL ⟨DT.set (bubble_perm _ _ _),rfl⟩)
 .rintro c AF⟨Ce,rfl⟩;exact sL (h _ Ce)
def DF:Nat->List (Nat×Nat×Nat)->Nat->Prop
 |lo,[],hi=>lo=hi
 |lo,(st,n,_)::r,hi=>st=lo/\1<=n/\DF (lo+n) r hi
theorem DF.le:∀{l:List (Nat×Nat×Nat)}{lo hi:Nat},DF lo l hi->lo<=hi
 | [],_,_,h=>Uj h
 | (_,n,_)::r,lo,hi,h=>by have:=DF.le h.2.2;omega
theorem DF.at2:∀{l:List (Nat×Nat×Nat)}{lo hi i:Nat},DF lo l hi->i+1<l.length->∃sa na d nb NX,l[i]?=some (sa,na,d)/\l[i+1]?=some (sa+na,nb,NX)/\1<=na/\1<=nb/\sa+na+nb<=hi/\DF lo ((l.set i (sa,na+nb,d)).eraseIdx (i+1)) hi
 | [],_,_,_,_,h=>by simp at h
 | [_],_,_,_,_,h=>by simp at h
 | (s1,n1,p1)::(s2,n2,p2)::r,lo,hi,0,h,_=>by
  obtain⟨rfl,a,rfl,b,c⟩:=h;refine⟨s1,n1,p1,n2,p2,rfl,rfl,a,b,DF.le c,rfl,by omega,?_⟩;show DF (s1+(n1+n2)) r hi;rw[<- Nat.add_assoc];exact c
 | (s1,n1,p1)::(s2,n2,p2)::r,lo,hi,i+1,h,hl=>by
  obtain⟨e,a,c⟩:=h;obtain⟨sa,na,d,nb,NX,h1,h2,k,j,g,f⟩:=DF.at2 (i:=i) c (by simpa using hl)
  exact⟨sa,na,d,nb,NX,h1,h2,k,j,g,e,a,f⟩
theorem DF.push:∀{l:List (Nat×Nat×Nat)}{lo hi n:Nat},DF lo l hi->1<=n->DF lo (l++[(hi,n,0)]) (hi+n)
 | [],lo,hi,n,h,hn=>by obtain rfl:lo=hi:=h;exact⟨rfl,hn,rfl⟩
 | (_,_,_)::r,_,_,_,h,hn=>⟨h.1,h.2.1,DF.push h.2.2 hn⟩
theorem DF.mark:∀{l:List (Nat×Nat×Nat)}{lo hi:Nat}(i a:Nat),DF lo l hi->DF lo (l.modify i λ(x:Nat×Nat×Nat)=>(x.1,x.2.1,a)) hi
 | [],_,_,_,_,h=>by simpa using h
 | (_,_,_)::r,_,_,0,_,h=>h
 | (_,_,_)::r,_,_,i+1,a,h=>⟨h.1,h.2.1,DF.mark i a h.2.2⟩
section
def Fd(S:Keyed->Prop)(n lo:Nat)(st:SortSt):Prop:=CO S n (pendingOf st) st/\DF 0 (pendingOf st).toList lo/\lo<=n
theorem Fd.of{lo:Nat}{st:SortSt}(h:CO S n p st)(r:DF 0 p.toList lo)(e:lo<=n):Fd S n lo st:=by obtain⟨a,b,c,d,rfl⟩:=h;exact⟨⟨a,b,c,d,rfl⟩,r,e⟩
theorem jc{st:SortSt}{lo:Nat}(g:IP κ S)(a:Fd S n lo st)(hi:i+1<(pendingOf st).size)(h:∀AF,Fd S n lo AF->Q true AF):wpS (model prog w) A E s (mergeAt' i) Q st:=by
 obtain⟨sa,na,j,nb,NX,h1,h2,f,e,d,c⟩:=a.2.1.at2 (i:=i) (by simpa using hi)
 refine sY g a.1 (by rw[<- UX];exact h1) (by rw[<- UX];exact h2) f e (Bg d a.2.2) λAF b=>h AF (Fd.of b ?_ a.2.2);rw[Array.toList_eraseIdxIfInBounds,ZH3];exact c
theorem ixB[Decidable c](h:¬ n<=1):(if c then n - 2 - 1 else n - 2)+1<n:=by split <;> omega
theorem ZAu{st:SortSt}{Q:Unit->SortSt->Prop}(i:IP κ S)(k:CO S n #[] st)(h:∀AF,CO S n (pendingOf AF) AF->Q () AF):wpS (model prog w) A E s sortRuns' Q st:=by
 refine rV (ZAP ?_);have hsz:=k.size;refine rV (vf (uB (I:=λ_ c AF=>∃lo,Fd S n lo AF/\c=(none,lo)) (Q:=λc AF=>∃lo,Fd S n lo AF/\c=(none,lo)) ?_ (λ_ _ z=>z) ⟨0,Fd.of k rfl (Cn _),rfl⟩) ?_)
 .rintro x c Jw _ _⟨lo,a,rfl⟩;refine B6 (λ_=>sL ⟨lo,a,rfl⟩) (λ(c:¬ lo>=(arrOf st).size)=>?_);refine rV (ZFp (lo:=lo) (nrem:=(arrOf st).size - lo) i (by omega) (by omega) a.1 λm DY DT UQ K0=>?_);refine B6 (λ(i:m<minRun' (arrOf st).size (arrOf st).size 0)=>?_) (λ_=>?_)
  case' refine_1=>
   refine rV (ZAi (yJ ⟨rfl,rV (ve (lo:=lo) (m:=min ((arrOf st).size - lo) (minRun' (arrOf st).size (arrOf st).size 0)) (by assumption) (by omega) DT λJf Pt=>B6 (λz=>by cases z) (λ_=>?_))⟩));have d:1<=min ((arrOf st).size - lo) (minRun' (arrOf st).size (arrOf st).size 0)/\lo+min ((arrOf st).size - lo) (minRun' (arrOf st).size (arrOf st).size 0)<=n:=by omega
   have g:=Fd.of Pt a.2.1 a.2.2;obtain⟨b,l⟩:∃b,b=Jf:=⟨_,rfl⟩
  case' refine_2=>
   have d:1<=m/\lo+m<=n:=by omega
   have g:=Fd.of DT a.2.1 a.2.2;obtain⟨b,l⟩:∃b,b=DY:=⟨_,rfl⟩
  all_goals
   rw[<- l]at g ⊢;refine rV (ZAP ?_);rcases e:(pendingOf b).back? with _|⟨r,p,o⟩
   case' some=>
    refine rV (vf (uB (I:=λ_ c AF=>Fd S n lo AF/\c=(none,())) (Q:=λc AF=>Fd S n lo AF/\c=(none,())) ?_ (λ_ _ z=>z) ⟨g,rfl⟩) ?_)
    .rintro y j Dn _ _⟨HP,rfl⟩;refine rV (ZAP ?_)
     by_cases f:(pendingOf Dn).size > 1
     case neg=>
      dsimp only;rw[qP f];exact sL ⟨HP,rfl⟩
     obtain⟨⟨r,p,o⟩,t⟩:∃q,(pendingOf Dn)[(pendingOf Dn).size - 2]?=some q:=⟨(pendingOf Dn)[(pendingOf Dn).size - 2]'(by omega),getElem?_pos (pendingOf Dn) _ (by omega)⟩;dsimp only;rw[rG f,t];exact B6 (λ_=>sL ⟨HP,rfl⟩) (λ_=>rV (jc (by assumption) HP (show(pendingOf Dn).size - 2+1<(pendingOf Dn).size by omega) λKY YZ=>B6 (λz=>by cases z) (λ_=>sL ⟨YZ,rfl⟩)))
    .rintro j Dn⟨⟨Jb,HP,_⟩,rfl⟩;refine rV (xi (rV (xi (sL ⟨_,⟨⟨Jb.size,Jb.al,Jb.kind,Jb.failed,rfl⟩,?_,d.2⟩,rfl⟩))));show DF 0 (((pendingOf Dn).modify ((pendingOf Dn).size - 1) _).push _).toList _;rw[nV,Array.toList_modify];exact(HP.mark _ _).push d.1
   case' none=>
    obtain⟨Jb,HP,_⟩:=g;refine rV (xi (sL ⟨_,⟨⟨Jb.size,Jb.al,Jb.kind,Jb.failed,rfl⟩,?_,d.2⟩,rfl⟩));show DF 0 ((pendingOf _).push _).toList _;rw[nV];exact HP.push d.1
 .rintro c Jw⟨lo,a,rfl⟩;refine rV (vf (uB (I:=λ_ c AF=>Fd S n lo AF/\c=(none,())) (Q:=λc AF=>Fd S n lo AF/\c=(none,())) ?_ (λ_ _ z=>z) ⟨a,rfl⟩) ?_)
  .rintro y j Dn _ _⟨HP,rfl⟩;exact rV (ZAP (B6 (λ_=>sL ⟨HP,rfl⟩) (λ(f:¬ (pendingOf Dn).size<=1)=>rV (jc i HP (ixB f) λKY YZ=>B6 (λz=>by cases z) (λ_=>sL ⟨YZ,rfl⟩)))))
  .rintro j Dn⟨HP,rfl⟩;exact sL (h _ HP.1)
def SK(vs:List Value)(st:SortSt):Prop:=(∀p∈(arrOf st).toList,p∈(pairsOf vs).toList)/\(arrOf st).size=vs.length
theorem wC(j:κ.OneLt){a:Addr}{v1 b:Value}{P:PySem.Fin->Shared->Prop}(ho:s.heap.get? a=some (seqObj "list" (v1::b::rs).toArray n))(k:KeysOf κ (pairsOf (v1::b::rs)))(Rq:keyKind' (v1::b::rs).toArray=pure oneType')(g:(v1::b::rs).length<=sizeLine)
  (h:∀st:SortSt,SK (v1::b::rs) st->P (.done (.ret .none)) { s with heap:=sortedHeap s.heap a (v1::b::rs) ((arrOf st).map (·.2)) }):wpAny (model prog w) A (Builtin.«list.sort» ⟨[.ref a],[]⟩) P E s:=by
 have f:=BA ho;obtain⟨d,g1⟩:∃d,(s.heap.update a (Obj.mapSeq λ_=>#[])).get? a=some (seqObj "list" #[] d):=⟨_,get?_update_seq ho (λ_=>#[])⟩;rw[list_sort_plain];refine oS (listItems_at ho rfl (oS (listUpdate_at ho rfl (oS (seqEpoch_at g1 rfl (oS (wpAny_newTuple (oS (ZAW (tu ?_))))))))));have e:(((s.heap.update a (Obj.mapSeq λ_=>#[])).push (seqObj "tuple" (v1::b::rs).toArray 0)).push (seqObj "list" #[] 0)).get? a=some (seqObj "list" #[] d):=by
  rw[Heap.get?_push_ne _ _ _ (Bn (by rw[size_push',ng];exact L9 f)),Heap.get?_push_ne _ _ _ (Bn (by rw[ng];exact f))];exact g1
 show wpAny (model prog w) A _ P E { s with heap:=((s.heap.update a (Obj.mapSeq λ_=>#[])).push (seqObj "tuple" (v1::b::rs).toArray 0)).push (seqObj "list" #[] 0) }
 dsimp only;have c2:¬ (v1::b::rs).toArray.size<2:=by simp
 rw[qP c2,qP c2,Rq];refine oS (qh (oS (tN (ZAu (κ:=κ) (S:=λp=>p∈(pairsOf (v1::b::rs)).toList) (n:=(v1::b::rs).length) (st:=SortSt.mk' oneType' ((v1::b::rs).toArray.zip (v1::b::rs).toArray) #[] 7 none) (Q:=λ_ st=>SK (v1::b::rs) st/\failedOf st=none) ⟨j,k⟩ ⟨pairsOf_size _,λp c=>c,rfl,rfl,rfl⟩ λst p=>⟨⟨p.al,p.size⟩,p.failed⟩) ?_ λ_ _ z=>z)));rintro⟨⟨⟩,st⟩_⟨rfl,c,i⟩;refine oS (seqEpoch_at e rfl (oS (listUpdate_at e rfl ?_ (hsz2:=?_))))
 .rw[i];simp only[bne_self_eq_false,Bool.false_eq_true,ZAQ];exact qh (h st c)
 .exact oB (Bg (Uj ((Array.size_map ..).trans c.2)) g)
theorem ZDW(b:StrsAre vs ns){st:SortSt}(c:SK vs st):∃ms,StrsAre ((arrOf st).map (·.2)).toList ms/\(∀x∈ms,x∈ns)/\ms.length=ns.length:=by
 have mv:∀v∈((arrOf st).map (·.2)).toList,v∈vs:=λv a=>by
  rw[Array.toList_map]at a;obtain⟨q,d,rfl⟩:=List.mem_map.mp a;have z:=c.1 q d;rw[pairsOf_toList]at z;exact(Ue z).2
 refine⟨_,strsAre_map _ λv a=>b.all v (mv v a),λx hx=>?_,?_⟩
 .obtain⟨v,a,rfl⟩:=List.mem_map.mp hx;rw[<- b.strs];exact List.mem_map.mpr ⟨v,mv v a,rfl⟩
 .rw[AL,MU,Array.size_map,c.2,StrsAre.ig b]
theorem vn{v:Value}{Pc:List Value->Shared->Prop}{Q:Value->Shared->Prop}
  (y:∀(A1:Around)(E1:Value->Shared->Prop)(Q1:List Value->Shared->Prop),A1.handled=A.handled->(∀vs s1,Pc vs s1->Q1 vs s1)->wpAny (model prog w) A1 (collect v) Q1 E1 s)
  (h:∀vs s1,Pc vs s1->vs.length<=sizeLine/\∃ss,StrsAre vs ss/\∀out ms e h',(∀b o,s1.heap.get? b=some o->h'.get? b=some o)->h'.get? s1.heap.objs.size=some (seqObj "list" out e)->StrsAre out.toList ms->(∀x∈ms,x∈ss)/\ms.length=ss.length->Q (.ref s1.heap.objs.size) { s1 with heap:=h' }):wpAny (model prog w) A (call (.builtin "sorted") [v]) Q E s:=by
 refine ZH5 kind_sorted plain_sorted entry_sorted (args_sorted1 _) ?_;unfold Builtin.«sorted»;refine oS (m:=checkCount "sorted" 1 1 _) (qh (oS (y _ _ _ rfl λvs s1 j=>?_)));obtain⟨t,ss,Ft,k⟩:=h vs s1 j;have d:(s1.heap.push (seqObj "list" vs.toArray 0)).get? s1.heap.objs.size=some (seqObj "list" vs.toArray 0):=CI _ rfl;have go:∀{st:SortSt},SK vs st->Q (.ref s1.heap.objs.size) { s1 with heap:=sortedHeap (s1.heap.push (seqObj "list" vs.toArray 0)) s1.heap.objs.size vs ((arrOf st).map (·.2)) }:=λ{st}a=>by
  obtain⟨ms,B,z⟩:=ZDW Ft a;obtain⟨e,u⟩:=sortedHeap_at (out:=(arrOf st).map (·.2)) d
  refine k _ ms e _ (λb o l=>?_) u B z;have q:=BA l;rw[sortedHeap_old (Bn q) (Nat.lt_of_lt_of_eq (L9 q) (by rw[Gd]))];exact Bb _ l
 refine oS (ZAW (oS (tu (ZA6 slot_list_sort ⟨_,d,rfl⟩ entry_list_sort ?_ (args_list_sort _)))));have n:∀g f rest,vs=g::f::rest->keyKind' (g::f::rest).toArray=pure oneType':=λg f rest e=>keyKind_strs (by rw[<- e];exact Ft)
 by_cases i:vs.length<64
 .exact list_sort_treeK (s:={ s1 with heap:=s1.heap.push (seqObj "list" vs.toArray 0) }) strKind_oneLt d Ft.keysOf n i λAF a _=>⟨_,rfl,qh ⟨_,rfl,go ⟨λp j=>(Array.perm_iff_toList_perm.mp a).mem_iff.mp j,a.size_eq.trans (pairsOf_size _)⟩⟩⟩
 obtain⟨v1,c,rs,rfl⟩:∃v1 c rs,vs=v1::c::rs:=by
  cases vs with
  |nil=>simp at i
  |cons v1 r=>cases r with
   |nil=>simp at i
   |cons c rs=>exact⟨v1,c,rs,rfl⟩
 exact wC (s:={ s1 with heap:=s1.heap.push (seqObj "list" (v1::c::rs).toArray 0) }) strKind_oneLt d Ft.keysOf (n _ _ _ rfl) t λAF a=>⟨_,rfl,qh ⟨_,rfl,go a⟩⟩
variable{X:Cx}
theorem ZBr{Zy:ZIW}{Z:St}{H:Hp}{s1:Shared}{Q:VK}(I:Inv X Zy Z H s)(f:s1.gens=s.gens)(ho:s1.os=s.os)(d:∀b o,s.heap.get? b=some o->s1.heap.get? b=some o)(c:s.heap.objs.size<=s1.heap.objs.size)
  {out:Array Value}{h':Heap}(kp:∀b o,s1.heap.get? b=some o->h'.get? b=some o) (g:h'.get? s1.heap.objs.size=some (seqObj "list" out e)) (j:StrsAre out.toList ms) (i:ms.length<=sizeLine)
  (q:∀l,H l=none->Q (.ref l) (upd H l (.lst (ms.map V.str)))):EP X Zy Z Q (.ref s1.heap.objs.size) { s1 with heap:=h' }:=by
 obtain⟨h1,g1,k,h,m⟩:=s1;simp only at f ho d c kp g;subst f;subst ho;exact⟨.ref _,_,(I.drew k).laid (a:=h1.objs.size) (h':=h') (t':=h) (o:=.lst (ms.map V.str)) (λb o q=>kp b o (d b o q)) c ⟨by rw[AL];exact i,out.toList,e,WZ j,by simpa[seqObj]using g⟩,rfl,q _ (I.AJ.fresh c)⟩
def eU:List V->Hp->VK->Prop:=λxs H Q=>∃(p:Addr)(A6:List (Key×V))(ns:List Str),xs=[.ref p]/\Rd H p (.dK A6)/\A6.map (·.1)=ns.map Sum.inr/\ns.length<=1000/\∀(l:Addr)(ms:List Str),H l=none->(∀x∈ms,x∈ns)/\ms.length=ns.length->Q (.ref l) (upd H l (.lst (ms.map V.str)))
theorem vm(w:X.calm=true):DW X (.builtin "sorted") eU:=by
 intro Zy s Z H xs us Q I r h;obtain⟨p,A6,ns,rfl,y,t,hn,q⟩:=h;obtain⟨u,rfl,m⟩:=vals1 r;cases m;obtain⟨n,IM,J9,rel,x⟩:=JB I.AJ y;have hh:X.A.handled=none:=I.ok.hd w;have B:J9.map (·.1)=ns.map Sum.inr:=rel.keys.symm.trans t
 have a:ns.length<=sizeLine:=Bg hn (by decide +kernel);refine vn (Pc:=λvs s1=>(∀b o,s.heap.get? b=some o->s1.heap.get? b=some o)/\s.heap.objs.size<=s1.heap.objs.size/\s1.gens=s.gens/\s1.os=s.os/\StrsAre vs ns) (λA1 E1 Q1 z k=>qA (z.trans hh) IM x rfl (by rw[<- rel.length];exact n) λs' vs i g f d c C=>k vs s' ⟨i,g,f,d,ir B c C⟩) ?_;rintro vs s1⟨i,g,f,d,c⟩;exact⟨by rw[StrsAre.ig c];exact a,ns,c,λout ms e h' kp v DA j=>ZBr I f d i g kp v DA (by rw[j.2];exact a) λl a=>q l ms a j⟩
end
end L2
namespace Fz
open L2 Lw
variable{d i:Nat}
section
variable[Xw]
variable{ss:List Slot}{te:TE}
theorem ZCJ{k:List PV->Prop}(h:Wp ss te λp=>∃(xs:List PV)(ns:List Str),p=.B2 (ns.map Sum.inr) xs/\ns.length<=1000/\∀Bk:List Str,(∀x∈Bk,x∈ns)/\Bk.length=ns.length->k (Bk.map PV.str)):Wn ss (Dk eU (Al te BR)) k:=⟨λE Z F H Q S q=>
 h.go E Z F H _ S λv p F1 H1 b c AH=>by
  obtain⟨xs,ns,e,f,kk⟩:=AH;subst e;obtain⟨a,vs,rfl,j,i,m⟩:=c.inv;refine⟨a,_,ns,rfl,.inl (b.st.fh _ _ j),TQ i,f,λl Bk CZ g=>?_⟩;have d:=b.st.make CZ (.lst (Bk.map V.str));exact q l _ _ F1 _ (b.trans d) (b.st.CA CZ) (b.none CZ) AW (N9 Bk) (kk Bk g)⟩
theorem zE{lt:Bool}{t:OV}{c d:TT}{u v:TS}{nx:List Slot->Prop}{R:Aq}(h:Qe ss i lt t c λb t'=>if b=true then Ws (ss.set i (.ow lt t')) (NS d u v) nx R else Ws (ss.set i (.ow lt t')) v nx R):Ws ss (NS (Tj c d) u v) nx R:=⟨λE D Z F H S hn e=>
 h.go E Z F H _ S λb t' F1 H1 a kk=>by
  have f:∀AN σ' F' H',nx AN->Sg E AN σ' F' H'->AB F1 F'->D.nx σ' H':=λAN σ' F' H' n S' s=>hn AN σ' F' H' n S' (a.ff.trans s);cases b with
  |true=>rw[rG rfl]at kk ⊢;exact kk.go E D Z F1 H1 a.st f e
  |false=>rw[qP (by decide)]at kk ⊢;show if false=true then _ else _;rw[qP (by decide)];exact kk.go E D Z F1 H1 a.st f e⟩
theorem ZGY{tk:TE}{sc:List Int}{K:ZIV}{k:PV->Prop}(hi:ss[i]?=some (.raw (DU K sc)))(h:Wp ss tk λx=>∃m,x=.int m/\0<=m/\m<=1000/\Wp ss te λy=>∃n,y=.int n/\0<n/\n<10 ^ 18/\∀r:Int,0<=r->r<n->k (.int r)):
  Wp ss (Dg Hc [] E0 (Al (Dg (Q8 K) [] E0 (Al (BS i) (Al tk BR))) (Al te BR))) k:=⟨λE Z F H Q S q=>by
 obtain⟨v,e,⟨a,O,X⟩,st⟩:=S.ok i _ hi;subst O;refine⟨_,e,h.go E Z F H _ S λv x F1 H1 c r AH=>?_⟩;obtain⟨m,T,M,MP,hw⟩:=AH;subst T;cases r.inv;obtain⟨W,C,U,_⟩:=c.st.ok i _ hi;rw[e]at C;cases C;obtain⟨Y,ea,Hg⟩:=KS K sc _ F1 H1 c.st.fh U;cases ea;refine⟨a,sc,m,rfl,Hg,M,MP,λp H2 l s u=>?_⟩;have A:=c.st.grow s;have D:∀(j:Nat)s,ss[j]?=some s->¬ Be s Z[j]? p:=λj s d=>c.st.OR d l;have np:Cw ss Z p:=λj d=>D j _ d;refine hw.go E Z F1 H2 _ A.st λV p3 F4 H4 g I Cr=>?_;obtain⟨n,R,n0,n1,kk⟩:=Cr;subst R;cases I.inv;have G:Bz H4 p:=Bz.keep u λo P=>g.hh p o np P;have t:F4 p=Option.none:=by
  cases z:F4 p with
  |none=>rfl
  |some o=>
   obtain⟨_,_,w,_⟩:=u;rcases g.nn p o z with z|z
   .rw[c.st.CA l]at z;cases z
   .rw[w]at z;cases z
 refine⟨p,n,rfl,G,n0,n1,λr H5 L J s4=>?_⟩;have f:=c.trans (A.trans g);refine q _ _ F4 H5 ?_ (.int r) (kk r L J);refine S.step f.ff (λb o z=>s4.same b o (DH z t) (f.st.fh b o z)) (λb o n z=>s4.same b o (λw=>?_) (f.hh b o n z)) (λb o z=>f.nn b o z) λj N d B=>Bz.keep (f.st.En d B) λo z=>s4.same N o (λw=>D j _ d (w▸B)) z;subst w;rw[c.none l]at z;cases z⟩
end
theorem kC{K:ZIV}{xs:List PV}(h:∀x∈xs,flat x=true):dat K (d+2) (.tup xs):=λx hx=>by
 have:=h x hx;cases x <;> first|trivial|(cases this)
theorem oq{K:ZIV}(e:LE):dat K (d+2) e.P:=by
 have two:∀{a b:PV},flat a=true->flat b=true->dat K (d+2) (.tup [a,b]):=λh g=>kC λx hx=>by
  rcases List.mem_cons.mp hx with rfl|hx
  .exact h
  .rw[List.mem_singleton.mp hx];exact g
 have f:∀{a b c:PV},flat a=true->flat b=true->flat c=true->dat K (d+2) (.tup [a,b,c]):=λh g j=>kC λx hx=>by
  rcases List.mem_cons.mp hx with rfl|hx
  .exact h
  .rcases List.mem_cons.mp hx with rfl|hx
   .exact g
   .rw[List.mem_singleton.mp hx];exact j
 cases e with
 |Hr x r=>exact f rfl rfl rfl
 |tell x y=>exact f rfl rfl rfl
 |over x=>exact two rfl rfl
 |Ee d=>cases d with
  |take x=>exact two rfl rfl
  |put x i=>exact f rfl rfl rfl
  |move x i=>exact f rfl rfl rfl
  |turn lo hi=>exact f rfl rfl rfl
theorem z7{K:ZIV}(es:List LE):dat K 40 (.lst (es.map LE.P)):=λx hx=>by
 obtain⟨e,_,rfl⟩:=List.mem_map.mp hx;exact oq (d:=37) e
end Fz
namespace L2
section
variable{X:Cx}
def Xx(K:ZIV)(t:TA):TE:=λZ H Q=>t Z H λvs H1=>∃a tp ys,vs=[.ref a]/\Es K tp H1 a ys/\tp=false/\∀l,H1 l=none->Q (.ref l) (upd H1 l (.lst ys.reverse))
theorem dI{p1 p2 P Jc:Pos}{e:Expr}{t:TA}(G:X.calm=true)(Jo:Gl X "list")(Iv:X.mg "list"=none)(WY:Gl X "reversed")(KI:X.mg "reversed"=none)(k:QA X [e] t)
  (F:starEach [e] X.env=[(false,eval e X.env)]:=by rfl) (Mz:starEach [.Call (.Name "reversed" p2) [e] [] Jc] X.env=[(false,eval (.Call (.Name "reversed" p2) [e] [] Jc) X.env)]:=by rfl) :
  QE X (.Call (.Name "list" p1) [.Call (.Name "reversed" p2) [e] [] Jc] [] P) (Xx X.K t):=⟨by
 have k:=k.h;intro Zy s Z H Q I h;refine uc (KG I Jo Iv (show bootBuiltins "list"=some (.type "list") by decide +kernel) ?_ (by decide) (by decide));refine R3 ?_ Mz rfl;rw[Mz];show wpAny _ _ (spliced ((false,eval (.Call (.Name "reversed" p2) [e] [] Jc) X.env)::[])) _ _ s;refine nY ?_;refine uc (KG I WY KI (show bootBuiltins "reversed"=some (.type "reversed") by decide +kernel) ?_ (by decide) (by decide));refine R3 (AQ (k Jc Zy s Z H _ I h) λus s1⟨vs,H1,I1,B,C⟩=>?_) F rfl;obtain⟨a,tp,ys,rfl,E,rfl,q⟩:=C;obtain⟨u,rfl,y⟩:=vals1 B;cases y;have m:∀(A5:List Value)(D:Addr)(s2 s':Shared)(acc:Array Value)(c:Nat)(tk:Nat)(ob:Obj),Vals ys A5->ys.length<=sizeLine->D=s1.heap.objs.size->s2={ s1 with heap:=s1.heap.push ob,toks:=tk }->
   Moved [s2.heap.objs.size,D] (λa b=>b=a) { s2 with heap:=s2.heap.push { cls:=.type "list", data:=.seq #[] } } s'->s'.heap.get? s2.heap.objs.size=some { cls:=.type "list", dict:=none,data:=.seq acc c,slots:=#[] }->
   ItemsOf (λi v=>A5.toArray[A5.toArray.size - 1 - i]?=some v) acc A5.toArray.size->EP X Zy Z Q (.ref s2.heap.objs.size) s':=by
  intro A5 D s2 s' acc c tk ob r j N O d l BD;subst N;subst O;obtain⟨us,z,rfl⟩:=wb r BD;obtain⟨h',g',d',g,Qd⟩:=s';have L:g'=s1.gens:=d.gens;have M:d'=s1.drawn:=d.drawn;have J:Qd=s1.os:=d.os;subst L;subst M;subst J;have hsz:(s1.heap.push ob).objs.size=s1.heap.objs.size+1:=Gd ..;have kp:∀b o,s1.heap.get? b=some o->h'.get? b=some o:=λb o e=>by
   have f:=BA e;refine d.heap b o ?_ (Bb _ (Bb _ e));show b∉[(s1.heap.push ob).objs.size,s1.heap.objs.size];rw[hsz];simp only[HZ,BB,ZAn,not_or];exact⟨Bn (L9 f),Bn f⟩
  refine⟨.ref _,_,I1.laid (a:=(s1.heap.push ob).objs.size) (t':=g) kp (by rw[hsz];exact FZ _) (show CC X.prog X.w _ h' _ (.lst ys.reverse)from⟨by rw[Qu];exact j,us,c,z,l⟩),rfl,q _ (I1.AJ.fresh (by show _<=_;rw[hsz];exact FZ _))⟩
 have hh:X.A.handled=none:=I1.ok.hd G;obtain⟨A5,r,pl,j⟩:=I1.list E;have p:=r.length;refine call_reversed_list pl.isList ?_;refine nZ ?_;obtain⟨o,n,ho,_⟩:=id pl;have x:=BA ho;have R:a≠s1.heap.objs.size:=Bn x;have S:0<=A5.toArray.size/\Heap.IsRevIter (s1.heap.push (revObj a ((A5.toArray.size:Int) - 1))) s1.heap.objs.size a ((A5.toArray.size:Int) - 1 - ((0:Nat):Int))/\Heap.IsList (s1.heap.push (revObj a ((A5.toArray.size:Int) - 1))) a A5.toArray:=
  ⟨Cn _,⟨_,CI _ rfl,rfl,by simp[revObj]⟩,pl.isList.push _⟩
 refine qu (I:=s1.heap.objs.size) (s:={ s1 with heap:=s1.heap.push (revObj a ((A5.toArray.size:Int) - 1)) }) (Walks.listRev (prog:=X.prog) (w:=X.w) (A:=X.A.in1.in1) hh s1.heap.objs.size a R A5.toArray).toS (λi s st=>st.2.1.typeIs) S ?_ (by simp) ?_ (by simp;omega)
 .intro b f;show b<(s1.heap.push _).objs.size;rw[Gd];rcases List.mem_cons.mp f with h|h
  .rw[h];exact cA _
  .have:b=a:=by simpa using h
   rw[this];exact L9 x
 .intro s' acc c d l BD;exact m A5 s1.heap.objs.size { s1 with heap:=s1.heap.push (revObj a ((A5.toArray.size:Int) - 1)) } s' acc c s1.toks (revObj a ((A5.toArray.size:Int) - 1)) r j rfl rfl d l BD⟩
variable{Zy:ZIW}{Z:St}{H:Hp}{s:Shared}
end
end L2
namespace Fz
open L2 Lw
section
variable[Xw]
variable{ss:List Slot}{te:TE}{K:ZIV}{ta tb tc:TE}{k:PV->Prop}
theorem tH{k:List PV->Prop}(h:Wz ss te λtp xs=>tp=false/\k (M0 xs)):Wi ss (ZH K (Al te BR)) k:=⟨λE Z F H R S q=>
 h.go E Z F H _ S λv tp xs F1 H1 b f AH=>by
  obtain⟨o,kk⟩:=AH;subst o;obtain⟨l,vs,n,a,r⟩:∃l vs,v=.ref l/\(∀(ss:List Slot)(Z:L2.St)(F H:Hp),AB F1 F->Sg E ss Z F H->H l=some (.lst vs))/\Aa F1 vs xs:=by
   obtain⟨l,vs,e,h1,r⟩:=f;refine⟨l,vs,e,λss Z F H s S=>?_,r⟩;rcases h1 with h1|⟨hA,h1⟩
   .exact S.fh _ _ (s _ _ h1)
   .exact S.keep _ _ hA h1
  subst n;refine⟨l,vs,rfl,Ac.of (a ss Z F1 H1 (AB.refl _) b.st),q _ (M0 xs) F1 H1 b ⟨λss Z F H i s S hi=>?_,λss Z F H s S=>?_,λss Z F H i x H' s S hi y=>?_⟩ kk⟩
  .rw[So]at hi;exact⟨Ac.of (a ss Z F H s S),by rw[r.length];exact hi⟩
  .refine⟨Ac.of (a ss Z F H s S),?_⟩;rw[So,r.length];exact Az _
  .obtain⟨p,y,g,ex,j,t⟩:=y;subst ex;subst t;obtain⟨z,d,c⟩:=r.get' g;have m:=S.alloc j (.tup [.int i,y]);exact⟨_,_,iJ d,m,.tup AW (.cons (.int _) (.one (c.mono (s.trans m.ff))))⟩⟩
end
end Fz
namespace L2
variable{X:Cx}{Zy:ZIW}{H H2:Hp}{s s2:Shared}{a b it:Addr}{prog:Program}{w:World}{A:Around}{E:Value->Shared->Prop}{e o:Expr}{es ifs:List Expr}{tn:Nat->Heap->Prop}
open AutoSeq1 (wpAny_loadPart')
section
variable{M:Model}{env:Env}
variable{lo hi:Option Expr}{to:TE}{tl th:TO}{pos p2:Pos}
variable{te:TE}
theorem lN{α:Type}(xs:List α):∀k:Nat,k<=xs.length->((List.range k).map λi=>xs.length - 1 - i).filterMap (xs[·]?)=xs.reverse.take k
 | 0,_=>by simp
 |k+1,h=>by
  rw[List.range_succ,E4,List.filterMap_append,lN xs k (by omega),List.take_succ]
  congr 1
  rw[ZHH (by omega)];show List.filterMap _ [xs.length - 1 - k]=_;cases h2:xs[xs.length - 1 - k]? <;> simp[h2]
theorem ZFt(xs:List Value):slicePick xs.toArray none none (some (-1))=xs.reverse.toArray:=by
 unfold slicePick
 congr 1
 have e:sliceRange (sliceBounds none none (some (-1)) xs.toArray.size).1 (sliceBounds none none (some (-1)) xs.toArray.size).2.1 (sliceBounds none none (some (-1)) xs.toArray.size).2.2=(List.range xs.length).map λi=>xs.length - 1 - i:=by
  simp only[sliceBounds,ZHV,show ¬ ((-1:Int) > 0) by decide,ZAQ];unfold sliceRange;simp only[show ¬ ((-1:Int) > 0) by decide,ZAQ,C9]
  by_cases h:((xs.length:Int) - 1) > -1
  .rw[rG h,show((xs.length:Int) - 1 - -1 - -1 - 1) / - -1=(xs.length:Int) by rw[show(- -1:Int)=1 from rfl,Int.ediv_one];omega,Qr];exact List.map_congr_left λk _=>by omega
  .have:xs.length=0:=by omega
   rw[qP h,this];rfl
 rw[e];have:=lN xs xs.length (Az _);rw[OJ (by simp)]at this;rw[<- this];rw[show(λi:Nat=>xs.toArray[i]?)=λi=>xs[i]? from funext λi=>by simp]
def ZQ(K:ZIV)(te:TE)(ts:TO):TE:=λZ H Q=>te Z H λx H1=>ts Z H1 λo H2=>∃a xs,x=.ref a/\o=some (-1)/\Ac K H2 a xs/\∀l,H2 l=none->Q (.ref l) (upd H2 l (.lst xs.reverse))
theorem ZCg{st:Expr}{ts:TO}(g:QE X e te)(f:QO X (some st) ts):QE X (.Subscript e (.Slice none none (some st) p2) pos) (ZQ X.K te ts):=⟨by
 have g:=g.h;have f:=f.h;intro Zy s Z H Q I h;refine Subscript_ (AQ (g Zy s Z H _ I h) λv s1⟨x,H1,I1,l,n⟩=>?_);refine wpAny_Slice ?_;rw[evalPart_none];refine qh (qh (AQ (f Zy s1 Z H1 _ I1 n) λvs c⟨b,H3,I3,o,m⟩=>?_));obtain⟨a,xs,rfl,rfl,hx,q⟩:=m;cases l;have i:Inv X Zy Z H3 { c with heap:=c.heap.push { cls:=.type "slice", data:=.fields #[.none,.none,vs] } }:=I3.kept (t':=c.toks) λb ob q=>Bb _ q
 obtain⟨A5,j,pl,k⟩:=i.list hx;have d:=j.length;show wpAny (model X.prog X.w) X.A (subscriptTail e (.Slice none none (some st) p2) (.ref a) (.ref c.heap.objs.size)) (EP X Zy Z Q) X.xe { c with heap:=c.heap.push { cls:=.type "slice", data:=.fields #[.none,.none,vs] } }
 refine tail_any (ops:=[.ref a,.ref c.heap.objs.size]) pl.isList.typeIs slot_list_getitem.lookup (wpAny_getItem_list_slice pl.isList (Heap.IsSliceOf.new ..) .none .none o (by decide) ?_ (by rw[C9,<- d];exact k)) (by with_unfolding_all rfl);rw[ZFt];exact⟨.ref _,_,i.Y0 (t':=c.toks) j.reverse (by rw[Qu];exact k),rfl,q _ i.fresh⟩⟩
variable{P:Program}{h:Heap}
variable{Z:St}{v:V}{r:Value}{k:List Bool}{A6:List (List Bool×V)}
variable{i value:Expr}{pos' Qo:Pos}{td ty tv:TE}
variable{elt iter:Expr}{x z:Str}{px pz tp:Pos}{tk:Nat}{scope:Scope}{Ao:List Str}{js:List Nat}{tt:TT}{J:It}{fp:List Addr}
variable{zs:List Str}
end
end L2
namespace Fz
open L2 Lw
variable{i r:Nat}{ns xs:List Str}{α:Type}{es:List LE}{s s':Ls}{e:LE}{w:PV}
section
variable[Xw]
variable{ss:List Slot}{K:ZIV}{j:Nat}{t:OV}{td:TE}{lt:Bool}{nx:List Slot->Prop}{R:Aq}{b c:Addr}{p:List Nat}{nk:NK}{us:List OV}
theorem xg{k:List Slot->Prop}{t:TA}{ns:List Int}(hi:ss[i]?=some (.raw (DU K ns)))(h:Wa ss t λl=>k (.raw (DU K ns.reverse)::l)):Wa ss (Al (ZQ K (BS i) (PF (OP (rU λi=>V.int (-i)) (tC (V.int 1))))) t) k:=⟨λE Z F H Q S q=>by
 obtain⟨v,e,rs,_⟩:=S.ok i _ hi;refine⟨v,e,?_⟩;have wo:Wo ss (PF (OP (rU λi=>V.int (-i)) (tC (V.int 1)))) (λo=>o=some (-1)):=fk (dg (Br ⟨_,rfl,_,rfl,rfl⟩));refine wo.go E Z F H _ S λo F1 H1 b m=>?_;obtain⟨a,rfl,g⟩:=KS K ns _ F1 H1 b.st.fh (KS K ns _ F F1 b.ff rs);refine⟨a,_,rfl,m,g,λl j=>?_⟩;have d:=b.st.alloc j (.lst (ns.map V.int).reverse);refine h.go E Z _ _ _ d.st λvs l2 F3 H3 c f kk=>q _ _ F3 H3 (b.trans (d.trans c)) (.cons (s:=.raw (DU K ns.reverse)) ⟨?_,KS K ns.reverse _⟩ f) kk;refine KS K ns.reverse _ _ F3 c.ff ⟨l,rfl,?_⟩;rw[o7];exact Ac.of AW⟩
end
theorem Zf{Q:α->Prop}{a b:α}(h1:Q a)(h2:Q b):∀x∈[a,b],Q x:=λx hx=>by
 rcases List.mem_cons.mp hx with rfl|hx
 .exact h1
 .rw[List.mem_singleton.mp hx];exact h2
theorem S8{Q:α->Prop}{a b c:α}(h1:Q a)(h2:Q b)(d:Q c):∀x∈[a,b,c],Q x:=λx hx=>by
 rcases List.mem_cons.mp hx with rfl|hx
 .exact h1
 .exact Zf h2 d x hx
theorem Tb(h:∀x∈xs,C7 x)(b:r<xs.length):∃t,L2.Bp (xs.map PV.str) r=some (.str t)/\C7 t:=by
 obtain⟨t,a,e⟩:=Rt (ns:=xs) b;exact⟨t,e,h t a⟩
theorem Qp{xs:List Int}(h:∀x∈xs,Eo x)(a:r<xs.length):∃t,L2.Bp (xs.map PV.int) r=some (.int t)/\Eo t:=
 ⟨xs[r],L2.Kr (by rw[Bc,BG a];rfl),h _ (MX a)⟩
theorem Yg(h:(xs.all λx=>decide (x.length<=100) && x.cps.toList.all λc=>decide (c<16 ^ 8))=true):∀x∈xs,C7 x:=λx hx=>by
 have q:=List.all_eq_true.mp h x hx;rw[Dl]at q;exact TZ (rE q.1) λc a=>rE (List.all_eq_true.mp q.2 c a)
theorem II{i:Int}(h:-1<=i)(h2:i<=1000):Eo i:=by
 have:=ZD4 (r:=i+1) (by omega)
 by_cases c:i+1<1000
 .have:=this c
  rwa [show i+1 - 1=i by omega]at this
 .obtain⟨n,rfl⟩:=D4 (show 0<=i by omega);exact K9 (by omega)
theorem ZD0:Eo (10 ^ 59):=ZR (by decide +kernel)
def XN:Pre:=λl R=>∃(ns:List Str)(m:Nat),l=[.AV,.is (.lst (ns.map .str)),.is (.int m)]/\IJ 40 ns/\m<=100/\R=.is λp=>∃d:Ae,p=aP d/\d.say
def YH:Pre:=λl R=>∃(s:Ls)(m:Nat),l=[.AV,.is (EZ s),.is (.int m)]/\s.Ok/\s.sn.length<=200/\m<=100/\R=.is λp=>∃e:LE,p=e.P/\e.say
def bR:Pre:=λl R=>∃(s:Ls),l=[.AV,.is (EZ s)]/\s.Ok/\s.sn.length<=200/\R=.is λp=>∃e:LE,p=e.P/\e.say
theorem cT(h:HU ns es i)(fs:List LE):HU ns (es++fs) i:=by
 obtain⟨s,e,a,b,c⟩:=h;have hi:=(List.getElem?_eq_some_iff.mp b).1;exact⟨s,e,by rw[List.take_append_of_le_length (OK hi)];exact a,by rw[HW hi];exact b,c⟩
structure G3 (ns:List Str) (es:List LE) (s:Ls) (w:PV):Prop where
 ok:s.Ok
 say:∀e∈es,e.say
 len:s.sn.length<=es.length
 fst:(w=.A8/\runs (Dz ns) es=some s)∨∃i:Nat,w=.int i/\HU ns es i
theorem G3.nil(h:IJ 40 ns):G3 ns [] (Dz ns) .A8:=⟨fO h,λe h=>absurd h BB,Cn _,.inl ⟨rfl,rfl⟩⟩
theorem ZF9(g:FG s e=some s'):s'.sn.length<=s.sn.length+1:=by
 have:=iM (s:=s) (es:=[e]) (s':=s') ((Qg (es:=[]) (s:=s) (s':=s) (e:=e) rfl).trans g)
 simpa using this
theorem G3.FG(h:G3 ns es s w)(g:FG s e=some s')(a:e.say):G3 ns (es++[e]) s' w:=by
 refine⟨h.ok.step g,λc LP=>?_,?_,?_⟩
 .rcases List.mem_append.mp LP with z|z
  .exact h.say c z
  .rw[List.mem_singleton.mp z];exact a
 .have:=ZF9 g;have:=h.len;rw[CK,o5];omega
 .rcases h.fst with⟨rfl,b⟩|⟨i,rfl,hw⟩
  .exact .inl ⟨rfl,by rw[Qg b,g]⟩
  .exact .inr ⟨i,rfl,cT hw _⟩
theorem G3.bad(h:G3 ns es s w)(g:Fz.FG s e=none)(a:e.say):G3 ns (es++[e]) s (match w with | .A8=>.int es.length|w=>w):=by
 refine⟨h.ok,λc LP=>?_,?_,?_⟩
 .rcases List.mem_append.mp LP with z|z
  .exact h.say c z
  .rw[List.mem_singleton.mp z];exact a
 .have:=h.len;rw[CK,o5];omega
 .rcases h.fst with⟨rfl,b⟩|⟨i,rfl,hw⟩
  .refine .inr ⟨es.length,rfl,s,e,?_,?_,g⟩
   .rw[List.take_left];exact b
   .rw[Jk (Az _),oG];rfl
  .exact .inr ⟨i,rfl,cT hw _⟩
theorem G3.first(h:G3 ns es s w):MK ns es w:=by
 rcases h.fst with⟨rfl,a⟩|⟨i,rfl,hw⟩
 .exact .inl ⟨rfl,s,a⟩
 .exact .inr ⟨i,rfl,hw⟩
def KQ(ns:List Str)(es:List LE)(w:PV)(s:Ls):PV:=.tup [.lst (ns.map .str),.lst (es.map LE.P),w,EZ s]
structure eh (ns:List Str) (es:List LE) (w:PV):Prop where
 row:IJ 40 ns
 say:∀e∈es,e.say
 len:es.length<=110
 fst:MK ns es w
def Vm(K:ZIV):Pre:=λl R=>∃(sc:List Int)(r:Nat),l=[.raw (DU K sc),.is (.int r)]/\sc.length<=63/\r<=60/\R=.is λp=>∃(ns:List Str)(es:List LE)(w:PV)(s:Ls),p=KQ ns es w s/\eh ns es w
def Xe:Pre:=λl R=>∃i:Int,l=[.is (.int i)]/\R=.is λp=>p=.bl true
def Z5:Pre:=λl R=>∃(ns:List Str)(es:List LE)(w:PV),l=[.is w,.is w]/\MK ns es w/\R=.is λp=>p=.bl true
end Fz
namespace L2
section
variable{X:Cx}
variable{Zy:ZIW}{elt iter:Expr}{ifs es:List Expr}{zs:List Str}{tp pos:Pos}{tk:Nat}{scope:Scope}{Ao:List Str}{js:List Nat}{tt:TT}{te:TE}
variable{Z:St}{H2:Hp}{s2:Shared}{x:Str}{px:Pos}{J:It}{fp:List Addr}{it:Addr}
 {tn:Nat->Heap->Prop}
end
end L2
namespace Fz
open L2 Lw
section
variable[Xw]
variable{ss:List Slot}{K:ZIV}{ta tb tc te ti ty:TE}{nx:List Slot->Prop}{R:Aq}{xs ps:List PV}{i j:Nat}{t:OV}{lt:Bool}{a b:Addr}{us:List OV}{nk:NK}
theorem w6{k:List PV->Prop}(h:Wq ss te λtp xs=>tp=false/\k xs.reverse):Wn ss (Xx K (Al te BR)) k:=⟨λE Z F H Q S q=>
 h.go E Z F H _ S λv tp xs F1 H1 b sv AH=>by
  obtain⟨f,kk⟩:=AH;obtain⟨l,vs,rfl,e,r⟩:=sv.seq b.st;refine⟨l,tp,vs,rfl,Hk.sq e,f,λa c=>?_⟩;have d:=b.st.make c (.lst vs.reverse);exact q a _ _ F1 _ (b.trans d) (b.st.CA c) (b.none c) AW r.reverse kk⟩
end
def V6:Pre:=λl R=>∃(ns:List Str)(lo hi:Nat),l=[.sq false (ns.map .str),.is (.int lo),.is (.int hi)]/\ns.length<=1000/\lo<=hi/\hi<=ns.length/\R=.new λxs=>xs=(Fq ns lo hi).map .str
def b9(c:GG):Ez:=λl R D=>∃(ns:List Str)(d:Ae),l=[.sq false (ns.map .str),.is (aP d)]/\d.say/\ns.length<=40/\(R=.new λxs=>∃d':Af,d.Is ns d'/\xs=(d'.done ns).map .str)/\D=λe=>d.B0 c ns=some e
end Fz
set_option maxHeartbeats 8000000
namespace Pf
open L2 Lw
variable{w:World}{mg:ZIX}{A7 AM Ay B1 B8 B9 BK C C3 Cy Ga Il R7 RS S Se Sr TL U2 f:Addr}{ZF6 ZFL fd tj we xH yX:FuncData}{α:Type}{VG XW Z8:Tok}{l:PySem.W.OpenLaw}
abbrev St:=L2.St
noncomputable def top(i:Nat):Stmt:=PySem.Challenge.pw_stirround_k21_first_wrong_entries.main.body.getD i (.Pass ⟨0,0,0,0⟩)
abbrev X0:Stmt:=top 44
abbrev Wd:Stmt:=top 43
abbrev WJ:Stmt:=top 45
abbrev bI:Stmt:=top 46
abbrev YG:Stmt:=top 47
abbrev Vq:Stmt:=top 48
abbrev WK:Stmt:=top 49
abbrev aT:Stmt:=top 62
abbrev Om:Stmt:=top 54
abbrev aa:Stmt:=top 63
abbrev bM:Stmt:=top 64
abbrev RB:Stmt:=top 50
abbrev Tt:Stmt:=top 56
abbrev Yu:Stmt:=top 57
abbrev Yx:Stmt:=top 51
abbrev TH:Stmt:=top 53
abbrev aB:Stmt:=top 58
abbrev bU:Stmt:=top 59
abbrev Z4:Stmt:=top 52
abbrev WB:Stmt:=top 60
abbrev Sf:Stmt:=top 61
abbrev aD:Stmt:=top 65
abbrev az:Stmt:=top 55
abbrev Z3:Stmt:=top 66
abbrev Xd:Stmt:=Ji (top 40) 0
abbrev ZT:Stmt:=Ji (top 41) 0
abbrev YR:Stmt:=top 33
abbrev W6:Stmt:=top 30
abbrev Su:Stmt:=top 14
abbrev ZL:Stmt:=Ji (top 40) 2
abbrev Ye:Stmt:=Ji (top 40) 7
abbrev RX:Stmt:=top 35
abbrev Zv:Stmt:=top 16
abbrev bN:Stmt:=top 32
abbrev VH:Stmt:=Ji (top 40) 3
abbrev Xb:Stmt:=Ji (top 40) 4
abbrev Xv:Stmt:=top 26
abbrev aK:Stmt:=top 27
abbrev Wj:Stmt:=top 18
abbrev W3:Stmt:=top 36
abbrev YD:Stmt:=top 34
abbrev bG:Stmt:=top 31
abbrev YE:Stmt:=Ji (top 40) 6
abbrev aj:Stmt:=top 20
abbrev WN:Stmt:=top 21
abbrev Zk:Stmt:=top 22
abbrev Y4:Stmt:=top 19
abbrev Yb:Stmt:=top 25
abbrev ZY:Stmt:=top 23
abbrev Rl:Stmt:=top 24
abbrev WL:Stmt:=top 17
abbrev VX:Stmt:=Ji (top 40) 5
abbrev ae:Stmt:=Ji (top 40) 1
abbrev Ys:Stmt:=top 39
abbrev XI:Stmt:=top 38
abbrev N4:Stmt:=top 67
variable{P:Program}{K:ZIV}{ZB:Heap}
def gM{us:List α}(h:us.length=1):∃a,us=[a]:=by
 rcases us with _|⟨a,_|⟨b,us⟩⟩
 .cases h
 .exact⟨a,rfl⟩
 .cases h
def ln2{us:List α}(h:us.length=2):∃a b,us=[a,b]:=by
 rcases us with _|⟨a,us⟩
 .cases h
 .obtain⟨b,rfl⟩:=gM (R1 h);exact⟨a,b,rfl⟩
def nP{us:List α}(h:us.length=3):∃a b c,us=[a,b,c]:=by
 rcases us with _|⟨a,us⟩
 .cases h
 .obtain⟨b,c,rfl⟩:=ln2 (R1 h);exact⟨a,b,c,rfl⟩
def mG{us:List α}(h:us.length=4):∃a b c d,us=[a,b,c,d]:=by
 rcases us with _|⟨a,us⟩
 .cases h
 .obtain⟨b,c,d,rfl⟩:=nP (R1 h);exact⟨a,b,c,d,rfl⟩
def mC{us:List α}(h:us.length=5):∃a b c d e,us=[a,b,c,d,e]:=by
 rcases us with _|⟨a,us⟩
 .cases h
 .obtain⟨b,c,d,e,rfl⟩:=mG (R1 h);exact⟨a,b,c,d,e,rfl⟩
def ln6{us:List α}(h:us.length=6):∃a b c d e f,us=[a,b,c,d,e,f]:=by
 rcases us with _|⟨a,us⟩
 .cases h
 .obtain⟨b,c,d,e,f,rfl⟩:=mC (R1 h);exact⟨a,b,c,d,e,f,rfl⟩
local macro_rules | `(tactic| walk_at "bD1")=>`(tactic| (intro _ _ _ _ _ _ us hl;obtain⟨_,e⟩:=gM hl;subst e;rfl))
local macro_rules | `(tactic| walk_at "bD2")=>`(tactic| (intro _ _ _ _ _ _ us hl;obtain⟨_,_,e⟩:=ln2 hl;subst e;rfl))
local macro_rules | `(tactic| walk_at "bD3")=>`(tactic| (intro _ _ _ _ _ _ us hl;obtain⟨_,_,_,e⟩:=nP hl;subst e;rfl))
local macro_rules | `(tactic| walk_at "bD4")=>`(tactic| (intro _ _ _ _ _ _ us hl;obtain⟨_,_,_,_,e⟩:=mG hl;subst e;rfl))
local macro_rules | `(tactic| walk_at "bD5")=>`(tactic| (intro _ _ _ _ _ _ us hl;obtain⟨_,_,_,_,_,e⟩:=mC hl;subst e;rfl))
local macro_rules | `(tactic| walk_at "bD6")=>`(tactic| (intro _ _ _ _ _ _ us hl;obtain⟨_,_,_,_,_,_,e⟩:=ln6 hl;subst e;rfl))
abbrev nS(K:ZIV)(x:Str)(v:Value):Prop:=PySem.W.nsIn K mainGlobals x=some (some v)
abbrev nN(K:ZIV)(x:Str):Prop:=PySem.W.nsIn K mainGlobals x=some none
abbrev X3:Stmt:=Nq (top 5)
local macro_rules | `(tactic| walk_at "z1")=>`(tactic| exact⟨rfl,rfl,rfl,by decide +kernel,rfl,by decide +kernel,by decide +kernel⟩)
local macro_rules | `(tactic| walk_at "z2")=>`(tactic| exact⟨rfl,by decide +kernel,by decide +kernel,rfl,rfl,by decide +kernel,by decide +kernel,by decide +kernel,by decide +kernel⟩)
def ZAV:Aw ["self","name"] ["self","name"] (Ag X3):=by walk_at "z1"
def x5(F:AG K "__init__" "Gone.__init__" X3 f fd)(b:Binds K fd ["self","name"] [])(c:Io K C f "name")(a:MH K S)(Hm:mg "StirError"=some (.ref S)):FH P w K mg ZB C "name" := by
 refine⟨f,fd, "name", c,F.ok (k:=0) ZAV OC (λAX A outer s H vs Q E d h=>?_),b⟩;refine⟨_,?_,NN (N:=["self","name"]) rfl h⟩;exact GD (MB (NR (S:=S) a (by rfl) Hm c.ex (GF (pv 0) (GF (Px (pv 1) (by decide)) LN)))) (GD (Ms c (pv 0) (pv 1) rfl) Lz)
abbrev bK:Stmt:=Nq (top 8)
def v5:Aw ["self","number"] ["self","number"] (Ag bK):=by walk_at "z1"
def xT(F:AG K "__init__" "NoLog.__init__" bK f fd)(b:Binds K fd ["self","number"] [])(c:Io K C f "number")(a:MH K S)(Hm:mg "StirError"=some (.ref S)):FH P w K mg ZB C "number" := by
 refine⟨f,fd, "number", c,F.ok (k:=0) v5 OC (λAX A outer s H vs Q E d h=>?_),b⟩;refine⟨_,?_,NN (N:=["self","number"]) rfl h⟩;exact GD (MB (NR (S:=S) a (by rfl) Hm c.ex (GF (pv 0) (GF (ZCy (pv 1) (by decide) (by decide)) LN)))) (GD (Ms c (pv 0) (pv 1) rfl) Lz)
abbrev aX:Stmt:=Nq (top 3)
def rJ:Aw ["self","name"] ["self","name"] (Ag aX):=by walk_at "z1"
def vF(F:AG K "__init__" "NoName.__init__" aX f fd)(b:Binds K fd ["self","name"] [])(c:Io K C f "name")(a:MH K S)(Hm:mg "StirError"=some (.ref S)):FH P w K mg ZB C "name" := by
 refine⟨f,fd, "name", c,F.ok (k:=0) rJ OC (λAX A outer s H vs Q E d h=>?_),b⟩;refine⟨_,?_,NN (N:=["self","name"]) rfl h⟩;exact GD (MB (NR (S:=S) a (by rfl) Hm c.ex (GF (pv 0) (GF (Px (pv 1) (by decide)) LN)))) (GD (Ms c (pv 0) (pv 1) rfl) Lz)
abbrev bV:Stmt:=Nq (top 6)
def wt:Aw ["self","at"] ["self","at"] (Ag bV):=by walk_at "z1"
def uJ(F:AG K "__init__" "NoPlace.__init__" bV f fd)(b:Binds K fd ["self","at"] [])(c:Io K C f "at")(a:MH K S)(Hm:mg "StirError"=some (.ref S)):FH P w K mg ZB C "at" := by
 refine⟨f,fd, "at", c,F.ok (k:=0) wt OC (λAX A outer s H vs Q E d h=>?_),b⟩;refine⟨_,?_,NN (N:=["self","at"]) rfl h⟩;exact GD (MB (NR (S:=S) a (by rfl) Hm c.ex (GF (pv 0) (GF (Px (pv 1) (by decide)) LN)))) (GD (Ms c (pv 0) (pv 1) rfl) Lz)
abbrev VI:Stmt:=Nq (top 7)
def ZET:Aw ["self","rule"] ["self","rule"] (Ag VI):=by walk_at "z1"
def yW(F:AG K "__init__" "NoRule.__init__" VI f fd)(b:Binds K fd ["self","rule"] [])(c:Io K C f "rule")(a:MH K S)(Hm:mg "StirError"=some (.ref S)):FH P w K mg ZB C "rule" := by
 refine⟨f,fd, "rule", c,F.ok (k:=0) ZET OC (λAX A outer s H vs Q E d h=>?_),b⟩;refine⟨_,?_,NN (N:=["self","rule"]) rfl h⟩;exact GD (MB (NR (S:=S) a (by rfl) Hm c.ex (GF (pv 0) (GF (Px (pv 1) (by decide)) LN)))) (GD (Ms c (pv 0) (pv 1) rfl) Lz)
abbrev Za:Stmt:=Nq (top 4)
def vy:Aw ["self","name"] ["self","name"] (Ag Za):=by walk_at "z1"
def xy(F:AG K "__init__" "There.__init__" Za f fd)(b:Binds K fd ["self","name"] [])(c:Io K C f "name")(a:MH K S)(Hm:mg "StirError"=some (.ref S)):FH P w K mg ZB C "name" := by
 refine⟨f,fd, "name", c,F.ok (k:=0) vy OC (λAX A outer s H vs Q E d h=>?_),b⟩;refine⟨_,?_,NN (N:=["self","name"]) rfl h⟩;exact GD (MB (NR (S:=S) a (by rfl) Hm c.ex (GF (pv 0) (GF (Px (pv 1) (by decide)) LN)))) (GD (Ms c (pv 0) (pv 1) rfl) Lz)
open Fz
def ZWM(t:String):Lean.MacroM (Lean.TSyntax `tactic):=do
 let g:Lean.TSyntax `tactic←`(tactic| fail)
 let k←`(tactic| case wk=>rfl)
 let n (s:String):=`(tactic| walk_at $(Lean.quote s):str)
 (t.splitOn " ").foldrM (λs r=>do
  let l:=((s.drop 1).toString.splitOn "/").map λx=>Lean.mkIdent (`Fz++x.toName)
  let h:Lean.Ident:=l.getLast!
  let c:=s.front
  let w:=(h.getId.getString!.toLower.replace "o" "e").replace "i" "e"
  let z←if c=='j' then `($h ?wj ?wk ?_)else if c=='k'||c=='K' then `($h ?wk ?_)else `($h ?_)
  let z←l.dropLast.foldrM (λ(f:Lean.Ident)(z:Lean.Term)=>`($f ($z))) z
  let p←if c=='e' then `(tactic| show ∃_,_=$h _/\_)else if c=='s' then `(tactic| show $h _ _ _)else `(tactic| refine' $z)
  let p←if c=='K'||c=='R'||c=='j' then pure p else `(tactic| with_reducible $p:tactic)
  let q←if c=='e' then `(tactic| refine⟨_,rfl,?_⟩)else if c=='s' then n w else if c=='n' then n "wn" else if c=='p' then n "wp" else if c=='k'||c=='K' then pure k else if c=='j' then `(tactic| ((case wj=>rfl);$k:tactic))else `(tactic| skip)
  `(tactic| first|($p:tactic;$q:tactic) | $r:tactic)) g
local macro_rules | `(tactic| walk_at "wp")=>ZWM "kRY kD9/RD/DG kD9/QN/DG kD9/RD/RD/DG kD9/QN/QN/DG kD9/QN/RD/DG kRY kAD rBr rDX rCj rLH rZEa rYl rFu rXS rqw rT6 rje rnR rOq rdg kv8 rD7 rZGy rFO rpW rZx rHd rd7 rsT rm8 rmS rUt krP rb5 KuI KZDH KZGJ KQl"
local macro_rules | `(tactic| walk_at "wn")=>ZWM "rVT rqQ rpS rfQ KNP jr8"
local macro_rules | `(tactic| walk_at "wq")=>do
 let z←ZWM "kZCW kFC kM6 kGL rZAL"
 `(tactic| first | $z:tactic|(refine Ba (EH ?_);walk_at "wn")|(refine Ba ?_;walk_at "wp"))
local macro_rules | `(tactic| walk_at "wz")=>`(tactic| first
 | ((with_reducible refine' iT ?wk ?_);(case wk=>rfl))
 | (with_reducible refine' iH ?_)
 | (refine Ks (EH ?_);walk_at "wn")
 | (refine Ks ?_;walk_at "wp"))
local macro_rules | `(tactic| walk_at "wt")=>ZWM "rCM rFP rGq rZFU rHz"
local macro_rules | `(tactic| walk_at "we")=>ZWM "rCu rDN rzV rfk rZGQ ruU rOt"
local macro_rules | `(tactic| walk_at "w")=>do
 let z←ZWM "rAn rFf rBu rAb kzD kqG nNt pJY nNn pCB"
 let z1←ZWM "eOV.tp eOV.fz"
 let z2←ZWM "sWn sWq sWz sWt sWe sWo sWi"
 let z3←ZWM "ePV.int ePV.str ePV.bl"
 `(tactic| first | $z1:tactic|((with_reducible show ∃_ _,_=OV.nd NK.lst _ _/\_);refine⟨_,_,rfl,?_⟩)|((with_reducible show ∃_ _ _,_=PV.int _/\_/\_/\_);refine⟨_,_,_,rfl,rfl,rfl,?_⟩)|((with_reducible show Wp _ _ _);first|walk_at "wp" | (refine EH ?_;walk_at "wn")) | $z2:tactic|((with_reducible show Ws _ _ _ _);$z:tactic) | $z3:tactic|((with_reducible show(_:Bool)=_/\_);refine⟨rfl,?_⟩)|((with_reducible show ∃_ _,_=PV.int _/\L2.Bp _ _=some _/\_);refine⟨_,_,rfl,rfl,?_⟩)|((with_reducible show ∃_,(_=PV.lst _/\_)∨(_=PV.tup _/\_));first|refine⟨_,.inl ⟨rfl,?_⟩⟩|refine⟨_,.inr ⟨rfl,?_⟩⟩)|((with_reducible show ∃_,_=List.map _ _/\_);first|refine⟨_,rfl,?_⟩|refine⟨[],rfl,?_⟩))
local macro_rules | `(tactic| walk_at "ww")=>`(tactic| repeat walk_at "w")
def fv:Aw ["pot","many","found"] ["pot","many"] (Ag X0):=by walk_at "z1"
variable(Aj:mg "len"=none)(Od:AI P w K mg ZB "_law_letters" 1 ["number"] (eM))(BE:AI P w K mg ZB "_law_take" 1 ["pot","many"] (Hc))(Gr:AI P w K mg ZB "_law_name" 2 ["pot","names"] (O6 K))(IQ:mg "range"=none)(aZ:AI P w K mg ZB "_law_names" 3 ["pot","many"] (gN))(Co:mg "tuple"=none)(Zb:AI P w K mg ZB "_law_deed" 3 ["pot","row","most"] (B7 XN))(Nk:AI P w K mg ZB "_law_rule" 2 ["pot"] (B7 U9))(XR:AI P w K mg ZB "_law_step" 1 ["row","loop"] (aC))(By:mg "list"=none)(Et:mg "sorted"=none)(NB:mg "reversed"=none)(Mf:mg "all"=none)(N2:AI P w K mg ZB "_law_is_name" 1 ["text"] (MR))(Ht:mg "int"=none)(Vf:AI P w K mg ZB "_law_gap" 1 ["row","gap","deed"] (fb))(Le:AI P w K mg ZB "_law_counted" 1 ["state","name","place"] (C2 P4))(Uv:AI P w K mg ZB "_law_deed_right" 2 ["row","deed"] (B7 VO))(aw:AI P w K mg ZB "_law_done" 1 ["row","deed"] (XC))(bQ:AI P w K mg ZB "_law_led" 2 ["row","loop","deed"] (VU))(Vr:AI P w K mg ZB "_law_begun" 1 ["row","rule"] (B7 Vt))(bO:AI P w K mg ZB "_law_begins" 3 ["state","name","rule"] (C2 Yd))(Vw:AI P w K mg ZB "_law_stirred" 4 ["state","deed"] (C2 Sa))(YB:AI P w K mg ZB "_law_bad_entry" 4 ["pot","state"] (B7 bR))(Vb:AI P w K mg ZB "_law_goes" 5 ["state","entry"] (C2 b8))(Z1:AI P w K mg ZB "_law_good_entry" 4 ["pot","state","most"] (B7 YH))(MS:AI P w K mg ZB "_law_pot" 1 ["script","k"] (Q8 K))(bA:AI P w K mg ZB "_law_row" 4 ["pot","most"] (YS))(Vu:mg "max"=none)(bS:mg "min"=none)(bX:mg "bool"=none)(Ra:mg "isinstance"=none)(ax:AI P w K mg ZB "_law_whole" 1 ["found"] (B7 Xe))(BQ:CF K A7)(Cs:Bj K A7 "running")(E8:Bj K A7 "standing")(G2:Bj K A7 "tallies")(GK:CF K AM)(O1:Bj K AM "joined")(ai:Bj K AM "stood")(NT:Bj K AM "taken")(Nz:Bj K AM "told")(Mc:mg "RULES"=some (.ref Ga))(Mr:∀H,AS K H Ga [.str "none",.str "ahead",.str "all"])(WX:mg "NoRule"=some (.ref Cy))(Xn:FH P w K mg ZB Cy "rule")(Vg:C1 P w K mg ZB "check_rule" 3 ["rule"] (Ci (aJ Cy)))(VL:mg "LETTERS"=some (.str "abcdefghijklmnopqrstuvwxyz" XW))(Vp:mg "MOST_LETTERS"=some (.int 8 Z8))(Xg:PU P w K mg ZB AM 1 ["self","stood"] (C2 (Us AM)))(Y1:C1 P w K mg ZB "begun" 4 ["row","rule"] (Ci (Ze Cy)))(NL:AI P w K mg ZB "is_name" 1 ["text"] (MR))(Ux:mg "Tally"=some (.ref AM))(VE:mg "Gone"=some (.ref Ay))(Yz:FH P w K mg ZB Ay "name")(O0:AI P w K mg ZB "coming_without" 1 ["coming","gone"] (B7 Tw))(GU:C1 P w K mg ZB "place_of" 3 ["row","name"] (Ci (NZ Ay)))(Hi:EJ P w K mg ZB A7 "coming" 2 ["self","loop"] (B7 (NM A7)))(Vn:AI P w K mg ZB "loop_telling" 4 ["row","loop","name"] (B7 Xt))(RG:AI P w K mg ZB "gap_behind_put" 1 ["gap","at"] (B7 VB))(RN:AI P w K mg ZB "gap_behind_take" 1 ["gap","place"] (B7 YO))(Vk:AI P w K mg ZB "joins" 1 ["loop","at"] (B7 Vy))(Xr:AI P w K mg ZB "coming_behind" 2 ["loop","deed"] (B7 VY))(WE:AI P w K mg ZB "gap_led" 4 ["row","gap","deed"] (B7 Ur))(b7:AI P w K mg ZB "loop_led" 5 ["row","loop","deed"] (B7 Va))(VA:mg "MOST_THINGS"=some (.int 40 VG))(Xi:mg "Full"=some (.ref BK))(Zl:FU K BK none=true)(YI:mg "NoName"=some (.ref B9))(Wk:FH P w K mg ZB B9 "name")(Ik:mg "NoPlace"=some (.ref B1))(Ii:FH P w K mg ZB B1 "at")(Xs:mg "There"=some (.ref B8))(YW:FH P w K mg ZB B8 "name")(bT:C1 P w K mg ZB "check_move" 4 ["row","name","at"] (Ci (V2 ⟨B9,B8,Ay,B1,BK⟩)))(Z2:C1 P w K mg ZB "check_put" 3 ["row","name","at"] (Ci (Y8 ⟨B9,B8,Ay,B1,BK⟩)))(Zr:C1 P w K mg ZB "check_turn" 3 ["row","low","high"] (Ci (Zu ⟨B9,B8,Ay,B1,BK⟩)))(Vz:C1 P w K mg ZB "check_deed" 5 ["row","deed"] (Ci (YL ⟨B9,B8,Ay,B1,BK⟩)))(XY:AI P w K mg ZB "row_turned" 1 ["row","low","high"] (B7 V6))(Ta:AI P w K mg ZB "row_with" 1 ["row","name","at"] (B7 X1))(Sn:AI P w K mg ZB "row_without" 1 ["row","name"] (B7 ZC))(ag:EJ P w K mg ZB A7 "lead" 8 ["self","loop","deed"] (C2 (Wh A7 AM)))(XF:C1 P w K mg ZB "done" 6 ["row","deed"] (Ci (b9 ⟨B9,B8,Ay,B1,BK⟩)))(JK:mg "StirError"=some (.ref Il))(bW:RO K Il ⟨B9,B8,Ay,B1,BK⟩=true)(VM:EJ P w K mg ZB A7 "follows_begin" 6 ["self","loop","rule"] (C2 (bY A7 AM)))(YA:EJ P w K mg ZB A7 "follows_deed" 9 ["self","deed"] (C2 (Sq A7 AM)))(ZF:EJ P w K mg ZB A7 "follows_over" 6 ["self","loop"] (C2 (Xk A7 AM)))(ZS:EJ P w K mg ZB A7 "follows_tell" 6 ["self","loop","name"] (C2 (Wu A7 AM)))(VZ:PU P w K mg ZB A7 2 ["self","row"] (C2 (Uz A7 AM)))(av:EJ P w K mg ZB A7 "follows" 10 ["self","entry"] (C2 (bZ A7 AM)))(Xo:mg "enumerate"=none)(Zq:mg "Course"=some (.ref A7))(Na:mg "NoLog"=some (.ref C3))(Xj:FH P w K mg ZB C3 "number")(V5:C1 P w K mg ZB "course_of" 11 ["row","log"] (Ci (ZG A7 AM C3)))(lx:SV K C3=true)(XU:PySem.W.exmOne K (.ref C3) (.ref C3)=some true)(aF:PySem.W.hasDictIn K C3=true)(XE:PySem.W.findIn K (.ref C3) "number"=some none)(R9:AI P w K mg ZB "_law_log" 6 ["script","rate"] (B7 (Vm K)))(UE:AI P w K mg ZB "_law_right" 2 ["found","due"] (B7 Z5))(OY:AI P w K mg ZB "first_wrong" 12 ["row","log"] (B7 X7))
def ZBe(F:AG K "_law_take" "_law_take" X0 f fd)(m:mg "_law_take"=some (.ref f)):
  AI P w K mg ZB "_law_take" 1 ["pot","many"] (Hc):=by
 refine AI.mk F (F.binds (by walk_at "bD2")) m (F.BO (k:=0) fv (λvs H Q E h=>?_) (λAX A outer s H vs Q E t h=>?_))
 .obtain⟨p,m,rfl,⟨a,b,d,a0,g,b0,n⟩,e,o,q⟩:=h;rfl
 obtain⟨p,m,rfl,⟨a,b,d,a0,g,b0,n⟩,e,o,q⟩:=h;refine⟨_,(A9 rfl (Ai (AU LW (AE EX (qv 0) A4) A4) (A9 rfl (Ax 2 fv.nd (Au Kq (AE EX (qv 0) A4) (qv 1)))
   (A9 rfl (LJ (Au WD (AE EX (qv 0) A4) (qv 1)) (bb (qv 0) A4 set_list))
   (AA rfl (AR (qv 2))))) Ak)
   (A9 rfl (LJ (Au Kq (Au DL (Au LV (AE EX (qv 0) A4) A4) A4) A4) (bb (qv 0) A4 set_list))
   (AA rfl (AR (Au Kq (Au WD (Au Kq (Au LV (AE EX (qv 0) A4) (AE EX (qv 0) A4)) A4) A4) (qv 1)))))),?_⟩
 refine⟨_,rfl,p,_,_,_,rfl,rfl,Ac.of d,rfl,_,_,rfl,rfl,_,rfl,?_⟩;refine Ad (λc=>?_) (λc=>?_)
 .have u:0<a:=rE c;refine⟨_,rfl,p,_,_,_,rfl,rfl,Ac.of d,rfl,_,rfl,_,_,rfl,rfl,e,?_⟩;refine⟨_,rfl,p,_,_,_,rfl,rfl,Ac.of d,rfl,_,rfl,_,_,rfl,rfl,⟨e,N6 (by omega) (by omega)⟩,?_⟩;refine⟨_,rfl,p,_,_,_,rfl,rfl,d,rfl,?_⟩;refine⟨_,rfl,?_⟩;refine q _ _ (MW _ (by omega)) (MV _ e) ⟨⟨a / m,b,AW,Int.ediv_nonneg a0 (by omega),ZH6 (Int.ediv_le_self _ a0) g,b0,n⟩,HJ.upd⟩
 .refine⟨_,rfl,p,_,_,_,rfl,rfl,Ac.of d,rfl,_,_,rfl,rfl,⟨N6 (by omega) (by omega),by decide +kernel⟩,_,_,rfl,rfl,_,_,rfl,rfl,(by show(0:Int)<2147483647;decide),?_⟩;refine⟨_,rfl,p,_,_,_,rfl,rfl,d,rfl,?_⟩;have j:0<=(b * 69621+12345) % 2147483647:=MW _ (by decide);have l:(b * 69621+12345) % 2147483647<2147483647:=MV _ (by decide);generalize r:(b * 69621+12345) % 2147483647=b' at j l;have i:(upd H p (.lst [.int a,.int ((b * 69621+12345) % 2147483647)])) p=some (.lst [.int a,.int b']):=by rw[AW,r]
  refine⟨_,rfl,p,_,_,_,rfl,rfl,Ac.of i,rfl,_,rfl,p,_,_,_,rfl,rfl,Ac.of i,rfl,_,_,rfl,rfl,⟨N6 (by omega) (by omega),N6 (by omega) (by omega)⟩,_,_,rfl,rfl,(by show(0:Int)<2147483629;decide),?_⟩;refine⟨_,_,rfl,rfl,⟨(by show(0:Int)<64;decide),by decide +kernel⟩,_,rfl,_,_,rfl,rfl,e,?_⟩;exact q _ _ (MW _ (by omega)) (MV _ e) ⟨⟨a,b',i,a0,g,j,l⟩,HJ.upd⟩
def Pg:Aw ["script","k","cell","rest_here"] ["script","k"] (Ag Wd):=by walk_at "z1"
def ZCm(F:AG K "_law_pot" "_law_pot" Wd f fd)(m:mg "_law_pot"=some (.ref f)):
  AI P w K mg ZB "_law_pot" 1 ["script","k"] (Q8 K):=by
 refine AI.mk F (F.binds (by walk_at "bD2")) m (F.BO (k:=0) Pg (λvs H Q E h=>?_) (λAX A outer s H vs Q E r h=>?_))
 .obtain⟨a,ns,k,rfl,b,k0,k1,q⟩:=h;rfl
 obtain⟨a,ns,k,rfl,b,k0,k1,q⟩:=h;refine⟨_,(A9 rfl (Ax 2 Pg.nd A4)
   (A9 rfl (D1 (Ai (AU FW (qv 1) (BC RF Aj (A0 (qv 0) A3))) (AA rfl (Ax 2 Pg.nd (Au Kq (AE EX (qv 0) (qv 1)) (Au LV (Au LV (Au LV (Au M7 A4 A4) (Au M7 A4 A4)) (Au M7 A4 A4)) (Au M7 A4 A4))))) Ak))
   (A9 rfl (Ax 3 Pg.nd A4)
   (A9 rfl (D1 (Ai (AU Mj (qv 2) (Au M7 A4 A4)) (AA rfl (Ax 3 Pg.nd (qv 2))) Ak))
   (AA rfl (AR (Fg (A0 (qv 3) (A0 (Au Kq (Au LV (Au DL (Au DL (Au Kq (qv 2) A4) (Au LV A4 (qv 1))) A4) A4) A4) A3))))))))),?_⟩
 have i:(ns.map V.int).length=ns.length:=AL _;refine⟨λσ' H'=>∃c:Int,σ'=[some (.ref a),some (.int k),some (.int c),none]/\H=H'/\0<=c/\c<10 ^ 256,?_,?_⟩
 .refine⟨_,rfl,_,rfl,a,_,rfl,.inl b,_,_,rfl,rfl,_,rfl,?_⟩;refine Ad (λc=>?_) (λc=>?_)
  .have o:k<(((ns.map V.int).length:Nat):Int):=rE c;rw[i]at o;have j:k.toNat<ns.length:=by omega
   have g:Bp (ns.map V.int) k=some (.int ns[k.toNat]):=QL k0 (by rw[Bc,BG j] <;> rfl)
   refine⟨_,rfl,_,rfl,a,_,_,_,rfl,rfl,b,g,_,_,rfl,rfl,⟨by decide,by decide,by decide +kernel⟩,_,_,rfl,rfl,⟨by decide,by decide,by decide +kernel⟩,_,_,rfl,rfl,⟨by decide +kernel,by decide +kernel⟩,_,_,rfl,rfl,⟨by decide,by decide,by decide +kernel⟩,_,_,rfl,rfl,⟨by decide +kernel,by decide +kernel⟩,
    _,_,rfl,rfl,⟨by decide,by decide,by decide +kernel⟩,_,_,rfl,rfl,⟨by decide +kernel,by decide +kernel⟩,_,_,rfl,rfl,(by show(0:Int)<_;decide +kernel),?_⟩
   exact⟨_,rfl,rfl,MW _ (by decide +kernel),MV _ (by decide +kernel)⟩
  .exact⟨0,rfl,rfl,by decide,by decide +kernel⟩
 rintro σ' H'⟨c,rfl,rfl,c0,c1⟩;refine⟨λσ' H'=>∃d:Int,σ'=[some (.ref a),some (.int k),some (.int c),some (.int d)]/\H=H'/\0<=d/\d<10 ^ 256,?_,?_⟩
 .refine⟨_,rfl,_,_,rfl,rfl,⟨by decide,by decide,by decide +kernel⟩,_,_,rfl,rfl,_,rfl,?_⟩;refine Ad (λ_=>?_) (λ_=>?_)
  .exact⟨_,rfl,c,rfl,rfl,c0,c1⟩
  .exact⟨0,rfl,rfl,by decide,by decide +kernel⟩
 rintro σ' H'⟨d,rfl,rfl,n,l⟩;have e0:0<=c % 2147483629:=MW _ (by decide);have t:c % 2147483629<2147483629:=MV _ (by decide);refine⟨_,rfl,_,rfl,_,_,rfl,rfl,(by show(0:Int)<2147483629;decide),_,rfl,_,_,rfl,rfl,⟨by decide +kernel,N6 (by omega) (by omega)⟩,_,_,rfl,rfl,_,_,rfl,rfl,_,_,rfl,rfl,⟨N6 (by omega) (by omega),by decide +kernel⟩,_,_,rfl,rfl,(by show(0:Int)<2147483647;decide),?_⟩;refine⟨(by show 2<=sizeLine;decide),λp e=>?_⟩;exact q p _ e (BP e _) ⟨d,_,AW,n,l,MW _ (by decide),MV _ (by decide)⟩
def RL:Aw ["number","word"] ["number"] (Ag WJ):=by walk_at "z1"
def ZGd(F:AG K "_law_letters" "_law_letters" WJ f fd)(m:mg "_law_letters"=some (.ref f)):
  AI P w K mg ZB "_law_letters" 1 ["number"] (eM):=by
 refine AI.mk F (F.binds (by walk_at "bD1")) m (F.BO (k:=0) RL (λvs H Q E h=>?_) (λAX A outer s H vs Q E u h=>?_))
 .obtain⟨r,rfl,j,o,q⟩:=h;rfl
 obtain⟨r,rfl,j,o,q⟩:=h;refine⟨_,(A9 rfl (Ax 1 RL.nd AO)
   (A9 rfl (D1 (mW LA (Eg (AU BU (qv 1) AO) (HI (AU LW (qv 0) A4))).pt (A9 rfl (Ax 1 RL.nd (Au mR (qv 1) (AE ZEA AO (Au Kq (qv 0) A4))))
   (AA rfl (Ax 0 RL.nd (Au WD (qv 0) A4))))))
   (AA rfl (AR (qv 1))))),?_⟩
 obtain⟨n,rfl⟩:=D4 j;have hn:n<26 ^ 8:=by omega
 rw[Qr]at q;refine⟨λσ' H'=>∃v,σ'=[some v,some (.str (DM (MA.lets n)))]/\H=H',?_,?_⟩
 .refine⟨λm σ' H'=>∃(k:Nat)(pre:List Nat),σ'=[some (.int k),some (.str (DM pre))]/\H=H'/\((pre=[]/\k=n/\m=n+2)∨(pre≠[]/\m=k+1/\(0<k->pre++MA.lets k=MA.lets n)/\(k=0->pre=MA.lets n))),⟨n+2,n,[],rfl,rfl,.inl ⟨rfl,rfl,rfl⟩⟩,?_⟩;rintro m σ' H'⟨k,pre,rfl,rfl,l⟩;refine⟨_,rfl,rfl,_,rfl,?_⟩;refine Ad (λc=>Np ?_) (λc=>⟨_,rfl,_,_,rfl,rfl,_,rfl,?_⟩)
  .have e:pre=[]:=cO.mp (rE c);obtain⟨_,b,p⟩|⟨h,_⟩:=l
   .have d:pre++MA.lets k=MA.lets n:=by rw[e,b];rfl
    have a:pre.length+1<=8:=by
     have h1:=tq List.length d;rw[CK]at h1;have h2:=MA.SW 7 n hn;have t:=MA.X6 k;omega
    refine⟨λσ' H'=>σ'=[some (.int ((k:Int) / 26)),some (.str (DM pre++⟨#[97+((k:Int) % 26).toNat]⟩))]/\H=H',?_,?_⟩
    .rintro σ' H'⟨rfl,rfl⟩;have nx:=mz d;have i:((k:Int) % 26).toNat=k % 26:=by omega
     have g:(k:Int) / 26=((k / 26:Nat):Int):=by omega
     exact⟨k / 26+1,by omega,k / 26,pre++[97+k % 26],by rw[i,g,kE],rfl,.inr ⟨by simp,rfl,nx.1,nx.2⟩⟩
    .refine⟨_,rfl,_,rfl,_,_,rfl,rfl,(by show(0:Int)<26;decide),_,_,_,rfl,rfl,(by decide +kernel),dQ (MW _ (by decide)) (MV _ (by decide)),_,_,rfl,rfl,?_,?_⟩
     .rw[Ro];exact small (show pre.length+1<=_ by omega)
     .exact⟨_,rfl,_,_,rfl,rfl,⟨(by show(0:Int)<26;decide),by decide +kernel⟩,rfl,rfl⟩
   .exact absurd e h
  .have e:pre≠[]:=λh=>c (oW (cO.mpr h));obtain⟨h,_⟩|⟨_,p,h1,h2⟩:=l
   .exact absurd h e
   refine Ad (λc2=>?_) (λc2=>?_)
   .have b:0<k:=by have:(0:Int)<k:=rE c2;omega
    have d:=h1 b;have a:pre.length+1<=8:=by
     have h1:=tq List.length d;rw[CK]at h1;have h2:=MA.SW 7 n hn;have t:=MA.X6 k;omega
    refine⟨λσ' H'=>σ'=[some (.int ((k:Int) / 26)),some (.str (DM pre++⟨#[97+((k:Int) % 26).toNat]⟩))]/\H=H',?_,?_⟩
    .rintro σ' H'⟨rfl,rfl⟩;have nx:=mz d;have i:((k:Int) % 26).toNat=k % 26:=by omega
     have g:(k:Int) / 26=((k / 26:Nat):Int):=by omega
     exact⟨k / 26+1,by omega,k / 26,pre++[97+k % 26],by rw[i,g,kE],rfl,.inr ⟨by simp,rfl,nx.1,nx.2⟩⟩
    .refine⟨_,rfl,_,rfl,_,_,rfl,rfl,(by show(0:Int)<26;decide),_,_,_,rfl,rfl,(by decide +kernel),dQ (MW _ (by decide)) (MV _ (by decide)),_,_,rfl,rfl,?_,?_⟩
     .rw[Ro];exact small (show pre.length+1<=_ by omega)
     .exact⟨_,rfl,_,_,rfl,rfl,⟨(by show(0:Int)<26;decide),by decide +kernel⟩,rfl,rfl⟩
   .have b:k=0:=by
     have:¬ (0:Int)<k:=λz=>c2 (oW z);omega
    exact⟨_,by rw[h2 b],rfl⟩
 .rintro σ' H'⟨v,rfl,rfl⟩;exact⟨_,rfl,q _ (AB.refl _)⟩
def HQ:Aw ["pot","names","some","way","name","number"] ["pot","names"] (Ag bI):=by walk_at "z1"
def wq(F:AG K "_law_name" "_law_name" bI f fd)(m:mg "_law_name"=some (.ref f)):
  AI P w K mg ZB "_law_name" 2 ["pot","names"] (O6 K):=by
 refine AI.mk F (F.binds (by walk_at "bD2")) m (F.BO (k:=1) HQ (λvs H Q E h=>?_) (λAX A outer s H vs Q E g h=>?_))
 .obtain⟨p,q,ns,rfl,X,B,BZ,σ,hL,K1⟩:=h;rfl
 obtain⟨p,q,ns,rfl,X,B,BZ,σ,hL,K1⟩:=h;refine⟨_,(A9 rfl (Ax 2 HQ.nd (BF (A0 AO (A0 AO (A0 AO (A0 AO (A0 AO (A0 AO (A0 AO (A0 AO (A0 AO (A0 AO (A0 AO (A0 AO (A0 AO A3)))))))))))))))
   (A9 rfl (Ax 3 HQ.nd (AZ BE g (A0 (qv 0) (A0 A4 A3))))
   (A9 rfl (Ax 4 HQ.nd (AE AK (qv 2) (AZ BE g (A0 (qv 0) (A0 A4 A3)))))
   (A9 rfl (D1 (Ai (AU BU (qv 3) A4) (AA rfl (Ax 4 HQ.nd (AZ Od g (A0 (AZ BE g (A0 (qv 0) (A0 (Au Nh (Au M7 A4 A4) A4) A3))) A3)))) Ak))
   (A9 rfl (D1 (Ai (HS (AU BU (qv 3) A4) (Gg (AU (Qn g.JJ) (qv 1) (Fg A3)))).pt (A9 rfl (Ax 4 HQ.nd (AE EX (qv 1) (AZ BE g (A0 (qv 0) (A0 (BC RF Aj (A0 (qv 1) A3)) A3)))))
   (AA rfl (Ax 4 HQ.nd (GY dr (Au mR (qv 4) (AZ Od g (A0 (AZ BE g (A0 (qv 0) (A0 A4 A3))) A3))) IA (Em A4))))) Ak))
   (A9 rfl (D1 (Ai (HS (AU BU (qv 3) A4) (Gg (AU (Qn g.JJ) (qv 1) (Fg A3)))).pt (A9 rfl (Ax 4 HQ.nd (AE EX (qv 1) (AZ BE g (A0 (qv 0) (A0 (BC RF Aj (A0 (qv 1) A3)) A3)))))
   (AA rfl (Ax 4 HQ.nd (GY dr (qv 4) IA (Em (Au DL A4 (AZ BE g (A0 (qv 0) (A0 (BC Z0 Aj (A0 (qv 4) A3)) A3))))))))) Ak))
   (A9 rfl (Ax 5 HQ.nd A4)
   (A9 rfl (D1 (mW LA (AU Mi (qv 4) (qv 1)) (A9 rfl (Ax 4 HQ.nd (AZ Od g (A0 (qv 5) A3)))
   (AA rfl (Ax 5 HQ.nd (Au DL (qv 5) A4))))))
   (AA rfl (AR (qv 4))))))))))),?_⟩
 have I:(ns.map V.str).length=ns.length:=AL _;have B:Ac K H q (ns.map V.str):=Ac.of B;refine⟨(by show 13<=sizeLine;decide +kernel),λo IM=>?_⟩;have FF:o≠p:=by
  obtain⟨_,_,e,_⟩:=X;exact(DH e IM).symm
 have g0:Bl p H (upd H o (.tup UO)):=Bl.of X (BP IM _);refine⟨_,rfl,p,4,rfl,g0.AV,by decide,by decide,λd H1 w0 w1 s1=>?_⟩;refine⟨_,rfl,_,rfl,p,13,rfl,s1.AV,by decide,by decide,λi H2 i0 u s2=>?_⟩;have h2:H2 o=some (.tup UO):=s2.at' (s1.at' AW FF) FF;obtain⟨x,hx,nx⟩:=ud i0 u;refine⟨o,_,_,_,rfl,rfl,AS.of h2,hx,?_⟩;have R:=g0.trans (s1.trans s2);refine⟨λσ' H'=>∃x,σ'=[some (.ref p),some (.ref q),some (.ref o),some (.int d),some (.str x),none]/\Nm x/\Bl p H H',?_,?_⟩
 .refine⟨_,rfl,rfl,_,rfl,?_⟩;refine Ad (λc=>?_) (λc=>?_)
  .refine⟨_,rfl,_,_,rfl,rfl,⟨by decide,by decide,by decide +kernel⟩,_,_,rfl,rfl,p,_,rfl,R.AV,sO,pQ,λr H3 G N s3=>?_⟩;have L:r<26 ^ 8:=Int.lt_trans N ZBa;exact⟨r,rfl,G,L,λH4 s4=>⟨_,rfl,b6 (jX G L),(R.trans s3).trans (Bl.of s3.AV s4)⟩⟩
  .exact⟨x,rfl,nx,R⟩
 clear h2 hx nx s2 R i0 u;rintro σ' H3⟨y,rfl,t,l⟩;refine⟨λσ' H'=>∃x,σ'=[some (.ref p),some (.ref q),some (.ref o),some (.int d),some (.str x),none]/\Nm x/\Bl p H H',?_,?_⟩
 .refine⟨_,rfl,rfl,_,rfl,?_⟩;refine Ad (λc=>?_) (λc=>Dd ⟨y,rfl,t,l⟩);refine⟨_,rfl,(by show 0<=sizeLine;decide),λe Y=>?_⟩;have b:=l.trans (Bl.of l.AV (BP Y (.lst [])));have M:=b.Qc B BZ;refine⟨q,e,_,[],rfl,rfl,.inl ⟨M,Ac.of AW⟩,JC ns,rfl,_,rfl,?_⟩;rw[YK];refine Ad (λc2=>?_) (λc2=>⟨y,rfl,t,b⟩);have Ie:0<ns.length:=by
   cases ns with
   |nil=>simp at c2
   |cons a r=>simp
  refine⟨_,rfl,_,rfl,_,rfl,q,_,rfl,.inl M,p,_,rfl,b.AV,(by rw[I];omega),(by rw[I];omega),λi H5 i0 u T=>?_⟩;rw[I]at u;have D:=b.trans T;obtain⟨z,W,XB,_⟩:=W7 i0 u;have C:=σ z XB;refine⟨q,_,_,_,rfl,rfl,D.Qc B BZ,W,?_⟩;refine⟨_,rfl,_,rfl,p,26,rfl,D.AV,by decide,by decide,λr H6 G N S=>?_⟩;have O:=D.trans S;have L:r<26 ^ 8:=Int.lt_trans N rR;refine⟨r,rfl,G,L,λH7 s7=>?_⟩;have O:=O.trans (Bl.of O.AV s7);have nl:=b6 (n:=r.toNat) (jX G L);have hlen:z.length+(DM (MA.lets r.toNat)).length<=16:=by have:=C.2.1;have:=nl.2.1;omega
  refine⟨_,_,rfl,rfl,small (by omega),?_⟩;refine⟨_,rfl,_,rfl,small (by rw[dE];omega),?_⟩;refine⟨_,rfl,dM (by decide) (by decide) (by rw[dE];have:=C.1;omega) (λc J=>?_),O⟩;rw[jm]at J;rcases List.mem_append.mp J with J|J
  .exact C.2.2 c J
  .exact nl.2.2 c J
 clear t l;rintro σ' H3⟨y,rfl,t,l⟩;refine⟨λσ' H'=>∃x,σ'=[some (.ref p),some (.ref q),some (.ref o),some (.int d),some (.str x),none]/\Nm x/\Bl p H H',?_,?_⟩
 .refine⟨_,rfl,rfl,_,rfl,?_⟩;refine Ad (λc=>?_) (λc=>Dd ⟨y,rfl,t,l⟩);refine⟨_,rfl,(by show 0<=sizeLine;decide),λe Y=>?_⟩;have b:=l.trans (Bl.of l.AV (BP Y (.lst [])));have M:=b.Qc B BZ;refine⟨q,e,_,[],rfl,rfl,.inl ⟨M,Ac.of AW⟩,JC ns,rfl,_,rfl,?_⟩;rw[YK];refine Ad (λc2=>?_) (λc2=>⟨y,rfl,t,b⟩);have Ie:0<ns.length:=by
   cases ns with
   |nil=>simp at c2
   |cons a r=>simp
  refine⟨_,rfl,_,rfl,_,rfl,q,_,rfl,.inl M,p,_,rfl,b.AV,(by rw[I];omega),(by rw[I];omega),λi H5 i0 u T=>?_⟩;rw[I]at u;have D:=b.trans T;obtain⟨z,W,XB,_⟩:=W7 i0 u;have C:=σ z XB;refine⟨q,_,_,_,rfl,rfl,D.Qc B BZ,W,?_⟩;have U:=C.1;have nz2:=C.2.1;refine⟨_,rfl,_,rfl,_,rfl,_,rfl,small (by omega),p,_,rfl,D.AV,(by omega),(by omega),λr H6 G N S=>?_⟩;refine⟨_,_,rfl,rfl,_,rfl,_,rfl,small (by omega),?_⟩;exact⟨_,rfl,dM (by omega) (by omega) U C.2.2,D.trans S⟩
 clear t l;rintro σ' H3⟨y,rfl,t,l⟩;refine⟨λσ' H'=>∃x v,σ'=[some (.ref p),some (.ref q),some (.ref o),some (.int d),some (.str x),some v]/\Nm x/\x∉ns/\Bl p H H',?_,?_⟩
 .refine⟨λm σ' H'=>∃(k:Nat)(x:Str),σ'=[some (.ref p),some (.ref q),some (.ref o),some (.int d),some (.str x),some (.int k)]/\Bl p H H'/\Nm x/\m=ns.length+1 - k/\k<=ns.length+1/\(0<k->x=DM (MA.lets (k - 1)))/\(∀j,j+1<k->DM (MA.lets j)∈ns),
   ⟨ns.length+1,0,y,rfl,l,t,rfl,Cn _,λh=>absurd h (by decide),λj h=>absurd h (by omega)⟩,?_⟩
  rintro m σ' H'⟨k,x,rfl,b,nx,rfl,hk,hx,hj⟩;refine⟨_,rfl,_,rfl,q,_,rfl,.inl (b.Qc B BZ),rfl,JC ns,_,rfl,?_⟩;rw[qP (by decide),U3];refine Ad (λc=>?_) (λc=>⟨x,_,rfl,nx,λz=>c (oW z),b⟩);have QM:x∈ns:=rE c;have KW:∀j,j<k->DM (MA.lets j)∈ns:=λj Md=>by
   by_cases e:j+1<k
   .exact hj j e
   .have e2:j=k - 1:=by omega
    rw[e2,<- hx (by omega)];exact QM
  have rM:=ZAU KW;refine⟨λσ' H'=>σ'=[some (.ref p),some (.ref q),some (.ref o),some (.int d),some (.str (DM (MA.lets k))),some (.int ((k:Int)+1))]/\Bl p H H',?_,?_⟩
  .rintro σ' H'⟨rfl,b⟩;exact⟨ns.length+1 - (k+1),by omega,k+1,DM (MA.lets k),rfl,b,b6 (IK (Bg rM hL) qd),rfl,by omega,λ_=>rfl,λj Md=>KW j (by omega)⟩
  .refine⟨_,rfl,k,rfl,by omega,?_,λH4 s4=>?_⟩
   .have:(k:Int)<=1000:=by omega
    exact ZH6 this yB
   .rw[Qr];exact⟨_,rfl,_,_,rfl,rfl,rfl,b.trans (Bl.of b.AV s4)⟩
 rintro σ' H'⟨x,v,rfl,nx,hx,b⟩;exact⟨_,rfl,K1 x H' nx hx b⟩
def XD:Aw ["pot","many","names","k"] ["pot","many"] (Ag YG):=by walk_at "z1"
def ZFs(F:AG K "_law_names" "_law_names" YG f fd)(m:mg "_law_names"=some (.ref f)):
  AI P w K mg ZB "_law_names" 3 ["pot","many"] (gN):=by
 refine AI.mk F (F.binds (by walk_at "bD2")) m (F.BO (k:=2) XD (λvs H Q E h=>?_) (λAX A outer s H vs Q E u h=>?_))
 .obtain⟨p,m,rfl,j,r,o,q⟩:=h;rfl
 obtain⟨p,m,rfl,j,r,o,q⟩:=h;refine⟨_,(A9 rfl (Ax 2 XD.nd (Fg A3))
   (A9 rfl (D1 (Kn LA rfl (Y5 rfl IQ (A0 (qv 1) A3)) (D6 3 XD.nd) (AA rfl (EL (KP OM ZHZ ZHc iB (qv 2) (A0 (AZ Gr u (A0 (qv 0) (A0 (qv 2) A3))) A3))))))
   (AA rfl (AR (qv 2))))),?_⟩
 refine⟨(by show 0<=sizeLine;decide),λl c=>?_⟩;have d:=j.ne c;refine⟨λσ' H'=>∃(ns:List Str)(v:Option V),σ'=[some (.ref p),some (.int m),some (.ref l),v]/\Bl p H H'/\H' l=some (.lst (ns.map V.str))/\(ns.length:Int)=m/\(∀x∈ns,Nm x)/\ns.Nodup,?_,?_⟩
 .refine⟨_,rfl,m,rfl,by omega,by omega,ZAl (n:=m.toNat) (λi σ' H'=>∃(ns:List Str)(v:Option V),σ'=[some (.ref p),some (.int m),some (.ref l),v]/\Bl p H H'/\H' l=some (.lst (ns.map V.str))/\ns.length=i/\(∀x∈ns,Nm x)/\ns.Nodup) ?_ ?_ ?_⟩
  .exact⟨[],none,rfl,(Bl.of j (AB.refl H)).upd c d,AW,rfl,λx hx=>absurd hx (by simp),by simp⟩
  .rintro i σ' H' hi⟨ns,v,rfl,g,e,a,b,nd⟩;refine⟨_,rfl,.inl ⟨rfl,_,Ac.of e⟩,_,rfl,_,rfl,p,l,ns,rfl,g.AV,e,d,b,by omega,λx H2 nx hx s2=>?_⟩;refine⟨l,_,_,rfl,rfl,s2.at' e d,IK (m:=100) (by rw[AL];omega) (by decide +kernel),?_⟩;refine⟨ns++[x],_,rfl,(g.trans s2).upd c d,by rw[AW,E4];rfl,by rw[CK];simp[a],λy t=>?_,Rf nd hx⟩;rcases List.mem_append.mp t with h|h
   .exact b y h
   .have:y=x:=by simpa using h
    rw[this];exact nx
  .rintro σ' H'⟨ns,v,rfl,g,e,a,b,nd⟩;exact⟨ns,v,rfl,g,e,by omega,b,nd⟩
 rintro σ' H'⟨ns,v,rfl,g,e,a,b,nd⟩;exact⟨_,rfl,q l H' ns c g e a b nd⟩
def Um:Aw ["pot","most","many"] ["pot","most"] (Ag Vq):=by walk_at "z1"
def qZ(F:AG K "_law_row" "_law_row" Vq f fd)(m:mg "_law_row"=some (.ref f)):
  AI P w K mg ZB "_law_row" 4 ["pot","most"] (YS):=by
 refine AI.mk F (F.binds (by walk_at "bD2")) m (F.BO (k:=3) Um (λvs H Q E h=>?_) (λAX A outer s H vs Q E b h=>?_))
 .obtain⟨p,m,rfl,n,d,v,q⟩:=h;rfl
 obtain⟨p,m,rfl,n,d,v,q⟩:=h;refine⟨_,(A9 rfl (Ax 2 Um.nd (AZ BE b (A0 (qv 0) (A0 (Au DL (qv 1) A4) A3))))
   (A9 rfl (D1 (Ai (AU BU (AZ BE b (A0 (qv 0) (A0 A4 A3))) A4) (AA rfl (Ax 2 Um.nd (AE AK (BF (A0 A4 (A0 A4 (A0 (qv 1) A3)))) (AZ BE b (A0 (qv 0) (A0 A4 A3)))))) Ak))
   (AA rfl (AR (AZ aZ b (A0 (qv 0) (A0 (qv 2) A3))))))),?_⟩
 refine⟨_,rfl,_,rfl,_,_,rfl,rfl,p,_,rfl,n,by omega,by omega,λa H1 n0 n1 s1=>?_⟩;refine⟨λσ' H'=>∃k:Int,σ'=[some (.ref p),some (.int m),some (.int k)]/\0<=k/\k<=m/\Bl p H H',?_,?_⟩
 .refine⟨_,rfl,p,8,rfl,s1.AV,by decide,by decide,λr H2 I G s2=>?_⟩;have c:=s1.trans s2;refine⟨rfl,_,rfl,?_⟩;refine Ad (λ_=>?_) (λ_=>⟨a,rfl,n0,by omega,c⟩);refine⟨_,rfl,(by show 3<=sizeLine;decide +kernel),λt i=>?_⟩;have D:=c.AV.ne i;have u:=c.trans (Bl.of c.AV (BP i (.tup [.int 0,.int 1,.int m])));refine⟨_,rfl,p,3,rfl,u.AV,by decide,by decide,λj H4 y x s4=>?_⟩;obtain⟨k,B,k0,k1⟩:=zW y x d;exact⟨t,_,_,_,rfl,rfl,AS.of (s4.at' AW D),B,k,rfl,k0,k1,u.trans s4⟩
 rintro σ' H'⟨k,rfl,k0,k1,g⟩;refine⟨_,rfl,_,rfl,p,k,rfl,g.AV,k0,by omega,λl H' ns z s e o C nd=>?_⟩;exact q l H' ns (g.none z) (g.trans s) e (by omega) C nd
def U6:Aw ["pot","row","most","way","low","name"] ["pot","row","most"] (Ag WK):=by walk_at "z1"
def mq : ∀ss R,XN ss R->ss.length=3:=by rintro _ _⟨ns,m,rfl,_,_,rfl⟩;rfl
def ZCH(F:AG K "_law_deed" "_law_deed" WK f fd)(m:mg "_law_deed"=some (.ref f)):
  AI P w K mg ZB "_law_deed" 3 ["pot","row","most"] (B7 XN):=by
 refine AI.mk F (F.binds (by walk_at "bD3")) m (F.BO (k:=2) U6 (λvs H Q E h=>Fz.DJ mq h) (λAX A outer s H vs Q E a h=>?_))
 refine⟨_,(A9 rfl (Ax 3 U6.nd (AZ BE a (A0 (qv 0) (A0 A4 A3))))
   (A9 rfl (Ai (Eg (HS (AU FW (qv 3) A4) (Gg (AU FW (BC Bs Aj (A0 (qv 1) A3)) (qv 2)))).pt (HI (AU (R6 a.JJ) (qv 1) (Fg A3)))).pt (A9 rfl (Ai (AU Mj (BC Bs Aj (A0 (qv 1) A3)) (qv 2)) (AA rfl (AR (BF (A0 AO (A0 A4 (A0 A4 A3)))))) Ak)
   (AA rfl (AR (BF (A0 AO (A0 (AZ Gr a (A0 (qv 0) (A0 (qv 1) A3))) (A0 (AZ BE a (A0 (qv 0) (A0 (Au DL (BC Bs Aj (A0 (qv 1) A3)) A4) A3))) A3))))))) Ak)
   (A9 rfl (Ai (AU BU (qv 3) A4) (A9 rfl (Ax 4 U6.nd (AZ BE a (A0 (qv 0) (A0 (Au DL (BC Bs Aj (A0 (qv 1) A3)) A4) A3))))
   (AA rfl (AR (BF (A0 AO (A0 (qv 4) (A0 (Au DL (qv 4) (AZ BE a (A0 (qv 0) (A0 (Au DL (Au Nh (BC Bs Aj (A0 (qv 1) A3)) (qv 4)) A4) A3)))) A3))))))) Ak)
   (A9 rfl (Ax 5 U6.nd (AE EX (qv 1) (AZ BE a (A0 (qv 0) (A0 (BC Bs Aj (A0 (qv 1) A3)) A3)))))
   (A9 rfl (Ai (AU BU (qv 3) A4) (AA rfl (AR (BF (A0 AO (A0 (qv 5) (A0 (AZ BE a (A0 (qv 0) (A0 (BC Bs Aj (A0 (qv 1) A3)) A3))) A3)))))) Ak)
   (AA rfl (AR (BF (A0 AO (A0 (qv 5) A3)))))))))),?_⟩
 refine Fz.DK h mq ?_;rintro _ _⟨ns,m,rfl,e,u,rfl⟩;show Ws [_,_,_,.any,.any,.any] _ _ _;have t:=e.len
 walk_at "ww"
 refine⟨by decide,by decide,λj p o=>?_⟩;refine An (Bu (fG (k':=λb=>b=false->0<ns.length) ?_ ?_))
 .walk_at "ww"
  refine Ad (λc=>?_) (λc=>?_)
  .walk_at "ww"
   rw[AL];refine Ad (λc2 z=>by cases z) (λc2=>?_)
   walk_at "ww"
   exact⟨by decide,_,.inl ⟨rfl,rfl,[],rfl,_,rfl,λz=>List.length_pos_iff.mpr λq=>by rw[oW q]at z;cases z⟩⟩
  .refine Dd ?_
   walk_at "ww"
   exact⟨by decide,_,.inl ⟨rfl,rfl,[],rfl,_,rfl,λz=>List.length_pos_iff.mpr λq=>by rw[oW q]at z;cases z⟩⟩
 rintro b n;cases b with
 |true=>
  refine Bq rfl ?_
  walk_at "ww"
  refine Ad (λc=>?_) (λc=>Ab ?_)
  .exact CB (Hd (Cu (DX (Cu (Br (Cu (Br (DN ⟨by simp,.turn (0:Nat) (0:Nat),rfl,⟨K9 (by decide),K9 (by decide)⟩⟩))))))))
  refine CB (Hd (Cu (DX (Cu (RY rfl (M6 rfl ⟨rfl,ns,rfl,e.nm,by omega,λx hx nx=>?_⟩))))))
  walk_at "ww"
  rw[AL];refine⟨by omega,by omega,λq d i=>?_⟩;obtain⟨q,rfl⟩:=D4 d;exact DN ⟨by simp,.put x q,rfl,⟨Ir hx,K9 (by omega)⟩⟩
 |false=>
  have Ie:=n rfl;refine B4 (by decide) (Ab ?_)
  walk_at "ww"
  refine Ad (λc=>?_) (λc=>Ab ?_)
  .walk_at "ww"
   rw[AL];refine⟨by omega,by omega,λq d i=>?_⟩;obtain⟨q,rfl⟩:=D4 d
   walk_at "ww"
   rw[AL];refine⟨by omega,by omega,λr g l=>?_⟩;obtain⟨r,rfl⟩:=D4 g;exact⟨_,rfl,DN ⟨by simp,.turn q ((q+r:Nat):Int),rfl,⟨K9 (by omega),K9 (by omega)⟩⟩⟩
  walk_at "ww"
  rw[AL];refine⟨by omega,by omega,λq d i=>?_⟩;obtain⟨q,rfl⟩:=D4 d;obtain⟨x,hx,ex⟩:=Rt (ns:=ns) (k:=q) (by omega);refine⟨_,_,rfl,ex,?_⟩
  walk_at "ww"
  refine Ad (λc=>?_) (λc=>Ab ?_)
  .walk_at "ww"
   rw[AL];refine⟨by omega,by omega,λr g l=>?_⟩;obtain⟨r,rfl⟩:=D4 g;exact DN ⟨by simp,.move x r,rfl,⟨Ir (e.nm x hx),K9 (by omega)⟩⟩
  .exact CB (Hd (Cu (DX (Cu (AD rfl (DN ⟨by simp,.take x,rfl,Ir (e.nm x hx)⟩))))))
def ZB9:Aw ["pot"] ["pot"] (Ag aT):=by walk_at "z1"
def gw : ∀ss R,U9 ss R->ss.length=1:=by rintro _ _⟨rfl,rfl⟩;rfl
def yA(F:AG K "_law_rule" "_law_rule" aT f fd)(m:mg "_law_rule"=some (.ref f)):
  AI P w K mg ZB "_law_rule" 2 ["pot"] (B7 U9):=by
 refine AI.mk F (F.binds (by walk_at "bD1")) m (F.BO (k:=1) ZB9 (λvs H Q E h=>Fz.DJ gw h) (λAX A outer s H vs Q E a h=>?_))
 refine⟨_,(AA rfl (AR (AE AK (BF (A0 AO (A0 AO (A0 AO A3)))) (AZ BE a (A0 (qv 0) (A0 A4 A3)))))),?_⟩;refine Fz.DK h gw ?_;rintro _ _⟨rfl,rfl⟩;show Ws [_] _ _ _
 walk_at "ww"
 refine⟨by decide,_,.inr ⟨rfl,rfl,?_⟩⟩
 walk_at "ww"
 refine⟨by decide,by decide,λq b d=>?_⟩;obtain⟨q,rfl⟩:=D4 b;obtain⟨r,a,c⟩:=mf (k:=q) (by omega);exact⟨_,_,rfl,c,r,rfl,a⟩
def O4:Aw ["row","loop","rule","gap","coming","found","left"] ["row","loop"] (Ag Om):=by walk_at "z1"
noncomputable abbrev Sc(l):=Scope.mk .function l false false []
def ZEg:=Sc [(".0",.local),("name",.local),("coming",.free)]
def ZGA:FK ["row","loop","rule","gap","coming","found","left"] (Ag Om) ZEg "name" ["coming"] [4]:=by walk_at "z2"
def ZFl:=Sc [(".0",.local),("name",.local),("found",.free)]
def ZF0:FK ["row","loop","rule","gap","coming","found","left"] (Ag Om) ZFl "name" ["found"] [5]:=by walk_at "z2"
def p9(F:AG K "_law_step" "_law_step" Om f fd)(m:mg "_law_step"=some (.ref f)):
  AI P w K mg ZB "_law_step" 1 ["row","loop"] (aC):=by
 refine AI.mk F (F.binds (by walk_at "bD2")) m (F.BO (k:=0) O4 (λvs H Q E h=>?_) (λAX A outer s H vs Q E hr h=>?_))
 .obtain⟨a,ns,t,r,g,ss,rfl,l,⟨c,O,G⟩,MQ,hz,q⟩:=h;rfl
 obtain⟨a,ns,t,r,g,ss,rfl,l,⟨c,O,G⟩,MQ,hz,q⟩:=h;refine⟨_,(A9 rfl (LJ (qv 1) (Mw rfl (ES (D6 2 O4.nd) (ES (D6 3 O4.nd) (ES (D6 4 O4.nd) NV)))))
   (A9 rfl (Ax 5 O4.nd (KL rfl ZGA (Im (Au IV (GY NH (qv 0) (Em (qv 3)) IA) (GY NH (qv 0) IA (Em (qv 3))))) (λ_ _ _ _=>by exact(Ly (AU (show BX _ (compareOp .In) (Lm K false)from Mi) (qv 1) (qv 0)))) (λ_ _ _ _=>by exact(qv 1))))
   (A9 rfl (Ai (AU (R6 hr.JJ) (qv 5) (Fg A3)) (AA rfl (AR (BF (A0 M4 (A0 (qv 1) A3))))) Ak)
   (A9 rfl (Ax 6 O4.nd (Cg JE Co (A0 (KL rfl ZF0 (Im (qv 4)) (λ_ _ _ _=>by exact(Ly (AU LF (qv 1) (AE (show Ib _ (Tq K)from EX) (qv 0) A4)))) (λ_ _ _ _=>by exact(qv 1))) A3)))
   (AA rfl (AR (BF (A0 (AE EX (qv 5) A4) (A0 (BF (A0 (qv 2) (A0 (Au DL (KP OM Uk cH TB (qv 0) (A0 (AE EX (qv 5) A4) A3)) A4) (A0 (qv 6) A3)))) A3))))))))),?_⟩
 have hl:=IC ns;have C:=IC ss;refine⟨_,rfl,t,_,rfl,AS.of O,rfl,_,_,rfl,_,_,rfl,_,_,rfl,rfl,?_⟩;refine⟨_,rfl,_,rfl,_,rfl,a,_,rfl,Ac.of l,λl1 PD=>?_⟩;have n1:=BP PD (.lst (Cp (ns.map V.str) (some (g:Int)) none));refine⟨_,rfl,_,rfl,_,rfl,a,_,rfl,Ac.of (n1 _ _ l),λl2 FA=>?_⟩;have n2:=BP FA (.lst (Cp (ns.map V.str) none (some (g:Int))));have σ:=n2 _ _ (AW (H:=H) (a:=l1) (o:=.lst (Cp (ns.map V.str) (some (g:Int)) none)));have Y:=AW (H:=upd H l1 (.lst (Cp (ns.map V.str) (some (g:Int)) none))) (a:=l2) (o:=.lst (Cp (ns.map V.str) none (some (g:Int))));have k2:=n1.trans n2;generalize upd (upd H l1 (.lst (Cp (ns.map V.str) (some (g:Int)) none))) l2 (.lst (Cp (ns.map V.str) none (some (g:Int))))=H2 at *;rw[ik]at σ;rw[eJ]at Y;refine⟨l1,l2,_,_,rfl,rfl,σ,Y,small (by rw[Ge,DO];omega),λB D=>?_⟩;have n3:=BP D (.lst ((ns.map V.str).drop g++(ns.map V.str).take g));have k3:=k2.trans n3;have R:Es K false (upd H2 B (.lst ((ns.map V.str).drop g++(ns.map V.str).take g))) B ((ns.drop g++ns.take g).map V.str):=Ac.of (by rw[AW,E4,Qv,Qx]);refine⟨false,B,_,rfl,R,λacc BD=>MD (λv=>GI v (ss.map V.str)) (λv=>v) R BD (small (by rw[IC,CK,Ge,DO];omega)) (λi v H' Q' j s4 h=>?_) (λi v H' Q' j _ s4 h=>?_) (λH4 s4 X=>?_)⟩
 .obtain⟨x,rfl,_⟩:=LS j;exact⟨_,rfl,_,rfl,c,_,rfl,.inr (AS.of (s4 _ _ (k3 _ _ G))),rfl,JC ss,_,rfl,h _ (AB.refl _)⟩
 .exact⟨_,rfl,h _ (AB.refl _)⟩
 rw[vb,ZDl]at X;have k4:=k3.trans s4;refine⟨_,rfl,(by show 0<=sizeLine;decide),λM qC=>?_⟩;have L:=BP qC (.lst []);have k5:=k4.trans L;have p:=L _ _ X;refine⟨acc,M,_,[],rfl,rfl,.inl ⟨Ac.of p,Ac.of AW⟩,JC _,rfl,_,rfl,?_⟩;show if Gs ((Fw ns g ss).map V.str) []=true then _ else _
 rw[YK];refine Ad (λc1=>?_) (λc1=>?_)
 .have n:Fw ns g ss=[]:=by simpa using c1
  refine⟨_,rfl,(by show 2<=sizeLine;decide),λt' MC=>?_⟩;exact q t' _ (AB.none k5 MC) (k5.trans (BP MC _)) (.inl ⟨n,AW⟩)
 .obtain⟨x,GP,n⟩:∃x GP,Fw ns g ss=x::GP:=by
   cases h:Fw ns g ss with
   |nil=>rw[h]at c1;simp at c1
   |cons x GP=>exact⟨x,GP,rfl⟩
  have hx:x∈ns/\x∈ss:=UU.mp (by rw[n];exact D5);rw[n]at p;generalize upd H4 M (.lst [])=H5 at *;have dZ:Es K true H5 c (ss.map V.str):=AS.of (k5 _ _ G);refine⟨_,rfl,true,c,_,rfl,dZ,λtV pT=>MD (J1 (.str x)) (λv=>v) dZ pT (by rw[C];exact small (by omega)) (λi v H' Q' j b h=>?_) (λi v H' Q' j _ b h=>?_) (λH6 b W=>?_)⟩
  .obtain⟨y,rfl,_⟩:=LS j;exact⟨_,rfl,_,rfl,acc,_,_,_,rfl,rfl,Ac.of (b _ _ p),Y7,rfl,_,rfl,h _ (AB.refl _)⟩
  .exact⟨_,rfl,h _ (AB.refl _)⟩
  rw[Ph]at W;refine⟨tV,_,rfl,.inl ⟨Ac.of W,λd S=>?_⟩⟩;have J:=BP S (.tup ((wo ss x).map V.str));have e:=k5.trans (b.trans J);have f7:H d=none:=AB.none (k5.trans b) S;have U:=J _ _ (b _ _ p);have u7:=AW (H:=H6) (a:=d) (o:=.tup ((wo ss x).map V.str));generalize upd H6 d (.tup ((wo ss x).map V.str))=H7 at *;refine⟨_,rfl,acc,_,_,_,rfl,rfl,Ac.of U,Y7,_,rfl,_,rfl,.inl ⟨rfl,_,Ac.of (e _ _ l)⟩,_,rfl,acc,_,_,_,rfl,rfl,Ac.of U,Y7,a,ns,x,rfl,rfl,Ac.of (e _ _ l),hx.1,_,_,rfl,rfl,_,rfl,?_⟩;refine⟨(by show 3<=sizeLine;decide),λI N=>?_⟩;have z:=BP N (.tup [.str r,.int ((ns.idxOf x:Nat)+1),.ref d]);refine⟨(by show 2<=sizeLine;decide),λt9 T=>?_⟩;have u:=BP T (.tup [.str x,.ref I]);exact q t9 _ (AB.none (e.trans z) T) (e.trans (z.trans u)) (.inr ⟨x,GP,I,d,n,AB.none e N,f7,AW,u _ _ AW,u _ _ (z _ _ u7)⟩)
def Og:Aw ["pot","state","most","way","names","name","loop"] ["pot","state","most"] (Ag aa):=by walk_at "z1"
def ji : ∀ss R,YH ss R->ss.length=3:=by rintro _ _⟨s,m,rfl,_,_,_,rfl⟩;rfl
def pG(F:AG K "_law_good_entry" "_law_good_entry" aa f fd)(m:mg "_law_good_entry"=some (.ref f)):
  AI P w K mg ZB "_law_good_entry" 4 ["pot","state","most"] (B7 YH):=by
 refine AI.mk F (F.binds (by walk_at "bD3")) m (F.BO (k:=3) Og (λvs H Q E h=>Fz.DJ ji h) (λAX A outer s H vs Q E a h=>?_))
 refine⟨_,(A9 rfl (Ax 3 Og.nd (AZ BE a (A0 (qv 0) (A0 A4 A3))))
   (A9 rfl (Ax 4 Og.nd (BC (vm rfl) Et (A0 (Bw (BH a) (qv 1) AO (λ_ _=>rfl)) A3)))
   (A9 rfl (Ai (Eg (HS (AU BU (qv 3) A4) (Gg (AU FW (BC Bs Aj (A0 (qv 4) A3)) A4))).pt (HI (HS (AU FW (qv 3) A4) (Gg (AU (R6 a.JJ) (qv 4) (Fg A3)))).pt)).pt (AA rfl (AR (BF (A0 AO (A0 (AZ Gr a (A0 (qv 0) (A0 (Cg (Qf rfl) By (A0 (Bw (BH a) (qv 1) AO (λ_ _=>rfl)) A3)) A3))) (A0 (AZ Nk a (A0 (qv 0) A3)) A3)))))) Ak)
   (A9 rfl (D1 (Ai (AU FW (qv 3) A4) (A9 rfl (Ax 5 Og.nd (AE EX (qv 4) (AZ BE a (A0 (qv 0) (A0 (BC Bs Aj (A0 (qv 4) A3)) A3)))))
   (A9 rfl (Ax 6 Og.nd (Bw (BH a) (Bw (BH a) (qv 1) AO (λ_ _=>rfl)) (qv 5) (λ_ _=>rfl)))
   (A9 rfl (Ai (HS (AU (R6 a.JJ) (AE AK (qv 6) A4) (BF A3)) (Gg (AU BU (AZ BE a (A0 (qv 0) (A0 A4 A3))) A4))).pt (AA rfl (AR (BF (A0 AO (A0 (qv 5) A3))))) Ak)
   (A9 rfl (Ai (HS (AU (Qn a.JJ) (AE AK (qv 6) A4) (BF A3)) (Gg (AU BU (AZ BE a (A0 (qv 0) (A0 A4 A3))) A4))).pt (AA rfl (AR (BF (A0 AO (A0 (qv 5) (A0 (AE AK (AE AK (qv 6) A4) (AZ BE a (A0 (qv 0) (A0 (BC Bs Aj (A0 (AE AK (qv 6) A4) A3)) A3)))) A3)))))) Ak)
   (AA rfl (Ai (AU (Qn a.JJ) (AE AK (qv 6) A4) (BF A3)) (AA rfl (AR (BF (A0 AO (A0 (qv 5) (A0 (AE AK (AZ XR a (A0 (Bw (BH a) (qv 1) AO (λ_ _=>rfl)) (A0 (qv 6) A3))) A4) A3)))))) Ak)))))) Ak))
   (AA rfl (AR (AZ Zb a (A0 (qv 0) (A0 (Bw (BH a) (qv 1) AO (λ_ _=>rfl)) (A0 (qv 2) A3)))))))))),?_⟩
 refine Fz.DK h ji ?_;rintro _ _⟨s,m,rfl,ok,hn,T,rfl⟩;show Ws [_,_,_,.any,.any,.any,.any] _ _ _;have l1:=ok.l1;have l3:=Ig ok.n1 ok.sub
 walk_at "ww"
 refine⟨by decide,by decide,λe n u=>?_⟩;refine An (Nt (ZCJ (I0 (AD rfl ⟨k3,_,rfl,DX ⟨.inr "live", _,rfl,rfl,_,s.ln,rfl,by omega,λBk I=>?_⟩⟩))));refine Ln 4 rfl ?_;show Ws [.AV,.is (EZ s),.is (.int m),.is (.int e),.is (.lst (Bk.map .str)),.any,.any] _ _ _;have S:=I.2;refine An (Bu (fG (k':=λb=>b=false->e<5->Bk≠[]) ?_ ?_))
 .walk_at "ww"
  refine Ad (λc=>?_) (λc=>?_)
  .walk_at "ww"
   refine Ad (λc2 z=>by cases z) (λc2=>?_)
   walk_at "ww"
   refine Ad (λj=>?_) (λj _ z=>absurd (oW z) j)
   walk_at "ww"
   exact⟨by decide,_,.inl ⟨rfl,rfl,[],rfl,_,rfl,λz _ q=>by rw[oW q]at z;cases z⟩⟩
  .refine Dd ?_
   walk_at "ww"
   refine Ad (λj=>?_) (λj _ z=>absurd (oW z) j)
   walk_at "ww"
   exact⟨by decide,_,.inl ⟨rfl,rfl,[],rfl,_,rfl,λz _ q=>by rw[oW q]at z;cases z⟩⟩
 rintro b Nr;cases b with
 |true=>
  refine Bq rfl ?_;refine CB (Hd (Cu (DX (Cu (RY rfl ?_)))));refine Ba (EH (aE (I0 (AD rfl ⟨k3,_,rfl,DX ⟨.inr "sums", _,rfl,rfl,Ah s.sn,_,rfl,by unfold Ah;rw[AL];omega,_,.inl ⟨rfl,rfl,s.sn,Pz _,ok.nm,by omega,λx hx nx=>?_⟩⟩⟩))));refine Cu (Q2 rfl (BY ⟨_,⟨rfl,rfl⟩,?_⟩));rintro _⟨r,rfl,a⟩;have O:C7 r:=by
   unfold KN at a;rcases List.mem_cons.mp a with rfl|a
   .exact TZ (by decide) (by decide +kernel)
   .rcases List.mem_cons.mp a with rfl|a
    .exact TZ (by decide) (by decide +kernel)
    .rw[List.mem_singleton.mp a];exact TZ (by decide) (by decide +kernel)
  exact DN ⟨by simp,.Hr x r,rfl,⟨Ir hx,O⟩⟩
 |false=>
  refine B4 (by decide) (Ab ?_);have U:=Nr rfl;refine Yy (λAN=>∃G D:Slot,AN=[.AV,.is (EZ s),.is (.int m),.is (.int e),.is (.lst (Bk.map .str)),G,D]) ?_ ?_
  .walk_at "ww"
   refine Ad (λc=>?_) (λc=>Ab ⟨_,_,rfl⟩);have W:=U (rE c);have Ie:0<Bk.length:=List.length_pos_iff.mpr W
   walk_at "ww"
   rw[AL];refine⟨by omega,by omega,λq R X=>?_⟩;obtain⟨q,rfl⟩:=D4 R;obtain⟨x,hx⟩:∃x,Bk[q]?=some x:=⟨_,BG (by omega)⟩;refine⟨_,.str x,rfl,Kr (by rw[Bc,hx];rfl),?_⟩;have t:x∈s.ln:=I.1 x (EI hx);have hi:=List.idxOf_lt_length_iff.mpr t;obtain⟨l,L⟩:∃l,s.ll[s.ln.idxOf x]?=some l:=⟨_,BG (by omega)⟩;have p:=ok.good l (EI L);have Y:=p.len;have NI:=ok.row.len;have v:C7 x:=Ir (ok.nm x (ok.sub x t));refine An (JY (I0 (I0 (AD rfl ⟨k3,_,rfl,DX ⟨.inr "live", _,rfl,rfl,Ah s.ln,_,rfl,AD rfl ⟨.inr x,l.P,rfl,Wf t (by rw[Bc,L];rfl),?_⟩⟩⟩))));show Ws [.AV,.is (EZ s),.is (.int m),.is (.int e),.is (.lst (Bk.map .str)),.is (.str x),.is (.tup [.str l.r,.int l.g,.tup (l.cs.map .str)])] _ _ _
   walk_at "ww"
   have C:∀y∈l.cs,C7 y:=λy o=>Ir (ok.row.nm y (p.sub y o));refine⟨by decide,_,.inr ⟨rfl,rfl,[],rfl,_,rfl,?_⟩⟩
   by_cases i:l.cs=[]
   .rw[oW i];refine Np ?_
    walk_at "ww"
    refine⟨by decide,by decide,λw n u=>?_⟩
    walk_at "ww"
    refine Ad (λc2=>?_) (λc2=>Ab ?_)
    .walk_at "ww"
     exact⟨by simp,.over x,rfl,v⟩
    .walk_at "ww"
     refine⟨by decide,_,.inr ⟨rfl,rfl,[],rfl,_,rfl,?_⟩⟩;rw[oW i];refine Dd ?_;refine Dd (Ab ?_)
     walk_at "ww"
     refine⟨by decide,_,.inr ⟨rfl,rfl,[],rfl,_,rfl,?_⟩⟩;rw[oW i];exact Dd (Ab ⟨_,_,rfl⟩)
   .rw[sS i];refine Dd (Dd (Ab ?_))
    walk_at "ww"
    refine⟨by decide,_,.inr ⟨rfl,rfl,[],rfl,_,rfl,?_⟩⟩;rw[sS i];refine Np ?_
    walk_at "ww"
    refine⟨by decide,by decide,λw n u=>?_⟩
    walk_at "ww"
    refine Ad (λc2=>?_) (λc2=>Ab ?_)
    .walk_at "ww"
     rw[AL];have σ:=List.length_pos_iff.mpr i;refine⟨by omega,by omega,λw n u=>?_⟩;obtain⟨w,rfl⟩:=D4 n;obtain⟨y,o⟩:∃y,l.cs[w]?=some y:=⟨_,BG (by omega)⟩;exact⟨_,.str y,rfl,Kr (by rw[Bc,o];rfl),DN ⟨by simp,.tell x y,rfl,⟨v,C y (EI o)⟩⟩⟩
    .walk_at "ww"
     refine⟨by decide,_,.inr ⟨rfl,rfl,[],rfl,_,rfl,?_⟩⟩;rw[sS i];refine Np ?_
     walk_at "ww"
     obtain⟨y,GP,J⟩:∃y GP,Fw s.row l.g l.cs=y::GP:=by
      obtain⟨c,cs,V⟩:=ZHE i;have M:c∈l.cs:=by rw[V];exact D5
      have:c∈Fw s.row l.g l.cs:=UU.mpr ⟨p.sub c M,M⟩;exact ZHE λz=>by rw[z]at this;cases this
     have N:y∈l.cs:=(UU.mp (by rw[J];exact D5)).2;have B:Nf s.row l.r l.g l.cs=.tup [.str y,Eh l.r (s.row.idxOf y+1) (wo l.cs y)]:=by unfold Nf;rw[J]
     refine Ba (ZAt (Ba (I0 (AD rfl ⟨k3,_,rfl,DX ⟨.inr "row", _,rfl,rfl,_,.inl ⟨rfl,rfl,s.row,rfl,AD rfl ⟨l.r,l.g,l.cs,rfl,p,by omega,_,.inr ⟨B,rfl,Br ⟨_,_,rfl,rfl,?_⟩⟩⟩⟩⟩⟩))));exact DN ⟨by simp,.tell x y,rfl,⟨v,C y N⟩⟩
  .rintro _⟨G,D,rfl⟩;refine CB (Q2 rfl (As (I0 (AD rfl ⟨k3,_,rfl,DX ⟨.inr "row", _,rfl,rfl,As (AD rfl (BY ⟨_,⟨s.row,m,rfl,ok.row,T,rfl⟩,?_⟩))⟩⟩))));rintro _⟨d,rfl,hd⟩;exact⟨.Ee d,rfl,hd⟩
def JS:Aw ["pot","state","row","fresh","some","loop","none","far","way","low"] ["pot","state"] (Ag bM):=by walk_at "z1"
def jg : ∀ss R,bR ss R->ss.length=2:=by rintro _ _⟨s,rfl,_,_,rfl⟩;rfl
def ZCA(F:AG K "_law_bad_entry" "_law_bad_entry" bM f fd)(m:mg "_law_bad_entry"=some (.ref f)):
  AI P w K mg ZB "_law_bad_entry" 4 ["pot","state"] (B7 bR):=by
 refine AI.mk F (F.binds (by walk_at "bD2")) m (F.BO (k:=3) JS (λvs H Q E h=>Fz.DJ jg h) (λAX A outer s H vs Q E b h=>?_))
 refine⟨_,(A9 rfl (Ax 2 JS.nd (Bw (BH b) (qv 1) AO (λ_ _=>rfl)))
   (A9 rfl (Ax 3 JS.nd (AZ Gr b (A0 (qv 0) (A0 (Au IV (qv 2) (Cg (Qf rfl) By (A0 (Bw (BH b) (qv 1) AO (λ_ _=>rfl)) A3))) A3))))
   (A9 rfl (Ax 4 JS.nd (AE EX (Au IV (Fg (A0 (qv 3) A3)) (qv 2)) (AZ BE b (A0 (qv 0) (A0 (Au DL (BC Bs Aj (A0 (qv 2) A3)) A4) A3)))))
   (A9 rfl (Ax 5 JS.nd (AE EX (Au IV (Fg (A0 (qv 3) A3)) (Cg (Qf rfl) By (A0 (Bw (BH b) (qv 1) AO (λ_ _=>rfl)) A3))) (AZ BE b (A0 (qv 0) (A0 (Au DL (BC ZFG Aj (A0 (Bw (BH b) (qv 1) AO (λ_ _=>rfl)) A3)) A4) A3)))))
   (A9 rfl (Ax 6 JS.nd (AE AK (BF (A0 AO (A0 AO (A0 AO (A0 AO (A0 AO (A0 AO A3))))))) (AZ BE b (A0 (qv 0) (A0 A4 A3)))))
   (A9 rfl (Ax 7 JS.nd (AE AK (BF (A0 (Au DL (BC Bs Aj (A0 (qv 2) A3)) A4) (A0 (Vl Zs A4) (A0 (Au M7 A4 A4) (A0 A4 A3))))) (AZ BE b (A0 (qv 0) (A0 A4 A3)))))
   (A9 rfl (Ax 8 JS.nd (AZ BE b (A0 (qv 0) (A0 A4 A3))))
   (A9 rfl (Ai (AU FW (qv 8) A4) (AA rfl (AR (BF (A0 AO (A0 (AE AK (BF (A0 (qv 6) (A0 (qv 4) (A0 (qv 3) A3)))) (qv 8)) (A0 (AE AK (BF (A0 A4 (A0 A4 (A0 (qv 7) A3)))) (qv 8)) A3)))))) Ak)
   (A9 rfl (Ai (AU BU (qv 8) A4) (AA rfl (AR (BF (A0 AO (A0 (qv 3) A3))))) Ak)
   (A9 rfl (Ai (AU BU (qv 8) A4) (AA rfl (AR (BF (A0 AO (A0 (qv 4) (A0 (AE AK (BF (A0 (BC Bs Aj (A0 (qv 2) A3)) (A0 (Vl Zs A4) (A0 A4 A3)))) (AZ BE b (A0 (qv 0) (A0 A4 A3)))) A3)))))) Ak)
   (A9 rfl (Ai (AU BU (qv 8) A4) (A9 rfl (Ax 9 JS.nd (AZ BE b (A0 (qv 0) (A0 (Au DL (BC Bs Aj (A0 (qv 2) A3)) A4) A3))))
   (AA rfl (AR (BF (A0 AO (A0 (AE AK (BF (A0 (qv 9) (A0 (qv 7) A3))) (AZ BE b (A0 (qv 0) (A0 A4 A3)))) (A0 (AE AK (BF (A0 (Au Nh (qv 9) A4) (A0 (Au DL (BC Bs Aj (A0 (qv 2) A3)) A4) (A0 (qv 7) A3)))) (AZ BE b (A0 (qv 0) (A0 A4 A3)))) A3))))))) Ak)
   (A9 rfl (Ai (AU BU (qv 8) A4) (AA rfl (AR (BF (A0 AO (A0 (AE AK (BF (A0 (qv 5) (A0 (qv 6) A3))) (AZ BE b (A0 (qv 0) (A0 A4 A3)))) (A0 (AZ Nk b (A0 (qv 0) A3)) A3)))))) Ak)
   (A9 rfl (Ai (AU BU (qv 8) A4) (AA rfl (AR (BF (A0 AO (A0 (qv 3) (A0 (AE AK (BF (A0 AO (A0 AO (A0 AO (A0 AO (A0 AO A3)))))) (AZ BE b (A0 (qv 0) (A0 A4 A3)))) A3)))))) Ak)
   (A9 rfl (Ai (Eg (AU BU (qv 8) A4) (HI (AU BU (qv 8) A4))).pt (AA rfl (AR (BF (A0 AO (A0 (qv 5) (A0 (qv 4) A3)))))) Ak)
   (AA rfl (AR (BF (A0 AO (A0 (qv 5) A3))))))))))))))))))),?_⟩
 refine Fz.DK h jg ?_;rintro _ _⟨s,rfl,ok,hn,rfl⟩;show Ws [_,_,.any,.any,.any,.any,.any,.any,.any,.any] _ _ _;have N:=ok.row.len;refine An (JY (I0 (AD rfl ⟨k3,_,rfl,DX ⟨.inr "row", _,rfl,rfl,?_⟩⟩)));show Ws [.AV,.is (EZ s),.is (.lst (s.row.map .str)),.any,.any,.any,.any,.any,.any,.any] _ _ _
 walk_at "ww"
 refine Ba (EH (aE (I0 (AD rfl ⟨k3,_,rfl,DX ⟨.inr "sums", _,rfl,rfl,Ah s.sn,_,rfl,by unfold Ah;rw[AL];omega,_,.inl ⟨rfl,rfl,by rw[AL,AL];unfold Ah;rw[AL];omega,_,.inl ⟨rfl,rfl,s.row++s.sn,by rw[E4,Pz],λx hx=>?_,by rw[CK];omega,λfr C J=>?_⟩⟩⟩⟩))))
 .rcases List.mem_append.mp hx with h|h
  .exact ok.row.nm x h
  .exact ok.nm x h
 have t:=Ir C;show Ws [.AV,.is (EZ s),.is (.lst (s.row.map .str)),.is (.str fr),.any,.any,.any,.any,.any,.any] _ _ _
 walk_at "ww"
 refine⟨by simp,_,.inl ⟨rfl,rfl,M6 rfl ⟨rfl,by rw[AL];simp;omega,_,.inl ⟨rfl,rfl,?_⟩⟩⟩⟩
 walk_at "ww"
 rw[AL];refine⟨by omega,by omega,λq d j=>?_⟩;obtain⟨q,rfl⟩:=D4 d;obtain⟨g,T1,ex⟩:=Rt (ns:=fr::s.row) (k:=q) (by rw[Ca];omega);have ss:C7 g:=by
  rcases List.mem_cons.mp T1 with rfl|h
  .exact t
  .exact Ir (ok.row.nm g h)
 refine⟨_,_,rfl,ex,?_⟩;show Ws [.AV,.is (EZ s),.is (.lst (s.row.map .str)),.is (.str fr),.is (.str g),.any,.any,.any,.any,.any] _ _ _
 walk_at "ww"
 refine⟨by simp,_,.inl ⟨rfl,rfl,Ba (EH (aE (I0 (AD rfl ⟨k3,_,rfl,DX ⟨.inr "sums", _,rfl,rfl,Ah s.sn,_,rfl,by unfold Ah;rw[AL];omega,_,.inl ⟨rfl,rfl,by rw[AL];unfold Ah;rw[AL];simp;omega,_,.inl ⟨rfl,rfl,?_⟩⟩⟩⟩))))⟩⟩
 walk_at "ww"
 refine ZCD (I0 (AD rfl ⟨k3,_,rfl,DX ⟨.inr "sums", _,rfl,rfl,Ah s.sn,_,rfl,?_⟩⟩));rw[show(Ah s.sn).length=s.sn.length from by unfold Ah;rw[AL]]
 walk_at "ww"
 refine⟨by omega,by omega,λq d j=>?_⟩;obtain⟨q,rfl⟩:=D4 d;obtain⟨lo,D,ex⟩:=Rt (ns:=fr::s.sn) (k:=q) (by rw[Ca];omega);have sl:C7 lo:=by
  rcases List.mem_cons.mp D with rfl|h
  .exact t
  .exact Ir (ok.nm lo h)
 refine⟨_,_,rfl,by rw[Pz];exact ex,?_⟩;show Ws [.AV,.is (EZ s),.is (.lst (s.row.map .str)),.is (.str fr),.is (.str g),.is (.str lo),.any,.any,.any,.any] _ _ _
 walk_at "ww"
 refine⟨by simp,_,.inr ⟨rfl,rfl,?_⟩⟩
 walk_at "ww"
 refine⟨by decide,by decide,λq d j=>?_⟩;obtain⟨q,rfl⟩:=D4 d;obtain⟨n,ex,sn⟩:=Tb (xs:=[("":Str), "A","abcdefghi","a b","{","a1"]) (Yg (by decide +kernel)) (r:=q) (by show q<6;omega)
 refine⟨_,_,rfl,ex,?_⟩;show Ws [.AV,.is (EZ s),.is (.lst (s.row.map .str)),.is (.str fr),.is (.str g),.is (.str lo),.is (.str n),.any,.any,.any] _ _ _
 walk_at "ww"
 refine⟨⟨by decide,by decide,by decide +kernel⟩,?_⟩;rw[AL]
 walk_at "ww"
 refine⟨by simp,_,.inr ⟨rfl,rfl,?_⟩⟩
 walk_at "ww"
 refine⟨by decide,by decide,λq d j=>?_⟩;obtain⟨q,rfl⟩:=D4 d;obtain⟨N1,ex,Xm⟩:=Qp (xs:=[(s.row.length:Int)+1,-1,10 ^ Int.toNat 59,0]) (λx hx=>by
  simp only[HZ,BB,ZAn]at hx;rcases hx with rfl|rfl|rfl|rfl
  .exact II (by omega) (by omega)
  .exact II (by decide) (by decide)
  .exact ZD0
  .exact II (by decide) (by decide)) (r:=q) (by show q<4;omega)
 refine⟨_,_,rfl,ex,?_⟩
 walk_at "ww"
 refine⟨by decide,by decide,λa y G=>?_⟩;obtain⟨a,rfl⟩:=D4 y;show Ws [.AV,.is (EZ s),.is (.lst (s.row.map .str)),.is (.str fr),.is (.str g),.is (.str lo),.is (.str n),.is (.int N1),.is (.int a),.any] _ _ _
 walk_at "ww"
 refine Ad (λc=>?_) (λc=>Ab ?_)
 .have M:a<3:=by have:=rE c;omega
  walk_at "ww"
  obtain⟨i,l,s1⟩:=Tb (xs:=[n,g,fr]) (S8 sn ss t) (r:=a) (by show a<3;omega);refine⟨by simp,_,.inr ⟨rfl,rfl,AD rfl ⟨_,_,rfl,l,?_⟩⟩⟩
  walk_at "ww"
  obtain⟨o,v,s2⟩:=Qp (xs:=[0,0,N1]) (S8 (II (by decide) (by decide)) (II (by decide) (by decide)) Xm) (r:=a) (by show a<3;omega);exact⟨by simp,_,.inr ⟨rfl,rfl,AD rfl ⟨_,_,rfl,v,DN ⟨by simp,.Ee (.put i o),rfl,⟨s1,s2⟩⟩⟩⟩⟩
 walk_at "ww"
 refine Ad (λc=>?_) (λc=>Ab ?_)
 .exact CB (Hd (Cu (DX (Cu (AD rfl (DN ⟨by simp,.Ee (.take fr),rfl,t⟩))))))
 walk_at "ww"
 refine Ad (λc=>?_) (λc=>Ab ?_)
 .walk_at "ww"
  rw[AL];refine⟨by simp,_,.inr ⟨rfl,rfl,?_⟩⟩
  walk_at "ww"
  refine⟨by decide,by decide,λq d j=>?_⟩;obtain⟨q,rfl⟩:=D4 d;obtain⟨o,v,s2⟩:=Qp (xs:=[(s.row.length:Int),-1,0]) (S8 (II (by omega) (by omega)) (II (by decide) (by decide)) (II (by decide) (by decide))) (r:=q) (by show q<3;omega);exact⟨_,_,rfl,v,DN ⟨by simp,.Ee (.move g o),rfl,⟨ss,s2⟩⟩⟩
 walk_at "ww"
 refine Ad (λc=>?_) (λc=>Ab ?_)
 .walk_at "ww"
  rw[AL];refine⟨by omega,by omega,λu L l1=>?_⟩
  walk_at "ww"
  refine⟨by simp,_,.inr ⟨rfl,rfl,?_⟩⟩
  walk_at "ww"
  refine⟨by decide,by decide,λq d j=>?_⟩;obtain⟨q,rfl⟩:=D4 d;obtain⟨i,l,s1⟩:=Qp (xs:=[u,N1]) (Zf (II (by omega) (by omega)) Xm) (r:=q) (by show q<2;omega);refine⟨_,_,rfl,l,?_⟩
  walk_at "ww"
  rw[AL];refine⟨by simp,_,.inr ⟨rfl,rfl,?_⟩⟩
  walk_at "ww"
  refine⟨by decide,by decide,λr B I=>?_⟩;obtain⟨r,rfl⟩:=D4 B;obtain⟨o,v,s2⟩:=Qp (xs:=[u - 1,(s.row.length:Int)+1,N1]) (S8 (II (by omega) (by omega)) (II (by omega) (by omega)) Xm) (r:=r) (by show r<3;omega);exact⟨_,_,rfl,v,DN ⟨by simp,.Ee (.turn i o),rfl,⟨s1,s2⟩⟩⟩
 walk_at "ww"
 refine Ad (λc=>?_) (λc=>Ab ?_)
 .walk_at "ww"
  refine⟨by simp,_,.inr ⟨rfl,rfl,?_⟩⟩
  walk_at "ww"
  refine⟨by decide,by decide,λq d j=>?_⟩;obtain⟨q,rfl⟩:=D4 d;obtain⟨i,l,s1⟩:=Tb (xs:=[lo,n]) (Zf sl sn) (r:=q) (by show q<2;omega);refine⟨_,_,rfl,l,Cu (Q2 rfl (BY ⟨_,⟨rfl,rfl⟩,?_⟩))⟩;rintro _⟨r,rfl,b⟩;have z:C7 r:=Yg (xs:=KN) (by decide +kernel) r b;exact DN ⟨by simp,.Hr i r,rfl,⟨s1,z⟩⟩
 walk_at "ww"
 refine Ad (λc=>?_) (λc=>Ab ?_)
 .walk_at "ww"
  refine⟨by simp,_,.inr ⟨rfl,rfl,?_⟩⟩
  walk_at "ww"
  refine⟨by decide,by decide,λq d j=>?_⟩;obtain⟨q,rfl⟩:=D4 d;obtain⟨i,l,s1⟩:=Tb (xs:=[("al":Str), "","None","ahead ","over"]) (Yg (by decide +kernel)) (r:=q) (by show q<5;omega);exact⟨_,_,rfl,l,DN ⟨by simp,.Hr fr i,rfl,⟨t,s1⟩⟩⟩
 refine Yy (λAN=>AN=[.AV,.is (EZ s),.is (.lst (s.row.map .str)),.is (.str fr),.is (.str g),.is (.str lo),.is (.str n),.is (.int N1),.is (.int a),.any]) ?_ ?_
 .have tl:∀nx,Ws [.AV,.is (EZ s),.is (.lst (s.row.map .str)),.is (.str fr),.is (.str g),.is (.str lo),.is (.str n),.is (.int N1),.is (.int a),.any] (Gf (Rh (Al (tC (V.str "tell")) (Al (BS 5) (Al (BS 4) BR))))) nx (.is λp=>∃e:LE,p=e.P/\e.say):=λnx=>CB (Hd (Cu (DX (Cu (AD rfl (Cu (AD rfl (DN ⟨by simp,.tell lo g,rfl,⟨sl,ss⟩⟩))))))))
  walk_at "ww"
  refine Ad (λc=>Bq rfl (tl _)) (λc=>?_)
  walk_at "ww"
  exact Ad (λc=>tl _) (λc=>Ab rfl)
 rintro _ rfl;exact CB (Hd (Cu (DX (Cu (AD rfl (DN ⟨by simp,.over lo,rfl,sl⟩))))))
def Th:Aw ["row","deed","made","low","high"] ["row","deed"] (Ag RB):=by walk_at "z1"
def uY:=Sc [(".0",.local),("name",.local),("deed",.free)]
def ZFv:FK ["row","deed","made","low","high"] (Ag RB) uY "name" ["deed"] [1]:=by walk_at "z2"
def xI(F:AG K "_law_done" "_law_done" RB f fd)(m:mg "_law_done"=some (.ref f)):
  AI P w K mg ZB "_law_done" 1 ["row","deed"] (XC):=by
 refine AI.mk F (F.binds (by walk_at "bD2")) m (F.BO (k:=0) Th (λvs H Q E h=>?_) (λAX A outer s H vs Q E hr h=>?_))
 .obtain⟨a,t,ns,d,rfl,r,g,hd,z,nd,q⟩:=h;rfl
 obtain⟨a,t,ns,d,rfl,r,g,hd,z,nd,q⟩:=h;refine⟨_,(A9 rfl (xQ (i:=2) Th.nd rfl (Or.inl rfl) rfl ZFv (Im (qv 0)) (λ_ _ _ _=>by exact(Ly (AU LF (qv 1) (AE (show Ib _ (NF K)from AK) (qv 0) A4)))) (λ_ _ _ _=>by exact(qv 1)))
   (A9 rfl (Ai (AU BU (AE AK (qv 1) A4) AO) (A9 rfl (LJ (GY ij (qv 1) (Em A4) IA) (Mw rfl (ES (D6 3 Th.nd) (ES (D6 4 Th.nd) NV))))
   (AA rfl (AR (Au IV (Au IV (GY NH (qv 0) IA (Em (qv 3))) (dI rfl rfl By rfl NB (A0 (GY NH (qv 0) (Em (qv 3)) (Em (qv 4))) A3))) (GY NH (qv 0) (Em (qv 4)) IA))))) Ak)
   (A9 rfl (D1 (Ai (AU LF (AE AK (qv 1) A4) AO) (AA rfl (EL (KP OM ZHa PySem.F.type_list_insert q8 (qv 2) (A0 (AE AK (qv 1) A4) (A0 (AE AK (qv 1) A4) A3))))) Ak))
   (AA rfl (AR (qv 2)))))),?_⟩
 have o:=IC ns;have C:∀n:Nat,n<=2001->n<=sizeLine:=λn h=>Bg h (by decide +kernel);have l:Es K false H a (ns.map V.str):=Ac.of r;cases d with
 |put x i=>
  obtain⟨h1,h2,h3,h4⟩:=hd;have u:(wo ns x).length<=ns.length:=OH _ _;refine⟨_,rfl,false,a,_,rfl,l,λacc BD=>MD (J1 (.str x)) (λv=>v) l BD (by rw[o];exact small (by omega)) (λi v H' Q' e s1 h=>?_) (λi v H' Q' e _ s1 h=>?_) (λH' s1 c=>?_)⟩
  .obtain⟨y,rfl,B⟩:=LS e;exact⟨_,rfl,_,rfl,t,_,_,_,rfl,rfl,AS.of (s1 _ _ g),rfl,rfl,_,rfl,h H' (AB.refl _)⟩
  .exact⟨_,rfl,h H' (AB.refl _)⟩
  have b:=s1 _ _ g;rw[Ph]at c;refine⟨_,rfl,t,_,_,_,rfl,rfl,AS.of b,rfl,rfl,_,rfl,B4 (by decide +kernel) ?_⟩;refine⟨λσ' H'=>σ'=[some (.ref a),some (.ref t),some (.ref acc),none,none]/\AB H H'/\H' acc=some (.lst ((ins (wo ns x) x i).map V.str)),?_,?_⟩
  .refine⟨_,rfl,t,_,_,_,rfl,rfl,AS.of b,rfl,rfl,_,rfl,WS (by decide +kernel) ?_⟩;refine⟨_,rfl,.inl ⟨rfl,_,Ac.of c⟩,_,rfl,t,_,_,_,rfl,rfl,AS.of b,rfl,_,rfl,t,_,_,_,rfl,rfl,AS.of b,rfl,acc,_,_,_,rfl,rfl,c,by omega,by rw[IC];rw[Rm h2];omega,by rw[IC];exact IK u (IK z (by decide +kernel)),?_⟩;refine⟨rfl,jn s1 BD,?_⟩;rw[AW];unfold ins;simp only[E4,Qx,C8,Qv,Qr]
  .rintro σ' H2⟨rfl,s2,j⟩;exact⟨_,rfl,q acc H2 BD s2 (by rw[Rm h2]at j;exact j)⟩
 |take x=>
  have u:(wo ns x).length<=ns.length:=OH _ _;refine⟨_,rfl,false,a,_,rfl,l,λacc BD=>MD (J1 (.str x)) (λv=>v) l BD (by rw[o];exact small (by omega)) (λi v H' Q' e s1 h=>?_) (λi v H' Q' e _ s1 h=>?_) (λH' s1 c=>?_)⟩
  .obtain⟨y,rfl,B⟩:=LS e;exact⟨_,rfl,_,rfl,t,_,_,_,rfl,rfl,AS.of (s1 _ _ g),rfl,rfl,_,rfl,h H' (AB.refl _)⟩
  .exact⟨_,rfl,h H' (AB.refl _)⟩
  have b:=s1 _ _ g;rw[Ph]at c;refine⟨_,rfl,t,_,_,_,rfl,rfl,AS.of b,rfl,rfl,_,rfl,B4 (by decide +kernel) ?_⟩;refine⟨λσ' H'=>σ'=[some (.ref a),some (.ref t),some (.ref acc),none,none]/\AB H H'/\H' acc=some (.lst ((wo ns x).map V.str)),?_,?_⟩
  .refine⟨_,rfl,t,_,_,_,rfl,rfl,AS.of b,rfl,rfl,_,rfl,B4 (by decide +kernel) ?_⟩;exact⟨rfl,s1,c⟩
  .rintro σ' H2⟨rfl,s2,j⟩;exact⟨_,rfl,q acc H2 BD s2 j⟩
 |move x i=>
  obtain⟨h1,h2⟩:=hd;have u:(wo ns x).length<=ns.length:=OH _ _;have ZIQ:=Q5 h1 nd;refine⟨_,rfl,false,a,_,rfl,l,λacc BD=>MD (J1 (.str x)) (λv=>v) l BD (by rw[o];exact small (by omega)) (λi v H' Q' e s1 h=>?_) (λi v H' Q' e _ s1 h=>?_) (λH' s1 c=>?_)⟩
  .obtain⟨y,rfl,B⟩:=LS e;exact⟨_,rfl,_,rfl,t,_,_,_,rfl,rfl,AS.of (s1 _ _ g),rfl,rfl,_,rfl,h H' (AB.refl _)⟩
  .exact⟨_,rfl,h H' (AB.refl _)⟩
  have b:=s1 _ _ g;rw[Ph]at c;refine⟨_,rfl,t,_,_,_,rfl,rfl,AS.of b,rfl,rfl,_,rfl,B4 (by decide +kernel) ?_⟩;refine⟨λσ' H'=>σ'=[some (.ref a),some (.ref t),some (.ref acc),none,none]/\AB H H'/\H' acc=some (.lst ((ins (wo ns x) x i).map V.str)),?_,?_⟩
  .refine⟨_,rfl,t,_,_,_,rfl,rfl,AS.of b,rfl,rfl,_,rfl,WS (by decide +kernel) ?_⟩;refine⟨_,rfl,.inl ⟨rfl,_,Ac.of c⟩,_,rfl,t,_,_,_,rfl,rfl,AS.of b,rfl,_,rfl,t,_,_,_,rfl,rfl,AS.of b,rfl,acc,_,_,_,rfl,rfl,c,by omega,by rw[IC];omega,by rw[IC];exact IK u (IK z (by decide +kernel)),?_⟩;refine⟨rfl,jn s1 BD,?_⟩;rw[AW];unfold ins;simp only[E4,Qx,C8,Qv,Qr]
  .rintro σ' H2⟨rfl,s2,j⟩;exact⟨_,rfl,q acc H2 BD s2 j⟩
 |turn lo hi=>
  obtain⟨h1,h2⟩:=hd;refine⟨_,rfl,false,a,_,rfl,l,λacc BD=>MD (J1 (.int lo)) (λv=>v) l BD (by rw[o];exact small (by omega)) (λi v H' Q' e s1 h=>?_) (λi v H' Q' e _ s1 h=>?_) (λH' s1 c=>?_)⟩
  .obtain⟨y,rfl,B⟩:=LS e;exact⟨_,rfl,_,rfl,t,_,_,_,rfl,rfl,AS.of (s1 _ _ g),rfl,rfl,_,rfl,h H' (AB.refl _)⟩
  .exact⟨_,rfl,h H' (AB.refl _)⟩
  have b:=s1 _ _ g;rw[zN]at c;refine⟨_,rfl,t,_,_,_,rfl,rfl,AS.of b,rfl,rfl,_,rfl,WS (by decide +kernel) ?_⟩;refine⟨_,rfl,_,rfl,t,_,rfl,AS.of b,(λh=>absurd h.1 (show ¬ HT.Ar 3 0 (some 1)=0 by decide)),λp n=>?_⟩;have n1:=BP n (.tup (Cp (Af.turn lo hi).vals (some 1) none));refine⟨p,_,rfl,AS.of AW,rfl,_,_,rfl,_,_,rfl,rfl,?_⟩;have s2:=s1.trans n1;have j:=s2 _ _ r;refine⟨_,rfl,_,rfl,_,rfl,a,_,rfl,Ac.of j,λl3 X=>?_⟩;rw[eJ];have R:=BP X (.lst ((ns.map V.str).take lo));have M:=s2.trans R;refine⟨_,rfl,_,rfl,_,rfl,_,rfl,_,rfl,a,_,rfl,Ac.of (M _ _ r),λl4 W=>?_⟩;rw[qR _ h1 (by rw[o];exact h2)];have I:=BP W (.lst (((ns.map V.str).drop lo).take (hi - lo)));refine⟨l4,false,_,rfl,Ac.of AW,rfl,λl5 U=>?_⟩;have G:=BP U (.lst (((ns.map V.str).drop lo).take (hi - lo)).reverse);refine⟨l3,l5,_,_,rfl,rfl,G _ _ (I _ _ AW),AW,C _ (by simp only[DO,Qu,Ge];omega),λl6 T=>?_⟩;have O:=BP T (.lst ((ns.map V.str).take lo++(((ns.map V.str).drop lo).take (hi - lo)).reverse));have L:=M.trans (I.trans (G.trans O));refine⟨_,rfl,_,rfl,_,rfl,a,_,rfl,Ac.of (L _ _ r),λσ S=>?_⟩;rw[ik];have D:=BP S (.lst ((ns.map V.str).drop hi));refine⟨l6,σ,_,_,rfl,rfl,D _ _ AW,AW,C _ (by simp only[CK,DO,Ge,Qu];omega),λY N=>?_⟩;have J:=L.trans D;refine q Y _ (AB.none J N) (J.trans (BP N _)) ?_;rw[AW];show some (HO.lst _)=some (HO.lst ((Fq ns lo hi).map V.str));unfold Fq;simp only[E4,Qx,Qv,o7,C4]
def wM:Aw ["text"] ["text"] (Ag Tt):=by walk_at "z1"
def tS:=Sc [(".0",.local),("sign",.local)]
def ZDI:FK ["text"] (Ag Tt) tS "sign" [] []:=by walk_at "z2"
def xb(F:AG K "_law_is_name" "_law_is_name" Tt f fd)(m:mg "_law_is_name"=some (.ref f)):
  AI P w K mg ZB "_law_is_name" 1 ["text"] (MR):=by
 refine AI.mk F (F.binds (by walk_at "bD1")) m (F.BO (k:=0) wM (λvs H Q E h=>?_) (λAX A outer s H vs Q E d h=>?_))
 .obtain⟨x,rfl,hx,q⟩:=h;rfl
 obtain⟨x,rfl,hx,q⟩:=h;refine⟨_,(AA rfl (AR (NJ (Mq EG EG A4 (BC Z0 Aj (A0 (qv 0) A3)) A4) (Kw (BC (i3 rfl) Mf (A0 (KL rfl ZDI (gi (qv 0)) (λ_ _ _ _=>by exact hU) (λ_ _ _ _=>by exact(Gn nE (qv 0) AO))) A3)))))),?_⟩;refine⟨_,rfl,_,rfl,small (by omega),_,_,rfl,rfl,_,rfl,?_⟩;refine Ad (λc=>?_) (λc=>⟨_,rfl,Dd ?_⟩)
 .refine⟨_,_,rfl,rfl,_,rfl,?_⟩;refine Ad (λc2=>?_) (λc2=>?_)
  .refine⟨_,rfl,x,rfl,λacc BD=>jF (λ_=>true) bE BD (by rw[<- MU,<- Hs];exact small (by omega)) (λi v H' Q' _ _ h=>h H' (AB.refl _)) (λi v H' Q' b _ _ h=>?_) (λH' s1 a=>?_)⟩
   .obtain⟨g,rfl⟩:=signs_get b;exact⟨_,rfl,_,_,rfl,rfl,h H' (AB.refl _)⟩
   .rw[iF]at a;refine⟨acc,_,rfl,Ac.of a,?_⟩;rw[all_map];have e:isNm x=x.cps.toList.all LI:=by unfold isNm;rw[c,c2];rfl
    rw[<- e];exact q H' s1
  .have e:isNm x=false:=by unfold isNm;rw[Bool.eq_false_iff.mpr c2];simp
   rw[<- e];exact q H (AB.refl _)
 .have e:isNm x=false:=by unfold isNm;rw[Bool.eq_false_iff.mpr c];simp
  rw[<- e];exact q H (AB.refl _)
def ZBG:Aw ["row","deed"] ["row","deed"] (Ag Yu):=by walk_at "z1"
def nK : ∀ss R,VO ss R->ss.length=2:=by rintro _ _⟨ns,d,rfl,_,_,rfl⟩;rfl
def ZGL(F:AG K "_law_deed_right" "_law_deed_right" Yu f fd)(m:mg "_law_deed_right"=some (.ref f)):
  AI P w K mg ZB "_law_deed_right" 2 ["row","deed"] (B7 VO):=by
 refine AI.mk F (F.binds (by walk_at "bD2")) m (F.BO (k:=1) ZBG (λvs H Q E h=>Fz.DJ nK h) (λAX A outer s H vs Q E j h=>?_))
 refine⟨_,(A9 rfl (Ai (AU BU (AE AK (qv 1) A4) AO) (AA rfl (AR (NJ (Mq EG EG A4 (AE AK (qv 1) A4) (BC Bs Aj (A0 (qv 0) A3))) (Kw (Mq EG EG (AE AK (qv 1) A4) (AE AK (qv 1) A4) (BC Bs Aj (A0 (qv 0) A3))))))) Ak)
   (A9 rfl (Ai (AU BU (AE AK (qv 1) A4) AO) (A9 rfl (Ai (Eg (G6 (J0 (AZ N2 j (A0 (AE AK (qv 1) A4) A3)))) (Eg (AU Mi (AE AK (qv 1) A4) (qv 0)) (HI (AU Mj (BC Bs Aj (A0 (qv 0) A3)) A4)))).pt (AA rfl (AR DD)) Ak)
   (AA rfl (AR (Mq EG EG A4 (AE AK (qv 1) A4) (BC Bs Aj (A0 (qv 0) A3)))))) Ak)
   (A9 rfl (Ai (AU LO (AE AK (qv 1) A4) (qv 0)) (AA rfl (AR DD)) Ak)
   (AA rfl (AR (nL (Gn BU (AE AK (qv 1) A4) AO) (Kw (Mq EG FW A4 (AE AK (qv 1) A4) (BC Bs Aj (A0 (qv 0) A3)))))))))),?_⟩
 refine Fz.DK h nK ?_;rintro _ _⟨ns,d,rfl,g,n,rfl⟩;show Ws [_,_] _ _ _;cases d with
 |put x i=>
  unfold aP;dsimp only
  walk_at "ww"
  refine B4 (by decide +kernel) (Ab ?_)
  walk_at "ww"
  refine Bq (by decide +kernel) ?_;refine An (Bu (Hz (Gq (FP (Tp ?_)))))
  walk_at "ww"
  refine⟨g.1.2,_,rfl,?_⟩;refine Ad (λc=>?_) (λc=>?_)
  .refine CB (Cj ?_);rw[Jd];simp only[Ae.B0];have l:isNm x=false:=by cases e:isNm x with
    |false=>rfl
    |true=>rw[e]at c;cases c
   rw[rG l];rfl
  have h1:isNm x=true:=by cases e:isNm x with
   |true=>rfl
   |false=>exact absurd (by rw[e];rfl) c
  walk_at "ww"
  refine Ad (λc2=>?_) (λc2=>?_)
  .refine CB (Cj ?_);rw[Jd];simp only[Ae.B0];rw[qP (by rw[h1];decide),rG (rE c2)];rfl
  have h2:x∉ns:=λz=>c2 (oW z)
  walk_at "ww"
  rw[AL];refine Ad (λb=>?_) (λb=>Ab ?_)
  .refine CB (Cj ?_);rw[ZAD h1 h2 (by have:=rE b;omega)]
  walk_at "ww"
  rw[ZDP h1 h2 (by have:¬ (40:Int)<=ns.length:=λz=>b (oW z);omega),Te];refine Ad (λa=>?_) (λa=>?_)
  .walk_at "ww"
   rw[a,AL];rfl
  .rw[Bool.eq_false_iff.mpr a];rfl
 |take x=>
  unfold aP;dsimp only
  walk_at "ww"
  refine B4 (by decide +kernel) (Ab ?_)
  walk_at "ww"
  refine B4 (by decide +kernel) (Ab ?_)
  walk_at "ww"
  refine Ad (λc=>?_) (λc=>Ab ?_)
  .refine CB (Cj ?_);rw[Jd];simp only[Ae.B0];rw[rG (λz=>by rw[oW z]at c;cases c)];rfl
  have h2:x∈ns:=Jj λz=>c (by rw[sS z];rfl)
  walk_at "ww"
  refine Bq (by decide +kernel) ?_;rw[Jd];simp only[Ae.B0];rw[qP (Decidable.not_not.mpr h2)];rfl
 |move x i=>
  unfold aP;dsimp only
  walk_at "ww"
  refine B4 (by decide +kernel) (Ab ?_)
  walk_at "ww"
  refine B4 (by decide +kernel) (Ab ?_)
  walk_at "ww"
  refine Ad (λc=>?_) (λc=>Ab ?_)
  .refine CB (Cj ?_);rw[Jd];simp only[Ae.B0];rw[rG (λz=>by rw[oW z]at c;cases c)];rfl
  have h2:x∈ns:=Jj λz=>c (by rw[sS z];rfl)
  walk_at "ww"
  refine B4 (by decide +kernel) ?_
  walk_at "ww"
  rw[ZAe h2,Te];refine Ad (λa=>?_) (λa=>?_)
  .walk_at "ww"
   rw[a,AL,bg]
   congr 1
   rw[decide_eq_decide];omega
  .rw[Bool.eq_false_iff.mpr a];rfl
 |turn lo hi=>
  unfold aP;dsimp only
  walk_at "ww"
  refine Bq (by decide +kernel) ?_
  walk_at "ww"
  rw[sP,Te,Te];refine Ad (λc=>?_) (λc=>?_)
  .walk_at "ww"
   rw[AL];refine Ad (λc2=>?_) (λc2=>?_)
   .walk_at "ww"
    refine Ad (λb=>?_) (λb=>?_)
    .walk_at "ww"
     rw[c,c2,b,AL];rfl
    .rw[c,c2,Bool.eq_false_iff.mpr b];rfl
   .rw[c,Bool.eq_false_iff.mpr c2];rfl
  .rw[Bool.eq_false_iff.mpr c];exact⟨_,rfl,Dd rfl⟩
def Uq:Aw ["row","gap","deed"] ["row","gap","deed"] (Ag Yx):=by walk_at "z1"
def ZEl(F:AG K "_law_gap" "_law_gap" Yx f fd)(m:mg "_law_gap"=some (.ref f)):
  AI P w K mg ZB "_law_gap" 1 ["row","gap","deed"] (fb):=by
 refine AI.mk F (F.binds (by walk_at "bD3")) m (F.BO (k:=0) Uq (λvs H Q E h=>?_) (λAX A outer s H vs Q E r h=>?_))
 .obtain⟨a,t,ns,g,d,rfl,l,b,ok,q⟩:=h;rfl
 obtain⟨a,t,ns,g,d,rfl,l,b,ok,q⟩:=h;refine⟨_,(A9 rfl (D1 (Ai (AU Mi (AE AK (qv 2) A4) (BF (A0 AO (A0 AO A3)))) (AA rfl (Ax 1 Uq.nd (Au Nh (qv 1) (Cg S6 Ht (A0 (Gn FW (KP OM Uk cH TB (qv 0) (A0 (AE AK (qv 2) A4) A3)) (qv 1)) A3))))) Ak))
   (A9 rfl (D1 (Ai (AU Mi (AE AK (qv 2) A4) (BF (A0 AO (A0 AO A3)))) (AA rfl (Ax 1 Uq.nd (Au DL (qv 1) (Cg S6 Ht (A0 (Gn FW (AE AK (qv 2) A4) (qv 1)) A3))))) Ak))
   (AA rfl (AR (qv 1))))),?_⟩
 refine⟨λσ' H'=>σ'=[some (.ref a),some (.int (d.Po ns g:Nat)),some (.ref t)]/\AB H H',?_,?_⟩
 .refine⟨_,rfl,t,_,_,_,rfl,rfl,AS.of b,Rz d,(by show 2<=sizeLine;decide),λp Zt=>?_⟩;have n1:=BP Zt (.tup [.str "take",.str "move"]);refine⟨p,_,rfl,.inr (AS.of AW),rfl,rfl,_,rfl,?_⟩;show if GI (.str d.kind) [.str "take",.str "move"]=true then _ else _
  refine Ad (λc=>?_) (λc=>?_)
  .obtain⟨x,K4,Fs,e⟩:=ZEn g ok c;refine⟨_,rfl,_,rfl,.inl ⟨rfl,_,Ac.of (n1 _ _ l)⟩,_,rfl,t,_,_,_,rfl,rfl,AS.of (n1 _ _ b),K4,a,ns,x,rfl,rfl,Ac.of (n1 _ _ l),Fs,_,rfl,_,_,rfl,rfl,.inr ⟨_,rfl,_,_,rfl,rfl,?_,n1⟩⟩;rw[e,<- ZFf];rfl
  .refine⟨?_,n1⟩;rw[sN g c];rfl
 rintro σ' H1⟨rfl,s1⟩;have n:=s1 _ _ b;refine⟨λσ' H'=>σ'=[some (.ref a),some (.int (d.gap ns g:Nat)),some (.ref t)]/\AB H H',?_,?_⟩
 .refine⟨_,rfl,t,_,_,_,rfl,rfl,AS.of n,Rz d,(by show 2<=sizeLine;decide),λo RV=>?_⟩;have n2:=BP RV (.tup [.str "put",.str "move"]);refine⟨o,_,rfl,.inr (AS.of AW),rfl,rfl,_,rfl,?_⟩;show if GI (.str d.kind) [.str "put",.str "move"]=true then _ else _
  refine Ad (λc=>?_) (λc=>?_)
  .obtain⟨i,j,Hn⟩:=yG (ns:=ns) g c;refine⟨_,rfl,_,rfl,t,_,_,_,rfl,rfl,AS.of (n2 _ _ n),j,_,rfl,_,_,rfl,rfl,.inr ⟨_,rfl,_,_,rfl,rfl,?_,s1.trans n2⟩⟩;rw[Hn,<- tI];rfl
  .refine⟨?_,s1.trans n2⟩;rw[ZCP g c]
 rintro σ' H2⟨rfl,s2⟩;exact⟨_,rfl,q _ s2⟩
def Ny:Aw ["row","loop","deed","rule","gap","coming"] ["row","loop","deed"] (Ag TH):=by walk_at "z1"
def pX:=Sc [(".0",.local),("name",.local),("deed",.free)]
def ZDa:FK ["row","loop","deed","rule","gap","coming"] (Ag TH) pX "name" ["deed"] [2]:=by walk_at "z2"
def xS(F:AG K "_law_led" "_law_led" TH f fd)(m:mg "_law_led"=some (.ref f)):
  AI P w K mg ZB "_law_led" 2 ["row","loop","deed"] (VU):=by
 refine AI.mk F (F.binds (by walk_at "bD3")) m (F.BO (k:=1) Ny (λvs H Q E h=>?_) (λAX A outer s H vs Q E hr h=>?_))
 .obtain⟨a,tl,t,c,ns,r,g,ss,d,rfl,hS,⟨hL,J⟩,e,ok,p,hz,q⟩:=h;rfl
 obtain⟨a,tl,t,c,ns,r,g,ss,d,rfl,hS,⟨hL,J⟩,e,ok,p,hz,q⟩:=h;refine⟨_,(A9 rfl (LJ (qv 1) (Mw rfl (ES (D6 3 Ny.nd) (ES (D6 4 Ny.nd) (ES (D6 5 Ny.nd) NV)))))
   (A9 rfl (D1 (Ai (AU BU (AE AK (qv 2) A4) AO) (AA rfl (Ax 5 Ny.nd (Cg JE Co (A0 (KL rfl ZDa (Im (qv 5)) (λ_ _ _ _=>by exact(Ly (AU LF (qv 1) (AE (show Ib _ (NF K)from AK) (qv 0) A4)))) (λ_ _ _ _=>by exact(qv 1))) A3)))) Ak))
   (A9 rfl (D1 (Ai (HS (AU BU (AE AK (qv 2) A4) AO) (Gg (Eg (AU BU (qv 3) AO) (HI (HS (AU BU (qv 3) AO) (Gg (AU Mj (AE AK (qv 2) A4) (qv 4)))).pt)).pt)).pt (AA rfl (Ax 5 Ny.nd (Cg JE Co (A0 (BC Rb Et (A0 (Au cN (qv 5) (BF (A0 (AE AK (qv 2) A4) A3))) A3)) A3)))) Ak))
   (AA rfl (AR (BF (A0 (qv 3) (A0 (AZ Vf hr (A0 (qv 0) (A0 (qv 4) (A0 (qv 2) A3)))) (A0 (qv 5) A3))))))))),?_⟩
 have hlen:=p.len;refine⟨_,rfl,tl,_,rfl,AS.of hL,rfl,_,_,rfl,_,_,rfl,_,_,rfl,rfl,?_⟩;refine⟨λσ' H'=>∃b:Addr,σ'=[some (.ref a),some (.ref tl),some (.ref t),some (.str r),some (.int g),some (.ref b)]/\AB H H'/\(H b=none∨b=c)/\H' b=some (.tup ((d.U8 ss).map V.str)),?_,?_⟩
 .refine⟨_,rfl,t,_,_,_,rfl,rfl,AS.of e,Rz d,rfl,_,rfl,?_⟩;refine Ad (λj=>?_) (λj=>⟨c,rfl,AB.refl _,.inr rfl,by rw[qc j];exact J⟩);obtain⟨x,K4,Fs⟩:=xq (r:=r) (g:=g) (ss:=ss) j;have Y:Es K true H c (ss.map V.str):=AS.of J;refine⟨_,rfl,true,c,_,rfl,Y,λacc BD=>MD (J1 (.str x)) (λv=>v) Y BD (by rw[IC];exact small (by omega)) (λi v H' Q' σ s4 h=>?_) (λi v H' Q' σ _ s4 h=>?_) (λH4 s4 e4=>?_)⟩
  .obtain⟨y,rfl,_⟩:=LS σ;exact⟨_,rfl,_,rfl,t,_,_,_,rfl,rfl,AS.of (s4 _ _ e),K4,rfl,_,rfl,h _ (AB.refl _)⟩
  .exact⟨_,rfl,h _ (AB.refl _)⟩
  rw[Ph,<- Fs]at e4;exact⟨acc,_,rfl,.inl ⟨Ac.of e4,λt5 cn=>⟨t5,rfl,s4.trans (BP cn _),.inl (AB.none s4 cn),AW⟩⟩⟩
 rintro σ' H1⟨c1,rfl,s1,L,o⟩;refine⟨λσ' H'=>∃b:Addr,σ'=[some (.ref a),some (.ref tl),some (.ref t),some (.str r),some (.int g),some (.ref b)]/\AB H H'/\(H b=none∨b=c)/\H' b=some (.tup ((d.Gv r g ss).map V.str)),?_,?_⟩
 .refine⟨_,rfl,t,_,_,_,rfl,rfl,AS.of (s1 _ _ e),Rz d,rfl,_,rfl,?_⟩;refine Ad (λR=>?_) (λR=>Dd ⟨c1,rfl,s1,L,by rw[xF R];exact o⟩);obtain⟨x,i,rfl⟩:=ZCM R;replace o:H1 c1=some (.tup (ss.map V.str)):=o;refine⟨_,rfl,rfl,_,rfl,?_⟩;refine Ad (λj=>?_) (λj=>?_)
  .have n:Ek r g i=true:=by unfold Ek;rw[rG j]
   refine Np ?_;refine⟨_,rfl,_,rfl,t,_,_,_,rfl,rfl,AS.of (s1 _ _ e),rfl,(by show 1<=sizeLine;decide),λC ZI=>?_⟩;have l:=BP ZI (.tup [.str x]);refine⟨c1,C,_,_,rfl,rfl,AS.of (l _ _ o),AS.of AW,by simp,small (by rw[IC];simp;omega),λz H7 u M=>?_⟩;have T:AS K H7 z ((ss++[x]).map V.str):=by rw[E4];exact M
   refine⟨z,true,ss++[x],rfl,T,by rw[CK];simp;omega,λD ts V3 I G=>?_⟩;have B:=BP V3 (.lst (ts.map V.str));refine⟨D,_,rfl,.inl ⟨Ac.of AW,λS PR=>?_⟩⟩;exact⟨S,rfl,s1.trans (l.trans (u.trans (B.trans (BP PR _)))),.inl (AB.none (s1.trans (l.trans (u.trans B))) PR),by rw[AW,ZN I G p.up (Zc p ok x i rfl),V0 n]⟩
  .refine⟨_,rfl,rfl,_,rfl,?_⟩;refine Ad (λO=>?_) (λO=>?_)
   .refine⟨_,rfl,t,_,_,_,rfl,rfl,AS.of (s1 _ _ e),rfl,_,rfl,_,_,rfl,rfl,_,rfl,?_⟩;have Md:Ek r g i=decide ((g:Int)<=(i:Int)):=by unfold Ek;rw[qP j,rG O]
    refine Ad (λN=>?_) (λN=>?_)
    .have n:Ek r g i=true:=Md.trans N;refine⟨_,rfl,_,rfl,t,_,_,_,rfl,rfl,AS.of (s1 _ _ e),rfl,(by show 1<=sizeLine;decide),λC ZI=>?_⟩;have l:=BP ZI (.tup [.str x]);refine⟨c1,C,_,_,rfl,rfl,AS.of (l _ _ o),AS.of AW,by simp,small (by rw[IC];simp;omega),λz H7 u M=>?_⟩;have T:AS K H7 z ((ss++[x]).map V.str):=by rw[E4];exact M
     refine⟨z,true,ss++[x],rfl,T,by rw[CK];simp;omega,λD ts V3 I G=>?_⟩;have B:=BP V3 (.lst (ts.map V.str));refine⟨D,_,rfl,.inl ⟨Ac.of AW,λS PR=>?_⟩⟩;exact⟨S,rfl,s1.trans (l.trans (u.trans (B.trans (BP PR _)))),.inl (AB.none (s1.trans (l.trans (u.trans B))) PR),by rw[AW,ZN I G p.up (Zc p ok x i rfl),V0 n]⟩
    .have n:Ek r g i=false:=Md.trans (Bool.eq_false_iff.mpr N);exact⟨c1,rfl,s1,L,by rw[aA n];exact o⟩
   .have n:Ek r g i=false:=by unfold Ek;rw[qP j,qP O]
    exact Dd ⟨c1,rfl,s1,L,by rw[aA n];exact o⟩
 rintro σ' H2⟨c2,rfl,s2,f2,e2⟩;refine⟨_,rfl,_,rfl,_,rfl,_,rfl,a,t,ns,g,d,rfl,s2 _ _ hS,s2 _ _ e,ok,λH3 U=>?_⟩;refine⟨_,rfl,(by show 3<=sizeLine;decide),λt4 X=>?_⟩;have k3:=s2.trans U;have W:=BP X (.tup [.str r,.int (d.gap ns g:Nat),.ref c2]);exact q t4 c2 _ (AB.none k3 X) f2 (k3.trans W) ⟨AW,W _ _ (U _ _ e2)⟩
def rY:Aw ["state","name","place"] ["state","name","place"] (Ag aB):=by walk_at "z1"
def kF : ∀ss R,P4 ss R->ss.length=3:=by rintro _ _⟨s,a,t,x,k,rfl,_,_,_,_,rfl⟩;rfl
def qy(F:AG K "_law_counted" "_law_counted" aB f fd)(m:mg "_law_counted"=some (.ref f)):
  AI P w K mg ZB "_law_counted" 1 ["state","name","place"] (C2 P4):=by
 refine AI.mk F (F.binds (by walk_at "bD3")) m (F.BO (k:=0) rY (λvs H Q E h=>Fz.Gw kF h) (λAX A outer s H vs Q E c h=>?_))
 refine⟨_,(AA rfl (LJ (Au DL (AE EX (Bw (BH c) (Bw (BH c) (qv 0) AO (λ_ _=>rfl)) (qv 1) (λ_ _=>rfl)) (qv 2)) A4) (bb (Bw (BH c) (Bw (BH c) (qv 0) AO (λ_ _=>rfl)) (qv 1) (λ_ _=>rfl)) (qv 2) set_list))),?_⟩;refine Fz.UN h kF ?_;rintro _ _⟨s,a,t,x,k,rfl,n,hx,p,l,rfl⟩;obtain⟨aL,aS,us,BJ,rfl⟩:=n;show Ws [_,_,_] _ _ _;obtain⟨q,g⟩:∃q,s.sq[s.sn.idxOf x]?=some q:=⟨_,BG (by have:=List.idxOf_lt_length_iff.mpr hx;omega)⟩;obtain⟨u,d,b,rfl⟩:=BJ.get g;obtain⟨v,j,hw⟩:∃v:Int,(GO q)[k]?=some (.int v)/\(GO q).set k (.int (v+1))=GO (XH k q):=by
  rcases l with rfl|rfl|rfl
  .exact⟨_,rfl,rfl⟩
  .exact⟨_,rfl,rfl⟩
  .exact⟨_,rfl,rfl⟩
 have e:k<(GO q).length:=by show k<4;omega
 refine u3 (i:=0) (t:=Bf s a aL aS us) (Yl (D9 (QN (G7 (Tv rfl ⟨Ah s.sn,aS,us,rfl,AD rfl ⟨.inr x,s.sn.idxOf x,_,rfl,Fj hx,d,b,_,rfl,AD rfl ⟨_,k,.fz (.int v),rfl,?_,?_,_,rfl,?_⟩⟩⟩)))))
 .rw[AL];exact cz e
 .rw[Bc,j];rfl
 refine⟨_,rfl,Br ⟨_,rfl,G7 (Tv rfl ⟨Ah s.sn,aS,us,rfl,AD rfl ⟨.inr x,s.sn.idxOf x,_,rfl,Fj hx,d,true,b,GO q,rfl,rfl,AD rfl ⟨k,rfl,e,?_⟩⟩⟩)⟩⟩;unfold Bf;rw[show(([]++[2])++[s.sn.idxOf x]:List Nat)=[2,s.sn.idxOf x]from rfl,SG d,hw];exact⟨_,_,_,_,rfl,rfl,rfl,aL,aS,_,BJ.set λo h'=>by rw[g]at h';cases h';exact⟨b,rfl⟩,rfl⟩
def UP:Aw ["state","deed","name","loop","later"] ["state","deed"] (Ag bU):=by walk_at "z1"
def ko : ∀ss R,Sa ss R->ss.length=2:=by rintro _ _⟨s,a,t,d,rfl,_,_,_,_,rfl⟩;rfl
def ZEU(F:AG K "_law_stirred" "_law_stirred" bU f fd)(m:mg "_law_stirred"=some (.ref f)):
  AI P w K mg ZB "_law_stirred" 4 ["state","deed"] (C2 Sa):=by
 refine AI.mk F (F.binds (by walk_at "bD2")) m (F.BO (k:=3) UP (λvs H Q E h=>Fz.Gw ko h) (λAX A outer s H vs Q E b h=>?_))
 refine⟨_,(A9 rfl (Ai (G6 (J0 (AZ Uv b (A0 (Bw (BH b) (qv 0) AO (λ_ _=>rfl)) (A0 (qv 1) A3))))) (AA rfl (AR DD)) Ak)
   (A9 rfl (D1 (Kn LA rfl (Im (Cg (Qf rfl) By (A0 (Bw (BH b) (qv 0) AO (λ_ _=>rfl)) A3))) (D6 2 UP.nd) (A9 rfl (Ax 3 UP.nd (Bw (BH b) (Bw (BH b) (qv 0) AO (λ_ _=>rfl)) (qv 2) (λ_ _=>rfl)))
   (A9 rfl (Ax 4 UP.nd (AZ bQ b (A0 (Bw (BH b) (qv 0) AO (λ_ _=>rfl)) (A0 (qv 3) (A0 (qv 1) A3)))))
   (A9 rfl (D1 (Ai (AU LW (BC Bs Aj (A0 (AE AK (qv 4) A4) A3)) (BC Bs Aj (A0 (AE AK (qv 3) A4) A3))) (AA rfl (EL (AZ Le b (A0 (qv 0) (A0 (qv 2) (A0 A4 A3)))))) Ak))
   (A9 rfl (D1 (Ai (AU FW (BC Bs Aj (A0 (AE AK (qv 4) A4) A3)) (BC Bs Aj (A0 (AE AK (qv 3) A4) A3))) (AA rfl (EL (AZ Le b (A0 (qv 0) (A0 (qv 2) (A0 A4 A3)))))) Ak))
   (AA rfl (Ja (BH b) (Bw (BH b) (qv 0) AO (λ_ _=>rfl)) (qv 2) (qv 4)))))))))
   (A9 rfl (Ja (BH b) (qv 0) AO (AZ aw b (A0 (Bw (BH b) (qv 0) AO (λ_ _=>rfl)) (A0 (qv 1) A3))))
   (AA rfl (AR DD))))),?_⟩
 refine Fz.Jp h ko ?_;rintro _ _⟨s,a,t,d,rfl,I,ok,D,hn,rfl⟩;obtain⟨aL,aS,us,BJ,rfl⟩:=I;show Ws [_,_,.any,.any,.any] _ _ _;have l1:=ok.l1;have l2:=ok.l2;have N:=Ig ok.n1 ok.sub;have C:=ok.row.len;refine An (Bu (Gq (FP (wp_call (As (D9 (NQ rfl ⟨_,rfl,As (AD rfl (BY ⟨_,⟨s.row,d,rfl,D,C,rfl⟩,?_⟩))⟩)))))));rintro _ rfl;refine⟨_,rfl,?_⟩;cases u:Fe s.row d with
 |none=>exact Bq rfl (Dv (i:=0) rfl (Cj (.inr ⟨by unfold Gk;rw[u],rfl,aL,aS,us,BJ,rfl⟩)))
 |some d'=>
  refine B4 (λz=>by cases z) (Ab ?_);have v:=Uw u;rw[v.1];refine An (Ff (Ld (λ_ i AN=>∃(s2 e s4:Slot)(t':OV),AN=[.ow true t',.is (dP d'),s2,e,s4]/\DZ (EO s d' i) a t') (Ot (Ks (EH (i7 (Pj rfl ⟨Ah s.ln,aL,_,rfl,by unfold Ah;rw[AL];omega,_,.inl ⟨rfl,?_⟩⟩)))))));rw[Pz];refine⟨⟨_,_,_,_,rfl,aL,aS,us,BJ,rfl⟩,?_,?_⟩
  .rintro i p AN B⟨s2,e,s4,t',rfl,aL,aS,us,BJ,rfl⟩;rw[Bc]at B;obtain⟨x,hx,rfl⟩:=Option.map_eq_some_iff.mp B;refine Q4 ?_;have hi:i<s.ln.length:=(List.getElem?_eq_some_iff.mp hx).1;obtain⟨l,o⟩:∃l,s.ll[i]?=some l:=⟨_,BG (by omega)⟩;have n:x∈s.ln:=EI hx;have xs:x∈s.sn:=ok.sub x n;have y:s.ln.idxOf x=i:=ND ok.n1 hx;have J:=ok.good l (EI o);have ll:=Jg s d' i;have M:=Ov s d' i;show Ws [.ow true (Bf (EO s d' i) a aL aS us),.is (dP d'),.is (.str x),e,s4] _ _ _;refine An (JY (D9 (G7 (Pj rfl ⟨Ah s.ln,aL,_,rfl,AD rfl ⟨.inr x,i,.fz l.P,rfl,by rw[Fj n,y],Mh (ay o),_,rfl,?_⟩⟩))));refine An (JY (ZDp (Ba (D9 (NQ rfl ⟨_,rfl,_,.inl ⟨rfl,rfl,s.row,rfl,AD rfl ⟨l.r,l.g,l.cs,rfl,AD rfl ⟨d',rfl,v.2,J,C,?_⟩⟩⟩⟩)))));have c:∀t',DZ ⟨s.row,s.ln,CN s d' i,s.sn,Cf s d' (i+1)⟩ a t'->Ws [.ow true t',.is (dP d'),.is (.str x),.is l.P,.is (l.led s.row d').P] (Sh (KD (BS 0) (tC (V.str "live"))) (BS 2) (BS 4)) (λAN=>∃(s2 e s4:Slot)(t':OV),AN=[.ow true t',.is (dP d'),s2,e,s4]/\DZ (EO s d' (i+1)) a t') (.mt (Dt (λs t=>DZ s a t) s (Gk s d))):=by
    rintro _⟨aL,aS,us,BJ,rfl⟩;refine JD (i:=0) (t:=Bf ⟨s.row,s.ln,CN s d' i,s.sn,Cf s d' (i+1)⟩ a aL aS us) (E2 (AD rfl (Pj rfl ⟨true,aL,Ah s.ln,_,rfl,rfl,by unfold CH;rw[AL];show(CN s d' i).length<=99999;omega,J3 ok.n1,BB,AD rfl ⟨.inr x,rfl,?_⟩⟩)));rw[RM n,SI n,y,TV,af o];unfold Bf;rw[show([]++[1]:List Nat)=[1]from rfl,Ko];exact⟨_,_,_,_,rfl,aL,aS,us,BJ,rfl⟩
   rw[mH hx o]at c;show Ws [.ow true (Bf (EO s d' i) a aL aS us),.is (dP d'),.is (.str x),.is l.P,.is (l.led s.row d').P] _ _ _;have j:∀k:Nat,(k=1∨k=2∨k=3)->∀(nx:List Slot->Prop)R,(∀t',DZ ⟨s.row,s.ln,CN s d' i,s.sn,(Cf s d' i).modify (s.sn.idxOf x) (XH k)⟩ a t'->nx [.ow true t',.is (dP d'),.is (.str x),.is l.P,.is (l.led s.row d').P])->Ws [.ow true (Bf (EO s d' i) a aL aS us),.is (dP d'),.is (.str x),.is l.P,.is (l.led s.row d').P] (Kt (Dg (C2 P4) [] E0 (Al (BS 0) (Al (BS 2) (Al (tC (V.int k)) BR))))) nx R:=λk G nx R q=>by
    refine Vc (i:=0) (Ox rfl (Q3 rfl (Dw (AD rfl (Dw (Br (GJ ⟨_,⟨EO s d' i,a,_,x,k,rfl,⟨aL,aS,us,BJ,rfl⟩,xs,by show s.sn.length=(Cf s d' i).length;omega,G,rfl⟩,?_⟩)))))));rintro _ L⟨rfl,CV⟩;obtain⟨nk,Fl,rfl⟩:=CV.nd;exact⟨nk,Fl,rfl,q _ CV⟩
   have O:(d'.Gv l.r l.g l.cs)=(l.led s.row d').cs:=rfl;rcases cB l.cs.length (l.led s.row d').cs.length with h|h|h
   .refine An (Ff (Bu (CM (Fu (D7 (Ba (FO (GL (i:=4) rfl ⟨rfl,Br ⟨_,_,rfl,rfl,_,.inr ⟨rfl,_,rfl,D7 (Ba (FO (GL (i:=3) rfl ⟨rfl,Br ⟨_,_,rfl,rfl,_,.inr ⟨rfl,_,rfl,_,rfl,?_⟩⟩⟩)))⟩⟩⟩))))))));rw[AL,AL];refine Bq (oW (by omega)) (j 1 (.inl rfl) _ _ λt' HC=>?_);refine An (Ff (Bu (CM (Fu (D7 (Ba (FO (GL (i:=4) rfl ⟨rfl,Br ⟨_,_,rfl,rfl,_,.inr ⟨rfl,_,rfl,D7 (Ba (FO (GL (i:=3) rfl ⟨rfl,Br ⟨_,_,rfl,rfl,_,.inr ⟨rfl,_,rfl,_,rfl,?_⟩⟩⟩)))⟩⟩⟩))))))));rw[AL,AL];refine B4 (λz=>by have:=rE z;omega) (Ab (c t' ?_));unfold Sm.by
    rw[rG h];exact HC
   .refine An (Ff (Bu (CM (Fu (D7 (Ba (FO (GL (i:=4) rfl ⟨rfl,Br ⟨_,_,rfl,rfl,_,.inr ⟨rfl,_,rfl,D7 (Ba (FO (GL (i:=3) rfl ⟨rfl,Br ⟨_,_,rfl,rfl,_,.inr ⟨rfl,_,rfl,_,rfl,?_⟩⟩⟩)))⟩⟩⟩))))))));rw[AL,AL];refine B4 (λz=>by have:=rE z;omega) (Ab ?_);refine An (Ff (Bu (CM (Fu (D7 (Ba (FO (GL (i:=4) rfl ⟨rfl,Br ⟨_,_,rfl,rfl,_,.inr ⟨rfl,_,rfl,D7 (Ba (FO (GL (i:=3) rfl ⟨rfl,Br ⟨_,_,rfl,rfl,_,.inr ⟨rfl,_,rfl,_,rfl,?_⟩⟩⟩)))⟩⟩⟩))))))));rw[AL,AL];refine B4 (λz=>by have:=rE z;omega) (Ab (c _ ?_));unfold Sm.by
    rw[qP (by omega),qP (by omega),gq];exact⟨aL,aS,us,BJ,rfl⟩
   .refine An (Ff (Bu (CM (Fu (D7 (Ba (FO (GL (i:=4) rfl ⟨rfl,Br ⟨_,_,rfl,rfl,_,.inr ⟨rfl,_,rfl,D7 (Ba (FO (GL (i:=3) rfl ⟨rfl,Br ⟨_,_,rfl,rfl,_,.inr ⟨rfl,_,rfl,_,rfl,?_⟩⟩⟩)))⟩⟩⟩))))))));rw[AL,AL];refine B4 (λz=>by have:=rE z;omega) (Ab ?_);refine An (Ff (Bu (CM (Fu (D7 (Ba (FO (GL (i:=4) rfl ⟨rfl,Br ⟨_,_,rfl,rfl,_,.inr ⟨rfl,_,rfl,D7 (Ba (FO (GL (i:=3) rfl ⟨rfl,Br ⟨_,_,rfl,rfl,_,.inr ⟨rfl,_,rfl,_,rfl,?_⟩⟩⟩)))⟩⟩⟩))))))));rw[AL,AL];refine Bq (oW (by omega)) (j 3 (.inr (.inr rfl)) _ _ λt' HC=>c t' ?_);unfold Sm.by
    rw[qP (by omega),rG h];exact HC
  .rintro AN⟨s2,e,s4,t',rfl,HC⟩;rw[AL]at HC;obtain⟨LY,LC,us',Hw,rfl⟩:=HC;refine An (JD (i:=0) (t:=Bf (EO s d' s.ln.length) a LY LC us') (E2 (EH (fQ (Ba (D9 (NQ rfl ⟨_,rfl,_,.inl ⟨rfl,rfl,s.row,rfl,AD rfl ⟨d',rfl,v.2,by omega,ok.row.nd,?_⟩⟩⟩)))))));refine DG rfl ⟨true,a,k3,_,rfl,rfl,by show 3<=99999;decide,by decide +kernel,BB,DX ⟨.inr "row", rfl,?_⟩⟩;rw[OV.Fb];refine Dv (i:=0) rfl (Cj (.inl ⟨⟨d'.done s.row,s.ln,s.ll.map (Lp.led s.row d'),s.sn,Cf s d' s.ln.length⟩,?_,rfl,LY,LC,us',Hw,?_⟩))
   .unfold Gk;rw[u]
   .rw[<- gH,<- l1,yF,ZC7];rfl
def uC:Aw ["row","rule"] ["row","rule"] (Ag Z4):=by walk_at "z1"
def fj : ∀ss R,Vt ss R->ss.length=2:=by rintro _ _⟨ns,r,rfl,a,rfl⟩;rfl
def ZFB(F:AG K "_law_begun" "_law_begun" Z4 f fd)(m:mg "_law_begun"=some (.ref f)):
  AI P w K mg ZB "_law_begun" 1 ["row","rule"] (B7 Vt):=by
 refine AI.mk F (F.binds (by walk_at "bD2")) m (F.BO (k:=0) uC (λvs H Q E h=>Fz.DJ fj h) (λAX A outer s H vs Q E c h=>?_))
 refine⟨_,(AA rfl (AR (BF (A0 (qv 1) (A0 A4 (A0 (Cg JE Co (A0 (BC Rb Et (A0 (qv 0) A3)) A3)) A3)))))),?_⟩;refine Fz.DK h fj ?_;rintro _ _⟨ns,r,rfl,b,rfl⟩;show Ws [_,_] _ _ _
 walk_at "ww"
 refine⟨b,λts a st=>?_⟩
 walk_at "ww"
 exact⟨by simp,ts,a,st,rfl⟩
def ZD8:Aw ["state","name","rule"] ["state","name","rule"] (Ag WB):=by walk_at "z1"
def lu : ∀ss R,Yd ss R->ss.length=3:=by rintro _ _⟨s,a,t,x,r,rfl,_,_,_,_,_,rfl⟩;rfl
def zm(F:AG K "_law_begins" "_law_begins" WB f fd)(m:mg "_law_begins"=some (.ref f)):
  AI P w K mg ZB "_law_begins" 3 ["state","name","rule"] (C2 Yd):=by
 refine AI.mk F (F.binds (by walk_at "bD3")) m (F.BO (k:=2) ZD8 (λvs H Q E h=>Fz.Gw lu h) (λAX A outer s H vs Q E d h=>?_))
 refine⟨_,(A9 rfl (Ai (Eg (G6 (J0 (AZ N2 d (A0 (qv 1) A3)))) (Eg (lX (BH d) (qv 1) (Bw (BH d) (qv 0) AO (λ_ _=>rfl))) (HI (AU LO (qv 2) (BF (A0 AO (A0 AO (A0 AO A3)))))))).pt (AA rfl (AR DD)) Ak)
   (A9 rfl (Ja (BH d) (Bw (BH d) (qv 0) AO (λ_ _=>rfl)) (qv 1) (AZ Vr d (A0 (Bw (BH d) (qv 0) AO (λ_ _=>rfl)) (A0 (qv 2) A3))))
   (A9 rfl (Ja (BH d) (Bw (BH d) (qv 0) AO (λ_ _=>rfl)) (qv 1) (Fg (A0 (BC Bs Aj (A0 (Bw (BH d) (qv 0) AO (λ_ _=>rfl)) A3)) (A0 A4 (A0 A4 (A0 A4 A3))))))
   (AA rfl (AR DD))))),?_⟩
 refine Fz.Jp h lu ?_;rintro _ _⟨s,a,t,x,r,rfl,p,ok,hx,d,hn,rfl⟩;obtain⟨aL,aS,us,BJ,rfl⟩:=p;show Ws [_,_,_] _ _ _;have j:∀nx:List Slot->Prop,¬ (isNm x=true/\x∉s.sn/\IT r=true)->Ws [.ow true (Bf s a aL aS us),.is (.str x),.is (.str r)] (Gf (tC (V.bl false))) nx (.mt (Dt (λs t=>DZ s a t) s (GX s x r))):=λnx h=>Dv (i:=0) rfl (Cj (.inr ⟨by unfold GX;rw[qP h],rfl,aL,aS,us,BJ,rfl⟩));refine An (Bu (Hz (Gq (FP (Tp (AD rfl ⟨x,rfl,hx.2,_,rfl,?_⟩))))));refine Ad (λc=>j _ λz=>by rw[z.1]at c;cases c) (λc=>?_);refine Hz (FP (dF (AD rfl (Tv rfl ⟨Ah s.sn,aS,us,.inr x,rfl,rfl,_,rfl,?_⟩))));rw[Kj];refine Ad (λc2=>j _ λz=>z.2.1 (rE c2)) (λc2=>?_)
 walk_at "ww"
 refine⟨by decide,_,.inr ⟨rfl,["none","ahead","all"],rfl,_,rfl,?_⟩⟩;refine Ad (λg=>j _ λz=>?_) (λg=>Ab ?_)
 .have l:decide (r∈([("none":Str), "ahead","all"]))=true:=z.2.2;rw[l]at g;cases g
 have h1:isNm x=true:=by cases e:isNm x with
  |true=>rfl
  |false=>exact absurd (by rw[e];rfl) c
 have h2:x∉s.sn:=λz=>c2 (oW z);have l:IT r=true:=by
  show decide (r∈([("none":Str), "ahead","all"]))=true;cases e:decide (r∈([("none":Str), "ahead","all"]))with
  |true=>rfl
  |false=>exact absurd (by rw[e];rfl) g
 have n:x∉s.ln:=λz=>h2 (ok.sub x z);have l1:=ok.l1;have l2:=ok.l2;have u:=Ig ok.n1 ok.sub;refine An (JD (i:=0) (t:=Bf s a aL aS us) (E2 (wp_call (Dh (Ba (D9 (NQ rfl ⟨_,rfl,_,.inl ⟨rfl,As (AD rfl (BY ⟨_,⟨s.row,r,rfl,by have:=ok.row.len;omega,rfl⟩,?_⟩))⟩⟩)))))));rintro _⟨ts,o,st,rfl⟩;rw[kg ok.row.nd o st];refine(Pj rfl ⟨true,aL,Ah s.ln,_,rfl,rfl,by unfold CH;rw[AL];omega,J3 ok.n1,BB,AD rfl ⟨.inr x,rfl,?_⟩⟩);rw[Pu n,UH n];unfold Bf;rw[show([]++[1]:List Nat)=[1]from rfl,Ko];have q:CH s.ll++[.fz (Eh r 0 (GZ s.row))]=CH (s.ll++[⟨r,0,GZ s.row⟩]):=by unfold CH;rw[E4];rfl
 rw[q];show Ws [.ow true (Bf ⟨s.row,s.ln++[x],s.ll++[⟨r,0,GZ s.row⟩],s.sn,s.sq⟩ a aL aS us),.is (.str x),.is (.str r)] _ _ _;refine An (JD (i:=0) (t:=Bf ⟨s.row,s.ln++[x],s.ll++[⟨r,0,GZ s.row⟩],s.sn,s.sq⟩ a aL aS us) (uf (Lv (E2 (D7 (Ba (D9 (NQ rfl ⟨_,rfl,_,.inl ⟨rfl,Lv (E2 (Br (Lv (E2 (Br (Lv (E2 (Br (lV ⟨by simp,by simp,by simp,by simp,by show 4<=100000;decide,λb=>?_⟩)))))))))⟩⟩))))))));refine(Tv rfl ⟨true,aS,Ah s.sn,us,rfl,rfl,by rw[BJ.1];omega,J3 ok.n2,BB,AD rfl ⟨.inr x,rfl,?_⟩⟩);rw[Pu h2,UH h2,AL];unfold Bf;rw[show([]++[2]:List Nat)=[2]from rfl,put2];exact Dv (i:=0) rfl (Cj (.inl ⟨_,by unfold GX;rw[rG ⟨h1,h2,l⟩],rfl,aL,aS,_,BJ.snoc ⟨b,rfl⟩,rfl⟩))
def OB:Aw ["state","entry","live","rule","gap","coming","left"] ["state","entry"] (Ag Sf):=by walk_at "z1"
def ZEx:=Sc [(".0",.local),("name",.local),("entry",.free)]
def zd:FK ["state","entry","live","rule","gap","coming","left"] (Ag Sf) ZEx "name" ["entry"] [1]:=by walk_at "z2"
def gJ : ∀ss R,b8 ss R->ss.length=2:=by rintro _ _⟨s,a,t,e,rfl,_,_,_,_,rfl⟩;rfl
def wU(F:AG K "_law_goes" "_law_goes" Sf f fd)(m:mg "_law_goes"=some (.ref f)):
  AI P w K mg ZB "_law_goes" 5 ["state","entry"] (C2 b8):=by
 refine AI.mk F (F.binds (by walk_at "bD2")) m (F.BO (k:=4) OB (λvs H Q E h=>Fz.Gw gJ h) (λAX A outer s H vs Q E b h=>?_))
 refine⟨_,(A9 rfl (Ax 2 OB.nd (Bw (BH b) (qv 0) AO (λ_ _=>rfl)))
   (A9 rfl (Ai (AU BU (AE AK (qv 1) A4) AO) (AA rfl (AR (AZ bO b (A0 (qv 0) (A0 (AE AK (qv 1) A4) (A0 (AE AK (qv 1) A4) A3)))))) Ak)
   (A9 rfl (Ai (AU BU (AE AK (qv 1) A4) AO) (A9 rfl (Ai (Eg (RU (BH b) (AE AK (qv 1) A4) (qv 2)) (HI (AU (Qn b.JJ) (AE AK (Bw (BH b) (qv 2) (AE AK (qv 1) A4) (λ_ _=>rfl)) A4) (BF A3)))).pt (AA rfl (AR DD)) Ak)
   (A9 rfl (EL (mX (qv 2) (AE AK (qv 1) A4) ⟨rfl,rfl,rfl,rfl⟩))
   (AA rfl (AR DD)))) Ak)
   (A9 rfl (Ai (AU BU (AE AK (qv 1) A4) AO) (A9 rfl (Ai (Eg (RU (BH b) (AE AK (qv 1) A4) (qv 2)) (HI (AU LO (AE AK (qv 1) A4) (AE AK (Bw (BH b) (qv 2) (AE AK (qv 1) A4) (λ_ _=>rfl)) A4)))).pt (AA rfl (AR DD)) Ak)
   (A9 rfl (LJ (Bw (BH b) (qv 2) (AE AK (qv 1) A4) (λ_ _=>rfl)) (Mw rfl (ES (D6 3 OB.nd) (ES (D6 4 OB.nd) (ES (D6 5 OB.nd) NV)))))
   (A9 rfl (Ax 6 OB.nd (Cg JE Co (A0 (KL rfl zd (Im (qv 5)) (λ_ _ _ _=>by exact(Ly (AU LF (qv 1) (AE (show Ib _ (NF K)from AK) (qv 0) A4)))) (λ_ _ _ _=>by exact(qv 1))) A3)))
   (A9 rfl (Ja (BH b) (qv 2) (AE AK (qv 1) A4) (BF (A0 (qv 3) (A0 (Au DL (KP OM Uk cH TB (Bw (BH b) (qv 0) AO (λ_ _=>rfl)) (A0 (AE AK (qv 1) A4) A3)) A4) (A0 (qv 6) A3)))))
   (A9 rfl (EL (AZ Le b (A0 (qv 0) (A0 (AE AK (qv 1) A4) (A0 A4 A3)))))
   (AA rfl (AR DD))))))) Ak)
   (AA rfl (AR (AZ Vw b (A0 (qv 0) (A0 (qv 1) A3))))))))),?_⟩
 refine Fz.Jp h gJ ?_;rintro _ _⟨s,a,t,e,rfl,v,ok,u,hn,rfl⟩;obtain⟨aL,aS,us,BJ,rfl⟩:=id v;show Ws [_,_,.any,.any,.any,.any,.any] _ _ _;have nd:∀{o:Option Ls}{p:PV}{t':OV},Dt (λs t=>DZ s a t) s o p t'->∃EW us',t'=.nd EW a us'/\(∃nk a us,t'=.nd nk a us)/\Dt (λs t=>DZ s a t) s o p t':=λh=>by
  obtain⟨nk,us,e⟩:=h.nd λ_ _ h=>h.nd;exact⟨nk,us,e,⟨nk,a,us,e⟩,h⟩
 have l1:=ok.l1;have l2:=ok.l2;have S:=Ig ok.n1 ok.sub;have T:=ok.row.len;refine An (YY (i:=0) (Pj rfl ⟨_,aL,_,rfl,?_⟩));cases e with
 |Hr x r=>
  show Ws [.ow true (Bf s a aL aS us),.is (.tup [.str "begin",.str x,.str r]),.raw (ptr aL),.any,.any,.any,.any] _ _ _
  walk_at "ww"
  refine Bq (by decide +kernel) ?_;refine N7 (i:=0) rfl (Ox rfl (Q3 rfl (Dw ?_)))
  walk_at "ww"
  refine Dw ?_
  walk_at "ww"
  exact GJ ⟨_,⟨s,a,_,x,r,rfl,v,ok,u.1,u.2,hn,rfl⟩,λp t' h=>nd h⟩
 |over x=>
  show Ws [.ow true (Bf s a aL aS us),.is (.tup [.str "over",.str x]),.raw (ptr aL),.any,.any,.any,.any] _ _ _
  walk_at "ww"
  refine B4 (by decide +kernel) (Ab ?_)
  walk_at "ww"
  refine Bq (by decide +kernel) ?_;refine An (Bu (Hz (FP (ZE (i:=0) (t:=Bf s a aL aS us) ?_))))
  walk_at "ww"
  refine(Ij (j:=2) (i:=0) (p:=[1]) rfl rfl Dr ⟨Ah s.ln,aL,_,.inr x,rfl,rfl,_,rfl,?_⟩);rw[Kj];refine Ad (λc=>?_) (λc=>?_)
  .have nx:x∉s.ln:=λz=>by rw[oW z]at c;cases c
   refine Dv (i:=0) rfl (Cj (.inr ⟨?_,rfl,aL,aS,us,BJ,rfl⟩));show FQ s x=none;unfold FQ;rw[bz nx,l1,L7 (Az _)]
  .have hx:x∈s.ln:=Jj λz=>c (by rw[sS z];rfl);have hi:=List.idxOf_lt_length_iff.mpr hx;obtain⟨l,n⟩:∃l,s.ll[s.ln.idxOf x]?=some l:=⟨_,BG (by omega)⟩;refine CM (m8 (Ba (FO (Ba (D9 (G7 (Ij (j:=2) (i:=0) (p:=[1]) rfl rfl Dr ⟨Ah s.ln,aL,_,rfl,?_⟩)))))))
   walk_at "ww"
   refine⟨.inr x,s.ln.idxOf x,.fz l.P,rfl,Fj hx,Mh n,_,rfl,_,.inr ⟨rfl,rfl,Br ⟨_,_,rfl,rfl,_,.inr ⟨rfl,l.cs,rfl,?_⟩⟩⟩⟩;refine Ba (Hd (DN ⟨by decide,_,.inr ⟨rfl,rfl,[],rfl,_,rfl,?_⟩⟩));refine Ad (λc2=>?_) (λc2=>Ab ?_)
   .refine Dv (i:=0) rfl (Cj (.inr ⟨?_,rfl,aL,aS,us,BJ,rfl⟩));show FQ s x=none;unfold FQ;rw[n];show(if l.cs=[]then _ else none)=none
    rw[qP (λz=>by rw[oW z]at c2;cases c2)]
   .have M:l.cs=[]:=Jj λz=>c2 (by rw[sS z];rfl);refine An (il (i:=0) (t:=Bf s a aL aS us) (Ij (j:=2) (i:=0) (p:=[1]) rfl rfl Dr ⟨true,aL,Ah s.ln,_,rfl,rfl,J3 ok.n1,?_⟩))
    walk_at "ww"
    refine⟨.inr x,s.ln.idxOf x,rfl,Fj hx,?_⟩;unfold Bf;rw[Ko,mP,cP];refine Dv (i:=0) rfl (Cj (.inl ⟨⟨s.row,s.ln.eraseIdx (s.ln.idxOf x),s.ll.eraseIdx (s.ln.idxOf x),s.sn,s.sq⟩,?_,rfl,aL,aS,us,BJ,rfl⟩));show FQ s x=_;unfold FQ;rw[n];show(if l.cs=[]then _ else none)=_
    rw[rG M]
 |tell x y=>
  show Ws [.ow true (Bf s a aL aS us),.is (.tup [.str "tell",.str x,.str y]),.raw (ptr aL),.any,.any,.any,.any] _ _ _
  walk_at "ww"
  refine B4 (by decide +kernel) (Ab ?_)
  walk_at "ww"
  refine B4 (by decide +kernel) (Ab ?_)
  walk_at "ww"
  refine Bq (by decide +kernel) ?_;refine An (Bu (Hz (FP (ZE (i:=0) (t:=Bf s a aL aS us) ?_))))
  walk_at "ww"
  refine(Ij (j:=2) (i:=0) (p:=[1]) rfl rfl Dr ⟨Ah s.ln,aL,_,.inr x,rfl,rfl,_,rfl,?_⟩);rw[Kj];refine Ad (λc=>?_) (λc=>?_)
  .have nx:x∉s.ln:=λz=>by rw[oW z]at c;cases c
   refine Dv (i:=0) rfl (Cj (.inr ⟨?_,rfl,aL,aS,us,BJ,rfl⟩));show FJ s x y=none;unfold FJ;rw[bz nx,l1,L7 (Az _)]
  .have hx:x∈s.ln:=Jj λz=>c (by rw[sS z];rfl);have hi:=List.idxOf_lt_length_iff.mpr hx;obtain⟨l,n⟩:∃l,s.ll[s.ln.idxOf x]?=some l:=⟨_,BG (by omega)⟩;refine CM (Zx ?_)
   walk_at "ww"
   refine Ba (D9 (G7 (Ij (j:=2) (i:=0) (p:=[1]) rfl rfl Dr ⟨Ah s.ln,aL,_,rfl,?_⟩)))
   walk_at "ww"
   refine⟨.inr x,s.ln.idxOf x,.fz l.P,rfl,Fj hx,Mh n,_,rfl,_,.inr ⟨rfl,rfl,Br ⟨_,_,rfl,rfl,_,.inr ⟨rfl,l.cs,rfl,_,rfl,?_⟩⟩⟩⟩;have xs:x∈s.sn:=ok.sub x hx;have G:=ok.good l (EI n);have R:=G.len;refine Ad (λc2=>?_) (λc2=>Ab ?_)
   .refine Dv (i:=0) rfl (Cj (.inr ⟨?_,rfl,aL,aS,us,BJ,rfl⟩));show FJ s x y=none;unfold FJ;rw[n];show(if y∈l.cs then _ else none)=none
    rw[qP (λz=>by rw[oW z]at c2;cases c2)]
   .have D:y∈l.cs:=Jj λz=>c2 (by rw[sS z];rfl);have J:y∈s.row:=G.sub y D;refine An (y9 (D9 (G7 (Ij (j:=2) (i:=0) (p:=[1]) rfl rfl Dr ⟨Ah s.ln,aL,_,rfl,?_⟩))))
    walk_at "ww"
    refine⟨.inr x,s.ln.idxOf x,.fz l.P,rfl,Fj hx,Mh n,_,rfl,ZF1 ⟨_,_,_,rfl,?_⟩⟩;show Ws [.ow true (Bf s a aL aS us),.is (.tup [.str "tell",.str x,.str y]),.raw (ptr aL),.is (.str l.r),.is (.int l.g),.is (.tup (l.cs.map .str)),.any] _ _ _;refine An (JY (Ql rfl (Ba (EH (VQ PV.str (λz=>!decide (z=y)) PV.str (Ot (Ks (AD rfl ⟨_,.inr ⟨rfl,l.cs,rfl,by omega,λz L=>?_,λz L _=>AD rfl rfl,?_⟩⟩))) str_inj)))))
    .walk_at "ww"
     rw[show alike (PV.str z) (PV.str y)=decide (z=y)from rfl]
    refine⟨_,.inl ⟨rfl,?_⟩⟩;show Ws [.ow true (Bf s a aL aS us),.is (.tup [.str "tell",.str x,.str y]),.raw (ptr aL),.is (.str l.r),.is (.int l.g),.is (.tup (l.cs.map .str)),.is (.tup ((wo l.cs y).map .str))] _ _ _;refine An (JD (i:=0) (t:=Bf s a aL aS us) (E2 (Hd (Cu (AD rfl (Cu ?_))))));refine Yl (b5 (Ba (D9 (NQ rfl ⟨_,rfl,_,.inl ⟨rfl,rfl,s.row,rfl,?_⟩⟩))))
    walk_at "ww"
    refine⟨J,_,rfl,Br ⟨_,rfl,Cu (AD rfl (DN ⟨by simp,?_⟩))⟩⟩;refine(Ij (j:=2) (i:=0) (p:=[1]) rfl rfl Dr ⟨true,aL,Ah s.ln,_,rfl,rfl,by unfold CH;rw[AL];omega,J3 ok.n1,BB,?_⟩)
    walk_at "ww"
    refine⟨.inr x,rfl,?_⟩;rw[RM hx,SI hx];have N:(CH s.ll).set (s.ln.idxOf x) (.fz (.tup [.str l.r,.int (((s.row.idxOf y:Nat):Int)+1),.tup ((wo l.cs y).map .str)]))=CH (s.ll.set (s.ln.idxOf x) ⟨l.r,s.row.idxOf y+1,wo l.cs y⟩):=TV _ _ ⟨l.r,s.row.idxOf y+1,wo l.cs y⟩;rw[N];unfold Bf;rw[Ko];show Ws [.ow true (Bf ⟨s.row,s.ln,s.ll.set (s.ln.idxOf x) ⟨l.r,s.row.idxOf y+1,wo l.cs y⟩,s.sn,s.sq⟩ a aL aS us),.is (.tup [.str "tell",.str x,.str y]),.raw (ptr aL),.is (.str l.r),.is (.int l.g),.is (.tup (l.cs.map .str)),.is (.tup ((wo l.cs y).map .str))] _ _ _;refine An (Vc (i:=0) (Ox rfl (Q3 rfl (Dw ?_))))
    walk_at "ww"
    refine Dw (Br (GJ ⟨_,⟨⟨s.row,s.ln,s.ll.set (s.ln.idxOf x) ⟨l.r,s.row.idxOf y+1,wo l.cs y⟩,s.sn,s.sq⟩,a,_,x,2,rfl,⟨aL,aS,us,BJ,rfl⟩,xs,l2,.inr (.inl rfl),rfl⟩,?_⟩));rintro _ O⟨rfl,C,B,Fl,I,rfl⟩;refine⟨_,_,rfl,?_⟩;refine Dv (i:=0) rfl (Cj (.inl ⟨⟨s.row,s.ln,s.ll.set (s.ln.idxOf x) ⟨l.r,s.row.idxOf y+1,wo l.cs y⟩,s.sn,s.sq.modify (s.sn.idxOf x) Sm.tell⟩,?_,rfl,C,B,Fl,I,rfl⟩));show FJ s x y=_;unfold FJ;rw[n];show(if y∈l.cs then _ else none)=_
    rw[rG D]
 |Ee d=>
  have q:∀nx,Ws [.ow true (Bf s a aL aS us),.is (aP d),.raw (ptr aL),.any,.any,.any,.any] (Gf (Dg (C2 Sa) [] E0 (Al (BS 0) (Al (BS 1) BR)))) nx (.mt (Dt (λs t=>DZ s a t) s (FG s (.Ee d)))):=λnx=>N7 (i:=0) rfl (Ox rfl (Q3 rfl (Dw (AD rfl (GJ ⟨_,⟨s,a,_,d,rfl,v,ok,u,hn,rfl⟩,λp t' h=>nd h⟩)))));show Ws [.ow true (Bf s a aL aS us),.is (aP d),.raw (ptr aL),.any,.any,.any,.any] _ _ _;cases d with
  |_=>
   unfold aP at q ⊢;dsimp only at q ⊢
   walk_at "ww"
   refine B4 (by decide +kernel) (Ab ?_)
   walk_at "ww"
   refine B4 (by decide +kernel) (Ab ?_)
   walk_at "ww"
   refine B4 (by decide +kernel) (Ab ?_);exact q _
def G4:Aw ["script","rate","pot","most","first","state","log","wrong","k","turn","entry"] ["script","rate"] (Ag aD):=by walk_at "z1"
def cM : ∀ss R,(Vm K) ss R->ss.length=2:=by rintro _ _⟨sc,r,rfl,_,_,rfl⟩;rfl
def vK(F:AG K "_law_log" "_law_log" aD f fd)(m:mg "_law_log"=some (.ref f)):
  AI P w K mg ZB "_law_log" 6 ["script","rate"] (B7 (Vm K)):=by
 refine AI.mk F (F.binds (by walk_at "bD2")) m (F.BO (k:=5) G4 (λvs H Q E h=>Fz.DJ cM h) (λAX A outer s H vs Q E d h=>?_))
 refine⟨_,(A9 rfl (Ax 2 G4.nd (AZ MS d (A0 (qv 0) (A0 A4 A3))))
   (A9 rfl (Ax 3 G4.nd (AE AK (BF (A0 A4 (A0 A4 A3))) (Cg S6 Ht (A0 (Gn BU (AZ BE d (A0 (qv 2) (A0 A4 A3))) A4) A3))))
   (A9 rfl (Ax 4 G4.nd (AZ bA d (A0 (qv 2) (A0 (qv 3) A3))))
   (A9 rfl (Ax 5 G4.nd (qU (ZV AO (Cg KA By (A0 (qv 4) A3)) (ZV AO Tf (ZV AO Tf ZBk))) rfl rfl (by simp) (by decide)))
   (A9 rfl (Ax 6 G4.nd (Fg A3))
   (A9 rfl (Ax 7 G4.nd M4)
   (A9 rfl (D1 (Kn LA rfl (uF rfl IQ (A0 A4 (A0 (BC (ZCj rfl) Vu (A0 A4 (A0 (BC (tW rfl) bS (A0 (BC Bs Aj (A0 (qv 0) A3)) (A0 A4 A3))) A3))) A3))) (D6 8 G4.nd) (A9 rfl (Ax 2 G4.nd (AZ MS d (A0 (qv 0) (A0 (qv 8) A3))))
   (AA rfl (Kn LA rfl (Y5 rfl IQ (A0 (Au DL A4 (AZ BE d (A0 (qv 2) (A0 (AE AK (BF (A0 A4 (A0 A4 A3))) (Cg S6 Ht (A0 (Gn LW (qv 3) A4) A3))) A3)))) A3)) (D6 9 G4.nd) (A9 rfl (Ax 10 G4.nd (AZ Z1 d (A0 (qv 2) (A0 (qv 5) (A0 (qv 3) A3)))))
   (A9 rfl (D1 (Ai (HS (AU LW (qv 1) A4) (Gg (AU BU (AZ BE d (A0 (qv 2) (A0 (qv 1) A3))) A4))).pt (AA rfl (Ax 10 G4.nd (AZ YB d (A0 (qv 2) (A0 (qv 5) A3))))) Ak))
   (A9 rfl (EL (KP OM ZHZ ZHc iB (qv 6) (A0 (qv 10) A3)))
   (AA rfl (Ai (HS (G6 (J0 (AZ Vb d (A0 (qv 5) (A0 (qv 10) A3))))) (Gg (AU aR (qv 7) M4))).pt (AA rfl (Ax 7 G4.nd (Au Nh (BC Bs Aj (A0 (qv 6) A3)) A4))) Ak))))))))))
   (AA rfl (AR (BF (A0 (qv 4) (A0 (qv 6) (A0 (qv 7) (A0 (qv 5) A3)))))))))))))),?_⟩
 refine Fz.DK h cM ?_;rintro _ _⟨sc,rt,rfl,P5,iw,rfl⟩;show Ws [_,_,.any,.any,.any,.any,.any,.any,.any,.any,.any] _ _ _
 walk_at "ww"
 refine⟨by decide,by decide,?_⟩
 walk_at "ww"
 refine⟨by decide,_,.inr ⟨rfl,rfl,?_⟩⟩
 walk_at "ww"
 refine⟨by decide,by decide,λr r0 σ=>?_⟩
 walk_at "ww"
 obtain⟨m,T,hm⟩:∃m:Nat,L2.Bp [PV.int 9,.int 40] (if alike (PV.int r) (.int 0)=true then 1 else 0)=some (.int m)/\(m=9∨m=40):=by
  split
  .exact⟨40,rfl,.inr rfl⟩
  .exact⟨9,rfl,.inl rfl⟩
 refine⟨_,_,rfl,T,?_⟩
 walk_at "ww"
 refine⟨by omega,by omega,λns UQ O nd=>?_⟩;have d:IJ 40 ns:=⟨by omega,O,nd⟩;refine Ln 4 rfl ?_;show Ws [.raw (DU K sc),.is (.int rt),.AV,.is (.int m),.is (.lst (ns.map .str)),.any,.any,.any,.any,.any,.any] _ _ _;refine An (cU (qW (by decide +kernel) (Lv (E2 (EH (NP rfl (M6 rfl (Lv (Ry λaL=>Lv (Ry λaS=>lV ⟨by simp,by simp,by simp,rfl,λa=>?_⟩))))))))));show Ws [.raw (DU K sc),.is (.int rt),.AV,.is (.int m),.is (.lst (ns.map .str)),.ow false (Bf (Dz ns) a aL aS []),.any,.any,.any,.any,.any] _ _ _
 walk_at "ww"
 refine⟨by decide,?_⟩
 walk_at "ww"
 refine Ld (λ_ i AN=>∃B:Slot,∃(es:List LE)(s:Ls)(w:PV)(t:OV)(s2 l IG:Slot),AN=[.raw (DU K sc),.is (.int rt),s2,.is (.int m),.is (.lst (ns.map .str)),.ow false t,.own (es.map LE.P),.is w,B,l,IG]/\DZ s a t/\G3 ns es s w/\es.length<=3 * i) ?_
 walk_at "ww"
 obtain⟨n,S,M⟩:=ZC5 (b:=7) (c:=36) (n:=sc.length) (by decide) (by decide) (by omega);rw[S];refine⟨by omega,⟨_,[],Dz ns,_,_,_,_,_,rfl,⟨aL,aS,[],R2.nil,rfl⟩,G3.nil d,Cn _⟩,?_,?_⟩
 .rintro i p AN C⟨B,es,s,w,t,s2,l,IG,rfl,v,g,u⟩;obtain⟨hi,rfl⟩:=ZBf C;refine Q4 ?_;have U:i<36:=by omega
  walk_at "ww"
  refine⟨by omega,by omega,?_⟩;refine Ld (λ_ j AN=>∃(es:List LE)(s:Ls)(w:PV)(t:OV)(l IG:Slot),AN=[.raw (DU K sc),.is (.int rt),.AV,.is (.int m),.is (.lst (ns.map .str)),.ow false t,.own (es.map LE.P),.is w,.is (.int (1+(i:Int))),l,IG]/\DZ s a t/\G3 ns es s w/\es.length<=3 * i+j) ?_
  walk_at "ww"
  refine⟨by decide,_,.inr ⟨rfl,rfl,?_⟩⟩
  walk_at "ww"
  obtain⟨q,R,hq⟩:∃q:Nat,L2.Bp [PV.int 3,.int 1] (if decide ((9:Int)<m)=true then 1 else 0)=some (.int q)/\(q=3∨q=1):=by
   split
   .exact⟨1,rfl,.inr rfl⟩
   .exact⟨3,rfl,.inl rfl⟩
  refine⟨_,_,rfl,R,_,rfl,by omega,by omega,λz L V=>?_⟩;obtain⟨z,rfl⟩:=D4 L;refine⟨_,rfl,_,rfl,by omega,by omega,⟨es,s,w,t,l,IG,rfl,v,g,u⟩,?_,?_⟩
  .rintro j p AN C⟨es,s,w,t,l,IG,rfl,v,g,u⟩;obtain⟨hj,rfl⟩:=ZDv C;refine Q4 ?_;obtain⟨aL,aS,us,BJ,rfl⟩:=id v;have ok:=g.ok;have sl:=g.len;have N:j<3:=by omega
   show Ws [.raw (DU K sc),.is (.int rt),.AV,.is (.int m),.is (.lst (ns.map .str)),.ow false (Bf s a aL aS us),.own (es.map LE.P),.is w,.is (.int (1+(i:Int))),.is (.int j),IG] _ _ _;refine An (JY (eK 5 rfl (Q2 rfl (As (AD rfl (As (AD rfl (BY ⟨_,⟨s,m,tq (λp=>[Slot.AV,.is p,.is (.int m)]) (Yf BJ),ok,by omega,by omega,rfl⟩,?_⟩))))))));rintro _⟨e,rfl,o⟩;refine⟨jV e,?_⟩;refine Yy (λAN=>∃e:LE,e.say/\AN=[.raw (DU K sc),.is (.int rt),.AV,.is (.int m),.is (.lst (ns.map .str)),.ow false (Bf s a aL aS us),.own (es.map LE.P),.is w,.is (.int (1+(i:Int))),.is (.int j),.is e.P]) ?_ ?_
   .show Ws [.raw (DU K sc),.is (.int rt),.AV,.is (.int m),.is (.lst (ns.map .str)),.ow false (Bf s a aL aS us),.own (es.map LE.P),.is w,.is (.int (1+(i:Int))),.is (.int j),.is e.P] _ _ _
    walk_at "ww"
    refine Ad (λc=>?_) (λc=>Dd (Ab ⟨e,o,rfl⟩));have c0:=rE c
    walk_at "ww"
    refine⟨by omega,by omega,λy X W=>?_⟩
    walk_at "ww"
    refine Ad (λc=>?_) (λc=>Ab ⟨e,o,rfl⟩);refine JY (eK 5 rfl (Q2 rfl (As (AD rfl (BY ⟨_,⟨s,tq (λp=>[Slot.AV,.is p]) (Yf BJ),ok,by omega,rfl⟩,?_⟩)))));rintro _⟨J,rfl,x⟩;exact⟨jV J,⟨J,x,rfl⟩⟩
   clear o e;rintro _⟨e,o,rfl⟩
   walk_at "ww"
   refine⟨by rw[AL];omega,?_⟩;refine zE (i:=5) (cK (eW (Ox rfl (Q3 rfl (Dw (AD rfl (GJ ⟨_,⟨s,a,_,e,rfl,v,ok,o,by omega,rfl⟩,?_⟩)))))));have I:es.map LE.P++[e.P]=(es++[e]).map LE.P:=by rw[E4];rfl
   have ll:(es++[e]).length=es.length+1:=by rw[CK];rfl
   rintro _ Y(⟨s2,D,rfl,CV⟩|⟨D,rfl,CV⟩)
   .obtain⟨nk,Fl,rfl⟩:=CV.nd;exact⟨nk,Fl,rfl,true,rfl,Dd (Ab ⟨es++[e],s2,w,_,.is (.int j),.is e.P,by rw[<- I];rfl,CV,g.FG D o,by omega⟩)⟩
   .obtain⟨nk,Fl,rfl⟩:=CV.nd;refine⟨nk,Fl,rfl,false,rfl,Bq rfl ?_⟩;have G:=g.bad D o;rw[I];refine Bu (CM (SQ (AD rfl (LH ⟨rfl,_,rfl,?_⟩))));rcases g.fst with⟨rfl,_⟩|⟨i0,rfl,_⟩
    .refine Bq rfl ?_
     walk_at "ww"
     rw[AL,ll];refine⟨es++[e],s,.int es.length,_,.is (.int j),.is e.P,?_,CV,G,by omega⟩;rw[show((es.length+1:Nat):Int) - 1=(es.length:Int) by omega];rfl
    .exact B4 (by simp[Kx]) (Ab ⟨es++[e],s,_,_,.is (.int j),.is e.P,rfl,CV,G,by omega⟩)
  .rintro AN⟨es,s,w,t,l,IG,rfl,v,g,u⟩;rw[Pw,show((1:Int)+(z:Nat)).toNat=1+z by omega]at u;exact⟨_,es,s,w,t,_,_,_,rfl,v,g,by omega⟩
 .rintro AN⟨B,es,s,w,t,s2,l,IG,rfl,⟨aL,aS,us,BJ,rfl⟩,g,u⟩;rw[Q9]at u;refine ZGj 5 rfl ?_;refine Ln 6 rfl ?_;rw[Yf BJ]
  walk_at "ww"
  exact⟨by show 4<=100000;decide,ns,es,w,s,rfl,⟨d,g.say,by omega,g.first⟩⟩
def qq:Aw ["found"] ["found"] (Ag az):=by walk_at "z1"
def gF : ∀ss R,Xe ss R->ss.length=1:=by rintro _ _⟨i,rfl,rfl⟩;rfl
def v9(F:AG K "_law_whole" "_law_whole" az f fd)(m:mg "_law_whole"=some (.ref f)):
  AI P w K mg ZB "_law_whole" 1 ["found"] (B7 Xe):=by
 refine AI.mk F (F.binds (by walk_at "bD1")) m (F.BO (k:=0) qq (λvs H Q E h=>Fz.DJ gF h) (λAX A outer s H vs Q E a h=>?_))
 refine⟨_,(AA rfl (AR (NJ (BC m7 Ra (A0 (qv 0) (A0 (eL "int" Ht) A3))) (Kw (qm (BC m7 Ra (A0 (qv 0) (A0 (eL "bool" bX) A3)))))))),?_⟩;refine Fz.DK h gF ?_;rintro _ _⟨i,rfl,rfl⟩;show Ws [_] _ _ _;refine CB (T6 (dz (AD rfl ⟨true,y3 _ _,_,rfl,Np ?_⟩)));exact nR (dz (AD rfl ⟨false,ZF2 _,_,rfl,rfl⟩))
def ZAY:Aw ["found","due"] ["found","due"] (Ag Z3):=by walk_at "z1"
def mD : ∀ss R,Z5 ss R->ss.length=2:=by rintro _ _⟨ns,es,w,rfl,_,rfl⟩;rfl
def ZGW(F:AG K "_law_right" "_law_right" Z3 f fd)(m:mg "_law_right"=some (.ref f)):
  AI P w K mg ZB "_law_right" 2 ["found","due"] (B7 Z5):=by
 refine AI.mk F (F.binds (by walk_at "bD2")) m (F.BO (k:=1) ZAY (λvs H Q E h=>Fz.DJ mD h) (λAX A outer s H vs Q E a h=>?_))
 refine⟨_,(A9 rfl (Ai (AU aR (qv 1) M4) (AA rfl (AR (Gn aR (qv 0) M4))) Ak)
   (AA rfl (AR (NJ (AZ ax a (A0 (qv 0) A3)) (Kw (Gn (Fz.tU a.units) (qv 0) (qv 1))))))),?_⟩
 refine Fz.DK h mD ?_;rintro _ _⟨ns,es,w,rfl,hw,rfl⟩;show Ws [_,_] _ _ _;rcases hw with⟨rfl,_⟩|⟨i,rfl,_⟩
 .refine An (Bu (CM (SQ (AD rfl (LH ⟨rfl,_,rfl,Bq rfl ?_⟩)))));exact CB (SQ (AD rfl (LH ⟨rfl,rfl⟩)))
 .refine An (Bu (CM (SQ (AD rfl (LH ⟨rfl,_,rfl,B4 (by simp[Kx]) (Ab ?_)⟩)))));refine CB (T6 (wp_call (As (AD rfl (BY ⟨_,⟨i,rfl,rfl⟩,?_⟩)))));rintro _ rfl;have d:dat K 40 (.int i):=trivial;refine⟨_,rfl,Bq rfl (mS (AD rfl (AD rfl ⟨d,d,?_⟩)))⟩;rw[Xh 40 d]
def ot:Aw ["self","row"] ["self","row"] (Ag Xd):=by walk_at "z1"
def nQ:∀ss R,(Uz A7 AM) ss R->ss.length=2:=by rintro _ _⟨a,dx,tp,ns,rfl,rfl⟩;rfl
def ZGX(F:AG K "__init__" "Course.__init__" Xd f fd)(c:Mk K A7 f):
  PU P w K mg ZB A7 2 ["self","row"] (C2 (Uz A7 AM)):=by
 refine⟨f,fd,F.BO (k:=1) ot (λvs H Q E h=>Fz.Gw nQ h) (λAX A outer s H vs Q E e h=>?_),(F.binds (by walk_at "bD2")),c⟩
 refine⟨_,(A9 rfl (KC (qv 0) (Cg KA By (A0 (qv 1) A3)))
   (A9 rfl (KC (qv 0) Tf)
   (AA rfl (KC (qv 0) Tf)))),?_⟩
 refine Fz.UN h nQ ?_;rintro _ _⟨a,dx,tp,ns,rfl,rfl⟩;show Ws [_,_] _ _ _;cases tp
 case' false=>refine An (JW (i:=0) (E2 (EH (NP rfl (Ba (AD rfl ⟨_,.inl ⟨rfl,DG rfl ⟨true,A7,dx,_,a,_,rfl,rfl,BQ,E8,by decide,BB,?_⟩⟩⟩))))))
 case' true=>refine An (JW (i:=0) (E2 (EH (NP rfl (Ba (AD rfl ⟨_,.inr ⟨rfl,DG rfl ⟨true,A7,dx,_,a,_,rfl,rfl,BQ,E8,by decide,BB,?_⟩⟩⟩))))))
 all_goals
  rw[OV.Fb];show Ws [.ow true (.nd (.obj A7 dx ["standing"]) a [.fz (.lst (ns.map .str))]),_] _ _ _;refine An (JW (i:=0) (Ry λb=>DG rfl ⟨true,A7,dx,_,a,_,rfl,rfl,BQ,Cs,by decide,BB,?_⟩));rw[OV.Fb];show Ws [.ow true (.nd (.obj A7 dx ["standing","running"]) a [.fz (.lst (ns.map .str)),.nd (.B2 []) b []]),_] _ _ _;refine JW (i:=0) (Ry λd=>DG rfl ⟨true,A7,dx,_,a,_,rfl,rfl,BQ,G2,by decide,BB,?_⟩);rw[OV.Fb];exact⟨_,_,_,_,rfl,rfl,rfl,b,d,rfl⟩
def ZER:Aw ["self","stood"] ["self","stood"] (Ag ZT):=by walk_at "z1"
def jQ:∀ss R,(Us AM) ss R->ss.length=2:=by rintro _ _⟨a,dx,n,rfl,rfl⟩;rfl
def x3(F:AG K "__init__" "Tally.__init__" ZT f fd)(b:Mk K AM f):
  PU P w K mg ZB AM 1 ["self","stood"] (C2 (Us AM)):=by
 refine⟨f,fd,F.BO (k:=0) ZER (λvs H Q E h=>Fz.Gw jQ h) (λAX A outer s H vs Q E c h=>?_),(F.binds (by walk_at "bD2")),b⟩
 refine⟨_,(A9 rfl (KC (qv 0) (qv 1))
   (A9 rfl (KC (qv 0) A4)
   (A9 rfl (KC (qv 0) A4)
   (AA rfl (KC (qv 0) A4))))),?_⟩
 refine Fz.UN h jQ ?_;rintro _ _⟨a,dx,n,rfl,rfl⟩;show Ws [_,_] _ _ _;refine An (JW (i:=0) (E2 (AD rfl (DG rfl ⟨true,AM,dx,_,a,_,rfl,rfl,GK,ai,by decide,BB,?_⟩))));rw[OV.Fb];show Ws [.ow true (.nd (.obj AM dx ["stood"]) a [.fz (.int n)]),.is (.int n)] _ _ _;refine An (JW (i:=0) (E2 (Br (DG rfl ⟨true,AM,dx,_,a,_,rfl,rfl,GK,O1,by decide,BB,?_⟩))));rw[OV.Fb];show Ws [.ow true (.nd (.obj AM dx ["stood","joined"]) a [.fz (.int n),.fz (.int 0)]),.is (.int n)] _ _ _;refine An (JW (i:=0) (E2 (Br (DG rfl ⟨true,AM,dx,_,a,_,rfl,rfl,GK,Nz,by decide,BB,?_⟩))));rw[OV.Fb];show Ws [.ow true (.nd (.obj AM dx ["stood","joined","told"]) a [.fz (.int n),.fz (.int 0),.fz (.int 0)]),.is (.int n)] _ _ _;refine JW (i:=0) (E2 (Br (DG rfl ⟨true,AM,dx,_,a,_,rfl,rfl,GK,NT,by decide,BB,?_⟩)));rw[OV.Fb];exact⟨_,_,_,_,rfl,rfl,rfl,rfl⟩
def ZEP:Aw ["rule"] ["rule"] (Ag YR):=by walk_at "z1"
def dA:∀ss R D,(aJ Cy) ss R D->ss.length=1:=by rintro _ _ _⟨r,rfl,_,rfl,rfl⟩;rfl
def qk(F:AG K "check_rule" "check_rule" YR f fd)(m:mg "check_rule"=some (.ref f)):
  C1 P w K mg ZB "check_rule" 3 ["rule"] (Ci (aJ Cy)):=by
 refine C1.mk F (F.binds (by walk_at "bD1")) m (F.JR (k:=2) ZEP (λvs H Q E h=>Fz.Jh dA h) (λAX A outer s H vs Q E b h=>?_))
 refine⟨_,(AA rfl (Ai (AU LO (qv 0) (Pp (v:=.ref Ga) (by rfl) Mc rfl)) (AA rfl (JZ Xn (by rfl) WX b (by decide) rfl rfl EM (A0 (qv 0) A3))) Ak)),?_⟩;refine Fz.JO h dA ?_;rintro _ _ _⟨r,rfl,a,rfl,rfl⟩;intro i;have C:Kb K Ga ([("none":Str), "ahead","all"].map .str):=Kb.of Mr rfl rfl;show Ws [_] _ _ _;refine Bu (CM (fD (neg:=true) C (AD rfl ⟨r,rfl,_,rfl,?_⟩)));refine Ad (λc=>?_) (λc=>?_)
 .refine GV (AD rfl ⟨a,trivial,rfl,?_⟩);unfold IT
  simpa using c
 .refine Ab ⟨_,rfl,rfl,?_⟩;show decide (r∈([("none":Str), "ahead","all"]))=true;cases e:decide (r∈([("none":Str), "ahead","all"]))with
  |true=>rfl
  |false=>exact absurd (by rw[e];rfl) c
def rT:Aw ["row","rule"] ["row","rule"] (Ag W6):=by walk_at "z1"
def jU:∀ss R D,(Ze Cy) ss R D->ss.length=2:=by rintro _ _ _⟨tp,ns,r,rfl,_,_,rfl,rfl⟩;rfl
def pA(F:AG K "begun" "begun" W6 f fd)(m:mg "begun"=some (.ref f)):
  C1 P w K mg ZB "begun" 4 ["row","rule"] (Ci (Ze Cy)):=by
 refine C1.mk F (F.binds (by walk_at "bD2")) m (F.JR (k:=3) rT (λvs H Q E h=>Fz.Jh jU h) (λAX A outer s H vs Q E c h=>?_))
 refine⟨_,(A9 rfl (EL (G8 Vg c (by decide) EM rfl (A0 (qv 1) A3)))
   (AA rfl (AR (BF (A0 (qv 1) (A0 A4 (A0 (Cg JE Co (A0 (BC Rb Et (A0 (qv 0) A3)) A3)) A3))))))),?_⟩
 refine Fz.JO h jU ?_;rintro _ _ _⟨tp,ns,r,rfl,e,b,rfl,rfl⟩;intro i;show Ws [_,_] _ _ _;refine An (Ke (Hf (As (AD rfl (BY ⟨_,_,⟨r,rfl,b,rfl,rfl⟩,trivial,λx h=>h,?_⟩)))));rintro _⟨rfl,d⟩
 walk_at "ww"
 refine⟨e,λts a st=>?_⟩
 walk_at "ww"
 exact⟨by simp,d,ts,a,st,rfl⟩
def wx:Aw ["text"] ["text"] (Ag Su):=by walk_at "z1"
def qJ:=Sc [(".0",.local),("sign",.local),("LETTERS",.globalImplicit)]
def ZF5:FK ["text"] (Ag Su) qJ "sign" [] []:=by walk_at "z2"
def wW(F:AG K "is_name" "is_name" Su f fd)(m:mg "is_name"=some (.ref f)):
  AI P w K mg ZB "is_name" 1 ["text"] (MR):=by
 refine AI.mk F (F.binds (by walk_at "bD1")) m (F.BO (k:=0) wx (λvs H Q E h=>?_) (λAX A outer s H vs Q E d h=>?_))
 .obtain⟨x,rfl,hx,q⟩:=h;rfl
 obtain⟨x,rfl,hx,q⟩:=h;refine⟨_,(AA rfl (AR (NJ (Mq EG EG A4 (BC Z0 Aj (A0 (qv 0) A3)) (Pp (v:=.int 8) (by rfl) Vp ⟨_,rfl⟩)) (Kw (BC (i3 rfl) Mf (A0 (KL rfl ZF5 (gi (qv 0)) (λ_ _ _ _=>by exact hU) (λ_ _ _ _=>by exact(Gn nE (qv 0) (Pp (v:=.str "abcdefghijklmnopqrstuvwxyz") (by rfl) VL ⟨_,rfl⟩)))) A3)))))),?_⟩;refine⟨_,rfl,_,rfl,small (by omega),_,_,rfl,rfl,_,rfl,?_⟩;refine Ad (λc=>?_) (λc=>⟨_,rfl,Dd ?_⟩)
 .refine⟨_,_,rfl,rfl,_,rfl,?_⟩;refine Ad (λc2=>?_) (λc2=>?_)
  .refine⟨_,rfl,x,rfl,λacc BD=>jF (λ_=>true) bE BD (by rw[<- MU,<- Hs];exact small (by omega)) (λi v H' Q' _ _ h=>h H' (AB.refl _)) (λi v H' Q' b _ _ h=>?_) (λH' s1 a=>?_)⟩
   .obtain⟨g,rfl⟩:=signs_get b;exact⟨_,rfl,_,_,rfl,rfl,h H' (AB.refl _)⟩
   .rw[iF]at a;refine⟨acc,_,rfl,Ac.of a,?_⟩;rw[all_map];have e:isNm x=x.cps.toList.all LI:=by unfold isNm;rw[c,c2];rfl
    rw[<- e];exact q H' s1
  .have e:isNm x=false:=by unfold isNm;rw[Bool.eq_false_iff.mpr c2];simp
   rw[<- e];exact q H (AB.refl _)
 .have e:isNm x=false:=by unfold isNm;rw[Bool.eq_false_iff.mpr c];simp
  rw[<- e];exact q H (AB.refl _)
def ZCO:Aw ["self","loop","rule"] ["self","loop","rule"] (Ag ZL):=by walk_at "z1"
def fH:∀ss R,(bY A7 AM) ss R->ss.length=3:=by rintro _ _⟨s,a,t,x,r,rfl,_,_,_,_,_,rfl⟩;rfl
def ZEF(F:AG K "follows_begin" "Course.follows_begin" ZL f fd)(p:Meth K A7 "follows_begin" f):
  EJ P w K mg ZB A7 "follows_begin" 6 ["self","loop","rule"] (C2 (bY A7 AM)):=by
 refine⟨f,fd,F.BO (k:=5) ZCO (λvs H Q E h=>Fz.Gw fH h) (λAX A outer s H vs Q E d h=>?_),(F.binds (by walk_at "bD3")),p,BQ⟩
 refine⟨_,(A9 rfl (Ai (Eg (G6 (J0 (AZ NL d (A0 (qv 1) A3)))) (Eg (lX (BH d) (qv 1) (Ds (qv 0))) (HI (AU LO (qv 2) (Pp (v:=.ref Ga) (by rfl) Mc rfl))))).pt (AA rfl (AR DD)) Ak)
   (A9 rfl (Ja (BH d) (Ds (qv 0)) (qv 1) (G8 Y1 d (by decide) U1 rfl (A0 (Ds (qv 0)) (A0 (qv 2) A3))))
   (A9 rfl (Ja (BH d) (Ds (qv 0)) (qv 1) (m9 Xg d (by decide) Ux (A0 (BC Bs Aj (A0 (Ds (qv 0)) A3)) A3)))
   (AA rfl (AR DD))))),?_⟩
 refine Fz.Jp h fH ?_;rintro _ _⟨s,a,t,x,r,rfl,q,ok,hx,d,hn,rfl⟩;obtain⟨dx,aL,aS,us,BJ,rfl⟩:=q;have C:Kb K Ga ([("none":Str), "ahead","all"].map .str):=Kb.of Mr rfl rfl;show Ws [_,_,_] _ _ _;have l:∀nx:List Slot->Prop,¬ (isNm x=true/\x∉s.sn/\IT r=true)->Ws [.ow true (Bm s A7 a dx aL aS us),.is (.str x),.is (.str r)] (Gf (tC (V.bl false))) nx (.mt (Dt (λs t=>DC s A7 AM a t) s (GX s x r))):=λnx h=>Dv (i:=0) rfl (Cj (.inr ⟨by unfold GX;rw[qP h],rfl,dx,aL,aS,us,BJ,rfl⟩));refine An (Bu (Hz (Gq (FP (Tp (AD rfl ⟨x,rfl,hx.2,_,rfl,?_⟩))))));refine Ad (λc=>l _ λz=>by rw[z.1]at c;cases c) (λc=>?_);refine Hz (FP (dF (AD rfl (U7 rfl BQ G2 ⟨Ah s.sn,aS,us,.inr x,rfl,rfl,_,rfl,?_⟩))));rw[Kj];refine Ad (λc2=>l _ λz=>z.2.1 (rE c2)) (λc2=>?_);refine CM (fD (neg:=true) C (AD rfl ⟨r,rfl,_,rfl,?_⟩));refine Ad (λj=>l _ λz=>?_) (λj=>Ab ?_)
 .have g:decide (r∈([("none":Str), "ahead","all"]))=true:=z.2.2;rw[g]at j;cases j
 have h1:isNm x=true:=by cases e:isNm x with
  |true=>rfl
  |false=>exact absurd (by rw[e];rfl) c
 have h2:x∉s.sn:=λz=>c2 (oW z);have g:IT r=true:=by
  show decide (r∈([("none":Str), "ahead","all"]))=true;cases e:decide (r∈([("none":Str), "ahead","all"]))with
  |true=>rfl
  |false=>exact absurd (by rw[e];rfl) j
 have n:x∉s.ln:=λz=>h2 (ok.sub x z);refine An (JD (i:=0) (t:=Bm s A7 a dx aL aS us) (E2 (Hf (Dh (Ba (D9 (Pd rfl BQ E8 ⟨_,rfl,_,.inl ⟨rfl,As (AD rfl (BY ⟨_,_,⟨false,s.row,r,rfl,by have:=ok.row.len;omega,d.1,rfl,rfl⟩,trivial,λe m=>(by rw[g]at m;cases m.2),?_⟩))⟩⟩)))))));rintro _⟨_,ts,o,st,rfl⟩;rw[kg ok.row.nd o st];have l1:=ok.l1;have l2:=ok.l2;have y:=Ig ok.n1 ok.sub;refine(KR rfl BQ Cs ⟨true,aL,Ah s.ln,_,rfl,rfl,by unfold CH;rw[AL];omega,J3 ok.n1,BB,AD rfl ⟨.inr x,rfl,?_⟩⟩);rw[Pu n,UH n];unfold Bm;rw[show([]++[1]:List Nat)=[1]from rfl,Ko];have u:CH s.ll++[.fz (.tup [.str r,.int 0,.tup ((GZ s.row).map .str)])]=CH (s.ll++[⟨r,0,GZ s.row⟩]):=by unfold CH;rw[E4];rfl
 rw[u];show Ws [.ow true (Bm ⟨s.row,s.ln++[x],s.ll++[⟨r,0,GZ s.row⟩],s.sn,s.sq⟩ A7 a dx aL aS us),.is (.str x),.is (.str r)] _ _ _;refine An (JD (i:=0) (t:=Bm ⟨s.row,s.ln++[x],s.ll++[⟨r,0,GZ s.row⟩],s.sn,s.sq⟩ A7 a dx aL aS us) (mO (Dw (D7 (Ba (D9 (Pd rfl BQ E8 ⟨_,rfl,_,.inl ⟨rfl,GJ λb e=>⟨_,⟨b,e,s.row.length,by rw[AL],rfl⟩,?_⟩⟩⟩)))))));rintro _ _⟨rfl,rfl⟩;refine⟨rfl,_,_,rfl,?_⟩;refine(U7 rfl BQ G2 ⟨true,aS,Ah s.sn,us,rfl,rfl,by rw[BJ.1];omega,J3 ok.n2,BB,AD rfl ⟨.inr x,rfl,?_⟩⟩);rw[Pu h2,UH h2];unfold Bm;rw[show([]++[2]:List Nat)=[2]from rfl,put2];exact Dv (i:=0) rfl (Cj (.inl ⟨_,by unfold GX;rw[rG ⟨h1,h2,g⟩],rfl,dx,aL,aS,_,BJ.snoc ⟨e,b,rfl⟩,rfl⟩))
def ra:Aw ["self","loop"] ["self","loop"] (Ag Ye):=by walk_at "z1"
def d4:∀ss R,(NM A7) ss R->ss.length=2:=by rintro _ _⟨s,xs,x,rfl,_,rfl⟩;rfl
def qO(F:AG K "coming" "Course.coming" Ye f fd)(d:Meth K A7 "coming" f):
  EJ P w K mg ZB A7 "coming" 2 ["self","loop"] (B7 (NM A7)):=by
 refine⟨f,fd,F.BO (k:=1) ra (λvs H Q E h=>Fz.DJ d4 h) (λAX A outer s H vs Q E a h=>?_),(F.binds (by walk_at "bD2")),d,BQ⟩
 refine⟨_,(A9 rfl (Ai (RU (BH a) (qv 1) (Ds (qv 0))) (AA rfl (AR (BF A3))) Ak)
   (AA rfl (AR (AE AK (Bw (BH a) (Ds (qv 0)) (qv 1) (λ_ _=>rfl)) A4)))),?_⟩
 refine Fz.DK h d4 ?_;rintro _ _⟨s,xs,x,rfl,e,rfl⟩;show Ws [_,_] _ _ _;refine An (Bu (FP (y2 (AD rfl (lQ (AD rfl ⟨A7,JQ,_,1,_,rfl,BQ,Cs,by decide +kernel,rfl,Ah s.ln,_,.inr x,rfl,rfl,_,rfl,?_⟩))))));rw[Kj];refine Ad (λc=>?_) (λc=>Ab ?_)
 .refine CB (Hd (DN ⟨by simp,?_⟩));have nx:x∉s.ln:=λz=>by rw[oW z]at c;cases c
  unfold EB;rw[bz nx,e,L7 (Az _)];rfl
 .have hx:x∈s.ln:=Jj λz=>c (by rw[sS z];rfl);have hi:=List.idxOf_lt_length_iff.mpr hx;obtain⟨l,b⟩:∃l,s.ll[s.ln.idxOf x]?=some l:=⟨_,BG (by omega)⟩;refine CB (FO (Ba (I0 (lQ (AD rfl ⟨A7,JQ,_,1,_,rfl,BQ,Cs,by decide +kernel,rfl,Ah s.ln,_,rfl,AD rfl ⟨.inr x,l.P,rfl,Wf hx (by rw[Bc,b];rfl),_,.inr ⟨rfl,rfl,Br ⟨_,_,rfl,rfl,?_⟩⟩⟩⟩)))));unfold EB;rw[b]
def ZAc:Aw ["coming","gone"] ["coming","gone"] (Ag RX):=by walk_at "z1"
def ZB5:=Sc [(".0",.local),("name",.local),("gone",.free)]
def ZBs:FK ["coming","gone"] (Ag RX) ZB5 "name" ["gone"] [1]:=by walk_at "z2"
def gf : ∀ss R,Tw ss R->ss.length=2:=by rintro _ _⟨cs,x,rfl,_,rfl⟩;rfl
def yM(F:AG K "coming_without" "coming_without" RX f fd)(m:mg "coming_without"=some (.ref f)):
  AI P w K mg ZB "coming_without" 1 ["coming","gone"] (B7 Tw):=by
 refine AI.mk F (F.binds (by walk_at "bD2")) m (F.BO (k:=0) ZAc (λvs H Q E h=>Fz.DJ gf h) (λAX A outer s H vs Q E c h=>?_))
 refine⟨_,(AA rfl (AR (Cg JE Co (A0 (KL rfl ZBs (Im (qv 0)) (λ_ _ _ _=>by exact(Ly (AU LF (qv 1) (qv 0)))) (λ_ _ _ _=>by exact(qv 1))) A3)))),?_⟩;refine Fz.DK h gf ?_;rintro _ _⟨cs,x,rfl,b,rfl⟩;show Ws [_,_] _ _ _;refine CB (Ql rfl (Ba (EH (VQ PV.str (λy=>!alike (.str y) (.str x)) PV.str ?_ str_inj))))
 walk_at "ww"
 refine⟨by omega,λy a=>by walk_at "ww"; rfl,λy a _=>by walk_at "ww"; rfl,?_⟩
 rw[eE];exact⟨_,.inl ⟨rfl,rfl⟩⟩
def ZE4:Aw ["row","name"] ["row","name"] (Ag Zv):=by walk_at "z1"
def mr:∀ss R D,(NZ Ay) ss R D->ss.length=2:=by rintro _ _ _⟨tp,ns,x,rfl,_,rfl,rfl⟩;rfl
def sZ(F:AG K "place_of" "place_of" Zv f fd)(m:mg "place_of"=some (.ref f)):
  C1 P w K mg ZB "place_of" 3 ["row","name"] (Ci (NZ Ay)):=by
 refine C1.mk F (F.binds (by walk_at "bD2")) m (F.JR (k:=2) ZE4 (λvs H Q E h=>Fz.Jh mr h) (λAX A outer s H vs Q E b h=>?_))
 refine⟨_,(A9 rfl (Ai (AU LO (qv 1) (qv 0)) (AA rfl (JZ Yz (by rfl) VE b (by decide) rfl rfl EM (A0 (qv 1) A3))) Ak)
   (AA rfl (AR (ZGm (KP OM Uk cH TB (qv 0) (A0 (qv 1) A3)) (KP PySem.F.plainAttrs_tuple ZHb PySem.F.type_tuple_index vR (qv 0) (A0 (qv 1) A3)))))),?_⟩
 refine Fz.JO h mr ?_;rintro _ _ _⟨tp,ns,x,rfl,a,rfl,rfl⟩;intro i;show Ws [_,_] _ _ _
 walk_at "ww"
 refine Ad (λc=>?_) (λc=>?_)
 .refine GV (AD rfl ⟨a.1,trivial,?_,rfl⟩);intro h;rw[oW h]at c;cases c
 .have hx:x∈ns:=by
   cases e:decide (x∈ns)with
   |true=>exact rE e
   |false=>exact absurd (by rw[e];rfl) c
  refine Ab ?_;cases tp with
  |false=>
   refine CB (yS (b5 ?_))
   walk_at "ww"
   exact⟨hx,hx,rfl⟩
  |true=>
   refine CB (zu (ZBx ?_))
   walk_at "ww"
   exact⟨hx,hx,rfl⟩
def xA:Aw ["row","loop","name"] ["row","loop","name"] (Ag bN):=by walk_at "z1"
def md : ∀ss R,Xt ss R->ss.length=3:=by rintro _ _⟨tp,ns,r,g,cs,x,rfl,_,_,_,rfl⟩;rfl
def ZCX(F:AG K "loop_telling" "loop_telling" bN f fd)(m:mg "loop_telling"=some (.ref f)):
  AI P w K mg ZB "loop_telling" 4 ["row","loop","name"] (B7 Xt):=by
 refine AI.mk F (F.binds (by walk_at "bD3")) m (F.BO (k:=3) xA (λvs H Q E h=>Fz.DJ md h) (λAX A outer s H vs Q E a h=>?_))
 refine⟨_,(AA rfl (AR (BF (A0 (AE AK (qv 1) A4) (A0 (Au DL (G8 GU a (by decide) U1 rfl (A0 (qv 0) (A0 (qv 2) A3))) A4) (A0 (AZ O0 a (A0 (AE AK (qv 1) A4) (A0 (qv 2) A3))) A3)))))),?_⟩;refine Fz.DK h md ?_;rintro _ _⟨tp,ns,r,g,cs,x,rfl,c,b,hx,rfl⟩;unfold N0;show Ws [_,_,_] _ _ _
 walk_at "ww"
 refine Hf ?_;refine Dh (FC rfl (As (AD rfl (BY ⟨_,_,⟨tp,ns,x,rfl,b,rfl,rfl⟩,trivial,λe h=>absurd hx h.1,?_⟩))));rintro _⟨_,rfl⟩
 walk_at "ww"
 refine wp_call (As ?_)
 walk_at "ww"
 refine As (AD rfl (BY ⟨_,⟨cs,x,rfl,c,rfl⟩,?_⟩));rintro _ rfl
 walk_at "ww"
 exact⟨by simp,rfl⟩
def gh:Aw ["self","loop","name","tally"] ["self","loop","name"] (Ag VH):=by walk_at "z1"
def iR:∀ss R,(Wu A7 AM) ss R->ss.length=3:=by rintro _ _⟨s,a,t,x,y,rfl,_,_,_,rfl⟩;rfl
def ZGf(F:AG K "follows_tell" "Course.follows_tell" VH f fd)(I:Meth K A7 "follows_tell" f):
  EJ P w K mg ZB A7 "follows_tell" 6 ["self","loop","name"] (C2 (Wu A7 AM)):=by
 refine⟨f,fd,F.BO (k:=5) gh (λvs H Q E h=>Fz.Gw iR h) (λAX A outer s H vs Q E m h=>?_),(F.binds (by walk_at "bD3")),I,BQ⟩
 refine⟨_,(A9 rfl (Ai (AU LO (qv 2) (Hj Hi m (by decide) (qv 0) (A0 (qv 1) A3))) (AA rfl (AR DD)) Ak)
   (A9 rfl (Ja (BH m) (Ds (qv 0)) (qv 1) (AZ Vn m (A0 (Ds (qv 0)) (A0 (Bw (BH m) (Ds (qv 0)) (qv 1) (λ_ _=>rfl)) (A0 (qv 2) A3)))))
   (A9 rfl (Ax 3 gh.nd (Bw (BH m) (Ds (qv 0)) (qv 1) (λ_ _=>rfl)))
   (A9 rfl (Xz (qv 3) A4 W9)
   (AA rfl (AR DD)))))),?_⟩
 refine Fz.Jp h iR ?_;rintro _ _⟨s,a,t,x,y,rfl,J,ok,hn,rfl⟩;obtain⟨dx,aL,aS,us,BJ,rfl⟩:=J;show Ws [_,_,_,.any] _ _ _;have l1:=ok.l1;have l2:=ok.l2;have R:=Ig ok.n1 ok.sub;have L:(EB s x).length<=1000:=by
  unfold EB;split
  .next l e=>have:=(ok.good l (EI e)).len;have:=ok.row.len;omega
  .exact Cn _
 refine An (Bu (CM (Zx (AD rfl ⟨y,rfl,(JA rfl rfl l1 ⟨_,rfl,?_⟩)⟩))));refine⟨_,rfl,?_⟩;have G:y∉EB s x->FJ s x y=none:=λh=>by
  unfold FJ;unfold EB at h;split
  .next l e=>rw[e]at h;rw[qP h]
  .rfl
 refine Ad (λc=>?_) (λc=>Ab ?_)
 .refine Dv (i:=0) rfl (Cj (.inr ⟨G (λz=>(by rw[oW z]at c;cases c)),rfl,dx,aL,aS,us,BJ,rfl⟩))
 .have d:y∈EB s x:=Jj λz=>c (by rw[sS z];rfl);obtain⟨l,n⟩:∃l,s.ll[s.ln.idxOf x]?=some l:=by
   unfold EB at d;split at d
   .next l e=>exact⟨l,e⟩
   .cases d
  have c1:EB s x=l.cs:=by unfold EB;rw[n]
  rw[c1]at d;have o:x∈s.ln:=vU l1 n;have xs:x∈s.sn:=ok.sub x o;have C:=ok.good l (EI n);have B:y∈s.row:=C.sub y d;have S:=ok.row.len;have O:=C.len;refine An (JD (i:=0) (t:=Bm s A7 a dx aL aS us) (E2 (wp_call (Dh (Ba (D9 (Pd rfl BQ E8 ⟨_,rfl,_,.inl ⟨rfl,?_⟩⟩)))))));refine As (D9 (G7 (KR rfl BQ Cs ⟨Ah s.ln,aL,_,rfl,AD rfl ⟨.inr x,s.ln.idxOf x,.fz l.P,rfl,Fj o,Mh n,_,rfl,?_⟩⟩)));refine As (AD rfl (BY ⟨_,⟨false,s.row,l.r,l.g,l.cs,y,rfl,by omega,Ir (ok.row.nm y B),B,rfl⟩,?_⟩));rintro _ rfl;refine(KR rfl BQ Cs ⟨true,aL,Ah s.ln,_,rfl,rfl,by unfold CH;rw[AL];omega,J3 ok.n1,BB,AD rfl ⟨.inr x,rfl,?_⟩⟩);rw[RM o,SI o];unfold Bm;rw[show([]++[1]:List Nat)=[1]from rfl,Ko];have M:(CH s.ll).set (s.ln.idxOf x) (.fz (Eh l.r (s.row.idxOf y+1) (wo l.cs y)))=CH (s.ll.set (s.ln.idxOf x) ⟨l.r,s.row.idxOf y+1,wo l.cs y⟩):=TV _ _ ⟨l.r,s.row.idxOf y+1,wo l.cs y⟩;rw[M];obtain⟨q,D⟩:∃q,s.sq[s.sn.idxOf x]?=some q:=⟨_,BG (by have:=List.idxOf_lt_length_iff.mpr xs;omega)⟩;obtain⟨u,v,e,b,rfl⟩:=BJ.get D;show Ws [.ow true (Bm ⟨s.row,s.ln,s.ll.set (s.ln.idxOf x) ⟨l.r,s.row.idxOf y+1,wo l.cs y⟩,s.sn,s.sq⟩ A7 a dx aL aS us),.is (.str x),.is (.str y),.any] _ _ _;refine An (YY (i:=0) (G7 (U7 rfl BQ G2 ⟨Ah s.sn,aS,us,rfl,AD rfl ⟨.inr x,s.sn.idxOf x,_,rfl,Fj xs,v,_,b,_,rfl,?_⟩⟩)));show Ws [.ow true (Bm ⟨s.row,s.ln,s.ll.set (s.ln.idxOf x) ⟨l.r,s.row.idxOf y+1,wo l.cs y⟩,s.sn,s.sq⟩ A7 a dx aL aS us),.is (.str x),.is (.str y),.raw (ptr b)] _ _ _;refine An (Xy (Ij (j:=3) (i:=0) (p:=[2,s.sn.idxOf x]) rfl rfl (XT v) ⟨true,AM,e,_,b,_,2,_,rfl,rfl,GK,Nz,by decide,by decide +kernel,rfl,Br ⟨_,rfl,?_⟩⟩));unfold Bm;rw[SG v];refine Dv (i:=0) rfl (Cj (.inl ⟨⟨s.row,s.ln,s.ll.set (s.ln.idxOf x) ⟨l.r,s.row.idxOf y+1,wo l.cs y⟩,s.sn,s.sq.modify (s.sn.idxOf x) Sm.tell⟩,?_,rfl,dx,aL,aS,_,BJ.set λN h'=>by rw[D]at h';cases h';exact⟨e,b,rfl⟩,rfl⟩));unfold FJ;rw[n];show(if y∈l.cs then _ else none)=_
  rw[rG d]
def zj:Aw ["self","loop"] ["self","loop"] (Ag Xb):=by walk_at "z1"
def fN:∀ss R,(Xk A7 AM) ss R->ss.length=2:=by rintro _ _⟨s,a,t,x,rfl,_,_,rfl⟩;rfl
def ZAk(F:AG K "follows_over" "Course.follows_over" Xb f fd)(g:Meth K A7 "follows_over" f):
  EJ P w K mg ZB A7 "follows_over" 6 ["self","loop"] (C2 (Xk A7 AM)):=by
 refine⟨f,fd,F.BO (k:=5) zj (λvs H Q E h=>Fz.Gw fN h) (λAX A outer s H vs Q E e h=>?_),(F.binds (by walk_at "bD2")),g,BQ⟩
 refine⟨_,(A9 rfl (Ai (Eg (RU (BH e) (qv 1) (Ds (qv 0))) (HI (AU LW (BC Bs Aj (A0 (Hj Hi e (by decide) (qv 0) (A0 (qv 1) A3)) A3)) A4))).pt (AA rfl (AR DD)) Ak)
   (A9 rfl (EL (mX (Ds (qv 0)) (qv 1) ⟨rfl,rfl,rfl,rfl⟩))
   (AA rfl (AR DD)))),?_⟩
 refine Fz.Jp h fN ?_;rintro _ _⟨s,a,t,x,rfl,j,ok,rfl⟩;obtain⟨dx,aL,aS,us,BJ,rfl⟩:=j;show Ws [_,_] _ _ _;have l1:=ok.l1;refine An (Bu (Hz (FP (ZE (AD rfl (KR rfl BQ Cs ⟨Ah s.ln,aL,_,.inr x,rfl,rfl,_,rfl,?_⟩))))));rw[Kj];refine Ad (λc=>?_) (λc=>?_)
 .have nx:x∉s.ln:=λz=>by rw[oW z]at c;cases c
  refine Dv (i:=0) rfl (Cj (.inr ⟨?_,rfl,dx,aL,aS,us,BJ,rfl⟩));unfold FQ;rw[bz nx,l1,L7 (Az _)]
 .have hx:x∈s.ln:=Jj λz=>c (by rw[sS z];rfl);have hi:=List.idxOf_lt_length_iff.mpr hx;obtain⟨l,d⟩:∃l,s.ll[s.ln.idxOf x]?=some l:=⟨_,BG (by omega)⟩;have c1:EB s x=l.cs:=by unfold EB;rw[d]
  refine CM (Fu (D7 (JA rfl rfl l1 ?_)));rw[AL,c1];refine⟨_,rfl,Br ⟨_,rfl,_,rfl,?_⟩⟩;refine Ad (λc2=>?_) (λc2=>Ab ?_)
  .have b:=rE c2;refine Dv (i:=0) rfl (Cj (.inr ⟨?_,rfl,dx,aL,aS,us,BJ,rfl⟩));unfold FQ;rw[d];show(if l.cs=[]then _ else none)=none
   rw[qP (λz=>by rw[z]at b;exact absurd b (by decide))]
  .have b:l.cs=[]:=List.length_eq_zero_iff.mp (by have:¬ (0:Int)<l.cs.length:=λz=>c2 (oW z);omega);refine An (il (i:=0) (t:=Bm s A7 a dx aL aS us) (KR rfl BQ Cs ⟨true,aL,Ah s.ln,_,rfl,rfl,J3 ok.n1,AD rfl ⟨.inr x,s.ln.idxOf x,rfl,Fj hx,?_⟩⟩));unfold Bm;rw[show([]++[1]:List Nat)=[1]from rfl,Ko,mP,cP];refine Dv (i:=0) rfl (Cj (.inl ⟨⟨s.row,s.ln.eraseIdx (s.ln.idxOf x),s.ll.eraseIdx (s.ln.idxOf x),s.sn,s.sq⟩,?_,rfl,dx,aL,aS,us,BJ,rfl⟩));unfold FQ;rw[d];show(if l.cs=[]then _ else none)=_
   rw[rG b]
def zv:Aw ["gap","at"] ["gap","at"] (Ag Xv):=by walk_at "z1"
def cJ : ∀ss R,VB ss R->ss.length=2:=by rintro _ _⟨g,i,rfl,rfl⟩;rfl
def xO(F:AG K "gap_behind_put" "gap_behind_put" Xv f fd)(m:mg "gap_behind_put"=some (.ref f)):
  AI P w K mg ZB "gap_behind_put" 1 ["gap","at"] (B7 VB):=by
 refine AI.mk F (F.binds (by walk_at "bD2")) m (F.BO (k:=0) zv (λvs H Q E h=>Fz.DJ cJ h) (λAX A outer s H vs Q E a h=>?_))
 refine⟨_,(A9 rfl (Ai (AU FW (qv 1) (qv 0)) (AA rfl (AR (Au DL (qv 0) A4))) Ak)
   (AA rfl (AR (qv 0)))),?_⟩
 refine Fz.DK h cJ ?_;rintro _ _⟨g,i,rfl,rfl⟩;show Ws [_,_] _ _ _
 walk_at "ww"
 refine Ad (λc=>?_) (λc=>?_)
 .have h:i<g:=by have:=rE c;omega
  walk_at "ww"
  unfold Gi;rw[rG h];rfl
 .have h:¬ i<g:=λz=>c (oW (by omega));refine Ab ?_
  walk_at "ww"
  unfold Gi;rw[qP h]
def uW:Aw ["gap","place"] ["gap","place"] (Ag aK):=by walk_at "z1"
def gR : ∀ss R,YO ss R->ss.length=2:=by rintro _ _⟨g,i,rfl,rfl⟩;rfl
def u9(F:AG K "gap_behind_take" "gap_behind_take" aK f fd)(m:mg "gap_behind_take"=some (.ref f)):
  AI P w K mg ZB "gap_behind_take" 1 ["gap","place"] (B7 YO):=by
 refine AI.mk F (F.binds (by walk_at "bD2")) m (F.BO (k:=0) uW (λvs H Q E h=>Fz.DJ gR h) (λAX A outer s H vs Q E a h=>?_))
 refine⟨_,(A9 rfl (Ai (AU FW (qv 1) (qv 0)) (AA rfl (AR (Au Nh (qv 0) A4))) Ak)
   (AA rfl (AR (qv 0)))),?_⟩
 refine Fz.DK h gR ?_;rintro _ _⟨g,i,rfl,rfl⟩;show Ws [_,_] _ _ _
 walk_at "ww"
 refine Ad (λc=>?_) (λc=>?_)
 .have h:i<g:=by have:=rE c;omega
  walk_at "ww"
  unfold Fx;rw[rG h];show PV.int _=PV.int _
  congr 1;omega
 .have h:¬ i<g:=λz=>c (oW (by omega));refine Ab ?_
  walk_at "ww"
  unfold Fx;rw[qP h]
def oZ:Aw ["row","gap","deed"] ["row","gap","deed"] (Ag Wj):=by walk_at "z1"
def mQ : ∀ss R,Ur ss R->ss.length=3:=by rintro _ _⟨tp,ns,g,d,rfl,_,_,rfl⟩;rfl
def ZDs(F:AG K "gap_led" "gap_led" Wj f fd)(m:mg "gap_led"=some (.ref f)):
  AI P w K mg ZB "gap_led" 4 ["row","gap","deed"] (B7 Ur):=by
 refine AI.mk F (F.binds (by walk_at "bD3")) m (F.BO (k:=3) oZ (λvs H Q E h=>Fz.DJ mQ h) (λAX A outer s H vs Q E a h=>?_))
 refine⟨_,(A9 rfl (Ai (AU BU (AE AK (qv 2) A4) AO) (AA rfl (AR (AZ RG a (A0 (qv 1) (A0 (AE AK (qv 2) A4) A3))))) Ak)
   (A9 rfl (Ai (AU BU (AE AK (qv 2) A4) AO) (AA rfl (AR (AZ RN a (A0 (qv 1) (A0 (G8 GU a (by decide) U1 rfl (A0 (qv 0) (A0 (AE AK (qv 2) A4) A3))) A3))))) Ak)
   (A9 rfl (Ai (AU BU (AE AK (qv 2) A4) AO) (AA rfl (AR (AZ RG a (A0 (AZ RN a (A0 (qv 1) (A0 (G8 GU a (by decide) U1 rfl (A0 (qv 0) (A0 (AE AK (qv 2) A4) A3))) A3))) (A0 (AE AK (qv 2) A4) A3))))) Ak)
   (AA rfl (AR (qv 1)))))),?_⟩
 refine Fz.DK h mQ ?_;rintro _ _⟨tp,ns,g,d,rfl,hd,b,rfl⟩;show Ws [_,_,_] _ _ _;cases d with
 |put x i=>
  unfold dP
  walk_at "ww"
  refine Bq (by decide +kernel) ?_;refine CB (wp_call (As (AD rfl (As ?_))))
  walk_at "ww"
  exact BY ⟨_,⟨g,i,rfl,rfl⟩,λ_ h=>h⟩
 |take x=>
  unfold dP
  walk_at "ww"
  refine B4 (by decide +kernel) ?_;refine Ab ?_
  walk_at "ww"
  refine Bq (by decide +kernel) ?_;refine CB (wp_call (As (AD rfl (As ?_))));refine Hf ?_;refine Dh (FC rfl (As ?_))
  walk_at "ww"
  refine BY ⟨_,_,⟨tp,ns,x,rfl,b x (.inl rfl),rfl,rfl⟩,trivial,λe h=>absurd (show x∈ns from hd) h.1,?_⟩;rintro _⟨_,rfl⟩;exact BY ⟨_,⟨g,_,rfl,rfl⟩,λ_ h=>h⟩
 |move x i=>
  unfold dP
  walk_at "ww"
  refine B4 (by decide +kernel) ?_;refine Ab ?_
  walk_at "ww"
  refine B4 (by decide +kernel) ?_;refine Ab ?_
  walk_at "ww"
  refine Bq (by decide +kernel) ?_;refine CB (wp_call (As (wp_call (As (AD rfl (As ?_))))));refine Hf ?_;refine Dh (FC rfl (As ?_))
  walk_at "ww"
  refine BY ⟨_,_,⟨tp,ns,x,rfl,b x (.inr ⟨i,rfl⟩),rfl,rfl⟩,trivial,λe h=>absurd hd.1 h.1,?_⟩;rintro _⟨_,rfl⟩;refine BY ⟨_,⟨g,_,rfl,rfl⟩,?_⟩;rintro _ rfl;refine As ?_
  walk_at "ww"
  exact BY ⟨_,⟨_,i,rfl,rfl⟩,λ_ h=>h⟩
 |turn lo hi=>
  unfold dP
  walk_at "ww"
  refine B4 (by decide +kernel) ?_;refine Ab ?_
  walk_at "ww"
  refine B4 (by decide +kernel) ?_;refine Ab ?_
  walk_at "ww"
  refine B4 (by decide +kernel) ?_;refine Ab ?_;exact CB (AD rfl rfl)
def ZEc:Aw ["loop","at"] ["loop","at"] (Ag W3):=by walk_at "z1"
def dw : ∀ss R,Vy ss R->ss.length=2:=by rintro _ _⟨r,g,i,xs,rfl,rfl⟩;rfl
def ZBY(F:AG K "joins" "joins" W3 f fd)(m:mg "joins"=some (.ref f)):
  AI P w K mg ZB "joins" 1 ["loop","at"] (B7 Vy):=by
 refine AI.mk F (F.binds (by walk_at "bD2")) m (F.BO (k:=0) ZEc (λvs H Q E h=>Fz.DJ dw h) (λAX A outer s H vs Q E a h=>?_))
 refine⟨_,(AA rfl (AR (nL (Gn BU (AE AK (qv 0) A4) AO) (Kw (NJ (Gn BU (AE AK (qv 0) A4) AO) (Kw (Gn Mj (qv 1) (AE AK (qv 0) A4)))))))),?_⟩;refine Fz.DK h dw ?_;rintro _ _⟨r,g,i,xs,rfl,rfl⟩;show Ws [_,_] _ _ _;refine CB (je (XS ?_))
 walk_at "ww"
 refine⟨0,.str r,rfl,Kr (j:=0) rfl,?_⟩
 walk_at "ww"
 unfold Ek;have q:∀z:Str,alike (.str r) (.str z)=decide (V.str r=V.str z):=λz=>by
  show decide (r=z)=_;rw[OD,ZAR,ZAR];exact⟨λh=>by rw[h],λh=>by injection h⟩
 rw[q];refine Ad (λc=>by rw[rG c]) (λc=>?_);rw[qP c];refine T6 (XS ?_)
 walk_at "ww"
 refine⟨0,.str r,rfl,Kr (j:=0) rfl,?_⟩
 walk_at "ww"
 rw[q];refine Ad (λc=>?_) (λc=>by rw[qP c]);rw[rG c]
 walk_at "ww"
 refine⟨1,.int g,rfl,Kr (j:=1) rfl,?_⟩
 walk_at "ww"
 rfl
def pD:Aw ["loop","deed"] ["loop","deed"] (Ag YD):=by walk_at "z1"
def mM : ∀ss R,VY ss R->ss.length=2:=by rintro _ _⟨r,g,cs,d,rfl,_,_,_,rfl⟩;rfl
def vz(F:AG K "coming_behind" "coming_behind" YD f fd)(m:mg "coming_behind"=some (.ref f)):
  AI P w K mg ZB "coming_behind" 2 ["loop","deed"] (B7 VY):=by
 refine AI.mk F (F.binds (by walk_at "bD2")) m (F.BO (k:=1) pD (λvs H Q E h=>Fz.DJ mM h) (λAX A outer s H vs Q E a h=>?_))
 refine⟨_,(A9 rfl (Ai (AU BU (AE AK (qv 1) A4) AO) (AA rfl (AR (AZ O0 a (A0 (AE AK (qv 0) A4) (A0 (AE AK (qv 1) A4) A3))))) Ak)
   (A9 rfl (Ai (HS (AU BU (AE AK (qv 1) A4) AO) (Gg (J0 (AZ Vk a (A0 (qv 0) (A0 (AE AK (qv 1) A4) A3)))))).pt (AA rfl (AR (Cg JE Co (A0 (BC Rb Et (A0 (Au cN (AE AK (qv 0) A4) (BF (A0 (AE AK (qv 1) A4) A3))) A3)) A3)))) Ak)
   (AA rfl (AR (AE AK (qv 0) A4))))),?_⟩
 refine Fz.DK h mM ?_;rintro _ _⟨r,g,cs,d,rfl,j,up,hx,rfl⟩;show Ws [_,_] _ _ _;unfold N0;cases d with
 |take x=>
  unfold dP
  walk_at "ww"
  refine Bq (by decide +kernel) ?_;refine CB (wp_call (As ?_))
  walk_at "ww"
  refine As ?_
  walk_at "ww"
  exact BY ⟨_,⟨cs,x,rfl,by omega,rfl⟩,λ_ h=>h⟩
 |put x i=>
  unfold dP
  walk_at "ww"
  refine B4 (by decide +kernel) ?_;refine Ab ?_
  walk_at "ww"
  refine Bq (by decide +kernel) ?_;refine FP (wp_call (As (AD rfl (As ?_))))
  walk_at "ww"
  refine BY ⟨_,⟨r,g,i,_,rfl,rfl⟩,?_⟩;rintro _ rfl;refine⟨_,rfl,Ad (λc=>?_) (λc=>?_)⟩
  .refine CB (Ql rfl (Ba (EH (ZFZ ?_))))
   walk_at "ww"
   refine⟨cs,rfl,?_⟩
   walk_at "ww"
   refine⟨by simp,[x],rfl,by simp,by simp;omega,λts b st=>?_⟩;refine⟨_,.inl ⟨rfl,?_⟩⟩;rw[ZN b st up (hx x i rfl),V0 c]
  .refine Ab ?_
   walk_at "ww"
   rw[aA (by cases e:Ek r g i <;> simp_all)]
 |move x i=>
  unfold dP
  walk_at "ww"
  refine B4 (by decide +kernel) ?_;refine Ab ?_
  walk_at "ww"
  refine B4 (by decide +kernel) (Dd (Ab ?_))
  walk_at "ww"
  rfl
 |turn lo hi=>
  unfold dP
  walk_at "ww"
  refine B4 (by decide +kernel) ?_;refine Ab ?_
  walk_at "ww"
  refine B4 (by decide +kernel) (Dd (Ab ?_))
  walk_at "ww"
  rfl
def ZEO:Aw ["row","loop","deed"] ["row","loop","deed"] (Ag bG):=by walk_at "z1"
def iQ : ∀ss R,Va ss R->ss.length=3:=by rintro _ _⟨tp,ns,r,g,cs,d,rfl,_,_,_,_,rfl⟩;rfl
def yp(F:AG K "loop_led" "loop_led" bG f fd)(m:mg "loop_led"=some (.ref f)):
  AI P w K mg ZB "loop_led" 5 ["row","loop","deed"] (B7 Va):=by
 refine AI.mk F (F.binds (by walk_at "bD3")) m (F.BO (k:=4) ZEO (λvs H Q E h=>Fz.DJ iQ h) (λAX A outer s H vs Q E b h=>?_))
 refine⟨_,(AA rfl (AR (BF (A0 (AE AK (qv 1) A4) (A0 (AZ WE b (A0 (qv 0) (A0 (AE AK (qv 1) A4) (A0 (qv 2) A3)))) (A0 (AZ Xr b (A0 (qv 1) (A0 (qv 2) A3))) A3)))))),?_⟩;refine Fz.DK h iQ ?_;rintro _ _⟨tp,ns,r,g,cs,d,rfl,hd,a,e,c,rfl⟩;show Ws [_,_,_] _ _ _;unfold N0;have i:=a.len
 walk_at "ww"
 refine wp_call (Dh (FC rfl (As ?_)))
 walk_at "ww"
 refine As (AD rfl (BY ⟨_,⟨tp,ns,g,d,rfl,hd,c,rfl⟩,?_⟩));rintro _ rfl
 walk_at "ww"
 refine wp_call (As (AD rfl (As (AD rfl (BY ⟨_,⟨r,g,cs,d,rfl,by omega,a.up,Zc a hd,rfl⟩,?_⟩)))));rintro _ rfl
 walk_at "ww"
 exact⟨by simp,rfl⟩
def W5:Aw ["self","loop","deed","many","tally"] ["self","loop","deed"] (Ag YE):=by walk_at "z1"
def kR:∀ss R,(Wh A7 AM) ss R->ss.length=3:=by rintro _ _⟨s,a,t,d,i,x,rfl,_,_,_,_,_,_,rfl⟩;rfl
def ZBZ(F:AG K "lead" "Course.lead" YE f fd)(G:Meth K A7 "lead" f):
  EJ P w K mg ZB A7 "lead" 8 ["self","loop","deed"] (C2 (Wh A7 AM)):=by
 refine⟨f,fd,F.BO (k:=7) W5 (λvs H Q E h=>Fz.Gw kR h) (λAX A outer s H vs Q E m h=>?_),(F.binds (by walk_at "bD3")),G,BQ⟩
 refine⟨_,(A9 rfl (Ax 3 W5.nd (BC Bs Aj (A0 (Hj Hi m (by decide) (qv 0) (A0 (qv 1) A3)) A3)))
   (A9 rfl (Ja (BH m) (Ds (qv 0)) (qv 1) (AZ b7 m (A0 (Ds (qv 0)) (A0 (Bw (BH m) (Ds (qv 0)) (qv 1) (λ_ _=>rfl)) (A0 (qv 2) A3)))))
   (A9 rfl (Ax 4 W5.nd (Bw (BH m) (Ds (qv 0)) (qv 1) (λ_ _=>rfl)))
   (A9 rfl (D1 (Ai (AU LW (BC Bs Aj (A0 (Hj Hi m (by decide) (qv 0) (A0 (qv 1) A3)) A3)) (qv 3)) (AA rfl (Xz (qv 4) A4 W9)) Ak))
   (AA rfl (Ai (AU FW (BC Bs Aj (A0 (Hj Hi m (by decide) (qv 0) (A0 (qv 1) A3)) A3)) (qv 3)) (AA rfl (Xz (qv 4) A4 W9)) Ak)))))),?_⟩
 refine Fz.UN h kR ?_;rintro _ _⟨s,a,t,d,i,x,rfl,J,ok,hx,hd,I,hn,rfl⟩;obtain⟨dx,aL,aS,us,BJ,rfl⟩:=J;show Ws [_,_,_,.any,.any] _ _ _;have l1:=ok.l1;have hi:i<s.ln.length:=(List.getElem?_eq_some_iff.mp hx).1;obtain⟨l,n⟩:∃l,s.ll[i]?=some l:=⟨_,BG (by omega)⟩;have y:x∈s.ln:=EI hx;have xs:x∈s.sn:=ok.sub x y;have D:s.ln.idxOf x=i:=ND ok.n1 hx;have L:=ok.good l (EI n);have ll:(CN s d i).length=s.ll.length:=Jg s d i;have c1:EB (EO s d i) x=l.cs:=ee (s:=EO s d i) ok.n1 hx (ay n);refine An (JY (D7 (JA rfl rfl (by rw[show(EO s d i).ll.length=s.ll.length from ll];exact l1) ?_)));rw[AL,c1];refine An (JD (i:=0) (t:=Bm (EO s d i) A7 a dx aL aS us) (E2 (wp_call (Dh (Ba (D9 (Pd rfl BQ E8 ⟨_,rfl,_,.inl ⟨rfl,?_⟩⟩)))))));refine As (D9 (G7 (KR rfl BQ Cs ⟨Ah s.ln,aL,_,rfl,AD rfl ⟨.inr x,i,.fz l.P,rfl,by rw[Fj y,D],Mh (ay n),_,rfl,?_⟩⟩)));refine As (AD rfl (BY ⟨_,⟨false,s.row,l.r,l.g,l.cs,d,rfl,hd,L,ok.row.len,I,rfl⟩,?_⟩));rintro _ rfl;refine(KR rfl BQ Cs ⟨true,aL,Ah s.ln,_,rfl,rfl,by unfold CH;rw[AL];show(CN s d i).length<=99999;have:=Ig ok.n1 ok.sub;omega,J3 ok.n1,BB,AD rfl ⟨.inr x,rfl,?_⟩⟩);rw[RM y,SI y];unfold Bm;rw[show([]++[1]:List Nat)=[1]from rfl,Ko,D];have M:(CH (EO s d i).ll).set i (.fz (Eh l.r (d.gap s.row l.g) (d.Gv l.r l.g l.cs)))=CH (CN s d (i+1)):=by
  rw[<- af n];exact TV _ _ (l.led s.row d)
 rw[M];obtain⟨q,C⟩:=ZDm (d:=d) (i:=i) ok xs;obtain⟨u,o,e,b,rfl⟩:=BJ.get C;have N:=List.idxOf_lt_length_iff.mpr xs;have c2:∀Q,EB ⟨s.row,s.ln,CN s d (i+1),s.sn,Q⟩ x=(l.led s.row d).cs:=λQ=>ee (s:=⟨s.row,s.ln,CN s d (i+1),s.sn,Q⟩) ok.n1 hx (by rw[<- af n,Cm (by rw[Jg];omega)]);show Ws [.ow true (Bm ⟨s.row,s.ln,CN s d (i+1),s.sn,Cf s d i⟩ A7 a dx aL aS us),.is (.str x),.is (dP d),.is (.int l.cs.length),.any] _ _ _;refine An (YY (i:=0) (G7 (U7 rfl BQ G2 ⟨Ah s.sn,aS,us,rfl,AD rfl ⟨.inr x,s.sn.idxOf x,_,rfl,Fj xs,o,_,b,_,rfl,?_⟩⟩)));have c:∀us',R2 (Qq AM) us' (Cf s d (i+1))->UK (.mt λp t'=>p=.A8/\DC (EO s d (i+1)) A7 AM a t') [.ow true (Bm ⟨s.row,s.ln,CN s d (i+1),s.sn,Cf s d (i+1)⟩ A7 a dx aL aS us'),.is (.str x),.is (dP d),.is (.int l.cs.length),.raw (ptr b)]:=λus' h=>⟨_,_,_,_,rfl,rfl,rfl,dx,aL,aS,us',h,rfl⟩;rw[mH hx n]at c;show Ws [.ow true (Bm ⟨s.row,s.ln,CN s d (i+1),s.sn,Cf s d i⟩ A7 a dx aL aS us),.is (.str x),.is (dP d),.is (.int l.cs.length),.raw (ptr b)] _ _ _;rcases cB l.cs.length (l.led s.row d).cs.length with h|h|h
 .refine An (Ff (Bu (CM (Fu (D7 (JA rfl rfl (by rw[show(CN s d (i+1)).length=s.ll.length from Jg s d (i+1)];exact l1) ?_))))));rw[AL,c2];refine⟨_,rfl,AD rfl ⟨_,rfl,_,rfl,Bq (oW (by omega)) ?_⟩⟩;refine Xy (Ij (j:=4) (i:=0) (p:=[2,s.sn.idxOf x]) rfl rfl (XT o) ⟨true,AM,e,_,b,_,1,_,rfl,rfl,GK,O1,by decide,by decide +kernel,rfl,Br ⟨_,rfl,?_⟩⟩);unfold Bm;rw[SG o];have v:R2 (Qq AM) (us.set (s.sn.idxOf x) (.nd (.obj AM e ["stood","joined","told","taken"]) b ((GO q.join).map .fz))) ((Cf s d i).modify (s.sn.idxOf x) (Sm.by l.cs.length (l.led s.row d).cs.length)):=BJ.set λB h'=>by
   have h':(Cf s d i)[s.sn.idxOf x]?=some B:=h';rw[C]at h';cases h';unfold Sm.by
   rw[rG h];exact⟨e,b,rfl⟩
  show Ws [.ow true (Bm ⟨s.row,s.ln,CN s d (i+1),s.sn,(Cf s d i).modify (s.sn.idxOf x) (Sm.by l.cs.length (l.led s.row d).cs.length)⟩ A7 a dx aL aS (us.set (s.sn.idxOf x) (.nd (.obj AM e ["stood","joined","told","taken"]) b ((GO q.join).map .fz)))),.is (.str x),.is (dP d),.is (.int l.cs.length),.raw (ptr b)] _ _ _;refine Bu (CM (Fu (D7 (JA rfl rfl (by rw[show(CN s d (i+1)).length=s.ll.length from Jg s d (i+1)];exact l1) ?_))));rw[AL,c2];exact⟨_,rfl,AD rfl ⟨_,rfl,_,rfl,B4 (λz=>by have:=rE z;omega) (Ab (c _ v))⟩⟩
 .have v:R2 (Qq AM) us ((Cf s d i).modify (s.sn.idxOf x) (Sm.by l.cs.length (l.led s.row d).cs.length)):=by
   unfold Sm.by
   rw[qP (by omega),qP (by omega),gq];exact BJ
  refine An (Ff (Bu (CM (Fu (D7 (JA rfl rfl (by rw[show(CN s d (i+1)).length=s.ll.length from Jg s d (i+1)];exact l1) ?_))))));rw[AL,c2];refine⟨_,rfl,AD rfl ⟨_,rfl,_,rfl,B4 (λz=>by have:=rE z;omega) (Ab ?_)⟩⟩;refine Bu (CM (Fu (D7 (JA rfl rfl (by rw[show(CN s d (i+1)).length=s.ll.length from Jg s d (i+1)];exact l1) ?_))));rw[AL,c2];exact⟨_,rfl,AD rfl ⟨_,rfl,_,rfl,B4 (λz=>by have:=rE z;omega) (Ab (c _ v))⟩⟩
 .refine An (Ff (Bu (CM (Fu (D7 (JA rfl rfl (by rw[show(CN s d (i+1)).length=s.ll.length from Jg s d (i+1)];exact l1) ?_))))));rw[AL,c2];refine⟨_,rfl,AD rfl ⟨_,rfl,_,rfl,B4 (λz=>by have:=rE z;omega) (Ab ?_)⟩⟩;refine Bu (CM (Fu (D7 (JA rfl rfl (by rw[show(CN s d (i+1)).length=s.ll.length from Jg s d (i+1)];exact l1) ?_))));rw[AL,c2];refine⟨_,rfl,AD rfl ⟨_,rfl,_,rfl,Bq (oW (by omega)) ?_⟩⟩;refine Xy (Ij (j:=4) (i:=0) (p:=[2,s.sn.idxOf x]) rfl rfl (XT o) ⟨true,AM,e,_,b,_,3,_,rfl,rfl,GK,NT,by decide,by decide +kernel,rfl,Br ⟨_,rfl,?_⟩⟩);unfold Bm;rw[SG o];have v:R2 (Qq AM) (us.set (s.sn.idxOf x) (.nd (.obj AM e ["stood","joined","told","taken"]) b ((GO q.take).map .fz))) ((Cf s d i).modify (s.sn.idxOf x) (Sm.by l.cs.length (l.led s.row d).cs.length)):=BJ.set λB h'=>by
   have h':(Cf s d i)[s.sn.idxOf x]?=some B:=h';rw[C]at h';cases h';unfold Sm.by
   rw[qP (by omega),rG h];exact⟨e,b,rfl⟩
  exact c _ v
def ZGw:Aw ["row","name","at"] ["row","name","at"] (Ag aj):=by walk_at "z1"
def da:∀ss R D,(Y8 ⟨B9,B8,Ay,B1,BK⟩) ss R D->ss.length=3:=by rintro _ _ _⟨tp,ns,x,i,rfl,_,rfl,rfl⟩;rfl
def x8(F:AG K "check_put" "check_put" aj f fd)(m:mg "check_put"=some (.ref f)):
  C1 P w K mg ZB "check_put" 3 ["row","name","at"] (Ci (Y8 ⟨B9,B8,Ay,B1,BK⟩)):=by
 refine C1.mk F (F.binds (by walk_at "bD3")) m (F.JR (k:=2) ZGw (λvs H Q E h=>Fz.Jh da h) (λAX A outer s H vs Q E a h=>?_))
 refine⟨_,(A9 rfl (Ai (G6 (J0 (AZ NL a (A0 (qv 1) A3)))) (AA rfl (JZ Wk (by rfl) YI a (by decide) rfl rfl EM (A0 (qv 1) A3))) Ak)
   (A9 rfl (Ai (AU Mi (qv 1) (qv 0)) (AA rfl (JZ YW (by rfl) Xs a (by decide) rfl rfl EM (A0 (qv 1) A3))) Ak)
   (A9 rfl (Ai (G6 (R4 EG EG A4 (qv 2) (BC Bs Aj (A0 (qv 0) A3)))) (AA rfl (JZ Ii (by rfl) Ik a (by decide) rfl rfl EM (A0 (qv 2) A3))) Ak)
   (AA rfl (Ai (AU Mj (BC Bs Aj (A0 (qv 0) A3)) (Pp (v:=.int 40) (by rfl) VA ⟨_,rfl⟩)) (AA rfl (ZGT (by rfl) Xi Zl rfl rfl EM (A0 AO A3))) Ak))))),?_⟩
 refine Fz.JO h da ?_;rintro _ _ _⟨tp,ns,x,i,rfl,⟨b,hi⟩,rfl,rfl⟩;intro i0;show Ws [_,_,_] _ _ _;refine An (Bu (Gq (FP (Tp (AD rfl ⟨x,rfl,b.2,_,rfl,?_⟩)))));refine Ad (λc=>?_) (λc=>?_)
 .refine GV (AD rfl ⟨b.1,trivial,?_⟩);show Ae.B0 _ _ _=_;simp only[Ae.B0];rw[rG (by cases e:isNm x <;> simp_all)];rfl
 have h1:¬ isNm x=false:=by cases e:isNm x <;> simp_all
 refine Ab ?_
 walk_at "ww"
 refine Ad (λc=>?_) (λc=>?_)
 .refine GV (AD rfl ⟨b.1,trivial,?_⟩);show Ae.B0 _ _ _=_;simp only[Ae.B0];rw[qP h1,rG (rE c)];rfl
 have h2:x∉ns:=λz=>c (oW z);refine Ab ?_;have bad:¬ inR i 0 ns.length->Ae.B0 ⟨B9,B8,Ay,B1,BK⟩ ns (.put x i)=some ⟨B1,["at"],[.int i]⟩:=λz=>by
  simp only[Ae.B0];rw[qP h1,qP h2,rG z];rfl
 refine An (Bu (Gq (CM (Oq ?_))))
 walk_at "ww"
 refine Ad (λc=>?_) (λc=>?_)
 .walk_at "ww"
  rw[AL];refine Ad (λc2=>?_) (λc2=>?_)
  .refine GV (AD rfl ⟨hi,trivial,bad λz=>?_⟩);rw[oW z.2]at c2;cases c2
  .have g:inR i 0 ns.length:=⟨rE c,by
    cases e:decide (i<=(ns.length:Int))with
    |true=>exact rE e
    |false=>exact absurd (by rw[e];rfl) c2⟩
   refine Ab ?_
   walk_at "ww"
   rw[AL];refine Ad (λd=>?_) (λd=>?_)
   .refine rN ?_
    walk_at "ww"
    refine⟨by simp,trivial,?_⟩;show Ae.B0 _ _ _=_;simp only[Ae.B0];have q:=rE d;rw[qP h1,qP h2,qP (Decidable.not_not.mpr g),rG (by omega)];rfl
   .refine Ab ⟨_,rfl,?_⟩;show Ae.B0 _ _ _=_;simp only[Ae.B0];have q:¬ (40:Int)<=ns.length:=λz=>d (oW z);rw[qP h1,qP h2,qP (Decidable.not_not.mpr g),qP (by omega)]
 .refine⟨false,rfl,Bq rfl ?_⟩;refine GV (AD rfl ⟨hi,trivial,bad λz=>c (oW z.1)⟩)
def ZAp:Aw ["row","name","at"] ["row","name","at"] (Ag WN):=by walk_at "z1"
def kO:∀ss R D,(V2 ⟨B9,B8,Ay,B1,BK⟩) ss R D->ss.length=3:=by rintro _ _ _⟨tp,ns,x,i,rfl,_,rfl,rfl⟩;rfl
def sh(F:AG K "check_move" "check_move" WN f fd)(m:mg "check_move"=some (.ref f)):
  C1 P w K mg ZB "check_move" 4 ["row","name","at"] (Ci (V2 ⟨B9,B8,Ay,B1,BK⟩)):=by
 refine C1.mk F (F.binds (by walk_at "bD3")) m (F.JR (k:=3) ZAp (λvs H Q E h=>Fz.Jh kO h) (λAX A outer s H vs Q E a h=>?_))
 refine⟨_,(A9 rfl (EL (G8 GU a (by decide) EM rfl (A0 (qv 0) (A0 (qv 1) A3))))
   (AA rfl (Ai (G6 (R4 EG FW A4 (qv 2) (BC Bs Aj (A0 (qv 0) A3)))) (AA rfl (JZ Ii (by rfl) Ik a (by decide) rfl rfl EM (A0 (qv 2) A3))) Ak))),?_⟩
 refine Fz.JO h kO ?_;rintro _ _ _⟨tp,ns,x,i,rfl,⟨b,hi⟩,rfl,rfl⟩;intro i0;show Ws [_,_,_] _ _ _;refine An (Ke ?_);refine Hf ?_;refine Dh (FC rfl (As (AD rfl (BY ⟨_,_,⟨tp,ns,x,rfl,b,rfl,rfl⟩,trivial,?_,?_⟩))))
 .rintro e⟨hx,rfl⟩;show Ae.B0 _ _ _=_;simp only[Ae.B0];rw[rG hx]
 rintro _⟨hx,_⟩;have bad:¬ inR i 0 (ns.length - 1)->Ae.B0 ⟨B9,B8,Ay,B1,BK⟩ ns (.move x i)=some ⟨B1,["at"],[.int i]⟩:=λz=>by
  simp only[Ae.B0];rw[qP (Decidable.not_not.mpr hx),rG z];rfl
 refine Bu (Gq (CM (Oq ?_)))
 walk_at "ww"
 refine Ad (λc=>?_) (λc=>?_)
 .walk_at "ww"
  rw[AL];refine Ad (λc2=>?_) (λc2=>?_)
  .refine GV (AD rfl ⟨hi,trivial,bad λz=>?_⟩);have:=z.2;rw[oW (by omega)]at c2;cases c2
  .have d:i<(ns.length:Int):=by
    cases e:decide (i<(ns.length:Int))with
    |true=>exact rE e
    |false=>exact absurd (by rw[e];rfl) c2
   refine Ab ⟨_,rfl,?_⟩;show Ae.B0 _ _ _=_;simp only[Ae.B0];rw[qP (Decidable.not_not.mpr hx),qP (Decidable.not_not.mpr ⟨rE c,by omega⟩)]
 .refine⟨false,rfl,Bq rfl ?_⟩;refine GV (AD rfl ⟨hi,trivial,bad λz=>c (oW z.1)⟩)
def yn:Aw ["row","low","high"] ["row","low","high"] (Ag Zk):=by walk_at "z1"
def mV:∀ss R D,(Zu ⟨B9,B8,Ay,B1,BK⟩) ss R D->ss.length=3:=by rintro _ _ _⟨tp,ns,lo,hi,rfl,_,rfl,rfl⟩;rfl
def qT(F:AG K "check_turn" "check_turn" Zk f fd)(m:mg "check_turn"=some (.ref f)):
  C1 P w K mg ZB "check_turn" 3 ["row","low","high"] (Ci (Zu ⟨B9,B8,Ay,B1,BK⟩)):=by
 refine C1.mk F (F.binds (by walk_at "bD3")) m (F.JR (k:=2) yn (λvs H Q E h=>Fz.Jh mV h) (λAX A outer s H vs Q E i h=>?_))
 refine⟨_,(A9 rfl (Ai (G6 (R4 EG EG A4 (qv 1) (BC Bs Aj (A0 (qv 0) A3)))) (AA rfl (JZ Ii (by rfl) Ik i (by decide) rfl rfl EM (A0 (qv 1) A3))) Ak)
   (AA rfl (Ai (G6 (R4 EG EG (qv 1) (qv 2) (BC Bs Aj (A0 (qv 0) A3)))) (AA rfl (JZ Ii (by rfl) Ik i (by decide) rfl rfl EM (A0 (qv 2) A3))) Ak))),?_⟩
 refine Fz.JO h mV ?_;rintro _ _ _⟨tp,ns,lo,hi,rfl,⟨j,hh⟩,rfl,rfl⟩;intro i0;show Ws [_,_,_] _ _ _;have bad:¬ inR lo 0 ns.length->Ae.B0 ⟨B9,B8,Ay,B1,BK⟩ ns (.turn lo hi)=some ⟨B1,["at"],[.int lo]⟩:=λz=>by
  simp only[Ae.B0];rw[rG z];rfl
 have g:inR lo 0 ns.length->¬ inR hi lo ns.length->Ae.B0 ⟨B9,B8,Ay,B1,BK⟩ ns (.turn lo hi)=some ⟨B1,["at"],[.int hi]⟩:=λy z=>by
  simp only[Ae.B0];rw[qP (Decidable.not_not.mpr y),rG z];rfl
 refine An (Bu (Gq (CM (Oq ?_))))
 walk_at "ww"
 refine Ad (λc=>?_) (λc=>?_)
 .walk_at "ww"
  rw[AL];refine Ad (λc2=>?_) (λc2=>?_)
  .refine GV (AD rfl ⟨j,trivial,bad λz=>?_⟩);rw[oW z.2]at c2;cases c2
  .have b:inR lo 0 ns.length:=⟨rE c,by
    cases e:decide (lo<=(ns.length:Int))with
    |true=>exact rE e
    |false=>exact absurd (by rw[e];rfl) c2⟩
   refine Ab ?_;refine Bu (Gq (CM (Oq ?_)))
   walk_at "ww"
   refine Ad (λd=>?_) (λd=>?_)
   .walk_at "ww"
    rw[AL];refine Ad (λa=>?_) (λa=>?_)
    .refine GV (AD rfl ⟨hh,trivial,g b λz=>?_⟩);rw[oW z.2]at a;cases a
    .have l:inR hi lo ns.length:=⟨rE d,by
      cases e:decide (hi<=(ns.length:Int))with
      |true=>exact rE e
      |false=>exact absurd (by rw[e];rfl) a⟩
     refine Ab ⟨_,rfl,?_⟩;show Ae.B0 _ _ _=_;simp only[Ae.B0];rw[qP (Decidable.not_not.mpr b),qP (Decidable.not_not.mpr l)]
   .refine⟨false,rfl,Bq rfl ?_⟩;refine GV (AD rfl ⟨hh,trivial,g b λz=>d (oW z.1)⟩)
 .refine⟨false,rfl,Bq rfl ?_⟩;refine GV (AD rfl ⟨j,trivial,bad λz=>c (oW z.1)⟩)
def qD:Aw ["row","deed"] ["row","deed"] (Ag Y4):=by walk_at "z1"
def iu:∀ss R D,(YL ⟨B9,B8,Ay,B1,BK⟩) ss R D->ss.length=2:=by rintro _ _ _⟨tp,ns,d,rfl,_,rfl,rfl⟩;rfl
def ZB1(F:AG K "check_deed" "check_deed" Y4 f fd)(m:mg "check_deed"=some (.ref f)):
  C1 P w K mg ZB "check_deed" 5 ["row","deed"] (Ci (YL ⟨B9,B8,Ay,B1,BK⟩)):=by
 refine C1.mk F (F.binds (by walk_at "bD2")) m (F.JR (k:=4) qD (λvs H Q E h=>Fz.Jh iu h) (λAX A outer s H vs Q E c h=>?_))
 refine⟨_,(AA rfl (Ai (AU BU (AE AK (qv 1) A4) AO) (AA rfl (EL (G8 Z2 c (by decide) EM rfl (A0 (qv 0) (A0 (AE AK (qv 1) A4) (A0 (AE AK (qv 1) A4) A3)))))) (AA rfl (Ai (AU BU (AE AK (qv 1) A4) AO) (AA rfl (EL (G8 GU c (by decide) EM rfl (A0 (qv 0) (A0 (AE AK (qv 1) A4) A3))))) (AA rfl (Ai (AU BU (AE AK (qv 1) A4) AO) (AA rfl (EL (G8 bT c (by decide) EM rfl (A0 (qv 0) (A0 (AE AK (qv 1) A4) (A0 (AE AK (qv 1) A4) A3)))))) (AA rfl (EL (G8 Zr c (by decide) EM rfl (A0 (qv 0) (A0 (AE AK (qv 1) A4) (A0 (AE AK (qv 1) A4) A3)))))))))))),?_⟩;refine Fz.JO h iu ?_;rintro _ _ _⟨tp,ns,d,rfl,b,rfl,rfl⟩;intro i0;show Ws [_,_] _ _ _;cases d with
 |put x i=>
  unfold aP
  walk_at "ww"
  refine Bq (by decide +kernel) ?_;refine Ke ?_;refine Hf ?_;refine Dh (FC rfl (As ?_))
  walk_at "ww"
  refine As ?_
  walk_at "ww"
  exact BY ⟨_,_,⟨tp,ns,_,_,rfl,b,rfl,rfl⟩,trivial,λe h=>h,λp a=>⟨_,rfl,a⟩⟩
 |take x=>
  unfold aP
  walk_at "ww"
  refine B4 (by decide +kernel) ?_
  walk_at "ww"
  refine Bq (by decide +kernel) ?_;refine Ke ?_;refine Hf ?_;refine Dh (FC rfl (As ?_))
  walk_at "ww"
  refine BY ⟨_,_,⟨tp,ns,x,rfl,b,rfl,rfl⟩,trivial,?_,?_⟩
  .rintro e⟨hx,rfl⟩;show Ae.B0 _ _ _=_;simp only[Ae.B0];rw[rG hx]
  .rintro p⟨hx,_⟩;refine⟨_,rfl,?_⟩;show Ae.B0 _ _ _=_;simp only[Ae.B0];rw[qP (Decidable.not_not.mpr hx)]
 |move x i=>
  unfold aP
  walk_at "ww"
  refine B4 (by decide +kernel) ?_
  walk_at "ww"
  refine B4 (by decide +kernel) ?_
  walk_at "ww"
  refine Bq (by decide +kernel) ?_;refine Ke ?_;refine Hf ?_;refine Dh (FC rfl (As ?_))
  walk_at "ww"
  refine As ?_
  walk_at "ww"
  exact BY ⟨_,_,⟨tp,ns,_,_,rfl,b,rfl,rfl⟩,trivial,λe h=>h,λp a=>⟨_,rfl,a⟩⟩
 |turn lo hi=>
  unfold aP
  walk_at "ww"
  refine B4 (by decide +kernel) ?_
  walk_at "ww"
  refine B4 (by decide +kernel) ?_
  walk_at "ww"
  refine B4 (by decide +kernel) ?_;refine Ke ?_;refine Hf ?_;refine Dh (FC rfl (As ?_))
  walk_at "ww"
  refine As ?_
  walk_at "ww"
  exact BY ⟨_,_,⟨tp,ns,_,_,rfl,b,rfl,rfl⟩,trivial,λe h=>h,λp a=>⟨_,rfl,a⟩⟩
def sU:Aw ["row","low","high"] ["row","low","high"] (Ag Yb):=by walk_at "z1"
def gj : ∀ss R,V6 ss R->ss.length=3:=by rintro _ _⟨ns,lo,hi,rfl,_,_,_,rfl⟩;rfl
def ZEY(F:AG K "row_turned" "row_turned" Yb f fd)(m:mg "row_turned"=some (.ref f)):
  AI P w K mg ZB "row_turned" 1 ["row","low","high"] (B7 V6):=by
 refine AI.mk F (F.binds (by walk_at "bD3")) m (F.BO (k:=0) sU (λvs H Q E h=>Fz.DJ gj h) (λAX A outer s H vs Q E b h=>?_))
 refine⟨_,(AA rfl (AR (Au IV (Au IV (Cg KA By (A0 (GY Fz.Oc (qv 0) IA (Em (qv 1))) A3)) (dI rfl rfl By rfl NB (A0 (GY Fz.Oc (qv 0) (Em (qv 1)) (Em (qv 2))) A3))) (Cg KA By (A0 (GY Fz.Oc (qv 0) (Em (qv 2)) IA) A3))))),?_⟩;refine Fz.DK h gj ?_;rintro _ _⟨ns,lo,hi,rfl,a,h1,h2,rfl⟩;show Ws [_,_,_] _ _ _
 walk_at "ww"
 refine Ba (EH (w6 ?_))
 walk_at "ww"
 rw[kG,ZEw _ h1 (by simpa using h2)]
 refine⟨by simp;omega,?_⟩
 walk_at "ww"
 rw[gC];refine⟨by simp;omega,?_⟩;unfold Fq;simp only[E4,Qx,Qv,o7]
def yq:Aw ["row","name","at"] ["row","name","at"] (Ag ZY):=by walk_at "z1"
def jN : ∀ss R,X1 ss R->ss.length=3:=by rintro _ _⟨tp,ns,x,i,rfl,_,rfl⟩;rfl
def r9(F:AG K "row_with" "row_with" ZY f fd)(m:mg "row_with"=some (.ref f)):
  AI P w K mg ZB "row_with" 1 ["row","name","at"] (B7 X1):=by
 refine AI.mk F (F.binds (by walk_at "bD3")) m (F.BO (k:=0) yq (λvs H Q E h=>Fz.DJ jN h) (λAX A outer s H vs Q E b h=>?_))
 refine⟨_,(AA rfl (AR (Au IV (Au IV (Cg KA By (A0 (GY Fz.Oc (qv 0) IA (Em (qv 2))) A3)) (Fg (A0 (qv 1) A3))) (Cg KA By (A0 (GY Fz.Oc (qv 0) (Em (qv 2)) IA) A3))))),?_⟩;refine Fz.DK h jN ?_;rintro _ _⟨tp,ns,x,i,rfl,a,rfl⟩;show Ws [_,_,_] _ _ _
 walk_at "ww"
 rw[kG];refine⟨by simp,?_⟩
 walk_at "ww"
 refine⟨by simp;omega,?_⟩
 walk_at "ww"
 rw[gC];refine⟨by simp;omega,?_⟩;unfold ins;simp only[E4,Qx,C8,Qv,C4,List.singleton_append]
def wN:Aw ["row","name"] ["row","name"] (Ag Rl):=by walk_at "z1"
def rb:=Sc [(".0",.local),("thing",.local),("name",.free)]
def ux:FK ["row","name"] (Ag Rl) rb "thing" ["name"] [1]:=by walk_at "z2"
def kN : ∀ss R,ZC ss R->ss.length=2:=by rintro _ _⟨tp,ns,x,rfl,_,rfl⟩;rfl
def zK(F:AG K "row_without" "row_without" Rl f fd)(m:mg "row_without"=some (.ref f)):
  AI P w K mg ZB "row_without" 1 ["row","name"] (B7 ZC):=by
 refine AI.mk F (F.binds (by walk_at "bD2")) m (F.BO (k:=0) wN (λvs H Q E h=>Fz.DJ kN h) (λAX A outer s H vs Q E c h=>?_))
 refine⟨_,(AA rfl (AR (KL rfl ux (Im (qv 0)) (λ_ _ _ _=>by exact(Ly (AU LF (qv 1) (qv 0)))) (λ_ _ _ _=>by exact(qv 1))))),?_⟩;refine Fz.DK h kN ?_;rintro _ _⟨tp,ns,x,rfl,b,rfl⟩;show Ws [_,_] _ _ _;refine Nn (VQ PV.str (λy=>!alike (.str y) (.str x)) PV.str ?_ str_inj)
 walk_at "ww"
 refine⟨by omega,λy a=>by walk_at "ww"; rfl,λy a _=>by walk_at "ww"; rfl,?_⟩
 rw[eE]
def ZE1:Aw ["row","deed"] ["row","deed"] (Ag WL):=by walk_at "z1"
def lR:∀ss R D,(b9 ⟨B9,B8,Ay,B1,BK⟩) ss R D->ss.length=2:=by rintro _ _ _⟨ns,d,rfl,_,_,rfl,rfl⟩;rfl
def ZCf(F:AG K "done" "done" WL f fd)(m:mg "done"=some (.ref f)):
  C1 P w K mg ZB "done" 6 ["row","deed"] (Ci (b9 ⟨B9,B8,Ay,B1,BK⟩)):=by
 refine C1.mk F (F.binds (by walk_at "bD2")) m (F.JR (k:=5) ZE1 (λvs H Q E h=>Fz.Jh lR h) (λAX A outer s H vs Q E a h=>?_))
 refine⟨_,(A9 rfl (EL (G8 Vz a (by decide) EM rfl (A0 (qv 0) (A0 (qv 1) A3))))
   (A9 rfl (Ai (AU BU (AE AK (qv 1) A4) AO) (AA rfl (AR (AZ Ta a (A0 (qv 0) (A0 (AE AK (qv 1) A4) (A0 (AE AK (qv 1) A4) A3)))))) Ak)
   (A9 rfl (Ai (AU BU (AE AK (qv 1) A4) AO) (AA rfl (AR (AZ Sn a (A0 (qv 0) (A0 (AE AK (qv 1) A4) A3))))) Ak)
   (A9 rfl (Ai (AU BU (AE AK (qv 1) A4) AO) (AA rfl (AR (AZ Ta a (A0 (AZ Sn a (A0 (qv 0) (A0 (AE AK (qv 1) A4) A3))) (A0 (AE AK (qv 1) A4) (A0 (AE AK (qv 1) A4) A3)))))) Ak)
   (AA rfl (AR (AZ XY a (A0 (qv 0) (A0 (AE AK (qv 1) A4) (A0 (AE AK (qv 1) A4) A3)))))))))),?_⟩
 refine Fz.JO h lR ?_;rintro _ _ _⟨ns,d,rfl,b,c,rfl,rfl⟩;intro i0;show Ws [_,_] _ _ _;refine An (Ke ?_);refine Hf ?_;refine Dh (FC rfl (As (AD rfl (BY ⟨_,_,⟨false,ns,d,rfl,b,rfl,rfl⟩,trivial,λe h=>h,?_⟩))));intro _ hd;obtain⟨d',DI⟩:=Ae.good hd;have hx:=Is.ZAx b DI;have ok:=DI.2;rw[DI.1];cases d' with
 |put x i=>
  unfold dP
  walk_at "ww"
  refine Bq (by decide +kernel) ?_;refine Nn (Qm (Dh (FC rfl (As ?_))))
  walk_at "ww"
  refine As ?_
  walk_at "ww"
  exact BY ⟨_,⟨false,ns,x,i,rfl,by omega,rfl⟩,λxs h=>⟨_,DI,h⟩⟩
 |take x=>
  unfold dP
  walk_at "ww"
  refine B4 (by decide +kernel) ?_;refine Ab ?_
  walk_at "ww"
  refine Bq (by decide +kernel) ?_;refine Nn (Qm (Dh (FC rfl (As ?_))))
  walk_at "ww"
  exact BY ⟨_,⟨false,ns,x,rfl,by omega,rfl⟩,λxs h=>⟨_,DI,h⟩⟩
 |move x i=>
  unfold dP
  walk_at "ww"
  refine B4 (by decide +kernel) ?_;refine Ab ?_
  walk_at "ww"
  refine B4 (by decide +kernel) ?_;refine Ab ?_
  walk_at "ww"
  refine Bq (by decide +kernel) ?_;refine Nn (Qm (Dh (Ba (EH (Qm (Dh (FC rfl (As ?_))))))))
  walk_at "ww"
  refine BY ⟨_,⟨false,ns,x,rfl,by omega,rfl⟩,?_⟩;rintro _ rfl;refine⟨_,.inl ⟨rfl,As ?_⟩⟩
  walk_at "ww"
  refine As ?_
  walk_at "ww"
  have g:(wo ns x).length<=ns.length:=OH _ _;exact BY ⟨_,⟨false,wo ns x,x,i,rfl,by omega,rfl⟩,λxs h=>⟨_,DI,h⟩⟩
 |turn lo hi=>
  unfold dP
  walk_at "ww"
  refine B4 (by decide +kernel) ?_;refine Ab ?_
  walk_at "ww"
  refine B4 (by decide +kernel) ?_;refine Ab ?_
  walk_at "ww"
  refine B4 (by decide +kernel) ?_;refine Ab ?_;refine Nn (Qm (Dh (FC rfl (As ?_))))
  walk_at "ww"
  refine As ?_
  walk_at "ww"
  exact BY ⟨_,⟨ns,lo,hi,rfl,by omega,ok.1,ok.2,rfl⟩,λxs h=>⟨_,DI,h⟩⟩
def Yi:Aw ["self","deed","behind","loop"] ["self","deed"] (Ag VX):=by walk_at "z1"
def jB:∀ss R,(Sq A7 AM) ss R->ss.length=2:=by rintro _ _⟨s,a,t,d,rfl,_,_,_,_,rfl⟩;rfl
def ZEk(F:AG K "follows_deed" "Course.follows_deed" VX f fd)(n:Meth K A7 "follows_deed" f):
  EJ P w K mg ZB A7 "follows_deed" 9 ["self","deed"] (C2 (Sq A7 AM)):=by
 refine⟨f,fd,F.BO (k:=8) Yi (λvs H Q E h=>Fz.Gw jB h) (λAX A outer s H vs Q E j h=>?_),(F.binds (by walk_at "bD2")),n,BQ⟩
 refine⟨_,(A9 rfl (ZCz rfl rfl (by rfl) JK (λ_ _ _ g1=>by exact(AA rfl (Ax 2 Yi.nd (G8 XF j (by decide) g1 rfl (A0 (show QE _ _ (K5 K _ _)from Ds (qv 0)) (A0 (qv 1) A3)))))) (λ_=>by exact(AA rfl (AR DD))))
   (A9 rfl (D1 (Kn LA rfl (Im (Cg (Qf rfl) By (A0 (Ds (qv 0)) A3))) (D6 3 Yi.nd) (AA rfl (EL (Hj ag j (by decide) (qv 0) (A0 (qv 3) (A0 (qv 1) A3)))))))
   (A9 rfl (KC (qv 0) (qv 2))
   (AA rfl (AR DD))))),?_⟩
 refine Fz.Jp h jB ?_;rintro _ _⟨s,a,t,d,rfl,o,ok,g,hn,rfl⟩;obtain⟨dx,aL,aS,us,BJ,rfl⟩:=o;show Ws [_,_,.any,.any] _ _ _;have l1:=ok.l1;have l2:=ok.l2;have u:=Ig ok.n1 ok.sub;refine An (ZGD (λAN=>AN=[.ow true (Bm s A7 a dx aL aS us),.is (aP d),.any,.any]) (λx=>d.B0 ⟨B9,B8,Ay,B1,BK⟩ s.row=some x) (λE=>?_) (λHx x q m=>?_))
 .letI:Xw:=HF E (λAN=>AN=[.ow true (Bm s A7 a dx aL aS us),.is (aP d),.any,.any]) (λx=>d.B0 ⟨B9,B8,Ay,B1,BK⟩ s.row=some x);refine Nt (qI (Dh (Ba (D9 (Pd rfl BQ E8 ⟨_,rfl,_,.inl ⟨rfl,As (AD rfl (BY ⟨_,_,⟨s.row,d,rfl,g,ok.row.len,rfl,rfl⟩,rfl,λe h=>h,?_⟩))⟩⟩)))));rintro _⟨d',DI,rfl⟩;clear this;show Ws [.ow true (Bm s A7 a dx aL aS us),.is (aP d),.own ((d'.done s.row).map .str),.any] _ _ _;refine Ln 2 rfl ?_;rw[DI.1];have c:=Ae.ZP g DI;refine An (Ff (Ld (λ_ i AN=>∃(b:Slot)(t':OV),AN=[.ow true t',.is (dP d'),.is (.lst ((d'.done s.row).map .str)),b]/\DC (EO s d' i) A7 AM a t') (Ot (Ks (EH (i7 (KR rfl BQ Cs ⟨Ah s.ln,aL,_,rfl,by unfold Ah;rw[AL];omega,_,.inl ⟨rfl,?_⟩⟩)))))));rw[Pz];refine⟨⟨_,_,rfl,dx,aL,aS,us,BJ,rfl⟩,?_,?_⟩
  .rintro i p AN l⟨b,t',rfl,HC⟩;rw[Bc]at l;obtain⟨x,hx,rfl⟩:=Option.map_eq_some_iff.mp l;refine Q4 ?_;obtain⟨dx',LY,LC,us',Hw,rfl⟩:=id HC;refine Vc (i:=0) (N5 rfl (by decide +kernel) (Dw (AD rfl (Dw (AD rfl (GJ ⟨_,⟨s,a,_,d',i,x,rfl,HC,ok,hx,DI.2,c,hn,rfl⟩,?_⟩))))));rintro _ r⟨rfl,CV⟩;obtain⟨nk,Fl,rfl⟩:=CV.nd;exact⟨nk,Fl,rfl,_,_,rfl,CV⟩
  .rintro AN⟨b,t',rfl,HC⟩;rw[AL]at HC;obtain⟨dx',LY,LC,us',Hw,rfl⟩:=HC;refine An (JW (i:=0) (t:=Bm (EO s d' s.ln.length) A7 a dx' LY LC us') (E2 (AD rfl (DG rfl ⟨true,A7,dx',JQ,a,_,rfl,rfl,BQ,E8,by decide,BB,?_⟩))));rw[OV.Fb];refine Dv (i:=0) rfl (Cj (.inl ⟨⟨d'.done s.row,s.ln,s.ll.map (Lp.led s.row d'),s.sn,Cf s d' s.ln.length⟩,?_,rfl,dx',LY,LC,us',Hw,?_⟩))
   .unfold Gk;rw[kh DI]
   .rw[<- gH,<- l1];rfl
 .subst q;refine⟨ZDk bW m,Dv (i:=0) rfl (Cj (.inr ⟨?_,rfl,dx,aL,aS,us,BJ,rfl⟩))⟩;unfold Gk;rw[hZ m]
def ZAS:Aw ["self","entry"] ["self","entry"] (Ag ae):=by walk_at "z1"
def eP:∀ss R,(bZ A7 AM) ss R->ss.length=2:=by rintro _ _⟨s,a,t,e,rfl,_,_,_,_,rfl⟩;rfl
def y6(F:AG K "follows" "Course.follows" ae f fd)(l:Meth K A7 "follows" f):
  EJ P w K mg ZB A7 "follows" 10 ["self","entry"] (C2 (bZ A7 AM)):=by
 refine⟨f,fd,F.BO (k:=9) ZAS (λvs H Q E h=>Fz.Gw eP h) (λAX A outer s H vs Q E g h=>?_),(F.binds (by walk_at "bD2")),l,BQ⟩
 refine⟨_,(A9 rfl (Ai (AU BU (AE AK (qv 1) A4) AO) (AA rfl (AR (Hj VM g (by decide) (qv 0) (A0 (AE AK (qv 1) A4) (A0 (AE AK (qv 1) A4) A3))))) Ak)
   (A9 rfl (Ai (AU BU (AE AK (qv 1) A4) AO) (AA rfl (AR (Hj ZS g (by decide) (qv 0) (A0 (AE AK (qv 1) A4) (A0 (AE AK (qv 1) A4) A3))))) Ak)
   (A9 rfl (Ai (AU BU (AE AK (qv 1) A4) AO) (AA rfl (AR (Hj ZF g (by decide) (qv 0) (A0 (AE AK (qv 1) A4) A3)))) Ak)
   (AA rfl (AR (Hj YA g (by decide) (qv 0) (A0 (qv 1) A3))))))),?_⟩
 refine Fz.Jp h eP ?_;rintro _ _⟨s,a,t,e,rfl,c,ok,j,hn,rfl⟩;obtain⟨dx,aL,aS,us,BJ,rfl⟩:=id c;show Ws [_,_] _ _ _;have nd:∀{o:Option Ls}{p:PV}{t':OV},Dt (λs t=>DC s A7 AM a t) s o p t'->∃EW us',t'=.nd EW a us'/\(∃nk a us,t'=.nd nk a us)/\Dt (λs t=>DC s A7 AM a t) s o p t':=λh=>by
  obtain⟨nk,us,e⟩:=h.nd λ_ _ h=>h.nd;exact⟨nk,us,e,⟨nk,a,us,e⟩,h⟩
 cases e with
 |Hr x r=>
  show Ws [_,.is (.tup [.str "begin",.str x,.str r])] _ _ _
  walk_at "ww"
  refine Bq (by decide +kernel) ?_;refine N7 (i:=0) rfl (N5 rfl (by decide +kernel) (Dw ?_))
  walk_at "ww"
  refine Dw ?_
  walk_at "ww"
  exact GJ ⟨_,⟨s,a,_,x,r,rfl,c,ok,j.1,j.2,hn,rfl⟩,λp t' h=>nd h⟩
 |tell x y=>
  show Ws [_,.is (.tup [.str "tell",.str x,.str y])] _ _ _
  walk_at "ww"
  refine B4 (by decide +kernel) (Ab ?_)
  walk_at "ww"
  refine Bq (by decide +kernel) ?_;refine N7 (i:=0) rfl (N5 rfl (by decide +kernel) (Dw ?_))
  walk_at "ww"
  refine Dw ?_
  walk_at "ww"
  exact GJ ⟨_,⟨s,a,_,x,y,rfl,c,ok,hn,rfl⟩,λp t' h=>nd h⟩
 |over x=>
  show Ws [_,.is (.tup [.str "over",.str x])] _ _ _
  walk_at "ww"
  refine B4 (by decide +kernel) (Ab ?_)
  walk_at "ww"
  refine B4 (by decide +kernel) (Ab ?_)
  walk_at "ww"
  refine Bq (by decide +kernel) ?_;refine N7 (i:=0) rfl (N5 rfl (by decide +kernel) (Dw ?_))
  walk_at "ww"
  exact GJ ⟨_,⟨s,a,_,x,rfl,c,ok,rfl⟩,λp t' h=>nd h⟩
 |Ee d=>
  have b:∀nx,Ws [.ow true (Bm s A7 a dx aL aS us),.is (aP d)] (Gf (Ng A7 "follows_deed" (C2 (Sq A7 AM)) [] E0 (BS 0) (Al (BS 1) BR))) nx (.mt (Dt (λs t=>DC s A7 AM a t) s (FG s (.Ee d)))):=λnx=>N7 (i:=0) rfl (N5 rfl (by decide +kernel) (Dw (AD rfl (GJ ⟨_,⟨s,a,_,d,rfl,c,ok,j,hn,rfl⟩,λp t' h=>nd h⟩))));show Ws [_,.is (aP d)] _ _ _;cases d with
  |_=>
   unfold aP at b ⊢;dsimp only at b ⊢
   walk_at "ww"
   refine B4 (by decide +kernel) (Ab ?_)
   walk_at "ww"
   refine B4 (by decide +kernel) (Ab ?_)
   walk_at "ww"
   refine B4 (by decide +kernel) (Ab ?_);exact b _
def Rp:Aw ["row","log","course","number","entry"] ["row","log"] (Ag Ys):=by walk_at "z1"
def cg:∀ss R D,(ZG A7 AM C3) ss R D->ss.length=2:=by rintro _ _ _⟨tp,ns,es,rfl,_,_,_,rfl,rfl⟩;rfl
def vV(F:AG K "course_of" "course_of" Ys f fd)(m:mg "course_of"=some (.ref f)):
  C1 P w K mg ZB "course_of" 11 ["row","log"] (Ci (ZG A7 AM C3)):=by
 refine C1.mk F (F.binds (by walk_at "bD2")) m (F.JR (k:=10) Rp (λvs H Q E h=>Fz.Jh cg h) (λAX A outer s H vs Q E c h=>?_))
 refine⟨_,(A9 rfl (Ax 2 Rp.nd (m9 VZ c (by decide) Zq (A0 (qv 0) A3)))
   (A9 rfl (D1 (Kn pR rfl (ZCE rfl Xo (A0 (qv 1) A3)) (Mw rfl (ES (D6 3 Rp.nd) (ES (D6 4 Rp.nd) NV))) (AA rfl (Ai (G6 (J0 (Hj av c (by decide) (qv 2) (A0 (qv 4) A3)))) (AA rfl (JZ Xj (by rfl) Na c (by decide) rfl rfl EM (A0 (qv 3) A3))) Ak))))
   (AA rfl (AR (qv 2))))),?_⟩
 refine Fz.JO h cg ?_;rintro _ _ _⟨tp,ns,es,rfl,c,o,y,rfl,rfl⟩;intro i0;show Ws [_,_,.any,.any,.any] _ _ _;refine An (cU (mO (Dw (AD rfl (GJ λb e=>⟨_,⟨b,e,tp,ns,rfl,rfl⟩,?_⟩)))));rintro _ _⟨rfl,aL,aS,rfl⟩;refine⟨rfl,_,_,rfl,?_⟩;show Ws [.is (LX tp (ns.map .str)),.is (.lst (es.map LE.P)),.ow false (Bm (Dz ns) A7 b e aL aS []),.any,.any] _ _ _;refine An (Ff (Ld (λ_ i AN=>∃(l s4:Slot)(t':OV)(s:Ls),AN=[.is (LX tp (ns.map .str)),.is (.lst (es.map LE.P)),.ow false t',l,s4]/\runs (Dz ns) (es.take i)=some s/\DC s A7 AM b t') (tH (Ks (AD rfl ⟨_,.inl ⟨rfl,rfl,?_⟩⟩)))));refine⟨⟨_,_,_,Dz ns,rfl,rfl,e,aL,aS,[],R2.nil,rfl⟩,?_,?_⟩
 .rintro i p AN q⟨l,s4,t',s,rfl,a,j⟩;obtain⟨u,hx,rfl⟩:=yb q;rw[Bc]at hx;obtain⟨n,d,rfl⟩:=Option.map_eq_some_iff.mp hx;have ok:=ZGs (fO c) a;have r:=iM a;have hi:=(List.getElem?_eq_some_iff.mp d).1;rw[DO]at r;have x:(Dz ns).sn.length=0:=rfl;refine ZAj ⟨_,_,rfl,?_⟩;obtain⟨dx',LY,LC,us',Hw,rfl⟩:=id j;refine ZEI (i:=2) (cK (eW (N5 rfl (by decide +kernel) (Dw (AD rfl (GJ ⟨_,⟨s,b,_,n,rfl,j,ok,o n (EI d),by omega,rfl⟩,?_⟩))))));rintro _ v(⟨s',g,rfl,CV⟩|⟨g,rfl,CV⟩)
  .obtain⟨nk,Fl,rfl⟩:=CV.nd;refine⟨nk,Fl,rfl,true,rfl,Dd (Ab ⟨_,_,_,s',rfl,?_,CV⟩)⟩;obtain⟨Hn,t⟩:=List.getElem?_eq_some_iff.mp d;rw[Ui Hn,t,Qg a,g]
  .obtain⟨nk,Fl,rfl⟩:=CV.nd;refine⟨nk,Fl,rfl,false,rfl,Bq rfl (GV (AD rfl ⟨?_,trivial,i,rfl,s,n,a,d,g⟩))⟩;exact K9 (by omega)
 .rintro AN⟨l,s4,t',s,rfl,a,j⟩;rw[So,AL,MY]at a;exact vZ (ZAK rfl ⟨s,b,a,j⟩)
def jO:Aw ["row","log","refusal"] ["row","log"] (Ag XI):=by walk_at "z1"
def jh : ∀ss R,X7 ss R->ss.length=2:=by rintro _ _⟨tp,ns,es,rfl,_,_,_,rfl⟩;rfl
def ZCG(F:AG K "first_wrong" "first_wrong" XI f fd)(m:mg "first_wrong"=some (.ref f)):
  AI P w K mg ZB "first_wrong" 12 ["row","log"] (B7 X7):=by
 refine AI.mk F (F.binds (by walk_at "bD2")) m (F.BO (k:=11) jO (λvs H Q E h=>Fz.DJ jh h) (λAX A outer s H vs Q E b h=>?_))
 refine⟨_,(A9 rfl (ZFn (j:=2) rfl rfl jO.nd rfl rfl (by rfl) Na (λ_ _ _ g1=>by exact(AA rfl (EL (G8 V5 b (by decide) g1 rfl (A0 (qv 0) (A0 (qv 1) A3)))))) (λ_=>by exact(AA rfl (AR (show QE _ _ (Rv K _ _)from sX (qv 2))))))
   (AA rfl (AR M4))),?_⟩
 refine Fz.DK h jh ?_;rintro _ _⟨tp,ns,es,rfl,b,g,c,rfl⟩;show Ws [_,_,.any] _ _ _;refine An (zJ (λAN=>AN=[.is (LX tp (ns.map .str)),.is (.lst (es.map LE.P)),.any]) (λx=>∃i:Nat,x=Y3 C3 i/\HU ns es i) (λE=>?_) (λHx x n o=>?_))
 .letI:Xw:=HF E (λAN=>AN=[.is (LX tp (ns.map .str)),.is (.lst (es.map LE.P)),.any]) (λx=>∃i:Nat,x=Y3 C3 i/\HU ns es i);refine Ke (pF (ZAF (As (AD rfl (As (AD rfl (BY ⟨_,_,⟨tp,ns,es,rfl,b,g,c,rfl,rfl⟩,rfl,λe h=>h,λu d=>?_⟩)))))));refine⟨rfl,?_⟩;clear this;show Ws _ _ _ _;obtain⟨s,a,l,_⟩:=d;exact CB (LH (.inl ⟨rfl,s,l⟩))
 .subst n;obtain⟨i,rfl,hw⟩:=o;refine⟨XU,?_⟩;exact CB (ZG9 (AD rfl ⟨C3,.int i,rfl,(oo lx).toExGet,aF,XE,.inr ⟨i,rfl,hw⟩⟩))
def IS:Aw ["script","rate","some","turn","first","log","wrong","state","handed","row"] ["script"] (Ag N4):=by walk_at "z1"
def wG(F:AG K "law" "law" N4 f fd)(m:mg "law"=some (.ref f)):
  Cc P w K mg ZB El 14 f fd ["script"] (PL K):=by
 refine(F.BO (k:=13) IS (λvs H Q E h=>by obtain⟨a,ns,rfl,_⟩:=h;rfl) (λAX A outer s H vs Q E b h=>?_));refine⟨_,(A9 rfl (Ax 1 IS.nd (AE AK (BF (A0 A4 (A0 A4 (A0 A4 A3)))) (AZ BE b (A0 (AZ MS b (A0 (qv 0) (A0 A4 A3))) (A0 A4 A3)))))
   (A9 rfl (Ax 2 IS.nd (Fg (A0 (AZ R9 b (A0 (qv 0) (A0 (qv 1) A3))) (A0 (AZ R9 b (A0 (ZCg (qv 0) (Em (Vl Zs A4))) (A0 A4 A3))) A3))))
   (A9 rfl (D1 (Kn LA rfl (Y5 rfl IQ (A0 A4 A3)) (D6 3 IS.nd) (AA rfl (Kn LA rfl (Im (qv 2)) (Mw rfl (ES (D6 4 IS.nd) (ES (D6 5 IS.nd) (ES (D6 6 IS.nd) (ES (D6 7 IS.nd) NV))))) (A9 rfl (Ax 8 IS.nd (Cg KA By (A0 (qv 5) A3)))
   (A9 rfl (Ax 9 IS.nd (Cg KA By (A0 (qv 4) A3)))
   (A9 rfl (Ai (G6 (J0 (AZ UE b (A0 (AZ OY b (A0 (qv 9) (A0 (qv 8) A3))) (A0 (qv 6) A3))))) (AA rfl (AR DD)) Ak)
   (A9 rfl (Ai (G6 (J0 (AZ UE b (A0 (AZ OY b (A0 (Cg JE Co (A0 (qv 4) A3)) (A0 (qv 8) A3))) (A0 (qv 6) A3))))) (AA rfl (AR DD)) Ak)
   (AA rfl (Ai (Eg (AU (Fz.jH b.units) (qv 8) (qv 5)) (Eg (AU (Fz.jH b.units) (qv 9) (qv 4)) (HI (AU pK (AZ OY b (A0 (qv 9) (A0 (Fg A3) A3))) M4)))).pt (AA rfl (AR DD)) Ak))))))))))
   (AA rfl (AR DD))))),?_⟩
 refine Fz.z4 h ?_;intro sc P5;show Ws [_,.any,.any,.any,.any,.any,.any,.any,.any,.any] _ _ _
 walk_at "ww"
 refine⟨by simp,_,.inr ⟨rfl,rfl,ZGY rfl (Br ⟨_,rfl,by decide,by decide,Br ⟨_,rfl,by decide,by decide,λr L J=>?_⟩⟩)⟩⟩;obtain⟨rt,I,B⟩:∃rt:Nat,L2.Bp [PV.int 0,.int 60,.int 9] r=some (.int rt)/\rt<=60:=by
  have:r=0∨r=1∨r=2:=by omega
  rcases this with rfl|rfl|rfl
  .exact⟨0,rfl,by decide⟩
  .exact⟨60,rfl,by decide⟩
  .exact⟨9,rfl,by decide⟩
 refine⟨_,_,rfl,I,?_⟩;refine An (Nt (VT (Cu (wp_call (pE rfl (As (AD rfl (BY ⟨_,⟨sc,rt,rfl,P5,B,rfl⟩,?_⟩))))))));rintro _⟨ns,es,w,s,rfl,g1⟩;refine Cu (wp_call (xg rfl (As (Br (BY ⟨_,⟨sc.reverse,9,rfl,by rw[Qu];exact P5,by decide,rfl⟩,?_⟩)))));rintro _⟨V4,M8,t,s2,rfl,G⟩;refine DN ⟨by show 2<=100000;decide,?_⟩;refine Ln 2 rfl ?_;refine An (Ff (Ld (λ_ _ AN=>∃c s4 q o n l d:Slot,AN=[.raw (DU K sc),.is (.int rt),.is (.lst [KQ ns es w s,KQ V4 M8 t s2]),c,s4,q,o,n,l,d]) ?_))
 walk_at "ww"
 refine⟨by decide,by decide,⟨_,_,_,_,_,_,_,rfl⟩,?_,?_⟩
 .rintro i p AN x⟨c,s4,q,o,n,l,d,rfl⟩;refine Q4 ?_;refine Ld (λ_ _ AN=>∃c s4 q o n l d:Slot,AN=[.raw (DU K sc),.is (.int rt),.is (.lst [KQ ns es w s,KQ V4 M8 t s2]),c,s4,q,o,n,l,d]) (Ot (Ks (AD rfl ⟨_,.inl ⟨rfl,⟨_,_,_,_,_,_,_,rfl⟩,?_,λ_ h=>h⟩⟩)));clear x p c s4 q o n l d;rintro j p AN x⟨c,s4,q,o,n,l,d,rfl⟩;obtain⟨ms,fs,u,v,rfl,g⟩:∃ms fs u v,p=KQ ms fs u v/\eh ms fs u:=by
   rcases List.mem_cons.mp (EI x)with h|h
   .exact⟨_,_,_,_,h,g1⟩
   .exact⟨_,_,_,_,List.mem_singleton.mp h,G⟩
  refine ZEp ⟨_,_,_,_,rfl,?_⟩;have M:=g.len;refine An (Nt (NP rfl (M6 (i:=5) rfl ?_)));refine Ln 8 rfl ?_;refine An (Nt (NP rfl (M6 (i:=4) rfl ?_)));refine Ln 9 rfl ?_;show Ws [.raw (DU K sc),.is (.int rt),.is (.lst [KQ ns es w s,KQ V4 M8 t s2]),c,.is (.lst (ms.map .str)),.is (.lst (fs.map LE.P)),.is u,.is (EZ v),.is (.lst (fs.map LE.P)),.is (.lst (ms.map .str))] _ _ _;refine An (Bu (Gq (FP (wp_call (As (wp_call (As (AD rfl (As (AD rfl (BY ⟨_,⟨false,ms,fs,rfl,g.row,g.say,by omega,rfl⟩,?_⟩)))))))))));intro p1 h1;obtain rfl:=Yj h1 g.fst;refine As (AD rfl (BY ⟨_,⟨ms,fs,p1,rfl,h1,rfl⟩,?_⟩));rintro _ rfl;refine⟨true,rfl,Dd (Ab ?_)⟩;refine An (Bu (Gq (FP (wp_call (As (wp_call (As (Ql rfl (M6 rfl (As (AD rfl (BY ⟨_,⟨true,ms,fs,rfl,g.row,g.say,by omega,rfl⟩,?_⟩))))))))))));intro p2 h2;obtain rfl:=Yj h2 h1;refine As (AD rfl (BY ⟨_,⟨ms,fs,p2,rfl,h2,rfl⟩,?_⟩));rintro _ rfl;refine⟨true,rfl,Dd (Ab ?_)⟩;have z:=z7 (K:=K) fs;have y:=pC K ms;refine Bu (Hz (CM (Ut (AD rfl (AD rfl ⟨z,z,_,rfl,B4 (by rw[Xh 40 z];decide) ?_⟩)))));refine Hz (CM (Ut (AD rfl (AD rfl ⟨y,y,_,rfl,B4 (by rw[Xh 40 y];decide) ?_⟩))));refine CM (ZB4 (wp_call (As (AD rfl (As (EH (VT (DN ⟨by simp,BY ⟨_,⟨false,ms,[],rfl,g.row,λe h=>absurd h BB,by decide,rfl⟩,?_⟩⟩))))))));intro p3 C;have D:MK ms [] .A8:=.inl ⟨rfl,_,rfl⟩;obtain rfl:=Yj C D;exact LH ⟨rfl,_,rfl,B4 (by decide) (Ab ⟨_,_,_,_,_,_,_,rfl⟩)⟩
 .rintro AN⟨c,s4,q,o,n,l,d,rfl⟩;exact CB (Cj rfl)
def all_mk{h:Heap}{fa f1 f2 f3 f4 f5 f6 f7 f8 f9 j6 jb cR kP j8 ck gE eO kZ cZ lT jz iD hG jv SO TR mx nB gB RH U5 fe cS dh UD S9 jo j4 iI kI fq mT T9 iN gO gD eV jM kT fu ml RP Sw eX fU cV:Addr}{g1 g2 g3 g4 g5 g6 g7 g8 g9 wX yO rq g13 g14 yc g16 g17 xk g19 g20 g21 g22 g23 qE zA yu zM pq vh g30 zk sA g33 g34 sD qB g37 g38 vw g40 pj g42 g43 g44 u4 g46 g47 g48 uV sV vT zY g53 yH tZ g56:FuncData}(X:K.In h)(G:h.Ns mainGlobals mg)(hfa:mg "law"=some (.ref fa))
  
  (pf:PySem.W.nsIn K mainGlobals "Course"=some (some (.ref A7)))
  (rX:PySem.W.plainGet K A7 Str.empty=true)
  (zZ:PySem.W.hasDictIn K A7=true)
  (zw:PySem.W.plainOver K A7=true)
  (ZFP:PySem.W.findIn K (.ref A7) "__setattr__"=some (some (.builtin "object.__setattr__")))
  (ZFj:PySem.W.makesIn K A7=true)
  (ZGR:PySem.W.keepIn K (.ref A7)=true)
  (pI:PySem.W.nsIn K mainGlobals "Tally"=some (some (.ref AM)))
  (ZEb:PySem.W.plainGet K AM Str.empty=true)
  (pb:PySem.W.hasDictIn K AM=true)
  (ZDA:PySem.W.plainOver K AM=true)
  (rS:PySem.W.findIn K (.ref AM) "__setattr__"=some (some (.builtin "object.__setattr__")))
  (uk:PySem.W.makesIn K AM=true)
  (ZCw:PySem.W.keepIn K (.ref AM)=true)
  (Cs:PySem.W.findIn K (.ref A7) "running"=some none)
  (E8:PySem.W.findIn K (.ref A7) "standing"=some none)
  (G2:PySem.W.findIn K (.ref A7) "tallies"=some none)
  (O1:PySem.W.findIn K (.ref AM) "joined"=some none)
  (ai:PySem.W.findIn K (.ref AM) "stood"=some none)
  (NT:PySem.W.findIn K (.ref AM) "taken"=some none)
  (Nz:PySem.W.findIn K (.ref AM) "told"=some none)
  (a1:nS K "_law_take" (.ref f1)) (F1:AG K "_law_take" "_law_take" X0 f1 g1)
  (a2:nS K "_law_pot" (.ref f2)) (F2:AG K "_law_pot" "_law_pot" Wd f2 g2)
  (a3:nS K "_law_letters" (.ref f3)) (F3:AG K "_law_letters" "_law_letters" WJ f3 g3)
  (a4:nS K "_law_name" (.ref f4)) (F4:AG K "_law_name" "_law_name" bI f4 g4)
  (a5:nS K "_law_names" (.ref f5)) (F5:AG K "_law_names" "_law_names" YG f5 g5)
  (a6:nS K "_law_row" (.ref f6)) (F6:AG K "_law_row" "_law_row" Vq f6 g6)
  (a7:nS K "_law_deed" (.ref f7)) (F7:AG K "_law_deed" "_law_deed" WK f7 g7)
  (a8:nS K "_law_rule" (.ref f8)) (F8:AG K "_law_rule" "_law_rule" aT f8 g8)
  (a9:nS K "_law_step" (.ref f9)) (F9:AG K "_law_step" "_law_step" Om f9 g9)
  (zq:nS K "_law_good_entry" (.ref j6)) (rA:AG K "_law_good_entry" "_law_good_entry" aa j6 wX)
  (wD:nS K "_law_bad_entry" (.ref jb)) (sk:AG K "_law_bad_entry" "_law_bad_entry" bM jb yO)
  (qe:nS K "_law_done" (.ref cR)) (F12:AG K "_law_done" "_law_done" RB cR rq)
  (a13:nS K "_law_is_name" (.ref kP)) (xC:AG K "_law_is_name" "_law_is_name" Tt kP g13)
  (xK:nS K "_law_deed_right" (.ref j8)) (F14:AG K "_law_deed_right" "_law_deed_right" Yu j8 g14)
  (a15:nS K "_law_gap" (.ref ck)) (vJ:AG K "_law_gap" "_law_gap" Yx ck yc)
  (a16:nS K "_law_led" (.ref gE)) (ou:AG K "_law_led" "_law_led" TH gE g16)
  (zR:nS K "_law_counted" (.ref eO)) (wQ:AG K "_law_counted" "_law_counted" aB eO g17)
  (qF:nS K "_law_stirred" (.ref kZ)) (um:AG K "_law_stirred" "_law_stirred" bU kZ xk)
  (a19:nS K "_law_begun" (.ref cZ)) (F19:AG K "_law_begun" "_law_begun" Z4 cZ g19)
  (a20:nS K "_law_begins" (.ref lT)) (xW:AG K "_law_begins" "_law_begins" WB lT g20)
  (a21:nS K "_law_goes" (.ref jz)) (xh:AG K "_law_goes" "_law_goes" Sf jz g21)
  (a22:nS K "_law_log" (.ref iD)) (F22:AG K "_law_log" "_law_log" aD iD g22)
  (wm:nS K "_law_whole" (.ref hG)) (xD:AG K "_law_whole" "_law_whole" az hG g23)
  (xv:nS K "_law_right" (.ref jv)) (F24:AG K "_law_right" "_law_right" Z3 jv qE)
  (a25:PySem.W.findIn K (.ref A7) "__init__"=some (some (.ref SO))) (uj:AG K "__init__" "Course.__init__" Xd SO zA)
  (ZCe:PySem.W.isFn K (.ref SO)=true)
  (zt:PySem.W.findIn K (.ref AM) "__init__"=some (some (.ref TR))) (rQ:AG K "__init__" "Tally.__init__" ZT TR yu)
  (tE:PySem.W.isFn K (.ref TR)=true)
  (zF:nS K "check_rule" (.ref mx)) (yt:AG K "check_rule" "check_rule" YR mx zM)
  (a28:nS K "begun" (.ref nB)) (zr:AG K "begun" "begun" W6 nB pq)
  (xV:nS K "is_name" (.ref gB)) (F29:AG K "is_name" "is_name" Su gB vh)
  (sI:PySem.W.findIn K (.ref A7) "follows_begin"=some (some (.ref RH))) (fF:AG K "follows_begin" "Course.follows_begin" ZL RH g30)
  (pU:PySem.W.isFn K (.ref RH)=true)
  (a31:PySem.W.findIn K (.ref A7) "coming"=some (some (.ref U5))) (jL:AG K "coming" "Course.coming" Ye U5 zk)
  (ua:PySem.W.isFn K (.ref U5)=true)
  (rL:nS K "coming_without" (.ref fe)) (tf:AG K "coming_without" "coming_without" RX fe sA)
  (tK:nS K "place_of" (.ref cS)) (xj:AG K "place_of" "place_of" Zv cS g33)
  (a34:nS K "loop_telling" (.ref dh)) (F34:AG K "loop_telling" "loop_telling" bN dh g34)
  (a35:PySem.W.findIn K (.ref A7) "follows_tell"=some (some (.ref UD))) (mB:AG K "follows_tell" "Course.follows_tell" VH UD sD)
  (ZGt:PySem.W.isFn K (.ref UD)=true)
  (pL:PySem.W.findIn K (.ref A7) "follows_over"=some (some (.ref S9))) (mY:AG K "follows_over" "Course.follows_over" Xb S9 qB)
  (ZBi:PySem.W.isFn K (.ref S9)=true)
  (yk:nS K "gap_behind_put" (.ref jo)) (F37:AG K "gap_behind_put" "gap_behind_put" Xv jo g37)
  (wK:nS K "gap_behind_take" (.ref j4)) (F38:AG K "gap_behind_take" "gap_behind_take" aK j4 g38)
  (a39:nS K "gap_led" (.ref iI)) (tX:AG K "gap_led" "gap_led" Wj iI vw)
  (a40:nS K "joins" (.ref kI)) (yK:AG K "joins" "joins" W3 kI g40)
  (a41:nS K "coming_behind" (.ref fq)) (F41:AG K "coming_behind" "coming_behind" YD fq pj)
  (xn:nS K "loop_led" (.ref mT)) (F42:AG K "loop_led" "loop_led" bG mT g42)
  (a43:PySem.W.findIn K (.ref A7) "lead"=some (some (.ref T9))) (dX:AG K "lead" "Course.lead" YE T9 g43)
  (ZDd:PySem.W.isFn K (.ref T9)=true)
  (a44:nS K "check_put" (.ref iN)) (x6:AG K "check_put" "check_put" aj iN g44)
  (rl:nS K "check_move" (.ref gO)) (F45:AG K "check_move" "check_move" WN gO u4)
  (a46:nS K "check_turn" (.ref gD)) (F46:AG K "check_turn" "check_turn" Zk gD g46)
  (vD:nS K "check_deed" (.ref eV)) (xE:AG K "check_deed" "check_deed" Y4 eV g47)
  (a48:nS K "row_turned" (.ref jM)) (xw:AG K "row_turned" "row_turned" Yb jM g48)
  (rf:nS K "row_with" (.ref kT)) (F49:AG K "row_with" "row_with" ZY kT uV)
  (a50:nS K "row_without" (.ref fu)) (F50:AG K "row_without" "row_without" Rl fu sV)
  (xr:nS K "done" (.ref ml)) (wH:AG K "done" "done" WL ml vT)
  (yy:PySem.W.findIn K (.ref A7) "follows_deed"=some (some (.ref RP))) (kj:AG K "follows_deed" "Course.follows_deed" VX RP zY)
  (ZFQ:PySem.W.isFn K (.ref RP)=true)
  (vQ:PySem.W.findIn K (.ref A7) "follows"=some (some (.ref Sw))) (lB:AG K "follows" "Course.follows" ae Sw g53)
  (tR:PySem.W.isFn K (.ref Sw)=true)
  (a54:nS K "course_of" (.ref eX)) (qp:AG K "course_of" "course_of" Ys eX yH)
  (a55:nS K "first_wrong" (.ref fU)) (F55:AG K "first_wrong" "first_wrong" XI fU tZ)
  (nO:nS K "law" (.ref cV)) (fc:AG K "law" "law" N4 cV g56)
  (pV:nN K "all")
  (oh:nN K "bool")
  (wF:nN K "enumerate")
  (xP:nN K "int")
  (uQ:nN K "isinstance")
  (ZFw:nN K "len")
  (xU:nN K "list")
  (ZCd:nN K "max")
  (tT:nN K "min")
  (pZ:nN K "range")
  (si:nN K "reversed")
  (yI:nN K "sorted")
  (ZAA:nN K "tuple")
  (va:nS K "LETTERS" (.str "abcdefghijklmnopqrstuvwxyz" XW))
  (ZBI:nS K "MOST_LETTERS" (.int 8 Z8))
  (ub:nS K "MOST_THINGS" (.int 40 VG))
  (ql:nS K "RULES" (.ref Ga))
  {ZE6:Option Addr}{yU:Array (Option Value)}{qM:Nat}{ZE5 ZCR sG:Tok}(tF:K.lookup Ga=some ⟨.type "tuple", ZE6,.seq #[.str "none" ZE5,.str "ahead" ZCR,.str "all" sG] qM,yU⟩)
  (ZG0:nS K "Full" (.ref BK))
  (rB:nS K "Gone" (.ref Ay))
  (ZFK:nS K "NoLog" (.ref C3))
  (uw:nS K "NoName" (.ref B9))
  (yD:nS K "NoPlace" (.ref B1))
  (ZCl:nS K "NoRule" (.ref Cy))
  (ZD5:nS K "StirError" (.ref Il))
  (yT:nS K "There" (.ref B8))
  (Nj:PySem.W.specialIn K (.ref Il) "__getattribute__"=some (some (.builtin "type.__getattribute__")))
  (O5:PySem.W.readsIn K Il (.type "type")=true)
  (Me:PySem.W.findCls K (.ref Il) (.type "type") "__init__"=some (.val (.builtin "ValueError.__init__")))
  (Zl:FU K BK none=true)
  (ZIR:PySem.W.findIn K (.ref Ay) "__init__"=some (some (.ref U2))) (mJ:AG K "__init__" "Gone.__init__" X3 U2 tj)
  (og:FU K Ay (some (.ref U2))=true)
  (ZCn:PySem.W.findIn K (.ref Ay) "__setattr__"=some (some (.builtin "object.__setattr__")))
  (ZCp:JT K Ay=true)
  (ZFe:PySem.W.takerIn K Ay "name"=some none)
  (oU:PySem.W.hasDictIn K Ay=true)
  (vg:PySem.W.isFn K (.ref U2)=true)
  (xu:PySem.W.keepIn K (.ref Ay)=true)
  (ZIH:PySem.W.findIn K (.ref C3) "__init__"=some (some (.ref TL))) (dC:AG K "__init__" "NoLog.__init__" bK TL ZF6)
  (ZDt:FU K C3 (some (.ref TL))=true)
  (uO:PySem.W.findIn K (.ref C3) "__setattr__"=some (some (.builtin "object.__setattr__")))
  (uT:JT K C3=true)
  (uE:PySem.W.takerIn K C3 "number"=some none)
  (ZBH:PySem.W.hasDictIn K C3=true)
  (tQ:PySem.W.isFn K (.ref TL)=true)
  (za:PySem.W.keepIn K (.ref C3)=true)
  (ZI8:PySem.W.findIn K (.ref B9) "__init__"=some (some (.ref RS))) (kD:AG K "__init__" "NoName.__init__" aX RS ZFL)
  (sW:FU K B9 (some (.ref RS))=true)
  (ZAG:PySem.W.findIn K (.ref B9) "__setattr__"=some (some (.builtin "object.__setattr__")))
  (pY:JT K B9=true)
  (ZFC:PySem.W.takerIn K B9 "name"=some none)
  (xX:PySem.W.hasDictIn K B9=true)
  (ZFg:PySem.W.isFn K (.ref RS)=true)
  (ZGN:PySem.W.keepIn K (.ref B9)=true)
  (ZHp:PySem.W.findIn K (.ref B1) "__init__"=some (some (.ref Se))) (d9:AG K "__init__" "NoPlace.__init__" bV Se yX)
  (su:FU K B1 (some (.ref Se))=true)
  (vc:PySem.W.findIn K (.ref B1) "__setattr__"=some (some (.builtin "object.__setattr__")))
  (ZD3:JT K B1=true)
  (sE:PySem.W.takerIn K B1 "at"=some none)
  (tL:PySem.W.hasDictIn K B1=true)
  (zL:PySem.W.isFn K (.ref Se)=true)
  (ZFY:PySem.W.keepIn K (.ref B1)=true)
  (ZIP:PySem.W.findIn K (.ref Cy) "__init__"=some (some (.ref R7))) (ke:AG K "__init__" "NoRule.__init__" VI R7 xH)
  (uA:FU K Cy (some (.ref R7))=true)
  (wR:PySem.W.findIn K (.ref Cy) "__setattr__"=some (some (.builtin "object.__setattr__")))
  (ZEs:JT K Cy=true)
  (p5:PySem.W.takerIn K Cy "rule"=some none)
  (ZDz:PySem.W.hasDictIn K Cy=true)
  (vG:PySem.W.isFn K (.ref R7)=true)
  (ZG3:PySem.W.keepIn K (.ref Cy)=true)
  (ZID:PySem.W.findIn K (.ref B8) "__init__"=some (some (.ref Sr))) (nG:AG K "__init__" "There.__init__" Za Sr we)
  (ZCu:FU K B8 (some (.ref Sr))=true)
  (ZA4:PySem.W.findIn K (.ref B8) "__setattr__"=some (some (.builtin "object.__setattr__")))
  (zH:JT K B8=true)
  (rF:PySem.W.takerIn K B8 "name"=some none)
  (uZ:PySem.W.hasDictIn K B8=true)
  (ZCF:PySem.W.isFn K (.ref Sr)=true)
  (vX:PySem.W.keepIn K (.ref B8)=true)
  (bW:RO K Il ⟨B9,B8,Ay,B1,BK⟩=true)
  (lx:SV K C3=true)
  (XU:PySem.W.exmOne K (.ref C3) (.ref C3)=some true)
  (aF:PySem.W.hasDictIn K C3=true)
  (XE:PySem.W.findIn K (.ref C3) "number"=some none)
  : ∃fd:FuncData,(∀(s:Shared)(v:Value),BindsTo s fd ⟨[v],[]⟩ [("script", v)])/\∀ZB:Heap,K.In ZB->ZB.Ns mainGlobals mg->Cc l.prog w K mg ZB El 14 fa fd ["script"] (PL K):=by
 have e:=hfa.symm.trans (B5 X G nO);cases e;have BQ:CF K A7:=⟨rX,zZ,zw,ZFP⟩;have GK:CF K AM:=⟨ZEb,pb,ZDA,rS⟩;have pd:Mk K A7 SO:=⟨ZFj,a25,ZCe,ZGR⟩;have ZG4:Mk K AM TR:=⟨uk,zt,tE,ZCw⟩;have yQ:Meth K A7 "follows_begin" RH:=⟨sI,pU,fF.kp⟩;have ZBv:Meth K A7 "coming" U5:=⟨a31,ua,jL.kp⟩;have vB:Meth K A7 "follows_tell" UD:=⟨a35,ZGt,mB.kp⟩;have ZDb:Meth K A7 "follows_over" S9:=⟨pL,ZBi,mY.kp⟩;have xp:Meth K A7 "lead" T9:=⟨a43,ZDd,dX.kp⟩;have uH:Meth K A7 "follows_deed" RP:=⟨yy,ZFQ,kj.kp⟩;have ZFr:Meth K A7 "follows" Sw:=⟨vQ,tR,lB.kp⟩;have Mf:=Hb X G pV;have bX:=Hb X G oh;have Xo:=Hb X G wF;have Ht:=Hb X G xP;have Ra:=Hb X G uQ;have Aj:=Hb X G ZFw;have By:=Hb X G xU;have Vu:=Hb X G ZCd;have bS:=Hb X G tT;have IQ:=Hb X G pZ;have NB:=Hb X G si;have Et:=Hb X G yI;have Co:=Hb X G ZAA;have VL:=B5 X G va;have Vp:=B5 X G ZBI;have VA:=B5 X G ub;have Mc:=B5 X G ql;have Mr:∀H,AS K H Ga [.str "none",.str "ahead",.str "all"]:=λH=>.inr ⟨_,_,_,tF,rfl,rfl,(by show 3<=sizeLine;decide +kernel),(.cons ⟨_,rfl⟩ (.cons ⟨_,rfl⟩ (.cons ⟨_,rfl⟩ .nil)))⟩;have Zq:=B5 X G pf;have Xi:=B5 X G ZG0;have VE:=B5 X G rB;have Na:=B5 X G ZFK;have YI:=B5 X G uw;have Ik:=B5 X G yD;have WX:=B5 X G ZCl;have JK:=B5 X G ZD5;have Ux:=B5 X G pI;have Xs:=B5 X G yT;obtain⟨_,_,kV,dc,pm,an,cd,ct,_,rfl,_,_⟩:=id fc.ex;refine⟨PySem.W.fnOf "law" "law" (QF N4) (K8 N4) (Ag N4) .none kV dc pm an cd ct,λs v=>.of_eq rfl,λZB _ _=>?_⟩;have Yz:=x5 (P:=l.prog) (w:=w) (ZB:=ZB) mJ (mJ.binds (ps:=["self","name"]) (by walk_at "bD2")) ⟨og,ZCn,ZCp,ZFe,oU,vg,xu⟩ ⟨Nj,O5,Me,rfl⟩ JK
 have Xj:=xT (P:=l.prog) (w:=w) (ZB:=ZB) dC (dC.binds (ps:=["self","number"]) (by walk_at "bD2")) ⟨ZDt,uO,uT,uE,ZBH,tQ,za⟩ ⟨Nj,O5,Me,rfl⟩ JK
 have Wk:=vF (P:=l.prog) (w:=w) (ZB:=ZB) kD (kD.binds (ps:=["self","name"]) (by walk_at "bD2")) ⟨sW,ZAG,pY,ZFC,xX,ZFg,ZGN⟩ ⟨Nj,O5,Me,rfl⟩ JK
 have Ii:=uJ (P:=l.prog) (w:=w) (ZB:=ZB) d9 (d9.binds (ps:=["self","at"]) (by walk_at "bD2")) ⟨su,vc,ZD3,sE,tL,zL,ZFY⟩ ⟨Nj,O5,Me,rfl⟩ JK
 have Xn:=yW (P:=l.prog) (w:=w) (ZB:=ZB) ke (ke.binds (ps:=["self","rule"]) (by walk_at "bD2")) ⟨uA,wR,ZEs,p5,ZDz,vG,ZG3⟩ ⟨Nj,O5,Me,rfl⟩ JK
 have YW:=xy (P:=l.prog) (w:=w) (ZB:=ZB) nG (nG.binds (ps:=["self","name"]) (by walk_at "bD2")) ⟨ZCu,ZA4,zH,rF,uZ,ZCF,vX⟩ ⟨Nj,O5,Me,rfl⟩ JK
 have BE:=ZBe (P:=l.prog) (w:=w) (ZB:=ZB) F1 (B5 X G a1);have MS:=ZCm (P:=l.prog) (w:=w) (ZB:=ZB) Aj F2 (B5 X G a2);have Od:=ZGd (P:=l.prog) (w:=w) (ZB:=ZB) F3 (B5 X G a3);have Gr:=wq Aj Od BE F4 (B5 X G a4);have aZ:=ZFs Gr IQ F5 (B5 X G a5);have bA:=qZ BE aZ F6 (B5 X G a6);have Zb:=ZCH Aj BE Gr F7 (B5 X G a7);have Nk:=yA BE F8 (B5 X G a8);have XR:=p9 (P:=l.prog) (w:=w) (ZB:=ZB) Co F9 (B5 X G a9);have Z1:=pG Aj BE Gr Zb Nk XR By Et rA (B5 X G zq);have YB:=ZCA Aj BE Gr Nk By sk (B5 X G wD);have aw:=xI (P:=l.prog) (w:=w) (ZB:=ZB) By NB F12 (B5 X G qe);have N2:=xb (P:=l.prog) (w:=w) (ZB:=ZB) Aj Mf xC (B5 X G a13);have Uv:=ZGL Aj N2 F14 (B5 X G xK);have Vf:=ZEl (P:=l.prog) (w:=w) (ZB:=ZB) Ht vJ (B5 X G a15);have bQ:=xS Co Et Vf ou (B5 X G a16);have Le:=qy (P:=l.prog) (w:=w) (ZB:=ZB) wQ (B5 X G zR);have Vw:=ZEU Aj By Le Uv aw bQ um (B5 X G qF);have Vr:=ZFB (P:=l.prog) (w:=w) (ZB:=ZB) Co Et F19 (B5 X G a19);have bO:=zm Aj N2 Vr xW (B5 X G a20);have Vb:=wU Co Le bO Vw xh (B5 X G a21);have R9:=vK Aj BE IQ By Ht YB Vb Z1 MS bA Vu bS F22 (B5 X G a22);have ax:=v9 (P:=l.prog) (w:=w) (ZB:=ZB) Ht bX Ra xD (B5 X G wm);have UE:=ZGW ax F24 (B5 X G xv);have VZ:=ZGX (P:=l.prog) (w:=w) (mg:=mg) (ZB:=ZB) (A7:=A7) (AM:=AM) By BQ Cs E8 G2 uj pd;have Xg:=x3 (P:=l.prog) (w:=w) (mg:=mg) (ZB:=ZB) (AM:=AM) GK O1 ai NT Nz rQ ZG4;have Vg:=qk (Cy:=Cy) Mc Mr WX Xn yt (B5 X G zF);have Y1:=pA (Cy:=Cy) Co Et Vg zr (B5 X G a28);have NL:=wW (P:=l.prog) (w:=w) (ZB:=ZB) Aj Mf VL Vp F29 (B5 X G xV);have VM:=ZEF (P:=l.prog) (w:=w) (mg:=mg) (ZB:=ZB) (A7:=A7) (AM:=AM) Aj BQ Cs E8 G2 Mc Mr Xg Y1 NL Ux fF yQ;have Hi:=qO (P:=l.prog) (w:=w) (mg:=mg) (ZB:=ZB) (A7:=A7) BQ Cs jL ZBv;have O0:=yM (P:=l.prog) (w:=w) (ZB:=ZB) Co tf (B5 X G rL);have GU:=sZ (Ay:=Ay) VE Yz xj (B5 X G tK);have Vn:=ZCX O0 GU F34 (B5 X G a34);have ZS:=ZGf (P:=l.prog) (w:=w) (mg:=mg) (ZB:=ZB) (A7:=A7) (AM:=AM) BQ Cs E8 G2 GK Nz Hi Vn mB vB;have ZF:=ZAk (P:=l.prog) (w:=w) (mg:=mg) (ZB:=ZB) (A7:=A7) (AM:=AM) Aj BQ Cs Hi mY ZDb;have RG:=xO (P:=l.prog) (w:=w) (ZB:=ZB) F37 (B5 X G yk);have RN:=u9 (P:=l.prog) (w:=w) (ZB:=ZB) F38 (B5 X G wK);have WE:=ZDs GU RG RN tX (B5 X G a39);have Vk:=ZBY (P:=l.prog) (w:=w) (ZB:=ZB) yK (B5 X G a40);have Xr:=vz Co Et O0 Vk F41 (B5 X G a41);have b7:=yp Xr WE F42 (B5 X G xn)
 have ag:=ZBZ (P:=l.prog) (w:=w) (mg:=mg) (ZB:=ZB) (A7:=A7) (AM:=AM) Aj BQ Cs E8 G2 GK O1 NT Hi b7 dX xp;have Z2:=x8 (BK:=BK) (Ay:=Ay) (B9:=B9) (B1:=B1) (B8:=B8) Aj NL VA Xi Zl YI Wk Ik Ii Xs YW x6 (B5 X G a44);have bT:=sh (BK:=BK) (Ay:=Ay) (B9:=B9) (B1:=B1) (B8:=B8) Aj GU Ik Ii F45 (B5 X G rl);have Zr:=qT (BK:=BK) (Ay:=Ay) (B9:=B9) (B1:=B1) (B8:=B8) Aj Ik Ii F46 (B5 X G a46);have Vz:=ZB1 (BK:=BK) (Ay:=Ay) (B9:=B9) (B1:=B1) (B8:=B8) GU bT Z2 Zr xE (B5 X G vD);have XY:=ZEY (P:=l.prog) (w:=w) (ZB:=ZB) By NB xw (B5 X G a48);have Ta:=r9 (P:=l.prog) (w:=w) (ZB:=ZB) By F49 (B5 X G rf);have Sn:=zK (P:=l.prog) (w:=w) (ZB:=ZB) F50 (B5 X G a50);have XF:=ZCf (BK:=BK) (Ay:=Ay) (B9:=B9) (B1:=B1) (B8:=B8) Vz XY Ta Sn wH (B5 X G xr);have YA:=ZEk (P:=l.prog) (w:=w) (mg:=mg) (ZB:=ZB) (A7:=A7) (BK:=BK) (Ay:=Ay) (B9:=B9) (B1:=B1) (Il:=Il) (AM:=AM) (B8:=B8) By BQ Cs E8 ag XF JK bW kj uH;have av:=y6 (P:=l.prog) (w:=w) (mg:=mg) (ZB:=ZB) (A7:=A7) (AM:=AM) BQ VM YA ZF ZS lB ZFr;have V5:=vV (A7:=A7) (C3:=C3) (AM:=AM) VZ av Xo Zq Na Xj qp (B5 X G a54);have OY:=ZCG (A7:=A7) (C3:=C3) (AM:=AM) Na V5 lx XU aF XE F55 (B5 X G a55);exact wG BE IQ Co By MS R9 UE OY fc (B5 X G nO)
def walk{q:Program}{loose:List Str}{XP:(ZIX)->Heap->Prop}{YP:World->Heap->Prop}{d:DefRec}{K:Params->ZIV}(hn:l.most=some 63)(PB:d.params.defaults=[])
  (hY:∀(w:World)(h:Heap),YP w h->(K w.params).In h)
  (F:∀(w:World)(mg:ZIX)(fa:Addr)(h:Heap),(K w.params).In h->h.Ns mainGlobals mg->mg d.name=some (.ref fa)->
   ∃fd:FuncData,(∀(s:Shared)(u:Value),BindsTo s fd ⟨[u],[]⟩ [("script", u)])/\∀ZB:Heap,(K w.params).In ZB->ZB.Ns mainGlobals mg->Cc l.prog w (K w.params) mg ZB El 14 fa fd ["script"] (PL (K w.params))) :
  PySem.W.WalkO q loose XP YP l.row.toRowW d [] (λf vs=>PySem.call f vs):=
 L2.ZCQ (n:=63) (k:=14) (x:="script") (CX:=λ_=>El) (sp:=λw=>PL (K w.params)) hn (by decide) PB ⟨rfl,by decide,by decide⟩ hY F (λ_ _ a ns hl _ hS=>⟨a,ns,rfl,hS,hl,λ_=>rfl⟩) λ_ _ _ _ _ z=>z
end Pf
open PySem.W
local macro_rules | `(tactic| walk_at "kF")=>`(tactic| (refine' L2.zc ?_ ?_ ?_;all_goals try k_is;all_goals k_is))
set_option maxRecDepth 100000 in
set_option maxHeartbeats 0 in
theorem PySem.Challenge.cw_stirround_k21_first_wrong_entries_holds : PySem.Challenge.rw_stirround_k21_first_wrong_entries.Holds := by
 w_on;o_law;k_head;(case hw=>w_witness2)
 k_fill
 refine Pf.walk (l:=PySem.Challenge.rw_stirround_k21_first_wrong_entries) rfl rfl (λw h Y=>PySem.W.kIn_of Y) ?F
 case F=>
  intro w mg fa h KX G Oi;refine' Pf.all_mk KX G Oi ?_ ?_ ?_ ?_ ?_ ?_ ?_ ?_ ?_ ?_ ?_ ?_ ?_ ?_ ?_ ?_ ?_ ?_ ?_ ?_ ?_ ?_ ?_ ?_ ?_ ?_ ?_ ?_ ?_ ?_ ?_ ?_ ?_ ?_ ?_ ?_ ?_ ?_ ?_ ?_ ?_ ?_ ?_ ?_ ?_ ?_ ?_ ?_ ?_ ?_ ?_ ?_ ?_ ?_ ?_ ?_ ?_ ?_ ?_ ?_ ?_ ?_ ?_ ?_ ?_ ?_ ?_ ?_ ?_ ?_ ?_ ?_ ?_ ?_ ?_ ?_ ?_ ?_ ?_ ?_ ?_ ?_ ?_ ?_ ?_ ?_ ?_ ?_ ?_ ?_ ?_ ?_ ?_ ?_ ?_ ?_ ?_ ?_ ?_ ?_ ?_ ?_ ?_ ?_ ?_ ?_ ?_ ?_ ?_ ?_ ?_ ?_ ?_ ?_ ?_ ?_ ?_ ?_ ?_ ?_ ?_ ?_ ?_ ?_ ?_ ?_ ?_ ?_ ?_ ?_ ?_ ?_ ?_ ?_ ?_ ?_ ?_ ?_ ?_ ?_ ?_ ?_ ?_ ?_ ?_ ?_ ?_ ?_ ?_ ?_ ?_ ?_ ?_ ?_ ?_ ?_ ?_ ?_ ?_ ?_ ?_ ?_ ?_ ?_ ?_ ?_ ?_ ?_ ?_ ?_ ?_ ?_ ?_ ?_ ?_ ?_ ?_ ?_ ?_ ?_ ?_ ?_ ?_ ?_ ?_ ?_ ?_ ?_ ?_ ?_ ?_ ?_ ?_ ?_ ?_ ?_ ?_ ?_ ?_ ?_ ?_ ?_ ?_ ?_ ?_ ?_ ?_ ?_ ?_ ?_ ?_ ?_ ?_ ?_ ?_ ?_ ?_ ?_ ?_ ?_ ?_ ?_ ?_ ?_ ?_ ?_ ?_ ?_ ?_ ?_ ?_
  any_goals first|k_is|(show _=_;k_is)|kernel_rfl|walk_at "kF"
#print axioms PySem.Challenge.cw_stirround_k21_first_wrong_entries_holds
