import PyProof.Rows.All
import Wide.All
import OpenK.AllK
import PySem.Challenge.RW_stirround_k74_crowds_and_rules_refused
set_option genSizeOf false
set_option linter.all false
set_option compiler.extract_closed false
set_option bootstrap.genMatcherCode false
noncomputable section
def ra:=@PySem.wpAny_bind
def tK:=@if_neg
def u4:=@if_pos
def uL:=@decide_eq_true
def uz:=@PySem.wpAny_pure
def vY:=@of_decide_eq_true
def vc:=@decide_eq_false
def vo:=@PySem.wpAny_mono
def vt:=@PySem.wpAny_truthy_bool
def wH:=@congrArg
def xn:=@PySem.wpAny_Call_Name_kw
def y2:=@PySem.wpAny_holding
def y4:=@PySem.wpAny_seqItems
def yz:=@PySem.wpAny_field
def zE:=@beq_self_eq_true
def zJ:=@PySem.call_meets
def zt:=@PySem.wpAny_passesOwn
def ZA1:=@PySem.wpAny_setField_rec
def ZA3:=@decide_eq_true_iff
def ZA5:=@or_false
def ZA7:=@PySem.wpAny_updateSeq
def ZAG:=@PySem.wpAny_newObj_type
def ZAH:=@PySem.wpAny_loadPart_at
def ZAJ:=@PySem.wpAny_call
def ZAL:=@PySem.lookup_relabel_local
def ZAM:=@PySem.codeAny_call_builtin
def ZAP:=@PySem.plainId_quiet
def ZAQ:=@PySem.wpAny_execs_nil
def ZAU:=@PySem.tupleKind_room_in1
def ZAV:=@PySem.wpAny_letGo
def ZAX:=@PySem.wpAny_callSpecial?_slot
def ZAY:=@PySem.codeAny_mono
def ZAa:=@PySem.wpAny_setField
def ZAc:=@PySem.wpAny_pyIter_list
def ZAf:=@PySem.plainObj_wpAny_Assign_Attribute
def ZAj:=@PySem.wpAny_standAt
def ZAm:=@PySem.wpAny_call_entry
def ZAr:=@PySem.codeAny_builtin
def ZAs:=@PySem.wpAny_tryCatch
def ZAu:=@PySem.wpAny_loadPart
def ZB6:=@if_true
def AB:=@List.length_map
def Aa:=@List.not_mem_nil
def Ao:=@PySem.W.mg_of
def As:=@List.getElem?_eq_getElem
def Ax:=@List.getElem?_map
def B0:=@Nat.le_refl
def B6:=@List.map_cons
def BE:=@PySem.Heap.lt_size
def BO:=@Ne.symm
def Be:=@Option.some.inj
def Bo:=@PySem.Heap.get?_push_of_some
def By:=@List.length_append
def C6:=@List.append_assoc
def C7:=@List.mem_of_getElem?
def C9:=@Bool.false_ne_true
def CA:=@List.size_toArray
def CB:=@Nat.le_trans
def CY:=@PySem.Heap.get?_push_size
def CZ:=@List.getElem?_set_ne
def Ca:=@List.map_append
def Cf:=@Nat.zero_le
def Ck:=@List.length_cons
def Cm:=@List.map_map
def Cn:=@Nat.ne_of_lt
def Cy:=@List.nodup_append
def DA:=@List.getElem?_set_self
def Dj:=@List.length_take
def Dz:=@List.append_nil
def E2:=@List.mem_cons_of_mem
def EE:=@Nat.lt_of_lt_of_le
def EF:=@PySem.PassesOwn.never
def EW:=@List.getElem?_append_left
def FO:=@List.getElem_of_mem
def FP:=@PySem.F.plainAttrs_list
def Ff:=@Bool.and_eq_true
def Fg:=@PySem.Heap.get?_update_other
def Fh:=@List.mem_cons_self
def G5:=@List.getElem?_append_right
def G6:=@List.take_length
def GQ:=@List.mem_append_right
def GR:=@List.mem_cons
def Gp:=@List.mem_append_left
def HM:=@List.nil_append
def HN:=@List.nodup_nil
def Hq:=@Int.toNat_natCast
def Hr:=@List.all_eq_true
def Hs:=@List.lookup_cons
def Iq:=@PySem.Heap.size_push
def Ir:=@List.length_singleton
def Iu:=@PySem.W.kia_one
def Iv:=@PySem.W.mg_none_of
def JT:=@PySem.Heap.get?_update_self
def JU:=@List.getD_eq_getElem?_getD
def JV:=@List.length_set
def JW:=@Nat.le_succ
def Km:=@List.getElem_idxOf
def Kn:=@List.map_nil
def Ko:=@List.zip_cons_cons
def Kq:=@Nat.lt_of_le_of_lt
def Lq:=@Int.emod_nonneg
def Lr:=@List.getElem_mem
def Ls:=@List.length_range
def Lu:=@List.map_drop
def Lv:=@Nat.lt_irrefl
def Lx:=@Nat.ne_of_gt
def Nc:=@Bool.eq_iff_iff
def Nd:=@Int.emod_lt_of_pos
def Nf:=@Int.le_refl
def Ng:=@List.any_cons
def Nh:=@List.map_congr_left
def Ni:=@List.mem_append
def Nj:=@List.replicate_succ
def Nk:=@PySem.mem_of_lookup
def Ph:=@List.flatten_cons
def Pj:=@List.getElem?_range
def Pk:=@List.getElem_take
def Pl:=@List.mem_of_mem_take
def Pm:=@List.sum_cons
def Pn:=@List.take_of_length_le
def Po:=@Nat.succ.inj
def SS:=@PySem.F.plain_max_loop
def SU:=@PySem.Heap.get?_none_of_le
def SV:=@Int.eq_ofNat_of_zero_le
def SW:=@List.find?_cons
def SX:=@List.getElem_map
def SY:=@List.length_drop
def Sa:=@List.length_nil
def Sb:=@List.length_zip
def Sd:=@List.map_take
def Se:=@List.set_cons_succ
def Sf:=@List.take_succ_eq_append_getElem
def Sh:=@PySem.F.slot_list_append
def Si:=@PySem.F.type_list_append
def WO:=@PySem.Heap.size_after_update
def WQ:=@List.all_cons
def WR:=@List.filterMap_cons
def WS:=@List.length_filter_le
def WT:=@List.mem_of_mem_drop
def WU:=@List.set_set
def WV:=@Nat.le_add_right
def WW:=@Nat.min_eq_left
def WX:=@Nat.sub_zero
def WY:=@Nat.succ_pos
def WZ:=@PySem.Obj.data_mapFields
def Wc:=@PyProof.Rows.callWith_type1
def Wd:=@PySem.F.slot_list_index
def Wf:=@PySem.W.any_some
def Wh:=@PySem.W.callWith_K
def dh:=@Array.getElem?_toList
def di:=@Array.length_toList
def dk:=@Bool.and_false
def dm:=@PySem.F.slot_tuple_iterator_next
def dq:=@List.drop_eq_getElem_cons
def dr:=@List.drop_zero
def du:=@List.forIn_nil
def dv:=@Nat.le_of_lt
def dw:=@Nat.le_of_not_lt
def dy:=@Nat.le_total
def dz:=@Nat.lt_succ_self
def e6:=@Nat.min_eq_right
def e9:=@Nat.sub_self
def eB:=@Option.isSome_map
def eD:=@Option.map_some
def eE:=@PySem.F.slot_list_insert
def eF:=@PySem.W.looks_findIn
def qf:=@PySem.Around.under_plainId
def qg:=@Bool.or_true
def qh:=@Bool.true_and
def qk:=@PySem.Calls.callWith_builtin
def ql:=@PySem.Calls.evalArgs_plain
def qm:=@Classical.choose_spec
def qo:=@Int.lt_of_le_of_lt
def qp:=@Int.toNat_of_nonneg
def qr:=@List.cons_append
def qt:=@List.countP_cons
def qu:=@List.filter_append
def qw:=@List.foldl_cons
def qy:=@List.forIn_cons
def qz:=@List.getElem?_replicate
def r6:=@List.idxOf_cons
def r8:=@List.length_erase_of_mem
def r9:=@List.length_pos_of_mem
def rC:=@List.length_replicate
def rD:=@List.mem_erase_of_ne
def rE:=@List.of_mem_zip
def rF:=@List.set_cons_zero
def rG:=@List.sum_append
def rH:=@List.take_append_drop
def rJ:=@Nat.le_of_eq
def rK:=@Nat.le_of_lt_succ
def rL:=@Nat.lt_trans
def rM:=@Nat.zero_add
def rN:=@PySem.Obj.isFreed_of_fields
def rO:=@Option.bind_some
def rP:=@PySem.Paired.length
def rQ:=@PySem.F.excBase_ValueError
def rR:=@PySem.F.slot_list_pop
def rS:=@PySem.F.type_list_index
def rV:=@PySem.F.type_list_insert
def rW:=@PySem.F.type_list_pop
def rX:=@PySem.W.looks_clsIn
def rY:=@PySem.W.methodCall_KW
def rZ:=@PySem.W.plainGet_of
def ZKK:=@Array.find?_toList
def ZKL:=@PySem.Calls.Name_function_global
def ZKM:=@Classical.byContradiction
def ZKN:=@PySem.F.args_tuple_iterator_next_1
def ZKO:=@PySem.F.entry_tuple_iterator_next
def ZKP:=@List.Pairwise.map
def ZKQ:=@List.any_eq_false
def ZKR:=@List.any_eq_true
def ZKS:=@List.contains_cons
def ZKT:=@List.dropLast_eq_take
def ZKU:=@List.eraseIdxIfInBounds_toArray
def ZKV:=@List.eraseIdx_cons_succ
def ZKW:=@List.ext_getElem
def ZKX:=@List.getElem?_cons_succ
def ZKY:=@List.getElem?_eq_none
def ZKZ:=@List.getElem?_modify
def ZKa:=@List.getElem_drop
def ZKb:=@List.getElem_inj
def ZKc:=@List.getElem_range
def ZKd:=@List.lookup_cons_self
def ZKe:=@List.modify_succ_cons
def ZKf:=@List.take_sublist
def ZKg:=@List.toList_toArray
def ZKh:=@Nat.add_sub_cancel
def ZKi:=@Nat.lt_succ_of_lt
def ZKj:=@Nat.not_lt_of_le
def ZKk:=@Nat.succ_le_succ
def ZKl:=@Option.getD_none
def ZKm:=@Option.isSome_some
def ZKn:=@PySem.F.entry_list_index
def ZKo:=@PySem.F.slot_list_count
def ZKp:=@PySem.F.type_list_count
def ZKq:=@PySem.W.Looks.here
def ZKr:=@PySem.W.cellsFrom_some
def ZKs:=@PySem.W.findObj_own
def ZKt:=@PySem.W.handedOut_of
def ZKu:=@PySem.W.kitx_dict
def ZKv:=@PySem.W.kitx_list
def ZKw:=@PySem.W.looks_find
def ZKx:=@PySem.W.looks_mroIn
def ZKy:=@PySem.W.set_plain
def ZKz:=@PySem.Within.cons
def ZL0:=@PySem.SeqAt.RcNeAt.lists_lengths
def ZL1:=@PySem.SeqAt.eq_list_lengthsAt
open PySem PySem.Spec PyProof.Rows
abbrev Zq0(x:Str):Prop:=(x == ("__debug__":Str))=false
abbrev ZLZ:=PySem.W.Frag
abbrev ZLa:=(List (Addr×Obj))
abbrev ZLb:=(Str->Option Value)
namespace PySem.W.Fast
def t:=Nat
def tw14482227556216537714:=t
def tw9469718436790062948:=t
def tw17150593724663245621:=t
def tw6821310024932122922:=t
def tw4955386336512814703:=t
def tw3113026024035879174:=t
def tw17157057433001516368:=t
def tw1156021875878946437:=t
def tw1869627863250115166:=t
def tw4693144167388881068:=t
def tw3380536274290221015:=t
def tw9917223224787767276:=t
def tw8058285174252271016:=t
def tw1975801245743591921:=t
def tw12825598257269369960:=t
def tw6884090070976039312:=t
def tw10491889701017600317:=t
def tw14049003831132019266:=t
def tw13458939432363106126:=t
def tw17982394596330332281:=t
def tw4068640300918869172:=t
def tw10387214934121995404:=t
def tw8373660382524299266:=t
def tw10134548348372915962:=t
def tw2603335518893895187:=t
def tw5135545978626317780:=t
def tw2837264022645113356:=t
def tw10249887077720029794:=t
def tw17628450572458140714:=t
def tw355667450213253940:=t
def tw4545956013965923288:=t
def tw13214949062570132514:=t
def tw12458332255395705471:=t
def tw17202487091208434159:=t
def tw10080842547412496879:=t
def tw10457047000074463284:=t
def tw6459314667164373182:=t
def tw16757495129726574073:=t
def tw14705638395053444777:=t
def tw5657097241688010785:=t
def tw9529748376221711646:=t
def tw12610063202906103779:=t
def tw14918286957249134097:=t
def tw18311297418293765674:=t
def tw228517677757553926:=t
def tw12596157108291942715:=t
def tw3223376839312846800:=t
def tw13616552494737391457:=t
def tw10478900793167486053:=t
def tw8309242359427262406:=t
def tw9498211487504950087:=t
def tw13789386075087155008:=t
def tw11078748689870073091:=t
def tw4810483745847960063:=t
def tw10858453374534603800:=t
def tw6650560882821779362:=t
def tw15530880989207870834:=t
def tw14560499745313708190:=t
def tw4922955835095150646:=t
def tw11315175933336702827:=t
def tw16063958879803094483:=t
def tw17559209005055913023:=t
def tw9607881127810648783:=t
def tw8603625724519741475:=t
def tw8567985218002209952:=t
def tw1754465127432733374:=t
def tw5748042142168495692:=t
def tw4095468286631130998:=t
def tw1983421714400386387:=t
def tw4315370344773093294:=t
def tw13042738383696594602:=t
def tw12378417444442975274:=t
def tw11169079887529811297:=t
def tw10338459162919891161:=t
def tw7985518754047343510:=t
def tw16042419486060540616:=t
def tw4579738099283469766:=t
def tw12809767551687388038:=t
def tw4708721978136000512:=t
def tw18262108150428966145:=t
def tw5472185362079312459:=t
def tw18048591882604879876:=t
def tw8321093945248804566:=t
def tw14286177814577011463:=t
def tw4111526755687857738:=t
def tw3675724177462340742:=t
def tw1562616024547290087:=t
def tw11453708583081669815:=t
def tw7024874008905921944:=t
def tw12647656734803234576:=t
def tw6245120098639403009:=t
def tw14972952952179875499:=t
def tw6570753131867142708:=t
def tw13751302252819939209:=t
def tw15469614713479631048:=t
def tw1704864476836322850:=t
def tw8694075355235952020:=t
def tw10710148441214234389:=t
def tw7650436567650822782:=t
def tw10085196890076895082:=t
def tw7010442542673567151:=t
def tw5503769091004804471:=t
def tw1480552993391596170:=t
def tw8920551112979359043:=t
def tw18162396916086908265:=t
def tw10935294054635816154:=t
def tw7909354135484996284:=t
def tw17682217389203451403:=t
def tw7983915882510326560:=t
def tw14928727147290933205:=t
def tw375905107774148830:=t
def tw13882737902523706299:=t
def tw2313516344746797845:=t
def tw4536958859210036717:=t
def tw13584315621310445039:=t
def tw7838999597659658489:=t
def tw8949948468237302704:=t
def tw8455959436110662424:=t
def tw481563860070132261:=t
def tw17776099339397503680:=t
def tw5076857500155518469:=t
def tw8395025383055102281:=t
def tw12982642634395250475:=t
def tw4954733971272720731:=t
def tw16471983051250843401:=t
def tw2639268397327313047:=t
def tw7221553589439863284:=t
def tw3831472610852854819:=t
def tw296243004600790433:=t
def tw10568794306593197952:=t
def tw18425857044973114806:=t
def tw12075419180438167182:=t
def tw2760346745599932291:=t
def tw15284260153657044405:=t
def tw2436908430719541698:=t
def tw8574446869955360919:=t
def tw17985809973519468069:=t
def tw11535091105170888427:=t
def tw77101526188145499:=t
def tw9077365051311886202:=t
def tw5510456942008603465:=t
def tw12488047131116188780:=t
def tw15943188050134864312:=t
def tw3159271093841183388:=t
def tw18001379160041738992:=t
def tw1140869747817226739:=t
def tw15982874900663436042:=t
def tw9426293547967482819:=t
def tw9859084827719173934:=t
def tw17126978742496827687:=t
def tw6230039603618502876:=t
def tw7446111799679947884:=t
def tw5808807637701363857:=t
def tw7848920224443731146:=t
def tw1013086157414012281:=t
def tw16945622966894276497:=t
def tw17181359859416163417:=t
def tw6180305173884210589:=t
def tw17030887978076361965:=t
def tw5609437347806939319:=t
def tw12307279134787186879:=t
def tw10723669053509450982:=t
def tw12711481559495190923:=t
def tw2210195162462462862:=t
def tw17838152419984595195:=t
def tw12213104174568595773:=t
def tw15924306378657823351:=t
def tw8627336576094641562:=t
def tw2550280186398078481:=t
def tw14208033358377983208:=t
def tw9612097791043802264:=t
def tw14986673701445029617:=t
def tw3234646933897585069:=t
def tw15241598192978756252:=t
def tw9496613636387002860:=t
def tw2629712637887094161:=t
def tw1478665070491257916:=t
def tw4034857753019946780:=t
def tw1291455592889487537:=t
def tw8920659536538834678:=t
def tw7879696937057443047:=t
def tw17262506000230898396:=t
def tw3068709316875410250:=t
def tw4291804112519514485:=t
def tw5932389079027849977:=t
def tw11052954694693807282:=t
def tw12585236962616416456:=t
def tw17481859848790755493:=t
def tw1334011528711514941:=t
def tw7046065525788838973:=t
def tw3266678182028361305:=t
def tw16904058214299523938:=t
def tw5834493825463795348:=t
def tw4638084348325390868:=t
def tw8204938466547915704:=t
def tw2205439061412172311:=t
def tw4622361498399865781:=t
def tw1936805008026980368:=t
def tw16867587098128449364:=t
def tw15253836347936806517:=t
def tw13584495985063013280:=t
def tw4921799952739031817:=t
def tw1973019499621537226:=t
def tw1865201260098202831:=t
def tw14097062613286257802:=t
def tw2516125860361416368:=t
def tw8352583476362857040:=t
def tw14631150351700592106:=t
def tw15038722042657199247:=t
def tw11488884880850702767:=t
def tw16507800422472185281:=t
def tw17704729330824522836:=t
def tw10614784625512598757:=t
def tw12349790249277667228:=t
def tw217473444382559217:=t
def tw257308135694302955:=t
def tw13994163044835513240:=t
def tw15271390300962104201:=t
def tw10938434511624888801:=t
def tw858753090942567832:=t
def tw12654495150517990328:=t
def tw2653407029468928776:=t
def tw7528089676257528918:=t
def tw15884567483847185588:=t
def tw8920937586233731337:=t
def tw12949057859060744055:=t
def tw9198358966176749171:=t
def tw13938532577240130990:=t
def tw8117666998414395326:=t
def tw7294834830551746231:=t
def tw5622179428149705329:=t
def tw4722706371067118259:=t
def tw5348785872188604320:=t
def tw8928725986365800830:=t
def tw334777841209123767:=t
def tw17601421555424259457:=t
def tw9715585554727761634:=t
def tw4554526459813125133:=t
def tw17294272646381636279:=t
def tw17625850955886726498:=t
def tw5487444867887048818:=t
def tw17789164074497444277:=t
def tw1315922582482736366:=t
def tw10129015161894454941:=t
def tw14997260663318714016:=t
def tw10822085525332821568:=t
def tw672854829762355796:=t
def tw9386083864926766094:=t
def tw5850388240135931631:=t
def tw11020271794979940297:=t
def tw3452259961817345666:=t
def tw7258051181937388852:=t
def tw14057855104420576081:=t
def tw477183542444341673:=t
def tw11145059396474322434:=t
def tw4623563031110091539:=t
def tw2635585436772524969:=t
def tw15342437640193021321:=t
def tw16837539570540683010:=t
def tw16421017750377183949:=t
def tw6115460623818910640:=t
def tw13721769849421425942:=t
def tw17350091817917525892:=t
def tw7092502536634488135:=t
def tw6595248875670986117:=t
def tw12012558874465976769:=t
def tw113246528599874529:=t
def tw11336836896378673120:=t
def tw15027634057177928345:=t
def tw7467245291851193325:=t
def tw16829129120675302128:=t
def tw10439710707666451268:=t
def tw16539434336133174357:=t
def tw3998089208822872243:=t
def tw2908472302693728670:=t
def tw11041357578681702183:=t
def tw1474092407852461091:=t
def tw8604425555531969886:=t
def tw16292282627346847703:=t
def tw6929281900191671611:=t
def tw270558495841335046:=t
def tw13808913577638972398:=t
def tw1131109237747599357:=t
def tw7054211760257936008:=t
def tw15256546086573012866:=t
def tw12406152202884570618:=t
def tw17320374288452074492:=t
def tw7439020974300883890:=t
def tw735717004449740832:=t
def tw18427843534203189027:=t
def tw1301746372302812378:=t
def tw1457629724170194676:=t
def tw5101403922630587971:=t
def tw5614672311694918912:=t
def tw5489653982358441056:=t
def tw3950281149802262852:=t
def tw12378117318896336997:=t
def tw7409755418271188904:=t
def tw15739322126735433470:=t
def tw8726030071880150534:=t
def tw5418362147571637403:=t
def tw1099191396067277392:=t
def tw13953842601103357870:=t
def tw9992394349984957190:=t
def tw392861438775357097:=t
def tw1788066299936543041:=t
def tw16211107522913131198:=t
def tw6691936236089083573:=t
def tw5278267494435568789:=t
def tw2913067973509355036:=t
def tw1325214919224594893:=t
def tw2446583918450506807:=t
def tw14563406283288010752:=t
def tw9983657694913387174:=t
def tw12284730581927946193:=t
def tw16967182023753437133:=t
def tw9749358025679354594:=t
def tw1424880480422133158:=t
def tw11025822800124710635:=t
def tw585475256547826818:=t
def tw16495077295879919876:=t
def tw15805559407693898992:=t
def tw1709921517662507018:=t
def tw16383991547764837468:=t
def tw12842617387179555685:=t
def tw410966757467940806:=t
def tw4150642579824747627:=t
def tw367283598386375362:=t
def tw15481733458216367519:=t
def tw16515032543853284163:=t
def tw8849395269411880572:=t
def tw2283619280561724853:=t
def tw12061644665659199006:=t
def tw3330413927658740894:=t
def tw2279624844615716735:=t
def tw7777596090502704619:=t
def tw3009182831063131255:=t
def tw11982282536040627531:=t
def tw3475120180710363617:=t
def tw6579988396253647812:=t
def tw9728531553967692296:=t
def tw5548374737113685169:=t
def tw18329943822509584883:=t
def tw7936913617600086114:=t
def tw14713633646733872871:=t
def tw17980071932121607724:=t
def tw11014002972120323557:=t
def tw10925615785014105000:=t
def tw9638113318752727035:=t
def tw13419272253323239191:=t
def tw7007776767272454738:=t
def tw14195557760983140282:=t
def tw17225419042994769243:=t
def tw17737385561493158031:=t
def tw11222634692600670589:=t
def tw10296858355015026307:=t
def tw6879957711244079433:=t
def tw12512585904344790591:=t
def tw9295014187279732148:=t
def tw669180509259861238:=t
def tw1471181530794857774:=t
def tw6471913319657432367:=t
def tw3245464753843302682:=t
def tw3506747188888670977:=t
def tw1191739634132423444:=t
def tw11888706054358769039:=t
def tw4215050615093349886:=t
def tw9764170753743470385:=t
def tw5955163465125354792:=t
def tw8728063497717364567:=t
def tw12758338117424452642:=t
def tw3876636440395673775:=t
def tw17155560950308448820:=t
def tw7636647838481043106:=t
def tw17216651968387394028:=t
def tw6154731714928473285:=t
def tw6818466944922964642:=t
def tw6326907753136078944:=t
def tw14718699011750328480:=t
def tw6971116657902081868:=t
def tw11227134862968796471:=t
def tw14574642047636344078:=t
def tw9734645756494801143:=t
def tw15652907645185894845:=t
def tw2392837357976933676:=t
def tw1131920030774440855:=t
def tw18019277048815042504:=t
def tw5977181570260561881:=t
def tw8526137462599178386:=t
def tw3135654970540741583:=t
def tw14856638969198466274:=t
def tw13912964745666173298:=t
def tw17030017784473277869:=t
def tw7529784413625433378:=t
def tw6869291876823598953:=t
def tw6089131236609956648:=t
def tw15699907820838342069:=t
def tw13952840238787437964:=t
def tw12007687224007155705:=t
def tw369374138598262215:=t
def tw11035224009361158550:=t
def tw1487617748305474317:=t
def tw6744778951147362245:=t
def tw11519302476786153383:=t
def tw2985324607230898316:=t
def tw17351911400799519332:=t
def tw5540404470707437982:=t
def tw6206183011904869336:=t
def tw10883161150626817489:=t
def tw4077655505336387593:=t
def tw12278678554381322349:=t
def tw9994089776956139320:=t
def tw4739326533405668118:=t
def tw15599358273436770706:=t
def tw15411401477121059702:=t
def tw11401804555096179744:=t
def tw16001062511436969:=t
def tw13832278268340280661:=t
def tw8686805893180741935:=t
def tw10490280147993239216:=t
def tw12989210306782299622:=t
def tw1979012490334484767:=t
def tw613079157660558347:=t
def tw4872519417898244210:=t
def tw6589327633804787876:=t
def tw12812319004454880463:=t
def tw15112458205734328260:=t
def tw12998622359747050682:=t
def tw2515300588400656763:=t
def tw6637047791292171374:=t
def tw8158452650748920166:=t
def tw15801014137637223507:=t
def tw14234772151218335576:=t
def tw13961390745202821909:=t
def tw1216823086107992903:=t
def tw15022939210949104180:=t
def tw8165460153658136282:=t
def tw2370536385929712881:=t
def tw6779654188547374503:=t
def tw14595059633669614617:=t
def tw10020633077054090336:=t
def tw16487416839926425159:=t
def tw313778605034968165:=t
def tw11595364471045458229:=t
def tw15224730996958841355:=t
def tw9342224048050021126:=t
def tw3469203058065017333:=t
def tw7105701251770499569:=t
def tw305556749175851305:=t
def tw9543208762718840388:=t
def tw7267785573297562530:=t
def tw17997038590942675627:=t
def tw10195090433818646108:=t
def tw14848618197429597706:=t
def tw8344383406994937229:=t
def tw11477057869478312157:=t
def tw5513229054650837378:=t
def tw10802191016753524124:=t
def tw4683644042762259233:=t
def tw14874195312171024393:=t
def tw3440666831897992501:=t
def tw13173810723515883391:=t
def tw13054087851418754002:=t
def tw10945432294166298867:=t
def tw18443421703624739898:=t
def tw6717695158312678444:=t
def tw3908459924103093661:=t
def tw5652019724264662806:=t
def tw11905574523019235173:=t
def tw11245146739402264386:=t
def tw8866491814703154772:=t
def tw13469890688032248845:=t
def tw6061772218521957939:=t
def tw3533436606089510402:=t
def tw17110538333523709709:=t
def tw12756192667658444731:=t
def tw2392622550990507112:=t
def tw1911264468211302490:=t
def tw7535123074381234310:=t
def tw11140977691246716891:=t
def tw5894620974294603614:=t
def tw18084429210245716449:=t
def tw5118457916647474544:=t
def tw5781120612163157840:=t
def tw1953522090135977208:=t
def tw16048453106188124933:=t
def tw17185109736674083830:=t
def tw11177392176282121160:=t
def tw13593798059430092208:=t
def tw17028681821752093083:=t
def tw17733352759511739126:=t
def tw760954405371890297:=t
def tw9332270360071948308:=t
def tw3063155416103334577:=t
def tw4190907230242943337:=t
end PySem.W.Fast
set_option Elab.async false
set_option maxRecDepth 100000
namespace L2
variable{α κ:Type}{C a b dx it:Addr}{c cd u:Value}{w:World}{Zp h h':Heap}{m name qual x:Str}{e tg:Expr}{ph Zd:ZLa}{s s':Shared}{g':Array GenState}{i j n t' tk:Nat}{d':Drawn}{ch fp:List Addr}{N ks ns ps:List Str}{M:Model}{A:Around}{E Q:Value->Shared->Prop}{es rest:List Expr}{K4 ZLX pos:Pos}{op:CmpOp}{f:Value->Value->Sem Value}{pl:Sem Bool}{ds us:List Value}{mA mg:ZLb}{prog:Program}{kw:List (Str×Value)}{fd:FuncData}{outer:List Env}{sc scope:Scope}
abbrev Key:=Sum Int Str
def N8:Key->Value->Bool
 | .inl k,v=>Value.isInt k v
 | .inr x,v=>Value.isStrOf x v
def ZHl(w:World):Key->Int
 | .inl k=>hashInt k
 | .inr x=>hashStr w x
theorem JD:∀{k:Key}{v:Value},N8 k v=true->(∃i t,k=Sum.inl i/\v=Value.int i t)∨(∃x t,k=Sum.inr x/\v=Value.str x t)
 | .inl i,v,h=>by
  obtain⟨t,e⟩:=Value.isInt_shape (k:=i) (v:=v) h;exact .inl ⟨i,t,rfl,e⟩
 | .inr x,v,h=>by
  obtain⟨t,e⟩:=Value.isStrOf_shape (x:=x) (v:=v) h;exact .inr ⟨x,t,rfl,e⟩
theorem ZCi(i:Int)(t:Tok):N8 (.inl i) (.int i t)=true:=by simp[N8,Value.isInt]
theorem uS(x:Str)(t:Tok):N8 (.inr x) (.str x t)=true:=by simp[N8,Value.isStrOf]
theorem ZCU(a b:Int):decide ((Sum.inl a:Key)=Sum.inl b)=(a == b):=by
 by_cases e:a=b
 .subst e;simp
 .have h:¬ (Sum.inl a:Key)=Sum.inl b:=λq=>e (Sum.inl.inj q);rw[vc h];exact(beq_eq_false_iff_ne.mpr e).symm
theorem yT(a b:Str):decide ((Sum.inr a:Key)=Sum.inr b)=decide (a=b):=by
 by_cases e:a=b
 .subst e;simp
 .have h:¬ (Sum.inr a:Key)=Sum.inr b:=λq=>e (Sum.inr.inj q);rw[vc h,vc e]
theorem uI(a:Int)(b:Str):decide ((Sum.inl a:Key)=Sum.inr b)=false:=vc (λq=>nomatch q)
theorem ZHB(a:Str)(b:Int):decide ((Sum.inr a:Key)=Sum.inl b)=false:=vc (λq=>nomatch q)
def E5(prog:Program)(w:World):PySem.KeyKind prog w Key where
 is:=N8
 hash:=ZHl w
 inj:=λv a b g d=>by
  rcases JD g with⟨i,t,rfl,rfl⟩|⟨x,t,rfl,rfl⟩
  .rcases JD d with⟨j,u,rfl,e⟩|⟨y,u,rfl,e⟩
   .injection e with e1 _;rw[e1]
   .exact nomatch e
  .rcases JD d with⟨j,u,rfl,e⟩|⟨y,u,rfl,e⟩
   .exact nomatch e
   .injection e with e1 _;rw[e1]
 byValue:=λk v h=>by
  rcases JD h with⟨i,t,rfl,rfl⟩|⟨x,t,rfl,rfl⟩ <;> rfl
 pyHash:=λc h=>by
  rcases JD c with⟨i,t,rfl,rfl⟩|⟨x,t,rfl,rfl⟩
  .exact wpAny_pyHash_int h
  .exact wpAny_pyHash_str h
 eqBool:=λf c h=>by
  rcases JD f with⟨i,t,rfl,rfl⟩|⟨x,t,rfl,rfl⟩
  .rcases JD c with⟨j,u,rfl,rfl⟩|⟨y,u,rfl,rfl⟩
   .rw[ZCU]at h;exact wpAny_eqBool_int h
   .rw[uI]at h;exact SeqAt.EqAt.int_str i t y u _ _ _ _ h
  .rcases JD c with⟨j,u,rfl,rfl⟩|⟨y,u,rfl,rfl⟩
   .rw[ZHB]at h;exact SeqAt.EqAt.str_int x t j u _ _ _ _ h
   .rw[yT]at h;exact wpAny_eqBool_str h
 «strs»:=λk x t v h=>by
  rcases JD h with⟨i,u,rfl,e⟩|⟨y,u,rfl,e⟩
  .exact nomatch e
  .injection e with e1 _
   subst e1;cases v <;> rfl
theorem x8(prog:Program)(w:World)(i:Int)(t:Tok):(E5 prog w).is (.inl i) (.int i t)=true:=ZCi i t
theorem ZFA(prog:Program)(w:World)(x:Str)(t:Tok):(E5 prog w).is (.inr x) (.str x t)=true:=uS x t
inductive V where
 |AA|bl (b:Bool)|int (i:Int)|str (x:Str)|He (b:Array UInt8)|Lm (b:UInt64)|ref (a:Addr)|ty (n:String)
 deriving DecidableEq
variable{v y:V}{E7 vs:List V}
def RelV:V->Value->Prop
 | .AA,u=>u=Value.none
 | .bl b,u=>u=Value.bool b
 | .int i,u=>∃t,u=Value.int i t
 | .str x,u=>∃t,u=Value.str x t
 | .He b,u=>∃t,u=Value.bytes b t
 | .Lm b,u=>∃t,u=Value.float b t
 | .ref a,u=>u=Value.ref a
 | .ty n,u=>u=Value.type n
abbrev Vals:List V->List Value->Prop:=Paired RelV
theorem Vals.length{xs:List V}{us:List Value}(r:Vals xs us):xs.length=us.length:=rP r
theorem Vals.get:∀{xs:List V}{us:List Value}{i:Nat}{x:V},Vals xs us->xs[i]?=some x->∃u,us[i]?=some u/\RelV x u
 |_,_,_,_,.nil,e=>by simp at e
 |_,_,0,_,.cons r _,e=>by simp at e;subst e;exact⟨_,rfl,r⟩
 |_,_,i+1,x,.cons _ t,e=>by
  obtain⟨u,h1,h2⟩:=Vals.get (i:=i) (x:=x) t (by simpa using e)
  exact⟨u,by simpa using h1,h2⟩
theorem Vals.set{x:V}{u:Value}(r:RelV x u):∀{xs:List V}{us:List Value}(i:Nat),Vals xs us->Vals (xs.set i x) (us.set i u)
 |_,_,_,.nil=>.nil
 |_,_,0,.cons _ t=>.cons r t
 |_,_,i+1,.cons q t=>.cons q (Vals.set r i t)
theorem Vals.append:∀{xs ys:List V}{us ws:List Value},Vals xs us->Vals ys ws->Vals (xs++ys) (us++ws)
 |_,_,_,_,.nil,s=>s
 |_,_,_,_,.cons r t,s=>.cons r (Vals.append t s)
theorem Vals.take:∀{xs:List V}{us:List Value}(n:Nat),Vals xs us->Vals (xs.take n) (us.take n)
 |_,_,0,_=>.nil
 |_,_,_+1,.nil=>.nil
 |_,_,n+1,.cons r t=>.cons r (Vals.take n t)
theorem Vals.drop:∀{xs:List V}{us:List Value}(n:Nat),Vals xs us->Vals (xs.drop n) (us.drop n)
 |_,_,0,r=>r
 |_,_,_+1,.nil=>.nil
 |_,_,n+1,.cons _ t=>Vals.drop n t
def FY:Option V->Option Value->Prop
 |some v,some u=>RelV v u
 |none,none=>True
 |_,_=>False
def KV:List (κ×V)->List (κ×Value)->Prop:=Paired λ(p:κ×V)(q:κ×Value)=>p.1=q.1/\RelV p.2 q.2
def kV:Key->V
 | .inl i=>.int i
 | .inr x=>.str x
inductive HO where
 /-- a list -/
 |lst (xs:List V)
 /-- a tuple (never changes) -/
 |tup (xs:List V)
 /-- a dict ZHx keys are ints and texts;one ZHx keys are tuples of ints and texts (Ih empty one is both) -/
 |dK (A8:List (Key×V))|dT (A8:List (List Key×V))
 /-- a set of ints: A5 members,A5 size -/
 |set (S:Int->Bool) (n:Nat)
 /-- an instance of Ih class at C,A5 dict at dx,A5 attributes -/
 |ins (C dx:Addr) (fs:List (Str×V))
 /-- Ih dict of Ih instance at x -/
 |own (x:Addr)
 /-- Ih dict of an exception -/
 |xd (fs:List (Str×V))
 /-- a bound method,f of x -/
 |met (f x:Addr)
 /-- a range object lo,lo+1,.. below hi -/
 |Mp (lo hi:Int)
 /-- a vF ZLR is known to Ih object (Ih pf;a dict while a loop walks it): read,never written while it is so -/
 |GK (o:Obj) (u:HO)
 /-- a code ZLC table -/
 |LX (ps:Array Value)
 /-- any other vF,by ZKC is true of A5 one object (a def of ZLW own: ZFR a S n:=HO.ext λh=>..) -/
 |ext (φ:Heap->Prop)
variable{o o':HO}
abbrev Hp:=Addr->Option HO
variable{H H':Hp}
def upd(H:Hp)(a:Addr)(o:HO):Hp:=λb=>if b=a then some o else H b
theorem B3:upd H a o a=some o:=by unfold upd;rw[u4 rfl]
theorem AW(h:b≠a):upd H a o b=H b:=by unfold upd;rw[tK h]
theorem tE{u:HO}(h:H a=some o)(h':H b=some u)(d:o≠u):a≠b:=by
 intro e;subst e;rw[h]at h';exact d (Be h')
theorem D7(h:H a=some o)(h':H b=none):a≠b:=by
 intro e;subst e;rw[h]at h';cases h'
section
variable(P:Program)(w:World)
def CL(H:Hp)(h:Heap)(a:Addr):HO->Prop
 | .lst xs=>xs.length<=sizeLine/\∃(A5:List Value)(n:Nat),Vals xs A5/\h.get? a=some { cls:=.type "list", data:=.seq A5.toArray n }
 | .tup xs=>xs.length<=sizeLine/\∃A5:List Value,Vals xs A5/\(IsTup h a A5.toArray/\∀ob,h.get? a=some ob->ob.dict=none)
 | .dK A8=>A8.length<=sizeLine/\(a == sysModules)=false/\∃vs,KV A8 vs/\h.DictOf (E5 P w) a vs
 | .dT A8=>A8.length<=sizeLine/\(a == sysModules)=false/\∃xs:List (List Key×Addr×Value),
   Paired (λ(p:List Key×V)(q:List Key×Addr×Value)=>p.1=q.1/\H q.2.1=some (.tup (p.1.map kV))/\RelV p.2 q.2.2) A8 xs/\
   ∃o es b,h.get? a=some o/\o.ExactDict/\o.data=.dict es b/\es.toList=xs.map (entryOfKey (tupleKind (E5 P w)))/\(xs.map (·.1)).Nodup
 | .set S n=>h.SetOf (intKind P w) a S n
 | .ins C dx fs=>H dx=some (.own a)/\fs.length<=1000/\dx≠a/\h.get? a=some (PySem.W.instObj C dx)/\
   ∃mA,h.Ns1 dx mA/\(∀f,FY (fs.lookup f) (mA f))/\PySem.Within mA (fs.map (·.1))
 | .own _=>∃o,h.get? a=some o
 | .xd fs=>∃mA,h.Ns1 a mA/\∀f,FY (fs.lookup f) (mA f)
 | .Mp lo hi=>∃t u v,h.get? a=some { cls:=.type "range", data:=.fields #[.int lo t,.int hi u,.int 1 v] }
 | .GK o u=>h.get? a=some o/\CL H h a u
 | .LX ps=>h.get? a=some { cls:=.none,data:=.fields ps }
 | .met f x=>h.get? a=some (PySem.W.methodObj (.ref f) (.ref x))
 | .ext φ=>φ h/\(∃o,h.get? a=some o)/\∀h1 h2:Heap,φ h1->(∀o,h1.get? a=some o->h2.get? a=some o)->φ h2
def Bz(H:Hp)(h:Heap):Prop:=∀a o,H a=some o->CL P w H h a o
end
section
variable{P:Program}
theorem CL.lt(x:CL P w H h a o):a<h.objs.size:=by
 cases o with
 |lst xs=>obtain⟨_,_,_,_,e⟩:=x;exact BE e
 |tup xs=>obtain⟨_,_,_,p⟩:=x;exact p.1.lt
 |dK A8=>obtain⟨_,_,_,_,o,_,_,e,_⟩:=x;exact BE e
 |dT A8=>obtain⟨_,_,_,_,o,_,_,e,_⟩:=x;exact BE e
 |set S n=>obtain⟨o,_,_,_,e,_⟩:=x;exact BE e
 |ins C dx fs=>obtain⟨_,_,_,e,_⟩:=x;exact BE e
 |own y=>obtain⟨_,e⟩:=x;exact BE e
 |xd fs=>obtain⟨_,⟨_,_,_,e,_⟩,_⟩:=x;exact BE e
 |Mp lo hi=>obtain⟨_,_,_,e⟩:=x;exact BE e
 |GK ob u=>obtain⟨e,_⟩:=x;exact BE e
 |LX ps=>exact BE (show h.get? a=some _ from x)
 |met f y=>exact BE (show h.get? a=some _ from x)
 |ext φ=>obtain⟨_,⟨_,e⟩,_⟩:=x;exact BE e
theorem Paired.Xo{α β:Type}{F G:α->β->Prop}:∀{l₁:List α}{c:List β},Paired F l₁ c->(∀a b,F a b->G a b)->Paired G l₁ c
 |_,_,.nil,_=>.nil
 |_,_,.cons r t,f=>.cons (f _ _ r) (Paired.Xo t f)
theorem CL.HQ(x:CL P w H h a o)(k:∀b u,(b=a∨H b=some (.own a))->h.get? b=some u->h'.get? b=some u)
  (ho:∀b,H b=some (.own a)->H' b=some (.own a)) (l:∀b xs,H b=some (.tup xs)->H' b=some (.tup xs)):CL P w H' h' a o:=by
 induction o with
 |lst xs=>obtain⟨z,A5,n,r,e⟩:=x;exact⟨z,A5,n,r,k _ _ (.inl rfl) e⟩
 |tup xs=>obtain⟨z,A5,r,⟨ob,e,c⟩,s⟩:=x;exact⟨z,A5,r,⟨ob,k _ _ (.inl rfl) e,c⟩,λA i=>by rw[k _ _ (.inl rfl) e]at i;cases i;exact s _ e⟩
 |dK A8=>obtain⟨z,y,vs,r,ob,es,g,e,c⟩:=x;exact⟨z,y,vs,r,ob,es,g,k _ _ (.inl rfl) e,c⟩
 |dT A8=>
  obtain⟨z,y,xs,r,ob,es,g,e,c⟩:=x;exact⟨z,y,xs,Paired.Xo r λp q z=>⟨z.1,l _ _ z.2.1,z.2.2⟩,ob,es,g,k _ _ (.inl rfl) e,c⟩
 |set S n=>obtain⟨ob,es,g,t,e,c⟩:=x;exact⟨ob,es,g,t,k _ _ (.inl rfl) e,c⟩
 |ins C dx fs=>
  obtain⟨d,z,ne,e,mA,⟨od,es,g,m,c⟩,r⟩:=x;exact⟨ho _ d,z,ne,k _ _ (.inl rfl) e,mA,⟨od,es,g,k _ _ (.inr d) m,c⟩,r⟩
 |own y=>obtain⟨ob,e⟩:=x;exact⟨ob,k _ _ (.inl rfl) e⟩
 |xd fs=>obtain⟨mA,⟨od,es,g,e,c⟩,r⟩:=x;exact⟨mA,⟨od,es,g,k _ _ (.inl rfl) e,c⟩,r⟩
 |Mp lo hi=>obtain⟨t,u,v,e⟩:=x;exact⟨t,u,v,k _ _ (.inl rfl) e⟩
 |GK ob u j=>obtain⟨e,q⟩:=x;exact⟨k _ _ (.inl rfl) e,j q⟩
 |LX ps=>
  have e:h.get? a=some { cls:=.none,data:=.fields ps }:=x;show h'.get? a=some { cls:=.none,data:=.fields ps };exact k a _ (.inl rfl) e
 |met f y=>
  have e:h.get? a=some (PySem.W.methodObj (.ref f) (.ref y)):=x;show h'.get? a=some (PySem.W.methodObj (.ref f) (.ref y));exact k a _ (.inl rfl) e
 |ext φ=>obtain⟨p,⟨o,e⟩,st⟩:=x;exact⟨st _ _ p λo q=>k _ _ (.inl rfl) q,⟨o,k _ _ (.inl rfl) e⟩,st⟩
theorem Bz.lt(x:Bz P w H h)(e:H a=some o):a<h.objs.size:=(x a o e).lt
theorem Bz.fresh(x:Bz P w H h)(e:h.objs.size<=a):H a=none:=by
 cases q:H a with
 |none=>rfl
 |some u=>exact absurd (EE (x.lt q) e) (Lv _)
theorem Bz.kept(x:Bz P w H h)(k:∀b u,h.get? b=some u->h'.get? b=some u):Bz P w H h':=λa o e=>
 (x a o e).HQ (λb u _ q=>k b u q) (λ_ q=>q) λ_ _ q=>q
theorem Bz.laid(x:Bz P w H h)(k:∀b u,h.get? b=some u->h'.get? b=some u)(g:h.objs.size<=a)(new:CL P w (upd H a o) h' a o):Bz P w (upd H a o) h':=λb u e=>by
 have d:=x.fresh g
 by_cases f:b=a
 .subst f;rw[B3]at e;cases e;exact new
 .rw[AW f]at e;exact(x b u e).HQ (λc v _ q=>k c v q) (λc q=>by rw[AW (D7 q d)];exact q) λc xs q=>by rw[AW (D7 q d)];exact q
end
def Rd(H:Hp)(a:Addr)(u:HO):Prop:=H a=some u∨∃o,H a=some (.GK o u)
theorem Rd.ok{P:Program}{u:HO}(r:Rd H a u)(x:Bz P w H h):CL P w H h a u:=by
 rcases r with r|⟨o,r⟩
 .exact x a u r
 .obtain⟨_,q⟩:=x a _ r;exact q
def Nl:Option HO->Prop
 |some (.lst _)=>True
 |some (.dK _)=>True
 |some (.dT _)=>True
 |some (.set _ _)=>True
 |some (.ins _ _ _)=>True
 |some (.ext _)=>True
 |_=>False
section
variable{P:Program}{x e:Addr}
theorem Bz.write(ok:Bz P w H h)(a:Nl (H x))(m:e=x∨H e=some (.own x))(k:∀b u,b≠e->h.get? b=some u->h'.get? b=some u)(Li:∃u,h'.get? e=some u)
  (new:CL P w (upd H x o') h' x o'):Bz P w (upd H x o') h':=λb u q=>by
 have l:∀c y,H c=some (.own y)->c≠x:=λc y r z=>by subst z;rw[r]at a;exact a
 have i:∀c xs,H c=some (.tup xs)->c≠x:=λc xs r z=>by subst z;rw[r]at a;exact a
 by_cases f:b=x
 .subst f;rw[B3]at q;cases q;exact new
 .rw[AW f]at q
  by_cases g:b=e
  .have j:H b=some (.own x):=by
    rcases m with z|z
    .exact absurd (g.trans z) f
    .rw[g];exact z
   rw[q]at j;cases j;obtain⟨v,n⟩:=Li;exact⟨v,by rw[g];exact n⟩
  .refine(ok b u q).HQ (λc v d r=>k c v ?_ r) (λc r=>by rw[AW (l c b r)];exact r) λc xs r=>by rw[AW (i c xs r)];exact r
   rcases d with rfl|d
   .exact g
   .rintro rfl;rcases m with z|z
    .exact l c b d z
    .rw[d]at z;cases z;exact f rfl
end
structure Un (fs ex:List Addr) (H H':Hp) (h h':Heap):Prop where
 keep:∀b o,h.get? b=some o->H b=none->b∉fs->b∉ex->h'.get? b=some o
 slot:∀b o,h.get? b=some o->H b=none->b∈fs->b∉ex->∃sl,h'.get? b=some { o with slots:=sl }
 free:∀b o,h.get? b=some o->H b=none->b∉ex->H' b=none
 there:∀b o,h.get? b=some o->b∉ex->∃o',h'.get? b=some o'
 HB:∀b xs,H b=some (.tup xs)->H' b=some (.tup xs)
 Ge:∀b o u,H b=some (.GK o u)->H' b=some (.GK o u)
 Gs:∀b ps,H b=some (.LX ps)->∃more,H' b=some (.LX (ps++more))
section
variable{fs Of ex ex':List Addr}{H1 H2:Hp}{h1 h2:Heap}{x e:Addr}
theorem Un.any(u:Un fs ex H H1 h h1){ob:Obj}(q:h.get? b=some ob)(n:H b=none)(hx:b∉ex):∃c,h1.get? b=some { ob with slots:=c }:=by
 by_cases a:b∈fs
 .exact u.slot b ob q n a hx
 .exact⟨ob.slots,u.keep b ob q n a hx⟩
theorem Un.kept(k:∀b u,h.get? b=some u->h'.get? b=some u):Un fs ex H H h h':=
 ⟨λb ob q _ _ _=>k b ob q,λb ob q _ _ _=>⟨ob.slots,k b ob q⟩,λ_ _ _ n _=>n,λb ob q _=>⟨ob,k b ob q⟩,λ_ _ q=>q,λ_ _ _ q=>q,λ_ ps q=>⟨#[],by rw[q];simp⟩⟩
theorem Un.refl:Un fs ex H H h h:=Un.kept λ_ _ q=>q
theorem Un.laid(k:∀b u,h.get? b=some u->h'.get? b=some u)(d:h.objs.size<=a)(c:H a=none):Un fs ex H (upd H a o) h h' where
 keep:=λb u q _ _ _=>k b u q
 slot:=λb u q _ _ _=>⟨u.slots,k b u q⟩
 free:=λb u q n _=>by rw[AW (Cn (EE (BE q) d))];exact n
 there:=λb u q _=>⟨u,k b u q⟩
 HB:=λb xs q=>by rw[AW (D7 q c)];exact q
 Ge:=λb u xs q=>by rw[AW (D7 q c)];exact q
 Gs:=λb ps q=>⟨#[],by rw[AW (D7 q c),q];simp⟩
theorem Un.write(a:Nl (H x))(g:e=x∨H e=some (.own x))(k:∀b u,b≠e->h.get? b=some u->h'.get? b=some u)(Li:∃u,h'.get? e=some u):Un fs ex H (upd H x o) h h':=by
 have hx:∀b,H b=none->b≠x:=λb n z=>by subst z;rw[n]at a;exact a
 have d:∀b,H b=none->b≠e:=λb n z=>by
  subst z;rcases g with r|r
  .exact hx b n r
  .rw[n]at r;cases r
 have c:∀b u,H b=some u->¬ Nl (some u)->b≠x:=λb u q nm z=>by subst z;rw[q]at a;exact nm a
 refine⟨λb u q n _ _=>k b u (d b n) q,λb u q n _ _=>⟨u.slots,k b u (d b n) q⟩,λb u q n _=>by rw[AW (hx b n)];exact n,λb u q _=>?_,
  λb xs q=>by rw[AW (c b _ q λz=>z)];exact q,λb u xs q=>by rw[AW (c b _ q λz=>z)];exact q,λb ps q=>⟨#[],by rw[AW (c b _ q λz=>z),q];simp⟩⟩
 by_cases f:b=e
 .subst f;exact Li
 .exact⟨u,k b u f q⟩
end
def Ud(h:Heap)(H:Hp):List Addr:=(List.range h.objs.size).filter λa=>(H a).isSome
def JZ(h:Heap)(H:Hp):Heap:=PySem.W.hideAll h (Ud h H)
theorem zY(h:Heap)(H:Hp):(JZ h H).objs.size=h.objs.size:=PySem.W.hideAll_size _ _
theorem ZAb{o:Obj}(e:h.get? b=some o)(n:H b=none):(JZ h H).get? b=some o:=
 PySem.W.hideAll_get _ e λa=>by
  have q:(H b).isSome=true:=(List.mem_filter.mp a).2;rw[n]at q;simp at q
theorem ZAK{o:Obj}(e:(JZ h H).get? b=some o):h.get? b=some o/\H b=none:=by
 have a:h.get? b=some o:=PySem.W.of_hideAll (Ud h H) e;refine⟨a,?_⟩;cases q:H b with
 |none=>rfl
 |some x=>
  have c:b∈Ud h H:=List.mem_filter.mpr ⟨List.mem_range.mpr (BE a),by simp[q]⟩;have z:(JZ h H).get? b=none:=PySem.W.hideAll_none (Ud h H) c;rw[z]at e;cases e
structure Mod (K:ZLZ) (mg:ZLb) (Zp:Heap):Prop where
 JQ:K.In Zp
 glob:Zp.Ns mainGlobals mg
 blt:∃mb,Zp.Ns builtinsNs mb/\∀x:Str,x ≠"__name__" -> mb x=bootBuiltins x
 nolimit:Zp.NoLimit
structure Cx where
 prog:Program
 w:World
 K:ZLZ
 mg:ZLb
 base:Heap
 A:Around
 N:List Str
 s₀:Shared
 H₀:Hp
 env:Env
 outer:List Env
 stack:List Env
 ex:List Addr
 fn:Str->Bool
 calm:Bool
 pn:ZLa
 xe:Value->Shared->Prop
variable{X:Cx}
def Cr(l:List Env):List Addr:=l.filterMap (·.frame)
abbrev Cx.fs(X:Cx):List Addr:=Cr X.outer
abbrev Zq1(X:Cx)(x:Str):Prop:=X.fn x=true∨X.env.scope.names.lookup x=some .local
abbrev Zq2(X:Cx){α:Type}(t:Sem α):=wpAny (model X.prog X.w) X.A t
abbrev Cp(X:Cx)(e:Expr)(es:List Expr):Prop:=starEach (e::es) X.env=(false,eval e X.env)::starEach es X.env
abbrev BEq(X:Cx)(pos:Pos)(es:List Expr):Prop:=(backTo pos (starEach es X.env)).any (·.1)=false
def Qj(sc:Scope)(x:Str):Prop:=sc.names.lookup x=some .local∨sc.names.lookup x=some .cell∨sc.names.lookup x=some .free
def Loc(sc:Scope)(x:Str):Prop:=sc.names.lookup x=some .local∨sc.names.lookup x=some .cell
def Look(env:Env)(h:Heap)(m:ZLb)(x:Str)(u:Value):Prop:=
 (env.kindOf x=some .local/\m x=some u)∨((env.kindOf x=some .cell∨env.kindOf x=some .free)/\∃c,env.cells.lookup x=some c/\h.IsCell c (some u))
structure Cx.Ok (X:Cx):Prop where
 mod:Mod X.K X.mg X.base
 kind:X.env.scope.kind=.function
 glob:X.env.globals=mainGlobals
 blt:X.env.builtins=builtinsNs
 above:X.s₀.heap.objs.size<=X.env.locals
 inj:∀x y c,X.env.cells.lookup x=some c->X.env.cells.lookup y=some c->x=y
 has:∀x,(X.env.kindOf x=some .cell∨X.env.kindOf x=some .free)->∃c,X.env.cells.lookup x=some c
 LZ:∀x c,X.fn x=true->X.env.cells.lookup x=some c->X.s₀.heap.objs.size<=c
 hd:X.calm=true->X.A.handled=none
 frames:X.A.frames=some X.stack
 K5:X.stack=X.outer∨(X.stack=X.env::X.outer/\X.env.frame=some X.env.locals)
 MY:∀b∈X.ex,b≠X.env.locals/\∀x c,X.env.cells.lookup x=some c->c≠b
 bs:∀b o,X.base.get? b=some o->X.s₀.heap.get? b=some o/\X.H₀ b=none
 Ho:X.base.objs.size<=X.s₀.heap.objs.size
 Kw:∀b o,X.base.get? b=some o->b∉X.ex
 LY:∀b∈X.ex,b∉X.fs
 GP:X.s₀.heap.FunFrames X.base X.outer
 Iy:∀b∈X.fs,X.H₀ b=none
structure Inv (X:Cx) (Zd:ZLa) (O:List (Option V)) (H:Hp) (s:Shared):Prop where
 ok:X.Ok
 os:s.os=X.s₀.os
 bare:AllBare s.gens
 base:Un X.fs X.ex X.H₀ H X.s₀.heap s.heap
 loc:∃m,s.heap.Ns X.env.locals m/\∀(i:Nat)(x:Str)(v:V),X.N[i]?=some x->O[i]?=some (some v)->Qj X.env.scope x->∃u,RelV v u/\Look X.env s.heap m x u
 cell:∀x c,X.env.cells.lookup x=some c->∃v,s.heap.IsCell c v
 free:H X.env.locals=none
 Eu:∀x c,X.env.cells.lookup x=some c->H c=none
 pin:∀p∈X.pn++Zd,s.heap.get? p.1=some p.2/\H p.1=none/\p.1≠X.env.locals/\p.1∉X.fs/\∀v,p.2.data≠.cell v
 AJ:Bz X.prog X.w H s.heap
 len:O.length=X.N.length
section
variable{O:List (Option V)}
theorem Cx.Ok.ZEX(ok:X.Ok){o:Obj}(e:X.base.get? b=some o):b∉X.fs:=λa=>by
 have:=(ok.GP.mem a).1;rw[e]at this;cases this
theorem Inv.bs(I:Inv X Zd O H s):∀b o,X.base.get? b=some o->s.heap.get? b=some o/\H b=none:=λb o e=>
 ⟨I.base.keep b o (I.ok.bs b o e).1 (I.ok.bs b o e).2 (I.ok.ZEX e) (I.ok.Kw b o e),I.base.free b o (I.ok.bs b o e).1 (I.ok.bs b o e).2 (I.ok.Kw b o e)⟩
theorem Inv.bk(I:Inv X Zd O H s):∀b o,X.base.get? b=some o->s.heap.get? b=some o:=λb o e=>(I.bs b o e).1
theorem Inv.mod(I:Inv X Zd O H s):Mod X.K X.mg X.base:=I.ok.mod
theorem Inv.Bw(I:Inv X Zd O H s):X.K.In s.heap:=I.ok.mod.JQ.keeps I.bk
theorem Inv.lt(I:Inv X Zd O H s):X.env.locals<s.heap.objs.size:=let ⟨_,hn,_⟩:=I.loc;hn.lt
theorem Inv.sz(I:Inv X Zd O H s):X.s₀.heap.objs.size<=s.heap.objs.size:=CB I.ok.above (dv I.lt)
theorem Inv.xQ(I:Inv X Zd O H s)(h:s.heap.objs.size<=a):a∉X.fs:=λb=>by
 obtain⟨_,o,ho,_⟩:=I.ok.GP.mem b;exact absurd (EE (BE ho) (CB I.sz h)) (Lv _)
theorem Inv.HJ(I:Inv X Zd O H s):∀x c,X.env.cells.lookup x=some c->c≠X.env.locals:=λx c e z=>by
 obtain⟨v,o,ho,hd⟩:=I.cell x c e;obtain⟨m,⟨o',es,a,Ey,Q5,_⟩,_⟩:=I.loc;rw[z,Ey]at ho;cases ho;rw[Q5]at hd;cases hd
theorem Inv.GP(I:Inv X Zd O H s):s.heap.FunFrames X.base X.outer:=by
 have all:∀(l:List Env),(∀b∈Cr l,b∈X.fs)->X.s₀.heap.FunFrames X.base l->s.heap.FunFrames X.base l:=by
  intro l
  induction l with
  |nil=>intro _ _;trivial
  |cons env r g=>
   intro f j;obtain⟨hk,⟨L,o,a,i,ho,hd⟩,h⟩:=j;have d:L∈X.fs:=f L (by unfold Cr;rw[WR,a];exact Fh);obtain⟨k,e⟩:=I.base.slot L o ho (I.ok.Iy L d) d λz=>I.ok.LY L z d;exact⟨hk,⟨L,_,a,i,e,hd⟩,g (λb c=>f b (by unfold Cr;rw[WR,a];exact E2 _ c)) h⟩
 exact all X.outer (λ_ c=>c) I.ok.GP
theorem Inv.stack(I:Inv X Zd O H s):s.heap.FunFrames X.base X.stack:=by
 rcases I.ok.K5 with e|⟨e,hf⟩
 .rw[e];exact I.GP
 .rw[e];obtain⟨m,a,_⟩:=I.loc;refine .cons (by rw[I.ok.kind];decide) hf a ?_ I.GP;exact SU (CB I.ok.Ho I.ok.above)
theorem Inv.RE(I:Inv X Zd O H s):∀b∈Cr X.stack,b∈X.env.locals::X.fs:=λb a=>by
 rcases I.ok.K5 with e|⟨e,hf⟩
 .rw[e]at a;exact E2 _ a
 .rw[e]at a;unfold Cr at a;rw[WR,hf]at a;exact a
theorem Inv.U5(I:Inv X Zd O H s):∀b∈Cr X.stack,H b=none:=λb a=>by
 rcases List.mem_cons.mp (I.RE b a)with e|a
 .rw[e];exact I.free
 .obtain⟨_,o,ho,_⟩:=I.ok.GP.mem a;exact I.base.free b o ho (I.ok.Iy b a) λz=>I.ok.LY b z a
theorem Inv.step(I:Inv X Zd O H s)
  (J3:∀b∈ch,(b∈X.ex∨X.s₀.heap.objs.size<=b)/\b≠X.env.locals/\(∀x c,X.env.cells.lookup x=some c->c≠b)/\∀p∈X.pn++Zd,p.1≠b)
  (keep:∀b o,b≠X.env.locals->b∉X.fs->b∉ch->s.heap.get? b=some o->H b=none->h'.get? b=some o)
  (slot:∀b o,b≠X.env.locals->b∈X.fs->b∉ch->s.heap.get? b=some o->H b=none->∃y,h'.get? b=some { o with slots:=y }) (free:∀b o,b∉ch->s.heap.get? b=some o->H b=none->H' b=none)
  (there:∀b o,b∉ch->s.heap.get? b=some o->∃o',h'.get? b=some o')
  (HB:∀b xs,H b=some (.tup xs)->H' b=some (.tup xs)) (Ge:∀b o u,H b=some (.GK o u)->H' b=some (.GK o u)) (Gs:∀b ps,H b=some (.LX ps)->∃more,H' b=some (.LX (ps++more)))
  (ns:∀m,s.heap.Ns X.env.locals m->h'.Ns X.env.locals m) (AJ:Bz X.prog X.w H' h') (hg:AllBare g') :
  Inv X Zd O H' { s with heap:=h',gens:=g',drawn:=d',toks:=t' }:=by
 have B:∀b o,X.s₀.heap.get? b=some o->b≠X.env.locals:=λb o e=>Cn (EE (BE e) I.ok.above);have t:∀b o,X.s₀.heap.get? b=some o->b∉X.ex->b∉ch:=λb o e hx g=>by
  rcases(J3 b g).1 with z|z
  .exact hx z
  .exact absurd (EE (BE e) z) (Lv _)
 have a:∀x c,X.env.cells.lookup x=some c->∀v,s.heap.IsCell c v->h'.IsCell c v:=λx c e v AO=>by
  obtain⟨o,ho,hd⟩:=AO;have j:c∉ch:=λz=>(J3 c z).2.2.1 x c e rfl
  by_cases D:c∈X.fs
  .obtain⟨y,q⟩:=slot c o (I.HJ x c e) D j ho (I.Eu x c e);exact⟨_,q,hd⟩
  .exact⟨o,keep c o (I.HJ x c e) D j ho (I.Eu x c e),hd⟩
 refine⟨I.ok,I.os,hg,⟨λb o e n g hx=>?_,λb o e n g hx=>?_,λb o e n hx=>?_,λb o e hx=>?_,λb xs e=>HB b xs (I.base.HB b xs e),λb o xs e=>Ge b o xs (I.base.Ge b o xs e),λb ps e=>?_⟩,?_,λx c e=>?_,?_,λx c e=>?_,λp C=>?_,AJ,I.len⟩
 .exact keep b o (B b o e) g (t b o e hx) (I.base.keep b o e n g hx) (I.base.free b o e n hx)
 .obtain⟨y,f⟩:=I.base.slot b o e n g hx;obtain⟨X4,h⟩:=slot b _ (B b o e) g (t b o e hx) f (I.base.free b o e n hx);exact⟨X4,h⟩
 .obtain⟨o',f⟩:=I.base.there b o e hx;exact free b o' (t b o e hx) f (I.base.free b o e n hx)
 .obtain⟨o',f⟩:=I.base.there b o e hx;exact there b o' (t b o e hx) f
 .obtain⟨F,f⟩:=I.base.Gs b ps e;obtain⟨E,h⟩:=Gs b _ f;exact⟨F++E,by rw[h,Array.append_assoc]⟩
 .obtain⟨m,G,J⟩:=I.loc;refine⟨m,ns m G,λi x v f h K=>?_⟩;obtain⟨u,r,l⟩:=J i x v f h K;refine⟨u,r,?_⟩;rcases l with l|⟨k,c,e,z⟩
  .exact .inl l
  .exact .inr ⟨k,c,e,a x c e _ z⟩
 .obtain⟨v,z⟩:=I.cell x c e;exact⟨v,a x c e v z⟩
 .obtain⟨m,⟨o,_,_,ho,_⟩,_⟩:=I.loc;exact free _ o (λz=>(J3 _ z).2.1 rfl) ho I.free
 .obtain⟨v,o,ho,hd⟩:=I.cell x c e;exact free c o (λz=>(J3 c z).2.2.1 x c e rfl) ho (I.Eu x c e)
 .obtain⟨e,n,ne,A,d⟩:=I.pin p C;have j:p.1∉ch:=λz=>(J3 p.1 z).2.2.2 p C rfl;exact⟨keep p.1 p.2 ne A j e n,free p.1 p.2 j e n,ne,A,d⟩
theorem Inv.un(I:Inv X Zd O H s)(u:Un X.fs [] H H' s.heap h')(AJ:Bz X.prog X.w H' h'):Inv X Zd O H' { s with heap:=h',toks:=t' }:=by
 obtain⟨m,⟨o,es,j,ho,r⟩,_⟩:=id I.loc;obtain⟨h,f⟩:=u.any ho I.free (by simp);exact I.step (g':=s.gens) (d':=s.drawn) (ch:=[]) (λ_ z=>nomatch z) (λb o _ a _ e n=>u.keep b o e n a (by simp)) (λb o _ a _ e n=>u.slot b o e n a (by simp)) (λb o _ e n=>u.free b o e n (by simp)) (λb o _ e=>u.there b o e (by simp)) u.HB u.Ge u.Gs (λi d=>by
  obtain⟨o',P4,g,Ey,c⟩:=d;rw[ho]at Ey;cases Ey;exact⟨_,P4,g,f,c⟩) AJ I.bare
theorem Inv.call(I:Inv X Zd O H s)(u:Un (Cr X.stack) ch H H' s.heap h')(AJ:Bz X.prog X.w H' h')(h:AllBare g')
  (J3:∀b∈ch,(b∈X.ex∨X.s₀.heap.objs.size<=b)/\b≠X.env.locals/\(∀x c,X.env.cells.lookup x=some c->c≠b)/\∀p∈X.pn++Zd,p.1≠b) :
  Inv X Zd O H' { s with heap:=h',gens:=g',drawn:=d',toks:=t' }:=by
 obtain⟨m,⟨o,es,q,ho,r⟩,_⟩:=id I.loc;obtain⟨k,d⟩:=u.any ho I.free λz=>(J3 _ z).2.1 rfl;exact I.step (ch:=ch) J3 (λb o d i a e n=>u.keep b o e n (λz=>(List.mem_cons.mp (I.RE b z)).elim d i) a) (λb o _ _ a e n=>u.any e n a) (λb o a e n=>u.free b o e n a) (λb o a e=>u.there b o e a) u.HB u.Ge u.Gs (λl g=>by
  obtain⟨o',P4,j,Ey,f⟩:=g;rw[ho]at Ey;cases Ey;exact⟨_,P4,j,d,f⟩) AJ h
theorem Inv.turned(I:Inv X Zd O H s)(k:∀b o,b≠it->s.heap.get? b=some o->h'.get? b=some o)(g:H it=none)(d:it≠X.env.locals)
  (h1:it∈X.ex∨X.s₀.heap.objs.size<=it) (h2:∀x c,X.env.cells.lookup x=some c->c≠it) (j:∀p∈X.pn++Zd,p.1≠it):Inv X Zd O H { s with heap:=h',toks:=t' }:=by
 have f:∀b u,H b=some u->b≠it:=λb u e z=>by rw[z,g]at e;cases e
 refine I.step (g':=s.gens) (d':=s.drawn) (ch:=[it]) (λb i=>?_) (λb o _ _ a e _=>k b o (λz=>a (by simp[z])) e) (λb o _ _ a e _=>⟨o.slots,k b o (λz=>a (by simp[z])) e⟩) (λ_ _ _ _ n=>n)
  (λb o a e=>⟨o,k b o (λz=>a (by simp[z])) e⟩) (λ_ _ e=>e) (λ_ _ _ e=>e) (λb ps e=>⟨#[],by rw[e];simp⟩) (λm h=>?_) (λb u e=>?_) I.bare
 .have e:b=it:=by simpa using i
  subst e;exact⟨h1,d,h2,j⟩
 .obtain⟨o,es,l,ho,r⟩:=h;exact⟨o,es,l,k _ o (BO d) ho,r⟩
 .refine(I.AJ b u e).HQ (λc v a q=>k c v ?_ q) (λ_ q=>q) λ_ _ q=>q;rcases a with z|z
  .rw[z];exact f b u e
  .exact f c _ z
theorem Inv.tok(I:Inv X Zd O H s)(t:Nat):Inv X Zd O H { s with toks:=t }:=I.un (h':=s.heap) (t':=t) Un.refl I.AJ
theorem Inv.kept(I:Inv X Zd O H s)(k:∀b u,s.heap.get? b=some u->h'.get? b=some u):Inv X Zd O H { s with heap:=h',toks:=t' }:=I.un (Un.kept k) (I.AJ.kept k)
theorem Inv.laid(I:Inv X Zd O H s)(k:∀b u,s.heap.get? b=some u->h'.get? b=some u)(c:s.heap.objs.size<=a)(new:CL X.prog X.w (upd H a o) h' a o):
  Inv X Zd O (upd H a o) { s with heap:=h',toks:=t' }:=I.un (Un.laid k c (I.AJ.fresh c)) (I.AJ.laid k c new)
theorem Inv.write{x e:Addr}(I:Inv X Zd O H s)(a:Nl (H x))(c:e=x∨H e=some (.own x))(k:∀b u,b≠e->s.heap.get? b=some u->h'.get? b=some u)(Li:∃u,h'.get? e=some u)
  (new:CL X.prog X.w (upd H x o) h' x o):Inv X Zd O (upd H x o) { s with heap:=h',toks:=t' }:=I.un (Un.write a c k Li) (I.AJ.write a c k Li new)
theorem Inv.pC(I:Inv X Zd O H s)(h:∀p∈ph,s.heap.get? p.1=some p.2/\H p.1=none/\p.1≠X.env.locals/\p.1∉X.fs/\∀v,p.2.data≠.cell v):Inv X ph O H s:=
 ⟨I.ok,I.os,I.bare,I.base,I.loc,I.cell,I.free,I.Eu,λp a=>(List.mem_append.mp a).elim (λz=>I.pin p (Gp _ z)) (h p),I.AJ,I.len⟩
theorem YQ(c:N.Nodup)(a:N[i]?=some x)(b:N[j]?=some x):i=j:=by
 obtain⟨h1,e⟩:=List.getElem?_eq_some_iff.mp a;obtain⟨h2,d⟩:=List.getElem?_eq_some_iff.mp b;exact(ZKb c).mp (e.trans d.symm)
theorem XD{Q:Unit->Shared->Prop}(I:Inv X Zd O H s)(Z:X.N.Nodup)(hi:X.N[i]?=some x)(hx:Loc X.env.scope x)(r:RelV v u)
  (h:∀s',Inv X Zd (O.set i (some v)) H s'->(∃a,Heap.SameBut a s.heap s'.heap/\(a=X.env.locals∨X.env.cells.lookup x=some a))->Q () s') (hf:Zq1 X x:=by first|exact .inl rfl|exact .inr rfl|assumption):wpAny M A (storeName X.env x u) Q E s:=by
 obtain⟨m,S,Y⟩:=id I.loc;have Yw:(X.env.scope.kind == .class || (X.env.scope.kind == .module && X.env.locals != X.env.globals))=false:=by rw[I.ok.kind];rfl
 have hiσ:i<O.length:=by rw[I.len];exact(List.getElem?_eq_some_iff.mp hi).1
 have HJ:=I.HJ;have g:∀{a:Addr}{h':Heap},(∃o,s.heap.get? a=some o/\H a=none)->Heap.SameBut a s.heap h'->Bz X.prog X.w H h':=λ{a h'}ha f b ob e=>by
  obtain⟨_,_,V⟩:=ha;refine(I.AJ b ob e).HQ (λc F t q=>(f.2 c ?_).trans q) (λ_ q=>q) λ_ _ q=>q;rintro rfl;rcases t with rfl|t
  .rw[V]at e;cases e
  .rw[V]at t;cases t
 rcases hx with hk|hk
 .refine wpAny_storeName_local hk S (λh' Jk f=>?_) Yw;obtain⟨oL,_,_,ia,_⟩:=id S;refine h _ ⟨I.ok,I.os,I.bare,⟨λb o e n D hx=>?_,λb o e n D hx=>?_,I.base.free,λb o e hx=>?_,I.base.HB,I.base.Ge,I.base.Gs⟩,⟨_,Jk,λj y J l B T=>?_⟩,λy c e=>?_,I.free,I.Eu,λp R=>?_,g ⟨oL,ia,I.free⟩ f,by simpa using I.len⟩ ⟨_,f,.inl rfl⟩
  .exact(f.2 b (Cn (EE (BE e) I.ok.above))).trans (I.base.keep b o e n D hx)
  .obtain⟨L,l⟩:=I.base.slot b o e n D hx;exact⟨L,(f.2 b (Cn (EE (BE e) I.ok.above))).trans l⟩
  .obtain⟨o',l⟩:=I.base.there b o e hx;exact⟨o',(f.2 b (Cn (EE (BE e) I.ok.above))).trans l⟩
  .by_cases C:j=i
   .subst C;rw[hi]at l;cases l;rw[DA hiσ]at B;cases B;exact⟨u,r,.inl ⟨hk,by simp⟩⟩
   .rw[CZ (BO C)]at B;obtain⟨K,σ,q⟩:=Y j y J l B T;refine⟨K,σ,?_⟩;rcases q with⟨k,e⟩|⟨k,c,e,z⟩
    .refine .inl ⟨k,?_⟩;have:y≠x:=λe=>C (YQ Z l (e▸hi));simp[this,e]
    .exact .inr ⟨k,c,e,z.sameBut f (HJ y c e)⟩
  .obtain⟨F,z⟩:=I.cell y c e;exact⟨F,z.sameBut f (HJ y c e)⟩
  .obtain⟨e,n,ne,P,d⟩:=I.pin p R;exact⟨(f.2 p.1 ne).trans e,n,ne,P,d⟩
 .have U:X.fn x=true:=by
   rcases hf with z|z
   .exact z
   .rw[z]at hk;cases hk
  obtain⟨c,t⟩:=I.ok.has x (.inl hk);obtain⟨F,z⟩:=I.cell x c t;refine wpAny_storeName_cell I.ok.kind hk t z (λh' Me f=>?_);obtain⟨W,Uw,ZAF⟩:=id z;refine h { s with heap:=h' } ⟨I.ok,I.os,I.bare,⟨λb o e n D hx=>?_,λb o e n D hx=>?_,I.base.free,λb o e hx=>?_,I.base.HB,I.base.Ge,I.base.Gs⟩,⟨m,S.sameBut f (BO (HJ x c t)),λj y J l B T=>?_⟩,λy G e=>?_,I.free,I.Eu,λp R=>?_,g ⟨W,Uw,I.Eu x c t⟩ f,by simpa using I.len⟩ ⟨c,f,.inr t⟩
  .exact(f.2 b (Cn (EE (BE e) (I.ok.LZ x c U t)))).trans (I.base.keep b o e n D hx)
  .obtain⟨L,l⟩:=I.base.slot b o e n D hx;exact⟨L,(f.2 b (Cn (EE (BE e) (I.ok.LZ x c U t)))).trans l⟩
  .obtain⟨o',l⟩:=I.base.there b o e hx;exact⟨o',(f.2 b (Cn (EE (BE e) (I.ok.LZ x c U t)))).trans l⟩
  .by_cases C:j=i
   .subst C;rw[hi]at l;cases l;rw[DA hiσ]at B;cases B;exact⟨u,r,.inr ⟨.inl hk,c,t,Me⟩⟩
   .rw[CZ (BO C)]at B;obtain⟨K,σ,q⟩:=Y j y J l B T;refine⟨K,σ,?_⟩;rcases q with q|⟨k,G,e,z'⟩
    .exact .inl q
    .refine .inr ⟨k,G,e,z'.sameBut f ?_⟩;rintro rfl;exact C (YQ Z l (I.ok.inj _ _ _ e t▸hi))
  .by_cases U3:G=c
   .subst U3;exact⟨_,Me⟩
   .obtain⟨w2,z2⟩:=I.cell y G e;exact⟨w2,z2.sameBut f U3⟩
  .obtain⟨e,n,ne,P,d⟩:=I.pin p R;refine⟨(f.2 p.1 ?_).trans e,n,ne,P,d⟩;intro q;rw[q,Uw]at e;have q':W=p.2:=Be e;exact d F (by rw[<- q'];exact ZAF)
theorem Tv{Q:Unit->Shared->Prop}(I:Inv X Zd O H s)(b:X.N.Nodup)(hi:X.N[i]?=some x)(hx:Loc X.env.scope x)(r:RelV v u)
  (h:∀s',Inv X Zd (O.set i (some v)) H s'->Q () s') (a:Zq1 X x:=by first|exact .inl rfl|exact .inr rfl|assumption):wpAny M A (storeName X.env x u) Q E s:=
 XD I b hi hx r (λs' I' _=>h s' I') a
theorem Inv.ZBP(I:Inv X Zd O H s)(ho:s'.os=s.os)(u:Un (Cr X.stack) ch H H' s.heap s'.heap)(AJ:Bz X.prog X.w H' s'.heap)(a:AllBare s'.gens)
  (J3:∀b∈ch,(b∈X.ex∨X.s₀.heap.objs.size<=b)/\b≠X.env.locals/\(∀x c,X.env.cells.lookup x=some c->c≠b)/\∀p∈X.pn++Zd,p.1≠b):Inv X Zd O H' s':=by
 obtain⟨h',g',d',t',o'⟩:=s';have e:o'=s.os:=ho;subst e;exact I.call (g':=g') (t':=t') (d':=d') u AJ a J3
end
abbrev XK:=Value->Option Addr->Hp->Prop
abbrev St:=List (Option V)
variable{O:St}
abbrev VK:=V->Hp->Prop
abbrev TE:=St->Hp->VK->Prop
variable{ta tb tc te:TE}
abbrev TT:=St->Hp->(Bool->Hp->Prop)->Prop
abbrev TA:=St->Hp->(List V->Hp->Prop)->Prop
structure Ends where
 nx:St->Hp->Prop
 rt:VK
 bk:St->Hp->Prop:=λ_ _=>False
 ct:St->Hp->Prop:=λ_ _=>False
abbrev TS:=Ends->St->Hp->Prop
def EP(X:Cx)(Zd:ZLa)(O:St)(Q:VK)(u:Value)(s':Shared):Prop:=∃v H',Inv X Zd O H' s'/\RelV v u/\Q v H'
def TP(X:Cx)(Zd:ZLa)(O:St)(Q:Bool->Hp->Prop)(b:Bool)(s':Shared):Prop:=∃H',Inv X Zd O H' s'/\Q b H'
def AP(X:Cx)(Zd:ZLa)(O:St)(Q:List V->Hp->Prop)(us:List Value)(s':Shared):Prop:=∃vs H',Inv X Zd O H' s'/\Vals vs us/\Q vs H'
def SP(X:Cx)(Zd:ZLa)(D:Ends)(f:Flow)(s':Shared):Prop:=
 match f with
 | .next=>∃ σ' H',Inv X Zd σ' H' s'/\D.nx σ' H'
 | .brk=>∃ σ' H',Inv X Zd σ' H' s'/\D.bk σ' H'
 | .cont=>∃ σ' H',Inv X Zd σ' H' s'/\D.ct σ' H'
 | .ret u=>∃v σ' H',Inv X Zd σ' H' s'/\RelV v u/\D.rt v H'
def PE(X:Cx)(e:Expr)(t:TE):Prop:=
 ∀(Zd:ZLa)(s:Shared)(O:St)(H:Hp)(Q:VK),Inv X Zd O H s->t O H Q->Zq2 X (eval e X.env) (EP X Zd O Q) X.xe s
def PT(X:Cx)(e:Expr)(t:TT):Prop:=
 ∀(Zd:ZLa)(s:Shared)(O:St)(H:Hp)(Q:Bool->Hp->Prop),Inv X Zd O H s->t O H Q->Zq2 X (isTrue e X.env (eval e X.env)) (TP X Zd O Q) X.xe s
def PW(X:Cx)(e:Expr)(t:TT):Prop:=
 ∀(a:Sem Value)(Zd:ZLa)(s:Shared)(O:St)(H:Hp)(Q:Bool->Hp->Prop),Inv X Zd O H s->t O H Q->Zq2 X (isTrue e X.env a) (TP X Zd O Q) X.xe s
theorem PW.pt{t:TT}(h:PW X e t):PT X e t:=h _
def PA(X:Cx)(es:List Expr)(t:TA):Prop:=
 ∀(pos:Pos)(Zd:ZLa)(s:Shared)(O:St)(H:Hp)(Q:List V->Hp->Prop),Inv X Zd O H s->t O H Q->Zq2 X (spliced (backTo pos (starEach es X.env))) (AP X Zd O Q) X.xe s
def PS(X:Cx)(st:Stmt)(t:TS):Prop:=
 ∀(Zd:ZLa)(s:Shared)(O:St)(H:Hp)(D:Ends),Inv X Zd O H s->t D O H->Zq2 X (exec st X.env) (SP X Zd D) X.xe s
def Ek(X:Cx)(st:List Stmt)(t:TS):Prop:=
 ∀(Zd:ZLa)(s:Shared)(O:St)(H:Hp)(D:Ends),Inv X Zd O H s->t D O H->Zq2 X (execs st X.env) (SP X Zd D) X.xe s
theorem Ay{t:Sem α}{Q Q':α->Shared->Prop}(h:wpAny M A t Q E s)(b:∀a s,Q a s->Q' a s):wpAny M A t Q' E s:=vo h b λ_ _ x=>x
theorem PE.k{t:TE}{Q:VK}{Q':Value->Shared->Prop}(b:PE X e t)(I:Inv X Zd O H s)(h:t O H Q)(f:∀u a x H1,Inv X Zd O H1 a->RelV x u->Q x H1->Q' u a):Zq2 X (eval e X.env) Q' X.xe s:=
 Ay (b Zd s O H Q I h) λu a z=>by obtain⟨x,H1,I1,r,q⟩:=z;exact f u a x H1 I1 r q
theorem PA.k{t:TA}(pos:Pos){Q:List V->Hp->Prop}{Q':List Value->Shared->Prop}(b:PA X es t)(I:Inv X Zd O H s)(h:t O H Q)(f:∀us a vs H1,Inv X Zd O H1 a->Vals vs us->Q vs H1->Q' us a):Zq2 X (spliced (backTo pos (starEach es X.env))) Q' X.xe s:=
 Ay (b pos Zd s O H Q I h) λu a z=>by obtain⟨x,H1,I1,r,q⟩:=z;exact f u a x H1 I1 r q
section
def Al(i:Nat):TE:=λO H Q=>∃v,O[i]?=some (some v)/\Q v H
def tC(v:V):TE:=λ_ H Q=>Q v H
theorem jz(k:X.N[i]?=some x)(d:Qj X.env.scope x)(hd:Zq0 x:=by decide)(Fe:(x == ("__classdict__":Str))=false:=by decide):PE X (.Name x pos) (Al i):=by
 intro Zd s O H Q I h;obtain⟨v,e,h⟩:=h;obtain⟨m,f,j⟩:=I.loc;obtain⟨u,r,l⟩:=j i x v k e d;have a:EP X Zd O Q u s:=⟨v,H,I,r,h⟩;rcases l with⟨hk,g⟩|⟨hk,c,b,Tg⟩
 .exact wpAny_Name (wpAny_loadName_local I.ok.kind hk f g a) hd
 .rcases hk with hk|hk
  .exact wpAny_Name (wpAny_loadName_cell I.ok.kind hk b Tg a) hd
  .exact wpAny_Name (wpAny_loadName_free I.ok.kind hk b Tg a Fe) hd
def Gl(X:Cx)(x:Str):Prop:=X.env.kindOf x=some .globalImplicit
theorem Kt(I:Inv X Zd O H s)(b:Gl X x)(a:X.mg x=some u)(h:Q u s)
  (hd:Zq0 x:=by decide):Zq2 X (eval (.Name x pos) X.env) Q E s:=
 ZKL I.ok.kind b (Calls.loadGlobal_global (by rw[I.ok.glob];exact I.mod.glob.keeps I.bk) a h) hd
theorem LP(I:Inv X Zd O H s)(d:Gl X x)(c:X.mg x=none)(a:bootBuiltins x=some u)(h:Q u s)
  (b:x ≠"__name__" := by decide) (hd:Zq0 x:=by decide):Zq2 X (eval (.Name x pos) X.env) Q E s:=by
 obtain⟨mb,h1,h2⟩:=I.mod.blt;exact ZKL I.ok.kind d (Calls.loadGlobal_builtin (by rw[I.ok.glob];exact I.mod.glob.keeps I.bk) c (by rw[I.ok.blt];exact h1.keeps I.bk) ((h2 x b).trans a) h) hd
theorem ZFc(d:Gl X x)(c:X.mg x=none)(a:bootBuiltins x=some u)(r:RelV v u)(b:x ≠"__name__" := by decide)(hd:Zq0 x:=by decide):PE X (.Name x pos) (tC v):=
 λ_ _ _ H _ I h=>LP I d c a ⟨v,H,I,r,h⟩ b hd
variable{a b:Expr}
def PC(X:Cx)(op:CmpOp)(a b:Expr)(t:TE):Prop:=
 ∀(Zd:ZLa)(s:Shared)(O:St)(H:Hp)(Q:VK),Inv X Zd O H s->t O H Q->
  Zq2 X (eval a X.env) (λv d=>Zq2 X (eval b X.env) (λu c=>Zq2 X (compareOp op v u) (EP X Zd O Q) X.xe c) X.xe d) X.xe s
theorem ZFO(b:Expr)(h:op≠.In)(h2:op≠.NotIn):behindInMarks op b=false:=by
 have c:(op == CmpOp.In)=false:=by cases op <;> first|rfl|exact absurd rfl h
 have a:(op == CmpOp.NotIn)=false:=by cases op <;> first|rfl|exact absurd rfl h2
 cases b <;> simp[behindInMarks,c,a]
def tB(t:TE):TT:=λO H Q=>t O H λx H1=>∃c,x=.bl c/\Q c H1
theorem jH{t:TE}(h:PC X op a b t)(h1:behindInMarks op b=false:=by first|exact ZFO _ (by decide) (by decide)|rfl):PT X (.Compare a [op] [b] pos) (tB t):=by
 intro Zd s O H Q I hw;refine wpAny_isTrue_Compare1 (Ay (h Zd s O H _ I hw) λv i h1=>Ay h1 λu s2 h2=>Ay h2 λc g⟨x,H1,I1,e,f⟩=>?_) h1;obtain⟨d,rfl,q⟩:=f;cases e;exact vt ⟨H1,I1,q⟩
variable{tA Kf:TT}
def Ti(t u:TT):TT:=λO H Q=>t O H λc H1=>if c=true then u O H1 Q else Q false H1
def ZL(t u:TT):TT:=λO H Q=>t O H λc H1=>if c=true then Q true H1 else u O H1 Q
def X0(t:TT):TT:=λO H Q=>t O H λc H1=>Q (!c) H1
def az(ta tb:TE):TE:=λO H Q=>ta O H λx H1=>∃c,x=.bl c/\if c=true then tb O H1 Q else Q (.bl false) H1
def Zv(ta tb:TE):TE:=λO H Q=>ta O H λx H1=>∃c,x=.bl c/\if c=true then Q (.bl true) H1 else tb O H1 Q
def Yj(ta:TE):TE:=λO H Q=>ta O H λx H1=>∃c,x=.bl c/\Q (.bl (!c)) H1
def W0(t:TT)(ta tb:TE):TE:=λO H Q=>t O H λc H1=>if c=true then ta O H1 Q else tb O H1 Q
end
def AU(K:ZLZ)(H:Hp)(a:Addr)(xs:List V):Prop:=
 Rd H a (.lst xs)∨
  ∃(o:Obj)(A5:Array Value)(n:Nat),K.lookup a=some o/\o.cls=.type "list" /\ o.dict=none/\o.data=.seq A5 n/\A5.size<=sizeLine/\Vals xs A5.toList
def BW(K:ZLZ)(H:Hp)(a:Addr)(xs:List V):Prop:=
 Rd H a (.tup xs)∨
  ∃(o:Obj)(A5:Array Value)(n:Nat),K.lookup a=some o/\o.cls=.type "tuple" /\ o.data=.seq A5 n/\A5.size<=sizeLine/\Vals xs A5.toList
noncomputable def ZHK:Value->Option V
 | .none=>some .AA
 | .bool b=>some (.bl b)
 | .int i _=>some (.int i)
 | .str x _=>some (.str x)
 | .bytes b _=>some (.He b)
 | .float b _=>some (.Lm b)
 | .ref a=>some (.ref a)
 | .type n=>some (.ty n)
 |_=>none
theorem RelV.abs{x:V}(r:RelV x u):ZHK u=some x:=by
 cases x with
 |AA=>cases r;rfl
 |bl _=>cases r;rfl
 |int _=>obtain⟨t,rfl⟩:=r;rfl
 |str _=>obtain⟨t,rfl⟩:=r;rfl
 |He _=>obtain⟨t,rfl⟩:=r;rfl
 |Lm _=>obtain⟨t,rfl⟩:=r;rfl
 |ref _=>cases r;rfl
 |ty _=>cases r;rfl
theorem RelV.inj{x y:V}{u:Value}(r:RelV x u)(q:RelV y u):x=y:=Be (r.abs.symm.trans q.abs)
theorem Vals.inj:∀{xs ys:List V}{us:List Value},Vals xs us->Vals ys us->xs=ys
 |_,_,_,.nil,.nil=>rfl
 |_,_,_,.cons r t,.cons r' t'=>by rw[r.inj r',Vals.inj t t']
section
variable{xs ys:List V}
theorem AU.of{K:ZLZ}(h:H a=some (.lst xs)):AU K H a xs:=.inl (.inl h)
theorem BW.of{K:ZLZ}(h:H a=some (.tup xs)):BW K H a xs:=.inl (.inl h)
theorem Inv.list(I:Inv X Zd O H s)(h:AU X.K H a xs):∃A5:List Value,Vals xs A5/\PlainL s.heap a A5.toArray/\xs.length<=sizeLine:=by
 rcases h with h|⟨o,A5,n,hk,hc,hd,hs,hz,r⟩
 .obtain⟨z,A5,n,r,e⟩:=h.ok I.AJ;exact⟨A5,r,⟨_,n,e,rfl,rfl,rfl⟩,z⟩
 .refine⟨A5.toList,r,⟨o,n,I.Bw a o hk,hc,hd,by simpa using hs⟩,?_⟩
  have e:=r.length;simp only[di]at e;omega
theorem Inv.tuple(I:Inv X Zd O H s)(h:BW X.K H a xs):∃A5:List Value,Vals xs A5/\IsTup s.heap a A5.toArray/\xs.length<=sizeLine:=by
 rcases h with h|⟨o,A5,n,hk,hc,hs,hz,r⟩
 .obtain⟨z,A5,r,p⟩:=h.ok I.AJ;exact⟨A5,r,p.1,z⟩
 .refine⟨A5.toList,r,⟨o,I.Bw a o hk,hc,n,by simpa using hs⟩,?_⟩
  have e:=r.length;simp only[di]at e;omega
theorem Inv.uE(I:Inv X Zd O H s)(h:AU X.K H a xs)(h':AU X.K H a ys):xs=ys:=by
 obtain⟨A5,r,⟨o,n,e,_,_,d⟩,_⟩:=I.list h;obtain⟨its',c,⟨o',f,b,_,_,d'⟩,_⟩:=I.list h';rw[e]at b;cases b;rw[d]at d';injection d' with d1 _
 have:A5=its':=by simpa using wH Array.toList d1
 subst this;exact r.inj c
theorem Inv.ZCA(I:Inv X Zd O H s)(h:BW X.K H a xs)(h':BW X.K H a ys):xs=ys:=by
 obtain⟨A5,r,⟨o,e,_,n,d⟩,_⟩:=I.tuple h;obtain⟨its',c,⟨o',b,_,f,d'⟩,_⟩:=I.tuple h';rw[e]at b;cases b;rw[d]at d';injection d' with d1 _
 have:A5=its':=by simpa using wH Array.toList d1
 subst this;exact r.inj c
end
noncomputable abbrev Cx.JI(X:Cx)(E:Value->Shared->Prop):Cx:={ X with xe:=E }
abbrev Cx.K3(X:Cx):Cx:=X.JI λ_ _=>False
theorem Cx.Ok.JI(ok:X.Ok)(E:Value->Shared->Prop):(X.JI E).Ok:=
 ⟨ok.mod,ok.kind,ok.glob,ok.blt,ok.above,ok.inj,ok.has,ok.LZ,ok.hd,ok.frames,ok.K5,ok.MY,ok.bs,ok.Ho,ok.Kw,ok.LY,ok.GP,ok.Iy⟩
theorem Cx.Ok.Kx(ok:(X.JI E).Ok):X.Ok:=
 ⟨ok.mod,ok.kind,ok.glob,ok.blt,ok.above,ok.inj,ok.has,ok.LZ,ok.hd,ok.frames,ok.K5,ok.MY,ok.bs,ok.Ho,ok.Kw,ok.LY,ok.GP,ok.Iy⟩
section
theorem Inv.JI(I:Inv X Zd O H s)(E:Value->Shared->Prop):Inv (X.JI E) Zd O H s:=⟨I.ok.JI E,I.os,I.bare,I.base,I.loc,I.cell,I.free,I.Eu,I.pin,I.AJ,I.len⟩
theorem Inv.Kx(I:Inv (X.JI E) Zd O H s):Inv X Zd O H s:=⟨I.ok.Kx,I.os,I.bare,I.base,I.loc,I.cell,I.free,I.Eu,I.pin,I.AJ,I.len⟩
theorem SP.Kx{D:Ends}{f:Flow}(h:SP (X.JI E) Zd D f s'):SP X Zd D f s':=by
 cases f with
 |next=>obtain⟨σ',H',I,q⟩:=h;exact⟨σ',H',I.Kx,q⟩
 |brk=>obtain⟨σ',H',I,q⟩:=h;exact⟨σ',H',I.Kx,q⟩
 |cont=>obtain⟨σ',H',I,q⟩:=h;exact⟨σ',H',I.Kx,q⟩
 |ret u=>obtain⟨v,σ',H',I,r,q⟩:=h;exact⟨v,σ',H',I.Kx,r,q⟩
theorem Ek.K3{st:List Stmt}{t:TS}(h:Ek X.K3 st t):Ek X st t:=λZd s O H D I hw=>
 vo (h Zd s O H D (I.JI _) hw) (λ_ _ q=>q.Kx) λ_ _ z=>False.elim z
variable{st:Stmt}{rest:List Stmt}{t u:TS}
def M7:TS:=λD O H=>D.nx O H
def Ly(t u:TS):TS:=λD O H=>t { D with nx:=u D } O H
theorem d9:Ek X [] M7:=λ_ _ O H _ I h=>ZAQ ⟨O,H,I,h⟩
theorem QJ(h1:PS X st t)(h2:Ek X rest u):Ek X (st::rest) (Ly t u):=by
 intro Zd s O H D I h;refine wpAny_execs_cons (Ay (h1 Zd s O H { D with nx:=u D } I h) λf a q=>?_)
 cases f with
 |next=>
  obtain⟨σ',H',I',q⟩:=q;exact h2 Zd a σ' H' D I' q
 |ret v=>exact q
 |brk=>exact q
 |cont=>exact q
theorem ZIX(h1:PS X st t):Ek X [st] t:=by
 intro Zd s O H D I h;refine wpAny_execs_cons (Ay (h1 Zd s O H D I h) λf a q=>?_);cases f with
 |next=>exact ZAQ q
 |ret v=>exact q
 |brk=>exact q
 |cont=>exact q
theorem Inv.quiet(I:Inv X Zd O H s):interactive X.env=false:=by simp[interactive,I.ok.kind]
def HA(te:TE):TS:=λD O H=>te O H λ_ H1=>D.nx O H1
theorem Zk(c:PE X e te)(b:swapsWith e none pos.line X.env=pure false:=by rfl):PS X (.Expr e pos) (HA te):=by
 intro Zd s O H D I h;exact wpAny_Expr_any (Ay (c Zd s O H _ I h) λv d AO=>by obtain⟨x,H1,I1,f,a⟩:=AO;exact⟨O,H1,I1,a⟩) I.quiet b
def Hb(te:TE):TS:=λD O H=>te O H D.rt
def XF:TS:=λD _ H=>D.rt .AA H
def Vo(c:TT)(t u:TS):TS:=λD O H=>c O H λb H1=>if b=true then t D O H1 else u D O H1
def qQ:TS:=λ_ _ _=>False
end
abbrev TG:=V->St->Hp->(St->Hp->Prop)->Prop
abbrev Ip:=List V->St->Hp->(St->Hp->Prop)->Prop
def PG(X:Cx)(a:Expr)(t:TG):Prop:=
 ∀(Zd:ZLa)(s:Shared)(O:St)(H:Hp)(v:V)(u:Value)(Q:St->Hp->Prop),Inv X Zd O H s->RelV v u->t v O H Q->
  Zq2 X (assign a X.env u) (λ_ s'=>∃ σ' H',Inv X Zd σ' H' s'/\Q σ' H') X.xe s
def OL(X:Cx)(ts:List Expr)(t:Ip):Prop:=
 ∀(Zd:ZLa)(s:Shared)(O:St)(H:Hp)(vs:List V)(us:List Value)(Q:St->Hp->Prop),Inv X Zd O H s->Vals vs us->t vs O H Q->
  Zq2 X (assignInOrder ((assignEach ts X.env).map (·.2)) us) (λ_ s'=>∃ σ' H',Inv X Zd σ' H' s'/\Q σ' H') X.xe s
abbrev P9:=V->V->V->Hp->(Hp->Prop)->Prop
def UG(X:Cx)(t:P9):Prop:=
 ∀(Zd:ZLa)(s:Shared)(O:St)(H:Hp)(o i v:V)(a b u:Value)(Q:Hp->Prop),Inv X Zd O H s->RelV o a->RelV i b->RelV v u->t o i v H Q->
  Zq2 X (setItem a b u) (λ_ s'=>∃H',Inv X Zd O H' s'/\Q H') X.xe s
abbrev LQ:=V->V->Hp->VK->Prop
def OF(X:Cx)(op:Operator)(t:LQ):Prop:=
 ∀(Zd:ZLa)(s:Shared)(O:St)(H:Hp)(x y:V)(v u:Value)(Q:VK),Inv X Zd O H s->RelV x v->RelV y u->t x y H Q->
  Zq2 X (inplaceOp op v u) (EP X Zd O Q) X.xe s
def D2(i:Nat):TG:=λv O H Q=>Q (O.set i (some v)) H
theorem YE(b:X.N.Nodup)(hi:X.N[i]?=some x)(hx:Loc X.env.scope x)(a:Zq1 X x:=by first|exact .inl rfl|exact .inr rfl|assumption):PG X (.Name x pos) (D2 i):=by
 intro Zd s O H v u Q I r h;exact wpAny_assign_Name (Tv I b hi hx r (λs' I'=>⟨_,H,I',h⟩) a)
def S9:Ip:=λvs O H Q=>vs=[]/\Q O H
def LK(t:TG)(u:Ip):Ip:=λvs O H Q=>∃v r,vs=v::r/\t v O H λσ' H'=>u r σ' H' Q
theorem eN:OL X [] S9:=by
 intro Zd s O H vs us Q I r h;obtain⟨e,h⟩:=h;subst e;cases r;exact assignInOrder_nil ⟨O,H,I,h⟩
theorem kQ{t:TG}{u:Ip}(h1:PG X e t)(h2:OL X es u)
  (d:(assignEach (e::es) X.env).map (·.2)=assign e X.env::(assignEach es X.env).map (·.2):=by rfl):OL X (e::es) (LK t u):=by
 intro Zd s O H vs us Q I r h;obtain⟨v,g,f,h⟩:=h;subst f;cases r with
 |cons r b=>
  rw[d];refine assignInOrder_cons (Ay (h1 Zd s O H _ _ _ I r h) λ_ a Ys=>?_);obtain⟨σ1,H1,I1,c⟩:=Ys;exact h2 Zd a σ1 H1 _ _ Q I1 b c
def O8(K:ZLZ)(n:Nat)(t:Ip):TG:=λv O H Q=>∃a xs,v=.ref a/\BW K H a xs/\xs.length=n/\t xs O H Q
theorem kU{k:Nat}{t:Ip}(j:X.calm=true)(h:OL X es t)
  (g:(assignEach es X.env).length=n:=by rfl) (Ci:(assignEach es X.env).findIdx? (·.1)=none:=by rfl):PG X (.Tuple es k pos) (O8 X.K n t):=by
 intro Zd s O H v u Q I r hw;obtain⟨a,xs,l,f,i,hw⟩:=hw;subst l;cases r;obtain⟨A5,c,d,p⟩:=I.tuple f;refine assign_Tuple_tuple (I.ok.hd j) d (by simp[g,<- i,c.length]) Ci λh' hx=>?_;have m:Inv X Zd O H { s with heap:=h' }:=I.kept (t':=s.toks) λb o e=>hx b o (Cn (BE e)) e
 exact h Zd _ O H xs _ Q m (by simpa using c) hw
def aB(to ti:TE)(t:P9):TG:=λv O H Q=>to O H λo H1=>ti O H1 λi H2=>t o i v H2 λH3=>Q O H3
def Ez(te:TE)(g:TG):TS:=λD O H=>te O H λx H1=>g x O H1 D.nx
def Sq(i:Nat)(te:TE)(ti:LQ):TS:=λD O H=>∃x,O[i]?=some (some x)/\te O H λy H1=>ti x y H1 λz H2=>D.nx (O.set i (some z)) H2
def bE(to ti te:TE)(W4:V->V->Hp->VK->Prop)(ML:LQ)(UM:P9):TS:=λD O H=>to O H λo H1=>ti O H1 λi H2=>W4 o i H2 λx H3=>te O H3 λy H4=>ML x y H4 λz H5=>UM o i z H5 λH6=>D.nx O H6
def p8(X:Cx)(t:V->V->Hp->VK->Prop):Prop:=
 ∀(Zd:ZLa)(s:Shared)(O:St)(H:Hp)(o i:V)(a b:Value)(Q:VK),Inv X Zd O H s->RelV o a->RelV i b->t o i H Q->
  Zq2 X (getItem a b) (EP X Zd O Q) X.xe s
theorem ZIm{o i:Expr}{to ti:TE}{W4:V->V->Hp->VK->Prop}{ML:LQ}{UM:P9}{op:Operator}(ho:PE X o to)(hi:PE X i ti)(J:p8 X W4)(K:PE X e te)(G:OF X op ML)(F:UG X UM)
  (L:∀a b new,augStore i a b new=(do holding [new,a,b] (setItem a b new);release [new,a,b] [];pure .next):=by intros;rfl):PS X (.AugAssign (.Subscript o i K4) op e pos) (bE to ti te W4 ML UM):=by
 intro Zd s O H D I h;refine wpAny_AugAssign_SubscriptAny (ho.k I h λa t f H1 I1 j E=>?_) L;refine Ay (hi Zd t O H1 _ I1 E) λb s2 Rl=>?_;obtain⟨d,H2,I2,g,C⟩:=Rl;refine Ay (J Zd s2 O H2 f d a b _ I2 j g C) λc r Q0=>?_;obtain⟨n,H3,I3,x,B⟩:=Q0;refine Ay (K Zd r O H3 _ I3 B) λv s4 Ys=>?_;obtain⟨m,H4,I4,w,A⟩:=Ys;refine Ay (G Zd s4 O H4 n m c v _ I4 x w A) λnew q p=>?_;obtain⟨l,H5,I5,u,z⟩:=p;exact Ay (F Zd q O H5 f d l a b new _ I5 j g u z) λ_ M Eh=>by obtain⟨H6,I6,y⟩:=Eh;exact⟨O,H6,I6,y⟩
def Ks(f:Int->Int->Int):LQ:=λx y H Q=>∃i j,x=.int i/\y=.int j/\Q (.int (f i j)) H
theorem Vi:OF X .Add (Ks λi j=>i+j):=by
 intro Zd s O H x y v u Q I b a h;obtain⟨i,j,d,c,q⟩:=h;subst d;subst c;obtain⟨t,rfl⟩:=b;obtain⟨t',rfl⟩:=a;exact iadd_int ⟨.int _,H,I.tok _,⟨_,rfl⟩,q⟩
theorem Xd:OF X .Sub (Ks λi j=>i - j):=by
 intro Zd s O H x y v u Q I b a h;obtain⟨i,j,d,c,q⟩:=h;subst d;subst c;obtain⟨t,rfl⟩:=b;obtain⟨t',rfl⟩:=a;exact isub_int ⟨.int _,H,I.tok _,⟨_,rfl⟩,q⟩
def VJ(c:TT)(tb:TS):TS:=λD O H=>∃W:Nat->St->Hp->Prop,(∃m,W m O H)/\∀m O H,W m O H->
 c O H λb H1=>if b=true then ∃N:St->Hp->Prop,(∀ σ' H',N σ' H'->∃a,a < m/\W a σ' H')/\tb { D with nx:=N,ct:=N,bk:=D.nx } O H1 else D.nx O H1
structure It where
 go:Nat->Hp->Prop
 FT:Nat->Hp->V->Hp->Prop
 stop:Nat->Hp->Prop
def Fs(X:Cx)(Zd:ZLa)(H:Hp)(b:Addr):Prop:=
 H b=none/\b≠X.env.locals/\b∉X.fs/\(b∈X.ex∨X.s₀.heap.objs.size<=b)/\(∀x c,X.env.cells.lookup x=some c->c≠b)/\∀p∈X.pn++Zd,p.1≠b
theorem Inv.MB(I:Inv X Zd O H s)(a:s.heap.objs.size<=b)(f:H' b=none):Fs X Zd H' b:=by
 refine⟨f,Lx (EE I.lt a),I.xQ a,.inr (CB I.sz a),λx c e z=>?_,λp d z=>?_⟩
 .obtain⟨v,q⟩:=I.cell x c e;exact absurd (EE q.lt (by rw[z];exact a)) (Lv _)
 .exact absurd (EE (BE (I.pin p d).1) (by rw[z];exact a)) (Lv _)
structure Turn (P:Program) (w:World) (K:ZLZ) (tg:Expr) (J:It) (fp:List Addr) (it:Addr) (tn:Nat->Heap->Prop):Prop where
 mem:it∈fp
 obj:∀i h,tn i h->∀b∈fp,∃o,h.get? b=some o/\∀v,o.data≠.cell v
 keep:∀i h h',tn i h->(∀b∈fp,∀o,h.get? b=some o->h'.get? b=some o)->tn i h'
 item:∀(X:Cx),X.prog=P->X.w=w->X.K=K->X.calm=true->∀(i:Nat)(Zd:ZLa)(s:Shared)(O:St)(H:Hp)(E:Value->Shared->Prop),Inv X Zd O H s->(∀b∈fp,Fs X Zd H b)->tn i s.heap->J.go i H->
  wpAny (model P w) X.A (pyNext (.ref it)) (λr s1=>∃u,r=some u/\
   wpAny (model P w) X.A (letOwnedTupleGo tg (.ref it) u) (λ_ s2=>∃x H',Inv X Zd O H' s2/\RelV x u/\J.FT i H x H'/\tn (i+1) s2.heap/\∀b∈fp,H' b=none) E s1) E s
 done:∀(X:Cx),X.prog=P->X.w=w->X.K=K->X.calm=true->∀(i:Nat)(Zd:ZLa)(s:Shared)(O:St)(H:Hp)(E:Value->Shared->Prop),Inv X Zd O H s->(∀b∈fp,Fs X Zd H b)->tn i s.heap->J.stop i H->
  wpAny (model P w) X.A (pyNext (.ref it)) (λr s1=>r=none/\Inv X Zd O H s1) E s
 self:∀(A:Around)(i:Nat)(s:Shared)(Q:Value->Shared->Prop)(E:Value->Shared->Prop),tn i s.heap->Q (.ref it) s->wpAny (model P w) A (pyIter (.ref it)) Q E s
abbrev TI:=St->Hp->(It->Hp->Prop)->Prop
def kg(X:Cx)(Zd:ZLa)(O:St)(tg:Expr)(R:It->Hp->Prop)(Vm:Value)(s2:Shared):Prop:=
 ∃(it:Addr)(fp:List Addr)(tn:Nat->Heap->Prop)(J:It)(H':Hp),Vm=.ref it/\Inv X Zd O H' s2/\Turn X.prog X.w X.K tg J fp it tn/\tn 0 s2.heap/\(∀b∈fp,Fs X Zd H' b)/\R J H'
def PI(X:Cx)(tg iter:Expr)(wi:TI):Prop:=
 ∀(Zd:ZLa)(s:Shared)(O:St)(H:Hp)(R:It->Hp->Prop),Inv X Zd O H s->wi O H R->
  Zq2 X (eval iter X.env) (λv a=>Zq2 X (pyIter v) (kg X Zd O tg R) X.xe a) X.xe s
theorem W5{o:Obj}{n:String}{vs:Array Value}{Q:Unit->Shared->Prop}(ho:s.heap.get? it=some o)(c:o.cls=.type n)(hd:o.data=.fields vs)
  (b:["enumerate","zip","dict_itemiterator","dict_reverseitemiterator","odict_iterator","itertools.zip_longest","itertools.pairwise"].contains n=false) (a:Q () s):wpAny M A (letOwnedTupleGo tg (.ref it) u) Q E s:=by
 unfold letOwnedTupleGo;cases tg <;> first
  |exact uz a
  | (cases u <;> first
    |exact uz a
    | (
      refine ra (wpAny_load ho ?_);rw[c,hd];show wpAny M A (if(["enumerate","zip","dict_itemiterator","dict_reverseitemiterator","odict_iterator","itertools.zip_longest","itertools.pairwise"].contains n && vs[0]? == some (rawInt _))=true then _ else _) Q E s
      rw[tK (by intro h;rw[b,Bool.false_and]at h;cases h)];exact uz a))
def hZ(K:ZLZ)(a:Addr):It:=
 ⟨λi H=>∃xs x,AU K H a xs/\xs[i]?=some x,λi H x H'=>H'=H/\∀xs,AU K H a xs->xs[i]?=some x,λi H=>∃xs,AU K H a xs/\xs.length<=i⟩
def Itt(K:ZLZ)(a:Addr):It:=
 ⟨λi H=>∃xs x,BW K H a xs/\xs[i]?=some x,λi H x H'=>H'=H/\∀xs,BW K H a xs->xs[i]?=some x,λi H=>∃xs,BW K H a xs/\xs.length<=i⟩
def NX(lo:Int)(n:Nat):It:=⟨λi _=>i<n,λi H x H'=>H'=H/\x=.int (lo+i),λi _=>n<=i⟩
theorem Ox{P:Program}{K:ZLZ}(a it:Addr):Turn P w K tg (hZ K a) [it] it (λi h=>h.IsListIter it a i) where
 mem:=by simp
 obj:=λi h st b f=>by
  have e:b=it:=by simpa using f
  subst e;obtain⟨o,e,c,d⟩:=st;exact⟨o,e,λv z=>by rw[d]at z;cases z⟩
 keep:=λi h h' st k=>st.at λo e=>k it (by simp) o e
 item:=by
  intro X n hw q B i Zd s O H E I j st m;subst n hw q;obtain⟨xs,x,g,hx⟩:=m;obtain⟨A5,l,p,F⟩:=I.list g;obtain⟨u,J,D⟩:=l.get hx;obtain⟨f0,A,L,y,t,r⟩:=j it (by simp);refine wpAny_pyNext_list_item st p.isList (x:=u) (by simpa using J) λh' Du C=>?_
  have N:Inv X Zd O H { s with heap:=h' }:=I.turned (t':=s.toks) (λb o f e=>(C.2 b f).trans e) f0 A y t r
  obtain⟨o,e,c,d⟩:=id Du;exact⟨u,rfl,W5 (s:={ s with heap:=h' }) e c d (by decide) ⟨x,H,N,D,⟨rfl,λys G=>by rw[I.uE G g];exact hx⟩,Du,λb f=>(j b f).1⟩⟩
 done:=by
  intro X n hw q B i Zd s O H E I j st m;subst n hw q;obtain⟨xs,g,hx⟩:=m;obtain⟨A5,l,p,F⟩:=I.list g;obtain⟨f0,A,L,y,t,r⟩:=j it (by simp);have σ:=l.length;exact wpAny_pyNext_list_end (I.ok.hd B) st p.isList (by simp;omega) λh' M=>⟨rfl,I.turned (t':=s.toks) (λb o f e=>M b o f e) f0 A y t r⟩
 self:=λ_ _ _ _ _ st h=>wpAny_pyIter_listiter st h
theorem Pr{P:Program}{K:ZLZ}(a it:Addr):Turn P w K tg (Itt K a) [it] it (λi h=>h.IsTupleIter it a i) where
 mem:=by simp
 obj:=λi h st b f=>by
  have e:b=it:=by simpa using f
  subst e;obtain⟨o,e,c,d⟩:=st;exact⟨o,e,λv z=>by rw[d]at z;cases z⟩
 keep:=λi h h' st k=>st.at λo e=>k it (by simp) o e
 item:=by
  intro X n hw q B i Zd s O H E I j st m;subst n hw q;obtain⟨xs,x,g,hx⟩:=m;obtain⟨A5,l,p,F⟩:=I.tuple g;obtain⟨u,J,D⟩:=l.get hx;obtain⟨f0,A,L,y,t,r⟩:=j it (by simp);refine wpAny_pyNext_tuple_item st (show s.heap.IsTuple a A5.toArray from p) (x:=u) (by simpa using J) λh' Du C=>?_
  have N:Inv X Zd O H { s with heap:=h' }:=I.turned (t':=s.toks) (λb o f e=>(C.2 b f).trans e) f0 A y t r
  obtain⟨o,e,c,d⟩:=id Du;exact⟨u,rfl,W5 (s:={ s with heap:=h' }) e c d (by decide) ⟨x,H,N,D,⟨rfl,λys G=>by rw[I.ZCA G g];exact hx⟩,Du,λb f=>(j b f).1⟩⟩
 done:=by
  intro X n hw q B i Zd s O H E I j st m;subst n hw q;obtain⟨xs,g,hx⟩:=m;obtain⟨A5,l,p,F⟩:=I.tuple g;obtain⟨f0,A,L,y,t,r⟩:=j it (by simp);have σ:=l.length;exact wpAny_pyNext_tuple_end (I.ok.hd B) st (show s.heap.IsTuple a A5.toArray from p) (by simp;omega) λh' M=>⟨rfl,I.turned (t':=s.toks) (λb o f e=>M b o f e) f0 A y t r⟩
 self:=λ_ _ _ _ _ st h=>wpAny_pyIter_tupleiter st h
theorem xq{P:Program}{K:ZLZ}(it:Addr)(lo:Int)(n:Nat):Turn P w K tg (NX lo n) [it] it (λi h=>IsRangeIter h it (lo+(i:Nat) * 1) ((n:Int) - (i:Nat)) 1) where
 mem:=by simp
 obj:=λi h st b a=>by
  have e:b=it:=by simpa using a
  subst e;exact⟨_,st,λv z=>by
   have r:Data.fields _=Data.cell v:=z;cases r⟩
 keep:=λi h h' st k=>k it (by simp) _ st
 item:=by
  intro X g hw j f i Zd s O H E I c st d;subst g hw j;obtain⟨f0,q,x,p,m,l⟩:=c it (by simp);have W:=Walks.range (prog:=X.prog) (w:=X.w) (I.ok.hd f) it lo 1 n;refine W.item i s _ _ d st λv h' tk u Du kk=>?_;obtain⟨t,rfl⟩:=u;have A:Inv X Zd O H { s with heap:=h',toks:=tk }:=I.turned (λb o a e=>kk b o (by simpa using a) e) f0 q p m l
  refine⟨_,rfl,W5 (s:={ s with heap:=h',toks:=tk }) (n:="range_iterator") Du rfl rfl (by decide) ⟨.int (lo+i),H,A,⟨t,?_⟩,⟨rfl,rfl⟩,Du,λb a=>(c b a).1⟩⟩
  rw[Int.mul_one]
 done:=by
  intro X g hw j f i Zd s O H E I c st d;subst g hw j;obtain⟨f0,q,x,p,m,l⟩:=c it (by simp);exact wpAny_pyNext_range_end (I.ok.hd f) st (by have:n<=i:=d;omega) λh' y=>⟨rfl,I.turned (t':=s.toks) (λb o a e=>y b o a e) f0 q p m l⟩
 self:=λ_ _ _ _ _ st h=>wpAny_pyIter_rangeiter st h
def dS(K:ZLZ)(tl:TE):TI:=λO H R=>tl O H λx H1=>∃a,x=.ref a/\(∃xs,AU K H1 a xs)/\R (hZ K a) H1
theorem jl{R:It->Hp->Prop}{lo hi:Int}{t u v:Tok}(I:Inv X Zd O H s)(h1:-(2 ^ 62)<=lo)(h2:lo<2 ^ 62)(f:-(2 ^ 62)<=hi)(d:hi<2 ^ 62)
  (q:R (NX lo (hi - lo).toNat) H):Zq2 X (pyIter (.ref s.heap.objs.size)) (kg X Zd O tg R) E { s with heap:=s.heap.push { cls:=.type "range", data:=.fields #[.int lo t,.int hi u,.int 1 v] },toks:=tk }:=by
 refine wpAny_pyIter_range (IsRange.new ..) (small_one h1 h2 f d) ?_;have a:Inv X Zd O H { s with heap:=s.heap.push { cls:=.type "range", data:=.fields #[.int lo t,.int hi u,.int 1 v] },toks:=tk }:=I.kept λb o e=>Bo _ e
 refine⟨(s.heap.push { cls:=.type "range", data:=.fields #[.int lo t,.int hi u,.int 1 v] }).objs.size,[(s.heap.push { cls:=.type "range", data:=.fields #[.int lo t,.int hi u,.int 1 v] }).objs.size],_,_,H,rfl,
  a.kept (t':=tk) λb o e=>Bo _ e,xq _ lo (hi - lo).toNat,?_,λb c=>?_,q⟩
 .have h:lo+((0:Nat):Int) * 1=lo:=by simp
  have g:(((hi - lo).toNat:Nat):Int) - ((0:Nat):Int)=Builtin.Range.rangeSize lo hi 1:=by rw[rangeSize_one];split <;> omega
  show IsRangeIter _ _ (lo+((0:Nat):Int) * 1) ((((hi - lo).toNat:Nat):Int) - ((0:Nat):Int)) 1;rw[h,g];exact CY _ rfl
 .have e:b=(s.heap.push { cls:=.type "range", data:=.fields #[.int lo t,.int hi u,.int 1 v] }).objs.size:=by simpa using c
  subst e;exact a.MB (B0 _) (a.AJ.fresh (B0 _))
def cP(ta:TA):TI:=λO H R=>ta O H λvs H1=>∃j:Int,vs=[.int j]/\-(2 ^ 62)<=j/\j<2 ^ 62/\R (NX 0 j.toNat) H1
def Xg(ta:TA):TI:=λO H R=>ta O H λvs H1=>∃i j:Int,vs=[.int i,.int j]/\(-(2 ^ 62)<=i/\i<2 ^ 62/\-(2 ^ 62)<=j/\j<2 ^ 62)/\R (NX i (j - i).toNat) H1
def Ta(wi:TI)(g:TG)(tb:TS):TS:=λD O H=>wi O H λJ H1=>∃W:Nat->Nat->St->Hp->Prop,(∃m,W 0 m O H1)/\∀i m O H,W i m O H->
 (J.stop i H/\D.nx O H)∨(J.go i H/\∃N:St->Hp->Prop,(∀ σ' H',N σ' H'->∃a,a < m/\W (i+1) a σ' H')/\∀x H',J.FT i H x H'->g x O H' λσ2 H2=>tb { D with nx:=N,ct:=N,bk:=D.nx } σ2 H2)
def S8(fp:List Addr)(h:Heap):ZLa:=fp.filterMap λb=>(h.get? b).map λo=>(b,o)
theorem UO{o:Obj}(a:b∈fp)(e:h.get? b=some o):(b,o)∈S8 fp h:=List.mem_filterMap.mpr ⟨b,a,by rw[e];rfl⟩
theorem ZAW{p:Addr×Obj}(a:p∈S8 fp h):p.1∈fp/\h.get? p.1=some p.2:=by
 obtain⟨b,c,e⟩:=List.mem_filterMap.mp a;cases q:h.get? b with
 |none=>rw[q]at e;cases e
 |some o=>
  rw[q]at e;have d:(b,o)=p:=Be e;subst d;exact⟨c,q⟩
theorem Inv.pinned(I:Inv X Zd O H s)(g:∀b∈fp,Fs X Zd H b)(ho:∀b∈fp,∃o,s.heap.get? b=some o/\∀v,o.data≠.cell v):Inv X (Zd++S8 fp s.heap) O H s:=
 I.pC λp f=>(List.mem_append.mp f).elim (λz=>I.pin p (GQ _ z)) λz=>by
  obtain⟨a,e⟩:=ZAW z;obtain⟨f0,i,h,_⟩:=g p.1 a;obtain⟨o,c,d⟩:=ho p.1 a;rw[e]at c;cases c;exact⟨e,f0,i,h,d⟩
theorem Inv.Rz{pl:ZLa}(I:Inv X (Zd++pl) O H s):Inv X Zd O H s:=I.pC λp a=>I.pin p (GQ _ (Gp _ a))
theorem ZBZ{lo:Int}{g:TG}{tb:TS}{D:Ends}(Pv:Nat->St->Hp->Prop)(f:Pv 0 O H)
  (d:∀i O H,i<n->Pv i O H->g (.int (lo+i)) O H λσ2 H2=>tb { D with nx:=Pv (i+1),ct:=Pv (i+1),bk:=D.nx } σ2 H2) (hd:∀ O H,Pv n O H->D.nx O H) :
  ∃W:Nat->Nat->St->Hp->Prop,(∃m,W 0 m O H)/\∀i m O H,W i m O H->
   ((NX lo n).stop i H/\D.nx O H)∨((NX lo n).go i H/\∃N:St->Hp->Prop,(∀ σ' H',N σ' H'->∃b,b < m/\W (i+1) b σ' H')/\∀x H',(NX lo n).FT i H x H'->g x O H' λσ2 H2=>tb { D with nx:=N,ct:=N,bk:=D.nx } σ2 H2):=by
 refine⟨λi m O H=>m=n - i/\i<=n/\Pv i O H,⟨n,by simp,Cf _,f⟩,?_⟩;rintro i m O H⟨rfl,hi,p⟩
 by_cases a:i<n
 .refine .inr ⟨a,Pv (i+1),λσ' H' c=>⟨n - (i+1),by omega,rfl,a,c⟩,λx H' y=>?_⟩;obtain⟨e,y⟩:=y;subst e y;exact d i O _ a p
 .have e:i=n:=by omega
  subst e;exact .inl ⟨B0 _,hd O H p⟩
abbrev R2:=V->V->Hp->VK->Prop
def BX(X:Cx)(f:Value->Value->Sem Value)(r:R2):Prop:=
 ∀(Zd:ZLa)(s:Shared)(O:St)(H:Hp)(x y:V)(v u:Value)(Q:VK),Inv X Zd O H s->RelV x v->RelV y u->r x y H Q->
  Zq2 X (f v u) (EP X Zd O Q) X.xe s
def Tr(X:Cx)(f:Value->Sem Value)(r:V->Hp->VK->Prop):Prop:=
 ∀(Zd:ZLa)(s:Shared)(O:St)(H:Hp)(x:V)(v:Value)(Q:VK),Inv X Zd O H s->RelV x v->r x H Q->
  Zq2 X (f v) (EP X Zd O Q) X.xe s
def Dp(X:Cx)(f:Value)(r:List V->Hp->VK->Prop):Prop:=
 ∀(Zd:ZLa)(s:Shared)(O:St)(H:Hp)(xs:List V)(us:List Value)(Q:VK),Inv X Zd O H s->Vals xs us->r xs H Q->
  Zq2 X (call f us) (EP X Zd O Q) X.xe s
def Ba(r:R2)(ta tb:TE):TE:=λO H Q=>ta O H λx H1=>tb O H1 λy H2=>r x y H2 Q
def Sz(r:V->Hp->VK->Prop)(ta:TE):TE:=λO H Q=>ta O H λx H1=>r x H1 Q
def rI(C:Int->Int->Prop)(g:Int->Int->V):R2:=λx y H Q=>∃i j,x=.int i/\y=.int j/\C i j/\Q (g i j) H
def Gd(g:Int->Int->V):R2:=λx y H Q=>∃i j,x=.int i/\y=.int j/\Q (g i j) H
def rU(g:Int->V):V->Hp->VK->Prop:=λx H Q=>∃i,x=.int i/\Q (g i) H
section
variable{a b c:Expr}
theorem Xu(n:PE X a ta)(m:PE X b tb){R:V->V->Hp->Prop}(I:Inv X Zd O H s)
  (h:ta O H λx H1=>tb O H1 λy H2=>R x y H2)
  (l:∀v u s2 x y H2,Inv X Zd O H2 s2->RelV x v->RelV y u->R x y H2->Zq2 X (f v u) Q X.xe s2) :
  Zq2 X (eval a X.env) (λv d=>Zq2 X (eval b X.env) (λu c=>Zq2 X (f v u) Q X.xe c) X.xe d) X.xe s:=by
 refine Ay (n Zd s O H _ I h) λv e Rl=>?_;obtain⟨x,H1,I1,i,k⟩:=Rl;refine Ay (m Zd e O H1 _ I1 k) λu s2 Q0=>?_;obtain⟨y,H2,I2,g,j⟩:=Q0;exact l v u s2 x y H2 I2 i g j
theorem Uu{C:Int->Int->Prop}{g:Int->Int->Int}
  (a:∀(i j:Int)(t u:Tok)(s:Shared)(Q:Value->Shared->Prop)(E:Value->Shared->Prop),C i j->Q (.int (g i j) s.toks) { s with toks:=s.toks+1 }->Zq2 X (f (.int i t) (.int j u)) Q E s) :
  BX X f (rI C λi j=>.int (g i j)):=by
 intro Zd s O H x y v u Q I c b h;obtain⟨i,j,rfl,rfl,d,q⟩:=h;obtain⟨t,rfl⟩:=c;obtain⟨t',rfl⟩:=b;exact a i j t t' s _ _ d ⟨.int (g i j),H,I.tok _,⟨_,rfl⟩,q⟩
theorem mU{g:Int->Int->Int}
  (a:∀(i j:Int)(t u:Tok)(s:Shared)(Q:Value->Shared->Prop)(E:Value->Shared->Prop),Q (.int (g i j) s.toks) { s with toks:=s.toks+1 }->Zq2 X (f (.int i t) (.int j u)) Q E s) :
  BX X f (Gd λi j=>.int (g i j)):=by
 intro Zd s O H x y v u Q I c b h;obtain⟨i,j,rfl,rfl,q⟩:=h;obtain⟨t,rfl⟩:=c;obtain⟨t',rfl⟩:=b;exact a i j t t' s _ _ ⟨.int (g i j),H,I.tok _,⟨_,rfl⟩,q⟩
theorem Tc{g:Int->Int->Bool}
  (a:∀(i j:Int)(t u:Tok)(s:Shared)(Q:Value->Shared->Prop)(E:Value->Shared->Prop),Q (.bool (g i j)) s->Zq2 X (f (.int i t) (.int j u)) Q E s) :
  BX X f (Gd λi j=>.bl (g i j)):=by
 intro Zd s O H x y v u Q I c b h;obtain⟨i,j,rfl,rfl,q⟩:=h;obtain⟨t,rfl⟩:=c;obtain⟨t',rfl⟩:=b;exact a i j t t' s _ _ ⟨.bl (g i j),H,I,rfl,q⟩
def ZBx(i j:Int):Prop:=0<=j/\j<=1000000/\i.natAbs<2 ^ 64
theorem EJ:BX X (binaryOp .Add) (Gd λi j=>.int (i+j)):=mU λ_ _ _ _ _ _ _ q=>add_int q
theorem LJ:BX X (binaryOp .Sub) (Gd λi j=>.int (i - j)):=mU λ_ _ _ _ _ _ _ q=>sub_int q
theorem JH:BX X (binaryOp .Mod) (rI (λ_ j=>0<j) λi j=>.int (i % j)):=Uu λi j _ _ _ _ _ a q=>by
 have h1:(0:Int)<j:=a;exact mod_int' (by omega) (by rw[Int.fmod_eq_emod_of_nonneg i (by omega)];exact q)
theorem Oh:BX X (binaryOp .Pow) (rI ZBx λi j=>.int (i ^ j.toNat)):=Uu λ_ _ _ _ _ _ _ a q=>pow_int_small a.1 a.2.1 a.2.2 q
theorem unI{f:Value->Sem Value}{g:Int->Int}
  (a:∀(i:Int)(t:Tok)(s:Shared)(Q:Value->Shared->Prop)(E:Value->Shared->Prop),Q (.int (g i) s.toks) { s with toks:=s.toks+1 }->Zq2 X (f (.int i t)) Q E s) :
  Tr X f (rU λi=>.int (g i)):=by
 intro Zd s O H x v Q I b h;obtain⟨i,rfl,q⟩:=h;obtain⟨t,rfl⟩:=b;exact a i t s _ _ ⟨.int (g i),H,I.tok _,⟨_,rfl⟩,q⟩
theorem ai:Tr X (unaryOp .USub) (rU λi=>.int (-i)):=unI λ_ _ _ _ _ q=>neg_int q
end
noncomputable def Zm:V->V->Bool
 | .AA,.AA=>true | .AA,.int _=>true | .int _,.AA=>true | .AA,.bl _=>true | .bl _,.AA=>true | .AA,.str _=>true | .str _,.AA=>true
 | .int _,.int _=>true | .bl _,.bl _=>true | .str _,.str _=>true | .He _,.He _=>true
 | .int _,.str _=>true | .str _,.int _=>true | .bl _,.str _=>true | .str _,.bl _=>true
 |_,_=>false
def iJ:R2:=λx y H Q=>Zm x y=true/\Q (.bl (decide (x=y))) H
def gr:R2:=λx y H Q=>Zm x y=true/\Q (.bl (!decide (x=y))) H
theorem n9{i j:Int}:decide (V.int i=V.int j)=(i == j):=by
 rw[Nc];simp
theorem i6{i j:Bool}:decide (V.bl i=V.bl j)=(i == j):=by
 rw[Nc];simp
theorem eG{i j:Str}:decide (V.str i=V.str j)=(i == j):=by
 rw[Nc];simp
theorem nh{i j:Array UInt8}:decide (V.He i=V.He j)=(i.toList == j.toList):=by
 rw[Nc];cases i;cases j;simp
section
variable{a b c:Expr}
theorem CF{Q:VK}{k a:Bool}(I:Inv X Zd O H s)(q:Q (.bl k) H)(e:k=a):EP X Zd O Q (.bool a) s:=by
 subst e;exact⟨.bl k,H,I,rfl,q⟩
theorem C2:BX X (compareOp .Eq) iJ:=by
 intro Zd s O H x y v u Q I c a h;obtain⟨b,q⟩:=h;cases x with
 |AA=>
  cases c;cases y with
  |AA=>cases a;exact PySem.EqNone.eq_none_none (CF I q (by simp))
  |bl j=>cases a;exact PySem.EqNone.eq_none_bool (CF I q (by simp))
  |int j=>obtain⟨t',rfl⟩:=a;exact PySem.EqNone.eq_none_int (CF I q (by simp))
  |str j=>obtain⟨t',rfl⟩:=a;exact PySem.EqNone.eq_none_str (CF I q (by simp))
  |_=>exact absurd (show false=true from b) C9
 |bl i=>
  cases c;cases y with
  |AA=>cases a;exact PySem.EqNone.eq_bool_none (CF I q (by simp))
  |bl j=>cases a;exact eq_bool (CF I q i6)
  |str j=>obtain⟨t',rfl⟩:=a;exact PySem.EqMixed.eq_bool_str (CF I q (by simp))
  |_=>exact absurd (show false=true from b) C9
 |int i=>
  obtain⟨t,rfl⟩:=c;cases y with
  |AA=>cases a;exact PySem.EqNone.eq_int_none (CF I q (by simp))
  |int j=>obtain⟨t',rfl⟩:=a;exact eq_int (CF I q n9)
  |str j=>obtain⟨t',rfl⟩:=a;exact PySem.EqMixed.eq_int_str (CF I q (by simp))
  |_=>exact absurd (show false=true from b) C9
 |str i=>
  obtain⟨t,rfl⟩:=c;cases y with
  |AA=>cases a;exact PySem.EqNone.eq_str_none (CF I q (by simp))
  |bl j=>cases a;exact PySem.EqMixed.eq_str_bool (CF I q (by simp))
  |int j=>obtain⟨t',rfl⟩:=a;exact PySem.EqMixed.eq_str_int (CF I q (by simp))
  |str j=>obtain⟨t',rfl⟩:=a;exact eq_str (CF I q eG)
  |_=>exact absurd (show false=true from b) C9
 |He i=>
  obtain⟨t,rfl⟩:=c;cases y with
  |He j=>obtain⟨t',rfl⟩:=a;exact PySem.W.eq_bytes (CF I q nh)
  |_=>exact absurd (show false=true from b) C9
 |_=>cases y <;> exact absurd (show false=true from b) C9
theorem uc:BX X (compareOp .NotEq) gr:=by
 intro Zd s O H x y v u Q I c a h;obtain⟨b,q⟩:=h;cases x with
 |AA=>
  cases c;cases y with
  |AA=>cases a;exact PySem.EqNone.ne_none_none (CF I q (by simp))
  |bl j=>cases a;exact PySem.EqNone.ne_none_bool (CF I q (by simp))
  |int j=>obtain⟨t',rfl⟩:=a;exact PySem.EqNone.ne_none_int (CF I q (by simp))
  |str j=>obtain⟨t',rfl⟩:=a;exact PySem.EqNone.ne_none_str (CF I q (by simp))
  |_=>exact absurd (show false=true from b) C9
 |bl i=>
  cases c;cases y with
  |AA=>cases a;exact PySem.EqNone.ne_bool_none (CF I q (by simp))
  |bl j=>cases a;exact ne_bool (CF I q (wH not i6))
  |str j=>obtain⟨t',rfl⟩:=a;exact PySem.EqMixed.ne_bool_str (CF I q (by simp))
  |_=>exact absurd (show false=true from b) C9
 |int i=>
  obtain⟨t,rfl⟩:=c;cases y with
  |AA=>cases a;exact PySem.EqNone.ne_int_none (CF I q (by simp))
  |int j=>obtain⟨t',rfl⟩:=a;exact ne_int (CF I q (wH not n9))
  |str j=>obtain⟨t',rfl⟩:=a;exact PySem.EqMixed.ne_int_str (CF I q (by simp))
  |_=>exact absurd (show false=true from b) C9
 |str i=>
  obtain⟨t,rfl⟩:=c;cases y with
  |AA=>cases a;exact PySem.EqNone.ne_str_none (CF I q (by simp))
  |bl j=>cases a;exact PySem.EqMixed.ne_str_bool (CF I q (by simp))
  |int j=>obtain⟨t',rfl⟩:=a;exact PySem.EqMixed.ne_str_int (CF I q (by simp))
  |str j=>obtain⟨t',rfl⟩:=a;exact ne_str (CF I q (wH not eG))
  |_=>exact absurd (show false=true from b) C9
 |He i=>
  obtain⟨t,rfl⟩:=c;cases y with
  |He j=>obtain⟨t',rfl⟩:=a;exact PySem.W.ne_bytes (CF I q (wH not nh))
  |_=>exact absurd (show false=true from b) C9
 |_=>cases y <;> exact absurd (show false=true from b) C9
theorem LA:BX X (compareOp .Lt) (Gd λi j=>.bl (decide (i<j))):=Tc λ_ _ _ _ _ _ _ q=>lt_int q
theorem Pt:BX X (compareOp .LtE) (Gd λi j=>.bl (decide (i<=j))):=Tc λ_ _ _ _ _ _ _ q=>le_int q
theorem R8:BX X (compareOp .Gt) (Gd λi j=>.bl (decide (j<i))):=Tc λ_ _ _ _ _ _ _ q=>gt_int q
theorem bG:BX X (compareOp .GtE) (Gd λi j=>.bl (decide (j<=i))):=Tc λ_ _ _ _ _ _ _ q=>ge_int q
theorem ZB9:BX X (compareOp .In) (λx y H Q=>∃i j,x=.str i/\y=.str j/\Q (.bl (!(Builtin.Str.occurrences j i 0 j.length 1).isEmpty)) H):=by
 intro Zd s O H x y v u Q I b a h;obtain⟨i,j,rfl,rfl,q⟩:=h;obtain⟨t,rfl⟩:=b;obtain⟨t',rfl⟩:=a;exact in_str (CF I q rfl)
theorem fO:BX X (compareOp .Is) (λx y H Q=>y=.AA/\Q (.bl (decide (x=.AA))) H):=by
 intro Zd s O H x y v u Q I a b h;obtain⟨rfl,q⟩:=h;cases b;refine is_none_gen (CF I q ?_);cases x <;> first
  | (cases a;rfl)
  | (obtain⟨t,rfl⟩:=a;rfl)
theorem Mn:BX X (compareOp .IsNot) (λx y H Q=>y=.AA/\Q (.bl (!decide (x=.AA))) H):=by
 intro Zd s O H x y v u Q I a b h;obtain⟨rfl,q⟩:=h;cases b;refine isnot_none_gen (CF I q ?_);cases x <;> first
  | (cases a;rfl)
  | (obtain⟨t,rfl⟩:=a;rfl)
theorem oS(b:Expr)(h:op≠.In:=by decide)(h2:op≠.NotIn:=by decide):behindInMarks op b=false:=by
 have c:(op == CmpOp.In)=false:=by cases op <;> first|rfl|exact absurd rfl h
 have a:(op == CmpOp.NotIn)=false:=by cases op <;> first|rfl|exact absurd rfl h2
 cases b <;> simp[behindInMarks,c,a]
def K2(t:TE):TT:=λO H Q=>t O H λx H'=>∃k,x=.bl k/\Q k H'
theorem ZIc{r:R2}(ho:BX X (compareOp op) r)(o:PE X a ta)(n:PE X b tb)(m:behindInMarks op b=false):PT X (.Compare a [op] [b] pos) (K2 (Ba r ta tb)):=by
 intro Zd s O H Q I h;refine wpAny_isTrue_Compare1 (o.k I h λv q x H1 I1 g l=>n.k I1 l λu s2 y H2 I2 f j=>
  Ay (ho Zd s2 O H2 x y v u _ I2 g f j) λc p⟨z,H3,I3,d,k,e,i⟩=>?_) m
 subst e;cases d;exact vt ⟨H3,I3,i⟩
def Qq(r b:R2)(ta tb tc:TE):TE:=λO H Q=>ta O H λx H1=>tb O H1 λy H2=>r x y H2 λz H3=>∃k,z=.bl k/\
 (if k=true then tc O H3 λa H4=>b y a H4 Q else Q (.bl false) H3)
theorem Js:(sizeLine:Nat)<2 ^ 63:=by rw[sizeLine_eq];decide
theorem mK:BX X (binaryOp .Add) (λx y H Q=>∃i j,x=.str i/\y=.str j/\i.length+j.length<=sizeLine/\Q (.str (i++j)) H):=by
 intro Zd s O H x y v u Q I b a h;obtain⟨i,j,rfl,rfl,c,q⟩:=h;obtain⟨t,rfl⟩:=b;obtain⟨t',rfl⟩:=a;exact add_str (λt' tk=>⟨.str (i++j),H,I.tok _,⟨_,rfl⟩,q⟩) c
theorem vals1{x:V}(r:Vals [x] us):∃u,us=[u]/\RelV x u:=by
 cases r with
 |cons b a=>cases a;exact⟨_,rfl,b⟩
theorem vals2{x:V}(r:Vals [x,y] us):∃u a,us=[u,a]/\RelV x u/\RelV y a:=by
 cases r with
 |cons e d=>
  cases d with
  |cons c b=>cases b;exact⟨_,_,rfl,e,c⟩
theorem pR(b:X.calm=true):Dp X (.builtin "max") (λxs H Q=>∃i j,xs=[.int i,.int j]/\Q (.int (if j > i then j else i)) H):=by
 intro Zd s O H xs us Q I r h;obtain⟨i,j,rfl,q⟩:=h;obtain⟨u,c,rfl,⟨t,rfl⟩,⟨t',rfl⟩⟩:=vals2 r;refine max_two_ints (I.ok.hd b) λh' tk k=>⟨_,H,I.kept k,?_,q⟩
 by_cases a:j > i
 .rw[u4 a,u4 a];exact⟨_,rfl⟩
 .rw[tK a,tK a];exact⟨_,rfl⟩
theorem tH(b:X.calm=true):Dp X (.builtin "min") (λxs H Q=>∃i j,xs=[.int i,.int j]/\Q (.int (if j<i then j else i)) H):=by
 intro Zd s O H xs us Q I r h;obtain⟨i,j,rfl,q⟩:=h;obtain⟨u,c,rfl,⟨t,rfl⟩,⟨t',rfl⟩⟩:=vals2 r;refine min_two_ints (I.ok.hd b) λh' tk k=>⟨_,H,I.kept k,?_,q⟩
 by_cases a:j<i
 .rw[u4 a,u4 a];exact⟨_,rfl⟩
 .rw[tK a,tK a];exact⟨_,rfl⟩
end
structure NH (h:Heap) (x dx C:Addr) (mA:ZLb):Prop where
 obj:h.get? x=some (PySem.W.instObj C dx)
 ns:h.Ns1 dx mA
 ne:dx≠x
theorem ir(n:h.Ns1 dx mA):∃od,h.get? dx=some od/\∀name,PySem.W.lookIn name od=some (mA name):=by
 obtain⟨o,es,f,ho,hd,hk,_,c⟩:=n;refine⟨o,ho,λname=>?_⟩;have e:=c name;unfold nsFind findBy at e;rw[<- ZKK]at e;unfold PySem.W.lookIn;rw[hd];dsimp only;split
 .rename_i y q;rw[q]at e;exact wH some e
 .rename_i q;rw[q]at e;have a:es.toList.any (·.refKey)=false:=by
   rw[ZKQ];intro y b;obtain⟨z,t,ZIk⟩:=hk y (Array.mem_toList_iff.mp b);simp[DictEntry.refKey,ZIk]
  have d:¬ es.toList.any (·.refKey)=true:=by rw[a];exact C9
  rw[tK d];exact wH some e
theorem NH.look{x:Addr}(I:NH h x dx C mA):∃od,PySem.W.InstAt h x (PySem.W.instObj C dx) C (some od)/\∀name,PySem.W.lookIn name od=some (mA name):=
 let ⟨od,ho,hl⟩:=ir I.ns
 ⟨od,⟨I.obj,rfl,rfl,ho⟩,hl⟩
section
variable{K:ZLZ}{x f:Addr}{v:Value}
theorem get_map{expr:Bool}(X:K.In s.heap)(I:NH s.heap x dx C mA)(c:PySem.W.plainGet K C name=true)(hh:PySem.W.hasDictIn K C=true)
  (d:PySem.W.findIn K (.ref C) name=some none) (a:mA name=some v) (N9:PySem.W.handedIn v=true) (h:Q v { s with toks:=s.toks+1 }) :
  wpAny (model prog w) A (getAttr (.ref x) name expr) Q E s:=by
 obtain⟨od,J,b⟩:=I.look;exact PySem.W.get_value X J (rZ c).1 (ZKs hh d rfl (by rw[b,a])) N9 h
theorem ZE0{Q:Value×List Value->Shared->Prop}(X:K.In s.heap)(I:NH s.heap x dx C mA)(a:PySem.W.plainGet K C name=true)
  (e:PySem.W.findIn K (.ref C) name=some (some (.ref f))) (c:PySem.W.isFn K (.ref f)=true) (b:mA name=none) (h:Q (.ref f,[.ref x]) s) :
  wpAny (model prog w) A (getMethod (.ref x) name pl) Q E s:=by
 obtain⟨od,J,d⟩:=I.look;exact PySem.W.method_fn X J (rZ a).1 (rZ a).2 e (beq_iff_eq.mp c) (by show(PySem.W.lookIn name od).map (·.isSome)=some false;rw[d,b];rfl) h
theorem uW{Q:Unit->Shared->Prop}(X:K.In s.heap)(I:NH s.heap x dx C mA)
  (d:PySem.W.findIn K (.ref C) "__setattr__"=some (some (.builtin "object.__setattr__"))) (e:PySem.W.plainOver K C=true) (c:PySem.W.takerIn K C name=some none) (hh:PySem.W.hasDictIn K C=true)
  (hw:PySem.Within mA ns) (hsz:ns.length<=sizeLine)
  (h:∀h',NH h' x dx C (λy=>if y=name then some v else mA y)->Heap.SameBut dx s.heap h'->Q () { s with heap:=h',toks:=s.toks+2 }) :
  wpAny (model prog w) A (setAttr (.ref x) name v) Q E s:=by
 obtain⟨od,J,l⟩:=I.look;refine ZKy X J d (PySem.W.osa_open (s:={ s with toks:=s.toks+1 }) (r:=none) X J e c λb=>?_)
 obtain⟨cd,f,Q5⟩:=Wf hh;have hx:s.heap.get? x=some ⟨.ref C,some dx,.plain,#[]⟩:=I.obj;refine ra (uz (ra (ra (ZAu hx (ra (ZKq (s:={ s with toks:=s.toks+1 }) (rX X f) ?_))))))
 rw[Q5];refine uz (a:=some dx) (ra (uz (ra ?_)));refine wpAny_nsSet1 (s:={ s with toks:=s.toks+1 }) I.ns λh' Ea Cg=>?_
 obtain⟨k,g,i,j,YN,IF⟩:=Ea.count (ZKz name v hw);refine ra (wpAny_lookBehind j (by rw[YN];exact pastItsLine_dict (CB IF (by rw[Ck];omega))) ?_);exact uz (h _ ⟨(Cg.2 _ (BO I.ne)).trans I.obj,Ea,I.ne⟩ Cg)
theorem zc{R:Result->Shared->Prop}{vs:List Value}(X:K.In s.heap)(a:PySem.W.makesIn K C=true)
  (hi:PySem.W.findIn K (.ref C) "__init__"=some (some (.ref f))) (b:PySem.W.typeIn K (.ref f)=some (.type "function"))
  (h:codeAny (model prog w) (A.under (.builtin "type.__call__" ⟨.ref C::vs,kw⟩)) (.call (.ref f) ⟨.ref (s.heap.objs.size+1)::vs,kw⟩) (PySem.W.InitBack (s.heap.objs.size+1) R)
   { s with heap:=(s.heap.push PySem.W.emptyDict).push (PySem.W.instObj C s.heap.objs.size) }) :
  codeAny (model prog w) A (.call (.ref C) ⟨vs,kw⟩) R s:=by
 obtain⟨hh,g,d,t,os⟩:=s;exact PySem.W.make_core (PySem.W.makes_of X a) (eF X hi) (λself=>PySem.W.bind_fn X self b) (.inl rfl) h
end
noncomputable def E9(f:Str)(v:V):List (Str×V)->List (Str×V)
 | []=>[(f,v)]
 | (g,x)::r=>if g=f then(g,v)::r else(g,x)::E9 f v r
theorem kI(f g:Str)(v:V):∀fs:List (Str×V),(E9 f v fs).lookup g=if g=f then some v else fs.lookup g
 | []=>by
  show List.lookup g [(f,v)]=_
  by_cases h:g=f
  .have a:(g == f)=true:=beq_iff_eq.mpr h;simp only[List.lookup,a,u4 h]
  .have a:(g == f)=false:=beq_eq_false_iff_ne.mpr h;simp only[List.lookup,a,tK h]
 | (k,x)::r=>by
  have b:=kI f g v r;rw[show E9 f v ((k,x)::r)=(if k=f then(k,v)::r else(k,x)::E9 f v r)from rfl]
  by_cases hk:k=f
  .rw[u4 hk]
   by_cases h:g=k
   .have a:(g == k)=true:=beq_iff_eq.mpr h;simp only[List.lookup,a,u4 (h.trans hk)]
   .have a:(g == k)=false:=beq_eq_false_iff_ne.mpr h;simp only[List.lookup,a,tK (λe:g=f=>h (e.trans hk.symm))]
  .rw[tK hk]
   by_cases h:g=k
   .have a:(g == k)=true:=beq_iff_eq.mpr h;simp only[List.lookup,a,tK (λe:g=f=>hk (h.symm.trans e))]
   .have a:(g == k)=false:=beq_eq_false_iff_ne.mpr h;simp only[List.lookup,a];exact b
theorem aJ(f:Str)(v:V):∀fs:List (Str×V),f∈(E9 f v fs).map (·.1)/\∀g,g∈fs.map (·.1)->g∈(E9 f v fs).map (·.1)
 | []=>⟨by simp[E9],λg h=>by simp at h⟩
 | (k,x)::r=>by
  obtain⟨i1,i2⟩:=aJ f v r;rw[show E9 f v ((k,x)::r)=(if k=f then(k,v)::r else(k,x)::E9 f v r)from rfl]
  by_cases hk:k=f
  .rw[u4 hk];subst hk;exact⟨by simp,λg h=>by simpa using h⟩
  .rw[tK hk];refine⟨?_,λg h=>?_⟩
   .rw[B6];exact E2 _ i1
   .rw[B6]at h ⊢;rcases List.mem_cons.mp h with e|e
    .exact List.mem_cons.mpr (.inl e)
    .exact E2 _ (i2 g e)
theorem jD(f:Str)(v:V):∀fs:List (Str×V),(E9 f v fs).length<=fs.length+1
 | []=>by simp[E9]
 | (k,x)::r=>by
  have a:=jD f v r;rw[show E9 f v ((k,x)::r)=(if k=f then(k,v)::r else(k,x)::E9 f v r)from rfl]
  by_cases hk:k=f
  .rw[u4 hk,Ck,Ck];omega
  .rw[tK hk,Ck,Ck];omega
theorem FY.some_of{o:Option Value}(r:FY (some v) o):∃u,o=some u/\RelV v u:=by
 cases o with
 |none=>exact(show False from r).elim
 |some u=>exact⟨u,rfl,r⟩
theorem FY.none_of{o:Option Value}(r:FY none o):o=none:=by
 cases o with
 |none=>rfl
 |some u=>exact(show False from r).elim
theorem oF(r:RelV v u):PySem.W.handedIn u=true:=by
 cases v with
 |AA=>cases(show u=Value.none from r);rfl
 |bl b=>cases(show u=Value.bool b from r);rfl
 |int i=>obtain⟨t,e⟩:=(show ∃t,u=Value.int i t from r);cases e;rfl
 |str x=>obtain⟨t,e⟩:=(show ∃t,u=Value.str x t from r);cases e;rfl
 |He b=>obtain⟨t,e⟩:=(show ∃t,u=Value.bytes b t from r);cases e;rfl
 |Lm b=>obtain⟨t,e⟩:=(show ∃t,u=Value.float b t from r);cases e;rfl
 |ref a=>cases(show u=Value.ref a from r);rfl
 |ty n=>cases(show u=Value.type n from r);rfl
section
variable{P:Program}{fs Of:List (Str×V)}
theorem Ur(AJ:Bz P w H h)(e:H a=some (.ins C dx fs)):∃mA,NH h a dx C mA/\(∀f,FY (fs.lookup f) (mA f))/\PySem.Within mA (fs.map (·.1))/\fs.length<=1000/\H dx=some (.own a):=by
 obtain⟨d,z,ne,ob,mA,n,r,q⟩:=(show CL P w H h a (.ins C dx fs)from AJ a _ e);exact⟨mA,⟨ob,n,ne⟩,r,q,z,d⟩
end
structure Bu (K:ZLZ) (C:Addr):Prop where
 pg:PySem.W.plainGet K C Str.empty=true
 hd:PySem.W.hasDictIn K C=true
 po:PySem.W.plainOver K C=true
 sa:PySem.W.findIn K (.ref C) "__setattr__"=some (some (.builtin "object.__setattr__"))
theorem Bu.get{K:ZLZ}{C:Addr}(c:Bu K C)(f:Str):PySem.W.plainGet K C f=true:=c.pg
def BQ(K:ZLZ)(C:Addr)(f:Str):Prop:=PySem.W.findIn K (.ref C) f=some none
theorem BQ.ZIZ{K:ZLZ}{f:Str}(n:BQ K C f):PySem.W.takerIn K C f=some none:=by
 unfold PySem.W.takerIn;rw[show PySem.W.findIn K (.ref C) f=some none from n];rfl
structure HZ (K:ZLZ) (C:Addr) (f:Str) (v:V) (u:Value):Prop where
 at_:PySem.W.findIn K (.ref C) f=some (some u)
 rel:RelV v u
 get:PySem.W.specialIn K u "__get__"=some none
 cp:PySem.W.copiedNames.contains f=false
structure Meth (K:ZLZ) (C:Addr) (m:Str) (f:Addr):Prop where
 at_:PySem.W.findIn K (.ref C) m=some (some (.ref f))
 fn:PySem.W.isFn K (.ref f)=true
 kp:PySem.W.keepIn K (.ref f)=true
section
variable{fs:List (Str×V)}{f:Str}
theorem gK{b:Bool}(I:Inv X Zd O H s)(e:H a=some (.ins C dx fs))(c:Bu X.K C)(n:BQ X.K C f)(l:fs.lookup f=some v)
  (h:∀u s',Inv X Zd O H s'->RelV v u->Q u s'):wpAny (model X.prog X.w) A (getAttr (.ref a) f b) Q E s:=by
 obtain⟨mA,σ,r,_,_,_⟩:=Ur I.AJ e;obtain⟨u,g,d⟩:=FY.some_of (v:=v) (o:=mA f) (by rw[<- l];exact r f);exact get_map I.Bw σ (c.get f) c.hd n g (oF d) (h u _ (I.tok _) d)
theorem fS{g:Addr}{Q:Value×List Value->Shared->Prop}(I:Inv X Zd O H s)(e:H a=some (.ins C dx fs))(c:Bu X.K C)(k:Meth X.K C m g)(l:fs.lookup m=none)
  (h:Q (.ref g,[.ref a]) s):wpAny (model X.prog X.w) A (getMethod (.ref a) m pl) Q E s:=by
 obtain⟨mA,σ,r,_,_,_⟩:=Ur I.AJ e;have b:mA m=none:=FY.none_of (by rw[<- l];exact r m);exact ZE0 I.Bw σ (c.get m) k.at_ k.fn b h
theorem gJ{Q:Unit->Shared->Prop}(I:Inv X Zd O H s)(e:H a=some (.ins C dx fs))(c:Bu X.K C)(n:BQ X.K C f)(m:fs.length<1000)(i:RelV y u)
  (h:∀s',Inv X Zd O (upd H a (.ins C dx (E9 f y fs))) s'->Q () s'):wpAny (model X.prog X.w) A (setAttr (.ref a) f u) Q E s:=by
 obtain⟨mA,σ,r,wi,_,ho⟩:=Ur I.AJ e;have j:(fs.map (·.1)).length<=sizeLine:=by rw[AB,sizeLine_eq];omega
 refine uW I.Bw σ c.sa c.po n.ZIZ c.hd wi j λh' O' d=>h _ ?_;have hd:∃o,h'.get? dx=some o:=let ⟨o,_,_,e',_⟩:=O'.ns;⟨o,e'⟩;refine I.write (x:=a) (e:=dx) (by rw[e];exact True.intro) (.inr ho) (λb q l z=>(d.2 b l).trans z) hd ?_;refine⟨by rw[AW σ.ne];exact ho,?_,σ.ne,O'.obj,_,O'.ns,λg=>?_,λg k=>?_⟩
 .have:=jD f y fs;omega
 .show FY ((E9 f y fs).lookup g) (if g=f then some u else mA g)
  rw[kI]
  by_cases q:g=f
  .rw[u4 q,u4 q];exact i
  .rw[tK q,tK q];exact r g
 .by_cases q:g=f
  .rw[q];exact(aJ f y fs).1
  .refine(aJ f y fs).2 g (wi g λz=>k ?_);show(if g=f then some u else mA g)=none
   rw[tK q];exact z
theorem Inv.made(I:Inv X Zd O H s):Inv X Zd O (upd (upd H s.heap.objs.size (.own (s.heap.objs.size+1))) (s.heap.objs.size+1) (.ins C s.heap.objs.size []))
  { s with heap:=(s.heap.push PySem.W.emptyDict).push (PySem.W.instObj C s.heap.objs.size) }:=by
 have c:(s.heap.push PySem.W.emptyDict).get? s.heap.objs.size=some PySem.W.emptyDict:=CY s.heap rfl;have h:((s.heap.push PySem.W.emptyDict).push (PySem.W.instObj C s.heap.objs.size)).get? (s.heap.objs.size+1)=some (PySem.W.instObj C s.heap.objs.size):=by
  have:=CY (s.heap.push PySem.W.emptyDict) (o:=PySem.W.instObj C s.heap.objs.size) rfl
  rwa [Iq]at this
 have g:(s.heap.push PySem.W.emptyDict).Ns s.heap.objs.size (λ_=>none):=⟨PySem.W.emptyDict,#[],_,c,rfl,(λe f=>absurd f (by simp)),λ_=>rfl⟩;have i:=I.laid (a:=s.heap.objs.size) (o:=.own (s.heap.objs.size+1)) (h':=s.heap.push PySem.W.emptyDict) (t':=s.toks) (λb u q=>Bo _ q) (B0 _) ⟨_,c⟩;refine i.laid (a:=s.heap.objs.size+1) (o:=.ins C s.heap.objs.size []) (t':=s.toks) (λb u q=>Bo _ q) (rJ (Iq _ _)) ?_;have ne:s.heap.objs.size≠s.heap.objs.size+1:=Cn (dz _);refine⟨by rw[AW ne,B3],Cf _,ne,h,λ_=>none,(Heap.Ns1.of_empty g).at λo q=>Bo _ q,λ_=>True.intro,λy d=>absurd rfl d⟩
theorem o7{env:Env}(b:attributeBase e f env (eval e env)=eval e env)
  (h:wpAny (model prog w) A (eval e env) (λo a=>wpAny (model prog w) A (getAttr o f true) Q E a) E s):wpAny (model prog w) A (eval (.Attribute e f pos) env) Q E s:=
 Attribute_any_ h (by rw[arm_eval_Attribute,b])
end
def KA(K:ZLZ)(ta:TE)(f:Str):TE:=λO H Q=>ta O H λx H1=>∃a C dx fs v,x=.ref a/\H1 a=some (.ins C dx fs)/\Bu K C/\BQ K C f/\fs.lookup f=some v/\Q v H1
def VY(K:ZLZ)(ta tv:TE)(f:Str):TS:=λD O H=>tv O H λy H1=>ta O H1 λx H2=>∃a C dx fs,x=.ref a/\H2 a=some (.ins C dx fs)/\Bu K C/\BQ K C f/\fs.length<1000/\
 D.nx O (upd H2 a (.ins C dx (E9 f y fs)))
def j6(X:Cx)(op:Operator)(rd:V->V->Hp->VK->Prop):Prop:=
 ∀(Zd:ZLa)(s:Shared)(O:St)(H:Hp)(x y:V)(u v:Value)(Q:VK),Inv X Zd O H s->RelV x u->RelV y v->rd x y H Q->Zq2 X (inplaceOp op u v) (EP X Zd O Q) X.xe s
def QB(K:ZLZ)(ta tv:TE)(rd:V->V->Hp->VK->Prop)(f:Str):TS:=λD O H=>ta O H λx H1=>∃a C dx fs v,x=.ref a/\H1 a=some (.ins C dx fs)/\Bu K C/\BQ K C f/\fs.lookup f=some v/\
 tv O H1 λy H2=>rd v y H2 λz H3=>∃dx' Of,H3 a=some (.ins C dx' Of)/\Of.length<1000/\D.nx O (upd H3 a (.ins C dx' (E9 f z Of)))
section
variable{o value:Expr}{f:Str}{pos':Pos}{tv:TE}
variable{b:Bool}
inductive Gu (K:ZLZ) (H:Hp):V->Value->Prop where
 |AA:Gu K H .AA (.type "NoneType")
 |bl (x:Bool):Gu K H (.bl x) (.type "bool")
 |int (i:Int):Gu K H (.int i) (.type "int")
 |str (x:Str):Gu K H (.str x) (.type "str")
 |Lm (x:UInt64):Gu K H (.Lm x) (.type "float")
 |lst {a:Addr}{xs:List V}(e:H a=some (.lst xs)):Gu K H (.ref a) (.type "list")
 |GK {a:Addr}{o:Obj}{xs:List V}(e:H a=some (.GK o (.lst xs))):Gu K H (.ref a) (.type "list")
 |tup {a:Addr}{xs:List V}(e:H a=some (.tup xs)):Gu K H (.ref a) (.type "tuple")
 |dK {a:Addr}{A8:List (Key×V)}(e:H a=some (.dK A8)):Gu K H (.ref a) (.type "dict")
 |dT {a:Addr}{A8:List (List Key×V)}(e:H a=some (.dT A8)):Gu K H (.ref a) (.type "dict")
 |ins {a C dx:Addr}{fs:List (Str×V)}(e:H a=some (.ins C dx fs)) (cl:Bu K C) (ha:PySem.W.findIn K (.ref C) "__class__"=some (some (.builtin "object.__class__")))
   (hn:PySem.W.specialIn K (.builtin "object.__class__") "__get__"=some (some (.builtin "getset_descriptor.__get__"))) (LW:PySem.W.takesIn K (.builtin "object.__class__")=some true)
   (hm:PySem.W.mroIn K C (.type "object")=some true):Gu K H (.ref a) (.ref C)
theorem ZFD{x:V}{t:Value}(I:Inv X Zd O H s)(d:RelV x u)(ty:Gu X.K H x t)(e:PySem.W.kitOne X.K t c=some b)(h:∀tk,Q (.bool b) { s with toks:=tk }):
  wpAny (model X.prog X.w) A (call (.builtin "isinstance") [u,c]) Q E s:=by
 cases ty with
 |AA=>cases(show u=Value.none from d);exact Iu PySem.W.kitx_none I.Bw True.intro e (λz=>nomatch z) h
 |bl y=>cases(show u=Value.bool y from d);exact Iu PySem.W.kitx_bool I.Bw True.intro e (λz=>nomatch z) h
 |int i=>obtain⟨t,q⟩:=(show ∃t,u=Value.int i t from d);cases q;exact Iu PySem.W.kitx_int I.Bw True.intro e (λz=>nomatch z) h
 |str y=>obtain⟨t,q⟩:=(show ∃t,u=Value.str y t from d);cases q;exact Iu PySem.W.kitx_str I.Bw True.intro e (λz=>nomatch z) h
 |Lm y=>obtain⟨t,q⟩:=(show ∃t,u=Value.float y t from d);cases q;exact Iu PySem.W.kitx_float I.Bw True.intro e (λz=>nomatch z) h
 |@lst a xs ea=>
  cases(show u=Value.ref a from d);obtain⟨_,_,n,_,h1⟩:=(show CL X.prog X.w H s.heap a (.lst xs)from I.AJ a _ ea);exact Iu ZKv I.Bw ⟨_,h1,rfl⟩ e (λz=>nomatch z) h
 |@GK a ob xs ea=>
  cases(show u=Value.ref a from d);obtain⟨_,_,_,n,_,h1⟩:=(show CL X.prog X.w H s.heap a (.GK ob (.lst xs))from I.AJ a _ ea);exact Iu ZKv I.Bw ⟨_,h1,rfl⟩ e (λz=>nomatch z) h
 |@tup a xs ea=>
  cases(show u=Value.ref a from d);obtain⟨_,_,_,p⟩:=(show CL X.prog X.w H s.heap a (.tup xs)from I.AJ a _ ea);obtain⟨o,h1,h2,_⟩:=p.1;exact Iu PySem.W.kitx_tuple I.Bw ⟨o,h1,h2⟩ e (λz=>nomatch z) h
 |@dK a A8 ea=>
  cases(show u=Value.ref a from d);obtain⟨_,_,vs,_,p⟩:=(show CL X.prog X.w H s.heap a (.dK A8)from I.AJ a _ ea);obtain⟨o,es,k,h1,h2,_⟩:=p;exact Iu ZKu I.Bw ⟨o,h1,h2.1⟩ e (λz=>nomatch z) h
 |@dT a A8 ea=>
  cases(show u=Value.ref a from d);obtain⟨_,_,xs,_,o,es,k,h1,h2,_⟩:=(show CL X.prog X.w H s.heap a (.dT A8)from I.AJ a _ ea);exact Iu ZKu I.Bw ⟨o,h1,h2.1⟩ e (λz=>nomatch z) h
 |@ins a C dx fs ea cl j f LW g=>
  cases(show u=Value.ref a from d);obtain⟨mA,σ,_⟩:=Ur I.AJ ea;obtain⟨od,J,_⟩:=σ.look;exact Iu (PySem.W.kitx_own (cl.get _) cl.hd j f LW g) I.Bw J e (λz=>nomatch z) h
end
structure BP (k:Nat) (A:Around):Prop where
 hd:A.handled=none
 dp:A.depth+3 * k+5<recursionLimit
 un:A.units+16 * k+200<cLine
theorem BP.mono{k:Nat}(r:BP k A)(h:j<=k):BP j A:=⟨r.hd,by have:=r.dp;omega,by have:=r.un;omega⟩
theorem BP.deeper{k:Nat}(r:BP (k+1) A)(env:Env):BP k (A.deeper env):=
 ⟨r.hd,by have:=r.dp;show A.depth+1+3 * k+5<_;omega,by have:=r.un;show A.units+3+16 * k+200<_;omega⟩
theorem ZDA:(A.under (.builtin "type.__call__" ⟨.ref C::us,kw⟩)).depth=A.depth+1:=by
 first|rfl|simp[Around.under,Code.weight,Code.isCreation,Code.isGuard,Code.isCaller,Code.frames,Code.isFrame,guardIds]
theorem yl:(A.under (.builtin "type.__call__" ⟨.ref C::us,kw⟩)).units=A.units+1:=by
 first|rfl|simp[Around.under,Code.cUnits,Code.frames,Code.isFrame]
theorem BP.make{k:Nat}(r:BP (k+1) A)(C:Addr)(us:List Value)(kw:List (Str×Value)):BP k (A.under (.builtin "type.__call__" ⟨.ref C::us,kw⟩)):=
 ⟨r.hd,by have:=r.dp;rw[ZDA];omega,by have:=r.un;rw[yl];omega⟩
theorem BP.depth{k:Nat}(r:BP k A):A.depth<recursionLimit:=by have:=r.dp;omega
theorem BP.units{k:Nat}(r:BP k A):A.units+64<cLine:=by have:=r.un;omega
theorem BP.SE{k:Nat}(r:BP k A):A.units<cLine:=by have:=r.un;omega
def BA:TA:=λ_ H Q=>Q [] H
def AX(ta:TE)(tr:TA):TA:=λO H Q=>ta O H λx H1=>tr O H1 λxs H2=>Q (x::xs) H2
section
variable{t:TA}
theorem ZT:PA X [] BA:=λ_ _ _ _ H Q I h=>Calls.spliced_nil ⟨[],H,I,.nil,h⟩
theorem RA(j:PE X e te)(i:PA X es t)(g:Cp X e es:=by rfl):PA X (e::es) (AX te t):=by
 intro pos Zd s O H Q I h;rw[g];show wpAny _ _ (spliced ((false,eval e X.env)::backTo pos (starEach es X.env))) _ _ s;refine Calls.spliced_cons (j.k I h λu a x H1 I1 c f=>?_);exact Ay (i pos Zd a O H1 _ I1 f) λus s2 AO=>by obtain⟨xs,H2,I2,b,d⟩:=AO;exact⟨x::xs,H2,I2,.cons c b,d⟩
def Mu(t:TA):TE:=λO H Q=>t O H λxs H1=>xs.length<=sizeLine/\∀p,H1 p=none->Q (.ref p) (upd H1 p (.tup xs))
def dA(t:TA):TE:=λO H Q=>t O H λxs H1=>xs.length<=sizeLine/\∀p,H1 p=none->Q (.ref p) (upd H1 p (.lst xs))
theorem zm{x1}(h:PA X es t):PE X (.Tuple es x1 pos) (Mu t):=by
 intro Zd s O H Q I d;refine wpAny_Tuple_spliced (h.k pos I d λus a xs H1 I1 r⟨z,q⟩=>⟨by rw[<- r.length];exact z,?_⟩);have f:H1 a.heap.objs.size=none:=I1.AJ.fresh (B0 _);refine⟨.ref a.heap.objs.size,upd H1 a.heap.objs.size (.tup xs),I1.laid (t':=a.toks) (λb u e=>Bo _ e) (B0 _) ?_,rfl,q _ f⟩;exact⟨z,us,r,⟨_,CY _ rfl,rfl,_,rfl⟩,λg c=>by rw[CY _ rfl]at c;cases c;rfl⟩
theorem uO(h:PA X es t):PE X (.List es pos) (dA t):=by
 intro Zd s O H Q I c;refine wpAny_List_spliced (h.k pos I c λus a xs H1 I1 r⟨z,q⟩=>⟨by rw[<- r.length];exact z,?_⟩);have d:H1 a.heap.objs.size=none:=I1.AJ.fresh (B0 _);refine⟨.ref a.heap.objs.size,upd H1 a.heap.objs.size (.lst xs),I1.laid (t':=a.toks) (λb u e=>Bo _ e) (B0 _) ?_,rfl,q _ d⟩;exact⟨z,us,0,r,CY _ rfl⟩
end
abbrev Sp:=List V->Hp->VK->XK->Prop
abbrev Gv:=List Env->Hp->Shared->XK->Value->Shared->Prop
variable{CX:Gv}
structure NZ (P:Program) (w:World) (K:ZLZ) (mg:ZLb) (Zp:Heap) (A:Around) (outer:List Env) (s:Shared) (H:Hp):Prop where
 frames:A.frames=some outer
 mod:Mod K mg Zp
 bs:∀b o,Zp.get? b=some o->s.heap.get? b=some o/\H b=none
 Ho:Zp.objs.size<=s.heap.objs.size
 GP:s.heap.FunFrames Zp outer
 Iy:∀b∈Cr outer,H b=none
 AJ:Bz P w H s.heap
 bare:AllBare s.gens
def CE(outer:List Env)(P:Program)(w:World)(H:Hp)(s:Shared)(Q:VK)(u:Value)(s':Shared):Prop:=
 ∃v H',s'.os=s.os/\AllBare s'.gens/\Un (Cr outer) [] H H' s.heap s'.heap/\Bz P w H' s'.heap/\RelV v u/\Q v H'
def CR(CX:Gv)(outer:List Env)(P:Program)(w:World)(H:Hp)(s:Shared)(Q:VK)(E:XK)(r:Result)(s':Shared):Prop:=
 match r with
 | .ok (.ret u)=>CE outer P w H s Q u s'
 | .ok _=>False
 | .error e=>CX outer H s E e s'
structure CU (P:Program) (w:World) (K:ZLZ) (mg:ZLb) (Zp:Heap) (CX:Gv) (k:Nat) (f:Addr) (fd:FuncData) (ps:List Str) (sp:Sp):Prop where
 len:∀vs H Q E,sp vs H Q E->vs.length=ps.length
 run:∀(A:Around)(outer:List Env)(s:Shared)(H:Hp)(args:Args)(us:List Value)(vs:List V)(Q:VK)(E:XK),BP k A->NZ P w K mg Zp A outer s H->BindsTo s fd args (ps.zip us)->Vals vs us->sp vs H Q E->
  codeAny (model P w) A (.call (.ref f) args) (CR CX outer P w H s Q E) s
theorem CU.mono{P:Program}{K:ZLZ}{k:Nat}{f:Addr}{sp:Sp}(F:CU P w K mg Zp CX j f fd ps sp)(h:j<=k):
  CU P w K mg Zp CX k f fd ps sp:=⟨F.len,λA outer s H args us vs Q E a=>F.run A outer s H args us vs Q E (a.mono h)⟩
theorem NZ.make{P:Program}{K:ZLZ}(e:NZ P w K mg Zp A outer s H)(C:Addr)(us:List Value)(kw:List (Str×Value)):
  NZ P w K mg Zp (A.under (.builtin "type.__call__" ⟨.ref C::us,kw⟩)) outer s H:=⟨by first|exact e.frames|(simpa[Around.under,Code.envs,Code.isFrame,pushEnvs]using e.frames),e.mod,e.bs,e.Ho,e.GP,e.Iy,e.AJ,e.bare⟩
theorem Inv.VQ(I:Inv X Zd O H s):NZ X.prog X.w X.K X.mg X.base X.A X.stack s H:=
 ⟨I.ok.frames,I.ok.mod,I.bs,CB I.ok.Ho I.sz,I.stack,I.U5,I.AJ,I.bare⟩
theorem Inv.after{Q:VK}(I:Inv X Zd O H s)(h:CE X.stack X.prog X.w H s Q u s'):EP X Zd O Q u s':=by
 obtain⟨v,H',os,bare,un,AJ,r,q⟩:=h;obtain⟨hh,g,d,t,a⟩:=s';obtain rfl:a=s.os:=os;exact⟨v,H',I.call (h':=hh) (g':=g) (d':=d) (t':=t) (ch:=[]) un AJ bare (λb z=>absurd z (by simp)),r,q⟩
def ED(sp:Sp)(E7:List V)(E:XK)(t:TA):TE:=λO H Q=>t O H λvs H1=>sp (vs++E7) H1 Q E
def KS(C:Addr)(m:Str)(sp:Sp)(E7:List V)(E:XK)(ta:TE)(t:TA):TE:=λO H Q=>ta O H λx H1=>∃a dx fs,x=.ref a/\H1 a=some (.ins C dx fs)/\fs.lookup m=none/\
 t O H1 λvs H2=>sp (x::(vs++E7)) H2 Q E
def XN(C:Addr)(sp:Sp)(E7:List V)(E:XK)(t:TA):TE:=λO H Q=>t O H λvs H1=>∀x dx,H1 x=none->H1 dx=none->dx≠x->
 sp (.ref x::(vs++E7)) (upd (upd H1 dx (.own x)) x (.ins C dx [])) (λv H2=>v=.AA/\Q (.ref x) H2) E
def Binds(K:ZLZ)(fd:FuncData)(ps:List Str)(ds:List Value):Prop:=
 ∀(s:Shared)(us:List Value),K.In s.heap->(us++ds).length=ps.length->BindsTo s fd ⟨us,[]⟩ (ps.zip (us++ds))
theorem Binds.all{K:ZLZ}(h:∀us:List Value,us.length=ps.length->bindArgs fd ⟨us,[]⟩=pure (ps.zip us)):Binds K fd ps []:=λs us _ a=>by
 rw[Dz]at a ⊢;exact .of_eq (h us a)
def Passes(CX:Gv)(X:Cx)(E:XK):Prop:=∀(Zd:ZLa)(O:St)(H:Hp)(s:Shared)(e:Value)(s':Shared),Inv X Zd O H s->CX X.stack H s E e s'->X.xe e s'
section
variable{k:Nat}{f:Addr}{sp:Sp}{E:XK}{p apos:Pos}{o:Expr}{t:TA}
theorem ZS{Q:VK}(F:CU X.prog X.w X.K X.mg X.base CX k f fd ps sp)(c:BP k X.A)(g:Binds X.K fd ps ds)(hd:Vals E7 ds)(hx:Passes CX X E)
  (I:Inv X Zd O H s) (r:Vals vs us) (h:sp (vs++E7) H Q E):Zq2 X (call (.ref f) us) (EP X Zd O Q) X.xe s:=by
 have b:Vals (vs++E7) (us++ds):=r.append hd;have d:(us++ds).length=ps.length:=by rw[<- b.length];exact F.len _ _ _ _ h
 refine ZAJ (ZAY (F.run X.A X.stack s H ⟨us,[]⟩ (us++ds) (vs++E7) Q E c I.VQ (g s us I.Bw d) b h) λr s' a=>?_);cases r with
 |error e=>exact hx Zd O H s e s' I a
 |ok i=>
  cases i with
  |ret u=>exact I.after a
  |next=>exact False.elim a
  |brk=>exact False.elim a
  |cont=>exact False.elim a
theorem ZBX(F:CU X.prog X.w X.K X.mg X.base CX k f fd ps sp)(a:BP k X.A)(c:Gl X x)(b:X.mg x=some (.ref f))(hk:PySem.W.keepIn X.K (.ref f)=true)(d:Binds X.K fd ps ds)(hd:Vals E7 ds)(hx:Passes CX X E)
  (g:PA X (e::es) t) (BY:Zq0 x:=by decide) (he:Cp X e es:=by rfl) (BS:BEq X pos es:=by rfl) :
  PE X (.Call (.Name x p) (e::es) [] pos) (ED sp E7 E t):=by
 intro Zd s O H Q I h;refine xn (Kt I c b ?_ BY);refine Wh (h₀:=X.base) I.ok.mod.JQ hk (g.k pos I h λus i vs H1 I1 r q=>⟨I1.Bw,?_⟩) he BS;exact ZS F a d hd hx I1 r q
theorem uG(j:PE X o ta)(c:Bu X.K C)(b:Meth X.K C m f)(F:CU X.prog X.w X.K X.mg X.base CX k f fd ps sp)(i:BP k X.A)(n:Binds X.K fd ps ds)(hd:Vals E7 ds)(hx:Passes CX X E)(p:PA X (e::es) t)
  (Ci:Cp X e es:=by rfl) (BS:BEq X pos es:=by rfl)
  (ht:eval (.Call (.Attribute o m apos) (e::es) [] pos) X.env=(do
   let ov <- eval o X.env
   standAt apos.atName
   let (f,first) <- holding [ov] (getMethod ov m pl)
   callWith pos f first (backTo pos (starEach (e::es) X.env)) (backToKw pos (keywordEach [] X.env))):=by rfl) :
  PE X (.Call (.Attribute o m apos) (e::es) [] pos) (KS C m sp E7 E ta t):=by
 intro Zd s O H Q I h;refine rY (pl:=pl) (j.k I h λu v x H1 I1 d⟨a,dx,fs,ex,ea,l,q⟩=>?_) ht;subst ex;obtain rfl:u=Value.ref a:=d;refine fS I1 ea c b l ?_;refine Wh (first:=[.ref a]) (h₀:=X.base) I.ok.mod.JQ b.kp (p.k pos I1 q λus s2 vs H2 I2 r g=>⟨I2.Bw,?_⟩) Ci BS
 exact ZS (us:=.ref a::us) (vs:=.ref a::vs) F i n hd hx I2 (.cons rfl r) g
theorem xp(i:PE X o ta)(c:Bu X.K C)(b:Meth X.K C m f)(F:CU X.prog X.w X.K X.mg X.base CX k f fd ps sp)(g:BP k X.A)(j:Binds X.K fd ps ds)(hd:Vals E7 ds)(hx:Passes CX X E)
  (e:eval (.Call (.Attribute o m apos) [] [] pos) X.env=(do
   let ov <- eval o X.env
   standAt apos.atName
   let (f,first) <- holding [ov] (getMethod ov m pl)
   callWith pos f first (backTo pos (starEach [] X.env)) (backToKw pos (keywordEach [] X.env))):=by rfl) :
  PE X (.Call (.Attribute o m apos) [] [] pos) (KS C m sp E7 E ta BA):=by
 intro Zd s O H Q I h;refine rY (pl:=pl) (i.k I h λu n x H1 I1 d⟨a,dx,fs,ex,ea,l,q⟩=>?_) e;subst ex;obtain rfl:u=Value.ref a:=d;refine fS I1 ea c b l ?_;exact PySem.W.callWith_K0 (first:=[.ref a]) I1.Bw b.kp (ZS (us:=[.ref a]) (vs:=[.ref a]) F g j hd hx I1 (.cons rfl .nil) q)
structure Mk (K:ZLZ) (C f:Addr):Prop where
 makes:PySem.W.makesIn K C=true
 init:PySem.W.findIn K (.ref C) "__init__"=some (some (.ref f))
 fn:PySem.W.isFn K (.ref f)=true
 kp:PySem.W.keepIn K (.ref C)=true
theorem ZJx{Q:VK}(M:Mk X.K C f)(F:CU X.prog X.w X.K X.mg X.base CX k f fd ps sp)(i:BP (k+1) X.A)(l:Binds X.K fd ps ds)(hd:Vals E7 ds)
  (hx:Passes CX X E) (I:Inv X Zd O H s) (r:Vals vs us)
  (h:∀x dx,H x=none->H dx=none->dx≠x->sp (.ref x::(vs++E7)) (upd (upd H dx (.own x)) x (.ins C dx [])) (λv H2=>v=.AA/\Q (.ref x) H2) E) :
  Zq2 X (call (.ref C) us) (EP X Zd O Q) X.xe s:=by
 have c:=h (s.heap.objs.size+1) s.heap.objs.size (I.AJ.fresh (JW _)) (I.AJ.fresh (B0 _)) (Cn (dz _));have a:=Inv.made (C:=C) I;have b:Vals (V.ref (s.heap.objs.size+1)::(vs++E7)) (Value.ref (s.heap.objs.size+1)::(us++ds)):=.cons rfl (r.append hd);have j:(Value.ref (s.heap.objs.size+1)::us++ds).length=ps.length:=by
  have e:=b.length;rw[F.len _ _ _ _ c]at e;exact e.symm
 refine ZAJ (zc (f:=f) I.Bw M.makes M.init (beq_iff_eq.mp M.fn) (ZAY (F.run _ X.stack _ _ ⟨Value.ref (s.heap.objs.size+1)::us,[]⟩ (Value.ref (s.heap.objs.size+1)::(us++ds)) _ _ E (i.make C us [])
  (a.VQ.make C us []) (l _ (Value.ref (s.heap.objs.size+1)::us) a.Bw j) b c) λr s' IY=>?_))
 cases r with
 |error e=>exact hx Zd O _ _ e s' a IY
 |ok m=>
  cases m with
  |ret u=>
   obtain⟨v,H',I3,d,n,g⟩:=a.after IY;subst n;exact⟨d,⟨V.ref (s.heap.objs.size+1),H',I3,rfl,g⟩⟩
  |next=>exact False.elim IY
  |brk=>exact False.elim IY
  |cont=>exact False.elim IY
theorem ZK9(M:Mk X.K C f)(F:CU X.prog X.w X.K X.mg X.base CX k f fd ps sp)(a:BP (k+1) X.A)(c:Gl X x)(b:X.mg x=some (.ref C))(d:Binds X.K fd ps ds)(hd:Vals E7 ds)(hx:Passes CX X E)
  (g:PA X (e::es) t) (BY:Zq0 x:=by decide) (he:Cp X e es:=by rfl) (BS:BEq X pos es:=by rfl) :
  PE X (.Call (.Name x p) (e::es) [] pos) (XN C sp E7 E t):=by
 intro Zd s O H Q I h;refine xn (Kt I c b ?_ BY);refine Wh (h₀:=X.base) I.ok.mod.JQ M.kp (g.k pos I h λus i vs H1 I1 r q=>⟨I1.Bw,?_⟩) he BS;exact ZJx M F a d hd hx I1 r q
variable{kws:List Keyword}{tk:TA}{nm:Option Str}{g:List Value->List Value->List Value}{gV:List V->List V->List V}
end
structure Au (N P:List Str) (sc:Scope):Prop where
 kind:sc.kind=.function
 co:sc.isCoroutine=false
 gen:sc.isGenerator=false
 nd:N.Nodup
 pre:N.take P.length=P
 par:∀x∈P,sc.names.lookup x=some .local∨sc.names.lookup x=some .cell
 ZJJ:∀y∈sc.names,y.2≠.free
theorem o8{a:Str->Option NameKind}{x:Str}:∀{binds:List (Str×Value)}{m:ZLb},(∀v,(x,v)∉binds)->bindL a binds m x=m x
 | [],_,_=>rfl
 | (n,v)::r,m,h=>by
  unfold bindL;rw[o8 λw hw=>h w (E2 _ hw)];split
  .have:x≠n:=by rintro rfl;exact h v Fh
   simp[this]
  .rfl
theorem pQ{a:Str->Option NameKind}{x:Str}:∀{binds:List (Str×Value)}{m:ZLb},(∀v,(x,v)∉binds)->bindC a binds m x=m x
 | [],_,_=>rfl
 | (n,v)::r,m,h=>by
  unfold bindC;rw[pQ λw hw=>h w (E2 _ hw)];split
  .rfl
  .have:x≠n:=by rintro rfl;exact h v Fh
   simp[this]
theorem lG{a:Str->Option NameKind}{x:Str}{v:Value}:∀{P:List Str}{vs:List Value}{i:Nat}{m:ZLb},P.Nodup->P[i]?=some x->vs[i]?=some v->a x=some .local->
  bindL a (P.zip vs) m x=some v
 | [],_,_,_,_,h,_,_=>by simp at h
 |_::_,[],_,_,_,_,h,_=>by simp at h
 |p::P,w::vs,0,m,nd,h1,h2,hk=>by
  simp at h1 h2;subst h1;subst h2;show bindL a ((p,w)::P.zip vs) m p=_;unfold bindL;rw[o8 λv b=>(List.nodup_cons.mp nd).1 (rE b).1,u4 hk];simp
 |p::P,w::vs,i+1,m,nd,h1,h2,hk=>by
  show bindL a ((p,w)::P.zip vs) m x=_;unfold bindL;exact lG (i:=i) (List.nodup_cons.mp nd).2 (by simpa using h1) (by simpa using h2) hk
theorem iZ{a:Str->Option NameKind}{x:Str}{v:Value}:∀{P:List Str}{vs:List Value}{i:Nat}{m:ZLb},P.Nodup->P[i]?=some x->vs[i]?=some v->a x≠some .local->
  bindC a (P.zip vs) m x=some v
 | [],_,_,_,_,h,_,_=>by simp at h
 |_::_,[],_,_,_,_,h,_=>by simp at h
 |p::P,w::vs,0,m,nd,h1,h2,hk=>by
  simp at h1 h2;subst h1;subst h2;show bindC a ((p,w)::P.zip vs) m p=_;unfold bindC;rw[pQ λv b=>(List.nodup_cons.mp nd).1 (rE b).1,tK hk];simp
 |p::P,w::vs,i+1,m,nd,h1,h2,hk=>by
  show bindC a ((p,w)::P.zip vs) m x=_;unfold bindC;exact iZ (i:=i) (List.nodup_cons.mp nd).2 (by simpa using h1) (by simpa using h2) hk
def start(N:List Str)(vs:List V):St:=vs.map some++List.replicate (N.length - vs.length) none
noncomputable def Di(CX:Gv)(P:Program)(w:World)(K:ZLZ)(mg:ZLb)(Zp:Heap)(N:List Str)(qual:Str)(scope:Scope)(f:Addr)(cd:Value)(A:Around)(outer:List Env)(s:Shared)(H:Hp)(E:XK):Cx where
 prog:=P
 w:=w
 K:=K
 mg:=mg
 base:=Zp
 A:=A.deeper (envOfC qual scope s.heap.objs.size f cd)
 N:=N
 s₀:=s
 H₀:=H
 env:=envOfC qual scope s.heap.objs.size f cd
 outer:=outer
 stack:=envOfC qual scope s.heap.objs.size f cd::outer
 ex:=[]
 calm:=true
 fn:=λ_=>true
 pn:=[]
 xe:=λe s'=>wpAny (model P w) (A.deeper (envOfC qual scope s.heap.objs.size f cd)) (leaving (envOfC qual scope s.heap.objs.size f cd) e) (λ_ S6=>CX outer H s E e S6) (λa S6=>CX outer H s E a S6) s'
theorem jy(h:sc.names.lookup x=some .cell):∃c,(cellsFrom n sc.names []).lookup x=some c:=by
 have q:=ZKr sc.names n [] (.inl h);exact Option.isSome_iff_exists.mp q
theorem sI{P:Program}{K:ZLZ}{f:Addr}{l:Shared}{E:XK}
  (S:Au N ps scope) (hd:A.handled=none) (e0:NZ P w K mg Zp A outer s H) (C:vs.length=ps.length) (r:Vals vs us)
  (x:InCallC s s.heap.objs.size (bindL (envOfC qual scope s.heap.objs.size f cd).kindOf (ps.zip us) λ_=>none) (cellsFrom (s.heap.objs.size+1) scope.names []) (bindC (envOfC qual scope s.heap.objs.size f cd).kindOf (ps.zip us) λ_=>none) l) :
  Inv (Di CX P w K mg Zp N qual scope f cd A outer s H E) [] (start N vs) H l:=by
 have F:ps.length<=N.length:=by have:=wH List.length S.pre;rw[Dj]at this;omega
 obtain⟨h1,tk,rfl,hk⟩:=x.done;have j:∀b:Addr,b∉(Di CX P w K mg Zp N qual scope f cd A outer s H E).ex:=λb z=>absurd (show b∈([]:List Addr)from z) (by simp);refine⟨⟨e0.mod,S.kind,rfl,rfl,B0 _,λy z c h1 h2=>?_,λy d=>?_,λy c _ h=>?_,λ_=>hd,Around.frames_deeper e0.frames,.inr ⟨rfl,rfl⟩,λb z=>absurd z (j b),e0.bs,e0.Ho,λb _ _=>j b,λb z=>absurd z (j b),e0.GP,e0.Iy⟩,
  rfl,e0.bare,Un.kept hk,⟨_,x.toInCall.ns,λi y v h1 h2 D=>?_⟩,λy c h=>⟨_,x.cell y c h⟩,e0.AJ.fresh (B0 _),λy c h=>?_,λp g=>absurd (show p∈([]:ZLa)from g) (by simp),e0.AJ.kept hk,?_⟩
 .exact name_of_addr x.apart (Nk h1) (Nk h2)
 .have d:scope.names.lookup y=some .cell∨scope.names.lookup y=some .free:=d;rcases d with d|d
  .exact jy d
  .exact absurd rfl (S.ZJJ _ (Nk d))
 .exact dv (x.above y c (Nk h))
 .have hi:i<vs.length:=by
   unfold start at h2
   by_cases hi:i<vs.length
   .exact hi
   .rw[G5 (by simpa using hi)]at h2
    rw[qz]at h2;split at h2 <;> cases h2
  have B:vs[i]?=some v:=by
   unfold start at h2;rw[EW (by simpa using hi),Ax]at h2
   cases e:vs[i]? with
   |none=>rw[e]at h2;cases h2
   |some a=>rw[e]at h2;cases h2;rfl
  obtain⟨u,m,t⟩:=r.get B;have g:ps[i]?=some y:=by
   rw[<- S.pre,List.getElem?_take_of_lt (by omega)];exact h1
  have o:ps.Nodup:=by rw[<- S.pre];exact S.nd.sublist (ZKf _ _)
  refine⟨u,t,?_⟩;rcases S.par y (C7 g)with k|k
  .exact .inl ⟨k,lG o g m k⟩
  .obtain⟨c,e⟩:=jy (n:=s.heap.objs.size+1) k;refine .inr ⟨.inl k,c,e,?_⟩;have q:=x.cell y c e;rw[iZ o g m (by show scope.names.lookup y≠_;rw[k];decide)]at q;exact q
 .exact e0.AJ.fresh (dv (x.above y c (Nk h)))
 .unfold start;show _=N.length;rw[By,AB,rC];omega
theorem gC{P:Program}{K:ZLZ}{k:Nat}{f:Addr}{a:Arguments}{body:List Stmt}{z kV g p Af ct D:Value}{B od:Option Addr}
  {Jl:Array (Option Value)}{sp:Sp}(F:K.lookup f=some ⟨D,od,.func (PySem.W.fnOf name qual a body scope z kV g p B Af ct),Jl⟩) (Fe:PySem.W.codeIn K Af qual=true) (S:Au N ps scope)
  (len:∀vs H Q E,sp vs H Q E->vs.length=ps.length)
  (Mg:∀(A:Around)(outer:List Env)(s:Shared)(H:Hp)(vs:List V)(Q:VK)(E:XK),BP k (A.deeper (envOfC qual scope s.heap.objs.size f Af))->sp vs H Q E->
   ∃t,Ek (Di CX P w K mg Zp N qual scope f Af A outer s H E) body t/\t { nx:=λ_ H'=>Q .AA H',rt:=Q } (start N vs) H) :
  CU P w K mg Zp CX (k+1) f (PySem.W.fnOf name qual a body scope z kV g p B Af ct) ps sp:=by
 refine⟨len,λA outer s H args us vs Q E j e0 T r Gq=>?_⟩;have σ:=len _ _ _ _ Gq;have C:K.In s.heap:=e0.mod.JQ.keeps λb o e=>(e0.bs b o e).1;have i:s.heap.NoLimit:=e0.mod.nolimit.keeps λb o e=>(e0.bs b o e).1;have l:∀y∈ps.zip us,scope.names.lookup y.1=some .local∨(scope.names.lookup y.1=some .cell/\((cellsFrom (s.heap.objs.size+1) scope.names []).lookup y.1).isSome=true):=λ⟨n,v⟩G=>by
  rcases S.par n (rE G).1 with q|q
  .exact .inl q
  .exact .inr ⟨q,ZKr _ _ _ (.inl q)⟩
 refine codeAny_call_function j.depth (C _ _ F) rfl S.co S.gen rfl (PySem.W.codeRec_of C Fe) (T _ _ _ _ ?_);refine wpAny_newFunctionEnv_cells S.kind l λenv R m x=>?_;subst R;refine⟨i.keeps x.toInCall.keep,codeAny_func ?_⟩;obtain⟨t,L,M⟩:=Mg A outer s H vs Q E (j.deeper _) Gq;have I:Inv (Di CX P w K mg Zp N qual scope f Af A outer s H E) [] (start N vs) H m:=sI S j.hd e0 σ r x;refine vo (L [] m (start N vs) H _ I M) (λU s' c=>?_) λe s' c=>c;have d:∀{σ':St}{H':Hp}{v:V}{u:Value},Inv (Di CX P w K mg Zp N qual scope f Af A outer s H E) [] σ' H' s'->RelV v u->Q v H'->CE outer P w H s Q u s':=
  λ{σ' H' v u}J h q=>⟨v,H',J.os,J.bare,J.base,J.AJ,h,q⟩
 cases U with
 |ret u=>
  obtain⟨v,σ',H',J,h,q⟩:=c;exact d J h q
 |next=>
  obtain⟨σ',H',J,q⟩:=c;exact d (v:=V.AA) (u:=Value.none) J rfl q
 |brk=>
  obtain⟨_,_,_,q⟩:=c;exact False.elim q
 |cont=>
  obtain⟨_,_,_,q⟩:=c;exact False.elim q
section
variable{p:Pos}{t:TA}{id T:String}{r:List V->Hp->VK->Prop}
def El(r:List V->Hp->VK->Prop)(t:TA):TE:=λO H Q=>t O H λvs H1=>r vs H1 Q
end
end L2
namespace HT
section
open PySem.SeqAt
open PySem.AutoSeq1 (wpAny_loadPart')
open PySem.MeetsSeq PySem.MeetsSeq2 PySem.MeetsSeq3
end
section
variable{prog:Program}{w:World}{A:Around}{E:Value->Shared->Prop}{s:Shared}
noncomputable def DW(n d:Nat):Option Int->Nat
 |none=>d
 |some v=>if v<0 then(v+(n:Int)).toNat else min v.toNat n
theorem XZ(n d:Nat):DW n d none=d:=rfl
theorem bM(n d k:Nat):DW n d (some (k:Int))=min k n:=by
 show(if(k:Int)<0 then((k:Int)+(n:Int)).toNat else min (k:Int).toNat n)=min k n
 rw[tK (by omega),Hq]
end
end HT
namespace L2
variable{X:Cx}{pos:Pos}{α:Type}{j n t':Nat}{i:Int}{Zd:ZLa}{O:St}{H:Hp}{s:Shared}{xs ys:List V}{A5 its' us:List Value}{A:Around}{x y:V}{u v:Value}{T:String}
abbrev TO:=St->Hp->(Option Int->Hp->Prop)->Prop
def PO(X:Cx)(e:Option Expr)(t:TO):Prop:=
 ∀(Zd:ZLa)(s:Shared)(O:St)(H:Hp)(Q:Option Int->Hp->Prop),Inv X Zd O H s->t O H Q->
  Zq2 X (evalPart e X.env) (λu s'=>∃o H',Inv X Zd O H' s'/\IsPart u o/\Q o H') X.xe s
def df:TO:=λ_ H Q=>Q none H
def af(t:TE):TO:=λO H Q=>t O H λx H1=>∃i,x=.int i/\Q (some i) H1
section
variable{e:Expr}{te:TE}{lo hi:Option Expr}{tl th:TO}{p2:Pos}
def V8(X:Cx)(r:V->Option Int->Option Int->Hp->VK->Prop):Prop:=
 ∀(Zd:ZLa)(s:Shared)(O:St)(H:Hp)(x:V)(v b a:Value)(lo hi:Option Int)(c:Addr)(Q:VK),Inv X Zd O H s->RelV x v->s.heap.IsSliceOf c b a .none->IsPart b lo->IsPart a hi->r x lo hi H Q->
  ∃T id,typeLookup (.type T) "__getitem__"=pure (some (.builtin id))/\s.TypeIs v T/\Zq2 X (getItem v (.ref c)) (EP X Zd O Q) X.xe s
def Zo(r:V->Option Int->Option Int->Hp->VK->Prop)(te:TE)(tl th:TO):TE:=λO H Q=>te O H λx H1=>tl O H1 λl H2=>th O H2 λu H3=>r x l u H3 Q
def MS(xs:List V)(lo hi:Option Int):List V:=(xs.drop (HT.DW xs.length 0 lo)).take (HT.DW xs.length xs.length hi - HT.DW xs.length 0 lo)
theorem ZGp(xs:List V)(lo hi:Option Int):(MS xs lo hi).length<=xs.length:=by
 unfold MS;rw[Dj,SY];omega
end
noncomputable def Gj(n:Nat)(i:Int):Option Nat:=if 0<=i then(if i<n then some i.toNat else none)else if -(n:Int)<=i then some (i+n).toNat else none
def C5(xs:List α)(i:Int):Option α:=(Gj xs.length i).bind λj=>xs[j]?
theorem gv(h:Gj n i=some j):seqIndex? i n=some j/\j<n/\-(n:Int)<=i/\i<n:=by
 unfold Gj at h
 by_cases a:0<=i
 .rw[u4 a]at h
  by_cases h1:i<n
  .rw[u4 h1]at h;have e:i.toNat=j:=Be h;exact⟨by rw[seqIndex_of a h1,e],by omega,by omega,h1⟩
  .rw[tK h1]at h;cases h
 .rw[tK a]at h
  by_cases h1:-(n:Int)<=i
  .rw[u4 h1]at h;have e:(i+n).toNat=j:=Be h;exact⟨by rw[seqIndex_neg (by omega) h1,e],by omega,h1,by omega⟩
  .rw[tK h1]at h;cases h
theorem cU{xs:List α}{v:α}(h:C5 xs i=some v):∃j,seqIndex? i xs.length=some j/\xs[j]?=some v/\j<xs.length/\-(xs.length:Int)<=i/\i<xs.length:=by
 unfold C5 at h;cases e:Gj xs.length i with
 |none=>rw[e]at h;cases h
 |some j=>
  rw[e]at h;obtain⟨h1,h2,b,a⟩:=gv e;exact⟨j,h1,h,h2,b,a⟩
theorem Fx{xs:List α}{v:α}(h:xs[j]?=some v):C5 xs (j:Int)=some v:=by
 have a:j<xs.length:=(List.getElem?_eq_some_iff.mp h).1;have e:Gj xs.length (j:Int)=some j:=by
  unfold Gj;rw[u4 (by omega),u4 (by omega)];simp
 unfold C5;rw[e];exact h
def Ze(b:Expr):Prop:=∀o i,subscripted b false o i=operate [o,i] (getItem o i)
def D1(X:Cx)(r:R2):Prop:=
 ∀(value a:Expr)(Zd:ZLa)(s:Shared)(O:St)(H:Hp)(x y:V)(v u:Value)(Q:VK),Inv X Zd O H s->RelV x v->RelV y u->r x y H Q->
  subscripted a false v u=operate [v,u] (getItem v u)->Zq2 X (subscriptTail value a v u) (EP X Zd O Q) X.xe s
def GH(X:Cx)(id:String)(r:V->List V->Hp->VK->Prop):Prop:=
 ∀(Zd:ZLa)(s:Shared)(O:St)(H:Hp)(x:V)(xs:List V)(v:Value)(us:List Value)(Q:VK),Inv X Zd O H s->RelV x v->Vals xs us->r x xs H Q->
  Zq2 X (call (.builtin id) (v::us)) (EP X Zd O Q) X.xe s
section
variable{a b:Expr}{ta tb:TE}
def Lz(K:ZLZ):R2:=λx y H Q=>∃p xs i v,x=.ref p/\y=.int i/\AU K H p xs/\C5 xs i=some v/\Q v H
def D4(K:ZLZ):R2:=λx y H Q=>∃p xs i v,x=.ref p/\y=.int i/\BW K H p xs/\C5 xs i=some v/\Q v H
def yE:R2:=λx y H Q=>∃z i c,x=.str z/\y=.int i/\z.length<=sizeLine/\C5 z.cps.toList i=some c/\Q (.str ⟨#[c]⟩) H
theorem Df:D1 X (Lz X.K):=by
 intro value b Zd s O H x y v u Q I k g h d;obtain⟨p,xs,i,z,rfl,rfl,l,n,q⟩:=h;cases k;obtain⟨t,rfl⟩:=g;obtain⟨A5,r,pl,B⟩:=I.list l;obtain⟨j,h1,h2,D,A,o⟩:=cU n;obtain⟨w,f,HF⟩:=r.get h2;have m:=r.length;have C:=Js;have a:EP X Zd O Q w s:=⟨z,H,I,HF,q⟩
 by_cases e:0<=i
 .have c:i.toNat=j:=by
   rw[seqIndex_of e o]at h1;exact Be h1
  exact item_listR pl.isList e (by omega) (by rw[c];simpa using f) a d
 .have c:(i+(A5.toArray.size:Int)).toNat=j:=by
   rw[seqIndex_neg (by omega) A]at h1;rw[CA,<- m];exact Be h1
  exact subscriptTail_builtinR (x:=w) pl.isList.typeIs slot_list_getitem.lookup
   (wpAny_getItem_list_neg (Q:=λr s'=>r=w/\EP X Zd O Q r s') pl.isList (by omega) (by rw[CA] <;> omega) (by omega) (by rw[c];simpa using f) ⟨rfl,a⟩) d
theorem B5:D1 X (D4 X.K):=by
 intro value a Zd s O H x y v u Q I d c h e;obtain⟨p,xs,i,z,rfl,rfl,f,k,q⟩:=h;cases d;obtain⟨t,rfl⟩:=c;obtain⟨A5,r,pl,m⟩:=I.tuple f;obtain⟨j,h1,h2,B,A,o⟩:=cU k;obtain⟨w,l,HF⟩:=r.get h2;have g:=r.length;have n:=Js;have b:EP X Zd O Q w s:=⟨z,H,I,HF,q⟩;exact subscriptTail_builtinR (x:=w) pl.typeIs slot_tuple_getitem.lookup
  (getItem_tuple (j:=j) (Q:=λr s'=>r=w/\EP X Zd O Q r s') pl (by omega) (by omega) (by rw[CA,<- g];exact h1) (by simpa using l) ⟨rfl,b⟩) e
theorem ZGz:D1 X yE:=by
 intro value a Zd s O H x y v u Q I d b h e;obtain⟨z,i,c,rfl,rfl,o,g,q⟩:=h;obtain⟨t,rfl⟩:=d;obtain⟨t',rfl⟩:=b;obtain⟨j,h1,h2,r,l,k⟩:=cU g;have f:z.cps.toList.length=z.length:=by simp[Str.length]
 rw[f]at h1 l k;have p:=Js;exact tail_any (typeIs_str s z t) slot_str_getitem.lookup (getItem_str (c:=c) (by
  have n:decide (i < -(2 ^ 63:Int))=false:=vc (by omega);have m:decide (i>=2 ^ 63)=false:=vc (by omega);rw[n,m,Bool.or_false]) (by rw[h1];simpa using h2) ⟨.str ⟨#[c]⟩,H,I.tok _,⟨_,rfl⟩,q⟩) e
theorem ZJC(A5:List Value)(n j:Nat)(u:Value):Obj.mapSeq (·.setIfInBounds j u) { cls:=.type "list", data:=.seq A5.toArray n }={ cls:=.type "list", data:=.seq (A5.set j u).toArray n }:=by
 simp[Obj.mapSeq]
theorem Inv.lst{Zd:ZLa}{O:St}{H:Hp}{s:Shared}{p:Addr}{xs:List V}(I:Inv X Zd O H s)(h:H p=some (.lst xs)):
  ∃(A5:List Value)(n:Nat),Vals xs A5/\s.heap.get? p=some { cls:=.type "list", data:=.seq A5.toArray n }/\xs.length<=sizeLine:=by
 obtain⟨z,A5,n,r,e⟩:=I.AJ p _ h;exact⟨A5,n,r,e,z⟩
theorem Inv.wC{p:Addr}{a:Nat}{f:Obj->Obj}(I:Inv X Zd O H s)(h:H p=some (.lst xs))
  (ho:s.heap.get? p=some { cls:=.type "list", data:=.seq A5.toArray n }) (hf:f { cls:=.type "list", data:=.seq A5.toArray n }={ cls:=.type "list", data:=.seq its'.toArray a }) (r:Vals ys its') (hz:ys.length<=sizeLine) (t:Nat) :
  Inv X Zd O (upd H p (.lst ys)) { s with heap:=s.heap.update p f,toks:=t }:=by
 have e:(s.heap.update p f).get? p=some { cls:=.type "list", data:=.seq its'.toArray a }:=by
  rw[JT f ho (by rw[hf] <;> rfl),hf]
 refine I.write (x:=p) (e:=p) (by rw[h];trivial) (.inl rfl) (λb u c q=>(Fg _ _ (BO c)).trans q) ⟨_,e⟩ ?_;exact⟨hz,its',a,r,e⟩
def WL:V->V->V->Hp->(Hp->Prop)->Prop:=λo i v H Q=>∃p xs k j,o=.ref p/\i=.int k/\H p=some (.lst xs)/\Gj xs.length k=some j/\Q (upd H p (.lst (xs.set j v)))
theorem set_list:UG X WL:=by
 intro Zd s O H o i v y z u Q I l m g h;obtain⟨p,xs,k,j,rfl,rfl,b,x,q⟩:=h;cases l;obtain⟨t,rfl⟩:=m;obtain⟨A5,n,r,ho,w⟩:=I.lst b;obtain⟨h1,h2,d,c⟩:=gv x;have a:=r.length;have A:=Js;have f:Inv X Zd O (upd H p (.lst (xs.set j v))) { s with heap:=s.heap.update p (Obj.mapSeq (·.setIfInBounds j u)) }:=
  I.wC b ho (ZJC A5 n j u) (r.set g j) (by rw[JV];exact w) s.toks
 by_cases e:0<=k
 .have hk:k.toNat=j:=by
   rw[seqIndex_of e c]at h1;exact Be h1
  exact PySem.W.ki_setAt ho e (by omega) (by rw[CA,<- a];exact c) (by rw[hk];exact⟨_,f,q⟩)
 .have hk:(k+(A5.toArray.size:Int)).toNat=j:=by
   rw[seqIndex_neg (by omega) d]at h1;rw[CA,<- a];exact Be h1
  exact PySem.W.ki_setBack ho (by omega) (by rw[CA,<- a];exact d) (by omega) (by rw[hk];exact⟨_,f,q⟩)
theorem ZIo(lo hi:Option Int)(n:Nat):(sliceBounds lo hi none n).1=((HT.DW n 0 lo:Nat):Int)/\(sliceBounds lo hi none n).2.1=((HT.DW n n hi:Nat):Int)/\(sliceBounds lo hi none n).2.2=1:=by
 refine⟨?_,?_,rfl⟩
 .cases lo with
  |none=>simp[sliceBounds,HT.DW]
  |some i=>
   simp only[sliceBounds,HT.DW,ZKl,show(1:Int) > 0 by decide,ZB6]
   by_cases h:i<0
   .simp only[h,ZB6] <;> omega
   .simp only[h,if_false] <;> omega
 .cases hi with
  |none=>simp[sliceBounds,HT.DW]
  |some i=>
   simp only[sliceBounds,HT.DW,ZKl,show(1:Int) > 0 by decide,ZB6]
   by_cases h:i<0
   .simp only[h,ZB6] <;> omega
   .simp only[h,if_false] <;> omega
theorem tY(A5:List Value)(lo hi:Option Int):slicePick A5.toArray lo hi none=((A5.drop (HT.DW A5.length 0 lo)).take (HT.DW A5.length A5.length hi - HT.DW A5.length 0 lo)).toArray:=by
 obtain⟨h1,h2,a⟩:=ZIo lo hi A5.toArray.size;unfold slicePick;rw[h1,h2,a];simp only[sliceRange_one,pick_run,CA] <;> rfl
def oW(K:ZLZ):V->Option Int->Option Int->Hp->VK->Prop:=λx lo hi H Q=>∃a xs,x=.ref a/\AU K H a xs/\∀p,H p=none->Q (.ref p) (upd H p (.lst (MS xs lo hi)))
theorem Ml:V8 X (oW X.K):=by
 intro Zd s O H x v k j lo hi l Q I e i pl f h;obtain⟨a,xs,rfl,hx,q⟩:=h;cases e;obtain⟨A5,r,d,g⟩:=I.list hx;have c:=r.length;refine⟨"list", _,slot_list_getitem.lookup,d.isList.typeIs,?_⟩;refine wpAny_getItem_list_slice d.isList i pl f .none (by simp) ?_ (by rw[CA] <;> omega)
 rw[tY,<- c];refine⟨.ref s.heap.objs.size,_,I.laid (t':=s.toks) (o:=.lst (MS xs lo hi)) (λb ob q=>Bo _ q) (B0 _) ?_,rfl,q _ (I.AJ.fresh (B0 _))⟩;exact⟨CB (ZGp xs lo hi) g,_,0,(r.drop (HT.DW xs.length 0 lo)).take (HT.DW xs.length xs.length hi - HT.DW xs.length 0 lo),CY _ rfl⟩
def Dk:V->Bool
 | .AA=>true
 | .bl _=>true
 | .int _=>true
 | .str _=>true
 |_=>false
noncomputable def FE:V->V->Bool
 | .AA,.AA=>true
 | .bl a,.bl b=>a == b
 | .bl a,.int b=>(if a then 1 else 0) == b
 | .int a,.bl b=>a == (if b then 1 else 0)
 | .int a,.int b=>a == b
 | .str a,.str b=>a == b
 |_,_=>false
theorem kE(d:RelV y u)(c:RelV x v)(f:Dk y=true)(e:Dk x=true):SeqAt.EqAt A s u v (FE y x):=by
 cases y with
 |AA=>
  cases d;cases x with
  |AA=>cases c;exact SeqAt.EqAt.same _
  |bl b=>cases c;exact SeqAt.EqAt.none_bool b
  |int b=>obtain⟨t,rfl⟩:=c;exact SeqAt.EqAt.none_int b t
  |str b=>obtain⟨t,rfl⟩:=c;exact SeqAt.EqAt.none_str b t
  |_=>exact absurd (show false=true from e) C9
 |bl a=>
  cases d;cases x with
  |AA=>cases c;exact SeqAt.EqAt.bool_none a
  |bl b=>cases c;exact SeqAt.EqAt.bool_bool a b
  |int b=>obtain⟨t,rfl⟩:=c;exact SeqAt.EqAt.bool_int a b t
  |str b=>obtain⟨t,rfl⟩:=c;exact SeqAt.EqAt.bool_str a b t
  |_=>exact absurd (show false=true from e) C9
 |int a=>
  obtain⟨t',rfl⟩:=d;cases x with
  |AA=>cases c;exact SeqAt.EqAt.int_none a t'
  |bl b=>cases c;exact SeqAt.EqAt.int_bool a t' b
  |int b=>obtain⟨t,rfl⟩:=c;exact SeqAt.EqAt.int_int a t' b t
  |str b=>obtain⟨t,rfl⟩:=c;exact SeqAt.EqAt.int_str a t' b t
  |_=>exact absurd (show false=true from e) C9
 |str a=>
  obtain⟨t',rfl⟩:=d;cases x with
  |AA=>cases c;exact SeqAt.EqAt.str_none a t'
  |bl b=>cases c;exact SeqAt.EqAt.str_bool a t' b
  |int b=>obtain⟨t,rfl⟩:=c;exact SeqAt.EqAt.str_int a t' b t
  |str b=>obtain⟨t,rfl⟩:=c;exact SeqAt.EqAt.str_str a t' b t
  |_=>exact absurd (show false=true from e) C9
 |_=>exact absurd (show false=true from f) C9
def E6(x:V)(u:Value):Bool:=match u with
 | .none=>FE .AA x
 | .bool b=>FE (.bl b) x
 | .int i _=>FE (.int i) x
 | .str z _=>FE (.str z) x
 |_=>false
theorem Zt(r:RelV y u)(f:Dk y=true):E6 x u=FE y x:=by
 cases y with
 |AA=>cases r;rfl
 |bl b=>cases r;rfl
 |int i=>obtain⟨t,rfl⟩:=r;rfl
 |str z=>obtain⟨t,rfl⟩:=r;rfl
 |_=>exact absurd (show false=true from f) C9
theorem Rt{x:V}:∀{xs:List V}{us:List Value},Vals xs us->xs.all Dk=true->us.any (E6 x)=xs.any λy=>FE y x
 |_,_,.nil,_=>rfl
 |y::xs,u::us,.cons r t,f=>by
  rw[WQ,Ff]at f;rw[Ng,Ng,Zt r f.1,Rt t f.2]
theorem Jo{A:Around}{s:Shared}{x:V}{v:Value}(b:RelV x v)(c:Dk x=true):∀{xs:List V}{us:List Value},Vals xs us->xs.all Dk=true->∀u∈us,SeqAt.EqAt A s u v (E6 x u)
 |_,_,.nil,_=>λu a=>by cases a
 |y::xs,u::us,.cons r t,f=>λd a=>by
  rw[WQ,Ff]at f;rcases List.mem_cons.mp a with rfl|a
  .rw[Zt r f.1];exact kE r b f.1 c
  .exact Jo b c t f.2 d a
def ND(x:V)(xs:List V):Bool:=xs.any λy=>FE y x
def IM(K:ZLZ)(neg:Bool):R2:=λx y H Q=>∃p xs,y=.ref p/\(AU K H p xs∨BW K H p xs)/\Dk x=true/\xs.all Dk=true/\Q (.bl (if neg then !ND x xs else ND x xs)) H
theorem LM:BX X (compareOp .In) (IM X.K false):=by
 intro Zd s O H x y v u Q I b d h;obtain⟨p,xs,rfl,a,c,fs,q⟩:=h;cases d;rcases a with a|a
 .obtain⟨A5,r,pl,e⟩:=I.list a;refine SeqAt.in_listAt (E6 x) pl.isList (λw hw=>Jo b c r fs w (by simpa using hw)) ⟨.bl _,H,I,rfl,?_⟩
  rw[show A5.toArray.any (E6 x)=A5.any (E6 x) by simp,Rt r fs];exact q
 .obtain⟨A5,r,pl,e⟩:=I.tuple a;refine SeqAt.in_tupleAt (E6 x) pl (λw hw=>Jo b c r fs w (by simpa using hw)) ⟨.bl _,H,I,rfl,?_⟩
  rw[show A5.toArray.any (E6 x)=A5.any (E6 x) by simp,Rt r fs];exact q
theorem M5:BX X (compareOp .NotIn) (IM X.K true):=by
 intro Zd s O H x y v u Q I b d h;obtain⟨p,xs,rfl,a,c,fs,q⟩:=h;cases d;rcases a with a|a
 .obtain⟨A5,r,pl,e⟩:=I.list a;refine SeqAt.notIn_listAt (E6 x) pl.isList (λw hw=>Jo b c r fs w (by simpa using hw)) ⟨.bl _,H,I,rfl,?_⟩
  rw[show A5.toArray.any (E6 x)=A5.any (E6 x) by simp,Rt r fs];exact q
 .obtain⟨A5,r,pl,e⟩:=I.tuple a;refine SeqAt.notIn_tupleAt (E6 x) pl (λw hw=>Jo b c r fs w (by simpa using hw)) ⟨.bl _,H,I,rfl,?_⟩
  rw[show A5.toArray.any (E6 x)=A5.any (E6 x) by simp,Rt r fs];exact q
theorem Uh:Dp X (.builtin "len") (λxs H Q=>∃p ys,xs=[.ref p]/\(AU X.K H p ys∨BW X.K H p ys)/\Q (.int ys.length) H):=by
 intro Zd s O H xs us Q I r h;obtain⟨p,ys,rfl,b,q⟩:=h;obtain⟨u,rfl,d⟩:=vals1 r;cases d;have f:=Js;rcases b with b|b
 .obtain⟨A5,c,pl,e⟩:=I.list b;have a:=c.length;exact Calls.call_len_list pl.isList (by simp only[CA] <;> omega) ⟨.int ys.length,H,I.tok _,⟨s.toks+1,by rw[CA,a]⟩,q⟩
 .obtain⟨A5,c,pl,e⟩:=I.tuple b;have a:=c.length;exact len_tuple pl (by simp only[CA] <;> omega) ⟨.int ys.length,H,I.tok _,⟨s.toks+1,by rw[CA,a]⟩,q⟩
theorem jd:Dp X (.builtin "len") (λxs H Q=>∃z,xs=[.str z]/\z.length<=sizeLine/\Q (.int z.length) H):=by
 intro Zd s O H xs us Q I r h;obtain⟨z,rfl,a,q⟩:=h;obtain⟨u,rfl,t,rfl⟩:=vals1 r;have b:=Js;exact len_str (by omega) ⟨.int z.length,H,I.tok _,⟨_,rfl⟩,q⟩
theorem RV:Dp X (.type "list") (λxs H Q=>∃p ys,xs=[.ref p]/\(AU X.K H p ys∨BW X.K H p ys)/\∀l,H l=none->Q (.ref l) (upd H l (.lst ys))):=by
 intro Zd s O H xs us Q I r h;obtain⟨p,ys,rfl,f,q⟩:=h;obtain⟨u,rfl,k⟩:=vals1 r;cases k;have i:∀(A5:List Value),Vals ys A5->ys.length<=sizeLine->∀(h':Heap)(c:Nat),(∀b o',s.heap.get? b=some o'->h'.get? b=some o')->
   h'.get? s.heap.objs.size=some { cls:=.type "list", dict:=none,data:=.seq A5.toArray c,slots:=#[] }->EP X Zd O Q (.ref s.heap.objs.size) { s with heap:=h' }:=λA5 a d h' c kp e=>
  ⟨.ref s.heap.objs.size,_,I.laid (t':=s.toks) kp (B0 _) (show CL X.prog X.w _ h' _ (.lst ys)from⟨d,A5,c,a,e⟩),rfl,q _ (I.AJ.fresh (B0 _))⟩
 rcases f with f|f
 .obtain⟨A5,a,pl,d⟩:=I.list f;have g:=a.length;obtain⟨o,ho,j,n,hd⟩:=pl.isList;exact call_list_seq p (.inl rfl) ho j hd (λh' c kp e=>i A5 a d h' c kp e) (by simp only[CA] <;> omega)
 .obtain⟨A5,a,pl,d⟩:=I.tuple f;have g:=a.length;obtain⟨o,ho,j,n,hd⟩:=pl;exact call_list_seq p (.inr rfl) ho j hd (λh' c kp e=>i A5 a d h' c kp e) (by simp only[CA] <;> omega)
theorem Qh:Dp X (.type "tuple") (λxs H Q=>∃p ys,xs=[.ref p]/\((AU X.K H p ys/\∀l,H l=none->Q (.ref l) (upd H l (.tup ys)))∨(BW X.K H p ys/\Q (.ref p) H))):=by
 intro Zd s O H xs us Q I r h;obtain⟨p,ys,rfl,h⟩:=h;obtain⟨u,rfl,j⟩:=vals1 r;cases j;rcases h with⟨c,q⟩|⟨c,q⟩
 .obtain⟨A5,a,pl,d⟩:=I.list c;have f:=a.length;refine call_tuple_list pl.isList (λh' kp=>?_) (by simp only[CA] <;> omega)
  have i:Inv X Zd O H { s with heap:=h' }:=I.kept (t':=s.toks) kp
  have k:Inv X Zd O (upd H h'.objs.size (.tup ys)) { s with heap:=h'.push { cls:=.type "tuple", data:=.seq A5.toArray } }:=
   i.laid (t':=s.toks) (λb o e=>Bo _ e) (B0 _) (show CL X.prog X.w _ _ _ (.tup ys)from⟨d,A5,a,⟨IsTup.new _ _,λm g=>by rw[CY _ rfl]at g;cases g;rfl⟩⟩)
  exact⟨.ref h'.objs.size,_,k,rfl,q _ (i.AJ.fresh (B0 _))⟩
 .obtain⟨A5,a,pl,d⟩:=I.tuple c;exact call_tuple_same pl ⟨.ref p,H,I,rfl,q⟩
def Rg(K:ZLZ)(T:String)(x:V)(H:Hp):Prop:=match x with
 | .str _=>T="str"
 | .int _=>T="int"
 | .ref p=>(T="list" /\ ∃xs,AU K H p xs)∨(T="tuple" /\ ∃o,K.lookup p=some o/\o.cls=.type "tuple" /\ o.dict=none)∨
   (T="dict" /\ ((∃A8,H p=some (.dK A8))∨∃A8,H p=some (.dT A8)))∨(T="set" /\ ∃S n,H p=some (.set S n))∨(T="tuple" /\ ∃xs,H p=some (.tup xs))
 |_=>False
theorem jT(I:Inv X Zd O H s)(r:RelV x v)(ty:Rg X.K T x H):
  s.TypeIs v T/\∀a,v=.ref a->∃ob,s.heap.get? a=some ob/\ob.dict=none:=by
 cases x with
 |str z=>
  obtain⟨t,rfl⟩:=r;cases(show T="str" from ty);exact⟨typeIs_str s z t,λ_ e=>nomatch e⟩
 |int i=>
  obtain⟨t,rfl⟩:=r;cases(show T="int" from ty);exact⟨typeIs_int s i t,λ_ e=>nomatch e⟩
 |ref p=>
  cases r;rcases ty with⟨rfl,xs,d⟩|⟨rfl,o,hk,f,hd⟩|⟨rfl,hk⟩|⟨rfl,S,n,hk⟩|⟨rfl,xs,hk⟩
  .obtain⟨A5,_,pl,_⟩:=I.list d;refine⟨pl.isList.typeIs,λa e=>?_⟩;cases e;obtain⟨o,n,e,c,hd,_⟩:=pl;exact⟨o,e,hd⟩
  .refine⟨⟨o,I.Bw p o hk,f⟩,λa e=>?_⟩;cases e;exact⟨o,I.Bw _ o hk,hd⟩
  .have z:∃o,s.heap.get? p=some o/\o.ExactDict:=by
    rcases hk with⟨A8,hk⟩|⟨A8,hk⟩
    .obtain⟨_,_,_,_,o,_,_,e,ex,_⟩:=I.AJ p _ hk;exact⟨o,e,ex⟩
    .obtain⟨_,_,_,_,o,_,_,e,ex,_⟩:=I.AJ p _ hk;exact⟨o,e,ex⟩
   obtain⟨o,e,ex⟩:=z;refine⟨⟨o,e,ex.1⟩,λa b=>?_⟩;cases b;exact⟨o,e,ex.2.1⟩
  .obtain⟨o,_,_,_,e,ex,_⟩:=I.AJ p _ hk;refine⟨⟨o,e,ex.1⟩,λa b=>?_⟩;cases b;exact⟨o,e,ex.2.1⟩
  .obtain⟨_,A5,_,⟨o,e,c,_⟩,g⟩:=I.AJ p _ hk;refine⟨⟨o,e,c⟩,λa b=>?_⟩;cases b;exact⟨o,e,g o e⟩
 |_=>exact False.elim ty
def TF(K:ZLZ)(T:String)(r:V->List V->Hp->VK->Prop)(to:TE):TE:=λO H Q=>to O H λx H1=>Rg K T x H1/\r x [] H1 Q
def GJ(K:ZLZ)(T:String)(r:V->List V->Hp->VK->Prop)(to:TE)(t:TA):TE:=λO H Q=>to O H λx H1=>Rg K T x H1/\t O H1 λxs H2=>r x xs H2 Q
variable{o e:Expr}{es:List Expr}{to:TE}{t:TA}{name:Str}{apos Bp:Pos}{id:String}{r:V->List V->Hp->VK->Prop}
end
def N6(X:Cx)(id:String)(r:V->List V->Hp->VK->Prop):Prop:=
 ∀(Zd:ZLa)(s:Shared)(O:St)(H:Hp)(x:V)(xs:List V)(v:Value)(us:List Value)(Q:VK),Inv X Zd O H s->RelV x v->Vals xs us->r x xs H Q->
  Zq2 X (call (.builtin id) (v::us)) (EP X Zd O Q) X.xe s
theorem Vals.one:∀{x:V}{us:List Value},Vals [x] us->∃u,us=[u]/\RelV x u:=λr=>vals1 r
theorem Vals.two:∀{x y:V}{us:List Value},Vals [x,y] us->∃u v,us=[u,v]/\RelV x u/\RelV y v:=λr=>vals2 r
theorem Vals.zero:∀{us:List Value},Vals [] us->us=[]
 |_,.nil=>rfl
theorem Vals.dropLast(h:Vals xs us):Vals xs.dropLast us.dropLast:=by
 induction h with
 |nil=>exact .nil
 |cons r t a=>
  cases t with
  |nil=>exact .nil
  |cons q t'=>exact .cons r a
theorem Vals.eraseIdx:∀{xs:List V}{us:List Value}(i:Nat),Vals xs us->Vals (xs.eraseIdx i) (us.eraseIdx i)
 |_,_,_,.nil=>.nil
 |_,_,0,.cons _ t=>t
 |_,_,i+1,.cons r t=>.cons r (Vals.eraseIdx i t)
theorem Vals.rep{xs:List V}{us:List Value}(h:Vals xs us):∀k:Nat,Vals (List.replicate k xs).flatten (List.replicate k us).flatten
 | 0=>.nil
 |k+1=>by
  rw[Nj,Nj,Ph,Ph];exact Vals.append h (Vals.rep h k)
theorem ZCf(l:List α):l.eraseIdx (l.length - 1)=l.dropLast:=by
 induction l with
 |nil=>rfl
 |cons a r c=>
  cases r with
  |nil=>rfl
  |cons b r=>
   have e:(a::b::r).length - 1=((b::r).length - 1)+1:=by
    have h1:(a::b::r).length=r.length+2:=rfl;have h2:(b::r).length=r.length+1:=rfl;omega
   rw[e,ZKV,c]
   all_goals rfl
theorem oK{α:Type}:∀(l:List α)(i:Nat),(l.eraseIdx i).length<=l.length
 | [],_=>B0 _
 |_::_,0=>JW _
 |_::r,i+1=>ZKk (oK r i)
theorem foldl_rep(A5:List Value):∀(k:Nat)(acc:List Value),
  List.foldl (λb a=>b++a) acc.toArray (List.replicate k A5.toArray)=(acc++(List.replicate k A5).flatten).toArray
 | 0,acc=>by simp
 |k+1,acc=>by
  have e:acc.toArray++A5.toArray=(acc++A5).toArray:=by simp
  have c:(acc++A5)++(List.replicate k A5).flatten=acc++(List.replicate (k+1) A5).flatten:=by
   rw[Nj,Ph,C6]
  rw[<- c,<- foldl_rep A5 k (acc++A5),<- e,Nj,qw]
section
variable{l b:Addr}{zs:List V}
theorem Inv.Ow{f:Array Value->Array Value}(I:Inv X Zd O H s)(c:H l=some (.lst xs))
  (e:s.heap.get? l=some { cls:=.type "list", data:=.seq A5.toArray n }) (hf:f A5.toArray=its'.toArray) (hv:Vals ys its') (hz:ys.length<=sizeLine) :
  Inv X Zd O (upd H l (.lst ys)) { s with heap:=s.heap.update l (Obj.mapSeq f),toks:=t' }:=by
 have q:=PySem.IsL.update e f;rw[hf]at q;refine I.write (x:=l) (e:=l) (by rw[c];exact trivial) (.inl rfl) (λd u b a=>(Fg s.heap (Obj.mapSeq f) (BO b)).trans a) ⟨_,q⟩ ?_;exact⟨hz,its',_,hv,q⟩
theorem Inv.d7(I:Inv X Zd O H s)(b:Vals ys A5)(a:ys.length<=sizeLine):
  Inv X Zd O (upd H s.heap.objs.size (.lst ys)) { s with heap:=s.heap.push { cls:=.type "list", data:=.seq A5.toArray },toks:=t' }:=
 I.laid (λ_ _ q=>Bo _ q) (B0 _) ⟨a,A5,0,b,CY _ rfl⟩
theorem Inv.fresh(I:Inv X Zd O H s):H s.heap.objs.size=none:=I.AJ.fresh (B0 _)
theorem Inv.JL(I:Inv X Zd O H s)(a:H l=some (.lst xs)):xs.length<=sizeLine/\∃(A5:List Value)(n:Nat),Vals xs A5/\xs.length=A5.length/\s.heap.get? l=some { cls:=.type "list", data:=.seq A5.toArray n }:=by
 obtain⟨z,A5,n,r,e⟩:=I.AJ l _ a;exact⟨z,A5,n,r,r.length,e⟩
theorem gS(h:n<=sizeLine):Builtin.List.listTooLong n=false:=by
 unfold Builtin.List.listTooLong;exact vc (by omega)
def UE:V->List V->Hp->VK->Prop:=λx vs H Q=>∃l xs y,x=.ref l/\vs=[y]/\H l=some (.lst xs)/\xs.length<sizeLine/\Q .AA (upd H l (.lst (xs++[y])))
theorem l4:N6 X "list.append" UE:=by
 intro Zd s O H x vs v us Q I b c h;obtain⟨l,xs,y,rfl,rfl,a,f,q⟩:=h;cases b;obtain⟨u,rfl,d⟩:=c.one;obtain⟨z,A5,n,r,g,e⟩:=I.JL a;refine zJ F.slot_list_append ⟨_,e,rfl⟩ F.entry_list_append (F.args_list_append_2 _ _) (PySem.list_append l A5.toArray n u (by rw[CA];omega)) ⟨e,?_⟩;refine⟨.AA,_,I.Ow (its':=A5++[u]) a e (by simp) (r.append (.cons d .nil)) ?_,rfl,q⟩;rw[By,Ir];omega
def ao:V->List V->Hp->VK->Prop:=λx vs H Q=>∃l b xs zs,x=.ref l/\vs=[.ref b]/\H l=some (.lst xs)/\H b=some (.lst zs)/\xs.length+zs.length<=sizeLine/\Q .AA (upd H l (.lst (xs++zs)))
theorem yP:N6 X "list.extend" ao:=by
 intro Zd s O H x vs v us Q I c d h;obtain⟨l,b,xs,zs,rfl,rfl,a,j,p,q⟩:=h;cases c;obtain⟨u,rfl,f⟩:=d.one;cases f;obtain⟨z,A5,n,r,t,e⟩:=I.JL a;obtain⟨o,Cu,i,g,EA,k⟩:=I.JL j;have hsz:A5.toArray.size+Cu.toArray.size<=sizeLine:=by rw[CA,CA];omega
 have m:¬ (!A5.toArray.isEmpty && Builtin.List.listTooLong (A5.toArray.size+Cu.toArray.size))=true:=by
  rw[gS hsz,dk];exact C9
 refine zJ F.slot_list_extend ⟨_,e,rfl⟩ F.entry_list_extend (F.args_list_extend_2 _ _)
  (AutoSeq1.list_extend_list_list_0 l A5.toArray n b Cu.toArray i m (by rw[CA];omega) (by omega)) ⟨e,k,?_⟩
 refine⟨.AA,_,I.Ow (its':=A5++Cu) a e (by simp) (r.append g) ?_,rfl,q⟩;rw[By];omega
def cB:V->List V->Hp->VK->Prop:=λx vs H Q=>∃l xs y,x=.ref l/\vs=[]/\H l=some (.lst xs)/\xs[xs.length - 1]?=some y/\Q y (upd H l (.lst xs.dropLast))
theorem tN:N6 X "list.pop" cB:=by
 intro Zd s O H x vs v us Q I c d h;obtain⟨l,xs,y,rfl,rfl,b,g,q⟩:=h;cases c;have k:=d.zero;subst k;obtain⟨z,A5,n,r,j,e⟩:=I.JL b;obtain⟨u,i,f⟩:=r.get g;have a:A5.toArray[A5.toArray.size - 1]?=some u:=by
  show A5.toArray[A5.length - 1]?=some u;rw[<- dh,<- j];exact i
 refine zJ F.slot_list_pop ⟨_,e,rfl⟩ F.entry_list_pop (F.args_list_pop_1 _) (MeetsSeq.list_pop_last l A5.toArray n u a (by rw[CA];omega)) ⟨e,?_⟩;refine⟨y,_,I.Ow (its':=A5.dropLast) b e ?_ r.dropLast ?_,f,q⟩
 .show A5.toArray.eraseIdxIfInBounds (A5.toArray.size - 1)=A5.dropLast.toArray;rw[CA,ZKU,ZCf]
 .rw[List.length_dropLast];omega
def bg:V->List V->Hp->VK->Prop:=λx vs H Q=>∃l xs i k y,x=.ref l/\vs=[.int i]/\H l=some (.lst xs)/\-(2 ^ 63)<=i/\i<2 ^ 63/\seqIndex? i xs.length=some k/\xs[k]?=some y/\Q y (upd H l (.lst (xs.eraseIdx k)))
theorem ZGV:N6 X "list.pop" bg:=by
 intro Zd s O H x vs v us Q I b c h;obtain⟨l,xs,i,k,y,rfl,rfl,a,h1,h2,hk,f,q⟩:=h;cases b;obtain⟨u,rfl,d⟩:=c.one;obtain⟨t,rfl⟩:=d;obtain⟨z,A5,n,r,g,e⟩:=I.JL a;obtain⟨w,hw,HF⟩:=r.get f;refine zJ F.slot_list_pop ⟨_,e,rfl⟩ F.entry_list_pop (F.args_list_pop_2 _ _)
  (MeetsSeq.list_pop_at l A5.toArray n i t k w (fitsIndex_both h1 h2) (by rw[CA,<- g];exact hk) (by rw[<- dh];exact hw) (by rw[CA];omega)) ⟨e,?_⟩
 refine⟨y,_,I.Ow (its':=A5.eraseIdx k) a e ?_ (r.eraseIdx k) ?_,HF,q⟩
 .show A5.toArray.eraseIdxIfInBounds k=(A5.eraseIdx k).toArray;rw[ZKU]
 .have:=oK xs k;omega
def Xl:V->List V->Hp->VK->Prop:=λx vs H Q=>∃l xs,x=.ref l/\vs=[]/\H l=some (.lst xs)/\Q .AA (upd H l (.lst []))
theorem ZK0:N6 X "list.clear" Xl:=by
 intro Zd s O H x vs v us Q I b c h;obtain⟨l,xs,rfl,rfl,a,q⟩:=h;cases b;have d:=c.zero;subst d;obtain⟨z,A5,n,r,f,e⟩:=I.JL a;refine zJ F.slot_list_clear ⟨_,e,rfl⟩ F.entry_list_clear (F.args_list_clear_1 _) (AutoSeq1.list_clear_list_0 l A5.toArray n (by rw[CA];omega)) ⟨e,?_⟩;exact⟨.AA,_,I.Ow (its':=[]) (ys:=[]) a e rfl .nil (Cf _),rfl,q⟩
def mV:R2:=λx y H Q=>∃l b xs zs,x=.ref l/\y=.ref b/\H l=some (.lst xs)/\H b=some (.lst zs)/\xs.length+zs.length<=sizeLine/\∀p,H p=none->Q (.ref p) (upd H p (.lst (xs++zs)))
theorem Pc:BX X (binaryOp .Add) mV:=by
 intro Zd s O H x y v u Q I c a h;obtain⟨l,b,xs,zs,rfl,rfl,f,g,m,q⟩:=h;cases c;cases a;obtain⟨z,A5,n,r,o,e⟩:=I.JL f;obtain⟨j,Cu,k,d,EA,i⟩:=I.JL g;refine PySem.P.add_list e i ?_ (by rw[CA,CA];omega);have ea:A5.toArray++Cu.toArray=(A5++Cu).toArray:=by simp
 rw[ea];exact⟨.ref _,_,I.d7 (t':=s.toks) (r.append d) (by rw[By];omega),rfl,q _ I.fresh⟩
def jQ:R2:=λx y H Q=>∃l k xs,x=.ref l/\y=.int k/\H l=some (.lst xs)/\-(2 ^ 63)<=k/\k<2 ^ 63/\xs.length * k.toNat<=sizeLine/\
 ∀p,H p=none->Q (.ref p) (upd H p (.lst (List.replicate k.toNat xs).flatten))
theorem len_rep(xs:List α)(k:Nat):(List.replicate k xs).flatten.length=k * xs.length:=by
 induction k with
 |zero=>simp
 |succ k a=>rw[Nj,Ph,By,a,Nat.succ_mul,Nat.add_comm]
theorem zS:BX X (binaryOp .Mult) jQ:=by
 intro Zd s O H x y v u Q I j i h;obtain⟨l,k,xs,rfl,rfl,p,h1,h2,g,q⟩:=h;cases j;obtain⟨t,rfl⟩:=i;obtain⟨z,A5,n,r,o,e⟩:=I.JL p;have b:A5.toArray.size * k.toNat<=sizeLine:=by rw[CA,<- o];exact g
 have f:¬ A5.toArray.size * k.toNat > (2 ^ 63 - 1) / 8:=by
  have:(sizeLine:Nat)<=(2 ^ 63 - 1) / 8:=by decide
  omega
 have w:¬ (!Builtin.List.listFitsIndex k)=true:=by
  rw[fitsIndex_both h1 h2];exact C9
 have A:¬ Builtin.List.listTooLong (A5.toArray.size * k.toNat)=true:=by
  rw[gS b];exact C9
 have B:List.foldl (λd c=>d++c) #[] (List.replicate (if A5.toArray.isEmpty=true then 0 else k.toNat) A5.toArray)=(List.replicate k.toNat A5).flatten.toArray:=by
  have f0:∀m:Nat,List.foldl (λd c=>d++c) #[] (List.replicate m A5.toArray)=(List.replicate m A5).flatten.toArray:=λm=>by
   have:=foldl_rep A5 m [];rw[HM]at this;exact this
  rw[f0];cases A5 with
  |nil=>simp
  |cons a C=>rw[tK (by simp)]
 refine wpAny_binaryOp_repeat_ref (T:="list") (U:="int") (by decide) ⟨_,e,rfl⟩ (λs'=>typeIs_int s' k t) noFill_list_mul F.fills_int_mul F.slot_int_rmul repeat_list F.slot_int_index.lookup
  (zJ F.slot_int_rmul (typeIs_int s k t) F.entry_int_rmul (F.args_int_rmul_2 _ _) (int___rmul___int_list k t l A5.toArray n)
   ⟨e,rfl,⟨_,e,rfl⟩,zJ F.slot_list_mul ⟨_,e,rfl⟩ F.entry_list_mul (F.args_list_mul_2 _ _) (AutoListH.list___mul___list_int_3 l A5.toArray n k t w f A) ⟨e,?_⟩⟩)
 rw[B];exact⟨.ref _,_,I.d7 (t':=s.toks) (r.rep k.toNat) (by rw[len_rep,Nat.mul_comm];exact g),rfl,q _ I.fresh⟩
variable{prog:Program}{w:World}{E:Value->Shared->Prop}
set_option maxRecDepth 100000 in
end
end L2
namespace lY
open PySem.W PySem.Calls
variable{h:Heap}{l:OpenLaw}{n:Nat}{prog q:Program}
theorem ZIH{P:Params}:∀(ns:List Int)(vs:List Value),WellAll P h vs (ns.map WData.int)->IntsAre vs ns:=by
 intro ns
 induction ns with
 |nil=>
  intro vs w;rw[Kn]at w;cases w;exact .nil
 |cons n ns c=>
  intro vs w;rw[B6]at w;cases w with
  |cons a b=>
   cases a;exact .cons _ _ (c _ b)
theorem vK(m:l.most=some n){P:Params}{args:List WData}{vals:List Value}
  (Lo:l.row.toRowW.claim.pre args=true) (Z2:WellAll P h vals args) :
  ∃a vs ns,vals=[Value.ref a]/\args=[WData.list (ns.map WData.int)]/\h.get? a=some { cls:=.type "list", data:=.seq vs.toArray }/\IntsAre vs ns/\ns.length<=n:=by
 have f:WShape.hasAll [] args [.list .int]=true:=(pre_splitW Lo).1;have g:l.pre.holds [] { args:=args }=true:=(pre_splitW Lo).2;obtain⟨d,r,rfl,h1,h2⟩:=hasAllW_cons f;obtain rfl:=hasAllW_nil h2;obtain⟨xs,rfl,o⟩:=hasW_list h1;obtain⟨ns,rfl⟩:=items_int o;have b:ns.length<=n:=by
  unfold OpenLaw.pre at g;have e:(WTm.not (.lt (.lit (.int (n:Int))) (.len (.arg 0)))).holds [] { args:=[.list (ns.map .int)] }=true:=by
   have e:=(holds_andW g).1;rw[m]at e;exact e
  have c:=condW_of e (w_not (w_lt w_lit (w_len_list (w_arg rfl))));rw[AB]at c;refine dw λq=>?_;have k:(n:Int)<((ns.length:Nat):Int):=by omega
  first
   | (rw[uL k]at c;exact absurd c (by decide))
   | (simp at c;omega)
 cases Z2 with
 |cons j i=>
  cases i;cases j with
  |list ho Ku=>exact⟨_,_,ns,rfl,rfl,ho,ZIH ns _ Ku,b⟩
theorem sk(l:OpenLaw)(args:List WData):l.row.toRowW.claim.post args (.bool true) args=true:=
 postW_of (r:=l.row.toRowW) (X:=(true == true))
  (show WShape.has [] (.bool true) .bool=true by first|rfl|decide|simp[WShape.has,WShape.arms,WShape.armsAll])
  (show(WTm.eq .res (.lit (.bool true))).value [] { args:=args,res:=some (.bool true),after:=args }=some (.bool (true == true))from w_eq_bool (w_res rfl) w_lit) rfl
theorem yw{loose:List Str}{XP:(ZLb)->Heap->Prop}{YP:World->Heap->Prop}{d:DefRec}
  (p:l.most=some n) (SG:d.params.defaults=[])
  (call:∀(w:World)(s₀ b:Shared)(mg mb:ZLb)(h:Addr)(o:Obj)(i cd e:Value)(a:Addr)(vs:List Value)(ns:List Int),
   Ground q loose [] XP w s₀ mg mb b.heap->YP w b.heap->
   b.heap.get? h=some o->o.data=.func (docDef d.name d.params d.body d.scope i cd e)->b.heap.CodeRec cd d.name->mg d.name=some (.ref h)->
   b.heap.get? a=some { cls:=.type "list", data:=.seq vs.toArray }->IntsAre vs ns->ns.length<=n->b.gens=#[]->
   codeAny (model l.prog w) callerA (.call (.ref h) ⟨[.ref a],[]⟩) (λr s'=>r=.ok (.ret (.bool true))/\OldK b.heap s'.heap/\s'.os=b.os/\AllBare s'.gens) b) :
  WalkO q loose XP YP l.row.toRowW d [] (λf vs=>PySem.call f vs):=by
 intro w s₀ b mg mb G Y h o i cd e y kV ho hd Fe j RD u args vals as Lo ZLI k Z2 t;obtain rfl:y=.none:=Dflts.none j SG;obtain rfl:kV=.none:=Dflts.noKw j;obtain⟨a,vs,ns,rfl,rfl,Y0,c,g⟩:=vK p Lo Z2;refine enter_call (ZAY (call w s₀ b mg mb h o i cd e a vs ns G Y ho (fd_plain hd) Fe RD Y0 c g u) λr s' m=>?_);obtain⟨rfl,h2,x,v⟩:=m;exact⟨.inl ⟨.bool true,.bool true,[],rfl,λ_=>rfl,.bool true,sk l _,λ_=>⟨List.Pairwise.nil,λ_ s=>(nomatch s)⟩⟩,h2,x,v⟩
end lY
namespace L2
variable{w:World}{mg:ZLb}{fd:FuncData}{qual x:Str}{sp:Sp}{loose ps:List Str}{X:Cx}{f:Addr}{A B:Prop}
theorem nQ:∀{vs:List Value}{ns:List Int},IntsAre vs ns->Vals (ns.map V.int) vs
 |_,_,.nil=>.nil
 |_,_,.cons n t h=>.cons ⟨t,rfl⟩ (nQ h)
def Yl(H:Hp):Prop:=∀b,H b=none∨∃o xs,H b=some (.GK o (.lst xs))
theorem ZIh{P:Program}{K:ZLZ}{mb:ZLb}{CX:Gv}{k:Nat}{y a:Addr}{c:Shared}{vs:List Value}{ns:List Int}
  (KX:K.In c.heap) (P8:c.heap.Ns mainGlobals mg) (f:c.heap.Ns builtinsNs mb) (t:∀x:Str,x ≠"__name__" -> mb x=bootBuiltins x) (ZEO:c.heap.NoLimit) (σ:c.gens=#[])
  (l:c.heap.get? a=some { cls:=.type "list", data:=.seq vs.toArray }) (hi:IntsAre vs ns) (hl:ns.length<=sizeLine) (hr:BP k callerA)
  (F:∀Zp:Heap,K.In Zp->Zp.Ns mainGlobals mg->CU P w K mg Zp CX k y fd [x] sp) (ZIr:∀(s:Shared)(u:Value),BindsTo s fd ⟨[u],[]⟩ [(x,u)])
  (Gq:∀H:Hp,Yl H->AU K H a (ns.map V.int)->sp [.ref a] H (λv _=>v=.bl true) λ_ _ _=>False)
  (Xr:∀H e s',CX [] H c (λ_ _ _=>False) e s'->False) :
  codeAny (model P w) callerA (.call (.ref y) ⟨[.ref a],[]⟩) (λr s'=>r=.ok (.ret (.bool true))/\OldK c.heap s'.heap/\s'.os=c.os/\AllBare s'.gens) c:=by
 have C:=nQ hi;have B:=hi.length
 -- from an abstract heap in ZLY nothing but Ih pf may be tracked
 have g:∀H:Hp,Yl H->AU K H a (ns.map V.int)->Bz P w H c.heap->(∀b,H b≠none->b=a)->(H a≠none->K.lookup a=none)->
   codeAny (model P w) callerA (.call (.ref y) ⟨[.ref a],[]⟩) (λr s'=>r=.ok (.ret (.bool true))/\OldK c.heap s'.heap/\s'.os=c.os/\AllBare s'.gens) c:=by
  intro H G Q AJ I R;have E:∀{b:Addr}{o:Obj},c.heap.get? b=some o->H b=none->(JZ c.heap H).get? b=some o:=λe n=>ZAb e n;have U:∀{b:Addr}{o:Obj}{es:Array DictEntry}{j:Nat},c.heap.get? b=some o->o.data=.dict es j->H b=none:=λ{b o es j}e d=>by
   cases q:H b with
   |none=>rfl
   |some u=>
    have A:b=a:=I b (by rw[q];simp);subst A;rw[l]at e;cases e;have d':Data.seq vs.toArray _=Data.dict es j:=d;cases d'
  have p:∀{b:Addr}{m:ZLb},c.heap.Ns b m->(JZ c.heap H).Ns b m:=λ{b m}AO=>by obtain⟨o,es,j,e,d,r⟩:=AO;exact⟨o,es,j,E e (U e d),d,r⟩
  have D:K.In (JZ c.heap H):=λb o e=>E (KX b o e) (by
   cases q:H b with
   |none=>rfl
   |some u=>
    have A:b=a:=I b (by rw[q];simp);subst A;rw[R (by rw[q];simp)]at e;cases e)
  have hM:Mod K mg (JZ c.heap H):=⟨D,p P8,⟨mb,p f,t⟩,let ⟨mc,h1,h2⟩:=ZEO;⟨mc,p h1,h2⟩⟩;have e0:NZ P w K mg (JZ c.heap H) callerA [] c H:=⟨rfl,hM,λb o e=>ZAK e,rJ (zY _ _),trivial,λb f=>absurd (show b∈([]:List Addr)from f) (by simp),AJ,.of_eq σ⟩;refine ZAY ((F _ D (p P8)).run callerA [] c H ⟨[.ref a],[]⟩ [.ref a] [.ref a] _ _ hr e0 (ZIr c (.ref a)) (.cons rfl .nil) (Gq H G Q)) λr s' h=>?_;cases r with
  |error e=>exact(Xr H e s' h).elim
  |ok S=>
   cases S with
   |next=>exact False.elim h
   |brk=>exact False.elim h
   |cont=>exact False.elim h
   |ret u=>
    obtain⟨v,H',os,bare,un,ZIG,M,q⟩:=h;have N:v=.bl true:=q;subst N;obtain rfl:u=Value.bool true:=M;refine⟨rfl,OldK.of_keep λb o e=>?_,os,bare⟩;cases q:H b with
    |none=>exact un.keep b o e q (by intro z;exact absurd (show b∈([]:List Addr)from z) (by simp)) (by simp)
    |some u=>
     rcases G b with z|⟨ob,xs,z⟩
     .rw[q]at z;cases z
     .have L:=un.Ge b ob _ z;obtain⟨J,_⟩:=AJ b _ z;obtain⟨T,_⟩:=ZIG b _ L;rw[e]at J;cases J;exact T
 cases hk:K.lookup a with
 |some o=>
  -- Ih pf is one of Ih ZLT own objects
  have e:=KX a o hk;rw[l]at e;cases e;refine g (λ_=>none) (λ_=>.inl rfl) (.inr ⟨_,vs.toArray,_,hk,rfl,rfl,rfl,by rw[CA,B];exact hl,by simpa using C⟩) (λb u z=>by have i:(none:Option HO)=some u:=z;cases i) (λb z=>absurd rfl z) λz=>absurd rfl z
 |none=>
  refine g (λb=>if b=a then some (.GK { cls:=.type "list", data:=.seq vs.toArray } (.lst (ns.map V.int)))else none) (λb=>?_) (.inl (.inr ⟨{ cls:=.type "list", data:=.seq vs.toArray },u4 rfl⟩)) (λb u z=>?_) (λb z=>?_) λ_=>hk
  .by_cases f:b=a
   .exact .inr ⟨_,_,u4 f⟩
   .exact .inl (tK f)
  .by_cases f:b=a
   .have i:=(u4 f).symm.trans z;cases i;subst f;exact⟨l,by rw[AB];exact hl,vs,_,C,l⟩
   .have i:=(tK f).symm.trans z;cases i
  .by_cases f:b=a
   .exact f
   .exact absurd (tK f) z
theorem ZJE{l:PySem.W.OpenLaw}{n k:Nat}{q:Program}{XP:(ZLb)->Heap->Prop}{YP:World->Heap->Prop}{d:DefRec}{K:Params->ZLZ}{CX:World->Gv}{sp:World->Sp}
  (t:l.most=some n) (Ea:n<=sizeLine) (SG:d.params.defaults=[]) (r:BP k callerA)
  (A:∀(w:World)(h:Heap),YP w h->(K w.params).In h)
  (F:∀(w:World)(mg:ZLb)(j:Addr)(h:Heap),(K w.params).In h->h.Ns mainGlobals mg->mg d.name=some (.ref j)->
   ∃fd:FuncData,(∀(s:Shared)(u:Value),BindsTo s fd ⟨[u],[]⟩ [(x,u)])/\
    ∀Zp:Heap,(K w.params).In Zp->Zp.Ns mainGlobals mg->CU l.prog w (K w.params) mg Zp (CX w) k j fd [x] (sp w))
  (Gq:∀(w:World)(H:Hp)(a:Addr)(ns:List Int),ns.length<=n->Yl H->AU (K w.params) H a (ns.map V.int)->sp w [.ref a] H (λv _=>v=.bl true) λ_ _ _=>False)
  (Xr:∀(w:World)(H:Hp)(s:Shared)(e:Value)(s':Shared),CX w [] H s (λ_ _ _=>False) e s'->False) :
  PySem.W.WalkO q loose XP YP l.row.toRowW d [] (λf vs=>PySem.call f vs):=by
 refine lY.yw t SG λw s₀ p mg mb j o E cd D a vs ns G Y ho hd Fe RD Y0 i c y=>?_;have m:=A w _ Y;obtain⟨fd,z,hF⟩:=F w mg j _ m G.T.g RD;exact ZIh m G.T.g G.T.b G.T.builtins G.T.nolimit y Y0 i (CB c Ea) r hF z (λH C B=>Gq w H a ns c C B) λH e s'=>Xr w H p e s'
def L7(s:Stmt):Arguments:=match s with
 | .FunctionDef _ a _ _ _ _ _ _ _ _=>a
 |_=>{ posonlyargs:=[],args:=[],vararg:=none,kwonlyargs:=[],kw_defaults:=[],kwarg:=none,defaults:=[] }
def FQ(s:Stmt):List Stmt:=match s with
 | .FunctionDef _ _ b _ _ _ _ _ _ _=>b
 |_=>[]
def AL(s:Stmt):Scope:=match s with
 | .FunctionDef _ _ _ _ _ _ sc _ _ _=>sc
 |_=>{ kind:=.function,names:=[],isGenerator:=false,isCoroutine:=false }
abbrev Dr:Gv:=λ_ _ _ _ _ _=>False
abbrev E0:XK:=λ_ _ _=>False
theorem Tx:Passes Dr X E0:=λ_ _ _ _ _ _ _ h=>h.elim
structure AG (K:ZLZ) (x qual:Str) (st:Stmt) (f:Addr) (fd:FuncData):Prop where
 ex:∃(oc:Value)(od:Option Addr)(kV doc pm:Value)(an:Option Addr)(Af ct:Value)(Jl:Array (Option Value)),
  fd=PySem.W.fnOf x qual (L7 st) (FQ st) (AL st) .none kV doc pm an Af ct/\K.lookup f=some ⟨oc,od,.func fd,Jl⟩/\PySem.W.codeIn K Af qual=true
 kp:PySem.W.keepIn K (.ref f)=true
section
variable{P:Program}{K:ZLZ}{Zp:Heap}
theorem AG.ok{st:Stmt}{N:List Str}{k:Nat}(F:AG K x qual st f fd)(S:Au N ps (AL st))(len:∀vs H Q E,sp vs H Q E->vs.length=ps.length)
  (Mg:∀(Af:Value)(A:Around)(outer:List Env)(s:Shared)(H:Hp)(vs:List V)(Q:VK)(E:XK),BP k (A.deeper (envOfC qual (AL st) s.heap.objs.size f Af))->sp vs H Q E->
   ∃t,Ek (Di Dr P w K mg Zp N qual (AL st) f Af A outer s H E).K3 (FQ st) t/\t { nx:=λ_ H'=>Q .AA H',rt:=Q } (start N vs) H):CU P w K mg Zp Dr (k+1) f fd ps sp:=by
 obtain⟨e,od,kV,c,d,g,Af,ct,Jl,rfl,a,Fe⟩:=F.ex;refine gC a Fe S len λA outer s H vs Q E b Gq=>?_;obtain⟨t,h,q⟩:=Mg Af A outer s H vs Q E b Gq;exact⟨t,h.K3,q⟩
theorem AG.binds{st:Stmt}(F:AG K x qual st f fd)
  (h:∀(kV a b:Value)(c:Option Addr)(Af ct:Value)(us:List Value),us.length=ps.length->bindArgs (PySem.W.fnOf x qual (L7 st) (FQ st) (AL st) .none kV a b c Af ct) ⟨us,[]⟩=pure (ps.zip us)):Binds K fd ps []:=by
 obtain⟨d,od,kV,a,b,c,Af,ct,Jl,rfl,e,Fe⟩:=F.ex;exact .all (h kV a b c Af ct)
theorem ZJp{st:Stmt}{e:Value}{od d:Option Addr}{Jl:Array (Option Value)}{kV a b Af ct:Value}(l:K.lookup f=some ⟨e,od,.func (PySem.W.fnOf x qual (L7 st) (FQ st) (AL st) .none kV a b d Af ct),Jl⟩)
  (c:PySem.W.codeIn K Af qual=true) (k:PySem.W.keepIn K (.ref f)=true):AG K x qual st f (PySem.W.fnOf x qual (L7 st) (FQ st) (AL st) .none kV a b d Af ct):=⟨⟨e,od,kV,a,b,d,Af,ct,Jl,rfl,l,c⟩,k⟩
end
theorem Eb{A:Around}{k:Nat}(a:BP k A):A.units+1<cLine:=Kq (Nat.add_le_add_left (by decide:1<=64) _) a.units
theorem pv(i:Nat){pos:Pos}(a:X.N[i]?=some x:=by rfl)(hv:Qj X.env.scope x:=by first|exact Or.inl rfl|exact Or.inr (Or.inl rfl)|exact Or.inr (Or.inr rfl))(hd:Zq0 x:=by decide)
  (Fe:(x == ("__classdict__":Str))=false:=by decide):PE X (.Name x pos) (Al i):=jz a hv hd Fe
theorem J9(h:B):if false=true then A else B:=by
 rw[tK C9];exact h
theorem Od(h:A):if true=true then A else B:=by
 rw[u4 rfl];exact h
theorem BK{c:Prop}[Decidable c](h1:c->A)(h2:¬ c->B):if c then A else B:=by
 by_cases h:c
 .rw[u4 h];exact h1 h
 .rw[tK h];exact h2 h
def AR(H H':Hp):Prop:=∀b o,H b=some o->H' b=some o
theorem AR.refl(H:Hp):AR H H:=λ_ _ h=>h
theorem AR.trans{H H1 H2:Hp}(a:AR H H1)(b:AR H1 H2):AR H H2:=λc o h=>b c o (a c o h)
end L2
set_option maxHeartbeats 4000000
namespace L2
variable{α κ:Type}{A8:List (List Key×V)}{o:Option V}{u:Value}{v y:V}{w:World}{H H' H1 H2 H4:Hp}{xs:List (List Key×Addr×Value)}{C a acc b it n:Addr}{h h' h1:Heap}{X Y:Cx}{Zd:ZLa}{ws O:St}{s s2 s4:Shared}{A:Around}{E Q:Value->Shared->Prop}{i j n0 t' tk:Nat}{prog:Program}{env:Env}{c e elt tg value:Expr}{Ga pos px py:Pos}{td te tv:TE}{outer scope:Scope}{cl closure:List (Str×Addr)}{qual x z:Str}{ce:Option Str}{es ifs:List Expr}{R:Result->Shared->Prop}{js:List Nat}{tt:TT}{J:It}{tn:Nat->Heap->Prop}{wi:TI}{CW:It->St->Hp->Addr->VK->Prop}{N:List Str}{ys:List V}{A5:List Value}
section
variable[DecidableEq κ]
noncomputable def EX(A8:List (κ×V))(k:κ):Option V:=(A8.find? λa=>decide (a.1=k)).map (·.2)
def putK(A8:List (κ×V))(k:κ)(v:V):List (κ×V):=
 if(A8.any λa=>decide (a.1=k))=true then A8.map (λa=>if a.1=k then(a.1,v)else a)else A8++[(k,v)]
theorem RJ{p:κ×V}{r:List (κ×V)}{k:κ}(e:p.1=k):EX (p::r) k=some p.2:=by simp[EX,SW,e]
theorem Qe{p:κ×V}{r:List (κ×V)}{k:κ}(e:¬ p.1=k):EX (p::r) k=EX r k:=by simp[EX,SW,e]
theorem WD(k:κ):∀A8:List (κ×V),(A8.any λa=>decide (a.1=k))=(EX A8 k).isSome
 | []=>rfl
 |p::r=>by
  rw[Ng]
  by_cases e:p.1=k
  .simp only[RJ e,uL e,Bool.true_or,ZKm]
  .rw[Qe e,vc e,Bool.false_or];exact WD k r
theorem XI(A8:List (κ×V))(k:κ)(v:V):(putK A8 k v).length<=A8.length+1:=by
 unfold putK;split
 .rw[AB];omega
 .rw[By,Ck,Sa];omega
theorem OJ{A8:List (κ×V)}{k:κ}(v:V)(h:EX A8 k=none):putK A8 k v=A8++[(k,v)]:=by
 unfold putK;rw[WD,h];exact tK (by decide)
theorem FY.Qd{u:Option Value}(r:FY o u):o.isSome=u.isSome:=by
 cases o with
 |none=>cases u with
  |none=>rfl
  |some _=>exact(show False from r).elim
 |some _=>cases u with
  |none=>exact(show False from r).elim
  |some _=>rfl
theorem KV.val{A8:List (κ×V)}{vs:List (κ×Value)}(r:KV A8 vs)(k:κ):FY (EX A8 k) (valueAt vs k):=by
 unfold KV at r
 induction r with
 |nil=>exact True.intro
 |@cons p q ps a h t d=>
  obtain⟨h1,h2⟩:=h
  by_cases e:p.1=k
  .have c:q.1=k:=h1.symm.trans e;have b:valueAt (q::a) k=some q.2:=by simp[valueAt,SW,c]
   rw[RJ e,b];exact h2
  .have c:¬ q.1=k:=λz=>e (h1.trans z);have b:valueAt (q::a) k=valueAt a k:=by simp[valueAt,SW,c]
   rw[Qe e,b];exact d
theorem KV.any{A8:List (κ×V)}{vs:List (κ×Value)}(r:KV A8 vs)(k:κ):(A8.any λa=>decide (a.1=k))=vs.any λa=>decide (a.1=k):=by
 unfold KV at r
 induction r with
 |nil=>rfl
 |cons h t b=>rw[Ng,Ng,b,h.1]
theorem KV.YX{A8:List (κ×V)}{vs:List (κ×Value)}(r:KV A8 vs)(k:κ)(b:RelV y u):
  KV (A8.map λa=>if a.1=k then(a.1,y)else a) (vs.map λa=>if a.1=k then(a.1,u)else a):=by
 unfold KV at r ⊢
 induction r with
 |nil=>exact .nil
 |@cons p q ps d h t c=>
  rw[B6,B6];refine .cons ?_ c;obtain⟨h1,h2⟩:=h
  by_cases e:p.1=k
  .rw[u4 e,u4 (h1.symm.trans e)];exact⟨h1,b⟩
  .rw[tK e,tK (λz=>e (h1.trans z))];exact⟨h1,h2⟩
theorem KV.put{A8:List (κ×V)}{vs:List (κ×Value)}(r:KV A8 vs)(k:κ)(a:RelV y u):KV (putK A8 k y) (stored vs k u):=by
 unfold putK stored;rw[r.any k]
 by_cases e:(vs.any λb=>decide (b.1=k))=true
 .rw[u4 e,u4 e];exact r.YX k a
 .rw[tK e,tK e];exact Paired.snoc r ⟨rfl,a⟩
theorem KV.keys{A8:List (κ×V)}{vs:List (κ×Value)}(r:KV A8 vs):A8.map (·.1)=vs.map (·.1):=by
 unfold KV at r
 induction r with
 |nil=>rfl
 |cons h t a=>rw[B6,B6,a,h.1]
theorem KV.length{A8:List (κ×V)}{vs:List (κ×Value)}(r:KV A8 vs):A8.length=vs.length:=rP r
end
theorem OK{P:Program}{k:Key}(r:RelV (kV k) u):(E5 P w).is k u=true:=by
 cases k with
 |inl i=>obtain⟨t,e⟩:=(show ∃t,u=Value.int i t from r);subst e;exact x8 P w i t
 |inr x=>obtain⟨t,e⟩:=(show ∃t,u=Value.str x t from r);subst e;exact ZFA P w x t
theorem qD{P:Program}{w:World}:∀{ks:List Key}{us:List Value},Vals (ks.map kV) us->ItemsAre (E5 P w) ks us
 | [],_,r=>by rw[Kn]at r;cases r;exact .nil
 |k::ks,_,r=>by
  rw[B6]at r;cases r with
  |cons h t=>exact .cons (OK h) (qD t)
abbrev KT(H:Hp):List (List Key×V)->List (List Key×Addr×Value)->Prop:=Paired λp q=>p.1=q.1/\H q.2.1=some (.tup (p.1.map kV))/\RelV p.2 q.2.2
theorem KT.val(r:KT H A8 xs)(k:List Key):FY (EX A8 k) ((atKey xs k).map (·.2)):=by
 induction r with
 |nil=>exact True.intro
 |@cons p q ps a h t d=>
  obtain⟨h1,_,h2⟩:=h
  by_cases e:p.1=k
  .have c:q.1=k:=h1.symm.trans e;have b:atKey (q::a) k=some q.2:=by simp[atKey,SW,c]
   rw[RJ e,b];exact h2
  .have c:¬ q.1=k:=λz=>e (h1.trans z);have b:atKey (q::a) k=atKey a k:=by simp[atKey,SW,c]
   rw[Qe e,b];exact d
theorem KT.YX(r:KT H A8 xs)(k:List Key)(b:RelV y u):
  KT H (A8.map λa=>if a.1=k then(a.1,y)else a) (xs.map (putAt k u)):=by
 induction r with
 |nil=>exact .nil
 |@cons p q ps f h t c=>
  rw[B6,B6];refine .cons ?_ c;obtain⟨h1,h2,d⟩:=h;unfold putAt
  by_cases e:p.1=k
  .rw[u4 e,u4 (h1.symm.trans e)];exact⟨h1,h2,b⟩
  .rw[tK e,tK (λz=>e (h1.trans z))];exact⟨h1,h2,d⟩
theorem KT.put(r:KT H A8 xs)(k:List Key)(d:H b=some (.tup (k.map kV)))(a:RelV y u):
  KT H (putK A8 k y) (storedH xs k b u):=by
 have e:(A8.any λc=>decide (c.1=k))=(atKey xs k).isSome:=by
  rw[WD,(r.val k).Qd,eB]
 unfold putK storedH;rw[e]
 by_cases q:(atKey xs k).isSome=true
 .rw[u4 q,u4 q];exact r.YX k a
 .rw[tK q,tK q];exact Paired.snoc r ⟨rfl,d,a⟩
theorem KT.keeps(r:KT H A8 xs)(a:∀b ys,H b=some (.tup ys)->H' b=some (.tup ys)):KT H' A8 xs:=
 Paired.Xo r λ_ _ z=>⟨z.1,a _ _ z.2.1,z.2.2⟩
section
variable{P:Program}
theorem iQ{u:HO}(ok:Bz P w H h)(e:Rd H a u):CL P w H h a u:=e.ok ok
theorem Nn{A8:List (Key×V)}(ok:Bz P w H h)(e:Rd H a (.dK A8)):A8.length<=sizeLine/\(a == sysModules)=false/\∃vs,KV A8 vs/\h.DictOf (E5 P w) a vs:=
 show CL P w H h a (.dK A8)from iQ ok e
theorem jS{A8:List (Key×V)}(ok:Bz P w H h)(e:H a=some (.dK A8)):A8.length<=sizeLine/\(a == sysModules)=false/\∃vs,KV A8 vs/\h.DictOf (E5 P w) a vs:=Nn ok (.inl e)
theorem Pu{ks:List Key}(ok:Bz P w H h)(e:H a=some (.tup (ks.map kV))):(tupleKind (E5 P w)).is h ks a:=by
 obtain⟨_,A5,r,⟨o,h1,h2,n,b⟩,_⟩:=(show CL P w H h a (.tup (ks.map kV))from ok a _ e);exact⟨o,A5.toArray,n,h1,h2,b,by simpa using qD r⟩
theorem SD(ok:Bz P w H h)(e:Rd H a (.dT A8)):A8.length<=sizeLine/\(a == sysModules)=false/\
  ∃xs,KT H A8 xs/\h.DictOfH (tupleKind (E5 P w)) a xs:=by
 obtain⟨z,y,xs,r,o,es,i,h1,h2,g,f,d⟩:=(show CL P w H h a (.dT A8)from iQ ok e);refine⟨z,y,xs,r,o,es,i,h1,h2,g,f,λx hx=>?_,d⟩;have all:∀{l:List (List Key×V)}{m:List (List Key×Addr×Value)},KT H l m->∀x∈m,(tupleKind (E5 P w)).is h x.1 x.2.1:=by
  intro l m q
  induction q with
  |nil=>intro x hx;exact nomatch hx
  |@cons p q ps j b t c=>
   intro x hx;rcases List.mem_cons.mp hx with e|hx
   .subst e;exact Pu ok (by rw[<- b.1];exact b.2.1)
   .exact c x hx
 exact all r x hx
theorem ZFY(ok:Bz P w H h)(e:H a=some (.dT A8)):A8.length<=sizeLine/\(a == sysModules)=false/\
  ∃xs,KT H A8 xs/\h.DictOfH (tupleKind (E5 P w)) a xs:=SD ok (.inl e)
end
def FZ(H:Hp)(a:Addr)(y:V)(r:Option V):Prop:=
 (∃A8 k,Rd H a (.dK A8)/\y=kV k/\r=EX A8 k)∨∃A8 k b,Rd H a (.dT A8)/\y=.ref b/\H b=some (.tup (k.map kV))/\r=EX A8 k
def LD(H:Hp)(a:Addr)(y v:V)(H':Hp):Prop:=
 (∃A8 k,H a=some (.dK A8)/\y=kV k/\A8.length<sizeLine/\H'=upd H a (.dK (putK A8 k v)))∨
 ∃A8 k b,H a=some (.dT A8)/\y=.ref b/\H b=some (.tup (k.map kV))/\A8.length<sizeLine/\H'=upd H a (.dT (putK A8 k v))
theorem FZ.k{A8:List (Key×V)}{k:Key}(e:H a=some (.dK A8)):FZ H a (kV k) (EX A8 k):=.inl ⟨A8,k,.inl e,rfl,rfl⟩
theorem FZ.t{k:List Key}(e:H a=some (.dT A8))(c:H b=some (.tup (k.map kV))):FZ H a (.ref b) (EX A8 k):=.inr ⟨A8,k,b,.inl e,rfl,c,rfl⟩
theorem LD.k{A8:List (Key×V)}{k:Key}(e:H a=some (.dK A8))(b:A8.length<sizeLine):LD H a (kV k) v (upd H a (.dK (putK A8 k v))):=.inl ⟨A8,k,e,rfl,b,rfl⟩
theorem LD.t{k:List Key}(e:H a=some (.dT A8))(d:H b=some (.tup (k.map kV)))(c:A8.length<sizeLine):
  LD H a (.ref b) v (upd H a (.dT (putK A8 k v))):=.inr ⟨A8,k,b,e,rfl,d,c,rfl⟩
section
variable{r:Value}
theorem Inv.big(I:Inv X Zd O H s):sysModules<s.heap.objs.size:=by
 have h:mainGlobals<s.heap.objs.size:=(I.mod.glob.keeps I.bk).lt;exact rL (by decide) h
theorem tM(i:A.units+1<cLine)(I:Inv X Zd O H s)(g:FZ H a y (some v))(f:RelV y u)(h:∀c s',Inv X Zd O H s'->RelV v c->Q c s'):
  wpAny (model X.prog X.w) A (getItem (.ref a) u) Q E s:=by
 rcases g with⟨A8,k,e,d,l⟩|⟨A8,k,b,e,d,m,l⟩
 .subst d;obtain⟨z,hd,vs,rel,dd⟩:=Nn I.AJ e;obtain⟨c,hw,HF⟩:=FY.some_of (v:=v) (o:=valueAt vs k) (by rw[l];exact rel.val k);exact wpAny_getItem_of (OK f) dd.mapOf hw (h c _ (I.tok _) HF)
 .subst d;cases(show u=Value.ref b from f);obtain⟨z,hd,xs,rel,dd⟩:=SD I.AJ e;obtain⟨c,hw,HF⟩:=FY.some_of (v:=v) (o:=(atKey xs k).map (·.2)) (by rw[l];exact rel.val k)
  obtain⟨p,j,TV⟩:=Option.map_eq_some_iff.mp hw;refine wpAny_getItem_heap (ZAU i) (Pu I.AJ m) dd j ?_;rw[TV];exact h c _ (I.tok _) HF
theorem ZHr(f:A.units+1<cLine)(I:Inv X Zd O H s)(g:FZ H a y o)(d:RelV y u)(h:∀s',Inv X Zd O H s'->Q (.bool o.isSome) s'):
  wpAny (model X.prog X.w) A (compareOp .In u (.ref a)) Q E s:=by
 rcases g with⟨A8,k,e,c,l⟩|⟨A8,k,b,e,c,i,l⟩
 .subst c;obtain⟨z,hd,vs,rel,dd⟩:=Nn I.AJ e;refine wpAny_in_of (OK d) hd dd.mapOf ?_;rw[<- (rel.val k).Qd,<- l];exact h _ (I.tok _)
 .subst c;cases(show u=Value.ref b from d);obtain⟨z,hd,xs,rel,dd⟩:=SD I.AJ e;refine wpAny_in_heap (ZAU f) (Pu I.AJ i) hd dd ?_;have q:=(rel.val k).Qd;rw[eB]at q;rw[<- q,<- l];exact h _ (I.tok _)
theorem xF(f:A.units+1<cLine)(I:Inv X Zd O H s)(g:FZ H a y o)(d:RelV y u)(h:∀s',Inv X Zd O H s'->Q (.bool (!o.isSome)) s'):
  wpAny (model X.prog X.w) A (compareOp .NotIn u (.ref a)) Q E s:=by
 rcases g with⟨A8,k,e,c,l⟩|⟨A8,k,b,e,c,i,l⟩
 .subst c;obtain⟨z,hd,vs,rel,dd⟩:=Nn I.AJ e;refine wpAny_notIn_of (OK d) hd dd.mapOf ?_;rw[<- (rel.val k).Qd,<- l];exact h _ (I.tok _)
 .subst c;cases(show u=Value.ref b from d);obtain⟨z,hd,xs,rel,dd⟩:=SD I.AJ e;refine wpAny_notIn_heap (ZAU f) (Pu I.AJ i) hd dd ?_;have q:=(rel.val k).Qd;rw[eB]at q;rw[<- q,<- l];exact h _ (I.tok _)
theorem b5{ob:HO}(I:Inv X Zd O H s)(c:Nl (H a))(d:Heap.SameBut a s.heap h')(f:∃q,h'.get? a=some q)(new:CL X.prog X.w (upd H a ob) h' a ob):
  Inv X Zd O (upd H a ob) { s with heap:=h',toks:=t' }:=
 I.write (x:=a) (e:=a) c (.inl rfl) (λb q g z=>(d.2 b g).trans z) f new
theorem qW{P:Program}{A8:List (Key×V)}{vs:List (Key×Value)}(z:A8.length<=sizeLine)(hd:(a == sysModules)=false)(rel:KV A8 vs)(dd:h'.DictOf (E5 P w) a vs):
  CL P w H' h' a (.dK A8):=⟨z,hd,vs,rel,dd⟩
theorem tW{Q:Unit->Shared->Prop}(B:A.units+1<cLine)(I:Inv X Zd O H s)(g:LD H a y v H')(o:RelV y u)(p:RelV v r)(h:∀s',Inv X Zd O H' s'->Q () s'):
  wpAny (model X.prog X.w) A (setItem (.ref a) u r) Q E s:=by
 rcases g with⟨A8,k,e,m,l,n⟩|⟨A8,k,b,e,m,x,l,n⟩
 .subst m n;obtain⟨z,hd,vs,rel,dd⟩:=jS I.AJ e;have f:vs.length<=sizeLine:=by rw[<- rel.length];exact z
  have j:(putK A8 k v).length<=sizeLine:=by have:=XI A8 k v;omega
  refine wpAny_setItem_pairs (hsz:=f) (OK o) dd λh' MN i=>h _ ?_;have C:∃q,h'.get? a=some q:=let ⟨q,_,_,d,_⟩:=MN;⟨q,d⟩;exact b5 I (by rw[e];exact True.intro) i C (qW j hd (rel.put k p) MN)
 .subst m n;cases(show u=Value.ref b from o);obtain⟨z,hd,xs,rel,dd⟩:=ZFY I.AJ e;have f:xs.length<=sizeLine:=by rw[<- rP rel];exact z
  have j:(putK A8 k v).length<=sizeLine:=by have:=XI A8 k v;omega
  refine wpAny_setItem_heap (hsz:=f) (ZAU B) (Pu I.AJ x) dd λh' MN i=>h _ ?_;obtain⟨q,es,J,d,h2,G,F,_,D⟩:=MN;refine b5 I (by rw[e];exact True.intro) i ⟨q,d⟩ ⟨j,hd,_,(rel.put k x p).keeps λc ys t=>?_,q,es,J,d,h2,G,F,D⟩;rw[AW (tE t e (λz=>nomatch z))];exact t
variable{A8:List (Key×V)}{k:Key}
end
def ah(i:Expr):Prop:=∀a b,subscripted i false a b=operate [a,b] (getItem a b)
theorem ZB0{a:Expr}{T id:String}
  (m:typeLookup (.type T) "__getitem__"=pure (some (.builtin id))) (l:ah a)
  (h:wpAny (model prog w) A (eval value env) (λo f=>wpAny (model prog w) A (eval a env) (λi c=>c.TypeIs o T/\wpAny (model prog w) A (getItem o i) Q E c) E f) E s) :
  wpAny (model prog w) A (eval (.Subscript value a pos) env) Q E s:=by
 refine Subscript_ (vo h (λo f k=>vo k (λi c d=>?_) λ_ _ x=>x) λ_ _ x=>x);obtain⟨g,d⟩:=d;unfold subscriptTail;refine ra ?_;rw[getitemInPython_of_ne g.not_modules];refine ra (wpAny_specialOf g m ?_);have b:wpAny (model prog w) A (subscripted a false o i) (λr e=>wpAny (model prog w) A (letTemporaryGo value o r >>= λ_=>pure r) Q E e) E c:=by
  rw[l o i];exact wpAny_operating (vo d (λr e j=>ra (wpAny_letTemporaryGo (uz j))) λ_ _ x=>x)
 first
  |exact uz (ra b)
  |exact ra (uz (ra b))
  |exact ra b
theorem zH(I:Inv X Zd O H s)(g:FZ H a y o):s.TypeIs (.ref a) "dict" := by
 rcases g with⟨A8,k,e,_,_⟩|⟨A8,k,b,e,_,_,_⟩
 .obtain⟨_,_,vs,_,dd⟩:=Nn I.AJ e;exact dd.typeIs
 .obtain⟨_,_,xs,_,dd⟩:=SD I.AJ e;exact dd.typeIs
def U8(td ty:TE):TE:=λO H Q=>td O H λx H1=>ty O H1 λy H2=>∃a v,x=.ref a/\FZ H2 a y (some v)/\Q v H2
def V2(ty td:TE):TE:=λO H Q=>ty O H λy H1=>td O H1 λx H2=>∃a o,x=.ref a/\FZ H2 a y o/\Q (.bl o.isSome) H2
def So(ty td:TE):TE:=λO H Q=>ty O H λy H1=>td O H1 λx H2=>∃a o,x=.ref a/\FZ H2 a y o/\Q (.bl (!o.isSome)) H2
def Ut(td ty tv:TE):TS:=λD O H=>tv O H λv H1=>td O H1 λx H2=>ty O H2 λy H3=>∃a H4,x=.ref a/\LD H3 a y v H4/\D.nx O H4
section
variable{o i:Expr}{pos' K4:Pos}{ty:TE}
theorem uB(j:X.A.units+1<cLine)(hi:PE X i ty)(ho:PE X o td):PC X .In i o (V2 ty td):=by
 intro Zd s O H Q I h;refine hi.k I h λn m y H1 I1 b e=>ho.k I1 e λu s2 x H2 I2 c⟨a,f,ex,g,d⟩=>?_;subst ex;obtain rfl:u=Value.ref a:=c;exact ZHr j I2 g b λl I3=>⟨.bl f.isSome,H2,I3,rfl,d⟩
theorem ZBG(j:X.A.units+1<cLine)(hi:PE X i ty)(ho:PE X o td):PC X .NotIn i o (So ty td):=by
 intro Zd s O H Q I h;refine hi.k I h λn m y H1 I1 b e=>ho.k I1 e λu s2 x H2 I2 c⟨a,f,ex,g,d⟩=>?_;subst ex;obtain rfl:u=Value.ref a:=c;exact xF j I2 g b λl I3=>⟨.bl (!f.isSome),H2,I3,rfl,d⟩
end
theorem fb{P:Program}(h:Heap)(a:sysModules<h.objs.size):CL P w H (h.push { cls:=.type "dict", data:=.dict #[] }) h.objs.size (.dK []):=
 ⟨Cf _,beq_eq_false_iff_ne.mpr (BO (Cn a)),[],.nil,Heap.DictOf.new h⟩
theorem ZFB{P:Program}(h:Heap)(a:sysModules<h.objs.size):CL P w H (h.push { cls:=.type "dict", data:=.dict #[] }) h.objs.size (.dT []):=
 ⟨Cf _,beq_eq_false_iff_ne.mpr (BO (Cn a)),[],.nil,_,#[],0,CY _ rfl,⟨rfl,rfl,rfl⟩,rfl,rfl,HN⟩
def aA:TE:=λ_ H Q=>∀p,H p=none->Q (.ref p) (upd H p (.dK []))
def XY:TE:=λ_ H Q=>∀p,H p=none->Q (.ref p) (upd H p (.dT []))
def Yy:List (TE×TE)->St->Hp->(List (V×V)->Hp->Prop)->Prop
 | [],_,H,Q=>Q [] H
 | (tk,tv)::r,O,H,Q=>tk O H λx H1=>tv O H1 λy H2=>Yy r O H2 λps H3=>Q ((x,y)::ps) H3
abbrev VV:List (V×V)->List (Value×Value)->Prop:=Paired λp q=>RelV p.1 q.1/\RelV p.2 q.2
def Kz(X:Cx)(pos:Pos)(keys:List (Option Expr))(values:List Expr)(GC:List (TE×TE)):Prop:=
 ∀(Zd:ZLa)(s:Shared)(O:St)(H:Hp)(Q:List (V×V)->Hp->Prop),Inv X Zd O H s->Yy GC O H Q->
  Zq2 X (evalPairs (pairTrees keys values X.env pos)) (λvs s'=>∃ps H',Inv X Zd O H' s'/\VV ps vs/\Q ps H') X.xe s
theorem ZAd:Kz X pos [] [] []:=λZd s O H Q I h=>pairTrees_nil_walk ⟨[],H,I,.nil,h⟩
theorem ZDy{k v:Expr}{ks:List (Option Expr)}{vs:List Expr}{tk:TE}{GC:List (TE×TE)}(hk:PE X k tk)(f:PE X v tv)(g:Kz X pos ks vs GC):
  Kz X pos (some k::ks) (v::vs) ((tk,tv)::GC):=λZd s O H Q I h=>
 pairTrees_cons_walk (hk.k I h λu l x H1 I1 b e=>f.k I1 e λi s2 y H2 I2 a d=>
  Ay (g Zd s2 O H2 _ I2 d) λws j⟨ps,H3,I3,rel,c⟩=>⟨(x,y)::ps,H3,I3,.cons ⟨b,a⟩ rel,c⟩)
def Lf(A8 more:List (Key×V)):List (Key×V):=more.foldl (λacc a=>putK acc a.1 a.2) A8
theorem KV.merge:∀{more:List (Key×V)}{a:List (Key×Value)}{A8:List (Key×V)}{vs:List (Key×Value)},KV more a->KV A8 vs->KV (Lf A8 more) (merged vs a):=by
 intro more a A8 vs r;unfold KV at r
 induction r generalizing A8 vs with
 |nil=>intro q;exact q
 |@cons p q ps d h t c=>
  intro b;have e:KV (putK A8 p.1 p.2) (stored vs q.1 q.2):=by
   have:=b.put p.1 h.2;rw[<- h.1];exact this
  exact c e
theorem mx:∀(more A8:List (Key×V)),(Lf A8 more).length<=A8.length+more.length
 | [],A8=>by show A8.length<=A8.length+0;omega
 |p::r,A8=>by
  have h1:=mx r (putK A8 p.1 p.2);have h2:=XI A8 p.1 p.2;show(Lf (putK A8 p.1 p.2) r).length<=_;rw[Ck];omega
theorem fE{P:Program}{w:World}:∀{A8:List (Key×V)}{ws:List (Value×Value)},VV (A8.map λe=>(kV e.1,e.2)) ws->∃d,Carries (E5 P w) ws d/\KV A8 d
 | [],_,r=>by rw[Kn]at r;cases r;exact⟨[],True.intro,.nil⟩
 |p::A8,_,r=>by
  rw[B6]at r;cases r with
  |@cons a b as bs h t=>
   obtain⟨d,c,q⟩:=fE (P:=P) (w:=w) t;obtain⟨g,f⟩:=b;exact⟨(p.1,f)::d,⟨OK h.1,rfl,c⟩,.cons ⟨rfl,h.2⟩ q⟩
def Yz(GC:List (TE×TE)):TE:=λO H Q=>∀p,H p=none->Yy GC O (upd H p (.dK [])) λps H2=>H2 p=some (.dK [])/\∃A8:List (Key×V),ps=A8.map (λa=>(kV a.1,a.2))/\A8.length<=15/\Q (.ref p) (upd H2 p (.dK (Lf [] A8)))
theorem zh{β:Type}{l:List α}{f:α->β->Sem (ForInStep β)}(g:β->α->β)(h:∀x∈l,∀c,f x c=pure (.yield (g c x))):∀c,forIn l c f=pure (l.foldl g c):=by
 induction l with
 |nil=>intro c;rfl
 |cons x l a=>
  intro c;rw[qy,h x Fh,pure_bind];exact a (λy b=>h y (E2 _ b)) (g c x)
noncomputable def NM(cells:List (Str×Addr))(cs:List (Str×Addr))(x:Str×NameKind):List (Str×Addr):=
 if x.2=.free then(x.1,(cells.lookup x.1).getD 0)::cs else cs
def C0(cells:List (Str×Addr))(names:List (Str×NameKind)):List (Str×Addr):=names.foldl (NM cells) []
theorem wI(h:∀x∈scope.names,x.2=.free->(env.cells.lookup x.1).isSome=true):closureFor scope env=pure (C0 env.cells scope.names):=by
 simp only[closureFor];rw[zh (NM env.cells) (λx hx c=>by
  obtain⟨n,k⟩:=x;unfold NM
  by_cases hk:k=NameKind.free
  .subst hk;have q:=h _ hx rfl;obtain⟨a,e⟩:=Option.isSome_iff_exists.mp q;have b:env.cells.lookup n=some a:=e;have d:cellOf env n=pure a:=by unfold cellOf;rw[b]
   simp[d,b]
  .have:(k == NameKind.free)=false:=by simpa using hk
   simp[this,hk])]
 rfl
theorem gW{cells:List (Str×Addr)}:∀(names:List (Str×NameKind))(acc:List (Str×Addr)),(∀y∈names,y.2=.free->(cells.lookup y.1).isSome=true)->
  (∀x c,acc.lookup x=some c->cells.lookup x=some c)->∀x c,(names.foldl (NM cells) acc).lookup x=some c->cells.lookup x=some c
 | [],acc,_,ha,x,c,e=>ha x c e
 | (n,k)::r,acc,hs,ha,x,c,e=>by
  rw[qw]at e;refine gW r _ (λy d=>hs y (E2 _ d)) (λx c e=>?_) x c e;unfold NM at e
  by_cases hk:k=NameKind.free
  .rw[u4 hk]at e;have q:=hs _ Fh hk;obtain⟨a,q⟩:=Option.isSome_iff_exists.mp q;have b:cells.lookup n=some a:=q;rw[Hs]at e
   by_cases hx:x=n
   .subst hx;simp only[zE,b,Option.getD_some]at e;rw[b,<- e]
   .have f:(x == n)=false:=by simpa using hx
    rw[f]at e;exact ha x c e
  .rw[tK hk]at e;exact ha x c e
theorem aI{cells:List (Str×Addr)}{x:Str}:∀(names:List (Str×NameKind))(acc:List (Str×Addr)),((acc.lookup x).isSome=true∨(x,NameKind.free)∈names)->
  ((names.foldl (NM cells) acc).lookup x).isSome=true
 | [],acc,h=>by
  rcases h with h|h
  .exact h
  .cases h
 | (n,k)::r,acc,h=>by
  rw[qw];refine aI r _ ?_;unfold NM;rcases h with h|h
  .refine .inl ?_;split
   .rw[Hs];split
    .rfl
    .exact h
   .exact h
  .rcases List.mem_cons.mp h with e|h
   .cases e;refine .inl ?_;rw[u4 rfl,Hs];simp
   .exact .inr h
theorem VD{env:Env}:∀(names:List (Str×NameKind))(x:Str),
  (names.map λ(n,k)=>if(k == NameKind.free && env.scope.kind == .function && env.kindOf n == some .cell)then(n,NameKind.cell)else(n,k)).lookup x =
   (names.lookup x).map λk=>if(k == NameKind.free && env.scope.kind == .function && env.kindOf x == some .cell)then NameKind.cell else k
 | [],x=>rfl
 | (n,k)::r,x=>by
  have c:=VD (env:=env) r x;rw[B6]
  by_cases a:(k == NameKind.free && env.scope.kind == .function && env.kindOf n == some .cell)=true
  .show List.lookup x ((if(k == NameKind.free && env.scope.kind == .function && env.kindOf n == some .cell)=true then(n,NameKind.cell)else(n,k))::_)=_
   rw[u4 a,Hs,Hs]
   by_cases hx:x=n
   .subst hx;simp only[zE,eD];rw[u4 a]
   .have b:(x == n)=false:=by simpa using hx
    rw[b];exact c
  .show List.lookup x ((if(k == NameKind.free && env.scope.kind == .function && env.kindOf n == some .cell)=true then(n,NameKind.cell)else(n,k))::_)=_
   rw[tK a,Hs,Hs]
   by_cases hx:x=n
   .subst hx;simp only[zE,eD];rw[tK a]
   .have b:(x == n)=false:=by simpa using hx
    rw[b];exact c
noncomputable abbrev G4(X:Cx)(N:List Str)(scope:Scope)(cl:List (Str×Addr))(C:Addr)(s:Shared)(H:Hp)(fp:List Addr):Cx:=
 { X with N:=N,s₀:=s,H₀:=H,env:=compEnvC scope cl C X.env,outer:=X.stack,ex:=fp,fn:=λ_=>false,pn:=[],xe:=λ_ _=>False }
def Bh(js:List Nat)(O:St):St:=js.map λj=>(O[j]?).join
structure Cs (N:List Str) (outer scope:Scope) (x:Str) (AN:List Str) (js:List Nat):Prop where
 kind:scope.kind=.function
 N4:∀y∈scope.names,y.2≠.cell
 loc:∀y∈scope.names,y.2=.local->scope.names.lookup y.1=some .local
 J0:scope.names.lookup x=some .local
 at':js.map (λj=>N[j]?)=AN.map some
 cell:∀y∈AN,outer.names.lookup y=some .cell
 free:∀y∈AN,scope.names.lookup y=some .free
 all:∀y∈scope.names,y.2=.free->outer.names.lookup y.1=some .cell
 nd:(AN++[x]).Nodup
def Hv(X:Cx)(ifs:List Expr)(t:TT):Prop:=
 ∀(Zd:ZLa)(s:Shared)(O:St)(H:Hp)(Q:Bool->Hp->Prop),Inv X Zd O H s->t O H Q->
  Zq2 X (forIn ifs true λc r=>if r=true then do let ok <- isTrue c X.env (eval c X.env);pure (ForInStep.yield ok)else pure (ForInStep.yield r)) (TP X Zd O Q) X.xe s
def QZ:TT:=λ_ H Q=>Q true H
theorem ZHd{t:TT}(d:PT X c t):Hv X [c] t:=λZd s O H Q I h=>by
 rw[qy];refine ra ?_;rw[u4 rfl];refine ra (Ay (d Zd s O H Q I h) λb a q=>uz ?_);show wpAny _ _ (forIn [] b _) _ _ a;rw[du];exact uz q
def MJ(J:It)(js:List Nat)(tt:TT)(te:TE)(O:St)(H1:Hp)(acc:Addr)(Q:VK):Prop:=
 ∃W:Nat->Nat->Hp->Prop,(∃m,W 0 m (upd H1 acc (.lst [])))/\∀i m H2,W i m H2->
  (J.stop i H2/\Q (.ref acc) H2)∨(J.go i H2/\∀x H3,J.FT i H2 x H3->tt (Bh js O++[some x]) H3 λb H4=>
   if b=true then te (Bh js O++[some x]) H4 λy H5=>∃ys,H5 acc=some (.lst ys)/\ys.length<sizeLine/\∃a,a < m/\W (i+1) a (upd H5 acc (.lst (ys++[y])))
   else ∃a,a < m/\W (i+1) a H4)
def KL(wi:TI)(js:List Nat)(tt:TT)(te:TE):TE:=λO H Q=>wi O H λJ H1=>∀acc,H1 acc=none->MJ J js tt te O H1 acc Q
theorem ZH2(l:List α)(a b:α):(l++[a]).set l.length b=l++[b]:=by
 induction l with
 |nil=>rfl
 |cons x l c=>simp[c]
noncomputable def JN:Option Str->Addr->List (Str×Addr)
 |none,_=>[]
 |some x,n=>[(x,n)]
def TC:Option Str->Heap->Heap
 |none,h=>h
 |some _,h=>h.push { cls:=.type "cell", data:=.cell none }
structure Ft (N:List Str) (outer scope:Scope) (ce:Option Str) (zs AN:List Str) (js:List Nat):Prop where
 kind:scope.kind=.function
 loc:∀y∈scope.names,y.2=.local->scope.names.lookup y.1=some .local
 one:∀y∈scope.names,y.2=.cell->ce=some y.1
 sub:∀x,ce=some x->x∈zs
 cf:∀(n:Nat)(cl:List (Str×Addr)),cellsFrom n scope.names cl=JN ce n++cl
 pc:∀h:Heap,pushCells h scope.names=TC ce h
 at':js.map (λj=>N[j]?)=AN.map some
 cell:∀y∈AN,outer.names.lookup y=some .cell
 free:∀y∈AN,scope.names.lookup y=some .free
 all:∀y∈scope.names,y.2=.free->outer.names.lookup y.1=some .cell
 nd:(AN++zs).Nodup
abbrev G8(X:Cx)(N:List Str)(scope:Scope)(ce:Option Str)(cl:List (Str×Addr))(C:Addr)(s:Shared)(H:Hp)(fp:List Addr):Cx:=
 { X with N:=N,s₀:=s,H₀:=H,env:=compEnvC scope (JN ce (C+1)++cl) C X.env,outer:=X.stack,ex:=fp,fn:=λy=>ce == some y,pn:=[],xe:=λ_ _=>False }
theorem ZDQ{M:Model}{a:Addr}{b:Option Addr}{c:Value}{outer:Env}{Q:Env->Shared->Prop}
  (cf:∀(n:Nat)(cl:List (Str×Addr)),cellsFrom n scope.names cl=JN ce n++cl) (pc:∀h:Heap,pushCells h scope.names=TC ce h)
  (d:Q (newEnv scope s.heap.objs.size a (JN ce (s.heap.objs.size+1)++closure) qual b c (some outer) builtinsNs) { s with heap:=TC ce (s.heap.push { cls:=.type "dict", data:=.dict #[] }) }) :
  wpAny M A (newFunctionEnv scope a closure [] qual b c (some outer)) Q E s:=by
 simp only[newFunctionEnv,ZKm,ZB6];refine ra (wpAny_alloc ?_);refine ra (wpAny_layCells _ (λname kind cells=>by cases e:kind == NameKind.cell <;> simp[e]) _ _ _ _ ?_)
 rw[cf,pc];rw[show({ s with heap:=s.heap.push { cls:=.type "dict", data:=.dict #[] } }:Shared).heap.objs.size=s.heap.objs.size+1 from Iq ..]
 refine ra ?_;rw[du];exact uz (uz d)
theorem ZIP{y:Str}{c:Addr}(h:(JN ce n++cl).lookup y=some c):(ce=some y/\c=n)∨(ce≠some y/\cl.lookup y=some c):=by
 cases ce with
 |none=>exact .inr ⟨λz=>(by cases z),h⟩
 |some x=>
  have h:((x,n)::cl).lookup y=some c:=h;rw[Hs]at h
  by_cases e:y=x
  .subst e;simp only[zE]at h;exact .inl ⟨rfl,(Be h).symm⟩
  .have a:(y == x)=false:=by simpa using e
   rw[a]at h;exact .inr ⟨λz=>e (Be z).symm,h⟩
theorem n6{y:Str}(h:ce≠some y):(JN ce n++cl).lookup y=cl.lookup y:=by
 cases ce with
 |none=>rfl
 |some x=>
  show((x,n)::cl).lookup y=_;have a:(y == x)=false:=beq_eq_false_iff_ne.mpr λz=>h (by rw[z]);rw[Hs,a]
theorem ZIF:(JN (some x) n++cl).lookup x=some n:=by
 show((x,n)::cl).lookup x=_;rw[Hs,zE]
theorem uf{iter:Expr}{it acc:Value}(I:Nat->Shared->Prop)
  (a:∀n s,I n s->wpAny (model prog w) A (pyNext it) (λr d=>match r with
   |none=>R (.ok .next) d
   |some v=>wpAny (model prog w) A (letOwnedTupleGo tg it v) (λ_ s2=>wpAny (model prog w) A (assign tg env v) (λ_ i=>
     wpAny (model prog w) A (forIn ifs true λc r=>if r=true then do let ok <- isTrue c env (eval c env);pure (ForInStep.yield ok)else pure (ForInStep.yield r)) (λok s4=>if ok=true then
      wpAny (model prog w) A (eval elt env) (λx g=>wpAny (model prog w) A (call (.builtin "list.append") [acc,x]) (λ_ f=>∃m,m<n/\I m f) (notedBy (model prog w) A env λe s'=>R (.error e) s') g) (notedBy (model prog w) A env λe s'=>R (.error e) s') s4
      else ∃m,m<n/\I m s4) (notedBy (model prog w) A env λe s'=>R (.error e) s') i)
     (notedBy (model prog w) A env λe s'=>R (.error e) s') s2) (notedBy (model prog w) A env λe s'=>R (.error e) s') d) (notedBy (model prog w) A env λe s'=>R (.error e) s') s)
  (n:Nat) (h:I n s):codeAny (model prog w) A (.compLoop (.ListComp elt [⟨tg,iter,ifs,0⟩] scope pos) 0 it acc env) R s:=by
 refine codeAny_loop rfl I (λn s q=>(show wpAny _ A ((compTurn (.ListComp elt [⟨tg,iter,ifs,0⟩] scope pos) 0 it acc env).onRaise (λx=>do noteFrame x env;theTreesLotGoes x)) _ _ s from wpAny_noted ?_)) n h
 rw[compTurn_list];refine ra (ZAj (ra (vo (a n s q) (λr d j=>?_) λ_ _ z=>z)));cases r with
 |none=>exact uz j
 |some v=>
  refine ra (vo j (λ_ s2 p=>ra (vo p (λ_ i o=>ra (vo o (λok s4 b=>?_) λ_ _ z=>z)) λ_ _ z=>z)) λ_ _ z=>z);cases ok with
  |false=>
   rw[tK (by decide)]at b;exact ra (uz (uz ⟨rfl,b⟩))
  |true=>
   rw[u4 rfl]at b;exact ra (ra (vo b (λx g l=>ra (vo l (λ_ f k=>uz (uz ⟨rfl,k⟩)) λ_ _ z=>z)) λ_ _ z=>z))
abbrev YG(tt:TT)(te:TE)(acc:Addr)(W:Nat->Nat->Hp->Prop)(i m:Nat)(O:St)(H:Hp):Prop:=
 tt O H λb H4=>if b=true then te O H4 λy H5=>∃ys,H5 acc=some (.lst ys)/\ys.length<sizeLine/\∃m',m' < m/\W (i+1) m' (upd H5 acc (.lst (ys++[y])))
  else ∃m',m' < m/\W (i+1) m' H4
def Pw(g:TG)(n:Nat)(J:It)(js:List Nat)(tt:TT)(te:TE)(O:St)(H1:Hp)(acc:Addr)(Q:VK):Prop:=
 ∃W:Nat->Nat->Hp->Prop,(∃m,W 0 m (upd H1 acc (.lst [])))/\∀i m H2,W i m H2->
  (J.stop i H2/\Q (.ref acc) H2)∨(J.go i H2/\∀x H3,J.FT i H2 x H3->∀ws,ws.length=n->g x (Bh js O++ws) H3 λσ8 H8=>∃us,us.length=n/\σ8=Bh js O++us/\YG tt te acc W i m σ8 H8)
def ju(CW:It->St->Hp->Addr->VK->Prop)(wi:TI):TE:=λO H Q=>wi O H λJ H1=>∀acc,H1 acc=none->CW J O H1 acc Q
section
variable{iter:Expr}{zs AN:List Str}{fp:List Addr}{g:TG}
theorem ZBU(h:scope.names.lookup x=some .cell):(relabel scope env).names.lookup x=some .cell:=by
 refine(VD (env:=env) scope.names x).trans ?_;rw[h];simp
theorem ZE3{n:Nat}(h:(List.replicate n (none:Option V))[i]?=some (some v)):False:=by
 rw[qz]at h
 by_cases c:i<n
 .rw[u4 c]at h;cases h
 .rw[tK c]at h;cases h
theorem zy(S:Ft X.N X.env.scope scope ce zs AN js)(I3:Inv X Zd O H2 s2)(F:∀b∈fp,Fs X Zd H2 b)(L:∀b∈fp,b<s2.heap.objs.size)
  {m:ZLb}(P8:h1.Ns s2.heap.objs.size m) (A:∀b o,s2.heap.get? b=some o->h1.get? b=some o) (E:∀x,ce=some x->h1.IsCell (s2.heap.objs.size+1) none) :
  Inv (G8 X (AN++zs) scope ce (C0 X.env.cells scope.names) s2.heap.objs.size s2 H2 fp) [] (Bh js O++List.replicate zs.length none) H2 { s2 with heap:=h1,toks:=t' }:=by
 have K:∀y∈scope.names,y.2=.free->(X.env.cells.lookup y.1).isSome=true:=λy g hk=>by
  obtain⟨c,e⟩:=I3.ok.has y.1 (.inl (S.all y g hk));rw[e];rfl
 have R:∀y c,(C0 X.env.cells scope.names).lookup y=some c->X.env.cells.lookup y=some c:=gW scope.names [] K (λ_ _ e=>by cases e);have σ:∀y k,(relabel scope X.env).names.lookup y=some k->k=.cell∨k=.free->scope.names.lookup y=some .free∨ce=some y:=λy k e hk=>by
  have t:=(VD (env:=X.env) scope.names y).symm.trans e;cases q:scope.names.lookup y with
  |none=>rw[q]at t;cases t
  |some k0=>
   rw[q]at t;cases k0 with
   |free=>exact .inl rfl
   |cell=>exact .inr (S.one _ (Nk q) rfl)
   |_=>simp at t;rcases hk with rfl|rfl <;> cases t
 have n:js.length=AN.length:=by have:=wH List.length S.at';simpa using this
 have M:∀y c,X.env.cells.lookup y=some c->c<s2.heap.objs.size:=λy c e=>by
  obtain⟨v,o,ho,_⟩:=I3.cell y c e;exact BE ho
 have f:∀c v,s2.heap.IsCell c v->h1.IsCell c v:=λc v AO=>by obtain⟨o,ho,hd⟩:=AO;exact⟨o,A c o ho,hd⟩
 have B:∀y c,(JN ce (s2.heap.objs.size+1)++C0 X.env.cells scope.names).lookup y=some c->(ce=some y/\c=s2.heap.objs.size+1)∨(ce≠some y/\X.env.cells.lookup y=some c):=λy c e=>(ZIP e).imp id λz=>⟨z.1,R y c z.2⟩;have T:∀y∈AN,ce≠some y:=λy g z=>(List.nodup_append.mp S.nd).2.2 y g y (S.sub y z) rfl;refine⟨⟨I3.ok.mod,S.kind,I3.ok.glob,I3.ok.blt,B0 _,λy z c J D=>?_,λy g=>?_,λy c I e=>?_,I3.ok.hd,I3.ok.frames,.inl rfl,λb s=>⟨Cn (L b s),λy c e=>?_⟩,
  λb o e=>I3.bs b o e,CB I3.ok.Ho I3.sz,λb o e s=>?_,λb s W=>?_,I3.stack,I3.U5⟩,rfl,I3.bare,Un.kept A,⟨m,P8,λi y v J D e3=>?_⟩,λy c e=>?_,I3.AJ.fresh (B0 _),λy c e=>?_,λp Y=>(by cases Y),I3.AJ.kept A,?_⟩
 .rcases B y c J with⟨a1,rfl⟩|⟨_,J2⟩
  .rcases B z _ D with⟨a2,_⟩|⟨_,K0⟩
   .exact Be (a1.symm.trans a2)
   .exact absurd (M z _ K0) (ZKj (JW _))
  .rcases B z c D with⟨_,rfl⟩|⟨_,K0⟩
   .exact absurd (M y _ J2) (ZKj (JW _))
   .exact I3.ok.inj y z c J2 K0
 .have I:scope.names.lookup y=some .free∨ce=some y:=g.elim (λg=>σ y _ g (.inl rfl)) λg=>σ y _ g (.inr rfl);show ∃c,List.lookup y (JN ce (s2.heap.objs.size+1)++C0 X.env.cells scope.names)=some c
  by_cases ex:ce=some y
  .rw[ex];exact⟨_,ZIF⟩
  .rw[n6 ex];exact Option.isSome_iff_exists.mp (aI scope.names [] (.inr (Nk (I.resolve_right ex))))
 .rcases B y c e with⟨_,rfl⟩|⟨V,_⟩
  .exact JW _
  .exact absurd (eq_of_beq I) V
 .rcases B y c e with⟨_,rfl⟩|⟨_,J2⟩
  .exact Lx (ZKi (L b s))
  .exact(F b s).2.2.2.2.1 y c J2
 .rcases(F b s).2.2.2.1 with z|z
  .exact I3.ok.Kw b o e z
  .exact absurd (EE (EE (BE e) I3.ok.Ho) z) (Lv _)
 .rcases List.mem_cons.mp (I3.RE b W)with z|z
  .exact(F b s).2.1 z
  .exact(F b s).2.2.1 z
 .have E:(Bh js O).length=AN.length:=by unfold Bh;rw[AB,n]
  have hi:i<AN.length:=by
   by_cases hi:i<AN.length
   .exact hi
   .have d:(Bh js O++List.replicate zs.length none)[i]?=some (some v):=D;rw[G5 (by rw[E];omega),E]at d;exact(ZE3 d).elim
  have G:AN[i]?=some y:=by
   have G:(AN++zs)[i]?=some y:=J
   rwa [EW hi]at G
  have d:(Bh js O)[i]?=some (some v):=by
   have d:(Bh js O++List.replicate zs.length none)[i]?=some (some v):=D
   rwa [EW (by rw[E];exact hi)]at d
  have C:y∈AN:=C7 G;unfold Bh at d;rw[Ax]at d;cases H:js[i]? with
  |none=>rw[H]at d;cases d
  |some j=>
   rw[H]at d;have hN:X.N[j]?=some y:=by
    have q:=wH (λl=>l[i]?) S.at';simp only[Ax,H,G,eD]at q;exact Be q
   have hσ:O[j]?=some (some v):=by
    simp only[eD,Option.some.injEq]at d;cases q:O[j]? with
    |none=>rw[q]at d;cases d
    |some w=>rw[q]at d;simp at d;rw[d]
   obtain⟨m0,Z,U⟩:=I3.loc;obtain⟨u,r,l⟩:=U j y v hN hσ (.inr (.inl (S.cell y C)));refine⟨u,r,?_⟩;rcases l with⟨k,_⟩|⟨_,c,e,z⟩
   .have P:X.env.scope.names.lookup y=some .local:=k;rw[S.cell y C]at P;cases P
   .have aw:X.env.kindOf y=some .cell:=S.cell y C;have hk:(relabel scope X.env).names.lookup y=some .cell:=by
     refine(VD (env:=X.env) scope.names y).trans ?_;rw[S.free y C];simp[I3.ok.kind,aw]
    obtain⟨c',t⟩:=Option.isSome_iff_exists.mp (aI (cells:=X.env.cells) scope.names [] (.inr (Nk (S.free y C))));have Q:=R y c' t;rw[e]at Q;cases Q;exact .inr ⟨.inl hk,c,(n6 (T y C)).trans t,f c _ z⟩
 .rcases B y c e with⟨a,rfl⟩|⟨_,J2⟩
  .exact⟨none,E _ a⟩
  .obtain⟨v,z⟩:=I3.cell y c J2;exact⟨v,f c v z⟩
 .rcases B y c e with⟨_,rfl⟩|⟨_,J2⟩
  .exact I3.AJ.fresh (JW _)
  .exact I3.Eu y c J2
 .show(Bh js O++List.replicate zs.length none).length=(AN++zs).length;unfold Bh;simp[n]
theorem sZ(j:Y.prog=X.prog)(hw:Y.w=X.w)(U:Y.K=X.K)(hA:Y.A=X.A)(B:Y.xe=λ_ _=>False)(S:Y.calm=true)
  (hg:PG Y tg g) (DE:Hv Y ifs tt) (DL:PE Y elt te)
  (T:Turn X.prog X.w X.K tg J fp it tn) (uP:∀b∈fp,Y.Ok->Fs Y [] (λ_=>none) b)
  (W:Nat->Nat->Hp->Prop) (Q:VK)
  (h:∀i m H2,W i m H2->(J.stop i H2/\Q (.ref acc) H2)∨(J.go i H2/\∀x H3,J.FT i H2 x H3->∀ws,ws.length=n0->g x (Bh js O++ws) H3 λσ8 H8=>∃us,us.length=n0/\σ8=Bh js O++us/\YG tt te acc W i m σ8 H8))
  (I4:Inv Y [] (Bh js O++ws) H4 s4) (VS:tn 0 s4.heap) (H:∀b∈fp,H4 b=none) (P:Nat) (w4:W 0 P H4)
  (C:ws.length=n0) (hR:∀H' s' ws,Inv Y [] (Bh js O++ws) H' s'->Q (.ref acc) H'->R (.ok .next) s') :
  codeAny (model X.prog X.w) X.A (.compLoop (.ListComp elt [⟨tg,iter,ifs,0⟩] scope pos) 0 (.ref it) (.ref acc) Y.env) R s4:=by
 have AJ:=I4.ok;have I:∀{H':Hp},(∀b∈fp,H' b=none)->∀b∈fp,Fs Y [] H' b:=λhn b c=>⟨hn b c,(uP b c AJ).2⟩;rw[<- j,<- hw,<- hA];have k:∀{Z:Value->Shared->Prop}v s,Y.xe v s->Z v s:=λv s z=>by rw[B]at z;exact z.elim
 refine uf (λn s'=>∃i ws H',ws.length=n0/\Inv Y [] (Bh js O++ws) H' s'/\tn i s'.heap/\(∀b∈fp,H' b=none)/\W i n H') ?_ P ⟨0,ws,H4,C,I4,VS,H,w4⟩;rintro n N⟨i,V,H5,D,I5,Nw,Uj,w5⟩;rcases h i n H5 w5 with⟨stop,q⟩|⟨go,step⟩
 .have d:=T.done Y j hw U S i [] N _ H5 (λ_ _=>False) I5 (I Uj) Nw stop;rw[<- j,<- hw]at d;refine vo d (λr M⟨E,I6⟩=>?_) λ_ _ z=>z.elim;subst E;exact hR H5 M V I6 q
 .have d:=T.item Y j hw U S i [] N _ H5 (λ_ _=>False) I5 (I Uj) Nw go;rw[<- j,<- hw]at d;refine vo d (λr M⟨u,E,h6⟩=>?_) λ_ _ z=>z.elim;subst E;refine vo h6 (λ_ L⟨v,H7,I7,r7,y7,ZO,G⟩=>?_) λ_ _ z=>z.elim;have vn:=I7.pinned (I G) (T.obj _ _ ZO);refine vo (hg _ L _ H7 v u _ vn r7 (step v H7 y7 V D)) (λ_ s8⟨σ8,H8,I8,us,MZ,e8,vk⟩=>?_) k;subst e8;have a:∀{σa:St}{Ha:Hp}{sa:Shared},Inv Y ([]++S8 fp L.heap) σa Ha sa->tn (i+1) sa.heap/\(∀b∈fp,Ha b=none):=λ{σa Ha sa}Ia=>by
   refine⟨T.keep _ _ _ ZO λb c o e=>(Ia.pin (b,o) (GQ _ (GQ _ (UO c e)))).1,λb c=>?_⟩;obtain⟨o,e,d⟩:=T.obj _ _ ZO b c;exact(Ia.pin (b,o) (GQ _ (GQ _ (UO c e)))).2.1
  refine vo (DE _ s8 _ H8 _ I8 vk) (λb s9⟨H9,I9,t⟩=>?_) k;cases b with
  |false=>
   have p:∃f,f < n/\W (i+1) f H9:=t;obtain⟨f,F,w9⟩:=p;rw[tK (by decide)];exact⟨f,F,i+1,_,H9,MZ,I9.Rz,(a I9).1,(a I9).2,w9⟩
  |true=>
   rw[u4 rfl];rw[u4 rfl]at t;refine vo (DL _ s9 _ H9 _ I9 t) (λyv J5⟨y,σ,xD,zl,ys,BI,hz,f,F,l⟩=>?_) k;refine vo (l4 (X:=Y) _ J5 _ σ (.ref acc) [y] (.ref acc) [yv] (λ_ gD=>gD=upd σ acc (.lst (ys++[y]))) xD rfl (.cons zl .nil) ⟨acc,ys,y,rfl,rfl,BI,hz,rfl⟩)
    (λ_ JX⟨_,gD,Yf,_,t4⟩=>?_) k
   subst t4;exact⟨f,F,i+1,_,_,MZ,Yf.Rz,(a Yf).1,(a Yf).2,l⟩
theorem ka{RR:Value->Addr->Result->Shared->Prop}(σ:X.calm=true)(S:Ft X.N X.env.scope scope ce zs AN js)
  (M:∀C s H,PG (G8 X (AN++zs) scope ce (C0 X.env.cells scope.names) C s H fp) tg g)
  (DE:∀C s H,Hv (G8 X (AN++zs) scope ce (C0 X.env.cells scope.names) C s H fp) ifs tt) (DL:∀C s H,PE (G8 X (AN++zs) scope ce (C0 X.env.cells scope.names) C s H fp) elt te)
  (T:Turn X.prog X.w X.K tg J fp it tn) (I2:Inv X Zd O H2 s2) (LF:tn 0 s2.heap) (y:∀b∈fp,Fs X Zd H2 b) (Q:VK) (P:∀acc,H2 acc=none->Pw g zs.length J js tt te O H2 acc Q)
  (F:∀acc C H' s' m,Inv X Zd O H' s'->Fs X Zd H' C->s'.heap.Ns C m->Q (.ref acc) H'->RR (.ref acc) C (.ok .next) s') :
  Zq2 X (newList []) (λacc a=>Zq2 X (newFunctionEnv scope X.env.globals (C0 X.env.cells scope.names) [] X.env.qual none .none (some X.env)) (λv s4=>
   codeAny (model X.prog X.w) X.A (.compStart (.ListComp elt [⟨tg,iter,ifs,0⟩] scope pos) 0 (.ref it) acc { v with scope:=relabel scope X.env }) (RR acc v.locals) s4) E a) E s2:=by
 refine ZAG (ZDQ S.cf S.pc ?_);have j:Inv X Zd O (upd H2 s2.heap.objs.size (.lst [])) { s2 with heap:=s2.heap.push { cls:=.type "list", data:=.seq ([]:List Value).toArray } }:=I2.d7 (t':=s2.toks) .nil (Cf _)
 have B:∀b∈fp,b<s2.heap.objs.size:=λb c=>by
  obtain⟨o,e,_⟩:=T.obj _ _ LF b c;exact BE e
 have hsz:(s2.heap.push { cls:=.type "list", data:=.seq ([]:List Value).toArray }).objs.size=s2.heap.objs.size+1:=Iq ..;have f:∀b∈fp,Fs X Zd (upd H2 s2.heap.objs.size (.lst [])) b:=λb c=>⟨by rw[AW (Cn (B b c))];exact(y b c).1,(y b c).2⟩;generalize k:({ s2 with heap:=s2.heap.push { cls:=.type "list", data:=.seq ([]:List Value).toArray } }:Shared)=a at j ⊢
 have u:a.heap=s2.heap.push { cls:=.type "list", data:=.seq ([]:List Value).toArray }:=by rw[<- k]
 have l:∀b∈fp,b<a.heap.objs.size:=λb c=>by rw[u,hsz];exact ZKi (B b c)
 generalize t:TC ce (a.heap.push { cls:=.type "dict", data:=.dict #[] })=h1;have r:∀b o,(a.heap.push { cls:=.type "dict", data:=.dict #[] }).get? b=some o->h1.get? b=some o:=λb o e=>by
  rw[<- t];cases ce with
  |none=>exact e
  |some _=>exact Bo _ e
 have i:∀b o,a.heap.get? b=some o->h1.get? b=some o:=λb o e=>r b o (Bo _ e);have n:∀b o,s2.heap.get? b=some o->h1.get? b=some o:=λb o e=>i b o (by rw[u];exact Bo _ e);have R:h1.Ns a.heap.objs.size (λ_=>none):=(Heap.Ns.new a.heap (.type "dict")).keeps r;have U:∀x,ce=some x->h1.IsCell (a.heap.objs.size+1) none:=λx hx=>by
  subst hx;rw[<- t];have e:(a.heap.push { cls:=.type "dict", data:=.dict #[] }).objs.size=a.heap.objs.size+1:=Iq ..;exact⟨_,by rw[<- e];exact CY _ rfl,rfl⟩
 have V:=zy S j f l R i U (t':=a.toks);have z:tn 0 h1:=T.keep _ _ _ LF λb _ o e=>n b o e;obtain⟨W,⟨G,D⟩,h⟩:=P s2.heap.objs.size (I2.AJ.fresh (B0 _));have d:codeAny (model X.prog X.w) X.A (.compLoop (.ListComp elt [⟨tg,iter,ifs,0⟩] scope pos) 0 (.ref it) (.ref s2.heap.objs.size) (compEnvC scope (JN ce (a.heap.objs.size+1)++C0 X.env.cells scope.names) a.heap.objs.size X.env))
   (RR (.ref s2.heap.objs.size) a.heap.objs.size) { a with heap:=h1 }:=by
  refine sZ (X:=X) (Y:=G8 X (AN++zs) scope ce (C0 X.env.cells scope.names) a.heap.objs.size a (upd H2 s2.heap.objs.size (.lst [])) fp) (acc:=s2.heap.objs.size) (Q:=Q) rfl rfl rfl rfl rfl σ (M _ _ _) (DE _ _ _) (DL _ _ _) T (λb c ok=>⟨rfl,(ok.MY b c).1,ok.LY b c,.inl c,(ok.MY b c).2,λp I=>by cases I⟩) W h V z (λb c=>(f b c).1) G D (rC ..) λH' s' w I' q=>?_;obtain⟨m,L,_⟩:=I'.loc;exact F _ _ H' s' m (j.ZBP (ch:=fp) I'.os I'.base I'.AJ I'.bare λb c=>⟨(f b c).2.2.2.1,(f b c).2.1,(f b c).2.2.2.2.1,(f b c).2.2.2.2.2⟩) (j.MB (B0 _) I'.free) L q
 exact codeAny_compStart_list d (T.self X.A 0 _ _ _ z d)
theorem iR(S:Ft X.N X.env.scope scope ce zs AN js)(I:Inv X Zd O H s):closureFor scope X.env=pure (C0 X.env.cells scope.names):=wI λy a hk=>by
 obtain⟨c,e⟩:=I.ok.has y.1 (.inl (S.all y a hk));rw[e];rfl
theorem bX(l:∀J O H1 acc Q,CW J O H1 acc Q->Pw g zs.length J js tt te O H1 acc Q)(i:X.calm=true)(S:Ft X.N X.env.scope scope ce zs AN js)(hi:PI X tg iter wi)
  (f:∀fp C s H,PG (G8 X (AN++zs) scope ce (C0 X.env.cells scope.names) C s H fp) tg g)
  (DE:∀fp C s H,Hv (G8 X (AN++zs) scope ce (C0 X.env.cells scope.names) C s H fp) ifs tt) (DL:∀fp C s H,PE (G8 X (AN++zs) scope ce (C0 X.env.cells scope.names) C s H fp) elt te)
  (c:∀v,foldedSetIterable iter X.env v=pure v):PE X (.ListComp elt [⟨tg,iter,ifs,0⟩] scope pos) (ju CW wi):=by
 intro Zd s O H Q I h;rw[eval_ListComp];refine wpAny_comprehension_free (use:=none) rfl c (iR S I) S.kind S.loc (Ay (hi Zd s O H _ I h) λv p h1=>Ay h1 λVm s2 h2=>?_);obtain⟨it,fp,tn,J,H2,e,I2,T,LF,n,hw⟩:=h2;subst e;refine ka (RR:=λacc C=>compPost (model X.prog X.w) X.A X.xe none (EP X Zd O Q) acc C) i S (f fp) (DE fp) (DL fp) T I2 LF n Q (λacc k=>l _ _ _ _ _ (hw acc k)) λacc C H' s' m I' a d q=>⟨m,d,λh' Zl=>?_⟩;exact⟨.ref acc,H',I'.turned (t':=s'.toks) (λb o j e=>(Zl.2 b j).trans e) a.1 a.2.1 a.2.2.2.1 a.2.2.2.2.1 a.2.2.2.2.2,rfl,q⟩
theorem oH(B:∀J O H1 acc Q,CW J O H1 acc Q->Pw g zs.length J js tt te O H1 acc Q){y:Str}(E:X.N.Nodup)(Cq:X.N[i]?=some y)(k:Loc X.env.scope y)(u:X.calm=true)(S:Ft X.N X.env.scope scope ce zs AN js)(hi:PI X tg iter wi)
  (r:∀fp C s H,PG (G8 X (AN++zs) scope ce (C0 X.env.cells scope.names) C s H fp) tg g)
  (DE:∀fp C s H,Hv (G8 X (AN++zs) scope ce (C0 X.env.cells scope.names) C s H fp) ifs tt) (DL:∀fp C s H,PE (G8 X (AN++zs) scope ce (C0 X.env.cells scope.names) C s H fp) elt te)
  (K7:swapsWith (.ListComp elt [⟨tg,iter,ifs,0⟩] scope pos) (some (.Name y py)) Ga.line X.env=pure true)
  (t:X.fn y=true∨X.env.scope.names.lookup y=some .local)
  (l:∀v,foldedSetIterable iter X.env v=pure v):PS X (.Assign [.Name y py] (.ListComp elt [⟨tg,iter,ifs,0⟩] scope pos) Ga) (Ez (ju CW wi) (D2 i)):=by
 intro Zd s O H D I h;rw[exec_Assign_Name_used _ _ _ _ K7];refine ra (ZAj (ra ?_));show wpAny _ X.A (do let _ <- comprehension (.ListComp elt [⟨tg,iter,ifs,0⟩] scope pos) scope X.env _ (newList []) false (eval iter X.env) (some (assign (.Name y py) X.env))) _ _ s
 refine ra (vo (wpAny_comprehension_free (use:=some (assign (.Name y py) X.env)) (Q:=λ_ s'=>SP X Zd D .next s') rfl l (iR S I) S.kind S.loc
  (Ay (hi Zd s O H _ I h) λv K h1=>Ay h1 λVm s2 h2=>?_)) (λ_ s' n=>uz (uz n)) λ_ _ e=>e)
 obtain⟨it,fp,tn,J,H2,e,I2,T,LF,F,hw⟩:=h2;subst e;refine ka (RR:=λacc C=>compPost (model X.prog X.w) X.A X.xe (some (assign (.Name y py) X.env)) (λ_ s'=>SP X Zd D .next s') acc C) u S (r fp) (DE fp) (DL fp) T I2 LF F _ (λacc d=>B _ _ _ _ _ (hw acc d)) λacc C H' s' m I' c p q=>?_;show wpAny _ X.A (assign (.Name y py) X.env (.ref acc)) _ _ s';refine wpAny_assign_Name (XD (v:=.ref acc) I' E Cq k rfl (λS6 f⟨a,j,d⟩=>?_) t);have G:C≠a:=by
  rcases d with z|z
  .rw[z];exact c.2.1
  .exact(c.2.2.2.2.1 y a z).symm
 refine⟨m,p.sameBut j G,λh' Zl=>?_⟩;exact⟨_,H',f.turned (t':=S6.toks) (λb o x e=>(Zl.2 b x).trans e) c.1 c.2.1 c.2.2.2.1 c.2.2.2.2.1 c.2.2.2.2.2,q⟩
theorem eJ{n:Nat}{cl:List (Str×Addr)}:∀{names:List (Str×NameKind)},(∀y∈names,y.2≠.cell)->cellsFrom n names cl=cl
 | [],_=>rfl
 | (x,k)::r,h=>by
  have hk:(k == NameKind.cell)=false:=beq_eq_false_iff_ne.mpr (h _ Fh);rw[cellsFrom,hk];exact eJ λy a=>h y (E2 _ a)
theorem mO{a:Heap}:∀{names:List (Str×NameKind)},(∀y∈names,y.2≠.cell)->pushCells a names=a
 | [],_=>rfl
 | (x,k)::r,h=>by
  have hk:(k == NameKind.cell)=false:=beq_eq_false_iff_ne.mpr (h _ Fh);rw[pushCells,hk];exact mO λy b=>h y (E2 _ b)
theorem Ft.j8(kind:scope.kind=.function)(N4:∀y∈scope.names,y.2≠.cell)(loc:∀y∈scope.names,y.2=.local->scope.names.lookup y.1=some .local)
  (at':js.map (λj=>N[j]?)=AN.map some) (cell:∀y∈AN,outer.names.lookup y=some .cell) (free:∀y∈AN,scope.names.lookup y=some .free)
  (all:∀y∈scope.names,y.2=.free->outer.names.lookup y.1=some .cell) (nd:(AN++zs).Nodup):Ft N outer scope none zs AN js:=
 ⟨kind,loc,λy a e=>absurd e (N4 y a),λx e=>(by cases e),λn cl=>eJ N4,λh=>mO N4,at',cell,free,all,nd⟩
theorem Ft.len(S:Ft N outer scope ce zs AN js)(O:St):(Bh js O).length=AN.length:=by
 unfold Bh;rw[AB];have:=wH List.length S.at';simpa using this
theorem ZZ(S:Ft N outer scope ce [x] AN js)(J:It)(O:St)(H1:Hp)(acc:Addr)(Q:VK)(h:MJ J js tt te O H1 acc Q):Pw (D2 AN.length) 1 J js tt te O H1 acc Q:=by
 obtain⟨W,a,h⟩:=h;refine⟨W,a,λi m H2 w=>(h i m H2 w).imp id λz=>⟨z.1,λx H3 y ws hw=>?_⟩⟩
 match ws,hw with
 | [w],_=>
  have e:(Bh js O++[w]).set AN.length (some x)=Bh js O++[some x]:=by rw[<- S.len O];exact ZH2 _ _ _
  exact⟨[some x],rfl,e,by rw[e];exact z.2 x H3 y⟩
theorem bQ(S:Ft X.N X.env.scope scope ce [x] AN js)(hx:scope.names.lookup x=some .local∨(ce=some x/\scope.names.lookup x=some .cell)):
  PG (G8 X (AN++[x]) scope ce cl C s H fp) (.Name x px) (D2 AN.length):=
 YE S.nd (by simp) (hx.imp (λh=>ZAL h) λh=>ZBU h.2) (hx.symm.imp (λh=>by show(ce == some x)=true;rw[h.1];exact zE _) λh=>ZAL h)
inductive Jg:List Str->List Expr->Prop
 |nil:Jg [] []
 |cons {x:Str}{zs:List Str}{p:Pos}{es:List Expr}:Jg zs es->Jg (x::zs) (.Name x p::es)
def P2(i:Nat):Nat->Ip
 | 0=>S9
 |n+1=>LK (D2 i) (P2 (i+1) n)
theorem jP{Q:St->Hp->Prop}{H:Hp}:∀{us:List V}{l ws:St},ws.length=us.length->Q (l++us.map some) H->P2 l.length us.length us (l++ws) H Q
 | [],l,ws,h,q=>by
  rw[List.length_eq_zero_iff.mp h];exact⟨rfl,q⟩
 |u::us,l,w::ws,h,q=>by
  refine⟨u,us,rfl,?_⟩;show P2 (l.length+1) us.length us ((l++w::ws).set l.length (some u)) H Q;have e:(l++w::ws).set l.length (some u)=(l++[some u])++ws:=by
   rw[List.set_append_right _ _ (B0 _),e9];simp
  have el:l.length+1=(l++[some u]).length:=by simp
  rw[e,el];refine jP (l:=l++[some u]) (by simpa using h) ?_
  rw[C6];exact q
theorem kz{X:Cx}(a:X.N.Nodup):∀{zs:List Str}{es:List Expr}{i:Nat},Jg zs es->(∀(j:Nat)x,zs[j]?=some x->X.N[i+j]?=some x/\Loc X.env.scope x/\X.env.scope.names.lookup x=some .local)->OL X es (P2 i zs.length)
 |_,_,_,.nil,_=>eN
 |_,_,i,.cons (x:=x) (zs:=zs) r,h=>by
  obtain⟨h1,h2,c⟩:=h 0 _ rfl;refine kQ (YE a h1 h2 (.inr c)) (kz a r λj y b=>?_);have:=h (j+1) y b
  rwa [show i+(j+1)=i+1+j by omega]at this
def Ss(K:ZLZ)(n:Nat)(J:It)(js:List Nat)(tt:TT)(te:TE)(O:St)(H1:Hp)(acc:Addr)(Q:VK):Prop:=
 ∃W:Nat->Nat->Hp->Prop,(∃m,W 0 m (upd H1 acc (.lst [])))/\∀i m H2,W i m H2->
  (J.stop i H2/\Q (.ref acc) H2)∨(J.go i H2/\∀x H3,J.FT i H2 x H3->∃a us,x=.ref a/\BW K H3 a us/\us.length=n/\YG tt te acc W i m (Bh js O++us.map some) H3)
theorem iX{K:ZLZ}(S:Ft N outer scope ce zs AN js)(J:It)(O:St)(H1:Hp)(acc:Addr)(Q:VK)(h:Ss K zs.length J js tt te O H1 acc Q):Pw (O8 K zs.length (P2 AN.length zs.length)) zs.length J js tt te O H1 acc Q:=by
 obtain⟨W,d,h⟩:=h;refine⟨W,d,λi m H2 w=>(h i m H2 w).imp id λz=>⟨z.1,λx H3 y ws hw=>?_⟩⟩;obtain⟨a,us,e,c,b,q⟩:=z.2 x H3 y;refine⟨a,us,e,c,b,?_⟩;rw[<- b,<- S.len O];exact jP (by rw[hw,b]) ⟨us.map some,AB ..,rfl,q⟩
theorem i7{tp:Pos}(c:X.calm=true)(S:Ft X.N X.env.scope scope ce zs AN js)(J0:∀x∈zs,scope.names.lookup x=some .local)(KI:Jg zs es)(Hh:∀e,(assignEach es e).length=zs.length)(Ea:∀e,(assignEach es e).findIdx? (·.1)=none):
  PG (G8 X (AN++zs) scope ce cl C s H fp) (.Tuple es tk tp) (O8 X.K zs.length (P2 AN.length zs.length)):=
 kU (X:=G8 X (AN++zs) scope ce cl C s H fp) c (kz S.nd (i:=AN.length) KI λj y b=>by
  have a:=C7 b;exact⟨by show(AN++zs)[AN.length+j]?=_;rw[G5 (by omega),Nat.add_sub_cancel_left];exact b,.inl (ZAL (J0 y a)),ZAL (J0 y a)⟩) (Hh _) (Ea _)
theorem Cs.G(S:Cs N outer scope x AN js):Ft N outer scope none [x] AN js:=.j8 S.kind S.N4 S.loc S.at' S.cell S.free S.all S.nd
theorem ZAZ(b:X.calm=true)(S:Cs X.N X.env.scope scope x AN js)(hi:PI X (.Name x px) iter wi)
  (DE:∀fp C s H,Hv (G4 X (AN++[x]) scope (C0 X.env.cells scope.names) C s H fp) ifs tt) (DL:∀fp C s H,PE (G4 X (AN++[x]) scope (C0 X.env.cells scope.names) C s H fp) elt te)
  (a:∀v,foldedSetIterable iter X.env v=pure v:=by intro _;rfl):PE X (.ListComp elt [⟨.Name x px,iter,ifs,0⟩] scope pos) (KL wi js tt te):=
 bX (CW:=λJ O H1 acc Q=>MJ J js tt te O H1 acc Q) (ZZ S.G) b S.G hi (λ_ _ _ _=>bQ S.G (.inl S.J0)) DE DL a
theorem ZHh{y:Str}(c:X.N.Nodup)(Cq:X.N[i]?=some y)(a:Loc X.env.scope y)(b:X.calm=true)(S:Cs X.N X.env.scope scope x AN js)(hi:PI X (.Name x px) iter wi)
  (DE:∀fp C s H,Hv (G4 X (AN++[x]) scope (C0 X.env.cells scope.names) C s H fp) ifs tt) (DL:∀fp C s H,PE (G4 X (AN++[x]) scope (C0 X.env.cells scope.names) C s H fp) elt te)
  (K7:swapsWith (.ListComp elt [⟨.Name x px,iter,ifs,0⟩] scope pos) (some (.Name y py)) Ga.line X.env=pure true:=by rfl)
  (hf:X.fn y=true∨X.env.scope.names.lookup y=some .local:=by first|exact .inl rfl|exact .inr rfl|assumption)
  (hs:∀v,foldedSetIterable iter X.env v=pure v:=by intro _;rfl):PS X (.Assign [.Name y py] (.ListComp elt [⟨.Name x px,iter,ifs,0⟩] scope pos) Ga) (Ez (KL wi js tt te) (D2 i)):=
 oH (CW:=λJ O H1 acc Q=>MJ J js tt te O H1 acc Q) (ZZ S.G) c Cq a b S.G hi (λ_ _ _ _=>bQ S.G (.inl S.J0)) DE DL K7 hf hs
end
def HH(K:ZLZ)(tp:Bool)(H:Hp)(a:Addr)(xs:List V):Prop:=match tp with
 |false=>AU K H a xs
 |true=>BW K H a xs
theorem HH.or{K:ZLZ}{tp:Bool}{xs:List V}(h:HH K tp H a xs):AU K H a xs∨BW K H a xs:=by
 cases tp
 .exact .inl h
 .exact .inr h
def Vb(K:ZLZ)(tp:Bool)(a:Addr)(xs:List V):It:=
 ⟨λi H=>HH K tp H a xs/\i<xs.length,λi H x H'=>H'=H/\xs[i]?=some x,λi H=>HH K tp H a xs/\xs.length<=i⟩
theorem yq{P:Program}{K:ZLZ}(a it:Addr)(xs:List V):Turn P w K tg (Vb K false a xs) [it] it (λi h=>h.IsListIter it a i) where
 mem:=by simp
 obj:=(Ox (P:=P) (w:=w) (K:=K) (tg:=tg) a it).obj
 keep:=(Ox (P:=P) (w:=w) (K:=K) (tg:=tg) a it).keep
 item:=by
  intro X f hw g d i Zd s O H E I c st b;obtain⟨j,hi⟩:=b;refine Ay ((Ox (P:=P) (w:=w) (K:=K) (tg:=tg) a it).item X f hw g d i Zd s O H E I c st ⟨xs,xs[i],j,by simp[hi]⟩) λr m AO=>by obtain⟨u,e,h⟩:=AO;exact⟨u,e,Ay h λ_ s2 Eh=>by obtain⟨x,H',I',k,y,Du,l⟩:=Eh;exact⟨x,H',I',k,⟨y.1,y.2 xs j⟩,Du,l⟩⟩
 done:=by
  intro X f hw g d i Zd s O H E I c st b;exact(Ox (P:=P) (w:=w) (K:=K) (tg:=tg) a it).done X f hw g d i Zd s O H E I c st ⟨xs,b.1,b.2⟩
 self:=(Ox (P:=P) (w:=w) (K:=K) (tg:=tg) a it).self
theorem ZA0{P:Program}{K:ZLZ}(a it:Addr)(xs:List V):Turn P w K tg (Vb K true a xs) [it] it (λi h=>h.IsTupleIter it a i) where
 mem:=by simp
 obj:=(Pr (P:=P) (w:=w) (K:=K) (tg:=tg) a it).obj
 keep:=(Pr (P:=P) (w:=w) (K:=K) (tg:=tg) a it).keep
 item:=by
  intro X f hw g d i Zd s O H E I c st b;obtain⟨j,hi⟩:=b;refine Ay ((Pr (P:=P) (w:=w) (K:=K) (tg:=tg) a it).item X f hw g d i Zd s O H E I c st ⟨xs,xs[i],j,by simp[hi]⟩) λr m AO=>by obtain⟨u,e,h⟩:=AO;exact⟨u,e,Ay h λ_ s2 Eh=>by obtain⟨x,H',I',k,y,Du,l⟩:=Eh;exact⟨x,H',I',k,⟨y.1,y.2 xs j⟩,Du,l⟩⟩
 done:=by
  intro X f hw g d i Zd s O H E I c st b;exact(Pr (P:=P) (w:=w) (K:=K) (tg:=tg) a it).done X f hw g d i Zd s O H E I c st ⟨xs,b.1,b.2⟩
 self:=(Pr (P:=P) (w:=w) (K:=K) (tg:=tg) a it).self
def T4(K:ZLZ)(tl:TE):TI:=λO H R=>tl O H λx H1=>∃tp a xs,x=.ref a/\HH K tp H1 a xs/\R (Vb K tp a xs) H1
def br(z:Str):It:=⟨λi _=>i<z.cps.size,λi H x H'=>H'=H/\∃c,z.cps[i]?=some c/\x=.str ⟨#[c]⟩,λi _=>i=z.cps.size⟩
theorem l0{P:Program}{K:ZLZ}{t:Tok}{ty:String}
  (C:["enumerate","zip","dict_itemiterator","dict_reverseitemiterator","odict_iterator","itertools.zip_longest","itertools.pairwise"].contains ty=false)
  (W:∀A:Around,A.handled=none->Walks P w A it [it] [it] z.cps.size (SignAt z) (λi h=>h.IsStrIter it ty z t i))
  (self:∀(A:Around)(i:Nat)(s:Shared)(Q:Value->Shared->Prop)(E:Value->Shared->Prop),s.heap.IsStrIter it ty z t i->Q (.ref it) s->wpAny (model P w) A (pyIter (.ref it)) Q E s) :
  Turn P w K tg (br z) [it] it (λi h=>h.IsStrIter it ty z t i) where
 mem:=by simp
 obj:=λi h st b a=>by
  have e:b=it:=by simpa using a
  subst e;obtain⟨o,e,c,d⟩:=st;exact⟨o,e,λv z=>by rw[d]at z;cases z⟩
 keep:=λi h h' st k=>let ⟨o,e,r⟩:=st;⟨o,k it (by simp) o e,r⟩
 item:=by
  intro X m hw n l i Zd s O H E I f st j;subst m hw n;obtain⟨f0,y,D,x,q,p⟩:=f it (by simp);refine(W X.A (I.ok.hd l)).item i s _ _ j st λv h' tk⟨c,u,U3,B⟩Du kp=>?_;subst B;have F:Inv X Zd O H { s with heap:=h',toks:=tk }:=I.turned (t':=tk) (λb o a e=>kp b o (by simpa using a) e) f0 y x q p
  obtain⟨o,e,cl,d⟩:=id Du;exact⟨_,rfl,W5 (s:={ s with heap:=h',toks:=tk }) e cl d C ⟨.str ⟨#[c]⟩,H,F,⟨u,rfl⟩,⟨rfl,c,U3,rfl⟩,Du,λb a=>(f b a).1⟩⟩
 done:=by
  intro X m hw n l i Zd s O H E I f st j;subst m hw n;obtain⟨f0,y,D,x,q,p⟩:=f it (by simp);have g:i=z.cps.size:=j;subst g;exact(W X.A (I.ok.hd l)).done s _ _ st λh' tk kp=>⟨rfl,I.turned (t':=tk) (λb o a e=>kp b o (by simpa using a) e) f0 y x q p⟩
 self:=self
def gi(tl:TE):TI:=λO H R=>tl O H λx H1=>∃z,x=.str z/\R (br z) H1
theorem EH{p:Addr}(h:H p=none)(o:HO):AR H (upd H p o):=λb u q=>by rw[AW (D7 q h)];exact q
theorem we{Q:VK}(xs:List V)(f:V->Bool)(g:V->V)(BI:H1 acc=none)(z:xs.length<=sizeLine)
  (k:∀i H,AR H1 H->i<xs.length->J.go i H) (Ci:∀H,AR H1 H->J.stop xs.length H) (p:∀i H x H',J.FT i H x H'->H'=H/\xs[i]?=some x)
  (r:∀(i:Nat)(x:V)(H':Hp)(Q':Bool->Hp->Prop),xs[i]?=some x->AR H1 H'->(∀Hy,AR H' Hy->Q' (f x) Hy)->tt (Bh js O++[some x]) H' Q')
  (s:∀(i:Nat)(x:V)(H':Hp)(Q':VK),xs[i]?=some x->f x=true->AR H1 H'->(∀Hy,AR H' Hy->Q' (g x) Hy)->te (Bh js O++[some x]) H' Q')
  (hd:∀H',AR H1 H'->H' acc=some (.lst ((xs.filter f).map g))->Q (.ref acc) H'):MJ J js tt te O H1 acc Q:=by
 refine⟨λi m H=>m=xs.length - i/\i<=xs.length/\AR H1 H/\H acc=some (.lst (((xs.take i).filter f).map g)),⟨xs.length,by simp,Cf _,EH BI _,B3⟩,?_⟩;rintro i m H2⟨rfl,hi,a,j⟩
 by_cases h:i<xs.length
 .refine .inr ⟨k i H2 a h,λx H3 y=>?_⟩;obtain⟨e,hx⟩:=p i H2 x H3 y;subst e;have w:(xs.take (i+1))=xs.take i++[x]:=by
   have u:xs[i]=x:=by
    rw[As h]at hx;exact Be hx
   rw[Sf h,u]
  have n:List.filter f (xs.take (i+1))=(xs.take i).filter f++(if f x=true then[x]else[]):=by
   rw[w,qu];congr 1
   by_cases c:f x=true <;> simp[c]
  refine r i x _ _ hx a λH4 s4=>?_
  by_cases c:f x=true
  .rw[u4 c];refine s i x H4 _ hx c (a.trans s4) λH5 l=>?_;have d:(((xs.take i).filter f).map g).length<sizeLine:=by
    rw[AB];have:=WS f (xs.take i);rw[Dj]at this;omega
   refine⟨_,l _ _ (s4 _ _ j),d,xs.length - (i+1),by omega,rfl,h,λb o q=>?_,?_⟩
   .have t:b≠acc:=by rintro rfl;rw[BI]at q;cases q
    rw[AW t];exact l _ _ (s4 _ _ (a b o q))
   .rw[B3,n,u4 c,Ca];rfl
  .have v:f x=false:=by simpa using c
   rw[v];rw[tK (by decide)];refine⟨xs.length - (i+1),by omega,rfl,h,a.trans s4,?_⟩;rw[n,tK c,Dz];exact s4 _ _ j
 .have e:i=xs.length:=by omega
  subst e;refine .inl ⟨Ci H2 a,hd H2 a ?_⟩;rw[G6]at j;exact j
def Hc(z:Str):List V:=z.cps.toList.map λc=>.str ⟨#[c]⟩
theorem XE(z:Str):(Hc z).length=z.cps.size:=by unfold Hc;simp
theorem zd{Q:VK}(f:V->Bool)(g:V->V)(BI:H1 acc=none)(a:z.cps.size<=sizeLine)
  (b:∀(i:Nat)(x:V)(H':Hp)(Q':Bool->Hp->Prop),(Hc z)[i]?=some x->AR H1 H'->(∀Hy,AR H' Hy->Q' (f x) Hy)->tt (Bh js O++[some x]) H' Q')
  (d:∀(i:Nat)(x:V)(H':Hp)(Q':VK),(Hc z)[i]?=some x->f x=true->AR H1 H'->(∀Hy,AR H' Hy->Q' (g x) Hy)->te (Bh js O++[some x]) H' Q')
  (hd:∀H',AR H1 H'->H' acc=some (.lst (((Hc z).filter f).map g))->Q (.ref acc) H'):MJ (br z) js tt te O H1 acc Q:=by
 refine we (Hc z) f g BI (by rw[XE];exact a) (λi H s hi=>?_) (λH s=>?_) (λi H x H' y=>?_) b d hd
 .rw[XE]at hi;exact hi
 .show(Hc z).length=z.cps.size;exact XE z
 .obtain⟨e,c,h,hx⟩:=y;refine⟨e,?_⟩;subst hx;unfold Hc;rw[Ax,dh,h];rfl
def IW(xs ys:List V):Bool:=xs.length == ys.length && (List.range xs.length).all λj=>FE (xs.getD j .AA) (ys.getD j .AA)
theorem R4{xs:List V}{x:V}(h:xs[j]?=some x):xs.getD j .AA=x:=by rw[JU,h];rfl
theorem ko{xs:List V}{x:V}(h:xs.all Dk=true)(e:xs[j]?=some x):Dk x=true:=List.all_eq_true.mp h x (C7 e)
theorem TB{xs:List V}{Cu:List Value}(d:Vals xs A5)(c:Vals ys Cu)(k:xs.all Dk=true)(i:ys.all Dk=true):
  ∀j(h1:j<A5.toArray.size)(h2:j<Cu.toArray.size),SeqAt.EqAt A s A5.toArray[j] Cu.toArray[j] (FE (xs.getD j .AA) (ys.getD j .AA)):=λj h1 h2=>by
 have l1:=d.length;have l2:=c.length;have n:j<A5.length:=by simpa using h1
 have m:j<Cu.length:=by simpa using h2
 have b:xs[j]?=some (xs[j]'(by omega)):=As _;have a:ys[j]?=some (ys[j]'(by omega)):=As _;obtain⟨u,f,h⟩:=d.get b;obtain⟨v,e,g⟩:=c.get a;rw[As n]at f;rw[As m]at e;have o:A5[j]=u:=Be f;have l:Cu[j]=v:=Be e;rw[R4 b,R4 a];have q:=kE (A:=A) (s:=s) h g (ko k b) (ko i a);rw[<- o,<- l]at q
 simpa using q
def RH(K:ZLZ)(neg:Bool):R2:=λx y H Q=>∃p q xs ys,x=.ref p/\y=.ref q/\((AU K H p xs/\AU K H q ys)∨(BW K H p xs/\BW K H q ys))/\xs.all Dk=true/\ys.all Dk=true/\
 Q (.bl (if neg then !IW xs ys else IW xs ys)) H
theorem OB{xs:List V}(h:xs.length≠ys.length):IW xs ys=false:=by
 unfold IW;have:(xs.length == ys.length)=false:=by simpa using h
 rw[this,Bool.false_and]
theorem O0{xs:List V}(h:xs.length=ys.length):IW xs ys=(List.range xs.length).all λj=>FE (xs.getD j .AA) (ys.getD j .AA):=by
 unfold IW;have:(xs.length == ys.length)=true:=by simpa using h
 rw[this,qh]
theorem ZGL(f:X.A.units<cLine):BX X (compareOp .Eq) (RH X.K false):=by
 intro Zd s O H x y v u Q I r o h;obtain⟨p,q,xs,ys,rfl,rfl,t,l,k,w⟩:=h;cases r;cases o;have b:Q (.bl (IW xs ys)) H:=w;rcases t with⟨i,g⟩|⟨i,g⟩
 .obtain⟨A5,d,p1,n⟩:=I.list i;obtain⟨Cu,c,p2,m⟩:=I.list g;have l1:=d.length;have l2:=c.length
  by_cases a:xs.length=ys.length
  .refine SeqAt.eq_listAt (e:=λj=>FE (xs.getD j .AA) (ys.getD j .AA)) p1.isList p2.isList (by simp;omega) f (TB d c l k) ⟨.bl _,H,I,rfl,?_⟩;rw[O0 a]at b;simp only[CA,<- l1];exact b
  .rw[OB a]at b;exact ZL1 p1.isList p2.isList (by simp;omega) f ⟨.bl false,H,I,rfl,b⟩
 .obtain⟨A5,d,p1,n⟩:=I.tuple i;obtain⟨Cu,c,p2,m⟩:=I.tuple g;have l1:=d.length;have l2:=c.length;refine SeqAt.eq_tupleAt (e:=λj=>FE (xs.getD j .AA) (ys.getD j .AA)) p1 p2 f (TB d c l k) ⟨.bl _,H,I,rfl,?_⟩;simp only[CA,<- l1,<- l2]
  by_cases a:xs.length=ys.length
  .rw[O0 a]at b;have:(xs.length == ys.length)=true:=by simpa using a
   rw[this,Bool.and_true,<- a,Nat.min_self];exact b
  .rw[OB a]at b;have:(xs.length == ys.length)=false:=by simpa using a
   rw[this,dk];exact b
theorem Ux(f:X.A.units<cLine):BX X (compareOp .NotEq) (RH X.K true):=by
 intro Zd s O H x y v u Q I r o h;obtain⟨p,q,xs,ys,rfl,rfl,t,l,k,w⟩:=h;cases r;cases o;have b:Q (.bl (!IW xs ys)) H:=w;rcases t with⟨i,g⟩|⟨i,g⟩
 .obtain⟨A5,d,p1,n⟩:=I.list i;obtain⟨Cu,c,p2,m⟩:=I.list g;have l1:=d.length;have l2:=c.length
  by_cases a:xs.length=ys.length
  .refine SeqAt.RcNeAt.lists (e:=λj=>FE (xs.getD j .AA) (ys.getD j .AA)) p1.isList p2.isList (by simp;omega) f (TB d c l k) _ _ _ _ ⟨.bl _,H,I,rfl,?_⟩;rw[O0 a]at b;simp only[CA,<- l1];exact b
  .rw[OB a]at b;exact ZL0 p1.isList p2.isList (by simp;omega) f _ _ _ _ ⟨.bl true,H,I,rfl,b⟩
 .obtain⟨A5,d,p1,n⟩:=I.tuple i;obtain⟨Cu,c,p2,m⟩:=I.tuple g;have l1:=d.length;have l2:=c.length;refine SeqAt.RcNeAt.tuples (e:=λj=>FE (xs.getD j .AA) (ys.getD j .AA)) p1 p2 f (TB d c l k) _ _ _ _ ⟨.bl _,H,I,rfl,?_⟩;simp only[CA,<- l1,<- l2]
  by_cases a:xs.length=ys.length
  .rw[O0 a]at b;have:(xs.length == ys.length)=true:=by simpa using a
   rw[this,Bool.and_true,<- a,Nat.min_self];exact b
  .rw[OB a]at b;have:(xs.length == ys.length)=false:=by simpa using a
   rw[this,dk];exact b
theorem vB{bs:List Bool}(r:Vals (bs.map V.bl) A5){v:Value}(e:A5[i]?=some v):v=.bool (bs.getD i false):=by
 have c:=r.length;rw[AB]at c;have hi:i<A5.length:=(List.getElem?_eq_some_iff.mp e).1;have d:(bs.map V.bl)[i]?=some (.bl (bs[i]'(by omega))):=by rw[Ax,As (by omega)];rfl
 obtain⟨u,a,b⟩:=r.get d;rw[e]at a;cases a;cases b;rw[JU,As (by omega)];rfl
theorem range_all(bs:List Bool):(List.range bs.length).all (λi=>bs.getD i false)=bs.all id:=by
 rw[Nc,Hr,Hr];constructor
 .intro h x hx;obtain⟨i,hi,rfl⟩:=List.mem_iff_getElem.mp hx;have:=h i (List.mem_range.mpr hi);rw[JU,As hi]at this;exact this
 .intro h i hi;rw[JU,As (List.mem_range.mp hi)];exact h _ (Lr _)
theorem ZHz(j:X.calm=true):Dp X (.builtin "all") (λxs H Q=>∃(p:Addr)(bs:List Bool),xs=[.ref p]/\AU X.K H p (bs.map V.bl)/\Q (.bl (bs.all id)) H):=by
 intro Zd s O H xs us Q I r h;obtain⟨p,bs,rfl,g,q⟩:=h;obtain⟨u,rfl,d⟩:=vals1 r;cases d;obtain⟨A5,a,pl,m⟩:=I.list g;have c:=a.length;rw[AB]at c;refine call_all_walk (ZAc pl.isList ?_);obtain⟨o,n,ho,_⟩:=id pl;have l:p≠s.heap.objs.size:=Cn (BE ho);refine⟨s.heap.objs.size,_,_,_,_,_,λi=>bs.getD i false,rfl,Walks.list (by rw[Around.in1_handled];exact I.ok.hd j) _ p l A5.toArray,⟨⟨_,CY _ rfl,rfl,rfl⟩,pl.isList.push _⟩,λi v s' Q' E' f Ei=>?_,λh' tk kp=>?_⟩
 .have k:v=.bool (bs.getD i false):=vB a (by simpa using f)
  rw[k];exact vt Ei
 .refine⟨.bl _,H,I.kept (t':=tk) λb ob e=>kp b ob (by simpa using Cn (BE e)) (Bo _ e),rfl,?_⟩
  rw[CA,<- c,range_all];exact q
def UB:V->List V->Hp->VK->Prop:=λx vs H Q=>∃(l:Addr)(xs:List V)(j:Int)(y:V),x=.ref l/\vs=[.int j,y]/\H l=some (.lst xs)/\0<=j/\j<=xs.length/\xs.length<sizeLine/\Q .AA (upd H l (.lst (xs.take j.toNat++y::xs.drop j.toNat)))
theorem ZII:N6 X "list.insert" UB:=by
 intro Zd s O H x vs v us Q I d f h;obtain⟨l,xs,j,y,rfl,rfl,b,VI,m,A,q⟩:=h;cases d;obtain⟨w,a,rfl,g,c⟩:=f.two;obtain⟨t,rfl⟩:=g;obtain⟨z,A5,n,r,k,e⟩:=I.JL b;have h2:j<2 ^ 63:=by
  have B:(xs.length:Int)<=(sizeLine:Int):=Int.ofNat_le.mpr z;have C:((sizeLine:Nat):Int)<2 ^ 63:=by exact_mod_cast Js
  omega
 have p:(!Builtin.List.listFitsIndex j)=true->False:=by
  have h1:Builtin.List.listFitsIndex j=true:=by
   unfold Builtin.List.listFitsIndex;rw[Ff];exact⟨uL (by omega),uL h2⟩
  rw[h1];exact λh=>nomatch h
 have u:A5.toArray.size<=sizeLine:=CB (rJ (List.size_toArray.trans k.symm)) z;refine zJ eE ⟨_,e,rfl⟩ PySem.F.entry_list_insert (PySem.F.args_list_insert_3 _ _ _) (PySem.AutoSeq1.list_insert_list_int_val_1 l A5.toArray n j t a p u) ⟨e,?_⟩;refine⟨.AA,_,I.Ow (its':=A5.take j.toNat++a::A5.drop j.toNat) b e ?_ ((r.take _).append (.cons c (r.drop _))) ?_,rfl,q⟩
 .have o:¬ (j<0):=by omega
  have i:min j.toNat A5.toArray.size=j.toNat:=by simp;omega
  simp only[o,if_false,i];apply Array.toList_inj.mp;simp;exact Pn (by simp)
 .rw[By,Ck,Dj,SY];omega
def Mw(x:V)(xs:List V):Nat:=xs.countP λy=>FE y x
theorem ZH{x:V}:∀{xs:List V}{us:List Value},Vals xs us->xs.all Dk=true->us.countP (E6 x)=Mw x xs
 |_,_,.nil,_=>rfl
 |y::xs,u::us,.cons r t,h=>by
  have h1:Dk y=true/\xs.all Dk=true:=by simpa[WQ]using h
  unfold Mw;rw[qt,qt,Zt r h1.1,ZH t h1.2];rfl
def YM(K:ZLZ):V->List V->Hp->VK->Prop:=λx vs H Q=>∃l xs y,x=.ref l/\vs=[y]/\AU K H l xs/\Dk y=true/\xs.all Dk=true/\Q (.int (Mw y xs)) H
theorem qG:N6 X "list.count" (YM X.K):=by
 intro Zd s O H x vs v us Q I e f h;obtain⟨l,xs,y,rfl,rfl,i,j,fs,q⟩:=h;cases e;obtain⟨u,rfl,g⟩:=f.one;obtain⟨A5,r,pl,k⟩:=I.list i;obtain⟨⟨c,d,m,b⟩,n,ho,a,hd,HL⟩:=id pl;simp only at a hd HL;subst a;subst hd;subst HL;refine zJ F.slot_list_count ⟨_,ho,rfl⟩ F.entry_list_count (F.args_list_count_2 _ _) (SeqAt.list_countAt l A5.toArray n none b u (E6 y)) ⟨ho,λz Md=>Jo g j r fs z (by simpa using Md),?_⟩
 refine⟨.int _,H,I.tok _,⟨_,rfl⟩,?_⟩;rw[ZKg,ZH r fs];exact q
def zw:V->Option Int->Option Int->Hp->VK->Prop:=λx lo hi H Q=>∃z,x=.str z/\z.length<=sizeLine/\Q (.str (Txt.slice z lo hi)) H
theorem part_of{v:Value}{o:Option Int}(p:IsPart v o):∃l:Option (Int×Tok),v=partValue l/\l.map (·.1)=o:=by
 cases p with
 |none=>exact⟨none,rfl,rfl⟩
 |int i t=>exact⟨some (i,t),rfl,rfl⟩
theorem fv:V8 X zw:=by
 intro Zd s O H x v i g lo hi j Q I a e pl b h;obtain⟨z,rfl,c,q⟩:=h;obtain⟨t,rfl⟩:=a;obtain⟨l,rfl,f⟩:=part_of pl;obtain⟨u,rfl,d⟩:=part_of b;subst f;subst d;refine⟨"str", _,F.slot_str_getitem.lookup,typeIs_str _ _ _,wpAny_getItem_str_slice (l:=l) (u:=u) (st:=none) e rfl (post_val_or_str ⟨CB (Txt.slice_le z _ _) c,λt' k=>?_⟩)⟩;exact⟨.str _,H,I.tok k,⟨t',rfl⟩,q⟩
end L2
set_option exponentiation.threshold 5000
namespace L2
variable{f p:Addr}{H:Hp}
def AI(P:Program)(w:World)(K:ZLZ)(mg:ZLb)(Zp:Heap)(x:Str)(k:Nat)(ps:List Str)(sp:Sp):Prop:=
 ∃f fd,CU P w K mg Zp Dr k f fd ps sp/\Binds K fd ps []/\PySem.W.keepIn K (.ref f)=true/\mg x=some (.ref f)
section
variable{P:Program}{w:World}{K:ZLZ}{mg:ZLb}{Zp:Heap}{x qual:Str}{k:Nat}{ps:List Str}{sp:Sp}{st:Stmt}{fd:FuncData}
theorem AI.mk(F:AG K x qual st f fd)(b:Binds K fd ps [])(m:mg x=some (.ref f))(h:CU P w K mg Zp Dr k f fd ps sp):AI P w K mg Zp x k ps sp:=⟨f,fd,h,b,F.kp,m⟩
variable{X:Cx}{j:Nat}{p pos:Pos}{e:Expr}{es:List Expr}{t:TA}
def Vs(K:ZLZ):List V->Hp->VK->Prop:=λxs H Q=>∃(p:Addr)(ys:List V),xs=[.ref p]/\(AU K H p ys∨BW K H p ys)/\Q (.int ys.length) H
theorem HE:Dp X (.builtin "len") (Vs X.K):=Uh
theorem OG:GH X "list.append" UE:=l4
theorem YD:GH X "list.insert" UB:=ZII
theorem ZI7:GH X "list.count" (YM X.K):=qG
theorem ug:GH X "list.pop" cB:=tN
def p9(i j:Int):Prop:=i.natAbs<2 ^ 1000/\j.natAbs<2 ^ 1000
theorem eM{n:Nat}(h:n<2 ^ 1000):n.log2<1000:=by
 rcases Nat.eq_zero_or_pos n with e|e
 .subst e;exact(show(0:Nat).log2<1000 by decide)
 .exact(Nat.log2_lt (Lx e)).mpr h
theorem bits_le{i:Int}(h:i.natAbs<2 ^ 1000):Builtin.Int.intBits i<=2 ^ 20:=by
 unfold Builtin.Int.intBits;split
 .exact Cf _
 .have:=eM h;have e:(2:Nat) ^ 20=1048576:=by decide
  omega
theorem Lb:BX X (binaryOp .Mult) (rI p9 λi j=>.int (i * j)):=Uu λ_ _ _ _ _ _ _ a q=>mul_int q (.of_bits (bits_le a.1) (bits_le a.2))
theorem cT:BX X (binaryOp .FloorDiv) (rI (λ_ j=>0<j/\j.natAbs<2 ^ 1000) λi j=>.int (i / j)):=Uu λi j _ _ _ _ _ a q=>by
 have h1:(0:Int)<j:=a.1;have h2:=eM a.2;exact floordiv_int (by omega) (by rw[Int.fdiv_eq_ediv_of_nonneg i (by omega)];exact q) (.inl (PyProof.noPylong_of_log2 (by omega)))
theorem yL{body rest:List Stmt}{t u:TS}(e:body=st::rest)(h:PS X st t)(h2:Ek X rest u):Ek X body (Ly t u):=by rw[e];exact QJ h h2
def Zh(t:TS):TS:=λD O H=>∃J:St->Hp->Prop,t { D with nx:=J } O H/\∀ σ' H',J σ' H'->D.nx σ' H'
end
def HP(p:Addr)(H H':Hp):Prop:=∀b o,b≠p->H b=some o->H' b=some o
theorem HP.trans{H1 H2:Hp}(a:HP p H H1)(b:HP p H1 H2):HP p H H2:=λc o d e=>b c o d (a c o d e)
theorem HP.of{H':Hp}(a:AR H H'):HP p H H':=λc o _ e=>a c o e
theorem HP.upd{o:HO}:HP p H (upd H p o):=λc u a e=>by rw[AW a];exact e
end L2
set_option maxHeartbeats 8000000
namespace L2
variable{ss:List Str}
def ZFR(P:Program)(w:World)(a:Addr)(f:Str->Bool)(n:Nat):HO:=.ext λh=>h.SetOf (strKind P w) a f n
section
variable{X:Cx}
theorem ZAe{A5:List Value}(r:Vals (ss.map V.str) A5){i:Nat}{v:Value}(e:A5[i]?=some v):∃(h:i<ss.length)(t:Tok),v=.str ss[i] t:=by
 have d:=r.length;rw[AB]at d;have hi:i<A5.length:=(List.getElem?_eq_some_iff.mp e).1;have b:i<ss.length:=by omega
 have f:(ss.map V.str)[i]?=some (.str ss[i]):=by rw[Ax,As b];rfl
 obtain⟨u,a,c⟩:=r.get f;rw[e]at a;cases a;obtain⟨t,q⟩:=c;exact⟨b,t,q⟩
end
end L2
set_option maxHeartbeats 4000000
namespace L2
variable{X:Cx}{a c e l o tg:Expr}{es ifs:List Expr}{body rest:List Stmt}{tb:TS}{tc tt:TT}{te tl to:TE}{p pos pos' px:Pos}{name x y:Str}{G9 op:CmpOp}{r:V->List V->Hp->VK->Prop}{ps ss:List Str}{sp:Sp}{T:String}{wi:TI}{i n:Nat}{g:TG}{w:World}{I f:Addr}
structure QE (X:Cx) (e:Expr) (t:TE):Prop where h:PE X e t
structure QT (X:Cx) (e:Expr) (t:TT):Prop where h:PT X e t
structure QW (X:Cx) (e:Expr) (t:TT):Prop where h:PW X e t
structure QA (X:Cx) (es:List Expr) (t:TA):Prop where h:PA X es t
structure QS (X:Cx) (st:Stmt) (t:TS):Prop where h:PS X st t
structure FN (X:Cx) (st:List Stmt) (t:TS):Prop where h:Ek X st t
structure QG (X:Cx) (tg:Expr) (t:TG):Prop where h:PG X tg t
structure Sm (X:Cx) (ts:List Expr) (t:Ip):Prop where h:OL X ts t
structure QI (X:Cx) (tg iter:Expr) (wi:TI):Prop where h:PI X tg iter wi
structure Mi (X:Cx) (ifs:List Expr) (t:TT):Prop where h:Hv X ifs t
structure QO (X:Cx) (e:Option Expr) (t:TO):Prop where h:PO X e t
section
variable{b:Expr}{rest:List Expr}{ta tb tc:TE}{tA Kf:TT}{t:TA}{p2 apos Bp:Pos}
theorem qv(i:Nat)(a:X.N[i]?=some x:=by rfl)(hv:Qj X.env.scope x:=by first|exact Or.inl rfl|exact Or.inr (Or.inl rfl)|exact Or.inr (Or.inr rfl))(hd:Zq0 x:=by decide)
  (Fe:(x == ("__classdict__":Str))=false:=by decide):QE X (.Name x pos) (Al i):=⟨jz a hv hd Fe⟩
theorem A7{i j pos}:QE X (.Constant (.int i) j pos) (tC (.int i)):=⟨λ_ _ _ H _ I h=>wpAny_Constant_int ⟨.int i,H,I.tok _,⟨_,rfl⟩,h⟩⟩
theorem HD{b j pos}:QE X (.Constant (.bool b) j pos) (tC (.bl b)):=⟨λ_ _ _ H _ I h=>Constant_bool ⟨.bl b,H,I,rfl,h⟩⟩
theorem GD{j pos}:QE X (.Constant .none j pos) (tC .AA):=⟨λ_ _ _ H _ I h=>Constant_none ⟨.AA,H,I,rfl,h⟩⟩
theorem B2{x j pos}:QE X (.Constant (.str x) j pos) (tC (.str x)):=⟨λ_ _ _ H _ I h=>Calls.Constant_str ⟨.str x,H,I.tok _,⟨_,rfl⟩,h⟩⟩
theorem D5{v:V}{u:Value}(b:Gl X x)(a:X.mg x=some u)(r:RelV v u)(hd:Zq0 x:=by decide):QE X (.Name x pos) (tC v):=⟨λ_ _ _ H _ I h=>Kt I b a ⟨v,H,I,r,h⟩ hd⟩
theorem ym(T:String)(a:X.mg x=none)(b:Gl X x:=by rfl)(hv:bootBuiltins x=some (.type T):=by decide+kernel)(hn:x ≠"__name__" := by decide)(hd:Zq0 x:=by decide):
  QE X (.Name x pos) (tC (.ty T)):=⟨ZFc b a hv rfl hn hd⟩
theorem B4{op:Operator}{r:R2}(ho:BX X (binaryOp op) r)(d:QE X a ta)(c:QE X b tb):QE X (.BinOp a op b pos) (Ba r ta tb):=⟨by
 have d:=d.h;have c:=c.h;intro Zd s O H Q I h;exact wpAny_BinOp (Xu d c I h λv u s2 x y H2 I2 f e q=>ho Zd s2 O H2 x y v u Q I2 f e q)⟩
theorem ZR{op:UnaryOp}{r:V->Hp->VK->Prop}(ho:Tr X (unaryOp op) r)(b:QE X a ta):QE X (.UnaryOp op a pos) (Sz r ta):=⟨by
 have b:=b.h;intro Zd s O H Q I h;exact UnaryOp_ (Ay (b Zd s O H _ I h) λv c AO=>by obtain⟨x,H1,I1,d,e⟩:=AO;exact ho Zd c O H1 x v Q I1 d e)⟩
theorem ZDN{r:R2}(ho:BX X (compareOp op) r)(d:QE X a ta)(c:QE X b tb)(g:behindInMarks op b=false):QE X (.Compare a [op] [b] pos) (Ba r ta tb):=⟨by
 have d:=d.h;have c:=c.h;intro Zd s O H Q I h;exact wpAny_Compare1 (Xu d c I h λv u s2 x y H2 I2 f e q=>ho Zd s2 O H2 x y v u Q I2 f e q) g⟩
theorem qJ{r:R2}(ho:BX X (compareOp op) r)(e:QE X a ta)(d:QE X b tb)(c:behindInMarks op b=false):QT X (.Compare a [op] [b] pos) (K2 (Ba r ta tb)):=⟨ZIc ho e.h d.h c⟩
theorem tG{r l:R2}(ho:BX X (compareOp op) r)(Ey:BX X (compareOp G9) l)(i:QE X a ta)(g:QE X b tb)(f:QE X c tc)
  (D:lastMarks [op,G9] [b,c]=false:=by with_unfolding_all rfl):QE X (.Compare a [op,G9] [b,c] pos) (Qq r l ta tb tc):=⟨by
 have i:=i.h;have g:=g.h;have f:=f.h;intro Zd s O H Q I h;refine Compare_chain (i.k I h λv E x H1 I1 w C=>chain_link (g.k I1 C λu s2 y H2 I2 j B=>
  Ay (ho Zd s2 O H2 x y v u _ I2 w j B) λd p⟨z,H3,I3,t,k,e,m⟩=>?_)) D
 subst e;cases t;refine vt ?_;cases k with
 |false=>exact ite_ff ⟨.bl false,H3,I3,rfl,m⟩
 |true=>exact ite_tt (chain_last (Ay (f Zd p O H3 _ I3 m) λo s4⟨n,H4,I4,q,A⟩=>Ey Zd s4 O H4 y n u o Q I4 j q A))⟩
theorem kB{r l:R2}(ho:BX X (compareOp op) r)(Ey:BX X (compareOp G9) l)(i:QE X a ta)(g:QE X b tb)(f:QE X c tc)
  (J:lastMarks [op,G9] [b,c]=false:=by with_unfolding_all rfl):QT X (.Compare a [op,G9] [b,c] pos) (K2 (Qq r l ta tb tc)):=⟨by
 have i:=i.h;have g:=g.h;have f:=f.h;intro Zd s O H Q I h;refine isTrue_chain (i.k I h λv σ x H1 I1 B F=>test_link (g.k I1 F λu s2 y H2 I2 j E=>
  Ay (ho Zd s2 O H2 x y v u _ I2 B j E) λd q⟨z,H3,I3,A,k,e,m⟩=>?_)) J
 subst e;cases A;refine vt ?_;cases k with
 |false=>
  obtain⟨P,L,G⟩:=m;cases L;exact ite_ff ⟨H3,I3,G⟩
 |true=>
  refine ite_tt (test_last (Ay (f Zd q O H3 _ I3 m) λp s4⟨n,H4,I4,w,D⟩=>Ay (Ey Zd s4 O H4 y n u p _ I4 j w D) λd' N o=>?_));obtain⟨M,H5,I5,t,k2,K,C⟩:=o;subst K;cases t;exact vt ⟨H5,I5,C⟩⟩
theorem QP{op}(h:QE X a ta):QE X (.BoolOp op [a] pos) ta:=⟨by have h:=h.h;exact λZd s O H Q I hw=>BoolOp_one (h Zd s O H Q I hw)⟩
theorem Vu(f:QE X a ta)(e:QE X (.BoolOp .And (b::rest) pos) tb):QE X (.BoolOp .And (a::b::rest) pos) (az ta tb):=⟨by
 have f:=f.h;have e:=e.h;intro Zd s O H Q I h;refine BoolOp_and (f.k I h λv g x H1 I1 i d=>?_);obtain⟨c,rfl,d⟩:=d;cases i;refine vt ?_;cases c with
 |true=>exact e Zd g O H1 Q I1 d
 |false=>exact⟨.bl false,H1,I1,rfl,d⟩⟩
theorem xR(f:QE X a ta)(e:QE X (.BoolOp .Or (b::rest) pos) tb):QE X (.BoolOp .Or (a::b::rest) pos) (Zv ta tb):=⟨by
 have f:=f.h;have e:=e.h;intro Zd s O H Q I h;refine BoolOp_or (f.k I h λv g x H1 I1 i d=>?_);obtain⟨c,rfl,d⟩:=d;cases i;refine vt ?_;cases c with
 |false=>exact e Zd g O H1 Q I1 d
 |true=>exact⟨.bl true,H1,I1,rfl,d⟩⟩
theorem zA(d:QE X a ta):QE X (.UnaryOp .Not a pos) (Yj ta):=⟨by
 have d:=d.h;intro Zd s O H Q I h;refine UnaryOp_ (d.k I h λv f x H1 I1 e b=>?_);obtain⟨c,rfl,b⟩:=b;cases e;exact not_of (vt ⟨.bl (!c),H1,I1,rfl,b⟩)⟩
theorem Jh(b:QT X a tA):QW X (.BoolOp .And [a] pos) tA:=⟨by
 have b:=b.h;intro d Zd s O H Q I h;refine isTrue_and (Ay (b Zd s O H Q I h) λc f e=>?_);cases c with
 |true=>exact isTrue_and_nil e
 |false=>exact e⟩
theorem PK(b:QT X a tA):QW X (.BoolOp .Or [a] pos) tA:=⟨by
 have b:=b.h;intro d Zd s O H Q I h;refine isTrue_or (Ay (b Zd s O H Q I h) λc f e=>?_);cases c with
 |false=>exact isTrue_or_nil e
 |true=>exact e⟩
theorem Jp(e:QT X a tA)(d:QW X (.BoolOp .And (b::rest) pos) Kf):QW X (.BoolOp .And (a::b::rest) pos) (Ti tA Kf):=⟨by
 have e:=e.h;have d:=d.h;intro g Zd s O H Q I h;refine isTrue_and (Ay (e Zd s O H _ I h) λc i HI=>?_);obtain⟨H1,I1,f⟩:=HI;cases c with
 |true=>exact d g Zd i O H1 Q I1 f
 |false=>exact⟨H1,I1,f⟩⟩
theorem Oc(e:QT X a tA)(d:QW X (.BoolOp .Or (b::rest) pos) Kf):QW X (.BoolOp .Or (a::b::rest) pos) (ZL tA Kf):=⟨by
 have e:=e.h;have d:=d.h;intro g Zd s O H Q I h;refine isTrue_or (Ay (e Zd s O H _ I h) λc i HI=>?_);obtain⟨H1,I1,f⟩:=HI;cases c with
 |true=>exact⟨H1,I1,f⟩
 |false=>exact d g Zd i O H1 Q I1 f⟩
theorem QW.pt{t:TT}(h:QW X e t):QT X e t:=⟨h.h.pt⟩
theorem R7(b:QT X a tA):QT X (.UnaryOp .Not a pos) (X0 tA):=⟨by
 have b:=b.h;intro Zd s O H Q I h;exact isTrue_not (b Zd s O H (λc H1=>Q (!c) H1) I h)⟩
theorem IA(h:QE X e te)(f:∀a,isTrue e X.env a=(do let v <- a;standAt e.pos;holding [v] (truthy v)):=by intro _;rfl):QT X e (tB te):=⟨by
 have h:=h.h;intro Zd s O H Q I hw;refine isTrue_plain (h.k I hw λv g x H1 I1 b c=>?_) (f _);obtain⟨d,rfl,q⟩:=c;cases b;exact vt ⟨H1,I1,q⟩⟩
theorem ZK(e:QT X c tA)(g:QE X a ta)(f:QE X b tb):QE X (.IfExp c a b pos) (W0 tA ta tb):=⟨by
 have e:=e.h;have g:=g.h;have f:=f.h;intro Zd s O H Q I h;refine wpAny_IfExp (Ay (e Zd s O H _ I h) λd i HI=>?_);obtain⟨H1,I1,j⟩:=HI;cases d with
 |true=>exact g Zd i O H1 Q I1 j
 |false=>exact f Zd i O H1 Q I1 j⟩
theorem A4:QA X [] BA:=⟨ZT⟩
theorem A0(c:QE X e te)(b:QA X es t)(a:Cp X e es:=by rfl):QA X (e::es) (AX te t):=⟨RA c.h b.h a⟩
theorem CP{x1}(h:QA X es t):QE X (.Tuple es x1 pos) (Mu t):=⟨zm h.h⟩
theorem FF(h:QA X es t):QE X (.List es pos) (dA t):=⟨uO h.h⟩
theorem KR:QO X none df:=⟨by
 intro Zd s O H Q I h;rw[evalPart_none];exact uz ⟨none,H,I,.none,h⟩⟩
theorem Jv(h:QE X e te):QO X (some e) (af te):=⟨by
 have h:=h.h;intro Zd s O H Q I hw;rw[evalPart_some];refine Ay (h Zd s O H _ I hw) λu d c=>?_;obtain⟨x,H1,I1,a,b⟩:=c;obtain⟨i,rfl,q⟩:=b;obtain⟨t,rfl⟩:=a;exact⟨some i,H1,I1,.int i t,q⟩⟩
theorem Jq{r:V->Option Int->Option Int->Hp->VK->Prop}{lo hi:Option Expr}{tl th:TO}(z:V8 X r)(i:QE X e te)(g:QO X lo tl)(f:QO X hi th):QE X (.Subscript e (.Slice lo hi none p2) pos) (Zo r te tl th):=⟨by
 have i:=i.h;have g:=g.h;have f:=f.h;intro Zd s O H Q I h;refine Subscript_ (i.k I h λv j x H1 I1 m p=>?_);refine wpAny_Slice (Ay (g Zd j O H1 _ I1 p) λd s2⟨l,H2,I2,pl,o⟩=>Ay (f Zd s2 O H2 _ I2 o) λc a Rl=>?_);obtain⟨u,H3,I3,t,n⟩:=Rl;rw[evalPart_none];refine uz ?_;have D:Inv X Zd O H3 { a with heap:=a.heap.push { cls:=.type "slice", data:=.fields #[d,c,.none] } }:=I3.kept (t':=a.toks) λb ob q=>Bo _ q
 obtain⟨T,id,C,y,B⟩:=z Zd { a with heap:=a.heap.push { cls:=.type "slice", data:=.fields #[d,c,.none] } } O H3 x v d c l u a.heap.objs.size Q D m (Heap.IsSliceOf.new ..) pl t n
 show Zq2 X (subscriptTail e (.Slice lo hi none p2) v (.ref a.heap.objs.size)) (EP X Zd O Q) X.xe { a with heap:=a.heap.push { cls:=.type "slice", data:=.fields #[d,c,.none] } }
 exact tail_any (ops:=[.ref a.heap.objs.size,v]) y C B (by with_unfolding_all rfl)⟩
theorem xI{r:R2}(i:D1 X r)(d:QE X a ta)(c:QE X b tb)(g:Ze b):QE X (.Subscript a b pos) (Ba r ta tb):=⟨by
 have d:=d.h;have c:=c.h;intro Zd s O H Q I h;exact Subscript_ (Xu d c I h λv u s2 x y H2 I2 f e q=>i a b Zd s2 O H2 x y v u Q I2 f e q (g _ _))⟩
theorem ZJQ{j k:Nat}(h:AI X.prog X.w X.K X.mg X.base x k ps sp)(c:BP j X.A)(hk:k<=j)(a:QA X (e::es) t)(d:Gl X x:=by rfl)(BY:Zq0 x:=by decide)
  (he:Cp X e es:=by rfl) (BS:BEq X pos es:=by rfl):QE X (.Call (.Name x p) (e::es) [] pos) (ED sp [] E0 t):=⟨by
 have a:=a.h;obtain⟨f,fd,F,b,kp,m⟩:=h;exact ZBX (F.mono hk) c d m kp b .nil Tx a BY he BS⟩
theorem sS{id:String}{r:List V->Hp->VK->Prop}(k:Dp X (.builtin id) r)(j:Gl X x)(i:X.mg x=none)(f:bootBuiltins x=some (.builtin id))(a:QA X (e::es) t)(g:x ≠"__name__" := by decide)(BY:Zq0 x:=by decide)
  (he:Cp X e es:=by rfl) (BS:BEq X pos es:=by rfl):QE X (.Call (.Name x p) (e::es) [] pos) (El r t):=⟨by
 have a:=a.h;intro Zd s O H Q I h;refine xn (LP I j i f ?_ g BY);exact PyProof.Rows.callWith_builtin1 (Ay (a pos Zd s O H _ I h) λus b AO=>by obtain⟨vs,H1,I1,c,d⟩:=AO;exact k Zd b O H1 vs us Q I1 c d) he BS⟩
theorem ZI5{r:List V->Hp->VK->Prop}(k:Dp X (.type T) r)(j:Gl X x)(i:X.mg x=none)(f:bootBuiltins x=some (.type T))(a:QA X (e::es) t)(g:x ≠"__name__" := by decide)(BY:Zq0 x:=by decide)
  (he:Cp X e es:=by rfl) (BS:BEq X pos es:=by rfl):QE X (.Call (.Name x p) (e::es) [] pos) (El r t):=⟨by
 have a:=a.h;intro Zd s O H Q I h;refine xn (LP I j i f ?_ g BY);exact Wc (Ay (a pos Zd s O H _ I h) λus b AO=>by obtain⟨vs,H1,I1,c,d⟩:=AO;exact k Zd b O H1 vs us Q I1 c d) he BS⟩
theorem lR{id:String}(d:PlainAttrs T)(slot:Slot T name id)(M4:typeOf (.builtin id)=pure (.type "method_descriptor"))(e:GH X id r)(ho:QE X o to)
  (N3:attributeBase o name X.env (eval o X.env)=eval o X.env:=by rfl) (Mr:(apos.endLine == Bp.line)=true:=by rfl):QE X (.Call (.Attribute o name apos) [] [] Bp) (TF X.K T r to):=⟨by
 have ho:=ho.h;intro Zd s O H Q I h;refine wpAny_Call_method0_late N3 Mr (ho.k I h λv b x H1 I1 a f=>?_);obtain⟨ty,c⟩:=f;obtain⟨h1,h2⟩:=jT I1 a ty;exact⟨T,id,d,slot,M4,h1,h2,qk rfl (PySem.evalArgs_none (e Zd b O H1 x [] v [] Q I1 a .nil c))⟩⟩
theorem Er{id:String}(j:PlainAttrs T)(slot:Slot T name id)(M4:typeOf (.builtin id)=pure (.type "method_descriptor"))(l:GH X id r)(ho:QE X o to)(a:QA X (e::es) t)
  (N3:attributeBase o name X.env (eval o X.env)=eval o X.env:=by rfl)
  (ZQ:((backTo Bp (starEach (e::es) X.env)).all (λx=>!x.1) && (backToKw Bp (keywordEach [] X.env)).all (λx=>x.1.isSome)
   && decide ((e::es).length+([]:List Keyword).length+(if([]:List Keyword).isEmpty then 0 else 1)<30))=true:=by rfl)
  (Mr:(apos.endLine == Bp.line)=true:=by rfl) (hs:Cp X e es:=by rfl) (ZJ:BEq X Bp es:=by rfl) :
  QE X (.Call (.Attribute o name apos) (e::es) [] Bp) (GJ X.K T r to t):=⟨by
 have ho:=ho.h;have a:=a.h;intro Zd s O H Q I h;refine wpAny_Call_method_late N3 ZQ Mr rfl (ho.k I h λv d x H1 I1 b ZE9=>?_);obtain⟨ty,i⟩:=ZE9;obtain⟨h1,h2⟩:=jT I1 b ty;refine⟨T,id,j,slot,M4,h1,h2,?_⟩;have c:=a Bp Zd d O H1 _ I1 i;rw[hs]at c ⊢;refine qk (by show(false || (backTo Bp (starEach es X.env)).any (·.1))=false;rw[ZJ] <;> rfl) (ql ?_)
 exact Ay c λus s2 AO=>by obtain⟨vs,H2,I2,f,g⟩:=AO;exact l Zd s2 O H2 x vs v us Q I2 b f g⟩
variable{elt iter:Expr}{scope:Scope}{AN:List Str}{js:List Nat}
theorem CI(f:QE X l tl):QI X tg l (T4 X.K tl):=⟨by
 have f:=f.h;intro Zd s O H R I h;refine f.k I h λv c x H1 I1 j m=>?_;obtain⟨tp,a,xs,e,g,q⟩:=m;subst e;cases j;have d:∀b∈[c.heap.objs.size],Fs X Zd H1 b:=λb r=>by
  have e:b=c.heap.objs.size:=by simpa using r
  subst e;exact I1.MB (B0 _) (I1.AJ.fresh (B0 _))
 cases tp with
 |false=>
  obtain⟨A5,i,p,n⟩:=I1.list g;refine ZAc p.isList ?_;exact⟨c.heap.objs.size,[c.heap.objs.size],_,_,H1,rfl,I1.kept (t':=c.toks) λb o e=>Bo _ e,yq a _ xs,⟨_,CY _ rfl,rfl,rfl⟩,d,q⟩
 |true=>
  obtain⟨A5,i,p,n⟩:=I1.tuple g;refine wpAny_pyIter_tuple (show c.heap.IsTuple a A5.toArray from p) ?_;exact⟨c.heap.objs.size,[c.heap.objs.size],_,_,H1,rfl,I1.kept (t':=c.toks) λb o e=>Bo _ e,ZA0 a _ xs,⟨_,CY _ rfl,rfl,rfl⟩,d,q⟩⟩
theorem ZHR(d:QE X l tl):QI X tg l (gi tl):=⟨by
 have d:=d.h;intro Zd s O H R I h;refine d.k I h λv a x H1 I1 i j=>?_;obtain⟨z,e,q⟩:=j;subst e;obtain⟨t,rfl⟩:=i;have c:∀b∈[a.heap.objs.size],Fs X Zd H1 b:=λb m=>by
  have e:b=a.heap.objs.size:=by simpa using m
  subst e;exact I1.MB (B0 _) (I1.AJ.fresh (B0 _))
 have kp:∀(ob:Obj),Inv X Zd O H1 { a with heap:=a.heap.push ob }:=λob=>I1.kept (t':=a.toks) λb o e=>Bo _ e
 cases g:z.cps.all (· < 128)
 .refine wpAny_pyIter_wide g ?_;exact⟨a.heap.objs.size,[a.heap.objs.size],_,_,H1,rfl,kp _,l0 (t:=t) (by decide) (λA' f=>Walks.strWide f _ z t) (λ_ _ _ _ _ st h=>wpAny_pyIter_striter_wide st h),⟨_,CY _ rfl,rfl,rfl⟩,c,q⟩
 .refine wpAny_pyIter_ascii g ?_;exact⟨a.heap.objs.size,[a.heap.objs.size],_,_,H1,rfl,kp _,l0 (t:=t) (by decide) (λA' f=>Walks.strAscii f _ z t) (λ_ _ _ _ _ st h=>wpAny_pyIter_striter_ascii st h),⟨_,CY _ rfl,rfl,rfl⟩,c,q⟩⟩
theorem MW{ta:TA}(m:Gl X "range")(l:X.mg "range"=none)(c:QA X [a] ta)(i:starEach [a] X.env=[(false,eval a X.env)]:=by rfl):QI X tg (.Call (.Name "range" p) [a] [] pos) (cP ta):=⟨by
 have c:=c.h;intro Zd s O H R I h;refine Call_ (LP I m l boot_range (Wc (c.k pos I h λus n vs H1 I1 f b=>?_) i rfl));obtain⟨j,e,b,g,q⟩:=b;subst e;cases f with
 |cons r d=>
  cases d;obtain⟨t,rfl⟩:=r;exact call_range_1 (jl I1 (by omega) (by omega) b g (by simpa using q))⟩
theorem FG:Mi X [] QZ:=⟨λZd s O H Q I h=>by
 rw[du];exact uz ⟨H,I,h⟩⟩
theorem Mb{t:TT}(a:QT X c t):Mi X [c] t:=⟨ZHd a.h⟩
theorem Fy(b:X.calm=true)(S:Cs X.N X.env.scope scope x AN js)(hi:QI X (.Name x px) iter wi)
  (DE:∀fp C s H,Mi (G4 X (AN++[x]) scope (C0 X.env.cells scope.names) C s H fp) ifs tt) (DL:∀fp C s H,QE (G4 X (AN++[x]) scope (C0 X.env.cells scope.names) C s H fp) elt te)
  (a:∀v,foldedSetIterable iter X.env v=pure v:=by intro _;rfl):QE X (.ListComp elt [⟨.Name x px,iter,ifs,0⟩] scope pos) (KL wi js tt te):=⟨ZAZ b S hi.h (λfp C s H=>(DE fp C s H).h) (λfp C s H=>(DL fp C s H).h) a⟩
theorem SJ{py Ga:Pos}(c:X.N.Nodup)(Cq:X.N[i]?=some y)(a:Loc X.env.scope y)(b:X.calm=true)(S:Cs X.N X.env.scope scope x AN js)(hi:QI X (.Name x px) iter wi)
  (DE:∀fp C s H,Mi (G4 X (AN++[x]) scope (C0 X.env.cells scope.names) C s H fp) ifs tt) (DL:∀fp C s H,QE (G4 X (AN++[x]) scope (C0 X.env.cells scope.names) C s H fp) elt te)
  (K7:swapsWith (.ListComp elt [⟨.Name x px,iter,ifs,0⟩] scope pos) (some (.Name y py)) Ga.line X.env=pure true:=by rfl)
  (hf:X.fn y=true∨X.env.scope.names.lookup y=some .local:=by first|exact .inl rfl|exact .inr rfl|assumption)
  (hs:∀v,foldedSetIterable iter X.env v=pure v:=by intro _;rfl):QS X (.Assign [.Name y py] (.ListComp elt [⟨.Name x px,iter,ifs,0⟩] scope pos) Ga) (Ez (KL wi js tt te) (D2 i)):=
 ⟨ZHh c Cq a b S hi.h (λfp C s H=>(DE fp C s H).h) (λfp C s H=>(DL fp C s H).h) K7 hf hs⟩
theorem ZEw(b:X.N.Nodup)(hi:X.N[i]?=some x)(hx:Loc X.env.scope x)(a:Zq1 X x:=by first|exact .inl rfl|exact .inr rfl|assumption):QG X (.Name x pos) (D2 i):=⟨YE b hi hx a⟩
theorem WM:Sm X [] S9:=⟨eN⟩
theorem Jn{t:TG}{u:Ip}(h1:QG X e t)(h2:Sm X es u)
  (a:(assignEach (e::es) X.env).map (·.2)=assign e X.env::(assignEach es X.env).map (·.2):=by rfl):Sm X (e::es) (LK t u):=⟨kQ h1.h h2.h a⟩
theorem Vp{k:Nat}{t:Ip}(b:X.calm=true)(h:Sm X es t)(a:(assignEach es X.env).length=n:=by rfl)(Ci:(assignEach es X.env).findIdx? (·.1)=none:=by rfl):QG X (.Tuple es k pos) (O8 X.K n t):=⟨kU b h.h a Ci⟩
theorem dO{i:Expr}{ti:TE}{t:P9}(ho:QE X o to)(hi:QE X i ti)(l:UG X t)
  (m:∀v,assign (.Subscript o i pos) X.env v=(do
   let a <- holding [v] (eval o X.env)
   let b <- holding [v,a] (eval i X.env)
   standAt pos
   holding [v,a,b] (setItem a b v)
   release [v,a,b] []):=by intro _;rfl):QG X (.Subscript o i pos) (aB to ti t):=⟨by
 have ho:=ho.h;have hi:=hi.h;intro Zd s O H v u Q I r h;rw[m];refine ra (y2 (ho.k I h λa p x H1 I1 e j=>?_));refine ra (y2 (hi.k I1 j λb s2 y H2 I2 d g=>?_));refine ra (ZAj (ra (y2 (Ay (l Zd s2 O H2 x y v a b u _ I2 e d r g) λ_ n c=>?_))));obtain⟨H3,I3,f⟩:=c;exact wpAny_release ⟨O,H3,I3,f⟩⟩
end
section
variable{st:Stmt}{t u:TS}
theorem B8:FN X [] M7:=⟨d9⟩
theorem A9(e:body=st::rest)(h:QS X st t)(h2:FN X rest u):FN X body (Ly t u):=⟨yL e h.h h2.h⟩
theorem AF(e:body=[st])(h:QS X st t):FN X body t:=⟨by have h:=h.h;rw[e];exact ZIX h⟩
theorem PH:QS X st qQ:=⟨λ_ _ _ _ _ _ h=>h.elim⟩
theorem Bi(b:QE X e te)(a:swapsWith e none pos.line X.env=pure false:=by rfl):QS X (.Expr e pos) (HA te):=⟨Zk b.h a⟩
theorem Aq(a:QE X e te):QS X (.Return (some e) pos) (Hb te):=⟨by
 have a:=a.h;intro Zd s O H D I h;exact wpAny_Return_some (Ay (a Zd s O H _ I h) λv d AO=>by obtain⟨x,H1,I1,b,c⟩:=AO;exact⟨x,O,H1,I1,b,c⟩)⟩
theorem ZJ3:QS X (.Return none pos) XF:=⟨λ_ _ O H _ I h=>wpAny_Return_none ⟨.AA,O,H,I,rfl,h⟩⟩
theorem B9{a b:List Stmt}(e:QT X c tc)(g:FN X a t)(f:FN X b u):QS X (.If c a b pos) (Vo tc t u):=⟨by
 have e:=e.h;have g:=g.h;have f:=f.h;intro Zd s O H D I h;refine wpAny_If (Ay (e Zd s O H _ I h) λd i HI=>?_);obtain⟨H1,I1,j⟩:=HI;cases d with
 |true=>exact g Zd i O H1 D I1 j
 |false=>exact f Zd i O H1 D I1 j⟩
theorem VF(b:QE X e te)(a:QG X tg g)(i:swapsWithSole [tg] e pos.line X.env=pure false:=by rfl)(hw:swappedStores [tg] e X.env=pure none:=by rfl)
  (h1:(assignEach [tg] X.env).map (·.2)=[assign tg X.env]:=by rfl):QS X (.Assign [tg] e pos) (Ez te g):=⟨by
 have b:=b.h;have a:=a.h;intro Zd s O H D I h;refine wpAny_Assign_stores (b.k I h λv c x H1 I1 d f=>?_) i hw;rw[h1];exact Ay (a Zd c O H1 x v _ I1 d f) λ_ s2 q=>q⟩
theorem ZIL(f:X.N.Nodup)(hi:X.N[i]?=some x)(hx:Loc X.env.scope x)(a:QE X e te)(d:swapsWith e (some (.Name x pos')) pos.line X.env=pure false:=by rfl)(hf:Zq1 X x:=by first|exact .inl rfl|exact .inr rfl|assumption):
  QS X (.Assign [.Name x pos'] e pos) (Ez te (D2 i)):=⟨by
 have a:=a.h;intro Zd s O H D I h;refine wpAny_Assign_Name (a.k I h λv g y H1 I1 b c=>?_) d;exact Tv I1 f hi hx b (λs2 I2=>⟨_,H1,I2,c⟩) hf⟩
theorem QX(o:PassesOwn (model X.prog X.w) X.A X.env X.xe)(l:QT X c tc)(m:FN X body tb):QS X (.While c body [] pos) (VJ tc tb):=⟨by
 have l:=l.h;have m:=m.h;intro Zd s O H D I h;obtain⟨W,⟨x,t⟩,a⟩:=h;refine wpAny_While (codeAny_whileLoop (λn s'=>∃ σ' H',Inv X Zd σ' H' s'/\W n σ' H') ?_ x ⟨O,H,I,t⟩);rintro n u⟨σ1,H1,I1,r⟩;refine zt o (Ay (l Zd u σ1 H1 _ I1 (a n σ1 H1 r)) λb s2 q=>?_);obtain⟨H2,I2,e⟩:=q;cases b with
 |true=>
  obtain⟨N,p,e⟩:=e;rw[u4 rfl];refine zt o (Ay (m Zd s2 σ1 H2 _ I2 e) λf y d=>?_);cases f with
  |next=>
   obtain⟨σ3,H3,I3,i⟩:=d;obtain⟨j,k,g⟩:=p σ3 H3 i;exact⟨j,k,σ3,H3,I3,g⟩
  |cont=>
   obtain⟨σ3,H3,I3,i⟩:=d;obtain⟨j,k,g⟩:=p σ3 H3 i;exact⟨j,k,σ3,H3,I3,g⟩
  |brk=>exact d
  |ret v=>exact d
 |false=>
  rw[tK C9];exact ZAQ ⟨σ1,H2,I2,e⟩⟩
theorem EU{iter:Expr}(p:PassesOwn (model X.prog X.w) X.A X.env X.xe)(K:X.calm=true)(hi:QI X tg iter wi)(y:QG X tg g)(a:FN X body tb)
  (hs:∀x,foldedSetIterable iter X.env x=pure x:=by intro _;rfl):QS X (.For tg iter body [] pos) (Ta wi g tb):=⟨by
 have hi:=hi.h;have y:=y.h;have a:=a.h;intro Zd s O H D I h;refine wpAny_For (Ay (hi Zd s O H _ I h) λv s1 h1=>Ay h1 λVm s2 h2=>?_) hs;obtain⟨it,fp,tn,J,H2,e,I2,T,LF,L,W,⟨m0,S⟩,k⟩:=h2;subst e
 -- ZKC stays true of Ih ZLD objects through Ih loop
 have z:∀{H':Hp},(∀b∈fp,H' b=none)->∀b∈fp,Fs X Zd H' b:=λhn b a=>⟨hn b a,(L b a).2⟩;refine codeAny_forLoop_any (λn s'=>∃i σ' H',Inv X Zd σ' H' s'/\tn i s'.heap/\(∀b∈fp,H' b=none)/\W i n σ' H') ?_ m0 ⟨0,O,H2,I2,LF,λb a=>(L b a).1,S⟩;rintro n E⟨i,σ3,H3,I3,G,F,R⟩;rcases k i n σ3 H3 R with⟨stop,qn⟩|⟨go,N,hN,step⟩
 .refine zt p (Ay (T.done X rfl rfl rfl K i Zd E σ3 H3 X.xe I3 (z F) G stop) λr s4 Zg=>?_);obtain⟨t,I4⟩:=Zg;subst t;exact ZAQ ⟨σ3,H3,I4,qn⟩
 .refine zt p (Ay (T.item X rfl rfl rfl K i Zd E σ3 H3 X.xe I3 (z F) G go) λr s4 U=>?_);obtain⟨u,t,h4⟩:=U;subst t;refine zt p (Ay h4 λ_ C P=>?_);obtain⟨x,H5,I5,Z,M,Nw,Uj⟩:=P;have B:=I5.pinned (z Uj) (T.obj _ _ Nw);refine zt p (Ay (y _ C σ3 H5 x u _ B Z (step x H5 M)) λ_ V ZBW=>?_);obtain⟨σ6,H6,I6,q6⟩:=ZBW;refine zt p (Ay (a _ V σ6 H6 _ I6 q6) λf q j=>?_);have c:∀{σ7:St}{H7:Hp},Inv X (Zd++S8 fp C.heap) σ7 H7 q->N σ7 H7->∃m,m<n/\∃i σ' H',Inv X Zd σ' H' q/\tn i q.heap/\(∀b∈fp,H' b=none)/\W i m σ' H':=λ{σ7 H7}I7 l=>by
   obtain⟨m',hm,Q⟩:=hN σ7 H7 l;refine⟨m',hm,i+1,σ7,H7,I7.Rz,T.keep _ _ _ Nw λb a o e=>(I7.pin (b,o) (GQ _ (GQ _ (UO a e)))).1,λb a=>?_,Q⟩;obtain⟨o,e,d⟩:=T.obj _ _ Nw b a;exact(I7.pin (b,o) (GQ _ (GQ _ (UO a e)))).2.1
  cases f with
  |next=>obtain⟨σ7,H7,I7,l⟩:=j;exact c I7 l
  |cont=>obtain⟨σ7,H7,I7,l⟩:=j;exact c I7 l
  |brk=>obtain⟨σ7,H7,I7,j⟩:=j;exact⟨σ7,H7,I7.Rz,j⟩
  |ret v=>obtain⟨σ,σ7,H7,I7,Y,j⟩:=j;exact⟨σ,σ7,H7,I7.Rz,Y,j⟩⟩
theorem C1(h:QS X st t):QS X st (Zh t):=⟨by
 have h:=h.h;intro Zd s O H D I hw;obtain⟨J,h1,h2⟩:=hw;refine Ay (h Zd s O H _ I h1) λf s' q=>?_;cases f with
 |next=>obtain⟨σ',H',I',q⟩:=q;exact⟨σ',H',I',h2 σ' H' q⟩
 |ret v=>exact q
 |brk=>exact q
 |cont=>exact q⟩
end
theorem AG.Ec{P:Program}{K:ZLZ}{mg:ZLb}{Zp:Heap}{qual:Str}{st:Stmt}{fd:FuncData}{N:List Str}{k:Nat}(F:AG K x qual st f fd)(S:Au N ps (AL st))(len:∀vs H Q E,sp vs H Q E->vs.length=ps.length)
  (Mg:∀(Af:Value)(A:Around)(outer:List Env)(s:Shared)(H:Hp)(vs:List V)(Q:VK)(E:XK),BP k (A.deeper (envOfC qual (AL st) s.heap.objs.size f Af))->sp vs H Q E->
   ∃t,FN (Di Dr P w K mg Zp N qual (AL st) f Af A outer s H E).K3 (FQ st) t/\t { nx:=λ_ H'=>Q .AA H',rt:=Q } (start N vs) H):CU P w K mg Zp Dr (k+1) f fd ps sp:=
 F.ok S len λAf A outer s H vs Q E a h=>let ⟨t,q,r⟩:=Mg Af A outer s H vs Q E a h;⟨t,q.h,r⟩
section
theorem jc{t:Tok}:E6 (.str x) (.str y t)=(y == x):=rfl
theorem nD(x:Str):∀(ss:List Str)(m:Nat)(b:m<ss.length),m<ss.idxOf x->ss[m]≠x
 | [],_,b,_=>absurd b (Nat.not_lt_zero _)
 |a::r,m,b,h=>by
  rw[r6]at h
  by_cases e:a=x
  .have:(a == x)=true:=by simpa using e
   rw[this]at h;exact absurd h (Nat.not_lt_zero _)
  .have c:(a == x)=false:=by simpa using e
   rw[c]at h;cases m with
   |zero=>exact e
   |succ k=>
    have h':k+1<r.idxOf x+1:=h;exact nD x r k (by simpa using b) (by omega)
theorem dZ(h:x∈ss):∃a:ss.idxOf x<ss.length,ss[ss.idxOf x]=x/\∀m(b:m<ss.length),m<ss.idxOf x->ss[m]≠x:=by
 have a:ss.idxOf x<ss.length:=List.idxOf_lt_length_iff.mpr h;exact⟨a,Km a,λm b Ae=>nD x ss m b Ae⟩
def fF(K:ZLZ):V->List V->Hp->VK->Prop:=λx vs H Q=>∃(l:Addr)(ss:List Str)(y:Str),x=.ref l/\vs=[.str y]/\AU K H l (ss.map V.str)/\y∈ss/\Q (.int (ss.idxOf y:Nat)) H
theorem fY:GH X "list.index" (fF X.K):=by
 intro Zd s O H x vs v us Q I j k h;obtain⟨l,ss,y,rfl,rfl,A,p,q⟩:=h;cases j;obtain⟨u,rfl,o⟩:=k.one;obtain⟨A5,r,pl,b⟩:=I.list A;obtain⟨⟨c,d,L,i⟩,n,ho,f,hd,HL⟩:=id pl;simp only at f hd HL;subst f;subst hd;subst HL;have B:=r.length;rw[AB]at B;obtain⟨G,WI,C⟩:=dZ p;have at':∀(m:Nat)(a:m<A5.toArray.size),∃t,A5.toArray[m]=.str (ss[m]'(by simp at a;omega)) t:=λm a=>by
  have D:m<A5.length:=by simpa using a
  obtain⟨h2,t,e⟩:=ZAe r (As D);exact⟨t,by simpa using e⟩
 have g:ss.idxOf y<A5.toArray.size:=by simp;omega
 refine zJ Wd ⟨_,ho,rfl⟩ ZKn (PySem.F.args_list_index_2 _ _) (SeqAt.list_indexAt l A5.toArray n none i u (E6 (.str y)) (ss.idxOf y) g ?_ ?_ (λm a Ae=>?_)) ⟨ho,λz Md=>Jo o rfl r (by
   rw[Hr];intro w hw;obtain⟨E,_,rfl⟩:=List.mem_map.mp hw;rfl) z (by simpa using Md),?_⟩
 .have h1:ss.length<=sizeLine:=by rw[AB]at b;exact b
  have h2:=Js;have J:((sizeLine:Nat):Int)<2 ^ 63:=by exact_mod_cast h2
  omega
 .obtain⟨t,e⟩:=at' _ g;rw[e,jc];simpa using WI
 .obtain⟨t,e⟩:=at' _ a;rw[e,jc];have:=C m (by simp at a;omega) Ae
  simpa using this
 .exact⟨.int _,H,I.tok _,⟨_,rfl⟩,q⟩
def WA(t u:TE):TE:=λO H Q=>t O H Q∨u O H Q
theorem ZKI{t u:TE}(h:QE X e t)(h2:QE X e u):QE X e (WA t u):=⟨λZd s O H Q I q=>q.elim (h.h Zd s O H Q I) (h2.h Zd s O H Q I)⟩
variable{prog:Program}{A:Around}{s:Shared}{R:Result->Shared->Prop}{fp wr:List Addr}{G:Array GenState->Array GenState->Prop}{P:Nat->Value->Prop}{St:Nat->Shared->Prop}
variable{E:Value->Shared->Prop}
variable{l:Addr}{items:Array Value}
end
end L2
namespace L2
variable{X:Cx}{Zd:ZLa}{O:St}{H:Hp}{s:Shared}{h':Heap}{k1 n t':Nat}{fp:List Addr}{I a:Addr}{w:World}{es:List Expr}{prog:Program}{A:Around}{E:Value->Shared->Prop}
theorem Inv.qX(I:Inv X Zd O H s)(d:∀b∈fp,Fs X Zd H b)(k:∀b o,b∉fp->s.heap.get? b=some o->h'.get? b=some o):
  Inv X Zd O H { s with heap:=h',toks:=t' }:=by
 have f:∀b u,H b=some u->b∉fp:=λb u e z=>by rw[(d b z).1]at e;cases e
 refine I.step (g':=s.gens) (d':=s.drawn) (ch:=fp) (λb h=>?_) (λb o _ _ a e _=>k b o a e) (λb o _ _ a e _=>⟨o.slots,k b o a e⟩) (λ_ _ _ _ n=>n)
  (λb o a e=>⟨o,k b o a e⟩) (λ_ _ e=>e) (λ_ _ _ e=>e) (λb ps e=>⟨#[],by rw[e];simp⟩) (λm g=>?_) (λb u e=>?_) I.bare
 .obtain⟨_,h1,_,l,j,i⟩:=d b h;exact⟨l,h1,j,i⟩
 .obtain⟨o,es,p,ho,r⟩:=g;exact⟨o,es,p,k _ o (λz=>(d _ z).2.1 rfl) ho,r⟩
 .refine(I.AJ b u e).HQ (λc v a q=>k c v ?_ q) (λ_ q=>q) λ_ _ q=>q;rcases a with z|z
  .rw[z];exact f b u e
  .exact f c _ z
theorem Inv.jU{o:HO}(I:Inv X Zd O H s)(h:∀b∈fp,Fs X Zd H b)(k:∀b o,b∉fp->s.heap.get? b=some o->h'.get? b=some o)
  (i:s.heap.objs.size<=a) (new:CL X.prog X.w (upd H a o) h' a o):Inv X Zd O (upd H a o) { s with heap:=h',toks:=t' }:=by
 have l:H a=none:=I.AJ.fresh i;have j:∀b u,H b=some u->b∉fp:=λb u e z=>by rw[(h b z).1]at e;cases e
 have ne:∀b u,H b=some u->b≠a:=λb u e=>D7 e l;have g:∀b u,s.heap.get? b=some u->b≠a:=λb u e=>Cn (EE (BE e) i);refine I.step (g':=s.gens) (d':=s.drawn) (ch:=fp) (λb f=>?_) (λb o _ _ d e _=>k b o d e) (λb o _ _ d e _=>⟨o.slots,k b o d e⟩) (λb o _ e n=>by rw[AW (g b o e)];exact n)
  (λb o d e=>⟨o,k b o d e⟩) (λb _ e=>by rw[AW (ne b _ e)];exact e) (λb _ _ e=>by rw[AW (ne b _ e)];exact e) (λb ps e=>⟨#[],by rw[AW (ne b _ e),e];simp⟩) (λm p=>?_) (λb u e=>?_) I.bare
 .obtain⟨_,h1,_,y,x,t⟩:=h b f;exact⟨y,h1,x,t⟩
 .obtain⟨o,es,A,ho,r⟩:=p;exact⟨o,es,A,k _ o (λz=>(h _ z).2.1 rfl) ho,r⟩
 .by_cases f:b=a
  .subst f;rw[B3]at e;cases e;exact new
  .rw[AW f]at e;refine(I.AJ b u e).HQ (λc v d q=>k c v ?_ q) (λc q=>by rw[AW (ne c _ q)];exact q) λc _ q=>by rw[AW (ne c _ q)];exact q
   rcases d with z|z
   .rw[z];exact j b u e
   .exact j c _ z
def jn(K:ZLZ)(a:Addr)(xs:List V):It:=
 ⟨λi H=>AU K H a xs/\i<xs.length,λi H x H'=>∃p y,xs[i]?=some y/\x=.ref p/\H p=none/\H'=upd H p (.tup [.int i,y]),λi H=>AU K H a xs/\xs.length<=i⟩
theorem xY{P:Program}{K:ZLZ}{p1:Pos}(a e it:Addr)(xs:List V)(F:e≠it):
  Turn P w K (.Tuple es k1 p1) (jn K a xs) [e,it] e (λi h=>(∃c,IsEnum h e it i c)/\h.IsListIter it a i) where
 mem:=by simp
 obj:=λi h st b g=>by
  obtain⟨⟨c,h1⟩,o,h2,_,d⟩:=st;rcases List.mem_cons.mp g with z|z
  .subst z;exact⟨_,h1,λv z=>by cases z⟩
  .have:b=it:=by simpa using z
   subst this;exact⟨o,h2,λv z=>by rw[d]at z;cases z⟩
 keep:=λi h h' st k=>⟨let ⟨c,h1⟩:=st.1;⟨c,k e (by simp) _ h1⟩,st.2.at λo q=>k it (by simp) o q⟩
 item:=by
  intro X B hw C G i Zd s O H E I l st y;subst B hw C;obtain⟨r,hi⟩:=y;obtain⟨⟨c,j⟩,f⟩:=st;obtain⟨A5,m,p,N⟩:=I.list r;obtain⟨u,σ,M⟩:=m.get (As hi);refine wpAny_pyNext_enum_item j f p.isList (x:=u) (by simpa using σ) F λh1 Li Nz n T t=>⟨_,rfl,?_⟩
  refine wpAny_letOwnedTupleGo_enum Li λh2 A Cg=>?_;have L:e<s.heap.objs.size:=BE j;have J:h2.get? s.heap.objs.size=some { cls:=.type "tuple", data:=.seq #[.int i s.toks,u] }:=(Cg.2 _ (Lx L)).trans n;have kp:∀b o,b∉[e,it]->s.heap.get? b=some o->h2.get? b=some o:=λb o g q=>by
   have D:b≠e/\b≠it:=by simpa using g
   exact(Cg.2 b D.1).trans (t b o D.1 D.2 q)
  refine⟨.ref s.heap.objs.size,_,I.jU (t':=s.toks+1) (a:=s.heap.objs.size) (o:=.tup [.int i,xs[i]]) l kp (B0 _) ?_,rfl,⟨_,_,As hi,rfl,I.AJ.fresh (B0 _),rfl⟩,⟨⟨_,A⟩,Nz.at λo q=>(Cg.2 it (BO F)).trans q⟩,λb g=>?_⟩
  .exact⟨(by show 2<=sizeLine;decide),[.int i s.toks,u],.cons ⟨_,rfl⟩ (.cons M .nil),⟨_,J,rfl,_,rfl⟩,λob q=>by rw[J]at q;cases q;rfl⟩
  .have R:b<s.heap.objs.size:=by
    rcases List.mem_cons.mp g with z|z
    .rw[z];exact L
    .have:b=it:=by simpa using z
     obtain⟨o,q,_⟩:=f;rw[this];exact BE q
   rw[AW (Cn R)];exact(l b g).1
 done:=by
  intro X B hw C G i Zd s O H E I l st y;subst B hw C;obtain⟨r,hx⟩:=y;obtain⟨⟨c,j⟩,f⟩:=st;obtain⟨A5,m,p,N⟩:=I.list r;have S:=m.length;exact wpAny_pyNext_enum_end (I.ok.hd G) j f p.isList (by simp;omega) λh' Q=>⟨rfl,I.qX (t':=s.toks) l λb o g q=>Q b o (λz=>g (by simp[z])) q⟩
 self:=λ_ _ _ _ _ st h=>let ⟨⟨_,j⟩,_⟩:=st;wpAny_pyIter_enum j h
def XX(K:ZLZ)(t:TA):TI:=λO H R=>t O H λvs H1=>∃a xs,vs=[.ref a]/\AU K H1 a xs/\R (jn K a xs) H1
theorem l6{p1 p pos:Pos}{l:Expr}{t:TA}(v:Gl X "enumerate")(r:X.mg "enumerate"=none)(e:QA X [l] t)(n:starEach [l] X.env=[(false,eval l X.env)]:=by rfl):
  QI X (.Tuple es k1 p1) (.Call (.Name "enumerate" p) [l] [] pos) (XX X.K t):=⟨by
 have e:=e.h;intro Zd s O H R I h;refine xn (LP I v r (show bootBuiltins "enumerate"=some (.type "enumerate") by decide+kernel) ?_ (by decide) (by decide));refine Wc (e.k pos I h λus c vs H1 I1 j m=>?_) n rfl;obtain⟨a,xs,rfl,o,q⟩:=m;obtain⟨u,rfl,i⟩:=vals1 j;cases i;obtain⟨A5,y,p,A⟩:=I1.list o;refine call_enumerate_list p.isList λh' f d hsz kp=>?_;refine wpAny_pyIter_enum f ?_;have x:c.heap.objs.size+1≠c.heap.objs.size:=Nat.succ_ne_self _;refine⟨c.heap.objs.size+1,[c.heap.objs.size+1,c.heap.objs.size],_,_,H1,rfl,I1.kept (t':=c.toks) kp,xY a _ _ xs x,⟨⟨_,f⟩,d⟩,λb w=>?_,q⟩;have g:c.heap.objs.size<=b:=by
  rcases List.mem_cons.mp w with z|z
  .rw[z];exact JW _
  .have:b=c.heap.objs.size:=by simpa using z
   rw[this];exact B0 _
 exact I1.MB g (I1.AJ.fresh g)⟩
theorem Wr{l:List (Int×Value)}(h:ElemsOf (PySem.strKind prog w) l):∃ts,StrsAre (l.map (·.2)) ts/\∀k,k∈ts↔∃e∈l,(PySem.strKind prog w).is k e.2=true:=by
 induction l with
 |nil=>exact⟨[],.nil,λk=>by simp⟩
 |cons e r b=>
  obtain⟨ts,h1,h2⟩:=b h.tail;obtain⟨⟨k,hk,_⟩,_⟩:=h.head;obtain⟨tk,c⟩:=Value.isStrOf_shape hk;refine⟨k::ts,?_,λa=>?_⟩
  .rw[B6,c];exact .cons k tk h1
  .rw[GR,h2 a];constructor
   .rintro(rfl|⟨x,hx,q⟩)
    .exact⟨e,Fh,hk⟩
    .exact⟨x,E2 _ hx,q⟩
   .rintro⟨x,hx,q⟩;rcases List.mem_cons.mp hx with rfl|hx
    .exact .inl ((PySem.strKind prog w).inj x.2 a k q hk)
    .exact .inr ⟨x,hx,q⟩
section
variable{R:Result->Shared->Prop}{wr:List Addr}{G:Array GenState->Array GenState->Prop}{P:Nat->Value->Prop}{St:Nat->Shared->Prop}{ss:List Str}
theorem Inv.drew(I:Inv X Zd O H s)(d:Drawn):Inv X Zd O H { s with drawn:=d }:=
 I.step (h':=s.heap) (g':=s.gens) (t':=s.toks) (d':=d) (ch:=[]) (λ_ z=>nomatch z) (λb o _ _ _ e _=>e) (λb o _ _ _ e _=>⟨o.slots,e⟩) (λ_ _ _ _ n=>n) (λb o _ e=>⟨o,e⟩) (λ_ _ e=>e) (λ_ _ _ e=>e) (λb ps e=>⟨#[],by rw[e];simp⟩) (λm a=>a) I.AJ I.bare
end
theorem T9:∀{ss:List Int}{us:List Value},Vals (ss.map V.int) us->IntsAre us ss
 | [],_,.nil=>.nil
 |x::r,_,.cons ⟨t,e⟩ h=>by rw[e];exact .cons x t (T9 h)
end L2
namespace HT
open AutoSeq1 (wpAny_loadPart')
variable{E Q:Value->Shared->Prop}{it tu:Addr}{i:Nat}
section
variable{prog:Program}{w:World}{A:Around}{s:Shared}
theorem ZER{vals:Array Value}{v:Value}(hi:s.heap.IsTupleIter it tu i)(c:s.heap.IsTuple tu vals)(b:vals[i]?=some v)
  (q:∀h',h'.IsTupleIter it tu (i+1)->Heap.SameBut it s.heap h'->Q v { s with heap:=h' }):wpAny (model prog w) A (Builtin.SmallTypes.nextOf (.ref it)) Q E s:=by
 obtain⟨o,ho,d,hd⟩:=id hi;obtain⟨e,NA,_,k,a⟩:=c;unfold Builtin.SmallTypes.nextOf;refine ra (ZAX (name:=Str.ofString "__next__") hi.typeIs dm (ZAm dm hi.typeIs ZKO ?_ (ZKN _)));show wpAny _ _ (field (.ref it) 0 >>= _) _ _ s;refine ra (yz ho hd (x:=.ref tu) rfl ?_);show wpAny _ _ (if(Value.ref tu == Value.none)=true then _ else _) _ _ s;rw[tK (show ¬ ((Value.ref tu == Value.none)=true)from C9)]
 show wpAny _ _ (field (.ref it) 1 >>= _) _ _ s;refine ra (yz ho hd (x:=.int i 0) rfl ?_);show wpAny _ _ (seqItems? (.ref tu) >>= _) _ _ s;refine ra (y4 NA a ?_);simp only[Hq,b];refine ra (ZAa ho hd (by simp) (uz ⟨v,rfl,uz (q _ ?_ (Heap.SameBut.update ..))⟩));exact⟨_,JT _ ho (rN (WZ hd _)),(Obj.cls_mapFields ..).trans d,by rw[WZ hd];simp[rawInt]⟩
theorem ZCc{vals:Array Value}(hh:A.handled=none)(hi:s.heap.IsTupleIter it tu i)(d:s.heap.IsTuple tu vals)(c:vals[i]?=none)
  (q:∀h' e,Heap.ExtBut it s.heap h'->(∃o,h'.get? e=some o/\o.cls=.type "StopIteration")->E (.ref e) { s with heap:=h' }):wpAny (model prog w) A (Builtin.SmallTypes.nextOf (.ref it)) Q E s:=by
 obtain⟨o,ho,g,hd⟩:=id hi;obtain⟨f,NA,_,k,b⟩:=d;unfold Builtin.SmallTypes.nextOf;refine ra (ZAX (name:=Str.ofString "__next__") hi.typeIs dm (ZAm dm hi.typeIs ZKO ?_ (ZKN _)));show wpAny _ _ (field (.ref it) 0 >>= _) _ _ s;refine ra (yz ho hd (x:=.ref tu) rfl ?_);show wpAny _ _ (if(Value.ref tu == Value.none)=true then _ else _) _ _ s;rw[tK (show ¬ ((Value.ref tu == Value.none)=true)from C9)]
 show wpAny _ _ (field (.ref it) 1 >>= _) _ _ s;refine ra (yz ho hd (x:=.int i 0) rfl ?_);show wpAny _ _ (seqItems? (.ref tu) >>= _) _ _ s;refine ra (y4 NA b ?_);simp only[Hq,c];refine ra (wpAny_rule (ra (ZAa ho hd (by simp) ?_)));show wpAny _ _ (newExc (.type "StopIteration") [] >>= _) _ _ _;refine ra ?_;simp only[newExc,newTuple];refine ra (ZAG ?_ (by size_fits));refine ra (m:=firstArgMember _ _) (wpAny_of_eq (a:=Value.none) (by first|rfl|(simp only[firstArgMember];rfl)) ?_);refine ZAG ?_ (by size_fits)
 simp only[raiseNew];refine ra (wpAny_handled ?_);first|rw[show A.in1.handled=none from hh]|rw[hh]
 refine ra (uz (wpAny_throw ?_));exact q _ _ (((Heap.SameBut.update ..).extBut.push _).push _) ⟨_,CY _ rfl,rfl⟩
end
end HT
namespace MA
noncomputable def SK:Nat->Nat->List Nat
 | 0,n=>[97+n]
 |k+1,n=>if n<26 then[97+n]else(97+n % 26)::SK k (n / 26)
theorem Mm:∀(k:Nat){n:Nat},n<26->SK k n=[97+n]
 | 0,_,_=>rfl
 |_+1,_,h=>u4 h
theorem mZ:∀(k j n:Nat),n<=k->n<=j->SK k n=SK j n
 | 0,j,n,h,_=>by rw[Mm 0 (Kq h (by decide)),Mm j (Kq h (by decide))]
 |k+1,0,n,_,h=>by rw[Mm (k+1) (Kq h (by decide)),Mm 0 (Kq h (by decide))]
 |k+1,j+1,n,h1,h2=>by
  by_cases c:n<26
  .rw[Mm _ c,Mm _ c]
  .have d:n / 26<n:=Nat.div_lt_self (EE (by decide) (dw c)) (by decide);show(if n<26 then _ else _)=(if n<26 then _ else _)
   rw[tK c,tK c,mZ k j (n / 26) (rK (EE d h1)) (rK (EE d h2))]
def lets(n:Nat):List Nat:=SK n n
def vals:List Nat->Nat
 | []=>0
 |c::r=>(c - 97)+26 * vals r
theorem PF{n:Nat}(h:n<26):lets n=[97+n]:=Mm n h
theorem Qg{n:Nat}(h:¬ n<26):lets n=(97+n % 26)::lets (n / 26):=by
 cases n with
 |zero=>exact absurd (by decide) h
 |succ k=>
  have d:(k+1) / 26<k+1:=Nat.div_lt_self (WY k) (by decide);show(if k+1<26 then _ else _)=_
  rw[tK h,mZ k ((k+1) / 26) ((k+1) / 26) (rK d) (B0 _)];rfl
theorem pe:∀n,vals (lets n)=n:=by
 intro n
 induction n using Nat.strongRecOn with
 |_ n a=>
  by_cases h:n<26
  .rw[PF h];simp[vals]
  .rw[Qg h];have:=a (n / 26) (by omega);simp only[vals,this];omega
theorem rf{a b:Nat}(h:lets a=lets b):a=b:=by rw[<- pe a,h,pe]
theorem dI(n:Nat):1<=(lets n).length:=by
 by_cases h:n<26
 .rw[PF h];simp
 .rw[Qg h];simp
theorem Te:∀(k n:Nat),n<26 ^ (k+1)->(lets n).length<=k+1
 | 0,n,h=>by rw[PF (by simpa using h)];simp
 |k+1,n,h=>by
  by_cases h1:n<26
  .rw[PF h1];simp
  .rw[Qg h1];have:=Te k (n / 26) (by rw[Nat.pow_succ]at h;exact Nat.div_lt_of_lt_mul (by rw[Nat.mul_comm];exact h));simp only[Ck];omega
theorem ZJG:∀n,∀c∈lets n,97<=c/\c<=122:=by
 intro n
 induction n using Nat.strongRecOn with
 |_ n b=>
  by_cases h:n<26
  .rw[PF h];intro c a;simp at a;omega
  .rw[Qg h];intro c a;rcases List.mem_cons.mp a with e|e
   .omega
   .exact b (n / 26) (by omega) c e
theorem jV{α:Type}[DecidableEq α]:∀(k:Nat)(f:Nat->α)(l:List α),(∀i j,i<k->j<k->f i=f j->i=j)->(∀i,i<k->f i∈l)->k<=l.length
 | 0,_,_,_,_=>Cf _
 |k+1,f,l,hi,hm=>by
  have h1:=hm k (dz k);have:=jV k f (l.erase (f k)) (λi j a b e=>hi i j (by omega) (by omega) e) (λi a=>by
   have c:f i≠f k:=λe=>by have:=hi i k (by omega) (by omega) e;omega
   exact(rD c).mpr (hm i (by omega)))
  rw[r8 h1]at this;have d:=r9 h1;omega
end MA
namespace Lw
open L2
variable{a l p:Addr}{H H' H2:Hp}{xs:List V}{o:HO}{α:Type}{n:Nat}{i j r:Int}{ns:List Str}{x z:Str}
def C4(H:Hp)(p:Addr):Prop:=∃a b:Int,H p=some (.lst [.int a,.int b])/\0<=a/\a<10 ^ 256/\0<=b/\b<2147483647
structure CC (p:Addr) (H H':Hp):Prop where
 AY:C4 H' p
 same:HP p H H'
theorem CC.trans{H1:Hp}(a:CC p H H1)(b:CC p H1 H2):CC p H H2:=⟨b.AY,a.same.trans b.same⟩
theorem CC.of(h:C4 H p)(s:AR H H'):CC p H H':=by
 obtain⟨a,b,e,r⟩:=h;exact⟨⟨a,b,s _ _ e,r⟩,HP.of s⟩
theorem CC.Qt{K:ZLZ}(s:CC p H H')(h:AU K H a xs)(Bl:a≠p):AU K H' a xs:=by
 rcases h with(h|⟨o,h⟩)|h
 .exact .inl (.inl (s.same _ _ Bl h))
 .exact .inl (.inr ⟨o,s.same _ _ Bl h⟩)
 .exact .inr h
theorem CC.at'(s:CC p H H')(h:H a=some o)(Bl:a≠p):H' a=some o:=s.same _ _ Bl h
theorem Pg{a:Int}(c:-(10 ^ 20)<a)(h1:a<10 ^ 20):a.natAbs<2 ^ 1000:=by
 have b:a.natAbs<10 ^ 20:=by omega
 exact rL b (by decide+kernel)
def Ue(K:ZLZ):Sp:=λvs H Q _=>∃(a:Addr)(ns:List Int)(k:Int),vs=[.ref a,.int k]/\AU K H a (ns.map V.int)/\0<=k/\k<=1000/\∀p H',H p=none->AR H H'->C4 H' p->Q (.ref p) H'
def La:Sp:=λvs H Q _=>∃(p:Addr)(m:Int),vs=[.ref p,.int m]/\C4 H p/\0<m/\m<10 ^ 18/\∀r H',0<=r->r<m->CC p H H'->Q (.int r) H'
def Dn(l:List Nat):Str:=⟨l.toArray⟩
def je:Sp:=λvs H Q _=>∃r:Int,vs=[.int r]/\0<=r/\r<26 ^ 8/\∀H',AR H H'->Q (.str (Dn (MA.lets r.toNat))) H'
theorem Pe{xs:List α}{k:Int}{v:α}(b:0<=k)(h:xs[k.toNat]?=some v):C5 xs k=some v:=by
 have a:k=((k.toNat:Nat):Int):=by omega
 have q:=Fx h;rw[<- a]at q;exact q
abbrev PL:Str:="abcdefghijklmnopqrstuvwxyz"
theorem ZCR:∀j,j<26->PL.cps.toList[j]?=some (97+j):=by decide+kernel
theorem iK{k:Int}(a:0<=k)(h1:k<26):C5 PL.cps.toList k=some (97+k.toNat):=Pe a (ZCR _ (by omega))
theorem qV(l:List Nat)(c:Nat):Dn l++(⟨#[c]⟩:Str)=Dn (l++[c]):=by
 show(⟨l.toArray++#[c]⟩:Str)=⟨(l++[c]).toArray⟩;simp
theorem VU(l:List Nat):(Dn l).length=l.length:=by simp[Dn,Str.length]
theorem og{l:List Nat}:(V.str (Dn l)=V.str (Str.ofString ""))↔l=[]:=by
 constructor
 .intro h;injection h with h
  have h2:=wH (λx=>x.cps.toList) h;have e:(Str.ofString "").cps.toList=[]:=by decide+kernel
  rw[e]at h2
  simpa[Dn]using h2
 .rintro rfl;rfl
theorem small(h:n<=100000):n<=sizeLine:=CB h (by decide+kernel)
theorem fg{k:Nat}{pre:List Nat}(h:pre++MA.lets k=MA.lets n):(0<k / 26->(pre++[97+k % 26])++MA.lets (k / 26)=MA.lets n)/\(k / 26=0->pre++[97+k % 26]=MA.lets n):=by
 constructor
 .intro h1;rw[MA.Qg (by omega)]at h;rw[<- h,C6];rfl
 .intro h1;have h2:k<26:=by omega
  rw[MA.PF h2]at h;rw[<- h,Nat.mod_eq_of_lt h2]
def Nm(x:Str):Prop:=1<=x.length/\x.length<=8/\∀c∈x.cps.toList,97<=c/\c<=122
instance (x:Str):Decidable (Nm x):=by unfold Nm;exact inferInstance
theorem J7(x:Str):x.length=x.cps.toList.length:=by simp[Str.length]
theorem XM(h:n<26 ^ 8):Nm (Dn (MA.lets n)):=by
 refine⟨by rw[VU];exact MA.dI n,by rw[VU];exact MA.Te 7 n h,λc a=>MA.ZJG n c (by simpa[Dn]using a)⟩
noncomputable def menu:List Str:=["put","take","none","ahead","all","over","next","a","ab","abc","abcdefgh","b","step"]
theorem xf:∀x∈menu,Nm x:=by decide+kernel
noncomputable def V1:List V:=[.str "put",.str "take",.str "none",.str "ahead",.str "all",.str "over",.str "next",.str "a",.str "ab",.str "abc",.str "abcdefgh",.str "b",.str "step"]
theorem ZBK(a:0<=i)(h1:i<13):∃x,C5 V1 i=some (.str x)/\Nm x:=by
 have b:menu.length=13:=rfl;have hi:i.toNat<menu.length:=by omega
 have e:V1=menu.map V.str:=rfl;refine⟨menu[i.toNat],Pe a ?_,xf _ (Lr hi)⟩;rw[e,Ax,As hi];rfl
theorem qU(a:0<=i)(h1:i<ns.length):∃x,C5 (ns.map V.str) i=some (.str x)/\x∈ns/\ns[i.toNat]?=some x:=by
 have hi:i.toNat<ns.length:=by omega
 exact⟨ns[i.toNat],Pe a (by rw[Ax,As hi];rfl),Lr hi,As hi⟩
theorem MU(ns:List Str):(ns.map V.str).all Dk=true:=by
 rw[Hr];intro x hx;obtain⟨y,_,rfl⟩:=List.mem_map.mp hx;rfl
theorem Ww(x:Str)(ns:List Str):ND (.str x) (ns.map V.str)=decide (x∈ns):=by
 unfold ND;rw[Nc,ZKR,ZA3];constructor
 .rintro⟨v,b,h⟩;obtain⟨y,a,rfl⟩:=List.mem_map.mp b;have h':(y == x)=true:=h;have:y=x:=by simpa using h'
  rw[<- this];exact a
 .intro h;exact⟨.str x,List.mem_map.mpr ⟨x,h,rfl⟩,by show(x == x)=true;simp⟩
theorem jh(xs:List V):IW xs []=decide (xs=[]):=by
 cases xs with
 |nil=>rfl
 |cons x r=>rw[OB (by simp)];simp
theorem ZGJ(z:Str){a b:Nat}{lo hi:Option Int}(Pb:a<=b)(c:b<=z.length)(e:Builtin.Str.strSliceIndices lo hi 1 z.length=Builtin.Str.strSliceIndices (some (a:Int)) (some (b:Int)) 1 z.length):
  (Txt.slice z lo hi).cps.toList=(z.cps.toList.drop a).take (b - a):=by
 have q:=StrLaws.sliced_plain z Pb c;rw[<- e]at q;unfold Txt.slice;split
 .rename_i h;have d:(Builtin.Str.strSliceIndices lo hi 1 z.length).length=z.length:=by simpa using h
  rw[e,StrLaws.strSliceIndices_plain Pb c,AB,Ls]at d;have h1:a=0:=by omega
  have h2:b=z.length:=by omega
  subst h1;subst h2;rw[dr,WX,J7,G6]
 .rw[<- q]
theorem ZFI(h:0<=j):max (0:Int) (min j (n:Int))=max 0 (min ((min j.toNat n:Nat):Int) (n:Int)):=by
 have e:((min j.toNat n:Nat):Int)=min j n:=by
  rcases dy j.toNat n with c|c
  .rw[WW c,qp h,Int.min_eq_left (by have:=Int.ofNat_le.mpr c;rw[qp h]at this;exact this)]
  .rw[e6 c,Int.min_eq_right (by have:=Int.ofNat_le.mpr c;rw[qp h]at this;exact this)]
 rw[e,Int.min_assoc,Int.min_self]
theorem zF(z:Str)(h:0<=j):(Txt.slice z none (some j)).cps.toList=z.cps.toList.take j.toNat:=by
 have e:=ZGJ z (a:=0) (b:=min j.toNat z.length) (lo:=none) (hi:=some j) (Cf _) (Nat.min_le_right _ _) (by
  have h1:¬ j<0:=by omega
  have h2:¬ (((min j.toNat z.length:Nat):Int)<0):=Int.not_lt.mpr (Int.natCast_nonneg _);have c:max (0:Int) (min j (z.length:Int))=max 0 (min ((min j.toNat z.length:Nat):Int) (z.length:Int)):=ZFI h;simp only[Builtin.Str.strSliceIndices,h1,h2,if_false,c];rfl)
 rw[e,dr,WX];rcases dy j.toNat z.length with h1|h1
 .rw[WW h1]
 .rw[e6 h1,J7,G6,Pn (by rw[<- J7];exact h1)]
theorem mQ(h:1<=j)(d:j<=8)(b:1<=z.length)(a:∀c∈z.cps.toList,97<=c/\c<=122):Nm (Txt.slice z none (some j)):=by
 have e:=zF z (j:=j) (by omega);refine⟨?_,?_,λc Me=>a c ?_⟩
 .rw[J7,e,Dj,<- J7];omega
 .rw[J7,e,Dj];omega
 .rw[e]at Me;exact Pl Me
theorem fc(x y:Str):(x++y).cps.toList=x.cps.toList++y.cps.toList:=by
 show(x.cps++y.cps).toList=_;simp
theorem jJ(x y:Str):(x++y).length=x.length+y.length:=by rw[J7,fc,By,<- J7,<- J7]
def iq(K:ZLZ):Sp:=λvs H Q _=>∃(p q:Addr)(ns:List Str),vs=[.ref p,.ref q]/\C4 H p/\H q=some (.lst (ns.map V.str))/\q≠p/\(∀x∈ns,Nm x)/\ns.length<=1000/\∀x H',Nm x->x∉ns->CC p H H'->Q (.str x) H'
theorem ZBp{k:Nat}(h:∀j,j<k->Dn (MA.lets j)∈ns):k<=ns.length:=
 MA.jV k (λj=>Dn (MA.lets j)) ns (λi j _ _ e=>MA.rf (by
  have:=wH (λx=>x.cps.toList) e
  simpa[Dn]using this)) h
theorem ZFy:1000<26 ^ 8:=by decide+kernel
theorem ZJU:(1000:Int)<26 ^ 8:=by decide+kernel
theorem ZE4:(26:Int) ^ (8:Int).toNat - 26<26 ^ 8:=by decide+kernel
theorem ZDL:(26:Int)<26 ^ 8:=by decide+kernel
theorem ZDm:(0:Int)<26 ^ (8:Int).toNat - 26:=by decide+kernel
theorem ZBu:(26:Int) ^ (8:Int).toNat - 26<10 ^ 18:=by decide+kernel
theorem fZ(a:0<=r)(h:r<26 ^ 8):r.toNat<26 ^ 8:=by omega
theorem CC.upd(s:CC p H H2)(h:H l=none)(Bl:l≠p):CC p H (upd H2 l o):=by
 obtain⟨a,b,e,r⟩:=s.AY;refine⟨⟨a,b,by rw[AW (BO Bl)];exact e,r⟩,λc u d q=>?_⟩;rw[AW (D7 q h)];exact s.same c u d q
theorem C4.ne(h:C4 H p)(a:H l=none):l≠p:=by
 obtain⟨_,_,e,_⟩:=h;exact(D7 e a).symm
theorem AR.none(s:AR H H2)(h:H2 l=none):H l=none:=by
 cases q:H l with
 |none=>rfl
 |some o=>rw[s l o q]at h;cases h
def ZW:Sp:=λvs H Q _=>∃(p:Addr)(m:Int),vs=[.ref p,.int m]/\C4 H p/\0<=m/\m<=100/\
 ∀l H'(ns:List Str),H l=none->CC p H H'->H' l=some (.lst (ns.map V.str))->(ns.length:Int)=m->(∀x∈ns,Nm x)->ns.Nodup->Q (.ref l) H'
theorem Ol{l:List α}{x:α}(h:l.Nodup)(hx:x∉l):(l++[x]).Nodup:=by
 rw[Cy];exact⟨h,by simp,λa d b c=>by
  have:b=x:=by simpa using c
  subst this;rintro rfl;exact hx d⟩
def V6(c:Nat):Bool:=!(Builtin.Str.occurrences PL ⟨#[c]⟩ 0 PL.length 1).isEmpty
def isNm(x:Str):Bool:=decide ((1:Int)<=x.length) && (decide ((x.length:Int)<=8) && x.cps.toList.all V6)
def aS:Sp:=λvs H Q _=>∃x:Str,vs=[.str x]/\x.length<=1000/\∀H',AR H H'->Q (.bl (isNm x)) H'
theorem wJ(l:List α):l.filter (λ_=>true)=l:=List.filter_eq_self.mpr λ_ _=>rfl
def gH:V->V
 | .str y=>.bl (!(Builtin.Str.occurrences PL y 0 PL.length 1).isEmpty)
 |_=>.bl false
theorem ZAB(x:Str):((Hc x).filter (λ_=>true)).map gH=(x.cps.toList.map V6).map V.bl:=by
 unfold Hc;rw[wJ,Cm,Cm];rfl
theorem signs_get{i:Nat}{v:V}(h:(Hc x)[i]?=some v):∃c,v=.str ⟨#[c]⟩:=by
 unfold Hc at h;rw[Ax]at h;cases q:x.cps.toList[i]? with
 |none=>rw[q]at h;cases h
 |some c=>rw[q]at h;simp at h;exact⟨c,h.symm⟩
theorem all_map(f:α->Bool)(l:List α):(l.map f).all id=l.all f:=by rw[List.all_map];rfl
theorem ZJk(xs:List Str):IW (xs.map V.str) (xs.map V.str)=true:=by
 rw[O0 rfl,Hr];intro j a;have b:j<xs.length:=by simpa using a
 have e:(xs.map V.str)[j]?=some (.str xs[j]):=by rw[Ax,As b];rfl
 rw[R4 e];show(xs[j] == xs[j])=true;simp
def RB(K:ZLZ):Sp:=λvs H Q _=>∃(a:Addr)(ns:List Int),vs=[.ref a]/\AU K H a (ns.map V.int)/\ns.length<=63/\∀H',Q (.bl true) H'
def Em(tp:Bool)(xs:List V):HO:=match tp with
 |false=>.lst xs
 |true=>.tup xs
theorem Em.sq{K:ZLZ}{tp:Bool}(h:H a=some (Em tp xs)):HH K tp H a xs:=by
 cases tp
 .exact AU.of h
 .exact BW.of h
theorem BC{c A B:Prop}[Decidable c](h:¬ c)(b:B):if c then A else B:=by rw[tK h];exact b
theorem ZJd:∀j,j<26->V6 (97+j)=true:=by decide+kernel
theorem ya(h:Nm x):isNm x=true:=by
 obtain⟨h1,h2,f⟩:=h;unfold isNm;rw[uL (by omega),uL (by omega),qh,qh,Hr];intro c d;obtain⟨a,b⟩:=f c d;have:=ZJd (c - 97) (by omega);have e:97+(c - 97)=c:=by omega
 rw[e]at this;exact this
theorem Mh(ns:List Str):(ns.map V.str).length=ns.length:=AB _
end Lw
namespace Fz
open L2 Lw
variable{F F' H H':Hp}{v:V}{Bt vs:List V}{i i0 j n:Nat}{a l:Addr}{r:List V->Hp->VK->Prop}{O τ:L2.St}{o:HO}{ta tc te:TE}{tb u:TS}{b neg tp:Bool}{A:List Addr}{α:Type}{Q:VK}{f:Int->Int->Int}{g:TG}{c tt:TT}{wi:TI}{X:XK}
inductive PV where
 |AA|bl (b:Bool)|int (i:Int)|str (x:Str)|lst (xs:List PV)|tup (xs:List PV)
 |BJ (ks:List Key) (xs:List PV)|obj (C:Addr) (ns:List Str) (xs:List PV)|exc (C:Addr) (ns:List Str) (xs:List PV)|con (a:Addr) (xs:List PV)
variable{p:PV}{ps xs:List PV}
def Ie(a C:Addr)(dx:Option Addr):HO:=.ext λh=>∃ob vs,h.get? a=some ob/\ob.cls=.ref C/\ob.dict=dx/\ob.data=.fields vs
mutual
inductive Rep (F:Hp):V->PV->Prop where
 |AA:Rep F .AA .AA
 |bl (b:Bool):Rep F (.bl b) (.bl b)
 |int (i:Int):Rep F (.int i) (.int i)
 |str (x:Str):Rep F (.str x) (.str x)
 |lst {a:Addr}{vs:List V}{xs:List PV}:F a=some (.lst vs)->AV F vs xs->Rep F (.ref a) (.lst xs)
 |tup {a:Addr}{vs:List V}{xs:List PV}:F a=some (.tup vs)->AV F vs xs->Rep F (.ref a) (.tup xs)
 |BJ {a:Addr}{ks:List Key}{vs:List V}{xs:List PV}:F a=some (.dK (ks.zip vs))->ks.length=vs.length->AV F vs xs->Rep F (.ref a) (.BJ ks xs)
 |obj {a C dx:Addr}{ns:List Str}{vs:List V}{xs:List PV}:F a=some (.ins C dx (ns.zip vs))->F dx=some (.own a)->ns.length=vs.length->AV F vs xs->Rep F (.ref a) (.obj C ns xs)
 |con {a:Addr}{xs:List PV}:Rep F (.ref a) (.con a xs)
 |Uy {a C:Addr}:F a=some (Ie a C none)->Rep F (.ref a) (.exc C [] [])
 |exc {a C dx:Addr}{ns:List Str}{vs:List V}{xs:List PV}:F a=some (Ie a C (some dx))->F dx=some (.xd (ns.zip vs))->ns.length=vs.length->AV F vs xs->Rep F (.ref a) (.exc C ns xs)
inductive AV (F:Hp):List V->List PV->Prop where
 |nil:AV F [] []
 |cons {v:V}{p:PV}{vs:List V}{ps:List PV}:Rep F v p->AV F vs ps->AV F (v::vs) (p::ps)
end
theorem Rep.mono(s:AR F F')(r:Rep F v p):Rep F' v p:=
 Rep.rec (motive_1:=λv p _=>Rep F' v p) (motive_2:=λvs ps _=>AV F' vs ps) .AA .bl .int .str (λh _ i=>.lst (s _ _ h) i) (λh _ i=>.tup (s _ _ h) i) (λh e _ i=>.BJ (s _ _ h) e i) (λh h2 e _ i=>.obj (s _ _ h) (s _ _ h2) e i) .con (λh=>.Uy (s _ _ h)) (λh h2 e _ i=>.exc (s _ _ h) (s _ _ h2) e i) .nil (λ_ _ i k=>.cons i k) r
def ZEh(F:Hp)(v:V):PV->Prop
 | .AA=>v=.AA
 | .bl b=>v=.bl b
 | .int i=>v=.int i
 | .str x=>v=.str x
 | .lst xs=>∃a vs,v=.ref a/\F a=some (.lst vs)/\AV F vs xs
 | .tup xs=>∃a vs,v=.ref a/\F a=some (.tup vs)/\AV F vs xs
 | .BJ ks xs=>∃a vs,v=.ref a/\F a=some (.dK (ks.zip vs))/\ks.length=vs.length/\AV F vs xs
 | .obj C ns xs=>∃a dx vs,v=.ref a/\F a=some (.ins C dx (ns.zip vs))/\F dx=some (.own a)/\ns.length=vs.length/\AV F vs xs
 | .con a _=>v=.ref a
 | .exc C ns xs=>(∃a,v=.ref a/\F a=some (Ie a C none)/\ns=[]/\xs=[])∨∃a dx vs,v=.ref a/\F a=some (Ie a C (some dx))/\F dx=some (.xd (ns.zip vs))/\ns.length=vs.length/\AV F vs xs
theorem Rep.inv(r:Rep F v p):ZEh F v p:=by
 cases r with
 |lst h r=>exact⟨_,_,rfl,h,r⟩
 |tup h r=>exact⟨_,_,rfl,h,r⟩
 |BJ h l r=>exact⟨_,_,rfl,h,l,r⟩
 |obj h h2 l r=>exact⟨_,_,_,rfl,h,h2,l,r⟩
 |Uy h=>exact .inl ⟨_,rfl,h,rfl,rfl⟩
 |exc h h2 l r=>exact .inr ⟨_,_,_,rfl,h,h2,l,r⟩
 |_=>exact rfl
theorem AV.inv(r:AV F vs (p::ps)):∃v ws,vs=v::ws/\Rep F v p/\AV F ws ps:=by
 cases r with
 |cons r t=>exact⟨_,_,rfl,r,t⟩
theorem AV.ET(r:AV F vs []):vs=[]:=by
 cases r;rfl
theorem AV.mono(s:AR F F')(r:AV F vs ps):AV F' vs ps:=by
 induction ps generalizing vs with
 |nil=>cases r.ET;exact .nil
 |cons p ps c=>obtain⟨v,ws,rfl,a,b⟩:=r.inv;exact .cons (a.mono s) (c b)
theorem AV.length{F:Hp}{vs:List V}{ps:List PV}(r:AV F vs ps):vs.length=ps.length:=by
 induction ps generalizing vs with
 |nil=>cases r.ET;rfl
 |cons p ps c=>obtain⟨v,ws,rfl,a,b⟩:=r.inv;exact wH (· + 1) (c b)
theorem AV.get{F:Hp}{vs:List V}{ps:List PV}{i:Nat}{p:PV}(r:AV F vs ps)(e:ps[i]?=some p):∃v,vs[i]?=some v/\Rep F v p:=by
 induction ps generalizing vs i with
 |nil=>cases e
 |cons q ps c=>
  obtain⟨v,ws,rfl,a,b⟩:=r.inv;cases i with
  |zero=>cases e;exact⟨_,rfl,a⟩
  |succ i=>exact c (vs:=ws) (i:=i) b e
theorem AV.get'(r:AV F vs ps)(e:vs[i]?=some v):∃p,ps[i]?=some p/\Rep F v p:=by
 induction ps generalizing vs i with
 |nil=>cases r.ET;cases e
 |cons q ps c=>
  obtain⟨u,ws,rfl,a,b⟩:=r.inv;cases i with
  |zero=>cases e;exact⟨_,rfl,a⟩
  |succ i=>exact c (vs:=ws) (i:=i) b e
theorem AV.append{ws:List V}{c:List PV}(r:AV F vs ps)(s:AV F ws c):AV F (vs++ws) (ps++c):=by
 induction ps generalizing vs with
 |nil=>cases r.ET;exact s
 |cons p ps d=>obtain⟨v,us,rfl,a,b⟩:=r.inv;exact .cons a (d b)
theorem AV.take(n:Nat)(r:AV F vs ps):AV F (vs.take n) (ps.take n):=by
 induction ps generalizing vs n with
 |nil=>cases r.ET;rw[List.take_nil,List.take_nil];exact .nil
 |cons p ps c=>
  obtain⟨v,us,rfl,a,b⟩:=r.inv;cases n with
  |zero=>exact .nil
  |succ n=>exact .cons a (c n b)
theorem AV.drop(n:Nat)(r:AV F vs ps):AV F (vs.drop n) (ps.drop n):=by
 induction ps generalizing vs n with
 |nil=>cases r.ET;rw[List.drop_nil,List.drop_nil];exact .nil
 |cons p ps c=>
  cases n with
  |zero=>exact r
  |succ n=>obtain⟨v,us,rfl,a,b⟩:=r.inv;exact c n b
theorem AV.one(r:Rep F v p):AV F [v] [p]:=.cons r .nil
def flat:PV->Bool
 | .lst _=>false
 | .tup _=>false
 | .BJ _ _=>false
 | .obj _ _ _=>false
 | .exc _ _ _=>false
 | .con _ _=>false
 |_=>true
noncomputable def enc:PV->V
 | .bl b=>.bl b
 | .int i=>.int i
 | .str x=>.str x
 |_=>.AA
theorem Rep.enc(h:flat p=true)(r:Rep F v p):v=enc p:=by
 cases r <;> first|rfl|cases h
theorem wD(h:flat p=true):Rep F (enc p) p:=by
 cases p with
 |AA=>exact .AA
 |bl b=>exact .bl b
 |int i=>exact .int i
 |str x=>exact .str x
 |lst xs=>cases h
 |tup xs=>cases h
 |BJ ks xs=>cases h
 |obj C ns xs=>cases h
 |exc C ns xs=>cases h
 |con a xs=>cases h
theorem AV.enc(h:ps.all flat=true)(r:AV F vs ps):vs=ps.map enc:=by
 induction ps generalizing vs with
 |nil=>exact r.ET
 |cons p ps c=>
  obtain⟨v,us,rfl,a,b⟩:=r.inv;rw[WQ,Ff]at h;rw[B6,<- Rep.enc h.1 a,<- c h.2 b]
theorem ZKD(h:ps.all flat=true):AV F (ps.map enc) ps:=by
 induction ps with
 |nil=>exact .nil
 |cons p r a=>
  rw[WQ,Ff]at h;exact .cons (wD h.1) (a h.2)
theorem lH(ns:List Str):(ns.map PV.str).all flat=true:=by
 rw[Hr];intro x hx;obtain⟨y,_,rfl⟩:=List.mem_map.mp hx;rfl
theorem ZBF(ns:List Int):(ns.map PV.int).all flat=true:=by
 rw[Hr];intro x hx;obtain⟨y,_,rfl⟩:=List.mem_map.mp hx;rfl
theorem ZGF(ns:List Bool):(ns.map PV.bl).all flat=true:=by
 rw[Hr];intro x hx;obtain⟨y,_,rfl⟩:=List.mem_map.mp hx;rfl
theorem ZC(ns:List Str):(ns.map PV.str).map Fz.enc=ns.map V.str:=by rw[Cm];rfl
theorem ZGU(ns:List Bool):(ns.map PV.bl).map Fz.enc=ns.map V.bl:=by rw[Cm];rfl
theorem xi(ns:List Int):(ns.map PV.int).map Fz.enc=ns.map V.int:=by rw[Cm];rfl
theorem AV.strs{ns:List Str}(r:AV F vs (ns.map PV.str)):vs=ns.map V.str:=(r.enc (lH ns)).trans (ZC ns)
theorem sQ(ns:List Str):AV F (ns.map V.str) (ns.map PV.str):=by rw[<- ZC];exact ZKD (lH ns)
theorem AV.YY{ns:List Bool}(r:AV F vs (ns.map PV.bl)):vs=ns.map V.bl:=(r.enc (ZGF ns)).trans (ZGU ns)
theorem AV.ints{ns:List Int}(r:AV F vs (ns.map PV.int)):vs=ns.map V.int:=(r.enc (ZBF ns)).trans (xi ns)
inductive NK where
 |lst|BJ (ks:List Key)|obj (C dx:Addr) (ns:List Str)|KW (ks:List (List Key))
noncomputable def NK.ho:NK->List V->HO
 | .lst,vs=>.lst vs
 | .BJ ks,vs=>.dK (ks.zip vs)
 | .obj C dx ns,vs=>.ins C dx (ns.zip vs)
 | .KW ks,vs=>.dT (ks.zip vs)
noncomputable def NK.more:NK->List Addr
 | .obj _ dx _=>[dx]
 |_=>[]
def NK.side(k:NK)(a:Addr)(H:Hp):Prop:=match k with
 | .obj _ dx _=>H dx=some (.own a)
 |_=>True
def NK.fit(k:NK)(n:Nat):Prop:=match k with
 | .BJ ks=>ks.length=n
 | .obj _ _ ns=>ns.length=n
 | .KW ks=>ks.length=n
 |_=>True
inductive OV where
 |fz (p:PV)
 |tp (xs:List OV)
 |nd (k:NK) (a:Addr) (xs:List OV)
variable{ts:List OV}
mutual
def OV.addrs:OV->List Addr
 | .fz _=>[]
 | .tp xs=>OV.Am xs
 | .nd k a xs=>a::(k.more++OV.Am xs)
def OV.Am:List OV->List Addr
 | []=>[]
 |x::r=>x.addrs++OV.Am r
end
mutual
def OV.pv:OV->PV
 | .fz p=>p
 | .tp xs=>.tup (OV.DG xs)
 | .nd .lst _ xs=>.lst (OV.DG xs)
 | .nd (.BJ ks) _ xs=>.BJ ks (OV.DG xs)
 | .nd (.obj C _ ns) _ xs=>.obj C ns (OV.DG xs)
 | .nd (.KW _) a _=>.con a []
def OV.DG:List OV->List PV
 | []=>[]
 |x::r=>x.pv::OV.DG r
end
mutual
inductive BB (F H:Hp):V->OV->Prop where
 |fz {v:V}{p:PV}:Rep F v p->BB F H v (.fz p)
 |tp {a:Addr}{vs:List V}{xs:List OV}:F a=some (.tup vs)->BR F H vs xs->BB F H (.ref a) (.tp xs)
 |nd {k:NK}{a:Addr}{vs:List V}{xs:List OV}:H a=some (k.ho vs)->k.side a H->k.fit vs.length->BR F H vs xs->BB F H (.ref a) (.nd k a xs)
inductive BR (F H:Hp):List V->List OV->Prop where
 |nil:BR F H [] []
 |cons {v:V}{t:OV}{vs:List V}{ts:List OV}:BB F H v t->BR F H vs ts->BR F H (v::vs) (t::ts)
end
def ZCI(F H:Hp)(v:V):OV->Prop
 | .fz p=>Rep F v p
 | .tp xs=>∃a vs,v=.ref a/\F a=some (.tup vs)/\BR F H vs xs
 | .nd k a xs=>∃vs,v=.ref a/\H a=some (k.ho vs)/\k.side a H/\k.fit vs.length/\BR F H vs xs
theorem BB.inv{t:OV}(r:BB F H v t):ZCI F H v t:=by
 cases r with
 |fz r=>exact r
 |tp h r=>exact⟨_,_,rfl,h,r⟩
 |nd h a b r=>exact⟨_,rfl,h,a,b,r⟩
theorem BR.inv{t:OV}(r:BR F H vs (t::ts)):∃v ws,vs=v::ws/\BB F H v t/\BR F H ws ts:=by
 cases r with
 |cons r t=>exact⟨_,_,rfl,r,t⟩
theorem BR.ET(r:BR F H vs []):vs=[]:=by
 cases r;rfl
theorem OV.DV{k:NK}{xs:List OV}:(OV.nd k a xs).addrs=a::(k.more++OV.Am xs):=by rw[OV.addrs]
theorem OV.HU{xs:List OV}:(OV.tp xs).addrs=OV.Am xs:=by rw[OV.addrs]
theorem OV.IE:(OV.fz p).addrs=[]:=by rw[OV.addrs]
theorem OV.Ds{x:OV}{r:List OV}:OV.Am (x::r)=x.addrs++OV.Am r:=by rw[OV.Am]
theorem OV.Gm:OV.Am []=[]:=by rw[OV.Am]
theorem NK.pI{k:NK}(h:k.side a H)(s:∀b∈k.more,∀o,H b=some o->H' b=some o):k.side a H':=by
 cases k with
 |obj C dx ns=>exact s dx (by simp[NK.more]) _ h
 |_=>trivial
theorem BB.mono(f:AR F F'){t:OV}(r:BB F H v t):(∀a∈t.addrs,∀o,H a=some o->H' a=some o)->BB F' H' v t:=
 BB.rec (motive_1:=λv t _=>(∀a∈t.addrs,∀o,H a=some o->H' a=some o)->BB F' H' v t) (motive_2:=λvs ts _=>(∀a∈OV.Am ts,∀o,H a=some o->H' a=some o)->BR F' H' vs ts)
  (λr _=>.fz (r.mono f))
  (λh _ i s=>.tp (f _ _ h) (i (by rw[OV.HU]at s;exact s)))
  (λh d g _ i s=>by
   rw[OV.DV]at s;exact .nd (s _ Fh _ h) (NK.pI d λb e=>s b (E2 _ (Gp _ e))) g (i λa c=>s a (E2 _ (GQ _ c))))
  (λ_=>.nil)
  (λ_ _ i k s=>by
   rw[OV.Ds]at s;exact .cons (i λa c=>s a (Gp _ c)) (k λa c=>s a (GQ _ c)))
  r
theorem BR.mono(f:AR F F')(r:BR F H vs ts)(s:∀a∈OV.Am ts,∀o,H a=some o->H' a=some o):BR F' H' vs ts:=by
 induction ts generalizing vs with
 |nil=>cases r.ET;exact .nil
 |cons p ps d=>
  obtain⟨v,ws,rfl,a,b⟩:=r.inv;rw[OV.Ds]at s;exact .cons (a.mono f λa c=>s a (Gp _ c)) (d b λa c=>s a (GQ _ c))
theorem BB.there{t:OV}(r:BB F H v t):∀a∈t.addrs,H a≠none:=
 BB.rec (motive_1:=λv t _=>∀a∈t.addrs,H a≠none) (motive_2:=λvs ts _=>∀a∈OV.Am ts,H a≠none)
  (λ_ a c=>by rw[OV.IE]at c;cases c)
  (λ_ _ i a c=>i a (by rw[OV.HU]at c;exact c))
  (λ{k b vs xs}h d f _ i a c=>by
   rw[OV.DV,GR,Ni]at c;rcases c with rfl|c|c
   .rw[h];exact λz=>by cases z
   .cases k with
    |obj C dx ns=>
     have e:a=dx:=List.mem_singleton.mp c;rw[e,show H dx=some (.own b)from d];exact λz=>by cases z
    |_=>cases c
   .exact i a c)
  (λa c=>by rw[OV.Gm]at c;cases c)
  (λ_ _ i k a c=>by
   rw[OV.Ds,Ni]at c;exact c.elim (i a) (k a))
  r
theorem BR.there(r:BR F H vs ts):∀a∈OV.Am ts,H a≠none:=by
 induction ts generalizing vs with
 |nil=>intro a c;rw[OV.Gm]at c;cases c
 |cons p ps d=>
  obtain⟨v,ws,rfl,x,b⟩:=r.inv;intro a c;rw[OV.Ds,Ni]at c;exact c.elim (x.there a) (d b a)
theorem BR.length{F H:Hp}{vs:List V}{ts:List OV}(r:BR F H vs ts):vs.length=ts.length:=by
 induction ts generalizing vs with
 |nil=>cases r.ET;rfl
 |cons p ps c=>obtain⟨v,ws,rfl,a,b⟩:=r.inv;exact wH (· + 1) (c b)
inductive Slot where
 |any|is (p:PV)|own (xs:List PV)|AY|sq (tp:Bool) (xs:List PV)|raw (P:Hp->V->Prop)|ow (lt:Bool) (t:OV)
variable{ss:List Slot}{s:Slot}{Up nx:List Slot->Prop}
structure Ent0 where
 A:List Addr
 F0:Hp
 H0:Hp
 B:List Addr
variable{E:Ent0}
abbrev E3(A:List Addr)(F H:Hp):Ent0:=⟨A,F,H,[]⟩
def Ok(E:Ent0)(F H:Hp):Slot->Option (Option V)->Prop
 | .any,_=>True
 | .is p,o=>∃v,o=some (some v)/\Rep F v p
 | .own xs,o=>∃l vs,o=some (some (.ref l))/\F l=none/\E.H0 l=none/\H l=some (.lst vs)/\AV F vs xs
 | .AY,o=>∃l,o=some (some (.ref l))/\F l=none/\(E.H0 l=none∨l∈E.A)/\C4 H l
 | .sq true xs,o=>∃v,o=some (some v)/\Rep F v (.tup xs)
 | .sq false xs,o=>∃l vs,o=some (some (.ref l))/\(l∉E.A/\l∉E.B)/\E.H0 l=some (.lst vs)/\AV F vs xs
 | .raw P,o=>∃v,o=some (some v)/\P F v/\∀F F',AR F F'->P F v->P F' v
 | .ow lt t,o=>∃v,o=some (some v)/\BB F H v t/\t.addrs.Nodup/\∀a∈t.addrs,F a=none/\(E.H0 a=none∨(lt=true/\a∈E.B))
def BU:Slot->Option (Option V)->Addr->Prop
 | .own _,o,l=>o=some (some (.ref l))
 | .AY,o,l=>o=some (some (.ref l))
 | .ow _ t,_,l=>l∈t.addrs
 |_,_,_=>False
structure Fin (E:Ent0) (F H:Hp):Prop where
 fh:AR F H
 f0:AR E.F0 F
 keep:∀a o,(a∉E.A/\a∉E.B)->E.H0 a=some o->H a=some o
 fresh:∀a o,F a=some o->E.F0 a=some o∨E.H0 a=none
 Hk:∀a,a∈E.A->C4 H a
 MP:∀a,a∈E.A->F a=none
 a0:∀a,a∈E.A->E.H0 a≠none
 bF:∀a,a∈E.B->F a=none
 bH:∀a,a∈E.B->H a≠none
 b0:∀a,a∈E.B->E.H0 a≠none/\a∉E.A
structure Sg (E:Ent0) (ss:List Slot) (O:L2.St) (F H:Hp):Prop extends Fin E F H where
 len:ss.length=O.length
 ok:∀(i:Nat)s,ss[i]?=some s->Ok E F H s O[i]?
 CG:∀(i j:Nat)s u l,i≠j->ss[i]?=some s->ss[j]?=some u->BU s O[i]? l->¬ BU u O[j]? l
structure Ex where
 C:Addr
 ns:List Str
 xs:List PV
def Ex.at(x:Ex)(F:Hp)(C:Value)(dx:Option Addr):Prop:=
 C=.ref x.C/\((x.ns=[]/\x.xs=[]/\dx=none)∨∃a vs,dx=some a/\F a=some (.xd (x.ns.zip vs))/\x.ns.length=vs.length/\AV F vs x.xs)
class Xw where
 e:L2.St->XK
 J:List Slot->Prop
 D:Ex->Prop
structure Ent [Xw] extends Ent0 where
 hx:∀(ss:List Slot)(O:L2.St)(F H:Hp)(x:Ex)(C:Value)(dx:Option Addr),Xw.J ss->Sg toEnt0 ss O F H->Xw.D x->x.at F C dx->Xw.e O C dx H
instance [Xw]:CoeOut Ent Ent0:=⟨Ent.toEnt0⟩
instance oN:Xw:=⟨λ_=>E0,λ_=>True,λ_=>False⟩
def CO(ss:List Slot)(O:L2.St)(a:Addr):Prop:=∀i:Nat,ss[i]?=some .AY->O[i]?≠some (some (.ref a))
structure Mv (E:Ent0) (ss:List Slot) (O:L2.St) (F H F' H':Hp):Prop where
 st:Sg E ss O F' H'
 ff:AR F F'
 hh:∀a o,CO ss O a->H a=some o->H' a=some o
 nn:∀a o,F' a=some o->F a=some o∨H a=none
theorem Sg.J6(S:Sg E ss O F H)(h:H l=none):CO ss O l:=λi hi e=>by
 obtain⟨c,b,_,_,_,_,a,_⟩:=S.ok i _ hi;rw[e]at b;cases b;rw[h]at a;cases a
theorem Mv.none(m:Mv E ss O F H F' H')(h:H' a=none):H a=none:=by
 cases e:H a with
 |none=>rfl
 |some o=>rw[m.hh a o (m.st.J6 h) e]at h;cases h
theorem Mv.refl(S:Sg E ss O F H):Mv E ss O F H F H:=⟨S,AR.refl _,λ_ _ _ e=>e,λ_ _ e=>.inl e⟩
theorem Mv.trans{F1 H1 F2 H2:Hp}(a:Mv E ss O F H F1 H1)(b:Mv E ss O F1 H1 F2 H2):Mv E ss O F H F2 H2:=
 ⟨b.st,a.ff.trans b.ff,λc o n e=>b.hh c o n (a.hh c o n e),λc o e=>(b.nn c o e).elim (λe=>a.nn c o e) λe=>.inr (a.none e)⟩
theorem Sg.DB(S:Sg E ss O F H){p:Addr}(h:H p=none):E.H0 p=none:=by
 cases e:E.H0 p with
 |none=>rfl
 |some o=>
  by_cases q:p∈E.A
  .obtain⟨_,_,b,_⟩:=S.Hk p q;rw[h]at b;cases b
  .by_cases a:p∈E.B
   .exact absurd h (S.bH p a)
   .rw[S.keep p o ⟨q,a⟩ e]at h;cases h
theorem Sg.CK(S:Sg E ss O F H){p:Addr}(h:H p=none):F p=none:=AR.none S.fh h
theorem C4.keep(h:C4 H l)(k:∀o,H l=some o->H' l=some o):C4 H' l:=by
 obtain⟨a,b,e,r⟩:=h;exact⟨a,b,k _ e,r⟩
theorem Sg.gO(S:Sg E ss O F H)(h:F l=some o):CO ss O l:=λi hi e=>by
 obtain⟨c,b,a,_⟩:=S.ok i _ hi;rw[e]at b;cases b;rw[h]at a;cases a
theorem Sg.j5(S:Sg E ss O F H)(b:l∉E.A)(h:E.H0 l=some o):CO ss O l:=λi hi e=>by
 obtain⟨c,a,_,q,_⟩:=S.ok i _ hi;rw[e]at a;cases a;rcases q with q|q
 .rw[h]at q;cases q
 .exact b q
theorem Sg.ZCu(S:Sg E ss O F H)(h:l∈E.B):CO ss O l:=λi hi e=>by
 obtain⟨d,a,_,q,_⟩:=S.ok i _ hi;rw[e]at a;cases a;obtain⟨c,b⟩:=S.b0 l h;rcases q with q|q
 .exact c q
 .exact b q
theorem Sg.FK(S:Sg E ss O F H)(h:ss[i]?=some s)(m:BU s O[i]? l):H l≠none:=by
 have k:=S.ok i s h;cases s with
 |own xs=>obtain⟨c,vs,a,_,_,b,_⟩:=k;rw[show O[i]?=some (some (.ref l))from m]at a;cases a;rw[b];simp
 |AY=>obtain⟨c,a,_,_,_,_,b,_⟩:=k;rw[show O[i]?=some (some (.ref l))from m]at a;cases a;rw[b];simp
 |ow lt t=>obtain⟨v,_,r,_⟩:=k;exact r.there l m
 |_=>cases m
theorem Sg.ZJD(S:Sg E ss O F H)(h:ss[i]?=some s)(m:BU s O[i]? l):F l=none:=by
 have k:=S.ok i s h;cases s with
 |own xs=>obtain⟨c,vs,a,b,_⟩:=k;rw[show O[i]?=some (some (.ref l))from m]at a;cases a;exact b
 |AY=>obtain⟨c,a,b,_⟩:=k;rw[show O[i]?=some (some (.ref l))from m]at a;cases a;exact b
 |ow lt t=>obtain⟨v,_,r,_,q⟩:=k;exact(q l m).1
 |_=>cases m
theorem Sg.KQ(S:Sg E ss O F H)(h:ss[i]?=some s)(a:H l=none):¬ BU s O[i]? l:=λm=>S.FK h m a
theorem Sg.Om(S:Sg E ss O F H)(h:ss[i]?=some s)(m:BU s O[i]? l)(np:s≠.AY):CO ss O l:=λj a b=>
 S.CG i j s _ l (by rintro rfl;rw[h]at a;exact np (Be a)) h a m b
theorem Ok.go(S:Sg E ss O F H){i:Nat}{s:Slot}(hi:ss[i]?=some s)(ff:AR F F')(hk:∀a o,BU s O[i]? a->H a=some o->H' a=some o)(CK:∀a,H a≠none->F a=none->F' a=none)(np:s≠.AY):Ok E F' H' s O[i]?:=by
 have k:=S.ok i s hi;cases s with
 |any=>trivial
 |is p=>obtain⟨v,e,r⟩:=k;exact⟨v,e,r.mono ff⟩
 |own xs=>
  obtain⟨l,vs,e,d,c,f,r⟩:=k;exact⟨l,vs,e,CK l (by rw[f];simp) d,c,hk l _ e f,r.mono ff⟩
 |AY=>exact absurd rfl np
 |sq tp xs=>
  cases tp with
  |true=>obtain⟨v,e,r⟩:=k;exact⟨v,e,r.mono ff⟩
  |false=>obtain⟨l,vs,e,d,c,r⟩:=k;exact⟨l,vs,e,d,c,r.mono ff⟩
 |raw P=>obtain⟨v,e,r,st⟩:=k;exact⟨v,e,st _ _ ff r,st⟩
 |ow lt t=>
  obtain⟨v,e,r,nd,q⟩:=k;exact⟨v,e,r.mono ff λa b o=>hk a o b,nd,λa b=>⟨CK a (r.there a b) (q a b).1,(q a b).2⟩⟩
theorem Sg.step(S:Sg E ss O F H)(ff:AR F F')(fh:AR F' H')(hk:∀a o,CO ss O a->H a=some o->H' a=some o)(d:∀a o,F' a=some o->F a=some o∨H a=none)
  (h:∀(i:Nat)l,ss[i]?=some .AY->O[i]?=some (some (.ref l))->C4 H' l):Mv E ss O F H F' H':=by
 have CK:∀a,H a≠none->F a=none->F' a=none:=λa h1 h2=>by
  cases e:F' a with
  |none=>rfl
  |some o=>
   rcases d a o e with q|q
   .rw[h2]at q;cases q
   .exact absurd q h1
 have g:∀a,C4 H a->CO ss O a->C4 H' a:=λa p n=>C4.keep p λo e=>hk a o n e;refine⟨⟨⟨fh,S.f0.trans ff,λa o b e=>?_,λa o e=>?_,λa b=>?_,λa b=>?_,S.a0,λa c=>CK a (S.bH a c) (S.bF a c),λa c=>?_,S.b0⟩,S.len,λi s hi=>?_,S.CG⟩,ff,hk,d⟩
 .exact hk a o (S.j5 b.1 e) (S.keep a o b e)
 .rcases d a o e with q|q
  .exact S.fresh a o q
  .exact .inr (S.DB q)
 .by_cases q:∃i:Nat,ss[i]?=some .AY/\O[i]?=some (some (.ref a))
  .obtain⟨i,k,j⟩:=q;exact h i a k j
  .exact g a (S.Hk a b) λi h1 h2=>q ⟨i,h1,h2⟩
 .refine CK a ?_ (S.MP a b);obtain⟨_,_,f,_⟩:=S.Hk a b;rw[f];simp
 .obtain⟨o,e⟩:=Option.ne_none_iff_exists'.mp (S.bH a c);rw[hk a o (S.ZCu c) e];simp
 .by_cases np:s=.AY
  .subst np;obtain⟨l,e,f,u,t⟩:=S.ok i _ hi;have v:=t;obtain⟨_,_,r,_⟩:=v;exact⟨l,e,CK l (by rw[r];simp) f,u,h i l hi e⟩
  .exact Ok.go S hi ff (λa o m=>hk a o (S.Om hi m np)) CK np
theorem Sg.GG(S:Sg E ss O F H)(hi:ss[i]?=some .AY)(e:O[i]?=some (some (.ref l))):C4 H l:=by
 obtain⟨b,a,_,_,p⟩:=S.ok i _ hi;rw[e]at a;cases a;exact p
theorem Sg.alloc(S:Sg E ss O F H){p:Addr}(h:H p=none)(o:HO):Mv E ss O F H (upd F p o) (upd H p o):=by
 refine S.step (EH (S.CK h) _) (λa u e=>?_) (λa u _ e=>EH h o a u e) (λa u e=>?_) λi l hi e=>C4.keep (S.GG hi e) λu e=>EH h o l u e
 .by_cases q:a=p
  .subst q;rw[B3]at e ⊢;exact e
  .rw[AW q]at e ⊢;exact S.fh a u e
 .by_cases q:a=p
  .subst q;exact .inr h
  .rw[AW q]at e;exact .inl e
theorem Sg.make(S:Sg E ss O F H){p:Addr}(h:H p=none)(o:HO):Mv E ss O F H F (upd H p o):=
 S.step (AR.refl _) (S.fh.trans (EH h o)) (λa u _ e=>EH h o a u e) (λa u e=>.inl e) λi l hi e=>C4.keep (S.GG hi e) λu e=>EH h o l u e
theorem Sg.grow(S:Sg E ss O F H)(s:AR H H'):Mv E ss O F H F H':=
 S.step (AR.refl _) (S.fh.trans s) (λa u _ e=>s a u e) (λa u e=>.inl e) λi l hi e=>C4.keep (S.GG hi e) λu e=>s l u e
theorem Sg.setG(S:Sg E ss O F H)(AJ:Ok E F H s (some (some v)))(e:∀l,BU s (some (some v)) l->∀(i:Nat)u,i≠j->ss[i]?=some u->¬ BU u O[i]? l):Sg E (ss.set j s) (O.set j (some v)) F H:=by
 refine⟨S.toFin,by rw[JV,JV];exact S.len,λi u hi=>?_,λi k u w l OD hi hk c b=>?_⟩
 .by_cases q:i=j
  .subst q;have a:i<ss.length:=by have:=(List.getElem?_eq_some_iff.mp hi).1;simpa using this
   rw[DA a]at hi;cases hi;rw[DA (by rw[<- S.len];exact a)];exact AJ
  .rw[CZ (BO q)]at hi ⊢;exact S.ok i u hi
 .by_cases q:i=j
  .subst q;have a:i<ss.length:=by have:=(List.getElem?_eq_some_iff.mp hi).1;simpa using this
   rw[DA a]at hi;rw[DA (by rw[<- S.len];exact a)]at c;cases hi;rw[CZ OD]at hk b;exact e l c k w (BO OD) hk b
  .rw[CZ (BO q)]at hi c
   by_cases d:k=j
   .subst d;have a:k<ss.length:=by have:=(List.getElem?_eq_some_iff.mp hk).1;simpa using this
    rw[DA a]at hk;cases hk;rw[DA (by rw[<- S.len];exact a)]at b;exact e l b i u OD hi c
   .rw[CZ (BO d)]at hk b;exact S.CG i k u w l OD hi hk c b
theorem Sg.Gr(S:Sg E ss O F H)(r:Rep F v p):Sg E (ss.set j (.is p)) (O.set j (some v)) F H:=S.setG ⟨v,rfl,r⟩ λ_ h=>by cases h
def Sv(ss:List Slot)(O:L2.St)(F H:Hp)(v:V):Bool->List PV->Prop
 |true,xs=>Rep F v (.tup xs)
 |false,xs=>∃l vs,v=.ref l/\CO ss O l/\H l=some (.lst vs)/\AV F vs xs
def Fv(E:Ent0)(F:Hp)(v:V):Bool->List PV->Prop
 |true,xs=>Rep F v (.tup xs)
 |false,xs=>∃l vs,v=.ref l/\(F l=some (.lst vs)∨((l∉E.A/\l∉E.B)/\E.H0 l=some (.lst vs)))/\AV F vs xs
structure Wp [Xw] (ss:List Slot) (t:TE) (k:PV->Prop):Prop where
 go:∀(E:Ent)(O:L2.St)(F H:Hp)(Q:VK),Sg E ss O F H->(∀v p F' H',Mv E ss O F H F' H'->Rep F' v p->k p->Q v H')->t O H Q
structure Wn [Xw] (ss:List Slot) (t:TE) (k:List PV->Prop):Prop where
 go:∀(E:Ent)(O:L2.St)(F H:Hp)(Q:VK),Sg E ss O F H->(∀l vs xs F' H',Mv E ss O F H F' H'->F' l=none->H l=none->H' l=some (.lst vs)->AV F' vs xs->k xs->Q (.ref l) H')->t O H Q
structure Wq [Xw] (ss:List Slot) (t:TE) (k:Bool->List PV->Prop):Prop where
 go:∀(E:Ent)(O:L2.St)(F H:Hp)(Q:VK),Sg E ss O F H->(∀v tp xs F' H',Mv E ss O F H F' H'->Sv ss O F' H' v tp xs->k tp xs->Q v H')->t O H Q
structure Wz [Xw] (ss:List Slot) (t:TE) (k:Bool->List PV->Prop):Prop where
 go:∀(E:Ent)(O:L2.St)(F H:Hp)(Q:VK),Sg E ss O F H->(∀v tp xs F' H',Mv E ss O F H F' H'->Fv E F' v tp xs->k tp xs->Q v H')->t O H Q
structure Wt [Xw] (ss:List Slot) (t:TT) (k:Bool->Prop):Prop where
 go:∀(E:Ent)(O:L2.St)(F H:Hp)(Q:Bool->Hp->Prop),Sg E ss O F H->(∀b F' H',Mv E ss O F H F' H'->k b->Q b H')->t O H Q
def Av(ss:List Slot)(O:L2.St)(F H:Hp)(v:V):Slot->Prop
 | .is p=>Rep F v p
 | .sq tp xs=>Sv ss O F H v tp xs
 | .raw P=>P F v/\∀F F',AR F F'->P F v->P F' v
 |_=>False
inductive HK (ss:List Slot) (O:L2.St) (F H:Hp):List V->List Slot->Prop where
 |nil:HK ss O F H [] []
 |cons {v:V}{s:Slot}{vs:List V}{l:List Slot}:Av ss O F H v s->HK ss O F H vs l->HK ss O F H (v::vs) (s::l)
structure Wa [Xw] (ss:List Slot) (t:TA) (k:List Slot->Prop):Prop where
 go:∀(E:Ent)(O:L2.St)(F H:Hp)(Q:List V->Hp->Prop),Sg E ss O F H->(∀vs l F' H',Mv E ss O F H F' H'->HK ss O F' H' vs l->k l->Q vs H')->t O H Q
inductive Ag where
 |is (k:PV->Prop)|new (k:List PV->Prop)|AY|ow (k:OV->Prop)|mt (k:PV->OV->Prop)|wZ (k:PV->OV->OV->Prop)
def OV.val:OV->V
 | .nd _ a _=>.ref a
 |_=>.AA
def Ag.ok(R:Ag)(E:Ent0)(F' H':Hp)(v:V):Prop:=match R with
 | .is k=>∃p,Rep F' v p/\k p
 | .new k=>∃l vs xs,v=.ref l/\F' l=none/\E.H0 l=none/\H' l=some (.lst vs)/\AV F' vs xs/\k xs
 | .AY=>∃l,v=.ref l/\F' l=none/\E.H0 l=none/\C4 H' l
 | .ow k=>∃t,BB F' H' v t/\t.addrs.Nodup/\(∀a∈t.addrs,F' a=none/\E.H0 a=none)/\k t
 | .mt k=>∃p t,Rep F' v p/\BB F' H' t.val t/\t.addrs.Nodup/\(∀a∈t.addrs,F' a=none/\(E.H0 a=none∨a∈E.B))/\k p t
 | .wZ k=>∃p t u,Rep F' v p/\BB F' H' t.val t/\BB F' H' u.val u/\(t.addrs++u.addrs).Nodup/\(∀a∈t.addrs++u.addrs,F' a=none/\(E.H0 a=none∨a∈E.B))/\k p t u
structure Ws [Xw] (ss:List Slot) (t:TS) (nx:List Slot->Prop) (R:Ag):Prop where
 go:∀(E:Ent)(D:Ends)(O:L2.St)(F H:Hp),Sg E ss O F H->(∀A6 σ' F' H',nx A6->Sg E A6 σ' F' H'->AR F F'->D.nx σ' H')->(∀v F' H',Fin E F' H'->R.ok E F' H' v->D.rt v H')->t D O H
section
variable[Xw]
variable{K:ZLZ}{tb:TE}{k:PV->Prop}{R:Ag}
theorem Sv.mv(h:Sv ss O F H v tp xs)(m:Mv E ss O F H F' H'):Sv ss O F' H' v tp xs:=by
 cases tp with
 |true=>exact Rep.mono m.ff h
 |false=>
  obtain⟨l,vs,e,n,r,q⟩:=h;exact⟨l,vs,e,n,m.hh l _ n r,q.mono m.ff⟩
theorem Sv.seq(S:Sg E ss O F H)(h:Sv ss O F H v tp xs):∃l vs,v=.ref l/\H l=some (Em tp vs)/\AV F vs xs:=by
 cases tp with
 |true=>cases h with|tup e r=>exact⟨_,_,rfl,S.fh _ _ e,r⟩
 |false=>obtain⟨l,vs,e,_,r,q⟩:=h;exact⟨l,vs,e,r,q⟩
theorem Fv.sv(S:Sg E ss O F H)(h:Fv E F v tp xs):Sv ss O F H v tp xs:=by
 cases tp with
 |true=>exact h
 |false=>
  obtain⟨l,vs,e,h1|⟨a,h1⟩,r⟩:=h
  .exact⟨l,vs,e,S.gO h1,S.fh _ _ h1,r⟩
  .exact⟨l,vs,e,S.j5 a.1 h1,S.keep _ _ a h1,r⟩
theorem ofT{A B:Prop}(h:if true=true then A else B):A:=h
theorem SN{A B:Prop}(h:if false=true then A else B):B:=h
class Flt {α:Type} (f:α->PV) (g:outParam (α->V)):Prop where
 eq:∀{F:Hp}{v:V}{i:α},Rep F v (f i)->v=g i
instance:Flt PV.int V.int:=⟨λr=>r.inv⟩
instance:Flt PV.str V.str:=⟨λr=>r.inv⟩
instance:Flt PV.bl V.bl:=⟨λr=>r.inv⟩
instance:Flt (λn:Nat=>PV.int n) λn:Nat=>V.int n:=⟨λr=>r.inv⟩
theorem Wp.el{f:α->PV}{g:α->V}[i:Flt f g]{k:α->Prop}(h:Wp ss te λx=>∃i,x=f i/\k i)(E:Ent)(S:Sg E ss O F H)(q:∀i F1 H1,Mv E ss O F H F1 H1->k i->Q (g i) H1):te O H Q:=
 h.go E O F H Q S λv p F1 H1 m r z=>by
  obtain⟨j,e,kk⟩:=z;subst e;rw[i.eq r];exact q j F1 H1 m kk
theorem Wp.mono{a:PV->Prop}(h:Wp ss te k)(i:∀p,k p->a p):Wp ss te a:=⟨λE O F H Q S q=>h.go E O F H Q S λv p F' H' m r kk=>q v p F' H' m r (i p kk)⟩
theorem A1(h:ss[i]?=some (.is p))(hk:k p):Wp ss (Al i) k:=⟨λE O F H Q S q=>by
 obtain⟨v,a,r⟩:=S.ok i _ h;exact⟨v,a,q v p F H (.refl S) r hk⟩⟩
theorem AH{i:Int}(hk:k (.int i)):Wp ss (tC (.int i)) k:=⟨λE O F H Q S q=>q _ _ F H (.refl S) (.int i) hk⟩
theorem CJ{x:Str}(hk:k (.str x)):Wp ss (tC (.str x)) k:=⟨λE O F H Q S q=>q _ _ F H (.refl S) (.str x) hk⟩
theorem Kk(hk:k (.bl b)):Wp ss (tC (.bl b)) k:=⟨λE O F H Q S q=>q _ _ F H (.refl S) (.bl b) hk⟩
theorem DZ(hk:k .AA):Wp ss (tC .AA) k:=⟨λE O F H Q S q=>q _ _ F H (.refl S) .AA hk⟩
theorem BL(h:Wn ss te (λxs=>k (.lst xs))):Wp ss te k:=⟨λE O F H Q S q=>h.go E O F H Q S λl vs xs F' H' m c f DS r kk=>by
 have b:=m.st;have fr:Mv E ss O F H (upd F' l (.lst vs)) H':=by
  have A:∀a,H' a≠none->a≠l->F' a=none->upd F' l (.lst vs) a=none:=λa _ h1 h2=>by rw[AW h1];exact h2
  refine⟨⟨⟨λa u e=>?_,b.f0.trans (EH c _),b.keep,λa u e=>?_,b.Hk,λa z=>?_,b.a0,λa y=>?_,b.bH,b.b0⟩,b.len,λi s hi=>?_,b.CG⟩,m.ff.trans (EH c _),m.hh,λa u e=>?_⟩
  .by_cases q:a=l
   .subst q;rw[B3]at e;rw[<- e];exact DS
   .rw[AW q]at e;exact b.fh a u e
  .by_cases q:a=l
   .subst q;exact .inr (S.DB f)
   .rw[AW q]at e;exact b.fresh a u e
  .by_cases q:a=l
   .subst q;obtain⟨_,_,e,_⟩:=S.Hk _ z;rw[f]at e;cases e
   .rw[AW q];exact b.MP a z
  .by_cases q:a=l
   .subst q;exact absurd f (S.bH _ y)
   .rw[AW q];exact b.bF a y
  .have x:∀a,BU s O[i]? a->a≠l:=by
    rintro a m rfl;exact S.KQ hi f m
   have kk:=b.ok i s hi;cases s with
   |any=>trivial
   |is p=>obtain⟨v,e,r⟩:=kk;exact⟨v,e,r.mono (EH c _)⟩
   |own ys=>
    obtain⟨d,ws,e,j,g,w,r⟩:=kk;exact⟨d,ws,e,by rw[AW (x d e)];exact j,g,w,r.mono (EH c _)⟩
   |AY=>
    obtain⟨d,e,j,g,w⟩:=kk;exact⟨d,e,by rw[AW (x d e)];exact j,g,w⟩
   |sq tp ys=>
    cases tp with
    |true=>obtain⟨v,e,r⟩:=kk;exact⟨v,e,r.mono (EH c _)⟩
    |false=>obtain⟨d,ws,e,j,g,r⟩:=kk;exact⟨d,ws,e,j,g,r.mono (EH c _)⟩
   |raw P=>obtain⟨v,e,r,st⟩:=kk;exact⟨v,e,st _ _ (EH c _) r,st⟩
   |ow lt t=>
    obtain⟨v,e,r,nd,q⟩:=kk;exact⟨v,e,r.mono (EH c _) λa _ o h=>h,nd,λa n=>⟨by rw[AW (x a n)];exact(q a n).1,(q a n).2⟩⟩
  .by_cases q:a=l
   .subst q;exact .inr f
   .rw[AW q]at e;exact m.nn a u e
 exact q _ _ _ _ fr (.lst B3 (r.mono (EH c _))) kk⟩
theorem Bd{k:Bool->List PV->Prop}(h:Wp ss te (λp=>∃xs,(p=.lst xs/\k false xs)∨(p=.tup xs/\k true xs))):Wq ss te k:=⟨λE O F H Q S q=>h.go E O F H Q S λv p F' H' m r AO=>by
 obtain⟨xs,h⟩:=AO;rcases h with⟨rfl,kk⟩|⟨rfl,kk⟩
 .cases r with|lst h r=>exact q _ false xs F' H' m ⟨_,_,rfl,m.st.gO h,m.st.fh _ _ h,r⟩ kk
 .exact q v true xs F' H' m r kk⟩
theorem Cz{k:Bool->List PV->Prop}(h:ss[i]?=some (.is (.lst xs)))(hk:k false xs):Wq ss (Al i) k:=Bd (A1 h ⟨xs,.inl ⟨rfl,hk⟩⟩)
theorem Bc{k:Bool->List PV->Prop}(h:ss[i]?=some (.is (.tup xs)))(hk:k true xs):Wq ss (Al i) k:=Bd (A1 h ⟨xs,.inr ⟨rfl,hk⟩⟩)
theorem Kc{k:Bool->List PV->Prop}(h:ss[i]?=some (.own xs))(hk:k false xs):Wq ss (Al i) k:=⟨λE O F H Q S q=>by
 obtain⟨l,vs,e,c,b,a,r⟩:=S.ok i _ h;exact⟨_,e,q _ false xs F H (.refl S) ⟨l,vs,rfl,S.Om h e (by simp),a,r⟩ hk⟩⟩
theorem WG{k:Bool->List PV->Prop}(h:ss[i]?=some (.sq tp xs))(hk:k tp xs):Wz ss (Al i) k:=⟨λE O F H Q S q=>by
 have kk:=S.ok i _ h;cases tp with
 |true=>obtain⟨v,e,r⟩:=kk;exact⟨_,e,q _ true xs F H (.refl S) r hk⟩
 |false=>
  obtain⟨l,vs,e,a,b,r⟩:=kk;exact⟨_,e,q _ false xs F H (.refl S) ⟨l,vs,rfl,.inr ⟨a,b⟩,r⟩ hk⟩⟩
theorem CS{k:Bool->List PV->Prop}(h:Wp ss te (λp=>∃xs,(p=.lst xs/\k false xs)∨(p=.tup xs/\k true xs))):Wz ss te k:=⟨λE O F H Q S q=>h.go E O F H Q S λv p F' H' m r AO=>by
 obtain⟨xs,h⟩:=AO;rcases h with⟨rfl,kk⟩|⟨rfl,kk⟩
 .cases r with|lst h r=>exact q _ false xs F' H' m ⟨_,_,rfl,.inl h,r⟩ kk
 .exact q _ true xs F' H' m r kk⟩
theorem bR{k:Bool->List PV->Prop}(h:Wz ss te k):Wq ss te k:=⟨λE O F H Q S q=>h.go E O F H Q S λv tp xs F' H' m f kk=>q v tp xs F' H' m (f.sv m.st) kk⟩
theorem FA{k:Bool->List PV->Prop}(h:ss[i]?=some (.sq tp xs))(hk:k tp xs):Wq ss (Al i) k:=bR (WG h hk)
theorem YF{C:Int->Int->Prop}(h:Wp ss ta λx=>∃i,x=.int i/\Wp ss tb λy=>∃j,y=.int j/\C i j/\k (.int (f i j))):Wp ss (Ba (rI C λi j=>.int (f i j)) ta tb) k:=⟨λE O F H Q S q=>
 h.el E S λi F1 H1 a h2=>
  h2.el E a.st λj F2 H2 d b=>by
   obtain⟨c,kk⟩:=b;exact⟨i,j,rfl,rfl,c,q _ _ F2 H2 (a.trans d) (.int _) kk⟩⟩
theorem Gi(h:Wp ss ta λx=>∃i,x=.int i/\Wp ss tb λy=>∃j,y=.int j/\k (.int (f i j))):Wp ss (Ba (Gd λi j=>.int (f i j)) ta tb) k:=⟨λE O F H Q S q=>
 h.el E S λi F1 H1 a h2=>
  h2.el E a.st λj F2 H2 b kk=>by
   exact⟨i,j,rfl,rfl,q _ _ F2 H2 (a.trans b) (.int _) kk⟩⟩
theorem O4{f:Int->Int->Bool}(h:Wp ss ta λx=>∃i,x=.int i/\Wp ss tb λy=>∃j,y=.int j/\k (.bl (f i j))):Wp ss (Ba (Gd λi j=>.bl (f i j)) ta tb) k:=⟨λE O F H Q S q=>
 h.el E S λi F1 H1 a h2=>
  h2.el E a.st λj F2 H2 b kk=>by
   exact⟨i,j,rfl,rfl,q _ _ F2 H2 (a.trans b) (.bl _) kk⟩⟩
theorem lV{f:Int->Int}(h:Wp ss ta λx=>∃i,x=.int i/\k (.int (f i))):Wp ss (Sz (rU λi=>.int (f i)) ta) k:=⟨λE O F H Q S q=>
 h.el E S λi F1 H1 a kk=>by
  exact⟨i,rfl,q _ _ F1 H1 a (.int _) kk⟩⟩
noncomputable def alike:PV->PV->Bool
 | .int i,.int j=>decide (i=j)
 | .str i,.str j=>decide (i=j)
 | .bl i,.bl j=>decide (i=j)
 | .AA,.AA=>true
 |_,_=>false
def OW(p q:PV):Bool:=flat p && flat q && Zm (Fz.enc p) (Fz.enc q)
theorem mD{q:PV}(h:OW p q=true):decide (Fz.enc p=Fz.enc q)=alike p q:=by
 unfold OW at h;rw[Ff,Ff]at h;obtain⟨⟨h1,h2⟩,a⟩:=h;cases p <;> first|exact Bool.noConfusion h1|skip
 all_goals cases q <;> first|exact Bool.noConfusion h2|exact Bool.noConfusion a|rfl|exact decide_eq_decide.mpr ⟨λe=>by injection e,wH _⟩
theorem BF(h:Wp ss ta λx=>Wp ss tb λy=>OW x y=true/\k (.bl (alike x y))):Wp ss (Ba iJ ta tb) k:=⟨λE O F H Q S q=>
 h.go E O F H _ S λv p F1 H1 a c h2=>h2.go E O F1 H1 _ a.st λf p2 F2 H2 d b AO=>by
  obtain⟨sc,kk⟩:=AO;have e:=sc;unfold OW at sc;rw[Ff,Ff]at sc;rw[c.enc sc.1.1,b.enc sc.1.2];refine⟨sc.2,?_⟩;rw[mD e];exact q _ _ F2 H2 (a.trans d) (.bl _) kk⟩
theorem jX(h:Wp ss ta λx=>Wp ss tb λy=>OW x y=true/\k (.bl (!alike x y))):Wp ss (Ba gr ta tb) k:=⟨λE O F H Q S q=>
 h.go E O F H _ S λv p F1 H1 a c h2=>h2.go E O F1 H1 _ a.st λf p2 F2 H2 d b AO=>by
  obtain⟨sc,kk⟩:=AO;have e:=sc;unfold OW at sc;rw[Ff,Ff]at sc;rw[c.enc sc.1.1,b.enc sc.1.2];refine⟨sc.2,?_⟩;rw[mD e];exact q _ _ F2 H2 (a.trans d) (.bl _) kk⟩
theorem VG(h:Wp ss ta λx=>∃c,x=.bl c/\if c=true then Wp ss tb k else k (.bl false)):Wp ss (az ta tb) k:=⟨λE O F H Q S q=>
 h.el E S λc F1 H1 a h2=>by
  refine⟨c,rfl,?_⟩;cases c with
  |true=>exact Od ((ofT h2).go E O F1 H1 _ a.st λe p2 F2 H2 d b kk=>q _ _ F2 H2 (a.trans d) b kk)
  |false=>exact J9 (q _ _ F1 H1 a (.bl _) (SN h2))⟩
theorem pA(h:Wp ss ta λx=>∃c,x=.bl c/\if c=true then k (.bl true)else Wp ss tb k):Wp ss (Zv ta tb) k:=⟨λE O F H Q S q=>
 h.el E S λc F1 H1 a h2=>by
  refine⟨c,rfl,?_⟩;cases c with
  |true=>exact Od (q _ _ F1 H1 a (.bl _) (ofT h2))
  |false=>exact J9 ((SN h2).go E O F1 H1 _ a.st λe p2 F2 H2 d b kk=>q _ _ F2 H2 (a.trans d) b kk)⟩
theorem iP(h:Wp ss ta λx=>∃c,x=.bl c/\k (.bl (!c))):Wp ss (Yj ta) k:=⟨λE O F H Q S q=>
 h.el E S λc F1 H1 a kk=>⟨c,rfl,q _ _ F1 H1 a (.bl _) kk⟩⟩
theorem bA{t:TT}(h:Wt ss t λc=>if c=true then Wp ss ta k else Wp ss tb k):Wp ss (W0 t ta tb) k:=⟨λE O F H Q S q=>
 h.go E O F H _ S λc F1 H1 a h2=>by
  show if c=true then _ else _
  cases c with
  |true=>exact Od ((ofT h2).go E O F1 H1 _ a.st λe p2 F2 H2 d b kk=>q _ _ F2 H2 (a.trans d) b kk)
  |false=>exact J9 ((SN h2).go E O F1 H1 _ a.st λe p2 F2 H2 d b kk=>q _ _ F2 H2 (a.trans d) b kk)⟩
theorem oh{f g:Int->Int->Bool}(h:Wp ss ta λx=>∃i,x=.int i/\Wp ss tb λy=>∃j,y=.int j/\if f i j=true then Wp ss tc (λz=>∃l,z=.int l/\k (.bl (g j l)))else k (.bl false)):
  Wp ss (Qq (Gd λi j=>.bl (f i j)) (Gd λi j=>.bl (g i j)) ta tb tc) k:=⟨λE O F H Q S q=>
 h.el E S λi F1 H1 d h2=>
  h2.el E d.st λj F2 H2 b a=>by
   refine⟨i,j,rfl,rfl,f i j,rfl,?_⟩;cases c:f i j with
   |true=>
    rw[c,u4 rfl]at a;rw[u4 rfl];exact a.el E b.st λl F3 H3 e kk=>by
     exact⟨j,l,rfl,rfl,q _ _ F3 H3 (d.trans (b.trans e)) (.bl _) kk⟩
   |false=>
    rw[c,tK (by decide)]at a;rw[tK (by decide)];exact q _ _ F2 H2 (d.trans b) (.bl _) a⟩
theorem Ad{k:Bool->Prop}(h:Wp ss te λx=>∃c,x=.bl c/\k c):Wt ss (K2 te) k:=⟨λE O F H Q S q=>
 h.el E S λc F1 H1 a kk=>⟨c,rfl,q _ F1 H1 a kk⟩⟩
theorem GF{k:Bool->Prop}(h:Wp ss te λx=>∃c,x=.bl c/\k c):Wt ss (tB te) k:=⟨λE O F H Q S q=>
 h.el E S λc F1 H1 a kk=>⟨c,rfl,q _ F1 H1 a kk⟩⟩
theorem Fq{k:Bool->Prop}(h:k true):Wt ss QZ k:=⟨λE O F H Q S q=>q _ F H (.refl S) h⟩
theorem UY{t:TT}{k:Bool->Prop}(h:Wt ss t λc=>k (!c)):Wt ss (X0 t) k:=⟨λE O F H Q S q=>h.go E O F H _ S λc F1 H1 a kk=>q _ F1 H1 a kk⟩
theorem Fl{t u:TT}{k:Bool->Prop}(h:Wt ss t λc=>if c=true then Wt ss u k else k false):Wt ss (Ti t u) k:=⟨λE O F H Q S q=>
 h.go E O F H _ S λc F1 H1 a h2=>by
  show if c=true then _ else _
  cases c with
  |true=>exact Od ((ofT h2).go E O F1 H1 _ a.st λc2 F2 H2 b kk=>q _ F2 H2 (a.trans b) kk)
  |false=>exact J9 (q _ F1 H1 a (SN h2))⟩
theorem Lg{t u:TT}{k:Bool->Prop}(h:Wt ss t λc=>if c=true then k true else Wt ss u k):Wt ss (ZL t u) k:=⟨λE O F H Q S q=>
 h.go E O F H _ S λc F1 H1 a h2=>by
  show if c=true then _ else _
  cases c with
  |true=>exact Od (q _ F1 H1 a (ofT h2))
  |false=>exact J9 ((SN h2).go E O F1 H1 _ a.st λc2 F2 H2 b kk=>q _ F2 H2 (a.trans b) kk)⟩
end
structure We [Xw] (ss:List Slot) (t:TA) (k:List PV->Prop):Prop where
 go:∀(E:Ent)(O:L2.St)(F H:Hp)(Q:List V->Hp->Prop),Sg E ss O F H->(∀vs ps F' H',Mv E ss O F H F' H'->AV F' vs ps->k ps->Q vs H')->t O H Q
structure Wo [Xw] (ss:List Slot) (t:TO) (k:Option Int->Prop):Prop where
 go:∀(E:Ent)(O:L2.St)(F H:Hp)(Q:Option Int->Hp->Prop),Sg E ss O F H->(∀o F' H',Mv E ss O F H F' H'->k o->Q o H')->t O H Q
section
variable[Xw]
variable{K:ZLZ}{tb:TE}{k:PV->Prop}{R:Ag}
theorem Cb{k:List PV->Prop}(h:k []):We ss BA k:=⟨λE O F H Q S q=>q _ _ F H (.refl S) .nil h⟩
theorem BG{k:List PV->Prop}{t:TA}(h:Wp ss te λp=>We ss t λps=>k (p::ps)):We ss (AX te t) k:=⟨λE O F H Q S q=>
 h.go E O F H _ S λv p F1 H1 b d h2=>h2.go E O F1 H1 _ b.st λvs ps F2 H2 a c kk=>q _ _ F2 H2 (b.trans a) (.cons (d.mono a.ff) c) kk⟩
theorem Ar{k:List Slot->Prop}(h:k []):Wa ss BA k:=⟨λE O F H Q S q=>q _ _ F H (.refl S) .nil h⟩
theorem AM{k:List Slot->Prop}{t:TA}(h:Wp ss te λp=>Wa ss t λl=>k (.is p::l)):Wa ss (AX te t) k:=⟨λE O F H Q S q=>
 h.go E O F H _ S λv p F1 H1 b d h2=>h2.go E O F1 H1 _ b.st λvs l F2 H2 a c kk=>q _ _ F2 H2 (b.trans a) (.cons (s:=.is p) (d.mono a.ff) c) kk⟩
theorem Dl{k:List Slot->Prop}{t:TA}(h:Wq ss te λtp xs=>Wa ss t λl=>k (.sq tp xs::l)):Wa ss (AX te t) k:=⟨λE O F H Q S q=>
 h.go E O F H _ S λv tp xs F1 H1 b d h2=>h2.go E O F1 H1 _ b.st λvs l F2 H2 a c kk=>q _ _ F2 H2 (b.trans a) (.cons (s:=.sq tp xs) (d.mv a) c) kk⟩
theorem Np{k:Option Int->Prop}(h:k none):Wo ss df k:=⟨λE O F H Q S q=>q _ F H (.refl S) h⟩
theorem P7{k:Option Int->Prop}(h:Wp ss te λp=>∃i,p=.int i/\k (some i)):Wo ss (af te) k:=⟨λE O F H Q S q=>
 h.el E S λi F1 H1 a kk=>⟨i,rfl,q _ F1 H1 a kk⟩⟩
theorem IT(h:n<=99999):n<sizeLine:=EE (Nat.lt_succ_of_le h) (small (B0 100000))
theorem Dg{t:TA}(h:We ss t λps=>ps.length<=100000/\k (.tup ps)):Wp ss (Mu t) k:=⟨λE O F H Q S q=>
 h.go E O F H _ S λvs ps F1 H1 d b AO=>by obtain⟨e,kk⟩:=AO;exact⟨small (by rw[b.length];exact e),λa f=>by
  have c:=d.st.alloc f (.tup vs);exact q _ _ _ _ (d.trans c) (.tup B3 (b.mono c.ff)) kk⟩⟩
theorem Kg{t:TA}{k:List PV->Prop}(h:We ss t λps=>ps.length<=100000/\k ps):Wn ss (dA t) k:=⟨λE O F H Q S q=>
 h.go E O F H _ S λvs ps F1 H1 b d AO=>by obtain⟨g,kk⟩:=AO;exact⟨small (by rw[d.length];exact g),λa c=>by
  have f:=b.st.make c (.lst vs);refine q a vs ps F1 _ (b.trans f) (b.st.CK c) ?_ B3 d kk;cases e:H a with
  |none=>rfl
  |some o=>rw[b.hh a o (b.st.J6 c) e]at c;cases c⟩⟩
theorem LO(h:Wq ss te λ_ xs=>k (.int xs.length)):Wp ss (El (Vs K) (AX te BA)) k:=⟨λE O F H Q S q=>
 h.go E O F H _ S λv tp xs F1 H1 a sv kk=>by
  obtain⟨l,vs,rfl,b,r⟩:=sv.seq a.st;refine⟨l,vs,rfl,(Em.sq (K:=K) b).or,?_⟩;rw[r.length];exact q _ _ F1 H1 a (.int _) kk⟩
theorem AV.C5{i:Int}(r:AV F vs xs)(h:L2.C5 xs i=some p):∃u,L2.C5 vs i=some u/\Rep F u p:=by
 unfold L2.C5 at h ⊢;rw[r.length];cases e:Gj xs.length i with
 |none=>rw[e]at h;cases h
 |some j=>
  rw[e]at h;exact r.get h
theorem KD(h:Wq ss ta λtp xs=>tp=false/\Wp ss tb λy=>∃i p,y=.int i/\L2.C5 xs i=some p/\k p):Wp ss (Ba (Lz K) ta tb) k:=⟨λE O F H Q S q=>
 h.go E O F H _ S λv tp xs F1 H1 b sv⟨m,h2⟩=>h2.go E O F1 H1 _ b.st λn p2 F2 H2 a d⟨i,p,e,j,kk⟩=>by
  subst e;cases d.inv;subst m;obtain⟨l,vs,rfl,g,r⟩:=(sv.mv a).seq a.st;obtain⟨u,f,c⟩:=r.C5 j;exact⟨l,vs,i,u,rfl,rfl,AU.of g,f,q _ _ F2 H2 (b.trans a) c kk⟩⟩
theorem BV(h:Wq ss ta λtp xs=>tp=true/\Wp ss tb λy=>∃i p,y=.int i/\L2.C5 xs i=some p/\k p):Wp ss (Ba (D4 K) ta tb) k:=⟨λE O F H Q S q=>
 h.go E O F H _ S λv tp xs F1 H1 b sv⟨m,h2⟩=>h2.go E O F1 H1 _ b.st λn p2 F2 H2 a d⟨i,p,e,j,kk⟩=>by
  subst e;cases d.inv;subst m;obtain⟨l,vs,rfl,g,r⟩:=(sv.mv a).seq a.st;obtain⟨u,f,c⟩:=r.C5 j;exact⟨l,vs,i,u,rfl,rfl,BW.of g,f,q _ _ F2 H2 (b.trans a) c kk⟩⟩
theorem iL(h:Wp ss ta λp=>∃x,p=.str x/\Wq ss tb λ_ ys=>∃ns:List Str,ys=ns.map PV.str/\k (.bl (if neg then !decide (x∈ns)else decide (x∈ns)))):Wp ss (Ba (IM K neg) ta tb) k:=⟨λE O F H Q S q=>
 h.el E S λx F1 H1 b h2=>by
  exact h2.go E O F1 H1 _ b.st λe tp ys F2 H2 a sv Eh=>by
   obtain⟨ns,d,kk⟩:=Eh;subst d;obtain⟨l,vs,rfl,c,r⟩:=sv.seq a.st;rw[r.strs]at c;refine⟨l,_,rfl,(Em.sq (K:=K) c).or,rfl,MU ns,?_⟩;rw[Ww];exact q _ _ F2 H2 (b.trans a) (.bl _) kk⟩
theorem RL{k:List PV->Prop}(e:r=λxs H Q=>∃p ys,xs=[.ref p]/\(AU K H p ys∨BW K H p ys)/\∀l,H l=none->Q (.ref l) (upd H l (.lst ys)))(h:Wq ss te λ_ xs=>k xs):Wn ss (El r (AX te BA)) k:=⟨λE O F H Q S q=>
 h.go E O F H _ S λv tp xs F1 H1 b sv kk=>by
  subst e;obtain⟨l,vs,rfl,f,r⟩:=sv.seq b.st;refine⟨l,vs,rfl,(Em.sq (K:=K) f).or,λa c=>?_⟩;have d:=b.st.make c (.lst vs);exact q a vs xs F1 _ (b.trans d) (b.st.CK c) (b.none c) B3 r kk⟩
theorem RU(d:r=λxs H Q=>∃p ys,xs=[.ref p]/\((AU K H p ys/\∀l,H l=none->Q (.ref l) (upd H l (.tup ys)))∨(BW K H p ys/\Q (.ref p) H)))(h:Wq ss te λ_ xs=>k (.tup xs)):Wp ss (El r (AX te BA)) k:=⟨λE O F H Q S q=>
 h.go E O F H _ S λv tp xs F1 H1 b sv kk=>by
  subst d;cases tp with
  |false=>
   obtain⟨l,vs,rfl,f,r⟩:=sv.seq b.st;refine⟨l,vs,rfl,.inl ⟨AU.of f,λa g=>?_⟩⟩;have c:=b.st.alloc g (.tup vs);exact q _ _ _ _ (b.trans c) (.tup B3 (r.mono c.ff)) kk
  |true=>
   have i:Rep F1 v (.tup xs):=sv;cases i with
   |tup e r=>exact⟨_,_,rfl,.inr ⟨BW.of (b.st.fh _ _ e),q _ _ F1 H1 b (.tup e r) kk⟩⟩⟩
theorem My{k:List PV->Prop}(h:Wq ss ta λtp xs=>tp=false/\Wq ss tb λFL ys=>FL=false/\xs.length+ys.length<=100000/\k (xs++ys)):Wn ss (Ba mV ta tb) k:=⟨λE O F H Q S q=>
 h.go E O F H _ S λv tp xs F1 H1 c sv⟨j,h2⟩=>h2.go E O F1 H1 _ c.st λm FL ys F2 H2 b Nb⟨YV,g,kk⟩=>by
  subst j;subst YV;obtain⟨l,vs,rfl,i,r⟩:=(sv.mv b).seq b.st;obtain⟨l2,EY,rfl,EA,e⟩:=Nb.seq b.st;refine⟨l,l2,vs,EY,rfl,rfl,i,EA,small (by rw[r.length,e.length];exact g),λa d=>?_⟩;have f:=b.st.make d (.lst (vs++EY));exact q a _ _ F2 _ (c.trans (b.trans f)) (b.st.CK d) ((c.trans b).none d) B3 (r.append e) kk⟩
def Dw(xs:List α)(lo hi:Option Int):List α:=(xs.drop (HT.DW xs.length 0 lo)).take (HT.DW xs.length xs.length hi - HT.DW xs.length 0 lo)
theorem AV.cut(r:AV F vs xs)(lo hi:Option Int):AV F (MS vs lo hi) (Dw xs lo hi):=by
 unfold MS Dw;rw[r.length];exact(r.drop _).take _
theorem NL{k:List PV->Prop}{tl th:TO}(h:Wq ss te λtp xs=>tp=false/\Wo ss tl λlo=>Wo ss th λhi=>k (Dw xs lo hi)):Wn ss (Zo (oW K) te tl th) k:=⟨λE O F H Q S q=>
 h.go E O F H _ S λv tp xs F1 H1 d sv⟨j,h2⟩=>h2.go E O F1 H1 _ d.st λlo F2 H2 c i=>i.go E O F2 H2 _ c.st λhi F3 H3 b kk=>by
  subst j;obtain⟨l,vs,rfl,g,r⟩:=(sv.mv (c.trans b)).seq b.st;refine⟨l,vs,rfl,AU.of g,λa e=>?_⟩;have f:=b.st.make e (.lst (MS vs lo hi));exact q a _ _ F3 _ (d.trans (c.trans (b.trans f))) (b.st.CK e) ((d.trans (c.trans b)).none e) B3 (r.cut lo hi) kk⟩
theorem zD(xs ys:List Str):IW (xs.map V.str) (ys.map V.str)=decide (xs=ys):=by
 by_cases h:xs=ys
 .subst h;rw[ZJk,uL rfl]
 .rw[vc h]
  by_cases a:xs.length=ys.length
  .rw[O0 (by simpa using a)]
   cases c:(List.range (xs.map V.str).length).all λj=>FE ((xs.map V.str).getD j .AA) ((ys.map V.str).getD j .AA)with
   |false=>rfl
   |true=>
    exfalso;apply h;apply ZKW a;intro j h1 h2;have q:=List.all_eq_true.mp c j (List.mem_range.mpr (by simpa using h1))
    have e:(xs.map V.str)[j]?=some (.str xs[j]):=by rw[Ax,As h1];rfl
    have d:(ys.map V.str)[j]?=some (.str ys[j]):=by rw[Ax,As h2];rfl
    rw[R4 e,R4 d]at q;have b:(xs[j] == ys[j])=true:=q
    simpa using b
  .rw[OB (by simpa using a)]
theorem gM(h:Wq ss ta λtp xs=>∃ns:List Str,xs=ns.map PV.str/\Wq ss tb λFL ys=>FL=tp/\∃ms:List Str,ys=ms.map PV.str/\k (.bl (if neg then !decide (ns=ms)else decide (ns=ms)))):Wp ss (Ba (RH K neg) ta tb) k:=⟨λE O F H Q S q=>
 h.go E O F H _ S λv tp xs F1 H1 b sv⟨ns,g,h2⟩=>h2.go E O F1 H1 _ b.st λi FL ys F2 H2 a Nb⟨e,ms,f,kk⟩=>by
  subst g;subst f;subst e;obtain⟨l,vs,rfl,c,r⟩:=(sv.mv a).seq a.st;obtain⟨l2,EY,rfl,EA,d⟩:=Nb.seq a.st;rw[r.strs]at c;rw[d.strs]at EA;refine⟨l,l2,ns.map V.str,ms.map V.str,rfl,rfl,?_,MU _,MU _,?_⟩
  .cases FL
   .exact .inl ⟨AU.of c,AU.of EA⟩
   .exact .inr ⟨BW.of c,BW.of EA⟩
  .rw[zD];cases neg
   .exact q _ _ F2 H2 (b.trans a) (.bl _) kk
   .exact q _ _ F2 H2 (b.trans a) (.bl _) kk⟩
def tyP:PV->String
 | .AA => "NoneType"
 | .bl _ => "bool"
 | .int _ => "int"
 | .str _ => "str"
 | .lst _ => "list"
 | .tup _ => "tuple"
 | .BJ _ _ => "dict"
 |_ => ""
def Rg:PV->Value
 | .obj _ _ _=>.none
 | .exc _ _ _=>.none
 | .con _ _=>.none
 |p=>.type (tyP p)
theorem tV(d:r=λxs H Q=>∃i j,xs=[.int i,.int j]/\Q (.int (if j > i then j else i)) H)(h:Wp ss ta λx=>∃i,x=.int i/\Wp ss tb λy=>∃j,y=.int j/\k (.int (if j > i then j else i))):Wp ss (El r (AX ta (AX tb BA))) k:=⟨λE O F H Q S q=>
 h.go E O F H _ S λv p F1 H1 a b AO=>by
  obtain⟨i,e,h2⟩:=AO;subst d;subst e;cases b.inv;exact h2.el E a.st λj F2 H2 c kk=>by
   exact⟨i,j,rfl,q _ _ F2 H2 (a.trans c) (.int _) kk⟩⟩
theorem vX(d:r=λxs H Q=>∃i j,xs=[.int i,.int j]/\Q (.int (if j<i then j else i)) H)(h:Wp ss ta λx=>∃i,x=.int i/\Wp ss tb λy=>∃j,y=.int j/\k (.int (if j<i then j else i))):Wp ss (El r (AX ta (AX tb BA))) k:=⟨λE O F H Q S q=>
 h.go E O F H _ S λv p F1 H1 a b AO=>by
  obtain⟨i,e,h2⟩:=AO;subst d;subst e;cases b.inv;exact h2.el E a.st λj F2 H2 c kk=>by
   exact⟨i,j,rfl,q _ _ F2 H2 (a.trans c) (.int _) kk⟩⟩
end
structure Src (E:Ent0) (F1:Hp) (J:It) (xs:List PV):Prop where
 go:∀(ss:List Slot)(O:L2.St)(F H:Hp)(i:Nat),AR F1 F->Sg E ss O F H->i<xs.length->J.go i H
 stop:∀(ss:List Slot)(O:L2.St)(F H:Hp),AR F1 F->Sg E ss O F H->J.stop xs.length H
 FT:∀(ss:List Slot)(O:L2.St)(F H:Hp)(i:Nat)(x:V)(H':Hp),AR F1 F->Sg E ss O F H->i<xs.length->J.FT i H x H'->∃p F',xs[i]?=some p/\Mv E ss O F H F' H'/\Rep F' x p
structure Wi [Xw] (ss:List Slot) (wi:TI) (k:List PV->Prop):Prop where
 go:∀(E:Ent)(O:L2.St)(F H:Hp)(R:It->Hp->Prop),Sg E ss O F H->(∀J xs F' H',Mv E ss O F H F' H'->Src E F' J xs->k xs->R J H')->wi O H R
structure Wg [Xw] (ss:List Slot) (g:TG) (p:PV) (k:List Slot->Prop):Prop where
 go:∀(E:Ent)(O:L2.St)(F H:Hp)(v:V)(Q:L2.St->Hp->Prop),Sg E ss O F H->Rep F v p->(∀A6 σ',k A6->Sg E A6 σ' F H->Q σ' H)->g v O H Q
section
variable[Xw]
variable{K:ZLZ}{tb:TE}{k:PV->Prop}{R:Ag}
theorem nc(h:∀(ss:List Slot)(O:L2.St)(F H:Hp),AR F' F->Sg E ss O F H->H l=some (Em tp vs))(r:AV F' vs xs):Src E F' (Vb K tp l vs) xs where
 go:=λss O F H i s S hi=>⟨Em.sq (h ss O F H s S),by rw[r.length];exact hi⟩
 stop:=λss O F H s S=>⟨Em.sq (h ss O F H s S),by rw[r.length];exact B0 _⟩
 FT:=λss O F H i x H' s S hi y=>by
  obtain⟨e,hx⟩:=y;subst e;obtain⟨p,b,a⟩:=r.get' hx;exact⟨p,F,b,.refl S,a.mono s⟩
theorem D0{k:List PV->Prop}(h:Wz ss te λ_ xs=>k xs):Wi ss (T4 K te) k:=⟨λE O F H R S q=>
 h.go E O F H _ S λv tp xs F1 H1 a f kk=>by
  cases tp with
  |true=>
   have c:Rep F1 v (.tup xs):=f;cases c with
   |tup e r=>exact⟨true,_,_,rfl,BW.of (a.st.fh _ _ e),q _ _ F1 H1 a (nc (tp:=true) (λss O F H s S=>S.fh _ _ (s _ _ e)) r) kk⟩
  |false=>
   obtain⟨l,vs,rfl,h1,r⟩:=f;have b:∀(ss:List Slot)(O:L2.St)(F H:Hp),AR F1 F->Sg E ss O F H->H l=some (.lst vs):=λss O F H s S=>by
    rcases h1 with h1|⟨hA,h1⟩
    .exact S.fh _ _ (s _ _ h1)
    .exact S.keep _ _ hA h1
   exact⟨false,l,vs,rfl,AU.of (b ss O F1 H1 (AR.refl _) a.st),q _ _ F1 H1 a (nc (tp:=false) b r) kk⟩⟩
def L5(n:Nat):List PV:=(List.range n).map λi:Nat=>PV.int (i:Int)
theorem Iw(n:Nat):(L5 n).length=n:=by simp[L5]
theorem US(h:(L5 n)[i]?=some p):i<n/\p=.int (i:Int):=by
 have hi:i<n:=by have:=(List.getElem?_eq_some_iff.mp h).1;rwa [Iw]at this
 unfold L5 at h;rw[Ax,Pj hi]at h;exact⟨hi,(Be h).symm⟩
theorem lp{k:List PV->Prop}(h:Wp ss te λp=>∃j:Int,p=.int j/\j<=1000000/\-1000000<=j/\k (L5 j.toNat)):Wi ss (cP (AX te BA)) k:=⟨λE O F H R S q=>
 h.el E S λj F1 H1 b a=>by
  obtain⟨h1,h2,kk⟩:=a;refine⟨j,rfl,by omega,by omega,q _ (L5 j.toNat) F1 H1 b ⟨λss O F H i s S hi=>?_,λss O F H s S=>?_,λss O F H i x H' s S hi y=>?_⟩ kk⟩
  .rw[Iw]at hi;exact hi
  .show _<=_;rw[Iw];exact B0 _
  .obtain⟨e,hx⟩:=y;subst e;subst hx;rw[Iw]at hi;refine⟨.int (i:Int),F,?_,.refl S,?_⟩
   .unfold L5;rw[Ax,Pj hi];rfl
   .rw[Int.zero_add];exact .int _⟩
theorem G2{k:List Slot->Prop}(h:k (ss.set j (.is p))):Wg ss (D2 j) p k:=⟨λE O F H v Q S r q=>q _ _ h (S.Gr r)⟩
theorem Yc{k:List Slot->Prop}(h:∃a b,p=.tup [a,b]/\k ((ss.set i (.is a)).set j (.is b))):Wg ss (O8 K 2 (LK (D2 i) (LK (D2 j) S9))) p k:=⟨λE O F H v Q S r q=>by
 obtain⟨a,b,rfl,kk⟩:=h;obtain⟨_,_,rfl,e,r⟩:=r.inv;obtain⟨_,_,rfl,d,r⟩:=r.inv;obtain⟨_,_,rfl,c,r⟩:=r.inv;obtain rfl:=r.ET;exact⟨_,_,rfl,BW.of (S.fh _ _ e),rfl,_,_,rfl,_,_,rfl,rfl,q _ _ kk ((S.Gr d).Gr c)⟩⟩
theorem AE{t:TS}(h:Ws ss t (λA6=>Ws A6 u nx R) R):Ws ss (Ly t u) nx R:=⟨λE D O F H S c a=>
 h.go E { D with nx:=u D } O F H S (λA6 σ' F' H' w S' s=>w.go E D σ' F' H' S' (λBm σ2 F2 H2 b S2 s2=>c Bm σ2 F2 H2 b S2 (s.trans s2)) a) a⟩
theorem Bg{t:TS}(h:Ws ss t nx R):Ws ss (Zh t) nx R:=⟨λE D O F H S b a=>⟨D.nx,h.go E { D with nx:=D.nx } O F H S b a,λ_ _ q=>q⟩⟩
theorem Ws.mono{t:TS}(h:Ws ss t nx R)(i:∀s,nx s->Up s):Ws ss t Up R:=⟨λE D O F H S b a=>h.go E D O F H S (λA6 σ' F' H' n=>b A6 σ' F' H' (i _ n)) a⟩
theorem Jx{t:TS}(J:List Slot->Prop)(h:Ws ss t J R)(h2:∀A6,J A6->Ws A6 u nx R):Ws ss (Ly t u) nx R:=AE (h.mono h2)
theorem Dc(h:Wp ss te λp=>nx (ss.set i (.is p))):Ws ss (Ez te (D2 i)) nx R:=⟨λE D O F H S b c=>
 h.go E O F H _ S λv p F1 H1 a r kk=>b _ _ F1 H1 kk (a.st.Gr r) a.ff⟩
theorem ZAR(h:Wp ss te λp=>Wg ss g p nx):Ws ss (Ez te g) nx R:=⟨λE D O F H S b c=>
 h.go E O F H _ S λv p F1 H1 a r kk=>kk.go E O F1 H1 v _ a.st r λA6 σ' n S'=>b _ _ F1 H1 n S' a.ff⟩
theorem G3(h:Wn ss te λxs=>nx (ss.set i (.own xs))):Ws ss (Ez te (D2 i)) nx R:=⟨λE D O F H S f m=>
 h.go E O F H _ S λl vs xs F1 H1 a g b N7 r kk=>f _ _ F1 H1 kk (a.st.setG ⟨l,vs,rfl,g,S.DB b,N7,r⟩ λk e j u _ d c=>by cases e;exact S.KQ d b c) a.ff⟩
theorem CD(h:Wp ss te k):Ws ss (Hb te) nx (.is k):=⟨λE D O F H S c b=>
 h.go E O F H _ S λv p F1 H1 a r kk=>b v F1 H1 a.st.toFin ⟨p,r,kk⟩⟩
theorem Ji{k:List PV->Prop}(h:Wn ss te k):Ws ss (Hb te) nx (.new k):=⟨λE D O F H S e b=>
 h.go E O F H _ S λl vs xs F1 H1 a d c N7 r kk=>b _ F1 H1 a.st.toFin ⟨l,vs,xs,rfl,d,S.DB c,N7,r,kk⟩⟩
theorem Zc{k:List PV->Prop}(h:ss[i]?=some (.own xs))(kk:k xs):Ws ss (Hb (Al i)) nx (.new k):=⟨λE D O F H S f a=>by
 obtain⟨l,vs,e,d,c,b,r⟩:=S.ok i _ h;exact⟨_,e,a _ F H S.toFin ⟨l,vs,xs,rfl,d,c,b,r,kk⟩⟩⟩
theorem Ap{t:TS}(h:Wt ss c λb=>if b=true then Ws ss t nx R else Ws ss u nx R):Ws ss (Vo c t u) nx R:=⟨λE D O F H S e d=>
 h.go E O F H _ S λb F1 H1 a w=>by
  show if b=true then _ else _
  cases b with
  |true=>rw[u4 rfl]at w ⊢;exact w.go E D O F1 H1 a.st (λBm σ2 F2 H2 n S2 s2=>e Bm σ2 F2 H2 n S2 (a.ff.trans s2)) d
  |false=>rw[tK (by decide)]at w ⊢;exact w.go E D O F1 H1 a.st (λBm σ2 F2 H2 n S2 s2=>e Bm σ2 F2 H2 n S2 (a.ff.trans s2)) d⟩
theorem An(h:nx ss):Ws ss M7 nx R:=⟨λE D O F H S a b=>a ss O F H h S (AR.refl _)⟩
theorem FH(h:Wp ss te λ_=>nx ss):Ws ss (HA te) nx R:=⟨λE D O F H S b c=>
 h.go E O F H _ S λv p F1 H1 a r kk=>b ss O F1 H1 kk a.st a.ff⟩
theorem Sg.drop(S:Sg E ss O F H)(i:Nat):Sg E (ss.set i .any) O F H:=by
 have b:∀(j:Nat)u,(ss.set i .any)[j]?=some u->u=.any∨ss[j]?=some u:=λj u a=>by
  by_cases q:j=i
  .subst q;have e:j<ss.length:=by have:=(List.getElem?_eq_some_iff.mp a).1;simpa using this
   rw[DA e]at a;exact .inl (Be a).symm
  .rw[CZ (BO q)]at a;exact .inr a
 refine⟨S.toFin,by rw[JV];exact S.len,λj u a=>?_,λj k u w l Tp a hk d c=>?_⟩
 .rcases b j u a with rfl|h
  .trivial
  .exact S.ok j u h
 .rcases b j u a with rfl|h
  .cases d
  .rcases b k w hk with rfl|h2
   .cases c
   .exact S.CG j k u w l Tp h h2 d c
theorem Sy(e:O[i]?=some (some v)):O.set i (some v)=O:=by
 apply List.ext_getElem?;intro j
 by_cases q:j=i
 .subst q;rw[DA (List.getElem?_eq_some_iff.mp e).1,e]
 .rw[CZ (BO q)]
theorem Sg.NT(S:Sg E ss O F H)(k:F a=none)(c:E.H0 a=none∨a∈E.B)(g:∀(i:Nat)s,ss[i]?=some s->¬ BU s O[i]? a):Sg E ss O F (upd H a o):=by
 have f:∀b u,b≠a->H b=some u->upd H a o b=some u:=λb u h e=>by rw[AW h];exact e
 refine⟨⟨λb u e=>?_,S.f0,λb u d e=>?_,S.fresh,λb d=>?_,S.MP,S.a0,S.bF,λb j=>?_,S.b0⟩,S.len,λi s hi=>?_,S.CG⟩
 .exact f b u (D7 e k) (S.fh b u e)
 .refine f b u ?_ (S.keep b u d e);rintro rfl;rcases c with c|c
  .rw[c]at e;cases e
  .exact d.2 c
 .refine C4.keep (S.Hk b d) λu e=>f b u ?_ e;rintro rfl;rcases c with c|c
  .exact S.a0 _ d c
  .exact(S.b0 _ c).2 d
 .by_cases q:b=a
  .subst q;rw[B3];simp
  .rw[AW q];exact S.bH b j
 .by_cases np:s=.AY
  .subst np;obtain⟨l,e,r,p,n⟩:=S.ok i _ hi;exact⟨l,e,r,p,C4.keep n λu h=>f l u (by rintro rfl;exact g i _ hi e) h⟩
  .exact Ok.go S hi (AR.refl _) (λb u m h=>f b u (by rintro rfl;exact g i _ hi m) h) (λ_ _ h=>h) np
theorem Sg.put(S:Sg E ss O F H){ys:List PV}(hi:ss[i]?=some (.own xs))(e:O[i]?=some (some (.ref l)))(f:F l=none)(d:E.H0 l=none)(r:AV F Bt ys):Sg E (ss.set i (.own ys)) O F (upd H l (.lst Bt)):=by
 have a:∀(j:Nat)s,(ss.set i .any)[j]?=some s->¬ BU s O[j]? l:=λj s b c=>by
  by_cases q:j=i
  .subst q;have p:j<ss.length:=(List.getElem?_eq_some_iff.mp hi).1;rw[DA p]at b;cases b;cases c
  .rw[CZ (BO q)]at b;exact S.CG j i s _ l q b hi c e
 have n:=(S.drop i).NT (o:=.lst Bt) f (.inl d) a;have g:=n.setG (j:=i) (s:=.own ys) (v:=.ref l) ⟨l,Bt,rfl,f,d,B3,r⟩ λt m j u b k h=>by cases m;exact a j u k h
 rw[Sy e,WU]at g;exact g
theorem Vr(hi:ss[i]?=some (.own xs))(h:Wp ss te λp=>xs.length<=99999/\nx (ss.set i (.own (xs++[p])))):Ws ss (HA (GJ K "list" UE (Al i) (AX te BA))) nx R:=⟨λE D O F H S g m=>by
 obtain⟨l,vs,e,o,n,j,r⟩:=S.ok i _ hi;refine⟨_,e,.inl ⟨rfl,_,AU.of j⟩,h.go E O F H _ S λv p F1 H1 a d⟨f,kk⟩=>?_⟩;obtain⟨k,Bt,c,En,Cj,MI,b⟩:=a.st.ok i _ hi;rw[e]at c;cases c;refine⟨l,Bt,v,rfl,rfl,MI,IT (by rw[b.length];exact f),?_⟩;exact g _ O F1 _ kk (a.st.put hi e En Cj (b.append (.one d))) a.ff⟩
theorem p7(hi:ss[i]?=some (.own xs))(h:Wp ss ta λa=>∃j:Int,a=.int j/\0<=j/\j<=xs.length/\Wp ss te λp=>xs.length<=99999/\nx (ss.set i (.own (xs.take j.toNat++p::xs.drop j.toNat)))):
  Ws ss (HA (GJ K "list" UB (Al i) (AX ta (AX te BA)))) nx R:=⟨λE D O F H S o w=>by
 obtain⟨l,vs,e,y,x,s,r⟩:=S.ok i _ hi;refine⟨_,e,.inl ⟨rfl,_,AU.of s⟩,h.go E O F H _ S λt p1 F1 H1 d OM⟨j,q,m,k,h2⟩=>?_⟩;subst q;cases OM.inv;refine h2.go E O F1 H1 _ d.st λv p F2 H2 c g⟨n,kk⟩=>?_;obtain⟨u,Bt,f,En,Cj,MI,b⟩:=c.st.ok i _ hi;rw[e]at f;cases f;refine⟨l,Bt,j,v,rfl,rfl,MI,m,by rw[b.length];exact k,IT (by rw[b.length];exact n),?_⟩;exact o _ O F2 _ kk (c.st.put hi e En Cj ((b.take _).append (.cons g (b.drop _)))) (d.ff.trans c.ff)⟩
def CQ(F H:Hp)(as:List Addr):Hp:=λa=>if a∈as then H a else F a
theorem Sg.lay(S:Sg E ss O F H)(as:List Addr)(g:∀a∈as,F a=none/\E.H0 a=none/\H a≠none)(x:∀a∈as,∀(i:Nat)s,ss[i]?=some s->¬ BU s O[i]? a):Sg E ss O (CQ F H as) H/\AR F (CQ F H as):=by
 have y:∀a,a∈as->CQ F H as a=H a:=λa h=>u4 h;have j:∀a,a∉as->CQ F H as a=F a:=λa h=>tK h;have ff:AR F (CQ F H as):=λa o e=>by
  by_cases q:a∈as
  .rw[(g a q).1]at e;cases e
  .rw[j a q];exact e
 have f:∀a,a∉as->F a=none->CQ F H as a=none:=λa q h=>by rw[j a q];exact h
 refine⟨⟨⟨λa o e=>?_,S.f0.trans ff,S.keep,λa o e=>?_,S.Hk,λa w=>?_,S.a0,λa u=>?_,S.bH,S.b0⟩,S.len,λi s hi=>?_,S.CG⟩,ff⟩
 .by_cases q:a∈as
  .rw[y a q]at e;exact e
  .rw[j a q]at e;exact S.fh a o e
 .by_cases q:a∈as
  .exact .inr (g a q).2.1
  .rw[j a q]at e;exact S.fresh a o e
 .exact f a (λq=>S.a0 a w (g a q).2.1) (S.MP a w)
 .exact f a (λq=>(S.b0 a u).1 (g a q).2.1) (S.bF a u)
 .have l:∀a,BU s O[i]? a->a∉as:=λa m q=>x a q i s hi m;have kk:=S.ok i s hi;cases s with
  |any=>trivial
  |is p=>obtain⟨v,e,r⟩:=kk;exact⟨v,e,r.mono ff⟩
  |own ys=>
   obtain⟨b,ws,q,d,c,k,r⟩:=kk;exact⟨b,ws,q,f b (l b q) d,c,k,r.mono ff⟩
  |AY=>
   obtain⟨b,q,d,c,k⟩:=kk;exact⟨b,q,f b (l b q) d,c,k⟩
  |sq tp ys=>
   cases tp with
   |true=>obtain⟨v,e,r⟩:=kk;exact⟨v,e,r.mono ff⟩
   |false=>obtain⟨b,ws,q,d,c,r⟩:=kk;exact⟨b,ws,q,d,c,r.mono ff⟩
  |raw P=>obtain⟨v,e,r,st⟩:=kk;exact⟨v,e,st _ _ ff r,st⟩
  |ow lt t=>
   obtain⟨v,e,r,nd,q⟩:=kk;exact⟨v,e,r.mono ff λa _ o h=>h,nd,λa n=>⟨f a (l a n) (q a n).1,(q a n).2⟩⟩
theorem JC{t:TS}(i:Nat)(hi:ss[i]?=some (.own xs))(h:Ws (ss.set i (.is (.lst xs))) t nx R):Ws ss t nx R:=⟨λE D O F H S k g=>by
 obtain⟨l,vs,e,u,o,f,r⟩:=S.ok i _ hi;have one:∀a,a∈[l]->a=l:=λa h=>by simpa using h
 obtain⟨S1,d⟩:=(S.drop i).lay [l] (λa h=>by rw[one a h,f];exact⟨u,o,by simp⟩) λa h j s b m=>by
  rw[one a h]at m
  by_cases q:j=i
  .subst q;rw[DA (List.getElem?_eq_some_iff.mp hi).1]at b;cases b;cases m
  .rw[CZ (BO q)]at b;exact S.CG j i s _ l q b hi m e
 have c:=S1.Gr (j:=i) (v:=.ref l) (p:=.lst xs) (.lst (by unfold CQ;rw[u4 (by simp)];exact f) (r.mono d));rw[Sy e,WU]at c;exact h.go E D O _ H c (λBm σ2 F2 H2 n c s2=>k Bm σ2 F2 H2 n c (d.trans s2)) g⟩
theorem Eo{tb:TS}(I:List PV->Nat->List Slot->Prop)(h:Wi ss wi λxs=>I xs 0 ss/\(∀(i:Nat)p A6,xs[i]?=some p->I xs i A6->Wg A6 g p λBm=>Ws Bm tb (I xs (i+1)) R)/\∀A6,I xs xs.length A6->nx A6):Ws ss (Ta wi g tb) nx R:=⟨λE D O F H S v t=>
 h.go E O F H _ S λJ xs F1 H1 k d AO=>by
  obtain⟨i0,s,hd⟩:=AO;refine⟨λi m σ' H'=>m=xs.length - i/\i<=xs.length/\∃A6 F',I xs i A6/\Sg E A6 σ' F' H'/\AR F1 F',⟨_,rfl,Cf _,ss,F1,i0,k.st,AR.refl _⟩,?_⟩;rintro i m σ' H'⟨rfl,hi,A6,F',l,S',s'⟩
  by_cases f:i<xs.length
  .refine .inr ⟨d.go A6 σ' F' H' i s' S' f,λσ2 H2=>∃Bm F2,I xs (i+1) Bm/\Sg E Bm σ2 F2 H2/\AR F1 F2,λσ2 H2 Eh=>by obtain⟨Bm,F2,a,b,c⟩:=Eh;exact⟨_,by omega,rfl,f,Bm,F2,a,b,c⟩,λx H3 y=>?_⟩;obtain⟨p,F3,u,j,q⟩:=d.FT A6 σ' F' H' i x H3 s' S' f y;refine(s i p A6 u l).go E σ' F3 H3 x _ j.st q λn σ4 w S4=>?_;exact w.go E _ σ4 F3 H3 S4 (λNO σ5 F5 H5 r S5 o=>⟨NO,F5,r,S5,(s'.trans j.ff).trans o⟩) t
  .have e:i=xs.length:=by omega
   subst e;exact .inl ⟨d.stop A6 σ' F' H' s' S',v A6 σ' F' H' (hd A6 l) S' (k.ff.trans s')⟩⟩
theorem pq{tb:TS}(I:Nat->List Slot->Prop)(e:Nat)(o:I e ss)(h:∀m A6,I m A6->Wt A6 c λb=>if b=true then Ws A6 tb (λBm=>∃a,a < m/\I a Bm) R else nx A6):Ws ss (VJ c tb) nx R:=⟨λE D O F H S k j=>by
 refine⟨λm σ' H'=>∃A6 F',I m A6/\Sg E A6 σ' F' H'/\AR F F',⟨e,ss,F,o,S,AR.refl _⟩,?_⟩;rintro m σ' H'⟨A6,F',n,S',s'⟩;refine(h m A6 n).go E σ' F' H' _ S' λb F1 H1 d w=>?_;cases b with
 |true=>
  rw[u4 rfl]at w;refine⟨λσ2 H2=>∃Bm F2,(∃a,a < m/\I a Bm)/\Sg E Bm σ2 F2 H2/\AR F F2,λσ2 H2 AO=>by obtain⟨Bm,F2,⟨a,l,i⟩,b,c⟩:=AO;exact⟨a,l,Bm,F2,i,b,c⟩,?_⟩;exact w.go E _ σ' F1 H1 d.st (λNO σ5 F5 H5 g S5 f=>⟨NO,F5,g,S5,(s'.trans d.ff).trans f⟩) j
 |false=>
  rw[tK (by decide)]at w;exact k A6 σ' F1 H1 w d.st (s'.trans d.ff)⟩
end
def CT(js:List Nat)(ss:List Slot):List Slot:=js.map λj=>(ss[j]?).getD .any
def QF(js:List Nat)(ss:List Slot):Bool:=js.all λj=>match ss[j]? with
 |some .AY=>false
 |_=>true
section
variable[Xw]
variable{K:ZLZ}{js:List Nat}
theorem qd(h:js[i]?=some j)(e:(CT js ss)[i]?=some s):s=(ss[j]?).getD .any:=by
 unfold CT at e;rw[Ax,h]at e;exact(Be e).symm
theorem Sg.AN(S:Sg E ss O F H)(nd:js.Nodup)(r:AV F vs ps):Sg E (CT js ss++ps.map .is) (Bh js O++vs.map some) F H:=by
 have d:(CT js ss).length=js.length:=by simp[CT]
 have f:(Bh js O).length=js.length:=by simp[Bh]
 have k:∀(i:Nat)(hi:i<js.length),(CT js ss++ps.map .is)[i]?=some ((ss[js[i]]?).getD .any)/\(Bh js O++vs.map some)[i]?=some ((O[js[i]]?).join):=λi hi=>by
  rw[EW (by rw[d];exact hi),EW (by rw[f];exact hi)];unfold CT Bh;rw[Ax,Ax,As hi];exact⟨rfl,rfl⟩
 have c:∀(i:Nat)s,js.length<=i->(CT js ss++ps.map .is)[i]?=some s->∃p v,s=.is p/\(Bh js O++vs.map some)[i]?=some (some v)/\Rep F v p:=λi s hi e=>by
  rw[G5 (by rw[d];exact hi),d,Ax]at e;rw[G5 (by rw[f];exact hi),f,Ax];cases q:ps[i - js.length]? with
  |none=>rw[q]at e;cases e
  |some p=>
   rw[q]at e;obtain⟨v,h,g⟩:=r.get q;rw[h];exact⟨p,v,(Be e).symm,rfl,g⟩
 have D:∀(s:Slot)(m:Nat)(l:Addr),BU s (some (O[m]?).join) l->BU s O[m]? l:=λs m l o=>by
  have w:∀l,some (O[m]?).join=some (some (V.ref l))->O[m]?=some (some (.ref l)):=λl e=>by
   cases q:O[m]? with
   |none=>rw[q]at e;cases e
   |some o=>rw[q]at e;cases o with
    |none=>cases e
    |some v=>simpa using e
  cases s with
  |own xs=>exact w l o
  |AY=>exact w l o
  |ow lt t=>exact o
  |_=>exact o
 have n:∀(i:Nat)s l,(CT js ss++ps.map .is)[i]?=some s->BU s (Bh js O++vs.map some)[i]? l->∃hi:i<js.length,ss[js[i]]?=some s/\BU s O[js[i]]? l:=λi s l e m=>by
  by_cases hi:i<js.length
  .rw[(k i hi).2]at m;refine⟨hi,?_,D s _ l m⟩;rw[(k i hi).1]at e;cases q:ss[js[i]]? with
   |none=>rw[q]at e;cases e;cases m
   |some u=>rw[q]at e;exact e
  .obtain⟨p,v,rfl,_⟩:=c i s (by omega) e;cases m
 refine⟨S.toFin,?_,λi s e=>?_,λi j s u l FU hi C ms B=>?_⟩
 .rw[By,By,d,f,AB,AB,r.length]
 .by_cases hi:i<js.length
  .obtain⟨a,b⟩:=k i hi;rw[a]at e;rw[b];cases q:ss[js[i]]? with
   |none=>rw[q]at e;cases e;trivial
   |some u=>
    rw[q]at e;have G:u=s:=Be e;subst G;have kk:=S.ok _ _ q;cases u with
    |any=>trivial
    |is p=>obtain⟨v,e,r⟩:=kk;rw[e];exact⟨v,rfl,r⟩
    |own xs=>obtain⟨l,vs,e,r⟩:=kk;rw[e];exact⟨l,vs,rfl,r⟩
    |AY=>obtain⟨l,e,r⟩:=kk;rw[e];exact⟨l,rfl,r⟩
    |sq tp xs=>
     cases tp with
     |true=>obtain⟨v,e,r⟩:=kk;rw[e];exact⟨v,rfl,r⟩
     |false=>obtain⟨l,vs,e,r⟩:=kk;rw[e];exact⟨l,vs,rfl,r⟩
    |raw P=>obtain⟨v,e,r⟩:=kk;rw[e];exact⟨v,rfl,r⟩
    |ow lt t=>obtain⟨v,e,r⟩:=kk;rw[e];exact⟨v,rfl,r⟩
  .obtain⟨p,v,rfl,h,g⟩:=c i s (by omega) e;rw[h];exact⟨v,rfl,g⟩
 .obtain⟨J,y,A⟩:=n i s l hi ms;obtain⟨I,x,z⟩:=n j u l C B;refine S.CG js[i] js[j] s u l (λe=>FU ?_) y x A z;exact(ZKb nd).mp e
theorem Mv.out(S:Sg E ss O F H)(np:QF js ss=true)(m:Mv E (CT js ss++ps.map .is) τ F H F' H'):Mv E ss O F H F' H':=by
 have nn:∀a,CO (CT js ss++ps.map .is) τ a:=λa i hi _=>by
  by_cases h:i<(CT js ss).length
  .rw[EW h]at hi;have b:i<js.length:=by simpa[CT]using h
   have q:=qd (As b) hi;have z:=List.all_eq_true.mp np js[i] (Lr b);cases w:ss[js[i]]? with
   |none=>rw[w]at q;cases q
   |some u=>rw[w]at q z;cases q;cases z
  .rw[G5 (by omega),Ax]at hi;cases w:ps[i - (CT js ss).length]? with
   |none=>rw[w]at hi;cases hi
   |some p=>rw[w]at hi;cases hi
 have hk:∀a o,H a=some o->H' a=some o:=λa o e=>m.hh a o (nn a) e;exact S.step m.ff m.st.fh (λa o _ e=>hk a o e) m.nn λi l hi e=>C4.keep (S.GG hi e) λo e=>hk l o e
theorem kc{k:List PV->Prop}(f:PV->Bool)(g:PV->PV)
  (h:Wi ss wi λxs=>xs.length<=100000/\(∀x∈xs,Wt (CT js ss++[.is x]) tt λb=>b=f x)/\(∀x∈xs,f x=true->Wp (CT js ss++[.is x]) te λp=>p=g x)/\k ((xs.filter f).map g))
  (nd:js.Nodup:=by decide) (np:QF js ss=true:=by rfl):Wn ss (KL wi js tt te) k:=⟨λE O F H Q S q=>
 h.go E O F H _ S λJ xs F1 H1 d C⟨hz,U,V,kk⟩acc BI=>by
  have P:CO ss O acc:=d.st.J6 BI;have JK:=d.st.DB BI;have JJ:∀(i:Nat)s,ss[i]?=some s->¬ BU s O[i]? acc:=λi s hi=>d.st.KQ hi BI;refine⟨λi m H2=>m=xs.length - i/\i<=xs.length/\∃F2 vs,Mv E ss O F1 H1 F2 H2/\F2 acc=none/\H2 acc=some (.lst vs)/\AV F2 vs (((xs.take i).filter f).map g),⟨_,rfl,Cf _,F1,[],d.st.make BI _,d.st.CK BI,B3,.nil⟩,?_⟩;rintro i m H2⟨rfl,hi,F2,vs,c,K,z,t⟩
  by_cases r:i<xs.length
  .refine .inr ⟨C.go ss O F2 H2 i c.ff c.st r,λx H3 y=>?_⟩;obtain⟨p,F3,G,u,I⟩:=C.FT ss O F2 H2 i x H3 c.ff c.st r y;have N:p∈xs:=C7 G;have LW:(xs.take (i+1))=xs.take i++[p]:=by
    have Y:xs[i]=p:=by rw[As r]at G;exact Be G
    rw[Sf r,Y]
   have L:List.filter f (xs.take (i+1))=(xs.take i).filter f++(if f p=true then[p]else[]):=by
    rw[LW,qu];congr 1
    by_cases j:f p=true <;> simp[j]
   have M:∀{F4:Hp},(∀a o,F4 a=some o->F2 a=some o∨H2 a=none)->F4 acc=none:=λ{F4}n=>by
    cases e:F4 acc with
    |none=>rfl
    |some o=>
     rcases n acc o e with w|w
     .rw[K]at w;cases w
     .rw[z]at w;cases w
   have S3:=u.st.AN (js:=js) nd (.one I);refine(U p N).go E _ F3 H3 _ S3 λb F4 H4 D W=>?_;have l:=u.trans (D.out (ps:=[p]) u.st np);show if b=true then _ else _
   rw[W]
   by_cases j:f p=true
   .rw[u4 j];have Z:=l.st.AN (js:=js) nd (.one (I.mono (D.out (ps:=[p]) u.st np).ff));refine(V p N j).go E _ F4 H4 _ Z λw pw F5 H5 R KY X=>?_;have T:=D.out (ps:=[p]) u.st np;have MM:=R.out (ps:=[p]) l.st np;have B:=l.trans MM;have M0:=B.hh acc _ P z;have σ:=M B.nn;have v:vs.length<=99999:=by
     rw[t.length,AB];have:=WS f (xs.take i);rw[Dj]at this;omega
    refine⟨vs,M0,IT v,xs.length - (i+1),by omega,rfl,r,F5,vs++[w],?_,σ,B3,?_⟩
    .have A:=c.trans B;refine⟨A.st.NT σ (.inl JK) JJ,A.ff,λa o n e=>?_,A.nn⟩;rw[AW (D7 e BI)];exact A.hh a o n e
    .rw[L,u4 j,Ca];rw[X]at KY;exact(t.mono B.ff).append (.one KY)
   .have Qy:f p=false:=by simpa using j
    rw[Qy,tK (by decide)];refine⟨xs.length - (i+1),by omega,rfl,r,F4,vs,c.trans l,M l.nn,l.hh acc _ P z,?_⟩;rw[L,tK j,Dz];exact t.mono l.ff
  .have e:i=xs.length:=by omega
   subst e;refine .inl ⟨C.stop ss O F2 H2 c.ff c.st,q acc vs _ F2 H2 (d.trans c) K (d.none BI) z ?_ kk⟩;rw[G6]at t;exact t⟩
end
abbrev Pre:=List Slot->Ag->Prop
def AQ(pre:Pre):Sp:=λvs H Q _=>∃(ss:List Slot)(R:Ag)(F:Hp)(A:List Addr),pre ss R/\Sg (E3 A F H) ss (vs.map some) F H/\∀v F' H',Fin (E3 A F H) F' H'->R.ok (E3 A F H) F' H' v->Q v H'
section
variable[Xw]
variable{pre:Pre}{t:TA}{k:PV->Prop}
theorem HK.at{l:List Slot}(h:HK ss O F H vs l):∀{i:Nat}{s:Slot},l[i]?=some s->∃v,vs[i]?=some v/\Av ss O F H v s:=by
 induction h with
 |nil=>intro i s e;simp at e
 |cons a _ b=>
  intro i s e;cases i with
  |zero=>simp at e;subst e;exact⟨_,rfl,a⟩
  |succ i=>exact b (by simpa using e)
theorem HK.len{l:List Slot}(h:HK ss O F H vs l):l.length=vs.length:=by
 induction h with
 |nil=>rfl
 |cons a _ b=>rw[Ck,Ck,b]
theorem Av.ok(S:Sg E ss O F H)(a:Av ss O F H v s)(b:∀l,CO ss O l->l∉A):Ok (E3 A F H) F H s (some (some v))/\∀o l,¬ BU s o l:=by
 cases s with
 |is p=>exact⟨⟨v,rfl,a⟩,λ_ _ z=>z⟩
 |sq tp xs=>
  cases tp with
  |true=>exact⟨⟨v,rfl,a⟩,λ_ _ z=>z⟩
  |false=>obtain⟨l,vs,rfl,n,h,r⟩:=a;exact⟨⟨l,vs,rfl,⟨b l n,Aa⟩,h,r⟩,λ_ _ z=>z⟩
 |raw P=>exact⟨⟨v,rfl,a⟩,λ_ _ z=>z⟩
 |any=>exact a.elim
 |own xs=>exact a.elim
 |AY=>exact a.elim
 |ow lt t=>exact a.elim
theorem Sg.MG(S:Sg E ss O F H){l:List Slot}(a:HK ss O F H vs l):Sg (E3 [] F H) l (vs.map some) F H:=by
 have nn:∀{p:Prop}(a:Addr),a∈([]:List Addr)->p:=λa h=>absurd h Aa;refine⟨⟨S.fh,AR.refl _,λ_ _ _ e=>e,λ_ _ e=>.inl e,λa h=>nn a h,λa h=>nn a h,λa h=>nn a h,λa h=>nn a h,λa h=>nn a h,λa h=>nn a h⟩,by rw[AB];exact a.len,λi s hi=>?_,λi j s u l FU hi d ms c=>?_⟩
 .obtain⟨v,b,q⟩:=a.at hi;rw[Ax,b];exact(q.ok S λ_ _ h=>absurd h Aa).1
 .obtain⟨v,b,q⟩:=a.at hi;exact(q.ok S (A:=[]) λ_ _ h=>absurd h Aa).2 _ _ ms
theorem Sg.Z0(S:Sg E ss O F H){p:Addr}(hi:ss[i0]?=some .AY)(e:O[i0]?=some (some (.ref p))){l:List Slot}(a:HK ss O F H vs l):Sg (E3 [p] F H) (.AY::l) ((V.ref p::vs).map some) F H:=by
 obtain⟨t,g,fp,_,b⟩:=S.ok i0 _ hi;rw[e]at g;cases g;have f:∀l,CO ss O l->l∉[p]:=λl n h=>by
  have:l=p:=by simpa using h
  subst this;exact n i0 hi e
 have one:∀a,a∈[p]->a=p:=λa h=>by simpa using h
 have nn:∀{p:Prop}(a:Addr),a∈([]:List Addr)->p:=λa h=>absurd h Aa;refine⟨⟨S.fh,AR.refl _,λ_ _ _ e=>e,λ_ _ e=>.inl e,λa h=>(one a h)▸b,λa h=>(one a h)▸fp,λa h=>?_,λa h=>nn a h,λa h=>nn a h,λa h=>nn a h⟩,by rw[AB,Ck,Ck];rw[a.len],λi s hi=>?_,λi j s u c FU hi r ms k=>?_⟩
 .rw[one a h];obtain⟨_,_,q,_⟩:=b;show H p≠none;rw[q];simp
 .cases i with
  |zero=>simp at hi;subst hi;exact⟨p,rfl,fp,.inr (by simp),b⟩
  |succ i=>
   obtain⟨v,d,q⟩:=a.at (i:=i) (s:=s) (by simpa using hi)
   have:((V.ref p::vs).map some)[i+1]?=some (some v):=by rw[B6,ZKX,Ax,d];rfl
   rw[this];exact(q.ok S f).1
 .have z:∀(i:Nat)s o c,(Slot.AY::l)[i]?=some s->BU s o c->i=0:=λi s o c h m=>by
   cases i with
   |zero=>rfl
   |succ i=>
    obtain⟨v,d,q⟩:=a.at (i:=i) (s:=s) (by simpa using h)
    exact((q.ok S f).2 _ _ m).elim
  exact absurd ((z i s _ _ hi ms).trans (z j u _ _ r k).symm) FU
theorem Sg.back(S:Sg E ss O F H)(d:∀a,a∈A->∃i:Nat,ss[i]?=some .AY/\O[i]?=some (some (.ref a)))(f:Fin (E3 A F H) F' H'):Mv E ss O F H F' H':=by
 refine S.step f.f0 f.fh (λa o n e=>f.keep a o ⟨λh=>?_,Aa⟩ e) f.fresh λi l hi e=>?_
 .obtain⟨i,c,b⟩:=d a h;exact n i c b
 .by_cases q:l∈A
  .exact f.Hk l q
  .exact C4.keep (S.GG hi e) λo e=>f.keep l o ⟨q,Aa⟩ e
theorem wp_call(h:Wa ss t λl=>∃b,pre l (.is b)/\∀p,b p->k p):Wp ss (ED (AQ pre) [] E0 t) k:=⟨λE O F H Q S q=>
 h.go E O F H _ S λvs l F1 H1 c a⟨b,d,kk⟩=>by
  rw[Dz];refine⟨l,.is b,F1,[],d,c.st.MG a,λv F' H' f⟨p,r,kp⟩=>?_⟩;exact q v p F' H' (c.trans (c.st.back (λ_ h=>absurd h Aa) f)) r (kk p kp)⟩
theorem Hl{k:List PV->Prop}(h:Wa ss t λl=>∃c,pre l (.new c)/\∀xs,c xs->k xs):Wn ss (ED (AQ pre) [] E0 t) k:=⟨λE O F H Q S q=>
 h.go E O F H _ S λvs l F1 H1 b a⟨c,g,kk⟩=>by
  rw[Dz];refine⟨l,.new c,F1,[],g,b.st.MG a,λv F' H' f⟨l,vs,xs,e,j,i,DS,r,d⟩=>?_⟩;subst e;exact q l vs xs F' H' (b.trans (b.st.back (λ_ h=>absurd h Aa) f)) j (b.none i) DS r (kk xs d)⟩
theorem jK(hi:ss[i]?=some .AY)(h:Wa ss t λl=>∃b,pre (.AY::l) (.is b)/\∀p,b p->k p):Wp ss (ED (AQ pre) [] E0 (AX (Al i) t)) k:=⟨λE O F H Q S q=>by
 obtain⟨p,e,_⟩:=S.ok i _ hi;refine⟨_,e,h.go E O F H _ S λvs l F1 H1 c a⟨b,d,kk⟩=>?_⟩;show AQ pre ((V.ref p::vs)++[]) H1 Q E0;rw[Dz];refine⟨.AY::l,.is b,F1,[p],d,c.st.Z0 hi e a,λv F' H' f⟨pv,r,kp⟩=>?_⟩;exact q v pv F' H' (c.trans (c.st.back (A:=[p]) (λa h=>⟨i,hi,(show a=p from by simpa using h)▸e⟩) f)) r (kk pv kp)⟩
theorem ZCy{k:List PV->Prop}(hi:ss[i]?=some .AY)(h:Wa ss t λl=>∃c,pre (.AY::l) (.new c)/\∀xs,c xs->k xs):Wn ss (ED (AQ pre) [] E0 (AX (Al i) t)) k:=⟨λE O F H Q S q=>by
 obtain⟨p,e,_⟩:=S.ok i _ hi;refine⟨_,e,h.go E O F H _ S λvs l F1 H1 b a⟨c,g,kk⟩=>?_⟩;show AQ pre ((V.ref p::vs)++[]) H1 Q E0;rw[Dz];refine⟨.AY::l,.new c,F1,[p],g,b.st.Z0 hi e a,λv F' H' f⟨l,vs,xs,n,m,j,DS,r,d⟩=>?_⟩;subst n;exact q l vs xs F' H' (b.trans (b.st.back (A:=[p]) (λa h=>⟨i,hi,(show a=p from by simpa using h)▸e⟩) f)) m (b.none j) DS r (kk xs d)⟩
theorem Sg.grown(S:Sg E ss O F H)(n:Nat):Sg E (ss++List.replicate n .any) (O++List.replicate n none) F H:=by
 have g:∀(i:Nat)s,(ss++List.replicate n .any)[i]?=some s->s≠.any->ss[i]?=some s/\(O++List.replicate n none)[i]?=O[i]?:=λi s e m=>by
  by_cases h:i<ss.length
  .rw[EW h]at e;rw[EW (by rw[<- S.len];exact h)];exact⟨e,rfl⟩
  .rw[G5 (by omega),qz]at e;split at e
   .exact absurd (Be e).symm m
   .cases e
 refine⟨S.toFin,by simp[S.len],λi s e=>?_,λi j s u l FU hi o ms f=>?_⟩
 .cases s with
  |any=>trivial
  |_=>obtain⟨a,b⟩:=g i _ e (by simp);rw[b];exact S.ok i _ a
 .have ns:s≠.any:=by rintro rfl;cases ms
  have k:u≠.any:=by rintro rfl;cases f
  obtain⟨a,b⟩:=g i s hi ns;obtain⟨c,d⟩:=g j u o k;rw[b]at ms;rw[d]at f;exact S.CG i j s u l FU a c ms f
end
section
variable{pre:Pre}{t:TA}{k:PV->Prop}
def QL(E:Ent0):Ent:=⟨E,λ_ _ _ _ _ _ _ _ _ d=>d.elim⟩
theorem ZGh{N:List Str}{t:TS}(h:AQ pre vs H Q X)(c:∀ss R,pre ss R->ss.length=n)
  (hw:∀ss R,pre ss R->Ws (ss++List.replicate (N.length - n) .any) t (λ_=>∃k,R=.is k/\k .AA) R):t { nx:=λ_ H'=>Q .AA H',rt:=Q } (L2.start N vs) H:=by
 obtain⟨ss,R,F,A,a,S,q⟩:=h;have e:vs.length=n:=by have:=S.len;rw[AB]at this;rw[<- this];exact c ss R a
 unfold L2.start;rw[e];refine(hw ss R a).go (QL (E3 A F H)) _ _ F H (S.grown _) (λA6 σ' F' H'⟨k,e,b⟩S' _=>?_) λv F' H' f ok=>q v F' H' f ok;subst e;exact q .AA F' H' S'.toFin ⟨.AA,.AA,b⟩
theorem ZCV(b:∀ss R,pre ss R->ss.length=n)(h:AQ pre vs H Q X):vs.length=n:=by
 obtain⟨ss,R,F,A,a,S,q⟩:=h;have:=S.len;rw[AB]at this;rw[<- this];exact b ss R a
end
end Fz
namespace L2
section
variable{X:Cx}
def oQ(K:ZLZ):R2:=λx y H Q=>∃p q xs,x=.ref p/\y=.ref q/\AU K H p xs/\AU K H q []/\Q (.bl (!decide (xs=[]))) H
theorem zI(a:X.A.units<cLine):BX X (compareOp .NotEq) (oQ X.K):=by
 intro Zd s O H x y v u Q I f e h;obtain⟨p,q,xs,rfl,rfl,c,b,d⟩:=h;cases f;cases e;obtain⟨A5,i,p1,l⟩:=I.list c;obtain⟨Cu,g,p2,k⟩:=I.list b;have l1:=i.length;have l2:=g.length;cases xs with
 |nil=>exact Ux a Zd s O H _ _ _ _ Q I (show RelV (.ref p) (.ref p)from rfl) (show RelV (.ref q) (.ref q)from rfl) ⟨p,q,[],[],rfl,rfl,.inl ⟨c,b⟩,rfl,rfl,d⟩
 |cons y ys=>
  have j:(A5.toArray.size != Cu.toArray.size)=true:=by simp only[CA,<- l1,<- l2];simp
  exact ZL0 p1.isList p2.isList j a _ _ _ _ ⟨.bl true,H,I,rfl,d⟩
end
end L2
namespace Lw
open L2
theorem GY:∀{as bs:List Str},as.Nodup->(∀x∈as,x∈bs)->as.length<=bs.length
 | [],_,_,_=>Cf _
 |a::as,bs,nd,h=>by
  obtain⟨h1,h2⟩:=List.nodup_cons.mp nd;have b:=h a Fh;have q:=GY (bs:=bs.erase a) h2 λx hx=>(rD (λe:x=a=>h1 (by rw[<- e];exact hx))).mpr (h x (E2 _ hx));have e:=r8 b;have p:=r9 b;simp only[Ck];omega
structure Ent where
 a:Addr
 ns:List Str
 t:Addr
 r:Str
 g:Nat
 ss:List Str
end Lw
namespace Lw
open L2
def Jw(i g:Nat):Nat:=if i<g then g+1 else g
def Q7(p g:Nat):Nat:=if p<g then g - 1 else g
noncomputable def O3(r:Str)(g i:Nat):Bool:=if decide (V.str r=V.str "all")=true then true else if decide (V.str r=V.str "ahead")=true then decide ((g:Int)<=(i:Int))else false
theorem dZ{a:List Str}(nd:a.Nodup){g:Nat}{x:Str}(h:a[g]?=some x):a.idxOf x=g:=by
 obtain⟨f,e⟩:=List.getElem?_eq_some_iff.mp h;have hx:x∈a:=C7 h;have b:a.idxOf x<a.length:=List.idxOf_lt_length_iff.mpr hx;have i:a[a.idxOf x]=x:=Km b;have d:=List.pairwise_iff_getElem.mp nd;rcases Nat.lt_trichotomy (a.idxOf x) g with c|c|c
 .exact absurd (i.trans e.symm) (d _ _ b f c)
 .exact c
 .exact absurd (e.trans i.symm) (d _ _ f b c)
end Lw
namespace L2
section
variable{X:Cx}{Zd:ZLa}{O:St}{H2:Hp}{s2:Shared}{elt iter:Expr}{x z:Str}{px pz tp pos:Pos}{tk:Nat}{scope:Scope}{AN:List Str}{js:List Nat}{te:TE}{J:It}{fp:List Addr}{it:Addr}
 {tn:Nat->Heap->Prop}
end
end L2
namespace Fz
open L2 Lw
variable{E:Ent0}{ss:List Slot}{O:L2.St}{F F' H H':Hp}{js:List Nat}{ta tb te:TE}{nx:List Slot->Prop}{R:Ag}{i:Nat}{ns:List Int}{wi:TI}{α:Type}{xs:List PV}
section
variable[Xw]
variable{K:ZLZ}{k:PV->Prop}
theorem Sg.l7(S:Sg E ss O F H){p:Addr}(hi:ss[i]?=some .AY)(e:O[i]?=some (some (.ref p)))(s:CC p H H'):Mv E ss O F H F H':=by
 obtain⟨g,b,fp,_,f⟩:=S.ok i _ hi;rw[e]at b;cases b;refine S.step (AR.refl _) (λa o q=>s.same a o (D7 q fp) (S.fh a o q)) (λa o n q=>s.same a o (λz=>?_) q) (λa o q=>.inl q) λj l c d=>?_
 .rw[z]at n;exact n i hi e
 .by_cases z:l=p
  .rw[z];exact s.AY
  .exact C4.keep (S.GG c d) λo q=>s.same l o z q
theorem Ke(hi:ss[i]?=some .AY)(h:Wp ss te λx=>∃m,x=.int m/\0<m/\m<10 ^ 18/\∀r:Int,0<=r->r<m->k (.int r)):Wp ss (ED La [] E0 (AX (Al i) (AX te BA))) k:=⟨λE O F H Q S q=>by
 obtain⟨p,e,_⟩:=S.ok i _ hi;refine⟨_,e,h.go E O F H _ S λv x F1 H1 a r⟨m,f,d,NU,kk⟩=>?_⟩;subst f;cases r.inv;exact⟨p,m,rfl,a.st.GG hi e,d,NU,λr H2 c b s=>q _ _ F1 H2 (a.trans (a.st.l7 hi e s)) (.int r) (kk r c b)⟩⟩
def JM(K:ZLZ)(ns:List Int):Hp->V->Prop:=λF v=>∃a,v=.ref a/\AU K F a (ns.map V.int)
theorem VL(K:ZLZ)(ns:List Int):∀(v:V)(F F':Hp),AR F F'->JM K ns F v->JM K ns F' v:=λv F F' s AO=>by obtain⟨a,e,h⟩:=AO;exact⟨a,e,by
 rcases h with(h|⟨o,h⟩)|h
 .exact .inl (.inl (s _ _ h))
 .exact .inl (.inr ⟨o,s _ _ h⟩)
 .exact .inr h⟩
theorem vg(hi:ss[i]?=some (.raw (JM K ns)))(h:k (.int ns.length)):Wp ss (El (Vs K) (AX (Al i) BA)) k:=⟨λE O F H Q S q=>by
 obtain⟨v,e,⟨a,c,b⟩,st⟩:=S.ok i _ hi;subst c;obtain⟨d,ea,IY⟩:=VL K ns _ F H S.fh ⟨a,rfl,b⟩;cases ea;refine⟨_,e,a,_,rfl,.inl IY,?_⟩;rw[AB];exact q _ _ F H (.refl S) (.int _) h⟩
theorem nY{j:Nat}(hi:ss[i]?=some (.raw (JM K ns)))(h:Wp ss te λx=>∃m,x=.int m/\0<=m/\m<=1000/\nx (ss.set j .AY)):Ws ss (Ez (ED (Ue K) [] E0 (AX (Al i) (AX te BA))) (D2 j)) nx R:=⟨λE D O F H S t A=>by
 obtain⟨v,e,⟨a,w,B⟩,st⟩:=S.ok i _ hi;subst w;refine⟨_,e,h.go E O F H _ S λv x F1 H1 c r⟨m,y,o,NU,kk⟩=>?_⟩;subst y;cases r.inv;obtain⟨z,f,Jf,_⟩:=c.st.ok i _ hi;rw[e]at f;cases f;obtain⟨C,ea,IY⟩:=VL K ns _ F1 H1 c.st.fh Jf;cases ea;refine⟨a,ns,m,rfl,IY,o,NU,λp H2 d s g=>?_⟩;have n:=c.st.grow s;exact t _ _ F1 H2 kk (n.st.setG ⟨p,rfl,c.st.CK d,.inl (c.st.DB d),g⟩ λl e b u _ q k=>by cases e;exact c.st.KQ q d k) c.ff⟩
end
section
variable{K:ZLZ}
theorem xC{N:List Str}{vs:List V}{Q:VK}{X:XK}{t:TS}(h:RB K vs H Q X)(hw:∀ns:List Int,ns.length<=63->Ws (.raw (JM K ns)::List.replicate (N.length - 1) .any) t (λ_=>False) (.is λp=>p=.bl true)):t { nx:=λ_ H'=>Q .AA H',rt:=Q } (L2.start N vs) H:=by
 obtain⟨a,ns,rfl,c,b,q⟩:=h;have S:Sg (E3 [] H H) [.raw (JM K ns)] [some (.ref a)] H H:=by
  have nn:∀{p:Prop}(a:Addr),a∈([]:List Addr)->p:=λa h=>absurd h Aa;refine⟨⟨AR.refl _,AR.refl _,λ_ _ _ e=>e,λ_ _ e=>.inl e,λa h=>nn a h,λa h=>nn a h,λa h=>nn a h,λa h=>nn a h,λa h=>nn a h,λa h=>nn a h⟩,rfl,λi s hi=>?_,λi j s u l FU hi d ms=>?_⟩
  .cases i with
   |zero=>cases hi;exact⟨_,rfl,⟨a,rfl,c⟩,VL K ns _⟩
   |succ i=>simp at hi
  .cases i with
   |zero=>cases hi;cases ms
   |succ i=>simp at hi
 refine(hw ns b).go (QL (E3 [] H H)) _ _ H H (S.grown _) (λ_ _ _ _ h=>h.elim) λv F' H' f ok=>?_;obtain⟨p,r,rfl⟩:=ok;cases r.inv;exact q H'
end
section
variable[Xw]
variable{K:ZLZ}{k:PV->Prop}
theorem Wi.mono{k a:List PV->Prop}(h:Wi ss wi k)(i:∀xs,k xs->a xs):Wi ss wi a:=⟨λE O F H R S q=>h.go E O F H R S λJ xs F' H' m s kk=>q J xs F' H' m s (i xs kk)⟩
theorem Et{tt:TT}{k:List PV->Prop}(c:α->PV)(f:α->Bool)(g:α->PV)
  (h:Wi ss wi λxs=>∃ns:List α,xs=ns.map c/\ns.length<=100000/\(∀x∈ns,Wt (CT js ss++[.is (c x)]) tt λb=>b=f x)/\(∀x∈ns,f x=true->Wp (CT js ss++[.is (c x)]) te λp=>p=g x)/\k ((ns.filter f).map g))
  (inj:∀x y,c x=c y->x=y) (nd:js.Nodup:=by decide) (np:QF js ss=true:=by rfl):Wn ss (KL wi js tt te) k:=by
 by_cases hα:Nonempty α
 .obtain⟨x0⟩:=hα;have inv:∀p:PV,∃x:α,∀y,c y=p->y=x:=λp=>by
   by_cases q:∃y,c y=p
   .obtain⟨y,a⟩:=q;exact⟨y,λz i=>inj _ _ (i.trans a.symm)⟩
   .exact⟨x0,λy a=>absurd ⟨y,a⟩ q⟩
  let d:PV->α:=λp=>Classical.choose (inv p)
  have hd:∀x,d (c x)=x:=λx=>(qm (inv (c x)) x rfl).symm;refine kc (λp=>f (d p)) (λp=>g (d p)) (h.mono λxs⟨ns,e,i,h1,h2,kk⟩=>?_) nd np;subst e;refine⟨by rw[AB];exact i,λx hx=>?_,λx hx j=>?_,?_⟩
  .obtain⟨y,a,rfl⟩:=List.mem_map.mp hx;rw[hd];exact h1 y a
  .obtain⟨y,a,rfl⟩:=List.mem_map.mp hx;rw[hd]at j ⊢;exact h2 y a j
  .have e:((ns.map c).filter λp=>f (d p)).map (λp=>g (d p))=(ns.filter f).map g:=by
    rw[List.filter_map,Cm]
    congr 1
    .funext x;show g (d (c x))=g x;rw[hd]
    .congr 1;funext x;show f (d (c x))=f x;rw[hd]
   rw[e];exact kk
 .refine kc (λ_=>true) (λp=>p) (h.mono λxs⟨ns,e,i,h1,h2,kk⟩=>?_) nd np;have l:ns=[]:=by
   cases ns with
   |nil=>rfl
   |cons x r=>exact absurd ⟨x⟩ hα
  subst l;subst e;exact⟨by simp,λx hx=>absurd hx (by simp),λx hx=>absurd hx (by simp),kk⟩
theorem str_inj:∀x y:Str,PV.str x=PV.str y->x=y:=λ_ _ e=>by injection e
theorem Tj(h:Wp ss ta λp=>∃x,p=.str x/\Wq ss tb λ_ ys=>∃ns:List Str,ys=ns.map PV.str/\k (.bl (decide (x∈ns)))):Wp ss (Ba (IM K false) ta tb) k:=iL h
theorem Ui(h:Wp ss ta λp=>∃x,p=.str x/\Wq ss tb λ_ ys=>∃ns:List Str,ys=ns.map PV.str/\k (.bl (!decide (x∈ns)))):Wp ss (Ba (IM K true) ta tb) k:=iL h
theorem eZ(h:Wq ss ta λtp xs=>∃ns:List Str,xs=ns.map PV.str/\Wq ss tb λFL ys=>FL=tp/\∃ms:List Str,ys=ms.map PV.str/\k (.bl (decide (ns=ms)))):Wp ss (Ba (RH K false) ta tb) k:=gM h
theorem Zw(h:Wq ss ta λtp xs=>∃ns:List Str,xs=ns.map PV.str/\Wq ss tb λFL ys=>FL=tp/\∃ms:List Str,ys=ms.map PV.str/\k (.bl (!decide (ns=ms)))):Wp ss (Ba (RH K true) ta tb) k:=gM h
theorem N2{β:Type}(c:α->β)(xs:List α)(lo hi:Option Int):Dw (xs.map c) lo hi=(Dw xs lo hi).map c:=by
 unfold Dw;rw[AB,Sd,Lu]
theorem ZA8(xs:List α)(g:Nat):Dw xs none (some (g:Int))=xs.take g:=by
 unfold Dw;rw[HT.bM,HT.XZ,dr,WX];rcases dy g xs.length with h|h
 .rw[WW h]
 .rw[e6 h,G6,Pn h]
theorem iF(xs:List α)(g:Nat):Dw xs (some (g:Int)) none=xs.drop g:=by
 unfold Dw;rw[HT.bM,HT.XZ];rcases dy g xs.length with h|h
 .rw[WW h,Pn (by rw[SY];omega)]
 .rw[e6 h,List.drop_length,List.drop_of_length_le h];simp
variable{ys:List PV}
theorem Xs(h:Wq ss ta λtp xs=>tp=false/\∃ns:List Str,xs=ns.map PV.str/\Wp ss tb λp=>∃x,p=.str x/\x∈ns/\k (.int (ns.idxOf x:Nat))):Wp ss (GJ K "list" (fF K) ta (AX tb BA)) k:=⟨λE O F H Q S q=>
 h.go E O F H _ S λv tp xs F1 H1 b sv⟨g,ns,e,h2⟩=>by
  subst e;subst g;obtain⟨l,vs,rfl,f,r⟩:=sv.seq b.st;refine⟨.inl ⟨rfl,_,AU.of f⟩,h2.go E O F1 H1 _ b.st λm p2 F2 H2 a c⟨x,i,hx,kk⟩=>?_⟩;subst i;cases c.inv;obtain⟨n,Bt,j,DS,d⟩:=(sv.mv a).seq a.st;cases j;rw[d.strs]at DS;exact⟨l,ns,x,rfl,rfl,AU.of DS,hx,q _ _ F2 H2 (b.trans a) (.int _) kk⟩⟩
def Na(xs:List PV):List PV:=(List.range xs.length).map λi:Nat=>.tup [.int (i:Int),xs.getD i .AA]
theorem TJ(xs:List PV):(Na xs).length=xs.length:=by simp[Na]
theorem gI{x:PV}(h:xs[i]?=some x):(Na xs)[i]?=some (.tup [.int (i:Int),x]):=by
 have hi:i<xs.length:=(List.getElem?_eq_some_iff.mp h).1;unfold Na;rw[Ax,Pj hi];show some (PV.tup [PV.int (i:Int),xs.getD i PV.AA])=_;rw[JU,h];rfl
theorem fR{p:PV}(h:(Na xs)[i]?=some p):∃x,xs[i]?=some x/\p=.tup [.int (i:Int),x]:=by
 have hi:i<xs.length:=by have:=(List.getElem?_eq_some_iff.mp h).1;rwa [TJ]at this
 have e:=As hi;refine⟨xs[i],e,?_⟩;rw[gI e]at h;exact(Be h).symm
end
theorem Cd{c A B:Prop}[Decidable c](h:c)(a:A):if c then A else B:=by rw[u4 h];exact a
end Fz
namespace L2
theorem sE{X:Cx}{tg:Expr}{a b:Expr}{ta:TA}{p pos:Pos}(w:Gl X "range")(v:X.mg "range"=none)(f:QA X [a,b] ta)(u:starEach [a,b] X.env=[(false,eval a X.env),(false,eval b X.env)]:=by rfl)(Cg:starEach [b] X.env=[(false,eval b X.env)]:=by rfl):QI X tg (.Call (.Name "range" p) [a,b] [] pos) (Xg ta):=⟨by
 have f:=f.h;intro Zd s O H R I h;refine Call_ (LP I w v boot_range (Wc (f.k pos I h λus x vs H1 I1 g d=>?_) (by rw[u,Cg]) (by rw[Cg];rfl)));obtain⟨i,j,e,⟨d,o,n,m⟩,q⟩:=d;subst e;cases g with
 |cons r c=>
  cases c with
  |cons l c=>
   cases c;obtain⟨t,rfl⟩:=r;obtain⟨t',rfl⟩:=l;exact call_range_2 (jl I1 d o n m q)⟩
end L2
namespace Fz
open L2 Lw
variable{ss:List Slot}{O:L2.St}
section
variable[Xw]
variable{E:Ent0}{F H F' H':Hp}{K:ZLZ}{js:List Nat}{ta tb tc te:TE}{k:PV->Prop}{nx:List Slot->Prop}{R:Ag}{xs ys:List PV}
def NB(i:Int)(n:Nat):List PV:=(List.range n).map λj:Nat=>PV.int (i+(j:Int))
theorem Vq(i:Int)(n:Nat):(NB i n).length=n:=by simp[NB]
theorem zz{i:Int}{n j:Nat}{p:PV}(h:(NB i n)[j]?=some p):j<n/\p=.int (i+(j:Int)):=by
 have a:j<n:=by have:=(List.getElem?_eq_some_iff.mp h).1;rwa [Vq]at this
 unfold NB at h;rw[Ax,Pj a]at h;exact⟨a,(Be h).symm⟩
theorem ZC0{k:List PV->Prop}(h:Wp ss ta λp=>∃i:Int,p=.int i/\Wp ss tb λp=>∃j:Int,p=.int j/\(i<=1000000/\-1000000<=i/\j<=1000000/\-1000000<=j)/\k (NB i (j - i).toNat)):Wi ss (Xg (AX ta (AX tb BA))) k:=⟨λE O F H R S q=>
 h.el E S λi F1 H1 b h2=>
  h2.el E b.st λj F2 H2 d c=>by
   obtain⟨f,kk⟩:=c;refine⟨i,j,rfl,by omega,q _ (NB i (j - i).toNat) F2 H2 (b.trans d) ⟨λss O F H n s S a=>?_,λss O F H s S=>?_,λss O F H n x H' s S a y=>?_⟩ kk⟩
   .rw[Vq]at a;exact a
   .show _<=_;rw[Vq];exact B0 _
   .obtain⟨e,hx⟩:=y;subst e;subst hx;rw[Vq]at a;refine⟨.int (i+(n:Int)),F,?_,.refl S,.int _⟩;unfold NB;rw[Ax,Pj a];rfl⟩
theorem jM:∀(ps:List PV){vs:List V},HK ss O F H vs (ps.map Slot.is)->AV F vs ps
 | [],_,h=>by cases h;exact .nil
 |p::ps,_,h=>by
  rw[B6]at h;cases h with
  |cons a t=>exact .cons a (jM ps t)
theorem ZGP:∀{ps:List PV}{vs:List V},AV F vs ps->HK ss O F H vs (ps.map Slot.is):=by
 intro ps vs r
 induction ps generalizing vs with
 |nil=>cases r.ET;exact .nil
 |cons p ps c=>obtain⟨v,ws,rfl,a,b⟩:=r.inv;exact .cons (s:=.is _) a (c b)
theorem uA{pre:Pre}{t:TA}{i:Nat}{ns:List Int}(hi:ss[i]?=some (.raw (JM K ns)))(h:Wp ss te λx=>∃m,x=.int m/\0<=m/\m<=1000/\Wa ss t λl=>∃(ps:List PV)(C:PV->Prop),l=ps.map Slot.is/\pre (.AY::l) (.is C)/\∀p,C p->k p):
  Wp ss (ED (AQ pre) [] E0 (AX (ED (Ue K) [] E0 (AX (Al i) (AX te BA))) t)) k:=⟨λE O F H Q S q=>by
 obtain⟨v,e,⟨a,ev,hq⟩,st⟩:=S.ok i _ hi;subst ev;refine⟨_,e,h.go E O F H _ S λv x F1 H1 c r⟨m,em,m0,NU,hw⟩=>?_⟩;subst em;cases r.inv;obtain⟨v',e',Jf,_⟩:=c.st.ok i _ hi;rw[e]at e';cases e';obtain⟨a',ea,IY⟩:=VL K ns _ F1 H1 c.st.fh Jf;cases ea;refine⟨a,ns,m,rfl,IY,m0,NU,λp H2 G s Y=>?_⟩;have m2:=c.st.grow s;refine hw.go E O F1 H2 _ m2.st λvs l F3 H3 A av⟨ps,C,el,Lo,kk⟩=>?_;show AQ pre ((V.ref p::vs)++[]) H3 Q E0;rw[Dz];have J:=c.trans (m2.trans A);have L:∀(j:Nat)s,ss[j]?=some s->¬ BU s O[j]? p:=λj s b=>c.st.KQ b G;have np:CO ss O p:=λj b=>L j _ b;have v9:C4 H3 p:=C4.keep Y λo T=>A.hh p o np T;have R:F3 p=none:=by
  cases z:F3 p with
  |none=>rfl
  |some o=>
   rcases A.nn p o z with w|w
   .rw[c.st.CK G]at w;cases w
   .obtain⟨_,_,X,_⟩:=Y;rw[w]at X;cases X
 have S':Sg E (ss++[.AY]) (O++[some (.ref p)]) F3 H3:=by
  have g:=A.st;have M:∀(j:Nat)s,(ss++[Slot.AY])[j]?=some s->(ss[j]?=some s/\(O++[some (V.ref p)])[j]?=O[j]?)∨(s=.AY/\(O++[some (V.ref p)])[j]?=some (some (.ref p))/\j=ss.length):=λj s b=>by
   by_cases Ae:j<ss.length
   .rw[EW Ae]at b;rw[EW (by rw[<- g.len];exact Ae)];exact .inl ⟨b,rfl⟩
   .rw[G5 (by omega)]at b;have VI:j - ss.length=0:=by
     have:=(List.getElem?_eq_some_iff.mp b).1
     simpa using this
    rw[VI]at b;refine .inr ⟨by simpa using b.symm,?_,by omega⟩
    rw[G5 (by rw[<- g.len];omega),<- g.len,VI];rfl
  refine⟨g.toFin,by simp[g.len],λj s b=>?_,λj D s u l Z b Mz ms y=>?_⟩
  .rcases M j s b with⟨I,d⟩|⟨rfl,d,_⟩
   .rw[d];exact g.ok j s I
   .rw[d];exact⟨p,rfl,R,.inl (c.st.DB G),v9⟩
  .rcases M j s b with⟨I,d⟩|⟨rfl,d,a3⟩
   .rcases M D u Mz with⟨U,B⟩|⟨rfl,B,_⟩
    .rw[d]at ms;rw[B]at y;exact g.CG j D s u l Z I U ms y
    .rw[d]at ms;rw[B]at y;cases y;exact L j s I ms
   .rcases M D u Mz with⟨U,B⟩|⟨rfl,B,b3⟩
    .rw[d]at ms;cases ms;rw[B]at y;exact L D u U y
    .exact absurd (a3.trans b3.symm) Z
 have N:(ss++[Slot.AY])[ss.length]?=some .AY:=by rw[G5 (B0 _)];simp
 have σ:(O++[some (V.ref p)])[ss.length]?=some (some (.ref p)):=by rw[A.st.len,G5 (B0 _)];simp
 have W:HK (ss++[Slot.AY]) (O++[some (V.ref p)]) F3 H3 vs l:=by
  subst el;exact ZGP (jM ps av)
 refine⟨.AY::l,.is C,F3,[p],Lo,S'.Z0 N σ W,λv F' H' f⟨pv,r,kp⟩=>?_⟩;have hA:∀a,a≠p->a∉[p]:=λa h z=>h (by simpa using z)
 have P:H p=none:=c.none G;have mv:Mv E ss O F H F' H':=by
  refine S.step (J.ff.trans f.f0) f.fh (λa o n e=>f.keep a o ⟨hA a (D7 e P),Aa⟩ (J.hh a o n e)) (λa o e=>?_) λj l b ej=>?_
  .rcases f.fresh a o e with w|w
   .exact J.nn a o w
   .exact .inr (J.none w)
  .exact C4.keep (A.st.GG b ej) λo T=>f.keep l o ⟨hA l (by rintro rfl;exact L j _ b ej),Aa⟩ T
 exact q v pv F' H' mv r (kk pv kp)⟩
end
end Fz
namespace Fz
open L2 Lw
section
variable[Xw]
variable{E:Ent0}{ss:List Slot}{O:L2.St}{F H F' H':Hp}{K:ZLZ}{js:List Nat}{ta tb tc te:TE}{k:PV->Prop}{nx:List Slot->Prop}{R:Ag}{xs ys:List PV}{P:Program}{w:World}
theorem ZIf(h:Wq ss ta λtp xs=>tp=false/\Wq ss tb λFL ys=>FL=false/\ys=[]/\k (.bl (!decide (xs.length=0)))):Wp ss (Ba (oQ K) ta tb) k:=⟨λE O F H Q S q=>
 h.go E O F H _ S λv tp xs F1 H1 b sv⟨g,h2⟩=>h2.go E O F1 H1 _ b.st λi FL ys F2 H2 a Nb⟨YV,f,kk⟩=>by
  subst g;subst YV;subst f;obtain⟨l,vs,rfl,d,r⟩:=(sv.mv a).seq a.st;obtain⟨l2,EY,rfl,EA,c⟩:=Nb.seq a.st;cases c;refine⟨l,l2,vs,rfl,rfl,AU.of d,AU.of EA,?_⟩;have e:decide (vs=[])=decide (xs.length=0):=by
   rw[<- r.length];cases vs <;> simp
  rw[e];exact q _ _ F2 H2 (b.trans a) (.bl _) kk⟩
end
end Fz
namespace L2
section
variable{X:Cx}{Zd:ZLa}{O:St}{H:Hp}{s:Shared}
theorem fA:GH X "list.pop" bg:=ZGV
end
end L2
namespace Fz
open L2 Lw
variable{E:Ent0}{ss:List Slot}{O:L2.St}{F F' F0 F1 H H' H0:Hp}{js m p:List Nat}{ta tb tc te ti:TE}{nx:List Slot->Prop}{R:Ag}{us xs:List OV}{n u x y:OV}{i j:Nat}{Bt vs:List V}{a:Addr}{v:V}{tr:TA}{pre:Pre}{Tt ps:List PV}
section
variable[Xw]
variable{K:ZLZ}{k:PV->Prop}
variable{xs:List PV}
theorem gN{n:Nat}(h:j<n):Gj n (j:Int)=some j:=by
 unfold Gj;simp;omega
theorem AV.set:∀{xs:List PV}(j:Nat){v:V}{p:PV},AV F vs xs->Rep F v p->AV F (vs.set j v) (xs.set j p):=by
 intro xs
 induction vs generalizing xs with
 |nil=>intro j v p h r;cases h;exact .nil
 |cons a vs c=>
  intro j v p h r;cases h with
  |cons b t=>
   cases j with
   |zero=>exact .cons r t
   |succ j=>exact .cons b (c j t r)
end
noncomputable def OV.at(t:OV):List Nat->Option OV
 | []=>some t
 |j::p=>match t with
  | .nd _ _ xs=>(xs[j]?).bind λx=>OV.at x p
  | .tp xs=>(xs[j]?).bind λx=>OV.at x p
  | .fz _=>none
noncomputable def OV.put(t:OV)(l:List Nat)(n:OV):OV:=match l with
 | []=>n
 |j::p=>match t with
  | .nd k a xs=>match xs[j]? with
   |some x=>.nd k a (xs.set j (OV.put x p n))
   |none=>.nd k a xs
  | .tp xs=>match xs[j]? with
   |some x=>.tp (xs.set j (OV.put x p n))
   |none=>.tp xs
  | .fz q=>.fz q
theorem OV.KN{t:OV}:t.at []=some t:=by rw[OV.at]
theorem OV.NV{k:NK}:(OV.nd k a xs).at (j::p)=(xs[j]?).bind λx=>x.at p:=by rw[OV.at]
theorem OV.Nq:(OV.tp xs).at (j::p)=(xs[j]?).bind λx=>x.at p:=by rw[OV.at]
theorem OV.Ee{t:OV}:t.put [] n=n:=by rw[OV.put]
theorem OV.KU{k:NK}(h:xs[j]?=some x):(OV.nd k a xs).put (j::p) n=.nd k a (xs.set j (x.put p n)):=by rw[OV.put,h]
theorem OV.Ru(h:xs[j]?=some x):(OV.tp xs).put (j::p) n=.tp (xs.set j (x.put p n)):=by rw[OV.put,h]
theorem OV.RM{u w:OV}:∀{p:List Nat}{t:OV}{j:Nat},t.at p=some u->u.at [j]=some w->t.at (p++[j])=some w
 | [],t,j,h,h2=>by rw[OV.KN]at h;cases h;exact h2
 |i::p,.nd k a xs,j,h,h2=>by
  rw[OV.NV]at h;rw[qr,OV.NV];cases e:xs[i]? with
  |none=>rw[e]at h;cases h
  |some x=>rw[e]at h;exact OV.RM (t:=x) h h2
 |i::p,.tp xs,j,h,h2=>by
  rw[OV.Nq]at h;rw[qr,OV.Nq];cases e:xs[i]? with
  |none=>rw[e]at h;cases h
  |some x=>rw[e]at h;exact OV.RM (t:=x) h h2
 |i::p,.fz q,j,h,h2=>by rw[OV.at]at h;cases h
theorem K9:∀{xs:List OV}{j:Nat}{x:OV},xs[j]?=some x->∃l r,OV.Am xs=l++x.addrs++r/\∀y:OV,OV.Am (xs.set j y)=l++y.addrs++r
 |x::xs,0,z,h=>by
  simp at h;subst h;exact⟨[],OV.Am xs,by rw[OV.Ds];rfl,λy=>by rw[rF,OV.Ds];rfl⟩
 |x::xs,j+1,z,h=>by
  obtain⟨l,r,b,a⟩:=K9 (xs:=xs) (j:=j) (x:=z) (by simpa using h)
  refine⟨x.addrs++l,r,by rw[OV.Ds,b];simp[C6],λy=>by rw[Se,OV.Ds,a];simp[C6]⟩
theorem OV.split{u:OV}:∀{p:List Nat}{t:OV},t.at p=some u->∃l r,t.addrs=l++u.addrs++r/\∀n:OV,(t.put p n).addrs=l++n.addrs++r
 | [],t,h=>by rw[OV.KN]at h;cases h;exact⟨[],[],by simp,λn=>by rw[OV.Ee];simp⟩
 |j::p,.nd k a xs,h=>by
  rw[OV.NV]at h;cases e:xs[j]? with
  |none=>rw[e]at h;cases h
  |some x=>
   rw[e]at h;obtain⟨l,r,g,f⟩:=K9 e;obtain⟨l2,b,d,c⟩:=OV.split (t:=x) h;refine⟨a::(k.more++(l++l2)),b++r,by rw[OV.DV,g,d];simp[C6],λn=>by rw[OV.KU e,OV.DV,f,c];simp[C6]⟩
 |j::p,.tp xs,h=>by
  rw[OV.Nq]at h;cases e:xs[j]? with
  |none=>rw[e]at h;cases h
  |some x=>
   rw[e]at h;obtain⟨l,r,g,f⟩:=K9 e;obtain⟨l2,b,d,c⟩:=OV.split (t:=x) h;refine⟨l++l2,b++r,by rw[OV.HU,g,d];simp[C6],λn=>by rw[OV.Ru e,OV.HU,f,c];simp[C6]⟩
 |j::p,.fz q,h=>by rw[OV.at]at h;cases h
theorem BR.get{F H:Hp}{vs:List V}{ts:List OV}{j:Nat}{t:OV}(r:BR F H vs ts)(e:ts[j]?=some t):∃v,vs[j]?=some v/\BB F H v t:=by
 induction ts generalizing vs j with
 |nil=>cases e
 |cons q ps c=>
  obtain⟨v,ws,rfl,a,b⟩:=r.inv;cases j with
  |zero=>cases e;exact⟨_,rfl,a⟩
  |succ j=>exact c (vs:=ws) (j:=j) b e
theorem BR.append{ws:List V}{ys:List OV}(r:BR F H vs xs)(s:BR F H ws ys):BR F H (vs++ws) (xs++ys):=by
 induction xs generalizing vs with
 |nil=>cases r.ET;exact s
 |cons p ps c=>obtain⟨v,us,rfl,a,b⟩:=r.inv;exact .cons a (c b)
theorem BR.one{t:OV}(r:BB F H v t):BR F H [v] [t]:=.cons r .nil
theorem TH{xs:List PV}(r:AV F vs xs):BR F H vs (xs.map .fz):=by
 induction xs generalizing vs with
 |nil=>cases r.ET;exact .nil
 |cons p ps c=>obtain⟨v,us,rfl,a,b⟩:=r.inv;exact .cons (.fz a) (c b)
theorem BR.Q8{xs:List PV}(r:BR F H vs (xs.map .fz)):AV F vs xs:=by
 induction xs generalizing vs with
 |nil=>cases r.ET;exact .nil
 |cons p ps c=>obtain⟨v,us,rfl,a,b⟩:=r.inv;exact .cons a.inv (c b)
theorem OC:∀(xs:List PV),OV.Am (xs.map .fz)=[]
 | []=>by rw[Kn,OV.Am]
 |x::r=>by rw[B6,OV.Ds,OV.IE,OC r];rfl
theorem BR.set(j:Nat){t:OV}(r:BR F H vs xs)(q:BB F H v t):BR F H (vs.set j v) (xs.set j t):=by
 induction xs generalizing vs j with
 |nil=>cases r.ET;exact .nil
 |cons p ps c=>
  obtain⟨u,us,rfl,a,b⟩:=r.inv;cases j with
  |zero=>exact .cons q b
  |succ j=>exact .cons a (c j b)
theorem BR.swap(r:BR F H vs xs)(h:xs[j]?=some x)(e:vs[j]?=some v)(hk:∀l r,OV.Am xs=l++x.addrs++r->(∀z:OV,OV.Am (xs.set j z)=l++z.addrs++r)->∀b∈l++r,∀o,H b=some o->H' b=some o)(f:BB F H' v y):BR F H' vs (xs.set j y):=by
 induction xs generalizing vs j with
 |nil=>cases h
 |cons p ps k=>
  obtain⟨u,us,rfl,a,b⟩:=r.inv;cases j with
  |zero=>
   cases h;cases e;refine .cons f (b.mono (AR.refl _) λc d o=>hk [] (OV.Am ps) (by rw[OV.Ds];rfl) (λz=>by rw[rF,OV.Ds];rfl) c d o)
  |succ j=>
   rw[Se];obtain⟨l,q,n,m⟩:=K9 (xs:=ps) (j:=j) h;refine .cons (a.mono (AR.refl _) λc d o=>hk (p.addrs++l) q (by rw[OV.Ds,n,C6,C6,C6]) (λz=>by rw[Se,OV.Ds,m,C6,C6,C6]) c (Gp _ (Gp _ d)) o) (k (vs:=us) (j:=j) b h e λi g En Cj c d o=>?_);refine hk (p.addrs++i) g (by rw[OV.Ds,En,C6,C6,C6]) (λz=>by rw[Se,OV.Ds,Cj,C6,C6,C6]) c ?_ o;rcases List.mem_append.mp d with hz|hz
   .exact Gp _ (GQ _ hz)
   .exact GQ _ hz
theorem BB.at{F H:Hp}{u:OV}:∀{p:List Nat}{t:OV}{v:V},BB F H v t->t.at p=some u->∃w,BB F H w u/\∀(H':Hp)(n:OV),BB F H' w n->(∀l r,t.addrs=l++u.addrs++r->(∀n:OV,(t.put p n).addrs=l++n.addrs++r)->∀b∈l++r,∀o,H b=some o->H' b=some o)->BB F H' v (t.put p n)
 | [],t,v,h,e=>by rw[OV.KN]at e;cases e;exact⟨v,h,λH' n r _=>by rw[OV.Ee];exact r⟩
 |j::p,.fz q,v,h,e=>by rw[OV.at]at e;cases e
 |j::p,.nd k a xs,_,.nd h sd ft r,e=>by
  rw[OV.NV]at e;cases ex:xs[j]? with
  |none=>rw[ex]at e;cases e
  |some x=>
   rw[ex]at e;obtain⟨I,Y1,B⟩:=r.get ex;obtain⟨w,d,go⟩:=BB.at (t:=x) B e;refine⟨w,d,λH' n A hk=>?_⟩;obtain⟨l2,y,G,E⟩:=OV.split e;have i:∀l r,OV.Am xs=l++x.addrs++r->(∀z:OV,OV.Am (xs.set j z)=l++z.addrs++r)->∀b,b∈(a::(k.more++(l++l2)))++(y++r)->∀o,H b=some o->H' b=some o:=λl r s m b c o=>
    hk (a::(k.more++(l++l2))) (y++r) (by rw[OV.DV,s,G];simp[C6]) (λn=>by rw[OV.KU ex,OV.DV,m,E];simp[C6]) b c o
   obtain⟨l,q,s,m⟩:=K9 ex;rw[OV.KU ex];refine .nd (i l q s m a (by simp) _ h) (NK.pI sd λb c=>i l q s m b (by simp[c])) ft ?_;refine r.swap ex Y1 (λg f En Cj b c o=>i g f En Cj b (by rcases List.mem_append.mp c with hz|hz <;> simp[hz]) o) ?_
   refine go H' n A λg f D C b c o=>?_;refine hk (a::(k.more++(l++g))) (f++q) (by rw[OV.DV,s,D];simp[C6]) (λn=>by rw[OV.KU ex,OV.DV,m,C];simp[C6]) b (by rcases List.mem_append.mp c with hz|hz <;> simp[hz]) o
 |j::p,.tp xs,_,.tp h r,e=>by
  rw[OV.Nq]at e;cases ex:xs[j]? with
  |none=>rw[ex]at e;cases e
  |some x=>
   rw[ex]at e;obtain⟨I,Y1,B⟩:=r.get ex;obtain⟨w,d,go⟩:=BB.at (t:=x) B e;refine⟨w,d,λH' n A hk=>?_⟩;obtain⟨l2,y,G,E⟩:=OV.split e;obtain⟨l,q,s,m⟩:=K9 ex;rw[OV.Ru ex];refine .tp h (r.swap ex Y1 (λg f En Cj b c o=>?_) (go H' n A λg f D C b c o=>?_))
   .exact hk (g++l2) (y++f) (by rw[OV.HU,En,G];simp[C6]) (λn=>by rw[OV.Ru ex,OV.HU,Cj,E];simp[C6]) b (by rcases List.mem_append.mp c with hz|hz <;> simp[hz]) o
   .exact hk (l++g) (f++q) (by rw[OV.HU,s,D];simp[C6]) (λn=>by rw[OV.Ru ex,OV.HU,m,C];simp[C6]) b (by rcases List.mem_append.mp c with hz|hz <;> simp[hz]) o
theorem Sn{l u r n:List Addr}(h:(l++u++r).Nodup)(g:n.Nodup)(hd:∀b∈n,b∈u∨b∉l++u++r):(l++n++r).Nodup:=by
 rw[Cy]at h ⊢;obtain⟨h1,h2,f⟩:=h;rw[Cy]at h1 ⊢;obtain⟨j,k,i⟩:=h1;refine⟨⟨j,g,λa c b d e=>?_⟩,h2,λa c b d e=>?_⟩
 .subst e;rcases hd a d with z|z
  .exact i a c a z rfl
  .exact z (by simp[c])
 .subst e;rcases List.mem_append.mp c with c|c
  .exact f a (by simp[c]) a d rfl
  .rcases hd a c with z|z
   .exact f a (by simp[z]) a d rfl
   .exact z (by simp[d])
theorem Sg.Uo(S:Sg E ss O F H){t:OV}{k:NK}{ho:HO}{lt:Bool}(hi:ss[i]?=some (.ow lt t))(B1:t.at p=some (.nd k a xs))(L:BB F (upd H a ho) (.ref a) n)(nd:n.addrs.Nodup)
  (W6:∀b∈n.addrs,b∈(OV.nd k a xs).addrs∨(F b=none/\E.H0 b=none/\∀(j:Nat)s,ss[j]?=some s->¬ BU s O[j]? b)):Sg E (ss.set i (.ow lt (t.put p n))) O F (upd H a ho):=by
 obtain⟨v,e,r,Xe,q⟩:=S.ok i _ hi;obtain⟨l,J,g,D⟩:=OV.split B1;have f:a∈(OV.nd k a xs).addrs:=by rw[OV.DV];simp
 have u:∀b∈(OV.nd k a xs).addrs,b∈t.addrs:=λb c=>by rw[g];simp[c]
 have T:∀b∈n.addrs,b∈(OV.nd k a xs).addrs∨b∉t.addrs:=λb c=>(W6 b c).imp id λz m=>z.2.2 i _ hi m;obtain⟨w,x,go⟩:=r.at B1;have N:w=.ref a:=by cases x;rfl
 subst N;have h:∀(j:Nat)s,(ss.set i .any)[j]?=some s->∀b,b∈t.addrs->¬ BU s O[j]? b:=λj s d b c m=>by
  by_cases z:j=i
  .subst z;rw[DA (List.getElem?_eq_some_iff.mp hi).1]at d;cases d;cases m
  .rw[CZ (BO z)]at d;exact S.CG j i s _ b z d hi m c
 have R:=(S.drop i).NT (o:=ho) (q a (u a f)).1 ((q a (u a f)).2.imp id λz=>z.2) λj s d=>h j s d a (u a f);have C:=Xe;rw[g,Cy,Cy]at C;obtain⟨⟨_,_,P⟩,_,σ⟩:=C;have Q:∀b,b∈l++J->b≠a:=λb c z=>by
  subst z;rcases List.mem_append.mp c with c|c
  .exact P b c b f rfl
  .exact σ b (by simp[f]) b c rfl
 have K:BB F (upd H a ho) v (t.put p n):=go _ n L λV U M W b c o A=>by
  rw[AW ?_];exact A;rintro rfl;have B:=Xe;rw[M,Cy,Cy]at B;obtain⟨⟨_,_,c1⟩,_,c2⟩:=B;rcases List.mem_append.mp c with c|c
  .exact c1 b c b f rfl
  .exact c2 b (by simp[f]) b c rfl
 have G:∀b∈(t.put p n).addrs,b∈t.addrs∨(F b=none/\E.H0 b=none/\∀(j:Nat)s,ss[j]?=some s->¬ BU s O[j]? b):=λb c=>by
  rw[D]at c;rcases List.mem_append.mp c with c|c
  .rcases List.mem_append.mp c with c|c
   .exact .inl (by rw[g];simp[c])
   .exact(W6 b c).imp (u b) id
  .exact .inl (by rw[g];simp[c])
 have I:=R.setG (j:=i) (s:=.ow lt (t.put p n)) (v:=v) ⟨v,rfl,K,by rw[D];exact Sn (g▸Xe) nd λb c=>(T b c).imp id (by rw[g];exact id),λb c=>(G b c).elim (q b) λz=>⟨z.1,.inl z.2.1⟩⟩ λb c j s d y m=>by
  rcases G b c with z|z
  .exact h j s y b z m
  .rw[CZ (BO d)]at y;exact z.2.2 j s y m
 rw[Sy e,WU]at I;exact I
structure Wl [Xw] (ss:List Slot) (i:Nat) (t:OV) (te:TE) (k:List Nat->OV->Prop):Prop where
 hi:∃lt,ss[i]?=some (.ow lt t)
 go:∀(E:Ent)(O:L2.St)(F H:Hp)(Q:VK),Sg E ss O F H->(∀v p u F' H',Mv E ss O F H F' H'->BB F' H' v u->t.at p=some u->k p u->Q v H')->te O H Q
def EM:List Nat->List Slot->List Slot
 | [],ss=>ss
 |i::m,ss=>EM m (ss.set i .any)
structure Wx [Xw] (ss:List Slot) (te:TE) (k:List Nat->OV->Prop):Prop where
 go:∀(E:Ent)(O:L2.St)(F H:Hp)(Q:VK),Sg E ss O F H->(∀v m u F' H',Mv E ss O F H F' H'->BB F' H' v u->u.addrs.Nodup->(∀a∈u.addrs,F' a=none/\E.H0 a=none/\((∃i∈m,∃s,s≠Slot.AY/\ss[i]?=some s/\BU s O[i]? a)∨H a=none))->k m u->Q v H')->te O H Q
structure Oe [Xw] (ss:List Slot) (te:TA) (k:List Nat->List OV->Prop):Prop where
 go:∀(E:Ent)(O:L2.St)(F H:Hp)(Q:List V->Hp->Prop),Sg E ss O F H->(∀vs m us F' H',Mv E ss O F H F' H'->BR F' H' vs us->(OV.Am us).Nodup->(∀a∈OV.Am us,F' a=none/\E.H0 a=none/\((∃i∈m,∃s,s≠Slot.AY/\ss[i]?=some s/\BU s O[i]? a)∨H a=none))->k m us->Q vs H')->te O H Q
section
variable[Xw]
variable{K:ZLZ}{k:PV->Prop}{xs:List PV}{t:OV}
theorem OV.JF(h:t.at p=some u):∀a∈u.addrs,a∈t.addrs:=λa b=>by
 obtain⟨l,r,e,_⟩:=OV.split h;rw[e];simp[b]
theorem BB.mv(r:BB F H v u)(S:Sg E ss O F H)(hi:∃lt,ss[i]?=some (.ow lt t))(h:t.at p=some u)(m:Mv E ss O F H F' H'):BB F' H' v u:=
 r.mono m.ff λa b o e=>m.hh a o (S.Om hi.choose_spec (OV.JF h a b) (by simp)) e
theorem C8{lt:Bool}{k:List Nat->OV->Prop}(hi:ss[i]?=some (.ow lt t))(hk:k [] t):Wl ss i t (Al i) k:=⟨⟨lt,hi⟩,λE O F H Q S q=>by
 obtain⟨v,e,r,_,_⟩:=S.ok i _ hi;exact⟨v,e,q v [] t F H (.refl S) r OV.KN hk⟩⟩
theorem Rf{k:List Nat->OV->Prop}(h:Wl ss i t ta λp u=>∃a xs,u=.nd .lst a xs/\Wp ss tb λq=>∃(j:Int)(n:Nat)(w:OV),q=.int j/\Gj xs.length j=some n/\xs[n]?=some w/\k (p++[n]) w):Wl ss i t (Ba (Lz K) ta tb) k:=⟨h.hi,λE O F H Q S q=>
 h.go E O F H _ S λv p u F1 H1 b m h1⟨a,xs,s,h2⟩=>h2.go E O F1 H1 _ b.st λy p2 F2 H2 d l⟨j,n,w,e,o,hw,kk⟩=>by
  subst e;cases l.inv;have g:=m.mv b.st h.hi h1 d;subst s;obtain⟨_,rfl,r,z,A,c⟩:=g.inv;obtain⟨x,hx,f⟩:=c.get hw;refine⟨a,_,j,x,rfl,rfl,AU.of r,?_,q x (p++[n]) w F2 H2 (b.trans d) f (OV.RM h1 (by rw[OV.NV,hw];exact OV.KN)) kk⟩;unfold L2.C5;rw[c.length,o];exact hx⟩
theorem Ql{k:List Nat->OV->Prop}(h:Wl ss i t ta λp u=>∃xs,u=.tp xs/\Wp ss tb λq=>∃(j:Int)(n:Nat)(w:OV),q=.int j/\Gj xs.length j=some n/\xs[n]?=some w/\k (p++[n]) w):Wl ss i t (Ba (D4 K) ta tb) k:=⟨h.hi,λE O F H Q S q=>
 h.go E O F H _ S λv p u F1 H1 b l h1⟨xs,r,h2⟩=>h2.go E O F1 H1 _ b.st λs p2 F2 H2 a g⟨j,n,w,e,m,hw,kk⟩=>by
  subst e;cases g.inv;have f:=l.mv b.st h.hi h1 a;subst r;obtain⟨_,_,rfl,o,c⟩:=f.inv;obtain⟨x,hx,d⟩:=c.get hw;refine⟨_,_,j,x,rfl,rfl,BW.of (a.st.fh _ _ o),?_,q x (p++[n]) w F2 H2 (b.trans a) d (OV.RM h1 (by rw[OV.Nq,hw];exact OV.KN)) kk⟩;unfold L2.C5;rw[c.length,m];exact hx⟩
theorem LC(h:Wl ss i t te λ_ u=>∃p,u=.fz p/\k p):Wp ss te k:=⟨λE O F H Q S q=>
 h.go E O F H _ S λv p u F1 H1 b a h1 AO=>by obtain⟨p,c,kk⟩:=AO;subst c;cases a with|fz r=>exact q v p F1 H1 b r kk⟩
theorem PJ{k:Bool->List PV->Prop}(h:Wl ss i t te λ_ u=>∃a ps,u=.nd .lst a (ps.map .fz)/\k false ps):Wq ss te k:=⟨λE O F H Q S q=>
 h.go E O F H _ S λv p u F1 H1 b d h1 AO=>by
  obtain⟨a,ps,f,kk⟩:=AO;subst f;have np:CO ss O a:=b.st.Om h.hi.choose_spec (OV.JF h1 a (by rw[OV.DV];simp)) (by simp);obtain⟨_,rfl,e,g,j,c⟩:=d.inv;exact q _ false ps F1 H1 b ⟨a,_,rfl,np,e,c.Q8⟩ kk⟩
theorem EV{k:List Nat->OV->Prop}(h:Wp ss te λp=>k [] (.fz p)):Wx ss te k:=⟨λE O F H Q S q=>
 h.go E O F H _ S λv p F1 H1 c r kk=>q v [] (.fz p) F1 H1 c (.fz r) (by rw[OV.IE];exact HN) (λa b=>by rw[OV.IE]at b;cases b) kk⟩
theorem Vy(a:Addr)(xs:List PV):(OV.nd .lst a (xs.map .fz)).addrs=[a]:=by rw[OV.DV,OC];rfl
theorem Ub{k:List Nat->OV->Prop}(h:Wn ss te λxs=>∀l,k [] (.nd .lst l (xs.map .fz))):Wx ss te k:=⟨λE O F H Q S q=>
 h.go E O F H _ S λl vs xs F1 H1 d f b N7 r kk=>q _ [] _ F1 H1 d (.nd (k:=.lst) N7 trivial trivial (TH r)) (by rw[Vy];simp) (λa c=>by
  rw[Vy]at c;have e:a=l:=by simpa using c
  subst e;exact⟨f,S.DB b,.inr b⟩) (kk l)⟩
theorem zZ{k:List Nat->OV->Prop}(hi:ss[i]?=some (.own xs))(h:∀l,k [i] (.nd .lst l (xs.map .fz))):Wx ss (Al i) k:=⟨λE O F H Q S q=>by
 obtain⟨l,vs,e,f,d,c,r⟩:=S.ok i _ hi;refine⟨_,e,q _ [i] _ F H (.refl S) (.nd (k:=.lst) c trivial trivial (TH r)) (by rw[Vy];simp) (λa b=>?_) (h l)⟩;rw[Vy]at b;have ea:a=l:=by simpa using b
 subst ea;exact⟨f,d,.inl ⟨i,by simp,_,by simp,hi,e⟩⟩⟩
theorem RY{k:List Nat->List OV->Prop}(h:k [] []):Oe ss BA k:=⟨λE O F H Q S q=>q _ [] [] F H (.refl S) .nil (by rw[OV.Gm];exact HN) (λa b=>by rw[OV.Gm]at b;cases b) h⟩
theorem zT{k:List Nat->OV->Prop}(hi:ss[i]?=some (.ow false t))(h:k [i] t):Wx ss (Al i) k:=⟨λE O F H Q S q=>by
 obtain⟨v,e,r,nd,c⟩:=S.ok i _ hi;refine⟨_,e,q v [i] t F H (.refl S) r nd (λa b=>⟨(c a b).1,?_,.inl ⟨i,by simp,_,by simp,hi,b⟩⟩) h⟩;exact(c a b).2.elim id λz=>by cases z.1⟩
theorem Wx.ZEW(S:Sg E ss O F H)(h:(∃i∈m,∃s,s≠Slot.AY/\ss[i]?=some s/\BU s O[i]? a)∨H a=none):CO ss O a:=by
 rcases h with⟨j,_,s,c,b,o⟩|z
 .exact S.Om b o c
 .exact S.J6 z
theorem Mv.jB(m:Mv E ss O F H F' H')(h:F a=Option.none)(h2:H a≠Option.none):F' a=Option.none:=by
 cases e:F' a with
 |none=>rfl
 |some o=>
  rcases m.nn a o e with z|z
  .rw[h]at z;cases z
  .exact absurd z h2
theorem GO{k:List Nat->List OV->Prop}(h:Wx ss te λm u=>Oe ss tr λd us=>(∀i∈m,i∉d)/\k (m++d) (u::us)):Oe ss (AX te tr) k:=⟨λE O F H Q S q=>
 h.go E O F H _ S λv m u F1 H1 p n Ii t h2=>h2.go E O F1 H1 _ p.st λvs A us F2 H2 d B FX y AO=>by
  obtain⟨I,kk⟩:=AO;have np:∀a∈u.addrs,CO ss O a:=λa c=>Wx.ZEW S (t a c).2.2;refine q (v::vs) (m++A) (u::us) F2 H2 (p.trans d) (.cons (n.mono d.ff λa c o e=>d.hh a o (np a c) e) B) ?_ (λa c=>?_) kk
  .rw[OV.Ds,Cy];refine⟨Ii,FX,λa c b G e=>?_⟩;subst e;rcases(y a G).2.2 with⟨C,Mz,s2,TV,Cg,x⟩|z
   .rcases(t a c).2.2 with⟨j,g,s,J,D,o⟩|z
    .exact S.CG j C s s2 a (by rintro rfl;exact I j g Mz) D Cg o x
    .exact S.FK Cg x z
   .exact n.there a c z
  .rw[OV.Ds]at c;rcases List.mem_append.mp c with c|c
   .obtain⟨f,r,w⟩:=t a c;exact⟨d.jB f (n.there a c),r,w.imp (λEh=>by obtain⟨j,g,z⟩:=Eh;exact⟨j,by simp[g],z⟩) id⟩
   .obtain⟨f,r,w⟩:=y a c;exact⟨f,r,w.imp (λl=>by obtain⟨j,g,z⟩:=l;exact⟨j,by simp[g],z⟩) p.none⟩⟩
theorem U6{k:List Nat->OV->Prop}(h:Oe ss tr λm us=>us.length<=100000/\k m (.tp us)):Wx ss (Mu tr) k:=⟨λE O F H Q S q=>
 h.go E O F H _ S λvs m us F1 H1 i c Ii n AO=>by obtain⟨j,kk⟩:=AO;exact⟨small (by rw[c.length];exact j),λp d=>by
  have g:=i.st.alloc d (.tup vs);refine q _ m (.tp us) _ _ (i.trans g) (.tp B3 (c.mono g.ff λa b o e=>by rw[AW (by rintro rfl;exact c.there _ b d)];exact e)) (by rw[OV.HU];exact Ii) (λa b=>?_) kk;rw[OV.HU]at b;obtain⟨f,l,w⟩:=n a b;exact⟨by rw[AW (by rintro rfl;exact c.there _ b d)];exact f,l,w⟩⟩⟩
theorem R3{j:Nat}{s:Slot}:∀{m:List Nat}{ss:List Slot},(EM m ss)[j]?=some s->s=.any∨(ss[j]?=some s/\j∉m)
 | [],ss,h=>.inr ⟨h,by simp⟩
 |i::m,ss,h=>by
  rcases R3 (m:=m) (ss:=ss.set i .any) h with e|⟨e,hm⟩
  .exact .inl e
  .by_cases q:j=i
   .subst q;have a:j<ss.length:=by have:=(List.getElem?_eq_some_iff.mp e).1;simpa using this
    rw[DA a]at e;exact .inl (Be e).symm
   .rw[CZ (BO q)]at e;exact .inr ⟨e,by simp[q,hm]⟩
theorem Sg.EM{E:Ent0}{O:L2.St}{F H:Hp}:∀(m:List Nat){ss:List Slot},Sg E ss O F H->Sg E (Fz.EM m ss) O F H
 | [],_,S=>S
 |i::m,_,S=>Sg.EM m (S.drop i)
theorem Sg.gm(S0:Sg E ss O F0 H0)(S:Sg E ss O F H)(r:BB F H v u)(nd:u.addrs.Nodup)(c:∀a∈u.addrs,F a=none/\E.H0 a=none/\((∃i∈m,∃s,s≠Slot.AY/\ss[i]?=some s/\BU s O[i]? a)∨H0 a=none)):
  Sg E ((Fz.EM m ss).set j (.ow false u)) (O.set j (some v)) F H:=by
 refine(S.EM m).setG ⟨v,rfl,r,nd,λa b=>⟨(c a b).1,.inl (c a b).2.1⟩⟩ λa b i s FU f o=>?_;rcases R3 f with e|⟨Ib,hm⟩
 .subst e;cases o
 .rcases(c a b).2.2 with⟨i2,FC,s2,_,Cg,d⟩|z
  .exact S.CG i i2 s s2 a (by rintro rfl;exact hm FC) Ib Cg o d
  .exact S0.FK Ib o z
theorem L8(h:Wx ss te λm u=>nx ((Fz.EM m ss).set j (.ow false u))):Ws ss (Ez te (D2 j)) nx R:=⟨λE D O F H S c d=>
 h.go E O F H _ S λv m u F1 H1 a r nd b kk=>c _ _ F1 H1 kk (Sg.gm S a.st r nd b) a.ff⟩
theorem BB.rep(ff:AR F F1):∀{v:V}{t:OV},BB F H v t->(∀a∈t.addrs,∀o,H a=some o->F1 a=some o)->Rep F1 v t.pv:=by
 intro v t r h;exact BB.rec (motive_1:=λv t _=>(∀a∈t.addrs,∀o,H a=some o->F1 a=some o)->Rep F1 v t.pv) (motive_2:=λvs ts _=>(∀a∈OV.Am ts,∀o,H a=some o->F1 a=some o)->AV F1 vs (OV.DG ts))
  (λ{v p}r _=>by rw[OV.pv];exact r.mono ff)
  (λ{a vs xs}e _ c h=>by rw[OV.pv];exact .tup (ff _ _ e) (c (by rw[OV.HU]at h;exact h)))
  (λ{k a vs xs}e i g _ c h=>by
   rw[OV.DV]at h;have f:=c λa b=>h a (by simp[b]);have d:=h a (by simp) _ e;cases k with
   |lst=>rw[OV.pv];exact .lst d f
   |BJ ks=>rw[OV.pv];exact .BJ d g f
   |obj C dx ns=>rw[OV.pv];exact .obj d (h dx (by simp[NK.more]) _ i) g f
   |KW ks=>rw[OV.pv];exact .con)
  (λ_=>by rw[OV.DG];exact .nil)
  (λ_ _ QC MF h=>by
   rw[OV.Ds]at h;rw[OV.DG];exact .cons (QC λa b=>h a (by simp[b])) (MF λa b=>h a (by simp[b])))
  r h
theorem Zs{t':TS}(i:Nat)(hi:ss[i]?=some (.ow false t))(h:Ws (ss.set i (.is t.pv)) t' nx R):Ws ss t' nx R:=⟨λE D O F H S l k=>by
 obtain⟨v,e,r,nd,f⟩:=S.ok i _ hi;obtain⟨S1,g⟩:=(S.drop i).lay t.addrs (λa b=>⟨(f a b).1,(f a b).2.elim id (λz=>by cases z.1),r.there a b⟩) λa b j s c m=>by
  by_cases q:j=i
  .subst q;rw[DA (List.getElem?_eq_some_iff.mp hi).1]at c;cases c;cases m
  .rw[CZ (BO q)]at c;exact S.CG j i s _ a q c hi m b
 have d:=S1.Gr (j:=i) (v:=v) (p:=t.pv) (r.rep g λa b o ho=>by unfold CQ;rw[u4 b];exact ho);rw[Sy e,WU]at d;exact h.go E D O _ H d (λBm σ2 F2 H2 n d s2=>l Bm σ2 F2 H2 n d (g.trans s2)) k⟩
variable{lt:Bool}
theorem P5:(OV.nd .lst a us).addrs=a::OV.Am us:=by rw[OV.DV];rfl
theorem Lk:∀(us ws:List OV),OV.Am (us++ws)=OV.Am us++OV.Am ws
 | [],ws=>by rw[HM,OV.Gm,HM]
 |u::us,ws=>by rw[qr,OV.Ds,OV.Ds,Lk us ws,C6]
theorem NF(u:OV):OV.Am [u]=u.addrs:=by rw[OV.Ds,OV.Gm,Dz]
theorem Sg.ax{us':List OV}(S0:Sg E ss O F0 H0)(S:Sg E ss O F H)(hi:ss[i]?=some (.ow lt t))(B1:t.at p=some (.nd .lst a us))
  (d:∀a∈u.addrs,F a=none/\E.H0 a=none/\((∃i∈m,∃s,s≠Slot.AY/\ss[i]?=some s/\BU s O[i]? a)∨H0 a=none)) (Fd:i∉m)
  (G:BR F H Bt us') (Qm:(OV.Am us').Nodup) (JG:∀b∈OV.Am us',b∈OV.Am us∨b∈u.addrs):Sg E ((Fz.EM m ss).set i (.ow lt (t.put p (.nd .lst a us')))) O F (upd H a (.lst Bt)):=by
 have L:(Fz.EM m ss)[i]?=some (.ow lt t):=by
  have n:∀(m:List Nat)(ss:List Slot),ss[i]?=some (.ow lt t)->i∉m->(Fz.EM m ss)[i]?=some (.ow lt t):=by
   intro m
   induction m with
   |nil=>intro ss h _;exact h
   |cons j m D=>
    intro ss h f;refine D _ ?_ λz=>f (by simp[z]);rw[CZ (by rintro rfl;exact f (by simp))];exact h
  exact n m ss hi Fd
 obtain⟨v,e,r,nd,q⟩:=S.ok i _ hi;have B:∀b,b∈a::OV.Am us->b∈t.addrs:=λb c=>OV.JF B1 b (by rw[P5];exact c);have K:∀b∈u.addrs,b∉t.addrs:=λb c z=>by
  rcases(d b c).2.2 with⟨j,I,s,_,g,o⟩|w
  .exact S.CG j i s _ b (by rintro rfl;exact Fd I) g hi o z
  .exact S0.FK hi z w
 have A:(OV.nd .lst a us).addrs.Nodup:=by
  obtain⟨l,M,J,_⟩:=OV.split B1;rw[J,Cy,Cy]at nd;exact nd.1.2.1
 rw[P5]at A;have x:∀b∈OV.Am us',b≠a:=λb c z=>by
  subst z;rcases JG b c with w|w
  .exact(List.nodup_cons.mp A).1 w
  .exact K b w (B b (by simp))
 refine(S.EM m).Uo L B1 (.nd (k:=.lst) B3 trivial trivial (G.mono (AR.refl _) λb c o ho=>by rw[AW (x b c)];exact ho)) (by rw[P5];exact List.nodup_cons.mpr ⟨λz=>x a z rfl,Qm⟩) λb c=>?_;rw[P5]at c ⊢;rcases List.mem_cons.mp c with w|w
 .exact .inl (by simp[w])
 .rcases JG b w with z|z
  .exact .inl (by simp[z])
  .refine .inr ⟨(d b z).1,(d b z).2.1,λj s g o=>?_⟩;rcases R3 g with y|⟨Ib,f⟩
   .subst y;cases o
   .rcases(d b z).2.2 with⟨i2,FC,s2,_,Cg,C⟩|y
    .exact S.CG j i2 s s2 b (by rintro rfl;exact f FC) Ib Cg o C
    .exact S0.FK Ib o y
theorem wL(h:Wl ss i t ta λp u=>∃lt a us,ss[i]?=some (.ow lt t)/\u=.nd .lst a us/\us.length<=99999/\Wx ss te λm w=>i∉m/\nx ((EM m ss).set i (.ow lt (t.put p (.nd .lst a (us++[w])))))):Ws ss (HA (GJ K "list" UE ta (AX te BA))) nx R:=⟨λE D O F H S U hr=>
 h.go E O F H _ S λv p u F1 H1 c σ h1⟨lt,a,us,hi,Y,P,hw⟩=>by
  subst Y;cases σ with
  |@nd k a' vs _ A L X n=>
   refine .inl ⟨rfl,_,AU.of A⟩ |> λq=>⟨q,hw.go E O F1 H1 _ c.st λG m w F2 H2 d N FX B⟨Fd,kk⟩=>?_⟩;have M:=(BB.nd (k:=.lst) A L X n).mv c.st h.hi h1 d;cases M with
   |@nd _ _ I _ f J W r=>
    refine⟨a,I,G,rfl,rfl,f,IT (by rw[r.length];exact P),?_⟩;refine U _ O F2 _ kk (Sg.ax (u:=w) c.st d.st hi h1 B Fd (r.append (.one N)) ?_ λb z=>?_) (c.ff.trans d.ff)
    .rw[Lk,NF,Cy];obtain⟨v0,e0,r0,D3,q⟩:=d.st.ok i _ hi;have C:(OV.nd .lst a us).addrs.Nodup:=by
      obtain⟨l,n,Z,_⟩:=OV.split h1;rw[Z,Cy,Cy]at D3;exact D3.1.2.1
     rw[P5]at C;refine⟨(List.nodup_cons.mp C).2,FX,λx hx y Q e=>?_⟩;subst e;have g:x∈t.addrs:=OV.JF h1 x (by rw[P5];simp[hx]);rcases(B x Q).2.2 with⟨j,V,s,_,T,o⟩|w
     .exact c.st.CG j i s _ x (by rintro rfl;exact Fd V) T hi o g
     .exact c.st.FK hi g w
    .rw[Lk,NF]at z;exact List.mem_append.mp z⟩
theorem Sw{k:OV->Prop}(h:Wx ss te λ_ u=>k u):Ws ss (Hb te) nx (.ow k):=⟨λE D O F H S f e=>
 h.go E O F H _ S λv m u F1 H1 d r nd b kk=>e v F1 H1 d.st.toFin ⟨u,r,nd,λa c=>⟨(b a c).1,(b a c).2.1⟩,kk⟩⟩
theorem mM{ta:TA}{k:List Nat->OV->Prop}(h:Wa ss ta λl=>∃c,pre l (.ow c)/\∀u,c u->k [] u):Wx ss (ED (AQ pre) [] E0 ta) k:=⟨λE O F H Q S q=>
 h.go E O F H _ S λvs l F1 H1 b a⟨c,i,kk⟩=>by
  rw[Dz];refine⟨l,.ow c,F1,[],i,b.st.MG a,λv F' H' f⟨u,r,nd,d,g⟩=>?_⟩;exact q v [] u F' H' (b.trans (b.st.back (λ_ h=>absurd h Aa) f)) r nd (λa e=>⟨(d a e).1,S.DB (b.none (d a e).2),.inr (b.none (d a e).2)⟩) (kk u g)⟩
end
def ptr(a:Addr):Hp->V->Prop:=λ_ v=>v=.ref a
section
variable[Xw]
variable{K:ZLZ}{k:PV->Prop}{xs:List PV}{t:OV}{lt:Bool}
theorem Sg.X6(S:Sg E ss O F H)(hi:ss[i]?=some (.ow lt t))(B1:t.at p=some (.nd .lst a (ps.map .fz)))(e:AV F Bt Tt):Sg E (ss.set i (.ow lt (t.put p (.nd .lst a (Tt.map .fz))))) O F (upd H a (.lst Bt)):=
 Sg.ax (m:=[]) (u:=.fz .AA) S S hi B1 (λa d=>by rw[OV.IE]at d;cases d) (by simp) (TH e) (by rw[OC];exact HN) λb c=>by rw[OC]at c;cases c
theorem Sg.Q4(S:Sg E ss O F H)(hi:ss[i]?=some (.ow lt t))(B1:t.at p=some (.nd .lst a (ps.map .fz))):∃vs,H a=some (.lst vs)/\AV F vs ps:=by
 obtain⟨v,e,r,_,_⟩:=S.ok i _ hi;obtain⟨w,b,_⟩:=r.at B1;obtain⟨_,rfl,d,_,_,c⟩:=b.inv;exact⟨_,d,c.Q8⟩
theorem ZCt{k:List Nat->OV->Prop}{nk:NK}(f:ss[j]?=some (.raw (ptr a)))(hi:ss[i]?=some (.ow lt t))(B1:t.at p=some (.nd nk a us))(hk:k p (.nd nk a us)):Wl ss i t (Al j) k:=⟨⟨lt,hi⟩,λE O F H Q S q=>by
 obtain⟨v,e,c,_⟩:=S.ok j _ f;obtain⟨h,l,d,_,_⟩:=S.ok i _ hi;obtain⟨w,b,_⟩:=d.at B1;have g:w=.ref a:=by cases b;rfl
 subst g;cases(show v=.ref a from c);exact⟨_,e,q _ p _ F H (.refl S) b B1 hk⟩⟩
theorem ZCW(h:Wp ss te λq=>Wl ss i t ta λp u=>∃(lt:Bool)(a:Addr)(ps:List PV),ss[i]?=some (.ow lt t)/\u=.nd .lst a (ps.map .fz)/\Wp ss ti λl=>∃n:Nat,l=.int n/\n<ps.length/\nx (ss.set i (.ow lt (t.put p (.nd .lst a ((ps.set n q).map .fz)))))):Ws ss (Ez te (aB ta ti WL)) nx R:=⟨λE D O F H S o A=>
 h.go E O F H _ S λv q F1 H1 e g h2=>h2.go E O F1 H1 _ e.st λf p u F2 H2 c k B1⟨lt,a,ps,hi,w,r⟩=>by
  subst w;have s:f=.ref a:=by cases k;rfl
  subst s;refine r.go E O F2 H2 _ c.st λy z F3 H3 b j⟨n,x,Jk,kk⟩=>?_;subst x;cases j;obtain⟨vs,m,d⟩:=b.st.Q4 hi B1;refine⟨a,vs,_,n,rfl,rfl,m,gN (by rw[d.length];exact Jk),?_⟩;exact o _ O F3 _ kk (b.st.X6 hi B1 (d.set n (g.mono (c.ff.trans b.ff)))) (e.ff.trans (c.ff.trans b.ff))⟩
theorem gf(h:Wl ss i t ta λp u=>∃(lt:Bool)(a:Addr)(ps:List PV),ss[i]?=some (.ow lt t)/\u=.nd .lst a (ps.map .fz)/\Wp ss tb λq=>∃n:Nat,q=.int n/\n<=ps.length/\Wp ss te λf=>ps.length<=99999/\nx (ss.set i (.ow lt (t.put p (.nd .lst a ((ps.take n++f::ps.drop n).map .fz)))))):
  Ws ss (HA (GJ K "list" UB ta (AX tb (AX te BA)))) nx R:=⟨λE D O F H S r G=>
 h.go E O F H _ S λv p u F1 H1 d m B1⟨lt,a,ps,hi,x,h2⟩=>by
  subst x;have w:v=.ref a:=by cases m;rfl
  subst w;obtain⟨Hf,z,_⟩:=d.st.Q4 hi B1;refine⟨.inl ⟨rfl,_,AU.of z⟩,h2.go E O F1 H1 _ d.st λA f F2 H2 g l⟨n,y,Jk,s⟩=>?_⟩;subst y;cases l;refine s.go E O F2 H2 _ g.st λj B F3 H3 c k⟨C,kk⟩=>?_;obtain⟨vs,o,b⟩:=c.st.Q4 hi B1;have e:=b.length;refine⟨a,vs,n,j,rfl,rfl,o,by omega,by omega,IT (by omega),?_⟩;rw[Hq];exact r _ O F3 _ kk (c.st.X6 hi B1 ((b.take n).append (.cons k (b.drop n)))) (d.ff.trans (g.ff.trans c.ff))⟩
theorem vz{m n:Nat}(h:m<n):seqIndex? (m:Int) n=some m:=by
 unfold seqIndex?;simp;omega
theorem AV.erase:∀{vs:List V}{xs:List PV}(n:Nat),AV F vs xs->AV F (vs.eraseIdx n) (xs.eraseIdx n):=by
 intro vs xs n r
 induction xs generalizing vs n with
 |nil=>cases r.ET;exact .nil
 |cons p ps c=>
  obtain⟨v,ws,rfl,a,b⟩:=r.inv;cases n with
  |zero=>exact b
  |succ n=>exact .cons a (c n b)
end
def D9:List Slot->L2.St->List Addr
 | .own _::ss,some (.ref l)::O=>l::D9 ss O
 | .ow _ t::ss,_::O=>t.addrs++D9 ss O
 |_::ss,_::O=>D9 ss O
 |_,_=>[]
theorem me:∀{ss:List Slot}{O:L2.St}{a:Addr},a∈D9 ss O->∃(i:Nat)(s:Slot),ss[i]?=some s/\s≠.AY/\BU s O[i]? a
 | [],O,a,h=>absurd h Aa
 |s::ss,[],a,h=>by cases s <;> exact absurd h Aa
 |s::ss,o::O,a,h=>by
  have b:a∈D9 ss O->∃(i:Nat)(s':Slot),(s::ss)[i]?=some s'/\s'≠.AY/\BU s' (o::O)[i]? a:=λh=>by
   obtain⟨i,s',h1,h2,c⟩:=me h;exact⟨i+1,s',by simpa using h1,h2,by simpa using c⟩
  cases s with
  |own xs=>
   cases o with
   |none=>exact b h
   |some v=>
    cases v with
    |ref l=>
     have h:a∈l::D9 ss O:=h;rcases List.mem_cons.mp h with e|h
     .subst e;exact⟨0,_,rfl,by simp,rfl⟩
     .exact b h
    |_=>exact b h
  |ow lt t=>
   have h:a∈t.addrs++D9 ss O:=h;rcases List.mem_append.mp h with h|h
   .exact⟨0,_,rfl,by simp,h⟩
   .exact b h
  |_=>exact b h
theorem Vx:∀{ss:List Slot}{O:L2.St}{i:Nat}{s:Slot}{a:Addr},ss.length=O.length->ss[i]?=some s->s≠.AY->BU s O[i]? a->a∈D9 ss O
 | [],O,i,s,a,_,h,_,_=>by simp at h
 |s0::ss,[],i,s,a,hl,_,_,_=>by simp at hl
 |s0::ss,o::O,0,s,a,hl,h,hp,ho=>by
  simp at h;subst h;cases s0 with
  |own xs=>
   have e:o=some (.ref a):=by have:some o=some (some (V.ref a)):=ho;exact Be this
   subst e;exact Fh
  |ow lt t=>exact Gp _ ho
  |AY=>exact absurd rfl hp
  |_=>cases ho
 |s0::ss,o::O,i+1,s,a,hl,h,hp,ho=>by
  have q:=Vx (ss:=ss) (O:=O) (i:=i) (a:=a) (by simpa using hl) (by simpa using h) hp (by simpa using ho)
  cases s0 with
  |own xs=>cases o with
   |none=>exact q
   |some v=>cases v with
    |ref l=>exact E2 _ q
    |_=>exact q
  |ow lt t=>exact GQ _ q
  |_=>exact q
theorem BB.ZCY{t:OV}(r:BB F H v t):∀a∈t.addrs,∀vs,H a≠some (.tup vs):=
 BB.rec (motive_1:=λ_ t _=>∀a∈t.addrs,∀vs,H a≠some (.tup vs)) (motive_2:=λ_ ts _=>∀a∈OV.Am ts,∀vs,H a≠some (.tup vs))
  (λ_ a c _=>by rw[OV.IE]at c;cases c)
  (λ_ _ i a c vs=>by rw[OV.HU]at c;exact i a c vs)
  (λ{k}{b}{_}{_}h f _ _ i a c vs=>by
   rw[OV.DV,GR,Ni]at c;rcases c with rfl|c|c
   .rw[h];cases k <;> (intro z;cases z)
   .cases k with
    |obj C dx ns=>
     have e:a=dx:=List.mem_singleton.mp c;subst e;have d:H a=some (.own b):=f;rw[d];intro z;cases z
    |_=>exact absurd c Aa
   .exact i a c vs)
  (λa c _=>by rw[OV.Gm]at c;cases c)
  (λ_ _ i k a c ws=>by
   rw[OV.Ds,Ni]at c;rcases c with c|c
   .exact i a c ws
   .exact k a c ws)
  r
mutual
def Gb:PV->Bool
 | .lst _=>false
 | .BJ _ _=>false
 | .obj _ _ _=>false
 | .exc _ _ _=>false
 | .tup xs=>Il xs
 |_=>true
def Il:List PV->Bool
 | []=>true
 |x::r=>Gb x && Il r
end
def GA(F:Hp)(as:List Addr):Hp:=λa=>if a∈as then none else F a
theorem Rep.sub{as:List Addr}(h:∀a∈as,∀vs,F a≠some (.tup vs)):∀{v:V}{p:PV},Rep F v p->Gb p=true->Rep (GA F as) v p:=by
 intro v p r d;exact Rep.rec (motive_1:=λv p _=>Gb p=true->Rep (GA F as) v p) (motive_2:=λvs ps _=>Il ps=true->AV (GA F as) vs ps)
  (λ_=>.AA) (λb _=>.bl b) (λi _=>.int i) (λx _=>.str x)
  (λ_ _ _ z=>Bool.noConfusion (show false=true from z))
  (λ{a vs xs}e _ c z=>.tup (by unfold GA;rw[tK (λq=>h a q vs e)];exact e) (c z))
  (λ_ _ _ _ z=>Bool.noConfusion (show false=true from z))
  (λ_ _ _ _ _ z=>Bool.noConfusion (show false=true from z))
  (λ_=>.con)
  (λ_ z=>Bool.noConfusion (show false=true from z))
  (λ_ _ _ _ _ z=>Bool.noConfusion (show false=true from z))
  (λ_=>.nil)
  (λ_ _ QC MF z=>by
   have z:=(Ff _ _).mp z;exact .cons (QC z.1) (MF z.2))
  r d
theorem AV.sub{as:List Addr}(h:∀a∈as,∀vs,F a≠some (.tup vs))(r:AV F vs ps)(z:Il ps=true):AV (GA F as) vs ps:=by
 induction ps generalizing vs with
 |nil=>cases r.ET;exact .nil
 |cons p ps c=>
  obtain⟨v,ws,rfl,a,b⟩:=r.inv;have z:=(Ff _ _).mp z;exact .cons (a.sub h z.1) (c b z.2)
structure Wb [Xw] (ss:List Slot) (ta:TA) (k:List PV->Prop):Prop where
 go:∀(E:Ent)(O:L2.St)(F H:Hp)(Q:List V->Hp->Prop),Sg E ss O F H->(∀vs ps F' H',Mv E ss O F H F' H'->AV (CQ F' H' (D9 ss O)) vs ps->k ps->Q vs H')->ta O H Q
theorem Sg.as(S:Sg E ss O F H)(h:a∈D9 ss O):F a=none/\H a≠none/\(∀vs,H a≠some (.tup vs))/\CO ss O a:=by
 obtain⟨i,s,b,c,ho⟩:=me h;refine⟨S.ZJD b ho,S.FK b ho,?_,S.Om b ho c⟩;have k:=S.ok i s b;cases s with
 |own xs=>obtain⟨l,vs,e,_,_,d,_⟩:=k;rw[show O[i]?=some (some (.ref a))from ho]at e;cases e;rw[d];simp
 |ow lt t=>obtain⟨v,_,r,_⟩:=k;exact r.ZCY a ho
 |AY=>exact absurd rfl c
 |_=>cases ho
theorem Sg.IL(S:Sg E ss O F H):AR F (CQ F H (D9 ss O))/\AR (CQ F H (D9 ss O)) H:=by
 refine⟨λa o e=>?_,λa o e=>?_⟩
 .unfold CQ;rw[tK (λq=>by rw[(S.as q).1]at e;cases e)];exact e
 .unfold CQ at e;split at e
  .exact e
  .exact S.fh a o e
theorem Sg.lend(S:Sg E ss O F H)(r:AV (CQ F H (D9 ss O)) vs ps):Sg (E3 [] (CQ F H (D9 ss O)) H) (ps.map .is) (vs.map some) (CQ F H (D9 ss O)) H:=by
 have nn:∀{p:Prop}(a:Addr),a∈([]:List Addr)->p:=λa h=>absurd h Aa;refine⟨⟨S.IL.2,AR.refl _,λ_ _ _ e=>e,λ_ _ e=>.inl e,λa h=>nn a h,λa h=>nn a h,λa h=>nn a h,λa h=>nn a h,λa h=>nn a h,λa h=>nn a h⟩,by rw[AB,AB,r.length],λi s hi=>?_,λi j s u l FU hi f ms d=>?_⟩
 .rw[Ax]at hi;cases e:ps[i]? with
  |none=>rw[e]at hi;cases hi
  |some p=>
   rw[e]at hi;obtain⟨v,c,b⟩:=r.get e;have es:Slot.is p=s:=Be hi;subst es;rw[Ax,c];exact⟨v,rfl,b⟩
 .rw[Ax]at hi;cases e:ps[i]? with
  |none=>rw[e]at hi;cases hi
  |some p=>rw[e]at hi;have es:Slot.is p=s:=Be hi;subst es;cases ms
theorem Sg.VO(S:Sg E ss O F H)(f:Fin (E3 [] (CQ F H (D9 ss O)) H) F' H'):Mv E ss O F H (GA F' (D9 ss O)) H'/\∀a∈D9 ss O,∀vs,F' a≠some (.tup vs):=by
 have kp:∀a o,H a=some o->H' a=some o:=λa o e=>f.keep a o ⟨Aa,Aa⟩ e;refine⟨S.step (λa o e=>?_) (λa o e=>?_) (λa o _ e=>kp a o e) (λa o e=>?_) (λi l hi e=>C4.keep (S.GG hi e) λo e=>kp l o e),λa c vs e=>?_⟩
 .unfold GA;rw[tK (λq=>by rw[(S.as q).1]at e;cases e)];exact f.f0 a o (S.IL.1 a o e)
 .unfold GA at e;split at e
  .cases e
  .exact f.fh a o e
 .unfold GA at e;split at e
  .cases e
  .rename_i q;rcases f.fresh a o e with z|z
   .left
    have b:CQ F H (D9 ss O) a=some o:=z;unfold CQ at b;rw[tK q]at b;exact b
   .exact .inr z
 .obtain⟨o,ho⟩:=Option.ne_none_iff_exists'.mp (S.as c).2.1;have z:F' a=some o:=f.f0 a o (by show CQ F H (D9 ss O) a=some o;unfold CQ;rw[u4 c];exact ho);rw[z]at e;cases e;exact(S.as c).2.2.1 vs ho
section
variable[Xw]
variable{K:ZLZ}{k:PV->Prop}{xs:List PV}{t:OV}{lt:Bool}
theorem cC{k:List PV->Prop}(h:k []):Wb ss BA k:=⟨λE O F H Q S q=>q _ _ F H (.refl S) .nil h⟩
theorem nP{k:List PV->Prop}(h:Wp ss te λp=>Wb ss tr λps=>k (p::ps)):Wb ss (AX te tr) k:=⟨λE O F H Q S q=>
 h.go E O F H _ S λv p F1 H1 b d h2=>h2.go E O F1 H1 _ b.st λvs ps F2 H2 a c kk=>q _ _ F2 H2 (b.trans a) (.cons ((d.mono a.ff).mono a.st.IL.1) c) kk⟩
theorem zq(h:Wx ss te λm u=>m=[]/\k u.pv):Wp ss te k:=⟨λE O F H Q S q=>
 h.go E O F H _ S λv m u F1 H1 c r nd d AO=>by
  obtain⟨l,kk⟩:=AO;subst l;have g:∀a∈u.addrs,H a=none:=λa b=>by
   rcases(d a b).2.2 with⟨i,hi,_⟩|z
   .cases hi
   .exact z
  obtain⟨S1,f⟩:=c.st.lay u.addrs (λa b=>⟨(d a b).1,(d a b).2.1,r.there a b⟩) λa b i s j o=>S.FK j o (g a b);refine q v u.pv _ H1 ⟨S1,c.ff.trans f,c.hh,λa o e=>?_⟩ (r.rep f λa b o ho=>by unfold CQ;rw[u4 b];exact ho) kk;unfold CQ at e;split at e
  .rename_i z;exact .inr (g a z)
  .exact c.nn a o e⟩
end
theorem ky:∀(xs:List PV),OV.DG (xs.map .fz)=xs
 | []=>by rw[Kn,OV.DG]
 |x::r=>by rw[B6,OV.DG,OV.pv,ky r]
end Fz
namespace L2
variable{M:Model}{A:Around}{E Q xe:Value->Shared->Prop}{s s':Shared}{Zp h h':Heap}{env:Env}{l outer:List Env}{C S a b ea f fI:Addr}{dd dx fr tb:Option Addr}{o:HO}{vs:Array Value}{cd head u v:Value}{oI oe ox:Obj}{w:World}{mN mg:ZLb}{N ps sn:List Str}{n name par qual x:Str}{scope:Scope}{H H':Hp}{e e0:Expr}{X:Cx}{α:Type}{Hn r:Option Value}{E':St->XK}{Bp Mx np p pos:Pos}{es:List Expr}{ab hdct:Bool}{prog:Program}{UP us:List Value}{od:Option Obj}{tk:Tok}{Zd pn:ZLa}{O:St}{j kk t':Nat}{ta te:TE}{fd:FuncData}{b0:Stmt}{ON:(St->XK)->TS}{th:TS}{sp:Sp}
structure Gn (h:Heap) (ea:Addr) (C:Value) (dx tb:Option Addr):Prop where
 obj:∃oe vs,h.get? ea=some oe/\oe.cls=C/\oe.dict=dx/\oe.data=.fields vs/\1<vs.size/\vs[1]?=some (tb.elim Value.none Value.ref)
 ent:∀T,tb=some T->T≠ea/\∃oT ts,h.get? T=some oT/\oT.data=.fields ts/\3<ts.size
section
variable{L:Addr}{C:Value}{Q:Unit->Shared->Prop}
theorem ZHe(o:Obj)(g:Array Value->Array Value):(o.mapFields g).dict=o.dict:=by
 obtain⟨c,d,a,b⟩:=o;cases a <;> rfl
structure Kp (l:List Env) (ea:Addr) (tb:Option Addr) (h h':Heap):Prop where
 keep:∀b o,h.get? b=some o->b∉Cr l->b≠ea->tb≠some b->h'.get? b=some o
 slot:∀b o,h.get? b=some o->b∈Cr l->∃sl,h'.get? b=some { o with slots:=sl }
 size:h.objs.size<=h'.objs.size
theorem gL(e:s.heap.FunFrames Zp (env::outer)){o:Obj}(ho:s.heap.get? b=some o)(hd:o.data=.fields vs):b∉Cr (env::outer):=λd=>by
 obtain⟨_,u,a,c⟩:=e.mem d;rw[ho]at a;cases a;exact c vs hd
theorem lK{more:Bool}(Lc:A.frames=some (env::outer))(i:s.heap.FunFrames Zp (env::outer))(t:env.frame=some L)
  (j:s.heap.get? ea=some oe) (u:oe.cls=C) (NI:oe.dict=dx) (hd:oe.data=.fields vs) (c:1<vs.size)
  (h:∀h' T,Kp (env::outer) ea none s.heap h'->s.heap.objs.size<=T->Gn h' ea C dx (some T)->Q () { s with heap:=h' }) :
  wpAny M A (do
   let fr <- frameOf env
   let pl <- entryPlaceOf L more
   let b <- EntryCells.newEntry head fr Value.none (rawInt L) Value.none pl
   setField (.ref ea) 1 b) Q E s:=by
 have f:=gL i j hd;refine ra (wpAny_frameOf_fun Lc i t λg a=>?_);refine ra (wpAny_entryPlaceOf λpl r=>?_);unfold EntryCells.newEntry newFields;refine ra (ZAG ?_ (r.sizeOk5 _ _ _ _ _));generalize v:([head,Value.ref L,Value.none,rawInt L,Value.none]++(if pl.isEmpty then List.replicate 6 Value.none else pl)).toArray=ts
 have p:3<ts.size:=by
  rw[<- v];simp only[CA,By,Ck,Sa];omega
 have l:g.get? ea=some oe:=(a.2.1 ea f).trans j;have w:(g.push { cls:=.type "traceback", dict:=none,data:=.fields ts }).get? g.objs.size=some { cls:=.type "traceback", dict:=none,data:=.fields ts }:=CY g rfl;have k:=Bo (h:=g) { cls:=.type "traceback", dict:=none,data:=.fields ts } l;have n:g.objs.size≠ea:=Lx (BE l);have m:=WZ hd (·.setIfInBounds 1 (Value.ref g.objs.size))
 have y:=JT (Obj.mapFields (·.setIfInBounds 1 (Value.ref g.objs.size))) k (rN m)
 have z:=(Fg (g.push { cls:=.type "traceback", dict:=none,data:=.fields ts }) (Obj.mapFields (·.setIfInBounds 1 (Value.ref g.objs.size))) (BO n)).trans w
 refine ZAa k hd c (h _ g.objs.size ⟨λb o d P6 GS _=>?_,λb o d Jy=>?_,?_⟩ ?_ ⟨⟨_,_,y,?_,?_,m,?_,?_⟩,λT x=>?_⟩)
 .have e:g.get? b=some o:=(a.2.1 b P6).trans d;rw[Fg _ _ (BO GS)];exact Bo _ e
 .obtain⟨q,e⟩:=a.2.2 b o d;refine⟨q,?_⟩;rw[Fg _ _ (by rintro rfl;exact f Jy)];exact Bo _ e
 .rw[WO,Iq,a.1];exact JW _
 .rw[a.1];exact B0 _
 .rw[Obj.cls_mapFields];exact u
 .rw[ZHe];exact NI
 .simpa using c
 .simp[c]
 .cases x;exact⟨n,_,_,z,rfl,p⟩
theorem Kp.refl:Kp l ea tb h h:=⟨λ_ _ a _ _ _=>a,λ_ o a _=>⟨o.slots,a⟩,B0 _⟩
theorem ZJn(Lc:A.frames=some (env::outer))(f:s.heap.FunFrames Zp (env::outer))(g:env.frame=some L)(hx:Gn s.heap ea C dx tb)
  (h:∀h' T,Kp (env::outer) ea tb s.heap h'->s.heap.objs.size<=T∨tb=some T->Gn h' ea C dx (some T)->Q () { s with heap:=h' }) :
  wpAny M A (noteFrame (.ref ea) env) Q E s:=by
 obtain⟨oe,vs,i,n,hd,Hz,l,h1⟩:=hx.obj;unfold noteFrame;simp only[g];refine ra (yz i Hz h1 ?_);cases tb with
 |none=>
  rw[tK (by decide)];exact lK Lc f g i n hd Hz l λh' T k q=>h h' T k (.inl q)
 |some T=>
  obtain⟨MV,r,ts,c,IK,j⟩:=hx.ent T rfl;show wpAny M A (do if(Value.ref T != Value.none)=true then _ else _) _ _ _
  rw[u4 (show(Value.ref T != Value.none)=true from by simp)];refine ra (yz c IK (Array.getElem?_eq_getElem j) ?_)
  by_cases m:(ts[3] == rawInt L)=true
  .rw[u4 m];exact uz (h s.heap T Kp.refl (.inr rfl) hx)
  rw[tK m];refine ra (ZAa c IK j ?_);have d:∀b,b≠T->(s.heap.update T (Obj.mapFields (·.setIfInBounds 3 Value.none))).get? b=s.heap.get? b:=λb a=>Fg _ _ (BO a)
  have p:=gL f c IK;refine lK (s:={ s with heap:=s.heap.update T (Obj.mapFields (·.setIfInBounds 3 Value.none)) }) Lc (f.of_keeps λb o a e=>⟨o,(d b (by rintro rfl;rw[c]at a;cases a;exact e ts IK)).trans a,rfl⟩) g ((d ea (BO MV)).trans i) n hd Hz l λh' T' k e x=>?_
  refine h h' T' ⟨λb o a P6 GS Oa=>k.keep b o ((d b (by rintro rfl;exact Oa rfl)).trans a) P6 GS (by simp),λb o a Jy=>k.slot b o ((d b (by rintro rfl;exact p Jy)).trans a) Jy,?_⟩ (.inl ?_) x
  .have z:=k.size;rw[show(s.heap.update T (Obj.mapFields (·.setIfInBounds 3 Value.none))).objs.size=s.heap.objs.size from WO ..]at z
   exact z
  .have z:=e;rw[show(s.heap.update T (Obj.mapFields (·.setIfInBounds 3 Value.none))).objs.size=s.heap.objs.size from WO ..]at z
   exact z
theorem gB(x:Gn s.heap ea C dx tb)(k:∀b∈Cr l,∃o,s.heap.get? b=some o/\∀vs,o.data≠.fields vs)
  (h:∀h',Kp l ea tb s.heap h'->Gn h' ea C dx tb->Q () { s with heap:=h' }):wpAny M A (setFlight (.ref ea) fr) Q E s:=by
 obtain⟨oe,vs,g,m,hd,Hz,i,h1⟩:=x.obj;unfold setFlight;refine ra (yz g Hz h1 ?_);cases tb with
 |none=>
  rw[tK (by decide)];exact uz (h s.heap Kp.refl x)
 |some T=>
  obtain⟨MV,q,ts,c,IK,e⟩:=x.ent T rfl;rw[u4 (show((some T).elim Value.none Value.ref != Value.none)=true from by simp)];generalize (fr.elim Value.none λf=>rawInt f)=mk;have d:∀b,b≠T->(s.heap.update T (Obj.mapFields (·.setIfInBounds 3 mk))).get? b=s.heap.get? b:=λb a=>Fg _ _ (BO a)
  have p:=JT (Obj.mapFields (·.setIfInBounds 3 mk)) c (rN (WZ IK _))
  refine ZAa c IK e (h _ ⟨λb o a _ _ Oa=>(d b (by rintro rfl;exact Oa rfl)).trans a,λb o a Jy=>⟨o.slots,(d b ?_).trans a⟩,by rw[WO];exact B0 _⟩ ⟨⟨oe,vs,(d ea (BO MV)).trans g,m,hd,Hz,i,h1⟩,λT' n=>?_⟩)
  .rintro rfl;obtain⟨o',Ey,j⟩:=k b Jy;rw[c]at Ey;cases Ey;exact j ts IK
  .cases n;exact⟨MV,_,_,p,WZ IK _,by simpa using e⟩
theorem Kp.frames(k:Kp l ea tb h h')(d:h.FunFrames Zp l):∀b∈Cr l,∃o,h'.get? b=some o/\∀vs,o.data≠.fields vs:=λb a=>by
 obtain⟨_,o,ho,c⟩:=d.mem a;obtain⟨f,e⟩:=k.slot b o ho a;exact⟨_,e,c⟩
theorem Kp.trans{T:Addr}{h1 h2:Heap}(k:Kp l ea tb h h1)(c:h.objs.size<=T∨tb=some T)(k2:Kp l ea (some T) h1 h2):Kp l ea tb h h2:=
 ⟨λb o a P6 GS Oa=>k2.keep b o (k.keep b o a P6 GS Oa) P6 GS (λz=>c.elim (λy=>absurd (BE a) (Nat.not_lt.mpr (Be z▸y))) λy=>Oa (y.trans z)),
  λb o a Jy=>by
  obtain⟨f,e⟩:=k.slot b o a Jy;obtain⟨Jr,d⟩:=k2.slot b _ e Jy;exact⟨Jr,d⟩,CB k.size k2.size⟩
theorem mF(Lc:A.frames=some (env::outer))(a:s.heap.FunFrames Zp (env::outer))(d:env.frame=some L)(hx:Gn s.heap ea C dx tb)
  (h:∀h' T,Kp (env::outer) ea tb s.heap h'->s.heap.objs.size<=T∨tb=some T->Gn h' ea C dx (some T)->Q () { s with heap:=h' }) :
  wpAny M A (noteFrame (.ref ea) env) (λ_ s'=>wpAny M A (setFlight (.ref ea) none) Q E s') E s:=
 ZJn Lc a d hx λh1 T k b x=>gB x (k.frames a) λh2 k2 c=>h h2 T (k.trans b k2) b c
theorem ZBN(Lc:A.frames=some (env::outer))(a:s.heap.FunFrames Zp (env::outer))(b:env.frame=some L)(hx:Gn s.heap ea C dx tb)
  (h:∀h' T,Kp (env::outer) ea tb s.heap h'->s.heap.objs.size<=T∨tb=some T->Gn h' ea C dx (some T)->Q () { s with heap:=h' }):wpAny M A (leaving env (.ref ea)) Q E s:=by
 unfold leaving;exact ra (mF Lc a b hx h)
end
def Gg(P:Program)(w:World):Gv:=λouter H s E e s'=>∃(ea C:Addr)(dx tb:Option Addr)(H':Hp),e=.ref ea/\s'.os=s.os/\AllBare s'.gens/\Un (Cr outer) [] H H' s.heap s'.heap/\Bz P w H' s'.heap/\
 Gn s'.heap ea (.ref C) dx tb/\(H' ea=none/\s.heap.get? ea=none)/\(∀T,tb=some T->H' T=none/\s.heap.get? T=none)/\E (.ref C) dx H'
def X9(X:Cx)(E:XK)(e:Value)(s':Shared):Prop:=∃(Zd:ZLa)(O:St)(H':Hp)(ea C:Addr)(dx tb:Option Addr),e=.ref ea/\Inv X Zd O H' s'/\
 Gn s'.heap ea (.ref C) dx tb/\(H' ea=none/\X.s₀.heap.get? ea=none)/\(∀T,tb=some T->H' T=none/\X.s₀.heap.get? T=none)/\E (.ref C) dx H'
section
variable{P:Program}{K:ZLZ}{E:XK}
theorem Bz.jr(ok:Bz P w H' h)(k:∀b u,H' b≠none->h.get? b=some u->h'.get? b=some u):Bz P w H' h':=λa o e=>
 (ok a o e).HQ (λb u c d=>k b u (by rcases c with rfl|c;(rw[e];simp);(rw[c];simp)) d) (λ_ z=>z) λ_ _ z=>z
theorem X9.leave{e:Value}(r:X9 (Di (Gg P w) P w K mg Zp N qual scope f cd A outer s H E) E e s'):(Di (Gg P w) P w K mg Zp N qual scope f cd A outer s H E).xe e s':=by
 obtain⟨Zd,O,H',ea,C,dx,tb,rfl,I,x,⟨u1,u2⟩,g,m⟩:=r;have fr:=I.ok.frames
 change s.heap.get? ea=none at u2
 have g:∀T,tb=some T->H' T=none/\s.heap.get? T=none:=g;refine ZBN (outer:=outer) (L:=s.heap.objs.size) fr I.stack rfl x λh' T kp h l=>?_;have j:∀b o,s.heap.get? b=some o->b≠s.heap.objs.size:=λb o a=>Cn (BE a);have mem:∀b,b∈Cr (envOfC qual scope s.heap.objs.size f cd::outer)->b=s.heap.objs.size∨b∈Cr outer:=λb a=>by
  rcases List.mem_cons.mp (I.RE b a)with z|z
  .exact .inl z
  .exact .inr z
 have i:∀b o,s'.heap.get? b=some o->H' b≠none->h'.get? b=some o:=λb o a c=>kp.keep b o a (λz=>c (I.U5 b z)) (λz=>c (z▸u1)) λz=>c (g b z).1;refine⟨ea,C,dx,some T,H',rfl,I.os,I.bare,⟨λb o a c d _=>?_,λb o a c d _=>?_,λb o a c hx=>I.base.free b o a c hx,λb o a hx=>?_,I.base.HB,I.base.Ge,I.base.Gs⟩,I.AJ.jr λb u c a=>i b u a c,l,⟨u1,u2⟩,λT' n=>?_,m⟩
 .refine kp.keep b o (I.base.keep b o a c d (by simp[Di])) (λz=>(mem b z).elim (j b o a) d) (by rintro rfl;rw[u2]at a;cases a) λz=>?_;rw[(g b z).2]at a;cases a
 .obtain⟨q,h1⟩:=I.base.slot b o a c d (by simp[Di]);have p:b∈Cr (envOfC qual scope s.heap.objs.size f cd::outer):=by
   show b∈List.filterMap _ (_::_);rw[WR];exact E2 _ d
  obtain⟨Jr,h2⟩:=kp.slot b _ h1 p;exact⟨Jr,h2⟩
 .obtain⟨k,h1⟩:=I.base.there b o a (by simp[Di])
  by_cases d:b∈Cr (envOfC qual scope s.heap.objs.size f cd::outer)
  .obtain⟨Jr,h2⟩:=kp.slot b _ h1 d;exact⟨_,h2⟩
  .exact⟨k,kp.keep b k h1 d (by rintro rfl;rw[u2]at a;cases a) λz=>by rw[(g b z).2]at a;cases a⟩
 .cases n;exact h.elim (λh=>⟨I.AJ.fresh h,SU (CB I.sz h)⟩) (g T)
end
abbrev jZ:List Value:=[.type "ValueError",.type "Exception",.type "BaseException",.type "object"]
structure mH (h:Heap) (C:Addr) (Hn:Option Value):Prop where
 obj:∃bm N nm q bs hdct sn sub ab col dd k0 k1 k2 k3 k5 mN,h.get? C=some (excClassObj nm q C N bs bm hdct sn sub ab col dd k0 k1 k2 k3 k5 "ValueError.__new__")/\h.Ns N mN/\mN "__init__"=Hn/\OwnTail h jZ bm
def mC:Data->Option ClassData
 | .cls cd=>some cd
 |_=>none
theorem ZGI{d:Data}{cd:ClassData}(h:mC d=some cd):d=.cls cd:=by
 cases d <;> first|(cases h;rfl)|cases h
theorem Mh{l:List α}{n:Nat}(h:l.length=n+1):∃a r,l=a::r/\r.length=n:=by
 cases l with
 |nil=>cases h
 |cons a r=>exact⟨a,r,rfl,Po h⟩
theorem ZFf{l:List α}(h:l.length=6):∃a b c d e f,l=[a,b,c,d,e,f]:=by
 obtain⟨a,l,rfl,h1⟩:=Mh h;obtain⟨b,l,rfl,h2⟩:=Mh h1;obtain⟨c,l,rfl,k⟩:=Mh h2;obtain⟨d,l,rfl,j⟩:=Mh k;obtain⟨e,l,rfl,i⟩:=Mh j;obtain⟨f,l,rfl,g⟩:=Mh i;exact⟨a,b,c,d,e,f,by rw[List.eq_nil_of_length_eq_zero g]⟩
noncomputable def m6(K:ZLZ)(C:Addr)(Hn:Option Value)(cd:ClassData)(l:List (Option Value)):Bool:=
 cd.mro.head? == some (.ref C) && (l.length == 6 && (l[4]? == some (some (.builtin "ValueError.__new__")) && (!cd.hasDel && (PySem.W.tailIn K jZ cd.mro.tail && (PySem.W.nsOkIn K cd.ns && PySem.W.nsIn K cd.ns "__init__" == some Hn)))))
def Hj(K:ZLZ)(C:Addr)(Hn:Option Value):Bool:=(K.lookup C).any λo=>o.cls == .type "type" && (mC o.data).any λcd=>m6 K C Hn cd o.slots.toList
theorem QV{K:ZLZ}(X:K.In h)(q:Hj K C Hn=true):mH h C Hn:=by
 obtain⟨⟨c,dd,r,⟨l⟩⟩,ho,q⟩:=Wf q;rw[Ff]at q;obtain⟨cd,Fe,a⟩:=Wf q.2;obtain⟨nm,bs,b,ns,qn,hd,sn,sub,ab,col,s⟩:=cd;unfold m6 at a;simp only[Ff,beq_iff_eq,Bool.not_eq_true']at a;obtain⟨i,k,p,ZA2,j,AJ,HG⟩:=a;cases(eq_of_beq q.1:c=.type "type");cases(ZGI Fe:r=_);subst ZA2;obtain⟨k0,k1,k2,k3,t,k5,rfl⟩:=ZFf k;cases p;cases b with
 |nil=>cases i
 |cons m bm=>
  cases i;have G:h.Ns ns (h.nsMap ns):=.of_isNs (PySem.W.isNs_of_in X AJ);refine⟨bm,ns,nm,qn,bs,hd,sn,sub,ab,col,dd,k0,k1,k2,k3,k5,_,X _ _ ho,G,?_,PySem.W.tail_of_in X j⟩;cases Hn with
  |none=>exact PySem.W.ns_none_of X G HG
  |some v=>
   obtain⟨o,es,u,f,g,_,n⟩:=G;unfold PySem.W.nsIn at HG;split at HG
   .rename_i c d P4 n' sl a;have z:=X _ _ a;rw[f]at z;cases z;cases g;split at HG
    .rename_i e he;rw[<- n];unfold nsFind findBy;rw[<- ZKK,he]
     simpa using HG
    .split at HG <;> cases HG
   .cases HG
theorem CL.there{P:Program}(x:CL P w H h a o):∃u,h.get? a=some u:=by
 induction o with
 |lst xs=>obtain⟨_,_,_,_,e⟩:=x;exact⟨_,e⟩
 |tup xs=>obtain⟨_,_,_,⟨_,e,_⟩,_⟩:=x;exact⟨_,e⟩
 |dK A8=>obtain⟨_,_,_,_,_,_,_,e,_⟩:=x;exact⟨_,e⟩
 |dT A8=>obtain⟨_,_,_,_,_,_,_,e,_⟩:=x;exact⟨_,e⟩
 |set S n=>obtain⟨_,_,_,_,e,_⟩:=x;exact⟨_,e⟩
 |ins C dx fs=>obtain⟨_,_,_,e,_⟩:=x;exact⟨_,e⟩
 |own y=>exact x
 |xd fs=>obtain⟨_,⟨_,_,_,e,_⟩,_⟩:=x;exact⟨_,e⟩
 |met f y=>exact⟨_,x⟩
 |Mp lo hi=>obtain⟨_,_,_,e⟩:=x;exact⟨_,e⟩
 |GK ob u _=>exact⟨_,x.1⟩
 |LX ps=>exact⟨_,x⟩
 |ext φ=>exact x.2.1
theorem Bz.there{P:Program}(x:Bz P w H h)(e:H a=some o):∃u,h.get? a=some u:=(x a o e).there
section
variable{t:TA}{E:XK}
def aM(C:Addr)(E:St->XK)(t:TA):TS:=λ_ O H=>t O H λvs H1=>vs.length<=1000/\E O (.ref C) none H1
def Goes(X:Cx)(E:St->XK):Prop:=∀(Zd:ZLa)(O:St)(H':Hp)(s':Shared)(ea C:Addr)(dx tb:Option Addr),Inv X Zd O H' s'->Gn s'.heap ea (.ref C) dx tb->(H' ea=none/\X.s₀.heap.get? ea=none)->(∀T,tb=some T->H' T=none/\X.s₀.heap.get? T=none)->
 (∀p∈X.pn++Zd,p.1≠ea/\tb≠some p.1)->E O (.ref C) dx H'->X.xe (.ref ea) s'
end
abbrev KC(C t:Addr)(dx:Option Addr):Obj:={ cls:=.ref C,dict:=dx,data:=.fields #[.ref t,.none,.none,.none,.bool false,.none] }
section
variable{nm qn:Str}{N:Addr}{bs bm:List Value}{sub:List Value}{col:Option Bool}{k0 k1 k2 k3 k5:Option Value}{newId:String}
theorem ZJ8{y:Sem Value}{Q:Flow->Shared->Prop}(e:bm.contains (.type "BaseException")=true)(hh:A.handled=none)
  (c:wpAny M A y (λv z=>∃ea t dx,v=.ref ea/\z.heap.get? C=some (excClassObj nm qn C N bs bm hdct sn sub ab col dd k0 k1 k2 k3 k5 newId)/\z.heap.get? ea=some (KC C t dx)/\E (.ref ea) z) E s) :
  wpAny M A (raiseStmt env (some y) none) Q E s:=by
 have h:(Value.ref C::bm).contains (.type "BaseException")=true:=by
  rw[ZKS,e,qg]
 unfold raiseStmt;refine ra (vo c (λv z b=>?_) λ_ _ q=>q);obtain⟨ea,t,dx,rfl,a,oe,f⟩:=b;obtain⟨i,g,d,tk,os⟩:=z
 repeat (first
  |with_reducible refine ZAH oe ?_
  |with_reducible refine ZAH a ?_
  | (with_reducible refine wpAny_isSubtype_exc a ?_;rw[h])
  |wp_step)
 exact wpAny_raiseNew_none hh f
variable{g:Array GenState}{d:Drawn}{t:Nat}{os:OsState}{B mJ:String}
theorem ZI1(F:ExcBaseFacts B newId mJ UP)(T:OwnTail h UP bm){Q:PySem.Fin->Shared->Prop}
  (c:h.get? C=some (excClassObj nm qn C N bs bm hdct sn sub ab col dd k0 k1 k2 k3 k5 newId)) (s:h.Ns N mN) (hi:mN "__init__"=some (.ref fI)) (z:h.get? fI=some oI) (YH:oI.cls=.type "function") (KP:us.length<=sizeLine)
  (p:∀h' ea,h.objs.size<=ea->Heap.MadeExcOf h h' ea (.ref C) us->wpAny (model prog w) A (call (.ref fI) (.ref ea::us)) (λr s'=>r=.none/\Q (.done (.ret (.ref ea))) s') E ⟨h',g,d,t,os⟩) :
  wpAny (model prog w) A (Builtin.«type.__call__» ⟨.ref C::us,[]⟩) Q E ⟨h,g,d,t,os⟩:=by
 repeat (first
  |with_reducible refine ZAH c ?_
  |with_reducible refine wpAny_madeBy_exc c ?_
  |wp_step)
 refine codeAny_call_builtin_code (Code.quiet_builtin _ F.quiet) (wpAny_check_new_subT F T c ?_);refine codeAny_exc_new_subT F T c ?_ KP;show wpAny _ _ _ _ _ _;generalize l:({ cls:=.type "tuple", data:=.seq us.toArray }:Obj)=o1;generalize i:({ cls:=.ref C,data:=.fields #[.ref h.objs.size,.none,.none,.none,.bool false,.none] }:Obj)=o2;have a:∀{b:Addr}{o:Obj},h.get? b=some o->((h.push o1).push o2).get? b=some o:=λe=>Bo _ (Bo _ e);have k:((h.push o1).push o2).get? (h.objs.size+1)=some o2:=by
  rw[<- Iq h o1];exact CY _ (by rw[<- i];rfl)
 have x:((h.push o1).push o2).get? h.objs.size=some o1:=Bo _ (CY h (by rw[<- l];rfl));have m:((h.push o1).push o2).Ns N mN:=s.keeps λb o e=>a e;have j:=a c;have f:=a z;have D:=T.keeps (h':=(h.push o1).push o2) λb o e=>a e;have y:(Value.ref C::bm).contains (.ref C)=true:=by simp
 have G:o2.cls=.ref C:=by rw[<- i]
 unfold isInstance;subst i
 repeat (first
  |with_reducible refine ZAH k ?_
  | (with_reducible refine wpAny_isSubtype_exc j ?_;rw[y])
  |wp_step)
 show wpAny _ _ (typeLookup (.ref C) _) _ _ _;refine wpAny_typeLookup_tail j m D F.mroIs F.init.lookup ?_;rw[hi];refine y2 (ra ?_);unfold bindSpecial;refine ra (wpAny_typeOf (T:="function") ⟨_,f,YH⟩ ?_);rw[u4 (by decide)];subst l;refine uz (ra (vo (p _ (h.objs.size+1) (JW _) ⟨λb o u=>a u,SU (JW _),h.objs.size,k,SU (B0 _),x⟩) (λr s' n=>?_) λ_ _ q=>q));obtain⟨rfl,v⟩:=n
 wp_walk
 exact v
theorem ZG7(F:ExcBaseFacts B newId mJ UP)(T:OwnTail h UP bm)
  (a:h.get? C=some (excClassObj nm qn C N bs bm hdct sn sub ab col dd k0 k1 k2 k3 k5 newId)) (c:h.Ns N mN) (hi:mN "__init__"=some (.ref fI)) (e:h.get? fI=some oI) (YH:oI.cls=.type "function") (KP:us.length<=sizeLine)
  (b:∀h' ea,h.objs.size<=ea->Heap.MadeExcOf h h' ea (.ref C) us->wpAny (model prog w) (A.under (.builtin "type.__call__" ⟨.ref C::us,[]⟩)) (call (.ref fI) (.ref ea::us)) (λr s'=>r=.none/\Q (.ref ea) s') E ⟨h',g,d,t,os⟩) :
  wpAny (model prog w) A (call (.ref C) us) Q E ⟨h,g,d,t,os⟩:=by
 have i:=tc_lookup;have f:=tc_bind (.ref C);have ty:(⟨h,g,d,t,os⟩:Shared).TypeIs (.ref C) "type" := ⟨_,a,rfl⟩;refine ZAJ (codeAny_of_tree ?_);show wpAny _ _ (callAny (.ref C) _) _ _ _
 repeat (any_goals (first
  |assumption
  |with_reducible refine ZAH a ?_
  |wp_step))
 refine⟨rfl,?_⟩;exact codeAny_call_builtin_at (Code.quiet_builtin _ (by decide+kernel)) entry_typeCall (wpAny_check_type_call_sub a (ZI1 F T a c hi e YH KP b))
end
section
variable{K:ZLZ}{x t:Addr}
noncomputable def bq:Value->Bool
 | .ref _=>true
 |_=>false
theorem vP{x:Value}(h:bq x=true):∃c,x=.ref c:=by
 cases x <;> first|exact⟨_,rfl⟩|cases h
def Q6(l:List Value):Bool:=l.dropWhile bq == [.type "ValueError",.type "Exception",.type "BaseException",.type "object"]
theorem ZBA(self:Value):PySem.refuseLoop self "__setattr__" [.type "ValueError",.type "Exception",.type "BaseException",.type "object"]=pure ():=by
 first|rfl|kernel_rfl
theorem gG{l:List Value}(h:Q6 l=true):l=[.type "ValueError",.type "Exception",.type "BaseException",.type "object"]∨∃c r,l=.ref c::r/\Q6 r=true:=by
 have e:=eq_of_beq h;cases l with
 |nil=>cases e
 |cons x r=>
  cases q:bq x with
  |true=>obtain⟨c,rfl⟩:=vP q;exact .inr ⟨c,r,rfl,h⟩
  |false=>rw[List.dropWhile_cons,q,tK C9]at e;exact .inl e
theorem ZHU(self:Value):∀{l:List Value},Q6 l=true->PySem.refuseLoop self "__setattr__" l=pure ():=by
 intro l
 induction l with
 |nil=>intro h;cases h
 |cons x r a=>
  intro h;rcases gG h with e|⟨c,r',e,h'⟩
  .rw[e];exact ZBA self
  .cases e;rw[PySem.refuseLoop_ref];exact a h'
theorem xW:∀{l:List Value},Q6 l=true->l.contains (.type "object")=true:=by
 intro l
 induction l with
 |nil=>intro h;cases h
 |cons x r a=>
  intro h;rcases gG h with e|⟨c,r',e,h'⟩
  .rw[e];decide
  .cases e;rw[ZKS,a h',qg]
def Rm(K:ZLZ)(C:Addr):Bool:=(PySem.W.clsIn K C).any λcd=>Q6 cd.mro
section
open PySem.Builtin PySem.Builtin.ObjectAttr
theorem x9{R:Result->Shared->Prop}(X:K.In s.heap)(I:PySem.W.InstAt s.heap x ox C od)(m:Rm K C=true)(l:PySem.W.takerIn K C name=some r)
  (h:∀b,wpAny (model prog w) A.in1 (match r with|some a=>setByDescriptor a (.ref x) v|none=>storeInOwnDict (.ref x) (.ref C) (.str name tk) name v b)
   (λg s'=>match g with | .done f=>R (.ok f) s' | .again k=>k.quiet=true/\codeAny (model prog w) A k R s') (λe s'=>R (.error e) s') s) :
  codeAny (model prog w) A (.call (.builtin "object.__setattr__") ⟨[.ref x,.str name tk,v],[]⟩) R s:=by
 have d:=PySem.F.store_object;obtain⟨cd,j,ho⟩:=Wf m;have ne:cd.mro.isEmpty=false:=by cases q:cd.mro with|nil=>rw[q]at ho;cases ho|cons _ _=>rfl
 have sub:PySem.W.Looks (model prog w) s.heap (isInstance (.ref x) (.type "object")) true:=I.type.andThen (ZKx X (by unfold PySem.W.mroIn;rw[j,rO,tK (by rw[ne];decide),xW ho]));refine ZAM d.slot.plain d.entry (@PySem.W.check_slot (model prog w) _ _ s "object.__setattr__" "object" "__setattr__" (.ref x) [.str name tk,v] [] _ d.kind d.split sub (d.args (.ref x) (.str name tk) v) ?_);obtain⟨c,p,i⟩:=Option.bind_eq_some_iff.mp l;have n:PySem.W.Looks (model prog w) s.heap (mroOf (.ref C)) cd.mro:=(rX X j).andThen .now;have t:PySem.W.Looks (model prog w) s.heap (storeTaker? c) r:=by
  cases c with
  |none=>cases i;exact .now
  |some a=>
   obtain⟨b,o,rfl⟩:=Option.map_eq_some_iff.mp i;refine(PySem.W.looks_takesIn X o).andThen ?_;cases b <;> exact .now
 rw[PySem.W.osa_eq,PySem.refuse_eq];refine ra (ra (I.type.here (ra (n.here ?_))));rw[ZHU _ ho];refine uz (ra (I.type.here (ra ((eF X p).here (ra (t.here ?_))))));exact h _
end
theorem ZHy(h:Heap):(h.push { cls:=.type "dict", data:=.dict #[] }).Ns1 h.objs.size (λ_=>none):=by
 refine⟨_,#[],_,CY h rfl,rfl,?_⟩;refine⟨λe a=>?_,?_,λ_=>rfl⟩
 .simp at a
 .simp[UniqKeys]
theorem yV{Q:Unit->Shared->Prop}(X:K.In s.heap)(ho:s.heap.get? x=some (KC C t none))
  (j:PySem.W.findIn K (.ref C) "__setattr__"=some (some (.builtin "object.__setattr__"))) (k:Rm K C=true) (i:PySem.W.takerIn K C name=some none) (hh:PySem.W.hasDictIn K C=true)
  (h:∀h' d,s.heap.objs.size<=d->h'.get? x=some (KC C t (some d))->h'.Ns1 d (λy=>if y=name then some v else none)->(∀b o,b≠x->s.heap.get? b=some o->h'.get? b=some o)->s.heap.objs.size<=h'.objs.size->Q () { s with heap:=h',toks:=s.toks+2 }) :
  wpAny (model prog w) A (setAttr (.ref x) name v) Q E s:=by
 have J:PySem.W.InstAt s.heap x (KC C t none) C none:=⟨ho,rfl,rfl,trivial⟩;refine ZKy X J j (x9 (s:={ s with toks:=s.toks+1 }) (r:=none) X J k i λb=>?_)
 obtain⟨cd,l,Q5⟩:=Wf hh;refine ra (uz (ra (ra (ZAu ho (ra (ZKq (s:={ s with toks:=s.toks+1 }) (rX X l) ?_))))))
 rw[Q5,tK (by decide)];show wpAny _ _ (do
  let d <- alloc { cls:=Value.type "dict", data:=Data.dict #[] }
  update x λo=>{ o with dict:=some d }
  dictMade (Value.ref C) x d) _ _ _
 have f:x<s.heap.objs.size:=BE ho;refine ra (wpAny_alloc (ra (wpAny_update (Bo _ ho) ?_)));refine ra (uz (uz ?_));generalize a:((s.heap.push { cls:=Value.type "dict", data:=Data.dict #[] }).update x λo=>{ o with dict:=some s.heap.objs.size })=g
 have n:g.get? x=some (KC C t (some s.heap.objs.size)):=by
  rw[<- a];exact JT _ (Bo _ ho) rfl
 have q:∀b o,b≠x->s.heap.get? b=some o->g.get? b=some o:=λb o c e=>by
  rw[<- a,Fg _ _ (BO c)];exact Bo _ e
 have m:g.objs.size=s.heap.objs.size+1:=by rw[<- a,WO,Iq]
 have p:g.Ns1 s.heap.objs.size (λ_=>none):=(ZHy s.heap).at λo e=>by
  rw[<- a,Fg _ _ (Cn f)];exact e
 refine ra (uz (ra ?_));refine wpAny_nsSet1 (s:=⟨g,s.gens,s.drawn,s.toks+1,s.os⟩) p λh' Ea Cg=>?_;obtain⟨D,u,z,B,YN,IF⟩:=Ea.count (ZKz (ns:=[]) name v PySem.Within.nil);refine ra (wpAny_lookBehind B (by rw[YN];exact pastItsLine_dict (CB IF (ZKk (Cf _)))) ?_);exact uz (h h' s.heap.objs.size (B0 _) ((Cg.2 x (Cn f)).trans n) Ea (λb o c e=>(Cg.2 b (Cn (BE e))).trans (q b o c e)) (by rw[Cg.1,m];exact JW _))
end
def Fm(ea C:Addr)(dx:Option Addr):HO:=.ext λh=>∃t,h.get? ea=some (KC C t dx)
theorem Y8{P:Program}{t:Addr}(e:h.get? ea=some (KC C t dx)):CL P w H h ea (Fm ea C dx):=
 ⟨⟨t,e⟩,⟨_,e⟩,λ_ _⟨t',a⟩k=>⟨t',k _ a⟩⟩
theorem Inv.exc(I:Inv X Zd O H s)(e:H ea=some (Fm ea C dx)):∃t,s.heap.get? ea=some (KC C t dx):=(I.AJ ea _ e).1
theorem Inv.ZGR{t:Addr}{dx':Option Addr}(I:Inv X Zd O H s)(e:H ea=some (Fm ea C dx))(k:∀b u,b≠ea->s.heap.get? b=some u->h'.get? b=some u)(a:h'.get? ea=some (KC C t dx')):
  Inv X Zd O (upd H ea (Fm ea C dx')) { s with heap:=h',toks:=t' }:=by
 have c:Nl (H ea):=by rw[e];trivial
 exact I.write c (.inl rfl) k ⟨_,a⟩ (Y8 a)
def Su:V->Prop
 | .str x=>(reprText x).length<=100000
 | .int i=>i.natAbs.log2<1920
 |_=>False
section
variable{p1 p2 p3:Pos}{k1 k2:Nat}{c1 c2:Str}
theorem ZDj{R:St->Hp->Prop}(f:PE X e te)(I:Inv X Zd O H s)(h:te O H λv H1=>Su v/\R O H1)
  (b:∀y t c H1,y.length<=200000->Inv X Zd O H1 c->R O H1->Q (.str y t) c):Zq2 X (eval (.FormattedValue e 114 none pos) X.env) Q X.xe s:=by
 refine wpAny_FormattedValue_repr (f.k I h λu c v H1 I1 d⟨sv,a⟩=>?_);cases v with
 |str x=>
  obtain⟨t,rfl⟩:=d;have sz:(reprText x).length<=sizeLine:=CB sv (by decide+kernel);refine wpAny_pyReprObj_str ?_ sz;refine wpAny_formatField_str ?_ ?_ sz
  .exact b _ _ _ H1 (CB sv (by decide)) (I1.tok _) a
  .exact b _ _ _ H1 (CB sv (by decide)) (I1.tok _) a
 |int i=>
  obtain⟨t,rfl⟩:=d;have l1:(Str.ofString (toString i)).length<=sizeLine:=int_text_fits sv;have g:i.natAbs.log2<1920:=sv;have l2:(Str.ofString (toString i)).length<=200000:=by
   have h1:i.natAbs<10 ^ 600:=by
    by_cases z:i.natAbs=0
    .rw[z];decide +kernel
    .exact rL ((Nat.log2_lt z).mp g) (by decide+kernel)
   have e:=int_text_length_le10 (k:=600) (by decide) h1;clear h1;rw[PySem.ofString_length];omega
  refine wpAny_pyReprObj_gives (typeIs_int _ i t) F.slot_int_repr F.entry_int_repr (F.args_int_repr_1 _) (gives_int_repr i t sv) ?_ rfl l1;refine wpAny_formatField_str ?_ ?_ l1
  .exact b _ _ _ H1 l2 (I1.tok _) a
  .exact b _ _ _ H1 l2 (I1.tok _) a
 |_=>exact sv.elim
def nE(te:TE):TE:=λO H Q=>te O H λv H1=>Su v/\∀y,Q (.str y) H1
theorem len_app(a b:Str):(a++b).length=a.length+b.length:=strLen_append a b
theorem fV(b:PE X e te)(h1:c1.length<=1000):PE X (.JoinedStr [.Constant (.str c1) k1 p1,.FormattedValue e 114 none p2] pos) (nE te):=by
 intro Zd s O H Q I h;have a:(Str.empty++c1).length<=1000:=by rw[len_app];show 0+_<=_;omega
 refine wpAny_JoinedStr (show wpAny _ _ (eval (.Constant (.str c1) k1 p1) X.env) _ _ s from λ_ _ _=>⟨c1,_,rfl,CB a (by decide+kernel),?_⟩);refine ZDj (R:=λ_ H1=>∀y,Q (.str y) H1) b (I.tok _) h λy t d H1 f I1 c=>⟨y,t,rfl,?_,?_,?_⟩
 .rw[len_app];exact CB (show _<=201000 by omega) (by decide+kernel)
 .rw[len_app];exact CB (show _<=201000 by omega) (by decide+kernel)
 .exact⟨.str _,H1,I1.tok _,⟨_,rfl⟩,c _⟩
end
structure aF (K:ZLZ) (S:Addr):Prop where
 ga:PySem.W.specialIn K (.ref S) "__getattribute__"=some (some (.builtin "type.__getattribute__"))
 rd:PySem.W.readsIn K S (.type "type")=true
 fd:PySem.W.findCls K (.ref S) (.type "type") "__init__"=some (.val (.builtin "ValueError.__init__"))
 hd:PySem.W.handedIn (.builtin "ValueError.__init__")=true
structure Nr (K:ZLZ) (C fI:Addr) (fld:Str):Prop where
 ex:Hj K C (some (.ref fI))=true
 sa:PySem.W.findIn K (.ref C) "__setattr__"=some (some (.builtin "object.__setattr__"))
 po:Rm K C=true
 tk:PySem.W.takerIn K C fld=some none
 hd:PySem.W.hasDictIn K C=true
 fn:PySem.W.isFn K (.ref fI)=true
 kp:PySem.W.keepIn K (.ref C)=true
theorem p4{x:V}{xs:List V}(r:Vals (x::xs) us):∃u us',us=u::us'/\RelV x u/\Vals xs us':=by
 cases r with
 |cons a b=>exact⟨_,_,rfl,a,b⟩
theorem xM(h:H a=some o):upd H a o=H:=by
 funext b
 unfold upd;split
 .rename_i e;rw[e,h]
 .rfl
section
variable{fld:Str}
theorem ZFx{t:Addr}(I:Inv X Zd O H s)(hx:H ea=some (Fm ea C none))(q:Hj X.K C Hn=true)
  (i:∀s',Inv X Zd O H s'->Q .none s'):Zq2 X (call (.builtin "ValueError.__init__") [.ref ea,u]) Q X.xe s:=by
 obtain⟨l,ho⟩:=I.exc hx;obtain⟨bm,N,nm,qn,bs,hdct,sn,sub,ab,col,dd,k0,k1,k2,k3,k5,mN,j,m,HG,T⟩:=(QV I.Bw q).obj;have F:=rQ;have n:H C=none:=by
  cases z:X.base.get? C with
  |some o=>exact(I.bs C o z).2
  |none=>
   obtain⟨_,_,_,_,_,_,_,_,_,_,_,_,_,_,_,_,_,c,_⟩:=(QV I.mod.JQ q).obj;rw[z]at c;cases c
 obtain⟨a,g,d,tk,os⟩:=s;refine ZAJ (ZAM F.init.plain F.initEntry (wpAny_check_init_subT F T j ho rfl ?_))
 wp_walk
 refine i _ ?_;have f:=I.ZGR (h':=(a.push { cls:=Value.type "tuple", data:=Data.seq #[u] }).update ea (Obj.mapFields λx=>x.setIfInBounds 0 (Value.ref a.objs.size))) (t':=tk) (t:=a.objs.size) (dx':=none) hx (λb k h e=>by
  rw[Fg _ _ (BO h)];exact Bo _ e) (by
  rw[JT _ (Bo _ ho) rfl];rfl)
 rw[xM hx]at f;exact f
def iu(C:Addr)(t:TA):TE:=λO H Q=>t O H λvs H1=>∃ea v,vs=[.ref ea,v]/\H1 ea=some (Fm ea C none)/\Q .AA H1
theorem iC{pl:Sem Bool}{apos:Pos}{t:TA}(sp:aF X.K S)(l:Gl X x)(k:X.mg x=some (.ref S))(q:Hj X.K C Hn=true)(m:PA X (e::es) t)
  (BY:Zq0 x:=by decide) (Ci:Cp X e es:=by rfl) (BS:BEq X pos es:=by rfl)
  (ht:eval (.Call (.Attribute (.Name x p) "__init__" apos) (e::es) [] pos) X.env=(do
   let ov <- eval (.Name x p) X.env
   standAt apos.atName
   let (f,first) <- holding [ov] (getMethod ov "__init__" pl)
   callWith pos f first (backTo pos (starEach (e::es) X.env)) (backToKw pos (keywordEach [] X.env))):=by rfl) :
  PE X (.Call (.Attribute (.Name x p) "__init__" apos) (e::es) [] pos) (iu C t):=by
 intro Zd s O H Q I h;refine rY (pl:=pl) (Kt I l k ?_ BY) ht;refine PySem.W.method_cls I.Bw sp.ga (PySem.W.cls_value I.Bw sp.rd sp.fd sp.hd ?_);have a:=m pos Zd { s with toks:=s.toks+1 } O H _ (I.tok _) h
 show wpAny _ _ (callWith pos (.builtin "ValueError.__init__") [] (backTo pos (starEach (e::es) X.env)) _) _ _ _;rw[Ci]at a ⊢;refine qk (by show(false || (backTo pos (starEach es X.env)).any (·.1))=false;rw[BS] <;> rfl) (ql ?_)
 refine Ay a λus s2⟨vs,H2,I2,j,ea,v,o,hx,n⟩=>?_;subst o;obtain⟨u1,c,rfl,d,i⟩:=p4 j;obtain⟨u2,b,rfl,r,g⟩:=p4 i;cases g;cases(show u1=Value.ref ea from d);exact ZFx (t:=ea) I2 hx q λs' I'=>⟨.AA,H2,I',rfl,n⟩
def i3(C:Addr)(f:Str)(ta tv:TE):TS:=λD O H=>tv O H λy H1=>ta O H1 λx H2=>∃ea,x=.ref ea/\H2 ea=some (Fm ea C none)/\∀d,H2 d=none->D.nx O (upd (upd H2 d (.xd [(f,y)])) ea (Fm ea C (some d)))
theorem kX{o value:Expr}{pos':Pos}{tv:TE}(c:Nr X.K C fI fld)(F:PE X o ta)(w:PE X value tv)(B:swapsWith value (some (.Attribute o fld pos')) pos.line X.env=pure false):PS X (.Assign [.Attribute o fld pos'] value pos) (i3 C fld ta tv):=by
 intro Zd s O H D I h;refine ZAf (w.k I h λu J y H1 I1 p q=>F.k I1 q λv s2 x H2 I2 r⟨ea,ex,hx,t⟩=>?_) B;subst ex;obtain rfl:v=Value.ref ea:=r;obtain⟨G,ho⟩:=I2.exc hx;refine yV I2.Bw ho c.sa c.po c.tk c.hd λh' d hd l E k L=>?_;have f:H2 d=none:=I2.AJ.fresh hd;have M:d≠ea:=by rintro rfl;rw[hx]at f;cases f
 refine⟨O,_,I2.un (t':=s2.toks+2) (h':=h') ⟨λb o e n _ _=>k b o (by rintro rfl;rw[hx]at n;cases n) e,λb o e n _ _=>⟨o.slots,k b o (by rintro rfl;rw[hx]at n;cases n) e⟩,λb o e n _=>?_,λb o e _=>?_,λb xs e=>?_,λb o' j e=>?_,λb ps e=>?_⟩ ?_,t d f⟩
 .rw[AW (by rintro rfl;rw[hx]at n;cases n),AW (by rintro rfl;exact absurd (BE e) (Nat.not_lt.mpr hd))];exact n
 .by_cases z:b=ea
  .subst z;exact⟨_,l⟩
  .exact⟨o,k b o z e⟩
 .rw[AW (by rintro rfl;rw[hx]at e;cases e),AW (D7 e f)];exact e
 .rw[AW (by rintro rfl;rw[hx]at e;cases e),AW (D7 e f)];exact e
 .exact⟨#[],by rw[AW (by rintro rfl;rw[hx]at e;cases e),AW (D7 e f),e];simp⟩
 .intro b o e
  by_cases z:b=ea
  .subst z;rw[B3]at e;cases e;exact Y8 l
  .rw[AW z]at e
   by_cases i:b=d
   .subst i;rw[B3]at e;cases e;refine⟨_,E,λm=>?_⟩
    by_cases g:m=fld
    .subst g;rw[u4 rfl,ZKd];exact p
    .rw[tK g,Hs];rw[show(m == fld)=false from by simpa using g]
     exact trivial
   .rw[AW i]at e;refine(I2.AJ b o e).HQ (λc j a A=>k c j ?_ A) (λc a=>?_) λc xs a=>?_
    .rcases a with rfl|a
     .exact z
     .rintro rfl;rw[hx]at a;cases a
    .rw[AW (by rintro rfl;rw[hx]at a;cases a),AW (D7 a f)];exact a
    .rw[AW (by rintro rfl;rw[hx]at a;cases a),AW (D7 a f)];exact a
end
def Pd(C:Addr)(fld:Str):Sp:=λvs H Q _=>∃(ea:Addr)(v:V),vs=[.ref ea,v]/\Su v/\H ea=some (Fm ea C none)/\∀d,H d=none->Q .AA (upd (upd H d (.xd [(fld,v)])) ea (Fm ea C (some d)))
def Us(C:Addr)(fld:Str)(E:St->XK)(t:TA):TS:=λ_ O H=>t O H λvs H1=>∃v,vs=[v]/\Su v/\∀d,H1 d=none->E O (.ref C) (some d) (upd H1 d (.xd [(fld,v)]))
def Nx(H:Hp)(a:Addr):Hp:=λb=>if b=a then none else H b
theorem VW(h:b≠a):Nx H a b=H b:=tK h
theorem bh:Nx H a a=none:=u4 rfl
section
theorem Inv.forget(I:Inv X Zd O H s){φ:Heap->Prop}(e:H a=some (.ext φ))(k:∀p∈X.pn++Zd,p.1≠a):Inv X Zd O (Nx H a) s:=by
 have keep:∀b o,b≠a->H b=o->Nx H a b=o:=λb o h q=>by rw[VW h];exact q
 have f:∀b,H b=none->Nx H a b=none:=λb q=>by
  by_cases z:b=a
  .subst z;exact bh
  .rw[VW z];exact q
 refine⟨I.ok,I.os,I.bare,⟨I.base.keep,I.base.slot,λb o q n hx=>f b (I.base.free b o q n hx),I.base.there,λb xs q=>?_,λb o u q=>?_,λb ps q=>?_⟩,I.loc,I.cell,f _ I.free,λx c q=>f c (I.Eu x c q),λp FI=>?_,λb o q=>?_,I.len⟩
 .have z:=I.base.HB b xs q;exact keep b _ (by rintro rfl;rw[e]at z;cases z) z
 .have z:=I.base.Ge b o u q;exact keep b _ (by rintro rfl;rw[e]at z;cases z) z
 .obtain⟨m,z⟩:=I.base.Gs b ps q;exact⟨m,keep b _ (by rintro rfl;rw[e]at z;cases z) z⟩
 .obtain⟨h1,h2,j⟩:=I.pin p FI;exact⟨h1,f _ h2,j⟩
 .have i:b≠a:=by rintro rfl;rw[bh]at q;cases q
  rw[VW i]at q;refine(I.AJ b o q).HQ (λc u _ g=>g) (λc d=>keep c _ (by rintro rfl;rw[e]at d;cases d) d) λc xs d=>keep c _ (by rintro rfl;rw[e]at d;cases d) d
variable{fld:Str}{t:TA}
end
section
variable{C:Value}
theorem Inv.eX(I:Inv X Zd O H s)(Ci:X.stack=X.env::X.outer)(x:Gn s.heap ea C dx tb)(u1:H ea=none)(u2:X.s₀.heap.get? ea=none)(j:∀T,tb=some T->H T=none/\X.s₀.heap.get? T=none)
  (E:∀p∈X.pn++Zd,p.1≠ea/\tb≠some p.1)(kp:Kp (X.env::X.outer) ea tb s.heap h'):Inv X Zd O H { s with heap:=h' }:=by
 obtain⟨oe,vs,N,_,_,J,_⟩:=x.obj;have mem:∀b,b∈Cr (X.env::X.outer)->b=X.env.locals∨b∈X.fs:=λb a=>by
  rw[<- Ci]at a;exact List.mem_cons.mp (I.RE b a)
 have A:∀b,b=X.env.locals∨b∈X.fs->b∈Cr (X.env::X.outer):=λb a=>by
  have d:X.env.frame=some X.env.locals:=by
   rcases I.ok.K5 with e|⟨_,d⟩
   .rw[e]at Ci;exact absurd (wH List.length Ci) (by simp)
   .exact d
  unfold Cr;rw[WR,d];rcases a with rfl|a
  .exact Fh
  .exact E2 _ a
 have g:∀b o,s.heap.get? b=some o->(∀vs,o.data≠.fields vs)->∃h,h'.get? b=some { o with slots:=h }:=λb o a hd=>by
  by_cases d:b∈Cr (X.env::X.outer)
  .exact kp.slot b o a d
  .refine⟨o.slots,kp.keep b o a d (by rintro rfl;rw[N]at a;cases a;exact hd _ J) λz=>?_⟩;obtain⟨_,R,ts,σ,IK,_⟩:=x.ent b z;rw[σ]at a;cases a;exact hd _ IK
 have l:∀b o,s.heap.get? b=some o->H b≠none->h'.get? b=some o:=λb o a f=>kp.keep b o a (λz=>f (I.U5 b (by rw[Ci];exact z))) (λz=>f (z▸u1)) λz=>f (j b z).1;have n:∀b o,X.s₀.heap.get? b=some o->b≠X.env.locals:=λb o a z=>absurd (BE a) (Nat.not_lt.mpr (z▸I.ok.above));have D:∀c v,s.heap.IsCell c v->h'.IsCell c v:=λc v AO=>by
  obtain⟨o,ho,hd⟩:=AO;obtain⟨h,h1⟩:=g c o ho (by rw[hd];intro vs z;cases z);exact⟨_,h1,hd⟩
 refine⟨I.ok,I.os,I.bare,⟨λb o a f d hx=>?_,λb o a f d hx=>?_,I.base.free,λb o a hx=>?_,I.base.HB,I.base.Ge,I.base.Gs⟩,?_,λy c q=>?_,I.free,I.Eu,λp FI=>?_,I.AJ.jr λb u f a=>l b u a f,I.len⟩
 .exact kp.keep b o (I.base.keep b o a f d hx) (λz=>(mem b z).elim (n b o a) d) (by rintro rfl;rw[u2]at a;cases a) λz=>by rw[(j b z).2]at a;cases a
 .obtain⟨h,h1⟩:=I.base.slot b o a f d hx;obtain⟨Jr,h2⟩:=kp.slot b _ h1 (A b (.inr d));exact⟨Jr,h2⟩
 .obtain⟨B,h1⟩:=I.base.there b o a hx
  by_cases d:b∈Cr (X.env::X.outer)
  .obtain⟨Jr,h2⟩:=kp.slot b _ h1 d;exact⟨_,h2⟩
  .exact⟨B,kp.keep b B h1 d (by rintro rfl;rw[u2]at a;cases a) λz=>by rw[(j b z).2]at a;cases a⟩
 .obtain⟨m,⟨o,es,Q,ho,r⟩,M⟩:=I.loc;obtain⟨h,h1⟩:=kp.slot _ _ ho (A _ (.inl rfl));refine⟨m,⟨_,es,Q,h1,r⟩,λi y v hi w L=>?_⟩;obtain⟨u,K,t⟩:=M i y v hi w L;refine⟨u,K,?_⟩;rcases t with t|⟨k,c,hc,ic⟩
  .exact .inl t
  .exact .inr ⟨k,c,hc,D c _ ic⟩
 .obtain⟨v,w⟩:=I.cell y c q;exact⟨v,D c v w⟩
 .obtain⟨h1,h2,G,F,P⟩:=I.pin p FI;exact⟨kp.keep _ _ h1 (λz=>(mem _ z).elim G F) (E p FI).1 (E p FI).2,h2,G,F,P⟩
end
theorem Inv.unbind{Q:Unit->Shared->Prop}(I:Inv X Zd O H s)(G:X.N.Nodup)(g:X.N[j]?=some n)(hk:X.env.scope.names.lookup n=some .local)
  (h:∀s',Inv X Zd (O.set j none) H s'->Q () s'):wpAny M A (do bindName X.env n .none;unbindBehindTheSuite X.env n pos) Q E s:=by
 refine ra (wpAny_bindName (XD (v:=.AA) I G g (.inl hk) rfl (λY I1 _=>?_) (.inr hk)));unfold unbindBehindTheSuite;refine wpAny_onRaise ?_;obtain⟨m,D,F⟩:=id I1.loc;have U:(X.env.scope.kind == .class || (X.env.scope.kind == .module && X.env.locals != X.env.globals))=false:=by rw[I.ok.kind];rfl
 have hjσ:j<O.length:=by rw[I.len];exact(List.getElem?_eq_some_iff.mp g).1
 obtain⟨u,Z,P⟩:=F j n .AA g (DA hjσ) (.inl hk);have S:m n=some u:=by
  rcases P with⟨_,e⟩|⟨z,_⟩
  .exact e
  .have V:X.env.kindOf n=some .local:=hk;rw[V]at z;rcases z with z|z <;> cases z
 refine wpAny_unbindName_local hk D S U λh' W Jk f=>?_;obtain⟨oL,_,_,ia,_⟩:=id D;have HJ:=I1.HJ;have a:∀b o,X.s₀.heap.get? b=some o->b≠X.env.locals:=λb o r=>Cn (EE (BE r) I.ok.above);refine h _ ⟨I1.ok,I1.os,I1.bare,⟨λb o e n r hx=>(f.2 b (a b o e)).trans (I1.base.keep b o e n r hx),λb o e n r hx=>?_,I1.base.free,λb o e hx=>?_,I1.base.HB,I1.base.Ge,I1.base.Gs⟩,⟨_,Jk,λi y J l x T=>?_⟩,λy c e=>?_,I1.free,I1.Eu,λp R=>?_,λb ob e=>?_,by simpa using I.len⟩
 .obtain⟨K,l⟩:=I1.base.slot b o e n r hx;exact⟨K,(f.2 b (a b o e)).trans l⟩
 .obtain⟨o',l⟩:=I1.base.there b o e hx;exact⟨o',(f.2 b (a b o e)).trans l⟩
 .have B:i≠j:=by
   rintro rfl;rw[DA hjσ]at x;cases x
  rw[CZ (BO B)]at x;obtain⟨w,L,q⟩:=F i y J l (by rw[CZ (BO B)];exact x) T;refine⟨w,L,?_⟩;rcases q with⟨k,e⟩|⟨k,c,e,z⟩
  .refine .inl ⟨k,?_⟩;have:y≠n:=λe=>B (YQ G l (e▸g));simp[this,e]
  .exact .inr ⟨k,c,e,z.sameBut f (HJ y c e)⟩
 .obtain⟨C,z⟩:=I1.cell y c e;exact⟨C,z.sameBut f (HJ y c e)⟩
 .obtain⟨e,n,ne,σ,d⟩:=I1.pin p R;exact⟨(f.2 p.1 ne).trans e,n,ne,σ,d⟩
 .refine(I1.AJ b ob e).HQ (λc C t q=>(f.2 c ?_).trans q) (λ_ q=>q) λ_ _ q=>q;rintro rfl;have fr:=I1.free;rcases t with rfl|t
  .rw[fr]at e;cases e
  .rw[fr]at t;cases t
theorem Inv.v7(I:Inv X Zd O H s)(x:Gn s.heap ea (.ref C) dx tb)(u1:H ea=none)(u2:X.s₀.heap.get? ea=none)(i:∀p∈X.pn++Zd,p.1≠ea):Inv X Zd O (upd H ea (Fz.Ie ea C dx)) s:=by
 obtain⟨oe,vs,e,d,hd,Hz,_⟩:=x.obj;have f:X.env.locals≠ea:=λz=>by
  obtain⟨m,⟨o,es,t,ho,a,_⟩,_⟩:=I.loc;rw[z,e]at ho;cases ho;rw[Hz]at a;cases a
 have HJ:∀y c,X.env.cells.lookup y=some c->c≠ea:=λy c q z=>by
  obtain⟨v,o,ho,a⟩:=I.cell y c q;rw[z,e]at ho;cases ho;rw[Hz]at a;cases a
 have tr:∀b o,H b=some o->upd H ea (Fz.Ie ea C dx) b=some o:=λb o q=>by
  rw[AW (by rintro rfl;rw[u1]at q;cases q)];exact q
 refine⟨I.ok,I.os,I.bare,⟨I.base.keep,I.base.slot,λb o q n hx=>?_,I.base.there,λb xs q=>tr b _ (I.base.HB b xs q),λb o u q=>tr b _ (I.base.Ge b o u q),λb ps q=>?_⟩,I.loc,I.cell,?_,λy c q=>?_,λp FI=>?_,λb o q=>?_,I.len⟩
 .rw[AW (by rintro rfl;rw[u2]at q;cases q)];exact I.base.free b o q n hx
 .obtain⟨m,z⟩:=I.base.Gs b ps q;exact⟨m,tr b _ z⟩
 .rw[AW f];exact I.free
 .rw[AW (HJ y c q)];exact I.Eu y c q
 .obtain⟨h1,h2,j⟩:=I.pin p FI;exact⟨h1,by rw[AW (i p FI)];exact h2,j⟩
 .by_cases z:b=ea
  .subst z;rw[B3]at q;cases q;exact⟨⟨oe,vs,e,d,hd,Hz⟩,⟨_,e⟩,λ_ _⟨o',g,l,r⟩k=>⟨o',g,k _ l,r⟩⟩
  .rw[AW z]at q;exact(I.AJ b o q).HQ (λc u _ h=>h) (λc d=>tr c _ d) λc xs d=>tr c _ d
noncomputable abbrev Cx.Hg(X:Cx)(pn:ZLa)(xe:Value->Shared->Prop):Cx:={ X with pn:=pn,xe:=xe }
noncomputable abbrev Cx.Ed(X:Cx)(e:Value):Cx:={ X with A:=X.A.mark (some e),calm:=false,xe:=λ_ _=>False }
section
variable{fD:ZLa}{e:Value}
theorem Cx.Ok.Hg(ok:X.Ok):(X.Hg pn xe).Ok:=⟨ok.mod,ok.kind,ok.glob,ok.blt,ok.above,ok.inj,ok.has,ok.LZ,ok.hd,ok.frames,ok.K5,ok.MY,ok.bs,ok.Ho,ok.Kw,ok.LY,ok.GP,ok.Iy⟩
theorem Cx.Ok.MH(ok:(X.Hg pn xe).Ok):X.Ok:=⟨ok.mod,ok.kind,ok.glob,ok.blt,ok.above,ok.inj,ok.has,ok.LZ,ok.hd,ok.frames,ok.K5,ok.MY,ok.bs,ok.Ho,ok.Kw,ok.LY,ok.GP,ok.Iy⟩
theorem Cx.Ok.Ed(ok:X.Ok):(X.Ed e).Ok:=⟨ok.mod,ok.kind,ok.glob,ok.blt,ok.above,ok.inj,ok.has,ok.LZ,λz=>(by cases z),ok.frames,ok.K5,ok.MY,ok.bs,ok.Ho,ok.Kw,ok.LY,ok.GP,ok.Iy⟩
theorem Inv.Hg(I:Inv X Zd O H s):Inv (X.Hg (X.pn++Zd) xe) [] O H s:=⟨I.ok.Hg,I.os,I.bare,I.base,I.loc,I.cell,I.free,I.Eu,λp a=>I.pin p (by simpa using a),I.AJ,I.len⟩
theorem Inv.MH(I:Inv (X.Hg (X.pn++Zd) xe) fD O H s):Inv X Zd O H s:=⟨I.ok.MH,I.os,I.bare,I.base,I.loc,I.cell,I.free,I.Eu,λp a=>I.pin p (Gp _ a),I.AJ,I.len⟩
theorem Inv.Ed(I:Inv X Zd O H s):Inv (X.Ed e) Zd O H s:=⟨I.ok.Ed,I.os,I.bare,I.base,I.loc,I.cell,I.free,I.Eu,I.pin,I.AJ,I.len⟩
theorem Inv.VZ(ok:X.Ok)(I:Inv (X.Ed e) Zd O H s):Inv X Zd O H s:=⟨ok,I.os,I.bare,I.base,I.loc,I.cell,I.free,I.Eu,I.pin,I.AJ,I.len⟩
end
def Ends.drop(D:Ends)(j:Nat):Ends:=⟨λO H=>D.nx (O.set j none) H,D.rt,λO H=>D.bk (O.set j none) H,λO H=>D.ct (O.set j none) H⟩
def X2(K:ZLZ)(S:Addr)(j:Nat)(tb:(St->XK)->TS)(th:TS):TS:=λD O H=>∃E1:St->XK,tb E1 D O H/\
 ∀ σ1 C dx ea H1,E1 σ1 (.ref C) dx H1->H1 ea=none->PySem.W.exmOne K (.ref C) (.ref S)=some true/\th (D.drop j) (σ1.set j (some (.ref ea))) (upd H1 ea (Fz.Ie ea C dx))
def Rj(sp:Sp)(E:St->XK)(t:TA):TE:=λO H Q=>t O H λvs H1=>sp vs H1 Q (E O)
def Bs(P:Program)(w:World)(K:ZLZ)(mg:ZLb)(Zp:Heap)(x:Str)(k:Nat)(ps:List Str)(sp:Sp):Prop:=
 ∃f fd,CU P w K mg Zp (Gg P w) k f fd ps sp/\Binds K fd ps []/\PySem.W.keepIn K (.ref f)=true/\mg x=some (.ref f)
section
variable{P:Program}{K:ZLZ}{k:Nat}{st:Stmt}
theorem Bs.mk(F:AG K x qual st f fd)(b:Binds K fd ps [])(m:mg x=some (.ref f))(h:CU P w K mg Zp (Gg P w) k f fd ps sp):Bs P w K mg Zp x k ps sp:=⟨f,fd,h,b,F.kp,m⟩
variable{t:TA}{E:St->XK}
theorem Goes.ZFt(go:Goes X E)(i:∀b∈X.ex,∃p∈X.pn,p.1=b){e:Value}(I:Inv X Zd O H s)(h:Gg X.prog X.w X.stack H s (E O) e s'):X.xe e s':=by
 have DB:∀a,s.heap.get? a=none->X.s₀.heap.get? a=none:=λa j=>by
  cases q:X.s₀.heap.get? a with
  |none=>rfl
  |some o=>
   by_cases hx:a∈X.ex
   .obtain⟨p,c,rfl⟩:=i a hx;have h1:=(I.pin p (Gp _ c)).1;rw[j]at h1;cases h1
   .obtain⟨r,h1⟩:=I.base.there a o q hx;rw[j]at h1;cases h1
 obtain⟨ea,C,dx,tb,H',rfl,os,bare,un,AJ,x,⟨u1,u2⟩,f,l⟩:=h;obtain⟨hh,g,d,t,m⟩:=s';obtain rfl:m=s.os:=os;have n:=I.call (h':=hh) (g':=g) (d':=d) (t':=t) (ch:=[]) un AJ bare (λb z=>absurd z (by simp));refine go Zd O H' _ ea C dx tb n x ⟨u1,DB _ u2⟩ (λT k=>⟨(f T k).1,DB _ (f T k).2⟩) (λp c=>⟨λz=>?_,λz=>?_⟩) l
 .have:=(I.pin p c).1;rw[z,u2]at this;cases this
 .have:=(I.pin p c).1;rw[(f _ z).2]at this;cases this
theorem zW(a:X.ex=[]):∀b∈X.ex,∃p∈X.pn,p.1=b:=λb c=>by rw[a]at c;cases c
theorem yR(h:Bs X.prog X.w X.K X.mg X.base x k ps sp)(g:BP j X.A)(hk:k<=j)(go:Goes X E)(c:∀b∈X.ex,∃p∈X.pn,p.1=b)(n:PA X (e::es) t)(l:Gl X x:=by rfl)(BY:Zq0 x:=by decide)
  (he:Cp X e es:=by rfl) (BS:BEq X pos es:=by rfl) :
  PE X (.Call (.Name x p) (e::es) [] pos) (Rj sp E t):=by
 obtain⟨f,fd,F,b,kp,m⟩:=h;have F:=F.mono hk;intro Zd s O H Q I h;refine xn (Kt I l m ?_ BY);refine Wh (h₀:=X.base) I.ok.mod.JQ kp (n.k pos I h λus d vs H1 I1 r q=>⟨I1.Bw,?_⟩) he BS;have i:us.length=ps.length:=by rw[<- r.length];exact F.len _ _ _ _ q
 refine ZAJ (ZAY (F.run X.A X.stack d H1 ⟨us,[]⟩ us vs Q (E O) g I1.VQ (by have z:=b d us I1.Bw (by rw[Dz];exact i);rw[Dz]at z;exact z) r q) λr s' a=>?_);cases r with
 |error e=>exact go.ZFt c I1 a
 |ok o=>
  cases o with
  |ret u=>exact I1.after a
  |next=>exact False.elim a
  |brk=>exact False.elim a
  |cont=>exact False.elim a
end
section
variable{P:Program}{K:ZLZ}{E:XK}
theorem E4:Goes (Di (Gg P w) P w K mg Zp N qual scope f cd A outer s H E) (λ_=>E):=λZd O H' s' ea C dx tb I x u a _ b=>
 X9.leave ⟨Zd,O,H',ea,C,dx,tb,rfl,I,x,u,a,b⟩
theorem cR:PassesOwn (model P w) (Di (Gg P w) P w K mg Zp N qual scope f cd A outer s H E).A (Di (Gg P w) P w K mg Zp N qual scope f cd A outer s H E).env (Di (Gg P w) P w K mg Zp N qual scope f cd A outer s H E).xe:=PassesOwn.leaving
end
theorem AG.t8{P:Program}{K:ZLZ}{st:Stmt}{k:Nat}(F:AG K x qual st f fd)(S:Au N ps (AL st))(len:∀vs H Q E,sp vs H Q E->vs.length=ps.length)
  (Mg:∀(Af:Value)(A:Around)(outer:List Env)(s:Shared)(H:Hp)(vs:List V)(Q:VK)(E:XK),BP k (A.deeper (envOfC qual (AL st) s.heap.objs.size f Af))->sp vs H Q E->
   ∃t,FN (Di (Gg P w) P w K mg Zp N qual (AL st) f Af A outer s H E) (FQ st) t/\t { nx:=λ_ H'=>Q .AA H',rt:=Q } (start N vs) H):CU P w K mg Zp (Gg P w) (k+1) f fd ps sp:=by
 obtain⟨e,od,kV,c,d,g,Af,ct,Jl,rfl,a,Fe⟩:=F.ex;refine gC a Fe S len λA outer s H vs Q E b Gq=>?_;obtain⟨t,h,q⟩:=Mg Af A outer s H vs Q E b Gq;exact⟨t,h.h,q⟩
section
variable{i k:Nat}{t:TA}{E:St->XK}{body Ed:List Stmt}{fld:Str}
theorem E8(h:Bs X.prog X.w X.K X.mg X.base x k ps sp)(c:BP j X.A)(hk:k<=j)(go:Goes X E)(a:X.ex=[])(b:QA X (e::es) t)(d:Gl X x:=by rfl)(BY:Zq0 x:=by decide)
  (he:Cp X e es:=by rfl) (BS:BEq X pos es:=by rfl):QE X (.Call (.Name x p) (e::es) [] pos) (Rj sp E t):=⟨by have b:=b.h;exact yR h c hk go (zW a) b d BY he BS⟩
theorem oO(n:Gl X x)(a:X.mg x=some (.ref C))(q:Hj X.K C none=true)(v:X.calm=true)(d:X.ex=[])(go:Goes X E)(f:QA X (e0::es) t)
  (BY:Zq0 x:=by decide) (he:Cp X e0 es:=by rfl) (BS:BEq X Bp es:=by rfl) :
  QS X (.Raise (some (.Call (.Name x np) (e0::es) [] Bp)) none pos) (aM C E t):=⟨by
 have f:=f.h;intro Zd s O H D I h;have mk:∀h':Heap,X.K.In h'->mH h' C none:=λh' k=>QV k q;obtain⟨bm,N,nm,qn,bs,hdct,sn,sub,ab,col,dd,k0,k1,k2,k3,k5,mN,A,w,HG,T⟩:=(QV (X:=I.mod.JQ) q).obj;refine wpAny_Raise_call_subT (C:=C) (nm:=nm) (q:=qn) (N:=N) (bs:=bs) (bm:=bm) (hdct:=hdct) (sn:=sn) (sub:=sub) (ab:=ab) (col:=col) (dd:=dd) (k0:=k0) (k1:=k1) (k2:=k2) (k3:=k3) (k5:=k5)
  rQ (mN:=mN) (T.hasType rfl) (I.ok.hd v) (by rw[he];show(false || (backTo Bp (starEach es X.env)).any (·.1))=false;rw[BS];rfl) HG (Kt I n a ⟨rfl,?_⟩ BY)
 rw[he];have i:=f Bp Zd s O H _ I h;rw[he]at i;refine ql (Ay i λus s2⟨vs,H2,I2,r,j,y⟩=>⟨rfl,?_,I2.bk _ _ A,w.keeps I2.bk,T.keeps I2.bk,λh' e a=>?_⟩)
 .rw[<- r.length];exact CB j (by decide+kernel)
 .obtain⟨t',Wv,l,_⟩:=a.there;have g:s2.heap.get? e=none:=a.new;have B:=I2.call (h':=h') (g':=s2.gens) (d':=s2.drawn) (t':=s2.toks) (ch:=[]) (Un.kept a.keeps) (I2.AJ.kept a.keeps) I2.bare (λb z=>absurd z (by simp));refine go Zd O H2 _ e C none none B ⟨⟨_,_,Wv,rfl,rfl,rfl,by simp,rfl⟩,λT z=>by cases z⟩ ⟨?_,?_⟩ (λT z=>by cases z) (λp m=>⟨λz=>?_,by simp⟩) y
  .cases z:H2 e with
   |none=>rfl
   |some o=>obtain⟨u,c⟩:=I2.AJ.there z;rw[g]at c;cases c
  .cases z:X.s₀.heap.get? e with
   |none=>rfl
   |some o=>obtain⟨u,c⟩:=I2.base.there e o z (by rw[d];simp);rw[g]at c;cases c
  .have:=(I2.pin p m).1;rw[z,g]at this;cases this⟩
theorem ZGO(c:Nr X.K C fI fld)(hg:Gl X x)(hm:X.mg x=some (.ref C))(Fn:CU X.prog X.w X.K X.mg X.base Dr kk fI fd ["self", par] (Pd C fld))(hb:Binds X.K fd ["self", par] [])(hr:BP (kk+1) X.A)(q:X.calm=true)(hex:X.ex=[])(go:Goes X E)(y:QA X [e0] t)
  (BY:Zq0 x:=by decide) (he:Cp X e0 []:=by rfl) (BS:BEq X Bp []:=by rfl) :
  QS X (.Raise (some (.Call (.Name x np) [e0] [] Bp)) none pos) (Us C fld E t):=⟨by
 have y:=y.h;intro Zd s O H D I h;obtain⟨bm,N,nm,qn,bs,hdct,sn,sub,ab,col,dd,k0,k1,k2,k3,k5,mN,M,hN,HG,T⟩:=(QV I.mod.JQ c.ex).obj;rw[arm_exec_Raise];show wpAny _ _ (do standAt pos;raiseStmt X.env (some (do let v <- eval (.Call (.Name x np) [e0] [] Bp) X.env;standAt pos;pure v)) none) _ _ s
 refine ra (ZAj (ZJ8 (C:=C) (nm:=nm) (qn:=qn) (N:=N) (bs:=bs) (bm:=bm) (hdct:=hdct) (sn:=sn) (sub:=sub) (ab:=ab) (col:=col) (dd:=dd) (k0:=k0) (k1:=k1) (k2:=k2) (k3:=k3) (k5:=k5) (newId:="ValueError.__new__") (T.hasType rfl) (I.ok.hd q) (ra ?_)));refine xn (Kt I hg hm ?_ BY);refine Wh (h₀:=X.base) I.ok.mod.JQ c.kp (y.k Bp I h λus U vs H1 I1 r⟨v,ev,sv,hE⟩=>⟨I1.Bw,?_⟩) he BS;subst ev;obtain⟨u,rfl,V⟩:=vals1 r;obtain⟨hp,g,d,tk,os⟩:=U;have RF:∃oI,hp.get? fI=some oI/\oI.cls=.type "function" := by
  have z:=beq_iff_eq.mp c.fn;unfold PySem.W.typeIn at z;obtain⟨o,ho,q⟩:=Option.map_eq_some_iff.mp z;exact⟨o,I1.Bw _ _ ho,q⟩
 obtain⟨oI,n,Uw⟩:=RF;refine ZG7 rQ (T.keeps I1.bk) (I1.bk _ _ M) (hN.keeps I1.bk) HG n Uw (by show 1<=sizeLine;decide +kernel) λh' ea Oo G=>?_;obtain⟨t',Wv,_,_⟩:=G.there;have P:H1 ea=none:=I1.AJ.fresh Oo;have F:Inv X Zd O (upd H1 ea (Fm ea C none)) ⟨h',g,d,tk,os⟩:=I1.laid (t':=tk) G.keeps Oo (Y8 Wv);have Z:Pd C fld ([.ref ea,v]++[]) (upd H1 ea (Fm ea C none)) (λw H3=>w=.AA/\∃d,H1 d=none/\d≠ea/\H3=upd (upd (upd H1 ea (Fm ea C none)) d (.xd [(fld,v)])) ea (Fm ea C (some d))) E0:=
  ⟨ea,v,rfl,sv,B3,λd hd=>by
   have j:d≠ea:=by rintro rfl;rw[B3]at hd;cases hd
   rw[AW j]at hd;exact⟨rfl,d,hd,j,rfl⟩⟩
 refine ZAJ (ZAY (Fn.run _ X.stack _ _ ⟨[.ref ea,u],[]⟩ [.ref ea,u] [.ref ea,v] _ E0 (hr.make C [u] []) (F.VQ.make C [u] []) (hb _ [.ref ea,u] F.Bw rfl) (.cons rfl (.cons V .nil)) Z) λY s' i=>?_);cases Y with
 |error e=>exact False.elim i
 |ok fl=>
  cases fl with
  |ret Q=>
   obtain⟨w3,H3,I3,m,ew,f,S,j,eH⟩:=F.after i;subst ew;subst eH;cases(show Q=Value.none from m);refine⟨rfl,ra (ZAj (uz ?_))⟩;obtain⟨R,L⟩:=I3.exc (C:=C) (dx:=some f) B3;refine⟨ea,R,some f,rfl,I3.bk _ _ M,L,?_⟩;have J:∀p∈X.pn++Zd,p.1≠ea:=λp FI z=>by
    have:=BE (I1.pin p FI).1;rw[z]at this;exact absurd this (Nat.not_lt.mpr Oo)
   have σ:=I3.forget (a:=ea) B3 J;have B:Nx (upd (upd (upd H1 ea (Fm ea C none)) f (.xd [(fld,v)])) ea (Fm ea C (some f))) ea=upd H1 f (.xd [(fld,v)]):=by
    funext b
    by_cases z:b=ea
    .subst z;rw[bh,AW (BO j),P]
    .rw[VW z,AW z]
     by_cases l:b=f
     .subst l;rw[B3,B3]
     .rw[AW l,AW l,AW z]
   rw[B]at σ;refine go Zd O _ s' ea C (some f) none σ ⟨⟨_,_,L,rfl,rfl,rfl,by simp,rfl⟩,λT z=>by cases z⟩ ⟨by rw[AW (BO j)];exact P,?_⟩ (λT z=>by cases z) (λp FI=>⟨J p FI,by simp⟩) (hE f S);exact SU (CB I1.sz Oo)
  |next=>exact False.elim i
  |brk=>exact False.elim i
  |cont=>exact False.elim i⟩
theorem xb(Ci:X.stack=X.env::X.outer)(hex:X.ex=[])(t:X.N.Nodup)(k:X.N[j]?=some n)(hk:X.env.scope.names.lookup n=some .local)(hg:Gl X x)(Z:X.mg x=some (.ref S))
  (m:∀(pn:ZLa)(xe:Value->Shared->Prop)(E1:St->XK),Goes (X.Hg pn xe) E1->FN (X.Hg pn xe) body (ON E1))
  (hh:∀e,FN (X.Ed e) (b0::Ed) th) (BY:Zq0 x:=by decide) :
  QS X (.Try body [.ExceptHandler (some (.Name x np)) (some n) (b0::Ed) Mx] [] [] pos) (X2 X.K S j ON th):=⟨by
 have m:=λpn xe E1 g=>(m pn xe E1 g).h;have hh:=λe=>(hh e).h;intro Zd s O H D I h;obtain⟨E1,h1,h2⟩:=h;have σ:X.env.frame=some X.env.locals:=by
  rcases I.ok.K5 with e|⟨_,σ⟩
  .rw[e]at Ci;exact absurd (wH List.length Ci) (by simp)
  .exact σ
 refine wpAny_Try_except ?_;refine vo (m (X.pn++Zd) _ E1 ?_ [] s O H D I.Hg h1) (λf B q=>?_) (λe B q=>q)
 .intro fD σ1 H1 B ea C dx tb I1 P ⟨u1,u2⟩ A c hE;have i:Inv X Zd σ1 H1 B:=I1.MH;have u2:X.s₀.heap.get? ea=none:=u2;have A:∀T,tb=some T->H1 T=none/\X.s₀.heap.get? T=none:=A;have c:∀p∈X.pn++Zd,p.1≠ea/\tb≠some p.1:=λp q=>c p (Gp _ q);refine mF (outer:=X.outer) (L:=X.env.locals) (by rw[<- Ci];exact i.ok.frames) (Zp:=X.base) (by rw[<- Ci];exact i.stack) σ P λh' T kp a F=>?_;have E:=i.eX Ci P u1 u2 A c kp;obtain⟨J,IZ⟩:=h2 σ1 C dx ea H1 hE u1;refine wpAny_handleBy_cons ?_ (λz=>by cases z);refine codeAny_handlers_test ?_;refine Kt (X:=X.Ed (.ref ea)) E.Ed hg Z ?_ BY;obtain⟨oe,vs,he,hc,hd,Hz,hz,h3⟩:=F.obj;have LT:PySem.W.Looks (model X.prog X.w) h' (typeOf (.ref ea)) (.ref C):=by
   rw[<- hc];exact(PySem.W.Looks.ld he).andThen .now
  refine(PySem.W.exm_one (K:=X.K) E.Bw LT J).here ?_;refine codeAny_handlers_suite_as ?_;have fl:∀b∈Cr (X.env::X.outer),∃o,h'.get? b=some o/\∀vs,o.data≠.fields vs:=λb m=>by
   have st:=E.stack;rw[Ci]at st;obtain⟨_,o,ho,Y⟩:=st.mem m;exact⟨o,ho,Y⟩
  refine gB (s:={ B with heap:=h' }) (l:=X.env::X.outer) F fl λh4 M R=>?_
  have G:∀T',some T=some T'->H1 T'=none/\X.s₀.heap.get? T'=none:=λT' eT=>by
   cases eT;exact a.elim (λa=>⟨i.AJ.fresh a,SU (CB i.sz a)⟩) (A T)
  have U:∀p∈X.pn++Zd,p.1≠ea/\some T≠some p.1:=λp q=>⟨(c p q).1,λz=>a.elim (λa=>by
   have Q:=BE (i.pin p q).1;rw[<- Be z]at Q;exact absurd Q (Nat.not_lt.mpr a)) λy=>(c p q).2 (y.trans z)⟩
  have I4:=E.eX Ci F u1 u2 G U M;have I5:=I4.v7 R u1 u2 λp q=>(c p q).1;refine Tv (X:=X.Ed (.ref ea)) (v:=.ref ea) I5.Ed t k (.inl hk) rfl (λV I6=>?_) (.inr hk);refine vo (hh (.ref ea) Zd V _ _ (D.drop j) I6 IZ) (λf s7 q=>?_) (λ_ _ z=>z.elim);cases f with
  |next=>
   obtain⟨σ7,H7,I7,d⟩:=q;exact(I7.VZ I.ok).unbind t k hk λs' I9=>⟨_,_,I9,d⟩
  |brk=>
   obtain⟨σ7,H7,I7,d⟩:=q;exact(I7.VZ I.ok).unbind t k hk λs' I9=>⟨_,_,I9,d⟩
  |cont=>
   obtain⟨σ7,H7,I7,d⟩:=q;exact(I7.VZ I.ok).unbind t k hk λs' I9=>⟨_,_,I9,d⟩
  |ret u=>
   obtain⟨v,σ7,H7,I7,r,d⟩:=q;exact(I7.VZ I.ok).unbind t k hk λs' I9=>⟨v,_,_,I9,r,d⟩
 .cases f with
  |next=>
   obtain⟨σ7,H7,I7,d⟩:=q;exact ZAQ ⟨_,_,I7.MH,d⟩
  |brk=>
   obtain⟨σ7,H7,I7,d⟩:=q;exact⟨_,_,I7.MH,d⟩
  |cont=>
   obtain⟨σ7,H7,I7,d⟩:=q;exact⟨_,_,I7.MH,d⟩
  |ret u=>
   obtain⟨v,σ7,H7,I7,r,d⟩:=q;exact⟨v,_,_,I7.MH,r,d⟩⟩
end
section
variable{K:ZLZ}{x:Addr}{fill expr:Bool}
structure ExGet (K:ZLZ) (C:Addr):Prop where
 ga:PySem.W.findIn K (.ref C) "__getattribute__"=some (some (.builtin "BaseException.__getattribute__"))
 gt:PySem.W.findIn K (.ref C) "__getattr__"=some none
 mb:PySem.W.mroIn K C (.type "BaseException")=some true
theorem vi(o:Value):bindSpecial (.builtin "BaseException.__getattribute__") o=pure (.builtin "BaseException.__getattribute__", [o]):=by
 first|rfl|kernel_rfl
theorem eV(X:K.In s.heap)(I:PySem.W.InstAt s.heap x ox C od)(g:ExGet K C)
  (h:wpAny (model prog w) A.in1 (Builtin.«object.__getattribute__» ⟨[.ref x,.str name tk],[]⟩) (λa s'=>match a with | .done (.ret v)=>wpAny (model prog w) A (handedOut v) Q E s'|_=>False) (λ_ _=>False) s) :
  wpAny (model prog w) A (getAttrBy (.ref x) (.str name tk) fill expr) Q E s:=by
 obtain⟨hh,l,d,t,os⟩:=s;have c:=I.type (M:=model prog w);have k:=eF (M:=model prog w) X g.ga;have j:=eF (M:=model prog w) X g.gt;have i:=ZKx (M:=model prog w) X g.mb;unfold getAttrBy;refine y2 (ra (c.at (ra (k.at ?_))));have f:(Value.builtin "BaseException.__getattribute__" == Value.builtin "object.__getattribute__")=false:=by decide+kernel
 dsimp only;rw[tK (by rw[f,dk];decide)];unfold getAttrByItsOwn hookBefore;rw[u4 (show onTheHeap (Value.ref C)=true from rfl)];refine ra (j.at (ra (wpAny_attempt (y2 ?_))));unfold callGetattribute;rw[tK (show ¬ (expr && onTheHeap (Value.builtin "BaseException.__getattribute__"))=true by cases expr <;> decide)]
 unfold boundAndCalled;rw[vi];refine ra (uz ?_);show wpAny _ _ (call (.builtin "BaseException.__getattribute__") [.ref x,.str name tk]) _ _ _;refine ZAJ (ZAM PySem.F.excAttr_ValueError.ga.plain PySem.F.entry_bexc_ga ?_);have hk:builtinKind "BaseException.__getattribute__"=some .slot:=by decide+kernel
 have b:splitId "BaseException.__getattribute__"=some ("BaseException","__getattribute__"):=by decide+kernel
 have e:=PySem.F.args_bexc_ga (.ref x) (.str name tk);simp only[checkBuiltinCall,hk,b];unfold isInstance;refine ra (ra (c.at (i.at ?_)));rw[tK (by decide)];refine wpAny_of_eq e ?_;refine vo h (λa s' z=>?_) λ_ _ z=>z.elim;rcases a with(_|_|_|_)|_ <;> first|exact z|exact z.elim
theorem yX(X:K.In s.heap)(I:PySem.W.InstAt s.heap x ox C od)(g:ExGet K C)(a:PySem.W.findObj K C od name=some (.value v))(hh:PySem.W.handedIn v=true)(h:Q v { s with toks:=s.toks+1 }):
  wpAny (model prog w) A (getAttr (.ref x) name expr) Q E s:=by
 unfold getAttr;refine ra (wpAny_mkText (eV (s:={ s with toks:=s.toks+1 }) X I g ?_))
 obtain⟨e,f,d,t,os⟩:=s;have c:=I.type (M:=model prog w);have b:=ZKw (M:=model prog w) X I a;refine ra (uz (ra (uz (ra (c.at (ra (b.at ?_)))))));refine uz ?_;show wpAny _ _ (handedOut v) _ _ _;rw[ZKt hh];exact uz h
theorem wb{Q:Option Value->Shared->Prop}(X:K.In s.heap)(I:PySem.W.InstAt s.heap x ox C od)(g:ExGet K C)(c:PySem.W.findObj K C od "__class__"=some (.bind (.builtin "getset_descriptor.__get__") (.builtin "object.__class__")))(b:PySem.W.mroIn K C (.type "object")=some true)
  (h:Q (some (.ref C)) { s with toks:=s.toks+1 }):wpAny (model prog w) A (getAttr? (.ref x) "__class__") Q E s:=by
 unfold getAttr? getAttrBy?;refine ra (wpAny_mkText (ra (wpAny_attempt ?_)));refine eV (s:={ s with toks:=s.toks+1 }) X I g ?_
 obtain⟨a,e,d,t,os⟩:=s;have i:=I.type (M:=model prog w);have f:=ZKw (M:=model prog w) X I c;refine ra (uz (ra (uz (ra (i.at (ra (f.at ?_)))))));show wpAny _ _ (holding [Value.builtin "object.__class__"] (call (.builtin "getset_descriptor.__get__") [.builtin "object.__class__",.ref x,.ref C]) >>= ret) _ _ _;refine ra (y2 (ZAJ (PySem.W.class_get (s:=⟨a,e,d,t+1,os⟩) (ox:=ox) (od:=od) X I b ?_)));refine uz ?_;show wpAny _ _ (handedOut (.ref C)) _ _ _;rw[ZKt rfl];exact uz (uz h)
end
structure Pa (K:ZLZ) (C:Addr):Prop extends ExGet K C where
 cl:(PySem.W.clsIn K C).isSome=true
 gc:PySem.W.findIn K (.ref C) "__class__"=some (some (.builtin "object.__class__"))
 gn:PySem.W.specialIn K (.builtin "object.__class__") "__get__"=some (some (.builtin "getset_descriptor.__get__"))
 tk:PySem.W.takesIn K (.builtin "object.__class__")=some true
 mo:PySem.W.mroIn K C (.type "object")=some true
theorem zC{K:ZLZ}{a g:Value}(b:(PySem.W.clsIn K C).isSome=true)(e:PySem.W.findIn K (.ref C) name=some (some a))(d:PySem.W.specialIn K a "__get__"=some (some g))(c:PySem.W.takesIn K a=some true):PySem.W.findObj K C od name=some (.bind g a):=by
 obtain⟨cd,b⟩:=Option.isSome_iff_exists.mp b;unfold PySem.W.findObj;rw[b,rO,e,rO];simp[d,c]
theorem ZJ7{K:ZLZ}{x:Addr}(g:Pa K C):PySem.W.KitX K (.ref x) (.ref C) (λh=>∃ox od,PySem.W.InstAt h x ox C od) where
 ty:=λ_ _ _ AO=>by obtain⟨_,_,I⟩:=AO;exact I.type
 it:=λ_ _ X _=>by
  obtain⟨b,IF⟩:=Option.isSome_iff_exists.mp g.cl;unfold PySem.W.clsIn at IF;split at IF
  .rename_i c' d' cd' X4 ho;intro A' Q' E' s' k q;unfold isType loadHead;exact ra (ZAu (k _ _ (X _ _ ho)) (uz q))
  .cases IF
 ne:=λh tp dd A5 n c X a=>by
  obtain⟨b,IF⟩:=Option.isSome_iff_exists.mp g.cl;refine Bool.eq_false_iff.mpr λq=>?_;have e:C=tp:=Value.ref.inj (beq_iff_eq.mp q);subst e;unfold PySem.W.clsIn at IF;split at IF
  .rename_i c' d' cd' X4 ho;have z:=(X _ _ ho).symm.trans a;cases z
  .cases IF
 ca:=λX⟨_,_,I⟩k=>wb X I g.toExGet (zC g.cl g.gc g.gn g.tk) g.mo k
theorem ZHX(e:∃ob vs,h.get? a=some ob/\ob.cls=.ref C/\ob.dict=dx/\ob.data=.fields vs)(hd:∀d,dx=some d->∃o,h.get? d=some o):∃ox od,PySem.W.InstAt h a ox C od:=by
 obtain⟨ob,vs,h1,h2,c,b⟩:=e;cases dx with
 |none=>exact⟨ob,none,h1,h2,by unfold PySem.W.notCls;rw[b],by rw[c];trivial⟩
 |some d=>
  obtain⟨o,ho⟩:=hd d rfl;exact⟨ob,some o,h1,h2,by unfold PySem.W.notCls;rw[b],by rw[c];exact ho⟩
def Yx:V->Value->Prop
 | .ty n,c=>c=.type n
 | .ref S,c=>c=.ref S
 |_,_=>False
def jA(K:ZLZ)(H:Hp)(x:V)(t:Value):Prop:=Gu K H x t∨∃a C dx,x=.ref a/\t=.ref C/\H a=some (Fz.Ie a C dx)/\Pa K C/\∀d,dx=some d->∃fs,H d=some (.xd fs)
def TR(K:ZLZ):List V->Hp->VK->Prop:=λxs H Q=>∃(x cv:V)(c t:Value)(b:Bool),xs=[x,cv]/\Yx cv c/\jA K H x t/\PySem.W.kitOne K t c=some b/\Q (.bl b) H
theorem Es:Dp X (.builtin "isinstance") (TR X.K):=by
 intro Zd s O H xs us Q I r h;obtain⟨x,cv,c,t,b,rfl,i,ty,e,q⟩:=h;obtain⟨u,p,rfl,k,j⟩:=vals2 r;have o:p=c:=by
  cases cv with
  |ty n=>cases j;exact i.symm
  |ref S=>cases j;exact i.symm
  |_=>exact i.elim
 subst o;have f:∀tk,EP X Zd O Q (.bool b) { s with toks:=tk }:=λtk=>⟨.bl b,H,I.tok tk,rfl,q⟩
 rcases ty with ty|⟨a,C,dx,rfl,rfl,ha,g,hd⟩
 .exact ZFD I k ty e f
 .cases k;have ok:=(I.AJ a _ ha).1;exact Iu (ZJ7 g) I.Bw (ZHX ok λd m=>by obtain⟨fs,l⟩:=hd d m;exact I.AJ.there l) e (λz=>nomatch z) f
def c8(K:ZLZ)(ta:TE)(f:Str):TE:=λO H Q=>ta O H λx H1=>∃a C dx fs v,x=.ref a/\H1 a=some (Fz.Ie a C (some dx))/\H1 dx=some (.xd fs)/\ExGet K C/\PySem.W.hasDictIn K C=true/\BQ K C f/\fs.lookup f=some v/\Q v H1
section
variable{f:Str}
theorem p6(c:QE X e ta)(m:attributeBase e f X.env (eval e X.env)=eval e X.env:=by rfl):QE X (.Attribute e f pos) (c8 X.K ta f):=⟨by
 have c:=c.h;intro Zd s O H Q I h;refine o7 m (c.k I h λu g x H1 I1 i z=>?_);obtain⟨a,C,dx,fs,v,rfl,ea,q,z⟩:=z;obtain rfl:u=Value.ref a:=i;obtain⟨ob,vs,h1,h2,p,n⟩:=(I1.AJ a _ ea).1;obtain⟨mA,ns,r⟩:=I1.AJ dx _ q;obtain⟨od,b,j⟩:=ir ns;obtain⟨u,l,d⟩:=FY.some_of (v:=v) (o:=mA f) (by rw[<- z.2.2.2.1];exact r f);have J:PySem.W.InstAt g.heap a ob C (some od):=⟨h1,h2,by unfold PySem.W.notCls;rw[n],by rw[p];exact b⟩;exact yX I1.Bw J z.1 (ZKs z.2.1 z.2.2.1 rfl (by rw[j f,l])) (oF d) ⟨v,H1,I1.tok _,d,z.2.2.2.2⟩⟩
end
end L2
namespace Fz
open L2 Lw
variable{xs:List PV}
structure HZ (K:ZLZ) (a:Addr) (xs:List PV):Prop where
 Lm:xs.all flat=true
 sq:∀H,BW K H a (xs.map Fz.enc)
 ob:∃o:Obj,K.lookup a=some o/\o.cls=.type "tuple"
theorem HZ.of{K:ZLZ}{a:Addr}{vs:List V}(h:∀H,BW K H a vs)(e:xs.map Fz.enc=vs)(f:xs.all flat=true):HZ K a xs:=by
 subst e;refine⟨f,h,?_⟩;rcases h (λ_=>none)with h|⟨o,A5,n,h1,h2,_⟩
 .rcases h with h|⟨_,h⟩
  .cases h
  .cases h
 .exact⟨o,h1,h2⟩
section
variable[Xw]
variable{E:Ent0}{ss:List Slot}{O:L2.St}{F H F' H':Hp}{K:ZLZ}{ta tb tc te:TE}{k:PV->Prop}{v:V}{tp:Bool}{nx:List Slot->Prop}{R:Ag}
variable{F1:Hp}{js:List Nat}{ti:TE}
def ZCm:Option Str->PV
 |none=>.AA
 |some x=>.str x
end
end Fz
namespace Fz
open L2 Lw
variable{E:Ent0}{A6 ss:List Slot}{O σ':L2.St}{F F' H H':Hp}{te:TE}{cv v:V}{b tp:Bool}{nx:List Slot->Prop}{R:Ag}{j n:Nat}{vs:List V}{Q:VK}{X:XK}
abbrev EZ:=List Slot->Ag->(Ex->Prop)->Prop
def Bx(pre:EZ):Sp:=λvs H Q X=>∃(ss:List Slot)(R:Ag)(D:Ex->Prop)(F:Hp)(A:List Addr),pre ss R D/\Sg (E3 A F H) ss (vs.map some) F H/\(∀v F' H',Fin (E3 A F H) F' H'->R.ok (E3 A F H) F' H' v->Q v H')/\
 ∀(x:Ex)(C:Value)(dx:Option Addr)F' H',Fin (E3 A F H) F' H'->D x->x.at F' C dx->X C dx H'
@[reducible] def Vt (X:XK) (D:Ex->Prop):Xw:=⟨λ_=>X,λ_=>True,D⟩
@[reducible] def P1 (E:Ent0) (J:List Slot->Prop) (D:Ex->Prop):Xw:=⟨λO C dx H=>∃ss F x,J ss/\Sg E ss O F H/\D x/\x.at F C dx,J,D⟩
def sX:PV->Prop
 | .str x=>(reprText x).length<=100000
 | .int i=>i.natAbs.log2<1920
 |_=>False
section
variable[Xw]
variable{pre:EZ}{t:TA}{k:PV->Prop}{K:ZLZ}{C S:Addr}{fld:Str}
theorem Fo(h:Wa ss t λl=>∃c D,pre l (.is c) D/\Xw.J ss/\(∀x,D x->Xw.D x)/\∀p,c p->k p):Wp ss (Rj (Bx pre) Xw.e t) k:=⟨λE O F H Q S q=>
 h.go E O F H _ S λvs l F1 H1 b a⟨c,D,g,i,j,kk⟩=>by
  refine⟨l,.is c,D,F1,[],g,b.st.MG a,λv F' H' f⟨p,r,kp⟩=>?_,λx C dx F' H' f d B1=>?_⟩
  .exact q v p F' H' (b.trans (b.st.back (λ_ h=>absurd h Aa) f)) r (kk p kp)
  .exact E.hx ss O F' H' x C dx i (b.st.back (λ_ h=>absurd h Aa) f).st (j x d) B1⟩
theorem fJ(h:We ss t λps=>ps.length<=1000/\Xw.J ss/\Xw.D ⟨C,[],[]⟩):Ws ss (aM C Xw.e t) nx R:=⟨λE D O F H S i g=>
 h.go E O F H _ S λvs ps F1 H1 b a AO=>by obtain⟨c,d,f⟩:=AO;exact⟨by rw[a.length];exact c,E.hx ss O F1 H1 ⟨C,[],[]⟩ (.ref C) none d b.st f ⟨rfl,.inl ⟨rfl,rfl,rfl⟩⟩⟩⟩
theorem ba(h:Wp ss te λp=>sX p/\Xw.J ss/\Xw.D ⟨C,[fld],[p]⟩):Ws ss (Us C fld Xw.e (AX te BA)) nx R:=⟨λE D O F H S i g=>
 h.go E O F H _ S λv p F1 H1 b r AO=>by
  obtain⟨sp,c,f⟩:=AO;refine⟨v,rfl,?_,λd hd=>?_⟩
  .cases r <;> first|exact sp|exact sp.elim
  .have a:=b.st.alloc hd (.xd [(fld,v)]);exact E.hx ss O _ _ ⟨C,[fld],[p]⟩ (.ref C) (some d) c a.st f ⟨rfl,.inr ⟨d,[v],rfl,B3,rfl,.cons (r.mono a.ff) .nil⟩⟩⟩
end
section
variable{pre:EZ}
theorem ZEt{N:List Str}{t:TS}(h:Bx pre vs H Q X)(g:∀ss R D,pre ss R D->ss.length=n)
  (hw:∀ss R D,pre ss R D->let _i:Xw:=Vt X D;Ws (ss++List.replicate (N.length - n) .any) t (λ_=>∃k,R=.is k/\k .AA) R):t { nx:=λ_ H'=>Q .AA H',rt:=Q } (L2.start N vs) H:=by
 obtain⟨ss,R,D,F,A,a,S,q,b⟩:=h;have e:vs.length=n:=by have:=S.len;rw[AB]at this;rw[<- this];exact g ss R D a
 unfold L2.start;rw[e];letI:Xw:=Vt X D;refine(hw ss R D a).go ⟨E3 A F H,λA6 σ' F' H' x C dx _ S' d B1=>b x C dx F' H' S'.toFin d B1⟩ _ _ F H (S.grown _) (λA6 σ' F' H'⟨k,e,c⟩S' _=>?_) λv F' H' f ok=>q v F' H' f ok;subst e;exact q .AA F' H' S'.toFin ⟨.AA,.AA,c⟩
theorem ZF0(b:∀ss R D,pre ss R D->ss.length=n)(h:Bx pre vs H Q X):vs.length=n:=by
 obtain⟨ss,R,D,F,A,a,S,q⟩:=h;have:=S.len;rw[AB]at this;rw[<- this];exact b ss R D a
abbrev Ent0.at(E:Ent0)(F:Hp):Ent0:=⟨E.A,F,E.H0,E.B⟩
theorem Fin.un(S:Fin E F H)(f:Fin (E.at F) F' H'):Fin E F' H':=⟨f.fh,S.f0.trans f.f0,f.keep,λa o e=>(f.fresh a o e).elim (λe=>S.fresh a o e) .inr,f.Hk,f.MP,f.a0,f.bF,f.bH,f.b0⟩
theorem Ok.un{G:Hp}{s:Slot}{o:Option (Option V)}:Ok (E.at G) F H s o↔Ok E F H s o:=by
 cases s with
 |sq tp xs=>cases tp <;> exact Iff.rfl
 |_=>exact Iff.rfl
theorem Sg.un(S:Sg E ss O F H)(S':Sg (E.at F) A6 σ' F' H'):Sg E A6 σ' F' H':=⟨S.toFin.un S'.toFin,S'.len,λi s hi=>Ok.un.mp (S'.ok i s hi),S'.CG⟩
theorem Sg.atF(S:Sg E ss O F H):Sg (E.at F) ss O F H:=⟨⟨S.fh,AR.refl _,S.keep,λ_ _ e=>.inl e,S.Hk,S.MP,S.a0,S.bF,S.bH,S.b0⟩,S.len,λi s hi=>Ok.un.mpr (S.ok i s hi),S.CG⟩
theorem Ag.un{G:Hp}(h:R.ok (E.at G) F H v):R.ok E F H v:=by
 cases R <;> exact h
theorem Sg.ZJY(S:Sg E ss O F H)(j:Nat):Sg E (ss.set j .any) (O.set j none) F H:=by
 have at_:∀(i:Nat)(s:Slot),(ss.set j .any)[i]?=some s->s=.any∨(i≠j/\ss[i]?=some s):=λi s hi=>by
  by_cases q:i=j
  .subst q
   by_cases c:i<ss.length
   .rw[DA c]at hi;cases hi;exact .inl rfl
   .rw[ZKY (by rw[JV];omega)]at hi;cases hi
  .rw[CZ (BO q)]at hi;exact .inr ⟨q,hi⟩
 refine⟨S.toFin,by rw[JV,JV];exact S.len,λi s hi=>?_,λi k u w l OD hi hk b a=>?_⟩
 .rcases at_ i s hi with rfl|⟨q,hi⟩
  .trivial
  .rw[CZ (BO q)];exact S.ok i s hi
 .rcases at_ i u hi with rfl|⟨q,hi⟩
  .exact b
  .rcases at_ k w hk with rfl|⟨q2,hk⟩
   .exact a
   .rw[CZ (BO q)]at b;rw[CZ (BO q2)]at a;exact S.CG i k u w l OD hi hk b a
end
section
variable[Xw]
variable{K:ZLZ}{S:Addr}{tb:(L2.St->XK)->TS}{th:TS}
theorem ZCo(J:List Slot->Prop)(Dx:Ex->Prop)(q:∀E:Ent0,@Ws (P1 E J Dx) ss (tb (P1 E J Dx).e) nx R)
  (hh:∀RX x,J RX->Dx x->PySem.W.exmOne K (.ref x.C) (.ref S)=some true/\Ws (RX.set j (.is (.exc x.C x.ns x.xs))) th (λBm=>nx (Bm.set j .any)) R):Ws ss (X2 K S j tb th) nx R:=⟨λE D O F H S0 l k=>by
 refine⟨(P1 (E.toEnt0.at F) J Dx).e,@Ws.go (P1 (E.toEnt0.at F) J Dx) _ _ _ _ (q (E.toEnt0.at F)) (@Ent.mk (P1 (E.toEnt0.at F) J Dx) (E.toEnt0.at F) λss O F H x C dx b S d B1=>⟨ss,F,x,b,S,d,B1⟩) D O F H S0.atF (λA6 σ' F' H' n S' ff=>l A6 σ' F' H' n (S0.un S') ff) (λv F' H' f ok=>k v F' H' (S0.toFin.un f) (Ag.un ok)),λσ1 C dx ea H1 p Oo=>?_⟩;obtain⟨RX,F1,x,b,S1,s,t,B1⟩:=p;obtain⟨Sr,hw⟩:=hh RX x b s;cases t;have i:=S0.un S1;have m:=i.alloc Oo (Ie ea x.C dx);have r:Rep (upd F1 ea (Ie ea x.C dx)) (.ref ea) (.exc x.C x.ns x.xs):=by
  rcases B1 with⟨h,g,c⟩|⟨a,vs,h,g,c,u⟩
  .subst c;rw[h,g];exact .Uy B3
  .subst h;exact .exc B3 (m.ff _ _ g) c (u.mono m.ff)
 exact⟨Sr,hw.go E (D.drop j) _ _ _ (m.st.Gr r) (λBm σ2 F3 H3 o S2 ff=>l _ _ F3 H3 o (S2.ZJY j) (S1.f0.trans (m.ff.trans ff))) λv F' H' f ok=>k v F' H' f ok⟩⟩
end
def iS(K:ZLZ)(p:PV)(t:Value):Prop:=match p with
 | .exc C _ _=>t=.ref C/\Pa K C
 |p=>t=Rg p
section
variable[Xw]
variable{K:ZLZ}{k:PV->Prop}{fld:Str}
theorem Rep.zU{p:PV}{t c:Value}(s:AR F H)(r:Rep F v p)(h:iS K p t)(l:PySem.W.kitOne K t c=some b)(j:∀C ns xs,p≠.obj C ns xs)(f:∀a xs,p≠.con a xs):jA K H v t:=by
 cases r with
 |AA=>cases(show t=.type "NoneType" from h);exact .inl .AA
 |bl b=>cases(show t=.type "bool" from h);exact .inl (.bl b)
 |int i=>cases(show t=.type "int" from h);exact .inl (.int i)
 |str x=>cases(show t=.type "str" from h);exact .inl (.str x)
 |lst e _=>cases(show t=.type "list" from h);exact .inl (.lst (s _ _ e))
 |tup e _=>cases(show t=.type "tuple" from h);exact .inl (.tup (s _ _ e))
 |BJ e _ _=>cases(show t=.type "dict" from h);exact .inl (.dK (s _ _ e))
 |obj _ _ _ _=>exact absurd rfl (j _ _ _)
 |con=>exact absurd rfl (f _ _)
 |Uy e=>
  obtain⟨rfl,g⟩:=h;exact .inr ⟨_,_,none,rfl,rfl,s _ _ e,g,λd z=>by cases z⟩
 |exc e k _ _=>
  obtain⟨rfl,g⟩:=h;exact .inr ⟨_,_,_,rfl,rfl,s _ _ e,g,λd z=>by cases z;exact⟨_,s _ _ k⟩⟩
theorem ZAI(h:Wp ss te λp=>((∀C ns xs,p≠.obj C ns xs)/\∀a xs,p≠.con a xs)/\∃t c b,Yx cv c/\iS K p t/\PySem.W.kitOne K t c=some b/\k (.bl b)):Wp ss (El (TR K) (AX te (AX (tC cv) BA))) k:=⟨λE O F H Q S q=>
 h.go E O F H _ S λv p F1 H1 d r AO=>by obtain⟨⟨h1,h2⟩,t,c,b,g,f,e,kk⟩:=AO;exact⟨v,cv,c,t,b,rfl,g,r.zU d.st.fh f e h1 h2,e,q _ _ F1 H1 d (.bl _) kk⟩⟩
theorem nJ(h:Wp ss te λp=>∃C x,p=.exc C [fld] [x]/\ExGet K C/\PySem.W.hasDictIn K C=true/\BQ K C fld/\k x):Wp ss (c8 K te fld) k:=⟨λE O F H Q S q=>
 h.go E O F H _ S λv p F1 H1 b r AO=>by
  obtain⟨C,x,rfl,z⟩:=AO;rcases r.inv with⟨_,_,_,y,_⟩|⟨a,dx,vs,rfl,g,f,_,e⟩
  .cases y
  obtain⟨u,ws,rfl,c,d⟩:=e.inv;cases d.ET;exact⟨a,C,dx,_,u,rfl,b.st.fh _ _ g,b.st.fh _ _ f,z.1,z.2.1,z.2.2.1,by simp[List.zip,List.lookup],q _ _ F1 H1 b c z.2.2.2⟩⟩
end
end Fz
namespace L2
variable{C:Addr}{X:Cx}
def ib(s:Stmt):Stmt:=match s with
 | .ClassDef _ _ _ (d::_) ..=>d
 |s=>s
def QN(P:Program)(w:World)(K:ZLZ)(mg:ZLb)(Zp:Heap)(C:Addr)(fld:Str):Prop:=
 ∃(fI:Addr)(fd:FuncData)(par:Str),Nr K C fI fld/\CU P w K mg Zp Dr 1 fI fd ["self", par] (Pd C fld)/\Binds K fd ["self", par] []
theorem j4{fld:Str}{a b:Str}:∀vs H Q E,Pd C fld vs H Q E->vs.length=[a,b].length:=λvs H Q E h=>by obtain⟨ea,v,rfl,_⟩:=h;rfl
theorem pO{fld:Str}{vs:List V}{H:Hp}{Q:VK}{E:XK}{N:List Str}(a:N.length=2)(h:Pd C fld vs H Q E):
  Ly (HA (iu C (AX (Al 0) (AX (nE (Al 1)) BA)))) (Ly (i3 C fld (Al 0) (Al 1)) M7) { nx:=λ_ H'=>Q .AA H',rt:=Q } (start N vs) H:=by
 obtain⟨ea,v,rfl,sv,hx,q⟩:=h;have e0:(start N [V.ref ea,v])=[some (.ref ea),some v]:=by
  unfold start;simp[a]
 rw[e0];refine⟨_,rfl,_,rfl,sv,λy=>⟨ea,_,rfl,hx,?_⟩⟩;refine⟨_,rfl,_,rfl,ea,rfl,hx,λd hd=>q d hd⟩
theorem Yp:Goes X (λ_=>E0):=λ_ _ _ _ _ _ _ _ _ _ _ _ _ h=>h.elim
section
variable{x:Str}{fld:Str}{E:St->XK}{np Bp pos:Pos}{e0:Expr}{t:TA}{j:Nat}
theorem gE(c:QN X.prog X.w X.K X.mg X.base C fld)(f:Gl X x)(d:X.mg x=some (.ref C))(b:BP j X.A)(e:2<=j)(g:X.calm=true)(a:X.ex=[])(go:Goes X E)(i:QA X [e0] t)
  (BY:Zq0 x:=by decide) (he:Cp X e0 []:=by rfl) (BS:BEq X Bp []:=by rfl) :
  QS X (.Raise (some (.Call (.Name x np) [e0] [] Bp)) none pos) (Us C fld E t):=by
 obtain⟨fI,fd,par,k,Fn,h⟩:=c;exact ZGO k f d Fn h (b.mono e) g a go i BY he BS
end
end L2
namespace Fz
open L2 Lw
variable{b neg:Bool}{i j n:Nat}{C S a a0:Addr}{cs:List Addr}{l ss:List Slot}{ta tb te:TE}{N ms ns:List Str}{xs:List PV}{F F' H H':Hp}{t' u:OV}{pre:Pre}{X:XK}{O:L2.St}{E:Ent0}{vs:List V}{nk:NK}{us:List OV}{Q:VK}
theorem ZJP{b c n:Int}(e:1<=b)(d:b<=c)(a:0<=n):∃m:Nat,(if(if c<n then c else n) > b then(if c<n then c else n)else b)=(m:Int)/\(m:Int)<=c:=by
 have h:∀z:Int,1<=z->z<=c->∃m:Nat,z=(m:Int)/\(m:Int)<=c:=λz f h1=>⟨z.toNat,by omega,by omega⟩;apply h
 .split
  .omega
  .omega
 .split
  .split <;> omega
  .omega
noncomputable def X3(K:ZLZ)(C:Addr):Bool:=PySem.W.findIn K (.ref C) "__getattribute__" == some (some (.builtin "BaseException.__getattribute__")) && (PySem.W.findIn K (.ref C) "__getattr__" == some none && (PySem.W.mroIn K C (.type "BaseException") == some true && ((PySem.W.clsIn K C).isSome && (PySem.W.findIn K (.ref C) "__class__" == some (some (.builtin "object.__class__")) && (PySem.W.specialIn K (.builtin "object.__class__") "__get__" == some (some (.builtin "getset_descriptor.__get__")) && (PySem.W.takesIn K (.builtin "object.__class__") == some true && PySem.W.mroIn K C (.type "object") == some true))))))
theorem ZF4{K:ZLZ}(h:X3 K C=true):Pa K C:=by
 unfold X3 at h;simp only[Ff,beq_iff_eq]at h;obtain⟨h1,h2,f,e,d,c,b,a⟩:=h;exact⟨⟨h1,h2,f⟩,e,d,c,b,a⟩
def Hi(K:ZLZ)(cs:List Addr)(S C:Addr)(i:Nat):Bool:=X3 K C && (PySem.W.kitOne K (.ref C) (.ref S) == some true && (PySem.W.kitOne K (.ref C) (.type "ValueError") == some true && (List.range cs.length).all λj=>PySem.W.kitOne K (.ref C) (.ref (cs.getD j 0)) == some (decide (j=i))))
structure TN (K:ZLZ) (cs:List Addr) (S C:Addr) (i:Nat):Prop where
 ex:Pa K C
 st:PySem.W.kitOne K (.ref C) (.ref S)=some true
 ve:PySem.W.kitOne K (.ref C) (.type "ValueError")=some true
 at_:∀j,j<cs.length->PySem.W.kitOne K (.ref C) (.ref (cs.getD j 0))=some (decide (j=i))
theorem OQ{K:ZLZ}(h:Hi K cs S C i=true):TN K cs S C i:=by
 unfold Hi at h;simp only[Ff,beq_iff_eq,Hr]at h;obtain⟨h1,h2,c,b⟩:=h;exact⟨ZF4 h1,h2,c,λj a=>b j (List.mem_range.mpr a)⟩
theorem er(bs:List Bool):(bs.map V.bl).all Dk=true:=by
 rw[Hr];intro x hx;obtain⟨y,_,rfl⟩:=List.mem_map.mp hx;rfl
section
variable[Xw]
variable{K:ZLZ}{k:PV->Prop}
theorem Vc(c:HZ K a (ns.map .str))(h:Wp ss ta λp=>∃x,p=.str x/\k (.bl (if neg then !decide (x∈ns)else decide (x∈ns)))):Wp ss (Ba (IM K neg) ta (tC (.ref a))) k:=⟨λE O F H Q S q=>
 h.el E S λx F1 H1 b kk=>by
  have sq:=c.sq H1;rw[ZC]at sq;refine⟨a,ns.map V.str,rfl,.inr sq,rfl,MU ns,?_⟩;rw[Ww];exact q _ _ F1 H1 b (.bl _) kk⟩
theorem ZGD(h:Wq ss ta λtp xs=>tp=false/\∃bs:List Bool,xs=bs.map PV.bl/\Wp ss tb λq=>∃b,q=.bl b/\k (.int (Mw (.bl b) (bs.map V.bl)))):Wp ss (GJ K "list" (YM K) ta (AX tb BA)) k:=⟨λE O F H Q S q=>
 h.go E O F H _ S λv tp xs F1 H1 c sv⟨i,bs,e,h2⟩=>by
  subst i;subst e;obtain⟨l,vs,rfl,g,r⟩:=sv.seq c.st;refine⟨.inl ⟨rfl,_,AU.of g⟩,h2.go E O F1 H1 _ c.st λn p2 F2 H2 a d⟨b,j,kk⟩=>?_⟩;subst j;cases d.inv;obtain⟨o,Bt,m,DS,f⟩:=(sv.mv a).seq a.st;cases m;rw[f.YY]at DS;exact⟨l,_,_,rfl,rfl,AU.of DS,rfl,er bs,q _ _ F2 H2 (c.trans a) (.int _) kk⟩⟩
end
def RS(r:Str):Bool:=decide (r∈([("none":Str), "ahead","all"]))
def oX(C:Addr)(r:Str):Ex:=⟨C,["rule"],[.str r]⟩
def Qv(C:Addr):EZ:=λl R D=>∃r:Str,l=[.is (.str r)]/\(reprText r).length<=100000/\(R=.is λp=>p=.AA/\RS r=true)/\D=λx=>x=oX C r/\RS r=false
section
variable[Xw]{K:ZLZ}{k:PV->Prop}
theorem dD{cv:V}{c:Value}(ex:Pa K C)(a:ss[j]?=some (.is (.exc C ms xs)))(d:Yx cv c)(e:PySem.W.kitOne K (.ref C) c=some b)(kk:k (.bl b)):Wp ss (El (TR K) (AX (Al j) (AX (tC cv) BA))) k:=
 ZAI (A1 a ⟨⟨λ_ _ _ z=>PV.noConfusion z,λ_ _ z=>PV.noConfusion z⟩,_,_,_,d,⟨rfl,ex⟩,e,kk⟩)
theorem Fp(a:TN K cs S C i)(d:cs.length=16)(n:Nat)(b:ss[j]?=some (.is (.exc C ms xs)))(kk:k (.bl (decide (n=i))))(c:n<16:=by decide):Wp ss (El (TR K) (AX (Al j) (AX (tC (.ref (cs.getD n 0))) BA))) k:=
 dD a.ex b rfl (a.at_ n (d▸c)) kk
end
def ja(K:ZLZ)(cs:List Addr)(S:Addr):Pre:=λl R=>∃(C:Addr)(ms:List Str)(xs:List PV)(i:Nat),l=[.is (.exc C ms xs),.is (.int i)]/\TN K cs S C i/\i<cs.length/\cs.length=16/\R=.is λp=>p=.bl true
theorem nB:∀i:Nat,i<16->i=0∨i=1∨i=2∨i=3∨i=4∨i=5∨i=6∨i=7∨i=8∨i=9∨i=10∨i=11∨i=12∨i=13∨i=14∨i=15:=by decide
theorem xy(h:i<16):Mw (.bl true) (List.map V.bl [decide (0=i),decide (1=i),decide (2=i),decide (3=i),decide (4=i),decide (5=i),decide (6=i),decide (7=i),decide (8=i),decide (9=i),decide (10=i),decide (11=i),decide (12=i),decide (13=i),decide (14=i),decide (15=i)])=1:=by
 rcases nB i h with rfl|rfl|rfl|rfl|rfl|rfl|rfl|rfl|rfl|rfl|rfl|rfl|rfl|rfl|rfl|rfl <;> rfl
theorem ZCd(h:i<16):L2.C5 [PV.bl (decide (0=i)),PV.bl (decide (1=i)),PV.bl (decide (2=i)),PV.bl (decide (3=i)),PV.bl (decide (4=i)),PV.bl (decide (5=i)),PV.bl (decide (6=i)),PV.bl (decide (7=i)),PV.bl (decide (8=i)),PV.bl (decide (9=i)),PV.bl (decide (10=i)),PV.bl (decide (11=i)),PV.bl (decide (12=i)),PV.bl (decide (13=i)),PV.bl (decide (14=i)),PV.bl (decide (15=i))] (i:Int)=some (.bl true):=by
 rcases nB i h with rfl|rfl|rfl|rfl|rfl|rfl|rfl|rfl|rfl|rfl|rfl|rfl|rfl|rfl|rfl|rfl <;> rfl
theorem yg{x:Str}(h:x.length<=100)(hx:∀c∈x.cps.toList,c<16 ^ 8):(reprText x).length<=100000:=by
 have:=PySem.StrLaws.reprText_len x hx;omega
def Ny:PV->Bool
 | .AA=>true
 |_=>false
theorem Rep.Ny{v:V}{p:PV}(r:Rep F v p):decide (v=.AA)=Ny p:=by
 cases r <;> rfl
section
variable[Xw]
variable{k:PV->Prop}
theorem Z4(h:Wp ss ta λp=>Wp ss tb λq=>q=.AA/\k (.bl (Ny p))):Wp ss (Ba (λx y H Q=>y=.AA/\Q (.bl (decide (x=.AA))) H) ta tb) k:=⟨λE O F H Q S q=>
 h.go E O F H _ S λv p F1 H1 a c h2=>h2.go E O F1 H1 _ a.st λf p2 F2 H2 d b AO=>by
  obtain⟨e,kk⟩:=AO;subst e;cases b.inv;refine⟨rfl,?_⟩;rw[c.Ny];exact q _ _ F2 H2 (a.trans d) (.bl _) kk⟩
theorem HS(h:Wp ss ta λp=>Wp ss tb λq=>q=.AA/\k (.bl (!Ny p))):Wp ss (Ba (λx y H Q=>y=.AA/\Q (.bl (!decide (x=.AA))) H) ta tb) k:=⟨λE O F H Q S q=>
 h.go E O F H _ S λv p F1 H1 a c h2=>h2.go E O F1 H1 _ a.st λf p2 F2 H2 d b AO=>by
  obtain⟨e,kk⟩:=AO;subst e;cases b.inv;refine⟨rfl,?_⟩;rw[c.Ny];exact q _ _ F2 H2 (a.trans d) (.bl _) kk⟩
variable{K:ZLZ}{t u:TE}{pre:EZ}{tA:TA}
theorem yD(h:Wp ss t k):Wp ss (WA t u) k:=⟨λE O F H Q S q=>.inl (h.go E O F H Q S q)⟩
theorem sU(h:Wp ss u k):Wp ss (WA t u) k:=⟨λE O F H Q S q=>.inr (h.go E O F H Q S q)⟩
theorem ZHC(h:Wp ss te λp=>∃x,p=.str x/\x.length<=1000/\k (.bl (isNm x))):Wp ss (ED aS [] E0 (AX te BA)) k:=⟨λE O F H Q S q=>
 h.el E S λx F1 H1 a b=>by
  obtain⟨hx,kk⟩:=b;exact⟨x,rfl,hx,λH3 s=>q _ _ F1 H3 (a.trans (a.st.grow s)) (.bl _) kk⟩⟩
end
def jm(K:ZLZ):List V->Hp->VK->Prop:=λxs H Q=>∃p ys,xs=[.ref p]/\(AU K H p ys∨BW K H p ys)/\∀l,H l=none->Q (.ref l) (upd H l (.lst ys))
theorem tP{X:Cx}:Dp X (.type "list") (jm X.K):=RV
def Ik(xs ys:List PV):List PV:=List.zipWith (λx y=>.tup [x,y]) xs ys
theorem TL(xs ys:List PV):(Ik xs ys).length=min xs.length ys.length:=by unfold Ik;rw[List.length_zipWith]
theorem mL{ys:List PV}{x y:PV}(h:xs[i]?=some x)(h2:ys[i]?=some y):(Ik xs ys)[i]?=some (.tup [x,y]):=by
 unfold Ik;rw[List.getElem?_zipWith,h,h2]
def BN(pre:Pre):Sp:=λvs H Q _=>∃(ss:List Slot)(R:Ag)(F:Hp)(A B:List Addr),pre ss R/\Sg ⟨A,F,H,B⟩ ss (vs.map some) F H/\∀v F' H',Fin ⟨A,F,H,B⟩ F' H'->R.ok ⟨A,F,H,B⟩ F' H' v->Q v H'
inductive Jz (F:Hp):List V->List Slot->Prop where
 |nil:Jz F [] []
 |cons {v:V}{p:PV}{vs:List V}{l:List Slot}:Rep F v p->Jz F vs l->Jz F (v::vs) (.is p::l)
inductive Jj (O:L2.St) (F:Hp) (i:Nat) (t:OV):List V->List Slot->Prop where
 |here {v:V}{vs:List V}{l:List Slot}:O[i]?=some (some v)->Jz F vs l->Jj O F i t (v::vs) (.ow true t::l)
 |there {v:V}{p:PV}{vs:List V}{l:List Slot}:Rep F v p->Jj O F i t vs l->Jj O F i t (v::vs) (.is p::l)
theorem Jz.len:∀{vs:List V}{l:List Slot},Jz F vs l->l.length=vs.length:=by
 intro vs l h
 induction h with
 |nil=>rfl
 |cons _ _ a=>rw[Ck,Ck,a]
theorem Jj.len{t:OV}:∀{vs:List V}{l:List Slot},Jj O F i t vs l->l.length=vs.length:=by
 intro vs l h
 induction h with
 |here _ r=>rw[Ck,Ck,r.len]
 |there _ _ a=>rw[Ck,Ck,a]
theorem Jz.at:∀{vs:List V}{l:List Slot},Jz F vs l->∀{n:Nat}{s:Slot},l[n]?=some s->∃v p,vs[n]?=some v/\s=.is p/\Rep F v p:=by
 intro vs l h
 induction h with
 |nil=>intro n s e;rw[List.getElem?_nil]at e;cases e
 |cons r _ a=>
  intro n s e;cases n with
  |zero=>cases(show some _=some s from e);exact⟨_,_,rfl,rfl,r⟩
  |succ n=>exact a (n:=n) e
theorem Jj.at{t:OV}:∀{vs:List V}{l:List Slot},Jj O F i t vs l->∃m:Nat,∀{n:Nat}{s:Slot},l[n]?=some s->(n=m/\s=.ow true t/\∃v,vs[n]?=some v/\O[i]?=some (some v))∨∃v p,vs[n]?=some v/\s=.is p/\Rep F v p:=by
 intro vs l h
 induction h with
 |here e r=>
  refine⟨0,λ{n s}h=>?_⟩;cases n with
  |zero=>cases(show some _=some s from h);exact .inl ⟨rfl,rfl,_,rfl,e⟩
  |succ n=>exact .inr (r.at (n:=n) h)
 |there r _ b=>
  obtain⟨m,c⟩:=b;refine⟨m+1,λ{n s}q=>?_⟩;cases n with
  |zero=>cases(show some _=some s from q);exact .inr ⟨_,_,rfl,rfl,r⟩
  |succ n=>
   rcases c (n:=n) (s:=s) q with⟨e,es,a⟩|a
   .exact .inl ⟨wH Nat.succ e,es,a⟩
   .exact .inr a
structure Py (E:Ent0) (ss:List Slot) (O:L2.St) (i:Nat) (lt:Bool) (t t':OV) (F H F' H':Hp):Prop where
 st:Sg E (ss.set i (.ow lt t')) O F' H'
 ff:AR F F'
 hh:∀a o,CO ss O a->a∉t.addrs->H a=some o->H' a=some o
 nn:∀a o,F' a=some o->F a=some o∨H a=none
structure Og [Xw] (ss:List Slot) (ta:TA) (k:List Slot->Prop):Prop where
 go:∀(E:Ent)(O:L2.St)(F H:Hp)(Q:List V->Hp->Prop),Sg E ss O F H->(∀vs l F' H',Mv E ss O F H F' H'->Jz F' vs l->k l->Q vs H')->ta O H Q
structure U4 [Xw] (ss:List Slot) (i:Nat) (t:OV) (ta:TA) (k:List Slot->Prop):Prop where
 go:∀(E:Ent)(O:L2.St)(F H:Hp)(Q:List V->Hp->Prop),Sg E ss O F H->(∀vs l F' H',Mv E ss O F H F' H'->Jj O F' i t vs l->k l->Q vs H')->ta O H Q
structure Wm [Xw] (ss:List Slot) (i:Nat) (lt:Bool) (t:OV) (te:TE) (k:PV->OV->Prop):Prop where
 go:∀(E:Ent)(O:L2.St)(F H:Hp)(Q:VK),Sg E ss O F H->(∀v p t' F' H',Py E ss O i lt t t' F H F' H'->Rep F' v p->k p t'->Q v H')->te O H Q
structure qR [Xw] (ss:List Slot) (i:Nat) (lt:Bool) (t:OV) (c:TT) (k:Bool->OV->Prop):Prop where
 go:∀(E:Ent)(O:L2.St)(F H:Hp)(Q:Bool->Hp->Prop),Sg E ss O F H->(∀b t' F' H',Py E ss O i lt t t' F H F' H'->k b t'->Q b H')->c O H Q
theorem Sg.UX{lt:Bool}{t:OV}(S:Sg E ss O F H)(hi:ss[i]?=some (.ow lt t))(a:Jj O F i t vs l):Sg ⟨[],F,H,t.addrs⟩ l (vs.map some) F H:=by
 obtain⟨x,e0,c,D3,o⟩:=S.ok i _ hi;have nn:∀{p:Prop}(a:Addr),a∈([]:List Addr)->p:=λa h=>absurd h Aa;obtain⟨m,k⟩:=a.at;refine⟨⟨S.fh,AR.refl _,λ_ _ _ e=>e,λ_ _ e=>.inl e,λa h=>nn a h,λa h=>nn a h,λa h=>nn a h,λa h=>(o a h).1,λa h=>c.there a h,λa h=>⟨c.there a h,Aa⟩⟩,by rw[AB];exact a.len,λn s g=>?_,λn j s u b f g z ms y=>?_⟩
 .rcases k g with⟨_,rfl,v,d,w⟩|⟨v,p,d,rfl,r⟩
  .rw[Ax,d];rw[e0]at w;cases w;exact⟨x,rfl,c,D3,λa q=>⟨(o a q).1,.inr ⟨rfl,q⟩⟩⟩
  .rw[Ax,d];exact⟨v,rfl,r⟩
 .rcases k g with⟨B,rfl,_⟩|⟨_,_,_,rfl,_⟩
  .rcases k z with⟨A,rfl,_⟩|⟨_,_,_,rfl,_⟩
   .exact f (B.trans A.symm)
   .cases y
  .cases ms
theorem Sg.Tw{lt:Bool}{Eg:NK}{us':List OV}(S:Sg E ss O F H)(hi:ss[i]?=some (.ow lt (.nd nk a0 us)))(f:Fin ⟨[],F,H,(OV.nd nk a0 us).addrs⟩ F' H')(r:BB F' H' (.ref a0) (.nd Eg a0 us'))(nd:(OV.nd Eg a0 us').addrs.Nodup)(q:∀a∈(OV.nd Eg a0 us').addrs,F' a=none/\(H a=none∨a∈(OV.nd nk a0 us).addrs)):
  Py E ss O i lt (.nd nk a0 us) (.nd Eg a0 us') F H F' H':=by
 obtain⟨K,e0,L,D3,x⟩:=S.ok i _ hi;have P:K=.ref a0:=by cases L;rfl
 subst P;have I:i<ss.length:=(List.getElem?_eq_some_iff.mp hi).1;have kp:∀a o,a∉(OV.nd nk a0 us).addrs->H a=some o->H' a=some o:=λa o n e=>f.keep a o ⟨Aa,n⟩ e;have CK:∀a,H a≠none->F a=none->F' a=none:=λa h1 h2=>by
  cases e:F' a with
  |none=>rfl
  |some o=>
   rcases f.fresh a o e with z|z
   .rw[show F a=some o from z]at h2;cases h2
   .exact absurd z h1
 have J:∀a,a∈E.A->a∉(OV.nd nk a0 us).addrs:=λa h m=>by
  rcases(x a m).2 with z|⟨_,z⟩
  .exact S.a0 a h z
  .exact(S.b0 a z).2 h
 have d:∀(j:Nat)s,j≠i->ss[j]?=some s->∀a,BU s O[j]? a->a∉(OV.nd nk a0 us).addrs:=λj s g v a ho m=>S.CG j i s _ a g v hi ho m;refine⟨⟨⟨f.fh,S.f0.trans f.f0,λa o h e=>?_,λa o e=>?_,λa h=>?_,λa h=>?_,S.a0,λa w=>?_,λa w=>?_,S.b0⟩,by rw[JV];exact S.len,λj s g=>?_,λj k s u b Tp g hk ms y=>?_⟩,f.f0,λa o _ n e=>kp a o n e,λa o e=>f.fresh a o e⟩
 .refine kp a o (λm=>?_) (S.keep a o h e);rcases(x a m).2 with z|⟨_,z⟩
  .rw[e]at z;cases z
  .exact h.2 z
 .rcases f.fresh a o e with z|z
  .exact S.fresh a o z
  .exact .inr (S.DB z)
 .exact C4.keep (S.Hk a h) λo e=>kp a o (J a h) e
 .obtain⟨_,_,t,_⟩:=S.Hk a h;exact CK a (by rw[t];simp) (S.MP a h)
 .exact CK a (S.bH a w) (S.bF a w)
 .by_cases m:a∈(OV.nd nk a0 us).addrs
  .exact f.bH a m
  .intro z;cases e:H a with
   |none=>exact S.bH a w e
   |some o=>rw[kp a o m e]at z;cases z
 .by_cases c:j=i
  .subst c;rw[DA I]at g;cases g;refine⟨.ref a0,e0,r,nd,λa D=>⟨(q a D).1,?_⟩⟩;rcases(q a D).2 with z|z
   .exact .inl (S.DB z)
   .exact(x a z).2
  .rw[CZ (BO c)]at g
   by_cases np:s=.AY
   .subst np;obtain⟨l,e,σ,N,pt⟩:=S.ok j _ g;obtain⟨_,_,t,_⟩:=id pt;exact⟨l,e,CK l (by rw[t];simp) σ,N,C4.keep pt λo z=>kp l o (d j _ c g l e) z⟩
   .exact Ok.go S g f.f0 (λa o ho e=>kp a o (d j s c g a ho) e) CK np
 .have at_:∀(n:Nat)s,(ss.set i (.ow lt (.nd Eg a0 us')))[n]?=some s->(n=i/\s=.ow lt (.nd Eg a0 us'))∨(n≠i/\ss[n]?=some s):=λn s p=>by
   by_cases c:n=i
   .subst c;rw[DA I]at p;exact .inl ⟨rfl,(Be p).symm⟩
   .rw[CZ (BO c)]at p;exact .inr ⟨c,p⟩
  have C:∀(n:Nat)s,n≠i->ss[n]?=some s->BU s O[n]? b->b∉(OV.nd Eg a0 us').addrs:=λn s p v ho m=>by
   rcases(q b m).2 with z|z
   .exact S.FK v ho z
   .exact d n s p v b ho z
  rcases at_ j s g with⟨t,rfl⟩|⟨M,h1⟩
  .rcases at_ k u hk with⟨G,rfl⟩|⟨B,h2⟩
   .exact Tp (t.trans G.symm)
   .exact C k u B h2 y ms
  .rcases at_ k u hk with⟨G,rfl⟩|⟨B,h2⟩
   .exact C j s M h1 ms y
   .exact S.CG j k s u b Tp h1 h2 ms y
section
variable[Xw]
variable{ta:TA}{lt:Bool}{t:OV}{nx:List Slot->Prop}{R:Ag}
theorem Gx{k:List Slot->Prop}(h:k []):Og ss BA k:=⟨λE O F H Q S q=>q [] [] F H (Mv.refl S) .nil h⟩
theorem LS{k:List Slot->Prop}(h:Wp ss te λp=>Og ss ta λl=>k (.is p::l)):Og ss (AX te ta) k:=⟨λE O F H Q S q=>
 h.go E O F H _ S λv p F1 H1 c r h2=>h2.go E O F1 H1 _ c.st λvs l F2 H2 b a kk=>q _ _ F2 H2 (c.trans b) (.cons (r.mono b.ff) a) kk⟩
theorem NG{k:List Slot->Prop}(hi:ss[i]?=some (.ow lt t))(h:Og ss ta λl=>k (.ow true t::l)):U4 ss i t (AX (Al i) ta) k:=⟨λE O F H Q S q=>by
 obtain⟨c,e0,_⟩:=S.ok i _ hi;exact⟨_,e0,h.go E O F H _ S λvs l F2 H2 b a kk=>q _ _ F2 H2 b (.here e0 a) kk⟩⟩
theorem EO{k:List Slot->Prop}(h:Wp ss te λp=>U4 ss i t ta λl=>k (.is p::l)):U4 ss i t (AX te ta) k:=⟨λE O F H Q S q=>
 h.go E O F H _ S λv p F1 H1 c r h2=>h2.go E O F1 H1 _ c.st λvs l F2 H2 b a kk=>q _ _ F2 H2 (c.trans b) (.there (r.mono b.ff) a) kk⟩
theorem Mv.qZ{F1 H1 F2 H2:Hp}(hi:ss[i]?=some (.ow lt t))(a:Mv E ss O F H F1 H1)(b:Py E ss O i lt t t' F1 H1 F2 H2):Py E ss O i lt t t' F H F2 H2:=
 ⟨b.st,a.ff.trans b.ff,λc o n z e=>b.hh c o n z (a.hh c o n e),λc o e=>(b.nn c o e).elim (λe=>a.nn c o e) λe=>.inr (a.none e)⟩
theorem NP{k:PV->OV->Prop}(hi:ss[i]?=some (.ow lt (.nd nk a0 us)))(h:U4 ss i (.nd nk a0 us) ta λl=>∃b,pre l (.mt b)/\∀p t',b p t'->∃Eg us',t'=.nd Eg a0 us'/\k p t'):Wm ss i lt (.nd nk a0 us) (ED (BN pre) [] E0 ta) k:=⟨λE O F H Q S q=>
 h.go E O F H _ S λvs l F1 H1 c a⟨b,g,kk⟩=>by
  rw[Dz];refine⟨l,.mt b,F1,[],(OV.nd nk a0 us).addrs,g,c.st.UX hi a,λv F' H' f⟨p,t',r,d,nd,e,kp⟩=>?_⟩;obtain⟨Eg,us',rfl,k2⟩:=kk p t' kp;exact q v p _ F' H' (c.qZ hi (c.st.Tw hi f d nd e)) r k2⟩
theorem sD{k:Bool->OV->Prop}(h:Wm ss i lt t te λp t'=>∃c,p=.bl c/\k c t'):qR ss i lt t (K2 te) k:=⟨λE O F H Q S q=>
 h.go E O F H _ S λv p t' F1 H1 a r AO=>by
  obtain⟨c,e,kk⟩:=AO;subst e;cases r.inv;exact⟨c,rfl,q c t' F1 H1 a kk⟩⟩
theorem RK(h:Wm ss i lt t te λ_ t'=>nx (ss.set i (.ow lt t'))):Ws ss (HA te) nx R:=⟨λE D O F H S b c=>
 h.go E O F H _ S λv p t' F1 H1 a r kk=>b _ O F1 H1 kk a.st a.ff⟩
theorem Q9(h:Wm ss i lt t te λp t'=>nx ((ss.set i (.ow lt t')).set j (.is p))):Ws ss (Ez te (D2 j)) nx R:=⟨λE D O F H S b c=>
 h.go E O F H _ S λv p t' F1 H1 a r kk=>b _ _ F1 H1 kk (a.st.Gr r) a.ff⟩
theorem MX{k:PV->OV->Prop}(hi:ss[i]?=some (.ow lt (.nd nk a0 us)))(h:Wp ss te λp=>k p (.nd nk a0 us)):Ws ss (Hb te) nx (.mt k):=⟨λE D O F H S l g=>
 h.go E O F H _ S λv p F1 H1 d r kk=>by
  obtain⟨f,e0,b,D3,c⟩:=d.st.ok i _ hi;have j:f=.ref a0:=by cases b;rfl
  subst j;exact g v F1 H1 d.st.toFin ⟨p,.nd nk a0 us,r,b,D3,λa e=>⟨(c a e).1,(c a e).2.imp id λz=>z.2⟩,kk⟩⟩
end
theorem ZIz{t:TS}(h:BN pre vs H Q X)(b:∀ss R,pre ss R->ss.length=n)
  (hw:∀ss R,pre ss R->Ws (ss++List.replicate (N.length - n) .any) t (λ_=>False) R):t { nx:=λ_ H'=>Q .AA H',rt:=Q } (L2.start N vs) H:=by
 obtain⟨ss,R,F,A,B,a,S,q⟩:=h;have e:vs.length=n:=by have:=S.len;rw[AB]at this;rw[<- this];exact b ss R a
 unfold L2.start;rw[e];exact(hw ss R a).go (QL ⟨A,F,H,B⟩) _ _ F H (S.grown _) (λA6 σ' F' H' z S' _=>z.elim) λv F' H' f ok=>q v F' H' f ok
theorem MR(b:∀ss R,pre ss R->ss.length=n)(h:BN pre vs H Q X):vs.length=n:=by
 obtain⟨ss,R,F,A,B,a,S,q⟩:=h;have:=S.len;rw[AB]at this;rw[<- this];exact b ss R a
end Fz
namespace L2
section
variable{X:Cx}{o i value:Expr}{td ty tv:TE}{pos pos':Pos}
theorem LI(f:X.A.units+1<cLine)(ho:QE X o td)(hi:QE X i ty)(j:ah i):QE X (.Subscript o i pos) (U8 td ty):=⟨by
 have ho:=ho.h;have hi:=hi.h;intro Zd s O H Q I h;refine ZB0 PySem.F.slot_dict_getitem.lookup j (ho.k I h λu n x H1 I1 c e=>hi.k I1 e λp s2 y H2 I2 b⟨a,v,ex,g,d⟩=>?_);subst ex;obtain rfl:u=Value.ref a:=c;exact⟨zH I2 g,tM f I2 g b λl m I3 HF=>⟨v,H2,I3,HF,d⟩⟩⟩
theorem Q3(m:X.A.units+1<cLine)(ho:QE X o td)(hi:QE X i ty)(b:QE X value tv)(n:swapsWith value (some (.Subscript o i pos')) pos.line X.env=pure false:=by rfl):
  QS X (.Assign [.Subscript o i pos'] value pos) (Ut td ty tv):=⟨by
 have ho:=ho.h;have hi:=hi.h;have b:=b.h;intro Zd s O H D I h;refine wpAny_Assign_Subscript (b.k I h λr q v H1 I1 e l=>ho.k I1 l λu s2 x H2 I2 d j=>hi.k I2 j λt p y H3 I3 c⟨a,H4,ex,g,f⟩=>?_) n;subst ex;obtain rfl:u=Value.ref a:=d;exact tW m I3 g c e λs4 I4=>⟨O,H4,I4,f⟩⟩
theorem UT:QE X (.Dict [] [] pos) aA:=⟨λZd s O H Q I h=>
 wpAny_Dict_empty ⟨.ref s.heap.objs.size,_,I.laid (a:=s.heap.objs.size) (o:=.dK []) (t':=s.toks) (λ_ _ q=>Bo _ q) (B0 _) (fb s.heap I.big),rfl,h _ (I.AJ.fresh (B0 _))⟩⟩
end
end L2
namespace Fz
open L2 Lw
variable{F F0 H H0:Hp}{ss:List Slot}{ta td tv ty:TE}{nx:List Slot->Prop}{R:Ag}{i:Nat}{ks:List Key}{Bt vs:List V}{C a dx:Addr}{us us':List OV}{E:Ent0}{O:L2.St}{m p:List Nat}{u w:OV}{f:Str}{ns:List Str}{pre:Pre}
def Kh:Key->PV
 | .inl i=>.int i
 | .inr x=>.str x
def K8:List Key->List PV->Key->Option PV
 |k'::ks,x::xs,k=>if k'=k then some x else K8 ks xs k
 |_,_,_=>none
def HV(ks:List Key)(k:Key):Bool:=ks.any λa=>decide (a=k)
def Mc(ks:List Key)(k:Key):List Key:=if HV ks k=true then ks else ks++[k]
theorem RQ{v:V}{k:Key}(r:Rep F v (Kh k)):v=kV k:=by
 cases k with
 |inl i=>cases r.inv;rfl
 |inr x=>cases r.inv;rfl
theorem yd{k:Key}{y:PV}:∀{ks:List Key}{vs:List V}{xs:List PV},AV F vs xs->ks.length=vs.length->K8 ks xs k=some y->∃v,EX (ks.zip vs) k=some v/\Rep F v y:=by
 intro ks
 induction ks with
 |nil=>intro vs xs _ _ h;cases h
 |cons d ks e=>
  intro vs xs r f h;cases xs with
  |nil=>cases h
  |cons x xs=>
   obtain⟨v,ws,rfl,a,b⟩:=r.inv;have h:(if d=k then some x else K8 ks xs k)=some y:=h
   rw[Ko]
   by_cases c:d=k
   .rw[u4 c]at h;cases h;exact⟨v,RJ c,a⟩
   .rw[tK c]at h;obtain⟨w,h1,h2⟩:=e b (Po f) h;exact⟨w,by rw[Qe c];exact h1,h2⟩
section
variable[Xw]
variable{k:PV->Prop}{lt:Bool}
theorem NQ(h:Wp ss td λp=>∃ks xs,p=.BJ ks xs/\Wp ss ty λq=>∃a y,q=Kh a/\K8 ks xs a=some y/\k y):Wp ss (U8 td ty) k:=⟨λE O F H Q S q=>
 h.go E O F H _ S λv p F1 H1 d i⟨ks,xs,e,h2⟩=>h2.go E O F1 H1 _ d.st λr p2 F2 H2 c g⟨a,y,n,j,kk⟩=>by
  subst e;subst n;have o:=i.mono c.ff;cases o with
  |BJ m l f=>
   obtain⟨w,hw,b⟩:=yd f l j;refine⟨_,w,rfl,?_,q w y F2 H2 (d.trans c) b kk⟩;rw[<- hw,RQ g];exact FZ.k (c.st.fh _ _ m)⟩
theorem VP{k:List Nat->OV->Prop}(h:∀a,k [] (.nd (.BJ []) a (([]:List PV).map .fz))):Wx ss aA k:=⟨λE O F H Q S q p b=>by
 have m:=S.make b (.dK []);refine q _ [] (.nd (.BJ []) p (([]:List PV).map .fz)) F _ m (.nd (k:=.BJ []) (vs:=[]) B3 trivial rfl .nil) (by rw[OV.DV];simp[NK.more,OV.Gm]) (λa c=>?_) (h p);rw[OV.DV]at c;have e:a=p:=by simpa[NK.more,OV.Gm]using c
 subst e;exact⟨S.CK b,S.DB b,.inr b⟩⟩
theorem Xx:∀{ks:List Key}{vs:List V}{a:Key},ks.length=vs.length->(ks.zip vs).any (λb=>decide (b.1=a))=HV ks a
 | [],vs,a,h=>rfl
 |k'::ks,w::vs,a,h=>by
  rw[Ko,Ng,Xx (by simpa using h)]
  rfl
 |_::_,[],_,h=>by simp at h
noncomputable def IC:List Key->List V->Key->V->List V
 |k'::ks,x::xs,k,p=>(if k'=k then p else x)::IC ks xs k p
 |_,xs,_,_=>xs
theorem jL:∀{ks:List Key}{vs:List V}{a:Key}{v:V},(ks.zip vs).map (λb=>if b.1=a then(b.1,v)else b)=ks.zip (IC ks vs a v)
 | [],vs,a,v=>by simp
 |k'::ks,w::vs,a,v=>by
  rw[Ko,B6,jL,IC,Ko]
  by_cases c:k'=a
  .rw[u4 c,u4 c]
  .rw[tK c,tK c]
 |_::_,[],_,_=>by simp[IC]
end
noncomputable def GU:List Key->Key->Option Nat
 | [],_=>none
 |k'::ks,k=>if k'=k then some 0 else(GU ks k).map (· + 1)
theorem mB:∀{ks:List Key}{a:Key}{n:Nat},GU ks a=some n->ks[n]?=some a
 | [],_,_,h=>by cases h
 |k'::ks,a,n,h=>by
  rw[GU]at h
  by_cases c:k'=a
  .rw[u4 c]at h;cases h;subst c;rfl
  .rw[tK c]at h;cases e:GU ks a with
   |none=>rw[e]at h;cases h
   |some m=>rw[e]at h;cases h;exact mB (ks:=ks) e
theorem bB:∀{ks:List Key}{a:Key},(GU ks a).isSome=HV ks a
 | [],_=>rfl
 |k'::ks,a=>by
  rw[GU];unfold HV;rw[Ng]
  by_cases c:k'=a
  .rw[u4 c,uL c];rfl
  .rw[tK c,vc c,Bool.false_or,eB,bB];rfl
theorem Yg{a:Key}(b:ks.length=vs.length):(EX (ks.zip vs) a).isSome=HV ks a:=by
 rw[<- WD,Xx b]
theorem kH:∀{ks:List Key}{vs:List V}{a:Key}{n:Nat}{v:V},ks.Nodup->GU ks a=some n->IC ks vs a v=vs.set n v
 | [],_,_,_,_,_,h=>by cases h
 |k'::ks,[],a,n,v,_,h=>by rw[IC];simp;simp
 |k'::ks,w::vs,a,n,v,nd,h=>by
  rw[GU]at h;obtain⟨g,f⟩:=List.nodup_cons.mp nd;rw[IC]
  by_cases c:k'=a
  .rw[u4 c]at h;cases h;rw[u4 c,rF]
   congr 1
   subst c;have b:∀{ks:List Key}{vs:List V},k'∉ks->IC ks vs k' v=vs:=by
    intro ks
    induction ks with
    |nil=>intro vs _;rw[IC];simp
    |cons k2 ks i=>
     intro vs d;cases vs with
     |nil=>rw[IC];simp
     |cons u vs=>
      rw[IC,tK (λz=>d (by rw[z];simp)),i (λz=>d (by simp[z]))]
   exact b g
  .rw[tK c]at h;cases e:GU ks a with
   |none=>rw[e]at h;cases h
   |some m=>
    rw[e]at h;cases h;rw[tK c,Se,kH f e]
section
variable[Xw]
variable{k:PV->Prop}{t:OV}
theorem p5(h:Wp ss ty λq=>Wl ss i t td λ_ u=>∃ks a us b,u=.nd (.BJ ks) a us/\q=Kh b/\k (.bl (HV ks b))):Wp ss (V2 ty td) k:=⟨λE O F H Q S q=>
 h.go E O F H _ S λv p F1 H1 c e h2=>h2.go E O F1 H1 _ c.st λm p2 u F2 H2 f d B1 AO=>by
  obtain⟨ks,a,us,b,l,eq,kk⟩:=AO;subst l;subst eq;obtain⟨vs,rfl,g,n,j,o⟩:=d.inv;refine⟨a,EX (ks.zip vs) b,rfl,by rw[RQ e];exact FZ.k g,?_⟩;rw[Yg j];exact q _ _ F2 H2 (c.trans f) (.bl _) kk⟩
theorem ZEP(h:Wp ss ty λq=>Wp ss td λu=>∃ks xs b,u=.BJ ks xs/\q=Kh b/\k (.bl (HV ks b))):Wp ss (V2 ty td) k:=⟨λE O F H Q S q=>
 h.go E O F H _ S λv p F1 H1 d f h2=>h2.go E O F1 H1 _ d.st λl u F2 H2 c e AO=>by
  obtain⟨ks,xs,b,i,eq,kk⟩:=AO;subst i;subst eq;cases e with
  |@BJ a _ vs _ j g m=>
   refine⟨a,EX (ks.zip vs) b,rfl,by rw[RQ f];exact FZ.k (c.st.fh _ _ j),?_⟩;rw[Yg g];exact q _ _ F2 H2 (d.trans c) (.bl _) kk⟩
theorem ZGy(h:Wp ss ty λq=>Wp ss td λu=>∃ks xs b,u=.BJ ks xs/\q=Kh b/\k (.bl (!HV ks b))):Wp ss (So ty td) k:=⟨λE O F H Q S q=>
 h.go E O F H _ S λv p F1 H1 d f h2=>h2.go E O F1 H1 _ d.st λl u F2 H2 c e AO=>by
  obtain⟨ks,xs,b,i,eq,kk⟩:=AO;subst i;subst eq;cases e with
  |@BJ a _ vs _ j g m=>
   refine⟨a,EX (ks.zip vs) b,rfl,by rw[RQ f];exact FZ.k (c.st.fh _ _ j),?_⟩;rw[Yg g];exact q _ _ F2 H2 (d.trans c) (.bl _) kk⟩
theorem OI:(OV.nd (.BJ ks) a us).addrs=a::OV.Am us:=by rw[OV.DV];rfl
theorem iz{lt:Bool}:∀(m:List Nat)(ss:List Slot),ss[i]?=some (.ow lt t)->i∉m->(Fz.EM m ss)[i]?=some (.ow lt t):=by
 intro m
 induction m with
 |nil=>intro ss h _;exact h
 |cons j m b=>
  intro ss h a;refine b _ ?_ λz=>a (by simp[z]);rw[CZ (by rintro rfl;exact a (by simp))];exact h
theorem Sg.ZFs{lt:Bool}{Vf:List Key}(S0:Sg E ss O F0 H0)(S:Sg E ss O F H)(hi:ss[i]?=some (.ow lt t))(B1:t.at p=some (.nd (.BJ ks) a us))
  (d:∀a∈u.addrs,F a=none/\E.H0 a=none/\((∃i∈m,∃s,s≠Slot.AY/\ss[i]?=some s/\BU s O[i]? a)∨H0 a=none)) (Fd:i∉m)
  (A:BR F H Bt us') (B:Vf.length=Bt.length) (Qm:(OV.Am us').Nodup) (JG:∀b∈OV.Am us',b∈OV.Am us∨b∈u.addrs):Sg E ((Fz.EM m ss).set i (.ow lt (t.put p (.nd (.BJ Vf) a us')))) O F (upd H a (.dK (Vf.zip Bt))):=by
 have I:=iz m ss hi Fd;obtain⟨v,e,r,nd,q⟩:=S.ok i _ hi;have n:∀b,b∈a::OV.Am us->b∈t.addrs:=λb c=>OV.JF B1 b (by rw[OI];exact c);have G:∀b∈u.addrs,b∉t.addrs:=λb c z=>by
  rcases(d b c).2.2 with⟨j,C,s,_,f,o⟩|w
  .exact S.CG j i s _ b (by rintro rfl;exact Fd C) f hi o z
  .exact S0.FK hi z w
 have h:(OV.nd (.BJ ks) a us).addrs.Nodup:=by
  obtain⟨l,J,D,_⟩:=OV.split B1;rw[D,Cy,Cy]at nd;exact nd.1.2.1
 rw[OI]at h;have g:∀b∈OV.Am us',b≠a:=λb c z=>by
  subst z;rcases JG b c with w|w
  .exact(List.nodup_cons.mp h).1 w
  .exact G b w (n b (by simp))
 refine(S.EM m).Uo I B1 (.nd (k:=.BJ Vf) B3 trivial B (A.mono (AR.refl _) λb c o ho=>by rw[AW (g b c)];exact ho)) (by rw[OI];exact List.nodup_cons.mpr ⟨λz=>g a z rfl,Qm⟩) λb c=>?_;rw[OI]at c ⊢;rcases List.mem_cons.mp c with w|w
 .exact .inl (by simp[w])
 .rcases JG b w with z|z
  .exact .inl (by simp[z])
  .refine .inr ⟨(d b z).1,(d b z).2.1,λj s f o=>?_⟩;rcases R3 f with y|⟨Ib,hm⟩
   .subst y;cases o
   .rcases(d b z).2.2 with⟨i2,FC,s2,_,Cg,x⟩|y
    .exact S.CG j i2 s s2 b (by rintro rfl;exact hm FC) Ib Cg o x
    .exact S0.FK Ib o y
def LN(ks:List Key)(us:List OV)(a:Key)(w:OV):List OV:=match GU ks a with
 |some n=>us.set n w
 |none=>us++[w]
theorem Tn(h:Wx ss tv λm w=>Wl ss i t td λp u=>∃lt a ks us,ss[i]?=some (.ow lt t)/\u=.nd (.BJ ks) a us/\us.length<=99999/\ks.Nodup/\i∉m/\Wp ss ty λq=>∃d,q=Kh d/\nx ((Fz.EM m ss).set i (.ow lt (t.put p (.nd (.BJ (Mc ks d)) a (LN ks us d w)))))):Ws ss (Ut td ty tv) nx R:=⟨λE D O F H S hn hr=>
 h.go E O F H _ S λv m w F1 H1 T P Ii I h2=>h2.go E O F1 H1 _ T.st λv2 p u F2 H2 L σ B1 z=>by
  obtain⟨lt,a,ks,us,hi,rfl,hz,hk,Fd,h3⟩:=z;refine h3.go E O F2 H2 _ L.st λv3 q F3 H3 G r3 z=>?_;obtain⟨d,rfl,kk⟩:=z;have ev:v2=.ref a:=σ.inv.elim λ_ h=>h.1;subst ev;have J:=L.trans G;have np:∀b∈w.addrs,CO ss O b:=λb f k hk W=>by
   rcases(I b f).2.2 with⟨j,U,s,M,Rw,o⟩|z
   .exact S.CG j k s _ b (λe=>by subst e;rw[Rw]at hk;exact M (Be hk)) Rw hk o W
   .exact S.FK hk W z
  have Z:BB F3 H3 v w:=P.mono J.ff λb f o e=>J.hh b o (np b f) e;have RG:∀b∈w.addrs,F3 b=none/\E.H0 b=none/\((∃i∈m,∃s,s≠Slot.AY/\ss[i]?=some s/\BU s O[i]? b)∨H b=none):=λb f=>by
   refine⟨?_,(I b f).2⟩;cases e:F3 b with
   |none=>rfl
   |some o=>
    rcases J.nn b o e with z|z
    .rw[(I b f).1]at z;cases z
    .exact absurd z (P.there b f)
  have r4:=σ.mv L.st ⟨lt,hi⟩ B1 G;cases r4 with
  |@nd _ _ vs _ ha sd ft C=>
   have K:ks.length=vs.length:=ft;have vl:=C.length;have cJ:(ks.zip vs).length<=99999:=by rw[Sb];omega
   refine⟨a,_,rfl,by rw[RQ r3];exact LD.k ha (IT cJ),?_⟩;obtain⟨v0,e0,r0,D3,q0⟩:=G.st.ok i _ hi;have N:(OV.nd (.BJ ks) a us).addrs.Nodup:=by
    obtain⟨l,C,A,_⟩:=OV.split B1;rw[A,Cy,Cy]at D3;exact D3.1.2.1
   rw[OI]at N;have g:∀b∈w.addrs,b∉OV.Am us:=λb f z=>by
    have Y:b∈t.addrs:=OV.JF B1 b (by rw[OI];simp[z]);rcases(I b f).2.2 with⟨j,U,s,_,M,o⟩|y
    .exact S.CG j i s _ b (by rintro rfl;exact Fd U) M hi o Y
    .exact S.FK hi Y y
   obtain⟨Bt,ep,RZ,Ic,FX,sb⟩:∃Bt:List V,putK (ks.zip vs) d v=(Mc ks d).zip Bt/\(Mc ks d).length=Bt.length/\BR F3 H3 Bt (LN ks us d w)/\(OV.Am (LN ks us d w)).Nodup/\∀b∈OV.Am (LN ks us d w),b∈OV.Am us∨b∈w.addrs:=by
    unfold putK Mc LN;rw[Xx K];cases e:GU ks d with
    |some n=>
     have c:HV ks d=true:=by rw[<- bB,e];rfl
     have QR:n<us.length:=by
      have:=(List.getElem?_eq_some_iff.mp (mB e)).1;omega
     obtain⟨l,r,A,X⟩:=K9 (As QR);rw[u4 c,u4 c,jL,kH hk e];refine⟨vs.set n v,rfl,by rw[JV];exact K,C.set n Z,?_,λb f=>?_⟩
     .show(OV.Am (us.set n w)).Nodup;rw[X];have Q:=(List.nodup_cons.mp N).2;rw[A]at Q;exact Sn Q Ii λb f=>.inr (by rw[<- A];exact g b f)
     .have B:b∈OV.Am (us.set n w):=f;rw[X]at B;rcases List.mem_append.mp B with z|z
      .rcases List.mem_append.mp z with z|z
       .exact .inl (by rw[A];simp[z])
       .exact .inr z
      .exact .inl (by rw[A];simp[z])
    |none=>
     have c:¬ HV ks d=true:=by rw[<- bB,e];decide
     rw[tK c,tK c];refine⟨vs++[v],by rw[List.zip_append K];rfl,by rw[By,By,K];rfl,C.append (.one Z),?_,λb f=>?_⟩
     .show(OV.Am (us++[w])).Nodup;rw[Lk,NF,Cy];exact⟨(List.nodup_cons.mp N).2,Ii,λx hx y hy e=>g y hy (e▸hx)⟩
     .have B:b∈OV.Am (us++[w]):=f;rw[Lk,NF]at B;exact List.mem_append.mp B
   rw[ep];exact hn _ O F3 _ kk (Sg.ZFs (u:=w) S G.st hi B1 RG Fd Ic RZ FX sb) (T.ff.trans J.ff)⟩
end
noncomputable def DX:List Str->Str->Option Nat
 | [],_=>none
 |g::ns,f=>if g=f then some 0 else(DX ns f).map (· + 1)
def M9(ns:List Str)(f:Str):List Str:=match DX ns f with
 |some _=>ns
 |none=>ns++[f]
def Pq(ns:List Str)(us:List OV)(f:Str)(w:OV):List OV:=match DX ns f with
 |some n=>us.set n w
 |none=>us++[w]
def LR(ns:List Str)(vs:List V)(f:Str)(w:V):List V:=match DX ns f with
 |some n=>vs.set n w
 |none=>vs++[w]
theorem cy:∀{ns:List Str}{f:Str}{n:Nat},DX ns f=some n->n<ns.length
 | [],_,_,h=>by cases h
 |g::ns,f,n,h=>by
  rw[DX]at h
  by_cases c:g=f
  .rw[u4 c]at h;cases h;exact WY _
  .rw[tK c]at h;cases e:DX ns f with
   |none=>rw[e]at h;cases h
   |some m=>rw[e]at h;cases h;exact Nat.succ_lt_succ (cy e)
theorem W9:∀{ns:List Str}{vs:List V}{f:Str}{n:Nat}{v:V},DX ns f=some n->vs[n]?=some v->(ns.zip vs).lookup f=some v
 | [],_,_,_,_,h,_=>by cases h
 |g::ns,[],f,n,v,h,hv=>by simp at hv
 |g::ns,w::vs,f,n,v,h,hv=>by
  rw[DX]at h;rw[Ko]
  by_cases c:g=f
  .rw[u4 c]at h;cases h;simp at hv;subst c;rw[ZKd,hv]
  .rw[tK c]at h;cases e:DX ns f with
   |none=>rw[e]at h;cases h
   |some m=>
    rw[e]at h;cases h;rw[Hs];have:(f == g)=false:=by simpa using λz=>c z.symm
    rw[this];exact W9 e (by simpa using hv)
theorem Zy:∀{ns:List Str}{vs:List V}{f:Str}{v:V},ns.length=vs.length->E9 f v (ns.zip vs)=(M9 ns f).zip (LR ns vs f v)/\(M9 ns f).length=(LR ns vs f v).length
 | [],[],f,v,_=>by simp[E9,M9,LR,DX]
 | [],_::_,_,_,h=>by simp at h
 |_::_,[],_,_,h=>by simp at h
 |g::ns,w::vs,f,v,h=>by
  obtain⟨i1,i2⟩:=Zy (ns:=ns) (vs:=vs) (f:=f) (v:=v) (by simpa using h)
  rw[Ko];rw[show E9 f v ((g,w)::ns.zip vs)=(if g=f then(g,v)::ns.zip vs else(g,w)::E9 f v (ns.zip vs))from rfl]
  unfold M9 LR at i1 i2 ⊢;rw[DX]
  by_cases c:g=f
  .rw[u4 c,u4 c];exact⟨by simp,by simpa using h⟩
  .rw[tK c,tK c,i1];cases e:DX ns f with
   |none=>rw[e]at i2;exact⟨by simp,by simpa using i2⟩
   |some m=>rw[e]at i2;exact⟨by simp,by simpa using i2⟩
section
variable[Xw]
variable{k:PV->Prop}{t:OV}{K:ZLZ}
theorem NY{k:List Nat->OV->Prop}(h:Wl ss i t ta λp u=>∃C dx ns a us n w,u=.nd (.obj C dx ns) a us/\Bu K C/\BQ K C f/\DX ns f=some n/\us[n]?=some w/\k (p++[n]) w):Wl ss i t (KA K ta f) k:=⟨h.hi,λE O F H Q S q=>
 h.go E O F H _ S λv p u F1 H1 e d h1 AO=>by
  obtain⟨C,dx,ns,a,us,n,w,m,j,g,hx,hw,kk⟩:=AO;subst m;obtain⟨vs,rfl,l,o,r,c⟩:=d.inv;obtain⟨x,K6,b⟩:=c.get hw;exact⟨a,C,dx,ns.zip vs,x,rfl,l,j,g,W9 hx K6,q x (p++[n]) w F1 H1 e b (OV.RM h1 (by rw[OV.NV,hw];exact OV.KN)) kk⟩⟩
theorem Lp:(OV.nd (.obj C dx ns) a us).addrs=a::dx::OV.Am us:=by rw[OV.DV];rfl
theorem Sg.gq{lt:Bool}{N0:List Str}(S0:Sg E ss O F0 H0)(S:Sg E ss O F H)(hi:ss[i]?=some (.ow lt t))(B1:t.at p=some (.nd (.obj C dx ns) a us))(NI:H dx=some (.own a))
  (d:∀a∈u.addrs,F a=none/\E.H0 a=none/\((∃i∈m,∃s,s≠Slot.AY/\ss[i]?=some s/\BU s O[i]? a)∨H0 a=none)) (Fd:i∉m)
  (J:BR F H Bt us') (K:N0.length=Bt.length) (Qm:(OV.Am us').Nodup) (JG:∀b∈OV.Am us',b∈OV.Am us∨b∈u.addrs):Sg E ((Fz.EM m ss).set i (.ow lt (t.put p (.nd (.obj C dx N0) a us')))) O F (upd H a (.ins C dx (N0.zip Bt))):=by
 have N:=iz m ss hi Fd;obtain⟨v,e,r,nd,q⟩:=S.ok i _ hi;have g:∀b,b∈a::dx::OV.Am us->b∈t.addrs:=λb c=>OV.JF B1 b (by rw[Lp];exact c);have A:∀b∈u.addrs,b∉t.addrs:=λb c z=>by
  rcases(d b c).2.2 with⟨j,L,s,_,f,o⟩|w
  .exact S.CG j i s _ b (by rintro rfl;exact Fd L) f hi o z
  .exact S0.FK hi z w
 have B:(OV.nd (.obj C dx ns) a us).addrs.Nodup:=by
  obtain⟨l,σ,M,_⟩:=OV.split B1;rw[M,Cy,Cy]at nd;exact nd.1.2.1
 rw[Lp]at B;obtain⟨n,I⟩:=List.nodup_cons.mp B;obtain⟨G,P⟩:=List.nodup_cons.mp I;have h:∀b∈OV.Am us',b≠a:=λb c z=>by
  subst z;rcases JG b c with w|w
  .exact n (by simp[w])
  .exact A b w (g b (by simp))
 have Up:∀b∈OV.Am us',b≠dx:=λb c z=>by
  subst z;rcases JG b c with w|w
  .exact G w
  .exact A b w (g b (by simp))
 have x:dx≠a:=λz=>n (by simp[z]);refine(S.EM m).Uo N B1 (.nd (k:=.obj C dx N0) B3 (show upd H a _ dx=some (.own a) by rw[AW x];exact NI) K (J.mono (AR.refl _) λb c o ho=>by rw[AW (h b c)];exact ho)) (by
  rw[Lp];exact List.nodup_cons.mpr ⟨λz=>by
   rcases List.mem_cons.mp z with z|z
   .exact x z.symm
   .exact h a z rfl,List.nodup_cons.mpr ⟨λz=>Up dx z rfl,Qm⟩⟩) λb c=>?_
 rw[Lp]at c ⊢;rcases List.mem_cons.mp c with w|w
 .exact .inl (by simp[w])
 .rcases List.mem_cons.mp w with w|w
  .exact .inl (by simp[w])
  .rcases JG b w with z|z
   .exact .inl (by simp[z])
   .refine .inr ⟨(d b z).1,(d b z).2.1,λj s f o=>?_⟩;rcases R3 f with y|⟨Ib,hm⟩
    .subst y;cases o
    .rcases(d b z).2.2 with⟨i2,FC,s2,_,Cg,D⟩|y
     .exact S.CG j i2 s s2 b (by rintro rfl;exact hm FC) Ib Cg o D
     .exact S0.FK Ib o y
theorem ZAi{F1 H1 F3 H3:Hp}{v:V}(S:Sg E ss O F H)(LV:Mv E ss O F1 H1 F3 H3)(f:BB F1 H1 v w)(d:∀a∈w.addrs,F1 a=none/\E.H0 a=none/\((∃i∈m,∃s,s≠Slot.AY/\ss[i]?=some s/\BU s O[i]? a)∨H a=none)):
  BB F3 H3 v w/\∀b∈w.addrs,F3 b=none/\E.H0 b=none/\((∃i∈m,∃s,s≠Slot.AY/\ss[i]?=some s/\BU s O[i]? b)∨H b=none):=by
 have np:∀b∈w.addrs,CO ss O b:=λb c k hk g=>by
  rcases(d b c).2.2 with⟨j,l,s,h,Rw,o⟩|z
  .exact S.CG j k s _ b (λe=>by subst e;rw[Rw]at hk;exact h (Be hk)) Rw hk o g
  .exact S.FK hk g z
 refine⟨f.mono LV.ff λb c o e=>LV.hh b o (np b c) e,λb c=>⟨?_,(d b c).2⟩⟩;cases e:F3 b with
 |none=>rfl
 |some o=>
  rcases LV.nn b o e with z|z
  .rw[(d b c).1]at z;cases z
  .exact absurd z (f.there b c)
theorem Ll(h:Wx ss tv λm w=>Wl ss i t ta λp u=>∃lt C dx ns a us,ss[i]?=some (.ow lt t)/\u=.nd (.obj C dx ns) a us/\Bu K C/\BQ K C f/\ns.length<1000/\i∉m/\nx ((Fz.EM m ss).set i (.ow lt (t.put p (.nd (.obj C dx (M9 ns f)) a (Pq ns us f w)))))):Ws ss (VY K ta tv f) nx R:=⟨λE D O F H S W hr=>
 h.go E O F H _ S λv m w F1 H1 I T Ii M h2=>h2.go E O F1 H1 _ I.st λσ p u F2 H2 A G B1 AO=>by
  obtain⟨lt,C,dx,ns,a,us,hi,eu,Y,dN,hz,Fd,kk⟩:=AO;subst eu;have ev:σ=.ref a:=by cases G;rfl
  subst ev;obtain⟨IQ,RG⟩:=ZAi S A T M;cases G with
  |@nd _ _ vs _ Z P ft q=>
   have L4:ns.length=vs.length:=ft;have vl:=q.length;obtain⟨ep,RZ⟩:=Zy (f:=f) (v:=v) L4;refine⟨a,C,dx,ns.zip vs,rfl,Z,Y,dN,by rw[Sb];omega,?_⟩;obtain⟨v0,e0,r0,D3,q0⟩:=A.st.ok i _ hi;have N:(OV.nd (.obj C dx ns) a us).addrs.Nodup:=by
    obtain⟨l,q,g,_⟩:=OV.split B1;rw[g,Cy,Cy]at D3;exact D3.1.2.1
   rw[Lp]at N;have B:=(List.nodup_cons.mp (List.nodup_cons.mp N).2).2;have c:∀b∈w.addrs,b∉OV.Am us:=λb d z=>by
    have L:b∈t.addrs:=OV.JF B1 b (by rw[Lp];simp[z]);rcases(M b d).2.2 with⟨j,X,s,_,V,o⟩|y
    .exact S.CG j i s _ b (by rintro rfl;exact Fd X) V hi o L
    .exact S.FK hi L y
   obtain⟨Ic,FX,Q⟩:BR F2 H2 (LR ns vs f v) (Pq ns us f w)/\(OV.Am (Pq ns us f w)).Nodup/\∀b∈OV.Am (Pq ns us f w),b∈OV.Am us∨b∈w.addrs:=by
    unfold LR Pq;cases e:DX ns f with
    |some n=>
     have QR:n<us.length:=by have:=cy e;omega
     obtain⟨l,r,g,J⟩:=K9 (As QR);refine⟨q.set n IQ,?_,λb d=>?_⟩
     .show(OV.Am (us.set n w)).Nodup;rw[J];rw[g]at B;exact Sn B Ii λb d=>.inr (by rw[<- g];exact c b d)
     .have k:b∈OV.Am (us.set n w):=d;rw[J]at k;rcases List.mem_append.mp k with z|z
      .rcases List.mem_append.mp z with z|z
       .exact .inl (by rw[g];simp[z])
       .exact .inr z
      .exact .inl (by rw[g];simp[z])
    |none=>
     refine⟨q.append (.one IQ),?_,λb d=>?_⟩
     .show(OV.Am (us++[w])).Nodup;rw[Lk,NF,Cy];exact⟨B,Ii,λx hx y U e=>c y U (e▸hx)⟩
     .have k:b∈OV.Am (us++[w]):=d;rw[Lk,NF]at k;exact List.mem_append.mp k
   rw[ep];exact W _ O F2 _ kk (Sg.gq (u:=w) S A.st hi B1 P RG Fd Ic RZ FX Q) (I.ff.trans A.ff)⟩
end
theorem SQ:∀{ns:List Str}{vs:List V}{f:Str},DX ns f=none->(ns.zip vs).lookup f=none
 | [],_,_,_=>by simp
 |g::ns,[],f,h=>by simp
 |g::ns,w::vs,f,h=>by
  rw[DX]at h
  by_cases c:g=f
  .rw[u4 c]at h;cases h
  .rw[tK c]at h;rw[Ko,Hs];have:(f == g)=false:=by simpa using λz=>c z.symm
   rw[this];refine SQ ?_;cases e:DX ns f with
   |none=>rfl
   |some m=>rw[e]at h;cases h
section
variable[Xw]
variable{te:TE}{ta:TA}{lt:Bool}{t:OV}{K:ZLZ}
theorem V5{a0:Addr}{m:Str}{k:PV->OV->Prop}(hi:ss[i]?=some (.ow lt (.nd (.obj C dx ns) a0 us)))(o:DX ns m=none)(h:Og ss ta λl=>∃b,pre (.ow true (.nd (.obj C dx ns) a0 us)::l) (.mt b)/\∀p t',b p t'->∃Eg us',t'=.nd Eg a0 us'/\k p t'):
  Wm ss i lt (.nd (.obj C dx ns) a0 us) (KS C m (BN pre) [] E0 (Al i) ta) k:=⟨λE O F H Q S q=>by
 obtain⟨e,e0,d,_,_⟩:=S.ok i _ hi;have t:e=.ref a0:=by cases d;rfl
 subst t;cases d with
 |@nd _ _ Hf _ s u x w=>
  refine⟨_,e0,a0,dx,ns.zip Hf,rfl,s,SQ o,h.go E O F H _ S λvs l F1 H1 c a⟨b,n,kk⟩=>?_⟩;rw[Dz];refine⟨.ow true (.nd (.obj C dx ns) a0 us)::l,.mt b,F1,[],(OV.nd (.obj C dx ns) a0 us).addrs,n,c.st.UX hi (.here e0 a),λv F' H' f⟨p,t',r,g,nd,j,kp⟩=>?_⟩;obtain⟨Eg,us',rfl,k2⟩:=kk p t' kp;exact q v p _ F' H' (c.qZ hi (c.st.Tw hi f g nd j)) r k2⟩
theorem ke{m:Str}{k:PV->Prop}(h:Wp ss te λo=>∃ns xs,o=.obj C ns xs/\DX ns m=none/\Wa ss ta λl=>∃c,pre (.is o::l) (.is c)/\∀p,c p->k p):Wp ss (KS C m (AQ pre) [] E0 te ta) k:=⟨λE O F H Q S q=>
 h.go E O F H _ S λv o F1 H1 d i⟨ns,xs,u,n,h2⟩=>by
  subst u;cases i with
  |@obj a _ dx _ Hf _ e w t g=>
   refine⟨a,dx,ns.zip Hf,rfl,d.st.fh _ _ e,SQ n,h2.go E O F1 H1 _ d.st λvs l F2 H2 b x⟨c,j,kk⟩=>?_⟩;rw[Dz];refine⟨.is (.obj C ns xs)::l,.is c,F2,[],j,b.st.MG (.cons (s:=.is _) (Rep.obj (b.ff _ _ e) (b.ff _ _ w) t (g.mono b.ff)) x),λv F' H' f⟨p,r,kp⟩=>?_⟩;exact q v p F' H' (d.trans (b.trans (b.st.back (λ_ h=>absurd h Aa) f))) r (kk p kp)⟩
theorem Jd{k:PV->Prop}(h:Wp ss te λo=>∃C ns xs n y,o=.obj C ns xs/\Bu K C/\BQ K C f/\DX ns f=some n/\xs[n]?=some y/\k y):Wp ss (KA K te f) k:=⟨λE O F H Q S q=>
 h.go E O F H _ S λv o F1 H1 b e AO=>by
  obtain⟨C,ns,xs,n,y,m,l,j,hx,g,kk⟩:=AO;subst m;cases e with
  |@obj a _ dx _ Hf _ p s r d=>
   obtain⟨u,i,c⟩:=d.get g;exact⟨a,C,dx,ns.zip Hf,u,rfl,b.st.fh _ _ p,l,j,W9 hx i,q u y F1 H1 b c kk⟩⟩
theorem fj{k:List Nat->OV->Prop}(h:Og ss ta λl=>∀x dx:Addr,∃s,pre (.ow true (.nd (.obj C dx []) x [])::l) (.mt s)/\∀p t',s p t'->p=.AA/\∃N0 us',t'=.nd (.obj C dx N0) x us'/\k [] t'):Wx ss (XN C (BN pre) [] E0 ta) k:=⟨λE O F H Q S q=>
 h.go E O F H _ S λvs l F1 H1 d N Lo x dx hx NI Bl=>by
  rw[Dz];have G:=d.st.make NI (.own x);have σ:upd H1 dx (.own x) x=none:=by rw[AW (BO Bl)];exact hx
  have R:=G.st.make σ (.ins C dx []);have K:=G.trans R;have w:∀a o,H1 a=some o->upd (upd H1 dx (.own x)) x (.ins C dx []) a=some o:=λa o e=>by
   rw[AW (D7 e hx),AW (D7 e NI)];exact e
  have A:∀a,upd (upd H1 dx (.own x)) x (.ins C dx []) a=none->H1 a=none:=λa e=>by
   cases z:H1 a with
   |none=>rfl
   |some o=>rw[w a o z]at e;cases e
  have a0:(OV.nd (.obj C dx []) x []).addrs=[x,dx]:=by rw[Lp,OV.Gm]
  have J:BB F1 (upd (upd H1 dx (.own x)) x (.ins C dx [])) (.ref x) (.nd (.obj C dx []) x []):=.nd (k:=.obj C dx []) (vs:=[]) B3 (show upd _ x _ dx=some (.own x) by rw[AW Bl];exact B3) rfl .nil;have f0:∀a∈(OV.nd (.obj C dx []) x []).addrs,H1 a=none:=λa b=>by
   rw[a0]at b;simp only[GR,Aa,ZA5]at b;rcases b with rfl|rfl
   .exact hx
   .exact NI
  have T:(OV.nd (.obj C dx []) x []).addrs.Nodup:=by
   rw[a0];simp[BO Bl]
  have D:=Sg.gm (j:=ss.length) (m:=[]) (v:=.ref x) (u:=.nd (.obj C dx []) x []) (d.st.grown 1) (K.st.grown 1) J T λa b=>⟨d.st.CK (f0 a b),d.st.DB (f0 a b),.inr (f0 a b)⟩;have W:=d.st.len;have hi:((ss++List.replicate 1 Slot.any).set ss.length (.ow false (.nd (.obj C dx []) x [])))[ss.length]?=some (.ow false (.nd (.obj C dx []) x [])):=DA (by simp);have e0:((O++List.replicate 1 none).set ss.length (some (V.ref x)))[ss.length]?=some (some (.ref x)):=DA (by simp;omega);obtain⟨s,L,kk⟩:=Lo x dx;refine⟨.ow true (.nd (.obj C dx []) x [])::l,.mt s,F1,[],(OV.nd (.obj C dx []) x []).addrs,L,D.UX hi (.here e0 N),λv F' H' f⟨p,t',r,y,nd,t,kp⟩=>?_⟩;obtain⟨rfl,N0,us',rfl,k2⟩:=kk p t' kp;have B:=D.Tw hi f y nd t;have at':∀n,n<ss.length->((ss++List.replicate 1 Slot.any).set ss.length (.ow false (.nd (.obj C dx []) x [])))[n]?=ss[n]?:=λn g=>by rw[CZ (by omega),EW g]
  have I:∀n,n<ss.length->((O++List.replicate 1 none).set ss.length (some (V.ref x)))[n]?=O[n]?:=λn g=>by rw[CZ (by omega),EW (by omega)]
  have np:∀a,H1 a≠none->CO ss O a->CO ((ss++List.replicate 1 Slot.any).set ss.length (.ow false (.nd (.obj C dx []) x []))) ((O++List.replicate 1 none).set ss.length (some (V.ref x))) a:=λa _ g n hk=>by
   by_cases c:n<ss.length
   .rw[at' n c]at hk;rw[I n c];exact g n hk
   .by_cases c2:n=ss.length
    .subst c2;rw[hi]at hk;cases hk
    .rw[ZKY (by simp;omega)]at hk;cases hk
  have P:Mv E ss O F1 H1 F' H':=d.st.step B.ff B.st.fh (λa o g e=>B.hh a o (np a (by rw[e];simp) g) (λz=>by rw[f0 a z]at e;cases e) (w a o e)) (λa o e=>(B.nn a o e).imp id (A a)) λn U g M=>by
   have c:n<ss.length:=(List.getElem?_eq_some_iff.mp g).1;refine B.st.GG (i:=n) ?_ (by rw[I n c];exact M);rw[CZ (by omega)];exact(at' n c).trans g
  cases r.inv;refine⟨rfl,q (.ref x) [] _ F' H' (d.trans P) y nd (λa b=>?_) k2⟩;have h1:H1 a=none:=(t a b).2.elim (A a) (f0 a);exact⟨(t a b).1,d.st.DB h1,.inr (d.none h1)⟩⟩
end
end Fz
namespace L2
section
variable{X:Cx}{o e value:Expr}{f:Str}{pos pos' K4:Pos}{ta tv:TE}
theorem Cc(b:QE X e ta)(i:attributeBase e f X.env (eval e X.env)=eval e X.env:=by rfl):QE X (.Attribute e f pos) (KA X.K ta f):=⟨by
 have b:=b.h;intro Zd s O H Q I h;refine o7 i (b.k I h λu m x H1 I1 d HI=>?_);obtain⟨a,C,dx,fs,v,ex,ea,c,n,l,q⟩:=HI;subst ex;obtain rfl:u=Value.ref a:=d;exact gK I1 ea c n l λj s2 I2 g=>⟨v,H1,I2,g,q⟩⟩
theorem JR(d:QE X o ta)(b:QE X value tv)(p:swapsWith value (some (.Attribute o f pos')) pos.line X.env=pure false:=by rfl):QS X (.Assign [.Attribute o f pos'] value pos) (VY X.K ta tv f):=⟨by
 have d:=d.h;have b:=b.h;intro Zd s O H D I h;refine ZAf (b.k I h λu e y H1 I1 g q=>?_) p;refine Ay (d Zd e O H1 _ I1 q) λm s2 z=>?_;obtain⟨x,H2,I2,i,a,C,dx,fs,rfl,ea,c,n,l,j⟩:=z;obtain rfl:m=Value.ref a:=i;exact gJ I2 ea c n l g λr I3=>⟨O,_,I3,j⟩⟩
theorem ZEJ{op:Operator}{rd:V->V->Hp->VK->Prop}(d:QE X o ta)(b:QE X value tv)(ZY:j6 X op rd):QS X (.AugAssign (.Attribute o f K4) op value pos) (QB X.K ta tv rd f):=⟨by
 have d:=d.h;have b:=b.h;intro Zd s O H D I h;refine wpAny_AugAssign_AttributeAny (d.k I h λA G x H1 I1 p HI=>?_);obtain⟨a,C,dx,fs,v,ex,ea,c,n,l,q⟩:=HI;subst ex;obtain rfl:A=Value.ref a:=p;refine gK I1 ea c n l λu s2 I2 r=>b.k I2 q λg i y H2 I3 m w=>Ay (ZY Zd i O H2 v y u g _ I3 r m w) λE s4 Q0=>?_;obtain⟨z,H3,I4,j,dx',Of,e,B,t⟩:=Q0;exact gJ I4 e c n B j λF I5=>⟨O,_,I5,t⟩⟩
end
end L2
namespace Fz
open L2 Lw
section
variable[Xw]
variable{ss:List Slot}{ta tv:TE}{nx:List Slot->Prop}{R:Ag}{i:Nat}{t:OV}{K:ZLZ}{f:Str}
theorem ZA6{g:Int->Int->Int}(h:Wl ss i t ta λp u=>∃lt C dx ns a us n x,ss[i]?=some (.ow lt t)/\u=.nd (.obj C dx ns) a us/\Bu K C/\BQ K C f/\ns.length<1000/\DX ns f=some n/\us[n]?=some (.fz (.int x))/\Wp ss tv λq=>∃y,q=.int y/\nx (ss.set i (.ow lt (t.put p (.nd (.obj C dx ns) a (us.set n (.fz (.int (g x y))))))))):Ws ss (QB K ta tv (Ks g) f) nx R:=⟨λE D O F H S V hr=>
 h.go E O F H _ S λv p u F1 H1 j s B1 z=>by
  obtain⟨lt,C,dx,ns,a,us,n,x,hi,eu,W,dN,hz,hx,U,h2⟩:=z;subst eu;have ev:v=.ref a:=s.inv.elim λ_ h=>h.1;subst ev;have IQ:=s;obtain⟨vs,_,X,sd,ft,B⟩:=s.inv;obtain⟨w,hw,o⟩:=B.get U;have Z:w=.int x:=(o.inv:Rep _ _ _).inv;subst Z;refine⟨a,C,dx,ns.zip vs,.int x,rfl,X,W,dN,W9 hx hw,h2.go E O F1 H1 _ j.st λv2 q F2 H2 e T P=>?_⟩;obtain⟨y,Y,kk⟩:=P;subst Y;cases T.inv;refine⟨x,y,rfl,rfl,?_⟩;have Q:=IQ.mv j.st ⟨lt,hi⟩ B1 e;obtain⟨EY,_,A,k,RZ,Ic⟩:=Q.inv;have L4:ns.length=EY.length:=RZ;have vl:=Ic.length;obtain⟨ep,G⟩:=Zy (f:=f) (v:=.int (g x y)) L4;refine⟨dx,ns.zip EY,A,by rw[Sb];omega,?_⟩;have QR:n<us.length:=by have:=cy hx;omega
  obtain⟨v0,e0,r0,D3,q0⟩:=e.st.ok i _ hi;have σ:(OV.nd (.obj C dx ns) a us).addrs.Nodup:=by
   obtain⟨l,B,d,_⟩:=OV.split B1;rw[d,Cy,Cy]at D3;exact D3.1.2.1
  rw[Lp]at σ;have N:=(List.nodup_cons.mp (List.nodup_cons.mp σ).2).2;have J:M9 ns f=ns:=by unfold M9;rw[hx]
  have I:LR ns EY f (.int (g x y))=EY.set n (.int (g x y)):=by unfold LR;rw[hx]
  rw[ep,J,I];rw[J,I]at G;obtain⟨l,r,d,L⟩:=K9 (As QR);have M:=Sg.gq (m:=[]) (u:=.fz (.int (g x y))) (us':=us.set n (.fz (.int (g x y)))) j.st e.st hi B1 k (λb c=>by rw[OV.IE]at c;cases c) (by simp) (Ic.set n (.fz (.int _))) G (by
   rw[L];rw[d]at N;exact Sn N (by rw[OV.IE];exact HN) λb c=>by rw[OV.IE]at c;cases c) λb c=>by
    rw[L,OV.IE]at c;rcases List.mem_append.mp c with z|z
    .rcases List.mem_append.mp z with z|z
     .exact .inl (by rw[d];simp[z])
     .cases z
    .exact .inl (by rw[d];simp[z])
  exact V _ O F2 _ kk M (j.ff.trans e.ff)⟩
end
end Fz
namespace L2
variable{pl:Sem Bool}
def CN(P:Program)(w:World)(K:ZLZ)(mg:ZLb)(Zp:Heap)(C:Addr)(m:Str)(k:Nat)(ps:List Str)(sp:Sp):Prop:=
 ∃f fd,CU P w K mg Zp Dr k f fd ps sp/\Binds K fd ps []/\Meth K C m f/\Bu K C
def R6(P:Program)(w:World)(K:ZLZ)(mg:ZLb)(Zp:Heap)(C:Addr)(k:Nat)(ps:List Str)(sp:Sp):Prop:=
 ∃f fd,CU P w K mg Zp Dr k f fd ps sp/\Binds K fd ps []/\Mk K C f
section
variable{X:Cx}{o e:Expr}{es:List Expr}{m x:Str}{C:Addr}{k j:Nat}{ps:List Str}{sp:Sp}{ta:TE}{t:TA}{apos pos p:Pos}
theorem IS(h:CN X.prog X.w X.K X.mg X.base C m k ps sp)(a:BP j X.A)(hk:k<=j)(g:QE X o ta)(i:QA X (e::es) t)
  (Ci:Cp X e es:=by rfl) (BS:BEq X pos es:=by rfl)
  (ht:eval (.Call (.Attribute o m apos) (e::es) [] pos) X.env=(do
   let ov <- eval o X.env
   standAt apos.atName
   let (f,first) <- holding [ov] (getMethod ov m pl)
   callWith pos f first (backTo pos (starEach (e::es) X.env)) (backToKw pos (keywordEach [] X.env))):=by rfl) :
  QE X (.Call (.Attribute o m apos) (e::es) [] pos) (KS C m sp [] E0 ta t):=by
 obtain⟨f,fd,F,b,d,c⟩:=h;exact⟨uG g.h c d (F.mono hk) a b .nil Tx i.h Ci BS ht⟩
theorem HX(h:CN X.prog X.w X.K X.mg X.base C m k ps sp)(d:BP j X.A)(hk:k<=j)(g:QE X o ta)
  (a:eval (.Call (.Attribute o m apos) [] [] pos) X.env=(do
   let ov <- eval o X.env
   standAt apos.atName
   let (f,first) <- holding [ov] (getMethod ov m pl)
   callWith pos f first (backTo pos (starEach [] X.env)) (backToKw pos (keywordEach [] X.env))):=by rfl) :
  QE X (.Call (.Attribute o m apos) [] [] pos) (KS C m sp [] E0 ta BA):=by
 obtain⟨f,fd,F,b,e,c⟩:=h;exact⟨xp g.h c e (F.mono hk) d b .nil Tx a⟩
theorem kG(h:R6 X.prog X.w X.K X.mg X.base C k ps sp)(a:BP (j+1) X.A)(hk:k<=j)(c:X.mg x=some (.ref C))(g:QA X (e::es) t)(d:Gl X x:=by rfl)(BY:Zq0 x:=by decide)
  (he:Cp X e es:=by rfl) (BS:BEq X pos es:=by rfl):QE X (.Call (.Name x p) (e::es) [] pos) (XN C sp [] E0 t):=by
 obtain⟨f,fd,F,b,M⟩:=h;exact⟨ZK9 M (F.mono hk) a d c b .nil Tx g.h BY he BS⟩
variable{prog:Program}{w:World}{A:Around}{E:Value->Shared->Prop}{s:Shared}
end
end L2
set_option maxHeartbeats 200000
set_option maxHeartbeats 4000000
namespace Fz
open L2 Lw
section
variable[Xw]
variable{ss:List Slot}{nx:List Slot->Prop}{R:Ag}{K:ZLZ}{S:Addr}{tb:(L2.St->XK)->TS}{th:TS}{ta te ti:TE}{xs:List PV}{F:Hp}
theorem AV.rep{vs:List V}(h:AV F vs xs):∀n:Nat,AV F (List.replicate n vs).flatten (List.replicate n xs).flatten
 | 0=>.nil
 |n+1=>by rw[Nj,Nj,Ph,Ph];exact h.append (AV.rep h n)
theorem ZEg{k:List PV->Prop}(h:Wq ss ta λtp xs=>tp=false/\Wp ss te λp=>∃n:Int,p=.int n/\-1000<=n/\n<=1000/\xs.length<=10/\k (List.replicate n.toNat xs).flatten):Wn ss (Ba jQ ta te) k:=⟨λE O F H Q S q=>
 h.go E O F H _ S λv tp xs F1 H1 c sv⟨m,h2⟩=>h2.go E O F1 H1 _ c.st λs p F2 H2 b e⟨n,o,n0,t,g,kk⟩=>by
  subst m;subst o;cases e.inv;obtain⟨l,vs,rfl,j,r⟩:=(sv.mv b).seq b.st;have i:vs.length * n.toNat<=10 * 1000:=Nat.mul_le_mul (by rw[r.length];exact g) (by omega);refine⟨l,n,vs,rfl,rfl,j,by omega,by omega,small (CB i (by decide)),λa d=>?_⟩;have f:=b.st.make d (.lst (List.replicate n.toNat vs).flatten);exact q a _ _ F2 _ (c.trans (b.trans f)) (b.st.CK d) ((c.trans b).none d) B3 (r.rep _) kk⟩
end
end Fz
namespace L2
open Lw
section
variable{X:Cx}
theorem wN:GH X "list.extend" ao:=yP
theorem SH{i:Nat}{x:Str}{e:Expr}{te:TE}{op:Operator}{ti:LQ}{pos pos':Pos}(F:X.N.Nodup)(hi:X.N[i]?=some x)(hx:Loc X.env.scope x)(b:QE X e te)(ho:OF X op ti)(C:Zq1 X x:=by first|exact .inl rfl|exact .inr rfl|assumption):
  QS X (.AugAssign (.Name x pos') op e pos) (Sq i te ti):=⟨by
 have b:=b.h;intro Zd s O H D I h;obtain⟨v,G,h⟩:=h;obtain⟨m,q,B⟩:=I.loc;have a:Qj X.env.scope x:=by rcases hx with k|k;exact .inl k;exact .inr (.inl k)
 obtain⟨u,r,l⟩:=B i x v hi G a;refine wpAny_AugAssign_Name ?_;have go:Zq2 X (eval e X.env) (λw f=>Zq2 X (inplaceOp op u w) (λr d=>Zq2 X (storeName X.env x r) (λ_=>SP X Zd D .next) X.xe d) X.xe f) X.xe s:=by
  refine Ay (b Zd s O H _ I h) λw g ZFw=>?_;obtain⟨y,H1,I1,n,p⟩:=ZFw;refine Ay (ho Zd g O H1 v y u w _ I1 r n p) λz s2 Zg=>?_;obtain⟨J,H2,I2,j,o⟩:=Zg;exact Tv I2 F hi hx j (λK I3=>⟨_,H2,I3,o⟩) C
 rcases l with⟨hk,t⟩|⟨hk,c,E,Tg⟩
 .exact wpAny_loadName_local I.ok.kind hk q t go
 .rcases hk with hk|hk
  .exact wpAny_loadName_cell I.ok.kind hk E Tg go
  .rcases hx with k|k
   .have:X.env.scope.names.lookup x=some .free:=hk;rw[k]at this;cases this
   .have:X.env.scope.names.lookup x=some .free:=hk;rw[k]at this;cases this⟩
end
end L2
namespace Fz
open L2 Lw
variable{ps xs:List PV}{i:Nat}{js:List Nat}
section
variable[Xw]
variable{E:Ent0}{ss:List Slot}{O:L2.St}{F H F' H':Hp}{K:ZLZ}{ta tb tc te:TE}{k:PV->Prop}{v:V}{tp:Bool}{nx:List Slot->Prop}{R:Ag}
theorem xr(hi:ss[i]?=some (.own xs))(h:Wn ss te λys=>xs.length+ys.length<=100000/\nx (ss.set i (.own (xs++ys)))):Ws ss (HA (GJ K "list" ao (Al i) (AX te BA))) nx R:=⟨λE D O F H S g m=>by
 obtain⟨l,vs,e,q,p,j,r⟩:=S.ok i _ hi;refine⟨_,e,.inl ⟨rfl,_,AU.of j⟩,h.go E O F H _ S λl2 EY ys F1 H1 a o n N7 b⟨f,kk⟩=>?_⟩;obtain⟨k,Bt,d,En,Cj,MI,c⟩:=a.st.ok i _ hi;rw[e]at d;cases d;refine⟨l,l2,Bt,EY,rfl,rfl,MI,N7,small (by rw[c.length,b.length];exact f),?_⟩;exact g _ O F1 _ kk (a.st.put hi e En Cj (c.append b)) a.ff⟩
theorem VM{a:Int}{f:Int->Int->Int}(hi:ss[i]?=some (.is (.int a)))(h:Wp ss te λp=>∃b,p=.int b/\nx (ss.set i (.is (.int (f a b))))):Ws ss (Sq i te (Ks f)) nx R:=⟨λE D O F H S g l=>by
 obtain⟨v,e,r⟩:=S.ok i _ hi;cases r.inv;refine⟨_,e,h.go E O F H _ S λk p F1 H1 c d⟨b,j,kk⟩=>?_⟩;subst j;cases d.inv;exact⟨a,b,rfl,rfl,g _ _ F1 H1 kk (c.st.Gr (.int _)) c.ff⟩⟩
theorem iy{j:Nat}(h:js[i]?=some j):(Bh js O)[i]?=some ((O[j]?).join):=by
 unfold Bh;rw[Ax,h];rfl
theorem join_some{o:Option (Option V)}{a:Addr}(h:some o.join=some (some (V.ref a))):o=some (some (.ref a)):=by
 cases o with
 |none=>cases h
 |some q=>cases q with
  |none=>cases h
  |some v=>simpa using h
theorem Mv.k6{vs:List V}(S:Sg E ss O F H)(m:Mv E (CT js ss++ps.map .is) (Bh js O++vs.map some) F H F' H'):Mv E ss O F H F' H':=by
 have r:(CT js ss).length=js.length:=by simp[CT]
 have s:(Bh js O).length=js.length:=by simp[Bh]
 have k:∀(i:Nat)(a:Addr),(CT js ss++ps.map .is)[i]?=some .AY->(Bh js O++vs.map some)[i]?=some (some (.ref a))->∃j,js[i]?=some j/\ss[j]?=some .AY/\O[j]?=some (some (.ref a)):=λi a hi f=>by
  by_cases h:i<js.length
  .rw[EW (by rw[r];exact h)]at hi;rw[EW (by rw[s];exact h)]at f;have d:=As h;have q:=qd d hi;rw[iy d]at f;refine⟨js[i],d,?_,join_some f⟩;cases w:ss[js[i]]? with
   |none=>rw[w]at q;cases q
   |some u=>rw[w]at q;cases q;rfl
  .rw[G5 (by omega),Ax]at hi;cases w:ps[i - (CT js ss).length]? with
   |none=>rw[w]at hi;cases hi
   |some p=>rw[w]at hi;cases hi
 refine S.step m.ff m.st.fh (λa o n e=>m.hh a o (λi hi f=>?_) e) m.nn λi l hi e=>?_
 .obtain⟨j,_,h1,h2⟩:=k i a hi f;exact n j h1 h2
 .by_cases c:∃b:Nat,js[b]?=some i
  .obtain⟨b,c⟩:=c;have lt:b < js.length:=(List.getElem?_eq_some_iff.mp c).1;refine m.st.GG (i:=b) ?_ ?_
   .rw[EW (by rw[r];exact lt)];unfold CT;rw[Ax,c];show some ((ss[i]?).getD .any)=_;rw[hi];rfl
   .rw[EW (by rw[s];exact lt),iy c,e];rfl
  .refine C4.keep (S.GG hi e) λo v=>m.hh l o (λb Cq g=>?_) v;obtain⟨j,t,h1,h2⟩:=k b l Cq g;have d:j≠i:=by rintro rfl;exact c ⟨b,t⟩
   exact S.CG j i _ _ l d h1 hi h2 e
theorem ZA4{wi:TI}{tt:TT}{k:List PV->Prop}(P:PV->PV->Prop)
  (h:Wi ss wi λxs=>xs.length<=100000/\(∀x∈xs,Wt (CT js ss++[.is x]) tt λb=>b=true)/\(∀x∈xs,Wp (CT js ss++[.is x]) te (P x))/\∀ys:List PV,ys.length=xs.length->(∀(j:Nat)x y,xs[j]?=some x->ys[j]?=some y->P x y)->k ys)
  (nd:js.Nodup:=by decide):Wn ss (KL wi js tt te) k:=⟨λE O F H Q S q=>
 h.go E O F H _ S λJ xs F1 H1 f u⟨hz,V,W,kk⟩acc BI=>by
  have GL:CO ss O acc:=f.st.J6 BI;have JK:=f.st.DB BI;have JJ:∀(i:Nat)s,ss[i]?=some s->¬ BU s O[i]? acc:=λi s hi=>f.st.KQ hi BI;refine⟨λi m H2=>m=xs.length - i/\i<=xs.length/\∃F2 vs ys,Mv E ss O F1 H1 F2 H2/\F2 acc=none/\H2 acc=some (.lst vs)/\AV F2 vs ys/\ys.length=i/\∀(j:Nat)x y,xs[j]?=some x->ys[j]?=some y->P x y,⟨_,rfl,Cf _,F1,[],[],f.st.make BI _,f.st.CK BI,B3,.nil,rfl,λj x y _ e=>by simp at e⟩,?_⟩;rintro i m H2⟨rfl,hi,F2,vs,ys,d,L,B,v,Ma,K⟩
  by_cases D:i<xs.length
  .refine .inr ⟨u.go ss O F2 H2 i d.ff d.st D,λx H3 y=>?_⟩;obtain⟨p,F3,I,z,G⟩:=u.FT ss O F2 H2 i x H3 d.ff d.st D y;have N:p∈xs:=C7 I;have Jt:∀{F4:Hp},(∀a o,F4 a=some o->F2 a=some o∨H2 a=none)->F4 acc=none:=λ{F4}n=>by
    cases e:F4 acc with
    |none=>rfl
    |some o=>
     rcases n acc o e with w|w
     .rw[L]at w;cases w
     .rw[B]at w;cases w
   have S3:=z.st.AN (js:=js) nd (.one G);refine(V p N).go E _ F3 H3 _ S3 λb F4 H4 U g=>?_;have M:=U.k6 (ps:=[p]) (vs:=[x]) z.st;have C:=z.trans M;show if b=true then _ else _
   rw[g,u4 rfl];have Z:=C.st.AN (js:=js) nd (.one (G.mono M.ff));refine(W p N).go E _ F4 H4 _ Z λw R F5 H5 T KY X=>?_;have MM:=T.k6 (ps:=[p]) (vs:=[x]) C.st;have t:=C.trans MM;have M0:=t.hh acc _ GL B;have σ:=Jt t.nn;have l:vs.length<=99999:=by
    rw[v.length,Ma];omega
   refine⟨vs,M0,IT l,xs.length - (i+1),by omega,rfl,D,F5,vs++[w],ys++[R],?_,σ,B3,(v.mono t.ff).append (.one KY),by simp[Ma],λj a b A g=>?_⟩
   .have r:=d.trans t;refine⟨r.st.NT σ (.inl JK) JJ,r.ff,λa o n e=>?_,r.nn⟩;rw[AW (D7 e BI)];exact r.hh a o n e
   .by_cases c:j<ys.length
    .rw[EW c]at g;exact K j a b A g
    .have Y:j=i:=by
      have:=(List.getElem?_eq_some_iff.mp g).1;rw[By,Ir]at this;omega
     subst Y;rw[G5 (by omega),Ma,e9]at g;rw[I]at A;cases A;cases g;exact X
  .have e:i=xs.length:=by omega
   subst e;exact .inl ⟨u.stop ss O F2 H2 d.ff d.st,q acc vs _ F2 H2 (f.trans d) L (f.none BI) B v (kk ys Ma K)⟩⟩
variable{t:OV}
end
end Fz
namespace L2
def Hx(s:Stmt)(n:Nat):Stmt:=match s with
 | .ClassDef _ _ _ b ..=>b.getD n (.Pass ⟨0,0,0,0⟩)
 |s=>s
end L2
namespace Fz
open L2 Lw
@[reducible] def xwM (X:XK) (t:OV) (D:Ex->Prop):Xw:=⟨λ_=>X,λss=>ss[0]?=some (.ow true t),D⟩
variable{pre:Pre}{R:Ag}{A6 ss:List Slot}{C f:Addr}
section
variable{pre:EZ}{H:Hp}
def ZM(R:Ag)(A6:List Slot):Prop:=∃(k:PV->OV->Prop)(nk:NK)(a:Addr)(us:List OV),R=.mt k/\A6[0]?=some (.ow true (.nd nk a us))/\k .AA (.nd nk a us)
theorem ZM.ok{E:Ent0}{O:L2.St}{F:Hp}(h:ZM R A6)(S:Sg E A6 O F H):R.ok E F H .AA:=by
 obtain⟨k,nk,a,us,rfl,g,hk⟩:=h;obtain⟨f,e0,c,D3,d⟩:=S.ok 0 _ g;have i:f=.ref a:=by cases c;rfl
 subst i;exact⟨.AA,.nd nk a us,.AA,c,D3,λb e=>⟨(d b e).1,(d b e).2.imp id λz=>z.2⟩,hk⟩
end
section
variable[Xw]
variable{te tv:TE}{ta:TA}{i:Nat}{lt:Bool}{t:OV}{nx:List Slot->Prop}{K:ZLZ}{f:Str}
theorem GX{m:Str}{k:List PV->Prop}(h:Wp ss te λo=>∃ns xs,o=.obj C ns xs/\DX ns m=none/\Wa ss ta λl=>∃d,pre (.is o::l) (.new d)/\∀p,d p->k p):Wn ss (KS C m (AQ pre) [] E0 te ta) k:=⟨λE O F H Q S q=>
 h.go E O F H _ S λv o F1 H1 c j⟨ns,xs,y,t,h2⟩=>by
  subst y;cases j with
  |@obj a _ dx _ Hf _ g z u i=>
   refine⟨a,dx,ns.zip Hf,rfl,c.st.fh _ _ g,SQ t,h2.go E O F1 H1 _ c.st λvs l F2 H2 b A⟨d,n,kk⟩=>?_⟩;rw[Dz];refine⟨.is (.obj C ns xs)::l,.new d,F2,[],n,b.st.MG (.cons (s:=.is _) (Rep.obj (b.ff _ _ g) (b.ff _ _ z) u (i.mono b.ff)) A),λv F' H' f⟨a,YJ,e,x,w,h1,K0,r,kp⟩=>?_⟩;subst x;exact q a YJ e F' H' (c.trans (b.trans (b.st.back (λ_ h=>absurd h Aa) f))) w (c.none (b.none h1)) K0 r (kk e kp)⟩
end
section
variable{P:Program}{w:World}{K:ZLZ}{mg:ZLb}{Zp:Heap}{x qual:Str}{st:Stmt}{fd:FuncData}{N ps:List Str}{k:Nat}
theorem Oj(F:AG K x qual st f fd)(S:Au N ps (AL st))(a:∀ss R,pre ss R->ss.length=ps.length)
  (c:∀{Af:Value}{A:Around}{outer:List Env}{s:Shared}{H:Hp}{E:XK},BP k (A.deeper (envOfC qual (AL st) s.heap.objs.size f Af))->
   ∃t,FN (Di Dr P w K mg Zp N qual (AL st) f Af A outer s H E).K3 (FQ st) t/\∀ss R,pre ss R->Ws (ss++List.replicate (N.length - ps.length) .any) t (λ_=>∃k,R=.is k/\k .AA) R):CU P w K mg Zp Dr (k+1) f fd ps (AQ pre):=
 F.Ec S (λvs H Q E h=>ZCV a h) λAf A outer s H vs Q E b h=>let ⟨t,q,r⟩:=c b;⟨t,q,ZGh h a r⟩
theorem jj(F:AG K x qual st f fd)(S:Au N ps (AL st))(a:∀ss R,pre ss R->ss.length=ps.length)
  (c:∀{Af:Value}{A:Around}{outer:List Env}{s:Shared}{H:Hp}{E:XK},BP k (A.deeper (envOfC qual (AL st) s.heap.objs.size f Af))->
   ∃t,FN (Di Dr P w K mg Zp N qual (AL st) f Af A outer s H E).K3 (FQ st) t/\∀ss R,pre ss R->Ws (ss++List.replicate (N.length - ps.length) .any) t (λ_=>False) R):CU P w K mg Zp Dr (k+1) f fd ps (BN pre):=
 F.Ec S (λvs H Q E h=>MR a h) λAf A outer s H vs Q E b h=>let ⟨t,q,r⟩:=c b;⟨t,q,ZIz h a r⟩
theorem fnX{pre:EZ}(F:AG K x qual st f fd)(S:Au N ps (AL st))(a:∀ss R D,pre ss R D->ss.length=ps.length)
  (c:∀{Af:Value}{A:Around}{outer:List Env}{s:Shared}{H:Hp}(E:XK),BP k (A.deeper (envOfC qual (AL st) s.heap.objs.size f Af))->
   ∃t,FN (Di (Gg P w) P w K mg Zp N qual (AL st) f Af A outer s H E) (FQ st) t/\∀ss R D,pre ss R D->let _i:Xw:=Vt E D;Ws (ss++List.replicate (N.length - ps.length) .any) t (λ_=>∃k,R=.is k/\k .AA) R):CU P w K mg Zp (Gg P w) (k+1) f fd ps (Bx pre):=
 F.t8 S (λvs H Q E h=>ZF0 a h) λAf A outer s H vs Q E b h=>let ⟨t,q,r⟩:=c E b;⟨t,q,ZEt h a r⟩
theorem hF(F:AG K x qual st f fd)(b:∀(kV a c:Value)(g:Option Addr)(Af ct:Value)(us:List Value),us.length=ps.length->bindArgs (PySem.W.fnOf x qual (L7 st) (FQ st) (AL st) .none kV a c g Af ct) ⟨us,[]⟩=pure (ps.zip us))(m:mg x=some (.ref f))(S:Au N ps (AL st))(d:∀ss R,pre ss R->ss.length=ps.length)
  (e:∀{Af:Value}{A:Around}{outer:List Env}{s:Shared}{H:Hp}{E:XK},BP k (A.deeper (envOfC qual (AL st) s.heap.objs.size f Af))->
   ∃t,FN (Di Dr P w K mg Zp N qual (AL st) f Af A outer s H E).K3 (FQ st) t/\∀ss R,pre ss R->Ws (ss++List.replicate (N.length - ps.length) .any) t (λ_=>∃k,R=.is k/\k .AA) R):AI P w K mg Zp x (k+1) ps (AQ pre):=
 AI.mk F (F.binds b) m (Oj F S d e)
theorem hM(F:AG K x qual st f fd)(b:∀(kV a c:Value)(g:Option Addr)(Af ct:Value)(us:List Value),us.length=ps.length->bindArgs (PySem.W.fnOf x qual (L7 st) (FQ st) (AL st) .none kV a c g Af ct) ⟨us,[]⟩=pure (ps.zip us))(m:mg x=some (.ref f))(S:Au N ps (AL st))(d:∀ss R,pre ss R->ss.length=ps.length)
  (e:∀{Af:Value}{A:Around}{outer:List Env}{s:Shared}{H:Hp}{E:XK},BP k (A.deeper (envOfC qual (AL st) s.heap.objs.size f Af))->
   ∃t,FN (Di Dr P w K mg Zp N qual (AL st) f Af A outer s H E).K3 (FQ st) t/\∀ss R,pre ss R->Ws (ss++List.replicate (N.length - ps.length) .any) t (λ_=>False) R):AI P w K mg Zp x (k+1) ps (BN pre):=
 AI.mk F (F.binds b) m (jj F S d e)
theorem hX{pre:EZ}(F:AG K x qual st f fd)(b:∀(kV a c:Value)(g:Option Addr)(Af ct:Value)(us:List Value),us.length=ps.length->bindArgs (PySem.W.fnOf x qual (L7 st) (FQ st) (AL st) .none kV a c g Af ct) ⟨us,[]⟩=pure (ps.zip us))(m:mg x=some (.ref f))(S:Au N ps (AL st))(d:∀ss R D,pre ss R D->ss.length=ps.length)
  (e:∀{Af:Value}{A:Around}{outer:List Env}{s:Shared}{H:Hp}(E:XK),BP k (A.deeper (envOfC qual (AL st) s.heap.objs.size f Af))->
   ∃t,FN (Di (Gg P w) P w K mg Zp N qual (AL st) f Af A outer s H E) (FQ st) t/\∀ss R D,pre ss R D->let _i:Xw:=Vt E D;Ws (ss++List.replicate (N.length - ps.length) .any) t (λ_=>∃k,R=.is k/\k .AA) R):Bs P w K mg Zp x (k+1) ps (Bx pre):=
 Bs.mk F (F.binds b) m (fnX F S d e)
end
end Fz
namespace L2
variable{X:Cx}{e o:Expr}{te to:TE}{pos pos':Pos}{x:Str}{r:List V->Hp->VK->Prop}{op:CmpOp}{Zd:ZLa}{H:Hp}{s:Shared}
section
variable{a b:Expr}{es:List Expr}{ta tb:TE}{t:TA}{p:Pos}
theorem BZ{id:String}(c:Dp X (.builtin id) r)(a:X.mg x=none)(d:QA X (e::es) t)(b:Gl X x:=by rfl)(hv:bootBuiltins x=some (.builtin id):=by decide+kernel)(hn:x ≠"__name__" := by decide)(BY:Zq0 x:=by decide)
  (he:Cp X e es:=by rfl) (BS:BEq X pos es:=by rfl):QE X (.Call (.Name x p) (e::es) [] pos) (El r t):=sS c b a hv d hn BY he BS
theorem Hw{T:String}(c:Dp X (.type T) r)(a:X.mg x=none)(d:QA X (e::es) t)(b:Gl X x:=by rfl)(hv:bootBuiltins x=some (.type T):=by decide+kernel)(hn:x ≠"__name__" := by decide)(BY:Zq0 x:=by decide)
  (he:Cp X e es:=by rfl) (BS:BEq X pos es:=by rfl):QE X (.Call (.Name x p) (e::es) [] pos) (El r t):=ZI5 c b a hv d hn BY he BS
theorem Ab{r:R2}(d:D1 X r)(f:QE X a ta)(e:QE X b tb)(c:Ze b:=by exact λ_ _=>rfl):QE X (.Subscript a b pos) (Ba r ta tb):=xI d f e c
theorem Ai{j k:Nat}{ps:List Str}{sp:Sp}(h:AI X.prog X.w X.K X.mg X.base x k ps sp)(a:BP j X.A)(b:QA X (e::es) t)(hk:k<=j:=by decide)(hg:Gl X x:=by rfl)(BY:Zq0 x:=by decide)
  (he:Cp X e es:=by rfl) (BS:BEq X pos es:=by rfl):QE X (.Call (.Name x p) (e::es) [] pos) (ED sp [] E0 t):=ZJQ h a hk b hg BY he BS
theorem Ht{r:R2}(ho:BX X (compareOp op) r)(e:QE X a ta)(d:QE X b tb)(c:behindInMarks op b=false:=by first|exact oS _|with_unfolding_all rfl):QE X (.Compare a [op] [b] pos) (Ba r ta tb):=ZDN ho e d c
theorem Aw{r:R2}(ho:BX X (compareOp op) r)(e:QE X a ta)(d:QE X b tb)(c:behindInMarks op b=false:=by first|exact oS _|with_unfolding_all rfl):QT X (.Compare a [op] [b] pos) (K2 (Ba r ta tb)):=qJ ho e d c
theorem Ah(i:Nat)(b:X.N.Nodup)(a:QE X e te)(hi:X.N[i]?=some x:=by rfl)(hx:Loc X.env.scope x:=by first|exact Or.inl rfl|exact Or.inr rfl)(hs:swapsWith e (some (.Name x pos')) pos.line X.env=pure false:=by rfl)(hf:Zq1 X x:=by first|exact .inl rfl|exact .inr rfl|assumption):
  QS X (.Assign [.Name x pos'] e pos) (Ez te (D2 i)):=ZIL b hi hx a hs hf
theorem D8(i:Nat)(a:X.N.Nodup)(hi:X.N[i]?=some x:=by rfl)(hx:Loc X.env.scope x:=by first|exact Or.inl rfl|exact Or.inr rfl)(hf:Zq1 X x:=by first|exact .inl rfl|exact .inr rfl|assumption):QG X (.Name x pos) (D2 i):=ZEw a hi hx hf
end
open AutoSeq1 (wpAny_loadPart')
section
variable{prog:Program}{w:World}{A:Around}{E:Value->Shared->Prop}
variable{M:Model}{env:Env}
variable{lo hi:Option Expr}{tl th:TO}{p2:Pos}
variable{O:St}
theorem ZC6:typeLookup (.type "dict") "__len__"=pure (some (.builtin "dict.__len__")):=by rw[typeLookup_type,builtinLookup_eq_fast];kernel_rfl
end
end L2
namespace Fz
open L2 Lw
theorem lQ:∀{ks:List Key}{vs:List V},ks.length=vs.length->(ks.zip vs).map (·.1)=ks
 | [],[],_=>rfl
 | [],_::_,h=>by simp at h
 |_::_,[],h=>by simp at h
 |k::ks,v::vs,h=>by
  rw[Ko,B6,lQ (by simpa using h)]
end Fz
namespace L2
section
variable{prog:Program}{w:World}{A:Around}{s:Shared}{R:Result->Shared->Prop}
theorem ZK7{L S:Addr}{P:Nat}{res:Value}{A8:List (Key×Value)}{n:Nat}(hh:A.handled=none)(P0:(S == sysModules)=false)(m:s.heap.get? L=some { cls:=.type "list", data:=.seq #[] P })(hS0:s.heap.DictOf (E5 prog w) S A8)(en:A8.length=n)(hn:n<=sizeLine)
  (h:∀(s':Shared)(vs:List Value)(d:Nat),(∀b o,b≠L->s.heap.get? b=some o->s'.heap.get? b=some o)->L<s'.heap.objs.size->s'.gens=s.gens->s'.os=s.os->s'.heap.get? L=some { cls:=.type "list", data:=.seq vs.toArray d }->vs.length=n->(∀(i:Nat)v,vs[i]?=some v->∃k x,A8[i]?=some (k,x)/\(E5 prog w).is k v=true)->R (.ok (.ret res)) s') :
  wpAny (model prog w) A.in1 (Builtin.List.listExtendWith (.ref L) (.ref S) res)
   (λp s'=>match p with | .done f=>R (.ok f) s' | .again d=>d.quiet=true/\codeAny (model prog w) A d R s') (λe s'=>R (.error e) s') s:=by
 obtain⟨j,g⟩:=hS0.dictAt;have U:S<s.heap.objs.size:=g.lt_size;have G:L≠S:=λz=>by
  subst z;obtain⟨o,ho,l⟩:=g.dictOf.typeIs;rw[m]at ho;cases ho;exact absurd l (by show ¬ Value.type "list"=Value.type "dict"; decide)
 have E:Shared.TypeIs s (.ref S) "dict" := g.dictOf.typeIs;have h1:Builtin.List.listSameRef (.ref L) (.ref S)=false:=by simp[Builtin.List.listSameRef,G]
 unfold Builtin.List.listExtendWith;refine ra (wpAny_typeOf E ?_);rw[tK (by rw[h1];decide)];refine ra (wpAny_pyIter_dict (s:=s) P0 g ?_);dsimp only;generalize r:({ cls:=.type "dict_keyiterator", data:=.fields #[.ref S,.int 0 0,.int A8.length 0,.int j 0] }:Obj)=io;have kp:∀b o,s.heap.get? b=some o->(s.heap.push io).get? b=some o:=λb o e=>Bo _ e;have T:S≠s.heap.objs.size:=Cn U;have W:∀A2:Around,A2.handled=none->Walks prog w A2 s.heap.objs.size [s.heap.objs.size,S] [s.heap.objs.size] A8.length _ _:=λA2 h2=>Walks.dictKeys (knd:=E5 prog w) h2 s.heap.objs.size S T A8 j;have C:(s.heap.push io).IsKeyIter s.heap.objs.size S 0 A8.length j/\(s.heap.push io).DictAt (E5 prog w) S A8 j:=⟨⟨io,CY _ (by rw[<- r];rfl),by rw[<- r],by rw[<- r];rfl⟩,g.push _⟩;have H:L∉[s.heap.objs.size,S]:=λc=>by
  simp only[GR,Aa,ZA5]at c;rcases c with z|z
  .have q:L<s.heap.objs.size:=BE m;rw[z]at q;exact Lv _ q
  .exact G z
 generalize V:s.heap.push io=h2 at kp C ⊢;have t:Shared.TypeIs { s with heap:=h2 } (.ref S) "dict" := by obtain⟨o,ho,l⟩:=E;exact⟨o,kp _ _ ho,l⟩
 refine ra (y2 ?_);unfold Builtin.List.listLengthHint;refine ra (wpAny_specialOf t ZC6 ?_);generalize y:("dict.__len__":String)=xj
 wp_delta
 rw[show splitId xj=some ("dict","__len__")from by subst y;decide +kernel];subst y;refine ra (wpAny_isInstance (b:=true) t (by rw[isSubtype_type];kernel_rfl) ?_);rw[tK (by decide)];refine wpAny_ite_split (λ_=>?_) (λPb=>absurd (by decide+kernel) Pb);refine ra (wpAny_typeOf t ?_);refine uz ?_;refine wpAny_ite_split (λ_=>?_) (λPb=>absurd (by decide+kernel) Pb);refine ra (wpAny_rule ?_);refine ra ?_;show wpAny _ _ (updateSeq L (·.push .none) >>= λ_=>updateSeq L (·.pop)) _ _ _
 have M:(#[]:Array Value).size<=sizeLine:=Cf _;have u:((#[]:Array Value).push Value.none).size<=sizeLine:=by show 1<=sizeLine;decide
 have K:((#[]:Array Value).push Value.none).size<=sizeLine+1:=Nat.le_succ_of_le u;have J:(((#[]:Array Value).push Value.none).pop).size<=sizeLine+1:=Cf _;have D:=kp _ _ m;refine ra (ZA7 (s:={ s with heap:=h2 }) D rfl ?_ M K)
 have B:=JT (Obj.mapSeq (·.push Value.none)) D rfl
 refine ZA7 B rfl ?_ u J;have N:=JT (Obj.mapSeq (·.pop)) B rfl
 have I:∀b o,b≠L->h2.get? b=some o->((h2.update L (Obj.mapSeq (·.push Value.none))).update L (Obj.mapSeq (·.pop))).get? b=some o:=
  λb o a e=>(Fg _ _ (BO a)).trans ((Fg _ _ (BO a)).trans e)
 refine uz ⟨ZAP PySem.F.plain_extend_loop _,codeAny_extend_loopS (W A.in1 hh).toS (en▸hn) _ H _ A8.length 0 _ #[] _ rfl (Cf _) ?_ N (ItemsOf.nil _) λs' ZJV d c Iz BI=>?_⟩
 .exact(W A.in1 hh).frame 0 h2 _ C λb a o e=>I b o (λz=>H (z▸a)) e
 .have hsz:L<s'.heap.objs.size:=BE Iz;refine h s' ZJV.toList d (λb o a e=>?_) hsz c.gens c.os Iz (by rw[di,BI.1];exact en) λi v σ=>BI.2 i v (by rw[<- dh];exact σ);have Q:b<s.heap.objs.size:=BE e;refine c.heap b o ?_ (I b o a (kp b o e));simp only[GR,Aa,ZA5,not_or];exact⟨a,Cn Q⟩
end
theorem gk{prog:Program}{w:World}:∀{ks:List Key}{A8:List (Key×Value)}{vs:List Value},A8.map (·.1)=ks->vs.length=A8.length->(∀(i:Nat)v,vs[i]?=some v->∃k x,A8[i]?=some (k,x)/\(E5 prog w).is k v=true)->Vals (ks.map kV) vs
 | [],[],[],_,_,_=>.nil
 | [],[],_::_,_,h,_=>by simp at h
 | [],_::_,_,h,_,_=>by simp at h
 |_::_,[],_,h,_,_=>by simp at h
 |_::_,_::_,[],_,h,_=>by simp at h
 |n::ns,kv::A8,v::vs,e,hl,h=>by
  rw[B6]at e;injection e with e1 e2
  obtain⟨k,x,c,hk⟩:=h 0 v rfl;have a:kv=(k,x):=by simpa using c
  subst a;have d:k=n:=e1;subst d;refine .cons ?_ (gk e2 (by simpa using hl) λi v b=>h (i+1) v b)
  rcases JD (show N8 k v=true from hk)with⟨i,t,rfl,rfl⟩|⟨y,t,rfl,rfl⟩
  .exact⟨t,rfl⟩
  .exact⟨t,rfl⟩
section
variable{X:Cx}
def nA:List V->Hp->VK->Prop:=λxs H Q=>∃(p:Addr)(A8:List (Key×V)),xs=[.ref p]/\Rd H p (.dK A8)/\A8.length<=1000/\∀l:Addr,H l=none->Q (.ref l) (upd H l (.lst ((A8.map (·.1)).map kV)))
theorem ZE6(B:X.calm=true):Dp X (.type "list") nA:=by
 intro Zd s O H xs us Q I r h;obtain⟨p,A8,rfl,C,σ,q⟩:=h;obtain⟨u,rfl,y⟩:=vals1 r;cases y;obtain⟨i,P0,Hf,rel,j⟩:=Nn I.AJ C;have hh:X.A.handled=none:=I.ok.hd B;have L:p<s.heap.objs.size:=by obtain⟨k,h2⟩:=j.dictAt;exact h2.lt_size
 have P:p≠s.heap.objs.size:=Cn L;refine callType_codes (Q₁:=λobj g=>obj=.ref s.heap.objs.size/\g={ s with heap:=s.heap.push { cls:=.type "list", data:=.seq #[] } }) F.called_list (F.typeCall_list_1 _) F.entry_list_init
  (code_list_new _ ⟨rfl,rfl⟩) λobj g z=>?_
 obtain⟨rfl,rfl⟩:=z;have d:(s.heap.push { cls:=.type "list", data:=.seq #[] }).get? s.heap.objs.size=some { cls:=.type "list", data:=.seq #[] }:=CY _ rfl;refine⟨⟨_,d,rfl⟩,F.args_list_init_2 _ _,?_⟩;show wpAny _ X.A.in1.in1 (do let c <- Builtin.List.listItems (.ref s.heap.objs.size);Builtin.List.listUpdate (.ref s.heap.objs.size) (λ_=>#[]);letGo c.toList.reverse;Builtin.List.listExtendWith (.ref s.heap.objs.size) (.ref p) .none) _ _ _
 refine ra ?_;unfold Builtin.List.listItems;refine ra (y4 d rfl (uz ?_));show wpAny _ X.A.in1.in1 (updateSeq s.heap.objs.size (λ_=>#[]) >>= λ_=>letGo (#[]:Array Value).toList.reverse >>= λ_=>Builtin.List.listExtendWith (.ref s.heap.objs.size) (.ref p) .none) _ _ _;refine ra (ZA7 d rfl ?_);have f:=JT (Obj.mapSeq (λ_=>(#[]:Array Value))) d rfl;have c:∀b o,s.heap.get? b=some o->((s.heap.push { cls:=.type "list", data:=.seq #[] }).update s.heap.objs.size (Obj.mapSeq (λ_=>(#[]:Array Value)))).get? b=some o:=λb o e=>
  (Fg _ _ (Lx (BE e))).trans (Bo _ e)
 have v:((s.heap.push { cls:=.type "list", data:=.seq #[] }).update s.heap.objs.size (Obj.mapSeq (λ_=>(#[]:Array Value)))).DictOf (E5 X.prog X.w) p Hf:=by
  obtain⟨o,es,k,ho,rest⟩:=j;exact⟨o,es,k,c _ _ ho,rest⟩
 refine ra (ZAV ?_);refine ZK7 (A:=X.A.in1) hh P0 f v rfl (by rw[<- rel.length];exact i) λs' vs E t K n m l J G=>?_;have x:Vals ((A8.map (·.1)).map kV) vs:=by
  rw[rel.keys];exact gk rfl J G
 refine⟨rfl,?_⟩;obtain⟨h1,N,D,t1,M⟩:=s';simp only at t K n m l;subst n;subst m;refine⟨.ref _,_,(I.drew D).laid (a:=s.heap.objs.size) (h':=h1) (t':=t1) (o:=.lst ((A8.map (·.1)).map kV)) (λb o e=>t b o (Cn (BE e)) (c b o e)) (B0 _) ?_,rfl,q _ (I.AJ.fresh (B0 _))⟩
 exact⟨by rw[AB,AB];exact i,vs,E,x,l⟩
variable{i o:Expr}{ty td:TE}{pos:Pos}
theorem XU(a:X.A.units+1<cLine)(hi:QE X i ty)(ho:QE X o td)(b:behindInMarks .In o=false:=by with_unfolding_all rfl):QT X (.Compare i [.In] [o] pos) (tB (V2 ty td)):=⟨jH (uB a hi.h ho.h) b⟩
theorem qc(a:X.A.units+1<cLine)(hi:QE X i ty)(ho:QE X o td)(b:behindInMarks .NotIn o=false:=by with_unfolding_all rfl):QT X (.Compare i [.NotIn] [o] pos) (tB (So ty td)):=⟨jH (ZBG a hi.h ho.h) b⟩
end
end L2
namespace Fz
open L2 Lw
theorem Yk{F:Hp}:∀ks:List Key,AV F (ks.map kV) (ks.map Kh)
 | []=>.nil
 | .inl i::ks=>.cons (.int i) (Yk ks)
 | .inr x::ks=>.cons (.str x) (Yk ks)
theorem fi{F:Hp}:∀ns:List Int,AV F (ns.map V.int) (ns.map PV.int)
 | []=>.nil
 |i::ns=>.cons (.int i) (fi ns)
section
variable[Xw]
variable{E:Ent0}{ss:List Slot}{O:L2.St}{F H F' H':Hp}{K:ZLZ}{i:Nat}{t:OV}{ta tb tc te:TE}{nx:List Slot->Prop}{R:Ag}
theorem ZBs{k:List PV->Prop}(h:Wp ss te λp=>∃(ks:List Key)(xs:List PV),p=.BJ ks xs/\ks.length<=1000/\k (ks.map Kh)):Wn ss (El nA (AX te BA)) k:=⟨λE O F H Q S q=>
 h.go E O F H _ S λv p F1 H1 b c AO=>by
  obtain⟨ks,xs,e,j,kk⟩:=AO;subst e;cases c with
  |@BJ a _ vs _ g f i=>
   refine⟨a,_,rfl,.inl (b.st.fh _ _ g),by rw[Sb];omega,λl DS=>?_⟩;rw[lQ f];have d:=b.st.make DS (.lst (ks.map kV));exact q l _ _ F1 _ (b.trans d) (b.st.CK DS) (b.none DS) B3 (Yk ks) kk⟩
end
end Fz
namespace L2
variable{w:World}{H H2:Hp}{h h':Heap}{a b it l l1 l2:Addr}{X:Cx}{Zd:ZLa}{O:St}{s s2:Shared}{r x:Value}{A:Around}{E Q:Value->Shared->Prop}{i k1 tk:Nat}{e elt tg:Expr}{p1 pos:Pos}{es ifs:List Expr}{t1 t2 tp:Bool}{outer scope:Scope}{js:List Nat}{tt:TT}{te:TE}{J:It}{fp:List Addr}{tn:Nat->Heap->Prop}{N zs:List Str}{wi:TI}{xs ys:Array Value}{prog:Program}
structure Jb (N:List Str) (outer scope:Scope) (zs:List Str) (AN:List Str) (js:List Nat):Prop where
 kind:scope.kind=.function
 N4:∀y∈scope.names,y.2≠.cell
 loc:∀y∈scope.names,y.2=.local->scope.names.lookup y.1=some .local
 J0:∀x∈zs,scope.names.lookup x=some .local
 at':js.map (λj=>N[j]?)=AN.map some
 cell:∀y∈AN,outer.names.lookup y=some .cell
 free:∀y∈AN,scope.names.lookup y=some .free
 all:∀y∈scope.names,y.2=.free->outer.names.lookup y.1=some .cell
 nd:(AN++zs).Nodup
def PQ(K:ZLZ)(n:Nat)(wi:TI)(js:List Nat)(tt:TT)(te:TE):TE:=λO H Q=>wi O H λJ H1=>∀acc,H1 acc=none->Ss K n J js tt te O H1 acc Q
section
variable{iter:Expr}{tp:Pos}{AN:List Str}
theorem Jb.G(S:Jb N outer scope zs AN js):Ft N outer scope none zs AN js:=.j8 S.kind S.N4 S.loc S.at' S.cell S.free S.all S.nd
theorem ZFm(a:X.calm=true)(S:Jb X.N X.env.scope scope zs AN js)(KI:Jg zs es)(Hh:∀e,(assignEach es e).length=zs.length)(Ea:∀e,(assignEach es e).findIdx? (·.1)=none)(hi:PI X (.Tuple es tk tp) iter wi)
  (DE:∀fp C s H,Hv (G4 X (AN++zs) scope (C0 X.env.cells scope.names) C s H fp) ifs tt) (DL:∀fp C s H,PE (G4 X (AN++zs) scope (C0 X.env.cells scope.names) C s H fp) elt te)
  (b:∀v,foldedSetIterable iter X.env v=pure v:=by intro _;rfl):PE X (.ListComp elt [⟨.Tuple es tk tp,iter,ifs,0⟩] scope pos) (PQ X.K zs.length wi js tt te):=
 bX (CW:=λJ O H1 acc Q=>Ss X.K zs.length J js tt te O H1 acc Q) (iX S.G) a S.G hi (λ_ _ _ _=>i7 a S.G S.J0 KI Hh Ea) DE DL b
theorem kR(b:X.calm=true)(S:Jb X.N X.env.scope scope zs AN js)(KI:Jg zs es)(Hh:∀e,(assignEach es e).length=zs.length)(Ea:∀e,(assignEach es e).findIdx? (·.1)=none)(hi:QI X (.Tuple es tk tp) iter wi)(DE:∀fp C s H,Mi (G4 X (AN++zs) scope (C0 X.env.cells scope.names) C s H fp) ifs tt)(DL:∀fp C s H,QE (G4 X (AN++zs) scope (C0 X.env.cells scope.names) C s H fp) elt te)
  (a:∀v,foldedSetIterable iter X.env v=pure v:=by intro _;rfl):QE X (.ListComp elt [⟨.Tuple es tk tp,iter,ifs,0⟩] scope pos) (PQ X.K zs.length wi js tt te):=⟨ZFm b S KI Hh Ea hi.h (λfp C s H=>(DE fp C s H).h) (λfp C s H=>(DL fp C s H).h) a⟩
end
def ER(tp:Bool)(h:Heap)(i l:Addr)(k:Nat):Prop:=match tp with
 |true=>h.IsTupleIter i l k
 |false=>h.IsListIter i l k
def G0(tp:Bool)(h:Heap)(l:Addr)(xs:Array Value):Prop:=match tp with
 |true=>h.IsTuple l xs
 |false=>h.IsList l xs
noncomputable def R9(tp:Bool):String:=match tp with
 |true => "tuple_iterator"
 |false => "list_iterator"
theorem ER.at{t:Addr}(x:ER tp h a t i)(e:∀o,h.get? a=some o->h'.get? a=some o):ER tp h' a t i:=by
 cases tp
 .exact Heap.IsListIter.at x e
 .exact Heap.IsTupleIter.at x e
theorem ER.has{t:Addr}(x:ER tp h a t i):∃o fs,h.get? a=some o/\o.data=.fields fs:=by
 cases tp
 .obtain⟨o,e,_,d⟩:=x;exact⟨o,_,e,d⟩
 .obtain⟨o,e,_,d⟩:=x;exact⟨o,_,e,d⟩
theorem G0.at(x:G0 tp h a xs)(e:∀o,h.get? a=some o->h'.get? a=some o):G0 tp h' a xs:=by
 cases tp
 .obtain⟨o,q,r⟩:=x;exact⟨o,e o q,r⟩
 .obtain⟨o,q,r⟩:=x;exact⟨o,e o q,r⟩
section
theorem jF(hi:ER tp s.heap it l i)(a:G0 tp s.heap l xs)(hx:xs[i]?=some x)
  (q:∀h',ER tp h' it l (i+1)->Heap.SameBut it s.heap h'->Q x { s with heap:=h' }):wpAny (model prog w) A (Builtin.SmallTypes.nextOf (.ref it)) Q E s:=by
 cases tp
 .exact wpAny_nextOf_list_item hi a hx q
 .exact HT.ZER hi a hx q
theorem mW(hh:A.handled=none)(hi:ER tp s.heap it l i)(a:G0 tp s.heap l xs)(hx:xs[i]?=none)
  (q:∀h' e,Heap.ExtBut it s.heap h'->(∃o,h'.get? e=some o/\o.cls=.type "StopIteration")->E (.ref e) { s with heap:=h' }):wpAny (model prog w) A (Builtin.SmallTypes.nextOf (.ref it)) Q E s:=by
 cases tp
 .exact wpAny_nextOf_list_end hh hi a hx q
 .exact HT.ZCc hh hi a hx q
theorem nM(a:G0 tp s.heap l xs)(q:Q (.ref s.heap.objs.size) { s with heap:=s.heap.push { cls:=.type (R9 tp),data:=.fields #[.ref l,.int 0 0] } }):wpAny (model prog w) A (pyIter (.ref l)) Q E s:=by
 cases tp
 .exact ZAc a q
 .exact wpAny_pyIter_tuple a q
variable{z TI TO i1 i2:Addr}{k:Nat}{y a b:Value}
theorem kO{Q:Option Value->Shared->Prop}(hh:A.handled=none)(D:ZipApart z TI TO i1 i2 l1 l2)(n:IsZip s.heap z TI TO .none)(MQ:IsPair s.heap TI (.ref i1) (.ref i2))(PN:IsPair s.heap TO a b)
  (h1:ER t1 s.heap i1 l1 k) (h2:ER t2 s.heap i2 l2 k) (g1:G0 t1 s.heap l1 xs) (g2:G0 t2 s.heap l2 ys)
  (q:∀x y,xs[k]?=some x->ys[k]?=some y->∀h',IsZip h' z TI TO (rawInt s.heap.objs.size)->IsPair h' TO x y->ER t1 h' i1 l1 (k+1)->ER t2 h' i2 l2 (k+1)->IsPair h' s.heap.objs.size x y->
   (∀c o,c≠z->c≠TO->c≠i1->c≠i2->s.heap.get? c=some o->h'.get? c=some o)->Q (some (.ref s.heap.objs.size)) { s with heap:=h' })
  (qe:xs[k]?=none∨ys[k]?=none->∀h',(∀c o,c≠z->c≠TO->c≠i1->c≠i2->s.heap.get? c=some o->h'.get? c=some o)->Q none { s with heap:=h' }):wpAny (model prog w) A (pyNext (.ref z)) Q E s:=by
 have hT:s.TypeIs (.ref z) "zip" := ⟨_,n,rfl⟩;unfold pyNext;have r:(xs[k]?=none∨ys[k]?=none)->∀(h':Heap)(e:Addr),(∀c o,c≠z->c≠TO->c≠i1->c≠i2->s.heap.get? c=some o->h'.get? c=some o)->(∃o,h'.get? e=some o/\o.cls=.type "StopIteration")->wpAny (model prog w) A (do if <- isInstance (.ref e) (.type "StopIteration")then pure none else throw (.ref e)) Q E { s with heap:=h' }:=λhn h' e hk⟨o,ho,i⟩=>
  ra (wpAny_isInstance (T:="StopIteration") (b:=true) ⟨o,ho,i⟩ isSubtype_stop (uz (qe hn h' hk)))
 refine ra (wpAny_attempt (ZAX (name:=Str.ofString "__next__") hT F.slot_zip_next (ZAm F.slot_zip_next hT F.entry_zip_next ?_ (F.args_zip_next_1 _))));show wpAny _ _ (field (.ref z) 2 >>= _) _ _ _;refine ra (yz n rfl (x:=.bool false) rfl ?_);show wpAny _ _ (field (.ref z) 3 >>= _) _ _ _;refine ra (yz n rfl (x:=.ref TI) rfl (ra (y4 MQ rfl ?_)));show wpAny _ _ (Builtin.SmallTypes.ownedTupleIsFree (.ref z) >>= _) _ _ _;refine ra ?_;unfold Builtin.SmallTypes.ownedTupleIsFree;refine ra (yz n rfl (x:=.none) rfl (uz ?_));simp only[ZB6];refine ra (wpAny_rule (ra (yz n rfl (x:=.ref TO) rfl (ra (ZA1 n (by simp) λe1 p V=>?_)))));have p:IsZip e1 z TI TO .ellipsis:=p;have u1:∀c o,c≠z->s.heap.get? c=some o->e1.get? c=some o:=λc o i e=>V.extBut c o i e;refine ra ?_;simp only[List.zipIdx_cons,List.zipIdx_nil,qy,du];refine ra (ra (wpAny_onRaise ?_));show wpAny _ _ (Builtin.SmallTypes.nextOf (.ref i1) >>= _) _ _ _;cases hx:xs[k]? with
 |none=>
  refine ra (mW hh (h1.at λo e=>u1 i1 o D.i1z e) (g1.at λo e=>u1 l1 o D.l1z e) hx λI e j L=>?_);have R:IsZip I z TI TO .ellipsis:=j z _ D.i1z.symm p;obtain⟨oe,Ms,SR⟩:=L;have N:e≠z:=λq=>by subst q;rw[R]at Ms;cases Ms;simp at SR
  exact ZA1 R (by simp) λH _ h=>r (.inl hx) H e (λc o c1 _ l _ y=>h.extBut c o c1 (j c o l (u1 c o c1 y))) ⟨oe,h.extBut _ _ N Ms,SR⟩
 |some x=>
  refine ra (jF (h1.at λo e=>u1 i1 o D.i1z e) (g1.at λo e=>u1 l1 o D.l1z e) hx λI p1 j=>uz ?_);have u2:∀c o,c≠z->c≠i1->s.heap.get? c=some o->I.get? c=some o:=λc o i hd e=>j.extBut c o hd (u1 c o i e);have X:IsPair I TO a b:=u2 TO _ D.TOz D.TOi1 PN;refine ra (y4 X rfl (ra (wpAny_updateSeq_pair X λH K h=>?_)));have m:∀c o,c≠z->c≠i1->c≠TO->s.heap.get? c=some o->H.get? c=some o:=λc o h1 h2 h3 e=>h.extBut c o h3 (u2 c o h1 h2 e);refine ra (ZAV (uz (ra (ra (wpAny_onRaise ?_)))));show wpAny _ _ (Builtin.SmallTypes.nextOf (.ref i2) >>= _) _ _ _;have K:IsPair H TO x b:=K;cases C:ys[k]? with
  |none=>
   refine ra (mW hh (h2.at λo e=>m i2 o D.i2z D.i12.symm D.TOi2.symm e) (g2.at λo e=>m l2 o D.l2z D.l2i1 D.l2TO e) C λM e g L=>?_);have P:IsZip M z TI TO .ellipsis:=g z _ D.i2z.symm (h.extBut z _ D.TOz.symm (j.extBut z _ D.i1z.symm p));obtain⟨oe,Ms,SR⟩:=L;have N:e≠z:=λq=>by subst q;rw[P]at Ms;cases Ms;simp at SR
   exact ZA1 P (by simp) λd _ f=>r (.inr C) d e (λc o c1 c2 l t y=>f.extBut c o c1 (g c o t (m c o c1 l c2 y))) ⟨oe,f.extBut _ _ N Ms,SR⟩
  |some y=>
   refine ra (jF (h2.at λo e=>m i2 o D.i2z D.i12.symm D.TOi2.symm e) (g2.at λo e=>m l2 o D.l2z D.l2i1 D.l2TO e) C λM p2 g=>uz ?_);have W:IsPair M TO x b:=g.extBut TO _ D.TOi2 K;refine ra (y4 W rfl (ra (wpAny_updateSeq_pair W λd B f=>?_)));have B:IsPair d TO x y:=B;have hsz:d.objs.size=s.heap.objs.size:=by rw[f.1,g.1,h.1,j.1,V.1]
   have u5:∀c o,c≠z->c≠TO->c≠i1->c≠i2->s.heap.get? c=some o->d.get? c=some o:=λc o c1 c2 l t e=>f.extBut c o c2 (g.extBut c o t (m c o c1 l c2 e));have σ:IsZip d z TI TO .ellipsis:=f.extBut z _ D.TOz.symm (g.extBut z _ D.i2z.symm (h.extBut z _ D.TOz.symm (j.extBut z _ D.i1z.symm p)));have r1:ER t1 d i1 l1 (k+1):=p1.at λo e=>f.extBut i1 o D.TOi1.symm (g.extBut i1 o D.i12 (h.extBut i1 o D.TOi1.symm e));have r2:ER t2 d i2 l2 (k+1):=p2.at λo e=>f.extBut i2 o D.TOi2.symm e;refine ra (ZAV (uz (uz (ra (y4 B rfl (ra (wpAny_newTuple ?_)))))));have Z:z<d.objs.size:=BE σ;show wpAny _ _ (Builtin.SmallTypes.ownedTupleHandOut (.ref z) (.ref d.objs.size) >>= _) _ _ _;refine ra ?_;unfold Builtin.SmallTypes.ownedTupleHandOut;have z6:IsZip (d.push { cls:=.type "tuple", data:=.seq #[x,y] }) z TI TO .ellipsis:=Bo _ σ;refine ra (ZA1 z6 (by simp) λe7 J U=>?_);have J:IsZip e7 z TI TO (rawInt d.objs.size):=J;refine ZA1 J (by simp) λG u S=>?_;have u:IsZip G z TI TO (rawInt d.objs.size):=u;have v:∀c o,c≠z->d.get? c=some o->G.get? c=some o:=λc o i e=>S.extBut c o i (U.extBut c o i (Bo _ e));have Y:IsPair G d.objs.size x y:=S.extBut _ _ (Lx Z) (U.extBut _ _ (Lx Z) (CY _ rfl));rw[hsz]at u Y;refine uz ⟨_,rfl,uz ?_⟩;show Q (some (.ref d.objs.size)) _;rw[hsz];exact q x y hx C G u (v TO _ D.TOz B) (r1.at λo e=>v i1 o D.i1z e) (r2.at λo e=>v i2 o D.i2z e) Y λc o c1 c2 l t e=>v c o c1 (u5 c o c1 c2 l t e)
end
abbrev Vh(h:Heap)(t1:Bool)(l1:Addr):Heap:=h.push { cls:=.type (R9 t1),data:=.fields #[.ref l1,.int 0 0] }
abbrev T6(h:Heap)(t1 t2:Bool)(l1 l2:Addr):Heap:=(Vh h t1 l1).push { cls:=.type (R9 t2),data:=.fields #[.ref l2,.int 0 0] }
abbrev Vj(h:Heap)(t1 t2:Bool)(l1 l2:Addr):Heap:=(T6 h t1 t2 l1 l2).push { cls:=.type "tuple", data:=.seq #[.ref h.objs.size,.ref (Vh h t1 l1).objs.size] }
abbrev UC(h:Heap)(t1 t2:Bool)(l1 l2:Addr):Heap:=(Vj h t1 t2 l1 l2).push { cls:=.type "tuple", data:=.seq #[.none,.none] }
abbrev PR(h:Heap)(t1 t2:Bool)(l1 l2:Addr):Heap:=(UC h t1 t2 l1 l2).push { cls:=.type "zip", data:=.fields #[.none,.bool false,.bool false,.ref (T6 h t1 t2 l1 l2).objs.size,.ref (Vj h t1 t2 l1 l2).objs.size] }
theorem ZDe(t1 t2 : Bool)(l1 l2 : Addr)(xs ys : Array Value): Meets (Builtin.«zip.__new__» ⟨[.type "zip",.ref l1, .ref l2], []⟩) (λ_ R s => G0 t1 s.heap l1 xs /\ G0 t2 s.heap l2 ys /\
   R (.ok (.ret (.ref (UC s.heap t1 t2 l1 l2).objs.size))) { s with heap:=PR s.heap t1 t2 l1 l2 }):=
 .of_wp λprog w A R s h=>by
  obtain⟨a,g,d,tk,os⟩:=s;obtain⟨c,b,h⟩:=h;have f:=sub_zip;have c1:G0 t1 (Shared.heap ⟨a,g,d,tk,os⟩) l1 xs:=c;have c2:G0 t2 (Shared.heap ⟨a.push { cls:=.type (R9 t1),data:=.fields #[.ref l1,.int 0 0] },g,d,tk,os⟩) l2 ys:=G0.at b λo e=>Bo _ e
  wp_walk using nM c1,nM c2
  exact⟨_,rfl,h⟩
theorem ER.new{i:Addr}(e:h.get? i=some { cls:=.type (R9 tp),data:=.fields #[.ref l,.int 0 0] }):ER tp h i l 0:=by
 cases tp
 .exact⟨_,e,rfl,rfl⟩
 .exact⟨_,e,rfl,rfl⟩
theorem ZFQ(n:G0 t1 s.heap l1 xs)(m:G0 t2 s.heap l2 ys)
  (h:∀h',IsZip h' (s.heap.objs.size+4) (s.heap.objs.size+2) (s.heap.objs.size+3) .none->IsPair h' (s.heap.objs.size+2) (.ref s.heap.objs.size) (.ref (s.heap.objs.size+1))->
   IsPair h' (s.heap.objs.size+3) .none .none->ER t1 h' s.heap.objs.size l1 0->ER t2 h' (s.heap.objs.size+1) l2 0->
   (∀c o,s.heap.get? c=some o->h'.get? c=some o)->Q (.ref (s.heap.objs.size+4)) { s with heap:=h' }):wpAny (model prog w) A (call (.type "zip") [.ref l1,.ref l2]) Q E s:=by
 refine callType_new F.called_zip (by decide) (F.typeCall_zip_2 _ _) (F.newCall_zip_2 _ _) (λobj=>F.args_object_init_3 obj _ _) F.entry_zip_new (ZDe t1 t2 l1 l2 xs ys) ⟨n,m,?_⟩;have d:(Vh s.heap t1 l1).objs.size=s.heap.objs.size+1:=Iq ..;have b:(T6 s.heap t1 t2 l1 l2).objs.size=s.heap.objs.size+2:=by rw[Iq,d]
 have a:(Vj s.heap t1 t2 l1 l2).objs.size=s.heap.objs.size+3:=by rw[Iq,b]
 have g:(UC s.heap t1 t2 l1 l2).objs.size=s.heap.objs.size+4:=by rw[Iq,a]
 have p:∀{l:Heap}{c o ob},l.get? c=some o->(l.push ob).get? c=some o:=λe=>Bo _ e;have f:(PR s.heap t1 t2 l1 l2).get? (UC s.heap t1 t2 l1 l2).objs.size=some _:=CY _ rfl;have i:(PR s.heap t1 t2 l1 l2).get? (Vj s.heap t1 t2 l1 l2).objs.size=some _:=p (CY _ rfl);have j:(PR s.heap t1 t2 l1 l2).get? (T6 s.heap t1 t2 l1 l2).objs.size=some _:=p (p (CY _ rfl));have k:(PR s.heap t1 t2 l1 l2).get? (Vh s.heap t1 l1).objs.size=some _:=p (p (p (CY _ rfl)));have q:(PR s.heap t1 t2 l1 l2).get? s.heap.objs.size=some _:=p (p (p (p (CY _ rfl))));show _/\_;rw[b,a,g]at f;rw[d,b]at j;rw[a]at i;rw[d]at k;rw[g];exact⟨⟨_,f,rfl⟩,h _ f j i (.new q) (.new k) λc o e=>p (p (p (p (p e))))⟩
theorem Nv{xs:List V}(I:Inv X Zd O H s)(h:HH X.K tp H a xs):∃A5:List Value,Vals xs A5/\G0 tp s.heap a A5.toArray:=by
 cases tp
 .obtain⟨A5,b,pl,_⟩:=I.list h;exact⟨A5,b,pl.isList⟩
 .obtain⟨A5,b,pl,_⟩:=I.tuple h;exact⟨A5,b,pl⟩
def mq(K:ZLZ)(t1 t2:Bool)(a b:Addr)(xs ys:List V):It:=
 ⟨λi H=>HH K t1 H a xs/\HH K t2 H b ys/\i<xs.length/\i<ys.length,λi H x H'=>∃p d c,xs[i]?=some d/\ys[i]?=some c/\x=.ref p/\H p=none/\H'=upd H p (.tup [d,c]),λi H=>HH K t1 H a xs/\HH K t2 H b ys/\(xs.length<=i∨ys.length<=i)⟩
theorem sJ{P:Program}{K:ZLZ}(t1 t2:Bool)(a b z TI TO i1 i2:Addr)(xs ys:List V)(D:ZipApart z TI TO i1 i2 a b):
  Turn P w K (.Tuple es k1 p1) (mq K t1 t2 a b xs ys) [z,TI,TO,i1,i2] z (λi h=>(IsZip h z TI TO .none/\IsPair h TI (.ref i1) (.ref i2))/\(∃c d,IsPair h TO c d)/\ER t1 h i1 a i/\ER t2 h i2 b i) where
 mem:=by simp
 obj:=λi h st c j=>by
  obtain⟨⟨L,s2⟩,⟨d,e,p⟩,U,T⟩:=st;obtain⟨Q,_,N,Z⟩:=U.has;obtain⟨σ,_,M,Y⟩:=T.has;simp only[GR,Aa,ZA5]at j;rcases j with rfl|rfl|rfl|rfl|rfl
  .exact⟨_,L,λv y=>by cases y⟩
  .exact⟨_,s2,λv y=>by cases y⟩
  .exact⟨_,p,λv y=>by cases y⟩
  .exact⟨Q,N,λv y=>by rw[Z]at y;cases y⟩
  .exact⟨σ,M,λv y=>by rw[Y]at y;cases y⟩
 keep:=λi h h' st k=>⟨⟨k z (by simp) _ st.1.1,k TI (by simp) _ st.1.2⟩,let ⟨c,d,p⟩:=st.2.1;⟨c,d,k TO (by simp) _ p⟩,st.2.2.1.at λo q=>k i1 (by simp) o q,st.2.2.2.at λo q=>k i2 (by simp) o q⟩
 item:=by
  intro X u hw A j i Zd s O H E I m st t;subst u hw A;obtain⟨Jf,S7,XJ,FC⟩:=t;obtain⟨⟨l,MQ⟩,⟨c,d,PN⟩,Nz,Vz⟩:=st;obtain⟨RN,OM,O9⟩:=Nv I Jf;obtain⟨Cu,UW,PM⟩:=Nv I S7;obtain⟨u1,V0,r⟩:=OM.get (As XJ);obtain⟨u2,F,R⟩:=UW.get (As FC);refine kO (I.ok.hd j) D l MQ PN Nz Vz O9 PM (λx y ex n h1 a1 a2 a3 a4 a5 hk=>?_) λh=>absurd h (by simp[V0,F]);have ex:RN[i]?=some x:=by simpa using ex
  have n:Cu[i]?=some y:=by simpa using n
  rw[V0]at ex;rw[F]at n;cases ex;cases n;refine⟨_,rfl,?_⟩;refine wpAny_letOwnedTupleGo_zip a1 λh2 ME Cg=>?_;have G:z<s.heap.objs.size:=BE l;have g:∀b o,b≠z->h1.get? b=some o->h2.get? b=some o:=λb o f q=>(Cg.2 b f).trans q;have J:IsPair h2 s.heap.objs.size u1 u2:=g _ _ (Lx G) a5;have kp:∀b o,b∉[z,TI,TO,i1,i2]->s.heap.get? b=some o->h2.get? b=some o:=λb o f q=>by
   simp only[GR,Aa,ZA5,not_or]at f;exact g b o f.1 (hk b o f.1 f.2.2.1 f.2.2.2.1 f.2.2.2.2 q)
  refine⟨.ref s.heap.objs.size,_,I.jU (t':=s.toks) (a:=s.heap.objs.size) (o:=.tup [xs[i],ys[i]]) m kp (B0 _) ?_,rfl,⟨_,_,_,As XJ,As FC,rfl,I.AJ.fresh (B0 _),rfl⟩,?_,λb f=>?_⟩
  .exact⟨(by show 2<=sizeLine;decide),[u1,u2],.cons r (.cons R .nil),⟨_,J,rfl,_,rfl⟩,λob q=>by rw[show h2.get? s.heap.objs.size=_ from J]at q;cases q;rfl⟩
  .exact⟨⟨ME,g _ _ D.TIz (hk _ _ D.TIz D.TITO D.TIi1 D.TIi2 MQ)⟩,⟨_,_,g _ _ D.TOz a2⟩,a3.at λo q=>g _ _ D.i1z q,a4.at λo q=>g _ _ D.i2z q⟩
  .have y:b<s.heap.objs.size:=by
    simp only[GR,Aa,ZA5]at f;rcases f with rfl|rfl|rfl|rfl|rfl
    .exact G
    .exact BE MQ
    .exact BE PN
    .obtain⟨o,_,q,_⟩:=Nz.has;exact BE q
    .obtain⟨o,_,q,_⟩:=Vz.has;exact BE q
   rw[AW (Cn y)];exact(m b f).1
 done:=by
  intro X u hw A j i Zd s O H E I m st t;subst u hw A;obtain⟨Jf,S7,hx⟩:=t;obtain⟨⟨l,MQ⟩,⟨c,d,PN⟩,Nz,Vz⟩:=st;obtain⟨RN,OM,O9⟩:=Nv I Jf;obtain⟨Cu,UW,PM⟩:=Nv I S7;have l1:=OM.length;have l2:=UW.length;have S:∀x y,RN.toArray[i]?=some x->Cu.toArray[i]?≠some y:=λx y C B=>by
   have h1:i<RN.length:=by simpa using(Array.getElem?_eq_some_iff.mp C).1
   have h2:i<Cu.length:=by simpa using(Array.getElem?_eq_some_iff.mp B).1
   omega
  exact kO (I.ok.hd j) D l MQ PN Nz Vz O9 PM (λx y C B=>absurd B (S x y C)) λ_ h' W=>⟨rfl,I.qX (t':=s.toks) m λb o f q=>by
   simp only[GR,Aa,ZA5,not_or]at f;exact W b o f.1 f.2.2.1 f.2.2.2.1 f.2.2.2.2 q⟩
 self:=λ_ _ _ _ _ st h=>wpAny_pyIter_zip st.1.1 h
section
def XQ(K:ZLZ)(t:TA):TI:=λO H R=>t O H λvs H1=>∃a b t1 t2 xs ys,vs=[.ref a,.ref b]/\HH K t1 H1 a xs/\HH K t2 H1 b ys/\R (mq K t1 t2 a b xs ys) H1
theorem ZKE{p:Pos}{l l2:Expr}{t:TA}(r:Gl X "zip")(o:X.mg "zip"=none)(d:QA X [l,l2] t)(n:starEach [l,l2] X.env=(false,eval l X.env)::starEach [l2] X.env:=by rfl)(hp:(backTo pos (starEach [l2] X.env)).any (·.1)=false:=by rfl):
  QI X (.Tuple es k1 p1) (.Call (.Name "zip" p) [l,l2] [] pos) (XQ X.K t):=⟨by
 have d:=d.h;intro Zd s O H R I h;refine xn (LP I r o (show bootBuiltins "zip"=some (.type "zip") by decide+kernel) ?_ (by decide) (by decide));refine Wc (d.k pos I h λus c vs H1 I1 j m=>?_) n hp;obtain⟨a,b,t1,t2,xs,ys,rfl,Jf,S7,q⟩:=m;obtain⟨u1,u2,rfl,i,g⟩:=vals2 j;cases i;cases g;obtain⟨RN,OM,O9⟩:=Nv I1 Jf;obtain⟨Cu,UW,PM⟩:=Nv I1 S7;have v:a<c.heap.objs.size:=by cases t1 <;> (obtain⟨_,e,_⟩:=O9;exact BE e)
 have u:b<c.heap.objs.size:=by cases t2 <;> (obtain⟨_,e,_⟩:=PM;exact BE e)
 refine ZFQ O9 PM λh' c1 c2 z x w kp=>wpAny_pyIter_zip c1 ?_;refine⟨_,[c.heap.objs.size+4,c.heap.objs.size+2,c.heap.objs.size+3,c.heap.objs.size,c.heap.objs.size+1],_,_,H1,rfl,I1.kept (t':=c.toks) kp,sJ t1 t2 a b _ _ _ _ _ xs ys (zipApart_new v u),⟨⟨c1,c2⟩,⟨_,_,z⟩,x,w⟩,λb f=>?_,q⟩;have y:c.heap.objs.size<=b:=by
  simp only[GR,Aa,ZA5]at f;rcases f with rfl|rfl|rfl|rfl|rfl
  .exact WV _ 4
  .exact WV _ 2
  .exact WV _ 3
  .exact B0 _
  .exact WV _ 1
 exact I1.MB y (I1.AJ.fresh y)⟩
variable{l:Expr}{tl t:TE}{st:Stmt}{ts:TS}
end
end L2
namespace L2
variable{values vs:List Expr}{GC:List (TE×TE)}
section
variable{X:Cx}{pos:Pos}
theorem zg:Kz X pos [] [] []:=ZAd
theorem cF{k v:Expr}{ks:List (Option Expr)}{tk tv:TE}(hk:QE X k tk)(a:QE X v tv)(b:Kz X pos ks vs GC):Kz X pos (some k::ks) (v::vs) ((tk,tv)::GC):=ZDy hk.h a.h b
theorem uR{keys:List (Option Expr)}(h:Kz X pos keys values GC)(Ku:keys.all (·.isSome)=true)(l:keys.length=values.length)(n:keys≠[])(TU:keys.length<=15):QE X (.Dict keys values pos) (Yz GC):=⟨by
 intro Zd s O H Q I q;have k:=I.AJ.fresh (B0 s.heap.objs.size);have r:=I.laid (a:=s.heap.objs.size) (o:=.dK []) (h':=s.heap.push { cls:=.type "dict", data:=.dict #[] }) (t':=s.toks) (λ_ _ q=>Bo _ q) (B0 _) (fb s.heap I.big);refine wpAny_Dict_walk (knd:=E5 X.prog X.w) Ku l n TU (Ay (h Zd _ O _ _ r (q _ k)) λws s2⟨ps,H2,I2,rel,e,A8,p,t,g⟩=>?_);subst p;obtain⟨b,c,d⟩:=fE (P:=X.prog) (w:=X.w) rel;obtain⟨z,hd,Hf,f,dd⟩:=jS I2.AJ e;cases f;refine⟨b,c,dd,λh' MN j=>⟨.ref s.heap.objs.size,_,?_,rfl,g⟩⟩;have i:(Lf [] A8).length<=sizeLine:=by
  have h1:=mx A8 [];rw[Sa]at h1;rw[sizeLine_eq];omega
 have m:∃q,h'.get? s.heap.objs.size=some q:=let ⟨q,_,_,hq,_⟩:=MN;⟨q,hq⟩;exact b5 I2 (by rw[e];exact True.intro) j m (qW i hd (d.merge .nil) MN)⟩
end
theorem hV:∀(more acc:List (Key×V)),((acc++more).map (·.1)).Nodup->Lf acc more=acc++more
 | [],acc,_=>by rw[Dz];rfl
 |p::r,acc,h=>by
  show Lf (putK acc p.1 p.2) r=_;have c:acc.any (λa=>decide (a.1=p.1))=false:=by
   rw[ZKQ];intro q b e;have d:=vY e;rw[Ca,B6,Cy]at h;exact h.2.2 q.1 (List.mem_map.mpr ⟨q,b,rfl⟩) p.1 Fh d
  have e:putK acc p.1 p.2=acc++[p]:=by
   unfold putK;rw[c];rfl
  rw[e,hV r (acc++[p]) (by rw[C6];exact h),C6];rfl
end L2
namespace Fz
open L2 Lw
variable{ss:List Slot}{E:Ent0}{O:L2.St}{F H:Hp}{C p:Addr}{ta:TA}{Q:VK}{i n:Nat}{pre:Pre}
section
variable[Xw]
theorem za{F1 H1:Hp}{o:HO}(S:Sg E ss O F H)(m:Mv E ss O F H F1 H1)(b:H p=none)(d:F1 p=none):Mv E ss O F H F1 (upd H1 p o):=
 S.step m.ff (λa u e=>by rw[AW (by rintro rfl;rw[d]at e;cases e)];exact m.st.fh a u e)
  (λa u n e=>by rw[AW (by rintro rfl;rw[b]at e;cases e)];exact m.hh a u n e) m.nn
  λi l hi e=>C4.keep (m.st.GG hi e) λu f=>by
   rw[AW (by
    rintro rfl;obtain⟨_,_,c,_⟩:=S.GG hi e;rw[b]at c;cases c)]
   exact f
theorem ZC7{k:List Nat->OV->Prop}{E:Ent}(ks:List Str)(hk:ks.Nodup)(TU:ks.length<=15)(S:Sg E ss O F H)(d:H p=none)
  (h:Oe ss ta λm us=>us.length=ks.length/\∀l,k m (.nd (.BJ (ks.map Sum.inr)) l us))
  (q:∀v m u F' H',Mv E ss O F H F' H'->BB F' H' v u->u.addrs.Nodup->(∀a∈u.addrs,F' a=none/\E.H0 a=none/\((∃i∈m,∃s,s≠Slot.AY/\ss[i]?=some s/\BU s O[i]? a)∨H a=none))->k m u->Q v H') :
  ta O (upd H p (.dK [])) λvs H2=>H2 p=some (.dK [])/\∃A8:List (Key×V),List.zipWith (λs v=>(V.str s,v)) ks vs=A8.map (λj=>(kV j.1,j.2))/\A8.length<=15/\Q (.ref p) (upd H2 p (.dK (Lf [] A8))):=by
 have t:=S.make d (.dK []);have C:F p=none:=S.CK d;refine h.go E O F _ _ t.st λvs m us F1 H1 n r Ii y⟨I,kk⟩=>?_;have B:H1 p=some (.dK []):=n.hh p _ (S.J6 d) B3;have x:F1 p=none:=by
  cases e:F1 p with
  |none=>rfl
  |some o=>
   rcases n.nn p o e with z|z
   .rw[C]at z;cases z
   .rw[B3]at z;cases z
 have D:vs.length=ks.length:=by rw[r.length,I]
 have K:List.zipWith (λs v=>(V.str s,v)) ks vs=((ks.map Sum.inr).zip vs:List (Key×V)).map (λj=>(kV j.1,j.2)):=by
  rw[List.zip_eq_zipWith,List.zipWith_map_left,List.map_zipWith];rfl
 refine⟨B,(ks.map Sum.inr).zip vs,K,by rw[Sb,AB];omega,?_⟩;have nk:((ks.map Sum.inr:List Key)).Nodup:=ZKP _ (λa b(h:a≠b)=>λz=>h (by injection z)) hk;rw[hV _ [] (by rw[HM,List.map_fst_zip (by rw[AB];omega)];exact nk),HM];have mv:=za (o:=.dK ((ks.map Sum.inr).zip vs)) S (t.trans n) d x;have A:p∉OV.Am us:=λg=>by
  rcases(y p g).2.2 with⟨i,_,s,_,G,ow⟩|z
  .exact S.FK G ow d
  .rw[B3]at z;cases z
 refine q _ m (.nd (.BJ (ks.map Sum.inr)) p us) F1 _ mv (.nd (k:=.BJ (ks.map Sum.inr)) (vs:=vs) B3 trivial (show(List.map Sum.inr ks:List Key).length=vs.length by rw[AB];exact D.symm) (r.mono (AR.refl _) λa g o e=>by rw[AW (by rintro rfl;exact A g)];exact e)) ?_ (λa g=>?_) (kk p)
 .rw[OV.DV];exact List.nodup_cons.mpr ⟨A,Ii⟩
 .rw[OV.DV]at g;rcases List.mem_cons.mp g with e|g
  .subst e;exact⟨x,S.DB d,.inr d⟩
  .obtain⟨f,J,w⟩:=y a g;exact⟨f,J,w.imp id λz=>by
    by_cases c:a=p
    .subst c;exact d
    .rw[AW c]at z;exact z⟩
theorem ZH6{k:List Nat->OV->Prop}{k1 k2 k3:Str}{t1 t2 a:TE}(hk:[k1,k2,k3].Nodup)(h:Oe ss (AX t1 (AX t2 (AX a BA))) λm us=>us.length=3/\∀l,k m (.nd (.BJ [.inr k1,.inr k2,.inr k3]) l us)):Wx ss (Yz [(tC (.str k1),t1),(tC (.str k2),t2),(tC (.str k3),a)]) k:=⟨λE O F H Q S q p b=>
 ZC7 (ta:=AX t1 (AX t2 (AX a BA))) [k1,k2,k3] hk (by show(_:Nat)+1<=15;simp) S b h q⟩
variable{te:TE}{t:OV}
theorem bK{m:Str}{k:PV->Prop}(h:Wl ss i t te λ_ u=>∃dx ns a us,u=.nd (.obj C dx ns) a us/\DX ns m=none/\Wb ss ta λps=>∃c,pre ((u.pv::ps).map .is) (.is c)/\∀p,c p->Gb p=true/\k p):Wp ss (KS C m (AQ pre) [] E0 te ta) k:=⟨λE O F H Q S q=>
 h.go E O F H _ S λv p u F1 H1 d g B1⟨dx,ns,a,us,x,w,h2⟩=>by
  subst x;have z:=g;cases z with
  |@nd _ _ vs _ e A D B=>
   refine⟨a,dx,ns.zip vs,rfl,e,SQ w,h2.go E O F1 H1 _ d.st λvs ps F2 H2 b l⟨c,s,kk⟩=>?_⟩;rw[Dz];have j:=g.mv d.st h.hi B1 b;have y:AV (CQ F2 H2 (D9 ss O)) (V.ref a::vs) (_::ps):=.cons (j.rep b.st.IL.1 λa e o ho=>by
    unfold CQ;obtain⟨lt,hi⟩:=h.hi;rw[u4 (Vx b.st.len hi (by simp) (OV.JF B1 a e))];exact ho) l
   refine⟨_,.is c,_,[],s,b.st.lend y,λv F' H' f⟨p,r,kp⟩=>?_⟩;obtain⟨mv,n⟩:=b.st.VO f;exact q v p _ H' (d.trans (b.trans mv)) (r.sub n (kk p kp).1) (kk p kp).2⟩
end
theorem QD{N:List Str}{vs:List V}{X:XK}{t:TS}(h:BN pre vs H Q X)(b:∀ss R,pre ss R->ss.length=n)
  (hw:∀ss R,pre ss R->Ws (ss++List.replicate (N.length - n) .any) t (ZM R) R):t { nx:=λ_ H'=>Q .AA H',rt:=Q } (L2.start N vs) H:=by
 obtain⟨ss,R,F,A,B,a,S,q⟩:=h;have e:vs.length=n:=by have:=S.len;rw[AB]at this;rw[<- this];exact b ss R a
 unfold L2.start;rw[e];exact(hw ss R a).go (QL ⟨A,F,H,B⟩) _ _ F H (S.grown _) (λA6 σ' F' H' z S' _=>q .AA F' H' S'.toFin (z.ok S')) λv F' H' f ok=>q v F' H' f ok
end Fz
namespace Fz
open L2 Lw
section
variable[Xw]
variable{ss:List Slot}{te:TE}{K:ZLZ}{P:Program}{w:World}
variable{E:Ent0}{O:L2.St}{F H F' H':Hp}{js:List Nat}{ta tb:TE}
theorem md{E:Ent}{F1:Hp}{v:V}{tp:Bool}{xs:List PV}(f:Fv E.toEnt0 F1 v tp xs):∃l vs,v=.ref l/\(∀(ss:List Slot)(O:L2.St)(F H:Hp),AR F1 F->Sg E.toEnt0 ss O F H->H l=some (Em tp vs))/\AV F1 vs xs:=by
 cases tp with
 |true=>
  have a:Rep F1 v (.tup xs):=f;cases a with
  |tup e r=>exact⟨_,_,rfl,λss O F H s S=>S.fh _ _ (s _ _ e),r⟩
 |false=>
  obtain⟨l,vs,e,h1,r⟩:=f;refine⟨l,vs,e,λss O F H s S=>?_,r⟩;rcases h1 with h1|⟨hA,h1⟩
  .exact S.fh _ _ (s _ _ h1)
  .exact S.keep _ _ hA h1
theorem sg{k:List PV->Prop}(h:Wz ss ta λ_ xs=>Wz ss tb λ_ ys=>k (Ik xs ys)):Wi ss (XQ K (AX ta (AX tb BA))) k:=⟨λE O F H R S q=>
 h.go E O F H _ S λv tp xs F1 H1 u f h2=>h2.go E O F1 H1 _ u.st λM FL ys F2 H2 b C kk=>by
  obtain⟨l,vs,e,RG,r⟩:=md f;obtain⟨l2,EY,G,j,t⟩:=md C;have r:=r.mono b.ff;have n:∀(ss:List Slot)(O:L2.St)(F H:Hp),AR F2 F->Sg E ss O F H->H l=some (Em tp vs):=λss O F H s S=>RG ss O F H (λa o e=>s a o (b.ff a o e)) S;subst e;subst G;have c:=r.length;have c2:=t.length;refine⟨l,l2,tp,FL,vs,EY,rfl,Em.sq (n ss O F2 H2 (AR.refl _) b.st),Em.sq (j ss O F2 H2 (AR.refl _) b.st),q _ (Ik xs ys) F2 H2 (u.trans b) ⟨λss O F H i s S hi=>?_,λss O F H s S=>?_,λss O F H i x H' s S hi y=>?_⟩ kk⟩
  .rw[TL]at hi;exact⟨Em.sq (n ss O F H s S),Em.sq (j ss O F H s S),by omega,by omega⟩
  .refine⟨Em.sq (n ss O F H s S),Em.sq (j ss O F H s S),?_⟩;rw[TL];omega
  .obtain⟨p,z,w,hx,A,ex,B,D⟩:=y;subst ex;subst D;obtain⟨L,I,g⟩:=r.get' hx;obtain⟨J,ME,d⟩:=t.get' A;have m:=S.alloc B (.tup [z,w]);exact⟨_,_,mL I ME,m,.tup B3 (.cons (g.mono (s.trans m.ff)) (.one (d.mono (s.trans m.ff))))⟩⟩
theorem fM{n:Nat}{wi:TI}{tt:TT}{te:TE}{k:List PV->Prop}(f:PV->Bool)(g:PV->PV)
  (h:Wi ss wi λxs=>xs.length<=100000/\(∀x∈xs,∃as:List PV,x=.tup as/\as.length=n/\Wt (CT js ss++as.map .is) tt (λc=>c=f x)/\(f x=true->Wp (CT js ss++as.map .is) te λp=>p=g x))/\k ((xs.filter f).map g))
  (nd:js.Nodup:=by decide) (np:QF js ss=true:=by rfl):Wn ss (PQ K n wi js tt te) k:=⟨λE O F H Q S q=>
 h.go E O F H _ S λJ xs F1 H1 d D⟨hz,X,kk⟩acc BI=>by
  have R:CO ss O acc:=d.st.J6 BI;have JK:=d.st.DB BI;have JJ:∀(i:Nat)s,ss[i]?=some s->¬ BU s O[i]? acc:=λi s hi=>d.st.KQ hi BI;refine⟨λi m H2=>m=xs.length - i/\i<=xs.length/\∃F2 vs,Mv E ss O F1 H1 F2 H2/\F2 acc=none/\H2 acc=some (.lst vs)/\AV F2 vs (((xs.take i).filter f).map g),⟨_,rfl,Cf _,F1,[],d.st.make BI _,d.st.CK BI,B3,.nil⟩,?_⟩;rintro i m H2⟨rfl,hi,F2,vs,b,L,A,u⟩
  by_cases t:i<xs.length
  .refine .inr ⟨D.go ss O F2 H2 i b.ff b.st t,λx H3 y=>?_⟩;obtain⟨p,F3,G,z,I⟩:=D.FT ss O F2 H2 i x H3 b.ff b.st t y;have Jm:p∈xs:=C7 G;have LW:(xs.take (i+1))=xs.take i++[p]:=by
    have e2:xs[i]=p:=by rw[As t]at G;exact Be G
    rw[Sf t,e2]
   have M:List.filter f (xs.take (i+1))=(xs.take i).filter f++(if f p=true then[p]else[]):=by
    rw[LW,qu];congr 1
    by_cases j:f p=true <;> simp[j]
   have σ:∀{F4:Hp},(∀a o,F4 a=some o->F2 a=some o∨H2 a=none)->F4 acc=none:=λ{F4}n=>by
    cases e:F4 acc with
    |none=>rfl
    |some o=>
     rcases n acc o e with w|w
     .rw[L]at w;cases w
     .rw[A]at w;cases w
   obtain⟨as,ep,W,V,hw⟩:=X p Jm;rw[ep]at I;obtain⟨_,_,rfl,e,r⟩:=I.inv;refine⟨_,_,rfl,BW.of (z.st.fh _ _ e),by rw[r.length,W],?_⟩;have S3:=z.st.AN (js:=js) nd r;refine V.go E _ F3 H3 _ S3 λc F4 H4 U Y=>?_;have N:=U.out (ps:=as) z.st np;have l:=z.trans N;show if c=true then _ else _
   rw[Y]
   by_cases j:f p=true
   .rw[u4 j];have S4:=l.st.AN (js:=js) nd (r.mono N.ff);refine(hw j).go E _ F4 H4 _ S4 λw pw F5 H5 T KY Z=>?_;have MM:=T.out (ps:=as) l.st np;have C:=l.trans MM;have M0:=C.hh acc _ R A;have P:=σ C.nn;have v:vs.length<=99999:=by
     rw[u.length,AB];have:=WS f (xs.take i);rw[Dj]at this;omega
    refine⟨vs,M0,IT v,xs.length - (i+1),by omega,rfl,t,F5,vs++[w],?_,P,B3,?_⟩
    .have B:=b.trans C;refine⟨B.st.NT P (.inl JK) JJ,B.ff,λa o n e=>?_,B.nn⟩;rw[AW (D7 e BI)];exact B.hh a o n e
    .rw[M,u4 j,Ca];rw[Z]at KY;exact(u.mono C.ff).append (.one KY)
   .have Qy:f p=false:=by simpa using j
    rw[Qy,tK (by decide)];refine⟨xs.length - (i+1),by omega,rfl,t,F4,vs,b.trans l,σ l.nn,l.hh acc _ R A,?_⟩;rw[M,tK j,Dz];exact u.mono l.ff
  .have e:i=xs.length:=by omega
   subst e;refine .inl ⟨D.stop ss O F2 H2 b.ff b.st,q acc vs _ F2 H2 (d.trans b) L (d.none BI) A ?_ kk⟩;rw[G6]at u;exact u⟩
end
end Fz
namespace L2
theorem vA{X:Cx}:GH X "list.clear" Xl:=ZK0
end L2
namespace L2
section
variable{X:Cx}{e:Expr}{t1 t2:TE}{u1 u2:TT}
def aq(t1 t2:TT):TT:=λO H Q=>t1 O H Q∨t2 O H Q
theorem xN(h1:QT X e u1)(h2:QT X e u2):QT X e (aq u1 u2):=⟨λZd s O H Q I h=>h.elim (h1.h Zd s O H Q I) (h2.h Zd s O H Q I)⟩
end
end L2
namespace Fz
open L2 Lw
variable{ss:List Slot}{te:TE}{a a0 b:Addr}
section
variable[Xw]
variable{K:ZLZ}{ta tb tc ti t1 t2:TE}{u1 u2:TT}{nx:List Slot->Prop}{R:Ag}{xs ps:List PV}{i j:Nat}{t:OV}{lt:Bool}{js:List Nat}
theorem ZHE{k:Bool->Prop}(h:Wt ss u1 k):Wt ss (aq u1 u2) k:=⟨λE O F H Q S q=>.inl (h.go E O F H Q S q)⟩
theorem wX{k:Bool->Prop}(h:Wt ss u2 k):Wt ss (aq u1 u2) k:=⟨λE O F H Q S q=>.inr (h.go E O F H Q S q)⟩
theorem ZKF{n:Nat}{wi:TI}{tt:TT}{k:List Nat->OV->Prop}(G:PV->OV->Prop)
  (h:Wi ss wi λxs=>xs.length<=99999/\(∀x∈xs,∃as:List PV,x=.tup as/\as.length=n/\Wt (CT js ss++as.map .is) tt (λc=>c=true)/\Wx (CT js ss++as.map .is) te λm u=>m=[]/\G x u)/\∀l us,us.length=xs.length->(∀(j:Nat)x u,xs[j]?=some x->us[j]?=some u->G x u)->k [] (.nd .lst l us))
  (nd:js.Nodup:=by decide) (np:QF js ss=true:=by rfl):Wx ss (PQ K n wi js tt te) k:=⟨λE O F H Q S q=>
 h.go E O F H _ S λJ xs F1 H1 g N⟨hz,he,kk⟩acc BI=>by
  have GL:CO ss O acc:=g.st.J6 BI;have JK:=g.st.DB BI;have JJ:∀(i:Nat)s,ss[i]?=some s->¬ BU s O[i]? acc:=λi s hi=>g.st.KQ hi BI;refine⟨λi m H2=>m=xs.length - i/\i<=xs.length/\∃F2 vs us,Mv E ss O F1 H1 F2 H2/\F2 acc=none/\H2 acc=some (.lst vs)/\BR F2 H2 vs us/\(OV.Am us).Nodup/\(∀a∈OV.Am us,F2 a=none/\H1 a=none/\a≠acc)/\us.length=i/\∀(j:Nat)x u,xs[j]?=some x->us[j]?=some u->G x u,
   ⟨_,rfl,Cf _,F1,[],[],g.st.make BI _,g.st.CK BI,B3,.nil,by rw[OV.Gm];exact HN,λa v=>by(rw[OV.Gm]at v;cases v),rfl,λj x u _ e=>by simp at e⟩,?_⟩
  rintro i m H2⟨rfl,hi,F2,vs,us,t,fa,v,C,JY,MC,MZ,Z⟩
  by_cases U:i<xs.length
  .refine .inr ⟨N.go ss O F2 H2 i t.ff t.st U,λx H3 y=>?_⟩;obtain⟨p,F3,Y,L,V⟩:=N.FT ss O F2 H2 i x H3 t.ff t.st U y;have Jm:p∈xs:=C7 Y;have Jt:∀{F4:Hp},(∀a o,F4 a=some o->F2 a=some o∨H2 a=none)->F4 acc=none:=λ{F4}n=>by
    cases e:F4 acc with
    |none=>rfl
    |some o=>
     rcases n acc o e with w|w
     .rw[fa]at w;cases w
     .rw[v]at w;cases w
   obtain⟨as,ep,hn,ht,hw⟩:=he p Jm;rw[ep]at V;obtain⟨_,_,rfl,e,r⟩:=V.inv;refine⟨_,_,rfl,BW.of (L.st.fh _ _ e),by rw[r.length,hn],?_⟩;have S3:=L.st.AN (js:=js) nd r;refine ht.go E _ F3 H3 _ S3 λc F4 H4 m4 d=>?_;have LH:=m4.out (ps:=as) L.st np;have A:=L.trans LH;show if c=true then _ else _
   rw[d,u4 rfl];have S4:=A.st.AN (js:=js) nd (r.mono LH.ff);refine hw.go E _ F4 H4 _ S4 λw mm u F5 H5 m5 KY xV hu⟨em,σ⟩=>?_;subst em;have MM:=m5.out (ps:=as) A.st np;have B:=A.trans MM;have M0:=B.hh acc _ GL v;have I0:=Jt B.nn;have D:vs.length<=99999:=by rw[C.length,MZ];omega
   have X:∀b∈OV.Am us,CO ss O b:=λb d=>g.st.J6 (MC b d).2.1;have r5:=C.mono B.ff λb d o I=>B.hh b o (X b d) I;have r4:=C.mono A.ff λb d o I=>A.hh b o (X b d) I;have un:∀b∈u.addrs,F5 b=none/\H4 b=none:=λb d=>by
    obtain⟨f,_,w⟩:=hu b d;exact⟨f,w.elim (λ⟨_,z,_⟩=>absurd z (by simp)) id⟩
   have T:H4 acc≠none:=by rw[A.hh acc _ GL v];simp
   have W:∀b∈u.addrs,b≠acc:=λb d z=>T (z▸(un b d).2);have R:OV.Am (us++[u])=OV.Am us++u.addrs:=by rw[Lk,NF]
   have wM:∀b,F2 b=none->H2 b≠none->F5 b=none:=λb h1 h2=>B.jB h1 h2;refine⟨vs,M0,IT D,xs.length - (i+1),by omega,rfl,U,F5,vs++[w],us++[u],?_,I0,B3,?_,?_,λb d=>?_,by rw[By,MZ];rfl,λj x u' hx IB=>?_⟩
   .have M:=t.trans B;refine⟨M.st.NT I0 (.inl JK) JJ,M.ff,λa o n e=>?_,M.nn⟩;rw[AW (D7 e BI)];exact M.hh a o n e
   .refine(r5.append (.one KY)).mono (AR.refl _) λb d o I=>?_;rw[AW ?_]
    .exact I
    .rw[R]at d;rcases List.mem_append.mp d with d|d
     .exact(MC b d).2.2
     .exact W b d
   .rw[R,Cy];refine⟨JY,xV,λb d c hc P=>?_⟩;subst P;exact r4.there b d (un b hc).2
   .rw[R]at d;rcases List.mem_append.mp d with d|d
    .exact⟨wM b (MC b d).1 (C.there b d),(MC b d).2⟩
    .exact⟨(un b d).1,(t.trans A).none (un b d).2,W b d⟩
   .by_cases c:j<us.length
    .rw[EW c]at IB;exact Z j x u' hx IB
    .rw[G5 (by omega)]at IB;have hj:j=us.length:=by
      have:=(List.getElem?_eq_some_iff.mp IB).1;simp at this;omega
     subst hj;simp at IB;subst IB;rw[MZ,Y]at hx;cases hx;exact σ
  .have e:i=xs.length:=by omega
   subst e;refine .inl ⟨N.stop ss O F2 H2 t.ff t.st,?_⟩;refine q _ [] (.nd .lst acc us) F2 H2 (g.trans t) (.nd (k:=.lst) v trivial trivial C) ?_ (λb d=>?_) (kk acc us MZ Z)
   .rw[OV.DV];exact List.nodup_cons.mpr ⟨λz=>(MC acc z).2.2 rfl,JY⟩
   .rw[OV.DV]at d;rcases List.mem_cons.mp d with e|d
    .subst e;exact⟨fa,JK,.inr (g.none BI)⟩
    .have d:b∈OV.Am us:=by simpa[NK.more]using d
     have z:=(MC b d).2.1;exact⟨(MC b d).1,g.st.DB z,.inr (g.none z)⟩⟩
theorem zG(h:Wl ss i t ta λp u=>∃lt a us,ss[i]?=some (.ow lt t)/\u=.nd .lst a us/\nx (ss.set i (.ow lt (t.put p (.nd .lst a []))))):Ws ss (HA (TF K "list" Xl ta)) nx R:=⟨λE D O F H S g n=>
 h.go E O F H _ S λv p u F1 H1 d f B1 AO=>by
  obtain⟨lt,a,us,hi,j,kk⟩:=AO;subst j;obtain⟨vs,rfl,e,k,o,l⟩:=f.inv;refine⟨.inl ⟨rfl,_,AU.of e⟩,a,vs,rfl,rfl,e,g _ O F1 _ kk (Sg.ax (m:=[]) (u:=.fz .AA) d.st d.st hi B1 (λb c=>by rw[OV.IE]at c;cases c) (by simp) .nil (by rw[OV.Gm];exact HN) λb c=>by rw[OV.Gm]at c;cases c) d.ff⟩⟩
structure fe (ss:List Slot) (g:TG) (u:OV) (k:List Slot->Prop):Prop where
 go:∀(E:Ent)(O:L2.St)(F H:Hp)(v:V)(Q:L2.St->Hp->Prop),Sg E ss O F H->BB F H v u->(∀A6 σ',k A6->Sg E A6 σ' F H->Q σ' H)->g v O H Q
theorem ZD6{g d f:Nat}{p q:PV}{nk:NK}{us:List OV}{k:List Slot->Prop}(h:k (((ss.set g (.is p)).set d (.raw (ptr b))).set f (.is q))):fe ss (O8 K 3 (LK (D2 g) (LK (D2 d) (LK (D2 f) S9)))) (.tp [.fz p,.nd nk b us,.fz q]) k:=⟨λE O F H v Q S r l=>by
 obtain⟨_,_,rfl,e,r⟩:=r.inv;obtain⟨_,_,rfl,c,r⟩:=r.inv;obtain⟨_,_,rfl,i,r⟩:=r.inv;obtain⟨_,_,rfl,a,r⟩:=r.inv;obtain rfl:=r.ET;have c:Rep _ _ _:=c.inv;have a:Rep _ _ _:=a.inv;obtain⟨_,rfl,_,_,_,_⟩:=i.inv;refine⟨_,_,rfl,BW.of (S.fh _ _ e),rfl,_,_,rfl,_,_,rfl,_,_,rfl,rfl,l _ _ h ?_⟩;exact((S.Gr c).setG (j:=d) (s:=.raw (ptr b)) (v:=.ref b) ⟨_,rfl,rfl,λ_ _ _ h=>h⟩ λ_ z=>by cases z).Gr a⟩
theorem sf{g:TG}{tb:TS}(N:Nat)(I:Nat->List Slot->Prop)(j:I 0 ss)(st:∀n A6,n<=N->I n A6->∃lt us,A6[i]?=some (.ow lt (.nd .lst a0 us))/\us.length=N/\(n<N->∃u,us[n]?=some u/\fe A6 g u λBm=>Ws Bm tb (I (n+1)) R))(hd:∀A6,I N A6->nx A6):
  Ws ss (Ta (dS K (Al i)) g tb) nx R:=⟨λE D O F H S G C=>by
 have look:∀{A6:List Slot}{σ':L2.St}{F' H':Hp}{lt:Bool}{us:List OV},Sg E A6 σ' F' H'->A6[i]?=some (.ow lt (.nd .lst a0 us))->σ'[i]?=some (some (.ref a0))/\∃vs,H' a0=some (.lst vs)/\BR F' H' vs us:=λ{A6 σ' F' H' lt us}S hi=>by
  obtain⟨v,e,r,_,_⟩:=S.ok i _ hi;obtain⟨_,rfl,J,_,_,s⟩:=r.inv;exact⟨e,_,J,s⟩
 obtain⟨lt,us,hi,P,_⟩:=st 0 ss (Cf _) j;obtain⟨e,vs,A,M⟩:=look S hi;refine⟨_,e,a0,rfl,⟨vs,AU.of A⟩,?_⟩;refine⟨λn m σ' H'=>m=N - n/\n<=N/\∃A6 F',I n A6/\Sg E A6 σ' F' H'/\AR F F',⟨_,rfl,Cf _,ss,F,j,S,AR.refl _⟩,?_⟩;rintro n m σ' H'⟨rfl,Jk,A6,F',h,S',s'⟩;obtain⟨z,us',Cq,DS,tn⟩:=st n A6 Jk h;obtain⟨_,Bt,N9,f⟩:=look S' Cq;have σ:=f.length
 by_cases l:n<N
 .obtain⟨u,B,o⟩:=tn l;obtain⟨v,k,d⟩:=f.get B;refine .inr ⟨⟨Bt,v,AU.of N9,k⟩,λσ2 H2=>∃Bm F2,I (n+1) Bm/\Sg E Bm σ2 F2 H2/\AR F F2,λσ2 H2 AO=>by obtain⟨Bm,F2,a,b,c⟩:=AO;exact⟨_,by omega,rfl,l,Bm,F2,a,b,c⟩,λx H3 y=>?_⟩;obtain⟨L,hx⟩:=y;subst L;have ex:x=v:=by
   have:=hx Bt (AU.of N9);rw[k]at this;exact(Be this).symm
  subst ex;refine o.go E σ' F' H3 _ _ S' d λp σ4 w S4=>?_;exact w.go E _ σ4 F' H3 S4 (λNO σ5 F5 H5 t S5 q=>⟨NO,F5,t,S5,s'.trans q⟩) C
 .have e:n=N:=by omega
  subst e;refine .inl ⟨⟨Bt,AU.of N9,by omega⟩,?_⟩;exact G _ _ F' H' (hd _ h) S' s'⟩
end
def Ig:Slot->Slot
 | .own xs=>.is (.lst xs)
 | .ow _ t=>.is t.pv
 | .AY=>.any
 |s=>s
section
variable{E:Ent0}{O:L2.St}{F H F' H':Hp}
theorem Sg.aE(S:Sg E ss O F H):Sg (E3 [] (CQ F H (D9 ss O)) H) (ss.map Ig) O (CQ F H (D9 ss O)) H:=by
 have nn:∀{p:Prop}(a:Addr),a∈([]:List Addr)->p:=λa h=>absurd h Aa;refine⟨⟨S.IL.2,AR.refl _,λ_ _ _ e=>e,λ_ _ e=>.inl e,λa h=>nn a h,λa h=>nn a h,λa h=>nn a h,λa h=>nn a h,λa h=>nn a h,λa h=>nn a h⟩,by rw[AB,S.len],λi s hi=>?_,λi j s u l FU hi w ms q=>?_⟩
 .rw[Ax]at hi;cases e:ss[i]? with
  |none=>rw[e]at hi;cases hi
  |some s0=>
   rw[e]at hi;have es:Ig s0=s:=Be hi;subst es;have k:=S.ok i s0 e;cases s0 with
   |any=>trivial
   |is p=>obtain⟨v,b,r⟩:=k;exact⟨v,b,r.mono S.IL.1⟩
   |own xs=>
    obtain⟨l,vs,b,_,_,m,r⟩:=k;refine⟨_,b,.lst ?_ (r.mono S.IL.1)⟩;unfold CQ;rw[u4 (Vx S.len e (by simp) b)];exact m
   |AY=>trivial
   |sq tp xs=>
    cases tp with
    |true=>obtain⟨v,b,r⟩:=k;exact⟨v,b,r.mono S.IL.1⟩
    |false=>
     obtain⟨l,vs,b,g,n,r⟩:=k;exact⟨l,vs,b,⟨Aa,Aa⟩,S.keep l _ g n,r.mono S.IL.1⟩
   |raw P=>obtain⟨v,b,d,c⟩:=k;exact⟨v,b,c _ _ S.IL.1 d,c⟩
   |ow lt t=>
    obtain⟨v,b,r,_,_⟩:=k;refine⟨v,b,r.rep S.IL.1 λa f o ho=>?_⟩;unfold CQ;rw[u4 (Vx S.len e (by simp) f)];exact ho
 .rw[Ax]at hi;cases e:ss[i]? with
  |none=>rw[e]at hi;cases hi
  |some s0=>
   rw[e]at hi;have es:Ig s0=s:=Be hi;subst es;cases s0 <;> cases ms
mutual
def OV.Hm:OV->Bool
 | .fz p=>Gb p
 | .tp xs=>OV.Kl xs
 | .nd _ _ xs=>OV.Kl xs
def OV.Kl:List OV->Bool
 | []=>true
 |x::r=>x.Hm && OV.Kl r
end
theorem BB.wy{as:List Addr}(h:∀a∈as,∀vs,F a≠some (.tup vs)):∀{v:V}{t:OV},BB F H v t->t.Hm=true->BB (GA F as) H v t:=by
 intro v t r d;exact BB.rec (motive_1:=λv t _=>t.Hm=true->BB (GA F as) H v t) (motive_2:=λvs ts _=>OV.Kl ts=true->BR (GA F as) H vs ts)
  (λ{v p}r z=>.fz (r.sub h (by simpa[OV.Hm]using z)))
  (λ{a vs xs}e _ b z=>.tp (by unfold GA;rw[tK (λq=>h a q vs e)];exact e) (b (by simpa[OV.Hm]using z)))
  (λ{k a vs xs}e c f _ b z=>.nd e c f (b (by simpa[OV.Hm]using z)))
  (λ_=>.nil)
  (λ_ _ QC MF z=>by
   rw[OV.Kl,Ff]at z;exact .cons (QC z.1) (MF z.2))
  r d
end
section
variable{c:TT}
def Zq(E:Ent0)(F H:Hp)(as:List Addr):@Ent oN:=@Ent.mk oN (E3 [] (CQ F H as) H) λ_ _ _ _ _ _ _ _ _ d _=>d.elim
theorem ZAn{k:PV->Prop}(h:Wp (ss.map Ig) te λp=>Gb p=true/\k p):Wp ss te k:=⟨λE O F H Q S q=>by
 refine h.go (Zq E F H (D9 ss O)) O _ H Q S.aE λv p F' H' m a⟨c,kk⟩=>?_;obtain⟨M,b⟩:=S.VO m.st.toFin;exact q v p _ H' M (a.sub b c) kk⟩
theorem ZE8{k:List PV->Prop}(h:Wn (ss.map Ig) te λys=>Il ys=true/\k ys):Wn ss te k:=⟨λE O F H Q S q=>by
 refine h.go (Zq E F H (D9 ss O)) O _ H Q S.aE λl2 EY ys F' H' m d h2 K0 a⟨c,kk⟩=>?_;obtain⟨M,b⟩:=S.VO m.st.toFin;exact q l2 EY ys _ H' M (by unfold GA;split <;> first|rfl|exact d) h2 K0 (a.sub b c) kk⟩
theorem ZJX{k:List Nat->OV->Prop}(h:Wx (ss.map Ig) te λm u=>m=[]/\u.Hm=true/\k [] u):Wx ss te k:=⟨λE O F H Q S q=>by
 refine h.go (Zq E F H (D9 ss O)) O _ H Q S.aE λv l u F' H' m c nd d⟨j,g,kk⟩=>?_;subst j;obtain⟨M,e⟩:=S.VO m.st.toFin;refine q v [] u _ H' M (c.wy e g) nd (λa i=>?_) kk;obtain⟨f,b,_⟩:=d a i;have b:H a=none:=b;exact⟨by unfold GA;split <;> first|rfl|exact f,S.DB b,.inr b⟩⟩
end
end Fz
namespace L2
variable{X:Cx}{Zd:ZLa}{O:St}{s s2:Shared}{i tk:Nat}{te tl:TE}{pos:Pos}{ifs:List Expr}{N zs:List Str}{outer scope:Scope}{js:List Nat}{tt:TT}{wi:TI}
section
theorem Inv.same{H:Hp}(I:Inv X Zd O H s){h':Heap}(k:∀b o,s.heap.get? b=some o->h'.get? b=some o):Inv X Zd O H { s with heap:=h',toks:=tk }:=I.kept (t':=tk) k
def UK(K:ZLZ):List V->Hp->VK->Prop:=λxs H Q=>∃(p:Addr)(ss:List Int),xs=[.ref p]/\AU K H p (ss.map V.int)/\Q (.int ss.sum) H
theorem VX(f:X.calm=true):Dp X (.builtin "sum") (UK X.K):=by
 intro Zd s O H xs us Q I r h;obtain⟨p,ss,rfl,d,q⟩:=h;obtain⟨u,rfl,b⟩:=vals1 r;cases b;obtain⟨A5,c,pl,_⟩:=I.list d;have hi:=T9 c;obtain⟨ys,e⟩:=hi.allInts.items;have a:=pl.isList;rw[e]at a;refine sum_intListG (I.ok.hd f) a λh' tk t' hk=>⟨.int _,H,I.same hk,⟨t',rfl⟩,?_⟩;have g:ys.toList.map (·.1)=ss:=by
  rw[<- nums_intItems,<- e];exact hi.numsOf
 rw[preSum_eq,Pn (by simp),g];exact q
def kL(K:ZLZ):List V->Hp->VK->Prop:=λxs H Q=>∃(p:Addr)(ss:List Int),xs=[.ref p]/\AU K H p (ss.map V.int)/\ss≠[]/\∀m∈ss,(∀y∈ss,y<=m)->Q (.int m) H
theorem ZFd(l:X.calm=true):Dp X (.builtin "max") (kL X.K):=by
 intro Zd s O H xs us Q I r h;obtain⟨p,ss,rfl,k,Bl,q⟩:=h;obtain⟨u,rfl,d⟩:=vals1 r;cases d;obtain⟨A5,f,pl,_⟩:=I.list k;have hi:=T9 f;obtain⟨ys,e⟩:=hi.allInts.items;have c:=pl.isList;rw[e]at c;have a:ys.toList.map (·.1)=ss:=by
  rw[<- nums_intItems,<- e];exact hi.numsOf
 have b:ys.size=ss.length:=by rw[<- a];simp
 have Mx:0<ss.length:=List.length_pos_iff.mpr Bl;refine max_intList (I.ok.hd l) c (by omega) λv h' tk i hk=>?_;obtain⟨t',rfl⟩:=intItems_at i;obtain⟨t,n⟩:=argBest_gt (numAt ys) (ys.size - 1);refine⟨.int _,H,I.same hk,⟨t',rfl⟩,q _ ?_ λy g=>?_⟩
 .rw[numAt_eq,a];exact getD_mem (by omega)
 .obtain⟨j,o,m⟩:=mem_getD g;have:=n j (by omega);rw[numAt_eq ys j,a,m]at this;exact this
def YA(K:ZLZ):V->V->Hp->VK->Prop:=λx y H Q=>∃(p:Addr)(xs:List V)(i:Nat)(v:V),x=.ref p/\y=.int i/\AU K H p xs/\xs[i]?=some v/\Q v H
theorem ZEy:p8 X (YA X.K):=by
 intro Zd s O H o i f g Q I a b h;obtain⟨p,xs,j,v,rfl,rfl,c,hx,q⟩:=h;cases a;obtain⟨t,rfl⟩:=b;obtain⟨A5,r,pl,k⟩:=I.list c;obtain⟨w,e,HF⟩:=r.get hx;have l:=(List.getElem?_eq_some_iff.mp hx).1;refine wpAny_getItem_list pl.isList (by omega) ?_ (x:=w) (by simpa using e) ⟨v,H,I,HF,q⟩
 have d:sizeLine<2 ^ 63:=by decide+kernel
 have:(j:Int)<((2 ^ 63:Nat):Int):=Int.ofNat_lt.mpr (by omega);exact this
theorem sG{o i e:Expr}{to ti:TE}{ML:LQ}{op:Operator}{K4:Pos}(ho:QE X o to)(hi:QE X i ti)(d:QE X e te)(c:OF X op ML)
  (f:∀a b new,augStore i a b new=(do holding [new,a,b] (setItem a b new);release [new,a,b] [];pure .next):=by intros;rfl):QS X (.AugAssign (.Subscript o i K4) op e pos) (bE to ti te (YA X.K) ML WL):=⟨ZIm ho.h hi.h ZEy d.h c set_list f⟩
theorem ZCp{tg l:Expr}(d:QE X l tl):QI X tg l (dS X.K tl):=⟨by
 have d:=d.h;intro Zd s O H R I h;refine Ay (d Zd s O H _ I h) λv c HI=>?_;obtain⟨x,H1,I1,f,g⟩:=HI;obtain⟨a,e,⟨xs,i⟩,q⟩:=g;subst e;cases f;obtain⟨A5,k,p,m⟩:=I1.list i;refine ZAc p.isList ?_;refine⟨c.heap.objs.size,[c.heap.objs.size],_,_,H1,rfl,I1.kept (t':=c.toks) λb o e=>Bo _ e,Ox a _,⟨_,CY _ rfl,rfl,rfl⟩,λb j=>?_,q⟩;have e:b=c.heap.objs.size:=by simpa using j
 subst e;exact I1.MB (B0 _) (I1.AJ.fresh (B0 _))⟩
variable{elt iter:Expr}{es:List Expr}{tp:Pos}{AN:List Str}
theorem xH{y:Str}{py Ga:Pos}(f:X.N.Nodup)(Cq:X.N[i]?=some y)(d:Loc X.env.scope y)(c:X.calm=true)(S:Jb X.N X.env.scope scope zs AN js)(KI:Jg zs es)(Hh:∀e,(assignEach es e).length=zs.length)(Ea:∀e,(assignEach es e).findIdx? (·.1)=none)(hi:QI X (.Tuple es tk tp) iter wi)
  (b:∀fp C s H,Mi (G4 X (AN++zs) scope (C0 X.env.cells scope.names) C s H fp) ifs tt) (a:∀fp C s H,QE (G4 X (AN++zs) scope (C0 X.env.cells scope.names) C s H fp) elt te)
  (K7:swapsWith (.ListComp elt [⟨.Tuple es tk tp,iter,ifs,0⟩] scope pos) (some (.Name y py)) Ga.line X.env=pure true:=by rfl)
  (hf:X.fn y=true∨X.env.scope.names.lookup y=some .local:=by first|exact .inl rfl|exact .inr rfl|assumption)
  (hs:∀v,foldedSetIterable iter X.env v=pure v:=by intro _;rfl):QS X (.Assign [.Name y py] (.ListComp elt [⟨.Tuple es tk tp,iter,ifs,0⟩] scope pos) Ga) (Ez (PQ X.K zs.length wi js tt te) (D2 i)):=⟨by have hi:=hi.h;have b:=λfp C s H=>(b fp C s H).h;have a:=λfp C s H=>(a fp C s H).h;exact oH (CW:=λJ O H1 acc Q=>Ss X.K zs.length J js tt te O H1 acc Q) (iX S.G) f Cq d c S.G hi (λ_ _ _ _=>i7 c S.G S.J0 KI Hh Ea) b a K7 hf hs⟩
end
structure T7 (N:List Str) (outer scope:Scope) (x:Str) (AN:List Str) (js:List Nat):Prop where
 kind:scope.kind=.function
 loc:∀y∈scope.names,y.2=.local->scope.names.lookup y.1=some .local
 J0:scope.names.lookup x=some .cell
 one:∀y∈scope.names,y.2=.cell->y.1=x
 cf:∀(n:Nat)(cl:List (Str×Addr)),cellsFrom n scope.names cl=(x,n)::cl
 pc:∀h:Heap,pushCells h scope.names=h.push { cls:=.type "cell", data:=.cell none }
 at':js.map (λj=>N[j]?)=AN.map some
 cell:∀y∈AN,outer.names.lookup y=some .cell
 free:∀y∈AN,scope.names.lookup y=some .free
 all:∀y∈scope.names,y.2=.free->outer.names.lookup y.1=some .cell
 nd:(AN++[x]).Nodup
abbrev jw(X:Cx)(N:List Str)(scope:Scope)(x:Str)(cl:List (Str×Addr))(C:Addr)(s:Shared)(H:Hp)(fp:List Addr):Cx:=G8 X N scope (some x) cl C s H fp
section
variable{H2:Hp}{elt iter:Expr}{x:Str}{px:Pos}{AN:List Str}{J:It}{fp:List Addr}{it:Addr}{tn:Nat->Heap->Prop}
theorem T7.G(S:T7 N outer scope x AN js):Ft N outer scope (some x) [x] AN js:=
 ⟨S.kind,S.loc,λy a e=>by rw[S.one y a e],λy e=>by rw[Be e];exact List.mem_singleton_self _,S.cf,S.pc,S.at',S.cell,S.free,S.all,S.nd⟩
theorem ZET(b:X.calm=true)(S:T7 X.N X.env.scope scope x AN js)(hi:QI X (.Name x px) iter wi)
  (DE:∀fp C s H,Mi (jw X (AN++[x]) scope x (C0 X.env.cells scope.names) C s H fp) ifs tt) (DL:∀fp C s H,QE (jw X (AN++[x]) scope x (C0 X.env.cells scope.names) C s H fp) elt te)
  (a:∀v,foldedSetIterable iter X.env v=pure v:=by intro _;rfl):QE X (.ListComp elt [⟨.Name x px,iter,ifs,0⟩] scope pos) (KL wi js tt te):=
 ⟨bX (CW:=λJ O H1 acc Q=>MJ J js tt te O H1 acc Q) (ZZ S.G) b S.G hi.h (λ_ _ _ _=>bQ S.G (.inr ⟨rfl,S.J0⟩)) (λfp C s H=>(DE fp C s H).h) (λfp C s H=>(DL fp C s H).h) a⟩
end
end L2
namespace Fz
open L2 Lw
variable{A6 ss:List Slot}{ta tb tc te ti:TE}{nx:List Slot->Prop}{R:Ag}{xs ys:List PV}{i j n:Nat}{r x y:Str}{E:Ent0}{O:L2.St}{F H:Hp}{pre:Pre}{L N S T W ns:List Str}{vs:List V}{Q:VK}{nk:NK}{C a0:Addr}{us:List OV}{js l:List Nat}{u:OV}{f:Str->List Str}
section
variable[Xw]
variable{K:ZLZ}{k:PV->Prop}
theorem nG(h:Wq ss te λtp xs=>tp=false/\∃ns:List Int,xs=ns.map PV.int/\k (.int ns.sum)):Wp ss (El (UK K) (AX te BA)) k:=⟨λE O F H Q S q=>
 h.go E O F H _ S λv tp xs F1 H1 a sv AO=>by
  obtain⟨c,ns,e,kk⟩:=AO;subst c;subst e;obtain⟨l,vs,rfl,b,r⟩:=sv.seq a.st;rw[r.ints]at b;exact⟨l,ns,rfl,AU.of b,q _ _ F1 H1 a (.int _) kk⟩⟩
theorem uV(h:Wq ss te λtp xs=>tp=false/\∃ns:List Int,xs=ns.map PV.int/\ns≠[]/\∀m∈ns,(∀y∈ns,y<=m)->k (.int m)):Wp ss (El (kL K) (AX te BA)) k:=⟨λE O F H Q S q=>
 h.go E O F H _ S λv tp xs F1 H1 a sv AO=>by
  obtain⟨f,ns,e,Bl,kk⟩:=AO;subst f;subst e;obtain⟨l,vs,rfl,b,r⟩:=sv.seq a.st;rw[r.ints]at b;exact⟨l,ns,rfl,AU.of b,Bl,λm d c=>q _ _ F1 H1 a (.int _) (kk m d c)⟩⟩
theorem ZAk{g:Int->Int->Int}(hi:ss[i]?=some (.own xs))(h:Wp ss ti λq=>∃(n:Nat)(x:Int),q=.int n/\xs[n]?=some (.int x)/\Wp ss te λp=>∃y,p=.int y/\nx (ss.set i (.own (xs.set n (.int (g x y)))))):Ws ss (bE (Al i) ti te (YA K) (Ks g) WL) nx R:=⟨λE D O F H S t G=>by
 obtain⟨l,vs,e,L,J,I,r⟩:=S.ok i _ hi;refine⟨_,e,h.go E O F H _ S λv q F1 H1 f o⟨n,x,eq,hx,h2⟩=>?_⟩;subst eq;cases o.inv;obtain⟨s,YJ,a,_,_,k,c⟩:=f.st.ok i _ hi;rw[e]at a;cases a;obtain⟨w,hw,b⟩:=c.get hx;cases b.inv;refine⟨l,YJ,n,_,rfl,rfl,AU.of k,hw,h2.go E O F1 H1 _ f.st λC p F2 H2 d m⟨y,A,kk⟩=>?_⟩;subst A;cases m.inv;obtain⟨s,EY,a,z,u,j,Ic⟩:=d.st.ok i _ hi;rw[e]at a;cases a;have B:n<EY.length:=by rw[Ic.length];exact(List.getElem?_eq_some_iff.mp hx).1
 refine⟨x,y,rfl,rfl,l,EY,_,n,rfl,rfl,j,gN B,?_⟩;exact t _ O F2 _ kk (d.st.put hi e z u (Ic.set n (.int _))) (f.ff.trans d.ff)⟩
theorem ZIW{y:PV}(c:ss[j]?=some (.own ys))(f:ys[ys.length - 1]?=some y)(h:nx ((ss.set j (.own ys.dropLast)).set i (.is y))):Ws ss (Ez (TF K "list" cB (Al j)) (D2 i)) nx R:=⟨λE D O F H S g n=>by
 obtain⟨l,vs,e,m,k,d,r⟩:=S.ok j _ c;obtain⟨w,hw,a⟩:=r.get f;have b:=r.length;refine⟨_,e,.inl ⟨rfl,_,AU.of d⟩,l,vs,w,rfl,rfl,d,by rw[b];exact hw,?_⟩;have rd:AV F vs.dropLast ys.dropLast:=by
  rw[ZKT,ZKT,b];exact r.take _
 exact g _ _ F _ h ((S.put c e m k rd).Gr a) (AR.refl _)⟩
end
section
variable{lt:Bool}
def Yn(i:Nat)(R:Ag)(A6:List Slot):Prop:=∃(k:PV->OV->Prop)(nk:NK)(a:Addr)(us:List OV),R=.mt k/\A6[i]?=some (.ow true (.nd nk a us))/\k .AA (.nd nk a us)
theorem Yn.ok(h:Yn i R A6)(S:Sg E A6 O F H):R.ok E F H .AA:=by
 obtain⟨k,nk,a,us,rfl,g,hk⟩:=h;obtain⟨f,e0,c,D3,d⟩:=S.ok i _ g;have j:f=.ref a:=by cases c;rfl
 subst j;exact⟨.AA,.nd nk a us,.AA,c,D3,λb e=>⟨(d b e).1,(d b e).2.imp id λz=>z.2⟩,hk⟩
theorem ZHf(i:Nat){X:XK}{t:TS}(h:BN pre vs H Q X)(b:∀ss R,pre ss R->ss.length=n)
  (hw:∀ss R,pre ss R->Ws (ss++List.replicate (N.length - n) .any) t (Yn i R) R):t { nx:=λ_ H'=>Q .AA H',rt:=Q } (L2.start N vs) H:=by
 obtain⟨ss,R,F,A,B,a,S,q⟩:=h;have e:vs.length=n:=by have:=S.len;rw[AB]at this;rw[<- this];exact b ss R a
 unfold L2.start;rw[e];exact(hw ss R a).go (QL ⟨A,F,H,B⟩) _ _ F H (S.grown _) (λA6 σ' F' H' z S' _=>q .AA F' H' S'.toFin (z.ok S')) λv F' H' f ok=>q v F' H' f ok
variable[Xw]
theorem ZGK{k:PV->OV->Prop}(hi:ss[i]?=some (.ow lt (.nd nk a0 us)))(h:k .AA (.nd nk a0 us)):Ws ss XF nx (.mt k):=⟨λE D O F H S j f=>by
 obtain⟨e,e0,b,D3,c⟩:=S.ok i _ hi;have g:e=.ref a0:=by cases b;rfl
 subst g;exact f .AA F H S.toFin ⟨.AA,.nd nk a0 us,.AA,b,D3,λa d=>⟨(c a d).1,(c a d).2.imp id λz=>z.2⟩,h⟩⟩
end
theorem Kv(b:∀ss R,¬ pre ss R){E:XK}(h:BN pre vs H Q E):False:=by
 obtain⟨ss,R,F,A,B,a,_⟩:=h;exact b ss R a
def GI(x:Str):Prop:=(reprText x).length<=100000/\x.length<=1000
def pZ:Pre:=λl R=>∃(g i:Nat),l=[.is (.int g),.is (.int i)]/\R=.is λp=>p=.int (Jw i g:Nat)
def qY:Pre:=λl R=>∃(g i:Nat),l=[.is (.int g),.is (.int i)]/\R=.is λp=>p=.int (Q7 i g:Nat)
theorem ZHb(h:x.length<=100)(hx:∀c∈x.cps.toList,c<16 ^ 8):GI x:=⟨yg h hx,by omega⟩
theorem ZF7(h:Nm x):∀c∈x.cps.toList,c<16 ^ 8:=λc a=>Kq (h.2.2 c a).2 (by decide)
section
variable[Xw]
theorem ZJo{k:List PV->Prop}(hi:ss[i]?=some .AY)(h:Wp ss te λx=>∃m,x=.int m/\0<=m/\m<=100/\∀ns:List Str,(ns.length:Int)=m->(∀x∈ns,Nm x)->ns.Nodup->k (ns.map PV.str)):Wn ss (ED ZW [] E0 (AX (Al i) (AX te BA))) k:=⟨λE O F H Q S q=>by
 obtain⟨p,e,_⟩:=S.ok i _ hi;refine⟨_,e,h.go E O F H _ S λv x F1 H1 a r⟨m,j,d,NU,kk⟩=>?_⟩;subst j;cases r.inv;refine⟨p,m,rfl,a.st.GG hi e,d,NU,λl H2 ns b s EA f g nd=>?_⟩;have c:=a.st.l7 hi e s;exact q l _ _ F1 H2 (a.trans c) (a.st.CK b) (a.none b) EA (sQ ns) (kk ns f g nd)⟩
end
theorem ZIT(h:Nm x):GI x:=ZHb (by have:=h.2.1;omega) (ZF7 h)
theorem Xk{n:Int}(h:n<=1000):n<10 ^ 18:=qo h (by decide)
theorem ZEq{k:Nat}(h:k<=ns.length):Dw ns none (some (k:Int))=ns.take k:=by
 unfold Dw;rw[show HT.DW ns.length 0 none=0 from rfl,dr,WX]
 congr 1
 simp only[HT.DW];split <;> omega
structure Kd where
 w:Str
 ps:List (Str×Str)
 g:Bool
variable{ks:List Kd}
def BD(p:Str×Str):PV:=.tup [.str p.1,.str p.2]
def Kd.P(k:Kd):PV:=.tup [.str k.w,.tup (k.ps.map BD),.bl k.g]
def WH:List Str:=["next","last","back","first"]
theorem Im{α:Type}{xs:List α}{k:Nat}{x:α}(h:xs[k]?=some x):xs.take (k+1)=xs.take k++[x]:=by
 obtain⟨hk,e⟩:=List.getElem?_eq_some_iff.mp h;rw[Sf hk,e]
theorem ZJ9{t:Int}(a:0<=t)(h:t<7):∃z:Nat,L2.C5 [PV.int 0,.int 1,.int 1,.int 2,.int 2,.int 3,.int 6] t=some (.int (z:Int))/\z<=6:=by
 rcases(show t=0∨t=1∨t=2∨t=3∨t=4∨t=5∨t=6 by omega)with rfl|rfl|rfl|rfl|rfl|rfl|rfl
 .exact⟨0,rfl,by decide⟩
 .exact⟨1,rfl,by decide⟩
 .exact⟨1,rfl,by decide⟩
 .exact⟨2,rfl,by decide⟩
 .exact⟨2,rfl,by decide⟩
 .exact⟨3,rfl,by decide⟩
 .exact⟨6,rfl,by decide⟩
theorem not_of{p:Prop}[Decidable p](c:¬ (!decide p)=true):p:=by
 by_cases h:p
 .exact h
 .rw[vc h]at c;exact absurd rfl c
theorem ay:∀{ps c:List (Str×Str)},ps.map BD=c.map BD->ps=c
 | [],[],_=>rfl
 | [],_::_,h=>by simp at h
 |_::_,[],h=>by simp at h
 |p::ps,q::c,h=>by
  rw[B6,B6]at h;injection h with h1 h2
  have d:p.1=q.1/\p.2=q.2:=by
   unfold BD at h1;injection h1 with h1
   injection h1 with a b
   injection a with a
   injection b with b _
   injection b with b
   exact⟨a,b⟩
  rw[ay h2,Prod.ext d.1 d.2]
theorem Kd.inj(x y:Kd)(h:x.P=y.P):x=y:=by
 obtain⟨w,ps,g⟩:=x;obtain⟨e,Tt,g'⟩:=y;unfold Kd.P at h;injection h with h
 injection h with a b
 injection a with a
 injection b with b c
 injection b with b
 injection c with c _
 injection c with c
 have d:=ay b;simp only at a d c;subst a d c;rfl
def pd:Pre:=λl R=>∃(r:Str)(g i:Nat)(xs:List PV),l=[.is (.tup (.str r :: .int g::xs)),.is (.int i)]/\R=.is λp=>p=.bl (O3 r g i)
noncomputable def Bj(ns:List Str):List Key:=ns.map Sum.inr
theorem Qz(ns:List Str)(x:Str):HV (Bj ns) (.inr x)=decide (x∈ns):=by
 unfold HV Bj;rw[List.any_map]
 by_cases h:x∈ns
 .rw[uL h];exact List.any_eq_true.mpr ⟨x,h,uL rfl⟩
 .rw[vc h];rw[Bool.eq_false_iff];intro z;obtain⟨y,b,e⟩:=List.any_eq_true.mp z;have a:(Sum.inr y:Key)=Sum.inr x:=vY e;injection a with a
  exact h (a▸b)
theorem iH:∀{ns:List Str}{x:Str},x∉ns->GU (Bj ns) (.inr x)=none
 | [],_,_=>rfl
 |y::ns,x,h=>by
  unfold Bj;rw[B6,GU,tK (λe=>h (by injection e with e;subst e;exact Fh))]
  have h1:GU (ns.map (Sum.inr:Str->Key)) (.inr x)=none:=iH (ns:=ns) λz=>h (E2 _ z);rw[h1];rfl
theorem U9(h:ns.Nodup):(Bj ns).Nodup:=ZKP _ (λa b(h:a≠b)=>λz=>h (by injection z)) h
theorem lh(h:x∉ns):Mc (Bj ns) (.inr x)=Bj (ns++[x])/\LN (Bj ns) us (.inr x) u=us++[u]:=by
 unfold LN Mc;rw[iH h,Qz,vc h];exact⟨by unfold Bj;rw[Ca];rfl,rfl⟩
theorem OJ(h:x∉ns):Mc (Bj ns) (.inr x)=Bj (ns++[x]):=(lh (us:=[]) (u:=.fz .AA) h).1
theorem Uz(h:x∉ns):LN (Bj ns) us (.inr x) u=us++[u]:=(lh h).2
theorem M8{y:PV}:∀{ns:List Str}{xs:List PV}{x:Str},x∈ns->xs[ns.idxOf x]?=some y->K8 (Bj ns) xs (.inr x)=some y
 | [],_,_,h,_=>absurd h Aa
 |z::ns,xs,x,h,e=>by
  rw[r6]at e;unfold Bj
  by_cases c:z=x
  .subst c;rw[show(z == z)=true from zE z]at e;cases xs with
   |nil=>cases e
   |cons w ws=>rw[B6,K8,u4 rfl];exact e
  .rw[show(z == x)=false from beq_eq_false_iff_ne.mpr c]at e;cases xs with
   |nil=>cases e
   |cons w ws=>
    rw[B6,K8,tK (λq=>c (by injection q))];exact M8 ((List.mem_cons.mp h).resolve_left λq=>c q.symm) e
def NS(tp:Bool)(xs:List PV):PV:=if tp=true then .tup xs else .lst xs
theorem ZBC(ns:List Str):(Bj ns).map Kh=ns.map PV.str:=by
 unfold Bj;rw[Cm];rfl
section
variable[Xw]
variable{t:OV}
theorem ZDV{lt:Bool}{k:PV->OV->Prop}(hi:ss[i]?=some (.ow lt t))(h:Wm ss i lt t te λp t'=>(∃nk a us,t'=.nd nk a us)/\k p t'):Ws ss (Hb te) nx (.mt k):=⟨λE D O F H S n j=>
 h.go E O F H _ S λv p t' F1 H1 d r AO=>by
  obtain⟨⟨nk,a0,us,e⟩,kk⟩:=AO;subst e;have l:i<ss.length:=(List.getElem?_eq_some_iff.mp hi).1;obtain⟨g,e0,b,D3,c⟩:=d.st.ok i (.ow lt (.nd nk a0 us)) (by rw[DA l]);have m:g=.ref a0:=by cases b;rfl
  subst m;exact j v F1 H1 d.st.toFin ⟨p,.nd nk a0 us,r,b,D3,λa f=>⟨(c a f).1,(c a f).2.imp id λz=>z.2⟩,kk⟩⟩
end
abbrev wk(ks:List Kd):List Str:=ks.map Kd.w
structure KG (ks:List Kd):Prop where
 l1:1<=ks.length
 l8:ks.length<=8
 nd:(wk ks).Nodup
 nm:∀k∈ks,Nm k.w
 ps:∀k∈ks,k.ps.length<=6/\∀p∈k.ps,p.1∈WH/\p.2∈wk ks
def Bn:List Str:=[("none":Str), "ahead","all"]
def G7(k:Kd):PV:=.tup [.str k.w,.lst (k.ps.map BD),.bl k.g]
def CV(ks:List Kd)(x:Str):List (Str×Str):=match ks[(wk ks).idxOf x]? with
 |some k=>k.ps
 |none=>[]
def Hd(ks:List Kd)(x:Str):Bool:=match ks[(wk ks).idxOf x]? with
 |some k=>k.g
 |none=>false
def Mo:List Str:=["next","last"]
def Ct(ks:List Kd)(r x:Str):List (Str×Str):=if r="none" then[]else(CV ks x).filter λp=>decide (r="all") || decide (p.1∈Mo)
def Aj(ks:List Kd)(r x:Str):List Str:=(Ct ks r x).map (·.2)
def UU(r:Str):List Str:=if r="none" then[]else if r="ahead" then Mo else WH
theorem KG.at(h:KG ks)(hx:x∈wk ks):∃k,ks[(wk ks).idxOf x]?=some k/\k.w=x/\CV ks x=k.ps/\Hd ks x=k.g/\k∈ks:=by
 have hi:=List.idxOf_lt_length_iff.mpr hx;have a:(wk ks).idxOf x<ks.length:=by simpa using hi
 have e:=As a;refine⟨_,e,?_,?_,?_,Lr a⟩
 .have q:(wk ks)[(wk ks).idxOf x]'hi=x:=Km hi;rw[SX]at q;exact q
 .unfold CV;rw[e]
 .unfold Hd;rw[e]
theorem KG.Kb(h:KG ks)(x:Str):(CV ks x).length<=6/\∀p∈CV ks x,p.1∈WH/\p.2∈wk ks:=by
 unfold CV;split
 .next k e=>exact h.ps k (C7 e)
 .exact⟨Cf _,λp a=>absurd a Aa⟩
theorem zk{p:Str×Str}(h:p∈Ct ks r x):p∈CV ks x:=by
 unfold Ct at h;split at h
 .cases h
 .exact(List.mem_filter.mp h).1
theorem k9(h:KG ks)(r x:Str):(Ct ks r x).length<=6:=by
 unfold Ct;split
 .exact Cf _
 .exact CB (WS _ _) (h.Kb x).1
theorem KG.cK(h:KG ks)(a:y∈Aj ks r x):y∈wk ks:=by
 obtain⟨p,b,rfl⟩:=List.mem_map.mp a;exact((h.Kb x).2 p (zk b)).2
theorem Yv(h:KG ks)(r x:Str):(Aj ks r x).length<=6:=by
 unfold Aj;rw[AB];exact k9 h r x
theorem ZGu(h:KG ks)(a:r∈Bn)(x:Str):((CV ks x).filter λp=>decide (p.1∈UU r)).map (·.2)=Aj ks r x:=by
 unfold Aj Ct UU;simp only[Bn,GR,Aa,ZA5]at a;rcases a with rfl|rfl|rfl
 .rw[u4 rfl];simp
 .rw[tK (by decide),u4 rfl,tK (by decide)]
  congr 1
 .rw[tK (by decide),tK (by decide),tK (by decide)]
  congr 1
  refine List.filter_congr λp b=>?_;rw[uL ((h.Kb x).2 p b).1];simp
theorem Qi(p q:Str×Str)(h:BD p=BD q):p=q:=by
 unfold BD at h;injection h with h
 injection h with h1 h2
 injection h1 with h1
 injection h2 with h2 _
 injection h2 with h2
 exact Prod.ext h1 h2
theorem xZ(x y:Kd)(h:G7 x=G7 y):x=y:=by
 obtain⟨w,ps,g⟩:=x;obtain⟨a,Tt,g'⟩:=y;unfold G7 at h;injection h with h
 injection h with h1 h2
 injection h1 with h1
 injection h2 with h2 h3
 injection h2 with h2
 injection h3 with h3 _
 injection h3 with h3
 have h2:=ay h2;subst h1 h2 h3;rfl
inductive Bq (f:Str->List Str) (S:List Str):Str->Prop
 |here {x:Str}:x∈S->Bq f S x
 |step {x y:Str}:Bq f S x->y∈f x->Bq f S y
def Top(f:Str->List Str)(L:List Str):Prop:=∀(i:Nat)(x:Str),L[i]?=some x->∀y∈f x,y∈L.take i
def Ka(f:Str->List Str)(W:List Str):Prop:=∀(i:Nat)(x y:Str),W[i]?=some x->W[i+1]?=some y->y∈f x
theorem Top.nil:Top f []:=λi x h=>by simp at h
theorem Top.snoc(h:Top f L)(hx:∀y∈f x,y∈L):Top f (L++[x]):=λi z a y b=>by
 by_cases c:i<L.length
 .rw[EW c]at a;rw[List.take_append_of_le_length (by omega)];exact h i z a y b
 .rw[G5 (by omega)]at a;have hi:i=L.length:=by
   have:=(List.getElem?_eq_some_iff.mp a).1;simp at this;omega
  subst hi;simp at a;subst a;rw[List.take_left']
  .exact hx y b
  .rfl
theorem Ka.snoc{V:List Str}(h:Ka f (V++[x]))(g:y∈f x):Ka f (V++[x]++[y]):=λi a b e d=>by
 by_cases c:i+1<(V++[x]).length
 .rw[EW c]at d;rw[EW (by omega)]at e;exact h i a b e d
 .have hi:i+1=(V++[x]).length:=by
   have:=(List.getElem?_eq_some_iff.mp d).1;simp at this c ⊢;omega
  rw[hi]at d;have d:(V++[x]++[y])[(V++[x]).length]?=some b:=d;rw[G5 (B0 _)]at d;simp at d;subst d;have j:i=V.length:=by simp at hi;exact hi
  subst j;rw[C6,G5 (B0 _)]at e;simp at e;subst e;exact g
theorem Ka.one(x:Str):Ka f [x]:=λi a b _ c=>by simp at c
structure Vn (f:Str->List Str) (ws W:List Str) (i:Nat):Prop where
 nd:W.Nodup
 ch:Ka f W
 sub:∀x∈W,x∈ws
 at':∃y z,W[i]?=some y/\W[W.length - 1]?=some z/\y∈f z
def ZD(W:List Str)(i:Nat):PV:=.tup [.lst ((W.take (i+1)).map .str),.lst ((W.drop i).map .str)]
theorem l9(h:Top f L)(c:∀x∈S,x∈L)(r:Bq f S x):x∈L:=by
 induction r with
 |here m=>exact c _ m
 |step _ b a=>
  obtain⟨i,hi,e⟩:=FO a;exact Pl (h i _ (by rw[As hi,e]) _ b)
theorem ZDn(h:Top f L)(n:Nat):Top f (L.take n):=λi x hx y a=>by
 rw[List.getElem?_take]at hx;split at hx
 .next c=>
  rw[List.take_take,WW (by omega)];exact h i x hx y a
 .cases hx
theorem gX(h:Top f L)(nd:L.Nodup)(hx:x∈L):¬ Bq f (f x) x:=λr=>by
 obtain⟨i,hi,e⟩:=FO hx;have d:L[i]?=some x:=by rw[As hi,e]
 have m:=l9 (ZDn h i) (S:=f x) (λy b=>h i x d y b) r;obtain⟨j,c,a⟩:=FO m;rw[Dj]at c;rw[Pk]at a;have q:=List.pairwise_iff_getElem.mp nd j i (by omega) hi (by omega);exact q (a.trans e.symm)
def FJ(f:Str->List Str)(S:List Str):Prop:=∃x,Bq f S x/\Bq f (f x) x
theorem zf(h:Top f L)(nd:L.Nodup)(c:∀x∈S,x∈L):¬ FJ f S:=λAO=>by obtain⟨x,b,a⟩:=AO;exact gX h nd (l9 h c b) a
theorem nU(h:Ka f W)(hi:∃x,W[i]?=some x/\Bq f S x):∀j,i<=j->∀y,W[j]?=some y->Bq f S y:=by
 intro j
 induction j with
 |zero=>
  intro d y a;obtain⟨x,hx,r⟩:=hi;have:i=0:=by omega
  subst this;rw[hx]at a;cases a;exact r
 |succ j b=>
  intro d y a
  by_cases c:i=j+1
  .obtain⟨x,hx,r⟩:=hi;subst c;rw[hx]at a;cases a;exact r
  .have e:=(List.getElem?_eq_some_iff.mp a).1;obtain⟨x,hx⟩:∃x,W[j]?=some x:=⟨_,As (by omega)⟩;exact .step (b (by omega) x hx) (h j x y hx a)
theorem kF{ws:List Str}(h:Vn f ws W i)(k:∃x,W[0]?=some x/\x∈S):FJ f S:=by
 obtain⟨x0,e0,j⟩:=k;obtain⟨y,z,b,d,e⟩:=h.at';have hi:=(List.getElem?_eq_some_iff.mp b).1;refine⟨y,nU h.ch ⟨x0,e0,.here j⟩ i (Cf _) y b,?_⟩
 by_cases c:i=W.length - 1
 .subst c;rw[b]at d;cases d;exact .here e
 .obtain⟨a,g⟩:∃a,W[i+1]?=some a:=⟨_,As (by omega)⟩;exact .step (nU h.ch ⟨a,g,.here (h.ch i y a b g)⟩ _ (by omega) z d) e
def Dm:List Str:=["puts_by_word","goes_by_word"]
def Az(C:Addr)(ks:List Kd):PV:=.obj C Dm [.BJ (Bj (wk ks)) (ks.map λk=>.tup (k.ps.map BD)),.BJ (Bj (wk ks)) (ks.map λk=>.bl k.g)]
def Ki(C dx a c b:Addr)(ks:List Kd):OV:=.nd (.obj C dx Dm) a [.nd (.BJ (Bj (wk ks))) c (ks.map λk=>.fz (.tup (k.ps.map BD))),.nd (.BJ (Bj (wk ks))) b (ks.map λk=>.fz (.bl k.g))]
theorem R5{α:Type}(g:α->PV):∀(l:List α),OV.DG (l.map λx=>OV.fz (g x))=l.map g
 | []=>by rw[Kn,OV.DG];rfl
 |x::r=>by rw[B6,OV.DG,OV.pv,R5 g r];rfl
theorem zN(C dx a c b:Addr)(ks:List Kd):(Ki C dx a c b ks).pv=Az C ks:=by
 unfold Ki Az;rw[OV.pv,OV.DG,OV.pv,OV.DG,OV.pv,OV.DG,R5,R5]
theorem U7{α:Type}(g:α->PV)(h:∀x,Gb (g x)=true):∀(l:List α),Il (l.map g)=true
 | []=>by rw[Kn,Il]
 |x::r=>by rw[B6,Il,h x,U7 g h r];rfl
theorem XO{α:Type}(g:α->OV)(h:∀x,(g x).Hm=true):∀(l:List α),OV.Kl (l.map g)=true
 | []=>by rw[Kn,OV.Kl]
 |x::r=>by rw[B6,OV.Kl,h x,XO g h r];rfl
theorem ZAE(p:Str×Str):Gb (BD p)=true:=by unfold BD;simp[Gb,Il]
theorem ZAt(C dx a c b:Addr)(ks:List Kd):(Ki C dx a c b ks).Hm=true:=by
 unfold Ki;simp only[OV.Hm,OV.Kl];rw[XO _ λk=>?_,XO _ λk=>?_]
 .rfl
 .simp[OV.Hm,Gb]
 .rw[OV.Hm,Gb];exact U7 _ ZAE _
def lN:Pre:=λl R=>∃ks:List Kd,l=[.is (.lst (ks.map G7))]/\KG ks/\R=.is (λp=>p=.AA)
def Yi(C:Addr):Pre:=λl R=>∃(dx a:Addr)(ks:List Kd),l=[.ow true (.nd (.obj C dx []) a []),.is (.lst (ks.map G7))]/\KG ks/\R=.mt (λp t'=>p=.AA/\∃c b,t'=Ki C dx a c b ks)
def KH(C:Addr):Pre:=λl R=>∃ks:List Kd,l=[.is (Az C ks)]/\KG ks/\R=.new (λxs=>xs=(wk ks).map .str)
def Rc(C:Addr):Pre:=λl R=>∃(ks:List Kd)(x:Str),l=[.is (Az C ks),.is (.str x)]/\KG ks/\x∈wk ks/\R=.new (λxs=>xs=(CV ks x).map BD)
def WJ(C:Addr):Pre:=λl R=>∃(ks:List Kd)(x:Str),l=[.is (Az C ks),.is (.str x)]/\KG ks/\x∈wk ks/\R=.is (λp=>p=.bl (Hd ks x))
def RT(C:Addr):Pre:=λl R=>∃(ks:List Kd)(x r:Str),l=[.is (Az C ks),.is (.str x),.is (.str r)]/\KG ks/\x∈wk ks/\r∈Bn/\R=.new (λxs=>xs=(Ct ks r x).map BD)
def OY(a:Addr)(L:List Str):OV:=.nd (.BJ (Bj L)) a (L.map λ_=>.fz (.bl true))
def OP(C:Addr)(n:Nat):Pre:=λl R=>∃(ks:List Kd)(r:Str)(V:List Str)(x:Str)(L:List Str)(a:Addr),l=[.is (Az C ks),.is (.str r),.is (.lst ((V++[x]).map .str)),.ow true (OY a L)]/\KG ks/\r∈Bn/\9<=V.length+1+n/\
 (V++[x]).Nodup/\(∀y∈V++[x],y∈wk ks)/\Ka (Aj ks r) (V++[x])/\(∀y∈V,y∉L)/\Top (Aj ks r) L/\L.Nodup/\(∀y∈L,y∈wk ks)/\
 R=.mt (λp t'=>∃L',t'=OY a L'/\((p=.AA/\Top (Aj ks r) L'/\L'.Nodup/\(∀y∈L',y∈wk ks)/\(∀y∈L,y∈L')/\(∀y∈V,y∉L')/\x∈L')∨∃W i,p=ZD W i/\(V++[x]) <+: W/\Vn (Aj ks r) (wk ks) W i))
theorem oJ:∀ss R,¬ OP C 0 ss R:=by
 rintro ss R⟨ks,r,V,x,L,a,_,g,_,b,nd,sub,_⟩;have:=GY nd sub;have:=g.l8;rw[By,Ir,AB]at *;omega
def ZHI(f:Str->List Str)(ws cs:List Str)(p:PV):Prop:=(p=.AA/\∃L,Top f L/\L.Nodup/\(∀y∈L,y∈ws)/\∀c∈cs,c∈L)∨∃W i c,p=ZD W i/\Vn f ws W i/\W[0]?=some c/\c∈cs
def Vl(C:Addr):Pre:=λl R=>∃(ks:List Kd)(tp:Bool)(cs:List Str)(r:Str),l=[.is (Az C ks),.sq tp (cs.map .str),.is (.str r)]/\KG ks/\r∈Bn/\cs.length<=12/\(∀c∈cs,c∈wk ks)/\R=.is (ZHI (Aj ks r) (wk ks) cs)
def jE:Pre:=λl R=>l=[.AY]/\R=.is λp=>∃ks:List Kd,p=.lst (ks.map Kd.P)/\KG ks
def kS(C:Addr):Pre:=λl R=>∃ks:List Kd,l=[.is (.lst (ks.map Kd.P))]/\KG ks/\R=.is (λp=>p=Az C ks)
def fN:Pre:=λl R=>∃ks:List Kd,l=[.AY,.is (.lst (ks.map Kd.P))]/\KG ks/\R=.new (λxs=>∃cs:List Str,xs=cs.map .str/\cs.length<=12/\∀c∈cs,c∈wk ks)
def kh:Pre:=λl R=>l=[.AY]/\R=.is (λp=>∃r∈Bn,p=.str r)
def dE:Pre:=λl R=>∃(ks:List Kd)(x r:Str),l=[.is (.lst (ks.map Kd.P)),.is (.str x),.is (.str r)]/\KG ks/\x∈wk ks/\r∈Bn/\R=.new (λxs=>xs=(Aj ks r x).map .str)
def iB:Pre:=λl R=>∃(ks:List Kd)(S:List Str)(r:Str),l=[.is (.lst (ks.map Kd.P)),.sq false (S.map .str),.is (.str r)]/\KG ks/\r∈Bn/\S.length<=12/\(∀x∈S,x∈wk ks)/\R=.new (λxs=>∃L:List Str,xs=L.map .str/\L.Nodup/\L.length<=8/\∀x,x∈L↔Bq (Aj ks r) S x)
def Y5:Pre:=λl R=>∃(ks:List Kd)(cs:List Str)(r:Str),l=[.is (.lst (ks.map Kd.P)),.sq false (cs.map .str),.is (.str r)]/\KG ks/\r∈Bn/\cs.length<=12/\(∀x∈cs,x∈wk ks)/\R=.is (λp=>∃b:Bool,p=.bl b/\(b=true↔FJ (Aj ks r) cs))
theorem KG.yJ(h:KG ks)(hx:x∈wk ks):∃k rest,ks.filter (λk=>decide (k.w=x))=k::rest/\k.ps=CV ks x:=by
 obtain⟨k,c,l,m,_,g⟩:=h.at hx;have:k∈ks.filter (λk=>decide (k.w=x)):=List.mem_filter.mpr ⟨g,uL l⟩;cases e:ks.filter (λk=>decide (k.w=x))with
 |nil=>rw[e]at this;cases this
 |cons a rest=>
  refine⟨a,rest,rfl,?_⟩;have j:a∈ks.filter (λk=>decide (k.w=x)):=by rw[e];simp
  obtain⟨Ya,b⟩:=List.mem_filter.mp j;have b:a.w=x:=vY b;obtain⟨i,hi,d⟩:=FO Ya;have f:(wk ks).idxOf x=i:=by
   have q:(wk ks)[i]?=some x:=by rw[Ax,As hi,d];simp[b]
   exact dZ h.nd q
  rw[m];rw[f,As hi,d]at c;cases c;rfl
theorem Rv(h:KG ks)(b:∀x∈S,x∈wk ks)(q:Bq (Aj ks r) S x):x∈wk ks:=by
 induction q with
 |here m=>exact b _ m
 |step _ a _=>exact h.cK a
theorem ZHD(n:Nat):Gj (n+1) (-1)=some n:=by
 unfold Gj;rw[tK (by decide),u4 (by omega)]
 congr 1
 omega
theorem ZFv(V:List Str)(x:Str):L2.C5 ((V++[x]).map PV.str) (-1)=some (.str x):=by
 unfold L2.C5;rw[AB,By,Ir,ZHD];simp
theorem vf{t:Int}(a:0<=t)(h:t<3):∃r∈Bn,L2.C5 [PV.str "none",.str "ahead",.str "all"] t=some (.str r):=by
 rcases(show t=0∨t=1∨t=2 by omega)with rfl|rfl|rfl
 .exact⟨"none", by decide,rfl⟩
 .exact⟨"ahead", by decide,rfl⟩
 .exact⟨"all", by decide,rfl⟩
theorem ZBV{t:Int}(a:0<=t)(h:t<4):∃x∈WH,L2.C5 [PV.str "next",.str "last",.str "back",.str "first"] t=some (.str x):=by
 rcases(show t=0∨t=1∨t=2∨t=3 by omega)with rfl|rfl|rfl|rfl
 .exact⟨"next", by decide,rfl⟩
 .exact⟨"last", by decide,rfl⟩
 .exact⟨"back", by decide,rfl⟩
 .exact⟨"first", by decide,rfl⟩
theorem d8:∀i:Nat,i<8->i=0∨i=1∨i=2∨i=3∨i=4∨i=5∨i=6∨i=7:=by decide
theorem vy{t:Int}(a:0<=t)(h:t<8):∃z:Nat,L2.C5 [PV.int 0,.int 1,.int 1,.int 2,.int 3,.int 4,.int 6,.int 12] t=some (.int (z:Int))/\z<=12:=by
 obtain⟨n,rfl⟩:=SV a;rcases d8 n (by omega)with rfl|rfl|rfl|rfl|rfl|rfl|rfl|rfl
 .exact⟨0,rfl,by decide⟩
 .exact⟨1,rfl,by decide⟩
 .exact⟨1,rfl,by decide⟩
 .exact⟨2,rfl,by decide⟩
 .exact⟨3,rfl,by decide⟩
 .exact⟨4,rfl,by decide⟩
 .exact⟨6,rfl,by decide⟩
 .exact⟨12,rfl,by decide⟩
theorem Wr{P:Str->Prop}:∀{ys:List PV},(∀y∈ys,∃c,P c/\y=.str c)->∃cs:List Str,ys=cs.map .str/\∀c∈cs,P c
 | [],_=>⟨[],rfl,λc h=>absurd h Aa⟩
 |y::r,h=>by
  obtain⟨c,b,rfl⟩:=h y (by simp);obtain⟨cs,e,h2⟩:=Wr (ys:=r) λz a=>h z (by simp[a]);exact⟨c::cs,by rw[e];rfl,λd hd=>by
   rcases List.mem_cons.mp hd with rfl|hd
   .exact b
   .exact h2 d hd⟩
theorem ZG:∀{a b:List Str},a.map PV.str=b.map PV.str->a=b
 | [],[],_=>rfl
 | [],_::_,h=>by simp at h
 |_::_,[],h=>by simp at h
 |x::a,y::b,h=>by
  rw[B6,B6]at h;injection h with h1 h2
  injection h1 with h1
  rw[h1,ZG h2]
noncomputable def Ep:List Kd->List Addr->List OV
 |k::ks,b::bs=>.tp [.fz (.str k.w),.nd .lst b ((k.ps.map BD).map .fz),.fz (.bl k.g)]::Ep ks bs
 |_,_=>[]
theorem fw:∀{ks:List Kd}{us:List OV},us.length=(ks.map Kd.P).length->(∀(j:Nat)x u,(ks.map Kd.P)[j]?=some x->us[j]?=some u->∃(k:Kd)(b:Addr),x=k.P/\u=.tp [.fz (.str k.w),.nd .lst b ((k.ps.map BD).map .fz),.fz (.bl k.g)])->∃bs:List Addr,bs.length=ks.length/\us=Ep ks bs
 | [],[],_,_=>⟨[],rfl,rfl⟩
 | [],_::_,h,_=>by simp at h
 |_::_,[],h,_=>by simp at h
 |k::ks,u::us,h,hG=>by
  obtain⟨i,b,a,f⟩:=hG 0 _ _ rfl rfl;have a:=Kd.inj _ _ a;subst a;obtain⟨bs,c,e⟩:=fw (ks:=ks) (us:=us) (by simpa using h) λj x u hx d=>hG (j+1) x u hx d
  exact⟨b::bs,by simp[c],by rw[e,f];rfl⟩
theorem nW:∀(ks:List Kd)(bs:List Addr),bs.length=ks.length->(Ep ks bs).length=ks.length
 | [],_,_=>by simp[Ep]
 |_::_,[],h=>by simp at h
 |k::ks,b::bs,h=>by rw[Ep,Ck,Ck,nW ks bs (by simpa using h)]
theorem fk:∀(ks:List Kd)(bs:List Addr),bs.length=ks.length->∀{j:Nat}{u:OV},(Ep ks bs)[j]?=some u->∃(k:Kd)(b:Addr),k∈ks/\u=.tp [.fz (.str k.w),.nd .lst b ((k.ps.map BD).map .fz),.fz (.bl k.g)]
 | [],_,_,j,u,hu=>by simp[Ep]at hu
 |_::_,[],h,_,_,_=>by simp at h
 |k::ks,b::bs,h,0,u,hu=>by
  rw[Ep]at hu;exact⟨k,b,by simp,(Be hu).symm⟩
 |k::ks,b::bs,h,j+1,u,hu=>by
  rw[Ep]at hu;obtain⟨c,d,a,e⟩:=fk ks bs (by simpa using h) (j:=j) (u:=u) (by simpa using hu)
  exact⟨c,d,by simp[a],e⟩
theorem qF:∀(ks:List Kd)(bs:List Addr),bs.length=ks.length->OV.DG (Ep ks bs)=ks.map G7
 | [],_,_=>by rw[Ep,OV.DG];rfl;exact λ_ _ _ _ h=>by cases h
 |_::_,[],h=>by simp at h
 |k::ks,b::bs,h=>by
  rw[Ep,OV.DG,qF ks bs (by simpa using h),B6]
  congr 1
  rw[OV.pv,OV.DG,OV.pv,OV.DG,OV.pv,OV.DG,OV.pv,OV.DG];unfold G7;rw[Cm,show(OV.fz ∘ BD)=λp=>OV.fz (BD p)from rfl,R5]
theorem ZCP(ks:List Kd)(bs:List Addr)(l:Addr)(h:bs.length=ks.length):(OV.nd .lst l (Ep ks bs)).pv=.lst (ks.map G7):=by rw[OV.pv,qF ks bs h]
noncomputable def J4:List Int->Int
 | []=>0
 | [a]=>a
 |a::b::r=>if a<=J4 (b::r)then J4 (b::r)else a
theorem WC:∀(ns:List Int),ns≠[]->J4 ns∈ns/\∀y∈ns,y<=J4 ns
 | [],h=>absurd rfl h
 | [a],_=>⟨by simp[J4],λy d=>by rw[List.mem_singleton.mp d];exact Nf _⟩
 |a::b::r,_=>by
  obtain⟨h1,h2⟩:=WC (b::r) (by simp);rw[J4]
  by_cases c:a<=J4 (b::r)
  .rw[u4 c];refine⟨E2 _ h1,λy d=>?_⟩;rcases List.mem_cons.mp d with rfl|d
   .exact c
   .exact h2 y d
  .rw[tK c];refine⟨by simp,λy d=>?_⟩;rcases List.mem_cons.mp d with rfl|d
   .exact Nf _
   .have:=h2 y d;omega
theorem ZJ5{ns:List Int}{m:Int}(a:m∈ns)(h:∀y∈ns,y<=m):m=J4 ns:=by
 obtain⟨h1,h2⟩:=WC ns (λz=>by rw[z]at a;cases a);have:=h2 m a;have:=h _ h1;omega
def J8(ks:List Kd)(r x:Str)(g:Str->List Int):List Int:=(List.range ks.length).map λj=>((Aj ks r x).map λy=>(g y).getD j 0).sum+(if(wk ks).idxOf x=j then 1 else 0)
def Kr(f:Str->Int)(p:Str×Str):Int:=if p.1∈Mo then f p.2 else f p.2+1
def Ot(ks:List Kd)(r x:Str)(f:Str->Int):Int:=J4 (1::(Ct ks r x).map (Kr f))
def DF(ks:List Kd)(r:Str):Nat->Str->List Int
 | 0=>λ_=>(List.range ks.length).map λ_=>0
 |n+1=>λx=>J8 ks r x (DF ks r n)
def Hu(ks:List Kd)(r:Str):Nat->Str->Int
 | 0=>λ_=>0
 |n+1=>λx=>Ot ks r x (Hu ks r n)
theorem ZAp(ks:List Kd)(r x:Str)(g:Str->List Int):(J8 ks r x g).length=ks.length:=by unfold J8;rw[AB,Ls]
theorem tR(ks:List Kd)(r:Str)(n:Nat)(x:Str):(DF ks r n x).length=ks.length:=by
 cases n with
 |zero=>rw[DF,AB,Ls]
 |succ n=>rw[DF,ZAp]
theorem pB{g g':Str->List Int}(h:∀y∈Aj ks r x,g y=g' y):J8 ks r x g=J8 ks r x g':=by
 unfold J8;refine Nh λj _=>?_;rw[Nh λy a=>by rw[h y a]]
theorem fT{g g':Str->Int}(h:∀y∈Aj ks r x,g y=g' y):Ot ks r x g=Ot ks r x g':=by
 unfold Ot;rw[Nh λp a=>?_];unfold Kr;rw[h p.2 (List.mem_map.mpr ⟨p,a,rfl⟩)]
theorem ZAh(h:Top (Aj ks r) T):∀(i:Nat)(x:Str),T[i]?=some x->∀n m,i<n->i<m->DF ks r n x=DF ks r m x/\Hu ks r n x=Hu ks r m x:=by
 intro i
 induction i using Nat.strongRecOn with
 |_ i d=>
  intro x hx n m f g;cases n with
  |zero=>omega
  |succ n=>cases m with
   |zero=>omega
   |succ m=>
    have a:∀y∈Aj ks r x,DF ks r n y=DF ks r m y/\Hu ks r n y=Hu ks r m y:=λy b=>by
     obtain⟨j,e,c⟩:=FO (h i x hx y b);rw[Dj]at e;rw[Pk]at c;exact d j (by omega) y (by rw[As (by omega),c]) n m (by omega) (by omega)
    rw[DF,DF,Hu,Hu];exact⟨pB λy b=>(a y b).1,fT λy b=>(a y b).2⟩
theorem oP:∃n:Nat,n=9:=⟨9,rfl⟩
noncomputable def fuel:Nat:=Classical.choose oP
theorem Xy:fuel=9:=qm oP
noncomputable def cnt(ks:List Kd)(r x:Str):List Int:=DF ks r fuel x
noncomputable def B7(ks:List Kd)(r x:Str):Int:=Hu ks r fuel x
theorem eO(ks:List Kd)(r x:Str):(cnt ks r x).length=ks.length:=tR ks r fuel x
theorem jo(h:Top (Aj ks r) T)(l:T.length<=8)(hx:x∈T):cnt ks r x=J8 ks r x (cnt ks r)/\B7 ks r x=Ot ks r x (B7 ks r):=by
 obtain⟨i,hi,e⟩:=FO hx;have g:T[i]?=some x:=by rw[As hi,e]
 have k:=Xy;have a:∀y∈Aj ks r x,∀m,m+1=fuel->DF ks r m y=cnt ks r y/\Hu ks r m y=B7 ks r y:=λy b m c=>by
  obtain⟨j,f,d⟩:=FO (h i x g y b);rw[Dj]at f;rw[Pk]at d;exact ZAh h j y (by rw[As (by omega),d]) m fuel (by omega) (by omega)
 obtain⟨m,c⟩:∃m,m+1=fuel:=⟨8,by omega⟩;refine⟨?_,?_⟩
 .have q:cnt ks r x=DF ks r (m+1) x:=by unfold cnt;rw[c]
  rw[q,DF];exact pB λy b=>(a y b m c).1
 .have q:B7 ks r x=Hu ks r (m+1) x:=by unfold B7;rw[c]
  rw[q,Hu];exact fT λy b=>(a y b m c).2
noncomputable def Gk(ks:List Kd)(r x:Str):PV:=.tup [.str x,.tup ((cnt ks r x).map .int),.int (B7 ks r x)]
noncomputable def FW(ks:List Kd)(r:Str)(a:Addr)(M:List Str):OV:=.nd (.BJ (Bj M)) a (M.map λy=>.fz (Gk ks r y))
noncomputable def QY(ks:List Kd)(r:Str)(M:List Str):PV:=.BJ (Bj M) (M.map (Gk ks r))
theorem Ts(ks:List Kd)(r:Str)(a:Addr)(M:List Str):(FW ks r a M).pv=QY ks r M:=by
 unfold FW QY;rw[OV.pv,R5]
theorem jx(l:List Int):Il (l.map PV.int)=true:=U7 _ (λ_=>by simp[Gb]) l
def TZ:Pre:=λl R=>∃(cs:List (List Int))(n:Nat),l=[.is (.lst (cs.map λc=>.tup (c.map .int))),.is (.int n)]/\n<=8/\cs.length<=100/\(∀c∈cs,c.length=n)/\R=.new (λxs=>xs=((List.range n).map λj=>(cs.map λc=>c.getD j 0).sum).map .int)
def d4:Pre:=λl R=>∃(ks:List Kd)(r:Str)(M:List Str)(p:Str×Str),l=[.is (BD p),.is (QY ks r M)]/\p.2∈M/\R=.is (λq=>q=.int (Kr (B7 ks r) p))
def T8(f:Str->List Str)(M:List Str):Prop:=∀y∈M,∀z∈f y,z∈M
def M6(C:Addr)(n:Nat):Pre:=λl R=>∃(ks:List Kd)(x r:Str)(T:List Str)(i:Nat)(M:List Str)(a:Addr),l=[.is (Az C ks),.is (.str x),.is (.str r),.ow true (FW ks r a M)]/\KG ks/\r∈Bn/\Top (Aj ks r) T/\T.Nodup/\(∀y∈T,y∈wk ks)/\T[i]?=some x/\i<n/\
 M.Nodup/\(∀y∈M,y∈T)/\T8 (Aj ks r) M/\R=.mt (λp t'=>p=.AA/\∃M',t'=FW ks r a M'/\M'.Nodup/\(∀y∈M',y∈T)/\T8 (Aj ks r) M'/\(∀y∈M,y∈M')/\x∈M'/\∀y∈M',y∈M∨Bq (Aj ks r) [x] y)
theorem iM:∀ss R,¬ M6 C 0 ss R:=by
 rintro ss R⟨ks,x,r,T,i,M,a,_,_,_,_,_,_,_,h,_⟩;omega
def YW(C:Addr):Pre:=λl R=>∃(ks:List Kd)(tp:Bool)(cs:List Str)(r:Str)(T:List Str),l=[.is (Az C ks),.sq tp (cs.map .str),.is (.str r)]/\KG ks/\r∈Bn/\Top (Aj ks r) T/\T.Nodup/\(∀y∈T,y∈wk ks)/\(∀c∈cs,c∈T)/\R=.ow (λt=>∃a M,t=FW ks r a M/\M.Nodup/\∀x,x∈M↔Bq (Aj ks r) cs x)
noncomputable def pE(ks:List Kd)(r:Str)(M:List Str):List PV:=((wk ks).filter λw=>decide (w∈M)).map (Gk ks r)
def cW(C:Addr):Pre:=λl R=>∃(ks:List Kd)(tp:Bool)(cs:List Str)(r:Str)(T:List Str),l=[.is (Az C ks),.sq tp (cs.map .str),.is (.str r)]/\KG ks/\r∈Bn/\Top (Aj ks r) T/\T.Nodup/\(∀y∈T,y∈wk ks)/\(∀c∈cs,c∈T)/\R=.new (λxs=>∃M,xs=pE ks r M/\∀x,x∈M↔Bq (Aj ks r) cs x)
def ZHT(ks:List Kd)(r:Str)(cs:List Str)(t:OV):Prop:=(FJ (Aj ks r) cs/\∃W i c,t=.tp [.fz (.str "endless"),.fz (.lst ((W.take (i+1)).map .str)),.fz (.lst ((W.drop i).map .str))]/\Vn (Aj ks r) (wk ks) W i/\W[0]?=some c/\c∈cs)∨
 (∃T,Top (Aj ks r) T/\T.Nodup/\(∀y∈T,y∈wk ks)/\(∀c∈cs,c∈T)/\∃b M,t=.tp [.fz (.str "ends"),.nd .lst b ((pE ks r M).map .fz)]/\∀x,x∈M↔Bq (Aj ks r) cs x)
theorem sum_set{g:Nat->Int}(a:l=List.range n)(b:j<n):(l.map g).set j (g j+1)=l.map λk=>g k+(if j=k then 1 else 0):=by
 subst a;refine ZKW (by simp) λk h1 h2=>?_;simp only[JV,AB,Ls]at h1;rw[List.getElem_set,SX,ZKc]
 by_cases c:j=k
 .subst c;simp
 .simp[c]
theorem Bq.mono{S':List Str}(h:∀x∈S,Bq f S' x)(r:Bq f S x):Bq f S' x:=by
 induction r with
 |here m=>exact h _ m
 |step _ b a=>exact .step a b
theorem lJ:∀{a b:List Int},a.map PV.int=b.map PV.int->a=b
 | [],[],_=>rfl
 | [],_::_,h=>by simp at h
 |_::_,[],h=>by simp at h
 |x::a,y::b,h=>by
  rw[B6,B6]at h;injection h with h1 h2
  injection h1 with h1
  rw[h1,lJ h2]
theorem lU{ks:List Kd}{r:Str}:∀(n:Nat)(x:Str),∀c∈DF ks r n x,0<=c
 | 0,x,c,hc=>by
  rw[DF]at hc;obtain⟨_,_,rfl⟩:=List.mem_map.mp hc;exact Nf _
 |n+1,x,c,hc=>by
  rw[DF]at hc;unfold J8 at hc;obtain⟨j,_,rfl⟩:=List.mem_map.mp hc;have h1:0<=((Aj ks r x).map λy=>(DF ks r n y).getD j 0).sum:=by
   have d:∀l:List Int,(∀z∈l,0<=z)->0<=l.sum:=by
    intro l
    induction l with
    |nil=>intro _;simp
    |cons a l f=>
     intro h;rw[Pm];have:=h a (by simp);have:=f λz b=>h z (by simp[b]);omega
   refine d _ λz b=>?_;obtain⟨y,_,rfl⟩:=List.mem_map.mp b;rw[JU];cases e:(DF ks r n y)[j]? with
   |none=>exact Nf _
   |some v=>exact lU n y v (C7 e)
  split <;> omega
theorem ye{c:Int}(h:c∈cnt ks r x):0<=c:=lU fuel x c h
theorem ZGA{z:PV}(h:z∈Ik xs ys):∃p q,p∈xs/\q∈ys/\z=.tup [p,q]:=by
 obtain⟨i,hi,e⟩:=FO h;have a:i<min xs.length ys.length:=by rw[<- TL];exact hi
 have q:=mL (xs:=xs) (ys:=ys) (i:=i) (As (by omega)) (As (by omega));rw[As hi,e]at q;exact⟨_,_,Lr _,Lr _,Be q⟩
theorem rw_inj(x y:Str)(h:Gk ks r x=Gk ks r y):x=y:=by
 unfold Gk at h;injection h with h
 injection h with h1 _
 injection h1
end Fz
namespace L2
open PySem.AutoSeq1 (wpAny_loadPart')
open PySem.MeetsSeq PySem.MeetsSeq2 PySem.MeetsSeq3 PySem.SeqRoads2 PySem.SeqAt
theorem sj(l:Addr)(items:Array Value)(n:Nat)(dd:Option Addr)(b:Array (Option Value))(x:Value)(e:Value->Bool)(i:Nat)(t:Tok)(j:Nat)(k:j<items.size)(FU:i<=j)(ZGn:(j:Int)<2 ^ 63 - 1)
  (a:e items[j]=true) (p:∀m(c:m<items.size),i<=m->m<j->e items[m]=false) :
  Meets (Builtin.«list.index» ⟨[.ref l,x,.int i t],[]⟩)
   (λA R s=>s.heap.get? l=some { cls:=.type "list", dict:=dd,data:=.seq items n,slots:=b }/\(∀y,y∈items->SeqAt.EqAt A.in1 s y x (e y))/\R (.ok (.ret (.int j s.toks))) { s with toks:=s.toks+1 }):=by
 intro prog w A R s h;obtain⟨u,g,d,tk,os⟩:=s;obtain⟨f,o,h⟩:=h
 wp_walk using wpAny_loadPart' f
 have r:((λi:Int=>if i<0 then max 0 (i+(items.size:Int))else i) ((some (i:Int)).getD 0))=((i:Nat):Int):=by simp;omega
 have q:((λi:Int=>if i<0 then max 0 (i+(items.size:Int))else i) ((none:Option Int).getD (2 ^ 63 - 1)))=2 ^ 63 - 1:=by simp
 rw[r,q];exact⟨ZAP plain_index_loop _,ZAr entry_index_loop (by
  rw[qf plain_index_loop _];exact SeqAt.index_loopAt l items n dd b x e (2 ^ 63 - 1) j k ZGn a _ i rfl FU (λm c h1 h2=>p m c h1 h2) prog w A R _ ⟨f,o,h⟩)⟩
section
variable{X:Cx}
def mI(K:ZLZ):V->List V->Hp->VK->Prop:=λx vs H Q=>∃(l:Addr)(bs:List Bool)(i:Nat),x=.ref l/\vs=[.bl true,.int i]/\AU K H l (bs.map V.bl)/\true∈bs.drop i/\Q (.int (i+(bs.drop i).idxOf true:Nat)) H
theorem ZJH:GH X "list.index" (mI X.K):=by
 intro Zd s O H x vs v us Q I A B h;obtain⟨l,bs,i,rfl,rfl,D,C,q⟩:=h;cases A;obtain⟨u,P,rfl,b,⟨t,rfl⟩⟩:=vals2 B;cases b;obtain⟨A5,r,pl,f⟩:=I.list D;obtain⟨⟨c,d,S,y⟩,n,ho,j,hd,HL⟩:=id pl;simp only at j hd HL;subst j;subst hd;subst HL;have G:=r.length;rw[AB]at G;have J:=List.idxOf_lt_length_iff.mpr C;have k:(bs.drop i)[(bs.drop i).idxOf true]=true:=Km J;have E:(bs.drop i).length=bs.length - i:=SY;have at':∀(m:Nat)(a:m<A5.toArray.size),A5.toArray[m]=.bool (bs[m]'(by simp at a;omega)):=λm a=>by
  have N:m<A5.length:=by simpa using a
  have M:(bs.map V.bl)[m]?=some (.bl (bs[m]'(by omega))):=by rw[Ax,As (by omega)];rfl
  obtain⟨u,g,b⟩:=r.get M;rw[As N]at g;cases g
  simpa using(show A5[m]=Value.bool _ from b)
 have o:i+(bs.drop i).idxOf true<A5.toArray.size:=by simp;omega
 refine zJ Wd ⟨_,ho,rfl⟩ ZKn (PySem.F.args_list_index_3 _ _ _) (sj l A5.toArray n none y (.bool true) (E6 (.bl true)) i t (i+(bs.drop i).idxOf true) o (WV _ _) ?_ ?_ (λm a h1 h2=>?_)) ⟨ho,λz Md=>Jo (x:=.bl true) rfl rfl r (by
   rw[Hr];intro w hw;obtain⟨σ,_,rfl⟩:=List.mem_map.mp hw;rfl) z (by simpa using Md),?_⟩
 .have h1:bs.length<=sizeLine:=by rw[AB]at f;exact f
  have h2:=Js;have R:((sizeLine:Nat):Int)<2 ^ 63:=by exact_mod_cast h2
  omega
 .rw[at' _ o];rw[ZKa]at k;rw[k];rfl
 .rw[at' _ a];have T:m - i<(bs.drop i).length:=by simp at a;omega
  have:=List.not_of_lt_findIdx (p:=(· == true)) (xs:=bs.drop i) (i:=m - i) (by show m - i<(bs.drop i).idxOf true;omega)
  rw[ZKa]at this;have e:i+(m - i)=m:=by omega
  simp only[e]at this;cases L:bs[m]'(by simp at a;omega)with
  |true=>rw[L]at this;cases this
  |false=>rfl
 .exact⟨.int _,H,I.tok _,⟨_,rfl⟩,q⟩
end
end L2
namespace Fz
open L2 Lw
variable{ss:List Slot}{tb tc te ti ty:TE}{nx:List Slot->Prop}{R:Ag}{ps xs:List PV}{i j:Nat}{a b:Addr}{us:List OV}{nk:NK}
section
variable[Xw]
variable{K:ZLZ}{ta:TE}{t:OV}{lt:Bool}
theorem qN{k:List PV->Prop}(h:Wz ss te λtp xs=>tp=false/\k (Na xs)):Wi ss (XX K (AX te BA)) k:=⟨λE O F H R S q=>
 h.go E O F H _ S λv tp xs F1 H1 b f AO=>by
  obtain⟨o,kk⟩:=AO;subst o;obtain⟨l,vs,n,a,r⟩:∃l vs,v=.ref l/\(∀(ss:List Slot)(O:L2.St)(F H:Hp),AR F1 F->Sg E ss O F H->H l=some (.lst vs))/\AV F1 vs xs:=by
   obtain⟨l,vs,e,h1,r⟩:=f;refine⟨l,vs,e,λss O F H s S=>?_,r⟩;rcases h1 with h1|⟨hA,h1⟩
   .exact S.fh _ _ (s _ _ h1)
   .exact S.keep _ _ hA h1
  subst n;refine⟨l,vs,rfl,AU.of (a ss O F1 H1 (AR.refl _) b.st),q _ (Na xs) F1 H1 b ⟨λss O F H i s S hi=>?_,λss O F H s S=>?_,λss O F H i x H' s S hi y=>?_⟩ kk⟩
  .rw[TJ]at hi;exact⟨AU.of (a ss O F H s S),by rw[r.length];exact hi⟩
  .refine⟨AU.of (a ss O F H s S),?_⟩;rw[TJ,r.length];exact B0 _
  .obtain⟨p,y,g,ex,j,t⟩:=y;subst ex;subst t;obtain⟨z,d,c⟩:=r.get' g;have m:=S.alloc j (.tup [.int i,y]);exact⟨_,_,gI d,m,.tup B3 (.cons (.int _) (.one (c.mono (s.trans m.ff))))⟩⟩
end
end Fz
namespace L2
section
variable{X:Cx}
theorem dJ(y:Str):∀ss:List Str,Mw (.str y) (ss.map V.str)=ss.count y
 | []=>rfl
 |a::ss=>by
  have:=dJ y ss;unfold Mw at this ⊢;rw[B6,qt,List.count_cons,this];rfl
theorem Zu(ss:List Str):(ss.map V.str).all Dk=true:=by
 rw[Hr];intro w hw;obtain⟨a,_,rfl⟩:=List.mem_map.mp hw;rfl
def Zx(K:ZLZ):V->List V->Hp->VK->Prop:=λx vs H Q=>∃(l:Addr)(ss:List Str)(y:Str),x=.ref l/\vs=[.str y]/\BW K H l (ss.map V.str)/\Q (.int (ss.count y:Nat)) H
def b7(K:ZLZ):V->List V->Hp->VK->Prop:=λx vs H Q=>∃(l:Addr)(ss:List Str)(y:Str),x=.ref l/\vs=[.str y]/\AU K H l (ss.map V.str)/\Q (.int (ss.count y:Nat)) H
theorem vT:GH X "list.count" (b7 X.K):=by
 intro Zd s O H x vs v us Q I a b h;obtain⟨l,ss,y,rfl,rfl,c,q⟩:=h;refine qG Zd s O H _ _ v us Q I a b ⟨l,_,_,rfl,rfl,c,rfl,Zu ss,?_⟩;rw[dJ];exact q
theorem ZCk:GH X "tuple.count" (Zx X.K):=by
 intro Zd s O H x vs v us Q I e f h;obtain⟨l,ss,y,rfl,rfl,i,q⟩:=h;cases e;obtain⟨u,rfl,g⟩:=f.one;obtain⟨A5,r,pl,j⟩:=I.tuple i;obtain⟨⟨c,d,k,b⟩,ho,a,n,HL⟩:=id pl;simp only at a HL;subst a;subst HL;refine zJ F.slot_tuple_count ⟨_,ho,rfl⟩ F.entry_tuple_count (F.args_tuple_count_2 _ _) (SeqAt.tuple_countAt l A5.toArray n d b u (E6 (.str y))) ⟨ho,λz Md=>Jo g rfl r (Zu ss) z (by simpa using Md),?_⟩
 refine⟨.int _,H,I.tok _,⟨_,rfl⟩,?_⟩;rw[ZKg,ZH r (Zu ss),dJ];exact q
variable{o e f:Expr}{apos Bp:Pos}{td ty tx:TE}
end
end L2
namespace Fz
open L2 Lw
section
variable[Xw]
variable{ss:List Slot}{K:ZLZ}{td ty tx ta tb:TE}{k:PV->Prop}
theorem ZHv(h:Wq ss ta λtp xs=>tp=false/\∃ns:List Str,xs=ns.map PV.str/\Wp ss tb λq=>∃y,q=.str y/\k (.int (ns.count y:Nat))):Wp ss (GJ K "list" (b7 K) ta (AX tb BA)) k:=⟨λE O F H Q S q=>
 h.go E O F H _ S λv tp xs F1 H1 b sv⟨i,ns,e,h2⟩=>by
  subst i;subst e;obtain⟨l,vs,rfl,f,r⟩:=sv.seq b.st;refine⟨.inl ⟨rfl,_,AU.of f⟩,h2.go E O F1 H1 _ b.st λm p2 F2 H2 a c⟨y,g,kk⟩=>?_⟩;subst g;cases c.inv;obtain⟨n,Bt,j,DS,d⟩:=(sv.mv a).seq a.st;cases j;rw[d.strs]at DS;exact⟨l,ns,y,rfl,rfl,AU.of DS,q _ _ F2 H2 (b.trans a) (.int _) kk⟩⟩
theorem ZDE(h:Wq ss ta λtp xs=>tp=true/\∃ns:List Str,xs=ns.map PV.str/\Wp ss tb λq=>∃y,q=.str y/\k (.int (ns.count y:Nat))):Wp ss (GJ K "tuple" (Zx K) ta (AX tb BA)) k:=⟨λE O F H Q S q=>
 h.go E O F H _ S λv tp xs F1 H1 b sv⟨i,ns,e,h2⟩=>by
  subst i;subst e;obtain⟨l,vs,rfl,f,r⟩:=sv.seq b.st;refine⟨.inr (.inr (.inr (.inr ⟨rfl,_,f⟩))),h2.go E O F1 H1 _ b.st λm p2 F2 H2 a c⟨y,g,kk⟩=>?_⟩;subst g;cases c.inv;obtain⟨n,Bt,j,DS,d⟩:=(sv.mv a).seq a.st;cases j;rw[d.strs]at DS;exact⟨l,ns,y,rfl,rfl,BW.of DS,q _ _ F2 H2 (b.trans a) (.int _) kk⟩⟩
end
end Fz
namespace L2
variable{E Q:Value->Shared->Prop}{I S l:Addr}{d:Value}
def ZEH(val:Nat->Int)(i:Nat)(a:Array Value):Prop:=(i=0/\a=#[])∨∃b t,a=#[.int b t,.int b t]/\(∃j,j<i/\val j=b)/\∀j,j<i->val j<=b
def oM(val:Nat->Int)(n:Nat)(d v:Value):Prop:=(n=0/\v=d)∨∃b t,v=.int b t/\(∃j,j<n/\val j=b)/\∀j,j<n->val j<=b
section
variable{prog:Program}{w:World}{A:Around}{s:Shared}
theorem ZD5{fp wr:List Addr}{n:Nat}{P:Nat->Value->Prop}{St:Nat->Heap->Prop}(W:Walks prog w A.in1 I fp wr n P St)(val:Nat->Int)(J:∀i v,P i v->∃t,v=.int (val i) t)(Rp:S∉fp){R:Result->Shared->Prop}:
  ∀(k i:Nat)(s:Shared)(f:Array Value)(c:Nat),i+k=n->St i s.heap->s.heap.get? S=some { cls:=.type "list", dict:=none,data:=.seq f c,slots:=#[] }->ZEH val i f->
   (∀v h' tk,oM val n d v->(∀b o,b∉S::wr->s.heap.get? b=some o->h'.get? b=some o)->R (.ok (.ret v)) { s with heap:=h',toks:=tk })->
   codeAny (model prog w) A (.builtin "max.loop" ⟨[.ref I,.none,.ref S],[("default", d)]⟩) R s:=by
 have u:(toString "max" ++ toString ".loop":String)="max.loop" := by decide
 have D:S∉wr:=λh=>Rp (W.sub _ h);have nS:∀{b:Addr},b∉S::wr->S≠b:=λa h=>a (by simp[h]);have p:∀{b:Addr},b∉S::wr->b∉wr:=λa h=>a (by simp[h]);have C:∀{b:Addr},b∈fp->S≠b:=λa h=>Rp (by rw[h];exact a);intro k
 induction k with
 |zero=>
  intro i s f c hk st q x m;have L:i=n:=by omega
  subst L;refine ZAr F.entry_max_loop ?_;simp only[qf SS];refine ra (y4 q rfl (ra (ZAs (W.done s _ _ st λh' tk g=>?_))));have l:=g S _ D q;rcases x with⟨G,rfl⟩|⟨b,t,rfl,h1,h2⟩
  .show wpAny _ A.in1 (rule _ >>= λ_=>ret d) _ _ _;refine ra (wpAny_rule (uz ?_));exact m d h' tk (.inl ⟨G,rfl⟩) λb o a e=>g b o (p a) e
  .show wpAny _ A.in1 (updateSeq S (λ_=>#[]) >>= λ_=>letGo [.int b t] [.int b t] >>= λ_=>ret (.int b t)) _ _ _;refine ra (ZA7 l rfl (ra (ZAV (uz ?_))));exact m _ _ tk (.inr ⟨b,t,rfl,h1,h2⟩) λb o a e=>(Fg _ _ (nS a)).trans (g b o (p a) e)
 |succ k r=>
  intro i s f c hk st q x m;refine ZAr F.entry_max_loop ?_;simp only[qf SS];refine ra (y4 q rfl (ra (ZAs (W.item i s _ _ (by omega) st λv h' tk K Du g=>?_))));have l:=g S _ D q;obtain⟨tv,rfl⟩:=J i v K;rcases x with⟨G,rfl⟩|⟨b,t,rfl,h1,h2⟩
  .show wpAny _ A.in1 (updateSeq S (λ_=>#[.int (val i) tv,.int (val i) tv]) >>= _) _ _ _;refine ra (ZA7 l rfl ?_);rw[u];refine uz ⟨ZAP SS _,r (i+1) _ _ _ (by omega) (W.frame _ _ _ Du λb a o e=>(Fg _ _ (C a)).trans e) (JT _ l rfl) (.inr ⟨_,_,rfl,⟨i,by omega,rfl⟩,λj E=>?_⟩) λv h2 Qc hM PU=>?_⟩
   .have:j=i:=by omega
    rw[this];exact Nf _
   .exact m v h2 Qc hM λb o a e=>PU b o a ((Fg _ _ (nS a)).trans (g b o (p a) e))
  .show wpAny _ A.in1 (tryCatch (holding [.int (val i) tv,.int (val i) tv] (richCompare .Gt (.int (val i) tv) (.int b t) >>= _)) _ >>= _) _ _ _;refine ra (ZAs (y2 (ra ?_)));refine CmpOf.ints_gt (P:=λj v=>∃t,v=.int (if j=0 then val i else b) t) (λj=>if j=0 then val i else b) (λ_ _ h=>h) 0 1 _ _ _ _ _ ⟨tv,rfl⟩ ⟨t,rfl⟩ ?_
   refine ra (y2 (vt (ra (ZAV (uz ?_)))))
   by_cases a:val i > b
   .have hd:(λi1 j:Nat=>decide ((if i1=0 then val i else b) > if j=0 then val i else b)) 0 1=true:=uL a
    rw[u4 hd];refine ra (ZA7 l rfl (ra (ZAV ?_)));rw[u];refine uz ⟨ZAP SS _,r (i+1) _ _ _ (by omega) (W.frame _ _ _ Du λb a o e=>(Fg _ _ (C a)).trans e) (JT _ l rfl) (.inr ⟨_,_,rfl,⟨i,by omega,rfl⟩,λj E=>?_⟩) λv h2 Qc hM PU=>?_⟩
    .by_cases B:j=i
     .rw[B];exact Nf _
     .have:=h2 j (by omega);omega
    .exact m v h2 Qc hM λb o a e=>PU b o a ((Fg _ _ (nS a)).trans (g b o (p a) e))
   .have hd:¬ (λi1 j:Nat=>decide ((if i1=0 then val i else b) > if j=0 then val i else b)) 0 1=true:=λz=>a (vY z)
    rw[tK hd];refine ra (ZAV ?_);rw[u];obtain⟨H,VI,y⟩:=h1;refine uz ⟨ZAP SS _,r (i+1) _ _ _ (by omega) Du l (.inr ⟨_,_,rfl,⟨H,by omega,y⟩,λj E=>?_⟩) λv h2 Qc hM PU=>?_⟩
    .by_cases B:j=i
     .rw[B];omega
     .exact h2 j (by omega)
    .exact m v h2 Qc hM λb o a e=>PU b o a (g b o (p a) e)
theorem ZF3{xs:Array (Int×Tok)}(hh:A.handled=none)(g:s.heap.IsList l (intItems xs))
  (h:∀v h' tk,oM (numAt xs) xs.size d v->(∀b o,s.heap.get? b=some o->h'.get? b=some o)->Q v { s with heap:=h',toks:=tk }) :
  wpAny (model prog w) A (call (.builtin "max") [.ref l] [("default", d)]) Q E s:=by
 refine ZAJ (ZAM F.plain_max F.entry_max ?_);rw[show checkBuiltinCall "max" ⟨[.ref l],[("default", d)]⟩=pure ()from by kernel_rfl];refine uz ?_;have f:Builtin.Builtins.bindParams "max" ["key","default"] 0 ⟨[],[("default", d)]⟩=pure [none,some d]:=rfl;show wpAny _ A.in1 (Builtin.Builtins.bindParams "max" ["key","default"] 0 ⟨[],[("default", d)]⟩ >>= _) _ _ s;refine ra (wpAny_of_eq f (ra (uz (ra (iter_intList g λs2 e st c a=>?_)))));subst e;refine ra (ZAG ?_);rw[show(toString "max" ++ toString ".loop":String)="max.loop" by decide];have hsz:xs.size=(intItems xs).size:=by simp[intItems]
 have W:=Walks.list (prog:=prog) (w:=w) (A:=A.in1) hh _ l a (intItems xs);refine uz ⟨ZAP SS _,ZD5 W (numAt xs) (λ_ _=>intItems_at) (λz=>absurd (c _ z) (Lv _)) (intItems xs).size 0 _ _ _ (rM _) (W.frame _ _ _ st λb _ o e=>Bo _ e) (CY _ rfl) (.inl ⟨rfl,rfl⟩) λv h' tk hM hk=>?_⟩;rw[<- hsz]at hM;refine h v h' tk hM (old_kept λb o f e=>hk b o (λz=>?_) (Bo _ e));rcases List.mem_cons.mp z with z|z
 .rw[z]at e;exact absurd (BE e) (Lv _)
 .exact f z
end
def dR(K:ZLZ)(t:TA):TE:=λO H Q=>t O H λvs H1=>∃a ss,vs=[.ref a]/\AU K H1 a (ss.map V.int)/\∀m,(ss=[]/\m=0∨m∈ss/\∀y∈ss,y<=m)->Q (.int m) H1
section
variable{X:Cx}
theorem ZEm{p pos kp:Pos}{l n:Expr}{t:TA}(G:X.calm=true)(F:Gl X "max")(D:X.mg "max"=none)(d:QA X [l] t)(h1:QE X n (tC (.int 0)))
  (g:starEach [l] X.env=[(false,eval l X.env)]:=by rfl):QE X (.Call (.Name "max" p) [l] [⟨some "default", n,kp⟩] pos) (dR X.K t):=⟨by
 have d:=d.h;have h1:=h1.h;intro Zd s O H Q I h;refine xn (LP I F D (show bootBuiltins "max"=some (.builtin "max") by decide+kernel) ?_ (by decide) (by decide));refine callWith_kw (d.k pos I h λus o vs H1 I1 z A=>?_) (by rw[g];rfl) (by rw[g];rfl) rfl rfl;refine kws_cons (Ay (h1 Zd o O H1 (λv H'=>v=.int 0/\H'=H1) I1 ⟨rfl,rfl⟩) λv s2⟨M,H2,I2,x,c,L⟩=>?_);subst c L;obtain⟨tk,rfl⟩:=x;refine kws_nil ?_;obtain⟨a,ss,rfl,C,q⟩:=A;obtain⟨u,rfl,r⟩:=vals1 z;cases r;obtain⟨A5,w,pl,_⟩:=I2.list C;have hi:=T9 w;obtain⟨ys,e⟩:=hi.allInts.items;have m:=pl.isList;rw[e]at m;have c:ys.toList.map (·.1)=ss:=by
  rw[<- nums_intItems,<- e];exact hi.numsOf
 have i:ys.size=ss.length:=by rw[<- c];simp
 refine ZF3 (I2.ok.hd G) m λv h' tk hM hk=>?_;rcases hM with⟨N,rfl⟩|⟨b,t,rfl,⟨j,E,f⟩,J⟩
 .exact⟨.int 0,H2,I2.same hk,⟨_,rfl⟩,q 0 (.inl ⟨List.length_eq_zero_iff.mp (by omega),rfl⟩)⟩
 .refine⟨.int b,H2,I2.same hk,⟨_,rfl⟩,q b (.inr ⟨?_,λy B=>?_⟩)⟩
  .rw[<- f,numAt_eq,c];exact getD_mem (by omega)
  .obtain⟨j,E,f⟩:=mem_getD B;have:=J j (by omega);rw[numAt_eq ys j,c,f]at this;exact this⟩
end
end L2
namespace Fz
open L2 Lw
variable{l ss:List Slot}{te:TE}{t1 t2:OV}{b c d:Bool}
section
variable[Xw]
variable{K:ZLZ}{k:PV->Prop}
theorem xA(h:Wq ss te λtp xs=>tp=false/\∃ns:List Int,xs=ns.map PV.int/\∀m,(ns=[]/\m=0∨m∈ns/\∀y∈ns,y<=m)->k (.int m)):Wp ss (dR K (AX te BA)) k:=⟨λE O F H Q S q=>
 h.go E O F H _ S λv tp xs F1 H1 a sv AO=>by
  obtain⟨d,ns,e,kk⟩:=AO;subst d;subst e;obtain⟨l,vs,rfl,b,r⟩:=sv.seq a.st;rw[r.ints]at b;exact⟨l,ns,rfl,AU.of b,λm c=>q _ _ F1 H1 a (.int _) (kk m c)⟩⟩
end
end Fz
namespace Fz
open L2 Lw
variable{ss:List Slot}{tb te:TE}{i j:Nat}
theorem set_same{α:Type}{l:List α}{x:α}(h:l[i]?=some x):l.set i x=l:=by
 obtain⟨a,ex⟩:=List.getElem?_eq_some_iff.mp h;rw[<- ex,List.set_getElem_self]
end Fz
namespace Fz
open L2 Lw
variable{ss:List Slot}{ta tb te ti tv:TE}{d i j jb n:Nat}{nx:List Slot->Prop}{R:Ag}{neg tp:Bool}{C a a0 aT aW dx:Addr}{pl r w x0 y:Str}{ps xs:List PV}{B c m:Int}{p:Str×Str}{ks:List Kd}{Mf us:List OV}{f:Str->List Str}{S T cs:List Str}
theorem zK(x:Bool)(ns:List Bool):ND (.bl x) (ns.map V.bl)=decide (x∈ns):=by
 induction ns with
 |nil=>simp[ND]
 |cons n r a=>
  unfold ND at a ⊢;rw[B6,Ng,a,show FE (.bl n) (.bl x)=(n == x)from rfl];cases x <;> cases n <;> simp
section
variable[Xw]
variable{t:OV}{K:ZLZ}{k:PV->Prop}
theorem iD(h:Wp ss ta λp=>∃x,p=.bl x/\Wq ss tb λ_ ys=>∃ns:List Bool,ys=ns.map PV.bl/\k (.bl (if neg then !decide (x∈ns)else decide (x∈ns)))):Wp ss (Ba (IM K neg) ta tb) k:=⟨λE O F H Q S q=>
 h.el E S λx F1 H1 b h2=>by
  exact h2.go E O F1 H1 _ b.st λe tp ys F2 H2 a sv Eh=>by
   obtain⟨ns,d,kk⟩:=Eh;subst d;obtain⟨l,vs,rfl,c,r⟩:=sv.seq a.st;rw[r.YY]at c;refine⟨l,_,rfl,(Em.sq (K:=K) c).or,rfl,er ns,?_⟩;rw[zK];exact q _ _ F2 H2 (b.trans a) (.bl _) kk⟩
theorem ZGN(h:Wq ss te λtp xs=>tp=false/\∃bs:List Bool,xs=bs.map PV.bl/\Wp ss tb λp=>∃n:Nat,p=.int n/\true∈bs.drop n/\k (.int (n+(bs.drop n).idxOf true:Nat))):Wp ss (GJ K "list" (mI K) te (AX (tC (.bl true)) (AX tb BA))) k:=⟨λE O F H Q S q=>
 h.go E O F H _ S λv tp xs F1 H1 b sv AO=>by
  obtain⟨i,bs,ex,h2⟩:=AO;subst i;subst ex;obtain⟨l,vs,rfl,g,r⟩:=sv.seq b.st;refine⟨.inl ⟨rfl,_,AU.of g⟩,h2.go E O F1 H1 _ b.st λm p2 F2 H2 a c Eh=>?_⟩;obtain⟨n,e,f,kk⟩:=Eh;subst e;cases c.inv;obtain⟨o,Bt,j,DS,d⟩:=(sv.mv a).seq a.st;cases j;rw[d.YY]at DS;exact⟨l,bs,n,rfl,rfl,AU.of DS,f,q _ _ F2 H2 (b.trans a) (.int _) kk⟩⟩
theorem qK(h:Wl ss i t ta λp u=>∃(lt:Bool)(a:Addr)(ps:List PV),ss[i]?=some (.ow lt t)/\u=.nd .lst a (ps.map .fz)/\Wp ss tb λq=>∃n:Nat,q=.int n/\n<ps.length/\ps.length<=99999/\nx (ss.set i (.ow lt (t.put p (.nd .lst a ((ps.eraseIdx n).map .fz)))))):
  Ws ss (HA (GJ K "list" bg ta (AX tb BA))) nx R:=⟨λE D O F H S k y=>
 h.go E O F H _ S λv p u F1 H1 c g B1 AO=>by
  obtain⟨lt,a,ps,hi,m,h2⟩:=AO;subst m;have l:v=.ref a:=by cases g;rfl
  subst l;obtain⟨Hf,r,_⟩:=c.st.Q4 hi B1;refine⟨.inl ⟨rfl,_,AU.of r⟩,h2.go E O F1 H1 _ c.st λs w F2 H2 b f Eh=>?_⟩;obtain⟨n,o,Jk,x,kk⟩:=Eh;subst o;cases f.inv;obtain⟨vs,j,d⟩:=b.st.Q4 hi B1;have e:=d.length;refine⟨a,vs,n,n,vs[n]'(by omega),rfl,rfl,j,by omega,by omega,vz (by omega),As (by omega),?_⟩;exact k _ O F2 _ kk (b.st.X6 hi B1 (d.erase n)) (c.ff.trans b.ff)⟩
theorem ZK5{k:List Nat->OV->Prop}(hi:ss[i]?=some (.ow false t))(h:Wl ss i t te λ_ u=>k [i] u):Wx ss te k:=⟨λE O F H Q S q=>
 h.go E O F H _ S λv p u F1 H1 b c B1 kk=>by
  obtain⟨f,e,r,nd,a⟩:=b.st.ok i _ hi;obtain⟨l,g,es,_⟩:=OV.split B1;have d:u.addrs.Nodup:=by
   rw[es]at nd;exact(List.nodup_append.mp (List.nodup_append.mp nd).1).2.1
  have sub:∀x∈u.addrs,x∈t.addrs:=OV.JF B1;exact q v [i] u F1 H1 b c d (λx hx=>⟨(a x (sub x hx)).1,(a x (sub x hx)).2.elim id λz=>(by cases z.1),.inl ⟨i,by simp,_,by simp,hi,sub x hx⟩⟩) kk⟩
end
abbrev Ak:=Str×Bool
variable{x:Ak}{q:List Ak×List Ak×List Ak}
structure Rn where
 r:Str
 th:List Ak
 gap:Nat
 B7:Nat
variable{s:Rn}
noncomputable def Fc:List Str:=["rule","things","awaited","gap","rounds"]
def De(th:List Ak):List PV:=th.map λx=>.str x.1
def DY(th:List Ak):List PV:=th.map λx=>.bl x.2
def V3(C:Addr)(s:Rn):PV:=.obj C Fc [.str s.r,.lst (De s.th),.lst (DY s.th),.int s.gap,.int s.B7]
def Co(C dx a aT aW:Addr)(r:Str)(ts ws:List PV)(g n:Int):OV:=.nd (.obj C dx Fc) a [.fz (.str r),.nd .lst aT (ts.map .fz),.nd .lst aW (ws.map .fz),.fz (.int g),.fz (.int n)]
def Ej(C dx a aT aW:Addr)(s:Rn):OV:=Co C dx a aT aW s.r (De s.th) (DY s.th) s.gap s.B7
theorem YC:(Ej C dx a aT aW s).pv=V3 C s:=by
 unfold Ej Co V3;simp only[OV.pv,OV.DG,ky]
section
variable[Xw]
variable{ts ws ys:List PV}{g n:Int}{lt:Bool}{K:ZLZ}
theorem cO{k:Bool->List PV->Prop}(hi:ss[i]?=some (.is (NS tp xs)))(h:k tp xs):Wz ss (Al i) k:=by
 cases tp
 .exact CS (A1 hi ⟨_,.inl ⟨rfl,h⟩⟩)
 .exact CS (A1 hi ⟨_,.inr ⟨rfl,h⟩⟩)
theorem pk:(Co C dx a aT aW r ts ws g n).put [1] (.nd .lst aT (ys.map .fz))=Co C dx a aT aW r ys ws g n:=by unfold Co;rw[OV.KU (x:=.nd .lst aT (ts.map .fz)) rfl,OV.Ee];rfl
theorem cD:(Co C dx a aT aW r ts ws g n).put [2] (.nd .lst aW (ys.map .fz))=Co C dx a aT aW r ts ys g n:=by unfold Co;rw[OV.KU (x:=.nd .lst aW (ws.map .fz)) rfl,OV.Ee];rfl
theorem To{k:List Nat->OV->Prop}(hi:ss[i]?=some (.ow lt (Co C dx a aT aW r ts ws g n)))(b:Bu K C)(c:BQ K C "things")(h:k ([]++[1]) (.nd .lst aT (ts.map .fz))):Wl ss i (Co C dx a aT aW r ts ws g n) (KA K (Al i) "things") k:=NY (C8 hi ⟨C,dx,Fc,a,_,1,_,rfl,b,c,by decide+kernel,rfl,h⟩)
theorem QU{k:List Nat->OV->Prop}(hi:ss[i]?=some (.ow lt (Co C dx a aT aW r ts ws g n)))(b:Bu K C)(c:BQ K C "awaited")(h:k ([]++[2]) (.nd .lst aW (ws.map .fz))):Wl ss i (Co C dx a aT aW r ts ws g n) (KA K (Al i) "awaited") k:=NY (C8 hi ⟨C,dx,Fc,a,_,2,_,rfl,b,c,by decide+kernel,rfl,h⟩)
theorem tX{k:PV->Prop}(hi:ss[i]?=some (.ow lt (Co C dx a aT aW r ts ws g n)))(b:Bu K C)(c:BQ K C "rule")(h:k (.str r)):Wp ss (KA K (Al i) "rule") k:=LC (NY (C8 hi ⟨C,dx,Fc,a,_,0,_,rfl,b,c,by decide+kernel,rfl,_,rfl,h⟩))
theorem Oi{k:PV->Prop}(hi:ss[i]?=some (.ow lt (Co C dx a aT aW r ts ws g n)))(b:Bu K C)(c:BQ K C "gap")(h:k (.int g)):Wp ss (KA K (Al i) "gap") k:=LC (NY (C8 hi ⟨C,dx,Fc,a,_,3,_,rfl,b,c,by decide+kernel,rfl,_,rfl,h⟩))
theorem kl{k:PV->Prop}(hi:ss[i]?=some (.ow lt (Co C dx a aT aW r ts ws g n)))(b:Bu K C)(c:BQ K C "rounds")(h:k (.int n)):Wp ss (KA K (Al i) "rounds") k:=LC (NY (C8 hi ⟨C,dx,Fc,a,_,4,_,rfl,b,c,by decide+kernel,rfl,_,rfl,h⟩))
theorem aC(hi:ss[i]?=some (.ow lt (Co C dx a aT aW r ts ws g n)))(b:Bu K C)(c:BQ K C "gap")(h:Wp ss tv λp=>∃g',p=.int g'/\nx (ss.set i (.ow lt (Co C dx a aT aW r ts ws g' n)))):Ws ss (VY K (Al i) tv "gap") nx R:=
 Ll (i:=i) (EV (h.mono λp z=>by
  obtain⟨g',rfl,kk⟩:=z;refine C8 hi ⟨lt,C,dx,Fc,a,_,hi,rfl,b,c,by decide,Aa,?_⟩;rw[OV.Ee];exact kk))
theorem ZAg(hi:ss[i]?=some (.ow lt (Co C dx a aT aW r ts ws g n)))(b:Bu K C)(c:BQ K C "rounds")(h:nx (ss.set i (.ow lt (Co C dx a aT aW r ts ws g (n+1))))):Ws ss (QB K (Al i) (tC (.int 1)) (Ks λi j=>i+j) "rounds") nx R:=
 ZA6 (i:=i) (C8 hi ⟨lt,C,dx,Fc,a,_,4,n,hi,rfl,b,c,by decide,by decide+kernel,rfl,AH ⟨1,rfl,by rw[OV.Ee];exact h⟩⟩)
end
def Gw(C a:Addr)(s:Rn)(t:OV):Prop:=∃dx aT aW,t=Ej C dx a aT aW s
def Fw(th:List Ak):Bool:=th.any (·.2)
theorem YB(th:List Ak):DY th=(th.map (·.2)).map PV.bl:=by unfold DY;rw[Cm];rfl
theorem Xb(th:List Ak):Fw th=decide (true∈th.map (·.2)):=by
 unfold Fw;rw[Nc,ZKR,ZA3,List.mem_map]
theorem ZD0(th:List Ak)(i:Nat):(DY th).set i (.bl false)=DY (th.modify i λx=>(x.1,false)):=by
 unfold DY
 induction th generalizing i with
 |nil=>simp
 |cons x r a=>
  cases i with
  |zero=>rfl
  |succ i=>
   rw[B6,Se,a,ZKe,B6]
theorem ZJO(th:List Ak)(i:Nat):De (th.modify i λx=>(x.1,false))=De th:=by
 unfold De
 induction th generalizing i with
 |nil=>simp
 |cons x r a=>
  cases i with
  |zero=>rfl
  |succ i=>rw[ZKe,B6,a,B6]
theorem ZKH(cs:List Str):De (cs.map λc=>(c,true))=cs.map .str:=by unfold De;rw[Cm];rfl
theorem wx(cs:List Str):DY (cs.map λc=>(c,true))=cs.map λ_=>.bl true:=by unfold DY;rw[Cm];rfl
theorem QH(th:List Ak):(De th).length=th.length:=AB ..
theorem QQ(th:List Ak):(DY th).length=th.length:=AB ..
def dH(C:Addr):Pre:=λl R=>∃(dx a:Addr)(tp:Bool)(cs:List Str)(r:Str),l=[.ow true (.nd (.obj C dx []) a []),.is (NS tp (cs.map .str)),.is (.str r)]/\cs.length<=100/\R=.mt λp t'=>p=.AA/\∃aT aW,t'=Ej C dx a aT aW ⟨r,cs.map λc=>(c,true),0,0⟩
def fW(C:Addr):Pre:=λl R=>∃s:Rn,l=[.is (V3 C s)]/\R=.is λp=>p=.bl (Fw s.th)
def EI(s:Rn):Bool:=!Fw (s.th.drop s.gap)
def Dh(s:Rn):Nat:=let st:=if EI s then 0 else s.gap;st+(s.th.drop st).findIdx (·.2)
def Dt(s:Rn):Rn:=⟨s.r,s.th.modify (Dh s) λx=>(x.1,false),Dh s+1,if EI s=true∨s.B7=0 then s.B7+1 else s.B7⟩
theorem fP(h:Fw s.th=true):∃x,s.th[Dh s]?=some (x,true)/\true∈((s.th.map (·.2)).drop (if EI s then 0 else s.gap))/\Dh s=(if EI s then 0 else s.gap)+((s.th.map (·.2)).drop (if EI s then 0 else s.gap)).idxOf true:=by
 have f:Fw (s.th.drop (if EI s then 0 else s.gap))=true:=by
  cases e:EI s with
  |true=>exact h
  |false=>
   unfold EI at e;show Fw (s.th.drop s.gap)=true;cases q:Fw (s.th.drop s.gap)with
   |true=>rfl
   |false=>rw[q]at e;cases e
 have j:∀l:List Ak,l.findIdx (·.2)=(l.map (·.2)).idxOf true:=λl=>by
  induction l with
  |nil=>rfl
  |cons y r i=>
   rw[List.findIdx_cons,B6,r6,i];cases y.2 <;> rfl
 have c:true∈(s.th.map (·.2)).drop (if EI s then 0 else s.gap):=by
  rw[<- Lu];rw[Xb]at f;exact vY f
 have g:Dh s=(if EI s then 0 else s.gap)+((s.th.map (·.2)).drop (if EI s then 0 else s.gap)).idxOf true:=by
  unfold Dh;rw[<- Lu,<- j]
 have d:=List.idxOf_lt_length_iff.mpr c;have a:((s.th.map (·.2)).drop (if EI s then 0 else s.gap))[((s.th.map (·.2)).drop (if EI s then 0 else s.gap)).idxOf true]?=some true:=by rw[As d,Km d]
 rw[List.getElem?_drop,<- g,Ax]at a;obtain⟨⟨x,b⟩,hx,rfl⟩:=Option.map_eq_some_iff.mp a;exact⟨x,hx,c,g⟩
def Bf(s:Rn):Str:=match s.th[Dh s]? with
 |some x=>x.1
 |none => ""
def iO(C:Addr):Pre:=λl R=>∃(a:Addr)(s:Rn)(t:OV),l=[.ow true t]/\Gw C a s t/\Fw s.th=true/\s.th.length<=10000/\R=.mt λp t'=>p=.str (Bf s)/\Gw C a (Dt s) t'
noncomputable def ID(s:Rn)(a:Str)(n:Nat):Nat:=if a="next" then s.gap+n else if a="last" then s.th.length else if a="back" then s.gap - 1 else 0
def m8(C:Addr):Pre:=λl R=>∃(s:Rn)(a:Str)(n:Nat),l=[.is (V3 C s),.is (.str a),.is (.int n)]/\1<=s.gap/\R=.is λp=>p=.int (ID s a n)
def Va(s:Rn)(w:Str)(at_:Nat):Rn:=⟨s.r,s.th.take at_++(w,O3 s.r s.gap at_)::s.th.drop at_,Jw at_ s.gap,s.B7⟩
def Y9(C:Addr):Pre:=λl R=>∃(a:Addr)(s:Rn)(t:OV)(w:Str)(i:Nat),l=[.ow true t,.is (.str w),.is (.int i)]/\Gw C a s t/\i<=s.th.length/\s.th.length<=10000/\R=.mt λp t'=>p=.AA/\Gw C a (Va s w i) t'
def Um(s:Rn)(i:Nat):Rn:=⟨s.r,s.th.eraseIdx i,Q7 i s.gap,s.B7⟩
theorem c9{α β:Type}(f:α->β):∀(a:List α)(j:Nat),(a.map f).eraseIdx j=(a.eraseIdx j).map f
 | [],_=>rfl
 |_::_,0=>rfl
 |x::t,j+1=>by rw[B6,ZKV,c9 f t j];rfl
theorem rm(th:List Ak)(i:Nat)(x:Ak):De (th.take i++x::th.drop i)=(De th).take i++.str x.1::(De th).drop i:=by unfold De;rw[Ca,B6,Sd,Lu]
theorem xx(th:List Ak)(i:Nat)(x:Ak):DY (th.take i++x::th.drop i)=(DY th).take i++.bl x.2::(DY th).drop i:=by unfold DY;rw[Ca,B6,Sd,Lu]
theorem ZFq(th:List Ak)(i:Nat):(De th).eraseIdx i=De (th.eraseIdx i):=c9 _ _ _
theorem ZJy(th:List Ak)(i:Nat):(DY th).eraseIdx i=DY (th.eraseIdx i):=c9 _ _ _
def Yo(C:Addr):Pre:=λl R=>∃(a:Addr)(s:Rn)(t:OV)(i:Nat),l=[.ow true t,.is (.int i)]/\Gw C a s t/\(i<s.th.length/\s.th.length<=10010)/\R=.mt λp t'=>p=.AA/\Gw C a (Um s i) t'
noncomputable def Dy(r:Str)(q:List Ak×List Ak×List Ak)(p:Str×Str):List Ak×List Ak×List Ak:=
 if p.1="next" then(q.1,q.2.1++[(p.2,decide (r ≠"none"))],q.2.2)else if p.1="last" then(q.1,q.2.1,q.2.2++[(p.2,decide (r ≠"none"))])else if p.1="back" then(q.1++[(p.2,decide (r="all"))],q.2.1,q.2.2)else((p.2,decide (r="all"))::q.1,q.2.1,q.2.2)
def GV(r:Str)(ps:List (Str×Str))(q:List Ak×List Ak×List Ak):List Ak×List Ak×List Ak:=ps.foldl (Dy r) q
def IX(r:Str)(th:List Ak)(at_:Nat)(x:Ak)(ps:List (Str×Str))(g:Bool):List Ak×Nat:=
 let q:=GV r ps (th.take at_,[],th.drop (at_+1))
 (q.1++(if g then[]else[x])++q.2.1++q.2.2,q.1.length+if g then 0 else 1)
def D6(r:Str)(x:Ak)(B7:Nat)(q:List Ak×List Ak×List Ak):Rn:=⟨r,q.1++x::(q.2.1++q.2.2),q.1.length+1,B7⟩
theorem ZDt(h:s.th[s.gap - 1]?=some x)(b:1<=s.gap):s=D6 s.r x s.B7 (s.th.take (s.gap - 1),[],s.th.drop (s.gap - 1+1)):=by
 obtain⟨r,th,g,n⟩:=s;obtain⟨a,e⟩:=List.getElem?_eq_some_iff.mp h;have a:g - 1<th.length:=a;have b:1<=g:=b;have e:th[g - 1]=x:=e;show Rn.mk r th g n=Rn.mk r (th.take (g - 1)++x::([]++th.drop (g - 1+1))) ((th.take (g - 1)).length+1) n;rw[HM,<- e,<- dq a,rH,Dj,show min (g - 1) th.length+1=g by omega]
def GB(q:List Ak×List Ak×List Ak):Nat:=q.1.length+q.2.1.length+q.2.2.length
theorem ZE7(r:Str)(q:List Ak×List Ak×List Ak)(p:Str×Str):GB (Dy r q p)=GB q+1:=by
 unfold Dy GB
 repeat' split
 all_goals simp only[By,Ck,Sa];omega
theorem ZIV(r:Str)(ps:List (Str×Str))(p:Str×Str)(q:List Ak×List Ak×List Ak):GV r (ps++[p]) q=Dy r (GV r ps q) p:=by unfold GV;rw[List.foldl_append];rfl
theorem Th(r:Str):∀(ps:List (Str×Str))(q:List Ak×List Ak×List Ak),GB (GV r ps q)=GB q+ps.length
 | [],q=>rfl
 |p::ps,q=>by
  show GB (GV r ps (Dy r q p))=_;rw[Th r ps,ZE7,Ck];omega
theorem Uq(r:Str)(x:Ak)(n:Nat)(q:List Ak×List Ak×List Ak):(D6 r x n q).th.length=GB q+1:=by
 show(q.1++x::(q.2.1++q.2.2)).length=_;unfold GB;simp only[By,Ck];omega
theorem VA{g:Nat}(c:r∈Bn):O3 r g i=if g<=i then decide (r ≠"none")else decide (r="all"):=by
 have:r="none" ∨r="ahead" ∨r="all" := by
  unfold Bn at c;rcases List.mem_cons.mp c with h|h
  .exact .inl h
  .rcases List.mem_cons.mp h with h|h
   .exact .inr (.inl h)
   .exact .inr (.inr (List.mem_singleton.mp h))
 unfold O3;have b:("none":Str)≠"all" := by decide+kernel
 have f:("none":Str)≠"ahead" := by decide+kernel
 have a:("ahead":Str)≠"all" := by decide+kernel
 have e:("all":Str)≠"none" := by decide+kernel
 have d:("ahead":Str)≠"none" := by decide+kernel
 rcases this with rfl|rfl|rfl
 .rw[tK (by simpa using b),tK (by simpa using f)]
  split <;> simp[b]
 .rw[tK (by simpa using a),u4 (by simp)]
  split <;> simp[a,d] <;> omega
 .rw[u4 (by simp)];split <;> simp[e]
theorem putAt{k:Str}{pre post th:List Ak}{g m:Nat}(e:th=pre++post)(a:m=pre.length):Va ⟨r,th,g,n⟩ k m=⟨r,pre++(k,O3 r g m)::post,Jw m g,n⟩:=by
 subst e;subst a;show Rn.mk r ((pre++post).take pre.length++_::(pre++post).drop pre.length) _ n=_;rw[List.take_left,List.drop_left]
theorem u7{a k:Str}(b:r∈Bn)(hw:a∈WH):ID (D6 r x n q) a q.2.1.length<=(D6 r x n q).th.length/\Va (D6 r x n q) k (ID (D6 r x n q) a q.2.1.length)=D6 r x n (Dy r q (a,k)):=by
 obtain⟨lo,nx,hi⟩:=q;have l:(lo++x::(nx++hi)).length=lo.length+nx.length+hi.length+1:=Uq r x n (lo,nx,hi);have j:("last":Str)≠"next" := by decide+kernel
 have i:("back":Str)≠"next" := by decide+kernel
 have f:("back":Str)≠"last" := by decide+kernel
 have e:("first":Str)≠"next" := by decide+kernel
 have d:("first":Str)≠"last" := by decide+kernel
 have c:("first":Str)≠"back" := by decide+kernel
 have hw:a="next" ∨a="last" ∨a="back" ∨a="first" := by
  unfold WH at hw;rcases List.mem_cons.mp hw with h|h
  .exact .inl h
  .rcases List.mem_cons.mp h with h|h
   .exact .inr (.inl h)
   .rcases List.mem_cons.mp h with h|h
    .exact .inr (.inr (.inl h))
    .exact .inr (.inr (.inr (List.mem_singleton.mp h)))
 rcases hw with rfl|rfl|rfl|rfl
 .rw[show ID (D6 r x n (lo,nx,hi)) "next" (lo,nx,hi).2.1.length=lo.length+1+nx.length from u4 rfl]
  refine⟨by show _<=(lo++x::(nx++hi)).length;omega,?_⟩;refine(putAt (g:=lo.length+1) (pre:=lo++x::nx) (post:=hi) (by simp) (by simp;omega)).trans ?_;rw[VA b,u4 (by omega),show Dy r (lo,nx,hi) ("next", k)=(lo,nx++[(k,decide (r ≠"none"))],hi)from u4 rfl]
  unfold D6 Jw;dsimp only;rw[tK (by omega)];simp
 .rw[show ID (D6 r x n (lo,nx,hi)) "last" (lo,nx,hi).2.1.length=(lo++x::(nx++hi)).length from by unfold ID;rw[tK j,u4 rfl];rfl];refine⟨B0 _,?_⟩;refine(putAt (g:=lo.length+1) (pre:=lo++x::(nx++hi)) (post:=[]) (by simp) rfl).trans ?_;rw[VA b,u4 (by omega),show Dy r (lo,nx,hi) ("last", k)=(lo,nx,hi++[(k,decide (r ≠"none"))])from by unfold Dy;rw[tK j,u4 rfl]];unfold D6 Jw;dsimp only;rw[tK (by omega)];simp
 .rw[show ID (D6 r x n (lo,nx,hi)) "back" (lo,nx,hi).2.1.length=lo.length from by unfold ID;rw[tK i,tK f,u4 rfl];rfl];refine⟨by show _<=(lo++x::(nx++hi)).length;omega,?_⟩;refine(putAt (g:=lo.length+1) (pre:=lo) (post:=x::(nx++hi)) rfl rfl).trans ?_;rw[VA b,tK (by omega),show Dy r (lo,nx,hi) ("back", k)=(lo++[(k,decide (r="all"))],nx,hi)from by unfold Dy;rw[tK i,tK f,u4 rfl]];unfold D6 Jw;dsimp only;rw[u4 (by omega)];simp
 .rw[show ID (D6 r x n (lo,nx,hi)) "first" (lo,nx,hi).2.1.length=0 from by unfold ID;rw[tK e,tK d,tK c]]
  refine⟨Cf _,?_⟩;refine(putAt (m:=0) (g:=lo.length+1) (pre:=[]) (post:=lo++x::(nx++hi)) rfl rfl).trans ?_;rw[VA b,tK (by simp),show Dy r (lo,nx,hi) ("first", k)=((k,decide (r="all"))::lo,nx,hi)from by unfold Dy;rw[tK e,tK d,tK c]]
  unfold D6 Jw;dsimp only;rw[u4 (WY _)];simp
theorem ZDS:Um (D6 r x n q) q.1.length=⟨r,q.1++(q.2.1++q.2.2),q.1.length,n⟩:=by
 unfold Um D6 Q7;rw[u4 (dz _),ZKh];show Rn.mk r ((q.1++x::(q.2.1++q.2.2)).eraseIdx q.1.length) _ n=_;rw[List.eraseIdx_append_of_length_le (B0 _),e9];rfl
theorem ZHu(r:Str)(q:List Ak×List Ak×List Ak)(a k:Str):(Dy r q (a,k)).2.1.length=q.2.1.length+if a="next" then 1 else 0:=by
 unfold Dy
 by_cases h:a="next"
 .rw[u4 h,u4 h];simp
 .rw[tK h,tK h]
  repeat' split
  all_goals rfl
def d5(C:Addr):Pre:=λl R=>∃(a:Addr)(s:Rn)(t:OV)(ps:List (Str×Str))(g:Bool)(x:Ak),l=[.ow true t,.is (.lst (ps.map BD)),.is (.bl g)]/\Gw C a s t/\(s.th[s.gap - 1]?=some x/\1<=s.gap)/\s.r∈Bn/\((∀p∈ps,p.1∈WH)/\s.th.length+ps.length<=10000)/\R=.mt λp t'=>p=.AA/\Gw C a ⟨s.r,(IX s.r s.th (s.gap - 1) x ps g).1,(IX s.r s.th (s.gap - 1) x ps g).2,s.B7⟩ t'
def Q2(ks:List Kd)(s:Rn):Rn:=⟨s.r,(IX s.r (Dt s).th (Dh s) (Bf s,false) (CV ks (Bf s)) (Hd ks (Bf s))).1,(IX s.r (Dt s).th (Dh s) (Bf s,false) (CV ks (Bf s)) (Hd ks (Bf s))).2,(Dt s).B7⟩
def JB(ks:List Kd):Nat->Rn×List Str->Rn×List Str
 | 0,s=>s
 |n+1,s=>if Fw s.1.th=true then JB ks n (Q2 ks s.1,s.2++[Bf s.1])else s
theorem ZBH(ks:List Kd){s:Rn×List Str}(h:Fw s.1.th=false):∀n,JB ks n s=s
 | 0=>rfl
 |n+1=>by rw[JB,tK (by rw[h];decide)]
theorem ZCv{Z:Str->Prop}(c:Z p.2)(h:∀y∈q.1++q.2.1++q.2.2,Z y.1):∀y∈(Dy r q p).1++(Dy r q p).2.1++(Dy r q p).2.2,Z y.1:=λy a=>by
 have b:y∈q.1++q.2.1++q.2.2∨y.1=p.2:=by
  unfold Dy at a
  repeat' split at a
  all_goals simp only[Ni,GR,Aa,ZA5]at a ⊢
  .rcases a with(h|h|h)|h
   .exact .inl (.inl (.inl h))
   .exact .inl (.inl (.inr h))
   .rw[h];exact .inr rfl
   .exact .inl (.inr h)
  .rcases a with(h|h)|h|h
   .exact .inl (.inl (.inl h))
   .exact .inl (.inl (.inr h))
   .exact .inl (.inr h)
   .rw[h];exact .inr rfl
  .rcases a with((h|h)|h)|h
   .exact .inl (.inl (.inl h))
   .rw[h];exact .inr rfl
   .exact .inl (.inl (.inr h))
   .exact .inl (.inr h)
  .rcases a with((h|h)|h)|h
   .rw[h];exact .inr rfl
   .exact .inl (.inl (.inl h))
   .exact .inl (.inl (.inr h))
   .exact .inl (.inr h)
 rcases b with k|k
 .exact h y k
 .rw[k];exact c
theorem lX{r:Str}{Z:Str->Prop}:∀(ps:List (Str×Str)){q:List Ak×List Ak×List Ak},(∀p∈ps,Z p.2)->(∀y∈q.1++q.2.1++q.2.2,Z y.1)->∀y∈(GV r ps q).1++(GV r ps q).2.1++(GV r ps q).2.2,Z y.1
 | [],_,_,h=>h
 |p::ps,q,hp,h=>lX ps (q:=Dy r q p) (λy a=>hp y (E2 _ a)) (ZCv (hp p Fh) h)
structure UN (ks:List Kd) (n:Nat) (s:Rn):Prop where
 rl:s.r∈Bn
 wd:∀y∈s.th,y.1∈wk ks
 len:s.th.length<=12+6 * n
theorem ZCr(r:Str)(th:List Ak)(i:Nat)(x:Ak)(ps:List (Str×Str))(g:Bool)(hi:i<th.length):(IX r th i x ps g).1.length<=th.length+ps.length:=by
 have:=Th r ps (th.take i,[],th.drop (i+1));unfold GB at this;simp only[Dj,SY,Sa]at this;unfold IX;simp only[By];have h2:(if g=true then([]:List Ak)else[x]).length<=1:=by split <;> simp
 omega
theorem pK(h:Fw s.th=true):(Dt s).th[(Dt s).gap - 1]?=some (Bf s,false)/\Dh s<s.th.length/\(∃b,(Bf s,b)∈s.th)/\(Dt s).th.length=s.th.length:=by
 obtain⟨x,hx,_,_⟩:=fP h;have a:Bf s=x:=by unfold Bf;rw[hx]
 refine⟨?_,(List.getElem?_eq_some_iff.mp hx).1,⟨true,?_⟩,List.length_modify ..⟩
 .show(s.th.modify (Dh s) _)[Dh s+1 - 1]?=_;rw[ZKh,ZKZ,hx,a];simp
 .rw[a];exact C7 hx
theorem ZJa(hk:KG ks)(h:UN ks n s)(j:Fw s.th=true):UN ks (n+1) (Q2 ks s):=by
 obtain⟨_,e,⟨b,l⟩,o⟩:=pK j;have hw:Bf s∈wk ks:=h.wd _ l;obtain⟨k,t,v,g,u,m⟩:=hk.at hw;have kp:=hk.ps k m;have f:∀y∈(Dt s).th,y.1∈wk ks:=λy c=>by
  obtain⟨i,hi⟩:=List.getElem?_of_mem c;have hi:(s.th.modify (Dh s) λx=>(x.1,false))[i]?=some y:=hi;rw[ZKZ]at hi;cases q:s.th[i]? with
  |none=>rw[q]at hi;cases hi
  |some z=>
   rw[q]at hi;have a:=h.wd z (C7 q);have:y.1=z.1:=by
    have hi:=Be hi;rw[<- hi];show(if Dh s=i then _ else _:Ak).1=_
    split <;> rfl
   rw[this];exact a
 refine⟨h.rl,λy c=>?_,?_⟩
 .have c:y∈(IX s.r (Dt s).th (Dh s) (Bf s,false) (CV ks (Bf s)) (Hd ks (Bf s))).1:=c;unfold IX at c;have d:=lX (r:=s.r) (Z:=(·∈wk ks)) (CV ks (Bf s)) (q:=((Dt s).th.take (Dh s),[],(Dt s).th.drop (Dh s+1))) (λp e=>by rw[g]at e;exact(kp.2 p e).2) (λz a=>by
   simp only[Dz,Ni]at a;rcases a with a|a
   .exact f z (Pl a)
   .exact f z (WT a))
  simp only[Ni]at c d;rcases c with((h1|h1)|h1)|h1
  .exact d y (.inl (.inl h1))
  .split at h1
   .cases h1
   .rw[List.mem_singleton.mp h1];exact hw
  .exact d y (.inl (.inr h1))
  .exact d y (.inr h1)
 .have:=ZCr s.r (Dt s).th (Dh s) (Bf s,false) (CV ks (Bf s)) (Hd ks (Bf s)) (by omega);have l1:=h.len;have l2:(CV ks (Bf s)).length<=6:=by rw[g];exact kp.1
  show(IX s.r (Dt s).th (Dh s) (Bf s,false) (CV ks (Bf s)) (Hd ks (Bf s))).1.length<=_;omega
def ZHV(l1 l2:Addr)(q:Rn×List Str):OV:=.tp [.nd .lst l1 ((q.2.map PV.str).map .fz),.nd .lst l2 ((De q.1.th).map .fz),.fz (.int q.1.B7),.fz (.bl (!Fw q.1.th))]
def OT(r:Str)(cs:List Str):Rn×List Str:=(⟨r,cs.map λc=>(c,true),0,0⟩,[])
theorem ZBE{X:Cx}{pos:Pos}:QE X (.Dict [] [] pos) XY:=⟨λZd s O H Q I h=>
 wpAny_Dict_empty ⟨.ref s.heap.objs.size,_,I.laid (a:=s.heap.objs.size) (o:=.dT []) (t':=s.toks) (λ_ _ q=>Bo _ q) (B0 _) (ZFB s.heap I.big),rfl,h _ (I.AJ.fresh (B0 _))⟩⟩
abbrev Br:=Str×Nat
variable{b:Br}{M:List Br}
def Fu(b:Br):List Key:=[.inr b.1,.inl (b.2:Int)]
def CH(b:Br):PV:=.tup [.str b.1,.int (b.2:Int)]
theorem ZJ4{a:Br}(h:Fu a=Fu b):a=b:=by
 obtain⟨x,n⟩:=a;obtain⟨y,m⟩:=b;unfold Fu at h;injection h with h1 h2
 injection h1 with h1
 injection h2 with h2 _
 injection h2 with h2
 have h1:x=y:=h1;have h2:(n:Int)=(m:Int):=h2;have h2:n=m:=by omega
 rw[h1,h2]
def C3(f:Br->Int)(a:Addr)(M:List Br):OV:=.nd (.KW (M.map Fu)) a (((M.map f).map PV.int).map .fz)
theorem UH(f:Br->Int)(a:Addr)(M:List Br):(C3 f a M).addrs=[a]:=by
 unfold C3;rw[OV.DV,OC];rfl
theorem V7(f:Br->Int)(b:Br):∀M:List Br,EX ((M.map Fu).zip ((M.map f).map V.int)) (Fu b)=if b∈M then some (.int (f b))else none
 | []=>by rw[tK Aa];rfl
 |c::M=>by
  rw[B6,B6,B6,Ko]
  by_cases e:c=b
  .subst e;rw[RJ rfl,u4 Fh]
  .rw[Qe (λz=>e (ZJ4 z)),V7 f b M];have:(b∈c::M)↔b∈M:=⟨λh=>(List.mem_cons.mp h).elim (λz=>absurd z.symm e) id,λh=>E2 _ h⟩
   by_cases d:b∈M
   .rw[u4 d,u4 (this.mpr d)]
   .rw[tK d,tK λz=>d (this.mp z)]
theorem ZX{F:Hp}{v:V}(r:Rep F v (CH b)):∃c,v=.ref c/\F c=some (.tup ((Fu b).map kV)):=by
 obtain⟨c,vs,rfl,e,a⟩:=r.inv;have d:vs=(Fu b).map kV:=(a.enc (show[PV.str b.1,.int (b.2:Int)].all flat=true from rfl)).trans rfl;rw[d]at e;exact⟨c,rfl,e⟩
section
variable[Xw]
variable{td ty:TE}{k:PV->Prop}{lt:Bool}{t:OV}{K:ZLZ}
theorem ZDo{k:List Nat->OV->Prop}(f:Br->Int)(h:∀a,k [] (C3 f a [])):Wx ss XY k:=⟨λE O F H Q S q p b=>by
 have m:=S.make b (.dT []);refine q _ [] (C3 f p []) F _ m (.nd (k:=.KW []) (vs:=[]) B3 trivial rfl .nil) (by rw[UH];simp) (λa c=>?_) (h p);rw[UH]at c;have e:a=p:=by simpa using c
 subst e;exact⟨S.CK b,S.DB b,.inr b⟩⟩
theorem ux(h:Wp ss ty λq=>Wl ss i t td λ_ u=>∃f a M b,u=C3 f a M/\q=CH b/\k (.bl (!decide (b∈M)))):Wp ss (So ty td) k:=⟨λE O F H Q S q=>
 h.go E O F H _ S λv p F1 H1 g m h2=>h2.go E O F1 H1 _ g.st λw p2 u F2 H2 d l B1 AO=>by
  obtain⟨f,a,M,b,r,eq,kk⟩:=AO;subst r;subst eq;obtain⟨vs,rfl,n,x,y,j⟩:=l.inv;have o:=(j.Q8).ints;subst o;obtain⟨c,rfl,s⟩:=ZX m;refine⟨a,_,rfl,FZ.t n (d.st.fh _ _ (d.ff _ _ s)),?_⟩;rw[V7];have e:(!(if b∈M then some (V.int (f b))else none).isSome)=!decide (b∈M):=by split <;> simp[*]
  rw[e];exact q _ _ F2 H2 (g.trans d) (.bl _) kk⟩
theorem ZBv(h:Wl ss i t td λ_ u=>∃f a M,u=C3 f a M/\Wp ss ty λq=>∃b,b∈M/\q=CH b/\k (.int (f b))):Wp ss (U8 td ty) k:=⟨λE O F H Q S q=>
 h.go E O F H _ S λv p u F1 H1 g n h1⟨f,a,M,w,h2⟩=>h2.go E O F1 H1 _ g.st λy p2 F2 H2 d m⟨b,o,e,kk⟩=>by
  subst e;have l:=n.mv g.st h.hi h1 d;subst w;obtain⟨vs,rfl,r,z,A,j⟩:=l.inv;have s:=(j.Q8).ints;subst s;obtain⟨c,rfl,x⟩:=ZX m;refine⟨a,.int (f b),rfl,?_,q _ _ F2 H2 (g.trans d) (.int _) kk⟩;have:=FZ.t r (d.st.fh _ _ x);rw[V7,u4 o]at this;exact this⟩
theorem ZBw{f:Br->Int}(hi:ss[i]?=some (.ow lt (C3 f a M)))(h:Wp ss tv λp=>Wp ss ty λq=>∃b,b∉M/\p=.int (f b)/\q=CH b/\M.length<=99999/\nx (ss.set i (.ow lt (C3 f a (M++[b]))))):Ws ss (Ut (Al i) ty tv) nx R:=⟨λE D O F H S x σ=>
 h.go E O F H _ S λv p F1 H1 j m h2=>by
  obtain⟨J,e0,u,_,_⟩:=j.st.ok i _ hi;obtain⟨_,d,_⟩:=u.inv;subst d;refine⟨_,e0,h2.go E O F1 H1 _ j.st λI q F2 H2 e s⟨b,g,A,eq,N,kk⟩=>?_⟩;subst A;subst eq;have d:v=.int (f b):=m.inv;subst d;obtain⟨c,rfl,B⟩:=ZX s;obtain⟨G,Q,r,w,L⟩:=e.st.ok i _ hi;obtain⟨vs,_,y,K,P,o⟩:=r.inv;have d:=(o.Q8).ints;subst d;have C:((M.map Fu).zip ((M.map f).map V.int)).length<=99999:=by rw[Sb,AB,AB,AB];omega
  refine⟨a,_,rfl,LD.t y (e.st.fh _ _ B) (IT C),?_⟩;rw[L2.OJ _ (by rw[V7,tK g])];have z:(M.map Fu).zip ((M.map f).map V.int)++[(Fu b,V.int (f b))]=((M++[b]).map Fu).zip (((M++[b]).map f).map V.int):=by
   rw[Ca,Ca,Ca,List.zip_append (by rw[AB,AB,AB])];rfl
  rw[z];have l:=e.st.Uo (p:=[]) (n:=C3 f a (M++[b])) (ho:=.dT (((M++[b]).map Fu).zip (((M++[b]).map f).map V.int))) hi OV.KN (.nd (k:=.KW ((M++[b]).map Fu)) B3 trivial (by show(List.map _ _).length=_;rw[AB,AB,AB]) (TH (fi _))) (by rw[UH];simp) λb g=>.inl (by rw[UH]at g;rw[OV.DV,OC];exact g);rw[OV.Ee]at l;exact x _ O F2 _ kk l (j.ff.trans e.ff)⟩
theorem gA{pre:Pre}{wi:TI}{G:PV}{MO:NK}{k:PV->OV->Prop}(I:Nat->OV->Int->Prop)(hi:ss[i]?=some (.ow lt (.nd MO a0 Mf)))(N:ss[jb]?=some (.is G))
  (h:Wi ss wi λxs=>xs.length<=1000/\I 0 (.nd MO a0 Mf) 0/\(∀n x nk us s,xs[n]?=some x->I n (.nd nk a0 us) s->∃u,pre [.is G,.is x,.ow true (.nd nk a0 us)] (.mt u)/\∀p t',u p t'->∃(m:Int)(Eg:NK)(us':List OV),p=.int m/\t'=.nd Eg a0 us'/\I (n+1) (.nd Eg a0 us') (s+m))/\∀nk us s,I xs.length (.nd nk a0 us) s->k (.int s) (.nd nk a0 us)) :
  Wm ss i lt (.nd MO a0 Mf) (El (UK K) (AX (KL wi [jb,i] QZ (ED (BN pre) [] E0 (AX (Al 0) (AX (Al 2) (AX (Al 1) BA))))) BA)) k:=⟨λE O F H Q S q=>
 h.go E O F H _ S λJ xs F1 H1 d C⟨hz,i0,st,hk⟩acc BI=>by
  have GL:CO ss O acc:=d.st.J6 BI;have JK:=d.st.DB BI;have JJ:∀(i:Nat)s,ss[i]?=some s->¬ BU s O[i]? acc:=λi s hi=>d.st.KQ hi BI;have Z:=(List.getElem?_eq_some_iff.mp hi).1;obtain⟨vI,eI,rI,ndI,qI⟩:=d.st.ok i _ hi;obtain⟨_,W,_⟩:=rI.inv;subst W;have RI:jb≠i:=λz=>by subst z;rw[hi]at N;cases N
  have x6:acc∉(OV.nd MO a0 Mf).addrs:=λz=>JJ i _ hi z;have Jr:∀(T:OV),acc∉T.addrs->∀(n:Nat)s,(ss.set i (.ow lt T))[n]?=some s->¬ BU s O[n]? acc:=λT hT n s r o=>by
   by_cases c:n=i
   .subst c;rw[DA Z]at r;cases r;exact hT o
   .rw[CZ (BO c)]at r;exact JJ n s r o
  refine⟨λn m H2=>m=xs.length - n/\n<=xs.length/\∃nk us s ns F2,I n (.nd nk a0 us) s/\List.sum ns=s/\ns.length=n/\Sg E (ss.set i (.ow lt (.nd nk a0 us))) O F2 H2/\AR F1 F2/\F2 acc=none/\H2 acc=some (.lst (ns.map V.int))/\acc∉(OV.nd nk a0 us).addrs/\(∀x∈(OV.nd nk a0 us).addrs,x∈(OV.nd MO a0 Mf).addrs∨H1 x=none)/\(∀a o,CO ss O a->a∉(OV.nd MO a0 Mf).addrs->H1 a=some o->H2 a=some o)/\(∀a,H1 a≠none->H2 a≠none)/\(∀a o,F2 a=some o->F1 a=some o∨H1 a=none),⟨_,rfl,Cf _,MO,Mf,0,[],F1,i0,rfl,rfl,by rw[set_same hi];exact(d.st.make BI _).st,AR.refl _,d.st.CK BI,B3,x6,λx hx=>.inl hx,λa o _ _ ea=>by rw[AW (D7 ea BI)];exact ea,λa ea=>by rw[AW (λz=>by subst z;exact ea BI)];exact ea,λa o ea=>.inl ea⟩,?_⟩;rintro n m H2⟨rfl,r,nk,us,s,ns,F2,hI,es,en,S2,SM,U,R,aT,tT,dW,Qs,iE⟩
  by_cases Ae:n<xs.length
  .refine .inr ⟨C.go _ O F2 H2 n SM S2 Ae,λx H3 y=>?_⟩;obtain⟨p,F3,hp,g,rp⟩:=C.FT _ O F2 H2 n x H3 SM S2 Ae y;unfold QZ;dsimp only;rw[u4 rfl];have lS:∀b,CO ss O b->CO (ss.set i (.ow lt (.nd nk a0 us))) O b:=λb nb j A=>by
    by_cases c:j=i
    .subst c;rw[DA Z]at A;cases A
    .rw[CZ (BO c)]at A;exact nb j A
   have gj:(ss.set i (.ow lt (.nd nk a0 us)))[i]?=some (.ow lt (.nd nk a0 us)):=DA Z;have X:=g.hh acc _ (lS acc GL) R;have jk:F3 acc=none:=by
    cases e:F3 acc with
    |none=>rfl
    |some o=>
     rcases g.nn acc o e with w|w
     .rw[U]at w;cases w
     .rw[R]at w;cases w
   obtain⟨u,FI,kk⟩:=st n p nk us s hp hI;obtain⟨B,eb,rb⟩:=g.st.ok jb (.is G) (by rw[CZ (BO RI)];exact N);have P4:Bh [jb,i] O++[some x]=[some B,some (V.ref a0),some x]:=by
    show[(O[jb]?).join,(O[i]?).join]++_=_;rw[eb,eI];rfl
   rw[P4];refine⟨B,rfl,x,rfl,V.ref a0,rfl,?_⟩;show BN pre ([B,x,V.ref a0]++[]) H3 _ E0;rw[Dz];refine⟨_,.mt u,F3,[],(OV.nd nk a0 us).addrs,FI,g.st.UX gj (.there rb (.there rp (.here eI .nil))),λv F' H' f⟨q',t',rq,ro,FR,D,kp⟩=>?_⟩;obtain⟨M,Eg,us',rfl,rfl,σ⟩:=kk q' t' kp;have ev:v=.int M:=rq.inv;subst ev;have m4:=g.st.Tw gj f ro FR D;have S4:=m4.st;rw[WU]at S4;have P:H' acc=some (.lst (ns.map V.int)):=f.keep acc _ ⟨Aa,aT⟩ X;have qC:F' acc=none:=by
    cases e:F' acc with
    |none=>rfl
    |some o=>
     rcases f.fresh acc o e with w|w
     .rw[show F3 acc=some o from w]at jk;cases jk
     .have l:H3 acc=none:=w;rw[X]at l;cases l
   have Ou:acc∉(OV.nd Eg a0 us').addrs:=λz=>by
    rcases(D acc z).2 with w|w
    .have w:H3 acc=none:=w;rw[X]at w;cases w
    .exact aT w
   have Y:∀a,H2 a≠none->H3 a≠none:=λa e w=>e (g.none w);have L:∀a,H3 a≠none->H' a≠none:=λa e w=>by
    by_cases c:a∈(OV.nd nk a0 us).addrs
    .exact f.bH a c w
    .cases e2:H3 a with
     |none=>exact e e2
     |some o=>rw[f.keep a o ⟨Aa,c⟩ e2]at w;cases w
   refine⟨_,P,IT (by rw[AB,en];omega),xs.length - (n+1),by omega,rfl,Ae,Eg,us',s+M,ns++[M],F',σ,by rw[rG,es];simp,by rw[By,en];rfl,S4.NT qC (.inl JK) (Jr _ Ou),SM.trans (g.ff.trans f.f0),qC,?_,Ou,λz ME=>?_,λa o np t ea=>?_,λa ea=>?_,λa o ea=>?_⟩
   .rw[B3,Ca];rfl
   .rcases(D z ME).2 with w|w
    .refine .inr ?_;have l:H3 z=none:=w;cases e:H1 z with
     |none=>rfl
     |some o=>exact absurd l (Y z (Qs z (by rw[e];simp)))
    .exact tT z w
   .rw[AW (D7 ea BI)];have h3:=g.hh a o (lS a np) (dW a o np t ea);refine f.keep a o ⟨Aa,λz=>?_⟩ h3;rcases tT a z with w|w
    .exact t w
    .rw[w]at ea;cases ea
   .rw[AW (λz=>by subst z;exact ea BI)];exact L a (Y a (Qs a ea))
   .rcases f.fresh a o ea with w|w
    .rcases g.nn a o w with w|w
     .exact iE a o w
     .refine .inr ?_;cases e:H1 a with
      |none=>rfl
      |some o'=>exact absurd w (Qs a (by rw[e];simp))
    .refine .inr ?_;have l:H3 a=none:=w;cases e:H1 a with
     |none=>rfl
     |some o'=>exact absurd l (Y a (Qs a (by rw[e];simp)))
  .have e:n=xs.length:=by omega
   subst e;refine .inl ⟨C.stop _ O F2 H2 SM S2,acc,ns,rfl,AU.of R,?_⟩;rw[es];exact q _ (.int s) (.nd nk a0 us) F2 H2 ⟨S2,d.ff.trans SM,λa o np t ea=>dW a o np t (d.hh a o np ea),λa o ea=>(iE a o ea).elim (d.nn a o) λw=>.inr (d.none w)⟩ (.int s) (hk nk us s hI)⟩
theorem ZEj{c:TT}{tb:TS}(I:Nat->List Slot->Prop)(e:Nat)(p:I e ss)(h:∀m A6,I m A6->∃lt t,A6[i]?=some (.ow lt t)/\qR A6 i lt t c λb t'=>if b=true then Ws (A6.set i (.ow lt t')) tb (λBm=>∃a,a < m/\I a Bm) R else nx (A6.set i (.ow lt t'))):Ws ss (VJ c tb) nx R:=⟨λE D O F H S k j=>by
 refine⟨λm σ' H'=>∃A6 F',I m A6/\Sg E A6 σ' F' H'/\AR F F',⟨e,ss,F,p,S,AR.refl _⟩,?_⟩;rintro m σ' H'⟨A6,F',o,S',s'⟩;obtain⟨lt,t,hi,n⟩:=h m A6 o;refine n.go E σ' F' H' _ S' λb t' F1 H1 d w=>?_;cases b with
 |true=>
  rw[u4 rfl]at w;refine⟨λσ2 H2=>∃Bm F2,(∃a,a < m/\I a Bm)/\Sg E Bm σ2 F2 H2/\AR F F2,λσ2 H2 AO=>by obtain⟨Bm,F2,⟨a,l,i⟩,b,c⟩:=AO;exact⟨a,l,Bm,F2,i,b,c⟩,?_⟩;exact w.go E _ σ' F1 H1 d.st (λNO σ5 F5 H5 g S5 f=>⟨NO,F5,g,S5,(s'.trans d.ff).trans f⟩) j
 |false=>
  rw[tK (by decide)]at w;exact k _ σ' F1 H1 w d.st (s'.trans d.ff)⟩
theorem sy{a:Int}{f:Int->Int->Int}(k:ss[j]?=some (.is (.int a)))(h:Wm ss i lt t te λp t'=>∃b,p=.int b/\nx ((ss.set i (.ow lt t')).set j (.is (.int (f a b))))):Ws ss (Sq j te (Ks f)) nx R:=⟨λE D O F H S g n=>by
 obtain⟨v,e,r⟩:=S.ok j _ k;cases r.inv;refine⟨_,e,h.go E O F H _ S λm p t' F1 H1 c d⟨b,l,kk⟩=>?_⟩;subst l;cases d.inv;exact⟨a,b,rfl,rfl,g _ _ F1 H1 kk (c.st.Gr (.int _)) c.ff⟩⟩
theorem xE{k:PV->OV->Prop}{g:Int->Int->Bool}{a:Int}(f:ss[j]?=some (.is (.int a)))(h:Wm ss i lt t tb λp t'=>∃b,p=.int b/\k (.bl (g a b)) t'):Wm ss i lt t (Ba (Gd λi j=>.bl (g i j)) (Al j) tb) k:=⟨λE O F H Q S q=>by
 obtain⟨v,e,r⟩:=S.ok j _ f;cases r.inv;refine⟨_,e,h.go E O F H _ S λm p t' F1 H1 d c⟨b,l,kk⟩=>?_⟩;subst l;cases c.inv;exact⟨a,b,rfl,rfl,q _ _ t' F1 H1 d (.bl _) kk⟩⟩
theorem ZGH(h:Wm ss i lt t te λp _=>k p):Ws ss (Hb te) nx (.is k):=⟨λE D O F H S c b=>
 h.go E O F H _ S λv p t' F1 H1 a r kk=>b v F1 H1 a.st.toFin ⟨p,r,kk⟩⟩
end
theorem ZJl(p q:Str×Str)(h:BD p=BD q):p=q:=by
 obtain⟨a,b⟩:=p;obtain⟨c,d⟩:=q;unfold BD at h;injection h with h
 injection h with h1 h2
 injection h2 with h2 _
 injection h1 with h1
 injection h2 with h2
 have h1:a=c:=h1;have h2:b=d:=h2;rw[h1,h2]
theorem jR:∀{l:List Str},¬ l.Nodup->∃(i j:Nat)(x:Str),i<j/\l[i]?=some x/\l[j]?=some x
 | [],h=>absurd HN h
 |a::l,h=>by
  by_cases c:a∈l
  .obtain⟨j,b,e⟩:=FO c;exact⟨0,j+1,a,by omega,rfl,by rw[ZKX,As b,e]⟩
  .obtain⟨i,j,x,h1,h2,d⟩:=jR (l:=l) λz=>h (List.nodup_cons.mpr ⟨c,z⟩);exact⟨i+1,j+1,x,by omega,h2,d⟩
def QM(g:Str->Str)(x:Str):Nat->Str
 | 0=>x
 |n+1=>g (QM g x n)
theorem sink(q:x0∈S)(h:∀x∈S,∃y,y∈f x/\y∈S):∃x∈S,Bq f (f x) x:=by
 have k:∀x,∃y,x∈S->y∈f x/\y∈S:=λx=>by
  by_cases c:x∈S
  .obtain⟨y,b⟩:=h x c;exact⟨y,λ_=>b⟩
  .exact⟨x,λz=>absurd z c⟩
 let g:Str->Str:=λx=>Classical.choose (k x)
 have e:∀x∈S,g x∈f x/\g x∈S:=λx hx=>qm (k x) hx;have is:∀n,QM g x0 n∈S:=λn=>by
  induction n with
  |zero=>exact q
  |succ n a=>exact(e _ a).2
 have nn:¬ ((List.range (S.length+1)).map (QM g x0)).Nodup:=λnd=>by
  have:=GY nd (bs:=S) λy b=>by
   obtain⟨n,_,rfl⟩:=List.mem_map.mp b;exact is n
  rw[AB,Ls]at this;omega
 obtain⟨i,j,x,FU,m,l⟩:=jR nn;rw[Ax]at m l;obtain⟨v,s,rfl⟩:=Option.map_eq_some_iff.mp m;obtain⟨u,r,t⟩:=Option.map_eq_some_iff.mp l;have hi:=(List.getElem?_eq_some_iff.mp s);have p:=(List.getElem?_eq_some_iff.mp r);obtain⟨XJ,FC⟩:=hi;obtain⟨o,Mz⟩:=p;rw[ZKc]at FC Mz;subst FC;subst Mz;refine⟨_,is i,?_⟩;have go:∀d,Bq f (f (QM g x0 i)) (QM g x0 (i+1+d)):=λd=>by
  induction d with
  |zero=>exact .here (e _ (is i)).1
  |succ d a=>exact .step a (e _ (is (i+1+d))).1
 have:=go (j - i - 1);rw[show i+1+(j - i - 1)=j from by omega,t]at this;exact this
theorem ZIs{ws:List Str}(hw:∀x,Bq f cs x->x∈ws)(h:¬ FJ f cs):∃T,Top f T/\T.Nodup/\(∀y∈T,Bq f cs y)/\∀x,Bq f cs x->x∈T:=by
 have go:∀n,∃T,Top f T/\T.Nodup/\(∀y∈T,Bq f cs y)/\(n<=T.length∨∀x,Bq f cs x->x∈T):=λn=>by
  induction n with
  |zero=>exact⟨[],Top.nil,HN,λ_ h=>absurd h Aa,.inl (B0 _)⟩
  |succ n o=>
   obtain⟨T,b,nd,sub,g⟩:=o
   by_cases c:∀x,Bq f cs x->x∈T
   .exact⟨T,b,nd,sub,.inr c⟩
   have g:n<=T.length:=g.elim id λz=>absurd z c;obtain⟨x0,j⟩:=Classical.not_forall.mp c;obtain⟨l,n0⟩:=Classical.not_imp.mp j;haveI:DecidablePred λx=>Bq f cs x/\x∉T:=λ_=>Classical.propDecidable _;have e:∀x,x∈ws.filter (λx=>decide (Bq f cs x/\x∉T))↔Bq f cs x/\x∉T:=λx=>by
    rw[List.mem_filter,ZA3];exact⟨λh=>h.2,λh=>⟨hw x h.1,h⟩⟩
   by_cases d:∀x∈ws.filter (λx=>decide (Bq f cs x/\x∉T)),∃y,y∈f x/\y∈ws.filter (λx=>decide (Bq f cs x/\x∉T))
   .obtain⟨x,hx,k⟩:=sink ((e x0).mpr ⟨l,n0⟩) d;exact absurd ⟨x,((e x).mp hx).1,k⟩ h
   .obtain⟨x,hx⟩:=Classical.not_forall.mp d;obtain⟨Sr,RC⟩:=Classical.not_imp.mp hx;obtain⟨i,nx⟩:=(e x).mp Sr;refine⟨T++[x],b.snoc λy a=>?_,Ol nd nx,λy a=>?_,.inl (by rw[By,Ir];omega)⟩
    .refine ZKM λm=>RC ⟨y,a,(e y).mpr ⟨.step i a,m⟩⟩
    .rcases List.mem_append.mp a with z|z
     .exact sub y z
     .rw[List.mem_singleton.mp z];exact i
 obtain⟨T,b,nd,sub,g⟩:=go (ws.length+1);refine⟨T,b,nd,sub,g.elim (λz=>?_) id⟩;have:=GY nd (bs:=ws) λy a=>hw y (sub y a);omega
theorem oy{l:List Int}(h:∀z∈l,z<=B):l.sum<=l.length * B:=by
 induction l with
 |nil=>simp
 |cons a l b=>
  have h1:=h a (by simp);have h2:=b λz c=>h z (by simp[c]);rw[Pm,Ck,Int.natCast_add,Int.add_mul];omega
theorem jW{ks:List Kd}(g:KG ks)(r:Str):∀(n:Nat)(x:Str),∀c∈DF ks r n x,c<=7 ^ n
 | 0,x,c,hc=>by
  rw[DF]at hc;obtain⟨_,_,rfl⟩:=List.mem_map.mp hc;decide
 |n+1,x,c,hc=>by
  rw[DF]at hc;unfold J8 at hc;obtain⟨j,_,rfl⟩:=List.mem_map.mp hc;have b:=Yv g r x;have pos:(1:Int)<=7 ^ n:=by
   have:(0:Int)<7 ^ n:=Int.pow_pos (by decide);omega
  have h1:((Aj ks r x).map λy=>(DF ks r n y).getD j 0).sum<=((Aj ks r x).map λy=>(DF ks r n y).getD j 0).length * 7 ^ n:=oy λz a=>by
   obtain⟨y,_,rfl⟩:=List.mem_map.mp a;rw[JU];cases e:(DF ks r n y)[j]? with
   |none=>show(0:Int)<=_;omega
   |some v=>exact jW g r n y v (C7 e)
  rw[AB]at h1;have h2:((Aj ks r x).length:Int) * 7 ^ n<=6 * 7 ^ n:=Int.mul_le_mul_of_nonneg_right (by omega) (by omega);have d:(7:Int) ^ (n+1)=7 * 7 ^ n:=by rw[Int.pow_succ,Int.mul_comm]
  split <;> omega
theorem uF(g:KG ks){x:Str}(h:c∈cnt ks r x):c<=40353607:=by
 have:=jW g r fuel x c h;rw[Xy]at this;exact this
noncomputable def totC(ks:List Kd)(r:Str)(cs:List Str):List Int:=(List.range ks.length).map λj=>(cs.map λc=>(cnt ks r c).getD j 0).sum
noncomputable def aj(ks:List Kd)(r:Str)(cs:List Str):Int:=J4 (0::cs.map (B7 ks r))
def pin(ks:List Kd)(x y:Str):Int:=(((CV ks x).map (·.2)).count y:Nat)
def cX(ks:List Kd)(cs:List Str)(C:List Int)(j:Nat)(w:Str):Int:=(cs.count w:Nat)+(((wk ks).zip C).map λq=>q.2 * pin ks q.1 w).sum - (if Hd ks w=true then C.getD j 0 else 0)
def MD(ks:List Kd)(cs:List Str)(C:List Int):List Int:=(List.range ks.length).map λj=>cX ks cs C j ((wk ks).getD j Str.empty)
def ZBn(A:List Int)(n:Int)(B:List Int):PV:=.tup [.tup (A.map .int),.int n,.tup (B.map .int)]
noncomputable def rh(ks:List Kd)(r:Str)(cs:List Str):PV:=ZBn (totC ks r cs) (aj ks r cs) (MD ks cs (totC ks r cs))
theorem uo(ks:List Kd)(r:Str)(cs:List Str):(totC ks r cs).length=ks.length:=by unfold totC;rw[AB,Ls]
theorem kT(ks:List Kd)(cs:List Str)(C:List Int):(MD ks cs C).length=ks.length:=by unfold MD;rw[AB,Ls]
theorem xo{C:List Int}(h:(wk ks)[j]?=some w):(MD ks cs C)[j]?=some (cX ks cs C j w):=by
 have a:=(List.getElem?_eq_some_iff.mp h).1;rw[AB]at a;unfold MD;rw[Ax,Pj a];show some (cX ks cs C j ((wk ks).getD j Str.empty))=_;rw[JU,h];rfl
theorem ZHi(ks:List Kd)(x y:Str):((((CV ks x).filter λp=>decide (p.2=y)).map BD).length:Int)=pin ks x y:=by
 unfold pin;rw[AB,List.count_eq_countP,List.countP_map,List.countP_eq_length_filter]
 congr 2
theorem ZF2(g:KG ks)(x y:Str):0<=pin ks x y/\pin ks x y<=6:=by
 unfold pin;have h1:=(g.Kb x).1;have h2:((CV ks x).map (·.2)).count y<=((CV ks x).map (·.2)).length:=List.count_le_length
 rw[AB]at h2;omega
noncomputable def kA(ks:List Kd)(w:Str):PV->PV
 | .tup [.str o,.int m]=>.int (m * pin ks o w)
 |_=>.AA
theorem mh(ks:List Kd)(w:Str):∀(W:List Str)(A:List Int),(Ik (W.map .str) (A.map .int)).map (kA ks w)=((W.zip A).map λq=>q.2 * pin ks q.1 w).map PV.int
 | [],_=>by simp[Ik]
 |_::_,[]=>by simp[Ik]
 |a::W,b::A=>by
  have c:=mh ks w W A;unfold Ik at c ⊢;rw[B6,B6,List.zipWith_cons_cons,B6,c,Ko,B6,B6];rfl
theorem ZAN{a b:Int}(h1:0<=a)(h2:a<=10 ^ 15)(d:0<=b)(c:b<=10 ^ 15):L2.p9 a b:=
 ⟨Kq (show a.natAbs<=10 ^ 15 by omega) (by decide+kernel),Kq (show b.natAbs<=10 ^ 15 by omega) (by decide+kernel)⟩
theorem yU(g:KG ks)(d:cs.length<=12)(h:c∈totC ks r cs):0<=c/\c<=10 ^ 12:=by
 unfold totC at h;obtain⟨j,_,rfl⟩:=List.mem_map.mp h;have b:∀z∈cs.map λc=>(cnt ks r c).getD j 0,0<=z/\z<=40353607:=λz d=>by
  obtain⟨y,_,rfl⟩:=List.mem_map.mp d;rw[JU];cases e:(cnt ks r y)[j]? with
  |none=>exact⟨Nf _,by decide⟩
  |some v=>exact⟨ye (C7 e),uF g (C7 e)⟩
 have h1:=oy (B:=40353607) λz d=>(b z d).2;rw[AB]at h1;have h2:∀{l:List Int},(∀z∈l,0<=z)->0<=l.sum:=λ{l}=>by
  induction l with
  |nil=>intro _;exact Nf _
  |cons a l f=>
   intro q;have:=q a (by simp);have:=f λz d=>q z (by simp[d]);rw[Pm];omega
 exact⟨h2 λz d=>(b z d).1,by omega⟩
theorem ZIQ(d:∀c∈cs,0<=B7 ks r c)(h:cs.map (B7 ks r)=[]/\m=0∨m∈cs.map (B7 ks r)/\∀y∈cs.map (B7 ks r),y<=m):m=aj ks r cs:=by
 unfold aj;obtain⟨a,f⟩:=WC (0::cs.map (B7 ks r)) (by simp);rcases h with⟨e,rfl⟩|⟨h1,h2⟩
 .rw[e]at a ⊢;rw[List.mem_singleton.mp a]
 .have g:=f m (E2 _ h1);rcases List.mem_cons.mp a with e|e
  .obtain⟨y,b,rfl⟩:=List.mem_map.mp h1;have:=d y b;omega
  .have:=h2 _ e;omega
def oz(C:Addr):Pre:=λl R=>∃(ks:List Kd)(x y:Str),l=[.is (Az C ks),.is (.str x),.is (.str y)]/\KG ks/\x∈wk ks/\R=.is (λp=>p=.int (pin ks x y))
def oG(C:Addr):Pre:=λl R=>∃(ks:List Kd)(tp:Bool)(cs:List Str)(A:List Int),l=[.is (Az C ks),.sq tp (cs.map .str),.is (.lst (A.map .int))]/\KG ks/\cs.length<=12/\A.length=ks.length/\(∀c∈A,0<=c/\c<=10 ^ 12)/\R=.is (λp=>p=.tup ((MD ks cs A).map .int))
noncomputable def Mt(ks:List Kd)(x pl:Str):List Str:=((CV ks x).filter λp=>decide (p.1=pl)).map (·.2)
def Cw(ks:List Kd)(b:Br):List Br:=(if b.2=0 then[]else(Mt ks b.1 "last").map λy=>(y,b.2 - 1))++(Mt ks b.1 "next").map λy=>(y,b.2)
theorem pU{x:Str}(a:pl∈Mo)(h:y∈Mt ks x pl):y∈Aj ks "ahead" x:=by
 obtain⟨p,TV,rfl⟩:=List.mem_map.mp h;obtain⟨h1,h2⟩:=List.mem_filter.mp TV;refine List.mem_map.mpr ⟨p,?_,rfl⟩;unfold Ct;rw[tK (by decide+kernel)];refine List.mem_filter.mpr ⟨h1,?_⟩;rw[vY h2,uL a,qg]
theorem Tz(g:KG ks)(x pl:Str):(Mt ks x pl).length<=6:=by
 unfold Mt;rw[AB];exact CB (WS _ _) (g.Kb x).1
theorem N1{c:Br}(h:c∈Cw ks b):c.1∈Aj ks "ahead" b.1/\c.2<=b.2:=by
 unfold Cw at h;rcases List.mem_append.mp h with h|h
 .split at h
  .cases h
  .obtain⟨y,a,rfl⟩:=List.mem_map.mp h;exact⟨pU (by decide+kernel) a,Nat.sub_le _ _⟩
 .obtain⟨y,a,rfl⟩:=List.mem_map.mp h;exact⟨pU (by decide+kernel) a,B0 _⟩
theorem kW(g:KG ks)(b:Br):(Cw ks b).length<=12:=by
 unfold Cw;rw[By,AB];have h1:=Tz g b.1 "next"
 have h2:=Tz g b.1 "last";split
 .rw[Sa];omega
 .rw[AB];omega
def KJ(ks:List Kd)(b:Br)(g:Br->Int):Int:=((Cw ks b).map g).sum+if b.2=0 then 1 else 0
def wF(ks:List Kd):Nat->Br->Int
 | 0=>λ_=>0
 |n+1=>λb=>KJ ks b (wF ks n)
theorem gY{g g':Br->Int}(h:∀c∈Cw ks b,g c=g' c):KJ ks b g=KJ ks b g':=by
 unfold KJ;rw[Nh h]
theorem Px{x:Str}(h:Top f T)(hx:T[i]?=some x)(b:y∈f x):∃j,j<i/\T[j]?=some y:=by
 obtain⟨j,c,a⟩:=FO (h i x hx y b);rw[Dj]at c;rw[Pk]at a;exact⟨j,by omega,by rw[As (by omega),a]⟩
theorem ZH7(h:Top (Aj ks "ahead") T):∀(i:Nat)(b:Br),T[i]?=some b.1->∀n m,i<n->i<m->wF ks n b=wF ks m b:=by
 intro i
 induction i using Nat.strongRecOn with
 |_ i a=>
  intro b hx n m g k;cases n with
  |zero=>omega
  |succ n=>cases m with
   |zero=>omega
   |succ m=>
    rw[wF,wF];refine gY λc e=>?_;obtain⟨j,d,f⟩:=Px h hx (N1 e).1;exact a j d c f n m (by omega) (by omega)
noncomputable def wv(ks:List Kd)(b:Br):Int:=wF ks fuel b
theorem Y3(h:Top (Aj ks "ahead") T)(n:T.length<=8)(hx:b.1∈T):wv ks b=KJ ks b (wv ks):=by
 obtain⟨i,hi,e⟩:=FO hx;have g:T[i]?=some b.1:=by rw[As hi,e]
 have l:=Xy;obtain⟨m,a⟩:∃m,m+1=fuel:=⟨8,by omega⟩;have q:wv ks b=wF ks (m+1) b:=by unfold wv;rw[a]
 rw[q,wF];refine gY λc d=>?_;obtain⟨j,k,f⟩:=Px h g (N1 d).1;exact ZH7 h j c f m fuel (by omega) (by omega)
theorem ZBQ(h:Top (Aj ks "ahead") T)(g:T.length<=8):∀(i:Nat)(b:Br),T[i]?=some b.1->i<b.2->wv ks b=0:=by
 intro i
 induction i using Nat.strongRecOn with
 |_ i d=>
  intro b hx hd;rw[Y3 h g (C7 hx)];unfold KJ;rw[tK (by omega),Int.add_zero];have:∀c∈Cw ks b,wv ks c=0:=λc a=>by
   obtain⟨j,f,k⟩:=Px h hx (N1 a).1;refine d j f c k ?_;unfold Cw at a;rcases List.mem_append.mp a with a|a
   .split at a
    .cases a
    .obtain⟨y,e,rfl⟩:=List.mem_map.mp a;show j<b.2 - 1;omega
   .obtain⟨y,e,rfl⟩:=List.mem_map.mp a;show j<b.2;omega
  rw[Nh this]
  induction Cw ks b with
  |nil=>rfl
  |cons c r MF=>rw[B6,Pm];omega
def pick(g:Br->Int):List Br->Int->Option (Br×Int)
 | [],_=>none
 |b::r,n=>if n<g b then some (b,n)else pick g r (n - g b)
theorem fq{g:Br->Int}:∀{bs:List Br}{n:Int},0<=n->n<(bs.map g).sum->∃b m,pick g bs n=some (b,m)/\b∈bs/\0<=m/\m<g b
 | [],n,h0,h1=>by simp at h1;omega
 |b::r,n,h0,h1=>by
  rw[pick]
  by_cases c:n<g b
  .rw[u4 c];exact⟨b,n,rfl,by simp,h0,c⟩
  .rw[tK c];rw[B6,Pm]at h1;obtain⟨e,m,h2,d,a⟩:=fq (g:=g) (bs:=r) (n:=n - g b) (by omega) (by omega);exact⟨e,m,h2,by simp[d],a⟩
noncomputable def Gf(ks:List Kd):Nat->List Br->Int->Str
 | 0=>λ_ _ => ""
 |f+1=>λbs n=>match pick (wv ks) bs n with
  |none => ""
  |some q=>if q.1.2=0 then(if q.2=0 then q.1.1 else Gf ks f (Cw ks q.1) (q.2 - 1))else Gf ks f (Cw ks q.1) q.2
theorem vm{f:Nat}{bs:List Br}{n:Int}(h:pick (wv ks) bs n=some (b,m)):Gf ks (f+1) bs n=if b.2=0 then(if m=0 then b.1 else Gf ks f (Cw ks b) (m - 1))else Gf ks f (Cw ks b) m:=by
 show(match pick (wv ks) bs n with
  |none=>("":Str)
  |some q=>if q.1.2=0 then(if q.2=0 then q.1.1 else Gf ks f (Cw ks q.1) (q.2 - 1))else Gf ks f (Cw ks q.1) q.2)=_
 rw[h]
noncomputable def tot(ks:List Kd)(cs:List Str)(d:Nat):Int:=(cs.map λc=>wv ks (c,d)).sum
noncomputable def J1(ks:List Kd)(cs:List Str):Nat->Nat->Int->Option Str
 | 0=>λ_ _=>none
 |c+1=>λd n=>if n<tot ks cs d then some (Gf ks 9 (cs.map λx=>(x,d)) n)else J1 ks cs c (d+1) (n - tot ks cs d)
theorem UI(ks:List Kd)(cs:List Str)(c d:Nat)(n:Int):J1 ks cs (c+1) d n=if n<tot ks cs d then some (Gf ks 9 (cs.map λx=>(x,d)) n)else J1 ks cs c (d+1) (n - tot ks cs d):=rfl
theorem Xj{ks:List Kd}{cs:List Str}:∀(c e d:Nat)(n:Int),0<=n->(∀d',d+c<=d'->tot ks cs d'=0)->J1 ks cs (c+e) d n=J1 ks cs c d n
 | 0,0,d,n,_,_=>rfl
 | 0,e+1,d,n,h0,h=>by
  rw[rM,UI,h d (by omega),tK (by omega),Int.sub_zero];have:=Xj (ks:=ks) (cs:=cs) 0 e (d+1) n h0 λd' hd=>h d' (by omega);rw[rM]at this;rw[this];rfl
 |c+1,e,d,n,h0,h=>by
  rw[show c+1+e=(c+e)+1 by omega,UI,UI]
  by_cases k:n<tot ks cs d
  .rw[u4 k,u4 k]
  .rw[tK k,tK k];exact Xj c e (d+1) _ (by omega) λd' hd=>h d' (by omega)
theorem vD(h:Top (Aj ks "ahead") T)(f:T.length<=8)(a:∀c∈cs,c∈T)(hd:T.length<=d):tot ks cs d=0:=by
 unfold tot;have:∀c∈cs,wv ks (c,d)=0:=λc b=>by
  obtain⟨i,hi,e⟩:=FO (a c b);exact ZBQ h f i (c,d) (by rw[As hi,e]) (by show i<d;omega)
 rw[Nh this];clear this a
 induction cs with
 |nil=>rfl
 |cons c r MF=>rw[B6,Pm];omega
structure Gh (T:List Str) (M:List Br):Prop where
 nd:M.Nodup
 sub:∀c∈M,c.1∈T/\c.2<=8
theorem fQ:∀{as bs:List Br},as.Nodup->(∀x∈as,x∈bs)->as.length<=bs.length
 | [],_,_,_=>Cf _
 |a::as,bs,nd,h=>by
  obtain⟨h1,h2⟩:=List.nodup_cons.mp nd;have b:=h a Fh;have q:=fQ (bs:=bs.erase a) h2 λx hx=>(rD (λe:x=a=>h1 (by rw[<- e];exact hx))).mpr (h x (E2 _ hx));have e:=r8 b;have p:=r9 b;simp only[Ck];omega
theorem Gh.len(h:Gh T M)(f:T.length<=8):M.length<=72:=by
 have a:∀c∈M,c∈(T.flatMap λx=>(List.range 9).map λd=>((x,d):Br)):=λc e=>by
  obtain⟨h1,h2⟩:=h.sub c e;exact List.mem_flatMap.mpr ⟨c.1,h1,List.mem_map.mpr ⟨c.2,List.mem_range.mpr (by omega),rfl⟩⟩
 have h1:=fQ h.nd a;have h2:(T.flatMap λx=>(List.range 9).map λd=>((x,d):Br)).length=T.length * 9:=by
  clear h a h1 f
  induction T with
  |nil=>rfl
  |cons x r b=>rw[List.flatMap_cons,By,b,AB,Ls,Ck];omega
 omega
def OS(C:Addr):Pre:=λl R=>∃(ks:List Kd)(b:Br),l=[.is (Az C ks),.is (CH b)]/\KG ks/\b.1∈wk ks/\R=.new λxs=>xs=(Cw ks b).map CH
def Je(C:Addr)(n:Nat):Pre:=λl R=>∃(ks:List Kd)(b:Br)(T:List Str)(i:Nat)(M:List Br)(a:Addr),l=[.is (Az C ks),.is (CH b),.ow true (C3 (wv ks) a M)]/\KG ks/\Top (Aj ks "ahead") T/\T.Nodup/\(∀y∈T,y∈wk ks)/\(T[i]?=some b.1/\i<n/\b.2<=8)/\Gh T M/\
 R=.mt λp t'=>p=.int (wv ks b)/\∃M',t'=C3 (wv ks) a M'/\Gh T M'/\(∀c∈M,c∈M')/\∀c∈M',c∈M∨∃j,T[j]?=some c.1/\j<=i
theorem eQ:∀ss R,¬ Je C 0 ss R:=by
 rintro ss R⟨ks,b,T,i,M,a,_,_,_,_,_,⟨_,h,_⟩,_⟩;omega
def N5(C:Addr)(n:Nat):Pre:=λl R=>∃(ks:List Kd)(bs:List Br)(m:Int)(T:List Str)(M:List Br)(a:Addr),l=[.is (Az C ks),.is (.lst (bs.map CH)),.is (.int m),.ow true (C3 (wv ks) a M)]/\KG ks/\Top (Aj ks "ahead") T/\T.Nodup/\(∀y∈T,y∈wk ks)/\(bs.length<=12/\∀b∈bs,(∃i,T[i]?=some b.1/\i<n)/\b.2<=8)/\(0<=m/\m<(bs.map (wv ks)).sum)/\Gh T M/\
 R=.mt λp t'=>p=.str (Gf ks n bs m)/\∃M',t'=C3 (wv ks) a M'/\Gh T M'
theorem nO:∀ss R,¬ N5 C 0 ss R:=by
 rintro ss R⟨ks,bs,m,T,M,a,_,_,_,_,_,⟨_,h⟩,⟨d,h1⟩,_⟩;obtain⟨b,_,_,c,_⟩:=fq d h1;obtain⟨⟨_,_,z⟩,_⟩:=h b c;omega
section
variable[Xw]{K:ZLZ}{k:PV->Prop}
theorem Xt(h:ss[j]?=some (.is (CH b)))(hk:k (.str b.1)):Wp ss (Ba (D4 K) (Al j) (tC (.int 0))) k:=BV (Bc h ⟨rfl,AH ⟨_,_,rfl,rfl,hk⟩⟩)
theorem Pz(h:ss[j]?=some (.is (CH b)))(hk:k (.int (b.2:Int))):Wp ss (Ba (D4 K) (Al j) (tC (.int 1))) k:=BV (Bc h ⟨rfl,AH ⟨_,_,rfl,rfl,hk⟩⟩)
theorem oV(h:ss[j]?=some (.is (BD p)))(hk:k (.str p.1)):Wp ss (Ba (D4 K) (Al j) (tC (.int 0))) k:=BV (Bc h ⟨rfl,AH ⟨_,_,rfl,rfl,hk⟩⟩)
theorem jf(h:ss[j]?=some (.is (BD p)))(hk:k (.str p.2)):Wp ss (Ba (D4 K) (Al j) (tC (.int 1))) k:=BV (Bc h ⟨rfl,AH ⟨_,_,rfl,rfl,hk⟩⟩)
end
theorem bc(c:alike (.int (n:Int)) (.int 0)=true):n=0:=by
 have:(n:Int)=0:=vY c;omega
theorem jC(x y:Str):alike (.str x) (.str y)=decide (x=y):=rfl
theorem gF{x:Str}(d:Nat):((CV ks x).filter λp=>decide (p.1=pl)).map (λp=>CH (p.2,d))=((Mt ks x pl).map λy=>((y,d):Br)).map CH:=by
 unfold Mt;rw[Cm,Cm];rfl
def Ja(ks:List Kd)(r:Str)(cs T:List Str):Prop:=Top (Aj ks r) T/\T.Nodup/\(∀y∈T,y∈wk ks)/\∀c∈cs,c∈T
def Wy(C EN:Addr):EZ:=λl R D=>∃(ks:List Kd)(tp:Bool)(cs:List Str)(r:Str),l=[.is (Az C ks),.sq tp (cs.map .str),.is (.str r)]/\KG ks/\r∈Bn/\cs.length<=12/\(∀c∈cs,c∈wk ks)/\R=.is (λp=>p=.AA/\∃T,Ja ks r cs T)/\D=λe=>FJ (Aj ks r) cs/\e=⟨EN,[],[]⟩
theorem Ja.len(h:Ja ks r cs T):T.length<=ks.length:=by
 have:=GY h.2.1 h.2.2.1;rw[AB]at this;exact this
theorem Ja.l8(g:KG ks)(h:Ja ks r cs T):T.length<=8:=CB h.len g.l8
theorem Ja.Mp(h:Ja ks r cs T):¬ FJ (Aj ks r) cs:=zf h.1 h.2.1 h.2.2.2
theorem pJ(g:KG ks)(h:Ja ks "ahead" cs T){n:Int}(a:0<=n):J1 ks cs ks.length 0 n=J1 ks cs 9 0 n:=by
 have l8:=g.l8;have:=Xj (ks:=ks) (cs:=cs) ks.length (9 - ks.length) 0 n a λd' hd=>vD h.1 (h.l8 g) h.2.2.2 (by have:=h.len;omega);rw[show ks.length+(9 - ks.length)=9 by omega]at this;exact this.symm
def Qn(NN:Addr):EZ:=λl R D=>∃(ws:List Str)(d:PV)(x:Str),l=[.is d,.is (.str x)]/\(d=.lst (ws.map .str)∨∃xs,d=.BJ (Bj ws) xs)/\ws.length<=1000/\GI x/\R=.is (λp=>p=.AA/\x∈ws)/\D=λe=>x∉ws/\e=⟨NN,["name"],[.str x]⟩
end Fz
namespace L2
section
variable{X:Cx}
def mP(K:ZLZ):R2:=λx y H Q=>∃p q ys,x=.ref p/\y=.ref q/\AU K H p []/\AU K H q ys/\∀b,Q (.bl b) H
theorem xO(V0:X.A.units+1<cLine):BX X (compareOp .Eq) (mP X.K):=by
 have a:X.A.units<cLine:=Nat.lt_of_succ_lt V0;intro Zd s O H x y v u Q I d c h;obtain⟨p,q,ys,rfl,rfl,i,g,b⟩:=h;cases d;cases c;obtain⟨A5,f,p1,l⟩:=I.list i;obtain⟨Cu,m,p2,k⟩:=I.list g;have l1:0=A5.length:=f.length
 by_cases n:0=Cu.length
 .exact SeqAt.eq_listAt (e:=λ_=>true) p1.isList p2.isList (by simp;omega) a (λj h1 _=>absurd h1 (by simp;omega)) ⟨.bl _,H,I,rfl,b _⟩
 .exact ZL1 p1.isList p2.isList (by simp;omega) a ⟨.bl false,H,I,rfl,b _⟩
end
end L2
namespace Fz
open L2 Lw
variable{ss:List Slot}{ks:List Kd}{cs:List Str}{i n w:Nat}{c r x:Str}{EN NN NR TM:Addr}{e:Ex}{q:Nat×Str}{α:Type}
section
variable[Xw]
variable{K:ZLZ}{te:TE}{k:PV->Prop}
theorem ZEo{ta tb:TE}(h:Wq ss ta λtp xs=>tp=false/\xs=[]/\Wq ss tb λFL _=>FL=false/\∀b,k (.bl b)):Wp ss (Ba (mP K) ta tb) k:=⟨λE O F H Q S q=>
 h.go E O F H _ S λv tp xs F1 H1 c sv AO=>by
  obtain⟨e,ex,h2⟩:=AO;subst e;subst ex;exact h2.go E O F1 H1 _ c.st λg FL ys F2 H2 a Nb Eh=>by
   obtain⟨f,kk⟩:=Eh;subst f;obtain⟨l,vs,rfl,d,r⟩:=(sv.mv a).seq a.st;obtain⟨l2,EY,rfl,EA,i⟩:=Nb.seq a.st;have e0:vs=[]:=List.length_eq_zero_iff.mp r.length;subst e0;exact⟨l,l2,_,rfl,rfl,AU.of d,AU.of EA,λb=>q _ _ F2 H2 (c.trans a) (.bl _) (kk b)⟩⟩
end
def Nu(ks:List Kd)(cs:List Str):Option Str:=cs.find? λc=>!decide (c∈wk ks)
def JP(ks:List Kd)(cs:List Str):Option (Nat×Str):=if 12<cs.length then some (10, "")else match Nu ks cs with
 |some w=>some (0,w)
 |none=>none
open Classical in
noncomputable def Bb(w:Nat)(ks:List Kd)(cs:List Str)(r:Str):Option (Nat×Str):=if w<4/\r∉Bn then some (4,r)else match JP ks cs with
 |some q=>some q
 |none=>if(w=4/\FJ (Aj ks "ahead") cs)∨(w=3/\FJ (Aj ks r) cs)then some (13, "")else none
noncomputable def ES(NR TM NN EN:Addr)(q:Nat×Str):Ex:=if q.1=4 then⟨NR,["rule"],[.str q.2]⟩else if q.1=10 then⟨TM,[],[]⟩else if q.1=0 then⟨NN,["name"],[.str q.2]⟩else⟨EN,[],[]⟩
def Ij(NR TM NN EN:Addr)(o:Option (Nat×Str)):Ex->Prop:=λe=>∃q,o=some q/\e=ES NR TM NN EN q
theorem ZIN(h:∀c∈cs,c∈wk ks):Nu ks cs=none:=by
 unfold Nu;rw[List.find?_eq_none];intro c a;rw[uL (h c a)];decide
theorem lx(hi:cs[i]?=some c)(h:∀x∈cs.take i,x∈wk ks)(b:c∉wk ks):Nu ks cs=some c:=by
 have a:=(List.getElem?_eq_some_iff.mp hi).1;unfold Nu;rw[List.find?_eq_some_iff_append];refine⟨by rw[vc b];rfl,cs.take i,cs.drop (i+1),?_,λx hx=>by rw[uL (h x hx)];rfl⟩;have e:=(List.getElem?_eq_some_iff.mp hi).2;rw[<- e,<- dq a,rH]
theorem b6(h1:cs.length<=12)(h2:∀c∈cs,c∈wk ks):JP ks cs=none:=by
 unfold JP;rw[tK (by omega),ZIN h2]
def O5(C TM NN:Addr):EZ:=λl R D=>∃(ks:List Kd)(tp:Bool)(cs:List Str),l=[.is (Az C ks),.sq tp (cs.map .str)]/\KG ks/\cs.length<=40/\(∀c∈cs,GI c)/\R=.is (λp=>p=.AA/\cs.length<=12/\∀c∈cs,c∈wk ks)/\D=λe=>∃q,JP ks cs=some q/\e=ES 0 TM NN 0 q/\(q.1=10∨q.1=0)
theorem Vv(hw:w<4)(h:e=oX NR r/\RS r=false):Ij NR TM NN EN (Bb w ks cs r) e:=by
 have a:r∉Bn:=λz=>by
  have:=h.2;rw[show RS r=decide (r∈Bn)from rfl,uL z]at this;cases this
 refine⟨(4,r),?_,h.1⟩;unfold Bb;rw[u4 ⟨hw,a⟩]
theorem Qo(a:w<4->r∈Bn)(h:∃q,JP ks cs=some q/\e=ES 0 TM NN 0 q/\(q.1=10∨q.1=0)):Ij NR TM NN EN (Bb w ks cs r) e:=by
 obtain⟨q,h1,h2,b⟩:=h;refine⟨q,?_,?_⟩
 .unfold Bb;rw[tK λz=>z.2 (a z.1),h1]
 .rw[h2];unfold ES;rcases b with h|h <;> rw[h] <;> rfl
theorem ij(a:w<4->r∈Bn)(h1:cs.length<=12)(h2:∀c∈cs,c∈wk ks)(hw:(w=4/\FJ (Aj ks "ahead") cs)∨(w=3/\FJ (Aj ks r) cs))(h:e=⟨EN,[],[]⟩):Ij NR TM NN EN (Bb w ks cs r) e:=by
 refine⟨(13, ""),?_,h⟩;unfold Bb;rw[tK λz=>z.2 (a z.1),b6 h1 h2];exact u4 hw
theorem Oq(a:w<4->r∈Bn)(h1:cs.length<=12)(h2:∀c∈cs,c∈wk ks)(hw:¬ ((w=4/\FJ (Aj ks "ahead") cs)∨(w=3/\FJ (Aj ks r) cs))):Bb w ks cs r=none:=by
 unfold Bb;rw[tK λz=>z.2 (a z.1),b6 h1 h2];exact tK hw
def Jc(ks:List Kd)(cs:List Str)(r:Str):Prop:=KG ks/\cs.length<=40/\(∀c∈cs,GI c)/\GI r
def L6(w:Nat)(ks:List Kd)(cs:List Str)(r:Str)(R R1:Ag):Prop:=(Bb w ks cs r=none/\R=R1)∨(Bb w ks cs r≠none/\R=.is λ_=>False)
theorem L6.go{w:Nat}{ks:List Kd}{cs:List Str}{r:Str}{R R1:Ag}(h:L6 w ks cs r R R1)(a:Bb w ks cs r=none):R=R1:=(h.resolve_right λz=>z.1 a).2
def pS(C NR TM NN EN:Addr):EZ:=λl R D=>∃(ks:List Kd)(tp:Bool)(cs:List Str)(r:Str)(m:Nat),l=[.is (Az C ks),.is (NS tp (cs.map .str)),.is (.str r),.is (.int m)]/\Jc ks cs r/\m<=400/\D=Ij NR TM NN EN (Bb 0 ks cs r)/\L6 0 ks cs r R (.ow λu=>∃l1 l2,u=ZHV l1 l2 (JB ks m (OT r cs)))
def mX(C NR TM NN EN:Addr):EZ:=λl R D=>∃(ks:List Kd)(tp:Bool)(cs:List Str)(r:Str),l=[.is (Az C ks),.sq tp (cs.map .str),.is (.str r)]/\Jc ks cs r/\D=Ij NR TM NN EN (Bb 1 ks cs r)/\L6 1 ks cs r R (.ow (ZHT ks r cs))
def ou(C NR TM NN EN:Addr):EZ:=λl R D=>∃(ks:List Kd)(cs:List Str)(r:Str),l=[.is (Az C ks),.sq false (cs.map .str),.is (.str r),.is (.tup [.str "ends",.lst []])]/\Jc ks cs r/\D=Ij NR TM NN EN (Bb 2 ks cs r)/\L6 2 ks cs r R (.is λp=>∃b:Bool,p=.bl b)
def kJ(C NR TM NN EN:Addr):EZ:=λl R D=>∃(ks:List Kd)(tp:Bool)(cs:List Str)(r:Str),l=[.is (Az C ks),.sq tp (cs.map .str),.is (.str r)]/\Jc ks cs r/\D=Ij NR TM NN EN (Bb 3 ks cs r)/\L6 3 ks cs r R (.is λp=>p=rh ks r cs)
def qT(C NR TM NN EN:Addr):EZ:=λl R D=>∃(ks:List Kd)(tp:Bool)(cs:List Str)(r:Str)(m:Int),l=[.is (Az C ks),.sq tp (cs.map .str),.is (.int m)]/\Jc ks cs r/\0<=m/\D=Ij NR TM NN EN (Bb 4 ks cs r)/\L6 4 ks cs r R (.is λp=>(∃T,Ja ks "ahead" cs T)/\p=ZCm (J1 ks cs 9 0 m))
theorem KG.say(g:KG ks):∀w∈wk ks,GI w:=λw hw=>by
 obtain⟨k,hk,rfl⟩:=List.mem_map.mp hw;exact ZIT (g.nm k hk)
def oR:Pre:=λl R=>∃(ws:List Str)(ps:List (Str×Str)),l=[.is (.lst (ws.map .str)),.is (.lst (ps.map BD))]/\ws.length<=1000/\(∀p∈ps,p.1∈WH/\p.2∈ws)/\(∀w∈ws,GI w)/\R=.is (λp=>p=.AA)
noncomputable def Rr:Option (Nat×Str)->PV
 |none=>.AA
 |some q=>.tup [.int q.1,.str q.2]
def lP(NR TM NN EN:Addr):Option (Nat×Str)->PV
 |none=>.AA
 |some q=>.exc (ES NR TM NN EN q).C (ES NR TM NN EN q).ns (ES NR TM NN EN q).xs
def kY:Pre:=λl R=>∃(ks:List Kd),l=[.AY,.is (.lst (ks.map Kd.P))]/\KG ks/\R=.is λp=>∃(cs:List Str)(r:Str),p=.tup [.lst (cs.map .str),.str r]/\Jc ks cs r
def gu:Pre:=λl R=>∃(w:Nat)(ks:List Kd)(cs:List Str)(r:Str),l=[.is (.int w),.is (.lst (ks.map Kd.P)),.is (.lst (cs.map .str)),.is (.str r)]/\w<=4/\Jc ks cs r/\R=.is λp=>p=Rr (Bb w ks cs r)
def jt(C NR TM NN EN:Addr):EZ:=λl R D=>∃(w:Nat)(ks:List Kd)(cs:List Str)(r:Str),l=[.is (.int w),.is (Az C ks),.is (.lst (cs.map .str)),.is (.str r)]/\w<=4/\Jc ks cs r/\R=.is (λp=>p=.AA/\Bb w ks cs r=none)/\D=Ij NR TM NN EN (Bb w ks cs r)
def nR(C NR TM NN EN:Addr):Pre:=λl R=>∃(w:Nat)(ks:List Kd)(cs:List Str)(r:Str),l=[.is (.int w),.is (Az C ks),.is (.lst (cs.map .str)),.is (.str r)]/\w<=4/\Jc ks cs r/\R=.is λp=>p=lP NR TM NN EN (Bb w ks cs r)
def Rk(q:Nat×Str):Prop:=q.1=4∨q.1=0∨((q.1=10∨q.1=13)/\q.2="")
def pL(NR TM NN EN:Addr):Pre:=λl R=>∃q:Nat×Str,l=[.is (lP NR TM NN EN (some q)),.is (.int q.1)]/\Rk q/\R=.is λp=>p=.str q.2
theorem lZ(h:Bb w ks cs r=some q):Rk q:=by
 unfold Bb at h;split at h
 .cases h;exact .inl rfl
 .split at h
  .next q' e=>
   cases h;unfold JP at e;split at e
   .cases e;exact .inr (.inr ⟨.inl rfl,rfl⟩)
   .split at e
    .cases e;exact .inr (.inl rfl)
    .cases e
  .split at h
   .cases h;exact .inr (.inr ⟨.inr rfl,rfl⟩)
   .cases h
theorem RP[Xw]{pre:EZ}{t:TA}{nx:List Slot->Prop}{R0:Ag}(h:Wa ss t λl=>∃R D,pre l R D/\Xw.J ss/\(∀x,D x->Xw.D x)/\((∃E F H v,R.ok E F H v)->nx ss)):Ws ss (HA (Rj (Bx pre) Xw.e t)) nx R0:=⟨λE D O F H S i m=>
 h.go E O F H _ S λvs l F1 H1 b a⟨R,DD,g,j,k,kk⟩=>by
  refine⟨l,R,DD,F1,[],g,b.st.MG a,λv F' H' f ok=>?_,λx C dx F' H' f d B1=>?_⟩
  .have c:=b.st.back (λ_ h=>absurd h Aa) f;exact i ss O F' H' (kk ⟨_,_,_,_,ok⟩) c.st (b.ff.trans c.ff)
  .exact E.hx ss O F' H' x C dx j (b.st.back (λ_ h=>absurd h Aa) f).st (k x d) B1⟩
theorem pP(h:x∈([("":Str), "zz","abcdefghi","Dog"]:List Str)∨x∈([("":Str), "None","behind","al"]:List Str)):GI x:=by
 simp only[GR,Aa,ZA5]at h;rcases h with(rfl|rfl|rfl|rfl)|(rfl|rfl|rfl|rfl) <;> exact⟨by decide+kernel,by decide+kernel⟩
theorem iY(p:PV):∀n:Nat,(List.replicate n [p]).flatten=List.replicate n p
 | 0=>rfl
 |n+1=>by rw[Nj,Ph,iY p n];rfl
theorem ly(a b c d:Str){t:Int}(e:0<=t)(h:t<4):∃x∈[a,b,c,d],L2.C5 [PV.str a,.str b,.str c,.str d] t=some (.str x):=by
 rcases(show t=0∨t=1∨t=2∨t=3 by omega)with rfl|rfl|rfl|rfl
 .exact⟨a,by simp,rfl⟩
 .exact⟨b,by simp,rfl⟩
 .exact⟨c,by simp,rfl⟩
 .exact⟨d,by simp,rfl⟩
theorem cq(xs:List α){n:Int}(h:0<=n):(Dw xs none (some n)).length<=n.toNat:=by
 unfold Dw;rw[Dj];refine CB (Nat.min_le_left _ _) ?_;show HT.DW xs.length xs.length (some n) - 0<=_;simp only[HT.DW];split <;> omega
theorem Ro(w:Nat)(ks:List Kd)(cs:List Str)(r:Str)(R1:Ag):∃R,L6 w ks cs r R R1/\((∃E F H v,R.ok E F H v)->Bb w ks cs r=none):=by
 by_cases a:Bb w ks cs r=none
 .exact⟨R1,.inl ⟨a,rfl⟩,λ_=>a⟩
 .exact⟨.is λ_=>False,.inr ⟨a,rfl⟩,λ⟨_,_,_,_,z⟩=>by obtain⟨_,_,z⟩:=z;exact z.elim⟩
theorem um(a:¬ (w<4/\r∉Bn))(h:12<cs.length):Bb w ks cs r=some (10,("":Str)):=by
 unfold Bb JP;rw[tK a,u4 h]
theorem zx(b:¬ (w<4/\r∉Bn))(h:cs.length<=12)(a:Nu ks cs=some c):Bb w ks cs r=some (0,c):=by
 unfold Bb JP;rw[tK b,tK (by omega),a]
theorem ZGa(a:¬ (w<4/\r∉Bn))(h1:cs.length<=12)(h2:∀c∈cs,c∈wk ks)(hw:(w=4/\FJ (Aj ks "ahead") cs)∨(w=3/\FJ (Aj ks r) cs)):Bb w ks cs r=some (13,("":Str)):=by
 unfold Bb;rw[tK a,b6 h1 h2];exact u4 hw
theorem nj{m:Nat}(h:alike (.int (n:Int)) (.int (m:Int))=true):n=m:=by
 exact Int.ofNat.inj (vY h)
theorem ZD9(xs:List α)(h:n<=xs.length+1):(Dw xs (some (n:Int)) none).length<=xs.length - (n - 1):=by
 unfold Dw;rw[HT.XZ,HT.bM,Dj,SY];omega
theorem ZCD(h:Rk q):q.1<=13:=by
 rcases h with h|h|⟨h|h,_⟩ <;> omega
end Fz
set_option maxHeartbeats 8000000
namespace Pf
open L2 Lw
variable{w:World}{mg:ZLb}{Zp h:Heap}{A3 AD AK AS AZ Ac Bk C DC DH DI DJ DK DM DN DP DQ DR DT DU Gy LB Le S Td Uv f:Addr}{ZCZ ZFF fd:FuncData}{α:Type}{Xi Yh Z1 aL bO:Tok}{ZCa ZHH n zi:Nat}{l:PySem.W.OpenLaw}{ZGC uC uK:Option Addr}{ZIE ZKA uD:Array (Option Value)}
abbrev St:=L2.St
noncomputable def top(i:Nat):Stmt:=PySem.Challenge.pw_stirround_k74_crowds_and_rules_refused.main.body.getD i (.Pass ⟨0,0,0,0⟩)
abbrev XS:Stmt:=Hx (top 34) 1
abbrev de:Stmt:=top 67
abbrev dC:Stmt:=top 68
abbrev bN:Stmt:=top 69
abbrev bf:Stmt:=top 70
abbrev Xn:Stmt:=top 72
abbrev X7:Stmt:=top 39
abbrev Xv:Stmt:=top 38
abbrev VE:Stmt:=top 21
abbrev WE:Stmt:=top 37
abbrev bj:Stmt:=Hx (top 34) 0
abbrev Vg:Stmt:=top 78
abbrev Xf:Stmt:=top 66
abbrev VR:Stmt:=top 73
abbrev YU:Stmt:=top 74
abbrev cu:Stmt:=top 83
abbrev Rq:Stmt:=top 75
abbrev c7:Stmt:=top 76
abbrev Y6:Stmt:=top 77
abbrev WN:Stmt:=top 79
abbrev VB:Stmt:=Hx (top 36) 0
abbrev bS:Stmt:=Hx (top 36) 1
abbrev Z5:Stmt:=Hx (top 36) 2
abbrev ZF:Stmt:=top 23
abbrev Z6:Stmt:=top 28
abbrev YL:Stmt:=Hx (top 36) 5
abbrev YZ:Stmt:=Hx (top 36) 4
abbrev Xh:Stmt:=top 24
abbrev aQ:Stmt:=Hx (top 36) 6
abbrev Zf:Stmt:=Hx (top 36) 3
abbrev XH:Stmt:=Hx (top 34) 2
abbrev bZ:Stmt:=Hx (top 34) 3
abbrev bL:Stmt:=top 27
abbrev Zz:Stmt:=top 40
abbrev aH:Stmt:=top 35
abbrev UA:Stmt:=top 48
abbrev UR:Stmt:=top 50
abbrev ZE:Stmt:=top 49
abbrev Tb:Stmt:=top 58
abbrev ZV:Stmt:=top 59
abbrev PX:Stmt:=top 57
abbrev aV:Stmt:=top 56
abbrev Sk:Stmt:=top 55
abbrev bb:Stmt:=top 43
abbrev XR:Stmt:=top 44
abbrev Xc:Stmt:=top 47
abbrev U1:Stmt:=top 61
abbrev V9:Stmt:=top 60
abbrev Nt:Stmt:=top 45
abbrev Ry:Stmt:=top 63
abbrev Qr:Stmt:=top 62
abbrev VC:Stmt:=top 64
abbrev QK:Stmt:=top 46
abbrev cz:Stmt:=top 80
abbrev Yb:Stmt:=top 81
abbrev aN:Stmt:=top 71
abbrev YR:Stmt:=top 82
abbrev Mj:Stmt:=top 84
variable{P:Program}{K:ZLZ}
def oZ{us:List α}(h:us.length=1):∃a,us=[a]:=by
 rcases us with _|⟨a,_|⟨b,us⟩⟩
 .cases h
 .exact⟨a,rfl⟩
 .cases h
def ln2{us:List α}(h:us.length=2):∃a b,us=[a,b]:=by
 rcases us with _|⟨a,us⟩
 .cases h
 .obtain⟨b,rfl⟩:=oZ (Po h);exact⟨a,b,rfl⟩
def ji{us:List α}(h:us.length=3):∃a b c,us=[a,b,c]:=by
 rcases us with _|⟨a,us⟩
 .cases h
 .obtain⟨b,c,rfl⟩:=ln2 (Po h);exact⟨a,b,c,rfl⟩
def ie{us:List α}(h:us.length=4):∃a b c d,us=[a,b,c,d]:=by
 rcases us with _|⟨a,us⟩
 .cases h
 .obtain⟨b,c,d,rfl⟩:=ji (Po h);exact⟨a,b,c,d,rfl⟩
def m9{us:List α}(h:us.length=5):∃a b c d e,us=[a,b,c,d,e]:=by
 rcases us with _|⟨a,us⟩
 .cases h
 .obtain⟨b,c,d,e,rfl⟩:=ie (Po h);exact⟨a,b,c,d,e,rfl⟩
def vw{us:List α}(h:us.length=6):∃a b c d e f,us=[a,b,c,d,e,f]:=by
 rcases us with _|⟨a,us⟩
 .cases h
 .obtain⟨b,c,d,e,f,rfl⟩:=m9 (Po h);exact⟨a,b,c,d,e,f,rfl⟩
local macro_rules | `(tactic| walk_at "bD1")=>`(tactic| (intro _ _ _ _ _ _ us hl;obtain⟨_,e⟩:=oZ hl;subst e;rfl))
local macro_rules | `(tactic| walk_at "bD2")=>`(tactic| (intro _ _ _ _ _ _ us hl;obtain⟨_,_,e⟩:=ln2 hl;subst e;rfl))
local macro_rules | `(tactic| walk_at "bD3")=>`(tactic| (intro _ _ _ _ _ _ us hl;obtain⟨_,_,_,e⟩:=ji hl;subst e;rfl))
local macro_rules | `(tactic| walk_at "bD4")=>`(tactic| (intro _ _ _ _ _ _ us hl;obtain⟨_,_,_,_,e⟩:=ie hl;subst e;rfl))
local macro_rules | `(tactic| walk_at "bD5")=>`(tactic| (intro _ _ _ _ _ _ us hl;obtain⟨_,_,_,_,_,e⟩:=m9 hl;subst e;rfl))
local macro_rules | `(tactic| walk_at "bD6")=>`(tactic| (intro _ _ _ _ _ _ us hl;obtain⟨_,_,_,_,_,_,e⟩:=vw hl;subst e;rfl))
abbrev nS(K:ZLZ)(x:Str)(v:Value):Prop:=PySem.W.nsIn K mainGlobals x=some (some v)
abbrev nN(K:ZLZ)(x:Str):Prop:=PySem.W.nsIn K mainGlobals x=some none
abbrev aO:Stmt:=ib (top 2)
local macro_rules | `(tactic| walk_at "z1")=>`(tactic| exact⟨rfl,rfl,rfl,by decide+kernel,rfl,by decide+kernel,by decide+kernel⟩)
local macro_rules | `(tactic| walk_at "z2")=>`(tactic| exact⟨rfl,by decide+kernel,by decide+kernel,rfl,rfl,by decide+kernel,by decide+kernel,by decide+kernel,by decide+kernel⟩)
def ZDM:Au ["self","name"] ["self","name"] (AL aO):=by walk_at "z1"
def ZBf(F:AG K "__init__" "NoName.__init__" aO f fd)(d:Binds K fd ["self","name"] [])(c:Nr K C f "name")(a:aF K S)(b:mg "StirError"=some (.ref S)):QN P w K mg Zp C "name" := by
 refine⟨f,fd, "name", c,F.ok (k:=0) ZDM j4 (λAf A outer s H vs Q E e h=>?_),d⟩;refine⟨_,?_,pO (N:=["self","name"]) rfl h⟩;exact QJ (Zk (iC (S:=S) a (by rfl) b c.ex (RA (pv 0) (RA (fV (pv 1) (by decide)) ZT)))) (QJ (kX c (pv 0) (pv 1) rfl) d9)
abbrev XB:Stmt:=ib (top 6)
def ZH9:Au ["self","rule"] ["self","rule"] (AL XB):=by walk_at "z1"
def vV(F:AG K "__init__" "NoRule.__init__" XB f fd)(d:Binds K fd ["self","rule"] [])(c:Nr K C f "rule")(a:aF K S)(b:mg "StirError"=some (.ref S)):QN P w K mg Zp C "rule" := by
 refine⟨f,fd, "rule", c,F.ok (k:=0) ZH9 j4 (λAf A outer s H vs Q E e h=>?_),d⟩;refine⟨_,?_,pO (N:=["self","rule"]) rfl h⟩;exact QJ (Zk (iC (S:=S) a (by rfl) b c.ex (RA (pv 0) (RA (fV (pv 1) (by decide)) ZT)))) (QJ (kX c (pv 0) (pv 1) rfl) d9)
open Fz
def ZWM(t:String):Lean.MacroM (Lean.TSyntax `tactic):=do
 let g:Lean.TSyntax `tactic←`(tactic| fail)
 let k←`(tactic| case wk=>rfl)
 let n (s:String):=`(tactic| walk_at $(Lean.quote s):str)
 (t.splitOn " ").foldrM (λs r=>do
  let l:=((s.drop 1).toString.splitOn "/").map λx=>Lean.mkIdent (`Fz++x.toName)
  let h:Lean.Ident:=l.getLast!
  let c:=s.front
  let w:=(h.getId.getString!.toLower.replace "o" "e").replace "i" "e"
  let z←if c=='j' then `($h ?wj ?wk ?_)else if c=='k'||c=='K' then `($h ?wk ?_)else `($h ?_)
  let z←l.dropLast.foldrM (λ(f:Lean.Ident)(z:Lean.Term)=>`($f ($z))) z
  let p←if c=='e' then `(tactic| show ∃_,_=$h _/\_)else if c=='s' then `(tactic| show $h _ _ _)else `(tactic| refine' $z)
  let p←if c=='K'||c=='R'||c=='j' then pure p else `(tactic| with_reducible $p:tactic)
  let q←if c=='e' then `(tactic| refine⟨_,rfl,?_⟩)else if c=='s' then n w else if c=='n' then n "wn" else if c=='p' then n "wp" else if c=='k'||c=='K' then pure k else if c=='j' then `(tactic| ((case wj=>rfl);$k:tactic))else `(tactic| skip)
  `(tactic| first|($p:tactic;$q:tactic) | $r:tactic)) g
local macro_rules | `(tactic| walk_at "wp")=>ZWM "kLC/Ql/C8 kLC/Rf/C8 kLC/Ql/Ql/C8 kLC/Rf/Rf/C8 kLC/Rf/Ql/C8 kA1 rAH rCJ rKk rDZ rYF rGi rO4 rBF rjX rVG rpA riP roh rlV kvg rLO rKD rBV rTj rUi rDg reZ rZw kKe rXs rZIf KtV KvX KRU"
local macro_rules | `(tactic| walk_at "wn")=>ZWM "rKg rMy rNL KRL"
local macro_rules | `(tactic| walk_at "wq")=>do
 let z←ZWM "kPJ/C8 kPJ/Ql/C8 kPJ/Rf/C8 kKc kFA kCz kBc"
 `(tactic| first | $z:tactic|(refine Bd (BL ?_);walk_at "wn")|(refine Bd ?_;walk_at "wp"))
local macro_rules | `(tactic| walk_at "wz")=>`(tactic| first
 | ((with_reducible refine' WG ?wk ?_);(case wk=>rfl))
 | (refine CS (BL ?_);walk_at "wn")
 | (refine CS ?_;walk_at "wp"))
local macro_rules | `(tactic| walk_at "wt")=>ZWM "rAd rGF rFq rUY rFl rLg"
local macro_rules | `(tactic| walk_at "we")=>ZWM "rBG rCb rNp rP7 rlp rZC0 rD0"
local macro_rules | `(tactic| walk_at "w")=>do
 let z←ZWM "rAE rBg rAp rAn kVr kp7 knY nG3 pDc kZc nJi pCD"
 let z1←ZWM "eOV.tp eOV.fz"
 let z2←ZWM "sWn sWq sWz sWt sWe sWo sWi"
 let z3←ZWM "ePV.int ePV.str ePV.bl"
 `(tactic| first | $z1:tactic|((with_reducible show ∃_ _,_=OV.nd NK.lst _ _/\_);refine⟨_,_,rfl,?_⟩)|((with_reducible show ∃_ _ _,_=PV.int _/\_/\_/\_);refine⟨_,_,_,rfl,rfl,rfl,?_⟩)|((with_reducible show Wp _ _ _);first|walk_at "wp" | (refine BL ?_;walk_at "wn")) | $z2:tactic|((with_reducible show Ws _ _ _ _);$z:tactic) | $z3:tactic|((with_reducible show(_:Bool)=_/\_);refine⟨rfl,?_⟩)|((with_reducible show ∃_ _,_=PV.int _/\L2.C5 _ _=some _/\_);refine⟨_,_,rfl,rfl,?_⟩)|((with_reducible show ∃_,(_=PV.lst _/\_)∨(_=PV.tup _/\_));first|refine⟨_,.inl ⟨rfl,?_⟩⟩|refine⟨_,.inr ⟨rfl,?_⟩⟩)|((with_reducible show ∃_,_=List.map _ _/\_);first|refine⟨_,rfl,?_⟩|refine⟨[],rfl,?_⟩|refine⟨_,N2 _ _ _ _,?_⟩))
local macro_rules | `(tactic| walk_at "ww")=>`(tactic| repeat walk_at "w")
def yY:Au ["self"] ["self"] (AL XS):=by walk_at "z1"
variable(FD:mg "list"=none)(EG:Bu K A3)(IP:BQ K A3 "puts_by_word")(RO:AI P w K mg Zp "_law_letters" 1 ["number"] (je))(Bv:AI P w K mg Zp "_law_take" 1 ["pot","many"] (La))(BM:mg "len"=none)(cY:AI P w K mg Zp "_law_name" 2 ["pot","names"] (iq K))(EK:mg "range"=none)(cj:AI P w K mg Zp "_law_names" 3 ["pot","many"] (ZW))(GZ:mg "max"=none)(FV:mg "tuple"=none)(O7:mg "NoName"=some (.ref AK))(Y2:QN P w K mg Zp AK "name")(HW:Bs P w K mg Zp "check_word" 3 ["words","word"] (Bx (Qn AK)))(cn:mg "WHERES"=some (.ref LB))(YO:∀H,BW K H LB [.str "next",.str "last",.str "back",.str "first"])(Za:mg "all"=none)(Xa:mg "LETTERS"=some (.str "abcdefghijklmnopqrstuvwxyz" bO))(bz:mg "MOST_LETTERS"=some (.int 8 Yh))(X5:AI P w K mg Zp "check_puts" 4 ["words","puts"] (AQ oR))(ZU:AI P w K mg Zp "is_name" 1 ["text"] (aS))(PY:mg "enumerate"=none)(dY:mg "MOST_KINDS"=some (.int 8 aL))(aD:mg "MOST_PUTS"=some (.int 6 Z1))(Z9:AI P w K mg Zp "check_kinds" 5 ["kinds"] (AQ lN))(Lj:BQ K A3 "goes_by_word")(dF:R6 P w K mg Zp A3 7 ["self","kinds"] (BN (Yi A3)))(Yu:mg "Errands"=some (.ref A3))(aZ:AI P w K mg Zp "_law_crowd" 2 ["pot","kinds"] (AQ fN))(cE:AI P w K mg Zp "_law_rule" 2 ["pot"] (AQ kh))(O1:AI P w K mg Zp "_law_comers" 1 ["kinds","word","rule"] (AQ dE))(U2:AI P w K mg Zp "_law_reached" 2 ["kinds","some","rule"] (AQ iB))(WB:AI P w K mg Zp "_law_rings" 3 ["kinds","crowd","rule"] (AQ Y5))(BH:Bu K AD)(Fb:BQ K AD "awaited")(Dd:BQ K AD "gap")(JS:BQ K AD "rounds")(O2:BQ K AD "rule")(Ew:BQ K AD "things")(dM:AI P w K mg Zp "gap_behind_put" 1 ["gap","at"] (AQ pZ))(Y4:AI P w K mg Zp "joins" 1 ["loop","at"] (AQ pd))(ag:AI P w K mg Zp "gap_behind_take" 1 ["gap","place"] (AQ qY))(bW:CN P w K mg Zp AD "place_by" 2 ["self","where","nexts"] (AQ (m8 AD)))(Xq:CN P w K mg Zp AD "put_in" 3 ["self","word","at"] (BN (Y9 AD)))(aY:CN P w K mg Zp AD "take_out" 3 ["self","place"] (BN (Yo AD)))(aR:mg "RULES"=some (.ref Le))(Zj:∀H,BW K H Le [.str "none",.str "ahead",.str "all"])(OO:mg "NoRule"=some (.ref AS))(bp:QN P w K mg Zp AS "rule")(DO:CN P w K mg Zp A3 "words" 1 ["self"] (AQ (KH A3)))(dX:mg "MOST_IN_CROWD"=some (.int 12 Xi))(O6:mg "TooMany"=some (.ref AZ))(Ym:Hj K AZ none=true)(OE:CN P w K mg Zp A3 "goes" 4 ["self","word"] (AQ (WJ A3)))(Gz:CN P w K mg Zp A3 "puts" 4 ["self","word"] (AQ (Rc A3)))(Yq:R6 P w K mg Zp AD 2 ["self","crowd","rule"] (BN (dH AD)))(bo:CN P w K mg Zp AD "do_errand" 4 ["self","puts","goes"] (BN (d5 AD)))(Tu:CN P w K mg Zp AD "goes_on" 2 ["self"] (AQ (fW AD)))(c6:CN P w K mg Zp AD "tell" 3 ["self"] (BN (iO AD)))(GN:Bs P w K mg Zp "check_crowd" 5 ["book","crowd"] (Bx (O5 A3 AZ AK)))(HR:Bs P w K mg Zp "check_rule" 3 ["rule"] (Bx (Qv AS)))(da:mg "Run"=some (.ref AD))(OH:mg "WHERES_AHEAD"=some (.ref Gy))(OA:∀H,BW K H Gy [.str "next",.str "last"])(JE:AI P w K mg Zp "comers_of" 6 ["book","word","rule"] (AQ (RT A3)))(GW:mg "sum"=none)(Qp:AI P w K mg Zp "rounds_to" 1 ["put","known"] (AQ d4))(Lh:AI P w K mg Zp "sums_of" 1 ["many","length"] (AQ TZ))(Oy:AI P w K mg Zp "known_rows" 17 ["book","crowd","rule"] (AQ (YW A3)))(Ov:AI P w K mg Zp "table_of" 18 ["book","crowd","rule"] (AQ (cW A3)))(Kj:AI P w K mg Zp "way_and_ring" 17 ["book","crowd","rule"] (AQ (Vl A3)))(OR:mg "Endless"=some (.ref Ac))(YS:Hj K Ac none=true)(aG:AI P w K mg Zp "puts_in" 6 ["book","word","kind"] (AQ (oz A3)))(X8:mg "zip"=none)(PD:Bs P w K mg Zp "check_ends" 18 ["book","crowd","rule"] (Bx (Wy A3 Ac)))(cL:AI P w K mg Zp "standing_behind" 7 ["book","crowd","counts"] (AQ (oG A3)))(JO:AI P w K mg Zp "parts_of" 6 ["book","branch"] (AQ (OS A3)))(Ye:Bs P w K mg Zp "ending" 20 ["book","crowd","rule"] (Bx (mX A3 AS AZ AK Ac)))(Xz:Bs P w K mg Zp "ending_judged" 21 ["book","crowd","rule","ending"] (Bx (ou A3 AS AZ AK Ac)))(bP:Bs P w K mg Zp "nth" 27 ["book","crowd","n"] (Bx (qT A3 AS AZ AK Ac)))(XA:Bs P w K mg Zp "ran" 9 ["book","crowd","rule","most"] (Bx (pS A3 AS AZ AK Ac)))(aU:Bs P w K mg Zp "reckoned" 20 ["book","crowd","rule"] (Bx (kJ A3 AS AZ AK Ac)))(XG:Bs P w K mg Zp "_law_ask" 28 ["which","book","crowd","rule"] (Bx (jt A3 AS AZ AK Ac)))(LG:mg "StirError"=some (.ref Bk))(aa:PySem.W.exmOne K (.ref AS) (.ref Bk)=some true)(dg:PySem.W.exmOne K (.ref AZ) (.ref Bk)=some true)(bU:PySem.W.exmOne K (.ref AK) (.ref Bk)=some true)(Xp:PySem.W.exmOne K (.ref Ac) (.ref Bk)=some true)(cV:mg "ValueError"=none)(EL:mg "isinstance"=none)(YK:mg "Full"=some (.ref DP))(YI:mg "Gone"=some (.ref DR))(ar:mg "NoLog"=some (.ref DQ))(cN:mg "NoLoop"=some (.ref DH))(cx:mg "NoOrders"=some (.ref DM))(bI:mg "NoPlace"=some (.ref DN))(XT:mg "NoRow"=some (.ref DC))(Zb:mg "NoText"=some (.ref DU))(bY:mg "NoTicket"=some (.ref DI))(ZN:mg "NoWhere"=some (.ref DJ))(ZP:mg "Stale"=some (.ref DK))(ZI:mg "There"=some (.ref DT))(KZ:Hi K [AK,DT,DR,DN,AS,DQ,DK,DJ,DU,DP,AZ,DH,DI,Ac,DM,DC] Bk AS 4=true)(KO:Hi K [AK,DT,DR,DN,AS,DQ,DK,DJ,DU,DP,AZ,DH,DI,Ac,DM,DC] Bk AK 0=true)(Wk:PySem.W.hasDictIn K AS=true)(XC:PySem.W.findIn K (.ref AS) "rule"=some none)(Wu:PySem.W.hasDictIn K AK=true)(b8:PySem.W.findIn K (.ref AK) "name"=some none)(Zi:AI P w K mg Zp "_law_alone" 1 ["e","place"] (AQ (ja K [AK,DT,DR,DN,AS,DQ,DK,DJ,DU,DP,AZ,DH,DI,Ac,DM,DC] Bk)))(Y7:AI P w K mg Zp "_law_book" 9 ["kinds"] (AQ (kS A3)))(ZA:AI P w K mg Zp "_law_due" 5 ["which","kinds","crowd","rule"] (AQ gu))(bV:AI P w K mg Zp "_law_field" 1 ["e","place"] (AQ (pL AS AZ AK Ac)))(Z8:AI P w K mg Zp "_law_kinds" 4 ["pot"] (AQ jE))(VN:AI P w K mg Zp "_law_pot" 1 ["script","k"] (Ue K))(Zr:AI P w K mg Zp "_law_said" 29 ["which","book","crowd","rule"] (AQ (nR A3 AS AZ AK Ac)))(cQ:AI P w K mg Zp "_law_wrong" 4 ["pot","kinds"] (AQ kY))(Z7:mg "min"=none)(Vk:Hi K [AK,DT,DR,DN,AS,DQ,DK,DJ,DU,DP,AZ,DH,DI,Ac,DM,DC] Bk AZ 10=true)(WK:Hi K [AK,DT,DR,DN,AS,DQ,DK,DJ,DU,DP,AZ,DH,DI,Ac,DM,DC] Bk Ac 13=true)
def ZB5(F:AG K "words" "Errands.words" XS f fd)(a:Meth K A3 "words" f):
  CN P w K mg Zp A3 "words" 1 ["self"] (AQ (KH A3)):=by
 refine⟨f,fd,Fz.Oj (k:=0) F yY (by rintro _ _⟨ks,rfl,_,rfl⟩;rfl) λb=>⟨_,(AF rfl (Aq (Hw (ZE6 rfl) FD (A0 (Cc (qv 0)) A4)))),?_⟩,(F.binds (by walk_at "bD1")),a,EG⟩
 rintro _ _⟨ks,rfl,g,rfl⟩;show Ws [_] _ _ _;have l8:=g.l8;refine Ji (ZBs (Jd (A1 rfl ⟨A3,Dm,_,0,_,rfl,EG,IP,by decide+kernel,rfl,Bj (wk ks),_,rfl,by unfold Bj;rw[AB,AB];omega,ZBC _⟩)))
def fG:Au ["pot","many","found"] ["pot","many"] (AL de):=by walk_at "z1"
def t6(F:AG K "_law_take" "_law_take" de f fd)(m:mg "_law_take"=some (.ref f)):
  AI P w K mg Zp "_law_take" 1 ["pot","many"] (La):=by
 refine AI.mk F (F.binds (by walk_at "bD2")) m (F.Ec (k:=0) fG (λvs H Q E h=>?_) (λAf A outer s H vs Q E t h=>?_))
 .obtain⟨p,m,rfl,⟨a,b,d,a0,g,b0,n⟩,e,o,q⟩:=h;rfl
 obtain⟨p,m,rfl,⟨a,b,d,a0,g,b0,n⟩,e,o,q⟩:=h;refine⟨_,(A9 rfl (B9 (Aw R8 (Ab Df (qv 0) A7) A7) (A9 rfl (Ah 2 fG.nd (B4 JH (Ab Df (qv 0) A7) (qv 1)))
   (A9 rfl (VF (B4 cT (Ab Df (qv 0) A7) (qv 1)) (dO (qv 0) A7 set_list))
   (AF rfl (Aq (qv 2))))) B8)
   (A9 rfl (VF (B4 JH (B4 EJ (B4 Lb (Ab Df (qv 0) A7) A7) A7) A7) (dO (qv 0) A7 set_list))
   (AF rfl (Aq (B4 JH (B4 cT (B4 JH (B4 Lb (Ab Df (qv 0) A7) (Ab Df (qv 0) A7)) A7) A7) (qv 1)))))),?_⟩
 refine⟨_,rfl,p,_,_,_,rfl,rfl,AU.of d,rfl,_,_,rfl,rfl,_,rfl,?_⟩;refine BK (λc=>?_) (λc=>?_)
 .have u:0<a:=vY c;refine⟨_,rfl,p,_,_,_,rfl,rfl,AU.of d,rfl,_,rfl,_,_,rfl,rfl,e,?_⟩;refine⟨_,rfl,p,_,_,_,rfl,rfl,AU.of d,rfl,_,rfl,_,_,rfl,rfl,⟨e,Pg (by omega) (by omega)⟩,?_⟩;refine⟨_,rfl,p,_,_,_,rfl,rfl,d,rfl,?_⟩;refine⟨_,rfl,?_⟩;refine q _ _ (Lq _ (by omega)) (Nd _ e) ⟨⟨a / m,b,B3,Int.ediv_nonneg a0 (by omega),qo (Int.ediv_le_self _ a0) g,b0,n⟩,HP.upd⟩
 .refine⟨_,rfl,p,_,_,_,rfl,rfl,AU.of d,rfl,_,_,rfl,rfl,⟨Pg (by omega) (by omega),by decide+kernel⟩,_,_,rfl,rfl,_,_,rfl,rfl,(by show(0:Int)<2147483647;decide),?_⟩;refine⟨_,rfl,p,_,_,_,rfl,rfl,d,rfl,?_⟩;have j:0<=(b * 69621+12345) % 2147483647:=Lq _ (by decide);have l:(b * 69621+12345) % 2147483647<2147483647:=Nd _ (by decide);generalize r:(b * 69621+12345) % 2147483647=b' at j l;have i:(upd H p (.lst [.int a,.int ((b * 69621+12345) % 2147483647)])) p=some (.lst [.int a,.int b']):=by rw[B3,r]
  refine⟨_,rfl,p,_,_,_,rfl,rfl,AU.of i,rfl,_,rfl,p,_,_,_,rfl,rfl,AU.of i,rfl,_,_,rfl,rfl,⟨Pg (by omega) (by omega),Pg (by omega) (by omega)⟩,_,_,rfl,rfl,(by show(0:Int)<2147483629;decide),?_⟩;refine⟨_,_,rfl,rfl,⟨(by show(0:Int)<64;decide),by decide+kernel⟩,_,rfl,_,_,rfl,rfl,e,?_⟩;exact q _ _ (Lq _ (by omega)) (Nd _ e) ⟨⟨a,b',i,a0,g,j,l⟩,HP.upd⟩
def Vd:Au ["number","word"] ["number"] (AL dC):=by walk_at "z1"
def yH(F:AG K "_law_letters" "_law_letters" dC f fd)(m:mg "_law_letters"=some (.ref f)):
  AI P w K mg Zp "_law_letters" 1 ["number"] (je):=by
 refine AI.mk F (F.binds (by walk_at "bD1")) m (F.Ec (k:=0) Vd (λvs H Q E h=>?_) (λAf A outer s H vs Q E u h=>?_))
 .obtain⟨r,rfl,i,o,q⟩:=h;rfl
 obtain⟨r,rfl,i,o,q⟩:=h;refine⟨_,(A9 rfl (Ah 1 Vd.nd B2)
   (A9 rfl (C1 (QX EF (Oc (Aw C2 (qv 1) B2) (PK (Aw R8 (qv 0) A7))).pt (A9 rfl (Ah 1 Vd.nd (B4 mK (qv 1) (Ab ZGz B2 (B4 JH (qv 0) A7))))
   (AF rfl (Ah 0 Vd.nd (B4 cT (qv 0) A7))))))
   (AF rfl (Aq (qv 1))))),?_⟩
 obtain⟨n,rfl⟩:=SV i;have j:n<26 ^ 8:=by omega
 rw[Hq]at q;refine⟨λσ' H'=>∃v,σ'=[some v,some (.str (Dn (MA.lets n)))]/\H=H',?_,?_⟩
 .refine⟨λm σ' H'=>∃(k:Nat)(pre:List Nat),σ'=[some (.int k),some (.str (Dn pre))]/\H=H'/\((pre=[]/\k=n/\m=n+2)∨(pre≠[]/\m=k+1/\(0<k->pre++MA.lets k=MA.lets n)/\(k=0->pre=MA.lets n))),⟨n+2,n,[],rfl,rfl,.inl ⟨rfl,rfl,rfl⟩⟩,?_⟩;rintro m σ' H'⟨k,pre,rfl,rfl,l⟩;refine⟨_,rfl,rfl,_,rfl,?_⟩;refine BK (λc=>Od ?_) (λc=>⟨_,rfl,_,_,rfl,rfl,_,rfl,?_⟩)
  .have d:pre=[]:=og.mp (vY c);obtain⟨_,hk,p⟩|⟨h,_⟩:=l
   .have b:pre++MA.lets k=MA.lets n:=by rw[d,hk];rfl
    have a:pre.length+1<=8:=by
     have h1:=wH List.length b;rw[By]at h1;have h2:=MA.Te 7 n j;have t:=MA.dI k;omega
    refine⟨λσ' H'=>σ'=[some (.int ((k:Int) / 26)),some (.str (Dn pre++⟨#[97+((k:Int) % 26).toNat]⟩))]/\H=H',?_,?_⟩
    .rintro σ' H'⟨rfl,rfl⟩;have nx:=fg b;have g:((k:Int) % 26).toNat=k % 26:=by omega
     have e:(k:Int) / 26=((k / 26:Nat):Int):=by omega
     exact⟨k / 26+1,by omega,k / 26,pre++[97+k % 26],by rw[g,e,qV],rfl,.inr ⟨by simp,rfl,nx.1,nx.2⟩⟩
    .refine⟨_,rfl,_,rfl,_,_,rfl,rfl,(by show(0:Int)<26;decide),_,_,_,rfl,rfl,(by decide+kernel),iK (Lq _ (by decide)) (Nd _ (by decide)),_,_,rfl,rfl,?_,?_⟩
     .rw[VU];exact small (show pre.length+1<=_ by omega)
     .exact⟨_,rfl,_,_,rfl,rfl,⟨(by show(0:Int)<26;decide),by decide+kernel⟩,rfl,rfl⟩
   .exact absurd d h
  .have d:pre≠[]:=λh=>c (uL (og.mpr h));obtain⟨h,_⟩|⟨_,p,h1,h2⟩:=l
   .exact absurd h d
   refine BK (λc2=>?_) (λc2=>?_)
   .have hk:0<k:=by have:(0:Int)<k:=vY c2;omega
    have b:=h1 hk;have a:pre.length+1<=8:=by
     have h1:=wH List.length b;rw[By]at h1;have h2:=MA.Te 7 n j;have t:=MA.dI k;omega
    refine⟨λσ' H'=>σ'=[some (.int ((k:Int) / 26)),some (.str (Dn pre++⟨#[97+((k:Int) % 26).toNat]⟩))]/\H=H',?_,?_⟩
    .rintro σ' H'⟨rfl,rfl⟩;have nx:=fg b;have g:((k:Int) % 26).toNat=k % 26:=by omega
     have e:(k:Int) / 26=((k / 26:Nat):Int):=by omega
     exact⟨k / 26+1,by omega,k / 26,pre++[97+k % 26],by rw[g,e,qV],rfl,.inr ⟨by simp,rfl,nx.1,nx.2⟩⟩
    .refine⟨_,rfl,_,rfl,_,_,rfl,rfl,(by show(0:Int)<26;decide),_,_,_,rfl,rfl,(by decide+kernel),iK (Lq _ (by decide)) (Nd _ (by decide)),_,_,rfl,rfl,?_,?_⟩
     .rw[VU];exact small (show pre.length+1<=_ by omega)
     .exact⟨_,rfl,_,_,rfl,rfl,⟨(by show(0:Int)<26;decide),by decide+kernel⟩,rfl,rfl⟩
   .have hk:k=0:=by
     have:¬ (0:Int)<k:=λz=>c2 (uL z);omega
    exact⟨_,by rw[h2 hk],rfl⟩
 .rintro σ' H'⟨v,rfl,rfl⟩;exact⟨_,rfl,q _ (AR.refl _)⟩
def HY:Au ["pot","names","some","way","name","number"] ["pot","names"] (AL bN):=by walk_at "z1"
def zR(F:AG K "_law_name" "_law_name" bN f fd)(m:mg "_law_name"=some (.ref f)):
  AI P w K mg Zp "_law_name" 2 ["pot","names"] (iq K):=by
 refine AI.mk F (F.binds (by walk_at "bD2")) m (F.Ec (k:=1) HY (λvs H Q E h=>?_) (λAf A outer s H vs Q E g h=>?_))
 .obtain⟨p,q,ns,rfl,W,u,Bl,Y,hL,K1⟩:=h;rfl
 obtain⟨p,q,ns,rfl,W,u,Bl,Y,hL,K1⟩:=h;refine⟨_,(A9 rfl (Ah 2 HY.nd (CP (A0 B2 (A0 B2 (A0 B2 (A0 B2 (A0 B2 (A0 B2 (A0 B2 (A0 B2 (A0 B2 (A0 B2 (A0 B2 (A0 B2 (A0 B2 A4)))))))))))))))
   (A9 rfl (Ah 3 HY.nd (Ai Bv g (A0 (qv 0) (A0 A7 A4))))
   (A9 rfl (Ah 4 HY.nd (Ab B5 (qv 2) (Ai Bv g (A0 (qv 0) (A0 A7 A4)))))
   (A9 rfl (C1 (B9 (Aw C2 (qv 3) A7) (AF rfl (Ah 4 HY.nd (Ai RO g (A0 (Ai Bv g (A0 (qv 0) (A0 (B4 LJ (B4 Oh A7 A7) A7) A4))) A4)))) B8))
   (A9 rfl (C1 (B9 (Jp (Aw C2 (qv 3) A7) (Jh (Aw (Ux g.SE) (qv 1) (FF A4)))).pt (A9 rfl (Ah 4 HY.nd (Ab Df (qv 1) (Ai Bv g (A0 (qv 0) (A0 (BZ Uh BM (A0 (qv 1) A4)) A4)))))
   (AF rfl (Ah 4 HY.nd (Jq fv (B4 mK (qv 4) (Ai RO g (A0 (Ai Bv g (A0 (qv 0) (A0 A7 A4))) A4))) KR (Jv A7))))) B8))
   (A9 rfl (C1 (B9 (Jp (Aw C2 (qv 3) A7) (Jh (Aw (Ux g.SE) (qv 1) (FF A4)))).pt (A9 rfl (Ah 4 HY.nd (Ab Df (qv 1) (Ai Bv g (A0 (qv 0) (A0 (BZ Uh BM (A0 (qv 1) A4)) A4)))))
   (AF rfl (Ah 4 HY.nd (Jq fv (qv 4) KR (Jv (B4 EJ A7 (Ai Bv g (A0 (qv 0) (A0 (BZ jd BM (A0 (qv 4) A4)) A4))))))))) B8))
   (A9 rfl (Ah 5 HY.nd A7)
   (A9 rfl (C1 (QX EF (Aw LM (qv 4) (qv 1)) (A9 rfl (Ah 4 HY.nd (Ai RO g (A0 (qv 5) A4)))
   (AF rfl (Ah 5 HY.nd (B4 EJ (qv 5) A7))))))
   (AF rfl (Aq (qv 4))))))))))),?_⟩
 have G:(ns.map V.str).length=ns.length:=AB _;have u:AU K H q (ns.map V.str):=AU.of u;refine⟨(by show 13<=sizeLine;decide +kernel),λo P0=>?_⟩;have Gq:o≠p:=by
  obtain⟨_,_,e,_⟩:=W;exact(D7 e P0).symm
 have g0:CC p H (upd H o (.tup V1)):=CC.of W (EH P0 _);refine⟨_,rfl,p,4,rfl,g0.AY,by decide,by decide,λd H1 w0 w1 T=>?_⟩;refine⟨_,rfl,_,rfl,p,13,rfl,T.AY,by decide,by decide,λi H2 i0 i1 s2=>?_⟩;have h2:H2 o=some (.tup V1):=s2.at' (T.at' B3 Gq) Gq;obtain⟨x,hx,nx⟩:=ZBK i0 i1;refine⟨o,_,_,_,rfl,rfl,BW.of h2,hx,?_⟩;have σ:=g0.trans (T.trans s2);refine⟨λσ' H'=>∃x,σ'=[some (.ref p),some (.ref q),some (.ref o),some (.int d),some (.str x),none]/\Nm x/\CC p H H',?_,?_⟩
 .refine⟨_,rfl,rfl,_,rfl,?_⟩;refine BK (λc=>?_) (λc=>?_)
  .refine⟨_,rfl,_,_,rfl,rfl,⟨by decide,by decide,by decide+kernel⟩,_,_,rfl,rfl,p,_,rfl,σ.AY,ZDm,ZBu,λr H3 D M s3=>?_⟩;have J:r<26 ^ 8:=Int.lt_trans M ZE4;exact⟨r,rfl,D,J,λH4 s4=>⟨_,rfl,XM (fZ D J),(σ.trans s3).trans (CC.of s3.AY s4)⟩⟩
  .exact⟨x,rfl,nx,σ⟩
 clear h2 hx nx s2 σ i0 i1;rintro σ' H3⟨y,rfl,t,l⟩;refine⟨λσ' H'=>∃x,σ'=[some (.ref p),some (.ref q),some (.ref o),some (.int d),some (.str x),none]/\Nm x/\CC p H H',?_,?_⟩
 .refine⟨_,rfl,rfl,_,rfl,?_⟩;refine BK (λc=>?_) (λc=>J9 ⟨y,rfl,t,l⟩);refine⟨_,rfl,(by show 0<=sizeLine;decide),λe X=>?_⟩;have b:=l.trans (CC.of l.AY (EH X (.lst [])));have L:=b.Qt u Bl;refine⟨q,e,_,[],rfl,rfl,.inl ⟨L,AU.of B3⟩,MU ns,rfl,_,rfl,?_⟩;rw[jh];refine BK (λc2=>?_) (λc2=>⟨y,rfl,t,b⟩);have Mx:0<ns.length:=by
   cases ns with
   |nil=>simp at c2
   |cons a r=>simp
  refine⟨_,rfl,_,rfl,_,rfl,q,_,rfl,.inl L,p,_,rfl,b.AY,(by rw[G];omega),(by rw[G];omega),λi H5 i0 i1 S=>?_⟩;rw[G]at i1;have C:=b.trans S;obtain⟨z,U,Z,_⟩:=qU i0 i1;have B:=Y z Z;refine⟨q,_,_,_,rfl,rfl,C.Qt u Bl,U,?_⟩;refine⟨_,rfl,_,rfl,p,26,rfl,C.AY,by decide,by decide,λr H6 D M R=>?_⟩;have N:=C.trans R;have J:r<26 ^ 8:=Int.lt_trans M ZDL;refine⟨r,rfl,D,J,λH7 s7=>?_⟩;have N:=N.trans (CC.of N.AY s7);have nl:=XM (n:=r.toNat) (fZ D J);have hlen:z.length+(Dn (MA.lets r.toNat)).length<=16:=by have:=B.2.1;have:=nl.2.1;omega
  refine⟨_,_,rfl,rfl,small (by omega),?_⟩;refine⟨_,rfl,_,rfl,small (by rw[jJ];omega),?_⟩;refine⟨_,rfl,mQ (by decide) (by decide) (by rw[jJ];have:=B.1;omega) (λc I=>?_),N⟩;rw[fc]at I;rcases List.mem_append.mp I with I|I
  .exact B.2.2 c I
  .exact nl.2.2 c I
 clear t l;rintro σ' H3⟨y,rfl,t,l⟩;refine⟨λσ' H'=>∃x,σ'=[some (.ref p),some (.ref q),some (.ref o),some (.int d),some (.str x),none]/\Nm x/\CC p H H',?_,?_⟩
 .refine⟨_,rfl,rfl,_,rfl,?_⟩;refine BK (λc=>?_) (λc=>J9 ⟨y,rfl,t,l⟩);refine⟨_,rfl,(by show 0<=sizeLine;decide),λe X=>?_⟩;have b:=l.trans (CC.of l.AY (EH X (.lst [])));have L:=b.Qt u Bl;refine⟨q,e,_,[],rfl,rfl,.inl ⟨L,AU.of B3⟩,MU ns,rfl,_,rfl,?_⟩;rw[jh];refine BK (λc2=>?_) (λc2=>⟨y,rfl,t,b⟩);have Mx:0<ns.length:=by
   cases ns with
   |nil=>simp at c2
   |cons a r=>simp
  refine⟨_,rfl,_,rfl,_,rfl,q,_,rfl,.inl L,p,_,rfl,b.AY,(by rw[G];omega),(by rw[G];omega),λi H5 i0 i1 S=>?_⟩;rw[G]at i1;have C:=b.trans S;obtain⟨z,U,Z,_⟩:=qU i0 i1;have B:=Y z Z;refine⟨q,_,_,_,rfl,rfl,C.Qt u Bl,U,?_⟩;have zp:=B.1;have Qs:=B.2.1;refine⟨_,rfl,_,rfl,_,rfl,_,rfl,small (by omega),p,_,rfl,C.AY,(by omega),(by omega),λr H6 D M R=>?_⟩;refine⟨_,_,rfl,rfl,_,rfl,_,rfl,small (by omega),?_⟩;exact⟨_,rfl,mQ (by omega) (by omega) zp B.2.2,C.trans R⟩
 clear t l;rintro σ' H3⟨y,rfl,t,l⟩;refine⟨λσ' H'=>∃x v,σ'=[some (.ref p),some (.ref q),some (.ref o),some (.int d),some (.str x),some v]/\Nm x/\x∉ns/\CC p H H',?_,?_⟩
 .refine⟨λm σ' H'=>∃(k:Nat)(x:Str),σ'=[some (.ref p),some (.ref q),some (.ref o),some (.int d),some (.str x),some (.int k)]/\CC p H H'/\Nm x/\m=ns.length+1 - k/\k<=ns.length+1/\(0<k->x=Dn (MA.lets (k - 1)))/\(∀j,j+1<k->Dn (MA.lets j)∈ns),
   ⟨ns.length+1,0,y,rfl,l,t,rfl,Cf _,λh=>absurd h (by decide),λj h=>absurd h (by omega)⟩,?_⟩
  rintro m σ' H'⟨k,x,rfl,b,nx,rfl,hk,hx,hj⟩;refine⟨_,rfl,_,rfl,q,_,rfl,.inl (b.Qt u Bl),rfl,MU ns,_,rfl,?_⟩;rw[tK (by decide),Ww];refine BK (λc=>?_) (λc=>⟨x,_,rfl,nx,λz=>c (uL z),b⟩);have Ce:x∈ns:=vY c;have Ku:∀j,j<k->Dn (MA.lets j)∈ns:=λj W8=>by
   by_cases e:j+1<k
   .exact hj j e
   .have e2:j=k - 1:=by omega
    rw[e2,<- hx (by omega)];exact Ce
  have TQ:=ZBp Ku;refine⟨λσ' H'=>σ'=[some (.ref p),some (.ref q),some (.ref o),some (.int d),some (.str (Dn (MA.lets k))),some (.int ((k:Int)+1))]/\CC p H H',?_,?_⟩
  .rintro σ' H'⟨rfl,b⟩;exact⟨ns.length+1 - (k+1),by omega,k+1,Dn (MA.lets k),rfl,b,XM (Kq (CB TQ hL) ZFy),rfl,by omega,λ_=>rfl,λj W8=>Ku j (by omega)⟩
  .refine⟨_,rfl,k,rfl,by omega,?_,λH4 s4=>?_⟩
   .have:(k:Int)<=1000:=by omega
    exact qo this ZJU
   .rw[Hq];exact⟨_,rfl,_,_,rfl,rfl,rfl,b.trans (CC.of b.AY s4)⟩
 rintro σ' H'⟨x,v,rfl,nx,hx,b⟩;exact⟨_,rfl,K1 x H' nx hx b⟩
def X1:Au ["pot","many","names","k"] ["pot","many"] (AL bf):=by walk_at "z1"
def yZ(F:AG K "_law_names" "_law_names" bf f fd)(m:mg "_law_names"=some (.ref f)):
  AI P w K mg Zp "_law_names" 3 ["pot","many"] (ZW):=by
 refine AI.mk F (F.binds (by walk_at "bD2")) m (F.Ec (k:=2) X1 (λvs H Q E h=>?_) (λAf A outer s H vs Q E u h=>?_))
 .obtain⟨p,m,rfl,j,r,o,q⟩:=h;rfl
 obtain⟨p,m,rfl,j,r,o,q⟩:=h;refine⟨_,(A9 rfl (Ah 2 X1.nd (FF A4))
   (A9 rfl (C1 (EU EF rfl (MW rfl EK (A0 (qv 1) A4)) (D8 3 X1.nd) (AF rfl (Bi (Er FP Sh Si OG (qv 2) (A0 (Ai cY u (A0 (qv 0) (A0 (qv 2) A4))) A4))))))
   (AF rfl (Aq (qv 2))))),?_⟩
 refine⟨(by show 0<=sizeLine;decide),λl c=>?_⟩;have d:=j.ne c;refine⟨λσ' H'=>∃(ns:List Str)(v:Option V),σ'=[some (.ref p),some (.int m),some (.ref l),v]/\CC p H H'/\H' l=some (.lst (ns.map V.str))/\(ns.length:Int)=m/\(∀x∈ns,Nm x)/\ns.Nodup,?_,?_⟩
 .refine⟨_,rfl,m,rfl,by omega,by omega,ZBZ (n:=m.toNat) (λi σ' H'=>∃(ns:List Str)(v:Option V),σ'=[some (.ref p),some (.int m),some (.ref l),v]/\CC p H H'/\H' l=some (.lst (ns.map V.str))/\ns.length=i/\(∀x∈ns,Nm x)/\ns.Nodup) ?_ ?_ ?_⟩
  .exact⟨[],none,rfl,(CC.of j (AR.refl H)).upd c d,B3,rfl,λx hx=>absurd hx (by simp),by simp⟩
  .rintro i σ' H' hi⟨ns,v,rfl,g,e,a,b,nd⟩;refine⟨_,rfl,.inl ⟨rfl,_,AU.of e⟩,_,rfl,_,rfl,p,l,ns,rfl,g.AY,e,d,b,by omega,λx H2 nx hx s2=>?_⟩;refine⟨l,_,_,rfl,rfl,s2.at' e d,Kq (m:=100) (by rw[AB];omega) (by decide+kernel),?_⟩;refine⟨ns++[x],_,rfl,(g.trans s2).upd c d,by rw[B3,Ca];rfl,by rw[By];simp[a],λy t=>?_,Ol nd hx⟩;rcases List.mem_append.mp t with h|h
   .exact b y h
   .have:y=x:=by simpa using h
    rw[this];exact nx
  .rintro σ' H'⟨ns,v,rfl,g,e,a,b,nd⟩;exact⟨ns,v,rfl,g,e,by omega,b,nd⟩
 rintro σ' H'⟨ns,v,rfl,g,e,a,b,nd⟩;exact⟨_,rfl,q l H' ns c g e a b nd⟩
def IH:Au ["pot","many","words","shape","kinds","k","puts","j","where","kind"] ["pot"] (AL Xn):=by walk_at "z1"
def ZGq(F:AG K "_law_kinds" "_law_kinds" Xn f fd)(m:mg "_law_kinds"=some (.ref f)):
  AI P w K mg Zp "_law_kinds" 4 ["pot"] (AQ jE):=by
 refine Fz.hF (k:=3) F (by walk_at "bD1") m IH (by rintro _ _⟨rfl,rfl⟩;rfl) λh=>⟨_,(A9 rfl (Ah 1 IH.nd (B4 EJ A7 (Ai Bv h (A0 (qv 0) (A0 A7 A4)))))
   (A9 rfl (Ah 2 IH.nd (Ai cj h (A0 (qv 0) (A0 (qv 1) A4))))
   (A9 rfl (Ah 3 IH.nd (Ai Bv h (A0 (qv 0) (A0 A7 A4))))
   (A9 rfl (Ah 4 IH.nd (FF A4))
   (A9 rfl (C1 (EU EF rfl (MW rfl EK (A0 (qv 1) A4)) (D8 5 IH.nd) (A9 rfl (Ah 6 IH.nd (FF A4))
   (A9 rfl (C1 (EU EF rfl (MW rfl EK (A0 (Ab B5 (CP (A0 A7 (A0 A7 (A0 A7 (A0 A7 (A0 A7 (A0 A7 (A0 A7 A4)))))))) (Ai Bv h (A0 (qv 0) (A0 A7 A4)))) A4)) (D8 7 IH.nd) (A9 rfl (Ah 8 IH.nd (Ab B5 (CP (A0 B2 (A0 B2 (A0 B2 (A0 B2 A4))))) (Ai Bv h (A0 (qv 0) (A0 A7 A4)))))
   (A9 rfl (Ah 9 IH.nd (Ai Bv h (A0 (qv 0) (A0 (qv 1) A4))))
   (A9 rfl (C1 (B9 (Aw LA (qv 3) A7) (AF rfl (Ah 9 IH.nd (B4 EJ (B4 EJ (qv 5) A7) (B4 JH (qv 9) (BZ (pR rfl) GZ (A0 A7 (A0 (B4 LJ (B4 LJ (qv 1) A7) (qv 5)) A4))))))) B8))
   (AF rfl (B9 (Aw LA (qv 9) (qv 1)) (AF rfl (Bi (Er FP Sh Si OG (qv 6) (A0 (CP (A0 (qv 8) (A0 (Ab Df (qv 2) (qv 9)) A4))) A4)))) B8)))))))
   (AF rfl (Bi (Er FP eE rV YD (qv 4) (A0 (Ai Bv h (A0 (qv 0) (A0 (B4 EJ (qv 5) A7) A4))) (A0 (CP (A0 (Ab Df (qv 2) (qv 5)) (A0 (Hw Qh FV (A0 (qv 6) A4)) (A0 (Ht C2 (Ai Bv h (A0 (qv 0) (A0 A7 A4))) A7) A4)))) A4)))))))))
   (AF rfl (Aq (qv 4)))))))),?_⟩
 rintro _ _⟨rfl,rfl⟩;show Ws [_,.any,.any,.any,.any,.any,.any,.any,.any,.any] _ _ _
 walk_at "ww"
 refine⟨by decide,by decide,λr a1 b1=>⟨_,rfl,?_⟩⟩;obtain⟨l,rfl⟩:=SV a1;refine AE (G3 (ZJo rfl (A1 rfl ⟨_,rfl,by omega,by omega,λws hl X nd=>?_⟩)));refine JC 2 rfl ?_
 walk_at "ww"
 refine⟨by decide,by decide,λA s0 s1=>?_⟩
 walk_at "ww"
 refine⟨by decide,?_⟩;refine AE (Bg (Eo (λ_ i A6=>∃(ks:List Kd)(C B g d b:Slot),A6=[.AY,.is (.int (1+(l:Int))),.is (.lst (ws.map .str)),.is (.int A),.own (ks.map Kd.P),C,B,g,d,b]/\(wk ks).Perm (ws.take i)/\∀k∈ks,k.ps.length<=6/\∀p∈k.ps,p.1∈WH/\p.2∈ws) ?_))
 walk_at "ww"
 rw[Iw];refine⟨by omega,by omega,⟨[],_,_,_,_,_,rfl,.refl _,λk hk=>absurd hk Aa⟩,?_,?_⟩
 .rintro k p A6 o⟨ks,C,B,g,d,b,rfl,s,ok⟩;obtain⟨hk,rfl⟩:=US o;have E:=s.length_eq;rw[AB,Dj]at E;refine G2 ?_
  walk_at "ww"
  refine⟨by decide,?_⟩;refine AE (Bg (Eo (λ_ j A6=>∃(a:List (Str×Str))(g d b:Slot),A6=[.AY,.is (.int (1+(l:Int))),.is (.lst (ws.map .str)),.is (.int A),.own (ks.map Kd.P),.is (.int k),.own (a.map BD),g,d,b]/\a.length<=j/\∀q∈a,q.1∈WH/\q.2∈ws) ?_))
  walk_at "ww"
  refine⟨by decide,_,.inr ⟨rfl,rfl,?_⟩⟩
  walk_at "ww"
  refine⟨by decide,by decide,λt S t1=>?_⟩;obtain⟨m,W,lm⟩:=ZJ9 S t1;refine⟨_,_,rfl,W,_,rfl,by omega,by omega,?_⟩;rw[Iw,Hq];refine⟨⟨[],_,_,_,rfl,B0 _,λq D=>absurd D Aa⟩,?_,?_⟩
  .rintro j p A6 o⟨a,g,d,b,rfl,U,v⟩;obtain⟨hj,rfl⟩:=US o;refine G2 ?_
   walk_at "ww"
   refine⟨by decide,_,.inr ⟨rfl,rfl,?_⟩⟩
   walk_at "ww"
   refine⟨by decide,by decide,λt2 N M=>?_⟩;obtain⟨y,Q,R⟩:=ZBV N M;refine⟨_,_,rfl,R,?_⟩
   walk_at "ww"
   refine⟨by omega,Xk (by omega),λn Z b3=>?_⟩;refine Jx (λA6=>∃n:Int,A6=[.AY,.is (.int (1+(l:Int))),.is (.lst (ws.map .str)),.is (.int A),.own (ks.map Kd.P),.is (.int k),.own (a.map BD),.is (.int j),.is (.str y),.is (.int n)]/\0<=n) ?_ ?_
   .walk_at "ww"
    refine BK (λc=>?_) (λc=>An ⟨n,rfl,Z⟩)
    walk_at "ww"
    have J:0<(if 1+(l:Int) - 1 - k > 1 then 1+(l:Int) - 1 - k else 1):=by split <;> omega
    have ZLE:=Lq n (Int.ne_of_gt J);exact⟨J,_,rfl,_,rfl,by omega⟩
   rintro _⟨n,rfl,k0⟩
   walk_at "ww"
   refine BK (λc=>?_) (λc=>An ⟨a,_,_,_,rfl,by omega,v⟩);have c':=vY c;obtain⟨u,rfl⟩:=SV k0;have σ:u<ws.length:=by omega
   have H:L2.C5 (ws.map PV.str) (u:Int)=some (.str ws[u]):=Pe (by omega) (by rw[Hq,Ax,As σ];rfl);refine Vr rfl (Dg ?_)
   walk_at "ww"
   refine⟨_,_,rfl,H,?_⟩
   walk_at "ww"
   refine⟨by show 2<=100000;decide,by rw[AB];omega,a++[(y,ws[u])],.is (.int j),.is (.str y),.is (.int u),?_,?_,?_⟩
   .rw[Ca];rfl
   .rw[By,Ir];omega
   .intro q D;rcases List.mem_append.mp D with z|z
    .exact v q z
    .rw[List.mem_singleton.mp z];exact⟨Q,Lr σ⟩
  .rintro A6⟨a,g,d,b,rfl,U,v⟩;have L:k<ws.length:=by omega
   have H:L2.C5 (ws.map PV.str) (k:Int)=some (.str ws[k]):=Pe (by omega) (by rw[Hq,Ax,As L];rfl);refine p7 rfl ?_
   walk_at "ww"
   refine⟨by omega,Xk (by omega),λI Y b9=>⟨_,rfl,Y,by rw[AB];omega,?_⟩⟩;refine Dg ?_
   walk_at "ww"
   refine⟨_,_,rfl,H,?_⟩
   walk_at "ww"
   refine⟨by decide,by decide,λT N M=>?_⟩
   walk_at "ww"
   refine⟨by show 3<=100000;decide,by rw[AB];omega,ks.take I.toNat++⟨ws[k],a,alike (.int T) (.int 1)⟩ :: ks.drop I.toNat,.is (.int k),.own (a.map BD),g,d,b,?_,?_,?_⟩
   .rw[<- Sd,<- Lu,Ca];rfl
   .rw[Sf L];show(List.map Kd.w (_++_::_)).Perm _;rw[Ca,B6,Sd,Lu];refine(List.perm_middle.trans (List.Perm.cons _ ?_)).trans (List.perm_append_comm (l₁:=[ws[k]]));rw[rH];exact s
   .intro kk G;rcases List.mem_append.mp G with z|z
    .exact ok kk (Pl z)
    .rcases List.mem_cons.mp z with z|z
     .rw[z];exact⟨by show a.length<=6;omega,v⟩
     .exact ok kk (WT z)
 .rintro A6⟨ks,C,B,g,d,b,rfl,s,ok⟩;refine JC 4 rfl ?_;have x:(wk ks).Perm ws:=by
   have e:ws.take (1+(l:Int)).toNat=ws:=Pn (by omega);rw[e]at s;exact s
  have V:=x.length_eq;rw[AB]at V;refine CD (A1 rfl ⟨ks,rfl,by omega,by omega,x.nodup_iff.mpr nd,λk hk=>X _ (x.mem_iff.mp (List.mem_map.mpr ⟨k,hk,rfl⟩)),λk hk=>⟨(ok k hk).1,λp o=>⟨((ok k hk).2 p o).1,x.mem_iff.mpr ((ok k hk).2 p o).2⟩⟩⟩)
def ZI2:Au ["words","word"] ["words","word"] (AL X7):=by walk_at "z1"
def ZAA(F:AG K "check_word" "check_word" X7 f fd)(m:mg "check_word"=some (.ref f)):
  Bs P w K mg Zp "check_word" 3 ["words","word"] (Bx (Qn AK)):=by
 refine Fz.hX (k:=2) F (by walk_at "bD2") m ZI2 (by rintro _ _ _⟨ws,d,x,rfl,_,_,_,rfl,rfl⟩;rfl) λE a=>⟨_,(AF rfl (B9 (xN (qc (Eb a) (qv 1) (qv 0)) (qJ M5 (qv 1) (qv 0) (by with_unfolding_all rfl))) (AF rfl (gE Y2 (by rfl) O7 a (by decide) rfl rfl E4 (A0 (qv 1) A4))) B8)),?_⟩
 rintro _ _ _⟨ws,d,x,rfl,hd,b,hx,rfl,rfl⟩;intro i0;show Ws [_,_] _ _ _;refine Ap ?_;rcases hd with rfl|⟨xs,rfl⟩
 .refine wX (Ad (Ui (A1 rfl ⟨x,rfl,Cz rfl ⟨_,rfl,_,rfl,?_⟩⟩)));refine BK (λc=>ba (A1 rfl ⟨hx.1,trivial,λm=>?_,rfl⟩)) (λc=>An ⟨_,rfl,rfl,not_of c⟩);rw[uL m]at c;cases c
 .refine ZHE (GF (ZGy (A1 rfl (A1 rfl ⟨_,_,.inr x,rfl,rfl,_,rfl,?_⟩))));rw[Qz];refine BK (λc=>ba (A1 rfl ⟨hx.1,trivial,λm=>?_,rfl⟩)) (λc=>An ⟨_,rfl,rfl,not_of c⟩);rw[uL m]at c;cases c
def pF:Au ["words","puts","put"] ["words","puts"] (AL Xv):=by walk_at "z1"
def ZBa(F:AG K "check_puts" "check_puts" Xv f fd)(m:mg "check_puts"=some (.ref f)):
  AI P w K mg Zp "check_puts" 4 ["words","puts"] (AQ oR):=by
 refine Fz.hF (k:=3) F (by walk_at "bD2") m pF (by rintro _ _⟨ws,ps,rfl,_,_,_,rfl⟩;rfl) λd=>⟨_,(AF rfl (EU EF rfl (CI (qv 1)) (D8 2 pF.nd) (A9 rfl (B9 (Aw M5 (Ab B5 (qv 2) A7) (D5 (v:=.ref LB) (by rfl) cn rfl)) (AF rfl PH) B8)
   (AF rfl (Bi (E8 HW d (by decide) Yp rfl (A0 (qv 0) (A0 (Ab B5 (qv 2) A7) A4)))))))),?_⟩
 rintro _ _⟨ws,ps,rfl,b,g,c,rfl⟩;show Ws [_,_,.any] _ _ _;have C:HZ K LB (WH.map .str):=HZ.of YO rfl rfl;refine Eo (λ_ i A6=>∃s2:Slot,A6=[.is (.lst (ws.map .str)),.is (.lst (ps.map BD)),s2]) ?_
 walk_at "ww"
 refine⟨⟨_,rfl⟩,?_,?_⟩
 .rintro k p A6 a⟨s2,rfl⟩;rw[Ax]at a;obtain⟨q,ex,rfl⟩:=Option.map_eq_some_iff.mp a;refine G2 ?_;have sq:=g q (C7 ex);refine AE (Ap (Ad (Vc (neg:=true) C (BV (Bc rfl ⟨rfl,AH ⟨_,_,rfl,rfl,q.1,rfl,_,rfl,?_⟩⟩)))));rw[uL sq.1];refine BC (by decide) (An ?_);refine FH (Fo (AM (A1 rfl (AM (BV (Bc rfl ⟨rfl,AH ⟨_,_,rfl,rfl,Ar ⟨_,_,⟨ws,_,q.2,rfl,.inl rfl,b,c _ sq.2,rfl,rfl⟩,trivial,λe h=>h.1 sq.2,?_⟩⟩⟩))))));rintro _⟨rfl,_⟩;exact⟨_,rfl⟩
 .rintro A6⟨s2,rfl⟩;exact⟨_,rfl,rfl⟩
def vQ:Au ["text"] ["text"] (AL VE):=by walk_at "z1"
noncomputable abbrev Sc(l):=Scope.mk .function l false false []
def ZGY:=Sc [(".0",.local),("sign",.local),("LETTERS",.globalImplicit)]
def yF:Cs ["text"] (AL VE) ZGY "sign" [] []:=by walk_at "z2"
def zP(F:AG K "is_name" "is_name" VE f fd)(m:mg "is_name"=some (.ref f)):
  AI P w K mg Zp "is_name" 1 ["text"] (aS):=by
 refine AI.mk F (F.binds (by walk_at "bD1")) m (F.Ec (k:=0) vQ (λvs H Q E h=>?_) (λAf A outer s H vs Q E g h=>?_))
 .obtain⟨x,rfl,hx,q⟩:=h;rfl
 obtain⟨x,rfl,hx,q⟩:=h;refine⟨_,(AF rfl (Aq (Vu (tG Pt Pt A7 (BZ jd BM (A0 (qv 0) A4)) (D5 (v:=.int 8) (by rfl) bz ⟨_,rfl⟩)) (QP (BZ (ZHz rfl) Za (A0 (Fy rfl yF (ZHR (qv 0)) (λ_ _ _ _=>by exact FG) (λ_ _ _ _=>by exact(Ht ZB9 (qv 0) (D5 (v:=.str "abcdefghijklmnopqrstuvwxyz") (by rfl) Xa ⟨_,rfl⟩)))) A4)))))),?_⟩;refine⟨_,rfl,_,rfl,small (by omega),_,_,rfl,rfl,_,rfl,?_⟩;refine BK (λc=>?_) (λc=>⟨_,rfl,J9 ?_⟩)
 .refine⟨_,_,rfl,rfl,_,rfl,?_⟩;refine BK (λc2=>?_) (λc2=>?_)
  .refine⟨_,rfl,x,rfl,λacc BI=>zd (λ_=>true) gH BI (by rw[<- di,<- J7];exact small (by omega)) (λi v H' Q' _ _ h=>h H' (AR.refl _)) (λi v H' Q' d _ _ h=>?_) (λH' b a=>?_)⟩
   .obtain⟨j,rfl⟩:=signs_get d;exact⟨_,rfl,_,_,rfl,rfl,h H' (AR.refl _)⟩
   .rw[ZAB]at a;refine⟨acc,_,rfl,AU.of a,?_⟩;rw[all_map];have e:isNm x=x.cps.toList.all V6:=by unfold isNm;rw[c,c2];rfl
    rw[<- e];exact q H' b
  .have e:isNm x=false:=by unfold isNm;rw[Bool.eq_false_iff.mpr c2];simp
   rw[<- e];exact q H (AR.refl _)
 .have e:isNm x=false:=by unfold isNm;rw[Bool.eq_false_iff.mpr c];simp
  rw[<- e];exact q H (AR.refl _)
def Rb:Au ["kinds","words","number","kind"] ["kinds"] (AL WE):=by walk_at "z1"
def ZIu:=Sc [(".0",.local),("kind",.local)]
def tZ:Cs ["kinds","words","number","kind"] (AL WE) ZIu "kind" [] []:=by walk_at "z2"
def ZEv(F:AG K "check_kinds" "check_kinds" WE f fd)(m:mg "check_kinds"=some (.ref f)):
  AI P w K mg Zp "check_kinds" 5 ["kinds"] (AQ lN):=by
 refine Fz.hF (k:=4) F (by walk_at "bD1") m Rb (by rintro _ _⟨ks,rfl,_,rfl⟩;rfl) λd=>⟨_,(A9 rfl (B9 (R7 (kB Pt Pt A7 (BZ HE BM (A0 (qv 0) A4)) (D5 (v:=.int 8) (by rfl) dY ⟨_,rfl⟩))) (AF rfl PH) B8)
   (A9 rfl (SJ (i:=1) Rb.nd rfl (Or.inl rfl) rfl tZ (CI (qv 0)) (λ_ _ _ _=>by exact FG) (λ_ _ _ _=>by exact(Ab (show D1 _ (D4 K)from B5) (qv 0) A7)))
   (A9 rfl (C1 (EU EF rfl (l6 rfl PY (A0 (qv 0) A4)) (Vp rfl (Jn (D8 2 Rb.nd) (Jn (D8 3 Rb.nd) WM))) (A9 rfl (B9 (R7 (IA (Ai ZU d (A0 (Ab B5 (qv 3) A7) A4)))) (AF rfl PH) B8)
   (A9 rfl (B9 (Aw LM (Ab B5 (qv 3) A7) (Jq Ml (qv 1) KR (Jv (qv 2)))) (AF rfl PH) B8)
   (AF rfl (B9 (Aw R8 (BZ HE BM (A0 (Ab B5 (qv 3) A7) A4)) (D5 (v:=.int 6) (by rfl) aD ⟨_,rfl⟩)) (AF rfl PH) B8))))))
   (AF rfl (EU EF rfl (CI (qv 0)) (D8 3 Rb.nd) (AF rfl (Bi (Ai X5 d (A0 (qv 1) (A0 (Ab B5 (qv 3) A7) A4)))))))))),?_⟩
 rintro _ _⟨ks,rfl,g,rfl⟩;show Ws [_,.any,.any,.any] _ _ _;have l1:=g.l1;have l8:=g.l8
 walk_at "ww"
 rw[AB];refine Cd (uL (by omega)) ?_;refine AH ⟨_,rfl,_,rfl,?_⟩;rw[uL (show(ks.length:Int)<=8 by omega)];refine BC (by decide) (An ?_);refine AE (G3 (Et G7 (λ_=>true) (λk=>PV.str k.w) (D0 (CS (A1 rfl ⟨_,.inl ⟨rfl,ks,rfl,by omega,λk _=>Fq rfl,λk _ _=>BV (Bc rfl ⟨rfl,AH ⟨_,_,rfl,rfl,rfl⟩⟩),?_⟩⟩))) xZ));rw[List.filter_eq_self.mpr λ_ _=>rfl];refine JC 1 rfl ?_;have o:(ks.map λk=>PV.str k.w)=(wk ks).map PV.str:=by rw[Cm];rfl
 rw[o];show Ws [.is (.lst (ks.map G7)),.is (.lst ((wk ks).map .str)),.any,.any] _ _ _;refine AE (Bg (Eo (λ_ i A6=>∃s2 a:Slot,A6=[.is (.lst (ks.map G7)),.is (.lst ((wk ks).map .str)),s2,a]) (qN (CS (A1 rfl ⟨_,.inl ⟨rfl,rfl,⟨_,_,rfl⟩,?_,?_⟩⟩)))))
 .rintro i q A6 l⟨s2,a,rfl⟩;obtain⟨x0,hx,rfl⟩:=fR l;rw[Ax]at hx;obtain⟨k,ex,rfl⟩:=Option.map_eq_some_iff.mp hx;have hi:=(List.getElem?_eq_some_iff.mp ex).1;have b:=C7 ex;refine Yc ⟨_,_,rfl,?_⟩
  walk_at "ww"
  refine ZHC (BV (Bc rfl ⟨rfl,AH ⟨_,_,rfl,rfl,k.w,rfl,CB (g.nm k b).2.1 (by decide),_,rfl,?_⟩⟩));rw[ya (g.nm k b)];refine BC (by decide) (An ?_)
  walk_at "ww"
  rw[show Dw (wk ks) none (some (i:Int))=(wk ks).take i from ZEq (by rw[AB];omega)];refine BC (λc=>?_) (An ?_)
  .obtain⟨j,n,h⟩:=FO (vY c);rw[Dj,AB]at n;rw[Pk]at h;have q:=List.pairwise_iff_getElem.mp g.nd j i (by rw[AB];omega) (by rw[AB];exact hi) (by omega);refine q (h.trans ?_);rw[SX,(List.getElem?_eq_some_iff.mp ex).2]
  refine Ap (Ad (O4 (LO (Bd (BV (Bc rfl ⟨rfl,AH ⟨_,_,rfl,rfl,_,.inl ⟨rfl,?_⟩⟩⟩))))))
  walk_at "ww"
  rw[AB];refine BC (λc=>?_) (An ⟨_,_,rfl⟩);have:=vY c;have:=(g.ps k b).1;omega
 .rintro A6⟨s2,a,rfl⟩;refine Eo (λ_ i A6=>∃s2 a:Slot,A6=[.is (.lst (ks.map G7)),.is (.lst ((wk ks).map .str)),s2,a]) ?_
  walk_at "ww"
  refine⟨⟨_,_,rfl⟩,?_,?_⟩
  .rintro i p A6 e⟨s2,a,rfl⟩;rw[Ax]at e;obtain⟨k,ex,rfl⟩:=Option.map_eq_some_iff.mp e;have b:=C7 ex;refine G2 ?_;refine FH (wp_call (AM (A1 rfl (AM (BV (Bc rfl ⟨rfl,AH ⟨_,_,rfl,rfl,Ar ⟨_,⟨wk ks,k.ps,rfl,by rw[AB];omega,(g.ps k b).2,g.say,rfl⟩,?_⟩⟩⟩))))));rintro _ rfl;exact⟨_,_,rfl⟩
  .rintro A6⟨s2,a,rfl⟩;exact⟨_,rfl,rfl⟩
def pX:Au ["self","kinds","kind"] ["self","kinds"] (AL bj):=by walk_at "z1"
def nX:∀ss R,(Yi A3) ss R->ss.length=2:=by rintro _ _⟨dx,a,ks,rfl,_,rfl⟩;rfl
def vx(F:AG K "__init__" "Errands.__init__" bj f fd)(o:Mk K A3 f):
  R6 P w K mg Zp A3 7 ["self","kinds"] (BN (Yi A3)):=by
 refine⟨f,fd,F.Ec (k:=6) pX (λvs H Q E h=>Fz.MR nX h) (λAf A outer s H vs Q E d h=>?_),(F.binds (by walk_at "bD2")),o⟩
 refine⟨_,(A9 rfl (Bi (Ai Z9 d (A0 (qv 1) A4)))
   (A9 rfl (JR (qv 0) UT)
   (A9 rfl (JR (qv 0) UT)
   (AF rfl (EU EF rfl (CI (qv 1)) (D8 2 pX.nd) (A9 rfl (Q3 (Eb d) (Cc (qv 0)) (Ab B5 (qv 2) A7) (Hw Qh FV (A0 (Ab B5 (qv 2) A7) A4)))
   (AF rfl (Q3 (Eb d) (Cc (qv 0)) (Ab B5 (qv 2) A7) (Ab B5 (qv 2) A7))))))))),?_⟩
 refine Fz.QD h nX ?_;rintro _ _⟨dx,a,ks,rfl,g,rfl⟩;show Ws [_,_,.any] _ _ _;refine AE (FH (wp_call (AM (A1 rfl (Ar ⟨_,⟨ks,rfl,g,rfl⟩,?_⟩)))));rintro _ rfl;refine AE (Ll (i:=0) (VP λb=>C8 rfl ⟨true,A3,dx,[],a,[],rfl,rfl,EG,IP,by decide,Aa,?_⟩));rw[OV.Ee];show Ws [.ow true (.nd (.obj A3 dx ["puts_by_word"]) a [.nd (.BJ []) b []]),.is (.lst (ks.map G7)),.any] _ _ _;refine AE (Ll (i:=0) (VP λc=>C8 rfl ⟨true,A3,dx,_,a,_,rfl,rfl,EG,Lj,by decide,Aa,?_⟩));rw[OV.Ee];have l8:=g.l8;refine Eo (λ_ i A6=>∃(s2:Slot),A6=[.ow true (Ki A3 dx a b c (ks.take i)),.is (.lst (ks.map G7)),s2]) ?_
 walk_at "ww"
 refine⟨⟨_,rfl⟩,?_,?_⟩
 .rintro i p A6 e⟨s2,rfl⟩;rw[Ax]at e;obtain⟨k,ex,rfl⟩:=Option.map_eq_some_iff.mp e;have hi:=(List.getElem?_eq_some_iff.mp ex).1;have nk:k.w∉wk (ks.take i):=λm=>by
   obtain⟨j,r,l⟩:=FO m;rw[AB,Dj]at r;rw[SX,Pk]at l;have q:=List.pairwise_iff_getElem.mp g.nd j i (by rw[AB];omega) (by rw[AB];exact hi) (by omega);refine q ?_;rw[SX,SX,l,(List.getElem?_eq_some_iff.mp ex).2]
  have n:(wk (ks.take i)).Nodup:=by
   rw[show wk (ks.take i)=(wk ks).take i from Sd];exact g.nd.sublist (ZKf _ _)
  refine G2 ?_;refine AE (Tn (i:=0) (t:=Ki A3 dx a b c (ks.take i)) (EV (RU rfl (Bd (BV (Bc rfl ⟨rfl,AH ⟨_,_,rfl,rfl,_,.inl ⟨rfl,?_⟩⟩⟩))))));refine NY (C8 rfl ⟨A3,dx,_,a,_,0,_,rfl,EG,IP,rfl,rfl,true,b,_,_,rfl,rfl,by rw[AB,Dj];omega,U9 n,Aa,BV (Bc rfl ⟨rfl,AH ⟨_,_,rfl,rfl,.inr k.w,rfl,?_⟩⟩)⟩);rw[HM,OJ nk,Uz nk];unfold Ki;rw[OV.KU (show _=some _ from rfl),OV.Ee];refine Tn (i:=0) (t:=.nd (.obj A3 dx Dm) a [.nd (.BJ (Bj (wk (ks.take i)++[k.w]))) b ((ks.take i).map (λk=>.fz (.tup (k.ps.map BD)))++[.fz (.tup (k.ps.map BD))]),.nd (.BJ (Bj (wk (ks.take i)))) c ((ks.take i).map λk=>.fz (.bl k.g))]) (EV (BV (Bc rfl ⟨rfl,AH ⟨_,_,rfl,rfl,?_⟩⟩)));refine NY (C8 rfl ⟨A3,dx,_,a,_,1,_,rfl,EG,Lj,by decide+kernel,rfl,true,c,_,_,rfl,rfl,by rw[AB,Dj];omega,U9 n,Aa,BV (Bc rfl ⟨rfl,AH ⟨_,_,rfl,rfl,.inr k.w,rfl,?_⟩⟩)⟩);rw[HM,OJ nk,Uz nk,OV.KU (show _=some _ from rfl),OV.Ee];refine⟨.is (G7 k),?_⟩;rw[Im ex];simp only[wk,Ca,B6,Kn];rfl
 .rintro A6⟨s2,rfl⟩;rw[AB,G6];exact⟨_,_,_,_,rfl,rfl,rfl,b,c,rfl⟩
def OU:Au ["kinds","handed","book","word","puts","goes"] ["kinds"] (AL Vg):=by walk_at "z1"
def ZFP:=Sc [(".0",.local),("word",.local),("puts",.local),("goes",.local),("list",.globalImplicit)]
def ZEb:Jb ["kinds","handed","book","word","puts","goes"] (AL Vg) ZFP ["word","puts","goes"] [] []:=⟨rfl,by decide+kernel,by decide+kernel,by decide+kernel,rfl,by decide+kernel,by decide+kernel,by decide+kernel,by decide+kernel⟩
def yG(F:AG K "_law_book" "_law_book" Vg f fd)(m:mg "_law_book"=some (.ref f)):
  AI P w K mg Zp "_law_book" 9 ["kinds"] (AQ (kS A3)):=by
 refine Fz.hF (k:=8) F (by walk_at "bD1") m OU (by rintro _ _⟨ks,rfl,_,rfl⟩;rfl) λD=>⟨_,(A9 rfl (xH (i:=1) OU.nd rfl (Or.inl rfl) rfl ZEb (.cons (.cons (.cons .nil))) (λ_=>rfl) (λ_=>rfl) (CI (qv 0)) (λ_ _ _ _=>by exact FG) (λ_ _ _ _=>by exact(CP (A0 (qv 0) (A0 (Hw (show Dp _ (.type "list") (Fz.jm K)from Fz.tP) FD (A0 (qv 1) A4)) (A0 (qv 2) A4))))))
   (A9 rfl (Ah 2 OU.nd (kG dF D (by decide) Yu (A0 (qv 1) A4)))
   (A9 rfl (C1 (EU EF rfl (ZCp (qv 1)) (Vp rfl (Jn (D8 3 OU.nd) (Jn (D8 4 OU.nd) (Jn (D8 5 OU.nd) WM)))) (AF rfl (Bi (Er FP Sh Si OG (qv 4) (A0 (CP (A0 B2 (A0 (qv 3) A4))) A4))))))
   (A9 rfl (Bi (lR FP PySem.F.slot_list_clear PySem.F.type_list_clear vA (qv 1)))
   (AF rfl (Aq (qv 2))))))),?_⟩
 rintro _ _⟨ks,rfl,g,rfl⟩;show Ws [_,.any,.any,.any,.any,.any] _ _ _;have l8:=g.l8;refine AE (L8 (ZKF (λx u=>∃(k:Kd)(b:Addr),x=k.P/\u=.tp [.fz (.str k.w),.nd .lst b ((k.ps.map BD).map .fz),.fz (.bl k.g)]) (D0 (CS (A1 rfl ⟨_,.inl ⟨rfl,by rw[AB];omega,λx hx=>?_,λl us o G=>?_⟩⟩)))))
 .obtain⟨k,A,rfl⟩:=List.mem_map.mp hx;refine⟨_,rfl,rfl,Fq rfl,?_⟩;refine U6 (GO (EV (A1 rfl (GO (Ub (RL rfl (Bc rfl λb=>GO (EV (A1 rfl (RY ⟨λ_ h=>absurd h Aa,λ_ h=>absurd h Aa,λ_ h=>absurd h Aa,by show 3<=100000;decide,rfl,k,b,rfl,rfl⟩))))))))))
 have L:∃bs:List Addr,bs.length=ks.length/\us=Ep ks bs:=fw o G;obtain⟨bs,y,rfl⟩:=L;show Ws [.is (.lst (ks.map Kd.P)),.ow false (.nd .lst l (Ep ks bs)),.any,.any,.any,.any] _ _ _;refine AE (L8 (ZJX ?_));show Wx [.is (.lst (ks.map Kd.P)),.is (OV.nd .lst l (Ep ks bs)).pv,.any,.any,.any,.any] _ _;refine fj (LS (A1 rfl (Gx λx dx=>⟨_,⟨dx,x,ks,by rw[ZCP ks bs l y],g,rfl⟩,?_⟩)));rintro _ _⟨rfl,I,H,rfl⟩;refine⟨rfl,_,_,rfl,rfl,ZAt _ _ _ _ _ _,?_⟩;show Ws [.is (.lst (ks.map Kd.P)),.ow false (.nd .lst l (Ep ks bs)),.ow false (Ki A3 dx x I H ks),.any,.any,.any] _ _ _;refine Zs 2 rfl ?_;rw[zN];show Ws [.is (.lst (ks.map Kd.P)),.ow false (.nd .lst l (Ep ks bs)),.is (Az A3 ks),.any,.any,.any] _ _ _;refine AE (Bg (sf (i:=1) (a0:=l) ks.length (λn A6=>∃(us:List OV)(t s4 s:Slot),A6=[.is (.lst (ks.map Kd.P)),.ow false (.nd .lst l us),.is (Az A3 ks),t,s4,s]/\us.length=ks.length/\∀(j:Nat)u,us[j]?=some u->∃(k:Kd)(b:Addr)(a:List PV),u=.tp [.fz (.str k.w),.nd .lst b (a.map .fz),.fz (.bl k.g)]/\a.length<=7/\(n<=j->a.length<=6)) ⟨_,_,_,_,rfl,nW ks bs y,λj u d=>?_⟩ (λn A6 M E=>?_) ?_))
 .obtain⟨k,b,A,rfl⟩:=fk ks bs y d;have:=(g.ps k A).1;exact⟨k,b,_,rfl,by rw[AB];omega,λ_=>by rw[AB];exact this⟩
 .obtain⟨us,t,s4,s,rfl,o,d⟩:=E;refine⟨false,us,rfl,o,λAe=>?_⟩;obtain⟨u,r⟩:∃u,us[n]?=some u:=⟨_,As (by omega)⟩;obtain⟨k,b,a,rfl,N,B⟩:=d n u r;have B:=B (B0 _);refine⟨_,r,ZD6 ?_⟩;show Ws [.is (.lst (ks.map Kd.P)),.ow false (.nd .lst l us),.is (Az A3 ks),.is (.str k.w),.raw (ptr b),.is (.bl k.g)] _ _ _;have at':(OV.nd .lst l us).at [n,1]=some (.nd .lst b (a.map .fz)):=by rw[OV.NV,r];show OV.at (.tp [.fz (.str k.w),.nd .lst b (a.map .fz),.fz (.bl k.g)]) [1]=_;rw[OV.Nq];exact OV.KN
  refine wL (i:=1) (ZCt (j:=4) (p:=[n,1]) rfl rfl at' ⟨false,b,_,rfl,rfl,by rw[AB];omega,EV (Dg (BG (CJ (BG (A1 rfl (Cb ⟨by show 2<=100000;decide,?_⟩))))))⟩);refine⟨Aa,us.set n (.tp [.fz (.str k.w),.nd .lst b ((a++[PV.tup [.str "first",.str k.w]]).map .fz),.fz (.bl k.g)]),.is (.str k.w),.raw (ptr b),.is (.bl k.g),?_,by rw[JV];exact o,λj u q=>?_⟩
  .rw[OV.KU r,OV.Ru (show _=some _ from rfl),OV.Ee,Ca];rfl
  .by_cases c:j=n
   .subst c;rw[DA (by omega)]at q;cases q;exact⟨k,b,_,rfl,by rw[By];show _+1<=_;omega,λz=>by omega⟩
   .rw[CZ (BO c)]at q;obtain⟨C,J,v,e,h1,h2⟩:=d j u q;exact⟨C,J,v,e,h1,λz=>h2 (by omega)⟩
 .rintro A6⟨us,t,s4,s,rfl,o,d⟩;refine AE (zG (i:=1) (C8 rfl ⟨false,l,us,rfl,rfl,?_⟩));exact CD (A1 rfl rfl)
def SA:Au ["script","k","cell","rest_here"] ["script","k"] (AL Xf):=by walk_at "z1"
def ZEz(F:AG K "_law_pot" "_law_pot" Xf f fd)(m:mg "_law_pot"=some (.ref f)):
  AI P w K mg Zp "_law_pot" 1 ["script","k"] (Ue K):=by
 refine AI.mk F (F.binds (by walk_at "bD2")) m (F.Ec (k:=0) SA (λvs H Q E h=>?_) (λAf A outer s H vs Q E r h=>?_))
 .obtain⟨a,ns,k,rfl,b,k0,k1,q⟩:=h;rfl
 obtain⟨a,ns,k,rfl,b,k0,k1,q⟩:=h;refine⟨_,(A9 rfl (Ah 2 SA.nd A7)
   (A9 rfl (C1 (B9 (Aw LA (qv 1) (BZ Uh BM (A0 (qv 0) A4))) (AF rfl (Ah 2 SA.nd (B4 JH (Ab Df (qv 0) (qv 1)) (B4 Lb (B4 Lb (B4 Lb (B4 Oh A7 A7) (B4 Oh A7 A7)) (B4 Oh A7 A7)) (B4 Oh A7 A7))))) B8))
   (A9 rfl (Ah 3 SA.nd A7)
   (A9 rfl (C1 (B9 (Aw bG (qv 2) (B4 Oh A7 A7)) (AF rfl (Ah 3 SA.nd (qv 2))) B8))
   (AF rfl (Aq (FF (A0 (qv 3) (A0 (B4 JH (B4 Lb (B4 EJ (B4 EJ (B4 JH (qv 2) A7) (B4 Lb A7 (qv 1))) A7) A7) A7) A4))))))))),?_⟩
 have i:(ns.map V.int).length=ns.length:=AB _;refine⟨λσ' H'=>∃c:Int,σ'=[some (.ref a),some (.int k),some (.int c),none]/\H=H'/\0<=c/\c<10 ^ 256,?_,?_⟩
 .refine⟨_,rfl,_,rfl,a,_,rfl,.inl b,_,_,rfl,rfl,_,rfl,?_⟩;refine BK (λc=>?_) (λc=>?_)
  .have o:k<(((ns.map V.int).length:Nat):Int):=vY c;rw[i]at o;have hk:k.toNat<ns.length:=by omega
   have g:C5 (ns.map V.int) k=some (.int ns[k.toNat]):=Pe k0 (by rw[Ax,As hk] <;> rfl)
   refine⟨_,rfl,_,rfl,a,_,_,_,rfl,rfl,b,g,_,_,rfl,rfl,⟨by decide,by decide,by decide+kernel⟩,_,_,rfl,rfl,⟨by decide,by decide,by decide+kernel⟩,_,_,rfl,rfl,⟨by decide+kernel,by decide+kernel⟩,_,_,rfl,rfl,⟨by decide,by decide,by decide+kernel⟩,_,_,rfl,rfl,⟨by decide+kernel,by decide+kernel⟩,
    _,_,rfl,rfl,⟨by decide,by decide,by decide+kernel⟩,_,_,rfl,rfl,⟨by decide+kernel,by decide+kernel⟩,_,_,rfl,rfl,(by show(0:Int)<_;decide +kernel),?_⟩
   exact⟨_,rfl,rfl,Lq _ (by decide+kernel),Nd _ (by decide+kernel)⟩
  .exact⟨0,rfl,rfl,by decide,by decide+kernel⟩
 rintro σ' H'⟨c,rfl,rfl,n,c1⟩;refine⟨λσ' H'=>∃d:Int,σ'=[some (.ref a),some (.int k),some (.int c),some (.int d)]/\H=H'/\0<=d/\d<10 ^ 256,?_,?_⟩
 .refine⟨_,rfl,_,_,rfl,rfl,⟨by decide,by decide,by decide+kernel⟩,_,_,rfl,rfl,_,rfl,?_⟩;refine BK (λ_=>?_) (λ_=>?_)
  .exact⟨_,rfl,c,rfl,rfl,n,c1⟩
  .exact⟨0,rfl,rfl,by decide,by decide+kernel⟩
 rintro σ' H'⟨d,rfl,rfl,l,j⟩;have e0:0<=c % 2147483629:=Lq _ (by decide);have t:c % 2147483629<2147483629:=Nd _ (by decide);refine⟨_,rfl,_,rfl,_,_,rfl,rfl,(by show(0:Int)<2147483629;decide),_,rfl,_,_,rfl,rfl,⟨by decide+kernel,Pg (by omega) (by omega)⟩,_,_,rfl,rfl,_,_,rfl,rfl,_,_,rfl,rfl,⟨Pg (by omega) (by omega),by decide+kernel⟩,_,_,rfl,rfl,(by show(0:Int)<2147483647;decide),?_⟩;refine⟨(by show 2<=sizeLine;decide),λp e=>?_⟩;exact q p _ e (EH e _) ⟨d,_,B3,l,j,Lq _ (by decide),Nd _ (by decide)⟩
def kD:Au ["pot","kinds","many"] ["pot","kinds"] (AL VR):=by walk_at "z1"
def ZCx:=Sc [(".0",.local),("k",.local),("_law_take",.globalImplicit),("len",.globalImplicit),("kinds",.free),("pot",.free)]
def ZFz:Cs ["pot","kinds","many"] (AL VR) ZCx "k" ["kinds","pot"] [1,0]:=by walk_at "z2"
def sW(F:AG K "_law_crowd" "_law_crowd" VR f fd)(m:mg "_law_crowd"=some (.ref f)):
  AI P w K mg Zp "_law_crowd" 2 ["pot","kinds"] (AQ fN):=by
 refine Fz.hF (k:=1) F (by walk_at "bD2") m kD (by rintro _ _⟨ks,rfl,_,rfl⟩;rfl) λb=>⟨_,(A9 rfl (Ah 2 kD.nd (Ab B5 (CP (A0 A7 (A0 A7 (A0 A7 (A0 A7 (A0 A7 (A0 A7 (A0 A7 (A0 A7 A4))))))))) (Ai Bv b (A0 (qv 0) (A0 A7 A4)))))
   (AF rfl (Aq (Fy rfl ZFz (MW rfl EK (A0 (qv 2) A4)) (λ_ _ _ _=>by exact FG) (λ_ _ _ _=>by exact(Ab (show D1 _ (D4 K)from B5) (Ab (show D1 _ (Lz K)from Df) (qv 0) (Ai Bv b (A0 (qv 1) (A0 (BZ (show Dp _ (.builtin "len") (Vs K)from HE) BM (A0 (qv 0) A4)) A4)))) A7)))))),?_⟩
 rintro _ _⟨ks,rfl,g,rfl⟩;show Ws [_,_,.any] _ _ _;have l1:=g.l1;have l8:=g.l8
 walk_at "ww"
 refine⟨by decide,?_⟩
 walk_at "ww"
 refine⟨by decide,by decide,λt d t1=>?_⟩;obtain⟨z,e,o⟩:=vy d t1;refine⟨_,_,rfl,e,?_⟩;refine Ji (ZA4 (λ_ p=>∃c∈wk ks,p=.str c) ?_)
 walk_at "ww"
 rw[Hq];refine⟨by omega,by omega,by rw[Iw];omega,λx hx=>Fq rfl,λx hx=>?_,λys Ma l=>?_⟩
 .walk_at "ww"
  rw[AB];refine⟨by omega,by omega,λq h n=>?_⟩;obtain⟨qn,rfl⟩:=SV h;have a:qn<ks.length:=by omega
  refine⟨_,_,rfl,Fx (by rw[Ax,As a];rfl),_,.inr ⟨rfl,rfl,?_⟩⟩
  walk_at "ww"
  exact⟨_,List.mem_map.mpr ⟨_,Lr a,rfl⟩,rfl⟩
 .rw[Iw]at Ma;have all:∀y∈ys,∃c∈wk ks,y=.str c:=λy i=>by
   obtain⟨q,a,eq⟩:=FO i;have h1:ys[q]?=some y:=by rw[As a,eq]
   exact l q _ y (As (show q<(L5 z).length by rw[Iw];omega)) h1
  obtain⟨cs,rfl,j⟩:=Wr all;exact⟨cs,rfl,by rw[AB]at Ma;omega,j⟩
def yN:Au ["pot"] ["pot"] (AL YU):=by walk_at "z1"
def ZGf(F:AG K "_law_rule" "_law_rule" YU f fd)(m:mg "_law_rule"=some (.ref f)):
  AI P w K mg Zp "_law_rule" 2 ["pot"] (AQ kh):=by
 refine Fz.hF (k:=1) F (by walk_at "bD1") m yN (by rintro _ _⟨rfl,rfl⟩;rfl) λa=>⟨_,(AF rfl (Aq (Ab B5 (CP (A0 B2 (A0 B2 (A0 B2 A4)))) (Ai Bv a (A0 (qv 0) (A0 A7 A4)))))),?_⟩
 rintro _ _⟨rfl,rfl⟩;show Ws [_] _ _ _
 walk_at "ww"
 refine⟨by decide,?_⟩
 walk_at "ww"
 refine⟨by decide,by decide,λt b t1=>?_⟩;obtain⟨r,a,e⟩:=vf b t1;exact⟨_,_,rfl,e,r,a,rfl⟩
def NC:Au ["pot","kinds","crowd","at","rule"] ["pot","kinds"] (AL cu):=by walk_at "z1"
def ZIi(F:AG K "_law_wrong" "_law_wrong" cu f fd)(m:mg "_law_wrong"=some (.ref f)):
  AI P w K mg Zp "_law_wrong" 4 ["pot","kinds"] (AQ kY):=by
 refine Fz.hF (k:=3) F (by walk_at "bD2") m NC (by rintro _ _⟨ks,rfl,_,rfl⟩;rfl) λi=>⟨_,(A9 rfl (Ah 2 NC.nd (Ai aZ i (A0 (qv 0) (A0 (qv 1) A4))))
   (A9 rfl (C1 (B9 (Aw C2 (Ai Bv i (A0 (qv 0) (A0 A7 A4))) A7) (AF rfl (Ah 2 NC.nd (Jq Ml (B4 Pc (qv 2) (B4 zS (FF (A0 (Ab B5 (Ab Df (qv 1) A7) A7) A4)) A7)) KR (Jv (B4 EJ A7 (Ai Bv i (A0 (qv 0) (A0 A7 A4)))))))) B8))
   (A9 rfl (C1 (B9 (Aw C2 (Ai Bv i (A0 (qv 0) (A0 A7 A4))) A7) (A9 rfl (Ah 3 NC.nd (Ai Bv i (A0 (qv 0) (A0 (B4 EJ (BZ HE BM (A0 (qv 2) A4)) A7) A4))))
   (AF rfl (Ah 2 NC.nd (B4 Pc (B4 Pc (Jq Ml (qv 2) KR (Jv (qv 3))) (FF (A0 (Ab B5 (CP (A0 B2 (A0 B2 (A0 B2 (A0 B2 A4))))) (Ai Bv i (A0 (qv 0) (A0 A7 A4)))) A4))) (Jq Ml (qv 2) (Jv (B4 EJ (qv 3) A7)) KR))))) B8))
   (A9 rfl (Ah 4 NC.nd (Ai cE i (A0 (qv 0) A4)))
   (A9 rfl (C1 (B9 (Aw C2 (Ai Bv i (A0 (qv 0) (A0 A7 A4))) A7) (AF rfl (Ah 4 NC.nd (Ab B5 (CP (A0 B2 (A0 B2 (A0 B2 (A0 B2 A4))))) (Ai Bv i (A0 (qv 0) (A0 A7 A4)))))) B8))
   (AF rfl (Aq (CP (A0 (qv 2) (A0 (qv 4) A4)))))))))),?_⟩
 rintro _ _⟨ks,rfl,g,rfl⟩;show Ws [_,_,.any,.any,.any] _ _ _;have l1:=g.l1;have l8:=g.l8;obtain⟨k0,rest,v⟩:∃k0 rest,ks=k0::rest:=by
  cases ks with
  |nil=>simp at l1
  |cons a b=>exact⟨a,b,rfl⟩
 have s0:GI k0.w:=g.say _ (by rw[v];exact Fh);refine AE (G3 (ZCy rfl (AM (A1 rfl (Ar ⟨_,⟨ks,rfl,g,rfl⟩,?_⟩)))));rintro _⟨cs,rfl,E,u⟩;refine Jx (λA6=>∃Mq:List Str,(Mq.length<=20/\∀c∈Mq,GI c)/\A6=[.AY,.is (.lst (ks.map Kd.P)),.own (Mq.map .str),.any,.any]) ?_ ?_
 .refine Bg (Ap (Ad (BF (Ke rfl (AH ⟨_,rfl,by decide,by decide,λd B A=>AH ⟨rfl,_,rfl,BK (λc2=>?_) (λc2=>An ⟨cs,⟨by omega,λc h=>g.say c (u c h)⟩,rfl⟩)⟩⟩)))));have a0:L2.C5 (ks.map Kd.P) ((0:Nat):Int)=some k0.P:=L2.Fx (j:=0) (by rw[v];rfl);refine G3 (NL (Bd (BL (My (Kc rfl ⟨rfl,Bd (BL (ZEg (Bd (BL (Kg (BG (BV (Bd (KD (Cz rfl ⟨rfl,AH ⟨_,_,rfl,a0,?_⟩⟩))))))))))⟩)))));refine⟨_,.inr ⟨rfl,rfl,AH ⟨_,_,rfl,L2.Fx (j:=0) rfl,Cb ⟨(show 1<=100000 by decide),_,.inl ⟨rfl,rfl,AH ⟨_,rfl,by decide,by decide,(show 1<=10 by decide),_,.inl ⟨rfl,rfl,?_⟩⟩⟩⟩⟩⟩⟩;rw[iY];refine⟨by rw[AB,rC];show _+20<=_;omega,_,.inl ⟨rfl,rfl,Np (P7 (Gi (AH ⟨_,rfl,Ke rfl (AH ⟨_,rfl,by decide,by decide,λy o l=>⟨_,rfl,_,rfl,?_⟩⟩)⟩)))⟩⟩;have e0:cs.map PV.str++List.replicate (Int.toNat 20) (PV.str k0.w)=(cs++List.replicate 20 k0.w).map .str:=by rw[Ca,List.map_replicate];rfl
  rw[e0,N2];refine⟨_,⟨?_,λc h=>?_⟩,rfl⟩
  .refine CB (cq _ (by omega)) ?_;omega
  .rcases List.mem_append.mp (WT (Pl h))with z|z
   .exact g.say c (u c z)
   .rw[(List.mem_replicate.mp z).2];exact s0
 rintro _⟨JA,⟨D,s⟩,rfl⟩;refine Jx (λA6=>∃(Mq:List Str)(q:Slot),(Mq.length<=21/\∀c∈Mq,GI c)/\A6=[.AY,.is (.lst (ks.map Kd.P)),.own (Mq.map .str),q,.any]) ?_ ?_
 .refine Bg (Ap (Ad (BF (Ke rfl (AH ⟨_,rfl,by decide,by decide,λd B A=>AH ⟨rfl,_,rfl,BK (λc2=>?_) (λc2=>An ⟨JA,_,⟨by omega,s⟩,rfl⟩)⟩⟩)))));refine AE (Dc (Ke rfl (Gi (LO (Kc rfl ⟨_,rfl,AH ⟨_,rfl,_,rfl,?_⟩⟩)))));rw[AB];refine⟨by omega,Xk (by omega),λat_ a0 H=>?_⟩;obtain⟨n,rfl⟩:=SV a0;have G:n<=JA.length:=by omega
  refine G3 (My (Bd (BL (My (Bd (BL (NL (Kc rfl ⟨rfl,Np (P7 (A1 rfl ⟨_,rfl,?_⟩))⟩))))))));refine⟨_,.inl ⟨rfl,rfl,Bd (BL (Kg (BG (BV (Bd (Dg (BG (CJ (BG (CJ (BG (CJ (BG (CJ (Cb ⟨by show 4<=100000;decide,_,.inr ⟨rfl,rfl,Ke rfl (AH ⟨_,rfl,by decide,by decide,λy o l=>?_⟩)⟩⟩)))))))))))))))⟩⟩;obtain⟨x,hx,e⟩:=ly ("":Str) "zz" "abcdefghi" "Dog" o l;have C:GI x:=pP (.inl hx);refine⟨_,_,rfl,e,Cb ⟨(show 1<=100000 by decide),_,.inl ⟨rfl,rfl,?_,_,.inl ⟨rfl,rfl,Bd (BL (NL (Kc rfl ⟨rfl,P7 (Gi (A1 rfl ⟨_,rfl,AH ⟨_,rfl,_,rfl,Np ?_⟩⟩))⟩)))⟩⟩⟩⟩
  .rw[N2,AB];have:=cq JA (n:=(n:Int)) (by omega);show _+1<=_;omega
  have u1:=cq JA (n:=(n:Int)) (by omega);have u2:(Dw JA (some ((n:Int)+1)) none).length<=JA.length - n:=ZD9 JA (n:=n+1) (by omega);rw[N2,N2];refine⟨_,.inl ⟨rfl,rfl,?_,Dw JA none (some (n:Int))++[x]++Dw JA (some ((n:Int)+1)) none,.is (.int (n:Int)),⟨?_,λc h=>?_⟩,?_⟩⟩
  .simp only[By,AB,Ir];omega
  .simp only[By,Ir];have:=CB (Nat.add_le_add (Nat.add_le_add_right u1 1) u2) (show(n:Int).toNat+1+(JA.length - n)<=21 by omega);omega
  .rcases List.mem_append.mp h with z|z
   .rcases List.mem_append.mp z with z|z
    .exact s c (WT (Pl z))
    .rw[List.mem_singleton.mp z];exact C
   .exact s c (WT (Pl z))
  .rw[Ca,Ca];rfl
 rintro _⟨t,q,⟨l2,s2⟩,rfl⟩;refine JC 2 rfl ?_;refine AE (Dc (jK rfl (Ar ⟨_,⟨rfl,rfl⟩,?_⟩)));rintro _⟨r,i,rfl⟩;have p:GI r:=by
  unfold Bn at i;simp only[GR,Aa,ZA5]at i;rcases i with rfl|rfl|rfl <;> exact⟨by decide+kernel,by decide+kernel⟩
 refine Jx (λA6=>∃r:Str,GI r/\A6=[.AY,.is (.lst (ks.map Kd.P)),.is (.lst (t.map .str)),q,.is (.str r)]) ?_ ?_
 .refine Bg (Ap (Ad (BF (Ke rfl (AH ⟨_,rfl,by decide,by decide,λd B A=>AH ⟨rfl,_,rfl,BK (λc2=>?_) (λc2=>An ⟨r,p,rfl⟩)⟩⟩)))));refine Dc (BV (Bd (Dg (BG (CJ (BG (CJ (BG (CJ (BG (CJ (Cb ⟨by show 4<=100000;decide,_,.inr ⟨rfl,rfl,Ke rfl (AH ⟨_,rfl,by decide,by decide,λy o l=>?_⟩)⟩⟩))))))))))));obtain⟨x,hx,e⟩:=ly ("":Str) "None" "behind" "al" o l;exact⟨_,_,rfl,e,x,pP (.inr hx),rfl⟩
 rintro _⟨r,p,rfl⟩;exact CD (Dg (BG (A1 rfl (BG (A1 rfl (Cb ⟨by show 2<=100000;decide,t,r,rfl,g,by omega,s2,p⟩))))))
def Yt:Au ["kinds","word","rule","wheres","puts"] ["kinds","word","rule"] (AL Rq):=by walk_at "z1"
def yA:=Sc [(".0",.local),("row",.local),("word",.free)]
def vZ:Cs ["kinds","word","rule","wheres","puts"] (AL Rq) yA "row" ["word"] [1]:=by walk_at "z2"
def ZHc:=Sc [(".0",.local),("where",.local),("kind",.local),("wheres",.free)]
def uZ:Jb ["kinds","word","rule","wheres","puts"] (AL Rq) ZHc ["where","kind"] ["wheres"] [3]:=⟨rfl,by decide+kernel,by decide+kernel,by decide+kernel,rfl,by decide+kernel,by decide+kernel,by decide+kernel,by decide+kernel⟩
def wj(F:AG K "_law_comers" "_law_comers" Rq f fd)(m:mg "_law_comers"=some (.ref f)):
  AI P w K mg Zp "_law_comers" 1 ["kinds","word","rule"] (AQ dE):=by
 refine Fz.hF (k:=0) F (by walk_at "bD3") m Yt (by rintro _ _⟨ks,x,r,rfl,_,_,_,rfl⟩;rfl) λc=>⟨_,(A9 rfl (Ah 3 Yt.nd (LI (Eb c) (uR (cF B2 (CP A4) (cF B2 (CP (A0 B2 (A0 B2 A4))) (cF B2 (CP (A0 B2 (A0 B2 (A0 B2 (A0 B2 A4))))) zg))) rfl rfl (by simp) (by decide)) (qv 2) (λ_ _=>rfl)))
   (A9 rfl (Ah 4 Yt.nd (Ab Df (Fy rfl vZ (CI (qv 0)) (λ_ _ _ _=>by exact(Mb (Aw C2 (Ab (show D1 _ (D4 K)from B5) (qv 1) A7) (qv 0)))) (λ_ _ _ _=>by exact(Ab (show D1 _ (D4 K)from B5) (qv 1) A7))) A7))
   (AF rfl (Aq (kR rfl uZ (.cons (.cons .nil)) (λ_=>rfl) (λ_=>rfl) (CI (qv 4)) (λ_ _ _ _=>by exact(Mb (Aw (show BX _ (compareOp .In) (IM K false)from LM) (qv 1) (qv 0)))) (λ_ _ _ _=>by exact(qv 2))))))),?_⟩
 rintro _ _⟨ks,x,r,rfl,g,hx,c,rfl⟩;show Ws [_,_,_,.any,.any] _ _ _;have l8:=g.l8;have o:=(g.Kb x).1;refine AE (Dc (NQ (zq (ZH6 (by decide) ?_))));refine GO (EV (Dg (Cb ⟨by decide,?_⟩)));refine GO (EV (Dg (BG (CJ (BG (CJ (Cb ⟨by decide,?_⟩)))))));refine GO (EV (Dg (BG (CJ (BG (CJ (BG (CJ (BG (CJ (Cb ⟨by decide,?_⟩)))))))))));refine RY ⟨λ_ h=>absurd h Aa,λ_ h=>absurd h Aa,λ_ h=>absurd h Aa,rfl,λl=>⟨rfl,_,_,by rw[OV.pv],A1 rfl ⟨.inr r,.tup ((UU r).map .str),rfl,?_,?_⟩⟩⟩
 .simp only[Bn,GR,Aa,ZA5]at c;rcases c with rfl|rfl|rfl <;> rfl
 obtain⟨k,rest,i,e⟩:=g.yJ hx;refine AE (Dc (KD (Bd (BL (Et Kd.P (λk=>decide (k.w=x)) (λk=>PV.tup (k.ps.map BD)) (D0 (CS (A1 rfl ⟨_,.inl ⟨rfl,ks,rfl,by omega,λk _=>?_,λk _ _=>?_,?_⟩⟩))) Kd.inj)))))
 .exact Ad (BF (BV (Bc rfl ⟨rfl,AH ⟨_,_,rfl,rfl,A1 rfl ⟨rfl,_,rfl,rfl⟩⟩⟩)))
 .exact BV (Bc rfl ⟨rfl,AH ⟨_,_,rfl,rfl,rfl⟩⟩)
 rw[i];refine⟨_,.inl ⟨rfl,rfl,AH ⟨0,PV.tup (k.ps.map BD),rfl,(Fx (j:=0) rfl:L2.C5 (List.map (λk:Kd=>PV.tup (k.ps.map BD)) (k::rest)) ((0:Nat):Int)=_),?_⟩⟩⟩;rw[e];refine Ji (fM (λq=>match q with | .tup [.str a,_]=>decide (a∈UU r)|_=>false) (λq=>match q with | .tup [_,b]=>b|_=>.AA) (D0 (CS (A1 rfl ⟨_,.inr ⟨rfl,by rw[AB];omega,λq d=>?_,?_⟩⟩))))
 .obtain⟨p,n,rfl⟩:=List.mem_map.mp d;refine⟨_,rfl,rfl,?_,λ_=>A1 rfl rfl⟩;exact Ad (Tj (A1 rfl ⟨p.1,rfl,Bc rfl ⟨_,rfl,_,rfl,rfl⟩⟩))
 .rw[<- ZGu g c x,List.filter_map,Cm,Cm];rfl
def UQ:Au ["kinds","some","rule","found","left","word"] ["kinds","some","rule"] (AL c7):=by walk_at "z1"
def ZDs(F:AG K "_law_reached" "_law_reached" c7 f fd)(m:mg "_law_reached"=some (.ref f)):
  AI P w K mg Zp "_law_reached" 2 ["kinds","some","rule"] (AQ iB):=by
 refine Fz.hF (k:=1) F (by walk_at "bD3") m UQ (by rintro _ _⟨ks,S,r,rfl,_,_,_,_,rfl⟩;rfl) λi=>⟨_,(A9 rfl (Ah 3 UQ.nd (FF A4))
   (A9 rfl (Ah 4 UQ.nd (Hw RV FD (A0 (qv 1) A4)))
   (A9 rfl (C1 (QX EF (Aw (zI i.SE) (qv 4) (FF A4)) (A9 rfl (Ah 5 UQ.nd (lR FP rR rW ug (qv 4)))
   (AF rfl (B9 (Aw M5 (qv 5) (qv 3)) (A9 rfl (Bi (Er FP Sh Si OG (qv 3) (A0 (qv 5) A4)))
   (AF rfl (Bi (Er FP PySem.F.slot_list_extend PySem.F.type_list_extend wN (qv 4) (A0 (Ai O1 i (A0 (qv 0) (A0 (qv 5) (A0 (qv 2) A4)))) A4))))) B8)))))
   (AF rfl (Aq (qv 3)))))),?_⟩
 rintro _ _⟨ks,S,r,rfl,g,i,d,s,rfl⟩;show Ws [_,_,_,.any,.any,.any] _ _ _;have l8:=g.l8
 walk_at "ww"
 refine⟨by decide,?_⟩
 walk_at "ww"
 refine pq (λm A6=>∃(A B:List Str)(p:Slot),A6=[.is (.lst (ks.map Kd.P)),.sq false (S.map .str),.is (.str r),.own (A.map .str),.own (B.map .str),p]/\A.Nodup/\(∀y∈A,Bq (Aj ks r) S y)/\(∀y∈B,Bq (Aj ks r) S y)/\(∀y∈S,y∈A∨y∈B)/\(∀y∈A,∀z∈Aj ks r y,z∈A∨z∈B)/\B.length<=12+6 * A.length/\m+7 * A.length=B.length+7 * 9) (S.length+7 * 9) ?_ ?_
 .exact⟨[],S,_,rfl,HN,λy a=>absurd a Aa,λy a=>.here a,λy a=>.inr a,λy a=>absurd a Aa,by simp;omega,by simp⟩
 rintro m A6⟨A,B,p,rfl,nd,e,l,n,o,u,D⟩;have v:A.length<=8:=by
  have:=GY nd (bs:=wk ks) λy a=>Rv g s (e y a);rw[AB]at this;omega
 walk_at "ww"
 refine⟨by decide,_,.inl ⟨rfl,rfl,rfl,_,rfl,?_⟩⟩;rw[AB];refine BK (λc=>?_) (λc=>?_)
 .obtain⟨B',x,rfl⟩:∃B' x,B=B'++[x]:=by
   have G:B≠[]:=λz=>by subst z;cases c
   exact⟨_,_,(List.dropLast_concat_getLast G).symm⟩
  have j:=l x (by simp);have t:=Rv g s j;refine AE (ZIW (y:=.str x) rfl (by simp) ?_);rw[Ca,B6,Kn,List.dropLast_concat];show Ws [.is (.lst (ks.map Kd.P)),.sq false (S.map .str),.is (.str r),.own (A.map .str),.own (B'.map .str),.is (.str x)] _ _ _;rw[By,Ir]at u D
  walk_at "ww"
  refine BK (λc2=>?_) (λc2=>An ?_)
  .have hx:x∉A:=λz=>by rw[uL z]at c2;cases c2
   walk_at "ww"
   refine⟨by rw[AB];omega,?_⟩;refine xr rfl (Hl (AM (A1 rfl (AM (A1 rfl (AM (A1 rfl (Ar ⟨_,⟨ks,x,r,rfl,g,t,i,rfl⟩,?_⟩))))))));rintro _ rfl;have H:=Yv g r x;refine⟨by rw[AB,AB];omega,(8 * 7+B'.length+(Aj ks r x).length) - 7 * A.length,by omega,A++[x],B'++Aj ks r x,.is (.str x),?_,Ol nd hx,?_,?_,?_,?_,?_,?_⟩
   .rw[Ca,Ca];rfl
   .intro y a;rcases List.mem_append.mp a with h|h
    .exact e y h
    .rw[List.mem_singleton.mp h];exact j
   .intro y a;rcases List.mem_append.mp a with h|h
    .exact l y (by simp[h])
    .exact .step j h
   .intro y a;rcases n y a with h|h
    .exact .inl (by simp[h])
    .rcases List.mem_append.mp h with h|h
     .exact .inr (by simp[h])
     .exact .inl (by simp[List.mem_singleton.mp h])
   .intro y a z d;rcases List.mem_append.mp a with h|h
    .rcases o y h z d with q|q
     .exact .inl (by simp[q])
     .rcases List.mem_append.mp q with q|q
      .exact .inr (by simp[q])
      .exact .inl (by simp[List.mem_singleton.mp q])
    .rw[List.mem_singleton.mp h]at d;exact .inr (by simp[d])
   .rw[By,By,Ir];omega
   .rw[By,By,Ir];omega
  .have hx:x∈A:=Decidable.byContradiction λz=>c2 (by rw[vc z];rfl);refine⟨m - 1,by omega,A,B',_,rfl,nd,e,λy a=>l y (by simp[a]),λy a=>?_,λy a z d=>?_,by omega,by omega⟩
   .rcases n y a with h|h
    .exact .inl h
    .rcases List.mem_append.mp h with h|h
     .exact .inr h
     .exact .inl (by rw[List.mem_singleton.mp h];exact hx)
   .rcases o y a z d with q|q
    .exact .inl q
    .rcases List.mem_append.mp q with q|q
     .exact .inr q
     .exact .inl (by rw[List.mem_singleton.mp q];exact hx)
 .have E:B=[]:=by
   cases B with
   |nil=>rfl
   |cons b r=>exact absurd rfl c
  subst E;refine Zc rfl ⟨A,rfl,nd,v,λx=>⟨e x,λq=>?_⟩⟩
  induction q with
  |here m=>exact(n _ m).elim id λz=>absurd z Aa
  |step _ a C=>exact(o _ C _ a).elim id λz=>absurd z Aa
def gZ:Au ["kinds","crowd","rule","word"] ["kinds","crowd","rule"] (AL Y6):=by walk_at "z1"
def ZHt(F:AG K "_law_rings" "_law_rings" Y6 f fd)(m:mg "_law_rings"=some (.ref f)):
  AI P w K mg Zp "_law_rings" 3 ["kinds","crowd","rule"] (AQ Y5):=by
 refine Fz.hF (k:=2) F (by walk_at "bD3") m gZ (by rintro _ _⟨ks,cs,r,rfl,_,_,_,_,rfl⟩;rfl) λa=>⟨_,(A9 rfl (C1 (EU EF rfl (CI (Ai U2 a (A0 (qv 0) (A0 (qv 1) (A0 (qv 2) A4))))) (D8 3 gZ.nd) (AF rfl (B9 (Aw LM (qv 3) (Ai U2 a (A0 (qv 0) (A0 (Ai O1 a (A0 (qv 0) (A0 (qv 3) (A0 (qv 2) A4)))) (A0 (qv 2) A4))))) (AF rfl (Aq HD)) B8))))
   (AF rfl (Aq HD))),?_⟩
 rintro _ _⟨ks,cs,r,rfl,g,a,u,s,rfl⟩;show Ws [_,_,_,.any] _ _ _;refine AE (Bg (Eo (λxs i A6=>∃(L:List Str)(l:Slot),xs=L.map .str/\A6=[.is (.lst (ks.map Kd.P)),.sq false (cs.map .str),.is (.str r),l]/\(∀x,x∈L↔Bq (Aj ks r) cs x)/\∀x∈L.take i,¬ Bq (Aj ks r) (Aj ks r x) x) (D0 (CS (BL (Hl (AM (A1 rfl (Dl (FA rfl (AM (A1 rfl (Ar ⟨_,⟨ks,cs,r,rfl,g,a,u,s,rfl⟩,?_⟩)))))))))))));rintro _⟨L,rfl,nd,l8,d⟩;refine⟨_,.inl ⟨rfl,⟨L,_,rfl,rfl,d,λx hx=>absurd hx (by simp)⟩,?_,?_⟩⟩
 .rintro i p A6 o⟨L',l,b,rfl,_,j⟩;have b:=ZG b;subst b;rw[Ax]at o;obtain⟨x,ex,rfl⟩:=Option.map_eq_some_iff.mp o;have n:=C7 ex;have t:=Rv g s ((d x).mp n);have v:=Yv g r x;refine G2 ?_;refine Ap (Ad (Tj (A1 rfl ⟨x,rfl,Bd (BL (Hl (AM (A1 rfl (Dl (Bd (BL (Hl (AM (A1 rfl (AM (A1 rfl (AM (A1 rfl (Ar ⟨_,⟨ks,x,r,rfl,g,t,a,rfl⟩,?_⟩)))))))))))))))⟩)));rintro _ rfl;refine⟨_,.inl ⟨rfl,AM (A1 rfl (Ar ⟨_,⟨ks,Aj ks r x,r,rfl,g,a,by omega,λy e=>g.cK e,rfl⟩,?_⟩))⟩⟩;rintro _⟨M,rfl,_,_,hM⟩;refine⟨_,.inl ⟨rfl,M,rfl,_,rfl,?_⟩⟩;refine BK (λc=>?_) (λc=>An ?_)
  .exact CD (Kk ⟨true,rfl,⟨λ_=>⟨x,(d x).mp n,(hM x).mp (vY c)⟩,λ_=>rfl⟩⟩)
  .refine⟨L,_,rfl,rfl,d,λy e=>?_⟩;rw[Im ex]at e;rcases List.mem_append.mp e with h|h
   .exact j y h
   .rw[List.mem_singleton.mp h];exact λq=>c (uL ((hM x).mpr q))
 .rintro A6⟨L',l,b,rfl,_,j⟩;have b:=ZG b;subst b;rw[AB,G6]at j;refine CD (Kk ⟨false,rfl,⟨λz=>(by cases z),λ⟨x,h1,h2⟩=>absurd h2 (j x ((d x).mpr h1))⟩⟩)
def dQ:Au ["which","kinds","crowd","rule","words","word"] ["which","kinds","crowd","rule"] (AL WN):=by walk_at "z1"
def ZBd:=Sc [(".0",.local),("row",.local)]
def vG:Cs ["which","kinds","crowd","rule","words","word"] (AL WN) ZBd "row" [] []:=by walk_at "z2"
def ZAO(F:AG K "_law_due" "_law_due" WN f fd)(m:mg "_law_due"=some (.ref f)):
  AI P w K mg Zp "_law_due" 5 ["which","kinds","crowd","rule"] (AQ gu):=by
 refine Fz.hF (k:=4) F (by walk_at "bD4") m dQ (by rintro _ _⟨w,ks,cs,r,rfl,_,_,rfl⟩;rfl) λl=>⟨_,(A9 rfl (SJ (i:=4) dQ.nd rfl (Or.inl rfl) rfl vG (CI (qv 1)) (λ_ _ _ _=>by exact FG) (λ_ _ _ _=>by exact(Ab (show D1 _ (D4 K)from B5) (qv 0) A7)))
   (A9 rfl (B9 (Jp (Aw LA (qv 0) A7) (Jh (Aw M5 (qv 3) (CP (A0 B2 (A0 B2 (A0 B2 A4))))))).pt (AF rfl (Aq (CP (A0 A7 (A0 (qv 3) A4))))) B8)
   (A9 rfl (B9 (Aw R8 (BZ HE BM (A0 (qv 2) A4)) A7) (AF rfl (Aq (CP (A0 A7 (A0 B2 A4))))) B8)
   (A9 rfl (C1 (EU EF rfl (CI (qv 2)) (D8 5 dQ.nd) (AF rfl (B9 (Aw M5 (qv 5) (qv 4)) (AF rfl (Aq (CP (A0 A7 (A0 (qv 5) A4))))) B8))))
   (A9 rfl (B9 (Oc (Jp (Aw C2 (qv 0) A7) (Jh (IA (Ai WB l (A0 (qv 1) (A0 (qv 2) (A0 B2 A4))))))).pt (PK (Jp (Aw C2 (qv 0) A7) (Jh (IA (Ai WB l (A0 (qv 1) (A0 (qv 2) (A0 (qv 3) A4))))))).pt)).pt (AF rfl (Aq (CP (A0 A7 (A0 B2 A4))))) B8)
   (AF rfl (Aq GD))))))),?_⟩
 rintro _ _⟨w,ks,cs,r,rfl,hw,⟨g,IG,sc,G⟩,rfl⟩;show Ws [_,_,_,_,.any,.any] _ _ _;have l8:=g.l8;refine AE (G3 (Et Kd.P (λ_=>true) (λk=>PV.str k.w) (D0 (CS (A1 rfl ⟨_,.inl ⟨rfl,ks,rfl,by omega,λ_ _=>Fq rfl,λk _ _=>BV (Bc rfl ⟨rfl,AH ⟨_,_,rfl,rfl,rfl⟩⟩),?_⟩⟩))) Kd.inj));rw[List.filter_eq_self.mpr λ_ _=>rfl,show(ks.map λk=>PV.str k.w)=(wk ks).map .str from by unfold wk;rw[Cm];rfl];refine JC 4 rfl ?_;have q:∀{ss:List Slot}{k:PV->Prop},ss[3]?=some (.is (.str r))->k (.bl (!decide (r∈Bn)))->Wp ss (Ba (IM K true) (Al 3) (Mu (AX (tC (.str "none")) (AX (tC (.str "ahead")) (AX (tC (.str "all")) BA))))) k:=λE hk=>Ui (A1 E ⟨r,rfl,Bd (Dg (BG (CJ (BG (CJ (BG (CJ (Cb ⟨by show 3<=100000;decide,_,.inr ⟨rfl,Bn,rfl,hk⟩⟩))))))))⟩)
 by_cases a:w<4/\r∉Bn
 .refine AE (Ap (Fl (Ad (O4 (A1 rfl ⟨_,rfl,AH ⟨_,rfl,_,rfl,Cd (uL (by omega)) (Ad (q rfl ⟨_,rfl,Cd (by rw[vc a.2];rfl) ?_⟩))⟩⟩)))));refine CD (Dg (BG (AH (BG (A1 rfl (Cb ⟨by show 2<=100000;decide,?_⟩))))));unfold Bb;rw[u4 a];rfl
 have l:w<4->r∈Bn:=λz=>ZKM λh=>a ⟨z,h⟩;refine AE ?_;have go:∀{nx:List Slot->Prop}{R:Ag},Ws [.is (.int w),.is (.lst (ks.map Kd.P)),.is (.lst (cs.map .str)),.is (.str r),.is (.lst ((wk ks).map .str)),.any] M7 nx R->∀{u:TS},Ws [.is (.int w),.is (.lst (ks.map Kd.P)),.is (.lst (cs.map .str)),.is (.str r),.is (.lst ((wk ks).map .str)),.any] (Vo (Ti (K2 (Ba (Gd λi j=>.bl (decide (i<j))) (Al 0) (tC (.int 4)))) (K2 (Ba (IM K true) (Al 3) (Mu (AX (tC (.str "none")) (AX (tC (.str "ahead")) (AX (tC (.str "all")) BA))))))) u M7) nx R:=λ{nx R}h{u}=>by
  by_cases D:w<4
  .exact Ap (Fl (Ad (O4 (A1 rfl ⟨_,rfl,AH ⟨_,rfl,_,rfl,Cd (uL (by omega)) (Ad (q rfl ⟨_,rfl,BC (by rw[uL (l D)];decide) h⟩))⟩⟩))))
  .exact Ap (Fl (Ad (O4 (A1 rfl ⟨_,rfl,AH ⟨_,rfl,_,rfl,BC (λz=>D (by have:=vY z;omega)) (BC (by decide) h)⟩⟩))))
 refine go (An ?_);refine AE (Ap (Ad (O4 (LO (Cz rfl ⟨_,rfl,AH ⟨_,rfl,_,rfl,BK (λc=>?_) (λc=>An ?_)⟩⟩)))))
 .have c:=vY c;rw[AB]at c;refine CD (Dg (BG (AH (BG (CJ (Cb ⟨by show 2<=100000;decide,?_⟩))))));rw[um a (by omega)];rfl
 have s:cs.length<=12:=dw λz=>c (uL (by rw[AB];omega));refine AE (Bg (Eo (λ_ i A6=>∃A:Slot,A6=[.is (.int w),.is (.lst (ks.map Kd.P)),.is (.lst (cs.map .str)),.is (.str r),.is (.lst ((wk ks).map .str)),A]/\∀x∈cs.take i,x∈wk ks) (D0 (CS (A1 rfl ⟨_,.inl ⟨rfl,⟨_,rfl,λx hx=>absurd hx (by simp)⟩,?_,?_⟩⟩)))))
 .rintro i p A6 C⟨A,rfl,n⟩;rw[Ax]at C;obtain⟨c,ex,rfl⟩:=Option.map_eq_some_iff.mp C;refine G2 ?_;refine Ap (Ad (Ui (A1 rfl ⟨c,rfl,Cz rfl ⟨wk ks,rfl,_,rfl,?_⟩⟩)))
  by_cases t:c∈wk ks
  .rw[uL t];refine BC (by decide) (An ⟨_,rfl,λx hx=>?_⟩);rw[Im ex]at hx;rcases List.mem_append.mp hx with z|z
   .exact n x z
   .rw[List.mem_singleton.mp z];exact t
  .rw[vc t];refine Cd rfl (CD (Dg (BG (AH (BG (A1 rfl (Cb ⟨by show 2<=100000;decide,?_⟩)))))));rw[zx a s (lx ex n t)];rfl
 .rintro A6⟨A,rfl,n⟩;rw[AB,G6]at n;have B:∀{ss:List Slot}{te:TE}{o:Str}{k:Bool->Prop},ss[1]?=some (.is (.lst (ks.map Kd.P)))->ss[2]?=some (.is (.lst (cs.map .str)))->Wp ss te (λp=>p=.str o)->o∈Bn->(∀b:Bool,(b=true↔FJ (Aj ks o) cs)->k b)->Wt ss (tB (ED (AQ Y5) [] E0 (AX (Al 1) (AX (Al 2) (AX te BA))))) k:=λ{ss te o k}h1 h2 hw l hk=>by
   refine GF (wp_call (AM (A1 h1 (Dl (Cz h2 (AM (hw.mono λp z=>?_)))))));subst z;refine Ar ⟨_,⟨ks,cs,o,rfl,g,l,s,n,rfl⟩,?_⟩;rintro _⟨b,rfl,d⟩;exact⟨b,rfl,hk b d⟩
  have e:∀{ss:List Slot}{nx:List Slot->Prop}(b:Bool),(b=true↔((w=4/\FJ (Aj ks "ahead") cs)∨(w=3/\FJ (Aj ks r) cs)))->if b=true then Ws ss (Hb (Mu (AX (tC (.int 13)) (AX (tC (.str "")) BA)))) nx (.is λp=>p=Rr (Bb w ks cs r))else Ws ss M7 (λA6=>Ws A6 (Hb (tC .AA)) (λx=>∃k,(Ag.is λp=>p=Rr (Bb w ks cs r))=Ag.is k/\k .AA) (.is λp=>p=Rr (Bb w ks cs r))) (.is λp=>p=Rr (Bb w ks cs r)):=λ{ss nx}b d=>by
   cases b with
   |true=>
    refine Cd rfl (CD (Dg (BG (AH (BG (CJ (Cb ⟨by show 2<=100000;decide,?_⟩)))))));rw[ZGa a s n (d.mp rfl)];rfl
   |false=>
    refine BC (by decide) (An (CD (DZ ?_)));rw[Oq l s n λz=>absurd (d.mpr z) (by decide)];rfl
  by_cases v:w=4
  .subst v;refine AE (Ap (Lg (Fl (Ad (BF (A1 rfl (AH ⟨rfl,_,rfl,Cd rfl (B rfl rfl (CJ rfl) (by decide+kernel) λb d=>?_)⟩)))))));cases b with
   |true=>exact Cd rfl (e true ⟨λ_=>.inl ⟨rfl,d.mp rfl⟩,λ_=>rfl⟩)
   |false=>exact BC (by decide) (Fl (Ad (BF (A1 rfl (AH ⟨rfl,_,rfl,BC (by decide) (e false ⟨λz=>(by cases z),λz=>z.elim (λz=>d.mpr z.2) (λz=>absurd z.1 (by decide))⟩)⟩)))))
  refine AE (Ap (Lg (Fl (Ad (BF (A1 rfl (AH ⟨rfl,_,rfl,BC (λz=>v (nj z)) (BC (by decide) ?_)⟩)))))))
  by_cases y:w=3
  .subst y;refine Fl (Ad (BF (A1 rfl (AH ⟨rfl,_,rfl,Cd rfl (B rfl rfl (A1 rfl rfl) (l (by decide)) λb d=>?_)⟩))));exact e b ⟨λz=>.inr ⟨rfl,d.mp z⟩,λz=>z.elim (λz=>absurd z.1 (by decide)) (λz=>d.mpr z.2)⟩
  .exact Fl (Ad (BF (A1 rfl (AH ⟨rfl,_,rfl,BC (λz=>y (nj z)) (e false ⟨λz=>(by cases z),λz=>z.elim (λz=>absurd z.1 v) (λz=>absurd z.1 y)⟩)⟩))))
def ZHG:Au ["self","crowd","rule"] ["self","crowd","rule"] (AL VB):=by walk_at "z1"
def ZHL:=Sc [(".0",.local),("word",.local)]
def ZJu:Cs ["self","crowd","rule"] (AL VB) ZHL "word" [] []:=by walk_at "z2"
def i5:∀ss R,(dH AD) ss R->ss.length=3:=by rintro _ _⟨dx,a,tp,cs,r,rfl,_,rfl⟩;rfl
def ZDh(F:AG K "__init__" "Run.__init__" VB f fd)(b:Mk K AD f):
  R6 P w K mg Zp AD 2 ["self","crowd","rule"] (BN (dH AD)):=by
 refine⟨f,fd,F.Ec (k:=1) ZHG (λvs H Q E h=>Fz.MR i5 h) (λAf A outer s H vs Q E d h=>?_),(F.binds (by walk_at "bD3")),b⟩
 refine⟨_,(A9 rfl (JR (qv 0) (qv 2))
   (A9 rfl (JR (qv 0) (Hw RV FD (A0 (qv 1) A4)))
   (A9 rfl (JR (qv 0) (Fy rfl ZJu (CI (qv 1)) (λ_ _ _ _=>by exact FG) (λ_ _ _ _=>by exact HD)))
   (A9 rfl (JR (qv 0) A7)
   (AF rfl (JR (qv 0) A7)))))),?_⟩
 refine Fz.QD h i5 ?_;rintro _ _⟨dx,a,tp,cs,r,rfl,c,rfl⟩;show Ws [_,_,_] _ _ _;refine AE (Ll (i:=0) (EV (A1 rfl (C8 rfl ⟨true,AD,dx,_,a,_,rfl,rfl,BH,O2,by decide,Aa,?_⟩))));rw[OV.Ee];show Ws [.ow true (.nd (.obj AD dx ["rule"]) a [.fz (.str r)]),_,_] _ _ _;refine AE (Ll (i:=0) (Ub (RL rfl (bR (cO rfl λaT=>C8 rfl ⟨true,AD,dx,_,a,_,rfl,rfl,BH,Ew,by decide,Aa,?_⟩)))));rw[OV.Ee];show Ws [.ow true (.nd (.obj AD dx ["rule","things"]) a [.fz (.str r),.nd .lst aT ((cs.map .str).map .fz)]),_,_] _ _ _;refine AE (Ll (i:=0) (t:=.nd (.obj AD dx ["rule","things"]) a [.fz (.str r),.nd .lst aT ((cs.map .str).map .fz)]) (Ub (Et PV.str (λ_=>true) (λ_=>.bl true) (D0 (cO rfl ?_)) str_inj)));refine⟨cs,rfl,by omega,λx _=>Fq rfl,λx _ _=>Kk rfl,λaW=>C8 rfl ⟨true,AD,dx,_,a,_,rfl,rfl,BH,Fb,by decide,Aa,?_⟩⟩;rw[OV.Ee,List.filter_eq_self.mpr (λ_ _=>rfl)];show Ws [.ow true (.nd (.obj AD dx ["rule","things","awaited"]) a [.fz (.str r),.nd .lst aT ((cs.map .str).map .fz),.nd .lst aW ((cs.map λ_=>PV.bl true).map .fz)]),_,_] _ _ _;refine AE (Ll (i:=0) (EV (AH (C8 rfl ⟨true,AD,dx,_,a,_,rfl,rfl,BH,Dd,by decide,Aa,?_⟩))));rw[OV.Ee];show Ws [.ow true (.nd (.obj AD dx ["rule","things","awaited","gap"]) a [.fz (.str r),.nd .lst aT ((cs.map .str).map .fz),.nd .lst aW ((cs.map λ_=>PV.bl true).map .fz),.fz (.int 0)]),_,_] _ _ _;refine Ll (i:=0) (EV (AH (C8 rfl ⟨true,AD,dx,_,a,_,rfl,rfl,BH,JS,by decide,Aa,?_⟩)));rw[OV.Ee];refine⟨_,_,_,_,rfl,rfl,rfl,aT,aW,?_⟩;unfold Ej;rw[ZKH,wx];rfl
def ZEB:Au ["self"] ["self"] (AL bS):=by walk_at "z1"
def yC(F:AG K "goes_on" "Run.goes_on" bS f fd)(a:Meth K AD "goes_on" f):
  CN P w K mg Zp AD "goes_on" 2 ["self"] (AQ (fW AD)):=by
 refine⟨f,fd,Fz.Oj (k:=1) F ZEB (by rintro _ _⟨s,rfl,rfl⟩;rfl) λb=>⟨_,(AF rfl (Aq (Ht LM HD (Cc (qv 0))))),?_⟩,(F.binds (by walk_at "bD1")),a,BH⟩
 rintro _ _⟨s,rfl,rfl⟩;show Ws [_] _ _ _;refine CD (iD (Kk ⟨_,rfl,Bd (Jd (A1 rfl ⟨AD,Fc,_,2,_,rfl,BH,Fb,by decide+kernel,rfl,?_⟩))⟩));exact⟨_,.inl ⟨rfl,_,YB _,by rw[Xb];rfl⟩⟩
def XW:Au ["self","goes_round","place"] ["self"] (AL Z5):=by walk_at "z1"
def ZIv(F:AG K "tell" "Run.tell" Z5 f fd)(g:Meth K AD "tell" f):
  CN P w K mg Zp AD "tell" 3 ["self"] (BN (iO AD)):=by
 refine⟨f,fd,Fz.jj (k:=2) F XW (by rintro _ _⟨a,s,t,rfl,_,_,_,rfl⟩;rfl) λq=>⟨_,(A9 rfl (Ah 1 XW.nd (Ht M5 HD (Jq Ml (Cc (qv 0)) (Jv (Cc (qv 0))) KR)))
   (A9 rfl (C1 (B9 (Oc (IA (qv 1)) (PK (Aw C2 (Cc (qv 0)) A7))).pt (AF rfl (ZEJ (qv 0) A7 Vi)) B8))
   (A9 rfl (Ah 2 XW.nd (Er FP Wd rS ZJH (Cc (qv 0)) (A0 HD (A0 (ZK (IA (qv 1)) A7 (Cc (qv 0))) A4))))
   (A9 rfl (VF HD (dO (Cc (qv 0)) (qv 2) set_list))
   (A9 rfl (JR (qv 0) (B4 EJ (qv 2) A7))
   (AF rfl (Aq (Ab Df (Cc (qv 0)) (qv 2))))))))),?_⟩,(F.binds (by walk_at "bD1")),g,BH⟩
 rintro _ _⟨a,s,t,rfl,⟨dx,aT,aW,rfl⟩,l,o,rfl⟩;unfold Ej;show Ws [.ow true (Co AD dx a aT aW s.r (De s.th) (DY s.th) s.gap s.B7),.any,.any] _ _ _;refine AE (Dc (iD (Kk ⟨_,rfl,Bd (BL (NL (PJ (QU rfl BH Fb ⟨aW,_,rfl,rfl,?_⟩))))⟩)))
 walk_at "ww"
 refine Oi rfl BH Dd ?_
 walk_at "ww"
 obtain⟨x,hx,b,d⟩:=fP l;have h:=(List.getElem?_eq_some_iff.mp hx).1;refine⟨(s.th.map (·.2)).drop s.gap,by rw[iF,YB,<- Lu],?_⟩
 have n:(!decide (true∈(s.th.map (·.2)).drop s.gap))=EI s:=by unfold EI;rw[Xb,Lu]
 show Ws [.ow true (Co AD dx a aT aW s.r (De s.th) (DY s.th) s.gap s.B7),.is (.bl (!decide (true∈(s.th.map (·.2)).drop s.gap))),.any] _ _ _
 rw[n];refine Jx (λA6=>A6=[.ow true (Co AD dx a aT aW s.r (De s.th) (DY s.th) s.gap (Dt s).B7),.is (.bl (EI s)),.any]) ?_ ?_
 .have e:EI s=true∨s.B7=0->Ws [.ow true (Co AD dx a aT aW s.r (De s.th) (DY s.th) s.gap s.B7),.is (.bl (EI s)),.any] (QB K (Al 0) (tC (V.int 1)) (Ks λi j=>i+j) "rounds") (λA6=>A6=[.ow true (Co AD dx a aT aW s.r (De s.th) (DY s.th) s.gap (Dt s).B7),.is (.bl (EI s)),.any]) (.mt λp t'=>p=.str (Bf s)/\Gw AD a (Dt s) t'):=λc=>by
   refine ZAg (i:=0) rfl BH JS ?_;rw[show(Dt s).B7=s.B7+1 from u4 c];rfl
  refine Bg (Ap (Lg (GF (A1 rfl ⟨_,rfl,BK (λc=>Cd rfl (e (.inl c))) (λc=>?_)⟩))));refine Ad (BF (kl rfl BH JS (AH ⟨rfl,_,rfl,BK (λc2=>e (.inr ?_)) (λc2=>An ?_)⟩)))
  .have:(s.B7:Int)=0:=by simpa[alike]using c2
   omega
  .rw[show(Dt s).B7=s.B7 from tK λz=>z.elim c λz=>c2 (by rw[z];rfl)]
 rintro _ rfl;refine Jx (λA6=>A6=[.ow true (Co AD dx a aT aW s.r (De s.th) (DY s.th) s.gap (Dt s).B7),.is (.bl (EI s)),.is (.int (Dh s:Nat))]) ?_ ?_
 .refine Dc (ZGN (PJ (QU rfl BH Fb ⟨aW,_,rfl,rfl,_,YB _,bA (GF (A1 rfl ⟨_,rfl,BK (λc=>?_) (λc=>?_)⟩))⟩)))
  .rw[u4 c]at b d;exact AH ⟨0,rfl,b,by rw[d];rfl⟩
  .rw[tK c]at b d;exact Oi rfl BH Dd ⟨s.gap,rfl,b,by rw[d];rfl⟩
 rintro _ rfl;refine AE (ZCW (i:=0) (Kk (QU rfl BH Fb ⟨true,aW,_,rfl,rfl,A1 rfl ⟨Dh s,rfl,by rw[QQ];exact h,?_⟩⟩)));rw[HM,cD,ZD0];refine AE (aC (i:=0) rfl BH Dd (Gi (A1 rfl ⟨_,rfl,AH ⟨_,rfl,_,rfl,?_⟩⟩)));have m:Bf s=x:=by unfold Bf;rw[hx]
 refine MX (i:=0) (nk:=.obj AD dx Fc) (a0:=a) rfl (KD (PJ (To (i:=0) rfl BH Ew ⟨aT,_,rfl,rfl,A1 rfl ⟨_,_,rfl,L2.Fx (j:=Dh s) (by unfold De;rw[Ax,hx];rfl),?_⟩⟩)));refine⟨by rw[m],dx,aT,aW,?_⟩;unfold Ej;rw[show(Dt s).th=s.th.modify (Dh s) λx=>(x.1,false)from rfl,ZJO];rfl
def ZGg:Au ["gap","at"] ["gap","at"] (AL ZF):=by walk_at "z1"
def ZEp(F:AG K "gap_behind_put" "gap_behind_put" ZF f fd)(m:mg "gap_behind_put"=some (.ref f)):
  AI P w K mg Zp "gap_behind_put" 1 ["gap","at"] (AQ pZ):=by
 refine Fz.hF (k:=0) F (by walk_at "bD2") m ZGg (by rintro _ _⟨g,i,rfl,rfl⟩;rfl) λa=>⟨_,(A9 rfl (B9 (Aw LA (qv 1) (qv 0)) (AF rfl (Aq (B4 EJ (qv 0) A7))) B8)
   (AF rfl (Aq (qv 0)))),?_⟩
 rintro _ _⟨g,i,rfl,rfl⟩;show Ws [_,_] _ _ _
 walk_at "ww"
 refine BK (λc=>?_) (λc=>?_)
 .have h:i<g:=by have:=vY c;omega
  walk_at "ww"
  unfold Jw;rw[u4 h];rfl
 .have h:¬ i<g:=λz=>c (uL (by omega));refine An ?_
  walk_at "ww"
  unfold Jw;rw[tK h]
def ZIR:Au ["loop","at"] ["loop","at"] (AL Z6):=by walk_at "z1"
def wY(F:AG K "joins" "joins" Z6 f fd)(m:mg "joins"=some (.ref f)):
  AI P w K mg Zp "joins" 1 ["loop","at"] (AQ pd):=by
 refine Fz.hF (k:=0) F (by walk_at "bD2") m ZIR (by rintro _ _⟨r,g,i,xs,rfl,rfl⟩;rfl) λa=>⟨_,(AF rfl (Aq (xR (Ht C2 (Ab B5 (qv 0) A7) B2) (QP (Vu (Ht C2 (Ab B5 (qv 0) A7) B2) (QP (Ht bG (qv 1) (Ab B5 (qv 0) A7)))))))),?_⟩
 rintro _ _⟨r,g,i,xs,rfl,rfl⟩;show Ws [_,_] _ _ _;refine CD (pA (BF ?_))
 walk_at "ww"
 refine⟨0,.str r,rfl,Fx (j:=0) rfl,?_⟩
 walk_at "ww"
 unfold O3;have q:∀z:Str,alike (.str r) (.str z)=decide (V.str r=V.str z):=λz=>by
  show decide (r=z)=_;rw[Nc,ZA3,ZA3];exact⟨λh=>by rw[h],λh=>by injection h⟩
 rw[q];refine BK (λc=>by rw[u4 c]) (λc=>?_);rw[tK c];refine VG (BF ?_)
 walk_at "ww"
 refine⟨0,.str r,rfl,Fx (j:=0) rfl,?_⟩
 walk_at "ww"
 rw[q];refine BK (λc=>?_) (λc=>by rw[tK c]);rw[u4 c]
 walk_at "ww"
 refine⟨1,.int g,rfl,Fx (j:=1) rfl,?_⟩
 walk_at "ww"
 rfl
def ZBy:Au ["self","word","at"] ["self","word","at"] (AL YL):=by walk_at "z1"
def qA:∀ss R,(Y9 AD) ss R->ss.length=3:=by rintro _ _⟨a,s,t,w,i,rfl,_,_,_,rfl⟩;rfl
def ZDg(F:AG K "put_in" "Run.put_in" YL f fd)(c:Meth K AD "put_in" f):
  CN P w K mg Zp AD "put_in" 3 ["self","word","at"] (BN (Y9 AD)):=by
 refine⟨f,fd,F.Ec (k:=2) ZBy (λvs H Q E h=>Fz.MR qA h) (λAf A outer s H vs Q E b h=>?_),(F.binds (by walk_at "bD3")),c,BH⟩
 refine⟨_,(A9 rfl (Bi (Er FP eE rV YD (Cc (qv 0)) (A0 (qv 2) (A0 (Ai Y4 b (A0 (CP (A0 (Cc (qv 0)) (A0 (Cc (qv 0)) A4))) (A0 (qv 2) A4))) A4))))
   (A9 rfl (Bi (Er FP eE rV YD (Cc (qv 0)) (A0 (qv 2) (A0 (qv 1) A4))))
   (AF rfl (JR (qv 0) (Ai dM b (A0 (Cc (qv 0)) (A0 (qv 2) A4))))))),?_⟩
 refine Fz.QD h qA ?_;rintro _ _⟨a,s,t,w,i,rfl,⟨dx,aT,aW,rfl⟩,hi,d,rfl⟩;unfold Ej;show Ws [.ow true (Co AD dx a aT aW s.r (De s.th) (DY s.th) s.gap s.B7),_,_] _ _ _;refine AE (gf (i:=0) (QU rfl BH Fb ⟨true,aW,_,rfl,rfl,A1 rfl ⟨i,rfl,by rw[QQ];exact hi,wp_call (AM (Dg (BG (tX rfl BH O2 (BG (Oi rfl BH Dd (Cb ⟨by simp,AM (A1 rfl (Ar ⟨_,⟨s.r,s.gap,i,[],rfl,rfl⟩,?_⟩))⟩)))))))⟩⟩));rintro _ rfl;refine⟨by rw[QQ];omega,?_⟩;rw[HM,cD];refine AE (gf (i:=0) (To rfl BH Ew ⟨true,aT,_,rfl,rfl,A1 rfl ⟨i,rfl,by rw[QH];exact hi,A1 rfl ⟨by rw[QH];omega,?_⟩⟩⟩));rw[HM,pk];refine aC (i:=0) rfl BH Dd (wp_call (AM (Oi rfl BH Dd (AM (A1 rfl (Ar ⟨_,⟨s.gap,i,rfl,rfl⟩,?_⟩))))));rintro _ rfl;refine⟨_,rfl,_,_,_,_,rfl,rfl,rfl,dx,aT,aW,?_⟩;unfold Ej Va;rw[rm,xx];rfl
def wt:Au ["self","where","nexts"] ["self","where","nexts"] (AL YZ):=by walk_at "z1"
def su(F:AG K "place_by" "Run.place_by" YZ f fd)(d:Meth K AD "place_by" f):
  CN P w K mg Zp AD "place_by" 2 ["self","where","nexts"] (AQ (m8 AD)):=by
 refine⟨f,fd,Fz.Oj (k:=1) F wt (by rintro _ _⟨s,b,n,rfl,_,rfl⟩;rfl) λe=>⟨_,(A9 rfl (B9 (Aw C2 (qv 1) B2) (AF rfl (Aq (B4 EJ (Cc (qv 0)) (qv 2)))) B8)
   (A9 rfl (B9 (Aw C2 (qv 1) B2) (AF rfl (Aq (BZ HE BM (A0 (Cc (qv 0)) A4)))) B8)
   (A9 rfl (B9 (Aw C2 (qv 1) B2) (AF rfl (Aq (B4 LJ (Cc (qv 0)) A7))) B8)
   (AF rfl (Aq A7))))),?_⟩,(F.binds (by walk_at "bD3")),d,BH⟩
 rintro _ _⟨s,b,n,rfl,g,rfl⟩;show Ws [_,_,_] _ _ _;have a:∀z:Str,alike (PV.str b) (.str z)=true↔b=z:=λz=>by simp[alike]
 unfold ID
 walk_at "ww"
 refine BK (λc=>?_) (λc=>An ?_)
 .rw[u4 ((a _).mp c)];refine CD (Gi (Jd (A1 rfl ⟨AD,Fc,_,3,_,rfl,BH,Dd,by decide+kernel,rfl,?_⟩)));exact⟨_,rfl,A1 rfl ⟨_,rfl,rfl⟩⟩
 rw[tK λz=>c ((a _).mpr z)]
 walk_at "ww"
 refine BK (λc=>?_) (λc=>An ?_)
 .rw[u4 ((a _).mp c)];refine CD (LO (Bd (Jd (A1 rfl ⟨AD,Fc,_,1,_,rfl,BH,Ew,by decide+kernel,rfl,?_⟩))));exact⟨_,.inl ⟨rfl,by rw[QH]⟩⟩
 rw[tK λz=>c ((a _).mpr z)]
 walk_at "ww"
 refine BK (λc=>?_) (λc=>An ?_)
 .rw[u4 ((a _).mp c)];refine CD (Gi (Jd (A1 rfl ⟨AD,Fc,_,3,_,rfl,BH,Dd,by decide+kernel,rfl,?_⟩)));refine⟨_,rfl,AH ⟨_,rfl,?_⟩⟩;rw[show(s.gap:Int) - 1=((s.gap - 1:Nat):Int) by omega]
 rw[tK λz=>c ((a _).mpr z)];exact CD (AH rfl)
def ZBR:Au ["gap","place"] ["gap","place"] (AL Xh):=by walk_at "z1"
def ZED(F:AG K "gap_behind_take" "gap_behind_take" Xh f fd)(m:mg "gap_behind_take"=some (.ref f)):
  AI P w K mg Zp "gap_behind_take" 1 ["gap","place"] (AQ qY):=by
 refine Fz.hF (k:=0) F (by walk_at "bD2") m ZBR (by rintro _ _⟨g,i,rfl,rfl⟩;rfl) λa=>⟨_,(A9 rfl (B9 (Aw LA (qv 1) (qv 0)) (AF rfl (Aq (B4 LJ (qv 0) A7))) B8)
   (AF rfl (Aq (qv 0)))),?_⟩
 rintro _ _⟨g,i,rfl,rfl⟩;show Ws [_,_] _ _ _
 walk_at "ww"
 refine BK (λc=>?_) (λc=>?_)
 .have h:i<g:=by have:=vY c;omega
  walk_at "ww"
  unfold Q7;rw[u4 h];show PV.int _=PV.int _
  congr 1;omega
 .have h:¬ i<g:=λz=>c (uL (by omega));refine An ?_
  walk_at "ww"
  unfold Q7;rw[tK h]
def ZEK:Au ["self","place"] ["self","place"] (AL aQ):=by walk_at "z1"
def kq:∀ss R,(Yo AD) ss R->ss.length=2:=by rintro _ _⟨a,s,t,i,rfl,_,_,rfl⟩;rfl
def ZB4(F:AG K "take_out" "Run.take_out" aQ f fd)(b:Meth K AD "take_out" f):
  CN P w K mg Zp AD "take_out" 3 ["self","place"] (BN (Yo AD)):=by
 refine⟨f,fd,F.Ec (k:=2) ZEK (λvs H Q E h=>Fz.MR kq h) (λAf A outer s H vs Q E c h=>?_),(F.binds (by walk_at "bD2")),b,BH⟩
 refine⟨_,(A9 rfl (Bi (Er FP rR rW fA (Cc (qv 0)) (A0 (qv 1) A4)))
   (A9 rfl (Bi (Er FP rR rW fA (Cc (qv 0)) (A0 (qv 1) A4)))
   (AF rfl (JR (qv 0) (Ai ag c (A0 (Cc (qv 0)) (A0 (qv 1) A4))))))),?_⟩
 refine Fz.QD h kq ?_;rintro _ _⟨a,s,t,i,rfl,⟨dx,aT,aW,rfl⟩,⟨hi,d⟩,rfl⟩;unfold Ej;show Ws [.ow true (Co AD dx a aT aW s.r (De s.th) (DY s.th) s.gap s.B7),_] _ _ _;refine AE (qK (i:=0) (QU rfl BH Fb ⟨true,aW,_,rfl,rfl,A1 rfl ⟨i,rfl,by rw[QQ];exact hi,by rw[QQ];omega,?_⟩⟩));rw[HM,cD];refine AE (qK (i:=0) (To rfl BH Ew ⟨true,aT,_,rfl,rfl,A1 rfl ⟨i,rfl,by rw[QH];exact hi,by rw[QH];omega,?_⟩⟩));rw[HM,pk];refine aC (i:=0) rfl BH Dd (wp_call (AM (Oi rfl BH Dd (AM (A1 rfl (Ar ⟨_,⟨s.gap,i,rfl,rfl⟩,?_⟩))))));rintro _ rfl;refine⟨_,rfl,_,_,_,_,rfl,rfl,rfl,dx,aT,aW,?_⟩;unfold Ej Um;rw[<- ZFq,<- ZJy];rfl
def Uk:Au ["self","puts","goes","nexts","put"] ["self","puts","goes"] (AL Zf):=by walk_at "z1"
def q8:∀ss R,(d5 AD) ss R->ss.length=3:=by rintro _ _⟨a,s,t,ps,g,x,rfl,_,_,_,_,rfl⟩;rfl
def ZCh(F:AG K "do_errand" "Run.do_errand" Zf f fd)(D:Meth K AD "do_errand" f):
  CN P w K mg Zp AD "do_errand" 4 ["self","puts","goes"] (BN (d5 AD)):=by
 refine⟨f,fd,F.Ec (k:=3) Uk (λvs H Q E h=>Fz.MR q8 h) (λAf A outer s H vs Q E l h=>?_),(F.binds (by walk_at "bD3")),D,BH⟩
 refine⟨_,(A9 rfl (Ah 3 Uk.nd A7)
   (A9 rfl (C1 (EU EF rfl (CI (qv 1)) (D8 4 Uk.nd) (A9 rfl (Bi (IS Xq l (by decide) (qv 0) (A0 (Ab B5 (qv 4) A7) (A0 (IS bW l (by decide) (qv 0) (A0 (Ab B5 (qv 4) A7) (A0 (qv 3) A4))) A4))))
   (AF rfl (B9 (Aw C2 (Ab B5 (qv 4) A7) B2) (AF rfl (SH (i:=3) Uk.nd rfl (Or.inl rfl) A7 Vi)) B8)))))
   (AF rfl (B9 (IA (qv 2)) (AF rfl (Bi (IS aY l (by decide) (qv 0) (A0 (B4 LJ (Cc (qv 0)) A7) A4)))) B8)))),?_⟩
 refine Fz.QD h q8 ?_;rintro _ _⟨a,s,t,ps,g,x,rfl,M,⟨hx,J⟩,l,⟨hw,S⟩,rfl⟩;have T:=(List.getElem?_eq_some_iff.mp hx).1;have e0:=ZDt hx J;obtain⟨b,eq⟩:∃b,b=(s.th.take (s.gap - 1),([]:List Ak),s.th.drop (s.gap - 1+1)):=⟨_,rfl⟩;have G:GB b+1=s.th.length:=by rw[e0,Uq,<- eq]
 obtain⟨dx,aT,aW,rfl⟩:=id M;show Ws [.ow true (Ej AD dx a aT aW s),.is (.lst (ps.map BD)),.is (.bl g),.any,.any] _ _ _
 walk_at "ww"
 refine Eo (λ_ i A6=>∃(t':OV)(s4:Slot),Gw AD a (D6 s.r x s.B7 (GV s.r (ps.take i) b)) t'/\A6=[.ow true t',.is (.lst (ps.map BD)),.is (.bl g),.is (.int (GV s.r (ps.take i) b).2.1.length),s4]) ?_
 walk_at "ww"
 have N:D6 s.r x s.B7 b=s:=by rw[eq];exact e0.symm
 refine⟨⟨Ej AD dx a aT aW s,.any,⟨dx,aT,aW,?_⟩,?_⟩,?_,?_⟩
 .rw[List.take_zero];show _=Ej AD dx a aT aW (D6 s.r x s.B7 b);rw[N]
 .rw[List.take_zero];show _=[_,_,_,Slot.is (.int b.2.1.length),_];rw[eq];rfl
 .rintro i p A6 B⟨t',s4,Ln,rfl⟩;rw[Ax]at B;obtain⟨⟨d,e⟩,C,rfl⟩:=Option.map_eq_some_iff.mp B;obtain⟨hi,R⟩:=List.getElem?_eq_some_iff.mp C;have L:=hw (d,e) (C7 C);obtain⟨q,NJ⟩:∃q,q=GV s.r (ps.take i) b:=⟨_,rfl⟩;have es:GV s.r (ps.take (i+1)) b=Dy s.r q (d,e):=by rw[Sf hi,R,ZIV,NJ]
  have I:GB q=GB b+i:=by rw[NJ,Th,Dj];omega
  rw[<- NJ]at Ln ⊢;rw[es];have v:=u7 (k:=e) (x:=x) (n:=s.B7) (q:=q) l L;have y:=Uq s.r x s.B7 q;obtain⟨dx',Ou,u,rfl⟩:=id Ln;refine G2 ?_;show Ws [.ow true (Ej AD dx' a Ou u (D6 s.r x s.B7 q)),.is (.lst (ps.map BD)),.is (.bl g),.is (.int q.2.1.length),.is (.tup [.str d,.str e])] _ _ _;refine AE (RK (i:=0) (V5 (us:=_) rfl (by decide+kernel) (LS (BV (Bc rfl ⟨rfl,AH ⟨_,_,rfl,Fx (j:=1) rfl,?_⟩⟩)))));refine LS (bK (i:=0) (C8 rfl ⟨dx',Fc,a,_,rfl,by decide+kernel,nP (BV (Bc rfl ⟨rfl,AH ⟨_,_,rfl,Fx (j:=0) rfl,nP (A1 rfl (cC ⟨_,⟨D6 s.r x s.B7 q,d,q.2.1.length,wH (λp=>[Slot.is p,.is (.str d),.is (.int q.2.1.length)]) YC,WY _,rfl⟩,?_⟩))⟩⟩))⟩));rintro _ rfl;refine⟨rfl,Gx ⟨_,⟨a,D6 s.r x s.B7 q,_,e,_,rfl,Ln,v.1,by omega,rfl⟩,?_⟩⟩;rintro _ t2⟨rfl,Fi⟩;rw[v.2]at Fi;obtain⟨Pp,Qf,Qa,rfl⟩:=id Fi;refine⟨_,_,rfl,?_⟩;have m:=ZHu s.r q d e;show Ws [.ow true (Ej AD Pp a Qf Qa (D6 s.r x s.B7 (Dy s.r q (d,e)))),.is (.lst (ps.map BD)),.is (.bl g),.is (.int q.2.1.length),.is (.tup [.str d,.str e])] _ _ _;refine Ap (Ad (BF (BV (Bc rfl ⟨rfl,AH ⟨_,_,rfl,Fx (j:=0) rfl,CJ ⟨rfl,_,rfl,BK (λc=>?_) (λc=>An ?_)⟩⟩⟩))))
  .have o:d="next" := by simpa[alike]using c
   rw[u4 o]at m;refine VM rfl (AH ⟨_,rfl,_,.is (.tup [.str d,.str e]),Fi,?_⟩);rw[m];rfl
  .have o:d ≠"next" := λz=>c (by rw[z];simp[alike])
   rw[tK o]at m;exact⟨_,.is (.tup [.str d,.str e]),Fi,by rw[m];rfl⟩
 .rintro A6⟨t',s4,Ln,rfl⟩;rw[AB,G6]at Ln ⊢;obtain⟨q,NJ⟩:∃q,q=GV s.r ps b:=⟨_,rfl⟩;have I:GB q=GB b+ps.length:=by rw[NJ,Th]
  have σ:IX s.r s.th (s.gap - 1) x ps g=(q.1++(if g then[]else[x])++q.2.1++q.2.2,q.1.length+if g then 0 else 1):=by unfold IX;rw[<- eq,<- NJ]
  rw[σ];rw[<- NJ]at Ln ⊢;have y:=Uq s.r x s.B7 q;obtain⟨dx',Ou,u,rfl⟩:=id Ln;refine Ap (GF (A1 rfl ⟨_,rfl,?_⟩));cases g with
  |true=>
   refine Cd rfl ?_;refine RK (i:=0) (V5 (us:=_) rfl (by decide+kernel) (LS (Gi (Oi rfl BH Dd ⟨_,rfl,AH ⟨_,rfl,?_⟩⟩))));rw[show((D6 s.r x s.B7 q).gap:Int) - 1=(q.1.length:Nat)from by show((q.1.length+1:Nat):Int) - 1=_;omega];refine Gx ⟨_,⟨a,D6 s.r x s.B7 q,_,q.1.length,rfl,Ln,⟨by rw[y];unfold GB;omega,by omega⟩,rfl⟩,?_⟩;rintro _ t2⟨rfl,Fi⟩;rw[ZDS]at Fi;obtain⟨Pp,Qf,Qa,rfl⟩:=id Fi;refine⟨_,_,rfl,_,_,_,_,rfl,rfl,rfl,Pp,Qf,Qa,?_⟩;dsimp only;rw[u4 rfl,u4 rfl,Dz,C6];rfl
  |false=>
   refine BC (by decide) (An ?_);refine⟨_,_,_,_,rfl,rfl,rfl,dx',Ou,u,?_⟩;dsimp only;rw[tK (by decide),tK (by decide),C6,C6];rfl
def ZIp:Au ["self","word"] ["self","word"] (AL XH):=by walk_at "z1"
def ZFW(F:AG K "puts" "Errands.puts" XH f fd)(b:Meth K A3 "puts" f):
  CN P w K mg Zp A3 "puts" 4 ["self","word"] (AQ (Rc A3)):=by
 refine⟨f,fd,Fz.Oj (k:=3) F ZIp (by rintro _ _⟨ks,x,rfl,_,_,rfl⟩;rfl) λa=>⟨_,(A9 rfl (Bi (E8 HW a (by decide) Yp rfl (A0 (Cc (qv 0)) (A0 (qv 1) A4))))
   (AF rfl (Aq (Hw RV FD (A0 (LI (Eb a) (Cc (qv 0)) (qv 1) (λ_ _=>rfl)) A4))))),?_⟩,(F.binds (by walk_at "bD2")),b,EG⟩
 rintro _ _⟨ks,x,rfl,g,hx,rfl⟩;show Ws [_,_] _ _ _;have l8:=g.l8;obtain⟨k,d,_,c,_,_⟩:=g.at hx;refine AE (FH (Fo (AM (Jd (A1 rfl ⟨A3,Dm,_,0,_,rfl,EG,IP,by decide+kernel,rfl,AM (A1 rfl (Ar ⟨_,_,⟨wk ks,_,x,rfl,.inr ⟨_,rfl⟩,by rw[AB];omega,g.say x hx,rfl,rfl⟩,trivial,λe h=>h.1 hx,?_⟩))⟩)))));rintro _⟨rfl,_⟩;refine Ji (RL rfl (Bd (NQ (Jd (A1 rfl ⟨A3,Dm,_,0,_,rfl,EG,IP,by decide+kernel,rfl,Bj (wk ks),_,rfl,A1 rfl ⟨.inr x,_,rfl,M8 hx (by rw[Ax,d];rfl),_,.inr ⟨rfl,?_⟩⟩⟩)))));rw[c]
def ZB2:Au ["self","word"] ["self","word"] (AL bZ):=by walk_at "z1"
def ZAq(F:AG K "goes" "Errands.goes" bZ f fd)(b:Meth K A3 "goes" f):
  CN P w K mg Zp A3 "goes" 4 ["self","word"] (AQ (WJ A3)):=by
 refine⟨f,fd,Fz.Oj (k:=3) F ZB2 (by rintro _ _⟨ks,x,rfl,_,_,rfl⟩;rfl) λa=>⟨_,(A9 rfl (Bi (E8 HW a (by decide) Yp rfl (A0 (Cc (qv 0)) (A0 (qv 1) A4))))
   (AF rfl (Aq (LI (Eb a) (Cc (qv 0)) (qv 1) (λ_ _=>rfl))))),?_⟩,(F.binds (by walk_at "bD2")),b,EG⟩
 rintro _ _⟨ks,x,rfl,g,hx,rfl⟩;show Ws [_,_] _ _ _;have l8:=g.l8;obtain⟨k,c,_,_,d,_⟩:=g.at hx;refine AE (FH (Fo (AM (Jd (A1 rfl ⟨A3,Dm,_,1,_,rfl,EG,Lj,by decide+kernel,rfl,AM (A1 rfl (Ar ⟨_,_,⟨wk ks,_,x,rfl,.inr ⟨_,rfl⟩,by rw[AB];omega,g.say x hx,rfl,rfl⟩,trivial,λe h=>h.1 hx,?_⟩))⟩)))));rintro _⟨rfl,_⟩;refine CD (NQ (Jd (A1 rfl ⟨A3,Dm,_,1,_,rfl,EG,Lj,by decide+kernel,rfl,Bj (wk ks),_,rfl,A1 rfl ⟨.inr x,_,rfl,M8 hx (by rw[Ax,c];rfl),?_⟩⟩)));rw[d]
def ZFN:Au ["rule"] ["rule"] (AL bL):=by walk_at "z1"
def ZB7(F:AG K "check_rule" "check_rule" bL f fd)(m:mg "check_rule"=some (.ref f)):
  Bs P w K mg Zp "check_rule" 3 ["rule"] (Bx (Qv AS)):=by
 refine Fz.hX (k:=2) F (by walk_at "bD1") m ZFN (by rintro _ _ _⟨r,rfl,_,rfl,rfl⟩;rfl) λE b=>⟨_,(AF rfl (B9 (Aw M5 (qv 0) (D5 (v:=.ref Le) (by rfl) aR rfl)) (AF rfl (gE bp (by rfl) OO b (by decide) rfl rfl E4 (A0 (qv 0) A4))) B8)),?_⟩
 rintro _ _ _⟨r,rfl,a,rfl,rfl⟩;intro i;have C:HZ K Le ([("none":Str), "ahead","all"].map .str):=HZ.of Zj rfl rfl;show Ws [_] _ _ _;refine Ap (Ad (Vc (neg:=true) C (A1 rfl ⟨r,rfl,_,rfl,?_⟩)));refine BK (λc=>?_) (λc=>?_)
 .refine ba (A1 rfl ⟨a,trivial,rfl,?_⟩);unfold RS
  simpa using c
 .refine An ⟨_,rfl,rfl,?_⟩;show decide (r∈([("none":Str), "ahead","all"]))=true;cases e:decide (r∈([("none":Str), "ahead","all"]))with
  |true=>rfl
  |false=>exact absurd (by rw[e];rfl) c
def ki:Au ["book","crowd","word"] ["book","crowd"] (AL Zz):=by walk_at "z1"
def wO(F:AG K "check_crowd" "check_crowd" Zz f fd)(m:mg "check_crowd"=some (.ref f)):
  Bs P w K mg Zp "check_crowd" 5 ["book","crowd"] (Bx (O5 A3 AZ AK)):=by
 refine Fz.hX (k:=4) F (by walk_at "bD2") m ki (by rintro _ _ _⟨ks,tp,cs,rfl,_,_,_,rfl,rfl⟩;rfl) λE b=>⟨_,(A9 rfl (B9 (Aw R8 (BZ HE BM (A0 (qv 1) A4)) (D5 (v:=.int 12) (by rfl) dX ⟨_,rfl⟩)) (AF rfl (oO (by rfl) O6 Ym rfl rfl E4 (A0 B2 A4))) B8)
   (AF rfl (EU cR rfl (CI (qv 1)) (D8 2 ki.nd) (AF rfl (Bi (E8 HW b (by decide) E4 rfl (A0 (HX DO b (by decide) (qv 0)) (A0 (qv 2) A4)))))))),?_⟩
 rintro _ _ _⟨ks,tp,cs,rfl,g,IG,sc,rfl,rfl⟩;intro i0;show Ws [_,_,.any] _ _ _;have l8:=g.l8
 walk_at "ww"
 rw[AB];refine BK (λc=>?_) (λc=>An ?_)
 .refine fJ ?_
  walk_at "ww"
  exact⟨by simp,trivial,(10, ""),by unfold JP;rw[u4 (by have:=vY c;omega)],rfl,.inl rfl⟩
 have j:cs.length<=12:=dw λz=>c (uL (by omega));refine Eo (λ_ i A6=>∃(s2:Slot),A6=[.is (Az A3 ks),.sq tp (cs.map .str),s2]/\∀x∈cs.take i,x∈wk ks) ?_
 walk_at "ww"
 refine⟨⟨_,rfl,λx hx=>absurd hx (by simp)⟩,?_,?_⟩
 .rintro i p A6 d⟨s2,rfl,a⟩;rw[Ax]at d;obtain⟨c,ex,rfl⟩:=Option.map_eq_some_iff.mp d;refine G2 ?_;refine FH (Fo (AM (BL (GX (A1 rfl ⟨Dm,_,rfl,by decide+kernel,Ar ⟨_,⟨ks,rfl,g,rfl⟩,?_⟩⟩)))));rintro _ rfl;refine AM (A1 rfl (Ar ⟨_,_,⟨wk ks,_,c,rfl,.inl rfl,by rw[AB];omega,sc c (C7 ex),rfl,rfl⟩,trivial,λe h=>⟨(0,c),?_,h.2,.inr rfl⟩,?_⟩))
  .unfold JP;rw[tK (by omega),lx ex a h.1]
  rintro _⟨rfl,l⟩;refine⟨_,rfl,λx hx=>?_⟩;rw[Im ex]at hx;rcases List.mem_append.mp hx with z|z
  .exact a x z
  .rw[List.mem_singleton.mp z];exact l
 .rintro A6⟨s2,rfl,a⟩;rw[AB,G6]at a;exact⟨_,rfl,rfl,j,a⟩
def TY:Au ["book","crowd","rule","most","run","told","word"] ["book","crowd","rule","most"] (AL aH):=by walk_at "z1"
def ZDx(F:AG K "ran" "ran" aH f fd)(m:mg "ran"=some (.ref f)):
  Bs P w K mg Zp "ran" 9 ["book","crowd","rule","most"] (Bx (pS A3 AS AZ AK Ac)):=by
 refine Fz.hX (k:=8) F (by walk_at "bD4") m TY (by rintro _ _ _⟨ks,tp,cs,r,m,rfl,_,_,rfl,_⟩;rfl) λE a=>⟨_,(A9 rfl (Bi (E8 HR a (by decide) E4 rfl (A0 (qv 2) A4)))
   (A9 rfl (Bi (E8 GN a (by decide) E4 rfl (A0 (qv 0) (A0 (qv 1) A4))))
   (A9 rfl (Ah 4 TY.nd (kG Yq a (by decide) da (A0 (qv 1) (A0 (qv 2) A4))))
   (A9 rfl (Ah 5 TY.nd (FF A4))
   (A9 rfl (C1 (QX cR (Jp (Aw LA (BZ HE BM (A0 (qv 5) A4)) (qv 3)) (Jh (IA (HX Tu a (by decide) (qv 4))))).pt (A9 rfl (Ah 6 TY.nd (HX c6 a (by decide) (qv 4)))
   (A9 rfl (Bi (IS bo a (by decide) (qv 4) (A0 (IS Gz a (by decide) (qv 0) (A0 (qv 6) A4)) (A0 (IS OE a (by decide) (qv 0) (A0 (qv 6) A4)) A4))))
   (AF rfl (Bi (Er FP Sh Si OG (qv 5) (A0 (qv 6) A4))))))))
   (AF rfl (Aq (CP (A0 (qv 5) (A0 (Cc (qv 4)) (A0 (Cc (qv 4)) (A0 (zA (HX Tu a (by decide) (qv 4))) A4)))))))))))),?_⟩
 rintro _ _ _⟨ks,tp,cs,r,m,rfl,Ce,V,rfl,T⟩;intro i0;show Ws [_,_,_,_,.any,.any,.any] _ _ _;obtain⟨g,IG,sc,σ⟩:=Ce;refine AE (FH (Fo (AM (A1 rfl (Ar ⟨_,_,⟨r,rfl,σ.1,rfl,rfl⟩,trivial,λe h=>Vv (by decide) h,?_⟩)))));rintro _⟨rfl,a⟩;have a:r∈Bn:=vY a;refine AE (FH (Fo (AM (A1 rfl (Dl (bR (cO rfl (Ar ⟨_,_,⟨ks,tp,cs,rfl,g,IG,sc,rfl,rfl⟩,trivial,λe h=>Qo (λ_=>a) h,?_⟩))))))));rintro _⟨rfl,G,x⟩;have S:Bb 0 ks cs r=none:=Oq (λ_=>a) G x λz=>z.elim (λz=>absurd z.1 (by decide)) (λz=>absurd z.1 (by decide));obtain rfl:=T.go S;have hk:=g;have v:=x;have x:=G;refine AE (L8 (fj (LS (A1 rfl (LS (A1 rfl (Gx λb e=>⟨_,⟨e,b,tp,cs,r,rfl,by omega,rfl⟩,?_⟩)))))));rintro _ _⟨rfl,aT,aW,rfl⟩;refine⟨rfl,_,_,rfl,?_⟩;refine AE (G3 (Kg (Cb ⟨by simp,?_⟩)));refine Jx (λA6=>∃(q:Rn×List Str)(t:OV)(d:Slot),JB ks (m - q.2.length) q=JB ks m (OT r cs)/\(q.2.length<m->Fw q.1.th=false)/\Gw AD b q.1 t/\A6=[.is (Az A3 ks),.is (NS tp (cs.map .str)),.is (.str r),.is (.int m),.ow false t,.own (q.2.map .str),d]) (Bg (pq (λn A6=>∃(q:Rn×List Str)(t:OV)(d:Slot),n=m - q.2.length/\JB ks (m - q.2.length) q=JB ks m (OT r cs)/\UN ks q.2.length q.1/\Gw AD b q.1 t/\A6=[.is (Az A3 ks),.is (NS tp (cs.map .str)),.is (.str r),.is (.int m),.ow false t,.own (q.2.map .str),d]) m ⟨OT r cs,Ej AD e b aT aW (OT r cs).1,.any,rfl,rfl,⟨a,λy R=>?_,?_⟩,⟨e,aT,aW,rfl⟩,rfl⟩ ?_)) ?_
 .obtain⟨c,Me,rfl⟩:=List.mem_map.mp R;exact v c Me
 .show(cs.map _).length<=12+6 * 0;rw[AB];omega
 .rintro n A6⟨q,t,d,rfl,o,ok,l,rfl⟩;obtain⟨dx,aT,aW,rfl⟩:=id l;refine Fl (Ad ?_)
  walk_at "ww"
  rw[AB];refine BK (λc=>?_) (λc=>BC (by decide) ⟨q,_,d,o,λz=>absurd (uL (by omega)) c,l,rfl⟩);have Z:q.2.length<m:=by have:=vY c;omega
  refine GF (bK (i:=4) (C8 rfl ⟨dx,Fc,b,_,rfl,by decide+kernel,cC ⟨_,⟨q.1,wH (λp=>[Slot.is p]) YC,rfl⟩,?_⟩⟩));rintro _ rfl;refine⟨rfl,_,rfl,BK (λj=>?_) (λj=>⟨q,_,d,o,λ_=>by cases e:Fw q.1.th with|true=>exact absurd e j|false=>rfl,l,rfl⟩)⟩
  obtain⟨M,J,⟨tb,L⟩,tl⟩:=pK j;have hw:=ok.wd _ L;have l1:=ok.len;obtain⟨u,W,Y,I,X,U⟩:=hk.at hw;have kp:=hk.ps u U;refine AE (Q9 (i:=4) (V5 (us:=_) rfl (by decide+kernel) (Gx ⟨_,⟨b,q.1,_,rfl,l,j,by omega,rfl⟩,?_⟩)));rintro _ t2⟨rfl,Fi⟩;obtain⟨Pp,Qf,Qa,rfl⟩:=id Fi;refine⟨_,_,rfl,?_⟩;show Ws [.is (Az A3 ks),.is (NS tp (cs.map .str)),.is (.str r),.is (.int m),.ow false (Ej AD Pp b Qf Qa (Dt q.1)),.own (q.2.map .str),.is (.str (Bf q.1))] _ _ _;refine AE (RK (i:=4) (V5 (us:=_) rfl (by decide+kernel) (LS (BL (GX (A1 rfl ⟨_,_,rfl,by decide+kernel,AM (A1 rfl (Ar ⟨_,⟨ks,Bf q.1,rfl,hk,hw,rfl⟩,?_⟩))⟩))))));rintro _ rfl;refine LS (ke (A1 rfl ⟨_,_,rfl,by decide+kernel,AM (A1 rfl (Ar ⟨_,⟨ks,Bf q.1,rfl,hk,hw,rfl⟩,?_⟩))⟩));rintro _ rfl;refine Gx ⟨_,⟨b,Dt q.1,_,CV ks (Bf q.1),Hd ks (Bf q.1),(Bf q.1,false),rfl,Fi,⟨M,WY _⟩,ok.rl,⟨λp H=>?_,?_⟩,rfl⟩,?_⟩
  .rw[show CV ks (Bf q.1)=u.ps from I]at H;exact(kp.2 p H).1
  .rw[show CV ks (Bf q.1)=u.ps from I,tl];have:=kp.1;omega
  rintro _ N⟨rfl,s⟩;have s:Gw AD b (Q2 ks q.1) N:=s;obtain⟨B,D,C,rfl⟩:=id s;refine⟨_,_,rfl,?_⟩;show Ws [.is (Az A3 ks),.is (NS tp (cs.map .str)),.is (.str r),.is (.int m),.ow false (Ej AD B b D C (Q2 ks q.1)),.own (q.2.map .str),.is (.str (Bf q.1))] _ _ _;refine Vr rfl (A1 rfl ⟨by rw[AB];omega,?_⟩);have Q:(q.2++[Bf q.1]).length=q.2.length+1:=by rw[By];rfl
  refine⟨m - (q.2++[Bf q.1]).length,by omega,(Q2 ks q.1,q.2++[Bf q.1]),_,.is (.str (Bf q.1)),rfl,?_,?_,s,by rw[Ca];rfl⟩
  .rw[<- o,show m - q.2.length=(m - (q.2++[Bf q.1]).length)+1 by omega,JB,u4 j]
  .show UN ks (q.2++[Bf q.1]).length _;rw[Q];exact ZJa hk ok j
 .rintro A6⟨q,t,d,o,Ci,l,rfl⟩;obtain⟨dx,aT,aW,rfl⟩:=id l;have A:JB ks m (OT r cs)=q:=by
   rw[<- o]
   by_cases c:q.2.length<m
   .exact ZBH ks (Ci c) _
   .rw[show m - q.2.length=0 by omega];rfl
  rw[A];refine Sw (U6 (GO (zZ rfl λl1=>GO (ZK5 (i:=4) rfl (To rfl BH Ew (GO (EV (kl rfl BH JS (GO (EV (iP (bK (i:=4) (C8 rfl ⟨dx,Fc,b,_,rfl,by decide+kernel,cC ⟨_,⟨q.1,wH (λp=>[Slot.is p]) YC,rfl⟩,?_⟩⟩)))))))))))));rintro _ rfl;exact⟨rfl,_,rfl,RY ⟨by simp,by simp,by simp,by simp,by simp,l1,aT,rfl⟩⟩
def ZJg:Au ["book","word","rule"] ["book","word","rule"] (AL UA):=by walk_at "z1"
def ZBY:=Sc [(".0",.local),("put",.local),("WHERES_AHEAD",.globalImplicit),("rule",.free)]
def ZDf:Cs ["book","word","rule"] (AL UA) ZBY "put" ["rule"] [2]:=by walk_at "z2"
def ZBB(F:AG K "comers_of" "comers_of" UA f fd)(m:mg "comers_of"=some (.ref f)):
  AI P w K mg Zp "comers_of" 6 ["book","word","rule"] (AQ (RT A3)):=by
 refine Fz.hF (k:=5) F (by walk_at "bD3") m ZJg (by rintro _ _⟨ks,x,r,rfl,_,_,_,rfl⟩;rfl) λa=>⟨_,(A9 rfl (B9 (Aw C2 (qv 2) B2) (AF rfl (Aq (FF A4))) B8)
   (AF rfl (Aq (Fy rfl ZDf (CI (IS Gz a (by decide) (qv 0) (A0 (qv 1) A4))) (λ_ _ _ _=>by exact(Mb (Oc (Aw C2 (qv 0) B2) (PK (Aw (show BX _ (compareOp .In) (IM K false)from LM) (Ab (show D1 _ (D4 K)from B5) (qv 1) A7) (D5 (v:=.ref Gy) (by rfl) OH rfl)))).pt)) (λ_ _ _ _=>by exact(qv 1)))))),?_⟩
 rintro _ _⟨ks,x,r,rfl,g,hx,a,rfl⟩;have C:HZ K Gy (Mo.map .str):=HZ.of OA rfl rfl;show Ws [_,_,_] _ _ _;have d:=(g.Kb x).1
 walk_at "ww"
 refine BK (λc=>?_) (λc=>An ?_)
 .have e:r="none" := vY c
  walk_at "ww"
  refine⟨by decide,?_⟩;unfold Ct;rw[u4 e];rfl
 .have e:¬ r="none" := λz=>c (uL z);refine Ji (Et BD (λp=>decide (r="all") || decide (p.1∈Mo)) BD (D0 (CS (BL (GX (A1 rfl ⟨Dm,_,rfl,by decide+kernel,AM (A1 rfl (Ar ⟨_,⟨ks,x,rfl,g,hx,rfl⟩,?_⟩))⟩))))) Qi);rintro _ rfl;refine⟨_,.inl ⟨rfl,CV ks x,rfl,by omega,λp b=>?_,λp b _=>A1 rfl rfl,?_⟩⟩
  .refine Lg (Ad (BF (A1 rfl (CJ ⟨rfl,_,rfl,?_⟩))));show if decide (r="all")=true then _ else _
   refine BK (λc2=>by rw[c2];rfl) (λc2=>?_);refine Ad (Vc (neg:=false) C (BV (Bc rfl ⟨rfl,AH ⟨_,_,rfl,rfl,p.1,rfl,_,rfl,?_⟩⟩)));rw[Bool.eq_false_iff.mpr c2];rfl
  .unfold Ct;rw[tK e]
def Qb:Au ["book","rule","way","settled","put","first","found"] ["book","rule","way","settled"] (AL UR):=by walk_at "z1"
def ZGj(n:Nat)(F:AG K "ring_along" "ring_along" UR f fd)(m:mg "ring_along"=some (.ref f))(Qu:AI P w K mg Zp "ring_along" (7+n) ["book","rule","way","settled"] (BN (OP A3 (n)))):
  AI P w K mg Zp "ring_along" (7+n+1) ["book","rule","way","settled"] (BN (OP A3 (n+1))):=by
 refine Fz.hM (k:=7+n) F (by walk_at "bD4") m Qb (by rintro _ _⟨ks,r,V,x,L,a,rfl,_,_,_,_,_,_,_,_,_,_,rfl⟩;rfl) λe=>⟨_,(A9 rfl (B9 (XU (Eb e) (Ab Df (qv 2) (ZR ai A7)) (qv 3)) (AF rfl (Aq GD)) B8)
   (A9 rfl (C1 (EU EF rfl (CI (Ai (hk:=by omega) JE e (A0 (qv 0) (A0 (Ab Df (qv 2) (ZR ai A7)) (A0 (qv 1) A4))))) (D8 4 Qb.nd) (A9 rfl (B9 (Aw LM (Ab B5 (qv 4) A7) (qv 2)) (A9 rfl (Ah 5 Qb.nd (Er FP Wd rS fY (qv 2) (A0 (Ab B5 (qv 4) A7) A4)))
   (AF rfl (Aq (CP (A0 (Jq Ml (qv 2) KR (Jv (B4 EJ (qv 5) A7))) (A0 (Jq Ml (qv 2) (Jv (qv 5)) KR) A4)))))) B8)
   (A9 rfl (Ah 6 Qb.nd (Ai (hk:=by omega) Qu e (A0 (qv 0) (A0 (qv 1) (A0 (B4 Pc (qv 2) (FF (A0 (Ab B5 (qv 4) A7) A4))) (A0 (qv 3) A4))))))
   (AF rfl (B9 (Aw Mn (qv 6) GD) (AF rfl (Aq (qv 6))) B8))))))
   (A9 rfl (Q3 (Eb e) (qv 3) (Ab Df (qv 2) (ZR ai A7)) HD)
   (AF rfl (Aq GD))))),?_⟩
 rintro _ _⟨ks,r,V,x,L,a,rfl,g,e,Q,nd,sub,ch,B,C,E,D,rfl⟩;show Ws [_,_,_,_,.any,.any,.any] _ _ _;have l8:=g.l8;have A:x∈wk ks:=sub x (by simp);have σ:(V++[x]).length<=8:=by
  have:=GY nd sub;rw[AB]at this;omega
 have lst:∀{ss:List Slot}{k:PV->Prop},ss[2]?=some (.is (.lst ((V++[x]).map .str)))->k (.str x)->Wp ss (Ba (Lz K) (Al 2) (Sz (rU λi=>.int (-i)) (tC (.int 1)))) k:=λh hk=>KD (Cz h ⟨rfl,lV (AH ⟨_,rfl,_,_,rfl,ZFv V x,hk⟩)⟩);refine AE (Ap (GF (p5 (lst rfl (C8 (i:=3) rfl ⟨Bj L,a,_,.inr x,rfl,rfl,_,rfl,?_⟩)))));rw[Qz];refine BK (λc=>?_) (λc=>An ?_)
 .exact MX (i:=3) rfl (DZ ⟨L,rfl,.inl ⟨rfl,C,E,D,λy h=>h,B,vY c⟩⟩)
 have hx:x∉L:=λz=>c (uL z);refine AE (Bg (Eo (λxs i A6=>∃(L':List Str)(s4 t s:Slot),A6=[.is (Az A3 ks),.is (.str r),.is (.lst ((V++[x]).map .str)),.ow true (OY a L'),s4,t,s]/\Top (Aj ks r) L'/\L'.Nodup/\(∀y∈L',y∈wk ks)/\(∀y∈L,y∈L')/\(∀y∈V++[x],y∉L')/\∀p∈(Ct ks r x).take i,p.2∈L') (D0 (CS (BL (Hl (AM (A1 rfl (AM (lst rfl (AM (A1 rfl (Ar ⟨_,⟨ks,x,r,rfl,g,A,e,rfl⟩,?_⟩)))))))))))));rintro _ rfl;refine⟨_,.inl ⟨rfl,⟨L,_,_,_,rfl,C,E,D,λy h=>h,λy b=>?_,λp d=>absurd d (by simp)⟩,?_,?_⟩⟩
 .rcases List.mem_append.mp b with h|h
  .exact B y h
  .rw[List.mem_singleton.mp h];exact hx
 .rintro i q A6 o⟨L',s4,t,s,rfl,MK,FR,Ld,u,l,Dv⟩;rw[Ax]at o;obtain⟨p,H,rfl⟩:=Option.map_eq_some_iff.mp o;have J:=C7 H;have pn:p.2∈Aj ks r x:=List.mem_map.mpr ⟨p,J,rfl⟩;refine G2 ?_;refine AE (Ap (Ad (Tj (BV (Bc rfl ⟨rfl,AH ⟨_,_,rfl,rfl,p.2,rfl,Cz rfl ⟨V++[x],rfl,_,rfl,?_⟩⟩⟩)))));refine BK (λc=>?_) (λc=>An ?_)
  .have d:=vY c;have hi:=List.idxOf_lt_length_iff.mpr d;refine AE (Dc (Xs (Cz rfl ⟨rfl,V++[x],rfl,BV (Bc rfl ⟨rfl,AH ⟨_,_,rfl,rfl,p.2,rfl,d,?_⟩⟩)⟩)));refine MX (i:=3) rfl (Dg (BG (BL (NL (Cz rfl ⟨rfl,Np (P7 (Gi (A1 rfl ⟨_,rfl,AH ⟨_,rfl,_,rfl,?_⟩⟩)))⟩)))));refine BG (BL (NL (Cz rfl ⟨rfl,P7 (A1 rfl ⟨_,rfl,Np (Cb ⟨by show 2<=100000;decide,L',rfl,.inr ⟨V++[x],(V++[x]).idxOf p.2,?_,List.prefix_refl _,nd,ch,sub,p.2,x,?_,?_,pn⟩⟩)⟩)⟩)))
   .rw[N2,N2];unfold ZD;rw[show Dw (V++[x]) none (some (((V++[x]).idxOf p.2:Nat)+1:Int))=(V++[x]).take ((V++[x]).idxOf p.2+1)from ZA8 (V++[x]) _,show Dw (V++[x]) (some (((V++[x]).idxOf p.2:Nat):Int)) none=(V++[x]).drop ((V++[x]).idxOf p.2)from iF (V++[x]) _]
   .rw[As hi,Km hi]
   .simp
  .have d:p.2∉V++[x]:=λz=>c (uL z);refine AE (Q9 (i:=3) (NP rfl (EO (A1 rfl (EO (A1 rfl (EO (BL (My (Cz rfl ⟨rfl,Bd (BL (Kg (BG (BV (Bc rfl ⟨rfl,AH ⟨_,_,rfl,rfl,Cb ⟨by show 1<=100000;decide,?_⟩⟩⟩)))))⟩))))))))));refine⟨_,.inl ⟨rfl,rfl,by rw[AB];show _+1<=_;omega,NG rfl (Gx ⟨_,⟨ks,r,V++[x],p.2,L',a,by rw[Ca (l₁:=V++[x])];rfl,g,e,by rw[By,Ir];omega,Ol nd d,λy b=>?_,ch.snoc pn,l,MK,FR,Ld,rfl⟩,?_⟩)⟩⟩
   .rcases List.mem_append.mp b with h|h
    .exact sub y h
    .rw[List.mem_singleton.mp h];exact g.cK pn
   rintro q t'⟨L2,rfl,o⟩;refine⟨_,_,rfl,?_⟩;rcases o with⟨rfl,Zn,FX,Yr,IJ,N,p2⟩|⟨W,j,rfl,pre,I⟩
   .refine Ap (Ad (HS (A1 rfl (DZ ⟨rfl,_,rfl,BC (by decide) (An ⟨L2,_,_,_,rfl,Zn,FX,Yr,λy h=>IJ y (u y h),N,λz G=>?_⟩)⟩))));rw[Im H]at G;rcases List.mem_append.mp G with h|h
    .exact IJ _ (Dv z h)
    .rw[List.mem_singleton.mp h];exact p2
   .refine Ap (Ad (HS (A1 rfl (DZ ⟨rfl,_,rfl,Cd rfl ?_⟩))));exact MX (i:=3) rfl (A1 rfl ⟨L2,rfl,.inr ⟨W,j,rfl,(List.prefix_append _ _).trans pre,I⟩⟩)
 .rintro A6⟨L',s4,t,s,rfl,MK,FR,Ld,u,l,Dv⟩;rw[AB,G6]at Dv;have v:x∉L':=l x (by simp);have M:=GY FR Ld;rw[AB]at M;refine AE (Tn (i:=3) (EV (Kk (C8 rfl ⟨true,a,Bj L',_,rfl,rfl,by rw[AB];omega,U9 FR,Aa,lst rfl ⟨.inr x,rfl,?_⟩⟩))));rw[OV.Ee,OJ v,Uz v];refine MX (i:=3) rfl (DZ ⟨L'++[x],?_,.inl ⟨rfl,MK.snoc λy b=>?_,Ol FR v,λy b=>?_,λy b=>by simp[u y b],λy b m=>?_,by simp⟩⟩)
  .unfold OY;rw[Ca];rfl
  .obtain⟨p,d,rfl⟩:=List.mem_map.mp b;exact Dv p d
  .rcases List.mem_append.mp b with h|h
   .exact Ld y h
   .rw[List.mem_singleton.mp h];exact A
  .rcases List.mem_append.mp m with h|h
   .exact l y (by simp[b]) h
   .rw[List.mem_singleton.mp h]at b;exact(List.nodup_append.mp nd).2.2 x b x (by simp) rfl
def ZBJ(F:AG K "ring_along" "ring_along" UR f fd)(m:mg "ring_along"=some (.ref f)):AI P w K mg Zp "ring_along" 16 ["book","rule","way","settled"] (BN (OP A3 9)):=by
 have z:∀n:Nat,AI P w K mg Zp "ring_along" (7+n) ["book","rule","way","settled"] (BN (OP A3 (n))):=λn=>by
  induction n with
  |zero=>exact AI.mk F (F.binds (by walk_at "bD4")) m (F.Ec (k:=6) Qb (λvs H Q E h=>(Fz.Kv (oJ) h).elim) (λAf A outer s H vs Q E b h=>(Fz.Kv (oJ) h).elim))
  |succ n a=>exact ZGj (A3:=A3) JE n F m a
 exact z 9
def Sj:Au ["book","crowd","rule","settled","word","found"] ["book","crowd","rule"] (AL ZE):=by walk_at "z1"
def ZEC(F:AG K "way_and_ring" "way_and_ring" ZE f fd)(m:mg "way_and_ring"=some (.ref f))(Qu:AI P w K mg Zp "ring_along" 16 ["book","rule","way","settled"] (BN (OP A3 9))):
  AI P w K mg Zp "way_and_ring" 17 ["book","crowd","rule"] (AQ (Vl A3)):=by
 refine Fz.hF (k:=16) F (by walk_at "bD3") m Sj (by rintro _ _⟨ks,tp,cs,r,rfl,_,_,_,_,rfl⟩;rfl) λn=>⟨_,(A9 rfl (Ah 3 Sj.nd UT)
   (A9 rfl (C1 (EU EF rfl (CI (qv 1)) (D8 4 Sj.nd) (A9 rfl (Ah 5 Sj.nd (Ai Qu n (A0 (qv 0) (A0 (qv 2) (A0 (FF (A0 (qv 4) A4)) (A0 (qv 3) A4))))))
   (AF rfl (B9 (Aw Mn (qv 5) GD) (AF rfl (Aq (qv 5))) B8)))))
   (AF rfl (Aq GD)))),?_⟩
 rintro _ _⟨ks,tp,cs,r,rfl,g,n,l,t,rfl⟩;show Ws [_,_,_,.any,.any,.any] _ _ _;refine AE (L8 (VP λa=>?_));show Ws [_,_,_,.ow false (OY a []),.any,.any] _ _ _;refine AE (Bg (Eo (λxs i A6=>∃(L':List Str)(s4 e:Slot),A6=[.is (Az A3 ks),.sq tp (cs.map .str),.is (.str r),.ow false (OY a L'),s4,e]/\Top (Aj ks r) L'/\L'.Nodup/\(∀y∈L',y∈wk ks)/\∀y∈cs.take i,y∈L') ?_))
 walk_at "ww"
 refine⟨⟨[],_,_,rfl,Top.nil,HN,λy b=>absurd b Aa,λy b=>absurd b (by simp)⟩,?_,?_⟩
 .rintro i q A6 d⟨L',s4,e,rfl,MK,FR,Ld,Dv⟩;rw[Ax]at d;obtain⟨c,o,rfl⟩:=Option.map_eq_some_iff.mp d;have p:=C7 o;refine G2 ?_;refine AE (Q9 (i:=3) (NP rfl (EO (A1 rfl (EO (A1 rfl (EO (BL (Kg (BG (A1 rfl (Cb ⟨by show 1<=100000;decide,?_⟩))))))))))));refine NG rfl (Gx ⟨_,⟨ks,r,[],c,L',a,rfl,g,n,by decide,by simp,λy b=>?_,Ka.one c,λy b=>absurd b Aa,MK,FR,Ld,rfl⟩,?_⟩)
  .rw[HM,List.mem_singleton]at b;rw[b];exact t c p
  rintro q t'⟨L2,rfl,d⟩;refine⟨_,_,rfl,?_⟩;rcases d with⟨rfl,Zn,FX,Yr,IJ,v,p2⟩|⟨W,j,rfl,pre,s⟩
  .refine Ap (Ad (HS (A1 rfl (DZ ⟨rfl,_,rfl,BC (by decide) (An ⟨L2,_,_,rfl,Zn,FX,Yr,λz l=>?_⟩)⟩))));rw[Im o]at l;rcases List.mem_append.mp l with h|h
   .exact IJ _ (Dv z h)
   .rw[List.mem_singleton.mp h];exact p2
  .refine Ap (Ad (HS (A1 rfl (DZ ⟨rfl,_,rfl,Cd rfl ?_⟩))));obtain⟨W2,u⟩:=pre;refine CD (A1 rfl (.inr ⟨W,j,c,rfl,s,?_,p⟩));rw[<- u];rfl
 .rintro A6⟨L',s4,e,rfl,MK,FR,Ld,Dv⟩;rw[AB,G6]at Dv;exact CD (DZ (.inl ⟨rfl,L',MK,FR,Ld,Dv⟩))
def ZFu:Au ["many","length"] ["many","length"] (AL Tb):=by walk_at "z1"
def ZBj:=Sc [(".0",.local),("number",.cell),("sum",.globalImplicit),("many",.free)]
def ZFa:=Sc [(".0",.local),("counts",.local),("number",.free)]
def uX:T7 ["many","length"] (AL Tb) ZBj "number" ["many"] [0]:=⟨rfl,by decide+kernel,rfl,by decide+kernel,λ_ _=>rfl,λ_=>rfl,rfl,by decide+kernel,by decide+kernel,by decide+kernel,by decide+kernel⟩
def ZCg:=Sc [(".0",.local),("number",.cell),("sum",.globalImplicit),("many",.cell)]
def ZI8:Cs ["many","number"] ZCg ZFa "counts" ["number"] [1]:=by walk_at "z2"
def wW(F:AG K "sums_of" "sums_of" Tb f fd)(m:mg "sums_of"=some (.ref f)):
  AI P w K mg Zp "sums_of" 1 ["many","length"] (AQ TZ):=by
 refine Fz.hF (k:=0) F (by walk_at "bD2") m ZFu (by rintro _ _⟨cs,n,rfl,_,_,_,rfl⟩;rfl) λh=>⟨_,(AF rfl (Aq (ZET rfl uX (MW rfl EK (A0 (qv 1) A4)) (λ_ _ _ _=>by exact FG) (λ_ _ _ _=>by exact(BZ (show Dp _ (.builtin "sum") (UK K)from VX rfl) GW (A0 (Fy rfl ZI8 (show QI _ _ _ (T4 K _)from CI (qv 0)) (λ_ _ _ _=>by exact FG) (λ_ _ _ _=>by exact(Ab (show D1 _ (D4 K)from B5) (qv 1) (qv 0)))) A4)))))),?_⟩
 rintro _ _⟨cs,n,rfl,i,l,g,rfl⟩;show Ws [_,_] _ _ _;refine Ji (Et (λk:Nat=>PV.int (k:Int)) (λ_=>true) (λj=>PV.int (cs.map λc=>c.getD j 0).sum) (lp (A1 rfl ⟨_,rfl,by omega,by omega,List.range n,by rw[Hq];rfl,by rw[Ls];omega,λk _=>Fq rfl,λk hk _=>?_,?_⟩)) (λa b e=>by injection e with e;omega))
 .have hk:=List.mem_range.mp hk;refine nG (Bd (BL (Et (λc:List Int=>PV.tup (c.map .int)) (λ_=>true) (λc=>PV.int (c.getD k 0)) (D0 (CS (A1 rfl ⟨_,.inl ⟨rfl,cs,rfl,by omega,λc _=>Fq rfl,λc d _=>?_,?_⟩⟩))) (λa b e=>by injection e with e;exact lJ e))))
  .refine BV (Bc rfl ⟨rfl,A1 rfl ⟨_,_,rfl,Fx (by rw[Ax,As (show k<c.length by have:=g c d;omega)];rfl),?_⟩⟩);rw[JU,As (show k<c.length by have:=g c d;omega)];rfl
  .rw[List.filter_eq_self.mpr λ_ _=>rfl];exact⟨_,.inl ⟨rfl,rfl,cs.map λc=>c.getD k 0,by rw[Cm];rfl,rfl⟩⟩
 .rw[List.filter_eq_self.mpr λ_ _=>rfl,Cm];rfl
def gP:Au ["put","known","rounds"] ["put","known"] (AL ZV):=by walk_at "z1"
def ZFX(F:AG K "rounds_to" "rounds_to" ZV f fd)(m:mg "rounds_to"=some (.ref f)):
  AI P w K mg Zp "rounds_to" 1 ["put","known"] (AQ d4):=by
 refine Fz.hF (k:=0) F (by walk_at "bD2") m gP (by rintro _ _⟨ks,r,M,p,rfl,_,rfl⟩;rfl) λb=>⟨_,(A9 rfl (Ah 2 gP.nd (Ab B5 (LI (Eb b) (qv 1) (Ab B5 (qv 0) A7) (λ_ _=>rfl)) A7))
   (A9 rfl (B9 (Aw LM (Ab B5 (qv 0) A7) (D5 (v:=.ref Gy) (by rfl) OH rfl)) (AF rfl (Aq (qv 2))) B8)
   (AF rfl (Aq (B4 EJ (qv 2) A7))))),?_⟩
 rintro _ _⟨ks,r,M,p,rfl,a,rfl⟩;have C:HZ K Gy (Mo.map .str):=HZ.of OA rfl rfl;show Ws [_,_,.any] _ _ _;have hi:=List.idxOf_lt_length_iff.mpr a;have d:K8 (Bj M) (M.map (Gk ks r)) (.inr p.2)=some (Gk ks r p.2):=M8 a (by rw[Ax,As hi,Km hi];rfl);refine AE (Dc (BV (Bd (NQ (A1 rfl ⟨Bj M,_,rfl,BV (Bc rfl ⟨rfl,AH ⟨_,_,rfl,rfl,.inr p.2,_,rfl,d,_,.inr ⟨rfl,rfl,AH ⟨_,_,rfl,rfl,?_⟩⟩⟩⟩)⟩)))));refine AE (Ap (Ad (Vc (neg:=false) C (BV (Bc rfl ⟨rfl,AH ⟨_,_,rfl,rfl,p.1,rfl,_,rfl,?_⟩⟩)))));refine BK (λc=>?_) (λc=>An ?_)
 .refine CD (A1 rfl ?_);unfold Kr;rw[u4 (vY c)]
 .walk_at "ww"
  unfold Kr;rw[tK (λz=>c (uL z))]
def Rh:Au ["book","word","rule","known","comers","put","counts"] ["book","word","rule","known"] (AL PX):=by walk_at "z1"
def yj:=Sc [(".0",.local),("put",.local),("known",.free)]
def uN:Cs ["book","word","rule","known","comers","put","counts"] (AL PX) yj "put" ["known"] [3]:=by walk_at "z2"
def ZK8:=Sc [(".0",.local),("put",.local),("rounds_to",.globalImplicit),("known",.free)]
def ZFJ:Cs ["book","word","rule","known","comers","put","counts"] (AL PX) ZK8 "put" ["known"] [3]:=by walk_at "z2"
def jG:∀ss R,(M6 A3 n) ss R->ss.length=4:=by rintro _ _⟨ks,x,r,T,i,M,a,rfl,_,_,_,_,_,_,_,_,_,_,rfl⟩;rfl
def xl(n:Nat)(F:AG K "reckon" "reckon" PX f fd)(m:mg "reckon"=some (.ref f))(SI:AI P w K mg Zp "reckon" (7+n) ["book","word","rule","known"] (BN (M6 A3 (n)))):
  AI P w K mg Zp "reckon" (7+n+1) ["book","word","rule","known"] (BN (M6 A3 (n+1))):=by
 refine AI.mk F (F.binds (by walk_at "bD4")) m (F.Ec (k:=7+n) Rh (λvs H Q E h=>Fz.MR jG h) (λAf A outer s H vs Q E b h=>?_))
 refine⟨_,(A9 rfl (B9 (XU (Eb b) (qv 1) (qv 3)) (AF rfl ZJ3) B8)
   (A9 rfl (Ah 4 Rh.nd (Ai (hk:=by omega) JE b (A0 (qv 0) (A0 (qv 1) (A0 (qv 2) A4)))))
   (A9 rfl (C1 (EU EF rfl (CI (qv 4)) (D8 5 Rh.nd) (AF rfl (Bi (Ai (hk:=by omega) SI b (A0 (qv 0) (A0 (Ab B5 (qv 5) A7) (A0 (qv 2) (A0 (qv 3) A4)))))))))
   (A9 rfl (Ah 6 Rh.nd (Ai (hk:=by omega) Lh b (A0 (Fy rfl uN (CI (qv 4)) (λ_ _ _ _=>by exact FG) (λ_ _ _ _=>by exact(Ab (show D1 _ (D4 K)from B5) (LI (Eb b) (qv 0) (Ab (show D1 _ (D4 K)from B5) (qv 1) A7) (λ_ _=>rfl)) A7))) (A0 (BZ HE BM (A0 (HX DO b (by omega) (qv 0)) A4)) A4))))
   (A9 rfl (sG (qv 6) (Er FP Wd rS fY (HX DO b (by omega) (qv 0)) (A0 (qv 1) A4)) A7 Vi)
   (AF rfl (Q3 (Eb b) (qv 3) (qv 1) (CP (A0 (qv 1) (A0 (Hw Qh FV (A0 (qv 6) A4)) (A0 (BZ (ZFd rfl) GZ (A0 (B4 Pc (FF (A0 A7 A4)) (Fy rfl ZFJ (CI (qv 4)) (λ_ _ _ _=>by exact FG) (λ_ _ _ _=>by exact(Ai (hk:=by omega) Qp b (A0 (qv 1) (A0 (qv 0) A4)))))) A4)) A4))))))))))),?_⟩
 refine Fz.ZHf 3 h jG ?_;rintro _ _⟨ks,x,r,T,i,M,a,rfl,g,b,B,CM,I,hi,hn,R,σ,V,rfl⟩;show Ws [_,_,_,_,.any,.any,.any] _ _ _;have l8:=g.l8;have v:=C7 hi;have D:=I x v;have X:T.length<=8:=by
  have:=GY CM I;rw[AB]at this;omega
 have h6:=k9 g r x;refine AE (Ap (GF (p5 (A1 rfl (C8 (i:=3) rfl ⟨Bj M,a,_,.inr x,rfl,rfl,_,rfl,?_⟩)))));rw[Qz];refine BK (λc=>?_) (λc=>An ?_)
 .exact ZGK (i:=3) rfl ⟨rfl,M,rfl,R,σ,V,λy h=>h,vY c,λy h=>.inl h⟩
 have hx:x∉M:=λz=>c (uL z);refine AE (G3 (Hl (AM (A1 rfl (AM (A1 rfl (AM (A1 rfl (Ar ⟨_,⟨ks,x,r,rfl,g,D,b,rfl⟩,?_⟩)))))))));rintro _ rfl;refine JC 4 rfl ?_;show Ws [.is (Az A3 ks),.is (.str x),.is (.str r),.ow true (FW ks r a M),.is (.lst ((Ct ks r x).map BD)),.any,.any] _ _ _;refine AE (Bg (Eo (λxs j A6=>∃(M':List Str)(l C:Slot),A6=[.is (Az A3 ks),.is (.str x),.is (.str r),.ow true (FW ks r a M'),.is (.lst ((Ct ks r x).map BD)),l,C]/\M'.Nodup/\(∀y∈M',y∈T)/\T8 (Aj ks r) M'/\(∀y∈M,y∈M')/\(∀y∈M',y∈M∨Bq (Aj ks r) (Aj ks r x) y)/\∀p∈(Ct ks r x).take j,p.2∈M') (D0 (CS (A1 rfl ⟨_,.inl ⟨rfl,⟨M,_,_,rfl,R,σ,V,λy h=>h,λy h=>.inl h,λp e=>absurd e (by simp)⟩,?_,?_⟩⟩)))))
 .rintro j q A6 u⟨M',l,C,rfl,FR,s',L,Ju,Io,Dv⟩;rw[Ax]at u;obtain⟨p,S,rfl⟩:=Option.map_eq_some_iff.mp u;have pn:p.2∈Aj ks r x:=List.mem_map.mpr ⟨p,C7 S,rfl⟩;have pt:=B i x hi p.2 pn;obtain⟨Y,Cq,U⟩:=FO pt;rw[Dj]at Cq;rw[Pk]at U;refine G2 ?_;refine RK (i:=3) (NP rfl (EO (A1 rfl (EO (BV (Bc rfl ⟨rfl,AH ⟨_,_,rfl,rfl,EO (A1 rfl (NG rfl (Gx ⟨_,⟨ks,p.2,r,T,Y,M',a,rfl,g,b,B,CM,I,by rw[As (by omega),U],by omega,FR,s',L,rfl⟩,?_⟩)))⟩⟩))))));rintro _ _⟨rfl,M2,rfl,FX,s2,c2,IJ,W,Qk⟩;refine⟨_,_,rfl,M2,_,_,rfl,FX,s2,c2,λy h=>IJ y (Ju y h),λy d=>?_,λq u=>?_⟩
  .rcases Qk y d with h|h
   .exact Io y h
   .refine .inr (h.mono λz o=>?_);rw[List.mem_singleton.mp o];exact .here pn
  .rw[Im S]at u;rcases List.mem_append.mp u with h|h
   .exact IJ _ (Dv q h)
   .rw[List.mem_singleton.mp h];exact W
 .rintro A6⟨M',l,C,rfl,FR,s',L,Ju,Io,Dv⟩;rw[AB,G6]at Dv;have N:x∉M':=λz=>(Io x z).elim hx (gX B CM v);have lM:=GY FR s';obtain⟨eC,eR⟩:=jo B X v;have J:=List.idxOf_lt_length_iff.mpr D;rw[AB]at J;have lo:∀{p:Str×Str},p∈Ct ks r x->K8 (Bj M') (M'.map (Gk ks r)) (.inr p.2)=some (Gk ks r p.2):=λ{p}e=>by
   have hi:=List.idxOf_lt_length_iff.mpr (Dv p e);exact M8 (Dv p e) (by rw[Ax,As hi,Km hi];rfl)
  refine AE (G3 (Hl (AM (BL (ZE8 ?_)))));rw[show List.map Ig _=[.is (Az A3 ks),.is (.str x),.is (.str r),.is (FW ks r a M').pv,.is (.lst ((Ct ks r x).map BD)),Ig l,Ig C]from rfl,Ts];refine Et BD (λ_=>true) (λp=>PV.tup ((cnt ks r p.2).map .int)) (D0 (CS (A1 rfl ⟨_,.inl ⟨rfl,Ct ks r x,rfl,by omega,λp _=>Fq rfl,λp e _=>?_,?_⟩⟩))) Qi
  .exact BV (Bd (NQ (A1 rfl ⟨Bj M',_,rfl,BV (Bc rfl ⟨rfl,AH ⟨_,_,rfl,rfl,.inr p.2,_,rfl,lo e,_,.inr ⟨rfl,rfl,AH ⟨_,_,rfl,rfl,rfl⟩⟩⟩⟩)⟩)))
  rw[List.filter_eq_self.mpr λ_ _=>rfl];refine⟨U7 _ (λp=>by rw[Gb];exact jx _) _,?_⟩;refine AM (LO (Bd (BL (GX (A1 rfl ⟨Dm,_,rfl,by decide+kernel,Ar ⟨_,⟨ks,rfl,g,rfl⟩,?_⟩⟩)))));rintro _ rfl;refine⟨_,.inl ⟨rfl,?_⟩⟩;rw[AB,AB];refine Ar ⟨_,⟨(Ct ks r x).map λp=>cnt ks r p.2,ks.length,by rw[Cm];rfl,l8,by rw[AB];omega,λc hc=>?_,rfl⟩,?_⟩
  .obtain⟨p,_,rfl⟩:=List.mem_map.mp hc;exact eO ks r p.2
  rintro _ rfl;generalize hG:(λj:Nat=>(((Ct ks r x).map λp=>cnt ks r p.2).map λc=>c.getD j 0).sum)=G;show Ws [.is (Az A3 ks),.is (.str x),.is (.str r),.ow true (FW ks r a M'),.is (.lst ((Ct ks r x).map BD)),l,.own (((List.range ks.length).map G).map .int)] _ _ _;refine AE (ZAk rfl (Xs (Bd (BL (GX (A1 rfl ⟨Dm,_,rfl,by decide+kernel,Ar ⟨_,⟨ks,rfl,g,rfl⟩,?_⟩⟩))))));rintro _ rfl;refine⟨_,.inl ⟨rfl,rfl,wk ks,rfl,A1 rfl ⟨x,rfl,D,_,G ((wk ks).idxOf x),rfl,?_,AH ⟨_,rfl,?_⟩⟩⟩⟩
  .rw[Ax,Ax,Pj J];rfl
  have eS:((((List.range ks.length).map G).map PV.int).set ((wk ks).idxOf x) (.int (G ((wk ks).idxOf x)+1)))=(cnt ks r x).map .int:=by
   rw[<- List.map_set,sum_set rfl J,eC];unfold J8;rw[<- hG]
   congr 1
   refine Nh λj _=>?_;unfold Aj;show(List.map (λc=>List.getD c j 0) (List.map (λp=>cnt ks r p.2) (Ct ks r x))).sum+_=_;rw[Cm,Cm];rfl
  rw[eS];show Ws [.is (Az A3 ks),.is (.str x),.is (.str r),.ow true (FW ks r a M'),.is (.lst ((Ct ks r x).map BD)),l,.own ((cnt ks r x).map .int)] _ _ _;refine Tn (i:=3) (t:=FW ks r a M') (EV (ZAn ?_));rw[show List.map Ig _=[.is (Az A3 ks),.is (.str x),.is (.str r),.is (FW ks r a M').pv,.is (.lst ((Ct ks r x).map BD)),Ig l,.is (.lst ((cnt ks r x).map .int))]from rfl,Ts];refine Dg (BG (A1 rfl (BG (RU rfl (Cz rfl (BG (uV (Bd (BL (My (Bd (BL (Kg (BG (AH (Cb ⟨by decide,?_⟩))))))))))))))));refine⟨_,.inl ⟨rfl,rfl,Bd (BL (Et BD (λ_=>true) (λp=>PV.int (Kr (B7 ks r) p)) (D0 (CS (A1 rfl ⟨_,.inl ⟨rfl,Ct ks r x,rfl,by omega,λp _=>Fq rfl,λp e _=>?_,?_⟩⟩))) Qi))⟩⟩
  .refine wp_call (AM (A1 rfl (AM (A1 rfl (Ar ⟨_,⟨ks,r,M',p,rfl,Dv p e,rfl⟩,?_⟩)))));rintro _ rfl;rfl
  rw[List.filter_eq_self.mpr λ_ _=>rfl];refine⟨_,.inl ⟨rfl,rfl,by rw[AB];show 1+_<=_;omega,_,.inl ⟨rfl,rfl,1::(Ct ks r x).map (Kr (B7 ks r)),by rw[B6,Cm];rfl,by simp,λm Z d=>?_⟩⟩⟩;have em:m=B7 ks r x:=by rw[eR];exact ZJ5 Z d
  subst em;refine Cb ⟨by show 3<=100000;decide,?_,?_⟩
  .simp only[Gb,Il];rw[jx];rfl
  refine C8 rfl ⟨true,a,Bj M',_,rfl,rfl,by rw[AB];omega,U9 FR,Aa,A1 rfl ⟨.inr x,rfl,?_⟩⟩;rw[OV.Ee,OJ N,Uz N];refine⟨_,_,_,_,rfl,rfl,rfl,M'++[x],?_,Ol FR N,λy d=>?_,λy d z o=>?_,λy d=>by simp[Ju y d],by simp,λy d=>?_⟩
  .unfold FW;rw[Ca];rfl
  .rcases List.mem_append.mp d with h|h
   .exact s' y h
   .rw[List.mem_singleton.mp h];exact v
  .rcases List.mem_append.mp d with h|h
   .exact Gp _ (L y h z o)
   .rw[List.mem_singleton.mp h]at o;obtain⟨p,e,rfl⟩:=List.mem_map.mp o;exact Gp _ (Dv p e)
  .rcases List.mem_append.mp d with h|h
   .rcases Io y h with q|q
    .exact .inl q
    .exact .inr (q.mono λz o=>.step (.here (by simp)) o)
   .rw[List.mem_singleton.mp h];exact .inr (.here (by simp))
def zL(F:AG K "reckon" "reckon" PX f fd)(m:mg "reckon"=some (.ref f)):AI P w K mg Zp "reckon" 16 ["book","word","rule","known"] (BN (M6 A3 9)):=by
 have z:∀n:Nat,AI P w K mg Zp "reckon" (7+n) ["book","word","rule","known"] (BN (M6 A3 (n))):=λn=>by
  induction n with
  |zero=>exact AI.mk F (F.binds (by walk_at "bD4")) m (F.Ec (k:=6) Rh (λvs H Q E h=>(Fz.Kv (iM) h).elim) (λAf A outer s H vs Q E b h=>(Fz.Kv (iM) h).elim))
  |succ n a=>exact xl (A3:=A3) BM GZ FV DO JE Qp Lh n F m a
 exact z 9
def cG:Au ["book","crowd","rule","known","word"] ["book","crowd","rule"] (AL aV):=by walk_at "z1"
def wU(F:AG K "known_rows" "known_rows" aV f fd)(m:mg "known_rows"=some (.ref f))(SI:AI P w K mg Zp "reckon" 16 ["book","word","rule","known"] (BN (M6 A3 9))):
  AI P w K mg Zp "known_rows" 17 ["book","crowd","rule"] (AQ (YW A3)):=by
 refine Fz.hF (k:=16) F (by walk_at "bD3") m cG (by rintro _ _⟨ks,tp,cs,r,T,rfl,_,_,_,_,_,_,rfl⟩;rfl) λl=>⟨_,(A9 rfl (Ah 3 cG.nd UT)
   (A9 rfl (C1 (EU EF rfl (CI (qv 1)) (D8 4 cG.nd) (AF rfl (Bi (Ai SI l (A0 (qv 0) (A0 (qv 4) (A0 (qv 2) (A0 (qv 3) A4)))))))))
   (AF rfl (Aq (qv 3))))),?_⟩
 rintro _ _⟨ks,tp,cs,r,T,rfl,g,l,v,CM,o,C,rfl⟩;show Ws [_,_,_,.any,.any] _ _ _;have E:T.length<=8:=by
  have:=GY CM o;have:=g.l8;rw[AB]at *;omega
 refine AE (L8 (VP λa=>?_));show Ws [_,_,_,.ow false (FW ks r a []),.any] _ _ _;refine AE (Bg (Eo (λxs i A6=>∃(M:List Str)(s4:Slot),A6=[.is (Az A3 ks),.sq tp (cs.map .str),.is (.str r),.ow false (FW ks r a M),s4]/\M.Nodup/\(∀y∈M,y∈T)/\T8 (Aj ks r) M/\(∀y∈M,Bq (Aj ks r) cs y)/\∀y∈cs.take i,y∈M) ?_))
 walk_at "ww"
 refine⟨⟨[],_,rfl,HN,λy b=>absurd b Aa,λy b=>absurd b Aa,λy b=>absurd b Aa,λy b=>absurd b (by simp)⟩,?_,?_⟩
 .rintro i q A6 p⟨M,s4,rfl,nd,s',n,e,Dv⟩;rw[Ax]at p;obtain⟨c,s,rfl⟩:=Option.map_eq_some_iff.mp p;have t:=C7 s;obtain⟨j,B,D⟩:=FO (C c t);refine G2 ?_;refine RK (i:=3) (NP rfl (EO (A1 rfl (EO (A1 rfl (EO (A1 rfl (NG rfl (Gx ⟨_,⟨ks,c,r,T,j,M,a,rfl,g,l,v,CM,o,by rw[As B,D],by omega,nd,s',n,rfl⟩,?_⟩)))))))));rintro _ _⟨rfl,M2,rfl,FX,s2,c2,IJ,u,Qk⟩;refine⟨_,_,rfl,M2,_,rfl,FX,s2,c2,λy b=>?_,λz d=>?_⟩
  .rcases Qk y b with h|h
   .exact e y h
   .exact h.mono λz d=>by rw[List.mem_singleton.mp d];exact .here t
  .rw[Im s]at d;rcases List.mem_append.mp d with h|h
   .exact IJ _ (Dv z h)
   .rw[List.mem_singleton.mp h];exact u
 .rintro A6⟨M,s4,rfl,nd,s',n,e,Dv⟩;rw[AB,G6]at Dv;refine Sw (zT rfl ⟨a,M,rfl,nd,λx=>⟨e x,λq=>?_⟩⟩)
  induction q with
  |here m=>exact Dv _ m
  |step _ b A=>exact n _ A _ b
def pY:Au ["book","crowd","rule","known"] ["book","crowd","rule"] (AL Sk):=by walk_at "z1"
def wz:=Sc [(".0",.local),("word",.local),("known",.free)]
def ZA9:Cs ["book","crowd","rule","known"] (AL Sk) wz "word" ["known"] [3]:=by walk_at "z2"
def vq(F:AG K "table_of" "table_of" Sk f fd)(m:mg "table_of"=some (.ref f)):
  AI P w K mg Zp "table_of" 18 ["book","crowd","rule"] (AQ (cW A3)):=by
 refine Fz.hF (k:=17) F (by walk_at "bD3") m pY (by rintro _ _⟨ks,tp,cs,r,T,rfl,_,_,_,_,_,_,rfl⟩;rfl) λc=>⟨_,(A9 rfl (Ah 3 pY.nd (Ai Oy c (A0 (qv 0) (A0 (qv 1) (A0 (qv 2) A4)))))
   (AF rfl (Aq (Fy rfl ZA9 (CI (HX DO c (by decide) (qv 0))) (λ_ _ _ _=>by exact(Mb (XU (Eb c) (qv 1) (qv 0)))) (λ_ _ _ _=>by exact(LI (Eb c) (qv 0) (qv 1) (λ_ _=>rfl))))))),?_⟩
 rintro _ _⟨ks,tp,cs,r,T,rfl,g,c,h,CM,i,j,rfl⟩;show Ws [_,_,_,.any] _ _ _;have l8:=g.l8;refine AE (L8 (mM (AM (A1 rfl (Dl (FA rfl (AM (A1 rfl (Ar ⟨_,⟨ks,tp,cs,r,T,rfl,g,c,h,CM,i,j,rfl⟩,?_⟩)))))))));rintro _⟨a,M,rfl,nd,hM⟩;show Ws [_,_,_,.ow false (FW ks r a M)] _ _ _;refine Zs 3 rfl ?_;rw[Ts];show Ws [.is (Az A3 ks),.sq tp (cs.map .str),.is (.str r),.is (QY ks r M)] _ _ _;refine Ji (Et PV.str (λw=>decide (w∈M)) (Gk ks r) (D0 (CS (BL (GX (A1 rfl ⟨Dm,_,rfl,by decide+kernel,Ar ⟨_,⟨ks,rfl,g,rfl⟩,?_⟩⟩))))) (λa b e=>by injection e));rintro _ rfl;refine⟨_,.inl ⟨rfl,wk ks,rfl,by rw[AB];omega,λx _=>?_,λx _ hx=>?_,M,rfl,hM⟩⟩
 .refine GF (ZEP (A1 rfl (A1 rfl ⟨Bj M,_,.inr x,rfl,rfl,_,rfl,?_⟩)));rw[Qz]
 .have d:=vY hx;have hi:=List.idxOf_lt_length_iff.mpr d;exact NQ (A1 rfl ⟨Bj M,_,rfl,A1 rfl ⟨.inr x,_,rfl,M8 d (by rw[Ax,As hi,Km hi];rfl),rfl⟩⟩)
def m7:Au ["book","crowd","rule","found"] ["book","crowd","rule"] (AL bb):=by walk_at "z1"
def sA(F:AG K "ending" "ending" bb f fd)(m:mg "ending"=some (.ref f)):
  Bs P w K mg Zp "ending" 20 ["book","crowd","rule"] (Bx (mX A3 AS AZ AK Ac)):=by
 refine Fz.hX (k:=19) F (by walk_at "bD3") m m7 (by rintro _ _ _⟨ks,tp,cs,r,rfl,_,rfl,_⟩;rfl) λE a=>⟨_,(A9 rfl (Bi (E8 HR a (by decide) E4 rfl (A0 (qv 2) A4)))
   (A9 rfl (Bi (E8 GN a (by decide) E4 rfl (A0 (qv 0) (A0 (qv 1) A4))))
   (A9 rfl (Ah 3 m7.nd (Ai Kj a (A0 (qv 0) (A0 (qv 1) (A0 (qv 2) A4)))))
   (A9 rfl (B9 (Aw Mn (qv 3) GD) (AF rfl (Aq (CP (A0 B2 (A0 (Ab B5 (qv 3) A7) (A0 (Ab B5 (qv 3) A7) A4)))))) B8)
   (AF rfl (Aq (CP (A0 B2 (A0 (Ai Ov a (A0 (qv 0) (A0 (qv 1) (A0 (qv 2) A4)))) A4))))))))),?_⟩
 rintro _ _ _⟨ks,tp,cs,r,rfl,Ce,rfl,v⟩;intro i0;show Ws [_,_,_,.any] _ _ _;obtain⟨g,IG,sc,t⟩:=Ce;refine AE (FH (Fo (AM (A1 rfl (Ar ⟨_,_,⟨r,rfl,t.1,rfl,rfl⟩,trivial,λe h=>Vv (by decide) h,?_⟩)))));rintro _⟨rfl,a⟩;have a:r∈Bn:=vY a;refine AE (FH (Fo (AM (A1 rfl (Dl (FA rfl (Ar ⟨_,_,⟨ks,tp,cs,rfl,g,IG,sc,rfl,rfl⟩,trivial,λe h=>Qo (λ_=>a) h,?_⟩)))))));rintro _⟨rfl,n,o⟩;have u:Bb 1 ks cs r=none:=Oq (λ_=>a) n o λz=>z.elim (λz=>absurd z.1 (by decide)) (λz=>absurd z.1 (by decide));obtain rfl:=v.go u;refine AE (Dc (wp_call (AM (A1 rfl (Dl (FA rfl (AM (A1 rfl (Ar ⟨_,⟨ks,tp,cs,r,rfl,g,a,n,o,rfl⟩,?_⟩)))))))));rintro q(⟨rfl,T,d,CM,j,IU⟩|⟨W,i,c,rfl,l,p,s⟩)
 .refine AE (Ap (Ad (HS (A1 rfl (DZ ⟨rfl,_,rfl,BC (by decide) (An ?_)⟩)))));refine Sw (U6 (GO (EV (CJ (GO (Ub (Hl (AM (A1 rfl (Dl (FA rfl (AM (A1 rfl (Ar ⟨_,⟨ks,tp,cs,r,T,rfl,g,a,d,CM,j,IU,rfl⟩,?_⟩))))))))))))));rintro _⟨M,rfl,hM⟩b;exact RY ⟨λ_ h=>absurd h Aa,λ_ h=>absurd h Aa,by show 2<=100000;decide,.inr ⟨T,d,CM,j,IU,b,M,rfl,hM⟩⟩
 .refine AE (Ap (Ad (HS (A1 rfl (DZ ⟨rfl,_,rfl,Cd rfl ?_⟩)))));refine Sw (U6 (GO (EV (CJ (GO (EV (BV (Bc rfl ⟨rfl,AH ⟨_,_,rfl,rfl,?_⟩⟩))))))));refine GO (EV (BV (Bc rfl ⟨rfl,AH ⟨_,_,rfl,rfl,?_⟩⟩)));exact RY ⟨λ_ h=>absurd h Aa,λ_ h=>absurd h Aa,λ_ h=>absurd h Aa,by show 3<=100000;decide,.inl ⟨kF l ⟨c,p,s⟩,W,i,c,rfl,l,p,s⟩⟩
def ZGE:Au ["book","crowd","rule","ending"] ["book","crowd","rule","ending"] (AL XR):=by walk_at "z1"
def xP(F:AG K "ending_judged" "ending_judged" XR f fd)(m:mg "ending_judged"=some (.ref f)):
  Bs P w K mg Zp "ending_judged" 21 ["book","crowd","rule","ending"] (Bx (ou A3 AS AZ AK Ac)):=by
 refine Fz.hX (k:=20) F (by walk_at "bD4") m ZGE (by rintro _ _ _⟨ks,cs,r,rfl,_,rfl,_⟩;rfl) λE a=>⟨_,(A9 rfl (Bi (E8 HR a (by decide) E4 rfl (A0 (qv 2) A4)))
   (A9 rfl (Bi (E8 GN a (by decide) E4 rfl (A0 (qv 0) (A0 (qv 1) A4))))
   (A9 rfl (B9 (Aw C2 (Ab B5 (qv 3) A7) B2) (AF rfl PH) B8)
   (AF rfl (Aq (Vu (Ht fO (Ai Kj a (A0 (qv 0) (A0 (qv 1) (A0 (qv 2) A4)))) GD) (QP (Ht (xO (Eb a)) (Ab B5 (qv 3) A7) (Ai Ov a (A0 (qv 0) (A0 (qv 1) (A0 (qv 2) A4)))))))))))),?_⟩
 rintro _ _ _⟨ks,cs,r,rfl,Ce,rfl,q⟩;have tp:Bool:=false;intro i0;show Ws [_,_,_,_] _ _ _;obtain⟨g,IG,sc,n⟩:=Ce;refine AE (FH (Fo (AM (A1 rfl (Ar ⟨_,_,⟨r,rfl,n.1,rfl,rfl⟩,trivial,λe h=>Vv (by decide) h,?_⟩)))));rintro _⟨rfl,a⟩;have a:r∈Bn:=vY a;refine AE (FH (Fo (AM (A1 rfl (Dl (FA rfl (Ar ⟨_,_,⟨ks,false,cs,rfl,g,IG,sc,rfl,rfl⟩,trivial,λe h=>Qo (λ_=>a) h,?_⟩)))))));rintro _⟨rfl,d,j⟩;have p:Bb 2 ks cs r=none:=Oq (λ_=>a) d j λz=>z.elim (λz=>absurd z.1 (by decide)) (λz=>absurd z.1 (by decide));obtain rfl:=q.go p;refine AE (Ap (Ad (BF (BV (Bc rfl ⟨rfl,AH ⟨_,_,rfl,rfl,CJ ⟨rfl,_,rfl,BC (by decide) (An ?_)⟩⟩⟩)))));refine CD (VG (Z4 (wp_call (AM (A1 rfl (Dl (FA rfl (AM (A1 rfl (Ar ⟨_,⟨ks,false,cs,r,rfl,g,a,d,j,rfl⟩,?_⟩))))))))));rintro _(⟨rfl,T,l,CM,o,IU⟩|⟨W,i,c,rfl,s,t,hx⟩)
 .refine DZ ⟨rfl,_,rfl,Cd rfl ?_⟩;refine ZEo (Bd (BV (Bc rfl ⟨rfl,AH ⟨_,_,rfl,rfl,_,.inl ⟨rfl,rfl,rfl,?_⟩⟩⟩)));refine Bd (BL (Hl (AM (A1 rfl (Dl (FA rfl (AM (A1 rfl (Ar ⟨_,⟨ks,false,cs,r,T,rfl,g,a,l,CM,o,IU,rfl⟩,?_⟩)))))))));rintro _⟨M,rfl,hM⟩;exact⟨_,.inl ⟨rfl,rfl,λb=>⟨_,rfl⟩⟩⟩
 .exact DZ ⟨rfl,_,rfl,BC (by show ¬ (false=true);decide) ⟨_,rfl⟩⟩
def xa:Au ["book","crowd","rule"] ["book","crowd","rule"] (AL Xc):=by walk_at "z1"
def ZH1(F:AG K "check_ends" "check_ends" Xc f fd)(m:mg "check_ends"=some (.ref f)):
  Bs P w K mg Zp "check_ends" 18 ["book","crowd","rule"] (Bx (Wy A3 Ac)):=by
 refine Fz.hX (k:=17) F (by walk_at "bD3") m xa (by rintro _ _ _⟨ks,tp,cs,r,rfl,_,_,_,_,rfl,rfl⟩;rfl) λE a=>⟨_,(AF rfl (B9 (Aw Mn (Ai Kj a (A0 (qv 0) (A0 (qv 1) (A0 (qv 2) A4)))) GD) (AF rfl (oO (by rfl) OR YS rfl rfl E4 (A0 B2 A4))) B8)),?_⟩
 rintro _ _ _⟨ks,tp,cs,r,rfl,g,a,h,j,rfl,rfl⟩;intro i0;show Ws [_,_,_] _ _ _;refine Ap (Ad (HS (wp_call (AM (A1 rfl (Dl (FA rfl (AM (A1 rfl (Ar ⟨_,⟨ks,tp,cs,r,rfl,g,a,h,j,rfl⟩,?_⟩))))))))));rintro _(⟨rfl,T,b,CM,d,IU⟩|⟨W,i,c,rfl,e,l,hx⟩)
 .exact DZ ⟨rfl,_,rfl,BC (by decide) (An ⟨_,rfl,rfl,T,b,CM,d,IU⟩)⟩
 .refine DZ ⟨rfl,_,rfl,Cd rfl ?_⟩;refine fJ ?_
  walk_at "ww"
  exact⟨by simp,trivial,kF e ⟨c,l,hx⟩,rfl⟩
def ze:Au ["book","word","kind"] ["book","word","kind"] (AL U1):=by walk_at "z1"
def ZBM:=Sc [(".0",.local),("put",.local),("kind",.free)]
def ZCj:Cs ["book","word","kind"] (AL U1) ZBM "put" ["kind"] [2]:=by walk_at "z2"
def ZJS(F:AG K "puts_in" "puts_in" U1 f fd)(m:mg "puts_in"=some (.ref f)):
  AI P w K mg Zp "puts_in" 6 ["book","word","kind"] (AQ (oz A3)):=by
 refine Fz.hF (k:=5) F (by walk_at "bD3") m ze (by rintro _ _⟨ks,x,y,rfl,_,_,rfl⟩;rfl) λa=>⟨_,(AF rfl (Aq (BZ HE BM (A0 (Fy rfl ZCj (CI (IS Gz a (by decide) (qv 0) (A0 (qv 1) A4))) (λ_ _ _ _=>by exact(Mb (Aw C2 (Ab (show D1 _ (D4 K)from B5) (qv 1) A7) (qv 0)))) (λ_ _ _ _=>by exact(qv 1))) A4)))),?_⟩
 rintro _ _⟨ks,x,y,rfl,g,hx,rfl⟩;show Ws [_,_,_] _ _ _;have b:=(g.Kb x).1;refine CD (LO (Bd (BL (Et BD (λp=>decide (p.2=y)) BD (D0 (CS (BL (GX (A1 rfl ⟨Dm,_,rfl,by decide+kernel,AM (A1 rfl (Ar ⟨_,⟨ks,x,rfl,g,hx,rfl⟩,?_⟩))⟩))))) ZJl))));rintro _ rfl;refine⟨_,.inl ⟨rfl,CV ks x,rfl,by omega,λp _=>?_,λp _ _=>A1 rfl rfl,_,.inl ⟨rfl,?_⟩⟩⟩
 .exact Ad (BF (BV (Bc rfl ⟨rfl,AH ⟨_,_,rfl,rfl,A1 rfl ⟨rfl,_,rfl,rfl⟩⟩⟩)))
 .rw[ZHi]
def Oz:Au ["book","crowd","counts","standing","number","word","put_in","gone"] ["book","crowd","counts"] (AL V9):=by walk_at "z1"
def ZGr:=Sc [(".0",.local),("other",.local),("many",.local),("puts_in",.globalImplicit),("book",.free),("word",.free)]
def uw:Jb ["book","crowd","counts","standing","number","word","put_in","gone"] (AL V9) ZGr ["other","many"] ["book","word"] [0,5]:=⟨rfl,by decide+kernel,by decide+kernel,by decide+kernel,rfl,by decide+kernel,by decide+kernel,by decide+kernel,by decide+kernel⟩
def ZCG(F:AG K "standing_behind" "standing_behind" V9 f fd)(m:mg "standing_behind"=some (.ref f)):
  AI P w K mg Zp "standing_behind" 7 ["book","crowd","counts"] (AQ (oG A3)):=by
 refine Fz.hF (k:=6) F (by walk_at "bD3") m Oz (by rintro _ _⟨ks,tp,cs,A,rfl,_,_,_,_,rfl⟩;rfl) λd=>⟨_,(A9 rfl (Ah 3 Oz.nd (FF A4))
   (A9 rfl (C1 (EU EF rfl (l6 rfl PY (A0 (HX DO d (by decide) (qv 0)) A4)) (Vp rfl (Jn (D8 4 Oz.nd) (Jn (D8 5 Oz.nd) WM))) (A9 rfl (Ah 6 Oz.nd (BZ (VX rfl) GW (A0 (kR rfl uw (.cons (.cons .nil)) (λ_=>rfl) (λ_=>rfl) (ZKE rfl X8 (A0 (HX DO d (by decide) (qv 0)) (A0 (qv 2) A4))) (λ_ _ _ _=>by exact FG) (λ_ _ _ _=>by exact(B4 Lb (qv 3) (Ai aG d (A0 (qv 0) (A0 (qv 2) (A0 (qv 1) A4))))))) A4)))
   (A9 rfl (Ah 7 Oz.nd (ZK (IA (IS OE d (by decide) (qv 0) (A0 (qv 5) A4))) (Ab Df (qv 2) (qv 4)) A7))
   (AF rfl (Bi (Er FP Sh Si OG (qv 3) (A0 (B4 LJ (B4 EJ (ZKI (Er FP ZKo ZKp vT (qv 1) (A0 (qv 5) A4)) (Er PySem.F.plainAttrs_tuple PySem.F.slot_tuple_count PySem.F.type_tuple_count ZCk (qv 1) (A0 (qv 5) A4))) (qv 6)) (qv 7)) A4))))))))
   (AF rfl (Aq (Hw Qh FV (A0 (qv 3) A4)))))),?_⟩
 rintro _ _⟨ks,tp,cs,A,rfl,g,s,D,x,rfl⟩;show Ws [_,_,_,.any,.any,.any,.any,.any] _ _ _;have l8:=g.l8;refine AE (G3 (Kg (Cb ⟨by decide,?_⟩)));refine AE (Bg (Eo (λxs i A6=>∃(s4 l j h:Slot),A6=[.is (Az A3 ks),.sq tp (cs.map .str),.is (.lst (A.map .int)),.own (((MD ks cs A).take i).map .int),s4,l,j,h]) (qN (CS (BL (GX (A1 rfl ⟨Dm,_,rfl,by decide+kernel,Ar ⟨_,⟨ks,rfl,g,rfl⟩,?_⟩⟩)))))));rintro _ rfl;refine⟨_,.inl ⟨rfl,rfl,⟨_,_,_,_,rfl⟩,?_,?_⟩⟩
 .rintro i p A6 n⟨s4,l,j,h,rfl⟩;obtain⟨x0,hx,rfl⟩:=fR n;rw[Ax]at hx;obtain⟨w,r,rfl⟩:=Option.map_eq_some_iff.mp hx;have hi:=(List.getElem?_eq_some_iff.mp r).1;rw[AB]at hi;have t:=C7 r;have C:A[i]?=some (A.getD i 0):=by rw[JU,As (by omega)];rfl
  refine Yc ⟨_,_,rfl,?_⟩;refine AE (Dc (nG (Bd (BL (fM (λ_=>true) (kA ks w) (sg (CS (BL (GX (A1 rfl ⟨Dm,_,rfl,by decide+kernel,Ar ⟨_,⟨ks,rfl,g,rfl⟩,?_⟩⟩))))))))));rintro _ rfl;refine⟨_,.inl ⟨rfl,CS (A1 rfl ⟨_,.inl ⟨rfl,?_⟩⟩)⟩⟩;refine⟨by rw[TL,AB,AB];omega,λz s=>?_,?_⟩
  .obtain⟨p,q,n,v,rfl⟩:=ZGA s;obtain⟨o,ho,rfl⟩:=List.mem_map.mp n;obtain⟨b,Dq,rfl⟩:=List.mem_map.mp v;refine⟨_,rfl,rfl,Fq rfl,λ_=>?_⟩;refine YF (A1 rfl ⟨_,rfl,wp_call (AM (A1 rfl (AM (A1 rfl (AM (A1 rfl (Ar ⟨_,⟨ks,o,w,rfl,g,ho,rfl⟩,?_⟩)))))))⟩);rintro _ rfl;have:=x b Dq;have:=ZF2 g o w;exact⟨_,rfl,ZAN (by omega) (by omega) (by omega) (by omega),rfl⟩
  rw[List.filter_eq_self.mpr λ_ _=>rfl,mh];refine⟨_,.inl ⟨rfl,rfl,_,rfl,?_⟩⟩;have a:∀{ss:List Slot}{k:PV->Prop}{K':ZLZ},ss[0]?=some (.is (Az A3 ks))->ss[2]?=some (.is (.lst (A.map .int)))->ss[4]?=some (.is (.int (i:Int)))->ss[5]?=some (.is (.str w))->k (.int (if Hd ks w=true then A.getD i 0 else 0))->Wp ss (W0 (tB (KS A3 "goes" (AQ (WJ A3)) [] E0 (Al 0) (AX (Al 5) BA))) (Ba (Lz K') (Al 2) (Al 4)) (tC (V.int 0))) k:=λ{ss k K'}B h2 y e hk=>by
   refine bA (GF (ke (A1 B ⟨Dm,_,rfl,by decide+kernel,AM (A1 e (Ar ⟨_,⟨ks,w,rfl,g,t,rfl⟩,?_⟩))⟩)));rintro _ rfl;refine⟨_,rfl,BK (λc=>?_) (λc=>?_)⟩
   .rw[u4 c]at hk;exact KD (Cz h2 ⟨rfl,A1 y ⟨_,_,rfl,Fx (by rw[Ax,C];rfl),hk⟩⟩)
   .rw[tK c]at hk;exact AH hk
  refine AE (Dc (a rfl rfl rfl rfl ?_));have u:∀{ss:List Slot}{k:PV->Prop}{K':ZLZ},ss[1]?=some (.sq tp (cs.map .str))->ss[5]?=some (.is (.str w))->k (.int (cs.count w:Nat))->Wp ss (WA (GJ K' "list" (b7 K') (Al 1) (AX (Al 5) BA)) (GJ K' "tuple" (Zx K') (Al 1) (AX (Al 5) BA))) k:=λ{ss k K'}h1 e hk=>by
   cases tp with
   |false=>exact yD (ZHv (FA h1 ⟨rfl,cs,rfl,A1 e ⟨w,rfl,hk⟩⟩))
   |true=>exact sU (ZDE (FA h1 ⟨rfl,cs,rfl,A1 e ⟨w,rfl,hk⟩⟩))
  refine Vr rfl (Gi (Gi (u rfl rfl ⟨_,rfl,A1 rfl ⟨_,rfl,_,rfl,A1 rfl ⟨_,rfl,?_⟩⟩⟩)));refine⟨by rw[AB,Dj,kT];omega,.is (.int (i:Int)),.is (.str w),.is (.int (((wk ks).zip A).map λq=>q.2 * pin ks q.1 w).sum),.is (.int (if Hd ks w=true then A.getD i 0 else 0)),?_⟩
  rw[Im (xo r),Ca];rfl
 .rintro A6⟨s4,l,j,h,rfl⟩;rw[TJ,AB,AB,Pn (by rw[kT];exact B0 _)];exact CD (RU rfl (Kc rfl rfl))
def Rx:Au ["book","crowd","rule","known","rows","counts","rounds"] ["book","crowd","rule"] (AL Nt):=by walk_at "z1"
def sH:=Sc [(".0",.local),("word",.local),("known",.free)]
def wG:Cs ["book","crowd","rule","known","rows","counts","rounds"] (AL Nt) sH "word" ["known"] [3]:=by walk_at "z2"
def ZJj:=Sc [(".0",.local),("row",.local)]
def u9:Cs ["book","crowd","rule","known","rows","counts","rounds"] (AL Nt) ZJj "row" [] []:=by walk_at "z2"
def ZGb:=Sc [(".0",.local),("row",.local)]
def ZJr:Cs ["book","crowd","rule","known","rows","counts","rounds"] (AL Nt) ZGb "row" [] []:=by walk_at "z2"
def uv(F:AG K "reckoned" "reckoned" Nt f fd)(m:mg "reckoned"=some (.ref f)):
  Bs P w K mg Zp "reckoned" 20 ["book","crowd","rule"] (Bx (kJ A3 AS AZ AK Ac)):=by
 refine Fz.hX (k:=19) F (by walk_at "bD3") m Rx (by rintro _ _ _⟨ks,tp,cs,r,rfl,_,rfl,_⟩;rfl) λE d=>⟨_,(A9 rfl (Bi (E8 HR d (by decide) E4 rfl (A0 (qv 2) A4)))
   (A9 rfl (Bi (E8 GN d (by decide) E4 rfl (A0 (qv 0) (A0 (qv 1) A4))))
   (A9 rfl (Bi (E8 PD d (by decide) E4 rfl (A0 (qv 0) (A0 (qv 1) (A0 (qv 2) A4)))))
   (A9 rfl (Ah 3 Rx.nd (Ai Oy d (A0 (qv 0) (A0 (qv 1) (A0 (qv 2) A4)))))
   (A9 rfl (SJ (i:=4) Rx.nd rfl (Or.inl rfl) rfl wG (CI (qv 1)) (λ_ _ _ _=>by exact FG) (λ_ _ _ _=>by exact(LI (Eb d) (qv 0) (qv 1) (λ_ _=>rfl))))
   (A9 rfl (Ah 5 Rx.nd (Ai Lh d (A0 (Fy rfl u9 (CI (qv 4)) (λ_ _ _ _=>by exact FG) (λ_ _ _ _=>by exact(Ab (show D1 _ (D4 K)from B5) (qv 0) A7))) (A0 (BZ HE BM (A0 (HX DO d (by decide) (qv 0)) A4)) A4))))
   (A9 rfl (Ah 6 Rx.nd (ZEm rfl (by rfl) GZ (A0 (Fy rfl ZJr (CI (qv 4)) (λ_ _ _ _=>by exact FG) (λ_ _ _ _=>by exact(Ab (show D1 _ (D4 K)from B5) (qv 0) A7))) A4) A7))
   (AF rfl (Aq (CP (A0 (Hw Qh FV (A0 (qv 5) A4)) (A0 (qv 6) (A0 (Ai cL d (A0 (qv 0) (A0 (qv 1) (A0 (qv 5) A4)))) A4))))))))))))),?_⟩
 rintro _ _ _⟨ks,tp,cs,r,rfl,Ce,rfl,G⟩;intro i0;show Ws [_,_,_,.any,.any,.any,.any] _ _ _;obtain⟨g,IG,sc,v⟩:=Ce;refine AE (FH (Fo (AM (A1 rfl (Ar ⟨_,_,⟨r,rfl,v.1,rfl,rfl⟩,trivial,λe h=>Vv (by decide) h,?_⟩)))));rintro _⟨rfl,d⟩;have d:r∈Bn:=vY d;refine AE (FH (Fo (AM (A1 rfl (Dl (FA rfl (Ar ⟨_,_,⟨ks,tp,cs,rfl,g,IG,sc,rfl,rfl⟩,trivial,λe h=>Qo (λ_=>d) h,?_⟩)))))));rintro _⟨rfl,n,l⟩;refine AE (FH (Fo (AM (A1 rfl (Dl (FA rfl (AM (A1 rfl (Ar ⟨_,_,⟨ks,tp,cs,r,rfl,g,d,n,l,rfl,rfl⟩,trivial,λe h=>ij (λ_=>d) n l (.inr ⟨rfl,h.1⟩) h.2,?_⟩)))))))));rintro _⟨rfl,T0,p⟩;have u:=p.Mp;have D:Bb 3 ks cs r=none:=Oq (λ_=>d) n l λz=>z.elim (λz=>absurd z.1 (by decide)) (λz=>u z.2);obtain rfl:=G.go D;have l8:=g.l8;obtain⟨T,q,CM,A,IU⟩:=ZIs (ws:=wk ks) (λx h=>Rv g l h) u;have s:∀y∈T,y∈wk ks:=λy C=>Rv g l (A y C);have B:T.length<=8:=by
  have:=GY CM s;rw[AB]at this;omega
 have t:∀c∈cs,c∈T:=λc h=>IU c (.here h);refine AE (L8 (mM (AM (A1 rfl (Dl (FA rfl (AM (A1 rfl (Ar ⟨_,⟨ks,tp,cs,r,T,rfl,g,d,q,CM,s,t,rfl⟩,?_⟩)))))))));rintro _⟨a,M,rfl,nd,hM⟩;show Ws [_,_,_,.ow false (FW ks r a M),.any,.any,.any] _ _ _;refine Zs 3 rfl ?_;rw[Ts];show Ws [.is (Az A3 ks),.sq tp (cs.map .str),.is (.str r),.is (QY ks r M),.any,.any,.any] _ _ _;refine AE (G3 (Et PV.str (λ_=>true) (Gk ks r) (D0 (WG rfl ⟨cs,rfl,by omega,λ_ _=>Fq rfl,λx hx _=>?_,?_⟩)) (λa b e=>by injection e)))
 .have o:=(hM x).mpr (.here hx);have hi:=List.idxOf_lt_length_iff.mpr o;exact NQ (A1 rfl ⟨Bj M,_,rfl,A1 rfl ⟨.inr x,_,rfl,M8 o (by rw[Ax,As hi,Km hi];rfl),rfl⟩⟩)
 rw[List.filter_eq_self.mpr λ_ _=>rfl];refine JC 4 rfl ?_;refine AE (G3 (Hl (AM (BL (Et (Gk ks r) (λ_=>true) (λc=>PV.tup ((cnt ks r c).map .int)) (D0 (CS (A1 rfl ⟨_,.inl ⟨rfl,cs,rfl,by omega,λ_ _=>Fq rfl,λy _ _=>?_,?_⟩⟩))) rw_inj)))))
 .exact BV (Bc rfl ⟨rfl,AH ⟨_,_,rfl,rfl,rfl⟩⟩)
 rw[List.filter_eq_self.mpr λ_ _=>rfl];refine AM (LO (Bd (BL (GX (A1 rfl ⟨Dm,_,rfl,by decide+kernel,Ar ⟨_,⟨ks,rfl,g,rfl⟩,?_⟩⟩)))));rintro _ rfl;refine⟨_,.inl ⟨rfl,Ar ⟨_,⟨cs.map (cnt ks r),ks.length,?_,l8,by rw[AB];omega,λc l=>?_,rfl⟩,?_⟩⟩⟩
 .rw[AB,AB,Cm];rfl
 .obtain⟨y,_,rfl⟩:=List.mem_map.mp l;exact eO ks r y
 rintro _ rfl;rw[show(List.range ks.length).map (λj=>((cs.map (cnt ks r)).map λc=>c.getD j 0).sum)=totC ks r cs from by unfold totC;refine Nh λj _=>?_;rw[Cm];rfl];refine JC 5 rfl ?_;refine AE (Dc (xA (Bd (BL (Et (Gk ks r) (λ_=>true) (λc=>PV.int (B7 ks r c)) (D0 (CS (A1 rfl ⟨_,.inl ⟨rfl,cs,rfl,by omega,λ_ _=>Fq rfl,λy _ _=>?_,?_⟩⟩))) rw_inj)))))
 .exact BV (Bc rfl ⟨rfl,AH ⟨_,_,rfl,rfl,rfl⟩⟩)
 rw[List.filter_eq_self.mpr λ_ _=>rfl];refine⟨_,.inl ⟨rfl,rfl,cs.map (B7 ks r),by rw[Cm];rfl,λm o=>?_⟩⟩;have H:=ZIQ (λc l=>by
  rw[(jo q B (t c l)).2];unfold Ot;have:=(WC (1::(Ct ks r c).map (Kr (B7 ks r))) (by simp)).2 1 (by simp);omega) o
 subst H;refine CD (Dg (BG (RU rfl (Cz rfl (BG (A1 rfl (BG (wp_call (AM (A1 rfl (Dl (FA rfl (AM (A1 rfl (Ar ⟨_,⟨ks,tp,cs,totC ks r cs,rfl,g,n,uo ks r cs,λc l=>yU g n l,rfl⟩,?_⟩)))))))))))))));rintro _ rfl;exact Cb ⟨by show 3<=100000;decide,rfl⟩
def gp:Au ["book","branch","nexts"] ["book","branch"] (AL Ry):=by walk_at "z1"
def ZHq:=Sc [(".0",.local),("put",.local),("branch",.free)]
def wA:Cs ["book","branch","nexts"] (AL Ry) ZHq "put" ["branch"] [1]:=by walk_at "z2"
def ZBq:=Sc [(".0",.local),("put",.local),("branch",.free)]
def ZEU:Cs ["book","branch","nexts"] (AL Ry) ZBq "put" ["branch"] [1]:=by walk_at "z2"
def wc(F:AG K "parts_of" "parts_of" Ry f fd)(m:mg "parts_of"=some (.ref f)):
  AI P w K mg Zp "parts_of" 6 ["book","branch"] (AQ (OS A3)):=by
 refine Fz.hF (k:=5) F (by walk_at "bD2") m gp (by rintro _ _⟨ks,b,rfl,_,_,rfl⟩;rfl) λa=>⟨_,(A9 rfl (SJ (i:=2) gp.nd rfl (Or.inl rfl) rfl wA (CI (IS Gz a (by decide) (qv 0) (A0 (Ab B5 (qv 1) A7) A4))) (λ_ _ _ _=>by exact(Mb (Aw C2 (Ab (show D1 _ (D4 K)from B5) (qv 1) A7) B2))) (λ_ _ _ _=>by exact(CP (A0 (Ab (show D1 _ (D4 K)from B5) (qv 1) A7) (A0 (Ab (show D1 _ (D4 K)from B5) (qv 0) A7) A4)))))
   (A9 rfl (B9 (Aw C2 (Ab B5 (qv 1) A7) A7) (AF rfl (Aq (qv 2))) B8)
   (AF rfl (Aq (B4 Pc (Fy rfl ZEU (CI (IS Gz a (by decide) (qv 0) (A0 (Ab B5 (qv 1) A7) A4))) (λ_ _ _ _=>by exact(Mb (Aw C2 (Ab (show D1 _ (D4 K)from B5) (qv 1) A7) B2))) (λ_ _ _ _=>by exact(CP (A0 (Ab (show D1 _ (D4 K)from B5) (qv 1) A7) (A0 (B4 LJ (Ab (show D1 _ (D4 K)from B5) (qv 0) A7) A7) A4))))) (qv 2)))))),?_⟩
 rintro _ _⟨ks,b,rfl,g,d,rfl⟩;show Ws [_,_,.any] _ _ _;have h:=(g.Kb b.1).1;refine AE (G3 (Et BD (λp=>decide (p.1="next")) (λp=>CH (p.2,b.2)) (D0 (CS (BL (GX (A1 rfl ⟨Dm,_,rfl,by decide+kernel,AM (Xt rfl (Ar ⟨_,⟨ks,b.1,rfl,g,d,rfl⟩,?_⟩))⟩))))) Qi))
 rintro _ rfl;refine⟨_,.inl ⟨rfl,CV ks b.1,rfl,by omega,λp _=>Ad (BF (oV rfl (CJ ⟨rfl,_,rfl,jC _ _⟩))),λp _ _=>?_,?_⟩⟩
 .exact Dg (BG (jf rfl (BG (Pz rfl (Cb ⟨by show 2<=100000;decide,rfl⟩)))))
 rw[gF];refine AE (Ap (Ad (BF (Pz rfl (AH ⟨rfl,_,rfl,BK (λc=>?_) (λc=>An ?_)⟩)))))
 .have e:b.2=0:=bc c;refine Zc rfl ?_;unfold Cw;rw[u4 e];rfl
 have e:¬ b.2=0:=λz=>c (by rw[z];rfl);refine Ji (My (Bd (BL (Et BD (λp=>decide (p.1="last")) (λp=>CH (p.2,b.2 - 1)) (D0 (CS (BL (GX (A1 rfl ⟨Dm,_,rfl,by decide+kernel,AM (Xt rfl (Ar ⟨_,⟨ks,b.1,rfl,g,d,rfl⟩,?_⟩))⟩))))) Qi))));rintro _ rfl;refine⟨_,.inl ⟨rfl,CV ks b.1,rfl,by omega,λp _=>Ad (BF (oV rfl (CJ ⟨rfl,_,rfl,jC _ _⟩))),λp _ _=>?_,?_⟩⟩
 .refine Dg (BG (jf rfl (BG (Gi (Pz rfl ⟨_,rfl,AH ⟨_,rfl,Cb ⟨by show 2<=100000;decide,?_⟩⟩⟩)))));unfold CH;rw[show((b.2 - 1:Nat):Int)=(b.2:Int) - 1 by omega]
 rw[gF];refine⟨_,.inl ⟨rfl,rfl,Kc rfl ⟨rfl,?_,?_⟩⟩⟩
 .have h1:=Tz g b.1 "last";have h2:=Tz g b.1 "next"
  simp only[AB];omega
 unfold Cw;rw[tK e,Ca]
def cI:Au ["book","branch","known","many"] ["book","branch","known"] (AL Qr):=by walk_at "z1"
def yh:=Sc [(".0",.local),("part",.local),("many_told",.globalImplicit),("book",.free),("known",.free)]
def ub:Cs ["book","branch","known","many"] (AL Qr) yh "part" ["book","known"] [0,2]:=by walk_at "z2"
def ZD1(n:Nat)(F:AG K "many_told" "many_told" Qr f fd)(m:mg "many_told"=some (.ref f))(II:AI P w K mg Zp "many_told" (7+n) ["book","branch","known"] (BN (Je A3 (n)))):
  AI P w K mg Zp "many_told" (7+n+1) ["book","branch","known"] (BN (Je A3 (n+1))):=by
 refine Fz.hM (k:=7+n) F (by walk_at "bD3") m cI (by rintro _ _⟨ks,b,T,i,M,a,rfl,_,_,_,_,_,_,rfl⟩;rfl) λo=>⟨_,(A9 rfl (C1 (B9 (qc (Eb o) (qv 1) (qv 2)) (A9 rfl (Ah 3 cI.nd (BZ (VX rfl) GW (A0 (Fy rfl ub (CI (Ai (hk:=by omega) JO o (A0 (qv 0) (A0 (qv 1) A4)))) (λ_ _ _ _=>by exact FG) (λ_ _ _ _=>by exact(Ai (hk:=by omega) II o (A0 (qv 0) (A0 (qv 2) (A0 (qv 1) A4)))))) A4)))
   (AF rfl (Q3 (Eb o) (qv 2) (qv 1) (ZK (Aw C2 (Ab B5 (qv 1) A7) A7) (B4 EJ (qv 3) A7) (qv 3))))) B8))
   (AF rfl (Aq (LI (Eb o) (qv 2) (qv 1) (λ_ _=>rfl))))),?_⟩
 rintro _ _⟨ks,b,T,i,M,a,rfl,g,v,CM,A,⟨hi,S,hd⟩,ok,rfl⟩;have E:=C7 hi;have H:T.length<=8:=by
  have l8:=g.l8;have:=GY CM A;rw[AB]at this;omega
 show Ws [.is (Az A3 ks),.is (CH b),.ow true (C3 (wv ks) a M),.any] _ _ _;refine Jx (λA6=>∃(M':List Br)(G:Slot),A6=[.is (Az A3 ks),.is (CH b),.ow true (C3 (wv ks) a M'),G]/\Gh T M'/\(∀c∈M,c∈M')/\(∀c∈M',c∈M∨∃j,T[j]?=some c.1/\j<=i)/\b∈M') ?_ ?_
 .refine Bg (Ap (GF (ux (A1 rfl (C8 (i:=2) rfl ⟨wv ks,a,M,b,rfl,rfl,_,rfl,?_⟩)))))
  by_cases l:b∈M
  .rw[uL l];exact BC (by decide) (An ⟨M,_,rfl,ok,λc h=>h,λc h=>.inl h,l⟩)
  rw[vc l];refine Cd rfl ?_;refine AE (Q9 (i:=2) (gA (λn t s=>∃M',t=C3 (wv ks) a M'/\Gh T M'/\(∀c∈M,c∈M')/\(∀c∈M',c∈M∨∃j,T[j]?=some c.1/\j<i)/\s=(((Cw ks b).take n).map (wv ks)).sum) rfl rfl (D0 (CS (BL (Hl (AM (A1 rfl (AM (A1 rfl (Ar ⟨_,⟨ks,b,rfl,g,A _ E,rfl⟩,?_⟩)))))))))));rintro _ rfl;have pl:=kW g b;refine⟨_,.inl ⟨rfl,by rw[AB];omega,⟨M,rfl,ok,λc h=>h,λc h=>.inl h,rfl⟩,?_,?_⟩⟩
  .rintro n x nk us s hx⟨M',D,G1,Ju,Io,es⟩;rw[Ax]at hx;obtain⟨c,C,rfl⟩:=Option.map_eq_some_iff.mp hx;obtain⟨j,U,σ⟩:=Px v hi (N1 (C7 C)).1;rw[D];refine⟨_,⟨ks,c,T,j,M',a,rfl,g,v,CM,A,⟨σ,by omega,CB (N1 (C7 C)).2 hd⟩,G1,rfl⟩,?_⟩;rintro _ _⟨rfl,M2,rfl,IZ,IJ,Qk⟩;refine⟨_,_,_,rfl,rfl,M2,rfl,IZ,λd h=>IJ d (Ju d h),λd h=>?_,?_⟩
   .rcases Qk d h with h|⟨q,r,u⟩
    .exact Io d h
    .exact .inr ⟨q,r,by omega⟩
   .rw[es,Im C,Ca,rG];simp
  .rintro nk us s⟨M',D,G1,Ju,Io,es⟩;rw[AB,G6]at es;rw[D,es];have J:b∉M':=λz=>by
    rcases Io b z with h|⟨q,r,u⟩
    .exact l h
    .obtain⟨h1,R⟩:=List.getElem?_eq_some_iff.mp r;obtain⟨h2,Q⟩:=List.getElem?_eq_some_iff.mp hi;exact List.pairwise_iff_getElem.mp CM q i h1 h2 u (R.trans Q.symm)
   have L:=G1.len H;have I:=Y3 v H E;show Ws [.is (Az A3 ks),.is (CH b),.ow true (C3 (wv ks) a M'),.is (.int ((Cw ks b).map (wv ks)).sum)] _ _ _;refine ZBw (i:=2) rfl (Wp.mono (k:=λp=>p=PV.int (wv ks b)) ?_ ?_)
   .refine bA (Ad (BF (Pz rfl (AH ⟨rfl,_,rfl,BK (λc=>?_) (λc=>?_)⟩))))
    .refine Gi (A1 rfl ⟨_,rfl,AH ⟨_,rfl,?_⟩⟩);rw[I];unfold KJ;rw[u4 (bc c)]
    .refine A1 rfl ?_;rw[I];unfold KJ;rw[tK (λz=>c (by rw[z];rfl)),Int.add_zero]
   .rintro _ rfl;refine A1 rfl ⟨b,J,rfl,rfl,by omega,M'++[b],_,rfl,⟨?_,λc B=>?_⟩,λc h=>Gp _ (Ju c h),λc B=>?_,by simp⟩
    .rw[Cy];exact⟨G1.nd,List.nodup_cons.mpr ⟨Aa,HN⟩,λx hx y N e=>J (by rw[List.mem_singleton.mp N]at e;rw[<- e];exact hx)⟩
    .rcases List.mem_append.mp B with h|h
     .exact G1.sub c h
     .rw[List.mem_singleton.mp h];exact⟨E,hd⟩
    .rcases List.mem_append.mp B with h|h
     .exact(Io c h).imp id λ⟨q,r,u⟩=>⟨q,r,dv u⟩
     .rw[List.mem_singleton.mp h];exact .inr ⟨i,hi,B0 _⟩
 .rintro A6⟨M',G,rfl,G1,Ju,Io,l⟩;exact MX (i:=2) (nk:=.KW (M'.map Fu)) (a0:=a) rfl (ZBv (C8 (i:=2) rfl ⟨wv ks,a,M',rfl,A1 rfl ⟨b,l,rfl,rfl,M',rfl,G1,Ju,Io⟩⟩))
def yO(F:AG K "many_told" "many_told" Qr f fd)(m:mg "many_told"=some (.ref f)):AI P w K mg Zp "many_told" 16 ["book","branch","known"] (BN (Je A3 9)):=by
 have z:∀n:Nat,AI P w K mg Zp "many_told" (7+n) ["book","branch","known"] (BN (Je A3 (n))):=λn=>by
  induction n with
  |zero=>exact AI.mk F (F.binds (by walk_at "bD3")) m (F.Ec (k:=6) cI (λvs H Q E h=>(Fz.Kv (eQ) h).elim) (λAf A outer s H vs Q E b h=>(Fz.Kv (eQ) h).elim))
  |succ n a=>exact ZD1 (A3:=A3) GW JO n F m a
 exact z 9
def MT:Au ["book","branches","n","known","number","branch"] ["book","branches","n","known"] (AL VC):=by walk_at "z1"
def ZIJ(n:Nat)(F:AG K "word_at" "word_at" VC f fd)(m:mg "word_at"=some (.ref f))(II:AI P w K mg Zp "many_told" 16 ["book","branch","known"] (BN (Je A3 9)))(Ri:AI P w K mg Zp "word_at" (17+n) ["book","branches","n","known"] (BN (N5 A3 (n)))):
  AI P w K mg Zp "word_at" (17+n+1) ["book","branches","n","known"] (BN (N5 A3 (n+1))):=by
 refine Fz.hM (k:=17+n) F (by walk_at "bD4") m MT (by rintro _ _⟨ks,bs,m,T,M,a,rfl,_,_,_,_,_,_,_,rfl⟩;rfl) λv=>⟨_,(A9 rfl (Ah 4 MT.nd A7)
   (A9 rfl (C1 (QX EF (Aw bG (qv 2) (Ai (hk:=by omega) II v (A0 (qv 0) (A0 (Ab Df (qv 1) (qv 4)) (A0 (qv 3) A4))))) (A9 rfl (SH (i:=2) MT.nd rfl (Or.inl rfl) (Ai (hk:=by omega) II v (A0 (qv 0) (A0 (Ab Df (qv 1) (qv 4)) (A0 (qv 3) A4)))) Xd)
   (AF rfl (SH (i:=4) MT.nd rfl (Or.inl rfl) A7 Vi)))))
   (A9 rfl (Ah 5 MT.nd (Ab Df (qv 1) (qv 4)))
   (A9 rfl (C1 (B9 (Aw C2 (Ab B5 (qv 5) A7) A7) (A9 rfl (B9 (Aw C2 (qv 2) A7) (AF rfl (Aq (Ab B5 (qv 5) A7))) B8)
   (AF rfl (SH (i:=2) MT.nd rfl (Or.inl rfl) A7 Xd))) B8))
   (AF rfl (Aq (Ai (hk:=by omega) Ri v (A0 (qv 0) (A0 (Ai (hk:=by omega) JO v (A0 (qv 0) (A0 (qv 5) A4))) (A0 (qv 2) (A0 (qv 3) A4))))))))))),?_⟩
 rintro _ _⟨ks,bs,m,T,M,a,rfl,g,s,CM,u,⟨X,G⟩,⟨L,J⟩,ok,rfl⟩;have N:T.length<=8:=by
  have l8:=g.l8;have:=GY CM u;rw[AB]at this;omega
 show Ws [.is (Az A3 ks),.is (.lst (bs.map CH)),.is (.int m),.ow true (C3 (wv ks) a M),.any,.any] _ _ _;have h:∀{q:Int}{M':List Br}{j:Nat}{b:Br}{r:Slot}{kk:PV->OV->Prop},bs[j]?=some b->Gh T M'->(∀M2,Gh T M2->kk (.int (wv ks b)) (C3 (wv ks) a M2))->Wm [.is (Az A3 ks),.is (.lst (bs.map CH)),.is (.int q),.ow true (C3 (wv ks) a M'),.is (.int (j:Int)),r] 3 true (C3 (wv ks) a M') (ED (BN (Je A3 9)) [] E0 (AX (Al 0) (AX (Ba (Lz K) (Al 1) (Al 4)) (AX (Al 3) BA)))) kk:=λ{q M' j b r kk}l G1 hk=>by
  obtain⟨⟨i,hi,_⟩,hd⟩:=G b (C7 l);have:=(List.getElem?_eq_some_iff.mp hi).1;refine NP rfl (EO (A1 rfl (EO (KD (Cz rfl ⟨rfl,A1 rfl ⟨_,_,rfl,L2.Fx (by rw[Ax,l];rfl),NG rfl (Gx ⟨_,⟨ks,b,T,i,M',a,rfl,g,s,CM,u,⟨hi,by omega,hd⟩,G1,rfl⟩,?_⟩)⟩⟩)))));rintro _ _⟨rfl,M2,rfl,IZ,_,_⟩;exact⟨_,_,rfl,hk M2 IZ⟩
 refine AE (Dc (AH ?_));refine AE (Bg (ZEj (i:=3) (λq A6=>∃(j:Nat)(d:Int)(M':List Br),q=bs.length - j/\A6=[.is (Az A3 ks),.is (.lst (bs.map CH)),.is (.int d),.ow true (C3 (wv ks) a M'),.is (.int (j:Int)),.any]/\Gh T M'/\pick (wv ks) (bs.drop j) d=pick (wv ks) bs m/\0<=d/\d < ((bs.drop j).map (wv ks)).sum) bs.length ⟨0,m,M,rfl,rfl,ok,rfl,L,J⟩ ?_));rintro q A6⟨j,d,M',rfl,rfl,G1,o,I,p1⟩;have B:j<bs.length:=Nat.lt_of_not_le λz=>by
  rw[List.drop_eq_nil_of_le z]at p1;have:(0:Int)=(([]:List Br).map (wv ks)).sum:=rfl;omega
 have l:=As B;rw[dq B,B6,Pm]at p1;rw[dq B,pick]at o;refine⟨true,C3 (wv ks) a M',rfl,sD (xE (g:=λi j=>decide (j<=i)) rfl (h l G1 λM2 IZ=>⟨_,rfl,_,rfl,BK (λc=>?_) (λc=>?_)⟩))⟩
 .have c:=vY c;rw[tK (by omega)]at o;show Ws [.is (Az A3 ks),.is (.lst (bs.map CH)),.is (.int d),.ow true (C3 (wv ks) a M2),.is (.int (j:Int)),.any] _ _ _;refine AE (sy (i:=3) (lt:=true) (t:=C3 (wv ks) a M2) rfl (h l IZ λM3 UD=>⟨_,rfl,?_⟩));refine VM (i:=4) rfl (AH ⟨_,rfl,bs.length - (j+1),by omega,j+1,d - wv ks bs[j],M3,rfl,rfl,UD,o,by omega,by omega⟩)
 .have c:¬ wv ks bs[j]<=d:=λz=>c (uL z);rw[u4 (by omega)]at o;have R:=vm (f:=n) o.symm;rw[R];obtain⟨b,V⟩:∃b,b=bs[j]:=⟨_,rfl⟩;rw[<- V]at o l c ⊢;obtain⟨⟨i,hi,Ce⟩,hd⟩:=G b (C7 l);have H:=C7 hi;have S:=Y3 s N H;refine AE (Dc (KD (Cz rfl ⟨rfl,A1 rfl ⟨_,_,rfl,L2.Fx (by rw[Ax,l];rfl),?_⟩⟩)));show Ws [.is (Az A3 ks),.is (.lst (bs.map CH)),.is (.int d),.ow true (C3 (wv ks) a M2),.is (.int (j:Int)),.is (CH b)] _ _ _;have go:∀{e:Int}{s4 r:Slot},0<=e->e<((Cw ks b).map (wv ks)).sum->r=.is (CH b)->Ws [.is (Az A3 ks),.is (.lst (bs.map CH)),.is (.int e),.ow true (C3 (wv ks) a M2),s4,r] (Hb (ED (BN (N5 A3 n)) [] E0 (AX (Al 0) (AX (ED (AQ (OS A3)) [] E0 (AX (Al 0) (AX (Al 5) BA))) (AX (Al 2) (AX (Al 3) BA)))))) (λ_=>False) (.mt λp t'=>p=.str (Gf ks n (Cw ks b) e)/\∃M',t'=C3 (wv ks) a M'/\Gh T M'):=λ{e s4 r}A y W=>by
   subst W;refine ZDV (i:=3) rfl (NP rfl (EO (A1 rfl (EO (BL (Hl (AM (A1 rfl (AM (A1 rfl (Ar ⟨_,⟨ks,b,rfl,g,u _ H,rfl⟩,?_⟩)))))))))));rintro _ rfl;refine EO (A1 rfl (NG rfl (Gx ⟨_,⟨ks,Cw ks b,e,T,M2,a,rfl,g,s,CM,u,⟨kW g b,λc E=>?_⟩,⟨A,y⟩,IZ,rfl⟩,?_⟩)))
   .obtain⟨σ,W8,C⟩:=Px s hi (N1 E).1;exact⟨⟨σ,C,by omega⟩,CB (N1 E).2 hd⟩
   .rintro _ _⟨rfl,M3,rfl,UD⟩;exact⟨_,_,rfl,⟨_,_,_,rfl⟩,rfl,M3,rfl,UD⟩
  have U:=o;have c:d < wv ks b:=by omega
  rw[S]at c;unfold KJ at c;refine Jx (λA6=>∃(e:Int)(s4:Slot),A6=[.is (Az A3 ks),.is (.lst (bs.map CH)),.is (.int e),.ow true (C3 (wv ks) a M2),s4,.is (CH b)]/\0<=e/\e<((Cw ks b).map (wv ks)).sum/\(if b.2=0 then if d=0 then b.1 else Gf ks n (Cw ks b) (d - 1)else Gf ks n (Cw ks b) d)=Gf ks n (Cw ks b) e) ?_ ?_
  .refine Bg (Ap (Ad (BF (Pz rfl (AH ⟨rfl,_,rfl,BK (λc2=>?_) (λc2=>An ?_)⟩)))))
   .have z:=bc c2;rw[u4 z]at c;rw[u4 z];refine AE (Ap (Ad (BF (A1 rfl (AH ⟨rfl,_,rfl,BK (λD=>?_) (λD=>An ?_)⟩)))))
    .have x:d=0:=by simpa[alike]using D
     rw[u4 x];exact MX (i:=3) (nk:=.KW (M2.map Fu)) (a0:=a) rfl (Xt rfl ⟨rfl,M2,rfl,IZ⟩)
    .have x:¬ d=0:=λz=>D (by rw[z];rfl);rw[tK x];exact VM (i:=2) rfl (AH ⟨_,rfl,d - 1,_,rfl,by omega,by omega,rfl⟩)
   .have z:¬ b.2=0:=λz=>c2 (by rw[z];rfl);rw[tK z]at c;rw[tK z];exact⟨d,_,rfl,I,by omega,rfl⟩
  .rintro A6⟨e,s4,rfl,A,y,Q⟩;rw[Q];exact go A y rfl
def ZDl(F:AG K "word_at" "word_at" VC f fd)(m:mg "word_at"=some (.ref f))(II:AI P w K mg Zp "many_told" 16 ["book","branch","known"] (BN (Je A3 9))):AI P w K mg Zp "word_at" 26 ["book","branches","n","known"] (BN (N5 A3 9)):=by
 have z:∀n:Nat,AI P w K mg Zp "word_at" (17+n) ["book","branches","n","known"] (BN (N5 A3 (n))):=λn=>by
  induction n with
  |zero=>exact AI.mk F (F.binds (by walk_at "bD4")) m (F.Ec (k:=16) MT (λvs H Q E h=>(Fz.Kv (nO) h).elim) (λAf A outer s H vs Q E b h=>(Fz.Kv (nO) h).elim))
  |succ n a=>exact ZIJ (A3:=A3) JO n F m II a
 exact z 9
def PZ:Au ["book","crowd","n","known","wave","branches","many"] ["book","crowd","n"] (AL QK):=by walk_at "z1"
def ZFo:=Sc [(".0",.local),("word",.local),("wave",.free)]
def ZBT:Cs ["book","crowd","n","known","wave","branches","many"] (AL QK) ZFo "word" ["wave"] [4]:=by walk_at "z2"
def ZJR:=Sc [(".0",.local),("branch",.local),("many_told",.globalImplicit),("book",.free),("known",.free)]
def ZIj:Cs ["book","crowd","n","known","wave","branches","many"] (AL QK) ZJR "branch" ["book","known"] [0,3]:=by walk_at "z2"
def zr(F:AG K "nth" "nth" QK f fd)(m:mg "nth"=some (.ref f))(II:AI P w K mg Zp "many_told" 16 ["book","branch","known"] (BN (Je A3 9)))(Ri:AI P w K mg Zp "word_at" 26 ["book","branches","n","known"] (BN (N5 A3 9))):
  Bs P w K mg Zp "nth" 27 ["book","crowd","n"] (Bx (qT A3 AS AZ AK Ac)):=by
 refine Fz.hX (k:=26) F (by walk_at "bD3") m PZ (by rintro _ _ _⟨ks,tp,cs,r,m,rfl,_,_,rfl,_⟩;rfl) λE v=>⟨_,(A9 rfl (Bi (E8 GN v (by decide) E4 rfl (A0 (qv 0) (A0 (qv 1) A4))))
   (A9 rfl (Bi (E8 PD v (by decide) E4 rfl (A0 (qv 0) (A0 (qv 1) (A0 B2 A4)))))
   (A9 rfl (Ah 3 PZ.nd ZBE)
   (A9 rfl (C1 (EU cR rfl (MW rfl EK (A0 (BZ HE BM (A0 (HX DO v (by decide) (qv 0)) A4)) A4)) (D8 4 PZ.nd) (A9 rfl (SJ (i:=5) PZ.nd rfl (Or.inl rfl) rfl ZBT (CI (qv 1)) (λ_ _ _ _=>by exact FG) (λ_ _ _ _=>by exact(CP (A0 (qv 1) (A0 (qv 0) A4)))))
   (A9 rfl (Ah 6 PZ.nd (BZ (VX rfl) GW (A0 (Fy rfl ZIj (CI (qv 5)) (λ_ _ _ _=>by exact FG) (λ_ _ _ _=>by exact(Ai II v (A0 (qv 0) (A0 (qv 2) (A0 (qv 1) A4)))))) A4)))
   (A9 rfl (B9 (kB Pt LA A7 (qv 2) (qv 6)) (AF rfl (Aq (Ai Ri v (A0 (qv 0) (A0 (qv 5) (A0 (qv 2) (A0 (qv 3) A4))))))) B8)
   (AF rfl (SH (i:=2) PZ.nd rfl (Or.inl rfl) (qv 6) Xd)))))))
   (AF rfl (Aq GD)))))),?_⟩
 rintro _ _ _⟨ks,tp,cs,r,m,rfl,Ce,G,rfl,Y⟩;intro i0;show Ws [.is (Az A3 ks),.sq tp (cs.map .str),.is (.int m),.any,.any,.any,.any] _ _ _;obtain⟨g,IG,sc,sr⟩:=Ce;have l8:=g.l8;have L:4<4->r∈Bn:=λz=>absurd z (by decide);refine AE (FH (Fo (AM (A1 rfl (Dl (FA rfl (Ar ⟨_,_,⟨ks,tp,cs,rfl,g,IG,sc,rfl,rfl⟩,trivial,λe h=>Qo L h,?_⟩)))))));rintro _⟨rfl,B,J⟩;refine AE (FH (Fo (AM (A1 rfl (Dl (FA rfl (AM (CJ (Ar ⟨_,_,⟨ks,tp,cs, "ahead", rfl,g,by decide+kernel,B,J,rfl,rfl⟩,trivial,λe h=>ij L B J (.inl ⟨rfl,h.1⟩) h.2,?_⟩)))))))));rintro _⟨rfl,T,q⟩;have W:Bb 4 ks cs r=none:=Oq L B J λz=>z.elim (λz=>q.Mp z.2) (λz=>absurd z.1 (by decide));obtain rfl:=Y.go W;have lT:=q.l8 g;obtain⟨Q,CM,R,IU⟩:=id q;refine AE (L8 (ZDo (wv ks) λa=>?_));show Ws [.is (Az A3 ks),.sq tp (cs.map .str),.is (.int m),.ow false (C3 (wv ks) a []),.any,.any,.any] _ _ _;refine AE (Bg (Eo (λxs d A6=>∃(l:Int)(M:List Br)(s4 y u:Slot),A6=[.is (Az A3 ks),.sq tp (cs.map .str),.is (.int l),.ow false (C3 (wv ks) a M),s4,y,u]/\Gh T M/\0<=l/\d<=ks.length/\J1 ks cs (ks.length - d) d l=J1 ks cs ks.length 0 m) ?_))
 walk_at "ww"
 refine Bd (BL (GX (A1 rfl ⟨Dm,_,rfl,by decide+kernel,Ar ⟨_,⟨ks,rfl,g,rfl⟩,?_⟩⟩)));rintro _ rfl;have A:((wk ks).map PV.str).length=ks.length:=by rw[AB,AB]
 refine⟨_,.inl ⟨rfl,_,rfl,by rw[A];omega,by rw[A];omega,⟨m,[],_,_,_,rfl,⟨HN,λc h=>absurd h Aa⟩,G,Cf _,by rw[WX]⟩,?_,?_⟩⟩
 .rintro d p A6 V⟨l,M,s4,y,u,rfl,ok,D,hd,o⟩;obtain⟨I,rfl⟩:=US V;rw[A,Hq]at I;rw[show ks.length - d=(ks.length - (d+1))+1 by omega,UI]at o;refine G2 ?_;show Ws [.is (Az A3 ks),.sq tp (cs.map .str),.is (.int l),.ow false (C3 (wv ks) a M),.is (.int d),y,u] _ _ _;refine AE (G3 (Et PV.str (λ_=>true) (λc=>CH (c,d)) (D0 (WG rfl ⟨cs,rfl,by omega,λ_ _=>Fq rfl,λc _ _=>?_,?_⟩)) str_inj))
  .exact Dg (BG (A1 rfl (BG (A1 rfl (Cb ⟨by show 2<=100000;decide,rfl⟩)))))
  rw[List.filter_eq_self.mpr λ_ _=>rfl];refine JC 5 rfl ?_;have Z:(cs.map λc=>CH (c,d))=(cs.map λc=>((c,d):Br)).map CH:=by rw[Cm];rfl
  have S:((cs.map λc=>((c,d):Br)).map (wv ks)).sum=tot ks cs d:=by rw[Cm];rfl
  rw[Z];show Ws [.is (Az A3 ks),.sq tp (cs.map .str),.is (.int l),.ow false (C3 (wv ks) a M),.is (.int d),.is (.lst ((cs.map λc=>((c,d):Br)).map CH)),u] _ _ _;refine AE (Q9 (i:=3) (lt:=false) (gA (λn t s=>∃M',t=C3 (wv ks) a M'/\Gh T M'/\s=(((cs.map λc=>((c,d):Br)).take n).map (wv ks)).sum) rfl rfl (D0 (CS (A1 rfl ⟨_,.inl ⟨rfl,by rw[AB,AB];omega,⟨M,rfl,ok,rfl⟩,?_,?_⟩⟩)))))
  .rintro n x nk us s hx⟨M',σ,G1,es⟩;rw[Ax]at hx;obtain⟨c,U,rfl⟩:=Option.map_eq_some_iff.mp hx;have cm:=C7 U;obtain⟨C,Z3,rfl⟩:=List.mem_map.mp cm;obtain⟨j,H,N⟩:=FO (IU C Z3);rw[σ];refine⟨_,⟨ks,(C,d),T,j,M',a,rfl,g,Q,CM,R,⟨by rw[As H,N],by omega,by show d<=8;omega⟩,G1,rfl⟩,?_⟩;rintro _ _⟨rfl,M2,rfl,IZ,_,_⟩;refine⟨_,_,_,rfl,rfl,M2,rfl,IZ,?_⟩;rw[es,Im U,Ca,rG];simp
  .rintro nk us s⟨M',σ,G1,es⟩;rw[AB,G6,S]at es;rw[σ,es];show Ws [.is (Az A3 ks),.sq tp (cs.map .str),.is (.int l),.ow false (C3 (wv ks) a M'),.is (.int d),.is (.lst ((cs.map λc=>((c,d):Br)).map CH)),.is (.int (tot ks cs d))] _ _ _;refine AE (Ap (Ad (oh (AH ⟨_,rfl,A1 rfl ⟨_,rfl,Cd (uL D) (A1 rfl ⟨_,rfl,_,rfl,BK (λc=>?_) (λc=>An ?_)⟩)⟩⟩))))
   .have c:=vY c;rw[u4 c]at o;refine ZGH (i:=3) (NP rfl (EO (A1 rfl (EO (A1 rfl (EO (A1 rfl (NG rfl (Gx ⟨_,⟨ks,cs.map λc=>(c,d),l,T,M',a,rfl,g,Q,CM,R,⟨by rw[AB];exact B,λb X=>?_⟩,⟨D,by rw[S];exact c⟩,G1,rfl⟩,?_⟩)))))))))
    .obtain⟨C,Z3,rfl⟩:=List.mem_map.mp X;obtain⟨j,H,N⟩:=FO (IU C Z3);exact⟨⟨j,by rw[As H,N],by omega⟩,by show d<=8;omega⟩
    .rintro _ _⟨rfl,M3,rfl,UD⟩;refine⟨_,_,rfl,⟨T,q⟩,?_⟩;rw[<- pJ g q G,<- o];rfl
   .have c:¬ l < tot ks cs d:=λz=>c (uL z);rw[tK c]at o;exact VM (i:=2) rfl (A1 rfl ⟨_,rfl,l - tot ks cs d,M',_,_,_,rfl,G1,by omega,by omega,o⟩)
 .rintro A6⟨l,M,s4,y,u,rfl,ok,D,hd,o⟩;rw[A,Hq,Iw,e9]at o;refine CD (DZ ⟨⟨T,q⟩,?_⟩);rw[<- pJ g q G,<- o];rfl
def ZGM:Au ["which","book","crowd","rule"] ["which","book","crowd","rule"] (AL cz):=by walk_at "z1"
def ZFp(F:AG K "_law_ask" "_law_ask" cz f fd)(m:mg "_law_ask"=some (.ref f)):
  Bs P w K mg Zp "_law_ask" 28 ["which","book","crowd","rule"] (Bx (jt A3 AS AZ AK Ac)):=by
 refine Fz.hX (k:=27) F (by walk_at "bD4") m ZGM (by rintro _ _ _⟨w,ks,cs,r,rfl,_,_,rfl,rfl⟩;rfl) λE d=>⟨_,(A9 rfl (C1 (B9 (Aw C2 (qv 0) A7) (AF rfl (Bi (E8 XA d (by decide) E4 rfl (A0 (qv 1) (A0 (qv 2) (A0 (qv 3) (A0 A7 A4))))))) B8))
   (A9 rfl (C1 (B9 (Aw C2 (qv 0) A7) (AF rfl (Bi (E8 Ye d (by decide) E4 rfl (A0 (qv 1) (A0 (qv 2) (A0 (qv 3) A4)))))) B8))
   (A9 rfl (C1 (B9 (Aw C2 (qv 0) A7) (AF rfl (Bi (E8 Xz d (by decide) E4 rfl (A0 (qv 1) (A0 (qv 2) (A0 (qv 3) (A0 (CP (A0 B2 (A0 (FF A4) A4))) A4))))))) B8))
   (A9 rfl (C1 (B9 (Aw C2 (qv 0) A7) (AF rfl (Bi (E8 aU d (by decide) E4 rfl (A0 (qv 1) (A0 (qv 2) (A0 (qv 3) A4)))))) B8))
   (AF rfl (B9 (Aw C2 (qv 0) A7) (AF rfl (Bi (E8 bP d (by decide) E4 rfl (A0 (qv 1) (A0 (qv 2) (A0 A7 A4)))))) B8)))))),?_⟩
 rintro _ _ _⟨w,ks,cs,r,rfl,hw,Ce,rfl,rfl⟩;intro i0;show Ws [_,_,_,_] _ _ _;rcases(show w=0∨w=1∨w=2∨w=3∨w=4 by omega)with rfl|rfl|rfl|rfl|rfl
 .refine AE (Bg (Ap (Ad (BF (A1 rfl (AH ⟨rfl,_,rfl,Cd rfl ?_⟩))))));obtain⟨R,c,a⟩:=Ro 0 ks cs r _;refine RP (AM (A1 rfl (AM (A1 rfl (AM (A1 rfl (AM (AH (Ar ⟨R,_,⟨ks,false,cs,r,3,rfl,Ce,by decide,rfl,c⟩,trivial,λe h=>h,λz=>?_⟩)))))))));have b:=a z;refine AE (Bg (Ap (Ad (BF (A1 rfl (AH ⟨rfl,_,rfl,BC (by decide) (An ?_)⟩))))));refine AE (Bg (Ap (Ad (BF (A1 rfl (AH ⟨rfl,_,rfl,BC (by decide) (An ?_)⟩))))));refine AE (Bg (Ap (Ad (BF (A1 rfl (AH ⟨rfl,_,rfl,BC (by decide) (An ?_)⟩))))));exact Ap (Ad (BF (A1 rfl (AH ⟨rfl,_,rfl,BC (by decide) (An ⟨_,rfl,rfl,b⟩)⟩))))
 .refine AE (Bg (Ap (Ad (BF (A1 rfl (AH ⟨rfl,_,rfl,BC (by decide) (An ?_)⟩))))));refine AE (Bg (Ap (Ad (BF (A1 rfl (AH ⟨rfl,_,rfl,Cd rfl ?_⟩))))));obtain⟨R,c,a⟩:=Ro 1 ks cs r _;refine RP (AM (A1 rfl (Dl (Cz rfl (AM (A1 rfl (Ar ⟨R,_,⟨ks,false,cs,r,rfl,Ce,rfl,c⟩,trivial,λe h=>h,λz=>?_⟩)))))));have b:=a z;refine AE (Bg (Ap (Ad (BF (A1 rfl (AH ⟨rfl,_,rfl,BC (by decide) (An ?_)⟩))))));refine AE (Bg (Ap (Ad (BF (A1 rfl (AH ⟨rfl,_,rfl,BC (by decide) (An ?_)⟩))))));exact Ap (Ad (BF (A1 rfl (AH ⟨rfl,_,rfl,BC (by decide) (An ⟨_,rfl,rfl,b⟩)⟩))))
 .refine AE (Bg (Ap (Ad (BF (A1 rfl (AH ⟨rfl,_,rfl,BC (by decide) (An ?_)⟩))))));refine AE (Bg (Ap (Ad (BF (A1 rfl (AH ⟨rfl,_,rfl,BC (by decide) (An ?_)⟩))))));refine AE (Bg (Ap (Ad (BF (A1 rfl (AH ⟨rfl,_,rfl,Cd rfl ?_⟩))))));obtain⟨R,c,a⟩:=Ro 2 ks cs r _;refine RP (AM (A1 rfl (Dl (Cz rfl (AM (A1 rfl (AM (Dg (BG (CJ (BG (BL (Kg (Cb ⟨by decide,Cb ⟨by show 2<=100000;decide,Ar ⟨R,_,⟨ks,cs,r,rfl,Ce,rfl,c⟩,trivial,λe h=>h,λz=>?_⟩⟩⟩))))))))))))));have b:=a z;refine AE (Bg (Ap (Ad (BF (A1 rfl (AH ⟨rfl,_,rfl,BC (by decide) (An ?_)⟩))))));exact Ap (Ad (BF (A1 rfl (AH ⟨rfl,_,rfl,BC (by decide) (An ⟨_,rfl,rfl,b⟩)⟩))))
 .refine AE (Bg (Ap (Ad (BF (A1 rfl (AH ⟨rfl,_,rfl,BC (by decide) (An ?_)⟩))))));refine AE (Bg (Ap (Ad (BF (A1 rfl (AH ⟨rfl,_,rfl,BC (by decide) (An ?_)⟩))))));refine AE (Bg (Ap (Ad (BF (A1 rfl (AH ⟨rfl,_,rfl,BC (by decide) (An ?_)⟩))))));refine AE (Bg (Ap (Ad (BF (A1 rfl (AH ⟨rfl,_,rfl,Cd rfl ?_⟩))))));obtain⟨R,c,a⟩:=Ro 3 ks cs r _;refine RP (AM (A1 rfl (Dl (Cz rfl (AM (A1 rfl (Ar ⟨R,_,⟨ks,false,cs,r,rfl,Ce,rfl,c⟩,trivial,λe h=>h,λz=>?_⟩)))))));have b:=a z;exact Ap (Ad (BF (A1 rfl (AH ⟨rfl,_,rfl,BC (by decide) (An ⟨_,rfl,rfl,b⟩)⟩))))
 .refine AE (Bg (Ap (Ad (BF (A1 rfl (AH ⟨rfl,_,rfl,BC (by decide) (An ?_)⟩))))));refine AE (Bg (Ap (Ad (BF (A1 rfl (AH ⟨rfl,_,rfl,BC (by decide) (An ?_)⟩))))));refine AE (Bg (Ap (Ad (BF (A1 rfl (AH ⟨rfl,_,rfl,BC (by decide) (An ?_)⟩))))));refine AE (Bg (Ap (Ad (BF (A1 rfl (AH ⟨rfl,_,rfl,BC (by decide) (An ?_)⟩))))));refine Ap (Ad (BF (A1 rfl (AH ⟨rfl,_,rfl,Cd rfl ?_⟩))));obtain⟨R,c,a⟩:=Ro 4 ks cs r _;refine RP (AM (A1 rfl (Dl (Cz rfl (AM (AH (Ar ⟨R,_,⟨ks,false,cs,r,2,rfl,Ce,by decide,rfl,c⟩,trivial,λe h=>h,λz=>?_⟩)))))));have b:=a z;exact⟨_,rfl,rfl,b⟩
def Sl:Au ["which","book","crowd","rule","found","e"] ["which","book","crowd","rule"] (AL Yb):=by walk_at "z1"
def ZDO(F:AG K "_law_said" "_law_said" Yb f fd)(m:mg "_law_said"=some (.ref f)):
  AI P w K mg Zp "_law_said" 29 ["which","book","crowd","rule"] (AQ (nR A3 AS AZ AK Ac)):=by
 refine Fz.hF (k:=28) F (by walk_at "bD4") m Sl (by rintro _ _⟨w,ks,cs,r,rfl,_,_,rfl⟩;rfl) λb=>⟨_,(A9 rfl (Ah 4 Sl.nd GD)
   (A9 rfl (xb (j:=5) rfl rfl Sl.nd rfl rfl (by rfl) LG (λ_ _ _ i=>by exact(AF rfl (Bi (E8 XG b (by decide) i rfl (A0 (qv 0) (A0 (qv 1) (A0 (qv 2) (A0 (qv 3) A4)))))))) (λ_=>by exact(AF rfl (Ah 4 Sl.nd (qv 5)))))
   (AF rfl (Aq (qv 4))))),?_⟩
 rintro _ _⟨w,ks,cs,r,rfl,hw,Ce,rfl⟩;show Ws [_,_,_,_,.any,.any] _ _ _;refine AE (Dc (DZ ?_));refine AE (ZCo (λA6=>A6=[.is (.int w),.is (Az A3 ks),.is (.lst (cs.map .str)),.is (.str r),.is .AA,.any]) (Ij AS AZ AK Ac (Bb w ks cs r)) (λE=>?_) (λRX e d g=>?_))
 .letI:Xw:=P1 E (λA6=>A6=[.is (.int w),.is (Az A3 ks),.is (.lst (cs.map .str)),.is (.str r),.is .AA,.any]) (Ij AS AZ AK Ac (Bb w ks cs r));refine FH (Fo (AM (A1 rfl (AM (A1 rfl (AM (A1 rfl (AM (A1 rfl (Ar ⟨_,_,⟨w,ks,cs,r,rfl,hw,Ce,rfl,rfl⟩,rfl,λe h=>h,?_⟩))))))))));rintro _⟨rfl,c⟩;clear this;refine CD (A1 rfl ?_);rw[c];rfl
 .subst d;obtain⟨q,a,rfl⟩:=g;have hx:PySem.W.exmOne K (.ref (ES AS AZ AK Ac q).C) (.ref Bk)=some true:=by
   unfold ES;rcases lZ a with h|h|⟨h|h,_⟩
   .rw[h];exact aa
   .rw[h];exact bU
   .rw[h];exact dg
   .rw[h];exact Xp
  refine⟨hx,Dc (A1 rfl ?_)⟩;refine CD (A1 rfl ?_);rw[a];rfl
def kZ:Au ["e","place","some"] ["e","place"] (AL aN):=by walk_at "z1"
def zb(F:AG K "_law_alone" "_law_alone" aN f fd)(m:mg "_law_alone"=some (.ref f)):
  AI P w K mg Zp "_law_alone" 1 ["e","place"] (AQ (ja K [AK,DT,DR,DN,AS,DQ,DK,DJ,DU,DP,AZ,DH,DI,Ac,DM,DC] Bk)):=by
 refine Fz.hF (k:=0) F (by walk_at "bD2") m kZ (by rintro _ _⟨C,ms,xs,i,rfl,_,_,_,rfl⟩;rfl) λc=>⟨_,(A9 rfl (Ah 2 kZ.nd (FF (A0 (BZ Es EL (A0 (qv 0) (A0 (D5 (v:=.ref AK) (by rfl) O7 rfl) A4))) (A0 (BZ Es EL (A0 (qv 0) (A0 (D5 (v:=.ref DT) (by rfl) ZI rfl) A4))) (A0 (BZ Es EL (A0 (qv 0) (A0 (D5 (v:=.ref DR) (by rfl) YI rfl) A4))) (A0 (BZ Es EL (A0 (qv 0) (A0 (D5 (v:=.ref DN) (by rfl) bI rfl) A4))) (A0 (BZ Es EL (A0 (qv 0) (A0 (D5 (v:=.ref AS) (by rfl) OO rfl) A4))) (A0 (BZ Es EL (A0 (qv 0) (A0 (D5 (v:=.ref DQ) (by rfl) ar rfl) A4))) (A0 (BZ Es EL (A0 (qv 0) (A0 (D5 (v:=.ref DK) (by rfl) ZP rfl) A4))) (A0 (BZ Es EL (A0 (qv 0) (A0 (D5 (v:=.ref DJ) (by rfl) ZN rfl) A4))) (A0 (BZ Es EL (A0 (qv 0) (A0 (D5 (v:=.ref DU) (by rfl) Zb rfl) A4))) (A0 (BZ Es EL (A0 (qv 0) (A0 (D5 (v:=.ref DP) (by rfl) YK rfl) A4))) (A0 (BZ Es EL (A0 (qv 0) (A0 (D5 (v:=.ref AZ) (by rfl) O6 rfl) A4))) (A0 (BZ Es EL (A0 (qv 0) (A0 (D5 (v:=.ref DH) (by rfl) cN rfl) A4))) (A0 (BZ Es EL (A0 (qv 0) (A0 (D5 (v:=.ref DI) (by rfl) bY rfl) A4))) (A0 (BZ Es EL (A0 (qv 0) (A0 (D5 (v:=.ref Ac) (by rfl) OR rfl) A4))) (A0 (BZ Es EL (A0 (qv 0) (A0 (D5 (v:=.ref DM) (by rfl) cx rfl) A4))) (A0 (BZ Es EL (A0 (qv 0) (A0 (D5 (v:=.ref DC) (by rfl) XT rfl) A4))) A4))))))))))))))))))
   (A9 rfl (B9 (Oc (R7 (IA (BZ Es EL (A0 (qv 0) (A0 (D5 (v:=.ref Bk) (by rfl) LG rfl) A4))))) (PK (R7 (IA (BZ Es EL (A0 (qv 0) (A0 (ym "ValueError" cV) A4))))))).pt (AF rfl (Aq HD)) B8)
   (AF rfl (Aq (Vu (Ht C2 (Er FP ZKo ZKp ZI7 (qv 2) (A0 HD A4)) A7) (QP (Ab Df (qv 2) (qv 1)))))))),?_⟩
 rintro _ _⟨C,ms,xs,i,rfl,a,hi,_,rfl⟩;show Ws [_,_,.any] _ _ _
 walk_at "ww"
 refine Fp a rfl 0 rfl ?_
 walk_at "ww"
 refine Fp a rfl 1 rfl ?_
 walk_at "ww"
 refine Fp a rfl 2 rfl ?_
 walk_at "ww"
 refine Fp a rfl 3 rfl ?_
 walk_at "ww"
 refine Fp a rfl 4 rfl ?_
 walk_at "ww"
 refine Fp a rfl 5 rfl ?_
 walk_at "ww"
 refine Fp a rfl 6 rfl ?_
 walk_at "ww"
 refine Fp a rfl 7 rfl ?_
 walk_at "ww"
 refine Fp a rfl 8 rfl ?_
 walk_at "ww"
 refine Fp a rfl 9 rfl ?_
 walk_at "ww"
 refine Fp a rfl 10 rfl ?_
 walk_at "ww"
 refine Fp a rfl 11 rfl ?_
 walk_at "ww"
 refine Fp a rfl 12 rfl ?_
 walk_at "ww"
 refine Fp a rfl 13 rfl ?_
 walk_at "ww"
 refine Fp a rfl 14 rfl ?_
 walk_at "ww"
 refine Fp a rfl 15 rfl ?_
 walk_at "ww"
 refine⟨by simp,?_⟩;refine AE (Ap (Lg (UY (GF (dD a.ex rfl rfl a.st ⟨true,rfl,J9 ?_⟩)))));refine UY (GF (dD a.ex rfl rfl a.ve ⟨true,rfl,J9 (An ?_)⟩));refine CD (VG (BF (ZGD (Kc rfl ⟨rfl,[decide (0=i),decide (1=i),decide (2=i),decide (3=i),decide (4=i),decide (5=i),decide (6=i),decide (7=i),decide (8=i),decide (9=i),decide (10=i),decide (11=i),decide (12=i),decide (13=i),decide (14=i),decide (15=i)],rfl,Kk ⟨true,rfl,AH ?_⟩⟩))));have b:i<16:=hi;refine⟨rfl,_,rfl,Cd (by rw[xy b];rfl) (KD (Kc rfl ⟨rfl,A1 rfl ⟨_,_,rfl,ZCd b,rfl⟩⟩))⟩
def yi:Au ["e","place"] ["e","place"] (AL YR):=by walk_at "z1"
def v5(F:AG K "_law_field" "_law_field" YR f fd)(m:mg "_law_field"=some (.ref f)):
  AI P w K mg Zp "_law_field" 1 ["e","place"] (AQ (pL AS AZ AK Ac)):=by
 refine Fz.hF (k:=0) F (by walk_at "bD2") m yi (by rintro _ _⟨q,rfl,_,rfl⟩;rfl) λc=>⟨_,(A9 rfl (B9 (Aw C2 (qv 1) A7) (AF rfl (Aq (p6 (qv 0)))) B8)
   (A9 rfl (B9 (Aw C2 (qv 1) A7) (AF rfl (Aq (p6 (qv 0)))) B8)
   (AF rfl (Aq B2)))),?_⟩
 rintro _ _⟨q,rfl,b,rfl⟩;have KZ:=OQ KZ;have KO:=OQ KO;show Ws [_,_] _ _ _;rcases b with h|h|⟨h,h2⟩
 .show Ws [.is (.exc (ES AS AZ AK Ac q).C (ES AS AZ AK Ac q).ns (ES AS AZ AK Ac q).xs),.is (.int q.1)] _ _ _;rw[show ES AS AZ AK Ac q=⟨AS,["rule"],[.str q.2]⟩from u4 h,h];refine AE (Ap (Ad (BF (A1 rfl (AH ⟨rfl,_,rfl,Cd rfl ?_⟩)))));exact CD (nJ (A1 rfl ⟨AS,_,rfl,KZ.ex.toExGet,Wk,XC,rfl⟩))
 .show Ws [.is (.exc (ES AS AZ AK Ac q).C (ES AS AZ AK Ac q).ns (ES AS AZ AK Ac q).xs),.is (.int q.1)] _ _ _;rw[show ES AS AZ AK Ac q=⟨AK,["name"],[.str q.2]⟩from by unfold ES;rw[h];rfl,h];refine AE (Ap (Ad (BF (A1 rfl (AH ⟨rfl,_,rfl,BC (by decide) (An ?_)⟩)))));refine AE (Ap (Ad (BF (A1 rfl (AH ⟨rfl,_,rfl,Cd rfl ?_⟩)))));exact CD (nJ (A1 rfl ⟨AK,_,rfl,KO.ex.toExGet,Wu,b8,rfl⟩))
 .have a:¬ (alike (.int (q.1:Int)) (.int 4)=true):=λz=>by
   have:(q.1:Int)=4:=by simpa[alike]using z
   omega
  have n0:¬ (alike (.int (q.1:Int)) (.int 0)=true):=λz=>by
   have:(q.1:Int)=0:=by simpa[alike]using z
   omega
  refine AE (Ap (Ad (BF (A1 rfl (AH ⟨rfl,_,rfl,BC a (An ?_)⟩)))));refine AE (Ap (Ad (BF (A1 rfl (AH ⟨rfl,_,rfl,BC n0 (An ?_)⟩)))));exact CD (CJ (by rw[h2]))
def HC:Au ["script","kinds","book","k","pot","crowd","rule","first","turn","which","due","handed","found"] ["script"] (AL Mj):=by walk_at "z1"
def vO:=Sc [(".0",.local),("row",.local)]
def ZG5:Cs ["script","kinds","book","k","pot","crowd","rule","first","turn","which","due","handed","found"] (AL Mj) vO "row" [] []:=by walk_at "z2"
def ZHw(F:AG K "law" "law" Mj f fd)(m:mg "law"=some (.ref f)):
  CU P w K mg Zp Dr 30 f fd ["script"] (RB K):=by
 refine(F.Ec (k:=29) HC (λvs H Q E h=>by obtain⟨a,ns,rfl,_⟩:=h;rfl) (λAf A outer s H vs Q E e h=>?_));refine⟨_,(A9 rfl (Ah 1 HC.nd (Ai Z8 e (A0 (Ai VN e (A0 (qv 0) (A0 A7 A4))) A4)))
   (A9 rfl (Ah 2 HC.nd (Ai Y7 e (A0 (qv 1) A4)))
   (A9 rfl (C1 (EU EF rfl (sE rfl EK (A0 A7 (A0 (BZ (pR rfl) GZ (A0 A7 (A0 (BZ (tH rfl) Z7 (A0 (BZ HE BM (A0 (qv 0) A4)) (A0 A7 A4))) A4))) A4))) (D8 3 HC.nd) (A9 rfl (Ah 4 HC.nd (Ai VN e (A0 (qv 0) (A0 (qv 3) A4))))
   (A9 rfl (VF (Ai cQ e (A0 (qv 4) (A0 (qv 1) A4))) (Vp rfl (Jn (D8 5 HC.nd) (Jn (D8 6 HC.nd) WM))))
   (A9 rfl (Ah 7 HC.nd (Ai Bv e (A0 (qv 4) (A0 A7 A4))))
   (AF rfl (EU EF rfl (MW rfl EK (A0 A7 A4)) (D8 8 HC.nd) (A9 rfl (Ah 9 HC.nd (B4 JH (B4 EJ (qv 7) (qv 8)) A7))
   (A9 rfl (Ah 10 HC.nd (Ai ZA e (A0 (qv 9) (A0 (qv 1) (A0 (qv 5) (A0 (qv 6) A4))))))
   (A9 rfl (Ah 11 HC.nd (Hw RV FD (A0 (qv 5) A4)))
   (A9 rfl (Ah 12 HC.nd (Ai Zr e (A0 (qv 9) (A0 (qv 2) (A0 (qv 11) (A0 (qv 6) A4))))))
   (A9 rfl (B9 (Oc (Aw (Ux e.SE) (qv 11) (qv 5)) (PK (Jp (Aw fO (qv 10) GD) (Jh (Aw Mn (qv 12) GD))).pt)).pt (AF rfl (Aq HD)) B8)
   (A9 rfl (B9 (Jp (Aw Mn (qv 10) GD) (Jh (R7 (IA (Ai Zi e (A0 (qv 12) (A0 (Ab B5 (qv 10) A7) A4))))))).pt (AF rfl (Aq HD)) B8)
   (AF rfl (B9 (Jp (Aw Mn (qv 10) GD) (Jh (Aw uc (Ai bV e (A0 (qv 12) (A0 (Ab B5 (qv 10) A7) A4))) (Ab B5 (qv 10) A7)))).pt (AF rfl (Aq HD)) B8)))))))))))))))
   (AF rfl (Aq (Ht (ZGL e.SE) (HX DO e (by decide) (qv 2)) (Fy rfl ZG5 (CI (qv 1)) (λ_ _ _ _=>by exact FG) (λ_ _ _ _=>by exact(Ab (show D1 _ (D4 K)from B5) (qv 0) A7))))))))),?_⟩
 refine Fz.xC h ?_;intro sc J;show Ws [_,.any,.any,.any,.any,.any,.any,.any,.any,.any,.any,.any,.any] _ _ _;have B:∀q,Rk q->TN K [AK,DT,DR,DN,AS,DQ,DK,DJ,DU,DP,AZ,DH,DI,Ac,DM,DC] Bk (ES AS AZ AK Ac q).C q.1:=λq u=>by
  unfold ES;rcases u with h|h|⟨h|h,_⟩ <;> rw[h]
  .exact OQ KZ
  .exact OQ KO
  .exact OQ Vk
  .exact OQ WK
 refine AE (Dc (uA rfl (AH ⟨_,rfl,by decide,by decide,Ar ⟨[],_,rfl,⟨rfl,rfl⟩,?_⟩⟩)));rintro _⟨ks,rfl,g⟩;have l8:=g.l8;refine AE (Dc (wp_call (AM (A1 rfl (Ar ⟨_,⟨ks,rfl,g,rfl⟩,?_⟩)))));rintro _ rfl;refine AE (Bg (Eo (λ_ i A6=>∃(z s4 y x v t l J5 JX LL:Slot),A6=[.raw (JM K sc),.is (.lst (ks.map Kd.P)),.is (Az A3 ks),  z,s4,y,x,v,t,l,J5,JX,LL]) ?_))
 walk_at "ww"
 obtain⟨m,I,L⟩:=ZJP (b:=2) (c:=21) (n:=sc.length) (by decide) (by decide) (by omega);rw[I];refine⟨⟨by decide,by decide,by omega,by omega⟩,⟨_,_,_,_,_,_,_,_,_,_,rfl⟩,?_,?_⟩
 .rintro i0 p A6 D⟨z,s4,y,x,v,t,l,J5,JX,LL,rfl⟩;obtain⟨hi,rfl⟩:=zz D;refine G2 ?_;refine AE (nY rfl (A1 rfl ⟨_,rfl,by omega,by omega,?_⟩));show Ws ([.raw (JM K sc),.is (.lst (ks.map Kd.P)),.is (Az A3 ks),  .is (.int (1+(i0:Int))),.AY,y,x,v,t,l,J5,JX,LL]) _ _ _;refine AE (ZAR (jK (i:=4) rfl (AM (A1 rfl (Ar ⟨_,⟨ks,rfl,g,rfl⟩,?_⟩)))));rintro _⟨cs,r,rfl,Ce⟩;refine Yc ⟨_,_,rfl,?_⟩;refine AE (Dc (Ke rfl (AH ⟨_,rfl,by decide,by decide,λd σ N=>?_⟩)));refine Eo (λ_ i A6=>∃(t l J5 JX LL:Slot),A6=[.raw (JM K sc),.is (.lst (ks.map Kd.P)),.is (Az A3 ks),  .is (.int (1+(i0:Int))),.AY,.is (.lst (cs.map .str)),.is (.str r),.is (.int d),t,l,J5,JX,LL]) ?_
  walk_at "ww"
  refine⟨by decide,by decide,⟨_,_,_,_,_,rfl⟩,?_,?_⟩
  .rintro j p A6 u⟨t,l,J5,JX,LL,rfl⟩;obtain⟨M,rfl⟩:=US u;refine G2 ?_;refine AE (Dc (YF (Gi (A1 rfl ⟨_,rfl,A1 rfl ⟨_,rfl,_,rfl,AH ⟨_,rfl,?_⟩⟩⟩))));refine⟨by decide,?_⟩;obtain⟨w,hw,G⟩:∃w:Nat,w<=4/\(d+(j:Int)) % 5=(w:Int):=⟨((d+(j:Int)) % 5).toNat,by omega,by omega⟩;rw[G];refine AE (Dc (wp_call (AM (A1 rfl (AM (A1 rfl (AM (A1 rfl (AM (A1 rfl (Ar ⟨_,⟨w,ks,cs,r,rfl,hw,Ce,rfl⟩,?_⟩)))))))))));rintro _ rfl;refine AE (G3 (RL rfl (Cz rfl ?_)));refine JC 11 rfl ?_;refine AE (Dc (wp_call (AM (A1 rfl (AM (A1 rfl (AM (A1 rfl (AM (A1 rfl (Ar ⟨_,⟨w,ks,cs,r,rfl,hw,Ce,rfl⟩,?_⟩)))))))))));rintro _ rfl;have pl:∀q,Bb w ks cs r=some q->Rk q:=λq h=>lZ h;clear KZ Vk KO WK;generalize Bb w ks cs r=o at pl;cases o with
   |none=>
    refine AE (Ap (Lg (Ad (Zw (Cz rfl ⟨cs,rfl,Cz rfl ⟨rfl,cs,rfl,_,rfl,?_⟩⟩)))));rw[uL rfl];refine BC (by decide) (Fl (Ad (Z4 (A1 rfl (DZ ⟨rfl,_,rfl,Cd rfl (Ad (HS (A1 rfl (DZ ⟨rfl,_,rfl,BC C9 (An ?_)⟩))))⟩)))));refine AE (Ap (Fl (Ad (HS (A1 rfl (DZ ⟨rfl,_,rfl,BC C9 (BC C9 (An ?_))⟩))))));exact Ap (Fl (Ad (HS (A1 rfl (DZ ⟨rfl,_,rfl,BC C9 (BC C9 (An ⟨_,_,_,_,_,rfl⟩))⟩)))))
   |some q=>
    have u:=pl q rfl;refine AE (Ap (Lg (Ad (Zw (Cz rfl ⟨cs,rfl,Cz rfl ⟨rfl,cs,rfl,_,rfl,?_⟩⟩)))));rw[uL rfl];refine BC (by decide) (Fl (Ad (Z4 (A1 rfl (DZ ⟨rfl,_,rfl,BC C9 (BC C9 (An ?_))⟩)))));refine AE (Ap (Fl (Ad (HS (A1 rfl (DZ ⟨rfl,_,rfl,Cd rfl ?_⟩))))));refine UY (GF (wp_call (AM (A1 rfl (AM (BV (Bc rfl ⟨rfl,AH ⟨_,_,rfl,rfl,Ar ⟨_,⟨_,_,_,q.1,rfl,B q u,by have:=ZCD u;show _<16;omega,rfl,rfl⟩,?_⟩⟩⟩)))))));rintro _ rfl;refine⟨_,rfl,BC C9 (An ?_)⟩;refine Ap (Fl (Ad (HS (A1 rfl (DZ ⟨rfl,_,rfl,Cd rfl ?_⟩)))));refine Ad (jX (wp_call (AM (A1 rfl (AM (BV (Bc rfl ⟨rfl,AH ⟨_,_,rfl,rfl,Ar ⟨_,⟨q,rfl,u,rfl⟩,?_⟩⟩⟩)))))));rintro _ rfl;refine BV (Bc rfl ⟨rfl,AH ⟨_,_,rfl,rfl,rfl,_,rfl,BC ?_ (An ⟨_,_,_,_,_,rfl⟩)⟩⟩);simp[alike]
  .rintro A6⟨t,l,J5,JX,LL,rfl⟩;exact⟨_,_,_,_,_,_,_,_,_,_,rfl⟩
 .rintro A6⟨z,s4,y,x,v,t,l,J5,JX,LL,rfl⟩;refine CD (eZ (Bd (BL (GX (A1 rfl ⟨Dm,_,rfl,by decide+kernel,Ar ⟨_,⟨ks,rfl,g,rfl⟩,?_⟩⟩)))));rintro _ rfl;refine⟨_,.inl ⟨rfl,wk ks,rfl,Bd (BL (Et Kd.P (λ_=>true) (λk=>PV.str k.w) (D0 (CS (A1 rfl ⟨_,.inl ⟨rfl,ks,rfl,by omega,λ_ _=>Fq rfl,λk _ _=>BV (Bc rfl ⟨rfl,AH ⟨_,_,rfl,rfl,rfl⟩⟩),?_⟩⟩))) Kd.inj))⟩⟩;rw[List.filter_eq_self.mpr λ_ _=>rfl,show(ks.map λk=>PV.str k.w)=(wk ks).map .str from by unfold wk;rw[Cm];rfl];exact⟨_,.inl ⟨rfl,rfl,_,rfl,by rw[uL rfl]⟩⟩
def all_mk{fa f1 f2 f3 f4 f5 f6 f7 f8 f9 lr Vw mE kP pM gy iG oY oa qH jv Tq T1 Ve iA kC W3 Tf gw Uc VT Ua VH kK om pD nH ig pT fL eh nZ mn eY o6 mG fU lL fX fB iV qB mT jg qO k8 pG hU lF:Addr}{g1 g2 g3 g4 g5 g6 g7 g8 g9 g10 vR g12 g13 g14 g15 ue g17 uT g19 g20 g21 wK g23 g24 y3 g26 ua g28 sR g30 g31 g32 vU g34 g35 xK yn g38 g39 wa wQ g42 g43 g44 vd sF zO g48 g49 g50 g51 g52 g53 zj g55 g56 g57 sY:FuncData}(X:K.In h)(G:h.Ns mainGlobals mg)(hfa:mg "law"=some (.ref fa))
  
  (ZAo:PySem.W.nsIn K mainGlobals "Errands"=some (some (.ref A3)))
  (tq:PySem.W.plainGet K A3 Str.empty=true)
  (ZDb:PySem.W.hasDictIn K A3=true)
  (xB:PySem.W.plainOver K A3=true)
  (ZH4:PySem.W.findIn K (.ref A3) "__setattr__"=some (some (.builtin "object.__setattr__")))
  (ZJF:PySem.W.makesIn K A3=true)
  (wR:PySem.W.keepIn K (.ref A3)=true)
  (ZJs:PySem.W.nsIn K mainGlobals "Run"=some (some (.ref AD)))
  (zQ:PySem.W.plainGet K AD Str.empty=true)
  (zM:PySem.W.hasDictIn K AD=true)
  (uh:PySem.W.plainOver K AD=true)
  (wo:PySem.W.findIn K (.ref AD) "__setattr__"=some (some (.builtin "object.__setattr__")))
  (xv:PySem.W.makesIn K AD=true)
  (ZDk:PySem.W.keepIn K (.ref AD)=true)
  (Lj:PySem.W.findIn K (.ref A3) "goes_by_word"=some none)
  (IP:PySem.W.findIn K (.ref A3) "puts_by_word"=some none)
  (Fb:PySem.W.findIn K (.ref AD) "awaited"=some none)
  (Dd:PySem.W.findIn K (.ref AD) "gap"=some none)
  (JS:PySem.W.findIn K (.ref AD) "rounds"=some none)
  (O2:PySem.W.findIn K (.ref AD) "rule"=some none)
  (Ew:PySem.W.findIn K (.ref AD) "things"=some none)
  (a1:PySem.W.findIn K (.ref A3) "words"=some (some (.ref f1))) (F1:AG K "words" "Errands.words" XS f1 g1)
  (fn1:PySem.W.isFn K (.ref f1)=true)
  (a2:nS K "_law_take" (.ref f2)) (F2:AG K "_law_take" "_law_take" de f2 g2)
  (a3:nS K "_law_letters" (.ref f3)) (F3:AG K "_law_letters" "_law_letters" dC f3 g3)
  (a4:nS K "_law_name" (.ref f4)) (F4:AG K "_law_name" "_law_name" bN f4 g4)
  (a5:nS K "_law_names" (.ref f5)) (F5:AG K "_law_names" "_law_names" bf f5 g5)
  (a6:nS K "_law_kinds" (.ref f6)) (F6:AG K "_law_kinds" "_law_kinds" Xn f6 g6)
  (a7:nS K "check_word" (.ref f7)) (F7:AG K "check_word" "check_word" X7 f7 g7)
  (a8:nS K "check_puts" (.ref f8)) (F8:AG K "check_puts" "check_puts" Xv f8 g8)
  (a9:nS K "is_name" (.ref f9)) (F9:AG K "is_name" "is_name" VE f9 g9)
  (a10:nS K "check_kinds" (.ref lr)) (F10:AG K "check_kinds" "check_kinds" WE lr g10)
  (vN:PySem.W.findIn K (.ref A3) "__init__"=some (some (.ref Vw))) (F11:AG K "__init__" "Errands.__init__" bj Vw vR)
  (ZEG:PySem.W.isFn K (.ref Vw)=true)
  (uq:nS K "_law_book" (.ref mE)) (F12:AG K "_law_book" "_law_book" Vg mE g12)
  (a13:nS K "_law_pot" (.ref kP)) (F13:AG K "_law_pot" "_law_pot" Xf kP g13)
  (vS:nS K "_law_crowd" (.ref pM)) (si:AG K "_law_crowd" "_law_crowd" VR pM g14)
  (a15:nS K "_law_rule" (.ref gy)) (yK:AG K "_law_rule" "_law_rule" YU gy g15)
  (a16:nS K "_law_wrong" (.ref iG)) (F16:AG K "_law_wrong" "_law_wrong" cu iG ue)
  (a17:nS K "_law_comers" (.ref oY)) (F17:AG K "_law_comers" "_law_comers" Rq oY g17)
  (a18:nS K "_law_reached" (.ref oa)) (F18:AG K "_law_reached" "_law_reached" c7 oa uT)
  (a19:nS K "_law_rings" (.ref qH)) (F19:AG K "_law_rings" "_law_rings" Y6 qH g19)
  (a20:nS K "_law_due" (.ref jv)) (F20:AG K "_law_due" "_law_due" WN jv g20)
  (zV:PySem.W.findIn K (.ref AD) "__init__"=some (some (.ref Tq))) (F21:AG K "__init__" "Run.__init__" VB Tq g21)
  (ZDv:PySem.W.isFn K (.ref Tq)=true)
  (wV:PySem.W.findIn K (.ref AD) "goes_on"=some (some (.ref T1))) (my:AG K "goes_on" "Run.goes_on" bS T1 wK)
  (tj:PySem.W.isFn K (.ref T1)=true)
  (a23:PySem.W.findIn K (.ref AD) "tell"=some (some (.ref Ve))) (lg:AG K "tell" "Run.tell" Z5 Ve g23)
  (ZGs:PySem.W.isFn K (.ref Ve)=true)
  (a24:nS K "gap_behind_put" (.ref iA)) (F24:AG K "gap_behind_put" "gap_behind_put" ZF iA g24)
  (a25:nS K "joins" (.ref kC)) (F25:AG K "joins" "joins" Z6 kC y3)
  (a26:PySem.W.findIn K (.ref AD) "put_in"=some (some (.ref W3))) (lO:AG K "put_in" "Run.put_in" YL W3 g26)
  (ZHo:PySem.W.isFn K (.ref W3)=true)
  (a27:PySem.W.findIn K (.ref AD) "place_by"=some (some (.ref Tf))) (qE:AG K "place_by" "Run.place_by" YZ Tf ua)
  (ZDY:PySem.W.isFn K (.ref Tf)=true)
  (a28:nS K "gap_behind_take" (.ref gw)) (yf:AG K "gap_behind_take" "gap_behind_take" Xh gw g28)
  (a29:PySem.W.findIn K (.ref AD) "take_out"=some (some (.ref Uc))) (ni:AG K "take_out" "Run.take_out" aQ Uc sR)
  (ZJt:PySem.W.isFn K (.ref Uc)=true)
  (a30:PySem.W.findIn K (.ref AD) "do_errand"=some (some (.ref VT))) (nK:AG K "do_errand" "Run.do_errand" Zf VT g30)
  (ZAS:PySem.W.isFn K (.ref VT)=true)
  (u6:PySem.W.findIn K (.ref A3) "puts"=some (some (.ref Ua))) (pV:AG K "puts" "Errands.puts" XH Ua g31)
  (ZAT:PySem.W.isFn K (.ref Ua)=true)
  (tS:PySem.W.findIn K (.ref A3) "goes"=some (some (.ref VH))) (mf:AG K "goes" "Errands.goes" bZ VH g32)
  (ZAy:PySem.W.isFn K (.ref VH)=true)
  (yI:nS K "check_rule" (.ref kK)) (F33:AG K "check_rule" "check_rule" bL kK vU)
  (a34:nS K "check_crowd" (.ref om)) (F34:AG K "check_crowd" "check_crowd" Zz om g34)
  (a35:nS K "ran" (.ref pD)) (uU:AG K "ran" "ran" aH pD g35)
  (vW:nS K "comers_of" (.ref nH)) (wB:AG K "comers_of" "comers_of" UA nH xK)
  (a37:nS K "ring_along" (.ref ig)) (F37:AG K "ring_along" "ring_along" UR ig yn)
  (a38:nS K "way_and_ring" (.ref pT)) (yx:AG K "way_and_ring" "way_and_ring" ZE pT g38)
  (a39:nS K "sums_of" (.ref fL)) (F39:AG K "sums_of" "sums_of" Tb fL g39)
  (a40:nS K "rounds_to" (.ref eh)) (ud:AG K "rounds_to" "rounds_to" ZV eh wa)
  (zo:nS K "reckon" (.ref nZ)) (F41:AG K "reckon" "reckon" PX nZ wQ)
  (a42:nS K "known_rows" (.ref mn)) (xg:AG K "known_rows" "known_rows" aV mn g42)
  (a43:nS K "table_of" (.ref eY)) (yk:AG K "table_of" "table_of" Sk eY g43)
  (vE:nS K "ending" (.ref o6)) (F44:AG K "ending" "ending" bb o6 g44)
  (xJ:nS K "ending_judged" (.ref mG)) (F45:AG K "ending_judged" "ending_judged" XR mG vd)
  (a46:nS K "check_ends" (.ref fU)) (F46:AG K "check_ends" "check_ends" Xc fU sF)
  (a47:nS K "puts_in" (.ref lL)) (F47:AG K "puts_in" "puts_in" U1 lL zO)
  (a48:nS K "standing_behind" (.ref fX)) (F48:AG K "standing_behind" "standing_behind" V9 fX g48)
  (y8:nS K "reckoned" (.ref fB)) (uH:AG K "reckoned" "reckoned" Nt fB g49)
  (a50:nS K "parts_of" (.ref iV)) (yS:AG K "parts_of" "parts_of" Ry iV g50)
  (a51:nS K "many_told" (.ref qB)) (F51:AG K "many_told" "many_told" Qr qB g51)
  (tU:nS K "word_at" (.ref mT)) (F52:AG K "word_at" "word_at" VC mT g52)
  (a53:nS K "nth" (.ref jg)) (F53:AG K "nth" "nth" QK jg g53)
  (wu:nS K "_law_ask" (.ref qO)) (F54:AG K "_law_ask" "_law_ask" cz qO zj)
  (y6:nS K "_law_said" (.ref k8)) (F55:AG K "_law_said" "_law_said" Yb k8 g55)
  (a56:nS K "_law_alone" (.ref pG)) (F56:AG K "_law_alone" "_law_alone" aN pG g56)
  (a57:nS K "_law_field" (.ref hU)) (F57:AG K "_law_field" "_law_field" YR hU g57)
  (iT:nS K "law" (.ref lF)) (la:AG K "law" "law" Mj lF sY)
  (ZHp:nN K "ValueError")
  (sN:nN K "all")
  (ZDJ:nN K "enumerate")
  (yc:nN K "isinstance")
  (ZK6:nN K "len")
  (ZJb:nN K "list")
  (yQ:nN K "max")
  (xS:nN K "min")
  (ZFS:nN K "range")
  (ZAv:nN K "sum")
  (ZEn:nN K "tuple")
  (ZIg:nN K "zip")
  (ZEV:nS K "LETTERS" (.str "abcdefghijklmnopqrstuvwxyz" bO))
  (yu:nS K "MOST_IN_CROWD" (.int 12 Xi))
  (vC:nS K "MOST_KINDS" (.int 8 aL))
  (ZDc:nS K "MOST_LETTERS" (.int 8 Yh))
  (ZGG:nS K "MOST_PUTS" (.int 6 Z1))
  (ZJq:nS K "RULES" (.ref Le))
  {ZCT yo ZEc:Tok}(ZCK:K.lookup Le=some ⟨.type "tuple", uK,.seq #[.str "none" ZCT,.str "ahead" yo,.str "all" ZEc] zi,uD⟩)
  (ZJZ:nS K "WHERES" (.ref LB))
  {ZCs ZH5 ZD4 ZJN:Tok}(ZHF:K.lookup LB=some ⟨.type "tuple", uC,.seq #[.str "next" ZCs,.str "last" ZH5,.str "back" ZD4,.str "first" ZJN] ZCa,ZKA⟩)
  (ZJM:nS K "WHERES_AHEAD" (.ref Gy))
  {tJ ZD7:Tok}(zB:K.lookup Gy=some ⟨.type "tuple", ZGC,.seq #[.str "next" tJ,.str "last" ZD7] ZHH,ZIE⟩)
  (yW:nS K "Endless" (.ref Ac))
  (ZFG:nS K "Full" (.ref DP))
  (sP:nS K "Gone" (.ref DR))
  (ZAD:nS K "NoLog" (.ref DQ))
  (sV:nS K "NoLoop" (.ref DH))
  (uY:nS K "NoName" (.ref AK))
  (u0:nS K "NoOrders" (.ref DM))
  (ZFT:nS K "NoPlace" (.ref DN))
  (ZID:nS K "NoRow" (.ref DC))
  (va:nS K "NoRule" (.ref AS))
  (xX:nS K "NoText" (.ref DU))
  (vJ:nS K "NoTicket" (.ref DI))
  (ZJK:nS K "NoWhere" (.ref DJ))
  (ZGl:nS K "Stale" (.ref DK))
  (xh:nS K "StirError" (.ref Bk))
  (uM:nS K "There" (.ref DT))
  (ZEu:nS K "TooMany" (.ref AZ))
  (oA:PySem.W.specialIn K (.ref Bk) "__getattribute__"=some (some (.builtin "type.__getattribute__")))
  (ng:PySem.W.readsIn K Bk (.type "type")=true)
  (o9:PySem.W.findCls K (.ref Bk) (.type "type") "__init__"=some (.val (.builtin "ValueError.__init__")))
  (YS:Hj K Ac none=true)
  (ZLS:PySem.W.findIn K (.ref AK) "__init__"=some (some (.ref Uv))) (mr:AG K "__init__" "NoName.__init__" aO Uv ZFF)
  (ZJi:Hj K AK (some (.ref Uv))=true)
  (ZBt:PySem.W.findIn K (.ref AK) "__setattr__"=some (some (.builtin "object.__setattr__")))
  (yM:Rm K AK=true)
  (ZC2:PySem.W.takerIn K AK "name"=some none)
  (uQ:PySem.W.hasDictIn K AK=true)
  (ZBi:PySem.W.isFn K (.ref Uv)=true)
  (ZIC:PySem.W.keepIn K (.ref AK)=true)
  (ZLJ:PySem.W.findIn K (.ref AS) "__init__"=some (some (.ref Td))) (jI:AG K "__init__" "NoRule.__init__" XB Td ZCZ)
  (ZFe:Hj K AS (some (.ref Td))=true)
  (ZH3:PySem.W.findIn K (.ref AS) "__setattr__"=some (some (.builtin "object.__setattr__")))
  (ZCL:Rm K AS=true)
  (uJ:PySem.W.takerIn K AS "rule"=some none)
  (ZF5:PySem.W.hasDictIn K AS=true)
  (sC:PySem.W.isFn K (.ref Td)=true)
  (ZHj:PySem.W.keepIn K (.ref AS)=true)
  (Ym:Hj K AZ none=true)
  (aa:PySem.W.exmOne K (.ref AS) (.ref Bk)=some true)
  (dg:PySem.W.exmOne K (.ref AZ) (.ref Bk)=some true)
  (bU:PySem.W.exmOne K (.ref AK) (.ref Bk)=some true)
  (Xp:PySem.W.exmOne K (.ref Ac) (.ref Bk)=some true)
  (KZ:Hi K [AK,DT,DR,DN,AS,DQ,DK,DJ,DU,DP,AZ,DH,DI,Ac,DM,DC] Bk AS 4=true)
  (KO:Hi K [AK,DT,DR,DN,AS,DQ,DK,DJ,DU,DP,AZ,DH,DI,Ac,DM,DC] Bk AK 0=true)
  (Wk:PySem.W.hasDictIn K AS=true)
  (XC:PySem.W.findIn K (.ref AS) "rule"=some none)
  (Wu:PySem.W.hasDictIn K AK=true)
  (b8:PySem.W.findIn K (.ref AK) "name"=some none)
  (Vk:Hi K [AK,DT,DR,DN,AS,DQ,DK,DJ,DU,DP,AZ,DH,DI,Ac,DM,DC] Bk AZ 10=true)
  (WK:Hi K [AK,DT,DR,DN,AS,DQ,DK,DJ,DU,DP,AZ,DH,DI,Ac,DM,DC] Bk Ac 13=true)
  : ∃fd:FuncData,(∀(s:Shared)(v:Value),BindsTo s fd ⟨[v],[]⟩ [("script", v)])/\∀Zp:Heap,K.In Zp->Zp.Ns mainGlobals mg->CU l.prog w K mg Zp Dr 30 fa fd ["script"] (RB K):=by
 have e:=hfa.symm.trans (Ao X G iT);cases e;have EG:Bu K A3:=⟨tq,ZDb,xB,ZH4⟩;have BH:Bu K AD:=⟨zQ,zM,uh,wo⟩;have z9:Meth K A3 "words" f1:=⟨a1,fn1,F1.kp⟩;have ZBD:Mk K A3 Vw:=⟨ZJF,vN,ZEG,wR⟩;have y9:Mk K AD Tq:=⟨xv,zV,ZDv,ZDk⟩;have ZEM:Meth K AD "goes_on" T1:=⟨wV,tj,my.kp⟩;have ZAC:Meth K AD "tell" Ve:=⟨a23,ZGs,lg.kp⟩;have tI:Meth K AD "put_in" W3:=⟨a26,ZHo,lO.kp⟩;have sO:Meth K AD "place_by" Tf:=⟨a27,ZDY,qE.kp⟩;have ZIe:Meth K AD "take_out" Uc:=⟨a29,ZJt,ni.kp⟩;have zX:Meth K AD "do_errand" VT:=⟨a30,ZAS,nK.kp⟩;have ZGQ:Meth K A3 "puts" Ua:=⟨u6,ZAT,pV.kp⟩;have vH:Meth K A3 "goes" VH:=⟨tS,ZAy,mf.kp⟩;have cV:=Iv X G ZHp;have Za:=Iv X G sN;have PY:=Iv X G ZDJ;have EL:=Iv X G yc;have BM:=Iv X G ZK6;have FD:=Iv X G ZJb;have GZ:=Iv X G yQ;have Z7:=Iv X G xS;have EK:=Iv X G ZFS;have GW:=Iv X G ZAv;have FV:=Iv X G ZEn;have X8:=Iv X G ZIg;have Xa:=Ao X G ZEV;have dX:=Ao X G yu;have dY:=Ao X G vC;have bz:=Ao X G ZDc;have aD:=Ao X G ZGG;have aR:=Ao X G ZJq;have Zj:∀H,BW K H Le [.str "none",.str "ahead",.str "all"]:=λH=>.inr ⟨_,_,_,ZCK,rfl,rfl,(by show 3<=sizeLine;decide +kernel),(.cons ⟨_,rfl⟩ (.cons ⟨_,rfl⟩ (.cons ⟨_,rfl⟩ .nil)))⟩;have cn:=Ao X G ZJZ;have YO:∀H,BW K H LB [.str "next",.str "last",.str "back",.str "first"]:=λH=>.inr ⟨_,_,_,ZHF,rfl,rfl,(by show 4<=sizeLine;decide +kernel),(.cons ⟨_,rfl⟩ (.cons ⟨_,rfl⟩ (.cons ⟨_,rfl⟩ (.cons ⟨_,rfl⟩ .nil))))⟩
 have OH:=Ao X G ZJM;have OA:∀H,BW K H Gy [.str "next",.str "last"]:=λH=>.inr ⟨_,_,_,zB,rfl,rfl,(by show 2<=sizeLine;decide +kernel),(.cons ⟨_,rfl⟩ (.cons ⟨_,rfl⟩ .nil))⟩
 have OR:=Ao X G yW;have Yu:=Ao X G ZAo;have YK:=Ao X G ZFG;have YI:=Ao X G sP;have ar:=Ao X G ZAD;have cN:=Ao X G sV;have O7:=Ao X G uY;have cx:=Ao X G u0;have bI:=Ao X G ZFT;have XT:=Ao X G ZID;have OO:=Ao X G va;have Zb:=Ao X G xX;have bY:=Ao X G vJ;have ZN:=Ao X G ZJK;have da:=Ao X G ZJs;have ZP:=Ao X G ZGl;have LG:=Ao X G xh;have ZI:=Ao X G uM;have O6:=Ao X G ZEu;obtain⟨_,_,kV,dc,pm,an,cd,ct,_,rfl,_,_⟩:=id la.ex;refine⟨PySem.W.fnOf "law" "law" (L7 Mj) (FQ Mj) (AL Mj) .none kV dc pm an cd ct,λs v=>.of_eq rfl,λZp _ _=>?_⟩;have Y2:=ZBf (P:=l.prog) (w:=w) (Zp:=Zp) mr (mr.binds (ps:=["self","name"]) (by walk_at "bD2")) ⟨ZJi,ZBt,yM,ZC2,uQ,ZBi,ZIC⟩ ⟨oA,ng,o9,rfl⟩ LG
 have bp:=vV (P:=l.prog) (w:=w) (Zp:=Zp) jI (jI.binds (ps:=["self","rule"]) (by walk_at "bD2")) ⟨ZFe,ZH3,ZCL,uJ,ZF5,sC,ZHj⟩ ⟨oA,ng,o9,rfl⟩ LG
 have DO:=ZB5 (P:=l.prog) (w:=w) (mg:=mg) (Zp:=Zp) (A3:=A3) FD EG IP F1 z9;have Bv:=t6 (P:=l.prog) (w:=w) (Zp:=Zp) F2 (Ao X G a2);have RO:=yH (P:=l.prog) (w:=w) (Zp:=Zp) F3 (Ao X G a3);have cY:=zR RO Bv BM F4 (Ao X G a4);have cj:=yZ cY EK F5 (Ao X G a5);have Z8:=ZGq Bv EK cj GZ FV F6 (Ao X G a6);have HW:=ZAA (AK:=AK) O7 Y2 F7 (Ao X G a7);have X5:=ZBa (AK:=AK) HW cn YO F8 (Ao X G a8);have ZU:=zP (P:=l.prog) (w:=w) (Zp:=Zp) BM Za Xa bz F9 (Ao X G a9);have Z9:=ZEv BM X5 ZU PY dY aD F10 (Ao X G a10);have dF:=vx (P:=l.prog) (w:=w) (mg:=mg) (Zp:=Zp) (A3:=A3) EG IP FV Z9 Lj F11 ZBD;have Y7:=yG (A3:=A3) FD dF Yu F12 (Ao X G uq);have VN:=ZEz (P:=l.prog) (w:=w) (Zp:=Zp) BM F13 (Ao X G a13);have aZ:=sW Bv BM EK si (Ao X G vS);have cE:=ZGf Bv yK (Ao X G a15);have cQ:=ZIi Bv BM aZ cE F16 (Ao X G a16);have O1:=wj (P:=l.prog) (w:=w) (Zp:=Zp) F17 (Ao X G a17);have U2:=ZDs FD O1 F18 (Ao X G a18);have WB:=ZHt O1 U2 F19 (Ao X G a19);have ZA:=ZAO BM WB F20 (Ao X G a20);have Yq:=ZDh (P:=l.prog) (w:=w) (mg:=mg) (Zp:=Zp) (AD:=AD) FD BH Fb Dd JS O2 Ew F21 y9;have Tu:=yC (P:=l.prog) (w:=w) (mg:=mg) (Zp:=Zp) (AD:=AD) BH Fb my ZEM;have c6:=ZIv (P:=l.prog) (w:=w) (mg:=mg) (Zp:=Zp) (AD:=AD) BH Fb Dd JS Ew lg ZAC;have dM:=ZEp (P:=l.prog) (w:=w) (Zp:=Zp) F24 (Ao X G a24);have Y4:=wY (P:=l.prog) (w:=w) (Zp:=Zp) F25 (Ao X G a25);have Xq:=ZDg (P:=l.prog) (w:=w) (mg:=mg) (Zp:=Zp) (AD:=AD) BH Fb Dd O2 Ew dM Y4 lO tI;have bW:=su (P:=l.prog) (w:=w) (mg:=mg) (Zp:=Zp) (AD:=AD) BM BH Dd Ew qE sO;have ag:=ZED (P:=l.prog) (w:=w) (Zp:=Zp) yf (Ao X G a28);have aY:=ZB4 (P:=l.prog) (w:=w) (mg:=mg) (Zp:=Zp) (AD:=AD) BH Fb Dd Ew ag ni ZIe;have bo:=ZCh (P:=l.prog) (w:=w) (mg:=mg) (Zp:=Zp) (AD:=AD) BH Dd bW Xq aY nK zX;have Gz:=ZFW (P:=l.prog) (w:=w) (mg:=mg) (Zp:=Zp) (A3:=A3) (AK:=AK) FD EG IP HW pV ZGQ;have OE:=ZAq (P:=l.prog) (w:=w) (mg:=mg) (Zp:=Zp) (A3:=A3) (AK:=AK) EG HW Lj mf vH;have HR:=ZB7 (AS:=AS) aR Zj OO bp F33 (Ao X G yI);have GN:=wO (A3:=A3) (AK:=AK) (AZ:=AZ) BM HW DO dX O6 Ym F34 (Ao X G a34);have XA:=ZDx (Ac:=Ac) (A3:=A3) (AK:=AK) (AS:=AS) (AD:=AD) (AZ:=AZ) BM BH JS Ew OE Gz Yq bo Tu c6 GN HR da uU (Ao X G a35);have JE:=ZBB (A3:=A3) Gz OH OA wB (Ao X G vW);have Qu:=ZBJ (A3:=A3) JE F37 (Ao X G a37);have Kj:=ZEC (A3:=A3) yx (Ao X G a38) Qu;have Lh:=wW (P:=l.prog) (w:=w) (Zp:=Zp) EK GW F39 (Ao X G a39)
 have Qp:=ZFX (P:=l.prog) (w:=w) (Zp:=Zp) OH OA ud (Ao X G a40);have SI:=zL (A3:=A3) BM GZ FV DO JE Qp Lh F41 (Ao X G zo);have Oy:=wU (A3:=A3) xg (Ao X G a42) SI;have Ov:=vq (A3:=A3) DO Oy yk (Ao X G a43);have Ye:=sA (Ac:=Ac) (A3:=A3) (AK:=AK) (AS:=AS) (AZ:=AZ) GN HR Ov Kj F44 (Ao X G vE);have Xz:=xP (Ac:=Ac) (A3:=A3) (AK:=AK) (AS:=AS) (AZ:=AZ) GN HR Ov Kj F45 (Ao X G xJ);have PD:=ZH1 (Ac:=Ac) (A3:=A3) Kj OR YS F46 (Ao X G a46);have aG:=ZJS (A3:=A3) BM Gz F47 (Ao X G a47);have cL:=ZCG (A3:=A3) FV PY DO OE GW aG X8 F48 (Ao X G a48);have aU:=uv (Ac:=Ac) (A3:=A3) (AK:=AK) (AS:=AS) (AZ:=AZ) BM GZ FV DO GN HR Lh Oy PD cL uH (Ao X G y8);have JO:=wc (A3:=A3) Gz yS (Ao X G a50);have II:=yO (A3:=A3) GW JO F51 (Ao X G a51);have Ri:=ZDl (A3:=A3) JO F52 (Ao X G tU) II;have bP:=zr (Ac:=Ac) (A3:=A3) (AK:=AK) (AS:=AS) (AZ:=AZ) BM EK DO GN GW PD F53 (Ao X G a53) II Ri;have XG:=ZFp (Ac:=Ac) (A3:=A3) (AK:=AK) (AS:=AS) (AZ:=AZ) Ye Xz bP XA aU F54 (Ao X G wu);have Zr:=ZDO (Ac:=Ac) (A3:=A3) (AK:=AK) (AS:=AS) (Bk:=Bk) (AZ:=AZ) XG LG aa dg bU Xp F55 (Ao X G y6);have Zi:=zb (P:=l.prog) (w:=w) (Zp:=Zp) (Ac:=Ac) (DP:=DP) (DR:=DR) (DQ:=DQ) (DH:=DH) (AK:=AK) (DM:=DM) (DN:=DN) (DC:=DC) (AS:=AS) (DU:=DU) (DI:=DI) (DJ:=DJ) (DK:=DK) (Bk:=Bk) (DT:=DT) (AZ:=AZ) O7 OO O6 OR LG cV EL YK YI ar cN cx bI XT Zb bY ZN ZP ZI F56 (Ao X G a56);have bV:=v5 (P:=l.prog) (w:=w) (Zp:=Zp) (Ac:=Ac) (DP:=DP) (DR:=DR) (DQ:=DQ) (DH:=DH) (AK:=AK) (DM:=DM) (DN:=DN) (DC:=DC) (AS:=AS) (DU:=DU) (DI:=DI) (DJ:=DJ) (DK:=DK) (Bk:=Bk) (DT:=DT) (AZ:=AZ) KZ KO Wk XC Wu b8 F57 (Ao X G a57);exact ZHw (Ac:=Ac) (A3:=A3) (DP:=DP) (DR:=DR) (DQ:=DQ) (DH:=DH) (AK:=AK) (DM:=DM) (DN:=DN) (DC:=DC) (AS:=AS) (DU:=DU) (DI:=DI) (DJ:=DJ) (DK:=DK) (Bk:=Bk) (DT:=DT) (AZ:=AZ) FD Bv BM EK GZ DO KZ KO Zi Y7 ZA bV Z8 VN Zr cQ Z7 Vk WK la (Ao X G iT)
def walk{q:Program}{loose:List Str}{XP:(ZLb)->Heap->Prop}{YP:World->Heap->Prop}{d:DefRec}{K:Params->ZLZ}(hn:l.most=some 63)(SG:d.params.defaults=[])
  (hY:∀(w:World)(h:Heap),YP w h->(K w.params).In h)
  (F:∀(w:World)(mg:ZLb)(fa:Addr)(h:Heap),(K w.params).In h->h.Ns mainGlobals mg->mg d.name=some (.ref fa)->
   ∃fd:FuncData,(∀(s:Shared)(u:Value),BindsTo s fd ⟨[u],[]⟩ [("script", u)])/\∀Zp:Heap,(K w.params).In Zp->Zp.Ns mainGlobals mg->CU l.prog w (K w.params) mg Zp Dr 30 fa fd ["script"] (RB (K w.params))) :
  PySem.W.WalkO q loose XP YP l.row.toRowW d [] (λf vs=>PySem.call f vs):=
 L2.ZJE (n:=63) (k:=30) (x:="script") (CX:=λ_=>Dr) (sp:=λw=>RB (K w.params)) hn (by decide) SG ⟨rfl,by decide,by decide⟩ hY F (λ_ _ a ns hl _ hS=>⟨a,ns,rfl,hS,hl,λ_=>rfl⟩) λ_ _ _ _ _ z=>z
end Pf
open PySem.W
local macro_rules | `(tactic| walk_at "kF")=>`(tactic| (refine' L2.ZJp ?_ ?_ ?_;all_goals try k_is;all_goals k_is))
set_option maxRecDepth 100000 in
set_option maxHeartbeats 0 in
theorem PySem.Challenge.cw_stirround_k74_crowds_and_rules_refused_holds : PySem.Challenge.rw_stirround_k74_crowds_and_rules_refused.Holds := by
 w_on;o_law;k_head;(case hw=>w_witness2)
 k_fill
 refine Pf.walk (l:=PySem.Challenge.rw_stirround_k74_crowds_and_rules_refused) rfl rfl (λw h Y=>PySem.W.kIn_of Y) ?F
 case F=>
  intro w mg fa h KX G RD;apply Pf.all_mk KX G RD
  any_goals first|k_is|(show _=_;k_is)|kernel_rfl|walk_at "kF"
#print axioms PySem.Challenge.cw_stirround_k74_crowds_and_rules_refused_holds
