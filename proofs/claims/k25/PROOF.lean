import PyProof.Rows.All
import Wide.All
import OpenK.AllK
import PySem.Challenge.RW_stirround_k25_wrong_logs_refused
set_option genSizeOf false
set_option linter.all false
set_option compiler.extract_closed false
set_option bootstrap.genMatcherCode false
noncomputable section
def pK:=@PySem.wpAny_bind
def pX:=@decide_eq_true
def qg:=@if_neg
def qm:=@PySem.wpAny_pure
def sE:=@of_decide_eq_true
def tX:=@if_pos
def tY:=@PyProof.Rows.wpS_bind
def tf:=@PyProof.Rows.wpS_pure
def uK:=@decide_eq_false
def ud:=@PySem.wpAny_mono
def uz:=@beq_self_eq_true
def vB:=@congrArg
def vH:=@PySem.wpAny_holding
def vz:=@PyProof.Rows.wpS_forRange
def wA:=@PySem.wpAny_truthy_bool
def x3:=@PySem.wpAny_Call_Name_kw
def xI:=@PySem.wpAny_newObj_type
def xT:=@PySem.wpAny_typeOf
def xX:=@PySem.wpAny_passesOwn
def xY:=@PyProof.Rows.wpS_mono
def yO:=@PySem.wpAny_updateSeq
def yc:=@PySem.wpAny_execs_nil
def yy:=@PySem.wpAny_loadPart_at
def z7:=@PyProof.Rows.wpS_modify
def zE:=@PySem.wpAny_rule
def zF:=@PySem.wpAny_specialOf
def zL:=@PySem.wpAny_call
def zR:=@PySem.tupleKind_room_in1
def zd:=@PySem.codeAny_mono
def ZA6:=@PySem.plainObj_wpAny_Assign_Attribute
def ZAB:=@PySem.builtinLookup_eq_fast
def ZAI:=@PySem.wpAny_call_entry
def ZAK:=@PySem.wpAny_standAt
def ZAO:=@or_false
def ZAV:=@PySem.wpAny_field
def ZAW:=@PySem.codeAny_extend_loopS
def ZAY:=@PySem.codeAny_call_builtin
def ZAc:=@PySem.wpAny_ite_split
def ZAg:=@PySem.codeAny_builtin
def ZAi:=@PyProof.Rows.wpS_get
def ZAj:=@decide_eq_true_iff
def ZAo:=@PySem.wpAny_newList
def ZAv:=@PySem.plainId_quiet
def ZB1:=@PyProof.Rows.wpS_lift
def ZB5:=@PySem.wpAny_isInstance
def ZB7:=@PySem.noFill_tuple_add
def ZBB:=@PySem.call_meets
def ZBC:=@PySem.typeLookup_type
def ZBE:=@if_false
def ZBF:=@PySem.sizeLine_eq
def ZBG:=@PySem.wpAny_setField
def ZBJ:=@PySem.wpAny_loadPart
def ZBM:=@PySem.isSubtype_type
def ZBU:=@if_true
def ZBY:=@beq_iff_eq
def AK:=@List.length_map
def Aw:=@PySem.W.mg_of
def B4:=@Nat.le_refl
def BA:=@List.not_mem_nil
def BE:=@PySem.Heap.lt_size
def BK:=@List.getElem?_eq_getElem
def BU:=@Ne.symm
def Bb:=@List.getElem?_map
def Bf:=@PySem.Heap.get?_push_of_some
def Bi:=@Nat.le_trans
def Br:=@Nat.ne_of_lt
def Bs:=@Option.some.inj
def C5:=@List.append_assoc
def CA:=@List.map_cons
def CK:=@PySem.Heap.get?_push_size
def CL:=@List.size_toArray
def CO:=@List.getElem?_set_ne
def CP:=@List.length_append
def Ck:=@List.length_cons
def Cs:=@List.getElem?_set_self
def Ct:=@Nat.zero_le
def Cz:=@List.nodup_append
def DB:=@Int.eq_ofNat_of_zero_le
def DC:=@List.mem_cons_self
def DM:=@List.length_take
def Dc:=@Bool.false_ne_true
def Dd:=@List.mem_cons_of_mem
def Dm:=@Bool.and_eq_true
def Dn:=@Nat.lt_of_lt_of_le
def EL:=@List.mem_of_getElem?
def Ec:=@List.map_append
def G3:=@PySem.Heap.get?_update_other
def G4:=@List.append_nil
def G5:=@List.mem_append_right
def G6:=@Nat.le_succ
def GY:=@List.mem_cons
def HJ:=@PySem.Heap.size_push
def HK:=@List.length_drop
def HL:=@PySem.W.mg_none_of
def IA:=@List.getElem?_append_left
def IB:=@List.lookup_cons
def IC:=@List.mem_append_left
def Im:=@List.all_eq_true
def Io:=@Nat.lt_of_le_of_lt
def Ip:=@PySem.W.kia_one
def JQ:=@PySem.Heap.get?_update_self
def JR:=@List.mem_append
def K8:=@Decidable.byContradiction
def K9:=@List.getElem?_append_right
def KA:=@List.length_set
def KC:=@List.zip_cons_cons
def KD:=@Nat.min_eq_left
def LQ:=@List.getElem?_eq_none
def LR:=@List.take_append_drop
def LS:=@Nat.lt_succ_of_lt
def LU:=@PySem.PassesOwn.never
def Mj:=@Array.length_toList
def Ml:=@Int.emod_lt_of_pos
def Mm:=@Int.emod_nonneg
def Mn:=@List.getElem_mem
def Mo:=@List.take_length
def Mp:=@Nat.lt_irrefl
def Mq:=@PySem.F.plainAttrs_list
def Mr:=@PySem.mem_of_lookup
def Ob:=@Bool.eq_iff_iff
def Oc:=@PySem.Heap.get?_none_of_le
def Od:=@List.any_cons
def Oe:=@List.getD_eq_getElem?_getD
def Of:=@List.length_filter_le
def Og:=@List.length_zip
def Oh:=@List.map_map
def Oi:=@List.map_take
def Oj:=@Nat.le_of_lt
def Ol:=@Nat.ne_of_gt
def Om:=@Nat.succ.inj
def RA:=@List.all_cons
def RB:=@List.eraseIdx_cons_succ
def RC:=@List.find?_cons
def RD:=@List.map_drop
def RE:=@List.nodup_nil
def RF:=@List.take_of_length_le
def RG:=@Nat.le_total
def RH:=@Nat.min_eq_right
def RI:=@PyProof.Rows.callWith_type1
def VB:=@Array.getElem?_toList
def VC:=@Bool.and_false
def VD:=@PySem.Heap.size_after_update
def VE:=@Int.toNat_natCast
def VF:=@List.filterMap_cons
def VG:=@List.getElem?_range
def VH:=@List.map_nil
def VI:=@List.of_mem_zip
def VJ:=@List.set_cons_succ
def VL:=@List.set_set
def VM:=@List.take_succ_eq_append_getElem
def VN:=@Nat.le_of_eq
def VO:=@PySem.F.slot_list_index
def VP:=@PySem.W.any_some
def VQ:=@PySem.W.callWith_K
def cP:=@Bool.true_and
def cQ:=@PySem.Calls.evalArgs_plain
def cR:=@List.cons_append
def cS:=@List.cons_lt_cons_iff
def cT:=@List.drop_zero
def cU:=@List.ext_getElem?
def cV:=@List.filter_append
def cW:=@List.filter_cons
def cX:=@List.getElem_idxOf
def cY:=@List.idxOf_eq_length
def cZ:=@List.length_nil
def cg:=@List.length_reverse
def cj:=@List.mem_of_mem_take
def ck:=@List.nil_append
def cn:=@List.reverse_cons
def cq:=@List.set_cons_zero
def cu:=@Nat.lt_succ_self
def cw:=@Nat.lt_trichotomy
def cx:=@Nat.min_self
def cy:=@Nat.sub_zero
def cz:=@Option.isSome_map
def d4:=@Option.map_some
def d5:=@PyProof.Rows.slot_tuple_getitem
def d6:=@PySem.F.type_list_index
def d7:=@PySem.W.looks_findIn
def oU:=@Array.toList_push
def oV:=@Bool.and_true
def oW:=@PySem.Calls.callWith_builtin
def oX:=@PySem.Calls.spliced_cons
def oY:=@PySem.Calls.spliced_nil
def oZ:=@PySem.Code.quiet_builtin
def oa:=@PySem.Heap.size_update
def og:=@Int.toNat_of_nonneg
def oh:=@List.drop_eq_getElem_cons
def om:=@List.eraseIdx_sublist
def oo:=@List.filter_map
def oq:=@List.forIn_nil
def ot:=@List.getElem?_replicate
def ou:=@List.idxOf_cons
def oy:=@List.length_singleton
def oz:=@List.map_id'
def p4:=@List.mem_filter
def p5:=@Nat.le_of_lt_succ
def p6:=@Nat.le_succ_of_le
def p8:=@Nat.log2_lt
def p9:=@Nat.lt_trans
def pA:=@Nat.sub_self
def pB:=@PySem.Obj.data_mapFields
def pC:=@Option.bind_some
def pD:=@PySem.Paired.length
def pE:=@PySem.F.args_tuple_add_2
def pF:=@PySem.F.entry_tuple_add
def pG:=@PySem.F.excBase_ValueError
def pH:=@PySem.F.slot_tuple_add
def pI:=@PySem.W.looks_clsIn
def pJ:=@PySem.W.plainGet_of
def ZI2:=@Array.find?_toList
def ZI3:=@Array.size_extract
def ZI4:=@Array.toList_setIfInBounds
def ZI5:=@PySem.Calls.Name_function_global
def ZI6:=@PySem.Calls.call_function_entry
def ZI7:=@Int.lt_of_le_of_lt
def ZI8:=@Int.natCast_nonneg
def ZI9:=@List.Pairwise.map
def ZIA:=@List.Sublist.refl
def ZIB:=@List.any_eq_false
def ZIC:=@List.contains_cons
def ZID:=@List.countP_cons
def ZIE:=@List.drop_length
def ZIF:=@List.drop_of_length_le
def ZIG:=@List.exists_cons_of_ne_nil
def ZIH:=@List.filter_congr
def ZII:=@List.filter_eq_self
def ZIJ:=@List.getElem_inj
def ZIK:=@List.length_eraseIdx_of_lt
def ZIL:=@List.length_erase_of_mem
def ZIM:=@List.length_pos_of_mem
def ZIN:=@List.length_replicate
def ZIO:=@List.lookup_cons_self
def ZIP:=@List.map_reverse
def ZIQ:=@List.mem_erase_of_ne
def ZIR:=@List.mem_of_mem_drop
def ZIS:=@List.mem_or_eq_of_mem_set
def ZIT:=@List.toList_toArray
def ZIU:=@Nat.le_of_not_lt
def ZIV:=@Nat.min_le_right
def ZIW:=@Nat.not_lt_of_le
def ZIX:=@Option.getD_none
def ZIY:=@Option.isSome_some
def ZIZ:=@PySem.F.plain_extend_loop
def ZIa:=@PySem.F.slot_dict_pop
def ZIb:=@PySem.F.slot_list_append
def ZIc:=@PySem.F.slot_list_insert
def ZId:=@PySem.F.slot_tuple_index
def ZIe:=@PySem.F.type_list_append
def ZIf:=@PySem.W.Looks.here
def ZIg:=@PySem.W.Looks.ld
def ZIh:=@PySem.W.cellsFrom_some
def ZIi:=@PySem.W.findObj_own
def ZIj:=@PySem.W.handedOut_of
def ZIk:=@PySem.W.kitx_dict
def ZIl:=@PySem.W.kitx_list
def ZIm:=@PySem.W.looks_find
def ZIn:=@PySem.W.looks_mroIn
def ZIo:=@PySem.W.methodCall_KW
def ZIp:=@PySem.W.set_plain
def ZIq:=@PySem.Within.cons
open PySem PySem.Spec PyProof.Rows
abbrev Zq0(x:Str):Prop:=(x == ("__debug__":Str))=false
abbrev ZJa:=PySem.W.Frag
abbrev ZJb:=(List (Addr×Obj))
abbrev ZJc:=(Str->Option Value)
namespace PySem.W.Fast
def t:=Nat
def tw3587178912439168965:=t
def tw548411895717885197:=t
def tw13597457254925745886:=t
def tw10757192510842580672:=t
def tw9556285786710621382:=t
def tw4821685443422747041:=t
def tw8964792437596849705:=t
def tw10309466213402778659:=t
def tw1636527381856165089:=t
def tw3352268225108385046:=t
def tw642487765211283091:=t
def tw7616267255726224507:=t
def tw1217916797050057074:=t
def tw1072513963937756091:=t
def tw10357874631913962979:=t
def tw9514824605236112614:=t
def tw2780207869207338433:=t
def tw11817817521644367773:=t
def tw9618590788329078309:=t
def tw10183018967693755738:=t
def tw16172736431332237151:=t
def tw481762867119473273:=t
def tw4986203983041051057:=t
def tw9940047723376461921:=t
def tw9868996007164092065:=t
def tw13304982488775037663:=t
def tw4598646590157361317:=t
def tw2955710638421784920:=t
def tw17537902170156545552:=t
def tw10548813997574739869:=t
def tw16279092721551884343:=t
def tw5188808214968523937:=t
def tw14248628543974819067:=t
def tw1664657767691194209:=t
def tw12845556413651769944:=t
def tw5572995779237764779:=t
def tw5432949702958856868:=t
def tw18039377566957176020:=t
def tw129621123263600732:=t
def tw11635835094407854613:=t
def tw517302126801104631:=t
def tw11975988120546769464:=t
def tw1910375755047333026:=t
def tw7711646105022646647:=t
def tw5785150762399974266:=t
def tw5216691731078983698:=t
def tw17396646874323327758:=t
def tw13943078716369895950:=t
def tw18135842079241537061:=t
def tw6205713422751483112:=t
def tw6080503776430551306:=t
def tw5385698019599993747:=t
def tw11578712366955811617:=t
def tw5426348706371015863:=t
def tw3353104690769860847:=t
def tw2792983022473885114:=t
def tw7597185029380361874:=t
def tw8490881571718207075:=t
def tw8626327067411533943:=t
def tw8979279547375891315:=t
def tw12003462548012039849:=t
def tw2268643233130819845:=t
def tw16263442920789743141:=t
def tw15691400501168131938:=t
def tw13552647934152127974:=t
def tw6995289905350367651:=t
def tw4667114696231950957:=t
def tw1125709900698243164:=t
def tw16757601055480779596:=t
def tw16763802471270670035:=t
def tw2746093279232544603:=t
def tw4183674555555223672:=t
def tw14624008462086927679:=t
def tw1965958464238729003:=t
def tw10530756026009131943:=t
def tw17406710963035852436:=t
def tw18114388430464846115:=t
def tw2188990666828472844:=t
def tw7733627278747938345:=t
def tw810448664564057331:=t
def tw12605751257700918847:=t
def tw12809724339516089477:=t
def tw1662366269116935779:=t
def tw6631067011672089055:=t
def tw4649278073983033054:=t
def tw12905255378981769926:=t
def tw15091453564343479532:=t
def tw12594804072014470045:=t
def tw9886574191324137211:=t
def tw2291173758564972117:=t
def tw15322043959138121993:=t
def tw7611386806579884275:=t
def tw10164161787116464382:=t
def tw14019767352858639833:=t
def tw5849357058015827332:=t
def tw9039118635230785391:=t
def tw12856853753713511802:=t
def tw7735051477162164148:=t
def tw2777761105365160253:=t
def tw8841426592059895708:=t
def tw8402482152484839958:=t
def tw3694448155682782660:=t
def tw13513875857883843117:=t
def tw9614661239630558762:=t
def tw17418249771200893822:=t
def tw6834799318906214707:=t
def tw7909853314930407955:=t
def tw10966845549929060317:=t
def tw15213916115704857502:=t
def tw2815699639133009126:=t
def tw14490543342192858402:=t
def tw10652754606686788749:=t
def tw7476357218636882259:=t
def tw5683055276625976519:=t
def tw541471590579471965:=t
def tw10491732376184106352:=t
def tw7975568303426274844:=t
def tw8464423779468173680:=t
def tw14259699356857034620:=t
def tw16858850883867005642:=t
def tw3247221131083975743:=t
def tw12767194341966468513:=t
def tw983961494980718859:=t
def tw12204144414378486891:=t
def tw15454007000155126337:=t
def tw7729321945041884941:=t
def tw8804440892916219625:=t
def tw9357649064266767237:=t
def tw15900981055808470507:=t
def tw12089734248015849203:=t
def tw3002996445993333143:=t
def tw10880207786056825100:=t
def tw7372577213474131273:=t
def tw4104215911733830190:=t
def tw3783548330331070444:=t
def tw11753561764966421945:=t
def tw9326033437528092250:=t
def tw7082622135205495304:=t
def tw5201099574056261107:=t
def tw3520665537372585513:=t
def tw5834758077671699988:=t
def tw14103047503369146775:=t
def tw3886059262424977862:=t
def tw2533768654699760952:=t
def tw16215922557068382181:=t
def tw9417742103707942403:=t
def tw4078976196089218856:=t
def tw7867807818715116156:=t
def tw11773603199813567154:=t
def tw15300157884172815590:=t
def tw12596807049699943059:=t
def tw6762011080290533602:=t
def tw13387548208845917880:=t
def tw5692096281724443313:=t
def tw13562940446266238994:=t
def tw14081464198657806651:=t
def tw2521019724431865297:=t
def tw10841157992865485675:=t
def tw4359677569603384946:=t
def tw15532278093576063260:=t
def tw6727121376098962455:=t
def tw6671200155282586770:=t
def tw14898921034167202697:=t
def tw14775452722670226743:=t
def tw17067097193410459085:=t
def tw436555174023594348:=t
def tw15308202568898322467:=t
def tw13703293622909973356:=t
def tw4588701417804667287:=t
def tw13360281277773788860:=t
def tw1285613552198999753:=t
def tw1358655116232495774:=t
def tw10585794475672913176:=t
def tw17519595463651362020:=t
def tw1094060577493254778:=t
def tw282906688647326363:=t
def tw5215579997055800526:=t
def tw1242876230990020326:=t
def tw9313541212121200614:=t
def tw11802290818914283610:=t
def tw259422407291640254:=t
def tw6760517052348879201:=t
def tw359951920102964415:=t
def tw1736311932361421052:=t
def tw4637346056152164856:=t
def tw3948200967064026669:=t
def tw7374455931995962123:=t
def tw10650220786661915230:=t
def tw5821838784844158819:=t
def tw4856175749185778611:=t
def tw2033092362657797705:=t
def tw10796015438260030825:=t
def tw13561448478612848762:=t
def tw4834799093022430335:=t
def tw13250919904338746523:=t
def tw7524900592299363133:=t
def tw18093512553003312521:=t
def tw11545556637163447739:=t
def tw11331872321394819526:=t
def tw13927349370785249431:=t
def tw2663197290996440400:=t
def tw697158747646392287:=t
def tw4824403615819912689:=t
def tw13436106593102240636:=t
def tw8801059520933435805:=t
def tw10106670508084205316:=t
def tw12455977168334549570:=t
def tw1579304343826177663:=t
def tw10066562710707789966:=t
def tw3977036577211306439:=t
def tw6295185401973614585:=t
def tw10377596782021555058:=t
def tw6811744666956311832:=t
def tw11522213512974537323:=t
def tw1419948147770049162:=t
def tw3641254672674028123:=t
def tw11428972329805952429:=t
def tw18092969032339466079:=t
def tw6835294046662783754:=t
def tw12588294925628820812:=t
def tw11704879674925540979:=t
def tw8341841174780015957:=t
def tw10323136669059714802:=t
def tw1372789751671006048:=t
def tw1585147256200996613:=t
def tw17450839942876285205:=t
def tw15671213428312190880:=t
def tw5591450062213630988:=t
def tw829053939268806924:=t
def tw8006851905092759521:=t
def tw4889081102657303682:=t
def tw18262795337173665316:=t
def tw9184557274333247500:=t
def tw3093424411782579041:=t
def tw16401043539949437169:=t
def tw8915477788122144862:=t
def tw8859538460323558341:=t
def tw3265735670691231204:=t
def tw2883959680886429043:=t
def tw7989508298493131411:=t
def tw7108108578809038202:=t
def tw7349466220260181349:=t
def tw14706013760628736452:=t
def tw7073451679796750209:=t
def tw7578289810191835858:=t
def tw7047638895473376479:=t
def tw9596921685395907370:=t
def tw10916681219607114753:=t
def tw9843530859303875722:=t
def tw4970997191510368554:=t
def tw10294076761866609600:=t
def tw10043119000774798593:=t
def tw3445683809764423917:=t
def tw16721389815469637423:=t
def tw4246818750039578788:=t
def tw2152157615516504092:=t
def tw3312243335539290414:=t
def tw3999778424523691586:=t
def tw12304951878391069410:=t
def tw4023267129994900531:=t
def tw15408134257187682842:=t
def tw5793862602459566102:=t
def tw11640165851817767363:=t
def tw11800841154048668000:=t
def tw15361997976932671614:=t
def tw4830296192140799343:=t
def tw12708492794868579580:=t
def tw3391047933901502581:=t
def tw11583903891176336720:=t
def tw836411170987488949:=t
def tw528163561955143724:=t
def tw7624949011102451944:=t
def tw10018291758249556061:=t
def tw8129785440340409382:=t
def tw5737513375155913413:=t
def tw7501091466632339163:=t
def tw16068241583802822785:=t
def tw8910807440451789079:=t
def tw513922904929497015:=t
def tw12794698848454430168:=t
def tw11965695421535386839:=t
def tw7275722556324724120:=t
def tw14267521989468548569:=t
def tw6201792098415773921:=t
def tw10955800424389443871:=t
def tw8953102085649284265:=t
def tw16589318326979393653:=t
def tw9496911949454732243:=t
def tw10663069895069993531:=t
def tw9592591138135185166:=t
def tw10016320674526659732:=t
def tw16898641734333940326:=t
def tw6840203441670821725:=t
def tw3906498274177512136:=t
def tw16380101150499542485:=t
def tw442441907107340549:=t
def tw2263400790150437909:=t
def tw174740212264446014:=t
def tw7577979633310573877:=t
def tw6591471899778261078:=t
def tw16086423713981443166:=t
def tw12811447388611176596:=t
def tw2070954853408639529:=t
def tw7293234568139099904:=t
def tw18405722709429288764:=t
def tw15773429931776821114:=t
def tw393654804817031130:=t
def tw6492373712311755251:=t
def tw2001058946398995714:=t
def tw10403573314612235376:=t
def tw18198114368759411649:=t
def tw8191911699062234296:=t
def tw5959670943418406462:=t
def tw8471641567323890860:=t
def tw1212491022659772954:=t
def tw5969706740300639325:=t
def tw15892187549790472224:=t
def tw3387653163643663335:=t
def tw9277381863805780469:=t
def tw7584676504371519390:=t
def tw13299528918967731923:=t
def tw5325606254456488984:=t
def tw7084097880737593330:=t
def tw14269960911746487324:=t
def tw7184804339548853321:=t
def tw5595741418925886451:=t
def tw3704716020771834731:=t
def tw9749182256081408526:=t
def tw793096116107523637:=t
def tw6209987626442531174:=t
def tw661835778190263356:=t
def tw5374817254846569441:=t
def tw16648059894617376674:=t
def tw12764053444002082756:=t
def tw6440524479343879872:=t
def tw16970732632171567644:=t
def tw2865217580357340607:=t
def tw17850878230400566118:=t
def tw11223803126803080956:=t
def tw5252792309461988015:=t
def tw4751018867019301630:=t
def tw12400471325393835664:=t
def tw14925600225615391830:=t
def tw2430589992521509038:=t
def tw369312878791667958:=t
def tw2775506812785547958:=t
def tw13207268777040651954:=t
def tw10794985693184051638:=t
def tw17411036481198343117:=t
def tw14776852321549240363:=t
def tw12559473958223601838:=t
def tw8063649671909505166:=t
def tw7968827277471548978:=t
def tw1485490847058619588:=t
def tw7290505494119068494:=t
def tw17153119469755437980:=t
def tw7102307981073404847:=t
def tw5044849664445075935:=t
def tw3916204898154140193:=t
def tw15583540716191554583:=t
def tw7658811409395760622:=t
def tw6738023696386784801:=t
def tw6300236924931984477:=t
def tw15207584171476173110:=t
def tw12628105669496289139:=t
def tw5940080788939476364:=t
def tw6937336665098728456:=t
def tw16295372792310576741:=t
def tw7915741962251370598:=t
def tw3972594369205463451:=t
def tw11768402116372598490:=t
def tw1804218386968424044:=t
def tw17492588572935622113:=t
def tw6184404589422033316:=t
def tw13980550959696548241:=t
def tw2081251834862950897:=t
def tw9564976132267358570:=t
def tw1143509525509423493:=t
def tw5116461374174810221:=t
def tw6552918643197608783:=t
def tw13322819104246710541:=t
def tw10789503062881601631:=t
def tw10689497377125615708:=t
def tw6904529245712454138:=t
def tw18289641951330284545:=t
def tw8551567836500165065:=t
def tw15464975515645631478:=t
def tw1687465674280553126:=t
def tw4551207305886040835:=t
def tw13703359210496534452:=t
def tw2260873814287460926:=t
def tw16107739686375191029:=t
def tw7337497388891394956:=t
def tw1398216312205993064:=t
def tw7176708974785696747:=t
def tw39932552186392288:=t
def tw11122692189799532587:=t
def tw13714208230683064914:=t
def tw5473941320004391434:=t
def tw8160627420798868363:=t
def tw7086587258627243757:=t
def tw5896731502205675926:=t
def tw5670029857697877758:=t
def tw2974283642155617135:=t
def tw13985285398930604689:=t
def tw16882626615057250125:=t
def tw7411317535184175055:=t
def tw4473847760665273196:=t
def tw8920861705036908276:=t
def tw9704897025899106925:=t
def tw9457183935488858685:=t
def tw8263854626684324250:=t
def tw16388939727891368633:=t
def tw1193639475552380:=t
def tw8812307055628596463:=t
def tw11245267997232957886:=t
def tw283288634593851461:=t
def tw1607876946056768128:=t
def tw2593234342636483279:=t
def tw12272896152149440991:=t
def tw5787548955381548572:=t
def tw8145754342967644836:=t
def tw13058408802203203243:=t
def tw14312610513285263601:=t
def tw18283853185351196575:=t
def tw10873799224114853849:=t
def tw1552790563517760168:=t
def tw5324429337935402098:=t
def tw4787723557401395354:=t
def tw11007157815209935549:=t
def tw11784056775735302340:=t
def tw17630895732307268366:=t
def tw585673550337831808:=t
def tw3993744976937981470:=t
def tw34586550005694599:=t
def tw12915473966867103108:=t
def tw11076152518757505135:=t
def tw4172729430732996978:=t
def tw13805487461101952426:=t
def tw6671247057124461066:=t
def tw10408592271508923658:=t
def tw10850484164255451047:=t
def tw9827580453788412167:=t
def tw4740584984419115864:=t
def tw13334375302458221692:=t
def tw6828503771791079875:=t
def tw7398164763031414674:=t
def tw7990762334278350880:=t
def tw17263233413690024603:=t
def tw14077546840780885126:=t
def tw10809491420249831347:=t
def tw13004523541966324745:=t
def tw10183622756492650309:=t
def tw12930426973499414782:=t
def tw7130578429199373624:=t
def tw16100873320258468452:=t
def tw5403280464595224798:=t
def tw14987174742220490068:=t
def tw3108426512795677777:=t
def tw6947768837258686240:=t
def tw2677382703686247372:=t
def tw9232673327143038265:=t
def tw7636562045263286966:=t
def tw10858672569636424452:=t
def tw14089250923422244991:=t
def tw18337150669224104641:=t
def tw10198100231561829101:=t
def tw14568324667973239767:=t
def tw1119478221477479213:=t
def tw491472025608687030:=t
def tw4119850521625493608:=t
def tw11528292637841007309:=t
def tw16054671710880453563:=t
def tw14206540621271375610:=t
def tw6422770508242341465:=t
def tw13991849810501116365:=t
def tw14825145939074012381:=t
def tw4088491438302696309:=t
def tw17325755516076720831:=t
def tw9568874762467429256:=t
def tw15607240686600666290:=t
def tw12224961394419881795:=t
def tw17624295541801608042:=t
def tw17534871195322826696:=t
def tw14346835703441623409:=t
def tw1220283836269411875:=t
def tw16134638315574122926:=t
def tw17884208685279634379:=t
def tw8176634802020186338:=t
def tw10341409146911688091:=t
def tw18342888552573954285:=t
def tw14245169119693432330:=t
def tw10707050067647711074:=t
def tw1274043858684607109:=t
def tw5770117378180072815:=t
def tw2420823347986828021:=t
def tw2180450817942367648:=t
def tw10018477691770423443:=t
def tw11241367995660893305:=t
def tw8949811345513984851:=t
def tw9199324026615456017:=t
def tw16210470894388810839:=t
def tw5266979837165193629:=t
def tw6670467249838001553:=t
def tw1390664623185315652:=t
def tw17771706886684961366:=t
def tw743795094875478832:=t
def tw6236263478711590947:=t
def tw2917218632761231190:=t
def tw14442125482954317542:=t
def tw13505149973497556425:=t
def tw1916853218241173957:=t
def tw10551214585722396128:=t
def tw3384543050513618496:=t
def tw17813516789906092330:=t
def tw8545894848413657115:=t
def tw10623755457930065124:=t
def tw17850212539148198513:=t
def tw11490435831661010627:=t
def tw6938610632633945385:=t
def tw3507712789195778214:=t
def tw6400420308884887027:=t
def tw6790187127763425550:=t
def tw14697299996712208306:=t
def tw6883991095175976712:=t
def tw14393541697362653811:=t
def tw5922868811686844284:=t
def tw16717005903569158643:=t
def tw6817887163770066576:=t
def tw12190931292293628400:=t
def tw15854948523332926075:=t
def tw16313491410595950856:=t
def tw15323759795401173098:=t
def tw3069864231039285594:=t
def tw2560224997023796934:=t
def tw4202272279974933822:=t
def tw497894931534513696:=t
def tw5503537137950496735:=t
def tw14104484794906075795:=t
def tw12382912303020272062:=t
def tw9091887020828177912:=t
def tw8630288374980665468:=t
def tw17435440671254267054:=t
def tw2613007703394705170:=t
def tw12437451324602951156:=t
end PySem.W.Fast
set_option Elab.async false
set_option maxRecDepth 100000
namespace L2
variable{α κ:Type}{C a b dx it:Addr}{c cd u:Value}{w:World}{ZB h':Heap}{m name qual x:Str}{e tg:Expr}{jN ZA:ZJb}{s s':Shared}{g':Array GenState}{i j n t' tk:Nat}{d':Drawn}{ch fp:List Addr}{N ks ns ps:List Str}{M:Model}{A:Around}{E Q:Value->Shared->Prop}{es rest:List Expr}{ZJ3 pos:Pos}{op:CmpOp}{f:Value->Value->Sem Value}{pl:Sem Bool}{ds us:List Value}{mA mg:ZJc}{prog:Program}{kw:List (Str×Value)}{fd:FuncData}{outer:List Env}{sc scope:Scope}
abbrev Key:=Sum Int Str
noncomputable def KS:Key->Value->Bool
 | .inl k,v=>Value.isInt k v
 | .inr x,v=>Value.isStrOf x v
noncomputable def y4(w:World):Key->Int
 | .inl k=>hashInt k
 | .inr x=>hashStr w x
theorem Ie:∀{k:Key}{v:Value},KS k v=true->(∃i t,k=Sum.inl i/\v=Value.int i t)∨(∃x t,k=Sum.inr x/\v=Value.str x t)
 | .inl i,v,h=>by
  obtain⟨t,e⟩:=Value.isInt_shape (k:=i) (v:=v) h;exact .inl ⟨i,t,rfl,e⟩
 | .inr x,v,h=>by
  obtain⟨t,e⟩:=Value.isStrOf_shape (x:=x) (v:=v) h;exact .inr ⟨x,t,rfl,e⟩
theorem ZGp(i:Int)(t:Tok):KS (.inl i) (.int i t)=true:=by simp[KS,Value.isInt]
theorem sQ(x:Str)(t:Tok):KS (.inr x) (.str x t)=true:=by simp[KS,Value.isStrOf]
theorem ZC6(a b:Int):decide ((Sum.inl a:Key)=Sum.inl b)=(a == b):=by
 by_cases e:a=b
 .subst e;simp
 .have h:¬ (Sum.inl a:Key)=Sum.inl b:=λq=>e (Sum.inl.inj q);rw[uK h];exact(beq_eq_false_iff_ne.mpr e).symm
theorem rS(a b:Str):decide ((Sum.inr a:Key)=Sum.inr b)=decide (a=b):=by
 by_cases e:a=b
 .subst e;simp
 .have h:¬ (Sum.inr a:Key)=Sum.inr b:=λq=>e (Sum.inr.inj q);rw[uK h,uK e]
theorem ZDO(a:Int)(b:Str):decide ((Sum.inl a:Key)=Sum.inr b)=false:=uK (λq=>nomatch q)
theorem ZCZ(a:Str)(b:Int):decide ((Sum.inr a:Key)=Sum.inl b)=false:=uK (λq=>nomatch q)
def Cb(prog:Program)(w:World):PySem.KeyKind prog w Key where
 is:=KS
 hash:=y4 w
 inj:=λv a b g d=>by
  rcases Ie g with⟨i,t,rfl,rfl⟩|⟨x,t,rfl,rfl⟩
  .rcases Ie d with⟨j,u,rfl,e⟩|⟨y,u,rfl,e⟩
   .injection e with e1 _;rw[e1]
   .exact nomatch e
  .rcases Ie d with⟨j,u,rfl,e⟩|⟨y,u,rfl,e⟩
   .exact nomatch e
   .injection e with e1 _;rw[e1]
 byValue:=λk v h=>by
  rcases Ie h with⟨i,t,rfl,rfl⟩|⟨x,t,rfl,rfl⟩ <;> rfl
 pyHash:=λc h=>by
  rcases Ie c with⟨i,t,rfl,rfl⟩|⟨x,t,rfl,rfl⟩
  .exact wpAny_pyHash_int h
  .exact wpAny_pyHash_str h
 eqBool:=λf c h=>by
  rcases Ie f with⟨i,t,rfl,rfl⟩|⟨x,t,rfl,rfl⟩
  .rcases Ie c with⟨j,u,rfl,rfl⟩|⟨y,u,rfl,rfl⟩
   .rw[ZC6]at h;exact wpAny_eqBool_int h
   .rw[ZDO]at h;exact SeqAt.EqAt.int_str i t y u _ _ _ _ h
  .rcases Ie c with⟨j,u,rfl,rfl⟩|⟨y,u,rfl,rfl⟩
   .rw[ZCZ]at h;exact SeqAt.EqAt.str_int x t j u _ _ _ _ h
   .rw[rS]at h;exact wpAny_eqBool_str h
 «strs»:=λk x t v h=>by
  rcases Ie h with⟨i,u,rfl,e⟩|⟨y,u,rfl,e⟩
  .exact nomatch e
  .injection e with e1 _
   subst e1;cases v <;> rfl
theorem vc(prog:Program)(w:World)(i:Int)(t:Tok):(Cb prog w).is (.inl i) (.int i t)=true:=ZGp i t
theorem zb(prog:Program)(w:World)(x:Str)(t:Tok):(Cb prog w).is (.inr x) (.str x t)=true:=sQ x t
inductive V where
 |A9|bl (b:Bool)|int (i:Int)|str (x:Str)|Hl (b:Array UInt8)|KH (b:UInt64)|ref (a:Addr)|ty (n:String)
 deriving DecidableEq
variable{v y:V}{EC vs:List V}
def RelV:V->Value->Prop
 | .A9,u=>u=Value.none
 | .bl b,u=>u=Value.bool b
 | .int i,u=>∃t,u=Value.int i t
 | .str x,u=>∃t,u=Value.str x t
 | .Hl b,u=>∃t,u=Value.bytes b t
 | .KH b,u=>∃t,u=Value.float b t
 | .ref a,u=>u=Value.ref a
 | .ty n,u=>u=Value.type n
abbrev Vals:List V->List Value->Prop:=Paired RelV
theorem Vals.length{xs:List V}{us:List Value}(r:Vals xs us):xs.length=us.length:=pD r
theorem Vals.get:∀{xs:List V}{us:List Value}{i:Nat}{x:V},Vals xs us->xs[i]?=some x->∃u,us[i]?=some u/\RelV x u
 |_,_,_,_,.nil,e=>by simp at e
 |_,_,0,_,.cons r _,e=>by simp at e;subst e;exact⟨_,rfl,r⟩
 |_,_,i+1,x,.cons _ t,e=>by
  obtain⟨u,h1,h2⟩:=Vals.get (i:=i) (x:=x) t (by simpa using e)
  exact⟨u,by simpa using h1,h2⟩
theorem Vals.set{x:V}{u:Value}(r:RelV x u):∀{xs:List V}{us:List Value}(i:Nat),Vals xs us->Vals (xs.set i x) (us.set i u)
 |_,_,_,.nil=>.nil
 |_,_,0,.cons _ t=>.cons r t
 |_,_,i+1,.cons q t=>.cons q (Vals.set r i t)
theorem Vals.append:∀{xs ys:List V}{us ws:List Value},Vals xs us->Vals ys ws->Vals (xs++ys) (us++ws)
 |_,_,_,_,.nil,s=>s
 |_,_,_,_,.cons r t,s=>.cons r (Vals.append t s)
theorem Vals.take:∀{xs:List V}{us:List Value}(n:Nat),Vals xs us->Vals (xs.take n) (us.take n)
 |_,_,0,_=>.nil
 |_,_,_+1,.nil=>.nil
 |_,_,n+1,.cons r t=>.cons r (Vals.take n t)
theorem Vals.drop:∀{xs:List V}{us:List Value}(n:Nat),Vals xs us->Vals (xs.drop n) (us.drop n)
 |_,_,0,r=>r
 |_,_,_+1,.nil=>.nil
 |_,_,n+1,.cons _ t=>Vals.drop n t
def EX:Option V->Option Value->Prop
 |some v,some u=>RelV v u
 |none,none=>True
 |_,_=>False
def KV:List (κ×V)->List (κ×Value)->Prop:=Paired λ(p:κ×V)(q:κ×Value)=>p.1=q.1/\RelV p.2 q.2
noncomputable def kV:Key->V
 | .inl i=>.int i
 | .inr x=>.str x
inductive HO where
 /-- a list -/
 |lst (xs:List V)
 /-- a tuple (never changes) -/
 |tup (xs:List V)
 /-- a dict ZBq keys are ints and texts;one ZBq keys are tuples of ints and texts (Ik empty one is both) -/
 |dK (A6:List (Key×V))|dT (A6:List (List Key×V))
 /-- a set of ints: A5 members,A5 size -/
 |set (S:Int->Bool) (n:Nat)
 /-- an instance of Ik class at C,A5 dict at dx,A5 attributes -/
 |ins (C dx:Addr) (fs:List (Str×V))
 /-- Ik dict of Ik instance at x -/
 |own (x:Addr)
 /-- Ik dict of an exception -/
 |xd (fs:List (Str×V))
 /-- a bound method,f of x -/
 |met (f x:Addr)
 /-- a range object lo,lo+1,.. below hi -/
 |Ta (lo hi:Int)
 /-- a ZDr ZJJ is known to Ik object (Ik km;a dict while a loop walks it): read,never written while it is so -/
 |Fq (o:Obj) (u:HO)
 /-- a code ZJL table -/
 |Ku (ps:Array Value)
 /-- any other ZDr,by ZCg is true of A5 one object (a def of ZJY own: uf a S n:=HO.ext λh=>..) -/
 |ext (φ:Heap->Prop)
variable{o o':HO}
abbrev Hp:=Addr->Option HO
variable{H H':Hp}
noncomputable def upd(H:Hp)(a:Addr)(o:HO):Hp:=λb=>if b=a then some o else H b
theorem AX:upd H a o a=some o:=by unfold upd;rw[tX rfl]
theorem Aa(h:b≠a):upd H a o b=H b:=by unfold upd;rw[qg h]
theorem xu{u:HO}(h:H a=some o)(h':H b=some u)(d:o≠u):a≠b:=by
 intro e;subst e;rw[h]at h';exact d (Bs h')
theorem Dg(h:H a=some o)(h':H b=none):a≠b:=by
 intro e;subst e;rw[h]at h';cases h'
section
variable(P:Program)(w:World)
def CD(H:Hp)(h:Heap)(a:Addr):HO->Prop
 | .lst xs=>xs.length<=sizeLine/\∃(A5:List Value)(n:Nat),Vals xs A5/\h.get? a=some { cls:=.type "list", data:=.seq A5.toArray n }
 | .tup xs=>xs.length<=sizeLine/\∃A5:List Value,Vals xs A5/\(IsTup h a A5.toArray/\∀ob,h.get? a=some ob->ob.dict=none)
 | .dK A6=>A6.length<=sizeLine/\(a == sysModules)=false/\∃vs,KV A6 vs/\h.DictOf (Cb P w) a vs
 | .dT A6=>A6.length<=sizeLine/\(a == sysModules)=false/\∃xs:List (List Key×Addr×Value),
   Paired (λ(p:List Key×V)(q:List Key×Addr×Value)=>p.1=q.1/\H q.2.1=some (.tup (p.1.map kV))/\RelV p.2 q.2.2) A6 xs/\
   ∃o es b,h.get? a=some o/\o.ExactDict/\o.data=.dict es b/\es.toList=xs.map (entryOfKey (tupleKind (Cb P w)))/\(xs.map (·.1)).Nodup
 | .set S n=>h.SetOf (intKind P w) a S n
 | .ins C dx fs=>H dx=some (.own a)/\fs.length<=1000/\dx≠a/\h.get? a=some (PySem.W.instObj C dx)/\
   ∃mA,h.Ns1 dx mA/\(∀f,EX (fs.lookup f) (mA f))/\PySem.Within mA (fs.map (·.1))
 | .own _=>∃o,h.get? a=some o
 | .xd fs=>∃mA,h.Ns1 a mA/\∀f,EX (fs.lookup f) (mA f)
 | .Ta lo hi=>∃t u v,h.get? a=some { cls:=.type "range", data:=.fields #[.int lo t,.int hi u,.int 1 v] }
 | .Fq o u=>h.get? a=some o/\CD H h a u
 | .Ku ps=>h.get? a=some { cls:=.none,data:=.fields ps }
 | .met f x=>h.get? a=some (PySem.W.methodObj (.ref f) (.ref x))
 | .ext φ=>φ h/\(∃o,h.get? a=some o)/\∀h1 h2:Heap,φ h1->(∀o,h1.get? a=some o->h2.get? a=some o)->φ h2
def By(H:Hp)(h:Heap):Prop:=∀a o,H a=some o->CD P w H h a o
end
section
variable{P:Program}{h:Heap}
theorem CD.lt(x:CD P w H h a o):a<h.objs.size:=by
 cases o with
 |lst xs=>obtain⟨_,_,_,_,e⟩:=x;exact BE e
 |tup xs=>obtain⟨_,_,_,p⟩:=x;exact p.1.lt
 |dK A6=>obtain⟨_,_,_,_,o,_,_,e,_⟩:=x;exact BE e
 |dT A6=>obtain⟨_,_,_,_,o,_,_,e,_⟩:=x;exact BE e
 |set S n=>obtain⟨o,_,_,_,e,_⟩:=x;exact BE e
 |ins C dx fs=>obtain⟨_,_,_,e,_⟩:=x;exact BE e
 |own y=>obtain⟨_,e⟩:=x;exact BE e
 |xd fs=>obtain⟨_,⟨_,_,_,e,_⟩,_⟩:=x;exact BE e
 |Ta lo hi=>obtain⟨_,_,_,e⟩:=x;exact BE e
 |Fq ob u=>obtain⟨e,_⟩:=x;exact BE e
 |Ku ps=>exact BE (show h.get? a=some _ from x)
 |met f y=>exact BE (show h.get? a=some _ from x)
 |ext φ=>obtain⟨_,⟨_,e⟩,_⟩:=x;exact BE e
theorem Paired.bQ{α β:Type}{F G:α->β->Prop}:∀{l₁:List α}{l₂:List β},Paired F l₁ l₂->(∀a b,F a b->G a b)->Paired G l₁ l₂
 |_,_,.nil,_=>.nil
 |_,_,.cons r t,f=>.cons (f _ _ r) (Paired.bQ t f)
theorem CD.Hs(x:CD P w H h a o)(k:∀b u,(b=a∨H b=some (.own a))->h.get? b=some u->h'.get? b=some u)
  (ho:∀b,H b=some (.own a)->H' b=some (.own a)) (l:∀b xs,H b=some (.tup xs)->H' b=some (.tup xs)):CD P w H' h' a o:=by
 induction o with
 |lst xs=>obtain⟨z,A5,n,r,e⟩:=x;exact⟨z,A5,n,r,k _ _ (.inl rfl) e⟩
 |tup xs=>obtain⟨z,A5,r,⟨ob,e,c⟩,s⟩:=x;exact⟨z,A5,r,⟨ob,k _ _ (.inl rfl) e,c⟩,λTd i=>by rw[k _ _ (.inl rfl) e]at i;cases i;exact s _ e⟩
 |dK A6=>obtain⟨z,y,vs,r,ob,es,g,e,c⟩:=x;exact⟨z,y,vs,r,ob,es,g,k _ _ (.inl rfl) e,c⟩
 |dT A6=>
  obtain⟨z,y,xs,r,ob,es,g,e,c⟩:=x;exact⟨z,y,xs,Paired.bQ r λp q z=>⟨z.1,l _ _ z.2.1,z.2.2⟩,ob,es,g,k _ _ (.inl rfl) e,c⟩
 |set S n=>obtain⟨ob,es,g,t,e,c⟩:=x;exact⟨ob,es,g,t,k _ _ (.inl rfl) e,c⟩
 |ins C dx fs=>
  obtain⟨d,z,ne,e,mA,⟨od,es,g,m,c⟩,r⟩:=x;exact⟨ho _ d,z,ne,k _ _ (.inl rfl) e,mA,⟨od,es,g,k _ _ (.inr d) m,c⟩,r⟩
 |own y=>obtain⟨ob,e⟩:=x;exact⟨ob,k _ _ (.inl rfl) e⟩
 |xd fs=>obtain⟨mA,⟨od,es,g,e,c⟩,r⟩:=x;exact⟨mA,⟨od,es,g,k _ _ (.inl rfl) e,c⟩,r⟩
 |Ta lo hi=>obtain⟨t,u,v,e⟩:=x;exact⟨t,u,v,k _ _ (.inl rfl) e⟩
 |Fq ob u j=>obtain⟨e,q⟩:=x;exact⟨k _ _ (.inl rfl) e,j q⟩
 |Ku ps=>
  have e:h.get? a=some { cls:=.none,data:=.fields ps }:=x;show h'.get? a=some { cls:=.none,data:=.fields ps };exact k a _ (.inl rfl) e
 |met f y=>
  have e:h.get? a=some (PySem.W.methodObj (.ref f) (.ref y)):=x;show h'.get? a=some (PySem.W.methodObj (.ref f) (.ref y));exact k a _ (.inl rfl) e
 |ext φ=>obtain⟨p,⟨o,e⟩,st⟩:=x;exact⟨st _ _ p λo q=>k _ _ (.inl rfl) q,⟨o,k _ _ (.inl rfl) e⟩,st⟩
theorem By.lt(x:By P w H h)(e:H a=some o):a<h.objs.size:=(x a o e).lt
theorem By.fresh(x:By P w H h)(e:h.objs.size<=a):H a=none:=by
 cases q:H a with
 |none=>rfl
 |some u=>exact absurd (Dn (x.lt q) e) (Mp _)
theorem By.kept(x:By P w H h)(k:∀b u,h.get? b=some u->h'.get? b=some u):By P w H h':=λa o e=>
 (x a o e).Hs (λb u _ q=>k b u q) (λ_ q=>q) λ_ _ q=>q
theorem By.laid(x:By P w H h)(k:∀b u,h.get? b=some u->h'.get? b=some u)(g:h.objs.size<=a)(d:CD P w (upd H a o) h' a o):By P w (upd H a o) h':=λb u e=>by
 have hn:=x.fresh g
 by_cases f:b=a
 .subst f;rw[AX]at e;cases e;exact d
 .rw[Aa f]at e;exact(x b u e).Hs (λc v _ q=>k c v q) (λc q=>by rw[Aa (Dg q hn)];exact q) λc xs q=>by rw[Aa (Dg q hn)];exact q
end
def Rd(H:Hp)(a:Addr)(u:HO):Prop:=H a=some u∨∃o,H a=some (.Fq o u)
theorem Rd.ok{P:Program}{h:Heap}{u:HO}(r:Rd H a u)(x:By P w H h):CD P w H h a u:=by
 rcases r with r|⟨o,r⟩
 .exact x a u r
 .obtain⟨_,q⟩:=x a _ r;exact q
def NM:Option HO->Prop
 |some (.lst _)=>True
 |some (.dK _)=>True
 |some (.dT _)=>True
 |some (.set _ _)=>True
 |some (.ins _ _ _)=>True
 |some (.ext _)=>True
 |_=>False
section
variable{P:Program}{h:Heap}{x e:Addr}
theorem By.write(ok:By P w H h)(a:NM (H x))(m:e=x∨H e=some (.own x))(k:∀b u,b≠e->h.get? b=some u->h'.get? b=some u)(KI:∃u,h'.get? e=some u)
  (i:CD P w (upd H x o') h' x o'):By P w (upd H x o') h':=λb u q=>by
 have l:∀c y,H c=some (.own y)->c≠x:=λc y r z=>by subst z;rw[r]at a;exact a
 have n:∀c xs,H c=some (.tup xs)->c≠x:=λc xs r z=>by subst z;rw[r]at a;exact a
 by_cases f:b=x
 .subst f;rw[AX]at q;cases q;exact i
 .rw[Aa f]at q
  by_cases g:b=e
  .have j:H b=some (.own x):=by
    rcases m with z|z
    .exact absurd (g.trans z) f
    .rw[g];exact z
   rw[q]at j;cases j;obtain⟨v,o⟩:=KI;exact⟨v,by rw[g];exact o⟩
  .refine(ok b u q).Hs (λc v d r=>k c v ?_ r) (λc r=>by rw[Aa (l c b r)];exact r) λc xs r=>by rw[Aa (n c xs r)];exact r
   rcases d with rfl|d
   .exact g
   .rintro rfl;rcases m with z|z
    .exact l c b d z
    .rw[d]at z;cases z;exact f rfl
end
structure Un (fs ex:List Addr) (H H':Hp) (h h':Heap):Prop where
 keep:∀b o,h.get? b=some o->H b=none->b∉fs->b∉ex->h'.get? b=some o
 slot:∀b o,h.get? b=some o->H b=none->b∈fs->b∉ex->∃sl,h'.get? b=some { o with slots:=sl }
 free:∀b o,h.get? b=some o->H b=none->b∉ex->H' b=none
 there:∀b o,h.get? b=some o->b∉ex->∃o',h'.get? b=some o'
 HF:∀b xs,H b=some (.tup xs)->H' b=some (.tup xs)
 GX:∀b o u,H b=some (.Fq o u)->H' b=some (.Fq o u)
 HB:∀b ps,H b=some (.Ku ps)->∃more,H' b=some (.Ku (ps++more))
section
variable{fs OX ex ex':List Addr}{H1 H2:Hp}{h h1 h2:Heap}{x e:Addr}
theorem Un.any(u:Un fs ex H H1 h h1){ob:Obj}(q:h.get? b=some ob)(n:H b=none)(hx:b∉ex):∃sl,h1.get? b=some { ob with slots:=sl }:=by
 by_cases a:b∈fs
 .exact u.slot b ob q n a hx
 .exact⟨ob.slots,u.keep b ob q n a hx⟩
theorem Un.kept(k:∀b u,h.get? b=some u->h'.get? b=some u):Un fs ex H H h h':=
 ⟨λb ob q _ _ _=>k b ob q,λb ob q _ _ _=>⟨ob.slots,k b ob q⟩,λ_ _ _ n _=>n,λb ob q _=>⟨ob,k b ob q⟩,λ_ _ q=>q,λ_ _ _ q=>q,λ_ ps q=>⟨#[],by rw[q];simp⟩⟩
theorem Un.refl:Un fs ex H H h h:=Un.kept λ_ _ q=>q
theorem Un.laid(k:∀b u,h.get? b=some u->h'.get? b=some u)(c:h.objs.size<=a)(hn:H a=none):Un fs ex H (upd H a o) h h' where
 keep:=λb u q _ _ _=>k b u q
 slot:=λb u q _ _ _=>⟨u.slots,k b u q⟩
 free:=λb u q n _=>by rw[Aa (Br (Dn (BE q) c))];exact n
 there:=λb u q _=>⟨u,k b u q⟩
 HF:=λb xs q=>by rw[Aa (Dg q hn)];exact q
 GX:=λb u xs q=>by rw[Aa (Dg q hn)];exact q
 HB:=λb ps q=>⟨#[],by rw[Aa (Dg q hn),q];simp⟩
theorem Un.write(a:NM (H x))(g:e=x∨H e=some (.own x))(k:∀b u,b≠e->h.get? b=some u->h'.get? b=some u)(KI:∃u,h'.get? e=some u):Un fs ex H (upd H x o) h h':=by
 have hx:∀b,H b=none->b≠x:=λb n z=>by subst z;rw[n]at a;exact a
 have d:∀b,H b=none->b≠e:=λb n z=>by
  subst z;rcases g with r|r
  .exact hx b n r
  .rw[n]at r;cases r
 have c:∀b u,H b=some u->¬ NM (some u)->b≠x:=λb u q nm z=>by subst z;rw[q]at a;exact nm a
 refine⟨λb u q n _ _=>k b u (d b n) q,λb u q n _ _=>⟨u.slots,k b u (d b n) q⟩,λb u q n _=>by rw[Aa (hx b n)];exact n,λb u q _=>?_,
  λb xs q=>by rw[Aa (c b _ q λz=>z)];exact q,λb u xs q=>by rw[Aa (c b _ q λz=>z)];exact q,λb ps q=>⟨#[],by rw[Aa (c b _ q λz=>z),q];simp⟩⟩
 by_cases f:b=e
 .subst f;exact KI
 .exact⟨u,k b u f q⟩
end
def Rc(h:Heap)(H:Hp):List Addr:=(List.range h.objs.size).filter λa=>(H a).isSome
def JS(h:Heap)(H:Hp):Heap:=PySem.W.hideAll h (Rc h H)
theorem ZF4(h:Heap)(H:Hp):(JS h H).objs.size=h.objs.size:=PySem.W.hideAll_size _ _
theorem ZHJ{h:Heap}{o:Obj}(e:h.get? b=some o)(n:H b=none):(JS h H).get? b=some o:=
 PySem.W.hideAll_get _ e λa=>by
  have q:(H b).isSome=true:=(List.mem_filter.mp a).2;rw[n]at q;simp at q
theorem xF{h:Heap}{o:Obj}(e:(JS h H).get? b=some o):h.get? b=some o/\H b=none:=by
 have a:h.get? b=some o:=PySem.W.of_hideAll (Rc h H) e;refine⟨a,?_⟩;cases q:H b with
 |none=>rfl
 |some x=>
  have c:b∈Rc h H:=List.mem_filter.mpr ⟨List.mem_range.mpr (BE a),by simp[q]⟩;have z:(JS h H).get? b=none:=PySem.W.hideAll_none (Rc h H) c;rw[z]at e;cases e
structure Mod (K:ZJa) (mg:ZJc) (ZB:Heap):Prop where
 J2:K.In ZB
 glob:ZB.Ns mainGlobals mg
 blt:∃mb,ZB.Ns builtinsNs mb/\∀x:Str,x ≠"__name__" -> mb x=bootBuiltins x
 nolimit:ZB.NoLimit
structure Cx where
 prog:Program
 w:World
 K:ZJa
 mg:ZJc
 base:Heap
 A:Around
 N:List Str
 s₀:Shared
 H₀:Hp
 env:Env
 outer:List Env
 stack:List Env
 ex:List Addr
 fn:Str->Bool
 calm:Bool
 pn:ZJb
 xe:Value->Shared->Prop
variable{X:Cx}
noncomputable def CU(l:List Env):List Addr:=l.filterMap (·.frame)
abbrev Cx.fs(X:Cx):List Addr:=CU X.outer
abbrev Zq1(X:Cx)(x:Str):Prop:=X.fn x=true∨X.env.scope.names.lookup x=some .local
abbrev Zq2(X:Cx){α:Type}(t:Sem α):=wpAny (model X.prog X.w) X.A t
abbrev Ce(X:Cx)(e:Expr)(es:List Expr):Prop:=starEach (e::es) X.env=(false,eval e X.env)::starEach es X.env
abbrev BEq(X:Cx)(pos:Pos)(es:List Expr):Prop:=(backTo pos (starEach es X.env)).any (·.1)=false
def SS(sc:Scope)(x:Str):Prop:=sc.names.lookup x=some .local∨sc.names.lookup x=some .cell∨sc.names.lookup x=some .free
def Loc(sc:Scope)(x:Str):Prop:=sc.names.lookup x=some .local∨sc.names.lookup x=some .cell
def Look(env:Env)(h:Heap)(m:ZJc)(x:Str)(u:Value):Prop:=
 (env.kindOf x=some .local/\m x=some u)∨((env.kindOf x=some .cell∨env.kindOf x=some .free)/\∃c,env.cells.lookup x=some c/\h.IsCell c (some u))
structure Cx.Ok (X:Cx):Prop where
 mod:Mod X.K X.mg X.base
 kind:X.env.scope.kind=.function
 glob:X.env.globals=mainGlobals
 blt:X.env.builtins=builtinsNs
 above:X.s₀.heap.objs.size<=X.env.locals
 inj:∀x y c,X.env.cells.lookup x=some c->X.env.cells.lookup y=some c->x=y
 has:∀x,(X.env.kindOf x=some .cell∨X.env.kindOf x=some .free)->∃c,X.env.cells.lookup x=some c
 LG:∀x c,X.fn x=true->X.env.cells.lookup x=some c->X.s₀.heap.objs.size<=c
 hd:X.calm=true->X.A.handled=none
 frames:X.A.frames=some X.stack
 JA:X.stack=X.outer∨(X.stack=X.env::X.outer/\X.env.frame=some X.env.locals)
 Li:∀b∈X.ex,b≠X.env.locals/\∀x c,X.env.cells.lookup x=some c->c≠b
 bs:∀b o,X.base.get? b=some o->X.s₀.heap.get? b=some o/\X.H₀ b=none
 HW:X.base.objs.size<=X.s₀.heap.objs.size
 Kt:∀b o,X.base.get? b=some o->b∉X.ex
 Kl:∀b∈X.ex,b∉X.fs
 Fc:X.s₀.heap.FunFrames X.base X.outer
 JF:∀b∈X.fs,X.H₀ b=none
structure Inv (X:Cx) (ZA:ZJb) (Z:List (Option V)) (H:Hp) (s:Shared):Prop where
 ok:X.Ok
 os:s.os=X.s₀.os
 bare:AllBare s.gens
 base:Un X.fs X.ex X.H₀ H X.s₀.heap s.heap
 loc:∃m,s.heap.Ns X.env.locals m/\∀(i:Nat)(x:Str)(v:V),X.N[i]?=some x->Z[i]?=some (some v)->SS X.env.scope x->∃u,RelV v u/\Look X.env s.heap m x u
 cell:∀x c,X.env.cells.lookup x=some c->∃v,s.heap.IsCell c v
 free:H X.env.locals=none
 EU:∀x c,X.env.cells.lookup x=some c->H c=none
 pin:∀p∈X.pn++ZA,s.heap.get? p.1=some p.2/\H p.1=none/\p.1≠X.env.locals/\p.1∉X.fs/\∀v,p.2.data≠.cell v
 AH:By X.prog X.w H s.heap
 len:Z.length=X.N.length
section
variable{Z:List (Option V)}
theorem Cx.Ok.ZF2(ok:X.Ok){o:Obj}(e:X.base.get? b=some o):b∉X.fs:=λa=>by
 have:=(ok.Fc.mem a).1;rw[e]at this;cases this
theorem Inv.bs(I:Inv X ZA Z H s):∀b o,X.base.get? b=some o->s.heap.get? b=some o/\H b=none:=λb o e=>
 ⟨I.base.keep b o (I.ok.bs b o e).1 (I.ok.bs b o e).2 (I.ok.ZF2 e) (I.ok.Kt b o e),I.base.free b o (I.ok.bs b o e).1 (I.ok.bs b o e).2 (I.ok.Kt b o e)⟩
theorem Inv.bk(I:Inv X ZA Z H s):∀b o,X.base.get? b=some o->s.heap.get? b=some o:=λb o e=>(I.bs b o e).1
theorem Inv.mod(I:Inv X ZA Z H s):Mod X.K X.mg X.base:=I.ok.mod
theorem Inv.Bv(I:Inv X ZA Z H s):X.K.In s.heap:=I.ok.mod.J2.keeps I.bk
theorem Inv.lt(I:Inv X ZA Z H s):X.env.locals<s.heap.objs.size:=let ⟨_,hn,_⟩:=I.loc;hn.lt
theorem Inv.sz(I:Inv X ZA Z H s):X.s₀.heap.objs.size<=s.heap.objs.size:=Bi I.ok.above (Oj I.lt)
theorem Inv.ZDN(I:Inv X ZA Z H s)(h:s.heap.objs.size<=a):a∉X.fs:=λb=>by
 obtain⟨_,o,ho,_⟩:=I.ok.Fc.mem b;exact absurd (Dn (BE ho) (Bi I.sz h)) (Mp _)
theorem Inv.Gu(I:Inv X ZA Z H s):∀x c,X.env.cells.lookup x=some c->c≠X.env.locals:=λx c e z=>by
 obtain⟨v,o,ho,hd⟩:=I.cell x c e;obtain⟨m,⟨o',es,a,EW,DY,_⟩,_⟩:=I.loc;rw[z,EW]at ho;cases ho;rw[DY]at hd;cases hd
theorem Inv.Fc(I:Inv X ZA Z H s):s.heap.FunFrames X.base X.outer:=by
 have all:∀(l:List Env),(∀b∈CU l,b∈X.fs)->X.s₀.heap.FunFrames X.base l->s.heap.FunFrames X.base l:=by
  intro l
  induction l with
  |nil=>intro _ _;trivial
  |cons env r g=>
   intro f i;obtain⟨j,⟨L,o,a,hn,ho,hd⟩,h⟩:=i;have d:L∈X.fs:=f L (by unfold CU;rw[VF,a];exact DC);obtain⟨sl,e⟩:=I.base.slot L o ho (I.ok.JF L d) d λz=>I.ok.Kl L z d;exact⟨j,⟨L,_,a,hn,e,hd⟩,g (λb c=>f b (by unfold CU;rw[VF,a];exact Dd _ c)) h⟩
 exact all X.outer (λ_ c=>c) I.ok.Fc
theorem Inv.stack(I:Inv X ZA Z H s):s.heap.FunFrames X.base X.stack:=by
 rcases I.ok.JA with e|⟨e,hf⟩
 .rw[e];exact I.Fc
 .rw[e];obtain⟨m,hn,_⟩:=I.loc;refine .cons (by rw[I.ok.kind];decide) hf hn ?_ I.Fc;exact Oc (Bi I.ok.HW I.ok.above)
theorem Inv.Oo(I:Inv X ZA Z H s):∀b∈CU X.stack,b∈X.env.locals::X.fs:=λb a=>by
 rcases I.ok.JA with e|⟨e,hf⟩
 .rw[e]at a;exact Dd _ a
 .rw[e]at a;unfold CU at a;rw[VF,hf]at a;exact a
theorem Inv.U6(I:Inv X ZA Z H s):∀b∈CU X.stack,H b=none:=λb a=>by
 rcases List.mem_cons.mp (I.Oo b a)with e|a
 .rw[e];exact I.free
 .obtain⟨_,o,ho,_⟩:=I.ok.Fc.mem a;exact I.base.free b o ho (I.ok.JF b a) λz=>I.ok.Kl b z a
theorem Inv.step(I:Inv X ZA Z H s)
  (Ir:∀b∈ch,(b∈X.ex∨X.s₀.heap.objs.size<=b)/\b≠X.env.locals/\(∀x c,X.env.cells.lookup x=some c->c≠b)/\∀p∈X.pn++ZA,p.1≠b)
  (keep:∀b o,b≠X.env.locals->b∉X.fs->b∉ch->s.heap.get? b=some o->H b=none->h'.get? b=some o)
  (slot:∀b o,b≠X.env.locals->b∈X.fs->b∉ch->s.heap.get? b=some o->H b=none->∃sl,h'.get? b=some { o with slots:=sl }) (free:∀b o,b∉ch->s.heap.get? b=some o->H b=none->H' b=none)
  (there:∀b o,b∉ch->s.heap.get? b=some o->∃o',h'.get? b=some o')
  (HF:∀b xs,H b=some (.tup xs)->H' b=some (.tup xs)) (GX:∀b o u,H b=some (.Fq o u)->H' b=some (.Fq o u)) (HB:∀b ps,H b=some (.Ku ps)->∃more,H' b=some (.Ku (ps++more)))
  (ns:∀m,s.heap.Ns X.env.locals m->h'.Ns X.env.locals m) (AH:By X.prog X.w H' h') (hg:AllBare g') :
  Inv X ZA Z H' { s with heap:=h',gens:=g',drawn:=d',toks:=t' }:=by
 have A:∀b o,X.s₀.heap.get? b=some o->b≠X.env.locals:=λb o e=>Br (Dn (BE e) I.ok.above);have t:∀b o,X.s₀.heap.get? b=some o->b∉X.ex->b∉ch:=λb o e hx g=>by
  rcases(Ir b g).1 with z|z
  .exact hx z
  .exact absurd (Dn (BE e) z) (Mp _)
 have a:∀x c,X.env.cells.lookup x=some c->∀v,s.heap.IsCell c v->h'.IsCell c v:=λx c e v AU=>by
  obtain⟨o,ho,hd⟩:=AU;have j:c∉ch:=λz=>(Ir c z).2.2.1 x c e rfl
  by_cases C:c∈X.fs
  .obtain⟨sl,q⟩:=slot c o (I.Gu x c e) C j ho (I.EU x c e);exact⟨_,q,hd⟩
  .exact⟨o,keep c o (I.Gu x c e) C j ho (I.EU x c e),hd⟩
 refine⟨I.ok,I.os,hg,⟨λb o e n g hx=>?_,λb o e n g hx=>?_,λb o e n hx=>?_,λb o e hx=>?_,λb xs e=>HF b xs (I.base.HF b xs e),λb o xs e=>GX b o xs (I.base.GX b o xs e),λb ps e=>?_⟩,?_,λx c e=>?_,?_,λx c e=>?_,λp B=>?_,AH,I.len⟩
 .exact keep b o (A b o e) g (t b o e hx) (I.base.keep b o e n g hx) (I.base.free b o e n hx)
 .obtain⟨sl,f⟩:=I.base.slot b o e n g hx;obtain⟨Vc,h⟩:=slot b _ (A b o e) g (t b o e hx) f (I.base.free b o e n hx);exact⟨Vc,h⟩
 .obtain⟨o',f⟩:=I.base.there b o e hx;exact free b o' (t b o e hx) f (I.base.free b o e n hx)
 .obtain⟨o',f⟩:=I.base.there b o e hx;exact there b o' (t b o e hx) f
 .obtain⟨E,f⟩:=I.base.HB b ps e;obtain⟨D,h⟩:=HB b _ f;exact⟨E++D,by rw[h,Array.append_assoc]⟩
 .obtain⟨m,hn,F⟩:=I.loc;refine⟨m,ns m hn,λi x v f h G=>?_⟩;obtain⟨u,r,l⟩:=F i x v f h G;refine⟨u,r,?_⟩;rcases l with l|⟨k,c,e,z⟩
  .exact .inl l
  .exact .inr ⟨k,c,e,a x c e _ z⟩
 .obtain⟨v,z⟩:=I.cell x c e;exact⟨v,a x c e v z⟩
 .obtain⟨m,⟨o,_,_,ho,_⟩,_⟩:=I.loc;exact free _ o (λz=>(Ir _ z).2.1 rfl) ho I.free
 .obtain⟨v,o,ho,hd⟩:=I.cell x c e;exact free c o (λz=>(Ir c z).2.2.1 x c e rfl) ho (I.EU x c e)
 .obtain⟨e,n,ne,y,d⟩:=I.pin p B;have j:p.1∉ch:=λz=>(Ir p.1 z).2.2.2 p B rfl;exact⟨keep p.1 p.2 ne y j e n,free p.1 p.2 j e n,ne,y,d⟩
theorem Inv.un(I:Inv X ZA Z H s)(u:Un X.fs [] H H' s.heap h')(AH:By X.prog X.w H' h'):Inv X ZA Z H' { s with heap:=h',toks:=t' }:=by
 obtain⟨m,⟨o,es,i,ho,r⟩,_⟩:=id I.loc;obtain⟨sl,f⟩:=u.any ho I.free (by simp);exact I.step (g':=s.gens) (d':=s.drawn) (ch:=[]) (λ_ z=>nomatch z) (λb o _ a _ e n=>u.keep b o e n a (by simp)) (λb o _ a _ e n=>u.slot b o e n a (by simp)) (λb o _ e n=>u.free b o e n (by simp)) (λb o _ e=>u.there b o e (by simp)) u.HF u.GX u.HB (λh d=>by
  obtain⟨o',N1,g,EW,c⟩:=d;rw[ho]at EW;cases EW;exact⟨_,N1,g,f,c⟩) AH I.bare
theorem Inv.call(I:Inv X ZA Z H s)(u:Un (CU X.stack) ch H H' s.heap h')(AH:By X.prog X.w H' h')(h:AllBare g')
  (Ir:∀b∈ch,(b∈X.ex∨X.s₀.heap.objs.size<=b)/\b≠X.env.locals/\(∀x c,X.env.cells.lookup x=some c->c≠b)/\∀p∈X.pn++ZA,p.1≠b) :
  Inv X ZA Z H' { s with heap:=h',gens:=g',drawn:=d',toks:=t' }:=by
 obtain⟨m,⟨o,es,l,ho,r⟩,_⟩:=id I.loc;obtain⟨sl,d⟩:=u.any ho I.free λz=>(Ir _ z).2.1 rfl;exact I.step (ch:=ch) Ir (λb o d i a e n=>u.keep b o e n (λz=>(List.mem_cons.mp (I.Oo b z)).elim d i) a) (λb o _ _ a e n=>u.any e n a) (λb o a e n=>u.free b o e n a) (λb o a e=>u.there b o e a) u.HF u.GX u.HB (λk g=>by
  obtain⟨o',N1,j,EW,f⟩:=g;rw[ho]at EW;cases EW;exact⟨_,N1,j,d,f⟩) AH h
theorem Inv.turned(I:Inv X ZA Z H s)(k:∀b o,b≠it->s.heap.get? b=some o->h'.get? b=some o)(hn:H it=none)(d:it≠X.env.locals)
  (h1:it∈X.ex∨X.s₀.heap.objs.size<=it) (h2:∀x c,X.env.cells.lookup x=some c->c≠it) (i:∀p∈X.pn++ZA,p.1≠it):Inv X ZA Z H { s with heap:=h',toks:=t' }:=by
 have f:∀b u,H b=some u->b≠it:=λb u e z=>by rw[z,hn]at e;cases e
 refine I.step (g':=s.gens) (d':=s.drawn) (ch:=[it]) (λb h=>?_) (λb o _ _ a e _=>k b o (λz=>a (by simp[z])) e) (λb o _ _ a e _=>⟨o.slots,k b o (λz=>a (by simp[z])) e⟩) (λ_ _ _ _ n=>n)
  (λb o a e=>⟨o,k b o (λz=>a (by simp[z])) e⟩) (λ_ _ e=>e) (λ_ _ _ e=>e) (λb ps e=>⟨#[],by rw[e];simp⟩) (λm g=>?_) (λb u e=>?_) I.bare
 .have e:b=it:=by simpa using h
  subst e;exact⟨h1,d,h2,i⟩
 .obtain⟨o,es,j,ho,r⟩:=g;exact⟨o,es,j,k _ o (BU d) ho,r⟩
 .refine(I.AH b u e).Hs (λc v a q=>k c v ?_ q) (λ_ q=>q) λ_ _ q=>q;rcases a with z|z
  .rw[z];exact f b u e
  .exact f c _ z
theorem Inv.tok(I:Inv X ZA Z H s)(t:Nat):Inv X ZA Z H { s with toks:=t }:=I.un (h':=s.heap) (t':=t) Un.refl I.AH
theorem Inv.kept(I:Inv X ZA Z H s)(k:∀b u,s.heap.get? b=some u->h'.get? b=some u):Inv X ZA Z H { s with heap:=h',toks:=t' }:=I.un (Un.kept k) (I.AH.kept k)
theorem Inv.laid(I:Inv X ZA Z H s)(k:∀b u,s.heap.get? b=some u->h'.get? b=some u)(d:s.heap.objs.size<=a)(c:CD X.prog X.w (upd H a o) h' a o):
  Inv X ZA Z (upd H a o) { s with heap:=h',toks:=t' }:=I.un (Un.laid k d (I.AH.fresh d)) (I.AH.laid k d c)
theorem Inv.write{x e:Addr}(I:Inv X ZA Z H s)(c:NM (H x))(d:e=x∨H e=some (.own x))(k:∀b u,b≠e->s.heap.get? b=some u->h'.get? b=some u)(KI:∃u,h'.get? e=some u)
  (a:CD X.prog X.w (upd H x o) h' x o):Inv X ZA Z (upd H x o) { s with heap:=h',toks:=t' }:=I.un (Un.write c d k KI) (I.AH.write c d k KI a)
theorem Inv.dz(I:Inv X ZA Z H s)(h:∀p∈jN,s.heap.get? p.1=some p.2/\H p.1=none/\p.1≠X.env.locals/\p.1∉X.fs/\∀v,p.2.data≠.cell v):Inv X jN Z H s:=
 ⟨I.ok,I.os,I.bare,I.base,I.loc,I.cell,I.free,I.EU,λp a=>(List.mem_append.mp a).elim (λz=>I.pin p (IC _ z)) (h p),I.AH,I.len⟩
theorem Y5(c:N.Nodup)(a:N[i]?=some x)(b:N[j]?=some x):i=j:=by
 obtain⟨h1,e⟩:=List.getElem?_eq_some_iff.mp a;obtain⟨h2,d⟩:=List.getElem?_eq_some_iff.mp b;exact(ZIJ c).mp (e.trans d.symm)
theorem Xd{Q:Unit->Shared->Prop}(I:Inv X ZA Z H s)(W:X.N.Nodup)(hi:X.N[i]?=some x)(hx:Loc X.env.scope x)(r:RelV v u)
  (h:∀s',Inv X ZA (Z.set i (some v)) H s'->(∃a,Heap.SameBut a s.heap s'.heap/\(a=X.env.locals∨X.env.cells.lookup x=some a))->Q () s') (hf:Zq1 X x:=by first|exact .inl rfl|exact .inr rfl|assumption):wpAny M A (storeName X.env x u) Q E s:=by
 obtain⟨m,hn,V⟩:=id I.loc;have XS:(X.env.scope.kind == .class || (X.env.scope.kind == .module && X.env.locals != X.env.globals))=false:=by rw[I.ok.kind];rfl
 have hiσ:i<Z.length:=by rw[I.len];exact(List.getElem?_eq_some_iff.mp hi).1
 have Gu:=I.Gu;have g:∀{a:Addr}{h':Heap},(∃o,s.heap.get? a=some o/\H a=none)->Heap.SameBut a s.heap h'->By X.prog X.w H h':=λ{a h'}ha f b ob e=>by
  obtain⟨_,_,U⟩:=ha;refine(I.AH b ob e).Hs (λc F t q=>(f.2 c ?_).trans q) (λ_ q=>q) λ_ _ q=>q;rintro rfl;rcases t with rfl|t
  .rw[U]at e;cases e
  .rw[U]at t;cases t
 rcases hx with hk|hk
 .refine wpAny_storeName_local hk hn (λh' LO f=>?_) XS;obtain⟨oL,_,_,IP,_⟩:=id hn;refine h _ ⟨I.ok,I.os,I.bare,⟨λb o e n D hx=>?_,λb o e n D hx=>?_,I.base.free,λb o e hx=>?_,I.base.HF,I.base.GX,I.base.HB⟩,⟨_,LO,λj y J l B R=>?_⟩,λy c e=>?_,I.free,I.EU,λp P=>?_,g ⟨oL,IP,I.free⟩ f,by simpa using I.len⟩ ⟨_,f,.inl rfl⟩
  .exact(f.2 b (Br (Dn (BE e) I.ok.above))).trans (I.base.keep b o e n D hx)
  .obtain⟨sl,l⟩:=I.base.slot b o e n D hx;exact⟨sl,(f.2 b (Br (Dn (BE e) I.ok.above))).trans l⟩
  .obtain⟨o',l⟩:=I.base.there b o e hx;exact⟨o',(f.2 b (Br (Dn (BE e) I.ok.above))).trans l⟩
  .by_cases C:j=i
   .subst C;rw[hi]at l;cases l;rw[Cs hiσ]at B;cases B;exact⟨u,r,.inl ⟨hk,by simp⟩⟩
   .rw[CO (BU C)]at B;obtain⟨K,L,q⟩:=V j y J l B R;refine⟨K,L,?_⟩;rcases q with⟨k,e⟩|⟨k,c,e,z⟩
    .refine .inl ⟨k,?_⟩;have:y≠x:=λe=>C (Y5 W l (e▸hi));simp[this,e]
    .exact .inr ⟨k,c,e,z.sameBut f (Gu y c e)⟩
  .obtain⟨F,z⟩:=I.cell y c e;exact⟨F,z.sameBut f (Gu y c e)⟩
  .obtain⟨e,n,ne,O,d⟩:=I.pin p P;exact⟨(f.2 p.1 ne).trans e,n,ne,O,d⟩
 .have S:X.fn x=true:=by
   rcases hf with z|z
   .exact z
   .rw[z]at hk;cases hk
  obtain⟨c,t⟩:=I.ok.has x (.inl hk);obtain⟨F,z⟩:=I.cell x c t;refine wpAny_storeName_cell I.ok.kind hk t z (λh' Mi f=>?_);obtain⟨T,Rr,vo⟩:=id z;refine h { s with heap:=h' } ⟨I.ok,I.os,I.bare,⟨λb o e n D hx=>?_,λb o e n D hx=>?_,I.base.free,λb o e hx=>?_,I.base.HF,I.base.GX,I.base.HB⟩,⟨m,hn.sameBut f (BU (Gu x c t)),λj y J l B R=>?_⟩,λy G e=>?_,I.free,I.EU,λp P=>?_,g ⟨T,Rr,I.EU x c t⟩ f,by simpa using I.len⟩ ⟨c,f,.inr t⟩
  .exact(f.2 b (Br (Dn (BE e) (I.ok.LG x c S t)))).trans (I.base.keep b o e n D hx)
  .obtain⟨sl,l⟩:=I.base.slot b o e n D hx;exact⟨sl,(f.2 b (Br (Dn (BE e) (I.ok.LG x c S t)))).trans l⟩
  .obtain⟨o',l⟩:=I.base.there b o e hx;exact⟨o',(f.2 b (Br (Dn (BE e) (I.ok.LG x c S t)))).trans l⟩
  .by_cases C:j=i
   .subst C;rw[hi]at l;cases l;rw[Cs hiσ]at B;cases B;exact⟨u,r,.inr ⟨.inl hk,c,t,Mi⟩⟩
   .rw[CO (BU C)]at B;obtain⟨K,L,q⟩:=V j y J l B R;refine⟨K,L,?_⟩;rcases q with q|⟨k,G,e,z'⟩
    .exact .inl q
    .refine .inr ⟨k,G,e,z'.sameBut f ?_⟩;rintro rfl;exact C (Y5 W l (I.ok.inj _ _ _ e t▸hi))
  .by_cases Y:G=c
   .subst Y;exact⟨_,Mi⟩
   .obtain⟨w2,σ⟩:=I.cell y G e;exact⟨w2,σ.sameBut f Y⟩
  .obtain⟨e,n,ne,O,d⟩:=I.pin p P;refine⟨(f.2 p.1 ?_).trans e,n,ne,O,d⟩;intro q;rw[q,Rr]at e;have q':T=p.2:=Bs e;exact d F (by rw[<- q'];exact vo)
theorem Zm{Q:Unit->Shared->Prop}(I:Inv X ZA Z H s)(b:X.N.Nodup)(hi:X.N[i]?=some x)(hx:Loc X.env.scope x)(r:RelV v u)
  (h:∀s',Inv X ZA (Z.set i (some v)) H s'->Q () s') (a:Zq1 X x:=by first|exact .inl rfl|exact .inr rfl|assumption):wpAny M A (storeName X.env x u) Q E s:=
 Xd I b hi hx r (λs' I' _=>h s' I') a
theorem Inv.yA(I:Inv X ZA Z H s)(ho:s'.os=s.os)(u:Un (CU X.stack) ch H H' s.heap s'.heap)(AH:By X.prog X.w H' s'.heap)(a:AllBare s'.gens)
  (Ir:∀b∈ch,(b∈X.ex∨X.s₀.heap.objs.size<=b)/\b≠X.env.locals/\(∀x c,X.env.cells.lookup x=some c->c≠b)/\∀p∈X.pn++ZA,p.1≠b):Inv X ZA Z H' s':=by
 obtain⟨h',g',d',t',o'⟩:=s';have e:o'=s.os:=ho;subst e;exact I.call (g':=g') (t':=t') (d':=d') u AH a Ir
end
abbrev XK:=Value->Option Addr->Hp->Prop
abbrev St:=List (Option V)
variable{Z:St}
abbrev VK:=V->Hp->Prop
abbrev TE:=St->Hp->VK->Prop
variable{ta tb tc te:TE}
abbrev TT:=St->Hp->(Bool->Hp->Prop)->Prop
abbrev TA:=St->Hp->(List V->Hp->Prop)->Prop
variable{t:TA}
structure Ends where
 nx:St->Hp->Prop
 rt:VK
 bk:St->Hp->Prop:=λ_ _=>False
 ct:St->Hp->Prop:=λ_ _=>False
abbrev TS:=Ends->St->Hp->Prop
def EP(X:Cx)(ZA:ZJb)(Z:St)(Q:VK)(u:Value)(s':Shared):Prop:=∃v H',Inv X ZA Z H' s'/\RelV v u/\Q v H'
def TP(X:Cx)(ZA:ZJb)(Z:St)(Q:Bool->Hp->Prop)(b:Bool)(s':Shared):Prop:=∃H',Inv X ZA Z H' s'/\Q b H'
def AP(X:Cx)(ZA:ZJb)(Z:St)(Q:List V->Hp->Prop)(us:List Value)(s':Shared):Prop:=∃vs H',Inv X ZA Z H' s'/\Vals vs us/\Q vs H'
def SP(X:Cx)(ZA:ZJb)(D:Ends)(f:Flow)(s':Shared):Prop:=
 match f with
 | .next=>∃ σ' H',Inv X ZA σ' H' s'/\D.nx σ' H'
 | .brk=>∃ σ' H',Inv X ZA σ' H' s'/\D.bk σ' H'
 | .cont=>∃ σ' H',Inv X ZA σ' H' s'/\D.ct σ' H'
 | .ret u=>∃v σ' H',Inv X ZA σ' H' s'/\RelV v u/\D.rt v H'
def PE(X:Cx)(e:Expr)(t:TE):Prop:=
 ∀(ZA:ZJb)(s:Shared)(Z:St)(H:Hp)(Q:VK),Inv X ZA Z H s->t Z H Q->Zq2 X (eval e X.env) (EP X ZA Z Q) X.xe s
def PT(X:Cx)(e:Expr)(t:TT):Prop:=
 ∀(ZA:ZJb)(s:Shared)(Z:St)(H:Hp)(Q:Bool->Hp->Prop),Inv X ZA Z H s->t Z H Q->Zq2 X (isTrue e X.env (eval e X.env)) (TP X ZA Z Q) X.xe s
def PW(X:Cx)(e:Expr)(t:TT):Prop:=
 ∀(a:Sem Value)(ZA:ZJb)(s:Shared)(Z:St)(H:Hp)(Q:Bool->Hp->Prop),Inv X ZA Z H s->t Z H Q->Zq2 X (isTrue e X.env a) (TP X ZA Z Q) X.xe s
theorem PW.pt{t:TT}(h:PW X e t):PT X e t:=h _
def PA(X:Cx)(es:List Expr)(t:TA):Prop:=
 ∀(pos:Pos)(ZA:ZJb)(s:Shared)(Z:St)(H:Hp)(Q:List V->Hp->Prop),Inv X ZA Z H s->t Z H Q->Zq2 X (spliced (backTo pos (starEach es X.env))) (AP X ZA Z Q) X.xe s
def PS(X:Cx)(st:Stmt)(t:TS):Prop:=
 ∀(ZA:ZJb)(s:Shared)(Z:St)(H:Hp)(D:Ends),Inv X ZA Z H s->t D Z H->Zq2 X (exec st X.env) (SP X ZA D) X.xe s
def Dl(X:Cx)(st:List Stmt)(t:TS):Prop:=
 ∀(ZA:ZJb)(s:Shared)(Z:St)(H:Hp)(D:Ends),Inv X ZA Z H s->t D Z H->Zq2 X (execs st X.env) (SP X ZA D) X.xe s
theorem BB{t:Sem α}{Q Q':α->Shared->Prop}(h:wpAny M A t Q E s)(b:∀a s,Q a s->Q' a s):wpAny M A t Q' E s:=ud h b λ_ _ x=>x
theorem PE.k{t:TE}{Q:VK}{Q':Value->Shared->Prop}(a:PE X e t)(I:Inv X ZA Z H s)(h:t Z H Q)(f:∀u s1 x H1,Inv X ZA Z H1 s1->RelV x u->Q x H1->Q' u s1):Zq2 X (eval e X.env) Q' X.xe s:=
 BB (a ZA s Z H Q I h) λu s1 z=>by obtain⟨x,H1,I1,r,q⟩:=z;exact f u s1 x H1 I1 r q
theorem PA.k(pos:Pos){Q:List V->Hp->Prop}{Q':List Value->Shared->Prop}(a:PA X es t)(I:Inv X ZA Z H s)(h:t Z H Q)(f:∀us s1 vs H1,Inv X ZA Z H1 s1->Vals vs us->Q vs H1->Q' us s1):Zq2 X (spliced (backTo pos (starEach es X.env))) Q' X.xe s:=
 BB (a pos ZA s Z H Q I h) λu s1 z=>by obtain⟨x,H1,I1,r,q⟩:=z;exact f u s1 x H1 I1 r q
section
def BW(i:Nat):TE:=λZ H Q=>∃v,Z[i]?=some (some v)/\Q v H
def tC(v:V):TE:=λ_ H Q=>Q v H
theorem jZ(n:X.N[i]?=some x)(g:SS X.env.scope x)(hd:Zq0 x:=by decide)(Ef:(x == ("__classdict__":Str))=false:=by decide):PE X (.Name x pos) (BW i):=by
 intro ZA s Z H Q I h;obtain⟨v,e,h⟩:=h;obtain⟨m,hn,k⟩:=I.loc;obtain⟨u,r,l⟩:=k i x v n e g;have b:EP X ZA Z Q u s:=⟨v,H,I,r,h⟩;rcases l with⟨a,j⟩|⟨a,c,f,d⟩
 .exact wpAny_Name (wpAny_loadName_local I.ok.kind a hn j b) hd
 .rcases a with a|a
  .exact wpAny_Name (wpAny_loadName_cell I.ok.kind a f d b) hd
  .exact wpAny_Name (wpAny_loadName_free I.ok.kind a f d b Ef) hd
def Gl(X:Cx)(x:Str):Prop:=X.env.kindOf x=some .globalImplicit
theorem Je(I:Inv X ZA Z H s)(b:Gl X x)(a:X.mg x=some u)(h:Q u s)
  (hd:Zq0 x:=by decide):Zq2 X (eval (.Name x pos) X.env) Q E s:=
 ZI5 I.ok.kind b (Calls.loadGlobal_global (by rw[I.ok.glob];exact I.mod.glob.keeps I.bk) a h) hd
theorem KY(I:Inv X ZA Z H s)(c:Gl X x)(b:X.mg x=none)(a:bootBuiltins x=some u)(h:Q u s)
  (hn:x ≠"__name__" := by decide) (hd:Zq0 x:=by decide):Zq2 X (eval (.Name x pos) X.env) Q E s:=by
 obtain⟨mb,h1,h2⟩:=I.mod.blt;exact ZI5 I.ok.kind c (Calls.loadGlobal_builtin (by rw[I.ok.glob];exact I.mod.glob.keeps I.bk) b (by rw[I.ok.blt];exact h1.keeps I.bk) ((h2 x hn).trans a) h) hd
theorem ZDg(c:Gl X x)(b:X.mg x=none)(a:bootBuiltins x=some u)(r:RelV v u)(hn:x ≠"__name__" := by decide)(hd:Zq0 x:=by decide):PE X (.Name x pos) (tC v):=
 λ_ _ _ H _ I h=>KY I c b a ⟨v,H,I,r,h⟩ hn hd
variable{a b:Expr}
def PC(X:Cx)(op:CmpOp)(a b:Expr)(t:TE):Prop:=
 ∀(ZA:ZJb)(s:Shared)(Z:St)(H:Hp)(Q:VK),Inv X ZA Z H s->t Z H Q->
  Zq2 X (eval a X.env) (λv d=>Zq2 X (eval b X.env) (λu c=>Zq2 X (compareOp op v u) (EP X ZA Z Q) X.xe c) X.xe d) X.xe s
theorem yP(b:Expr)(h:op≠.In)(h2:op≠.NotIn):behindInMarks op b=false:=by
 have c:(op == CmpOp.In)=false:=by cases op <;> first|rfl|exact absurd rfl h
 have a:(op == CmpOp.NotIn)=false:=by cases op <;> first|rfl|exact absurd rfl h2
 cases b <;> simp[behindInMarks,c,a]
def tB(t:TE):TT:=λZ H Q=>t Z H λx H1=>∃c,x=.bl c/\Q c H1
theorem i9{t:TE}(h:PC X op a b t)(h1:behindInMarks op b=false:=by first|exact yP _ (by decide) (by decide)|rfl):PT X (.Compare a [op] [b] pos) (tB t):=by
 intro ZA s Z H Q I hw;refine wpAny_isTrue_Compare1 (BB (h ZA s Z H _ I hw) λv s1 h1=>BB h1 λu s2 h2=>BB h2 λc g⟨x,H1,I1,e,f⟩=>?_) h1;obtain⟨d,rfl,q⟩:=f;cases e;exact wA ⟨H1,I1,q⟩
variable{tA Jo:TT}
def V7(t u:TT):TT:=λZ H Q=>t Z H λc H1=>if c=true then u Z H1 Q else Q false H1
def YU(t u:TT):TT:=λZ H Q=>t Z H λc H1=>if c=true then Q true H1 else u Z H1 Q
def Tj(t:TT):TT:=λZ H Q=>t Z H λc H1=>Q (!c) H1
def Vj(ta tb:TE):TE:=λZ H Q=>ta Z H λx H1=>∃c,x=.bl c/\if c=true then tb Z H1 Q else Q (.bl false) H1
def Wr(ta tb:TE):TE:=λZ H Q=>ta Z H λx H1=>∃c,x=.bl c/\if c=true then Q (.bl true) H1 else tb Z H1 Q
def Y4(ta:TE):TE:=λZ H Q=>ta Z H λx H1=>∃c,x=.bl c/\Q (.bl (!c)) H1
end
def Ab(K:ZJa)(H:Hp)(a:Addr)(xs:List V):Prop:=
 Rd H a (.lst xs)∨
  ∃(o:Obj)(A5:Array Value)(n:Nat),K.lookup a=some o/\o.cls=.type "list" /\ o.dict=none/\o.data=.seq A5 n/\A5.size<=sizeLine/\Vals xs A5.toList
def AW(K:ZJa)(H:Hp)(a:Addr)(xs:List V):Prop:=
 Rd H a (.tup xs)∨
  ∃(o:Obj)(A5:Array Value)(n:Nat),K.lookup a=some o/\o.cls=.type "tuple" /\ o.data=.seq A5 n/\A5.size<=sizeLine/\Vals xs A5.toList
noncomputable def ZCY:Value->Option V
 | .none=>some .A9
 | .bool b=>some (.bl b)
 | .int i _=>some (.int i)
 | .str x _=>some (.str x)
 | .bytes b _=>some (.Hl b)
 | .float b _=>some (.KH b)
 | .ref a=>some (.ref a)
 | .type n=>some (.ty n)
 |_=>none
theorem RelV.abs{x:V}(r:RelV x u):ZCY u=some x:=by
 cases x with
 |A9=>cases r;rfl
 |bl _=>cases r;rfl
 |int _=>obtain⟨t,rfl⟩:=r;rfl
 |str _=>obtain⟨t,rfl⟩:=r;rfl
 |Hl _=>obtain⟨t,rfl⟩:=r;rfl
 |KH _=>obtain⟨t,rfl⟩:=r;rfl
 |ref _=>cases r;rfl
 |ty _=>cases r;rfl
theorem RelV.inj{x y:V}{u:Value}(r:RelV x u)(q:RelV y u):x=y:=Bs (r.abs.symm.trans q.abs)
theorem Vals.inj:∀{xs ys:List V}{us:List Value},Vals xs us->Vals ys us->xs=ys
 |_,_,_,.nil,.nil=>rfl
 |_,_,_,.cons r t,.cons r' t'=>by rw[r.inj r',Vals.inj t t']
section
variable{xs ys:List V}
theorem Ab.of{K:ZJa}(h:H a=some (.lst xs)):Ab K H a xs:=.inl (.inl h)
theorem AW.of{K:ZJa}(h:H a=some (.tup xs)):AW K H a xs:=.inl (.inl h)
theorem Inv.list(I:Inv X ZA Z H s)(h:Ab X.K H a xs):∃A5:List Value,Vals xs A5/\PlainL s.heap a A5.toArray/\xs.length<=sizeLine:=by
 rcases h with h|⟨o,A5,n,hk,hc,hd,hs,hz,r⟩
 .obtain⟨z,A5,n,r,e⟩:=h.ok I.AH;exact⟨A5,r,⟨_,n,e,rfl,rfl,rfl⟩,z⟩
 .refine⟨A5.toList,r,⟨o,n,I.Bv a o hk,hc,hd,by simpa using hs⟩,?_⟩
  have e:=r.length;simp only[Mj]at e;omega
theorem Inv.tuple(I:Inv X ZA Z H s)(h:AW X.K H a xs):∃A5:List Value,Vals xs A5/\IsTup s.heap a A5.toArray/\xs.length<=sizeLine:=by
 rcases h with h|⟨o,A5,n,hk,hc,hs,hz,r⟩
 .obtain⟨z,A5,r,p⟩:=h.ok I.AH;exact⟨A5,r,p.1,z⟩
 .refine⟨A5.toList,r,⟨o,I.Bv a o hk,hc,n,by simpa using hs⟩,?_⟩
  have e:=r.length;simp only[Mj]at e;omega
theorem Inv.lQ(I:Inv X ZA Z H s)(h:Ab X.K H a xs)(h':Ab X.K H a ys):xs=ys:=by
 obtain⟨A5,r,⟨o,n,e,_,_,d⟩,_⟩:=I.list h;obtain⟨its',c,⟨o',f,b,_,_,d'⟩,_⟩:=I.list h';rw[e]at b;cases b;rw[d]at d';injection d' with d1 _
 have:A5=its':=by simpa using vB Array.toList d1
 subst this;exact r.inj c
theorem Inv.Pg(I:Inv X ZA Z H s)(h:AW X.K H a xs)(h':AW X.K H a ys):xs=ys:=by
 obtain⟨A5,r,⟨o,e,_,n,d⟩,_⟩:=I.tuple h;obtain⟨its',c,⟨o',b,_,f,d'⟩,_⟩:=I.tuple h';rw[e]at b;cases b;rw[d]at d';injection d' with d1 _
 have:A5=its':=by simpa using vB Array.toList d1
 subst this;exact r.inj c
end
noncomputable abbrev Cx.J6(X:Cx)(E:Value->Shared->Prop):Cx:={ X with xe:=E }
noncomputable abbrev Cx.Jn(X:Cx):Cx:=X.J6 λ_ _=>False
theorem Cx.Ok.J6(ok:X.Ok)(E:Value->Shared->Prop):(X.J6 E).Ok:=
 ⟨ok.mod,ok.kind,ok.glob,ok.blt,ok.above,ok.inj,ok.has,ok.LG,ok.hd,ok.frames,ok.JA,ok.Li,ok.bs,ok.HW,ok.Kt,ok.Kl,ok.Fc,ok.JF⟩
theorem Cx.Ok.Kh(ok:(X.J6 E).Ok):X.Ok:=
 ⟨ok.mod,ok.kind,ok.glob,ok.blt,ok.above,ok.inj,ok.has,ok.LG,ok.hd,ok.frames,ok.JA,ok.Li,ok.bs,ok.HW,ok.Kt,ok.Kl,ok.Fc,ok.JF⟩
section
theorem Inv.J6(I:Inv X ZA Z H s)(E:Value->Shared->Prop):Inv (X.J6 E) ZA Z H s:=⟨I.ok.J6 E,I.os,I.bare,I.base,I.loc,I.cell,I.free,I.EU,I.pin,I.AH,I.len⟩
theorem Inv.Kh(I:Inv (X.J6 E) ZA Z H s):Inv X ZA Z H s:=⟨I.ok.Kh,I.os,I.bare,I.base,I.loc,I.cell,I.free,I.EU,I.pin,I.AH,I.len⟩
theorem SP.Kh{D:Ends}{f:Flow}(h:SP (X.J6 E) ZA D f s'):SP X ZA D f s':=by
 cases f with
 |next=>obtain⟨σ',H',I,q⟩:=h;exact⟨σ',H',I.Kh,q⟩
 |brk=>obtain⟨σ',H',I,q⟩:=h;exact⟨σ',H',I.Kh,q⟩
 |cont=>obtain⟨σ',H',I,q⟩:=h;exact⟨σ',H',I.Kh,q⟩
 |ret u=>obtain⟨v,σ',H',I,r,q⟩:=h;exact⟨v,σ',H',I.Kh,r,q⟩
theorem Dl.Jn{st:List Stmt}{t:TS}(h:Dl X.Jn st t):Dl X st t:=λZA s Z H D I hw=>
 ud (h ZA s Z H D (I.J6 _) hw) (λ_ _ q=>q.Kh) λ_ _ z=>False.elim z
variable{st:Stmt}{rest:List Stmt}{t u:TS}
def T1:TS:=λD Z H=>D.nx Z H
def MG(t u:TS):TS:=λD Z H=>t { D with nx:=u D } Z H
theorem Ma:Dl X [] T1:=λ_ _ Z H _ I h=>yc ⟨Z,H,I,h⟩
theorem Gq(h1:PS X st t)(h2:Dl X rest u):Dl X (st::rest) (MG t u):=by
 intro ZA s Z H D I h;refine wpAny_execs_cons (BB (h1 ZA s Z H { D with nx:=u D } I h) λf s1 q=>?_)
 cases f with
 |next=>
  obtain⟨σ',H',I',q⟩:=q;exact h2 ZA s1 σ' H' D I' q
 |ret v=>exact q
 |brk=>exact q
 |cont=>exact q
theorem ZDp(h1:PS X st t):Dl X [st] t:=by
 intro ZA s Z H D I h;refine wpAny_execs_cons (BB (h1 ZA s Z H D I h) λf s1 q=>?_);cases f with
 |next=>exact yc q
 |ret v=>exact q
 |brk=>exact q
 |cont=>exact q
theorem Inv.quiet(I:Inv X ZA Z H s):interactive X.env=false:=by simp[interactive,I.ok.kind]
def Kv(te:TE):TS:=λD Z H=>te Z H λ_ H1=>D.nx Z H1
theorem Lb(c:PE X e te)(b:swapsWith e none pos.line X.env=pure false:=by rfl):PS X (.Expr e pos) (Kv te):=by
 intro ZA s Z H D I h;exact wpAny_Expr_any (BB (c ZA s Z H _ I h) λv s1 AU=>by obtain⟨x,H1,I1,d,a⟩:=AU;exact⟨Z,H1,I1,a⟩) I.quiet b
def Hy(te:TE):TS:=λD Z H=>te Z H D.rt
def NJ(c:TT)(t u:TS):TS:=λD Z H=>c Z H λb H1=>if b=true then t D Z H1 else u D Z H1
end
abbrev TG:=V->St->Hp->(St->Hp->Prop)->Prop
abbrev JJ:=List V->St->Hp->(St->Hp->Prop)->Prop
def PG(X:Cx)(a:Expr)(t:TG):Prop:=
 ∀(ZA:ZJb)(s:Shared)(Z:St)(H:Hp)(v:V)(u:Value)(Q:St->Hp->Prop),Inv X ZA Z H s->RelV v u->t v Z H Q->
  Zq2 X (assign a X.env u) (λ_ s'=>∃ σ' H',Inv X ZA σ' H' s'/\Q σ' H') X.xe s
def Q2(X:Cx)(ts:List Expr)(t:JJ):Prop:=
 ∀(ZA:ZJb)(s:Shared)(Z:St)(H:Hp)(vs:List V)(us:List Value)(Q:St->Hp->Prop),Inv X ZA Z H s->Vals vs us->t vs Z H Q->
  Zq2 X (assignInOrder ((assignEach ts X.env).map (·.2)) us) (λ_ s'=>∃ σ' H',Inv X ZA σ' H' s'/\Q σ' H') X.xe s
abbrev Uq:=V->V->V->Hp->(Hp->Prop)->Prop
def ZX(X:Cx)(t:Uq):Prop:=
 ∀(ZA:ZJb)(s:Shared)(Z:St)(H:Hp)(o i v:V)(a b u:Value)(Q:Hp->Prop),Inv X ZA Z H s->RelV o a->RelV i b->RelV v u->t o i v H Q->
  Zq2 X (setItem a b u) (λ_ s'=>∃H',Inv X ZA Z H' s'/\Q H') X.xe s
abbrev gp:=V->V->Hp->VK->Prop
def pY(X:Cx)(op:Operator)(t:gp):Prop:=
 ∀(ZA:ZJb)(s:Shared)(Z:St)(H:Hp)(x y:V)(v u:Value)(Q:VK),Inv X ZA Z H s->RelV x v->RelV y u->t x y H Q->
  Zq2 X (inplaceOp op v u) (EP X ZA Z Q) X.xe s
def Co(i:Nat):TG:=λv Z H Q=>Q (Z.set i (some v)) H
theorem kU(b:X.N.Nodup)(hi:X.N[i]?=some x)(hx:Loc X.env.scope x)(a:Zq1 X x:=by first|exact .inl rfl|exact .inr rfl|assumption):PG X (.Name x pos) (Co i):=by
 intro ZA s Z H v u Q I r h;exact wpAny_assign_Name (Zm I b hi hx r (λs' I'=>⟨_,H,I',h⟩) a)
def R9:JJ:=λvs Z H Q=>vs=[]/\Q Z H
def IZ(t:TG)(u:JJ):JJ:=λvs Z H Q=>∃v r,vs=v::r/\t v Z H λσ' H'=>u r σ' H' Q
def Qo(K:ZJa)(n:Nat)(t:JJ):TG:=λv Z H Q=>∃a xs,v=.ref a/\AW K H a xs/\xs.length=n/\t xs Z H Q
def XH(to ti:TE)(t:Uq):TG:=λv Z H Q=>to Z H λo H1=>ti Z H1 λi H2=>t o i v H2 λH3=>Q Z H3
def FR(te:TE)(g:TG):TS:=λD Z H=>te Z H λx H1=>g x Z H1 D.nx
def gY(f:Int->Int->Int):gp:=λx y H Q=>∃i j,x=.int i/\y=.int j/\Q (.int (f i j)) H
theorem XI:pY X .Add (gY λi j=>i+j):=by
 intro ZA s Z H x y v u Q I b a h;obtain⟨i,j,d,c,q⟩:=h;subst d;subst c;obtain⟨t,rfl⟩:=b;obtain⟨t',rfl⟩:=a;exact iadd_int ⟨.int _,H,I.tok _,⟨_,rfl⟩,q⟩
def iE(c:TT)(tb:TS):TS:=λD Z H=>∃W:Nat->St->Hp->Prop,(∃m,W m Z H)/\∀m Z H,W m Z H->
 c Z H λb H1=>if b=true then ∃N:St->Hp->Prop,(∀ σ' H',N σ' H'->∃a,a < m/\W a σ' H')/\tb { D with nx:=N,ct:=N,bk:=D.nx } Z H1 else D.nx Z H1
structure It where
 go:Nat->Hp->Prop
 Hh:Nat->Hp->V->Hp->Prop
 stop:Nat->Hp->Prop
def FA(X:Cx)(ZA:ZJb)(H:Hp)(b:Addr):Prop:=
 H b=none/\b≠X.env.locals/\b∉X.fs/\(b∈X.ex∨X.s₀.heap.objs.size<=b)/\(∀x c,X.env.cells.lookup x=some c->c≠b)/\∀p∈X.pn++ZA,p.1≠b
theorem Inv.QZ(I:Inv X ZA Z H s)(a:s.heap.objs.size<=b)(hn:H' b=none):FA X ZA H' b:=by
 refine⟨hn,Ol (Dn I.lt a),I.ZDN a,.inr (Bi I.sz a),λx c e z=>?_,λp d z=>?_⟩
 .obtain⟨v,q⟩:=I.cell x c e;exact absurd (Dn q.lt (by rw[z];exact a)) (Mp _)
 .exact absurd (Dn (BE (I.pin p d).1) (by rw[z];exact a)) (Mp _)
structure Turn (P:Program) (w:World) (K:ZJa) (tg:Expr) (J:It) (fp:List Addr) (it:Addr) (tn:Nat->Heap->Prop):Prop where
 mem:it∈fp
 obj:∀i h,tn i h->∀b∈fp,∃o,h.get? b=some o/\∀v,o.data≠.cell v
 keep:∀i h h',tn i h->(∀b∈fp,∀o,h.get? b=some o->h'.get? b=some o)->tn i h'
 item:∀(X:Cx),X.prog=P->X.w=w->X.K=K->X.calm=true->∀(i:Nat)(ZA:ZJb)(s:Shared)(Z:St)(H:Hp)(E:Value->Shared->Prop),Inv X ZA Z H s->(∀b∈fp,FA X ZA H b)->tn i s.heap->J.go i H->
  wpAny (model P w) X.A (pyNext (.ref it)) (λr s1=>∃u,r=some u/\
   wpAny (model P w) X.A (letOwnedTupleGo tg (.ref it) u) (λ_ s2=>∃x H',Inv X ZA Z H' s2/\RelV x u/\J.Hh i H x H'/\tn (i+1) s2.heap/\∀b∈fp,H' b=none) E s1) E s
 done:∀(X:Cx),X.prog=P->X.w=w->X.K=K->X.calm=true->∀(i:Nat)(ZA:ZJb)(s:Shared)(Z:St)(H:Hp)(E:Value->Shared->Prop),Inv X ZA Z H s->(∀b∈fp,FA X ZA H b)->tn i s.heap->J.stop i H->
  wpAny (model P w) X.A (pyNext (.ref it)) (λr s1=>r=none/\Inv X ZA Z H s1) E s
 self:∀(A:Around)(i:Nat)(s:Shared)(Q:Value->Shared->Prop)(E:Value->Shared->Prop),tn i s.heap->Q (.ref it) s->wpAny (model P w) A (pyIter (.ref it)) Q E s
abbrev TI:=St->Hp->(It->Hp->Prop)->Prop
def dq(X:Cx)(ZA:ZJb)(Z:St)(tg:Expr)(R:It->Hp->Prop)(Tv:Value)(s2:Shared):Prop:=
 ∃(it:Addr)(fp:List Addr)(tn:Nat->Heap->Prop)(J:It)(H':Hp),Tv=.ref it/\Inv X ZA Z H' s2/\Turn X.prog X.w X.K tg J fp it tn/\tn 0 s2.heap/\(∀b∈fp,FA X ZA H' b)/\R J H'
def PI(X:Cx)(tg iter:Expr)(wi:TI):Prop:=
 ∀(ZA:ZJb)(s:Shared)(Z:St)(H:Hp)(R:It->Hp->Prop),Inv X ZA Z H s->wi Z H R->
  Zq2 X (eval iter X.env) (λv s1=>Zq2 X (pyIter v) (dq X ZA Z tg R) X.xe s1) X.xe s
theorem Ra{o:Obj}{n:String}{vs:Array Value}{Q:Unit->Shared->Prop}(ho:s.heap.get? it=some o)(b:o.cls=.type n)(hd:o.data=.fields vs)
  (hn:["enumerate","zip","dict_itemiterator","dict_reverseitemiterator","odict_iterator","itertools.zip_longest","itertools.pairwise"].contains n=false) (a:Q () s):wpAny M A (letOwnedTupleGo tg (.ref it) u) Q E s:=by
 unfold letOwnedTupleGo;cases tg <;> first
  |exact qm a
  | (cases u <;> first
    |exact qm a
    | (
      refine pK (wpAny_load ho ?_);rw[b,hd];show wpAny M A (if(["enumerate","zip","dict_itemiterator","dict_reverseitemiterator","odict_iterator","itertools.zip_longest","itertools.pairwise"].contains n && vs[0]? == some (rawInt _))=true then _ else _) Q E s
      rw[qg (by intro h;rw[hn,Bool.false_and]at h;cases h)];exact qm a))
noncomputable def zO(K:ZJa)(a:Addr):It:=
 ⟨λi H=>∃xs x,Ab K H a xs/\xs[i]?=some x,λi H x H'=>H'=H/\∀xs,Ab K H a xs->xs[i]?=some x,λi H=>∃xs,Ab K H a xs/\xs.length<=i⟩
noncomputable def uZ(K:ZJa)(a:Addr):It:=
 ⟨λi H=>∃xs x,AW K H a xs/\xs[i]?=some x,λi H x H'=>H'=H/\∀xs,AW K H a xs->xs[i]?=some x,λi H=>∃xs,AW K H a xs/\xs.length<=i⟩
noncomputable def Me(lo:Int)(n:Nat):It:=⟨λi _=>i<n,λi H x H'=>H'=H/\x=.int (lo+i),λi _=>n<=i⟩
theorem Pt{P:Program}{K:ZJa}(a it:Addr):Turn P w K tg (zO K a) [it] it (λi h=>h.IsListIter it a i) where
 mem:=by simp
 obj:=λi h st b f=>by
  have e:b=it:=by simpa using f
  subst e;obtain⟨o,e,c,d⟩:=st;exact⟨o,e,λv z=>by rw[d]at z;cases z⟩
 keep:=λi h h' st k=>st.at λo e=>k it (by simp) o e
 item:=by
  intro X n hw q B i ZA s Z H E I j st m;subst n hw q;obtain⟨xs,x,g,hx⟩:=m;obtain⟨A5,l,p,F⟩:=I.list g;obtain⟨u,J,D⟩:=l.get hx;obtain⟨f0,A,L,y,t,r⟩:=j it (by simp);refine wpAny_pyNext_list_item st p.isList (x:=u) (by simpa using J) λh' AG C=>?_
  have N:Inv X ZA Z H { s with heap:=h' }:=I.turned (t':=s.toks) (λb o f e=>(C.2 b f).trans e) f0 A y t r
  obtain⟨o,e,c,d⟩:=id AG;exact⟨u,rfl,Ra (s:={ s with heap:=h' }) e c d (by decide) ⟨x,H,N,D,⟨rfl,λys G=>by rw[I.lQ G g];exact hx⟩,AG,λb f=>(j b f).1⟩⟩
 done:=by
  intro X n hw q B i ZA s Z H E I j st m;subst n hw q;obtain⟨xs,g,hx⟩:=m;obtain⟨A5,l,p,F⟩:=I.list g;obtain⟨f0,A,L,y,t,r⟩:=j it (by simp);have O:=l.length;exact wpAny_pyNext_list_end (I.ok.hd B) st p.isList (by simp;omega) λh' M=>⟨rfl,I.turned (t':=s.toks) (λb o f e=>M b o f e) f0 A y t r⟩
 self:=λ_ _ _ _ _ st h=>wpAny_pyIter_listiter st h
theorem Q3{P:Program}{K:ZJa}(a it:Addr):Turn P w K tg (uZ K a) [it] it (λi h=>h.IsTupleIter it a i) where
 mem:=by simp
 obj:=λi h st b f=>by
  have e:b=it:=by simpa using f
  subst e;obtain⟨o,e,c,d⟩:=st;exact⟨o,e,λv z=>by rw[d]at z;cases z⟩
 keep:=λi h h' st k=>st.at λo e=>k it (by simp) o e
 item:=by
  intro X n hw q B i ZA s Z H E I j st m;subst n hw q;obtain⟨xs,x,g,hx⟩:=m;obtain⟨A5,l,p,F⟩:=I.tuple g;obtain⟨u,J,D⟩:=l.get hx;obtain⟨f0,A,L,y,t,r⟩:=j it (by simp);refine wpAny_pyNext_tuple_item st (show s.heap.IsTuple a A5.toArray from p) (x:=u) (by simpa using J) λh' AG C=>?_
  have N:Inv X ZA Z H { s with heap:=h' }:=I.turned (t':=s.toks) (λb o f e=>(C.2 b f).trans e) f0 A y t r
  obtain⟨o,e,c,d⟩:=id AG;exact⟨u,rfl,Ra (s:={ s with heap:=h' }) e c d (by decide) ⟨x,H,N,D,⟨rfl,λys G=>by rw[I.Pg G g];exact hx⟩,AG,λb f=>(j b f).1⟩⟩
 done:=by
  intro X n hw q B i ZA s Z H E I j st m;subst n hw q;obtain⟨xs,g,hx⟩:=m;obtain⟨A5,l,p,F⟩:=I.tuple g;obtain⟨f0,A,L,y,t,r⟩:=j it (by simp);have O:=l.length;exact wpAny_pyNext_tuple_end (I.ok.hd B) st (show s.heap.IsTuple a A5.toArray from p) (by simp;omega) λh' M=>⟨rfl,I.turned (t':=s.toks) (λb o f e=>M b o f e) f0 A y t r⟩
 self:=λ_ _ _ _ _ st h=>wpAny_pyIter_tupleiter st h
theorem yI{P:Program}{K:ZJa}(it:Addr)(lo:Int)(n:Nat):Turn P w K tg (Me lo n) [it] it (λi h=>IsRangeIter h it (lo+(i:Nat) * 1) ((n:Int) - (i:Nat)) 1) where
 mem:=by simp
 obj:=λi h st b a=>by
  have e:b=it:=by simpa using a
  subst e;exact⟨_,st,λv z=>by
   have r:Data.fields _=Data.cell v:=z;cases r⟩
 keep:=λi h h' st k=>k it (by simp) _ st
 item:=by
  intro X g hw j f i ZA s Z H E I c st d;subst g hw j;obtain⟨f0,q,x,p,m,l⟩:=c it (by simp);have W:=Walks.range (prog:=X.prog) (w:=X.w) (I.ok.hd f) it lo 1 n;refine W.item i s _ _ d st λv h' tk u AG kk=>?_;obtain⟨t,rfl⟩:=u;have A:Inv X ZA Z H { s with heap:=h',toks:=tk }:=I.turned (λb o a e=>kk b o (by simpa using a) e) f0 q p m l
  refine⟨_,rfl,Ra (s:={ s with heap:=h',toks:=tk }) (n:="range_iterator") AG rfl rfl (by decide) ⟨.int (lo+i),H,A,⟨t,?_⟩,⟨rfl,rfl⟩,AG,λb a=>(c b a).1⟩⟩
  rw[Int.mul_one]
 done:=by
  intro X g hw j f i ZA s Z H E I c st d;subst g hw j;obtain⟨f0,q,x,p,m,l⟩:=c it (by simp);exact wpAny_pyNext_range_end (I.ok.hd f) st (by have:n<=i:=d;omega) λh' y=>⟨rfl,I.turned (t':=s.toks) (λb o a e=>y b o a e) f0 q p m l⟩
 self:=λ_ _ _ _ _ st h=>wpAny_pyIter_rangeiter st h
theorem nX{R:It->Hp->Prop}{lo hi:Int}{t u v:Tok}(I:Inv X ZA Z H s)(h1:-(2 ^ 62)<=lo)(h2:lo<2 ^ 62)(f:-(2 ^ 62)<=hi)(d:hi<2 ^ 62)
  (q:R (Me lo (hi - lo).toNat) H):Zq2 X (pyIter (.ref s.heap.objs.size)) (dq X ZA Z tg R) E { s with heap:=s.heap.push { cls:=.type "range", data:=.fields #[.int lo t,.int hi u,.int 1 v] },toks:=tk }:=by
 refine wpAny_pyIter_range (IsRange.new ..) (small_one h1 h2 f d) ?_;have a:Inv X ZA Z H { s with heap:=s.heap.push { cls:=.type "range", data:=.fields #[.int lo t,.int hi u,.int 1 v] },toks:=tk }:=I.kept λb o e=>Bf _ e
 refine⟨(s.heap.push { cls:=.type "range", data:=.fields #[.int lo t,.int hi u,.int 1 v] }).objs.size,[(s.heap.push { cls:=.type "range", data:=.fields #[.int lo t,.int hi u,.int 1 v] }).objs.size],_,_,H,rfl,
  a.kept (t':=tk) λb o e=>Bf _ e,yI _ lo (hi - lo).toNat,?_,λb c=>?_,q⟩
 .have h:lo+((0:Nat):Int) * 1=lo:=by simp
  have g:(((hi - lo).toNat:Nat):Int) - ((0:Nat):Int)=Builtin.Range.rangeSize lo hi 1:=by rw[rangeSize_one];split <;> omega
  show IsRangeIter _ _ (lo+((0:Nat):Int) * 1) ((((hi - lo).toNat:Nat):Int) - ((0:Nat):Int)) 1;rw[h,g];exact CK _ rfl
 .have e:b=(s.heap.push { cls:=.type "range", data:=.fields #[.int lo t,.int hi u,.int 1 v] }).objs.size:=by simpa using c
  subst e;exact a.QZ (B4 _) (a.AH.fresh (B4 _))
def bB(ta:TA):TI:=λZ H R=>ta Z H λvs H1=>∃j:Int,vs=[.int j]/\-(2 ^ 62)<=j/\j<2 ^ 62/\R (Me 0 j.toNat) H1
def cN(ta:TA):TI:=λZ H R=>ta Z H λvs H1=>∃i j:Int,vs=[.int i,.int j]/\(-(2 ^ 62)<=i/\i<2 ^ 62/\-(2 ^ 62)<=j/\j<2 ^ 62)/\R (Me i (j - i).toNat) H1
def ZD(wi:TI)(g:TG)(tb:TS):TS:=λD Z H=>wi Z H λJ H1=>∃W:Nat->Nat->St->Hp->Prop,(∃m,W 0 m Z H1)/\∀i m Z H,W i m Z H->
 (J.stop i H/\D.nx Z H)∨(J.go i H/\∃N:St->Hp->Prop,(∀ σ' H',N σ' H'->∃a,a < m/\W (i+1) a σ' H')/\∀x H',J.Hh i H x H'->g x Z H' λσ2 H2=>tb { D with nx:=N,ct:=N,bk:=D.nx } σ2 H2)
noncomputable def Pe(fp:List Addr)(h:Heap):ZJb:=fp.filterMap λb=>(h.get? b).map λo=>(b,o)
theorem Tz{h:Heap}{o:Obj}(a:b∈fp)(e:h.get? b=some o):(b,o)∈Pe fp h:=List.mem_filterMap.mpr ⟨b,a,by rw[e];rfl⟩
theorem vm{h:Heap}{p:Addr×Obj}(a:p∈Pe fp h):p.1∈fp/\h.get? p.1=some p.2:=by
 obtain⟨b,c,e⟩:=List.mem_filterMap.mp a;cases q:h.get? b with
 |none=>rw[q]at e;cases e
 |some o=>
  rw[q]at e;have d:(b,o)=p:=Bs e;subst d;exact⟨c,q⟩
theorem Inv.pinned(I:Inv X ZA Z H s)(g:∀b∈fp,FA X ZA H b)(ho:∀b∈fp,∃o,s.heap.get? b=some o/\∀v,o.data≠.cell v):Inv X (ZA++Pe fp s.heap) Z H s:=
 I.dz λp f=>(List.mem_append.mp f).elim (λz=>I.pin p (G5 _ z)) λz=>by
  obtain⟨a,e⟩:=vm z;obtain⟨f0,i,h,_⟩:=g p.1 a;obtain⟨o,c,d⟩:=ho p.1 a;rw[e]at c;cases c;exact⟨e,f0,i,h,d⟩
theorem Inv.PM{pl:ZJb}(I:Inv X (ZA++pl) Z H s):Inv X ZA Z H s:=I.dz λp a=>I.pin p (G5 _ (IC _ a))
theorem uu{lo:Int}{g:TG}{tb:TS}{D:Ends}(Pv:Nat->St->Hp->Prop)(f:Pv 0 Z H)
  (d:∀i Z H,i<n->Pv i Z H->g (.int (lo+i)) Z H λσ2 H2=>tb { D with nx:=Pv (i+1),ct:=Pv (i+1),bk:=D.nx } σ2 H2) (hd:∀ Z H,Pv n Z H->D.nx Z H) :
  ∃W:Nat->Nat->St->Hp->Prop,(∃m,W 0 m Z H)/\∀i m Z H,W i m Z H->
   ((Me lo n).stop i H/\D.nx Z H)∨((Me lo n).go i H/\∃N:St->Hp->Prop,(∀ σ' H',N σ' H'->∃b,b < m/\W (i+1) b σ' H')/\∀x H',(Me lo n).Hh i H x H'->g x Z H' λσ2 H2=>tb { D with nx:=N,ct:=N,bk:=D.nx } σ2 H2):=by
 refine⟨λi m Z H=>m=n - i/\i<=n/\Pv i Z H,⟨n,by simp,Ct _,f⟩,?_⟩;rintro i m Z H⟨rfl,hi,p⟩
 by_cases a:i<n
 .refine .inr ⟨a,Pv (i+1),λσ' H' c=>⟨n - (i+1),by omega,rfl,a,c⟩,λx H' y=>?_⟩;obtain⟨e,y⟩:=y;subst e y;exact d i Z _ a p
 .have e:i=n:=by omega
  subst e;exact .inl ⟨B4 _,hd Z H p⟩
abbrev R2:=V->V->Hp->VK->Prop
def Bc(X:Cx)(f:Value->Value->Sem Value)(r:R2):Prop:=
 ∀(ZA:ZJb)(s:Shared)(Z:St)(H:Hp)(x y:V)(v u:Value)(Q:VK),Inv X ZA Z H s->RelV x v->RelV y u->r x y H Q->
  Zq2 X (f v u) (EP X ZA Z Q) X.xe s
def SE(X:Cx)(f:Value->Sem Value)(r:V->Hp->VK->Prop):Prop:=
 ∀(ZA:ZJb)(s:Shared)(Z:St)(H:Hp)(x:V)(v:Value)(Q:VK),Inv X ZA Z H s->RelV x v->r x H Q->
  Zq2 X (f v) (EP X ZA Z Q) X.xe s
def DQ(X:Cx)(f:Value)(r:List V->Hp->VK->Prop):Prop:=
 ∀(ZA:ZJb)(s:Shared)(Z:St)(H:Hp)(xs:List V)(us:List Value)(Q:VK),Inv X ZA Z H s->Vals xs us->r xs H Q->
  Zq2 X (call f us) (EP X ZA Z Q) X.xe s
def CB(r:R2)(ta tb:TE):TE:=λZ H Q=>ta Z H λx H1=>tb Z H1 λy H2=>r x y H2 Q
def VT(r:V->Hp->VK->Prop)(ta:TE):TE:=λZ H Q=>ta Z H λx H1=>r x H1 Q
def rI(C:Int->Int->Prop)(g:Int->Int->V):R2:=λx y H Q=>∃i j,x=.int i/\y=.int j/\C i j/\Q (g i j) H
def HY(g:Int->Int->V):R2:=λx y H Q=>∃i j,x=.int i/\y=.int j/\Q (g i j) H
def rU(g:Int->V):V->Hp->VK->Prop:=λx H Q=>∃i,x=.int i/\Q (g i) H
section
variable{a b c:Expr}
theorem YN(m:PE X a ta)(l:PE X b tb){R:V->V->Hp->Prop}(I:Inv X ZA Z H s)
  (h:ta Z H λx H1=>tb Z H1 λy H2=>R x y H2)
  (k:∀v u s2 x y H2,Inv X ZA Z H2 s2->RelV x v->RelV y u->R x y H2->Zq2 X (f v u) Q X.xe s2) :
  Zq2 X (eval a X.env) (λv d=>Zq2 X (eval b X.env) (λu c=>Zq2 X (f v u) Q X.xe c) X.xe d) X.xe s:=by
 refine BB (m ZA s Z H _ I h) λv s1 ZK=>?_;obtain⟨x,H1,I1,g,j⟩:=ZK;refine BB (l ZA s1 Z H1 _ I1 j) λu s2 WY=>?_;obtain⟨y,H2,I2,e,i⟩:=WY;exact k v u s2 x y H2 I2 g e i
theorem Ub{C:Int->Int->Prop}{g:Int->Int->Int}
  (rule:∀(i j:Int)(t u:Tok)(s:Shared)(Q:Value->Shared->Prop)(E:Value->Shared->Prop),C i j->Q (.int (g i j) s.toks) { s with toks:=s.toks+1 }->Zq2 X (f (.int i t) (.int j u)) Q E s) :
  Bc X f (rI C λi j=>.int (g i j)):=by
 intro ZA s Z H x y v u Q I b a h;obtain⟨i,j,rfl,rfl,c,q⟩:=h;obtain⟨t,rfl⟩:=b;obtain⟨t',rfl⟩:=a;exact rule i j t t' s _ _ c ⟨.int (g i j),H,I.tok _,⟨_,rfl⟩,q⟩
theorem eA{g:Int->Int->Int}
  (rule:∀(i j:Int)(t u:Tok)(s:Shared)(Q:Value->Shared->Prop)(E:Value->Shared->Prop),Q (.int (g i j) s.toks) { s with toks:=s.toks+1 }->Zq2 X (f (.int i t) (.int j u)) Q E s) :
  Bc X f (HY λi j=>.int (g i j)):=by
 intro ZA s Z H x y v u Q I b a h;obtain⟨i,j,rfl,rfl,q⟩:=h;obtain⟨t,rfl⟩:=b;obtain⟨t',rfl⟩:=a;exact rule i j t t' s _ _ ⟨.int (g i j),H,I.tok _,⟨_,rfl⟩,q⟩
theorem RM{g:Int->Int->Bool}
  (rule:∀(i j:Int)(t u:Tok)(s:Shared)(Q:Value->Shared->Prop)(E:Value->Shared->Prop),Q (.bool (g i j)) s->Zq2 X (f (.int i t) (.int j u)) Q E s) :
  Bc X f (HY λi j=>.bl (g i j)):=by
 intro ZA s Z H x y v u Q I b a h;obtain⟨i,j,rfl,rfl,q⟩:=h;obtain⟨t,rfl⟩:=b;obtain⟨t',rfl⟩:=a;exact rule i j t t' s _ _ ⟨.bl (g i j),H,I,rfl,q⟩
def zX(i j:Int):Prop:=0<=j/\j<=1000000/\i.natAbs<2 ^ 64
theorem DO:Bc X (binaryOp .Add) (HY λi j=>.int (i+j)):=eA λ_ _ _ _ _ _ _ q=>add_int q
theorem Nu:Bc X (binaryOp .Sub) (HY λi j=>.int (i - j)):=eA λ_ _ _ _ _ _ _ q=>sub_int q
theorem KR:Bc X (binaryOp .Mod) (rI (λ_ j=>0<j) λi j=>.int (i % j)):=Ub λi j _ _ _ _ _ a q=>by
 have h1:(0:Int)<j:=a;exact mod_int' (by omega) (by rw[Int.fmod_eq_emod_of_nonneg i (by omega)];exact q)
theorem MM:Bc X (binaryOp .Pow) (rI zX λi j=>.int (i ^ j.toNat)):=Ub λ_ _ _ _ _ _ _ a q=>pow_int_small a.1 a.2.1 a.2.2 q
theorem unI{f:Value->Sem Value}{g:Int->Int}
  (rule:∀(i:Int)(t:Tok)(s:Shared)(Q:Value->Shared->Prop)(E:Value->Shared->Prop),Q (.int (g i) s.toks) { s with toks:=s.toks+1 }->Zq2 X (f (.int i t)) Q E s) :
  SE X f (rU λi=>.int (g i)):=by
 intro ZA s Z H x v Q I a h;obtain⟨i,rfl,q⟩:=h;obtain⟨t,rfl⟩:=a;exact rule i t s _ _ ⟨.int (g i),H,I.tok _,⟨_,rfl⟩,q⟩
theorem gN:SE X (unaryOp .USub) (rU λi=>.int (-i)):=unI λ_ _ _ _ _ q=>neg_int q
end
noncomputable def aB:V->V->Bool
 | .A9,.A9=>true | .A9,.int _=>true | .int _,.A9=>true | .A9,.bl _=>true | .bl _,.A9=>true | .A9,.str _=>true | .str _,.A9=>true
 | .int _,.int _=>true | .bl _,.bl _=>true | .str _,.str _=>true | .Hl _,.Hl _=>true
 | .int _,.str _=>true | .str _,.int _=>true | .bl _,.str _=>true | .str _,.bl _=>true
 |_,_=>false
def iW:R2:=λx y H Q=>aB x y=true/\Q (.bl (decide (x=y))) H
def jY:R2:=λx y H Q=>aB x y=true/\Q (.bl (!decide (x=y))) H
theorem hZ{i j:Int}:decide (V.int i=V.int j)=(i == j):=by
 rw[Ob];simp
theorem nh{i j:Bool}:decide (V.bl i=V.bl j)=(i == j):=by
 rw[Ob];simp
theorem eE{i j:Str}:decide (V.str i=V.str j)=(i == j):=by
 rw[Ob];simp
theorem kO{i j:Array UInt8}:decide (V.Hl i=V.Hl j)=(i.toList == j.toList):=by
 rw[Ob];cases i;cases j;simp
section
variable{a b c:Expr}
theorem C7{Q:VK}{k k':Bool}(I:Inv X ZA Z H s)(q:Q (.bl k) H)(e:k=k'):EP X ZA Z Q (.bool k') s:=by
 subst e;exact⟨.bl k,H,I,rfl,q⟩
theorem BR:Bc X (compareOp .Eq) iW:=by
 intro ZA s Z H x y v u Q I c a h;obtain⟨b,q⟩:=h;cases x with
 |A9=>
  cases c;cases y with
  |A9=>cases a;exact PySem.EqNone.eq_none_none (C7 I q (by simp))
  |bl j=>cases a;exact PySem.EqNone.eq_none_bool (C7 I q (by simp))
  |int j=>obtain⟨t',rfl⟩:=a;exact PySem.EqNone.eq_none_int (C7 I q (by simp))
  |str j=>obtain⟨t',rfl⟩:=a;exact PySem.EqNone.eq_none_str (C7 I q (by simp))
  |_=>exact absurd (show false=true from b) Dc
 |bl i=>
  cases c;cases y with
  |A9=>cases a;exact PySem.EqNone.eq_bool_none (C7 I q (by simp))
  |bl j=>cases a;exact eq_bool (C7 I q nh)
  |str j=>obtain⟨t',rfl⟩:=a;exact PySem.EqMixed.eq_bool_str (C7 I q (by simp))
  |_=>exact absurd (show false=true from b) Dc
 |int i=>
  obtain⟨t,rfl⟩:=c;cases y with
  |A9=>cases a;exact PySem.EqNone.eq_int_none (C7 I q (by simp))
  |int j=>obtain⟨t',rfl⟩:=a;exact eq_int (C7 I q hZ)
  |str j=>obtain⟨t',rfl⟩:=a;exact PySem.EqMixed.eq_int_str (C7 I q (by simp))
  |_=>exact absurd (show false=true from b) Dc
 |str i=>
  obtain⟨t,rfl⟩:=c;cases y with
  |A9=>cases a;exact PySem.EqNone.eq_str_none (C7 I q (by simp))
  |bl j=>cases a;exact PySem.EqMixed.eq_str_bool (C7 I q (by simp))
  |int j=>obtain⟨t',rfl⟩:=a;exact PySem.EqMixed.eq_str_int (C7 I q (by simp))
  |str j=>obtain⟨t',rfl⟩:=a;exact eq_str (C7 I q eE)
  |_=>exact absurd (show false=true from b) Dc
 |Hl i=>
  obtain⟨t,rfl⟩:=c;cases y with
  |Hl j=>obtain⟨t',rfl⟩:=a;exact PySem.W.eq_bytes (C7 I q kO)
  |_=>exact absurd (show false=true from b) Dc
 |_=>cases y <;> exact absurd (show false=true from b) Dc
theorem Js:Bc X (compareOp .NotEq) jY:=by
 intro ZA s Z H x y v u Q I c a h;obtain⟨b,q⟩:=h;cases x with
 |A9=>
  cases c;cases y with
  |A9=>cases a;exact PySem.EqNone.ne_none_none (C7 I q (by simp))
  |bl j=>cases a;exact PySem.EqNone.ne_none_bool (C7 I q (by simp))
  |int j=>obtain⟨t',rfl⟩:=a;exact PySem.EqNone.ne_none_int (C7 I q (by simp))
  |str j=>obtain⟨t',rfl⟩:=a;exact PySem.EqNone.ne_none_str (C7 I q (by simp))
  |_=>exact absurd (show false=true from b) Dc
 |bl i=>
  cases c;cases y with
  |A9=>cases a;exact PySem.EqNone.ne_bool_none (C7 I q (by simp))
  |bl j=>cases a;exact ne_bool (C7 I q (vB not nh))
  |str j=>obtain⟨t',rfl⟩:=a;exact PySem.EqMixed.ne_bool_str (C7 I q (by simp))
  |_=>exact absurd (show false=true from b) Dc
 |int i=>
  obtain⟨t,rfl⟩:=c;cases y with
  |A9=>cases a;exact PySem.EqNone.ne_int_none (C7 I q (by simp))
  |int j=>obtain⟨t',rfl⟩:=a;exact ne_int (C7 I q (vB not hZ))
  |str j=>obtain⟨t',rfl⟩:=a;exact PySem.EqMixed.ne_int_str (C7 I q (by simp))
  |_=>exact absurd (show false=true from b) Dc
 |str i=>
  obtain⟨t,rfl⟩:=c;cases y with
  |A9=>cases a;exact PySem.EqNone.ne_str_none (C7 I q (by simp))
  |bl j=>cases a;exact PySem.EqMixed.ne_str_bool (C7 I q (by simp))
  |int j=>obtain⟨t',rfl⟩:=a;exact PySem.EqMixed.ne_str_int (C7 I q (by simp))
  |str j=>obtain⟨t',rfl⟩:=a;exact ne_str (C7 I q (vB not eE))
  |_=>exact absurd (show false=true from b) Dc
 |Hl i=>
  obtain⟨t,rfl⟩:=c;cases y with
  |Hl j=>obtain⟨t',rfl⟩:=a;exact PySem.W.ne_bytes (C7 I q (vB not kO))
  |_=>exact absurd (show false=true from b) Dc
 |_=>cases y <;> exact absurd (show false=true from b) Dc
theorem FX:Bc X (compareOp .Lt) (HY λi j=>.bl (decide (i<j))):=RM λ_ _ _ _ _ _ _ q=>lt_int q
theorem Eb:Bc X (compareOp .LtE) (HY λi j=>.bl (decide (i<=j))):=RM λ_ _ _ _ _ _ _ q=>le_int q
theorem ML:Bc X (compareOp .Gt) (HY λi j=>.bl (decide (j<i))):=RM λ_ _ _ _ _ _ _ q=>gt_int q
theorem NP:Bc X (compareOp .GtE) (HY λi j=>.bl (decide (j<=i))):=RM λ_ _ _ _ _ _ _ q=>ge_int q
theorem gm:Bc X (compareOp .In) (λx y H Q=>∃i j,x=.str i/\y=.str j/\Q (.bl (!(Builtin.Str.occurrences j i 0 j.length 1).isEmpty)) H):=by
 intro ZA s Z H x y v u Q I b a h;obtain⟨i,j,rfl,rfl,q⟩:=h;obtain⟨t,rfl⟩:=b;obtain⟨t',rfl⟩:=a;exact in_str (C7 I q rfl)
theorem nJ:Bc X (compareOp .Is) (λx y H Q=>y=.A9/\Q (.bl (decide (x=.A9))) H):=by
 intro ZA s Z H x y v u Q I a b h;obtain⟨rfl,q⟩:=h;cases b;refine is_none_gen (C7 I q ?_);cases x <;> first
  | (cases a;rfl)
  | (obtain⟨t,rfl⟩:=a;rfl)
theorem YM:Bc X (compareOp .IsNot) (λx y H Q=>y=.A9/\Q (.bl (!decide (x=.A9))) H):=by
 intro ZA s Z H x y v u Q I a b h;obtain⟨rfl,q⟩:=h;cases b;refine isnot_none_gen (C7 I q ?_);cases x <;> first
  | (cases a;rfl)
  | (obtain⟨t,rfl⟩:=a;rfl)
theorem mh(b:Expr)(h:op≠.In:=by decide)(h2:op≠.NotIn:=by decide):behindInMarks op b=false:=by
 have c:(op == CmpOp.In)=false:=by cases op <;> first|rfl|exact absurd rfl h
 have a:(op == CmpOp.NotIn)=false:=by cases op <;> first|rfl|exact absurd rfl h2
 cases b <;> simp[behindInMarks,c,a]
def OP(t:TE):TT:=λZ H Q=>t Z H λx H'=>∃k,x=.bl k/\Q k H'
theorem ZHO{r:R2}(ho:Bc X (compareOp op) r)(o:PE X a ta)(n:PE X b tb)(m:behindInMarks op b=false):PT X (.Compare a [op] [b] pos) (OP (CB r ta tb)):=by
 intro ZA s Z H Q I h;refine wpAny_isTrue_Compare1 (o.k I h λv s1 x H1 I1 g l=>n.k I1 l λu s2 y H2 I2 f j=>
  BB (ho ZA s2 Z H2 x y v u _ I2 g f j) λc p⟨z,H3,I3,d,k,e,i⟩=>?_) m
 subst e;cases d;exact wA ⟨H3,I3,i⟩
def Ox(r b:R2)(ta tb tc:TE):TE:=λZ H Q=>ta Z H λx H1=>tb Z H1 λy H2=>r x y H2 λz H3=>∃k,z=.bl k/\
 (if k=true then tc Z H3 λa H4=>b y a H4 Q else Q (.bl false) H3)
theorem L9:(sizeLine:Nat)<2 ^ 63:=by rw[ZBF];decide
theorem nK:Bc X (binaryOp .Add) (λx y H Q=>∃i j,x=.str i/\y=.str j/\i.length+j.length<=sizeLine/\Q (.str (i++j)) H):=by
 intro ZA s Z H x y v u Q I b a h;obtain⟨i,j,rfl,rfl,c,q⟩:=h;obtain⟨t,rfl⟩:=b;obtain⟨t',rfl⟩:=a;exact add_str (λt' tk=>⟨.str (i++j),H,I.tok _,⟨_,rfl⟩,q⟩) c
theorem vals1{x:V}(r:Vals [x] us):∃u,us=[u]/\RelV x u:=by
 cases r with
 |cons b a=>cases a;exact⟨_,rfl,b⟩
theorem vals2{x:V}(r:Vals [x,y] us):∃u a,us=[u,a]/\RelV x u/\RelV y a:=by
 cases r with
 |cons e d=>
  cases d with
  |cons c b=>cases b;exact⟨_,_,rfl,e,c⟩
theorem xx(b:X.calm=true):DQ X (.builtin "max") (λxs H Q=>∃i j,xs=[.int i,.int j]/\Q (.int (if j > i then j else i)) H):=by
 intro ZA s Z H xs us Q I r h;obtain⟨i,j,rfl,q⟩:=h;obtain⟨u,c,rfl,⟨t,rfl⟩,⟨t',rfl⟩⟩:=vals2 r;refine max_two_ints (I.ok.hd b) λh' tk k=>⟨_,H,I.kept k,?_,q⟩
 by_cases a:j > i
 .rw[tX a,tX a];exact⟨_,rfl⟩
 .rw[qg a,qg a];exact⟨_,rfl⟩
theorem ZEL(b:X.calm=true):DQ X (.builtin "min") (λxs H Q=>∃i j,xs=[.int i,.int j]/\Q (.int (if j<i then j else i)) H):=by
 intro ZA s Z H xs us Q I r h;obtain⟨i,j,rfl,q⟩:=h;obtain⟨u,c,rfl,⟨t,rfl⟩,⟨t',rfl⟩⟩:=vals2 r;refine min_two_ints (I.ok.hd b) λh' tk k=>⟨_,H,I.kept k,?_,q⟩
 by_cases a:j<i
 .rw[tX a,tX a];exact⟨_,rfl⟩
 .rw[qg a,qg a];exact⟨_,rfl⟩
theorem RY:DQ X (.type "int") (λxs H Q=>(∃i,xs=[.int i]/\Q (.int i) H)∨∃k,xs=[.bl k]/\Q (.int (if k then 1 else 0)) H):=by
 intro ZA s Z H xs us Q I r h;rcases h with⟨i,rfl,q⟩|⟨k,rfl,q⟩
 .obtain⟨u,rfl,t,rfl⟩:=vals1 r;exact call_int_int ⟨.int i,H,I,⟨_,rfl⟩,q⟩
 .obtain⟨u,rfl,a⟩:=vals1 r;cases a;exact call_int_bool ⟨.int (if k then 1 else 0),H,I.tok _,⟨_,rfl⟩,q⟩
end
structure Lx (h:Heap) (x dx C:Addr) (mA:ZJc):Prop where
 obj:h.get? x=some (PySem.W.instObj C dx)
 ns:h.Ns1 dx mA
 ne:dx≠x
theorem jJ{h:Heap}(n:h.Ns1 dx mA):∃od,h.get? dx=some od/\∀name,PySem.W.lookIn name od=some (mA name):=by
 obtain⟨o,es,g,ho,hd,d,_,c⟩:=n;refine⟨o,ho,λname=>?_⟩;have e:=c name;unfold nsFind findBy at e;rw[<- ZI2]at e;unfold PySem.W.lookIn;rw[hd];dsimp only;split
 .rename_i y q;rw[q]at e;exact vB some e
 .rename_i q;rw[q]at e;have a:es.toList.any (·.refKey)=false:=by
   rw[ZIB];intro y b;obtain⟨z,t,Tp⟩:=d y (Array.mem_toList_iff.mp b);simp[DictEntry.refKey,Tp]
  have f:¬ es.toList.any (·.refKey)=true:=by rw[a];exact Dc
  rw[qg f];exact vB some e
theorem Lx.look{h:Heap}{x:Addr}(I:Lx h x dx C mA):∃od,PySem.W.InstAt h x (PySem.W.instObj C dx) C (some od)/\∀name,PySem.W.lookIn name od=some (mA name):=
 let ⟨od,ho,hl⟩:=jJ I.ns
 ⟨od,⟨I.obj,rfl,rfl,ho⟩,hl⟩
section
variable{K:ZJa}{x f:Addr}{v:Value}
theorem get_map{expr:Bool}(X:K.In s.heap)(I:Lx s.heap x dx C mA)(c:PySem.W.plainGet K C name=true)(hh:PySem.W.hasDictIn K C=true)
  (d:PySem.W.findIn K (.ref C) name=some none) (a:mA name=some v) (Qw:PySem.W.handedIn v=true) (h:Q v { s with toks:=s.toks+1 }) :
  wpAny (model prog w) A (getAttr (.ref x) name expr) Q E s:=by
 obtain⟨od,J,b⟩:=I.look;exact PySem.W.get_value X J (pJ c).1 (ZIi hh d rfl (by rw[b,a])) Qw h
theorem vw{Q:Value×List Value->Shared->Prop}(X:K.In s.heap)(I:Lx s.heap x dx C mA)(a:PySem.W.plainGet K C name=true)
  (e:PySem.W.findIn K (.ref C) name=some (some (.ref f))) (c:PySem.W.isFn K (.ref f)=true) (b:mA name=none) (h:Q (.ref f,[.ref x]) s) :
  wpAny (model prog w) A (getMethod (.ref x) name pl) Q E s:=by
 obtain⟨od,J,d⟩:=I.look;exact PySem.W.method_fn X J (pJ a).1 (pJ a).2 e (beq_iff_eq.mp c) (by show(PySem.W.lookIn name od).map (·.isSome)=some false;rw[d,b];rfl) h
theorem ZDP{Q:Unit->Shared->Prop}(X:K.In s.heap)(I:Lx s.heap x dx C mA)
  (d:PySem.W.findIn K (.ref C) "__setattr__"=some (some (.builtin "object.__setattr__"))) (e:PySem.W.plainOver K C=true) (c:PySem.W.takerIn K C name=some none) (hh:PySem.W.hasDictIn K C=true)
  (hw:PySem.Within mA ns) (hsz:ns.length<=sizeLine)
  (h:∀h',Lx h' x dx C (λy=>if y=name then some v else mA y)->Heap.SameBut dx s.heap h'->Q () { s with heap:=h',toks:=s.toks+2 }) :
  wpAny (model prog w) A (setAttr (.ref x) name v) Q E s:=by
 obtain⟨od,J,l⟩:=I.look;refine ZIp X J d (PySem.W.osa_open (s:={ s with toks:=s.toks+1 }) (r:=none) X J e c λb=>?_)
 obtain⟨cd,f,DY⟩:=VP hh;have hx:s.heap.get? x=some ⟨.ref C,some dx,.plain,#[]⟩:=I.obj;refine pK (qm (pK (pK (ZBJ hx (pK (ZIf (s:={ s with toks:=s.toks+1 }) (pI X f) ?_))))))
 rw[DY];refine qm (a:=some dx) (pK (qm (pK ?_)));refine wpAny_nsSet1 (s:={ s with toks:=s.toks+1 }) I.ns λh' Ko Cn=>?_
 obtain⟨k,g,j,i,W0,IW⟩:=Ko.count (ZIq name v hw);refine pK (wpAny_lookBehind i (by rw[W0];exact pastItsLine_dict (Bi IW (by rw[Ck];omega))) ?_);exact qm (h _ ⟨(Cn.2 _ (BU I.ne)).trans I.obj,Ko,I.ne⟩ Cn)
theorem ZD7{R:Result->Shared->Prop}{vs:List Value}(X:K.In s.heap)(a:PySem.W.makesIn K C=true)
  (hi:PySem.W.findIn K (.ref C) "__init__"=some (some (.ref f))) (b:PySem.W.typeIn K (.ref f)=some (.type "function"))
  (h:codeAny (model prog w) (A.under (.builtin "type.__call__" ⟨.ref C::vs,kw⟩)) (.call (.ref f) ⟨.ref (s.heap.objs.size+1)::vs,kw⟩) (PySem.W.InitBack (s.heap.objs.size+1) R)
   { s with heap:=(s.heap.push PySem.W.emptyDict).push (PySem.W.instObj C s.heap.objs.size) }) :
  codeAny (model prog w) A (.call (.ref C) ⟨vs,kw⟩) R s:=by
 obtain⟨hh,g,d,t,os⟩:=s;exact PySem.W.make_core (PySem.W.makes_of X a) (d7 X hi) (λself=>PySem.W.bind_fn X self b) (.inl rfl) h
end
noncomputable def Dj(f:Str)(v:V):List (Str×V)->List (Str×V)
 | []=>[(f,v)]
 | (g,x)::r=>if g=f then(g,v)::r else(g,x)::Dj f v r
theorem lS(f g:Str)(v:V):∀fs:List (Str×V),(Dj f v fs).lookup g=if g=f then some v else fs.lookup g
 | []=>by
  show List.lookup g [(f,v)]=_
  by_cases h:g=f
  .have a:(g == f)=true:=beq_iff_eq.mpr h;simp only[List.lookup,a,tX h]
  .have a:(g == f)=false:=beq_eq_false_iff_ne.mpr h;simp only[List.lookup,a,qg h]
 | (k,x)::r=>by
  have c:=lS f g v r;rw[show Dj f v ((k,x)::r)=(if k=f then(k,v)::r else(k,x)::Dj f v r)from rfl]
  by_cases b:k=f
  .rw[tX b]
   by_cases h:g=k
   .have a:(g == k)=true:=beq_iff_eq.mpr h;simp only[List.lookup,a,tX (h.trans b)]
   .have a:(g == k)=false:=beq_eq_false_iff_ne.mpr h;simp only[List.lookup,a,qg (λe:g=f=>h (e.trans b.symm))]
  .rw[qg b]
   by_cases h:g=k
   .have a:(g == k)=true:=beq_iff_eq.mpr h;simp only[List.lookup,a,qg (λe:g=f=>b (h.symm.trans e))]
   .have a:(g == k)=false:=beq_eq_false_iff_ne.mpr h;simp only[List.lookup,a];exact c
theorem bo(f:Str)(v:V):∀fs:List (Str×V),f∈(Dj f v fs).map (·.1)/\∀g,g∈fs.map (·.1)->g∈(Dj f v fs).map (·.1)
 | []=>⟨by simp[Dj],λg h=>by simp at h⟩
 | (k,x)::r=>by
  obtain⟨c,b⟩:=bo f v r;rw[show Dj f v ((k,x)::r)=(if k=f then(k,v)::r else(k,x)::Dj f v r)from rfl]
  by_cases a:k=f
  .rw[tX a];subst a;exact⟨by simp,λg h=>by simpa using h⟩
  .rw[qg a];refine⟨?_,λg h=>?_⟩
   .rw[CA];exact Dd _ c
   .rw[CA]at h ⊢;rcases List.mem_cons.mp h with e|e
    .exact List.mem_cons.mpr (.inl e)
    .exact Dd _ (b g e)
theorem dW(f:Str)(v:V):∀fs:List (Str×V),(Dj f v fs).length<=fs.length+1
 | []=>by simp[Dj]
 | (k,x)::r=>by
  have b:=dW f v r;rw[show Dj f v ((k,x)::r)=(if k=f then(k,v)::r else(k,x)::Dj f v r)from rfl]
  by_cases a:k=f
  .rw[tX a,Ck,Ck];omega
  .rw[qg a,Ck,Ck];omega
theorem EX.some_of{o:Option Value}(r:EX (some v) o):∃u,o=some u/\RelV v u:=by
 cases o with
 |none=>exact(show False from r).elim
 |some u=>exact⟨u,rfl,r⟩
theorem EX.none_of{o:Option Value}(r:EX none o):o=none:=by
 cases o with
 |none=>rfl
 |some u=>exact(show False from r).elim
theorem jo(r:RelV v u):PySem.W.handedIn u=true:=by
 cases v with
 |A9=>cases(show u=Value.none from r);rfl
 |bl b=>cases(show u=Value.bool b from r);rfl
 |int i=>obtain⟨t,e⟩:=(show ∃t,u=Value.int i t from r);cases e;rfl
 |str x=>obtain⟨t,e⟩:=(show ∃t,u=Value.str x t from r);cases e;rfl
 |Hl b=>obtain⟨t,e⟩:=(show ∃t,u=Value.bytes b t from r);cases e;rfl
 |KH b=>obtain⟨t,e⟩:=(show ∃t,u=Value.float b t from r);cases e;rfl
 |ref a=>cases(show u=Value.ref a from r);rfl
 |ty n=>cases(show u=Value.type n from r);rfl
section
variable{P:Program}{h:Heap}{fs OX:List (Str×V)}
theorem Th(AH:By P w H h)(e:H a=some (.ins C dx fs)):∃mA,Lx h a dx C mA/\(∀f,EX (fs.lookup f) (mA f))/\PySem.Within mA (fs.map (·.1))/\fs.length<=1000/\H dx=some (.own a):=by
 obtain⟨d,z,ne,ob,mA,n,r,q⟩:=(show CD P w H h a (.ins C dx fs)from AH a _ e);exact⟨mA,⟨ob,n,ne⟩,r,q,z,d⟩
end
structure C3 (K:ZJa) (C:Addr):Prop where
 pg:PySem.W.plainGet K C Str.empty=true
 hd:PySem.W.hasDictIn K C=true
 po:PySem.W.plainOver K C=true
 sa:PySem.W.findIn K (.ref C) "__setattr__"=some (some (.builtin "object.__setattr__"))
theorem C3.get{K:ZJa}{C:Addr}(c:C3 K C)(f:Str):PySem.W.plainGet K C f=true:=c.pg
def BV(K:ZJa)(C:Addr)(f:Str):Prop:=PySem.W.findIn K (.ref C) f=some none
theorem BV.wR{K:ZJa}{f:Str}(n:BV K C f):PySem.W.takerIn K C f=some none:=by
 unfold PySem.W.takerIn;rw[show PySem.W.findIn K (.ref C) f=some none from n];rfl
structure Kb (K:ZJa) (C:Addr) (f:Str) (v:V) (u:Value):Prop where
 at_:PySem.W.findIn K (.ref C) f=some (some u)
 rel:RelV v u
 get:PySem.W.specialIn K u "__get__"=some none
 cp:PySem.W.copiedNames.contains f=false
structure Meth (K:ZJa) (C:Addr) (m:Str) (f:Addr):Prop where
 at_:PySem.W.findIn K (.ref C) m=some (some (.ref f))
 fn:PySem.W.isFn K (.ref f)=true
 kp:PySem.W.keepIn K (.ref f)=true
section
variable{fs:List (Str×V)}{f:Str}
theorem nR{b:Bool}(I:Inv X ZA Z H s)(e:H a=some (.ins C dx fs))(c:C3 X.K C)(n:BV X.K C f)(l:fs.lookup f=some v)
  (h:∀u s',Inv X ZA Z H s'->RelV v u->Q u s'):wpAny (model X.prog X.w) A (getAttr (.ref a) f b) Q E s:=by
 obtain⟨mA,O,r,_,_,_⟩:=Th I.AH e;obtain⟨u,g,d⟩:=EX.some_of (v:=v) (o:=mA f) (by rw[<- l];exact r f);exact get_map I.Bv O (c.get f) c.hd n g (jo d) (h u _ (I.tok _) d)
theorem zo{g:Addr}{Q:Value×List Value->Shared->Prop}(I:Inv X ZA Z H s)(e:H a=some (.ins C dx fs))(c:C3 X.K C)(k:Meth X.K C m g)(l:fs.lookup m=none)
  (h:Q (.ref g,[.ref a]) s):wpAny (model X.prog X.w) A (getMethod (.ref a) m pl) Q E s:=by
 obtain⟨mA,O,r,_,_,_⟩:=Th I.AH e;have hn:mA m=none:=EX.none_of (by rw[<- l];exact r m);exact vw I.Bv O (c.get m) k.at_ k.fn hn h
theorem kX{Q:Unit->Shared->Prop}(I:Inv X ZA Z H s)(e:H a=some (.ins C dx fs))(c:C3 X.K C)(n:BV X.K C f)(m:fs.length<1000)(i:RelV y u)
  (h:∀s',Inv X ZA Z (upd H a (.ins C dx (Dj f y fs))) s'->Q () s'):wpAny (model X.prog X.w) A (setAttr (.ref a) f u) Q E s:=by
 obtain⟨mA,O,r,wi,_,ho⟩:=Th I.AH e;have j:(fs.map (·.1)).length<=sizeLine:=by rw[AK,ZBF];omega
 refine ZDP I.Bv O c.sa c.po n.wR c.hd wi j λh' O' d=>h _ ?_;have hd:∃o,h'.get? dx=some o:=let ⟨o,_,_,e',_⟩:=O'.ns;⟨o,e'⟩;refine I.write (x:=a) (e:=dx) (by rw[e];exact True.intro) (.inr ho) (λb q l z=>(d.2 b l).trans z) hd ?_;refine⟨by rw[Aa O.ne];exact ho,?_,O.ne,O'.obj,_,O'.ns,λg=>?_,λg k=>?_⟩
 .have:=dW f y fs;omega
 .show EX ((Dj f y fs).lookup g) (if g=f then some u else mA g)
  rw[lS]
  by_cases q:g=f
  .rw[tX q,tX q];exact i
  .rw[qg q,qg q];exact r g
 .by_cases q:g=f
  .rw[q];exact(bo f y fs).1
  .refine(bo f y fs).2 g (wi g λz=>k ?_);show(if g=f then some u else mA g)=none
   rw[qg q];exact z
theorem Inv.made(I:Inv X ZA Z H s):Inv X ZA Z (upd (upd H s.heap.objs.size (.own (s.heap.objs.size+1))) (s.heap.objs.size+1) (.ins C s.heap.objs.size []))
  { s with heap:=(s.heap.push PySem.W.emptyDict).push (PySem.W.instObj C s.heap.objs.size) }:=by
 have c:(s.heap.push PySem.W.emptyDict).get? s.heap.objs.size=some PySem.W.emptyDict:=CK s.heap rfl;have h:((s.heap.push PySem.W.emptyDict).push (PySem.W.instObj C s.heap.objs.size)).get? (s.heap.objs.size+1)=some (PySem.W.instObj C s.heap.objs.size):=by
  have:=CK (s.heap.push PySem.W.emptyDict) (o:=PySem.W.instObj C s.heap.objs.size) rfl
  rwa [HJ]at this
 have g:(s.heap.push PySem.W.emptyDict).Ns s.heap.objs.size (λ_=>none):=⟨PySem.W.emptyDict,#[],_,c,rfl,(λe f=>absurd f (by simp)),λ_=>rfl⟩;have i:=I.laid (a:=s.heap.objs.size) (o:=.own (s.heap.objs.size+1)) (h':=s.heap.push PySem.W.emptyDict) (t':=s.toks) (λb u q=>Bf _ q) (B4 _) ⟨_,c⟩;refine i.laid (a:=s.heap.objs.size+1) (o:=.ins C s.heap.objs.size []) (t':=s.toks) (λb u q=>Bf _ q) (VN (HJ _ _)) ?_;have ne:s.heap.objs.size≠s.heap.objs.size+1:=Br (cu _);refine⟨by rw[Aa ne,AX],Ct _,ne,h,λ_=>none,(Heap.Ns1.of_empty g).at λo q=>Bf _ q,λ_=>True.intro,λy d=>absurd rfl d⟩
theorem iY{env:Env}(b:attributeBase e f env (eval e env)=eval e env)
  (h:wpAny (model prog w) A (eval e env) (λo a=>wpAny (model prog w) A (getAttr o f true) Q E a) E s):wpAny (model prog w) A (eval (.Attribute e f pos) env) Q E s:=
 Attribute_any_ h (by rw[arm_eval_Attribute,b])
end
def L8(K:ZJa)(ta:TE)(f:Str):TE:=λZ H Q=>ta Z H λx H1=>∃a C dx fs v,x=.ref a/\H1 a=some (.ins C dx fs)/\C3 K C/\BV K C f/\fs.lookup f=some v/\Q v H1
def ZM(K:ZJa)(ta tv:TE)(f:Str):TS:=λD Z H=>tv Z H λy H1=>ta Z H1 λx H2=>∃a C dx fs,x=.ref a/\H2 a=some (.ins C dx fs)/\C3 K C/\BV K C f/\fs.length<1000/\
 D.nx Z (upd H2 a (.ins C dx (Dj f y fs)))
def oS(X:Cx)(op:Operator)(rd:V->V->Hp->VK->Prop):Prop:=
 ∀(ZA:ZJb)(s:Shared)(Z:St)(H:Hp)(x y:V)(u v:Value)(Q:VK),Inv X ZA Z H s->RelV x u->RelV y v->rd x y H Q->Zq2 X (inplaceOp op u v) (EP X ZA Z Q) X.xe s
def Y2(K:ZJa)(ta tv:TE)(rd:V->V->Hp->VK->Prop)(f:Str):TS:=λD Z H=>ta Z H λx H1=>∃a C dx fs v,x=.ref a/\H1 a=some (.ins C dx fs)/\C3 K C/\BV K C f/\fs.lookup f=some v/\
 tv Z H1 λy H2=>rd v y H2 λz H3=>∃dx' OX,H3 a=some (.ins C dx' OX)/\OX.length<1000/\D.nx Z (upd H3 a (.ins C dx' (Dj f z OX)))
section
variable{o value:Expr}{f:Str}{pos' QP:Pos}{tv:TE}
variable{b:Bool}
inductive FC (K:ZJa) (H:Hp):V->Value->Prop where
 |A9:FC K H .A9 (.type "NoneType")
 |bl (x:Bool):FC K H (.bl x) (.type "bool")
 |int (i:Int):FC K H (.int i) (.type "int")
 |str (x:Str):FC K H (.str x) (.type "str")
 |KH (x:UInt64):FC K H (.KH x) (.type "float")
 |lst {a:Addr}{xs:List V}(e:H a=some (.lst xs)):FC K H (.ref a) (.type "list")
 |Fq {a:Addr}{o:Obj}{xs:List V}(e:H a=some (.Fq o (.lst xs))):FC K H (.ref a) (.type "list")
 |tup {a:Addr}{xs:List V}(e:H a=some (.tup xs)):FC K H (.ref a) (.type "tuple")
 |dK {a:Addr}{A6:List (Key×V)}(e:H a=some (.dK A6)):FC K H (.ref a) (.type "dict")
 |dT {a:Addr}{A6:List (List Key×V)}(e:H a=some (.dT A6)):FC K H (.ref a) (.type "dict")
 |ins {a C dx:Addr}{fs:List (Str×V)}(e:H a=some (.ins C dx fs)) (cl:C3 K C) (ha:PySem.W.findIn K (.ref C) "__class__"=some (some (.builtin "object.__class__")))
   (hn:PySem.W.specialIn K (.builtin "object.__class__") "__get__"=some (some (.builtin "getset_descriptor.__get__"))) (OS:PySem.W.takesIn K (.builtin "object.__class__")=some true)
   (hm:PySem.W.mroIn K C (.type "object")=some true):FC K H (.ref a) (.ref C)
theorem lZ{x:V}{t:Value}(I:Inv X ZA Z H s)(d:RelV x u)(ty:FC X.K H x t)(e:PySem.W.kitOne X.K t c=some b)(h:∀tk,Q (.bool b) { s with toks:=tk }):
  wpAny (model X.prog X.w) A (call (.builtin "isinstance") [u,c]) Q E s:=by
 cases ty with
 |A9=>cases(show u=Value.none from d);exact Ip PySem.W.kitx_none I.Bv True.intro e (λz=>nomatch z) h
 |bl y=>cases(show u=Value.bool y from d);exact Ip PySem.W.kitx_bool I.Bv True.intro e (λz=>nomatch z) h
 |int i=>obtain⟨t,q⟩:=(show ∃t,u=Value.int i t from d);cases q;exact Ip PySem.W.kitx_int I.Bv True.intro e (λz=>nomatch z) h
 |str y=>obtain⟨t,q⟩:=(show ∃t,u=Value.str y t from d);cases q;exact Ip PySem.W.kitx_str I.Bv True.intro e (λz=>nomatch z) h
 |KH y=>obtain⟨t,q⟩:=(show ∃t,u=Value.float y t from d);cases q;exact Ip PySem.W.kitx_float I.Bv True.intro e (λz=>nomatch z) h
 |@lst a xs ea=>
  cases(show u=Value.ref a from d);obtain⟨_,_,n,_,h1⟩:=(show CD X.prog X.w H s.heap a (.lst xs)from I.AH a _ ea);exact Ip ZIl I.Bv ⟨_,h1,rfl⟩ e (λz=>nomatch z) h
 |@Fq a ob xs ea=>
  cases(show u=Value.ref a from d);obtain⟨_,_,_,n,_,h1⟩:=(show CD X.prog X.w H s.heap a (.Fq ob (.lst xs))from I.AH a _ ea);exact Ip ZIl I.Bv ⟨_,h1,rfl⟩ e (λz=>nomatch z) h
 |@tup a xs ea=>
  cases(show u=Value.ref a from d);obtain⟨_,_,_,p⟩:=(show CD X.prog X.w H s.heap a (.tup xs)from I.AH a _ ea);obtain⟨o,h1,h2,_⟩:=p.1;exact Ip PySem.W.kitx_tuple I.Bv ⟨o,h1,h2⟩ e (λz=>nomatch z) h
 |@dK a A6 ea=>
  cases(show u=Value.ref a from d);obtain⟨_,_,vs,_,p⟩:=(show CD X.prog X.w H s.heap a (.dK A6)from I.AH a _ ea);obtain⟨o,es,j,h1,h2,_⟩:=p;exact Ip ZIk I.Bv ⟨o,h1,h2.1⟩ e (λz=>nomatch z) h
 |@dT a A6 ea=>
  cases(show u=Value.ref a from d);obtain⟨_,_,xs,_,o,es,j,h1,h2,_⟩:=(show CD X.prog X.w H s.heap a (.dT A6)from I.AH a _ ea);exact Ip ZIk I.Bv ⟨o,h1,h2.1⟩ e (λz=>nomatch z) h
 |@ins a C dx fs ea cl g hn OS f=>
  cases(show u=Value.ref a from d);obtain⟨mA,O,_⟩:=Th I.AH ea;obtain⟨od,J,_⟩:=O.look;exact Ip (PySem.W.kitx_own (cl.get _) cl.hd g hn OS f) I.Bv J e (λz=>nomatch z) h
end
structure Ba (k:Nat) (A:Around):Prop where
 hd:A.handled=none
 dp:A.depth+3 * k+5<recursionLimit
 un:A.units+16 * k+200<cLine
theorem Ba.mono{k:Nat}(r:Ba k A)(h:j<=k):Ba j A:=⟨r.hd,by have:=r.dp;omega,by have:=r.un;omega⟩
theorem Ba.deeper{k:Nat}(r:Ba (k+1) A)(env:Env):Ba k (A.deeper env):=
 ⟨r.hd,by have:=r.dp;show A.depth+1+3 * k+5<_;omega,by have:=r.un;show A.units+3+16 * k+200<_;omega⟩
theorem ZHS:(A.under (.builtin "type.__call__" ⟨.ref C::us,kw⟩)).depth=A.depth+1:=by
 first|rfl|simp[Around.under,Code.weight,Code.isCreation,Code.isGuard,Code.isCaller,Code.frames,Code.isFrame,guardIds]
theorem ZAX:(A.under (.builtin "type.__call__" ⟨.ref C::us,kw⟩)).units=A.units+1:=by
 first|rfl|simp[Around.under,Code.cUnits,Code.frames,Code.isFrame]
theorem Ba.make{k:Nat}(r:Ba (k+1) A)(C:Addr)(us:List Value)(kw:List (Str×Value)):Ba k (A.under (.builtin "type.__call__" ⟨.ref C::us,kw⟩)):=
 ⟨r.hd,by have:=r.dp;rw[ZHS];omega,by have:=r.un;rw[ZAX];omega⟩
theorem Ba.depth{k:Nat}(r:Ba k A):A.depth<recursionLimit:=by have:=r.dp;omega
theorem Ba.units{k:Nat}(r:Ba k A):A.units+64<cLine:=by have:=r.un;omega
theorem Ba.K4{k:Nat}(r:Ba k A):A.units<cLine:=by have:=r.un;omega
def BQ:TA:=λ_ H Q=>Q [] H
def An(ta:TE)(tr:TA):TA:=λZ H Q=>ta Z H λx H1=>tr Z H1 λxs H2=>Q (x::xs) H2
theorem MN:PA X [] BQ:=λ_ _ _ _ H Q I h=>oY ⟨[],H,I,.nil,h⟩
theorem Gb(i:PE X e te)(g:PA X es t)(f:Ce X e es:=by rfl):PA X (e::es) (An te t):=by
 intro pos ZA s Z H Q I h;rw[f];show wpAny _ _ (spliced ((false,eval e X.env)::backTo pos (starEach es X.env))) _ _ s;refine oX (i.k I h λu s1 x H1 I1 b d=>?_);exact BB (g pos ZA s1 Z H1 _ I1 d) λus s2 AU=>by obtain⟨xs,H2,I2,a,c⟩:=AU;exact⟨x::xs,H2,I2,.cons b a,c⟩
def U8(t:TA):TE:=λZ H Q=>t Z H λxs H1=>xs.length<=sizeLine/\∀p,H1 p=none->Q (.ref p) (upd H1 p (.tup xs))
def SU(t:TA):TE:=λZ H Q=>t Z H λxs H1=>xs.length<=sizeLine/\∀p,H1 p=none->Q (.ref p) (upd H1 p (.lst xs))
theorem uP{x1}(h:PA X es t):PE X (.Tuple es x1 pos) (U8 t):=by
 intro ZA s Z H Q I c;refine wpAny_Tuple_spliced (h.k pos I c λus s1 xs H1 I1 r⟨z,q⟩=>⟨by rw[<- r.length];exact z,?_⟩);have d:H1 s1.heap.objs.size=none:=I1.AH.fresh (B4 _);refine⟨.ref s1.heap.objs.size,upd H1 s1.heap.objs.size (.tup xs),I1.laid (t':=s1.toks) (λb u e=>Bf _ e) (B4 _) ?_,rfl,q _ d⟩;exact⟨z,us,r,⟨_,CK _ rfl,rfl,_,rfl⟩,λTd a=>by rw[CK _ rfl]at a;cases a;rfl⟩
theorem zx(h:PA X es t):PE X (.List es pos) (SU t):=by
 intro ZA s Z H Q I a;refine wpAny_List_spliced (h.k pos I a λus s1 xs H1 I1 r⟨z,q⟩=>⟨by rw[<- r.length];exact z,?_⟩);have c:H1 s1.heap.objs.size=none:=I1.AH.fresh (B4 _);refine⟨.ref s1.heap.objs.size,upd H1 s1.heap.objs.size (.lst xs),I1.laid (t':=s1.toks) (λb u e=>Bf _ e) (B4 _) ?_,rfl,q _ c⟩;exact⟨z,us,0,r,CK _ rfl⟩
abbrev Sp:=List V->Hp->VK->XK->Prop
abbrev Gs:=List Env->Hp->Shared->XK->Value->Shared->Prop
variable{CX:Gs}
structure Md (P:Program) (w:World) (K:ZJa) (mg:ZJc) (ZB:Heap) (A:Around) (outer:List Env) (s:Shared) (H:Hp):Prop where
 frames:A.frames=some outer
 mod:Mod K mg ZB
 bs:∀b o,ZB.get? b=some o->s.heap.get? b=some o/\H b=none
 HW:ZB.objs.size<=s.heap.objs.size
 Fc:s.heap.FunFrames ZB outer
 JF:∀b∈CU outer,H b=none
 AH:By P w H s.heap
 bare:AllBare s.gens
def CE(outer:List Env)(P:Program)(w:World)(H:Hp)(s:Shared)(Q:VK)(u:Value)(s':Shared):Prop:=
 ∃v H',s'.os=s.os/\AllBare s'.gens/\Un (CU outer) [] H H' s.heap s'.heap/\By P w H' s'.heap/\RelV v u/\Q v H'
def CR(CX:Gs)(outer:List Env)(P:Program)(w:World)(H:Hp)(s:Shared)(Q:VK)(E:XK)(r:Result)(s':Shared):Prop:=
 match r with
 | .ok (.ret u)=>CE outer P w H s Q u s'
 | .ok _=>False
 | .error e=>CX outer H s E e s'
structure CQ (P:Program) (w:World) (K:ZJa) (mg:ZJc) (ZB:Heap) (CX:Gs) (k:Nat) (f:Addr) (fd:FuncData) (ps:List Str) (sp:Sp):Prop where
 len:∀vs H Q E,sp vs H Q E->vs.length=ps.length
 run:∀(A:Around)(outer:List Env)(s:Shared)(H:Hp)(args:Args)(us:List Value)(vs:List V)(Q:VK)(E:XK),Ba k A->Md P w K mg ZB A outer s H->BindsTo s fd args (ps.zip us)->Vals vs us->sp vs H Q E->
  codeAny (model P w) A (.call (.ref f) args) (CR CX outer P w H s Q E) s
theorem CQ.mono{P:Program}{K:ZJa}{k:Nat}{f:Addr}{sp:Sp}(F:CQ P w K mg ZB CX j f fd ps sp)(h:j<=k):
  CQ P w K mg ZB CX k f fd ps sp:=⟨F.len,λA outer s H args us vs Q E a=>F.run A outer s H args us vs Q E (a.mono h)⟩
theorem Md.make{P:Program}{K:ZJa}(e:Md P w K mg ZB A outer s H)(C:Addr)(us:List Value)(kw:List (Str×Value)):
  Md P w K mg ZB (A.under (.builtin "type.__call__" ⟨.ref C::us,kw⟩)) outer s H:=⟨by first|exact e.frames|(simpa[Around.under,Code.envs,Code.isFrame,pushEnvs]using e.frames),e.mod,e.bs,e.HW,e.Fc,e.JF,e.AH,e.bare⟩
theorem Inv.Ug(I:Inv X ZA Z H s):Md X.prog X.w X.K X.mg X.base X.A X.stack s H:=
 ⟨I.ok.frames,I.ok.mod,I.bs,Bi I.ok.HW I.sz,I.stack,I.U6,I.AH,I.bare⟩
theorem Inv.after{Q:VK}(I:Inv X ZA Z H s)(h:CE X.stack X.prog X.w H s Q u s'):EP X ZA Z Q u s':=by
 obtain⟨v,H',os,bare,un,AH,r,q⟩:=h;obtain⟨hh,g,d,t,Qe⟩:=s';obtain rfl:Qe=s.os:=os;exact⟨v,H',I.call (h':=hh) (g':=g) (d':=d) (t':=t) (ch:=[]) un AH bare (λb z=>absurd z (by simp)),r,q⟩
def ES(sp:Sp)(EC:List V)(E:XK)(t:TA):TE:=λZ H Q=>t Z H λvs H1=>sp (vs++EC) H1 Q E
def MC(C:Addr)(m:Str)(sp:Sp)(EC:List V)(E:XK)(ta:TE)(t:TA):TE:=λZ H Q=>ta Z H λx H1=>∃a dx fs,x=.ref a/\H1 a=some (.ins C dx fs)/\fs.lookup m=none/\
 t Z H1 λvs H2=>sp (x::(vs++EC)) H2 Q E
def XU(C:Addr)(sp:Sp)(EC:List V)(E:XK)(t:TA):TE:=λZ H Q=>t Z H λvs H1=>∀x dx,H1 x=none->H1 dx=none->dx≠x->
 sp (.ref x::(vs++EC)) (upd (upd H1 dx (.own x)) x (.ins C dx [])) (λv H2=>v=.A9/\Q (.ref x) H2) E
def Binds(K:ZJa)(fd:FuncData)(ps:List Str)(ds:List Value):Prop:=
 ∀(s:Shared)(us:List Value),K.In s.heap->(us++ds).length=ps.length->BindsTo s fd ⟨us,[]⟩ (ps.zip (us++ds))
theorem Binds.all{K:ZJa}(h:∀us:List Value,us.length=ps.length->bindArgs fd ⟨us,[]⟩=pure (ps.zip us)):Binds K fd ps []:=λs us _ a=>by
 rw[G4]at a ⊢;exact .of_eq (h us a)
def Passes(CX:Gs)(X:Cx)(E:XK):Prop:=∀(ZA:ZJb)(Z:St)(H:Hp)(s:Shared)(e:Value)(s':Shared),Inv X ZA Z H s->CX X.stack H s E e s'->X.xe e s'
section
variable{k:Nat}{f:Addr}{sp:Sp}{E:XK}{p apos:Pos}{o:Expr}
theorem nc{Q:VK}(F:CQ X.prog X.w X.K X.mg X.base CX k f fd ps sp)(c:Ba k X.A)(g:Binds X.K fd ps ds)(hd:Vals EC ds)(hx:Passes CX X E)
  (I:Inv X ZA Z H s) (r:Vals vs us) (h:sp (vs++EC) H Q E):Zq2 X (call (.ref f) us) (EP X ZA Z Q) X.xe s:=by
 have b:Vals (vs++EC) (us++ds):=r.append hd;have d:(us++ds).length=ps.length:=by rw[<- b.length];exact F.len _ _ _ _ h
 refine zL (zd (F.run X.A X.stack s H ⟨us,[]⟩ (us++ds) (vs++EC) Q E c I.Ug (g s us I.Bv d) b h) λr s' a=>?_);cases r with
 |error e=>exact hx ZA Z H s e s' I a
 |ok i=>
  cases i with
  |ret u=>exact I.after a
  |next=>exact False.elim a
  |brk=>exact False.elim a
  |cont=>exact False.elim a
theorem vx(F:CQ X.prog X.w X.K X.mg X.base CX k f fd ps sp)(a:Ba k X.A)(d:Gl X x)(b:X.mg x=some (.ref f))(c:PySem.W.keepIn X.K (.ref f)=true)(g:Binds X.K fd ps ds)(hd:Vals EC ds)(hx:Passes CX X E)
  (i:PA X (e::es) t) (BN:Zq0 x:=by decide) (he:Ce X e es:=by rfl) (BZ:BEq X pos es:=by rfl) :
  PE X (.Call (.Name x p) (e::es) [] pos) (ES sp EC E t):=by
 intro ZA s Z H Q I h;refine x3 (Je I d b ?_ BN);refine VQ (h₀:=X.base) I.ok.mod.J2 c (i.k pos I h λus s1 vs H1 I1 r q=>⟨I1.Bv,?_⟩) he BZ;exact nc F a g hd hx I1 r q
theorem qR(j:PE X o ta)(c:C3 X.K C)(b:Meth X.K C m f)(F:CQ X.prog X.w X.K X.mg X.base CX k f fd ps sp)(i:Ba k X.A)(n:Binds X.K fd ps ds)(hd:Vals EC ds)(hx:Passes CX X E)(p:PA X (e::es) t)
  (BO:Ce X e es:=by rfl) (BZ:BEq X pos es:=by rfl)
  (ht:eval (.Call (.Attribute o m apos) (e::es) [] pos) X.env=(do
   let ov <- eval o X.env
   standAt apos.atName
   let (f,first) <- holding [ov] (getMethod ov m pl)
   callWith pos f first (backTo pos (starEach (e::es) X.env)) (backToKw pos (keywordEach [] X.env))):=by rfl) :
  PE X (.Call (.Attribute o m apos) (e::es) [] pos) (MC C m sp EC E ta t):=by
 intro ZA s Z H Q I h;refine ZIo (pl:=pl) (j.k I h λu s1 x H1 I1 d⟨a,dx,fs,ex,ea,l,q⟩=>?_) ht;subst ex;obtain rfl:u=Value.ref a:=d;refine zo I1 ea c b l ?_;refine VQ (first:=[.ref a]) (h₀:=X.base) I.ok.mod.J2 b.kp (p.k pos I1 q λus s2 vs H2 I2 r g=>⟨I2.Bv,?_⟩) BO BZ
 exact nc (us:=.ref a::us) (vs:=.ref a::vs) F i n hd hx I2 (.cons rfl r) g
structure Mk (K:ZJa) (C f:Addr):Prop where
 makes:PySem.W.makesIn K C=true
 init:PySem.W.findIn K (.ref C) "__init__"=some (some (.ref f))
 fn:PySem.W.isFn K (.ref f)=true
 kp:PySem.W.keepIn K (.ref C)=true
theorem wC{Q:VK}(M:Mk X.K C f)(F:CQ X.prog X.w X.K X.mg X.base CX k f fd ps sp)(i:Ba (k+1) X.A)(l:Binds X.K fd ps ds)(hd:Vals EC ds)
  (hx:Passes CX X E) (I:Inv X ZA Z H s) (r:Vals vs us)
  (h:∀x dx,H x=none->H dx=none->dx≠x->sp (.ref x::(vs++EC)) (upd (upd H dx (.own x)) x (.ins C dx [])) (λv H2=>v=.A9/\Q (.ref x) H2) E) :
  Zq2 X (call (.ref C) us) (EP X ZA Z Q) X.xe s:=by
 have c:=h (s.heap.objs.size+1) s.heap.objs.size (I.AH.fresh (G6 _)) (I.AH.fresh (B4 _)) (Br (cu _));have a:=Inv.made (C:=C) I;have b:Vals (V.ref (s.heap.objs.size+1)::(vs++EC)) (Value.ref (s.heap.objs.size+1)::(us++ds)):=.cons rfl (r.append hd);have j:(Value.ref (s.heap.objs.size+1)::us++ds).length=ps.length:=by
  have e:=b.length;rw[F.len _ _ _ _ c]at e;exact e.symm
 refine zL (ZD7 (f:=f) I.Bv M.makes M.init (beq_iff_eq.mp M.fn) (zd (F.run _ X.stack _ _ ⟨Value.ref (s.heap.objs.size+1)::us,[]⟩ (Value.ref (s.heap.objs.size+1)::(us++ds)) _ _ E (i.make C us [])
  (a.Ug.make C us []) (l _ (Value.ref (s.heap.objs.size+1)::us) a.Bv j) b c) λr s' Jc=>?_))
 cases r with
 |error e=>exact hx ZA Z _ _ e s' a Jc
 |ok m=>
  cases m with
  |ret u=>
   obtain⟨v,H',I3,d,n,g⟩:=a.after Jc;subst n;exact⟨d,⟨V.ref (s.heap.objs.size+1),H',I3,rfl,g⟩⟩
  |next=>exact False.elim Jc
  |brk=>exact False.elim Jc
  |cont=>exact False.elim Jc
theorem ZFw(M:Mk X.K C f)(F:CQ X.prog X.w X.K X.mg X.base CX k f fd ps sp)(a:Ba (k+1) X.A)(c:Gl X x)(b:X.mg x=some (.ref C))(d:Binds X.K fd ps ds)(hd:Vals EC ds)(hx:Passes CX X E)
  (g:PA X (e::es) t) (BN:Zq0 x:=by decide) (he:Ce X e es:=by rfl) (BZ:BEq X pos es:=by rfl) :
  PE X (.Call (.Name x p) (e::es) [] pos) (XU C sp EC E t):=by
 intro ZA s Z H Q I h;refine x3 (Je I c b ?_ BN);refine VQ (h₀:=X.base) I.ok.mod.J2 M.kp (g.k pos I h λus s1 vs H1 I1 r q=>⟨I1.Bv,?_⟩) he BZ;exact wC M F a d hd hx I1 r q
variable{kws:List Keyword}{tk:TA}{nm:Option Str}{g:List Value->List Value->List Value}{gV:List V->List V->List V}
end
structure Ao (N P:List Str) (sc:Scope):Prop where
 kind:sc.kind=.function
 co:sc.isCoroutine=false
 gen:sc.isGenerator=false
 nd:N.Nodup
 pre:N.take P.length=P
 par:∀x∈P,sc.names.lookup x=some .local∨sc.names.lookup x=some .cell
 ZGW:∀y∈sc.names,y.2≠.free
theorem je{a:Str->Option NameKind}{x:Str}:∀{binds:List (Str×Value)}{m:ZJc},(∀v,(x,v)∉binds)->bindL a binds m x=m x
 | [],_,_=>rfl
 | (n,v)::r,m,h=>by
  unfold bindL;rw[je λw hw=>h w (Dd _ hw)];split
  .have:x≠n:=by rintro rfl;exact h v DC
   simp[this]
  .rfl
theorem iO{a:Str->Option NameKind}{x:Str}:∀{binds:List (Str×Value)}{m:ZJc},(∀v,(x,v)∉binds)->bindC a binds m x=m x
 | [],_,_=>rfl
 | (n,v)::r,m,h=>by
  unfold bindC;rw[iO λw hw=>h w (Dd _ hw)];split
  .rfl
  .have:x≠n:=by rintro rfl;exact h v DC
   simp[this]
theorem jv{a:Str->Option NameKind}{x:Str}{v:Value}:∀{P:List Str}{vs:List Value}{i:Nat}{m:ZJc},P.Nodup->P[i]?=some x->vs[i]?=some v->a x=some .local->
  bindL a (P.zip vs) m x=some v
 | [],_,_,_,_,h,_,_=>by simp at h
 |_::_,[],_,_,_,_,h,_=>by simp at h
 |p::P,w::vs,0,m,nd,h1,h2,hk=>by
  simp at h1 h2;subst h1;subst h2;show bindL a ((p,w)::P.zip vs) m p=_;unfold bindL;rw[je λv b=>(List.nodup_cons.mp nd).1 (VI b).1,tX hk];simp
 |p::P,w::vs,i+1,m,nd,h1,h2,hk=>by
  show bindL a ((p,w)::P.zip vs) m x=_;unfold bindL;exact jv (i:=i) (List.nodup_cons.mp nd).2 (by simpa using h1) (by simpa using h2) hk
theorem iq{a:Str->Option NameKind}{x:Str}{v:Value}:∀{P:List Str}{vs:List Value}{i:Nat}{m:ZJc},P.Nodup->P[i]?=some x->vs[i]?=some v->a x≠some .local->
  bindC a (P.zip vs) m x=some v
 | [],_,_,_,_,h,_,_=>by simp at h
 |_::_,[],_,_,_,_,h,_=>by simp at h
 |p::P,w::vs,0,m,nd,h1,h2,hk=>by
  simp at h1 h2;subst h1;subst h2;show bindC a ((p,w)::P.zip vs) m p=_;unfold bindC;rw[iO λv b=>(List.nodup_cons.mp nd).1 (VI b).1,qg hk];simp
 |p::P,w::vs,i+1,m,nd,h1,h2,hk=>by
  show bindC a ((p,w)::P.zip vs) m x=_;unfold bindC;exact iq (i:=i) (List.nodup_cons.mp nd).2 (by simpa using h1) (by simpa using h2) hk
noncomputable def start(N:List Str)(vs:List V):St:=vs.map some++List.replicate (N.length - vs.length) none
noncomputable def DG(CX:Gs)(P:Program)(w:World)(K:ZJa)(mg:ZJc)(ZB:Heap)(N:List Str)(qual:Str)(scope:Scope)(f:Addr)(cd:Value)(A:Around)(outer:List Env)(s:Shared)(H:Hp)(E:XK):Cx where
 prog:=P
 w:=w
 K:=K
 mg:=mg
 base:=ZB
 A:=A.deeper (envOfC qual scope s.heap.objs.size f cd)
 N:=N
 s₀:=s
 H₀:=H
 env:=envOfC qual scope s.heap.objs.size f cd
 outer:=outer
 stack:=envOfC qual scope s.heap.objs.size f cd::outer
 ex:=[]
 calm:=true
 fn:=λ_=>true
 pn:=[]
 xe:=λe s'=>wpAny (model P w) (A.deeper (envOfC qual scope s.heap.objs.size f cd)) (leaving (envOfC qual scope s.heap.objs.size f cd) e) (λ_ Qi=>CX outer H s E e Qi) (λa Qi=>CX outer H s E a Qi) s'
theorem jn(h:sc.names.lookup x=some .cell):∃c,(cellsFrom n sc.names []).lookup x=some c:=by
 have q:=ZIh sc.names n [] (.inl h);exact Option.isSome_iff_exists.mp q
theorem pe{P:Program}{K:ZJa}{f:Addr}{s1:Shared}{E:XK}
  (S:Ao N ps scope) (hd:A.handled=none) (e0:Md P w K mg ZB A outer s H) (C:vs.length=ps.length) (r:Vals vs us)
  (x:InCallC s s.heap.objs.size (bindL (envOfC qual scope s.heap.objs.size f cd).kindOf (ps.zip us) λ_=>none) (cellsFrom (s.heap.objs.size+1) scope.names []) (bindC (envOfC qual scope s.heap.objs.size f cd).kindOf (ps.zip us) λ_=>none) s1) :
  Inv (DG CX P w K mg ZB N qual scope f cd A outer s H E) [] (start N vs) H s1:=by
 have F:ps.length<=N.length:=by have:=vB List.length S.pre;rw[DM]at this;omega
 obtain⟨h1,tk,rfl,o⟩:=x.done;have j:∀b:Addr,b∉(DG CX P w K mg ZB N qual scope f cd A outer s H E).ex:=λb z=>absurd (show b∈([]:List Addr)from z) (by simp);refine⟨⟨e0.mod,S.kind,rfl,rfl,B4 _,λy z c h1 h2=>?_,λy d=>?_,λy c _ h=>?_,λ_=>hd,Around.frames_deeper e0.frames,.inr ⟨rfl,rfl⟩,λb z=>absurd z (j b),e0.bs,e0.HW,λb _ _=>j b,λb z=>absurd z (j b),e0.Fc,e0.JF⟩,
  rfl,e0.bare,Un.kept o,⟨_,x.toInCall.ns,λi y v h1 h2 D=>?_⟩,λy c h=>⟨_,x.cell y c h⟩,e0.AH.fresh (B4 _),λy c h=>?_,λp g=>absurd (show p∈([]:ZJb)from g) (by simp),e0.AH.kept o,?_⟩
 .exact name_of_addr x.apart (Mr h1) (Mr h2)
 .have d:scope.names.lookup y=some .cell∨scope.names.lookup y=some .free:=d;rcases d with d|d
  .exact jn d
  .exact absurd rfl (S.ZGW _ (Mr d))
 .exact Oj (x.above y c (Mr h))
 .have hi:i<vs.length:=by
   unfold start at h2
   by_cases hi:i<vs.length
   .exact hi
   .rw[K9 (by simpa using hi)]at h2
    rw[ot]at h2;split at h2 <;> cases h2
  have B:vs[i]?=some v:=by
   unfold start at h2;rw[IA (by simpa using hi),Bb]at h2
   cases e:vs[i]? with
   |none=>rw[e]at h2;cases h2
   |some a=>rw[e]at h2;cases h2;rfl
  obtain⟨u,m,t⟩:=r.get B;have g:ps[i]?=some y:=by
   rw[<- S.pre,List.getElem?_take_of_lt (by omega)];exact h1
  have l:ps.Nodup:=by rw[<- S.pre];exact S.nd.sublist (List.take_sublist _ _)
  refine⟨u,t,?_⟩;rcases S.par y (EL g)with k|k
  .exact .inl ⟨k,jv l g m k⟩
  .obtain⟨c,e⟩:=jn (n:=s.heap.objs.size+1) k;refine .inr ⟨.inl k,c,e,?_⟩;have q:=x.cell y c e;rw[iq l g m (by show scope.names.lookup y≠_;rw[k];decide)]at q;exact q
 .exact e0.AH.fresh (Oj (x.above y c (Mr h)))
 .unfold start;show _=N.length;rw[CP,AK,ZIN];omega
theorem eV{P:Program}{K:ZJa}{k:Nat}{f:Addr}{a:Arguments}{body:List Stmt}{p kV g m Ai ct C:Value}{z od:Option Addr}
  {JW:Array (Option Value)}{sp:Sp}(D:K.lookup f=some ⟨C,od,.func (PySem.W.fnOf name qual a body scope p kV g m z Ai ct),JW⟩) (Ef:PySem.W.codeIn K Ai qual=true) (S:Ao N ps scope)
  (len:∀vs H Q E,sp vs H Q E->vs.length=ps.length)
  (MZ:∀(A:Around)(outer:List Env)(s:Shared)(H:Hp)(vs:List V)(Q:VK)(E:XK),Ba k (A.deeper (envOfC qual scope s.heap.objs.size f Ai))->sp vs H Q E->
   ∃t,Dl (DG CX P w K mg ZB N qual scope f Ai A outer s H E) body t/\t { nx:=λ_ H'=>Q .A9 H',rt:=Q } (start N vs) H) :
  CQ P w K mg ZB CX (k+1) f (PySem.W.fnOf name qual a body scope p kV g m z Ai ct) ps sp:=by
 refine⟨len,λA outer s H args us vs Q E j e0 R r Fi=>?_⟩;have M:=len _ _ _ _ Fi;have B:K.In s.heap:=e0.mod.J2.keeps λb o e=>(e0.bs b o e).1;have i:s.heap.NoLimit:=e0.mod.nolimit.keeps λb o e=>(e0.bs b o e).1;have l:∀y∈ps.zip us,scope.names.lookup y.1=some .local∨(scope.names.lookup y.1=some .cell/\((cellsFrom (s.heap.objs.size+1) scope.names []).lookup y.1).isSome=true):=λ⟨n,v⟩F=>by
  rcases S.par n (VI F).1 with q|q
  .exact .inl q
  .exact .inr ⟨q,ZIh _ _ _ (.inl q)⟩
 refine codeAny_call_function j.depth (B _ _ D) rfl S.co S.gen rfl (PySem.W.codeRec_of B Ef) (R _ _ _ _ ?_);refine wpAny_newFunctionEnv_cells S.kind l λenv O s1 x=>?_;subst O;refine⟨i.keeps x.toInCall.keep,codeAny_func ?_⟩;obtain⟨t,G,L⟩:=MZ A outer s H vs Q E (j.deeper _) Fi;have I:Inv (DG CX P w K mg ZB N qual scope f Ai A outer s H E) [] (start N vs) H s1:=pe S j.hd e0 M r x;refine ud (G [] s1 (start N vs) H _ I L) (λT s' c=>?_) λe s' c=>c;have d:∀{σ':St}{H':Hp}{v:V}{u:Value},Inv (DG CX P w K mg ZB N qual scope f Ai A outer s H E) [] σ' H' s'->RelV v u->Q v H'->CE outer P w H s Q u s':=
  λ{σ' H' v u}J h q=>⟨v,H',J.os,J.bare,J.base,J.AH,h,q⟩
 cases T with
 |ret u=>
  obtain⟨v,σ',H',J,h,q⟩:=c;exact d J h q
 |next=>
  obtain⟨σ',H',J,q⟩:=c;exact d (v:=V.A9) (u:=Value.none) J rfl q
 |brk=>
  obtain⟨_,_,_,q⟩:=c;exact False.elim q
 |cont=>
  obtain⟨_,_,_,q⟩:=c;exact False.elim q
section
variable{p:Pos}{id T:String}{r:List V->Hp->VK->Prop}
def DH(r:List V->Hp->VK->Prop)(t:TA):TE:=λZ H Q=>t Z H λvs H1=>r vs H1 Q
end
end L2
namespace HT
variable{E Q:Value->Shared->Prop}{sl t:Addr}{v vl vu:Value}{hi o:Option Int}
section
open PySem.SeqAt
open PySem.AutoSeq1 (wpAny_loadPart')
open PySem.MeetsSeq PySem.MeetsSeq2 PySem.MeetsSeq3
end
section
variable{prog:Program}{w:World}{A:Around}{s:Shared}
theorem ZFP{b:Addr}{vs ws:List Value}(g:IsTup s.heap t vs.toArray)(h:IsTup s.heap b ws.toArray)(d:vs≠[])
  (h1:ws=[]->Q (.ref t) s) (h2:ws≠[]->Q (.ref s.heap.objs.size) { s with heap:=s.heap.push { cls:=.type "tuple", data:=.seq (vs++ws).toArray } })
  (hsz:vs.length+ws.length<=sizeLine):wpAny (model prog w) A (binaryOp .Add (.ref t) (.ref b)) Q E s:=by
 obtain⟨⟨cls,dd,data,sl⟩,ho,f,n,hd⟩:=id g;obtain⟨⟨ZH1,Tb,c,Hu⟩,IX,M9,n2,a⟩:=id h;simp only at f hd M9 a;subst f hd M9 a;have e:vs.toArray++ws.toArray=(vs++ws).toArray:=by simp
 by_cases hw:ws=[]
 .exact concat_meets ⟨_,ho,rfl⟩ ⟨_,IX,rfl⟩ ZB7 seq_tuple_add pH pF (pE _ _)
   (tuple_addW1 t b vs.toArray ws.toArray n n2 dd Tb sl Hu (by simpa using d) (by simp[hw])) ⟨ho,IX,h1 hw⟩
 .refine concat_meets ⟨_,ho,rfl⟩ ⟨_,IX,rfl⟩ ZB7 seq_tuple_add pH pF (pE _ _)
   (tuple_addW2 t b vs.toArray ws.toArray n n2 dd Tb sl Hu (by simpa using d) (by simpa using hw) (by rw[CL,CL];exact hsz)) ⟨ho,IX,?_⟩
  rw[e];exact h2 hw
noncomputable def Ay(n d:Nat):Option Int->Nat
 |none=>d
 |some v=>if v<0 then(v+(n:Int)).toNat else min v.toNat n
theorem Uz(n d:Nat):Ay n d none=d:=rfl
theorem LP(n d k:Nat):Ay n d (some (k:Int))=min k n:=by
 show(if(k:Int)<0 then((k:Int)+(n:Int)).toNat else min (k:Int).toNat n)=min k n
 rw[qg (by omega),VE]
theorem ZCB(n d:Nat)(hd:d<=n)(o:Option Int):Ay n d o<=n:=by
 cases o with
 |none=>exact hd
 |some v=>
  show(if v<0 then(v+(n:Int)).toNat else min v.toNat n)<=n
  by_cases a:v<0
  .rw[tX a];omega
  .rw[qg a];exact ZIV _ _
theorem oF(v:Int)(n d:Nat):(if v<0 then max (v+(n:Int)) 0 else min v (n:Int))=((Ay n d (some v):Nat):Int):=by
 show(if v<0 then max (v+(n:Int)) 0 else min v (n:Int))=(((if v<0 then(v+(n:Int)).toNat else min v.toNat n):Nat):Int)
 by_cases a:v<0
 .simp only[tX a];omega
 .simp only[qg a];omega
theorem ZEd(lo hi:Option Int)(n:Nat):Builtin.Slice.sliceAdjust lo hi 1 (n:Int)=(((Ay n 0 lo:Nat):Int),((Ay n n hi:Nat):Int)):=by
 have h1:¬ ((1:Int)<0):=by omega
 unfold Builtin.Slice.sliceAdjust;simp only[h1,ZBE];refine Prod.ext ?_ ?_
 .cases lo with
  |none=>rfl
  |some v=>exact oF v n 0
 .cases hi with
  |none=>rfl
  |some v=>exact oF v n n
theorem ue(i j:Nat):Builtin.Slice.slicePlaces (i:Int) (j:Int) 1=j - i:=by
 unfold Builtin.Slice.slicePlaces;have h1:(1:Int) > 0:=by omega
 simp only[h1,ZBU,Int.ediv_one];split <;> omega
theorem eM{Q:Option Int->Shared->Prop}(p:IsPart v o)(h:Q o s):wpAny (model prog w) A (Builtin.Slice.slicePartIndex v) Q E s:=by
 cases p with
 |none=>exact slicePart_none h
 |int i t=>exact slicePart_int h
theorem gX{lo:Option Int}{n:Nat}{Q:Int×Int×Nat->Shared->Prop}(b:s.heap.IsSliceOf sl vl vu .none)(pl:IsPart vl lo)(a:IsPart vu hi)
  (h:Q (((Ay n 0 lo:Nat):Int),1,Ay n n hi - Ay n 0 lo) s):wpAny (model prog w) A (Builtin.Slice.sliceApplied (.ref sl) (pure (n:Int))) Q E s:=by
 obtain⟨os,LX,V3,QV⟩:=id b;unfold Builtin.Slice.sliceApplied Builtin.Slice.sliceFields;refine pK (pK (ZAV LX QV (x:=vl) rfl (pK (ZAV LX QV (x:=vu) rfl (pK (ZAV LX QV (x:=.none) rfl (qm ?_)))))));refine pK (slicePart_none ?_);show wpAny _ _ (if((1:Int) == 0)=true then _ else _) _ _ s
 rw[qg (by decide)];refine pK (eM pl (pK (eM a (pK (qm ?_)))));show wpAny _ _ (match Builtin.Slice.sliceAdjust lo hi 1 (n:Int)with|(lo,hi)=>pure (lo,(1:Int),Builtin.Slice.slicePlaces lo hi 1)) _ _ s
 rw[ZEd lo hi n];show wpAny _ _ (pure (((Ay n 0 lo:Nat):Int),(1:Int),Builtin.Slice.slicePlaces ((Ay n 0 lo:Nat):Int) ((Ay n n hi:Nat):Int) 1)) _ _ s;rw[ue];exact qm h
theorem sD(xs:Array Value)(i k:Nat):((List.range k).filterMap λ(m:Nat)=>xs[((i:Int)+(m:Int) * 1).toNat]?).toArray=((xs.toList.drop i).take k).toArray:=by
 have e:(λ(m:Nat)=>xs[((i:Int)+(m:Int) * 1).toNat]?)=λm=>xs[i+m]?:=by
  funext m
  have:((i:Int)+(m:Int) * 1).toNat=i+m:=by omega
  rw[this]
 rw[e];have:=pick_run xs i k;rw[List.filterMap_map]at this;have a:((λx=>xs[x]?) ∘ λx=>i+x)=λm=>xs[i+m]?:=rfl;rw[a]at this;rw[this]
theorem ZFH{items:Array Value}{lo:Option Int}(a:IsTup s.heap t items)(c:s.heap.IsSliceOf sl vl vu .none)(pl:IsPart vl lo)(d:IsPart vu hi)
  (hw:¬ (Ay items.size 0 lo=0/\Ay items.size items.size hi=items.size))
  (h:Q (.ref s.heap.objs.size) { s with heap:=s.heap.push { cls:=.type "tuple", data:=.seq ((items.toList.drop (Ay items.size 0 lo)).take (Ay items.size items.size hi - Ay items.size 0 lo)).toArray } })
  (hsz:items.size<=sizeLine):wpAny (model prog w) A (getItem (.ref t) (.ref sl)) Q E s:=by
 have b:sizeOk (.seq ((items.toList.drop (Ay items.size 0 lo)).take (Ay items.size items.size hi - Ay items.size 0 lo)).toArray):=by
  show((items.toList.drop (Ay items.size 0 lo)).take (Ay items.size items.size hi - Ay items.size 0 lo)).toArray.size<=sizeLine;rw[CL,DM,HK,Mj];omega
 have j:Ay items.size items.size hi<=items.size:=ZCB _ _ (B4 _) hi;obtain⟨os,LX,V3,QV⟩:=id c;have e:s.TypeIs (.ref sl) "slice" := ⟨os,LX,V3⟩;unfold getItem
 try with_reducible refine vH ?_
 first|refine pK (qm ?_)|skip
 refine pK (wpAny_sequenceKey a.typeIs (by decide) ?_);refine pK (wpAny_callSpecial?_slot (name:=Str.ofString "__getitem__") a.typeIs d5
  (ZAI d5 a.typeIs entry_tuple_getitem ?_ (args_tuple_getitem _ _)))
 show wpAny _ _ (Builtin.Tuple.tupleItemsOf (.ref t) >>= _) _ _ s;refine pK (tupleItemsOf_ a ?_);refine pK (xT e ?_);rw[tX (by decide)];refine pK (gX c pl d ?_);have f:¬ ((((Ay items.size 0 lo:Nat):Int) == 0 && (1:Int) == 1 && (Ay items.size items.size hi - Ay items.size 0 lo) == items.size)=true):=by
  intro q;rw[Dm,Dm]at q;have i:((Ay items.size 0 lo:Nat):Int)=0:=eq_of_beq q.1.1;have g:Ay items.size items.size hi - Ay items.size 0 lo=items.size:=eq_of_beq q.2;exact hw ⟨by omega,by omega⟩
 show wpAny _ _ (if(((Ay items.size 0 lo:Nat):Int) == 0 && (1:Int) == 1 && (Ay items.size items.size hi - Ay items.size 0 lo) == items.size)=true then _ else _) _ _ s
 rw[qg f,sD]
 first
  |exact pK (m:=Builtin.Tuple.tupleExact _) (xI (qm ⟨_,rfl,qm h⟩) b)
  |exact pK (m:=Builtin.Tuple.tupleExact _) (xI (pK (qm (qm ⟨_,rfl,qm h⟩))) b)
  |exact pK (pK (m:=Builtin.Tuple.tupleExact _) (xI (qm (qm ⟨_,rfl,qm h⟩)) b))
  |exact pK (pK (m:=Builtin.Tuple.tupleExact _) (xI (qm ⟨_,rfl,qm h⟩) b))
end
end HT
namespace L2
variable{X:Cx}{pos:Pos}{xs ys:List V}{A5 its' us:List Value}{α:Type}{j n t':Nat}{i:Int}{ZA:ZJb}{Z:St}{H:Hp}{s:Shared}{A:Around}{x y:V}{u v:Value}{T:String}
abbrev TO:=St->Hp->(Option Int->Hp->Prop)->Prop
def PO(X:Cx)(e:Option Expr)(t:TO):Prop:=
 ∀(ZA:ZJb)(s:Shared)(Z:St)(H:Hp)(Q:Option Int->Hp->Prop),Inv X ZA Z H s->t Z H Q->
  Zq2 X (evalPart e X.env) (λu s'=>∃o H',Inv X ZA Z H' s'/\IsPart u o/\Q o H') X.xe s
def Xu:TO:=λ_ H Q=>Q none H
def ah(t:TE):TO:=λZ H Q=>t Z H λx H1=>∃i,x=.int i/\Q (some i) H1
section
variable{e:Expr}{te:TE}{lo hi:Option Expr}{tl th:TO}{p2:Pos}
def MU(X:Cx)(r:V->Option Int->Option Int->Hp->VK->Prop):Prop:=
 ∀(ZA:ZJb)(s:Shared)(Z:St)(H:Hp)(x:V)(v vl vu:Value)(lo hi:Option Int)(sl:Addr)(Q:VK),Inv X ZA Z H s->RelV x v->s.heap.IsSliceOf sl vl vu .none->IsPart vl lo->IsPart vu hi->r x lo hi H Q->
  ∃T id,typeLookup (.type T) "__getitem__"=pure (some (.builtin id))/\s.TypeIs v T/\Zq2 X (getItem v (.ref sl)) (EP X ZA Z Q) X.xe s
def Nk(r:V->Option Int->Option Int->Hp->VK->Prop)(te:TE)(tl th:TO):TE:=λZ H Q=>te Z H λx H1=>tl Z H1 λl H2=>th Z H2 λu H3=>r x l u H3 Q
def Cq(xs:List V)(lo hi:Option Int):List V:=(xs.drop (HT.Ay xs.length 0 lo)).take (HT.Ay xs.length xs.length hi - HT.Ay xs.length 0 lo)
theorem kJ(xs:List V)(lo hi:Option Int):(Cq xs lo hi).length<=xs.length:=by
 unfold Cq;rw[DM,HK];omega
def tK(K:ZJa):V->Option Int->Option Int->Hp->VK->Prop:=λx lo hi H Q=>∃a xs,x=.ref a/\AW K H a xs/\
 ¬ (HT.Ay xs.length 0 lo=0/\HT.Ay xs.length xs.length hi=xs.length)/\∀p,H p=none->Q (.ref p) (upd H p (.tup (Cq xs lo hi)))
theorem dw:MU X (tK X.K):=by
 intro ZA s Z H x v vl vu lo hi sl Q I g j pl i h;obtain⟨a,xs,rfl,hx,hw,q⟩:=h;cases g;obtain⟨A5,r,e,d⟩:=I.tuple hx;have c:A5.toArray.size=xs.length:=by rw[CL];exact r.length.symm
 refine⟨"tuple", _,PyProof.Rows.slot_tuple_getitem.lookup,e.typeIs,?_⟩;refine HT.ZFH e j pl i (by rw[c];exact hw) ?_ (by rw[c];exact d);rw[c];refine⟨.ref s.heap.objs.size,_,I.laid (t':=s.toks) (o:=.tup (Cq xs lo hi)) (λb ob q=>Bf _ q) (B4 _) ?_,rfl,q _ (I.AH.fresh (B4 _))⟩;exact⟨Bi (kJ xs lo hi) d,_,(r.drop (HT.Ay xs.length 0 lo)).take (HT.Ay xs.length xs.length hi - HT.Ay xs.length 0 lo),⟨IsTup.new _ _,λTd f=>by rw[CK _ rfl]at f;cases f;rfl⟩⟩
def tG(K:ZJa):R2:=λx y H Q=>∃a b xs ys,x=.ref a/\y=.ref b/\AW K H a xs/\AW K H b ys/\xs≠[]/\xs.length+ys.length<=sizeLine/\
 (ys=[]->Q (.ref a) H)/\(ys≠[]->∀p,H p=none->Q (.ref p) (upd H p (.tup (xs++ys))))
theorem Vals.Ue(r:Vals xs us):us=[]↔xs=[]:=by
 cases r with
 |nil=>simp
 |cons _ _=>simp
theorem ZDQ:Bc X (binaryOp .Add) (tG X.K):=by
 intro ZA s Z H x y v u Q I i g h;obtain⟨a,b,xs,ys,rfl,rfl,m,l,hx,e,k,j⟩:=h;cases i;cases g;obtain⟨A5,d,p1,_⟩:=I.tuple m;obtain⟨C0,c,p2,_⟩:=I.tuple l;refine HT.ZFP p1 p2 (λz=>hx (d.Ue.mp z)) (λz=>⟨.ref a,H,I,rfl,k (c.Ue.mp z)⟩) (λz=>?_) (by rw[<- d.length,<- c.length];exact e);refine⟨.ref s.heap.objs.size,_,I.laid (t':=s.toks) (o:=.tup (xs++ys)) (λb ob q=>Bf _ q) (B4 _) ?_,rfl,j (λw=>z (c.Ue.mpr w)) _ (I.AH.fresh (B4 _))⟩;exact⟨by rw[CP];exact e,_,d.append c,⟨IsTup.new _ _,λTd f=>by rw[CK _ rfl]at f;cases f;rfl⟩⟩
end
noncomputable def Hv(n:Nat)(i:Int):Option Nat:=if 0<=i then(if i<n then some i.toNat else none)else if -(n:Int)<=i then some (i+n).toNat else none
def Bt(xs:List α)(i:Int):Option α:=(Hv xs.length i).bind λj=>xs[j]?
theorem nE(h:Hv n i=some j):seqIndex? i n=some j/\j<n/\-(n:Int)<=i/\i<n:=by
 unfold Hv at h
 by_cases a:0<=i
 .rw[tX a]at h
  by_cases h1:i<n
  .rw[tX h1]at h;have e:i.toNat=j:=Bs h;exact⟨by rw[seqIndex_of a h1,e],by omega,by omega,h1⟩
  .rw[qg h1]at h;cases h
 .rw[qg a]at h
  by_cases h1:-(n:Int)<=i
  .rw[tX h1]at h;have e:(i+n).toNat=j:=Bs h;exact⟨by rw[seqIndex_neg (by omega) h1,e],by omega,h1,by omega⟩
  .rw[qg h1]at h;cases h
theorem ZP{xs:List α}{v:α}(h:Bt xs i=some v):∃j,seqIndex? i xs.length=some j/\xs[j]?=some v/\j<xs.length/\-(xs.length:Int)<=i/\i<xs.length:=by
 unfold Bt at h;cases e:Hv xs.length i with
 |none=>rw[e]at h;cases h
 |some j=>
  rw[e]at h;obtain⟨h1,h2,b,a⟩:=nE e;exact⟨j,h1,h,h2,b,a⟩
theorem Kq{xs:List α}{v:α}(h:xs[j]?=some v):Bt xs (j:Int)=some v:=by
 have a:j<xs.length:=(List.getElem?_eq_some_iff.mp h).1;have e:Hv xs.length (j:Int)=some j:=by
  unfold Hv;rw[tX (by omega),tX (by omega)];simp
 unfold Bt;rw[e];exact h
def XQ(b:Expr):Prop:=∀o i,subscripted b false o i=operate [o,i] (getItem o i)
def J7(X:Cx)(r:R2):Prop:=
 ∀(value a:Expr)(ZA:ZJb)(s:Shared)(Z:St)(H:Hp)(x y:V)(v u:Value)(Q:VK),Inv X ZA Z H s->RelV x v->RelV y u->r x y H Q->
  subscripted a false v u=operate [v,u] (getItem v u)->Zq2 X (subscriptTail value a v u) (EP X ZA Z Q) X.xe s
def La(X:Cx)(id:String)(r:V->List V->Hp->VK->Prop):Prop:=
 ∀(ZA:ZJb)(s:Shared)(Z:St)(H:Hp)(x:V)(xs:List V)(v:Value)(us:List Value)(Q:VK),Inv X ZA Z H s->RelV x v->Vals xs us->r x xs H Q->
  Zq2 X (call (.builtin id) (v::us)) (EP X ZA Z Q) X.xe s
section
variable{a b:Expr}{ta tb:TE}
def Se(K:ZJa):R2:=λx y H Q=>∃p xs i v,x=.ref p/\y=.int i/\Ab K H p xs/\Bt xs i=some v/\Q v H
def Ng(K:ZJa):R2:=λx y H Q=>∃p xs i v,x=.ref p/\y=.int i/\AW K H p xs/\Bt xs i=some v/\Q v H
def zH:R2:=λx y H Q=>∃z i c,x=.str z/\y=.int i/\z.length<=sizeLine/\Bt z.cps.toList i=some c/\Q (.str ⟨#[c]⟩) H
theorem ER:J7 X (Se X.K):=by
 intro value b ZA s Z H x y v u Q I k g h d;obtain⟨p,xs,i,z,rfl,rfl,l,n,q⟩:=h;cases k;obtain⟨t,rfl⟩:=g;obtain⟨A5,r,pl,B⟩:=I.list l;obtain⟨j,h1,h2,C,A,o⟩:=ZP n;obtain⟨w,f,Gp⟩:=r.get h2;have m:=r.length;have hn:=L9;have a:EP X ZA Z Q w s:=⟨z,H,I,Gp,q⟩
 by_cases e:0<=i
 .have c:i.toNat=j:=by
   rw[seqIndex_of e o]at h1;exact Bs h1
  exact item_listR pl.isList e (by omega) (by rw[c];simpa using f) a d
 .have c:(i+(A5.toArray.size:Int)).toNat=j:=by
   rw[seqIndex_neg (by omega) A]at h1;rw[CL,<- m];exact Bs h1
  exact subscriptTail_builtinR (x:=w) pl.isList.typeIs slot_list_getitem.lookup
   (wpAny_getItem_list_neg (Q:=λr s'=>r=w/\EP X ZA Z Q r s') pl.isList (by omega) (by rw[CL] <;> omega) (by omega) (by rw[c];simpa using f) ⟨rfl,a⟩) d
theorem AL:J7 X (Ng X.K):=by
 intro value a ZA s Z H x y v u Q I d c h e;obtain⟨p,xs,i,z,rfl,rfl,f,k,q⟩:=h;cases d;obtain⟨t,rfl⟩:=c;obtain⟨A5,r,pl,m⟩:=I.tuple f;obtain⟨j,h1,h2,A,o,n⟩:=ZP k;obtain⟨w,l,Gp⟩:=r.get h2;have g:=r.length;have hn:=L9;have b:EP X ZA Z Q w s:=⟨z,H,I,Gp,q⟩;exact subscriptTail_builtinR (x:=w) pl.typeIs slot_tuple_getitem.lookup
  (getItem_tuple (j:=j) (Q:=λr s'=>r=w/\EP X ZA Z Q r s') pl (by omega) (by omega) (by rw[CL,<- g];exact h1) (by simpa using l) ⟨rfl,b⟩) e
theorem ZHr:J7 X zH:=by
 intro value a ZA s Z H x y v u Q I d b h e;obtain⟨z,i,c,rfl,rfl,o,g,q⟩:=h;obtain⟨t,rfl⟩:=d;obtain⟨t',rfl⟩:=b;obtain⟨j,h1,h2,p,l,k⟩:=ZP g;have f:z.cps.toList.length=z.length:=by simp[Str.length]
 rw[f]at h1 l k;have hn:=L9;exact tail_any (typeIs_str s z t) slot_str_getitem.lookup (getItem_str (c:=c) (by
  have n:decide (i < -(2 ^ 63:Int))=false:=uK (by omega);have m:decide (i>=2 ^ 63)=false:=uK (by omega);rw[n,m,Bool.or_false]) (by rw[h1];simpa using h2) ⟨.str ⟨#[c]⟩,H,I.tok _,⟨_,rfl⟩,q⟩) e
theorem ZEs(A5:List Value)(n j:Nat)(u:Value):Obj.mapSeq (·.setIfInBounds j u) { cls:=.type "list", data:=.seq A5.toArray n }={ cls:=.type "list", data:=.seq (A5.set j u).toArray n }:=by
 simp[Obj.mapSeq]
theorem Inv.lst{ZA:ZJb}{Z:St}{H:Hp}{s:Shared}{p:Addr}{xs:List V}(I:Inv X ZA Z H s)(h:H p=some (.lst xs)):
  ∃(A5:List Value)(n:Nat),Vals xs A5/\s.heap.get? p=some { cls:=.type "list", data:=.seq A5.toArray n }/\xs.length<=sizeLine:=by
 obtain⟨z,A5,n,r,e⟩:=I.AH p _ h;exact⟨A5,n,r,e,z⟩
theorem Inv.ZA7{p:Addr}{a:Nat}{f:Obj->Obj}(I:Inv X ZA Z H s)(h:H p=some (.lst xs))
  (ho:s.heap.get? p=some { cls:=.type "list", data:=.seq A5.toArray n }) (hf:f { cls:=.type "list", data:=.seq A5.toArray n }={ cls:=.type "list", data:=.seq its'.toArray a }) (r:Vals ys its') (hz:ys.length<=sizeLine) (t:Nat) :
  Inv X ZA Z (upd H p (.lst ys)) { s with heap:=s.heap.update p f,toks:=t }:=by
 have e:(s.heap.update p f).get? p=some { cls:=.type "list", data:=.seq its'.toArray a }:=by
  rw[JQ f ho (by rw[hf] <;> rfl),hf]
 refine I.write (x:=p) (e:=p) (by rw[h];trivial) (.inl rfl) (λb u c q=>(G3 _ _ (BU c)).trans q) ⟨_,e⟩ ?_;exact⟨hz,its',a,r,e⟩
def ma:V->V->V->Hp->(Hp->Prop)->Prop:=λo i v H Q=>∃p xs k j,o=.ref p/\i=.int k/\H p=some (.lst xs)/\Hv xs.length k=some j/\Q (upd H p (.lst (xs.set j v)))
theorem set_list:ZX X ma:=by
 intro ZA s Z H o i v z A u Q I m w l h;obtain⟨p,xs,k,j,rfl,rfl,c,y,q⟩:=h;cases m;obtain⟨t,rfl⟩:=w;obtain⟨A5,n,r,ho,x⟩:=I.lst c;obtain⟨h1,h2,e,d⟩:=nE y;have a:=r.length;have hn:=L9;have g:Inv X ZA Z (upd H p (.lst (xs.set j v))) { s with heap:=s.heap.update p (Obj.mapSeq (·.setIfInBounds j u)) }:=
  I.ZA7 c ho (ZEs A5 n j u) (r.set l j) (by rw[KA];exact x) s.toks
 by_cases f:0<=k
 .have b:k.toNat=j:=by
   rw[seqIndex_of f d]at h1;exact Bs h1
  exact PySem.W.ki_setAt ho f (by omega) (by rw[CL,<- a];exact d) (by rw[b];exact⟨_,g,q⟩)
 .have b:(k+(A5.toArray.size:Int)).toNat=j:=by
   rw[seqIndex_neg (by omega) e]at h1;rw[CL,<- a];exact Bs h1
  exact PySem.W.ki_setBack ho (by omega) (by rw[CL,<- a];exact e) (by omega) (by rw[b];exact⟨_,g,q⟩)
theorem ZA5(lo hi:Option Int)(n:Nat):(sliceBounds lo hi none n).1=((HT.Ay n 0 lo:Nat):Int)/\(sliceBounds lo hi none n).2.1=((HT.Ay n n hi:Nat):Int)/\(sliceBounds lo hi none n).2.2=1:=by
 refine⟨?_,?_,rfl⟩
 .cases lo with
  |none=>simp[sliceBounds,HT.Ay]
  |some i=>
   simp only[sliceBounds,HT.Ay,ZIX,show(1:Int) > 0 by decide,ZBU]
   by_cases h:i<0
   .simp only[h,ZBU] <;> omega
   .simp only[h,ZBE] <;> omega
 .cases hi with
  |none=>simp[sliceBounds,HT.Ay]
  |some i=>
   simp only[sliceBounds,HT.Ay,ZIX,show(1:Int) > 0 by decide,ZBU]
   by_cases h:i<0
   .simp only[h,ZBU] <;> omega
   .simp only[h,ZBE] <;> omega
theorem xb(A5:List Value)(lo hi:Option Int):slicePick A5.toArray lo hi none=((A5.drop (HT.Ay A5.length 0 lo)).take (HT.Ay A5.length A5.length hi - HT.Ay A5.length 0 lo)).toArray:=by
 obtain⟨h1,h2,a⟩:=ZA5 lo hi A5.toArray.size;unfold slicePick;rw[h1,h2,a];simp only[sliceRange_one,pick_run,CL] <;> rfl
def bI(K:ZJa):V->Option Int->Option Int->Hp->VK->Prop:=λx lo hi H Q=>∃a xs,x=.ref a/\Ab K H a xs/\∀p,H p=none->Q (.ref p) (upd H p (.lst (Cq xs lo hi)))
theorem M8:MU X (bI X.K):=by
 intro ZA s Z H x v vl vu lo hi sl Q I e i pl f h;obtain⟨a,xs,rfl,hx,q⟩:=h;cases e;obtain⟨A5,r,d,g⟩:=I.list hx;have c:=r.length;refine⟨"list", _,slot_list_getitem.lookup,d.isList.typeIs,?_⟩;refine wpAny_getItem_list_slice d.isList i pl f .none (by simp) ?_ (by rw[CL] <;> omega)
 rw[xb,<- c];refine⟨.ref s.heap.objs.size,_,I.laid (t':=s.toks) (o:=.lst (Cq xs lo hi)) (λb ob q=>Bf _ q) (B4 _) ?_,rfl,q _ (I.AH.fresh (B4 _))⟩;exact⟨Bi (kJ xs lo hi) g,_,0,(r.drop (HT.Ay xs.length 0 lo)).take (HT.Ay xs.length xs.length hi - HT.Ay xs.length 0 lo),CK _ rfl⟩
noncomputable def DR:V->Bool
 | .A9=>true
 | .bl _=>true
 | .int _=>true
 | .str _=>true
 |_=>false
noncomputable def EB:V->V->Bool
 | .A9,.A9=>true
 | .bl a,.bl b=>a == b
 | .bl a,.int b=>(if a then 1 else 0) == b
 | .int a,.bl b=>a == (if b then 1 else 0)
 | .int a,.int b=>a == b
 | .str a,.str b=>a == b
 |_,_=>false
theorem SK(d:RelV y u)(c:RelV x v)(f:DR y=true)(e:DR x=true):SeqAt.EqAt A s u v (EB y x):=by
 cases y with
 |A9=>
  cases d;cases x with
  |A9=>cases c;exact SeqAt.EqAt.same _
  |bl b=>cases c;exact SeqAt.EqAt.none_bool b
  |int b=>obtain⟨t,rfl⟩:=c;exact SeqAt.EqAt.none_int b t
  |str b=>obtain⟨t,rfl⟩:=c;exact SeqAt.EqAt.none_str b t
  |_=>exact absurd (show false=true from e) Dc
 |bl a=>
  cases d;cases x with
  |A9=>cases c;exact SeqAt.EqAt.bool_none a
  |bl b=>cases c;exact SeqAt.EqAt.bool_bool a b
  |int b=>obtain⟨t,rfl⟩:=c;exact SeqAt.EqAt.bool_int a b t
  |str b=>obtain⟨t,rfl⟩:=c;exact SeqAt.EqAt.bool_str a b t
  |_=>exact absurd (show false=true from e) Dc
 |int a=>
  obtain⟨t',rfl⟩:=d;cases x with
  |A9=>cases c;exact SeqAt.EqAt.int_none a t'
  |bl b=>cases c;exact SeqAt.EqAt.int_bool a t' b
  |int b=>obtain⟨t,rfl⟩:=c;exact SeqAt.EqAt.int_int a t' b t
  |str b=>obtain⟨t,rfl⟩:=c;exact SeqAt.EqAt.int_str a t' b t
  |_=>exact absurd (show false=true from e) Dc
 |str a=>
  obtain⟨t',rfl⟩:=d;cases x with
  |A9=>cases c;exact SeqAt.EqAt.str_none a t'
  |bl b=>cases c;exact SeqAt.EqAt.str_bool a t' b
  |int b=>obtain⟨t,rfl⟩:=c;exact SeqAt.EqAt.str_int a t' b t
  |str b=>obtain⟨t,rfl⟩:=c;exact SeqAt.EqAt.str_str a t' b t
  |_=>exact absurd (show false=true from e) Dc
 |_=>exact absurd (show false=true from f) Dc
def Ds(x:V)(u:Value):Bool:=match u with
 | .none=>EB .A9 x
 | .bool b=>EB (.bl b) x
 | .int i _=>EB (.int i) x
 | .str z _=>EB (.str z) x
 |_=>false
theorem Zh(r:RelV y u)(f:DR y=true):Ds x u=EB y x:=by
 cases y with
 |A9=>cases r;rfl
 |bl b=>cases r;rfl
 |int i=>obtain⟨t,rfl⟩:=r;rfl
 |str z=>obtain⟨t,rfl⟩:=r;rfl
 |_=>exact absurd (show false=true from f) Dc
theorem Oz{x:V}:∀{xs:List V}{us:List Value},Vals xs us->xs.all DR=true->us.any (Ds x)=xs.any λy=>EB y x
 |_,_,.nil,_=>rfl
 |y::xs,u::us,.cons r t,f=>by
  rw[RA,Dm]at f;rw[Od,Od,Zh r f.1,Oz t f.2]
theorem Kc{A:Around}{s:Shared}{x:V}{v:Value}(b:RelV x v)(c:DR x=true):∀{xs:List V}{us:List Value},Vals xs us->xs.all DR=true->∀u∈us,SeqAt.EqAt A s u v (Ds x u)
 |_,_,.nil,_=>λu a=>by cases a
 |y::xs,u::us,.cons r t,f=>λd a=>by
  rw[RA,Dm]at f;rcases List.mem_cons.mp a with rfl|a
  .rw[Zh r f.1];exact SK r b f.1 c
  .exact Kc b c t f.2 d a
def HE(x:V)(xs:List V):Bool:=xs.any λy=>EB y x
def Lr(K:ZJa)(neg:Bool):R2:=λx y H Q=>∃p xs,y=.ref p/\(Ab K H p xs∨AW K H p xs)/\DR x=true/\xs.all DR=true/\Q (.bl (if neg then !HE x xs else HE x xs)) H
theorem Nn:Bc X (compareOp .In) (Lr X.K false):=by
 intro ZA s Z H x y v u Q I b d h;obtain⟨p,xs,rfl,a,c,fs,q⟩:=h;cases d;rcases a with a|a
 .obtain⟨A5,r,pl,e⟩:=I.list a;refine SeqAt.in_listAt (Ds x) pl.isList (λw hw=>Kc b c r fs w (by simpa using hw)) ⟨.bl _,H,I,rfl,?_⟩
  rw[show A5.toArray.any (Ds x)=A5.any (Ds x) by simp,Oz r fs];exact q
 .obtain⟨A5,r,pl,e⟩:=I.tuple a;refine SeqAt.in_tupleAt (Ds x) pl (λw hw=>Kc b c r fs w (by simpa using hw)) ⟨.bl _,H,I,rfl,?_⟩
  rw[show A5.toArray.any (Ds x)=A5.any (Ds x) by simp,Oz r fs];exact q
theorem M4:Bc X (compareOp .NotIn) (Lr X.K true):=by
 intro ZA s Z H x y v u Q I b d h;obtain⟨p,xs,rfl,a,c,fs,q⟩:=h;cases d;rcases a with a|a
 .obtain⟨A5,r,pl,e⟩:=I.list a;refine SeqAt.notIn_listAt (Ds x) pl.isList (λw hw=>Kc b c r fs w (by simpa using hw)) ⟨.bl _,H,I,rfl,?_⟩
  rw[show A5.toArray.any (Ds x)=A5.any (Ds x) by simp,Oz r fs];exact q
 .obtain⟨A5,r,pl,e⟩:=I.tuple a;refine SeqAt.notIn_tupleAt (Ds x) pl (λw hw=>Kc b c r fs w (by simpa using hw)) ⟨.bl _,H,I,rfl,?_⟩
  rw[show A5.toArray.any (Ds x)=A5.any (Ds x) by simp,Oz r fs];exact q
theorem S9:DQ X (.builtin "len") (λxs H Q=>∃p ys,xs=[.ref p]/\(Ab X.K H p ys∨AW X.K H p ys)/\Q (.int ys.length) H):=by
 intro ZA s Z H xs us Q I r h;obtain⟨p,ys,rfl,b,q⟩:=h;obtain⟨u,rfl,d⟩:=vals1 r;cases d;have hn:=L9;rcases b with b|b
 .obtain⟨A5,c,pl,e⟩:=I.list b;have a:=c.length;exact Calls.call_len_list pl.isList (by simp only[CL] <;> omega) ⟨.int ys.length,H,I.tok _,⟨s.toks+1,by rw[CL,a]⟩,q⟩
 .obtain⟨A5,c,pl,e⟩:=I.tuple b;have a:=c.length;exact len_tuple pl (by simp only[CL] <;> omega) ⟨.int ys.length,H,I.tok _,⟨s.toks+1,by rw[CL,a]⟩,q⟩
theorem Yt:DQ X (.builtin "len") (λxs H Q=>∃z,xs=[.str z]/\z.length<=sizeLine/\Q (.int z.length) H):=by
 intro ZA s Z H xs us Q I r h;obtain⟨z,rfl,a,q⟩:=h;obtain⟨u,rfl,t,rfl⟩:=vals1 r;have hn:=L9;exact len_str (by omega) ⟨.int z.length,H,I.tok _,⟨_,rfl⟩,q⟩
theorem Ms:DQ X (.type "list") (λxs H Q=>∃p ys,xs=[.ref p]/\(Ab X.K H p ys∨AW X.K H p ys)/\∀l,H l=none->Q (.ref l) (upd H l (.lst ys))):=by
 intro ZA s Z H xs us Q I r h;obtain⟨p,ys,rfl,f,q⟩:=h;obtain⟨u,rfl,k⟩:=vals1 r;cases k;have i:∀(A5:List Value),Vals ys A5->ys.length<=sizeLine->∀(h':Heap)(c:Nat),(∀b o',s.heap.get? b=some o'->h'.get? b=some o')->
   h'.get? s.heap.objs.size=some { cls:=.type "list", dict:=none,data:=.seq A5.toArray c,slots:=#[] }->EP X ZA Z Q (.ref s.heap.objs.size) { s with heap:=h' }:=λA5 a d h' c kp e=>
  ⟨.ref s.heap.objs.size,_,I.laid (t':=s.toks) kp (B4 _) (show CD X.prog X.w _ h' _ (.lst ys)from⟨d,A5,c,a,e⟩),rfl,q _ (I.AH.fresh (B4 _))⟩
 rcases f with f|f
 .obtain⟨A5,a,pl,d⟩:=I.list f;have g:=a.length;obtain⟨o,ho,j,n,hd⟩:=pl.isList;exact call_list_seq p (.inl rfl) ho j hd (λh' c kp e=>i A5 a d h' c kp e) (by simp only[CL] <;> omega)
 .obtain⟨A5,a,pl,d⟩:=I.tuple f;have g:=a.length;obtain⟨o,ho,j,n,hd⟩:=pl;exact call_list_seq p (.inr rfl) ho j hd (λh' c kp e=>i A5 a d h' c kp e) (by simp only[CL] <;> omega)
theorem Ki:DQ X (.type "tuple") (λxs H Q=>∃p ys,xs=[.ref p]/\((Ab X.K H p ys/\∀l,H l=none->Q (.ref l) (upd H l (.tup ys)))∨(AW X.K H p ys/\Q (.ref p) H))):=by
 intro ZA s Z H xs us Q I r h;obtain⟨p,ys,rfl,h⟩:=h;obtain⟨u,rfl,j⟩:=vals1 r;cases j;rcases h with⟨c,q⟩|⟨c,q⟩
 .obtain⟨A5,a,pl,d⟩:=I.list c;have f:=a.length;refine call_tuple_list pl.isList (λh' kp=>?_) (by simp only[CL] <;> omega)
  have i:Inv X ZA Z H { s with heap:=h' }:=I.kept (t':=s.toks) kp
  have k:Inv X ZA Z (upd H h'.objs.size (.tup ys)) { s with heap:=h'.push { cls:=.type "tuple", data:=.seq A5.toArray } }:=
   i.laid (t':=s.toks) (λb o e=>Bf _ e) (B4 _) (show CD X.prog X.w _ _ _ (.tup ys)from⟨d,A5,a,⟨IsTup.new _ _,λTd g=>by rw[CK _ rfl]at g;cases g;rfl⟩⟩)
  exact⟨.ref h'.objs.size,_,k,rfl,q _ (i.AH.fresh (B4 _))⟩
 .obtain⟨A5,a,pl,d⟩:=I.tuple c;exact call_tuple_same pl ⟨.ref p,H,I,rfl,q⟩
def Mb(K:ZJa)(T:String)(x:V)(H:Hp):Prop:=match x with
 | .str _=>T="str"
 | .int _=>T="int"
 | .ref p=>(T="list" /\ ∃xs,Ab K H p xs)∨(T="tuple" /\ ∃o,K.lookup p=some o/\o.cls=.type "tuple" /\ o.dict=none)∨
   (T="dict" /\ ((∃A6,H p=some (.dK A6))∨∃A6,H p=some (.dT A6)))∨(T="set" /\ ∃S n,H p=some (.set S n))∨(T="tuple" /\ ∃xs,H p=some (.tup xs))
 |_=>False
theorem ZBI(I:Inv X ZA Z H s)(r:RelV x v)(ty:Mb X.K T x H):
  s.TypeIs v T/\∀a,v=.ref a->∃ob,s.heap.get? a=some ob/\ob.dict=none:=by
 cases x with
 |str z=>
  obtain⟨t,rfl⟩:=r;cases(show T="str" from ty);exact⟨typeIs_str s z t,λ_ e=>nomatch e⟩
 |int i=>
  obtain⟨t,rfl⟩:=r;cases(show T="int" from ty);exact⟨typeIs_int s i t,λ_ e=>nomatch e⟩
 |ref p=>
  cases r;rcases ty with⟨rfl,xs,f⟩|⟨rfl,o,b,g,hd⟩|⟨rfl,b⟩|⟨rfl,S,n,b⟩|⟨rfl,xs,b⟩
  .obtain⟨A5,_,pl,_⟩:=I.list f;refine⟨pl.isList.typeIs,λa e=>?_⟩;cases e;obtain⟨o,n,e,c,hd,_⟩:=pl;exact⟨o,e,hd⟩
  .refine⟨⟨o,I.Bv p o b,g⟩,λa e=>?_⟩;cases e;exact⟨o,I.Bv _ o b,hd⟩
  .have z:∃o,s.heap.get? p=some o/\o.ExactDict:=by
    rcases b with⟨A6,b⟩|⟨A6,b⟩
    .obtain⟨_,_,_,_,o,_,_,e,ex,_⟩:=I.AH p _ b;exact⟨o,e,ex⟩
    .obtain⟨_,_,_,_,o,_,_,e,ex,_⟩:=I.AH p _ b;exact⟨o,e,ex⟩
   obtain⟨o,e,ex⟩:=z;refine⟨⟨o,e,ex.1⟩,λa d=>?_⟩;cases d;exact⟨o,e,ex.2.1⟩
  .obtain⟨o,_,_,_,e,ex,_⟩:=I.AH p _ b;refine⟨⟨o,e,ex.1⟩,λa d=>?_⟩;cases d;exact⟨o,e,ex.2.1⟩
  .obtain⟨_,A5,_,⟨o,e,c,_⟩,h⟩:=I.AH p _ b;refine⟨⟨o,e,c⟩,λa d=>?_⟩;cases d;exact⟨o,e,h o e⟩
 |_=>exact False.elim ty
def NW(K:ZJa)(T:String)(r:V->List V->Hp->VK->Prop)(to:TE)(t:TA):TE:=λZ H Q=>to Z H λx H1=>Mb K T x H1/\t Z H1 λxs H2=>r x xs H2 Q
variable{o e:Expr}{es:List Expr}{to:TE}{t:TA}{name:Str}{apos Be:Pos}{id:String}{r:V->List V->Hp->VK->Prop}
end
def Zt(X:Cx)(id:String)(r:V->List V->Hp->VK->Prop):Prop:=
 ∀(ZA:ZJb)(s:Shared)(Z:St)(H:Hp)(x:V)(xs:List V)(v:Value)(us:List Value)(Q:VK),Inv X ZA Z H s->RelV x v->Vals xs us->r x xs H Q->
  Zq2 X (call (.builtin id) (v::us)) (EP X ZA Z Q) X.xe s
theorem Vals.one:∀{x:V}{us:List Value},Vals [x] us->∃u,us=[u]/\RelV x u:=λr=>vals1 r
theorem Vals.two:∀{x y:V}{us:List Value},Vals [x,y] us->∃u v,us=[u,v]/\RelV x u/\RelV y v:=λr=>vals2 r
theorem Vals.reverse(h:Vals xs us):Vals xs.reverse us.reverse:=by
 induction h with
 |nil=>exact .nil
 |cons r t a=>rw[cn,cn];exact Vals.append a (.cons r .nil)
section
variable{l b:Addr}{zs:List V}
theorem Inv.jf{f:Array Value->Array Value}(I:Inv X ZA Z H s)(c:H l=some (.lst xs))
  (e:s.heap.get? l=some { cls:=.type "list", data:=.seq A5.toArray n }) (hf:f A5.toArray=its'.toArray) (hv:Vals ys its') (hz:ys.length<=sizeLine) :
  Inv X ZA Z (upd H l (.lst ys)) { s with heap:=s.heap.update l (Obj.mapSeq f),toks:=t' }:=by
 have q:=PySem.IsL.update e f;rw[hf]at q;refine I.write (x:=l) (e:=l) (by rw[c];exact trivial) (.inl rfl) (λd u b a=>(G3 s.heap (Obj.mapSeq f) (BU b)).trans a) ⟨_,q⟩ ?_;exact⟨hz,its',_,hv,q⟩
theorem Inv.nP(I:Inv X ZA Z H s)(b:Vals ys A5)(a:ys.length<=sizeLine):
  Inv X ZA Z (upd H s.heap.objs.size (.lst ys)) { s with heap:=s.heap.push { cls:=.type "list", data:=.seq A5.toArray },toks:=t' }:=
 I.laid (λ_ _ q=>Bf _ q) (B4 _) ⟨a,A5,0,b,CK _ rfl⟩
theorem Inv.fresh(I:Inv X ZA Z H s):H s.heap.objs.size=none:=I.AH.fresh (B4 _)
theorem Inv.Rt(I:Inv X ZA Z H s)(a:H l=some (.lst xs)):xs.length<=sizeLine/\∃(A5:List Value)(n:Nat),Vals xs A5/\xs.length=A5.length/\s.heap.get? l=some { cls:=.type "list", data:=.seq A5.toArray n }:=by
 obtain⟨z,A5,n,r,e⟩:=I.AH l _ a;exact⟨z,A5,n,r,r.length,e⟩
def WD:V->List V->Hp->VK->Prop:=λx vs H Q=>∃l xs y,x=.ref l/\vs=[y]/\H l=some (.lst xs)/\xs.length<sizeLine/\Q .A9 (upd H l (.lst (xs++[y])))
theorem fX:Zt X "list.append" WD:=by
 intro ZA s Z H x vs v us Q I b c h;obtain⟨l,xs,y,rfl,rfl,a,f,q⟩:=h;cases b;obtain⟨u,rfl,d⟩:=c.one;obtain⟨z,A5,n,r,g,e⟩:=I.Rt a;refine ZBB F.slot_list_append ⟨_,e,rfl⟩ F.entry_list_append (F.args_list_append_2 _ _) (PySem.list_append l A5.toArray n u (by rw[CL];omega)) ⟨e,?_⟩;refine⟨.A9,_,I.jf (its':=A5++[u]) a e (by simp) (r.append (.cons d .nil)) ?_,rfl,q⟩;rw[CP,oy];omega
def oB:R2:=λx y H Q=>∃l b xs zs,x=.ref l/\y=.ref b/\H l=some (.lst xs)/\H b=some (.lst zs)/\xs.length+zs.length<=sizeLine/\∀p,H p=none->Q (.ref p) (upd H p (.lst (xs++zs)))
theorem IG:Bc X (binaryOp .Add) oB:=by
 intro ZA s Z H x y v u Q I c a h;obtain⟨l,b,xs,zs,rfl,rfl,f,g,k,q⟩:=h;cases c;cases a;obtain⟨z,A5,n,r,m,e⟩:=I.Rt f;obtain⟨j,C0,n2,d,Fp,i⟩:=I.Rt g;refine PySem.P.add_list e i ?_ (by rw[CL,CL];omega);have ea:A5.toArray++C0.toArray=(A5++C0).toArray:=by simp
 rw[ea];exact⟨.ref _,_,I.nP (t':=s.toks) (r.append d) (by rw[CP];omega),rfl,q _ I.fresh⟩
variable{prog:Program}{w:World}{E:Value->Shared->Prop}
set_option maxRecDepth 100000 in
end
end L2
namespace ee
open PySem.W PySem.Calls
variable{l:OpenLaw}{n:Nat}{prog q:Program}
theorem ZEF{P:Params}{h:Heap}:∀(ns:List Int)(vs:List Value),WellAll P h vs (ns.map WData.int)->IntsAre vs ns:=by
 intro ns
 induction ns with
 |nil=>
  intro vs w;rw[VH]at w;cases w;exact .nil
 |cons n ns c=>
  intro vs w;rw[CA]at w;cases w with
  |cons a b=>
   cases a;exact .cons _ _ (c _ b)
theorem zg(hn:l.most=some n){P:Params}{h:Heap}{args:List WData}{vals:List Value}
  (NS:l.row.toRowW.claim.pre args=true) (KL:WellAll P h vals args) :
  ∃a vs ns,vals=[Value.ref a]/\args=[WData.list (ns.map WData.int)]/\h.get? a=some { cls:=.type "list", data:=.seq vs.toArray }/\IntsAre vs ns/\ns.length<=n:=by
 have j:WShape.hasAll [] args [.list .int]=true:=(pre_splitW NS).1;have f:l.pre.holds [] { args:=args }=true:=(pre_splitW NS).2;obtain⟨d,r,rfl,h1,h2⟩:=hasAllW_cons j;obtain rfl:=hasAllW_nil h2;obtain⟨xs,rfl,m⟩:=hasW_list h1;obtain⟨ns,rfl⟩:=items_int m;have b:ns.length<=n:=by
  unfold OpenLaw.pre at f;have e:(WTm.not (.lt (.lit (.int (n:Int))) (.len (.arg 0)))).holds [] { args:=[.list (ns.map .int)] }=true:=by
   have e:=(holds_andW f).1;rw[hn]at e;exact e
  have c:=condW_of e (w_not (w_lt w_lit (w_len_list (w_arg rfl))));rw[AK]at c;refine ZIU λq=>?_;have k:(n:Int)<((ns.length:Nat):Int):=by omega
  first
   | (rw[pX k]at c;exact absurd c (by decide))
   | (simp at c;omega)
 cases KL with
 |cons i g=>
  cases g;cases i with
  |list ho Ky=>exact⟨_,_,ns,rfl,rfl,ho,ZEF ns _ Ky,b⟩
theorem tw(l:OpenLaw)(args:List WData):l.row.toRowW.claim.post args (.bool true) args=true:=
 postW_of (r:=l.row.toRowW) (X:=(true == true))
  (show WShape.has [] (.bool true) .bool=true by first|rfl|decide|simp[WShape.has,WShape.arms,WShape.armsAll])
  (show(WTm.eq .res (.lit (.bool true))).value [] { args:=args,res:=some (.bool true),after:=args }=some (.bool (true == true))from w_eq_bool (w_res rfl) w_lit) rfl
theorem ZAT{loose:List Str}{XP:(ZJc)->Heap->Prop}{YP:World->Heap->Prop}{d:DefRec}
  (hn:l.most=some n) (R1:d.params.defaults=[])
  (call:∀(w:World)(s₀ b:Shared)(mg mb:ZJc)(h:Addr)(o:Obj)(i cd e:Value)(a:Addr)(vs:List Value)(ns:List Int),
   Ground q loose [] XP w s₀ mg mb b.heap->YP w b.heap->
   b.heap.get? h=some o->o.data=.func (docDef d.name d.params d.body d.scope i cd e)->b.heap.CodeRec cd d.name->mg d.name=some (.ref h)->
   b.heap.get? a=some { cls:=.type "list", data:=.seq vs.toArray }->IntsAre vs ns->ns.length<=n->b.gens=#[]->
   codeAny (model l.prog w) callerA (.call (.ref h) ⟨[.ref a],[]⟩) (λr s'=>r=.ok (.ret (.bool true))/\OldK b.heap s'.heap/\s'.os=b.os/\AllBare s'.gens) b) :
  WalkO q loose XP YP l.row.toRowW d [] (λf vs=>PySem.call f vs):=by
 intro w s₀ b mg mb G Y h o i cd e v kV ho hd Ef j QH s args vals as NS ZJ8 k KL x;obtain rfl:v=.none:=Dflts.none j R1;obtain rfl:kV=.none:=Dflts.noKw j;obtain⟨a,vs,ns,rfl,rfl,Xv,c,g⟩:=zg hn NS KL;refine enter_call (zd (call w s₀ b mg mb h o i cd e a vs ns G Y ho (fd_plain hd) Ef QH Xv c g s) λr s' m=>?_);obtain⟨rfl,h2,u,t⟩:=m;exact⟨.inl ⟨.bool true,.bool true,[],rfl,λ_=>rfl,.bool true,tw l _,λ_=>⟨List.Pairwise.nil,λ_ p=>(nomatch p)⟩⟩,h2,u,t⟩
end ee
namespace L2
variable{w:World}{mg:ZJc}{a f:Addr}{fd:FuncData}{qual x:Str}{sp:Sp}{loose ps:List Str}{X:Cx}{A B:Prop}
theorem eJ:∀{vs:List Value}{ns:List Int},IntsAre vs ns->Vals (ns.map V.int) vs
 |_,_,.nil=>.nil
 |_,_,.cons n t h=>.cons ⟨t,rfl⟩ (eJ h)
def WN(H:Hp):Prop:=∀b,H b=none∨∃o xs,H b=some (.Fq o (.lst xs))
theorem vJ{P:Program}{K:ZJa}{mb:ZJc}{CX:Gs}{k:Nat}{y:Addr}{c:Shared}{vs:List Value}{ns:List Int}
  (KX:K.In c.heap) (O3:c.heap.Ns mainGlobals mg) (f:c.heap.Ns builtinsNs mb) (M:∀x:Str,x ≠"__name__" -> mb x=bootBuiltins x) (O:c.heap.NoLimit) (S:c.gens=#[])
  (l:c.heap.get? a=some { cls:=.type "list", data:=.seq vs.toArray }) (hi:IntsAre vs ns) (hl:ns.length<=sizeLine) (hr:Ba k callerA)
  (F:∀ZB:Heap,K.In ZB->ZB.Ns mainGlobals mg->CQ P w K mg ZB CX k y fd [x] sp) (ZHx:∀(s:Shared)(u:Value),BindsTo s fd ⟨[u],[]⟩ [(x,u)])
  (Fi:∀H:Hp,WN H->Ab K H a (ns.map V.int)->sp [.ref a] H (λv _=>v=.bl true) λ_ _ _=>False)
  (X5:∀H e s',CX [] H c (λ_ _ _=>False) e s'->False) :
  codeAny (model P w) callerA (.call (.ref y) ⟨[.ref a],[]⟩) (λr s'=>r=.ok (.ret (.bool true))/\OldK c.heap s'.heap/\s'.os=c.os/\AllBare s'.gens) c:=by
 have C:=eJ hi;have B:=hi.length
 -- from an abstract heap in ZJS nothing but Ik km may be tracked
 have g:∀H:Hp,WN H->Ab K H a (ns.map V.int)->By P w H c.heap->(∀b,H b≠none->b=a)->(H a≠none->K.lookup a=none)->
   codeAny (model P w) callerA (.call (.ref y) ⟨[.ref a],[]⟩) (λr s'=>r=.ok (.ret (.bool true))/\OldK c.heap s'.heap/\s'.os=c.os/\AllBare s'.gens) c:=by
  intro H G T AH I U;have D:∀{b:Addr}{o:Obj},c.heap.get? b=some o->H b=none->(JS c.heap H).get? b=some o:=λe n=>ZHJ e n;have Y:∀{b:Addr}{o:Obj}{es:Array DictEntry}{j:Nat},c.heap.get? b=some o->o.data=.dict es j->H b=none:=λ{b o es j}e d=>by
   cases q:H b with
   |none=>rfl
   |some u=>
    have A:b=a:=I b (by rw[q];simp);subst A;rw[l]at e;cases e;have d':Data.seq vs.toArray _=Data.dict es j:=d;cases d'
  have p:∀{b:Addr}{m:ZJc},c.heap.Ns b m->(JS c.heap H).Ns b m:=λ{b m}AU=>by obtain⟨o,es,j,e,d,r⟩:=AU;exact⟨o,es,j,D e (Y e d),d,r⟩
  have E:K.In (JS c.heap H):=λb o e=>D (KX b o e) (by
   cases q:H b with
   |none=>rfl
   |some u=>
    have A:b=a:=I b (by rw[q];simp);subst A;rw[U (by rw[q];simp)]at e;cases e)
  have hM:Mod K mg (JS c.heap H):=⟨E,p O3,⟨mb,p f,M⟩,let ⟨mc,h1,h2⟩:=O;⟨mc,p h1,h2⟩⟩;have e0:Md P w K mg (JS c.heap H) callerA [] c H:=⟨rfl,hM,λb o e=>xF e,VN (ZF4 _ _),trivial,λb f=>absurd (show b∈([]:List Addr)from f) (by simp),AH,.of_eq S⟩;refine zd ((F _ E (p O3)).run callerA [] c H ⟨[.ref a],[]⟩ [.ref a] [.ref a] _ _ hr e0 (ZHx c (.ref a)) (.cons rfl .nil) (Fi H G T)) λr s' h=>?_;cases r with
  |error e=>exact(X5 H e s' h).elim
  |ok W=>
   cases W with
   |next=>exact False.elim h
   |brk=>exact False.elim h
   |cont=>exact False.elim h
   |ret u=>
    obtain⟨v,H',os,bare,un,N,Q,q⟩:=h;have R:v=.bl true:=q;subst R;obtain rfl:u=Value.bool true:=Q;refine⟨rfl,OldK.of_keep λb o e=>?_,os,bare⟩;cases q:H b with
    |none=>exact un.keep b o e q (by intro z;exact absurd (show b∈([]:List Addr)from z) (by simp)) (by simp)
    |some u=>
     rcases G b with z|⟨ob,xs,z⟩
     .rw[q]at z;cases z
     .have L:=un.GX b ob _ z;obtain⟨J,_⟩:=AH b _ z;obtain⟨X,_⟩:=N b _ L;rw[e]at J;cases J;exact X
 cases t:K.lookup a with
 |some o=>
  -- Ik km is one of Ik ZJH own objects
  have e:=KX a o t;rw[l]at e;cases e;refine g (λ_=>none) (λ_=>.inl rfl) (.inr ⟨_,vs.toArray,_,t,rfl,rfl,rfl,by rw[CL,B];exact hl,by simpa using C⟩) (λb u z=>by have i:(none:Option HO)=some u:=z;cases i) (λb z=>absurd rfl z) λz=>absurd rfl z
 |none=>
  refine g (λb=>if b=a then some (.Fq { cls:=.type "list", data:=.seq vs.toArray } (.lst (ns.map V.int)))else none) (λb=>?_) (.inl (.inr ⟨{ cls:=.type "list", data:=.seq vs.toArray },tX rfl⟩)) (λb u z=>?_) (λb z=>?_) λ_=>t
  .by_cases f:b=a
   .exact .inr ⟨_,_,tX f⟩
   .exact .inl (qg f)
  .by_cases f:b=a
   .have i:=(tX f).symm.trans z;cases i;subst f;exact⟨l,by rw[AK];exact hl,vs,_,C,l⟩
   .have i:=(qg f).symm.trans z;cases i
  .by_cases f:b=a
   .exact f
   .exact absurd (qg f) z
theorem ZDt{l:PySem.W.OpenLaw}{n k:Nat}{q:Program}{XP:(ZJc)->Heap->Prop}{YP:World->Heap->Prop}{d:DefRec}{K:Params->ZJa}{CX:World->Gs}{sp:World->Sp}
  (hn:l.most=some n) (Ko:n<=sizeLine) (R1:d.params.defaults=[]) (r:Ba k callerA)
  (z:∀(w:World)(h:Heap),YP w h->(K w.params).In h)
  (F:∀(w:World)(mg:ZJc)(j:Addr)(h:Heap),(K w.params).In h->h.Ns mainGlobals mg->mg d.name=some (.ref j)->
   ∃fd:FuncData,(∀(s:Shared)(u:Value),BindsTo s fd ⟨[u],[]⟩ [(x,u)])/\
    ∀ZB:Heap,(K w.params).In ZB->ZB.Ns mainGlobals mg->CQ l.prog w (K w.params) mg ZB (CX w) k j fd [x] (sp w))
  (Fi:∀(w:World)(H:Hp)(a:Addr)(ns:List Int),ns.length<=n->WN H->Ab (K w.params) H a (ns.map V.int)->sp w [.ref a] H (λv _=>v=.bl true) λ_ _ _=>False)
  (X5:∀(w:World)(H:Hp)(s:Shared)(e:Value)(s':Shared),CX w [] H s (λ_ _ _=>False) e s'->False) :
  PySem.W.WalkO q loose XP YP l.row.toRowW d [] (λf vs=>PySem.call f vs):=by
 refine ee.ZAT hn R1 λw s₀ p mg mb j o D cd C a vs ns G Y ho hd Ef QH Xv i c t=>?_;have m:=z w _ Y;obtain⟨fd,y,hF⟩:=F w mg j _ m G.T.g QH;exact vJ m G.T.g G.T.b G.T.builtins G.T.nolimit t Xv i (Bi c Ko) r hF y (λH B A=>Fi w H a ns c B A) λH e s'=>X5 w H p e s'
noncomputable def Ka(s:Stmt):Arguments:=match s with
 | .FunctionDef _ a _ _ _ _ _ _ _ _=>a
 |_=>{ posonlyargs:=[],args:=[],vararg:=none,kwonlyargs:=[],kw_defaults:=[],kwarg:=none,defaults:=[] }
noncomputable def El(s:Stmt):List Stmt:=match s with
 | .FunctionDef _ _ b _ _ _ _ _ _ _=>b
 |_=>[]
noncomputable def AO(s:Stmt):Scope:=match s with
 | .FunctionDef _ _ _ _ _ _ sc _ _ _=>sc
 |_=>{ kind:=.function,names:=[],isGenerator:=false,isCoroutine:=false }
abbrev DW:Gs:=λ_ _ _ _ _ _=>False
abbrev E0:XK:=λ_ _ _=>False
theorem Xl:Passes DW X E0:=λ_ _ _ _ _ _ _ h=>h.elim
structure AE (K:ZJa) (x qual:Str) (st:Stmt) (f:Addr) (fd:FuncData):Prop where
 ex:∃(oc:Value)(od:Option Addr)(kV doc pm:Value)(an:Option Addr)(Ai ct:Value)(JW:Array (Option Value)),
  fd=PySem.W.fnOf x qual (Ka st) (El st) (AO st) .none kV doc pm an Ai ct/\K.lookup f=some ⟨oc,od,.func fd,JW⟩/\PySem.W.codeIn K Ai qual=true
 kp:PySem.W.keepIn K (.ref f)=true
section
variable{P:Program}{K:ZJa}{ZB:Heap}
theorem AE.ok{st:Stmt}{N:List Str}{k:Nat}(F:AE K x qual st f fd)(S:Ao N ps (AO st))(len:∀vs H Q E,sp vs H Q E->vs.length=ps.length)
  (MZ:∀(Ai:Value)(A:Around)(outer:List Env)(s:Shared)(H:Hp)(vs:List V)(Q:VK)(E:XK),Ba k (A.deeper (envOfC qual (AO st) s.heap.objs.size f Ai))->sp vs H Q E->
   ∃t,Dl (DG DW P w K mg ZB N qual (AO st) f Ai A outer s H E).Jn (El st) t/\t { nx:=λ_ H'=>Q .A9 H',rt:=Q } (start N vs) H):CQ P w K mg ZB DW (k+1) f fd ps sp:=by
 obtain⟨e,od,kV,c,d,g,Ai,ct,JW,rfl,a,Ef⟩:=F.ex;refine eV a Ef S len λA outer s H vs Q E b Fi=>?_;obtain⟨t,h,q⟩:=MZ Ai A outer s H vs Q E b Fi;exact⟨t,h.Jn,q⟩
theorem AE.binds{st:Stmt}(F:AE K x qual st f fd)
  (h:∀(kV a b:Value)(c:Option Addr)(Ai ct:Value)(us:List Value),us.length=ps.length->bindArgs (PySem.W.fnOf x qual (Ka st) (El st) (AO st) .none kV a b c Ai ct) ⟨us,[]⟩=pure (ps.zip us)):Binds K fd ps []:=by
 obtain⟨d,od,kV,a,b,c,Ai,ct,JW,rfl,e,Ef⟩:=F.ex;exact .all (h kV a b c Ai ct)
theorem ZET{st:Stmt}{e:Value}{od d:Option Addr}{JW:Array (Option Value)}{kV a b Ai ct:Value}(l:K.lookup f=some ⟨e,od,.func (PySem.W.fnOf x qual (Ka st) (El st) (AO st) .none kV a b d Ai ct),JW⟩)
  (c:PySem.W.codeIn K Ai qual=true) (k:PySem.W.keepIn K (.ref f)=true):AE K x qual st f (PySem.W.fnOf x qual (Ka st) (El st) (AO st) .none kV a b d Ai ct):=⟨⟨e,od,kV,a,b,d,Ai,ct,JW,rfl,l,c⟩,k⟩
end
theorem BF{A:Around}{k:Nat}(a:Ba k A):A.units+1<cLine:=Io (Nat.add_le_add_left (by decide:1<=64) _) a.units
theorem pv(i:Nat){pos:Pos}(a:X.N[i]?=some x:=by rfl)(hv:SS X.env.scope x:=by first|exact Or.inl rfl|exact Or.inr (Or.inl rfl)|exact Or.inr (Or.inr rfl))(hd:Zq0 x:=by decide)
  (Ef:(x == ("__classdict__":Str))=false:=by decide):PE X (.Name x pos) (BW i):=jZ a hv hd Ef
theorem CT(h:B):if false=true then A else B:=by
 rw[qg Dc];exact h
theorem J3(h:A):if true=true then A else B:=by
 rw[tX rfl];exact h
theorem Af{c:Prop}[Decidable c](h1:c->A)(h2:¬ c->B):if c then A else B:=by
 by_cases h:c
 .rw[tX h];exact h1 h
 .rw[qg h];exact h2 h
def AD(H H':Hp):Prop:=∀b o,H b=some o->H' b=some o
theorem AD.refl(H:Hp):AD H H:=λ_ _ h=>h
theorem AD.trans{H H1 H2:Hp}(a:AD H H1)(b:AD H1 H2):AD H H2:=λc o h=>b c o (a c o h)
theorem AD.seq{K:ZJa}{H H':Hp}{xs:List V}(e:AD H H')(h:Ab K H a xs):Ab K H' a xs:=by
 rcases h with(h|⟨o,h⟩)|h
 .exact .inl (.inl (e _ _ h))
 .exact .inl (.inr ⟨o,e _ _ h⟩)
 .exact .inr h
end L2
set_option maxHeartbeats 4000000
namespace L2
variable{α κ:Type}{A6:List (List Key×V)}{o:Option V}{u:Value}{v y:V}{w:World}{H H' H1 H2 H4:Hp}{xs:List (List Key×Addr×Value)}{C a acc b it n:Addr}{X Y:Cx}{ZA:ZJb}{ws Z:St}{s s2 s4:Shared}{A:Around}{E Q:Value->Shared->Prop}{h' h1:Heap}{i j n0 t':Nat}{prog:Program}{env:Env}{c e elt tg value:Expr}{Kk pos px py:Pos}{td te tv:TE}{outer scope:Scope}{cl closure:List (Str×Addr)}{qual x z:Str}{ce:Option Str}{ifs:List Expr}{R:Result->Shared->Prop}{js:List Nat}{tt:TT}{J:It}{tn:Nat->Heap->Prop}{wi:TI}{CW:It->St->Hp->Addr->VK->Prop}{N:List Str}{tp:Bool}{ys:List V}{A5:List Value}
section
variable[DecidableEq κ]
noncomputable def Dq(A6:List (κ×V))(k:κ):Option V:=(A6.find? λa=>decide (a.1=k)).map (·.2)
def putK(A6:List (κ×V))(k:κ)(v:V):List (κ×V):=
 if(A6.any λa=>decide (a.1=k))=true then A6.map (λa=>if a.1=k then(a.1,v)else a)else A6++[(k,v)]
noncomputable def LC(A6:List (κ×V))(k:κ):List (κ×V):=A6.filter λa=>decide (a.1≠k)
theorem Pz{p:κ×V}{r:List (κ×V)}{k:κ}(e:p.1=k):Dq (p::r) k=some p.2:=by simp[Dq,RC,e]
theorem Qg{p:κ×V}{r:List (κ×V)}{k:κ}(e:¬ p.1=k):Dq (p::r) k=Dq r k:=by simp[Dq,RC,e]
theorem Uu(k:κ):∀A6:List (κ×V),(A6.any λa=>decide (a.1=k))=(Dq A6 k).isSome
 | []=>rfl
 |p::r=>by
  rw[Od]
  by_cases e:p.1=k
  .simp only[Pz e,pX e,Bool.true_or,ZIY]
  .rw[Qg e,uK e,Bool.false_or];exact Uu k r
theorem X2(A6:List (κ×V))(k:κ)(v:V):(putK A6 k v).length<=A6.length+1:=by
 unfold putK;split
 .rw[AK];omega
 .rw[CP,Ck,cZ];omega
theorem Qm{A6:List (κ×V)}{k:κ}(v:V)(h:Dq A6 k=none):putK A6 k v=A6++[(k,v)]:=by
 unfold putK;rw[Uu,h];exact qg (by decide)
theorem EX.R0{u:Option Value}(r:EX o u):o.isSome=u.isSome:=by
 cases o with
 |none=>cases u with
  |none=>rfl
  |some _=>exact(show False from r).elim
 |some _=>cases u with
  |none=>exact(show False from r).elim
  |some _=>rfl
theorem KV.val{A6:List (κ×V)}{vs:List (κ×Value)}(r:KV A6 vs)(k:κ):EX (Dq A6 k) (valueAt vs k):=by
 unfold KV at r
 induction r with
 |nil=>exact True.intro
 |@cons p q ps a h t d=>
  obtain⟨h1,h2⟩:=h
  by_cases e:p.1=k
  .have c:q.1=k:=h1.symm.trans e;have b:valueAt (q::a) k=some q.2:=by simp[valueAt,RC,c]
   rw[Pz e,b];exact h2
  .have c:¬ q.1=k:=λz=>e (h1.trans z);have b:valueAt (q::a) k=valueAt a k:=by simp[valueAt,RC,c]
   rw[Qg e,b];exact d
theorem KV.any{A6:List (κ×V)}{vs:List (κ×Value)}(r:KV A6 vs)(k:κ):(A6.any λa=>decide (a.1=k))=vs.any λa=>decide (a.1=k):=by
 unfold KV at r
 induction r with
 |nil=>rfl
 |cons h t b=>rw[Od,Od,b,h.1]
theorem KV.ZF{A6:List (κ×V)}{vs:List (κ×Value)}(r:KV A6 vs)(k:κ)(b:RelV y u):
  KV (A6.map λa=>if a.1=k then(a.1,y)else a) (vs.map λa=>if a.1=k then(a.1,u)else a):=by
 unfold KV at r ⊢
 induction r with
 |nil=>exact .nil
 |@cons p q ps d h t c=>
  rw[CA,CA];refine .cons ?_ c;obtain⟨h1,h2⟩:=h
  by_cases e:p.1=k
  .rw[tX e,tX (h1.symm.trans e)];exact⟨h1,b⟩
  .rw[qg e,qg (λz=>e (h1.trans z))];exact⟨h1,h2⟩
theorem KV.put{A6:List (κ×V)}{vs:List (κ×Value)}(r:KV A6 vs)(k:κ)(a:RelV y u):KV (putK A6 k y) (stored vs k u):=by
 unfold putK stored;rw[r.any k]
 by_cases e:(vs.any λb=>decide (b.1=k))=true
 .rw[tX e,tX e];exact r.ZF k a
 .rw[qg e,qg e];exact Paired.snoc r ⟨rfl,a⟩
theorem KV.drop{A6:List (κ×V)}{vs:List (κ×Value)}(r:KV A6 vs)(k:κ):KV (LC A6 k) (without vs k):=by
 unfold KV at r ⊢;unfold LC without
 induction r with
 |nil=>exact .nil
 |@cons p q ps f h t c=>
  obtain⟨h1,h2⟩:=h;rw[cW,cW]
  by_cases e:p.1=k
  .have a:¬ decide (p.1≠k)=true:=by simp[e]
   have b:¬ decide (q.1≠k)=true:=by simp[h1.symm.trans e]
   rw[qg a,qg b];exact c
  .have d:¬ q.1=k:=λz=>e (h1.trans z);have a:decide (p.1≠k)=true:=by simp[e]
   have b:decide (q.1≠k)=true:=by simp[d]
   rw[tX a,tX b];exact .cons ⟨h1,h2⟩ c
theorem KV.keys{A6:List (κ×V)}{vs:List (κ×Value)}(r:KV A6 vs):A6.map (·.1)=vs.map (·.1):=by
 unfold KV at r
 induction r with
 |nil=>rfl
 |cons h t a=>rw[CA,CA,a,h.1]
theorem KV.length{A6:List (κ×V)}{vs:List (κ×Value)}(r:KV A6 vs):A6.length=vs.length:=pD r
theorem r8(A6:List (κ×V))(k:κ):(LC A6 k).length<=A6.length:=Of _ _
end
theorem Le{P:Program}{k:Key}(r:RelV (kV k) u):(Cb P w).is k u=true:=by
 cases k with
 |inl i=>obtain⟨t,e⟩:=(show ∃t,u=Value.int i t from r);subst e;exact vc P w i t
 |inr x=>obtain⟨t,e⟩:=(show ∃t,u=Value.str x t from r);subst e;exact zb P w x t
theorem kR{P:Program}{w:World}:∀{ks:List Key}{us:List Value},Vals (ks.map kV) us->ItemsAre (Cb P w) ks us
 | [],_,r=>by rw[VH]at r;cases r;exact .nil
 |k::ks,_,r=>by
  rw[CA]at r;cases r with
  |cons h t=>exact .cons (Le h) (kR t)
abbrev KT(H:Hp):List (List Key×V)->List (List Key×Addr×Value)->Prop:=Paired λp q=>p.1=q.1/\H q.2.1=some (.tup (p.1.map kV))/\RelV p.2 q.2.2
theorem KT.val(r:KT H A6 xs)(k:List Key):EX (Dq A6 k) ((atKey xs k).map (·.2)):=by
 induction r with
 |nil=>exact True.intro
 |@cons p q ps a h t d=>
  obtain⟨h1,_,h2⟩:=h
  by_cases e:p.1=k
  .have c:q.1=k:=h1.symm.trans e;have b:atKey (q::a) k=some q.2:=by simp[atKey,RC,c]
   rw[Pz e,b];exact h2
  .have c:¬ q.1=k:=λz=>e (h1.trans z);have b:atKey (q::a) k=atKey a k:=by simp[atKey,RC,c]
   rw[Qg e,b];exact d
theorem KT.ZF(r:KT H A6 xs)(k:List Key)(b:RelV y u):
  KT H (A6.map λa=>if a.1=k then(a.1,y)else a) (xs.map (putAt k u)):=by
 induction r with
 |nil=>exact .nil
 |@cons p q ps f h t c=>
  rw[CA,CA];refine .cons ?_ c;obtain⟨h1,h2,d⟩:=h;unfold putAt
  by_cases e:p.1=k
  .rw[tX e,tX (h1.symm.trans e)];exact⟨h1,h2,b⟩
  .rw[qg e,qg (λz=>e (h1.trans z))];exact⟨h1,h2,d⟩
theorem KT.put(r:KT H A6 xs)(k:List Key)(d:H b=some (.tup (k.map kV)))(a:RelV y u):
  KT H (putK A6 k y) (storedH xs k b u):=by
 have e:(A6.any λc=>decide (c.1=k))=(atKey xs k).isSome:=by
  rw[Uu,(r.val k).R0,cz]
 unfold putK storedH;rw[e]
 by_cases q:(atKey xs k).isSome=true
 .rw[tX q,tX q];exact r.ZF k a
 .rw[qg q,qg q];exact Paired.snoc r ⟨rfl,d,a⟩
theorem KT.keeps(r:KT H A6 xs)(a:∀b ys,H b=some (.tup ys)->H' b=some (.tup ys)):KT H' A6 xs:=
 Paired.bQ r λ_ _ z=>⟨z.1,a _ _ z.2.1,z.2.2⟩
section
variable{P:Program}{h:Heap}
theorem jT{u:HO}(ok:By P w H h)(e:Rd H a u):CD P w H h a u:=e.ok ok
theorem Jl{A6:List (Key×V)}(ok:By P w H h)(e:Rd H a (.dK A6)):A6.length<=sizeLine/\(a == sysModules)=false/\∃vs,KV A6 vs/\h.DictOf (Cb P w) a vs:=
 show CD P w H h a (.dK A6)from jT ok e
theorem aw{A6:List (Key×V)}(ok:By P w H h)(e:H a=some (.dK A6)):A6.length<=sizeLine/\(a == sysModules)=false/\∃vs,KV A6 vs/\h.DictOf (Cb P w) a vs:=Jl ok (.inl e)
theorem Pb{ks:List Key}(ok:By P w H h)(e:H a=some (.tup (ks.map kV))):(tupleKind (Cb P w)).is h ks a:=by
 obtain⟨_,A5,r,⟨o,h1,h2,n,b⟩,_⟩:=(show CD P w H h a (.tup (ks.map kV))from ok a _ e);exact⟨o,A5.toArray,n,h1,h2,b,by simpa using kR r⟩
theorem Mx(ok:By P w H h)(e:Rd H a (.dT A6)):A6.length<=sizeLine/\(a == sysModules)=false/\
  ∃xs,KT H A6 xs/\h.DictOfH (tupleKind (Cb P w)) a xs:=by
 obtain⟨z,y,xs,r,o,es,i,h1,h2,g,f,d⟩:=(show CD P w H h a (.dT A6)from jT ok e);refine⟨z,y,xs,r,o,es,i,h1,h2,g,f,λx hx=>?_,d⟩;have all:∀{l:List (List Key×V)}{m:List (List Key×Addr×Value)},KT H l m->∀x∈m,(tupleKind (Cb P w)).is h x.1 x.2.1:=by
  intro l m q
  induction q with
  |nil=>intro x hx;exact nomatch hx
  |@cons p q ps j b t c=>
   intro x hx;rcases List.mem_cons.mp hx with e|hx
   .subst e;exact Pb ok (by rw[<- b.1];exact b.2.1)
   .exact c x hx
 exact all r x hx
theorem pZ(ok:By P w H h)(e:H a=some (.dT A6)):A6.length<=sizeLine/\(a == sysModules)=false/\
  ∃xs,KT H A6 xs/\h.DictOfH (tupleKind (Cb P w)) a xs:=Mx ok (.inl e)
end
def G7(H:Hp)(a:Addr)(y:V)(r:Option V):Prop:=
 (∃A6 k,Rd H a (.dK A6)/\y=kV k/\r=Dq A6 k)∨∃A6 k b,Rd H a (.dT A6)/\y=.ref b/\H b=some (.tup (k.map kV))/\r=Dq A6 k
def Pq(H:Hp)(a:Addr)(y v:V)(H':Hp):Prop:=
 (∃A6 k,H a=some (.dK A6)/\y=kV k/\A6.length<sizeLine/\H'=upd H a (.dK (putK A6 k v)))∨
 ∃A6 k b,H a=some (.dT A6)/\y=.ref b/\H b=some (.tup (k.map kV))/\A6.length<sizeLine/\H'=upd H a (.dT (putK A6 k v))
theorem G7.k{A6:List (Key×V)}{k:Key}(e:H a=some (.dK A6)):G7 H a (kV k) (Dq A6 k):=.inl ⟨A6,k,.inl e,rfl,rfl⟩
theorem Pq.k{A6:List (Key×V)}{k:Key}(e:H a=some (.dK A6))(b:A6.length<sizeLine):Pq H a (kV k) v (upd H a (.dK (putK A6 k v))):=.inl ⟨A6,k,e,rfl,b,rfl⟩
section
variable{r:Value}
theorem Inv.big(I:Inv X ZA Z H s):sysModules<s.heap.objs.size:=by
 have h:mainGlobals<s.heap.objs.size:=(I.mod.glob.keeps I.bk).lt;exact p9 (by decide) h
theorem zD(j:A.units+1<cLine)(I:Inv X ZA Z H s)(g:G7 H a y (some v))(f:RelV y u)(h:∀c s',Inv X ZA Z H s'->RelV v c->Q c s'):
  wpAny (model X.prog X.w) A (getItem (.ref a) u) Q E s:=by
 rcases g with⟨A6,k,e,d,l⟩|⟨A6,k,b,e,d,n,l⟩
 .subst d;obtain⟨z,hd,vs,rel,dd⟩:=Jl I.AH e;obtain⟨c,hw,Gp⟩:=EX.some_of (v:=v) (o:=valueAt vs k) (by rw[l];exact rel.val k);exact wpAny_getItem_of (Le f) dd.mapOf hw (h c _ (I.tok _) Gp)
 .subst d;cases(show u=Value.ref b from f);obtain⟨z,hd,xs,rel,dd⟩:=Mx I.AH e;obtain⟨c,hw,Gp⟩:=EX.some_of (v:=v) (o:=(atKey xs k).map (·.2)) (by rw[l];exact rel.val k)
  obtain⟨p,m,i⟩:=Option.map_eq_some_iff.mp hw;refine wpAny_getItem_heap (zR j) (Pb I.AH n) dd m ?_;rw[i];exact h c _ (I.tok _) Gp
theorem ZGG(f:A.units+1<cLine)(I:Inv X ZA Z H s)(g:G7 H a y o)(d:RelV y u)(h:∀s',Inv X ZA Z H s'->Q (.bool o.isSome) s'):
  wpAny (model X.prog X.w) A (compareOp .In u (.ref a)) Q E s:=by
 rcases g with⟨A6,k,e,c,l⟩|⟨A6,k,b,e,c,i,l⟩
 .subst c;obtain⟨z,hd,vs,rel,dd⟩:=Jl I.AH e;refine wpAny_in_of (Le d) hd dd.mapOf ?_;rw[<- (rel.val k).R0,<- l];exact h _ (I.tok _)
 .subst c;cases(show u=Value.ref b from d);obtain⟨z,hd,xs,rel,dd⟩:=Mx I.AH e;refine wpAny_in_heap (zR f) (Pb I.AH i) hd dd ?_;have q:=(rel.val k).R0;rw[cz]at q;rw[<- q,<- l];exact h _ (I.tok _)
theorem qD(f:A.units+1<cLine)(I:Inv X ZA Z H s)(g:G7 H a y o)(d:RelV y u)(h:∀s',Inv X ZA Z H s'->Q (.bool (!o.isSome)) s'):
  wpAny (model X.prog X.w) A (compareOp .NotIn u (.ref a)) Q E s:=by
 rcases g with⟨A6,k,e,c,l⟩|⟨A6,k,b,e,c,i,l⟩
 .subst c;obtain⟨z,hd,vs,rel,dd⟩:=Jl I.AH e;refine wpAny_notIn_of (Le d) hd dd.mapOf ?_;rw[<- (rel.val k).R0,<- l];exact h _ (I.tok _)
 .subst c;cases(show u=Value.ref b from d);obtain⟨z,hd,xs,rel,dd⟩:=Mx I.AH e;refine wpAny_notIn_heap (zR f) (Pb I.AH i) hd dd ?_;have q:=(rel.val k).R0;rw[cz]at q;rw[<- q,<- l];exact h _ (I.tok _)
theorem RS{ob:HO}(I:Inv X ZA Z H s)(d:NM (H a))(f:Heap.SameBut a s.heap h')(g:∃q,h'.get? a=some q)(c:CD X.prog X.w (upd H a ob) h' a ob):
  Inv X ZA Z (upd H a ob) { s with heap:=h',toks:=t' }:=
 I.write (x:=a) (e:=a) d (.inl rfl) (λb q h z=>(f.2 b h).trans z) g c
theorem bu{P:Program}{A6:List (Key×V)}{vs:List (Key×Value)}(z:A6.length<=sizeLine)(hd:(a == sysModules)=false)(rel:KV A6 vs)(dd:h'.DictOf (Cb P w) a vs):
  CD P w H' h' a (.dK A6):=⟨z,hd,vs,rel,dd⟩
theorem ZCa{Q:Unit->Shared->Prop}(B:A.units+1<cLine)(I:Inv X ZA Z H s)(g:Pq H a y v H')(o:RelV y u)(p:RelV v r)(h:∀s',Inv X ZA Z H' s'->Q () s'):
  wpAny (model X.prog X.w) A (setItem (.ref a) u r) Q E s:=by
 rcases g with⟨A6,k,e,m,l,n⟩|⟨A6,k,b,e,m,x,l,n⟩
 .subst m n;obtain⟨z,hd,vs,rel,dd⟩:=aw I.AH e;have f:vs.length<=sizeLine:=by rw[<- rel.length];exact z
  have j:(putK A6 k v).length<=sizeLine:=by have:=X2 A6 k v;omega
  refine wpAny_setItem_pairs (hsz:=f) (Le o) dd λh' JM i=>h _ ?_;have C:∃q,h'.get? a=some q:=let ⟨q,_,_,d,_⟩:=JM;⟨q,d⟩;exact RS I (by rw[e];exact True.intro) i C (bu j hd (rel.put k p) JM)
 .subst m n;cases(show u=Value.ref b from o);obtain⟨z,hd,xs,rel,dd⟩:=pZ I.AH e;have f:xs.length<=sizeLine:=by rw[<- pD rel];exact z
  have j:(putK A6 k v).length<=sizeLine:=by have:=X2 A6 k v;omega
  refine wpAny_setItem_heap (hsz:=f) (zR B) (Pb I.AH x) dd λh' JM i=>h _ ?_;obtain⟨q,es,J,d,h2,G,F,_,D⟩:=JM;refine RS I (by rw[e];exact True.intro) i ⟨q,d⟩ ⟨j,hd,_,(rel.put k x p).keeps λc ys t=>?_,q,es,J,d,h2,G,F,D⟩;rw[Aa (xu t e (λz=>nomatch z))];exact t
variable{A6:List (Key×V)}{k:Key}
theorem ZC2{more:List Value}(I:Inv X ZA Z H s)(e:H a=some (.dK A6))(c:RelV (kV k) u)(l:Dq A6 k=some v)(d:more=[]∨∃x,more=[x])
  (h:∀b s',Inv X ZA Z (upd H a (.dK (LC A6 k))) s'->RelV v b->Q b s'):wpAny (model X.prog X.w) A (call (.builtin "dict.pop") (.ref a::u::more)) Q E s:=by
 obtain⟨z,hd,vs,rel,dd⟩:=aw I.AH e;obtain⟨b,hw,Gp⟩:=EX.some_of (v:=v) (o:=valueAt vs k) (by rw[<- l];exact rel.val k);have g:(keyPart u).isSome=true:=by
  cases k with
  |inl i=>obtain⟨t,q⟩:=(show ∃t,u=Value.int i t from c);subst q;rfl
  |inr x=>obtain⟨t,q⟩:=(show ∃t,u=Value.str x t from c);subst q;rfl
 have m:argsOk "dict.pop" ⟨.ref a::u::more,[]⟩:=by
  rcases d with q|⟨x,q⟩
  .subst q;exact PySem.F.args_dict_pop_2 _ _
  .subst q;exact PySem.F.args_dict_pop_3 _ _ _
 refine call_meetsIn ZIa dd.typeIs PySem.F.entry_dict_pop m (meets_dict_pop_there (Cb X.prog X.w) a (Le c) more d g)
  ⟨vs,b,dd,by rw[<- rel.length];exact z,hw,λh' JM f=>h b _ ?_ Gp⟩
 have j:∃q,h'.get? a=some q:=let ⟨q,_,_,hq,_⟩:=JM;⟨q,hq⟩;exact RS I (by rw[e];exact True.intro) f j (bu (Bi (r8 A6 k) z) hd (rel.drop k) JM)
theorem v9(I:Inv X ZA Z H s)(e:Rd H a (.dK A6))(h:∀t s',Inv X ZA Z H s'->Q (.int A6.length t) s'):wpAny (model X.prog X.w) A (call (.builtin "len") [.ref a]) Q E s:=by
 obtain⟨z,hd,vs,rel,dd⟩:=Jl I.AH e;refine call_len_dict hd dd (by rw[<- rel.length];rw[ZBF]at z;omega) ?_;rw[<- rel.length];exact h _ _ (I.tok _)
end
def Yj(i:Expr):Prop:=∀a b,subscripted i false a b=operate [a,b] (getItem a b)
theorem zS{a:Expr}{T id:String}
  (m:typeLookup (.type T) "__getitem__"=pure (some (.builtin id))) (l:Yj a)
  (h:wpAny (model prog w) A (eval value env) (λo f=>wpAny (model prog w) A (eval a env) (λi c=>c.TypeIs o T/\wpAny (model prog w) A (getItem o i) Q E c) E f) E s) :
  wpAny (model prog w) A (eval (.Subscript value a pos) env) Q E s:=by
 refine Subscript_ (ud h (λo f k=>ud k (λi c d=>?_) λ_ _ x=>x) λ_ _ x=>x);obtain⟨g,d⟩:=d;unfold subscriptTail;refine pK ?_;rw[getitemInPython_of_ne g.not_modules];refine pK (zF g m ?_);have b:wpAny (model prog w) A (subscripted a false o i) (λr e=>wpAny (model prog w) A (letTemporaryGo value o r >>= λ_=>pure r) Q E e) E c:=by
  rw[l o i];exact wpAny_operating (ud d (λr e j=>pK (wpAny_letTemporaryGo (qm j))) λ_ _ x=>x)
 first
  |exact qm (pK b)
  |exact pK (qm (pK b))
  |exact pK b
theorem ZCd(I:Inv X ZA Z H s)(g:G7 H a y o):s.TypeIs (.ref a) "dict" := by
 rcases g with⟨A6,k,e,_,_⟩|⟨A6,k,b,e,_,_,_⟩
 .obtain⟨_,_,vs,_,dd⟩:=Jl I.AH e;exact dd.typeIs
 .obtain⟨_,_,xs,_,dd⟩:=Mx I.AH e;exact dd.typeIs
def L6(td ty:TE):TE:=λZ H Q=>td Z H λx H1=>ty Z H1 λy H2=>∃a v,x=.ref a/\G7 H2 a y (some v)/\Q v H2
def YV(ty td:TE):TE:=λZ H Q=>ty Z H λy H1=>td Z H1 λx H2=>∃a o,x=.ref a/\G7 H2 a y o/\Q (.bl o.isSome) H2
def Tf(ty td:TE):TE:=λZ H Q=>ty Z H λy H1=>td Z H1 λx H2=>∃a o,x=.ref a/\G7 H2 a y o/\Q (.bl (!o.isSome)) H2
def Sl(td ty tv:TE):TS:=λD Z H=>tv Z H λv H1=>td Z H1 λx H2=>ty Z H2 λy H3=>∃a H4,x=.ref a/\Pq H3 a y v H4/\D.nx Z H4
section
variable{o i:Expr}{pos' QP:Pos}{ty:TE}
theorem tN(j:X.A.units+1<cLine)(hi:PE X i ty)(ho:PE X o td):PC X .In i o (YV ty td):=by
 intro ZA s Z H Q I h;refine hi.k I h λm s1 y H1 I1 b e=>ho.k I1 e λu s2 x H2 I2 c⟨a,f,ex,g,d⟩=>?_;subst ex;obtain rfl:u=Value.ref a:=c;exact ZGG j I2 g b λl I3=>⟨.bl f.isSome,H2,I3,rfl,d⟩
theorem qt(j:X.A.units+1<cLine)(hi:PE X i ty)(ho:PE X o td):PC X .NotIn i o (Tf ty td):=by
 intro ZA s Z H Q I h;refine hi.k I h λm s1 y H1 I1 b e=>ho.k I1 e λu s2 x H2 I2 c⟨a,f,ex,g,d⟩=>?_;subst ex;obtain rfl:u=Value.ref a:=c;exact qD j I2 g b λl I3=>⟨.bl (!f.isSome),H2,I3,rfl,d⟩
end
theorem kI{P:Program}(h:Heap)(a:sysModules<h.objs.size):CD P w H (h.push { cls:=.type "dict", data:=.dict #[] }) h.objs.size (.dK []):=
 ⟨Ct _,beq_eq_false_iff_ne.mpr (BU (Br a)),[],.nil,Heap.DictOf.new h⟩
def ZJ:TE:=λ_ H Q=>∀p,H p=none->Q (.ref p) (upd H p (.dK []))
def cJ:List (TE×TE)->St->Hp->(List (V×V)->Hp->Prop)->Prop
 | [],_,H,Q=>Q [] H
 | (tk,tv)::r,Z,H,Q=>tk Z H λx H1=>tv Z H1 λy H2=>cJ r Z H2 λps H3=>Q ((x,y)::ps) H3
abbrev VV:List (V×V)->List (Value×Value)->Prop:=Paired λp q=>RelV p.1 q.1/\RelV p.2 q.2
def LD(X:Cx)(pos:Pos)(keys:List (Option Expr))(values:List Expr)(Ff:List (TE×TE)):Prop:=
 ∀(ZA:ZJb)(s:Shared)(Z:St)(H:Hp)(Q:List (V×V)->Hp->Prop),Inv X ZA Z H s->cJ Ff Z H Q->
  Zq2 X (evalPairs (pairTrees keys values X.env pos)) (λvs s'=>∃ps H',Inv X ZA Z H' s'/\VV ps vs/\Q ps H') X.xe s
theorem ZGX:LD X pos [] [] []:=λZA s Z H Q I h=>pairTrees_nil_walk ⟨[],H,I,.nil,h⟩
theorem ZAn{k v:Expr}{ks:List (Option Expr)}{vs:List Expr}{tk:TE}{Ff:List (TE×TE)}(i:PE X k tk)(f:PE X v tv)(g:LD X pos ks vs Ff):
  LD X pos (some k::ks) (v::vs) ((tk,tv)::Ff):=λZA s Z H Q I h=>
 pairTrees_cons_walk (i.k I h λu s1 x H1 I1 b e=>f.k I1 e λj s2 y H2 I2 a d=>
  BB (g ZA s2 Z H2 _ I2 d) λws l⟨ps,H3,I3,rel,c⟩=>⟨(x,y)::ps,H3,I3,.cons ⟨b,a⟩ rel,c⟩)
def Ks(A6 more:List (Key×V)):List (Key×V):=more.foldl (λacc a=>putK acc a.1 a.2) A6
theorem KV.merge:∀{more:List (Key×V)}{rs:List (Key×Value)}{A6:List (Key×V)}{vs:List (Key×Value)},KV more rs->KV A6 vs->KV (Ks A6 more) (merged vs rs):=by
 intro more rs A6 vs r;unfold KV at r
 induction r generalizing A6 vs with
 |nil=>intro q;exact q
 |@cons p q ps c h t b=>
  intro a;have e:KV (putK A6 p.1 p.2) (stored vs q.1 q.2):=by
   have:=a.put p.1 h.2;rw[<- h.1];exact this
  exact b e
theorem jq:∀(more A6:List (Key×V)),(Ks A6 more).length<=A6.length+more.length
 | [],A6=>by show A6.length<=A6.length+0;omega
 |p::r,A6=>by
  have h1:=jq r (putK A6 p.1 p.2);have h2:=X2 A6 p.1 p.2;show(Ks (putK A6 p.1 p.2) r).length<=_;rw[Ck];omega
theorem gZ{P:Program}{w:World}:∀{A6:List (Key×V)}{ws:List (Value×Value)},VV (A6.map λd=>(kV d.1,d.2)) ws->∃rs,Carries (Cb P w) ws rs/\KV A6 rs
 | [],_,r=>by rw[VH]at r;cases r;exact⟨[],True.intro,.nil⟩
 |p::A6,_,r=>by
  rw[CA]at r;cases r with
  |@cons a b as bs h t=>
   obtain⟨rs,c,q⟩:=gZ (P:=P) (w:=w) t;obtain⟨f,e⟩:=b;exact⟨(p.1,e)::rs,⟨Le h.1,rfl,c⟩,.cons ⟨rfl,h.2⟩ q⟩
def aQ(Ff:List (TE×TE)):TE:=λZ H Q=>∀p,H p=none->cJ Ff Z (upd H p (.dK [])) λps H2=>H2 p=some (.dK [])/\∃A6:List (Key×V),ps=A6.map (λa=>(kV a.1,a.2))/\A6.length<=15/\Q (.ref p) (upd H2 p (.dK (Ks [] A6)))
structure M1 (X:Cx) (o:Expr) (m:Str) (apos:Pos) (e:Expr) (Be:Pos):Prop where
 base:attributeBase o m X.env (eval o X.env)=eval o X.env
 few:((backTo Be (starEach [e] X.env)).all (λx=>!x.1) && (backToKw Be (keywordEach [] X.env)).all (λx=>x.1.isSome)
  && decide (([e]:List Expr).length+([]:List Keyword).length+(if([]:List Keyword).isEmpty then 0 else 1)<30))=true
 line:(apos.endLine == Be.line)=true
 trees:backTo Be (starEach [e] X.env)=[(false,eval e X.env)]
def iD(H:Hp)(a:Addr):Prop:=(∃A6,Rd H a (.dK A6))∨∃A6,Rd H a (.dT A6)
theorem yV(I:Inv X ZA Z H s)(d:iD H a):
  s.TypeIs (.ref a) "dict" /\ (∀b,Value.ref a=.ref b->∃ob,s.heap.get? b=some ob/\ob.dict=none)/\(a == sysModules)=false:=by
 rcases d with⟨A6,e⟩|⟨A6,e⟩
 .obtain⟨_,hd,vs,_,dd⟩:=Jl I.AH e;refine⟨dd.typeIs,λb q=>?_,hd⟩;cases q;obtain⟨ob,_,_,h1,h2,_⟩:=dd;exact⟨ob,h1,h2.2.1⟩
 .obtain⟨_,hd,xs,_,dd⟩:=Mx I.AH e;refine⟨dd.typeIs,λb q=>?_,hd⟩;cases q;obtain⟨ob,_,_,h1,h2,_⟩:=dd;exact⟨ob,h1,h2.2.1⟩
def Vw(td ty:TE):TE:=λZ H Q=>td Z H λx H1=>∃a,x=.ref a/\iD H1 a/\ty Z H1 λy H2=>∃A6 k v,H2 a=some (.dK A6)/\y=kV k/\Dq A6 k=some v/\Q v (upd H2 a (.dK (LC A6 k)))
theorem uI{β:Type}{l:List α}{f:α->β->Sem (ForInStep β)}(g:β->α->β)(h:∀x∈l,∀c,f x c=pure (.yield (g c x))):∀c,forIn l c f=pure (l.foldl g c):=by
 induction l with
 |nil=>intro c;rfl
 |cons x l a=>
  intro c;rw[List.forIn_cons,h x DC,pure_bind];exact a (λy b=>h y (Dd _ b)) (g c x)
noncomputable def MW(cells:List (Str×Addr))(cs:List (Str×Addr))(x:Str×NameKind):List (Str×Addr):=
 if x.2=.free then(x.1,(cells.lookup x.1).getD 0)::cs else cs
def Cr(cells:List (Str×Addr))(names:List (Str×NameKind)):List (Str×Addr):=names.foldl (MW cells) []
theorem ZBx(h:∀x∈scope.names,x.2=.free->(env.cells.lookup x.1).isSome=true):closureFor scope env=pure (Cr env.cells scope.names):=by
 simp only[closureFor];rw[uI (MW env.cells) (λx hx c=>by
  obtain⟨n,k⟩:=x;unfold MW
  by_cases b:k=NameKind.free
  .subst b;have q:=h _ hx rfl;obtain⟨a,f⟩:=Option.isSome_iff_exists.mp q;have d:env.cells.lookup n=some a:=f;have e:cellOf env n=pure a:=by unfold cellOf;rw[d]
   simp[e,d]
  .have:(k == NameKind.free)=false:=by simpa using b
   simp[this,b])]
 rfl
theorem mD{cells:List (Str×Addr)}:∀(names:List (Str×NameKind))(acc:List (Str×Addr)),(∀y∈names,y.2=.free->(cells.lookup y.1).isSome=true)->
  (∀x c,acc.lookup x=some c->cells.lookup x=some c)->∀x c,(names.foldl (MW cells) acc).lookup x=some c->cells.lookup x=some c
 | [],acc,_,ha,x,c,e=>ha x c e
 | (n,k)::r,acc,hs,ha,x,c,e=>by
  rw[List.foldl_cons]at e;refine mD r _ (λy f=>hs y (Dd _ f)) (λx c e=>?_) x c e;unfold MW at e
  by_cases b:k=NameKind.free
  .rw[tX b]at e;have q:=hs _ DC b;obtain⟨a,q⟩:=Option.isSome_iff_exists.mp q;have d:cells.lookup n=some a:=q;rw[IB]at e
   by_cases hx:x=n
   .subst hx;simp only[uz,d,Option.getD_some]at e;rw[d,<- e]
   .have g:(x == n)=false:=by simpa using hx
    rw[g]at e;exact ha x c e
  .rw[qg b]at e;exact ha x c e
theorem bJ{cells:List (Str×Addr)}{x:Str}:∀(names:List (Str×NameKind))(acc:List (Str×Addr)),((acc.lookup x).isSome=true∨(x,NameKind.free)∈names)->
  ((names.foldl (MW cells) acc).lookup x).isSome=true
 | [],acc,h=>by
  rcases h with h|h
  .exact h
  .cases h
 | (n,k)::r,acc,h=>by
  rw[List.foldl_cons];refine bJ r _ ?_;unfold MW;rcases h with h|h
  .refine .inl ?_;split
   .rw[IB];split
    .rfl
    .exact h
   .exact h
  .rcases List.mem_cons.mp h with e|h
   .cases e;refine .inl ?_;rw[tX rfl,IB];simp
   .exact .inr h
theorem Ro{env:Env}:∀(names:List (Str×NameKind))(x:Str),
  (names.map λ(n,k)=>if(k == NameKind.free && env.scope.kind == .function && env.kindOf n == some .cell)then(n,NameKind.cell)else(n,k)).lookup x =
   (names.lookup x).map λk=>if(k == NameKind.free && env.scope.kind == .function && env.kindOf x == some .cell)then NameKind.cell else k
 | [],x=>rfl
 | (n,k)::r,x=>by
  have c:=Ro (env:=env) r x;rw[CA]
  by_cases a:(k == NameKind.free && env.scope.kind == .function && env.kindOf n == some .cell)=true
  .show List.lookup x ((if(k == NameKind.free && env.scope.kind == .function && env.kindOf n == some .cell)=true then(n,NameKind.cell)else(n,k))::_)=_
   rw[tX a,IB,IB]
   by_cases hx:x=n
   .subst hx;simp only[uz,d4];rw[tX a]
   .have b:(x == n)=false:=by simpa using hx
    rw[b];exact c
  .show List.lookup x ((if(k == NameKind.free && env.scope.kind == .function && env.kindOf n == some .cell)=true then(n,NameKind.cell)else(n,k))::_)=_
   rw[qg a,IB,IB]
   by_cases hx:x=n
   .subst hx;simp only[uz,d4];rw[qg a]
   .have b:(x == n)=false:=by simpa using hx
    rw[b];exact c
noncomputable abbrev L7(X:Cx)(N:List Str)(scope:Scope)(cl:List (Str×Addr))(C:Addr)(s:Shared)(H:Hp)(fp:List Addr):Cx:=
 { X with N:=N,s₀:=s,H₀:=H,env:=compEnvC scope cl C X.env,outer:=X.stack,ex:=fp,fn:=λ_=>false,pn:=[],xe:=λ_ _=>False }
noncomputable def C1(js:List Nat)(Z:St):St:=js.map λj=>(Z[j]?).join
structure Fj (N:List Str) (outer scope:Scope) (x:Str) (As:List Str) (js:List Nat):Prop where
 kind:scope.kind=.function
 Qu:∀y∈scope.names,y.2≠.cell
 loc:∀y∈scope.names,y.2=.local->scope.names.lookup y.1=some .local
 kC:scope.names.lookup x=some .local
 at':js.map (λj=>N[j]?)=As.map some
 cell:∀y∈As,outer.names.lookup y=some .cell
 free:∀y∈As,scope.names.lookup y=some .free
 all:∀y∈scope.names,y.2=.free->outer.names.lookup y.1=some .cell
 nd:(As++[x]).Nodup
def K6(X:Cx)(ifs:List Expr)(t:TT):Prop:=
 ∀(ZA:ZJb)(s:Shared)(Z:St)(H:Hp)(Q:Bool->Hp->Prop),Inv X ZA Z H s->t Z H Q->
  Zq2 X (forIn ifs true λc r=>if r=true then do let ok <- isTrue c X.env (eval c X.env);pure (ForInStep.yield ok)else pure (ForInStep.yield r)) (TP X ZA Z Q) X.xe s
def jQ:TT:=λ_ H Q=>Q true H
theorem yq{t:TT}(a:PT X c t):K6 X [c] t:=λZA s Z H Q I h=>by
 rw[List.forIn_cons];refine pK ?_;rw[tX rfl];refine pK (BB (a ZA s Z H Q I h) λb s1 q=>qm ?_);show wpAny _ _ (forIn [] b _) _ _ s1;rw[oq];exact qm q
def MD(J:It)(js:List Nat)(tt:TT)(te:TE)(Z:St)(H1:Hp)(acc:Addr)(Q:VK):Prop:=
 ∃W:Nat->Nat->Hp->Prop,(∃m,W 0 m (upd H1 acc (.lst [])))/\∀i m H2,W i m H2->
  (J.stop i H2/\Q (.ref acc) H2)∨(J.go i H2/\∀x H3,J.Hh i H2 x H3->tt (C1 js Z++[some x]) H3 λb H4=>
   if b=true then te (C1 js Z++[some x]) H4 λy H5=>∃ys,H5 acc=some (.lst ys)/\ys.length<sizeLine/\∃a,a < m/\W (i+1) a (upd H5 acc (.lst (ys++[y])))
   else ∃a,a < m/\W (i+1) a H4)
def N3(wi:TI)(js:List Nat)(tt:TT)(te:TE):TE:=λZ H Q=>wi Z H λJ H1=>∀acc,H1 acc=none->MD J js tt te Z H1 acc Q
theorem ZCV(l:List α)(a b:α):(l++[a]).set l.length b=l++[b]:=by
 induction l with
 |nil=>rfl
 |cons x l c=>simp[c]
noncomputable def JO:Option Str->Addr->List (Str×Addr)
 |none,_=>[]
 |some x,n=>[(x,n)]
noncomputable def V0:Option Str->Heap->Heap
 |none,h=>h
 |some _,h=>h.push { cls:=.type "cell", data:=.cell none }
structure HX (N:List Str) (outer scope:Scope) (ce:Option Str) (zs As:List Str) (js:List Nat):Prop where
 kind:scope.kind=.function
 loc:∀y∈scope.names,y.2=.local->scope.names.lookup y.1=some .local
 one:∀y∈scope.names,y.2=.cell->ce=some y.1
 sub:∀x,ce=some x->x∈zs
 cf:∀(n:Nat)(cl:List (Str×Addr)),cellsFrom n scope.names cl=JO ce n++cl
 pc:∀h:Heap,pushCells h scope.names=V0 ce h
 at':js.map (λj=>N[j]?)=As.map some
 cell:∀y∈As,outer.names.lookup y=some .cell
 free:∀y∈As,scope.names.lookup y=some .free
 all:∀y∈scope.names,y.2=.free->outer.names.lookup y.1=some .cell
 nd:(As++zs).Nodup
abbrev Hz(X:Cx)(N:List Str)(scope:Scope)(ce:Option Str)(cl:List (Str×Addr))(C:Addr)(s:Shared)(H:Hp)(fp:List Addr):Cx:=
 { X with N:=N,s₀:=s,H₀:=H,env:=compEnvC scope (JO ce (C+1)++cl) C X.env,outer:=X.stack,ex:=fp,fn:=λy=>ce == some y,pn:=[],xe:=λ_ _=>False }
theorem yS{M:Model}{a:Addr}{b:Option Addr}{c:Value}{outer:Env}{Q:Env->Shared->Prop}
  (cf:∀(n:Nat)(cl:List (Str×Addr)),cellsFrom n scope.names cl=JO ce n++cl) (pc:∀h:Heap,pushCells h scope.names=V0 ce h)
  (d:Q (newEnv scope s.heap.objs.size a (JO ce (s.heap.objs.size+1)++closure) qual b c (some outer) builtinsNs) { s with heap:=V0 ce (s.heap.push { cls:=.type "dict", data:=.dict #[] }) }) :
  wpAny M A (newFunctionEnv scope a closure [] qual b c (some outer)) Q E s:=by
 simp only[newFunctionEnv,ZIY,ZBU];refine pK (wpAny_alloc ?_);refine pK (wpAny_layCells _ (λname kind cells=>by cases e:kind == NameKind.cell <;> simp[e]) _ _ _ _ ?_)
 rw[cf,pc];rw[show({ s with heap:=s.heap.push { cls:=.type "dict", data:=.dict #[] } }:Shared).heap.objs.size=s.heap.objs.size+1 from HJ ..]
 refine pK ?_;rw[oq];exact qm (qm d)
theorem yQ{y:Str}{c:Addr}(h:(JO ce n++cl).lookup y=some c):(ce=some y/\c=n)∨(ce≠some y/\cl.lookup y=some c):=by
 cases ce with
 |none=>exact .inr ⟨λz=>(by cases z),h⟩
 |some x=>
  have h:((x,n)::cl).lookup y=some c:=h;rw[IB]at h
  by_cases e:y=x
  .subst e;simp only[uz]at h;exact .inl ⟨rfl,(Bs h).symm⟩
  .have a:(y == x)=false:=by simpa using e
   rw[a]at h;exact .inr ⟨λz=>e (Bs z).symm,h⟩
theorem fW{y:Str}(h:ce≠some y):(JO ce n++cl).lookup y=cl.lookup y:=by
 cases ce with
 |none=>rfl
 |some x=>
  show((x,n)::cl).lookup y=_;have a:(y == x)=false:=beq_eq_false_iff_ne.mpr λz=>h (by rw[z]);rw[IB,a]
theorem ZAC:(JO (some x) n++cl).lookup x=some n:=by
 show((x,n)::cl).lookup x=_;rw[IB,uz]
theorem ZCq{iter:Expr}{it acc:Value}(I:Nat->Shared->Prop)
  (turn:∀n s,I n s->wpAny (model prog w) A (pyNext it) (λr s1=>match r with
   |none=>R (.ok .next) s1
   |some v=>wpAny (model prog w) A (letOwnedTupleGo tg it v) (λ_ s2=>wpAny (model prog w) A (assign tg env v) (λ_ f=>
     wpAny (model prog w) A (forIn ifs true λc r=>if r=true then do let ok <- isTrue c env (eval c env);pure (ForInStep.yield ok)else pure (ForInStep.yield r)) (λok s4=>if ok=true then
      wpAny (model prog w) A (eval elt env) (λx d=>wpAny (model prog w) A (call (.builtin "list.append") [acc,x]) (λ_ b=>∃m,m<n/\I m b) (notedBy (model prog w) A env λe s'=>R (.error e) s') d) (notedBy (model prog w) A env λe s'=>R (.error e) s') s4
      else ∃m,m<n/\I m s4) (notedBy (model prog w) A env λe s'=>R (.error e) s') f)
     (notedBy (model prog w) A env λe s'=>R (.error e) s') s2) (notedBy (model prog w) A env λe s'=>R (.error e) s') s1) (notedBy (model prog w) A env λe s'=>R (.error e) s') s)
  (n:Nat) (h:I n s):codeAny (model prog w) A (.compLoop (.ListComp elt [⟨tg,iter,ifs,0⟩] scope pos) 0 it acc env) R s:=by
 refine codeAny_loop rfl I (λn s o=>(show wpAny _ A ((compTurn (.ListComp elt [⟨tg,iter,ifs,0⟩] scope pos) 0 it acc env).onRaise (λx=>do noteFrame x env;theTreesLotGoes x)) _ _ s from wpAny_noted ?_)) n h
 rw[compTurn_list];refine pK (ZAK (pK (ud (turn n s o) (λr s1 g=>?_) λ_ _ z=>z)));cases r with
 |none=>exact qm g
 |some v=>
  refine pK (ud g (λ_ s2 l=>pK (ud l (λ_ f k=>pK (ud k (λok s4 a=>?_) λ_ _ z=>z)) λ_ _ z=>z)) λ_ _ z=>z);cases ok with
  |false=>
   rw[qg (by decide)]at a;exact pK (qm (qm ⟨rfl,a⟩))
  |true=>
   rw[tX rfl]at a;exact pK (pK (ud a (λx d j=>pK (ud j (λ_ b i=>qm (qm ⟨rfl,i⟩)) λ_ _ z=>z)) λ_ _ z=>z))
abbrev mM(tt:TT)(te:TE)(acc:Addr)(W:Nat->Nat->Hp->Prop)(i m:Nat)(Z:St)(H:Hp):Prop:=
 tt Z H λb H4=>if b=true then te Z H4 λy H5=>∃ys,H5 acc=some (.lst ys)/\ys.length<sizeLine/\∃m',m' < m/\W (i+1) m' (upd H5 acc (.lst (ys++[y])))
  else ∃m',m' < m/\W (i+1) m' H4
def V9(g:TG)(n:Nat)(J:It)(js:List Nat)(tt:TT)(te:TE)(Z:St)(H1:Hp)(acc:Addr)(Q:VK):Prop:=
 ∃W:Nat->Nat->Hp->Prop,(∃m,W 0 m (upd H1 acc (.lst [])))/\∀i m H2,W i m H2->
  (J.stop i H2/\Q (.ref acc) H2)∨(J.go i H2/\∀x H3,J.Hh i H2 x H3->∀ws,ws.length=n->g x (C1 js Z++ws) H3 λσ8 H8=>∃us,us.length=n/\σ8=C1 js Z++us/\mM tt te acc W i m σ8 H8)
def fF(CW:It->St->Hp->Addr->VK->Prop)(wi:TI):TE:=λZ H Q=>wi Z H λJ H1=>∀acc,H1 acc=none->CW J Z H1 acc Q
section
variable{iter:Expr}{zs As:List Str}{fp:List Addr}{g:TG}
theorem ZE1(h:scope.names.lookup x=some .cell):(relabel scope env).names.lookup x=some .cell:=by
 refine(Ro (env:=env) scope.names x).trans ?_;rw[h];simp
theorem ZD5{n:Nat}(h:(List.replicate n (none:Option V))[i]?=some (some v)):False:=by
 rw[ot]at h
 by_cases c:i<n
 .rw[tX c]at h;cases h
 .rw[qg c]at h;cases h
theorem tV(S:HX X.N X.env.scope scope ce zs As js)(I3:Inv X ZA Z H2 s2)(G:∀b∈fp,FA X ZA H2 b)(M:∀b∈fp,b<s2.heap.objs.size)
  {m:ZJc}(O3:h1.Ns s2.heap.objs.size m) (A:∀b o,s2.heap.get? b=some o->h1.get? b=some o) (F:∀x,ce=some x->h1.IsCell (s2.heap.objs.size+1) none) :
  Inv (Hz X (As++zs) scope ce (Cr X.env.cells scope.names) s2.heap.objs.size s2 H2 fp) [] (C1 js Z++List.replicate zs.length none) H2 { s2 with heap:=h1,toks:=t' }:=by
 have L:∀y∈scope.names,y.2=.free->(X.env.cells.lookup y.1).isSome=true:=λy g D=>by
  obtain⟨c,e⟩:=I3.ok.has y.1 (.inl (S.all y g D));rw[e];rfl
 have R:∀y c,(Cr X.env.cells scope.names).lookup y=some c->X.env.cells.lookup y=some c:=mD scope.names [] L (λ_ _ e=>by cases e);have O:∀y k,(relabel scope X.env).names.lookup y=some k->k=.cell∨k=.free->scope.names.lookup y=some .free∨ce=some y:=λy k e D=>by
  have t:=(Ro (env:=X.env) scope.names y).symm.trans e;cases q:scope.names.lookup y with
  |none=>rw[q]at t;cases t
  |some k0=>
   rw[q]at t;cases k0 with
   |free=>exact .inl rfl
   |cell=>exact .inr (S.one _ (Mr q) rfl)
   |_=>simp at t;rcases D with rfl|rfl <;> cases t
 have n:js.length=As.length:=by have:=vB List.length S.at';simpa using this
 have Q:∀y c,X.env.cells.lookup y=some c->c<s2.heap.objs.size:=λy c e=>by
  obtain⟨v,o,ho,_⟩:=I3.cell y c e;exact BE ho
 have f:∀c v,s2.heap.IsCell c v->h1.IsCell c v:=λc v AU=>by obtain⟨o,ho,hd⟩:=AU;exact⟨o,A c o ho,hd⟩
 have B:∀y c,(JO ce (s2.heap.objs.size+1)++Cr X.env.cells scope.names).lookup y=some c->(ce=some y/\c=s2.heap.objs.size+1)∨(ce≠some y/\X.env.cells.lookup y=some c):=λy c e=>(yQ e).imp id λz=>⟨z.1,R y c z.2⟩;have T:∀y∈As,ce≠some y:=λy g z=>(List.nodup_append.mp S.nd).2.2 y g y (S.sub y z) rfl;refine⟨⟨I3.ok.mod,S.kind,I3.ok.glob,I3.ok.blt,B4 _,λy z c K E=>?_,λy g=>?_,λy c J e=>?_,I3.ok.hd,I3.ok.frames,.inl rfl,λb s=>⟨Br (M b s),λy c e=>?_⟩,
  λb o e=>I3.bs b o e,Bi I3.ok.HW I3.sz,λb o e s=>?_,λb s V=>?_,I3.stack,I3.U6⟩,rfl,I3.bare,Un.kept A,⟨m,O3,λi y v K E e3=>?_⟩,λy c e=>?_,I3.AH.fresh (B4 _),λy c e=>?_,λp W=>(by cases W),I3.AH.kept A,?_⟩
 .rcases B y c K with⟨a1,rfl⟩|⟨_,D6⟩
  .rcases B z _ E with⟨a2,_⟩|⟨_,FU⟩
   .exact Bs (a1.symm.trans a2)
   .exact absurd (Q z _ FU) (ZIW (G6 _))
  .rcases B z c E with⟨_,rfl⟩|⟨_,FU⟩
   .exact absurd (Q y _ D6) (ZIW (G6 _))
   .exact I3.ok.inj y z c D6 FU
 .have J:scope.names.lookup y=some .free∨ce=some y:=g.elim (λg=>O y _ g (.inl rfl)) λg=>O y _ g (.inr rfl);show ∃c,List.lookup y (JO ce (s2.heap.objs.size+1)++Cr X.env.cells scope.names)=some c
  by_cases ex:ce=some y
  .rw[ex];exact⟨_,ZAC⟩
  .rw[fW ex];exact Option.isSome_iff_exists.mp (bJ scope.names [] (.inr (Mr (J.resolve_right ex))))
 .rcases B y c e with⟨_,rfl⟩|⟨n1,_⟩
  .exact G6 _
  .exact absurd (eq_of_beq J) n1
 .rcases B y c e with⟨_,rfl⟩|⟨_,D6⟩
  .exact Ol (LS (M b s))
  .exact(G b s).2.2.2.2.1 y c D6
 .rcases(G b s).2.2.2.1 with z|z
  .exact I3.ok.Kt b o e z
  .exact absurd (Dn (Dn (BE e) I3.ok.HW) z) (Mp _)
 .rcases List.mem_cons.mp (I3.Oo b V)with z|z
  .exact(G b s).2.1 z
  .exact(G b s).2.2.1 z
 .have F:(C1 js Z).length=As.length:=by unfold C1;rw[AK,n]
  have hi:i<As.length:=by
   by_cases hi:i<As.length
   .exact hi
   .have d:(C1 js Z++List.replicate zs.length none)[i]?=some (some v):=E;rw[K9 (by rw[F];omega),F]at d;exact(ZD5 d).elim
  have H:As[i]?=some y:=by
   have H:(As++zs)[i]?=some y:=K
   rwa [IA hi]at H
  have d:(C1 js Z)[i]?=some (some v):=by
   have d:(C1 js Z++List.replicate zs.length none)[i]?=some (some v):=E
   rwa [IA (by rw[F];exact hi)]at d
  have C:y∈As:=EL H;unfold C1 at d;rw[Bb]at d;cases I:js[i]? with
  |none=>rw[I]at d;cases d
  |some j=>
   rw[I]at d;have σ:X.N[j]?=some y:=by
    have q:=vB (λl=>l[i]?) S.at';simp only[Bb,I,H,d4]at q;exact Bs q
   have hσ:Z[j]?=some (some v):=by
    simp only[d4,Option.some.injEq]at d;cases q:Z[j]? with
    |none=>rw[q]at d;cases d
    |some w=>rw[q]at d;simp at d;rw[d]
   obtain⟨m0,Y,U⟩:=I3.loc;obtain⟨u,r,l⟩:=U j y v σ hσ (.inr (.inl (S.cell y C)));refine⟨u,r,?_⟩;rcases l with⟨k,_⟩|⟨_,c,e,z⟩
   .have k':X.env.scope.names.lookup y=some .local:=k;rw[S.cell y C]at k';cases k'
   .have XE:X.env.kindOf y=some .cell:=S.cell y C;have D:(relabel scope X.env).names.lookup y=some .cell:=by
     refine(Ro (env:=X.env) scope.names y).trans ?_;rw[S.free y C];simp[I3.ok.kind,XE]
    obtain⟨c',t⟩:=Option.isSome_iff_exists.mp (bJ (cells:=X.env.cells) scope.names [] (.inr (Mr (S.free y C))));have P:=R y c' t;rw[e]at P;cases P;exact .inr ⟨.inl D,c,(fW (T y C)).trans t,f c _ z⟩
 .rcases B y c e with⟨a,rfl⟩|⟨_,D6⟩
  .exact⟨none,F _ a⟩
  .obtain⟨v,z⟩:=I3.cell y c D6;exact⟨v,f c v z⟩
 .rcases B y c e with⟨_,rfl⟩|⟨_,D6⟩
  .exact I3.AH.fresh (G6 _)
  .exact I3.EU y c D6
 .show(C1 js Z++List.replicate zs.length none).length=(As++zs).length;unfold C1;simp[n]
theorem yR(h:Y.prog=X.prog)(hw:Y.w=X.w)(hK:Y.K=X.K)(hA:Y.A=X.A)(B:Y.xe=λ_ _=>False)(V:Y.calm=true)
  (hg:PG Y tg g) (FY:K6 Y ifs tt) (Fd:PE Y elt te)
  (T:Turn X.prog X.w X.K tg J fp it tn) (t:∀b∈fp,Y.Ok->FA Y [] (λ_=>none) b)
  (W:Nat->Nat->Hp->Prop) (Q:VK)
  (turn:∀i m H2,W i m H2->(J.stop i H2/\Q (.ref acc) H2)∨(J.go i H2/\∀x H3,J.Hh i H2 x H3->∀ws,ws.length=n0->g x (C1 js Z++ws) H3 λσ8 H8=>∃us,us.length=n0/\σ8=C1 js Z++us/\mM tt te acc W i m σ8 H8))
  (I4:Inv Y [] (C1 js Z++ws) H4 s4) (ED:tn 0 s4.heap) (H:∀b∈fp,H4 b=none) (U:Nat) (w4:W 0 U H4)
  (wa:ws.length=n0) (hR:∀H' s' ws,Inv Y [] (C1 js Z++ws) H' s'->Q (.ref acc) H'->R (.ok .next) s') :
  codeAny (model X.prog X.w) X.A (.compLoop (.ListComp elt [⟨tg,iter,ifs,0⟩] scope pos) 0 (.ref it) (.ref acc) Y.env) R s4:=by
 have AH:=I4.ok;have M:∀{H':Hp},(∀b∈fp,H' b=none)->∀b∈fp,FA Y [] H' b:=λhn b c=>⟨hn b c,(t b c AH).2⟩;rw[<- h,<- hw,<- hA];have j:∀{σ:Value->Shared->Prop}v s,Y.xe v s->σ v s:=λv s z=>by rw[B]at z;exact z.elim
 refine ZCq (λn s'=>∃i ws H',ws.length=n0/\Inv Y [] (C1 js Z++ws) H' s'/\tn i s'.heap/\(∀b∈fp,H' b=none)/\W i n H') ?_ U ⟨0,ws,H4,wa,I4,ED,H,w4⟩;rintro n S⟨i,gW,H5,C,I5,LI,UB,w5⟩;rcases turn i n H5 w5 with⟨stop,q⟩|⟨go,step⟩
 .have d:=T.done Y h hw hK V i [] S _ H5 (λ_ _=>False) I5 (M UB) LI stop;rw[<- h,<- hw]at d;refine ud d (λr P⟨E,I6⟩=>?_) λ_ _ z=>z.elim;subst E;exact hR H5 P gW I6 q
 .have d:=T.item Y h hw hK V i [] S _ H5 (λ_ _=>False) I5 (M UB) LI go;rw[<- h,<- hw]at d;refine ud d (λr P⟨u,E,h6⟩=>?_) λ_ _ z=>z.elim;subst E;refine ud h6 (λ_ O⟨v,H7,I7,r7,y7,Vv,G⟩=>?_) λ_ _ z=>z.elim;have N:=I7.pinned (M G) (T.obj _ _ Vv);refine ud (hg _ O _ H7 v u _ N r7 (step v H7 y7 gW C)) (λ_ s8⟨σ8,H8,I8,us,eU,e8,D⟩=>?_) j;subst e8;have a:∀{σa:St}{Ha:Hp}{sa:Shared},Inv Y ([]++Pe fp O.heap) σa Ha sa->tn (i+1) sa.heap/\(∀b∈fp,Ha b=none):=λ{σa Ha sa}Ia=>by
   refine⟨T.keep _ _ _ Vv λb c o e=>(Ia.pin (b,o) (G5 _ (G5 _ (Tz c e)))).1,λb c=>?_⟩;obtain⟨o,e,d⟩:=T.obj _ _ Vv b c;exact(Ia.pin (b,o) (G5 _ (G5 _ (Tz c e)))).2.1
  refine ud (FY _ s8 _ H8 _ I8 D) (λb s9⟨H9,I9,p⟩=>?_) j;cases b with
  |false=>
   have l:∃f,f < n/\W (i+1) f H9:=p;obtain⟨f,F,w9⟩:=l;rw[qg (by decide)];exact⟨f,F,i+1,_,H9,eU,I9.PM,(a I9).1,(a I9).2,w9⟩
  |true=>
   rw[tX rfl];rw[tX rfl]at p;refine ud (Fd _ s9 _ H9 _ I9 p) (λyv IY⟨y,gQ,I10,sN,ys,BJ,hz,f,F,k⟩=>?_) j;refine ud (fX (X:=Y) _ IY _ gQ (.ref acc) [y] (.ref acc) [yv] (λ_ h9=>h9=upd gQ acc (.lst (ys++[y]))) I10 rfl (.cons sN .nil) ⟨acc,ys,y,rfl,rfl,BJ,hz,rfl⟩)
    (λ_ s11⟨_,h9,L,_,I⟩=>?_) j
   subst I;exact⟨f,F,i+1,_,_,eU,L.PM,(a L).1,(a L).2,k⟩
theorem du{RR:Value->Addr->Result->Shared->Prop}(L:X.calm=true)(S:HX X.N X.env.scope scope ce zs As js)
  (I:∀C s H,PG (Hz X (As++zs) scope ce (Cr X.env.cells scope.names) C s H fp) tg g)
  (FY:∀C s H,K6 (Hz X (As++zs) scope ce (Cr X.env.cells scope.names) C s H fp) ifs tt) (Fd:∀C s H,PE (Hz X (As++zs) scope ce (Cr X.env.cells scope.names) C s H fp) elt te)
  (T:Turn X.prog X.w X.K tg J fp it tn) (I2:Inv X ZA Z H2 s2) (Di:tn 0 s2.heap) (t:∀b∈fp,FA X ZA H2 b) (Q:VK) (M:∀acc,H2 acc=none->V9 g zs.length J js tt te Z H2 acc Q)
  (B:∀acc C H' s' m,Inv X ZA Z H' s'->FA X ZA H' C->s'.heap.Ns C m->Q (.ref acc) H'->RR (.ref acc) C (.ok .next) s') :
  Zq2 X (newList []) (λacc a=>Zq2 X (newFunctionEnv scope X.env.globals (Cr X.env.cells scope.names) [] X.env.qual none .none (some X.env)) (λn s4=>
   codeAny (model X.prog X.w) X.A (.compStart (.ListComp elt [⟨tg,iter,ifs,0⟩] scope pos) 0 (.ref it) acc { n with scope:=relabel scope X.env }) (RR acc n.locals) s4) E a) E s2:=by
 refine xI (yS S.cf S.pc ?_);have i:Inv X ZA Z (upd H2 s2.heap.objs.size (.lst [])) { s2 with heap:=s2.heap.push { cls:=.type "list", data:=.seq ([]:List Value).toArray } }:=I2.nP (t':=s2.toks) .nil (Ct _)
 have v:∀b∈fp,b<s2.heap.objs.size:=λb c=>by
  obtain⟨o,e,_⟩:=T.obj _ _ Di b c;exact BE e
 have hsz:(s2.heap.push { cls:=.type "list", data:=.seq ([]:List Value).toArray }).objs.size=s2.heap.objs.size+1:=HJ ..;have f:∀b∈fp,FA X ZA (upd H2 s2.heap.objs.size (.lst [])) b:=λb c=>⟨by rw[Aa (Br (v b c))];exact(t b c).1,(t b c).2⟩;generalize j:({ s2 with heap:=s2.heap.push { cls:=.type "list", data:=.seq ([]:List Value).toArray } }:Shared)=a at i ⊢
 have r:a.heap=s2.heap.push { cls:=.type "list", data:=.seq ([]:List Value).toArray }:=by rw[<- j]
 have y:∀b∈fp,b<a.heap.objs.size:=λb c=>by rw[r,hsz];exact LS (v b c)
 generalize k:V0 ce (a.heap.push { cls:=.type "dict", data:=.dict #[] })=h1;have l:∀b o,(a.heap.push { cls:=.type "dict", data:=.dict #[] }).get? b=some o->h1.get? b=some o:=λb o e=>by
  rw[<- k];cases ce with
  |none=>exact e
  |some _=>exact Bf _ e
 have h:∀b o,a.heap.get? b=some o->h1.get? b=some o:=λb o e=>l b o (Bf _ e);have D:∀b o,s2.heap.get? b=some o->h1.get? b=some o:=λb o e=>h b o (by rw[r];exact Bf _ e);have O:h1.Ns a.heap.objs.size (λ_=>none):=(Heap.Ns.new a.heap (.type "dict")).keeps l;have P:∀x,ce=some x->h1.IsCell (a.heap.objs.size+1) none:=λx hx=>by
  subst hx;rw[<- k];have e:(a.heap.push { cls:=.type "dict", data:=.dict #[] }).objs.size=a.heap.objs.size+1:=HJ ..;exact⟨_,by rw[<- e];exact CK _ rfl,rfl⟩
 have R:=tV S i f y O h P (t':=a.toks);have u:tn 0 h1:=T.keep _ _ _ Di λb _ o e=>D b o e;obtain⟨W,⟨F,z⟩,turn⟩:=M s2.heap.objs.size (I2.AH.fresh (B4 _));have d:codeAny (model X.prog X.w) X.A (.compLoop (.ListComp elt [⟨tg,iter,ifs,0⟩] scope pos) 0 (.ref it) (.ref s2.heap.objs.size) (compEnvC scope (JO ce (a.heap.objs.size+1)++Cr X.env.cells scope.names) a.heap.objs.size X.env))
   (RR (.ref s2.heap.objs.size) a.heap.objs.size) { a with heap:=h1 }:=by
  refine yR (X:=X) (Y:=Hz X (As++zs) scope ce (Cr X.env.cells scope.names) a.heap.objs.size a (upd H2 s2.heap.objs.size (.lst [])) fp) (acc:=s2.heap.objs.size) (Q:=Q) rfl rfl rfl rfl rfl L (I _ _ _) (FY _ _ _) (Fd _ _ _) T (λb c ok=>⟨rfl,(ok.Li b c).1,ok.Kl b c,.inl c,(ok.Li b c).2,λp G=>by cases G⟩) W turn R u (λb c=>(f b c).1) F z (ZIN ..) λH' s' w I' q=>?_;obtain⟨m,hn,_⟩:=I'.loc;exact B _ _ H' s' m (i.yA (ch:=fp) I'.os I'.base I'.AH I'.bare λb c=>⟨(f b c).2.2.2.1,(f b c).2.1,(f b c).2.2.2.2.1,(f b c).2.2.2.2.2⟩) (i.QZ (B4 _) I'.free) hn q
 exact codeAny_compStart_list d (T.self X.A 0 _ _ _ u d)
theorem k6(S:HX X.N X.env.scope scope ce zs As js)(I:Inv X ZA Z H s):closureFor scope X.env=pure (Cr X.env.cells scope.names):=ZBx λy a b=>by
 obtain⟨c,e⟩:=I.ok.has y.1 (.inl (S.all y a b));rw[e];rfl
theorem qX(k:∀J Z H1 acc Q,CW J Z H1 acc Q->V9 g zs.length J js tt te Z H1 acc Q)(f:X.calm=true)(S:HX X.N X.env.scope scope ce zs As js)(hi:PI X tg iter wi)
  (d:∀fp C s H,PG (Hz X (As++zs) scope ce (Cr X.env.cells scope.names) C s H fp) tg g)
  (FY:∀fp C s H,K6 (Hz X (As++zs) scope ce (Cr X.env.cells scope.names) C s H fp) ifs tt) (Fd:∀fp C s H,PE (Hz X (As++zs) scope ce (Cr X.env.cells scope.names) C s H fp) elt te)
  (c:∀v,foldedSetIterable iter X.env v=pure v):PE X (.ListComp elt [⟨tg,iter,ifs,0⟩] scope pos) (fF CW wi):=by
 intro ZA s Z H Q I h;rw[eval_ListComp];refine wpAny_comprehension_free (use:=none) rfl c (k6 S I) S.kind S.loc (BB (hi ZA s Z H _ I h) λv s1 h1=>BB h1 λTv s2 h2=>?_);obtain⟨it,fp,tn,J,H2,e,I2,T,Di,l,hw⟩:=h2;subst e;refine du (RR:=λacc C=>compPost (model X.prog X.w) X.A X.xe none (EP X ZA Z Q) acc C) f S (d fp) (FY fp) (Fd fp) T I2 Di l Q (λacc j=>k _ _ _ _ _ (hw acc j)) λacc C H' s' m I' a hn q=>⟨m,hn,λh' YW=>?_⟩;exact⟨.ref acc,H',I'.turned (t':=s'.toks) (λb o i e=>(YW.2 b i).trans e) a.1 a.2.1 a.2.2.2.1 a.2.2.2.2.1 a.2.2.2.2.2,rfl,q⟩
theorem qq(x:∀J Z H1 acc Q,CW J Z H1 acc Q->V9 g zs.length J js tt te Z H1 acc Q){y:Str}(B:X.N.Nodup)(EM:X.N[i]?=some y)(k:Loc X.env.scope y)(t:X.calm=true)(S:HX X.N X.env.scope scope ce zs As js)(hi:PI X tg iter wi)
  (p:∀fp C s H,PG (Hz X (As++zs) scope ce (Cr X.env.cells scope.names) C s H fp) tg g)
  (FY:∀fp C s H,K6 (Hz X (As++zs) scope ce (Cr X.env.cells scope.names) C s H fp) ifs tt) (Fd:∀fp C s H,PE (Hz X (As++zs) scope ce (Cr X.env.cells scope.names) C s H fp) elt te)
  (Pu:swapsWith (.ListComp elt [⟨tg,iter,ifs,0⟩] scope pos) (some (.Name y py)) Kk.line X.env=pure true)
  (r:X.fn y=true∨X.env.scope.names.lookup y=some .local)
  (l:∀v,foldedSetIterable iter X.env v=pure v):PS X (.Assign [.Name y py] (.ListComp elt [⟨tg,iter,ifs,0⟩] scope pos) Kk) (FR (fF CW wi) (Co i)):=by
 intro ZA s Z H D I h;rw[exec_Assign_Name_used _ _ _ _ Pu];refine pK (ZAK (pK ?_));show wpAny _ X.A (do let _ <- comprehension (.ListComp elt [⟨tg,iter,ifs,0⟩] scope pos) scope X.env _ (newList []) false (eval iter X.env) (some (assign (.Name y py) X.env))) _ _ s
 refine pK (ud (wpAny_comprehension_free (use:=some (assign (.Name y py) X.env)) (Q:=λ_ s'=>SP X ZA D .next s') rfl l (k6 S I) S.kind S.loc
  (BB (hi ZA s Z H _ I h) λv s1 h1=>BB h1 λTv s2 h2=>?_)) (λ_ s' n=>qm (qm n)) λ_ _ e=>e)
 obtain⟨it,fp,tn,J,H2,e,I2,T,Di,E,hw⟩:=h2;subst e;refine du (RR:=λacc C=>compPost (model X.prog X.w) X.A X.xe (some (assign (.Name y py) X.env)) (λ_ s'=>SP X ZA D .next s') acc C) t S (p fp) (FY fp) (Fd fp) T I2 Di E _ (λacc d=>x _ _ _ _ _ (hw acc d)) λacc C H' s' m I' c hn q=>?_;show wpAny _ X.A (assign (.Name y py) X.env (.ref acc)) _ _ s';refine wpAny_assign_Name (Xd (v:=.ref acc) I' B EM k rfl (λQi j⟨a,f,d⟩=>?_) r);have F:C≠a:=by
  rcases d with z|z
  .rw[z];exact c.2.1
  .exact(c.2.2.2.2.1 y a z).symm
 refine⟨m,hn.sameBut f F,λh' YW=>?_⟩;exact⟨_,H',j.turned (t':=Qi.toks) (λb o u e=>(YW.2 b u).trans e) c.1 c.2.1 c.2.2.2.1 c.2.2.2.2.1 c.2.2.2.2.2,q⟩
theorem eP{n:Nat}{cl:List (Str×Addr)}:∀{names:List (Str×NameKind)},(∀y∈names,y.2≠.cell)->cellsFrom n names cl=cl
 | [],_=>rfl
 | (x,k)::r,h=>by
  have b:(k == NameKind.cell)=false:=beq_eq_false_iff_ne.mpr (h _ DC);rw[cellsFrom,b];exact eP λy a=>h y (Dd _ a)
theorem gy{a:Heap}:∀{names:List (Str×NameKind)},(∀y∈names,y.2≠.cell)->pushCells a names=a
 | [],_=>rfl
 | (x,k)::r,h=>by
  have c:(k == NameKind.cell)=false:=beq_eq_false_iff_ne.mpr (h _ DC);rw[pushCells,c];exact gy λy b=>h y (Dd _ b)
theorem HX.y8(kind:scope.kind=.function)(Qu:∀y∈scope.names,y.2≠.cell)(loc:∀y∈scope.names,y.2=.local->scope.names.lookup y.1=some .local)
  (at':js.map (λj=>N[j]?)=As.map some) (cell:∀y∈As,outer.names.lookup y=some .cell) (free:∀y∈As,scope.names.lookup y=some .free)
  (all:∀y∈scope.names,y.2=.free->outer.names.lookup y.1=some .cell) (nd:(As++zs).Nodup):HX N outer scope none zs As js:=
 ⟨kind,loc,λy a e=>absurd e (Qu y a),λx e=>(by cases e),λn cl=>eP Qu,λh=>gy Qu,at',cell,free,all,nd⟩
theorem HX.len(S:HX N outer scope ce zs As js)(Z:St):(C1 js Z).length=As.length:=by
 unfold C1;rw[AK];have:=vB List.length S.at';simpa using this
theorem oR(S:HX N outer scope ce [x] As js)(J:It)(Z:St)(H1:Hp)(acc:Addr)(Q:VK)(h:MD J js tt te Z H1 acc Q):V9 (Co As.length) 1 J js tt te Z H1 acc Q:=by
 obtain⟨W,a,h⟩:=h;refine⟨W,a,λi m H2 w=>(h i m H2 w).imp id λz=>⟨z.1,λx H3 y ws hw=>?_⟩⟩
 match ws,hw with
 | [w],_=>
  have e:(C1 js Z++[w]).set As.length (some x)=C1 js Z++[some x]:=by rw[<- S.len Z];exact ZCV _ _ _
  exact⟨[some x],rfl,e,by rw[e];exact z.2 x H3 y⟩
theorem jr(S:HX X.N X.env.scope scope ce [x] As js)(hx:scope.names.lookup x=some .local∨(ce=some x/\scope.names.lookup x=some .cell)):
  PG (Hz X (As++[x]) scope ce cl C s H fp) (.Name x px) (Co As.length):=
 kU S.nd (by simp) (hx.imp (λh=>lookup_relabel_local h) λh=>ZE1 h.2) (hx.symm.imp (λh=>by show(ce == some x)=true;rw[h.1];exact uz _) λh=>lookup_relabel_local h)
theorem Fj.G(S:Fj N outer scope x As js):HX N outer scope none [x] As js:=.y8 S.kind S.Qu S.loc S.at' S.cell S.free S.all S.nd
theorem xA(b:X.calm=true)(S:Fj X.N X.env.scope scope x As js)(hi:PI X (.Name x px) iter wi)
  (FY:∀fp C s H,K6 (L7 X (As++[x]) scope (Cr X.env.cells scope.names) C s H fp) ifs tt) (Fd:∀fp C s H,PE (L7 X (As++[x]) scope (Cr X.env.cells scope.names) C s H fp) elt te)
  (a:∀v,foldedSetIterable iter X.env v=pure v:=by intro _;rfl):PE X (.ListComp elt [⟨.Name x px,iter,ifs,0⟩] scope pos) (N3 wi js tt te):=
 qX (CW:=λJ Z H1 acc Q=>MD J js tt te Z H1 acc Q) (oR S.G) b S.G hi (λ_ _ _ _=>jr S.G (.inl S.kC)) FY Fd a
theorem xq{y:Str}(c:X.N.Nodup)(EM:X.N[i]?=some y)(a:Loc X.env.scope y)(b:X.calm=true)(S:Fj X.N X.env.scope scope x As js)(hi:PI X (.Name x px) iter wi)
  (FY:∀fp C s H,K6 (L7 X (As++[x]) scope (Cr X.env.cells scope.names) C s H fp) ifs tt) (Fd:∀fp C s H,PE (L7 X (As++[x]) scope (Cr X.env.cells scope.names) C s H fp) elt te)
  (Pu:swapsWith (.ListComp elt [⟨.Name x px,iter,ifs,0⟩] scope pos) (some (.Name y py)) Kk.line X.env=pure true:=by rfl)
  (hf:X.fn y=true∨X.env.scope.names.lookup y=some .local:=by first|exact .inl rfl|exact .inr rfl|assumption)
  (hs:∀v,foldedSetIterable iter X.env v=pure v:=by intro _;rfl):PS X (.Assign [.Name y py] (.ListComp elt [⟨.Name x px,iter,ifs,0⟩] scope pos) Kk) (FR (N3 wi js tt te) (Co i)):=
 qq (CW:=λJ Z H1 acc Q=>MD J js tt te Z H1 acc Q) (oR S.G) c EM a b S.G hi (λ_ _ _ _=>jr S.G (.inl S.kC)) FY Fd Pu hf hs
end
def Ft(K:ZJa)(tp:Bool)(H:Hp)(a:Addr)(xs:List V):Prop:=match tp with
 |false=>Ab K H a xs
 |true=>AW K H a xs
theorem Ft.or{K:ZJa}{xs:List V}(h:Ft K tp H a xs):Ab K H a xs∨AW K H a xs:=by
 cases tp
 .exact .inl h
 .exact .inr h
noncomputable def QX(K:ZJa)(tp:Bool)(a:Addr)(xs:List V):It:=
 ⟨λi H=>Ft K tp H a xs/\i<xs.length,λi H x H'=>H'=H/\xs[i]?=some x,λi H=>Ft K tp H a xs/\xs.length<=i⟩
theorem xn{P:Program}{K:ZJa}(a it:Addr)(xs:List V):Turn P w K tg (QX K false a xs) [it] it (λi h=>h.IsListIter it a i) where
 mem:=by simp
 obj:=(Pt (P:=P) (w:=w) (K:=K) (tg:=tg) a it).obj
 keep:=(Pt (P:=P) (w:=w) (K:=K) (tg:=tg) a it).keep
 item:=by
  intro X f hw g d i ZA s Z H E I c st b;obtain⟨j,hi⟩:=b;refine BB ((Pt (P:=P) (w:=w) (K:=K) (tg:=tg) a it).item X f hw g d i ZA s Z H E I c st ⟨xs,xs[i],j,by simp[hi]⟩) λr s1 AU=>by obtain⟨u,e,h⟩:=AU;exact⟨u,e,BB h λ_ s2 JT=>by obtain⟨x,H',I',k,y,AG,l⟩:=JT;exact⟨x,H',I',k,⟨y.1,y.2 xs j⟩,AG,l⟩⟩
 done:=by
  intro X f hw g d i ZA s Z H E I c st b;exact(Pt (P:=P) (w:=w) (K:=K) (tg:=tg) a it).done X f hw g d i ZA s Z H E I c st ⟨xs,b.1,b.2⟩
 self:=(Pt (P:=P) (w:=w) (K:=K) (tg:=tg) a it).self
theorem xk{P:Program}{K:ZJa}(a it:Addr)(xs:List V):Turn P w K tg (QX K true a xs) [it] it (λi h=>h.IsTupleIter it a i) where
 mem:=by simp
 obj:=(Q3 (P:=P) (w:=w) (K:=K) (tg:=tg) a it).obj
 keep:=(Q3 (P:=P) (w:=w) (K:=K) (tg:=tg) a it).keep
 item:=by
  intro X f hw g d i ZA s Z H E I c st b;obtain⟨j,hi⟩:=b;refine BB ((Q3 (P:=P) (w:=w) (K:=K) (tg:=tg) a it).item X f hw g d i ZA s Z H E I c st ⟨xs,xs[i],j,by simp[hi]⟩) λr s1 AU=>by obtain⟨u,e,h⟩:=AU;exact⟨u,e,BB h λ_ s2 JT=>by obtain⟨x,H',I',k,y,AG,l⟩:=JT;exact⟨x,H',I',k,⟨y.1,y.2 xs j⟩,AG,l⟩⟩
 done:=by
  intro X f hw g d i ZA s Z H E I c st b;exact(Q3 (P:=P) (w:=w) (K:=K) (tg:=tg) a it).done X f hw g d i ZA s Z H E I c st ⟨xs,b.1,b.2⟩
 self:=(Q3 (P:=P) (w:=w) (K:=K) (tg:=tg) a it).self
def aZ(K:ZJa)(tl:TE):TI:=λZ H R=>tl Z H λx H1=>∃tp a xs,x=.ref a/\Ft K tp H1 a xs/\R (QX K tp a xs) H1
noncomputable def YB(z:Str):It:=⟨λi _=>i<z.cps.size,λi H x H'=>H'=H/\∃c,z.cps[i]?=some c/\x=.str ⟨#[c]⟩,λi _=>i=z.cps.size⟩
theorem eQ{P:Program}{K:ZJa}{t:Tok}{ty:String}
  (hn:["enumerate","zip","dict_itemiterator","dict_reverseitemiterator","odict_iterator","itertools.zip_longest","itertools.pairwise"].contains ty=false)
  (W:∀A:Around,A.handled=none->Walks P w A it [it] [it] z.cps.size (SignAt z) (λi h=>h.IsStrIter it ty z t i))
  (self:∀(A:Around)(i:Nat)(s:Shared)(Q:Value->Shared->Prop)(E:Value->Shared->Prop),s.heap.IsStrIter it ty z t i->Q (.ref it) s->wpAny (model P w) A (pyIter (.ref it)) Q E s) :
  Turn P w K tg (YB z) [it] it (λi h=>h.IsStrIter it ty z t i) where
 mem:=by simp
 obj:=λi h st b a=>by
  have e:b=it:=by simpa using a
  subst e;obtain⟨o,e,c,d⟩:=st;exact⟨o,e,λv z=>by rw[d]at z;cases z⟩
 keep:=λi h h' st k=>let ⟨o,e,r⟩:=st;⟨o,k it (by simp) o e,r⟩
 item:=by
  intro X l hw m j i ZA s Z H E I f st g;subst l hw m;obtain⟨f0,x,C,q,p,n⟩:=f it (by simp);refine(W X.A (I.ok.hd j)).item i s _ _ g st λv h' tk⟨c,u,Uk,B⟩AG kp=>?_;subst B;have D:Inv X ZA Z H { s with heap:=h',toks:=tk }:=I.turned (t':=tk) (λb o a e=>kp b o (by simpa using a) e) f0 x q p n
  obtain⟨o,e,cl,d⟩:=id AG;exact⟨_,rfl,Ra (s:={ s with heap:=h',toks:=tk }) e cl d hn ⟨.str ⟨#[c]⟩,H,D,⟨u,rfl⟩,⟨rfl,c,Uk,rfl⟩,AG,λb a=>(f b a).1⟩⟩
 done:=by
  intro X l hw m j i ZA s Z H E I f st g;subst l hw m;obtain⟨f0,x,C,q,p,n⟩:=f it (by simp);have y:i=z.cps.size:=g;subst y;exact(W X.A (I.ok.hd j)).done s _ _ st λh' tk kp=>⟨rfl,I.turned (t':=tk) (λb o a e=>kp b o (by simpa using a) e) f0 x q p n⟩
 self:=self
def fK(tl:TE):TI:=λZ H R=>tl Z H λx H1=>∃z,x=.str z/\R (YB z) H1
theorem BX{p:Addr}(h:H p=none)(o:HO):AD H (upd H p o):=λb u q=>by rw[Aa (Dg q h)];exact q
theorem AD.pT{K:ZJa}{xs:List V}(e:AD H H')(h:AW K H a xs):AW K H' a xs:=by
 rcases h with(h|⟨o,h⟩)|h
 .exact .inl (.inl (e _ _ h))
 .exact .inl (.inr ⟨o,e _ _ h⟩)
 .exact .inr h
theorem AD.sq{K:ZJa}{xs:List V}(e:AD H H')(h:Ft K tp H a xs):Ft K tp H' a xs:=by
 cases tp
 .exact AD.seq e h
 .exact AD.pT e h
theorem gI{Q:VK}(xs:List V)(f:V->Bool)(g:V->V)(BJ:H1 acc=none)(z:xs.length<=sizeLine)
  (k:∀i H,AD H1 H->i<xs.length->J.go i H) (BO:∀H,AD H1 H->J.stop xs.length H) (p:∀i H x H',J.Hh i H x H'->H'=H/\xs[i]?=some x)
  (r:∀(i:Nat)(x:V)(H':Hp)(Q':Bool->Hp->Prop),xs[i]?=some x->AD H1 H'->(∀Ej,AD H' Ej->Q' (f x) Ej)->tt (C1 js Z++[some x]) H' Q')
  (s:∀(i:Nat)(x:V)(H':Hp)(Q':VK),xs[i]?=some x->f x=true->AD H1 H'->(∀Ej,AD H' Ej->Q' (g x) Ej)->te (C1 js Z++[some x]) H' Q')
  (hd:∀H',AD H1 H'->H' acc=some (.lst ((xs.filter f).map g))->Q (.ref acc) H'):MD J js tt te Z H1 acc Q:=by
 refine⟨λi m H=>m=xs.length - i/\i<=xs.length/\AD H1 H/\H acc=some (.lst (((xs.take i).filter f).map g)),⟨xs.length,by simp,Ct _,BX BJ _,AX⟩,?_⟩;rintro i m H2⟨rfl,hi,a,j⟩
 by_cases h:i<xs.length
 .refine .inr ⟨k i H2 a h,λx H3 y=>?_⟩;obtain⟨e,hx⟩:=p i H2 x H3 y;subst e;have w:(xs.take (i+1))=xs.take i++[x]:=by
   have u:xs[i]=x:=by
    rw[BK h]at hx;exact Bs hx
   rw[VM h,u]
  have n:List.filter f (xs.take (i+1))=(xs.take i).filter f++(if f x=true then[x]else[]):=by
   rw[w,cV];congr 1
   by_cases c:f x=true <;> simp[c]
  refine r i x _ _ hx a λH4 s4=>?_
  by_cases c:f x=true
  .rw[tX c];refine s i x H4 _ hx c (a.trans s4) λH5 l=>?_;have d:(((xs.take i).filter f).map g).length<sizeLine:=by
    rw[AK];have:=Of f (xs.take i);rw[DM]at this;omega
   refine⟨_,l _ _ (s4 _ _ j),d,xs.length - (i+1),by omega,rfl,h,λb o q=>?_,?_⟩
   .have t:b≠acc:=by rintro rfl;rw[BJ]at q;cases q
    rw[Aa t];exact l _ _ (s4 _ _ (a b o q))
   .rw[AX,n,tX c,Ec];rfl
  .have v:f x=false:=by simpa using c
   rw[v];rw[qg (by decide)];refine⟨xs.length - (i+1),by omega,rfl,h,a.trans s4,?_⟩;rw[n,qg c,G4];exact s4 _ _ j
 .have e:i=xs.length:=by omega
  subst e;refine .inl ⟨BO H2 a,hd H2 a ?_⟩;rw[Mo]at j;exact j
theorem MF{K:ZJa}{xs:List V}{Q:VK}(f:V->Bool)(g:V->V)(b:Ft K tp H1 a xs)(BJ:H1 acc=none)(c:xs.length<=sizeLine)
  (d:∀(i:Nat)(x:V)(H':Hp)(Q':Bool->Hp->Prop),xs[i]?=some x->AD H1 H'->(∀Ej,AD H' Ej->Q' (f x) Ej)->tt (C1 js Z++[some x]) H' Q')
  (e:∀(i:Nat)(x:V)(H':Hp)(Q':VK),xs[i]?=some x->f x=true->AD H1 H'->(∀Ej,AD H' Ej->Q' (g x) Ej)->te (C1 js Z++[some x]) H' Q')
  (hd:∀H',AD H1 H'->H' acc=some (.lst ((xs.filter f).map g))->Q (.ref acc) H'):MD (QX K tp a xs) js tt te Z H1 acc Q:=
 gI xs f g BJ c (λi H s hi=>⟨s.sq b,hi⟩) (λH s=>⟨s.sq b,B4 _⟩) (λi H x H' y=>y) d e hd
noncomputable def He(z:Str):List V:=z.cps.toList.map λc=>.str ⟨#[c]⟩
theorem Vu(z:Str):(He z).length=z.cps.size:=by unfold He;simp
theorem dk{Q:VK}(f:V->Bool)(g:V->V)(BJ:H1 acc=none)(a:z.cps.size<=sizeLine)
  (b:∀(i:Nat)(x:V)(H':Hp)(Q':Bool->Hp->Prop),(He z)[i]?=some x->AD H1 H'->(∀Ej,AD H' Ej->Q' (f x) Ej)->tt (C1 js Z++[some x]) H' Q')
  (d:∀(i:Nat)(x:V)(H':Hp)(Q':VK),(He z)[i]?=some x->f x=true->AD H1 H'->(∀Ej,AD H' Ej->Q' (g x) Ej)->te (C1 js Z++[some x]) H' Q')
  (hd:∀H',AD H1 H'->H' acc=some (.lst (((He z).filter f).map g))->Q (.ref acc) H'):MD (YB z) js tt te Z H1 acc Q:=by
 refine gI (He z) f g BJ (by rw[Vu];exact a) (λi H s hi=>?_) (λH s=>?_) (λi H x H' y=>?_) b d hd
 .rw[Vu]at hi;exact hi
 .show(He z).length=z.cps.size;exact Vu z
 .obtain⟨e,c,h,hx⟩:=y;refine⟨e,?_⟩;subst hx;unfold He;rw[Bb,VB,h];rfl
def Hf(xs ys:List V):Bool:=xs.length == ys.length && (List.range xs.length).all λj=>EB (xs.getD j .A9) (ys.getD j .A9)
theorem Py{xs:List V}{x:V}(h:xs[j]?=some x):xs.getD j .A9=x:=by rw[Oe,h];rfl
theorem mQ{xs:List V}{x:V}(h:xs.all DR=true)(e:xs[j]?=some x):DR x=true:=List.all_eq_true.mp h x (EL e)
theorem S7{xs:List V}{C0:List Value}(d:Vals xs A5)(c:Vals ys C0)(k:xs.all DR=true)(i:ys.all DR=true):
  ∀j(h1:j<A5.toArray.size)(h2:j<C0.toArray.size),SeqAt.EqAt A s A5.toArray[j] C0.toArray[j] (EB (xs.getD j .A9) (ys.getD j .A9)):=λj h1 h2=>by
 have l1:=d.length;have l2:=c.length;have o:j<A5.length:=by simpa using h1
 have n:j<C0.length:=by simpa using h2
 have b:xs[j]?=some (xs[j]'(by omega)):=BK _;have a:ys[j]?=some (ys[j]'(by omega)):=BK _;obtain⟨u,f,h⟩:=d.get b;obtain⟨v,e,g⟩:=c.get a;rw[BK o]at f;rw[BK n]at e;have l:A5[j]=u:=Bs f;have m:C0[j]=v:=Bs e;rw[Py b,Py a];have q:=SK (A:=A) (s:=s) h g (mQ k b) (mQ i a);rw[<- l,<- m]at q
 simpa using q
def Qr(K:ZJa)(neg:Bool):R2:=λx y H Q=>∃p q xs ys,x=.ref p/\y=.ref q/\((Ab K H p xs/\Ab K H q ys)∨(AW K H p xs/\AW K H q ys))/\xs.all DR=true/\ys.all DR=true/\
 Q (.bl (if neg then !Hf xs ys else Hf xs ys)) H
theorem NZ{xs:List V}(h:xs.length≠ys.length):Hf xs ys=false:=by
 unfold Hf;have:(xs.length == ys.length)=false:=by simpa using h
 rw[this,Bool.false_and]
theorem OU{xs:List V}(h:xs.length=ys.length):Hf xs ys=(List.range xs.length).all λj=>EB (xs.getD j .A9) (ys.getD j .A9):=by
 unfold Hf;have:(xs.length == ys.length)=true:=by simpa using h
 rw[this,cP]
theorem U0(f:X.A.units<cLine):Bc X (compareOp .Eq) (Qr X.K false):=by
 intro ZA s Z H x y v u Q I r o h;obtain⟨p,q,xs,ys,rfl,rfl,t,l,k,w⟩:=h;cases r;cases o;have b:Q (.bl (Hf xs ys)) H:=w;rcases t with⟨i,g⟩|⟨i,g⟩
 .obtain⟨A5,d,p1,n⟩:=I.list i;obtain⟨C0,c,p2,m⟩:=I.list g;have l1:=d.length;have l2:=c.length
  by_cases a:xs.length=ys.length
  .refine SeqAt.eq_listAt (e:=λj=>EB (xs.getD j .A9) (ys.getD j .A9)) p1.isList p2.isList (by simp;omega) f (S7 d c l k) ⟨.bl _,H,I,rfl,?_⟩;rw[OU a]at b;simp only[CL,<- l1];exact b
  .rw[NZ a]at b;exact SeqAt.eq_list_lengthsAt p1.isList p2.isList (by simp;omega) f ⟨.bl false,H,I,rfl,b⟩
 .obtain⟨A5,d,p1,n⟩:=I.tuple i;obtain⟨C0,c,p2,m⟩:=I.tuple g;have l1:=d.length;have l2:=c.length;refine SeqAt.eq_tupleAt (e:=λj=>EB (xs.getD j .A9) (ys.getD j .A9)) p1 p2 f (S7 d c l k) ⟨.bl _,H,I,rfl,?_⟩;simp only[CL,<- l1,<- l2]
  by_cases a:xs.length=ys.length
  .rw[OU a]at b;have:(xs.length == ys.length)=true:=by simpa using a
   rw[this,oV,<- a,cx];exact b
  .rw[NZ a]at b;have:(xs.length == ys.length)=false:=by simpa using a
   rw[this,VC];exact b
theorem QL(f:X.A.units<cLine):Bc X (compareOp .NotEq) (Qr X.K true):=by
 intro ZA s Z H x y v u Q I r o h;obtain⟨p,q,xs,ys,rfl,rfl,t,l,k,w⟩:=h;cases r;cases o;have b:Q (.bl (!Hf xs ys)) H:=w;rcases t with⟨i,g⟩|⟨i,g⟩
 .obtain⟨A5,d,p1,n⟩:=I.list i;obtain⟨C0,c,p2,m⟩:=I.list g;have l1:=d.length;have l2:=c.length
  by_cases a:xs.length=ys.length
  .refine SeqAt.RcNeAt.lists (e:=λj=>EB (xs.getD j .A9) (ys.getD j .A9)) p1.isList p2.isList (by simp;omega) f (S7 d c l k) _ _ _ _ ⟨.bl _,H,I,rfl,?_⟩;rw[OU a]at b;simp only[CL,<- l1];exact b
  .rw[NZ a]at b;exact SeqAt.RcNeAt.lists_lengths p1.isList p2.isList (by simp;omega) f _ _ _ _ ⟨.bl true,H,I,rfl,b⟩
 .obtain⟨A5,d,p1,n⟩:=I.tuple i;obtain⟨C0,c,p2,m⟩:=I.tuple g;have l1:=d.length;have l2:=c.length;refine SeqAt.RcNeAt.tuples (e:=λj=>EB (xs.getD j .A9) (ys.getD j .A9)) p1 p2 f (S7 d c l k) _ _ _ _ ⟨.bl _,H,I,rfl,?_⟩;simp only[CL,<- l1,<- l2]
  by_cases a:xs.length=ys.length
  .rw[OU a]at b;have:(xs.length == ys.length)=true:=by simpa using a
   rw[this,oV,<- a,cx];exact b
  .rw[NZ a]at b;have:(xs.length == ys.length)=false:=by simpa using a
   rw[this,VC];exact b
theorem qH:DQ X (.builtin "isinstance") (λxs H Q=>∃x n t b,xs=[x,.ty n]/\FC X.K H x t/\PySem.W.kitOne X.K t (.type n)=some b/\Q (.bl b) H):=by
 intro ZA s Z H xs us Q I r h;obtain⟨x,n,t,b,rfl,ty,e,q⟩:=h;obtain⟨u,c,rfl,a,rt⟩:=vals2 r;cases rt;exact lZ I a ty e λtk=>⟨.bl b,H,I.tok tk,rfl,q⟩
theorem yE{bs:List Bool}(r:Vals (bs.map V.bl) A5){v:Value}(e:A5[i]?=some v):v=.bool (bs.getD i false):=by
 have c:=r.length;rw[AK]at c;have hi:i<A5.length:=(List.getElem?_eq_some_iff.mp e).1;have d:(bs.map V.bl)[i]?=some (.bl (bs[i]'(by omega))):=by rw[Bb,BK (by omega)];rfl
 obtain⟨u,a,b⟩:=r.get d;rw[e]at a;cases a;cases b;rw[Oe,BK (by omega)];rfl
theorem range_all(bs:List Bool):(List.range bs.length).all (λi=>bs.getD i false)=bs.all id:=by
 rw[Ob,Im,Im];constructor
 .intro h x hx;obtain⟨i,hi,rfl⟩:=List.mem_iff_getElem.mp hx;have:=h i (List.mem_range.mpr hi);rw[Oe,BK hi]at this;exact this
 .intro h i hi;rw[Oe,BK (List.mem_range.mp hi)];exact h _ (Mn _)
theorem gr(j:X.calm=true):DQ X (.builtin "all") (λxs H Q=>∃(p:Addr)(bs:List Bool),xs=[.ref p]/\Ab X.K H p (bs.map V.bl)/\Q (.bl (bs.all id)) H):=by
 intro ZA s Z H xs us Q I r h;obtain⟨p,bs,rfl,g,q⟩:=h;obtain⟨u,rfl,d⟩:=vals1 r;cases d;obtain⟨A5,a,pl,m⟩:=I.list g;have c:=a.length;rw[AK]at c;refine call_all_walk (wpAny_pyIter_list pl.isList ?_);obtain⟨o,n,ho,_⟩:=id pl;have l:p≠s.heap.objs.size:=Br (BE ho);refine⟨s.heap.objs.size,_,_,_,_,_,λi=>bs.getD i false,rfl,Walks.list (by rw[Around.in1_handled];exact I.ok.hd j) _ p l A5.toArray,⟨⟨_,CK _ rfl,rfl,rfl⟩,pl.isList.push _⟩,λi v s' Q' E' f E9=>?_,λh' tk kp=>?_⟩
 .have k:v=.bool (bs.getD i false):=yE a (by simpa using f)
  rw[k];exact wA E9
 .refine⟨.bl _,H,I.kept (t':=tk) λb ob e=>kp b ob (by simpa using Br (BE e)) (Bf _ e),rfl,?_⟩
  rw[CL,<- c,range_all];exact q
def mH:V->List V->Hp->VK->Prop:=λx vs H Q=>∃(l:Addr)(xs:List V)(j:Int)(y:V),x=.ref l/\vs=[.int j,y]/\H l=some (.lst xs)/\0<=j/\j<=xs.length/\xs.length<sizeLine/\Q .A9 (upd H l (.lst (xs.take j.toNat++y::xs.drop j.toNat)))
theorem ZFB:Zt X "list.insert" mH:=by
 intro ZA s Z H x vs v us Q I g i h;obtain⟨l,xs,j,y,rfl,rfl,c,u,p,B,q⟩:=h;cases g;obtain⟨A,b,rfl,k,f⟩:=i.two;obtain⟨t,rfl⟩:=k;obtain⟨z,A5,n,r,o,e⟩:=I.Rt c;have h2:j<2 ^ 63:=by
  have C:(xs.length:Int)<=(sizeLine:Int):=Int.ofNat_le.mpr z;have D:((sizeLine:Nat):Int)<2 ^ 63:=by exact_mod_cast L9
  omega
 have d:(!Builtin.List.listFitsIndex j)=true->False:=by
  have h1:Builtin.List.listFitsIndex j=true:=by
   unfold Builtin.List.listFitsIndex;rw[Dm];exact⟨pX (by omega),pX h2⟩
  rw[h1];exact λh=>nomatch h
 have a:A5.toArray.size<=sizeLine:=Bi (VN (List.size_toArray.trans o.symm)) z;refine ZBB ZIc ⟨_,e,rfl⟩ PySem.F.entry_list_insert (PySem.F.args_list_insert_3 _ _ _) (PySem.AutoSeq1.list_insert_list_int_val_1 l A5.toArray n j t b d a) ⟨e,?_⟩;refine⟨.A9,_,I.jf (its':=A5.take j.toNat++b::A5.drop j.toNat) c e ?_ ((r.take _).append (.cons f (r.drop _))) ?_,rfl,q⟩
 .have w:¬ (j<0):=by omega
  have m:min j.toNat A5.toArray.size=j.toNat:=by simp;omega
  simp only[w,ZBE,m];apply Array.toList_inj.mp;simp;exact RF (by simp)
 .rw[CP,Ck,DM,HK];omega
def PY(x:V)(xs:List V):Nat:=xs.countP λy=>EB y x
theorem jG{x:V}:∀{xs:List V}{us:List Value},Vals xs us->xs.all DR=true->us.countP (Ds x)=PY x xs
 |_,_,.nil,_=>rfl
 |y::xs,u::us,.cons r t,h=>by
  have h1:DR y=true/\xs.all DR=true:=by simpa[RA]using h
  unfold PY;rw[ZID,ZID,Zh r h1.1,jG t h1.2];rfl
def ak(K:ZJa):V->List V->Hp->VK->Prop:=λx vs H Q=>∃l xs y,x=.ref l/\vs=[y]/\Ab K H l xs/\DR y=true/\xs.all DR=true/\Q (.int (PY y xs)) H
theorem ZD2:Zt X "list.count" (ak X.K):=by
 intro ZA s Z H x vs v us Q I b e h;obtain⟨l,xs,y,rfl,rfl,g,i,fs,q⟩:=h;cases b;obtain⟨u,rfl,f⟩:=e.one;obtain⟨A5,r,pl,j⟩:=I.list g;obtain⟨⟨c,d,k,sl⟩,n,ho,a,hd,Iu⟩:=id pl;simp only at a hd Iu;subst a;subst hd;subst Iu;refine ZBB F.slot_list_count ⟨_,ho,rfl⟩ F.entry_list_count (F.args_list_count_2 _ _) (SeqAt.list_countAt l A5.toArray n none sl u (Ds y)) ⟨ho,λz Q4=>Kc f i r fs z (by simpa using Q4),?_⟩
 refine⟨.int _,H,I.tok _,⟨_,rfl⟩,?_⟩;rw[ZIT,jG r fs];exact q
def ZHA:V->Option Int->Option Int->Hp->VK->Prop:=λx lo hi H Q=>∃z,x=.str z/\z.length<=sizeLine/\Q (.str (Txt.slice z lo hi)) H
theorem part_of{v:Value}{o:Option Int}(p:IsPart v o):∃l:Option (Int×Tok),v=partValue l/\l.map (·.1)=o:=by
 cases p with
 |none=>exact⟨none,rfl,rfl⟩
 |int i t=>exact⟨some (i,t),rfl,rfl⟩
theorem jy:MU X ZHA:=by
 intro ZA s Z H x v vl vu lo hi sl Q I a e pl b h;obtain⟨z,rfl,c,q⟩:=h;obtain⟨t,rfl⟩:=a;obtain⟨l,rfl,f⟩:=part_of pl;obtain⟨u,rfl,d⟩:=part_of b;subst f;subst d;refine⟨"str", _,F.slot_str_getitem.lookup,typeIs_str _ _ _,wpAny_getItem_str_slice (l:=l) (u:=u) (st:=none) e rfl (post_val_or_str ⟨Bi (Txt.slice_le z _ _) c,λt' k=>?_⟩)⟩;exact⟨.str _,H,I.tok k,⟨t',rfl⟩,q⟩
end L2
set_option exponentiation.threshold 5000
namespace L2
variable{f p:Addr}{H:Hp}
def AN(P:Program)(w:World)(K:ZJa)(mg:ZJc)(ZB:Heap)(x:Str)(k:Nat)(ps:List Str)(sp:Sp):Prop:=
 ∃f fd,CQ P w K mg ZB DW k f fd ps sp/\Binds K fd ps []/\PySem.W.keepIn K (.ref f)=true/\mg x=some (.ref f)
section
variable{P:Program}{w:World}{K:ZJa}{mg:ZJc}{ZB:Heap}{x qual:Str}{k:Nat}{ps:List Str}{sp:Sp}{st:Stmt}{fd:FuncData}
theorem AN.mk(F:AE K x qual st f fd)(b:Binds K fd ps [])(m:mg x=some (.ref f))(h:CQ P w K mg ZB DW k f fd ps sp):AN P w K mg ZB x k ps sp:=⟨f,fd,h,b,F.kp,m⟩
variable{X:Cx}{j:Nat}{p pos:Pos}{e:Expr}{es:List Expr}{t:TA}
def Z4(K:ZJa):List V->Hp->VK->Prop:=λxs H Q=>∃(p:Addr)(ys:List V),xs=[.ref p]/\(Ab K H p ys∨AW K H p ys)/\Q (.int ys.length) H
theorem Bo:DQ X (.builtin "len") (Z4 X.K):=S9
def mX(K:ZJa):List V->Hp->VK->Prop:=λxs H Q=>∃(x:V)(n:String)(t:Value)(b:Bool),xs=[x,.ty n]/\FC K H x t/\PySem.W.kitOne K t (.type n)=some b/\Q (.bl b) H
theorem nq:DQ X (.builtin "isinstance") (mX X.K):=qH
theorem iP:La X "list.append" WD:=fX
theorem tq:La X "list.insert" mH:=ZFB
theorem ZAH:La X "list.count" (ak X.K):=ZD2
def tM(i j:Int):Prop:=i.natAbs<2 ^ 1000/\j.natAbs<2 ^ 1000
theorem lr{n:Nat}(h:n<2 ^ 1000):n.log2<1000:=by
 rcases Nat.eq_zero_or_pos n with e|e
 .subst e;exact(show(0:Nat).log2<1000 by decide)
 .exact(p8 (Ol e)).mpr h
theorem bits_le{i:Int}(h:i.natAbs<2 ^ 1000):Builtin.Int.intBits i<=2 ^ 20:=by
 unfold Builtin.Int.intBits;split
 .exact Ct _
 .have:=lr h;have e:(2:Nat) ^ 20=1048576:=by decide
  omega
theorem M7:Bc X (binaryOp .Mult) (rI tM λi j=>.int (i * j)):=Ub λ_ _ _ _ _ _ _ a q=>mul_int q (.of_bits (bits_le a.1) (bits_le a.2))
theorem WR:Bc X (binaryOp .FloorDiv) (rI (λ_ j=>0<j/\j.natAbs<2 ^ 1000) λi j=>.int (i / j)):=Ub λi j _ _ _ _ _ a q=>by
 have h1:(0:Int)<j:=a.1;have h2:=lr a.2;exact floordiv_int (by omega) (by rw[Int.fdiv_eq_ediv_of_nonneg i (by omega)];exact q) (.inl (PyProof.noPylong_of_log2 (by omega)))
theorem wm{body rest:List Stmt}{t u:TS}(e:body=st::rest)(h:PS X st t)(h2:Dl X rest u):Dl X body (MG t u):=by rw[e];exact Gq h h2
def bU(t:TS):TS:=λD Z H=>∃J:St->Hp->Prop,t { D with nx:=J } Z H/\∀ σ' H',J σ' H'->D.nx σ' H'
end
def Hw(p:Addr)(H H':Hp):Prop:=∀b o,b≠p->H b=some o->H' b=some o
theorem Hw.trans{H1 H2:Hp}(a:Hw p H H1)(b:Hw p H1 H2):Hw p H H2:=λc o d e=>b c o d (a c o d e)
theorem Hw.of{H':Hp}(a:AD H H'):Hw p H H':=λc o _ e=>a c o e
theorem Hw.upd{o:HO}:Hw p H (upd H p o):=λc u a e=>by rw[Aa a];exact e
end L2
set_option maxHeartbeats 8000000
namespace L2
variable{ss:List Str}
noncomputable def uf(P:Program)(w:World)(a:Addr)(f:Str->Bool)(n:Nat):HO:=.ext λh=>h.SetOf (strKind P w) a f n
section
variable{X:Cx}
theorem oM{A5:List Value}(r:Vals (ss.map V.str) A5){i:Nat}{v:Value}(e:A5[i]?=some v):∃(h:i<ss.length)(t:Tok),v=.str ss[i] t:=by
 have d:=r.length;rw[AK]at d;have hi:i<A5.length:=(List.getElem?_eq_some_iff.mp e).1;have b:i<ss.length:=by omega
 have f:(ss.map V.str)[i]?=some (.str ss[i]):=by rw[Bb,BK b];rfl
 obtain⟨u,a,c⟩:=r.get f;rw[e]at a;cases a;obtain⟨t,q⟩:=c;exact⟨b,t,q⟩
end
end L2
set_option maxHeartbeats 4000000
namespace L2
variable{X:Cx}{a c e l o tg:Expr}{es ifs:List Expr}{body rest:List Stmt}{t tb:TS}{tc tt:TT}{te tl to:TE}{p pos pos' px:Pos}{name x y:Str}{G0 op:CmpOp}{r:List V->Hp->VK->Prop}{ps ss:List Str}{sp:Sp}{T:String}{wi:TI}{i n:Nat}{g:TG}{w:World}{I f:Addr}{E Q:Value->Shared->Prop}
structure QE (X:Cx) (e:Expr) (t:TE):Prop where h:PE X e t
structure QT (X:Cx) (e:Expr) (t:TT):Prop where h:PT X e t
structure QW (X:Cx) (e:Expr) (t:TT):Prop where h:PW X e t
structure QA (X:Cx) (es:List Expr) (t:TA):Prop where h:PA X es t
structure QS (X:Cx) (st:Stmt) (t:TS):Prop where h:PS X st t
structure E2 (X:Cx) (st:List Stmt) (t:TS):Prop where h:Dl X st t
structure QG (X:Cx) (tg:Expr) (t:TG):Prop where h:PG X tg t
structure V6 (X:Cx) (ts:List Expr) (t:JJ):Prop where h:Q2 X ts t
structure QI (X:Cx) (tg iter:Expr) (wi:TI):Prop where h:PI X tg iter wi
structure Rb (X:Cx) (ifs:List Expr) (t:TT):Prop where h:K6 X ifs t
structure QO (X:Cx) (e:Option Expr) (t:TO):Prop where h:PO X e t
section
variable{b:Expr}{rest:List Expr}{ta tb tc:TE}{tA Jo:TT}{t:TA}{p2 apos Be:Pos}
theorem qv(i:Nat)(a:X.N[i]?=some x:=by rfl)(hv:SS X.env.scope x:=by first|exact Or.inl rfl|exact Or.inr (Or.inl rfl)|exact Or.inr (Or.inr rfl))(hd:Zq0 x:=by decide)
  (Ef:(x == ("__classdict__":Str))=false:=by decide):QE X (.Name x pos) (BW i):=⟨jZ a hv hd Ef⟩
theorem A4{i j pos}:QE X (.Constant (.int i) j pos) (tC (.int i)):=⟨λ_ _ _ H _ I h=>wpAny_Constant_int ⟨.int i,H,I.tok _,⟨_,rfl⟩,h⟩⟩
theorem Cu{b j pos}:QE X (.Constant (.bool b) j pos) (tC (.bl b)):=⟨λ_ _ _ H _ I h=>Constant_bool ⟨.bl b,H,I,rfl,h⟩⟩
theorem Iv{j pos}:QE X (.Constant .none j pos) (tC .A9):=⟨λ_ _ _ H _ I h=>Constant_none ⟨.A9,H,I,rfl,h⟩⟩
theorem AM{x j pos}:QE X (.Constant (.str x) j pos) (tC (.str x)):=⟨λ_ _ _ H _ I h=>Calls.Constant_str ⟨.str x,H,I.tok _,⟨_,rfl⟩,h⟩⟩
theorem DX{v:V}{u:Value}(b:Gl X x)(a:X.mg x=some u)(r:RelV v u)(hd:Zq0 x:=by decide):QE X (.Name x pos) (tC v):=⟨λ_ _ _ H _ I h=>Je I b a ⟨v,H,I,r,h⟩ hd⟩
theorem Ys(T:String)(a:X.mg x=none)(b:Gl X x:=by rfl)(hv:bootBuiltins x=some (.type T):=by decide+kernel)(hn:x ≠"__name__" := by decide)(hd:Zq0 x:=by decide):
  QE X (.Name x pos) (tC (.ty T)):=⟨ZDg b a hv rfl hn hd⟩
theorem Az{op:Operator}{r:R2}(ho:Bc X (binaryOp op) r)(d:QE X a ta)(c:QE X b tb):QE X (.BinOp a op b pos) (CB r ta tb):=⟨by
 have d:=d.h;have c:=c.h;intro ZA s Z H Q I h;exact wpAny_BinOp (YN d c I h λv u s2 x y H2 I2 f e q=>ho ZA s2 Z H2 x y v u Q I2 f e q)⟩
theorem oP{op:UnaryOp}{r:V->Hp->VK->Prop}(ho:SE X (unaryOp op) r)(b:QE X a ta):QE X (.UnaryOp op a pos) (VT r ta):=⟨by
 have b:=b.h;intro ZA s Z H Q I h;exact UnaryOp_ (BB (b ZA s Z H _ I h) λv s1 AU=>by obtain⟨x,H1,I1,c,d⟩:=AU;exact ho ZA s1 Z H1 x v Q I1 c d)⟩
theorem ZFo{r:R2}(ho:Bc X (compareOp op) r)(d:QE X a ta)(c:QE X b tb)(g:behindInMarks op b=false):QE X (.Compare a [op] [b] pos) (CB r ta tb):=⟨by
 have d:=d.h;have c:=c.h;intro ZA s Z H Q I h;exact wpAny_Compare1 (YN d c I h λv u s2 x y H2 I2 f e q=>ho ZA s2 Z H2 x y v u Q I2 f e q) g⟩
theorem ZDE{r:R2}(ho:Bc X (compareOp op) r)(e:QE X a ta)(d:QE X b tb)(c:behindInMarks op b=false):QT X (.Compare a [op] [b] pos) (OP (CB r ta tb)):=⟨ZHO ho e.h d.h c⟩
theorem O7{r l:R2}(ho:Bc X (compareOp op) r)(EW:Bc X (compareOp G0) l)(i:QE X a ta)(g:QE X b tb)(f:QE X c tc)
  (D:lastMarks [op,G0] [b,c]=false:=by with_unfolding_all rfl):QE X (.Compare a [op,G0] [b,c] pos) (Ox r l ta tb tc):=⟨by
 have i:=i.h;have g:=g.h;have f:=f.h;intro ZA s Z H Q I h;refine Compare_chain (i.k I h λv s1 x H1 I1 w C=>chain_link (g.k I1 C λu s2 y H2 I2 j B=>
  BB (ho ZA s2 Z H2 x y v u _ I2 w j B) λd p⟨z,H3,I3,t,k,e,m⟩=>?_)) D
 subst e;cases t;refine wA ?_;cases k with
 |false=>exact ite_ff ⟨.bl false,H3,I3,rfl,m⟩
 |true=>exact ite_tt (chain_last (BB (f ZA p Z H3 _ I3 m) λo s4⟨n,H4,I4,q,A⟩=>EW ZA s4 Z H4 y n u o Q I4 j q A))⟩
theorem VA{r l:R2}(ho:Bc X (compareOp op) r)(EW:Bc X (compareOp G0) l)(i:QE X a ta)(g:QE X b tb)(f:QE X c tc)
  (G:lastMarks [op,G0] [b,c]=false:=by with_unfolding_all rfl):QT X (.Compare a [op,G0] [b,c] pos) (OP (Ox r l ta tb tc)):=⟨by
 have i:=i.h;have g:=g.h;have f:=f.h;intro ZA s Z H Q I h;refine isTrue_chain (i.k I h λv s1 x H1 I1 A E=>test_link (g.k I1 E λu s2 y H2 I2 j D=>
  BB (ho ZA s2 Z H2 x y v u _ I2 A j D) λd p⟨z,H3,I3,w,k,e,m⟩=>?_)) G
 subst e;cases w;refine wA ?_;cases k with
 |false=>
  obtain⟨k',K,F⟩:=m;cases K;exact ite_ff ⟨H3,I3,F⟩
 |true=>
  refine ite_tt (test_last (BB (f ZA p Z H3 _ I3 m) λo s4⟨n,H4,I4,t,C⟩=>BB (EW ZA s4 Z H4 y n u o _ I4 j t C) λd' M ZEm=>?_));obtain⟨L,H5,I5,q,k2,J,B⟩:=ZEm;subst J;cases q;exact wA ⟨H5,I5,B⟩⟩
theorem LK{op}(h:QE X a ta):QE X (.BoolOp op [a] pos) ta:=⟨by have h:=h.h;exact λZA s Z H Q I hw=>BoolOp_one (h ZA s Z H Q I hw)⟩
theorem NQ(f:QE X a ta)(e:QE X (.BoolOp .And (b::rest) pos) tb):QE X (.BoolOp .And (a::b::rest) pos) (Vj ta tb):=⟨by
 have f:=f.h;have e:=e.h;intro ZA s Z H Q I h;refine BoolOp_and (f.k I h λv s1 x H1 I1 g d=>?_);obtain⟨c,rfl,d⟩:=d;cases g;refine wA ?_;cases c with
 |true=>exact e ZA s1 Z H1 Q I1 d
 |false=>exact⟨.bl false,H1,I1,rfl,d⟩⟩
theorem gG(f:QE X a ta)(e:QE X (.BoolOp .Or (b::rest) pos) tb):QE X (.BoolOp .Or (a::b::rest) pos) (Wr ta tb):=⟨by
 have f:=f.h;have e:=e.h;intro ZA s Z H Q I h;refine BoolOp_or (f.k I h λv s1 x H1 I1 g d=>?_);obtain⟨c,rfl,d⟩:=d;cases g;refine wA ?_;cases c with
 |false=>exact e ZA s1 Z H1 Q I1 d
 |true=>exact⟨.bl true,H1,I1,rfl,d⟩⟩
theorem ZGR(d:QE X a ta):QE X (.UnaryOp .Not a pos) (Y4 ta):=⟨by
 have d:=d.h;intro ZA s Z H Q I h;refine UnaryOp_ (d.k I h λv s1 x H1 I1 e b=>?_);obtain⟨c,rfl,b⟩:=b;cases e;exact not_of (wA ⟨.bl (!c),H1,I1,rfl,b⟩)⟩
theorem HV(b:QT X a tA):QW X (.BoolOp .And [a] pos) tA:=⟨by
 have b:=b.h;intro d ZA s Z H Q I h;refine isTrue_and (BB (b ZA s Z H Q I h) λc s1 e=>?_);cases c with
 |true=>exact isTrue_and_nil e
 |false=>exact e⟩
theorem G2(b:QT X a tA):QW X (.BoolOp .Or [a] pos) tA:=⟨by
 have b:=b.h;intro d ZA s Z H Q I h;refine isTrue_or (BB (b ZA s Z H Q I h) λc s1 e=>?_);cases c with
 |false=>exact isTrue_or_nil e
 |true=>exact e⟩
theorem Hr(e:QT X a tA)(d:QW X (.BoolOp .And (b::rest) pos) Jo):QW X (.BoolOp .And (a::b::rest) pos) (V7 tA Jo):=⟨by
 have e:=e.h;have d:=d.h;intro g ZA s Z H Q I h;refine isTrue_and (BB (e ZA s Z H _ I h) λc s1 Jt=>?_);obtain⟨H1,I1,f⟩:=Jt;cases c with
 |true=>exact d g ZA s1 Z H1 Q I1 f
 |false=>exact⟨H1,I1,f⟩⟩
theorem Dy(e:QT X a tA)(d:QW X (.BoolOp .Or (b::rest) pos) Jo):QW X (.BoolOp .Or (a::b::rest) pos) (YU tA Jo):=⟨by
 have e:=e.h;have d:=d.h;intro g ZA s Z H Q I h;refine isTrue_or (BB (e ZA s Z H _ I h) λc s1 Jt=>?_);obtain⟨H1,I1,f⟩:=Jt;cases c with
 |true=>exact⟨H1,I1,f⟩
 |false=>exact d g ZA s1 Z H1 Q I1 f⟩
theorem QW.pt{t:TT}(h:QW X e t):QT X e t:=⟨h.h.pt⟩
theorem Ek(b:QT X a tA):QT X (.UnaryOp .Not a pos) (Tj tA):=⟨by
 have b:=b.h;intro ZA s Z H Q I h;exact isTrue_not (b ZA s Z H (λc H1=>Q (!c) H1) I h)⟩
theorem GF(h:QE X e te)(f:∀a,isTrue e X.env a=(do let v <- a;standAt e.pos;holding [v] (truthy v)):=by intro _;rfl):QT X e (tB te):=⟨by
 have h:=h.h;intro ZA s Z H Q I hw;refine isTrue_plain (h.k I hw λv s1 x H1 I1 b c=>?_) (f _);obtain⟨d,rfl,q⟩:=c;cases b;exact wA ⟨H1,I1,q⟩⟩
theorem A3:QA X [] BQ:=⟨MN⟩
theorem A0(c:QE X e te)(b:QA X es t)(a:Ce X e es:=by rfl):QA X (e::es) (An te t):=⟨Gb c.h b.h a⟩
theorem BG{x1}(h:QA X es t):QE X (.Tuple es x1 pos) (U8 t):=⟨uP h.h⟩
theorem Er(h:QA X es t):QE X (.List es pos) (SU t):=⟨zx h.h⟩
theorem Hc:QO X none Xu:=⟨by
 intro ZA s Z H Q I h;rw[evalPart_none];exact qm ⟨none,H,I,.none,h⟩⟩
theorem FG(h:QE X e te):QO X (some e) (ah te):=⟨by
 have h:=h.h;intro ZA s Z H Q I hw;rw[evalPart_some];refine BB (h ZA s Z H _ I hw) λu s1 ZFx=>?_;obtain⟨x,H1,I1,a,b⟩:=ZFx;obtain⟨i,rfl,q⟩:=b;obtain⟨t,rfl⟩:=a;exact⟨some i,H1,I1,.int i t,q⟩⟩
theorem GA{r:V->Option Int->Option Int->Hp->VK->Prop}{lo hi:Option Expr}{tl th:TO}(p:MU X r)(f:QE X e te)(d:QO X lo tl)(c:QO X hi th):QE X (.Subscript e (.Slice lo hi none p2) pos) (Nk r te tl th):=⟨by
 have f:=f.h;have d:=d.h;have c:=c.h;intro ZA s Z H Q I h;refine Subscript_ (f.k I h λv s1 x H1 I1 g m=>?_);refine wpAny_Slice (BB (d ZA s1 Z H1 _ I1 m) λvl s2⟨l,H2,I2,pl,j⟩=>BB (c ZA s2 Z H2 _ I2 j) λvu a ZK=>?_);obtain⟨u,H3,I3,n,i⟩:=ZK;rw[evalPart_none];refine qm ?_;have z:Inv X ZA Z H3 { a with heap:=a.heap.push { cls:=.type "slice", data:=.fields #[vl,vu,.none] } }:=I3.kept (t':=a.toks) λb ob q=>Bf _ q
 obtain⟨T,id,y,o,t⟩:=p ZA { a with heap:=a.heap.push { cls:=.type "slice", data:=.fields #[vl,vu,.none] } } Z H3 x v vl vu l u a.heap.objs.size Q z g (Heap.IsSliceOf.new ..) pl n i
 show Zq2 X (subscriptTail e (.Slice lo hi none p2) v (.ref a.heap.objs.size)) (EP X ZA Z Q) X.xe { a with heap:=a.heap.push { cls:=.type "slice", data:=.fields #[vl,vu,.none] } }
 exact tail_any (ops:=[.ref a.heap.objs.size,v]) o y t (by with_unfolding_all rfl)⟩
theorem ZBT{r:R2}(i:J7 X r)(d:QE X a ta)(c:QE X b tb)(g:XQ b):QE X (.Subscript a b pos) (CB r ta tb):=⟨by
 have d:=d.h;have c:=c.h;intro ZA s Z H Q I h;exact Subscript_ (YN d c I h λv u s2 x y H2 I2 f e q=>i a b ZA s2 Z H2 x y v u Q I2 f e q (g _ _))⟩
theorem pL{j k:Nat}(h:AN X.prog X.w X.K X.mg X.base x k ps sp)(c:Ba j X.A)(d:k<=j)(a:QA X (e::es) t)(g:Gl X x:=by rfl)(BN:Zq0 x:=by decide)
  (he:Ce X e es:=by rfl) (BZ:BEq X pos es:=by rfl):QE X (.Call (.Name x p) (e::es) [] pos) (ES sp [] E0 t):=⟨by
 have a:=a.h;obtain⟨f,fd,F,b,kp,m⟩:=h;exact vx (F.mono d) c g m kp b .nil Xl a BN he BZ⟩
theorem yG{id:String}(i:DQ X (.builtin id) r)(g:Gl X x)(f:X.mg x=none)(d:bootBuiltins x=some (.builtin id))(a:QA X (e::es) t)(hn:x ≠"__name__" := by decide)(BN:Zq0 x:=by decide)
  (he:Ce X e es:=by rfl) (BZ:BEq X pos es:=by rfl):QE X (.Call (.Name x p) (e::es) [] pos) (DH r t):=⟨by
 have a:=a.h;intro ZA s Z H Q I h;refine x3 (KY I g f d ?_ hn BN);exact PyProof.Rows.callWith_builtin1 (BB (a pos ZA s Z H _ I h) λus s1 AU=>by obtain⟨vs,H1,I1,b,c⟩:=AU;exact i ZA s1 Z H1 vs us Q I1 b c) he BZ⟩
theorem ZEH(i:DQ X (.type T) r)(g:Gl X x)(f:X.mg x=none)(d:bootBuiltins x=some (.type T))(a:QA X (e::es) t)(hn:x ≠"__name__" := by decide)(BN:Zq0 x:=by decide)
  (he:Ce X e es:=by rfl) (BZ:BEq X pos es:=by rfl):QE X (.Call (.Name x p) (e::es) [] pos) (DH r t):=⟨by
 have a:=a.h;intro ZA s Z H Q I h;refine x3 (KY I g f d ?_ hn BN);exact RI (BB (a pos ZA s Z H _ I h) λus s1 AU=>by obtain⟨vs,H1,I1,b,c⟩:=AU;exact i ZA s1 Z H1 vs us Q I1 b c) he BZ⟩
theorem Jw{id:String}{r:V->List V->Hp->VK->Prop}(j:PlainAttrs T)(slot:Slot T name id)(Zw:typeOf (.builtin id)=pure (.type "method_descriptor"))(l:La X id r)(ho:QE X o to)(a:QA X (e::es) t)
  (m:attributeBase o name X.env (eval o X.env)=eval o X.env:=by rfl)
  (bK:((backTo Be (starEach (e::es) X.env)).all (λx=>!x.1) && (backToKw Be (keywordEach [] X.env)).all (λx=>x.1.isSome)
   && decide ((e::es).length+([]:List Keyword).length+(if([]:List Keyword).isEmpty then 0 else 1)<30))=true:=by rfl)
  (YT:(apos.endLine == Be.line)=true:=by rfl) (hs:Ce X e es:=by rfl) (X6:BEq X Be es:=by rfl) :
  QE X (.Call (.Attribute o name apos) (e::es) [] Be) (NW X.K T r to t):=⟨by
 have ho:=ho.h;have a:=a.h;intro ZA s Z H Q I h;refine wpAny_Call_method_late m bK YT rfl (ho.k I h λv s1 x H1 I1 b d=>?_);obtain⟨ty,i⟩:=d;obtain⟨h1,h2⟩:=ZBI I1 b ty;refine⟨T,id,j,slot,Zw,h1,h2,?_⟩;have c:=a Be ZA s1 Z H1 _ I1 i;rw[hs]at c ⊢;refine oW (by show(false || (backTo Be (starEach es X.env)).any (·.1))=false;rw[X6] <;> rfl) (cQ ?_)
 exact BB c λus s2 AU=>by obtain⟨vs,H2,I2,f,g⟩:=AU;exact l ZA s2 Z H2 x vs v us Q I2 b f g⟩
variable{elt iter:Expr}{scope:Scope}{As:List Str}{js:List Nat}
theorem IK(d:QE X l tl):QI X tg l (aZ X.K tl):=⟨by
 have d:=d.h;intro ZA s Z H R I h;refine d.k I h λv s1 x H1 I1 i j=>?_;obtain⟨tp,a,xs,e,f,q⟩:=j;subst e;cases i;have c:∀b∈[s1.heap.objs.size],FA X ZA H1 b:=λb n=>by
  have e:b=s1.heap.objs.size:=by simpa using n
  subst e;exact I1.QZ (B4 _) (I1.AH.fresh (B4 _))
 cases tp with
 |false=>
  obtain⟨A5,g,p,m⟩:=I1.list f;refine wpAny_pyIter_list p.isList ?_;exact⟨s1.heap.objs.size,[s1.heap.objs.size],_,_,H1,rfl,I1.kept (t':=s1.toks) λb o e=>Bf _ e,xn a _ xs,⟨_,CK _ rfl,rfl,rfl⟩,c,q⟩
 |true=>
  obtain⟨A5,g,p,m⟩:=I1.tuple f;refine wpAny_pyIter_tuple (show s1.heap.IsTuple a A5.toArray from p) ?_;exact⟨s1.heap.objs.size,[s1.heap.objs.size],_,_,H1,rfl,I1.kept (t':=s1.toks) λb o e=>Bf _ e,xk a _ xs,⟨_,CK _ rfl,rfl,rfl⟩,c,q⟩⟩
theorem o4(c:QE X l tl):QI X tg l (fK tl):=⟨by
 have c:=c.h;intro ZA s Z H R I h;refine c.k I h λv s1 x H1 I1 g i=>?_;obtain⟨z,e,q⟩:=i;subst e;obtain⟨t,rfl⟩:=g;have a:∀b∈[s1.heap.objs.size],FA X ZA H1 b:=λb j=>by
  have e:b=s1.heap.objs.size:=by simpa using j
  subst e;exact I1.QZ (B4 _) (I1.AH.fresh (B4 _))
 have kp:∀(ob:Obj),Inv X ZA Z H1 { s1 with heap:=s1.heap.push ob }:=λob=>I1.kept (t':=s1.toks) λb o e=>Bf _ e
 cases f:z.cps.all (· < 128)
 .refine wpAny_pyIter_wide f ?_;exact⟨s1.heap.objs.size,[s1.heap.objs.size],_,_,H1,rfl,kp _,eQ (t:=t) (by decide) (λA' d=>Walks.strWide d _ z t) (λ_ _ _ _ _ st h=>wpAny_pyIter_striter_wide st h),⟨_,CK _ rfl,rfl,rfl⟩,a,q⟩
 .refine wpAny_pyIter_ascii f ?_;exact⟨s1.heap.objs.size,[s1.heap.objs.size],_,_,H1,rfl,kp _,eQ (t:=t) (by decide) (λA' d=>Walks.strAscii d _ z t) (λ_ _ _ _ _ st h=>wpAny_pyIter_striter_ascii st h),⟨_,CK _ rfl,rfl,rfl⟩,a,q⟩⟩
theorem gf{ta:TA}(m:Gl X "range")(l:X.mg "range"=none)(c:QA X [a] ta)(i:starEach [a] X.env=[(false,eval a X.env)]:=by rfl):QI X tg (.Call (.Name "range" p) [a] [] pos) (bB ta):=⟨by
 have c:=c.h;intro ZA s Z H R I h;refine Call_ (KY I m l boot_range (RI (c.k pos I h λus s1 vs H1 I1 f b=>?_) i rfl));obtain⟨j,e,b,g,q⟩:=b;subst e;cases f with
 |cons r d=>
  cases d;obtain⟨t,rfl⟩:=r;exact call_range_1 (nX I1 (by omega) (by omega) b g (by simpa using q))⟩
theorem kl:Rb X [] jQ:=⟨λZA s Z H Q I h=>by
 rw[oq];exact qm ⟨H,I,h⟩⟩
theorem LZ{t:TT}(a:QT X c t):Rb X [c] t:=⟨yq a.h⟩
theorem KU(b:X.calm=true)(S:Fj X.N X.env.scope scope x As js)(hi:QI X (.Name x px) iter wi)
  (FY:∀fp C s H,Rb (L7 X (As++[x]) scope (Cr X.env.cells scope.names) C s H fp) ifs tt) (Fd:∀fp C s H,QE (L7 X (As++[x]) scope (Cr X.env.cells scope.names) C s H fp) elt te)
  (a:∀v,foldedSetIterable iter X.env v=pure v:=by intro _;rfl):QE X (.ListComp elt [⟨.Name x px,iter,ifs,0⟩] scope pos) (N3 wi js tt te):=⟨xA b S hi.h (λfp C s H=>(FY fp C s H).h) (λfp C s H=>(Fd fp C s H).h) a⟩
theorem qU{py Kk:Pos}(c:X.N.Nodup)(EM:X.N[i]?=some y)(a:Loc X.env.scope y)(b:X.calm=true)(S:Fj X.N X.env.scope scope x As js)(hi:QI X (.Name x px) iter wi)
  (FY:∀fp C s H,Rb (L7 X (As++[x]) scope (Cr X.env.cells scope.names) C s H fp) ifs tt) (Fd:∀fp C s H,QE (L7 X (As++[x]) scope (Cr X.env.cells scope.names) C s H fp) elt te)
  (Pu:swapsWith (.ListComp elt [⟨.Name x px,iter,ifs,0⟩] scope pos) (some (.Name y py)) Kk.line X.env=pure true:=by rfl)
  (hf:X.fn y=true∨X.env.scope.names.lookup y=some .local:=by first|exact .inl rfl|exact .inr rfl|assumption)
  (hs:∀v,foldedSetIterable iter X.env v=pure v:=by intro _;rfl):QS X (.Assign [.Name y py] (.ListComp elt [⟨.Name x px,iter,ifs,0⟩] scope pos) Kk) (FR (N3 wi js tt te) (Co i)):=
 ⟨xq c EM a b S hi.h (λfp C s H=>(FY fp C s H).h) (λfp C s H=>(Fd fp C s H).h) Pu hf hs⟩
theorem ZGL(b:X.N.Nodup)(hi:X.N[i]?=some x)(hx:Loc X.env.scope x)(a:Zq1 X x:=by first|exact .inl rfl|exact .inr rfl|assumption):QG X (.Name x pos) (Co i):=⟨kU b hi hx a⟩
theorem OI:V6 X [] R9:=⟨by
 intro ZA s Z H vs us Q I r h;obtain⟨e,h⟩:=h;subst e;cases r;exact assignInOrder_nil ⟨Z,H,I,h⟩⟩
theorem Eg{t:TG}{u:JJ}(h1:QG X e t)(h2:V6 X es u)
  (d:(assignEach (e::es) X.env).map (·.2)=assign e X.env::(assignEach es X.env).map (·.2):=by rfl):V6 X (e::es) (IZ t u):=⟨by
 have h1:=h1.h;have h2:=h2.h;intro ZA s Z H vs us Q I r h;obtain⟨v,g,f,h⟩:=h;subst f;cases r with
 |cons r a=>
  rw[d];refine assignInOrder_cons (BB (h1 ZA s Z H _ _ _ I r h) λ_ s1 b=>?_);obtain⟨σ1,H1,I1,c⟩:=b;exact h2 ZA s1 σ1 H1 _ _ Q I1 a c⟩
theorem OF{k:Nat}{t:JJ}(i:X.calm=true)(h:V6 X es t)(hn:(assignEach es X.env).length=n:=by rfl)(BO:(assignEach es X.env).findIdx? (·.1)=none:=by rfl):QG X (.Tuple es k pos) (Qo X.K n t):=⟨by
 have h:=h.h;intro ZA s Z H v u Q I r hw;obtain⟨a,xs,j,f,g,hw⟩:=hw;subst j;cases r;obtain⟨A5,c,d,m⟩:=I.tuple f;refine assign_Tuple_tuple (I.ok.hd i) d (by simp[hn,<- g,c.length]) BO λh' hx=>?_;have l:Inv X ZA Z H { s with heap:=h' }:=I.kept (t':=s.toks) λb o e=>hx b o (Br (BE e)) e
 exact h ZA _ Z H xs _ Q l (by simpa using c) hw⟩
theorem cF{i:Expr}{ti:TE}{t:Uq}(ho:QE X o to)(hi:QE X i ti)(l:ZX X t)
  (m:∀v,assign (.Subscript o i pos) X.env v=(do
   let a <- holding [v] (eval o X.env)
   let b <- holding [v,a] (eval i X.env)
   standAt pos
   holding [v,a,b] (setItem a b v)
   release [v,a,b] []):=by intro _;rfl):QG X (.Subscript o i pos) (XH to ti t):=⟨by
 have ho:=ho.h;have hi:=hi.h;intro ZA s Z H v u Q I r h;rw[m];refine pK (vH (ho.k I h λa s1 x H1 I1 e j=>?_));refine pK (vH (hi.k I1 j λb s2 y H2 I2 d g=>?_));refine pK (ZAK (pK (vH (BB (l ZA s2 Z H2 x y v a b u _ I2 e d r g) λ_ n c=>?_))));obtain⟨H3,I3,f⟩:=c;exact wpAny_release ⟨Z,H3,I3,f⟩⟩
end
section
variable{st:Stmt}{u:TS}
theorem Al:E2 X [] T1:=⟨Ma⟩
theorem AA(e:body=st::rest)(h:QS X st t)(h2:E2 X rest u):E2 X body (MG t u):=⟨wm e h.h h2.h⟩
theorem AB(e:body=[st])(h:QS X st t):E2 X body t:=⟨by have h:=h.h;rw[e];exact ZDp h⟩
theorem EZ(b:QE X e te)(a:swapsWith e none pos.line X.env=pure false:=by rfl):QS X (.Expr e pos) (Kv te):=⟨Lb b.h a⟩
theorem AQ(a:QE X e te):QS X (.Return (some e) pos) (Hy te):=⟨by
 have a:=a.h;intro ZA s Z H D I h;exact wpAny_Return_some (BB (a ZA s Z H _ I h) λv s1 AU=>by obtain⟨x,H1,I1,b,c⟩:=AU;exact⟨x,Z,H1,I1,b,c⟩)⟩
theorem Ah{a b:List Stmt}(e:QT X c tc)(g:E2 X a t)(f:E2 X b u):QS X (.If c a b pos) (NJ tc t u):=⟨by
 have e:=e.h;have g:=g.h;have f:=f.h;intro ZA s Z H D I h;refine wpAny_If (BB (e ZA s Z H _ I h) λd s1 Jt=>?_);obtain⟨H1,I1,i⟩:=Jt;cases d with
 |true=>exact g ZA s1 Z H1 D I1 i
 |false=>exact f ZA s1 Z H1 D I1 i⟩
theorem L4(b:QE X e te)(a:QG X tg g)(f:swapsWithSole [tg] e pos.line X.env=pure false:=by rfl)(hw:swappedStores [tg] e X.env=pure none:=by rfl)
  (h1:(assignEach [tg] X.env).map (·.2)=[assign tg X.env]:=by rfl):QS X (.Assign [tg] e pos) (FR te g):=⟨by
 have b:=b.h;have a:=a.h;intro ZA s Z H D I h;refine wpAny_Assign_stores (b.k I h λv s1 x H1 I1 c d=>?_) f hw;rw[h1];exact BB (a ZA s1 Z H1 x v _ I1 c d) λ_ s2 q=>q⟩
theorem ZCK(f:X.N.Nodup)(hi:X.N[i]?=some x)(hx:Loc X.env.scope x)(a:QE X e te)(d:swapsWith e (some (.Name x pos')) pos.line X.env=pure false:=by rfl)(hf:Zq1 X x:=by first|exact .inl rfl|exact .inr rfl|assumption):
  QS X (.Assign [.Name x pos'] e pos) (FR te (Co i)):=⟨by
 have a:=a.h;intro ZA s Z H D I h;refine wpAny_Assign_Name (a.k I h λv s1 y H1 I1 b c=>?_) d;exact Zm I1 f hi hx b (λs2 I2=>⟨_,H1,I2,c⟩) hf⟩
theorem gL(m:PassesOwn (model X.prog X.w) X.A X.env X.xe)(k:QT X c tc)(l:E2 X body tb):QS X (.While c body [] pos) (iE tc tb):=⟨by
 have k:=k.h;have l:=l.h;intro ZA s Z H D I h;obtain⟨W,⟨t,q⟩,turn⟩:=h;refine wpAny_While (codeAny_whileLoop (λn s'=>∃ σ' H',Inv X ZA σ' H' s'/\W n σ' H') ?_ t ⟨Z,H,I,q⟩);rintro n s1⟨σ1,H1,I1,p⟩;refine xX m (BB (k ZA s1 σ1 H1 _ I1 (turn n σ1 H1 p)) λb s2 r=>?_);obtain⟨H2,I2,d⟩:=r;cases b with
 |true=>
  obtain⟨N,o,d⟩:=d;rw[tX rfl];refine xX m (BB (l ZA s2 σ1 H2 _ I2 d) λf u a=>?_);cases f with
  |next=>
   obtain⟨σ3,H3,I3,g⟩:=a;obtain⟨i,j,e⟩:=o σ3 H3 g;exact⟨i,j,σ3,H3,I3,e⟩
  |cont=>
   obtain⟨σ3,H3,I3,g⟩:=a;obtain⟨i,j,e⟩:=o σ3 H3 g;exact⟨i,j,σ3,H3,I3,e⟩
  |brk=>exact a
  |ret v=>exact a
 |false=>
  rw[qg Dc];exact yc ⟨σ1,H2,I2,d⟩⟩
theorem KQ{iter:Expr}(l:PassesOwn (model X.prog X.w) X.A X.env X.xe)(E:X.calm=true)(hi:QI X tg iter wi)(t:QG X tg g)(a:E2 X body tb)
  (hs:∀x,foldedSetIterable iter X.env x=pure x:=by intro _;rfl):QS X (.For tg iter body [] pos) (ZD wi g tb):=⟨by
 have hi:=hi.h;have t:=t.h;have a:=a.h;intro ZA s Z H D I h;refine wpAny_For (BB (hi ZA s Z H _ I h) λv s1 h1=>BB h1 λTv s2 h2=>?_) hs;obtain⟨it,fp,tn,J,H2,e,I2,T,Di,F,W,⟨σ,Q⟩,turn⟩:=h2;subst e
 -- ZCg stays true of Ik ZJX objects through Ik loop
 have y:∀{H':Hp},(∀b∈fp,H' b=none)->∀b∈fp,FA X ZA H' b:=λhn b a=>⟨hn b a,(F b a).2⟩;refine codeAny_forLoop_any (λn s'=>∃i σ' H',Inv X ZA σ' H' s'/\tn i s'.heap/\(∀b∈fp,H' b=none)/\W i n σ' H') ?_ σ ⟨0,Z,H2,I2,Di,λb a=>(F b a).1,Q⟩;rintro n B⟨i,σ3,H3,I3,JX,C,P⟩;rcases turn i n σ3 H3 P with⟨stop,qn⟩|⟨go,N,hN,step⟩
 .refine xX l (BB (T.done X rfl rfl rfl E i ZA B σ3 H3 X.xe I3 (y C) JX stop) λr s4 ZH9=>?_);obtain⟨q,I4⟩:=ZH9;subst q;exact yc ⟨σ3,H3,I4,qn⟩
 .refine xX l (BB (T.item X rfl rfl rfl E i ZA B σ3 H3 X.xe I3 (y C) JX go) λr s4 ZAZ=>?_);obtain⟨u,q,h4⟩:=ZAZ;subst q;refine xX l (BB h4 λ_ z V=>?_);obtain⟨x,H5,I5,U,L,LI,UB⟩:=V;have G:=I5.pinned (y UB) (T.obj _ _ LI);refine xX l (BB (t _ z σ3 H5 x u _ G U (step x H5 L)) λ_ R K=>?_);obtain⟨σ6,H6,I6,Y⟩:=K;refine xX l (BB (a _ R σ6 H6 _ I6 Y) λf p j=>?_);have c:∀{σ7:St}{H7:Hp},Inv X (ZA++Pe fp z.heap) σ7 H7 p->N σ7 H7->∃m,m<n/\∃i σ' H',Inv X ZA σ' H' p/\tn i p.heap/\(∀b∈fp,H' b=none)/\W i m σ' H':=λ{σ7 H7}I7 k=>by
   obtain⟨m',hm,O⟩:=hN σ7 H7 k;refine⟨m',hm,i+1,σ7,H7,I7.PM,T.keep _ _ _ LI λb a o e=>(I7.pin (b,o) (G5 _ (G5 _ (Tz a e)))).1,λb a=>?_,O⟩;obtain⟨o,e,d⟩:=T.obj _ _ LI b a;exact(I7.pin (b,o) (G5 _ (G5 _ (Tz a e)))).2.1
  cases f with
  |next=>obtain⟨σ7,H7,I7,k⟩:=j;exact c I7 k
  |cont=>obtain⟨σ7,H7,I7,k⟩:=j;exact c I7 k
  |brk=>obtain⟨σ7,H7,I7,j⟩:=j;exact⟨σ7,H7,I7.PM,j⟩
  |ret v=>obtain⟨M,σ7,H7,I7,S,j⟩:=j;exact⟨M,σ7,H7,I7.PM,S,j⟩⟩
theorem D0(h:QS X st t):QS X st (bU t):=⟨by
 have h:=h.h;intro ZA s Z H D I hw;obtain⟨J,h1,h2⟩:=hw;refine BB (h ZA s Z H _ I h1) λf s' q=>?_;cases f with
 |next=>obtain⟨σ',H',I',q⟩:=q;exact⟨σ',H',I',h2 σ' H' q⟩
 |ret v=>exact q
 |brk=>exact q
 |cont=>exact q⟩
end
theorem AE.E4{P:Program}{K:ZJa}{mg:ZJc}{ZB:Heap}{qual:Str}{st:Stmt}{fd:FuncData}{N:List Str}{k:Nat}(F:AE K x qual st f fd)(S:Ao N ps (AO st))(len:∀vs H Q E,sp vs H Q E->vs.length=ps.length)
  (MZ:∀(Ai:Value)(A:Around)(outer:List Env)(s:Shared)(H:Hp)(vs:List V)(Q:VK)(E:XK),Ba k (A.deeper (envOfC qual (AO st) s.heap.objs.size f Ai))->sp vs H Q E->
   ∃t,E2 (DG DW P w K mg ZB N qual (AO st) f Ai A outer s H E).Jn (El st) t/\t { nx:=λ_ H'=>Q .A9 H',rt:=Q } (start N vs) H):CQ P w K mg ZB DW (k+1) f fd ps sp:=
 F.ok S len λAi A outer s H vs Q E a h=>let ⟨t,q,r⟩:=MZ Ai A outer s H vs Q E a h;⟨t,q.h,r⟩
theorem Sh{t:Tok}:Ds (.str x) (.str y t)=(y == x):=rfl
theorem c7(x:Str):∀(ss:List Str)(m:Nat)(b:m<ss.length),m<ss.idxOf x->ss[m]≠x
 | [],_,b,_=>absurd b (Nat.not_lt_zero _)
 |a::r,m,b,h=>by
  rw[ou]at h
  by_cases e:a=x
  .have:(a == x)=true:=by simpa using e
   rw[this]at h;exact absurd h (Nat.not_lt_zero _)
  .have c:(a == x)=false:=by simpa using e
   rw[c]at h;cases m with
   |zero=>exact e
   |succ k=>
    have h':k+1<r.idxOf x+1:=h;exact c7 x r k (by simpa using b) (by omega)
theorem N5(h:x∈ss):∃a:ss.idxOf x<ss.length,ss[ss.idxOf x]=x/\∀m(b:m<ss.length),m<ss.idxOf x->ss[m]≠x:=by
 have a:ss.idxOf x<ss.length:=List.idxOf_lt_length_iff.mpr h;exact⟨a,cX a,λm b Aq=>c7 x ss m b Aq⟩
def jR(K:ZJa):V->List V->Hp->VK->Prop:=λx vs H Q=>∃(l:Addr)(ss:List Str)(y:Str),x=.ref l/\vs=[.str y]/\Ab K H l (ss.map V.str)/\y∈ss/\Q (.int (ss.idxOf y:Nat)) H
theorem UT:La X "list.index" (jR X.K):=by
 intro ZA s Z H x vs v us Q I i j h;obtain⟨l,ss,y,rfl,rfl,p,o,q⟩:=h;cases i;obtain⟨u,rfl,k⟩:=j.one;obtain⟨A5,r,pl,b⟩:=I.list p;obtain⟨⟨c,d,G,sl⟩,n,ho,f,hd,Iu⟩:=id pl;simp only at f hd Iu;subst f;subst hd;subst Iu;have A:=r.length;rw[AK]at A;obtain⟨D,Yg,Lc⟩:=N5 o;have at':∀(m:Nat)(a:m<A5.toArray.size),∃t,A5.toArray[m]=.str (ss[m]'(by simp at a;omega)) t:=λm a=>by
  have B:m<A5.length:=by simpa using a
  obtain⟨h2,t,e⟩:=oM r (BK B);exact⟨t,by simpa using e⟩
 have g:ss.idxOf y<A5.toArray.size:=by simp;omega
 refine ZBB VO ⟨_,ho,rfl⟩ PySem.F.entry_list_index (PySem.F.args_list_index_2 _ _) (SeqAt.list_indexAt l A5.toArray n none sl u (Ds (.str y)) (ss.idxOf y) g ?_ ?_ (λm a Aq=>?_)) ⟨ho,λz Q4=>Kc k rfl r (by
   rw[Im];intro w hw;obtain⟨C,_,rfl⟩:=List.mem_map.mp hw;rfl) z (by simpa using Q4),?_⟩
 .have h1:ss.length<=sizeLine:=by rw[AK]at b;exact b
  have h2:=L9;have E:((sizeLine:Nat):Int)<2 ^ 63:=by exact_mod_cast h2
  omega
 .obtain⟨t,e⟩:=at' _ g;rw[e,Sh];simpa using Yg
 .obtain⟨t,e⟩:=at' _ a;rw[e,Sh];have:=Lc m (by simp at a;omega) Aq
  simpa using this
 .exact⟨.int _,H,I.tok _,⟨_,rfl⟩,q⟩
theorem ZEt(l:Addr)(items:Array Value)(n:Nat)(dd:Option Addr)(sl:Array (Option Value))(x:Value)(e:Value->Bool)(j:Nat)(z:j<items.size)(f:e items[j]=true)(Lc:∀m(v:m<items.size),m<j->e items[m]=false):
  Meets (Builtin.«tuple.index» ⟨[.ref l,x],[]⟩)
   (λA R s=>s.heap.get? l=some { cls:=.type "tuple", dict:=dd,data:=.seq items n,slots:=sl }/\(∀y,y∈items->SeqAt.EqAt A.in1 s y x (e y))/\R (.ok (.ret (.int j s.toks))) { s with toks:=s.toks+1 }):=by
 refine Meets.of_wp λprog w A R s h=>?_;obtain⟨o,g,d,tk,os⟩:=s;obtain⟨p,q,h⟩:=h
 wp_walk using AutoSeq1.wpAny_loadPart' p
 show wpAny _ _ (forIn [:min items.size items.size] ((none:Option Fin),()) (λ(i:Nat)(_:Option Fin×Unit)=>match items[i]? with
  |some y=>(do let b <- eqBool y x;if b=true then do let r <- retInt ((i:Nat):Int);pure (ForInStep.done (some r,()))else pure (ForInStep.yield (none,())))
  |_=>pure (ForInStep.yield (none,())))) _ _ _
 rw[Std.Legacy.Range.forIn_eq_forIn_range'];have hsz:([:min items.size items.size]:Std.Legacy.Range).size=items.size:=by simp[Std.Legacy.Range.size]
 show wpAny _ _ (forIn (List.range' 0 ([:min items.size items.size]:Std.Legacy.Range).size 1) _ _) _ _ _;rw[hsz];refine wpAny_forIn_list _ (λrest b s'=>b=(none,())/\s'=⟨o,g,d,tk,os⟩/\∃i,rest=List.range' i (items.size - i) 1/\i<=j) _ ?_ ?_ _ _ ⟨rfl,rfl,0,rfl,Ct _⟩
 .rintro i rest b s'⟨rfl,rfl,a,c,FZ⟩;have k:a < items.size:=by omega
  have u:List.range' a (items.size - a) 1=a::List.range' (a+1) (items.size - (a+1)) 1:=by
   have:items.size - a=(items.size - (a+1))+1:=by omega
   rw[this,List.range'_succ]
  rw[u]at c;injection c with vW hr2
  subst vW;subst hr2;have hi:items[i]?=some items[i]:=by simp[k]
  rw[hi];refine pK (q _ (Array.getElem_mem k) prog w _ _ ?_)
  by_cases t:i=j
  .subst t;rw[f,tX rfl]
   wp_walk
   exact⟨_,rfl,h⟩
  .rw[Lc i k (by omega),qg (by decide)];exact qm ⟨rfl,rfl,i+1,rfl,by omega⟩
 .rintro b s'⟨rfl,rfl,i,c,FZ⟩;have:0<(List.range' i (items.size - i) 1).length:=by rw[List.length_range'];omega
  rw[<- c]at this;exact absurd this (by simp)
def jW(K:ZJa):V->List V->Hp->VK->Prop:=λx vs H Q=>∃(l:Addr)(ss:List Str)(y:Str),x=.ref l/\vs=[.str y]/\AW K H l (ss.map V.str)/\y∈ss/\Q (.int (ss.idxOf y:Nat)) H
theorem ZFt:La X "tuple.index" (jW X.K):=by
 intro ZA s Z H x vs v us Q I g i h;obtain⟨l,ss,y,rfl,rfl,o,k,q⟩:=h;cases g;obtain⟨u,rfl,j⟩:=i.one;obtain⟨A5,r,pl,C⟩:=I.tuple o;obtain⟨⟨c,d,E,sl⟩,ho,b,n,Iu⟩:=id pl;simp only at b Iu;subst b;subst Iu;have p:=r.length;rw[AK]at p;obtain⟨D,Yg,Lc⟩:=N5 k;have at':∀(m:Nat)(a:m<A5.toArray.size),∃t,A5.toArray[m]=.str (ss[m]'(by simp at a;omega)) t:=λm a=>by
  have A:m<A5.length:=by simpa using a
  obtain⟨h2,t,e⟩:=oM r (BK A);exact⟨t,by simpa using e⟩
 have f:ss.idxOf y<A5.toArray.size:=by simp;omega
 refine ZBB ZId ⟨_,ho,rfl⟩ PySem.F.entry_tuple_index (PySem.F.args_tuple_index_2 _ _) (ZEt l A5.toArray n d sl u (Ds (.str y)) (ss.idxOf y) f ?_ (λm a Aq=>?_)) ⟨ho,λz Q4=>Kc j rfl r (by
   rw[Im];intro w hw;obtain⟨B,_,rfl⟩:=List.mem_map.mp hw;rfl) z (by simpa using Q4),?_⟩
 .obtain⟨t,e⟩:=at' _ f;rw[e,Sh];simpa using Yg
 .obtain⟨t,e⟩:=at' _ a;rw[e,Sh];have:=Lc m (by simp at a;omega) Aq
  simpa using this
 .exact⟨.int _,H,I.tok _,⟨_,rfl⟩,q⟩
def Xh(t u:TE):TE:=λZ H Q=>t Z H Q∨u Z H Q
theorem ZDT{t u:TE}(h:QE X e t)(h2:QE X e u):QE X e (Xh t u):=⟨λZA s Z H Q I q=>q.elim (h.h ZA s Z H Q I) (h2.h ZA s Z H Q I)⟩
theorem vK:typeLookup (.type "list_reverseiterator") "__len__"=pure none:=by rw[ZBC,ZAB];kernel_rfl
theorem uv:typeLookup (.type "list_reverseiterator") "__length_hint__"=pure (some (.builtin "list_reverseiterator.__length_hint__")):=by rw[ZBC,ZAB];kernel_rfl
section
variable{prog:Program}{A:Around}{s:Shared}{R:Result->Shared->Prop}
variable{fp wr:List Addr}{G:Array GenState->Array GenState->Prop}{P:Nat->Value->Prop}{St:Nat->Shared->Prop}
theorem ZE4(W:WalksS prog w A.in1 I fp wr G n P St)(c:∀i s,St i s->s.TypeIs (.ref I) "list_reverseiterator")(S:Addr)(res:Value)(m:Nat)(BO:St 0 s)(Gm:S∉fp)(l:I∈fp)
  (k:s.heap.get? S=some { cls:=.type "list", data:=.seq #[] m })
  (hR:∀s' EN a,Moved (S::wr) G s s'->s'.heap.get? S=some { cls:=.type "list", dict:=none,data:=.seq EN a,slots:=#[] }->ItemsOf P EN n->R (.ok (.ret res)) s') (hn:n<=sizeLine) :
  wpAny (model prog w) A.in1 (Builtin.List.listExtendWith (.ref S) (.ref I) res)
   (λg s'=>match g with | .done f=>R (.ok f) s' | .again a=>a.quiet=true/\codeAny (model prog w) A a R s') (λe s'=>R (.error e) s') s:=by
 have d:S≠I:=λe=>Gm (e▸l);unfold Builtin.List.listExtendWith;refine pK (xT (c 0 _ BO) ?_);have h1:Builtin.List.listSameRef (.ref S) (.ref I)=false:=by simp[Builtin.List.listSameRef,d]
 rw[qg (by rw[h1];decide)];refine pK (W.self 0 _ _ _ BO ?_);refine pK (vH ?_);unfold Builtin.List.listLengthHint;refine pK (zF (c 0 _ BO) vK ?_);show wpAny _ A.in1 (specialOf (Value.ref I) (Str.ofString "__length_hint__") >>= _) _ _ _;refine pK (zF (c 0 _ BO) uv ?_);generalize h:("list_reverseiterator.__length_hint__":String)=Qn
 wp_delta
 rw[show splitId Qn=some ("list_reverseiterator","__length_hint__")from by subst h;decide +kernel];subst h;refine pK (ZB5 (b:=true) (c 0 _ BO) (by rw[ZBM];kernel_rfl) ?_);refine qm ?_;rw[qg (by decide)];refine qm ⟨ZAv F.plain_extend_loop _,ZAW W hn _ Gm _ n 0 _ _ _ rfl (Ct _) BO k (ItemsOf.nil P) λs' EN a j DT BJ=>?_⟩;exact hR s' EN a j DT BJ
theorem ZF9(W:WalksS prog w A.in1 I fp wr G n P St)(m:∀i s,St i s->s.TypeIs (.ref I) "list_reverseiterator")(S:Addr)(BO:St 0 s)(Gm:S∉fp)(p:I∈fp)
  (g:s.heap.get? S=some { cls:=.type "list", data:=.seq #[] })
  (hR:∀s' EN a,Moved (S::wr) G s s'->s'.heap.get? S=some { cls:=.type "list", dict:=none,data:=.seq EN a,slots:=#[] }->ItemsOf P EN n->R (.ok (.ret .none)) s') (hn:n<=sizeLine) :
  wpAny (model prog w) A.in1 (Builtin.«list.__init__» ⟨[.ref S,.ref I],[]⟩)
   (λj s'=>match j with | .done f=>R (.ok f) s' | .again a=>a.quiet=true/\codeAny (model prog w) A a R s') (λe s'=>R (.error e) s') s:=by
 show wpAny _ A.in1 (do let old <- Builtin.List.listItems (.ref S);Builtin.List.listUpdate (.ref S) (λ_=>#[]);letGo old.toList.reverse;Builtin.List.listExtendWith (.ref S) (.ref I) .none) _ _ s
 refine pK ?_;unfold Builtin.List.listItems;refine pK (wpAny_seqItems g rfl (qm ?_));show wpAny _ A.in1 (updateSeq S (λ_=>#[]) >>= λ_=>letGo (#[]:Array Value).toList.reverse >>= λ_=>Builtin.List.listExtendWith (.ref S) (.ref I) .none) _ _ s;refine pK (yO g rfl ?_);have d:=JQ (Obj.mapSeq (λ_=>(#[]:Array Value))) g rfl;have k:∀b o,b≠S->s.heap.get? b=some o->(s.heap.update S (Obj.mapSeq (λ_=>(#[]:Array Value)))).get? b=some o:=
  λb o c e=>(G3 _ _ (BU c)).trans e
 refine pK (wpAny_letGo ?_);refine ZE4 (hn:=hn) W m S .none _ (W.frame 0 s _ s.toks BO (B4 _) λb c o e=>k b o (λh=>Gm (h▸c)) e) Gm p d λs' EN a l DT BJ=>?_;exact hR s' EN a (Moved.trans W.gtrans ((Moved.refl W.grefl).then_heap (B4 _) λb o c e=>k b o (λh=>c (h▸DC)) e) l) DT BJ
theorem qp(W:WalksS prog w A.in1.in1 I fp wr G n P St)(j:∀i s,St i s->s.TypeIs (.ref I) "list_reverseiterator")(BO:St 0 s)(g:∀b∈fp,b<s.heap.objs.size)(l:I∈fp)
  (k:∀s' EN c,Moved (s.heap.objs.size::wr) G { s with heap:=s.heap.push { cls:=.type "list", data:=.seq #[] } } s'->
   s'.heap.get? s.heap.objs.size=some { cls:=.type "list", dict:=none,data:=.seq EN c,slots:=#[] }->ItemsOf P EN n->Q (.ref s.heap.objs.size) s') (hn:n<=sizeLine) :
  wpAny (model prog w) A (call (.type "list") [.ref I]) Q E s:=by
 have m:s.heap.objs.size∉fp:=λa=>Mp _ (g _ a);refine callType_codes (Q₁:=λobj d=>obj=.ref s.heap.objs.size/\d={ s with heap:=s.heap.push { cls:=.type "list", data:=.seq #[] } }) F.called_list (F.typeCall_list_1 _) F.entry_list_init
  (code_list_new _ ⟨rfl,rfl⟩) λobj d h=>?_
 obtain⟨rfl,rfl⟩:=h;have f:(s.heap.push { cls:=.type "list", data:=.seq #[] }).get? s.heap.objs.size=some { cls:=.type "list", data:=.seq #[] }:=CK _ rfl;refine⟨⟨_,f,rfl⟩,F.args_list_init_2 _ _,ZF9 (hn:=hn) W j _ (W.frame 0 s _ s.toks BO (B4 _) λb _ o e=>Bf _ e) m l f λs' EN c a DT BJ=>?_⟩;exact⟨rfl,k s' EN c a DT BJ⟩
variable{l:Addr}{items:Array Value}
end
end L2
namespace HT
variable{E Q:Value->Shared->Prop}
section
variable{prog:Program}{w:World}{A:Around}{s:Shared}
theorem rX{t sl:Addr}{items:Array Value}{vl vu:Value}{lo hi:Option Int}(a:IsTup s.heap t items)(c:s.heap.IsSliceOf sl vl vu .none)(pl:IsPart vl lo)(d:IsPart vu hi)
  (hw:Ay items.size 0 lo=0/\Ay items.size items.size hi=items.size) (h:Q (.ref t) s):wpAny (model prog w) A (getItem (.ref t) (.ref sl)) Q E s:=by
 obtain⟨os,LX,V3,QV⟩:=id c;have e:s.TypeIs (.ref sl) "slice" := ⟨os,LX,V3⟩;unfold getItem
 try with_reducible refine vH ?_
 first|refine pK (qm ?_)|skip
 refine pK (wpAny_sequenceKey a.typeIs (by decide) ?_);refine pK (wpAny_callSpecial?_slot (name:=Str.ofString "__getitem__") a.typeIs d5
  (ZAI d5 a.typeIs entry_tuple_getitem ?_ (args_tuple_getitem _ _)))
 show wpAny _ _ (Builtin.Tuple.tupleItemsOf (.ref t) >>= _) _ _ s;refine pK (tupleItemsOf_ a ?_);refine pK (xT e ?_);rw[tX (by decide)];refine pK (gX c pl d ?_);have b:((((Ay items.size 0 lo:Nat):Int) == 0 && (1:Int) == 1 && (Ay items.size items.size hi - Ay items.size 0 lo) == items.size)=true):=by
  rw[hw.1,hw.2];simp
 first
 |rw[tX b]
 |simp only[b,ZBU]
 refine pK ?_;unfold Builtin.Tuple.tupleIsExact;refine pK (xT a.typeIs (qm ?_));rw[tX (by decide)];exact pK (zE (qm ⟨_,rfl,qm h⟩))
end
end HT
namespace L2
variable{X:Cx}{A5 vs:List Value}{ZA:ZJb}{Z:St}{H:Hp}{s:Shared}{h':Heap}{e k1 n t':Nat}{fp:List Addr}{I a:Addr}{w:World}{es:List Expr}{prog:Program}{A:Around}{E:Value->Shared->Prop}{AI ss:List Str}{Pc Q:List Value->Shared->Prop}
section
def fg(K:ZJa):V->Option Int->Option Int->Hp->VK->Prop:=λx lo hi H Q=>∃a xs,x=.ref a/\AW K H a xs/\
 ((HT.Ay xs.length 0 lo=0/\HT.Ay xs.length xs.length hi=xs.length)->Q (.ref a) H)/\(¬ (HT.Ay xs.length 0 lo=0/\HT.Ay xs.length xs.length hi=xs.length)->∀p,H p=none->Q (.ref p) (upd H p (.tup (Cq xs lo hi))))
theorem ZEl:MU X (fg X.K):=by
 intro ZA s Z H x v vl vu lo hi sl Q I c f pl d h;obtain⟨a,xs,rfl,hx,i,g⟩:=h
 by_cases hw:HT.Ay xs.length 0 lo=0/\HT.Ay xs.length xs.length hi=xs.length
 .cases c;obtain⟨A5,r,e,j⟩:=I.tuple hx;have b:A5.toArray.size=xs.length:=by rw[CL];exact r.length.symm
  refine⟨"tuple", _,PyProof.Rows.slot_tuple_getitem.lookup,e.typeIs,?_⟩;exact HT.rX e f pl d (by rw[b];exact hw) ⟨.ref a,H,I,rfl,i hw⟩
 .exact dw ZA s Z H _ v vl vu lo hi sl Q I c f pl d ⟨a,xs,rfl,hx,hw,g hw⟩
theorem yu{ys:List V}(r:Vals ys A5){acc:Array Value}(h:ItemsOf (λi v=>A5.toArray[A5.toArray.size - 1 - i]?=some v) acc A5.toArray.size):∃us:List Value,Vals ys.reverse us/\acc=us.toArray:=by
 have e:acc=A5.reverse.toArray:=by
  apply Array.toList_inj.mp;rw[ZIT];apply cU;intro i;have a:acc.size=A5.length:=by rw[h.1];simp
  by_cases hi:i<A5.length
  .have h1:acc.toList[i]?=some (acc[i]'(by omega)):=by simp
   have h2:=h.2 i (acc[i]'(by omega)) (by simp);rw[h1,List.getElem?_reverse hi];simp at h2;rw[<- h2]
  .have h1:acc.toList[i]?=none:=LQ (by simp;omega);have h2:A5.reverse[i]?=none:=LQ (by simp;omega);rw[h1,h2]
 exact⟨A5.reverse,r.reverse,e⟩
theorem Inv.sJ(I:Inv X ZA Z H s)(d:∀b∈fp,FA X ZA H b)(k:∀b o,b∉fp->s.heap.get? b=some o->h'.get? b=some o):
  Inv X ZA Z H { s with heap:=h',toks:=t' }:=by
 have f:∀b u,H b=some u->b∉fp:=λb u e z=>by rw[(d b z).1]at e;cases e
 refine I.step (g':=s.gens) (d':=s.drawn) (ch:=fp) (λb h=>?_) (λb o _ _ a e _=>k b o a e) (λb o _ _ a e _=>⟨o.slots,k b o a e⟩) (λ_ _ _ _ n=>n)
  (λb o a e=>⟨o,k b o a e⟩) (λ_ _ e=>e) (λ_ _ _ e=>e) (λb ps e=>⟨#[],by rw[e];simp⟩) (λm g=>?_) (λb u e=>?_) I.bare
 .obtain⟨_,h1,_,l,j,i⟩:=d b h;exact⟨l,h1,j,i⟩
 .obtain⟨o,es,p,ho,r⟩:=g;exact⟨o,es,p,k _ o (λz=>(d _ z).2.1 rfl) ho,r⟩
 .refine(I.AH b u e).Hs (λc v a q=>k c v ?_ q) (λ_ q=>q) λ_ _ q=>q;rcases a with z|z
  .rw[z];exact f b u e
  .exact f c _ z
theorem Inv.y6{o:HO}(I:Inv X ZA Z H s)(i:∀b∈fp,FA X ZA H b)(k:∀b o,b∉fp->s.heap.get? b=some o->h'.get? b=some o)
  (j:s.heap.objs.size<=a) (g:CD X.prog X.w (upd H a o) h' a o):Inv X ZA Z (upd H a o) { s with heap:=h',toks:=t' }:=by
 have hn:H a=none:=I.AH.fresh j;have l:∀b u,H b=some u->b∉fp:=λb u e z=>by rw[(i b z).1]at e;cases e
 have ne:∀b u,H b=some u->b≠a:=λb u e=>Dg e hn;have h:∀b u,s.heap.get? b=some u->b≠a:=λb u e=>Br (Dn (BE e) j);refine I.step (g':=s.gens) (d':=s.drawn) (ch:=fp) (λb f=>?_) (λb o _ _ d e _=>k b o d e) (λb o _ _ d e _=>⟨o.slots,k b o d e⟩) (λb o _ e n=>by rw[Aa (h b o e)];exact n)
  (λb o d e=>⟨o,k b o d e⟩) (λb _ e=>by rw[Aa (ne b _ e)];exact e) (λb _ _ e=>by rw[Aa (ne b _ e)];exact e) (λb ps e=>⟨#[],by rw[Aa (ne b _ e),e];simp⟩) (λm p=>?_) (λb u e=>?_) I.bare
 .obtain⟨_,h1,_,y,x,t⟩:=i b f;exact⟨y,h1,x,t⟩
 .obtain⟨o,es,A,ho,r⟩:=p;exact⟨o,es,A,k _ o (λz=>(i _ z).2.1 rfl) ho,r⟩
 .by_cases f:b=a
  .subst f;rw[AX]at e;cases e;exact g
  .rw[Aa f]at e;refine(I.AH b u e).Hs (λc v d q=>k c v ?_ q) (λc q=>by rw[Aa (ne c _ q)];exact q) λc _ q=>by rw[Aa (ne c _ q)];exact q
   rcases d with z|z
   .rw[z];exact l b u e
   .exact l c _ z
noncomputable def fu(K:ZJa)(a:Addr)(xs:List V):It:=
 ⟨λi H=>Ab K H a xs/\i<xs.length,λi H x H'=>∃p y,xs[i]?=some y/\x=.ref p/\H p=none/\H'=upd H p (.tup [.int i,y]),λi H=>Ab K H a xs/\xs.length<=i⟩
theorem qu{P:Program}{K:ZJa}{p1:Pos}(a e it:Addr)(xs:List V)(B:e≠it):
  Turn P w K (.Tuple es k1 p1) (fu K a xs) [e,it] e (λi h=>(∃c,IsEnum h e it i c)/\h.IsListIter it a i) where
 mem:=by simp
 obj:=λi h st b g=>by
  obtain⟨⟨c,h1⟩,o,h2,_,d⟩:=st;rcases List.mem_cons.mp g with z|z
  .subst z;exact⟨_,h1,λv z=>by cases z⟩
  .have:b=it:=by simpa using z
   subst this;exact⟨o,h2,λv z=>by rw[d]at z;cases z⟩
 keep:=λi h h' st k=>⟨let ⟨c,h1⟩:=st.1;⟨c,k e (by simp) _ h1⟩,st.2.at λo q=>k it (by simp) o q⟩
 item:=by
  intro X t hw y C i ZA s Z H E I l st r;subst t hw y;obtain⟨n,hi⟩:=r;obtain⟨⟨c,j⟩,f⟩:=st;obtain⟨A5,m,p,J⟩:=I.list n;obtain⟨u,L,G⟩:=m.get (BK hi);refine wpAny_pyNext_enum_item j f p.isList (x:=u) (by simpa using L) B λh1 KI ZCT VY O NR=>⟨_,rfl,?_⟩
  refine wpAny_letOwnedTupleGo_enum KI λh2 Ni Cn=>?_;have F:e<s.heap.objs.size:=BE j;have D:h2.get? s.heap.objs.size=some { cls:=.type "tuple", data:=.seq #[.int i s.toks,u] }:=(Cn.2 _ (Ol F)).trans VY;have kp:∀b o,b∉[e,it]->s.heap.get? b=some o->h2.get? b=some o:=λb o g q=>by
   have A:b≠e/\b≠it:=by simpa using g
   exact(Cn.2 b A.1).trans (NR b o A.1 A.2 q)
  refine⟨.ref s.heap.objs.size,_,I.y6 (t':=s.toks+1) (a:=s.heap.objs.size) (o:=.tup [.int i,xs[i]]) l kp (B4 _) ?_,rfl,⟨_,_,BK hi,rfl,I.AH.fresh (B4 _),rfl⟩,⟨⟨_,Ni⟩,ZCT.at λo q=>(Cn.2 it (BU B)).trans q⟩,λb g=>?_⟩
  .exact⟨(by show 2<=sizeLine;decide),[.int i s.toks,u],.cons ⟨_,rfl⟩ (.cons G .nil),⟨_,D,rfl,_,rfl⟩,λob q=>by rw[D]at q;cases q;rfl⟩
  .have N:b<s.heap.objs.size:=by
    rcases List.mem_cons.mp g with z|z
    .rw[z];exact F
    .have:b=it:=by simpa using z
     obtain⟨o,q,_⟩:=f;rw[this];exact BE q
   rw[Aa (Br N)];exact(l b g).1
 done:=by
  intro X t hw y C i ZA s Z H E I l st r;subst t hw y;obtain⟨n,hx⟩:=r;obtain⟨⟨c,j⟩,f⟩:=st;obtain⟨A5,m,p,J⟩:=I.list n;have Q:=m.length;exact wpAny_pyNext_enum_end (I.ok.hd C) j f p.isList (by simp;omega) λh' M=>⟨rfl,I.sJ (t':=s.toks) l λb o g q=>M b o (λz=>g (by simp[z])) q⟩
 self:=λ_ _ _ _ _ st h=>let ⟨⟨_,j⟩,_⟩:=st;wpAny_pyIter_enum j h
def cD(K:ZJa)(t:TA):TI:=λZ H R=>t Z H λvs H1=>∃a xs,vs=[.ref a]/\Ab K H1 a xs/\R (fu K a xs) H1
theorem ZDW{p1 p pos:Pos}{l:Expr}{t:TA}(r:Gl X "enumerate")(o:X.mg "enumerate"=none)(d:QA X [l] t)(m:starEach [l] X.env=[(false,eval l X.env)]:=by rfl):
  QI X (.Tuple es k1 p1) (.Call (.Name "enumerate" p) [l] [] pos) (cD X.K t):=⟨by
 have d:=d.h;intro ZA s Z H R I h;refine x3 (KY I r o (show bootBuiltins "enumerate"=some (.type "enumerate") by decide+kernel) ?_ (by decide) (by decide));refine RI (d.k pos I h λus s1 vs H1 I1 i j=>?_) m rfl;obtain⟨a,xs,rfl,n,q⟩:=j;obtain⟨u,rfl,g⟩:=vals1 i;cases g;obtain⟨A5,x,p,y⟩:=I1.list n;refine call_enumerate_list p.isList λh' e c hsz kp=>?_;refine wpAny_pyIter_enum e ?_;have w:s1.heap.objs.size+1≠s1.heap.objs.size:=Nat.succ_ne_self _;refine⟨s1.heap.objs.size+1,[s1.heap.objs.size+1,s1.heap.objs.size],_,_,H1,rfl,I1.kept (t':=s1.toks) kp,qu a _ _ xs w,⟨⟨_,e⟩,c⟩,λb v=>?_,q⟩;have f:s1.heap.objs.size<=b:=by
  rcases List.mem_cons.mp v with z|z
  .rw[z];exact G6 _
  .have:b=s1.heap.objs.size:=by simpa using z
   rw[this];exact B4 _
 exact I1.QZ f (I1.AH.fresh f)⟩
variable{R:Result->Shared->Prop}{wr:List Addr}{G:Array GenState->Array GenState->Prop}{P:Nat->Value->Prop}{St:Nat->Shared->Prop}
theorem Inv.drew(I:Inv X ZA Z H s)(d:Drawn):Inv X ZA Z H { s with drawn:=d }:=
 I.step (h':=s.heap) (g':=s.gens) (t':=s.toks) (d':=d) (ch:=[]) (λ_ z=>nomatch z) (λb o _ _ _ e _=>e) (λb o _ _ _ e _=>⟨o.slots,e⟩) (λ_ _ _ _ n=>n) (λb o _ e=>⟨o,e⟩) (λ_ _ e=>e) (λ_ _ _ e=>e) (λb ps e=>⟨#[],by rw[e];simp⟩) (λm a=>a) I.AH I.bare
theorem xZ{l:Addr}(a:IsTup s.heap l vs.toArray)(h:Q vs { s with heap:=(s.heap.push (seqObj "list" #[] 0)).update s.heap.objs.size (Obj.mapSeq (·++vs.toArray)) })(hsz:vs.length<=sizeLine):
  wpAny (model prog w) A (collect (.ref l)) Q E s:=by
 obtain⟨o,ho,b,n,hd⟩:=id a;unfold collect;refine pK (wpAny_runValue (ZAg entry_proto_collect' ?_));show wpAny _ _ (newList [] >>= λx=>again (.builtin "list.__iadd__" ⟨[x,.ref l],[]⟩)) _ _ s;refine pK (ZAo ?_);refine qm ⟨oZ _ (by decide+kernel),ZAg entry_list_iadd' ?_⟩;show wpAny _ _ (Builtin.List.listExtendWith (.ref s.heap.objs.size) (.ref l) (.ref s.heap.objs.size)) _ _ { s with heap:=s.heap.push (seqObj "list" #[] 0) }
 unfold Builtin.List.listExtendWith;have g:(s.heap.push (seqObj "list" #[] 0)).get? l=some o:=Bf _ ho;refine pK (xT (T:="tuple") ⟨o,g,b⟩ ?_);rw[tX (by simp)];refine pK (listItems_at g hd ?_);refine pK (listItems_at (xs:=#[]) (n:=0) (CK _ rfl) rfl ?_);rw[qg (by simp)];refine pK (listUpdate_at (xs:=#[]) (n:=0) (CK _ rfl) rfl ?_ (Ct _) (by show(#[]++vs.toArray).size<=sizeLine+1;simp only[Array.size_append,CL,cZ];omega));refine qm ?_;show wpAny (model prog w) A (load s.heap.objs.size >>= λo=>(match o.data with | .seq xs _=>pure xs.toList|_=>unsupported "internal:collect")) Q E _
 refine pK (wpAny_load (get?_update_seq (CK _ rfl) _) ?_);show wpAny _ _ (pure ((#[]:Array Value)++vs.toArray).toList) Q E _;have e:((#[]:Array Value)++vs.toArray).toList=vs:=by simp
 rw[e];exact qm h
theorem ZHH{v:Value}{Q:Value->Shared->Prop}
  (i:∀(A1:Around)(E1:Value->Shared->Prop)(Q1:List Value->Shared->Prop),A1.handled=A.handled->(∀vs s1,Pc vs s1->Q1 vs s1)->wpAny (model prog w) A1 (collect v) Q1 E1 s)
  (h:∀vs s1,Pc vs s1->vs.length<64/\∃ss,StrsAre vs ss/\∀out AI e h',(∀b o,s1.heap.get? b=some o->h'.get? b=some o)->h'.get? s1.heap.objs.size=some (seqObj "list" out e)->StrsAre out.toList AI->AI.Perm ss->sortedS AI=true->Q (.ref s1.heap.objs.size) { s1 with heap:=h' }) :
  wpAny (model prog w) A (call (.builtin "sorted") [v]) Q E s:=by
 refine ZI6 kind_sorted plain_sorted entry_sorted (args_sorted1 _) ?_;unfold Builtin.«sorted»;refine pK (m:=checkCount "sorted" 1 1 _) (qm ?_);refine pK (i _ _ _ rfl λvs s1 f=>?_);obtain⟨MP,ss,GG,k⟩:=h vs s1 f;refine pK (ZAo ?_);have a:(s1.heap.push (seqObj "list" vs.toArray 0)).get? s1.heap.objs.size=some (seqObj "list" vs.toArray 0):=CK _ rfl;refine pK (vH (ZAI slot_list_sort ⟨_,a,rfl⟩ entry_list_sort (list_sort_treeK (s:={ s1 with heap:=s1.heap.push (seqObj "list" vs.toArray 0) }) strKind_oneLt a GG.keysOf (λt r rest e=>keyKind_strs (by rw[<- e];exact GG)) MP λAG q p=>⟨_,rfl,?_⟩) (args_list_sort _)))
 obtain⟨AI,n,l,j⟩:=sorted_out_str GG q p;obtain⟨e,g⟩:=sortedHeap_at (out:=(arrOf AG).map (·.2)) a
 refine qm ⟨_,rfl,k _ AI e _ (λb o c=>?_) g n l j⟩;have d:=BE c;rw[sortedHeap_old (Br d) (by rw[HJ];exact LS d)];exact Bf _ c
end
theorem de:∀{ss:List Str}{us:List Value},Vals (ss.map V.str) us->StrsAre us ss
 | [],_,.nil=>.nil
 |x::r,_,.cons ⟨t,e⟩ h=>by rw[e];exact .cons x t (de h)
theorem WH:∀{ss:List Str}{us:List Value},StrsAre us ss->Vals (ss.map V.str) us
 |_,_,.nil=>.nil
 |_,_,.cons x t h=>.cons ⟨t,rfl⟩ (WH h)
theorem uo{s1:Shared}{Q:VK}(I:Inv X ZA Z H s)(f:s1.gens=s.gens)(ho:s1.os=s.os)(d:∀b o,s.heap.get? b=some o->s1.heap.get? b=some o)(c:s.heap.objs.size<=s1.heap.objs.size)
  {out:Array Value}(kp:∀b o,s1.heap.get? b=some o->h'.get? b=some o) (g:h'.get? s1.heap.objs.size=some (seqObj "list" out e)) (i:StrsAre out.toList AI) (MP:AI.length<64)
  (q:∀l,H l=none->Q (.ref l) (upd H l (.lst (AI.map V.str)))):EP X ZA Z Q (.ref s1.heap.objs.size) { s1 with heap:=h' }:=by
 obtain⟨h1,g1,j,h,k⟩:=s1;simp only at f ho d c kp g;subst f;subst ho;refine⟨.ref _,_,(I.drew j).laid (a:=h1.objs.size) (h':=h') (t':=h) (o:=.lst (AI.map V.str)) (λb o q=>kp b o (d b o q)) c ?_,rfl,q _ (I.AH.fresh c)⟩;refine⟨?_,out.toList,e,WH i,by simpa[seqObj]using g⟩
 rw[AK];exact Bi (Oj MP) (by decide+kernel)
def Y9(K:ZJa):List V->Hp->VK->Prop:=λxs H Q=>∃(p:Addr)(tp:Bool)(ss:List Str),xs=[.ref p]/\Ft K tp H p (ss.map V.str)/\ss.length<64/\∀l AI,H l=none->AI.Perm ss->sortedS AI=true->Q (.ref l) (upd H l (.lst (AI.map V.str)))
theorem SO:DQ X (.builtin "sorted") (Y9 X.K):=by
 intro ZA s Z H xs us Q I r h;obtain⟨p,tp,ss,rfl,d,MP,q⟩:=h;obtain⟨u,rfl,i⟩:=vals1 r;cases i;have key:∀A5:List Value,Vals (ss.map V.str) A5->(∀(A1:Around)(E1:Value->Shared->Prop)(Q1:List Value->Shared->Prop),Q1 A5 { s with heap:=(s.heap.push (seqObj "list" #[] 0)).update s.heap.objs.size (Obj.mapSeq (·++A5.toArray)) }->wpAny (model X.prog X.w) A1 (collect (.ref p)) Q1 E1 s)->
   Zq2 X (call (.builtin "sorted") [.ref p]) (EP X ZA Z Q) X.xe s:=by
  intro A5 c ZAM;have a:=c.length;rw[AK]at a;refine ZHH (Pc:=λvs s1=>vs=A5/\s1={ s with heap:=(s.heap.push (seqObj "list" #[] 0)).update s.heap.objs.size (Obj.mapSeq (·++A5.toArray)) }) (λA1 E1 Q1 _ k=>ZAM A1 E1 Q1 (k _ _ ⟨rfl,rfl⟩)) ?_
  rintro vs s1⟨rfl,rfl⟩;refine⟨by omega,ss,de c,λout AI e h' kp t v f m=>?_⟩;refine uo (s1:={ s with heap:=(s.heap.push (seqObj "list" #[] 0)).update s.heap.objs.size (Obj.mapSeq (·++vs.toArray)) }) I rfl rfl (λb o g=>?_) (by show s.heap.objs.size<=((s.heap.push (seqObj "list" #[] 0)).update s.heap.objs.size (Obj.mapSeq (·++vs.toArray))).objs.size;rw[oa,HJ];exact G6 _) kp t v (by rw[f.length_eq];exact MP) λl n=>q l AI n f m
  show((s.heap.push _).update _ _).get? b=some o;rw[Heap.get?_update_ne _ _ _ _ (Br (BE g))];exact Bf _ g
 cases tp with
 |false=>
  obtain⟨A5,c,pl,j⟩:=I.list d;have a:=c.length;exact key A5 c λA1 E1 Q1 k=>collect_list pl.isList k (by omega)
 |true=>
  obtain⟨A5,c,pl,j⟩:=I.tuple d;have a:=c.length;exact key A5 c λA1 E1 Q1 k=>xZ pl k (by omega)
end L2
namespace MA
noncomputable def QB:Nat->Nat->List Nat
 | 0,n=>[97+n]
 |k+1,n=>if n<26 then[97+n]else(97+n % 26)::QB k (n / 26)
theorem Mf:∀(k:Nat){n:Nat},n<26->QB k n=[97+n]
 | 0,_,_=>rfl
 |_+1,_,h=>tX h
theorem oJ:∀(k j n:Nat),n<=k->n<=j->QB k n=QB j n
 | 0,j,n,h,_=>by rw[Mf 0 (Io h (by decide)),Mf j (Io h (by decide))]
 |k+1,0,n,_,h=>by rw[Mf (k+1) (Io h (by decide)),Mf 0 (Io h (by decide))]
 |k+1,j+1,n,h1,h2=>by
  by_cases c:n<26
  .rw[Mf _ c,Mf _ c]
  .have d:n / 26<n:=Nat.div_lt_self (Dn (by decide) (ZIU c)) (by decide);show(if n<26 then _ else _)=(if n<26 then _ else _)
   rw[qg c,qg c,oJ k j (n / 26) (p5 (Dn d h1)) (p5 (Dn d h2))]
def lets(n:Nat):List Nat:=QB n n
noncomputable def vals:List Nat->Nat
 | []=>0
 |c::r=>(c - 97)+26 * vals r
theorem NO{n:Nat}(h:n<26):lets n=[97+n]:=Mf n h
theorem Ou{n:Nat}(h:¬ n<26):lets n=(97+n % 26)::lets (n / 26):=by
 cases n with
 |zero=>exact absurd (by decide) h
 |succ k=>
  have d:(k+1) / 26<k+1:=Nat.div_lt_self (Nat.succ_pos k) (by decide);show(if k+1<26 then _ else _)=_
  rw[qg h,oJ k ((k+1) / 26) ((k+1) / 26) (p5 d) (B4 _)];rfl
theorem lG:∀n,vals (lets n)=n:=by
 intro n
 induction n using Nat.strongRecOn with
 |_ n a=>
  by_cases h:n<26
  .rw[NO h];simp[vals]
  .rw[Ou h];have:=a (n / 26) (by omega);simp only[vals,this];omega
theorem ZBP{a b:Nat}(h:lets a=lets b):a=b:=by rw[<- lG a,h,lG]
theorem WS(n:Nat):1<=(lets n).length:=by
 by_cases h:n<26
 .rw[NO h];simp
 .rw[Ou h];simp
theorem UE:∀(k n:Nat),n<26 ^ (k+1)->(lets n).length<=k+1
 | 0,n,h=>by rw[NO (by simpa using h)];simp
 |k+1,n,h=>by
  by_cases h1:n<26
  .rw[NO h1];simp
  .rw[Ou h1];have:=UE k (n / 26) (by rw[Nat.pow_succ]at h;exact Nat.div_lt_of_lt_mul (by rw[Nat.mul_comm];exact h));simp only[Ck];omega
theorem r6:∀n,∀c∈lets n,97<=c/\c<=122:=by
 intro n
 induction n using Nat.strongRecOn with
 |_ n b=>
  by_cases h:n<26
  .rw[NO h];intro c a;simp at a;omega
  .rw[Ou h];intro c a;rcases List.mem_cons.mp a with e|e
   .omega
   .exact b (n / 26) (by omega) c e
theorem jb{α:Type}[DecidableEq α]:∀(k:Nat)(f:Nat->α)(l:List α),(∀i j,i<k->j<k->f i=f j->i=j)->(∀i,i<k->f i∈l)->k<=l.length
 | 0,_,_,_,_=>Ct _
 |k+1,f,l,hi,hm=>by
  have h1:=hm k (cu k);have:=jb k f (l.erase (f k)) (λi j a b e=>hi i j (by omega) (by omega) e) (λi a=>by
   have c:f i≠f k:=λe=>by have:=hi i k (by omega) (by omega) e;omega
   exact(ZIQ c).mpr (hm i (by omega)))
  rw[ZIL h1]at this;have d:=ZIM h1;omega
end MA
namespace Lw
open L2
variable{a l p:Addr}{H H' H2:Hp}{xs:List V}{o:HO}{α:Type}{hi i m n:Nat}{ns ss:List Str}{x y z:Str}{j r:Int}{A B c:Prop}
def CG(H:Hp)(p:Addr):Prop:=∃a b:Int,H p=some (.lst [.int a,.int b])/\0<=a/\a<10 ^ 256/\0<=b/\b<2147483647
structure Bp (p:Addr) (H H':Hp):Prop where
 AS:CG H' p
 same:Hw p H H'
theorem Bp.trans{H1:Hp}(a:Bp p H H1)(b:Bp p H1 H2):Bp p H H2:=⟨b.AS,a.same.trans b.same⟩
theorem Bp.of(h:CG H p)(s:AD H H'):Bp p H H':=by
 obtain⟨a,b,e,r⟩:=h;exact⟨⟨a,b,s _ _ e,r⟩,Hw.of s⟩
theorem Bp.Qt{K:ZJa}(s:Bp p H H')(h:Ab K H a xs)(Bd:a≠p):Ab K H' a xs:=by
 rcases h with(h|⟨o,h⟩)|h
 .exact .inl (.inl (s.same _ _ Bd h))
 .exact .inl (.inr ⟨o,s.same _ _ Bd h⟩)
 .exact .inr h
theorem Bp.at'(s:Bp p H H')(h:H a=some o)(Bd:a≠p):H' a=some o:=s.same _ _ Bd h
theorem Nj{a:Int}(c:-(10 ^ 20)<a)(h1:a<10 ^ 20):a.natAbs<2 ^ 1000:=by
 have b:a.natAbs<10 ^ 20:=by omega
 exact p9 b (by decide+kernel)
def TJ(K:ZJa):Sp:=λvs H Q _=>∃(a:Addr)(ns:List Int)(k:Int),vs=[.ref a,.int k]/\Ab K H a (ns.map V.int)/\0<=k/\k<=1000/\∀p H',H p=none->AD H H'->CG H' p->Q (.ref p) H'
def JU:Sp:=λvs H Q _=>∃(p:Addr)(m:Int),vs=[.ref p,.int m]/\CG H p/\0<m/\m<10 ^ 18/\∀r H',0<=r->r<m->Bp p H H'->Q (.int r) H'
noncomputable def DU(l:List Nat):Str:=⟨l.toArray⟩
def gq:Sp:=λvs H Q _=>∃r:Int,vs=[.int r]/\0<=r/\r<26 ^ 8/\∀H',AD H H'->Q (.str (DU (MA.lets r.toNat))) H'
theorem Pk{xs:List α}{k:Int}{v:α}(b:0<=k)(h:xs[k.toNat]?=some v):Bt xs k=some v:=by
 have a:k=((k.toNat:Nat):Int):=by omega
 have q:=Kq h;rw[<- a]at q;exact q
noncomputable abbrev J8:Str:="abcdefghijklmnopqrstuvwxyz"
theorem pR:∀j,j<26->J8.cps.toList[j]?=some (97+j):=by decide+kernel
theorem lu{k:Int}(a:0<=k)(h1:k<26):Bt J8.cps.toList k=some (97+k.toNat):=Pk a (pR _ (by omega))
theorem mS(l:List Nat)(c:Nat):DU l++(⟨#[c]⟩:Str)=DU (l++[c]):=by
 show(⟨l.toArray++#[c]⟩:Str)=⟨(l++[c]).toArray⟩;simp
theorem Rm(l:List Nat):(DU l).length=l.length:=by simp[DU,Str.length]
theorem fq{l:List Nat}:(V.str (DU l)=V.str (Str.ofString ""))↔l=[]:=by
 constructor
 .intro h;injection h with h
  have h2:=vB (λx=>x.cps.toList) h;have e:(Str.ofString "").cps.toList=[]:=by decide+kernel
  rw[e]at h2
  simpa[DU]using h2
 .rintro rfl;rfl
theorem small(h:n<=100000):n<=sizeLine:=Bi h (by decide+kernel)
theorem o8{k:Nat}{pre:List Nat}(h:pre++MA.lets k=MA.lets n):(0<k / 26->(pre++[97+k % 26])++MA.lets (k / 26)=MA.lets n)/\(k / 26=0->pre++[97+k % 26]=MA.lets n):=by
 constructor
 .intro h1;rw[MA.Ou (by omega)]at h;rw[<- h,C5];rfl
 .intro h1;have h2:k<26:=by omega
  rw[MA.NO h2]at h;rw[<- h,Nat.mod_eq_of_lt h2]
def Nm(x:Str):Prop:=1<=x.length/\x.length<=8/\∀c∈x.cps.toList,97<=c/\c<=122
instance (x:Str):Decidable (Nm x):=by unfold Nm;exact inferInstance
theorem Ib(x:Str):x.length=x.cps.toList.length:=by simp[Str.length]
theorem Yp(h:n<26 ^ 8):Nm (DU (MA.lets n)):=by
 refine⟨by rw[Rm];exact MA.WS n,by rw[Rm];exact MA.UE 7 n h,λc a=>MA.r6 n c (by simpa[DU]using a)⟩
noncomputable def menu:List Str:=["put","take","none","ahead","all","over","next","a","ab","abc","abcdefgh","b","step"]
theorem sk:∀x∈menu,Nm x:=by decide+kernel
noncomputable def SN:List V:=[.str "put",.str "take",.str "none",.str "ahead",.str "all",.str "over",.str "next",.str "a",.str "ab",.str "abc",.str "abcdefgh",.str "b",.str "step"]
theorem ZCb{i:Int}(a:0<=i)(h1:i<13):∃x,Bt SN i=some (.str x)/\Nm x:=by
 have b:menu.length=13:=rfl;have hi:i.toNat<menu.length:=by omega
 have e:SN=menu.map V.str:=rfl;refine⟨menu[i.toNat],Pk a ?_,sk _ (Mn hi)⟩;rw[e,Bb,BK hi];rfl
theorem aU{i:Int}(a:0<=i)(h1:i<ns.length):∃x,Bt (ns.map V.str) i=some (.str x)/\x∈ns/\ns[i.toNat]?=some x:=by
 have hi:i.toNat<ns.length:=by omega
 exact⟨ns[i.toNat],Pk a (by rw[Bb,BK hi];rfl),Mn hi,BK hi⟩
theorem K2(ns:List Str):(ns.map V.str).all DR=true:=by
 rw[Im];intro x hx;obtain⟨y,_,rfl⟩:=List.mem_map.mp hx;rfl
theorem SV(x:Str)(ns:List Str):HE (.str x) (ns.map V.str)=decide (x∈ns):=by
 unfold HE;rw[Ob,List.any_eq_true,ZAj];constructor
 .rintro⟨v,b,h⟩;obtain⟨y,a,rfl⟩:=List.mem_map.mp b;have h':(y == x)=true:=h;have:y=x:=by simpa using h'
  rw[<- this];exact a
 .intro h;exact⟨.str x,List.mem_map.mpr ⟨x,h,rfl⟩,by show(x == x)=true;simp⟩
theorem Zg(xs:List V):Hf xs []=decide (xs=[]):=by
 cases xs with
 |nil=>rfl
 |cons x r=>rw[NZ (by simp)];simp
theorem u3(h:x.cps.toList=y.cps.toList):x=y:=by
 cases x;cases y;simp only[Str.mk.injEq];exact Array.toList_inj.mp h
theorem xS(z:Str){a b:Nat}{lo hi:Option Int}(EV:a<=b)(c:b<=z.length)(e:Builtin.Str.strSliceIndices lo hi 1 z.length=Builtin.Str.strSliceIndices (some (a:Int)) (some (b:Int)) 1 z.length):
  (Txt.slice z lo hi).cps.toList=(z.cps.toList.drop a).take (b - a):=by
 have q:=StrLaws.sliced_plain z EV c;rw[<- e]at q;unfold Txt.slice;split
 .rename_i h;have d:(Builtin.Str.strSliceIndices lo hi 1 z.length).length=z.length:=by simpa using h
  rw[e,StrLaws.strSliceIndices_plain EV c,AK,List.length_range]at d;have h1:a=0:=by omega
  have h2:b=z.length:=by omega
  subst h1;subst h2;rw[cT,cy,Ib,Mo]
 .rw[<- q]
theorem ZGs(h:0<=j):max (0:Int) (min j (n:Int))=max 0 (min ((min j.toNat n:Nat):Int) (n:Int)):=by
 have e:((min j.toNat n:Nat):Int)=min j n:=by
  rcases RG j.toNat n with c|c
  .rw[KD c,og h,Int.min_eq_left (by have:=Int.ofNat_le.mpr c;rw[og h]at this;exact this)]
  .rw[RH c,Int.min_eq_right (by have:=Int.ofNat_le.mpr c;rw[og h]at this;exact this)]
 rw[e,Int.min_assoc,Int.min_self]
theorem ra(z:Str)(h:0<=j):(Txt.slice z none (some j)).cps.toList=z.cps.toList.take j.toNat:=by
 have e:=xS z (a:=0) (b:=min j.toNat z.length) (lo:=none) (hi:=some j) (Ct _) (ZIV _ _) (by
  have h1:¬ j<0:=by omega
  have h2:¬ (((min j.toNat z.length:Nat):Int)<0):=Int.not_lt.mpr (ZI8 _);have c:max (0:Int) (min j (z.length:Int))=max 0 (min ((min j.toNat z.length:Nat):Int) (z.length:Int)):=ZGs h;simp only[Builtin.Str.strSliceIndices,h1,h2,ZBE,c];rfl)
 rw[e,cT,cy];rcases RG j.toNat z.length with h1|h1
 .rw[KD h1]
 .rw[RH h1,Ib,Mo,RF (by rw[<- Ib];exact h1)]
theorem kj(h:1<=j)(d:j<=8)(b:1<=z.length)(a:∀c∈z.cps.toList,97<=c/\c<=122):Nm (Txt.slice z none (some j)):=by
 have e:=ra z (j:=j) (by omega);refine⟨?_,?_,λc Mi=>a c ?_⟩
 .rw[Ib,e,DM,<- Ib];omega
 .rw[Ib,e,DM];omega
 .rw[e]at Mi;exact cj Mi
theorem jj(x y:Str):(x++y).cps.toList=x.cps.toList++y.cps.toList:=by
 show(x.cps++y.cps).toList=_;simp
theorem gk(x y:Str):(x++y).length=x.length+y.length:=by rw[Ib,jj,CP,<- Ib,<- Ib]
def MR(K:ZJa):Sp:=λvs H Q _=>∃(p q:Addr)(ns:List Str),vs=[.ref p,.ref q]/\CG H p/\H q=some (.lst (ns.map V.str))/\q≠p/\(∀x∈ns,Nm x)/\ns.length<=1000/\∀x H',Nm x->x∉ns->Bp p H H'->Q (.str x) H'
theorem ZGh{k:Nat}(h:∀j,j<k->DU (MA.lets j)∈ns):k<=ns.length:=
 MA.jb k (λj=>DU (MA.lets j)) ns (λi j _ _ e=>MA.ZBP (by
  have:=vB (λx=>x.cps.toList) e
  simpa[DU]using this)) h
theorem uV:1000<26 ^ 8:=by decide+kernel
theorem ZC0:(1000:Int)<26 ^ 8:=by decide+kernel
theorem ZGn:(26:Int) ^ (8:Int).toNat - 26<26 ^ 8:=by decide+kernel
theorem ZCi:(26:Int)<26 ^ 8:=by decide+kernel
theorem ZBR:(0:Int)<26 ^ (8:Int).toNat - 26:=by decide+kernel
theorem yp:(26:Int) ^ (8:Int).toNat - 26<10 ^ 18:=by decide+kernel
theorem oG(a:0<=r)(h:r<26 ^ 8):r.toNat<26 ^ 8:=by omega
theorem Bp.upd(s:Bp p H H2)(h:H l=none)(Bd:l≠p):Bp p H (upd H2 l o):=by
 obtain⟨a,b,e,r⟩:=s.AS;refine⟨⟨a,b,by rw[Aa (BU Bd)];exact e,r⟩,λc u d q=>?_⟩;rw[Aa (Dg q h)];exact s.same c u d q
theorem Bp.none(s:Bp p H H2)(h:H2 l=none):H l=none:=by
 cases q:H l with
 |none=>rfl
 |some o=>
  by_cases e:l=p
  .obtain⟨a,b,c,_⟩:=s.AS;rw[<- e,h]at c;cases c
  .rw[s.same l o e q]at h;cases h
theorem CG.ne(h:CG H p)(a:H l=none):l≠p:=by
 obtain⟨_,_,e,_⟩:=h;exact(Dg e a).symm
theorem AD.none(s:AD H H2)(h:H2 l=none):H l=none:=by
 cases q:H l with
 |none=>rfl
 |some o=>rw[s l o q]at h;cases h
def lI:Sp:=λvs H Q _=>∃(p:Addr)(m:Int),vs=[.ref p,.int m]/\CG H p/\0<=m/\m<=100/\
 ∀l H'(ns:List Str),H l=none->Bp p H H'->H' l=some (.lst (ns.map V.str))->(ns.length:Int)=m->(∀x∈ns,Nm x)->ns.Nodup->Q (.ref l) H'
def Zb:Sp:=λvs H Q _=>∃(p:Addr)(m:Int),vs=[.ref p,.int m]/\CG H p/\1<=m/\m<=100/\
 ∀l H'(ns:List Str),H l=none->Bp p H H'->H' l=some (.lst (ns.map V.str))->(ns.length:Int)<=m->(∀x∈ns,Nm x)->ns.Nodup->Q (.ref l) H'
theorem Sj{l:List α}{x:α}(h:l.Nodup)(hx:x∉l):(l++[x]).Nodup:=by
 rw[Cz];exact⟨h,by simp,λa d b c=>by
  have:b=x:=by simpa using c
  subst this;rintro rfl;exact hx d⟩
theorem zk{m:Int}(b:0<=j)(h1:j<3)(a:1<=m):∃k:Int,Bt [V.int 0,V.int 1,V.int m] j=some (.int k)/\0<=k/\k<=m:=by
 have:j=0∨j=1∨j=2:=by omega
 rcases this with rfl|rfl|rfl
 .exact⟨0,rfl,by omega,by omega⟩
 .exact⟨1,rfl,by omega,by omega⟩
 .exact⟨m,rfl,by omega,by omega⟩
noncomputable def Lu(c:Nat):Bool:=!(Builtin.Str.occurrences J8 ⟨#[c]⟩ 0 J8.length 1).isEmpty
def isNm(x:Str):Bool:=decide ((1:Int)<=x.length) && (decide ((x.length:Int)<=8) && x.cps.toList.all Lu)
def MS:Sp:=λvs H Q _=>∃x:Str,vs=[.str x]/\x.length<=1000/\∀H',AD H H'->Q (.bl (isNm x)) H'
theorem ZG8(l:List α):l.filter (λ_=>true)=l:=List.filter_eq_self.mpr λ_ _=>rfl
noncomputable def Z6:V->V
 | .str y=>.bl (!(Builtin.Str.occurrences J8 y 0 J8.length 1).isEmpty)
 |_=>.bl false
theorem dR(x:Str):((He x).filter (λ_=>true)).map Z6=(x.cps.toList.map Lu).map V.bl:=by
 unfold He;rw[ZG8,Oh,Oh];rfl
theorem signs_get{v:V}(h:(He x)[i]?=some v):∃c,v=.str ⟨#[c]⟩:=by
 unfold He at h;rw[Bb]at h;cases q:x.cps.toList[i]? with
 |none=>rw[q]at h;cases h
 |some c=>rw[q]at h;simp at h;exact⟨c,h.symm⟩
theorem all_map(f:α->Bool)(l:List α):(l.map f).all id=l.all f:=by rw[List.all_map];rfl
theorem Ln{v:V}(h:(ss.map V.str)[i]?=some v):∃x,v=.str x/\x∈ss:=by
 rw[Bb]at h;cases q:ss[i]? with
 |none=>rw[q]at h;cases h
 |some x=>rw[q]at h;simp at h;exact⟨x,h.symm,EL q⟩
theorem ZAQ(xs:List Str):Hf (xs.map V.str) (xs.map V.str)=true:=by
 rw[OU rfl,Im];intro j a;have b:j<xs.length:=by simpa using a
 have e:(xs.map V.str)[j]?=some (.str xs[j]):=by rw[Bb,BK b];rfl
 rw[Py e];show(xs[j] == xs[j])=true;simp
theorem vn(K:ZJa)(t:String):PySem.W.kitOne K (.type t) (.type t)=some true:=by
 unfold PySem.W.kitOne;rw[tX (by simp)]
def PU(K:ZJa):Sp:=λvs H Q _=>∃(a:Addr)(ns:List Int),vs=[.ref a]/\Ab K H a (ns.map V.int)/\ns.length<=63/\∀H',Q (.bl true) H'
inductive Ak where
 |put (x:Str) (i:Nat)|take (x:Str)|move (x:Str) (i:Nat)|turn (lo hi:Nat)
noncomputable def Ak.vals:Ak->List V
 | .put x i=>[.str "put",.str x,.int i]
 | .take x=>[.str "take",.str x]
 | .move x i=>[.str "move",.str x,.int i]
 | .turn lo hi=>[.str "turn",.int lo,.int hi]
def Ak.Ok(m:Nat)(ns:List Str):Ak->Prop
 | .put x i=>Nm x/\x∉ns/\i<=ns.length/\ns.length<m
 | .take x=>x∈ns
 | .move x i=>x∈ns/\i<ns.length
 | .turn lo hi=>lo<=hi/\hi<=ns.length
noncomputable def ins(ns:List Str)(x:Str)(i:Nat):List Str:=ns.take i++x::ns.drop i
def wo(ns:List Str)(x:Str):List Str:=ns.filter λy=>!decide (y=x)
noncomputable def GN(ns:List Str)(lo hi:Nat):List Str:=ns.take lo++((ns.drop lo).take (hi - lo)).reverse++ns.drop hi
def Ak.done(ns:List Str):Ak->List Str
 | .put x i=>ins ns x i
 | .take x=>wo ns x
 | .move x i=>ins (wo ns x) x i
 | .turn lo hi=>GN ns lo hi
theorem Sz(h:x∉ns):wo ns x=ns:=by
 unfold wo;rw[ZII];intro y a;have:y≠x:=λe=>h (e▸a);simp[this]
theorem LN:y∈wo ns x↔y∈ns/\y≠x:=by
 unfold wo;rw[p4];simp
theorem j5(h:ns.Nodup):(wo ns x).Nodup:=h.filter _
theorem ZCp(as bs:List Str)(x:Str):wo (as++bs) x=wo as x++wo bs x:=by unfold wo;rw[cV]
theorem ZG5(bs:List Str)(x:Str):wo (x::bs) x=wo bs x:=by unfold wo;rw[cW];simp
theorem Xa(h:x∈ns):ns=ns.take (ns.idxOf x)++x::ns.drop (ns.idxOf x+1):=by
 have a:ns.idxOf x<ns.length:=List.idxOf_lt_length_iff.mpr h;have e:ns[ns.idxOf x]=x:=cX a
 conv=>lhs;rw[<- LR (ns.idxOf x) ns,oh a,e]
theorem uU(h:x∈ns):x∉ns.take (ns.idxOf x):=by
 intro a;obtain⟨m,J9,e⟩:=List.mem_iff_getElem.mp a;rw[DM]at J9;rw[List.getElem_take]at e;exact c7 x ns m (by omega) (by omega) e
theorem ql(h:x∈ns)(nd:ns.Nodup):x∉ns.drop (ns.idxOf x+1):=by
 rw[Xa h]at nd;have h2:=(List.nodup_append.mp nd).2.1;exact(List.nodup_cons.mp h2).1
theorem ZEC(h:x∈ns)(nd:ns.Nodup):wo ns x=ns.take (ns.idxOf x)++ns.drop (ns.idxOf x+1):=by
 conv=>lhs;rw[Xa h]
 rw[ZCp,ZG5,Sz (uU h),Sz (ql h nd)]
theorem Q0(h:x∈ns)(nd:ns.Nodup):(wo ns x).length+1=ns.length:=by
 have a:ns.idxOf x<ns.length:=List.idxOf_lt_length_iff.mpr h;rw[ZEC h nd,CP,DM,HK];omega
theorem Ui:(ins ns x i).length=ns.length+1:=by
 unfold ins;rw[CP,Ck,DM,HK];omega
theorem Uv:y∈ins ns x i↔y=x∨y∈ns:=by
 unfold ins;rw[JR,GY];have:y∈ns↔y∈ns.take i∨y∈ns.drop i:=by rw[<- JR,LR]
 rw[this];constructor
 .rintro(h|h|h)
  .exact .inr (.inl h)
  .exact .inl h
  .exact .inr (.inr h)
 .rintro(h|h|h)
  .exact .inr (.inl h)
  .exact .inl h
  .exact .inr (.inr h)
theorem Vy(h:ns.Nodup)(hx:x∉ns):(ins ns x i).Nodup:=by
 unfold ins;have e:(ns.take i++ns.drop i).Nodup:=by rw[LR];exact h
 obtain⟨h1,h2,f⟩:=List.nodup_append.mp e;rw[Cz];refine⟨h1,List.nodup_cons.mpr ⟨λz=>hx (ZIR z),h2⟩,λa c b d=>?_⟩;rcases List.mem_cons.mp d with z|z
 .rw[z];rintro rfl;exact hx (cj c)
 .exact f a c b z
theorem dh{lo:Nat}(h1:lo<=hi)(h2:hi<=ns.length):(GN ns lo hi).length=ns.length:=by
 unfold GN;rw[CP,CP,cg,DM,DM,HK,HK];omega
theorem nH{lo:Nat}(h1:lo<=hi):ns=ns.take lo++(ns.drop lo).take (hi - lo)++ns.drop hi:=by
 have:ns.drop hi=(ns.drop lo).drop (hi - lo):=by rw[List.drop_drop];congr 1;omega
 rw[this,C5,LR,LR]
theorem kd{lo:Nat}(h1:lo<=hi):y∈GN ns lo hi↔y∈ns:=by
 conv=>rhs;rw[nH (ns:=ns) h1]
 unfold GN;simp only[JR,List.mem_reverse]
theorem vf{lo:Nat}(h1:lo<=hi)(nd:ns.Nodup):(GN ns lo hi).Nodup:=by
 have p:List.Perm (GN ns lo hi) ns:=by
  conv=>rhs;rw[nH (ns:=ns) h1]
  unfold GN;exact((List.reverse_perm _).append_left _).append_right _
 exact p.nodup_iff.mpr nd
theorem Ak.step{d:Ak}(h:d.Ok m ns)(nd:ns.Nodup)(b:∀x∈ns,Nm x)(c:ns.length<=m):
  (d.done ns).Nodup/\(∀x∈d.done ns,Nm x)/\(d.done ns).length<=m:=by
 cases d with
 |put x i=>
  obtain⟨h1,h2,g,f⟩:=h;refine⟨Vy nd h2,λy a=>?_,?_⟩
  .rcases Uv.mp a with e|e
   .rw[e];exact h1
   .exact b y e
  .show(ins ns x i).length<=m;rw[Ui];omega
 |take x=>
  refine⟨j5 nd,λy a=>b y (LN.mp a).1,?_⟩;have:=Q0 h nd;show(wo ns x).length<=m;omega
 |move x i=>
  obtain⟨h1,h2⟩:=h;refine⟨Vy (j5 nd) (λz=>(LN.mp z).2 rfl),λy a=>?_,?_⟩
  .rcases Uv.mp a with e|e
   .rw[e];exact b x h1
   .exact b y (LN.mp e).1
  .have:=Q0 h1 nd;show(ins (wo ns x) x i).length<=m;rw[Ui];omega
 |turn lo hi=>
  obtain⟨h1,h2⟩:=h;exact⟨vf h1 nd,λy a=>b y ((kd h1).mp a),by show(GN ns lo hi).length<=m;rw[dh h1 h2];exact c⟩
theorem mP(xs:List V)(i:Nat):Cq xs none (some (i:Int))=xs.take i:=by
 unfold Cq;rw[HT.Uz,HT.LP,cT,cy];rcases RG i xs.length with h|h
 .rw[KD h]
 .rw[RH h,Mo,RF h]
theorem gS(xs:List V)(i:Nat):Cq xs (some (i:Int)) none=xs.drop i:=by
 unfold Cq;rw[HT.Uz,HT.LP];rcases RG i xs.length with h|h
 .rw[KD h,RF (by rw[HK];omega)]
 .rw[RH h,pA,List.take_zero,ZIF h]
theorem ZGU(xs:List V){j:Nat}(hi:i<=j)(a:j<=xs.length):Cq xs (some (i:Int)) (some (j:Int))=(xs.drop i).take (j - i):=by
 unfold Cq;rw[HT.LP,HT.LP,KD a,KD (Bi hi a)]
noncomputable def IM(tp:Bool)(xs:List V):HO:=match tp with
 |false=>.lst xs
 |true=>.tup xs
theorem IM.sq{K:ZJa}{tp:Bool}(h:H a=some (IM tp xs)):Ft K tp H a xs:=by
 cases tp
 .exact Ab.of h
 .exact AW.of h
def wI(H:Hp)(Q:VK)(ns:List Str):Prop:=∀l H',H l=none->AD H H'->H' l=some (.lst (ns.map V.str))->Q (.ref l) H'
def WU:Sp:=λvs H Q _=>∃(a t:Addr)(ns:List Str)(d:Ak),vs=[.ref a,.ref t]/\H a=some (.lst (ns.map V.str))/\H t=some (.tup d.vals)/\d.Ok 40 ns/\ns.length<=40/\ns.Nodup/\wI H Q (d.done ns)
theorem XT[Decidable c](h:c)(a:A):if c then A else B:=by rw[tX h];exact a
theorem B1[Decidable c](h:¬ c)(b:B):if c then A else B:=by rw[qg h];exact b
theorem tU:∀j,j<26->Lu (97+j)=true:=by decide+kernel
theorem ZAD(h:Nm x):isNm x=true:=by
 obtain⟨h1,h2,f⟩:=h;unfold isNm;rw[pX (by omega),pX (by omega),cP,cP,Im];intro c d;obtain⟨a,b⟩:=f c d;have:=tU (c - 97) (by omega);have e:97+(c - 97)=c:=by omega
 rw[e]at this;exact this
theorem Ea(ns:List Str):(ns.map V.str).length=ns.length:=AK _
noncomputable def JP(y:V):V->Bool:=λv=>!decide (v=y)
theorem PF(ns:List Str)(x:Str):((ns.map V.str).filter (JP (.str x))).map (λv=>v)=(wo ns x).map V.str:=by
 unfold wo JP;rw[oz,oo]
 congr 1
 apply ZIH;intro y _;simp
theorem rf(ns:List Str)(i:Int):((ns.map V.str).filter (JP (.int i))).map (λv=>v)=ns.map V.str:=by
 unfold JP;rw[oz,ZII];intro v a;obtain⟨y,_,rfl⟩:=List.mem_map.mp a;rfl
theorem eX(s:AD H H')(h:H l=none):AD H (upd H' l o):=λb u q=>by rw[Aa (Dg q h)];exact s b u q
theorem ZAa(K:ZJa):PySem.W.kitOne K (.type "int") (.type "bool")=some false:=by
 unfold PySem.W.kitOne;rw[qg (by decide)];with_unfolding_all rfl
end Lw
namespace Fz
open L2 Lw
variable{F F' H H':Hp}{v:V}{Ca vs:List V}{i i0 j:Nat}{t:TA}{a l:Addr}{r:List V->Hp->VK->Prop}{Z τ:L2.St}{o:HO}{ta tb tc te:TE}{b neg tp:Bool}{A:List Addr}{α:Type}{Q:VK}{f:Int->Int->Int}{g:TG}{u:TS}{n:String}{th tl:TO}{X:XK}{wi:TI}
inductive PV where
 |A9|bl (b:Bool)|int (i:Int)|str (x:Str)|lst (xs:List PV)|tup (xs:List PV)
 |B2 (ks:List Key) (xs:List PV)|obj (C:Addr) (ns:List Str) (xs:List PV)|exc (C:Addr) (ns:List Str) (xs:List PV)|con (a:Addr) (xs:List PV)
variable{p:PV}{ps xs:List PV}
noncomputable def IF(a C:Addr)(dx:Option Addr):HO:=.ext λh=>∃ob vs,h.get? a=some ob/\ob.cls=.ref C/\ob.dict=dx/\ob.data=.fields vs
mutual
inductive Rep (F:Hp):V->PV->Prop where
 |A9:Rep F .A9 .A9
 |bl (b:Bool):Rep F (.bl b) (.bl b)
 |int (i:Int):Rep F (.int i) (.int i)
 |str (x:Str):Rep F (.str x) (.str x)
 |lst {a:Addr}{vs:List V}{xs:List PV}:F a=some (.lst vs)->AY F vs xs->Rep F (.ref a) (.lst xs)
 |tup {a:Addr}{vs:List V}{xs:List PV}:F a=some (.tup vs)->AY F vs xs->Rep F (.ref a) (.tup xs)
 |B2 {a:Addr}{ks:List Key}{vs:List V}{xs:List PV}:F a=some (.dK (ks.zip vs))->ks.length=vs.length->AY F vs xs->Rep F (.ref a) (.B2 ks xs)
 |obj {a C dx:Addr}{ns:List Str}{vs:List V}{xs:List PV}:F a=some (.ins C dx (ns.zip vs))->F dx=some (.own a)->ns.length=vs.length->AY F vs xs->Rep F (.ref a) (.obj C ns xs)
 |con {a:Addr}{xs:List PV}:Rep F (.ref a) (.con a xs)
 |N7 {a C:Addr}:F a=some (IF a C none)->Rep F (.ref a) (.exc C [] [])
 |exc {a C dx:Addr}{ns:List Str}{vs:List V}{xs:List PV}:F a=some (IF a C (some dx))->F dx=some (.xd (ns.zip vs))->ns.length=vs.length->AY F vs xs->Rep F (.ref a) (.exc C ns xs)
inductive AY (F:Hp):List V->List PV->Prop where
 |nil:AY F [] []
 |cons {v:V}{p:PV}{vs:List V}{ps:List PV}:Rep F v p->AY F vs ps->AY F (v::vs) (p::ps)
end
theorem Rep.mono(s:AD F F')(r:Rep F v p):Rep F' v p:=
 Rep.rec (motive_1:=λv p _=>Rep F' v p) (motive_2:=λvs ps _=>AY F' vs ps) .A9 .bl .int .str (λh _ i=>.lst (s _ _ h) i) (λh _ i=>.tup (s _ _ h) i) (λh e _ i=>.B2 (s _ _ h) e i) (λh h2 e _ i=>.obj (s _ _ h) (s _ _ h2) e i) .con (λh=>.N7 (s _ _ h)) (λh h2 e _ i=>.exc (s _ _ h) (s _ _ h2) e i) .nil (λ_ _ i k=>.cons i k) r
def zJ(F:Hp)(v:V):PV->Prop
 | .A9=>v=.A9
 | .bl b=>v=.bl b
 | .int i=>v=.int i
 | .str x=>v=.str x
 | .lst xs=>∃a vs,v=.ref a/\F a=some (.lst vs)/\AY F vs xs
 | .tup xs=>∃a vs,v=.ref a/\F a=some (.tup vs)/\AY F vs xs
 | .B2 ks xs=>∃a vs,v=.ref a/\F a=some (.dK (ks.zip vs))/\ks.length=vs.length/\AY F vs xs
 | .obj C ns xs=>∃a dx vs,v=.ref a/\F a=some (.ins C dx (ns.zip vs))/\F dx=some (.own a)/\ns.length=vs.length/\AY F vs xs
 | .con a _=>v=.ref a
 | .exc C ns xs=>(∃a,v=.ref a/\F a=some (IF a C none)/\ns=[]/\xs=[])∨∃a dx vs,v=.ref a/\F a=some (IF a C (some dx))/\F dx=some (.xd (ns.zip vs))/\ns.length=vs.length/\AY F vs xs
theorem Rep.inv(r:Rep F v p):zJ F v p:=by
 cases r with
 |lst h r=>exact⟨_,_,rfl,h,r⟩
 |tup h r=>exact⟨_,_,rfl,h,r⟩
 |B2 h l r=>exact⟨_,_,rfl,h,l,r⟩
 |obj h h2 l r=>exact⟨_,_,_,rfl,h,h2,l,r⟩
 |N7 h=>exact .inl ⟨_,rfl,h,rfl,rfl⟩
 |exc h h2 l r=>exact .inr ⟨_,_,_,rfl,h,h2,l,r⟩
 |_=>exact rfl
theorem AY.inv(r:AY F vs (p::ps)):∃v ws,vs=v::ws/\Rep F v p/\AY F ws ps:=by
 cases r with
 |cons r t=>exact⟨_,_,rfl,r,t⟩
theorem AY.DZ(r:AY F vs []):vs=[]:=by
 cases r;rfl
theorem AY.mono(s:AD F F')(r:AY F vs ps):AY F' vs ps:=by
 induction ps generalizing vs with
 |nil=>cases r.DZ;exact .nil
 |cons p ps c=>obtain⟨v,ws,rfl,a,b⟩:=r.inv;exact .cons (a.mono s) (c b)
theorem AY.length{F:Hp}{vs:List V}{ps:List PV}(r:AY F vs ps):vs.length=ps.length:=by
 induction ps generalizing vs with
 |nil=>cases r.DZ;rfl
 |cons p ps c=>obtain⟨v,ws,rfl,a,b⟩:=r.inv;exact vB (· + 1) (c b)
theorem AY.get{F:Hp}{vs:List V}{ps:List PV}{i:Nat}{p:PV}(r:AY F vs ps)(e:ps[i]?=some p):∃v,vs[i]?=some v/\Rep F v p:=by
 induction ps generalizing vs i with
 |nil=>cases e
 |cons q ps c=>
  obtain⟨v,ws,rfl,a,b⟩:=r.inv;cases i with
  |zero=>cases e;exact⟨_,rfl,a⟩
  |succ i=>exact c (vs:=ws) (i:=i) b e
theorem AY.get'(r:AY F vs ps)(e:vs[i]?=some v):∃p,ps[i]?=some p/\Rep F v p:=by
 induction ps generalizing vs i with
 |nil=>cases r.DZ;cases e
 |cons q ps c=>
  obtain⟨u,ws,rfl,a,b⟩:=r.inv;cases i with
  |zero=>cases e;exact⟨_,rfl,a⟩
  |succ i=>exact c (vs:=ws) (i:=i) b e
theorem AY.append{ws:List V}{c:List PV}(r:AY F vs ps)(s:AY F ws c):AY F (vs++ws) (ps++c):=by
 induction ps generalizing vs with
 |nil=>cases r.DZ;exact s
 |cons p ps d=>obtain⟨v,us,rfl,a,b⟩:=r.inv;exact .cons a (d b)
theorem AY.take(n:Nat)(r:AY F vs ps):AY F (vs.take n) (ps.take n):=by
 induction ps generalizing vs n with
 |nil=>cases r.DZ;rw[List.take_nil,List.take_nil];exact .nil
 |cons p ps c=>
  obtain⟨v,us,rfl,a,b⟩:=r.inv;cases n with
  |zero=>exact .nil
  |succ n=>exact .cons a (c n b)
theorem AY.drop(n:Nat)(r:AY F vs ps):AY F (vs.drop n) (ps.drop n):=by
 induction ps generalizing vs n with
 |nil=>cases r.DZ;rw[List.drop_nil,List.drop_nil];exact .nil
 |cons p ps c=>
  cases n with
  |zero=>exact r
  |succ n=>obtain⟨v,us,rfl,a,b⟩:=r.inv;exact c n b
theorem AY.one(r:Rep F v p):AY F [v] [p]:=.cons r .nil
theorem AY.reverse(r:AY F vs ps):AY F vs.reverse ps.reverse:=by
 induction ps generalizing vs with
 |nil=>cases r.DZ;exact .nil
 |cons p ps c=>obtain⟨v,us,rfl,a,b⟩:=r.inv;rw[cn,cn];exact(c b).append (.one a)
noncomputable def flat:PV->Bool
 | .lst _=>false
 | .tup _=>false
 | .B2 _ _=>false
 | .obj _ _ _=>false
 | .exc _ _ _=>false
 | .con _ _=>false
 |_=>true
noncomputable def enc:PV->V
 | .bl b=>.bl b
 | .int i=>.int i
 | .str x=>.str x
 |_=>.A9
theorem Rep.enc(h:flat p=true)(r:Rep F v p):v=enc p:=by
 cases r <;> first|rfl|cases h
theorem su(h:flat p=true):Rep F (enc p) p:=by
 cases p with
 |A9=>exact .A9
 |bl b=>exact .bl b
 |int i=>exact .int i
 |str x=>exact .str x
 |lst xs=>cases h
 |tup xs=>cases h
 |B2 ks xs=>cases h
 |obj C ns xs=>cases h
 |exc C ns xs=>cases h
 |con a xs=>cases h
theorem AY.enc(h:ps.all flat=true)(r:AY F vs ps):vs=ps.map enc:=by
 induction ps generalizing vs with
 |nil=>exact r.DZ
 |cons p ps c=>
  obtain⟨v,us,rfl,a,b⟩:=r.inv;rw[RA,Dm]at h;rw[CA,<- Rep.enc h.1 a,<- c h.2 b]
theorem oO(h:ps.all flat=true):AY F (ps.map enc) ps:=by
 induction ps with
 |nil=>exact .nil
 |cons p r a=>
  rw[RA,Dm]at h;exact .cons (su h.1) (a h.2)
theorem Uh(h:flat p=true):DR (Fz.enc p)=true:=by cases p <;> first|rfl|cases h
theorem nL(ns:List Str):(ns.map PV.str).all flat=true:=by
 rw[Im];intro x hx;obtain⟨y,_,rfl⟩:=List.mem_map.mp hx;rfl
theorem vp(ns:List Bool):(ns.map PV.bl).all flat=true:=by
 rw[Im];intro x hx;obtain⟨y,_,rfl⟩:=List.mem_map.mp hx;rfl
theorem Xx(ns:List Str):(ns.map PV.str).map Fz.enc=ns.map V.str:=by rw[Oh];rfl
theorem tF(ns:List Bool):(ns.map PV.bl).map Fz.enc=ns.map V.bl:=by rw[Oh];rfl
theorem AY.strs{ns:List Str}(r:AY F vs (ns.map PV.str)):vs=ns.map V.str:=(r.enc (nL ns)).trans (Xx ns)
theorem OJ(ns:List Str):AY F (ns.map V.str) (ns.map PV.str):=by rw[<- Xx];exact oO (nL ns)
theorem AY.zY{ns:List Bool}(r:AY F vs (ns.map PV.bl)):vs=ns.map V.bl:=(r.enc (vp ns)).trans (tF ns)
inductive NK where
 |lst|B2 (ks:List Key)|obj (C dx:Addr) (ns:List Str)|Si (ks:List (List Key))
noncomputable def NK.ho:NK->List V->HO
 | .lst,vs=>.lst vs
 | .B2 ks,vs=>.dK (ks.zip vs)
 | .obj C dx ns,vs=>.ins C dx (ns.zip vs)
 | .Si ks,vs=>.dT (ks.zip vs)
noncomputable def NK.more:NK->List Addr
 | .obj _ dx _=>[dx]
 |_=>[]
def NK.side(k:NK)(a:Addr)(H:Hp):Prop:=match k with
 | .obj _ dx _=>H dx=some (.own a)
 |_=>True
def NK.fit(k:NK)(n:Nat):Prop:=match k with
 | .B2 ks=>ks.length=n
 | .obj _ _ ns=>ns.length=n
 | .Si ks=>ks.length=n
 |_=>True
inductive OV where
 |fz (p:PV)
 |tp (xs:List OV)
 |nd (k:NK) (a:Addr) (xs:List OV)
variable{ts:List OV}
mutual
def OV.addrs:OV->List Addr
 | .fz _=>[]
 | .tp xs=>OV.Ax xs
 | .nd k a xs=>a::(k.more++OV.Ax xs)
def OV.Ax:List OV->List Addr
 | []=>[]
 |x::r=>x.addrs++OV.Ax r
end
mutual
def OV.pv:OV->PV
 | .fz p=>p
 | .tp xs=>.tup (OV.D8 xs)
 | .nd .lst _ xs=>.lst (OV.D8 xs)
 | .nd (.B2 ks) _ xs=>.B2 ks (OV.D8 xs)
 | .nd (.obj C _ ns) _ xs=>.obj C ns (OV.D8 xs)
 | .nd (.Si _) a _=>.con a []
def OV.D8:List OV->List PV
 | []=>[]
 |x::r=>x.pv::OV.D8 r
end
mutual
inductive BL (F H:Hp):V->OV->Prop where
 |fz {v:V}{p:PV}:Rep F v p->BL F H v (.fz p)
 |tp {a:Addr}{vs:List V}{xs:List OV}:F a=some (.tup vs)->BY F H vs xs->BL F H (.ref a) (.tp xs)
 |nd {k:NK}{a:Addr}{vs:List V}{xs:List OV}:H a=some (k.ho vs)->k.side a H->k.fit vs.length->BY F H vs xs->BL F H (.ref a) (.nd k a xs)
inductive BY (F H:Hp):List V->List OV->Prop where
 |nil:BY F H [] []
 |cons {v:V}{t:OV}{vs:List V}{ts:List OV}:BL F H v t->BY F H vs ts->BY F H (v::vs) (t::ts)
end
def uJ(F H:Hp)(v:V):OV->Prop
 | .fz p=>Rep F v p
 | .tp xs=>∃a vs,v=.ref a/\F a=some (.tup vs)/\BY F H vs xs
 | .nd k a xs=>∃vs,v=.ref a/\H a=some (k.ho vs)/\k.side a H/\k.fit vs.length/\BY F H vs xs
theorem BL.inv{t:OV}(r:BL F H v t):uJ F H v t:=by
 cases r with
 |fz r=>exact r
 |tp h r=>exact⟨_,_,rfl,h,r⟩
 |nd h a b r=>exact⟨_,rfl,h,a,b,r⟩
theorem BY.inv{t:OV}(r:BY F H vs (t::ts)):∃v ws,vs=v::ws/\BL F H v t/\BY F H ws ts:=by
 cases r with
 |cons r t=>exact⟨_,_,rfl,r,t⟩
theorem BY.DZ(r:BY F H vs []):vs=[]:=by
 cases r;rfl
theorem OV.Dr{k:NK}{xs:List OV}:(OV.nd k a xs).addrs=a::(k.more++OV.Ax xs):=by rw[OV.addrs]
theorem OV.JL{xs:List OV}:(OV.tp xs).addrs=OV.Ax xs:=by rw[OV.addrs]
theorem OV.Ih:(OV.fz p).addrs=[]:=by rw[OV.addrs]
theorem OV.Cv{x:OV}{r:List OV}:OV.Ax (x::r)=x.addrs++OV.Ax r:=by rw[OV.Ax]
theorem OV.JD:OV.Ax []=[]:=by rw[OV.Ax]
theorem NK.dC{k:NK}(h:k.side a H)(s:∀b∈k.more,∀o,H b=some o->H' b=some o):k.side a H':=by
 cases k with
 |obj C dx ns=>exact s dx (by simp[NK.more]) _ h
 |_=>trivial
theorem BL.mono(f:AD F F'){t:OV}(r:BL F H v t):(∀a∈t.addrs,∀o,H a=some o->H' a=some o)->BL F' H' v t:=
 BL.rec (motive_1:=λv t _=>(∀a∈t.addrs,∀o,H a=some o->H' a=some o)->BL F' H' v t) (motive_2:=λvs ts _=>(∀a∈OV.Ax ts,∀o,H a=some o->H' a=some o)->BY F' H' vs ts)
  (λr _=>.fz (r.mono f))
  (λh _ i s=>.tp (f _ _ h) (i (by rw[OV.JL]at s;exact s)))
  (λh d g _ i s=>by
   rw[OV.Dr]at s;exact .nd (s _ DC _ h) (NK.dC d λb e=>s b (Dd _ (IC _ e))) g (i λa c=>s a (Dd _ (G5 _ c))))
  (λ_=>.nil)
  (λ_ _ i k s=>by
   rw[OV.Cv]at s;exact .cons (i λa c=>s a (IC _ c)) (k λa c=>s a (G5 _ c)))
  r
theorem BY.mono(f:AD F F')(r:BY F H vs ts)(s:∀a∈OV.Ax ts,∀o,H a=some o->H' a=some o):BY F' H' vs ts:=by
 induction ts generalizing vs with
 |nil=>cases r.DZ;exact .nil
 |cons p ps d=>
  obtain⟨v,ws,rfl,a,b⟩:=r.inv;rw[OV.Cv]at s;exact .cons (a.mono f λa c=>s a (IC _ c)) (d b λa c=>s a (G5 _ c))
theorem BL.there{t:OV}(r:BL F H v t):∀a∈t.addrs,H a≠none:=
 BL.rec (motive_1:=λv t _=>∀a∈t.addrs,H a≠none) (motive_2:=λvs ts _=>∀a∈OV.Ax ts,H a≠none)
  (λ_ a c=>by rw[OV.Ih]at c;cases c)
  (λ_ _ i a c=>i a (by rw[OV.JL]at c;exact c))
  (λ{k b vs xs}h d f _ i a c=>by
   rw[OV.Dr,GY,JR]at c;rcases c with rfl|c|c
   .rw[h];exact λz=>by cases z
   .cases k with
    |obj C dx ns=>
     have e:a=dx:=List.mem_singleton.mp c;rw[e,show H dx=some (.own b)from d];exact λz=>by cases z
    |_=>cases c
   .exact i a c)
  (λa c=>by rw[OV.JD]at c;cases c)
  (λ_ _ i k a c=>by
   rw[OV.Cv,JR]at c;exact c.elim (i a) (k a))
  r
theorem BY.there(r:BY F H vs ts):∀a∈OV.Ax ts,H a≠none:=by
 induction ts generalizing vs with
 |nil=>intro a c;rw[OV.JD]at c;cases c
 |cons p ps d=>
  obtain⟨v,ws,rfl,x,b⟩:=r.inv;intro a c;rw[OV.Cv,JR]at c;exact c.elim (x.there a) (d b a)
theorem BY.length{F H:Hp}{vs:List V}{ts:List OV}(r:BY F H vs ts):vs.length=ts.length:=by
 induction ts generalizing vs with
 |nil=>cases r.DZ;rfl
 |cons p ps c=>obtain⟨v,ws,rfl,a,b⟩:=r.inv;exact vB (· + 1) (c b)
inductive Slot where
 |any|is (p:PV)|own (xs:List PV)|AS|sq (tp:Bool) (xs:List PV)|raw (P:Hp->V->Prop)|ow (lt:Bool) (t:OV)
variable{ss:List Slot}{s:Slot}{TY nx:List Slot->Prop}
structure Ent0 where
 A:List Addr
 F0:Hp
 H0:Hp
 B:List Addr
variable{E:Ent0}
noncomputable abbrev E3(A:List Addr)(F H:Hp):Ent0:=⟨A,F,H,[]⟩
def Ok(E:Ent0)(F H:Hp):Slot->Option (Option V)->Prop
 | .any,_=>True
 | .is p,o=>∃v,o=some (some v)/\Rep F v p
 | .own xs,o=>∃l vs,o=some (some (.ref l))/\F l=none/\E.H0 l=none/\H l=some (.lst vs)/\AY F vs xs
 | .AS,o=>∃l,o=some (some (.ref l))/\F l=none/\(E.H0 l=none∨l∈E.A)/\CG H l
 | .sq true xs,o=>∃v,o=some (some v)/\Rep F v (.tup xs)
 | .sq false xs,o=>∃l vs,o=some (some (.ref l))/\(l∉E.A/\l∉E.B)/\E.H0 l=some (.lst vs)/\AY F vs xs
 | .raw P,o=>∃v,o=some (some v)/\P F v/\∀F F',AD F F'->P F v->P F' v
 | .ow lt t,o=>∃v,o=some (some v)/\BL F H v t/\t.addrs.Nodup/\∀a∈t.addrs,F a=none/\(E.H0 a=none∨(lt=true/\a∈E.B))
def Bl:Slot->Option (Option V)->Addr->Prop
 | .own _,o,l=>o=some (some (.ref l))
 | .AS,o,l=>o=some (some (.ref l))
 | .ow _ t,_,l=>l∈t.addrs
 |_,_,_=>False
structure Fin (E:Ent0) (F H:Hp):Prop where
 fh:AD F H
 f0:AD E.F0 F
 keep:∀a o,(a∉E.A/\a∉E.B)->E.H0 a=some o->H a=some o
 fresh:∀a o,F a=some o->E.F0 a=some o∨E.H0 a=none
 HP:∀a,a∈E.A->CG H a
 Ll:∀a,a∈E.A->F a=none
 a0:∀a,a∈E.A->E.H0 a≠none
 bF:∀a,a∈E.B->F a=none
 bH:∀a,a∈E.B->H a≠none
 b0:∀a,a∈E.B->E.H0 a≠none/\a∉E.A
structure Sg (E:Ent0) (ss:List Slot) (Z:L2.St) (F H:Hp):Prop extends Fin E F H where
 len:ss.length=Z.length
 ok:∀(i:Nat)s,ss[i]?=some s->Ok E F H s Z[i]?
 CJ:∀(i j:Nat)s u l,i≠j->ss[i]?=some s->ss[j]?=some u->Bl s Z[i]? l->¬ Bl u Z[j]? l
structure Ex where
 C:Addr
 ns:List Str
 xs:List PV
def Ex.at(x:Ex)(F:Hp)(C:Value)(dx:Option Addr):Prop:=
 C=.ref x.C/\((x.ns=[]/\x.xs=[]/\dx=none)∨∃a vs,dx=some a/\F a=some (.xd (x.ns.zip vs))/\x.ns.length=vs.length/\AY F vs x.xs)
class Xw where
 e:L2.St->XK
 J:List Slot->Prop
 D:Ex->Prop
structure Ent [Xw] extends Ent0 where
 hx:∀(ss:List Slot)(Z:L2.St)(F H:Hp)(x:Ex)(C:Value)(dx:Option Addr),Xw.J ss->Sg toEnt0 ss Z F H->Xw.D x->x.at F C dx->Xw.e Z C dx H
instance [Xw]:CoeOut Ent Ent0:=⟨Ent.toEnt0⟩
noncomputable instance noX:Xw:=⟨λ_=>E0,λ_=>True,λ_=>False⟩
def DI(ss:List Slot)(Z:L2.St)(a:Addr):Prop:=∀i:Nat,ss[i]?=some .AS->Z[i]?≠some (some (.ref a))
structure Mv (E:Ent0) (ss:List Slot) (Z:L2.St) (F H F' H':Hp):Prop where
 st:Sg E ss Z F' H'
 ff:AD F F'
 hh:∀a o,DI ss Z a->H a=some o->H' a=some o
 nn:∀a o,F' a=some o->F a=some o∨H a=none
theorem Sg.P1(S:Sg E ss Z F H)(h:H l=none):DI ss Z l:=λi hi e=>by
 obtain⟨c,b,_,_,_,_,a,_⟩:=S.ok i _ hi;rw[e]at b;cases b;rw[h]at a;cases a
theorem Mv.none(m:Mv E ss Z F H F' H')(h:H' a=none):H a=none:=by
 cases e:H a with
 |none=>rfl
 |some o=>rw[m.hh a o (m.st.P1 h) e]at h;cases h
theorem Mv.refl{E:Ent0}{ss:List Slot}{Z:L2.St}{F H:Hp}(S:Sg E ss Z F H):Mv E ss Z F H F H:=⟨S,AD.refl _,λ_ _ _ e=>e,λ_ _ e=>.inl e⟩
theorem Mv.trans{F1 H1 F2 H2:Hp}(a:Mv E ss Z F H F1 H1)(b:Mv E ss Z F1 H1 F2 H2):Mv E ss Z F H F2 H2:=
 ⟨b.st,a.ff.trans b.ff,λc o n e=>b.hh c o n (a.hh c o n e),λc o e=>(b.nn c o e).elim (λe=>a.nn c o e) λe=>.inr (a.none e)⟩
theorem Sg.Ei(S:Sg E ss Z F H){p:Addr}(h:H p=none):E.H0 p=none:=by
 cases e:E.H0 p with
 |none=>rfl
 |some o=>
  by_cases q:p∈E.A
  .obtain⟨_,_,b,_⟩:=S.HP p q;rw[h]at b;cases b
  .by_cases a:p∈E.B
   .exact absurd h (S.bH p a)
   .rw[S.keep p o ⟨q,a⟩ e]at h;cases h
theorem Sg.CC(S:Sg E ss Z F H){p:Addr}(h:H p=none):F p=none:=AD.none S.fh h
theorem CG.keep(h:CG H l)(k:∀o,H l=some o->H' l=some o):CG H' l:=by
 obtain⟨a,b,e,r⟩:=h;exact⟨a,b,k _ e,r⟩
theorem Sg.iQ(S:Sg E ss Z F H)(h:F l=some o):DI ss Z l:=λi hi e=>by
 obtain⟨c,b,a,_⟩:=S.ok i _ hi;rw[e]at b;cases b;rw[h]at a;cases a
theorem Sg.kW(S:Sg E ss Z F H)(b:l∉E.A)(h:E.H0 l=some o):DI ss Z l:=λi hi e=>by
 obtain⟨c,a,_,q,_⟩:=S.ok i _ hi;rw[e]at a;cases a;rcases q with q|q
 .rw[h]at q;cases q
 .exact b q
theorem Sg.ZAp(S:Sg E ss Z F H)(h:l∈E.B):DI ss Z l:=λi hi e=>by
 obtain⟨d,a,_,q,_⟩:=S.ok i _ hi;rw[e]at a;cases a;obtain⟨c,b⟩:=S.b0 l h;rcases q with q|q
 .exact c q
 .exact b q
theorem Sg.Ez(S:Sg E ss Z F H)(h:ss[i]?=some s)(m:Bl s Z[i]? l):H l≠none:=by
 have k:=S.ok i s h;cases s with
 |own xs=>obtain⟨c,vs,a,_,_,b,_⟩:=k;rw[show Z[i]?=some (some (.ref l))from m]at a;cases a;rw[b];simp
 |AS=>obtain⟨c,a,_,_,_,_,b,_⟩:=k;rw[show Z[i]?=some (some (.ref l))from m]at a;cases a;rw[b];simp
 |ow lt t=>obtain⟨v,_,r,_⟩:=k;exact r.there l m
 |_=>cases m
theorem Sg.ZGK(S:Sg E ss Z F H)(h:ss[i]?=some s)(m:Bl s Z[i]? l):F l=none:=by
 have k:=S.ok i s h;cases s with
 |own xs=>obtain⟨c,vs,a,b,_⟩:=k;rw[show Z[i]?=some (some (.ref l))from m]at a;cases a;exact b
 |AS=>obtain⟨c,a,b,_⟩:=k;rw[show Z[i]?=some (some (.ref l))from m]at a;cases a;exact b
 |ow lt t=>obtain⟨v,_,r,_,q⟩:=k;exact(q l m).1
 |_=>cases m
theorem Sg.UR(S:Sg E ss Z F H)(h:ss[i]?=some s)(a:H l=none):¬ Bl s Z[i]? l:=λm=>S.Ez h m a
theorem Sg.Pw(S:Sg E ss Z F H)(h:ss[i]?=some s)(m:Bl s Z[i]? l)(np:s≠.AS):DI ss Z l:=λj a b=>
 S.CJ i j s _ l (by rintro rfl;rw[h]at a;exact np (Bs a)) h a m b
theorem Ok.go(S:Sg E ss Z F H){i:Nat}{s:Slot}(hi:ss[i]?=some s)(ff:AD F F')(f:∀a o,Bl s Z[i]? a->H a=some o->H' a=some o)(CC:∀a,H a≠none->F a=none->F' a=none)(np:s≠.AS):Ok E F' H' s Z[i]?:=by
 have k:=S.ok i s hi;cases s with
 |any=>trivial
 |is p=>obtain⟨v,e,r⟩:=k;exact⟨v,e,r.mono ff⟩
 |own xs=>
  obtain⟨l,vs,e,d,c,g,r⟩:=k;exact⟨l,vs,e,CC l (by rw[g];simp) d,c,f l _ e g,r.mono ff⟩
 |AS=>exact absurd rfl np
 |sq tp xs=>
  cases tp with
  |true=>obtain⟨v,e,r⟩:=k;exact⟨v,e,r.mono ff⟩
  |false=>obtain⟨l,vs,e,d,c,r⟩:=k;exact⟨l,vs,e,d,c,r.mono ff⟩
 |raw P=>obtain⟨v,e,r,st⟩:=k;exact⟨v,e,st _ _ ff r,st⟩
 |ow lt t=>
  obtain⟨v,e,r,nd,q⟩:=k;exact⟨v,e,r.mono ff λa b o=>f a o b,nd,λa b=>⟨CC a (r.there a b) (q a b).1,(q a b).2⟩⟩
theorem Sg.step(S:Sg E ss Z F H)(ff:AD F F')(fh:AD F' H')(c:∀a o,DI ss Z a->H a=some o->H' a=some o)(hn:∀a o,F' a=some o->F a=some o∨H a=none)
  (g:∀(i:Nat)l,ss[i]?=some .AS->Z[i]?=some (some (.ref l))->CG H' l):Mv E ss Z F H F' H':=by
 have CC:∀a,H a≠none->F a=none->F' a=none:=λa h1 h2=>by
  cases e:F' a with
  |none=>rfl
  |some o=>
   rcases hn a o e with q|q
   .rw[h2]at q;cases q
   .exact absurd q h1
 have h:∀a,CG H a->DI ss Z a->CG H' a:=λa p n=>CG.keep p λo e=>c a o n e;refine⟨⟨⟨fh,S.f0.trans ff,λa o b e=>?_,λa o e=>?_,λa b=>?_,λa b=>?_,S.a0,λa d=>CC a (S.bH a d) (S.bF a d),λa d=>?_,S.b0⟩,S.len,λi s hi=>?_,S.CJ⟩,ff,c,hn⟩
 .exact c a o (S.kW b.1 e) (S.keep a o b e)
 .rcases hn a o e with q|q
  .exact S.fresh a o q
  .exact .inr (S.Ei q)
 .by_cases q:∃i:Nat,ss[i]?=some .AS/\Z[i]?=some (some (.ref a))
  .obtain⟨i,k,j⟩:=q;exact g i a k j
  .exact h a (S.HP a b) λi h1 h2=>q ⟨i,h1,h2⟩
 .refine CC a ?_ (S.Ll a b);obtain⟨_,_,f,_⟩:=S.HP a b;rw[f];simp
 .obtain⟨o,e⟩:=Option.ne_none_iff_exists'.mp (S.bH a d);rw[c a o (S.ZAp d) e];simp
 .by_cases np:s=.AS
  .subst np;obtain⟨l,e,f,u,t⟩:=S.ok i _ hi;have v:=t;obtain⟨_,_,r,_⟩:=v;exact⟨l,e,CC l (by rw[r];simp) f,u,g i l hi e⟩
  .exact Ok.go S hi ff (λa o m=>c a o (S.Pw hi m np)) CC np
theorem Sg.FW(S:Sg E ss Z F H)(hi:ss[i]?=some .AS)(e:Z[i]?=some (some (.ref l))):CG H l:=by
 obtain⟨b,a,_,_,p⟩:=S.ok i _ hi;rw[e]at a;cases a;exact p
theorem Sg.alloc(S:Sg E ss Z F H){p:Addr}(h:H p=none)(o:HO):Mv E ss Z F H (upd F p o) (upd H p o):=by
 refine S.step (BX (S.CC h) _) (λa u e=>?_) (λa u _ e=>BX h o a u e) (λa u e=>?_) λi l hi e=>CG.keep (S.FW hi e) λu e=>BX h o l u e
 .by_cases q:a=p
  .subst q;rw[AX]at e ⊢;exact e
  .rw[Aa q]at e ⊢;exact S.fh a u e
 .by_cases q:a=p
  .subst q;exact .inr h
  .rw[Aa q]at e;exact .inl e
theorem Sg.make(S:Sg E ss Z F H){p:Addr}(h:H p=none)(o:HO):Mv E ss Z F H F (upd H p o):=
 S.step (AD.refl _) (S.fh.trans (BX h o)) (λa u _ e=>BX h o a u e) (λa u e=>.inl e) λi l hi e=>CG.keep (S.FW hi e) λu e=>BX h o l u e
theorem Sg.grow(S:Sg E ss Z F H)(s:AD H H'):Mv E ss Z F H F H':=
 S.step (AD.refl _) (S.fh.trans s) (λa u _ e=>s a u e) (λa u e=>.inl e) λi l hi e=>CG.keep (S.FW hi e) λu e=>s l u e
theorem Sg.setG(S:Sg E ss Z F H)(AH:Ok E F H s (some (some v)))(f:∀l,Bl s (some (some v)) l->∀(i:Nat)u,i≠j->ss[i]?=some u->¬ Bl u Z[i]? l):Sg E (ss.set j s) (Z.set j (some v)) F H:=by
 refine⟨S.toFin,by rw[KA,KA];exact S.len,λi u hi=>?_,λi k u w l O4 hi b d c=>?_⟩
 .by_cases q:i=j
  .subst q;have a:i<ss.length:=by have:=(List.getElem?_eq_some_iff.mp hi).1;simpa using this
   rw[Cs a]at hi;cases hi;rw[Cs (by rw[<- S.len];exact a)];exact AH
  .rw[CO (BU q)]at hi ⊢;exact S.ok i u hi
 .by_cases q:i=j
  .subst q;have a:i<ss.length:=by have:=(List.getElem?_eq_some_iff.mp hi).1;simpa using this
   rw[Cs a]at hi;rw[Cs (by rw[<- S.len];exact a)]at d;cases hi;rw[CO O4]at b c;exact f l d k w (BU O4) b c
  .rw[CO (BU q)]at hi d
   by_cases e:k=j
   .subst e;have a:k<ss.length:=by have:=(List.getElem?_eq_some_iff.mp b).1;simpa using this
    rw[Cs a]at b;cases b;rw[Cs (by rw[<- S.len];exact a)]at c;exact f l c i u O4 hi d
   .rw[CO (BU e)]at b c;exact S.CJ i k u w l O4 hi b d c
theorem Sg.FP(S:Sg E ss Z F H)(r:Rep F v p):Sg E (ss.set j (.is p)) (Z.set j (some v)) F H:=S.setG ⟨v,rfl,r⟩ λ_ h=>by cases h
def Sv(ss:List Slot)(Z:L2.St)(F H:Hp)(v:V):Bool->List PV->Prop
 |true,xs=>Rep F v (.tup xs)
 |false,xs=>∃l vs,v=.ref l/\DI ss Z l/\H l=some (.lst vs)/\AY F vs xs
def Fv(E:Ent0)(F:Hp)(v:V):Bool->List PV->Prop
 |true,xs=>Rep F v (.tup xs)
 |false,xs=>∃l vs,v=.ref l/\(F l=some (.lst vs)∨((l∉E.A/\l∉E.B)/\E.H0 l=some (.lst vs)))/\AY F vs xs
structure Wp [Xw] (ss:List Slot) (t:TE) (k:PV->Prop):Prop where
 go:∀(E:Ent)(Z:L2.St)(F H:Hp)(Q:VK),Sg E ss Z F H->(∀v p F' H',Mv E ss Z F H F' H'->Rep F' v p->k p->Q v H')->t Z H Q
structure Wn [Xw] (ss:List Slot) (t:TE) (k:List PV->Prop):Prop where
 go:∀(E:Ent)(Z:L2.St)(F H:Hp)(Q:VK),Sg E ss Z F H->(∀l vs xs F' H',Mv E ss Z F H F' H'->F' l=none->H l=none->H' l=some (.lst vs)->AY F' vs xs->k xs->Q (.ref l) H')->t Z H Q
structure Wq [Xw] (ss:List Slot) (t:TE) (k:Bool->List PV->Prop):Prop where
 go:∀(E:Ent)(Z:L2.St)(F H:Hp)(Q:VK),Sg E ss Z F H->(∀v tp xs F' H',Mv E ss Z F H F' H'->Sv ss Z F' H' v tp xs->k tp xs->Q v H')->t Z H Q
structure Wz [Xw] (ss:List Slot) (t:TE) (k:Bool->List PV->Prop):Prop where
 go:∀(E:Ent)(Z:L2.St)(F H:Hp)(Q:VK),Sg E ss Z F H->(∀v tp xs F' H',Mv E ss Z F H F' H'->Fv E F' v tp xs->k tp xs->Q v H')->t Z H Q
structure Wt [Xw] (ss:List Slot) (t:TT) (k:Bool->Prop):Prop where
 go:∀(E:Ent)(Z:L2.St)(F H:Hp)(Q:Bool->Hp->Prop),Sg E ss Z F H->(∀b F' H',Mv E ss Z F H F' H'->k b->Q b H')->t Z H Q
def Av(ss:List Slot)(Z:L2.St)(F H:Hp)(v:V):Slot->Prop
 | .is p=>Rep F v p
 | .sq tp xs=>Sv ss Z F H v tp xs
 | .raw P=>P F v/\∀F F',AD F F'->P F v->P F' v
 |_=>False
inductive J1 (ss:List Slot) (Z:L2.St) (F H:Hp):List V->List Slot->Prop where
 |nil:J1 ss Z F H [] []
 |cons {v:V}{s:Slot}{vs:List V}{l:List Slot}:Av ss Z F H v s->J1 ss Z F H vs l->J1 ss Z F H (v::vs) (s::l)
structure Wa [Xw] (ss:List Slot) (t:TA) (k:List Slot->Prop):Prop where
 go:∀(E:Ent)(Z:L2.St)(F H:Hp)(Q:List V->Hp->Prop),Sg E ss Z F H->(∀vs l F' H',Mv E ss Z F H F' H'->J1 ss Z F' H' vs l->k l->Q vs H')->t Z H Q
inductive Ad where
 |is (k:PV->Prop)|new (k:List PV->Prop)|AS|ow (k:OV->Prop)|mt (k:PV->OV->Prop)|mt2 (k:PV->OV->OV->Prop)
noncomputable def OV.val:OV->V
 | .nd _ a _=>.ref a
 |_=>.A9
def Ad.ok(R:Ad)(E:Ent0)(F' H':Hp)(v:V):Prop:=match R with
 | .is k=>∃p,Rep F' v p/\k p
 | .new k=>∃l vs xs,v=.ref l/\F' l=none/\E.H0 l=none/\H' l=some (.lst vs)/\AY F' vs xs/\k xs
 | .AS=>∃l,v=.ref l/\F' l=none/\E.H0 l=none/\CG H' l
 | .ow k=>∃t,BL F' H' v t/\t.addrs.Nodup/\(∀a∈t.addrs,F' a=none/\E.H0 a=none)/\k t
 | .mt k=>∃p t,Rep F' v p/\BL F' H' t.val t/\t.addrs.Nodup/\(∀a∈t.addrs,F' a=none/\(E.H0 a=none∨a∈E.B))/\k p t
 | .mt2 k=>∃p t u,Rep F' v p/\BL F' H' t.val t/\BL F' H' u.val u/\(t.addrs++u.addrs).Nodup/\(∀a∈t.addrs++u.addrs,F' a=none/\(E.H0 a=none∨a∈E.B))/\k p t u
structure Ws [Xw] (ss:List Slot) (t:TS) (nx:List Slot->Prop) (R:Ad):Prop where
 go:∀(E:Ent)(D:Ends)(Z:L2.St)(F H:Hp),Sg E ss Z F H->(∀AI σ' F' H',nx AI->Sg E AI σ' F' H'->AD F F'->D.nx σ' H')->(∀v F' H',Fin E F' H'->R.ok E F' H' v->D.rt v H')->t D Z H
section
variable[Xw]
variable{K:ZJa}{k:PV->Prop}{R:Ad}
theorem Sv.mv(h:Sv ss Z F H v tp xs)(m:Mv E ss Z F H F' H'):Sv ss Z F' H' v tp xs:=by
 cases tp with
 |true=>exact Rep.mono m.ff h
 |false=>
  obtain⟨l,vs,e,n,r,q⟩:=h;exact⟨l,vs,e,n,m.hh l _ n r,q.mono m.ff⟩
theorem Sv.seq(S:Sg E ss Z F H)(h:Sv ss Z F H v tp xs):∃l vs,v=.ref l/\H l=some (IM tp vs)/\AY F vs xs:=by
 cases tp with
 |true=>cases h with|tup e r=>exact⟨_,_,rfl,S.fh _ _ e,r⟩
 |false=>obtain⟨l,vs,e,_,r,q⟩:=h;exact⟨l,vs,e,r,q⟩
theorem Fv.sv(S:Sg E ss Z F H)(h:Fv E F v tp xs):Sv ss Z F H v tp xs:=by
 cases tp with
 |true=>exact h
 |false=>
  obtain⟨l,vs,e,h1|⟨a,h1⟩,r⟩:=h
  .exact⟨l,vs,e,S.iQ h1,S.fh _ _ h1,r⟩
  .exact⟨l,vs,e,S.kW a.1 h1,S.keep _ _ a h1,r⟩
theorem ofT{A B:Prop}(h:if true=true then A else B):A:=h
theorem Sq{A B:Prop}(h:if false=true then A else B):B:=h
class Flt {α:Type} (f:α->PV) (g:outParam (α->V)):Prop where
 eq:∀{F:Hp}{v:V}{i:α},Rep F v (f i)->v=g i
instance:Flt PV.int V.int:=⟨λr=>r.inv⟩
instance:Flt PV.str V.str:=⟨λr=>r.inv⟩
instance:Flt PV.bl V.bl:=⟨λr=>r.inv⟩
instance:Flt (λn:Nat=>PV.int n) λn:Nat=>V.int n:=⟨λr=>r.inv⟩
theorem Wp.el{f:α->PV}{g:α->V}[i:Flt f g]{k:α->Prop}(h:Wp ss te λx=>∃i,x=f i/\k i)(E:Ent)(S:Sg E ss Z F H)(q:∀i F1 H1,Mv E ss Z F H F1 H1->k i->Q (g i) H1):te Z H Q:=
 h.go E Z F H Q S λv p F1 H1 m r z=>by
  obtain⟨j,e,kk⟩:=z;subst e;rw[i.eq r];exact q j F1 H1 m kk
theorem A8(h:ss[i]?=some (.is p))(b:k p):Wp ss (BW i) k:=⟨λE Z F H Q S q=>by
 obtain⟨v,a,r⟩:=S.ok i _ h;exact⟨v,a,q v p F H (.refl S) r b⟩⟩
theorem Bu{i:Int}(a:k (.int i)):Wp ss (tC (.int i)) k:=⟨λE Z F H Q S q=>q _ _ F H (.refl S) (.int i) a⟩
theorem DJ{x:Str}(a:k (.str x)):Wp ss (tC (.str x)) k:=⟨λE Z F H Q S q=>q _ _ F H (.refl S) (.str x) a⟩
theorem Cg(a:k (.bl b)):Wp ss (tC (.bl b)) k:=⟨λE Z F H Q S q=>q _ _ F H (.refl S) (.bl b) a⟩
theorem Jp(a:k .A9):Wp ss (tC .A9) k:=⟨λE Z F H Q S q=>q _ _ F H (.refl S) .A9 a⟩
theorem D7(h:Wn ss te (λxs=>k (.lst xs))):Wp ss te k:=⟨λE Z F H Q S q=>h.go E Z F H Q S λl vs xs F' H' m c f CM r kk=>by
 have b:=m.st;have fr:Mv E ss Z F H (upd F' l (.lst vs)) H':=by
  have A:∀a,H' a≠none->a≠l->F' a=none->upd F' l (.lst vs) a=none:=λa _ h1 h2=>by rw[Aa h1];exact h2
  refine⟨⟨⟨λa u e=>?_,b.f0.trans (BX c _),b.keep,λa u e=>?_,b.HP,λa z=>?_,b.a0,λa y=>?_,b.bH,b.b0⟩,b.len,λi s hi=>?_,b.CJ⟩,m.ff.trans (BX c _),m.hh,λa u e=>?_⟩
  .by_cases q:a=l
   .subst q;rw[AX]at e;rw[<- e];exact CM
   .rw[Aa q]at e;exact b.fh a u e
  .by_cases q:a=l
   .subst q;exact .inr (S.Ei f)
   .rw[Aa q]at e;exact b.fresh a u e
  .by_cases q:a=l
   .subst q;obtain⟨_,_,e,_⟩:=S.HP _ z;rw[f]at e;cases e
   .rw[Aa q];exact b.Ll a z
  .by_cases q:a=l
   .subst q;exact absurd f (S.bH _ y)
   .rw[Aa q];exact b.bF a y
  .have x:∀a,Bl s Z[i]? a->a≠l:=by
    rintro a m rfl;exact S.UR hi f m
   have kk:=b.ok i s hi;cases s with
   |any=>trivial
   |is p=>obtain⟨v,e,r⟩:=kk;exact⟨v,e,r.mono (BX c _)⟩
   |own ys=>
    obtain⟨d,ws,e,j,g,w,r⟩:=kk;exact⟨d,ws,e,by rw[Aa (x d e)];exact j,g,w,r.mono (BX c _)⟩
   |AS=>
    obtain⟨d,e,j,g,w⟩:=kk;exact⟨d,e,by rw[Aa (x d e)];exact j,g,w⟩
   |sq tp ys=>
    cases tp with
    |true=>obtain⟨v,e,r⟩:=kk;exact⟨v,e,r.mono (BX c _)⟩
    |false=>obtain⟨d,ws,e,j,g,r⟩:=kk;exact⟨d,ws,e,j,g,r.mono (BX c _)⟩
   |raw P=>obtain⟨v,e,r,st⟩:=kk;exact⟨v,e,st _ _ (BX c _) r,st⟩
   |ow lt t=>
    obtain⟨v,e,r,nd,q⟩:=kk;exact⟨v,e,r.mono (BX c _) λa _ o h=>h,nd,λa n=>⟨by rw[Aa (x a n)];exact(q a n).1,(q a n).2⟩⟩
  .by_cases q:a=l
   .subst q;exact .inr f
   .rw[Aa q]at e;exact m.nn a u e
 exact q _ _ _ _ fr (.lst AX (r.mono (BX c _))) kk⟩
theorem BP{k:Bool->List PV->Prop}(h:Wp ss te (λp=>∃xs,(p=.lst xs/\k false xs)∨(p=.tup xs/\k true xs))):Wq ss te k:=⟨λE Z F H Q S q=>h.go E Z F H Q S λv p F' H' m r AU=>by
 obtain⟨xs,h⟩:=AU;rcases h with⟨rfl,kk⟩|⟨rfl,kk⟩
 .cases r with|lst h r=>exact q _ false xs F' H' m ⟨_,_,rfl,m.st.iQ h,m.st.fh _ _ h,r⟩ kk
 .exact q v true xs F' H' m r kk⟩
theorem Rw{k:Bool->List PV->Prop}(h:ss[i]?=some (.is (.lst xs)))(a:k false xs):Wq ss (BW i) k:=BP (A8 h ⟨xs,.inl ⟨rfl,a⟩⟩)
theorem Gd{k:Bool->List PV->Prop}(h:ss[i]?=some (.is (.tup xs)))(a:k true xs):Wq ss (BW i) k:=BP (A8 h ⟨xs,.inr ⟨rfl,a⟩⟩)
theorem YY{k:Bool->List PV->Prop}(h:ss[i]?=some (.own xs))(a:k false xs):Wq ss (BW i) k:=⟨λE Z F H Q S q=>by
 obtain⟨l,vs,e,d,c,b,r⟩:=S.ok i _ h;exact⟨_,e,q _ false xs F H (.refl S) ⟨l,vs,rfl,S.Pw h e (by simp),b,r⟩ a⟩⟩
theorem lg{k:Bool->List PV->Prop}(h:ss[i]?=some (.sq tp xs))(a:k tp xs):Wz ss (BW i) k:=⟨λE Z F H Q S q=>by
 have kk:=S.ok i _ h;cases tp with
 |true=>obtain⟨v,e,r⟩:=kk;exact⟨_,e,q _ true xs F H (.refl S) r a⟩
 |false=>
  obtain⟨l,vs,e,b,c,r⟩:=kk;exact⟨_,e,q _ false xs F H (.refl S) ⟨l,vs,rfl,.inr ⟨b,c⟩,r⟩ a⟩⟩
theorem Kf{k:Bool->List PV->Prop}(h:Wp ss te (λp=>∃xs,(p=.lst xs/\k false xs)∨(p=.tup xs/\k true xs))):Wz ss te k:=⟨λE Z F H Q S q=>h.go E Z F H Q S λv p F' H' m r AU=>by
 obtain⟨xs,h⟩:=AU;rcases h with⟨rfl,kk⟩|⟨rfl,kk⟩
 .cases r with|lst h r=>exact q _ false xs F' H' m ⟨_,_,rfl,.inl h,r⟩ kk
 .exact q _ true xs F' H' m r kk⟩
theorem lA{k:Bool->List PV->Prop}(h:Wz ss te k):Wq ss te k:=⟨λE Z F H Q S q=>h.go E Z F H Q S λv tp xs F' H' m f kk=>q v tp xs F' H' m (f.sv m.st) kk⟩
theorem Fg{k:Bool->List PV->Prop}(h:ss[i]?=some (.sq tp xs))(a:k tp xs):Wq ss (BW i) k:=lA (lg h a)
theorem ZEr{C:Int->Int->Prop}(h:Wp ss ta λx=>∃i,x=.int i/\Wp ss tb λy=>∃j,y=.int j/\C i j/\k (.int (f i j))):Wp ss (CB (rI C λi j=>.int (f i j)) ta tb) k:=⟨λE Z F H Q S q=>
 h.el E S λi F1 H1 a h2=>
  h2.el E a.st λj F2 H2 d b=>by
   obtain⟨c,kk⟩:=b;exact⟨i,j,rfl,rfl,c,q _ _ F2 H2 (a.trans d) (.int _) kk⟩⟩
theorem Wk(h:Wp ss ta λx=>∃i,x=.int i/\Wp ss tb λy=>∃j,y=.int j/\k (.int (f i j))):Wp ss (CB (HY λi j=>.int (f i j)) ta tb) k:=⟨λE Z F H Q S q=>
 h.el E S λi F1 H1 a h2=>
  h2.el E a.st λj F2 H2 b kk=>by
   exact⟨i,j,rfl,rfl,q _ _ F2 H2 (a.trans b) (.int _) kk⟩⟩
theorem GJ{f:Int->Int->Bool}(h:Wp ss ta λx=>∃i,x=.int i/\Wp ss tb λy=>∃j,y=.int j/\k (.bl (f i j))):Wp ss (CB (HY λi j=>.bl (f i j)) ta tb) k:=⟨λE Z F H Q S q=>
 h.el E S λi F1 H1 a h2=>
  h2.el E a.st λj F2 H2 b kk=>by
   exact⟨i,j,rfl,rfl,q _ _ F2 H2 (a.trans b) (.bl _) kk⟩⟩
theorem ZH6{f:Int->Int}(h:Wp ss ta λx=>∃i,x=.int i/\k (.int (f i))):Wp ss (VT (rU λi=>.int (f i)) ta) k:=⟨λE Z F H Q S q=>
 h.el E S λi F1 H1 a kk=>by
  exact⟨i,rfl,q _ _ F1 H1 a (.int _) kk⟩⟩
noncomputable def alike:PV->PV->Bool
 | .int i,.int j=>decide (i=j)
 | .str i,.str j=>decide (i=j)
 | .bl i,.bl j=>decide (i=j)
 | .A9,.A9=>true
 |_,_=>false
def NU(p q:PV):Bool:=flat p && flat q && aB (Fz.enc p) (Fz.enc q)
theorem eO{q:PV}(h:NU p q=true):decide (Fz.enc p=Fz.enc q)=alike p q:=by
 unfold NU at h;rw[Dm,Dm]at h;obtain⟨⟨h1,h2⟩,a⟩:=h;cases p <;> first|exact Bool.noConfusion h1|skip
 all_goals cases q <;> first|exact Bool.noConfusion h2|exact Bool.noConfusion a|rfl|exact decide_eq_decide.mpr ⟨λe=>by injection e,vB _⟩
theorem P2(h:Wp ss ta λx=>Wp ss tb λy=>NU x y=true/\k (.bl (alike x y))):Wp ss (CB iW ta tb) k:=⟨λE Z F H Q S q=>
 h.go E Z F H _ S λv p F1 H1 a c h2=>h2.go E Z F1 H1 _ a.st λf p2 F2 H2 d b AU=>by
  obtain⟨sc,kk⟩:=AU;have e:=sc;unfold NU at sc;rw[Dm,Dm]at sc;rw[c.enc sc.1.1,b.enc sc.1.2];refine⟨sc.2,?_⟩;rw[eO e];exact q _ _ F2 H2 (a.trans d) (.bl _) kk⟩
theorem bO(h:Wp ss ta λx=>Wp ss tb λy=>NU x y=true/\k (.bl (!alike x y))):Wp ss (CB jY ta tb) k:=⟨λE Z F H Q S q=>
 h.go E Z F H _ S λv p F1 H1 a c h2=>h2.go E Z F1 H1 _ a.st λf p2 F2 H2 d b AU=>by
  obtain⟨sc,kk⟩:=AU;have e:=sc;unfold NU at sc;rw[Dm,Dm]at sc;rw[c.enc sc.1.1,b.enc sc.1.2];refine⟨sc.2,?_⟩;rw[eO e];exact q _ _ F2 H2 (a.trans d) (.bl _) kk⟩
theorem Sn(h:Wp ss ta λx=>∃c,x=.bl c/\if c=true then Wp ss tb k else k (.bl false)):Wp ss (Vj ta tb) k:=⟨λE Z F H Q S q=>
 h.el E S λc F1 H1 a h2=>by
  refine⟨c,rfl,?_⟩;cases c with
  |true=>exact J3 ((ofT h2).go E Z F1 H1 _ a.st λe p2 F2 H2 d b kk=>q _ _ F2 H2 (a.trans d) b kk)
  |false=>exact CT (q _ _ F1 H1 a (.bl _) (Sq h2))⟩
theorem gh(h:Wp ss ta λx=>∃c,x=.bl c/\if c=true then k (.bl true)else Wp ss tb k):Wp ss (Wr ta tb) k:=⟨λE Z F H Q S q=>
 h.el E S λc F1 H1 a h2=>by
  refine⟨c,rfl,?_⟩;cases c with
  |true=>exact J3 (q _ _ F1 H1 a (.bl _) (ofT h2))
  |false=>exact CT ((Sq h2).go E Z F1 H1 _ a.st λe p2 F2 H2 d b kk=>q _ _ F2 H2 (a.trans d) b kk)⟩
theorem il(h:Wp ss ta λx=>∃c,x=.bl c/\k (.bl (!c))):Wp ss (Y4 ta) k:=⟨λE Z F H Q S q=>
 h.el E S λc F1 H1 a kk=>⟨c,rfl,q _ _ F1 H1 a (.bl _) kk⟩⟩
theorem Qh{f g:Int->Int->Bool}(h:Wp ss ta λx=>∃i,x=.int i/\Wp ss tb λy=>∃j,y=.int j/\if f i j=true then Wp ss tc (λz=>∃l,z=.int l/\k (.bl (g j l)))else k (.bl false)):
  Wp ss (Ox (HY λi j=>.bl (f i j)) (HY λi j=>.bl (g i j)) ta tb tc) k:=⟨λE Z F H Q S q=>
 h.el E S λi F1 H1 d h2=>
  h2.el E d.st λj F2 H2 b a=>by
   refine⟨i,j,rfl,rfl,f i j,rfl,?_⟩;cases c:f i j with
   |true=>
    rw[c,tX rfl]at a;rw[tX rfl];exact a.el E b.st λl F3 H3 e kk=>by
     exact⟨j,l,rfl,rfl,q _ _ F3 H3 (d.trans (b.trans e)) (.bl _) kk⟩
   |false=>
    rw[c,qg (by decide)]at a;rw[qg (by decide)];exact q _ _ F2 H2 (d.trans b) (.bl _) a⟩
theorem C9{k:Bool->Prop}(h:Wp ss te λx=>∃c,x=.bl c/\k c):Wt ss (OP te) k:=⟨λE Z F H Q S q=>
 h.el E S λc F1 H1 a kk=>⟨c,rfl,q _ F1 H1 a kk⟩⟩
theorem Dv{k:Bool->Prop}(h:Wp ss te λx=>∃c,x=.bl c/\k c):Wt ss (tB te) k:=⟨λE Z F H Q S q=>
 h.el E S λc F1 H1 a kk=>⟨c,rfl,q _ F1 H1 a kk⟩⟩
theorem FE{t:TT}{k:Bool->Prop}(h:Wt ss t λc=>k (!c)):Wt ss (Tj t) k:=⟨λE Z F H Q S q=>h.go E Z F H _ S λc F1 H1 a kk=>q _ F1 H1 a kk⟩
theorem ZDX{t u:TT}{k:Bool->Prop}(h:Wt ss t λc=>if c=true then Wt ss u k else k false):Wt ss (V7 t u) k:=⟨λE Z F H Q S q=>
 h.go E Z F H _ S λc F1 H1 a h2=>by
  show if c=true then _ else _
  cases c with
  |true=>exact J3 ((ofT h2).go E Z F1 H1 _ a.st λc2 F2 H2 b kk=>q _ F2 H2 (a.trans b) kk)
  |false=>exact CT (q _ F1 H1 a (Sq h2))⟩
theorem Fx{t u:TT}{k:Bool->Prop}(h:Wt ss t λc=>if c=true then k true else Wt ss u k):Wt ss (YU t u) k:=⟨λE Z F H Q S q=>
 h.go E Z F H _ S λc F1 H1 a h2=>by
  show if c=true then _ else _
  cases c with
  |true=>exact J3 (q _ F1 H1 a (ofT h2))
  |false=>exact CT ((Sq h2).go E Z F1 H1 _ a.st λc2 F2 H2 b kk=>q _ F2 H2 (a.trans b) kk)⟩
end
structure We [Xw] (ss:List Slot) (t:TA) (k:List PV->Prop):Prop where
 go:∀(E:Ent)(Z:L2.St)(F H:Hp)(Q:List V->Hp->Prop),Sg E ss Z F H->(∀vs ps F' H',Mv E ss Z F H F' H'->AY F' vs ps->k ps->Q vs H')->t Z H Q
structure Wo [Xw] (ss:List Slot) (t:TO) (k:Option Int->Prop):Prop where
 go:∀(E:Ent)(Z:L2.St)(F H:Hp)(Q:Option Int->Hp->Prop),Sg E ss Z F H->(∀o F' H',Mv E ss Z F H F' H'->k o->Q o H')->t Z H Q
section
variable[Xw]
variable{K:ZJa}{k:PV->Prop}{R:Ad}
theorem Cw{k:List PV->Prop}(h:k []):We ss BQ k:=⟨λE Z F H Q S q=>q _ _ F H (.refl S) .nil h⟩
theorem CH{k:List PV->Prop}(h:Wp ss te λp=>We ss t λps=>k (p::ps)):We ss (An te t) k:=⟨λE Z F H Q S q=>
 h.go E Z F H _ S λv p F1 H1 b d h2=>h2.go E Z F1 H1 _ b.st λvs ps F2 H2 a c kk=>q _ _ F2 H2 (b.trans a) (.cons (d.mono a.ff) c) kk⟩
theorem BS{k:List Slot->Prop}(h:k []):Wa ss BQ k:=⟨λE Z F H Q S q=>q _ _ F H (.refl S) .nil h⟩
theorem Am{k:List Slot->Prop}(h:Wp ss te λp=>Wa ss t λl=>k (.is p::l)):Wa ss (An te t) k:=⟨λE Z F H Q S q=>
 h.go E Z F H _ S λv p F1 H1 b d h2=>h2.go E Z F1 H1 _ b.st λvs l F2 H2 a c kk=>q _ _ F2 H2 (b.trans a) (.cons (s:=.is p) (d.mono a.ff) c) kk⟩
theorem Dp{k:List Slot->Prop}(h:Wq ss te λtp xs=>Wa ss t λl=>k (.sq tp xs::l)):Wa ss (An te t) k:=⟨λE Z F H Q S q=>
 h.go E Z F H _ S λv tp xs F1 H1 b d h2=>h2.go E Z F1 H1 _ b.st λvs l F2 H2 a c kk=>q _ _ F2 H2 (b.trans a) (.cons (s:=.sq tp xs) (d.mv a) c) kk⟩
theorem ZFT{k:List Slot->Prop}{P:Hp->V->Prop}(hi:ss[i]?=some (.raw P))(h:Wa ss t λl=>k (.raw P::l)):Wa ss (An (BW i) t) k:=⟨λE Z F H Q S q=>by
 obtain⟨v,e,r,st⟩:=S.ok i _ hi;exact⟨v,e,h.go E Z F H _ S λvs l F2 H2 a b kk=>q _ _ F2 H2 a (.cons (s:=.raw P) ⟨st _ _ a.ff r,st⟩ b) kk⟩⟩
theorem vO{k:Option Int->Prop}(h:k none):Wo ss Xu k:=⟨λE Z F H Q S q=>q _ F H (.refl S) h⟩
theorem ZAk{k:Option Int->Prop}(h:Wp ss te λp=>∃i,p=.int i/\k (some i)):Wo ss (ah te) k:=⟨λE Z F H Q S q=>
 h.el E S λi F1 H1 a kk=>⟨i,rfl,q _ F1 H1 a kk⟩⟩
theorem Wd{n:Nat}(h:n<=99999):n<sizeLine:=Dn (Nat.lt_succ_of_le h) (small (B4 100000))
theorem Gh(h:We ss t λps=>ps.length<=100000/\k (.tup ps)):Wp ss (U8 t) k:=⟨λE Z F H Q S q=>
 h.go E Z F H _ S λvs ps F1 H1 d b AU=>by obtain⟨e,kk⟩:=AU;exact⟨small (by rw[b.length];exact e),λa f=>by
  have c:=d.st.alloc f (.tup vs);exact q _ _ _ _ (d.trans c) (.tup AX (b.mono c.ff)) kk⟩⟩
theorem T4{k:List PV->Prop}(h:We ss t λps=>ps.length<=100000/\k ps):Wn ss (SU t) k:=⟨λE Z F H Q S q=>
 h.go E Z F H _ S λvs ps F1 H1 b d AU=>by obtain⟨g,kk⟩:=AU;exact⟨small (by rw[d.length];exact g),λa c=>by
  have f:=b.st.make c (.lst vs);refine q a vs ps F1 _ (b.trans f) (b.st.CC c) ?_ AX d kk;cases e:H a with
  |none=>rfl
  |some o=>rw[b.hh a o (b.st.P1 c) e]at c;cases c⟩⟩
theorem D5(h:Wq ss te λ_ xs=>k (.int xs.length)):Wp ss (DH (Z4 K) (An te BQ)) k:=⟨λE Z F H Q S q=>
 h.go E Z F H _ S λv tp xs F1 H1 a sv kk=>by
  obtain⟨l,vs,rfl,b,r⟩:=sv.seq a.st;refine⟨l,vs,rfl,(IM.sq (K:=K) b).or,?_⟩;rw[r.length];exact q _ _ F1 H1 a (.int _) kk⟩
theorem AY.Bt{i:Int}(r:AY F vs xs)(h:L2.Bt xs i=some p):∃u,L2.Bt vs i=some u/\Rep F u p:=by
 unfold L2.Bt at h ⊢;rw[r.length];cases e:Hv xs.length i with
 |none=>rw[e]at h;cases h
 |some j=>
  rw[e]at h;exact r.get h
theorem gJ(h:Wq ss ta λtp xs=>tp=false/\Wp ss tb λy=>∃i p,y=.int i/\L2.Bt xs i=some p/\k p):Wp ss (CB (Se K) ta tb) k:=⟨λE Z F H Q S q=>
 h.go E Z F H _ S λv tp xs F1 H1 b sv⟨m,h2⟩=>h2.go E Z F1 H1 _ b.st λn p2 F2 H2 a d⟨i,p,e,j,kk⟩=>by
  subst e;cases d.inv;subst m;obtain⟨l,vs,rfl,g,r⟩:=(sv.mv a).seq a.st;obtain⟨u,f,c⟩:=r.Bt j;exact⟨l,vs,i,u,rfl,rfl,Ab.of g,f,q _ _ F2 H2 (b.trans a) c kk⟩⟩
theorem Fm(h:Wq ss ta λtp xs=>tp=true/\Wp ss tb λy=>∃i p,y=.int i/\L2.Bt xs i=some p/\k p):Wp ss (CB (Ng K) ta tb) k:=⟨λE Z F H Q S q=>
 h.go E Z F H _ S λv tp xs F1 H1 b sv⟨m,h2⟩=>h2.go E Z F1 H1 _ b.st λn p2 F2 H2 a d⟨i,p,e,j,kk⟩=>by
  subst e;cases d.inv;subst m;obtain⟨l,vs,rfl,g,r⟩:=(sv.mv a).seq a.st;obtain⟨u,f,c⟩:=r.Bt j;exact⟨l,vs,i,u,rfl,rfl,AW.of g,f,q _ _ F2 H2 (b.trans a) c kk⟩⟩
theorem hG(h:Wp ss ta λp=>∃x,p=.str x/\Wq ss tb λ_ ys=>∃ns:List Str,ys=ns.map PV.str/\k (.bl (if neg then !decide (x∈ns)else decide (x∈ns)))):Wp ss (CB (Lr K neg) ta tb) k:=⟨λE Z F H Q S q=>
 h.el E S λx F1 H1 b h2=>by
  exact h2.go E Z F1 H1 _ b.st λe tp ys F2 H2 a sv JT=>by
   obtain⟨ns,d,kk⟩:=JT;subst d;obtain⟨l,vs,rfl,c,r⟩:=sv.seq a.st;rw[r.strs]at c;refine⟨l,_,rfl,(IM.sq (K:=K) c).or,rfl,K2 ns,?_⟩;rw[SV];exact q _ _ F2 H2 (b.trans a) (.bl _) kk⟩
theorem UH{k:List PV->Prop}(e:r=λxs H Q=>∃p ys,xs=[.ref p]/\(Ab K H p ys∨AW K H p ys)/\∀l,H l=none->Q (.ref l) (upd H l (.lst ys)))(h:Wq ss te λ_ xs=>k xs):Wn ss (DH r (An te BQ)) k:=⟨λE Z F H Q S q=>
 h.go E Z F H _ S λv tp xs F1 H1 b sv kk=>by
  subst e;obtain⟨l,vs,rfl,f,r⟩:=sv.seq b.st;refine⟨l,vs,rfl,(IM.sq (K:=K) f).or,λa c=>?_⟩;have d:=b.st.make c (.lst vs);exact q a vs xs F1 _ (b.trans d) (b.st.CC c) (b.none c) AX r kk⟩
theorem S8(d:r=λxs H Q=>∃p ys,xs=[.ref p]/\((Ab K H p ys/\∀l,H l=none->Q (.ref l) (upd H l (.tup ys)))∨(AW K H p ys/\Q (.ref p) H)))(h:Wq ss te λ_ xs=>k (.tup xs)):Wp ss (DH r (An te BQ)) k:=⟨λE Z F H Q S q=>
 h.go E Z F H _ S λv tp xs F1 H1 b sv kk=>by
  subst d;cases tp with
  |false=>
   obtain⟨l,vs,rfl,f,r⟩:=sv.seq b.st;refine⟨l,vs,rfl,.inl ⟨Ab.of f,λa g=>?_⟩⟩;have c:=b.st.alloc g (.tup vs);exact q _ _ _ _ (b.trans c) (.tup AX (r.mono c.ff)) kk
  |true=>
   have i:Rep F1 v (.tup xs):=sv;cases i with
   |tup e r=>exact⟨_,_,rfl,.inr ⟨AW.of (b.st.fh _ _ e),q _ _ F1 H1 b (.tup e r) kk⟩⟩⟩
theorem eZ{k:List PV->Prop}(h:Wq ss ta λtp xs=>tp=false/\Wq ss tb λCV ys=>CV=false/\xs.length+ys.length<=100000/\k (xs++ys)):Wn ss (CB oB ta tb) k:=⟨λE Z F H Q S q=>
 h.go E Z F H _ S λv tp xs F1 H1 c sv⟨m,h2⟩=>h2.go E Z F1 H1 _ c.st λo CV ys F2 H2 b n⟨e,i,kk⟩=>by
  subst m;subst e;obtain⟨l,vs,rfl,j,r⟩:=(sv.mv b).seq b.st;obtain⟨l2,Kg,rfl,Fp,f⟩:=n.seq b.st;refine⟨l,l2,vs,Kg,rfl,rfl,j,Fp,small (by rw[r.length,f.length];exact i),λa d=>?_⟩;have g:=b.st.make d (.lst (vs++Kg));exact q a _ _ F2 _ (c.trans (b.trans g)) (b.st.CC d) ((c.trans b).none d) AX (r.append f) kk⟩
def Fs(xs:List α)(lo hi:Option Int):List α:=(xs.drop (HT.Ay xs.length 0 lo)).take (HT.Ay xs.length xs.length hi - HT.Ay xs.length 0 lo)
theorem AY.cut(r:AY F vs xs)(lo hi:Option Int):AY F (Cq vs lo hi) (Fs xs lo hi):=by
 unfold Cq Fs;rw[r.length];exact(r.drop _).take _
theorem m7{k:List PV->Prop}(h:Wq ss te λtp xs=>tp=false/\Wo ss tl λlo=>Wo ss th λhi=>k (Fs xs lo hi)):Wn ss (Nk (bI K) te tl th) k:=⟨λE Z F H Q S q=>
 h.go E Z F H _ S λv tp xs F1 H1 d sv⟨j,h2⟩=>h2.go E Z F1 H1 _ d.st λlo F2 H2 c i=>i.go E Z F2 H2 _ c.st λhi F3 H3 b kk=>by
  subst j;obtain⟨l,vs,rfl,g,r⟩:=(sv.mv (c.trans b)).seq b.st;refine⟨l,vs,rfl,Ab.of g,λa e=>?_⟩;have f:=b.st.make e (.lst (Cq vs lo hi));exact q a _ _ F3 _ (d.trans (c.trans (b.trans f))) (b.st.CC e) ((d.trans (c.trans b)).none e) AX (r.cut lo hi) kk⟩
noncomputable def wO(tp:Bool)(xs:List PV):PV:=if tp then .tup xs else .lst xs
def TU(K:ZJa):V->Option Int->Option Int->Hp->VK->Prop:=λx lo hi H Q=>bI K x lo hi H Q∨fg K x lo hi H Q
theorem PR{X:Cx}:MU X (TU X.K):=by
 intro ZA s Z H x v vl vu lo hi sl Q I a c pl b h;rcases h with h|h
 .exact M8 ZA s Z H x v vl vu lo hi sl Q I a c pl b h
 .exact ZEl ZA s Z H x v vl vu lo hi sl Q I a c pl b h
theorem dX(h:Wq ss te λtp xs=>Wo ss tl λlo=>Wo ss th λhi=>k (wO tp (Fs xs lo hi))):Wp ss (Nk (TU K) te tl th) k:=⟨λE Z F H Q S q=>
 h.go E Z F H _ S λv tp xs F1 H1 i sv h2=>h2.go E Z F1 H1 _ i.st λlo F2 H2 d o=>o.go E Z F2 H2 _ d.st λhi F3 H3 b kk=>by
  have m:=sv.mv (d.trans b);have g:=i.trans (d.trans b);cases tp with
  |false=>
   obtain⟨l,vs,rfl,n,r⟩:=m.seq b.st;refine .inl ⟨l,vs,rfl,Ab.of n,λa f=>?_⟩;have c:=b.st.alloc f (.lst (Cq vs lo hi));exact q _ _ _ _ (g.trans c) (.lst AX ((r.cut lo hi).mono c.ff)) kk
  |true=>
   have s:Rep F3 v (.tup xs):=m;cases s with
   |@tup _ vs _ e r=>
    refine .inr ⟨_,vs,rfl,AW.of (b.st.fh _ _ e),λhw=>?_,λhw a f=>?_⟩
    .have p:Fs xs lo hi=xs:=by
      rw[r.length]at hw;unfold Fs;rw[hw.1,hw.2];simp
     refine q _ _ F3 H3 g (.tup e r) ?_;have j:=kk;rw[p]at j;exact j
    .have c:=b.st.alloc f (.tup (Cq vs lo hi));exact q _ _ _ _ (g.trans c) (.tup AX ((r.cut lo hi).mono c.ff)) kk⟩
theorem wu{k:List PV->Prop}(h:Wq ss te λ_ xs=>∃ns:List Str,xs=ns.map PV.str/\ns.length<64/\∀Bq:List Str,Bq.Perm ns->sortedS Bq=true->k (Bq.map PV.str)):Wn ss (DH (Y9 K) (An te BQ)) k:=⟨λE Z F H Q S q=>
 h.go E Z F H _ S λv tp xs F1 H1 b sv AU=>by
  obtain⟨ns,e,g,kk⟩:=AU;subst e;obtain⟨l,vs,rfl,d,r⟩:=sv.seq b.st;rw[r.strs]at d;refine⟨l,tp,ns,rfl,IM.sq d,g,λa Bq c j i=>?_⟩;have f:=b.st.make c (.lst (Bq.map V.str));exact q a _ _ F1 _ (b.trans f) (b.st.CC c) (b.none c) AX (OJ Bq) (kk Bq j i)⟩
theorem sU(xs ys:List Str):Hf (xs.map V.str) (ys.map V.str)=decide (xs=ys):=by
 by_cases h:xs=ys
 .subst h;rw[ZAQ,pX rfl]
 .rw[uK h]
  by_cases a:xs.length=ys.length
  .rw[OU (by simpa using a)]
   cases c:(List.range (xs.map V.str).length).all λj=>EB ((xs.map V.str).getD j .A9) ((ys.map V.str).getD j .A9)with
   |false=>rfl
   |true=>
    exfalso;apply h;apply List.ext_getElem a;intro j h1 h2;have q:=List.all_eq_true.mp c j (List.mem_range.mpr (by simpa using h1))
    have e:(xs.map V.str)[j]?=some (.str xs[j]):=by rw[Bb,BK h1];rfl
    have d:(ys.map V.str)[j]?=some (.str ys[j]):=by rw[Bb,BK h2];rfl
    rw[Py e,Py d]at q;have b:(xs[j] == ys[j])=true:=q
    simpa using b
  .rw[NZ (by simpa using a)]
theorem jS(h:Wq ss ta λtp xs=>∃ns:List Str,xs=ns.map PV.str/\Wq ss tb λCV ys=>CV=tp/\∃ms:List Str,ys=ms.map PV.str/\k (.bl (if neg then !decide (ns=ms)else decide (ns=ms)))):Wp ss (CB (Qr K neg) ta tb) k:=⟨λE Z F H Q S q=>
 h.go E Z F H _ S λv tp xs F1 H1 b sv⟨ns,g,h2⟩=>h2.go E Z F1 H1 _ b.st λj CV ys F2 H2 a i⟨e,ms,f,kk⟩=>by
  subst g;subst f;subst e;obtain⟨l,vs,rfl,c,r⟩:=(sv.mv a).seq a.st;obtain⟨l2,Kg,rfl,Fp,d⟩:=i.seq a.st;rw[r.strs]at c;rw[d.strs]at Fp;refine⟨l,l2,ns.map V.str,ms.map V.str,rfl,rfl,?_,K2 _,K2 _,?_⟩
  .cases CV
   .exact .inl ⟨Ab.of c,Ab.of Fp⟩
   .exact .inr ⟨AW.of c,AW.of Fp⟩
  .rw[sU];cases neg
   .exact q _ _ F2 H2 (b.trans a) (.bl _) kk
   .exact q _ _ F2 H2 (b.trans a) (.bl _) kk⟩
noncomputable def tyP:PV->String
 | .A9 => "NoneType"
 | .bl _ => "bool"
 | .int _ => "int"
 | .str _ => "str"
 | .lst _ => "list"
 | .tup _ => "tuple"
 | .B2 _ _ => "dict"
 |_ => ""
def Mb:PV->Value
 | .obj _ _ _=>.none
 | .exc _ _ _=>.none
 | .con _ _=>.none
 |p=>.type (tyP p)
theorem Ur(h:PySem.W.kitOne K .none (.type n)=some b):False:=by
 unfold PySem.W.kitOne PySem.W.kitCls PySem.W.subIn at h;simp at h
theorem Rep.ZFd(s:AD F H)(r:Rep F v p)(a:PySem.W.kitOne K (Mb p) (.type n)=some b):FC K H v (Mb p):=by
 cases r with
 |A9=>exact .A9
 |bl b=>exact .bl b
 |int i=>exact .int i
 |str x=>exact .str x
 |lst h _=>exact .lst (s _ _ h)
 |tup h _=>exact .tup (s _ _ h)
 |B2 h _ _=>exact .dK (s _ _ h)
 |obj _ _ _ _=>exact(Ur a).elim
 |N7 _=>exact(Ur a).elim
 |con=>exact(Ur a).elim
 |exc _ _ _ _=>exact(Ur a).elim
theorem m6(h:Wp ss te λp=>∃b,PySem.W.kitOne K (Mb p) (.type n)=some b/\k (.bl b)):Wp ss (DH (mX K) (An te (An (tC (.ty n)) BQ))) k:=⟨λE Z F H Q S q=>
 h.go E Z F H _ S λv p F1 H1 a r AU=>by obtain⟨b,c,kk⟩:=AU;exact⟨v,n,_,b,rfl,r.ZFd a.st.fh c,c,q _ _ F1 H1 a (.bl _) kk⟩⟩
theorem ug(d:r=λxs H Q=>∃i j,xs=[.int i,.int j]/\Q (.int (if j > i then j else i)) H)(h:Wp ss ta λx=>∃i,x=.int i/\Wp ss tb λy=>∃j,y=.int j/\k (.int (if j > i then j else i))):Wp ss (DH r (An ta (An tb BQ))) k:=⟨λE Z F H Q S q=>
 h.go E Z F H _ S λv p F1 H1 a b AU=>by
  obtain⟨i,e,h2⟩:=AU;subst d;subst e;cases b.inv;exact h2.el E a.st λj F2 H2 c kk=>by
   exact⟨i,j,rfl,q _ _ F2 H2 (a.trans c) (.int _) kk⟩⟩
theorem z9(d:r=λxs H Q=>∃i j,xs=[.int i,.int j]/\Q (.int (if j<i then j else i)) H)(h:Wp ss ta λx=>∃i,x=.int i/\Wp ss tb λy=>∃j,y=.int j/\k (.int (if j<i then j else i))):Wp ss (DH r (An ta (An tb BQ))) k:=⟨λE Z F H Q S q=>
 h.go E Z F H _ S λv p F1 H1 a b AU=>by
  obtain⟨i,e,h2⟩:=AU;subst d;subst e;cases b.inv;exact h2.el E a.st λj F2 H2 c kk=>by
   exact⟨i,j,rfl,q _ _ F2 H2 (a.trans c) (.int _) kk⟩⟩
end
structure Src (E:Ent0) (F1:Hp) (J:It) (xs:List PV):Prop where
 go:∀(ss:List Slot)(Z:L2.St)(F H:Hp)(i:Nat),AD F1 F->Sg E ss Z F H->i<xs.length->J.go i H
 stop:∀(ss:List Slot)(Z:L2.St)(F H:Hp),AD F1 F->Sg E ss Z F H->J.stop xs.length H
 Hh:∀(ss:List Slot)(Z:L2.St)(F H:Hp)(i:Nat)(x:V)(H':Hp),AD F1 F->Sg E ss Z F H->i<xs.length->J.Hh i H x H'->∃p F',xs[i]?=some p/\Mv E ss Z F H F' H'/\Rep F' x p
structure Wi [Xw] (ss:List Slot) (wi:TI) (k:List PV->Prop):Prop where
 go:∀(E:Ent)(Z:L2.St)(F H:Hp)(R:It->Hp->Prop),Sg E ss Z F H->(∀J xs F' H',Mv E ss Z F H F' H'->Src E F' J xs->k xs->R J H')->wi Z H R
structure Wg [Xw] (ss:List Slot) (g:TG) (p:PV) (k:List Slot->Prop):Prop where
 go:∀(E:Ent)(Z:L2.St)(F H:Hp)(v:V)(Q:L2.St->Hp->Prop),Sg E ss Z F H->Rep F v p->(∀AI σ',k AI->Sg E AI σ' F H->Q σ' H)->g v Z H Q
section
variable[Xw]
variable{K:ZJa}{k:PV->Prop}{R:Ad}
theorem mR(h:∀(ss:List Slot)(Z:L2.St)(F H:Hp),AD F' F->Sg E ss Z F H->H l=some (IM tp vs))(r:AY F' vs xs):Src E F' (QX K tp l vs) xs where
 go:=λss Z F H i s S hi=>⟨IM.sq (h ss Z F H s S),by rw[r.length];exact hi⟩
 stop:=λss Z F H s S=>⟨IM.sq (h ss Z F H s S),by rw[r.length];exact B4 _⟩
 Hh:=λss Z F H i x H' s S hi y=>by
  obtain⟨e,hx⟩:=y;subst e;obtain⟨p,b,a⟩:=r.get' hx;exact⟨p,F,b,.refl S,a.mono s⟩
theorem QU{k:List PV->Prop}(h:Wz ss te λ_ xs=>k xs):Wi ss (aZ K te) k:=⟨λE Z F H R S q=>
 h.go E Z F H _ S λv tp xs F1 H1 a f kk=>by
  cases tp with
  |true=>
   have c:Rep F1 v (.tup xs):=f;cases c with
   |tup e r=>exact⟨true,_,_,rfl,AW.of (a.st.fh _ _ e),q _ _ F1 H1 a (mR (tp:=true) (λss Z F H s S=>S.fh _ _ (s _ _ e)) r) kk⟩
  |false=>
   obtain⟨l,vs,rfl,h1,r⟩:=f;have b:∀(ss:List Slot)(Z:L2.St)(F H:Hp),AD F1 F->Sg E ss Z F H->H l=some (.lst vs):=λss Z F H s S=>by
    rcases h1 with h1|⟨hA,h1⟩
    .exact S.fh _ _ (s _ _ h1)
    .exact S.keep _ _ hA h1
   exact⟨false,l,vs,rfl,Ab.of (b ss Z F1 H1 (AD.refl _) a.st),q _ _ F1 H1 a (mR (tp:=false) b r) kk⟩⟩
noncomputable def Lj(n:Nat):List PV:=(List.range n).map λi:Nat=>PV.int (i:Int)
theorem Pl(n:Nat):(Lj n).length=n:=by simp[Lj]
theorem ZHK{n:Nat}(h:(Lj n)[i]?=some p):i<n/\p=.int (i:Int):=by
 have hi:i<n:=by have:=(List.getElem?_eq_some_iff.mp h).1;rwa [Pl]at this
 unfold Lj at h;rw[Bb,VG hi]at h;exact⟨hi,(Bs h).symm⟩
theorem ZDh{k:List PV->Prop}(h:Wp ss te λp=>∃j:Int,p=.int j/\j<=1000000/\-1000000<=j/\k (Lj j.toNat)):Wi ss (bB (An te BQ)) k:=⟨λE Z F H R S q=>
 h.el E S λj F1 H1 b a=>by
  obtain⟨h1,h2,kk⟩:=a;refine⟨j,rfl,by omega,by omega,q _ (Lj j.toNat) F1 H1 b ⟨λss Z F H i s S hi=>?_,λss Z F H s S=>?_,λss Z F H i x H' s S hi y=>?_⟩ kk⟩
  .rw[Pl]at hi;exact hi
  .show _<=_;rw[Pl];exact B4 _
  .obtain⟨e,hx⟩:=y;subst e;subst hx;rw[Pl]at hi;refine⟨.int (i:Int),F,?_,.refl S,?_⟩
   .unfold Lj;rw[Bb,VG hi];rfl
   .rw[Int.zero_add];exact .int _⟩
theorem NF{k:List Slot->Prop}(h:k (ss.set j (.is p))):Wg ss (Co j) p k:=⟨λE Z F H v Q S r q=>q _ _ h (S.FP r)⟩
theorem wZ{k:List Slot->Prop}(h:∃a b,p=.tup [a,b]/\k ((ss.set i (.is a)).set j (.is b))):Wg ss (Qo K 2 (IZ (Co i) (IZ (Co j) R9))) p k:=⟨λE Z F H v Q S r q=>by
 obtain⟨a,b,rfl,kk⟩:=h;obtain⟨_,_,rfl,e,r⟩:=r.inv;obtain⟨_,_,rfl,d,r⟩:=r.inv;obtain⟨_,_,rfl,c,r⟩:=r.inv;obtain rfl:=r.DZ;exact⟨_,_,rfl,AW.of (S.fh _ _ e),rfl,_,_,rfl,_,_,rfl,rfl,q _ _ kk ((S.FP d).FP c)⟩⟩
theorem wt{l:Nat}{k:List Slot->Prop}(h:∃a b c,p=.tup [a,b,c]/\k (((ss.set i (.is a)).set j (.is b)).set l (.is c))):Wg ss (Qo K 3 (IZ (Co i) (IZ (Co j) (IZ (Co l) R9)))) p k:=⟨λE Z F H v Q S r q=>by
 obtain⟨a,b,c,rfl,kk⟩:=h;obtain⟨_,_,rfl,e,r⟩:=r.inv;obtain⟨_,_,rfl,g,r⟩:=r.inv;obtain⟨_,_,rfl,f,r⟩:=r.inv;obtain⟨_,_,rfl,d,r⟩:=r.inv;obtain rfl:=r.DZ;exact⟨_,_,rfl,AW.of (S.fh _ _ e),rfl,_,_,rfl,_,_,rfl,_,_,rfl,rfl,q _ _ kk (((S.FP g).FP f).FP d)⟩⟩
theorem Ap{t:TS}(h:Ws ss t (λAI=>Ws AI u nx R) R):Ws ss (MG t u) nx R:=⟨λE D Z F H S hn a=>
 h.go E { D with nx:=u D } Z F H S (λAI σ' F' H' w S' s=>w.go E D σ' F' H' S' (λDt σ2 F2 H2 n2 S2 s2=>hn Dt σ2 F2 H2 n2 S2 (s.trans s2)) a) a⟩
theorem GO{t:TS}(h:Ws ss t nx R):Ws ss (bU t) nx R:=⟨λE D Z F H S hn a=>⟨D.nx,h.go E { D with nx:=D.nx } Z F H S hn a,λ_ _ q=>q⟩⟩
theorem Ws.mono{t:TS}(h:Ws ss t nx R)(i:∀s,nx s->TY s):Ws ss t TY R:=⟨λE D Z F H S hn a=>h.go E D Z F H S (λAI σ' F' H' n=>hn AI σ' F' H' (i _ n)) a⟩
theorem Xf{t:TS}(J:List Slot->Prop)(h:Ws ss t J R)(h2:∀AI,J AI->Ws AI u nx R):Ws ss (MG t u) nx R:=Ap (h.mono h2)
theorem FO(h:Wp ss te λp=>nx (ss.set i (.is p))):Ws ss (FR te (Co i)) nx R:=⟨λE D Z F H S hn b=>
 h.go E Z F H _ S λv p F1 H1 a r kk=>hn _ _ F1 H1 kk (a.st.FP r) a.ff⟩
theorem o7(h:Wp ss te λp=>Wg ss g p nx):Ws ss (FR te g) nx R:=⟨λE D Z F H S hn b=>
 h.go E Z F H _ S λv p F1 H1 a r kk=>kk.go E Z F1 H1 v _ a.st r λAI σ' n S'=>hn _ _ F1 H1 n S' a.ff⟩
theorem Vd(h:Wn ss te λxs=>nx (ss.set i (.own xs))):Ws ss (FR te (Co i)) nx R:=⟨λE D Z F H S hn k=>
 h.go E Z F H _ S λl vs xs F1 H1 a f b QY r kk=>hn _ _ F1 H1 kk (a.st.setG ⟨l,vs,rfl,f,S.Ei b,QY,r⟩ λg e j u _ d c=>by cases e;exact S.UR d b c) a.ff⟩
theorem Bw(h:Wp ss te k):Ws ss (Hy te) nx (.is k):=⟨λE D Z F H S hn b=>
 h.go E Z F H _ S λv p F1 H1 a r kk=>b v F1 H1 a.st.toFin ⟨p,r,kk⟩⟩
theorem OT{k:List PV->Prop}(h:Wn ss te k):Ws ss (Hy te) nx (.new k):=⟨λE D Z F H S hn b=>
 h.go E Z F H _ S λl vs xs F1 H1 a d c QY r kk=>b _ F1 H1 a.st.toFin ⟨l,vs,xs,rfl,d,S.Ei c,QY,r,kk⟩⟩
theorem Bg{c:TT}{t:TS}(h:Wt ss c λb=>if b=true then Ws ss t nx R else Ws ss u nx R):Ws ss (NJ c t u) nx R:=⟨λE D Z F H S hn d=>
 h.go E Z F H _ S λb F1 H1 a w=>by
  show if b=true then _ else _
  cases b with
  |true=>rw[tX rfl]at w ⊢;exact w.go E D Z F1 H1 a.st (λDt σ2 F2 H2 n S2 s2=>hn Dt σ2 F2 H2 n S2 (a.ff.trans s2)) d
  |false=>rw[qg (by decide)]at w ⊢;exact w.go E D Z F1 H1 a.st (λDt σ2 F2 H2 n S2 s2=>hn Dt σ2 F2 H2 n S2 (a.ff.trans s2)) d⟩
theorem AZ(h:nx ss):Ws ss T1 nx R:=⟨λE D Z F H S hn a=>hn ss Z F H h S (AD.refl _)⟩
theorem Jb(h:Wp ss te λ_=>nx ss):Ws ss (Kv te) nx R:=⟨λE D Z F H S hn b=>
 h.go E Z F H _ S λv p F1 H1 a r kk=>hn ss Z F1 H1 kk a.st a.ff⟩
theorem Sg.drop(S:Sg E ss Z F H)(i:Nat):Sg E (ss.set i .any) Z F H:=by
 have EK:∀(j:Nat)u,(ss.set i .any)[j]?=some u->u=.any∨ss[j]?=some u:=λj u a=>by
  by_cases q:j=i
  .subst q;have e:j<ss.length:=by have:=(List.getElem?_eq_some_iff.mp a).1;simpa using this
   rw[Cs e]at a;exact .inl (Bs a).symm
  .rw[CO (BU q)]at a;exact .inr a
 refine⟨S.toFin,by rw[KA];exact S.len,λj u a=>?_,λj k u w l Uy a d c b=>?_⟩
 .rcases EK j u a with rfl|h
  .trivial
  .exact S.ok j u h
 .rcases EK j u a with rfl|h
  .cases c
  .rcases EK k w d with rfl|h2
   .cases b
   .exact S.CJ j k u w l Uy h h2 c b
theorem PX(e:Z[i]?=some (some v)):Z.set i (some v)=Z:=by
 apply cU;intro j
 by_cases q:j=i
 .subst q;rw[Cs (List.getElem?_eq_some_iff.mp e).1,e]
 .rw[CO (BU q)]
theorem Sg.Za(S:Sg E ss Z F H)(j:F a=none)(c:E.H0 a=none∨a∈E.B)(hn:∀(i:Nat)s,ss[i]?=some s->¬ Bl s Z[i]? a):Sg E ss Z F (upd H a o):=by
 have f:∀b u,b≠a->H b=some u->upd H a o b=some u:=λb u h e=>by rw[Aa h];exact e
 refine⟨⟨λb u e=>?_,S.f0,λb u d e=>?_,S.fresh,λb d=>?_,S.Ll,S.a0,S.bF,λb g=>?_,S.b0⟩,S.len,λi s hi=>?_,S.CJ⟩
 .exact f b u (Dg e j) (S.fh b u e)
 .refine f b u ?_ (S.keep b u d e);rintro rfl;rcases c with c|c
  .rw[c]at e;cases e
  .exact d.2 c
 .refine CG.keep (S.HP b d) λu e=>f b u ?_ e;rintro rfl;rcases c with c|c
  .exact S.a0 _ d c
  .exact(S.b0 _ c).2 d
 .by_cases q:b=a
  .subst q;rw[AX];simp
  .rw[Aa q];exact S.bH b g
 .by_cases np:s=.AS
  .subst np;obtain⟨l,e,p,n,k⟩:=S.ok i _ hi;exact⟨l,e,p,n,CG.keep k λu h=>f l u (by rintro rfl;exact hn i _ hi e) h⟩
  .exact Ok.go S hi (AD.refl _) (λb u m h=>f b u (by rintro rfl;exact hn i _ hi m) h) (λ_ _ h=>h) np
theorem Sg.put(S:Sg E ss Z F H){ys:List PV}(hi:ss[i]?=some (.own xs))(e:Z[i]?=some (some (.ref l)))(f:F l=none)(d:E.H0 l=none)(r:AY F Ca ys):Sg E (ss.set i (.own ys)) Z F (upd H l (.lst Ca)):=by
 have a:∀(j:Nat)s,(ss.set i .any)[j]?=some s->¬ Bl s Z[j]? l:=λj s b c=>by
  by_cases q:j=i
  .subst q;have p:j<ss.length:=(List.getElem?_eq_some_iff.mp hi).1;rw[Cs p]at b;cases b;cases c
  .rw[CO (BU q)]at b;exact S.CJ j i s _ l q b hi c e
 have n:=(S.drop i).Za (o:=.lst Ca) f (.inl d) a;have g:=n.setG (j:=i) (s:=.own ys) (v:=.ref l) ⟨l,Ca,rfl,f,d,AX,r⟩ λt m j u b k h=>by cases m;exact a j u k h
 rw[PX e,VL]at g;exact g
theorem ZC3(hi:ss[i]?=some (.own xs))(h:Wp ss te λp=>xs.length<=99999/\nx (ss.set i (.own (xs++[p])))):Ws ss (Kv (NW K "list" WD (BW i) (An te BQ))) nx R:=⟨λE D Z F H S hn m=>by
 obtain⟨l,vs,e,o,n,g,r⟩:=S.ok i _ hi;refine⟨_,e,.inl ⟨rfl,_,Ab.of g⟩,h.go E Z F H _ S λv p F1 H1 a d⟨f,kk⟩=>?_⟩;obtain⟨k,Ca,c,Et,DA,j,b⟩:=a.st.ok i _ hi;rw[e]at c;cases c;refine⟨l,Ca,v,rfl,rfl,j,Wd (by rw[b.length];exact f),?_⟩;exact hn _ Z F1 _ kk (a.st.put hi e Et DA (b.append (.one d))) a.ff⟩
noncomputable def CN(F H:Hp)(as:List Addr):Hp:=λa=>if a∈as then H a else F a
theorem Sg.lay(S:Sg E ss Z F H)(as:List Addr)(g:∀a∈as,F a=none/\E.H0 a=none/\H a≠none)(hn:∀a∈as,∀(i:Nat)s,ss[i]?=some s->¬ Bl s Z[i]? a):Sg E ss Z (CN F H as) H/\AD F (CN F H as):=by
 have x:∀a,a∈as->CN F H as a=H a:=λa h=>tX h;have j:∀a,a∉as->CN F H as a=F a:=λa h=>qg h;have ff:AD F (CN F H as):=λa o e=>by
  by_cases q:a∈as
  .rw[(g a q).1]at e;cases e
  .rw[j a q];exact e
 have f:∀a,a∉as->F a=none->CN F H as a=none:=λa q h=>by rw[j a q];exact h
 refine⟨⟨⟨λa o e=>?_,S.f0.trans ff,S.keep,λa o e=>?_,S.HP,λa w=>?_,S.a0,λa u=>?_,S.bH,S.b0⟩,S.len,λi s hi=>?_,S.CJ⟩,ff⟩
 .by_cases q:a∈as
  .rw[x a q]at e;exact e
  .rw[j a q]at e;exact S.fh a o e
 .by_cases q:a∈as
  .exact .inr (g a q).2.1
  .rw[j a q]at e;exact S.fresh a o e
 .exact f a (λq=>S.a0 a w (g a q).2.1) (S.Ll a w)
 .exact f a (λq=>(S.b0 a u).1 (g a q).2.1) (S.bF a u)
 .have l:∀a,Bl s Z[i]? a->a∉as:=λa m q=>hn a q i s hi m;have kk:=S.ok i s hi;cases s with
  |any=>trivial
  |is p=>obtain⟨v,e,r⟩:=kk;exact⟨v,e,r.mono ff⟩
  |own ys=>
   obtain⟨b,ws,q,d,c,k,r⟩:=kk;exact⟨b,ws,q,f b (l b q) d,c,k,r.mono ff⟩
  |AS=>
   obtain⟨b,q,d,c,k⟩:=kk;exact⟨b,q,f b (l b q) d,c,k⟩
  |sq tp ys=>
   cases tp with
   |true=>obtain⟨v,e,r⟩:=kk;exact⟨v,e,r.mono ff⟩
   |false=>obtain⟨b,ws,q,d,c,r⟩:=kk;exact⟨b,ws,q,d,c,r.mono ff⟩
  |raw P=>obtain⟨v,e,r,st⟩:=kk;exact⟨v,e,st _ _ ff r,st⟩
  |ow lt t=>
   obtain⟨v,e,r,nd,q⟩:=kk;exact⟨v,e,r.mono ff λa _ o h=>h,nd,λa n=>⟨f a (l a n) (q a n).1,(q a n).2⟩⟩
theorem V2{t:TS}(i:Nat)(hi:ss[i]?=some (.own xs))(h:Ws (ss.set i (.is (.lst xs))) t nx R):Ws ss t nx R:=⟨λE D Z F H S hn g=>by
 obtain⟨l,vs,e,o,k,f,r⟩:=S.ok i _ hi;have one:∀a,a∈[l]->a=l:=λa h=>by simpa using h
 obtain⟨S1,d⟩:=(S.drop i).lay [l] (λa h=>by rw[one a h,f];exact⟨o,k,by simp⟩) λa h j s b m=>by
  rw[one a h]at m
  by_cases q:j=i
  .subst q;rw[Cs (List.getElem?_eq_some_iff.mp hi).1]at b;cases b;cases m
  .rw[CO (BU q)]at b;exact S.CJ j i s _ l q b hi m e
 have c:=S1.FP (j:=i) (v:=.ref l) (p:=.lst xs) (.lst (by unfold CN;rw[tX (by simp)];exact f) (r.mono d));rw[PX e,VL]at c;exact h.go E D Z _ H c (λDt σ2 F2 H2 n c s2=>hn Dt σ2 F2 H2 n c (d.trans s2)) g⟩
theorem MH{tb:TS}(I:List PV->Nat->List Slot->Prop)(h:Wi ss wi λxs=>I xs 0 ss/\(∀(i:Nat)p AI,xs[i]?=some p->I xs i AI->Wg AI g p λDt=>Ws Dt tb (I xs (i+1)) R)/\∀AI,I xs xs.length AI->nx AI):Ws ss (ZD wi g tb) nx R:=⟨λE D Z F H S hn u=>
 h.go E Z F H _ S λJ xs F1 H1 l f AU=>by
  obtain⟨i0,t,hd⟩:=AU;refine⟨λi m σ' H'=>m=xs.length - i/\i<=xs.length/\∃AI F',I xs i AI/\Sg E AI σ' F' H'/\AD F1 F',⟨_,rfl,Ct _,ss,F1,i0,l.st,AD.refl _⟩,?_⟩;rintro i m σ' H'⟨rfl,hi,AI,F',n,S',s'⟩
  by_cases j:i<xs.length
  .refine .inr ⟨f.go AI σ' F' H' i s' S' j,λσ2 H2=>∃Dt F2,I xs (i+1) Dt/\Sg E Dt σ2 F2 H2/\AD F1 F2,λσ2 H2 JT=>by obtain⟨Dt,F2,a,b,c⟩:=JT;exact⟨_,by omega,rfl,j,Dt,F2,a,b,c⟩,λx H3 y=>?_⟩;obtain⟨p,F3,v,k,r⟩:=f.Hh AI σ' F' H' i x H3 s' S' j y;refine(t i p AI v n).go E σ' F3 H3 x _ k.st r λo σ4 w S4=>?_;exact w.go E _ σ4 F3 H3 S4 (λd σ5 F5 H5 s S5 q=>⟨d,F5,s,S5,(s'.trans k.ff).trans q⟩) u
  .have e:i=xs.length:=by omega
   subst e;exact .inl ⟨f.stop AI σ' F' H' s' S',hn AI σ' F' H' (hd AI n) S' (l.ff.trans s')⟩⟩
end
noncomputable def ET(js:List Nat)(ss:List Slot):List Slot:=js.map λj=>(ss[j]?).getD .any
def Yy(js:List Nat)(ss:List Slot):Bool:=js.all λj=>match ss[j]? with
 |some .AS=>false
 |_=>true
section
variable[Xw]
variable{K:ZJa}{js:List Nat}
theorem ZAS(h:js[i]?=some j)(e:(ET js ss)[i]?=some s):s=(ss[j]?).getD .any:=by
 unfold ET at e;rw[Bb,h]at e;exact(Bs e).symm
theorem Sg.As(S:Sg E ss Z F H)(nd:js.Nodup)(r:AY F vs ps):Sg E (ET js ss++ps.map .is) (C1 js Z++vs.map some) F H:=by
 have c:(ET js ss).length=js.length:=by simp[ET]
 have d:(C1 js Z).length=js.length:=by simp[C1]
 have EK:∀(i:Nat)(hi:i<js.length),(ET js ss++ps.map .is)[i]?=some ((ss[js[i]]?).getD .any)/\(C1 js Z++vs.map some)[i]?=some ((Z[js[i]]?).join):=λi hi=>by
  rw[IA (by rw[c];exact hi),IA (by rw[d];exact hi)];unfold ET C1;rw[Bb,Bb,BK hi];exact⟨rfl,rfl⟩
 have at2:∀(i:Nat)s,js.length<=i->(ET js ss++ps.map .is)[i]?=some s->∃p v,s=.is p/\(C1 js Z++vs.map some)[i]?=some (some v)/\Rep F v p:=λi s hi e=>by
  rw[K9 (by rw[c];exact hi),c,Bb]at e;rw[K9 (by rw[d];exact hi),d,Bb];cases q:ps[i - js.length]? with
  |none=>rw[q]at e;cases e
  |some p=>
   rw[q]at e;obtain⟨v,g,f⟩:=r.get q;rw[g];exact⟨p,v,(Bs e).symm,rfl,f⟩
 have B:∀(s:Slot)(m:Nat)(l:Addr),Bl s (some (Z[m]?).join) l->Bl s Z[m]? l:=λs m l o=>by
  have k:∀l,some (Z[m]?).join=some (some (V.ref l))->Z[m]?=some (some (.ref l)):=λl e=>by
   cases q:Z[m]? with
   |none=>rw[q]at e;cases e
   |some o=>rw[q]at e;cases o with
    |none=>cases e
    |some v=>simpa using e
  cases s with
  |own xs=>exact k l o
  |AS=>exact k l o
  |ow lt t=>exact o
  |_=>exact o
 have h:∀(i:Nat)s l,(ET js ss++ps.map .is)[i]?=some s->Bl s (C1 js Z++vs.map some)[i]? l->∃hi:i<js.length,ss[js[i]]?=some s/\Bl s Z[js[i]]? l:=λi s l e m=>by
  by_cases hi:i<js.length
  .rw[(EK i hi).2]at m;refine⟨hi,?_,B s _ l m⟩;rw[(EK i hi).1]at e;cases q:ss[js[i]]? with
   |none=>rw[q]at e;cases e;cases m
   |some u=>rw[q]at e;exact e
  .obtain⟨p,v,rfl,_⟩:=at2 i s (by omega) e;cases m
 refine⟨S.toFin,?_,λi s e=>?_,λi j s u l FZ hi A ms z=>?_⟩
 .rw[CP,CP,c,d,AK,AK,r.length]
 .by_cases hi:i<js.length
  .obtain⟨a,b⟩:=EK i hi;rw[a]at e;rw[b];cases q:ss[js[i]]? with
   |none=>rw[q]at e;cases e;trivial
   |some u=>
    rw[q]at e;have C:u=s:=Bs e;subst C;have kk:=S.ok _ _ q;cases u with
    |any=>trivial
    |is p=>obtain⟨v,e,r⟩:=kk;rw[e];exact⟨v,rfl,r⟩
    |own xs=>obtain⟨l,vs,e,r⟩:=kk;rw[e];exact⟨l,vs,rfl,r⟩
    |AS=>obtain⟨l,e,r⟩:=kk;rw[e];exact⟨l,rfl,r⟩
    |sq tp xs=>
     cases tp with
     |true=>obtain⟨v,e,r⟩:=kk;rw[e];exact⟨v,rfl,r⟩
     |false=>obtain⟨l,vs,e,r⟩:=kk;rw[e];exact⟨l,vs,rfl,r⟩
    |raw P=>obtain⟨v,e,r⟩:=kk;rw[e];exact⟨v,rfl,r⟩
    |ow lt t=>obtain⟨v,e,r⟩:=kk;rw[e];exact⟨v,rfl,r⟩
  .obtain⟨p,v,rfl,g,f⟩:=at2 i s (by omega) e;rw[g];exact⟨v,rfl,f⟩
 .obtain⟨G,w,y⟩:=h i s l hi ms;obtain⟨D,n,x⟩:=h j u l A z;refine S.CJ js[i] js[j] s u l (λe=>FZ ?_) w n y x;exact(ZIJ nd).mp e
theorem Mv.out(S:Sg E ss Z F H)(np:Yy js ss=true)(m:Mv E (ET js ss++ps.map .is) τ F H F' H'):Mv E ss Z F H F' H':=by
 have nn:∀a,DI (ET js ss++ps.map .is) τ a:=λa i hi _=>by
  by_cases h:i<(ET js ss).length
  .rw[IA h]at hi;have c:i<js.length:=by simpa[ET]using h
   have q:=ZAS (BK c) hi;have z:=List.all_eq_true.mp np js[i] (Mn c);cases w:ss[js[i]]? with
   |none=>rw[w]at q;cases q
   |some u=>rw[w]at q z;cases q;cases z
  .rw[K9 (by omega),Bb]at hi;cases w:ps[i - (ET js ss).length]? with
   |none=>rw[w]at hi;cases hi
   |some p=>rw[w]at hi;cases hi
 have b:∀a o,H a=some o->H' a=some o:=λa o e=>m.hh a o (nn a) e;exact S.step m.ff m.st.fh (λa o _ e=>b a o e) m.nn λi l hi e=>CG.keep (S.FW hi e) λo e=>b l o e
theorem lJ{tt:TT}{k:List PV->Prop}(f:PV->Bool)(g:PV->PV)
  (h:Wi ss wi λxs=>xs.length<=100000/\(∀x∈xs,Wt (ET js ss++[.is x]) tt λb=>b=f x)/\(∀x∈xs,f x=true->Wp (ET js ss++[.is x]) te λp=>p=g x)/\k ((xs.filter f).map g))
  (nd:js.Nodup:=by decide) (np:Yy js ss=true:=by rfl):Wn ss (N3 wi js tt te) k:=⟨λE Z F H Q S q=>
 h.go E Z F H _ S λJ xs F1 H1 d C⟨hz,σ,he,kk⟩acc BJ=>by
  have V:DI ss Z acc:=d.st.P1 BJ;have L:=d.st.Ei BJ;have D:∀(i:Nat)s,ss[i]?=some s->¬ Bl s Z[i]? acc:=λi s hi=>d.st.UR hi BJ;refine⟨λi m H2=>m=xs.length - i/\i<=xs.length/\∃F2 vs,Mv E ss Z F1 H1 F2 H2/\F2 acc=none/\H2 acc=some (.lst vs)/\AY F2 vs (((xs.take i).filter f).map g),⟨_,rfl,Ct _,F1,[],d.st.make BJ _,d.st.CC BJ,AX,.nil⟩,?_⟩;rintro i m H2⟨rfl,hi,F2,vs,c,T,z,t⟩
  by_cases r:i<xs.length
  .refine .inr ⟨C.go ss Z F2 H2 i c.ff c.st r,λx H3 y=>?_⟩;obtain⟨p,F3,K,u,M⟩:=C.Hh ss Z F2 H2 i x H3 c.ff c.st r y;have N:p∈xs:=EL K;have OS:(xs.take (i+1))=xs.take i++[p]:=by
    have e2:xs[i]=p:=by rw[BK r]at K;exact Bs K
    rw[VM r,e2]
   have U:List.filter f (xs.take (i+1))=(xs.take i).filter f++(if f p=true then[p]else[]):=by
    rw[OS,cV];congr 1
    by_cases j:f p=true <;> simp[j]
   have R:∀{F4:Hp},(∀a o,F4 a=some o->F2 a=some o∨H2 a=none)->F4 acc=none:=λ{F4}n=>by
    cases e:F4 acc with
    |none=>rfl
    |some o=>
     rcases n acc o e with w|w
     .rw[T]at w;cases w
     .rw[z]at w;cases w
   have S3:=u.st.As (js:=js) nd (.one M);refine(σ p N).go E _ F3 H3 _ S3 λb F4 H4 I hb=>?_;have l:=u.trans (I.out (ps:=[p]) u.st np);show if b=true then _ else _
   rw[hb]
   by_cases j:f p=true
   .rw[tX j];have S4:=l.st.As (js:=js) nd (.one (M.mono (I.out (ps:=[p]) u.st np).ff));refine(he p N j).go E _ F4 H4 _ S4 λw pw F5 H5 X P ew=>?_;have Y:=I.out (ps:=[p]) u.st np;have G:=X.out (ps:=[p]) l.st np;have A:=l.trans G;have W:=A.hh acc _ V z;have O:=R A.nn;have v:vs.length<=99999:=by
     rw[t.length,AK];have:=Of f (xs.take i);rw[DM]at this;omega
    refine⟨vs,W,Wd v,xs.length - (i+1),by omega,rfl,r,F5,vs++[w],?_,O,AX,?_⟩
    .have B:=c.trans A;refine⟨B.st.Za O (.inl L) D,B.ff,λa o n e=>?_,B.nn⟩;rw[Aa (Dg e BJ)];exact B.hh a o n e
    .rw[U,tX j,Ec];rw[ew]at P;exact(t.mono A.ff).append (.one P)
   .have ZS:f p=false:=by simpa using j
    rw[ZS,qg (by decide)];refine⟨xs.length - (i+1),by omega,rfl,r,F4,vs,c.trans l,R l.nn,l.hh acc _ V z,?_⟩;rw[U,qg j,G4];exact t.mono l.ff
  .have e:i=xs.length:=by omega
   subst e;refine .inl ⟨C.stop ss Z F2 H2 c.ff c.st,q acc vs _ F2 H2 (d.trans c) T (d.none BJ) z ?_ kk⟩;rw[Mo]at t;exact t⟩
end
abbrev Pre:=List Slot->Ad->Prop
def B6(pre:Pre):Sp:=λvs H Q _=>∃(ss:List Slot)(R:Ad)(F:Hp)(A:List Addr),pre ss R/\Sg (E3 A F H) ss (vs.map some) F H/\∀v F' H',Fin (E3 A F H) F' H'->R.ok (E3 A F H) F' H' v->Q v H'
section
variable[Xw]
variable{pre:Pre}{k:PV->Prop}
theorem J1.at{l:List Slot}(h:J1 ss Z F H vs l):∀{i:Nat}{s:Slot},l[i]?=some s->∃v,vs[i]?=some v/\Av ss Z F H v s:=by
 induction h with
 |nil=>intro i s e;simp at e
 |cons a _ b=>
  intro i s e;cases i with
  |zero=>simp at e;subst e;exact⟨_,rfl,a⟩
  |succ i=>exact b (by simpa using e)
theorem J1.len{l:List Slot}(h:J1 ss Z F H vs l):l.length=vs.length:=by
 induction h with
 |nil=>rfl
 |cons a _ b=>rw[Ck,Ck,b]
theorem Av.ok(S:Sg E ss Z F H)(a:Av ss Z F H v s)(b:∀l,DI ss Z l->l∉A):Ok (E3 A F H) F H s (some (some v))/\∀o l,¬ Bl s o l:=by
 cases s with
 |is p=>exact⟨⟨v,rfl,a⟩,λ_ _ z=>z⟩
 |sq tp xs=>
  cases tp with
  |true=>exact⟨⟨v,rfl,a⟩,λ_ _ z=>z⟩
  |false=>obtain⟨l,vs,rfl,n,h,r⟩:=a;exact⟨⟨l,vs,rfl,⟨b l n,BA⟩,h,r⟩,λ_ _ z=>z⟩
 |raw P=>exact⟨⟨v,rfl,a⟩,λ_ _ z=>z⟩
 |any=>exact a.elim
 |own xs=>exact a.elim
 |AS=>exact a.elim
 |ow lt t=>exact a.elim
theorem Sg.Nf(S:Sg E ss Z F H){l:List Slot}(a:J1 ss Z F H vs l):Sg (E3 [] F H) l (vs.map some) F H:=by
 have nn:∀{p:Prop}(a:Addr),a∈([]:List Addr)->p:=λa h=>absurd h BA;refine⟨⟨S.fh,AD.refl _,λ_ _ _ e=>e,λ_ _ e=>.inl e,λa h=>nn a h,λa h=>nn a h,λa h=>nn a h,λa h=>nn a h,λa h=>nn a h,λa h=>nn a h⟩,by rw[AK];exact a.len,λi s hi=>?_,λi j s u l FZ hi d ms c=>?_⟩
 .obtain⟨v,b,q⟩:=a.at hi;rw[Bb,b];exact(q.ok S λ_ _ h=>absurd h BA).1
 .obtain⟨v,b,q⟩:=a.at hi;exact(q.ok S (A:=[]) λ_ _ h=>absurd h BA).2 _ _ ms
theorem Sg.ZFn(S:Sg E ss Z F H){p:Addr}(hi:ss[i0]?=some .AS)(e:Z[i0]?=some (some (.ref p))){l:List Slot}(a:J1 ss Z F H vs l):Sg (E3 [p] F H) (.AS::l) ((V.ref p::vs).map some) F H:=by
 obtain⟨t,g,fp,_,b⟩:=S.ok i0 _ hi;rw[e]at g;cases g;have f:∀l,DI ss Z l->l∉[p]:=λl n h=>by
  have:l=p:=by simpa using h
  subst this;exact n i0 hi e
 have one:∀a,a∈[p]->a=p:=λa h=>by simpa using h
 have nn:∀{p:Prop}(a:Addr),a∈([]:List Addr)->p:=λa h=>absurd h BA;refine⟨⟨S.fh,AD.refl _,λ_ _ _ e=>e,λ_ _ e=>.inl e,λa h=>(one a h)▸b,λa h=>(one a h)▸fp,λa h=>?_,λa h=>nn a h,λa h=>nn a h,λa h=>nn a h⟩,by rw[AK,Ck,Ck];rw[a.len],λi s hi=>?_,λi j s u c FZ hi r ms k=>?_⟩
 .rw[one a h];obtain⟨_,_,q,_⟩:=b;show H p≠none;rw[q];simp
 .cases i with
  |zero=>simp at hi;subst hi;exact⟨p,rfl,fp,.inr (by simp),b⟩
  |succ i=>
   obtain⟨v,d,q⟩:=a.at (i:=i) (s:=s) (by simpa using hi)
   have:((V.ref p::vs).map some)[i+1]?=some (some v):=by rw[CA,List.getElem?_cons_succ,Bb,d];rfl
   rw[this];exact(q.ok S f).1
 .have z:∀(i:Nat)s o c,(Slot.AS::l)[i]?=some s->Bl s o c->i=0:=λi s o c h m=>by
   cases i with
   |zero=>rfl
   |succ i=>
    obtain⟨v,d,q⟩:=a.at (i:=i) (s:=s) (by simpa using h)
    exact((q.ok S f).2 _ _ m).elim
  exact absurd ((z i s _ _ hi ms).trans (z j u _ _ r k).symm) FZ
theorem Sg.back(S:Sg E ss Z F H)(d:∀a,a∈A->∃i:Nat,ss[i]?=some .AS/\Z[i]?=some (some (.ref a)))(f:Fin (E3 A F H) F' H'):Mv E ss Z F H F' H':=by
 refine S.step f.f0 f.fh (λa o n e=>f.keep a o ⟨λh=>?_,BA⟩ e) f.fresh λi l hi e=>?_
 .obtain⟨i,c,b⟩:=d a h;exact n i c b
 .by_cases q:l∈A
  .exact f.HP l q
  .exact CG.keep (S.FW hi e) λo e=>f.keep l o ⟨q,BA⟩ e
theorem wp_call(h:Wa ss t λl=>∃k',pre l (.is k')/\∀p,k' p->k p):Wp ss (ES (B6 pre) [] E0 t) k:=⟨λE Z F H Q S q=>
 h.go E Z F H _ S λvs l F1 H1 b a⟨k',c,kk⟩=>by
  rw[G4];refine⟨l,.is k',F1,[],c,b.st.Nf a,λv F' H' f⟨p,r,kp⟩=>?_⟩;exact q v p F' H' (b.trans (b.st.back (λ_ h=>absurd h BA) f)) r (kk p kp)⟩
theorem Ov{k:List PV->Prop}(h:Wa ss t λl=>∃k',pre l (.new k')/\∀xs,k' xs->k xs):Wn ss (ES (B6 pre) [] E0 t) k:=⟨λE Z F H Q S q=>
 h.go E Z F H _ S λvs l F1 H1 b a⟨k',d,kk⟩=>by
  rw[G4];refine⟨l,.new k',F1,[],d,b.st.Nf a,λv F' H' f⟨l,vs,xs,e,i,g,CM,r,c⟩=>?_⟩;subst e;exact q l vs xs F' H' (b.trans (b.st.back (λ_ h=>absurd h BA) f)) i (b.none g) CM r (kk xs c)⟩
theorem QN(hi:ss[i]?=some .AS)(h:Wa ss t λl=>∃k',pre (.AS::l) (.is k')/\∀p,k' p->k p):Wp ss (ES (B6 pre) [] E0 (An (BW i) t)) k:=⟨λE Z F H Q S q=>by
 obtain⟨p,e,_⟩:=S.ok i _ hi;refine⟨_,e,h.go E Z F H _ S λvs l F1 H1 b a⟨k',c,kk⟩=>?_⟩;show B6 pre ((V.ref p::vs)++[]) H1 Q E0;rw[G4];refine⟨.AS::l,.is k',F1,[p],c,b.st.ZFn hi e a,λv F' H' f⟨pv,r,kp⟩=>?_⟩;exact q v pv F' H' (b.trans (b.st.back (A:=[p]) (λa h=>⟨i,hi,(show a=p from by simpa using h)▸e⟩) f)) r (kk pv kp)⟩
theorem Sg.grown(S:Sg E ss Z F H)(n:Nat):Sg E (ss++List.replicate n .any) (Z++List.replicate n none) F H:=by
 have EK:∀(i:Nat)s,(ss++List.replicate n .any)[i]?=some s->s≠.any->ss[i]?=some s/\(Z++List.replicate n none)[i]?=Z[i]?:=λi s e k=>by
  by_cases h:i<ss.length
  .rw[IA h]at e;rw[IA (by rw[<- S.len];exact h)];exact⟨e,rfl⟩
  .rw[K9 (by omega),ot]at e;split at e
   .exact absurd (Bs e).symm k
   .cases e
 refine⟨S.toFin,by simp[S.len],λi s e=>?_,λi j s u l FZ hi m ms f=>?_⟩
 .cases s with
  |any=>trivial
  |_=>obtain⟨a,b⟩:=EK i _ e (by simp);rw[b];exact S.ok i _ a
 .have ns:s≠.any:=by rintro rfl;cases ms
  have g:u≠.any:=by rintro rfl;cases f
  obtain⟨a,b⟩:=EK i s hi ns;obtain⟨c,d⟩:=EK j u m g;rw[b]at ms;rw[d]at f;exact S.CJ i j s u l FZ a c ms f
end
section
variable{pre:Pre}{k:PV->Prop}
noncomputable def U3(E:Ent0):Ent:=⟨E,λ_ _ _ _ _ _ _ _ _ d=>d.elim⟩
theorem ZBw{N:List Str}{n:Nat}{t:TS}(h:B6 pre vs H Q X)(c:∀ss R,pre ss R->ss.length=n)
  (hw:∀ss R,pre ss R->Ws (ss++List.replicate (N.length - n) .any) t (λ_=>∃k,R=.is k/\k .A9) R):t { nx:=λ_ H'=>Q .A9 H',rt:=Q } (L2.start N vs) H:=by
 obtain⟨ss,R,F,A,a,S,q⟩:=h;have e:vs.length=n:=by have:=S.len;rw[AK]at this;rw[<- this];exact c ss R a
 unfold L2.start;rw[e];refine(hw ss R a).go (U3 (E3 A F H)) _ _ F H (S.grown _) (λAI σ' F' H'⟨k,e,b⟩S' _=>?_) λv F' H' f ok=>q v F' H' f ok;subst e;exact q .A9 F' H' S'.toFin ⟨.A9,.A9,b⟩
theorem ZBN{n:Nat}(b:∀ss R,pre ss R->ss.length=n)(h:B6 pre vs H Q X):vs.length=n:=by
 obtain⟨ss,R,F,A,a,S,q⟩:=h;have:=S.len;rw[AK]at this;rw[<- this];exact b ss R a
end
end Fz
namespace Lw
open L2
variable{HC l ns ss:List Str}{r x:Str}
theorem R5:∀l:List Nat,¬ l<l
 | [],h=>by simp at h
 |a::r,h=>by
  rw[cS]at h;rcases h with h|⟨_,h⟩
  .omega
  .exact R5 r h
theorem U1:∀{a b c:List Nat},a<b->b<c->a<c
 |_,[],_,h,_=>by simp at h
 |_,_::_,[],_,h=>by simp at h
 | [],_::_,_::_,_,_=>by simp
 |a::r,b::s,c::t,h,h'=>by
  rw[cS]at h h' ⊢;rcases h with h|⟨rfl,h⟩
  .rcases h' with h'|⟨rfl,h'⟩
   .left;omega
   .left;exact h
  .rcases h' with h'|⟨rfl,h'⟩
   .left;exact h'
   .right;exact⟨rfl,U1 h h'⟩
theorem lR:∀a b:List Nat,a<b∨a=b∨b<a
 | [],[]=>.inr (.inl rfl)
 | [],_::_=>.inl (by simp)
 |_::_,[]=>.inr (.inr (by simp))
 |a::r,b::s=>by
  rw[cS,cS];rcases cw a b with h|rfl|h
  .exact .inl (.inl h)
  .rcases lR r s with h|rfl|h
   .exact .inl (.inr ⟨rfl,h⟩)
   .exact .inr (.inl rfl)
   .exact .inr (.inr (.inr ⟨rfl,h⟩))
  .exact .inr (.inr (.inl h))
abbrev Ji(a b:Str):Prop:=a.cps.toList<b.cps.toList
theorem Z5(a b:Str):Ji a b∨a=b∨Ji b a:=by
 rcases lR a.cps.toList b.cps.toList with h|h|h
 .exact .inl h
 .exact .inr (.inl (u3 h))
 .exact .inr (.inr h)
abbrev Up(ss:List Str):Prop:=ss.Pairwise Ji
theorem ki(h:Up ss):ss.Nodup:=by
 refine List.Pairwise.imp (λ{a b}(EV:Ji a b)(e:a=b)=>?_) h;subst e;exact R5 _ EV
theorem kT:∀(l:List Str)(p:Str),risingS p l=true->(∀x∈l,¬ Ji x p)/\l.Pairwise λa b=>¬ Ji b a
 | [],p,_=>⟨λx hx=>absurd hx (by simp),.nil⟩
 |y::r,p,h=>by
  have h1:(!ltCps y.cps.toList p.cps.toList && risingS y r)=true:=h;rw[Dm,ltCps_eq]at h1;have c:¬ Ji y p:=by
   intro z;rw[pX z]at h1;exact absurd h1.1 (by decide)
  obtain⟨h2,d⟩:=kT r y h1.2;refine⟨λx hx=>?_,List.pairwise_cons.mpr ⟨λx hx=>h2 x hx,d⟩⟩;rcases List.mem_cons.mp hx with rfl|hx
  .exact c
  .intro z;rcases Z5 y p with q|q|q
   .exact c q
   .exact h2 x hx (q▸z)
   .exact h2 x hx (U1 z q)
theorem zi(h:sortedS l=true):l.Pairwise λa b=>¬ Ji b a:=by
 cases l with
 |nil=>exact .nil
 |cons x r=>
  obtain⟨h1,h2⟩:=kT r x h;exact List.pairwise_cons.mpr ⟨h1,h2⟩
theorem mY(h:sortedS l=true)(nd:l.Nodup):Up l:=by
 have w:=zi h;have q:=List.Pairwise.and w nd;refine q.imp λ{a b}EV=>?_;rcases Z5 a b with z|z|z
 .exact z
 .exact absurd z EV.2
 .exact absurd z EV.1
theorem bX:∀{as bs:List Str},Up as->Up bs->(∀x,x∈as↔x∈bs)->as=bs
 | [],[],_,_,_=>rfl
 | [],b::bs,_,_,h=>absurd ((h b).mpr DC) (by simp)
 |a::as,[],_,_,h=>absurd ((h a).mp DC) (by simp)
 |a::as,b::bs,ha,hb,h=>by
  obtain⟨d,g⟩:=List.pairwise_cons.mp ha;obtain⟨c,f⟩:=List.pairwise_cons.mp hb;have e:a=b:=by
   rcases List.mem_cons.mp ((h a).mp DC)with z|z
   .exact z
   .rcases List.mem_cons.mp ((h b).mpr DC)with y|y
    .exact y.symm
    .exact absurd (U1 (d b y) (c a z)) (R5 _)
  subst e
  congr 1
  refine bX g f λx=>⟨λhx=>?_,λhx=>?_⟩
  .rcases List.mem_cons.mp ((h x).mp (Dd _ hx))with z|z
   .exact absurd (z▸d x hx) (R5 _)
   .exact z
  .rcases List.mem_cons.mp ((h x).mpr (Dd _ hx))with z|z
   .exact absurd (z▸c x hx) (R5 _)
   .exact z
theorem JE:∀{as bs:List Str},as.Nodup->(∀x∈as,x∈bs)->as.length<=bs.length
 | [],_,_,_=>Ct _
 |a::as,bs,nd,h=>by
  obtain⟨h1,h2⟩:=List.nodup_cons.mp nd;have b:=h a DC;have q:=JE (bs:=bs.erase a) h2 λx hx=>(ZIQ (λe:x=a=>h1 (by rw[<- e];exact hx))).mpr (h x (Dd _ hx));have e:=ZIL b;have p:=ZIM b;simp only[Ck];omega
noncomputable def KP:List Str:=["none","ahead","all"]
theorem eB{j:Int}(c:0<=j)(h1:j<3):∃r,Bt (KP.map V.str) j=some (.str r)/\r∈KP:=by
 obtain⟨x,a,b,_⟩:=aU (ns:=KP) c h1;exact⟨x,a,b⟩
noncomputable def ND(ss:List Str)(x:Str):Bool:=decide (x∈ss)
def GD(ns:List Str)(g:Nat)(ss:List Str):List Str:=(ns.drop g).filter (ND ss)++(ns.take g).filter (ND ss)
theorem uw(ns:List Str)(g:Nat)(ss:List Str):(ns.drop g++ns.take g).filter (ND ss)=GD ns g ss:=cV ..
theorem RO{g:Nat}:x∈GD ns g ss↔x∈ns/\x∈ss:=by
 unfold GD;rw[JR,p4,p4];have e:(x∈ns)↔(x∈ns.take g∨x∈ns.drop g):=by
  rw[<- JR,LR]
 unfold ND;simp only[decide_eq_true_eq];rw[e];constructor
 .rintro(⟨a,b⟩|⟨a,b⟩)
  .exact⟨.inr a,b⟩
  .exact⟨.inl a,b⟩
 .rintro⟨a|a,b⟩
  .exact .inr ⟨a,b⟩
  .exact .inl ⟨a,b⟩
theorem ZBe(ns ss:List Str):((ns.map V.str).filter (λv=>HE v (ss.map V.str))).map (λv=>v)=(ns.filter (ND ss)).map V.str:=by
 rw[oz,oo]
 congr 1
 apply ZIH;intro y _;show HE (.str y) (ss.map V.str)=ND ss y;rw[SV];rfl
def ik(H:Hp)(t:Addr)(r:Str)(g:Int)(ss:List Str):Prop:=∃c,H t=some (.tup [.str r,.int g,.ref c])/\H c=some (.tup (ss.map V.str))
structure E5 (ns:List Str) (r:Str) (g:Int) (ss:List Str):Prop where
 rule:r∈KP
 g0:0<=g
 g1:g<=(ns.length:Int)
 up:Up ss
 sub:∀x∈ss,x∈ns
theorem ZE(x:Str)(h:Up ss):Up (wo ss x):=h.filter _
theorem E5.step{g:Int}(h:E5 ns r g ss)(hx:x∈ns):E5 ns r ((ns.idxOf x:Nat)+1) (wo ss x):=by
 have b:ns.idxOf x<ns.length:=List.idxOf_lt_length_iff.mpr hx;exact⟨h.rule,by omega,by omega,ZE x h.up,λy a=>h.sub y (LN.mp a).1⟩
def So(ns:List Str)(g:Nat)(ss:List Str):Option Str:=(GD ns g ss).head?
def nI(ns:List Str)(g:Nat)(ss:List Str):Nat:=match So ns g ss with
 |none=>g
 |some x=>ns.idxOf x+1
def jO(ns:List Str)(g:Nat)(ss:List Str):List Str:=match So ns g ss with
 |none=>ss
 |some x=>wo ss x
theorem Wh:Bt ((x::HC).map V.str) 0=some (.str x):=Pk (by decide) rfl
structure Ent where
 a:Addr
 ns:List Str
 t:Addr
 r:Str
 g:Nat
 ss:List Str
end Lw
namespace L2
section
variable{X:Cx}
def lF(K:ZJa):R2:=λx y H Q=>∃a b xs ys,x=.ref a/\y=.ref b/\AW K H a xs/\AW K H b ys/\ys≠[]/\xs.length+ys.length<=sizeLine/\∀p H',AD H H'->AW K H' p (xs++ys)->Q (.ref p) H'
theorem dN:Bc X (binaryOp .Add) (lF X.K):=by
 intro ZA s Z H x y v u Q I i g h;obtain⟨a,b,xs,ys,rfl,rfl,k,d,o,m,q⟩:=h
 by_cases hx:xs=[]
 .subst hx;cases i;cases g;obtain⟨A5,l,p1,_⟩:=I.tuple k;obtain⟨C0,t,p2,_⟩:=I.tuple d;obtain⟨⟨cls,dd,data,sl⟩,ho,j,n,hd⟩:=id p1;obtain⟨⟨ZH1,Tb,f,Hu⟩,IX,M9,n2,c⟩:=id p2;simp only at j hd M9 c;subst j hd M9 c;have e:A5=[]:=l.Ue.mpr rfl;exact concat_meets ⟨_,ho,rfl⟩ ⟨_,IX,rfl⟩ ZB7 seq_tuple_add pH pF (pE _ _)
   (tuple_addW0 a b A5.toArray C0.toArray n n2 dd Tb sl Hu (by simp[e])) ⟨ho,IX,⟨.ref b,H,I,rfl,q b H (AD.refl _) d⟩⟩
 .exact ZDQ ZA s Z H _ _ _ _ Q I i g ⟨a,b,xs,ys,rfl,rfl,k,d,hx,m,λe=>absurd e o,λ_ p r=>q p _ (BX r _) (AW.of AX)⟩
end
end L2
namespace Lw
open L2
variable{ns rs ss:List Str}{r x:Str}{g i:Nat}{d:Ak}
def I0(i g:Nat):Nat:=if i<g then g+1 else g
def GS(p g:Nat):Nat:=if p<g then g - 1 else g
def Ak.gap(ns:List Str)(g:Nat):Ak->Nat
 | .put _ i=>I0 i g
 | .take x=>GS (ns.idxOf x) g
 | .move x i=>I0 i (GS (ns.idxOf x) g)
 | .turn _ _=>g
def Gn:List Str->Str->List Str
 | [],x=>[x]
 |y::r,x=>if Ji x y then x::y::r else y::Gn r x
def FF(r:Str)(g i:Nat):Bool:=if decide (V.str r=V.str "all")=true then true else if decide (V.str r=V.str "ahead")=true then decide ((g:Int)<=(i:Int))else false
def Ak.Hk(r:Str)(g:Nat)(ss:List Str):Ak->List Str
 | .put x i=>if FF r g i=true then Gn ss x else ss
 | .take x=>wo ss x
 | .move _ _=>ss
 | .turn _ _=>ss
theorem Qk{x k:Str}:∀{ss:List Str},k∈Gn ss x↔k=x∨k∈ss
 | []=>by simp[Gn]
 |y::r=>by
  unfold Gn;split
  .simp
  .rw[GY,Qk (ss:=r),GY];constructor
   .rintro(h|h|h)
    .exact .inr (.inl h)
    .exact .inl h
    .exact .inr (.inr h)
   .rintro(h|h|h)
    .exact .inr (.inl h)
    .exact .inl h
    .exact .inr (.inr h)
theorem TC{x:Str}:∀{ss:List Str},Up ss->x∉ss->Up (Gn ss x)
 | [],_,_=>List.pairwise_singleton _ _
 |y::r,h,hx=>by
  obtain⟨h1,h2⟩:=List.pairwise_cons.mp h;unfold Gn;split
  .next c=>exact List.pairwise_cons.mpr ⟨λk a=>(List.mem_cons.mp a).elim (λe=>by rw[e];exact c) λa=>U1 c (h1 k a),h⟩
  .next c=>
   refine List.pairwise_cons.mpr ⟨λk a=>?_,TC h2 λb=>hx (Dd _ b)⟩;rcases Qk.mp a with rfl|a
   .rcases Z5 k y with z|z|z
    .exact absurd z c
    .exact absurd (by rw[z];exact DC) hx
    .exact z
   .exact h1 k a
theorem Vo{ts:List Str}(a:ts.Perm (ss++[x]))(b:sortedS ts=true)(h:Up ss)(hx:x∉ss):ts=Gn ss x:=by
 have nd:ts.Nodup:=a.nodup_iff.mpr (Sj (ki h) hx);refine bX (mY b nd) (TC h hx) λk=>?_;rw[a.mem_iff,Qk,JR,List.mem_singleton];exact or_comm
theorem E5.len{g:Int}(h:E5 ns r g ss):ss.length<=ns.length:=JE (ki h.up) h.sub
theorem E5.led(h:E5 ns r g ss)(ok:d.Ok 40 ns)(nd:ns.Nodup):E5 (d.done ns) r (d.gap ns g:Nat) (d.Hk r g ss):=by
 have g1:=h.g1;cases d with
 |put x i=>
  obtain⟨h1,h2,o,n⟩:=ok;refine⟨h.rule,by omega,?_,?_,?_⟩
  .show((I0 i g:Nat):Int)<=((ins ns x i).length:Int);rw[Ui];unfold I0;split <;> omega
  .show Up (if FF r g i=true then Gn ss x else ss)
   split
   .exact TC h.up λj=>h2 (h.sub x j)
   .exact h.up
  .intro k c;show k∈ins ns x i;rw[Uv];have f:k∈(if FF r g i=true then Gn ss x else ss):=c
   split at f
   .rcases Qk.mp f with z|z
    .exact .inl z
    .exact .inr (h.sub k z)
   .exact .inr (h.sub k f)
 |take x=>
  have hx:x∈ns:=ok;have l:=Q0 hx nd;have m:ns.idxOf x<ns.length:=List.idxOf_lt_length_iff.mpr hx;refine⟨h.rule,by omega,?_,ZE x h.up,λk c=>?_⟩
  .show((GS (ns.idxOf x) g:Nat):Int)<=((wo ns x).length:Int);unfold GS;split <;> omega
  .obtain⟨a,b⟩:=LN.mp (show k∈wo ss x from c);exact LN.mpr ⟨h.sub k a,b⟩
 |move x i=>
  obtain⟨hx,hi⟩:=ok;have l:=Q0 hx nd;have m:ns.idxOf x<ns.length:=List.idxOf_lt_length_iff.mpr hx;refine⟨h.rule,by omega,?_,h.up,λk c=>?_⟩
  .show((I0 i (GS (ns.idxOf x) g):Nat):Int)<=((ins (wo ns x) x i).length:Int);rw[Ui];unfold I0 GS;split <;> split <;> omega
  .show k∈ins (wo ns x) x i;rw[Uv,LN]
   by_cases e:k=x
   .exact .inl e
   .exact .inr ⟨h.sub k c,e⟩
 |turn lo hi=>
  obtain⟨h1,h2⟩:=ok;refine⟨h.rule,by omega,?_,h.up,λk c=>(kd h1).mpr (h.sub k c)⟩;show((g:Nat):Int)<=((GN ns lo hi).length:Int);rw[dh h1 h2];exact g1
def e9:Sp:=λvs H Q _=>∃(a t:Addr)(ns:List Str)(g:Nat)(d:Ak),vs=[.ref a,.int g,.ref t]/\H a=some (.lst (ns.map V.str))/\H t=some (.tup d.vals)/\d.Ok 40 ns/\∀H',AD H H'->Q (.int (d.gap ns g:Nat)) H'
theorem VS{g:Int}(h:E5 ns r g ss)(ok:d.Ok 40 ns):∀x i,d=.put x i->x∉ss:=by
 rintro x i rfl a;exact ok.2.1 (h.sub x a)
theorem ZDU(p g:Nat):((g:Int) - (if decide ((p:Int)<(g:Int))=true then 1 else 0))=((GS p g:Nat):Int):=by
 unfold GS
 by_cases h:p<g
 .rw[tX h,tX (pX (by omega))];omega
 .rw[qg h,qg (by simp;omega)];omega
theorem ZF3(i g:Nat):((g:Int)+(if decide ((i:Int)<(g:Int))=true then 1 else 0))=((I0 i g:Nat):Int):=by
 unfold I0
 by_cases h:i<g
 .rw[tX h,tX (pX (by omega))];omega
 .rw[qg h,qg (by simp;omega)];omega
noncomputable def Ak.kind:Ak->Str
 | .put _ _ => "put"
 | .take _ => "take"
 | .move _ _ => "move"
 | .turn _ _ => "turn"
theorem RJ(d:Ak):Bt d.vals 0=some (.str d.kind):=by cases d <;> rfl
noncomputable def Ak.Pj(ns:List Str)(g:Nat):Ak->Nat
 | .take x=>GS (ns.idxOf x) g
 | .move x _=>GS (ns.idxOf x) g
 |_=>g
theorem ZH3(g:Nat)(ok:d.Ok 40 ns)(h:HE (.str d.kind) [.str "take",.str "move"]=true):∃x,Bt d.vals 1=some (.str x)/\x∈ns/\d.Pj ns g=GS (ns.idxOf x) g:=by
 cases d with
 |put x i=>(simp only[Ak.kind]at h;exact absurd h (by decide+kernel))
 |take x=>exact⟨x,rfl,ok,rfl⟩
 |move x i=>exact⟨x,rfl,ok.1,rfl⟩
 |turn lo hi=>(simp only[Ak.kind]at h;exact absurd h (by decide+kernel))
theorem qf(g:Nat)(h:¬ HE (.str d.kind) [.str "take",.str "move"]=true):d.Pj ns g=g:=by
 cases d with
 |put x i=>rfl
 |take x=>exact absurd (by simp only[Ak.kind];decide +kernel) h
 |move x i=>exact absurd (by simp only[Ak.kind];decide +kernel) h
 |turn lo hi=>rfl
theorem ZG9(g:Nat)(h:HE (.str d.kind) [.str "put",.str "move"]=true):∃i:Nat,Bt d.vals 2=some (.int i)/\d.gap ns g=I0 i (d.Pj ns g):=by
 cases d with
 |put x i=>exact⟨i,rfl,rfl⟩
 |take x=>(simp only[Ak.kind]at h;exact absurd h (by decide+kernel))
 |move x i=>exact⟨i,rfl,rfl⟩
 |turn lo hi=>(simp only[Ak.kind]at h;exact absurd h (by decide+kernel))
theorem ZHe(g:Nat)(h:¬ HE (.str d.kind) [.str "put",.str "move"]=true):d.gap ns g=d.Pj ns g:=by
 cases d with
 |put x i=>exact absurd (by simp only[Ak.kind];decide +kernel) h
 |take x=>rfl
 |move x i=>exact absurd (by simp only[Ak.kind];decide +kernel) h
 |turn lo hi=>rfl
noncomputable def Ak.SW(ss:List Str):Ak->List Str
 | .take x=>wo ss x
 |_=>ss
theorem ZGD{r:Str}{g:Nat}(h:decide (V.str d.kind=V.str "take")=true):∃x,Bt d.vals 1=some (.str x)/\d.SW ss=wo ss x:=by
 cases d with
 |take x=>exact⟨x,rfl,rfl⟩
 |_=>
  have h':=sE h;injection h' with h2
  exact absurd h2 (by simp only[Ak.kind];decide +kernel)
theorem zr(h:¬ decide (V.str d.kind=V.str "take")=true):d.SW ss=ss:=by
 cases d with
 |take x=>exact absurd (by simp only[Ak.kind];decide +kernel) h
 |_=>rfl
theorem q8(h:decide (V.str d.kind=V.str "put")=true):∃x i,d=.put x i:=by
 cases d with
 |put x i=>exact⟨x,i,rfl⟩
 |_=>
  have h':=sE h;injection h' with h2
  exact absurd h2 (by simp only[Ak.kind];decide +kernel)
theorem ZE6(h:¬ decide (V.str d.kind=V.str "put")=true):d.Hk r g ss=d.SW ss:=by
 cases d with
 |put x i=>exact absurd (by simp only[Ak.kind];decide +kernel) h
 |_=>rfl
theorem cB(h:FF r g i=true):Ak.Hk r g ss (.put x i)=Gn ss x:=by show(if _ then _ else _)=_;rw[tX h]
theorem Wu(h:FF r g i=false):Ak.Hk r g ss (.put x i)=ss:=by show(if _ then _ else _)=_;rw[qg (by rw[h];decide)]
theorem N5(nd:rs.Nodup)(h:rs[g]?=some x):rs.idxOf x=g:=by
 obtain⟨d,e⟩:=List.getElem?_eq_some_iff.mp h;have hx:x∈rs:=EL h;have a:rs.idxOf x<rs.length:=List.idxOf_lt_length_iff.mpr hx;have f:rs[rs.idxOf x]=x:=cX a;have b:=List.pairwise_iff_getElem.mp nd;rcases cw (rs.idxOf x) g with c|c|c
 .exact absurd (f.trans e.symm) (b _ _ a d c)
 .exact c
 .exact absurd (e.trans f.symm) (b _ _ d a c)
end Lw
namespace L2
section
variable{X:Cx}{ZA:ZJb}{Z:St}{H2:Hp}{s2:Shared}{elt iter:Expr}{x z:Str}{px pz tp pos:Pos}{tk:Nat}{scope:Scope}{As:List Str}{js:List Nat}{te:TE}{J:It}{fp:List Addr}{it:Addr}
 {tn:Nat->Heap->Prop}
end
end L2
namespace Fz
open L2 Lw
variable{E:Ent0}{ss:List Slot}{Z:L2.St}{F F' H H':Hp}{js:List Nat}{ta tb te:TE}{nx:List Slot->Prop}{R:Ad}{i:Nat}{ns:List Int}{wi:TI}{α:Type}{th tl:TO}{xs:List PV}
section
variable[Xw]
variable{K:ZJa}{k:PV->Prop}
theorem Sg.ZI(S:Sg E ss Z F H){p:Addr}(hi:ss[i]?=some .AS)(e:Z[i]?=some (some (.ref p)))(s:Bp p H H'):Mv E ss Z F H F H':=by
 obtain⟨g,b,fp,_,f⟩:=S.ok i _ hi;rw[e]at b;cases b;refine S.step (AD.refl _) (λa o q=>s.same a o (Dg q fp) (S.fh a o q)) (λa o n q=>s.same a o (λz=>?_) q) (λa o q=>.inl q) λj l c d=>?_
 .rw[z]at n;exact n i hi e
 .by_cases z:l=p
  .rw[z];exact s.AS
  .exact CG.keep (S.FW c d) λo q=>s.same l o z q
theorem wb(hi:ss[i]?=some .AS)(h:Wp ss te λx=>∃m,x=.int m/\0<m/\m<10 ^ 18/\∀r:Int,0<=r->r<m->k (.int r)):Wp ss (ES JU [] E0 (An (BW i) (An te BQ))) k:=⟨λE Z F H Q S q=>by
 obtain⟨p,e,_⟩:=S.ok i _ hi;refine⟨_,e,h.go E Z F H _ S λv x F1 H1 a r⟨m,f,d,Q9,kk⟩=>?_⟩;subst f;cases r.inv;exact⟨p,m,rfl,a.st.FW hi e,d,Q9,λr H2 c b s=>q _ _ F1 H2 (a.trans (a.st.ZI hi e s)) (.int r) (kk r c b)⟩⟩
theorem ZCO{sp:Sp}{k:List PV->Prop}(Fi:sp=Zb)(hi:ss[i]?=some .AS)(h:Wp ss te λx=>∃m,x=.int m/\1<=m/\m<=100/\∀ns:List Str,(ns.length:Int)<=m->(∀x∈ns,Nm x)->ns.Nodup->k (ns.map PV.str)):Wn ss (ES sp [] E0 (An (BW i) (An te BQ))) k:=⟨λE Z F H Q S q=>by
 subst Fi;obtain⟨p,e,_⟩:=S.ok i _ hi;refine⟨_,e,h.go E Z F H _ S λv x F1 H1 a r⟨m,j,d,Q9,kk⟩=>?_⟩;subst j;cases r.inv;refine⟨p,m,rfl,a.st.FW hi e,d,Q9,λl H2 ns b s Fp f g nd=>?_⟩;have c:=a.st.ZI hi e s;exact q l _ _ F1 H2 (a.trans c) (a.st.CC b) (a.none b) Fp (OJ ns) (kk ns f g nd)⟩
def E8(K:ZJa)(ns:List Int):Hp->V->Prop:=λF v=>∃a,v=.ref a/\Ab K F a (ns.map V.int)
theorem WE(K:ZJa)(ns:List Int):∀(v:V)(F F':Hp),AD F F'->E8 K ns F v->E8 K ns F' v:=λv F F' s AU=>by obtain⟨a,e,h⟩:=AU;exact⟨a,e,by
 rcases h with(h|⟨o,h⟩)|h
 .exact .inl (.inl (s _ _ h))
 .exact .inl (.inr ⟨o,s _ _ h⟩)
 .exact .inr h⟩
theorem ZF6(hi:ss[i]?=some (.raw (E8 K ns)))(h:k (.int ns.length)):Wp ss (DH (Z4 K) (An (BW i) BQ)) k:=⟨λE Z F H Q S q=>by
 obtain⟨v,e,⟨a,c,b⟩,st⟩:=S.ok i _ hi;subst c;obtain⟨d,ea,Jc⟩:=WE K ns _ F H S.fh ⟨a,rfl,b⟩;cases ea;refine⟨_,e,a,_,rfl,.inl Jc,?_⟩;rw[AK];exact q _ _ F H (.refl S) (.int _) h⟩
theorem vR{j:Nat}(hi:ss[i]?=some (.raw (E8 K ns)))(h:Wp ss te λx=>∃m,x=.int m/\0<=m/\m<=1000/\nx (ss.set j .AS)):Ws ss (FR (ES (TJ K) [] E0 (An (BW i) (An te BQ))) (Co j)) nx R:=⟨λE D Z F H S hn A=>by
 obtain⟨v,e,⟨a,w,B⟩,st⟩:=S.ok i _ hi;subst w;refine⟨_,e,h.go E Z F H _ S λv x F1 H1 c r⟨m,y,q,Q9,kk⟩=>?_⟩;subst y;cases r.inv;obtain⟨z,g,d,_⟩:=c.st.ok i _ hi;rw[e]at g;cases g;obtain⟨C,ea,Jc⟩:=WE K ns _ F1 H1 c.st.fh d;cases ea;refine⟨a,ns,m,rfl,Jc,q,Q9,λp H2 f s k=>?_⟩;have o:=c.st.grow s;exact hn _ _ F1 H2 kk (o.st.setG ⟨p,rfl,c.st.CC f,.inl (c.st.Ei f),k⟩ λl e b u _ t n=>by cases e;exact c.st.UR t f n) c.ff⟩
end
section
variable{K:ZJa}
theorem tR{N:List Str}{vs:List V}{Q:VK}{X:XK}{t:TS}(h:PU K vs H Q X)(hw:∀ns:List Int,ns.length<=63->Ws (.raw (E8 K ns)::List.replicate (N.length - 1) .any) t (λ_=>False) (.is λp=>p=.bl true)):t { nx:=λ_ H'=>Q .A9 H',rt:=Q } (L2.start N vs) H:=by
 obtain⟨a,ns,rfl,b,Rk,q⟩:=h;have S:Sg (E3 [] H H) [.raw (E8 K ns)] [some (.ref a)] H H:=by
  have nn:∀{p:Prop}(a:Addr),a∈([]:List Addr)->p:=λa h=>absurd h BA;refine⟨⟨AD.refl _,AD.refl _,λ_ _ _ e=>e,λ_ _ e=>.inl e,λa h=>nn a h,λa h=>nn a h,λa h=>nn a h,λa h=>nn a h,λa h=>nn a h,λa h=>nn a h⟩,rfl,λi s hi=>?_,λi j s u l FZ hi c ms=>?_⟩
  .cases i with
   |zero=>cases hi;exact⟨_,rfl,⟨a,rfl,b⟩,WE K ns _⟩
   |succ i=>simp at hi
  .cases i with
   |zero=>cases hi;cases ms
   |succ i=>simp at hi
 refine(hw ns Rk).go (U3 (E3 [] H H)) _ _ H H (S.grown _) (λ_ _ _ _ h=>h.elim) λv F' H' f ok=>?_;obtain⟨p,r,rfl⟩:=ok;cases r.inv;exact q H'
end
section
variable[Xw]
variable{K:ZJa}{k:PV->Prop}
theorem Wi.mono{k k':List PV->Prop}(h:Wi ss wi k)(i:∀xs,k xs->k' xs):Wi ss wi k':=⟨λE Z F H R S q=>h.go E Z F H R S λJ xs F' H' m s kk=>q J xs F' H' m s (i xs kk)⟩
theorem ZV{tt:TT}{k:List PV->Prop}(c:α->PV)(f:α->Bool)(g:α->PV)
  (h:Wi ss wi λxs=>∃ns:List α,xs=ns.map c/\ns.length<=100000/\(∀x∈ns,Wt (ET js ss++[.is (c x)]) tt λb=>b=f x)/\(∀x∈ns,f x=true->Wp (ET js ss++[.is (c x)]) te λp=>p=g x)/\k ((ns.filter f).map g))
  (inj:∀x y,c x=c y->x=y) (nd:js.Nodup:=by decide) (np:Yy js ss=true:=by rfl):Wn ss (N3 wi js tt te) k:=by
 by_cases hα:Nonempty α
 .obtain⟨l⟩:=hα;have inv:∀p:PV,∃x:α,∀y,c y=p->y=x:=λp=>by
   by_cases q:∃y,c y=p
   .obtain⟨y,a⟩:=q;exact⟨y,λz i=>inj _ _ (i.trans a.symm)⟩
   .exact⟨l,λy a=>absurd ⟨y,a⟩ q⟩
  let d:PV->α:=λp=>Classical.choose (inv p)
  have hd:∀x,d (c x)=x:=λx=>(Classical.choose_spec (inv (c x)) x rfl).symm;refine lJ (λp=>f (d p)) (λp=>g (d p)) (h.mono λxs⟨ns,e,i,h1,h2,kk⟩=>?_) nd np;subst e;refine⟨by rw[AK];exact i,λx hx=>?_,λx hx j=>?_,?_⟩
  .obtain⟨y,a,rfl⟩:=List.mem_map.mp hx;rw[hd];exact h1 y a
  .obtain⟨y,a,rfl⟩:=List.mem_map.mp hx;rw[hd]at j ⊢;exact h2 y a j
  .have e:((ns.map c).filter λp=>f (d p)).map (λp=>g (d p))=(ns.filter f).map g:=by
    rw[oo,Oh]
    congr 1
    .funext x;show g (d (c x))=g x;rw[hd]
    .congr 1;funext x;show f (d (c x))=f x;rw[hd]
   rw[e];exact kk
 .refine lJ (λ_=>true) (λp=>p) (h.mono λxs⟨ns,e,i,h1,h2,kk⟩=>?_) nd np;have m:ns=[]:=by
   cases ns with
   |nil=>rfl
   |cons x r=>exact absurd ⟨x⟩ hα
  subst m;subst e;exact⟨by simp,λx hx=>absurd hx (by simp),λx hx=>absurd hx (by simp),kk⟩
theorem str_inj:∀x y:Str,PV.str x=PV.str y->x=y:=λ_ _ e=>by injection e
theorem vY(h:Wp ss ta λp=>∃x,p=.str x/\Wq ss tb λ_ ys=>∃ns:List Str,ys=ns.map PV.str/\k (.bl (decide (x∈ns)))):Wp ss (CB (Lr K false) ta tb) k:=hG h
theorem bG(h:Wp ss ta λp=>∃x,p=.str x/\Wq ss tb λ_ ys=>∃ns:List Str,ys=ns.map PV.str/\k (.bl (!decide (x∈ns)))):Wp ss (CB (Lr K true) ta tb) k:=hG h
theorem ZEU(h:Wq ss ta λtp xs=>∃ns:List Str,xs=ns.map PV.str/\Wq ss tb λCV ys=>CV=tp/\∃ms:List Str,ys=ms.map PV.str/\k (.bl (decide (ns=ms)))):Wp ss (CB (Qr K false) ta tb) k:=jS h
theorem mm(h:Wq ss ta λtp xs=>∃ns:List Str,xs=ns.map PV.str/\Wq ss tb λCV ys=>CV=tp/\∃ms:List Str,ys=ms.map PV.str/\k (.bl (!decide (ns=ms)))):Wp ss (CB (Qr K true) ta tb) k:=jS h
theorem Wq.mono{k k':Bool->List PV->Prop}(h:Wq ss te k)(i:∀b xs,k b xs->k' b xs):Wq ss te k':=⟨λE Z F H Q S q=>h.go E Z F H Q S λv tp xs F' H' m s kk=>q v tp xs F' H' m s (i tp xs kk)⟩
theorem Wo.mono{t:TO}{k k':Option Int->Prop}(h:Wo ss t k)(i:∀o,k o->k' o):Wo ss t k':=⟨λE Z F H Q S q=>h.go E Z F H Q S λo F' H' m kk=>q o F' H' m (i o kk)⟩
theorem jA{k:Bool->List PV->Prop}(h:Wq ss te λtp xs=>Wo ss tl λlo=>Wo ss th λhi=>k tp (Fs xs lo hi)):Wz ss (Nk (TU K) te tl th) k:=
 Kf (dX (h.mono λtp xs h=>h.mono λlo h=>h.mono λhi h=>by
  cases tp
  .exact⟨_,.inl ⟨rfl,h⟩⟩
  .exact⟨_,.inr ⟨rfl,h⟩⟩))
theorem qY{k:Bool->List PV->Prop}(h:Wq ss te λtp xs=>Wo ss tl λlo=>Wo ss th λhi=>k tp (Fs xs lo hi)):Wq ss (Nk (TU K) te tl th) k:=lA (jA h)
theorem Va(xs:List α)(g:Nat):Fs xs none (some (g:Int))=xs.take g:=by
 unfold Fs;rw[HT.LP,HT.Uz,cT,cy];rcases RG g xs.length with h|h
 .rw[KD h]
 .rw[RH h,Mo,RF h]
theorem fi(xs:List α)(g:Nat):Fs xs (some (g:Int)) none=xs.drop g:=by
 unfold Fs;rw[HT.LP,HT.Uz];rcases RG g xs.length with h|h
 .rw[KD h,RF (by rw[HK];omega)]
 .rw[RH h,ZIE,ZIF h];simp
variable{ys:List PV}
theorem VW(h:Wq ss ta λtp xs=>tp=false/\∃ns:List Str,xs=ns.map PV.str/\Wp ss tb λp=>∃x,p=.str x/\x∈ns/\k (.int (ns.idxOf x:Nat))):Wp ss (NW K "list" (jR K) ta (An tb BQ)) k:=⟨λE Z F H Q S q=>
 h.go E Z F H _ S λv tp xs F1 H1 b sv⟨g,ns,e,h2⟩=>by
  subst e;subst g;obtain⟨l,vs,rfl,f,r⟩:=sv.seq b.st;refine⟨.inl ⟨rfl,_,Ab.of f⟩,h2.go E Z F1 H1 _ b.st λm p2 F2 H2 a c⟨x,i,hx,kk⟩=>?_⟩;subst i;cases c.inv;obtain⟨n,Ca,j,CM,d⟩:=(sv.mv a).seq a.st;cases j;rw[d.strs]at CM;exact⟨l,ns,x,rfl,rfl,Ab.of CM,hx,q _ _ F2 H2 (b.trans a) (.int _) kk⟩⟩
noncomputable def ME(xs:List PV):List PV:=(List.range xs.length).map λi:Nat=>.tup [.int (i:Int),xs.getD i .A9]
theorem UM(xs:List PV):(ME xs).length=xs.length:=by simp[ME]
theorem fM{x:PV}(h:xs[i]?=some x):(ME xs)[i]?=some (.tup [.int (i:Int),x]):=by
 have hi:i<xs.length:=(List.getElem?_eq_some_iff.mp h).1;unfold ME;rw[Bb,VG hi];show some (PV.tup [PV.int (i:Int),xs.getD i PV.A9])=_;rw[Oe,h];rfl
theorem ZFm{p:PV}(h:(ME xs)[i]?=some p):∃x,xs[i]?=some x/\p=.tup [.int (i:Int),x]:=by
 have hi:i<xs.length:=by have:=(List.getElem?_eq_some_iff.mp h).1;rwa [UM]at this
 have e:=BK hi;refine⟨xs[i],e,?_⟩;rw[fM e]at h;exact(Bs h).symm
theorem ZBt{r:List V->Hp->VK->Prop}(c:r=λxs H Q=>(∃i,xs=[.int i]/\Q (.int i) H)∨∃k,xs=[.bl k]/\Q (.int (if k then 1 else 0)) H)(h:Wp ss te λp=>∃b,p=.bl b/\k (.int (if b then 1 else 0))):Wp ss (DH r (An te BQ)) k:=⟨λE Z F H Q S q=>
 h.go E Z F H _ S λv p F1 H1 a r AU=>by
  obtain⟨b,e,kk⟩:=AU;subst c;subst e;cases r.inv;exact .inr ⟨b,rfl,q _ _ F1 H1 a (.int _) kk⟩⟩
end
theorem Bj{c A B:Prop}[Decidable c](h:c)(a:A):if c then A else B:=by rw[tX h];exact a
end Fz
namespace L2
theorem sY{X:Cx}{tg:Expr}{a b:Expr}{ta:TA}{p pos:Pos}(w:Gl X "range")(v:X.mg "range"=none)(f:QA X [a,b] ta)(u:starEach [a,b] X.env=[(false,eval a X.env),(false,eval b X.env)]:=by rfl)(Cn:starEach [b] X.env=[(false,eval b X.env)]:=by rfl):QI X tg (.Call (.Name "range" p) [a,b] [] pos) (cN ta):=⟨by
 have f:=f.h;intro ZA s Z H R I h;refine Call_ (KY I w v boot_range (RI (f.k pos I h λus s1 vs H1 I1 g d=>?_) (by rw[u,Cn]) (by rw[Cn];rfl)));obtain⟨i,j,e,⟨d,o,n,m⟩,q⟩:=d;subst e;cases g with
 |cons r c=>
  cases c with
  |cons l c=>
   cases c;obtain⟨t,rfl⟩:=r;obtain⟨t',rfl⟩:=l;exact call_range_2 (nX I1 d o n m q)⟩
end L2
namespace Fz
open L2 Lw
section
variable[Xw]
variable{E:Ent0}{ss:List Slot}{Z:L2.St}{F H F' H':Hp}{K:ZJa}{js:List Nat}{ta tb tc te:TE}{k:PV->Prop}{nx:List Slot->Prop}{R:Ad}{xs ys:List PV}
noncomputable def MJ(i:Int)(n:Nat):List PV:=(List.range n).map λj:Nat=>PV.int (i+(j:Int))
theorem QK(i:Int)(n:Nat):(MJ i n).length=n:=by simp[MJ]
theorem qW{i:Int}{n j:Nat}{p:PV}(h:(MJ i n)[j]?=some p):j<n/\p=.int (i+(j:Int)):=by
 have a:j<n:=by have:=(List.getElem?_eq_some_iff.mp h).1;rwa [QK]at this
 unfold MJ at h;rw[Bb,VG a]at h;exact⟨a,(Bs h).symm⟩
theorem wB{k:List PV->Prop}(h:Wp ss ta λp=>∃i:Int,p=.int i/\Wp ss tb λp=>∃j:Int,p=.int j/\(i<=1000000/\-1000000<=i/\j<=1000000/\-1000000<=j)/\k (MJ i (j - i).toNat)):Wi ss (cN (An ta (An tb BQ))) k:=⟨λE Z F H R S q=>
 h.el E S λi F1 H1 a h2=>
  h2.el E a.st λj F2 H2 c b=>by
   obtain⟨d,kk⟩:=b;refine⟨i,j,rfl,by omega,q _ (MJ i (j - i).toNat) F2 H2 (a.trans c) ⟨λss Z F H n s S hn=>?_,λss Z F H s S=>?_,λss Z F H n x H' s S hn y=>?_⟩ kk⟩
   .rw[QK]at hn;exact hn
   .show _<=_;rw[QK];exact B4 _
   .obtain⟨e,hx⟩:=y;subst e;subst hx;rw[QK]at hn;refine⟨.int (i+(n:Int)),F,?_,.refl S,.int _⟩;unfold MJ;rw[Bb,VG hn];rfl⟩
noncomputable def dP:Ak->PV
 | .put x i=>.tup [.str "put",.str x,.int i]
 | .take x=>.tup [.str "take",.str x]
 | .move x i=>.tup [.str "move",.str x,.int i]
 | .turn lo hi=>.tup [.str "turn",.int lo,.int hi]
theorem oN{d:Ak}{v:V}(r:Rep F v (dP d)):∃t,v=.ref t/\F t=some (.tup d.vals):=by
 cases d <;> (obtain⟨a,vs,rfl,h,b⟩:=r.inv;cases b.enc rfl;exact⟨a,rfl,h⟩)
theorem gU{k:List PV->Prop}(h:Wq ss ta λtp xs=>tp=false/\∃ns:List Str,xs=ns.map PV.str/\Wp ss tb λp=>∃d:Ak,p=dP d/\d.Ok 40 ns/\ns.length<=40/\ns.Nodup/\k ((d.done ns).map PV.str)):
  Wn ss (ES WU [] E0 (An ta (An tb BQ))) k:=⟨λE Z F H Q S q=>
 h.go E Z F H _ S λv tp xs F1 H1 c sv⟨e,ns,ex,h2⟩=>h2.go E Z F1 H1 _ c.st λx p2 F2 H2 b i⟨d,u,hd,m,nd,kk⟩=>by
  subst e;subst ex;subst u;obtain⟨l,vs,o,f,r⟩:=(sv.mv b).seq b.st;subst o;rw[r.strs]at f;obtain⟨t,e,n⟩:=oN i;subst e;refine⟨l,t,ns,d,rfl,f,b.st.fh _ _ n,hd,m,nd,λa H3 g s w=>?_⟩;have j:=b.st.grow s;exact q a _ _ F2 H3 (c.trans (b.trans j)) (b.st.CC g) ((c.trans b).none g) w (OJ _) kk⟩
end
end Fz
namespace Lw
open L2
variable{c t:Addr}{r:Str}{g:Int}{ss:List Str}
def Gg(H:Hp)(t c:Addr)(r:Str)(g:Int)(ss:List Str):Prop:=H t=some (.tup [.str r,.int g,.ref c])/\H c=some (.tup (ss.map V.str))
theorem Gg.h{H:Hp}(h:Gg H t c r g ss):ik H t r g ss:=⟨c,h⟩
theorem Gg.same{H H':Hp}(s:AD H H')(h:Gg H t c r g ss):Gg H' t c r g ss:=⟨s _ _ h.1,s _ _ h.2⟩
def Xc:Sp:=λvs H Q _=>∃(a tl td c0:Addr)(ns:List Str)(r:Str)(g:Nat)(ss:List Str)(d:Ak),vs=[.ref a,.ref tl,.ref td]/\H a=some (.lst (ns.map V.str))/\Gg H tl c0 r g ss/\H td=some (.tup d.vals)/\d.Ok 40 ns/\E5 ns r g ss/\ns.length<=40/\
 ∀t' b H',H t'=none->(H b=none∨b=c0)->AD H H'->Gg H' t' b r (d.gap ns g:Nat) (d.Hk r g ss)->Q (.ref t') H'
def eh(H H':Hp)(t' t:Addr)(ns:List Str)(r:Str)(g:Nat)(ss:List Str):Prop:=
 (GD ns g ss=[]/\H' t'=some (.tup [.A9,.ref t]))∨∃x HC a c2,GD ns g ss=x::HC/\H a=none/\H c2=none/\H' t'=some (.tup [.str x,.ref a])/\Gg H' a c2 r ((ns.idxOf x:Nat)+1) (wo ss x)
def aW:Sp:=λvs H Q _=>∃(a:Addr)(ns:List Str)(t:Addr)(r:Str)(g:Nat)(ss:List Str),vs=[.ref a,.ref t]/\H a=some (.lst (ns.map V.str))/\ik H t r g ss/\ss.length<64/\ns.length<=1000/\
 ∀t' H',H t'=none->AD H H'->eh H H' t' t ns r g ss->Q (.ref t') H'
end Lw
namespace Fz
open L2 Lw
variable{E:Ent0}{ss:List Slot}{Z:L2.St}{F F' F0 F1 H H' H0:Hp}{js m p:List Nat}{ta tb tc te ti:TE}{nx:List Slot->Prop}{R:Ad}{n t u x y:OV}{o:HO}{v:V}{r:Str}{g i j:Nat}{cs ns:List Str}{a b c:Addr}{kM ps xs ys:List PV}{Ca vs ws:List V}{A:Around}{A5 C0:List Value}{CV tp:Bool}{q:PV}{tr:TA}{us:List OV}
def Ey(r:Str)(g:Nat)(ss:List Str):PV:=.tup [.str r,.int g,.tup (ss.map .str)]
section
variable[Xw]
variable{K:ZJa}{k:PV->Prop}
theorem Mv.adopt(m:Mv E ss Z F H F1 H')(S:Sg E ss Z F H){t:Addr}(c:H t=Option.none)(e:H' t=some o):Mv E ss Z F H (upd F1 t o) H':=by
 have b:AD F1 (upd F1 t o):=λa u q=>by
  by_cases z:a=t
  .subst z;have w:=m.st.fh _ _ q;rw[e]at w;rw[AX];exact w
  .rw[Aa z];exact q
 refine S.step (m.ff.trans b) (λa u q=>?_) m.hh (λa u q=>?_) λi l hi d=>m.st.FW hi d
 .by_cases z:a=t
  .subst z;rw[AX]at q;rw[<- q];exact e
  .rw[Aa z]at q;exact m.st.fh a u q
 .by_cases z:a=t
  .subst z;exact .inr c
  .rw[Aa z]at q;exact m.nn a u q
theorem kL(h:Rep F v (Ey r g cs)):∃t c,v=.ref t/\Gg F t c r g cs:=by
 obtain⟨_,_,rfl,e,q⟩:=h.inv;obtain⟨_,_,rfl,a,q⟩:=q.inv;obtain⟨_,_,rfl,b,q⟩:=q.inv;obtain⟨_,_,rfl,c,q⟩:=q.inv;cases q;cases a;cases b;obtain⟨_,_,rfl,d,f⟩:=c.inv;rw[f.strs]at d;exact⟨_,_,rfl,e,d⟩
theorem lN{t:Addr}(h:Gg F t c r g cs):Rep F (.ref t) (Ey r g cs):=.tup h.1 (.cons (.str _) (.cons (.int _) (.one (.tup h.2 (OJ cs)))))
theorem Mv.mx(m:Mv E ss Z F H F1 H')(S:Sg E ss Z F H){t c0:Addr}(i:H t=Option.none)(b:H c=Option.none∨c=c0)(j:F c0=some o)(e:Gg H' t c r g cs):∃F2,Mv E ss Z F H F2 H'/\AD F1 F2/\Rep F2 (.ref t) (Ey r g cs):=by
 have key:∃F2,Mv E ss Z F H F2 H'/\AD F1 F2/\F2 c=some (.tup (cs.map V.str)):=by
  rcases b with b|rfl
  .refine⟨_,m.adopt S b e.2,λa u q=>?_,AX⟩
   by_cases z:a=c
   .subst z;have w:=m.st.fh _ _ q;rw[e.2]at w;rw[AX];exact w
   .rw[Aa z];exact q
  .refine⟨F1,m,AD.refl _,?_⟩;have w:=m.ff _ _ j;have d:=m.st.fh _ _ w;rw[e.2]at d;rw[w,<- d]
 obtain⟨F2,h,s2,M9⟩:=key;have f:AD F2 (upd F2 t (.tup [.str r,.int g,.ref c])):=λa u q=>by
  by_cases z:a=t
  .subst z;have w:=h.st.fh _ _ q;rw[e.1]at w;rw[AX];exact w
  .rw[Aa z];exact q
 exact⟨_,h.adopt S i e.1,s2.trans f,lN ⟨AX,f _ _ M9⟩⟩
theorem ZFM(h:Wq ss ta λtp xs=>tp=false/\∃ns:List Str,xs=ns.map PV.str/\Wp ss tb λp=>∃(r:Str)(g:Nat)(cs:List Str),p=Ey r g cs/\Wp ss tc λp2=>∃d:Ak,p2=dP d/\d.Ok 40 ns/\E5 ns r g cs/\ns.length<=40/\k (Ey r (d.gap ns g) (d.Hk r g cs))):
  Wp ss (ES Xc [] E0 (An ta (An tb (An tc BQ)))) k:=⟨λE Z F H Q S q=>
 h.go E Z F H _ S λv tp xs F1 H1 c sv⟨y,ns,ex,h2⟩=>h2.go E Z F1 H1 _ c.st λD p2 F2 H2 b n⟨r,g,cs,z,w⟩=>w.go E Z F2 H2 _ b.st λC p3 F3 H3 a m⟨d,A,hd,x,s,kk⟩=>by
  subst y;subst ex;subst z;subst A;obtain⟨l,vs,rfl,f,i⟩:=(sv.mv (b.trans a)).seq a.st;rw[i.strs]at f;obtain⟨tl,c0,rfl,e⟩:=kL (n.mono a.ff);obtain⟨t,rfl,u⟩:=oN m;refine⟨l,tl,t,c0,ns,r,g,cs,d,rfl,f,e.same a.st.fh,a.st.fh _ _ u,hd,x,s,λt' G H4 Mh Mi s4 B=>?_⟩;obtain⟨F4,o,_,j⟩:=(a.st.grow s4).mx a.st Mh Mi e.2 B;exact q _ _ F4 H4 (c.trans (b.trans (a.trans o))) j kk⟩
def N0(ns:List Str)(r:Str)(g:Nat)(cs:List Str):PV:=match GD ns g cs with
 | []=>.tup [.A9,Ey r g cs]
 |x::_=>.tup [.str x,Ey r (ns.idxOf x+1) (wo cs x)]
theorem Mv.u4(m:Mv E ss Z F H F1 H')(S:Sg E ss Z F H){t t':Addr}(f:H t'=Option.none)(k:Gg F t c r g cs)(e:eh H H' t' t ns r g cs):∃F2,Mv E ss Z F H F2 H'/\Rep F2 (.ref t') (N0 ns r g cs):=by
 rcases e with⟨h,e⟩|⟨x,HC,i,c2,h,h2,o,e,n⟩
 .refine⟨_,m.adopt S f e,?_⟩;have b:=(m.adopt S f e).ff;unfold N0;rw[h];exact .tup AX (.cons .A9 (.one (lN (k.same b))))
 .have d:Gg H' i c2 r ((ns.idxOf x+1:Nat):Int) (wo cs x):=n;obtain⟨F2,j,_,l⟩:=m.mx S h2 (.inl o) k.1 d;refine⟨_,j.adopt S f e,?_⟩;have b:AD F2 (upd F2 t' (.tup [.str x,.ref i])):=λa u q=>by
   by_cases z:a=t'
   .subst z;have w:=j.st.fh _ _ q;rw[e]at w;rw[AX];exact w
   .rw[Aa z];exact q
  unfold N0;rw[h];exact .tup AX (.cons (.str _) (.one (l.mono b)))
theorem tS(h:Wq ss ta λtp xs=>tp=false/\∃ns:List Str,xs=ns.map PV.str/\Wp ss tb λp=>∃(r:Str)(g:Nat)(cs:List Str),p=Ey r g cs/\E5 ns r g cs/\ns.length<=60/\k (N0 ns r g cs)):
  Wp ss (ES aW [] E0 (An ta (An tb BQ))) k:=⟨λE Z F H Q S q=>
 h.go E Z F H _ S λv tp xs F1 H1 b sv⟨o,ns,ex,h2⟩=>h2.go E Z F1 H1 _ b.st λu p2 F2 H2 a j⟨r,g,cs,s,n,w,kk⟩=>by
  subst o;subst ex;subst s;obtain⟨l,vs,rfl,e,f⟩:=(sv.mv a).seq a.st;rw[f.strs]at e;obtain⟨tl,c0,rfl,c⟩:=kL j;have d:=n.len;refine⟨l,ns,tl,r,g,cs,rfl,e,(c.same a.st.fh).h,by omega,by omega,λt' H4 Mh s4 t=>?_⟩;obtain⟨F4,m,i⟩:=(a.st.grow s4).u4 a.st Mh c t;exact q _ _ F4 H4 (b.trans (a.trans m)) i kk⟩
theorem ir{n:Nat}(h:j<n):Hv n (j:Int)=some j:=by
 unfold Hv;simp;omega
theorem AY.set:∀{xs:List PV}(j:Nat){v:V}{p:PV},AY F vs xs->Rep F v p->AY F (vs.set j v) (xs.set j p):=by
 intro xs
 induction vs generalizing xs with
 |nil=>intro j v p h r;cases h;exact .nil
 |cons a vs c=>
  intro j v p h r;cases h with
  |cons b t=>
   cases j with
   |zero=>exact .cons r t
   |succ j=>exact .cons b (c j t r)
end
mutual
def Ci:PV->PV->Bool
 | .lst xs,.lst ys=>D2 xs ys
 | .tup xs,.tup ys=>D2 xs ys
 | .tup xs,.con _ ys=>D2 xs ys
 | .con _ xs,.tup ys=>D2 xs ys
 | .con _ xs,.con _ ys=>D2 xs ys
 | .A9,.A9=>true
 | .bl a,.bl b=>a == b
 | .bl a,.int b=>(if a then 1 else 0) == b
 | .int a,.bl b=>a == (if b then 1 else 0)
 | .int a,.int b=>a == b
 | .str a,.str b=>a == b
 |_,_=>false
def D2:List PV->List PV->Bool
 | [],[]=>true
 |x::r,y::t=>Ci x y && D2 r t
 |_,_=>false
end
theorem U2(x y:PV)(r t:List PV):D2 (x::r) (y::t)=(Ci x y && D2 r t):=by rw[D2]
theorem W7:∀(xs ys:List PV),xs.length≠ys.length->D2 xs ys=false
 | [],[],h=>absurd rfl h
 | [],_::_,_=>by rw[D2];all_goals simp
 |_::_,[],_=>by rw[D2];all_goals simp
 |x::r,y::t,h=>by rw[U2,W7 r t (by simpa using h),VC]
theorem W3:∀(xs ys:List PV),xs.length=ys.length->D2 xs ys=(List.range xs.length).all λj=>Ci (xs.getD j .A9) (ys.getD j .A9)
 | [],[],_=>by rw[D2];rfl
 |x::r,y::t,h=>by
  rw[U2,W3 r t (by simpa using h),Ck,List.range_succ_eq_map,RA,List.all_map]
  rfl
def dat(K:ZJa):Nat->PV->Prop
 |_,.A9=>True
 |_,.bl _=>True
 |_,.int _=>True
 |_,.str _=>True
 |d+1,.lst xs=>∀x∈xs,dat K d x
 |d+1,.tup xs=>∀x∈xs,dat K d x
 |d+1,.con a xs=>(∀x∈xs,dat K d x)/\xs.all flat=true/\∀H,AW K H a (xs.map Fz.enc)
 |_,_=>False
inductive Hq (K:ZJa) (H:Hp):V->PV->Bool->Addr->List V->List PV->Prop where
 |lst {a:Addr}{vs:List V}{xs:List PV}:Ab K H a vs->AY H vs xs->Hq K H (.ref a) (.lst xs) false a vs xs
 |tup {a:Addr}{vs:List V}{xs:List PV}:AW K H a vs->AY H vs xs->Hq K H (.ref a) (.tup xs) true a vs xs
 |con {a:Addr}{vs:List V}{xs:List PV}:AW K H a vs->AY H vs xs->Hq K H (.ref a) (.con a xs) true a vs xs
theorem HG{K:ZJa}:∀{d:Nat}{x:V}{p:PV},dat K d p->Rep H x p->(flat p=true/\x=Fz.enc p)∨∃d' tp a vs xs,d=d'+1/\Hq K H x p tp a vs xs/\∀y∈xs,dat K d' y:=by
 intro d x p h r;cases r with
 |A9=>exact .inl ⟨rfl,rfl⟩
 |bl b=>exact .inl ⟨rfl,rfl⟩
 |int b=>exact .inl ⟨rfl,rfl⟩
 |str b=>exact .inl ⟨rfl,rfl⟩
 |lst e r=>cases d with
  |zero=>exact h.elim
  |succ d=>exact .inr ⟨d,_,_,_,_,rfl,.lst (Ab.of e) r,h⟩
 |tup e r=>cases d with
  |zero=>exact h.elim
  |succ d=>exact .inr ⟨d,_,_,_,_,rfl,.tup (AW.of e) r,h⟩
 |con=>cases d with
  |zero=>exact h.elim
  |succ d=>obtain⟨h1,h2,c⟩:=h;exact .inr ⟨d,_,_,_,_,rfl,.con (c H) (oO h2),h1⟩
 |B2 _ _ _=>cases d <;> exact h.elim
 |obj _ _ _ _=>cases d <;> exact h.elim
 |N7 _=>cases d <;> exact h.elim
 |exc _ _ _ _=>cases d <;> exact h.elim
section
variable{X:Cx}{ZA:ZJb}{s:Shared}
theorem rG(d:Vals vs A5)(c:Vals ws C0)(f:AY H vs xs)(e:AY H ws ys)
  (h:∀(x y:V)(p q:PV)(u v:Value),p∈xs->q∈ys->Rep H x p->Rep H y q->RelV x u->RelV y v->SeqAt.EqAt A s u v (Ci p q)) :
  ∀j(h1:j<A5.toArray.size)(h2:j<C0.toArray.size),SeqAt.EqAt A s A5.toArray[j] C0.toArray[j] ((λj=>Ci (xs.getD j .A9) (ys.getD j .A9)) j):=λj h1 h2=>by
 have l1:=d.length;have l2:=c.length;have D:=f.length;have C:=e.length;have B:j<A5.length:=by simpa using h1
 have z:j<C0.length:=by simpa using h2
 have b:j<xs.length:=by omega
 have a:j<ys.length:=by omega
 obtain⟨x,hx,m⟩:=f.get (i:=j) (p:=xs[j]) (BK b);obtain⟨y,r,l⟩:=e.get (i:=j) (p:=ys[j]) (BK a);obtain⟨u,k,o⟩:=d.get hx;obtain⟨v,g,n⟩:=c.get r;rw[BK B]at k;rw[BK z]at g;have t:A5[j]=u:=Bs k;have w:C0[j]=v:=Bs g;have q:=h x y _ _ u v (Mn b) (Mn a) m l o n;rw[<- t,<- w]at q;show SeqAt.EqAt A s _ _ (Ci (xs.getD j .A9) (ys.getD j .A9));rw[Oe,BK b,Oe,BK a]
 simpa using q
theorem Ut{p:PV}{x:V}(h:Hq X.K H x p tp a vs xs)(f:flat q=true):Ci p q=false/\Ci q p=false:=by
 cases h <;> cases q <;> first|exact Bool.noConfusion f|exact⟨rfl,rfl⟩
theorem XJ{p:PV}{x y:V}(h:Hq X.K H x p tp a vs xs)(h2:Hq X.K H y q CV b ws ys):Ci p q=(if tp=CV then D2 xs ys else false):=by
 cases h <;> cases h2 <;> rfl
theorem UA{p:PV}(h:flat p=true)(h2:flat q=true):Ci p q=EB (Fz.enc p) (Fz.enc q):=by
 cases p <;> cases q <;> first|exact Bool.noConfusion h|exact Bool.noConfusion h2|rfl
theorem ZI1{p:PV}{u v:Value}(h:flat p=true)(h2:flat q=true)(b:RelV (Fz.enc p) u)(a:RelV (Fz.enc q) v):SeqAt.RcAt A s u v (Ci p q)/\SeqAt.RcNeAt A s u v (!Ci p q):=by
 cases p <;> first|exact Bool.noConfusion h|skip
 all_goals cases q <;> first|exact Bool.noConfusion h2|skip
 .cases b;cases a;exact⟨.none_none,.none_none⟩
 .cases b;cases a;exact⟨.none_bool _,.none_bool _⟩
 .cases b;obtain⟨t,rfl⟩:=a;exact⟨.none_int _ _,.none_int _ _⟩
 .cases b;obtain⟨t,rfl⟩:=a;exact⟨.none_str _ _,.none_str _ _⟩
 .cases b;cases a;exact⟨.bool_none _,.bool_none _⟩
 .cases b;cases a;exact⟨.bool_bool _ _,.bool_bool _ _⟩
 .cases b;obtain⟨t,rfl⟩:=a;exact⟨.bool_int _ _ _,.bool_int _ _ _⟩
 .cases b;obtain⟨t,rfl⟩:=a;exact⟨.bool_str _ _ _,.bool_str _ _ _⟩
 .obtain⟨t,rfl⟩:=b;cases a;exact⟨.int_none _ _,.int_none _ _⟩
 .obtain⟨t,rfl⟩:=b;cases a;exact⟨.int_bool _ _ _,.int_bool _ _ _⟩
 .obtain⟨t,rfl⟩:=b;obtain⟨c,rfl⟩:=a;exact⟨.int_int _ _ _ _,.int_int _ _ _ _⟩
 .obtain⟨t,rfl⟩:=b;obtain⟨c,rfl⟩:=a;exact⟨.int_str _ _ _ _,.int_str _ _ _ _⟩
 .obtain⟨t,rfl⟩:=b;cases a;exact⟨.str_none _ _,.str_none _ _⟩
 .obtain⟨t,rfl⟩:=b;cases a;exact⟨.str_bool _ _ _,.str_bool _ _ _⟩
 .obtain⟨t,rfl⟩:=b;obtain⟨c,rfl⟩:=a;exact⟨.str_int _ _ _ _,.str_int _ _ _ _⟩
 .obtain⟨t,rfl⟩:=b;obtain⟨c,rfl⟩:=a;exact⟨.str_str _ _ _ _,.str_str _ _ _ _⟩
def RX(h:Heap)(tp:Bool)(a:Addr)(A5:Array Value):Prop:=if tp then IsTup h a A5 else h.IsList a A5
theorem Hq.HM(I:Inv X ZA Z H s){x:V}{p:PV}(h:Hq X.K H x p tp a vs xs):∃A5:List Value,x=.ref a/\Vals vs A5/\RX s.heap tp a A5.toArray/\AY H vs xs:=by
 cases h with
 |lst h r=>obtain⟨A5,b,p1,_⟩:=I.list h;exact⟨A5,rfl,b,p1.isList,r⟩
 |tup h r=>obtain⟨A5,b,p1,_⟩:=I.tuple h;exact⟨A5,rfl,b,p1,r⟩
 |con h r=>obtain⟨A5,b,p1,_⟩:=I.tuple h;exact⟨A5,rfl,b,p1,r⟩
theorem T9{A5:Array Value}{v:Value}(h:RX s.heap tp a A5)(f:flat q=true)(c:RelV (Fz.enc q) v)(b:A.units<cLine):
  (SeqAt.EqAt A s (.ref a) v false/\SeqAt.EqAt A s v (.ref a) false)/\(SeqAt.RcAt A s (.ref a) v false/\SeqAt.RcAt A s v (.ref a) false)/\(SeqAt.RcNeAt A s (.ref a) v true/\SeqAt.RcNeAt A s v (.ref a) true):=by
 cases tp with
 |false=>
  have h':s.heap.IsList a A5:=h;cases q <;> first|exact Bool.noConfusion f|skip
  .cases c;exact⟨⟨.list_none h' b,.none_list h' b⟩,⟨.list_none h' b,.none_list h' b⟩,⟨.list_none h' b,.none_list h' b⟩⟩
  .cases c;exact⟨⟨.list_bool _ h' b,.bool_list _ h' b⟩,⟨.list_bool _ h' b,.bool_list _ h' b⟩,⟨.list_bool _ h' b,.bool_list _ h' b⟩⟩
  .obtain⟨t,rfl⟩:=c;exact⟨⟨.list_int _ _ h' b,.int_list _ _ h' b⟩,⟨.list_int _ _ h' b,.int_list _ _ h' b⟩,⟨.list_int _ _ h' b,.int_list _ _ h' b⟩⟩
  .obtain⟨t,rfl⟩:=c;exact⟨⟨.list_str _ _ h' b,.str_list _ _ h' b⟩,⟨.list_str _ _ h' b,.str_list _ _ h' b⟩,⟨.list_str _ _ h' b,.str_list _ _ h' b⟩⟩
 |true=>
  have h':IsTup s.heap a A5:=h;cases q <;> first|exact Bool.noConfusion f|skip
  .cases c;exact⟨⟨.tuple_none h' b,.none_tuple h' b⟩,⟨.tuple_none h' b,.none_tuple h' b⟩,⟨.tuple_none h' b,.none_tuple h' b⟩⟩
  .cases c;exact⟨⟨.tuple_bool _ h' b,.bool_tuple _ h' b⟩,⟨.tuple_bool _ h' b,.bool_tuple _ h' b⟩,⟨.tuple_bool _ h' b,.bool_tuple _ h' b⟩⟩
  .obtain⟨t,rfl⟩:=c;exact⟨⟨.tuple_int _ _ h' b,.int_tuple _ _ h' b⟩,⟨.tuple_int _ _ h' b,.int_tuple _ _ h' b⟩,⟨.tuple_int _ _ h' b,.int_tuple _ _ h' b⟩⟩
  .obtain⟨t,rfl⟩:=c;exact⟨⟨.tuple_str _ _ h' b,.str_tuple _ _ h' b⟩,⟨.tuple_str _ _ h' b,.str_tuple _ _ h' b⟩,⟨.tuple_str _ _ h' b,.str_tuple _ _ h' b⟩⟩
theorem Hq.inj(I:Inv X ZA Z H s){x y:V}{p q:PV}{tp CV:Bool}{a:Addr}{vs ws:List V}{xs ys:List PV}(h:Hq X.K H x p tp a vs xs)(h2:Hq X.K H y q CV a ws ys):tp=CV/\vs=ws:=by
 have b:∀{vs ws:List V},Ab X.K H a vs->AW X.K H a ws->False:=λ{vs ws}h1 h2=>by
  obtain⟨A5,_,p1,_⟩:=I.list h1;obtain⟨C0,_,p2,_⟩:=I.tuple h2;obtain⟨o,n,e,c,_⟩:=p1;obtain⟨f,d,c2,_⟩:=p2;rw[e]at d;cases d;rw[c]at c2;exact absurd c2 (by decide)
 cases h with
 |lst h r=>cases h2 with
  |lst h2 _=>exact⟨rfl,I.lQ h h2⟩
  |tup h2 _=>exact(b h h2).elim
  |con h2 _=>exact(b h h2).elim
 |tup h r=>cases h2 with
  |lst h2 _=>exact(b h2 h).elim
  |tup h2 _=>exact⟨rfl,I.Pg h h2⟩
  |con h2 _=>exact⟨rfl,I.Pg h h2⟩
 |con h r=>cases h2 with
  |lst h2 _=>exact(b h2 h).elim
  |tup h2 _=>exact⟨rfl,I.Pg h h2⟩
  |con h2 _=>exact⟨rfl,I.Pg h h2⟩
theorem ie{p:PV}(h:flat p=true):EB (Fz.enc p) (Fz.enc p)=true:=by cases p <;> first|exact Bool.noConfusion h|exact uz _|rfl
theorem ZGN(i:∀(x:V)(p q:PV),Rep H x p->Rep H x q->dat X.K d p->dat X.K d q->Ci p q=true)(f:AY H vs xs)(c:AY H vs ys)(h1:∀x∈xs,dat X.K d x)(h2:∀y∈ys,dat X.K d y):D2 xs ys=true:=by
 induction xs generalizing vs ys with
 |nil=>
  cases f.DZ;cases ys with
  |nil=>rfl
  |cons y t=>obtain⟨v,ws,e,_⟩:=c.inv;cases e
 |cons x xs h=>
  obtain⟨v,ws,rfl,a,b⟩:=f.inv;cases ys with
  |nil=>have e:=c.DZ;cases e
  |cons y t=>
   obtain⟨l,g,e,k,j⟩:=c.inv;cases e;rw[U2,i _ _ _ a k (h1 _ DC) (h2 _ DC),h b j (λx hx=>h1 x (Dd _ hx)) (λx hx=>h2 x (Dd _ hx))];rfl
theorem pM(I:Inv X ZA Z H s):∀(d:Nat)(x:V)(p q:PV),Rep H x p->Rep H x q->dat X.K d p->dat X.K d q->Ci p q=true:=λd=>by
 induction d with
 |zero=>
  intro x p q l h h1 h2;rcases HG h1 l with⟨j,k⟩|⟨d',_,_,_,_,e,_⟩
  .rcases HG h2 h with⟨c,g⟩|⟨d',_,_,_,_,e,_⟩
   .rw[UA j c,<- k,g];exact ie c
   .cases e
  .cases e
 |succ d r=>
  intro x p q l h h1 h2;rcases HG h1 l with⟨j,k⟩|⟨w,tp,a,vs,xs,e,i,k1⟩
  .rcases HG h2 h with⟨c,g⟩|⟨v,CV,b,ws,ys,e,f,k2⟩
   .rw[UA j c,<- k,g];exact ie c
   .obtain⟨_,ex,_⟩:=f.HM I;subst ex;cases p <;> first|(cases j;done)|(cases k;done)
  .cases e;rcases HG h2 h with⟨c,g⟩|⟨v,CV,b,ws,ys,e,f,k2⟩
   .obtain⟨_,ex,_⟩:=i.HM I;subst ex;cases q <;> first|(cases c;done)|(cases g;done)
   .cases e;obtain⟨_,ex,_,_,o⟩:=i.HM I;obtain⟨_,m,_,_,n⟩:=f.HM I;rw[ex]at m;cases m;obtain⟨u,t⟩:=i.inj I f;subst t;rw[XJ i f,tX u];exact ZGN r o n k1 k2
theorem ux(b:Vals vs A5)(a:Vals ws C0)(d:AY H vs xs)(c:AY H ws ys):A5.toArray.size=xs.length/\C0.toArray.size=ys.length:=by
 have l1:=b.length;have l2:=a.length;have f:=d.length;have e:=c.length;simp only[CL];omega
theorem eS(h1:RX s.heap tp a A5.toArray)(h2:RX s.heap CV b C0.toArray)(m:Vals vs A5)(l:Vals ws C0)(o:AY H vs xs)(n:AY H ws ys)(c:A.units<cLine)
  (h:∀(x y:V)(p q:PV)(u v:Value),p∈xs->q∈ys->Rep H x p->Rep H y q->RelV x u->RelV y v->SeqAt.EqAt A.in1 s u v (Ci p q)) :
  SeqAt.RcAt A s (.ref a) (.ref b) (if tp=CV then D2 xs ys else false)/\SeqAt.RcNeAt A s (.ref a) (.ref b) (!(if tp=CV then D2 xs ys else false)):=by
 obtain⟨i,k⟩:=ux m l o n;have it:=rG (A:=A.in1) m l o n h;cases tp with
 |false=>cases CV with
  |false=>
   rw[tX rfl];have g:s.heap.IsList a A5.toArray:=h1;have f:s.heap.IsList b C0.toArray:=h2
   by_cases d:xs.length=ys.length
   .rw[W3 xs ys d,<- i];exact⟨.lists g f (by omega) c it,.lists g f (by omega) c it⟩
   .rw[W7 xs ys d];have r:(A5.toArray.size != C0.toArray.size)=true:=by simp only[bne_iff_ne,ne_eq];omega
    exact⟨.lists_lengths g f r c,.lists_lengths g f r c⟩
  |true=>rw[qg (by decide)];exact⟨.list_tuple h1 h2 c,.list_tuple h1 h2 c⟩
 |true=>cases CV with
  |false=>rw[qg (by decide)];exact⟨.tuple_list h1 h2 c,.tuple_list h1 h2 c⟩
  |true=>
   rw[tX rfl];have g:IsTup s.heap a A5.toArray:=h1;have f:IsTup s.heap b C0.toArray:=h2;have e:((List.range (min A5.toArray.size C0.toArray.size)).all (λj=>Ci (xs.getD j .A9) (ys.getD j .A9)) && A5.toArray.size == C0.toArray.size)=D2 xs ys:=by
    by_cases d:xs.length=ys.length
    .rw[W3 xs ys d,i,k,<- d,cx,uz,oV]
    .rw[W7 xs ys d,i,k,show(xs.length == ys.length)=false from by simpa using d,VC]
   have k1:=SeqAt.RcAt.tuples (A:=A) (e:=λj=>Ci (xs.getD j .A9) (ys.getD j .A9)) g f c it;have k2:=SeqAt.RcNeAt.tuples (A:=A) (e:=λj=>Ci (xs.getD j .A9) (ys.getD j .A9)) g f c it;rw[e]at k1 k2;exact⟨k1,k2⟩
theorem ZGQ(I:Inv X ZA Z H s):∀(d:Nat)(x y:V)(p q:PV),Rep H x p->Rep H y q->dat X.K d p->dat X.K d q->∀(A:Around)(u v:Value),RelV x u->RelV y v->A.units+d<cLine->SeqAt.EqAt A s u v (Ci p q):=λd=>by
 induction d with
 |zero=>
  intro x y p q k h h1 h2 A u v f c G;rcases HG h1 k with⟨i,o⟩|⟨_,_,_,_,_,e,_⟩
  .rcases HG h2 h with⟨g,m⟩|⟨_,_,_,_,_,e,_⟩
   .subst o;subst m;rw[UA i g];exact SK f c (Uh i) (Uh g)
   .cases e
  .cases e
 |succ d F=>
  intro x y p q k h h1 h2 A u v f c G;rcases HG h1 k with⟨i,o⟩|⟨N,tp,a,vs,xs,e,n,k1⟩
  .rcases HG h2 h with⟨g,m⟩|⟨M,CV,b,ws,ys,e,l,k2⟩
   .subst o;subst m;rw[UA i g];exact SK f c (Uh i) (Uh g)
   .obtain⟨A5,r,_,j,_⟩:=l.HM I;subst o;subst r;cases(show v=Value.ref b from c);rw[(Ut l i).2];exact(T9 j i f (by omega)).1.2
  .cases e;rcases HG h2 h with⟨g,m⟩|⟨M,CV,b,ws,ys,e,l,k2⟩
   .obtain⟨A5,ex,_,j,_⟩:=n.HM I;subst m;subst ex;cases(show u=Value.ref a from f);rw[(Ut n g).1];exact(T9 j g c (by omega)).1.1
   .cases e;obtain⟨A5,ex,C,E,z⟩:=n.HM I;obtain⟨C0,r,B,D,w⟩:=l.HM I;subst ex;subst r;cases(show u=Value.ref a from f);cases(show v=Value.ref b from c)
    by_cases t:a=b
    .subst t;rw[pM I (d+1) _ p q k h h1 h2];exact .same _
    .rw[XJ n l];refine SeqAt.EqAt.of_refs t (eS E D C B z w (by omega) λx y p q u v L J k h f c=>?_).1;exact F x y p q k h (k1 p L) (k2 q J) A.in1 u v f c (by show A.units+1+d<cLine;omega)
theorem ZD1(I:Inv X ZA Z H s)(d:Nat)(x y:V)(p q:PV)(m:Rep H x p)(i:Rep H y q)(h1:dat X.K d p)(h2:dat X.K d q)(A:Around)(u v:Value)(f:RelV x u)(c:RelV y v)(M:A.units+d<cLine):SeqAt.RcAt A s u v (Ci p q)/\SeqAt.RcNeAt A s u v (!Ci p q):=by
 rcases HG h1 m with⟨n,r⟩|⟨t,tp,a,vs,xs,e,k,k1⟩
 .rcases HG h2 i with⟨l,h⟩|⟨L,CV,b,ws,ys,e,g,k2⟩
  .subst r;subst h;exact ZI1 n l f c
  .obtain⟨A5,o,_,j,_⟩:=g.HM I;subst r;subst o;cases(show v=Value.ref b from c);rw[(Ut g n).2];have z:=T9 (A:=A) j n f (by omega);exact⟨z.2.1.2,z.2.2.2⟩
 .rcases HG h2 i with⟨l,h⟩|⟨L,CV,b,ws,ys,h,g,k2⟩
  .obtain⟨A5,ex,_,j,_⟩:=k.HM I;subst h;subst ex;cases(show u=Value.ref a from f);rw[(Ut k l).1];have z:=T9 (A:=A) j l c (by omega);exact⟨z.2.1.1,z.2.2.1⟩
  .subst e;cases h;obtain⟨A5,ex,D,F,B⟩:=k.HM I;obtain⟨C0,o,C,E,w⟩:=g.HM I;subst ex;subst o;cases(show u=Value.ref a from f);cases(show v=Value.ref b from c);rw[XJ k g];exact eS F E D C B w (by omega) λx y p q u v J G m i f c=>ZGQ I t x y p q m i (k1 p J) (k2 q G) A.in1 u v f c (by show A.units+1+t<cLine;omega)
def ja(K:ZJa)(neg:Bool):R2:=λx y H Q=>∃p q,Rep H x p/\Rep H y q/\dat K 40 p/\dat K 40 q/\Q (.bl (if neg then !Ci p q else Ci p q)) H
theorem z8(i:X.A.units+64<cLine):Bc X (compareOp .NotEq) (ja X.K true):=by
 intro ZA s Z H x y v u Q I b a h;obtain⟨p,q,d,c,g,f,e⟩:=h;exact(ZD1 I 40 x y p q d c g f X.A _ _ b a (by omega)).2 _ _ _ _ ⟨.bl (!Ci p q),H,I,rfl,e⟩
end
section
variable[Xw]
variable{K:ZJa}{k:PV->Prop}
theorem nG(h:Wp ss ta λp=>Wp ss tb λq=>dat K 40 p/\dat K 40 q/\k (.bl (!Ci p q))):Wp ss (CB (ja K true) ta tb) k:=⟨λE Z F H Q S q=>
 h.go E Z F H _ S λv p F1 H1 b d h2=>h2.go E Z F1 H1 _ b.st λg p2 F2 H2 a c⟨f,e,kk⟩=>
  ⟨p,p2,(d.mono a.ff).mono a.st.fh,c.mono a.st.fh,f,e,q _ _ F2 H2 (b.trans a) (.bl _) kk⟩⟩
end
noncomputable def OV.at(t:OV):List Nat->Option OV
 | []=>some t
 |j::p=>match t with
  | .nd _ _ xs=>(xs[j]?).bind λx=>OV.at x p
  | .tp xs=>(xs[j]?).bind λx=>OV.at x p
  | .fz _=>none
noncomputable def OV.put(t:OV)(l:List Nat)(n:OV):OV:=match l with
 | []=>n
 |j::p=>match t with
  | .nd k a xs=>match xs[j]? with
   |some x=>.nd k a (xs.set j (OV.put x p n))
   |none=>.nd k a xs
  | .tp xs=>match xs[j]? with
   |some x=>.tp (xs.set j (OV.put x p n))
   |none=>.tp xs
  | .fz q=>.fz q
theorem OV.JG:t.at []=some t:=by rw[OV.at]
theorem OV.Lz{k:NK}{xs:List OV}:(OV.nd k a xs).at (j::p)=(xs[j]?).bind λx=>x.at p:=by rw[OV.at]
theorem OV.QC{xs:List OV}:(OV.tp xs).at (j::p)=(xs[j]?).bind λx=>x.at p:=by rw[OV.at]
theorem OV.GQ:t.put [] n=n:=by rw[OV.put]
theorem OV.Kj{k:NK}{xs:List OV}(h:xs[j]?=some x):(OV.nd k a xs).put (j::p) n=.nd k a (xs.set j (x.put p n)):=by rw[OV.put,h]
theorem OV.Tu{xs:List OV}(h:xs[j]?=some x):(OV.tp xs).put (j::p) n=.tp (xs.set j (x.put p n)):=by rw[OV.put,h]
theorem OV.OC{u w:OV}:∀{p:List Nat}{t:OV}{j:Nat},t.at p=some u->u.at [j]=some w->t.at (p++[j])=some w
 | [],t,j,h,h2=>by rw[OV.JG]at h;cases h;exact h2
 |i::p,.nd k a xs,j,h,h2=>by
  rw[OV.Lz]at h;rw[cR,OV.Lz];cases e:xs[i]? with
  |none=>rw[e]at h;cases h
  |some x=>rw[e]at h;exact OV.OC (t:=x) h h2
 |i::p,.tp xs,j,h,h2=>by
  rw[OV.QC]at h;rw[cR,OV.QC];cases e:xs[i]? with
  |none=>rw[e]at h;cases h
  |some x=>rw[e]at h;exact OV.OC (t:=x) h h2
 |i::p,.fz q,j,h,h2=>by rw[OV.at]at h;cases h
theorem K0:∀{xs:List OV}{j:Nat}{x:OV},xs[j]?=some x->∃l r,OV.Ax xs=l++x.addrs++r/\∀y:OV,OV.Ax (xs.set j y)=l++y.addrs++r
 |x::xs,0,z,h=>by
  simp at h;subst h;exact⟨[],OV.Ax xs,by rw[OV.Cv];rfl,λy=>by rw[cq,OV.Cv];rfl⟩
 |x::xs,j+1,z,h=>by
  obtain⟨l,r,b,a⟩:=K0 (xs:=xs) (j:=j) (x:=z) (by simpa using h)
  refine⟨x.addrs++l,r,by rw[OV.Cv,b];simp[C5],λy=>by rw[VJ,OV.Cv,a];simp[C5]⟩
theorem OV.split{u:OV}:∀{p:List Nat}{t:OV},t.at p=some u->∃l r,t.addrs=l++u.addrs++r/\∀n:OV,(t.put p n).addrs=l++n.addrs++r
 | [],t,h=>by rw[OV.JG]at h;cases h;exact⟨[],[],by simp,λn=>by rw[OV.GQ];simp⟩
 |j::p,.nd k a xs,h=>by
  rw[OV.Lz]at h;cases e:xs[j]? with
  |none=>rw[e]at h;cases h
  |some x=>
   rw[e]at h;obtain⟨l,r,g,f⟩:=K0 e;obtain⟨l2,b,d,c⟩:=OV.split (t:=x) h;refine⟨a::(k.more++(l++l2)),b++r,by rw[OV.Dr,g,d];simp[C5],λn=>by rw[OV.Kj e,OV.Dr,f,c];simp[C5]⟩
 |j::p,.tp xs,h=>by
  rw[OV.QC]at h;cases e:xs[j]? with
  |none=>rw[e]at h;cases h
  |some x=>
   rw[e]at h;obtain⟨l,r,g,f⟩:=K0 e;obtain⟨l2,b,d,c⟩:=OV.split (t:=x) h;refine⟨l++l2,b++r,by rw[OV.JL,g,d];simp[C5],λn=>by rw[OV.Tu e,OV.JL,f,c];simp[C5]⟩
 |j::p,.fz q,h=>by rw[OV.at]at h;cases h
theorem BY.get{F H:Hp}{vs:List V}{ts:List OV}{j:Nat}{t:OV}(r:BY F H vs ts)(e:ts[j]?=some t):∃v,vs[j]?=some v/\BL F H v t:=by
 induction ts generalizing vs j with
 |nil=>cases e
 |cons q ps c=>
  obtain⟨v,ws,rfl,a,b⟩:=r.inv;cases j with
  |zero=>cases e;exact⟨_,rfl,a⟩
  |succ j=>exact c (vs:=ws) (j:=j) b e
theorem BY.append{xs ys:List OV}(r:BY F H vs xs)(s:BY F H ws ys):BY F H (vs++ws) (xs++ys):=by
 induction xs generalizing vs with
 |nil=>cases r.DZ;exact s
 |cons p ps c=>obtain⟨v,us,rfl,a,b⟩:=r.inv;exact .cons a (c b)
theorem BY.one(r:BL F H v t):BY F H [v] [t]:=.cons r .nil
theorem ZCU(r:AY F vs xs):BY F H vs (xs.map .fz):=by
 induction xs generalizing vs with
 |nil=>cases r.DZ;exact .nil
 |cons p ps c=>obtain⟨v,us,rfl,a,b⟩:=r.inv;exact .cons (.fz a) (c b)
theorem BY.x9(r:BY F H vs (xs.map .fz)):AY F vs xs:=by
 induction xs generalizing vs with
 |nil=>cases r.DZ;exact .nil
 |cons p ps c=>obtain⟨v,us,rfl,a,b⟩:=r.inv;exact .cons a.inv (c b)
theorem Zf:∀(xs:List PV),OV.Ax (xs.map .fz)=[]
 | []=>by rw[VH,OV.Ax]
 |x::r=>by rw[CA,OV.Cv,OV.Ih,Zf r];rfl
theorem BY.set{xs:List OV}(j:Nat)(r:BY F H vs xs)(q:BL F H v t):BY F H (vs.set j v) (xs.set j t):=by
 induction xs generalizing vs j with
 |nil=>cases r.DZ;exact .nil
 |cons p ps c=>
  obtain⟨u,us,rfl,a,b⟩:=r.inv;cases j with
  |zero=>exact .cons q b
  |succ j=>exact .cons a (c j b)
theorem BY.swap{xs:List OV}(r:BY F H vs xs)(h:xs[j]?=some x)(f:vs[j]?=some v)(e:∀l r,OV.Ax xs=l++x.addrs++r->(∀z:OV,OV.Ax (xs.set j z)=l++z.addrs++r)->∀b∈l++r,∀o,H b=some o->H' b=some o)(g:BL F H' v y):BY F H' vs (xs.set j y):=by
 induction xs generalizing vs j with
 |nil=>cases h
 |cons p ps m=>
  obtain⟨u,us,rfl,a,b⟩:=r.inv;cases j with
  |zero=>
   cases h;cases f;refine .cons g (b.mono (AD.refl _) λc d o=>e [] (OV.Ax ps) (by rw[OV.Cv];rfl) (λz=>by rw[cq,OV.Cv];rfl) c d o)
  |succ j=>
   rw[VJ];obtain⟨l,q,s,n⟩:=K0 (xs:=ps) (j:=j) h;refine .cons (a.mono (AD.refl _) λc d o=>e (p.addrs++l) q (by rw[OV.Cv,s,C5,C5,C5]) (λz=>by rw[VJ,OV.Cv,n,C5,C5,C5]) c (IC _ (IC _ d)) o) (m (vs:=us) (j:=j) b h f λk i Et DA c d o=>?_);refine e (p.addrs++k) i (by rw[OV.Cv,Et,C5,C5,C5]) (λz=>by rw[VJ,OV.Cv,DA,C5,C5,C5]) c ?_ o;rcases List.mem_append.mp d with hz|hz
   .exact IC _ (G5 _ hz)
   .exact G5 _ hz
theorem BL.at{F H:Hp}{u:OV}:∀{p:List Nat}{t:OV}{v:V},BL F H v t->t.at p=some u->∃w,BL F H w u/\∀(H':Hp)(n:OV),BL F H' w n->(∀l r,t.addrs=l++u.addrs++r->(∀n:OV,(t.put p n).addrs=l++n.addrs++r)->∀b∈l++r,∀o,H b=some o->H' b=some o)->BL F H' v (t.put p n)
 | [],t,v,h,e=>by rw[OV.JG]at e;cases e;exact⟨v,h,λH' n r _=>by rw[OV.GQ];exact r⟩
 |j::p,.fz q,v,h,e=>by rw[OV.at]at e;cases e
 |j::p,.nd k a xs,_,.nd h sd ft r,e=>by
  rw[OV.Lz]at e;cases ex:xs[j]? with
  |none=>rw[ex]at e;cases e
  |some x=>
   rw[ex]at e;obtain⟨G,YA,B⟩:=r.get ex;obtain⟨w,d,go⟩:=BL.at (t:=x) B e;refine⟨w,d,λH' n A s=>?_⟩;obtain⟨l2,y,E,D⟩:=OV.split e;have key:∀l r,OV.Ax xs=l++x.addrs++r->(∀z:OV,OV.Ax (xs.set j z)=l++z.addrs++r)->∀b,b∈(a::(k.more++(l++l2)))++(y++r)->∀o,H b=some o->H' b=some o:=λl r m i b c o=>
    s (a::(k.more++(l++l2))) (y++r) (by rw[OV.Dr,m,E];simp[C5]) (λn=>by rw[OV.Kj ex,OV.Dr,i,D];simp[C5]) b c o
   obtain⟨l,q,m,i⟩:=K0 ex;rw[OV.Kj ex];refine .nd (key l q m i a (by simp) _ h) (NK.dC sd λb c=>key l q m i b (by simp[c])) ft ?_;refine r.swap ex YA (λg f Et DA b c o=>key g f Et DA b (by rcases List.mem_append.mp c with hz|hz <;> simp[hz]) o) ?_
   refine go H' n A λg f g1 C b c o=>?_;refine s (a::(k.more++(l++g))) (f++q) (by rw[OV.Dr,m,g1];simp[C5]) (λn=>by rw[OV.Kj ex,OV.Dr,i,C];simp[C5]) b (by rcases List.mem_append.mp c with hz|hz <;> simp[hz]) o
 |j::p,.tp xs,_,.tp h r,e=>by
  rw[OV.QC]at e;cases ex:xs[j]? with
  |none=>rw[ex]at e;cases e
  |some x=>
   rw[ex]at e;obtain⟨G,YA,B⟩:=r.get ex;obtain⟨w,d,go⟩:=BL.at (t:=x) B e;refine⟨w,d,λH' n A s=>?_⟩;obtain⟨l2,y,E,D⟩:=OV.split e;obtain⟨l,q,m,i⟩:=K0 ex;rw[OV.Tu ex];refine .tp h (r.swap ex YA (λg f Et DA b c o=>?_) (go H' n A λg f g1 C b c o=>?_))
   .exact s (g++l2) (y++f) (by rw[OV.JL,Et,E];simp[C5]) (λn=>by rw[OV.Tu ex,OV.JL,DA,D];simp[C5]) b (by rcases List.mem_append.mp c with hz|hz <;> simp[hz]) o
   .exact s (l++g) (f++q) (by rw[OV.JL,m,g1];simp[C5]) (λn=>by rw[OV.Tu ex,OV.JL,i,C];simp[C5]) b (by rcases List.mem_append.mp c with hz|hz <;> simp[hz]) o
theorem Sr{l u r n:List Addr}(h:(l++u++r).Nodup)(hn:n.Nodup)(hd:∀b∈n,b∈u∨b∉l++u++r):(l++n++r).Nodup:=by
 rw[Cz]at h ⊢;obtain⟨h1,h2,f⟩:=h;rw[Cz]at h1 ⊢;obtain⟨i,j,g⟩:=h1;refine⟨⟨i,hn,λa c b d e=>?_⟩,h2,λa c b d e=>?_⟩
 .subst e;rcases hd a d with z|z
  .exact g a c a z rfl
  .exact z (by simp[c])
 .subst e;rcases List.mem_append.mp c with c|c
  .exact f a (by simp[c]) a d rfl
  .rcases hd a c with z|z
   .exact f a (by simp[z]) a d rfl
   .exact z (by simp[d])
theorem Sg.Yr(S:Sg E ss Z F H){k:NK}{xs:List OV}{ho:HO}{lt:Bool}(hi:ss[i]?=some (.ow lt t))(B5:t.at p=some (.nd k a xs))(hn:BL F (upd H a ho) (.ref a) n)(nd:n.addrs.Nodup)
  (A:∀b∈n.addrs,b∈(OV.nd k a xs).addrs∨(F b=none/\E.H0 b=none/\∀(j:Nat)s,ss[j]?=some s->¬ Bl s Z[j]? b)):Sg E (ss.set i (.ow lt (t.put p n))) Z F (upd H a ho):=by
 obtain⟨v,e,r,ZH,q⟩:=S.ok i _ hi;obtain⟨l,J,g,C⟩:=OV.split B5;have f:a∈(OV.nd k a xs).addrs:=by rw[OV.Dr];simp
 have u:∀b∈(OV.nd k a xs).addrs,b∈t.addrs:=λb c=>by rw[g];simp[c]
 have R:∀b∈n.addrs,b∈(OV.nd k a xs).addrs∨b∉t.addrs:=λb c=>(A b c).imp id λz m=>z.2.2 i _ hi m;obtain⟨w,x,go⟩:=r.at B5;have M:w=.ref a:=by cases x;rfl
 subst M;have h:∀(j:Nat)s,(ss.set i .any)[j]?=some s->∀b,b∈t.addrs->¬ Bl s Z[j]? b:=λj s d b c m=>by
  by_cases z:j=i
  .subst z;rw[Cs (List.getElem?_eq_some_iff.mp hi).1]at d;cases d;cases m
  .rw[CO (BU z)]at d;exact S.CJ j i s _ b z d hi m c
 have Q:=(S.drop i).Za (o:=ho) (q a (u a f)).1 ((q a (u a f)).2.imp id λz=>z.2) λj s d=>h j s d a (u a f);have B:=ZH;rw[g,Cz,Cz]at B;obtain⟨⟨_,_,O⟩,_,N⟩:=B;have P:∀b,b∈l++J->b≠a:=λb c z=>by
  subst z;rcases List.mem_append.mp c with c|c
  .exact O b c b f rfl
  .exact N b (by simp[f]) b c rfl
 have L:BL F (upd H a ho) v (t.put p n):=go _ n hn λU T g1 V b c o K=>by
  rw[Aa ?_];exact K;rintro rfl;have D:=ZH;rw[g1,Cz,Cz]at D;obtain⟨⟨_,_,c1⟩,_,c2⟩:=D;rcases List.mem_append.mp c with c|c
  .exact c1 b c b f rfl
  .exact c2 b (by simp[f]) b c rfl
 have G:∀b∈(t.put p n).addrs,b∈t.addrs∨(F b=none/\E.H0 b=none/\∀(j:Nat)s,ss[j]?=some s->¬ Bl s Z[j]? b):=λb c=>by
  rw[C]at c;rcases List.mem_append.mp c with c|c
  .rcases List.mem_append.mp c with c|c
   .exact .inl (by rw[g];simp[c])
   .exact(A b c).imp (u b) id
  .exact .inl (by rw[g];simp[c])
 have I:=Q.setG (j:=i) (s:=.ow lt (t.put p n)) (v:=v) ⟨v,rfl,L,by rw[C];exact Sr (g▸ZH) nd λb c=>(R b c).imp id (by rw[g];exact id),λb c=>(G b c).elim (q b) λz=>⟨z.1,.inl z.2.1⟩⟩ λb c j s d y m=>by
  rcases G b c with z|z
  .exact h j s y b z m
  .rw[CO (BU d)]at y;exact z.2.2 j s y m
 rw[PX e,VL]at I;exact I
structure Wl [Xw] (ss:List Slot) (i:Nat) (t:OV) (te:TE) (k:List Nat->OV->Prop):Prop where
 hi:∃lt,ss[i]?=some (.ow lt t)
 go:∀(E:Ent)(Z:L2.St)(F H:Hp)(Q:VK),Sg E ss Z F H->(∀v p u F' H',Mv E ss Z F H F' H'->BL F' H' v u->t.at p=some u->k p u->Q v H')->te Z H Q
noncomputable def E6:List Nat->List Slot->List Slot
 | [],ss=>ss
 |i::m,ss=>E6 m (ss.set i .any)
structure Wx [Xw] (ss:List Slot) (te:TE) (k:List Nat->OV->Prop):Prop where
 go:∀(E:Ent)(Z:L2.St)(F H:Hp)(Q:VK),Sg E ss Z F H->(∀v m u F' H',Mv E ss Z F H F' H'->BL F' H' v u->u.addrs.Nodup->(∀a∈u.addrs,F' a=none/\E.H0 a=none/\((∃i∈m,∃s,s≠Slot.AS/\ss[i]?=some s/\Bl s Z[i]? a)∨H a=none))->k m u->Q v H')->te Z H Q
structure N8 [Xw] (ss:List Slot) (te:TA) (k:List Nat->List OV->Prop):Prop where
 go:∀(E:Ent)(Z:L2.St)(F H:Hp)(Q:List V->Hp->Prop),Sg E ss Z F H->(∀vs m us F' H',Mv E ss Z F H F' H'->BY F' H' vs us->(OV.Ax us).Nodup->(∀a∈OV.Ax us,F' a=none/\E.H0 a=none/\((∃i∈m,∃s,s≠Slot.AS/\ss[i]?=some s/\Bl s Z[i]? a)∨H a=none))->k m us->Q vs H')->te Z H Q
section
variable[Xw]
variable{K:ZJa}{k:PV->Prop}
theorem OV.MY(h:t.at p=some u):∀a∈u.addrs,a∈t.addrs:=λa b=>by
 obtain⟨l,r,e,_⟩:=OV.split h;rw[e];simp[b]
theorem BL.mv(r:BL F H v u)(S:Sg E ss Z F H)(hi:∃lt,ss[i]?=some (.ow lt t))(h:t.at p=some u)(m:Mv E ss Z F H F' H'):BL F' H' v u:=
 r.mono m.ff λa b o e=>m.hh a o (S.Pw hi.choose_spec (OV.MY h a b) (by simp)) e
theorem DK{lt:Bool}{k:List Nat->OV->Prop}(hi:ss[i]?=some (.ow lt t))(a:k [] t):Wl ss i t (BW i) k:=⟨⟨lt,hi⟩,λE Z F H Q S q=>by
 obtain⟨v,e,r,_,_⟩:=S.ok i _ hi;exact⟨v,e,q v [] t F H (.refl S) r OV.JG a⟩⟩
theorem Pd{k:List Nat->OV->Prop}(h:Wl ss i t ta λp u=>∃a xs,u=.nd .lst a xs/\Wp ss tb λq=>∃(j:Int)(n:Nat)(w:OV),q=.int j/\Hv xs.length j=some n/\xs[n]?=some w/\k (p++[n]) w):Wl ss i t (CB (Se K) ta tb) k:=⟨h.hi,λE Z F H Q S q=>
 h.go E Z F H _ S λv p u F1 H1 b m h1⟨a,xs,r,h2⟩=>h2.go E Z F1 H1 _ b.st λs p2 F2 H2 d l⟨j,n,w,e,hn,hw,kk⟩=>by
  subst e;cases l.inv;have g:=m.mv b.st h.hi h1 d;subst r;obtain⟨_,rfl,o,y,z,c⟩:=g.inv;obtain⟨x,hx,f⟩:=c.get hw;refine⟨a,_,j,x,rfl,rfl,Ab.of o,?_,q x (p++[n]) w F2 H2 (b.trans d) f (OV.OC h1 (by rw[OV.Lz,hw];exact OV.JG)) kk⟩;unfold L2.Bt;rw[c.length,hn];exact hx⟩
theorem SI{k:List Nat->OV->Prop}(h:Wl ss i t ta λp u=>∃xs,u=.tp xs/\Wp ss tb λq=>∃(j:Int)(n:Nat)(w:OV),q=.int j/\Hv xs.length j=some n/\xs[n]?=some w/\k (p++[n]) w):Wl ss i t (CB (Ng K) ta tb) k:=⟨h.hi,λE Z F H Q S q=>
 h.go E Z F H _ S λv p u F1 H1 b l h1⟨xs,o,h2⟩=>h2.go E Z F1 H1 _ b.st λr p2 F2 H2 a g⟨j,n,w,e,hn,hw,kk⟩=>by
  subst e;cases g.inv;have f:=l.mv b.st h.hi h1 a;subst o;obtain⟨_,_,rfl,m,c⟩:=f.inv;obtain⟨x,hx,d⟩:=c.get hw;refine⟨_,_,j,x,rfl,rfl,AW.of (a.st.fh _ _ m),?_,q x (p++[n]) w F2 H2 (b.trans a) d (OV.OC h1 (by rw[OV.QC,hw];exact OV.JG)) kk⟩;unfold L2.Bt;rw[c.length,hn];exact hx⟩
theorem DL(h:Wl ss i t te λ_ u=>∃p,u=.fz p/\k p):Wp ss te k:=⟨λE Z F H Q S q=>
 h.go E Z F H _ S λv p u F1 H1 b a h1 AU=>by obtain⟨p,c,kk⟩:=AU;subst c;cases a with|fz r=>exact q v p F1 H1 b r kk⟩
theorem E7{k:List Nat->OV->Prop}(h:Wp ss te λp=>k [] (.fz p)):Wx ss te k:=⟨λE Z F H Q S q=>
 h.go E Z F H _ S λv p F1 H1 c r kk=>q v [] (.fz p) F1 H1 c (.fz r) (by rw[OV.Ih];exact RE) (λa b=>by rw[OV.Ih]at b;cases b) kk⟩
theorem iA{k:List Nat->List OV->Prop}(h:k [] []):N8 ss BQ k:=⟨λE Z F H Q S q=>q _ [] [] F H (.refl S) .nil (by rw[OV.JD];exact RE) (λa b=>by rw[OV.JD]at b;cases b) h⟩
theorem ZDf{k:List Nat->OV->Prop}(hi:ss[i]?=some (.ow false t))(h:k [i] t):Wx ss (BW i) k:=⟨λE Z F H Q S q=>by
 obtain⟨v,e,r,nd,c⟩:=S.ok i _ hi;refine⟨_,e,q v [i] t F H (.refl S) r nd (λa b=>⟨(c a b).1,?_,.inl ⟨i,by simp,_,by simp,hi,b⟩⟩) h⟩;exact(c a b).2.elim id λz=>by cases z.1⟩
theorem Wx.ZCj(S:Sg E ss Z F H)(h:(∃i∈m,∃s,s≠Slot.AS/\ss[i]?=some s/\Bl s Z[i]? a)∨H a=none):DI ss Z a:=by
 rcases h with⟨j,_,s,c,b,o⟩|z
 .exact S.Pw b o c
 .exact S.P1 z
theorem Mv.ZGB(m:Mv E ss Z F H F' H')(h:F a=Option.none)(h2:H a≠Option.none):F' a=Option.none:=by
 cases e:F' a with
 |none=>rfl
 |some o=>
  rcases m.nn a o e with z|z
  .rw[h]at z;cases z
  .exact absurd z h2
theorem LW{k:List Nat->List OV->Prop}(h:Wx ss te λm u=>N8 ss tr λd us=>(∀i∈m,i∉d)/\k (m++d) (u::us)):N8 ss (An te tr) k:=⟨λE Z F H Q S q=>
 h.go E Z F H _ S λv m u F1 H1 p n II t h2=>h2.go E Z F1 H1 _ p.st λvs A us F2 H2 d B Qx y AU=>by
  obtain⟨J,kk⟩:=AU;have np:∀a∈u.addrs,DI ss Z a:=λa c=>Wx.ZCj S (t a c).2.2;refine q (v::vs) (m++A) (u::us) F2 H2 (p.trans d) (.cons (n.mono d.ff λa c o e=>d.hh a o (np a c) e) B) ?_ (λa c=>?_) kk
  .rw[OV.Cv,Cz];refine⟨II,Qx,λa c b I e=>?_⟩;subst e;rcases(y a I).2.2 with⟨D,C,s2,K,Cn,x⟩|z
   .rcases(t a c).2.2 with⟨j,g,s,L,G,o⟩|z
    .exact S.CJ j D s s2 a (by rintro rfl;exact J j g C) G Cn o x
    .exact S.Ez Cn x z
   .exact n.there a c z
  .rw[OV.Cv]at c;rcases List.mem_append.mp c with c|c
   .obtain⟨f,r,w⟩:=t a c;exact⟨d.ZGB f (n.there a c),r,w.imp (λJT=>by obtain⟨j,g,z⟩:=JT;exact⟨j,by simp[g],z⟩) id⟩
   .obtain⟨f,r,w⟩:=y a c;exact⟨f,r,w.imp (λl=>by obtain⟨j,g,z⟩:=l;exact⟨j,by simp[g],z⟩) p.none⟩⟩
theorem ZEa{k:List Nat->OV->Prop}(h:N8 ss tr λm us=>us.length<=100000/\∀l,k m (.nd .lst l us)):Wx ss (SU tr) k:=⟨λE Z F H Q S q=>
 h.go E Z F H _ S λvs m us F1 H1 c g II s AU=>by obtain⟨n,kk⟩:=AU;exact⟨small (by rw[g.length];exact n),λp d=>by
  have i:=c.st.make d (.lst vs);have j:p∉OV.Ax us:=λb=>g.there _ b d;refine q _ m (.nd .lst p us) _ _ (c.trans i) (.nd (k:=.lst) AX trivial trivial (g.mono i.ff λa b o e=>by rw[Aa (by rintro rfl;exact j b)];exact e)) ?_ (λa b=>?_) (kk p)
  .rw[OV.Dr];exact List.nodup_cons.mpr ⟨j,II⟩
  .rw[OV.Dr]at b;rcases List.mem_cons.mp b with e|b
   .subst e;exact⟨c.st.CC d,c.st.Ei d,.inr (c.none d)⟩
   .obtain⟨f,r,w⟩:=s a b;exact⟨f,r,w⟩⟩⟩
theorem Ow{j:Nat}{s:Slot}:∀{m:List Nat}{ss:List Slot},(E6 m ss)[j]?=some s->s=.any∨(ss[j]?=some s/\j∉m)
 | [],ss,h=>.inr ⟨h,by simp⟩
 |i::m,ss,h=>by
  rcases Ow (m:=m) (ss:=ss.set i .any) h with e|⟨e,hm⟩
  .exact .inl e
  .by_cases q:j=i
   .subst q;have a:j<ss.length:=by have:=(List.getElem?_eq_some_iff.mp e).1;simpa using this
    rw[Cs a]at e;exact .inl (Bs e).symm
   .rw[CO (BU q)]at e;exact .inr ⟨e,by simp[q,hm]⟩
theorem Sg.E6{E:Ent0}{Z:L2.St}{F H:Hp}:∀(m:List Nat){ss:List Slot},Sg E ss Z F H->Sg E (Fz.E6 m ss) Z F H
 | [],_,S=>S
 |i::m,_,S=>Sg.E6 m (S.drop i)
theorem Sg.d8(S0:Sg E ss Z F0 H0)(S:Sg E ss Z F H)(r:BL F H v u)(nd:u.addrs.Nodup)(c:∀a∈u.addrs,F a=none/\E.H0 a=none/\((∃i∈m,∃s,s≠Slot.AS/\ss[i]?=some s/\Bl s Z[i]? a)∨H0 a=none)):
  Sg E ((Fz.E6 m ss).set j (.ow false u)) (Z.set j (some v)) F H:=by
 refine(S.E6 m).setG ⟨v,rfl,r,nd,λa b=>⟨(c a b).1,.inl (c a b).2.1⟩⟩ λa b i s FZ g o=>?_;rcases Ow g with e|⟨Ic,hm⟩
 .subst e;cases o
 .rcases(c a b).2.2 with⟨f,Il,s2,_,Cn,d⟩|z
  .exact S.CJ i f s s2 a (by rintro rfl;exact hm Il) Ic Cn o d
  .exact S0.Ez Ic o z
theorem Ul(h:Wx ss te λm u=>nx ((Fz.E6 m ss).set j (.ow false u))):Ws ss (FR te (Co j)) nx R:=⟨λE D Z F H S hn c=>
 h.go E Z F H _ S λv m u F1 H1 a r nd b kk=>hn _ _ F1 H1 kk (Sg.d8 S a.st r nd b) a.ff⟩
theorem BL.rep(ff:AD F F1):∀{v:V}{t:OV},BL F H v t->(∀a∈t.addrs,∀o,H a=some o->F1 a=some o)->Rep F1 v t.pv:=by
 intro v t r h;exact BL.rec (motive_1:=λv t _=>(∀a∈t.addrs,∀o,H a=some o->F1 a=some o)->Rep F1 v t.pv) (motive_2:=λvs ts _=>(∀a∈OV.Ax ts,∀o,H a=some o->F1 a=some o)->AY F1 vs (OV.D8 ts))
  (λ{v p}r _=>by rw[OV.pv];exact r.mono ff)
  (λ{a vs xs}e _ c h=>by rw[OV.pv];exact .tup (ff _ _ e) (c (by rw[OV.JL]at h;exact h)))
  (λ{k a vs xs}e i g _ c h=>by
   rw[OV.Dr]at h;have f:=c λa b=>h a (by simp[b]);have d:=h a (by simp) _ e;cases k with
   |lst=>rw[OV.pv];exact .lst d f
   |B2 ks=>rw[OV.pv];exact .B2 d g f
   |obj C dx ns=>rw[OV.pv];exact .obj d (h dx (by simp[NK.more]) _ i) g f
   |Si ks=>rw[OV.pv];exact .con)
  (λ_=>by rw[OV.D8];exact .nil)
  (λ_ _ j Xk h=>by
   rw[OV.Cv]at h;rw[OV.D8];exact .cons (j λa b=>h a (by simp[b])) (Xk λa b=>h a (by simp[b])))
  r h
theorem fb{t':TS}(i:Nat)(hi:ss[i]?=some (.ow false t))(h:Ws (ss.set i (.is t.pv)) t' nx R):Ws ss t' nx R:=⟨λE D Z F H S hn k=>by
 obtain⟨v,e,r,nd,f⟩:=S.ok i _ hi;obtain⟨S1,g⟩:=(S.drop i).lay t.addrs (λa b=>⟨(f a b).1,(f a b).2.elim id (λz=>by cases z.1),r.there a b⟩) λa b j s c m=>by
  by_cases q:j=i
  .subst q;rw[Cs (List.getElem?_eq_some_iff.mp hi).1]at c;cases c;cases m
  .rw[CO (BU q)]at c;exact S.CJ j i s _ a q c hi m b
 have d:=S1.FP (j:=i) (v:=v) (p:=t.pv) (r.rep g λa b o ho=>by unfold CN;rw[tX b];exact ho);rw[PX e,VL]at d;exact h.go E D Z _ H d (λDt σ2 F2 H2 n d s2=>hn Dt σ2 F2 H2 n d (g.trans s2)) k⟩
variable{lt:Bool}
theorem SM:(OV.nd .lst a us).addrs=a::OV.Ax us:=by rw[OV.Dr];rfl
theorem QF:∀(us ws:List OV),OV.Ax (us++ws)=OV.Ax us++OV.Ax ws
 | [],ws=>by rw[ck,OV.JD,ck]
 |u::us,ws=>by rw[cR,OV.Cv,OV.Cv,QF us ws,C5]
theorem TQ(u:OV):OV.Ax [u]=u.addrs:=by rw[OV.Cv,OV.JD,G4]
theorem Sg.zG{us':List OV}(S0:Sg E ss Z F0 H0)(S:Sg E ss Z F H)(hi:ss[i]?=some (.ow lt t))(B5:t.at p=some (.nd .lst a us))
  (d:∀a∈u.addrs,F a=none/\E.H0 a=none/\((∃i∈m,∃s,s≠Slot.AS/\ss[i]?=some s/\Bl s Z[i]? a)∨H0 a=none)) (GW:i∉m)
  (G:BY F H Ca us') (Pr:(OV.Ax us').Nodup) (JY:∀b∈OV.Ax us',b∈OV.Ax us∨b∈u.addrs):Sg E ((Fz.E6 m ss).set i (.ow lt (t.put p (.nd .lst a us')))) Z F (upd H a (.lst Ca)):=by
 have L:(Fz.E6 m ss)[i]?=some (.ow lt t):=by
  have n:∀(m:List Nat)(ss:List Slot),ss[i]?=some (.ow lt t)->i∉m->(Fz.E6 m ss)[i]?=some (.ow lt t):=by
   intro m
   induction m with
   |nil=>intro ss h _;exact h
   |cons j m C=>
    intro ss h f;refine C _ ?_ λz=>f (by simp[z]);rw[CO (by rintro rfl;exact f (by simp))];exact h
  exact n m ss hi GW
 obtain⟨v,e,r,nd,q⟩:=S.ok i _ hi;have A:∀b,b∈a::OV.Ax us->b∈t.addrs:=λb c=>OV.MY B5 b (by rw[SM];exact c);have K:∀b∈u.addrs,b∉t.addrs:=λb c z=>by
  rcases(d b c).2.2 with⟨j,I,s,_,g,o⟩|w
  .exact S.CJ j i s _ b (by rintro rfl;exact GW I) g hi o z
  .exact S0.Ez hi z w
 have x:(OV.nd .lst a us).addrs.Nodup:=by
  obtain⟨l,M,J,_⟩:=OV.split B5;rw[J,Cz,Cz]at nd;exact nd.1.2.1
 rw[SM]at x;have na:∀b∈OV.Ax us',b≠a:=λb c z=>by
  subst z;rcases JY b c with w|w
  .exact(List.nodup_cons.mp x).1 w
  .exact K b w (A b (by simp))
 refine(S.E6 m).Yr L B5 (.nd (k:=.lst) AX trivial trivial (G.mono (AD.refl _) λb c o ho=>by rw[Aa (na b c)];exact ho)) (by rw[SM];exact List.nodup_cons.mpr ⟨λz=>na a z rfl,Pr⟩) λb c=>?_;rw[SM]at c ⊢;rcases List.mem_cons.mp c with w|w
 .exact .inl (by simp[w])
 .rcases JY b w with z|z
  .exact .inl (by simp[z])
  .refine .inr ⟨(d b z).1,(d b z).2.1,λj s g o=>?_⟩;rcases Ow g with y|⟨Ic,f⟩
   .subst y;cases o
   .rcases(d b z).2.2 with⟨D,Il,s2,_,Cn,B⟩|y
    .exact S.CJ j D s s2 b (by rintro rfl;exact f Il) Ic Cn o B
    .exact S0.Ez Ic o y
theorem rP{k:OV->Prop}(h:Wx ss te λ_ u=>k u):Ws ss (Hy te) nx (.ow k):=⟨λE D Z F H S hn e=>
 h.go E Z F H _ S λv m u F1 H1 d r nd b kk=>e v F1 H1 d.st.toFin ⟨u,r,nd,λa c=>⟨(b a c).1,(b a c).2.1⟩,kk⟩⟩
end
def ptr(a:Addr):Hp->V->Prop:=λ_ v=>v=.ref a
section
variable[Xw]
variable{K:ZJa}{k:PV->Prop}{lt:Bool}
theorem Sg.yK(S:Sg E ss Z F H)(hi:ss[i]?=some (.ow lt t))(B5:t.at p=some (.nd .lst a (ps.map .fz)))(e:AY F Ca kM):Sg E (ss.set i (.ow lt (t.put p (.nd .lst a (kM.map .fz))))) Z F (upd H a (.lst Ca)):=
 Sg.zG (m:=[]) (u:=.fz .A9) S S hi B5 (λa d=>by rw[OV.Ih]at d;cases d) (by simp) (ZCU e) (by rw[Zf];exact RE) λb c=>by rw[Zf]at c;cases c
theorem Sg.zv(S:Sg E ss Z F H)(hi:ss[i]?=some (.ow lt t))(B5:t.at p=some (.nd .lst a (ps.map .fz))):∃vs,H a=some (.lst vs)/\AY F vs ps:=by
 obtain⟨v,e,r,_,_⟩:=S.ok i _ hi;obtain⟨w,b,_⟩:=r.at B5;obtain⟨_,rfl,d,_,_,c⟩:=b.inv;exact⟨_,d,c.x9⟩
theorem Iw{k:List Nat->OV->Prop}{nk:NK}(g:ss[j]?=some (.raw (ptr a)))(hi:ss[i]?=some (.ow lt t))(B5:t.at p=some (.nd nk a us))(f:k p (.nd nk a us)):Wl ss i t (BW j) k:=⟨⟨lt,hi⟩,λE Z F H Q S q=>by
 obtain⟨v,e,c,_⟩:=S.ok j _ g;obtain⟨l,m,d,_,_⟩:=S.ok i _ hi;obtain⟨w,b,_⟩:=d.at B5;have h:w=.ref a:=by cases b;rfl
 subst h;cases(show v=.ref a from c);exact⟨_,e,q _ p _ F H (.refl S) b B5 f⟩⟩
theorem ZAf(h:Wp ss te λq=>Wl ss i t ta λp u=>∃(lt:Bool)(a:Addr)(ps:List PV),ss[i]?=some (.ow lt t)/\u=.nd .lst a (ps.map .fz)/\Wp ss ti λl=>∃n:Nat,l=.int n/\n<ps.length/\nx (ss.set i (.ow lt (t.put p (.nd .lst a ((ps.set n q).map .fz)))))):Ws ss (FR te (XH ta ti ma)) nx R:=⟨λE D Z F H S hn z=>
 h.go E Z F H _ S λv q F1 H1 e g h2=>h2.go E Z F1 H1 _ e.st λf p u F2 H2 c k B5⟨lt,a,ps,hi,s,o⟩=>by
  subst s;have r:f=.ref a:=by cases k;rfl
  subst r;refine o.go E Z F2 H2 _ c.st λx y F3 H3 b j⟨n,w,LO,kk⟩=>?_;subst w;cases j;obtain⟨vs,m,d⟩:=b.st.zv hi B5;refine⟨a,vs,_,n,rfl,rfl,m,ir (by rw[d.length];exact LO),?_⟩;exact hn _ Z F3 _ kk (b.st.yK hi B5 (d.set n (g.mono (c.ff.trans b.ff)))) (e.ff.trans (c.ff.trans b.ff))⟩
end
def De:List Slot->L2.St->List Addr
 | .own _::ss,some (.ref l)::Z=>l::De ss Z
 | .ow _ t::ss,_::Z=>t.addrs++De ss Z
 |_::ss,_::Z=>De ss Z
 |_,_=>[]
theorem fL:∀{ss:List Slot}{Z:L2.St}{a:Addr},a∈De ss Z->∃(i:Nat)(s:Slot),ss[i]?=some s/\s≠.AS/\Bl s Z[i]? a
 | [],Z,a,h=>absurd h BA
 |s::ss,[],a,h=>by cases s <;> exact absurd h BA
 |s::ss,o::Z,a,h=>by
  have up:a∈De ss Z->∃(i:Nat)(s':Slot),(s::ss)[i]?=some s'/\s'≠.AS/\Bl s' (o::Z)[i]? a:=λh=>by
   obtain⟨i,s',h1,h2,b⟩:=fL h;exact⟨i+1,s',by simpa using h1,h2,by simpa using b⟩
  cases s with
  |own xs=>
   cases o with
   |none=>exact up h
   |some v=>
    cases v with
    |ref l=>
     have h:a∈l::De ss Z:=h;rcases List.mem_cons.mp h with e|h
     .subst e;exact⟨0,_,rfl,by simp,rfl⟩
     .exact up h
    |_=>exact up h
  |ow lt t=>
   have h:a∈t.addrs++De ss Z:=h;rcases List.mem_append.mp h with h|h
   .exact⟨0,_,rfl,by simp,h⟩
   .exact up h
  |_=>exact up h
theorem nZ:∀{ss:List Slot}{Z:L2.St}{i:Nat}{s:Slot}{a:Addr},ss.length=Z.length->ss[i]?=some s->s≠.AS->Bl s Z[i]? a->a∈De ss Z
 | [],Z,i,s,a,_,h,_,_=>by simp at h
 |s0::ss,[],i,s,a,hl,_,_,_=>by simp at hl
 |s0::ss,o::Z,0,s,a,hl,h,hp,ho=>by
  simp at h;subst h;cases s0 with
  |own xs=>
   have e:o=some (.ref a):=by have:some o=some (some (V.ref a)):=ho;exact Bs this
   subst e;exact DC
  |ow lt t=>exact IC _ ho
  |AS=>exact absurd rfl hp
  |_=>cases ho
 |s0::ss,o::Z,i+1,s,a,hl,h,hp,ho=>by
  have q:=nZ (ss:=ss) (Z:=Z) (i:=i) (a:=a) (by simpa using hl) (by simpa using h) hp (by simpa using ho)
  cases s0 with
  |own xs=>cases o with
   |none=>exact q
   |some v=>cases v with
    |ref l=>exact Dd _ q
    |_=>exact q
  |ow lt t=>exact G5 _ q
  |_=>exact q
theorem BL.dv(r:BL F H v t):∀a∈t.addrs,∀vs,H a≠some (.tup vs):=
 BL.rec (motive_1:=λ_ t _=>∀a∈t.addrs,∀vs,H a≠some (.tup vs)) (motive_2:=λ_ ts _=>∀a∈OV.Ax ts,∀vs,H a≠some (.tup vs))
  (λ_ a c _=>by rw[OV.Ih]at c;cases c)
  (λ_ _ i a c vs=>by rw[OV.JL]at c;exact i a c vs)
  (λ{k}{b}{_}{_}h f _ _ i a c vs=>by
   rw[OV.Dr,GY,JR]at c;rcases c with rfl|c|c
   .rw[h];cases k <;> (intro z;cases z)
   .cases k with
    |obj C dx ns=>
     have e:a=dx:=List.mem_singleton.mp c;subst e;have d:H a=some (.own b):=f;rw[d];intro z;cases z
    |_=>exact absurd c BA
   .exact i a c vs)
  (λa c _=>by rw[OV.JD]at c;cases c)
  (λ_ _ i k a c ws=>by
   rw[OV.Cv,JR]at c;rcases c with c|c
   .exact i a c ws
   .exact k a c ws)
  r
mutual
def IE:PV->Bool
 | .lst _=>false
 | .B2 _ _=>false
 | .obj _ _ _=>false
 | .exc _ _ _=>false
 | .tup xs=>Ss xs
 |_=>true
def Ss:List PV->Bool
 | []=>true
 |x::r=>IE x && Ss r
end
noncomputable def Hn(F:Hp)(as:List Addr):Hp:=λa=>if a∈as then none else F a
theorem Rep.sub{as:List Addr}(h:∀a∈as,∀vs,F a≠some (.tup vs)):∀{v:V}{p:PV},Rep F v p->IE p=true->Rep (Hn F as) v p:=by
 intro v p r hn;exact Rep.rec (motive_1:=λv p _=>IE p=true->Rep (Hn F as) v p) (motive_2:=λvs ps _=>Ss ps=true->AY (Hn F as) vs ps)
  (λ_=>.A9) (λb _=>.bl b) (λi _=>.int i) (λx _=>.str x)
  (λ_ _ _ z=>Bool.noConfusion (show false=true from z))
  (λ{a vs xs}e _ c z=>.tup (by unfold Hn;rw[qg (λq=>h a q vs e)];exact e) (c z))
  (λ_ _ _ _ z=>Bool.noConfusion (show false=true from z))
  (λ_ _ _ _ _ z=>Bool.noConfusion (show false=true from z))
  (λ_=>.con)
  (λ_ z=>Bool.noConfusion (show false=true from z))
  (λ_ _ _ _ _ z=>Bool.noConfusion (show false=true from z))
  (λ_=>.nil)
  (λ_ _ d Xk z=>by
   have z:=(Dm _ _).mp z;exact .cons (d z.1) (Xk z.2))
  r hn
structure Wb [Xw] (ss:List Slot) (ta:TA) (k:List PV->Prop):Prop where
 go:∀(E:Ent)(Z:L2.St)(F H:Hp)(Q:List V->Hp->Prop),Sg E ss Z F H->(∀vs ps F' H',Mv E ss Z F H F' H'->AY (CN F' H' (De ss Z)) vs ps->k ps->Q vs H')->ta Z H Q
theorem Sg.as(S:Sg E ss Z F H)(h:a∈De ss Z):F a=none/\H a≠none/\(∀vs,H a≠some (.tup vs))/\DI ss Z a:=by
 obtain⟨i,s,b,c,ho⟩:=fL h;refine⟨S.ZGK b ho,S.Ez b ho,?_,S.Pw b ho c⟩;have k:=S.ok i s b;cases s with
 |own xs=>obtain⟨l,vs,e,_,_,d,_⟩:=k;rw[show Z[i]?=some (some (.ref a))from ho]at e;cases e;rw[d];simp
 |ow lt t=>obtain⟨v,_,r,_⟩:=k;exact r.dv a ho
 |AS=>exact absurd rfl c
 |_=>cases ho
theorem Sg.Tc(S:Sg E ss Z F H):AD F (CN F H (De ss Z))/\AD (CN F H (De ss Z)) H:=by
 refine⟨λa o e=>?_,λa o e=>?_⟩
 .unfold CN;rw[qg (λq=>by rw[(S.as q).1]at e;cases e)];exact e
 .unfold CN at e;split at e
  .exact e
  .exact S.fh a o e
theorem Sg.lend(S:Sg E ss Z F H)(r:AY (CN F H (De ss Z)) vs ps):Sg (E3 [] (CN F H (De ss Z)) H) (ps.map .is) (vs.map some) (CN F H (De ss Z)) H:=by
 have nn:∀{p:Prop}(a:Addr),a∈([]:List Addr)->p:=λa h=>absurd h BA;refine⟨⟨S.Tc.2,AD.refl _,λ_ _ _ e=>e,λ_ _ e=>.inl e,λa h=>nn a h,λa h=>nn a h,λa h=>nn a h,λa h=>nn a h,λa h=>nn a h,λa h=>nn a h⟩,by rw[AK,AK,r.length],λi s hi=>?_,λi j s u l FZ hi f ms d=>?_⟩
 .rw[Bb]at hi;cases e:ps[i]? with
  |none=>rw[e]at hi;cases hi
  |some p=>
   rw[e]at hi;obtain⟨v,c,b⟩:=r.get e;have es:Slot.is p=s:=Bs hi;subst es;rw[Bb,c];exact⟨v,rfl,b⟩
 .rw[Bb]at hi;cases e:ps[i]? with
  |none=>rw[e]at hi;cases hi
  |some p=>rw[e]at hi;have es:Slot.is p=s:=Bs hi;subst es;cases ms
theorem Sg.ZEk(S:Sg E ss Z F H)(f:Fin (E3 [] (CN F H (De ss Z)) H) F' H'):Mv E ss Z F H (Hn F' (De ss Z)) H'/\∀a∈De ss Z,∀vs,F' a≠some (.tup vs):=by
 have kp:∀a o,H a=some o->H' a=some o:=λa o e=>f.keep a o ⟨BA,BA⟩ e;refine⟨S.step (λa o e=>?_) (λa o e=>?_) (λa o _ e=>kp a o e) (λa o e=>?_) (λi l hi e=>CG.keep (S.FW hi e) λo e=>kp l o e),λa c vs e=>?_⟩
 .unfold Hn;rw[qg (λq=>by rw[(S.as q).1]at e;cases e)];exact f.f0 a o (S.Tc.1 a o e)
 .unfold Hn at e;split at e
  .cases e
  .exact f.fh a o e
 .unfold Hn at e;split at e
  .cases e
  .rename_i q;rcases f.fresh a o e with z|z
   .left
    have b:CN F H (De ss Z) a=some o:=z;unfold CN at b;rw[qg q]at b;exact b
   .exact .inr z
 .obtain⟨o,ho⟩:=Option.ne_none_iff_exists'.mp (S.as c).2.1;have z:F' a=some o:=f.f0 a o (by show CN F H (De ss Z) a=some o;unfold CN;rw[tX c];exact ho);rw[z]at e;cases e;exact(S.as c).2.2.1 vs ho
section
variable[Xw]
variable{K:ZJa}{k:PV->Prop}{lt:Bool}{pre:Pre}
theorem lY{k:List PV->Prop}(h:k []):Wb ss BQ k:=⟨λE Z F H Q S q=>q _ _ F H (.refl S) .nil h⟩
theorem iw{k:List PV->Prop}(h:Wp ss te λp=>Wb ss tr λps=>k (p::ps)):Wb ss (An te tr) k:=⟨λE Z F H Q S q=>
 h.go E Z F H _ S λv p F1 H1 b d h2=>h2.go E Z F1 H1 _ b.st λvs ps F2 H2 a c kk=>q _ _ F2 H2 (b.trans a) (.cons ((d.mono a.ff).mono a.st.Tc.1) c) kk⟩
end
theorem Ru:∀{xs:List PV},(∀x∈xs,Ci x x=true)->D2 xs xs=true
 | [],_=>by rw[D2]
 |x::r,h=>by rw[U2,h x (by simp),Ru (xs:=r) λy a=>h y (by simp[a])];rfl
theorem vC{K:ZJa}:∀(d:Nat){p:PV},dat K d p->Ci p p=true:=by
 intro d
 induction d with
 |zero=>intro p h;cases p <;> first|exact h.elim|rfl|exact uz _
 |succ d b=>
  intro p h;cases p with
  |lst xs=>show D2 xs xs=true;exact Ru λx hx=>b (h x hx)
  |tup xs=>show D2 xs xs=true;exact Ru λx hx=>b (h x hx)
  |con a xs=>show D2 xs xs=true;exact Ru λx hx=>b (h.1 x hx)
  |_=>first|exact h.elim|rfl|exact uz _
theorem Rg:∀(xs:List PV),OV.D8 (xs.map .fz)=xs
 | []=>by rw[VH,OV.D8]
 |x::r=>by rw[CA,OV.D8,OV.pv,Rg r]
theorem v5(a:Addr)(xs:List PV):(OV.nd .lst a (xs.map .fz)).pv=.lst xs:=by rw[OV.pv,Rg]
end Fz
namespace L2
variable{M:Model}{A:Around}{E Q xe:Value->Shared->Prop}{s s':Shared}{ZB h':Heap}{env:Env}{l outer:List Env}{C S a b ea f fI:Addr}{dd dx fr tb:Option Addr}{o:HO}{vs:Array Value}{cd head u v:Value}{oI oe ox:Obj}{w:World}{mN mg:ZJc}{N ps sn:List Str}{n name par qual x:Str}{scope:Scope}{H H':Hp}{e e0:Expr}{X:Cx}{α:Type}{Hg r:Option Value}{E':St->XK}{Be JC np p pos:Pos}{es:List Expr}{t:TA}{ab hdct:Bool}{prog:Program}{Sy us:List Value}{od:Option Obj}{tk:Tok}{ZA pn:ZJb}{Z:St}{j kk t':Nat}{ta te:TE}{fd:FuncData}{b0:Stmt}{Iq:(St->XK)->TS}{th:TS}{sp:Sp}
structure GI (h:Heap) (ea:Addr) (C:Value) (dx tb:Option Addr):Prop where
 obj:∃oe vs,h.get? ea=some oe/\oe.cls=C/\oe.dict=dx/\oe.data=.fields vs/\1<vs.size/\vs[1]?=some (tb.elim Value.none Value.ref)
 ent:∀T,tb=some T->T≠ea/\∃oT ts,h.get? T=some oT/\oT.data=.fields ts/\3<ts.size
section
variable{L:Addr}{C:Value}{Q:Unit->Shared->Prop}
theorem sS(o:Obj)(g:Array Value->Array Value):(o.mapFields g).dict=o.dict:=by
 obtain⟨c,d,a,sl⟩:=o;cases a <;> rfl
structure Kp (l:List Env) (ea:Addr) (tb:Option Addr) (h h':Heap):Prop where
 keep:∀b o,h.get? b=some o->b∉CU l->b≠ea->tb≠some b->h'.get? b=some o
 slot:∀b o,h.get? b=some o->b∈CU l->∃sl,h'.get? b=some { o with slots:=sl }
 size:h.objs.size<=h'.objs.size
theorem gA(d:s.heap.FunFrames ZB (env::outer)){o:Obj}(ho:s.heap.get? b=some o)(hd:o.data=.fields vs):b∉CU (env::outer):=λc=>by
 obtain⟨_,u,a,hn⟩:=d.mem c;rw[ho]at a;cases a;exact hn vs hd
theorem iG{more:Bool}(LJ:A.frames=some (env::outer))(i:s.heap.FunFrames ZB (env::outer))(r:env.frame=some L)
  (j:s.heap.get? ea=some oe) (t:oe.cls=C) (Lf:oe.dict=dx) (hd:oe.data=.fields vs) (c:1<vs.size)
  (h:∀h' T,Kp (env::outer) ea none s.heap h'->s.heap.objs.size<=T->GI h' ea C dx (some T)->Q () { s with heap:=h' }) :
  wpAny M A (do
   let fr <- frameOf env
   let pl <- entryPlaceOf L more
   let b <- EntryCells.newEntry head fr Value.none (rawInt L) Value.none pl
   setField (.ref ea) 1 b) Q E s:=by
 have f:=gA i j hd;refine pK (wpAny_frameOf_fun LJ i r λg a=>?_);refine pK (wpAny_entryPlaceOf λpl q=>?_);unfold EntryCells.newEntry newFields;refine pK (xI ?_ (q.sizeOk5 _ _ _ _ _));generalize u:([head,Value.ref L,Value.none,rawInt L,Value.none]++(if pl.isEmpty then List.replicate 6 Value.none else pl)).toArray=ts
 have p:3<ts.size:=by
  rw[<- u];simp only[CL,CP,Ck,cZ];omega
 have l:g.get? ea=some oe:=(a.2.1 ea f).trans j;have v:(g.push { cls:=.type "traceback", dict:=none,data:=.fields ts }).get? g.objs.size=some { cls:=.type "traceback", dict:=none,data:=.fields ts }:=CK g rfl;have k:=Bf (h:=g) { cls:=.type "traceback", dict:=none,data:=.fields ts } l;have n:g.objs.size≠ea:=Ol (BE l);have m:=pB hd (·.setIfInBounds 1 (Value.ref g.objs.size))
 have x:=JQ (Obj.mapFields (·.setIfInBounds 1 (Value.ref g.objs.size))) k (Obj.isFreed_of_fields m)
 have y:=(G3 (g.push { cls:=.type "traceback", dict:=none,data:=.fields ts }) (Obj.mapFields (·.setIfInBounds 1 (Value.ref g.objs.size))) (BU n)).trans v
 refine ZBG k hd c (h _ g.objs.size ⟨λb o d NV EO _=>?_,λb o d Jr=>?_,?_⟩ ?_ ⟨⟨_,_,x,?_,?_,m,?_,?_⟩,λT w=>?_⟩)
 .have e:g.get? b=some o:=(a.2.1 b NV).trans d;rw[G3 _ _ (BU EO)];exact Bf _ e
 .obtain⟨sl,e⟩:=a.2.2 b o d;refine⟨sl,?_⟩;rw[G3 _ _ (by rintro rfl;exact f Jr)];exact Bf _ e
 .rw[VD,HJ,a.1];exact G6 _
 .rw[a.1];exact B4 _
 .rw[Obj.cls_mapFields];exact t
 .rw[sS];exact Lf
 .simpa using c
 .simp[c]
 .cases w;exact⟨n,_,_,y,rfl,p⟩
theorem Kp.refl{l:List Env}{ea:Addr}{tb:Option Addr}{h:Heap}:Kp l ea tb h h:=⟨λ_ _ a _ _ _=>a,λ_ o a _=>⟨o.slots,a⟩,B4 _⟩
theorem zM(LJ:A.frames=some (env::outer))(e:s.heap.FunFrames ZB (env::outer))(f:env.frame=some L)(hx:GI s.heap ea C dx tb)
  (h:∀h' T,Kp (env::outer) ea tb s.heap h'->s.heap.objs.size<=T∨tb=some T->GI h' ea C dx (some T)->Q () { s with heap:=h' }) :
  wpAny M A (noteFrame (.ref ea) env) Q E s:=by
 obtain⟨oe,vs,g,m,hd,HR,j,h1⟩:=hx.obj;unfold noteFrame;simp only[f];refine pK (ZAV g HR h1 ?_);cases tb with
 |none=>
  rw[qg (by decide)];exact iG LJ e f g m hd HR j λh' T k q=>h h' T k (.inl q)
 |some T=>
  obtain⟨Lk,p,ts,c,IT,i⟩:=hx.ent T rfl;show wpAny M A (do if(Value.ref T != Value.none)=true then _ else _) _ _ _
  rw[tX (show(Value.ref T != Value.none)=true from by simp)];refine pK (ZAV c IT (Array.getElem?_eq_getElem i) ?_)
  by_cases l:(ts[3] == rawInt L)=true
  .rw[tX l];exact qm (h s.heap T Kp.refl (.inr rfl) hx)
  rw[qg l];refine pK (ZBG c IT i ?_);have d:∀b,b≠T->(s.heap.update T (Obj.mapFields (·.setIfInBounds 3 Value.none))).get? b=s.heap.get? b:=λb a=>G3 _ _ (BU a)
  have n:=gA e c IT;refine iG (s:={ s with heap:=s.heap.update T (Obj.mapFields (·.setIfInBounds 3 Value.none)) }) LJ (e.of_keeps λb o a hn=>⟨o,(d b (by rintro rfl;rw[c]at a;cases a;exact hn ts IT)).trans a,rfl⟩) f ((d ea (BU Lk)).trans g) m hd HR j λh' T' k hn x=>?_
  refine h h' T' ⟨λb o a NV EO OE=>k.keep b o ((d b (by rintro rfl;exact OE rfl)).trans a) NV EO (by simp),λb o a Jr=>k.slot b o ((d b (by rintro rfl;exact n Jr)).trans a) Jr,?_⟩ (.inl ?_) x
  .have z:=k.size;rw[show(s.heap.update T (Obj.mapFields (·.setIfInBounds 3 Value.none))).objs.size=s.heap.objs.size from VD ..]at z
   exact z
  .have z:=hn;rw[show(s.heap.update T (Obj.mapFields (·.setIfInBounds 3 Value.none))).objs.size=s.heap.objs.size from VD ..]at z
   exact z
theorem ZR(x:GI s.heap ea C dx tb)(j:∀b∈CU l,∃o,s.heap.get? b=some o/\∀vs,o.data≠.fields vs)
  (h:∀h',Kp l ea tb s.heap h'->GI h' ea C dx tb->Q () { s with heap:=h' }):wpAny M A (setFlight (.ref ea) fr) Q E s:=by
 obtain⟨oe,vs,g,k,hd,HR,i,h1⟩:=x.obj;unfold setFlight;refine pK (ZAV g HR h1 ?_);cases tb with
 |none=>
  rw[qg (by decide)];exact qm (h s.heap Kp.refl x)
 |some T=>
  obtain⟨Lk,p,ts,c,IT,e⟩:=x.ent T rfl;rw[tX (show((some T).elim Value.none Value.ref != Value.none)=true from by simp)];generalize (fr.elim Value.none λf=>rawInt f)=mk;have d:∀b,b≠T->(s.heap.update T (Obj.mapFields (·.setIfInBounds 3 mk))).get? b=s.heap.get? b:=λb a=>G3 _ _ (BU a)
  have n:=JQ (Obj.mapFields (·.setIfInBounds 3 mk)) c (Obj.isFreed_of_fields (pB IT _))
  refine ZBG c IT e (h _ ⟨λb o a _ _ OE=>(d b (by rintro rfl;exact OE rfl)).trans a,λb o a Jr=>⟨o.slots,(d b ?_).trans a⟩,by rw[VD];exact B4 _⟩ ⟨⟨oe,vs,(d ea (BU Lk)).trans g,k,hd,HR,i,h1⟩,λT' m=>?_⟩)
  .rintro rfl;obtain⟨o',EW,hn⟩:=j b Jr;rw[c]at EW;cases EW;exact hn ts IT
  .cases m;exact⟨Lk,_,_,n,pB IT _,by simpa using e⟩
theorem Kp.frames{h:Heap}(k:Kp l ea tb h h')(c:h.FunFrames ZB l):∀b∈CU l,∃o,h'.get? b=some o/\∀vs,o.data≠.fields vs:=λb a=>by
 obtain⟨_,o,ho,hn⟩:=c.mem a;obtain⟨sl,e⟩:=k.slot b o ho a;exact⟨_,e,hn⟩
theorem Kp.trans{T:Addr}{h h1 h2:Heap}(k:Kp l ea tb h h1)(c:h.objs.size<=T∨tb=some T)(k2:Kp l ea (some T) h1 h2):Kp l ea tb h h2:=
 ⟨λb o a NV EO OE=>k2.keep b o (k.keep b o a NV EO OE) NV EO (λz=>c.elim (λy=>absurd (BE a) (Nat.not_lt.mpr (Bs z▸y))) λy=>OE (y.trans z)),
  λb o a Jr=>by
  obtain⟨sl,e⟩:=k.slot b o a Jr;obtain⟨Hu,d⟩:=k2.slot b _ e Jr;exact⟨Hu,d⟩,Bi k.size k2.size⟩
theorem Vn(LJ:A.frames=some (env::outer))(a:s.heap.FunFrames ZB (env::outer))(d:env.frame=some L)(hx:GI s.heap ea C dx tb)
  (h:∀h' T,Kp (env::outer) ea tb s.heap h'->s.heap.objs.size<=T∨tb=some T->GI h' ea C dx (some T)->Q () { s with heap:=h' }) :
  wpAny M A (noteFrame (.ref ea) env) (λ_ s'=>wpAny M A (setFlight (.ref ea) none) Q E s') E s:=
 zM LJ a d hx λh1 T k b x=>ZR x (k.frames a) λh2 k2 c=>h h2 T (k.trans b k2) b c
theorem sT(LJ:A.frames=some (env::outer))(a:s.heap.FunFrames ZB (env::outer))(b:env.frame=some L)(hx:GI s.heap ea C dx tb)
  (h:∀h' T,Kp (env::outer) ea tb s.heap h'->s.heap.objs.size<=T∨tb=some T->GI h' ea C dx (some T)->Q () { s with heap:=h' }):wpAny M A (leaving env (.ref ea)) Q E s:=by
 unfold leaving;exact pK (Vn LJ a b hx h)
end
def GH(P:Program)(w:World):Gs:=λouter H s E e s'=>∃(ea C:Addr)(dx tb:Option Addr)(H':Hp),e=.ref ea/\s'.os=s.os/\AllBare s'.gens/\Un (CU outer) [] H H' s.heap s'.heap/\By P w H' s'.heap/\
 GI s'.heap ea (.ref C) dx tb/\(H' ea=none/\s.heap.get? ea=none)/\(∀T,tb=some T->H' T=none/\s.heap.get? T=none)/\E (.ref C) dx H'
def WV(X:Cx)(E:XK)(e:Value)(s':Shared):Prop:=∃(ZA:ZJb)(Z:St)(H':Hp)(ea C:Addr)(dx tb:Option Addr),e=.ref ea/\Inv X ZA Z H' s'/\
 GI s'.heap ea (.ref C) dx tb/\(H' ea=none/\X.s₀.heap.get? ea=none)/\(∀T,tb=some T->H' T=none/\X.s₀.heap.get? T=none)/\E (.ref C) dx H'
section
variable{P:Program}{K:ZJa}{E:XK}
theorem By.gE{h:Heap}(ok:By P w H' h)(k:∀b u,H' b≠none->h.get? b=some u->h'.get? b=some u):By P w H' h':=λa o e=>
 (ok a o e).Hs (λb u c d=>k b u (by rcases c with rfl|c;(rw[e];simp);(rw[c];simp)) d) (λ_ z=>z) λ_ _ z=>z
theorem WV.leave{e:Value}(r:WV (DG (GH P w) P w K mg ZB N qual scope f cd A outer s H E) E e s'):(DG (GH P w) P w K mg ZB N qual scope f cd A outer s H E).xe e s':=by
 obtain⟨ZA,Z,H',ea,C,dx,tb,rfl,I,x,⟨k,g⟩,d,n⟩:=r;have fr:=I.ok.frames
 change s.heap.get? ea=none at g
 have d:∀T,tb=some T->H' T=none/\s.heap.get? T=none:=d;refine sT (outer:=outer) (L:=s.heap.objs.size) fr I.stack rfl x λh' T kp h m=>?_;have j:∀b o,s.heap.get? b=some o->b≠s.heap.objs.size:=λb o a=>Br (BE a);have mem:∀b,b∈CU (envOfC qual scope s.heap.objs.size f cd::outer)->b=s.heap.objs.size∨b∈CU outer:=λb a=>by
  rcases List.mem_cons.mp (I.Oo b a)with z|z
  .exact .inl z
  .exact .inr z
 have i:∀b o,s'.heap.get? b=some o->H' b≠none->h'.get? b=some o:=λb o a hn=>kp.keep b o a (λz=>hn (I.U6 b z)) (λz=>hn (z▸k)) λz=>hn (d b z).1;refine⟨ea,C,dx,some T,H',rfl,I.os,I.bare,⟨λb o a hn c _=>?_,λb o a hn c _=>?_,λb o a hn hx=>I.base.free b o a hn hx,λb o a hx=>?_,I.base.HF,I.base.GX,I.base.HB⟩,I.AH.gE λb u hn a=>i b u a hn,m,⟨k,g⟩,λT' p=>?_,n⟩
 .refine kp.keep b o (I.base.keep b o a hn c (by simp[DG])) (λz=>(mem b z).elim (j b o a) c) (by rintro rfl;rw[g]at a;cases a) λz=>?_;rw[(d b z).2]at a;cases a
 .obtain⟨sl,h1⟩:=I.base.slot b o a hn c (by simp[DG]);have q:b∈CU (envOfC qual scope s.heap.objs.size f cd::outer):=by
   show b∈List.filterMap _ (_::_);rw[VF];exact Dd _ c
  obtain⟨Hu,h2⟩:=kp.slot b _ h1 q;exact⟨Hu,h2⟩
 .obtain⟨l,h1⟩:=I.base.there b o a (by simp[DG])
  by_cases c:b∈CU (envOfC qual scope s.heap.objs.size f cd::outer)
  .obtain⟨Hu,h2⟩:=kp.slot b _ h1 c;exact⟨_,h2⟩
  .exact⟨l,kp.keep b l h1 c (by rintro rfl;rw[g]at a;cases a) λz=>by rw[(d b z).2]at a;cases a⟩
 .cases p;exact h.elim (λh=>⟨I.AH.fresh h,Oc (Bi I.sz h)⟩) (d T)
end
noncomputable abbrev dB:List Value:=[.type "ValueError",.type "Exception",.type "BaseException",.type "object"]
structure jD (h:Heap) (C:Addr) (Hg:Option Value):Prop where
 obj:∃bm N nm q bs hdct sn sub ab col dd k0 k1 k2 k3 k5 mN,h.get? C=some (excClassObj nm q C N bs bm hdct sn sub ab col dd k0 k1 k2 k3 k5 "ValueError.__new__")/\h.Ns N mN/\mN "__init__"=Hg/\OwnTail h dB bm
noncomputable def lD:Data->Option ClassData
 | .cls cd=>some cd
 |_=>none
theorem vG{d:Data}{cd:ClassData}(h:lD d=some cd):d=.cls cd:=by
 cases d <;> first|(cases h;rfl)|cases h
theorem Ea{l:List α}{n:Nat}(h:l.length=n+1):∃a r,l=a::r/\r.length=n:=by
 cases l with
 |nil=>cases h
 |cons a r=>exact⟨a,r,rfl,Om h⟩
theorem qB{l:List α}(h:l.length=6):∃a b c d e f,l=[a,b,c,d,e,f]:=by
 obtain⟨a,l,rfl,h1⟩:=Ea h;obtain⟨b,l,rfl,h2⟩:=Ea h1;obtain⟨c,l,rfl,k⟩:=Ea h2;obtain⟨d,l,rfl,j⟩:=Ea k;obtain⟨e,l,rfl,i⟩:=Ea j;obtain⟨f,l,rfl,g⟩:=Ea i;exact⟨a,b,c,d,e,f,by rw[List.eq_nil_of_length_eq_zero g]⟩
noncomputable def jM(K:ZJa)(C:Addr)(Hg:Option Value)(cd:ClassData)(l:List (Option Value)):Bool:=
 cd.mro.head? == some (.ref C) && (l.length == 6 && (l[4]? == some (some (.builtin "ValueError.__new__")) && (!cd.hasDel && (PySem.W.tailIn K dB cd.mro.tail && (PySem.W.nsOkIn K cd.ns && PySem.W.nsIn K cd.ns "__init__" == some Hg)))))
def GK(K:ZJa)(C:Addr)(Hg:Option Value):Bool:=(K.lookup C).any λo=>o.cls == .type "type" && (lD o.data).any λcd=>jM K C Hg cd o.slots.toList
theorem Qb{K:ZJa}{h:Heap}(X:K.In h)(q:GK K C Hg=true):jD h C Hg:=by
 obtain⟨⟨c,dd,s,⟨l⟩⟩,ho,q⟩:=VP q;rw[Dm]at q;obtain⟨cd,Ef,a⟩:=VP q.2;obtain⟨nm,bs,b,ns,qn,hd,sn,sub,ab,col,t⟩:=cd;unfold jM at a;simp only[Dm,ZBY,Bool.not_eq_true']at a;obtain⟨i,n,r,j,k,AH,Gz⟩:=a;cases(eq_of_beq q.1:c=.type "type");cases(vG Ef:s=_);subst j;obtain⟨k0,k1,k2,k3,u,k5,rfl⟩:=qB n;cases r;cases b with
 |nil=>cases i
 |cons m bm=>
  cases i;have G:h.Ns ns (h.nsMap ns):=.of_isNs (PySem.W.isNs_of_in X AH);refine⟨bm,ns,nm,qn,bs,hd,sn,sub,ab,col,dd,k0,k1,k2,k3,k5,_,X _ _ ho,G,?_,PySem.W.tail_of_in X k⟩;cases Hg with
  |none=>exact PySem.W.ns_none_of X G Gz
  |some v=>
   obtain⟨o,es,w,f,g,_,p⟩:=G;unfold PySem.W.nsIn at Gz;split at Gz
   .rename_i c d N1 n' sl a;have z:=X _ _ a;rw[f]at z;cases z;cases g;split at Gz
    .rename_i e he;rw[<- p];unfold nsFind findBy;rw[<- ZI2,he]
     simpa using Gz
    .split at Gz <;> cases Gz
   .cases Gz
theorem CD.there{P:Program}{h:Heap}(x:CD P w H h a o):∃u,h.get? a=some u:=by
 induction o with
 |lst xs=>obtain⟨_,_,_,_,e⟩:=x;exact⟨_,e⟩
 |tup xs=>obtain⟨_,_,_,⟨_,e,_⟩,_⟩:=x;exact⟨_,e⟩
 |dK A6=>obtain⟨_,_,_,_,_,_,_,e,_⟩:=x;exact⟨_,e⟩
 |dT A6=>obtain⟨_,_,_,_,_,_,_,e,_⟩:=x;exact⟨_,e⟩
 |set S n=>obtain⟨_,_,_,_,e,_⟩:=x;exact⟨_,e⟩
 |ins C dx fs=>obtain⟨_,_,_,e,_⟩:=x;exact⟨_,e⟩
 |own y=>exact x
 |xd fs=>obtain⟨_,⟨_,_,_,e,_⟩,_⟩:=x;exact⟨_,e⟩
 |met f y=>exact⟨_,x⟩
 |Ta lo hi=>obtain⟨_,_,_,e⟩:=x;exact⟨_,e⟩
 |Fq ob u _=>exact⟨_,x.1⟩
 |Ku ps=>exact⟨_,x⟩
 |ext φ=>exact x.2.1
theorem By.there{P:Program}{h:Heap}(x:By P w H h)(e:H a=some o):∃u,h.get? a=some u:=(x a o e).there
section
variable{E:XK}
def aE(C:Addr)(E:St->XK)(t:TA):TS:=λ_ Z H=>t Z H λvs H1=>vs.length<=1000/\E Z (.ref C) none H1
def Goes(X:Cx)(E:St->XK):Prop:=∀(ZA:ZJb)(Z:St)(H':Hp)(s':Shared)(ea C:Addr)(dx tb:Option Addr),Inv X ZA Z H' s'->GI s'.heap ea (.ref C) dx tb->(H' ea=none/\X.s₀.heap.get? ea=none)->(∀T,tb=some T->H' T=none/\X.s₀.heap.get? T=none)->
 (∀p∈X.pn++ZA,p.1≠ea/\tb≠some p.1)->E Z (.ref C) dx H'->X.xe (.ref ea) s'
end
noncomputable abbrev Jx(C t:Addr)(dx:Option Addr):Obj:={ cls:=.ref C,dict:=dx,data:=.fields #[.ref t,.none,.none,.none,.bool false,.none] }
section
variable{nm qn:Str}{N:Addr}{bs bm:List Value}{sub:List Value}{col:Option Bool}{k0 k1 k2 k3 k5:Option Value}{newId:String}
theorem ye{y:Sem Value}{Q:Flow->Shared->Prop}(e:bm.contains (.type "BaseException")=true)(hh:A.handled=none)
  (c:wpAny M A y (λv z=>∃ea t dx,v=.ref ea/\z.heap.get? C=some (excClassObj nm qn C N bs bm hdct sn sub ab col dd k0 k1 k2 k3 k5 newId)/\z.heap.get? ea=some (Jx C t dx)/\E (.ref ea) z) E s) :
  wpAny M A (raiseStmt env (some y) none) Q E s:=by
 have h:(Value.ref C::bm).contains (.type "BaseException")=true:=by
  rw[ZIC,e,Bool.or_true]
 unfold raiseStmt;refine pK (ud c (λv z b=>?_) λ_ _ q=>q);obtain⟨ea,t,dx,rfl,a,oe,f⟩:=b;obtain⟨i,g,d,tk,os⟩:=z
 repeat (first
  |with_reducible refine yy oe ?_
  |with_reducible refine yy a ?_
  | (with_reducible refine wpAny_isSubtype_exc a ?_;rw[h])
  |wp_step)
 exact wpAny_raiseNew_none hh f
variable{h:Heap}{g:Array GenState}{d:Drawn}{t:Nat}{os:OsState}{B jL:String}
theorem sC(F:ExcBaseFacts B newId jL Sy)(T:OwnTail h Sy bm){Q:PySem.Fin->Shared->Prop}
  (a:h.get? C=some (excClassObj nm qn C N bs bm hdct sn sub ab col dd k0 k1 k2 k3 k5 newId)) (hn:h.Ns N mN) (hi:mN "__init__"=some (.ref fI)) (W5:h.get? fI=some oI) (Vq:oI.cls=.type "function") (BH:us.length<=sizeLine)
  (m:∀h' ea,h.objs.size<=ea->Heap.MadeExcOf h h' ea (.ref C) us->wpAny (model prog w) A (call (.ref fI) (.ref ea::us)) (λr s'=>r=.none/\Q (.done (.ret (.ref ea))) s') E ⟨h',g,d,t,os⟩) :
  wpAny (model prog w) A (Builtin.«type.__call__» ⟨.ref C::us,[]⟩) Q E ⟨h,g,d,t,os⟩:=by
 repeat (first
  |with_reducible refine yy a ?_
  |with_reducible refine wpAny_madeBy_exc a ?_
  |wp_step)
 refine codeAny_call_builtin_code (oZ _ F.quiet) (wpAny_check_new_subT F T a ?_);refine codeAny_exc_new_subT F T a ?_ BH;show wpAny _ _ _ _ _ _;generalize k:({ cls:=.type "tuple", data:=.seq us.toArray }:Obj)=o1;generalize f:({ cls:=.ref C,data:=.fields #[.ref h.objs.size,.none,.none,.none,.bool false,.none] }:Obj)=o2;have up:∀{b:Addr}{o:Obj},h.get? b=some o->((h.push o1).push o2).get? b=some o:=λe=>Bf _ (Bf _ e);have j:((h.push o1).push o2).get? (h.objs.size+1)=some o2:=by
  rw[<- HJ h o1];exact CK _ (by rw[<- f];rfl)
 have g1:((h.push o1).push o2).get? h.objs.size=some o1:=Bf _ (CK h (by rw[<- k];rfl));have n2:((h.push o1).push o2).Ns N mN:=hn.keeps λb o e=>up e;have i:=up a;have c:=up W5;have u:=T.keeps (h':=(h.push o1).push o2) λb o e=>up e;have s:(Value.ref C::bm).contains (.ref C)=true:=by simp
 have v:o2.cls=.ref C:=by rw[<- f]
 unfold isInstance;subst f
 repeat (first
  |with_reducible refine yy j ?_
  | (with_reducible refine wpAny_isSubtype_exc i ?_;rw[s])
  |wp_step)
 show wpAny _ _ (typeLookup (.ref C) _) _ _ _;refine wpAny_typeLookup_tail i n2 u F.mroIs F.init.lookup ?_;rw[hi];refine vH (pK ?_);unfold bindSpecial;refine pK (xT (T:="function") ⟨_,c,Vq⟩ ?_);rw[tX (by decide)];subst k;refine qm (pK (ud (m _ (h.objs.size+1) (G6 _) ⟨λb o n=>up n,Oc (G6 _),h.objs.size,j,Oc (B4 _),g1⟩) (λr s' l=>?_) λ_ _ q=>q));obtain⟨rfl,p⟩:=l
 wp_walk
 exact p
theorem ZA0(F:ExcBaseFacts B newId jL Sy)(T:OwnTail h Sy bm)
  (a:h.get? C=some (excClassObj nm qn C N bs bm hdct sn sub ab col dd k0 k1 k2 k3 k5 newId)) (hn:h.Ns N mN) (hi:mN "__init__"=some (.ref fI)) (W5:h.get? fI=some oI) (Vq:oI.cls=.type "function") (BH:us.length<=sizeLine)
  (b:∀h' ea,h.objs.size<=ea->Heap.MadeExcOf h h' ea (.ref C) us->wpAny (model prog w) (A.under (.builtin "type.__call__" ⟨.ref C::us,[]⟩)) (call (.ref fI) (.ref ea::us)) (λr s'=>r=.none/\Q (.ref ea) s') E ⟨h',g,d,t,os⟩) :
  wpAny (model prog w) A (call (.ref C) us) Q E ⟨h,g,d,t,os⟩:=by
 have e:=tc_lookup;have c:=tc_bind (.ref C);have ty:(⟨h,g,d,t,os⟩:Shared).TypeIs (.ref C) "type" := ⟨_,a,rfl⟩;refine zL (codeAny_of_tree ?_);show wpAny _ _ (callAny (.ref C) _) _ _ _
 repeat (any_goals (first
  |assumption
  |with_reducible refine yy a ?_
  |wp_step))
 refine⟨rfl,?_⟩;exact codeAny_call_builtin_at (oZ _ (by decide+kernel)) entry_typeCall (wpAny_check_type_call_sub a (sC F T a hn hi W5 Vq BH b))
end
section
variable{K:ZJa}{x t:Addr}
noncomputable def Z9:Value->Bool
 | .ref _=>true
 |_=>false
theorem ZDs{x:Value}(h:Z9 x=true):∃c,x=.ref c:=by
 cases x <;> first|exact⟨_,rfl⟩|cases h
def Q7(l:List Value):Bool:=l.dropWhile Z9 == [.type "ValueError",.type "Exception",.type "BaseException",.type "object"]
theorem ZE3(self:Value):PySem.refuseLoop self "__setattr__" [.type "ValueError",.type "Exception",.type "BaseException",.type "object"]=pure ():=by
 first|rfl|kernel_rfl
theorem k9{l:List Value}(h:Q7 l=true):l=[.type "ValueError",.type "Exception",.type "BaseException",.type "object"]∨∃c r,l=.ref c::r/\Q7 r=true:=by
 have e:=eq_of_beq h;cases l with
 |nil=>cases e
 |cons x r=>
  cases q:Z9 x with
  |true=>obtain⟨c,rfl⟩:=ZDs q;exact .inr ⟨c,r,rfl,h⟩
  |false=>rw[List.dropWhile_cons,q,qg Dc]at e;exact .inl e
theorem ZAE(self:Value):∀{l:List Value},Q7 l=true->PySem.refuseLoop self "__setattr__" l=pure ():=by
 intro l
 induction l with
 |nil=>intro h;cases h
 |cons x r a=>
  intro h;rcases k9 h with e|⟨c,r',e,h'⟩
  .rw[e];exact ZE3 self
  .cases e;rw[PySem.refuseLoop_ref];exact a h'
theorem zf:∀{l:List Value},Q7 l=true->l.contains (.type "object")=true:=by
 intro l
 induction l with
 |nil=>intro h;cases h
 |cons x r a=>
  intro h;rcases k9 h with e|⟨c,r',e,h'⟩
  .rw[e];decide
  .cases e;rw[ZIC,a h',Bool.or_true]
def Jd(K:ZJa)(C:Addr):Bool:=(PySem.W.clsIn K C).any λcd=>Q7 cd.mro
section
open PySem.Builtin PySem.Builtin.ObjectAttr
theorem ZB9{R:Result->Shared->Prop}(X:K.In s.heap)(I:PySem.W.InstAt s.heap x ox C od)(m:Jd K C=true)(l:PySem.W.takerIn K C name=some r)
  (h:∀b,wpAny (model prog w) A.in1 (match r with|some a=>setByDescriptor a (.ref x) v|none=>storeInOwnDict (.ref x) (.ref C) (.str name tk) name v b)
   (λg s'=>match g with | .done f=>R (.ok f) s' | .again k=>k.quiet=true/\codeAny (model prog w) A k R s') (λe s'=>R (.error e) s') s) :
  codeAny (model prog w) A (.call (.builtin "object.__setattr__") ⟨[.ref x,.str name tk,v],[]⟩) R s:=by
 have d:=PySem.F.store_object;obtain⟨cd,j,ho⟩:=VP m;have ne:cd.mro.isEmpty=false:=by cases q:cd.mro with|nil=>rw[q]at ho;cases ho|cons _ _=>rfl
 have sub:PySem.W.Looks (model prog w) s.heap (isInstance (.ref x) (.type "object")) true:=I.type.andThen (ZIn X (by unfold PySem.W.mroIn;rw[j,pC,qg (by rw[ne];decide),zf ho]));refine ZAY d.slot.plain d.entry (@PySem.W.check_slot (model prog w) _ _ s "object.__setattr__" "object" "__setattr__" (.ref x) [.str name tk,v] [] _ d.kind d.split sub (d.args (.ref x) (.str name tk) v) ?_);obtain⟨c,p,i⟩:=Option.bind_eq_some_iff.mp l;have n:PySem.W.Looks (model prog w) s.heap (mroOf (.ref C)) cd.mro:=(pI X j).andThen .now;have t:PySem.W.Looks (model prog w) s.heap (storeTaker? c) r:=by
  cases c with
  |none=>cases i;exact .now
  |some a=>
   obtain⟨b,o,rfl⟩:=Option.map_eq_some_iff.mp i;refine(PySem.W.looks_takesIn X o).andThen ?_;cases b <;> exact .now
 rw[PySem.W.osa_eq,PySem.refuse_eq];refine pK (pK (I.type.here (pK (n.here ?_))));rw[ZAE _ ho];refine qm (pK (I.type.here (pK ((d7 X p).here (pK (t.here ?_))))));exact h _
end
theorem yf(h:Heap):(h.push { cls:=.type "dict", data:=.dict #[] }).Ns1 h.objs.size (λ_=>none):=by
 refine⟨_,#[],_,CK h rfl,rfl,?_⟩;refine⟨λe a=>?_,?_,λ_=>rfl⟩
 .simp at a
 .simp[UniqKeys]
theorem ZD8{Q:Unit->Shared->Prop}(X:K.In s.heap)(ho:s.heap.get? x=some (Jx C t none))
  (j:PySem.W.findIn K (.ref C) "__setattr__"=some (some (.builtin "object.__setattr__"))) (k:Jd K C=true) (i:PySem.W.takerIn K C name=some none) (hh:PySem.W.hasDictIn K C=true)
  (h:∀h' d,s.heap.objs.size<=d->h'.get? x=some (Jx C t (some d))->h'.Ns1 d (λy=>if y=name then some v else none)->(∀b o,b≠x->s.heap.get? b=some o->h'.get? b=some o)->s.heap.objs.size<=h'.objs.size->Q () { s with heap:=h',toks:=s.toks+2 }) :
  wpAny (model prog w) A (setAttr (.ref x) name v) Q E s:=by
 have J:PySem.W.InstAt s.heap x (Jx C t none) C none:=⟨ho,rfl,rfl,trivial⟩;refine ZIp X J j (ZB9 (s:={ s with toks:=s.toks+1 }) (r:=none) X J k i λb=>?_)
 obtain⟨cd,l,DY⟩:=VP hh;refine pK (qm (pK (pK (ZBJ ho (pK (ZIf (s:={ s with toks:=s.toks+1 }) (pI X l) ?_))))))
 rw[DY,qg (by decide)];show wpAny _ _ (do
  let d <- alloc { cls:=Value.type "dict", data:=Data.dict #[] }
  update x λo=>{ o with dict:=some d }
  dictMade (Value.ref C) x d) _ _ _
 have f:x<s.heap.objs.size:=BE ho;refine pK (wpAny_alloc (pK (wpAny_update (Bf _ ho) ?_)));refine pK (qm (qm ?_));generalize a:((s.heap.push { cls:=Value.type "dict", data:=Data.dict #[] }).update x λo=>{ o with dict:=some s.heap.objs.size })=g
 have gx:g.get? x=some (Jx C t (some s.heap.objs.size)):=by
  rw[<- a];exact JQ _ (Bf _ ho) rfl
 have p:∀b o,b≠x->s.heap.get? b=some o->g.get? b=some o:=λb o c e=>by
  rw[<- a,G3 _ _ (BU c)];exact Bf _ e
 have m:g.objs.size=s.heap.objs.size+1:=by rw[<- a,VD,HJ]
 have n:g.Ns1 s.heap.objs.size (λ_=>none):=(yf s.heap).at λo e=>by
  rw[<- a,G3 _ _ (Br f)];exact e
 refine pK (qm (pK ?_));refine wpAny_nsSet1 (s:=⟨g,s.gens,s.drawn,s.toks+1,s.os⟩) n λh' Ko Cn=>?_;obtain⟨B,q,z,u,W0,IW⟩:=Ko.count (ZIq (ns:=[]) name v PySem.Within.nil);refine pK (wpAny_lookBehind u (by rw[W0];exact pastItsLine_dict (Bi IW (Nat.succ_le_succ (Ct _)))) ?_);exact qm (h h' s.heap.objs.size (B4 _) ((Cn.2 x (Br f)).trans gx) Ko (λb o c e=>(Cn.2 b (Br (BE e))).trans (p b o c e)) (by rw[Cn.1,m];exact G6 _))
end
noncomputable def Eu(ea C:Addr)(dx:Option Addr):HO:=.ext λh=>∃t,h.get? ea=some (Jx C t dx)
theorem ZC{P:Program}{h:Heap}{t:Addr}(e:h.get? ea=some (Jx C t dx)):CD P w H h ea (Eu ea C dx):=
 ⟨⟨t,e⟩,⟨_,e⟩,λ_ _⟨t',a⟩k=>⟨t',k _ a⟩⟩
theorem Inv.exc(I:Inv X ZA Z H s)(e:H ea=some (Eu ea C dx)):∃t,s.heap.get? ea=some (Jx C t dx):=(I.AH ea _ e).1
theorem Inv.ZHc{t:Addr}{dx':Option Addr}(I:Inv X ZA Z H s)(e:H ea=some (Eu ea C dx))(k:∀b u,b≠ea->s.heap.get? b=some u->h'.get? b=some u)(a:h'.get? ea=some (Jx C t dx')):
  Inv X ZA Z (upd H ea (Eu ea C dx')) { s with heap:=h',toks:=t' }:=by
 have c:NM (H ea):=by rw[e];trivial
 exact I.write c (.inl rfl) k ⟨_,a⟩ (ZC a)
def TB:V->Prop
 | .str x=>(reprText x).length<=100000
 | .int i=>i.natAbs.log2<1920
 |_=>False
section
variable{p1 p2 p3:Pos}{k1 k2:Nat}{c1 c2:Str}
theorem da{R:St->Hp->Prop}(d:PE X e te)(I:Inv X ZA Z H s)(h:te Z H λv H1=>TB v/\R Z H1)
  (b:∀y t s1 H1,y.length<=200000->Inv X ZA Z H1 s1->R Z H1->Q (.str y t) s1):Zq2 X (eval (.FormattedValue e 114 none pos) X.env) Q X.xe s:=by
 refine wpAny_FormattedValue_repr (d.k I h λu s1 v H1 I1 c⟨sv,a⟩=>?_);cases v with
 |str x=>
  obtain⟨t,rfl⟩:=c;have sz:(reprText x).length<=sizeLine:=Bi sv (by decide+kernel);refine wpAny_pyReprObj_str ?_ sz;refine wpAny_formatField_str ?_ ?_ sz
  .exact b _ _ _ H1 (Bi sv (by decide)) (I1.tok _) a
  .exact b _ _ _ H1 (Bi sv (by decide)) (I1.tok _) a
 |int i=>
  obtain⟨t,rfl⟩:=c;have l1:(Str.ofString (toString i)).length<=sizeLine:=int_text_fits sv;have f:i.natAbs.log2<1920:=sv;have l2:(Str.ofString (toString i)).length<=200000:=by
   have h1:i.natAbs<10 ^ 600:=by
    by_cases z:i.natAbs=0
    .rw[z];decide +kernel
    .exact p9 ((p8 z).mp f) (by decide+kernel)
   have e:=int_text_length_le10 (k:=600) (by decide) h1;clear h1;rw[PySem.ofString_length];omega
  refine wpAny_pyReprObj_gives (typeIs_int _ i t) F.slot_int_repr F.entry_int_repr (F.args_int_repr_1 _) (gives_int_repr i t sv) ?_ rfl l1;refine wpAny_formatField_str ?_ ?_ l1
  .exact b _ _ _ H1 l2 (I1.tok _) a
  .exact b _ _ _ H1 l2 (I1.tok _) a
 |_=>exact sv.elim
def Yl(te:TE):TE:=λZ H Q=>te Z H λv H1=>TB v/\∀y,Q (.str y) H1
theorem len_app(a b:Str):(a++b).length=a.length+b.length:=strLen_append a b
theorem PQ(b:PE X e te)(h1:c1.length<=1000):PE X (.JoinedStr [.Constant (.str c1) k1 p1,.FormattedValue e 114 none p2] pos) (Yl te):=by
 intro ZA s Z H Q I h;have a:(Str.empty++c1).length<=1000:=by rw[len_app];show 0+_<=_;omega
 refine wpAny_JoinedStr (show wpAny _ _ (eval (.Constant (.str c1) k1 p1) X.env) _ _ s from λ_ _ _=>⟨c1,_,rfl,Bi a (by decide+kernel),?_⟩);refine da (R:=λ_ H1=>∀y,Q (.str y) H1) b (I.tok _) h λy t s1 H1 d I1 c=>⟨y,t,rfl,?_,?_,?_⟩
 .rw[len_app];exact Bi (show _<=201000 by omega) (by decide+kernel)
 .rw[len_app];exact Bi (show _<=201000 by omega) (by decide+kernel)
 .exact⟨.str _,H1,I1.tok _,⟨_,rfl⟩,c _⟩
theorem vS(b:PE X e te)(h1:c1.length<=1000)(h2:c2.length<=1000):PE X (.JoinedStr [.Constant (.str c1) k1 p1,.FormattedValue e 114 none p2,.Constant (.str c2) k2 p3] pos) (Yl te):=by
 intro ZA s Z H Q I h;have a:(Str.empty++c1).length<=1000:=by rw[len_app];show 0+_<=_;omega
 refine wpAny_JoinedStr (show wpAny _ _ (eval (.Constant (.str c1) k1 p1) X.env) _ _ s from λ_ _ _=>⟨c1,_,rfl,Bi a (by decide+kernel),?_⟩);refine da (R:=λ_ H1=>∀y,Q (.str y) H1) b (I.tok _) h λy t s1 H1 d I1 c=>⟨y,t,rfl,?_,?_⟩
 .rw[len_app];exact Bi (show _<=201000 by omega) (by decide+kernel)
 .refine show wpAny _ _ (eval (.Constant (.str c2) k2 p3) X.env) _ _ s1 from λ_ _ _=>⟨c2,_,rfl,?_,?_,?_⟩
  .rw[len_app,len_app];exact Bi (show _<=202000 by omega) (by decide+kernel)
  .rw[len_app,len_app];exact Bi (show _<=202000 by omega) (by decide+kernel)
  .exact⟨.str _,H1,(I1.tok _).tok _,⟨_,rfl⟩,c _⟩
end
structure MO (K:ZJa) (S:Addr):Prop where
 ga:PySem.W.specialIn K (.ref S) "__getattribute__"=some (some (.builtin "type.__getattribute__"))
 rd:PySem.W.readsIn K S (.type "type")=true
 fd:PySem.W.findCls K (.ref S) (.type "type") "__init__"=some (.val (.builtin "ValueError.__init__"))
 hd:PySem.W.handedIn (.builtin "ValueError.__init__")=true
structure J4 (K:ZJa) (C fI:Addr) (fld:Str):Prop where
 ex:GK K C (some (.ref fI))=true
 sa:PySem.W.findIn K (.ref C) "__setattr__"=some (some (.builtin "object.__setattr__"))
 po:Jd K C=true
 tk:PySem.W.takerIn K C fld=some none
 hd:PySem.W.hasDictIn K C=true
 fn:PySem.W.isFn K (.ref fI)=true
 kp:PySem.W.keepIn K (.ref C)=true
theorem lH{x:V}{xs:List V}(r:Vals (x::xs) us):∃u us',us=u::us'/\RelV x u/\Vals xs us':=by
 cases r with
 |cons a b=>exact⟨_,_,rfl,a,b⟩
theorem ZFO(h:H a=some o):upd H a o=H:=by
 funext b
 unfold upd;split
 .rename_i e;rw[e,h]
 .rfl
section
variable{fld:Str}
theorem ZHj{t:Addr}(I:Inv X ZA Z H s)(hx:H ea=some (Eu ea C none))(q:GK X.K C Hg=true)
  (i:∀s',Inv X ZA Z H s'->Q .none s'):Zq2 X (call (.builtin "ValueError.__init__") [.ref ea,u]) Q X.xe s:=by
 obtain⟨l,ho⟩:=I.exc hx;obtain⟨bm,N,nm,qn,bs,hdct,sn,sub,ab,col,dd,k0,k1,k2,k3,k5,mN,j,m,Gz,T⟩:=(Qb I.Bv q).obj;have F:=pG;have n:H C=none:=by
  cases z:X.base.get? C with
  |some o=>exact(I.bs C o z).2
  |none=>
   obtain⟨_,_,_,_,_,_,_,_,_,_,_,_,_,_,_,_,_,c,_⟩:=(Qb I.mod.J2 q).obj;rw[z]at c;cases c
 obtain⟨a,g,d,tk,os⟩:=s;refine zL (ZAY F.init.plain F.initEntry (wpAny_check_init_subT F T j ho rfl ?_))
 wp_walk
 refine i _ ?_;have f:=I.ZHc (h':=(a.push { cls:=Value.type "tuple", data:=Data.seq #[u] }).update ea (Obj.mapFields λx=>x.setIfInBounds 0 (Value.ref a.objs.size))) (t':=tk) (t:=a.objs.size) (dx':=none) hx (λb k h e=>by
  rw[G3 _ _ (BU h)];exact Bf _ e) (by
  rw[JQ _ (Bf _ ho) rfl];rfl)
 rw[ZFO hx]at f;exact f
def ke(C:Addr)(t:TA):TE:=λZ H Q=>t Z H λvs H1=>∃ea v,vs=[.ref ea,v]/\H1 ea=some (Eu ea C none)/\Q .A9 H1
theorem NT{pl:Sem Bool}{apos:Pos}(sp:MO X.K S)(m:Gl X x)(l:X.mg x=some (.ref S))(q:GK X.K C Hg=true)(n:PA X (e::es) t)
  (BN:Zq0 x:=by decide) (BO:Ce X e es:=by rfl) (BZ:BEq X pos es:=by rfl)
  (ht:eval (.Call (.Attribute (.Name x p) "__init__" apos) (e::es) [] pos) X.env=(do
   let ov <- eval (.Name x p) X.env
   standAt apos.atName
   let (f,first) <- holding [ov] (getMethod ov "__init__" pl)
   callWith pos f first (backTo pos (starEach (e::es) X.env)) (backToKw pos (keywordEach [] X.env))):=by rfl) :
  PE X (.Call (.Attribute (.Name x p) "__init__" apos) (e::es) [] pos) (ke C t):=by
 intro ZA s Z H Q I h;refine ZIo (pl:=pl) (Je I m l ?_ BN) ht;refine PySem.W.method_cls I.Bv sp.ga (PySem.W.cls_value I.Bv sp.rd sp.fd sp.hd ?_);have a:=n pos ZA { s with toks:=s.toks+1 } Z H _ (I.tok _) h
 show wpAny _ _ (callWith pos (.builtin "ValueError.__init__") [] (backTo pos (starEach (e::es) X.env)) _) _ _ _;rw[BO]at a ⊢;refine oW (by show(false || (backTo pos (starEach es X.env)).any (·.1))=false;rw[BZ] <;> rfl) (cQ ?_)
 refine BB a λus s2⟨vs,H2,I2,k,ea,v,r,hx,o⟩=>?_;subst r;obtain⟨c,b,rfl,g,j⟩:=lH k;obtain⟨u,G9,rfl,d,i⟩:=lH j;cases i;cases(show c=Value.ref ea from g);exact ZHj (t:=ea) I2 hx q λs' I'=>⟨.A9,H2,I',rfl,o⟩
def iS(C:Addr)(f:Str)(ta tv:TE):TS:=λD Z H=>tv Z H λy H1=>ta Z H1 λx H2=>∃ea,x=.ref ea/\H2 ea=some (Eu ea C none)/\∀d,H2 d=none->D.nx Z (upd (upd H2 d (.xd [(f,y)])) ea (Eu ea C (some d)))
theorem Nw{o value:Expr}{pos':Pos}{tv:TE}(c:J4 X.K C fI fld)(E:PE X o ta)(w:PE X value tv)(B:swapsWith value (some (.Attribute o fld pos')) pos.line X.env=pure false):PS X (.Assign [.Attribute o fld pos'] value pos) (iS C fld ta tv):=by
 intro ZA s Z H D I h;refine ZA6 (w.k I h λu s1 y H1 I1 p q=>E.k I1 q λv s2 x H2 I2 r⟨ea,ex,hx,t⟩=>?_) B;subst ex;obtain rfl:v=Value.ref ea:=r;obtain⟨F,ho⟩:=I2.exc hx;refine ZD8 I2.Bv ho c.sa c.po c.tk c.hd λh' d hd l hn k G=>?_;have f:H2 d=none:=I2.AH.fresh hd;have J:d≠ea:=by rintro rfl;rw[hx]at f;cases f
 refine⟨Z,_,I2.un (t':=s2.toks+2) (h':=h') ⟨λb o e n _ _=>k b o (by rintro rfl;rw[hx]at n;cases n) e,λb o e n _ _=>⟨o.slots,k b o (by rintro rfl;rw[hx]at n;cases n) e⟩,λb o e n _=>?_,λb o e _=>?_,λb xs e=>?_,λb o' j e=>?_,λb ps e=>?_⟩ ?_,t d f⟩
 .rw[Aa (by rintro rfl;rw[hx]at n;cases n),Aa (by rintro rfl;exact absurd (BE e) (Nat.not_lt.mpr hd))];exact n
 .by_cases z:b=ea
  .subst z;exact⟨_,l⟩
  .exact⟨o,k b o z e⟩
 .rw[Aa (by rintro rfl;rw[hx]at e;cases e),Aa (Dg e f)];exact e
 .rw[Aa (by rintro rfl;rw[hx]at e;cases e),Aa (Dg e f)];exact e
 .exact⟨#[],by rw[Aa (by rintro rfl;rw[hx]at e;cases e),Aa (Dg e f),e];simp⟩
 .intro b o e
  by_cases z:b=ea
  .subst z;rw[AX]at e;cases e;exact ZC l
  .rw[Aa z]at e
   by_cases i:b=d
   .subst i;rw[AX]at e;cases e;refine⟨_,hn,λm=>?_⟩
    by_cases g:m=fld
    .subst g;rw[tX rfl,ZIO];exact p
    .rw[qg g,IB];rw[show(m == fld)=false from by simpa using g]
     exact trivial
   .rw[Aa i]at e;refine(I2.AH b o e).Hs (λc j a A=>k c j ?_ A) (λc a=>?_) λc xs a=>?_
    .rcases a with rfl|a
     .exact z
     .rintro rfl;rw[hx]at a;cases a
    .rw[Aa (by rintro rfl;rw[hx]at a;cases a),Aa (Dg a f)];exact a
    .rw[Aa (by rintro rfl;rw[hx]at a;cases a),Aa (Dg a f)];exact a
end
def N4(C:Addr)(fld:Str):Sp:=λvs H Q _=>∃(ea:Addr)(v:V),vs=[.ref ea,v]/\TB v/\H ea=some (Eu ea C none)/\∀d,H d=none->Q .A9 (upd (upd H d (.xd [(fld,v)])) ea (Eu ea C (some d)))
def Uw(C:Addr)(fld:Str)(E:St->XK)(t:TA):TS:=λ_ Z H=>t Z H λvs H1=>∃v,vs=[v]/\TB v/\∀d,H1 d=none->E Z (.ref C) (some d) (upd H1 d (.xd [(fld,v)]))
noncomputable def Ny(H:Hp)(a:Addr):Hp:=λb=>if b=a then none else H b
theorem Tn(h:b≠a):Ny H a b=H b:=qg h
theorem bM:Ny H a a=none:=tX rfl
section
theorem Inv.forget(I:Inv X ZA Z H s){φ:Heap->Prop}(e:H a=some (.ext φ))(k:∀p∈X.pn++ZA,p.1≠a):Inv X ZA Z (Ny H a) s:=by
 have keep:∀b o,b≠a->H b=o->Ny H a b=o:=λb o h q=>by rw[Tn h];exact q
 have f:∀b,H b=none->Ny H a b=none:=λb q=>by
  by_cases z:b=a
  .subst z;exact bM
  .rw[Tn z];exact q
 refine⟨I.ok,I.os,I.bare,⟨I.base.keep,I.base.slot,λb o q n hx=>f b (I.base.free b o q n hx),I.base.there,λb xs q=>?_,λb o u q=>?_,λb ps q=>?_⟩,I.loc,I.cell,f _ I.free,λx c q=>f c (I.EU x c q),λp FH=>?_,λb o q=>?_,I.len⟩
 .have z:=I.base.HF b xs q;exact keep b _ (by rintro rfl;rw[e]at z;cases z) z
 .have z:=I.base.GX b o u q;exact keep b _ (by rintro rfl;rw[e]at z;cases z) z
 .obtain⟨m,z⟩:=I.base.HB b ps q;exact⟨m,keep b _ (by rintro rfl;rw[e]at z;cases z) z⟩
 .obtain⟨h1,h2,j⟩:=I.pin p FH;exact⟨h1,f _ h2,j⟩
 .have i:b≠a:=by rintro rfl;rw[bM]at q;cases q
  rw[Tn i]at q;refine(I.AH b o q).Hs (λc u _ g=>g) (λc d=>keep c _ (by rintro rfl;rw[e]at d;cases d) d) λc xs d=>keep c _ (by rintro rfl;rw[e]at d;cases d) d
variable{fld:Str}
end
section
variable{C:Value}
theorem Inv.RP(I:Inv X ZA Z H s)(BO:X.stack=X.env::X.outer)(x:GI s.heap ea C dx tb)(J:H ea=none)(t:X.s₀.heap.get? ea=none)(g:∀T,tb=some T->H T=none/\X.s₀.heap.get? T=none)
  (D:∀p∈X.pn++ZA,p.1≠ea/\tb≠some p.1)(kp:Kp (X.env::X.outer) ea tb s.heap h'):Inv X ZA Z H { s with heap:=h' }:=by
 obtain⟨oe,vs,N,_,_,G,_⟩:=x.obj;have mem:∀b,b∈CU (X.env::X.outer)->b=X.env.locals∨b∈X.fs:=λb a=>by
  rw[<- BO]at a;exact List.mem_cons.mp (I.Oo b a)
 have B:∀b,b=X.env.locals∨b∈X.fs->b∈CU (X.env::X.outer):=λb a=>by
  have d:X.env.frame=some X.env.locals:=by
   rcases I.ok.JA with e|⟨_,d⟩
   .rw[e]at BO;exact absurd (vB List.length BO) (by simp)
   .exact d
  unfold CU;rw[VF,d];rcases a with rfl|a
  .exact DC
  .exact Dd _ a
 have f:∀b o,s.heap.get? b=some o->(∀vs,o.data≠.fields vs)->∃sl,h'.get? b=some { o with slots:=sl }:=λb o a hd=>by
  by_cases d:b∈CU (X.env::X.outer)
  .exact kp.slot b o a d
  .refine⟨o.slots,kp.keep b o a d (by rintro rfl;rw[N]at a;cases a;exact hd _ G) λz=>?_⟩;obtain⟨_,R,ts,O,IT,_⟩:=x.ent b z;rw[O]at a;cases a;exact hd _ IT
 have h:∀b o,s.heap.get? b=some o->H b≠none->h'.get? b=some o:=λb o a hn=>kp.keep b o a (λz=>hn (I.U6 b (by rw[BO];exact z))) (λz=>hn (z▸J)) λz=>hn (g b z).1;have j:∀b o,X.s₀.heap.get? b=some o->b≠X.env.locals:=λb o a z=>absurd (BE a) (Nat.not_lt.mpr (z▸I.ok.above));have A:∀c v,s.heap.IsCell c v->h'.IsCell c v:=λc v AU=>by
  obtain⟨o,ho,hd⟩:=AU;obtain⟨sl,h1⟩:=f c o ho (by rw[hd];intro vs z;cases z);exact⟨_,h1,hd⟩
 refine⟨I.ok,I.os,I.bare,⟨λb o a hn d hx=>?_,λb o a hn d hx=>?_,I.base.free,λb o a hx=>?_,I.base.HF,I.base.GX,I.base.HB⟩,?_,λy c q=>?_,I.free,I.EU,λp FH=>?_,I.AH.gE λb u hn a=>h b u a hn,I.len⟩
 .exact kp.keep b o (I.base.keep b o a hn d hx) (λz=>(mem b z).elim (j b o a) d) (by rintro rfl;rw[t]at a;cases a) λz=>by rw[(g b z).2]at a;cases a
 .obtain⟨sl,h1⟩:=I.base.slot b o a hn d hx;obtain⟨Hu,h2⟩:=kp.slot b _ h1 (B b (.inr d));exact⟨Hu,h2⟩
 .obtain⟨w,h1⟩:=I.base.there b o a hx
  by_cases d:b∈CU (X.env::X.outer)
  .obtain⟨Hu,h2⟩:=kp.slot b _ h1 d;exact⟨_,h2⟩
  .exact⟨w,kp.keep b w h1 d (by rintro rfl;rw[t]at a;cases a) λz=>by rw[(g b z).2]at a;cases a⟩
 .obtain⟨m,⟨o,es,Q,ho,r⟩,M⟩:=I.loc;obtain⟨sl,h1⟩:=kp.slot _ _ ho (B _ (.inl rfl));refine⟨m,⟨_,es,Q,h1,r⟩,λi y v hi n L=>?_⟩;obtain⟨u,K,l⟩:=M i y v hi n L;refine⟨u,K,?_⟩;rcases l with l|⟨k,c,hc,ic⟩
  .exact .inl l
  .exact .inr ⟨k,c,hc,A c _ ic⟩
 .obtain⟨v,n⟩:=I.cell y c q;exact⟨v,A c v n⟩
 .obtain⟨h1,h2,F,E,P⟩:=I.pin p FH;exact⟨kp.keep _ _ h1 (λz=>(mem _ z).elim F E) (D p FH).1 (D p FH).2,h2,F,E,P⟩
end
theorem Inv.unbind{Q:Unit->Shared->Prop}(I:Inv X ZA Z H s)(G:X.N.Nodup)(g:X.N[j]?=some n)(r:X.env.scope.names.lookup n=some .local)
  (h:∀s',Inv X ZA (Z.set j none) H s'->Q () s'):wpAny M A (do bindName X.env n .none;unbindBehindTheSuite X.env n pos) Q E s:=by
 refine pK (wpAny_bindName (Xd (v:=.A9) I G g (.inl r) rfl (λs1 I1 _=>?_) (.inr r)));unfold unbindBehindTheSuite;refine wpAny_onRaise ?_;obtain⟨m,hn,F⟩:=id I1.loc;have T:(X.env.scope.kind == .class || (X.env.scope.kind == .module && X.env.locals != X.env.globals))=false:=by rw[I.ok.kind];rfl
 have hjσ:j<Z.length:=by rw[I.len];exact(List.getElem?_eq_some_iff.mp g).1
 obtain⟨u,W,O⟩:=F j n .A9 g (Cs hjσ) (.inl r);have R:m n=some u:=by
  rcases O with⟨_,e⟩|⟨z,_⟩
  .exact e
  .have U:X.env.kindOf n=some .local:=r;rw[U]at z;rcases z with z|z <;> cases z
 refine wpAny_unbindName_local r hn R T λh' V LO f=>?_;obtain⟨Y,_,_,IP,_⟩:=id hn;have Gu:=I1.Gu;have a:∀b o,X.s₀.heap.get? b=some o->b≠X.env.locals:=λb o t=>Br (Dn (BE t) I.ok.above);refine h _ ⟨I1.ok,I1.os,I1.bare,⟨λb o e n t hx=>(f.2 b (a b o e)).trans (I1.base.keep b o e n t hx),λb o e n t hx=>?_,I1.base.free,λb o e hx=>?_,I1.base.HF,I1.base.GX,I1.base.HB⟩,⟨_,LO,λi y J l B S=>?_⟩,λy c e=>?_,I1.free,I1.EU,λp P=>?_,λb ob e=>?_,by simpa using I.len⟩
 .obtain⟨sl,l⟩:=I1.base.slot b o e n t hx;exact⟨sl,(f.2 b (a b o e)).trans l⟩
 .obtain⟨o',l⟩:=I1.base.there b o e hx;exact⟨o',(f.2 b (a b o e)).trans l⟩
 .have C:i≠j:=by
   rintro rfl;rw[Cs hjσ]at B;cases B
  rw[CO (BU C)]at B;obtain⟨w,K,q⟩:=F i y J l (by rw[CO (BU C)];exact B) S;refine⟨w,K,?_⟩;rcases q with⟨k,e⟩|⟨k,c,e,z⟩
  .refine .inl ⟨k,?_⟩;have:y≠n:=λe=>C (Y5 G l (e▸g));simp[this,e]
  .exact .inr ⟨k,c,e,z.sameBut f (Gu y c e)⟩
 .obtain⟨D,z⟩:=I1.cell y c e;exact⟨D,z.sameBut f (Gu y c e)⟩
 .obtain⟨e,n,ne,L,d⟩:=I1.pin p P;exact⟨(f.2 p.1 ne).trans e,n,ne,L,d⟩
 .refine(I1.AH b ob e).Hs (λc D x q=>(f.2 c ?_).trans q) (λ_ q=>q) λ_ _ q=>q;rintro rfl;have fr:=I1.free;rcases x with rfl|x
  .rw[fr]at e;cases e
  .rw[fr]at x;cases x
theorem Inv.ZCo(I:Inv X ZA Z H s)(x:GI s.heap ea (.ref C) dx tb)(i:H ea=none)(h:X.s₀.heap.get? ea=none)(l:∀p∈X.pn++ZA,p.1≠ea):Inv X ZA Z (upd H ea (Fz.IF ea C dx)) s:=by
 obtain⟨oe,vs,e,d,hd,HR,_⟩:=x.obj;have f:X.env.locals≠ea:=λz=>by
  obtain⟨m,⟨o,es,A,ho,a,_⟩,_⟩:=I.loc;rw[z,e]at ho;cases ho;rw[HR]at a;cases a
 have Gu:∀y c,X.env.cells.lookup y=some c->c≠ea:=λy c q z=>by
  obtain⟨v,o,ho,a⟩:=I.cell y c q;rw[z,e]at ho;cases ho;rw[HR]at a;cases a
 have tr:∀b o,H b=some o->upd H ea (Fz.IF ea C dx) b=some o:=λb o q=>by
  rw[Aa (by rintro rfl;rw[i]at q;cases q)];exact q
 refine⟨I.ok,I.os,I.bare,⟨I.base.keep,I.base.slot,λb o q n hx=>?_,I.base.there,λb xs q=>tr b _ (I.base.HF b xs q),λb o u q=>tr b _ (I.base.GX b o u q),λb ps q=>?_⟩,I.loc,I.cell,?_,λy c q=>?_,λp FH=>?_,λb o q=>?_,I.len⟩
 .rw[Aa (by rintro rfl;rw[h]at q;cases q)];exact I.base.free b o q n hx
 .obtain⟨m,z⟩:=I.base.HB b ps q;exact⟨m,tr b _ z⟩
 .rw[Aa f];exact I.free
 .rw[Aa (Gu y c q)];exact I.EU y c q
 .obtain⟨h1,h2,t⟩:=I.pin p FH;exact⟨h1,by rw[Aa (l p FH)];exact h2,t⟩
 .by_cases z:b=ea
  .subst z;rw[AX]at q;cases q;exact⟨⟨oe,vs,e,d,hd,HR⟩,⟨_,e⟩,λ_ _⟨o',g,w,r⟩k=>⟨o',g,k _ w,r⟩⟩
  .rw[Aa z]at q;exact(I.AH b o q).Hs (λc u _ j=>j) (λc d=>tr c _ d) λc xs d=>tr c _ d
noncomputable abbrev Cx.Ee(X:Cx)(pn:ZJb)(xe:Value->Shared->Prop):Cx:={ X with pn:=pn,xe:=xe }
noncomputable abbrev Cx.CZ(X:Cx)(e:Value):Cx:={ X with A:=X.A.mark (some e),calm:=false,xe:=λ_ _=>False }
section
variable{aR:ZJb}{e:Value}
theorem Cx.Ok.Ee(ok:X.Ok):(X.Ee pn xe).Ok:=⟨ok.mod,ok.kind,ok.glob,ok.blt,ok.above,ok.inj,ok.has,ok.LG,ok.hd,ok.frames,ok.JA,ok.Li,ok.bs,ok.HW,ok.Kt,ok.Kl,ok.Fc,ok.JF⟩
theorem Cx.Ok.HQ(ok:(X.Ee pn xe).Ok):X.Ok:=⟨ok.mod,ok.kind,ok.glob,ok.blt,ok.above,ok.inj,ok.has,ok.LG,ok.hd,ok.frames,ok.JA,ok.Li,ok.bs,ok.HW,ok.Kt,ok.Kl,ok.Fc,ok.JF⟩
theorem Cx.Ok.CZ(ok:X.Ok):(X.CZ e).Ok:=⟨ok.mod,ok.kind,ok.glob,ok.blt,ok.above,ok.inj,ok.has,ok.LG,λz=>(by cases z),ok.frames,ok.JA,ok.Li,ok.bs,ok.HW,ok.Kt,ok.Kl,ok.Fc,ok.JF⟩
theorem Inv.Ee(I:Inv X ZA Z H s):Inv (X.Ee (X.pn++ZA) xe) [] Z H s:=⟨I.ok.Ee,I.os,I.bare,I.base,I.loc,I.cell,I.free,I.EU,λp a=>I.pin p (by simpa using a),I.AH,I.len⟩
theorem Inv.HQ(I:Inv (X.Ee (X.pn++ZA) xe) aR Z H s):Inv X ZA Z H s:=⟨I.ok.HQ,I.os,I.bare,I.base,I.loc,I.cell,I.free,I.EU,λp a=>I.pin p (IC _ a),I.AH,I.len⟩
theorem Inv.CZ(I:Inv X ZA Z H s):Inv (X.CZ e) ZA Z H s:=⟨I.ok.CZ,I.os,I.bare,I.base,I.loc,I.cell,I.free,I.EU,I.pin,I.AH,I.len⟩
theorem Inv.L5(ok:X.Ok)(I:Inv (X.CZ e) ZA Z H s):Inv X ZA Z H s:=⟨ok,I.os,I.bare,I.base,I.loc,I.cell,I.free,I.EU,I.pin,I.AH,I.len⟩
end
noncomputable def Ends.drop(D:Ends)(j:Nat):Ends:=⟨λZ H=>D.nx (Z.set j none) H,D.rt,λZ H=>D.bk (Z.set j none) H,λZ H=>D.ct (Z.set j none) H⟩
def Ze(K:ZJa)(S:Addr)(j:Nat)(tb:(St->XK)->TS)(th:TS):TS:=λD Z H=>∃E1:St->XK,tb E1 D Z H/\
 ∀ σ1 C dx ea H1,E1 σ1 (.ref C) dx H1->H1 ea=none->PySem.W.exmOne K (.ref C) (.ref S)=some true/\th (D.drop j) (σ1.set j (some (.ref ea))) (upd H1 ea (Fz.IF ea C dx))
def OR(sp:Sp)(E:St->XK)(t:TA):TE:=λZ H Q=>t Z H λvs H1=>sp vs H1 Q (E Z)
def C8(P:Program)(w:World)(K:ZJa)(mg:ZJc)(ZB:Heap)(x:Str)(k:Nat)(ps:List Str)(sp:Sp):Prop:=
 ∃f fd,CQ P w K mg ZB (GH P w) k f fd ps sp/\Binds K fd ps []/\PySem.W.keepIn K (.ref f)=true/\mg x=some (.ref f)
section
variable{P:Program}{K:ZJa}{k:Nat}{st:Stmt}
theorem C8.mk(F:AE K x qual st f fd)(b:Binds K fd ps [])(m:mg x=some (.ref f))(h:CQ P w K mg ZB (GH P w) k f fd ps sp):C8 P w K mg ZB x k ps sp:=⟨f,fd,h,b,F.kp,m⟩
variable{E:St->XK}
theorem Goes.ZBS(go:Goes X E)(i:∀b∈X.ex,∃p∈X.pn,p.1=b){e:Value}(I:Inv X ZA Z H s)(h:GH X.prog X.w X.stack H s (E Z) e s'):X.xe e s':=by
 have Ei:∀a,s.heap.get? a=none->X.s₀.heap.get? a=none:=λa k=>by
  cases q:X.s₀.heap.get? a with
  |none=>rfl
  |some o=>
   by_cases hx:a∈X.ex
   .obtain⟨p,c,rfl⟩:=i a hx;have h1:=(I.pin p (IC _ c)).1;rw[k]at h1;cases h1
   .obtain⟨u,h1⟩:=I.base.there a o q hx;rw[k]at h1;cases h1
 obtain⟨ea,C,dx,tb,H',rfl,os,bare,un,AH,x,⟨m,j⟩,f,n⟩:=h;obtain⟨hh,g,d,t,Qe⟩:=s';obtain rfl:Qe=s.os:=os;have r:=I.call (h':=hh) (g':=g) (d':=d) (t':=t) (ch:=[]) un AH bare (λb z=>absurd z (by simp));refine go ZA Z H' _ ea C dx tb r x ⟨m,Ei _ j⟩ (λT l=>⟨(f T l).1,Ei _ (f T l).2⟩) (λp c=>⟨λz=>?_,λz=>?_⟩) n
 .have:=(I.pin p c).1;rw[z,j]at this;cases this
 .have:=(I.pin p c).1;rw[(f _ z).2]at this;cases this
theorem ZAR(a:X.ex=[]):∀b∈X.ex,∃p∈X.pn,p.1=b:=λb c=>by rw[a]at c;cases c
theorem x8(h:C8 X.prog X.w X.K X.mg X.base x k ps sp)(d:Ba j X.A)(i:k<=j)(go:Goes X E)(c:∀b∈X.ex,∃p∈X.pn,p.1=b)(n:PA X (e::es) t)(l:Gl X x:=by rfl)(BN:Zq0 x:=by decide)
  (he:Ce X e es:=by rfl) (BZ:BEq X pos es:=by rfl) :
  PE X (.Call (.Name x p) (e::es) [] pos) (OR sp E t):=by
 obtain⟨f,fd,F,b,kp,m⟩:=h;have F:=F.mono i;intro ZA s Z H Q I h;refine x3 (Je I l m ?_ BN);refine VQ (h₀:=X.base) I.ok.mod.J2 kp (n.k pos I h λus s1 vs H1 I1 r q=>⟨I1.Bv,?_⟩) he BZ;have g:us.length=ps.length:=by rw[<- r.length];exact F.len _ _ _ _ q
 refine zL (zd (F.run X.A X.stack s1 H1 ⟨us,[]⟩ us vs Q (E Z) d I1.Ug (by have z:=b s1 us I1.Bv (by rw[G4];exact g);rw[G4]at z;exact z) r q) λr s' a=>?_);cases r with
 |error e=>exact go.ZBS c I1 a
 |ok o=>
  cases o with
  |ret u=>exact I1.after a
  |next=>exact False.elim a
  |brk=>exact False.elim a
  |cont=>exact False.elim a
end
section
variable{P:Program}{K:ZJa}{E:XK}
theorem Dw:Goes (DG (GH P w) P w K mg ZB N qual scope f cd A outer s H E) (λ_=>E):=λZA Z H' s' ea C dx tb I x u a _ b=>
 WV.leave ⟨ZA,Z,H',ea,C,dx,tb,rfl,I,x,u,a,b⟩
theorem u0:PassesOwn (model P w) (DG (GH P w) P w K mg ZB N qual scope f cd A outer s H E).A (DG (GH P w) P w K mg ZB N qual scope f cd A outer s H E).env (DG (GH P w) P w K mg ZB N qual scope f cd A outer s H E).xe:=PassesOwn.leaving
end
theorem AE.uj{P:Program}{K:ZJa}{st:Stmt}{k:Nat}(F:AE K x qual st f fd)(S:Ao N ps (AO st))(len:∀vs H Q E,sp vs H Q E->vs.length=ps.length)
  (MZ:∀(Ai:Value)(A:Around)(outer:List Env)(s:Shared)(H:Hp)(vs:List V)(Q:VK)(E:XK),Ba k (A.deeper (envOfC qual (AO st) s.heap.objs.size f Ai))->sp vs H Q E->
   ∃t,E2 (DG (GH P w) P w K mg ZB N qual (AO st) f Ai A outer s H E) (El st) t/\t { nx:=λ_ H'=>Q .A9 H',rt:=Q } (start N vs) H):CQ P w K mg ZB (GH P w) (k+1) f fd ps sp:=by
 obtain⟨e,od,kV,c,d,g,Ai,ct,JW,rfl,a,Ef⟩:=F.ex;refine eV a Ef S len λA outer s H vs Q E b Fi=>?_;obtain⟨t,h,q⟩:=MZ Ai A outer s H vs Q E b Fi;exact⟨t,h.h,q⟩
section
variable{i k:Nat}{E:St->XK}{body CZ:List Stmt}{fld:Str}
theorem FD(h:C8 X.prog X.w X.K X.mg X.base x k ps sp)(c:Ba j X.A)(d:k<=j)(go:Goes X E)(a:X.ex=[])(b:QA X (e::es) t)(f:Gl X x:=by rfl)(BN:Zq0 x:=by decide)
  (he:Ce X e es:=by rfl) (BZ:BEq X pos es:=by rfl):QE X (.Call (.Name x p) (e::es) [] pos) (OR sp E t):=⟨by have b:=b.h;exact x8 h c d go (ZAR a) b f BN he BZ⟩
theorem vZ(m:Gl X x)(a:X.mg x=some (.ref C))(q:GK X.K C none=true)(n:X.calm=true)(d:X.ex=[])(go:Goes X E)(f:QA X (e0::es) t)
  (BN:Zq0 x:=by decide) (he:Ce X e0 es:=by rfl) (BZ:BEq X Be es:=by rfl) :
  QS X (.Raise (some (.Call (.Name x np) (e0::es) [] Be)) none pos) (aE C E t):=⟨by
 have f:=f.h;intro ZA s Z H D I h;have mk:∀h':Heap,X.K.In h'->jD h' C none:=λh' k=>Qb k q;obtain⟨bm,N,nm,qn,bs,hdct,sn,sub,ab,col,dd,k0,k1,k2,k3,k5,mN,y,v,Gz,T⟩:=(Qb (X:=I.mod.J2) q).obj;refine wpAny_Raise_call_subT (C:=C) (nm:=nm) (q:=qn) (N:=N) (bs:=bs) (bm:=bm) (hdct:=hdct) (sn:=sn) (sub:=sub) (ab:=ab) (col:=col) (dd:=dd) (k0:=k0) (k1:=k1) (k2:=k2) (k3:=k3) (k5:=k5)
  pG (mN:=mN) (T.hasType rfl) (I.ok.hd n) (by rw[he];show(false || (backTo Be (starEach es X.env)).any (·.1))=false;rw[BZ];rfl) Gz (Je I m a ⟨rfl,?_⟩ BN)
 rw[he];have i:=f Be ZA s Z H _ I h;rw[he]at i;refine cQ (BB i λus s2⟨vs,H2,I2,r,j,w⟩=>⟨rfl,?_,I2.bk _ _ y,v.keeps I2.bk,T.keeps I2.bk,λh' e a=>?_⟩)
 .rw[<- r.length];exact Bi j (by decide+kernel)
 .obtain⟨t',MB,Mh,_⟩:=a.there;have g:s2.heap.get? e=none:=a.new;have A:=I2.call (h':=h') (g':=s2.gens) (d':=s2.drawn) (t':=s2.toks) (ch:=[]) (Un.kept a.keeps) (I2.AH.kept a.keeps) I2.bare (λb z=>absurd z (by simp));refine go ZA Z H2 _ e C none none A ⟨⟨_,_,MB,rfl,rfl,rfl,by simp,rfl⟩,λT z=>by cases z⟩ ⟨?_,?_⟩ (λT z=>by cases z) (λp l=>⟨λz=>?_,by simp⟩) w
  .cases z:H2 e with
   |none=>rfl
   |some o=>obtain⟨u,c⟩:=I2.AH.there z;rw[g]at c;cases c
  .cases z:X.s₀.heap.get? e with
   |none=>rfl
   |some o=>obtain⟨u,c⟩:=I2.base.there e o z (by rw[d];simp);rw[g]at c;cases c
  .have:=(I2.pin p l).1;rw[z,g]at this;cases this⟩
theorem zU(c:J4 X.K C fI fld)(hg:Gl X x)(hm:X.mg x=some (.ref C))(Fn:CQ X.prog X.w X.K X.mg X.base DW kk fI fd ["self", par] (N4 C fld))(hb:Binds X.K fd ["self", par] [])(σ:Ba (kk+1) X.A)(n:X.calm=true)(hex:X.ex=[])(go:Goes X E)(q:QA X [e0] t)
  (BN:Zq0 x:=by decide) (he:Ce X e0 []:=by rfl) (BZ:BEq X Be []:=by rfl) :
  QS X (.Raise (some (.Call (.Name x np) [e0] [] Be)) none pos) (Uw C fld E t):=⟨by
 have q:=q.h;intro ZA s Z H D I h;obtain⟨bm,N,nm,qn,bs,hdct,sn,sub,ab,col,dd,k0,k1,k2,k3,k5,mN,G,hN,Gz,T⟩:=(Qb I.mod.J2 c.ex).obj;rw[arm_exec_Raise];show wpAny _ _ (do standAt pos;raiseStmt X.env (some (do let v <- eval (.Call (.Name x np) [e0] [] Be) X.env;standAt pos;pure v)) none) _ _ s
 refine pK (ZAK (ye (C:=C) (nm:=nm) (qn:=qn) (N:=N) (bs:=bs) (bm:=bm) (hdct:=hdct) (sn:=sn) (sub:=sub) (ab:=ab) (col:=col) (dd:=dd) (k0:=k0) (k1:=k1) (k2:=k2) (k3:=k3) (k5:=k5) (newId:="ValueError.__new__") (T.hasType rfl) (I.ok.hd n) (pK ?_)));refine x3 (Je I hg hm ?_ BN);refine VQ (h₀:=X.base) I.ok.mod.J2 c.kp (q.k Be I h λus s1 vs H1 I1 r⟨v,ev,sv,hE⟩=>⟨I1.Bv,?_⟩) he BZ;subst ev;obtain⟨u,rfl,U⟩:=vals1 r;obtain⟨hp,g,d,tk,os⟩:=s1;have R7:∃oI,hp.get? fI=some oI/\oI.cls=.type "function" := by
  have z:=beq_iff_eq.mp c.fn;unfold PySem.W.typeIn at z;obtain⟨o,ho,n⟩:=Option.map_eq_some_iff.mp z;exact⟨o,I1.Bv _ _ ho,n⟩
 obtain⟨oI,P,Rr⟩:=R7;refine ZA0 pG (T.keeps I1.bk) (I1.bk _ _ G) (hN.keeps I1.bk) Gz P Rr (by show 1<=sizeLine;decide +kernel) λh' ea MT J=>?_;obtain⟨t',MB,_,_⟩:=J.there;have L:H1 ea=none:=I1.AH.fresh MT;have y:Inv X ZA Z (upd H1 ea (Eu ea C none)) ⟨h',g,d,tk,os⟩:=I1.laid (t':=tk) J.keeps MT (ZC MB);have Y:N4 C fld ([.ref ea,v]++[]) (upd H1 ea (Eu ea C none)) (λw H3=>w=.A9/\∃d,H1 d=none/\d≠ea/\H3=upd (upd (upd H1 ea (Eu ea C none)) d (.xd [(fld,v)])) ea (Eu ea C (some d))) E0:=
  ⟨ea,v,rfl,sv,AX,λd hd=>by
   have j:d≠ea:=by rintro rfl;rw[AX]at hd;cases hd
   rw[Aa j]at hd;exact⟨rfl,d,hd,j,rfl⟩⟩
 refine zL (zd (Fn.run _ X.stack _ _ ⟨[.ref ea,u],[]⟩ [.ref ea,u] [.ref ea,v] _ E0 (σ.make C [u] []) (y.Ug.make C [u] []) (hb _ [.ref ea,u] y.Bv rfl) (.cons rfl (.cons U .nil)) Y) λV s' i=>?_);cases V with
 |error e=>exact False.elim i
 |ok fl=>
  cases fl with
  |ret Q=>
   obtain⟨w3,H3,I3,O,ew,f,m,j,eH⟩:=y.after i;subst ew;subst eH;cases(show Q=Value.none from O);refine⟨rfl,pK (ZAK (qm ?_))⟩;obtain⟨S,B⟩:=I3.exc (C:=C) (dx:=some f) AX;refine⟨ea,S,some f,rfl,I3.bk _ _ G,B,?_⟩;have F:∀p∈X.pn++ZA,p.1≠ea:=λp FH z=>by
    have:=BE (I1.pin p FH).1;rw[z]at this;exact absurd this (Nat.not_lt.mpr MT)
   have M:=I3.forget (a:=ea) AX F;have R:Ny (upd (upd (upd H1 ea (Eu ea C none)) f (.xd [(fld,v)])) ea (Eu ea C (some f))) ea=upd H1 f (.xd [(fld,v)]):=by
    funext b
    by_cases z:b=ea
    .subst z;rw[bM,Aa (BU j),L]
    .rw[Tn z,Aa z]
     by_cases l:b=f
     .subst l;rw[AX,AX]
     .rw[Aa l,Aa l,Aa z]
   rw[R]at M;refine go ZA Z _ s' ea C (some f) none M ⟨⟨_,_,B,rfl,rfl,rfl,by simp,rfl⟩,λT z=>by cases z⟩ ⟨by rw[Aa (BU j)];exact L,?_⟩ (λT z=>by cases z) (λp FH=>⟨F p FH,by simp⟩) (hE f m);exact Oc (Bi I1.sz MT)
  |next=>exact False.elim i
  |brk=>exact False.elim i
  |cont=>exact False.elim i⟩
theorem ZGb(BO:X.stack=X.env::X.outer)(Y:X.ex=[])(B:X.N.Nodup)(t:X.N[j]?=some n)(i:X.env.scope.names.lookup n=some .local)(V:Gl X x)(U:X.mg x=some (.ref S))
  (A:∀(pn:ZJb)(xe:Value->Shared->Prop)(E1:St->XK),Goes (X.Ee pn xe) E1->E2 (X.Ee pn xe) body (Iq E1))
  (hh:∀e,E2 (X.CZ e) (b0::CZ) th) (BN:Zq0 x:=by decide) :
  QS X (.Try body [.ExceptHandler (some (.Name x np)) (some n) (b0::CZ) JC] [] [] pos) (Ze X.K S j Iq th):=⟨by
 have A:=λpn xe E1 g=>(A pn xe E1 g).h;have hh:=λe=>(hh e).h;intro ZA s Z H D I h;obtain⟨E1,h1,h2⟩:=h;have M:X.env.frame=some X.env.locals:=by
  rcases I.ok.JA with e|⟨_,M⟩
  .rw[e]at BO;exact absurd (vB List.length BO) (by simp)
  .exact M
 refine wpAny_Try_except ?_;refine ud (A (X.pn++ZA) _ E1 ?_ [] s Z H D I.Ee h1) (λf s1 q=>?_) (λe s1 q=>q)
 .intro aR σ1 H1 s1 ea C dx tb I1 O ⟨F,m⟩ E c hE;have k:Inv X ZA σ1 H1 s1:=I1.HQ;have m:X.s₀.heap.get? ea=none:=m;have E:∀T,tb=some T->H1 T=none/\X.s₀.heap.get? T=none:=E;have c:∀p∈X.pn++ZA,p.1≠ea/\tb≠some p.1:=λp q=>c p (IC _ q);refine Vn (outer:=X.outer) (L:=X.env.locals) (by rw[<- BO];exact k.ok.frames) (ZB:=X.base) (by rw[<- BO];exact k.stack) M O λh' T kp a J=>?_;have G:=k.RP BO O F m E c kp;obtain⟨bf,ay⟩:=h2 σ1 C dx ea H1 hE F;refine wpAny_handleBy_cons ?_ (λz=>by cases z);refine codeAny_handlers_test ?_;refine Je (X:=X.CZ (.ref ea)) G.CZ V U ?_ BN;obtain⟨oe,vs,σ,hc,hd,HR,hz,h3⟩:=J.obj;have LT:PySem.W.Looks (model X.prog X.w) h' (typeOf (.ref ea)) (.ref C):=by
   rw[<- hc];exact(ZIg σ).andThen .now
  refine(PySem.W.exm_one (K:=X.K) G.Bv LT bf).here ?_;refine codeAny_handlers_suite_as ?_;have fl:∀b∈CU (X.env::X.outer),∃o,h'.get? b=some o/\∀vs,o.data≠.fields vs:=λb A=>by
   have st:=G.stack;rw[BO]at st;obtain⟨_,o,ho,hn⟩:=st.mem A;exact⟨o,ho,hn⟩
  refine ZR (s:={ s1 with heap:=h' }) (l:=X.env::X.outer) J fl λh4 b8 Q=>?_
  have Z1:∀T',some T=some T'->H1 T'=none/\X.s₀.heap.get? T'=none:=λT' eT=>by
   cases eT;exact a.elim (λa=>⟨k.AH.fresh a,Oc (Bi k.sz a)⟩) (E T)
  have Vl:∀p∈X.pn++ZA,p.1≠ea/\some T≠some p.1:=λp q=>⟨(c p q).1,λz=>a.elim (λa=>by
   have P:=BE (k.pin p q).1;rw[<- Bs z]at P;exact absurd P (Nat.not_lt.mpr a)) λy=>(c p q).2 (y.trans z)⟩
  have I4:=G.RP BO J F m Z1 Vl b8;have I5:=I4.ZCo Q F m λp q=>(c p q).1;refine Zm (X:=X.CZ (.ref ea)) (v:=.ref ea) I5.CZ B t (.inl i) rfl (λR I6=>?_) (.inr i);refine ud (hh (.ref ea) ZA R _ _ (D.drop j) I6 ay) (λf s7 q=>?_) (λ_ _ z=>z.elim);cases f with
  |next=>
   obtain⟨σ7,H7,I7,d⟩:=q;exact(I7.L5 I.ok).unbind B t i λs' I9=>⟨_,_,I9,d⟩
  |brk=>
   obtain⟨σ7,H7,I7,d⟩:=q;exact(I7.L5 I.ok).unbind B t i λs' I9=>⟨_,_,I9,d⟩
  |cont=>
   obtain⟨σ7,H7,I7,d⟩:=q;exact(I7.L5 I.ok).unbind B t i λs' I9=>⟨_,_,I9,d⟩
  |ret u=>
   obtain⟨v,σ7,H7,I7,r,d⟩:=q;exact(I7.L5 I.ok).unbind B t i λs' I9=>⟨v,_,_,I9,r,d⟩
 .cases f with
  |next=>
   obtain⟨σ7,H7,I7,d⟩:=q;exact yc ⟨_,_,I7.HQ,d⟩
  |brk=>
   obtain⟨σ7,H7,I7,d⟩:=q;exact⟨_,_,I7.HQ,d⟩
  |cont=>
   obtain⟨σ7,H7,I7,d⟩:=q;exact⟨_,_,I7.HQ,d⟩
  |ret u=>
   obtain⟨v,σ7,H7,I7,r,d⟩:=q;exact⟨v,_,_,I7.HQ,r,d⟩⟩
end
section
variable{K:ZJa}{x:Addr}{fill expr:Bool}
structure ExGet (K:ZJa) (C:Addr):Prop where
 ga:PySem.W.findIn K (.ref C) "__getattribute__"=some (some (.builtin "BaseException.__getattribute__"))
 gt:PySem.W.findIn K (.ref C) "__getattr__"=some none
 mb:PySem.W.mroIn K C (.type "BaseException")=some true
theorem ZCe(o:Value):bindSpecial (.builtin "BaseException.__getattribute__") o=pure (.builtin "BaseException.__getattribute__", [o]):=by
 first|rfl|kernel_rfl
theorem i6(X:K.In s.heap)(I:PySem.W.InstAt s.heap x ox C od)(g:ExGet K C)
  (h:wpAny (model prog w) A.in1 (Builtin.«object.__getattribute__» ⟨[.ref x,.str name tk],[]⟩) (λa s'=>match a with | .done (.ret v)=>wpAny (model prog w) A (handedOut v) Q E s'|_=>False) (λ_ _=>False) s) :
  wpAny (model prog w) A (getAttrBy (.ref x) (.str name tk) fill expr) Q E s:=by
 obtain⟨hh,m,d,t,os⟩:=s;have c:=I.type (M:=model prog w);have k:=d7 (M:=model prog w) X g.ga;have j:=d7 (M:=model prog w) X g.gt;have i:=ZIn (M:=model prog w) X g.mb;unfold getAttrBy;refine vH (pK (c.at (pK (k.at ?_))));have l:(Value.builtin "BaseException.__getattribute__" == Value.builtin "object.__getattribute__")=false:=by decide+kernel
 dsimp only;rw[qg (by rw[l,VC];decide)];unfold getAttrByItsOwn hookBefore;rw[tX (show onTheHeap (Value.ref C)=true from rfl)];refine pK (j.at (pK (wpAny_attempt (vH ?_))));unfold callGetattribute;rw[qg (show ¬ (expr && onTheHeap (Value.builtin "BaseException.__getattribute__"))=true by cases expr <;> decide)]
 unfold boundAndCalled;rw[ZCe];refine pK (qm ?_);show wpAny _ _ (call (.builtin "BaseException.__getattribute__") [.ref x,.str name tk]) _ _ _;refine zL (ZAY PySem.F.excAttr_ValueError.ga.plain PySem.F.entry_bexc_ga ?_);have e:builtinKind "BaseException.__getattribute__"=some .slot:=by decide+kernel
 have b:splitId "BaseException.__getattribute__"=some ("BaseException","__getattribute__"):=by decide+kernel
 have f:=PySem.F.args_bexc_ga (.ref x) (.str name tk);simp only[checkBuiltinCall,e,b];unfold isInstance;refine pK (pK (c.at (i.at ?_)));rw[qg (by decide)];refine wpAny_of_eq f ?_;refine ud h (λa s' z=>?_) λ_ _ z=>z.elim;rcases a with(_|_|_|_)|_ <;> first|exact z|exact z.elim
theorem sL(X:K.In s.heap)(I:PySem.W.InstAt s.heap x ox C od)(g:ExGet K C)(a:PySem.W.findObj K C od name=some (.value v))(hh:PySem.W.handedIn v=true)(h:Q v { s with toks:=s.toks+1 }):
  wpAny (model prog w) A (getAttr (.ref x) name expr) Q E s:=by
 unfold getAttr;refine pK (wpAny_mkText (i6 (s:={ s with toks:=s.toks+1 }) X I g ?_))
 obtain⟨e,f,d,t,os⟩:=s;have c:=I.type (M:=model prog w);have b:=ZIm (M:=model prog w) X I a;refine pK (qm (pK (qm (pK (c.at (pK (b.at ?_)))))));refine qm ?_;show wpAny _ _ (handedOut v) _ _ _;rw[ZIj hh];exact qm h
theorem vL{Q:Option Value->Shared->Prop}(X:K.In s.heap)(I:PySem.W.InstAt s.heap x ox C od)(g:ExGet K C)(c:PySem.W.findObj K C od "__class__"=some (.bind (.builtin "getset_descriptor.__get__") (.builtin "object.__class__")))(b:PySem.W.mroIn K C (.type "object")=some true)
  (h:Q (some (.ref C)) { s with toks:=s.toks+1 }):wpAny (model prog w) A (getAttr? (.ref x) "__class__") Q E s:=by
 unfold getAttr? getAttrBy?;refine pK (wpAny_mkText (pK (wpAny_attempt ?_)));refine i6 (s:={ s with toks:=s.toks+1 }) X I g ?_
 obtain⟨a,e,d,t,os⟩:=s;have i:=I.type (M:=model prog w);have f:=ZIm (M:=model prog w) X I c;refine pK (qm (pK (qm (pK (i.at (pK (f.at ?_)))))));show wpAny _ _ (holding [Value.builtin "object.__class__"] (call (.builtin "getset_descriptor.__get__") [.builtin "object.__class__",.ref x,.ref C]) >>= ret) _ _ _;refine pK (vH (zL (PySem.W.class_get (s:=⟨a,e,d,t+1,os⟩) (ox:=ox) (od:=od) X I b ?_)));refine qm ?_;show wpAny _ _ (handedOut (.ref C)) _ _ _;rw[ZIj rfl];exact qm (qm h)
end
structure Oa (K:ZJa) (C:Addr):Prop extends ExGet K C where
 cl:(PySem.W.clsIn K C).isSome=true
 gc:PySem.W.findIn K (.ref C) "__class__"=some (some (.builtin "object.__class__"))
 gn:PySem.W.specialIn K (.builtin "object.__class__") "__get__"=some (some (.builtin "getset_descriptor.__get__"))
 tk:PySem.W.takesIn K (.builtin "object.__class__")=some true
 mo:PySem.W.mroIn K C (.type "object")=some true
theorem ZAl{K:ZJa}{a g:Value}(b:(PySem.W.clsIn K C).isSome=true)(e:PySem.W.findIn K (.ref C) name=some (some a))(d:PySem.W.specialIn K a "__get__"=some (some g))(c:PySem.W.takesIn K a=some true):PySem.W.findObj K C od name=some (.bind g a):=by
 obtain⟨cd,b⟩:=Option.isSome_iff_exists.mp b;unfold PySem.W.findObj;rw[b,pC,e,pC];simp[d,c]
theorem wL{K:ZJa}{x:Addr}(g:Oa K C):PySem.W.KitX K (.ref x) (.ref C) (λh=>∃ox od,PySem.W.InstAt h x ox C od) where
 ty:=λ_ _ _ AU=>by obtain⟨_,_,I⟩:=AU;exact I.type
 it:=λ_ _ X _=>by
  obtain⟨b,IW⟩:=Option.isSome_iff_exists.mp g.cl;unfold PySem.W.clsIn at IW;split at IW
  .rename_i c' d' xo Vc ho;intro A' Q' E' s' k q;unfold isType loadHead;exact pK (ZBJ (k _ _ (X _ _ ho)) (qm q))
  .cases IW
 ne:=λh tp dd A5 n sl X a=>by
  obtain⟨b,IW⟩:=Option.isSome_iff_exists.mp g.cl;refine Bool.eq_false_iff.mpr λq=>?_;have e:C=tp:=Value.ref.inj (beq_iff_eq.mp q);subst e;unfold PySem.W.clsIn at IW;split at IW
  .rename_i c' d' xo Vc ho;have z:=(X _ _ ho).symm.trans a;cases z
  .cases IW
 ca:=λX⟨_,_,I⟩k=>vL X I g.toExGet (ZAl g.cl g.gc g.gn g.tk) g.mo k
theorem ZBO{h:Heap}(e:∃ob vs,h.get? a=some ob/\ob.cls=.ref C/\ob.dict=dx/\ob.data=.fields vs)(hd:∀d,dx=some d->∃o,h.get? d=some o):∃ox od,PySem.W.InstAt h a ox C od:=by
 obtain⟨ob,vs,h1,h2,c,b⟩:=e;cases dx with
 |none=>exact⟨ob,none,h1,h2,by unfold PySem.W.notCls;rw[b],by rw[c];trivial⟩
 |some d=>
  obtain⟨o,ho⟩:=hd d rfl;exact⟨ob,some o,h1,h2,by unfold PySem.W.notCls;rw[b],by rw[c];exact ho⟩
def Vt:V->Value->Prop
 | .ty n,c=>c=.type n
 | .ref S,c=>c=.ref S
 |_,_=>False
def my(K:ZJa)(H:Hp)(x:V)(t:Value):Prop:=FC K H x t∨∃a C dx,x=.ref a/\t=.ref C/\H a=some (Fz.IF a C dx)/\Oa K C/\∀d,dx=some d->∃fs,H d=some (.xd fs)
def Ud(K:ZJa):List V->Hp->VK->Prop:=λxs H Q=>∃(x cv:V)(c t:Value)(b:Bool),xs=[x,cv]/\Vt cv c/\my K H x t/\PySem.W.kitOne K t c=some b/\Q (.bl b) H
theorem EY:DQ X (.builtin "isinstance") (Ud X.K):=by
 intro ZA s Z H xs us Q I r h;obtain⟨x,cv,c,t,b,rfl,i,ty,e,q⟩:=h;obtain⟨u,p,rfl,k,j⟩:=vals2 r;have o:p=c:=by
  cases cv with
  |ty n=>cases j;exact i.symm
  |ref S=>cases j;exact i.symm
  |_=>exact i.elim
 subst o;have f:∀tk,EP X ZA Z Q (.bool b) { s with toks:=tk }:=λtk=>⟨.bl b,H,I.tok tk,rfl,q⟩
 rcases ty with ty|⟨a,C,dx,rfl,rfl,ha,g,hd⟩
 .exact lZ I k ty e f
 .cases k;have ok:=(I.AH a _ ha).1;exact Ip (wL g) I.Bv (ZBO ok λd m=>by obtain⟨fs,l⟩:=hd d m;exact I.AH.there l) e (λz=>nomatch z) f
def aC(K:ZJa)(ta:TE)(f:Str):TE:=λZ H Q=>ta Z H λx H1=>∃a C dx fs v,x=.ref a/\H1 a=some (Fz.IF a C (some dx))/\H1 dx=some (.xd fs)/\ExGet K C/\PySem.W.hasDictIn K C=true/\BV K C f/\fs.lookup f=some v/\Q v H1
section
variable{f:Str}
theorem UN(c:QE X e ta)(l:attributeBase e f X.env (eval e X.env)=eval e X.env:=by rfl):QE X (.Attribute e f pos) (aC X.K ta f):=⟨by
 have c:=c.h;intro ZA s Z H Q I h;refine iY l (c.k I h λu s1 x H1 I1 g z=>?_);obtain⟨a,C,dx,fs,v,rfl,ea,p,z⟩:=z;obtain rfl:u=Value.ref a:=g;obtain⟨ob,vs,h1,h2,n,m⟩:=(I1.AH a _ ea).1;obtain⟨mA,ns,r⟩:=I1.AH dx _ p;obtain⟨od,b,i⟩:=jJ ns;obtain⟨u,j,d⟩:=EX.some_of (v:=v) (o:=mA f) (by rw[<- z.2.2.2.1];exact r f);have J:PySem.W.InstAt s1.heap a ob C (some od):=⟨h1,h2,by unfold PySem.W.notCls;rw[m],by rw[n];exact b⟩;exact sL I1.Bv J z.1 (ZIi z.2.1 z.2.2.1 rfl (by rw[i f,j])) (jo d) ⟨v,H1,I1.tok _,d,z.2.2.2.2⟩⟩
end
end L2
namespace Fz
open L2 Lw
variable{xs:List PV}{E:Ent0}{ss:List Slot}{Z:L2.St}{F F' H H':Hp}{ta tb tc te:TE}{tp:Bool}{nx:List Slot->Prop}{R:Ad}{α:Type}
structure Kb (K:ZJa) (a:Addr) (xs:List PV):Prop where
 KH:xs.all flat=true
 sq:∀H,AW K H a (xs.map Fz.enc)
 ob:∃o:Obj,K.lookup a=some o/\o.cls=.type "tuple"
theorem Kb.of{K:ZJa}{a:Addr}{vs:List V}(h:∀H,AW K H a vs)(e:xs.map Fz.enc=vs)(f:xs.all flat=true):Kb K a xs:=by
 subst e;refine⟨f,h,?_⟩;rcases h (λ_=>none)with h|⟨o,A5,n,h1,h2,_⟩
 .rcases h with h|⟨_,h⟩
  .cases h
  .cases h
 .exact⟨o,h1,h2⟩
theorem ZHM(ms:List α)(x:α)(j:Nat):(ms.take j++x::ms.drop j).Perm (x::ms):=by
 have h:=List.perm_middle (a:=x) (l₁:=ms.take j) (l₂:=ms.drop j)
 rwa [LR]at h
theorem Vy{ms:List Str}{x:Str}(j:Nat)(h:ms.Nodup)(hx:x∉ms):(ms.take j++x::ms.drop j).Nodup:=(ZHM ms x j).nodup_iff.mpr (List.nodup_cons.mpr ⟨hx,h⟩)
theorem xK(xs:List α){i j:Nat}(hi:i<=j)(a:j<=xs.length):Fs xs (some (i:Int)) (some (j:Int))=(xs.drop i).take (j - i):=by
 unfold Fs;rw[HT.LP,HT.LP,KD a,KD (Bi hi a)]
theorem gF(ns:List Str)(x:Str):(ns.filter λy=>!alike (.str y) (.str x))=wo ns x:=by
 unfold wo alike;rfl
section
variable[Xw]
variable{F1:Hp}{K:ZJa}{js:List Nat}{ti:TE}{k:PV->Prop}
theorem Pa{i:Nat}(hi:ss[i]?=some .AS)(h:Wq ss ta λtp xs=>tp=false/\∃ns:List Str,xs=ns.map PV.str/\(∀x∈ns,Nm x)/\ns.length<=1000/\∀x:Str,Nm x->x∉ns->k (.str x)):
  Wp ss (ES (MR K) [] E0 (An (BW i) (An ta BQ))) k:=⟨λE Z F H Q S q=>by
 obtain⟨p,e,_⟩:=S.ok i _ hi;refine⟨_,e,h.go E Z F H _ S λv tp xs F1 H1 a sv⟨g,ns,ex,d,c,kk⟩=>?_⟩;subst g;subst ex;obtain⟨l,vs,f,hn,b,r⟩:=sv;subst f;rw[r.strs]at b;exact⟨p,l,ns,rfl,a.st.FW hi e,b,λz=>hn i hi (z▸e),d,c,λx H3 hx GB s=>q _ _ F1 H3 (a.trans (a.st.ZI hi e s)) (.str x) (kk x hx GB)⟩⟩
noncomputable def Mt:Option Str->PV
 |none=>.A9
 |some x=>.str x
def dr:Pre:=λl R=>∃(ns:List Str)(r:Str),l=[.sq false (ns.map .str),.is (.str r)]/\ns.length<64/\R=.is λp=>∃ts:List Str,ts.Perm ns/\sortedS ts=true/\p=Ey r 0 ts
end
end Fz
namespace Fz
open L2 Lw
variable{E:Ent0}{AI ss:List Slot}{Z σ':L2.St}{F F' H H':Hp}{te:TE}{cv v:V}{b tp:Bool}{nx:List Slot->Prop}{R:Ad}{j n:Nat}{vs:List V}{Q:VK}{X:XK}
abbrev EG:=List Slot->Ad->(Ex->Prop)->Prop
def C6(pre:EG):Sp:=λvs H Q X=>∃(ss:List Slot)(R:Ad)(D:Ex->Prop)(F:Hp)(A:List Addr),pre ss R D/\Sg (E3 A F H) ss (vs.map some) F H/\(∀v F' H',Fin (E3 A F H) F' H'->R.ok (E3 A F H) F' H' v->Q v H')/\
 ∀(x:Ex)(C:Value)(dx:Option Addr)F' H',Fin (E3 A F H) F' H'->D x->x.at F' C dx->X C dx H'
@[reducible] noncomputable def T8 (X:XK) (D:Ex->Prop):Xw:=⟨λ_=>X,λ_=>True,D⟩
@[reducible] noncomputable def HZ (E:Ent0) (J:List Slot->Prop) (D:Ex->Prop):Xw:=⟨λZ C dx H=>∃ss F x,J ss/\Sg E ss Z F H/\D x/\x.at F C dx,J,D⟩
def tD:PV->Prop
 | .str x=>(reprText x).length<=100000
 | .int i=>i.natAbs.log2<1920
 |_=>False
section
variable[Xw]
variable{pre:EG}{t:TA}{k:PV->Prop}{K:ZJa}{C S:Addr}{fld:Str}
theorem Gj(h:Wa ss t λl=>∃k' D,pre l (.is k') D/\Xw.J ss/\(∀x,D x->Xw.D x)/\∀p,k' p->k p):Wp ss (OR (C6 pre) Xw.e t) k:=⟨λE Z F H Q S q=>
 h.go E Z F H _ S λvs l F1 H1 b a⟨k',D,c,g,i,kk⟩=>by
  refine⟨l,.is k',D,F1,[],c,b.st.Nf a,λv F' H' f⟨p,r,kp⟩=>?_,λx C dx F' H' f d B5=>?_⟩
  .exact q v p F' H' (b.trans (b.st.back (λ_ h=>absurd h BA) f)) r (kk p kp)
  .exact E.hx ss Z F' H' x C dx g (b.st.back (λ_ h=>absurd h BA) f).st (i x d) B5⟩
theorem uH(h:We ss t λps=>ps.length<=1000/\Xw.J ss/\Xw.D ⟨C,[],[]⟩):Ws ss (aE C Xw.e t) nx R:=⟨λE D Z F H S hn f=>
 h.go E Z F H _ S λvs ps F1 H1 a rs AU=>by obtain⟨b,c,d⟩:=AU;exact⟨by rw[rs.length];exact b,E.hx ss Z F1 H1 ⟨C,[],[]⟩ (.ref C) none c a.st d ⟨rfl,.inl ⟨rfl,rfl,rfl⟩⟩⟩⟩
theorem GC(h:Wp ss te λp=>tD p/\Xw.J ss/\Xw.D ⟨C,[fld],[p]⟩):Ws ss (Uw C fld Xw.e (An te BQ)) nx R:=⟨λE D Z F H S hn g=>
 h.go E Z F H _ S λv p F1 H1 b r AU=>by
  obtain⟨sp,c,f⟩:=AU;refine⟨v,rfl,?_,λd hd=>?_⟩
  .cases r <;> first|exact sp|exact sp.elim
  .have a:=b.st.alloc hd (.xd [(fld,v)]);exact E.hx ss Z _ _ ⟨C,[fld],[p]⟩ (.ref C) (some d) c a.st f ⟨rfl,.inr ⟨d,[v],rfl,AX,rfl,.cons (r.mono a.ff) .nil⟩⟩⟩
end
section
variable{pre:EG}
theorem ZHb{N:List Str}{t:TS}(h:C6 pre vs H Q X)(g:∀ss R D,pre ss R D->ss.length=n)
  (hw:∀ss R D,pre ss R D->let _i:Xw:=T8 X D;Ws (ss++List.replicate (N.length - n) .any) t (λ_=>∃k,R=.is k/\k .A9) R):t { nx:=λ_ H'=>Q .A9 H',rt:=Q } (L2.start N vs) H:=by
 obtain⟨ss,R,D,F,A,a,S,q,b⟩:=h;have e:vs.length=n:=by have:=S.len;rw[AK]at this;rw[<- this];exact g ss R D a
 unfold L2.start;rw[e];letI:Xw:=T8 X D;refine(hw ss R D a).go ⟨E3 A F H,λAI σ' F' H' x C dx _ S' d B5=>b x C dx F' H' S'.toFin d B5⟩ _ _ F H (S.grown _) (λAI σ' F' H'⟨k,e,c⟩S' _=>?_) λv F' H' f ok=>q v F' H' f ok;subst e;exact q .A9 F' H' S'.toFin ⟨.A9,.A9,c⟩
theorem ZA3(b:∀ss R D,pre ss R D->ss.length=n)(h:C6 pre vs H Q X):vs.length=n:=by
 obtain⟨ss,R,D,F,A,a,S,q⟩:=h;have:=S.len;rw[AK]at this;rw[<- this];exact b ss R D a
noncomputable abbrev Ent0.at(E:Ent0)(F:Hp):Ent0:=⟨E.A,F,E.H0,E.B⟩
theorem Fin.un(S:Fin E F H)(f:Fin (E.at F) F' H'):Fin E F' H':=⟨f.fh,S.f0.trans f.f0,f.keep,λa o e=>(f.fresh a o e).elim (λe=>S.fresh a o e) .inr,f.HP,f.Ll,f.a0,f.bF,f.bH,f.b0⟩
theorem Ok.un{G:Hp}{s:Slot}{o:Option (Option V)}:Ok (E.at G) F H s o↔Ok E F H s o:=by
 cases s with
 |sq tp xs=>cases tp <;> exact Iff.rfl
 |_=>exact Iff.rfl
theorem Sg.un(S:Sg E ss Z F H)(S':Sg (E.at F) AI σ' F' H'):Sg E AI σ' F' H':=⟨S.toFin.un S'.toFin,S'.len,λi s hi=>Ok.un.mp (S'.ok i s hi),S'.CJ⟩
theorem Sg.mV(S:Sg E ss Z F H):Sg (E.at F) ss Z F H:=⟨⟨S.fh,AD.refl _,S.keep,λ_ _ e=>.inl e,S.HP,S.Ll,S.a0,S.bF,S.bH,S.b0⟩,S.len,λi s hi=>Ok.un.mpr (S.ok i s hi),S.CJ⟩
theorem Ad.un{G:Hp}(h:R.ok (E.at G) F H v):R.ok E F H v:=by
 cases R <;> exact h
theorem Sg.ZA1(S:Sg E ss Z F H)(j:Nat):Sg E (ss.set j .any) (Z.set j none) F H:=by
 have at_:∀(i:Nat)(s:Slot),(ss.set j .any)[i]?=some s->s=.any∨(i≠j/\ss[i]?=some s):=λi s hi=>by
  by_cases q:i=j
  .subst q
   by_cases d:i<ss.length
   .rw[Cs d]at hi;cases hi;exact .inl rfl
   .rw[LQ (by rw[KA];omega)]at hi;cases hi
  .rw[CO (BU q)]at hi;exact .inr ⟨q,hi⟩
 refine⟨S.toFin,by rw[KA,KA];exact S.len,λi s hi=>?_,λi k u w l O4 hi c b a=>?_⟩
 .rcases at_ i s hi with rfl|⟨q,hi⟩
  .trivial
  .rw[CO (BU q)];exact S.ok i s hi
 .rcases at_ i u hi with rfl|⟨q,hi⟩
  .exact b
  .rcases at_ k w c with rfl|⟨q2,c⟩
   .exact a
   .rw[CO (BU q)]at b;rw[CO (BU q2)]at a;exact S.CJ i k u w l O4 hi c b a
end
section
variable[Xw]
variable{K:ZJa}{S:Addr}{tb:(L2.St->XK)->TS}{th:TS}
theorem zT(J:List Slot->Prop)(Dx:Ex->Prop)(l:∀E:Ent0,@Ws (HZ E J Dx) ss (tb (HZ E J Dx).e) nx R)
  (hh:∀IQ x,J IQ->Dx x->PySem.W.exmOne K (.ref x.C) (.ref S)=some true/\Ws (IQ.set j (.is (.exc x.C x.ns x.xs))) th (λDt=>nx (Dt.set j .any)) R):Ws ss (Ze K S j tb th) nx R:=⟨λE D Z F H S0 hn i=>by
 refine⟨(HZ (E.toEnt0.at F) J Dx).e,@Ws.go (HZ (E.toEnt0.at F) J Dx) _ _ _ _ (l (E.toEnt0.at F)) (@Ent.mk (HZ (E.toEnt0.at F) J Dx) (E.toEnt0.at F) λss Z F H x C dx b S d B5=>⟨ss,F,x,b,S,d,B5⟩) D Z F H S0.mV (λAI σ' F' H' n S' ff=>hn AI σ' F' H' n (S0.un S') ff) (λv F' H' f ok=>i v F' H' (S0.toFin.un f) (Ad.un ok)),λσ1 C dx ea H1 k MT=>?_⟩;obtain⟨IQ,F1,x,b,S1,o,p,B5⟩:=k;obtain⟨Kr,hw⟩:=hh IQ x b o;cases p;have s:=S0.un S1;have m:=s.alloc MT (IF ea x.C dx);have r:Rep (upd F1 ea (IF ea x.C dx)) (.ref ea) (.exc x.C x.ns x.xs):=by
  rcases B5 with⟨h,g,c⟩|⟨a,vs,h,g,c,q⟩
  .subst c;rw[h,g];exact .N7 AX
  .subst h;exact .exc AX (m.ff _ _ g) c (q.mono m.ff)
 exact⟨Kr,hw.go E (D.drop j) _ _ _ (m.st.FP r) (λDt σ2 F3 H3 n2 S2 ff=>hn _ _ F3 H3 n2 (S2.ZA1 j) (S1.f0.trans (m.ff.trans ff))) λv F' H' f ok=>i v F' H' f ok⟩⟩
end
def jg(K:ZJa)(p:PV)(t:Value):Prop:=match p with
 | .exc C _ _=>t=.ref C/\Oa K C
 |p=>t=Mb p
section
variable[Xw]
variable{K:ZJa}{k:PV->Prop}{fld:Str}
theorem Rep.uT{p:PV}{t c:Value}(s:AD F H)(r:Rep F v p)(h:jg K p t)(k:PySem.W.kitOne K t c=some b)(f:∀C ns xs,p≠.obj C ns xs)(hn:∀a xs,p≠.con a xs):my K H v t:=by
 cases r with
 |A9=>cases(show t=.type "NoneType" from h);exact .inl .A9
 |bl b=>cases(show t=.type "bool" from h);exact .inl (.bl b)
 |int i=>cases(show t=.type "int" from h);exact .inl (.int i)
 |str x=>cases(show t=.type "str" from h);exact .inl (.str x)
 |lst e _=>cases(show t=.type "list" from h);exact .inl (.lst (s _ _ e))
 |tup e _=>cases(show t=.type "tuple" from h);exact .inl (.tup (s _ _ e))
 |B2 e _ _=>cases(show t=.type "dict" from h);exact .inl (.dK (s _ _ e))
 |obj _ _ _ _=>exact absurd rfl (f _ _ _)
 |con=>exact absurd rfl (hn _ _)
 |N7 e=>
  obtain⟨rfl,g⟩:=h;exact .inr ⟨_,_,none,rfl,rfl,s _ _ e,g,λd z=>by cases z⟩
 |exc e j _ _=>
  obtain⟨rfl,g⟩:=h;exact .inr ⟨_,_,_,rfl,rfl,s _ _ e,g,λd z=>by cases z;exact⟨_,s _ _ j⟩⟩
theorem zZ(h:Wp ss te λp=>((∀C ns xs,p≠.obj C ns xs)/\∀a xs,p≠.con a xs)/\∃t c b,Vt cv c/\jg K p t/\PySem.W.kitOne K t c=some b/\k (.bl b)):Wp ss (DH (Ud K) (An te (An (tC cv) BQ))) k:=⟨λE Z F H Q S q=>
 h.go E Z F H _ S λv p F1 H1 d r AU=>by obtain⟨⟨h1,h2⟩,t,c,b,g,f,e,kk⟩:=AU;exact⟨v,cv,c,t,b,rfl,g,r.uT d.st.fh f e h1 h2,e,q _ _ F1 H1 d (.bl _) kk⟩⟩
theorem UL(h:Wp ss te λp=>∃C x,p=.exc C [fld] [x]/\ExGet K C/\PySem.W.hasDictIn K C=true/\BV K C fld/\k x):Wp ss (aC K te fld) k:=⟨λE Z F H Q S q=>
 h.go E Z F H _ S λv p F1 H1 b r AU=>by
  obtain⟨C,x,rfl,z⟩:=AU;rcases r.inv with⟨_,_,_,y,_⟩|⟨a,dx,vs,rfl,g,f,_,e⟩
  .cases y
  obtain⟨u,ws,rfl,c,d⟩:=e.inv;cases d.DZ;exact⟨a,C,dx,_,u,rfl,b.st.fh _ _ g,b.st.fh _ _ f,z.1,z.2.1,z.2.2.1,by simp[List.zip,List.lookup],q _ _ F1 H1 b c z.2.2.2⟩⟩
end
end Fz
namespace L2
variable{C:Addr}{X:Cx}
noncomputable def OY(s:Stmt):Stmt:=match s with
 | .ClassDef _ _ _ (d::_) ..=>d
 |s=>s
def Es(P:Program)(w:World)(K:ZJa)(mg:ZJc)(ZB:Heap)(C:Addr)(fld:Str):Prop:=
 ∃(fI:Addr)(fd:FuncData)(par:Str),J4 K C fI fld/\CQ P w K mg ZB DW 1 fI fd ["self", par] (N4 C fld)/\Binds K fd ["self", par] []
theorem N9{fld:Str}{a b:Str}:∀vs H Q E,N4 C fld vs H Q E->vs.length=[a,b].length:=λvs H Q E h=>by obtain⟨ea,v,rfl,_⟩:=h;rfl
theorem OL{fld:Str}{vs:List V}{H:Hp}{Q:VK}{E:XK}{N:List Str}(a:N.length=2)(h:N4 C fld vs H Q E):
  MG (Kv (ke C (An (BW 0) (An (Yl (BW 1)) BQ)))) (MG (iS C fld (BW 0) (BW 1)) T1) { nx:=λ_ H'=>Q .A9 H',rt:=Q } (start N vs) H:=by
 obtain⟨ea,v,rfl,sv,hx,q⟩:=h;have e0:(start N [V.ref ea,v])=[some (.ref ea),some v]:=by
  unfold start;simp[a]
 rw[e0];refine⟨_,rfl,_,rfl,sv,λy=>⟨ea,_,rfl,hx,?_⟩⟩;refine⟨_,rfl,_,rfl,ea,rfl,hx,λd hd=>q d hd⟩
theorem TK:Goes X (λ_=>E0):=λ_ _ _ _ _ _ _ _ _ _ _ _ _ h=>h.elim
section
variable{x:Str}{fld:Str}{E:St->XK}{np Be pos:Pos}{e0:Expr}{t:TA}{j:Nat}
theorem JI(c:Es X.prog X.w X.K X.mg X.base C fld)(f:Gl X x)(d:X.mg x=some (.ref C))(b:Ba j X.A)(e:2<=j)(g:X.calm=true)(a:X.ex=[])(go:Goes X E)(i:QA X [e0] t)
  (BN:Zq0 x:=by decide) (he:Ce X e0 []:=by rfl) (BZ:BEq X Be []:=by rfl) :
  QS X (.Raise (some (.Call (.Name x np) [e0] [] Be)) none pos) (Uw C fld E t):=by
 obtain⟨fI,fd,par,k,Fn,h⟩:=c;exact zU k f d Fn h (b.mono e) g a go i BN he BZ
end
end L2
namespace Fz
open L2 Lw
variable{b neg:Bool}{c:TT}{i j n:Nat}{C S a a0:Addr}{cs:List Addr}{l ss:List Slot}{ta tb te:TE}{N ms ns:List Str}{x:Str}{F F' H H':Hp}{t t' u:OV}{pre:Pre}{Z:L2.St}{E:Ent0}{vs:List V}{nk:NK}{us:List OV}{Q:VK}{X:XK}
theorem xh{b c n:Int}(d:1<=b)(a:b<=c)(hn:0<=n):∃m:Nat,(if(if c<n then c else n) > b then(if c<n then c else n)else b)=(m:Int)/\(m:Int)<=c:=by
 have h:∀z:Int,1<=z->z<=c->∃m:Nat,z=(m:Int)/\(m:Int)<=c:=λz e h1=>⟨z.toNat,by omega,by omega⟩;apply h
 .split
  .omega
  .omega
 .split
  .split <;> omega
  .omega
noncomputable def M0(K:ZJa)(C:Addr):Bool:=PySem.W.findIn K (.ref C) "__getattribute__" == some (some (.builtin "BaseException.__getattribute__")) && (PySem.W.findIn K (.ref C) "__getattr__" == some none && (PySem.W.mroIn K C (.type "BaseException") == some true && ((PySem.W.clsIn K C).isSome && (PySem.W.findIn K (.ref C) "__class__" == some (some (.builtin "object.__class__")) && (PySem.W.specialIn K (.builtin "object.__class__") "__get__" == some (some (.builtin "getset_descriptor.__get__")) && (PySem.W.takesIn K (.builtin "object.__class__") == some true && PySem.W.mroIn K C (.type "object") == some true))))))
theorem R4{K:ZJa}(h:M0 K C=true):Oa K C:=by
 unfold M0 at h;simp only[Dm,ZBY]at h;obtain⟨h1,h2,f,e,d,c,b,a⟩:=h;exact⟨⟨h1,h2,f⟩,e,d,c,b,a⟩
def OZ(K:ZJa)(cs:List Addr)(S C:Addr)(i:Nat):Bool:=M0 K C && (PySem.W.kitOne K (.ref C) (.ref S) == some true && (PySem.W.kitOne K (.ref C) (.type "ValueError") == some true && (List.range cs.length).all λj=>PySem.W.kitOne K (.ref C) (.ref (cs.getD j 0)) == some (decide (j=i))))
structure YI (K:ZJa) (cs:List Addr) (S C:Addr) (i:Nat):Prop where
 ex:Oa K C
 st:PySem.W.kitOne K (.ref C) (.ref S)=some true
 ve:PySem.W.kitOne K (.ref C) (.type "ValueError")=some true
 at_:∀j,j<cs.length->PySem.W.kitOne K (.ref C) (.ref (cs.getD j 0))=some (decide (j=i))
theorem gH{K:ZJa}(h:OZ K cs S C i=true):YI K cs S C i:=by
 unfold OZ at h;simp only[Dm,ZBY,Im]at h;obtain⟨h1,h2,c,b⟩:=h;exact⟨R4 h1,h2,c,λj a=>b j (List.mem_range.mpr a)⟩
theorem ZHg(bs:List Bool):(bs.map V.bl).all DR=true:=by
 rw[Im];intro x hx;obtain⟨y,_,rfl⟩:=List.mem_map.mp hx;rfl
section
variable[Xw]
variable{K:ZJa}{k:PV->Prop}
theorem dJ(c:Kb K a (ns.map .str))(h:Wp ss ta λp=>∃x,p=.str x/\k (.bl (if neg then !decide (x∈ns)else decide (x∈ns)))):Wp ss (CB (Lr K neg) ta (tC (.ref a))) k:=⟨λE Z F H Q S q=>
 h.el E S λx F1 H1 b kk=>by
  have sq:=c.sq H1;rw[Xx]at sq;refine⟨a,ns.map V.str,rfl,.inr sq,rfl,K2 ns,?_⟩;rw[SV];exact q _ _ F1 H1 b (.bl _) kk⟩
theorem ZDM(h:Wq ss ta λtp xs=>tp=false/\∃bs:List Bool,xs=bs.map PV.bl/\Wp ss tb λq=>∃b,q=.bl b/\k (.int (PY (.bl b) (bs.map V.bl)))):Wp ss (NW K "list" (ak K) ta (An tb BQ)) k:=⟨λE Z F H Q S q=>
 h.go E Z F H _ S λv tp xs F1 H1 c sv⟨i,bs,e,h2⟩=>by
  subst i;subst e;obtain⟨l,vs,rfl,g,r⟩:=sv.seq c.st;refine⟨.inl ⟨rfl,_,Ab.of g⟩,h2.go E Z F1 H1 _ c.st λn p2 F2 H2 a d⟨b,j,kk⟩=>?_⟩;subst j;cases d.inv;obtain⟨o,Ca,m,CM,f⟩:=(sv.mv a).seq a.st;cases m;rw[f.zY]at CM;exact⟨l,_,_,rfl,rfl,Ab.of CM,rfl,ZHg bs,q _ _ F2 H2 (c.trans a) (.int _) kk⟩⟩
end
noncomputable def J0(r:Str):Bool:=decide (r∈([("none":Str), "ahead","all"]))
noncomputable def jk(C:Addr)(r:Str):Ex:=⟨C,["rule"],[.str r]⟩
def nU(C:Addr):EG:=λl R D=>∃r:Str,l=[.is (.str r)]/\(reprText r).length<=100000/\(R=.is λp=>p=.A9/\J0 r=true)/\D=λx=>x=jk C r/\J0 r=false
def ZFU(r:Str)(ns:List Str)(p:PV):Prop:=J0 r=true/\∃ts:List Str,ts.Perm ns/\sortedS ts=true/\p=.tup [.str r,.int 0,.tup (ts.map .str)]
def mT(C:Addr):EG:=λl R D=>∃(tp:Bool)(ns:List Str)(r:Str),l=[.sq tp (ns.map .str),.is (.str r)]/\ns.length<64/\(reprText r).length<=100000/\(R=.is (ZFU r ns))/\D=λx=>x=jk C r/\J0 r=false
section
variable[Xw]{K:ZJa}{xs:List PV}{k:PV->Prop}
theorem bA{cv:V}{c:Value}(ex:Oa K C)(a:ss[j]?=some (.is (.exc C ms xs)))(d:Vt cv c)(e:PySem.W.kitOne K (.ref C) c=some b)(kk:k (.bl b)):Wp ss (DH (Ud K) (An (BW j) (An (tC cv) BQ))) k:=
 zZ (A8 a ⟨⟨λ_ _ _ z=>PV.noConfusion z,λ_ _ z=>PV.noConfusion z⟩,_,_,_,d,⟨rfl,ex⟩,e,kk⟩)
theorem Ew(al:YI K cs S C i)(b:cs.length=16)(n:Nat)(a:ss[j]?=some (.is (.exc C ms xs)))(kk:k (.bl (decide (n=i))))(hn:n<16:=by decide):Wp ss (DH (Ud K) (An (BW j) (An (tC (.ref (cs.getD n 0))) BQ))) k:=
 bA al.ex a rfl (al.at_ n (b▸hn)) kk
end
def mr(K:ZJa)(cs:List Addr)(S:Addr):Pre:=λl R=>∃(C:Addr)(ms:List Str)(xs:List PV)(i:Nat),l=[.is (.exc C ms xs),.is (.int i)]/\YI K cs S C i/\i<cs.length/\cs.length=16/\R=.is λp=>p=.bl true
theorem kg:∀i:Nat,i<16->i=0∨i=1∨i=2∨i=3∨i=4∨i=5∨i=6∨i=7∨i=8∨i=9∨i=10∨i=11∨i=12∨i=13∨i=14∨i=15:=by decide
theorem ZGt(h:i<16):PY (.bl true) (List.map V.bl [decide (0=i),decide (1=i),decide (2=i),decide (3=i),decide (4=i),decide (5=i),decide (6=i),decide (7=i),decide (8=i),decide (9=i),decide (10=i),decide (11=i),decide (12=i),decide (13=i),decide (14=i),decide (15=i)])=1:=by
 rcases kg i h with rfl|rfl|rfl|rfl|rfl|rfl|rfl|rfl|rfl|rfl|rfl|rfl|rfl|rfl|rfl|rfl <;> rfl
theorem ZDR(h:i<16):L2.Bt [PV.bl (decide (0=i)),PV.bl (decide (1=i)),PV.bl (decide (2=i)),PV.bl (decide (3=i)),PV.bl (decide (4=i)),PV.bl (decide (5=i)),PV.bl (decide (6=i)),PV.bl (decide (7=i)),PV.bl (decide (8=i)),PV.bl (decide (9=i)),PV.bl (decide (10=i)),PV.bl (decide (11=i)),PV.bl (decide (12=i)),PV.bl (decide (13=i)),PV.bl (decide (14=i)),PV.bl (decide (15=i))] (i:Int)=some (.bl true):=by
 rcases kg i h with rfl|rfl|rfl|rfl|rfl|rfl|rfl|rfl|rfl|rfl|rfl|rfl|rfl|rfl|rfl|rfl <;> rfl
theorem iz(h:x.length<=100)(hx:∀c∈x.cps.toList,c<16 ^ 8):(reprText x).length<=100000:=by
 have:=PySem.StrLaws.reprText_len x hx;omega
theorem pW(h:Nm x):(reprText x).length<=100000:=iz (Bi h.2.1 (by decide)) λc a=>Io (h.2.2 c a).2 (by decide)
noncomputable def KZ:PV->Bool
 | .A9=>true
 |_=>false
theorem Rep.KZ{v:V}{p:PV}(r:Rep F v p):decide (v=.A9)=KZ p:=by
 cases r <;> rfl
section
variable[Xw]
variable{k:PV->Prop}
theorem gs(h:Wp ss ta λp=>Wp ss tb λq=>q=.A9/\k (.bl (KZ p))):Wp ss (CB (λx y H Q=>y=.A9/\Q (.bl (decide (x=.A9))) H) ta tb) k:=⟨λE Z F H Q S q=>
 h.go E Z F H _ S λv p F1 H1 a c h2=>h2.go E Z F1 H1 _ a.st λf p2 F2 H2 d b AU=>by
  obtain⟨e,kk⟩:=AU;subst e;cases b.inv;refine⟨rfl,?_⟩;rw[c.KZ];exact q _ _ F2 H2 (a.trans d) (.bl _) kk⟩
theorem TV(h:Wp ss ta λp=>Wp ss tb λq=>q=.A9/\k (.bl (!KZ p))):Wp ss (CB (λx y H Q=>y=.A9/\Q (.bl (!decide (x=.A9))) H) ta tb) k:=⟨λE Z F H Q S q=>
 h.go E Z F H _ S λv p F1 H1 a c h2=>h2.go E Z F1 H1 _ a.st λf p2 F2 H2 d b AU=>by
  obtain⟨e,kk⟩:=AU;subst e;cases b.inv;refine⟨rfl,?_⟩;rw[c.KZ];exact q _ _ F2 H2 (a.trans d) (.bl _) kk⟩
variable{K:ZJa}{t u:TE}{pre:EG}{tA:TA}
theorem ZFJ(h:Wp ss t k):Wp ss (Xh t u) k:=⟨λE Z F H Q S q=>.inl (h.go E Z F H Q S q)⟩
theorem ZD9(h:Wp ss u k):Wp ss (Xh t u) k:=⟨λE Z F H Q S q=>.inr (h.go E Z F H Q S q)⟩
theorem vy(h:Wq ss ta λtp xs=>tp=true/\∃ns:List Str,xs=ns.map PV.str/\Wp ss tb λp=>∃x,p=.str x/\x∈ns/\k (.int (ns.idxOf x:Nat))):Wp ss (NW K "tuple" (jW K) ta (An tb BQ)) k:=⟨λE Z F H Q S q=>
 h.go E Z F H _ S λv tp xs F1 H1 b sv⟨g,ns,e,h2⟩=>by
  subst e;subst g;obtain⟨l,vs,rfl,f,r⟩:=sv.seq b.st;refine⟨.inr (.inr (.inr (.inr ⟨rfl,_,f⟩))),h2.go E Z F1 H1 _ b.st λm p2 F2 H2 a c⟨x,i,hx,kk⟩=>?_⟩;subst i;cases c.inv;obtain⟨n,Ca,j,CM,d⟩:=(sv.mv a).seq a.st;cases j;rw[d.strs]at CM;exact⟨l,ns,x,rfl,rfl,AW.of CM,hx,q _ _ F2 H2 (b.trans a) (.int _) kk⟩⟩
theorem TN(h:Wp ss te λp=>∃x,p=.str x/\x.length<=1000/\k (.bl (isNm x))):Wp ss (ES MS [] E0 (An te BQ)) k:=⟨λE Z F H Q S q=>
 h.el E S λx F1 H1 a b=>by
  obtain⟨hx,kk⟩:=b;exact⟨x,rfl,hx,λH3 s=>q _ _ F1 H3 (a.trans (a.st.grow s)) (.bl _) kk⟩⟩
theorem ZDe{k:List PV->Prop}(h:Wa ss tA λl=>∃k' D,pre l (.new k') D/\Xw.J ss/\(∀x,D x->Xw.D x)/\∀xs,k' xs->k xs):Wn ss (OR (C6 pre) Xw.e tA) k:=⟨λE Z F H Q S q=>
 h.go E Z F H _ S λvs l F1 H1 b a⟨k',D,g,j,m,kk⟩=>by
  refine⟨l,.new k',D,F1,[],g,b.st.Nf a,λv F' H' f⟨l,vs,xs,e,n,i,CM,r,c⟩=>?_,λx C dx F' H' f d B5=>?_⟩
  .subst e;exact q l vs xs F' H' (b.trans (b.st.back (λ_ h=>absurd h BA) f)) n (b.none i) CM r (kk xs c)
  .exact E.hx ss Z F' H' x C dx j (b.st.back (λ_ h=>absurd h BA) f).st (m x d) B5⟩
end
def Bx(pre:Pre):Sp:=λvs H Q _=>∃(ss:List Slot)(R:Ad)(F:Hp)(A B:List Addr),pre ss R/\Sg ⟨A,F,H,B⟩ ss (vs.map some) F H/\∀v F' H',Fin ⟨A,F,H,B⟩ F' H'->R.ok ⟨A,F,H,B⟩ F' H' v->Q v H'
inductive Jh (F:Hp):List V->List Slot->Prop where
 |nil:Jh F [] []
 |cons {v:V}{p:PV}{vs:List V}{l:List Slot}:Rep F v p->Jh F vs l->Jh F (v::vs) (.is p::l)
inductive Ju (Z:L2.St) (F:Hp) (i:Nat) (t:OV):List V->List Slot->Prop where
 |here {v:V}{vs:List V}{l:List Slot}:Z[i]?=some (some v)->Jh F vs l->Ju Z F i t (v::vs) (.ow true t::l)
 |there {v:V}{p:PV}{vs:List V}{l:List Slot}:Rep F v p->Ju Z F i t vs l->Ju Z F i t (v::vs) (.is p::l)
theorem Jh.len:∀{vs:List V}{l:List Slot},Jh F vs l->l.length=vs.length:=by
 intro vs l h
 induction h with
 |nil=>rfl
 |cons _ _ a=>rw[Ck,Ck,a]
theorem Ju.len:∀{vs:List V}{l:List Slot},Ju Z F i t vs l->l.length=vs.length:=by
 intro vs l h
 induction h with
 |here _ r=>rw[Ck,Ck,r.len]
 |there _ _ a=>rw[Ck,Ck,a]
theorem Jh.at:∀{vs:List V}{l:List Slot},Jh F vs l->∀{n:Nat}{s:Slot},l[n]?=some s->∃v p,vs[n]?=some v/\s=.is p/\Rep F v p:=by
 intro vs l h
 induction h with
 |nil=>intro n s e;rw[List.getElem?_nil]at e;cases e
 |cons r _ a=>
  intro n s e;cases n with
  |zero=>cases(show some _=some s from e);exact⟨_,_,rfl,rfl,r⟩
  |succ n=>exact a (n:=n) e
theorem Ju.at:∀{vs:List V}{l:List Slot},Ju Z F i t vs l->∃m:Nat,∀{n:Nat}{s:Slot},l[n]?=some s->(n=m/\s=.ow true t/\∃v,vs[n]?=some v/\Z[i]?=some (some v))∨∃v p,vs[n]?=some v/\s=.is p/\Rep F v p:=by
 intro vs l h
 induction h with
 |here e r=>
  refine⟨0,λ{n s}h=>?_⟩;cases n with
  |zero=>cases(show some _=some s from h);exact .inl ⟨rfl,rfl,_,rfl,e⟩
  |succ n=>exact .inr (r.at (n:=n) h)
 |there r _ b=>
  obtain⟨m,c⟩:=b;refine⟨m+1,λ{n s}q=>?_⟩;cases n with
  |zero=>cases(show some _=some s from q);exact .inr ⟨_,_,rfl,rfl,r⟩
  |succ n=>
   rcases c (n:=n) (s:=s) q with⟨e,es,a⟩|a
   .exact .inl ⟨vB Nat.succ e,es,a⟩
   .exact .inr a
structure Q6 (E:Ent0) (ss:List Slot) (Z:L2.St) (i:Nat) (lt:Bool) (t t':OV) (F H F' H':Hp):Prop where
 st:Sg E (ss.set i (.ow lt t')) Z F' H'
 ff:AD F F'
 hh:∀a o,DI ss Z a->a∉t.addrs->H a=some o->H' a=some o
 nn:∀a o,F' a=some o->F a=some o∨H a=none
structure Nv [Xw] (ss:List Slot) (ta:TA) (k:List Slot->Prop):Prop where
 go:∀(E:Ent)(Z:L2.St)(F H:Hp)(Q:List V->Hp->Prop),Sg E ss Z F H->(∀vs l F' H',Mv E ss Z F H F' H'->Jh F' vs l->k l->Q vs H')->ta Z H Q
structure dm [Xw] (ss:List Slot) (i:Nat) (t:OV) (ta:TA) (k:List Slot->Prop):Prop where
 go:∀(E:Ent)(Z:L2.St)(F H:Hp)(Q:List V->Hp->Prop),Sg E ss Z F H->(∀vs l F' H',Mv E ss Z F H F' H'->Ju Z F' i t vs l->k l->Q vs H')->ta Z H Q
structure Wm [Xw] (ss:List Slot) (i:Nat) (lt:Bool) (t:OV) (te:TE) (k:PV->OV->Prop):Prop where
 go:∀(E:Ent)(Z:L2.St)(F H:Hp)(Q:VK),Sg E ss Z F H->(∀v p t' F' H',Q6 E ss Z i lt t t' F H F' H'->Rep F' v p->k p t'->Q v H')->te Z H Q
structure QQ [Xw] (ss:List Slot) (i:Nat) (lt:Bool) (t:OV) (c:TT) (k:Bool->OV->Prop):Prop where
 go:∀(E:Ent)(Z:L2.St)(F H:Hp)(Q:Bool->Hp->Prop),Sg E ss Z F H->(∀b t' F' H',Q6 E ss Z i lt t t' F H F' H'->k b t'->Q b H')->c Z H Q
theorem Sg.Z0{lt:Bool}(S:Sg E ss Z F H)(hi:ss[i]?=some (.ow lt t))(a:Ju Z F i t vs l):Sg ⟨[],F,H,t.addrs⟩ l (vs.map some) F H:=by
 obtain⟨w,e0,c,DP,k⟩:=S.ok i _ hi;have nn:∀{p:Prop}(a:Addr),a∈([]:List Addr)->p:=λa h=>absurd h BA;obtain⟨m,g⟩:=a.at;refine⟨⟨S.fh,AD.refl _,λ_ _ _ e=>e,λ_ _ e=>.inl e,λa h=>nn a h,λa h=>nn a h,λa h=>nn a h,λa h=>(k a h).1,λa h=>c.there a h,λa h=>⟨c.there a h,BA⟩⟩,by rw[AK];exact a.len,λn s hn=>?_,λn j s u b f hn y ms x=>?_⟩
 .rcases g hn with⟨_,rfl,v,d,q⟩|⟨v,p,d,rfl,r⟩
  .rw[Bb,d];rw[e0]at q;cases q;exact⟨w,rfl,c,DP,λa o=>⟨(k a o).1,.inr ⟨rfl,o⟩⟩⟩
  .rw[Bb,d];exact⟨v,rfl,r⟩
 .rcases g hn with⟨A,rfl,_⟩|⟨_,_,_,rfl,_⟩
  .rcases g y with⟨z,rfl,_⟩|⟨_,_,_,rfl,_⟩
   .exact f (A.trans z.symm)
   .cases x
  .cases ms
theorem Sg.Yi{lt:Bool}{En:NK}{us':List OV}(S:Sg E ss Z F H)(hi:ss[i]?=some (.ow lt (.nd nk a0 us)))(f:Fin ⟨[],F,H,(OV.nd nk a0 us).addrs⟩ F' H')(r:BL F' H' (.ref a0) (.nd En a0 us'))(nd:(OV.nd En a0 us').addrs.Nodup)(q:∀a∈(OV.nd En a0 us').addrs,F' a=none/\(H a=none∨a∈(OV.nd nk a0 us).addrs)):
  Q6 E ss Z i lt (.nd nk a0 us) (.nd En a0 us') F H F' H':=by
 obtain⟨J,e0,K,DP,w⟩:=S.ok i _ hi;have N:J=.ref a0:=by cases K;rfl
 subst N;have I:i<ss.length:=(List.getElem?_eq_some_iff.mp hi).1;have kp:∀a o,a∉(OV.nd nk a0 us).addrs->H a=some o->H' a=some o:=λa o n e=>f.keep a o ⟨BA,n⟩ e;have CC:∀a,H a≠none->F a=none->F' a=none:=λa h1 h2=>by
  cases e:F' a with
  |none=>rfl
  |some o=>
   rcases f.fresh a o e with z|z
   .rw[show F a=some o from z]at h2;cases h2
   .exact absurd z h1
 have y:∀a,a∈E.A->a∉(OV.nd nk a0 us).addrs:=λa h m=>by
  rcases(w a m).2 with z|⟨_,z⟩
  .exact S.a0 a h z
  .exact(S.b0 a z).2 h
 have d:∀(j:Nat)s,j≠i->ss[j]?=some s->∀a,Bl s Z[j]? a->a∉(OV.nd nk a0 us).addrs:=λj s g t a ho m=>S.CJ j i s _ a g t hi ho m;refine⟨⟨⟨f.fh,S.f0.trans f.f0,λa o h e=>?_,λa o e=>?_,λa h=>?_,λa h=>?_,S.a0,λa v=>?_,λa v=>?_,S.b0⟩,by rw[KA];exact S.len,λj s g=>?_,λj k s u b Uy g B ms x=>?_⟩,f.f0,λa o _ n e=>kp a o n e,λa o e=>f.fresh a o e⟩
 .refine kp a o (λm=>?_) (S.keep a o h e);rcases(w a m).2 with z|⟨_,z⟩
  .rw[e]at z;cases z
  .exact h.2 z
 .rcases f.fresh a o e with z|z
  .exact S.fresh a o z
  .exact .inr (S.Ei z)
 .exact CG.keep (S.HP a h) λo e=>kp a o (y a h) e
 .obtain⟨_,_,p,_⟩:=S.HP a h;exact CC a (by rw[p];simp) (S.Ll a h)
 .exact CC a (S.bH a v) (S.bF a v)
 .by_cases m:a∈(OV.nd nk a0 us).addrs
  .exact f.bH a m
  .intro z;cases e:H a with
   |none=>exact S.bH a v e
   |some o=>rw[kp a o m e]at z;cases z
 .by_cases c:j=i
  .subst c;rw[Cs I]at g;cases g;refine⟨.ref a0,e0,r,nd,λa C=>⟨(q a C).1,?_⟩⟩;rcases(q a C).2 with z|z
   .exact .inl (S.Ei z)
   .exact(w a z).2
  .rw[CO (BU c)]at g
   by_cases np:s=.AS
   .subst np;obtain⟨l,e,M,L,pt⟩:=S.ok j _ g;obtain⟨_,_,p,_⟩:=id pt;exact⟨l,e,CC l (by rw[p];simp) M,L,CG.keep pt λo z=>kp l o (d j _ c g l e) z⟩
   .exact Ok.go S g f.f0 (λa o ho e=>kp a o (d j s c g a ho) e) CC np
 .have at_:∀(n:Nat)s,(ss.set i (.ow lt (.nd En a0 us')))[n]?=some s->(n=i/\s=.ow lt (.nd En a0 us'))∨(n≠i/\ss[n]?=some s):=λn s hn=>by
   by_cases c:n=i
   .subst c;rw[Cs I]at hn;exact .inl ⟨rfl,(Bs hn).symm⟩
   .rw[CO (BU c)]at hn;exact .inr ⟨c,hn⟩
  have D:∀(n:Nat)s,n≠i->ss[n]?=some s->Bl s Z[n]? b->b∉(OV.nd En a0 us').addrs:=λn s hn t ho m=>by
   rcases(q b m).2 with z|z
   .exact S.Ez t ho z
   .exact d n s hn t b ho z
  rcases at_ j s g with⟨p,rfl⟩|⟨n1,h1⟩
  .rcases at_ k u B with⟨G,rfl⟩|⟨n2,h2⟩
   .exact Uy (p.trans G.symm)
   .exact D k u n2 h2 x ms
  .rcases at_ k u B with⟨G,rfl⟩|⟨n2,h2⟩
   .exact D j s n1 h1 ms x
   .exact S.CJ j k s u b Uy h1 h2 ms x
section
variable[Xw]
variable{ta:TA}{lt:Bool}{nx:List Slot->Prop}{R:Ad}
theorem Gw{k:List Slot->Prop}(h:k []):Nv ss BQ k:=⟨λE Z F H Q S q=>q [] [] F H (Mv.refl S) .nil h⟩
theorem EJ{k:List Slot->Prop}(h:Wp ss te λp=>Nv ss ta λl=>k (.is p::l)):Nv ss (An te ta) k:=⟨λE Z F H Q S q=>
 h.go E Z F H _ S λv p F1 H1 c r h2=>h2.go E Z F1 H1 _ c.st λvs l F2 H2 b a kk=>q _ _ F2 H2 (c.trans b) (.cons (r.mono b.ff) a) kk⟩
theorem Qf{k:List Slot->Prop}(hi:ss[i]?=some (.ow lt t))(h:Nv ss ta λl=>k (.ow true t::l)):dm ss i t (An (BW i) ta) k:=⟨λE Z F H Q S q=>by
 obtain⟨c,e0,_⟩:=S.ok i _ hi;exact⟨_,e0,h.go E Z F H _ S λvs l F2 H2 b a kk=>q _ _ F2 H2 b (.here e0 a) kk⟩⟩
theorem Mv.di{F1 H1 F2 H2:Hp}(hi:ss[i]?=some (.ow lt t))(a:Mv E ss Z F H F1 H1)(b:Q6 E ss Z i lt t t' F1 H1 F2 H2):Q6 E ss Z i lt t t' F H F2 H2:=
 ⟨b.st,a.ff.trans b.ff,λc o n z e=>b.hh c o n z (a.hh c o n e),λc o e=>(b.nn c o e).elim (λe=>a.nn c o e) λe=>.inr (a.none e)⟩
theorem Qd{k:PV->OV->Prop}(hi:ss[i]?=some (.ow lt (.nd nk a0 us)))(h:dm ss i (.nd nk a0 us) ta λl=>∃k',pre l (.mt k')/\∀p t',k' p t'->∃En us',t'=.nd En a0 us'/\k p t'):Wm ss i lt (.nd nk a0 us) (ES (Bx pre) [] E0 ta) k:=⟨λE Z F H Q S q=>
 h.go E Z F H _ S λvs l F1 H1 b a⟨k',e,kk⟩=>by
  rw[G4];refine⟨l,.mt k',F1,[],(OV.nd nk a0 us).addrs,e,b.st.Z0 hi a,λv F' H' f⟨p,t',r,c,nd,d,kp⟩=>?_⟩;obtain⟨En,us',rfl,k2⟩:=kk p t' kp;exact q v p _ F' H' (b.di hi (b.st.Yi hi f c nd d)) r k2⟩
theorem lW{k:Bool->OV->Prop}(h:Wm ss i lt t te λp t'=>∃c,p=.bl c/\k c t'):QQ ss i lt t (tB te) k:=⟨λE Z F H Q S q=>
 h.go E Z F H _ S λv p t' F1 H1 a r AU=>by
  obtain⟨c,e,kk⟩:=AU;subst e;cases r.inv;exact⟨c,rfl,q c t' F1 H1 a kk⟩⟩
theorem fv{k:Bool->OV->Prop}(h:QQ ss i lt t c λb t'=>k (!b) t'):QQ ss i lt t (Tj c) k:=⟨λE Z F H Q S q=>
 h.go E Z F H _ S λb t' F1 H1 a kk=>q (!b) t' F1 H1 a kk⟩
theorem ZBm{u v:TS}(h:QQ ss i lt t c λb t'=>if b=true then Ws (ss.set i (.ow lt t')) u nx R else Ws (ss.set i (.ow lt t')) v nx R):Ws ss (NJ c u v) nx R:=⟨λE D Z F H S hn d=>
 h.go E Z F H _ S λb t' F1 H1 a kk=>by
  cases b with
  |true=>rw[tX rfl]at kk;exact kk.go E D Z F1 H1 a.st (λAI σ' F' H' n S' s=>hn AI σ' F' H' n S' (a.ff.trans s)) d
  |false=>rw[qg (by decide)]at kk;exact kk.go E D Z F1 H1 a.st (λAI σ' F' H' n S' s=>hn AI σ' F' H' n S' (a.ff.trans s)) d⟩
theorem X1(h:Wm ss i lt t te λ_ t'=>nx (ss.set i (.ow lt t'))):Ws ss (Kv te) nx R:=⟨λE D Z F H S hn b=>
 h.go E Z F H _ S λv p t' F1 H1 a r kk=>hn _ Z F1 H1 kk a.st a.ff⟩
theorem EF{k:PV->OV->Prop}(hi:ss[i]?=some (.ow lt (.nd nk a0 us)))(h:Wp ss te λp=>k p (.nd nk a0 us)):Ws ss (Hy te) nx (.mt k):=⟨λE D Z F H S hn g=>
 h.go E Z F H _ S λv p F1 H1 d r kk=>by
  obtain⟨f,e0,b,DP,c⟩:=d.st.ok i _ hi;have j:f=.ref a0:=by cases b;rfl
  subst j;exact g v F1 H1 d.st.toFin ⟨p,.nd nk a0 us,r,b,DP,λa e=>⟨(c a e).1,(c a e).2.imp id λz=>z.2⟩,kk⟩⟩
end
theorem yW{t:TS}(h:Bx pre vs H Q X)(b:∀ss R,pre ss R->ss.length=n)
  (hw:∀ss R,pre ss R->Ws (ss++List.replicate (N.length - n) .any) t (λ_=>False) R):t { nx:=λ_ H'=>Q .A9 H',rt:=Q } (L2.start N vs) H:=by
 obtain⟨ss,R,F,A,B,a,S,q⟩:=h;have e:vs.length=n:=by have:=S.len;rw[AK]at this;rw[<- this];exact b ss R a
 unfold L2.start;rw[e];exact(hw ss R a).go (U3 ⟨A,F,H,B⟩) _ _ F H (S.grown _) (λAI σ' F' H' z S' _=>z.elim) λv F' H' f ok=>q v F' H' f ok
theorem Qs(b:∀ss R,pre ss R->ss.length=n)(h:Bx pre vs H Q X):vs.length=n:=by
 obtain⟨ss,R,F,A,B,a,S,q⟩:=h;have:=S.len;rw[AK]at this;rw[<- this];exact b ss R a
theorem Sg.mB(S:Sg E ss Z F H)(c:ss[j]?=some (.ow false u)):Sg E (ss.set j (.is u.pv)) Z (CN F H u.addrs) H/\AD F (CN F H u.addrs):=by
 obtain⟨v,e,r,nd,d⟩:=S.ok j _ c;obtain⟨S1,f⟩:=(S.drop j).lay u.addrs (λa b=>⟨(d a b).1,(d a b).2.elim id (λz=>by cases z.1),r.there a b⟩) λa b n s hn m=>by
  by_cases q:n=j
  .subst q;rw[Cs (List.getElem?_eq_some_iff.mp c).1]at hn;cases hn;cases m
  .rw[CO (BU q)]at hn;exact S.CJ n j s _ a q hn c m b
 have g:=S1.FP (j:=j) (v:=v) (p:=u.pv) (r.rep f λa b o ho=>by unfold CN;rw[tX b];exact ho);rw[PX e,VL]at g;exact⟨g,f⟩
theorem pb{p:Slot}(d:ss[j]?=some (.ow false u))(c:p≠.AS)(a:Addr):DI ss Z a->DI (ss.set j p) Z a:=λn k b=>by
 by_cases q:k=j
 .subst q;rw[Cs (List.getElem?_eq_some_iff.mp d).1]at b;cases b;exact absurd rfl c
 .rw[CO (BU q)]at b;exact n k b
theorem Sg.ZCt(S:Sg E ss Z F H)(d:ss[j]?=some (.ow false u))(ff:AD (CN F H u.addrs) F')(fh:AD F' H'):(∀a∈u.addrs,F' a=H a/\H' a=H a/\H a≠none)/\∀a∈u.addrs,∀ws,F' a≠some (.tup ws):=by
 obtain⟨v,e,r,nd,f⟩:=S.ok j _ d;have at_:∀a∈u.addrs,F' a=H a/\H' a=H a/\H a≠none:=λa b=>by
  cases q:H a with
  |none=>exact absurd q (r.there a b)
  |some o=>
   have c:F' a=some o:=ff a o (by unfold CN;rw[tX b];exact q);exact⟨c,fh a o c,by simp⟩
 exact⟨at_,λa b ws q=>by rw[(at_ a b).1]at q;exact r.dv a b ws q⟩
theorem Sg.ZEA(S:Sg E ss Z F H)(b:ss[j]?=some (.ow false u))(m:Mv E (ss.set j (.is u.pv)) Z (CN F H u.addrs) H F' H'):Mv E ss Z F H (Hn F' u.addrs) H'/\∀a∈u.addrs,∀ws,F' a≠some (.tup ws):=by
 obtain⟨v,e,r,nd,d⟩:=S.ok j _ b;obtain⟨S2,g⟩:=S.mB b;obtain⟨at_,f⟩:=S.ZCt b m.ff m.st.fh;refine⟨S.step (λa o ea=>?_) (λa o ea=>?_) (λa o n ea=>m.hh a o (pb b (λz=>by cases z) a n) ea) (λa o ea=>?_) (λk l c h=>?_),f⟩
 .unfold Hn;rw[qg (λq=>by rw[(d a q).1]at ea;cases ea)];exact m.ff a o (g a o ea)
 .unfold Hn at ea;split at ea
  .cases ea
  .exact m.st.fh a o ea
 .unfold Hn at ea;split at ea
  .cases ea
  .rename_i q;rcases m.nn a o ea with z|z
   .unfold CN at z;rw[qg q]at z;exact .inl z
   .exact .inr z
 .refine m.st.FW (i:=k) ?_ h;rw[CO (λq=>by subst q;rw[b]at c;cases c)];exact c
section
variable[Xw]
variable{lt:Bool}
theorem gO{k:PV->Prop}(j:Nat)(a:ss[j]?=some (.ow false u))(h:Wp (ss.set j (.is u.pv)) te λp=>IE p=true/\k p):Wp ss te k:=⟨λE Z F H Q S q=>by
 obtain⟨S2,d⟩:=S.mB a;refine h.go E Z _ H Q S2 λv p F' H' m b⟨hn,kk⟩=>?_;obtain⟨M,c⟩:=S.ZEA a m;exact q v p _ H' M (b.sub c hn) kk⟩
end
end Fz
namespace L2
section
variable{X:Cx}{o i value:Expr}{td ty tv:TE}{pos pos':Pos}
theorem Bn(f:X.A.units+1<cLine)(ho:QE X o td)(hi:QE X i ty)(j:Yj i):QE X (.Subscript o i pos) (L6 td ty):=⟨by
 have ho:=ho.h;have hi:=hi.h;intro ZA s Z H Q I h;refine zS PySem.F.slot_dict_getitem.lookup j (ho.k I h λu s1 x H1 I1 c e=>hi.k I1 e λn s2 y H2 I2 b⟨a,v,ex,g,d⟩=>?_);subst ex;obtain rfl:u=Value.ref a:=c;exact⟨ZCd I2 g,zD f I2 g b λl m I3 Gp=>⟨v,H2,I3,Gp,d⟩⟩⟩
theorem JZ(m:X.A.units+1<cLine)(ho:QE X o td)(hi:QE X i ty)(b:QE X value tv)(n:swapsWith value (some (.Subscript o i pos')) pos.line X.env=pure false:=by rfl):
  QS X (.Assign [.Subscript o i pos'] value pos) (Sl td ty tv):=⟨by
 have ho:=ho.h;have hi:=hi.h;have b:=b.h;intro ZA s Z H D I h;refine wpAny_Assign_Subscript (b.k I h λr s1 v H1 I1 e l=>ho.k I1 l λu s2 x H2 I2 d j=>hi.k I2 j λq p y H3 I3 c⟨a,H4,ex,g,f⟩=>?_) n;subst ex;obtain rfl:u=Value.ref a:=d;exact ZCa m I3 g c e λs4 I4=>⟨Z,H4,I4,f⟩⟩
theorem SJ:QE X (.Dict [] [] pos) ZJ:=⟨λZA s Z H Q I h=>
 wpAny_Dict_empty ⟨.ref s.heap.objs.size,_,I.laid (a:=s.heap.objs.size) (o:=.dK []) (t':=s.toks) (λ_ _ q=>Bf _ q) (B4 _) (kI s.heap I.big),rfl,h _ (I.AH.fresh (B4 _))⟩⟩
end
end L2
namespace Fz
open L2 Lw
variable{F F0 H H0:Hp}{ss:List Slot}{ta td tv ty:TE}{nx:List Slot->Prop}{R:Ad}{i:Nat}{ks:List Key}{Ca vs:List V}{t u w:OV}{C a dx:Addr}{us us':List OV}{E:Ent0}{Z:L2.St}{m p:List Nat}{f:Str}{ns:List Str}{pre:Pre}
noncomputable def Ge:Key->PV
 | .inl i=>.int i
 | .inr x=>.str x
noncomputable def MI:List Key->List PV->Key->Option PV
 |k'::ks,x::xs,k=>if k'=k then some x else MI ks xs k
 |_,_,_=>none
def Hx(ks:List Key)(k:Key):Bool:=ks.any λk'=>decide (k'=k)
def Ig(ks:List Key)(k:Key):List Key:=if Hx ks k=true then ks else ks++[k]
theorem MV{v:V}{k:Key}(r:Rep F v (Ge k)):v=kV k:=by
 cases k with
 |inl i=>cases r.inv;rfl
 |inr x=>cases r.inv;rfl
theorem ZB0{k:Key}{y:PV}:∀{ks:List Key}{vs:List V}{xs:List PV},AY F vs xs->ks.length=vs.length->MI ks xs k=some y->∃v,Dq (ks.zip vs) k=some v/\Rep F v y:=by
 intro ks
 induction ks with
 |nil=>intro vs xs _ _ h;cases h
 |cons k' ks d=>
  intro vs xs r e h;cases xs with
  |nil=>cases h
  |cons x xs=>
   obtain⟨v,ws,rfl,a,b⟩:=r.inv;have h:(if k'=k then some x else MI ks xs k)=some y:=h
   rw[KC]
   by_cases c:k'=k
   .rw[tX c]at h;cases h;exact⟨v,Pz c,a⟩
   .rw[qg c]at h;obtain⟨w,h1,h2⟩:=d b (Om e) h;exact⟨w,by rw[Qg c];exact h1,h2⟩
section
variable[Xw]
variable{k:PV->Prop}{lt:Bool}
theorem GU(h:Wp ss td λp=>∃ks xs,p=.B2 ks xs/\Wp ss ty λq=>∃key y,q=Ge key/\MI ks xs key=some y/\k y):Wp ss (L6 td ty) k:=⟨λE Z F H Q S q=>
 h.go E Z F H _ S λv p F1 H1 c g⟨ks,xs,e,h2⟩=>h2.go E Z F1 H1 _ c.st λo p2 F2 H2 b f⟨key,y,m,i,kk⟩=>by
  subst e;subst m;have n:=g.mono b.ff;cases n with
  |B2 l j d=>
   obtain⟨w,hw,a⟩:=ZB0 d j i;refine⟨_,w,rfl,?_,q w y F2 H2 (c.trans b) a kk⟩;rw[<- hw,MV f];exact G7.k (b.st.fh _ _ l)⟩
theorem UX{k:List Nat->OV->Prop}(h:∀a,k [] (.nd (.B2 []) a (([]:List PV).map .fz))):Wx ss ZJ k:=⟨λE Z F H Q S q p b=>by
 have m:=S.make b (.dK []);refine q _ [] (.nd (.B2 []) p (([]:List PV).map .fz)) F _ m (.nd (k:=.B2 []) (vs:=[]) AX trivial rfl .nil) (by rw[OV.Dr];simp[NK.more,OV.JD]) (λa c=>?_) (h p);rw[OV.Dr]at c;have e:a=p:=by simpa[NK.more,OV.JD]using c
 subst e;exact⟨S.CC b,S.Ei b,.inr b⟩⟩
theorem Vm:∀{ks:List Key}{vs:List V}{key:Key},ks.length=vs.length->(ks.zip vs).any (λa=>decide (a.1=key))=Hx ks key
 | [],vs,key,h=>rfl
 |k'::ks,w::vs,key,h=>by
  rw[KC,Od,Vm (by simpa using h)]
  rfl
 |_::_,[],_,h=>by simp at h
noncomputable def IL:List Key->List V->Key->V->List V
 |k'::ks,x::xs,k,p=>(if k'=k then p else x)::IL ks xs k p
 |_,xs,_,_=>xs
theorem iH:∀{ks:List Key}{vs:List V}{key:Key}{v:V},(ks.zip vs).map (λa=>if a.1=key then(a.1,v)else a)=ks.zip (IL ks vs key v)
 | [],vs,key,v=>by simp
 |k'::ks,w::vs,key,v=>by
  rw[KC,CA,iH,IL,KC]
  by_cases c:k'=key
  .rw[tX c,tX c]
  .rw[qg c,qg c]
 |_::_,[],_,_=>by simp[IL]
end
noncomputable def Cd:List Key->Key->Option Nat
 | [],_=>none
 |k'::ks,k=>if k'=k then some 0 else(Cd ks k).map (· + 1)
theorem ai:∀{ks:List Key}{key:Key}{n:Nat},Cd ks key=some n->ks[n]?=some key
 | [],_,_,h=>by cases h
 |k'::ks,key,n,h=>by
  rw[Cd]at h
  by_cases c:k'=key
  .rw[tX c]at h;cases h;subst c;rfl
  .rw[qg c]at h;cases e:Cd ks key with
   |none=>rw[e]at h;cases h
   |some m=>rw[e]at h;cases h;exact ai (ks:=ks) e
theorem VU:∀{ks:List Key}{key:Key},(Cd ks key).isSome=Hx ks key
 | [],_=>rfl
 |k'::ks,key=>by
  rw[Cd];unfold Hx;rw[Od]
  by_cases c:k'=key
  .rw[tX c,pX c];rfl
  .rw[qg c,uK c,Bool.false_or,cz,VU];rfl
theorem ZU:∀{ks:List Key}{vs:List V}{key:Key}{n:Nat}{v:V},Cd ks key=some n->vs[n]?=some v->Dq (ks.zip vs) key=some v
 | [],_,_,_,_,h,_=>by cases h
 |k'::ks,[],key,n,v,h,hv=>by simp at hv
 |k'::ks,w::vs,key,n,v,h,hv=>by
  rw[Cd]at h;rw[KC]
  by_cases c:k'=key
  .rw[tX c]at h;cases h;simp at hv;rw[Pz c,hv]
  .rw[qg c]at h;cases e:Cd ks key with
   |none=>rw[e]at h;cases h
   |some m=>
    rw[e]at h;cases h;rw[Qg c];exact ZU e (by simpa using hv)
theorem Xn{key:Key}(a:ks.length=vs.length):(Dq (ks.zip vs) key).isSome=Hx ks key:=by
 rw[<- Uu,Vm a]
theorem nO:∀{ks:List Key}{vs:List V}{key:Key}{n:Nat}{v:V},ks.Nodup->Cd ks key=some n->IL ks vs key v=vs.set n v
 | [],_,_,_,_,_,h=>by cases h
 |k'::ks,[],key,n,v,_,h=>by rw[IL];simp;simp
 |k'::ks,w::vs,key,n,v,nd,h=>by
  rw[Cd]at h;obtain⟨n1,n2⟩:=List.nodup_cons.mp nd;rw[IL]
  by_cases c:k'=key
  .rw[tX c]at h;cases h;rw[tX c,cq]
   congr 1
   subst c;have a:∀{ks:List Key}{vs:List V},k'∉ks->IL ks vs k' v=vs:=by
    intro ks
    induction ks with
    |nil=>intro vs _;rw[IL];simp
    |cons k2 ks b=>
     intro vs hn;cases vs with
     |nil=>rw[IL];simp
     |cons u vs=>
      rw[IL,qg (λz=>hn (by rw[z];simp)),b (λz=>hn (by simp[z]))]
   exact a n1
  .rw[qg c]at h;cases e:Cd ks key with
   |none=>rw[e]at h;cases h
   |some m=>
    rw[e]at h;cases h;rw[qg c,VJ,nO n2 e]
section
variable[Xw]
variable{k:PV->Prop}
theorem HA{k:List Nat->OV->Prop}(h:Wl ss i t td λp u=>∃ks a us,u=.nd (.B2 ks) a us/\Wp ss ty λq=>∃key n w,q=Ge key/\Cd ks key=some n/\us[n]?=some w/\k (p++[n]) w):Wl ss i t (L6 td ty) k:=⟨h.hi,λE Z F H Q S q=>
 h.go E Z F H _ S λv p u F1 H1 b l h1⟨ks,a,us,o,h2⟩=>h2.go E Z F1 H1 _ b.st λr p2 F2 H2 c j⟨key,n,w,e,hn,hw,kk⟩=>by
  subst e;have g:=l.mv b.st h.hi h1 c;subst o;obtain⟨vs,rfl,m,s,y,f⟩:=g.inv;obtain⟨x,hx,d⟩:=f.get hw;refine⟨a,x,rfl,?_,q x (p++[n]) w F2 H2 (b.trans c) d (OV.OC h1 (by rw[OV.Lz,hw];exact OV.JG)) kk⟩;rw[<- ZU hn hx,MV j];exact G7.k m⟩
theorem j6(h:Wp ss ty λq=>Wl ss i t td λ_ u=>∃ks a us key,u=.nd (.B2 ks) a us/\q=Ge key/\k (.bl (Hx ks key))):Wp ss (YV ty td) k:=⟨λE Z F H Q S q=>
 h.go E Z F H _ S λv p F1 H1 b d h2=>h2.go E Z F1 H1 _ b.st λl p2 u F2 H2 e c B5 AU=>by
  obtain⟨ks,a,us,key,j,eq,kk⟩:=AU;subst j;subst eq;obtain⟨vs,rfl,f,m,g,n⟩:=c.inv;refine⟨a,Dq (ks.zip vs) key,rfl,by rw[MV d];exact G7.k f,?_⟩;rw[Xn g];exact q _ _ F2 H2 (b.trans e) (.bl _) kk⟩
theorem U4(h:Wp ss ty λq=>Wl ss i t td λ_ u=>∃ks a us key,u=.nd (.B2 ks) a us/\q=Ge key/\k (.bl (!Hx ks key))):Wp ss (Tf ty td) k:=⟨λE Z F H Q S q=>
 h.go E Z F H _ S λv p F1 H1 b d h2=>h2.go E Z F1 H1 _ b.st λl p2 u F2 H2 e c B5 AU=>by
  obtain⟨ks,a,us,key,j,eq,kk⟩:=AU;subst j;subst eq;obtain⟨vs,rfl,f,m,g,n⟩:=c.inv;refine⟨a,Dq (ks.zip vs) key,rfl,by rw[MV d];exact G7.k f,?_⟩;rw[Xn g];exact q _ _ F2 H2 (b.trans e) (.bl _) kk⟩
theorem ZGO(h:Wp ss ty λq=>Wp ss td λu=>∃ks xs key,u=.B2 ks xs/\q=Ge key/\k (.bl (!Hx ks key))):Wp ss (Tf ty td) k:=⟨λE Z F H Q S q=>
 h.go E Z F H _ S λv p F1 H1 c e h2=>h2.go E Z F1 H1 _ c.st λj u F2 H2 b d AU=>by
  obtain⟨ks,xs,key,g,eq,kk⟩:=AU;subst g;subst eq;cases d with
  |@B2 a _ vs _ i f l=>
   refine⟨a,Dq (ks.zip vs) key,rfl,by rw[MV e];exact G7.k (b.st.fh _ _ i),?_⟩;rw[Xn f];exact q _ _ F2 H2 (c.trans b) (.bl _) kk⟩
theorem LY:(OV.nd (.B2 ks) a us).addrs=a::OV.Ax us:=by rw[OV.Dr];rfl
theorem fo{lt:Bool}:∀(m:List Nat)(ss:List Slot),ss[i]?=some (.ow lt t)->i∉m->(Fz.E6 m ss)[i]?=some (.ow lt t):=by
 intro m
 induction m with
 |nil=>intro ss h _;exact h
 |cons j m b=>
  intro ss h a;refine b _ ?_ λz=>a (by simp[z]);rw[CO (by rintro rfl;exact a (by simp))];exact h
theorem Sg.gP{lt:Bool}{ks':List Key}(S0:Sg E ss Z F0 H0)(S:Sg E ss Z F H)(hi:ss[i]?=some (.ow lt t))(B5:t.at p=some (.nd (.B2 ks) a us))
  (d:∀a∈u.addrs,F a=none/\E.H0 a=none/\((∃i∈m,∃s,s≠Slot.AS/\ss[i]?=some s/\Bl s Z[i]? a)∨H0 a=none)) (GW:i∉m)
  (A:BY F H Ca us') (B:ks'.length=Ca.length) (Pr:(OV.Ax us').Nodup) (JY:∀b∈OV.Ax us',b∈OV.Ax us∨b∈u.addrs):Sg E ((Fz.E6 m ss).set i (.ow lt (t.put p (.nd (.B2 ks') a us')))) Z F (upd H a (.dK (ks'.zip Ca))):=by
 have I:=fo m ss hi GW;obtain⟨v,e,r,nd,q⟩:=S.ok i _ hi;have h:∀b,b∈a::OV.Ax us->b∈t.addrs:=λb c=>OV.MY B5 b (by rw[LY];exact c);have G:∀b∈u.addrs,b∉t.addrs:=λb c z=>by
  rcases(d b c).2.2 with⟨j,C,s,_,f,o⟩|w
  .exact S.CJ j i s _ b (by rintro rfl;exact GW C) f hi o z
  .exact S0.Ez hi z w
 have g:(OV.nd (.B2 ks) a us).addrs.Nodup:=by
  obtain⟨l,J,D,_⟩:=OV.split B5;rw[D,Cz,Cz]at nd;exact nd.1.2.1
 rw[LY]at g;have na:∀b∈OV.Ax us',b≠a:=λb c z=>by
  subst z;rcases JY b c with w|w
  .exact(List.nodup_cons.mp g).1 w
  .exact G b w (h b (by simp))
 refine(S.E6 m).Yr I B5 (.nd (k:=.B2 ks') AX trivial B (A.mono (AD.refl _) λb c o ho=>by rw[Aa (na b c)];exact ho)) (by rw[LY];exact List.nodup_cons.mpr ⟨λz=>na a z rfl,Pr⟩) λb c=>?_;rw[LY]at c ⊢;rcases List.mem_cons.mp c with w|w
 .exact .inl (by simp[w])
 .rcases JY b w with z|z
  .exact .inl (by simp[z])
  .refine .inr ⟨(d b z).1,(d b z).2.1,λj s f o=>?_⟩;rcases Ow f with y|⟨Ic,hm⟩
   .subst y;cases o
   .rcases(d b z).2.2 with⟨x,Il,s2,_,Cn,n⟩|y
    .exact S.CJ j x s s2 b (by rintro rfl;exact hm Il) Ic Cn o n
    .exact S0.Ez Ic o y
def Gv(ks:List Key)(us:List OV)(key:Key)(w:OV):List OV:=match Cd ks key with
 |some n=>us.set n w
 |none=>us++[w]
theorem Jz(h:Wx ss tv λm w=>Wl ss i t td λp u=>∃lt a ks us,ss[i]?=some (.ow lt t)/\u=.nd (.B2 ks) a us/\us.length<=99999/\ks.Nodup/\i∉m/\Wp ss ty λq=>∃key,q=Ge key/\nx ((Fz.E6 m ss).set i (.ow lt (t.put p (.nd (.B2 (Ig ks key)) a (Gv ks us key w)))))):Ws ss (Sl td ty tv) nx R:=⟨λE D Z F H S hn hr=>
 h.go E Z F H _ S λv m w F1 H1 Q P II I h2=>h2.go E Z F1 H1 _ Q.st λv2 p u F2 H2 L O B5 z=>by
  obtain⟨lt,a,ks,us,hi,rfl,hz,g,GW,h3⟩:=z;refine h3.go E Z F2 H2 _ L.st λv3 q F3 H3 G r3 z=>?_;obtain⟨key,rfl,kk⟩:=z;have ev:v2=.ref a:=O.inv.elim λ_ h=>h.1;subst ev;have J:=L.trans G;have np:∀b∈w.addrs,DI ss Z b:=λb d k g U=>by
   rcases(I b d).2.2 with⟨j,T,s,M,GG,o⟩|z
   .exact S.CJ j k s _ b (λe=>by subst e;rw[GG]at g;exact M (Bs g)) GG g o U
   .exact S.Ez g U z
  have Y:BL F3 H3 v w:=P.mono J.ff λb d o e=>J.hh b o (np b d) e;have WO:∀b∈w.addrs,F3 b=none/\E.H0 b=none/\((∃i∈m,∃s,s≠Slot.AS/\ss[i]?=some s/\Bl s Z[i]? b)∨H b=none):=λb d=>by
   refine⟨?_,(I b d).2⟩;cases e:F3 b with
   |none=>rfl
   |some o=>
    rcases J.nn b o e with z|z
    .rw[(I b d).1]at z;cases z
    .exact absurd z (P.there b d)
  have r4:=O.mv L.st ⟨lt,hi⟩ B5 G;cases r4 with
  |@nd _ _ vs _ ha sd ft C=>
   have K:ks.length=vs.length:=ft;have vl:=C.length;have σ:(ks.zip vs).length<=99999:=by rw[Og];omega
   refine⟨a,_,rfl,by rw[MV r3];exact Pq.k ha (Wd σ),?_⟩;obtain⟨v0,e0,r0,DP,q0⟩:=G.st.ok i _ hi;have N:(OV.nd (.B2 ks) a us).addrs.Nodup:=by
    obtain⟨l,C,A,_⟩:=OV.split B5;rw[A,Cz,Cz]at DP;exact DP.1.2.1
   rw[LY]at N;have f:∀b∈w.addrs,b∉OV.Ax us:=λb d z=>by
    have X:b∈t.addrs:=OV.MY B5 b (by rw[LY];simp[z]);rcases(I b d).2.2 with⟨j,T,s,_,M,o⟩|y
    .exact S.CJ j i s _ b (by rintro rfl;exact GW T) M hi o X
    .exact S.Ez hi X y
   obtain⟨Ca,ep,P5,LB,Qx,sb⟩:∃Ca:List V,putK (ks.zip vs) key v=(Ig ks key).zip Ca/\(Ig ks key).length=Ca.length/\BY F3 H3 Ca (Gv ks us key w)/\(OV.Ax (Gv ks us key w)).Nodup/\∀b∈OV.Ax (Gv ks us key w),b∈OV.Ax us∨b∈w.addrs:=by
    unfold putK Ig Gv;rw[Vm K];cases e:Cd ks key with
    |some n=>
     have c:Hx ks key=true:=by rw[<- VU,e];rfl
     have MQ:n<us.length:=by
      have:=(List.getElem?_eq_some_iff.mp (ai e)).1;omega
     obtain⟨l,r,A,W⟩:=K0 (BK MQ);rw[tX c,tX c,iH,nO g e];refine⟨vs.set n v,rfl,by rw[KA];exact K,C.set n Y,?_,λb d=>?_⟩
     .show(OV.Ax (us.set n w)).Nodup;rw[W];have n1:=(List.nodup_cons.mp N).2;rw[A]at n1;exact Sr n1 II λb d=>.inr (by rw[<- A];exact f b d)
     .have B:b∈OV.Ax (us.set n w):=d;rw[W]at B;rcases List.mem_append.mp B with z|z
      .rcases List.mem_append.mp z with z|z
       .exact .inl (by rw[A];simp[z])
       .exact .inr z
      .exact .inl (by rw[A];simp[z])
    |none=>
     have c:¬ Hx ks key=true:=by rw[<- VU,e];decide
     rw[qg c,qg c];refine⟨vs++[v],by rw[List.zip_append K];rfl,by rw[CP,CP,K];rfl,C.append (.one Y),?_,λb d=>?_⟩
     .show(OV.Ax (us++[w])).Nodup;rw[QF,TQ,Cz];exact⟨(List.nodup_cons.mp N).2,II,λx hx y hy e=>f y hy (e▸hx)⟩
     .have B:b∈OV.Ax (us++[w]):=d;rw[QF,TQ]at B;exact List.mem_append.mp B
   rw[ep];exact hn _ Z F3 _ kk (Sg.gP (u:=w) S G.st hi B5 WO GW LB P5 Qx sb) (Q.ff.trans J.ff)⟩
end
noncomputable def DD:List Str->Str->Option Nat
 | [],_=>none
 |g::ns,f=>if g=f then some 0 else(DD ns f).map (· + 1)
def Mc(ns:List Str)(f:Str):List Str:=match DD ns f with
 |some _=>ns
 |none=>ns++[f]
def PL(ns:List Str)(us:List OV)(f:Str)(w:OV):List OV:=match DD ns f with
 |some n=>us.set n w
 |none=>us++[w]
def KN(ns:List Str)(vs:List V)(f:Str)(w:V):List V:=match DD ns f with
 |some n=>vs.set n w
 |none=>vs++[w]
theorem YX:∀{ns:List Str}{f:Str}{n:Nat},DD ns f=some n->n<ns.length
 | [],_,_,h=>by cases h
 |g::ns,f,n,h=>by
  rw[DD]at h
  by_cases c:g=f
  .rw[tX c]at h;cases h;exact Nat.succ_pos _
  .rw[qg c]at h;cases e:DD ns f with
   |none=>rw[e]at h;cases h
   |some m=>rw[e]at h;cases h;exact Nat.succ_lt_succ (YX e)
theorem SD:∀{ns:List Str}{vs:List V}{f:Str}{n:Nat}{v:V},DD ns f=some n->vs[n]?=some v->(ns.zip vs).lookup f=some v
 | [],_,_,_,_,h,_=>by cases h
 |g::ns,[],f,n,v,h,hv=>by simp at hv
 |g::ns,w::vs,f,n,v,h,hv=>by
  rw[DD]at h;rw[KC]
  by_cases c:g=f
  .rw[tX c]at h;cases h;simp at hv;subst c;rw[ZIO,hv]
  .rw[qg c]at h;cases e:DD ns f with
   |none=>rw[e]at h;cases h
   |some m=>
    rw[e]at h;cases h;rw[IB];have:(f == g)=false:=by simpa using λz=>c z.symm
    rw[this];exact SD e (by simpa using hv)
theorem az:∀{ns:List Str}{vs:List V}{f:Str}{v:V},ns.length=vs.length->Dj f v (ns.zip vs)=(Mc ns f).zip (KN ns vs f v)/\(Mc ns f).length=(KN ns vs f v).length
 | [],[],f,v,_=>by simp[Dj,Mc,KN,DD]
 | [],_::_,_,_,h=>by simp at h
 |_::_,[],_,_,h=>by simp at h
 |g::ns,w::vs,f,v,h=>by
  obtain⟨b,a⟩:=az (ns:=ns) (vs:=vs) (f:=f) (v:=v) (by simpa using h)
  rw[KC];rw[show Dj f v ((g,w)::ns.zip vs)=(if g=f then(g,v)::ns.zip vs else(g,w)::Dj f v (ns.zip vs))from rfl]
  unfold Mc KN at b a ⊢;rw[DD]
  by_cases c:g=f
  .rw[tX c,tX c];exact⟨by simp,by simpa using h⟩
  .rw[qg c,qg c,b];cases e:DD ns f with
   |none=>rw[e]at a;exact⟨by simp,by simpa using a⟩
   |some m=>rw[e]at a;exact⟨by simp,by simpa using a⟩
section
variable[Xw]
variable{k:PV->Prop}{K:ZJa}
theorem ba{k:List Nat->OV->Prop}(h:Wl ss i t ta λp u=>∃C dx ns a us n w,u=.nd (.obj C dx ns) a us/\C3 K C/\BV K C f/\DD ns f=some n/\us[n]?=some w/\k (p++[n]) w):Wl ss i t (L8 K ta f) k:=⟨h.hi,λE Z F H Q S q=>
 h.go E Z F H _ S λv p u F1 H1 g d h1 AU=>by
  obtain⟨C,dx,ns,a,us,n,w,m,j,hn,hx,hw,kk⟩:=AU;subst m;obtain⟨vs,rfl,l,o,r,c⟩:=d.inv;obtain⟨x,e,b⟩:=c.get hw;exact⟨a,C,dx,ns.zip vs,x,rfl,l,j,hn,SD hx e,q x (p++[n]) w F1 H1 g b (OV.OC h1 (by rw[OV.Lz,hw];exact OV.JG)) kk⟩⟩
theorem LL:(OV.nd (.obj C dx ns) a us).addrs=a::dx::OV.Ax us:=by rw[OV.Dr];rfl
theorem Sg.i3{lt:Bool}{Bq:List Str}(S0:Sg E ss Z F0 H0)(S:Sg E ss Z F H)(hi:ss[i]?=some (.ow lt t))(B5:t.at p=some (.nd (.obj C dx ns) a us))(Lf:H dx=some (.own a))
  (d:∀a∈u.addrs,F a=none/\E.H0 a=none/\((∃i∈m,∃s,s≠Slot.AS/\ss[i]?=some s/\Bl s Z[i]? a)∨H0 a=none)) (GW:i∉m)
  (G:BY F H Ca us') (I:Bq.length=Ca.length) (Pr:(OV.Ax us').Nodup) (JY:∀b∈OV.Ax us',b∈OV.Ax us∨b∈u.addrs):Sg E ((Fz.E6 m ss).set i (.ow lt (t.put p (.nd (.obj C dx Bq) a us')))) Z F (upd H a (.ins C dx (Bq.zip Ca))):=by
 have L:=fo m ss hi GW;obtain⟨v,e,r,nd,q⟩:=S.ok i _ hi;have g:∀b,b∈a::dx::OV.Ax us->b∈t.addrs:=λb c=>OV.MY B5 b (by rw[LL];exact c);have n:∀b∈u.addrs,b∉t.addrs:=λb c z=>by
  rcases(d b c).2.2 with⟨j,J,s,_,f,o⟩|w
  .exact S.CJ j i s _ b (by rintro rfl;exact GW J) f hi o z
  .exact S0.Ez hi z w
 have x:(OV.nd (.obj C dx ns) a us).addrs.Nodup:=by
  obtain⟨l,M,K,_⟩:=OV.split B5;rw[K,Cz,Cz]at nd;exact nd.1.2.1
 rw[LL]at x;obtain⟨n1,n2⟩:=List.nodup_cons.mp x;obtain⟨B,N⟩:=List.nodup_cons.mp n2;have na:∀b∈OV.Ax us',b≠a:=λb c z=>by
  subst z;rcases JY b c with w|w
  .exact n1 (by simp[w])
  .exact n b w (g b (by simp))
 have TY:∀b∈OV.Ax us',b≠dx:=λb c z=>by
  subst z;rcases JY b c with w|w
  .exact B w
  .exact n b w (g b (by simp))
 have h:dx≠a:=λz=>n1 (by simp[z]);refine(S.E6 m).Yr L B5 (.nd (k:=.obj C dx Bq) AX (show upd H a _ dx=some (.own a) by rw[Aa h];exact Lf) I (G.mono (AD.refl _) λb c o ho=>by rw[Aa (na b c)];exact ho)) (by
  rw[LL];exact List.nodup_cons.mpr ⟨λz=>by
   rcases List.mem_cons.mp z with z|z
   .exact h z.symm
   .exact na a z rfl,List.nodup_cons.mpr ⟨λz=>TY dx z rfl,Pr⟩⟩) λb c=>?_
 rw[LL]at c ⊢;rcases List.mem_cons.mp c with w|w
 .exact .inl (by simp[w])
 .rcases List.mem_cons.mp w with w|w
  .exact .inl (by simp[w])
  .rcases JY b w with z|z
   .exact .inl (by simp[z])
   .refine .inr ⟨(d b z).1,(d b z).2.1,λj s f o=>?_⟩;rcases Ow f with y|⟨Ic,hm⟩
    .subst y;cases o
    .rcases(d b z).2.2 with⟨D,Il,s2,_,Cn,A⟩|y
     .exact S.CJ j D s s2 b (by rintro rfl;exact hm Il) Ic Cn o A
     .exact S0.Ez Ic o y
theorem ZEn{F1 H1 F3 H3:Hp}{v:V}(S:Sg E ss Z F H)(Kx:Mv E ss Z F1 H1 F3 H3)(g:BL F1 H1 v w)(f:∀a∈w.addrs,F1 a=none/\E.H0 a=none/\((∃i∈m,∃s,s≠Slot.AS/\ss[i]?=some s/\Bl s Z[i]? a)∨H a=none)):
  BL F3 H3 v w/\∀b∈w.addrs,F3 b=none/\E.H0 b=none/\((∃i∈m,∃s,s≠Slot.AS/\ss[i]?=some s/\Bl s Z[i]? b)∨H b=none):=by
 have np:∀b∈w.addrs,DI ss Z b:=λb c k d h=>by
  rcases(f b c).2.2 with⟨j,n,s,l,GG,o⟩|z
  .exact S.CJ j k s _ b (λe=>by subst e;rw[GG]at d;exact l (Bs d)) GG d o h
  .exact S.Ez d h z
 refine⟨g.mono Kx.ff λb c o e=>Kx.hh b o (np b c) e,λb c=>⟨?_,(f b c).2⟩⟩;cases e:F3 b with
 |none=>rfl
 |some o=>
  rcases Kx.nn b o e with z|z
  .rw[(f b c).1]at z;cases z
  .exact absurd z (g.there b c)
theorem Jg(h:Wx ss tv λm w=>Wl ss i t ta λp u=>∃lt C dx ns a us,ss[i]?=some (.ow lt t)/\u=.nd (.obj C dx ns) a us/\C3 K C/\BV K C f/\ns.length<1000/\i∉m/\nx ((Fz.E6 m ss).set i (.ow lt (t.put p (.nd (.obj C dx (Mc ns f)) a (PL ns us f w)))))):Ws ss (ZM K ta tv f) nx R:=⟨λE D Z F H S hn hr=>
 h.go E Z F H _ S λv m w F1 H1 I T II M h2=>h2.go E Z F1 H1 _ I.st λO p u F2 H2 A G B5 AU=>by
  obtain⟨lt,C,dx,ns,a,us,hi,eu,X,X0,hz,GW,kk⟩:=AU;subst eu;have ev:O=.ref a:=by cases G;rfl
  subst ev;obtain⟨Gi,WO⟩:=ZEn S A T M;cases G with
  |@nd _ _ vs _ Y P σ q=>
   have JH:ns.length=vs.length:=σ;have vl:=q.length;obtain⟨ep,P5⟩:=az (f:=f) (v:=v) JH;refine⟨a,C,dx,ns.zip vs,rfl,Y,X,X0,by rw[Og];omega,?_⟩;obtain⟨v0,e0,r0,DP,q0⟩:=A.st.ok i _ hi;have N:(OV.nd (.obj C dx ns) a us).addrs.Nodup:=by
    obtain⟨l,q,g,_⟩:=OV.split B5;rw[g,Cz,Cz]at DP;exact DP.1.2.1
   rw[LL]at N;have B:=(List.nodup_cons.mp (List.nodup_cons.mp N).2).2;have c:∀b∈w.addrs,b∉OV.Ax us:=λb d z=>by
    have L:b∈t.addrs:=OV.MY B5 b (by rw[LL];simp[z]);rcases(M b d).2.2 with⟨j,W,s,_,V,o⟩|y
    .exact S.CJ j i s _ b (by rintro rfl;exact GW W) V hi o L
    .exact S.Ez hi L y
   obtain⟨LB,Qx,Q⟩:BY F2 H2 (KN ns vs f v) (PL ns us f w)/\(OV.Ax (PL ns us f w)).Nodup/\∀b∈OV.Ax (PL ns us f w),b∈OV.Ax us∨b∈w.addrs:=by
    unfold KN PL;cases e:DD ns f with
    |some n=>
     have MQ:n<us.length:=by have:=YX e;omega
     obtain⟨l,r,g,J⟩:=K0 (BK MQ);refine⟨q.set n Gi,?_,λb d=>?_⟩
     .show(OV.Ax (us.set n w)).Nodup;rw[J];rw[g]at B;exact Sr B II λb d=>.inr (by rw[<- g];exact c b d)
     .have k:b∈OV.Ax (us.set n w):=d;rw[J]at k;rcases List.mem_append.mp k with z|z
      .rcases List.mem_append.mp z with z|z
       .exact .inl (by rw[g];simp[z])
       .exact .inr z
      .exact .inl (by rw[g];simp[z])
    |none=>
     refine⟨q.append (.one Gi),?_,λb d=>?_⟩
     .show(OV.Ax (us++[w])).Nodup;rw[QF,TQ,Cz];exact⟨B,II,λx hx y U e=>c y U (e▸hx)⟩
     .have k:b∈OV.Ax (us++[w]):=d;rw[QF,TQ]at k;exact List.mem_append.mp k
   rw[ep];exact hn _ Z F2 _ kk (Sg.i3 (u:=w) S A.st hi B5 P WO GW LB P5 Qx Q) (I.ff.trans A.ff)⟩
end
theorem To:∀{ns:List Str}{vs:List V}{f:Str},DD ns f=none->(ns.zip vs).lookup f=none
 | [],_,_,_=>by simp
 |g::ns,[],f,h=>by simp
 |g::ns,w::vs,f,h=>by
  rw[DD]at h
  by_cases c:g=f
  .rw[tX c]at h;cases h
  .rw[qg c]at h;rw[KC,IB];have:(f == g)=false:=by simpa using λz=>c z.symm
   rw[this];refine To ?_;cases e:DD ns f with
   |none=>rfl
   |some m=>rw[e]at h;cases h
section
variable[Xw]
variable{te:TE}{ta:TA}{lt:Bool}{K:ZJa}
theorem OH{a0:Addr}{m:Str}{k:PV->OV->Prop}(hi:ss[i]?=some (.ow lt (.nd (.obj C dx ns) a0 us)))(n:DD ns m=none)(h:Nv ss ta λl=>∃k',pre (.ow true (.nd (.obj C dx ns) a0 us)::l) (.mt k')/\∀p t',k' p t'->∃En us',t'=.nd En a0 us'/\k p t'):
  Wm ss i lt (.nd (.obj C dx ns) a0 us) (MC C m (Bx pre) [] E0 (BW i) ta) k:=⟨λE Z F H Q S q=>by
 obtain⟨d,e0,c,_,_⟩:=S.ok i _ hi;have s:d=.ref a0:=by cases c;rfl
 subst s;cases c with
 |@nd _ _ IU _ o t w u=>
  refine⟨_,e0,a0,dx,ns.zip IU,rfl,o,To n,h.go E Z F H _ S λvs l F1 H1 b a⟨k',j,kk⟩=>?_⟩;rw[G4];refine⟨.ow true (.nd (.obj C dx ns) a0 us)::l,.mt k',F1,[],(OV.nd (.obj C dx ns) a0 us).addrs,j,b.st.Z0 hi (.here e0 a),λv F' H' f⟨p,t',r,e,nd,g,kp⟩=>?_⟩;obtain⟨En,us',rfl,k2⟩:=kk p t' kp;exact q v p _ F' H' (b.di hi (b.st.Yi hi f e nd g)) r k2⟩
theorem ZCP{m:Str}{k:PV->Prop}(h:Wp ss te λo=>∃ns xs,o=.obj C ns xs/\DD ns m=none/\Wa ss ta λl=>∃k',pre (.is o::l) (.is k')/\∀p,k' p->k p):Wp ss (MC C m (B6 pre) [] E0 te ta) k:=⟨λE Z F H Q S q=>
 h.go E Z F H _ S λv o F1 H1 c g⟨ns,xs,t,j,h2⟩=>by
  subst t;cases g with
  |@obj a _ dx _ IU _ d u n e=>
   refine⟨a,dx,ns.zip IU,rfl,c.st.fh _ _ d,To j,h2.go E Z F1 H1 _ c.st λvs l F2 H2 b al⟨k',i,kk⟩=>?_⟩;rw[G4];refine⟨.is (.obj C ns xs)::l,.is k',F2,[],i,b.st.Nf (.cons (s:=.is _) (Rep.obj (b.ff _ _ d) (b.ff _ _ u) n (e.mono b.ff)) al),λv F' H' f⟨p,r,kp⟩=>?_⟩;exact q v p F' H' (c.trans (b.trans (b.st.back (λ_ h=>absurd h BA) f))) r (kk p kp)⟩
theorem Jk{k:PV->Prop}(h:Wp ss te λo=>∃C ns xs n y,o=.obj C ns xs/\C3 K C/\BV K C f/\DD ns f=some n/\xs[n]?=some y/\k y):Wp ss (L8 K te f) k:=⟨λE Z F H Q S q=>
 h.go E Z F H _ S λv o F1 H1 b e AU=>by
  obtain⟨C,ns,xs,n,y,l,j,hn,hx,g,kk⟩:=AU;subst l;cases e with
  |@obj a _ dx _ IU _ m r p d=>
   obtain⟨u,i,c⟩:=d.get g;exact⟨a,C,dx,ns.zip IU,u,rfl,b.st.fh _ _ m,j,hn,SD hx i,q u y F1 H1 b c kk⟩⟩
theorem eI{k:List Nat->OV->Prop}(h:Nv ss ta λl=>∀x dx:Addr,∃k',pre (.ow true (.nd (.obj C dx []) x [])::l) (.mt k')/\∀p t',k' p t'->p=.A9/\∃Bq us',t'=.nd (.obj C dx Bq) x us'/\k [] t'):Wx ss (XU C (Bx pre) [] E0 ta) k:=⟨λE Z F H Q S q=>
 h.go E Z F H _ S λvs l F1 H1 d al NS x dx hx Lf Bd=>by
  rw[G4];have M1:=d.st.make Lf (.own x);have M:upd H1 dx (.own x) x=none:=by rw[Aa (BU Bd)];exact hx
  have L:=M1.st.make M (.ins C dx []);have G:=M1.trans L;have up:∀a o,H1 a=some o->upd (upd H1 dx (.own x)) x (.ins C dx []) a=some o:=λa o e=>by
   rw[Aa (Dg e hx),Aa (Dg e Lf)];exact e
  have w:∀a,upd (upd H1 dx (.own x)) x (.ins C dx []) a=none->H1 a=none:=λa e=>by
   cases z:H1 a with
   |none=>rfl
   |some o=>rw[up a o z]at e;cases e
  have a0:(OV.nd (.obj C dx []) x []).addrs=[x,dx]:=by rw[LL,OV.JD]
  have D:BL F1 (upd (upd H1 dx (.own x)) x (.ins C dx [])) (.ref x) (.nd (.obj C dx []) x []):=.nd (k:=.obj C dx []) (vs:=[]) AX (show upd _ x _ dx=some (.own x) by rw[Aa Bd];exact AX) rfl .nil;have f0:∀a∈(OV.nd (.obj C dx []) x []).addrs,H1 a=none:=λa b=>by
   rw[a0]at b;simp only[GY,BA,ZAO]at b;rcases b with rfl|rfl
   .exact hx
   .exact Lf
  have N:(OV.nd (.obj C dx []) x []).addrs.Nodup:=by
   rw[a0];simp[BU Bd]
  have y:=Sg.d8 (j:=ss.length) (m:=[]) (v:=.ref x) (u:=.nd (.obj C dx []) x []) (d.st.grown 1) (G.st.grown 1) D N λa b=>⟨d.st.CC (f0 a b),d.st.Ei (f0 a b),.inr (f0 a b)⟩;have P:=d.st.len;have hi:((ss++List.replicate 1 Slot.any).set ss.length (.ow false (.nd (.obj C dx []) x [])))[ss.length]?=some (.ow false (.nd (.obj C dx []) x [])):=Cs (by simp);have e0:((Z++List.replicate 1 none).set ss.length (some (V.ref x)))[ss.length]?=some (some (.ref x)):=Cs (by simp;omega);obtain⟨k',I,kk⟩:=NS x dx;refine⟨.ow true (.nd (.obj C dx []) x [])::l,.mt k',F1,[],(OV.nd (.obj C dx []) x []).addrs,I,y.Z0 hi (.here e0 al),λv F' H' f⟨p,t',r,t,nd,s,kp⟩=>?_⟩;obtain⟨rfl,Bq,us',rfl,k2⟩:=kk p t' kp;have B:=y.Yi hi f t nd s;have at':∀n,n<ss.length->((ss++List.replicate 1 Slot.any).set ss.length (.ow false (.nd (.obj C dx []) x [])))[n]?=ss[n]?:=λn hn=>by rw[CO (by omega),IA hn]
  have A:∀n,n<ss.length->((Z++List.replicate 1 none).set ss.length (some (V.ref x)))[n]?=Z[n]?:=λn hn=>by rw[CO (by omega),IA (by omega)]
  have np:∀a,H1 a≠none->DI ss Z a->DI ((ss++List.replicate 1 Slot.any).set ss.length (.ow false (.nd (.obj C dx []) x []))) ((Z++List.replicate 1 none).set ss.length (some (V.ref x))) a:=λa _ hn n g=>by
   by_cases c:n<ss.length
   .rw[at' n c]at g;rw[A n c];exact hn n g
   .by_cases c2:n=ss.length
    .subst c2;rw[hi]at g;cases g
    .rw[LQ (by simp;omega)]at g;cases g
  have K:Mv E ss Z F1 H1 F' H':=d.st.step B.ff B.st.fh (λa o hn e=>B.hh a o (np a (by rw[e];simp) hn) (λz=>by rw[f0 a z]at e;cases e) (up a o e)) (λa o e=>(B.nn a o e).imp id (w a)) λn O hn J=>by
   have c:n<ss.length:=(List.getElem?_eq_some_iff.mp hn).1;refine B.st.FW (i:=n) ?_ (by rw[A n c];exact J);rw[CO (by omega)];exact(at' n c).trans hn
  cases r.inv;refine⟨rfl,q (.ref x) [] _ F' H' (d.trans K) t nd (λa b=>?_) k2⟩;have h1:H1 a=none:=(s a b).2.elim (w a) (f0 a);exact⟨(s a b).1,d.st.Ei h1,.inr (d.none h1)⟩⟩
end
end Fz
namespace L2
section
variable{X:Cx}{o e value:Expr}{f:Str}{pos pos' QP:Pos}{ta tv:TE}
theorem Cf(b:QE X e ta)(i:attributeBase e f X.env (eval e X.env)=eval e X.env:=by rfl):QE X (.Attribute e f pos) (L8 X.K ta f):=⟨by
 have b:=b.h;intro ZA s Z H Q I h;refine iY i (b.k I h λu s1 x H1 I1 d Jt=>?_);obtain⟨a,C,dx,fs,v,ex,ea,c,n,l,q⟩:=Jt;subst ex;obtain rfl:u=Value.ref a:=d;exact nR I1 ea c n l λj s2 I2 g=>⟨v,H1,I2,g,q⟩⟩
theorem LH(d:QE X o ta)(b:QE X value tv)(m:swapsWith value (some (.Attribute o f pos')) pos.line X.env=pure false:=by rfl):QS X (.Assign [.Attribute o f pos'] value pos) (ZM X.K ta tv f):=⟨by
 have d:=d.h;have b:=b.h;intro ZA s Z H D I h;refine ZA6 (b.k I h λu s1 y H1 I1 e q=>?_) m;refine BB (d ZA s1 Z H1 _ I1 q) λj s2 z=>?_;obtain⟨x,H2,I2,g,a,C,dx,fs,rfl,ea,c,n,l,i⟩:=z;obtain rfl:j=Value.ref a:=g;exact kX I2 ea c n l e λp I3=>⟨Z,_,I3,i⟩⟩
theorem Vs{op:Operator}{rd:V->V->Hp->VK->Prop}(d:QE X o ta)(b:QE X value tv)(Z2:oS X op rd):QS X (.AugAssign (.Attribute o f QP) op value pos) (Y2 X.K ta tv rd f):=⟨by
 have d:=d.h;have b:=b.h;intro ZA s Z H D I h;refine wpAny_AugAssign_AttributeAny (d.k I h λA s1 x H1 I1 p Jt=>?_);obtain⟨a,C,dx,fs,v,ex,ea,c,n,l,q⟩:=Jt;subst ex;obtain rfl:A=Value.ref a:=p;refine nR I1 ea c n l λu s2 I2 r=>b.k I2 q λg i y H2 I3 m w=>BB (Z2 ZA i Z H2 v y u g _ I3 r m w) λE s4 WY=>?_;obtain⟨z,H3,I4,j,dx',OX,e,B,t⟩:=WY;exact kX I4 e c n B j λF I5=>⟨Z,_,I5,t⟩⟩
end
end L2
namespace Fz
open L2 Lw
section
variable[Xw]
variable{ss:List Slot}{ta tv:TE}{nx:List Slot->Prop}{R:Ad}{i:Nat}{t:OV}{K:ZJa}{f:Str}
theorem WQ{g:Int->Int->Int}(h:Wl ss i t ta λp u=>∃lt C dx ns a us n x,ss[i]?=some (.ow lt t)/\u=.nd (.obj C dx ns) a us/\C3 K C/\BV K C f/\ns.length<1000/\DD ns f=some n/\us[n]?=some (.fz (.int x))/\Wp ss tv λq=>∃y,q=.int y/\nx (ss.set i (.ow lt (t.put p (.nd (.obj C dx ns) a (us.set n (.fz (.int (g x y))))))))):Ws ss (Y2 K ta tv (gY g) f) nx R:=⟨λE D Z F H S hn hr=>
 h.go E Z F H _ S λv p u F1 H1 j o B5 z=>by
  obtain⟨lt,C,dx,ns,a,us,n,x,hi,eu,V,X0,hz,hx,U,h2⟩:=z;subst eu;have σ:v=.ref a:=o.inv.elim λ_ h=>h.1;subst σ;have Gi:=o;obtain⟨vs,_,W,sd,ft,A⟩:=o.inv;obtain⟨w,hw,k⟩:=A.get U;have Y:w=.int x:=(k.inv:Rep _ _ _).inv;subst Y;refine⟨a,C,dx,ns.zip vs,.int x,rfl,W,V,X0,SD hx hw,h2.go E Z F1 H1 _ j.st λv2 q F2 H2 e Q O=>?_⟩;obtain⟨y,X,kk⟩:=O;subst X;cases Q.inv;refine⟨x,y,rfl,rfl,?_⟩;have P:=Gi.mv j.st ⟨lt,hi⟩ B5 e;obtain⟨Kg,_,s,T,P5,LB⟩:=P.inv;have JH:ns.length=Kg.length:=P5;have vl:=LB.length;obtain⟨ep,B⟩:=az (f:=f) (v:=.int (g x y)) JH;refine⟨dx,ns.zip Kg,s,by rw[Og];omega,?_⟩;have MQ:n<us.length:=by have:=YX hx;omega
  obtain⟨v0,e0,r0,DP,q0⟩:=e.st.ok i _ hi;have N:(OV.nd (.obj C dx ns) a us).addrs.Nodup:=by
   obtain⟨l,A,d,_⟩:=OV.split B5;rw[d,Cz,Cz]at DP;exact DP.1.2.1
  rw[LL]at N;have L:=(List.nodup_cons.mp (List.nodup_cons.mp N).2).2;have I:Mc ns f=ns:=by unfold Mc;rw[hx]
  have G:KN ns Kg f (.int (g x y))=Kg.set n (.int (g x y)):=by unfold KN;rw[hx]
  rw[ep,I,G];rw[I,G]at B;obtain⟨l,r,d,J⟩:=K0 (BK MQ);have M:=Sg.i3 (m:=[]) (u:=.fz (.int (g x y))) (us':=us.set n (.fz (.int (g x y)))) j.st e.st hi B5 T (λb c=>by rw[OV.Ih]at c;cases c) (by simp) (LB.set n (.fz (.int _))) B (by
   rw[J];rw[d]at L;exact Sr L (by rw[OV.Ih];exact RE) λb c=>by rw[OV.Ih]at c;cases c) λb c=>by
    rw[J,OV.Ih]at c;rcases List.mem_append.mp c with z|z
    .rcases List.mem_append.mp z with z|z
     .exact .inl (by rw[d];simp[z])
     .cases z
    .exact .inl (by rw[d];simp[z])
  exact hn _ Z F2 _ kk M (j.ff.trans e.ff)⟩
end
end Fz
namespace L2
section
variable{X:Cx}{o e:Expr}{td ty:TE}{apos Be:Pos}
theorem nM(ho:QE X o td)(b:QE X e ty)(m:M1 X o "pop" apos e Be):QE X (.Call (.Attribute o "pop" apos) [e] [] Be) (Vw td ty):=⟨by
 have ho:=ho.h;have b:=b.h;intro ZA s Z H Q I h;refine wpAny_Call_method m.base m.few m.line PySem.F.plainAttrs_dict ZIa PySem.F.type_dict_pop (ho.k I h λu s1 x H1 I1 i⟨a,ex,d,n⟩=>?_);subst ex;obtain rfl:u=Value.ref a:=i;obtain⟨f,c,_⟩:=yV I1 d;refine⟨f,c,?_⟩;rw[m.trees];refine oW rfl (cQ (oX (b.k I1 n λt s2 y H2 I2 g⟨A6,k,v,ea,p,l,j⟩=>oY ?_)));subst p;exact ZC2 I2 ea g l (.inl rfl) λq r I3 Gp=>⟨v,_,I3,Gp,j⟩⟩
end
end L2
namespace Fz
open L2 Lw
theorem jB:∀{ks:List Key}{vs:List V}{key:Key}{n:Nat},ks.Nodup->Cd ks key=some n->ks.length=vs.length->LC (ks.zip vs) key=(ks.eraseIdx n).zip (vs.eraseIdx n)
 | [],_,_,_,_,h,_=>by cases h
 |_::_,[],_,_,_,_,hl=>by simp at hl
 |k'::ks,w::vs,key,n,nd,h,hl=>by
  obtain⟨n1,n2⟩:=List.nodup_cons.mp nd;rw[Cd]at h;unfold LC;rw[KC,cW]
  by_cases c:k'=key
  .rw[tX c]at h;cases h;rw[qg (by simp[c])];show List.filter _ _=ks.zip vs;refine List.filter_eq_self.mpr λd f=>?_;have:d.1∈ks:=(VI (a:=d.1) (b:=d.2) f).1;exact pX λz=>n1 (by rw[c,<- z];exact this)
  .rw[qg c]at h;cases e:Cd ks key with
   |none=>rw[e]at h;cases h
   |some m=>
    rw[e]at h;cases h;rw[tX (pX c)];have g:=jB (vs:=vs) n2 e (by simpa using hl)
    unfold LC at g;rw[g];rfl
theorem Xy{α:Type}:∀(l:List α)(n:Nat),n<l.length->(l.eraseIdx n).length=l.length - 1
 | [],_,h=>by simp at h
 |_::_,0,_=>rfl
 |x::t,n+1,h=>by
  have h':n<t.length:=by simpa using h
  rw[RB,Ck,Xy t n h',Ck];omega
theorem BY.ZCW{F H:Hp}:∀{vs:List V}{us:List OV}(n:Nat),BY F H vs us->BY F H (vs.eraseIdx n) (us.eraseIdx n):=by
 intro vs us n r
 induction us generalizing vs n with
 |nil=>cases r.DZ;exact .nil
 |cons p ps c=>
  obtain⟨v,ws,rfl,a,b⟩:=r.inv;cases n with
  |zero=>exact b
  |succ n=>exact .cons a (c n b)
theorem bj:∀(us:List OV)(n:Nat),(OV.Ax (us.eraseIdx n)).Sublist (OV.Ax us)
 | [],_=>ZIA _
 |u::us,0=>by rw[List.eraseIdx_cons_zero,OV.Cv];exact List.sublist_append_right _ _
 |u::us,n+1=>by rw[RB,OV.Cv,OV.Cv];exact List.Sublist.append (ZIA _) (bj us n)
section
variable[Xw]
variable{ss:List Slot}{td ty:TE}{nx:List Slot->Prop}{R:Ad}{i:Nat}{t:OV}
theorem dQ(h:Wl ss i t td λp u=>∃lt a ks us,ss[i]?=some (.ow lt t)/\u=.nd (.B2 ks) a us/\ks.Nodup/\Wp ss ty λq=>∃key n,q=Ge key/\Cd ks key=some n/\nx (ss.set i (.ow lt (t.put p (.nd (.B2 (ks.eraseIdx n)) a (us.eraseIdx n)))))):Ws ss (Kv (Vw td ty)) nx R:=⟨λE D Z F H S hn U=>
 h.go E Z F H _ S λv p u F1 H1 d g B5⟨lt,a,ks,us,hi,G,y,h2⟩=>by
  subst G;have C:v=.ref a:=by cases g;rfl
  subst C;have L:=g;cases g with
  |@nd _ _ IU _ j o A r=>
   refine⟨a,rfl,.inl ⟨_,.inl j⟩,h2.go E Z F1 H1 _ d.st λN q F2 H2 c w⟨key,n,eq,hx,kk⟩=>?_⟩;subst eq;have s:=L.mv d.st ⟨lt,hi⟩ B5 c;cases s with
   |@nd _ _ vs _ z P B f=>
    have K:ks.length=vs.length:=B;have vl:=f.length;have J:n<ks.length:=(List.getElem?_eq_some_iff.mp (ai hx)).1;have x:=BK (show n<vs.length by omega);refine⟨_,key,_,z,MV w,ZU hx x,?_⟩;obtain⟨O,e0,Q,DP,T⟩:=c.st.ok i _ hi;have k:(OV.nd (.B2 ks) a us).addrs.Nodup:=by
     obtain⟨l,f,I,_⟩:=OV.split B5;rw[I,Cz,Cz]at DP;exact DP.1.2.1
    rw[LY]at k;rw[jB y hx K];have M:=Sg.gP (m:=[]) (u:=.fz .A9) (ks':=ks.eraseIdx n) (us':=us.eraseIdx n) d.st c.st hi B5 (λb e=>by rw[OV.Ih]at e;cases e) (by simp) (f.ZCW n) (by rw[Xy _ _ J,Xy _ _ (by omega)];omega) ((List.nodup_cons.mp k).2.sublist (bj us n)) λb e=>.inl ((bj us n).subset e);exact hn _ Z F2 _ kk M (d.ff.trans c.ff)⟩
end
end Fz
namespace L2
def Dz(P:Program)(w:World)(K:ZJa)(mg:ZJc)(ZB:Heap)(C:Addr)(m:Str)(k:Nat)(ps:List Str)(sp:Sp):Prop:=
 ∃f fd,CQ P w K mg ZB DW k f fd ps sp/\Binds K fd ps []/\Meth K C m f/\C3 K C
def QD(P:Program)(w:World)(K:ZJa)(mg:ZJc)(ZB:Heap)(C:Addr)(k:Nat)(ps:List Str)(sp:Sp):Prop:=
 ∃f fd,CQ P w K mg ZB DW k f fd ps sp/\Binds K fd ps []/\Mk K C f
section
variable{X:Cx}{o e:Expr}{es:List Expr}{m x:Str}{C:Addr}{k j:Nat}{ps:List Str}{sp:Sp}{ta:TE}{t:TA}{apos pos p:Pos}
theorem Gr{pl:Sem Bool}(h:Dz X.prog X.w X.K X.mg X.base C m k ps sp)(a:Ba j X.A)(g:k<=j)(i:QE X o ta)(l:QA X (e::es) t)
  (BO:Ce X e es:=by rfl) (BZ:BEq X pos es:=by rfl)
  (ht:eval (.Call (.Attribute o m apos) (e::es) [] pos) X.env=(do
   let ov <- eval o X.env
   standAt apos.atName
   let (f,first) <- holding [ov] (getMethod ov m pl)
   callWith pos f first (backTo pos (starEach (e::es) X.env)) (backToKw pos (keywordEach [] X.env))):=by rfl) :
  QE X (.Call (.Attribute o m apos) (e::es) [] pos) (MC C m sp [] E0 ta t):=by
 obtain⟨f,fd,F,b,d,c⟩:=h;exact⟨qR i.h c d (F.mono g) a b .nil Xl l.h BO BZ ht⟩
theorem kq(h:QD X.prog X.w X.K X.mg X.base C k ps sp)(a:Ba (j+1) X.A)(d:k<=j)(c:X.mg x=some (.ref C))(i:QA X (e::es) t)(g:Gl X x:=by rfl)(BN:Zq0 x:=by decide)
  (he:Ce X e es:=by rfl) (BZ:BEq X pos es:=by rfl):QE X (.Call (.Name x p) (e::es) [] pos) (XU C sp [] E0 t):=by
 obtain⟨f,fd,F,b,M⟩:=h;exact⟨ZFw M (F.mono d) a g c b .nil Xl i.h BN he BZ⟩
variable{prog:Program}{w:World}{A:Around}{E:Value->Shared->Prop}{s:Shared}
end
end L2
set_option maxHeartbeats 200000
set_option maxHeartbeats 4000000
namespace L2
def Zj(K:ZJa)(S:Addr)(tb:(St->XK)->TS)(th:TS):TS:=λD Z H=>∃E1:St->XK,tb E1 D Z H/\
 ∀ σ1 C dx ea H1,E1 σ1 (.ref C) dx H1->H1 ea=none->PySem.W.exmOne K (.ref C) (.ref S)=some true/\th D σ1 H1
section
variable{X:Cx}{x:Str}{S:Addr}{body CZ:List Stmt}{b0:Stmt}{np JC pos:Pos}{Iq:(St->XK)->TS}{th:TS}
theorem rD(BO:X.stack=X.env::X.outer)(M:X.ex=[])(J:Gl X x)(G:X.mg x=some (.ref S))
  (j:∀(pn:ZJb)(xe:Value->Shared->Prop)(E1:St->XK),Goes (X.Ee pn xe) E1->E2 (X.Ee pn xe) body (Iq E1))
  (hh:∀e,E2 (X.CZ e) (b0::CZ) th) (BN:Zq0 x:=by decide) :
  QS X (.Try body [.ExceptHandler (some (.Name x np)) none (b0::CZ) JC] [] [] pos) (Zj X.K S Iq th):=⟨by
 have j:=λpn xe E1 g=>(j pn xe E1 g).h;have hh:=λe=>(hh e).h;intro ZA s Z H D I h;obtain⟨E1,h1,h2⟩:=h;have B:X.env.frame=some X.env.locals:=by
  rcases I.ok.JA with e|⟨_,B⟩
  .rw[e]at BO;exact absurd (vB List.length BO) (by simp)
  .exact B
 refine wpAny_Try_except ?_;refine ud (j (X.pn++ZA) _ E1 ?_ [] s Z H D I.Ee h1) (λf s1 q=>?_) (λe s1 q=>q)
 .intro aR σ1 H1 s1 ea C dx tb I1 E ⟨A,m⟩ k i P;have c:Inv X ZA σ1 H1 s1:=I1.HQ;have m:X.s₀.heap.get? ea=none:=m;have k:∀T,tb=some T->H1 T=none/\X.s₀.heap.get? T=none:=k;have i:∀p∈X.pn++ZA,p.1≠ea/\tb≠some p.1:=λp q=>i p (IC _ q);refine Vn (outer:=X.outer) (L:=X.env.locals) (by rw[<- BO];exact c.ok.frames) (ZB:=X.base) (by rw[<- BO];exact c.stack) B E λh' T kp a t=>?_;have n:=c.RP BO E A m k i kp;obtain⟨U,Y⟩:=h2 σ1 C dx ea H1 P A;refine wpAny_handleBy_cons ?_ (λz=>by cases z);refine codeAny_handlers_test ?_;refine Je (X:=X.CZ (.ref ea)) n.CZ J G ?_ BN;obtain⟨oe,vs,N,O,hd,HR,hz,h3⟩:=t.obj;have LT:PySem.W.Looks (model X.prog X.w) h' (typeOf (.ref ea)) (.ref C):=by
   rw[<- O];exact(ZIg N).andThen .now
  refine(PySem.W.exm_one (K:=X.K) n.Bv LT U).here ?_;refine codeAny_handlers_suite ?_;have Q:∀b∈CU (X.env::X.outer),∃o,h'.get? b=some o/\∀vs,o.data≠.fields vs:=λb j=>by
   have st:=n.stack;rw[BO]at st;obtain⟨_,o,ho,hn⟩:=st.mem j;exact⟨o,ho,hn⟩
  refine ZR (s:={ s1 with heap:=h' }) (l:=X.env::X.outer) t Q λh4 V x4=>?_
  have σ:∀T',some T=some T'->H1 T'=none/\X.s₀.heap.get? T'=none:=λT' R=>by
   cases R;exact a.elim (λa=>⟨c.AH.fresh a,Oc (Bi c.sz a)⟩) (k T)
  have Vl:∀p∈X.pn++ZA,p.1≠ea/\some T≠some p.1:=λp q=>⟨(i p q).1,λz=>a.elim (λa=>by
   have F:=BE (c.pin p q).1;rw[<- Bs z]at F;exact absurd F (Nat.not_lt.mpr a)) λy=>(i p q).2 (y.trans z)⟩
  have I4:=n.RP BO t A m σ Vl V;refine ud (hh (.ref ea) ZA _ _ _ D I4.CZ Y) (λf s7 q=>?_) (λ_ _ z=>z.elim);cases f with
  |next=>
   obtain⟨σ7,H7,I7,d⟩:=q;exact⟨_,_,I7.L5 I.ok,d⟩
  |brk=>
   obtain⟨σ7,H7,I7,d⟩:=q;exact⟨_,_,I7.L5 I.ok,d⟩
  |cont=>
   obtain⟨σ7,H7,I7,d⟩:=q;exact⟨_,_,I7.L5 I.ok,d⟩
  |ret u=>
   obtain⟨v,σ7,H7,I7,r,d⟩:=q;exact⟨v,_,_,I7.L5 I.ok,r,d⟩
 .cases f with
  |next=>
   obtain⟨σ7,H7,I7,d⟩:=q;exact yc ⟨_,_,I7.HQ,d⟩
  |brk=>
   obtain⟨σ7,H7,I7,d⟩:=q;exact⟨_,_,I7.HQ,d⟩
  |cont=>
   obtain⟨σ7,H7,I7,d⟩:=q;exact⟨_,_,I7.HQ,d⟩
  |ret u=>
   obtain⟨v,σ7,H7,I7,r,d⟩:=q;exact⟨v,_,_,I7.HQ,r,d⟩⟩
end
end L2
namespace Fz
open L2 Lw
section
variable[Xw]
variable{ss:List Slot}{nx:List Slot->Prop}{R:Ad}{K:ZJa}{S:Addr}{tb:(L2.St->XK)->TS}{th:TS}{ta te ti:TE}{xs:List PV}{F:Hp}
theorem uL(J:List Slot->Prop)(Dx:Ex->Prop)(g:∀E:Ent0,@Ws (HZ E J Dx) ss (tb (HZ E J Dx).e) nx R)
  (hh:∀IQ x,J IQ->Dx x->PySem.W.exmOne K (.ref x.C) (.ref S)=some true/\Ws IQ th nx R):Ws ss (Zj K S tb th) nx R:=⟨λE D Z F H S0 hn b=>by
 refine⟨(HZ (E.toEnt0.at F) J Dx).e,@Ws.go (HZ (E.toEnt0.at F) J Dx) _ _ _ _ (g (E.toEnt0.at F)) (@Ent.mk (HZ (E.toEnt0.at F) J Dx) (E.toEnt0.at F) λss Z F H x C dx a S d B5=>⟨ss,F,x,a,S,d,B5⟩) D Z F H S0.mV (λAI σ' F' H' n S' ff=>hn AI σ' F' H' n (S0.un S') ff) (λv F' H' f ok=>b v F' H' (S0.toFin.un f) (Ad.un ok)),λσ1 C dx ea H1 c MT=>?_⟩;obtain⟨IQ,F1,x,a,S1,h,i,B5⟩:=c;obtain⟨Kr,hw⟩:=hh IQ x a h;cases i;have j:=S0.un S1;exact⟨Kr,hw.go E D _ _ _ j (λDt σ2 F3 H3 n2 S2 ff=>hn _ _ F3 H3 n2 S2 (S1.f0.trans ff)) λv F' H' f ok=>b v F' H' f ok⟩⟩
end
end Fz
namespace Fz
open L2 Lw
variable{ss:List Slot}{ta tb:TE}
section
variable[Xw]
variable{E:Ent0}{Z:L2.St}{F H F' H':Hp}{K:ZJa}{tc te:TE}{k:PV->Prop}{xs:List PV}{nx:List Slot->Prop}{R:Ad}
variable{pre:EG}{t:TA}
theorem dE{k:List Nat->OV->Prop}(h:Wa ss t λl=>∃k' D,pre l (.ow k') D/\Xw.J ss/\(∀x,D x->Xw.D x)/\∀u,k' u->k [] u):Wx ss (OR (C6 pre) Xw.e t) k:=⟨λE Z F H Q S q=>
 h.go E Z F H _ S λvs l F1 H1 b a⟨k',D,j,m,n,kk⟩=>by
  refine⟨l,.ow k',D,F1,[],j,b.st.Nf a,λv F' H' f⟨u,r,nd,c,i⟩=>?_,λx C dx F' H' f d B5=>?_⟩
  .exact q v [] u F' H' (b.trans (b.st.back (λ_ h=>absurd h BA) f)) r nd (λa g=>⟨(c a g).1,S.Ei (b.none (c a g).2),.inr (b.none (c a g).2)⟩) (kk u i)
  .exact E.hx ss Z F' H' x C dx m (b.st.back (λ_ h=>absurd h BA) f).st (n x d) B5⟩
end
end Fz
namespace L2
noncomputable def Iz(s:Stmt)(n:Nat):Stmt:=match s with
 | .ClassDef _ _ _ b ..=>b.getD n (.Pass ⟨0,0,0,0⟩)
 |s=>s
end L2
namespace Fz
open L2 Lw
@[reducible] noncomputable def xwM (X:XK) (t:OV) (D:Ex->Prop):Xw:=⟨λ_=>X,λss=>ss[0]?=some (.ow true t),D⟩
variable{pre:Pre}{R:Ad}{AI ss:List Slot}
section
variable{pre:EG}{H:Hp}
def Te(R:Ad)(AI:List Slot):Prop:=∃(k:PV->OV->Prop)(nk:NK)(a:Addr)(us:List OV),R=.mt k/\AI[0]?=some (.ow true (.nd nk a us))/\k .A9 (.nd nk a us)
theorem Te.ok{E:Ent0}{Z:L2.St}{F:Hp}(h:Te R AI)(S:Sg E AI Z F H):R.ok E F H .A9:=by
 obtain⟨k,nk,a,us,rfl,i,g⟩:=h;obtain⟨f,e0,c,DP,d⟩:=S.ok 0 _ i;have j:f=.ref a:=by cases c;rfl
 subst j;exact⟨.A9,.nd nk a us,.A9,c,DP,λb e=>⟨(d b e).1,(d b e).2.imp id λz=>z.2⟩,g⟩
end
section
variable{P:Program}{w:World}{K:ZJa}{mg:ZJc}{ZB:Heap}{x qual:Str}{st:Stmt}{f:Addr}{fd:FuncData}{N ps:List Str}{k:Nat}
theorem ZT(F:AE K x qual st f fd)(S:Ao N ps (AO st))(a:∀ss R,pre ss R->ss.length=ps.length)
  (c:∀{Ai:Value}{A:Around}{outer:List Env}{s:Shared}{H:Hp}{E:XK},Ba k (A.deeper (envOfC qual (AO st) s.heap.objs.size f Ai))->
   ∃t,E2 (DG DW P w K mg ZB N qual (AO st) f Ai A outer s H E).Jn (El st) t/\∀ss R,pre ss R->Ws (ss++List.replicate (N.length - ps.length) .any) t (λ_=>∃k,R=.is k/\k .A9) R):CQ P w K mg ZB DW (k+1) f fd ps (B6 pre):=
 F.E4 S (λvs H Q E h=>ZBN a h) λAi A outer s H vs Q E b h=>let ⟨t,q,r⟩:=c b;⟨t,q,ZBw h a r⟩
theorem NG(F:AE K x qual st f fd)(S:Ao N ps (AO st))(a:∀ss R,pre ss R->ss.length=ps.length)
  (c:∀{Ai:Value}{A:Around}{outer:List Env}{s:Shared}{H:Hp}{E:XK},Ba k (A.deeper (envOfC qual (AO st) s.heap.objs.size f Ai))->
   ∃t,E2 (DG DW P w K mg ZB N qual (AO st) f Ai A outer s H E).Jn (El st) t/\∀ss R,pre ss R->Ws (ss++List.replicate (N.length - ps.length) .any) t (λ_=>False) R):CQ P w K mg ZB DW (k+1) f fd ps (Bx pre):=
 F.E4 S (λvs H Q E h=>Qs a h) λAi A outer s H vs Q E b h=>let ⟨t,q,r⟩:=c b;⟨t,q,yW h a r⟩
theorem fnX{pre:EG}(F:AE K x qual st f fd)(S:Ao N ps (AO st))(a:∀ss R D,pre ss R D->ss.length=ps.length)
  (c:∀{Ai:Value}{A:Around}{outer:List Env}{s:Shared}{H:Hp}(E:XK),Ba k (A.deeper (envOfC qual (AO st) s.heap.objs.size f Ai))->
   ∃t,E2 (DG (GH P w) P w K mg ZB N qual (AO st) f Ai A outer s H E) (El st) t/\∀ss R D,pre ss R D->let _i:Xw:=T8 E D;Ws (ss++List.replicate (N.length - ps.length) .any) t (λ_=>∃k,R=.is k/\k .A9) R):CQ P w K mg ZB (GH P w) (k+1) f fd ps (C6 pre):=
 F.uj S (λvs H Q E h=>ZA3 a h) λAi A outer s H vs Q E b h=>let ⟨t,q,r⟩:=c E b;⟨t,q,ZHb h a r⟩
theorem hF(F:AE K x qual st f fd)(b:∀(kV a c:Value)(g:Option Addr)(Ai ct:Value)(us:List Value),us.length=ps.length->bindArgs (PySem.W.fnOf x qual (Ka st) (El st) (AO st) .none kV a c g Ai ct) ⟨us,[]⟩=pure (ps.zip us))(m:mg x=some (.ref f))(S:Ao N ps (AO st))(d:∀ss R,pre ss R->ss.length=ps.length)
  (e:∀{Ai:Value}{A:Around}{outer:List Env}{s:Shared}{H:Hp}{E:XK},Ba k (A.deeper (envOfC qual (AO st) s.heap.objs.size f Ai))->
   ∃t,E2 (DG DW P w K mg ZB N qual (AO st) f Ai A outer s H E).Jn (El st) t/\∀ss R,pre ss R->Ws (ss++List.replicate (N.length - ps.length) .any) t (λ_=>∃k,R=.is k/\k .A9) R):AN P w K mg ZB x (k+1) ps (B6 pre):=
 AN.mk F (F.binds b) m (ZT F S d e)
theorem hM(F:AE K x qual st f fd)(b:∀(kV a c:Value)(g:Option Addr)(Ai ct:Value)(us:List Value),us.length=ps.length->bindArgs (PySem.W.fnOf x qual (Ka st) (El st) (AO st) .none kV a c g Ai ct) ⟨us,[]⟩=pure (ps.zip us))(m:mg x=some (.ref f))(S:Ao N ps (AO st))(d:∀ss R,pre ss R->ss.length=ps.length)
  (e:∀{Ai:Value}{A:Around}{outer:List Env}{s:Shared}{H:Hp}{E:XK},Ba k (A.deeper (envOfC qual (AO st) s.heap.objs.size f Ai))->
   ∃t,E2 (DG DW P w K mg ZB N qual (AO st) f Ai A outer s H E).Jn (El st) t/\∀ss R,pre ss R->Ws (ss++List.replicate (N.length - ps.length) .any) t (λ_=>False) R):AN P w K mg ZB x (k+1) ps (Bx pre):=
 AN.mk F (F.binds b) m (NG F S d e)
theorem hX{pre:EG}(F:AE K x qual st f fd)(b:∀(kV a c:Value)(g:Option Addr)(Ai ct:Value)(us:List Value),us.length=ps.length->bindArgs (PySem.W.fnOf x qual (Ka st) (El st) (AO st) .none kV a c g Ai ct) ⟨us,[]⟩=pure (ps.zip us))(m:mg x=some (.ref f))(S:Ao N ps (AO st))(d:∀ss R D,pre ss R D->ss.length=ps.length)
  (e:∀{Ai:Value}{A:Around}{outer:List Env}{s:Shared}{H:Hp}(E:XK),Ba k (A.deeper (envOfC qual (AO st) s.heap.objs.size f Ai))->
   ∃t,E2 (DG (GH P w) P w K mg ZB N qual (AO st) f Ai A outer s H E) (El st) t/\∀ss R D,pre ss R D->let _i:Xw:=T8 E D;Ws (ss++List.replicate (N.length - ps.length) .any) t (λ_=>∃k,R=.is k/\k .A9) R):C8 P w K mg ZB x (k+1) ps (C6 pre):=
 C8.mk F (F.binds b) m (fnX F S d e)
end
end Fz
namespace L2
variable{x:Str}{r:List V->Hp->VK->Prop}{op:CmpOp}
section
variable{X:Cx}{a b e o:Expr}{es:List Expr}{ta tb te:TE}{t:TA}{pos p:Pos}
theorem Ar{id:String}(c:DQ X (.builtin id) r)(a:X.mg x=none)(d:QA X (e::es) t)(b:Gl X x:=by rfl)(hv:bootBuiltins x=some (.builtin id):=by decide+kernel)(hn:x ≠"__name__" := by decide)(BN:Zq0 x:=by decide)
  (he:Ce X e es:=by rfl) (BZ:BEq X pos es:=by rfl):QE X (.Call (.Name x p) (e::es) [] pos) (DH r t):=yG c b a hv d hn BN he BZ
theorem Cy{T:String}(c:DQ X (.type T) r)(a:X.mg x=none)(d:QA X (e::es) t)(b:Gl X x:=by rfl)(hv:bootBuiltins x=some (.type T):=by decide+kernel)(hn:x ≠"__name__" := by decide)(BN:Zq0 x:=by decide)
  (he:Ce X e es:=by rfl) (BZ:BEq X pos es:=by rfl):QE X (.Call (.Name x p) (e::es) [] pos) (DH r t):=ZEH c b a hv d hn BN he BZ
theorem AF{r:R2}(d:J7 X r)(f:QE X a ta)(e:QE X b tb)(c:XQ b:=by exact λ_ _=>rfl):QE X (.Subscript a b pos) (CB r ta tb):=ZBT d f e c
theorem Ac{j k:Nat}{ps:List Str}{sp:Sp}(h:AN X.prog X.w X.K X.mg X.base x k ps sp)(a:Ba j X.A)(c:QA X (e::es) t)(b:k<=j:=by decide)(hg:Gl X x:=by rfl)(BN:Zq0 x:=by decide)
  (he:Ce X e es:=by rfl) (BZ:BEq X pos es:=by rfl):QE X (.Call (.Name x p) (e::es) [] pos) (ES sp [] E0 t):=pL h a b c hg BN he BZ
theorem IJ{r:R2}(ho:Bc X (compareOp op) r)(e:QE X a ta)(d:QE X b tb)(c:behindInMarks op b=false:=by first|exact mh _|with_unfolding_all rfl):QE X (.Compare a [op] [b] pos) (CB r ta tb):=ZFo ho e d c
theorem AR{r:R2}(ho:Bc X (compareOp op) r)(e:QE X a ta)(d:QE X b tb)(c:behindInMarks op b=false:=by first|exact mh _|with_unfolding_all rfl):QT X (.Compare a [op] [b] pos) (OP (CB r ta tb)):=ZDE ho e d c
theorem Au(i:Nat){pos':Pos}(b:X.N.Nodup)(a:QE X e te)(hi:X.N[i]?=some x:=by rfl)(hx:Loc X.env.scope x:=by first|exact Or.inl rfl|exact Or.inr rfl)(hs:swapsWith e (some (.Name x pos')) pos.line X.env=pure false:=by rfl)(hf:Zq1 X x:=by first|exact .inl rfl|exact .inr rfl|assumption):
  QS X (.Assign [.Name x pos'] e pos) (FR te (Co i)):=ZCK b hi hx a hs hf
theorem D3(i:Nat)(a:X.N.Nodup)(hi:X.N[i]?=some x:=by rfl)(hx:Loc X.env.scope x:=by first|exact Or.inl rfl|exact Or.inr rfl)(hf:Zq1 X x:=by first|exact .inl rfl|exact .inr rfl|assumption):QG X (.Name x pos) (Co i):=ZGL a hi hx hf
end
end L2
namespace Fz
open L2 Lw
variable{x:Str}{cs ns:List Str}{d':Ak}{ss:List Slot}{ta tb tc te:TE}
inductive Ag where
 |put (x:Str) (i:Int)|take (x:Str)|move (x:Str) (i:Int)|turn (lo hi:Int)
def aP:Ag->PV
 | .put x i=>.tup [.str "put",.str x,.int i]
 | .take x=>.tup [.str "take",.str x]
 | .move x i=>.tup [.str "move",.str x,.int i]
 | .turn lo hi=>.tup [.str "turn",.int lo,.int hi]
structure GZ where
 noName:Addr
 there:Addr
 gone:Addr
 PZ:Addr
 full:Addr
noncomputable def HS(C:Addr)(nm:Str):Ex:=⟨C,["name"],[.str nm]⟩
noncomputable def RN(C:Addr)(i:Int):Ex:=⟨C,["at"],[.int i]⟩
noncomputable def yH(C:Addr):Ex:=⟨C,[],[]⟩
def inR(i:Int)(lo hi:Int):Prop:=lo<=i/\i<=hi
instance {i lo hi:Int}:Decidable (inR i lo hi):=by unfold inR;infer_instance
def Ag.B3(c:GZ)(ns:List Str):Ag->Option Ex
 | .put x i=>if isNm x=false then some (HS c.noName x)else if x∈ns then some (HS c.there x)else if ¬ inR i 0 ns.length then some (RN c.PZ i)else if 40<=ns.length then some (yH c.full)else none
 | .take x=>if x∉ns then some (HS c.gone x)else none
 | .move x i=>if x∉ns then some (HS c.gone x)else if ¬ inR i 0 (ns.length - 1)then some (RN c.PZ i)else none
 | .turn lo hi=>if ¬ inR lo 0 ns.length then some (RN c.PZ lo)else if ¬ inR hi lo ns.length then some (RN c.PZ hi)else none
def Bz(x:Str):Prop:=(reprText x).length<=100000/\x.length<=1000
def Ep(i:Int):Prop:=i.natAbs.log2<1920
def Ag.say:Ag->Prop
 | .put x i=>Bz x/\Ep i
 | .take x=>Bz x
 | .move x i=>Bz x/\Ep i
 | .turn lo hi=>Ep lo/\Ep hi
def Ag.Is(d:Ag)(ns:List Str)(d':Ak):Prop:=aP d=dP d'/\d'.Ok 40 ns
theorem ZE5{c:Nat}(h:Lu c=true):97<=c/\c<=122:=by
 refine K8 λhn=>?_;have e:∀i,i<26->J8.cps.extract i (i+1)=#[97+i]:=by decide+kernel
 have a:∀i,i+(Str.length ⟨#[c]⟩)<=J8.length->Builtin.Str.subAt J8 ⟨#[c]⟩ i=false:=λi hi=>by
  have d:i+1<=26:=hi;show(J8.cps.extract i (i+1) == #[c])=false;rw[e i (by omega)];cases b:(#[97+i] == #[c])with
  |false=>rfl
  |true=>
   have q:=eq_of_beq b;simp at q;exact absurd ⟨by omega,by omega⟩ hn
 unfold Lu at h;rw[PySem.W.occ_nil_of_no _ _ 1 a]at h;exact absurd h (by decide)
theorem dS(h:isNm x=true):Nm x:=by
 unfold isNm at h;simp only[Dm,decide_eq_true_eq,Im]at h;obtain⟨h1,h2,b⟩:=h;exact⟨by omega,by omega,λc a=>ZE5 (b c a)⟩
theorem Ag.good{c:GZ}{d:Ag}(h:d.B3 c ns=none):∃d':Ak,d.Is ns d':=by
 cases d with
 |put x i=>
  simp only[Ag.B3]at h;split at h
  .cases h
  .next h1=>
   split at h
   .cases h
   .next h2=>
    split at h
    .cases h
    .next h3=>
     split at h
     .cases h
     .next h4=>
      have f:inR i 0 ns.length:=Decidable.not_not.mp h3;obtain⟨a,b⟩:=f;obtain⟨n,rfl⟩:=DB a;refine⟨.put x n,rfl,dS (by cases e:isNm x <;> simp_all),h2,by omega,by omega⟩
 |take x=>
  simp only[Ag.B3]at h;split at h
  .cases h
  .next h1=>exact⟨.take x,rfl,(Decidable.not_not.mp h1:x∈ns)⟩
 |move x i=>
  simp only[Ag.B3]at h;split at h
  .cases h
  .next h1=>
   split at h
   .cases h
   .next h3=>
    have f:inR i 0 (ns.length - 1):=Decidable.not_not.mp h3;obtain⟨a,b⟩:=f;obtain⟨n,rfl⟩:=DB a;exact⟨.move x n,rfl,Decidable.not_not.mp h1,by omega⟩
 |turn lo hi=>
  simp only[Ag.B3]at h;split at h
  .cases h
  .next h1=>
   split at h
   .cases h
   .next h3=>
    have j:inR lo 0 ns.length:=Decidable.not_not.mp h1;have f:inR hi lo ns.length:=Decidable.not_not.mp h3;obtain⟨a,b⟩:=j;obtain⟨g,k⟩:=f;obtain⟨n,rfl⟩:=DB a;obtain⟨m,rfl⟩:=DB (Int.le_trans a g);exact⟨.turn n m,rfl,by omega,by omega⟩
noncomputable def Lo:Ak->Ag
 | .put x i=>.put x i
 | .take x=>.take x
 | .move x i=>.move x i
 | .turn lo hi=>.turn lo hi
theorem yY(d:Ak):aP (Lo d)=dP d:=by cases d <;> rfl
theorem ZFr{c:GZ}{d:Ak}(h:d.Ok 40 ns):(Lo d).B3 c ns=none:=by
 cases d with
 |put x i=>
  obtain⟨h1,h2,b,a⟩:=h;simp only[Lo,Ag.B3];rw[qg (by rw[ZAD h1];decide),qg h2,qg (Decidable.not_not.mpr ⟨by omega,by omega⟩),qg (by omega)]
 |take x=>simp only[Lo,Ag.B3];rw[qg (Decidable.not_not.mpr (show x∈ns from h))]
 |move x i=>
  obtain⟨h1,h2⟩:=h;simp only[Lo,Ag.B3];rw[qg (Decidable.not_not.mpr h1),qg (Decidable.not_not.mpr ⟨by omega,by omega⟩)]
 |turn lo hi=>
  obtain⟨h1,h2⟩:=h;simp only[Lo,Ag.B3];rw[qg (Decidable.not_not.mpr ⟨by omega,by omega⟩),qg (Decidable.not_not.mpr ⟨by omega,by omega⟩)]
theorem PD:¬ Str.ofString "put"=Str.ofString "move" := by decide+kernel
theorem ZCx{d e:Ak}(h:dP d=dP e):d=e:=by
 cases d <;> cases e <;> simp[dP]at h <;> first|(exact absurd h.1 PD)|(exact absurd h.1.symm PD)|(obtain⟨a,b⟩:=h;subst a;congr;omega)|(obtain⟨a,b⟩:=h;congr <;> omega)|(subst h;rfl)
theorem WI{i:Int}(h:i.natAbs<2 ^ 1000):Ep i:=by
 unfold Ep
 by_cases z:i.natAbs=0
 .rw[z];decide
 .have:=(p8 z).mpr h;omega
theorem KO{i:Nat}(h:i<=1000000):Ep i:=WI (by
 have:(1000000:Nat)<2 ^ 1000:=by decide+kernel
 show Int.natAbs (i:Int)<_;rw[Int.natAbs_natCast];omega)
theorem Hd(h:Nm x):Bz x:=⟨pW h,by have:=h.2.1;omega⟩
theorem Ag.bT{d:Ag}(h:d.say)(e:d.Is ns d'):∀x,d'=.take x∨(∃i,d'=.move x i)->Bz x:=by
 rintro x(rfl|⟨i,rfl⟩)
 .have q:=e.1;cases d with
  |take y=>simp[aP,dP]at q;subst q;exact h
  |_=>simp[aP,dP]at q
 .have q:=e.1;cases d with
  |move y j=>simp[aP,dP]at q;rw[<- q.1];exact h.1
  |put y j=>simp[aP,dP]at q;exact absurd q.1 PD
  |_=>simp[aP,dP]at q
def Qa(C:Addr):EG:=λl R D=>∃(tp:Bool)(ns:List Str)(x:Str),l=[.sq tp (ns.map .str),.is (.str x)]/\Bz x/\(R=.is λp=>x∈ns/\p=.int (ns.idxOf x:Nat))/\D=λe=>x∉ns/\e=HS C x
def fS(c:GZ):EG:=λl R D=>∃(tp:Bool)(ns:List Str)(x:Str)(i:Int),l=[.sq tp (ns.map .str),.is (.str x),.is (.int i)]/\(Bz x/\Ep i)/\(R=.is λp=>(Ag.put x i).B3 c ns=none)/\D=λe=>(Ag.put x i).B3 c ns=some e
def lE(c:GZ):EG:=λl R D=>∃(tp:Bool)(ns:List Str)(x:Str)(i:Int),l=[.sq tp (ns.map .str),.is (.str x),.is (.int i)]/\(Bz x/\Ep i)/\(R=.is λp=>(Ag.move x i).B3 c ns=none)/\D=λe=>(Ag.move x i).B3 c ns=some e
def jh(c:GZ):EG:=λl R D=>∃(tp:Bool)(ns:List Str)(lo hi:Int),l=[.sq tp (ns.map .str),.is (.int lo),.is (.int hi)]/\(Ep lo/\Ep hi)/\(R=.is λp=>(Ag.turn lo hi).B3 c ns=none)/\D=λe=>(Ag.turn lo hi).B3 c ns=some e
def ig(c:GZ):EG:=λl R D=>∃(tp:Bool)(ns:List Str)(d:Ag),l=[.sq tp (ns.map .str),.is (aP d)]/\d.say/\(R=.is λp=>d.B3 c ns=none)/\D=λe=>d.B3 c ns=some e
def gj:Pre:=λl R=>∃(g i:Nat),l=[.is (.int g),.is (.int i)]/\R=.is λp=>p=.int (I0 i g:Nat)
def j3:Pre:=λl R=>∃(g i:Nat),l=[.is (.int g),.is (.int i)]/\R=.is λp=>p=.int (GS i g:Nat)
def o6:Pre:=λl R=>∃(tp:Bool)(ns:List Str)(g:Nat)(d:Ak),l=[.sq tp (ns.map .str),.is (.int g),.is (dP d)]/\d.Ok 40 ns/\(∀x,d=.take x∨(∃i,d=.move x i)->Bz x)/\R=.is λp=>p=.int (d.gap ns g:Nat)
def kB:Pre:=λl R=>∃(tp:Bool)(ns:List Str)(x:Str)(i:Nat),l=[.sq tp (ns.map .str),.is (.str x),.is (.int i)]/\ns.length<=1000/\R=.new λxs=>xs=(ins ns x i).map .str
def fe:Pre:=λl R=>∃(tp:Bool)(ns:List Str)(x:Str),l=[.sq tp (ns.map .str),.is (.str x)]/\ns.length<=1000/\R=.new λxs=>xs=(wo ns x).map .str
theorem SX(h:x.length<=100)(hx:∀c∈x.cps.toList,c<16 ^ 8):Bz x:=⟨iz h hx,by omega⟩
theorem ZC4{r:Int}(a:0<=r)(h1:r<1000):Ep (r - 1):=WI (by
 have:(1000:Nat)<2 ^ 1000:=by decide+kernel
 omega)
theorem TX{k:Nat}(h:k<ns.length):∃x,x∈ns/\L2.Bt (ns.map PV.str) (k:Int)=some (.str x):=
 ⟨ns[k],Mn h,Kq (by rw[Bb,BK h];rfl)⟩
noncomputable def Nh(e:Ex):PV:=.exc e.C e.ns e.xs
theorem Is.zI{d:Ag}(h:d.say)(e:d.Is ns d'):(∀x,d'=.take x->Bz x)/\∀x i,d'=.move x i->Bz x:=⟨λx q=>Ag.bT h e x (.inl q),λx i q=>Ag.bT h e x (.inr ⟨i,q⟩)⟩
noncomputable def NA(r:Str)(g:Int)(cs:List Str):PV:=.tup [.str r,.int g,.tup (cs.map .str)]
section
variable[Xw]
variable{K:ZJa}{k:PV->Prop}{F:Hp}
theorem ZGZ{k:List PV->Prop}(h:Wp ss ta λp=>∃cs:List Str,p=.tup (cs.map .str)/\Wp ss tb λq=>∃ys:List Str,q=.tup (ys.map .str)/\ys≠[]/\(cs++ys).length<64/\∀Bq:List Str,Bq.Perm (cs++ys)->sortedS Bq=true->k (Bq.map PV.str)):Wn ss (DH (Y9 K) (An (CB (lF K) ta tb) BQ)) k:=⟨λE Z F H Q S q=>
 h.go E Z F H _ S λv p F1 H1 i t⟨cs,e,h2⟩=>h2.go E Z F1 H1 _ i.st λB p2 F2 H2 d r⟨ys,A,w,l,kk⟩=>by
  subst e;subst A;cases t with
  |@tup a vs _ o s1=>
   cases r with
   |@tup b ws _ n s2=>
    rw[s1.strs]at o;rw[s2.strs]at n;rw[CP]at l;refine⟨a,b,_,_,rfl,rfl,AW.of (d.st.fh _ _ (d.ff _ _ o)),AW.of (d.st.fh _ _ n),λz=>w (by simpa using z),small (by rw[AK,AK];omega),λc H3 s m=>?_⟩
    have f:=d.st.grow s;rw[<- Ec]at m;refine⟨c,true,cs++ys,rfl,m,by rw[CP];exact l,λa Bq g y x=>?_⟩;have u:=f.st.make g (.lst (Bq.map V.str));have j:=i.trans (d.trans f);exact q a _ _ F2 _ (j.trans u) (f.st.CC g) (j.none g) AX (OJ Bq) (kk Bq y x)⟩
end
def WC:Pre:=λl R=>∃(cs:List Str)(x:Str),l=[.is (.tup (cs.map .str)),.is (.str x)]/\cs.length<=1000/\R=.is λp=>p=.tup ((wo cs x).map .str)
def gi:Pre:=λl R=>∃(tp:Bool)(ns:List Str)(r:Str)(g:Nat)(cs:List Str)(x:Str),l=[.sq tp (ns.map .str),.is (NA r g cs),.is (.str x)]/\cs.length<=1000/\Bz x/\x∈ns/\R=.is λp=>p=Ey r (ns.idxOf x+1) (wo cs x)
def kF:Pre:=λl R=>∃(r:Str)(g i:Nat)(xs:List PV),l=[.is (.tup (.str r :: .int g::xs)),.is (.int i)]/\R=.is λp=>p=.bl (FF r g i)
def fV:Pre:=λl R=>∃(r:Str)(g:Nat)(cs:List Str)(d:Ak),l=[.is (NA r g cs),.is (dP d)]/\cs.length<=60/\Up cs/\(∀x i,d=.put x i->x∉cs)/\R=.is λp=>p=.tup ((d.Hk r g cs).map .str)
def mC:Pre:=λl R=>∃(tp:Bool)(ns:List Str)(r:Str)(g:Nat)(cs:List Str)(d:Ak),l=[.sq tp (ns.map .str),.is (NA r g cs),.is (dP d)]/\d.Ok 40 ns/\E5 ns r g cs/\ns.length<=40/\(∀x,d=.take x∨(∃i,d=.move x i)->Bz x)/\R=.is λp=>p=Ey r (d.gap ns g) (d.Hk r g cs)
theorem E5.step{r:Str}{g:Nat}(h:E5 ns r g cs):E5 ns r (nI ns g cs:Nat) (jO ns g cs):=by
 unfold nI jO;cases e:So ns g cs with
 |none=>exact h
 |some x=>
  have c:x∈GD ns g cs:=by
   unfold So at e;exact List.mem_of_mem_head? (by rw[e];rfl)
  obtain⟨a,d⟩:=RO.mp c;have:=List.idxOf_lt_length_iff.mpr a;exact⟨h.rule,by show(0:Int)<=((ns.idxOf x+1:Nat):Int);omega,by show((ns.idxOf x+1:Nat):Int)<=_;omega,ZE x h.up,λy b=>h.sub y (LN.mp b).1⟩
section
variable[Xw]
theorem jz{t:TT}{k k':Bool->Prop}(h:Wt ss t k')(c:∀b,k' b->k b):Wt ss t k:=⟨λE Z F H Q S q=>h.go E Z F H Q S λb F' H' m a=>q b F' H' m (c b a)⟩
end
structure Gk (m:Nat) (ns:List Str):Prop where
 len:ns.length<=m
 nm:∀x∈ns,Nm x
 nd:ns.Nodup
theorem Gk.done{m:Nat}{d:Ak}(h:Gk m ns)(ok:d.Ok m ns):Gk m (d.done ns):=by
 obtain⟨a,b,c⟩:=Ak.step ok h.nd h.nm h.len;exact⟨c,b,a⟩
structure Lp where
 r:Str
 g:Nat
 cs:List Str
def Lp.P(l:Lp):PV:=Ey l.r l.g l.cs
noncomputable def Gy(ns:List Str):List Str:=ns.foldr (λx r=>Gn r x) []
theorem Uj{x:Str}:∀{ns:List Str},x∈Gy ns↔x∈ns
 | []=>Iff.rfl
 |y::r=>by
  show x∈Gn (Gy r) y↔_;rw[Qk,Uj (ns:=r),GY]
theorem XA:∀{ns:List Str},ns.Nodup->Up (Gy ns)
 | [],_=>List.Pairwise.nil
 |y::r,h=>by
  obtain⟨h1,h2⟩:=List.nodup_cons.mp h;exact TC (XA h2) λz=>h1 (Uj.mp z)
theorem fO{ts:List Str}(nd:ns.Nodup)(a:ts.Perm ns)(st:sortedS ts=true):ts=Gy ns:=
 bX (mY st (a.nodup_iff.mpr nd)) (XA nd) λk=>by rw[a.mem_iff,Uj]
def Lp.led(ns:List Str)(d:Ak)(l:Lp):Lp:=⟨l.r,d.gap ns l.g,d.Hk l.r l.g l.cs⟩
def Lp.Good(ns:List Str)(l:Lp):Prop:=E5 ns l.r l.g l.cs
theorem eB{k:Nat}(h:k<3):∃r:Str,r∈KP/\L2.Bt [PV.str "none",.str "ahead",.str "all"] (k:Int)=some (.str r):=by
 have:k=0∨k=1∨k=2:=by omega
 rcases this with rfl|rfl|rfl
 .exact⟨_,by decide,rfl⟩
 .exact⟨_,by decide,rfl⟩
 .exact⟨_,by decide,rfl⟩
end Fz
namespace L2
section
variable{prog:Program}{w:World}{A:Around}{E:Value->Shared->Prop}{s:Shared}
theorem ml:typeLookup (.type "dict") "__len__"=pure (some (.builtin "dict.__len__")):=by rw[ZBC,ZAB];kernel_rfl
theorem xG{S:Addr}{A6:List (Key×Value)}{n:Nat}{Q:List Value->Shared->Prop}(hh:A.handled=none)(Iy:(S == sysModules)=false)(f:s.heap.DictOf (Cb prog w) S A6)(t:A6.length=n)(hn:n<=sizeLine)
  (h:∀(s':Shared)(vs:List Value),(∀b o,s.heap.get? b=some o->s'.heap.get? b=some o)->s.heap.objs.size<=s'.heap.objs.size->s'.gens=s.gens->s'.os=s.os->vs.length=n->(∀(i:Nat)v,vs[i]?=some v->∃k x,A6[i]?=some (k,x)/\(Cb prog w).is k v=true)->Q vs s') :
  wpAny (model prog w) A (collect (.ref S)) Q E s:=by
 obtain⟨d,f⟩:=f.dictAt;have I:S<s.heap.objs.size:=f.lt_size;have B:s.heap.objs.size≠S:=Ol I;unfold collect;refine pK (wpAny_runValue (ZAg F.entry_proto_collect ?_));rw[Around.under_plainId F.plain_proto_collect _];show wpAny _ A.in1 (newList [] >>= λl=>again (.builtin "list.__iadd__" ⟨[l,.ref S],[]⟩)) _ _ s;refine pK (xI ?_);refine qm ⟨ZAv F.plain_list_iadd _,ZAg F.entry_list_iadd ?_⟩;rw[Around.under_plainId F.plain_list_iadd _];generalize u:({ cls:=.type "list", data:=.seq ([]:List Value).toArray }:Obj)=so;have m:(s.heap.push so).DictAt (Cb prog w) S A6 d:=f.push _;have g:(s.heap.push so).get? s.heap.objs.size=some so:=CK _ (by rw[<- u];rfl);have sz:(s.heap.push so).objs.size=s.heap.objs.size+1:=HJ ..;have H:Shared.TypeIs { s with heap:=s.heap.push so } (.ref S) "dict" := m.dictOf.typeIs
 have h1:Builtin.List.listSameRef (.ref s.heap.objs.size) (.ref S)=false:=by simp[Builtin.List.listSameRef,B]
 show wpAny _ A.in1 (Builtin.List.listExtendWith (.ref s.heap.objs.size) (.ref S) (.ref s.heap.objs.size)) _ _ { s with heap:=s.heap.push so }
 unfold Builtin.List.listExtendWith;refine pK (xT H ?_);rw[qg (by rw[h1];decide)];refine pK (wpAny_pyIter_dict (s:={ s with heap:=s.heap.push so }) Iy m ?_)
 dsimp only;generalize j:({ cls:=.type "dict_keyiterator", data:=.fields #[.ref S,.int 0 0,.int A6.length 0,.int d 0] }:Obj)=io;have kp:∀b o,(s.heap.push so).get? b=some o->((s.heap.push so).push io).get? b=some o:=λb o e=>Bf _ e;have R:S≠(s.heap.push so).objs.size:=by rw[sz];exact Br (LS I)
 have W:∀A2:Around,A2.handled=none->Walks prog w A2 (s.heap.push so).objs.size [(s.heap.push so).objs.size,S] [(s.heap.push so).objs.size] A6.length _ _:=λA2 h2=>Walks.dictKeys (knd:=Cb prog w) h2 (s.heap.push so).objs.size S R A6 d;have D4:((s.heap.push so).push io).IsKeyIter (s.heap.push so).objs.size S 0 A6.length d/\((s.heap.push so).push io).DictAt (Cb prog w) S A6 d:=⟨⟨io,CK _ (by rw[<- j];rfl),by rw[<- j],by rw[<- j];rfl⟩,m.push _⟩;have D:s.heap.objs.size∉[(s.heap.push so).objs.size,S]:=λc=>by
  simp only[GY,BA,ZAO]at c;rcases c with z|z
  .rw[sz]at z;omega
  .exact B z
 generalize O:(s.heap.push so).push io=h2 at kp D4 ⊢;have p:Shared.TypeIs { s with heap:=h2 } (.ref S) "dict" := by obtain⟨o,ho,P⟩:=H;exact⟨o,kp _ _ ho,P⟩
 refine pK (vH ?_);unfold Builtin.List.listLengthHint;refine pK (zF p ml ?_);generalize C:("dict.__len__":String)=Qn
 wp_delta
 rw[show splitId Qn=some ("dict","__len__")from by subst C;decide +kernel];subst C;refine pK (ZB5 (b:=true) p (by rw[ZBM];kernel_rfl) ?_);rw[qg (by decide)];refine ZAc (λ_=>?_) (λEV=>absurd (by decide+kernel) EV);refine pK (xT p ?_);refine qm ?_;refine ZAc (λ_=>?_) (λEV=>absurd (by decide+kernel) EV);refine pK (zE ?_);refine pK ?_;show wpAny _ _ (updateSeq s.heap.objs.size (·.push .none) >>= λ_=>updateSeq s.heap.objs.size (·.pop)) _ _ _
 have L:(#[]:Array Value).size<=sizeLine:=Ct _;have q:((#[]:Array Value).push Value.none).size<=sizeLine:=by show 1<=sizeLine;decide
 have K:((#[]:Array Value).push Value.none).size<=sizeLine+1:=p6 q;have J:(((#[]:Array Value).push Value.none).pop).size<=sizeLine+1:=Ct _;have y:=kp _ _ g;subst u;refine pK (yO (s:={ s with heap:=h2 }) y rfl ?_ L K)
 have r:=JQ (Obj.mapSeq (·.push Value.none)) y rfl
 refine yO r rfl ?_ q J;have M:=JQ (Obj.mapSeq (·.pop)) r rfl
 have G:∀b o,b≠s.heap.objs.size->h2.get? b=some o->((h2.update s.heap.objs.size (Obj.mapSeq (·.push Value.none))).update s.heap.objs.size (Obj.mapSeq (·.pop))).get? b=some o:=
  λb o a e=>(G3 _ _ (BU a)).trans ((G3 _ _ (BU a)).trans e)
 refine qm ⟨ZAv ZIZ _,ZAW (W A.in1 hh).toS (t▸hn) _ D _ A6.length 0 _ #[] _ rfl (Ct _) ?_ M (ItemsOf.nil _) λs' EN T c DT BJ=>?_⟩
 .exact(W A.in1 hh).frame 0 h2 _ D4 λb a o e=>G b o (λz=>D (z▸a)) e
 .show wpAny _ A (load s.heap.objs.size >>= _) _ _ s';refine pK (wpAny_load DT ?_);refine qm ?_;refine h s' EN.toList (λb o e=>?_) (Oj (BE DT)) c.gens c.os (by rw[Mj,BJ.1];exact t) λi v N=>BJ.2 i v (by rw[<- VB];exact N);have a:b<s.heap.objs.size:=BE e;refine c.heap b o ?_ (G b o (Br a) (kp b o (Bf _ e)));simp only[GY,BA,ZAO,not_or];refine⟨Br a,?_⟩;rw[sz];exact Br (LS a)
end
theorem m9{prog:Program}{w:World}:∀{ns:List Str}{A6:List (Key×Value)}{vs:List Value},A6.map (·.1)=ns.map Sum.inr->vs.length=A6.length->(∀(i:Nat)v,vs[i]?=some v->∃k x,A6[i]?=some (k,x)/\(Cb prog w).is k v=true)->StrsAre vs ns
 | [],[],[],_,_,_=>.nil
 | [],[],_::_,_,h,_=>by simp at h
 | [],_::_,_,h,_,_=>by simp at h
 |_::_,[],_,h,_,_=>by simp at h
 |_::_,_::_,[],_,h,_=>by simp at h
 |n::ns,kv::A6,v::vs,e,hl,h=>by
  rw[CA,CA]at e;injection e with e1 e2
  obtain⟨k,x,c,b⟩:=h 0 v rfl;have d:kv=(k,x):=by simpa using c
  subst d;have f:k=Sum.inr n:=e1;subst f;rcases Ie (show KS (Sum.inr n) v=true from b)with⟨i,t,z,_⟩|⟨y,t,z,rfl⟩
  .cases z
  .cases z;exact .cons n t (m9 e2 (by simpa using hl) λi v a=>h (i+1) v a)
theorem StrsAre.i7{vs:List Value}{ns:List Str}(h:StrsAre vs ns):vs.length=ns.length:=by induction h with|nil=>rfl|cons y t h a=>simp[a]
end L2
namespace Fz
open L2 Lw
theorem UK:∀{ks:List Key}{vs:List V},ks.length=vs.length->(ks.zip vs).map (·.1)=ks
 | [],[],_=>rfl
 | [],_::_,h=>by simp at h
 |_::_,[],h=>by simp at h
 |k::ks,v::vs,h=>by
  rw[KC,CA,UK (by simpa using h)]
end Fz
namespace L2
section
variable{prog:Program}{w:World}{A:Around}{s:Shared}{R:Result->Shared->Prop}
theorem ZHw{L S:Addr}{c0:Nat}{res:Value}{A6:List (Key×Value)}{n:Nat}(hh:A.handled=none)(Iy:(S == sysModules)=false)(m:s.heap.get? L=some { cls:=.type "list", data:=.seq #[] c0 })(uq:s.heap.DictOf (Cb prog w) S A6)(en:A6.length=n)(hn:n<=sizeLine)
  (h:∀(s':Shared)(vs:List Value)(d:Nat),(∀b o,b≠L->s.heap.get? b=some o->s'.heap.get? b=some o)->L<s'.heap.objs.size->s'.gens=s.gens->s'.os=s.os->s'.heap.get? L=some { cls:=.type "list", data:=.seq vs.toArray d }->vs.length=n->(∀(i:Nat)v,vs[i]?=some v->∃k x,A6[i]?=some (k,x)/\(Cb prog w).is k v=true)->R (.ok (.ret res)) s') :
  wpAny (model prog w) A.in1 (Builtin.List.listExtendWith (.ref L) (.ref S) res)
   (λp s'=>match p with | .done f=>R (.ok f) s' | .again d=>d.quiet=true/\codeAny (model prog w) A d R s') (λe s'=>R (.error e) s') s:=by
 obtain⟨j,g⟩:=uq.dictAt;have Q:S<s.heap.objs.size:=g.lt_size;have C:L≠S:=λz=>by
  subst z;obtain⟨o,ho,l⟩:=g.dictOf.typeIs;rw[m]at ho;cases ho;exact absurd l (by show ¬ Value.type "list"=Value.type "dict"; decide)
 have G:Shared.TypeIs s (.ref S) "dict" := g.dictOf.typeIs;have h1:Builtin.List.listSameRef (.ref L) (.ref S)=false:=by simp[Builtin.List.listSameRef,C]
 unfold Builtin.List.listExtendWith;refine pK (xT G ?_);rw[qg (by rw[h1];decide)];refine pK (wpAny_pyIter_dict (s:=s) Iy g ?_);dsimp only;generalize r:({ cls:=.type "dict_keyiterator", data:=.fields #[.ref S,.int 0 0,.int A6.length 0,.int j 0] }:Obj)=io;have kp:∀b o,s.heap.get? b=some o->(s.heap.push io).get? b=some o:=λb o e=>Bf _ e;have P:S≠s.heap.objs.size:=Br Q;have W:∀A2:Around,A2.handled=none->Walks prog w A2 s.heap.objs.size [s.heap.objs.size,S] [s.heap.objs.size] A6.length _ _:=λA2 h2=>Walks.dictKeys (knd:=Cb prog w) h2 s.heap.objs.size S P A6 j;have D4:(s.heap.push io).IsKeyIter s.heap.objs.size S 0 A6.length j/\(s.heap.push io).DictAt (Cb prog w) S A6 j:=⟨⟨io,CK _ (by rw[<- r];rfl),by rw[<- r],by rw[<- r];rfl⟩,g.push _⟩;have E:L∉[s.heap.objs.size,S]:=λc=>by
  simp only[GY,BA,ZAO]at c;rcases c with z|z
  .have q:L<s.heap.objs.size:=BE m;rw[z]at q;exact Mp _ q
  .exact C z
 generalize N:s.heap.push io=h2 at kp D4 ⊢;have t:Shared.TypeIs { s with heap:=h2 } (.ref S) "dict" := by obtain⟨o,ho,l⟩:=G;exact⟨o,kp _ _ ho,l⟩
 refine pK (vH ?_);unfold Builtin.List.listLengthHint;refine pK (zF t ml ?_);generalize D:("dict.__len__":String)=Qn
 wp_delta
 rw[show splitId Qn=some ("dict","__len__")from by subst D;decide +kernel];subst D;refine pK (ZB5 (b:=true) t (by rw[ZBM];kernel_rfl) ?_);rw[qg (by decide)];refine ZAc (λ_=>?_) (λEV=>absurd (by decide+kernel) EV);refine pK (xT t ?_);refine qm ?_;refine ZAc (λ_=>?_) (λEV=>absurd (by decide+kernel) EV);refine pK (zE ?_);refine pK ?_;show wpAny _ _ (updateSeq L (·.push .none) >>= λ_=>updateSeq L (·.pop)) _ _ _
 have J:(#[]:Array Value).size<=sizeLine:=Ct _;have u:((#[]:Array Value).push Value.none).size<=sizeLine:=by show 1<=sizeLine;decide
 have I:((#[]:Array Value).push Value.none).size<=sizeLine+1:=p6 u;have H:(((#[]:Array Value).push Value.none).pop).size<=sizeLine+1:=Ct _;have B:=kp _ _ m;refine pK (yO (s:={ s with heap:=h2 }) B rfl ?_ J I)
 have y:=JQ (Obj.mapSeq (·.push Value.none)) B rfl
 refine yO y rfl ?_ u H;have K:=JQ (Obj.mapSeq (·.pop)) y rfl
 have F:∀b o,b≠L->h2.get? b=some o->((h2.update L (Obj.mapSeq (·.push Value.none))).update L (Obj.mapSeq (·.pop))).get? b=some o:=
  λb o a e=>(G3 _ _ (BU a)).trans ((G3 _ _ (BU a)).trans e)
 refine qm ⟨ZAv ZIZ _,ZAW (W A.in1 hh).toS (en▸hn) _ E _ A6.length 0 _ #[] _ rfl (Ct _) ?_ K (ItemsOf.nil _) λs' EN d c DT BJ=>?_⟩
 .exact(W A.in1 hh).frame 0 h2 _ D4 λb a o e=>F b o (λz=>E (z▸a)) e
 .have hsz:L<s'.heap.objs.size:=BE DT;refine h s' EN.toList d (λb o a e=>?_) hsz c.gens c.os DT (by rw[Mj,BJ.1];exact en) λi v M=>BJ.2 i v (by rw[<- VB];exact M);have O:b<s.heap.objs.size:=BE e;refine c.heap b o ?_ (F b o a (kp b o e));simp only[GY,BA,ZAO,not_or];exact⟨a,Br O⟩
end
theorem dF{prog:Program}{w:World}:∀{ks:List Key}{A6:List (Key×Value)}{vs:List Value},A6.map (·.1)=ks->vs.length=A6.length->(∀(i:Nat)v,vs[i]?=some v->∃k x,A6[i]?=some (k,x)/\(Cb prog w).is k v=true)->Vals (ks.map kV) vs
 | [],[],[],_,_,_=>.nil
 | [],[],_::_,_,h,_=>by simp at h
 | [],_::_,_,h,_,_=>by simp at h
 |_::_,[],_,h,_,_=>by simp at h
 |_::_,_::_,[],_,h,_=>by simp at h
 |n::ns,kv::A6,v::vs,e,hl,h=>by
  rw[CA]at e;injection e with e1 e2
  obtain⟨k,x,c,b⟩:=h 0 v rfl;have d:kv=(k,x):=by simpa using c
  subst d;have f:k=n:=e1;subst f;refine .cons ?_ (dF e2 (by simpa using hl) λi v a=>h (i+1) v a)
  rcases Ie (show KS k v=true from b)with⟨i,t,rfl,rfl⟩|⟨y,t,rfl,rfl⟩
  .exact⟨t,rfl⟩
  .exact⟨t,rfl⟩
section
variable{X:Cx}
def Vz:List V->Hp->VK->Prop:=λxs H Q=>∃(p:Addr)(A6:List (Key×V)),xs=[.ref p]/\Rd H p (.dK A6)/\A6.length<=1000/\∀l:Addr,H l=none->Q (.ref l) (upd H l (.lst ((A6.map (·.1)).map kV)))
theorem Lq(C:X.calm=true):DQ X (.type "list") Vz:=by
 intro ZA s Z H xs us Q I r h;obtain⟨p,A6,rfl,D,N,q⟩:=h;obtain⟨u,rfl,z⟩:=vals1 r;cases z;obtain⟨g,Iy,IU,rel,i⟩:=Jl I.AH D;have hh:X.A.handled=none:=I.ok.hd C;have M:p<s.heap.objs.size:=by obtain⟨j,h2⟩:=i.dictAt;exact h2.lt_size
 have P:p≠s.heap.objs.size:=Br M;refine callType_codes (Q₁:=λobj f=>obj=.ref s.heap.objs.size/\f={ s with heap:=s.heap.push { cls:=.type "list", data:=.seq #[] } }) F.called_list (F.typeCall_list_1 _) F.entry_list_init
  (code_list_new _ ⟨rfl,rfl⟩) λobj f B=>?_
 obtain⟨rfl,rfl⟩:=B;have d:(s.heap.push { cls:=.type "list", data:=.seq #[] }).get? s.heap.objs.size=some { cls:=.type "list", data:=.seq #[] }:=CK _ rfl;refine⟨⟨_,d,rfl⟩,F.args_list_init_2 _ _,?_⟩;show wpAny _ X.A.in1.in1 (do let c <- Builtin.List.listItems (.ref s.heap.objs.size);Builtin.List.listUpdate (.ref s.heap.objs.size) (λ_=>#[]);letGo c.toList.reverse;Builtin.List.listExtendWith (.ref s.heap.objs.size) (.ref p) .none) _ _ _
 refine pK ?_;unfold Builtin.List.listItems;refine pK (wpAny_seqItems d rfl (qm ?_));show wpAny _ X.A.in1.in1 (updateSeq s.heap.objs.size (λ_=>#[]) >>= λ_=>letGo (#[]:Array Value).toList.reverse >>= λ_=>Builtin.List.listExtendWith (.ref s.heap.objs.size) (.ref p) .none) _ _ _;refine pK (yO d rfl ?_);have v:=JQ (Obj.mapSeq (λ_=>(#[]:Array Value))) d rfl;have c:∀b o,s.heap.get? b=some o->((s.heap.push { cls:=.type "list", data:=.seq #[] }).update s.heap.objs.size (Obj.mapSeq (λ_=>(#[]:Array Value)))).get? b=some o:=λb o e=>
  (G3 _ _ (Ol (BE e))).trans (Bf _ e)
 have t:((s.heap.push { cls:=.type "list", data:=.seq #[] }).update s.heap.objs.size (Obj.mapSeq (λ_=>(#[]:Array Value)))).DictOf (Cb X.prog X.w) p IU:=by
  obtain⟨o,es,j,ho,rest⟩:=i;exact⟨o,es,j,c _ _ ho,rest⟩
 refine pK (wpAny_letGo ?_);refine ZHw (A:=X.A.in1) hh Iy v t rfl (by rw[<- rel.length];exact g) λs' vs G n L m l k K J=>?_;have x:Vals ((A6.map (·.1)).map kV) vs:=by
  rw[rel.keys];exact dF rfl K J
 refine⟨rfl,?_⟩;obtain⟨h1,g1,E,y,O⟩:=s';simp only at n L m l k;subst m;subst l;refine⟨.ref _,_,(I.drew E).laid (a:=s.heap.objs.size) (h':=h1) (t':=y) (o:=.lst ((A6.map (·.1)).map kV)) (λb o e=>n b o (Br (BE e)) (c b o e)) (B4 _) ?_,rfl,q _ (I.AH.fresh (B4 _))⟩
 exact⟨by rw[AK,AK];exact g,vs,G,x,k⟩
def kf:List V->Hp->VK->Prop:=λxs H Q=>∃(p:Addr)(A6:List (Key×V)),xs=[.ref p]/\Rd H p (.dK A6)/\Q (.int A6.length) H
theorem xO:DQ X (.builtin "len") kf:=by
 intro ZA s Z H xs us Q I r h;obtain⟨p,A6,rfl,b,q⟩:=h;obtain⟨u,rfl,a⟩:=vals1 r;cases a;exact v9 I b λt s' I'=>⟨.int A6.length,H,I',⟨t,rfl⟩,q⟩
variable{i o:Expr}{ty td:TE}{pos:Pos}
theorem mZ(a:X.A.units+1<cLine)(hi:QE X i ty)(ho:QE X o td)(b:behindInMarks .In o=false:=by with_unfolding_all rfl):QT X (.Compare i [.In] [o] pos) (tB (YV ty td)):=⟨i9 (tN a hi.h ho.h) b⟩
theorem Ot(a:X.A.units+1<cLine)(hi:QE X i ty)(ho:QE X o td)(b:behindInMarks .NotIn o=false:=by with_unfolding_all rfl):QT X (.Compare i [.NotIn] [o] pos) (tB (Tf ty td)):=⟨i9 (qt a hi.h ho.h) b⟩
end
end L2
namespace Fz
open L2 Lw
theorem Ua{F:Hp}:∀ks:List Key,AY F (ks.map kV) (ks.map Ge)
 | []=>.nil
 | .inl i::ks=>.cons (.int i) (Ua ks)
 | .inr x::ks=>.cons (.str x) (Ua ks)
section
variable[Xw]
variable{E:Ent0}{ss:List Slot}{Z:L2.St}{F H F' H':Hp}{K:ZJa}{i:Nat}{t:OV}{ta tb tc te:TE}{nx:List Slot->Prop}{R:Ad}
theorem Qp{k:List PV->Prop}(h:Wp ss te λp=>∃(ks:List Key)(xs:List PV),p=.B2 ks xs/\ks.length<=1000/\k (ks.map Ge)):Wn ss (DH Vz (An te BQ)) k:=⟨λE Z F H Q S q=>
 h.go E Z F H _ S λv p F1 H1 b c AU=>by
  obtain⟨ks,xs,e,j,kk⟩:=AU;subst e;cases c with
  |@B2 a _ vs _ g f i=>
   refine⟨a,_,rfl,.inl (b.st.fh _ _ g),by rw[Og];omega,λl CM=>?_⟩;rw[UK f];have d:=b.st.make CM (.lst (ks.map kV));exact q l _ _ F1 _ (b.trans d) (b.st.CC CM) (b.none CM) AX (Ua ks) kk⟩
theorem zu{k:PV->Prop}(h:Wp ss te λp=>∃(ks:List Key)(xs:List PV),p=.B2 ks xs/\k (.int ks.length)):Wp ss (DH kf (An te BQ)) k:=⟨λE Z F H Q S q=>
 h.go E Z F H _ S λv p F1 H1 b c AU=>by
  obtain⟨ks,xs,e,kk⟩:=AU;subst e;cases c with
  |@B2 a _ vs _ f d g=>
   refine⟨a,_,rfl,.inl (b.st.fh _ _ f),?_⟩;rw[Og,<- d,cx];exact q _ _ F1 H1 b (.int _) kk⟩
theorem fk{k:List PV->Prop}(h:Wl ss i t te λ_ u=>∃(ks:List Key)(a:Addr)(us:List OV),u=.nd (.B2 ks) a us/\ks.length<=1000/\k (ks.map Ge)):Wn ss (DH Vz (An te BQ)) k:=⟨λE Z F H Q S q=>
 h.go E Z F H _ S λv p u F1 H1 b r B5 AU=>by
  obtain⟨ks,a,us,f,m,kk⟩:=AU;subst f;obtain⟨vs,rfl,d,g,e,j⟩:=r.inv;refine⟨a,_,rfl,.inl d,by rw[Og];omega,λl CM=>?_⟩;rw[UK e];have c:=b.st.make CM (.lst (ks.map kV));exact q l _ _ F1 _ (b.trans c) (b.st.CC CM) (b.none CM) AX (Ua ks) kk⟩
end
end Fz
namespace L2
variable{values vs:List Expr}{Ff:List (TE×TE)}
section
variable{X:Cx}{pos:Pos}
theorem ZE2:LD X pos [] [] []:=ZGX
theorem cA{k v:Expr}{ks:List (Option Expr)}{tk tv:TE}(c:QE X k tk)(a:QE X v tv)(b:LD X pos ks vs Ff):LD X pos (some k::ks) (v::vs) ((tk,tv)::Ff):=ZAn c.h a.h b
theorem ZAu{keys:List (Option Expr)}(h:LD X pos keys values Ff)(Ky:keys.all (·.isSome)=true)(j:keys.length=values.length)(l:keys≠[])(UU:keys.length<=15):QE X (.Dict keys values pos) (aQ Ff):=⟨by
 intro ZA s Z H Q I q;have hn:=I.AH.fresh (B4 s.heap.objs.size);have n:=I.laid (a:=s.heap.objs.size) (o:=.dK []) (h':=s.heap.push { cls:=.type "dict", data:=.dict #[] }) (t':=s.toks) (λ_ _ q=>Bf _ q) (B4 _) (kI s.heap I.big);refine wpAny_Dict_walk (knd:=Cb X.prog X.w) Ky j l UU (BB (h ZA _ Z _ _ n (q _ hn)) λws s2⟨ps,H2,I2,rel,e,A6,m,p,f⟩=>?_);subst m;obtain⟨rs,c,b⟩:=gZ (P:=X.prog) (w:=X.w) rel;obtain⟨z,hd,IU,d,dd⟩:=aw I2.AH e;cases d;refine⟨rs,c,dd,λh' JM i=>⟨.ref s.heap.objs.size,_,?_,rfl,f⟩⟩;have g:(Ks [] A6).length<=sizeLine:=by
  have h1:=jq A6 [];rw[cZ]at h1;rw[ZBF];omega
 have k:∃q,h'.get? s.heap.objs.size=some q:=let ⟨q,_,_,hq,_⟩:=JM;⟨q,hq⟩;exact RS I2 (by rw[e];exact True.intro) i k (bu g hd (b.merge .nil) JM)⟩
end
theorem lK:∀(more acc:List (Key×V)),((acc++more).map (·.1)).Nodup->Ks acc more=acc++more
 | [],acc,_=>by rw[G4];rfl
 |p::r,acc,h=>by
  show Ks (putK acc p.1 p.2) r=_;have c:acc.any (λa=>decide (a.1=p.1))=false:=by
   rw[ZIB];intro q b e;have d:=sE e;rw[Ec,CA,Cz]at h;exact h.2.2 q.1 (List.mem_map.mpr ⟨q,b,rfl⟩) p.1 DC d
  have e:putK acc p.1 p.2=acc++[p]:=by
   unfold putK;rw[c];rfl
  rw[e,lK r (acc++[p]) (by rw[C5];exact h),C5];rfl
end L2
namespace Fz
open L2 Lw
variable{ss:List Slot}{Z:L2.St}{F H:Hp}{C S a aL aS b dx p:Addr}{ta:TA}{Q:VK}{te:TE}{i j n:Nat}{t u w y z:OV}{pre:Pre}{ls m:List Lp}{nx:List Slot->Prop}{R:Ad}{x:Str}{us:List OV}{l:Lp}{N ns:List Str}{d:Ag}{d':Ak}{c:GZ}
section
variable[Xw]
theorem ZF1{E:Ent0}{F1 H1:Hp}{o:HO}(S:Sg E ss Z F H)(m:Mv E ss Z F H F1 H1)(b:H p=none)(d:F1 p=none):Mv E ss Z F H F1 (upd H1 p o):=
 S.step m.ff (λa u e=>by rw[Aa (by rintro rfl;rw[d]at e;cases e)];exact m.st.fh a u e)
  (λa u n e=>by rw[Aa (by rintro rfl;rw[b]at e;cases e)];exact m.hh a u n e) m.nn
  λi l hi e=>CG.keep (m.st.FW hi e) λu f=>by
   rw[Aa (by
    rintro rfl;obtain⟨_,_,c,_⟩:=S.FW hi e;rw[b]at c;cases c)]
   exact f
theorem vU{k:List Nat->OV->Prop}{E:Ent}(ks:List Str)(J:ks.Nodup)(UU:ks.length<=15)(S:Sg E ss Z F H)(d:H p=none)
  (h:N8 ss ta λm us=>us.length=ks.length/\∀l,k m (.nd (.B2 (ks.map Sum.inr)) l us))
  (q:∀v m u F' H',Mv E ss Z F H F' H'->BL F' H' v u->u.addrs.Nodup->(∀a∈u.addrs,F' a=none/\E.H0 a=none/\((∃i∈m,∃s,s≠Slot.AS/\ss[i]?=some s/\Bl s Z[i]? a)∨H a=none))->k m u->Q v H') :
  ta Z (upd H p (.dK [])) λvs H2=>H2 p=some (.dK [])/\∃A6:List (Key×V),List.zipWith (λs v=>(V.str s,v)) ks vs=A6.map (λj=>(kV j.1,j.2))/\A6.length<=15/\Q (.ref p) (upd H2 p (.dK (Ks [] A6))):=by
 have y:=S.make d (.dK []);have C:F p=none:=S.CC d;refine h.go E Z F _ _ y.st λvs m us F1 H1 n t II A⟨I,kk⟩=>?_;have r:H1 p=some (.dK []):=n.hh p _ (S.P1 d) AX;have x:F1 p=none:=by
  cases e:F1 p with
  |none=>rfl
  |some o=>
   rcases n.nn p o e with z|z
   .rw[C]at z;cases z
   .rw[AX]at z;cases z
 have D:vs.length=ks.length:=by rw[t.length,I]
 have L:List.zipWith (λs v=>(V.str s,v)) ks vs=((ks.map Sum.inr).zip vs:List (Key×V)).map (λj=>(kV j.1,j.2)):=by
  rw[List.zip_eq_zipWith,List.zipWith_map_left,List.map_zipWith];rfl
 refine⟨r,(ks.map Sum.inr).zip vs,L,by rw[Og,AK];omega,?_⟩;have nk:((ks.map Sum.inr:List Key)).Nodup:=ZI9 _ (λa b(h:a≠b)=>λz=>h (by injection z)) J;rw[lK _ [] (by rw[ck,List.map_fst_zip (by rw[AK];omega)];exact nk),ck];have mv:=ZF1 (o:=.dK ((ks.map Sum.inr).zip vs)) S (y.trans n) d x;have B:p∉OV.Ax us:=λg=>by
  rcases(A p g).2.2 with⟨i,_,s,_,G,ow⟩|z
  .exact S.Ez G ow d
  .rw[AX]at z;cases z
 refine q _ m (.nd (.B2 (ks.map Sum.inr)) p us) F1 _ mv (.nd (k:=.B2 (ks.map Sum.inr)) (vs:=vs) AX trivial (show(List.map Sum.inr ks:List Key).length=vs.length by rw[AK];exact D.symm) (t.mono (AD.refl _) λa g o e=>by rw[Aa (by rintro rfl;exact B g)];exact e)) ?_ (λa g=>?_) (kk p)
 .rw[OV.Dr];exact List.nodup_cons.mpr ⟨B,II⟩
 .rw[OV.Dr]at g;rcases List.mem_cons.mp g with e|g
  .subst e;exact⟨x,S.Ei d,.inr d⟩
  .obtain⟨f,K,w⟩:=A a g;exact⟨f,K,w.imp id λz=>by
    by_cases c:a=p
    .subst c;exact d
    .rw[Aa c]at z;exact z⟩
theorem rW{k:List Nat->OV->Prop}{k1 k2 k3:Str}{c b a:TE}(e:[k1,k2,k3].Nodup)(h:N8 ss (An c (An b (An a BQ))) λm us=>us.length=3/\∀l,k m (.nd (.B2 [.inr k1,.inr k2,.inr k3]) l us)):Wx ss (aQ [(tC (.str k1),c),(tC (.str k2),b),(tC (.str k3),a)]) k:=⟨λE Z F H Q S q p d=>
 vU (ta:=An c (An b (An a BQ))) [k1,k2,k3] e (by show(_:Nat)+1<=15;simp) S d h q⟩
theorem lz{m:Str}{k:PV->Prop}(h:Wl ss i t te λ_ u=>∃dx ns a us,u=.nd (.obj C dx ns) a us/\DD ns m=none/\Wb ss ta λps=>∃k',pre ((u.pv::ps).map .is) (.is k')/\∀p,k' p->IE p=true/\k p):Wp ss (MC C m (B6 pre) [] E0 te ta) k:=⟨λE Z F H Q S q=>
 h.go E Z F H _ S λv p u F1 H1 c e B5⟨dx,ns,a,us,w,s,h2⟩=>by
  subst w;have y:=e;cases y with
  |@nd _ _ vs _ d z B A=>
   refine⟨a,dx,ns.zip vs,rfl,d,To s,h2.go E Z F1 H1 _ c.st λvs ps F2 H2 b j⟨k',n,kk⟩=>?_⟩;rw[G4];have g:=e.mv c.st h.hi B5 b;have x:AY (CN F2 H2 (De ss Z)) (V.ref a::vs) (_::ps):=.cons (g.rep b.st.Tc.1 λa d o ho=>by
    unfold CN;obtain⟨lt,hi⟩:=h.hi;rw[tX (nZ b.st.len hi (by simp) (OV.MY B5 a d))];exact ho) j
   refine⟨_,.is k',_,[],n,b.st.lend x,λv F' H' f⟨p,r,kp⟩=>?_⟩;obtain⟨mv,l⟩:=b.st.ZEk f;exact q v p _ H' (c.trans (b.trans mv)) (r.sub l (kk p kp).1) (kk p kp).2⟩
theorem Zl(h:Wl ss i t te λ_ u=>∃nk a us,u=.nd nk a us/\nx (ss.set j (.raw (ptr a)))):Ws ss (FR te (Co j)) nx R:=⟨λE D Z F H S hn d=>
 h.go E Z F H _ S λv p u F1 H1 b r B5 AU=>by
  obtain⟨nk,a,us,c,kk⟩:=AU;subst c;cases r;exact hn _ _ F1 H1 kk (b.st.setG ⟨_,rfl,rfl,λ_ _ _ h=>h⟩ λ_ z=>by cases z) b.ff⟩
end
theorem LF{k:NK}{x:OV}:(OV.nd k a [x,y,z]).put [1] w=.nd k a [x,w,z]:=by rw[OV.Kj (x:=y) rfl,OV.GQ];rfl
theorem put2{k:NK}{x:OV}:(OV.nd k a [x,y,z]).put [2] w=.nd k a [x,y,w]:=by rw[OV.Kj (x:=z) rfl,OV.GQ];rfl
theorem Rp{k k':NK}{x:OV}(h:us[n]?=some u):(OV.nd k a [x,y,.nd k' b us]).put [2,n] w=.nd k a [x,y,.nd k' b (us.set n w)]:=by rw[OV.Kj (x:=.nd k' b us) rfl,OV.Kj h,OV.GQ];rfl
theorem Yo{k k':NK}{x:OV}(h:us[n]?=some u):(OV.nd k a [x,y,.nd k' b us]).at [2,n]=some u:=by
 rw[OV.at];show OV.at (.nd k' b us) [n]=some u;rw[OV.at,h];exact OV.JG
theorem EK{k:NK}{x:OV}:(OV.nd k a [x,y,z]).at [1]=some y:=by
 rw[OV.at];exact OV.JG
theorem pq[Xw]{K:ZJa}{l m:Nat}{p:PV}{k:List Slot->Prop}(h:∃a b c d,p=.tup [a,b,c,d]/\k ((((ss.set i (.is a)).set j (.is b)).set l (.is c)).set m (.is d))):Wg ss (Qo K 4 (IZ (Co i) (IZ (Co j) (IZ (Co l) (IZ (Co m) R9))))) p k:=⟨λE Z F H v Q S r q=>by
 obtain⟨a,b,c,d,rfl,kk⟩:=h;obtain⟨_,_,rfl,e,r⟩:=r.inv;obtain⟨_,_,rfl,o,r⟩:=r.inv;obtain⟨_,_,rfl,n,r⟩:=r.inv;obtain⟨_,_,rfl,g,r⟩:=r.inv;obtain⟨_,_,rfl,f,r⟩:=r.inv;obtain rfl:=r.DZ;exact⟨_,_,rfl,AW.of (S.fh _ _ e),rfl,_,_,rfl,_,_,rfl,_,_,rfl,_,_,rfl,rfl,q _ _ kk ((((S.FP o).FP n).FP g).FP f)⟩⟩
theorem UP{vs:List V}{X:XK}{t:TS}(h:Bx pre vs H Q X)(b:∀ss R,pre ss R->ss.length=n)
  (hw:∀ss R,pre ss R->Ws (ss++List.replicate (N.length - n) .any) t (Te R) R):t { nx:=λ_ H'=>Q .A9 H',rt:=Q } (L2.start N vs) H:=by
 obtain⟨ss,R,F,A,B,a,S,q⟩:=h;have e:vs.length=n:=by have:=S.len;rw[AK]at this;rw[<- this];exact b ss R a
 unfold L2.start;rw[e];exact(hw ss R a).go (U3 ⟨A,F,H,B⟩) _ _ F H (S.grown _) (λAI σ' F' H' z S' _=>q .A9 F' H' S'.toFin (z.ok S')) λv F' H' f ok=>q v F' H' f ok
structure Sm where
 stood:Nat
 joined:Nat
 told:Nat
 taken:Nat
structure Ls where
 row:List Str
 ln:List Str
 ll:List Lp
 sn:List Str
 sq:List Sm
variable{s s':Ls}
inductive LE where
 |J5 (x r:Str)|tell (x y:Str)|over (x:Str)|G1 (d:Ag)
variable{e:LE}{es:List LE}
def LE.P:LE->PV
 | .J5 x r=>.tup [.str "begin",.str x,.str r]
 | .tell x y=>.tup [.str "tell",.str x,.str y]
 | .over x=>.tup [.str "over",.str x]
 | .G1 d=>aP d
def LE.say:LE->Prop
 | .J5 x r=>Bz x/\Bz r
 | .tell x y=>Bz x/\Bz y
 | .over x=>Bz x
 | .G1 d=>d.say
noncomputable def GP(ns:List Str)(d:Ag):Option Ak:=open Classical in if h:∃d',d.Is ns d' then some h.choose else none
theorem dy(h:d.Is ns d'):GP ns d=some d':=by
 have e:∃d',d.Is ns d':=⟨d',h⟩;unfold GP;rw[dif_pos e];exact vB some (ZCx (e.choose_spec.1.symm.trans h.1))
theorem bY(h:GP ns d=some d'):d.Is ns d':=by
 unfold GP at h;split at h
 .next e=>cases h;exact e.choose_spec
 .cases h
theorem ZBK{e:Ag}(h:aP d=aP e):d=e:=by
 cases d <;> cases e <;> simp[aP]at h <;> first|(exact absurd h.1 PD)|(exact absurd h.1.symm PD)|(obtain⟨a,b⟩:=h;subst a;subst b;rfl)|(subst h;rfl)
theorem wJ(h:d.Is ns d'):d.B3 c ns=none:=by
 have:d=Lo d':=ZBK (h.1.trans (yY d').symm);rw[this];exact ZFr h.2
theorem ko{e:Ex}(h:d.B3 c ns=some e):GP ns d=none:=by
 cases q:GP ns d with
 |none=>rfl
 |some d'=>rw[wJ (bY q)]at h;cases h
noncomputable def c0:GZ:=⟨0,0,0,0,0⟩
theorem Jq(ns:List Str)(d:Ag):(GP ns d).isSome=(d.B3 c0 ns).isNone:=by
 cases h:d.B3 c0 ns with
 |none=>
  obtain⟨d',h'⟩:=Ag.good h;rw[dy h'];rfl
 |some e=>rw[ko h];rfl
theorem ZAA{i:Int}(h1:isNm x=true)(h2:x∉ns)(a:ns.length<40):(GP ns (.put x i)).isSome=decide (inR i 0 ns.length):=by
 rw[Jq];simp only[Ag.B3];rw[qg (by rw[h1];decide),qg h2]
 by_cases c:inR i 0 ns.length
 .rw[qg (Decidable.not_not.mpr c),qg (by omega),pX c];rfl
 .rw[tX c,uK c];rfl
theorem rZ{i:Int}(h1:isNm x=true)(h2:x∉ns)(a:40<=ns.length):(GP ns (.put x i)).isSome=false:=by
 rw[Jq];simp only[Ag.B3];rw[qg (by rw[h1];decide),qg h2]
 by_cases c:inR i 0 ns.length
 .rw[qg (Decidable.not_not.mpr c),tX a];rfl
 .rw[tX c];rfl
theorem qe{i:Int}(h2:x∈ns):(GP ns (.move x i)).isSome=decide (inR i 0 (ns.length - 1)):=by
 rw[Jq];simp only[Ag.B3];rw[qg (Decidable.not_not.mpr h2)]
 by_cases c:inR i 0 (ns.length - 1)
 .rw[qg (Decidable.not_not.mpr c),pX c];rfl
 .rw[tX c,uK c];rfl
theorem ZB2{lo hi:Int}:(GP ns (.turn lo hi)).isSome=(decide (inR lo 0 ns.length) && decide (inR hi lo ns.length)):=by
 rw[Jq];simp only[Ag.B3]
 by_cases c:inR lo 0 ns.length
 .rw[qg (Decidable.not_not.mpr c),pX c]
  by_cases e:inR hi lo ns.length
  .rw[qg (Decidable.not_not.mpr e),pX e];rfl
  .rw[tX e,uK e];rfl
 .rw[tX c,uK c];rfl
theorem UJ{i lo hi:Int}:decide (inR i lo hi)=(decide (lo<=i) && decide (i<=hi)):=by
 by_cases h1:lo<=i
 .by_cases h2:i<=hi
  .rw[pX (show inR i lo hi from⟨h1,h2⟩),pX h1,pX h2];rfl
  .rw[uK (λz:inR i lo hi=>h2 z.2),pX h1,uK h2];rfl
 .rw[uK (λz:inR i lo hi=>h1 z.1),uK h1];rfl
noncomputable def Sm.join(q:Sm):Sm:=⟨q.stood,q.joined+1,q.told,q.taken⟩
noncomputable def Sm.tell(q:Sm):Sm:=⟨q.stood,q.joined,q.told+1,q.taken⟩
noncomputable def Sm.take(q:Sm):Sm:=⟨q.stood,q.joined,q.told,q.taken+1⟩
def Sm.by(n m:Nat):Sm->Sm:=if n<m then Sm.join else if m<n then Sm.take else id
def Cp(s:Ls)(d:Ak):Nat->List Sm
 | 0=>s.sq
 |i+1=>match s.ln[i]?,s.ll[i]? with
  |some x,some l=>(Cp s d i).modify (s.sn.idxOf x) (Sm.by l.cs.length (l.led s.row d).cs.length)
  |_,_=>Cp s d i
noncomputable def CS(s:Ls)(d:Ak)(i:Nat):List Lp:=(s.ll.take i).map (Lp.led s.row d)++s.ll.drop i
def Ga(s:Ls)(x r:Str):Option Ls:=if isNm x=true/\x∉s.sn/\J0 r=true then some ⟨s.row,s.ln++[x],s.ll++[⟨r,0,Gy s.row⟩],s.sn++[x],s.sq++[⟨s.row.length,0,0,0⟩]⟩else none
def Fw(s:Ls)(x y:Str):Option Ls:=match s.ll[s.ln.idxOf x]? with
 |some l=>if y∈l.cs then some ⟨s.row,s.ln,s.ll.set (s.ln.idxOf x) ⟨l.r,s.row.idxOf y+1,wo l.cs y⟩,s.sn,s.sq.modify (s.sn.idxOf x) Sm.tell⟩else none
 |none=>none
noncomputable def Fy(s:Ls)(x:Str):Option Ls:=match s.ll[s.ln.idxOf x]? with
 |some l=>if l.cs=[]then some ⟨s.row,s.ln.eraseIdx (s.ln.idxOf x),s.ll.eraseIdx (s.ln.idxOf x),s.sn,s.sq⟩else none
 |none=>none
noncomputable def HU(s:Ls)(d:Ag):Option Ls:=match GP s.row d with
 |some d'=>some ⟨d'.done s.row,s.ln,s.ll.map (Lp.led s.row d'),s.sn,Cp s d' s.ln.length⟩
 |none=>none
noncomputable def Fe(s:Ls):LE->Option Ls
 | .J5 x r=>Ga s x r
 | .tell x y=>Fw s x y
 | .over x=>Fy s x
 | .G1 d=>HU s d
structure Ls.Ok (s:Ls):Prop where
 row:Gk 40 s.row
 l1:s.ln.length=s.ll.length
 l2:s.sn.length=s.sq.length
 n1:s.ln.Nodup
 n2:s.sn.Nodup
 sub:∀x∈s.ln,x∈s.sn
 good:∀l∈s.ll,l.Good s.row
 nm:∀x∈s.sn,Nm x
theorem Oy(s:Ls)(d:Ak):∀i,(Cp s d i).length=s.sq.length
 | 0=>rfl
 |i+1=>by
  unfold Cp;split
  .rw[List.length_modify,Oy]
  .exact Oy s d i
theorem oQ(s:Ls)(d:Ak):CS s d s.ll.length=s.ll.map (Lp.led s.row d):=by
 unfold CS;rw[Mo,ZIE,G4]
theorem Jy(s:Ls)(d:Ak)(i:Nat):(CS s d i).length=s.ll.length:=by
 unfold CS;rw[CP,AK,DM,HK];omega
theorem XN{d:Ak}(h:s.ll[i]?=some l):(CS s d i)[i]?=some l:=by
 have hi:=(List.getElem?_eq_some_iff.mp h).1;unfold CS;rw[K9 (by rw[AK,DM];omega),AK,DM,List.getElem?_drop];rw[show i+(i - min i s.ll.length)=i by omega];exact h
theorem aj{d:Ak}(h:s.ll[i]?=some l):(CS s d i).set i (l.led s.row d)=CS s d (i+1):=by
 obtain⟨hi,e⟩:=List.getElem?_eq_some_iff.mp h;unfold CS;rw[List.set_append_right _ _ (by rw[AK,DM];omega),AK,DM,show i - min i s.ll.length=0 by omega,oh hi,cq,VM hi,Ec,C5,e];rfl
theorem Xa{l:List Str}(h:x∈l):l[l.idxOf x]?=some x:=by
 rw[BK (List.idxOf_lt_length_iff.mpr h),cX]
theorem ZDS{l:List Str}{a:Lp}(b:l.length=m.length)(h:m[l.idxOf x]?=some a):x∈l:=by
 have:=(List.getElem?_eq_some_iff.mp h).1;exact List.idxOf_lt_length_iff.mp (by omega)
theorem Ls.Ok.step(h:s.Ok)(g:Fe s e=some s'):s'.Ok:=by
 cases e with
 |J5 x r=>
  have g:Ga s x r=some s':=g;unfold Ga at g;split at g
  .next c=>
   cases g;obtain⟨c1,c2,m⟩:=c;refine⟨h.row,by simp[h.l1],by simp[h.l2],?_,?_,?_,?_,?_⟩
   .exact Sj h.n1 λz=>c2 (h.sub x z)
   .exact Sj h.n2 c2
   .intro y a;rcases List.mem_append.mp a with z|z
    .exact List.mem_append.mpr (.inl (h.sub y z))
    .exact List.mem_append.mpr (.inr z)
   .intro l f;rcases List.mem_append.mp f with z|z
    .exact h.good l z
    .rw[List.mem_singleton.mp z];exact⟨sE m,Int.le_refl _,ZI8 _,XA h.row.nd,λy a=>Uj.mp a⟩
   .intro y a;rcases List.mem_append.mp a with z|z
    .exact h.nm y z
    .rw[List.mem_singleton.mp z];exact dS c1
  .cases g
 |tell x y=>
  have g:Fw s x y=some s':=g;unfold Fw at g;split at g
  .next l e=>
   split at g
   .next c=>
    cases g;have i:=h.good l (EL e);refine⟨h.row,by simp[h.l1],by simp[h.l2],h.n1,h.n2,h.sub,?_,h.nm⟩;intro b CM;rcases ZIS CM with z|z
    .exact h.good b z
    .rw[z];exact Lw.E5.step i (i.sub y c)
   .cases g
  .cases g
 |over x=>
  have g:Fy s x=some s':=g;unfold Fy at g;split at g
  .next l e=>
   split at g
   .next c=>
    cases g;have hi:=(List.getElem?_eq_some_iff.mp e).1;refine⟨h.row,?_,h.l2,List.Nodup.sublist (om _ _) h.n1,h.n2,λy a=>h.sub y ((om _ _).subset a),λb CM=>h.good b ((om _ _).subset CM),h.nm⟩;have h1:=h.l1;show(s.ln.eraseIdx _).length=(s.ll.eraseIdx _).length;rw[ZIK (by omega),ZIK hi,h1]
   .cases g
  .cases g
 |G1 d=>
  have g:HU s d=some s':=g;unfold HU at g;split at g
  .next d' e=>
   cases g;have ok:=(bY e).2;refine⟨h.row.done ok,by simp[h.l1],by rw[Oy];exact h.l2,h.n1,h.n2,h.sub,?_,h.nm⟩;intro l f;obtain⟨j,k,rfl⟩:=List.mem_map.mp f;exact Lw.E5.led (h.good j k) ok h.row.nd
  .cases g
def R2(P:OV->Sm->Prop)(us:List OV)(a:List Sm):Prop:=us.length=a.length/\∀(n:Nat)u q,us[n]?=some u->a[n]?=some q->P u q
theorem R2.nil{P:OV->Sm->Prop}:R2 P [] []:=⟨rfl,λn u q h=>by cases h⟩
theorem R2.snoc{P:OV->Sm->Prop}{d:List Sm}{q:Sm}(h:R2 P us d)(e:P u q):R2 P (us++[u]) (d++[q]):=by
 refine⟨by simp[h.1],λn v p a b=>?_⟩;have f:=h.1
 by_cases c:n<us.length
 .rw[IA c]at a;rw[IA (by omega)]at b;exact h.2 n v p a b
 .have h1:=(List.getElem?_eq_some_iff.mp a).1;simp at h1;have:n=us.length:=by omega
  subst this;rw[K9 (B4 _),pA]at a;rw[K9 (by omega),show us.length - d.length=0 by omega]at b;cases a;cases b;exact e
theorem R2.set{P:OV->Sm->Prop}{d:List Sm}{f:Sm->Sm}(h:R2 P us d)(g:∀q,d[n]?=some q->P u (f q)):R2 P (us.set n u) (d.modify n f):=by
 refine⟨by simp[h.1],λm v p b a=>?_⟩
 by_cases c:n=m
 .subst c;have h1:=(List.getElem?_eq_some_iff.mp b).1;rw[KA]at h1;rw[Cs h1]at b;rw[List.getElem?_modify_eq]at a;cases e:d[n]? with
  |none=>rw[e]at a;cases a
  |some q=>rw[e]at a;cases a;cases b;exact g q e
 .rw[CO c]at b;rw[List.getElem?_modify_ne _ _ c]at a;exact h.2 m v p b a
theorem R2.get{P:OV->Sm->Prop}{us:List OV}{a:List Sm}{n:Nat}{q:Sm}(h:R2 P us a)(b:a[n]?=some q):∃u,us[n]?=some u/\P u q:=by
 have h1:=(List.getElem?_eq_some_iff.mp b).1;have c:=h.1;exact⟨us[n],BK (by omega),h.2 n _ q (BK (by omega)) b⟩
def Fo(q:Sm):List PV:=[.int q.stood,.int q.joined,.int q.told,.int q.taken]
noncomputable def Ae(ns:List Str):List Key:=ns.map Sum.inr
noncomputable def CI(ll:List Lp):List OV:=ll.map λl=>.fz l.P
def md(u:OV)(q:Sm):Prop:=∃b,u=.nd .lst b ((Fo q).map .fz)
def P0(T:Addr)(u:OV)(q:Sm):Prop:=∃e b,u=.nd (.obj T e ["stood","joined","told","taken"]) b ((Fo q).map .fz)
noncomputable def k3:List Key:=[.inr "row",.inr "live",.inr "sums"]
def Bh(s:Ls)(a aL aS:Addr)(us:List OV):OV:=.nd (.B2 k3) a [.fz (.lst (s.row.map .str)),.nd (.B2 (Ae s.ln)) aL (CI s.ll),.nd (.B2 (Ae s.sn)) aS us]
inductive DV (s:Ls) (a:Addr) (t:OV):Prop
 |mk (aL aS:Addr) (us:List OV) (_:R2 md us s.sq) (_:t=Bh s a aL aS us):DV s a t
noncomputable def GR:List Str:=["standing","running","tallies"]
def Bk(s:Ls)(C a dx aL aS:Addr)(us:List OV):OV:=.nd (.obj C dx GR) a [.fz (.lst (s.row.map .str)),.nd (.B2 (Ae s.ln)) aL (CI s.ll),.nd (.B2 (Ae s.sn)) aS us]
inductive DE (s:Ls) (C T a:Addr) (t:OV):Prop
 |mk (dx aL aS:Addr) (us:List OV) (_:R2 (P0 T) us s.sq) (_:t=Bk s C a dx aL aS us):DE s C T a t
theorem K5(ns:List Str)(x:Str):Hx (Ae ns) (.inr x)=decide (x∈ns):=by
 unfold Hx Ae;rw[List.any_map]
 by_cases h:x∈ns
 .rw[pX h];exact List.any_eq_true.mpr ⟨x,h,pX rfl⟩
 .rw[uK h];rw[Bool.eq_false_iff];intro z;obtain⟨y,b,e⟩:=List.any_eq_true.mp z;have a:(Sum.inr y:Key)=Sum.inr x:=sE e;injection a with a
  exact h (a▸b)
theorem G8:∀{ns:List Str}{x:Str},x∈ns->Cd (Ae ns) (.inr x)=some (ns.idxOf x)
 | [],_,h=>absurd h BA
 |y::ns,x,h=>by
  unfold Ae;rw[CA,Cd,ou]
  by_cases c:y=x
  .subst c;rw[tX rfl,show(y == y)=true from uz y];rfl
  .rw[qg (λe=>c (by injection e)),show(y == x)=false from beq_eq_false_iff_ne.mpr c];have h1:Cd (ns.map λn:Str=>(Sum.inr n:Key)) (.inr x)=some (ns.idxOf x):=G8 ((List.mem_cons.mp h).resolve_left λz=>c z.symm);have a:Cd (ns.map (Sum.inr:Str->Key)) (.inr x)=some (ns.idxOf x):=h1;rw[a];rfl
theorem oK:∀{ns:List Str}{x:Str},x∉ns->Cd (Ae ns) (.inr x)=none
 | [],_,_=>rfl
 |y::ns,x,h=>by
  unfold Ae;rw[CA,Cd,qg (λe=>h (by injection e with e;subst e;exact DC))]
  have h1:Cd (ns.map (Sum.inr:Str->Key)) (.inr x)=none:=oK (ns:=ns) λz=>h (Dd _ z);rw[h1];rfl
theorem JB(h:ns.Nodup):(Ae ns).Nodup:=ZI9 _ (λa b(h:a≠b)=>λz=>h (by injection z)) h
theorem jw(h:x∉ns):Ig (Ae ns) (.inr x)=Ae (ns++[x])/\Gv (Ae ns) us (.inr x) u=us++[u]:=by
 unfold Gv Ig;rw[oK h,K5,uK h];exact⟨by unfold Ae;rw[Ec];rfl,rfl⟩
theorem nD(h:x∈ns):Ig (Ae ns) (.inr x)=Ae ns/\Gv (Ae ns) us (.inr x) u=us.set (ns.idxOf x) u:=by
 unfold Gv Ig;rw[G8 h,K5,pX h];exact⟨rfl,rfl⟩
theorem Rh(h:x∈ns):Ig (Ae ns) (.inr x)=Ae ns:=(nD (us:=[]) (u:=.fz .A9) h).1
theorem Tr(h:x∈ns):Gv (Ae ns) us (.inr x) u=us.set (ns.idxOf x) u:=(nD h).2
theorem Qm(h:x∉ns):Ig (Ae ns) (.inr x)=Ae (ns++[x]):=(jw (us:=[]) (u:=.fz .A9) h).1
theorem Su(h:x∉ns):Gv (Ae ns) us (.inr x) u=us++[u]:=(jw h).2
theorem lB(ns:List Str)(i:Nat):(Ae ns).eraseIdx i=Ae (ns.eraseIdx i):=by
 unfold Ae
 induction ns generalizing i with
 |nil=>rfl
 |cons x ns a=>cases i with
  |zero=>rfl
  |succ i=>rw[CA,RB,RB,CA,a]
theorem kD(ls:List Lp)(i:Nat):(CI ls).eraseIdx i=CI (ls.eraseIdx i):=by
 unfold CI
 induction ls generalizing i with
 |nil=>rfl
 |cons x ns a=>cases i with
  |zero=>rfl
  |succ i=>rw[CA,RB,RB,CA,a]
theorem Us(ls:List Lp)(i:Nat)(l:Lp):(CI ls).set i (.fz l.P)=CI (ls.set i l):=by unfold CI;rw[List.map_set]
theorem OG(h:ls[i]?=some l):(CI ls)[i]?=some (.fz l.P):=by unfold CI;rw[Bb,h];rfl
theorem Sd{y:PV}:∀{ns:List Str}{xs:List PV}{x:Str},x∈ns->xs[ns.idxOf x]?=some y->MI (Ae ns) xs (.inr x)=some y
 | [],_,_,h,_=>absurd h BA
 |z::ns,xs,x,h,e=>by
  rw[ou]at e;unfold Ae
  by_cases c:z=x
  .subst c;rw[show(z == z)=true from uz z]at e;cases xs with
   |nil=>cases e
   |cons w ws=>rw[CA,MI,tX rfl];exact e
  .rw[show(z == x)=false from beq_eq_false_iff_ne.mpr c]at e;cases xs with
   |nil=>cases e
   |cons w ws=>
    rw[CA,MI,qg (λq=>c (by injection q))];exact Sd ((List.mem_cons.mp h).resolve_left λq=>c q.symm) e
theorem ZY:∀us:List OV,OV.D8 us=us.map OV.pv
 | []=>by rw[OV.D8];rfl
 |u::us=>by rw[OV.D8,ZY us];rfl
theorem mF(ll:List Lp):OV.D8 (CI ll)=ll.map Lp.P:=by
 have:=Rg (ll.map Lp.P);rw[Oh]at this;exact this
theorem iL{d:Ak}(hx:s.ln[i]?=some x)(a:s.ll[i]?=some l):Cp s d (i+1)=(Cp s d i).modify (s.sn.idxOf x) (Sm.by l.cs.length (l.led s.row d).cs.length):=by
 rw[Cp,hx,a]
theorem yM{d:Ak}(ok:s.Ok)(hx:x∈s.sn):∃q,(Cp s d i)[s.sn.idxOf x]?=some q:=by
 have h1:=List.idxOf_lt_length_iff.mpr hx;have h2:=ok.l2;exact⟨_,BK (by rw[Oy];omega)⟩
theorem fG{α:Type}(l:List α)(n:Nat):l.modify n id=l:=by
 apply cU;intro k;rw[List.getElem?_modify];cases l[k]? with
 |none=>rfl
 |some x=>by_cases c:n=k <;> simp[c]
theorem zW(ns:List Str):IE (.tup (ns.map .str))=true:=by
 rw[IE]
 induction ns with
 |nil=>rfl
 |cons x ns a=>rw[CA,Ss,a];rfl
theorem yj:Ig k3 (.inr "row")=k3:=by decide+kernel
theorem ZAe{x:OV}:Gv k3 [x,y,z] (.inr "row") w=[w,y,z]:=by
 unfold Gv;rw[show Cd k3 (.inr "row")=some 0 by decide+kernel];rfl
noncomputable def OO(tp:Bool)(xs:List PV):PV:=if tp=true then .tup xs else .lst xs
def EH(T:Ls->OV->Prop)(s:Ls)(o:Option Ls)(p:PV)(t':OV):Prop:=(∃s',o=some s'/\p=.bl true/\T s' t')∨(o=none/\p=.bl false/\T s t')
noncomputable def EE(s:Ls)(x:Str):List Str:=match s.ll[s.ln.idxOf x]? with
 |some l=>l.cs
 |none=>[]
def T7(C:Addr)(s:Ls)(xs:List PV):PV:=.obj C GR [.lst (s.row.map .str),.B2 (Ae s.ln) (s.ll.map Lp.P),.B2 (Ae s.sn) xs]
theorem b7:(Bk s C a dx aL aS us).pv=T7 C s (us.map OV.pv):=by
 unfold Bk T7;rw[OV.pv,OV.D8,OV.D8,OV.D8,OV.D8,OV.pv,OV.pv,OV.pv,mF,ZY]
theorem iT(nd:s.ln.Nodup)(hx:s.ln[i]?=some x)(a:s.ll[i]?=some l):EE s x=l.cs:=by
 unfold EE;rw[N5 nd hx,a]
inductive UO (T:Addr) (l:List Slot) (R:Ad):Prop
 |mk (a dx:Addr) (n:Nat) (_:l=[.ow true (.nd (.obj T dx []) a []),.is (.int n)]) (_:R=.mt λp t'=>p=.A9/\t'=.nd (.obj T dx ["stood","joined","told","taken"]) a ((Fo ⟨n,0,0,0⟩).map .fz)):UO T l R
inductive V5 (C T:Addr) (l:List Slot) (R:Ad):Prop
 |mk (a dx:Addr) (tp:Bool) (ns:List Str) (_:l=[.ow true (.nd (.obj C dx []) a []),.is (OO tp (ns.map .str))]) (_:R=.mt λp t'=>p=.A9/\∃aL aS,t'=Bk ⟨ns,[],[],[],[]⟩ C a dx aL aS []):V5 C T l R
inductive Lm (C:Addr) (l:List Slot) (R:Ad):Prop
 |mk (s:Ls) (xs:List PV) (x:Str) (_:l=[.is (T7 C s xs),.is (.str x)]) (_:s.ln.length=s.ll.length) (_:R=.is λp=>p=.tup ((EE s x).map .str)):Lm C l R
inductive av (C T:Addr) (l:List Slot) (R:Ad):Prop
 |mk (s:Ls) (a:Addr) (t:OV) (x r:Str) (_:l=[.ow true t,.is (.str x),.is (.str r)]) (_:DE s C T a t) (_:s.Ok) (_:Bz x) (_:Bz r) (_:s.sn.length<=1000) (_:R=.mt (EH (λs t=>DE s C T a t) s (Ga s x r))):av C T l R
inductive Yu (C T:Addr) (l:List Slot) (R:Ad):Prop
 |mk (s:Ls) (a:Addr) (t:OV) (x y:Str) (_:l=[.ow true t,.is (.str x),.is (.str y)]) (_:DE s C T a t) (_:s.Ok) (_:s.sn.length<=1000) (_:R=.mt (EH (λs t=>DE s C T a t) s (Fw s x y))):Yu C T l R
inductive X4 (C T:Addr) (l:List Slot) (R:Ad):Prop
 |mk (s:Ls) (a:Addr) (t:OV) (x:Str) (_:l=[.ow true t,.is (.str x)]) (_:DE s C T a t) (_:s.Ok) (_:R=.mt (EH (λs t=>DE s C T a t) s (Fy s x))):X4 C T l R
inductive Uc (C T:Addr) (l:List Slot) (R:Ad):Prop
 |mk (s:Ls) (a:Addr) (t:OV) (d:Ag) (_:l=[.ow true t,.is (aP d)]) (_:DE s C T a t) (_:s.Ok) (_:d.say) (_:s.sn.length<=1000) (_:R=.mt (EH (λs t=>DE s C T a t) s (HU s d))):Uc C T l R
inductive c6 (C T:Addr) (l:List Slot) (R:Ad):Prop
 |mk (s:Ls) (a:Addr) (t:OV) (e:LE) (_:l=[.ow true t,.is e.P]) (_:DE s C T a t) (_:s.Ok) (_:e.say) (_:s.sn.length<=1000) (_:R=.mt (EH (λs t=>DE s C T a t) s (Fe s e))):c6 C T l R
def Em(s:Ls)(d:Ak)(i:Nat):Ls:=⟨s.row,s.ln,CS s d i,s.sn,Cp s d i⟩
inductive RZ (C T:Addr) (l:List Slot) (R:Ad):Prop
 |mk (s:Ls) (a:Addr) (t:OV) (d:Ak) (i:Nat) (x:Str) (_:l=[.ow true t,.is (.str x),.is (dP d)]) (_:DE (Em s d i) C T a t) (_:s.Ok) (_:s.ln[i]?=some x) (_:d.Ok 40 s.row) (_:(∀x,d=.take x∨(∃i,d=.move x i)->Bz x)) (_:s.sn.length<=1000) (_:R=.mt λp t'=>p=.A9/\DE (Em s d (i+1)) C T a t'):RZ C T l R
inductive WL (C T:Addr) (l:List Slot) (R:Ad):Prop
 |mk (s:Ls) (xs:List PV) (x:Str) (q:Sm) (_:l=[.is (T7 C s xs),.is (.str x)]) (_:s.ln.length=s.ll.length) (_:x∈s.sn) (_:xs[s.sn.idxOf x]?=some (.obj T ["stood","joined","told","taken"] (Fo q))) (_:R=.is λp=>p=.tup (Fo q++[.int (EE s x).length])):WL C T l R
noncomputable def runs(s:Ls):List LE->Option Ls
 | []=>some s
 |e::r=>match Fe s e with
  |some s'=>runs s' r
  |none=>none
noncomputable def D4(ns:List Str):Ls:=⟨ns,[],[],[],[]⟩
noncomputable def U9(C:Addr)(n:Int):Ex:=⟨C,["number"],[.int n]⟩
def Hi(ns:List Str)(es:List LE)(i:Nat):Prop:=∃s e,runs (D4 ns) (es.take i)=some s/\es[i]?=some e/\Fe s e=none
theorem ZZ(h:Gk 40 ns):(D4 ns).Ok:=⟨h,rfl,rfl,RE,RE,λx hx=>absurd hx BA,λx hx=>absurd hx BA,λx hx=>absurd hx BA⟩
theorem nY:∀{s s':Ls},s.Ok->runs s es=some s'->s'.Ok:=by
 induction es with
 |nil=>intro s s' h e;rw[runs]at e;cases e;exact h
 |cons x es a=>
  intro s s' h e;rw[runs]at e;split at e
  .next s1 e1=>exact a (h.step e1) e
  .cases e
theorem Zk{fs:List LE}:∀{s:Ls},runs s (es++fs)=(runs s es).bind λs'=>runs s' fs:=by
 induction es with
 |nil=>intro s;rfl
 |cons x es a=>
  intro s;rw[cR,runs,runs];split
  .exact a
  .rfl
theorem QR(h:runs s es=some s'):runs s (es++[e])=Fe s' e:=by
 rw[Zk,h];show runs s' [e]=_;rw[runs];cases Fe s' e <;> rfl
theorem lT(h:Hi ns es i):runs (D4 ns) es≠some s:=λz=>by
 obtain⟨s1,e,h1,h2,a⟩:=h;obtain⟨hi,b⟩:=List.getElem?_eq_some_iff.mp h2;have c:es=es.take i++[e]++es.drop (i+1):=by
  rw[C5]
  conv=>lhs;rw[<- LR i es,oh hi,b]
  rfl
 rw[c,Zk,QR h1,a]at z;cases z
theorem pk(h:Fe s e=some s'):s'.sn.length<=s.sn.length+1:=by
 cases e with
 |J5 x r=>
  have h:Ga s x r=some s':=h;unfold Ga at h;split at h
  .cases h;show(s.sn++[x]).length<=_;rw[CP];exact B4 _
  .cases h
 |tell x y=>
  have h:Fw s x y=some s':=h;unfold Fw at h;split at h
  .split at h
   .cases h;exact G6 _
   .cases h
  .cases h
 |over x=>
  have h:Fy s x=some s':=h;unfold Fy at h;split at h
  .split at h
   .cases h;exact G6 _
   .cases h
  .cases h
 |G1 d=>
  have h:HU s d=some s':=h;unfold HU at h;split at h
  .cases h;exact G6 _
  .cases h
theorem dA:∀{s s':Ls},runs s es=some s'->s'.sn.length<=s.sn.length+es.length:=by
 induction es with
 |nil=>intro s s' e;rw[runs]at e;cases e;exact B4 _
 |cons x es a=>
  intro s s' e;rw[runs]at e;split at e
  .next s1 e1=>have:=a e;have:=pk e1;rw[Ck];omega
  .cases e
def Xp(C T N:Addr):EG:=λl R D=>∃(tp:Bool)(ns:List Str)(es:List LE),l=[.is (OO tp (ns.map .str)),.is (.lst (es.map LE.P))]/\Gk 40 ns/\(∀e∈es,e.say)/\es.length<=200/\(R=.ow λu=>∃s a,runs (D4 ns) es=some s/\DE s C T a u)/\D=λx=>∃i:Nat,x=U9 N i/\Hi ns es i
inductive Vi (l:List Slot) (R:Ad):Prop
 |mk (ns:List Str) (d:Ag) (_:l=[.is (.lst (ns.map .str)),.is (aP d)]) (_:d.say) (_:ns.length<=40) (_:R=.is λp=>p=.bl (GP ns d).isSome):Vi l R
def Yn(k:Nat)(q:Sm):Sm:=if k=1 then q.join else if k=2 then q.tell else q.take
inductive ON (l:List Slot) (R:Ad):Prop
 |mk (s:Ls) (a:Addr) (t:OV) (x:Str) (k:Nat) (_:l=[.ow true t,.is (.str x),.is (.int k)]) (_:DV s a t) (_:x∈s.sn) (_:s.sn.length=s.sq.length) (_:(k=1∨k=2∨k=3)) (_:R=.mt λp t'=>p=.A9/\DV ⟨s.row,s.ln,s.ll,s.sn,s.sq.modify (s.sn.idxOf x) (Yn k)⟩ a t'):ON l R
inductive Sa (l:List Slot) (R:Ad):Prop
 |mk (s:Ls) (a:Addr) (t:OV) (d:Ag) (_:l=[.ow true t,.is (aP d)]) (_:DV s a t) (_:s.Ok) (_:d.say) (_:s.sn.length<=1000) (_:R=.mt (EH (λs t=>DV s a t) s (HU s d))):Sa l R
inductive Ym (l:List Slot) (R:Ad):Prop
 |mk (s:Ls) (a:Addr) (t:OV) (x r:Str) (_:l=[.ow true t,.is (.str x),.is (.str r)]) (_:DV s a t) (_:s.Ok) (_:Bz x) (_:Bz r) (_:s.sn.length<=1000) (_:R=.mt (EH (λs t=>DV s a t) s (Ga s x r))):Ym l R
inductive X9 (l:List Slot) (R:Ad):Prop
 |mk (s:Ls) (a:Addr) (t:OV) (e:LE) (_:l=[.ow true t,.is e.P]) (_:DV s a t) (_:s.Ok) (_:e.say) (_:s.sn.length<=1000) (_:R=.mt (EH (λs t=>DV s a t) s (Fe s e))):X9 l R
def XF:Pre:=λl R=>l=[.AS]/\R=.is λp=>∃r,p=.str r/\r∈KP
def Du(s:Ls):PV:=.B2 k3 [.lst (s.row.map .str),.B2 (Ae s.ln) (s.ll.map Lp.P),.B2 (Ae s.sn) (s.sq.map λq=>.lst (Fo q))]
theorem cG(h:R2 md us s.sq):(Bh s a aL aS us).pv=Du s:=by
 have e:OV.D8 us=s.sq.map λq=>.lst (Fo q):=by
  rw[ZY];apply cU;intro n;rw[Bb,Bb];have d:=h.1;cases c:us[n]? with
  |none=>rw[LQ (by have:=List.getElem?_eq_none_iff.mp c;omega)];rfl
  |some u=>
   have hn:=(List.getElem?_eq_some_iff.mp c).1;have eq:=BK (l:=s.sq) (i:=n) (by omega);obtain⟨b,rfl⟩:=h.2 n u _ c eq;rw[eq];show some _=some _;rw[v5]
 unfold Bh Du;rw[OV.pv,OV.D8,OV.D8,OV.D8,OV.D8,OV.pv,OV.pv,OV.pv,mF,e]
theorem fY(e:LE):IE e.P=true:=by
 cases e with
 |G1 d=>cases d <;> rfl
 |_=>rfl
noncomputable def Ri(K:ZJa)(S:Addr)(c:GZ):Bool:=PySem.W.exmOne K (.ref c.noName) (.ref S) == some true && (PySem.W.exmOne K (.ref c.there) (.ref S) == some true && (PySem.W.exmOne K (.ref c.gone) (.ref S) == some true && (PySem.W.exmOne K (.ref c.PZ) (.ref S) == some true && PySem.W.exmOne K (.ref c.full) (.ref S) == some true)))
theorem qE{K:ZJa}{e:Ex}(h:Ri K S c=true)(hd:d.B3 c ns=some e):PySem.W.exmOne K (.ref e.C) (.ref S)=some true:=by
 unfold Ri at h;simp only[Dm,ZBY]at h;obtain⟨h1,h2,b,a,f⟩:=h;cases d with
 |put x i=>
  simp only[Ag.B3]at hd;split at hd
  .cases hd;exact h1
  .split at hd
   .cases hd;exact h2
   .split at hd
    .cases hd;exact a
    .split at hd
     .cases hd;exact f
     .cases hd
 |take x=>
  simp only[Ag.B3]at hd;split at hd
  .cases hd;exact b
  .cases hd
 |move x i=>
  simp only[Ag.B3]at hd;split at hd
  .cases hd;exact b
  .split at hd
   .cases hd;exact a
   .cases hd
 |turn lo hi=>
  simp only[Ag.B3]at hd;split at hd
  .cases hd;exact a
  .split at hd
   .cases hd;exact a
   .cases hd
theorem DE.nd{s:Ls}{C T a:Addr}{t:OV}(h:DE s C T a t):∃nk us,t=.nd nk a us:=by
 obtain⟨dx,aL,aS,us,_,rfl⟩:=h;exact⟨_,_,rfl⟩
theorem DV.nd{s:Ls}{a:Addr}{t:OV}(h:DV s a t):∃nk us,t=.nd nk a us:=by
 obtain⟨aL,aS,us,_,rfl⟩:=h;exact⟨_,_,rfl⟩
theorem EH.nd{T:Ls->OV->Prop}{a:Addr}{s:Ls}{o:Option Ls}{p:PV}{t:OV}(h:EH T s o p t)(b:∀s t,T s t->∃nk us,t=.nd nk a us):∃nk us,t=.nd nk a us:=by
 rcases h with⟨s',_,_,h⟩|⟨_,_,h⟩
 .exact b _ _ h
 .exact b _ _ h
theorem Lv(ns:List Str):(Ae ns).map Ge=ns.map PV.str:=by
 unfold Ae;rw[Oh];rfl
section
variable[Xw]
theorem OW{lt:Bool}{k:PV->OV->Prop}(hi:ss[i]?=some (.ow lt t))(h:Wm ss i lt t te λp t'=>(∃nk a us,t'=.nd nk a us)/\k p t'):Ws ss (Hy te) nx (.mt k):=⟨λE D Z F H S hn j=>
 h.go E Z F H _ S λv p t' F1 H1 d r AU=>by
  obtain⟨⟨nk,a0,us,e⟩,kk⟩:=AU;subst e;have l:i<ss.length:=(List.getElem?_eq_some_iff.mp hi).1;obtain⟨g,e0,b,DP,c⟩:=d.st.ok i (.ow lt (.nd nk a0 us)) (by rw[Cs l]);have m:g=.ref a0:=by cases b;rfl
  subst m;exact j v F1 H1 d.st.toFin ⟨p,.nd nk a0 us,r,b,DP,λa f=>⟨(c a f).1,(c a f).2.imp id λz=>z.2⟩,kk⟩⟩
theorem Pm{lt:Bool}{K:ZJa}{k:List Nat->OV->Prop}(hi:ss[i]?=some (.ow lt (Bk s C a dx aL aS us)))(b:C3 K C)(na:BV K C "standing")(h:k ([]++[0]) (.fz (.lst (s.row.map .str)))):Wl ss i (Bk s C a dx aL aS us) (L8 K (BW i) "standing") k:=ba (DK hi ⟨C,dx,GR,a,_,0,_,rfl,b,na,by decide+kernel,rfl,h⟩)
theorem Kn{lt:Bool}{K:ZJa}{k:List Nat->OV->Prop}(hi:ss[i]?=some (.ow lt (Bk s C a dx aL aS us)))(b:C3 K C)(na:BV K C "running")(h:k ([]++[1]) (.nd (.B2 (Ae s.ln)) aL (CI s.ll))):Wl ss i (Bk s C a dx aL aS us) (L8 K (BW i) "running") k:=ba (DK hi ⟨C,dx,GR,a,_,1,_,rfl,b,na,by decide+kernel,rfl,h⟩)
theorem Qz{lt:Bool}{K:ZJa}{k:List Nat->OV->Prop}(hi:ss[i]?=some (.ow lt (Bk s C a dx aL aS us)))(b:C3 K C)(na:BV K C "tallies")(h:k ([]++[2]) (.nd (.B2 (Ae s.sn)) aS us)):Wl ss i (Bk s C a dx aL aS us) (L8 K (BW i) "tallies") k:=ba (DK hi ⟨C,dx,GR,a,_,2,_,rfl,b,na,by decide+kernel,rfl,h⟩)
theorem O6{lt:Bool}{k:List Nat->OV->Prop}(hi:ss[i]?=some (.ow lt (Bh s a aL aS us)))(h:k ([]++[0]) (.fz (.lst (s.row.map .str)))):Wl ss i (Bh s a aL aS us) (L6 (BW i) (tC (V.str "row"))) k:=HA (DK hi ⟨k3,a,_,rfl,DJ ⟨.inr "row", 0,_,rfl,by decide+kernel,rfl,h⟩⟩)
theorem Po{lt:Bool}{k:List Nat->OV->Prop}(hi:ss[i]?=some (.ow lt (Bh s a aL aS us)))(h:k ([]++[1]) (.nd (.B2 (Ae s.ln)) aL (CI s.ll))):Wl ss i (Bh s a aL aS us) (L6 (BW i) (tC (V.str "live"))) k:=HA (DK hi ⟨k3,a,_,rfl,DJ ⟨.inr "live", 1,_,rfl,by decide+kernel,rfl,h⟩⟩)
theorem UG{lt:Bool}{k:List Nat->OV->Prop}(hi:ss[i]?=some (.ow lt (Bh s a aL aS us)))(h:k ([]++[2]) (.nd (.B2 (Ae s.sn)) aS us)):Wl ss i (Bh s a aL aS us) (L6 (BW i) (tC (V.str "sums"))) k:=HA (DK hi ⟨k3,a,_,rfl,DJ ⟨.inr "sums", 2,_,rfl,by decide+kernel,rfl,h⟩⟩)
theorem Jf{lt:Bool}{k:Bool->List PV->Prop}(e:ss[0]?=some (.ow lt (Bk s C a dx aL aS us)))(h1:ss[1]?=some (.is (.str x)))(c:s.ln.length=s.ll.length)(d:k true ((EE s x).map .str)):Wq ss (MC C "coming" (B6 (Lm C)) [] E0 (BW 0) (An (BW 1) BQ)) k:=
 BP (lz (i:=0) (DK e ⟨dx,GR,a,_,rfl,by decide+kernel,iw (A8 h1 (lY ⟨_,⟨s,_,x,vB (λp=>[Slot.is p,.is (.str x)]) b7,c,rfl⟩,λ_ b=>b▸⟨zW _,_,.inr ⟨rfl,d⟩⟩⟩))⟩))
variable{ta tb:TE}{K:ZJa}{xs:List PV}
end
theorem ZCm(h:Hi ns es i)(k:Hi ns es j):i=j:=by
 have lt:∀{i j:Nat},Hi ns es i->Hi ns es j->¬ i<j:=λ{i j}h k lt=>by
  obtain⟨s1,b,f,d,c1⟩:=h;obtain⟨s2,l,a,c,c2⟩:=k;obtain⟨hi,q⟩:=List.getElem?_eq_some_iff.mp d;have g:=(List.getElem?_eq_some_iff.mp c).1;have e:es.take j=es.take i++[b]++(es.take j).drop (i+1):=by
   conv=>lhs;rw[<- LR (i+1) (es.take j),List.take_take,show min (i+1) j=i+1 by omega,VM hi,q]
  rw[e,Zk,QR f,c1]at a;cases a
 have:=lt h k;have:=lt k h;omega
end Fz
namespace L2
variable{prog:Program}{w:World}{A:Around}{E:Value->Shared->Prop}{s:Shared}{κ:KeyKind}{S:Keyed->Prop}{arr xs ys:Array Keyed}{e i m n na nb nrem:Nat}{key x:Keyed}{Q:Bool->SortSt->Prop}{α γ:Type}{c:Prop}{p:Array (Nat×Nat×Nat)}{rs vs:List Value}{ms ns:List Str}
noncomputable def ZBD:=sortPriv% PySem.Builtin.gallop
noncomputable def rh:=sortPriv% PySem.Builtin.mergeLo
noncomputable def zm:=sortPriv% PySem.Builtin.mergeHi
def Bm(S:Keyed->Prop)(xs:Array Keyed):Prop:=∀p∈xs.toList,S p
theorem Bm.at(h:Bm S xs)(hi:i<xs.size):S xs[i]:=h _ (by simp)
theorem Bm.push(h:Bm S xs)(hx:S x):Bm S (xs.push x):=λp a=>by
 rw[oU]at a;exact(List.mem_append.mp a).elim (h p) λz=>by rw[List.mem_singleton.mp z];exact hx
theorem Bm.app(h:Bm S xs)(k:Bm S ys):Bm S (xs++ys):=λp a=>by
 rw[Array.toList_append]at a;exact(List.mem_append.mp a).elim (h p) (k p)
theorem Bm.ext(h:Bm S xs)(i j:Nat):Bm S (xs.extract i j):=λp a=>by
 rw[Array.toList_extract]at a;exact h p (ZIR (cj a))
theorem Bm.rev(h:Bm S xs):Bm S xs.reverse:=λp a=>by
 rw[Array.toList_reverse]at a;exact h p (List.mem_reverse.mp a)
theorem Bm.one(hx:S x):Bm S #[x]:=λp a=>by rw[List.mem_singleton.mp a];exact hx
structure JK (κ:KeyKind) (S:Keyed->Prop):Prop where
 lt:κ.OneLt
 key:∀p,S p->∃a,κ.keyOf p.1=some a
theorem Qv{st:SortSt}{y:Keyed}{Q:Option Bool->SortSt->Prop}(c:JK κ S)(e:kindOf st=oneType')(hx:S x)(d:S y)(h:∀b,Q (some b) st):wpS (model prog w) A E s (lt' x y) Q st:=by
 obtain⟨a,g⟩:=c.key x hx;obtain⟨b,f⟩:=c.key y d;rw[lt'_eq];refine tY (ZAi ?_);rw[e,keyLt'_oneType];exact tY (ZB1 (wpAny_attempt (c.lt prog w A _ s _ _ a b g f ⟨rfl,tf (h _)⟩)))
theorem DF{st:SortSt}{Q:Keyed->SortSt->Prop}(hi:i<xs.size)(h:Q xs[i] st):wpS (model prog w) A E s (elem' xs i) Q st:=by
 rw[elem'_eq,getElem?_pos xs i hi];exact tf h
theorem BD[Decidable c]{b a:StateT SortSt Sem α}{Q:α->SortSt->Prop}{st:SortSt}(h1:c->wpS (model prog w) A E s b Q st)(h2:¬ c->wpS (model prog w) A E s a Q st):wpS (model prog w) A E s (if c then b else a) Q st:=by
 split
 .next c=>exact h1 c
 .next c=>exact h2 c
theorem dZ[Decidable c]{b a:StateT SortSt Sem α}{Q:α->SortSt->Prop}{st:SortSt}(h2:¬ c->wpS (model prog w) A E s a Q st)(h1:c->wpS (model prog w) A E s b Q st):wpS (model prog w) A E s (if c then b else a) Q st:=BD h1 h2
theorem iF{P R:Nat->Prop}(k:∀g,P g)(f:(∀g,P g)->∀g,R g):∀g,R g:=f k
theorem Ed{x y:Nat}(h:¬ (x == y)=true):x≠y:=λz=>h (by rw[z];exact uz y)
theorem Na{st:SortSt}{left:Bool}{ZB hint:Nat}{Q:Option Nat->SortSt->Prop}(j:JK κ S)(f:kindOf st=oneType')(Tp:S key)(g:Bm S arr)(m:ZB+n<=arr.size)(hh:hint<n)
  (h:∀k,k<=n->Q (some k) st):wpS (model prog w) A E s (ZBD left key arr ZB n hint) Q st:=by
 have d:∀(i:Nat)(Q':Option Bool->SortSt->Prop),i<n->(∀b,Q' (some b) st)->wpS (model prog w) A E s (do
   let x <- elem' arr (ZB+i)
   if left=true then lt' x key else do
    let r <- lt' key x
    pure (Option.map (λx=>!x) r)) Q' st:=λi Q' hi e=>by
  have a:ZB+i<arr.size:=by omega
  refine tY (DF a (BD (λ_=>Qv j f (g.at a) Tp e) (λ_=>tY (Qv j f Tp (g.at a) λb=>tf (e _)))))
 refine tY (d _ _ hh λright=>BD (λ_=>?_) (λ_=>?_))
 all_goals
  refine tY (xY (vz (I:=λ_ c AG=>AG=st/\∃l o,c=(none,l,o)) (Q:=λc AG=>AG=st/\∃l o,c=(none,l,o)) ?_ (λ_ _ z=>z) ⟨rfl,0,1,rfl⟩) ?_)
  .rintro x c AG _ _⟨rfl,l,o,rfl⟩;dsimp only;refine BD (λ_=>tf ⟨rfl,l,o,rfl⟩) (λ_=>tY (d _ _ (by omega) λb=>BD (λ_=>tf ⟨rfl,_,_,rfl⟩) (λ_=>tf ⟨rfl,_,_,rfl⟩)))
  .rintro c AG⟨rfl,l,o,rfl⟩;dsimp only;refine tY (xY (vz (I:=λ_ c Px=>Px=AG/\∃l o,o<=n/\c=(none,l,o)) (Q:=λc Px=>Px=AG/\∃l o,o<=n/\c=(none,l,o)) ?_ (λ_ _ z=>z) ⟨rfl,_,_,by omega,rfl⟩) ?_)
   .rintro x c Px _ _⟨rfl,l,o,ho,rfl⟩;dsimp only;exact BD (λ_=>tf ⟨rfl,l,o,ho,rfl⟩) (λ_=>tY (d _ _ (by omega) λb=>BD (λ_=>tf ⟨rfl,_,_,ho,rfl⟩) (λ_=>tf ⟨rfl,_,_,by omega,rfl⟩)))
   .rintro c Px⟨rfl,l,o,ho,rfl⟩;exact tf (h o ho)
def Ii(st AG:SortSt):Prop:=∃g,AG=SortSt.mk' (kindOf st) (arrOf st) (pendingOf st) g (failedOf st)
def N6(S:Keyed->Prop)(st:SortSt)(G:γ->Prop)(c:Option (Array Keyed)×γ)(AG:SortSt):Prop:=Ii st AG/\((∃r,c.1=some r/\Bm S r)∨c.1=none/\G c.2)
section
variable{a b:Array Keyed}
abbrev Hb(a b:Array Keyed)(m ia ib:Nat):Prop:=ia+1<a.size/\ib<b.size/\m<=ia+ib
def Qy(S:Keyed->Prop)(a b:Array Keyed)(m:Nat)(out:Array Keyed)(ia ib:Nat):Prop:=Hb a b m ia ib/\Bm S out
section
variable{k ia ib:Nat}
theorem nA(h:Hb a b m ia ib)(c:¬ (ib+1 == b.size)=true):Hb a b (m+1) ia (ib+1):=by have:=Ed c;omega
theorem iJ(h:Hb a b m ia ib)(c:¬ (ia+1+1 == a.size)=true):Hb a b (m+1) (ia+1) ib:=by have:=Ed c;omega
theorem ZEg(h:Hb a b m ia ib)(d:k<=b.size - ib)(c:¬ (ib+k == b.size)=true):Hb a b m ia (ib+k):=by have:=Ed c;omega
theorem si(h:Hb a b m ia ib)(d:k<=a.size - ia)(c:¬ (ia+k+1 == a.size)=true)(c2:¬ (ia+k == a.size)=true):Hb a b m (ia+k) ib:=by have:=Ed c;have:=Ed c2;omega
theorem lo_le(h:Hb a b m ia ib)(e:n<=m):Hb a b n ia ib:=⟨h.1,h.2.1,Bi e h.2.2⟩
theorem Tt(h:Hb a b m ia ib):ia<a.size/\ia+(a.size - ia)<=a.size/\0<a.size - ia/\ib+(b.size - ib)<=b.size/\0<b.size - ib:=by omega
end
theorem ZBH{st:SortSt}{Q:Array Keyed->SortSt->Prop}(H:JK κ S)(G:kindOf st=oneType')(m:Bm S a)(l:Bm S b)(h1:1<=a.size)(h2:1<=b.size)
  (h:∀out AG,Ii st AG->Bm S out->Q out AG):wpS (model prog w) A E s (rh a b) Q st:=by
 have v:=λ{out:Array Keyed}(o:Bm S out)(i j:Nat)=>(o.app (m.ext i a.size)).app (l.ext j b.size);have C:=λ{out:Array Keyed}(o:Bm S out)(i j:Nat)=>(o.app (l.ext j b.size)).app (m.ext i a.size);refine tY (ZB1 (zE ⟨rfl,tY (DF h2 ?_)⟩));have D:=Bm.one (l.at h2);have s0:Ii st st:=⟨gallopOf st,rfl⟩;refine BD (λ_=>tf (h _ _ s0 (v D _ _))) (λc1=>BD (λ_=>tf (h _ _ s0 (C D _ _))) (λc2=>?_));have c1:=Ed c1;have c2:=Ed c2;refine tY (ZAi (tY (xY (vz (I:=λx c AG=>Ii st AG/\∃out ia ib g,Qy S a b x out ia ib/\c=(none,out,ia,ib,g)) (Q:=N6 S st λ_=>False) ?_ ?_ ⟨s0,_,0,1,_,⟨by omega,D⟩,rfl⟩) ?_)))
 .rintro x c LM _ _⟨O,P,M,L,g1,ZL,rfl⟩;refine tY (xY (vz (I:=λy c AG=>Ii st AG/\∃out ia ib p n,Qy S a b (x+y) out ia ib/\c=(none,out,ia,ib,p,n)) (Q:=N6 S st λc=>Qy S a b (x+1) c.1 c.2.1 c.2.2.1) ?_ ?_ ⟨O,_,_,_,_,_,ZL,rfl⟩) ?_)
  .rintro y c AG _ R⟨e,out,ia,ib,p,n,⟨d,al⟩,rfl⟩;have F:=(Tt d).1;refine tY (DF d.2.1 (tY (DF F (tY (Qv H (by obtain⟨g,rfl⟩:=e;exact G) (l.at _) (m.at _) λT=>BD (λ_=>tY (DF d.2.1 ?_)) (λ_=>tY (DF F ?_)))))))
   .have q:=al.push (l.at d.2.1);refine BD (λ_=>tf ⟨e,.inl ⟨_,rfl,v q _ _⟩⟩) (λc=>?_);have B:=nA d c;exact BD (λ_=>tf ⟨e,.inr ⟨rfl,lo_le B (by omega),q⟩⟩) (λ_=>tf ⟨e,_,_,_,_,_,⟨B,q⟩,rfl⟩)
   .have q:=al.push (m.at F);refine BD (λ_=>tf ⟨e,.inl ⟨_,rfl,C q _ _⟩⟩) (λc=>?_);have B:=iJ d c;exact BD (λ_=>tf ⟨e,.inr ⟨rfl,lo_le B (by omega),q⟩⟩) (λ_=>tf ⟨e,_,_,_,_,_,⟨B,q⟩,rfl⟩)
  .rintro c AG⟨e,out,ia,ib,p,n,d,rfl⟩;exact⟨e,.inr ⟨rfl,lo_le d.1 (by omega),d.2⟩⟩
  .rintro⟨_,c⟩Di⟨PK,⟨r,f,t⟩|⟨f,N⟩⟩
   .cases f;exact tf ⟨PK,.inl ⟨_,rfl,t⟩⟩
   .cases f;refine tY (ZB1 (zE ⟨rfl,tY (xY (vz (I:=λ_ c AG=>Ii st AG/\∃out ia ib g p n,Qy S a b (x+1) out ia ib/\c=(none,out,ia,ib,g,p,n)) (Q:=N6 S st λc=>Qy S a b (x+1) c.1 c.2.1 c.2.2.1) ?_ ?_ ⟨PK,_,_,_,_,_,_,N,rfl⟩) ?_)⟩))
    .rintro y c AG _ _⟨⟨g0,rfl⟩,out,ia,ib,g,p,n,⟨d,al⟩,rfl⟩;have u:=Tt d;revert g;refine iF ?k λK g=>dZ (λ_=>K g) (λ_=>K _);intro g
     all_goals
      refine tY (z7 (tY (DF d.2.1 (tY (Na H G (l.at _) m u.2.1 u.2.2.1 λk NR=>BD (λ_=>?_) (λ_=>?_))))))
      case' refine_1=>
       have al:=al.app (m.ext ia (ia+k));refine BD (λ_=>tf ⟨⟨_,rfl⟩,.inl ⟨_,rfl,C al _ _⟩⟩) (λc=>BD (λ_=>tf ⟨⟨_,rfl⟩,.inl ⟨_,rfl,v al _ _⟩⟩) (λc2=>?_));have d:=si d NR c c2
      all_goals
       have J:=(Tt d).1;refine tY (DF d.2.1 ?_);have al:=al.push (l.at d.2.1);refine BD (λ_=>tf ⟨⟨_,rfl⟩,.inl ⟨_,rfl,v al _ _⟩⟩) (λc=>?_);have d:=nA d c;have u:=Tt d;refine tY (DF J (tY (Na H G (m.at _) l u.2.2.2.1 u.2.2.2.2 λk2 Sk=>BD (λ_=>?_) (λ_=>?_))))
       case' refine_1=>
        have al:=al.app (l.ext (ib+1) (ib+1+k2));refine BD (λ_=>tf ⟨⟨_,rfl⟩,.inl ⟨_,rfl,v al _ _⟩⟩) (λc2=>?_);have d:=ZEg d Sk c2
       all_goals
        refine tY (DF J ?_);have al:=al.push (m.at J);refine BD (λ_=>tf ⟨⟨_,rfl⟩,.inl ⟨_,rfl,C al _ _⟩⟩) (λc=>?_);have d:=lo_le (iJ d c) (show x+1<=_ by omega);exact BD (λ_=>tf ⟨⟨_,rfl⟩,.inr ⟨rfl,d,al⟩⟩) (λ_=>tf ⟨⟨_,rfl⟩,_,_,_,_,_,_,⟨d,al⟩,rfl⟩)
    .rintro c AG⟨e,out,ia,ib,g,p,n,d,rfl⟩;exact⟨e,.inr ⟨rfl,d⟩⟩
    .rintro⟨_,c⟩JX⟨R8,⟨r,f,t⟩|⟨f,Zr⟩⟩
     .cases f;exact tf ⟨R8,.inl ⟨_,rfl,t⟩⟩
     .cases f;obtain⟨g0,rfl⟩:=R8;exact tY (z7 (tf ⟨⟨_,rfl⟩,_,_,_,_,Zr,rfl⟩))
 .rintro c AG⟨e,out,ia,ib,g,d,rfl⟩;have:=d.1;exact absurd this (by omega)
 .rintro⟨_,c⟩AG⟨e,⟨r,f,t⟩|⟨_,z⟩⟩
  .cases f;exact tf (h _ _ e t)
  .exact z.elim
abbrev Hm(a b:Array Keyed)(m na nb:Nat):Prop:=(1<=na/\na<=a.size)/\(2<=nb/\nb<=b.size)/\na+nb+m<=a.size+b.size
def R3(S:Keyed->Prop)(a b:Array Keyed)(m:Nat)(na nb:Nat)(out:Array Keyed):Prop:=Hm a b m na nb/\Bm S out
section
variable{k:Nat}
theorem iR(h:Hm a b m na nb)(c:¬ (nb - 1 == 1)=true):Hm a b (m+1) na (nb - 1):=by have:=Ed c;omega
theorem fR(h:Hm a b m na nb)(c:¬ (na - 1 == 0)=true):Hm a b (m+1) (na - 1) nb:=by have:=Ed c;omega
theorem rB(h:Hm a b m na nb)(d:k<=nb)(c:¬ (k == 1)=true)(c2:¬ (k == 0)=true):Hm a b m na k:=by have:=Ed c;have:=Ed c2;omega
theorem vF(h:Hm a b m na nb)(d:k<=na)(c:¬ (k == 0)=true):Hm a b m k nb:=by have:=Ed c;omega
theorem TF(h:Hm a b m na nb)(e:n<=m):Hm a b n na nb:=by omega
theorem RT(h:Hm a b m na nb):na - 1<a.size/\nb - 1<b.size/\(0+na<=a.size/\na - 1<na)/\0+nb<=b.size/\nb - 1<nb:=by omega
end
theorem vA{st:SortSt}{Q:Array Keyed->SortSt->Prop}(D:JK κ S)(C:kindOf st=oneType')(m:Bm S a)(n:Bm S b)(h1:1<=a.size)(h2:1<=b.size)
  (h:∀out AG,Ii st AG->Bm S out->Q out AG):wpS (model prog w) A E s (zm a b) Q st:=by
 have u:=λ{out:Array Keyed}(o:Bm S out)(i j:Nat)=>((m.ext 0 i).app (n.ext 0 j)).app o.rev;have v:=λ{out:Array Keyed}(o:Bm S out)(i j:Nat)=>((n.ext 0 j).app (m.ext 0 i)).app o.rev;have H:a.size - 1<a.size:=by omega
 refine tY (ZB1 (zE ⟨rfl,tY (DF H ?_)⟩));have B:=Bm.one (m.at H);have s0:Ii st st:=⟨gallopOf st,rfl⟩;refine BD (λ_=>tf (h _ _ s0 (u B _ _))) (λc1=>BD (λ_=>tf (h _ _ s0 (v B _ _))) (λc2=>?_));have c1:=Ed c1;have c2:=Ed c2;refine tY (ZAi (tY (xY (vz (I:=λx c AG=>Ii st AG/\∃na nb out g,R3 S a b x na nb out/\c=(none,na,nb,out,g)) (Q:=N6 S st λ_=>False) ?_ ?_ ⟨s0,_,_,_,_,⟨by omega,B⟩,rfl⟩) ?_)))
 .rintro x c LM _ _⟨O,L,J,P,g1,ZL,rfl⟩;refine tY (xY (vz (I:=λy c AG=>Ii st AG/\∃na nb out q p,R3 S a b (x+y) na nb out/\c=(none,na,nb,out,q,p)) (Q:=N6 S st λc=>R3 S a b (x+1) c.1 c.2.1 c.2.2.1) ?_ ?_ ⟨O,_,_,_,_,_,ZL,rfl⟩) ?_)
  .rintro y c AG _ R⟨e,na,nb,out,q,p,⟨d,al⟩,rfl⟩;have f:=RT d;refine tY (DF f.2.1 (tY (DF f.1 (tY (Qv D (by obtain⟨g,rfl⟩:=e;exact C) (n.at _) (m.at _) λT=>BD (λ_=>tY (DF f.1 ?_)) (λ_=>tY (DF f.2.1 ?_)))))))
   .have al:=al.push (m.at f.1);refine BD (λ_=>tf ⟨e,.inl ⟨_,rfl,u al _ _⟩⟩) (λc=>?_);have d:=fR d c;exact BD (λ_=>tf ⟨e,.inr ⟨rfl,TF d (by omega),al⟩⟩) (λ_=>tf ⟨e,_,_,_,_,_,⟨d,al⟩,rfl⟩)
   .have al:=al.push (n.at f.2.1);refine BD (λ_=>tf ⟨e,.inl ⟨_,rfl,v al _ _⟩⟩) (λc=>?_);have d:=iR d c;exact BD (λ_=>tf ⟨e,.inr ⟨rfl,TF d (by omega),al⟩⟩) (λ_=>tf ⟨e,_,_,_,_,_,⟨d,al⟩,rfl⟩)
  .rintro c AG⟨e,na,nb,out,q,p,d,rfl⟩;exact⟨e,.inr ⟨rfl,TF d.1 (by omega),d.2⟩⟩
  .rintro⟨_,c⟩Di⟨PK,⟨r,l,t⟩|⟨l,N⟩⟩
   .cases l;exact tf ⟨PK,.inl ⟨_,rfl,t⟩⟩
   .cases l;refine tY (ZB1 (zE ⟨rfl,tY (xY (vz (I:=λ_ c AG=>Ii st AG/\∃na nb out g q p,R3 S a b (x+1) na nb out/\c=(none,na,nb,out,g,q,p)) (Q:=N6 S st λc=>R3 S a b (x+1) c.1 c.2.1 c.2.2.1) ?_ ?_ ⟨PK,_,_,_,_,_,_,N,rfl⟩) ?_)⟩))
    .rintro y c AG _ _⟨⟨g0,rfl⟩,na,nb,out,g,q,p,⟨d,al⟩,rfl⟩;have f:=RT d;revert g;refine iF ?k λK g=>dZ (λ_=>K g) (λ_=>K _);intro g
     all_goals
      refine tY (z7 (tY (DF f.2.1 (tY (Na D C (n.at _) m f.2.2.1.1 f.2.2.1.2 λk NR=>BD (λ_=>?_) (λ_=>?_))))))
      case' refine_1=>
       have al:=al.app (m.ext k na).rev;refine BD (λ_=>tf ⟨⟨_,rfl⟩,.inl ⟨_,rfl,u al _ _⟩⟩) (λc=>?_);have d:=vF d NR c
      all_goals
       have F:=(RT d).1;refine tY (DF f.2.1 ?_);have al:=al.push (n.at f.2.1);refine BD (λ_=>tf ⟨⟨_,rfl⟩,.inl ⟨_,rfl,v al _ _⟩⟩) (λc=>?_);have d:=iR d c;have G:=RT d;refine tY (DF F (tY (Na D C (m.at _) n G.2.2.2.1 G.2.2.2.2 λk2 Sk=>BD (λ_=>?_) (λ_=>?_))))
       case' refine_1=>
        have al:=al.app (n.ext k2 (nb - 1)).rev;refine BD (λ_=>tf ⟨⟨_,rfl⟩,.inl ⟨_,rfl,v al _ _⟩⟩) (λc2=>BD (λ_=>tf ⟨⟨_,rfl⟩,.inl ⟨_,rfl,u al _ _⟩⟩) (λM=>?_));have d:=rB d Sk c2 M
       all_goals
        refine tY (DF F ?_);have al:=al.push (m.at F);refine BD (λ_=>tf ⟨⟨_,rfl⟩,.inl ⟨_,rfl,u al _ _⟩⟩) (λc=>?_);have d:=TF (fR d c) (show x+1<=_ by omega);exact BD (λ_=>tf ⟨⟨_,rfl⟩,.inr ⟨rfl,d,al⟩⟩) (λ_=>tf ⟨⟨_,rfl⟩,_,_,_,_,_,_,⟨d,al⟩,rfl⟩)
    .rintro c AG⟨e,na,nb,out,g,q,p,d,rfl⟩;exact⟨e,.inr ⟨rfl,d⟩⟩
    .rintro⟨_,c⟩JX⟨R8,⟨r,l,t⟩|⟨l,Zr⟩⟩
     .cases l;exact tf ⟨R8,.inl ⟨_,rfl,t⟩⟩
     .cases l;obtain⟨g0,rfl⟩:=R8;exact tY (z7 (tf ⟨⟨_,rfl⟩,_,_,_,_,Zr,rfl⟩))
 .rintro c AG⟨e,na,nb,out,g,d,rfl⟩;have:=d.1;exact absurd this (by omega)
 .rintro⟨_,c⟩AG⟨e,⟨r,l,t⟩|⟨_,z⟩⟩
  .cases l;exact tf (h _ _ e t)
  .exact z.elim
end
structure CY (S:Keyed->Prop) (n:Nat) (p:Array (Nat×Nat×Nat)) (st:SortSt):Prop where
 size:(arrOf st).size=n
 al:Bm S (arrOf st)
 kind:kindOf st=oneType'
 failed:failedOf st=none
 pend:pendingOf st=p
theorem Bm.perm(h:Bm S ys)(e:xs.Perm ys):Bm S xs:=λq a=>h q ((Array.perm_iff_toList_perm.mp e).mem_iff.mp a)
theorem CY.set{st:SortSt}(h:CY S n p st)(e:xs.Perm (arrOf st)):CY S n p (setArr st xs):=⟨e.size_eq.trans h.size,h.al.perm e,h.kind,h.failed,h.pend⟩
theorem ZAb{st x:SortSt}{Q:PUnit->SortSt->Prop}(h:Q ⟨⟩ x):wpS (model prog w) A E s (set x:StateT SortSt Sem PUnit) Q st:=by
 unfold wpS;rw[StateT.run_set];exact qm ⟨rfl,h⟩
theorem iK{sa:Nat}:∀(l:List (Keyed×Nat))(xs:Array Keyed),Bm S xs->(∀q∈l,S q.1)->Bm S (l.foldl (λa q=>a.setIfInBounds (sa+q.2) q.1) xs)/\(l.foldl (λa q=>a.setIfInBounds (sa+q.2) q.1) xs).size=xs.size
 | [],xs,h,_=>⟨h,rfl⟩
 |q::l,xs,h,hl=>by
  have h':Bm S (xs.setIfInBounds (sa+q.2) q.1):=λy b=>by
   rw[ZI4]at b;exact(ZIS b).elim (h y) λz=>by rw[z];exact hl q DC
  have:=iK (sa:=sa) l _ h' λy b=>hl y (Dd _ b);exact⟨this.1,this.2.trans Array.size_setIfInBounds⟩
theorem z5{st:SortSt}{sa d OK:Nat}(e:JK κ S)(x:CY S n p st)(B:p[i]?=some (sa,na,d))(z:p[i+1]?=some (sa+na,nb,OK))(h1:1<=na)(h2:1<=nb)(C:sa+na+nb<=n)
  (h:∀AG,CY S n ((p.setIfInBounds i (sa,na+nb,d)).eraseIdxIfInBounds (i+1)) AG->Q true AG):wpS (model prog w) A E s (mergeAt' i) Q st:=by
 obtain⟨hsz,b,r,v,rfl⟩:=x;refine tY (ZAi ?_);rw[B,z];refine tY (ZAb ?_);obtain⟨Di,f⟩:∃Di,Di=SortSt.mk' (kindOf st) (arrOf st) (((pendingOf st).setIfInBounds i (sa,na+nb,d)).eraseIdxIfInBounds (i+1)) (gallopOf st) (failedOf st):=⟨_,rfl⟩;have ea:arrOf Di=arrOf st:=by rw[f]
 have a:CY S n (((pendingOf st).setIfInBounds i (sa,na+nb,d)).eraseIdxIfInBounds (i+1)) Di:=by rw[f];exact⟨hsz,b,r,v,rfl⟩
 show wpS _ _ _ _ _ Q (SortSt.mk' (kindOf st) (arrOf st) (((pendingOf st).setIfInBounds i (sa,na+nb,d)).eraseIdxIfInBounds (i+1)) (gallopOf st) (failedOf st));rw[<- f];refine tY (DF (show sa+na<(arrOf st).size by omega) (tY (Na (arr:=arrOf st) (ZB:=sa) (n:=na) (hint:=0) e a.kind (b.at _) b (by omega) (by omega) λk r=>BD (λ_=>tf (h _ a)) (λ(c:¬ (na - k == 0)=true)=>?_))));have c:=Ed c;refine tY (DF (show sa+k+(na - k) - 1<(arrOf st).size by omega) (tY (Na (arr:=arrOf st) (ZB:=sa+na) (n:=nb) (hint:=nb - 1) e a.kind (b.at _) b (by omega) (by omega) λm D=>BD (λ_=>tf (h _ a)) (λ(c2:¬ (m == 0)=true)=>?_))));have c2:=Ed c2;have l:1<=((arrOf st).extract (sa+k) (sa+na)).size:=by rw[ZI3];omega
 have j:1<=((arrOf st).extract (sa+na) (sa+na+m)).size:=by rw[ZI3];omega
 refine BD (λ_=>tY (ZBH e a.kind (b.ext _ _) (b.ext _ _) l j λout JX o t=>?_)) (λ_=>tY (vA e a.kind (b.ext _ _) (b.ext _ _) l j λout JX o t=>?_))
 all_goals
  obtain⟨g,rfl⟩:=o;have pl:=iK (sa:=sa+k) out.toList.zipIdx (arrOf st) b λq u=>t q.1 (List.fst_mem_of_mem_zipIdx u);rw[<- ea]at pl;refine tY (z7 (tY (ZAi (tf ?_))));show Q (Option.isNone (failedOf Di)) _;have y:Option.isNone (failedOf Di)=true:=by rw[a.failed];rfl
  rw[y];exact h _ ⟨pl.2.trans a.size,pl.1,a.kind,a.failed,a.pend⟩
theorem O2{st:SortSt}{j:Nat}{Q:Option Bool->SortSt->Prop}(d:JK κ S)(a:CY S n p st)(hi:i<n)(c:j<n)(h:∀b,Q (some b) st):wpS (model prog w) A E s (ltAt' i j) Q st:=by
 rw[ltAt'_eq];rw[<- a.size]at hi c;exact tY (ZAi (tY (DF hi (tY (DF c (Qv d a.kind (a.al.at hi) (a.al.at c) h))))))
theorem j4{st:SortSt}{a:Nat}{Q:Option (Option Nat)×Nat->SortSt->Prop}{f:Nat->Option (Option Nat)×Nat->StateT SortSt Sem (ForInStep (Option (Option Nat)×Nat))}(b:a<=nrem)(d:∀x AG,CY S n p AG->x<nrem->a<=x->∀R:ForInStep (Option (Option Nat)×Nat)->SortSt->Prop,(R (.done (none,x)) AG)->(R (.yield (none,x+1)) AG)->wpS (model prog w) A E s (f x (none,x)) R AG)(e:CY S n p st)
  (h:∀m AG,CY S n p AG->a<=m->m<=nrem->Q (none,m) AG):wpS (model prog w) A E s (forIn [a:nrem] (none,a) f) Q st:=by
 refine vz (I:=λx c AG=>CY S n p AG/\c=(none,x)) ?_ ?_ ⟨e,rfl⟩
 .rintro x c AG h1 h2⟨Cm,rfl⟩;exact d x AG Cm h2 h1 _ (h x AG Cm h1 (Oj h2)) ⟨Cm,rfl⟩
 .rintro c AG⟨Cm,rfl⟩;rw[Nat.max_eq_right b];exact h nrem AG Cm b (B4 _)
theorem xa{st:SortSt}{lo:Nat}{Q:Option Nat->SortSt->Prop}(k:JK κ S)(y:lo+nrem<=n)(hn:1<=nrem)(v:CY S n p st)
  (h:∀m AG,CY S n p AG->1<=m->m<=nrem->Q (some m) AG):wpS (model prog w) A E s (countRun' lo nrem) Q st:=by
 have a:∀{x:Nat},x<nrem->lo+x<n/\lo+x - 1<n:=λhx=>by omega
 have o:∀{AG:SortSt}(i j d:Nat),CY S n p AG->CY S n p (setArr AG (mirror (arrOf AG) i j d)):=λi j d Cm=>Cm.set (mirror_perm _ _ _ _);have l:∀{AG:SortSt}{x:Nat}{R:ForInStep (Option (Option Nat)×Nat)->SortSt->Prop},CY S n p AG->x<nrem->(R (.done (none,x)) AG)->(R (.yield (none,x+1)) AG)->∀b,wpS (model prog w) A E s (if b=true then pure (ForInStep.done (none,x))else pure (ForInStep.yield (none,x+1))) R AG:=λ_ _ g f b=>BD (λ_=>tf g) (λ_=>tf f)
 refine tY (j4 (p:=p) hn (λx AG Cm hx _ R g f=>tY (O2 k Cm (a hx).1 (a hx).2 (l Cm hx g f))) v λm LM e J9 Kz=>?_);refine BD (λ_=>tf (h m LM e J9 Kz)) (λ(c:¬ (m == nrem)=true)=>?_);have c:=Ed c;refine BD (λ_=>tY (O2 k e (show lo<n by omega) (show lo+m - 1<n by omega) λb=>BD (λ_=>tf (h m LM e J9 Kz)) (λ_=>tY (wpS_reverse ?_)))) (λ_=>?_)
 case' refine_1=>have e:=o lo (lo+m) ((lo+m - lo) / 2) e
 all_goals
  refine tY (ZB1 (zE ⟨rfl,tY (xY (vz (I:=λx c AG=>CY S n p AG/\∃q,c=(none,x,q)) (Q:=λc AG=>CY S n p AG/\∃m q,1<=m/\m<=nrem/\c=(none,m,q)) ?_ ?_ ⟨e,0,rfl⟩) ?_)⟩))
  .rintro x u AG Kr GB⟨Cm,q,rfl⟩;refine tY (O2 k Cm (a GB).1 (a GB).2 λb=>BD (λ_=>BD (λ_=>tY (wpS_reverse (tf ⟨o _ _ _ Cm,_,rfl⟩))) (λ_=>tf ⟨Cm,_,rfl⟩)) (λ_=>tY (O2 k Cm (a GB).2 (a GB).1 λb=>BD (λ_=>tf ⟨Cm,x,q,by omega,by omega,rfl⟩) (λ_=>tf ⟨Cm,_,rfl⟩))))
  .rintro u AG⟨Cm,q,rfl⟩;exact⟨Cm,_,q,by omega,by omega,rfl⟩
  .rintro u JX⟨t,r,q,J9,Kz,rfl⟩;refine BD (λ_=>tY (wpS_reverse ?_)) (λ_=>?_)
   case' refine_1=>have t:=o (lo+r - (q+1)) (lo+r) ((lo+r - (lo+r - (q+1))) / 2) t
   all_goals
    refine tY (wpS_reverse (tY (j4 (p:=p) Kz (λx AG Cm hx _ R g f=>tY (O2 k Cm (a hx).1 (a hx).2 (l Cm hx g f))) (o _ _ _ t) λm LM e h1 h2=>tf (h m LM e (Bi J9 h1) h2))))
theorem ZFA{st:SortSt}{lo ok:Nat}(e:JK κ S)(f:lo+m<=n)(d:CY S n p st)
  (h:∀AG,CY S n p AG->Q true AG):wpS (model prog w) A E s (binarySort' lo m ok) Q st:=by
 refine tY (xY (vz (I:=λ_ c AG=>CY S n p AG/\c=(none,())) (Q:=λc AG=>CY S n p AG/\c=(none,())) ?_ (λ_ _ z=>z) ⟨d,rfl⟩) ?_)
 .rintro k c AG NR Sk⟨Cm,rfl⟩;refine tY (xY (vz (I:=λ_ c AG=>CY S n p AG/\∃l r,r<=k/\c=(none,l,r)) (Q:=λc AG=>CY S n p AG/\∃l r,r<=k/\c=(none,l,r)) ?_ (λ_ _ z=>z) ⟨Cm,0,k,B4 _,rfl⟩) ?_)
  .rintro x c Di _ hx⟨Df,l,r,a,rfl⟩;exact BD (λ_=>tf ⟨Df,l,r,a,rfl⟩) (λ(c:¬ l>=r)=>tY (O2 e Df (show lo+k<n by omega) (show lo+(l+r) / 2<n by omega) λb=>BD (λ_=>tf ⟨Df,l,(l+r) / 2,by omega,rfl⟩) (λ_=>tf ⟨Df,(l+r) / 2+1,r,a,rfl⟩)))
  .rintro c Di⟨Df,l,r,_,rfl⟩;refine tY ?_;rw[show(sortPriv% PySem.Builtin.moveDown)=moveDown' from rfl,moveDown'_eq];exact z7 (tf ⟨Df.set (bubble_perm _ _ _),rfl⟩)
 .rintro c AG⟨Cm,rfl⟩;exact tf (h _ Cm)
def DN:Nat->List (Nat×Nat×Nat)->Nat->Prop
 |lo,[],hi=>lo=hi
 |lo,(st,n,_)::r,hi=>st=lo/\1<=n/\DN (lo+n) r hi
theorem DN.le:∀{l:List (Nat×Nat×Nat)}{lo hi:Nat},DN lo l hi->lo<=hi
 | [],_,_,h=>VN h
 | (_,n,_)::r,lo,hi,h=>by have:=DN.le h.2.2;omega
theorem DN.at2:∀{l:List (Nat×Nat×Nat)}{lo hi i:Nat},DN lo l hi->i+1<l.length->∃sa na d nb OK,l[i]?=some (sa,na,d)/\l[i+1]?=some (sa+na,nb,OK)/\1<=na/\1<=nb/\sa+na+nb<=hi/\DN lo ((l.set i (sa,na+nb,d)).eraseIdx (i+1)) hi
 | [],_,_,_,_,h=>by simp at h
 | [_],_,_,_,_,h=>by simp at h
 | (s1,n1,p1)::(s2,n2,p2)::r,lo,hi,0,h,_=>by
  obtain⟨rfl,a,rfl,b,c⟩:=h;refine⟨s1,n1,p1,n2,p2,rfl,rfl,a,b,DN.le c,rfl,by omega,?_⟩;show DN (s1+(n1+n2)) r hi;rw[<- Nat.add_assoc];exact c
 | (s1,n1,p1)::(s2,n2,p2)::r,lo,hi,i+1,h,hl=>by
  obtain⟨e,a,c⟩:=h;obtain⟨sa,na,d,nb,OK,h1,h2,k,j,g,f⟩:=DN.at2 (i:=i) c (by simpa using hl)
  exact⟨sa,na,d,nb,OK,h1,h2,k,j,g,e,a,f⟩
theorem DN.push:∀{l:List (Nat×Nat×Nat)}{lo hi n:Nat},DN lo l hi->1<=n->DN lo (l++[(hi,n,0)]) (hi+n)
 | [],lo,hi,n,h,hn=>by obtain rfl:lo=hi:=h;exact⟨rfl,hn,rfl⟩
 | (_,_,_)::r,_,_,_,h,hn=>⟨h.1,h.2.1,DN.push h.2.2 hn⟩
theorem DN.mark:∀{l:List (Nat×Nat×Nat)}{lo hi:Nat}(i a:Nat),DN lo l hi->DN lo (l.modify i λ(x:Nat×Nat×Nat)=>(x.1,x.2.1,a)) hi
 | [],_,_,_,_,h=>by simpa using h
 | (_,_,_)::r,_,_,0,_,h=>h
 | (_,_,_)::r,_,_,i+1,a,h=>⟨h.1,h.2.1,DN.mark i a h.2.2⟩
section
def GV(S:Keyed->Prop)(n lo:Nat)(st:SortSt):Prop:=CY S n (pendingOf st) st/\DN 0 (pendingOf st).toList lo/\lo<=n
theorem GV.of{lo:Nat}{st:SortSt}(h:CY S n p st)(r:DN 0 p.toList lo)(e:lo<=n):GV S n lo st:=by obtain⟨a,b,c,d,rfl⟩:=h;exact⟨⟨a,b,c,d,rfl⟩,r,e⟩
theorem kZ{st:SortSt}{lo:Nat}(g:JK κ S)(a:GV S n lo st)(hi:i+1<(pendingOf st).size)(h:∀AG,GV S n lo AG->Q true AG):wpS (model prog w) A E s (mergeAt' i) Q st:=by
 obtain⟨sa,na,j,nb,OK,h1,h2,f,e,d,c⟩:=a.2.1.at2 (i:=i) (by simpa using hi)
 refine z5 g a.1 (by rw[<- VB];exact h1) (by rw[<- VB];exact h2) f e (Bi d a.2.2) λAG b=>h AG (GV.of b ?_ a.2.2);rw[Array.toList_eraseIdxIfInBounds,ZI4];exact c
theorem qw[Decidable c](h:¬ n<=1):(if c then n - 2 - 1 else n - 2)+1<n:=by split <;> omega
theorem ZAr{st:SortSt}{Q:Unit->SortSt->Prop}(i:JK κ S)(k:CY S n #[] st)(h:∀AG,CY S n (pendingOf AG) AG->Q () AG):wpS (model prog w) A E s sortRuns' Q st:=by
 refine tY (ZAi ?_);have hsz:=k.size;refine tY (xY (vz (I:=λ_ c AG=>∃lo,GV S n lo AG/\c=(none,lo)) (Q:=λc AG=>∃lo,GV S n lo AG/\c=(none,lo)) ?_ (λ_ _ z=>z) ⟨0,GV.of k rfl (Ct _),rfl⟩) ?_)
 .rintro x c LM _ _⟨lo,a,rfl⟩;refine BD (λ_=>tf ⟨lo,a,rfl⟩) (λ(c:¬ lo>=(arrOf st).size)=>?_);refine tY (xa (lo:=lo) (nrem:=(arrOf st).size - lo) i (by omega) (by omega) a.1 λm Di Df Rl Ko=>?_);refine BD (λ(i:m<minRun' (arrOf st).size (arrOf st).size 0)=>?_) (λ_=>?_)
  case' refine_1=>
   refine tY (ZB1 (zE ⟨rfl,tY (ZFA (lo:=lo) (m:=min ((arrOf st).size - lo) (minRun' (arrOf st).size (arrOf st).size 0)) (by assumption) (by omega) Df λJX Oq=>BD (λz=>by cases z) (λ_=>?_))⟩));have d:1<=min ((arrOf st).size - lo) (minRun' (arrOf st).size (arrOf st).size 0)/\lo+min ((arrOf st).size - lo) (minRun' (arrOf st).size (arrOf st).size 0)<=n:=by omega
   have g:=GV.of Oq a.2.1 a.2.2;obtain⟨b,l⟩:∃b,b=JX:=⟨_,rfl⟩
  case' refine_2=>
   have d:1<=m/\lo+m<=n:=by omega
   have g:=GV.of Df a.2.1 a.2.2;obtain⟨b,l⟩:∃b,b=Di:=⟨_,rfl⟩
  all_goals
   rw[<- l]at g ⊢;refine tY (ZAi ?_);rcases e:(pendingOf b).back? with _|⟨r,p,o⟩
   case' some=>
    refine tY (xY (vz (I:=λ_ c AG=>GV S n lo AG/\c=(none,())) (Q:=λc AG=>GV S n lo AG/\c=(none,())) ?_ (λ_ _ z=>z) ⟨g,rfl⟩) ?_)
    .rintro y j ED _ _⟨Hj,rfl⟩;refine tY (ZAi ?_)
     by_cases f:(pendingOf ED).size > 1
     case neg=>
      dsimp only;rw[qg f];exact tf ⟨Hj,rfl⟩
     obtain⟨⟨r,p,o⟩,eq⟩:∃q,(pendingOf ED)[(pendingOf ED).size - 2]?=some q:=⟨(pendingOf ED)[(pendingOf ED).size - 2]'(by omega),getElem?_pos (pendingOf ED) _ (by omega)⟩;dsimp only;rw[tX f,eq];exact BD (λ_=>tf ⟨Hj,rfl⟩) (λ_=>tY (kZ (by assumption) Hj (show(pendingOf ED).size - 2+1<(pendingOf ED).size by omega) λLI XO=>BD (λz=>by cases z) (λ_=>tf ⟨XO,rfl⟩)))
    .rintro j ED⟨⟨Jv,Hj,_⟩,rfl⟩;refine tY (z7 (tY (z7 (tf ⟨_,⟨⟨Jv.size,Jv.al,Jv.kind,Jv.failed,rfl⟩,?_,d.2⟩,rfl⟩))));show DN 0 (((pendingOf ED).modify ((pendingOf ED).size - 1) _).push _).toList _;rw[oU,Array.toList_modify];exact(Hj.mark _ _).push d.1
   case' none=>
    obtain⟨Jv,Hj,_⟩:=g;refine tY (z7 (tf ⟨_,⟨⟨Jv.size,Jv.al,Jv.kind,Jv.failed,rfl⟩,?_,d.2⟩,rfl⟩));show DN 0 ((pendingOf _).push _).toList _;rw[oU];exact Hj.push d.1
 .rintro c LM⟨lo,a,rfl⟩;refine tY (xY (vz (I:=λ_ c AG=>GV S n lo AG/\c=(none,())) (Q:=λc AG=>GV S n lo AG/\c=(none,())) ?_ (λ_ _ z=>z) ⟨a,rfl⟩) ?_)
  .rintro y j ED _ _⟨Hj,rfl⟩;exact tY (ZAi (BD (λ_=>tf ⟨Hj,rfl⟩) (λ(f:¬ (pendingOf ED).size<=1)=>tY (kZ i Hj (qw f) λLI XO=>BD (λz=>by cases z) (λ_=>tf ⟨XO,rfl⟩)))))
  .rintro j ED⟨Hj,rfl⟩;exact tf (h _ Hj.1)
def SA(vs:List Value)(st:SortSt):Prop:=(∀p∈(arrOf st).toList,p∈(pairsOf vs).toList)/\(arrOf st).size=vs.length
theorem ZG0(k:κ.OneLt){a:Addr}{c b:Value}{P:PySem.Fin->Shared->Prop}(ho:s.heap.get? a=some (seqObj "list" (c::b::rs).toArray n))(l:KeysOf κ (pairsOf (c::b::rs)))(V8:keyKind' (c::b::rs).toArray=pure oneType')(i:(c::b::rs).length<=sizeLine)
  (h:∀st:SortSt,SA (c::b::rs) st->P (.done (.ret .none)) { s with heap:=sortedHeap s.heap a (c::b::rs) ((arrOf st).map (·.2)) }):wpAny (model prog w) A (Builtin.«list.sort» ⟨[.ref a],[]⟩) P E s:=by
 have g:=BE ho;obtain⟨e,g1⟩:∃e,(s.heap.update a (Obj.mapSeq λ_=>#[])).get? a=some (seqObj "list" #[] e):=⟨_,get?_update_seq ho (λ_=>#[])⟩;rw[list_sort_plain];refine pK (listItems_at ho rfl (pK (listUpdate_at ho rfl (pK (seqEpoch_at g1 rfl (pK (wpAny_newTuple (pK (ZAo (vH ?_))))))))));have f:(((s.heap.update a (Obj.mapSeq λ_=>#[])).push (seqObj "tuple" (c::b::rs).toArray 0)).push (seqObj "list" #[] 0)).get? a=some (seqObj "list" #[] e):=by
  rw[Heap.get?_push_ne _ _ _ (Br (by rw[size_push',oa];exact LS g)),Heap.get?_push_ne _ _ _ (Br (by rw[oa];exact g))];exact g1
 show wpAny (model prog w) A _ P E { s with heap:=((s.heap.update a (Obj.mapSeq λ_=>#[])).push (seqObj "tuple" (c::b::rs).toArray 0)).push (seqObj "list" #[] 0) }
 dsimp only;have c2:¬ (c::b::rs).toArray.size<2:=by simp
 rw[qg c2,qg c2,V8];refine pK (qm (pK (ud (ZAr (κ:=κ) (S:=λp=>p∈(pairsOf (c::b::rs)).toList) (n:=(c::b::rs).length) (st:=SortSt.mk' oneType' ((c::b::rs).toArray.zip (c::b::rs).toArray) #[] 7 none) (Q:=λ_ st=>SA (c::b::rs) st/\failedOf st=none) ⟨k,l⟩ ⟨pairsOf_size _,λp d=>d,rfl,rfl,rfl⟩ λst p=>⟨⟨p.al,p.size⟩,p.failed⟩) ?_ λ_ _ z=>z)));rintro⟨⟨⟩,st⟩_⟨rfl,d,j⟩;refine pK (seqEpoch_at f rfl (pK (listUpdate_at f rfl ?_ (hsz2:=?_))))
 .rw[j];simp only[bne_self_eq_false,Bool.false_eq_true,ZBE];exact qm (h st d)
 .exact p6 (Bi (VN ((Array.size_map ..).trans d.2)) i)
theorem ZDw(b:StrsAre vs ns){st:SortSt}(c:SA vs st):∃ms,StrsAre ((arrOf st).map (·.2)).toList ms/\(∀x∈ms,x∈ns)/\ms.length=ns.length:=by
 have mv:∀v∈((arrOf st).map (·.2)).toList,v∈vs:=λv a=>by
  rw[Array.toList_map]at a;obtain⟨q,d,rfl⟩:=List.mem_map.mp a;have z:=c.1 q d;rw[pairsOf_toList]at z;exact(VI z).2
 refine⟨_,strsAre_map _ λv a=>b.all v (mv v a),λx hx=>?_,?_⟩
 .obtain⟨v,a,rfl⟩:=List.mem_map.mp hx;rw[<- b.strs];exact List.mem_map.mpr ⟨v,mv v a,rfl⟩
 .rw[AK,Mj,Array.size_map,c.2,StrsAre.i7 b]
theorem ZDn{v:Value}{Pc:List Value->Shared->Prop}{Q:Value->Shared->Prop}
  (z:∀(A1:Around)(E1:Value->Shared->Prop)(Q1:List Value->Shared->Prop),A1.handled=A.handled->(∀vs s1,Pc vs s1->Q1 vs s1)->wpAny (model prog w) A1 (collect v) Q1 E1 s)
  (h:∀vs s1,Pc vs s1->vs.length<=sizeLine/\∃ss,StrsAre vs ss/\∀out ms e h',(∀b o,s1.heap.get? b=some o->h'.get? b=some o)->h'.get? s1.heap.objs.size=some (seqObj "list" out e)->StrsAre out.toList ms->(∀x∈ms,x∈ss)/\ms.length=ss.length->Q (.ref s1.heap.objs.size) { s1 with heap:=h' }):wpAny (model prog w) A (call (.builtin "sorted") [v]) Q E s:=by
 refine ZI6 kind_sorted plain_sorted entry_sorted (args_sorted1 _) ?_;unfold Builtin.«sorted»;refine pK (m:=checkCount "sorted" 1 1 _) (qm (pK (z _ _ _ rfl λvs s1 l=>?_)));obtain⟨u,ss,GG,k⟩:=h vs s1 l;have f:(s1.heap.push (seqObj "list" vs.toArray 0)).get? s1.heap.objs.size=some (seqObj "list" vs.toArray 0):=CK _ rfl;have go:∀{st:SortSt},SA vs st->Q (.ref s1.heap.objs.size) { s1 with heap:=sortedHeap (s1.heap.push (seqObj "list" vs.toArray 0)) s1.heap.objs.size vs ((arrOf st).map (·.2)) }:=λ{st}a=>by
  obtain⟨ms,C,B⟩:=ZDw GG a;obtain⟨e,y⟩:=sortedHeap_at (out:=(arrOf st).map (·.2)) f
  refine k _ ms e _ (λb o n=>?_) y C B;have t:=BE n;rw[sortedHeap_old (Br t) (Nat.lt_of_lt_of_eq (LS t) (by rw[HJ]))];exact Bf _ n
 refine pK (ZAo (pK (vH (ZAI slot_list_sort ⟨_,f,rfl⟩ entry_list_sort ?_ (args_list_sort _)))));have q:∀i g rest,vs=i::g::rest->keyKind' (i::g::rest).toArray=pure oneType':=λi g rest e=>keyKind_strs (by rw[<- e];exact GG)
 by_cases j:vs.length<64
 .exact list_sort_treeK (s:={ s1 with heap:=s1.heap.push (seqObj "list" vs.toArray 0) }) strKind_oneLt f GG.keysOf q j λAG a _=>⟨_,rfl,qm ⟨_,rfl,go ⟨λp l=>(Array.perm_iff_toList_perm.mp a).mem_iff.mp l,a.size_eq.trans (pairsOf_size _)⟩⟩⟩
 obtain⟨d,c,rs,rfl⟩:∃d c rs,vs=d::c::rs:=by
  cases vs with
  |nil=>simp at j
  |cons d r=>cases r with
   |nil=>simp at j
   |cons c rs=>exact⟨d,c,rs,rfl⟩
 exact ZG0 (s:={ s1 with heap:=s1.heap.push (seqObj "list" (d::c::rs).toArray 0) }) strKind_oneLt f GG.keysOf (q _ _ _ rfl) u λAG a=>⟨_,rfl,qm ⟨_,rfl,go a⟩⟩
variable{X:Cx}
theorem rO{ZA:ZJb}{Z:St}{H:Hp}{s1:Shared}{Q:VK}(I:Inv X ZA Z H s)(f:s1.gens=s.gens)(ho:s1.os=s.os)(d:∀b o,s.heap.get? b=some o->s1.heap.get? b=some o)(c:s.heap.objs.size<=s1.heap.objs.size)
  {out:Array Value}{h':Heap}(kp:∀b o,s1.heap.get? b=some o->h'.get? b=some o) (g:h'.get? s1.heap.objs.size=some (seqObj "list" out e)) (j:StrsAre out.toList ms) (i:ms.length<=sizeLine)
  (q:∀l,H l=none->Q (.ref l) (upd H l (.lst (ms.map V.str)))):EP X ZA Z Q (.ref s1.heap.objs.size) { s1 with heap:=h' }:=by
 obtain⟨h1,g1,k,h,m⟩:=s1;simp only at f ho d c kp g;subst f;subst ho;exact⟨.ref _,_,(I.drew k).laid (a:=h1.objs.size) (h':=h') (t':=h) (o:=.lst (ms.map V.str)) (λb o q=>kp b o (d b o q)) c ⟨by rw[AK];exact i,out.toList,e,WH j,by simpa[seqObj]using g⟩,rfl,q _ (I.AH.fresh c)⟩
def iI:List V->Hp->VK->Prop:=λxs H Q=>∃(p:Addr)(A6:List (Key×V))(ns:List Str),xs=[.ref p]/\Rd H p (.dK A6)/\A6.map (·.1)=ns.map Sum.inr/\ns.length<=1000/\∀(l:Addr)(ms:List Str),H l=none->(∀x∈ms,x∈ns)/\ms.length=ns.length->Q (.ref l) (upd H l (.lst (ms.map V.str)))
theorem zQ(w:X.calm=true):DQ X (.builtin "sorted") iI:=by
 intro ZA s Z H xs us Q I r h;obtain⟨p,A6,ns,rfl,y,t,hn,q⟩:=h;obtain⟨u,rfl,m⟩:=vals1 r;cases m;obtain⟨n,Iy,IU,rel,x⟩:=Jl I.AH y;have hh:X.A.handled=none:=I.ok.hd w;have B:IU.map (·.1)=ns.map Sum.inr:=rel.keys.symm.trans t
 have a:ns.length<=sizeLine:=Bi hn (by decide+kernel);refine ZDn (Pc:=λvs s1=>(∀b o,s.heap.get? b=some o->s1.heap.get? b=some o)/\s.heap.objs.size<=s1.heap.objs.size/\s1.gens=s.gens/\s1.os=s.os/\StrsAre vs ns) (λA1 E1 Q1 z k=>xG (z.trans hh) Iy x rfl (by rw[<- rel.length];exact n) λs' vs i g f d c C=>k vs s' ⟨i,g,f,d,m9 B c C⟩) ?_;rintro vs s1⟨i,g,f,d,c⟩;exact⟨by rw[StrsAre.i7 c];exact a,ns,c,λout ms e h' kp v DT j=>rO I f d i g kp v DT (by rw[j.2];exact a) λl a=>q l ms a j⟩
end
end L2
namespace Fz
open L2 Lw
section
variable[Xw]
variable{ss:List Slot}{te:TE}
theorem ZBu{k:List PV->Prop}(h:Wp ss te λp=>∃(xs:List PV)(ns:List Str),p=.B2 (ns.map Sum.inr) xs/\ns.length<=1000/\∀Bq:List Str,(∀x∈Bq,x∈ns)/\Bq.length=ns.length->k (Bq.map PV.str)):Wn ss (DH iI (An te BQ)) k:=⟨λE Z F H Q S q=>
 h.go E Z F H _ S λv p F1 H1 b c AU=>by
  obtain⟨xs,ns,e,f,kk⟩:=AU;subst e;obtain⟨a,vs,rfl,j,i,m⟩:=c.inv;refine⟨a,_,ns,rfl,.inl (b.st.fh _ _ j),UK i,f,λl Bq CM g=>?_⟩;have d:=b.st.make CM (.lst (Bq.map V.str));exact q l _ _ F1 _ (b.trans d) (b.st.CC CM) (b.none CM) AX (OJ Bq) (kk Bq g)⟩
theorem vi{i:Nat}{lt:Bool}{t:OV}{c d:TT}{u v:TS}{nx:List Slot->Prop}{R:Ad}(h:QQ ss i lt t c λb t'=>if b=true then Ws (ss.set i (.ow lt t')) (NJ d u v) nx R else Ws (ss.set i (.ow lt t')) v nx R):Ws ss (NJ (V7 c d) u v) nx R:=⟨λE D Z F H S hn e=>
 h.go E Z F H _ S λb t' F1 H1 a kk=>by
  have f:∀AI σ' F' H',nx AI->Sg E AI σ' F' H'->AD F1 F'->D.nx σ' H':=λAI σ' F' H' n S' s=>hn AI σ' F' H' n S' (a.ff.trans s);cases b with
  |true=>rw[tX rfl]at kk ⊢;exact kk.go E D Z F1 H1 a.st f e
  |false=>rw[qg (by decide)]at kk ⊢;show if false=true then _ else _;rw[qg (by decide)];exact kk.go E D Z F1 H1 a.st f e⟩
end
end Fz
namespace L2
section
variable{X:Cx}
def VX(K:ZJa)(t:TA):TE:=λZ H Q=>t Z H λvs H1=>∃a tp ys,vs=[.ref a]/\Ft K tp H1 a ys/\tp=false/\∀l,H1 l=none->Q (.ref l) (upd H1 l (.lst ys.reverse))
theorem gR{p1 p2 Xg JV:Pos}{e:Expr}{t:TA}(J:X.calm=true)(KW:Gl X "list")(J9:X.mg "list"=none)(Ve:Gl X "reversed")(Kz:X.mg "reversed"=none)(j:QA X [e] t)
  (G:starEach [e] X.env=[(false,eval e X.env)]:=by rfl) (Ni:starEach [.Call (.Name "reversed" p2) [e] [] JV] X.env=[(false,eval (.Call (.Name "reversed" p2) [e] [] JV) X.env)]:=by rfl) :
  QE X (.Call (.Name "list" p1) [.Call (.Name "reversed" p2) [e] [] JV] [] Xg) (VX X.K t):=⟨by
 have j:=j.h;intro ZA s Z H Q I h;refine x3 (KY I KW J9 (show bootBuiltins "list"=some (.type "list") by decide+kernel) ?_ (by decide) (by decide));refine RI ?_ Ni rfl;rw[Ni];show wpAny _ _ (spliced ((false,eval (.Call (.Name "reversed" p2) [e] [] JV) X.env)::[])) _ _ s;refine oX ?_;refine x3 (KY I Ve Kz (show bootBuiltins "reversed"=some (.type "reversed") by decide+kernel) ?_ (by decide) (by decide));refine RI (j.k JV I h λus s1 vs H1 I1 B E=>?_) G rfl;obtain⟨a,tp,ys,rfl,F,rfl,q⟩:=E;obtain⟨u,rfl,y⟩:=vals1 B;cases y;have m:∀(A5:List Value)(D:Addr)(s2 s':Shared)(acc:Array Value)(c:Nat)(tk:Nat)(ob:Obj),Vals ys A5->ys.length<=sizeLine->D=s1.heap.objs.size->s2={ s1 with heap:=s1.heap.push ob,toks:=tk }->
   Moved [s2.heap.objs.size,D] (λa b=>b=a) { s2 with heap:=s2.heap.push { cls:=.type "list", data:=.seq #[] } } s'->s'.heap.get? s2.heap.objs.size=some { cls:=.type "list", dict:=none,data:=.seq acc c,slots:=#[] }->
   ItemsOf (λi v=>A5.toArray[A5.toArray.size - 1 - i]?=some v) acc A5.toArray.size->EP X ZA Z Q (.ref s2.heap.objs.size) s':=by
  intro A5 D s2 s' acc c tk ob r g O P d l BJ;subst O;subst P;obtain⟨us,z,rfl⟩:=yu r BJ;obtain⟨h',g',d',C,Qe⟩:=s';have M:g'=s1.gens:=d.gens;have N:d'=s1.drawn:=d.drawn;have L:Qe=s1.os:=d.os;subst M;subst N;subst L;have hsz:(s1.heap.push ob).objs.size=s1.heap.objs.size+1:=HJ ..;have kp:∀b o,s1.heap.get? b=some o->h'.get? b=some o:=λb o e=>by
   have f:=BE e;refine d.heap b o ?_ (Bf _ (Bf _ e));show b∉[(s1.heap.push ob).objs.size,s1.heap.objs.size];rw[hsz];simp only[GY,BA,ZAO,not_or];exact⟨Br (LS f),Br f⟩
  refine⟨.ref _,_,I1.laid (a:=(s1.heap.push ob).objs.size) (t':=C) kp (by rw[hsz];exact G6 _) (show CD X.prog X.w _ h' _ (.lst ys.reverse)from⟨by rw[cg];exact g,us,c,z,l⟩),rfl,q _ (I1.AH.fresh (by show _<=_;rw[hsz];exact G6 _))⟩
 have hh:X.A.handled=none:=I1.ok.hd J;obtain⟨A5,r,pl,g⟩:=I1.list F;have p:=r.length;refine call_reversed_list pl.isList ?_;refine oY ?_;obtain⟨o,n,ho,_⟩:=id pl;have x:=BE ho;have R:a≠s1.heap.objs.size:=Br x;have S:0<=A5.toArray.size/\Heap.IsRevIter (s1.heap.push (revObj a ((A5.toArray.size:Int) - 1))) s1.heap.objs.size a ((A5.toArray.size:Int) - 1 - ((0:Nat):Int))/\Heap.IsList (s1.heap.push (revObj a ((A5.toArray.size:Int) - 1))) a A5.toArray:=
  ⟨Ct _,⟨_,CK _ rfl,rfl,by simp[revObj]⟩,pl.isList.push _⟩
 refine qp (I:=s1.heap.objs.size) (s:={ s1 with heap:=s1.heap.push (revObj a ((A5.toArray.size:Int) - 1)) }) (Walks.listRev (prog:=X.prog) (w:=X.w) (A:=X.A.in1.in1) hh s1.heap.objs.size a R A5.toArray).toS (λi s st=>st.2.1.typeIs) S ?_ (by simp) ?_ (by simp;omega)
 .intro b f;show b<(s1.heap.push _).objs.size;rw[HJ];rcases List.mem_cons.mp f with h|h
  .rw[h];exact cu _
  .have:b=a:=by simpa using h
   rw[this];exact LS x
 .intro s' acc c d l BJ;exact m A5 s1.heap.objs.size { s1 with heap:=s1.heap.push (revObj a ((A5.toArray.size:Int) - 1)) } s' acc c s1.toks (revObj a ((A5.toArray.size:Int) - 1)) r g rfl rfl d l BJ⟩
variable{ZA:ZJb}{Z:St}{H:Hp}{s:Shared}
end
end L2
namespace Fz
open L2 Lw
section
variable[Xw]
variable{ss:List Slot}{te:TE}{K:ZJa}{ta tb tc:TE}{k:PV->Prop}
theorem pO{k:List PV->Prop}(h:Wz ss te λtp xs=>tp=false/\k (ME xs)):Wi ss (cD K (An te BQ)) k:=⟨λE Z F H R S q=>
 h.go E Z F H _ S λv tp xs F1 H1 b f AU=>by
  obtain⟨o,kk⟩:=AU;subst o;obtain⟨l,vs,n,a,r⟩:∃l vs,v=.ref l/\(∀(ss:List Slot)(Z:L2.St)(F H:Hp),AD F1 F->Sg E ss Z F H->H l=some (.lst vs))/\AY F1 vs xs:=by
   obtain⟨l,vs,e,h1,r⟩:=f;refine⟨l,vs,e,λss Z F H s S=>?_,r⟩;rcases h1 with h1|⟨hA,h1⟩
   .exact S.fh _ _ (s _ _ h1)
   .exact S.keep _ _ hA h1
  subst n;refine⟨l,vs,rfl,Ab.of (a ss Z F1 H1 (AD.refl _) b.st),q _ (ME xs) F1 H1 b ⟨λss Z F H i s S hi=>?_,λss Z F H s S=>?_,λss Z F H i x H' s S hi y=>?_⟩ kk⟩
  .rw[UM]at hi;exact⟨Ab.of (a ss Z F H s S),by rw[r.length];exact hi⟩
  .refine⟨Ab.of (a ss Z F H s S),?_⟩;rw[UM,r.length];exact B4 _
  .obtain⟨p,y,g,ex,j,t⟩:=y;subst ex;subst t;obtain⟨z,d,c⟩:=r.get' g;have m:=S.alloc j (.tup [.int i,y]);exact⟨_,_,fM d,m,.tup AX (.cons (.int _) (.one (c.mono (s.trans m.ff))))⟩⟩
end
end Fz
namespace Fz
open L2 Lw
variable{i r:Nat}{α:Type}{ns xs:List Str}{es:List LE}{s s':Ls}{e:LE}{w:PV}
theorem XM{Q:α->Prop}{a b:α}(h1:Q a)(h2:Q b):∀x∈[a,b],Q x:=λx hx=>by
 rcases List.mem_cons.mp hx with rfl|hx
 .exact h1
 .rw[List.mem_singleton.mp hx];exact h2
theorem UY{Q:α->Prop}{a b c:α}(h1:Q a)(h2:Q b)(d:Q c):∀x∈[a,b,c],Q x:=λx hx=>by
 rcases List.mem_cons.mp hx with rfl|hx
 .exact h1
 .exact XM h2 d x hx
theorem UW(h:∀x∈xs,Bz x)(b:r<xs.length):∃t,L2.Bt (xs.map PV.str) r=some (.str t)/\Bz t:=by
 obtain⟨t,a,e⟩:=TX (ns:=xs) b;exact⟨t,e,h t a⟩
theorem P4{xs:List Int}(h:∀x∈xs,Ep x)(a:r<xs.length):∃t,L2.Bt (xs.map PV.int) r=some (.int t)/\Ep t:=
 ⟨xs[r],L2.Kq (by rw[Bb,BK a];rfl),h _ (Mn a)⟩
theorem b6(h:(xs.all λx=>decide (x.length<=100) && x.cps.toList.all λc=>decide (c<16 ^ 8))=true):∀x∈xs,Bz x:=λx hx=>by
 have q:=List.all_eq_true.mp h x hx;rw[Dm]at q;exact SX (sE q.1) λc a=>sE (List.all_eq_true.mp q.2 c a)
theorem IV{i:Int}(h:-1<=i)(h2:i<=1000):Ep i:=by
 have:=ZC4 (r:=i+1) (by omega)
 by_cases c:i+1<1000
 .have:=this c
  rwa [show i+1 - 1=i by omega]at this
 .obtain⟨n,rfl⟩:=DB (show 0<=i by omega);exact KO (by omega)
theorem ZHp:Ep (10 ^ 59):=WI (by decide+kernel)
inductive aq (l:List Slot) (R:Ad):Prop
 |mk (ns:List Str) (m:Nat) (_:l=[.AS,.is (.lst (ns.map .str)),.is (.int m)]) (_:Gk 40 ns) (_:m<=100) (_:R=.is λp=>∃d:Ag,p=aP d/\d.say):aq l R
inductive cC (l:List Slot) (R:Ad):Prop
 |mk (s:Ls) (m:Nat) (_:l=[.AS,.is (Du s),.is (.int m)]) (_:s.Ok) (_:s.sn.length<=200) (_:m<=100) (_:R=.is λp=>∃e:LE,p=e.P/\e.say):cC l R
inductive Vf (l:List Slot) (R:Ad):Prop
 |mk (s:Ls) (_:l=[.AS,.is (Du s)]) (_:s.Ok) (_:s.sn.length<=200) (_:R=.is λp=>∃e:LE,p=e.P/\e.say):Vf l R
theorem kG(h:Hi ns es i)(fs:List LE):Hi ns (es++fs) i:=by
 obtain⟨s,e,a,b,c⟩:=h;have hi:=(List.getElem?_eq_some_iff.mp b).1;exact⟨s,e,by rw[List.take_append_of_le_length (Oj hi)];exact a,by rw[IA hi];exact b,c⟩
structure Ht (ns:List Str) (es:List LE) (s:Ls) (w:PV):Prop where
 ok:s.Ok
 say:∀e∈es,e.say
 len:s.sn.length<=es.length
 fst:(w=.A9/\runs (D4 ns) es=some s)∨∃i:Nat,w=.int i/\Hi ns es i
theorem Ht.nil(h:Gk 40 ns):Ht ns [] (D4 ns) .A9:=⟨ZZ h,λe h=>absurd h BA,Ct _,.inl ⟨rfl,rfl⟩⟩
theorem sA(g:Fe s e=some s'):s'.sn.length<=s.sn.length+1:=by
 have:=dA (s:=s) (es:=[e]) (s':=s') ((QR (es:=[]) (s:=s) (s':=s) (e:=e) rfl).trans g)
 simpa using this
theorem Ht.Fe(h:Ht ns es s w)(g:Fe s e=some s')(a:e.say):Ht ns (es++[e]) s' w:=by
 refine⟨h.ok.step g,λc MB=>?_,?_,?_⟩
 .rcases List.mem_append.mp MB with z|z
  .exact h.say c z
  .rw[List.mem_singleton.mp z];exact a
 .have:=sA g;have:=h.len;rw[CP,oy];omega
 .rcases h.fst with⟨rfl,b⟩|⟨i,rfl,hw⟩
  .exact .inl ⟨rfl,by rw[QR b,g]⟩
  .exact .inr ⟨i,rfl,kG hw _⟩
theorem Ht.bad(h:Ht ns es s w)(g:Fz.Fe s e=none)(a:e.say):Ht ns (es++[e]) s (match w with | .A9=>.int es.length|w=>w):=by
 refine⟨h.ok,λc MB=>?_,?_,?_⟩
 .rcases List.mem_append.mp MB with z|z
  .exact h.say c z
  .rw[List.mem_singleton.mp z];exact a
 .have:=h.len;rw[CP,oy];omega
 .rcases h.fst with⟨rfl,b⟩|⟨i,rfl,hw⟩
  .refine .inr ⟨es.length,rfl,s,e,?_,?_,g⟩
   .rw[List.take_left];exact b
   .rw[K9 (B4 _),pA];rfl
  .exact .inr ⟨i,rfl,kG hw _⟩
def lwP(ns:List Str)(es:List LE)(w:PV)(s:Ls):PV:=.tup [.lst (ns.map .str),.lst (es.map LE.P),w,Du s]
inductive Y7 (l:List Slot) (R:Ad):Prop
 |mk (i:Int) (_:l=[.is (.int i)]) (_:R=.is λp=>p=.bl true):Y7 l R
end Fz
namespace L2
section
variable{X:Cx}
variable{ZA:ZJb}{elt iter:Expr}{ifs es:List Expr}{zs:List Str}{tp pos:Pos}{tk:Nat}{scope:Scope}{As:List Str}{js:List Nat}{tt:TT}{te:TE}
variable{Z:St}{H2:Hp}{s2:Shared}{x:Str}{px:Pos}{J:It}{fp:List Addr}{it:Addr}
 {tn:Nat->Heap->Prop}
end
end L2
namespace Fz
open L2 Lw
section
variable[Xw]
variable{ss:List Slot}{K:ZJa}{ta tb tc te ti ty:TE}{nx:List Slot->Prop}{R:Ad}{xs ps:List PV}{i j:Nat}{t:OV}{lt:Bool}{a b:Addr}{us:List OV}{nk:NK}
theorem ZER{k:List PV->Prop}(h:Wq ss te λtp xs=>tp=false/\k xs.reverse):Wn ss (VX K (An te BQ)) k:=⟨λE Z F H Q S q=>
 h.go E Z F H _ S λv tp xs F1 H1 b sv AU=>by
  obtain⟨f,kk⟩:=AU;obtain⟨l,vs,rfl,e,r⟩:=sv.seq b.st;refine⟨l,tp,vs,rfl,IM.sq e,f,λa c=>?_⟩;have d:=b.st.make c (.lst vs.reverse);exact q a _ _ F1 _ (b.trans d) (b.st.CC c) (b.none c) AX r.reverse kk⟩
end
inductive kr (K:ZJa) (sc:List Int) (rt m:Nat) (ns:List Str) (a:Addr) (i:Nat) (AI:List Slot):Prop
 |mk (s8:Slot) (es:List LE) (s:Ls) (w:PV) (t:OV) (s2 s9 IY:Slot) (_:AI=[.raw (E8 K sc),.is (.int rt),s2,.is (.int m),.is (.lst (ns.map .str)),.ow false t,.own (es.map LE.P),.is w,s8,s9,IY]) (_:DV s a t) (_:Ht ns es s w) (_:es.length<=3 * i):kr K sc rt m ns a i AI
inductive oA (K:ZJa) (sc:List Int) (rt m:Nat) (ns:List Str) (a:Addr) (i j:Nat) (AI:List Slot):Prop
 |mk (es:List LE) (s:Ls) (w:PV) (t:OV) (s9 IY:Slot) (_:AI=[.raw (E8 K sc),.is (.int rt),.AS,.is (.int m),.is (.lst (ns.map .str)),.ow false t,.own (es.map LE.P),.is w,.is (.int (1+(i:Int))),s9,IY]) (_:DV s a t) (_:Ht ns es s w) (_:es.length<=3 * i+j):oA K sc rt m ns a i j AI
inductive me (x:Slot) (AI:List Slot):Prop
 |mk (s1 s2 s3 s4 s5 s6 s7 s8 s9:Slot) (_:AI=[x,s1,s2,s3,s4,s5,s6,s7,s8,s9]):me x AI
inductive XY (K:ZJa) (l:List Slot) (R:Ad):Prop
 |mk (sc:List Int) (r:Nat) (_:l=[.raw (E8 K sc),.is (.int r)]) (_:sc.length<=63) (_:r<=60) (_:R=.is λp=>∃(ns:List Str)(es:List LE)(w:PV)(s:Ls),p=lwP ns es w s/\Gk 40 ns/\es.length<=110/\Ht ns es s w):XY K l R
def Rv(N:Addr)(ns:List Str)(es:List LE)(x:Ex):Prop:=∃i:Nat,x=U9 N i/\Hi ns es i
def jI(N:Addr):EG:=λl R D=>∃(tp:Bool)(ns:List Str)(es:List LE),l=[.is (OO tp (ns.map .str)),.is (.lst (es.map LE.P))]/\Gk 40 ns/\(∀e∈es,e.say)/\es.length<=200/\(R=.is λ_=>∃s,runs (D4 ns) es=some s)/\D=Rv N ns es
def rK(N G:Addr)(ns:List Str)(es:List LE)(y:Str)(x:Ex):Prop:=Rv N ns es x∨∃s,runs (D4 ns) es=some s/\y∉s.sn/\x=HS G y
def dI(N G:Addr):EG:=λl R D=>∃(tp:Bool)(ns:List Str)(es:List LE)(y:Str),l=[.is (OO tp (ns.map .str)),.is (.lst (es.map LE.P)),.is (.str y)]/\Gk 40 ns/\(∀e∈es,e.say)/\es.length<=200/\Bz y/\(R=.is λ_=>∃s,runs (D4 ns) es=some s/\y∈s.sn)/\D=rK N G ns es y
def ZGe(N G:Addr)(ns:List Str)(es:List LE)(o:Option Str)(p:PV):Prop:=(∃i:Nat,Hi ns es i/\p=Nh (U9 N i))∨∃s,runs (D4 ns) es=some s/\((o=none/\p=.A9)∨∃y,o=some y/\((y∈s.sn/\p=.A9)∨(y∉s.sn/\p=Nh (HS G y))))
inductive b4 (N G:Addr) (l:List Slot) (R:Ad):Prop
 |mk (ns:List Str) (es:List LE) (o:Option Str) (_:l=[.is (.lst (ns.map .str)),.is (.lst (es.map LE.P)),.is (Mt o)]) (_:Gk 40 ns) (_:(∀e∈es,e.say)) (_:es.length<=200) (_:(∀y,o=some y->Bz y)) (_:R=.is (ZGe N G ns es o)):b4 N G l R
inductive Ye (l:List Slot) (R:Ad):Prop
 |mk (ns:List Str) (lo hi:Nat) (_:l=[.sq false (ns.map .str),.is (.int lo),.is (.int hi)]) (_:ns.length<=1000) (_:lo<=hi) (_:hi<=ns.length) (_:R=.new λxs=>xs=(GN ns lo hi).map .str):Ye l R
def fH(c:GZ):EG:=λl R D=>∃(ns:List Str)(d:Ag),l=[.sq false (ns.map .str),.is (aP d)]/\d.say/\ns.length<=40/\(R=.new λxs=>∃d':Ak,d.Is ns d'/\xs=(d'.done ns).map .str)/\D=λe=>d.B3 c ns=some e
end Fz
set_option maxHeartbeats 8000000
namespace Pf
open L2 Lw
variable{w:World}{mg:ZJc}{A7 AJ AV B0 B7 B8 B9 BI C C4 CF FI FJ FK FL FN FV Fb Fh Fu HH S S6 TH TZ Tx Ux V4 f:Addr}{ZFE ZHa ZHh fd sh uD zj:FuncData}{α:Type}{Y1 Zn Zo:Tok}{l:PySem.W.OpenLaw}
abbrev St:=L2.St
noncomputable def top(i:Nat):Stmt:=PySem.Challenge.pw_stirround_k25_wrong_logs_refused.main.body.getD i (.Pass ⟨0,0,0,0⟩)
abbrev YS:Stmt:=top 52
abbrev Wv:Stmt:=top 53
abbrev Z7:Stmt:=top 54
abbrev Yq:Stmt:=top 55
abbrev X8:Stmt:=top 56
abbrev YZ:Stmt:=top 57
abbrev Wy:Stmt:=top 58
abbrev Ya:Stmt:=top 72
abbrev Q8:Stmt:=top 63
abbrev Zi:Stmt:=top 73
abbrev Zp:Stmt:=top 74
abbrev RW:Stmt:=top 59
abbrev SH:Stmt:=top 66
abbrev YJ:Stmt:=top 67
abbrev Z3:Stmt:=top 60
abbrev Um:Stmt:=top 62
abbrev Xo:Stmt:=top 68
abbrev ar:Stmt:=top 69
abbrev bL:Stmt:=top 61
abbrev XX:Stmt:=top 70
abbrev Sw:Stmt:=top 71
abbrev Yf:Stmt:=top 75
abbrev aA:Stmt:=Iz (top 49) 0
abbrev Yw:Stmt:=Iz (top 50) 0
abbrev WK:Stmt:=top 41
abbrev c5:Stmt:=top 38
abbrev T6:Stmt:=top 22
abbrev Yz:Stmt:=Iz (top 49) 2
abbrev WW:Stmt:=Iz (top 49) 7
abbrev Rx:Stmt:=top 43
abbrev aX:Stmt:=top 24
abbrev Xe:Stmt:=top 40
abbrev YQ:Stmt:=Iz (top 49) 3
abbrev WG:Stmt:=Iz (top 49) 4
abbrev Yc:Stmt:=top 34
abbrev aM:Stmt:=top 35
abbrev Zc:Stmt:=top 26
abbrev Zu:Stmt:=top 44
abbrev YK:Stmt:=top 42
abbrev YG:Stmt:=top 39
abbrev Xj:Stmt:=Iz (top 49) 6
abbrev Vg:Stmt:=top 28
abbrev W4:Stmt:=top 29
abbrev Z8:Stmt:=top 30
abbrev aJ:Stmt:=top 27
abbrev YO:Stmt:=top 33
abbrev VZ:Stmt:=top 31
abbrev T5:Stmt:=top 32
abbrev XR:Stmt:=top 25
abbrev cH:Stmt:=Iz (top 49) 5
abbrev ZO:Stmt:=Iz (top 49) 1
abbrev W6:Stmt:=top 48
abbrev Zv:Stmt:=top 46
abbrev Zx:Stmt:=Iz (top 49) 8
abbrev Y3:Stmt:=top 47
abbrev Zd:Stmt:=top 76
abbrev Xi:Stmt:=top 65
abbrev YD:Stmt:=top 64
abbrev NL:Stmt:=top 77
variable{P:Program}{K:ZJa}{ZB:Heap}
def dH{us:List α}(h:us.length=1):∃a,us=[a]:=by
 rcases us with _|⟨a,_|⟨b,us⟩⟩
 .cases h
 .exact⟨a,rfl⟩
 .cases h
def ln2{us:List α}(h:us.length=2):∃a b,us=[a,b]:=by
 rcases us with _|⟨a,us⟩
 .cases h
 .obtain⟨b,rfl⟩:=dH (Om h);exact⟨a,b,rfl⟩
def fT{us:List α}(h:us.length=3):∃a b c,us=[a,b,c]:=by
 rcases us with _|⟨a,us⟩
 .cases h
 .obtain⟨b,c,rfl⟩:=ln2 (Om h);exact⟨a,b,c,rfl⟩
def dD{us:List α}(h:us.length=4):∃a b c d,us=[a,b,c,d]:=by
 rcases us with _|⟨a,us⟩
 .cases h
 .obtain⟨b,c,d,rfl⟩:=fT (Om h);exact⟨a,b,c,d,rfl⟩
def eG{us:List α}(h:us.length=5):∃a b c d e,us=[a,b,c,d,e]:=by
 rcases us with _|⟨a,us⟩
 .cases h
 .obtain⟨b,c,d,e,rfl⟩:=dD (Om h);exact⟨a,b,c,d,e,rfl⟩
def ln6{us:List α}(h:us.length=6):∃a b c d e f,us=[a,b,c,d,e,f]:=by
 rcases us with _|⟨a,us⟩
 .cases h
 .obtain⟨b,c,d,e,f,rfl⟩:=eG (Om h);exact⟨a,b,c,d,e,f,rfl⟩
local macro_rules | `(tactic| walk_at "bD1")=>`(tactic| (intro _ _ _ _ _ _ us hl;obtain⟨_,e⟩:=dH hl;subst e;rfl))
local macro_rules | `(tactic| walk_at "bD2")=>`(tactic| (intro _ _ _ _ _ _ us hl;obtain⟨_,_,e⟩:=ln2 hl;subst e;rfl))
local macro_rules | `(tactic| walk_at "bD3")=>`(tactic| (intro _ _ _ _ _ _ us hl;obtain⟨_,_,_,e⟩:=fT hl;subst e;rfl))
local macro_rules | `(tactic| walk_at "bD4")=>`(tactic| (intro _ _ _ _ _ _ us hl;obtain⟨_,_,_,_,e⟩:=dD hl;subst e;rfl))
local macro_rules | `(tactic| walk_at "bD5")=>`(tactic| (intro _ _ _ _ _ _ us hl;obtain⟨_,_,_,_,_,e⟩:=eG hl;subst e;rfl))
local macro_rules | `(tactic| walk_at "bD6")=>`(tactic| (intro _ _ _ _ _ _ us hl;obtain⟨_,_,_,_,_,_,e⟩:=ln6 hl;subst e;rfl))
abbrev nS(K:ZJa)(x:Str)(v:Value):Prop:=PySem.W.nsIn K mainGlobals x=some (some v)
abbrev nN(K:ZJa)(x:Str):Prop:=PySem.W.nsIn K mainGlobals x=some none
abbrev Yv:Stmt:=OY (top 4)
local macro_rules | `(tactic| walk_at "z1")=>`(tactic| exact⟨rfl,rfl,rfl,by decide+kernel,rfl,by decide+kernel,by decide+kernel⟩)
local macro_rules | `(tactic| walk_at "z2")=>`(tactic| exact⟨rfl,by decide+kernel,by decide+kernel,rfl,rfl,by decide+kernel,by decide+kernel,by decide+kernel,by decide+kernel⟩)
def uA:Ao ["self","name"] ["self","name"] (AO Yv):=by walk_at "z1"
def vP(F:AE K "__init__" "Gone.__init__" Yv f fd)(b:Binds K fd ["self","name"] [])(c:J4 K C f "name")(a:MO K S)(IS:mg "StirError"=some (.ref S)):Es P w K mg ZB C "name" := by
 refine⟨f,fd, "name", c,F.ok (k:=0) uA N9 (λAi A outer s H vs Q E d h=>?_),b⟩;refine⟨_,?_,OL (N:=["self","name"]) rfl h⟩;exact Gq (Lb (NT (S:=S) a (by rfl) IS c.ex (Gb (pv 0) (Gb (PQ (pv 1) (by decide)) MN)))) (Gq (Nw c (pv 0) (pv 1) rfl) Ma)
abbrev Xq:Stmt:=OY (top 7)
def ZAF:Ao ["self","number"] ["self","number"] (AO Xq):=by walk_at "z1"
def ZGT(F:AE K "__init__" "NoLog.__init__" Xq f fd)(b:Binds K fd ["self","number"] [])(c:J4 K C f "number")(a:MO K S)(IS:mg "StirError"=some (.ref S)):Es P w K mg ZB C "number" := by
 refine⟨f,fd, "number", c,F.ok (k:=0) ZAF N9 (λAi A outer s H vs Q E d h=>?_),b⟩;refine⟨_,?_,OL (N:=["self","number"]) rfl h⟩;exact Gq (Lb (NT (S:=S) a (by rfl) IS c.ex (Gb (pv 0) (Gb (vS (pv 1) (by decide) (by decide)) MN)))) (Gq (Nw c (pv 0) (pv 1) rfl) Ma)
abbrev Zz:Stmt:=OY (top 2)
def ZGl:Ao ["self","name"] ["self","name"] (AO Zz):=by walk_at "z1"
def yi(F:AE K "__init__" "NoName.__init__" Zz f fd)(b:Binds K fd ["self","name"] [])(c:J4 K C f "name")(a:MO K S)(IS:mg "StirError"=some (.ref S)):Es P w K mg ZB C "name" := by
 refine⟨f,fd, "name", c,F.ok (k:=0) ZGl N9 (λAi A outer s H vs Q E d h=>?_),b⟩;refine⟨_,?_,OL (N:=["self","name"]) rfl h⟩;exact Gq (Lb (NT (S:=S) a (by rfl) IS c.ex (Gb (pv 0) (Gb (PQ (pv 1) (by decide)) MN)))) (Gq (Nw c (pv 0) (pv 1) rfl) Ma)
abbrev WJ:Stmt:=OY (top 5)
def qQ:Ao ["self","at"] ["self","at"] (AO WJ):=by walk_at "z1"
def ZFp(F:AE K "__init__" "NoPlace.__init__" WJ f fd)(b:Binds K fd ["self","at"] [])(c:J4 K C f "at")(a:MO K S)(IS:mg "StirError"=some (.ref S)):Es P w K mg ZB C "at" := by
 refine⟨f,fd, "at", c,F.ok (k:=0) qQ N9 (λAi A outer s H vs Q E d h=>?_),b⟩;refine⟨_,?_,OL (N:=["self","at"]) rfl h⟩;exact Gq (Lb (NT (S:=S) a (by rfl) IS c.ex (Gb (pv 0) (Gb (PQ (pv 1) (by decide)) MN)))) (Gq (Nw c (pv 0) (pv 1) rfl) Ma)
abbrev Wj:Stmt:=OY (top 6)
def ZEq:Ao ["self","rule"] ["self","rule"] (AO Wj):=by walk_at "z1"
def zK(F:AE K "__init__" "NoRule.__init__" Wj f fd)(b:Binds K fd ["self","rule"] [])(c:J4 K C f "rule")(a:MO K S)(IS:mg "StirError"=some (.ref S)):Es P w K mg ZB C "rule" := by
 refine⟨f,fd, "rule", c,F.ok (k:=0) ZEq N9 (λAi A outer s H vs Q E d h=>?_),b⟩;refine⟨_,?_,OL (N:=["self","rule"]) rfl h⟩;exact Gq (Lb (NT (S:=S) a (by rfl) IS c.ex (Gb (pv 0) (Gb (PQ (pv 1) (by decide)) MN)))) (Gq (Nw c (pv 0) (pv 1) rfl) Ma)
abbrev Vp:Stmt:=OY (top 3)
def ZGV:Ao ["self","name"] ["self","name"] (AO Vp):=by walk_at "z1"
def ZE0(F:AE K "__init__" "There.__init__" Vp f fd)(b:Binds K fd ["self","name"] [])(c:J4 K C f "name")(a:MO K S)(IS:mg "StirError"=some (.ref S)):Es P w K mg ZB C "name" := by
 refine⟨f,fd, "name", c,F.ok (k:=0) ZGV N9 (λAi A outer s H vs Q E d h=>?_),b⟩;refine⟨_,?_,OL (N:=["self","name"]) rfl h⟩;exact Gq (Lb (NT (S:=S) a (by rfl) IS c.ex (Gb (pv 0) (Gb (PQ (pv 1) (by decide)) MN)))) (Gq (Nw c (pv 0) (pv 1) rfl) Ma)
open Fz
def ZWM(t:String):Lean.MacroM (Lean.TSyntax `tactic):=do
 let g:Lean.TSyntax `tactic←`(tactic| fail)
 let k←`(tactic| case wk=>rfl)
 let n (s:String):=`(tactic| walk_at $(Lean.quote s):str)
 (t.splitOn " ").foldrM (λs r=>do
  let l:=((s.drop 1).toString.splitOn "/").map λx=>Lean.mkIdent (`Fz++x.toName)
  let h:Lean.Ident:=l.getLast!
  let c:=s.front
  let w:=(h.getId.getString!.toLower.replace "o" "e").replace "i" "e"
  let z←if c=='j' then `($h ?wj ?wk ?_)else if c=='k'||c=='K' then `($h ?wk ?_)else `($h ?_)
  let z←l.dropLast.foldrM (λ(f:Lean.Ident)(z:Lean.Term)=>`($f ($z))) z
  let p←if c=='e' then `(tactic| show ∃_,_=$h _/\_)else if c=='s' then `(tactic| show $h _ _ _)else `(tactic| refine' $z)
  let p←if c=='K'||c=='R'||c=='j' then pure p else `(tactic| with_reducible $p:tactic)
  let q←if c=='e' then `(tactic| refine⟨_,rfl,?_⟩)else if c=='s' then n w else if c=='n' then n "wn" else if c=='p' then n "wp" else if c=='k'||c=='K' then pure k else if c=='j' then `(tactic| ((case wj=>rfl);$k:tactic))else `(tactic| skip)
  `(tactic| first|($p:tactic;$q:tactic) | $r:tactic)) g
local macro_rules | `(tactic| walk_at "wp")=>ZWM "kPa kDL/SI/DK kDL/Pd/DK kDL/SI/SI/DK kDL/Pd/Pd/DK kDL/Pd/SI/DK kPa kA8 rBu rDJ rCg rJp rZEr rWk rGJ rP2 rbO rSn rgh ril rQh rZH6 kZF6 rD5 rgJ rFm rvY rbG rGh rdX rZEU rmm rnG kwb rVW Kug KZBt Kz9 KS8"
local macro_rules | `(tactic| walk_at "wn")=>ZWM "rT4 reZ rm7 rwu rgU KUH jZCO"
local macro_rules | `(tactic| walk_at "wq")=>do
 let z←ZWM "kYY kFg kRw kGd rqY"
 `(tactic| first | $z:tactic|(refine BP (D7 ?_);walk_at "wn")|(refine BP ?_;walk_at "wp"))
local macro_rules | `(tactic| walk_at "wz")=>`(tactic| first
 | ((with_reducible refine' lg ?wk ?_);(case wk=>rfl))
 | (with_reducible refine' jA ?_)
 | (refine Kf (D7 ?_);walk_at "wn")
 | (refine Kf ?_;walk_at "wp"))
local macro_rules | `(tactic| walk_at "wt")=>ZWM "rC9 rDv rFE rZDX rFx"
local macro_rules | `(tactic| walk_at "we")=>ZWM "rCH rCw rvO rZAk rZDh rwB rQU"
local macro_rules | `(tactic| walk_at "w")=>do
 let z←ZWM "rAp rGO rBg rAZ kZC3 kvR nVd pFO nOT pBw"
 let z1←ZWM "eOV.tp eOV.fz"
 let z2←ZWM "sWn sWq sWz sWt sWe sWo sWi"
 let z3←ZWM "ePV.int ePV.str ePV.bl"
 `(tactic| first | $z1:tactic|((with_reducible show ∃_ _,_=OV.nd NK.lst _ _/\_);refine⟨_,_,rfl,?_⟩)|((with_reducible show ∃_ _ _,_=PV.int _/\_/\_/\_);refine⟨_,_,_,rfl,rfl,rfl,?_⟩)|((with_reducible show Wp _ _ _);first|walk_at "wp" | (refine D7 ?_;walk_at "wn")) | $z2:tactic|((with_reducible show Ws _ _ _ _);$z:tactic) | $z3:tactic|((with_reducible show(_:Bool)=_/\_);refine⟨rfl,?_⟩)|((with_reducible show ∃_ _,_=PV.int _/\L2.Bt _ _=some _/\_);refine⟨_,_,rfl,rfl,?_⟩)|((with_reducible show ∃_,(_=PV.lst _/\_)∨(_=PV.tup _/\_));first|refine⟨_,.inl ⟨rfl,?_⟩⟩|refine⟨_,.inr ⟨rfl,?_⟩⟩)|((with_reducible show ∃_,_=List.map _ _/\_);first|refine⟨_,rfl,?_⟩|refine⟨[],rfl,?_⟩))
local macro_rules | `(tactic| walk_at "ww")=>`(tactic| repeat walk_at "w")
def P9:Ao ["script","k","cell","rest_here"] ["script","k"] (AO YS):=by walk_at "z1"
variable(Aj:mg "len"=none)(PH:AN P w K mg ZB "_law_letters" 1 ["number"] (gq))(BM:AN P w K mg ZB "_law_take" 1 ["pot","many"] (JU))(Fl:AN P w K mg ZB "_law_name" 2 ["pot","names"] (MR K))(Mg:mg "range"=none)(YE:AN P w K mg ZB "_law_names" 3 ["pot","many"] (lI))(DS:mg "tuple"=none)(aY:AN P w K mg ZB "_law_deed" 3 ["pot","row","most"] (B6 aq))(Nt:AN P w K mg ZB "_law_rule" 2 ["pot"] (B6 XF))(Xb:AN P w K mg ZB "_law_step" 1 ["row","loop"] (aW))(C2:mg "list"=none)(FQ:mg "sorted"=none)(Nq:mg "reversed"=none)(Nc:mg "all"=none)(Nl:AN P w K mg ZB "_law_is_name" 1 ["text"] (MS))(Ij:mg "int"=none)(aN:AN P w K mg ZB "_law_gap" 1 ["row","gap","deed"] (e9))(Ly:AN P w K mg ZB "_law_counted" 1 ["state","name","place"] (Bx ON))(XD:AN P w K mg ZB "_law_deed_right" 2 ["row","deed"] (B6 Vi))(WZ:AN P w K mg ZB "_law_done" 1 ["row","deed"] (WU))(cM:AN P w K mg ZB "_law_led" 2 ["row","loop","deed"] (Xc))(cI:AN P w K mg ZB "_law_begun" 1 ["row","rule"] (B6 dr))(WX:AN P w K mg ZB "_law_begins" 3 ["state","name","rule"] (Bx Ym))(YC:AN P w K mg ZB "_law_stirred" 4 ["state","deed"] (Bx Sa))(X3:AN P w K mg ZB "_law_bad_entry" 4 ["pot","state"] (B6 Vf))(XC:AN P w K mg ZB "_law_goes" 5 ["state","entry"] (Bx X9))(X7:AN P w K mg ZB "_law_good_entry" 4 ["pot","state","most"] (B6 cC))(Ld:AN P w K mg ZB "_law_pot" 1 ["script","k"] (TJ K))(bg:AN P w K mg ZB "_law_row" 4 ["pot","most"] (Zb))(WB:mg "max"=none)(aT:mg "min"=none)(BC:C3 K A7)(Cc:BV K A7 "running")(Dk:BV K A7 "standing")(EI:BV K A7 "tallies")(EA:C3 K AJ)(Jj:BV K AJ "joined")(NI:BV K AJ "stood")(Ja:BV K AJ "taken")(K7:BV K AJ "told")(O9:mg "RULES"=some (.ref HH))(N2:∀H,AW K H HH [.str "none",.str "ahead",.str "all"])(NH:mg "NoRule"=some (.ref C4))(XW:Es P w K mg ZB C4 "rule")(WM:C8 P w K mg ZB "check_rule" 3 ["rule"] (C6 (nU C4)))(YR:mg "LETTERS"=some (.str "abcdefghijklmnopqrstuvwxyz" Y1))(bV:mg "MOST_LETTERS"=some (.int 8 Zn))(Vb:QD P w K mg ZB AJ 1 ["self","stood"] (Bx (UO AJ)))(ae:C8 P w K mg ZB "begun" 4 ["row","rule"] (C6 (mT C4)))(Np:AN P w K mg ZB "is_name" 1 ["text"] (MS))(bz:mg "Tally"=some (.ref AJ))(K3:mg "Gone"=some (.ref AV))(OM:Es P w K mg ZB AV "name")(Nx:AN P w K mg ZB "coming_without" 1 ["coming","gone"] (B6 WC))(Gx:C8 P w K mg ZB "place_of" 3 ["row","name"] (C6 (Qa AV)))(GL:Dz P w K mg ZB A7 "coming" 2 ["self","loop"] (B6 (Lm A7)))(bb:AN P w K mg ZB "loop_telling" 4 ["row","loop","name"] (B6 gi))(RU:AN P w K mg ZB "gap_behind_put" 1 ["gap","at"] (B6 gj))(Rn:AN P w K mg ZB "gap_behind_take" 1 ["gap","place"] (B6 j3))(W2:AN P w K mg ZB "joins" 1 ["loop","at"] (B6 kF))(Yk:AN P w K mg ZB "coming_behind" 2 ["loop","deed"] (B6 fV))(aI:AN P w K mg ZB "gap_led" 4 ["row","gap","deed"] (B6 o6))(YF:AN P w K mg ZB "loop_led" 5 ["row","loop","deed"] (B6 mC))(Ww:mg "MOST_THINGS"=some (.int 40 Zo))(NY:mg "Full"=some (.ref BI))(bD:GK K BI none=true)(Mu:mg "NoName"=some (.ref B8))(cE:Es P w K mg ZB B8 "name")(HD:mg "NoPlace"=some (.ref B0))(JN:Es P w K mg ZB B0 "at")(OA:mg "There"=some (.ref B9))(bq:Es P w K mg ZB B9 "name")(WA:C8 P w K mg ZB "check_move" 4 ["row","name","at"] (C6 (lE ⟨B8,B9,AV,B0,BI⟩)))(W9:C8 P w K mg ZB "check_put" 3 ["row","name","at"] (C6 (fS ⟨B8,B9,AV,B0,BI⟩)))(W8:C8 P w K mg ZB "check_turn" 3 ["row","low","high"] (C6 (jh ⟨B8,B9,AV,B0,BI⟩)))(bx:C8 P w K mg ZB "check_deed" 5 ["row","deed"] (C6 (ig ⟨B8,B9,AV,B0,BI⟩)))(Xt:AN P w K mg ZB "row_turned" 1 ["row","low","high"] (B6 Ye))(UD:AN P w K mg ZB "row_with" 1 ["row","name","at"] (B6 kB))(Ts:AN P w K mg ZB "row_without" 1 ["row","name"] (B6 fe))(ag:Dz P w K mg ZB A7 "lead" 8 ["self","loop","deed"] (Bx (RZ A7 AJ)))(aG:C8 P w K mg ZB "done" 6 ["row","deed"] (C6 (fH ⟨B8,B9,AV,B0,BI⟩)))(FT:mg "StirError"=some (.ref CF))(ZG:Ri K CF ⟨B8,B9,AV,B0,BI⟩=true)(Yx:Dz P w K mg ZB A7 "follows_begin" 6 ["self","loop","rule"] (Bx (av A7 AJ)))(Yd:Dz P w K mg ZB A7 "follows_deed" 9 ["self","deed"] (Bx (Uc A7 AJ)))(Yb:Dz P w K mg ZB A7 "follows_over" 6 ["self","loop"] (Bx (X4 A7 AJ)))(bS:Dz P w K mg ZB A7 "follows_tell" 6 ["self","loop","name"] (Bx (Yu A7 AJ)))(bp:QD P w K mg ZB A7 2 ["self","row"] (Bx (V5 A7 AJ)))(cO:Dz P w K mg ZB A7 "follows" 10 ["self","entry"] (Bx (c6 A7 AJ)))(ax:mg "enumerate"=none)(Vh:mg "Course"=some (.ref A7))(OB:mg "NoLog"=some (.ref B7))(XG:Es P w K mg ZB B7 "number")(My:C8 P w K mg ZB "course_of" 11 ["row","log"] (C6 (Xp A7 AJ B7)))(Zs:Dz P w K mg ZB A7 "tally_of" 3 ["self","loop"] (B6 (WL A7 AJ)))(YL:C8 P w K mg ZB "state_behind" 12 ["row","log"] (C6 (jI B7)))(XZ:C8 P w K mg ZB "tallied" 12 ["row","log","loop"] (C6 (dI B7 AV)))(Y8:PySem.W.exmOne K (.ref AV) (.ref CF)=some true)(YH:PySem.W.exmOne K (.ref B7) (.ref CF)=some true)(VR:mg "ValueError"=none)(D9:mg "isinstance"=none)(bN:mg "Endless"=some (.ref FK))(Wf:mg "NoLoop"=some (.ref FJ))(Zq:mg "NoOrders"=some (.ref Fb))(Vk:mg "NoRow"=some (.ref FN))(Wc:mg "NoText"=some (.ref Fu))(Xs:mg "NoTicket"=some (.ref FI))(Yh:mg "NoWhere"=some (.ref FV))(bh:mg "Stale"=some (.ref Fh))(Zy:mg "TooMany"=some (.ref FL))(aO:mg "bool"=none)(PN:AN P w K mg ZB "_law_alone" 1 ["e","place"] (B6 (mr K [B8,B9,AV,B0,C4,B7,Fh,FV,Fu,BI,FL,FJ,FI,FK,Fb,FN] CF)))(ZQ:AN P w K mg ZB "_law_log" 6 ["script","rate"] (B6 (XY K)))(Pn:AN P w K mg ZB "_law_refusal" 13 ["first","log","loop"] (B6 (b4 B7 AV)))(ZN:AN P w K mg ZB "_law_whole" 1 ["found"] (B6 Y7))(O8:OZ K [B8,B9,AV,B0,C4,B7,Fh,FV,Fu,BI,FL,FJ,FI,FK,Fb,FN] CF AV 2=true)(Ql:OZ K [B8,B9,AV,B0,C4,B7,Fh,FV,Fu,BI,FL,FJ,FI,FK,Fb,FN] CF B7 5=true)(lx:M0 K B7=true)(TM:PySem.W.hasDictIn K B7=true)(UZ:PySem.W.findIn K (.ref B7) "number"=some none)(gx:M0 K AV=true)(RK:PySem.W.hasDictIn K AV=true)(U5:PySem.W.findIn K (.ref AV) "name"=some none)
def ZE9(F:AE K "_law_pot" "_law_pot" YS f fd)(m:mg "_law_pot"=some (.ref f)):
  AN P w K mg ZB "_law_pot" 1 ["script","k"] (TJ K):=by
 refine AN.mk F (F.binds (by walk_at "bD2")) m (F.E4 (k:=0) P9 (λvs H Q E h=>?_) (λAi A outer s H vs Q E r h=>?_))
 .obtain⟨a,ns,k,rfl,b,k0,k1,q⟩:=h;rfl
 obtain⟨a,ns,k,rfl,b,k0,k1,q⟩:=h;refine⟨_,(AA rfl (Au 2 P9.nd A4)
   (AA rfl (D0 (Ah (AR FX (qv 1) (Ar S9 Aj (A0 (qv 0) A3))) (AB rfl (Au 2 P9.nd (Az KR (AF ER (qv 0) (qv 1)) (Az M7 (Az M7 (Az M7 (Az MM A4 A4) (Az MM A4 A4)) (Az MM A4 A4)) (Az MM A4 A4))))) Al))
   (AA rfl (Au 3 P9.nd A4)
   (AA rfl (D0 (Ah (AR NP (qv 2) (Az MM A4 A4)) (AB rfl (Au 3 P9.nd (qv 2))) Al))
   (AB rfl (AQ (Er (A0 (qv 3) (A0 (Az KR (Az M7 (Az DO (Az DO (Az KR (qv 2) A4) (Az M7 A4 (qv 1))) A4) A4) A4) A3))))))))),?_⟩
 have i:(ns.map V.int).length=ns.length:=AK _;refine⟨λσ' H'=>∃c:Int,σ'=[some (.ref a),some (.int k),some (.int c),none]/\H=H'/\0<=c/\c<10 ^ 256,?_,?_⟩
 .refine⟨_,rfl,_,rfl,a,_,rfl,.inl b,_,_,rfl,rfl,_,rfl,?_⟩;refine Af (λc=>?_) (λc=>?_)
  .have o:k<(((ns.map V.int).length:Nat):Int):=sE c;rw[i]at o;have j:k.toNat<ns.length:=by omega
   have g:Bt (ns.map V.int) k=some (.int ns[k.toNat]):=Pk k0 (by rw[Bb,BK j] <;> rfl)
   refine⟨_,rfl,_,rfl,a,_,_,_,rfl,rfl,b,g,_,_,rfl,rfl,⟨by decide,by decide,by decide+kernel⟩,_,_,rfl,rfl,⟨by decide,by decide,by decide+kernel⟩,_,_,rfl,rfl,⟨by decide+kernel,by decide+kernel⟩,_,_,rfl,rfl,⟨by decide,by decide,by decide+kernel⟩,_,_,rfl,rfl,⟨by decide+kernel,by decide+kernel⟩,
    _,_,rfl,rfl,⟨by decide,by decide,by decide+kernel⟩,_,_,rfl,rfl,⟨by decide+kernel,by decide+kernel⟩,_,_,rfl,rfl,(by show(0:Int)<_;decide +kernel),?_⟩
   exact⟨_,rfl,rfl,Mm _ (by decide+kernel),Ml _ (by decide+kernel)⟩
  .exact⟨0,rfl,rfl,by decide,by decide+kernel⟩
 rintro σ' H'⟨c,rfl,rfl,c0,c1⟩;refine⟨λσ' H'=>∃d:Int,σ'=[some (.ref a),some (.int k),some (.int c),some (.int d)]/\H=H'/\0<=d/\d<10 ^ 256,?_,?_⟩
 .refine⟨_,rfl,_,_,rfl,rfl,⟨by decide,by decide,by decide+kernel⟩,_,_,rfl,rfl,_,rfl,?_⟩;refine Af (λ_=>?_) (λ_=>?_)
  .exact⟨_,rfl,c,rfl,rfl,c0,c1⟩
  .exact⟨0,rfl,rfl,by decide,by decide+kernel⟩
 rintro σ' H'⟨d,rfl,rfl,n,l⟩;have e0:0<=c % 2147483629:=Mm _ (by decide);have t:c % 2147483629<2147483629:=Ml _ (by decide);refine⟨_,rfl,_,rfl,_,_,rfl,rfl,(by show(0:Int)<2147483629;decide),_,rfl,_,_,rfl,rfl,⟨by decide+kernel,Nj (by omega) (by omega)⟩,_,_,rfl,rfl,_,_,rfl,rfl,_,_,rfl,rfl,⟨Nj (by omega) (by omega),by decide+kernel⟩,_,_,rfl,rfl,(by show(0:Int)<2147483647;decide),?_⟩;refine⟨(by show 2<=sizeLine;decide),λp e=>?_⟩;exact q p _ e (BX e _) ⟨d,_,AX,n,l,Mm _ (by decide),Ml _ (by decide)⟩
def lP:Ao ["pot","many","found"] ["pot","many"] (AO Wv):=by walk_at "z1"
def ZCN(F:AE K "_law_take" "_law_take" Wv f fd)(m:mg "_law_take"=some (.ref f)):
  AN P w K mg ZB "_law_take" 1 ["pot","many"] (JU):=by
 refine AN.mk F (F.binds (by walk_at "bD2")) m (F.E4 (k:=0) lP (λvs H Q E h=>?_) (λAi A outer s H vs Q E t h=>?_))
 .obtain⟨p,m,rfl,⟨a,b,d,a0,g,b0,n⟩,e,o,q⟩:=h;rfl
 obtain⟨p,m,rfl,⟨a,b,d,a0,g,b0,n⟩,e,o,q⟩:=h;refine⟨_,(AA rfl (Ah (AR ML (AF ER (qv 0) A4) A4) (AA rfl (Au 2 lP.nd (Az KR (AF ER (qv 0) A4) (qv 1)))
   (AA rfl (L4 (Az WR (AF ER (qv 0) A4) (qv 1)) (cF (qv 0) A4 set_list))
   (AB rfl (AQ (qv 2))))) Al)
   (AA rfl (L4 (Az KR (Az DO (Az M7 (AF ER (qv 0) A4) A4) A4) A4) (cF (qv 0) A4 set_list))
   (AB rfl (AQ (Az KR (Az WR (Az KR (Az M7 (AF ER (qv 0) A4) (AF ER (qv 0) A4)) A4) A4) (qv 1)))))),?_⟩
 refine⟨_,rfl,p,_,_,_,rfl,rfl,Ab.of d,rfl,_,_,rfl,rfl,_,rfl,?_⟩;refine Af (λc=>?_) (λc=>?_)
 .have u:0<a:=sE c;refine⟨_,rfl,p,_,_,_,rfl,rfl,Ab.of d,rfl,_,rfl,_,_,rfl,rfl,e,?_⟩;refine⟨_,rfl,p,_,_,_,rfl,rfl,Ab.of d,rfl,_,rfl,_,_,rfl,rfl,⟨e,Nj (by omega) (by omega)⟩,?_⟩;refine⟨_,rfl,p,_,_,_,rfl,rfl,d,rfl,?_⟩;refine⟨_,rfl,?_⟩;refine q _ _ (Mm _ (by omega)) (Ml _ e) ⟨⟨a / m,b,AX,Int.ediv_nonneg a0 (by omega),ZI7 (Int.ediv_le_self _ a0) g,b0,n⟩,Hw.upd⟩
 .refine⟨_,rfl,p,_,_,_,rfl,rfl,Ab.of d,rfl,_,_,rfl,rfl,⟨Nj (by omega) (by omega),by decide+kernel⟩,_,_,rfl,rfl,_,_,rfl,rfl,(by show(0:Int)<2147483647;decide),?_⟩;refine⟨_,rfl,p,_,_,_,rfl,rfl,d,rfl,?_⟩;have j:0<=(b * 69621+12345) % 2147483647:=Mm _ (by decide);have l:(b * 69621+12345) % 2147483647<2147483647:=Ml _ (by decide);generalize r:(b * 69621+12345) % 2147483647=b' at j l;have i:(upd H p (.lst [.int a,.int ((b * 69621+12345) % 2147483647)])) p=some (.lst [.int a,.int b']):=by rw[AX,r]
  refine⟨_,rfl,p,_,_,_,rfl,rfl,Ab.of i,rfl,_,rfl,p,_,_,_,rfl,rfl,Ab.of i,rfl,_,_,rfl,rfl,⟨Nj (by omega) (by omega),Nj (by omega) (by omega)⟩,_,_,rfl,rfl,(by show(0:Int)<2147483629;decide),?_⟩;refine⟨_,_,rfl,rfl,⟨(by show(0:Int)<64;decide),by decide+kernel⟩,_,rfl,_,_,rfl,rfl,e,?_⟩;exact q _ _ (Mm _ (by omega)) (Ml _ e) ⟨⟨a,b',i,a0,g,j,l⟩,Hw.upd⟩
def SY:Ao ["number","word"] ["number"] (AO Z7):=by walk_at "z1"
def za(F:AE K "_law_letters" "_law_letters" Z7 f fd)(m:mg "_law_letters"=some (.ref f)):
  AN P w K mg ZB "_law_letters" 1 ["number"] (gq):=by
 refine AN.mk F (F.binds (by walk_at "bD1")) m (F.E4 (k:=0) SY (λvs H Q E h=>?_) (λAi A outer s H vs Q E u h=>?_))
 .obtain⟨r,rfl,j,o,q⟩:=h;rfl
 obtain⟨r,rfl,j,o,q⟩:=h;refine⟨_,(AA rfl (Au 1 SY.nd AM)
   (AA rfl (D0 (gL LU (Dy (AR BR (qv 1) AM) (G2 (AR ML (qv 0) A4))).pt (AA rfl (Au 1 SY.nd (Az nK (qv 1) (AF ZHr AM (Az KR (qv 0) A4))))
   (AB rfl (Au 0 SY.nd (Az WR (qv 0) A4))))))
   (AB rfl (AQ (qv 1))))),?_⟩
 obtain⟨n,rfl⟩:=DB j;have hn:n<26 ^ 8:=by omega
 rw[VE]at q;refine⟨λσ' H'=>∃v,σ'=[some v,some (.str (DU (MA.lets n)))]/\H=H',?_,?_⟩
 .refine⟨λm σ' H'=>∃(k:Nat)(pre:List Nat),σ'=[some (.int k),some (.str (DU pre))]/\H=H'/\((pre=[]/\k=n/\m=n+2)∨(pre≠[]/\m=k+1/\(0<k->pre++MA.lets k=MA.lets n)/\(k=0->pre=MA.lets n))),⟨n+2,n,[],rfl,rfl,.inl ⟨rfl,rfl,rfl⟩⟩,?_⟩;rintro m σ' H'⟨k,pre,rfl,rfl,l⟩;refine⟨_,rfl,rfl,_,rfl,?_⟩;refine Af (λc=>J3 ?_) (λc=>⟨_,rfl,_,_,rfl,rfl,_,rfl,?_⟩)
  .have e:pre=[]:=fq.mp (sE c);obtain⟨_,b,p⟩|⟨h,_⟩:=l
   .have d:pre++MA.lets k=MA.lets n:=by rw[e,b];rfl
    have a:pre.length+1<=8:=by
     have h1:=vB List.length d;rw[CP]at h1;have h2:=MA.UE 7 n hn;have t:=MA.WS k;omega
    refine⟨λσ' H'=>σ'=[some (.int ((k:Int) / 26)),some (.str (DU pre++⟨#[97+((k:Int) % 26).toNat]⟩))]/\H=H',?_,?_⟩
    .rintro σ' H'⟨rfl,rfl⟩;have nx:=o8 d;have i:((k:Int) % 26).toNat=k % 26:=by omega
     have g:(k:Int) / 26=((k / 26:Nat):Int):=by omega
     exact⟨k / 26+1,by omega,k / 26,pre++[97+k % 26],by rw[i,g,mS],rfl,.inr ⟨by simp,rfl,nx.1,nx.2⟩⟩
    .refine⟨_,rfl,_,rfl,_,_,rfl,rfl,(by show(0:Int)<26;decide),_,_,_,rfl,rfl,(by decide+kernel),lu (Mm _ (by decide)) (Ml _ (by decide)),_,_,rfl,rfl,?_,?_⟩
     .rw[Rm];exact small (show pre.length+1<=_ by omega)
     .exact⟨_,rfl,_,_,rfl,rfl,⟨(by show(0:Int)<26;decide),by decide+kernel⟩,rfl,rfl⟩
   .exact absurd e h
  .have e:pre≠[]:=λh=>c (pX (fq.mpr h));obtain⟨h,_⟩|⟨_,p,h1,h2⟩:=l
   .exact absurd h e
   refine Af (λc2=>?_) (λc2=>?_)
   .have b:0<k:=by have:(0:Int)<k:=sE c2;omega
    have d:=h1 b;have a:pre.length+1<=8:=by
     have h1:=vB List.length d;rw[CP]at h1;have h2:=MA.UE 7 n hn;have t:=MA.WS k;omega
    refine⟨λσ' H'=>σ'=[some (.int ((k:Int) / 26)),some (.str (DU pre++⟨#[97+((k:Int) % 26).toNat]⟩))]/\H=H',?_,?_⟩
    .rintro σ' H'⟨rfl,rfl⟩;have nx:=o8 d;have i:((k:Int) % 26).toNat=k % 26:=by omega
     have g:(k:Int) / 26=((k / 26:Nat):Int):=by omega
     exact⟨k / 26+1,by omega,k / 26,pre++[97+k % 26],by rw[i,g,mS],rfl,.inr ⟨by simp,rfl,nx.1,nx.2⟩⟩
    .refine⟨_,rfl,_,rfl,_,_,rfl,rfl,(by show(0:Int)<26;decide),_,_,_,rfl,rfl,(by decide+kernel),lu (Mm _ (by decide)) (Ml _ (by decide)),_,_,rfl,rfl,?_,?_⟩
     .rw[Rm];exact small (show pre.length+1<=_ by omega)
     .exact⟨_,rfl,_,_,rfl,rfl,⟨(by show(0:Int)<26;decide),by decide+kernel⟩,rfl,rfl⟩
   .have b:k=0:=by
     have:¬ (0:Int)<k:=λz=>c2 (pX z);omega
    exact⟨_,by rw[h2 b],rfl⟩
 .rintro σ' H'⟨v,rfl,rfl⟩;exact⟨_,rfl,q _ (AD.refl _)⟩
def Ho:Ao ["pot","names","some","way","name","number"] ["pot","names"] (AO Yq):=by walk_at "z1"
def ZFQ(F:AE K "_law_name" "_law_name" Yq f fd)(m:mg "_law_name"=some (.ref f)):
  AN P w K mg ZB "_law_name" 2 ["pot","names"] (MR K):=by
 refine AN.mk F (F.binds (by walk_at "bD2")) m (F.E4 (k:=1) Ho (λvs H Q E h=>?_) (λAi A outer s H vs Q E g h=>?_))
 .obtain⟨p,q,ns,rfl,X,B,Bd,σ,hL,K1⟩:=h;rfl
 obtain⟨p,q,ns,rfl,X,B,Bd,σ,hL,K1⟩:=h;refine⟨_,(AA rfl (Au 2 Ho.nd (BG (A0 AM (A0 AM (A0 AM (A0 AM (A0 AM (A0 AM (A0 AM (A0 AM (A0 AM (A0 AM (A0 AM (A0 AM (A0 AM A3)))))))))))))))
   (AA rfl (Au 3 Ho.nd (Ac BM g (A0 (qv 0) (A0 A4 A3))))
   (AA rfl (Au 4 Ho.nd (AF AL (qv 2) (Ac BM g (A0 (qv 0) (A0 A4 A3)))))
   (AA rfl (D0 (Ah (AR BR (qv 3) A4) (AB rfl (Au 4 Ho.nd (Ac PH g (A0 (Ac BM g (A0 (qv 0) (A0 (Az Nu (Az MM A4 A4) A4) A3))) A3)))) Al))
   (AA rfl (D0 (Ah (Hr (AR BR (qv 3) A4) (HV (AR (QL g.K4) (qv 1) (Er A3)))).pt (AA rfl (Au 4 Ho.nd (AF ER (qv 1) (Ac BM g (A0 (qv 0) (A0 (Ar S9 Aj (A0 (qv 1) A3)) A3)))))
   (AB rfl (Au 4 Ho.nd (GA jy (Az nK (qv 4) (Ac PH g (A0 (Ac BM g (A0 (qv 0) (A0 A4 A3))) A3))) Hc (FG A4))))) Al))
   (AA rfl (D0 (Ah (Hr (AR BR (qv 3) A4) (HV (AR (QL g.K4) (qv 1) (Er A3)))).pt (AA rfl (Au 4 Ho.nd (AF ER (qv 1) (Ac BM g (A0 (qv 0) (A0 (Ar S9 Aj (A0 (qv 1) A3)) A3)))))
   (AB rfl (Au 4 Ho.nd (GA jy (qv 4) Hc (FG (Az DO A4 (Ac BM g (A0 (qv 0) (A0 (Ar Yt Aj (A0 (qv 4) A3)) A3))))))))) Al))
   (AA rfl (Au 5 Ho.nd A4)
   (AA rfl (D0 (gL LU (AR Nn (qv 4) (qv 1)) (AA rfl (Au 4 Ho.nd (Ac PH g (A0 (qv 5) A3)))
   (AB rfl (Au 5 Ho.nd (Az DO (qv 5) A4))))))
   (AB rfl (AQ (qv 4))))))))))),?_⟩
 have I:(ns.map V.str).length=ns.length:=AK _;have B:Ab K H q (ns.map V.str):=Ab.of B;refine⟨(by show 13<=sizeLine;decide +kernel),λo Iy=>?_⟩;have Fi:o≠p:=by
  obtain⟨_,_,e,_⟩:=X;exact(Dg e Iy).symm
 have g0:Bp p H (upd H o (.tup SN)):=Bp.of X (BX Iy _);refine⟨_,rfl,p,4,rfl,g0.AS,by decide,by decide,λd H1 w0 w1 s1=>?_⟩;refine⟨_,rfl,_,rfl,p,13,rfl,s1.AS,by decide,by decide,λi H2 i0 u s2=>?_⟩;have h2:H2 o=some (.tup SN):=s2.at' (s1.at' AX Fi) Fi;obtain⟨x,hx,nx⟩:=ZCb i0 u;refine⟨o,_,_,_,rfl,rfl,AW.of h2,hx,?_⟩;have R:=g0.trans (s1.trans s2);refine⟨λσ' H'=>∃x,σ'=[some (.ref p),some (.ref q),some (.ref o),some (.int d),some (.str x),none]/\Nm x/\Bp p H H',?_,?_⟩
 .refine⟨_,rfl,rfl,_,rfl,?_⟩;refine Af (λc=>?_) (λc=>?_)
  .refine⟨_,rfl,_,_,rfl,rfl,⟨by decide,by decide,by decide+kernel⟩,_,_,rfl,rfl,p,_,rfl,R.AS,ZBR,yp,λr H3 G N s3=>?_⟩;have L:r<26 ^ 8:=Int.lt_trans N ZGn;exact⟨r,rfl,G,L,λH4 s4=>⟨_,rfl,Yp (oG G L),(R.trans s3).trans (Bp.of s3.AS s4)⟩⟩
  .exact⟨x,rfl,nx,R⟩
 clear h2 hx nx s2 R i0 u;rintro σ' H3⟨y,rfl,t,l⟩;refine⟨λσ' H'=>∃x,σ'=[some (.ref p),some (.ref q),some (.ref o),some (.int d),some (.str x),none]/\Nm x/\Bp p H H',?_,?_⟩
 .refine⟨_,rfl,rfl,_,rfl,?_⟩;refine Af (λc=>?_) (λc=>CT ⟨y,rfl,t,l⟩);refine⟨_,rfl,(by show 0<=sizeLine;decide),λe Y=>?_⟩;have b:=l.trans (Bp.of l.AS (BX Y (.lst [])));have M:=b.Qt B Bd;refine⟨q,e,_,[],rfl,rfl,.inl ⟨M,Ab.of AX⟩,K2 ns,rfl,_,rfl,?_⟩;rw[Zg];refine Af (λc2=>?_) (λc2=>⟨y,rfl,t,b⟩);have JC:0<ns.length:=by
   cases ns with
   |nil=>simp at c2
   |cons a r=>simp
  refine⟨_,rfl,_,rfl,_,rfl,q,_,rfl,.inl M,p,_,rfl,b.AS,(by rw[I];omega),(by rw[I];omega),λi H5 i0 u T=>?_⟩;rw[I]at u;have D:=b.trans T;obtain⟨z,W,aF,_⟩:=aU i0 u;have C:=σ z aF;refine⟨q,_,_,_,rfl,rfl,D.Qt B Bd,W,?_⟩;refine⟨_,rfl,_,rfl,p,26,rfl,D.AS,by decide,by decide,λr H6 G N S=>?_⟩;have O:=D.trans S;have L:r<26 ^ 8:=Int.lt_trans N ZCi;refine⟨r,rfl,G,L,λH7 s7=>?_⟩;have O:=O.trans (Bp.of O.AS s7);have nl:=Yp (n:=r.toNat) (oG G L);have hlen:z.length+(DU (MA.lets r.toNat)).length<=16:=by have:=C.2.1;have:=nl.2.1;omega
  refine⟨_,_,rfl,rfl,small (by omega),?_⟩;refine⟨_,rfl,_,rfl,small (by rw[gk];omega),?_⟩;refine⟨_,rfl,kj (by decide) (by decide) (by rw[gk];have:=C.1;omega) (λc J=>?_),O⟩;rw[jj]at J;rcases List.mem_append.mp J with J|J
  .exact C.2.2 c J
  .exact nl.2.2 c J
 clear t l;rintro σ' H3⟨y,rfl,t,l⟩;refine⟨λσ' H'=>∃x,σ'=[some (.ref p),some (.ref q),some (.ref o),some (.int d),some (.str x),none]/\Nm x/\Bp p H H',?_,?_⟩
 .refine⟨_,rfl,rfl,_,rfl,?_⟩;refine Af (λc=>?_) (λc=>CT ⟨y,rfl,t,l⟩);refine⟨_,rfl,(by show 0<=sizeLine;decide),λe Y=>?_⟩;have b:=l.trans (Bp.of l.AS (BX Y (.lst [])));have M:=b.Qt B Bd;refine⟨q,e,_,[],rfl,rfl,.inl ⟨M,Ab.of AX⟩,K2 ns,rfl,_,rfl,?_⟩;rw[Zg];refine Af (λc2=>?_) (λc2=>⟨y,rfl,t,b⟩);have JC:0<ns.length:=by
   cases ns with
   |nil=>simp at c2
   |cons a r=>simp
  refine⟨_,rfl,_,rfl,_,rfl,q,_,rfl,.inl M,p,_,rfl,b.AS,(by rw[I];omega),(by rw[I];omega),λi H5 i0 u T=>?_⟩;rw[I]at u;have D:=b.trans T;obtain⟨z,W,aF,_⟩:=aU i0 u;have C:=σ z aF;refine⟨q,_,_,_,rfl,rfl,D.Qt B Bd,W,?_⟩;have U:=C.1;have nz2:=C.2.1;refine⟨_,rfl,_,rfl,_,rfl,_,rfl,small (by omega),p,_,rfl,D.AS,(by omega),(by omega),λr H6 G N S=>?_⟩;refine⟨_,_,rfl,rfl,_,rfl,_,rfl,small (by omega),?_⟩;exact⟨_,rfl,kj (by omega) (by omega) U C.2.2,D.trans S⟩
 clear t l;rintro σ' H3⟨y,rfl,t,l⟩;refine⟨λσ' H'=>∃x v,σ'=[some (.ref p),some (.ref q),some (.ref o),some (.int d),some (.str x),some v]/\Nm x/\x∉ns/\Bp p H H',?_,?_⟩
 .refine⟨λm σ' H'=>∃(k:Nat)(x:Str),σ'=[some (.ref p),some (.ref q),some (.ref o),some (.int d),some (.str x),some (.int k)]/\Bp p H H'/\Nm x/\m=ns.length+1 - k/\k<=ns.length+1/\(0<k->x=DU (MA.lets (k - 1)))/\(∀j,j+1<k->DU (MA.lets j)∈ns),
   ⟨ns.length+1,0,y,rfl,l,t,rfl,Ct _,λh=>absurd h (by decide),λj h=>absurd h (by omega)⟩,?_⟩
  rintro m σ' H'⟨k,x,rfl,b,nx,rfl,hk,hx,hj⟩;refine⟨_,rfl,_,rfl,q,_,rfl,.inl (b.Qt B Bd),rfl,K2 ns,_,rfl,?_⟩;rw[qg (by decide),SV];refine Af (λc=>?_) (λc=>⟨x,_,rfl,nx,λz=>c (pX z),b⟩);have R6:x∈ns:=sE c;have Ky:∀j,j<k->DU (MA.lets j)∈ns:=λj OQ=>by
   by_cases e:j+1<k
   .exact hj j e
   .have e2:j=k - 1:=by omega
    rw[e2,<- hx (by omega)];exact R6
  have rH:=ZGh Ky;refine⟨λσ' H'=>σ'=[some (.ref p),some (.ref q),some (.ref o),some (.int d),some (.str (DU (MA.lets k))),some (.int ((k:Int)+1))]/\Bp p H H',?_,?_⟩
  .rintro σ' H'⟨rfl,b⟩;exact⟨ns.length+1 - (k+1),by omega,k+1,DU (MA.lets k),rfl,b,Yp (Io (Bi rH hL) uV),rfl,by omega,λ_=>rfl,λj OQ=>Ky j (by omega)⟩
  .refine⟨_,rfl,k,rfl,by omega,?_,λH4 s4=>?_⟩
   .have:(k:Int)<=1000:=by omega
    exact ZI7 this ZC0
   .rw[VE];exact⟨_,rfl,_,_,rfl,rfl,rfl,b.trans (Bp.of b.AS s4)⟩
 rintro σ' H'⟨x,v,rfl,nx,hx,b⟩;exact⟨_,rfl,K1 x H' nx hx b⟩
def af:Ao ["pot","many","names","k"] ["pot","many"] (AO X8):=by walk_at "z1"
def qM(F:AE K "_law_names" "_law_names" X8 f fd)(m:mg "_law_names"=some (.ref f)):
  AN P w K mg ZB "_law_names" 3 ["pot","many"] (lI):=by
 refine AN.mk F (F.binds (by walk_at "bD2")) m (F.E4 (k:=2) af (λvs H Q E h=>?_) (λAi A outer s H vs Q E u h=>?_))
 .obtain⟨p,m,rfl,j,r,o,q⟩:=h;rfl
 obtain⟨p,m,rfl,j,r,o,q⟩:=h;refine⟨_,(AA rfl (Au 2 af.nd (Er A3))
   (AA rfl (D0 (KQ LU rfl (gf rfl Mg (A0 (qv 1) A3)) (D3 3 af.nd) (AB rfl (EZ (Jw Mq ZIb ZIe iP (qv 2) (A0 (Ac Fl u (A0 (qv 0) (A0 (qv 2) A3))) A3))))))
   (AB rfl (AQ (qv 2))))),?_⟩
 refine⟨(by show 0<=sizeLine;decide),λl c=>?_⟩;have d:=j.ne c;refine⟨λσ' H'=>∃(ns:List Str)(v:Option V),σ'=[some (.ref p),some (.int m),some (.ref l),v]/\Bp p H H'/\H' l=some (.lst (ns.map V.str))/\(ns.length:Int)=m/\(∀x∈ns,Nm x)/\ns.Nodup,?_,?_⟩
 .refine⟨_,rfl,m,rfl,by omega,by omega,uu (n:=m.toNat) (λi σ' H'=>∃(ns:List Str)(v:Option V),σ'=[some (.ref p),some (.int m),some (.ref l),v]/\Bp p H H'/\H' l=some (.lst (ns.map V.str))/\ns.length=i/\(∀x∈ns,Nm x)/\ns.Nodup) ?_ ?_ ?_⟩
  .exact⟨[],none,rfl,(Bp.of j (AD.refl H)).upd c d,AX,rfl,λx hx=>absurd hx (by simp),by simp⟩
  .rintro i σ' H' hi⟨ns,v,rfl,g,e,a,b,nd⟩;refine⟨_,rfl,.inl ⟨rfl,_,Ab.of e⟩,_,rfl,_,rfl,p,l,ns,rfl,g.AS,e,d,b,by omega,λx H2 nx hx s2=>?_⟩;refine⟨l,_,_,rfl,rfl,s2.at' e d,Io (m:=100) (by rw[AK];omega) (by decide+kernel),?_⟩;refine⟨ns++[x],_,rfl,(g.trans s2).upd c d,by rw[AX,Ec];rfl,by rw[CP];simp[a],λy t=>?_,Sj nd hx⟩;rcases List.mem_append.mp t with h|h
   .exact b y h
   .have:y=x:=by simpa using h
    rw[this];exact nx
  .rintro σ' H'⟨ns,v,rfl,g,e,a,b,nd⟩;exact⟨ns,v,rfl,g,e,by omega,b,nd⟩
 rintro σ' H'⟨ns,v,rfl,g,e,a,b,nd⟩;exact⟨_,rfl,q l H' ns c g e a b nd⟩
def Xz:Ao ["pot","most","many"] ["pot","most"] (AO YZ):=by walk_at "z1"
def xf(F:AE K "_law_row" "_law_row" YZ f fd)(m:mg "_law_row"=some (.ref f)):
  AN P w K mg ZB "_law_row" 4 ["pot","most"] (Zb):=by
 refine AN.mk F (F.binds (by walk_at "bD2")) m (F.E4 (k:=3) Xz (λvs H Q E h=>?_) (λAi A outer s H vs Q E b h=>?_))
 .obtain⟨p,m,rfl,n,d,v,q⟩:=h;rfl
 obtain⟨p,m,rfl,n,d,v,q⟩:=h;refine⟨_,(AA rfl (Au 2 Xz.nd (Ac BM b (A0 (qv 0) (A0 (Az DO (qv 1) A4) A3))))
   (AA rfl (D0 (Ah (AR BR (Ac BM b (A0 (qv 0) (A0 A4 A3))) A4) (AB rfl (Au 2 Xz.nd (AF AL (BG (A0 A4 (A0 A4 (A0 (qv 1) A3)))) (Ac BM b (A0 (qv 0) (A0 A4 A3)))))) Al))
   (AB rfl (AQ (Ac YE b (A0 (qv 0) (A0 (qv 2) A3))))))),?_⟩
 refine⟨_,rfl,_,rfl,_,_,rfl,rfl,p,_,rfl,n,by omega,by omega,λa H1 n0 n1 s1=>?_⟩;refine⟨λσ' H'=>∃k:Int,σ'=[some (.ref p),some (.int m),some (.int k)]/\0<=k/\k<=m/\Bp p H H',?_,?_⟩
 .refine⟨_,rfl,p,8,rfl,s1.AS,by decide,by decide,λr H2 I G s2=>?_⟩;have c:=s1.trans s2;refine⟨rfl,_,rfl,?_⟩;refine Af (λ_=>?_) (λ_=>⟨a,rfl,n0,by omega,c⟩);refine⟨_,rfl,(by show 3<=sizeLine;decide +kernel),λt i=>?_⟩;have D:=c.AS.ne i;have u:=c.trans (Bp.of c.AS (BX i (.tup [.int 0,.int 1,.int m])));refine⟨_,rfl,p,3,rfl,u.AS,by decide,by decide,λj H4 y x s4=>?_⟩;obtain⟨k,B,k0,k1⟩:=zk y x d;exact⟨t,_,_,_,rfl,rfl,AW.of (s4.at' AX D),B,k,rfl,k0,k1,u.trans s4⟩
 rintro σ' H'⟨k,rfl,k0,k1,g⟩;refine⟨_,rfl,_,rfl,p,k,rfl,g.AS,k0,by omega,λl H' ns z s e o C nd=>?_⟩;exact q l H' ns (g.none z) (g.trans s) e (by omega) C nd
def Rj:Ao ["pot","row","most","way","low","name"] ["pot","row","most"] (AO Wy):=by walk_at "z1"
def v8(F:AE K "_law_deed" "_law_deed" Wy f fd)(m:mg "_law_deed"=some (.ref f)):
  AN P w K mg ZB "_law_deed" 3 ["pot","row","most"] (B6 aq):=by
 refine Fz.hF (k:=2) F (by walk_at "bD3") m Rj (by rintro _ _⟨ns,m,rfl,_,_,rfl⟩;rfl) λa=>⟨_,(AA rfl (Au 3 Rj.nd (Ac BM a (A0 (qv 0) (A0 A4 A3))))
   (AA rfl (Ah (Dy (Hr (AR FX (qv 3) A4) (HV (AR FX (Ar Bo Aj (A0 (qv 1) A3)) (qv 2)))).pt (G2 (AR (U0 a.K4) (qv 1) (Er A3)))).pt (AA rfl (Ah (AR NP (Ar Bo Aj (A0 (qv 1) A3)) (qv 2)) (AB rfl (AQ (BG (A0 AM (A0 A4 (A0 A4 A3)))))) Al)
   (AB rfl (AQ (BG (A0 AM (A0 (Ac Fl a (A0 (qv 0) (A0 (qv 1) A3))) (A0 (Ac BM a (A0 (qv 0) (A0 (Az DO (Ar Bo Aj (A0 (qv 1) A3)) A4) A3))) A3))))))) Al)
   (AA rfl (Ah (AR BR (qv 3) A4) (AA rfl (Au 4 Rj.nd (Ac BM a (A0 (qv 0) (A0 (Az DO (Ar Bo Aj (A0 (qv 1) A3)) A4) A3))))
   (AB rfl (AQ (BG (A0 AM (A0 (qv 4) (A0 (Az DO (qv 4) (Ac BM a (A0 (qv 0) (A0 (Az DO (Az Nu (Ar Bo Aj (A0 (qv 1) A3)) (qv 4)) A4) A3)))) A3))))))) Al)
   (AA rfl (Au 5 Rj.nd (AF ER (qv 1) (Ac BM a (A0 (qv 0) (A0 (Ar Bo Aj (A0 (qv 1) A3)) A3)))))
   (AA rfl (Ah (AR BR (qv 3) A4) (AB rfl (AQ (BG (A0 AM (A0 (qv 5) (A0 (Ac BM a (A0 (qv 0) (A0 (Ar Bo Aj (A0 (qv 1) A3)) A3))) A3)))))) Al)
   (AB rfl (AQ (BG (A0 AM (A0 (qv 5) A3)))))))))),?_⟩
 rintro _ _⟨ns,m,rfl,e,s,rfl⟩;show Ws [_,_,_,.any,.any,.any] _ _ _;have p:=e.len
 walk_at "ww"
 refine⟨by decide,by decide,λi o n=>?_⟩;refine Ap (Bg (jz (k':=λb=>b=false->0<ns.length) ?_ ?_))
 .walk_at "ww"
  refine Af (λc=>?_) (λc=>?_)
  .walk_at "ww"
   rw[AK];refine Af (λc2 z=>by cases z) (λc2=>?_)
   walk_at "ww"
   exact⟨by decide,_,.inl ⟨rfl,rfl,[],rfl,_,rfl,λz=>List.length_pos_iff.mpr λq=>by rw[pX q]at z;cases z⟩⟩
  .refine CT ?_
   walk_at "ww"
   exact⟨by decide,_,.inl ⟨rfl,rfl,[],rfl,_,rfl,λz=>List.length_pos_iff.mpr λq=>by rw[pX q]at z;cases z⟩⟩
 rintro b l;cases b with
 |true=>
  refine Bj rfl ?_
  walk_at "ww"
  refine Af (λc=>?_) (λc=>AZ ?_)
  .exact Bw (Gh (CH (DJ (CH (Bu (CH (Bu (Cw ⟨by simp,.turn (0:Nat) (0:Nat),rfl,⟨KO (by decide),KO (by decide)⟩⟩))))))))
  refine Bw (Gh (CH (DJ (CH (Pa rfl (Rw rfl ⟨rfl,ns,rfl,e.nm,by omega,λx hx nx=>?_⟩))))))
  walk_at "ww"
  rw[AK];refine⟨by omega,by omega,λq d h=>?_⟩;obtain⟨q,rfl⟩:=DB d;exact Cw ⟨by simp,.put x q,rfl,⟨Hd hx,KO (by omega)⟩⟩
 |false=>
  have JC:=l rfl;refine B1 (by decide) (AZ ?_)
  walk_at "ww"
  refine Af (λc=>?_) (λc=>AZ ?_)
  .walk_at "ww"
   rw[AK];refine⟨by omega,by omega,λq d h=>?_⟩;obtain⟨q,rfl⟩:=DB d
   walk_at "ww"
   rw[AK];refine⟨by omega,by omega,λr g j=>?_⟩;obtain⟨r,rfl⟩:=DB g;exact⟨_,rfl,Cw ⟨by simp,.turn q ((q+r:Nat):Int),rfl,⟨KO (by omega),KO (by omega)⟩⟩⟩
  walk_at "ww"
  rw[AK];refine⟨by omega,by omega,λq d h=>?_⟩;obtain⟨q,rfl⟩:=DB d;obtain⟨x,hx,ex⟩:=TX (ns:=ns) (k:=q) (by omega);refine⟨_,_,rfl,ex,?_⟩
  walk_at "ww"
  refine Af (λc=>?_) (λc=>AZ ?_)
  .walk_at "ww"
   rw[AK];refine⟨by omega,by omega,λr g j=>?_⟩;obtain⟨r,rfl⟩:=DB g;exact Cw ⟨by simp,.move x r,rfl,⟨Hd (e.nm x hx),KO (by omega)⟩⟩
  .exact Bw (Gh (CH (DJ (CH (A8 rfl (Cw ⟨by simp,.take x,rfl,Hd (e.nm x hx)⟩))))))
def zN:Ao ["pot"] ["pot"] (AO Ya):=by walk_at "z1"
def ZBA(F:AE K "_law_rule" "_law_rule" Ya f fd)(m:mg "_law_rule"=some (.ref f)):
  AN P w K mg ZB "_law_rule" 2 ["pot"] (B6 XF):=by
 refine Fz.hF (k:=1) F (by walk_at "bD1") m zN (by rintro _ _⟨rfl,rfl⟩;rfl) λa=>⟨_,(AB rfl (AQ (AF AL (BG (A0 AM (A0 AM (A0 AM A3)))) (Ac BM a (A0 (qv 0) (A0 A4 A3)))))),?_⟩
 rintro _ _⟨rfl,rfl⟩;show Ws [_] _ _ _
 walk_at "ww"
 refine⟨by decide,_,.inr ⟨rfl,rfl,?_⟩⟩
 walk_at "ww"
 refine⟨by decide,by decide,λq b d=>?_⟩;obtain⟨q,rfl⟩:=DB b;obtain⟨r,a,c⟩:=eB (k:=q) (by omega);exact⟨_,_,rfl,c,r,rfl,a⟩
def Nd:Ao ["row","loop","rule","gap","coming","found","left"] ["row","loop"] (AO Q8):=by walk_at "z1"
noncomputable abbrev Sb(l):=Scope.mk .function l false false []
def ZAN:=Sb [(".0",.local),("name",.local),("coming",.free)]
def ZFK:Fj ["row","loop","rule","gap","coming","found","left"] (AO Q8) ZAN "name" ["coming"] [4]:=by walk_at "z2"
def vT:=Sb [(".0",.local),("name",.local),("found",.free)]
def rA:Fj ["row","loop","rule","gap","coming","found","left"] (AO Q8) vT "name" ["found"] [5]:=by walk_at "z2"
def ZAx(F:AE K "_law_step" "_law_step" Q8 f fd)(m:mg "_law_step"=some (.ref f)):
  AN P w K mg ZB "_law_step" 1 ["row","loop"] (aW):=by
 refine AN.mk F (F.binds (by walk_at "bD2")) m (F.E4 (k:=0) Nd (λvs H Q E h=>?_) (λAi A outer s H vs Q E hr h=>?_))
 .obtain⟨a,ns,t,r,g,ss,rfl,l,⟨c,T,I⟩,MP,hz,q⟩:=h;rfl
 obtain⟨a,ns,t,r,g,ss,rfl,l,⟨c,T,I⟩,MP,hz,q⟩:=h;refine⟨_,(AA rfl (L4 (qv 1) (OF rfl (Eg (D3 2 Nd.nd) (Eg (D3 3 Nd.nd) (Eg (D3 4 Nd.nd) OI)))))
   (AA rfl (Au 5 Nd.nd (KU rfl ZFK (IK (Az IG (GA M8 (qv 0) (FG (qv 3)) Hc) (GA M8 (qv 0) Hc (FG (qv 3))))) (λ_ _ _ _=>by exact(LZ (AR (show Bc _ (compareOp .In) (Lr K false)from Nn) (qv 1) (qv 0)))) (λ_ _ _ _=>by exact(qv 1))))
   (AA rfl (Ah (AR (U0 hr.K4) (qv 5) (Er A3)) (AB rfl (AQ (BG (A0 Iv (A0 (qv 1) A3))))) Al)
   (AA rfl (Au 6 Nd.nd (Cy Ki DS (A0 (KU rfl rA (IK (qv 4)) (λ_ _ _ _=>by exact(LZ (AR Js (qv 1) (AF (show J7 _ (Se K)from ER) (qv 0) A4)))) (λ_ _ _ _=>by exact(qv 1))) A3)))
   (AB rfl (AQ (BG (A0 (AF ER (qv 5) A4) (A0 (BG (A0 (qv 2) (A0 (Az DO (Jw Mq VO d6 UT (qv 0) (A0 (AF ER (qv 5) A4) A3)) A4) (A0 (qv 6) A3)))) A3))))))))),?_⟩
 have hl:=Lw.Ea ns;have C:=Lw.Ea ss;refine⟨_,rfl,t,_,rfl,AW.of T,rfl,_,_,rfl,_,_,rfl,_,_,rfl,rfl,?_⟩;refine⟨_,rfl,_,rfl,_,rfl,a,_,rfl,Ab.of l,λl1 QY=>?_⟩;have n1:=BX QY (.lst (Cq (ns.map V.str) (some (g:Int)) none));refine⟨_,rfl,_,rfl,_,rfl,a,_,rfl,Ab.of (n1 _ _ l),λl2 Fp=>?_⟩;have n2:=BX Fp (.lst (Cq (ns.map V.str) none (some (g:Int))));have σ:=n2 _ _ (AX (H:=H) (a:=l1) (o:=.lst (Cq (ns.map V.str) (some (g:Int)) none)));have Y:=AX (H:=upd H l1 (.lst (Cq (ns.map V.str) (some (g:Int)) none))) (a:=l2) (o:=.lst (Cq (ns.map V.str) none (some (g:Int))));have k2:=n1.trans n2;generalize upd (upd H l1 (.lst (Cq (ns.map V.str) (some (g:Int)) none))) l2 (.lst (Cq (ns.map V.str) none (some (g:Int))))=H2 at *;rw[gS]at σ;rw[mP]at Y;refine⟨l1,l2,_,_,rfl,rfl,σ,Y,small (by rw[HK,DM];omega),λB G=>?_⟩;have n3:=BX G (.lst ((ns.map V.str).drop g++(ns.map V.str).take g));have k3:=k2.trans n3;have hM:Ft K false (upd H2 B (.lst ((ns.map V.str).drop g++(ns.map V.str).take g))) B ((ns.drop g++ns.take g).map V.str):=Ab.of (by rw[AX,Ec,RD,Oi]);refine⟨false,B,_,rfl,hM,λacc BJ=>MF (λv=>HE v (ss.map V.str)) (λv=>v) hM BJ (small (by rw[Lw.Ea,CP,HK,DM];omega)) (λi v H' Q' j s4 h=>?_) (λi v H' Q' j _ s4 h=>?_) (λH4 s4 X=>?_)⟩
 .obtain⟨x,rfl,_⟩:=Ln j;exact⟨_,rfl,_,rfl,c,_,rfl,.inr (AW.of (s4 _ _ (k3 _ _ I))),rfl,K2 ss,_,rfl,h _ (AD.refl _)⟩
 .exact⟨_,rfl,h _ (AD.refl _)⟩
 rw[ZBe,uw]at X;have k4:=k3.trans s4;refine⟨_,rfl,(by show 0<=sizeLine;decide),λR D=>?_⟩;have N:=BX D (.lst []);have k5:=k4.trans N;have p:=N _ _ X;refine⟨acc,R,_,[],rfl,rfl,.inl ⟨Ab.of p,Ab.of AX⟩,K2 _,rfl,_,rfl,?_⟩;show if Hf ((GD ns g ss).map V.str) []=true then _ else _
 rw[Zg];refine Af (λc1=>?_) (λc1=>?_)
 .have n:GD ns g ss=[]:=by simpa using c1
  refine⟨_,rfl,(by show 2<=sizeLine;decide),λt' Mh=>?_⟩;exact q t' _ (AD.none k5 Mh) (k5.trans (BX Mh _)) (.inl ⟨n,AX⟩)
 .obtain⟨x,HC,n⟩:∃x HC,GD ns g ss=x::HC:=by
   cases h:GD ns g ss with
   |nil=>rw[h]at c1;simp at c1
   |cons x HC=>exact⟨x,HC,rfl⟩
  have hx:x∈ns/\x∈ss:=RO.mp (by rw[n];exact DC);rw[n]at p;generalize upd H4 R (.lst [])=H5 at *;have S:Ft K true H5 c (ss.map V.str):=AW.of (k5 _ _ I);refine⟨_,rfl,true,c,_,rfl,S,λrb qy=>MF (JP (.str x)) (λv=>v) S qy (by rw[C];exact small (by omega)) (λi v H' Q' j b h=>?_) (λi v H' Q' j _ b h=>?_) (λH6 b W=>?_)⟩
  .obtain⟨y,rfl,_⟩:=Ln j;exact⟨_,rfl,_,rfl,acc,_,_,_,rfl,rfl,Ab.of (b _ _ p),Wh,rfl,_,rfl,h _ (AD.refl _)⟩
  .exact⟨_,rfl,h _ (AD.refl _)⟩
  rw[PF]at W;refine⟨rb,_,rfl,.inl ⟨Ab.of W,λd O=>?_⟩⟩;have M:=BX O (.tup ((wo ss x).map V.str));have e:=k5.trans (b.trans M);have f7:H d=none:=AD.none (k5.trans b) O;have U:=M _ _ (b _ _ p);have u7:=AX (H:=H6) (a:=d) (o:=.tup ((wo ss x).map V.str));generalize upd H6 d (.tup ((wo ss x).map V.str))=H7 at *;refine⟨_,rfl,acc,_,_,_,rfl,rfl,Ab.of U,Wh,_,rfl,_,rfl,.inl ⟨rfl,_,Ab.of (e _ _ l)⟩,_,rfl,acc,_,_,_,rfl,rfl,Ab.of U,Wh,a,ns,x,rfl,rfl,Ab.of (e _ _ l),hx.1,_,_,rfl,rfl,_,rfl,?_⟩;refine⟨(by show 3<=sizeLine;decide),λJ L=>?_⟩;have z:=BX L (.tup [.str r,.int ((ns.idxOf x:Nat)+1),.ref d]);refine⟨(by show 2<=sizeLine;decide),λt9 d9=>?_⟩;have u:=BX d9 (.tup [.str x,.ref J]);exact q t9 _ (AD.none (e.trans z) d9) (e.trans (z.trans u)) (.inr ⟨x,HC,J,d,n,AD.none e L,f7,AX,u _ _ AX,u _ _ (z _ _ u7)⟩)
def PB:Ao ["pot","state","most","way","names","name","loop"] ["pot","state","most"] (AO Zi):=by walk_at "z1"
def vV(F:AE K "_law_good_entry" "_law_good_entry" Zi f fd)(m:mg "_law_good_entry"=some (.ref f)):
  AN P w K mg ZB "_law_good_entry" 4 ["pot","state","most"] (B6 cC):=by
 refine Fz.hF (k:=3) F (by walk_at "bD3") m PB (by rintro _ _⟨s,m,rfl,_,_,_,rfl⟩;rfl) λa=>⟨_,(AA rfl (Au 3 PB.nd (Ac BM a (A0 (qv 0) (A0 A4 A3))))
   (AA rfl (Au 4 PB.nd (Ar (zQ rfl) FQ (A0 (Bn (BF a) (qv 1) AM (λ_ _=>rfl)) A3)))
   (AA rfl (Ah (Dy (Hr (AR BR (qv 3) A4) (HV (AR FX (Ar Bo Aj (A0 (qv 4) A3)) A4))).pt (G2 (Hr (AR FX (qv 3) A4) (HV (AR (U0 a.K4) (qv 4) (Er A3)))).pt)).pt (AB rfl (AQ (BG (A0 AM (A0 (Ac Fl a (A0 (qv 0) (A0 (Cy (Lq rfl) C2 (A0 (Bn (BF a) (qv 1) AM (λ_ _=>rfl)) A3)) A3))) (A0 (Ac Nt a (A0 (qv 0) A3)) A3)))))) Al)
   (AA rfl (D0 (Ah (AR FX (qv 3) A4) (AA rfl (Au 5 PB.nd (AF ER (qv 4) (Ac BM a (A0 (qv 0) (A0 (Ar Bo Aj (A0 (qv 4) A3)) A3)))))
   (AA rfl (Au 6 PB.nd (Bn (BF a) (Bn (BF a) (qv 1) AM (λ_ _=>rfl)) (qv 5) (λ_ _=>rfl)))
   (AA rfl (Ah (Hr (AR (U0 a.K4) (AF AL (qv 6) A4) (BG A3)) (HV (AR BR (Ac BM a (A0 (qv 0) (A0 A4 A3))) A4))).pt (AB rfl (AQ (BG (A0 AM (A0 (qv 5) A3))))) Al)
   (AA rfl (Ah (Hr (AR (QL a.K4) (AF AL (qv 6) A4) (BG A3)) (HV (AR BR (Ac BM a (A0 (qv 0) (A0 A4 A3))) A4))).pt (AB rfl (AQ (BG (A0 AM (A0 (qv 5) (A0 (AF AL (AF AL (qv 6) A4) (Ac BM a (A0 (qv 0) (A0 (Ar Bo Aj (A0 (AF AL (qv 6) A4) A3)) A3)))) A3)))))) Al)
   (AB rfl (Ah (AR (QL a.K4) (AF AL (qv 6) A4) (BG A3)) (AB rfl (AQ (BG (A0 AM (A0 (qv 5) (A0 (AF AL (Ac Xb a (A0 (Bn (BF a) (qv 1) AM (λ_ _=>rfl)) (A0 (qv 6) A3))) A4) A3)))))) Al)))))) Al))
   (AB rfl (AQ (Ac aY a (A0 (qv 0) (A0 (Bn (BF a) (qv 1) AM (λ_ _=>rfl)) (A0 (qv 2) A3)))))))))),?_⟩
 rintro _ _⟨s,m,rfl,ok,hn,M,rfl⟩;show Ws [_,_,_,.any,.any,.any,.any] _ _ _;have l1:=ok.l1;have T:=JE ok.n1 ok.sub
 walk_at "ww"
 refine⟨by decide,by decide,λe j t=>?_⟩;refine Ap (Vd (ZBu (GU (A8 rfl ⟨k3,_,rfl,DJ ⟨.inr "live", _,rfl,rfl,_,s.ln,rfl,by omega,λBq C=>?_⟩⟩))));refine V2 4 rfl ?_;show Ws [.AS,.is (Du s),.is (.int m),.is (.int e),.is (.lst (Bq.map .str)),.any,.any] _ _ _;have L:=C.2;refine Ap (Bg (jz (k':=λb=>b=false->e<5->Bq≠[]) ?_ ?_))
 .walk_at "ww"
  refine Af (λc=>?_) (λc=>?_)
  .walk_at "ww"
   refine Af (λc2 z=>by cases z) (λc2=>?_)
   walk_at "ww"
   refine Af (λi=>?_) (λi _ z=>absurd (pX z) i)
   walk_at "ww"
   exact⟨by decide,_,.inl ⟨rfl,rfl,[],rfl,_,rfl,λz _ q=>by rw[pX q]at z;cases z⟩⟩
  .refine CT ?_
   walk_at "ww"
   refine Af (λi=>?_) (λi _ z=>absurd (pX z) i)
   walk_at "ww"
   exact⟨by decide,_,.inl ⟨rfl,rfl,[],rfl,_,rfl,λz _ q=>by rw[pX q]at z;cases z⟩⟩
 rintro b Nz;cases b with
 |true=>
  refine Bj rfl ?_;refine Bw (Gh (CH (DJ (CH (Pa rfl ?_)))));refine BP (D7 (Qp (GU (A8 rfl ⟨k3,_,rfl,DJ ⟨.inr "sums", _,rfl,rfl,Ae s.sn,_,rfl,by unfold Ae;rw[AK];omega,_,.inl ⟨rfl,rfl,s.sn,Lv _,ok.nm,by omega,λx hx nx=>?_⟩⟩⟩))));refine CH (QN rfl (BS ⟨_,⟨rfl,rfl⟩,?_⟩));rintro _⟨r,rfl,a⟩;have I:Bz r:=by
   unfold KP at a;rcases List.mem_cons.mp a with rfl|a
   .exact SX (by decide) (by decide+kernel)
   .rcases List.mem_cons.mp a with rfl|a
    .exact SX (by decide) (by decide+kernel)
    .rw[List.mem_singleton.mp a];exact SX (by decide) (by decide+kernel)
  exact Cw ⟨by simp,.J5 x r,rfl,⟨Hd hx,I⟩⟩
 |false=>
  refine B1 (by decide) (AZ ?_);have N:=Nz rfl;refine Xf (λAI=>∃B A:Slot,AI=[.AS,.is (Du s),.is (.int m),.is (.int e),.is (.lst (Bq.map .str)),B,A]) ?_ ?_
  .walk_at "ww"
   refine Af (λc=>?_) (λc=>AZ ⟨_,_,rfl⟩);have Q:=N (sE c);have JC:0<Bq.length:=List.length_pos_iff.mpr Q
   walk_at "ww"
   rw[AK];refine⟨by omega,by omega,λq J R=>?_⟩;obtain⟨q,rfl⟩:=DB J;obtain⟨x,hx⟩:∃x,Bq[q]?=some x:=⟨_,BK (by omega)⟩;refine⟨_,.str x,rfl,Kq (by rw[Bb,hx];rfl),?_⟩;have p:x∈s.ln:=C.1 x (EL hx);have hi:=List.idxOf_lt_length_iff.mpr p;obtain⟨l,el⟩:∃l,s.ll[s.ln.idxOf x]?=some l:=⟨_,BK (by omega)⟩;have o:=ok.good l (EL el);have U:=o.len;have V:=ok.row.len;have u:Bz x:=Hd (ok.nm x (ok.sub x p));refine Ap (FO (GU (GU (A8 rfl ⟨k3,_,rfl,DJ ⟨.inr "live", _,rfl,rfl,Ae s.ln,_,rfl,A8 rfl ⟨.inr x,l.P,rfl,Sd p (by rw[Bb,el];rfl),?_⟩⟩⟩))));show Ws [.AS,.is (Du s),.is (.int m),.is (.int e),.is (.lst (Bq.map .str)),.is (.str x),.is (.tup [.str l.r,.int l.g,.tup (l.cs.map .str)])] _ _ _
   walk_at "ww"
   have v:∀y∈l.cs,Bz y:=λy n=>Hd (ok.row.nm y (o.sub y n));refine⟨by decide,_,.inr ⟨rfl,rfl,[],rfl,_,rfl,?_⟩⟩
   by_cases h:l.cs=[]
   .rw[pX h];refine J3 ?_
    walk_at "ww"
    refine⟨by decide,by decide,λw j t=>?_⟩
    walk_at "ww"
    refine Af (λc2=>?_) (λc2=>AZ ?_)
    .walk_at "ww"
     exact⟨by simp,.over x,rfl,u⟩
    .walk_at "ww"
     refine⟨by decide,_,.inr ⟨rfl,rfl,[],rfl,_,rfl,?_⟩⟩;rw[pX h];refine CT ?_;refine CT (AZ ?_)
     walk_at "ww"
     refine⟨by decide,_,.inr ⟨rfl,rfl,[],rfl,_,rfl,?_⟩⟩;rw[pX h];exact CT (AZ ⟨_,_,rfl⟩)
   .rw[uK h];refine CT (CT (AZ ?_))
    walk_at "ww"
    refine⟨by decide,_,.inr ⟨rfl,rfl,[],rfl,_,rfl,?_⟩⟩;rw[uK h];refine J3 ?_
    walk_at "ww"
    refine⟨by decide,by decide,λw j t=>?_⟩
    walk_at "ww"
    refine Af (λc2=>?_) (λc2=>AZ ?_)
    .walk_at "ww"
     rw[AK];have S:=List.length_pos_iff.mpr h;refine⟨by omega,by omega,λw j t=>?_⟩;obtain⟨w,rfl⟩:=DB j;obtain⟨y,n⟩:∃y,l.cs[w]?=some y:=⟨_,BK (by omega)⟩;exact⟨_,.str y,rfl,Kq (by rw[Bb,n];rfl),Cw ⟨by simp,.tell x y,rfl,⟨u,v y (EL n)⟩⟩⟩
    .walk_at "ww"
     refine⟨by decide,_,.inr ⟨rfl,rfl,[],rfl,_,rfl,?_⟩⟩;rw[uK h];refine J3 ?_
     walk_at "ww"
     obtain⟨y,HC,D⟩:∃y HC,GD s.row l.g l.cs=y::HC:=by
      obtain⟨c,cs,O⟩:=ZIG h;have E:c∈l.cs:=by rw[O];exact DC
      have:c∈GD s.row l.g l.cs:=RO.mpr ⟨o.sub c E,E⟩;exact ZIG λz=>by rw[z]at this;cases this
     have H:y∈l.cs:=(RO.mp (by rw[D];exact DC)).2;have G:N0 s.row l.r l.g l.cs=.tup [.str y,Ey l.r (s.row.idxOf y+1) (wo l.cs y)]:=by unfold N0;rw[D]
     refine BP (tS (BP (GU (A8 rfl ⟨k3,_,rfl,DJ ⟨.inr "row", _,rfl,rfl,_,.inl ⟨rfl,rfl,s.row,rfl,A8 rfl ⟨l.r,l.g,l.cs,rfl,o,by omega,_,.inr ⟨G,rfl,Bu ⟨_,_,rfl,rfl,?_⟩⟩⟩⟩⟩⟩))));exact Cw ⟨by simp,.tell x y,rfl,⟨u,v y H⟩⟩
  .rintro _⟨B,A,rfl⟩;refine Bw (QN rfl (Am (GU (A8 rfl ⟨k3,_,rfl,DJ ⟨.inr "row", _,rfl,rfl,Am (A8 rfl (BS ⟨_,⟨s.row,m,rfl,ok.row,M,rfl⟩,?_⟩))⟩⟩))));rintro _⟨d,rfl,hd⟩;exact⟨.G1 d,rfl,hd⟩
def Jm:Ao ["pot","state","row","fresh","some","loop","none","far","way","low"] ["pot","state"] (AO Zp):=by walk_at "z1"
def ZHU(F:AE K "_law_bad_entry" "_law_bad_entry" Zp f fd)(m:mg "_law_bad_entry"=some (.ref f)):
  AN P w K mg ZB "_law_bad_entry" 4 ["pot","state"] (B6 Vf):=by
 refine Fz.hF (k:=3) F (by walk_at "bD2") m Jm (by rintro _ _⟨s,rfl,_,_,rfl⟩;rfl) λb=>⟨_,(AA rfl (Au 2 Jm.nd (Bn (BF b) (qv 1) AM (λ_ _=>rfl)))
   (AA rfl (Au 3 Jm.nd (Ac Fl b (A0 (qv 0) (A0 (Az IG (qv 2) (Cy (Lq rfl) C2 (A0 (Bn (BF b) (qv 1) AM (λ_ _=>rfl)) A3))) A3))))
   (AA rfl (Au 4 Jm.nd (AF ER (Az IG (Er (A0 (qv 3) A3)) (qv 2)) (Ac BM b (A0 (qv 0) (A0 (Az DO (Ar Bo Aj (A0 (qv 2) A3)) A4) A3)))))
   (AA rfl (Au 5 Jm.nd (AF ER (Az IG (Er (A0 (qv 3) A3)) (Cy (Lq rfl) C2 (A0 (Bn (BF b) (qv 1) AM (λ_ _=>rfl)) A3))) (Ac BM b (A0 (qv 0) (A0 (Az DO (Ar xO Aj (A0 (Bn (BF b) (qv 1) AM (λ_ _=>rfl)) A3)) A4) A3)))))
   (AA rfl (Au 6 Jm.nd (AF AL (BG (A0 AM (A0 AM (A0 AM (A0 AM (A0 AM (A0 AM A3))))))) (Ac BM b (A0 (qv 0) (A0 A4 A3)))))
   (AA rfl (Au 7 Jm.nd (AF AL (BG (A0 (Az DO (Ar Bo Aj (A0 (qv 2) A3)) A4) (A0 (oP gN A4) (A0 (Az MM A4 A4) (A0 A4 A3))))) (Ac BM b (A0 (qv 0) (A0 A4 A3)))))
   (AA rfl (Au 8 Jm.nd (Ac BM b (A0 (qv 0) (A0 A4 A3))))
   (AA rfl (Ah (AR FX (qv 8) A4) (AB rfl (AQ (BG (A0 AM (A0 (AF AL (BG (A0 (qv 6) (A0 (qv 4) (A0 (qv 3) A3)))) (qv 8)) (A0 (AF AL (BG (A0 A4 (A0 A4 (A0 (qv 7) A3)))) (qv 8)) A3)))))) Al)
   (AA rfl (Ah (AR BR (qv 8) A4) (AB rfl (AQ (BG (A0 AM (A0 (qv 3) A3))))) Al)
   (AA rfl (Ah (AR BR (qv 8) A4) (AB rfl (AQ (BG (A0 AM (A0 (qv 4) (A0 (AF AL (BG (A0 (Ar Bo Aj (A0 (qv 2) A3)) (A0 (oP gN A4) (A0 A4 A3)))) (Ac BM b (A0 (qv 0) (A0 A4 A3)))) A3)))))) Al)
   (AA rfl (Ah (AR BR (qv 8) A4) (AA rfl (Au 9 Jm.nd (Ac BM b (A0 (qv 0) (A0 (Az DO (Ar Bo Aj (A0 (qv 2) A3)) A4) A3))))
   (AB rfl (AQ (BG (A0 AM (A0 (AF AL (BG (A0 (qv 9) (A0 (qv 7) A3))) (Ac BM b (A0 (qv 0) (A0 A4 A3)))) (A0 (AF AL (BG (A0 (Az Nu (qv 9) A4) (A0 (Az DO (Ar Bo Aj (A0 (qv 2) A3)) A4) (A0 (qv 7) A3)))) (Ac BM b (A0 (qv 0) (A0 A4 A3)))) A3))))))) Al)
   (AA rfl (Ah (AR BR (qv 8) A4) (AB rfl (AQ (BG (A0 AM (A0 (AF AL (BG (A0 (qv 5) (A0 (qv 6) A3))) (Ac BM b (A0 (qv 0) (A0 A4 A3)))) (A0 (Ac Nt b (A0 (qv 0) A3)) A3)))))) Al)
   (AA rfl (Ah (AR BR (qv 8) A4) (AB rfl (AQ (BG (A0 AM (A0 (qv 3) (A0 (AF AL (BG (A0 AM (A0 AM (A0 AM (A0 AM (A0 AM A3)))))) (Ac BM b (A0 (qv 0) (A0 A4 A3)))) A3)))))) Al)
   (AA rfl (Ah (Dy (AR BR (qv 8) A4) (G2 (AR BR (qv 8) A4))).pt (AB rfl (AQ (BG (A0 AM (A0 (qv 5) (A0 (qv 4) A3)))))) Al)
   (AB rfl (AQ (BG (A0 AM (A0 (qv 5) A3))))))))))))))))))),?_⟩
 rintro _ _⟨s,rfl,ok,hn,rfl⟩;show Ws [_,_,.any,.any,.any,.any,.any,.any,.any,.any] _ _ _;have J:=ok.row.len;refine Ap (FO (GU (A8 rfl ⟨k3,_,rfl,DJ ⟨.inr "row", _,rfl,rfl,?_⟩⟩)));show Ws [.AS,.is (Du s),.is (.lst (s.row.map .str)),.any,.any,.any,.any,.any,.any,.any] _ _ _
 walk_at "ww"
 refine BP (D7 (Qp (GU (A8 rfl ⟨k3,_,rfl,DJ ⟨.inr "sums", _,rfl,rfl,Ae s.sn,_,rfl,by unfold Ae;rw[AK];omega,_,.inl ⟨rfl,rfl,by rw[AK,AK];unfold Ae;rw[AK];omega,_,.inl ⟨rfl,rfl,s.row++s.sn,by rw[Ec,Lv],λx hx=>?_,by rw[CP];omega,λfr C G=>?_⟩⟩⟩⟩))))
 .rcases List.mem_append.mp hx with h|h
  .exact ok.row.nm x h
  .exact ok.nm x h
 have t:=Hd C;show Ws [.AS,.is (Du s),.is (.lst (s.row.map .str)),.is (.str fr),.any,.any,.any,.any,.any,.any] _ _ _
 walk_at "ww"
 refine⟨by simp,_,.inl ⟨rfl,rfl,Rw rfl ⟨rfl,by rw[AK];simp;omega,_,.inl ⟨rfl,rfl,?_⟩⟩⟩⟩
 walk_at "ww"
 rw[AK];refine⟨by omega,by omega,λq d j=>?_⟩;obtain⟨q,rfl⟩:=DB d;obtain⟨g,RL,ex⟩:=TX (ns:=fr::s.row) (k:=q) (by rw[Ck];omega);have ss:Bz g:=by
  rcases List.mem_cons.mp RL with rfl|h
  .exact t
  .exact Hd (ok.row.nm g h)
 refine⟨_,_,rfl,ex,?_⟩;show Ws [.AS,.is (Du s),.is (.lst (s.row.map .str)),.is (.str fr),.is (.str g),.any,.any,.any,.any,.any] _ _ _
 walk_at "ww"
 refine⟨by simp,_,.inl ⟨rfl,rfl,BP (D7 (Qp (GU (A8 rfl ⟨k3,_,rfl,DJ ⟨.inr "sums", _,rfl,rfl,Ae s.sn,_,rfl,by unfold Ae;rw[AK];omega,_,.inl ⟨rfl,rfl,by rw[AK];unfold Ae;rw[AK];simp;omega,_,.inl ⟨rfl,rfl,?_⟩⟩⟩⟩))))⟩⟩
 walk_at "ww"
 refine zu (GU (A8 rfl ⟨k3,_,rfl,DJ ⟨.inr "sums", _,rfl,rfl,Ae s.sn,_,rfl,?_⟩⟩));rw[show(Ae s.sn).length=s.sn.length from by unfold Ae;rw[AK]]
 walk_at "ww"
 refine⟨by omega,by omega,λq d j=>?_⟩;obtain⟨q,rfl⟩:=DB d;obtain⟨lo,B,ex⟩:=TX (ns:=fr::s.sn) (k:=q) (by rw[Ck];omega);have sl:Bz lo:=by
  rcases List.mem_cons.mp B with rfl|h
  .exact t
  .exact Hd (ok.nm lo h)
 refine⟨_,_,rfl,by rw[Lv];exact ex,?_⟩;show Ws [.AS,.is (Du s),.is (.lst (s.row.map .str)),.is (.str fr),.is (.str g),.is (.str lo),.any,.any,.any,.any] _ _ _
 walk_at "ww"
 refine⟨by simp,_,.inr ⟨rfl,rfl,?_⟩⟩
 walk_at "ww"
 refine⟨by decide,by decide,λq d j=>?_⟩;obtain⟨q,rfl⟩:=DB d;obtain⟨n,ex,sn⟩:=UW (xs:=[("":Str), "A","abcdefghi","a b","{","a1"]) (b6 (by decide+kernel)) (r:=q) (by show q<6;omega)
 refine⟨_,_,rfl,ex,?_⟩;show Ws [.AS,.is (Du s),.is (.lst (s.row.map .str)),.is (.str fr),.is (.str g),.is (.str lo),.is (.str n),.any,.any,.any] _ _ _
 walk_at "ww"
 refine⟨⟨by decide,by decide,by decide+kernel⟩,?_⟩;rw[AK]
 walk_at "ww"
 refine⟨by simp,_,.inr ⟨rfl,rfl,?_⟩⟩
 walk_at "ww"
 refine⟨by decide,by decide,λq d j=>?_⟩;obtain⟨q,rfl⟩:=DB d;obtain⟨O1,ex,Y0⟩:=P4 (xs:=[(s.row.length:Int)+1,-1,10 ^ Int.toNat 59,0]) (λx hx=>by
  simp only[GY,BA,ZAO]at hx;rcases hx with rfl|rfl|rfl|rfl
  .exact IV (by omega) (by omega)
  .exact IV (by decide) (by decide)
  .exact ZHp
  .exact IV (by decide) (by decide)) (r:=q) (by show q<4;omega)
 refine⟨_,_,rfl,ex,?_⟩
 walk_at "ww"
 refine⟨by decide,by decide,λa y D=>?_⟩;obtain⟨a,rfl⟩:=DB y;show Ws [.AS,.is (Du s),.is (.lst (s.row.map .str)),.is (.str fr),.is (.str g),.is (.str lo),.is (.str n),.is (.int O1),.is (.int a),.any] _ _ _
 walk_at "ww"
 refine Af (λc=>?_) (λc=>AZ ?_)
 .have I:a<3:=by have:=sE c;omega
  walk_at "ww"
  obtain⟨i,l,s1⟩:=UW (xs:=[n,g,fr]) (UY sn ss t) (r:=a) (by show a<3;omega);refine⟨by simp,_,.inr ⟨rfl,rfl,A8 rfl ⟨_,_,rfl,l,?_⟩⟩⟩
  walk_at "ww"
  obtain⟨o,v,s2⟩:=P4 (xs:=[0,0,O1]) (UY (IV (by decide) (by decide)) (IV (by decide) (by decide)) Y0) (r:=a) (by show a<3;omega);exact⟨by simp,_,.inr ⟨rfl,rfl,A8 rfl ⟨_,_,rfl,v,Cw ⟨by simp,.G1 (.put i o),rfl,⟨s1,s2⟩⟩⟩⟩⟩
 walk_at "ww"
 refine Af (λc=>?_) (λc=>AZ ?_)
 .exact Bw (Gh (CH (DJ (CH (A8 rfl (Cw ⟨by simp,.G1 (.take fr),rfl,t⟩))))))
 walk_at "ww"
 refine Af (λc=>?_) (λc=>AZ ?_)
 .walk_at "ww"
  rw[AK];refine⟨by simp,_,.inr ⟨rfl,rfl,?_⟩⟩
  walk_at "ww"
  refine⟨by decide,by decide,λq d j=>?_⟩;obtain⟨q,rfl⟩:=DB d;obtain⟨o,v,s2⟩:=P4 (xs:=[(s.row.length:Int),-1,0]) (UY (IV (by omega) (by omega)) (IV (by decide) (by decide)) (IV (by decide) (by decide))) (r:=q) (by show q<3;omega);exact⟨_,_,rfl,v,Cw ⟨by simp,.G1 (.move g o),rfl,⟨ss,s2⟩⟩⟩
 walk_at "ww"
 refine Af (λc=>?_) (λc=>AZ ?_)
 .walk_at "ww"
  rw[AK];refine⟨by omega,by omega,λu H l1=>?_⟩
  walk_at "ww"
  refine⟨by simp,_,.inr ⟨rfl,rfl,?_⟩⟩
  walk_at "ww"
  refine⟨by decide,by decide,λq d j=>?_⟩;obtain⟨q,rfl⟩:=DB d;obtain⟨i,l,s1⟩:=P4 (xs:=[u,O1]) (XM (IV (by omega) (by omega)) Y0) (r:=q) (by show q<2;omega);refine⟨_,_,rfl,l,?_⟩
  walk_at "ww"
  rw[AK];refine⟨by simp,_,.inr ⟨rfl,rfl,?_⟩⟩
  walk_at "ww"
  refine⟨by decide,by decide,λr A E=>?_⟩;obtain⟨r,rfl⟩:=DB A;obtain⟨o,v,s2⟩:=P4 (xs:=[u - 1,(s.row.length:Int)+1,O1]) (UY (IV (by omega) (by omega)) (IV (by omega) (by omega)) Y0) (r:=r) (by show r<3;omega);exact⟨_,_,rfl,v,Cw ⟨by simp,.G1 (.turn i o),rfl,⟨s1,s2⟩⟩⟩
 walk_at "ww"
 refine Af (λc=>?_) (λc=>AZ ?_)
 .walk_at "ww"
  refine⟨by simp,_,.inr ⟨rfl,rfl,?_⟩⟩
  walk_at "ww"
  refine⟨by decide,by decide,λq d j=>?_⟩;obtain⟨q,rfl⟩:=DB d;obtain⟨i,l,s1⟩:=UW (xs:=[lo,n]) (XM sl sn) (r:=q) (by show q<2;omega);refine⟨_,_,rfl,l,CH (QN rfl (BS ⟨_,⟨rfl,rfl⟩,?_⟩))⟩;rintro _⟨r,rfl,b⟩;have z:Bz r:=b6 (xs:=KP) (by decide+kernel) r b;exact Cw ⟨by simp,.J5 i r,rfl,⟨s1,z⟩⟩
 walk_at "ww"
 refine Af (λc=>?_) (λc=>AZ ?_)
 .walk_at "ww"
  refine⟨by simp,_,.inr ⟨rfl,rfl,?_⟩⟩
  walk_at "ww"
  refine⟨by decide,by decide,λq d j=>?_⟩;obtain⟨q,rfl⟩:=DB d;obtain⟨i,l,s1⟩:=UW (xs:=[("al":Str), "","None","ahead ","over"]) (b6 (by decide+kernel)) (r:=q) (by show q<5;omega);exact⟨_,_,rfl,l,Cw ⟨by simp,.J5 fr i,rfl,⟨t,s1⟩⟩⟩
 refine Xf (λAI=>AI=[.AS,.is (Du s),.is (.lst (s.row.map .str)),.is (.str fr),.is (.str g),.is (.str lo),.is (.str n),.is (.int O1),.is (.int a),.any]) ?_ ?_
 .have tl:∀nx,Ws [.AS,.is (Du s),.is (.lst (s.row.map .str)),.is (.str fr),.is (.str g),.is (.str lo),.is (.str n),.is (.int O1),.is (.int a),.any] (Hy (U8 (An (tC (V.str "tell")) (An (BW 5) (An (BW 4) BQ))))) nx (.is λp=>∃e:LE,p=e.P/\e.say):=λnx=>Bw (Gh (CH (DJ (CH (A8 rfl (CH (A8 rfl (Cw ⟨by simp,.tell lo g,rfl,⟨sl,ss⟩⟩))))))))
  walk_at "ww"
  refine Af (λc=>Bj rfl (tl _)) (λc=>?_)
  walk_at "ww"
  exact Af (λc=>tl _) (λc=>AZ rfl)
 rintro _ rfl;exact Bw (Gh (CH (DJ (CH (A8 rfl (Cw ⟨by simp,.over lo,rfl,sl⟩))))))
def UC:Ao ["row","deed","made","low","high"] ["row","deed"] (AO RW):=by walk_at "z1"
def vM:=Sb [(".0",.local),("name",.local),("deed",.free)]
def qJ:Fj ["row","deed","made","low","high"] (AO RW) vM "name" ["deed"] [1]:=by walk_at "z2"
def ZCz(F:AE K "_law_done" "_law_done" RW f fd)(m:mg "_law_done"=some (.ref f)):
  AN P w K mg ZB "_law_done" 1 ["row","deed"] (WU):=by
 refine AN.mk F (F.binds (by walk_at "bD2")) m (F.E4 (k:=0) UC (λvs H Q E h=>?_) (λAi A outer s H vs Q E hr h=>?_))
 .obtain⟨a,t,ns,d,rfl,r,g,hd,z,nd,q⟩:=h;rfl
 obtain⟨a,t,ns,d,rfl,r,g,hd,z,nd,q⟩:=h;refine⟨_,(AA rfl (qU (i:=2) UC.nd rfl (Or.inl rfl) rfl qJ (IK (qv 0)) (λ_ _ _ _=>by exact(LZ (AR Js (qv 1) (AF (show J7 _ (Ng K)from AL) (qv 0) A4)))) (λ_ _ _ _=>by exact(qv 1)))
   (AA rfl (Ah (AR BR (AF AL (qv 1) A4) AM) (AA rfl (L4 (GA dw (qv 1) (FG A4) Hc) (OF rfl (Eg (D3 3 UC.nd) (Eg (D3 4 UC.nd) OI))))
   (AB rfl (AQ (Az IG (Az IG (GA M8 (qv 0) Hc (FG (qv 3))) (gR rfl rfl C2 rfl Nq (A0 (GA M8 (qv 0) (FG (qv 3)) (FG (qv 4))) A3))) (GA M8 (qv 0) (FG (qv 4)) Hc))))) Al)
   (AA rfl (D0 (Ah (AR Js (AF AL (qv 1) A4) AM) (AB rfl (EZ (Jw Mq ZIc PySem.F.type_list_insert tq (qv 2) (A0 (AF AL (qv 1) A4) (A0 (AF AL (qv 1) A4) A3))))) Al))
   (AB rfl (AQ (qv 2)))))),?_⟩
 have o:=Lw.Ea ns;have C:∀n:Nat,n<=2001->n<=sizeLine:=λn h=>Bi h (by decide+kernel);have l:Ft K false H a (ns.map V.str):=Ab.of r;cases d with
 |put x i=>
  obtain⟨h1,h2,h3,h4⟩:=hd;have u:(wo ns x).length<=ns.length:=Of _ _;refine⟨_,rfl,false,a,_,rfl,l,λacc BJ=>MF (JP (.str x)) (λv=>v) l BJ (by rw[o];exact small (by omega)) (λi v H' Q' e s1 h=>?_) (λi v H' Q' e _ s1 h=>?_) (λH' s1 c=>?_)⟩
  .obtain⟨y,rfl,B⟩:=Ln e;exact⟨_,rfl,_,rfl,t,_,_,_,rfl,rfl,AW.of (s1 _ _ g),rfl,rfl,_,rfl,h H' (AD.refl _)⟩
  .exact⟨_,rfl,h H' (AD.refl _)⟩
  have b:=s1 _ _ g;rw[PF]at c;refine⟨_,rfl,t,_,_,_,rfl,rfl,AW.of b,rfl,rfl,_,rfl,B1 (by decide+kernel) ?_⟩;refine⟨λσ' H'=>σ'=[some (.ref a),some (.ref t),some (.ref acc),none,none]/\AD H H'/\H' acc=some (.lst ((ins (wo ns x) x i).map V.str)),?_,?_⟩
  .refine⟨_,rfl,t,_,_,_,rfl,rfl,AW.of b,rfl,rfl,_,rfl,XT (by decide+kernel) ?_⟩;refine⟨_,rfl,.inl ⟨rfl,_,Ab.of c⟩,_,rfl,t,_,_,_,rfl,rfl,AW.of b,rfl,_,rfl,t,_,_,_,rfl,rfl,AW.of b,rfl,acc,_,_,_,rfl,rfl,c,by omega,by rw[Lw.Ea];rw[Sz h2];omega,by rw[Lw.Ea];exact Io u (Io z (by decide+kernel)),?_⟩;refine⟨rfl,eX s1 BJ,?_⟩;rw[AX];unfold ins;simp only[Ec,Oi,CA,RD,VE]
  .rintro σ' H2⟨rfl,s2,j⟩;exact⟨_,rfl,q acc H2 BJ s2 (by rw[Sz h2]at j;exact j)⟩
 |take x=>
  have u:(wo ns x).length<=ns.length:=Of _ _;refine⟨_,rfl,false,a,_,rfl,l,λacc BJ=>MF (JP (.str x)) (λv=>v) l BJ (by rw[o];exact small (by omega)) (λi v H' Q' e s1 h=>?_) (λi v H' Q' e _ s1 h=>?_) (λH' s1 c=>?_)⟩
  .obtain⟨y,rfl,B⟩:=Ln e;exact⟨_,rfl,_,rfl,t,_,_,_,rfl,rfl,AW.of (s1 _ _ g),rfl,rfl,_,rfl,h H' (AD.refl _)⟩
  .exact⟨_,rfl,h H' (AD.refl _)⟩
  have b:=s1 _ _ g;rw[PF]at c;refine⟨_,rfl,t,_,_,_,rfl,rfl,AW.of b,rfl,rfl,_,rfl,B1 (by decide+kernel) ?_⟩;refine⟨λσ' H'=>σ'=[some (.ref a),some (.ref t),some (.ref acc),none,none]/\AD H H'/\H' acc=some (.lst ((wo ns x).map V.str)),?_,?_⟩
  .refine⟨_,rfl,t,_,_,_,rfl,rfl,AW.of b,rfl,rfl,_,rfl,B1 (by decide+kernel) ?_⟩;exact⟨rfl,s1,c⟩
  .rintro σ' H2⟨rfl,s2,j⟩;exact⟨_,rfl,q acc H2 BJ s2 j⟩
 |move x i=>
  obtain⟨h1,h2⟩:=hd;have u:(wo ns x).length<=ns.length:=Of _ _;have ZIz:=Q0 h1 nd;refine⟨_,rfl,false,a,_,rfl,l,λacc BJ=>MF (JP (.str x)) (λv=>v) l BJ (by rw[o];exact small (by omega)) (λi v H' Q' e s1 h=>?_) (λi v H' Q' e _ s1 h=>?_) (λH' s1 c=>?_)⟩
  .obtain⟨y,rfl,B⟩:=Ln e;exact⟨_,rfl,_,rfl,t,_,_,_,rfl,rfl,AW.of (s1 _ _ g),rfl,rfl,_,rfl,h H' (AD.refl _)⟩
  .exact⟨_,rfl,h H' (AD.refl _)⟩
  have b:=s1 _ _ g;rw[PF]at c;refine⟨_,rfl,t,_,_,_,rfl,rfl,AW.of b,rfl,rfl,_,rfl,B1 (by decide+kernel) ?_⟩;refine⟨λσ' H'=>σ'=[some (.ref a),some (.ref t),some (.ref acc),none,none]/\AD H H'/\H' acc=some (.lst ((ins (wo ns x) x i).map V.str)),?_,?_⟩
  .refine⟨_,rfl,t,_,_,_,rfl,rfl,AW.of b,rfl,rfl,_,rfl,XT (by decide+kernel) ?_⟩;refine⟨_,rfl,.inl ⟨rfl,_,Ab.of c⟩,_,rfl,t,_,_,_,rfl,rfl,AW.of b,rfl,_,rfl,t,_,_,_,rfl,rfl,AW.of b,rfl,acc,_,_,_,rfl,rfl,c,by omega,by rw[Lw.Ea];omega,by rw[Lw.Ea];exact Io u (Io z (by decide+kernel)),?_⟩;refine⟨rfl,eX s1 BJ,?_⟩;rw[AX];unfold ins;simp only[Ec,Oi,CA,RD,VE]
  .rintro σ' H2⟨rfl,s2,j⟩;exact⟨_,rfl,q acc H2 BJ s2 j⟩
 |turn lo hi=>
  obtain⟨h1,h2⟩:=hd;refine⟨_,rfl,false,a,_,rfl,l,λacc BJ=>MF (JP (.int lo)) (λv=>v) l BJ (by rw[o];exact small (by omega)) (λi v H' Q' e s1 h=>?_) (λi v H' Q' e _ s1 h=>?_) (λH' s1 c=>?_)⟩
  .obtain⟨y,rfl,B⟩:=Ln e;exact⟨_,rfl,_,rfl,t,_,_,_,rfl,rfl,AW.of (s1 _ _ g),rfl,rfl,_,rfl,h H' (AD.refl _)⟩
  .exact⟨_,rfl,h H' (AD.refl _)⟩
  have b:=s1 _ _ g;rw[rf]at c;refine⟨_,rfl,t,_,_,_,rfl,rfl,AW.of b,rfl,rfl,_,rfl,XT (by decide+kernel) ?_⟩;refine⟨_,rfl,_,rfl,t,_,rfl,AW.of b,(λh=>absurd h.1 (show ¬ HT.Ay 3 0 (some 1)=0 by decide)),λp n=>?_⟩;have n1:=BX n (.tup (Cq (Ak.turn lo hi).vals (some 1) none));refine⟨p,_,rfl,AW.of AX,rfl,_,_,rfl,_,_,rfl,rfl,?_⟩;have s2:=s1.trans n1;have j:=s2 _ _ r;refine⟨_,rfl,_,rfl,_,rfl,a,_,rfl,Ab.of j,λl3 X=>?_⟩;rw[mP];have R:=BX X (.lst ((ns.map V.str).take lo));have M:=s2.trans R;refine⟨_,rfl,_,rfl,_,rfl,_,rfl,_,rfl,a,_,rfl,Ab.of (M _ _ r),λl4 W=>?_⟩;rw[ZGU _ h1 (by rw[o];exact h2)];have I:=BX W (.lst (((ns.map V.str).drop lo).take (hi - lo)));refine⟨l4,false,_,rfl,Ab.of AX,rfl,λl5 U=>?_⟩;have G:=BX U (.lst (((ns.map V.str).drop lo).take (hi - lo)).reverse);refine⟨l3,l5,_,_,rfl,rfl,G _ _ (I _ _ AX),AX,C _ (by simp only[DM,cg,HK];omega),λl6 T=>?_⟩;have O:=BX T (.lst ((ns.map V.str).take lo++(((ns.map V.str).drop lo).take (hi - lo)).reverse));have L:=M.trans (I.trans (G.trans O));refine⟨_,rfl,_,rfl,_,rfl,a,_,rfl,Ab.of (L _ _ r),λσ S=>?_⟩;rw[gS];have D:=BX S (.lst ((ns.map V.str).drop hi));refine⟨l6,σ,_,_,rfl,rfl,D _ _ AX,AX,C _ (by simp only[CP,DM,HK,cg];omega),λY N=>?_⟩;have J:=L.trans D;refine q Y _ (AD.none J N) (J.trans (BX N _)) ?_;rw[AX];show some (HO.lst _)=some (HO.lst ((GN ns lo hi).map V.str));unfold GN;simp only[Ec,Oi,RD,ZIP,C5]
def ZFY:Ao ["text"] ["text"] (AO SH):=by walk_at "z1"
def rE:=Sb [(".0",.local),("sign",.local)]
def sH:Fj ["text"] (AO SH) rE "sign" [] []:=by walk_at "z2"
def ZDx(F:AE K "_law_is_name" "_law_is_name" SH f fd)(m:mg "_law_is_name"=some (.ref f)):
  AN P w K mg ZB "_law_is_name" 1 ["text"] (MS):=by
 refine AN.mk F (F.binds (by walk_at "bD1")) m (F.E4 (k:=0) ZFY (λvs H Q E h=>?_) (λAi A outer s H vs Q E d h=>?_))
 .obtain⟨x,rfl,hx,q⟩:=h;rfl
 obtain⟨x,rfl,hx,q⟩:=h;refine⟨_,(AB rfl (AQ (NQ (O7 Eb Eb A4 (Ar Yt Aj (A0 (qv 0) A3)) A4) (LK (Ar (gr rfl) Nc (A0 (KU rfl sH (o4 (qv 0)) (λ_ _ _ _=>by exact kl) (λ_ _ _ _=>by exact(IJ gm (qv 0) AM))) A3)))))),?_⟩;refine⟨_,rfl,_,rfl,small (by omega),_,_,rfl,rfl,_,rfl,?_⟩;refine Af (λc=>?_) (λc=>⟨_,rfl,CT ?_⟩)
 .refine⟨_,_,rfl,rfl,_,rfl,?_⟩;refine Af (λc2=>?_) (λc2=>?_)
  .refine⟨_,rfl,x,rfl,λacc BJ=>dk (λ_=>true) Z6 BJ (by rw[<- Mj,<- Ib];exact small (by omega)) (λi v H' Q' _ _ h=>h H' (AD.refl _)) (λi v H' Q' b _ _ h=>?_) (λH' s1 a=>?_)⟩
   .obtain⟨g,rfl⟩:=signs_get b;exact⟨_,rfl,_,_,rfl,rfl,h H' (AD.refl _)⟩
   .rw[dR]at a;refine⟨acc,_,rfl,Ab.of a,?_⟩;rw[all_map];have e:isNm x=x.cps.toList.all Lu:=by unfold isNm;rw[c,c2];rfl
    rw[<- e];exact q H' s1
  .have e:isNm x=false:=by unfold isNm;rw[Bool.eq_false_iff.mpr c2];simp
   rw[<- e];exact q H (AD.refl _)
 .have e:isNm x=false:=by unfold isNm;rw[Bool.eq_false_iff.mpr c];simp
  rw[<- e];exact q H (AD.refl _)
def rg:Ao ["row","deed"] ["row","deed"] (AO YJ):=by walk_at "z1"
def vX(F:AE K "_law_deed_right" "_law_deed_right" YJ f fd)(m:mg "_law_deed_right"=some (.ref f)):
  AN P w K mg ZB "_law_deed_right" 2 ["row","deed"] (B6 Vi):=by
 refine Fz.hF (k:=1) F (by walk_at "bD2") m rg (by rintro _ _⟨ns,d,rfl,_,_,rfl⟩;rfl) λh=>⟨_,(AA rfl (Ah (AR BR (AF AL (qv 1) A4) AM) (AB rfl (AQ (NQ (O7 Eb Eb A4 (AF AL (qv 1) A4) (Ar Bo Aj (A0 (qv 0) A3))) (LK (O7 Eb Eb (AF AL (qv 1) A4) (AF AL (qv 1) A4) (Ar Bo Aj (A0 (qv 0) A3))))))) Al)
   (AA rfl (Ah (AR BR (AF AL (qv 1) A4) AM) (AA rfl (Ah (Dy (Ek (GF (Ac Nl h (A0 (AF AL (qv 1) A4) A3)))) (Dy (AR Nn (AF AL (qv 1) A4) (qv 0)) (G2 (AR NP (Ar Bo Aj (A0 (qv 0) A3)) A4)))).pt (AB rfl (AQ Cu)) Al)
   (AB rfl (AQ (O7 Eb Eb A4 (AF AL (qv 1) A4) (Ar Bo Aj (A0 (qv 0) A3)))))) Al)
   (AA rfl (Ah (AR M4 (AF AL (qv 1) A4) (qv 0)) (AB rfl (AQ Cu)) Al)
   (AB rfl (AQ (gG (IJ BR (AF AL (qv 1) A4) AM) (LK (O7 Eb FX A4 (AF AL (qv 1) A4) (Ar Bo Aj (A0 (qv 0) A3)))))))))),?_⟩
 rintro _ _⟨ns,d,rfl,g,l,rfl⟩;show Ws [_,_] _ _ _;cases d with
 |put x i=>
  unfold aP;dsimp only
  walk_at "ww"
  refine B1 (by decide+kernel) (AZ ?_)
  walk_at "ww"
  refine Bj (by decide+kernel) ?_;refine Ap (Bg (Fx (FE (Dv (TN ?_)))))
  walk_at "ww"
  refine⟨g.1.2,_,rfl,?_⟩;refine Af (λc=>?_) (λc=>?_)
  .refine Bw (Cg ?_);rw[Jq];simp only[Ag.B3];have j:isNm x=false:=by cases e:isNm x with
    |false=>rfl
    |true=>rw[e]at c;cases c
   rw[tX j];rfl
  have h1:isNm x=true:=by cases e:isNm x with
   |true=>rfl
   |false=>exact absurd (by rw[e];rfl) c
  walk_at "ww"
  refine Af (λc2=>?_) (λc2=>?_)
  .refine Bw (Cg ?_);rw[Jq];simp only[Ag.B3];rw[qg (by rw[h1];decide),tX (sE c2)];rfl
  have h2:x∉ns:=λz=>c2 (pX z)
  walk_at "ww"
  rw[AK];refine Af (λb=>?_) (λb=>AZ ?_)
  .refine Bw (Cg ?_);rw[rZ h1 h2 (by have:=sE b;omega)]
  walk_at "ww"
  rw[ZAA h1 h2 (by have:¬ (40:Int)<=ns.length:=λz=>b (pX z);omega),UJ];refine Af (λa=>?_) (λa=>?_)
  .walk_at "ww"
   rw[a,AK];rfl
  .rw[Bool.eq_false_iff.mpr a];rfl
 |take x=>
  unfold aP;dsimp only
  walk_at "ww"
  refine B1 (by decide+kernel) (AZ ?_)
  walk_at "ww"
  refine B1 (by decide+kernel) (AZ ?_)
  walk_at "ww"
  refine Af (λc=>?_) (λc=>AZ ?_)
  .refine Bw (Cg ?_);rw[Jq];simp only[Ag.B3];rw[tX (λz=>by rw[pX z]at c;cases c)];rfl
  have h2:x∈ns:=K8 λz=>c (by rw[uK z];rfl)
  walk_at "ww"
  refine Bj (by decide+kernel) ?_;rw[Jq];simp only[Ag.B3];rw[qg (Decidable.not_not.mpr h2)];rfl
 |move x i=>
  unfold aP;dsimp only
  walk_at "ww"
  refine B1 (by decide+kernel) (AZ ?_)
  walk_at "ww"
  refine B1 (by decide+kernel) (AZ ?_)
  walk_at "ww"
  refine Af (λc=>?_) (λc=>AZ ?_)
  .refine Bw (Cg ?_);rw[Jq];simp only[Ag.B3];rw[tX (λz=>by rw[pX z]at c;cases c)];rfl
  have h2:x∈ns:=K8 λz=>c (by rw[uK z];rfl)
  walk_at "ww"
  refine B1 (by decide+kernel) ?_
  walk_at "ww"
  rw[qe h2,UJ];refine Af (λa=>?_) (λa=>?_)
  .walk_at "ww"
   rw[a,AK,cP]
   congr 1
   rw[decide_eq_decide];omega
  .rw[Bool.eq_false_iff.mpr a];rfl
 |turn lo hi=>
  unfold aP;dsimp only
  walk_at "ww"
  refine Bj (by decide+kernel) ?_
  walk_at "ww"
  rw[ZB2,UJ,UJ];refine Af (λc=>?_) (λc=>?_)
  .walk_at "ww"
   rw[AK];refine Af (λc2=>?_) (λc2=>?_)
   .walk_at "ww"
    refine Af (λb=>?_) (λb=>?_)
    .walk_at "ww"
     rw[c,c2,b,AK];rfl
    .rw[c,c2,Bool.eq_false_iff.mpr b];rfl
   .rw[c,Bool.eq_false_iff.mpr c2];rfl
  .rw[Bool.eq_false_iff.mpr c];exact⟨_,rfl,CT rfl⟩
def bW:Ao ["row","gap","deed"] ["row","gap","deed"] (AO Z3):=by walk_at "z1"
def vD(F:AE K "_law_gap" "_law_gap" Z3 f fd)(m:mg "_law_gap"=some (.ref f)):
  AN P w K mg ZB "_law_gap" 1 ["row","gap","deed"] (e9):=by
 refine AN.mk F (F.binds (by walk_at "bD3")) m (F.E4 (k:=0) bW (λvs H Q E h=>?_) (λAi A outer s H vs Q E r h=>?_))
 .obtain⟨a,t,ns,g,d,rfl,j,b,ok,q⟩:=h;rfl
 obtain⟨a,t,ns,g,d,rfl,j,b,ok,q⟩:=h;refine⟨_,(AA rfl (D0 (Ah (AR Nn (AF AL (qv 2) A4) (BG (A0 AM (A0 AM A3)))) (AB rfl (Au 1 bW.nd (Az Nu (qv 1) (Cy RY Ij (A0 (IJ FX (Jw Mq VO d6 UT (qv 0) (A0 (AF AL (qv 2) A4) A3)) (qv 1)) A3))))) Al))
   (AA rfl (D0 (Ah (AR Nn (AF AL (qv 2) A4) (BG (A0 AM (A0 AM A3)))) (AB rfl (Au 1 bW.nd (Az DO (qv 1) (Cy RY Ij (A0 (IJ FX (AF AL (qv 2) A4) (qv 1)) A3))))) Al))
   (AB rfl (AQ (qv 1))))),?_⟩
 refine⟨λσ' H'=>σ'=[some (.ref a),some (.int (d.Pj ns g:Nat)),some (.ref t)]/\AD H H',?_,?_⟩
 .refine⟨_,rfl,t,_,_,_,rfl,rfl,AW.of b,RJ d,(by show 2<=sizeLine;decide),λp VY=>?_⟩;have n1:=BX VY (.tup [.str "take",.str "move"]);refine⟨p,_,rfl,.inr (AW.of AX),rfl,rfl,_,rfl,?_⟩;show if HE (.str d.kind) [.str "take",.str "move"]=true then _ else _
  refine Af (λc=>?_) (λc=>?_)
  .obtain⟨x,Kr,GB,e⟩:=ZH3 g ok c;refine⟨_,rfl,_,rfl,.inl ⟨rfl,_,Ab.of (n1 _ _ j)⟩,_,rfl,t,_,_,_,rfl,rfl,AW.of (n1 _ _ b),Kr,a,ns,x,rfl,rfl,Ab.of (n1 _ _ j),GB,_,rfl,_,_,rfl,rfl,.inr ⟨_,rfl,_,_,rfl,rfl,?_,n1⟩⟩;rw[e,<- ZDU];rfl
  .refine⟨?_,n1⟩;rw[qf g c];rfl
 rintro σ' H1⟨rfl,s1⟩;have l:=s1 _ _ b;refine⟨λσ' H'=>σ'=[some (.ref a),some (.int (d.gap ns g:Nat)),some (.ref t)]/\AD H H',?_,?_⟩
 .refine⟨_,rfl,t,_,_,_,rfl,rfl,AW.of l,RJ d,(by show 2<=sizeLine;decide),λo TR=>?_⟩;have n2:=BX TR (.tup [.str "put",.str "move"]);refine⟨o,_,rfl,.inr (AW.of AX),rfl,rfl,_,rfl,?_⟩;show if HE (.str d.kind) [.str "put",.str "move"]=true then _ else _
  refine Af (λc=>?_) (λc=>?_)
  .obtain⟨i,n,Il⟩:=ZG9 (ns:=ns) g c;refine⟨_,rfl,_,rfl,t,_,_,_,rfl,rfl,AW.of (n2 _ _ l),n,_,rfl,_,_,rfl,rfl,.inr ⟨_,rfl,_,_,rfl,rfl,?_,s1.trans n2⟩⟩;rw[Il,<- ZF3];rfl
  .refine⟨?_,s1.trans n2⟩;rw[ZHe g c]
 rintro σ' H2⟨rfl,s2⟩;exact⟨_,rfl,q _ s2⟩
def NC:Ao ["row","loop","deed","rule","gap","coming"] ["row","loop","deed"] (AO Um):=by walk_at "z1"
def ZDl:=Sb [(".0",.local),("name",.local),("deed",.free)]
def ZFj:Fj ["row","loop","deed","rule","gap","coming"] (AO Um) ZDl "name" ["deed"] [2]:=by walk_at "z2"
def ZAd(F:AE K "_law_led" "_law_led" Um f fd)(m:mg "_law_led"=some (.ref f)):
  AN P w K mg ZB "_law_led" 2 ["row","loop","deed"] (Xc):=by
 refine AN.mk F (F.binds (by walk_at "bD3")) m (F.E4 (k:=1) NC (λvs H Q E h=>?_) (λAi A outer s H vs Q E hr h=>?_))
 .obtain⟨a,tl,t,c,ns,r,g,ss,d,rfl,hS,⟨hL,J⟩,e,ok,p,hz,q⟩:=h;rfl
 obtain⟨a,tl,t,c,ns,r,g,ss,d,rfl,hS,⟨hL,J⟩,e,ok,p,hz,q⟩:=h;refine⟨_,(AA rfl (L4 (qv 1) (OF rfl (Eg (D3 3 NC.nd) (Eg (D3 4 NC.nd) (Eg (D3 5 NC.nd) OI)))))
   (AA rfl (D0 (Ah (AR BR (AF AL (qv 2) A4) AM) (AB rfl (Au 5 NC.nd (Cy Ki DS (A0 (KU rfl ZFj (IK (qv 5)) (λ_ _ _ _=>by exact(LZ (AR Js (qv 1) (AF (show J7 _ (Ng K)from AL) (qv 0) A4)))) (λ_ _ _ _=>by exact(qv 1))) A3)))) Al))
   (AA rfl (D0 (Ah (Hr (AR BR (AF AL (qv 2) A4) AM) (HV (Dy (AR BR (qv 3) AM) (G2 (Hr (AR BR (qv 3) AM) (HV (AR NP (AF AL (qv 2) A4) (qv 4)))).pt)).pt)).pt (AB rfl (Au 5 NC.nd (Cy Ki DS (A0 (Ar SO FQ (A0 (Az dN (qv 5) (BG (A0 (AF AL (qv 2) A4) A3))) A3)) A3)))) Al))
   (AB rfl (AQ (BG (A0 (qv 3) (A0 (Ac aN hr (A0 (qv 0) (A0 (qv 4) (A0 (qv 2) A3)))) (A0 (qv 5) A3))))))))),?_⟩
 have hlen:=p.len;refine⟨_,rfl,tl,_,rfl,AW.of hL,rfl,_,_,rfl,_,_,rfl,_,_,rfl,rfl,?_⟩;refine⟨λσ' H'=>∃b:Addr,σ'=[some (.ref a),some (.ref tl),some (.ref t),some (.str r),some (.int g),some (.ref b)]/\AD H H'/\(H b=none∨b=c)/\H' b=some (.tup ((d.SW ss).map V.str)),?_,?_⟩
 .refine⟨_,rfl,t,_,_,_,rfl,rfl,AW.of e,RJ d,rfl,_,rfl,?_⟩;refine Af (λj=>?_) (λj=>⟨c,rfl,AD.refl _,.inr rfl,by rw[zr j];exact J⟩);obtain⟨x,Kr,GB⟩:=ZGD (r:=r) (g:=g) (ss:=ss) j;have W:Ft K true H c (ss.map V.str):=AW.of J;refine⟨_,rfl,true,c,_,rfl,W,λacc BJ=>MF (JP (.str x)) (λv=>v) W BJ (by rw[Lw.Ea];exact small (by omega)) (λi v H' Q' σ s4 h=>?_) (λi v H' Q' σ _ s4 h=>?_) (λH4 s4 e4=>?_)⟩
  .obtain⟨y,rfl,_⟩:=Ln σ;exact⟨_,rfl,_,rfl,t,_,_,_,rfl,rfl,AW.of (s4 _ _ e),Kr,rfl,_,rfl,h _ (AD.refl _)⟩
  .exact⟨_,rfl,h _ (AD.refl _)⟩
  rw[PF,<- GB]at e4;exact⟨acc,_,rfl,.inl ⟨Ab.of e4,λt5 fc=>⟨t5,rfl,s4.trans (BX fc _),.inl (AD.none s4 fc),AX⟩⟩⟩
 rintro σ' H1⟨c1,rfl,s1,L,o⟩;refine⟨λσ' H'=>∃b:Addr,σ'=[some (.ref a),some (.ref tl),some (.ref t),some (.str r),some (.int g),some (.ref b)]/\AD H H'/\(H b=none∨b=c)/\H' b=some (.tup ((d.Hk r g ss).map V.str)),?_,?_⟩
 .refine⟨_,rfl,t,_,_,_,rfl,rfl,AW.of (s1 _ _ e),RJ d,rfl,_,rfl,?_⟩;refine Af (λR=>?_) (λR=>CT ⟨c1,rfl,s1,L,by rw[ZE6 R];exact o⟩);obtain⟨x,i,rfl⟩:=q8 R;replace o:H1 c1=some (.tup (ss.map V.str)):=o;refine⟨_,rfl,rfl,_,rfl,?_⟩;refine Af (λj=>?_) (λj=>?_)
  .have n:FF r g i=true:=by unfold FF;rw[tX j]
   refine J3 ?_;refine⟨_,rfl,_,rfl,t,_,_,_,rfl,rfl,AW.of (s1 _ _ e),rfl,(by show 1<=sizeLine;decide),λC XB=>?_⟩;have l:=BX XB (.tup [.str x]);refine⟨c1,C,_,_,rfl,rfl,AW.of (l _ _ o),AW.of AX,by simp,small (by rw[Lw.Ea];simp;omega),λz H7 u M=>?_⟩;have T:AW K H7 z ((ss++[x]).map V.str):=by rw[Ec];exact M
   refine⟨z,true,ss++[x],rfl,T,by rw[CP];simp;omega,λD ts Vx I G=>?_⟩;have B:=BX Vx (.lst (ts.map V.str));refine⟨D,_,rfl,.inl ⟨Ab.of AX,λS P8=>?_⟩⟩;exact⟨S,rfl,s1.trans (l.trans (u.trans (B.trans (BX P8 _)))),.inl (AD.none (s1.trans (l.trans (u.trans B))) P8),by rw[AX,Vo I G p.up (VS p ok x i rfl),cB n]⟩
  .refine⟨_,rfl,rfl,_,rfl,?_⟩;refine Af (λO=>?_) (λO=>?_)
   .refine⟨_,rfl,t,_,_,_,rfl,rfl,AW.of (s1 _ _ e),rfl,_,rfl,_,_,rfl,rfl,_,rfl,?_⟩;have OQ:FF r g i=decide ((g:Int)<=(i:Int)):=by unfold FF;rw[qg j,tX O]
    refine Af (λN=>?_) (λN=>?_)
    .have n:FF r g i=true:=OQ.trans N;refine⟨_,rfl,_,rfl,t,_,_,_,rfl,rfl,AW.of (s1 _ _ e),rfl,(by show 1<=sizeLine;decide),λC XB=>?_⟩;have l:=BX XB (.tup [.str x]);refine⟨c1,C,_,_,rfl,rfl,AW.of (l _ _ o),AW.of AX,by simp,small (by rw[Lw.Ea];simp;omega),λz H7 u M=>?_⟩;have T:AW K H7 z ((ss++[x]).map V.str):=by rw[Ec];exact M
     refine⟨z,true,ss++[x],rfl,T,by rw[CP];simp;omega,λD ts Vx I G=>?_⟩;have B:=BX Vx (.lst (ts.map V.str));refine⟨D,_,rfl,.inl ⟨Ab.of AX,λS P8=>?_⟩⟩;exact⟨S,rfl,s1.trans (l.trans (u.trans (B.trans (BX P8 _)))),.inl (AD.none (s1.trans (l.trans (u.trans B))) P8),by rw[AX,Vo I G p.up (VS p ok x i rfl),cB n]⟩
    .have n:FF r g i=false:=OQ.trans (Bool.eq_false_iff.mpr N);exact⟨c1,rfl,s1,L,by rw[Wu n];exact o⟩
   .have n:FF r g i=false:=by unfold FF;rw[qg j,qg O]
    exact CT ⟨c1,rfl,s1,L,by rw[Wu n];exact o⟩
 rintro σ' H2⟨c2,rfl,s2,f2,e2⟩;refine⟨_,rfl,_,rfl,_,rfl,_,rfl,a,t,ns,g,d,rfl,s2 _ _ hS,s2 _ _ e,ok,λH3 U=>?_⟩;refine⟨_,rfl,(by show 3<=sizeLine;decide),λt4 Y=>?_⟩;have k3:=s2.trans U;have X:=BX Y (.tup [.str r,.int (d.gap ns g:Nat),.ref c2]);exact q t4 c2 _ (AD.none k3 Y) f2 (k3.trans X) ⟨AX,X _ _ (U _ _ e2)⟩
def ZDA:Ao ["state","name","place"] ["state","name","place"] (AO Xo):=by walk_at "z1"
def gw : ∀ss R,ON ss R->ss.length=3:=by rintro _ _⟨s,a,t,x,k,rfl,_,_,_,_,rfl⟩;rfl
def ZH7(F:AE K "_law_counted" "_law_counted" Xo f fd)(m:mg "_law_counted"=some (.ref f)):
  AN P w K mg ZB "_law_counted" 1 ["state","name","place"] (Bx ON):=by
 refine AN.mk F (F.binds (by walk_at "bD3")) m (F.E4 (k:=0) ZDA (λvs H Q E h=>Fz.Qs gw h) (λAi A outer s H vs Q E c h=>?_))
 refine⟨_,(AB rfl (L4 (Az DO (AF ER (Bn (BF c) (Bn (BF c) (qv 0) AM (λ_ _=>rfl)) (qv 1) (λ_ _=>rfl)) (qv 2)) A4) (cF (Bn (BF c) (Bn (BF c) (qv 0) AM (λ_ _=>rfl)) (qv 1) (λ_ _=>rfl)) (qv 2) set_list))),?_⟩;refine Fz.UP h gw ?_;rintro _ _⟨s,a,t,x,k,rfl,l,hx,o,j,rfl⟩;obtain⟨aL,aS,us,BH,rfl⟩:=l;show Ws [_,_,_] _ _ _;obtain⟨q,eq⟩:∃q,s.sq[s.sn.idxOf x]?=some q:=⟨_,BK (by have:=List.idxOf_lt_length_iff.mpr hx;omega)⟩;obtain⟨u,d,b,rfl⟩:=BH.get eq;obtain⟨v,g,hw⟩:∃v:Int,(Fo q)[k]?=some (.int v)/\(Fo q).set k (.int (v+1))=Fo (Yn k q):=by
  rcases j with rfl|rfl|rfl
  .exact⟨_,rfl,rfl⟩
  .exact⟨_,rfl,rfl⟩
  .exact⟨_,rfl,rfl⟩
 have e:k<(Fo q).length:=by show k<4;omega
 refine ZAf (i:=0) (t:=Bh s a aL aS us) (Wk (DL (Pd (HA (UG rfl ⟨Ae s.sn,aS,us,rfl,A8 rfl ⟨.inr x,s.sn.idxOf x,_,rfl,G8 hx,d,b,_,rfl,A8 rfl ⟨_,k,.fz (.int v),rfl,?_,?_,_,rfl,?_⟩⟩⟩)))))
 .rw[AK];exact ir e
 .rw[Bb,g];rfl
 refine⟨_,rfl,Bu ⟨_,rfl,HA (UG rfl ⟨Ae s.sn,aS,us,rfl,A8 rfl ⟨.inr x,s.sn.idxOf x,_,rfl,G8 hx,d,true,b,Fo q,rfl,rfl,A8 rfl ⟨k,rfl,e,?_⟩⟩⟩)⟩⟩;unfold Bh;rw[show(([]++[2])++[s.sn.idxOf x]:List Nat)=[2,s.sn.idxOf x]from rfl,Rp d,hw];exact⟨_,_,_,_,rfl,rfl,rfl,aL,aS,_,BH.set λn h'=>by rw[eq]at h';cases h';exact⟨b,rfl⟩,rfl⟩
def US:Ao ["state","deed","name","loop","later"] ["state","deed"] (AO ar):=by walk_at "z1"
def ZDy(F:AE K "_law_stirred" "_law_stirred" ar f fd)(m:mg "_law_stirred"=some (.ref f)):
  AN P w K mg ZB "_law_stirred" 4 ["state","deed"] (Bx Sa):=by
 refine Fz.hM (k:=3) F (by walk_at "bD2") m US (by rintro _ _⟨s,a,t,d,rfl,_,_,_,_,rfl⟩;rfl) λb=>⟨_,(AA rfl (Ah (Ek (GF (Ac XD b (A0 (Bn (BF b) (qv 0) AM (λ_ _=>rfl)) (A0 (qv 1) A3))))) (AB rfl (AQ Cu)) Al)
   (AA rfl (D0 (KQ LU rfl (IK (Cy (Lq rfl) C2 (A0 (Bn (BF b) (qv 0) AM (λ_ _=>rfl)) A3))) (D3 2 US.nd) (AA rfl (Au 3 US.nd (Bn (BF b) (Bn (BF b) (qv 0) AM (λ_ _=>rfl)) (qv 2) (λ_ _=>rfl)))
   (AA rfl (Au 4 US.nd (Ac cM b (A0 (Bn (BF b) (qv 0) AM (λ_ _=>rfl)) (A0 (qv 3) (A0 (qv 1) A3)))))
   (AA rfl (D0 (Ah (AR ML (Ar Bo Aj (A0 (AF AL (qv 4) A4) A3)) (Ar Bo Aj (A0 (AF AL (qv 3) A4) A3))) (AB rfl (EZ (Ac Ly b (A0 (qv 0) (A0 (qv 2) (A0 A4 A3)))))) Al))
   (AA rfl (D0 (Ah (AR FX (Ar Bo Aj (A0 (AF AL (qv 4) A4) A3)) (Ar Bo Aj (A0 (AF AL (qv 3) A4) A3))) (AB rfl (EZ (Ac Ly b (A0 (qv 0) (A0 (qv 2) (A0 A4 A3)))))) Al))
   (AB rfl (JZ (BF b) (Bn (BF b) (qv 0) AM (λ_ _=>rfl)) (qv 2) (qv 4)))))))))
   (AA rfl (JZ (BF b) (qv 0) AM (Ac WZ b (A0 (Bn (BF b) (qv 0) AM (λ_ _=>rfl)) (A0 (qv 1) A3))))
   (AB rfl (AQ Cu))))),?_⟩
 rintro _ _⟨s,a,t,d,rfl,D,ok,B,hn,rfl⟩;obtain⟨aL,aS,us,BH,rfl⟩:=D;show Ws [_,_,.any,.any,.any] _ _ _;have l1:=ok.l1;have l2:=ok.l2;have I:=JE ok.n1 ok.sub;have A:=ok.row.len;refine Ap (Bg (FE (Dv (wp_call (Am (DL (O6 rfl ⟨_,rfl,Am (A8 rfl (BS ⟨_,⟨s.row,d,rfl,B,A,rfl⟩,?_⟩))⟩)))))));rintro _ rfl;refine⟨_,rfl,?_⟩;cases q:GP s.row d with
 |none=>exact Bj rfl (EF (i:=0) rfl (Cg (.inr ⟨by unfold HU;rw[q],rfl,aL,aS,us,BH,rfl⟩)))
 |some d'=>
  refine B1 (λz=>by cases z) (AZ ?_);have u:=bY q;rw[u.1];refine Ap (GO (MH (λ_ i AI=>∃(s2 e s4:Slot)(t':OV),AI=[.ow true t',.is (dP d'),s2,e,s4]/\DV (Em s d' i) a t') (QU (Kf (D7 (fk (Po rfl ⟨Ae s.ln,aL,_,rfl,by unfold Ae;rw[AK];omega,_,.inl ⟨rfl,?_⟩⟩)))))));rw[Lv];refine⟨⟨_,_,_,_,rfl,aL,aS,us,BH,rfl⟩,?_,?_⟩
  .rintro i p AI y⟨s2,e,s4,t',rfl,aL,aS,us,BH,rfl⟩;rw[Bb]at y;obtain⟨x,hx,rfl⟩:=Option.map_eq_some_iff.mp y;refine NF ?_;have hi:i<s.ln.length:=(List.getElem?_eq_some_iff.mp hx).1;obtain⟨l,el⟩:∃l,s.ll[i]?=some l:=⟨_,BK (by omega)⟩;have n:x∈s.ln:=EL hx;have xs:x∈s.sn:=ok.sub x n;have v:s.ln.idxOf x=i:=N5 ok.n1 hx;have E:=ok.good l (EL el);have ll:=Jy s d' i;have H:=Oy s d' i;show Ws [.ow true (Bh (Em s d' i) a aL aS us),.is (dP d'),.is (.str x),e,s4] _ _ _;refine Ap (FO (DL (HA (Po rfl ⟨Ae s.ln,aL,_,rfl,A8 rfl ⟨.inr x,i,.fz l.P,rfl,by rw[G8 n,v],OG (XN el),_,rfl,?_⟩⟩))));refine Ap (FO (ZFM (BP (DL (O6 rfl ⟨_,rfl,_,.inl ⟨rfl,rfl,s.row,rfl,A8 rfl ⟨l.r,l.g,l.cs,rfl,A8 rfl ⟨d',rfl,u.2,E,A,?_⟩⟩⟩⟩)))));have c:∀t',DV ⟨s.row,s.ln,CS s d' i,s.sn,Cp s d' (i+1)⟩ a t'->Ws [.ow true t',.is (dP d'),.is (.str x),.is l.P,.is (l.led s.row d').P] (Sl (L6 (BW 0) (tC (V.str "live"))) (BW 2) (BW 4)) (λAI=>∃(s2 e s4:Slot)(t':OV),AI=[.ow true t',.is (dP d'),s2,e,s4]/\DV (Em s d' (i+1)) a t') (.mt (EH (λs t=>DV s a t) s (HU s d))):=by
    rintro _⟨aL,aS,us,BH,rfl⟩;refine Jz (i:=0) (t:=Bh ⟨s.row,s.ln,CS s d' i,s.sn,Cp s d' (i+1)⟩ a aL aS us) (E7 (A8 rfl (Po rfl ⟨true,aL,Ae s.ln,_,rfl,rfl,by unfold CI;rw[AK];show(CS s d' i).length<=99999;omega,JB ok.n1,BA,A8 rfl ⟨.inr x,rfl,?_⟩⟩)));rw[Rh n,Tr n,v,Us,aj el];unfold Bh;rw[show([]++[1]:List Nat)=[1]from rfl,LF];exact⟨_,_,_,_,rfl,aL,aS,us,BH,rfl⟩
   rw[iL hx el]at c;show Ws [.ow true (Bh (Em s d' i) a aL aS us),.is (dP d'),.is (.str x),.is l.P,.is (l.led s.row d').P] _ _ _;have j:∀k:Nat,(k=1∨k=2∨k=3)->∀(nx:List Slot->Prop)R,(∀t',DV ⟨s.row,s.ln,CS s d' i,s.sn,(Cp s d' i).modify (s.sn.idxOf x) (Yn k)⟩ a t'->nx [.ow true t',.is (dP d'),.is (.str x),.is l.P,.is (l.led s.row d').P])->Ws [.ow true (Bh (Em s d' i) a aL aS us),.is (dP d'),.is (.str x),.is l.P,.is (l.led s.row d').P] (Kv (ES (Bx ON) [] E0 (An (BW 0) (An (BW 2) (An (tC (V.int k)) BQ))))) nx R:=λk C nx R o=>by
    refine X1 (i:=0) (Qd rfl (Qf rfl (EJ (A8 rfl (EJ (Bu (Gw ⟨_,⟨Em s d' i,a,_,x,k,rfl,⟨aL,aS,us,BH,rfl⟩,xs,by show s.sn.length=(Cp s d' i).length;omega,C,rfl⟩,?_⟩)))))));rintro _ G⟨rfl,Cj⟩;obtain⟨nk,G9,rfl⟩:=Cj.nd;exact⟨nk,G9,rfl,o _ Cj⟩
   have J:(d'.Hk l.r l.g l.cs)=(l.led s.row d').cs:=rfl;rcases cw l.cs.length (l.led s.row d').cs.length with h|h|h
   .refine Ap (GO (Bg (C9 (GJ (D5 (BP (Fm (Gd (i:=4) rfl ⟨rfl,Bu ⟨_,_,rfl,rfl,_,.inr ⟨rfl,_,rfl,D5 (BP (Fm (Gd (i:=3) rfl ⟨rfl,Bu ⟨_,_,rfl,rfl,_,.inr ⟨rfl,_,rfl,_,rfl,?_⟩⟩⟩)))⟩⟩⟩))))))));rw[AK,AK];refine Bj (pX (by omega)) (j 1 (.inl rfl) _ _ λt' HN=>?_);refine Ap (GO (Bg (C9 (GJ (D5 (BP (Fm (Gd (i:=4) rfl ⟨rfl,Bu ⟨_,_,rfl,rfl,_,.inr ⟨rfl,_,rfl,D5 (BP (Fm (Gd (i:=3) rfl ⟨rfl,Bu ⟨_,_,rfl,rfl,_,.inr ⟨rfl,_,rfl,_,rfl,?_⟩⟩⟩)))⟩⟩⟩))))))));rw[AK,AK];refine B1 (λz=>by have:=sE z;omega) (AZ (c t' ?_));unfold Sm.by
    rw[tX h];exact HN
   .refine Ap (GO (Bg (C9 (GJ (D5 (BP (Fm (Gd (i:=4) rfl ⟨rfl,Bu ⟨_,_,rfl,rfl,_,.inr ⟨rfl,_,rfl,D5 (BP (Fm (Gd (i:=3) rfl ⟨rfl,Bu ⟨_,_,rfl,rfl,_,.inr ⟨rfl,_,rfl,_,rfl,?_⟩⟩⟩)))⟩⟩⟩))))))));rw[AK,AK];refine B1 (λz=>by have:=sE z;omega) (AZ ?_);refine Ap (GO (Bg (C9 (GJ (D5 (BP (Fm (Gd (i:=4) rfl ⟨rfl,Bu ⟨_,_,rfl,rfl,_,.inr ⟨rfl,_,rfl,D5 (BP (Fm (Gd (i:=3) rfl ⟨rfl,Bu ⟨_,_,rfl,rfl,_,.inr ⟨rfl,_,rfl,_,rfl,?_⟩⟩⟩)))⟩⟩⟩))))))));rw[AK,AK];refine B1 (λz=>by have:=sE z;omega) (AZ (c _ ?_));unfold Sm.by
    rw[qg (by omega),qg (by omega),fG];exact⟨aL,aS,us,BH,rfl⟩
   .refine Ap (GO (Bg (C9 (GJ (D5 (BP (Fm (Gd (i:=4) rfl ⟨rfl,Bu ⟨_,_,rfl,rfl,_,.inr ⟨rfl,_,rfl,D5 (BP (Fm (Gd (i:=3) rfl ⟨rfl,Bu ⟨_,_,rfl,rfl,_,.inr ⟨rfl,_,rfl,_,rfl,?_⟩⟩⟩)))⟩⟩⟩))))))));rw[AK,AK];refine B1 (λz=>by have:=sE z;omega) (AZ ?_);refine Ap (GO (Bg (C9 (GJ (D5 (BP (Fm (Gd (i:=4) rfl ⟨rfl,Bu ⟨_,_,rfl,rfl,_,.inr ⟨rfl,_,rfl,D5 (BP (Fm (Gd (i:=3) rfl ⟨rfl,Bu ⟨_,_,rfl,rfl,_,.inr ⟨rfl,_,rfl,_,rfl,?_⟩⟩⟩)))⟩⟩⟩))))))));rw[AK,AK];refine Bj (pX (by omega)) (j 3 (.inr (.inr rfl)) _ _ λt' HN=>c t' ?_);unfold Sm.by
    rw[qg (by omega),tX h];exact HN
  .rintro AI⟨s2,e,s4,t',rfl,HN⟩;rw[AK]at HN;obtain⟨M6,MX,us',ID,rfl⟩:=HN;refine Ap (Jz (i:=0) (t:=Bh (Em s d' s.ln.length) a M6 MX us') (E7 (D7 (gU (BP (DL (O6 rfl ⟨_,rfl,_,.inl ⟨rfl,rfl,s.row,rfl,A8 rfl ⟨d',rfl,u.2,by omega,ok.row.nd,?_⟩⟩⟩)))))));refine DK rfl ⟨true,a,k3,_,rfl,rfl,by show 3<=99999;decide,by decide+kernel,BA,DJ ⟨.inr "row", rfl,?_⟩⟩;rw[OV.GQ];refine EF (i:=0) rfl (Cg (.inl ⟨⟨d'.done s.row,s.ln,s.ll.map (Lp.led s.row d'),s.sn,Cp s d' s.ln.length⟩,?_,rfl,M6,MX,us',ID,?_⟩))
   .unfold HU;rw[q]
   .rw[<- oQ,<- l1,yj,ZAe];rfl
def ZC9:Ao ["row","rule"] ["row","rule"] (AO bL):=by walk_at "z1"
def sZ(F:AE K "_law_begun" "_law_begun" bL f fd)(m:mg "_law_begun"=some (.ref f)):
  AN P w K mg ZB "_law_begun" 1 ["row","rule"] (B6 dr):=by
 refine Fz.hF (k:=0) F (by walk_at "bD2") m ZC9 (by rintro _ _⟨ns,r,rfl,a,rfl⟩;rfl) λc=>⟨_,(AB rfl (AQ (BG (A0 (qv 1) (A0 A4 (A0 (Cy Ki DS (A0 (Ar SO FQ (A0 (qv 0) A3)) A3)) A3)))))),?_⟩
 rintro _ _⟨ns,r,rfl,a,rfl⟩;show Ws [_,_] _ _ _
 walk_at "ww"
 refine⟨a,λts b st=>?_⟩
 walk_at "ww"
 exact⟨by simp,ts,b,st,rfl⟩
def ZEV:Ao ["state","name","rule"] ["state","name","rule"] (AO XX):=by walk_at "z1"
def ZHF(F:AE K "_law_begins" "_law_begins" XX f fd)(m:mg "_law_begins"=some (.ref f)):
  AN P w K mg ZB "_law_begins" 3 ["state","name","rule"] (Bx Ym):=by
 refine Fz.hM (k:=2) F (by walk_at "bD3") m ZEV (by rintro _ _⟨s,a,t,x,r,rfl,_,_,_,_,_,rfl⟩;rfl) λd=>⟨_,(AA rfl (Ah (Dy (Ek (GF (Ac Nl d (A0 (qv 1) A3)))) (Dy (mZ (BF d) (qv 1) (Bn (BF d) (qv 0) AM (λ_ _=>rfl))) (G2 (AR M4 (qv 2) (BG (A0 AM (A0 AM (A0 AM A3)))))))).pt (AB rfl (AQ Cu)) Al)
   (AA rfl (JZ (BF d) (Bn (BF d) (qv 0) AM (λ_ _=>rfl)) (qv 1) (Ac cI d (A0 (Bn (BF d) (qv 0) AM (λ_ _=>rfl)) (A0 (qv 2) A3))))
   (AA rfl (JZ (BF d) (Bn (BF d) (qv 0) AM (λ_ _=>rfl)) (qv 1) (Er (A0 (Ar Bo Aj (A0 (Bn (BF d) (qv 0) AM (λ_ _=>rfl)) A3)) (A0 A4 (A0 A4 (A0 A4 A3))))))
   (AB rfl (AQ Cu))))),?_⟩
 rintro _ _⟨s,a,t,x,r,rfl,p,ok,hx,d,hn,rfl⟩;obtain⟨aL,aS,us,BH,rfl⟩:=p;show Ws [_,_,_] _ _ _;have j:∀nx:List Slot->Prop,¬ (isNm x=true/\x∉s.sn/\J0 r=true)->Ws [.ow true (Bh s a aL aS us),.is (.str x),.is (.str r)] (Hy (tC (V.bl false))) nx (.mt (EH (λs t=>DV s a t) s (Ga s x r))):=λnx h=>EF (i:=0) rfl (Cg (.inr ⟨by unfold Ga;rw[qg h],rfl,aL,aS,us,BH,rfl⟩));refine Ap (Bg (Fx (FE (Dv (TN (A8 rfl ⟨x,rfl,hx.2,_,rfl,?_⟩))))));refine Af (λc=>j _ λz=>by rw[z.1]at c;cases c) (λc=>?_);refine Fx (Dv (j6 (A8 rfl (UG rfl ⟨Ae s.sn,aS,us,.inr x,rfl,rfl,_,rfl,?_⟩))));rw[K5];refine Af (λc2=>j _ λz=>z.2.1 (sE c2)) (λc2=>?_)
 walk_at "ww"
 refine⟨by decide,_,.inr ⟨rfl,["none","ahead","all"],rfl,_,rfl,?_⟩⟩;refine Af (λg=>j _ λz=>?_) (λg=>AZ ?_)
 .have l:decide (r∈([("none":Str), "ahead","all"]))=true:=z.2.2;rw[l]at g;cases g
 have h1:isNm x=true:=by cases e:isNm x with
  |true=>rfl
  |false=>exact absurd (by rw[e];rfl) c
 have h2:x∉s.sn:=λz=>c2 (pX z);have l:J0 r=true:=by
  show decide (r∈([("none":Str), "ahead","all"]))=true;cases e:decide (r∈([("none":Str), "ahead","all"]))with
  |true=>rfl
  |false=>exact absurd (by rw[e];rfl) g
 have n:x∉s.ln:=λz=>h2 (ok.sub x z);have l1:=ok.l1;have l2:=ok.l2;have u:=JE ok.n1 ok.sub;refine Ap (Jz (i:=0) (t:=Bh s a aL aS us) (E7 (wp_call (Dp (BP (DL (O6 rfl ⟨_,rfl,_,.inl ⟨rfl,Am (A8 rfl (BS ⟨_,⟨s.row,r,rfl,by have:=ok.row.len;omega,rfl⟩,?_⟩))⟩⟩)))))));rintro _⟨ts,o,st,rfl⟩;rw[fO ok.row.nd o st];refine(Po rfl ⟨true,aL,Ae s.ln,_,rfl,rfl,by unfold CI;rw[AK];omega,JB ok.n1,BA,A8 rfl ⟨.inr x,rfl,?_⟩⟩);rw[Qm n,Su n];unfold Bh;rw[show([]++[1]:List Nat)=[1]from rfl,LF];have q:CI s.ll++[.fz (Ey r 0 (Gy s.row))]=CI (s.ll++[⟨r,0,Gy s.row⟩]):=by unfold CI;rw[Ec];rfl
 rw[q];show Ws [.ow true (Bh ⟨s.row,s.ln++[x],s.ll++[⟨r,0,Gy s.row⟩],s.sn,s.sq⟩ a aL aS us),.is (.str x),.is (.str r)] _ _ _;refine Ap (Jz (i:=0) (t:=Bh ⟨s.row,s.ln++[x],s.ll++[⟨r,0,Gy s.row⟩],s.sn,s.sq⟩ a aL aS us) (ZEa (LW (E7 (D5 (BP (DL (O6 rfl ⟨_,rfl,_,.inl ⟨rfl,LW (E7 (Bu (LW (E7 (Bu (LW (E7 (Bu (iA ⟨by simp,by simp,by simp,by simp,by show 4<=100000;decide,λb=>?_⟩)))))))))⟩⟩))))))));refine(UG rfl ⟨true,aS,Ae s.sn,us,rfl,rfl,by rw[BH.1];omega,JB ok.n2,BA,A8 rfl ⟨.inr x,rfl,?_⟩⟩);rw[Qm h2,Su h2,AK];unfold Bh;rw[show([]++[2]:List Nat)=[2]from rfl,put2];exact EF (i:=0) rfl (Cg (.inl ⟨_,by unfold Ga;rw[tX ⟨h1,h2,l⟩],rfl,aL,aS,_,BH.snoc ⟨b,rfl⟩,rfl⟩))
def O0:Ao ["state","entry","live","rule","gap","coming","left"] ["state","entry"] (AO Sw):=by walk_at "z1"
def ZFL:=Sb [(".0",.local),("name",.local),("entry",.free)]
def ZG4:Fj ["state","entry","live","rule","gap","coming","left"] (AO Sw) ZFL "name" ["entry"] [1]:=by walk_at "z2"
def y3(F:AE K "_law_goes" "_law_goes" Sw f fd)(m:mg "_law_goes"=some (.ref f)):
  AN P w K mg ZB "_law_goes" 5 ["state","entry"] (Bx X9):=by
 refine Fz.hM (k:=4) F (by walk_at "bD2") m O0 (by rintro _ _⟨s,a,t,e,rfl,_,_,_,_,rfl⟩;rfl) λb=>⟨_,(AA rfl (Au 2 O0.nd (Bn (BF b) (qv 0) AM (λ_ _=>rfl)))
   (AA rfl (Ah (AR BR (AF AL (qv 1) A4) AM) (AB rfl (AQ (Ac WX b (A0 (qv 0) (A0 (AF AL (qv 1) A4) (A0 (AF AL (qv 1) A4) A3)))))) Al)
   (AA rfl (Ah (AR BR (AF AL (qv 1) A4) AM) (AA rfl (Ah (Dy (Ot (BF b) (AF AL (qv 1) A4) (qv 2)) (G2 (AR (QL b.K4) (AF AL (Bn (BF b) (qv 2) (AF AL (qv 1) A4) (λ_ _=>rfl)) A4) (BG A3)))).pt (AB rfl (AQ Cu)) Al)
   (AA rfl (EZ (nM (qv 2) (AF AL (qv 1) A4) ⟨rfl,rfl,rfl,rfl⟩))
   (AB rfl (AQ Cu)))) Al)
   (AA rfl (Ah (AR BR (AF AL (qv 1) A4) AM) (AA rfl (Ah (Dy (Ot (BF b) (AF AL (qv 1) A4) (qv 2)) (G2 (AR M4 (AF AL (qv 1) A4) (AF AL (Bn (BF b) (qv 2) (AF AL (qv 1) A4) (λ_ _=>rfl)) A4)))).pt (AB rfl (AQ Cu)) Al)
   (AA rfl (L4 (Bn (BF b) (qv 2) (AF AL (qv 1) A4) (λ_ _=>rfl)) (OF rfl (Eg (D3 3 O0.nd) (Eg (D3 4 O0.nd) (Eg (D3 5 O0.nd) OI)))))
   (AA rfl (Au 6 O0.nd (Cy Ki DS (A0 (KU rfl ZG4 (IK (qv 5)) (λ_ _ _ _=>by exact(LZ (AR Js (qv 1) (AF (show J7 _ (Ng K)from AL) (qv 0) A4)))) (λ_ _ _ _=>by exact(qv 1))) A3)))
   (AA rfl (JZ (BF b) (qv 2) (AF AL (qv 1) A4) (BG (A0 (qv 3) (A0 (Az DO (Jw Mq VO d6 UT (Bn (BF b) (qv 0) AM (λ_ _=>rfl)) (A0 (AF AL (qv 1) A4) A3)) A4) (A0 (qv 6) A3)))))
   (AA rfl (EZ (Ac Ly b (A0 (qv 0) (A0 (AF AL (qv 1) A4) (A0 A4 A3)))))
   (AB rfl (AQ Cu))))))) Al)
   (AB rfl (AQ (Ac YC b (A0 (qv 0) (A0 (qv 1) A3))))))))),?_⟩
 rintro _ _⟨s,a,t,e,rfl,u,ok,q,hn,rfl⟩;obtain⟨aL,aS,us,BH,rfl⟩:=id u;show Ws [_,_,.any,.any,.any,.any,.any] _ _ _;have nd:∀{o:Option Ls}{p:PV}{t':OV},EH (λs t=>DV s a t) s o p t'->∃En us',t'=.nd En a us'/\(∃nk a us,t'=.nd nk a us)/\EH (λs t=>DV s a t) s o p t':=λh=>by
  obtain⟨nk,us,e⟩:=h.nd λ_ _ h=>h.nd;exact⟨nk,us,e,⟨nk,a,us,e⟩,h⟩
 have l1:=ok.l1;have l2:=ok.l2;have L:=JE ok.n1 ok.sub;have N:=ok.row.len;refine Ap (Zl (i:=0) (Po rfl ⟨_,aL,_,rfl,?_⟩));cases e with
 |J5 x r=>
  show Ws [.ow true (Bh s a aL aS us),.is (.tup [.str "begin",.str x,.str r]),.raw (ptr aL),.any,.any,.any,.any] _ _ _
  walk_at "ww"
  refine Bj (by decide+kernel) ?_;refine OW (i:=0) rfl (Qd rfl (Qf rfl (EJ ?_)))
  walk_at "ww"
  refine EJ ?_
  walk_at "ww"
  exact Gw ⟨_,⟨s,a,_,x,r,rfl,u,ok,q.1,q.2,hn,rfl⟩,λp t' h=>nd h⟩
 |over x=>
  show Ws [.ow true (Bh s a aL aS us),.is (.tup [.str "over",.str x]),.raw (ptr aL),.any,.any,.any,.any] _ _ _
  walk_at "ww"
  refine B1 (by decide+kernel) (AZ ?_)
  walk_at "ww"
  refine Bj (by decide+kernel) ?_;refine Ap (Bg (Fx (Dv (U4 (i:=0) (t:=Bh s a aL aS us) ?_))))
  walk_at "ww"
  refine(Iw (j:=2) (i:=0) (p:=[1]) rfl rfl EK ⟨Ae s.ln,aL,_,.inr x,rfl,rfl,_,rfl,?_⟩);rw[K5];refine Af (λc=>?_) (λc=>?_)
  .have nx:x∉s.ln:=λz=>by rw[pX z]at c;cases c
   refine EF (i:=0) rfl (Cg (.inr ⟨?_,rfl,aL,aS,us,BH,rfl⟩));show Fy s x=none;unfold Fy;rw[cY nx,l1,LQ (B4 _)]
  .have hx:x∈s.ln:=K8 λz=>c (by rw[uK z];rfl);have hi:=List.idxOf_lt_length_iff.mpr hx;obtain⟨l,el⟩:∃l,s.ll[s.ln.idxOf x]?=some l:=⟨_,BK (by omega)⟩;refine C9 (mm (BP (Fm (BP (DL (HA (Iw (j:=2) (i:=0) (p:=[1]) rfl rfl EK ⟨Ae s.ln,aL,_,rfl,?_⟩)))))))
   walk_at "ww"
   refine⟨.inr x,s.ln.idxOf x,.fz l.P,rfl,G8 hx,OG el,_,rfl,_,.inr ⟨rfl,rfl,Bu ⟨_,_,rfl,rfl,_,.inr ⟨rfl,l.cs,rfl,?_⟩⟩⟩⟩;refine BP (Gh (Cw ⟨by decide,_,.inr ⟨rfl,rfl,[],rfl,_,rfl,?_⟩⟩));refine Af (λc2=>?_) (λc2=>AZ ?_)
   .refine EF (i:=0) rfl (Cg (.inr ⟨?_,rfl,aL,aS,us,BH,rfl⟩));show Fy s x=none;unfold Fy;rw[el];show(if l.cs=[]then _ else none)=none
    rw[qg (λz=>by rw[pX z]at c2;cases c2)]
   .have H:l.cs=[]:=K8 λz=>c2 (by rw[uK z];rfl);refine Ap (dQ (i:=0) (t:=Bh s a aL aS us) (Iw (j:=2) (i:=0) (p:=[1]) rfl rfl EK ⟨true,aL,Ae s.ln,_,rfl,rfl,JB ok.n1,?_⟩))
    walk_at "ww"
    refine⟨.inr x,s.ln.idxOf x,rfl,G8 hx,?_⟩;unfold Bh;rw[LF,lB,kD];refine EF (i:=0) rfl (Cg (.inl ⟨⟨s.row,s.ln.eraseIdx (s.ln.idxOf x),s.ll.eraseIdx (s.ln.idxOf x),s.sn,s.sq⟩,?_,rfl,aL,aS,us,BH,rfl⟩));show Fy s x=_;unfold Fy;rw[el];show(if l.cs=[]then _ else none)=_
    rw[tX H]
 |tell x y=>
  show Ws [.ow true (Bh s a aL aS us),.is (.tup [.str "tell",.str x,.str y]),.raw (ptr aL),.any,.any,.any,.any] _ _ _
  walk_at "ww"
  refine B1 (by decide+kernel) (AZ ?_)
  walk_at "ww"
  refine B1 (by decide+kernel) (AZ ?_)
  walk_at "ww"
  refine Bj (by decide+kernel) ?_;refine Ap (Bg (Fx (Dv (U4 (i:=0) (t:=Bh s a aL aS us) ?_))))
  walk_at "ww"
  refine(Iw (j:=2) (i:=0) (p:=[1]) rfl rfl EK ⟨Ae s.ln,aL,_,.inr x,rfl,rfl,_,rfl,?_⟩);rw[K5];refine Af (λc=>?_) (λc=>?_)
  .have nx:x∉s.ln:=λz=>by rw[pX z]at c;cases c
   refine EF (i:=0) rfl (Cg (.inr ⟨?_,rfl,aL,aS,us,BH,rfl⟩));show Fw s x y=none;unfold Fw;rw[cY nx,l1,LQ (B4 _)]
  .have hx:x∈s.ln:=K8 λz=>c (by rw[uK z];rfl);have hi:=List.idxOf_lt_length_iff.mpr hx;obtain⟨l,el⟩:∃l,s.ll[s.ln.idxOf x]?=some l:=⟨_,BK (by omega)⟩;refine C9 (bG ?_)
   walk_at "ww"
   refine BP (DL (HA (Iw (j:=2) (i:=0) (p:=[1]) rfl rfl EK ⟨Ae s.ln,aL,_,rfl,?_⟩)))
   walk_at "ww"
   refine⟨.inr x,s.ln.idxOf x,.fz l.P,rfl,G8 hx,OG el,_,rfl,_,.inr ⟨rfl,rfl,Bu ⟨_,_,rfl,rfl,_,.inr ⟨rfl,l.cs,rfl,_,rfl,?_⟩⟩⟩⟩;have xs:x∈s.sn:=ok.sub x hx;have C:=ok.good l (EL el);have M:=C.len;refine Af (λc2=>?_) (λc2=>AZ ?_)
   .refine EF (i:=0) rfl (Cg (.inr ⟨?_,rfl,aL,aS,us,BH,rfl⟩));show Fw s x y=none;unfold Fw;rw[el];show(if y∈l.cs then _ else none)=none
    rw[qg (λz=>by rw[pX z]at c2;cases c2)]
   .have B:y∈l.cs:=K8 λz=>c2 (by rw[uK z];rfl);have D:y∈s.row:=C.sub y B;refine Ap (o7 (DL (HA (Iw (j:=2) (i:=0) (p:=[1]) rfl rfl EK ⟨Ae s.ln,aL,_,rfl,?_⟩))))
    walk_at "ww"
    refine⟨.inr x,s.ln.idxOf x,.fz l.P,rfl,G8 hx,OG el,_,rfl,wt ⟨_,_,_,rfl,?_⟩⟩;show Ws [.ow true (Bh s a aL aS us),.is (.tup [.str "tell",.str x,.str y]),.raw (ptr aL),.is (.str l.r),.is (.int l.g),.is (.tup (l.cs.map .str)),.any] _ _ _;refine Ap (FO (S8 rfl (BP (D7 (ZV PV.str (λz=>!decide (z=y)) PV.str (QU (Kf (A8 rfl ⟨_,.inr ⟨rfl,l.cs,rfl,by omega,λz G=>?_,λz G _=>A8 rfl rfl,?_⟩⟩))) str_inj)))))
    .walk_at "ww"
     rw[show alike (PV.str z) (PV.str y)=decide (z=y)from rfl]
    refine⟨_,.inl ⟨rfl,?_⟩⟩;show Ws [.ow true (Bh s a aL aS us),.is (.tup [.str "tell",.str x,.str y]),.raw (ptr aL),.is (.str l.r),.is (.int l.g),.is (.tup (l.cs.map .str)),.is (.tup ((wo l.cs y).map .str))] _ _ _;refine Ap (Jz (i:=0) (t:=Bh s a aL aS us) (E7 (Gh (CH (A8 rfl (CH ?_))))));refine Wk (VW (BP (DL (O6 rfl ⟨_,rfl,_,.inl ⟨rfl,rfl,s.row,rfl,?_⟩⟩))))
    walk_at "ww"
    refine⟨D,_,rfl,Bu ⟨_,rfl,CH (A8 rfl (Cw ⟨by simp,?_⟩))⟩⟩;refine(Iw (j:=2) (i:=0) (p:=[1]) rfl rfl EK ⟨true,aL,Ae s.ln,_,rfl,rfl,by unfold CI;rw[AK];omega,JB ok.n1,BA,?_⟩)
    walk_at "ww"
    refine⟨.inr x,rfl,?_⟩;rw[Rh hx,Tr hx];have I:(CI s.ll).set (s.ln.idxOf x) (.fz (.tup [.str l.r,.int (((s.row.idxOf y:Nat):Int)+1),.tup ((wo l.cs y).map .str)]))=CI (s.ll.set (s.ln.idxOf x) ⟨l.r,s.row.idxOf y+1,wo l.cs y⟩):=Us _ _ ⟨l.r,s.row.idxOf y+1,wo l.cs y⟩;rw[I];unfold Bh;rw[LF];show Ws [.ow true (Bh ⟨s.row,s.ln,s.ll.set (s.ln.idxOf x) ⟨l.r,s.row.idxOf y+1,wo l.cs y⟩,s.sn,s.sq⟩ a aL aS us),.is (.tup [.str "tell",.str x,.str y]),.raw (ptr aL),.is (.str l.r),.is (.int l.g),.is (.tup (l.cs.map .str)),.is (.tup ((wo l.cs y).map .str))] _ _ _;refine Ap (X1 (i:=0) (Qd rfl (Qf rfl (EJ ?_))))
    walk_at "ww"
    refine EJ (Bu (Gw ⟨_,⟨⟨s.row,s.ln,s.ll.set (s.ln.idxOf x) ⟨l.r,s.row.idxOf y+1,wo l.cs y⟩,s.sn,s.sq⟩,a,_,x,2,rfl,⟨aL,aS,us,BH,rfl⟩,xs,l2,.inr (.inl rfl),rfl⟩,?_⟩));rintro _ J⟨rfl,A,v,G9,E,rfl⟩;refine⟨_,_,rfl,?_⟩;refine EF (i:=0) rfl (Cg (.inl ⟨⟨s.row,s.ln,s.ll.set (s.ln.idxOf x) ⟨l.r,s.row.idxOf y+1,wo l.cs y⟩,s.sn,s.sq.modify (s.sn.idxOf x) Sm.tell⟩,?_,rfl,A,v,G9,E,rfl⟩));show Fw s x y=_;unfold Fw;rw[el];show(if y∈l.cs then _ else none)=_
    rw[tX B]
 |G1 d=>
  have n:∀nx,Ws [.ow true (Bh s a aL aS us),.is (aP d),.raw (ptr aL),.any,.any,.any,.any] (Hy (ES (Bx Sa) [] E0 (An (BW 0) (An (BW 1) BQ)))) nx (.mt (EH (λs t=>DV s a t) s (Fe s (.G1 d)))):=λnx=>OW (i:=0) rfl (Qd rfl (Qf rfl (EJ (A8 rfl (Gw ⟨_,⟨s,a,_,d,rfl,u,ok,q,hn,rfl⟩,λp t' h=>nd h⟩)))));show Ws [.ow true (Bh s a aL aS us),.is (aP d),.raw (ptr aL),.any,.any,.any,.any] _ _ _;cases d with
  |_=>
   unfold aP at n ⊢;dsimp only at n ⊢
   walk_at "ww"
   refine B1 (by decide+kernel) (AZ ?_)
   walk_at "ww"
   refine B1 (by decide+kernel) (AZ ?_)
   walk_at "ww"
   refine B1 (by decide+kernel) (AZ ?_);exact n _
def HI:Ao ["script","rate","pot","most","first","state","log","wrong","k","turn","entry"] ["script","rate"] (AO Yf):=by walk_at "z1"
def uB(F:AE K "_law_log" "_law_log" Yf f fd)(m:mg "_law_log"=some (.ref f)):
  AN P w K mg ZB "_law_log" 6 ["script","rate"] (B6 (XY K)):=by
 refine Fz.hF (k:=5) F (by walk_at "bD2") m HI (by rintro _ _⟨sc,r,rfl,_,_,rfl⟩;rfl) λd=>⟨_,(AA rfl (Au 2 HI.nd (Ac Ld d (A0 (qv 0) (A0 A4 A3))))
   (AA rfl (Au 3 HI.nd (AF AL (BG (A0 A4 (A0 A4 A3))) (Cy RY Ij (A0 (IJ BR (Ac BM d (A0 (qv 2) (A0 A4 A3))) A4) A3))))
   (AA rfl (Au 4 HI.nd (Ac bg d (A0 (qv 2) (A0 (qv 3) A3))))
   (AA rfl (Au 5 HI.nd (ZAu (cA AM (Cy Ms C2 (A0 (qv 4) A3)) (cA AM SJ (cA AM SJ ZE2))) rfl rfl (by simp) (by decide)))
   (AA rfl (Au 6 HI.nd (Er A3))
   (AA rfl (Au 7 HI.nd Iv)
   (AA rfl (D0 (KQ LU rfl (sY rfl Mg (A0 A4 (A0 (Ar (xx rfl) WB (A0 A4 (A0 (Ar (ZEL rfl) aT (A0 (Ar Bo Aj (A0 (qv 0) A3)) (A0 A4 A3))) A3))) A3))) (D3 8 HI.nd) (AA rfl (Au 2 HI.nd (Ac Ld d (A0 (qv 0) (A0 (qv 8) A3))))
   (AB rfl (KQ LU rfl (gf rfl Mg (A0 (Az DO A4 (Ac BM d (A0 (qv 2) (A0 (AF AL (BG (A0 A4 (A0 A4 A3))) (Cy RY Ij (A0 (IJ ML (qv 3) A4) A3))) A3)))) A3)) (D3 9 HI.nd) (AA rfl (Au 10 HI.nd (Ac X7 d (A0 (qv 2) (A0 (qv 5) (A0 (qv 3) A3)))))
   (AA rfl (D0 (Ah (Hr (AR ML (qv 1) A4) (HV (AR BR (Ac BM d (A0 (qv 2) (A0 (qv 1) A3))) A4))).pt (AB rfl (Au 10 HI.nd (Ac X3 d (A0 (qv 2) (A0 (qv 5) A3))))) Al))
   (AA rfl (EZ (Jw Mq ZIb ZIe iP (qv 6) (A0 (qv 10) A3)))
   (AB rfl (Ah (Hr (Ek (GF (Ac XC d (A0 (qv 5) (A0 (qv 10) A3))))) (HV (AR nJ (qv 7) Iv))).pt (AB rfl (Au 7 HI.nd (Az Nu (Ar Bo Aj (A0 (qv 6) A3)) A4))) Al))))))))))
   (AB rfl (AQ (BG (A0 (qv 4) (A0 (qv 6) (A0 (qv 7) (A0 (qv 5) A3)))))))))))))),?_⟩
 rintro _ _⟨sc,rt,rfl,Rk,G,rfl⟩;show Ws [_,_,.any,.any,.any,.any,.any,.any,.any,.any,.any] _ _ _
 walk_at "ww"
 refine⟨by decide,by decide,?_⟩
 walk_at "ww"
 refine⟨by decide,_,.inr ⟨rfl,rfl,?_⟩⟩
 walk_at "ww"
 refine⟨by decide,by decide,λr U T=>?_⟩
 walk_at "ww"
 obtain⟨m,M,W⟩:∃m:Nat,L2.Bt [PV.int 9,.int 40] (if alike (PV.int r) (.int 0)=true then 1 else 0)=some (.int m)/\(m=9∨m=40):=by
  split
  .exact⟨40,rfl,.inr rfl⟩
  .exact⟨9,rfl,.inl rfl⟩
 refine⟨_,_,rfl,M,?_⟩
 walk_at "ww"
 refine⟨by omega,by omega,λns Rl J nd=>?_⟩;have d:Gk 40 ns:=⟨by omega,J,nd⟩;refine V2 4 rfl ?_;show Ws [.raw (E8 K sc),.is (.int rt),.AS,.is (.int m),.is (.lst (ns.map .str)),.any,.any,.any,.any,.any,.any] _ _ _;refine Ap (Ul (rW (by decide+kernel) (LW (E7 (D7 (UH rfl (Rw rfl (LW (UX λaL=>LW (UX λaS=>iA ⟨by simp,by simp,by simp,rfl,λa=>?_⟩))))))))));show Ws [.raw (E8 K sc),.is (.int rt),.AS,.is (.int m),.is (.lst (ns.map .str)),.ow false (Bh (D4 ns) a aL aS []),.any,.any,.any,.any,.any] _ _ _
 walk_at "ww"
 refine⟨by decide,?_⟩
 walk_at "ww"
 refine MH (λ_ i AI=>kr K sc rt m ns a i AI) ?_
 walk_at "ww"
 obtain⟨n,L,H⟩:=xh (b:=7) (c:=36) (n:=sc.length) (by decide) (by decide) (by omega);rw[L];refine⟨by omega,⟨_,[],D4 ns,_,_,_,_,_,rfl,⟨aL,aS,[],R2.nil,rfl⟩,Ht.nil d,Ct _⟩,?_,?_⟩
 .rintro i p AI x⟨E,es,s,w,t,s2,u,IY,rfl,o,g,l⟩;obtain⟨hi,rfl⟩:=qW x;refine NF ?_;have N:i<36:=by omega
  walk_at "ww"
  refine⟨by omega,by omega,?_⟩;refine MH (λ_ j AI=>oA K sc rt m ns a i j AI) ?_
  walk_at "ww"
  refine⟨by decide,_,.inr ⟨rfl,rfl,?_⟩⟩
  walk_at "ww"
  obtain⟨q,eq,V⟩:∃q:Nat,L2.Bt [PV.int 3,.int 1] (if decide ((9:Int)<m)=true then 1 else 0)=some (.int q)/\(q=3∨q=1):=by
   split
   .exact⟨1,rfl,.inr rfl⟩
   .exact⟨3,rfl,.inl rfl⟩
  refine⟨_,_,rfl,eq,_,rfl,by omega,by omega,λz D O=>?_⟩;obtain⟨z,rfl⟩:=DB D;refine⟨_,rfl,_,rfl,by omega,by omega,⟨es,s,w,t,u,IY,rfl,o,g,l⟩,?_,?_⟩
  .rintro j p AI x⟨es,s,w,t,u,IY,rfl,o,g,l⟩;obtain⟨X,rfl⟩:=ZHK x;refine NF ?_;obtain⟨aL,aS,us,BH,rfl⟩:=id o;have ok:=g.ok;have sl:=g.len;have I:j<3:=by omega
   show Ws [.raw (E8 K sc),.is (.int rt),.AS,.is (.int m),.is (.lst (ns.map .str)),.ow false (Bh s a aL aS us),.own (es.map LE.P),.is w,.is (.int (1+(i:Int))),.is (.int j),IY] _ _ _;refine Ap (FO (gO 5 rfl (QN rfl (Am (A8 rfl (Am (A8 rfl (BS ⟨_,⟨s,m,vB (λp=>[Slot.AS,.is p,.is (.int m)]) (cG BH),ok,by omega,by omega,rfl⟩,?_⟩))))))));rintro _⟨e,rfl,h⟩;refine⟨fY e,?_⟩;refine Xf (λAI=>∃e:LE,e.say/\AI=[.raw (E8 K sc),.is (.int rt),.AS,.is (.int m),.is (.lst (ns.map .str)),.ow false (Bh s a aL aS us),.own (es.map LE.P),.is w,.is (.int (1+(i:Int))),.is (.int j),.is e.P]) ?_ ?_
   .show Ws [.raw (E8 K sc),.is (.int rt),.AS,.is (.int m),.is (.lst (ns.map .str)),.ow false (Bh s a aL aS us),.own (es.map LE.P),.is w,.is (.int (1+(i:Int))),.is (.int j),.is e.P] _ _ _
    walk_at "ww"
    refine Af (λc=>?_) (λc=>CT (AZ ⟨e,h,rfl⟩));have c0:=sE c
    walk_at "ww"
    refine⟨by omega,by omega,λy R Q=>?_⟩
    walk_at "ww"
    refine Af (λc=>?_) (λc=>AZ ⟨e,h,rfl⟩);refine FO (gO 5 rfl (QN rfl (Am (A8 rfl (BS ⟨_,⟨s,vB (λp=>[Slot.AS,.is p]) (cG BH),ok,by omega,rfl⟩,?_⟩)))));rintro _⟨C,rfl,v⟩;exact⟨fY C,⟨C,v,rfl⟩⟩
   clear h e;rintro _⟨e,h,rfl⟩
   walk_at "ww"
   refine⟨by rw[AK];omega,?_⟩;refine vi (i:=5) (fv (lW (Qd rfl (Qf rfl (EJ (A8 rfl (Gw ⟨_,⟨s,a,_,e,rfl,o,ok,h,by omega,rfl⟩,?_⟩)))))));have el:es.map LE.P++[e.P]=(es++[e]).map LE.P:=by rw[Ec];rfl
   have ll:(es++[e]).length=es.length+1:=by rw[CP];rfl
   rintro _ S(⟨s2,A,rfl,Cj⟩|⟨A,rfl,Cj⟩)
   .obtain⟨nk,G9,rfl⟩:=Cj.nd;exact⟨nk,G9,rfl,true,rfl,CT (AZ ⟨es++[e],s2,w,_,.is (.int j),.is e.P,by rw[<- el];rfl,Cj,g.Fe A h,by omega⟩)⟩
   .obtain⟨nk,G9,rfl⟩:=Cj.nd;refine⟨nk,G9,rfl,false,rfl,Bj rfl ?_⟩;have B:=g.bad A h;rw[el];refine Bg (C9 (gs (A8 rfl (Jp ⟨rfl,_,rfl,?_⟩))));rcases g.fst with⟨rfl,_⟩|⟨i0,rfl,_⟩
    .refine Bj rfl ?_
     walk_at "ww"
     rw[AK,ll];refine⟨es++[e],s,.int es.length,_,.is (.int j),.is e.P,?_,Cj,B,by omega⟩;rw[show((es.length+1:Nat):Int) - 1=(es.length:Int) by omega];rfl
    .exact B1 (by simp[KZ]) (AZ ⟨es++[e],s,_,_,.is (.int j),.is e.P,rfl,Cj,B,by omega⟩)
  .rintro AI⟨es,s,w,t,u,IY,rfl,o,g,l⟩;rw[Pl,show((1:Int)+(z:Nat)).toNat=1+z by omega]at l;exact⟨_,es,s,w,t,_,_,_,rfl,o,g,by omega⟩
 .rintro AI⟨E,es,s,w,t,s2,u,IY,rfl,⟨aL,aS,us,BH,rfl⟩,g,l⟩;rw[QK]at l;refine fb 5 rfl ?_;refine V2 6 rfl ?_;rw[cG BH]
  walk_at "ww"
  exact⟨by show 4<=100000;decide,ns,es,w,s,rfl,d,by omega,g⟩
def vN:Ao ["self","row"] ["self","row"] (AO aA):=by walk_at "z1"
def gD:∀ss R,(V5 A7 AJ) ss R->ss.length=2:=by rintro _ _⟨a,dx,tp,ns,rfl,rfl⟩;rfl
def vg(F:AE K "__init__" "Course.__init__" aA f fd)(c:Mk K A7 f):
  QD P w K mg ZB A7 2 ["self","row"] (Bx (V5 A7 AJ)):=by
 refine⟨f,fd,F.E4 (k:=1) vN (λvs H Q E h=>Fz.Qs gD h) (λAi A outer s H vs Q E e h=>?_),(F.binds (by walk_at "bD2")),c⟩
 refine⟨_,(AA rfl (LH (qv 0) (Cy Ms C2 (A0 (qv 1) A3)))
   (AA rfl (LH (qv 0) SJ)
   (AB rfl (LH (qv 0) SJ)))),?_⟩
 refine Fz.UP h gD ?_;rintro _ _⟨a,dx,tp,ns,rfl,rfl⟩;show Ws [_,_] _ _ _;cases tp
 case' false=>refine Ap (Jg (i:=0) (E7 (D7 (UH rfl (BP (A8 rfl ⟨_,.inl ⟨rfl,DK rfl ⟨true,A7,dx,_,a,_,rfl,rfl,BC,Dk,by decide,BA,?_⟩⟩⟩))))))
 case' true=>refine Ap (Jg (i:=0) (E7 (D7 (UH rfl (BP (A8 rfl ⟨_,.inr ⟨rfl,DK rfl ⟨true,A7,dx,_,a,_,rfl,rfl,BC,Dk,by decide,BA,?_⟩⟩⟩))))))
 all_goals
  rw[OV.GQ];show Ws [.ow true (.nd (.obj A7 dx ["standing"]) a [.fz (.lst (ns.map .str))]),_] _ _ _;refine Ap (Jg (i:=0) (UX λb=>DK rfl ⟨true,A7,dx,_,a,_,rfl,rfl,BC,Cc,by decide,BA,?_⟩));rw[OV.GQ];show Ws [.ow true (.nd (.obj A7 dx ["standing","running"]) a [.fz (.lst (ns.map .str)),.nd (.B2 []) b []]),_] _ _ _;refine Jg (i:=0) (UX λd=>DK rfl ⟨true,A7,dx,_,a,_,rfl,rfl,BC,EI,by decide,BA,?_⟩);rw[OV.GQ];exact⟨_,_,_,_,rfl,rfl,rfl,b,d,rfl⟩
def ZFa:Ao ["self","stood"] ["self","stood"] (AO Yw):=by walk_at "z1"
def gu:∀ss R,(UO AJ) ss R->ss.length=2:=by rintro _ _⟨a,dx,n,rfl,rfl⟩;rfl
def ZHN(F:AE K "__init__" "Tally.__init__" Yw f fd)(b:Mk K AJ f):
  QD P w K mg ZB AJ 1 ["self","stood"] (Bx (UO AJ)):=by
 refine⟨f,fd,F.E4 (k:=0) ZFa (λvs H Q E h=>Fz.Qs gu h) (λAi A outer s H vs Q E c h=>?_),(F.binds (by walk_at "bD2")),b⟩
 refine⟨_,(AA rfl (LH (qv 0) (qv 1))
   (AA rfl (LH (qv 0) A4)
   (AA rfl (LH (qv 0) A4)
   (AB rfl (LH (qv 0) A4))))),?_⟩
 refine Fz.UP h gu ?_;rintro _ _⟨a,dx,n,rfl,rfl⟩;show Ws [_,_] _ _ _;refine Ap (Jg (i:=0) (E7 (A8 rfl (DK rfl ⟨true,AJ,dx,_,a,_,rfl,rfl,EA,NI,by decide,BA,?_⟩))));rw[OV.GQ];show Ws [.ow true (.nd (.obj AJ dx ["stood"]) a [.fz (.int n)]),.is (.int n)] _ _ _;refine Ap (Jg (i:=0) (E7 (Bu (DK rfl ⟨true,AJ,dx,_,a,_,rfl,rfl,EA,Jj,by decide,BA,?_⟩))));rw[OV.GQ];show Ws [.ow true (.nd (.obj AJ dx ["stood","joined"]) a [.fz (.int n),.fz (.int 0)]),.is (.int n)] _ _ _;refine Ap (Jg (i:=0) (E7 (Bu (DK rfl ⟨true,AJ,dx,_,a,_,rfl,rfl,EA,K7,by decide,BA,?_⟩))));rw[OV.GQ];show Ws [.ow true (.nd (.obj AJ dx ["stood","joined","told"]) a [.fz (.int n),.fz (.int 0),.fz (.int 0)]),.is (.int n)] _ _ _;refine Jg (i:=0) (E7 (Bu (DK rfl ⟨true,AJ,dx,_,a,_,rfl,rfl,EA,Ja,by decide,BA,?_⟩)));rw[OV.GQ];exact⟨_,_,_,_,rfl,rfl,rfl,rfl⟩
def yt:Ao ["rule"] ["rule"] (AO WK):=by walk_at "z1"
def ZBX(F:AE K "check_rule" "check_rule" WK f fd)(m:mg "check_rule"=some (.ref f)):
  C8 P w K mg ZB "check_rule" 3 ["rule"] (C6 (nU C4)):=by
 refine Fz.hX (k:=2) F (by walk_at "bD1") m yt (by rintro _ _ _⟨r,rfl,_,rfl,rfl⟩;rfl) λE b=>⟨_,(AB rfl (Ah (AR M4 (qv 0) (DX (v:=.ref HH) (by rfl) O9 rfl)) (AB rfl (JI XW (by rfl) NH b (by decide) rfl rfl Dw (A0 (qv 0) A3))) Al)),?_⟩
 rintro _ _ _⟨r,rfl,a,rfl,rfl⟩;intro i;have C:Kb K HH ([("none":Str), "ahead","all"].map .str):=Kb.of N2 rfl rfl;show Ws [_] _ _ _;refine Bg (C9 (dJ (neg:=true) C (A8 rfl ⟨r,rfl,_,rfl,?_⟩)));refine Af (λc=>?_) (λc=>?_)
 .refine GC (A8 rfl ⟨a,trivial,rfl,?_⟩);unfold J0
  simpa using c
 .refine AZ ⟨_,rfl,rfl,?_⟩;show decide (r∈([("none":Str), "ahead","all"]))=true;cases e:decide (r∈([("none":Str), "ahead","all"]))with
  |true=>rfl
  |false=>exact absurd (by rw[e];rfl) c
def ZCF:Ao ["row","rule"] ["row","rule"] (AO c5):=by walk_at "z1"
def ZES(F:AE K "begun" "begun" c5 f fd)(m:mg "begun"=some (.ref f)):
  C8 P w K mg ZB "begun" 4 ["row","rule"] (C6 (mT C4)):=by
 refine Fz.hX (k:=3) F (by walk_at "bD2") m ZCF (by rintro _ _ _⟨tp,ns,r,rfl,_,_,rfl,rfl⟩;rfl) λE c=>⟨_,(AA rfl (EZ (FD WM c (by decide) Dw rfl (A0 (qv 1) A3)))
   (AB rfl (AQ (BG (A0 (qv 1) (A0 A4 (A0 (Cy Ki DS (A0 (Ar SO FQ (A0 (qv 0) A3)) A3)) A3))))))),?_⟩
 rintro _ _ _⟨tp,ns,r,rfl,e,b,rfl,rfl⟩;intro i;show Ws [_,_] _ _ _;refine Ap (Jb (Gj (Am (A8 rfl (BS ⟨_,_,⟨r,rfl,b,rfl,rfl⟩,trivial,λx h=>h,?_⟩)))));rintro _⟨rfl,d⟩
 walk_at "ww"
 refine⟨e,λts a st=>?_⟩
 walk_at "ww"
 exact⟨by simp,d,ts,a,st,rfl⟩
def ZBb:Ao ["text"] ["text"] (AO T6):=by walk_at "z1"
def uC:=Sb [(".0",.local),("sign",.local),("LETTERS",.globalImplicit)]
def yg:Fj ["text"] (AO T6) uC "sign" [] []:=by walk_at "z2"
def xr(F:AE K "is_name" "is_name" T6 f fd)(m:mg "is_name"=some (.ref f)):
  AN P w K mg ZB "is_name" 1 ["text"] (MS):=by
 refine AN.mk F (F.binds (by walk_at "bD1")) m (F.E4 (k:=0) ZBb (λvs H Q E h=>?_) (λAi A outer s H vs Q E d h=>?_))
 .obtain⟨x,rfl,hx,q⟩:=h;rfl
 obtain⟨x,rfl,hx,q⟩:=h;refine⟨_,(AB rfl (AQ (NQ (O7 Eb Eb A4 (Ar Yt Aj (A0 (qv 0) A3)) (DX (v:=.int 8) (by rfl) bV ⟨_,rfl⟩)) (LK (Ar (gr rfl) Nc (A0 (KU rfl yg (o4 (qv 0)) (λ_ _ _ _=>by exact kl) (λ_ _ _ _=>by exact(IJ gm (qv 0) (DX (v:=.str "abcdefghijklmnopqrstuvwxyz") (by rfl) YR ⟨_,rfl⟩)))) A3)))))),?_⟩;refine⟨_,rfl,_,rfl,small (by omega),_,_,rfl,rfl,_,rfl,?_⟩;refine Af (λc=>?_) (λc=>⟨_,rfl,CT ?_⟩)
 .refine⟨_,_,rfl,rfl,_,rfl,?_⟩;refine Af (λc2=>?_) (λc2=>?_)
  .refine⟨_,rfl,x,rfl,λacc BJ=>dk (λ_=>true) Z6 BJ (by rw[<- Mj,<- Ib];exact small (by omega)) (λi v H' Q' _ _ h=>h H' (AD.refl _)) (λi v H' Q' b _ _ h=>?_) (λH' s1 a=>?_)⟩
   .obtain⟨g,rfl⟩:=signs_get b;exact⟨_,rfl,_,_,rfl,rfl,h H' (AD.refl _)⟩
   .rw[dR]at a;refine⟨acc,_,rfl,Ab.of a,?_⟩;rw[all_map];have e:isNm x=x.cps.toList.all Lu:=by unfold isNm;rw[c,c2];rfl
    rw[<- e];exact q H' s1
  .have e:isNm x=false:=by unfold isNm;rw[Bool.eq_false_iff.mpr c2];simp
   rw[<- e];exact q H (AD.refl _)
 .have e:isNm x=false:=by unfold isNm;rw[Bool.eq_false_iff.mpr c];simp
  rw[<- e];exact q H (AD.refl _)
def ZHl:Ao ["self","loop","rule"] ["self","loop","rule"] (AO Yz):=by walk_at "z1"
def ZGd(F:AE K "follows_begin" "Course.follows_begin" Yz f fd)(p:Meth K A7 "follows_begin" f):
  Dz P w K mg ZB A7 "follows_begin" 6 ["self","loop","rule"] (Bx (av A7 AJ)):=by
 refine⟨f,fd,Fz.NG (k:=5) F ZHl (by rintro _ _⟨s,a,t,x,r,rfl,_,_,_,_,_,rfl⟩;rfl) λd=>⟨_,(AA rfl (Ah (Dy (Ek (GF (Ac Np d (A0 (qv 1) A3)))) (Dy (mZ (BF d) (qv 1) (Cf (qv 0))) (G2 (AR M4 (qv 2) (DX (v:=.ref HH) (by rfl) O9 rfl))))).pt (AB rfl (AQ Cu)) Al)
   (AA rfl (JZ (BF d) (Cf (qv 0)) (qv 1) (FD ae d (by decide) TK rfl (A0 (Cf (qv 0)) (A0 (qv 2) A3))))
   (AA rfl (JZ (BF d) (Cf (qv 0)) (qv 1) (kq Vb d (by decide) bz (A0 (Ar Bo Aj (A0 (Cf (qv 0)) A3)) A3)))
   (AB rfl (AQ Cu))))),?_⟩,(F.binds (by walk_at "bD3")),p,BC⟩
 rintro _ _⟨s,a,t,x,r,rfl,q,ok,hx,d,hn,rfl⟩;obtain⟨dx,aL,aS,us,BH,rfl⟩:=q;have C:Kb K HH ([("none":Str), "ahead","all"].map .str):=Kb.of N2 rfl rfl;show Ws [_,_,_] _ _ _;have l:∀nx:List Slot->Prop,¬ (isNm x=true/\x∉s.sn/\J0 r=true)->Ws [.ow true (Bk s A7 a dx aL aS us),.is (.str x),.is (.str r)] (Hy (tC (V.bl false))) nx (.mt (EH (λs t=>DE s A7 AJ a t) s (Ga s x r))):=λnx h=>EF (i:=0) rfl (Cg (.inr ⟨by unfold Ga;rw[qg h],rfl,dx,aL,aS,us,BH,rfl⟩));refine Ap (Bg (Fx (FE (Dv (TN (A8 rfl ⟨x,rfl,hx.2,_,rfl,?_⟩))))));refine Af (λc=>l _ λz=>by rw[z.1]at c;cases c) (λc=>?_);refine Fx (Dv (j6 (A8 rfl (Qz rfl BC EI ⟨Ae s.sn,aS,us,.inr x,rfl,rfl,_,rfl,?_⟩))));rw[K5];refine Af (λc2=>l _ λz=>z.2.1 (sE c2)) (λc2=>?_);refine C9 (dJ (neg:=true) C (A8 rfl ⟨r,rfl,_,rfl,?_⟩));refine Af (λj=>l _ λz=>?_) (λj=>AZ ?_)
 .have g:decide (r∈([("none":Str), "ahead","all"]))=true:=z.2.2;rw[g]at j;cases j
 have h1:isNm x=true:=by cases e:isNm x with
  |true=>rfl
  |false=>exact absurd (by rw[e];rfl) c
 have h2:x∉s.sn:=λz=>c2 (pX z);have g:J0 r=true:=by
  show decide (r∈([("none":Str), "ahead","all"]))=true;cases e:decide (r∈([("none":Str), "ahead","all"]))with
  |true=>rfl
  |false=>exact absurd (by rw[e];rfl) j
 have n:x∉s.ln:=λz=>h2 (ok.sub x z);refine Ap (Jz (i:=0) (t:=Bk s A7 a dx aL aS us) (E7 (Gj (Dp (BP (DL (Pm rfl BC Dk ⟨_,rfl,_,.inl ⟨rfl,Am (A8 rfl (BS ⟨_,_,⟨false,s.row,r,rfl,by have:=ok.row.len;omega,d.1,rfl,rfl⟩,trivial,λe m=>(by rw[g]at m;cases m.2),?_⟩))⟩⟩)))))));rintro _⟨_,ts,o,st,rfl⟩;rw[fO ok.row.nd o st];have l1:=ok.l1;have l2:=ok.l2;have y:=JE ok.n1 ok.sub;refine(Kn rfl BC Cc ⟨true,aL,Ae s.ln,_,rfl,rfl,by unfold CI;rw[AK];omega,JB ok.n1,BA,A8 rfl ⟨.inr x,rfl,?_⟩⟩);rw[Qm n,Su n];unfold Bk;rw[show([]++[1]:List Nat)=[1]from rfl,LF];have u:CI s.ll++[.fz (.tup [.str r,.int 0,.tup ((Gy s.row).map .str)])]=CI (s.ll++[⟨r,0,Gy s.row⟩]):=by unfold CI;rw[Ec];rfl
 rw[u];show Ws [.ow true (Bk ⟨s.row,s.ln++[x],s.ll++[⟨r,0,Gy s.row⟩],s.sn,s.sq⟩ A7 a dx aL aS us),.is (.str x),.is (.str r)] _ _ _;refine Ap (Jz (i:=0) (t:=Bk ⟨s.row,s.ln++[x],s.ll++[⟨r,0,Gy s.row⟩],s.sn,s.sq⟩ A7 a dx aL aS us) (eI (EJ (D5 (BP (DL (Pm rfl BC Dk ⟨_,rfl,_,.inl ⟨rfl,Gw λb e=>⟨_,⟨b,e,s.row.length,by rw[AK],rfl⟩,?_⟩⟩⟩)))))));rintro _ _⟨rfl,rfl⟩;refine⟨rfl,_,_,rfl,?_⟩;refine(Qz rfl BC EI ⟨true,aS,Ae s.sn,us,rfl,rfl,by rw[BH.1];omega,JB ok.n2,BA,A8 rfl ⟨.inr x,rfl,?_⟩⟩);rw[Qm h2,Su h2];unfold Bk;rw[show([]++[2]:List Nat)=[2]from rfl,put2];exact EF (i:=0) rfl (Cg (.inl ⟨_,by unfold Ga;rw[tX ⟨h1,h2,g⟩],rfl,dx,aL,aS,_,BH.snoc ⟨e,b,rfl⟩,rfl⟩))
def u9:Ao ["self","loop"] ["self","loop"] (AO WW):=by walk_at "z1"
def qV(F:AE K "coming" "Course.coming" WW f fd)(b:Meth K A7 "coming" f):
  Dz P w K mg ZB A7 "coming" 2 ["self","loop"] (B6 (Lm A7)):=by
 refine⟨f,fd,Fz.ZT (k:=1) F u9 (by rintro _ _⟨s,xs,x,rfl,_,rfl⟩;rfl) λa=>⟨_,(AA rfl (Ah (Ot (BF a) (qv 1) (Cf (qv 0))) (AB rfl (AQ (BG A3))) Al)
   (AB rfl (AQ (AF AL (Bn (BF a) (Cf (qv 0)) (qv 1) (λ_ _=>rfl)) A4)))),?_⟩,(F.binds (by walk_at "bD2")),b,BC⟩
 rintro _ _⟨s,xs,x,rfl,d,rfl⟩;show Ws [_,_] _ _ _;refine Ap (Bg (Dv (ZGO (A8 rfl (Jk (A8 rfl ⟨A7,GR,_,1,_,rfl,BC,Cc,by decide+kernel,rfl,Ae s.ln,_,.inr x,rfl,rfl,_,rfl,?_⟩))))));rw[K5];refine Af (λc=>?_) (λc=>AZ ?_)
 .refine Bw (Gh (Cw ⟨by simp,?_⟩));have nx:x∉s.ln:=λz=>by rw[pX z]at c;cases c
  unfold EE;rw[cY nx,d,LQ (B4 _)];rfl
 .have hx:x∈s.ln:=K8 λz=>c (by rw[uK z];rfl);have hi:=List.idxOf_lt_length_iff.mpr hx;obtain⟨l,el⟩:∃l,s.ll[s.ln.idxOf x]?=some l:=⟨_,BK (by omega)⟩;refine Bw (Fm (BP (GU (Jk (A8 rfl ⟨A7,GR,_,1,_,rfl,BC,Cc,by decide+kernel,rfl,Ae s.ln,_,rfl,A8 rfl ⟨.inr x,l.P,rfl,Sd hx (by rw[Bb,el];rfl),_,.inr ⟨rfl,rfl,Bu ⟨_,_,rfl,rfl,?_⟩⟩⟩⟩)))));unfold EE;rw[el]
def ZHW:Ao ["coming","gone"] ["coming","gone"] (AO Rx):=by walk_at "z1"
def zB:=Sb [(".0",.local),("name",.local),("gone",.free)]
def ZAm:Fj ["coming","gone"] (AO Rx) zB "name" ["gone"] [1]:=by walk_at "z2"
def ZEP(F:AE K "coming_without" "coming_without" Rx f fd)(m:mg "coming_without"=some (.ref f)):
  AN P w K mg ZB "coming_without" 1 ["coming","gone"] (B6 WC):=by
 refine Fz.hF (k:=0) F (by walk_at "bD2") m ZHW (by rintro _ _⟨cs,x,rfl,_,rfl⟩;rfl) λc=>⟨_,(AB rfl (AQ (Cy Ki DS (A0 (KU rfl ZAm (IK (qv 0)) (λ_ _ _ _=>by exact(LZ (AR Js (qv 1) (qv 0)))) (λ_ _ _ _=>by exact(qv 1))) A3)))),?_⟩
 rintro _ _⟨cs,x,rfl,b,rfl⟩;show Ws [_,_] _ _ _;refine Bw (S8 rfl (BP (D7 (ZV PV.str (λy=>!alike (.str y) (.str x)) PV.str ?_ str_inj))))
 walk_at "ww"
 refine⟨by omega,λy a=>by walk_at "ww"; rfl,λy a _=>by walk_at "ww"; rfl,?_⟩
 rw[gF];exact⟨_,.inl ⟨rfl,rfl⟩⟩
def vh:Ao ["row","name"] ["row","name"] (AO aX):=by walk_at "z1"
def ub(F:AE K "place_of" "place_of" aX f fd)(m:mg "place_of"=some (.ref f)):
  C8 P w K mg ZB "place_of" 3 ["row","name"] (C6 (Qa AV)):=by
 refine Fz.hX (k:=2) F (by walk_at "bD2") m vh (by rintro _ _ _⟨tp,ns,x,rfl,_,rfl,rfl⟩;rfl) λE b=>⟨_,(AA rfl (Ah (AR M4 (qv 1) (qv 0)) (AB rfl (JI OM (by rfl) K3 b (by decide) rfl rfl Dw (A0 (qv 1) A3))) Al)
   (AB rfl (AQ (ZDT (Jw Mq VO d6 UT (qv 0) (A0 (qv 1) A3)) (Jw PySem.F.plainAttrs_tuple ZId PySem.F.type_tuple_index ZFt (qv 0) (A0 (qv 1) A3)))))),?_⟩
 rintro _ _ _⟨tp,ns,x,rfl,a,rfl,rfl⟩;intro i;show Ws [_,_] _ _ _
 walk_at "ww"
 refine Af (λc=>?_) (λc=>?_)
 .refine GC (A8 rfl ⟨a.1,trivial,?_,rfl⟩);intro h;rw[pX h]at c;cases c
 .have hx:x∈ns:=by
   cases e:decide (x∈ns)with
   |true=>exact sE e
   |false=>exact absurd (by rw[e];rfl) c
  refine AZ ?_;cases tp with
  |false=>
   refine Bw (ZFJ (VW ?_))
   walk_at "ww"
   exact⟨hx,hx,rfl⟩
  |true=>
   refine Bw (ZD9 (vy ?_))
   walk_at "ww"
   exact⟨hx,hx,rfl⟩
def ZB4:Ao ["row","loop","name"] ["row","loop","name"] (AO Xe):=by walk_at "z1"
def ZEc(F:AE K "loop_telling" "loop_telling" Xe f fd)(m:mg "loop_telling"=some (.ref f)):
  AN P w K mg ZB "loop_telling" 4 ["row","loop","name"] (B6 gi):=by
 refine Fz.hF (k:=3) F (by walk_at "bD3") m ZB4 (by rintro _ _⟨tp,ns,r,g,cs,x,rfl,_,_,_,rfl⟩;rfl) λa=>⟨_,(AB rfl (AQ (BG (A0 (AF AL (qv 1) A4) (A0 (Az DO (FD Gx a (by decide) TK rfl (A0 (qv 0) (A0 (qv 2) A3))) A4) (A0 (Ac Nx a (A0 (AF AL (qv 1) A4) (A0 (qv 2) A3))) A3)))))),?_⟩
 rintro _ _⟨tp,ns,r,g,cs,x,rfl,c,b,hx,rfl⟩;unfold NA;show Ws [_,_,_] _ _ _
 walk_at "ww"
 refine Gj ?_;refine Dp (Fg rfl (Am (A8 rfl (BS ⟨_,_,⟨tp,ns,x,rfl,b,rfl,rfl⟩,trivial,λe h=>absurd hx h.1,?_⟩))));rintro _⟨_,rfl⟩
 walk_at "ww"
 refine wp_call (Am ?_)
 walk_at "ww"
 refine Am (A8 rfl (BS ⟨_,⟨cs,x,rfl,c,rfl⟩,?_⟩));rintro _ rfl
 walk_at "ww"
 exact⟨by simp,rfl⟩
def lM:Ao ["self","loop","name","tally"] ["self","loop","name"] (AO YQ):=by walk_at "z1"
def uc(F:AE K "follows_tell" "Course.follows_tell" YQ f fd)(C:Meth K A7 "follows_tell" f):
  Dz P w K mg ZB A7 "follows_tell" 6 ["self","loop","name"] (Bx (Yu A7 AJ)):=by
 refine⟨f,fd,Fz.NG (k:=5) F lM (by rintro _ _⟨s,a,t,x,y,rfl,_,_,_,rfl⟩;rfl) λm=>⟨_,(AA rfl (Ah (AR M4 (qv 2) (Gr GL m (by decide) (qv 0) (A0 (qv 1) A3))) (AB rfl (AQ Cu)) Al)
   (AA rfl (JZ (BF m) (Cf (qv 0)) (qv 1) (Ac bb m (A0 (Cf (qv 0)) (A0 (Bn (BF m) (Cf (qv 0)) (qv 1) (λ_ _=>rfl)) (A0 (qv 2) A3)))))
   (AA rfl (Au 3 lM.nd (Bn (BF m) (Cf (qv 0)) (qv 1) (λ_ _=>rfl)))
   (AA rfl (Vs (qv 3) A4 XI)
   (AB rfl (AQ Cu)))))),?_⟩,(F.binds (by walk_at "bD3")),C,BC⟩
 rintro _ _⟨s,a,t,x,y,rfl,D,ok,hn,rfl⟩;obtain⟨dx,aL,aS,us,BH,rfl⟩:=D;show Ws [_,_,_,.any] _ _ _;have l1:=ok.l1;have l2:=ok.l2;have I:=JE ok.n1 ok.sub;have E:(EE s x).length<=1000:=by
  unfold EE;split
  .next l e=>have:=(ok.good l (EL e)).len;have:=ok.row.len;omega
  .exact Ct _
 refine Ap (Bg (C9 (bG (A8 rfl ⟨y,rfl,(Jf rfl rfl l1 ⟨_,rfl,?_⟩)⟩))));refine⟨_,rfl,?_⟩;have B:y∉EE s x->Fw s x y=none:=λh=>by
  unfold Fw;unfold EE at h;split
  .next l e=>rw[e]at h;rw[qg h]
  .rfl
 refine Af (λc=>?_) (λc=>AZ ?_)
 .refine EF (i:=0) rfl (Cg (.inr ⟨B (λz=>(by rw[pX z]at c;cases c)),rfl,dx,aL,aS,us,BH,rfl⟩))
 .have d:y∈EE s x:=K8 λz=>c (by rw[uK z];rfl);obtain⟨l,el⟩:∃l,s.ll[s.ln.idxOf x]?=some l:=by
   unfold EE at d;split at d
   .next l e=>exact⟨l,e⟩
   .cases d
  have c1:EE s x=l.cs:=by unfold EE;rw[el]
  rw[c1]at d;have n:x∈s.ln:=ZDS l1 el;have xs:x∈s.sn:=ok.sub x n;have A:=ok.good l (EL el);have v:y∈s.row:=A.sub y d;have L:=ok.row.len;have J:=A.len;refine Ap (Jz (i:=0) (t:=Bk s A7 a dx aL aS us) (E7 (wp_call (Dp (BP (DL (Pm rfl BC Dk ⟨_,rfl,_,.inl ⟨rfl,?_⟩⟩)))))));refine Am (DL (HA (Kn rfl BC Cc ⟨Ae s.ln,aL,_,rfl,A8 rfl ⟨.inr x,s.ln.idxOf x,.fz l.P,rfl,G8 n,OG el,_,rfl,?_⟩⟩)));refine Am (A8 rfl (BS ⟨_,⟨false,s.row,l.r,l.g,l.cs,y,rfl,by omega,Hd (ok.row.nm y v),v,rfl⟩,?_⟩));rintro _ rfl;refine(Kn rfl BC Cc ⟨true,aL,Ae s.ln,_,rfl,rfl,by unfold CI;rw[AK];omega,JB ok.n1,BA,A8 rfl ⟨.inr x,rfl,?_⟩⟩);rw[Rh n,Tr n];unfold Bk;rw[show([]++[1]:List Nat)=[1]from rfl,LF];have G:(CI s.ll).set (s.ln.idxOf x) (.fz (Ey l.r (s.row.idxOf y+1) (wo l.cs y)))=CI (s.ll.set (s.ln.idxOf x) ⟨l.r,s.row.idxOf y+1,wo l.cs y⟩):=Us _ _ ⟨l.r,s.row.idxOf y+1,wo l.cs y⟩;rw[G];obtain⟨q,eq⟩:∃q,s.sq[s.sn.idxOf x]?=some q:=⟨_,BK (by have:=List.idxOf_lt_length_iff.mpr xs;omega)⟩;obtain⟨u,o,e,b,rfl⟩:=BH.get eq;show Ws [.ow true (Bk ⟨s.row,s.ln,s.ll.set (s.ln.idxOf x) ⟨l.r,s.row.idxOf y+1,wo l.cs y⟩,s.sn,s.sq⟩ A7 a dx aL aS us),.is (.str x),.is (.str y),.any] _ _ _;refine Ap (Zl (i:=0) (HA (Qz rfl BC EI ⟨Ae s.sn,aS,us,rfl,A8 rfl ⟨.inr x,s.sn.idxOf x,_,rfl,G8 xs,o,_,b,_,rfl,?_⟩⟩)));show Ws [.ow true (Bk ⟨s.row,s.ln,s.ll.set (s.ln.idxOf x) ⟨l.r,s.row.idxOf y+1,wo l.cs y⟩,s.sn,s.sq⟩ A7 a dx aL aS us),.is (.str x),.is (.str y),.raw (ptr b)] _ _ _;refine Ap (WQ (Iw (j:=3) (i:=0) (p:=[2,s.sn.idxOf x]) rfl rfl (Yo o) ⟨true,AJ,e,_,b,_,2,_,rfl,rfl,EA,K7,by decide,by decide+kernel,rfl,Bu ⟨_,rfl,?_⟩⟩));unfold Bk;rw[Rp o];refine EF (i:=0) rfl (Cg (.inl ⟨⟨s.row,s.ln,s.ll.set (s.ln.idxOf x) ⟨l.r,s.row.idxOf y+1,wo l.cs y⟩,s.sn,s.sq.modify (s.sn.idxOf x) Sm.tell⟩,?_,rfl,dx,aL,aS,_,BH.set λH h'=>by rw[eq]at h';cases h';exact⟨e,b,rfl⟩,rfl⟩));unfold Fw;rw[el];show(if y∈l.cs then _ else none)=_
  rw[tX d]
def ZAs:Ao ["self","loop"] ["self","loop"] (AO WG):=by walk_at "z1"
def ZCh(F:AE K "follows_over" "Course.follows_over" WG f fd)(e:Meth K A7 "follows_over" f):
  Dz P w K mg ZB A7 "follows_over" 6 ["self","loop"] (Bx (X4 A7 AJ)):=by
 refine⟨f,fd,Fz.NG (k:=5) F ZAs (by rintro _ _⟨s,a,t,x,rfl,_,_,rfl⟩;rfl) λd=>⟨_,(AA rfl (Ah (Dy (Ot (BF d) (qv 1) (Cf (qv 0))) (G2 (AR ML (Ar Bo Aj (A0 (Gr GL d (by decide) (qv 0) (A0 (qv 1) A3)) A3)) A4))).pt (AB rfl (AQ Cu)) Al)
   (AA rfl (EZ (nM (Cf (qv 0)) (qv 1) ⟨rfl,rfl,rfl,rfl⟩))
   (AB rfl (AQ Cu)))),?_⟩,(F.binds (by walk_at "bD2")),e,BC⟩
 rintro _ _⟨s,a,t,x,rfl,g,ok,rfl⟩;obtain⟨dx,aL,aS,us,BH,rfl⟩:=g;show Ws [_,_] _ _ _;have l1:=ok.l1;refine Ap (Bg (Fx (Dv (U4 (A8 rfl (Kn rfl BC Cc ⟨Ae s.ln,aL,_,.inr x,rfl,rfl,_,rfl,?_⟩))))));rw[K5];refine Af (λc=>?_) (λc=>?_)
 .have nx:x∉s.ln:=λz=>by rw[pX z]at c;cases c
  refine EF (i:=0) rfl (Cg (.inr ⟨?_,rfl,dx,aL,aS,us,BH,rfl⟩));unfold Fy;rw[cY nx,l1,LQ (B4 _)]
 .have hx:x∈s.ln:=K8 λz=>c (by rw[uK z];rfl);have hi:=List.idxOf_lt_length_iff.mpr hx;obtain⟨l,el⟩:∃l,s.ll[s.ln.idxOf x]?=some l:=⟨_,BK (by omega)⟩;have c1:EE s x=l.cs:=by unfold EE;rw[el]
  refine C9 (GJ (D5 (Jf rfl rfl l1 ?_)));rw[AK,c1];refine⟨_,rfl,Bu ⟨_,rfl,_,rfl,?_⟩⟩;refine Af (λc2=>?_) (λc2=>AZ ?_)
  .have b:=sE c2;refine EF (i:=0) rfl (Cg (.inr ⟨?_,rfl,dx,aL,aS,us,BH,rfl⟩));unfold Fy;rw[el];show(if l.cs=[]then _ else none)=none
   rw[qg (λz=>by rw[z]at b;exact absurd b (by decide))]
  .have b:l.cs=[]:=List.length_eq_zero_iff.mp (by have:¬ (0:Int)<l.cs.length:=λz=>c2 (pX z);omega);refine Ap (dQ (i:=0) (t:=Bk s A7 a dx aL aS us) (Kn rfl BC Cc ⟨true,aL,Ae s.ln,_,rfl,rfl,JB ok.n1,A8 rfl ⟨.inr x,s.ln.idxOf x,rfl,G8 hx,?_⟩⟩));unfold Bk;rw[show([]++[1]:List Nat)=[1]from rfl,LF,lB,kD];refine EF (i:=0) rfl (Cg (.inl ⟨⟨s.row,s.ln.eraseIdx (s.ln.idxOf x),s.ll.eraseIdx (s.ln.idxOf x),s.sn,s.sq⟩,?_,rfl,dx,aL,aS,us,BH,rfl⟩));unfold Fy;rw[el];show(if l.cs=[]then _ else none)=_
   rw[tX b]
def tu:Ao ["gap","at"] ["gap","at"] (AO Yc):=by walk_at "z1"
def ZE7(F:AE K "gap_behind_put" "gap_behind_put" Yc f fd)(m:mg "gap_behind_put"=some (.ref f)):
  AN P w K mg ZB "gap_behind_put" 1 ["gap","at"] (B6 gj):=by
 refine Fz.hF (k:=0) F (by walk_at "bD2") m tu (by rintro _ _⟨g,i,rfl,rfl⟩;rfl) λa=>⟨_,(AA rfl (Ah (AR FX (qv 1) (qv 0)) (AB rfl (AQ (Az DO (qv 0) A4))) Al)
   (AB rfl (AQ (qv 0)))),?_⟩
 rintro _ _⟨g,i,rfl,rfl⟩;show Ws [_,_] _ _ _
 walk_at "ww"
 refine Af (λc=>?_) (λc=>?_)
 .have h:i<g:=by have:=sE c;omega
  walk_at "ww"
  unfold I0;rw[tX h];rfl
 .have h:¬ i<g:=λz=>c (pX (by omega));refine AZ ?_
  walk_at "ww"
  unfold I0;rw[qg h]
def yD:Ao ["gap","place"] ["gap","place"] (AO aM):=by walk_at "z1"
def rL(F:AE K "gap_behind_take" "gap_behind_take" aM f fd)(m:mg "gap_behind_take"=some (.ref f)):
  AN P w K mg ZB "gap_behind_take" 1 ["gap","place"] (B6 j3):=by
 refine Fz.hF (k:=0) F (by walk_at "bD2") m yD (by rintro _ _⟨g,i,rfl,rfl⟩;rfl) λa=>⟨_,(AA rfl (Ah (AR FX (qv 1) (qv 0)) (AB rfl (AQ (Az Nu (qv 0) A4))) Al)
   (AB rfl (AQ (qv 0)))),?_⟩
 rintro _ _⟨g,i,rfl,rfl⟩;show Ws [_,_] _ _ _
 walk_at "ww"
 refine Af (λc=>?_) (λc=>?_)
 .have h:i<g:=by have:=sE c;omega
  walk_at "ww"
  unfold GS;rw[tX h];show PV.int _=PV.int _
  congr 1;omega
 .have h:¬ i<g:=λz=>c (pX (by omega));refine AZ ?_
  walk_at "ww"
  unfold GS;rw[qg h]
def ZAP:Ao ["row","gap","deed"] ["row","gap","deed"] (AO Zc):=by walk_at "z1"
def uN(F:AE K "gap_led" "gap_led" Zc f fd)(m:mg "gap_led"=some (.ref f)):
  AN P w K mg ZB "gap_led" 4 ["row","gap","deed"] (B6 o6):=by
 refine Fz.hF (k:=3) F (by walk_at "bD3") m ZAP (by rintro _ _⟨tp,ns,g,d,rfl,_,_,rfl⟩;rfl) λa=>⟨_,(AA rfl (Ah (AR BR (AF AL (qv 2) A4) AM) (AB rfl (AQ (Ac RU a (A0 (qv 1) (A0 (AF AL (qv 2) A4) A3))))) Al)
   (AA rfl (Ah (AR BR (AF AL (qv 2) A4) AM) (AB rfl (AQ (Ac Rn a (A0 (qv 1) (A0 (FD Gx a (by decide) TK rfl (A0 (qv 0) (A0 (AF AL (qv 2) A4) A3))) A3))))) Al)
   (AA rfl (Ah (AR BR (AF AL (qv 2) A4) AM) (AB rfl (AQ (Ac RU a (A0 (Ac Rn a (A0 (qv 1) (A0 (FD Gx a (by decide) TK rfl (A0 (qv 0) (A0 (AF AL (qv 2) A4) A3))) A3))) (A0 (AF AL (qv 2) A4) A3))))) Al)
   (AB rfl (AQ (qv 1)))))),?_⟩
 rintro _ _⟨tp,ns,g,d,rfl,hd,b,rfl⟩;show Ws [_,_,_] _ _ _;cases d with
 |put x i=>
  unfold dP
  walk_at "ww"
  refine Bj (by decide+kernel) ?_;refine Bw (wp_call (Am (A8 rfl (Am ?_))))
  walk_at "ww"
  exact BS ⟨_,⟨g,i,rfl,rfl⟩,λ_ h=>h⟩
 |take x=>
  unfold dP
  walk_at "ww"
  refine B1 (by decide+kernel) ?_;refine AZ ?_
  walk_at "ww"
  refine Bj (by decide+kernel) ?_;refine Bw (wp_call (Am (A8 rfl (Am ?_))));refine Gj ?_;refine Dp (Fg rfl (Am ?_))
  walk_at "ww"
  refine BS ⟨_,_,⟨tp,ns,x,rfl,b x (.inl rfl),rfl,rfl⟩,trivial,λe h=>absurd (show x∈ns from hd) h.1,?_⟩;rintro _⟨_,rfl⟩;exact BS ⟨_,⟨g,_,rfl,rfl⟩,λ_ h=>h⟩
 |move x i=>
  unfold dP
  walk_at "ww"
  refine B1 (by decide+kernel) ?_;refine AZ ?_
  walk_at "ww"
  refine B1 (by decide+kernel) ?_;refine AZ ?_
  walk_at "ww"
  refine Bj (by decide+kernel) ?_;refine Bw (wp_call (Am (wp_call (Am (A8 rfl (Am ?_))))));refine Gj ?_;refine Dp (Fg rfl (Am ?_))
  walk_at "ww"
  refine BS ⟨_,_,⟨tp,ns,x,rfl,b x (.inr ⟨i,rfl⟩),rfl,rfl⟩,trivial,λe h=>absurd hd.1 h.1,?_⟩;rintro _⟨_,rfl⟩;refine BS ⟨_,⟨g,_,rfl,rfl⟩,?_⟩;rintro _ rfl;refine Am ?_
  walk_at "ww"
  exact BS ⟨_,⟨_,i,rfl,rfl⟩,λ_ h=>h⟩
 |turn lo hi=>
  unfold dP
  walk_at "ww"
  refine B1 (by decide+kernel) ?_;refine AZ ?_
  walk_at "ww"
  refine B1 (by decide+kernel) ?_;refine AZ ?_
  walk_at "ww"
  refine B1 (by decide+kernel) ?_;refine AZ ?_;exact Bw (A8 rfl rfl)
def wM:Ao ["loop","at"] ["loop","at"] (AO Zu):=by walk_at "z1"
def ZCA(F:AE K "joins" "joins" Zu f fd)(m:mg "joins"=some (.ref f)):
  AN P w K mg ZB "joins" 1 ["loop","at"] (B6 kF):=by
 refine Fz.hF (k:=0) F (by walk_at "bD2") m wM (by rintro _ _⟨r,g,i,xs,rfl,rfl⟩;rfl) λa=>⟨_,(AB rfl (AQ (gG (IJ BR (AF AL (qv 0) A4) AM) (LK (NQ (IJ BR (AF AL (qv 0) A4) AM) (LK (IJ NP (qv 1) (AF AL (qv 0) A4)))))))),?_⟩
 rintro _ _⟨r,g,i,xs,rfl,rfl⟩;show Ws [_,_] _ _ _;refine Bw (gh (P2 ?_))
 walk_at "ww"
 refine⟨0,.str r,rfl,Kq (j:=0) rfl,?_⟩
 walk_at "ww"
 unfold FF;have q:∀z:Str,alike (.str r) (.str z)=decide (V.str r=V.str z):=λz=>by
  show decide (r=z)=_;rw[Ob,ZAj,ZAj];exact⟨λh=>by rw[h],λh=>by injection h⟩
 rw[q];refine Af (λc=>by rw[tX c]) (λc=>?_);rw[qg c];refine Sn (P2 ?_)
 walk_at "ww"
 refine⟨0,.str r,rfl,Kq (j:=0) rfl,?_⟩
 walk_at "ww"
 rw[q];refine Af (λc=>?_) (λc=>by rw[qg c]);rw[tX c]
 walk_at "ww"
 refine⟨1,.int g,rfl,Kq (j:=1) rfl,?_⟩
 walk_at "ww"
 rfl
def tL:Ao ["loop","deed"] ["loop","deed"] (AO YK):=by walk_at "z1"
def r9(F:AE K "coming_behind" "coming_behind" YK f fd)(m:mg "coming_behind"=some (.ref f)):
  AN P w K mg ZB "coming_behind" 2 ["loop","deed"] (B6 fV):=by
 refine Fz.hF (k:=1) F (by walk_at "bD2") m tL (by rintro _ _⟨r,g,cs,d,rfl,_,_,_,rfl⟩;rfl) λa=>⟨_,(AA rfl (Ah (AR BR (AF AL (qv 1) A4) AM) (AB rfl (AQ (Ac Nx a (A0 (AF AL (qv 0) A4) (A0 (AF AL (qv 1) A4) A3))))) Al)
   (AA rfl (Ah (Hr (AR BR (AF AL (qv 1) A4) AM) (HV (GF (Ac W2 a (A0 (qv 0) (A0 (AF AL (qv 1) A4) A3)))))).pt (AB rfl (AQ (Cy Ki DS (A0 (Ar SO FQ (A0 (Az dN (AF AL (qv 0) A4) (BG (A0 (AF AL (qv 1) A4) A3))) A3)) A3)))) Al)
   (AB rfl (AQ (AF AL (qv 0) A4))))),?_⟩
 rintro _ _⟨r,g,cs,d,rfl,j,up,hx,rfl⟩;show Ws [_,_] _ _ _;unfold NA;cases d with
 |take x=>
  unfold dP
  walk_at "ww"
  refine Bj (by decide+kernel) ?_;refine Bw (wp_call (Am ?_))
  walk_at "ww"
  refine Am ?_
  walk_at "ww"
  exact BS ⟨_,⟨cs,x,rfl,by omega,rfl⟩,λ_ h=>h⟩
 |put x i=>
  unfold dP
  walk_at "ww"
  refine B1 (by decide+kernel) ?_;refine AZ ?_
  walk_at "ww"
  refine Bj (by decide+kernel) ?_;refine Dv (wp_call (Am (A8 rfl (Am ?_))))
  walk_at "ww"
  refine BS ⟨_,⟨r,g,i,_,rfl,rfl⟩,?_⟩;rintro _ rfl;refine⟨_,rfl,Af (λc=>?_) (λc=>?_)⟩
  .refine Bw (S8 rfl (BP (D7 (ZGZ ?_))))
   walk_at "ww"
   refine⟨cs,rfl,?_⟩
   walk_at "ww"
   refine⟨by simp,[x],rfl,by simp,by simp;omega,λts b st=>?_⟩;refine⟨_,.inl ⟨rfl,?_⟩⟩;rw[Vo b st up (hx x i rfl),cB c]
  .refine AZ ?_
   walk_at "ww"
   rw[Wu (by cases e:FF r g i <;> simp_all)]
 |move x i=>
  unfold dP
  walk_at "ww"
  refine B1 (by decide+kernel) ?_;refine AZ ?_
  walk_at "ww"
  refine B1 (by decide+kernel) (CT (AZ ?_))
  walk_at "ww"
  rfl
 |turn lo hi=>
  unfold dP
  walk_at "ww"
  refine B1 (by decide+kernel) ?_;refine AZ ?_
  walk_at "ww"
  refine B1 (by decide+kernel) (CT (AZ ?_))
  walk_at "ww"
  rfl
def ZAt:Ao ["row","loop","deed"] ["row","loop","deed"] (AO YG):=by walk_at "z1"
def sV(F:AE K "loop_led" "loop_led" YG f fd)(m:mg "loop_led"=some (.ref f)):
  AN P w K mg ZB "loop_led" 5 ["row","loop","deed"] (B6 mC):=by
 refine Fz.hF (k:=4) F (by walk_at "bD3") m ZAt (by rintro _ _⟨tp,ns,r,g,cs,d,rfl,_,_,_,_,rfl⟩;rfl) λb=>⟨_,(AB rfl (AQ (BG (A0 (AF AL (qv 1) A4) (A0 (Ac aI b (A0 (qv 0) (A0 (AF AL (qv 1) A4) (A0 (qv 2) A3)))) (A0 (Ac Yk b (A0 (qv 1) (A0 (qv 2) A3))) A3)))))),?_⟩
 rintro _ _⟨tp,ns,r,g,cs,d,rfl,hd,a,e,c,rfl⟩;show Ws [_,_,_] _ _ _;unfold NA;have h:=a.len
 walk_at "ww"
 refine wp_call (Dp (Fg rfl (Am ?_)))
 walk_at "ww"
 refine Am (A8 rfl (BS ⟨_,⟨tp,ns,g,d,rfl,hd,c,rfl⟩,?_⟩));rintro _ rfl
 walk_at "ww"
 refine wp_call (Am (A8 rfl (Am (A8 rfl (BS ⟨_,⟨r,g,cs,d,rfl,by omega,a.up,VS a hd,rfl⟩,?_⟩)))));rintro _ rfl
 walk_at "ww"
 exact⟨by simp,rfl⟩
def Xm:Ao ["self","loop","deed","many","tally"] ["self","loop","deed"] (AO Xj):=by walk_at "z1"
def mE:∀ss R,(RZ A7 AJ) ss R->ss.length=3:=by rintro _ _⟨s,a,t,d,i,x,rfl,_,_,_,_,_,_,rfl⟩;rfl
def wq(F:AE K "lead" "Course.lead" Xj f fd)(C:Meth K A7 "lead" f):
  Dz P w K mg ZB A7 "lead" 8 ["self","loop","deed"] (Bx (RZ A7 AJ)):=by
 refine⟨f,fd,F.E4 (k:=7) Xm (λvs H Q E h=>Fz.Qs mE h) (λAi A outer s H vs Q E m h=>?_),(F.binds (by walk_at "bD3")),C,BC⟩
 refine⟨_,(AA rfl (Au 3 Xm.nd (Ar Bo Aj (A0 (Gr GL m (by decide) (qv 0) (A0 (qv 1) A3)) A3)))
   (AA rfl (JZ (BF m) (Cf (qv 0)) (qv 1) (Ac YF m (A0 (Cf (qv 0)) (A0 (Bn (BF m) (Cf (qv 0)) (qv 1) (λ_ _=>rfl)) (A0 (qv 2) A3)))))
   (AA rfl (Au 4 Xm.nd (Bn (BF m) (Cf (qv 0)) (qv 1) (λ_ _=>rfl)))
   (AA rfl (D0 (Ah (AR ML (Ar Bo Aj (A0 (Gr GL m (by decide) (qv 0) (A0 (qv 1) A3)) A3)) (qv 3)) (AB rfl (Vs (qv 4) A4 XI)) Al))
   (AB rfl (Ah (AR FX (Ar Bo Aj (A0 (Gr GL m (by decide) (qv 0) (A0 (qv 1) A3)) A3)) (qv 3)) (AB rfl (Vs (qv 4) A4 XI)) Al)))))),?_⟩
 refine Fz.UP h mE ?_;rintro _ _⟨s,a,t,d,i,x,rfl,G,ok,hx,hd,D,hn,rfl⟩;obtain⟨dx,aL,aS,us,BH,rfl⟩:=G;show Ws [_,_,_,.any,.any] _ _ _;have l1:=ok.l1;have hi:i<s.ln.length:=(List.getElem?_eq_some_iff.mp hx).1;obtain⟨l,el⟩:∃l,s.ll[i]?=some l:=⟨_,BK (by omega)⟩;have v:x∈s.ln:=EL hx;have xs:x∈s.sn:=ok.sub x v;have B:s.ln.idxOf x=i:=N5 ok.n1 hx;have I:=ok.good l (EL el);have ll:(CS s d i).length=s.ll.length:=Jy s d i;have c1:EE (Em s d i) x=l.cs:=iT (s:=Em s d i) ok.n1 hx (XN el);refine Ap (FO (D5 (Jf rfl rfl (by rw[show(Em s d i).ll.length=s.ll.length from ll];exact l1) ?_)));rw[AK,c1];refine Ap (Jz (i:=0) (t:=Bk (Em s d i) A7 a dx aL aS us) (E7 (wp_call (Dp (BP (DL (Pm rfl BC Dk ⟨_,rfl,_,.inl ⟨rfl,?_⟩⟩)))))));refine Am (DL (HA (Kn rfl BC Cc ⟨Ae s.ln,aL,_,rfl,A8 rfl ⟨.inr x,i,.fz l.P,rfl,by rw[G8 v,B],OG (XN el),_,rfl,?_⟩⟩)));refine Am (A8 rfl (BS ⟨_,⟨false,s.row,l.r,l.g,l.cs,d,rfl,hd,I,ok.row.len,D,rfl⟩,?_⟩));rintro _ rfl;refine(Kn rfl BC Cc ⟨true,aL,Ae s.ln,_,rfl,rfl,by unfold CI;rw[AK];show(CS s d i).length<=99999;have:=JE ok.n1 ok.sub;omega,JB ok.n1,BA,A8 rfl ⟨.inr x,rfl,?_⟩⟩);rw[Rh v,Tr v];unfold Bk;rw[show([]++[1]:List Nat)=[1]from rfl,LF,B];have J:(CI (Em s d i).ll).set i (.fz (Ey l.r (d.gap s.row l.g) (d.Hk l.r l.g l.cs)))=CI (CS s d (i+1)):=by
  rw[<- aj el];exact Us _ _ (l.led s.row d)
 rw[J];obtain⟨q,eq⟩:=yM (d:=d) (i:=i) ok xs;obtain⟨u,n,e,b,rfl⟩:=BH.get eq;have L:=List.idxOf_lt_length_iff.mpr xs;have c2:∀Q,EE ⟨s.row,s.ln,CS s d (i+1),s.sn,Q⟩ x=(l.led s.row d).cs:=λQ=>iT (s:=⟨s.row,s.ln,CS s d (i+1),s.sn,Q⟩) ok.n1 hx (by rw[<- aj el,Cs (by rw[Jy];omega)]);show Ws [.ow true (Bk ⟨s.row,s.ln,CS s d (i+1),s.sn,Cp s d i⟩ A7 a dx aL aS us),.is (.str x),.is (dP d),.is (.int l.cs.length),.any] _ _ _;refine Ap (Zl (i:=0) (HA (Qz rfl BC EI ⟨Ae s.sn,aS,us,rfl,A8 rfl ⟨.inr x,s.sn.idxOf x,_,rfl,G8 xs,n,_,b,_,rfl,?_⟩⟩)));have c:∀us',R2 (P0 AJ) us' (Cp s d (i+1))->Te (.mt λp t'=>p=.A9/\DE (Em s d (i+1)) A7 AJ a t') [.ow true (Bk ⟨s.row,s.ln,CS s d (i+1),s.sn,Cp s d (i+1)⟩ A7 a dx aL aS us'),.is (.str x),.is (dP d),.is (.int l.cs.length),.raw (ptr b)]:=λus' h=>⟨_,_,_,_,rfl,rfl,rfl,dx,aL,aS,us',h,rfl⟩;rw[iL hx el]at c;show Ws [.ow true (Bk ⟨s.row,s.ln,CS s d (i+1),s.sn,Cp s d i⟩ A7 a dx aL aS us),.is (.str x),.is (dP d),.is (.int l.cs.length),.raw (ptr b)] _ _ _;rcases cw l.cs.length (l.led s.row d).cs.length with h|h|h
 .refine Ap (GO (Bg (C9 (GJ (D5 (Jf rfl rfl (by rw[show(CS s d (i+1)).length=s.ll.length from Jy s d (i+1)];exact l1) ?_))))));rw[AK,c2];refine⟨_,rfl,A8 rfl ⟨_,rfl,_,rfl,Bj (pX (by omega)) ?_⟩⟩;refine WQ (Iw (j:=4) (i:=0) (p:=[2,s.sn.idxOf x]) rfl rfl (Yo n) ⟨true,AJ,e,_,b,_,1,_,rfl,rfl,EA,Jj,by decide,by decide+kernel,rfl,Bu ⟨_,rfl,?_⟩⟩);unfold Bk;rw[Rp n];have o:R2 (P0 AJ) (us.set (s.sn.idxOf x) (.nd (.obj AJ e ["stood","joined","told","taken"]) b ((Fo q.join).map .fz))) ((Cp s d i).modify (s.sn.idxOf x) (Sm.by l.cs.length (l.led s.row d).cs.length)):=BH.set λy h'=>by
   have h':(Cp s d i)[s.sn.idxOf x]?=some y:=h';rw[eq]at h';cases h';unfold Sm.by
   rw[tX h];exact⟨e,b,rfl⟩
  show Ws [.ow true (Bk ⟨s.row,s.ln,CS s d (i+1),s.sn,(Cp s d i).modify (s.sn.idxOf x) (Sm.by l.cs.length (l.led s.row d).cs.length)⟩ A7 a dx aL aS (us.set (s.sn.idxOf x) (.nd (.obj AJ e ["stood","joined","told","taken"]) b ((Fo q.join).map .fz)))),.is (.str x),.is (dP d),.is (.int l.cs.length),.raw (ptr b)] _ _ _;refine Bg (C9 (GJ (D5 (Jf rfl rfl (by rw[show(CS s d (i+1)).length=s.ll.length from Jy s d (i+1)];exact l1) ?_))));rw[AK,c2];exact⟨_,rfl,A8 rfl ⟨_,rfl,_,rfl,B1 (λz=>by have:=sE z;omega) (AZ (c _ o))⟩⟩
 .have o:R2 (P0 AJ) us ((Cp s d i).modify (s.sn.idxOf x) (Sm.by l.cs.length (l.led s.row d).cs.length)):=by
   unfold Sm.by
   rw[qg (by omega),qg (by omega),fG];exact BH
  refine Ap (GO (Bg (C9 (GJ (D5 (Jf rfl rfl (by rw[show(CS s d (i+1)).length=s.ll.length from Jy s d (i+1)];exact l1) ?_))))));rw[AK,c2];refine⟨_,rfl,A8 rfl ⟨_,rfl,_,rfl,B1 (λz=>by have:=sE z;omega) (AZ ?_)⟩⟩;refine Bg (C9 (GJ (D5 (Jf rfl rfl (by rw[show(CS s d (i+1)).length=s.ll.length from Jy s d (i+1)];exact l1) ?_))));rw[AK,c2];exact⟨_,rfl,A8 rfl ⟨_,rfl,_,rfl,B1 (λz=>by have:=sE z;omega) (AZ (c _ o))⟩⟩
 .refine Ap (GO (Bg (C9 (GJ (D5 (Jf rfl rfl (by rw[show(CS s d (i+1)).length=s.ll.length from Jy s d (i+1)];exact l1) ?_))))));rw[AK,c2];refine⟨_,rfl,A8 rfl ⟨_,rfl,_,rfl,B1 (λz=>by have:=sE z;omega) (AZ ?_)⟩⟩;refine Bg (C9 (GJ (D5 (Jf rfl rfl (by rw[show(CS s d (i+1)).length=s.ll.length from Jy s d (i+1)];exact l1) ?_))));rw[AK,c2];refine⟨_,rfl,A8 rfl ⟨_,rfl,_,rfl,Bj (pX (by omega)) ?_⟩⟩;refine WQ (Iw (j:=4) (i:=0) (p:=[2,s.sn.idxOf x]) rfl rfl (Yo n) ⟨true,AJ,e,_,b,_,3,_,rfl,rfl,EA,Ja,by decide,by decide+kernel,rfl,Bu ⟨_,rfl,?_⟩⟩);unfold Bk;rw[Rp n];have o:R2 (P0 AJ) (us.set (s.sn.idxOf x) (.nd (.obj AJ e ["stood","joined","told","taken"]) b ((Fo q.take).map .fz))) ((Cp s d i).modify (s.sn.idxOf x) (Sm.by l.cs.length (l.led s.row d).cs.length)):=BH.set λy h'=>by
   have h':(Cp s d i)[s.sn.idxOf x]?=some y:=h';rw[eq]at h';cases h';unfold Sm.by
   rw[qg (by omega),tX h];exact⟨e,b,rfl⟩
  exact c _ o
def wD:Ao ["row","name","at"] ["row","name","at"] (AO Vg):=by walk_at "z1"
def yn(F:AE K "check_put" "check_put" Vg f fd)(m:mg "check_put"=some (.ref f)):
  C8 P w K mg ZB "check_put" 3 ["row","name","at"] (C6 (fS ⟨B8,B9,AV,B0,BI⟩)):=by
 refine Fz.hX (k:=2) F (by walk_at "bD3") m wD (by rintro _ _ _⟨tp,ns,x,i,rfl,_,rfl,rfl⟩;rfl) λE a=>⟨_,(AA rfl (Ah (Ek (GF (Ac Np a (A0 (qv 1) A3)))) (AB rfl (JI cE (by rfl) Mu a (by decide) rfl rfl Dw (A0 (qv 1) A3))) Al)
   (AA rfl (Ah (AR Nn (qv 1) (qv 0)) (AB rfl (JI bq (by rfl) OA a (by decide) rfl rfl Dw (A0 (qv 1) A3))) Al)
   (AA rfl (Ah (Ek (VA Eb Eb A4 (qv 2) (Ar Bo Aj (A0 (qv 0) A3)))) (AB rfl (JI JN (by rfl) HD a (by decide) rfl rfl Dw (A0 (qv 2) A3))) Al)
   (AB rfl (Ah (AR NP (Ar Bo Aj (A0 (qv 0) A3)) (DX (v:=.int 40) (by rfl) Ww ⟨_,rfl⟩)) (AB rfl (vZ (by rfl) NY bD rfl rfl Dw (A0 AM A3))) Al))))),?_⟩
 rintro _ _ _⟨tp,ns,x,i,rfl,⟨b,hi⟩,rfl,rfl⟩;intro i0;show Ws [_,_,_] _ _ _;refine Ap (Bg (FE (Dv (TN (A8 rfl ⟨x,rfl,b.2,_,rfl,?_⟩)))));refine Af (λc=>?_) (λc=>?_)
 .refine GC (A8 rfl ⟨b.1,trivial,?_⟩);show Ag.B3 _ _ _=_;simp only[Ag.B3];rw[tX (by cases e:isNm x <;> simp_all)];rfl
 have h1:¬ isNm x=false:=by cases e:isNm x <;> simp_all
 refine AZ ?_
 walk_at "ww"
 refine Af (λc=>?_) (λc=>?_)
 .refine GC (A8 rfl ⟨b.1,trivial,?_⟩);show Ag.B3 _ _ _=_;simp only[Ag.B3];rw[qg h1,tX (sE c)];rfl
 have h2:x∉ns:=λz=>c (pX z);refine AZ ?_;have bad:¬ inR i 0 ns.length->Ag.B3 ⟨B8,B9,AV,B0,BI⟩ ns (.put x i)=some ⟨B0,["at"],[.int i]⟩:=λz=>by
  simp only[Ag.B3];rw[qg h1,qg h2,tX z];rfl
 refine Ap (Bg (FE (C9 (Qh ?_))))
 walk_at "ww"
 refine Af (λc=>?_) (λc=>?_)
 .walk_at "ww"
  rw[AK];refine Af (λc2=>?_) (λc2=>?_)
  .refine GC (A8 rfl ⟨hi,trivial,bad λz=>?_⟩);rw[pX z.2]at c2;cases c2
  .have g:inR i 0 ns.length:=⟨sE c,by
    cases e:decide (i<=(ns.length:Int))with
    |true=>exact sE e
    |false=>exact absurd (by rw[e];rfl) c2⟩
   refine AZ ?_
   walk_at "ww"
   rw[AK];refine Af (λd=>?_) (λd=>?_)
   .refine uH ?_
    walk_at "ww"
    refine⟨by simp,trivial,?_⟩;show Ag.B3 _ _ _=_;simp only[Ag.B3];have q:=sE d;rw[qg h1,qg h2,qg (Decidable.not_not.mpr g),tX (by omega)];rfl
   .refine AZ ⟨_,rfl,?_⟩;show Ag.B3 _ _ _=_;simp only[Ag.B3];have q:¬ (40:Int)<=ns.length:=λz=>d (pX z);rw[qg h1,qg h2,qg (Decidable.not_not.mpr g),qg (by omega)]
 .refine⟨false,rfl,Bj rfl ?_⟩;refine GC (A8 rfl ⟨hi,trivial,bad λz=>c (pX z.1)⟩)
def u5:Ao ["row","name","at"] ["row","name","at"] (AO W4):=by walk_at "z1"
def ZEE(F:AE K "check_move" "check_move" W4 f fd)(m:mg "check_move"=some (.ref f)):
  C8 P w K mg ZB "check_move" 4 ["row","name","at"] (C6 (lE ⟨B8,B9,AV,B0,BI⟩)):=by
 refine Fz.hX (k:=3) F (by walk_at "bD3") m u5 (by rintro _ _ _⟨tp,ns,x,i,rfl,_,rfl,rfl⟩;rfl) λE a=>⟨_,(AA rfl (EZ (FD Gx a (by decide) Dw rfl (A0 (qv 0) (A0 (qv 1) A3))))
   (AB rfl (Ah (Ek (VA Eb FX A4 (qv 2) (Ar Bo Aj (A0 (qv 0) A3)))) (AB rfl (JI JN (by rfl) HD a (by decide) rfl rfl Dw (A0 (qv 2) A3))) Al))),?_⟩
 rintro _ _ _⟨tp,ns,x,i,rfl,⟨b,hi⟩,rfl,rfl⟩;intro i0;show Ws [_,_,_] _ _ _;refine Ap (Jb ?_);refine Gj ?_;refine Dp (Fg rfl (Am (A8 rfl (BS ⟨_,_,⟨tp,ns,x,rfl,b,rfl,rfl⟩,trivial,?_,?_⟩))))
 .rintro e⟨hx,rfl⟩;show Ag.B3 _ _ _=_;simp only[Ag.B3];rw[tX hx]
 rintro _⟨hx,_⟩;have bad:¬ inR i 0 (ns.length - 1)->Ag.B3 ⟨B8,B9,AV,B0,BI⟩ ns (.move x i)=some ⟨B0,["at"],[.int i]⟩:=λz=>by
  simp only[Ag.B3];rw[qg (Decidable.not_not.mpr hx),tX z];rfl
 refine Bg (FE (C9 (Qh ?_)))
 walk_at "ww"
 refine Af (λc=>?_) (λc=>?_)
 .walk_at "ww"
  rw[AK];refine Af (λc2=>?_) (λc2=>?_)
  .refine GC (A8 rfl ⟨hi,trivial,bad λz=>?_⟩);have:=z.2;rw[pX (by omega)]at c2;cases c2
  .have d:i<(ns.length:Int):=by
    cases e:decide (i<(ns.length:Int))with
    |true=>exact sE e
    |false=>exact absurd (by rw[e];rfl) c2
   refine AZ ⟨_,rfl,?_⟩;show Ag.B3 _ _ _=_;simp only[Ag.B3];rw[qg (Decidable.not_not.mpr hx),qg (Decidable.not_not.mpr ⟨sE c,by omega⟩)]
 .refine⟨false,rfl,Bj rfl ?_⟩;refine GC (A8 rfl ⟨hi,trivial,bad λz=>c (pX z.1)⟩)
def ZDZ:Ao ["row","low","high"] ["row","low","high"] (AO Z8):=by walk_at "z1"
def qo(F:AE K "check_turn" "check_turn" Z8 f fd)(m:mg "check_turn"=some (.ref f)):
  C8 P w K mg ZB "check_turn" 3 ["row","low","high"] (C6 (jh ⟨B8,B9,AV,B0,BI⟩)):=by
 refine Fz.hX (k:=2) F (by walk_at "bD3") m ZDZ (by rintro _ _ _⟨tp,ns,lo,hi,rfl,_,rfl,rfl⟩;rfl) λE h=>⟨_,(AA rfl (Ah (Ek (VA Eb Eb A4 (qv 1) (Ar Bo Aj (A0 (qv 0) A3)))) (AB rfl (JI JN (by rfl) HD h (by decide) rfl rfl Dw (A0 (qv 1) A3))) Al)
   (AB rfl (Ah (Ek (VA Eb Eb (qv 1) (qv 2) (Ar Bo Aj (A0 (qv 0) A3)))) (AB rfl (JI JN (by rfl) HD h (by decide) rfl rfl Dw (A0 (qv 2) A3))) Al))),?_⟩
 rintro _ _ _⟨tp,ns,lo,hi,rfl,⟨i,hh⟩,rfl,rfl⟩;intro i0;show Ws [_,_,_] _ _ _;have bad:¬ inR lo 0 ns.length->Ag.B3 ⟨B8,B9,AV,B0,BI⟩ ns (.turn lo hi)=some ⟨B0,["at"],[.int lo]⟩:=λz=>by
  simp only[Ag.B3];rw[tX z];rfl
 have g:inR lo 0 ns.length->¬ inR hi lo ns.length->Ag.B3 ⟨B8,B9,AV,B0,BI⟩ ns (.turn lo hi)=some ⟨B0,["at"],[.int hi]⟩:=λy z=>by
  simp only[Ag.B3];rw[qg (Decidable.not_not.mpr y),tX z];rfl
 refine Ap (Bg (FE (C9 (Qh ?_))))
 walk_at "ww"
 refine Af (λc=>?_) (λc=>?_)
 .walk_at "ww"
  rw[AK];refine Af (λc2=>?_) (λc2=>?_)
  .refine GC (A8 rfl ⟨i,trivial,bad λz=>?_⟩);rw[pX z.2]at c2;cases c2
  .have b:inR lo 0 ns.length:=⟨sE c,by
    cases e:decide (lo<=(ns.length:Int))with
    |true=>exact sE e
    |false=>exact absurd (by rw[e];rfl) c2⟩
   refine AZ ?_;refine Bg (FE (C9 (Qh ?_)))
   walk_at "ww"
   refine Af (λd=>?_) (λd=>?_)
   .walk_at "ww"
    rw[AK];refine Af (λa=>?_) (λa=>?_)
    .refine GC (A8 rfl ⟨hh,trivial,g b λz=>?_⟩);rw[pX z.2]at a;cases a
    .have j:inR hi lo ns.length:=⟨sE d,by
      cases e:decide (hi<=(ns.length:Int))with
      |true=>exact sE e
      |false=>exact absurd (by rw[e];rfl) a⟩
     refine AZ ⟨_,rfl,?_⟩;show Ag.B3 _ _ _=_;simp only[Ag.B3];rw[qg (Decidable.not_not.mpr b),qg (Decidable.not_not.mpr j)]
   .refine⟨false,rfl,Bj rfl ?_⟩;refine GC (A8 rfl ⟨hh,trivial,g b λz=>d (pX z.1)⟩)
 .refine⟨false,rfl,Bj rfl ?_⟩;refine GC (A8 rfl ⟨i,trivial,bad λz=>c (pX z.1)⟩)
def xP:Ao ["row","deed"] ["row","deed"] (AO aJ):=by walk_at "z1"
def ZAG(F:AE K "check_deed" "check_deed" aJ f fd)(m:mg "check_deed"=some (.ref f)):
  C8 P w K mg ZB "check_deed" 5 ["row","deed"] (C6 (ig ⟨B8,B9,AV,B0,BI⟩)):=by
 refine Fz.hX (k:=4) F (by walk_at "bD2") m xP (by rintro _ _ _⟨tp,ns,d,rfl,_,rfl,rfl⟩;rfl) λE c=>⟨_,(AB rfl (Ah (AR BR (AF AL (qv 1) A4) AM) (AB rfl (EZ (FD W9 c (by decide) Dw rfl (A0 (qv 0) (A0 (AF AL (qv 1) A4) (A0 (AF AL (qv 1) A4) A3)))))) (AB rfl (Ah (AR BR (AF AL (qv 1) A4) AM) (AB rfl (EZ (FD Gx c (by decide) Dw rfl (A0 (qv 0) (A0 (AF AL (qv 1) A4) A3))))) (AB rfl (Ah (AR BR (AF AL (qv 1) A4) AM) (AB rfl (EZ (FD WA c (by decide) Dw rfl (A0 (qv 0) (A0 (AF AL (qv 1) A4) (A0 (AF AL (qv 1) A4) A3)))))) (AB rfl (EZ (FD W8 c (by decide) Dw rfl (A0 (qv 0) (A0 (AF AL (qv 1) A4) (A0 (AF AL (qv 1) A4) A3)))))))))))),?_⟩
 rintro _ _ _⟨tp,ns,d,rfl,b,rfl,rfl⟩;intro i0;show Ws [_,_] _ _ _;cases d with
 |put x i=>
  unfold aP
  walk_at "ww"
  refine Bj (by decide+kernel) ?_;refine Jb ?_;refine Gj ?_;refine Dp (Fg rfl (Am ?_))
  walk_at "ww"
  refine Am ?_
  walk_at "ww"
  exact BS ⟨_,_,⟨tp,ns,_,_,rfl,b,rfl,rfl⟩,trivial,λe h=>h,λp a=>⟨_,rfl,a⟩⟩
 |take x=>
  unfold aP
  walk_at "ww"
  refine B1 (by decide+kernel) ?_
  walk_at "ww"
  refine Bj (by decide+kernel) ?_;refine Jb ?_;refine Gj ?_;refine Dp (Fg rfl (Am ?_))
  walk_at "ww"
  refine BS ⟨_,_,⟨tp,ns,x,rfl,b,rfl,rfl⟩,trivial,?_,?_⟩
  .rintro e⟨hx,rfl⟩;show Ag.B3 _ _ _=_;simp only[Ag.B3];rw[tX hx]
  .rintro p⟨hx,_⟩;refine⟨_,rfl,?_⟩;show Ag.B3 _ _ _=_;simp only[Ag.B3];rw[qg (Decidable.not_not.mpr hx)]
 |move x i=>
  unfold aP
  walk_at "ww"
  refine B1 (by decide+kernel) ?_
  walk_at "ww"
  refine B1 (by decide+kernel) ?_
  walk_at "ww"
  refine Bj (by decide+kernel) ?_;refine Jb ?_;refine Gj ?_;refine Dp (Fg rfl (Am ?_))
  walk_at "ww"
  refine Am ?_
  walk_at "ww"
  exact BS ⟨_,_,⟨tp,ns,_,_,rfl,b,rfl,rfl⟩,trivial,λe h=>h,λp a=>⟨_,rfl,a⟩⟩
 |turn lo hi=>
  unfold aP
  walk_at "ww"
  refine B1 (by decide+kernel) ?_
  walk_at "ww"
  refine B1 (by decide+kernel) ?_
  walk_at "ww"
  refine B1 (by decide+kernel) ?_;refine Jb ?_;refine Gj ?_;refine Dp (Fg rfl (Am ?_))
  walk_at "ww"
  refine Am ?_
  walk_at "ww"
  exact BS ⟨_,_,⟨tp,ns,_,_,rfl,b,rfl,rfl⟩,trivial,λe h=>h,λp a=>⟨_,rfl,a⟩⟩
def ZGx:Ao ["row","low","high"] ["row","low","high"] (AO YO):=by walk_at "z1"
def ZEI(F:AE K "row_turned" "row_turned" YO f fd)(m:mg "row_turned"=some (.ref f)):
  AN P w K mg ZB "row_turned" 1 ["row","low","high"] (B6 Ye):=by
 refine Fz.hF (k:=0) F (by walk_at "bD3") m ZGx (by rintro _ _⟨ns,lo,hi,rfl,_,_,_,rfl⟩;rfl) λb=>⟨_,(AB rfl (AQ (Az IG (Az IG (Cy Ms C2 (A0 (GA Fz.PR (qv 0) Hc (FG (qv 1))) A3)) (gR rfl rfl C2 rfl Nq (A0 (GA Fz.PR (qv 0) (FG (qv 1)) (FG (qv 2))) A3))) (Cy Ms C2 (A0 (GA Fz.PR (qv 0) (FG (qv 2)) Hc) A3))))),?_⟩
 rintro _ _⟨ns,lo,hi,rfl,a,h1,h2,rfl⟩;show Ws [_,_,_] _ _ _
 walk_at "ww"
 refine BP (D7 (ZER ?_))
 walk_at "ww"
 rw[Va,xK _ h1 (by simpa using h2)]
 refine⟨by simp;omega,?_⟩
 walk_at "ww"
 rw[fi];refine⟨by simp;omega,?_⟩;unfold GN;simp only[Ec,Oi,RD,ZIP]
def sF:Ao ["row","name","at"] ["row","name","at"] (AO VZ):=by walk_at "z1"
def ZDv(F:AE K "row_with" "row_with" VZ f fd)(m:mg "row_with"=some (.ref f)):
  AN P w K mg ZB "row_with" 1 ["row","name","at"] (B6 kB):=by
 refine Fz.hF (k:=0) F (by walk_at "bD3") m sF (by rintro _ _⟨tp,ns,x,i,rfl,_,rfl⟩;rfl) λb=>⟨_,(AB rfl (AQ (Az IG (Az IG (Cy Ms C2 (A0 (GA Fz.PR (qv 0) Hc (FG (qv 2))) A3)) (Er (A0 (qv 1) A3))) (Cy Ms C2 (A0 (GA Fz.PR (qv 0) (FG (qv 2)) Hc) A3))))),?_⟩
 rintro _ _⟨tp,ns,x,i,rfl,a,rfl⟩;show Ws [_,_,_] _ _ _
 walk_at "ww"
 rw[Va];refine⟨by simp,?_⟩
 walk_at "ww"
 refine⟨by simp;omega,?_⟩
 walk_at "ww"
 rw[fi];refine⟨by simp;omega,?_⟩;unfold ins;simp only[Ec,Oi,CA,RD,C5,List.singleton_append]
def ZGI:Ao ["row","name"] ["row","name"] (AO T5):=by walk_at "z1"
def xj:=Sb [(".0",.local),("thing",.local),("name",.free)]
def ZFb:Fj ["row","name"] (AO T5) xj "thing" ["name"] [1]:=by walk_at "z2"
def ZHf(F:AE K "row_without" "row_without" T5 f fd)(m:mg "row_without"=some (.ref f)):
  AN P w K mg ZB "row_without" 1 ["row","name"] (B6 fe):=by
 refine Fz.hF (k:=0) F (by walk_at "bD2") m ZGI (by rintro _ _⟨tp,ns,x,rfl,_,rfl⟩;rfl) λc=>⟨_,(AB rfl (AQ (KU rfl ZFb (IK (qv 0)) (λ_ _ _ _=>by exact(LZ (AR Js (qv 1) (qv 0)))) (λ_ _ _ _=>by exact(qv 1))))),?_⟩
 rintro _ _⟨tp,ns,x,rfl,b,rfl⟩;show Ws [_,_] _ _ _;refine OT (ZV PV.str (λy=>!alike (.str y) (.str x)) PV.str ?_ str_inj)
 walk_at "ww"
 refine⟨by omega,λy a=>by walk_at "ww"; rfl,λy a _=>by walk_at "ww"; rfl,?_⟩
 rw[gF]
def ZCv:Ao ["row","deed"] ["row","deed"] (AO XR):=by walk_at "z1"
def ZDu(F:AE K "done" "done" XR f fd)(m:mg "done"=some (.ref f)):
  C8 P w K mg ZB "done" 6 ["row","deed"] (C6 (fH ⟨B8,B9,AV,B0,BI⟩)):=by
 refine Fz.hX (k:=5) F (by walk_at "bD2") m ZCv (by rintro _ _ _⟨ns,d,rfl,_,_,rfl,rfl⟩;rfl) λE a=>⟨_,(AA rfl (EZ (FD bx a (by decide) Dw rfl (A0 (qv 0) (A0 (qv 1) A3))))
   (AA rfl (Ah (AR BR (AF AL (qv 1) A4) AM) (AB rfl (AQ (Ac UD a (A0 (qv 0) (A0 (AF AL (qv 1) A4) (A0 (AF AL (qv 1) A4) A3)))))) Al)
   (AA rfl (Ah (AR BR (AF AL (qv 1) A4) AM) (AB rfl (AQ (Ac Ts a (A0 (qv 0) (A0 (AF AL (qv 1) A4) A3))))) Al)
   (AA rfl (Ah (AR BR (AF AL (qv 1) A4) AM) (AB rfl (AQ (Ac UD a (A0 (Ac Ts a (A0 (qv 0) (A0 (AF AL (qv 1) A4) A3))) (A0 (AF AL (qv 1) A4) (A0 (AF AL (qv 1) A4) A3)))))) Al)
   (AB rfl (AQ (Ac Xt a (A0 (qv 0) (A0 (AF AL (qv 1) A4) (A0 (AF AL (qv 1) A4) A3)))))))))),?_⟩
 rintro _ _ _⟨ns,d,rfl,b,c,rfl,rfl⟩;intro i0;show Ws [_,_] _ _ _;refine Ap (Jb ?_);refine Gj ?_;refine Dp (Fg rfl (Am (A8 rfl (BS ⟨_,_,⟨false,ns,d,rfl,b,rfl,rfl⟩,trivial,λe h=>h,?_⟩))));intro _ hd;obtain⟨d',DY⟩:=Ag.good hd;have hx:=Is.zI b DY;have ok:=DY.2;rw[DY.1];cases d' with
 |put x i=>
  unfold dP
  walk_at "ww"
  refine Bj (by decide+kernel) ?_;refine OT (Ov (Dp (Fg rfl (Am ?_))))
  walk_at "ww"
  refine Am ?_
  walk_at "ww"
  exact BS ⟨_,⟨false,ns,x,i,rfl,by omega,rfl⟩,λxs h=>⟨_,DY,h⟩⟩
 |take x=>
  unfold dP
  walk_at "ww"
  refine B1 (by decide+kernel) ?_;refine AZ ?_
  walk_at "ww"
  refine Bj (by decide+kernel) ?_;refine OT (Ov (Dp (Fg rfl (Am ?_))))
  walk_at "ww"
  exact BS ⟨_,⟨false,ns,x,rfl,by omega,rfl⟩,λxs h=>⟨_,DY,h⟩⟩
 |move x i=>
  unfold dP
  walk_at "ww"
  refine B1 (by decide+kernel) ?_;refine AZ ?_
  walk_at "ww"
  refine B1 (by decide+kernel) ?_;refine AZ ?_
  walk_at "ww"
  refine Bj (by decide+kernel) ?_;refine OT (Ov (Dp (BP (D7 (Ov (Dp (Fg rfl (Am ?_))))))))
  walk_at "ww"
  refine BS ⟨_,⟨false,ns,x,rfl,by omega,rfl⟩,?_⟩;rintro _ rfl;refine⟨_,.inl ⟨rfl,Am ?_⟩⟩
  walk_at "ww"
  refine Am ?_
  walk_at "ww"
  have g:(wo ns x).length<=ns.length:=Of _ _;exact BS ⟨_,⟨false,wo ns x,x,i,rfl,by omega,rfl⟩,λxs h=>⟨_,DY,h⟩⟩
 |turn lo hi=>
  unfold dP
  walk_at "ww"
  refine B1 (by decide+kernel) ?_;refine AZ ?_
  walk_at "ww"
  refine B1 (by decide+kernel) ?_;refine AZ ?_
  walk_at "ww"
  refine B1 (by decide+kernel) ?_;refine AZ ?_;refine OT (Ov (Dp (Fg rfl (Am ?_))))
  walk_at "ww"
  refine Am ?_
  walk_at "ww"
  exact BS ⟨_,⟨ns,lo,hi,rfl,by omega,ok.1,ok.2,rfl⟩,λxs h=>⟨_,DY,h⟩⟩
def bC:Ao ["self","deed","behind","loop"] ["self","deed"] (AO cH):=by walk_at "z1"
def ZHm(F:AE K "follows_deed" "Course.follows_deed" cH f fd)(n:Meth K A7 "follows_deed" f):
  Dz P w K mg ZB A7 "follows_deed" 9 ["self","deed"] (Bx (Uc A7 AJ)):=by
 refine⟨f,fd,Fz.NG (k:=8) F bC (by rintro _ _⟨s,a,t,d,rfl,_,_,_,_,rfl⟩;rfl) λg=>⟨_,(AA rfl (rD rfl rfl (by rfl) FT (λ_ _ _ g1=>by exact(AB rfl (Au 2 bC.nd (FD aG g (by decide) g1 rfl (A0 (show QE _ _ (L8 K _ _)from Cf (qv 0)) (A0 (qv 1) A3)))))) (λ_=>by exact(AB rfl (AQ Cu))))
   (AA rfl (D0 (KQ LU rfl (IK (Cy (Lq rfl) C2 (A0 (Cf (qv 0)) A3))) (D3 3 bC.nd) (AB rfl (EZ (Gr ag g (by decide) (qv 0) (A0 (qv 3) (A0 (qv 1) A3)))))))
   (AA rfl (LH (qv 0) (qv 2))
   (AB rfl (AQ Cu))))),?_⟩,(F.binds (by walk_at "bD2")),n,BC⟩
 rintro _ _⟨s,a,t,d,rfl,o,ok,c,hn,rfl⟩;obtain⟨dx,aL,aS,us,BH,rfl⟩:=o;show Ws [_,_,.any,.any] _ _ _;have l1:=ok.l1;have l2:=ok.l2;have u:=JE ok.n1 ok.sub;refine Ap (uL (λAI=>AI=[.ow true (Bk s A7 a dx aL aS us),.is (aP d),.any,.any]) (λx=>d.B3 ⟨B8,B9,AV,B0,BI⟩ s.row=some x) (λE=>?_) (λIQ x q l=>?_))
 .letI:Xw:=HZ E (λAI=>AI=[.ow true (Bk s A7 a dx aL aS us),.is (aP d),.any,.any]) (λx=>d.B3 ⟨B8,B9,AV,B0,BI⟩ s.row=some x);refine Vd (ZDe (Dp (BP (DL (Pm rfl BC Dk ⟨_,rfl,_,.inl ⟨rfl,Am (A8 rfl (BS ⟨_,_,⟨s.row,d,rfl,c,ok.row.len,rfl,rfl⟩,rfl,λe h=>h,?_⟩))⟩⟩)))));rintro _⟨d',DY,rfl⟩;clear this;show Ws [.ow true (Bk s A7 a dx aL aS us),.is (aP d),.own ((d'.done s.row).map .str),.any] _ _ _;refine V2 2 rfl ?_;rw[DY.1];have m:=Ag.bT c DY;refine Ap (GO (MH (λ_ i AI=>∃(b:Slot)(t':OV),AI=[.ow true t',.is (dP d'),.is (.lst ((d'.done s.row).map .str)),b]/\DE (Em s d' i) A7 AJ a t') (QU (Kf (D7 (fk (Kn rfl BC Cc ⟨Ae s.ln,aL,_,rfl,by unfold Ae;rw[AK];omega,_,.inl ⟨rfl,?_⟩⟩)))))));rw[Lv];refine⟨⟨_,_,rfl,dx,aL,aS,us,BH,rfl⟩,?_,?_⟩
  .rintro i p AI j⟨b,t',rfl,HN⟩;rw[Bb]at j;obtain⟨x,hx,rfl⟩:=Option.map_eq_some_iff.mp j;refine NF ?_;obtain⟨dx',M6,MX,us',ID,rfl⟩:=id HN;refine X1 (i:=0) (OH rfl (by decide+kernel) (EJ (A8 rfl (EJ (A8 rfl (Gw ⟨_,⟨s,a,_,d',i,x,rfl,HN,ok,hx,DY.2,m,hn,rfl⟩,?_⟩))))));rintro _ r⟨rfl,Cj⟩;obtain⟨nk,G9,rfl⟩:=Cj.nd;exact⟨nk,G9,rfl,_,_,rfl,Cj⟩
  .rintro AI⟨b,t',rfl,HN⟩;rw[AK]at HN;obtain⟨dx',M6,MX,us',ID,rfl⟩:=HN;refine Ap (Jg (i:=0) (t:=Bk (Em s d' s.ln.length) A7 a dx' M6 MX us') (E7 (A8 rfl (DK rfl ⟨true,A7,dx',GR,a,_,rfl,rfl,BC,Dk,by decide,BA,?_⟩))));rw[OV.GQ];refine EF (i:=0) rfl (Cg (.inl ⟨⟨d'.done s.row,s.ln,s.ll.map (Lp.led s.row d'),s.sn,Cp s d' s.ln.length⟩,?_,rfl,dx',M6,MX,us',ID,?_⟩))
   .unfold HU;rw[dy DY]
   .rw[<- oQ,<- l1];rfl
 .subst q;refine⟨qE ZG l,EF (i:=0) rfl (Cg (.inr ⟨?_,rfl,dx,aL,aS,us,BH,rfl⟩))⟩;unfold HU;rw[ko l]
def ZB3:Ao ["self","entry"] ["self","entry"] (AO ZO):=by walk_at "z1"
def ZGY(F:AE K "follows" "Course.follows" ZO f fd)(l:Meth K A7 "follows" f):
  Dz P w K mg ZB A7 "follows" 10 ["self","entry"] (Bx (c6 A7 AJ)):=by
 refine⟨f,fd,Fz.NG (k:=9) F ZB3 (by rintro _ _⟨s,a,t,e,rfl,_,_,_,_,rfl⟩;rfl) λg=>⟨_,(AA rfl (Ah (AR BR (AF AL (qv 1) A4) AM) (AB rfl (AQ (Gr Yx g (by decide) (qv 0) (A0 (AF AL (qv 1) A4) (A0 (AF AL (qv 1) A4) A3))))) Al)
   (AA rfl (Ah (AR BR (AF AL (qv 1) A4) AM) (AB rfl (AQ (Gr bS g (by decide) (qv 0) (A0 (AF AL (qv 1) A4) (A0 (AF AL (qv 1) A4) A3))))) Al)
   (AA rfl (Ah (AR BR (AF AL (qv 1) A4) AM) (AB rfl (AQ (Gr Yb g (by decide) (qv 0) (A0 (AF AL (qv 1) A4) A3)))) Al)
   (AB rfl (AQ (Gr Yd g (by decide) (qv 0) (A0 (qv 1) A3))))))),?_⟩,(F.binds (by walk_at "bD2")),l,BC⟩
 rintro _ _⟨s,a,t,e,rfl,c,ok,j,hn,rfl⟩;obtain⟨dx,aL,aS,us,BH,rfl⟩:=id c;show Ws [_,_] _ _ _;have nd:∀{o:Option Ls}{p:PV}{t':OV},EH (λs t=>DE s A7 AJ a t) s o p t'->∃En us',t'=.nd En a us'/\(∃nk a us,t'=.nd nk a us)/\EH (λs t=>DE s A7 AJ a t) s o p t':=λh=>by
  obtain⟨nk,us,e⟩:=h.nd λ_ _ h=>h.nd;exact⟨nk,us,e,⟨nk,a,us,e⟩,h⟩
 cases e with
 |J5 x r=>
  show Ws [_,.is (.tup [.str "begin",.str x,.str r])] _ _ _
  walk_at "ww"
  refine Bj (by decide+kernel) ?_;refine OW (i:=0) rfl (OH rfl (by decide+kernel) (EJ ?_))
  walk_at "ww"
  refine EJ ?_
  walk_at "ww"
  exact Gw ⟨_,⟨s,a,_,x,r,rfl,c,ok,j.1,j.2,hn,rfl⟩,λp t' h=>nd h⟩
 |tell x y=>
  show Ws [_,.is (.tup [.str "tell",.str x,.str y])] _ _ _
  walk_at "ww"
  refine B1 (by decide+kernel) (AZ ?_)
  walk_at "ww"
  refine Bj (by decide+kernel) ?_;refine OW (i:=0) rfl (OH rfl (by decide+kernel) (EJ ?_))
  walk_at "ww"
  refine EJ ?_
  walk_at "ww"
  exact Gw ⟨_,⟨s,a,_,x,y,rfl,c,ok,hn,rfl⟩,λp t' h=>nd h⟩
 |over x=>
  show Ws [_,.is (.tup [.str "over",.str x])] _ _ _
  walk_at "ww"
  refine B1 (by decide+kernel) (AZ ?_)
  walk_at "ww"
  refine B1 (by decide+kernel) (AZ ?_)
  walk_at "ww"
  refine Bj (by decide+kernel) ?_;refine OW (i:=0) rfl (OH rfl (by decide+kernel) (EJ ?_))
  walk_at "ww"
  exact Gw ⟨_,⟨s,a,_,x,rfl,c,ok,rfl⟩,λp t' h=>nd h⟩
 |G1 d=>
  have b:∀nx,Ws [.ow true (Bk s A7 a dx aL aS us),.is (aP d)] (Hy (MC A7 "follows_deed" (Bx (Uc A7 AJ)) [] E0 (BW 0) (An (BW 1) BQ))) nx (.mt (EH (λs t=>DE s A7 AJ a t) s (Fe s (.G1 d)))):=λnx=>OW (i:=0) rfl (OH rfl (by decide+kernel) (EJ (A8 rfl (Gw ⟨_,⟨s,a,_,d,rfl,c,ok,j,hn,rfl⟩,λp t' h=>nd h⟩))));show Ws [_,.is (aP d)] _ _ _;cases d with
  |_=>
   unfold aP at b ⊢;dsimp only at b ⊢
   walk_at "ww"
   refine B1 (by decide+kernel) (AZ ?_)
   walk_at "ww"
   refine B1 (by decide+kernel) (AZ ?_)
   walk_at "ww"
   refine B1 (by decide+kernel) (AZ ?_);exact b _
def TL:Ao ["row","log","course","number","entry"] ["row","log"] (AO W6):=by walk_at "z1"
def ZDd(F:AE K "course_of" "course_of" W6 f fd)(m:mg "course_of"=some (.ref f)):
  C8 P w K mg ZB "course_of" 11 ["row","log"] (C6 (Xp A7 AJ B7)):=by
 refine Fz.hX (k:=10) F (by walk_at "bD2") m TL (by rintro _ _ _⟨tp,ns,es,rfl,_,_,_,rfl,rfl⟩;rfl) λE c=>⟨_,(AA rfl (Au 2 TL.nd (kq bp c (by decide) Vh (A0 (qv 0) A3)))
   (AA rfl (D0 (KQ u0 rfl (ZDW rfl ax (A0 (qv 1) A3)) (OF rfl (Eg (D3 3 TL.nd) (Eg (D3 4 TL.nd) OI))) (AB rfl (Ah (Ek (GF (Gr cO c (by decide) (qv 2) (A0 (qv 4) A3)))) (AB rfl (JI XG (by rfl) OB c (by decide) rfl rfl Dw (A0 (qv 3) A3))) Al))))
   (AB rfl (AQ (qv 2))))),?_⟩
 rintro _ _ _⟨tp,ns,es,rfl,c,n,x,rfl,rfl⟩;intro i0;show Ws [_,_,.any,.any,.any] _ _ _;refine Ap (Ul (eI (EJ (A8 rfl (Gw λb e=>⟨_,⟨b,e,tp,ns,rfl,rfl⟩,?_⟩)))));rintro _ _⟨rfl,aL,aS,rfl⟩;refine⟨rfl,_,_,rfl,?_⟩;show Ws [.is (OO tp (ns.map .str)),.is (.lst (es.map LE.P)),.ow false (Bk (D4 ns) A7 b e aL aS []),.any,.any] _ _ _;refine Ap (GO (MH (λ_ i AI=>∃(j s4:Slot)(t':OV)(s:Ls),AI=[.is (OO tp (ns.map .str)),.is (.lst (es.map LE.P)),.ow false t',j,s4]/\runs (D4 ns) (es.take i)=some s/\DE s A7 AJ b t') (pO (Kf (A8 rfl ⟨_,.inl ⟨rfl,rfl,?_⟩⟩)))));refine⟨⟨_,_,_,D4 ns,rfl,rfl,e,aL,aS,[],R2.nil,rfl⟩,?_,?_⟩
 .rintro i p AI o⟨j,s4,t',s,rfl,a,h⟩;obtain⟨t,hx,rfl⟩:=ZFm o;rw[Bb]at hx;obtain⟨l,d,rfl⟩:=Option.map_eq_some_iff.mp hx;have ok:=nY (ZZ c) a;have q:=dA a;have hi:=(List.getElem?_eq_some_iff.mp d).1;rw[DM]at q;have v:(D4 ns).sn.length=0:=rfl;refine wZ ⟨_,_,rfl,?_⟩;obtain⟨dx',M6,MX,us',ID,rfl⟩:=id h;refine ZBm (i:=2) (fv (lW (OH rfl (by decide+kernel) (EJ (A8 rfl (Gw ⟨_,⟨s,b,_,l,rfl,h,ok,n l (EL d),by omega,rfl⟩,?_⟩))))));rintro _ u(⟨s',g,rfl,Cj⟩|⟨g,rfl,Cj⟩)
  .obtain⟨nk,G9,rfl⟩:=Cj.nd;refine⟨nk,G9,rfl,true,rfl,CT (AZ ⟨_,_,_,s',rfl,?_,Cj⟩)⟩;obtain⟨Il,r⟩:=List.getElem?_eq_some_iff.mp d;rw[VM Il,r,QR a,g]
  .obtain⟨nk,G9,rfl⟩:=Cj.nd;refine⟨nk,G9,rfl,false,rfl,Bj rfl (GC (A8 rfl ⟨?_,trivial,i,rfl,s,l,a,d,g⟩))⟩;exact KO (by omega)
 .rintro AI⟨j,s4,t',s,rfl,a,h⟩;rw[UM,AK,Mo]at a;exact rP (ZDf rfl ⟨s,b,a,h⟩)
def mq:Ao ["row","log","course"] ["row","log"] (AO Zv):=by walk_at "z1"
def ZBi(F:AE K "state_behind" "state_behind" Zv f fd)(m:mg "state_behind"=some (.ref f)):
  C8 P w K mg ZB "state_behind" 12 ["row","log"] (C6 (jI B7)):=by
 refine Fz.hX (k:=11) F (by walk_at "bD2") m mq (by rintro _ _ _⟨tp,ns,es,rfl,_,_,_,rfl,rfl⟩;rfl) λE b=>⟨_,(AA rfl (Au 2 mq.nd (FD My b (by decide) Dw rfl (A0 (qv 0) (A0 (qv 1) A3))))
   (AB rfl (AQ (BG (A0 (Cf (qv 2)) (A0 (Cf (qv 2)) A3)))))),?_⟩
 rintro _ _ _⟨tp,ns,es,rfl,b,g,c,rfl,rfl⟩;intro i0;show Ws [_,_,.any] _ _ _;refine Ap (Ul (dE (Am (A8 rfl (Am (A8 rfl (BS ⟨_,_,⟨tp,ns,es,rfl,b,g,c,rfl,rfl⟩,trivial,λe h=>h,λu d=>?_⟩)))))));obtain⟨s,a,i,dx,aL,aS,us,BH,rfl⟩:=d;refine fb 2 rfl ?_;show Ws [_,_,.is (Bk s A7 a dx aL aS us).pv] _ _ _;rw[b7];refine Bw (Gh (CH (Jk (A8 rfl ⟨A7,GR,_,0,_,rfl,BC,Dk,by decide+kernel,rfl,?_⟩))));refine CH (Jk (A8 rfl ⟨A7,GR,_,1,_,rfl,BC,Cc,by decide+kernel,rfl,Cw ⟨by simp,s,i⟩⟩))
def jx:Ao ["self","loop","tally"] ["self","loop"] (AO Zx):=by walk_at "z1"
def ZDD(F:AE K "tally_of" "Course.tally_of" Zx f fd)(b:Meth K A7 "tally_of" f):
  Dz P w K mg ZB A7 "tally_of" 3 ["self","loop"] (B6 (WL A7 AJ)):=by
 refine⟨f,fd,Fz.ZT (k:=2) F jx (by rintro _ _⟨s,xs,x,q,rfl,_,_,_,rfl⟩;rfl) λa=>⟨_,(AA rfl (Au 2 jx.nd (Bn (BF a) (Cf (qv 0)) (qv 1) (λ_ _=>rfl)))
   (AB rfl (AQ (BG (A0 (Cf (qv 2)) (A0 (Cf (qv 2)) (A0 (Cf (qv 2)) (A0 (Cf (qv 2)) (A0 (Ar Bo Aj (A0 (Gr GL a (by decide) (qv 0) (A0 (qv 1) A3)) A3)) A3))))))))),?_⟩,(F.binds (by walk_at "bD2")),b,BC⟩
 rintro _ _⟨s,xs,x,q,rfl,d,hx,c,rfl⟩;show Ws [_,_,.any] _ _ _;refine Ap (FO (GU (Jk (A8 rfl ⟨A7,GR,_,2,_,rfl,BC,EI,by decide+kernel,rfl,Ae s.sn,_,rfl,A8 rfl ⟨.inr x,_,rfl,Sd hx c,?_⟩⟩))));refine Bw (Gh (CH (Jk (A8 rfl ⟨AJ,_,_,0,_,rfl,EA,NI,by decide+kernel,rfl,?_⟩))));refine CH (Jk (A8 rfl ⟨AJ,_,_,1,_,rfl,EA,Jj,by decide+kernel,rfl,?_⟩));refine CH (Jk (A8 rfl ⟨AJ,_,_,2,_,rfl,EA,K7,by decide+kernel,rfl,?_⟩));refine CH (Jk (A8 rfl ⟨AJ,_,_,3,_,rfl,EA,Ja,by decide+kernel,rfl,?_⟩));refine CH (D5 (BP (ZCP (A8 rfl ⟨GR,_,rfl,by decide+kernel,Am (A8 rfl (BS ⟨_,⟨s,xs,x,rfl,d,rfl⟩,?_⟩))⟩))));rintro _ rfl;refine⟨_,.inr ⟨rfl,Cw ⟨by simp,?_⟩⟩⟩;rw[AK];rfl
def kA:Ao ["row","log","loop","course"] ["row","log","loop"] (AO Y3):=by walk_at "z1"
def ZEN(F:AE K "tallied" "tallied" Y3 f fd)(m:mg "tallied"=some (.ref f)):
  C8 P w K mg ZB "tallied" 12 ["row","log","loop"] (C6 (dI B7 AV)):=by
 refine Fz.hX (k:=11) F (by walk_at "bD3") m kA (by rintro _ _ _⟨tp,ns,es,y,rfl,_,_,_,_,rfl,rfl⟩;rfl) λE c=>⟨_,(AA rfl (Au 3 kA.nd (FD My c (by decide) Dw rfl (A0 (qv 0) (A0 (qv 1) A3))))
   (AA rfl (Ah (Ot (BF c) (qv 2) (Cf (qv 3))) (AB rfl (JI OM (by rfl) K3 c (by decide) rfl rfl Dw (A0 (qv 2) A3))) Al)
   (AB rfl (AQ (Gr Zs c (by decide) (qv 3) (A0 (qv 2) A3)))))),?_⟩
 rintro _ _ _⟨tp,ns,es,x,rfl,c,l,j,h,rfl,rfl⟩;intro i0;show Ws [_,_,_,.any] _ _ _;refine Ap (Ul (dE (Am (A8 rfl (Am (A8 rfl (BS ⟨_,_,⟨tp,ns,es,rfl,c,l,j,rfl,rfl⟩,trivial,λe o=>.inl o,λu d=>?_⟩)))))));obtain⟨s,a,g,dx,aL,aS,us,BH,rfl⟩:=d;show Ws [_,_,_,.ow false (Bk s A7 a dx aL aS us)] _ _ _;have ok:=nY (ZZ c) g;refine Ap (Bg (Dv (U4 (i:=3) (A8 rfl (Qz rfl BC EI ⟨Ae s.sn,aS,us,.inr x,rfl,rfl,_,rfl,?_⟩)))));rw[K5]
 by_cases hx:x∈s.sn
 .rw[pX hx];refine B1 (by decide) (AZ ?_);obtain⟨q,n⟩:∃q,s.sq[s.sn.idxOf x]?=some q:=⟨_,BK (by have:=List.idxOf_lt_length_iff.mpr hx;have:=ok.l2;omega)⟩;obtain⟨u,d,e,b,rfl⟩:=BH.get n;refine Bw (lz (i:=3) (DK rfl ⟨dx,GR,a,_,rfl,by decide+kernel,iw (A8 rfl (lY ⟨_,⟨s,us.map OV.pv,x,q,vB (λp=>[Slot.is p,.is (.str x)]) b7,ok.l1,hx,?_,rfl⟩,?_⟩))⟩))
  .rw[Bb,d];show some _=_;rw[OV.pv,Rg]
  .rintro _ rfl;exact⟨rfl,s,g,hx⟩
 .rw[uK hx];exact Bj rfl (GC (A8 rfl ⟨h.1,trivial,.inr ⟨s,g,hx,rfl⟩⟩))
def Tw:Ao ["first","log","loop","found","e"] ["first","log","loop"] (AO Zd):=by walk_at "z1"
def ZB6(F:AE K "_law_refusal" "_law_refusal" Zd f fd)(m:mg "_law_refusal"=some (.ref f)):
  AN P w K mg ZB "_law_refusal" 13 ["first","log","loop"] (B6 (b4 B7 AV)):=by
 refine Fz.hF (k:=12) F (by walk_at "bD3") m Tw (by rintro _ _⟨ns,es,o,rfl,_,_,_,_,rfl⟩;rfl) λa=>⟨_,(AA rfl (Au 3 Tw.nd Iv)
   (AA rfl (ZGb (j:=4) rfl rfl Tw.nd rfl rfl (by rfl) FT (λ_ _ _ g1=>by exact(AB rfl (Ah (AR nJ (qv 2) Iv) (AB rfl (EZ (FD YL a (by decide) g1 rfl (A0 (qv 0) (A0 (qv 1) A3))))) (AB rfl (EZ (FD XZ a (by decide) g1 rfl (A0 (qv 0) (A0 (qv 1) (A0 (qv 2) A3))))))))) (λ_=>by exact(AB rfl (Au 3 Tw.nd (qv 4)))))
   (AB rfl (AQ (qv 3))))),?_⟩
 rintro _ _⟨ns,es,o,rfl,a,d,c,g,rfl⟩;show Ws [_,_,_,.any,.any] _ _ _
 walk_at "ww"
 refine zT (λAI=>AI=[.is (.lst (ns.map .str)),.is (.lst (es.map LE.P)),.is (Mt o),.is .A9,.any]) (λx=>Rv B7 ns es x∨∃y,o=some y/\∃s,runs (D4 ns) es=some s/\y∉s.sn/\x=HS AV y) (λE=>?_) (λIQ x l n=>?_)
 .letI:Xw:=HZ E (λAI=>AI=[.is (.lst (ns.map .str)),.is (.lst (es.map LE.P)),.is (Mt o),.is .A9,.any]) (λx=>Rv B7 ns es x∨∃y,o=some y/\∃s,runs (D4 ns) es=some s/\y∉s.sn/\x=HS AV y);refine Bg (C9 (gs (A8 rfl (Jp ⟨rfl,_,rfl,?_⟩))));cases o with
  |none=>
   refine Bj rfl ?_;refine Jb (Gj (Am (A8 rfl (Am (A8 rfl (BS ⟨_,_,⟨false,ns,es,rfl,a,d,c,rfl,rfl⟩,rfl,λe h=>.inl h,?_⟩))))));rintro _⟨s,b⟩;clear this;show Ws _ _ _ _;exact Bw (A8 rfl (.inr ⟨s,b,.inl ⟨rfl,rfl⟩⟩))
  |some y=>
   refine B1 (by simp[Mt,KZ]) ?_;refine Jb (Gj (Am (A8 rfl (Am (A8 rfl (Am (A8 rfl (BS ⟨_,_,⟨false,ns,es,y,rfl,a,d,c,g y rfl,rfl,rfl⟩,rfl,λe h=>?_,?_⟩))))))))
   .rcases h with h|h
    .exact .inl h
    .exact .inr ⟨y,rfl,h⟩
   rintro _⟨s,b,hx⟩;clear this;show Ws _ _ _ _;exact Bw (A8 rfl (.inr ⟨s,b,.inr ⟨y,rfl,.inl ⟨hx,rfl⟩⟩⟩))
 .subst l;rcases n with⟨i,rfl,hw⟩|⟨y,rfl,s,b,hx,rfl⟩
  .refine⟨YH,?_⟩;refine FO (A8 rfl ?_);show Ws _ _ _ _;exact Bw (A8 rfl (.inl ⟨i,hw,rfl⟩))
  .refine⟨Y8,?_⟩;refine FO (A8 rfl ?_);show Ws _ _ _ _;exact Bw (A8 rfl (.inr ⟨s,b,.inr ⟨y,rfl,.inr ⟨hx,rfl⟩⟩⟩))
def iB:Ao ["e","place","some"] ["e","place"] (AO Xi):=by walk_at "z1"
def ZG1(F:AE K "_law_alone" "_law_alone" Xi f fd)(m:mg "_law_alone"=some (.ref f)):
  AN P w K mg ZB "_law_alone" 1 ["e","place"] (B6 (mr K [B8,B9,AV,B0,C4,B7,Fh,FV,Fu,BI,FL,FJ,FI,FK,Fb,FN] CF)):=by
 refine Fz.hF (k:=0) F (by walk_at "bD2") m iB (by rintro _ _⟨C,ms,xs,i,rfl,_,_,_,rfl⟩;rfl) λb=>⟨_,(AA rfl (Au 2 iB.nd (Er (A0 (Ar EY D9 (A0 (qv 0) (A0 (DX (v:=.ref B8) (by rfl) Mu rfl) A3))) (A0 (Ar EY D9 (A0 (qv 0) (A0 (DX (v:=.ref B9) (by rfl) OA rfl) A3))) (A0 (Ar EY D9 (A0 (qv 0) (A0 (DX (v:=.ref AV) (by rfl) K3 rfl) A3))) (A0 (Ar EY D9 (A0 (qv 0) (A0 (DX (v:=.ref B0) (by rfl) HD rfl) A3))) (A0 (Ar EY D9 (A0 (qv 0) (A0 (DX (v:=.ref C4) (by rfl) NH rfl) A3))) (A0 (Ar EY D9 (A0 (qv 0) (A0 (DX (v:=.ref B7) (by rfl) OB rfl) A3))) (A0 (Ar EY D9 (A0 (qv 0) (A0 (DX (v:=.ref Fh) (by rfl) bh rfl) A3))) (A0 (Ar EY D9 (A0 (qv 0) (A0 (DX (v:=.ref FV) (by rfl) Yh rfl) A3))) (A0 (Ar EY D9 (A0 (qv 0) (A0 (DX (v:=.ref Fu) (by rfl) Wc rfl) A3))) (A0 (Ar EY D9 (A0 (qv 0) (A0 (DX (v:=.ref BI) (by rfl) NY rfl) A3))) (A0 (Ar EY D9 (A0 (qv 0) (A0 (DX (v:=.ref FL) (by rfl) Zy rfl) A3))) (A0 (Ar EY D9 (A0 (qv 0) (A0 (DX (v:=.ref FJ) (by rfl) Wf rfl) A3))) (A0 (Ar EY D9 (A0 (qv 0) (A0 (DX (v:=.ref FI) (by rfl) Xs rfl) A3))) (A0 (Ar EY D9 (A0 (qv 0) (A0 (DX (v:=.ref FK) (by rfl) bN rfl) A3))) (A0 (Ar EY D9 (A0 (qv 0) (A0 (DX (v:=.ref Fb) (by rfl) Zq rfl) A3))) (A0 (Ar EY D9 (A0 (qv 0) (A0 (DX (v:=.ref FN) (by rfl) Vk rfl) A3))) A3))))))))))))))))))
   (AA rfl (Ah (Dy (Ek (GF (Ar EY D9 (A0 (qv 0) (A0 (DX (v:=.ref CF) (by rfl) FT rfl) A3))))) (G2 (Ek (GF (Ar EY D9 (A0 (qv 0) (A0 (Ys "ValueError" VR) A3))))))).pt (AB rfl (AQ Cu)) Al)
   (AB rfl (AQ (NQ (IJ BR (Jw Mq PySem.F.slot_list_count PySem.F.type_list_count ZAH (qv 2) (A0 Cu A3)) A4) (LK (AF ER (qv 2) (qv 1)))))))),?_⟩
 rintro _ _⟨C,ms,xs,i,rfl,al,hi,_,rfl⟩;show Ws [_,_,.any] _ _ _
 walk_at "ww"
 refine Ew al rfl 0 rfl ?_
 walk_at "ww"
 refine Ew al rfl 1 rfl ?_
 walk_at "ww"
 refine Ew al rfl 2 rfl ?_
 walk_at "ww"
 refine Ew al rfl 3 rfl ?_
 walk_at "ww"
 refine Ew al rfl 4 rfl ?_
 walk_at "ww"
 refine Ew al rfl 5 rfl ?_
 walk_at "ww"
 refine Ew al rfl 6 rfl ?_
 walk_at "ww"
 refine Ew al rfl 7 rfl ?_
 walk_at "ww"
 refine Ew al rfl 8 rfl ?_
 walk_at "ww"
 refine Ew al rfl 9 rfl ?_
 walk_at "ww"
 refine Ew al rfl 10 rfl ?_
 walk_at "ww"
 refine Ew al rfl 11 rfl ?_
 walk_at "ww"
 refine Ew al rfl 12 rfl ?_
 walk_at "ww"
 refine Ew al rfl 13 rfl ?_
 walk_at "ww"
 refine Ew al rfl 14 rfl ?_
 walk_at "ww"
 refine Ew al rfl 15 rfl ?_
 walk_at "ww"
 refine⟨by simp,?_⟩;refine Ap (Bg (Fx (FE (Dv (bA al.ex rfl rfl al.st ⟨true,rfl,CT ?_⟩)))));refine FE (Dv (bA al.ex rfl rfl al.ve ⟨true,rfl,CT (AZ ?_)⟩));refine Bw (Sn (P2 (ZDM (YY rfl ⟨rfl,[decide (0=i),decide (1=i),decide (2=i),decide (3=i),decide (4=i),decide (5=i),decide (6=i),decide (7=i),decide (8=i),decide (9=i),decide (10=i),decide (11=i),decide (12=i),decide (13=i),decide (14=i),decide (15=i)],rfl,Cg ⟨true,rfl,Bu ?_⟩⟩))));have a:i<16:=hi;refine⟨rfl,_,rfl,Bj (by rw[ZGt a];rfl) (gJ (YY rfl ⟨rfl,A8 rfl ⟨_,_,rfl,ZDR a,rfl⟩⟩))⟩
def rC:Ao ["found"] ["found"] (AO YD):=by walk_at "z1"
def ZFS(F:AE K "_law_whole" "_law_whole" YD f fd)(m:mg "_law_whole"=some (.ref f)):
  AN P w K mg ZB "_law_whole" 1 ["found"] (B6 Y7):=by
 refine Fz.hF (k:=0) F (by walk_at "bD1") m rC (by rintro _ _⟨i,rfl,rfl⟩;rfl) λa=>⟨_,(AB rfl (AQ (NQ (Ar nq D9 (A0 (qv 0) (A0 (Ys "int" Ij) A3))) (LK (ZGR (Ar nq D9 (A0 (qv 0) (A0 (Ys "bool" aO) A3)))))))),?_⟩
 rintro _ _⟨i,rfl,rfl⟩;show Ws [_] _ _ _;refine Bw (Sn (m6 (A8 rfl ⟨true,vn _ _,_,rfl,J3 ?_⟩)));exact il (m6 (A8 rfl ⟨false,ZAa _,_,rfl,rfl⟩))
def IH:Ao ["script","rate","first","log","wrong","state","pot","strange","found","loop"] ["script"] (AO NL):=by walk_at "z1"
def ZHd(F:AE K "law" "law" NL f fd)(m:mg "law"=some (.ref f)):
  CQ P w K mg ZB DW 14 f fd ["script"] (PU K):=by
 refine(F.E4 (k:=13) IH (λvs H Q E h=>by obtain⟨a,ns,rfl,_⟩:=h;rfl) (λAi A outer s H vs Q E g h=>?_));refine⟨_,(AA rfl (D0 (KQ LU rfl (IK (BG (A0 A4 (A0 A4 A3)))) (D3 1 IH.nd) (AA rfl (L4 (Ac ZQ g (A0 (qv 0) (A0 (qv 1) A3))) (OF rfl (Eg (D3 2 IH.nd) (Eg (D3 3 IH.nd) (Eg (D3 4 IH.nd) (Eg (D3 5 IH.nd) OI))))))
   (AA rfl (Au 6 IH.nd (Ac Ld g (A0 (qv 0) (A0 A4 A3))))
   (AA rfl (Au 7 IH.nd (Ac Fl g (A0 (qv 6) (A0 (Cy (Lq rfl) C2 (A0 (Bn (BF g) (qv 5) AM (λ_ _=>rfl)) A3)) A3))))
   (AA rfl (Au 8 IH.nd (Ac Pn g (A0 (qv 2) (A0 (Er A3) (A0 (qv 7) A3)))))
   (AA rfl (Ah (Dy (AR YM (Ac Pn g (A0 (qv 2) (A0 (Er A3) (A0 Iv A3)))) Iv) (Dy (Ek (GF (Ac PN g (A0 (qv 8) (A0 A4 A3))))) (G2 (AR Js (UN (qv 8)) (qv 7))))).pt (AB rfl (AQ Cu)) Al)
   (AB rfl (KQ LU rfl (IK (Az IG (Er (A0 Iv (A0 (qv 7) A3))) (GA M8 (Cy (Lq rfl) C2 (A0 (Bn (BF g) (qv 5) AM (λ_ _=>rfl)) A3)) Hc (FG A4)))) (D3 9 IH.nd) (AA rfl (Au 8 IH.nd (Ac Pn g (A0 (qv 2) (A0 (qv 3) (A0 (qv 9) A3)))))
   (AB rfl (Ah (AR YM (qv 4) Iv) (AB rfl (Ah (Dy (Ek (GF (Ac PN g (A0 (qv 8) (A0 A4 A3))))) (Dy (Ek (GF (Ac ZN g (A0 (UN (qv 8)) A3)))) (G2 (AR (Fz.z8 g.units) (UN (qv 8)) (qv 4))))).pt (AB rfl (AQ Cu)) Al)) (AB rfl (Ah (AR BR (qv 9) (qv 7)) (AB rfl (Ah (Dy (Ek (GF (Ac PN g (A0 (qv 8) (A0 A4 A3))))) (G2 (AR Js (UN (qv 8)) (qv 7)))).pt (AB rfl (AQ Cu)) Al)) (AB rfl (Ah (AR YM (qv 8) Iv) (AB rfl (AQ Cu)) Al))))))))))))))))
   (AB rfl (AQ Cu))),?_⟩
 refine Fz.tR h ?_;intro sc Rk;have O8:=gH O8;have Ql:=gH Ql;show Ws [_,.any,.any,.any,.any,.any,.any,.any,.any,.any] _ _ _;refine Ap (GO (MH (λ_ _ AI=>me (.raw (E8 K sc)) AI) ?_))
 walk_at "ww"
 refine⟨by simp,_,.inr ⟨rfl,⟨_,_,_,_,_,_,_,_,_,rfl⟩,?_,?_⟩⟩
 .rintro u p AI D⟨s1,s2,S,s4,R,O,I,l,n,rfl⟩;obtain⟨r,rfl,C⟩:∃r:Nat,p=.int r/\r<=60:=by
   have m:=EL D;simp only[GY,BA,ZAO]at m;rcases m with rfl|rfl
   .exact⟨0,rfl,by decide⟩
   .exact⟨9,rfl,by decide⟩
  refine NF ?_;refine Ap (o7 (wp_call (ZFT rfl (Am (A8 rfl (BS ⟨_,⟨sc,r,rfl,Rk,C,rfl⟩,?_⟩))))));rintro _⟨ns,es,w,s,rfl,g,J,B⟩;refine pq ⟨_,_,_,_,rfl,?_⟩;have ok:=B.ok;have T:=B.len
  walk_at "ww"
  refine⟨by decide,by decide,?_⟩;show Ws [.raw (E8 K sc),.is (.int r),.is (.lst (ns.map .str)),.is (.lst (es.map LE.P)),.is w,.is (Du s),.AS,I,l,n] _ _ _;refine Ap (FO (Pa rfl (BP (D7 (Qp (GU (A8 rfl ⟨k3,_,rfl,DJ ⟨.inr "sums", _,rfl,rfl,Ae s.sn,_,rfl,by unfold Ae;rw[AK];omega,_,.inl ⟨rfl,rfl,s.sn,Lv _,ok.nm,by omega,λx hx nx=>?_⟩⟩⟩)))))));show Ws [.raw (E8 K sc),.is (.int r),.is (.lst (ns.map .str)),.is (.lst (es.map LE.P)),.is w,.is (Du s),.AS,.is (.str x),l,n] _ _ _;have G:=Hd hx;have IE:∀e∈([]:List LE),e.say:=λe h=>absurd h BA;have L:∀{ms:List Str}{i:Nat},¬ Hi ms [] i:=λ{ms i}⟨_,_,_,b,_⟩=>by cases b
  refine Ap (FO (wp_call (Am (A8 rfl (Am (D7 (T4 (Cw ⟨by simp,Am (A8 rfl (BS ⟨_,⟨ns,[],some x,rfl,g,IE,by decide,λy e=>by cases e;exact G,rfl⟩,?_⟩))⟩))))))));intro f j;obtain rfl:f=Nh (HS AV x):=by
   rcases j with⟨i,hw,_⟩|⟨s',v,⟨z,_⟩|⟨y,z,⟨t,_⟩|⟨_,e⟩⟩⟩
   .exact absurd hw L
   .cases z
   .cases v;exact absurd t BA
   .cases z;exact e
  refine Ap (Bg (Fx (C9 (TV (wp_call (Am (A8 rfl (Am (D7 (T4 (Cw ⟨by simp,Am (Jp (BS ⟨_,⟨ns,[],none,rfl,g,IE,by decide,λy e=>(by cases e),rfl⟩,?_⟩))⟩)))))))))));intro f j;obtain rfl:f=.A9:=by
   rcases j with⟨i,hw,_⟩|⟨s',v,⟨_,e⟩|⟨y,z,_⟩⟩
   .exact absurd hw L
   .exact e
   .cases z
  refine Jp ⟨rfl,_,rfl,B1 (by decide) ?_⟩;refine Fx (FE (Dv (wp_call (Am (A8 rfl (Am (Bu (BS ⟨_,⟨AV,_,_,2,rfl,O8,by show 2<16;decide,rfl,rfl⟩,?_⟩))))))));rintro _ rfl;refine⟨true,rfl,CT ?_⟩;refine C9 (bO (UL (A8 rfl ⟨AV,_,rfl,(R4 gx).toExGet,RK,U5,A8 rfl ⟨rfl,_,rfl,B1 (by rw[show ∀x:Str,alike (.str x) (.str x)=true from λ_=>pX rfl];decide) (AZ ?_)⟩⟩)));refine MH (λ_ _ AI=>∃l n:Slot,AI=[.raw (E8 K sc),.is (.int r),.is (.lst (ns.map .str)),.is (.lst (es.map LE.P)),.is w,.is (Du s),.AS,.is (.str x),l,n]) ?_;refine QU (Kf (D7 (eZ ?_)));refine BP (D7 (T4 (CH (Jp (CH (A8 rfl (Cw ⟨by simp,_,.inl ⟨rfl,rfl,?_⟩⟩)))))));refine BP (D7 (m7 (BP (D7 (Qp (GU (A8 rfl ⟨k3,_,rfl,DJ ⟨.inr "sums", _,rfl,rfl,Ae s.sn,_,rfl,by unfold Ae;rw[AK];omega,_,.inl ⟨rfl,rfl,?_⟩⟩⟩)))))))
  walk_at "ww"
  rw[show Fs ((Ae s.sn).map Ge) none (some 4)=(s.sn.take 4).map .str from by rw[Lv,Oi];exact Va _ 4];refine⟨by rw[AK,DM];simp;omega,_,.inl ⟨rfl,⟨_,_,rfl⟩,?_,λ_ h=>?_⟩⟩
  .rintro i p AI D⟨l,n,rfl⟩;obtain⟨o,rfl,ho⟩:∃o:Option Str,p=Mt o/\(o=none∨o=some x∨∃y,o=some y/\y∈s.sn):=by
    rcases List.mem_append.mp (EL D)with h|h
    .simp only[GY,BA,ZAO]at h;rcases h with rfl|rfl
     .exact⟨none,rfl,.inl rfl⟩
     .exact⟨some x,rfl,.inr (.inl rfl)⟩
    .obtain⟨y,t,rfl⟩:=List.mem_map.mp h;exact⟨some y,rfl,.inr (.inr ⟨y,rfl,cj t⟩)⟩
   have M:∀y,o=some y->Bz y:=λy e=>by
    rcases ho with h|h|⟨z,h,J⟩
    .rw[h]at e;cases e
    .rw[h]at e;cases e;exact G
    .rw[h]at e;cases e;exact Hd (ok.nm _ J)
   refine NF ?_;show Ws [.raw (E8 K sc),.is (.int r),.is (.lst (ns.map .str)),.is (.lst (es.map LE.P)),.is w,.is (Du s),.AS,.is (.str x),l,.is (Mt o)] _ _ _;refine Ap (FO (wp_call (Am (A8 rfl (Am (A8 rfl (Am (A8 rfl (BS ⟨_,⟨ns,es,o,rfl,g,B.say,by omega,M,rfl⟩,?_⟩)))))))));intro f j;rcases B.fst with⟨rfl,v⟩|⟨i0,rfl,hw⟩
   .refine Bg (C9 (TV (A8 rfl (Jp ⟨rfl,_,rfl,B1 (by decide) ?_⟩))));have j:(o=none/\f=.A9)∨∃y,o=some y/\((y∈s.sn/\f=.A9)∨(y∉s.sn/\f=Nh (HS AV y))):=by
     rcases j with⟨i,hw,_⟩|⟨s',Ry,h⟩
     .exact absurd v (lT hw)
     .rw[v]at Ry;cases Ry;exact h
    refine Bg (C9 (P2 (A8 rfl (A8 rfl ⟨?_,_,rfl,?_⟩))))
    .cases o <;> rfl
    by_cases c:o=some x
    .subst c;obtain rfl:f=Nh (HS AV x):=by
      rcases j with⟨z,_⟩|⟨y,z,⟨t,_⟩|⟨_,e⟩⟩
      .cases z
      .cases z;exact absurd t nx
      .cases z;exact e
     refine Bj (pX rfl) ?_;refine Bg (Fx (FE (Dv (wp_call (Am (A8 rfl (Am (Bu (BS ⟨_,⟨AV,_,_,2,rfl,O8,by show 2<16;decide,rfl,rfl⟩,?_⟩)))))))));rintro _ rfl;refine⟨true,rfl,CT ?_⟩;exact C9 (bO (UL (A8 rfl ⟨AV,_,rfl,(R4 gx).toExGet,RK,U5,A8 rfl ⟨rfl,_,rfl,B1 (by rw[show ∀x:Str,alike (.str x) (.str x)=true from λ_=>pX rfl];decide) (AZ ⟨_,_,rfl⟩)⟩⟩)))
    .obtain rfl:f=.A9:=by
      rcases j with⟨_,e⟩|⟨y,z,⟨_,e⟩|⟨t,_⟩⟩
      .exact e
      .exact e
      .rcases ho with h|h|⟨q,h,hq⟩
       .rw[h]at z;cases z
       .exact absurd h c
       .rw[h]at z;cases z;exact absurd hq t
     refine B1 ?_ ?_
     .cases o with
      |none=>exact Dc
      |some y=>exact λz=>c (vB some (sE z))
     exact Bg (C9 (TV (A8 rfl (Jp ⟨rfl,_,rfl,B1 (by decide) (AZ ⟨_,_,rfl⟩)⟩))))
   .refine Bg (C9 (TV (A8 rfl (Jp ⟨rfl,_,rfl,Bj rfl ?_⟩))));obtain rfl:f=Nh (U9 B7 i0):=by
     rcases j with⟨i,N,e⟩|⟨s',Ry,_⟩
     .rw[e,ZCm N hw]
     .exact absurd Ry (lT hw)
    have d:dat K 40 (.int i0):=trivial;refine Bg (Fx (FE (Dv (wp_call (Am (A8 rfl (Am (Bu (BS ⟨_,⟨B7,_,_,5,rfl,Ql,by show 5<16;decide,rfl,rfl⟩,?_⟩)))))))));rintro _ rfl;refine⟨true,rfl,CT ?_⟩;refine Fx (FE (Dv (wp_call (Am (UL (A8 rfl ⟨B7,_,rfl,(R4 lx).toExGet,TM,UZ,BS ⟨_,⟨i0,rfl,rfl⟩,?_⟩⟩))))));rintro _ rfl;refine⟨true,rfl,CT ?_⟩;exact C9 (nG (UL (A8 rfl ⟨B7,_,rfl,(R4 lx).toExGet,TM,UZ,A8 rfl ⟨d,d,_,rfl,B1 (by rw[vC 40 d];decide) (AZ ⟨_,_,rfl⟩)⟩⟩)))
  .obtain⟨l,n,rfl⟩:=h;exact⟨_,_,_,_,_,_,_,_,_,rfl⟩
 .rintro AI⟨s1,s2,S,s4,R,O,I,l,n,rfl⟩;exact Bw (Cg rfl)
def all_mk{h:Heap}{fa f1 f2 f3 f4 f5 f6 f7 f8 f9 oH fQ gB nB nQ kP hV iX jP fN jt iy fZ Tg Rq iZ iV kE U7 V1 iU ky jc Sf RV l9 iN eY lb iC nV RQ ni gM fE ij dO mf mn gC SR Ti jl o5 SG gv jC gK fw jm:Addr}{g1 g2 g3 g4 g5 g6 g7 g8 g9 g10 g11 uR g13 ua sG yk g17 qL g19 g20 wd wK qd g24 g25 g26 g27 yX g29 wQ yh g32 wy g34 wH g36 xV ze g39 rl qP g42 g43 g44 w8 g46 g47 rq g49 yB g51 g52 rQ g54 g55 g56 qS tH uh:FuncData}(X:K.In h)(G:h.Ns mainGlobals mg)(zl:mg "law"=some (.ref fa))
  
  (ZFe:PySem.W.nsIn K mainGlobals "Course"=some (some (.ref A7)))
  (ZAh:PySem.W.plainGet K A7 Str.empty=true)
  (ZAU:PySem.W.hasDictIn K A7=true)
  (ZDq:PySem.W.plainOver K A7=true)
  (rJ:PySem.W.findIn K (.ref A7) "__setattr__"=some (some (.builtin "object.__setattr__")))
  (sI:PySem.W.makesIn K A7=true)
  (xl:PySem.W.keepIn K (.ref A7)=true)
  (qT:PySem.W.nsIn K mainGlobals "Tally"=some (some (.ref AJ)))
  (ZHY:PySem.W.plainGet K AJ Str.empty=true)
  (ZGC:PySem.W.hasDictIn K AJ=true)
  (pP:PySem.W.plainOver K AJ=true)
  (ZA2:PySem.W.findIn K (.ref AJ) "__setattr__"=some (some (.builtin "object.__setattr__")))
  (x6:PySem.W.makesIn K AJ=true)
  (zt:PySem.W.keepIn K (.ref AJ)=true)
  (Cc:PySem.W.findIn K (.ref A7) "running"=some none)
  (Dk:PySem.W.findIn K (.ref A7) "standing"=some none)
  (EI:PySem.W.findIn K (.ref A7) "tallies"=some none)
  (Jj:PySem.W.findIn K (.ref AJ) "joined"=some none)
  (NI:PySem.W.findIn K (.ref AJ) "stood"=some none)
  (Ja:PySem.W.findIn K (.ref AJ) "taken"=some none)
  (K7:PySem.W.findIn K (.ref AJ) "told"=some none)
  (a1:nS K "_law_pot" (.ref f1)) (F1:AE K "_law_pot" "_law_pot" YS f1 g1)
  (a2:nS K "_law_take" (.ref f2)) (F2:AE K "_law_take" "_law_take" Wv f2 g2)
  (a3:nS K "_law_letters" (.ref f3)) (F3:AE K "_law_letters" "_law_letters" Z7 f3 g3)
  (a4:nS K "_law_name" (.ref f4)) (F4:AE K "_law_name" "_law_name" Yq f4 g4)
  (a5:nS K "_law_names" (.ref f5)) (F5:AE K "_law_names" "_law_names" X8 f5 g5)
  (a6:nS K "_law_row" (.ref f6)) (F6:AE K "_law_row" "_law_row" YZ f6 g6)
  (a7:nS K "_law_deed" (.ref f7)) (F7:AE K "_law_deed" "_law_deed" Wy f7 g7)
  (a8:nS K "_law_rule" (.ref f8)) (F8:AE K "_law_rule" "_law_rule" Ya f8 g8)
  (a9:nS K "_law_step" (.ref f9)) (F9:AE K "_law_step" "_law_step" Q8 f9 g9)
  (a10:nS K "_law_good_entry" (.ref oH)) (z6:AE K "_law_good_entry" "_law_good_entry" Zi oH g10)
  (a11:nS K "_law_bad_entry" (.ref fQ)) (F11:AE K "_law_bad_entry" "_law_bad_entry" Zp fQ g11)
  (a12:nS K "_law_done" (.ref gB)) (um:AE K "_law_done" "_law_done" RW gB uR)
  (a13:nS K "_law_is_name" (.ref nB)) (uO:AE K "_law_is_name" "_law_is_name" SH nB g13)
  (a14:nS K "_law_deed_right" (.ref nQ)) (F14:AE K "_law_deed_right" "_law_deed_right" YJ nQ ua)
  (qh:nS K "_law_gap" (.ref kP)) (x5:AE K "_law_gap" "_law_gap" Z3 kP sG)
  (a16:nS K "_law_led" (.ref hV)) (zC:AE K "_law_led" "_law_led" Um hV yk)
  (v7:nS K "_law_counted" (.ref iX)) (F17:AE K "_law_counted" "_law_counted" Xo iX g17)
  (uS:nS K "_law_stirred" (.ref jP)) (sO:AE K "_law_stirred" "_law_stirred" ar jP qL)
  (a19:nS K "_law_begun" (.ref fN)) (F19:AE K "_law_begun" "_law_begun" bL fN g19)
  (pU:nS K "_law_begins" (.ref jt)) (xt:AE K "_law_begins" "_law_begins" XX jt g20)
  (tE:nS K "_law_goes" (.ref iy)) (vb:AE K "_law_goes" "_law_goes" Sw iy wd)
  (uW:nS K "_law_log" (.ref fZ)) (tO:AE K "_law_log" "_law_log" Yf fZ wK)
  (uX:PySem.W.findIn K (.ref A7) "__init__"=some (some (.ref Tg))) (F23:AE K "__init__" "Course.__init__" aA Tg qd)
  (ZCI:PySem.W.isFn K (.ref Tg)=true)
  (a24:PySem.W.findIn K (.ref AJ) "__init__"=some (some (.ref Rq))) (yb:AE K "__init__" "Tally.__init__" Yw Rq g24)
  (ZGj:PySem.W.isFn K (.ref Rq)=true)
  (a25:nS K "check_rule" (.ref iZ)) (F25:AE K "check_rule" "check_rule" WK iZ g25)
  (vQ:nS K "begun" (.ref iV)) (F26:AE K "begun" "begun" c5 iV g26)
  (yZ:nS K "is_name" (.ref kE)) (F27:AE K "is_name" "is_name" T6 kE g27)
  (a28:PySem.W.findIn K (.ref A7) "follows_begin"=some (some (.ref U7))) (mL:AE K "follows_begin" "Course.follows_begin" Yz U7 yX)
  (ZDF:PySem.W.isFn K (.ref U7)=true)
  (qO:PySem.W.findIn K (.ref A7) "coming"=some (some (.ref V1))) (i4:AE K "coming" "Course.coming" WW V1 g29)
  (vq:PySem.W.isFn K (.ref V1)=true)
  (a30:nS K "coming_without" (.ref iU)) (F30:AE K "coming_without" "coming_without" Rx iU wQ)
  (a31:nS K "place_of" (.ref ky)) (F31:AE K "place_of" "place_of" aX ky yh)
  (a32:nS K "loop_telling" (.ref jc)) (F32:AE K "loop_telling" "loop_telling" Xe jc g32)
  (a33:PySem.W.findIn K (.ref A7) "follows_tell"=some (some (.ref Sf))) (kQ:AE K "follows_tell" "Course.follows_tell" YQ Sf wy)
  (qI:PySem.W.isFn K (.ref Sf)=true)
  (wF:PySem.W.findIn K (.ref A7) "follows_over"=some (some (.ref RV))) (kH:AE K "follows_over" "Course.follows_over" WG RV g34)
  (ZHn:PySem.W.isFn K (.ref RV)=true)
  (a35:nS K "gap_behind_put" (.ref l9)) (yL:AE K "gap_behind_put" "gap_behind_put" Yc l9 wH)
  (a36:nS K "gap_behind_take" (.ref iN)) (F36:AE K "gap_behind_take" "gap_behind_take" aM iN g36)
  (a37:nS K "gap_led" (.ref eY)) (y2:AE K "gap_led" "gap_led" Zc eY xV)
  (pj:nS K "joins" (.ref lb)) (wU:AE K "joins" "joins" Zu lb ze)
  (sj:nS K "coming_behind" (.ref iC)) (F39:AE K "coming_behind" "coming_behind" YK iC g39)
  (yN:nS K "loop_led" (.ref nV)) (pf:AE K "loop_led" "loop_led" YG nV rl)
  (a41:PySem.W.findIn K (.ref A7) "lead"=some (some (.ref RQ))) (kY:AE K "lead" "Course.lead" Xj RQ qP)
  (qK:PySem.W.isFn K (.ref RQ)=true)
  (tQ:nS K "check_put" (.ref ni)) (tZ:AE K "check_put" "check_put" Vg ni g42)
  (tW:nS K "check_move" (.ref gM)) (ya:AE K "check_move" "check_move" W4 gM g43)
  (xy:nS K "check_turn" (.ref fE)) (zc:AE K "check_turn" "check_turn" Z8 fE g44)
  (yC:nS K "check_deed" (.ref ij)) (vE:AE K "check_deed" "check_deed" aJ ij w8)
  (yU:nS K "row_turned" (.ref dO)) (F46:AE K "row_turned" "row_turned" YO dO g46)
  (wV:nS K "row_with" (.ref mf)) (F47:AE K "row_with" "row_with" VZ mf g47)
  (xW:nS K "row_without" (.ref mn)) (F48:AE K "row_without" "row_without" T5 mn rq)
  (a49:nS K "done" (.ref gC)) (F49:AE K "done" "done" XR gC g49)
  (xC:PySem.W.findIn K (.ref A7) "follows_deed"=some (some (.ref SR))) (hU:AE K "follows_deed" "Course.follows_deed" cH SR yB)
  (ZFC:PySem.W.isFn K (.ref SR)=true)
  (pQ:PySem.W.findIn K (.ref A7) "follows"=some (some (.ref Ti))) (fm:AE K "follows" "Course.follows" ZO Ti g51)
  (ZB8:PySem.W.isFn K (.ref Ti)=true)
  (a52:nS K "course_of" (.ref jl)) (F52:AE K "course_of" "course_of" W6 jl g52)
  (xN:nS K "state_behind" (.ref o5)) (F53:AE K "state_behind" "state_behind" Zv o5 rQ)
  (a54:PySem.W.findIn K (.ref A7) "tally_of"=some (some (.ref SG))) (fP:AE K "tally_of" "Course.tally_of" Zx SG g54)
  (yl:PySem.W.isFn K (.ref SG)=true)
  (pS:nS K "tallied" (.ref gv)) (F55:AE K "tallied" "tallied" Y3 gv g55)
  (a56:nS K "_law_refusal" (.ref jC)) (F56:AE K "_law_refusal" "_law_refusal" Zd jC g56)
  (sM:nS K "_law_alone" (.ref gK)) (F57:AE K "_law_alone" "_law_alone" Xi gK qS)
  (a58:nS K "_law_whole" (.ref fw)) (F58:AE K "_law_whole" "_law_whole" YD fw tH)
  (fj:nS K "law" (.ref jm)) (mW:AE K "law" "law" NL jm uh)
  (ZA4:nN K "ValueError")
  (wX:nN K "all")
  (xw:nN K "bool")
  (ZHi:nN K "enumerate")
  (ZI0:nN K "int")
  (yw:nN K "isinstance")
  (ZHV:nN K "len")
  (zy:nN K "list")
  (ZA9:nN K "max")
  (ZBv:nN K "min")
  (uQ:nN K "range")
  (ZFg:nN K "reversed")
  (vk:nN K "sorted")
  (ZDm:nN K "tuple")
  (uE:nS K "LETTERS" (.str "abcdefghijklmnopqrstuvwxyz" Y1))
  (ZGk:nS K "MOST_LETTERS" (.int 8 Zn))
  (ZA8:nS K "MOST_THINGS" (.int 40 Zo))
  (z4:nS K "RULES" (.ref HH))
  {ZHv:Option Addr}{ZBf:Array (Option Value)}{y9:Nat}{vI ZCM ZCL:Tok}(tT:K.lookup HH=some ⟨.type "tuple", ZHv,.seq #[.str "none" vI,.str "ahead" ZCM,.str "all" ZCL] y9,ZBf⟩)
  (ZHG:nS K "Endless" (.ref FK))
  (qr:nS K "Full" (.ref BI))
  (tP:nS K "Gone" (.ref AV))
  (ZCQ:nS K "NoLog" (.ref B7))
  (yx:nS K "NoLoop" (.ref FJ))
  (ZEB:nS K "NoName" (.ref B8))
  (ZEh:nS K "NoOrders" (.ref Fb))
  (ZGi:nS K "NoPlace" (.ref B0))
  (ZCX:nS K "NoRow" (.ref FN))
  (yJ:nS K "NoRule" (.ref C4))
  (zp:nS K "NoText" (.ref Fu))
  (ZFG:nS K "NoTicket" (.ref FI))
  (ZFi:nS K "NoWhere" (.ref FV))
  (qA:nS K "Stale" (.ref Fh))
  (ZHB:nS K "StirError" (.ref CF))
  (vd:nS K "There" (.ref B9))
  (ZHD:nS K "TooMany" (.ref FL))
  (OD:PySem.W.specialIn K (.ref CF) "__getattribute__"=some (some (.builtin "type.__getattribute__")))
  (Mz:PySem.W.readsIn K CF (.type "type")=true)
  (O5:PySem.W.findCls K (.ref CF) (.type "type") "__init__"=some (.val (.builtin "ValueError.__init__")))
  (bD:GK K BI none=true)
  (ZJB:PySem.W.findIn K (.ref AV) "__init__"=some (some (.ref TZ))) (kc:AE K "__init__" "Gone.__init__" Yv TZ uD)
  (ZHs:GK K AV (some (.ref TZ))=true)
  (rY:PySem.W.findIn K (.ref AV) "__setattr__"=some (some (.builtin "object.__setattr__")))
  (ZAL:Jd K AV=true)
  (xB:PySem.W.takerIn K AV "name"=some none)
  (rR:PySem.W.hasDictIn K AV=true)
  (ZDa:PySem.W.isFn K (.ref TZ)=true)
  (ZHu:PySem.W.keepIn K (.ref AV)=true)
  (ZJ1:PySem.W.findIn K (.ref B7) "__init__"=some (some (.ref TH))) (iu:AE K "__init__" "NoLog.__init__" Xq TH sh)
  (xv:GK K B7 (some (.ref TH))=true)
  (ZGg:PySem.W.findIn K (.ref B7) "__setattr__"=some (some (.builtin "object.__setattr__")))
  (yz:Jd K B7=true)
  (xQ:PySem.W.takerIn K B7 "number"=some none)
  (ZBl:PySem.W.hasDictIn K B7=true)
  (xU:PySem.W.isFn K (.ref TH)=true)
  (ZBs:PySem.W.keepIn K (.ref B7)=true)
  (ZJA:PySem.W.findIn K (.ref B8) "__init__"=some (some (.ref S6))) (nv:AE K "__init__" "NoName.__init__" Zz S6 ZHh)
  (ZDI:GK K B8 (some (.ref S6))=true)
  (ZCu:PySem.W.findIn K (.ref B8) "__setattr__"=some (some (.builtin "object.__setattr__")))
  (ZEu:Jd K B8=true)
  (ZCl:PySem.W.takerIn K B8 "name"=some none)
  (ZAy:PySem.W.hasDictIn K B8=true)
  (ZC1:PySem.W.isFn K (.ref S6)=true)
  (ZC5:PySem.W.keepIn K (.ref B8)=true)
  (ZIx:PySem.W.findIn K (.ref B0) "__init__"=some (some (.ref V4))) (dg:AE K "__init__" "NoPlace.__init__" WJ V4 ZFE)
  (rm:GK K B0 (some (.ref V4))=true)
  (ZBL:PySem.W.findIn K (.ref B0) "__setattr__"=some (some (.builtin "object.__setattr__")))
  (ZH5:Jd K B0=true)
  (rF:PySem.W.takerIn K B0 "at"=some none)
  (ZGv:PySem.W.hasDictIn K B0=true)
  (tm:PySem.W.isFn K (.ref V4)=true)
  (qC:PySem.W.keepIn K (.ref B0)=true)
  (ZJ0:PySem.W.findIn K (.ref C4) "__init__"=some (some (.ref Tx))) (df:AE K "__init__" "NoRule.__init__" Wj Tx ZHa)
  (ZDV:GK K C4 (some (.ref Tx))=true)
  (ZBQ:PySem.W.findIn K (.ref C4) "__setattr__"=some (some (.builtin "object.__setattr__")))
  (pV:Jd K C4=true)
  (rV:PySem.W.takerIn K C4 "rule"=some none)
  (ZBj:PySem.W.hasDictIn K C4=true)
  (wz:PySem.W.isFn K (.ref Tx)=true)
  (ZAq:PySem.W.keepIn K (.ref C4)=true)
  (ZJE:PySem.W.findIn K (.ref B9) "__init__"=some (some (.ref Ux))) (lO:AE K "__init__" "There.__init__" Vp Ux zj)
  (pd:GK K B9 (some (.ref Ux))=true)
  (xE:PySem.W.findIn K (.ref B9) "__setattr__"=some (some (.builtin "object.__setattr__")))
  (ZF8:Jd K B9=true)
  (ZEO:PySem.W.takerIn K B9 "name"=some none)
  (zq:PySem.W.hasDictIn K B9=true)
  (zV:PySem.W.isFn K (.ref Ux)=true)
  (ZAJ:PySem.W.keepIn K (.ref B9)=true)
  (ZG:Ri K CF ⟨B8,B9,AV,B0,BI⟩=true)
  (Y8:PySem.W.exmOne K (.ref AV) (.ref CF)=some true)
  (YH:PySem.W.exmOne K (.ref B7) (.ref CF)=some true)
  (O8:OZ K [B8,B9,AV,B0,C4,B7,Fh,FV,Fu,BI,FL,FJ,FI,FK,Fb,FN] CF AV 2=true)
  (Ql:OZ K [B8,B9,AV,B0,C4,B7,Fh,FV,Fu,BI,FL,FJ,FI,FK,Fb,FN] CF B7 5=true)
  (lx:M0 K B7=true)
  (TM:PySem.W.hasDictIn K B7=true)
  (UZ:PySem.W.findIn K (.ref B7) "number"=some none)
  (gx:M0 K AV=true)
  (RK:PySem.W.hasDictIn K AV=true)
  (U5:PySem.W.findIn K (.ref AV) "name"=some none)
  : ∃fd:FuncData,(∀(s:Shared)(v:Value),BindsTo s fd ⟨[v],[]⟩ [("script", v)])/\∀ZB:Heap,K.In ZB->ZB.Ns mainGlobals mg->CQ l.prog w K mg ZB DW 14 fa fd ["script"] (PU K):=by
 have e:=zl.symm.trans (Aw X G fj);cases e;have BC:C3 K A7:=⟨ZAh,ZAU,ZDq,rJ⟩;have EA:C3 K AJ:=⟨ZHY,ZGC,pP,ZA2⟩;have ZAw:Mk K A7 Tg:=⟨sI,uX,ZCI,xl⟩;have ZGw:Mk K AJ Rq:=⟨x6,a24,ZGj,zt⟩;have ZFF:Meth K A7 "follows_begin" U7:=⟨a28,ZDF,mL.kp⟩;have wg:Meth K A7 "coming" V1:=⟨qO,vq,i4.kp⟩;have ZBk:Meth K A7 "follows_tell" Sf:=⟨a33,qI,kQ.kp⟩;have ZEp:Meth K A7 "follows_over" RV:=⟨wF,ZHn,kH.kp⟩;have ZBg:Meth K A7 "lead" RQ:=⟨a41,qK,kY.kp⟩;have w6:Meth K A7 "follows_deed" SR:=⟨xC,ZFC,hU.kp⟩;have ph:Meth K A7 "follows" Ti:=⟨pQ,ZB8,fm.kp⟩;have xM:Meth K A7 "tally_of" SG:=⟨a54,yl,fP.kp⟩;have VR:=HL X G ZA4;have Nc:=HL X G wX;have aO:=HL X G xw;have ax:=HL X G ZHi;have Ij:=HL X G ZI0;have D9:=HL X G yw;have Aj:=HL X G ZHV;have C2:=HL X G zy;have WB:=HL X G ZA9;have aT:=HL X G ZBv;have Mg:=HL X G uQ;have Nq:=HL X G ZFg;have FQ:=HL X G vk;have DS:=HL X G ZDm;have YR:=Aw X G uE;have bV:=Aw X G ZGk;have Ww:=Aw X G ZA8;have O9:=Aw X G z4;have N2:∀H,AW K H HH [.str "none",.str "ahead",.str "all"]:=λH=>.inr ⟨_,_,_,tT,rfl,rfl,(by show 3<=sizeLine;decide +kernel),(.cons ⟨_,rfl⟩ (.cons ⟨_,rfl⟩ (.cons ⟨_,rfl⟩ .nil)))⟩;have Vh:=Aw X G ZFe;have bN:=Aw X G ZHG;have NY:=Aw X G qr;have K3:=Aw X G tP;have OB:=Aw X G ZCQ;have Wf:=Aw X G yx;have Mu:=Aw X G ZEB;have Zq:=Aw X G ZEh;have HD:=Aw X G ZGi;have Vk:=Aw X G ZCX;have NH:=Aw X G yJ;have Wc:=Aw X G zp;have Xs:=Aw X G ZFG;have Yh:=Aw X G ZFi;have bh:=Aw X G qA;have FT:=Aw X G ZHB;have bz:=Aw X G qT;have OA:=Aw X G vd;have Zy:=Aw X G ZHD;obtain⟨_,_,kV,dc,pm,an,cd,ct,_,rfl,_,_⟩:=id mW.ex;refine⟨PySem.W.fnOf "law" "law" (Ka NL) (El NL) (AO NL) .none kV dc pm an cd ct,λs v=>.of_eq rfl,λZB _ _=>?_⟩;have OM:=vP (P:=l.prog) (w:=w) (ZB:=ZB) kc (kc.binds (ps:=["self","name"]) (by walk_at "bD2")) ⟨ZHs,rY,ZAL,xB,rR,ZDa,ZHu⟩ ⟨OD,Mz,O5,rfl⟩ FT
 have XG:=ZGT (P:=l.prog) (w:=w) (ZB:=ZB) iu (iu.binds (ps:=["self","number"]) (by walk_at "bD2")) ⟨xv,ZGg,yz,xQ,ZBl,xU,ZBs⟩ ⟨OD,Mz,O5,rfl⟩ FT
 have cE:=yi (P:=l.prog) (w:=w) (ZB:=ZB) nv (nv.binds (ps:=["self","name"]) (by walk_at "bD2")) ⟨ZDI,ZCu,ZEu,ZCl,ZAy,ZC1,ZC5⟩ ⟨OD,Mz,O5,rfl⟩ FT
 have JN:=ZFp (P:=l.prog) (w:=w) (ZB:=ZB) dg (dg.binds (ps:=["self","at"]) (by walk_at "bD2")) ⟨rm,ZBL,ZH5,rF,ZGv,tm,qC⟩ ⟨OD,Mz,O5,rfl⟩ FT
 have XW:=zK (P:=l.prog) (w:=w) (ZB:=ZB) df (df.binds (ps:=["self","rule"]) (by walk_at "bD2")) ⟨ZDV,ZBQ,pV,rV,ZBj,wz,ZAq⟩ ⟨OD,Mz,O5,rfl⟩ FT
 have bq:=ZE0 (P:=l.prog) (w:=w) (ZB:=ZB) lO (lO.binds (ps:=["self","name"]) (by walk_at "bD2")) ⟨pd,xE,ZF8,ZEO,zq,zV,ZAJ⟩ ⟨OD,Mz,O5,rfl⟩ FT
 have Ld:=ZE9 (P:=l.prog) (w:=w) (ZB:=ZB) Aj F1 (Aw X G a1);have BM:=ZCN (P:=l.prog) (w:=w) (ZB:=ZB) F2 (Aw X G a2);have PH:=za (P:=l.prog) (w:=w) (ZB:=ZB) F3 (Aw X G a3);have Fl:=ZFQ Aj PH BM F4 (Aw X G a4);have YE:=qM Fl Mg F5 (Aw X G a5);have bg:=xf BM YE F6 (Aw X G a6);have aY:=v8 Aj BM Fl F7 (Aw X G a7);have Nt:=ZBA BM F8 (Aw X G a8);have Xb:=ZAx (P:=l.prog) (w:=w) (ZB:=ZB) DS F9 (Aw X G a9);have X7:=vV Aj BM Fl aY Nt Xb C2 FQ z6 (Aw X G a10);have X3:=ZHU Aj BM Fl Nt C2 F11 (Aw X G a11);have WZ:=ZCz (P:=l.prog) (w:=w) (ZB:=ZB) C2 Nq um (Aw X G a12);have Nl:=ZDx (P:=l.prog) (w:=w) (ZB:=ZB) Aj Nc uO (Aw X G a13);have XD:=vX Aj Nl F14 (Aw X G a14);have aN:=vD (P:=l.prog) (w:=w) (ZB:=ZB) Ij x5 (Aw X G qh);have cM:=ZAd DS FQ aN zC (Aw X G a16);have Ly:=ZH7 (P:=l.prog) (w:=w) (ZB:=ZB) F17 (Aw X G v7);have YC:=ZDy Aj C2 Ly XD WZ cM sO (Aw X G uS);have cI:=sZ (P:=l.prog) (w:=w) (ZB:=ZB) DS FQ F19 (Aw X G a19);have WX:=ZHF Aj Nl cI xt (Aw X G pU);have XC:=y3 DS Ly WX YC vb (Aw X G tE);have ZQ:=uB Aj BM Mg C2 Ij X3 XC X7 Ld bg WB aT tO (Aw X G uW);have bp:=vg (P:=l.prog) (w:=w) (mg:=mg) (ZB:=ZB) (A7:=A7) (AJ:=AJ) C2 BC Cc Dk EI F23 ZAw;have Vb:=ZHN (P:=l.prog) (w:=w) (mg:=mg) (ZB:=ZB) (AJ:=AJ) EA Jj NI Ja K7 yb ZGw;have WM:=ZBX (C4:=C4) O9 N2 NH XW F25 (Aw X G a25);have ae:=ZES (C4:=C4) DS FQ WM F26 (Aw X G vQ);have Np:=xr (P:=l.prog) (w:=w) (ZB:=ZB) Aj Nc YR bV F27 (Aw X G yZ);have Yx:=ZGd (P:=l.prog) (w:=w) (mg:=mg) (ZB:=ZB) (A7:=A7) (AJ:=AJ) Aj BC Cc Dk EI O9 N2 Vb ae Np bz mL ZFF;have GL:=qV (P:=l.prog) (w:=w) (mg:=mg) (ZB:=ZB) (A7:=A7) BC Cc i4 wg;have Nx:=ZEP (P:=l.prog) (w:=w) (ZB:=ZB) DS F30 (Aw X G a30);have Gx:=ub (AV:=AV) K3 OM F31 (Aw X G a31);have bb:=ZEc Nx Gx F32 (Aw X G a32);have bS:=uc (P:=l.prog) (w:=w) (mg:=mg) (ZB:=ZB) (A7:=A7) (AJ:=AJ) BC Cc Dk EI EA K7 GL bb kQ ZBk;have Yb:=ZCh (P:=l.prog) (w:=w) (mg:=mg) (ZB:=ZB) (A7:=A7) (AJ:=AJ) Aj BC Cc GL kH ZEp;have RU:=ZE7 (P:=l.prog) (w:=w) (ZB:=ZB) yL (Aw X G a35);have Rn:=rL (P:=l.prog) (w:=w) (ZB:=ZB) F36 (Aw X G a36);have aI:=uN Gx RU Rn y2 (Aw X G a37);have W2:=ZCA (P:=l.prog) (w:=w) (ZB:=ZB) wU (Aw X G pj);have Yk:=r9 DS FQ Nx W2 F39 (Aw X G sj);have YF:=sV Yk aI pf (Aw X G yN);have ag:=wq (P:=l.prog) (w:=w) (mg:=mg) (ZB:=ZB) (A7:=A7) (AJ:=AJ) Aj BC Cc Dk EI EA Jj Ja GL YF kY ZBg
 have W9:=yn (BI:=BI) (AV:=AV) (B8:=B8) (B0:=B0) (B9:=B9) Aj Np Ww NY bD Mu cE HD JN OA bq tZ (Aw X G tQ);have WA:=ZEE (BI:=BI) (AV:=AV) (B8:=B8) (B0:=B0) (B9:=B9) Aj Gx HD JN ya (Aw X G tW);have W8:=qo (BI:=BI) (AV:=AV) (B8:=B8) (B0:=B0) (B9:=B9) Aj HD JN zc (Aw X G xy);have bx:=ZAG (BI:=BI) (AV:=AV) (B8:=B8) (B0:=B0) (B9:=B9) Gx WA W9 W8 vE (Aw X G yC);have Xt:=ZEI (P:=l.prog) (w:=w) (ZB:=ZB) C2 Nq F46 (Aw X G yU);have UD:=ZDv (P:=l.prog) (w:=w) (ZB:=ZB) C2 F47 (Aw X G wV);have Ts:=ZHf (P:=l.prog) (w:=w) (ZB:=ZB) F48 (Aw X G xW);have aG:=ZDu (BI:=BI) (AV:=AV) (B8:=B8) (B0:=B0) (B9:=B9) bx Xt UD Ts F49 (Aw X G a49);have Yd:=ZHm (P:=l.prog) (w:=w) (mg:=mg) (ZB:=ZB) (A7:=A7) (BI:=BI) (AV:=AV) (B8:=B8) (B0:=B0) (CF:=CF) (AJ:=AJ) (B9:=B9) C2 BC Cc Dk ag aG FT ZG hU w6;have cO:=ZGY (P:=l.prog) (w:=w) (mg:=mg) (ZB:=ZB) (A7:=A7) (AJ:=AJ) BC Yx Yd Yb bS fm ph;have My:=ZDd (A7:=A7) (B7:=B7) (AJ:=AJ) bp cO ax Vh OB XG F52 (Aw X G a52);have YL:=ZBi (A7:=A7) (B7:=B7) (AJ:=AJ) BC Cc Dk My F53 (Aw X G xN);have Zs:=ZDD (P:=l.prog) (w:=w) (mg:=mg) (ZB:=ZB) (A7:=A7) (AJ:=AJ) Aj BC EI EA Jj NI Ja K7 GL fP xM;have XZ:=ZEN (A7:=A7) (AV:=AV) (B7:=B7) (AJ:=AJ) BC EI K3 OM My Zs F55 (Aw X G pS);have Pn:=ZB6 (AV:=AV) (B7:=B7) (CF:=CF) FT YL XZ Y8 YH F56 (Aw X G a56);have PN:=ZG1 (P:=l.prog) (w:=w) (ZB:=ZB) (FK:=FK) (BI:=BI) (AV:=AV) (B7:=B7) (FJ:=FJ) (B8:=B8) (Fb:=Fb) (B0:=B0) (FN:=FN) (C4:=C4) (Fu:=Fu) (FI:=FI) (FV:=FV) (Fh:=Fh) (CF:=CF) (B9:=B9) (FL:=FL) NH K3 NY Mu HD OA FT OB VR D9 bN Wf Zq Vk Wc Xs Yh bh Zy F57 (Aw X G sM);have ZN:=ZFS (P:=l.prog) (w:=w) (ZB:=ZB) Ij D9 aO F58 (Aw X G a58);exact ZHd (FK:=FK) (BI:=BI) (AV:=AV) (B7:=B7) (FJ:=FJ) (B8:=B8) (Fb:=Fb) (B0:=B0) (FN:=FN) (C4:=C4) (Fu:=Fu) (FI:=FI) (FV:=FV) (Fh:=Fh) (CF:=CF) (B9:=B9) (FL:=FL) Fl C2 Ld PN ZQ Pn ZN O8 Ql lx TM UZ gx RK U5 mW (Aw X G fj)
def walk{q:Program}{loose:List Str}{XP:(ZJc)->Heap->Prop}{YP:World->Heap->Prop}{d:DefRec}{K:Params->ZJa}(hn:l.most=some 63)(R1:d.params.defaults=[])
  (hY:∀(w:World)(h:Heap),YP w h->(K w.params).In h)
  (F:∀(w:World)(mg:ZJc)(fa:Addr)(h:Heap),(K w.params).In h->h.Ns mainGlobals mg->mg d.name=some (.ref fa)->
   ∃fd:FuncData,(∀(s:Shared)(u:Value),BindsTo s fd ⟨[u],[]⟩ [("script", u)])/\∀ZB:Heap,(K w.params).In ZB->ZB.Ns mainGlobals mg->CQ l.prog w (K w.params) mg ZB DW 14 fa fd ["script"] (PU (K w.params))) :
  PySem.W.WalkO q loose XP YP l.row.toRowW d [] (λf vs=>PySem.call f vs):=
 L2.ZDt (n:=63) (k:=14) (x:="script") (CX:=λ_=>DW) (sp:=λw=>PU (K w.params)) hn (by decide) R1 ⟨rfl,by decide,by decide⟩ hY F (λ_ _ a ns hl _ hS=>⟨a,ns,rfl,hS,hl,λ_=>rfl⟩) λ_ _ _ _ _ z=>z
end Pf
open PySem.W
local macro_rules | `(tactic| walk_at "kF")=>`(tactic| (refine' L2.ZET ?_ ?_ ?_;all_goals try k_is;all_goals k_is))
set_option maxRecDepth 100000 in
set_option maxHeartbeats 0 in
theorem PySem.Challenge.cw_stirround_k25_wrong_logs_refused_holds : PySem.Challenge.rw_stirround_k25_wrong_logs_refused.Holds := by
 w_on;o_law;k_head;(case hw=>w_witness2)
 k_fill
 refine Pf.walk (l:=PySem.Challenge.rw_stirround_k25_wrong_logs_refused) rfl rfl (λw h Y=>PySem.W.kIn_of Y) ?F
 case F=>
  intro w mg fa h KX G QH;apply Pf.all_mk KX G QH
  any_goals first|k_is|(show _=_;k_is)|kernel_rfl|walk_at "kF"
#print axioms PySem.Challenge.cw_stirround_k25_wrong_logs_refused_holds
