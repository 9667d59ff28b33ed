import PyProof.Rows.All
import Wide.All
import OpenK.AllK
import PySem.Challenge.RW_stirround_k70_whole_tickets_go_on_as_kep
set_option genSizeOf false
set_option linter.all false
set_option compiler.extract_closed false
set_option bootstrap.genMatcherCode false
noncomputable section
def pN:=@PySem.wpAny_bind
def pq:=@PySem.wpAny_pure
def rg:=@decide_eq_true
def sN:=@if_neg
def sZ:=@if_pos
def uq:=@of_decide_eq_true
def uz:=@decide_eq_false
def v7:=@PySem.wpAny_mono
def vX:=@beq_self_eq_true
def vZ:=@PySem.wpAny_truthy_bool
def wW:=@PySem.wpAny_newObj_type
def wu:=@congrArg
def x6:=@PySem.wpAny_holding
def xA:=@PySem.codeAny_builtin
def xE:=@PySem.wpAny_call_entry
def xI:=@PySem.wpAny_callSpecial?_slot
def xQ:=@PySem.isSubtype_type
def yb:=@PySem.builtinLookup_eq_fast
def z6:=@PySem.wpAny_Call_Name_kw
def zj:=@PySem.wpAny_typeOf
def zw:=@PySem.wpAny_updateSeq
def ZA3:=@PySem.wpAny_isInstance
def ZAB:=@PySem.wpAny_passesOwn
def ZAC:=@PySem.wpAny_setState_of
def ZAE:=@PySem.plainId_quiet
def ZAF:=@PySem.wpAny_setEntries_of
def ZAH:=@PySem.wpAny_askSetting
def ZAM:=@PySem.wpAny_specialOf
def ZAS:=@PySem.wpAny_ite_split
def ZAT:=@PySem.typeLookup_type
def ZAb:=@or_false
def ZAe:=@PySem.wpAny_setField
def ZAm:=@PySem.codeAny_extend_loopS
def ZAn:=@PySem.tupleKind_room_in1
def ZAp:=@PySem.wpAny_of_eq
def ZAq:=@PySem.codeAny_mono
def ZAs:=@PySem.wpAny_rule
def ZAu:=@PySem.sizeLine_eq
def ZAw:=@PySem.wpAny_execs_nil
def ZAx:=@PySem.wpAny_load
def ZB7:=@PySem.wpAny_runValue
def ZB8:=@PySem.wpAny_fieldsOf
def ZBC:=@PySem.wpAny_pyIter_list
def ZBD:=@PySem.wpAny_pyIter_dict
def ZBF:=@PySem.fits_of_scanBound
def ZBG:=@PySem.wpAny_attempt
def ZBO:=@PySem.noFill_tuple_add
def ZBS:=@PySem.call_meets
def ZBT:=@if_true
def ZBb:=@if_false
def AU:=@List.length_map
def Ag:=@Nat.le_refl
def Am:=@List.getElem?_map
def Aw:=@PySem.W.mg_of
def B0:=@List.not_mem_nil
def B2:=@List.length_append
def B7:=@List.getElem?_eq_getElem
def BE:=@PySem.Heap.lt_size
def BG:=@Ne.symm
def BH:=@PySem.Heap.get?_push_of_some
def BI:=@Option.some.inj
def BK:=@List.length_cons
def BP:=@Nat.ne_of_lt
def Ba:=@PySem.Heap.get?_push_size
def Bd:=@List.append_assoc
def Bi:=@List.length_take
def Br:=@List.getElem?_set_ne
def Bs:=@List.map_cons
def Bt:=@List.size_toArray
def Bw:=@List.getElem?_set_self
def Bx:=@List.map_append
def CG:=@List.nodup_append
def CH:=@Nat.zero_le
def CV:=@List.mem_cons_self
def Cc:=@Nat.le_trans
def Ck:=@List.mem_cons_of_mem
def Ct:=@List.length_drop
def DE:=@List.mem_append_right
def DO:=@Bool.false_ne_true
def DP:=@List.length_set
def DQ:=@List.mem_of_getElem?
def Dd:=@List.getElem?_append_left
def De:=@Nat.lt_of_lt_of_le
def E8:=@List.append_nil
def E9:=@List.mem_cons
def ES:=@List.getD_eq_getElem?_getD
def Eh:=@PySem.Heap.size_push
def Ei:=@List.mem_append_left
def FC:=@Bool.and_eq_true
def FD:=@List.getElem?_append_right
def FE:=@PySem.PassesOwn.never
def FY:=@List.mem_append
def GR:=@PySem.Heap.get?_update_self
def GS:=@Nat.le_succ
def GU:=@PySem.W.mg_none_of
def Gy:=@Array.length_toList
def Gz:=@PySem.Heap.get?_update_other
def HA:=@Int.eq_ofNat_of_zero_le
def HB:=@List.length_filter_le
def HC:=@PySem.F.plainAttrs_list
def Hg:=@List.all_eq_true
def Hh:=@List.lookup_cons
def Hi:=@List.map_map
def Hj:=@List.take_append_drop
def IU:=@List.take_length
def IV:=@List.zip_cons_cons
def IW:=@Nat.lt_of_le_of_lt
def IX:=@Nat.lt_succ_of_lt
def IY:=@Nat.sub_self
def IZ:=@PySem.W.kia_one
def JU:=@Nat.le_of_lt
def Kj:=@List.length_singleton
def Kk:=@Nat.min_eq_left
def Lu:=@Bool.true_and
def Lv:=@Int.emod_lt_of_pos
def Lx:=@Int.emod_nonneg
def Ly:=@Int.toNat_natCast
def Lz:=@List.filter_append
def M0:=@List.getElem?_eq_none
def M4:=@List.getElem_mem
def M5:=@List.length_range
def M6:=@Nat.lt_irrefl
def M7:=@Nat.lt_succ_self
def M8:=@Nat.ne_of_gt
def M9:=@Nat.succ.inj
def MB:=@PySem.Obj.data_mapFields
def MC:=@PySem.F.slot_list_append
def MD:=@PySem.F.type_list_append
def ME:=@PySem.mem_of_lookup
def NX:=@PySem.Around.under_plainId
def NY:=@Bool.eq_iff_iff
def NZ:=@List.any_cons
def Na:=@List.map_drop
def Nb:=@List.map_take
def Nc:=@List.mem_filter
def Nd:=@List.nodup_nil
def Nf:=@List.set_set
def QX:=@Array.getElem?_toList
def QY:=@List.find?_cons
def QZ:=@List.length_reverse
def Qa:=@List.length_zip
def Qb:=@List.take_of_length_le
def Qc:=@Nat.le_total
def Qd:=@Nat.min_eq_right
def Qe:=@Nat.sub_zero
def U1:=@Array.getElem?_eq_getElem
def U2:=@PySem.Heap.SameBut.update
def U3:=@List.Perm.refl
def U4:=@List.all_cons
def U5:=@List.drop_zero
def U6:=@List.getElem?_drop
def U7:=@List.length_nil
def U8:=@List.map_congr_left
def U9:=@List.mem_erase_of_ne
def UA:=@List.mem_of_mem_take
def UB:=@List.set_cons_succ
def UC:=@List.take_succ_eq_append_getElem
def UD:=@Nat.le_succ_of_le
def UE:=@Option.map_some
def UG:=@PyProof.Rows.callWith_type1
def af:=@Bool.and_false
def ag:=@Bool.and_true
def ah:=@PySem.F.plain_list_iadd
def ai:=@PySem.ItemsOf.nil
def aj:=@List.cons_append
def ak:=@List.cons_lt_cons_iff
def ao:=@List.ext_getElem?
def aq:=@List.foldl_cons
def av:=@List.getElem_idxOf
def aw:=@List.idxOf_append
def ax:=@List.length_erase_of_mem
def ay:=@List.map_nil
def az:=@List.mem_of_mem_drop
def b4:=@List.nil_append
def b5:=@List.nodup_cons
def b6:=@List.set_cons_zero
def b7:=@Nat.min_self
def b8:=@PySem.Obj.isFreed_of_fields
def b9:=@Option.isSome_map
def bA:=@PySem.Paired.length
def bB:=@PyProof.Rows.slot_tuple_getitem
def bC:=@PySem.F.slot_list_index
def bD:=@PySem.Walks.dictKeys
def nY:=@PySem.Around.in1_handled
def nZ:=@Array.getElem?_eq_none
def nc:=@Bool.and_self
def ng:=@Int.toNat_of_nonneg
def nh:=@List.drop_length
def ni:=@List.ext_getElem
def nj:=@List.filterMap_cons
def nq:=@List.filter_cons
def nr:=@List.filter_map
def o3:=@List.forIn_nil
def o4:=@List.getElem?_range
def o5:=@List.getElem?_replicate
def o6:=@List.getElem?_take_of_lt
def o7:=@List.idxOf_cons
def o8:=@List.length_pos_of_mem
def o9:=@List.map_id'
def oA:=@List.map_set
def oB:=@List.of_mem_zip
def oC:=@List.perm_middle
def oE:=@Nat.le_of_eq
def oF:=@Nat.le_of_lt_succ
def oG:=@Nat.le_of_not_lt
def oH:=@Nat.min_le_right
def oI:=@Nat.succ_pos
def oJ:=@PySem.Obj.cls_mapFields
def oK:=@PyProof.Rows.F.plain_set_update_loop
def oM:=@PySem.F.args_tuple_add_2
def oN:=@PySem.F.entry_tuple_add
def oO:=@PySem.F.plain_extend_loop
def oP:=@PySem.F.slot_tuple_add
def oQ:=@PySem.F.type_list_index
def oR:=@PySem.W.callWith_K
def oS:=@PySem.W.plainGet_of
def ZI6:=@Array.toList_push
def ZI7:=@PySem.Calls.Name_function_global
def ZI8:=@PySem.Calls.callWith_builtin
def ZI9:=@Int.lt_of_le_of_lt
def ZIA:=@List.Pairwise.map
def ZIB:=@List.any_eq_false
def ZIC:=@List.any_eq_true
def ZID:=@List.dropLast_eq_take
def ZIE:=@List.drop_eq_getElem_cons
def ZIF:=@List.drop_of_length_le
def ZIG:=@List.filter_congr
def ZIH:=@List.filter_eq_self
def ZII:=@List.foldl_append
def ZIJ:=@List.getElem?_toArray
def ZIK:=@List.getElem_inj
def ZIL:=@List.getLastD_cons
def ZIM:=@List.getLast_eq_getLastD
def ZIN:=@List.length_eraseIdx_of_lt
def ZIO:=@List.length_replicate
def ZIP:=@List.map_reverse
def ZIQ:=@List.mem_map_of_mem
def ZIR:=@List.mem_of_mem_head?
def ZIS:=@List.range'_succ
def ZIT:=@List.reverse_cons
def ZIU:=@List.take_sublist
def ZIV:=@Nat.lt_trichotomy
def ZIW:=@Nat.not_lt_of_le
def ZIX:=@Option.getD_none
def ZIY:=@Option.getD_some
def ZIZ:=@Option.isSome_some
def ZIa:=@PyProof.Rows.F.entry_set_update_loop
def ZIb:=@PySem.F.plain_set_new
def ZIc:=@PySem.F.slot_list_insert
def ZId:=@PySem.F.slot_tuple_index
def ZIe:=@PySem.W.cellsFrom_some
def ZIf:=@PySem.W.kitx_dict
def ZIg:=@PySem.W.kitx_list
def ZIh:=@PySem.W.methodCall_KW
def ZIi:=@PySem.strKind_is
def ZIj:=@Std.Legacy.Range.forIn_eq_forIn_range'
open PySem PySem.Spec PyProof.Rows
abbrev ZJR:=PySem.W.Frag
abbrev ZJS:=(List (Addr×Obj))
abbrev ZJT:=(Str->Option Value)
namespace PySem.W.Fast
def t:=Nat
def tw18247677461337761973:=t
def tw12252758728984533849:=t
def tw7471106814077977920:=t
def tw16868306040920187658:=t
def tw5008243331934177700:=t
def tw13856287880876922318:=t
def tw6828018944584268231:=t
def tw12696247974068561487:=t
def tw9949413240480022645:=t
def tw17680712004227683271:=t
def tw4928927826921554931:=t
def tw10624330116192444890:=t
def tw18199807428899546887:=t
def tw8535717703307455184:=t
def tw5752323643370608917:=t
def tw14792358239187544200:=t
def tw5649591648274150320:=t
def tw17544984300883098021:=t
def tw14843995718704429696:=t
def tw15177847544163630921:=t
def tw15800072923900967308:=t
def tw15213319393397516241:=t
def tw8353096464908810638:=t
def tw15608731276580582556:=t
def tw9787945506417897117:=t
def tw15223759819964245697:=t
def tw4329268951634659643:=t
def tw11980618320721816868:=t
def tw10783773121169054758:=t
def tw16856119149881489374:=t
def tw15596386782571257219:=t
def tw4367185178554287803:=t
def tw16666733857642549534:=t
def tw92529793295385198:=t
def tw12165615451098782465:=t
def tw17782060470330175914:=t
def tw10070378331136708184:=t
def tw2145177531899387669:=t
def tw7914954460341952001:=t
def tw15861352109159268796:=t
def tw3012120291255843118:=t
def tw13687336972486363691:=t
def tw5765023026469912991:=t
def tw8994128577619634177:=t
def tw14507868499295077939:=t
def tw7083151867350679381:=t
def tw13103326532717056455:=t
def tw6685553315159874975:=t
def tw9748790219625254145:=t
def tw17544513975492636034:=t
def tw322958587342003795:=t
def tw5008427970049496172:=t
def tw154704179945842128:=t
def tw12329909934563608443:=t
def tw2847475863921393859:=t
def tw2865273948967781752:=t
def tw17235560644003164465:=t
def tw9880127638025458473:=t
def tw1708742173896080296:=t
def tw15109660824166046441:=t
def tw2157090402861153949:=t
def tw15901909550314008900:=t
def tw856800363995913530:=t
def tw16313415479039981615:=t
def tw6282412807054567379:=t
def tw13476682037794871820:=t
def tw11255329602139222069:=t
def tw5004552380104283393:=t
def tw6904233539222575184:=t
def tw10576798228952770821:=t
def tw10806748971899143240:=t
def tw13499449427420383365:=t
def tw12776372427192949871:=t
def tw5350797495627641848:=t
def tw8011732617592704350:=t
def tw4295249451050435416:=t
def tw16302296789204444489:=t
def tw13997438012320681073:=t
def tw10837239364064766351:=t
def tw17154505230507277018:=t
def tw2588210402759221348:=t
def tw12351740193850253215:=t
def tw12923225027839307351:=t
def tw14631449775915451698:=t
def tw17706043728904737429:=t
def tw16233358070672103197:=t
def tw10873453301292512322:=t
def tw3981163846513352872:=t
def tw15692905201645315690:=t
def tw10401659238887253502:=t
def tw601276859283716976:=t
def tw10036763353603598012:=t
def tw16907947802589056057:=t
def tw3587211938961886751:=t
def tw17088516364201589404:=t
def tw14465068006889377393:=t
def tw14363947423839759113:=t
def tw14122780028811461437:=t
def tw2865760669235183944:=t
def tw17805063060182693431:=t
def tw3605371666487202143:=t
def tw3472527516707767018:=t
def tw12656392529412343529:=t
def tw15777528099541705535:=t
def tw9839861097155315706:=t
def tw7761017057506284695:=t
def tw4216851493163781364:=t
def tw16185903696137323697:=t
def tw86178747674615829:=t
def tw9807409412544681000:=t
def tw6932400405919611872:=t
def tw7977789095518341178:=t
def tw9430255358810567267:=t
def tw220038944756195058:=t
def tw264183704055536680:=t
def tw9077738107279537022:=t
def tw4189791468537210765:=t
def tw4805012005086580152:=t
def tw11579730590637154167:=t
def tw5501164823303819486:=t
def tw5904307224372861769:=t
def tw16513194472701875917:=t
def tw8216935993861065973:=t
def tw8178102004525181984:=t
def tw6232335903153272223:=t
def tw7977381081235990041:=t
def tw1365275436305800277:=t
def tw9056318981890817823:=t
def tw9750440527219560479:=t
def tw14909365119105622452:=t
def tw8294433117815427732:=t
def tw16069110517158122218:=t
def tw3280035427802122538:=t
def tw2487248759739266177:=t
def tw6053323626171951549:=t
def tw10494265701716402603:=t
def tw10932252979155994158:=t
def tw698469090989975281:=t
def tw17568746813444470344:=t
def tw14726133002728368333:=t
def tw7557973060281383042:=t
def tw12148864512472923935:=t
def tw13969735945275963509:=t
def tw622720675183055697:=t
def tw1656931065696314313:=t
def tw3709485974134527684:=t
def tw11620121718033123262:=t
def tw5587294698020351149:=t
def tw8846320843799287530:=t
def tw3648134344519908109:=t
def tw18317046264766980730:=t
def tw2509170734438451854:=t
def tw9431827191562452939:=t
def tw13105609827258774276:=t
def tw16151904193163345938:=t
def tw16082090560182879691:=t
def tw16871561582898086503:=t
def tw17701769222530790801:=t
def tw721408939920447199:=t
def tw7754289637919431047:=t
def tw15040427290842272365:=t
def tw2967617029515195103:=t
def tw15736586616161710877:=t
def tw1846159429891619907:=t
def tw12614728375225716760:=t
def tw8106018714912341718:=t
def tw8987306169260158840:=t
def tw16463601629445496741:=t
def tw4443734968286839159:=t
def tw1886741101408146749:=t
def tw5872179163310367417:=t
def tw10236568209190857547:=t
def tw13885185305157384877:=t
def tw9167913159786097512:=t
def tw16361551714425766935:=t
def tw1322180131893170002:=t
def tw12899799475354680318:=t
def tw7115433484933205132:=t
def tw15184178634424949805:=t
def tw10379749268404352752:=t
def tw3694582208952026190:=t
def tw7403383313127071566:=t
def tw10565404072589764177:=t
def tw9306722610143480451:=t
def tw3800972748581847020:=t
def tw10598423317879267065:=t
def tw6978691341523058605:=t
def tw11409322171637248568:=t
def tw12741189099269609707:=t
def tw3658358535070426611:=t
def tw5947615096657428639:=t
def tw16034346682316967608:=t
def tw9266552746922997558:=t
def tw15458786756188639771:=t
def tw14528145821302291886:=t
def tw4400637631898681935:=t
def tw1655940468744708406:=t
def tw2681994564625298099:=t
def tw8731789343911102400:=t
def tw16420367754236968674:=t
def tw11971972309315782902:=t
def tw16882593026014290499:=t
def tw4742630833835209153:=t
def tw5993835392075735924:=t
def tw12641630571239197007:=t
def tw9115768528286534682:=t
def tw7297008362964413785:=t
def tw17309504972641967102:=t
def tw2223044724660417505:=t
def tw14925371837835672414:=t
def tw12210623159443068275:=t
def tw3830340202166668117:=t
def tw10216731983035966422:=t
def tw18395129001240664305:=t
def tw15663401418960891148:=t
def tw5942248024848153193:=t
def tw1052270745946138528:=t
def tw13580564671888418122:=t
def tw13883105279412997233:=t
def tw11481239132245108108:=t
def tw9969699560491943088:=t
def tw17994011366510884592:=t
def tw11677503451387447928:=t
def tw10274398600397629113:=t
def tw1529410021229115021:=t
def tw9520190340290229930:=t
def tw4076060145456672550:=t
def tw17116672598915030394:=t
def tw6843410137084513598:=t
def tw9219474452133365394:=t
def tw2039992347153246847:=t
def tw13973025461542370393:=t
def tw5424303414874950935:=t
def tw3098527637035709586:=t
def tw8401712567110332482:=t
def tw4393048854404771506:=t
def tw12319284062735915739:=t
def tw2228188919068865662:=t
def tw10632070134322802499:=t
def tw7290793092310919712:=t
def tw15400736003830017862:=t
def tw4435807108263392243:=t
def tw9143914097961096687:=t
end PySem.W.Fast
set_option Elab.async false
set_option maxRecDepth 100000
namespace L2
variable{α κ:Type}{C a b dx it:Addr}{c cd u:Value}{w:World}{Zv h':Heap}{m name qual x:Str}{e tg:Expr}{mP Zo:ZJS}{s s':Shared}{g':Array GenState}{i j n t' tk:Nat}{d':Drawn}{ch fp:List Addr}{N ks ns ps:List Str}{M:Model}{A:Around}{E Q:Value->Shared->Prop}{es rest:List Expr}{ZJM pos:Pos}{op:CmpOp}{f:Value->Value->Sem Value}{pl:Sem Bool}{A4 ds us:List Value}{mA mg:ZJT}{prog:Program}{kw:List (Str×Value)}{fd:FuncData}{outer:List Env}{sc scope:Scope}
abbrev Key:=Sum Int Str
noncomputable def JC:Key->Value->Bool
 | .inl k,v=>Value.isInt k v
 | .inr x,v=>Value.isStrOf x v
noncomputable def rQ(w:World):Key->Int
 | .inl k=>hashInt k
 | .inr x=>hashStr w x
theorem Gb:∀{k:Key}{v:Value},JC k v=true->(∃i t,k=Sum.inl i/\v=Value.int i t)∨(∃x t,k=Sum.inr x/\v=Value.str x t)
 | .inl i,v,h=>by
  obtain⟨t,e⟩:=Value.isInt_shape (k:=i) (v:=v) h;exact .inl ⟨i,t,rfl,e⟩
 | .inr x,v,h=>by
  obtain⟨t,e⟩:=Value.isStrOf_shape (x:=x) (v:=v) h;exact .inr ⟨x,t,rfl,e⟩
theorem ZGe(i:Int)(t:Tok):JC (.inl i) (.int i t)=true:=by simp[JC,Value.isInt]
theorem vV(x:Str)(t:Tok):JC (.inr x) (.str x t)=true:=by simp[JC,Value.isStrOf]
theorem r8(a b:Int):decide ((Sum.inl a:Key)=Sum.inl b)=(a == b):=by
 by_cases e:a=b
 .subst e;simp
 .have h:¬ (Sum.inl a:Key)=Sum.inl b:=λq=>e (Sum.inl.inj q);rw[uz h];exact(beq_eq_false_iff_ne.mpr e).symm
theorem sA(a b:Str):decide ((Sum.inr a:Key)=Sum.inr b)=decide (a=b):=by
 by_cases e:a=b
 .subst e;simp
 .have h:¬ (Sum.inr a:Key)=Sum.inr b:=λq=>e (Sum.inr.inj q);rw[uz h,uz e]
theorem yz(a:Int)(b:Str):decide ((Sum.inl a:Key)=Sum.inr b)=false:=uz (λq=>nomatch q)
theorem ZFl(a:Str)(b:Int):decide ((Sum.inr a:Key)=Sum.inl b)=false:=uz (λq=>nomatch q)
def C3(prog:Program)(w:World):PySem.KeyKind prog w Key where
 is:=JC
 hash:=rQ w
 inj:=λv a b f d=>by
  rcases Gb f with⟨i,t,rfl,rfl⟩|⟨x,t,rfl,rfl⟩
  .rcases Gb d with⟨j,u,rfl,e⟩|⟨y,u,rfl,e⟩
   .injection e with e1 _;rw[e1]
   .exact nomatch e
  .rcases Gb d with⟨j,u,rfl,e⟩|⟨y,u,rfl,e⟩
   .exact nomatch e
   .injection e with e1 _;rw[e1]
 byValue:=λk v h=>by
  rcases Gb h with⟨i,t,rfl,rfl⟩|⟨x,t,rfl,rfl⟩ <;> rfl
 pyHash:=λc h=>by
  rcases Gb c with⟨i,t,rfl,rfl⟩|⟨x,t,rfl,rfl⟩
  .exact wpAny_pyHash_int h
  .exact wpAny_pyHash_str h
 eqBool:=λhu c h=>by
  rcases Gb hu with⟨i,t,rfl,rfl⟩|⟨x,t,rfl,rfl⟩
  .rcases Gb c with⟨j,u,rfl,rfl⟩|⟨y,u,rfl,rfl⟩
   .rw[r8]at h;exact wpAny_eqBool_int h
   .rw[yz]at h;exact SeqAt.EqAt.int_str i t y u _ _ _ _ h
  .rcases Gb c with⟨j,u,rfl,rfl⟩|⟨y,u,rfl,rfl⟩
   .rw[ZFl]at h;exact SeqAt.EqAt.str_int x t j u _ _ _ _ h
   .rw[sA]at h;exact wpAny_eqBool_str h
 «strs»:=λk x t v h=>by
  rcases Gb h with⟨i,u,rfl,e⟩|⟨y,u,rfl,e⟩
  .exact nomatch e
  .injection e with e1 _
   subst e1;cases v <;> rfl
theorem ZHH(prog:Program)(w:World)(i:Int)(t:Tok):(C3 prog w).is (.inl i) (.int i t)=true:=ZGe i t
theorem ZEC(prog:Program)(w:World)(x:Str)(t:Tok):(C3 prog w).is (.inr x) (.str x t)=true:=vV x t
inductive V where
 |AB|bl (b:Bool)|int (i:Int)|str (x:Str)|Ff (b:Array UInt8)|JV (b:UInt64)|ref (a:Addr)|ty (n:String)
 deriving DecidableEq
variable{v y:V}{DT vs xs:List V}
def RelV:V->Value->Prop
 | .AB,u=>u=Value.none
 | .bl b,u=>u=Value.bool b
 | .int i,u=>∃t,u=Value.int i t
 | .str x,u=>∃t,u=Value.str x t
 | .Ff b,u=>∃t,u=Value.bytes b t
 | .JV b,u=>∃t,u=Value.float b t
 | .ref a,u=>u=Value.ref a
 | .ty n,u=>u=Value.type n
abbrev Vals:List V->List Value->Prop:=Paired RelV
theorem Vals.length{xs:List V}{us:List Value}(r:Vals xs us):xs.length=us.length:=bA r
theorem Vals.get:∀{xs:List V}{us:List Value}{i:Nat}{x:V},Vals xs us->xs[i]?=some x->∃u,us[i]?=some u/\RelV x u
 |_,_,_,_,.nil,e=>by simp at e
 |_,_,0,_,.cons r _,e=>by simp at e;subst e;exact⟨_,rfl,r⟩
 |_,_,i+1,x,.cons _ t,e=>by
  obtain⟨u,h1,h2⟩:=Vals.get (i:=i) (x:=x) t (by simpa using e)
  exact⟨u,by simpa using h1,h2⟩
theorem Vals.set{x:V}{u:Value}(r:RelV x u):∀{xs:List V}{us:List Value}(i:Nat),Vals xs us->Vals (xs.set i x) (us.set i u)
 |_,_,_,.nil=>.nil
 |_,_,0,.cons _ t=>.cons r t
 |_,_,i+1,.cons q t=>.cons q (Vals.set r i t)
theorem Vals.append:∀{xs ys:List V}{us ws:List Value},Vals xs us->Vals ys ws->Vals (xs++ys) (us++ws)
 |_,_,_,_,.nil,s=>s
 |_,_,_,_,.cons r t,s=>.cons r (Vals.append t s)
theorem Vals.take:∀{xs:List V}{us:List Value}(n:Nat),Vals xs us->Vals (xs.take n) (us.take n)
 |_,_,0,_=>.nil
 |_,_,_+1,.nil=>.nil
 |_,_,n+1,.cons r t=>.cons r (Vals.take n t)
theorem Vals.drop:∀{xs:List V}{us:List Value}(n:Nat),Vals xs us->Vals (xs.drop n) (us.drop n)
 |_,_,0,r=>r
 |_,_,_+1,.nil=>.nil
 |_,_,n+1,.cons _ t=>Vals.drop n t
def Er:Option V->Option Value->Prop
 |some v,some u=>RelV v u
 |none,none=>True
 |_,_=>False
def KV:List (κ×V)->List (κ×Value)->Prop:=Paired λ(p:κ×V)(q:κ×Value)=>p.1=q.1/\RelV p.2 q.2
noncomputable def kV:Key->V
 | .inl i=>.int i
 | .inr x=>.str x
inductive Tb where
 |tab (pos:Pos) (q:Str)
 |Ta (q:Str)
inductive HO where
 /-- a list -/
 |lst (xs:List V)
 /-- a tuple (never changes) -/
 |tup (xs:List V)
 /-- a dict ZA4 keys are ints and texts;one ZA4 keys are tuples of ints and texts (HN empty one is both) -/
 |dK (A6:List (Key×V))|dT (A6:List (List Key×V))
 /-- a set of ints: A4 members,A4 size -/
 |set (S:Int->Bool) (n:Nat)
 /-- an instance of HN class at C,A4 dict at dx,A4 attributes -/
 |ins (C dx:Addr) (fs:List (Str×V))
 /-- HN dict of HN instance at x -/
 |own (x:Addr)
 /-- HN dict of an exception -/
 |xd (fs:List (Str×V))
 /-- a bound method,f of x -/
 |met (f x:Addr)
 /-- a range object lo,lo+1,.. below hi -/
 |ZS (lo hi:Int)
 /-- a ZBK ZJ7 is known to HN object (HN iP;a dict while a loop walks it): read,never written while it is so -/
 |C0 (o:Obj) (u:HO)
 /-- a code ZJJ table,a code in it -/
 |J3 (t:Tb)
 /-- any other ZBK,by ZEq is true of A4 one object (a def of ZIn own: ZHL a S n:=HO.ext λh=>..) -/
 |ext (φ:Heap->Prop)
variable{o o':HO}
abbrev Hp:=Addr->Option HO
variable{H H':Hp}
inductive IS where
 |tup (xs:List V)
 |J3 (t:Tb)
noncomputable def IS.ho:IS->HO
 | .tup xs=>.tup xs
 | .J3 t=>.J3 t
noncomputable def upd(H:Hp)(a:Addr)(o:HO):Hp:=λb=>if b=a then some o else H b
theorem AJ:upd H a o a=some o:=by unfold upd;rw[sZ rfl]
theorem Af(h:b≠a):upd H a o b=H b:=by unfold upd;rw[sN h]
theorem ua{u:HO}(h:H a=some o)(h':H b=some u)(d:o≠u):a≠b:=by
 intro e;subst e;rw[h]at h';exact d (BI h')
theorem Dr(h:H a=some o)(h':H b=none):a≠b:=by
 intro e;subst e;rw[h]at h';cases h'
section
variable(P:Program)(w:World)
def C7(H:Hp)(h:Heap)(a:Addr):HO->Prop
 | .lst xs=>xs.length<=sizeLine/\∃(A4:List Value)(n:Nat),Vals xs A4/\h.get? a=some { cls:=.type "list", data:=.seq A4.toArray n }
 | .tup xs=>xs.length<=sizeLine/\∃A4:List Value,Vals xs A4/\(IsTup h a A4.toArray/\∀ob,h.get? a=some ob->ob.dict=none)
 | .dK A6=>A6.length<=sizeLine/\(a == sysModules)=false/\∃vs,KV A6 vs/\h.DictOf (C3 P w) a vs
 | .dT A6=>A6.length<=sizeLine/\(a == sysModules)=false/\∃xs:List (List Key×Addr×Value),
   Paired (λ(p:List Key×V)(q:List Key×Addr×Value)=>p.1=q.1/\H q.2.1=some (.tup (p.1.map kV))/\RelV p.2 q.2.2) A6 xs/\
   ∃o es ep,h.get? a=some o/\o.ExactDict/\o.data=.dict es ep/\es.toList=xs.map (entryOfKey (tupleKind (C3 P w)))/\(xs.map (·.1)).Nodup
 | .set S n=>h.SetOf (intKind P w) a S n
 | .ins C dx fs=>H dx=some (.own a)/\fs.length<=1000/\dx≠a/\h.get? a=some (PySem.W.instObj C dx)/\
   ∃mA,h.Ns1 dx mA/\(∀f,Er (fs.lookup f) (mA f))/\PySem.Within mA (fs.map (·.1))
 | .own _=>∃o,h.get? a=some o
 | .xd fs=>∃mA,h.Ns1 a mA/\∀f,Er (fs.lookup f) (mA f)
 | .ZS lo hi=>∃t u v,h.get? a=some { cls:=.type "range", data:=.fields #[.int lo t,.int hi u,.int 1 v] }
 | .C0 o u=>h.get? a=some o/\C7 H h a u
 | .J3 (.tab pos q)=>∃ps:Array Value,h.get? a=some { cls:=.none,data:=.fields ps }/\TriplesOk ps.toList/\∀d,codeAmong pos ps.toList=some d->∃c,d=.ref c/\H c=some (.J3 (.Ta q))
 | .J3 (.Ta q)=>∃b vs t,h.get? a=some b/\b.data=.fields vs/\vs[1]?=some (.str q t)
 | .met f x=>h.get? a=some (PySem.W.methodObj (.ref f) (.ref x))
 | .ext φ=>φ h/\(∃o,h.get? a=some o)/\∀h1 h2:Heap,φ h1->(∀o,h1.get? a=some o->h2.get? a=some o)->φ h2
def CF(H:Hp)(h:Heap):Prop:=∀a o,H a=some o->C7 P w H h a o
end
section
variable{P:Program}{h:Heap}
theorem C7.lt(x:C7 P w H h a o):a<h.objs.size:=by
 cases o with
 |lst xs=>obtain⟨_,_,_,_,e⟩:=x;exact BE e
 |tup xs=>obtain⟨_,_,_,p⟩:=x;exact p.1.lt
 |dK A6=>obtain⟨_,_,_,_,o,_,_,e,_⟩:=x;exact BE e
 |dT A6=>obtain⟨_,_,_,_,o,_,_,e,_⟩:=x;exact BE e
 |set S n=>obtain⟨o,_,_,_,e,_⟩:=x;exact BE e
 |ins C dx fs=>obtain⟨_,_,_,e,_⟩:=x;exact BE e
 |own y=>obtain⟨_,e⟩:=x;exact BE e
 |xd fs=>obtain⟨_,⟨_,_,_,e,_⟩,_⟩:=x;exact BE e
 |ZS lo hi=>obtain⟨_,_,_,e⟩:=x;exact BE e
 |C0 ob u=>obtain⟨e,_⟩:=x;exact BE e
 |J3 t=>
  cases t with
  |tab pos q=>obtain⟨_,e,_⟩:=x;exact BE e
  |Ta q=>obtain⟨_,_,_,e,_⟩:=x;exact BE e
 |met f y=>exact BE (show h.get? a=some _ from x)
 |ext φ=>obtain⟨_,⟨_,e⟩,_⟩:=x;exact BE e
theorem Paired.YR{α β:Type}{F G:α->β->Prop}:∀{l₁:List α}{l₂:List β},Paired F l₁ l₂->(∀a b,F a b->G a b)->Paired G l₁ l₂
 |_,_,.nil,_=>.nil
 |_,_,.cons r t,f=>.cons (f _ _ r) (Paired.YR t f)
theorem C7.JL(x:C7 P w H h a o)(k:∀b u,(b=a∨H b=some (.own a))->h.get? b=some u->h'.get? b=some u)
  (ho:∀b,H b=some (.own a)->H' b=some (.own a)) (i:∀b(x:IS),H b=some x.ho->H' b=some x.ho):C7 P w H' h' a o:=by
 induction o with
 |lst xs=>obtain⟨z,A4,n,r,e⟩:=x;exact⟨z,A4,n,r,k _ _ (.inl rfl) e⟩
 |tup xs=>obtain⟨z,A4,r,⟨ob,e,c⟩,B⟩:=x;exact⟨z,A4,r,⟨ob,k _ _ (.inl rfl) e,c⟩,λSG j=>by rw[k _ _ (.inl rfl) e]at j;cases j;exact B _ e⟩
 |dK A6=>obtain⟨z,y,vs,r,ob,es,ep,e,c⟩:=x;exact⟨z,y,vs,r,ob,es,ep,k _ _ (.inl rfl) e,c⟩
 |dT A6=>
  obtain⟨z,y,xs,r,ob,es,ep,e,c⟩:=x;exact⟨z,y,xs,Paired.YR r λp q z=>⟨z.1,i _ (.tup _) z.2.1,z.2.2⟩,ob,es,ep,k _ _ (.inl rfl) e,c⟩
 |set S n=>obtain⟨ob,es,ep,t,e,c⟩:=x;exact⟨ob,es,ep,t,k _ _ (.inl rfl) e,c⟩
 |ins C dx fs=>
  obtain⟨d,z,ne,e,mA,⟨g,es,ep,A,c⟩,r⟩:=x;exact⟨ho _ d,z,ne,k _ _ (.inl rfl) e,mA,⟨g,es,ep,k _ _ (.inr d) A,c⟩,r⟩
 |own y=>obtain⟨ob,e⟩:=x;exact⟨ob,k _ _ (.inl rfl) e⟩
 |xd fs=>obtain⟨mA,⟨g,es,ep,e,c⟩,r⟩:=x;exact⟨mA,⟨g,es,ep,k _ _ (.inl rfl) e,c⟩,r⟩
 |ZS lo hi=>obtain⟨t,u,v,e⟩:=x;exact⟨t,u,v,k _ _ (.inl rfl) e⟩
 |C0 ob u m=>obtain⟨e,q⟩:=x;exact⟨k _ _ (.inl rfl) e,m q⟩
 |J3 t=>
  cases t with
  |tab pos q=>obtain⟨ps,e,ok,c⟩:=x;exact⟨ps,k a _ (.inl rfl) e,ok,λD z=>by obtain⟨b,y,s⟩:=c D z;exact⟨b,y,i b (.J3 _) s⟩⟩
  |Ta q=>obtain⟨l,vs,t,e,c⟩:=x;exact⟨l,vs,t,k a _ (.inl rfl) e,c⟩
 |met f y=>
  have e:h.get? a=some (PySem.W.methodObj (.ref f) (.ref y)):=x;show h'.get? a=some (PySem.W.methodObj (.ref f) (.ref y));exact k a _ (.inl rfl) e
 |ext φ=>obtain⟨p,⟨o,e⟩,st⟩:=x;exact⟨st _ _ p λo q=>k _ _ (.inl rfl) q,⟨o,k _ _ (.inl rfl) e⟩,st⟩
theorem CF.lt(x:CF P w H h)(e:H a=some o):a<h.objs.size:=(x a o e).lt
theorem CF.fresh(x:CF P w H h)(e:h.objs.size<=a):H a=none:=by
 cases q:H a with
 |none=>rfl
 |some u=>exact absurd (De (x.lt q) e) (M6 _)
theorem CF.kept(x:CF P w H h)(k:∀b u,h.get? b=some u->h'.get? b=some u):CF P w H h':=λa o e=>
 (x a o e).JL (λb u _ q=>k b u q) (λ_ q=>q) λ_ _ q=>q
theorem CF.laid(x:CF P w H h)(k:∀b u,h.get? b=some u->h'.get? b=some u)(hp:h.objs.size<=a)(new:C7 P w (upd H a o) h' a o):CF P w (upd H a o) h':=λb u e=>by
 have hn:=x.fresh hp
 by_cases d:b=a
 .subst d;rw[AJ]at e;cases e;exact new
 .rw[Af d]at e;exact(x b u e).JL (λc v _ q=>k c v q) (λc q=>by rw[Af (Dr q hn)];exact q) λc xs q=>by rw[Af (Dr q hn)];exact q
end
def Rd(H:Hp)(a:Addr)(u:HO):Prop:=H a=some u∨∃o,H a=some (.C0 o u)
theorem Rd.ok{P:Program}{h:Heap}{u:HO}(r:Rd H a u)(x:CF P w H h):C7 P w H h a u:=by
 rcases r with r|⟨o,r⟩
 .exact x a u r
 .obtain⟨_,q⟩:=x a _ r;exact q
def Pl:Option HO->Prop
 |some (.lst _)=>True
 |some (.dK _)=>True
 |some (.dT _)=>True
 |some (.set _ _)=>True
 |some (.ins _ _ _)=>True
 |some (.ext _)=>True
 |_=>False
section
variable{P:Program}{h:Heap}{x e:Addr}
theorem CF.write(ok:CF P w H h)(a:Pl (H x))(j:e=x∨H e=some (.own x))(k:∀b u,b≠e->h.get? b=some u->h'.get? b=some u)(KP:∃u,h'.get? e=some u)
  (new:C7 P w (upd H x o') h' x o'):CF P w (upd H x o') h':=λb u q=>by
 have l:∀c y,H c=some (.own y)->c≠x:=λc y r z=>by subst z;rw[r]at a;exact a
 have m:∀c(xs:IS),H c=some xs.ho->c≠x:=λc xs r z=>by subst z;rw[r]at a;cases xs <;> exact a
 by_cases f:b=x
 .subst f;rw[AJ]at q;cases q;exact new
 .rw[Af f]at q
  by_cases g:b=e
  .have i:H b=some (.own x):=by
    rcases j with z|z
    .exact absurd (g.trans z) f
    .rw[g];exact z
   rw[q]at i;cases i;obtain⟨v,n⟩:=KP;exact⟨v,by rw[g];exact n⟩
  .refine(ok b u q).JL (λc v d r=>k c v ?_ r) (λc r=>by rw[Af (l c b r)];exact r) λc xs r=>by rw[Af (m c xs r)];exact r
   rcases d with rfl|d
   .exact g
   .rintro rfl;rcases j with z|z
    .exact l c b d z
    .rw[d]at z;cases z;exact f rfl
end
structure Un (fs ex:List Addr) (H H':Hp) (h h':Heap):Prop where
 keep:∀b o,h.get? b=some o->H b=none->b∉fs->b∉ex->h'.get? b=some o
 slot:∀b o,h.get? b=some o->H b=none->b∈fs->b∉ex->∃sl,h'.get? b=some { o with slots:=sl }
 free:∀b o,h.get? b=some o->H b=none->b∉ex->H' b=none
 there:∀b o,h.get? b=some o->b∉ex->∃o',h'.get? b=some o'
 IM:∀b(x:IS),H b=some x.ho->H' b=some x.ho
 HP:∀b o u,H b=some (.C0 o u)->H' b=some (.C0 o u)
section
variable{fs fs' ex ex':List Addr}{H1 H2:Hp}{h h1 h2:Heap}{x e:Addr}
theorem Un.any(u:Un fs ex H H1 h h1){ob:Obj}(q:h.get? b=some ob)(n:H b=none)(hx:b∉ex):∃sl,h1.get? b=some { ob with slots:=sl }:=by
 by_cases a:b∈fs
 .exact u.slot b ob q n a hx
 .exact⟨ob.slots,u.keep b ob q n a hx⟩
theorem Un.kept(k:∀b u,h.get? b=some u->h'.get? b=some u):Un fs ex H H h h':=
 ⟨λb ob q _ _ _=>k b ob q,λb ob q _ _ _=>⟨ob.slots,k b ob q⟩,λ_ _ _ n _=>n,λb ob q _=>⟨ob,k b ob q⟩,λ_ _ q=>q,λ_ _ _ q=>q⟩
theorem Un.refl:Un fs ex H H h h:=Un.kept λ_ _ q=>q
theorem Un.laid(k:∀b u,h.get? b=some u->h'.get? b=some u)(hp:h.objs.size<=a)(hn:H a=none):Un fs ex H (upd H a o) h h' where
 keep:=λb u q _ _ _=>k b u q
 slot:=λb u q _ _ _=>⟨u.slots,k b u q⟩
 free:=λb u q n _=>by rw[Af (BP (De (BE q) hp))];exact n
 there:=λb u q _=>⟨u,k b u q⟩
 IM:=λb xs q=>by rw[Af (Dr q hn)];exact q
 HP:=λb u xs q=>by rw[Af (Dr q hn)];exact q
theorem Un.write(a:Pl (H x))(g:e=x∨H e=some (.own x))(k:∀b u,b≠e->h.get? b=some u->h'.get? b=some u)(KP:∃u,h'.get? e=some u):Un fs ex H (upd H x o) h h':=by
 have hx:∀b,H b=none->b≠x:=λb n z=>by subst z;rw[n]at a;exact a
 have d:∀b,H b=none->b≠e:=λb n z=>by
  subst z;rcases g with r|r
  .exact hx b n r
  .rw[n]at r;cases r
 have c:∀b u,H b=some u->¬ Pl (some u)->b≠x:=λb u q nm z=>by subst z;rw[q]at a;exact nm a
 refine⟨λb u q n _ _=>k b u (d b n) q,λb u q n _ _=>⟨u.slots,k b u (d b n) q⟩,λb u q n _=>by rw[Af (hx b n)];exact n,λb u q _=>?_,
  λb xs q=>by rw[Af (c b _ q λz=>by cases xs <;> exact z)];exact q,λb u xs q=>by rw[Af (c b _ q λz=>z)];exact q⟩
 by_cases f:b=e
 .subst f;exact KP
 .exact⟨u,k b u f q⟩
end
noncomputable def Tc(h:Heap)(H:Hp):List Addr:=(List.range h.objs.size).filter λa=>(H a).isSome
def J0(h:Heap)(H:Hp):Heap:=PySem.W.hideAll h (Tc h H)
theorem rP(h:Heap)(H:Hp):(J0 h H).objs.size=h.objs.size:=PySem.W.hideAll_size _ _
theorem ZFO{h:Heap}{o:Obj}(e:h.get? b=some o)(n:H b=none):(J0 h H).get? b=some o:=
 PySem.W.hideAll_get _ e λa=>by
  have q:(H b).isSome=true:=(List.mem_filter.mp a).2;rw[n]at q;simp at q
theorem zD{h:Heap}{o:Obj}(e:(J0 h H).get? b=some o):h.get? b=some o/\H b=none:=by
 have a:h.get? b=some o:=PySem.W.of_hideAll (Tc h H) e;refine⟨a,?_⟩;cases q:H b with
 |none=>rfl
 |some x=>
  have c:b∈Tc h H:=List.mem_filter.mpr ⟨List.mem_range.mpr (BE a),by simp[q]⟩;have z:(J0 h H).get? b=none:=PySem.W.hideAll_none (Tc h H) c;rw[z]at e;cases e
structure Mod (K:ZJR) (mg:ZJT) (Zv:Heap):Prop where
 OG:K.In Zv
 glob:Zv.Ns mainGlobals mg
 blt:∃mb,Zv.Ns builtinsNs mb/\∀x:Str,x ≠"__name__" -> mb x=bootBuiltins x
 nolimit:Zv.NoLimit
structure Cx where
 prog:Program
 w:World
 K:ZJR
 mg:ZJT
 base:Heap
 A:Around
 N:List Str
 s₀:Shared
 H₀:Hp
 env:Env
 outer:List Env
 stack:List Env
 ex:List Addr
 fn:Str->Bool
 calm:Bool
 pn:ZJS
 xe:Value->Shared->Prop
variable{X:Cx}
noncomputable def HL(l:List Env):List Addr:=l.filterMap (·.frame)
abbrev Cx.fs(X:Cx):List Addr:=HL X.outer
abbrev EH(X:Cx)(e:Expr)(es:List Expr):Prop:=starEach (e::es) X.env=(false,eval e X.env)::starEach es X.env
abbrev BEq(X:Cx)(pos:Pos)(es:List Expr):Prop:=(backTo pos (starEach es X.env)).any (·.1)=false
def VT(sc:Scope)(x:Str):Prop:=sc.names.lookup x=some .local∨sc.names.lookup x=some .cell∨sc.names.lookup x=some .free
def Loc(sc:Scope)(x:Str):Prop:=sc.names.lookup x=some .local∨sc.names.lookup x=some .cell
def Look(env:Env)(h:Heap)(m:ZJT)(x:Str)(u:Value):Prop:=
 (env.kindOf x=some .local/\m x=some u)∨((env.kindOf x=some .cell∨env.kindOf x=some .free)/\∃c,env.cells.lookup x=some c/\h.IsCell c (some u))
structure Cx.Ok (X:Cx):Prop where
 mod:Mod X.K X.mg X.base
 kind:X.env.scope.kind=.function
 glob:X.env.globals=mainGlobals
 blt:X.env.builtins=builtinsNs
 above:X.s₀.heap.objs.size<=X.env.locals
 inj:∀x y c,X.env.cells.lookup x=some c->X.env.cells.lookup y=some c->x=y
 has:∀x,(X.env.kindOf x=some .cell∨X.env.kindOf x=some .free)->∃c,X.env.cells.lookup x=some c
 OA:∀x c,X.fn x=true->X.env.cells.lookup x=some c->X.s₀.heap.objs.size<=c
 hd:X.calm=true->X.A.handled=none
 frames:X.A.frames=some X.stack
 Sh:X.stack=X.outer∨(X.stack=X.env::X.outer/\X.env.frame=some X.env.locals)
 Tq:∀b∈X.ex,b≠X.env.locals/\∀x c,X.env.cells.lookup x=some c->c≠b
 bs:∀b o,X.base.get? b=some o->X.s₀.heap.get? b=some o/\X.H₀ b=none
 J6:X.base.objs.size<=X.s₀.heap.objs.size
 Of:∀b o,X.base.get? b=some o->b∉X.ex
 OM:∀b∈X.ex,b∉X.fs
 Gs:X.s₀.heap.FunFrames X.base X.outer
 L5:∀b∈X.fs,X.H₀ b=none
structure Inv (X:Cx) (Zo:ZJS) (Z:List (Option V)) (H:Hp) (s:Shared):Prop where
 ok:X.Ok
 os:s.os=X.s₀.os
 bare:AllBare s.gens
 base:Un X.fs X.ex X.H₀ H X.s₀.heap s.heap
 loc:∃m,s.heap.Ns X.env.locals m/\∀(i:Nat)(x:Str)(v:V),X.N[i]?=some x->Z[i]?=some (some v)->VT X.env.scope x->∃u,RelV v u/\Look X.env s.heap m x u
 cell:∀x c,X.env.cells.lookup x=some c->∃v,s.heap.IsCell c v
 free:H X.env.locals=none
 HQ:∀x c,X.env.cells.lookup x=some c->H c=none
 pin:∀p∈X.pn++Zo,s.heap.get? p.1=some p.2/\H p.1=none/\p.1≠X.env.locals/\p.1∉X.fs/\∀v,p.2.data≠.cell v
 AO:CF X.prog X.w H s.heap
 len:Z.length=X.N.length
section
variable{Z:List (Option V)}
theorem Cx.Ok.ZE8(ok:X.Ok){o:Obj}(e:X.base.get? b=some o):b∉X.fs:=λa=>by
 have:=(ok.Gs.mem a).1;rw[e]at this;cases this
theorem Inv.bs(I:Inv X Zo Z H s):∀b o,X.base.get? b=some o->s.heap.get? b=some o/\H b=none:=λb o e=>
 ⟨I.base.keep b o (I.ok.bs b o e).1 (I.ok.bs b o e).2 (I.ok.ZE8 e) (I.ok.Of b o e),I.base.free b o (I.ok.bs b o e).1 (I.ok.bs b o e).2 (I.ok.Of b o e)⟩
theorem Inv.bk(I:Inv X Zo Z H s):∀b o,X.base.get? b=some o->s.heap.get? b=some o:=λb o e=>(I.bs b o e).1
theorem Inv.mod(I:Inv X Zo Z H s):Mod X.K X.mg X.base:=I.ok.mod
theorem Inv.Cs(I:Inv X Zo Z H s):X.K.In s.heap:=I.ok.mod.OG.keeps I.bk
theorem Inv.lt(I:Inv X Zo Z H s):X.env.locals<s.heap.objs.size:=let ⟨_,hn,_⟩:=I.loc;hn.lt
theorem Inv.sz(I:Inv X Zo Z H s):X.s₀.heap.objs.size<=s.heap.objs.size:=Cc I.ok.above (JU I.lt)
theorem Inv.ZHs(I:Inv X Zo Z H s)(h:s.heap.objs.size<=a):a∉X.fs:=λb=>by
 obtain⟨_,o,ho,_⟩:=I.ok.Gs.mem b;exact absurd (De (BE ho) (Cc I.sz h)) (M6 _)
theorem Inv.Lq(I:Inv X Zo Z H s):∀x c,X.env.cells.lookup x=some c->c≠X.env.locals:=λx c e z=>by
 obtain⟨v,o,ho,hd⟩:=I.cell x c e;obtain⟨m,⟨o',es,ep,EX,JM,_⟩,_⟩:=I.loc;rw[z,EX]at ho;cases ho;rw[JM]at hd;cases hd
theorem Inv.Gs(I:Inv X Zo Z H s):s.heap.FunFrames X.base X.outer:=by
 have all:∀(l:List Env),(∀b∈HL l,b∈X.fs)->X.s₀.heap.FunFrames X.base l->s.heap.FunFrames X.base l:=by
  intro l
  induction l with
  |nil=>intro _ _;trivial
  |cons env r f=>
   intro hs h;obtain⟨i,⟨L,o,a,hn,ho,hd⟩,g⟩:=h;have d:L∈X.fs:=hs L (by unfold HL;rw[nj,a];exact CV);obtain⟨sl,e⟩:=I.base.slot L o ho (I.ok.L5 L d) d λz=>I.ok.OM L z d;exact⟨i,⟨L,_,a,hn,e,hd⟩,f (λb c=>hs b (by unfold HL;rw[nj,a];exact Ck _ c)) g⟩
 exact all X.outer (λ_ c=>c) I.ok.Gs
theorem Inv.stack(I:Inv X Zo Z H s):s.heap.FunFrames X.base X.stack:=by
 rcases I.ok.Sh with e|⟨e,hf⟩
 .rw[e];exact I.Gs
 .rw[e];obtain⟨m,hn,_⟩:=I.loc;refine .cons (by rw[I.ok.kind];decide) hf hn ?_ I.Gs;exact Heap.get?_none_of_le (Cc I.ok.J6 I.ok.above)
theorem Inv.aR(I:Inv X Zo Z H s):∀b∈HL X.stack,b∈X.env.locals::X.fs:=λb a=>by
 rcases I.ok.Sh with e|⟨e,hf⟩
 .rw[e]at a;exact Ck _ a
 .rw[e]at a;unfold HL at a;rw[nj,hf]at a;exact a
theorem Inv.gK(I:Inv X Zo Z H s):∀b∈HL X.stack,H b=none:=λb a=>by
 rcases List.mem_cons.mp (I.aR b a)with e|a
 .rw[e];exact I.free
 .obtain⟨_,o,ho,_⟩:=I.ok.Gs.mem a;exact I.base.free b o ho (I.ok.L5 b a) λz=>I.ok.OM b z a
theorem Inv.step(I:Inv X Zo Z H s)
  (IT:∀b∈ch,(b∈X.ex∨X.s₀.heap.objs.size<=b)/\b≠X.env.locals/\(∀x c,X.env.cells.lookup x=some c->c≠b)/\∀p∈X.pn++Zo,p.1≠b)
  (keep:∀b o,b≠X.env.locals->b∉X.fs->b∉ch->s.heap.get? b=some o->H b=none->h'.get? b=some o)
  (slot:∀b o,b≠X.env.locals->b∈X.fs->b∉ch->s.heap.get? b=some o->H b=none->∃sl,h'.get? b=some { o with slots:=sl }) (free:∀b o,b∉ch->s.heap.get? b=some o->H b=none->H' b=none)
  (there:∀b o,b∉ch->s.heap.get? b=some o->∃o',h'.get? b=some o')
  (IM:∀b(x:IS),H b=some x.ho->H' b=some x.ho) (HP:∀b o u,H b=some (.C0 o u)->H' b=some (.C0 o u))
  (ns:∀m,s.heap.Ns X.env.locals m->h'.Ns X.env.locals m) (AO:CF X.prog X.w H' h') (hg:AllBare g') :
  Inv X Zo Z H' { s with heap:=h',gens:=g',drawn:=d',toks:=t' }:=by
 have A:∀b o,X.s₀.heap.get? b=some o->b≠X.env.locals:=λb o e=>BP (De (BE e) I.ok.above);have j:∀b o,X.s₀.heap.get? b=some o->b∉X.ex->b∉ch:=λb o e hx f=>by
  rcases(IT b f).1 with z|z
  .exact hx z
  .exact absurd (De (BE e) z) (M6 _)
 have a:∀x c,X.env.cells.lookup x=some c->∀v,s.heap.IsCell c v->h'.IsCell c v:=λx c e v AV=>by
  obtain⟨o,ho,hd⟩:=AV;have h:c∉ch:=λz=>(IT c z).2.2.1 x c e rfl
  by_cases B:c∈X.fs
  .obtain⟨sl,q⟩:=slot c o (I.Lq x c e) B h ho (I.HQ x c e);exact⟨_,q,hd⟩
  .exact⟨o,keep c o (I.Lq x c e) B h ho (I.HQ x c e),hd⟩
 refine⟨I.ok,I.os,hg,⟨λb o e n f hx=>?_,λb o e n f hx=>?_,λb o e n hx=>?_,λb o e hx=>?_,λb xs e=>IM b xs (I.base.IM b xs e),λb o xs e=>HP b o xs (I.base.HP b o xs e)⟩,?_,λx c e=>?_,?_,λx c e=>?_,λp hp=>?_,AO,I.len⟩
 .exact keep b o (A b o e) f (j b o e hx) (I.base.keep b o e n f hx) (I.base.free b o e n hx)
 .obtain⟨sl,g⟩:=I.base.slot b o e n f hx;obtain⟨C,t⟩:=slot b _ (A b o e) f (j b o e hx) g (I.base.free b o e n hx);exact⟨C,t⟩
 .obtain⟨o',g⟩:=I.base.there b o e hx;exact free b o' (j b o e hx) g (I.base.free b o e n hx)
 .obtain⟨o',g⟩:=I.base.there b o e hx;exact there b o' (j b o e hx) g
 .obtain⟨m,hn,D⟩:=I.loc;refine⟨m,ns m hn,λi x v g t E=>?_⟩;obtain⟨u,r,l⟩:=D i x v g t E;refine⟨u,r,?_⟩;rcases l with l|⟨k,c,e,z⟩
  .exact .inl l
  .exact .inr ⟨k,c,e,a x c e _ z⟩
 .obtain⟨v,z⟩:=I.cell x c e;exact⟨v,a x c e v z⟩
 .obtain⟨m,⟨o,_,_,ho,_⟩,_⟩:=I.loc;exact free _ o (λz=>(IT _ z).2.1 rfl) ho I.free
 .obtain⟨v,o,ho,hd⟩:=I.cell x c e;exact free c o (λz=>(IT c z).2.2.1 x c e rfl) ho (I.HQ x c e)
 .obtain⟨e,n,ne,y,d⟩:=I.pin p hp;have h:p.1∉ch:=λz=>(IT p.1 z).2.2.2 p hp rfl;exact⟨keep p.1 p.2 ne y h e n,free p.1 p.2 h e n,ne,y,d⟩
theorem Inv.un(I:Inv X Zo Z H s)(u:Un X.fs [] H H' s.heap h')(AO:CF X.prog X.w H' h'):Inv X Zo Z H' { s with heap:=h',toks:=t' }:=by
 obtain⟨m,⟨o,es,ep,ho,r⟩,_⟩:=id I.loc;obtain⟨sl,f⟩:=u.any ho I.free (by simp);exact I.step (g':=s.gens) (d':=s.drawn) (ch:=[]) (λ_ z=>nomatch z) (λb o _ a _ e n=>u.keep b o e n a (by simp)) (λb o _ a _ e n=>u.slot b o e n a (by simp)) (λb o _ e n=>u.free b o e n (by simp)) (λb o _ e=>u.there b o e (by simp)) u.IM u.HP (λg d=>by
  obtain⟨o',DX,Hn,EX,c⟩:=d;rw[ho]at EX;cases EX;exact⟨_,DX,Hn,f,c⟩) AO I.bare
theorem Inv.call(I:Inv X Zo Z H s)(u:Un (HL X.stack) ch H H' s.heap h')(AO:CF X.prog X.w H' h')(hg:AllBare g')
  (IT:∀b∈ch,(b∈X.ex∨X.s₀.heap.objs.size<=b)/\b≠X.env.locals/\(∀x c,X.env.cells.lookup x=some c->c≠b)/\∀p∈X.pn++Zo,p.1≠b) :
  Inv X Zo Z H' { s with heap:=h',gens:=g',drawn:=d',toks:=t' }:=by
 obtain⟨m,⟨o,es,ep,ho,r⟩,_⟩:=id I.loc;obtain⟨sl,d⟩:=u.any ho I.free λz=>(IT _ z).2.1 rfl;exact I.step (ch:=ch) IT (λb o d h a e n=>u.keep b o e n (λz=>(List.mem_cons.mp (I.aR b z)).elim d h) a) (λb o _ _ a e n=>u.any e n a) (λb o a e n=>u.free b o e n a) (λb o a e=>u.there b o e a) u.IM u.HP (λi g=>by
  obtain⟨o',DX,Hn,EX,f⟩:=g;rw[ho]at EX;cases EX;exact⟨_,DX,Hn,d,f⟩) AO hg
theorem Inv.turned(I:Inv X Zo Z H s)(k:∀b o,b≠it->s.heap.get? b=some o->h'.get? b=some o)(hn:H it=none)(d:it≠X.env.locals)
  (h1:it∈X.ex∨X.s₀.heap.objs.size<=it) (h2:∀x c,X.env.cells.lookup x=some c->c≠it) (i:∀p∈X.pn++Zo,p.1≠it):Inv X Zo Z H { s with heap:=h',toks:=t' }:=by
 have f:∀b u,H b=some u->b≠it:=λb u e z=>by rw[z,hn]at e;cases e
 refine I.step (g':=s.gens) (d':=s.drawn) (ch:=[it]) (λb h=>?_) (λb o _ _ a e _=>k b o (λz=>a (by simp[z])) e) (λb o _ _ a e _=>⟨o.slots,k b o (λz=>a (by simp[z])) e⟩) (λ_ _ _ _ n=>n)
  (λb o a e=>⟨o,k b o (λz=>a (by simp[z])) e⟩) (λ_ _ e=>e) (λ_ _ _ e=>e) (λm g=>?_) (λb u e=>?_) I.bare
 .have e:b=it:=by simpa using h
  subst e;exact⟨h1,d,h2,i⟩
 .obtain⟨o,es,ep,ho,r⟩:=g;exact⟨o,es,ep,k _ o (BG d) ho,r⟩
 .refine(I.AO b u e).JL (λc v a q=>k c v ?_ q) (λ_ q=>q) λ_ _ q=>q;rcases a with z|z
  .rw[z];exact f b u e
  .exact f c _ z
theorem Inv.tok(I:Inv X Zo Z H s)(t:Nat):Inv X Zo Z H { s with toks:=t }:=I.un (h':=s.heap) (t':=t) Un.refl I.AO
theorem Inv.kept(I:Inv X Zo Z H s)(k:∀b u,s.heap.get? b=some u->h'.get? b=some u):Inv X Zo Z H { s with heap:=h',toks:=t' }:=I.un (Un.kept k) (I.AO.kept k)
theorem Inv.laid(I:Inv X Zo Z H s)(k:∀b u,s.heap.get? b=some u->h'.get? b=some u)(hp:s.heap.objs.size<=a)(new:C7 X.prog X.w (upd H a o) h' a o):
  Inv X Zo Z (upd H a o) { s with heap:=h',toks:=t' }:=I.un (Un.laid k hp (I.AO.fresh hp)) (I.AO.laid k hp new)
theorem Inv.write{x e:Addr}(I:Inv X Zo Z H s)(a:Pl (H x))(c:e=x∨H e=some (.own x))(k:∀b u,b≠e->s.heap.get? b=some u->h'.get? b=some u)(KP:∃u,h'.get? e=some u)
  (new:C7 X.prog X.w (upd H x o) h' x o):Inv X Zo Z (upd H x o) { s with heap:=h',toks:=t' }:=I.un (Un.write a c k KP) (I.AO.write a c k KP new)
theorem Inv.fP(I:Inv X Zo Z H s)(h:∀p∈mP,s.heap.get? p.1=some p.2/\H p.1=none/\p.1≠X.env.locals/\p.1∉X.fs/\∀v,p.2.data≠.cell v):Inv X mP Z H s:=
 ⟨I.ok,I.os,I.bare,I.base,I.loc,I.cell,I.free,I.HQ,λp hp=>(List.mem_append.mp hp).elim (λz=>I.pin p (Ei _ z)) (h p),I.AO,I.len⟩
theorem lI(c:N.Nodup)(a:N[i]?=some x)(b:N[j]?=some x):i=j:=by
 obtain⟨h1,e⟩:=List.getElem?_eq_some_iff.mp a;obtain⟨h2,d⟩:=List.getElem?_eq_some_iff.mp b;exact(ZIK c).mp (e.trans d.symm)
theorem gD{Q:Unit->Shared->Prop}(I:Inv X Zo Z H s)(V:X.N.Nodup)(hi:X.N[i]?=some x)(hx:Loc X.env.scope x)(r:RelV v u)
  (h:∀s',Inv X Zo (Z.set i (some v)) H s'->(∃a,Heap.SameBut a s.heap s'.heap/\(a=X.env.locals∨X.env.cells.lookup x=some a))->Q () s') (hf:X.fn x=true∨X.env.scope.names.lookup x=some .local:=by first|exact .inl rfl|exact .inr rfl|assumption):wpAny M A (storeName X.env x u) Q E s:=by
 obtain⟨m,hn,U⟩:=id I.loc;have P:(X.env.scope.kind == .class || (X.env.scope.kind == .module && X.env.locals != X.env.globals))=false:=by rw[I.ok.kind];rfl
 have hiσ:i<Z.length:=by rw[I.len];exact(List.getElem?_eq_some_iff.mp hi).1
 have Lq:=I.Lq;have f:∀{a:Addr}{h':Heap},(∃o,s.heap.get? a=some o/\H a=none)->Heap.SameBut a s.heap h'->CF X.prog X.w H h':=λ{a h'}ha hs b ob e=>by
  obtain⟨_,_,W⟩:=ha;refine(I.AO b ob e).JL (λc D l q=>(hs.2 c ?_).trans q) (λ_ q=>q) λ_ _ q=>q;rintro rfl;rcases l with rfl|l
  .rw[W]at e;cases e
  .rw[W]at l;cases l
 rcases hx with hk|hk
 .refine wpAny_storeName_local hk hn (λh' yQ hs=>?_) P;obtain⟨oL,_,_,OT,_⟩:=id hn;refine h _ ⟨I.ok,I.os,I.bare,⟨λb o e n C hx=>?_,λb o e n C hx=>?_,I.base.free,λb o e hx=>?_,I.base.IM,I.base.HP⟩,⟨_,yQ,λj y G g t O=>?_⟩,λy c e=>?_,I.free,I.HQ,λp hp=>?_,f ⟨oL,OT,I.free⟩ hs,by simpa using I.len⟩ ⟨_,hs,.inl rfl⟩
  .exact(hs.2 b (BP (De (BE e) I.ok.above))).trans (I.base.keep b o e n C hx)
  .obtain⟨sl,g⟩:=I.base.slot b o e n C hx;exact⟨sl,(hs.2 b (BP (De (BE e) I.ok.above))).trans g⟩
  .obtain⟨o',g⟩:=I.base.there b o e hx;exact⟨o',(hs.2 b (BP (De (BE e) I.ok.above))).trans g⟩
  .by_cases B:j=i
   .subst B;rw[hi]at g;cases g;rw[Bw hiσ]at t;cases t;exact⟨u,r,.inl ⟨hk,by simp⟩⟩
   .rw[Br (BG B)]at t;obtain⟨J,K,q⟩:=U j y G g t O;refine⟨J,K,?_⟩;rcases q with⟨k,e⟩|⟨k,c,e,z⟩
    .refine .inl ⟨k,?_⟩;have:y≠x:=λe=>B (lI V g (e▸hi));simp[this,e]
    .exact .inr ⟨k,c,e,z.sameBut hs (Lq y c e)⟩
  .obtain⟨D,z⟩:=I.cell y c e;exact⟨D,z.sameBut hs (Lq y c e)⟩
  .obtain⟨e,n,ne,L,d⟩:=I.pin p hp;exact⟨(hs.2 p.1 ne).trans e,n,ne,L,d⟩
 .have R:X.fn x=true:=by
   rcases hf with z|z
   .exact z
   .rw[z]at hk;cases hk
  obtain⟨c,l⟩:=I.ok.has x (.inl hk);obtain⟨D,z⟩:=I.cell x c l;refine wpAny_storeName_cell I.ok.kind hk l z (λh' HX hs=>?_);obtain⟨S,T,ZAl⟩:=id z;refine h { s with heap:=h' } ⟨I.ok,I.os,I.bare,⟨λb o e n C hx=>?_,λb o e n C hx=>?_,I.base.free,λb o e hx=>?_,I.base.IM,I.base.HP⟩,⟨m,hn.sameBut hs (BG (Lq x c l)),λj y G g t O=>?_⟩,λy F e=>?_,I.free,I.HQ,λp hp=>?_,f ⟨S,T,I.HQ x c l⟩ hs,by simpa using I.len⟩ ⟨c,hs,.inr l⟩
  .exact(hs.2 b (BP (De (BE e) (I.ok.OA x c R l)))).trans (I.base.keep b o e n C hx)
  .obtain⟨sl,g⟩:=I.base.slot b o e n C hx;exact⟨sl,(hs.2 b (BP (De (BE e) (I.ok.OA x c R l)))).trans g⟩
  .obtain⟨o',g⟩:=I.base.there b o e hx;exact⟨o',(hs.2 b (BP (De (BE e) (I.ok.OA x c R l)))).trans g⟩
  .by_cases B:j=i
   .subst B;rw[hi]at g;cases g;rw[Bw hiσ]at t;cases t;exact⟨u,r,.inr ⟨.inl hk,c,l,HX⟩⟩
   .rw[Br (BG B)]at t;obtain⟨J,K,q⟩:=U j y G g t O;refine⟨J,K,?_⟩;rcases q with q|⟨k,F,e,z'⟩
    .exact .inl q
    .refine .inr ⟨k,F,e,z'.sameBut hs ?_⟩;rintro rfl;exact B (lI V g (I.ok.inj _ _ _ e l▸hi))
  .by_cases Y:F=c
   .subst Y;exact⟨_,HX⟩
   .obtain⟨w2,σ⟩:=I.cell y F e;exact⟨w2,σ.sameBut hs Y⟩
  .obtain⟨e,n,ne,L,d⟩:=I.pin p hp;refine⟨(hs.2 p.1 ?_).trans e,n,ne,L,d⟩;intro q;rw[q,T]at e;have q':S=p.2:=BI e;exact d D (by rw[<- q'];exact ZAl)
theorem hE{Q:Unit->Shared->Prop}(I:Inv X Zo Z H s)(b:X.N.Nodup)(hi:X.N[i]?=some x)(hx:Loc X.env.scope x)(r:RelV v u)
  (h:∀s',Inv X Zo (Z.set i (some v)) H s'->Q () s') (a:X.fn x=true∨X.env.scope.names.lookup x=some .local:=by first|exact .inl rfl|exact .inr rfl|assumption):wpAny M A (storeName X.env x u) Q E s:=
 gD I b hi hx r (λs' I' _=>h s' I') a
theorem Inv.pZ(I:Inv X Zo Z H s)(ho:s'.os=s.os)(u:Un (HL X.stack) ch H H' s.heap s'.heap)(AO:CF X.prog X.w H' s'.heap)(hg:AllBare s'.gens)
  (IT:∀b∈ch,(b∈X.ex∨X.s₀.heap.objs.size<=b)/\b≠X.env.locals/\(∀x c,X.env.cells.lookup x=some c->c≠b)/\∀p∈X.pn++Zo,p.1≠b):Inv X Zo Z H' s':=by
 obtain⟨h',g',d',t',o'⟩:=s';have e:o'=s.os:=ho;subst e;exact I.call (g':=g') (t':=t') (d':=d') u AO hg IT
end
abbrev XK:=Value->Option Addr->Hp->Prop
abbrev St:=List (Option V)
variable{Z:St}
abbrev VK:=V->Hp->Prop
abbrev TE:=St->Hp->VK->Prop
variable{ta tb tc te:TE}
abbrev TT:=St->Hp->(Bool->Hp->Prop)->Prop
abbrev TA:=St->Hp->(List V->Hp->Prop)->Prop
variable{t:TA}
structure Ends where
 nx:St->Hp->Prop
 rt:VK
 bk:St->Hp->Prop:=λ_ _=>False
 ct:St->Hp->Prop:=λ_ _=>False
abbrev TS:=Ends->St->Hp->Prop
def EP(X:Cx)(Zo:ZJS)(Z:St)(Q:VK)(u:Value)(s':Shared):Prop:=∃v H',Inv X Zo Z H' s'/\RelV v u/\Q v H'
def TP(X:Cx)(Zo:ZJS)(Z:St)(Q:Bool->Hp->Prop)(b:Bool)(s':Shared):Prop:=∃H',Inv X Zo Z H' s'/\Q b H'
def AP(X:Cx)(Zo:ZJS)(Z:St)(Q:List V->Hp->Prop)(us:List Value)(s':Shared):Prop:=∃vs H',Inv X Zo Z H' s'/\Vals vs us/\Q vs H'
def SP(X:Cx)(Zo:ZJS)(D:Ends)(f:Flow)(s':Shared):Prop:=
 match f with
 | .next=>∃ σ' H',Inv X Zo σ' H' s'/\D.nx σ' H'
 | .brk=>∃ σ' H',Inv X Zo σ' H' s'/\D.bk σ' H'
 | .cont=>∃ σ' H',Inv X Zo σ' H' s'/\D.ct σ' H'
 | .ret u=>∃v σ' H',Inv X Zo σ' H' s'/\RelV v u/\D.rt v H'
def PE(X:Cx)(e:Expr)(t:TE):Prop:=
 ∀(Zo:ZJS)(s:Shared)(Z:St)(H:Hp)(Q:VK),Inv X Zo Z H s->t Z H Q->wpAny (model X.prog X.w) X.A (eval e X.env) (EP X Zo Z Q) X.xe s
def PT(X:Cx)(e:Expr)(t:TT):Prop:=
 ∀(Zo:ZJS)(s:Shared)(Z:St)(H:Hp)(Q:Bool->Hp->Prop),Inv X Zo Z H s->t Z H Q->wpAny (model X.prog X.w) X.A (isTrue e X.env (eval e X.env)) (TP X Zo Z Q) X.xe s
def PW(X:Cx)(e:Expr)(t:TT):Prop:=
 ∀(a:Sem Value)(Zo:ZJS)(s:Shared)(Z:St)(H:Hp)(Q:Bool->Hp->Prop),Inv X Zo Z H s->t Z H Q->wpAny (model X.prog X.w) X.A (isTrue e X.env a) (TP X Zo Z Q) X.xe s
theorem PW.pt{t:TT}(h:PW X e t):PT X e t:=h _
def PA(X:Cx)(es:List Expr)(t:TA):Prop:=
 ∀(pos:Pos)(Zo:ZJS)(s:Shared)(Z:St)(H:Hp)(Q:List V->Hp->Prop),Inv X Zo Z H s->t Z H Q->wpAny (model X.prog X.w) X.A (spliced (backTo pos (starEach es X.env))) (AP X Zo Z Q) X.xe s
def PS(X:Cx)(st:Stmt)(t:TS):Prop:=
 ∀(Zo:ZJS)(s:Shared)(Z:St)(H:Hp)(D:Ends),Inv X Zo Z H s->t D Z H->wpAny (model X.prog X.w) X.A (exec st X.env) (SP X Zo D) X.xe s
def EU(X:Cx)(st:List Stmt)(t:TS):Prop:=
 ∀(Zo:ZJS)(s:Shared)(Z:St)(H:Hp)(D:Ends),Inv X Zo Z H s->t D Z H->wpAny (model X.prog X.w) X.A (execs st X.env) (SP X Zo D) X.xe s
theorem B9{t:Sem α}{Q Q':α->Shared->Prop}(h:wpAny M A t Q E s)(b:∀a s,Q a s->Q' a s):wpAny M A t Q' E s:=v7 h b λ_ _ x=>x
theorem PE.k{t:TE}{Q:VK}{Q':Value->Shared->Prop}(a:PE X e t)(I:Inv X Zo Z H s)(h:t Z H Q)(f:∀u s1 x H1,Inv X Zo Z H1 s1->RelV x u->Q x H1->Q' u s1):wpAny (model X.prog X.w) X.A (eval e X.env) Q' X.xe s:=
 B9 (a Zo s Z H Q I h) λu s1 z=>by obtain⟨x,H1,I1,r,q⟩:=z;exact f u s1 x H1 I1 r q
theorem PA.k(pos:Pos){Q:List V->Hp->Prop}{Q':List Value->Shared->Prop}(a:PA X es t)(I:Inv X Zo Z H s)(h:t Z H Q)(f:∀us s1 vs H1,Inv X Zo Z H1 s1->Vals vs us->Q vs H1->Q' us s1):wpAny (model X.prog X.w) X.A (spliced (backTo pos (starEach es X.env))) Q' X.xe s:=
 B9 (a pos Zo s Z H Q I h) λu s1 z=>by obtain⟨x,H1,I1,r,q⟩:=z;exact f u s1 x H1 I1 r q
section
def BX(i:Nat):TE:=λZ H Q=>∃v,Z[i]?=some (some v)/\Q v H
def tC(v:V):TE:=λ_ H Q=>Q v H
def Gl(X:Cx)(x:Str):Prop:=X.env.kindOf x=some .globalImplicit
theorem Xj(I:Inv X Zo Z H s)(hg:Gl X x)(a:X.mg x=some u)(h:Q u s)
  (hd:(x == ("__debug__":Str))=false:=by decide):wpAny (model X.prog X.w) X.A (eval (.Name x pos) X.env) Q E s:=
 ZI7 I.ok.kind hg (Calls.loadGlobal_global (by rw[I.ok.glob];exact I.mod.glob.keeps I.bk) a h) hd
theorem Kx(I:Inv X Zo Z H s)(hg:Gl X x)(b:X.mg x=none)(a:bootBuiltins x=some u)(h:Q u s)
  (hn:x ≠"__name__" := by decide) (hd:(x == ("__debug__":Str))=false:=by decide):wpAny (model X.prog X.w) X.A (eval (.Name x pos) X.env) Q E s:=by
 obtain⟨c,h1,h2⟩:=I.mod.blt;exact ZI7 I.ok.kind hg (Calls.loadGlobal_builtin (by rw[I.ok.glob];exact I.mod.glob.keeps I.bk) b (by rw[I.ok.blt];exact h1.keeps I.bk) ((h2 x hn).trans a) h) hd
theorem ZHv(hg:Gl X x)(b:X.mg x=none)(a:bootBuiltins x=some u)(r:RelV v u)(hn:x ≠"__name__" := by decide)(hd:(x == ("__debug__":Str))=false:=by decide):PE X (.Name x pos) (tC v):=
 λ_ _ _ H _ I h=>Kx I hg b a ⟨v,H,I,r,h⟩ hn hd
variable{a b:Expr}
def PC(X:Cx)(op:CmpOp)(a b:Expr)(t:TE):Prop:=
 ∀(Zo:ZJS)(s:Shared)(Z:St)(H:Hp)(Q:VK),Inv X Zo Z H s->t Z H Q->
  wpAny (model X.prog X.w) X.A (eval a X.env) (λv d=>wpAny (model X.prog X.w) X.A (eval b X.env) (λu c=>wpAny (model X.prog X.w) X.A (compareOp op v u) (EP X Zo Z Q) X.xe c) X.xe d) X.xe s
theorem ZHy(b:Expr)(h:op≠.In)(h2:op≠.NotIn):behindInMarks op b=false:=by
 have c:(op == CmpOp.In)=false:=by cases op <;> first|rfl|exact absurd rfl h
 have a:(op == CmpOp.NotIn)=false:=by cases op <;> first|rfl|exact absurd rfl h2
 cases b <;> simp[behindInMarks,c,a]
def tB(t:TE):TT:=λZ H Q=>t Z H λx H1=>∃c,x=.bl c/\Q c H1
theorem gi{t:TE}(h:PC X op a b t)(h1:behindInMarks op b=false:=by first|exact ZHy _ (by decide) (by decide)|rfl):PT X (.Compare a [op] [b] pos) (tB t):=by
 intro Zo s Z H Q I hw;refine wpAny_isTrue_Compare1 (B9 (h Zo s Z H _ I hw) λv s1 h1=>B9 h1 λu s2 h2=>B9 h2 λc g⟨x,H1,I1,e,f⟩=>?_) h1;obtain⟨d,rfl,q⟩:=f;cases e;exact vZ ⟨H1,I1,q⟩
variable{tA JP:TT}
def V3(t u:TT):TT:=λZ H Q=>t Z H λc H1=>if c=true then u Z H1 Q else Q false H1
def WV(t u:TT):TT:=λZ H Q=>t Z H λc H1=>if c=true then Q true H1 else u Z H1 Q
def Pe(t:TT):TT:=λZ H Q=>t Z H λc H1=>Q (!c) H1
def Zh(ta tb:TE):TE:=λZ H Q=>ta Z H λx H1=>∃c,x=.bl c/\if c=true then tb Z H1 Q else Q (.bl false) H1
def cE(ta tb:TE):TE:=λZ H Q=>ta Z H λx H1=>∃c,x=.bl c/\if c=true then Q (.bl true) H1 else tb Z H1 Q
def WT(ta:TE):TE:=λZ H Q=>ta Z H λx H1=>∃c,x=.bl c/\Q (.bl (!c)) H1
end
def AK(K:ZJR)(H:Hp)(a:Addr)(xs:List V):Prop:=
 Rd H a (.lst xs)∨
  ∃(o:Obj)(A4:Array Value)(n:Nat),K.lookup a=some o/\o.cls=.type "list" /\ o.dict=none/\o.data=.seq A4 n/\A4.size<=sizeLine/\Vals xs A4.toList
def AD(K:ZJR)(H:Hp)(a:Addr)(xs:List V):Prop:=
 Rd H a (.tup xs)∨
  ∃(o:Obj)(A4:Array Value)(n:Nat),K.lookup a=some o/\o.cls=.type "tuple" /\ o.data=.seq A4 n/\A4.size<=sizeLine/\Vals xs A4.toList
noncomputable def uL:Value->Option V
 | .none=>some .AB
 | .bool b=>some (.bl b)
 | .int i _=>some (.int i)
 | .str x _=>some (.str x)
 | .bytes b _=>some (.Ff b)
 | .float b _=>some (.JV b)
 | .ref a=>some (.ref a)
 | .type n=>some (.ty n)
 |_=>none
theorem RelV.abs{x:V}(r:RelV x u):uL u=some x:=by
 cases x with
 |AB=>cases r;rfl
 |bl _=>cases r;rfl
 |int _=>obtain⟨t,rfl⟩:=r;rfl
 |str _=>obtain⟨t,rfl⟩:=r;rfl
 |Ff _=>obtain⟨t,rfl⟩:=r;rfl
 |JV _=>obtain⟨t,rfl⟩:=r;rfl
 |ref _=>cases r;rfl
 |ty _=>cases r;rfl
theorem RelV.inj{x y:V}{u:Value}(r:RelV x u)(q:RelV y u):x=y:=BI (r.abs.symm.trans q.abs)
theorem Vals.inj:∀{xs ys:List V}{us:List Value},Vals xs us->Vals ys us->xs=ys
 |_,_,_,.nil,.nil=>rfl
 |_,_,_,.cons r t,.cons r' t'=>by rw[r.inj r',Vals.inj t t']
section
variable{ys:List V}
theorem AK.of{K:ZJR}(h:H a=some (.lst xs)):AK K H a xs:=.inl (.inl h)
theorem AD.of{K:ZJR}(h:H a=some (.tup xs)):AD K H a xs:=.inl (.inl h)
theorem Inv.list(I:Inv X Zo Z H s)(h:AK X.K H a xs):∃A4:List Value,Vals xs A4/\PlainL s.heap a A4.toArray/\xs.length<=sizeLine:=by
 rcases h with h|⟨o,A4,n,hk,hc,hd,hs,hz,r⟩
 .obtain⟨z,A4,n,r,e⟩:=h.ok I.AO;exact⟨A4,r,⟨_,n,e,rfl,rfl,rfl⟩,z⟩
 .refine⟨A4.toList,r,⟨o,n,I.Cs a o hk,hc,hd,by simpa using hs⟩,?_⟩
  have e:=r.length;simp only[Gy]at e;omega
theorem Inv.tuple(I:Inv X Zo Z H s)(h:AD X.K H a xs):∃A4:List Value,Vals xs A4/\IsTup s.heap a A4.toArray/\xs.length<=sizeLine:=by
 rcases h with h|⟨o,A4,n,hk,hc,hs,hz,r⟩
 .obtain⟨z,A4,r,p⟩:=h.ok I.AO;exact⟨A4,r,p.1,z⟩
 .refine⟨A4.toList,r,⟨o,I.Cs a o hk,hc,n,by simpa using hs⟩,?_⟩
  have e:=r.length;simp only[Gy]at e;omega
theorem Inv.kD(I:Inv X Zo Z H s)(h:AK X.K H a xs)(h':AK X.K H a ys):xs=ys:=by
 obtain⟨A4,r,⟨o,n,e,_,_,d⟩,_⟩:=I.list h;obtain⟨its',c,⟨o',f,b,_,_,d'⟩,_⟩:=I.list h';rw[e]at b;cases b;rw[d]at d';injection d' with d1 _
 have:A4=its':=by simpa using wu Array.toList d1
 subst this;exact r.inj c
theorem Inv.Px(I:Inv X Zo Z H s)(h:AD X.K H a xs)(h':AD X.K H a ys):xs=ys:=by
 obtain⟨A4,r,⟨o,e,_,n,d⟩,_⟩:=I.tuple h;obtain⟨its',c,⟨o',b,_,f,d'⟩,_⟩:=I.tuple h';rw[e]at b;cases b;rw[d]at d';injection d' with d1 _
 have:A4=its':=by simpa using wu Array.toList d1
 subst this;exact r.inj c
end
noncomputable abbrev Cx.Hu(X:Cx)(E:Value->Shared->Prop):Cx:={ X with xe:=E }
noncomputable abbrev Cx.Ie(X:Cx):Cx:=X.Hu λ_ _=>False
theorem Cx.Ok.Hu(ok:X.Ok)(E:Value->Shared->Prop):(X.Hu E).Ok:=
 ⟨ok.mod,ok.kind,ok.glob,ok.blt,ok.above,ok.inj,ok.has,ok.OA,ok.hd,ok.frames,ok.Sh,ok.Tq,ok.bs,ok.J6,ok.Of,ok.OM,ok.Gs,ok.L5⟩
theorem Cx.Ok.Jj(ok:(X.Hu E).Ok):X.Ok:=
 ⟨ok.mod,ok.kind,ok.glob,ok.blt,ok.above,ok.inj,ok.has,ok.OA,ok.hd,ok.frames,ok.Sh,ok.Tq,ok.bs,ok.J6,ok.Of,ok.OM,ok.Gs,ok.L5⟩
section
theorem Inv.Hu(I:Inv X Zo Z H s)(E:Value->Shared->Prop):Inv (X.Hu E) Zo Z H s:=⟨I.ok.Hu E,I.os,I.bare,I.base,I.loc,I.cell,I.free,I.HQ,I.pin,I.AO,I.len⟩
theorem Inv.Jj(I:Inv (X.Hu E) Zo Z H s):Inv X Zo Z H s:=⟨I.ok.Jj,I.os,I.bare,I.base,I.loc,I.cell,I.free,I.HQ,I.pin,I.AO,I.len⟩
theorem SP.Jj{D:Ends}{f:Flow}(h:SP (X.Hu E) Zo D f s'):SP X Zo D f s':=by
 cases f with
 |next=>obtain⟨σ',H',I,q⟩:=h;exact⟨σ',H',I.Jj,q⟩
 |brk=>obtain⟨σ',H',I,q⟩:=h;exact⟨σ',H',I.Jj,q⟩
 |cont=>obtain⟨σ',H',I,q⟩:=h;exact⟨σ',H',I.Jj,q⟩
 |ret u=>obtain⟨v,σ',H',I,r,q⟩:=h;exact⟨v,σ',H',I.Jj,r,q⟩
theorem EU.Ie{st:List Stmt}{t:TS}(h:EU X.Ie st t):EU X st t:=λZo s Z H D I hw=>
 v7 (h Zo s Z H D (I.Hu _) hw) (λ_ _ q=>q.Jj) λ_ _ z=>False.elim z
variable{st:Stmt}{rest:List Stmt}{t u:TS}
def Ur:TS:=λD Z H=>D.nx Z H
def QF(t u:TS):TS:=λD Z H=>t { D with nx:=u D } Z H
theorem xa(h1:PS X st t)(h2:EU X rest u):EU X (st::rest) (QF t u):=by
 intro Zo s Z H D I h;refine wpAny_execs_cons (B9 (h1 Zo s Z H { D with nx:=u D } I h) λf s1 q=>?_)
 cases f with
 |next=>
  obtain⟨σ',H',I',q⟩:=q;exact h2 Zo s1 σ' H' D I' q
 |ret v=>exact q
 |brk=>exact q
 |cont=>exact q
theorem ZFG(h1:PS X st t):EU X [st] t:=by
 intro Zo s Z H D I h;refine wpAny_execs_cons (B9 (h1 Zo s Z H D I h) λf s1 q=>?_);cases f with
 |next=>exact ZAw q
 |ret v=>exact q
 |brk=>exact q
 |cont=>exact q
theorem Inv.quiet(I:Inv X Zo Z H s):interactive X.env=false:=by simp[interactive,I.ok.kind]
def Je(te:TE):TS:=λD Z H=>te Z H λ_ H1=>D.nx Z H1
def JF(te:TE):TS:=λD Z H=>te Z H D.rt
def NQ(c:TT)(t u:TS):TS:=λD Z H=>c Z H λb H1=>if b=true then t D Z H1 else u D Z H1
def cz:TS:=λ_ _ _=>False
end
abbrev TG:=V->St->Hp->(St->Hp->Prop)->Prop
abbrev Hs:=List V->St->Hp->(St->Hp->Prop)->Prop
def PG(X:Cx)(a:Expr)(t:TG):Prop:=
 ∀(Zo:ZJS)(s:Shared)(Z:St)(H:Hp)(v:V)(u:Value)(Q:St->Hp->Prop),Inv X Zo Z H s->RelV v u->t v Z H Q->
  wpAny (model X.prog X.w) X.A (assign a X.env u) (λ_ s'=>∃ σ' H',Inv X Zo σ' H' s'/\Q σ' H') X.xe s
def Ph(X:Cx)(ts:List Expr)(t:Hs):Prop:=
 ∀(Zo:ZJS)(s:Shared)(Z:St)(H:Hp)(vs:List V)(us:List Value)(Q:St->Hp->Prop),Inv X Zo Z H s->Vals vs us->t vs Z H Q->
  wpAny (model X.prog X.w) X.A (assignInOrder ((assignEach ts X.env).map (·.2)) us) (λ_ s'=>∃ σ' H',Inv X Zo σ' H' s'/\Q σ' H') X.xe s
abbrev Rm:=V->V->V->Hp->(Hp->Prop)->Prop
def Y3(X:Cx)(t:Rm):Prop:=
 ∀(Zo:ZJS)(s:Shared)(Z:St)(H:Hp)(o i v:V)(a b u:Value)(Q:Hp->Prop),Inv X Zo Z H s->RelV o a->RelV i b->RelV v u->t o i v H Q->
  wpAny (model X.prog X.w) X.A (setItem a b u) (λ_ s'=>∃H',Inv X Zo Z H' s'/\Q H') X.xe s
def Du(i:Nat):TG:=λv Z H Q=>Q (Z.set i (some v)) H
theorem kC(b:X.N.Nodup)(hi:X.N[i]?=some x)(hx:Loc X.env.scope x)(a:X.fn x=true∨X.env.scope.names.lookup x=some .local:=by first|exact .inl rfl|exact .inr rfl|assumption):PG X (.Name x pos) (Du i):=by
 intro Zo s Z H v u Q I r h;exact wpAny_assign_Name (hE I b hi hx r (λs' I'=>⟨_,H,I',h⟩) a)
def WO:Hs:=λvs Z H Q=>vs=[]/\Q Z H
def SQ(t:TG)(u:Hs):Hs:=λvs Z H Q=>∃v r,vs=v::r/\t v Z H λσ' H'=>u r σ' H' Q
def Ww(K:ZJR)(n:Nat)(t:Hs):TG:=λv Z H Q=>∃a xs,v=.ref a/\AD K H a xs/\xs.length=n/\t xs Z H Q
def dq(to ti:TE)(t:Rm):TG:=λv Z H Q=>to Z H λo H1=>ti Z H1 λi H2=>t o i v H2 λH3=>Q Z H3
def GC(te:TE)(g:TG):TS:=λD Z H=>te Z H λx H1=>g x Z H1 D.nx
def YH(c:TT)(tb:TS):TS:=λD Z H=>∃W:Nat->St->Hp->Prop,(∃m,W m Z H)/\∀m Z H,W m Z H->
 c Z H λb H1=>if b=true then ∃N:St->Hp->Prop,(∀ σ' H',N σ' H'->∃a,a < m/\W a σ' H')/\tb { D with nx:=N,ct:=N,bk:=D.nx } Z H1 else D.nx Z H1
structure It where
 go:Nat->Hp->Prop
 G4:Nat->Hp->V->Hp->Prop
 stop:Nat->Hp->Prop
def Ed(X:Cx)(Zo:ZJS)(H:Hp)(b:Addr):Prop:=
 H b=none/\b≠X.env.locals/\b∉X.fs/\(b∈X.ex∨X.s₀.heap.objs.size<=b)/\(∀x c,X.env.cells.lookup x=some c->c≠b)/\∀p∈X.pn++Zo,p.1≠b
theorem Inv.NI(I:Inv X Zo Z H s)(a:s.heap.objs.size<=b)(hn:H' b=none):Ed X Zo H' b:=by
 refine⟨hn,M8 (De I.lt a),I.ZHs a,.inr (Cc I.sz a),λx c e z=>?_,λp hp z=>?_⟩
 .obtain⟨v,q⟩:=I.cell x c e;exact absurd (De q.lt (by rw[z];exact a)) (M6 _)
 .exact absurd (De (BE (I.pin p hp).1) (by rw[z];exact a)) (M6 _)
structure Turn (P:Program) (w:World) (K:ZJR) (tg:Expr) (J:It) (fp:List Addr) (it:Addr) (tn:Nat->Heap->Prop):Prop where
 mem:it∈fp
 obj:∀i h,tn i h->∀b∈fp,∃o,h.get? b=some o/\∀v,o.data≠.cell v
 keep:∀i h h',tn i h->(∀b∈fp,∀o,h.get? b=some o->h'.get? b=some o)->tn i h'
 item:∀(X:Cx),X.prog=P->X.w=w->X.K=K->X.calm=true->∀(i:Nat)(Zo:ZJS)(s:Shared)(Z:St)(H:Hp)(E:Value->Shared->Prop),Inv X Zo Z H s->(∀b∈fp,Ed X Zo H b)->tn i s.heap->J.go i H->
  wpAny (model P w) X.A (pyNext (.ref it)) (λr s1=>∃u,r=some u/\
   wpAny (model P w) X.A (letOwnedTupleGo tg (.ref it) u) (λ_ s2=>∃x H',Inv X Zo Z H' s2/\RelV x u/\J.G4 i H x H'/\tn (i+1) s2.heap/\∀b∈fp,H' b=none) E s1) E s
 done:∀(X:Cx),X.prog=P->X.w=w->X.K=K->X.calm=true->∀(i:Nat)(Zo:ZJS)(s:Shared)(Z:St)(H:Hp)(E:Value->Shared->Prop),Inv X Zo Z H s->(∀b∈fp,Ed X Zo H b)->tn i s.heap->J.stop i H->
  wpAny (model P w) X.A (pyNext (.ref it)) (λr s1=>r=none/\Inv X Zo Z H s1) E s
 self:∀(A:Around)(i:Nat)(s:Shared)(Q:Value->Shared->Prop)(E:Value->Shared->Prop),tn i s.heap->Q (.ref it) s->wpAny (model P w) A (pyIter (.ref it)) Q E s
abbrev TI:=St->Hp->(It->Hp->Prop)->Prop
def lM(X:Cx)(Zo:ZJS)(Z:St)(tg:Expr)(R:It->Hp->Prop)(Sb:Value)(s2:Shared):Prop:=
 ∃(it:Addr)(fp:List Addr)(tn:Nat->Heap->Prop)(J:It)(H':Hp),Sb=.ref it/\Inv X Zo Z H' s2/\Turn X.prog X.w X.K tg J fp it tn/\tn 0 s2.heap/\(∀b∈fp,Ed X Zo H' b)/\R J H'
def PI(X:Cx)(tg iter:Expr)(wi:TI):Prop:=
 ∀(Zo:ZJS)(s:Shared)(Z:St)(H:Hp)(R:It->Hp->Prop),Inv X Zo Z H s->wi Z H R->
  wpAny (model X.prog X.w) X.A (eval iter X.env) (λv s1=>wpAny (model X.prog X.w) X.A (pyIter v) (lM X Zo Z tg R) X.xe s1) X.xe s
theorem Nj{o:Obj}{n:String}{vs:Array Value}{Q:Unit->Shared->Prop}(ho:s.heap.get? it=some o)(b:o.cls=.type n)(hd:o.data=.fields vs)
  (hn:["enumerate","zip","dict_itemiterator","dict_reverseitemiterator","odict_iterator","itertools.zip_longest","itertools.pairwise"].contains n=false) (a:Q () s):wpAny M A (letOwnedTupleGo tg (.ref it) u) Q E s:=by
 unfold letOwnedTupleGo;cases tg <;> first
  |exact pq a
  | (cases u <;> first
    |exact pq a
    | (
      refine pN (ZAx ho ?_);rw[b,hd];show wpAny M A (if(["enumerate","zip","dict_itemiterator","dict_reverseitemiterator","odict_iterator","itertools.zip_longest","itertools.pairwise"].contains n && vs[0]? == some (rawInt _))=true then _ else _) Q E s
      rw[sN (by intro h;rw[hn,Bool.false_and]at h;cases h)];exact pq a))
noncomputable def Itl(K:ZJR)(a:Addr):It:=
 ⟨λi H=>∃xs x,AK K H a xs/\xs[i]?=some x,λi H x H'=>H'=H/\∀xs,AK K H a xs->xs[i]?=some x,λi H=>∃xs,AK K H a xs/\xs.length<=i⟩
noncomputable def Itt(K:ZJR)(a:Addr):It:=
 ⟨λi H=>∃xs x,AD K H a xs/\xs[i]?=some x,λi H x H'=>H'=H/\∀xs,AD K H a xs->xs[i]?=some x,λi H=>∃xs,AD K H a xs/\xs.length<=i⟩
noncomputable def N5(lo:Int)(n:Nat):It:=⟨λi _=>i<n,λi H x H'=>H'=H/\x=.int (lo+i),λi _=>n<=i⟩
theorem Nw{P:Program}{K:ZJR}(a it:Addr):Turn P w K tg (Itl K a) [it] it (λi h=>h.IsListIter it a i) where
 mem:=by simp
 obj:=λi h st b f=>by
  have e:b=it:=by simpa using f
  subst e;obtain⟨o,e,c,d⟩:=st;exact⟨o,e,λv z=>by rw[d]at z;cases z⟩
 keep:=λi h h' st k=>st.at λo e=>k it (by simp) o e
 item:=by
  intro X m hw n y i Zo s Z H E I j st hg;subst m hw n;obtain⟨xs,x,g,hx⟩:=hg;obtain⟨A4,l,p,C⟩:=I.list g;obtain⟨u,hu,B⟩:=l.get hx;obtain⟨f0,t,F,f3,r,q⟩:=j it (by simp);refine wpAny_pyNext_list_item st p.isList (x:=u) (by simpa using hu) λh' D6 A=>?_
  have J:Inv X Zo Z H { s with heap:=h' }:=I.turned (t':=s.toks) (λb o f e=>(A.2 b f).trans e) f0 t f3 r q
  obtain⟨o,e,c,d⟩:=id D6;exact⟨u,rfl,Nj (s:={ s with heap:=h' }) e c d (by decide) ⟨x,H,J,B,⟨rfl,λys D=>by rw[I.kD D g];exact hx⟩,D6,λb f=>(j b f).1⟩⟩
 done:=by
  intro X m hw n y i Zo s Z H E I j st hg;subst m hw n;obtain⟨xs,g,hx⟩:=hg;obtain⟨A4,l,p,C⟩:=I.list g;obtain⟨f0,t,F,f3,r,q⟩:=j it (by simp);have L:=l.length;exact wpAny_pyNext_list_end (I.ok.hd y) st p.isList (by simp;omega) λh' G=>⟨rfl,I.turned (t':=s.toks) (λb o f e=>G b o f e) f0 t f3 r q⟩
 self:=λ_ _ _ _ _ st h=>wpAny_pyIter_listiter st h
theorem Oa{P:Program}{K:ZJR}(a it:Addr):Turn P w K tg (Itt K a) [it] it (λi h=>h.IsTupleIter it a i) where
 mem:=by simp
 obj:=λi h st b f=>by
  have e:b=it:=by simpa using f
  subst e;obtain⟨o,e,c,d⟩:=st;exact⟨o,e,λv z=>by rw[d]at z;cases z⟩
 keep:=λi h h' st k=>st.at λo e=>k it (by simp) o e
 item:=by
  intro X m hw n y i Zo s Z H E I j st hg;subst m hw n;obtain⟨xs,x,g,hx⟩:=hg;obtain⟨A4,l,p,C⟩:=I.tuple g;obtain⟨u,hu,B⟩:=l.get hx;obtain⟨f0,t,F,f3,r,q⟩:=j it (by simp);refine wpAny_pyNext_tuple_item st (show s.heap.IsTuple a A4.toArray from p) (x:=u) (by simpa using hu) λh' D6 A=>?_
  have J:Inv X Zo Z H { s with heap:=h' }:=I.turned (t':=s.toks) (λb o f e=>(A.2 b f).trans e) f0 t f3 r q
  obtain⟨o,e,c,d⟩:=id D6;exact⟨u,rfl,Nj (s:={ s with heap:=h' }) e c d (by decide) ⟨x,H,J,B,⟨rfl,λys D=>by rw[I.Px D g];exact hx⟩,D6,λb f=>(j b f).1⟩⟩
 done:=by
  intro X m hw n y i Zo s Z H E I j st hg;subst m hw n;obtain⟨xs,g,hx⟩:=hg;obtain⟨A4,l,p,C⟩:=I.tuple g;obtain⟨f0,t,F,f3,r,q⟩:=j it (by simp);have L:=l.length;exact wpAny_pyNext_tuple_end (I.ok.hd y) st (show s.heap.IsTuple a A4.toArray from p) (by simp;omega) λh' G=>⟨rfl,I.turned (t':=s.toks) (λb o f e=>G b o f e) f0 t f3 r q⟩
 self:=λ_ _ _ _ _ st h=>wpAny_pyIter_tupleiter st h
theorem ZG1{P:Program}{K:ZJR}(it:Addr)(lo:Int)(n:Nat):Turn P w K tg (N5 lo n) [it] it (λi h=>IsRangeIter h it (lo+(i:Nat) * 1) ((n:Int) - (i:Nat)) 1) where
 mem:=by simp
 obj:=λi h st b a=>by
  have e:b=it:=by simpa using a
  subst e;exact⟨_,st,λv z=>by
   have p:Data.fields _=Data.cell v:=z;cases p⟩
 keep:=λi h h' st k=>k it (by simp) _ st
 item:=by
  intro X f hw g d i Zo s Z H E I c st hg;subst f hw g;obtain⟨f0,m,r,f3,l,j⟩:=c it (by simp);have W:=Walks.range (prog:=X.prog) (w:=X.w) (I.ok.hd d) it lo 1 n;refine W.item i s _ _ hg st λv h' tk q D6 kk=>?_;obtain⟨t,rfl⟩:=q;have x:Inv X Zo Z H { s with heap:=h',toks:=tk }:=I.turned (λb o a e=>kk b o (by simpa using a) e) f0 m f3 l j
  refine⟨_,rfl,Nj (s:={ s with heap:=h',toks:=tk }) (n:="range_iterator") D6 rfl rfl (by decide) ⟨.int (lo+i),H,x,⟨t,?_⟩,⟨rfl,rfl⟩,D6,λb a=>(c b a).1⟩⟩
  rw[Int.mul_one]
 done:=by
  intro X f hw g d i Zo s Z H E I c st hg;subst f hw g;obtain⟨f0,m,r,f3,l,j⟩:=c it (by simp);exact wpAny_pyNext_range_end (I.ok.hd d) st (by have:n<=i:=hg;omega) λh' u=>⟨rfl,I.turned (t':=s.toks) (λb o a e=>u b o a e) f0 m f3 l j⟩
 self:=λ_ _ _ _ _ st h=>wpAny_pyIter_rangeiter st h
theorem ZFb{R:It->Hp->Prop}{lo hi:Int}{t u v:Tok}(I:Inv X Zo Z H s)(h1:-(2 ^ 62)<=lo)(h2:lo<2 ^ 62)(f:-(2 ^ 62)<=hi)(d:hi<2 ^ 62)
  (q:R (N5 lo (hi - lo).toNat) H):wpAny (model X.prog X.w) X.A (pyIter (.ref s.heap.objs.size)) (lM X Zo Z tg R) E { s with heap:=s.heap.push { cls:=.type "range", data:=.fields #[.int lo t,.int hi u,.int 1 v] },toks:=tk }:=by
 refine wpAny_pyIter_range (IsRange.new ..) (small_one h1 h2 f d) ?_;have a:Inv X Zo Z H { s with heap:=s.heap.push { cls:=.type "range", data:=.fields #[.int lo t,.int hi u,.int 1 v] },toks:=tk }:=I.kept λb o e=>BH _ e
 refine⟨(s.heap.push { cls:=.type "range", data:=.fields #[.int lo t,.int hi u,.int 1 v] }).objs.size,[(s.heap.push { cls:=.type "range", data:=.fields #[.int lo t,.int hi u,.int 1 v] }).objs.size],_,_,H,rfl,
  a.kept (t':=tk) λb o e=>BH _ e,ZG1 _ lo (hi - lo).toNat,?_,λb c=>?_,q⟩
 .have h:lo+((0:Nat):Int) * 1=lo:=by simp
  have g:(((hi - lo).toNat:Nat):Int) - ((0:Nat):Int)=Builtin.Range.rangeSize lo hi 1:=by rw[rangeSize_one];split <;> omega
  show IsRangeIter _ _ (lo+((0:Nat):Int) * 1) ((((hi - lo).toNat:Nat):Int) - ((0:Nat):Int)) 1;rw[h,g];exact Ba _ rfl
 .have e:b=(s.heap.push { cls:=.type "range", data:=.fields #[.int lo t,.int hi u,.int 1 v] }).objs.size:=by simpa using c
  subst e;exact a.NI (Ag _) (a.AO.fresh (Ag _))
def WC(ta:TA):TI:=λZ H R=>ta Z H λvs H1=>∃j:Int,vs=[.int j]/\-(2 ^ 62)<=j/\j<2 ^ 62/\R (N5 0 j.toNat) H1
def RC(wi:TI)(g:TG)(tb:TS):TS:=λD Z H=>wi Z H λJ H1=>∃W:Nat->Nat->St->Hp->Prop,(∃m,W 0 m Z H1)/\∀i m Z H,W i m Z H->
 (J.stop i H/\D.nx Z H)∨(J.go i H/\∃N:St->Hp->Prop,(∀ σ' H',N σ' H'->∃a,a < m/\W (i+1) a σ' H')/\∀x H',J.G4 i H x H'->g x Z H' λσ2 H2=>tb { D with nx:=N,ct:=N,bk:=D.nx } σ2 H2)
noncomputable def Oe(fp:List Addr)(h:Heap):ZJS:=fp.filterMap λb=>(h.get? b).map λo=>(b,o)
theorem Rp{h:Heap}{o:Obj}(a:b∈fp)(e:h.get? b=some o):(b,o)∈Oe fp h:=List.mem_filterMap.mpr ⟨b,a,by rw[e];rfl⟩
theorem ZBj{h:Heap}{p:Addr×Obj}(hp:p∈Oe fp h):p.1∈fp/\h.get? p.1=some p.2:=by
 obtain⟨b,a,e⟩:=List.mem_filterMap.mp hp;cases q:h.get? b with
 |none=>rw[q]at e;cases e
 |some o=>
  rw[q]at e;have c:(b,o)=p:=BI e;subst c;exact⟨a,q⟩
theorem Inv.pinned(I:Inv X Zo Z H s)(f:∀b∈fp,Ed X Zo H b)(ho:∀b∈fp,∃o,s.heap.get? b=some o/\∀v,o.data≠.cell v):Inv X (Zo++Oe fp s.heap) Z H s:=
 I.fP λp hp=>(List.mem_append.mp hp).elim (λz=>I.pin p (DE _ z)) λz=>by
  obtain⟨a,e⟩:=ZBj z;obtain⟨f0,h,g,_⟩:=f p.1 a;obtain⟨o,c,d⟩:=ho p.1 a;rw[e]at c;cases c;exact⟨e,f0,h,g,d⟩
theorem Inv.Py{pl:ZJS}(I:Inv X (Zo++pl) Z H s):Inv X Zo Z H s:=I.fP λp hp=>I.pin p (DE _ (Ei _ hp))
theorem ZEF{lo:Int}{g:TG}{tb:TS}{D:Ends}(Pv:Nat->St->Hp->Prop)(d:Pv 0 Z H)
  (hs:∀i Z H,i<n->Pv i Z H->g (.int (lo+i)) Z H λσ2 H2=>tb { D with nx:=Pv (i+1),ct:=Pv (i+1),bk:=D.nx } σ2 H2) (hd:∀ Z H,Pv n Z H->D.nx Z H) :
  ∃W:Nat->Nat->St->Hp->Prop,(∃m,W 0 m Z H)/\∀i m Z H,W i m Z H->
   ((N5 lo n).stop i H/\D.nx Z H)∨((N5 lo n).go i H/\∃N:St->Hp->Prop,(∀ σ' H',N σ' H'->∃b,b < m/\W (i+1) b σ' H')/\∀x H',(N5 lo n).G4 i H x H'->g x Z H' λσ2 H2=>tb { D with nx:=N,ct:=N,bk:=D.nx } σ2 H2):=by
 refine⟨λi m Z H=>m=n - i/\i<=n/\Pv i Z H,⟨n,by simp,CH _,d⟩,?_⟩;rintro i m Z H⟨rfl,hi,p⟩
 by_cases a:i<n
 .refine .inr ⟨a,Pv (i+1),λσ' H' c=>⟨n - (i+1),by omega,rfl,a,c⟩,λx H' y=>?_⟩;obtain⟨e,y⟩:=y;subst e y;exact hs i Z _ a p
 .have e:i=n:=by omega
  subst e;exact .inl ⟨Ag _,hd Z H p⟩
abbrev R2:=V->V->Hp->VK->Prop
def BB(X:Cx)(f:Value->Value->Sem Value)(r:R2):Prop:=
 ∀(Zo:ZJS)(s:Shared)(Z:St)(H:Hp)(x y:V)(v u:Value)(Q:VK),Inv X Zo Z H s->RelV x v->RelV y u->r x y H Q->
  wpAny (model X.prog X.w) X.A (f v u) (EP X Zo Z Q) X.xe s
def D3(X:Cx)(f:Value)(r:List V->Hp->VK->Prop):Prop:=
 ∀(Zo:ZJS)(s:Shared)(Z:St)(H:Hp)(xs:List V)(us:List Value)(Q:VK),Inv X Zo Z H s->Vals xs us->r xs H Q->
  wpAny (model X.prog X.w) X.A (call f us) (EP X Zo Z Q) X.xe s
def rM(X:Cx)(r:V->Hp->(Bool->Hp->Prop)->Prop):Prop:=
 ∀(Zo:ZJS)(s:Shared)(Z:St)(H:Hp)(x:V)(v:Value)(Q:Bool->Hp->Prop),Inv X Zo Z H s->RelV x v->r x H Q->
  wpAny (model X.prog X.w) X.A (truthy v) (TP X Zo Z Q) X.xe s
def Bv(r:R2)(ta tb:TE):TE:=λZ H Q=>ta Z H λx H1=>tb Z H1 λy H2=>r x y H2 Q
def rI(C:Int->Int->Prop)(g:Int->Int->V):R2:=λx y H Q=>∃i j,x=.int i/\y=.int j/\C i j/\Q (g i j) H
def Gi(g:Int->Int->V):R2:=λx y H Q=>∃i j,x=.int i/\y=.int j/\Q (g i j) H
section
variable{a b c:Expr}
theorem VS(m:PE X a ta)(l:PE X b tb){R:V->V->Hp->Prop}(I:Inv X Zo Z H s)
  (h:ta Z H λx H1=>tb Z H1 λy H2=>R x y H2)
  (k:∀v u s2 x y H2,Inv X Zo Z H2 s2->RelV x v->RelV y u->R x y H2->wpAny (model X.prog X.w) X.A (f v u) Q X.xe s2) :
  wpAny (model X.prog X.w) X.A (eval a X.env) (λv d=>wpAny (model X.prog X.w) X.A (eval b X.env) (λu c=>wpAny (model X.prog X.w) X.A (f v u) Q X.xe c) X.xe d) X.xe s:=by
 refine B9 (m Zo s Z H _ I h) λv s1 Yt=>?_;obtain⟨x,H1,I1,g,j⟩:=Yt;refine B9 (l Zo s1 Z H1 _ I1 j) λu s2 ZGD=>?_;obtain⟨y,H2,I2,e,i⟩:=ZGD;exact k v u s2 x y H2 I2 g e i
theorem SH{C:Int->Int->Prop}{g:Int->Int->Int}
  (rule:∀(i j:Int)(t u:Tok)(s:Shared)(Q:Value->Shared->Prop)(E:Value->Shared->Prop),C i j->Q (.int (g i j) s.toks) { s with toks:=s.toks+1 }->wpAny (model X.prog X.w) X.A (f (.int i t) (.int j u)) Q E s) :
  BB X f (rI C λi j=>.int (g i j)):=by
 intro Zo s Z H x y v u Q I b a h;obtain⟨i,j,rfl,rfl,c,q⟩:=h;obtain⟨t,rfl⟩:=b;obtain⟨t',rfl⟩:=a;exact rule i j t t' s _ _ c ⟨.int (g i j),H,I.tok _,⟨_,rfl⟩,q⟩
theorem fB{g:Int->Int->Int}
  (rule:∀(i j:Int)(t u:Tok)(s:Shared)(Q:Value->Shared->Prop)(E:Value->Shared->Prop),Q (.int (g i j) s.toks) { s with toks:=s.toks+1 }->wpAny (model X.prog X.w) X.A (f (.int i t) (.int j u)) Q E s) :
  BB X f (Gi λi j=>.int (g i j)):=by
 intro Zo s Z H x y v u Q I b a h;obtain⟨i,j,rfl,rfl,q⟩:=h;obtain⟨t,rfl⟩:=b;obtain⟨t',rfl⟩:=a;exact rule i j t t' s _ _ ⟨.int (g i j),H,I.tok _,⟨_,rfl⟩,q⟩
theorem Sz{g:Int->Int->Bool}
  (rule:∀(i j:Int)(t u:Tok)(s:Shared)(Q:Value->Shared->Prop)(E:Value->Shared->Prop),Q (.bool (g i j)) s->wpAny (model X.prog X.w) X.A (f (.int i t) (.int j u)) Q E s) :
  BB X f (Gi λi j=>.bl (g i j)):=by
 intro Zo s Z H x y v u Q I b a h;obtain⟨i,j,rfl,rfl,q⟩:=h;obtain⟨t,rfl⟩:=b;obtain⟨t',rfl⟩:=a;exact rule i j t t' s _ _ ⟨.bl (g i j),H,I,rfl,q⟩
def ZCV(i j:Int):Prop:=0<=j/\j<=1000000/\i.natAbs<2 ^ 64
theorem EL:BB X (binaryOp .Add) (Gi λi j=>.int (i+j)):=fB λ_ _ _ _ _ _ _ q=>add_int q
theorem Mf:BB X (binaryOp .Sub) (Gi λi j=>.int (i - j)):=fB λ_ _ _ _ _ _ _ q=>sub_int q
theorem Jm:BB X (binaryOp .Mod) (rI (λ_ j=>0<j) λi j=>.int (i % j)):=SH λi j _ _ _ _ _ a q=>by
 have h1:(0:Int)<j:=a;exact mod_int' (by omega) (by rw[Int.fmod_eq_emod_of_nonneg i (by omega)];exact q)
theorem Mt:BB X (binaryOp .Pow) (rI ZCV λi j=>.int (i ^ j.toNat)):=SH λ_ _ _ _ _ _ _ a q=>pow_int_small a.1 a.2.1 a.2.2 q
end
noncomputable def RX:V->V->Bool
 | .AB,.AB=>true | .AB,.int _=>true | .int _,.AB=>true | .AB,.bl _=>true | .bl _,.AB=>true | .AB,.str _=>true | .str _,.AB=>true
 | .int _,.int _=>true | .bl _,.bl _=>true | .str _,.str _=>true | .Ff _,.Ff _=>true
 | .int _,.str _=>true | .str _,.int _=>true | .bl _,.str _=>true | .str _,.bl _=>true
 |_,_=>false
def cm:R2:=λx y H Q=>RX x y=true/\Q (.bl (decide (x=y))) H
def iK:R2:=λx y H Q=>RX x y=true/\Q (.bl (!decide (x=y))) H
theorem ip{i j:Int}:decide (V.int i=V.int j)=(i == j):=by
 rw[NY];simp
theorem dR{i j:Bool}:decide (V.bl i=V.bl j)=(i == j):=by
 rw[NY];simp
theorem me{i j:Str}:decide (V.str i=V.str j)=(i == j):=by
 rw[NY];simp
theorem jW{i j:Array UInt8}:decide (V.Ff i=V.Ff j)=(i.toList == j.toList):=by
 rw[NY];cases i;cases j;simp
section
variable{a b c:Expr}
theorem Bu{Q:VK}{k k':Bool}(I:Inv X Zo Z H s)(q:Q (.bl k) H)(e:k=k'):EP X Zo Z Q (.bool k') s:=by
 subst e;exact⟨.bl k,H,I,rfl,q⟩
theorem CL:BB X (compareOp .Eq) cm:=by
 intro Zo s Z H x y v u Q I b a h;obtain⟨hs,q⟩:=h;cases x with
 |AB=>
  cases b;cases y with
  |AB=>cases a;exact PySem.EqNone.eq_none_none (Bu I q (by simp))
  |bl j=>cases a;exact PySem.EqNone.eq_none_bool (Bu I q (by simp))
  |int j=>obtain⟨t',rfl⟩:=a;exact PySem.EqNone.eq_none_int (Bu I q (by simp))
  |str j=>obtain⟨t',rfl⟩:=a;exact PySem.EqNone.eq_none_str (Bu I q (by simp))
  |_=>exact absurd (show false=true from hs) DO
 |bl i=>
  cases b;cases y with
  |AB=>cases a;exact PySem.EqNone.eq_bool_none (Bu I q (by simp))
  |bl j=>cases a;exact eq_bool (Bu I q dR)
  |str j=>obtain⟨t',rfl⟩:=a;exact PySem.EqMixed.eq_bool_str (Bu I q (by simp))
  |_=>exact absurd (show false=true from hs) DO
 |int i=>
  obtain⟨t,rfl⟩:=b;cases y with
  |AB=>cases a;exact PySem.EqNone.eq_int_none (Bu I q (by simp))
  |int j=>obtain⟨t',rfl⟩:=a;exact eq_int (Bu I q ip)
  |str j=>obtain⟨t',rfl⟩:=a;exact PySem.EqMixed.eq_int_str (Bu I q (by simp))
  |_=>exact absurd (show false=true from hs) DO
 |str i=>
  obtain⟨t,rfl⟩:=b;cases y with
  |AB=>cases a;exact PySem.EqNone.eq_str_none (Bu I q (by simp))
  |bl j=>cases a;exact PySem.EqMixed.eq_str_bool (Bu I q (by simp))
  |int j=>obtain⟨t',rfl⟩:=a;exact PySem.EqMixed.eq_str_int (Bu I q (by simp))
  |str j=>obtain⟨t',rfl⟩:=a;exact eq_str (Bu I q me)
  |_=>exact absurd (show false=true from hs) DO
 |Ff i=>
  obtain⟨t,rfl⟩:=b;cases y with
  |Ff j=>obtain⟨t',rfl⟩:=a;exact PySem.W.eq_bytes (Bu I q jW)
  |_=>exact absurd (show false=true from hs) DO
 |_=>cases y <;> exact absurd (show false=true from hs) DO
theorem IP:BB X (compareOp .NotEq) iK:=by
 intro Zo s Z H x y v u Q I b a h;obtain⟨hs,q⟩:=h;cases x with
 |AB=>
  cases b;cases y with
  |AB=>cases a;exact PySem.EqNone.ne_none_none (Bu I q (by simp))
  |bl j=>cases a;exact PySem.EqNone.ne_none_bool (Bu I q (by simp))
  |int j=>obtain⟨t',rfl⟩:=a;exact PySem.EqNone.ne_none_int (Bu I q (by simp))
  |str j=>obtain⟨t',rfl⟩:=a;exact PySem.EqNone.ne_none_str (Bu I q (by simp))
  |_=>exact absurd (show false=true from hs) DO
 |bl i=>
  cases b;cases y with
  |AB=>cases a;exact PySem.EqNone.ne_bool_none (Bu I q (by simp))
  |bl j=>cases a;exact ne_bool (Bu I q (wu not dR))
  |str j=>obtain⟨t',rfl⟩:=a;exact PySem.EqMixed.ne_bool_str (Bu I q (by simp))
  |_=>exact absurd (show false=true from hs) DO
 |int i=>
  obtain⟨t,rfl⟩:=b;cases y with
  |AB=>cases a;exact PySem.EqNone.ne_int_none (Bu I q (by simp))
  |int j=>obtain⟨t',rfl⟩:=a;exact ne_int (Bu I q (wu not ip))
  |str j=>obtain⟨t',rfl⟩:=a;exact PySem.EqMixed.ne_int_str (Bu I q (by simp))
  |_=>exact absurd (show false=true from hs) DO
 |str i=>
  obtain⟨t,rfl⟩:=b;cases y with
  |AB=>cases a;exact PySem.EqNone.ne_str_none (Bu I q (by simp))
  |bl j=>cases a;exact PySem.EqMixed.ne_str_bool (Bu I q (by simp))
  |int j=>obtain⟨t',rfl⟩:=a;exact PySem.EqMixed.ne_str_int (Bu I q (by simp))
  |str j=>obtain⟨t',rfl⟩:=a;exact ne_str (Bu I q (wu not me))
  |_=>exact absurd (show false=true from hs) DO
 |Ff i=>
  obtain⟨t,rfl⟩:=b;cases y with
  |Ff j=>obtain⟨t',rfl⟩:=a;exact PySem.W.ne_bytes (Bu I q (wu not jW))
  |_=>exact absurd (show false=true from hs) DO
 |_=>cases y <;> exact absurd (show false=true from hs) DO
theorem He:BB X (compareOp .Lt) (Gi λi j=>.bl (decide (i<j))):=Sz λ_ _ _ _ _ _ _ q=>lt_int q
theorem FV:BB X (compareOp .LtE) (Gi λi j=>.bl (decide (i<=j))):=Sz λ_ _ _ _ _ _ _ q=>le_int q
theorem Sq:BB X (compareOp .Gt) (Gi λi j=>.bl (decide (j<i))):=Sz λ_ _ _ _ _ _ _ q=>gt_int q
theorem KY:BB X (compareOp .GtE) (Gi λi j=>.bl (decide (j<=i))):=Sz λ_ _ _ _ _ _ _ q=>ge_int q
theorem vC:BB X (compareOp .In) (λx y H Q=>∃i j,x=.str i/\y=.str j/\Q (.bl (!(Builtin.Str.occurrences j i 0 j.length 1).isEmpty)) H):=by
 intro Zo s Z H x y v u Q I b a h;obtain⟨i,j,rfl,rfl,q⟩:=h;obtain⟨t,rfl⟩:=b;obtain⟨t',rfl⟩:=a;exact in_str (Bu I q rfl)
theorem ZD7:BB X (compareOp .Is) (λx y H Q=>y=.AB/\Q (.bl (decide (x=.AB))) H):=by
 intro Zo s Z H x y v u Q I a b h;obtain⟨rfl,q⟩:=h;cases b;refine is_none_gen (Bu I q ?_);cases x <;> first
  | (cases a;rfl)
  | (obtain⟨t,rfl⟩:=a;rfl)
theorem ZDm:BB X (compareOp .IsNot) (λx y H Q=>y=.AB/\Q (.bl (!decide (x=.AB))) H):=by
 intro Zo s Z H x y v u Q I a b h;obtain⟨rfl,q⟩:=h;cases b;refine isnot_none_gen (Bu I q ?_);cases x <;> first
  | (cases a;rfl)
  | (obtain⟨t,rfl⟩:=a;rfl)
theorem dv(b:Expr)(h:op≠.In:=by decide)(h2:op≠.NotIn:=by decide):behindInMarks op b=false:=by
 have c:(op == CmpOp.In)=false:=by cases op <;> first|rfl|exact absurd rfl h
 have a:(op == CmpOp.NotIn)=false:=by cases op <;> first|rfl|exact absurd rfl h2
 cases b <;> simp[behindInMarks,c,a]
def L4(t:TE):TT:=λZ H Q=>t Z H λx H'=>∃k,x=.bl k/\Q k H'
theorem ZBI{r:R2}(ho:BB X (compareOp op) r)(o:PE X a ta)(n:PE X b tb)(m:behindInMarks op b=false):PT X (.Compare a [op] [b] pos) (L4 (Bv r ta tb)):=by
 intro Zo s Z H Q I h;refine wpAny_isTrue_Compare1 (o.k I h λv s1 x H1 I1 g l=>n.k I1 l λu s2 y H2 I2 f j=>
  B9 (ho Zo s2 Z H2 x y v u _ I2 g f j) λc p⟨z,H3,I3,d,k,e,i⟩=>?_) m
 subst e;cases d;exact vZ ⟨H3,I3,i⟩
def Pg(r b:R2)(ta tb tc:TE):TE:=λZ H Q=>ta Z H λx H1=>tb Z H1 λy H2=>r x y H2 λz H3=>∃k,z=.bl k/\
 (if k=true then tc Z H3 λa H4=>b y a H4 Q else Q (.bl false) H3)
def W9(K:ZJR)(x:V)(H:Hp)(k:Bool):Prop:=
 match x with
 | .AB=>k=false
 | .bl b=>k=b
 | .int i=>k=(i != 0)
 | .str y=>y.length<=sizeLine/\k=((y.length:Int) != 0)
 | .Ff y=>y.size<=sizeLine/\k=((y.size:Int) != 0)
 | .ref p=>(∃xs,AK K H p xs/\k=!xs.isEmpty)∨(∃xs,AD K H p xs/\k=!xs.isEmpty)∨∃A6,H p=some (.dK A6)/\k=!A6.isEmpty
 |_=>False
theorem xT{A6:List (κ×V)}{vs:List (κ×Value)}(r:KV A6 vs):(!vs.isEmpty)=!A6.isEmpty:=by
 cases r <;> rfl
theorem lz(r:Vals xs A4):(!A4.toArray.isEmpty)=!xs.isEmpty:=by
 cases r <;> simp
theorem JA:(sizeLine:Nat)<2 ^ 63:=by rw[ZAu];decide
theorem ZEk:rM X (λx H Q=>∃k,W9 X.K x H k/\Q k H):=by
 intro Zo s Z H x v Q I d h;obtain⟨k,e,q⟩:=h;have l:=JA;have hs:sizeLine=16777216:=ZAu;cases x with
 |AB=>
  cases d;have a:k=false:=e;subst a;exact truthy_none ⟨H,I,q⟩
 |bl b=>
  cases d;have a:k=b:=e;subst a;exact vZ ⟨H,I,q⟩
 |int i=>
  obtain⟨t,rfl⟩:=d;have a:k=(i != 0):=e;subst a;exact PySem.P.truthy_int ⟨H,I,q⟩
 |str y=>
  obtain⟨t,rfl⟩:=d;obtain⟨g,a⟩:y.length<=sizeLine/\k=((y.length:Int) != 0):=e;subst a;exact PySem.P.truthy_str (by omega) ⟨H,I.tok _,q⟩
 |Ff y=>
  obtain⟨t,rfl⟩:=d;obtain⟨g,a⟩:y.size<=sizeLine/\k=((y.size:Int) != 0):=e;subst a;exact PySem.W.truthy_bytes (by omega) ⟨H,I.tok _,q⟩
 |ref p=>
  cases d;have a:(∃xs,AK X.K H p xs/\k=!xs.isEmpty)∨(∃xs,AD X.K H p xs/\k=!xs.isEmpty)∨∃A6,H p=some (.dK A6)/\k=!A6.isEmpty:=e;rcases a with⟨xs,hx,a⟩|⟨xs,hx,a⟩|⟨A6,hx,a⟩
  .subst a;obtain⟨A4,r,pl,f⟩:=I.list hx;have c:=r.length;exact wpAny_truthy_list pl.isList (by simp only[Bt];omega) ⟨H,I.tok _,by rw[lz r];exact q⟩
  .subst a;obtain⟨A4,r,pl,f⟩:=I.tuple hx;have c:=r.length;exact truthy_tuple pl (by simp only[Bt];omega) ⟨H,I.tok _,by rw[lz r];exact q⟩
  .subst a;obtain⟨f,j,vs,r,m⟩:A6.length<=sizeLine/\(p == sysModules)=false/\∃vs,KV A6 vs/\s.heap.DictOf (C3 X.prog X.w) p vs:=I.AO p _ hx;have c:A6.length=vs.length:=bA r;exact wpAny_truthy_dict j m (by omega) ⟨H,I.tok _,by rw[xT r];exact q⟩
 |_=>exact(show False from e).elim
theorem iE:BB X (binaryOp .Add) (λx y H Q=>∃i j,x=.str i/\y=.str j/\i.length+j.length<=sizeLine/\Q (.str (i++j)) H):=by
 intro Zo s Z H x y v u Q I b a h;obtain⟨i,j,rfl,rfl,c,q⟩:=h;obtain⟨t,rfl⟩:=b;obtain⟨t',rfl⟩:=a;exact add_str (λt' tk=>⟨.str (i++j),H,I.tok _,⟨_,rfl⟩,q⟩) c
theorem vals1{x:V}(r:Vals [x] us):∃u,us=[u]/\RelV x u:=by
 cases r with
 |cons b a=>cases a;exact⟨_,rfl,b⟩
theorem vals2{x:V}(r:Vals [x,y] us):∃u a,us=[u,a]/\RelV x u/\RelV y a:=by
 cases r with
 |cons e d=>
  cases d with
  |cons c b=>cases b;exact⟨_,_,rfl,e,c⟩
theorem rD(b:X.calm=true):D3 X (.builtin "max") (λxs H Q=>∃i j,xs=[.int i,.int j]/\Q (.int (if j > i then j else i)) H):=by
 intro Zo s Z H xs us Q I r h;obtain⟨i,j,rfl,q⟩:=h;obtain⟨u,c,rfl,⟨t,rfl⟩,⟨t',rfl⟩⟩:=vals2 r;refine max_two_ints (I.ok.hd b) λh' tk k=>⟨_,H,I.kept k,?_,q⟩
 by_cases a:j > i
 .rw[sZ a,sZ a];exact⟨_,rfl⟩
 .rw[sN a,sN a];exact⟨_,rfl⟩
theorem uj(b:X.calm=true):D3 X (.builtin "min") (λxs H Q=>∃i j,xs=[.int i,.int j]/\Q (.int (if j<i then j else i)) H):=by
 intro Zo s Z H xs us Q I r h;obtain⟨i,j,rfl,q⟩:=h;obtain⟨u,c,rfl,⟨t,rfl⟩,⟨t',rfl⟩⟩:=vals2 r;refine min_two_ints (I.ok.hd b) λh' tk k=>⟨_,H,I.kept k,?_,q⟩
 by_cases a:j<i
 .rw[sZ a,sZ a];exact⟨_,rfl⟩
 .rw[sN a,sN a];exact⟨_,rfl⟩
theorem YX:D3 X (.type "int") (λxs H Q=>(∃i,xs=[.int i]/\Q (.int i) H)∨∃k,xs=[.bl k]/\Q (.int (if k then 1 else 0)) H):=by
 intro Zo s Z H xs us Q I r h;rcases h with⟨i,rfl,q⟩|⟨k,rfl,q⟩
 .obtain⟨u,rfl,t,rfl⟩:=vals1 r;exact call_int_int ⟨.int i,H,I,⟨_,rfl⟩,q⟩
 .obtain⟨u,rfl,a⟩:=vals1 r;cases a;exact call_int_bool ⟨.int (if k then 1 else 0),H,I.tok _,⟨_,rfl⟩,q⟩
end
structure LN (h:Heap) (x dx C:Addr) (mA:ZJT):Prop where
 obj:h.get? x=some (PySem.W.instObj C dx)
 ns:h.Ns1 dx mA
 ne:dx≠x
theorem z8{h:Heap}(n:h.Ns1 dx mA):∃b,h.get? dx=some b/\∀name,PySem.W.lookIn name b=some (mA name):=by
 obtain⟨o,es,ep,ho,hd,f,_,d⟩:=n;refine⟨o,ho,λname=>?_⟩;have e:=d name;unfold nsFind findBy at e;rw[<- Array.find?_toList]at e;unfold PySem.W.lookIn;rw[hd];dsimp only;split
 .rename_i y q;rw[q]at e;exact wu some e
 .rename_i q;rw[q]at e;have a:es.toList.any (·.refKey)=false:=by
   rw[ZIB];intro y c;obtain⟨z,t,Pq⟩:=f y (Array.mem_toList_iff.mp c);simp[DictEntry.refKey,Pq]
  have g:¬ es.toList.any (·.refKey)=true:=by rw[a];exact DO
  rw[sN g];exact wu some e
theorem LN.look{h:Heap}{x:Addr}(I:LN h x dx C mA):∃a,PySem.W.InstAt h x (PySem.W.instObj C dx) C (some a)/\∀name,PySem.W.lookIn name a=some (mA name):=
 let ⟨a,ho,hl⟩:=z8 I.ns
 ⟨a,⟨I.obj,rfl,rfl,ho⟩,hl⟩
section
variable{K:ZJR}{x f:Addr}{v:Value}
theorem get_map{a:Bool}(X:K.In s.heap)(I:LN s.heap x dx C mA)(hg:PySem.W.plainGet K C name=true)(hh:PySem.W.hasDictIn K C=true)
  (d:PySem.W.findIn K (.ref C) name=some none) (b:mA name=some v) (P9:PySem.W.handedIn v=true) (h:Q v { s with toks:=s.toks+1 }) :
  wpAny (model prog w) A (getAttr (.ref x) name a) Q E s:=by
 obtain⟨e,J,c⟩:=I.look;exact PySem.W.get_value X J (oS hg).1 (PySem.W.findObj_own hh d rfl (by rw[c,b])) P9 h
theorem ZFk{Q:Value×List Value->Shared->Prop}(X:K.In s.heap)(I:LN s.heap x dx C mA)(hg:PySem.W.plainGet K C name=true)
  (e:PySem.W.findIn K (.ref C) name=some (some (.ref f))) (c:PySem.W.isFn K (.ref f)=true) (b:mA name=none) (h:Q (.ref f,[.ref x]) s) :
  wpAny (model prog w) A (getMethod (.ref x) name pl) Q E s:=by
 obtain⟨a,J,d⟩:=I.look;exact PySem.W.method_fn X J (oS hg).1 (oS hg).2 e (beq_iff_eq.mp c) (by show(PySem.W.lookIn name a).map (·.isSome)=some false;rw[d,b];rfl) h
theorem ZHU{Q:Unit->Shared->Prop}(X:K.In s.heap)(I:LN s.heap x dx C mA)
  (hs:PySem.W.findIn K (.ref C) "__setattr__"=some (some (.builtin "object.__setattr__"))) (hp:PySem.W.plainOver K C=true) (f:PySem.W.takerIn K C name=some none) (hh:PySem.W.hasDictIn K C=true)
  (hw:PySem.Within mA ns) (hsz:ns.length<=sizeLine)
  (h:∀h',LN h' x dx C (λy=>if y=name then some v else mA y)->Heap.SameBut dx s.heap h'->Q () { s with heap:=h',toks:=s.toks+2 }) :
  wpAny (model prog w) A (setAttr (.ref x) name v) Q E s:=by
 obtain⟨k,J,m⟩:=I.look;refine PySem.W.set_plain X J hs (PySem.W.osa_open (s:={ s with toks:=s.toks+1 }) (r:=none) X J hp f λb=>?_)
 obtain⟨cd,g,JM⟩:=PySem.W.any_some hh;have hx:s.heap.get? x=some ⟨.ref C,some dx,.plain,#[]⟩:=I.obj;refine pN (pq (pN (pN (wpAny_loadPart hx (pN (PySem.W.Looks.here (s:={ s with toks:=s.toks+1 }) (PySem.W.looks_clsIn X g) ?_))))))
 rw[JM];refine pq (a:=some dx) (pN (pq (pN ?_)));refine wpAny_nsSet1 (s:={ s with toks:=s.toks+1 }) I.ns λh' RZ EJ=>?_
 obtain⟨l,i,j,e,c,d⟩:=RZ.count (PySem.Within.cons name v hw);refine pN (wpAny_lookBehind e (by rw[c];exact pastItsLine_dict (Cc d (by rw[BK];omega))) ?_);exact pq (h _ ⟨(EJ.2 _ (BG I.ne)).trans I.obj,RZ,I.ne⟩ EJ)
theorem ZHT{R:Result->Shared->Prop}{vs:List Value}(X:K.In s.heap)(a:PySem.W.makesIn K C=true)
  (hi:PySem.W.findIn K (.ref C) "__init__"=some (some (.ref f))) (b:PySem.W.typeIn K (.ref f)=some (.type "function"))
  (h:codeAny (model prog w) (A.under (.builtin "type.__call__" ⟨.ref C::vs,kw⟩)) (.call (.ref f) ⟨.ref (s.heap.objs.size+1)::vs,kw⟩) (PySem.W.InitBack (s.heap.objs.size+1) R)
   { s with heap:=(s.heap.push PySem.W.emptyDict).push (PySem.W.instObj C s.heap.objs.size) }) :
  codeAny (model prog w) A (.call (.ref C) ⟨vs,kw⟩) R s:=by
 obtain⟨hh,g,d,t,os⟩:=s;exact PySem.W.make_core (PySem.W.makes_of X a) (PySem.W.looks_findIn X hi) (λself=>PySem.W.bind_fn X self b) (.inl rfl) h
end
noncomputable def Ds(f:Str)(v:V):List (Str×V)->List (Str×V)
 | []=>[(f,v)]
 | (g,x)::r=>if g=f then(g,v)::r else(g,x)::Ds f v r
theorem jg(f g:Str)(v:V):∀fs:List (Str×V),(Ds f v fs).lookup g=if g=f then some v else fs.lookup g
 | []=>by
  show List.lookup g [(f,v)]=_
  by_cases h:g=f
  .have a:(g == f)=true:=beq_iff_eq.mpr h;simp only[List.lookup,a,sZ h]
  .have a:(g == f)=false:=beq_eq_false_iff_ne.mpr h;simp only[List.lookup,a,sN h]
 | (k,x)::r=>by
  have c:=jg f g v r;rw[show Ds f v ((k,x)::r)=(if k=f then(k,v)::r else(k,x)::Ds f v r)from rfl]
  by_cases b:k=f
  .rw[sZ b]
   by_cases h:g=k
   .have a:(g == k)=true:=beq_iff_eq.mpr h;simp only[List.lookup,a,sZ (h.trans b)]
   .have a:(g == k)=false:=beq_eq_false_iff_ne.mpr h;simp only[List.lookup,a,sN (λe:g=f=>h (e.trans b.symm))]
  .rw[sN b]
   by_cases h:g=k
   .have a:(g == k)=true:=beq_iff_eq.mpr h;simp only[List.lookup,a,sN (λe:g=f=>b (h.symm.trans e))]
   .have a:(g == k)=false:=beq_eq_false_iff_ne.mpr h;simp only[List.lookup,a];exact c
theorem VB(f:Str)(v:V):∀fs:List (Str×V),f∈(Ds f v fs).map (·.1)/\∀g,g∈fs.map (·.1)->g∈(Ds f v fs).map (·.1)
 | []=>⟨by simp[Ds],λg h=>by simp at h⟩
 | (k,x)::r=>by
  obtain⟨i1,i2⟩:=VB f v r;rw[show Ds f v ((k,x)::r)=(if k=f then(k,v)::r else(k,x)::Ds f v r)from rfl]
  by_cases a:k=f
  .rw[sZ a];subst a;exact⟨by simp,λg h=>by simpa using h⟩
  .rw[sN a];refine⟨?_,λg h=>?_⟩
   .rw[Bs];exact Ck _ i1
   .rw[Bs]at h ⊢;rcases List.mem_cons.mp h with e|e
    .exact List.mem_cons.mpr (.inl e)
    .exact Ck _ (i2 g e)
theorem kU(f:Str)(v:V):∀fs:List (Str×V),(Ds f v fs).length<=fs.length+1
 | []=>by simp[Ds]
 | (k,x)::r=>by
  have b:=kU f v r;rw[show Ds f v ((k,x)::r)=(if k=f then(k,v)::r else(k,x)::Ds f v r)from rfl]
  by_cases a:k=f
  .rw[sZ a,BK,BK];omega
  .rw[sN a,BK,BK];omega
theorem Er.some_of{o:Option Value}(r:Er (some v) o):∃u,o=some u/\RelV v u:=by
 cases o with
 |none=>exact(show False from r).elim
 |some u=>exact⟨u,rfl,r⟩
theorem Er.none_of{o:Option Value}(r:Er none o):o=none:=by
 cases o with
 |none=>rfl
 |some u=>exact(show False from r).elim
theorem qW(r:RelV v u):PySem.W.handedIn u=true:=by
 cases v with
 |AB=>cases(show u=Value.none from r);rfl
 |bl b=>cases(show u=Value.bool b from r);rfl
 |int i=>obtain⟨t,e⟩:=(show ∃t,u=Value.int i t from r);cases e;rfl
 |str x=>obtain⟨t,e⟩:=(show ∃t,u=Value.str x t from r);cases e;rfl
 |Ff b=>obtain⟨t,e⟩:=(show ∃t,u=Value.bytes b t from r);cases e;rfl
 |JV b=>obtain⟨t,e⟩:=(show ∃t,u=Value.float b t from r);cases e;rfl
 |ref a=>cases(show u=Value.ref a from r);rfl
 |ty n=>cases(show u=Value.type n from r);rfl
section
variable{P:Program}{h:Heap}{fs fs':List (Str×V)}
theorem R4(AO:CF P w H h)(e:H a=some (.ins C dx fs)):∃mA,LN h a dx C mA/\(∀f,Er (fs.lookup f) (mA f))/\PySem.Within mA (fs.map (·.1))/\fs.length<=1000/\H dx=some (.own a):=by
 obtain⟨d,z,ne,ob,mA,n,r,q⟩:=(show C7 P w H h a (.ins C dx fs)from AO a _ e);exact⟨mA,⟨ob,n,ne⟩,r,q,z,d⟩
end
structure Bz (K:ZJR) (C:Addr):Prop where
 pg:PySem.W.plainGet K C Str.empty=true
 hd:PySem.W.hasDictIn K C=true
 po:PySem.W.plainOver K C=true
 sa:PySem.W.findIn K (.ref C) "__setattr__"=some (some (.builtin "object.__setattr__"))
theorem Bz.get{K:ZJR}{C:Addr}(c:Bz K C)(f:Str):PySem.W.plainGet K C f=true:=c.pg
def Bg(K:ZJR)(C:Addr)(f:Str):Prop:=PySem.W.findIn K (.ref C) f=some none
theorem Bg.sx{K:ZJR}{f:Str}(n:Bg K C f):PySem.W.takerIn K C f=some none:=by
 unfold PySem.W.takerIn;rw[show PySem.W.findIn K (.ref C) f=some none from n];rfl
structure Mc (K:ZJR) (C:Addr) (f:Str) (v:V) (u:Value):Prop where
 at_:PySem.W.findIn K (.ref C) f=some (some u)
 rel:RelV v u
 get:PySem.W.specialIn K u "__get__"=some none
 cp:PySem.W.copiedNames.contains f=false
structure Meth (K:ZJR) (C:Addr) (m:Str) (f:Addr):Prop where
 at_:PySem.W.findIn K (.ref C) m=some (some (.ref f))
 fn:PySem.W.isFn K (.ref f)=true
 kp:PySem.W.keepIn K (.ref f)=true
section
variable{fs:List (Str×V)}{f:Str}
theorem wa{b:Bool}(I:Inv X Zo Z H s)(e:H a=some (.ins C dx fs))(c:Bz X.K C)(n:Bg X.K C f)(l:fs.lookup f=some v)
  (h:∀u s',Inv X Zo Z H s'->RelV v u->Q u s'):wpAny (model X.prog X.w) A (getAttr (.ref a) f b) Q E s:=by
 obtain⟨mA,O,r,_,_,_⟩:=R4 I.AO e;obtain⟨u,hu,d⟩:=Er.some_of (v:=v) (o:=mA f) (by rw[<- l];exact r f);exact get_map I.Cs O (c.get f) c.hd n hu (qW d) (h u _ (I.tok _) d)
theorem iT{g:Addr}{Q:Value×List Value->Shared->Prop}(I:Inv X Zo Z H s)(e:H a=some (.ins C dx fs))(c:Bz X.K C)(k:Meth X.K C m g)(l:fs.lookup m=none)
  (h:Q (.ref g,[.ref a]) s):wpAny (model X.prog X.w) A (getMethod (.ref a) m pl) Q E s:=by
 obtain⟨mA,O,r,_,_,_⟩:=R4 I.AO e;have hn:mA m=none:=Er.none_of (by rw[<- l];exact r m);exact ZFk I.Cs O (c.get m) k.at_ k.fn hn h
theorem wb{Q:Unit->Shared->Prop}(I:Inv X Zo Z H s)(e:H a=some (.ins C dx fs))(c:Bz X.K C)(n:Bg X.K C f)(l:fs.length<1000)(i:RelV y u)
  (h:∀s',Inv X Zo Z (upd H a (.ins C dx (Ds f y fs))) s'->Q () s'):wpAny (model X.prog X.w) A (setAttr (.ref a) f u) Q E s:=by
 obtain⟨mA,O,r,wi,_,ho⟩:=R4 I.AO e;have j:(fs.map (·.1)).length<=sizeLine:=by rw[AU,ZAu];omega
 refine ZHU I.Cs O c.sa c.po n.sx c.hd wi j λh' O' d=>h _ ?_;have hd:∃o,h'.get? dx=some o:=let ⟨o,_,_,e',_⟩:=O'.ns;⟨o,e'⟩;refine I.write (x:=a) (e:=dx) (by rw[e];exact True.intro) (.inr ho) (λb q k z=>(d.2 b k).trans z) hd ?_;refine⟨by rw[Af O.ne];exact ho,?_,O.ne,O'.obj,_,O'.ns,λg=>?_,λg hg=>?_⟩
 .have:=kU f y fs;omega
 .show Er ((Ds f y fs).lookup g) (if g=f then some u else mA g)
  rw[jg]
  by_cases q:g=f
  .rw[sZ q,sZ q];exact i
  .rw[sN q,sN q];exact r g
 .by_cases q:g=f
  .rw[q];exact(VB f y fs).1
  .refine(VB f y fs).2 g (wi g λz=>hg ?_);show(if g=f then some u else mA g)=none
   rw[sN q];exact z
theorem Inv.made(I:Inv X Zo Z H s):Inv X Zo Z (upd (upd H s.heap.objs.size (.own (s.heap.objs.size+1))) (s.heap.objs.size+1) (.ins C s.heap.objs.size []))
  { s with heap:=(s.heap.push PySem.W.emptyDict).push (PySem.W.instObj C s.heap.objs.size) }:=by
 have c:(s.heap.push PySem.W.emptyDict).get? s.heap.objs.size=some PySem.W.emptyDict:=Ba s.heap rfl;have h:((s.heap.push PySem.W.emptyDict).push (PySem.W.instObj C s.heap.objs.size)).get? (s.heap.objs.size+1)=some (PySem.W.instObj C s.heap.objs.size):=by
  have:=Ba (s.heap.push PySem.W.emptyDict) (o:=PySem.W.instObj C s.heap.objs.size) rfl
  rwa [Eh]at this
 have g:(s.heap.push PySem.W.emptyDict).Ns s.heap.objs.size (λ_=>none):=⟨PySem.W.emptyDict,#[],_,c,rfl,(λe f=>absurd f (by simp)),λ_=>rfl⟩;have i:=I.laid (a:=s.heap.objs.size) (o:=.own (s.heap.objs.size+1)) (h':=s.heap.push PySem.W.emptyDict) (t':=s.toks) (λb u q=>BH _ q) (Ag _) ⟨_,c⟩;refine i.laid (a:=s.heap.objs.size+1) (o:=.ins C s.heap.objs.size []) (t':=s.toks) (λb u q=>BH _ q) (oE (Eh _ _)) ?_;have ne:s.heap.objs.size≠s.heap.objs.size+1:=BP (M7 _);refine⟨by rw[Af ne,AJ],CH _,ne,h,λ_=>none,(Heap.Ns1.of_empty g).at λo q=>BH _ q,λ_=>True.intro,λy d=>absurd rfl d⟩
theorem ZHm{env:Env}(b:attributeBase e f env (eval e env)=eval e env)
  (h:wpAny (model prog w) A (eval e env) (λo a=>wpAny (model prog w) A (getAttr o f true) Q E a) E s):wpAny (model prog w) A (eval (.Attribute e f pos) env) Q E s:=
 Attribute_any_ h (by rw[arm_eval_Attribute,b])
end
def LO(K:ZJR)(ta:TE)(f:Str):TE:=λZ H Q=>ta Z H λx H1=>∃a C dx fs v,x=.ref a/\H1 a=some (.ins C dx fs)/\Bz K C/\Bg K C f/\fs.lookup f=some v/\Q v H1
def Xi(K:ZJR)(ta tv:TE)(f:Str):TS:=λD Z H=>tv Z H λy H1=>ta Z H1 λx H2=>∃a C dx fs,x=.ref a/\H2 a=some (.ins C dx fs)/\Bz K C/\Bg K C f/\fs.length<1000/\
 D.nx Z (upd H2 a (.ins C dx (Ds f y fs)))
section
variable{o value:Expr}{f:Str}{pos' Xh:Pos}{tv:TE}
variable{b:Bool}
inductive FP (K:ZJR) (H:Hp):V->Value->Prop where
 |AB:FP K H .AB (.type "NoneType")
 |bl (x:Bool):FP K H (.bl x) (.type "bool")
 |int (i:Int):FP K H (.int i) (.type "int")
 |str (x:Str):FP K H (.str x) (.type "str")
 |JV (x:UInt64):FP K H (.JV x) (.type "float")
 |lst {a:Addr}{xs:List V}(e:H a=some (.lst xs)):FP K H (.ref a) (.type "list")
 |C0 {a:Addr}{o:Obj}{xs:List V}(e:H a=some (.C0 o (.lst xs))):FP K H (.ref a) (.type "list")
 |tup {a:Addr}{xs:List V}(e:H a=some (.tup xs)):FP K H (.ref a) (.type "tuple")
 |dK {a:Addr}{A6:List (Key×V)}(e:H a=some (.dK A6)):FP K H (.ref a) (.type "dict")
 |dT {a:Addr}{A6:List (List Key×V)}(e:H a=some (.dT A6)):FP K H (.ref a) (.type "dict")
 |ins {a C dx:Addr}{fs:List (Str×V)}(e:H a=some (.ins C dx fs)) (cl:Bz K C) (ha:PySem.W.findIn K (.ref C) "__class__"=some (some (.builtin "object.__class__")))
   (hn:PySem.W.specialIn K (.builtin "object.__class__") "__get__"=some (some (.builtin "getset_descriptor.__get__"))) (N9:PySem.W.takesIn K (.builtin "object.__class__")=some true)
   (hm:PySem.W.mroIn K C (.type "object")=some true):FP K H (.ref a) (.ref C)
theorem ZAg{x:V}{t:Value}(I:Inv X Zo Z H s)(d:RelV x u)(ty:FP X.K H x t)(e:PySem.W.kitOne X.K t c=some b)(h:∀tk,Q (.bool b) { s with toks:=tk }):
  wpAny (model X.prog X.w) A (call (.builtin "isinstance") [u,c]) Q E s:=by
 cases ty with
 |AB=>cases(show u=Value.none from d);exact IZ PySem.W.kitx_none I.Cs True.intro e (λz=>nomatch z) h
 |bl y=>cases(show u=Value.bool y from d);exact IZ PySem.W.kitx_bool I.Cs True.intro e (λz=>nomatch z) h
 |int i=>obtain⟨t,q⟩:=(show ∃t,u=Value.int i t from d);cases q;exact IZ PySem.W.kitx_int I.Cs True.intro e (λz=>nomatch z) h
 |str y=>obtain⟨t,q⟩:=(show ∃t,u=Value.str y t from d);cases q;exact IZ PySem.W.kitx_str I.Cs True.intro e (λz=>nomatch z) h
 |JV y=>obtain⟨t,q⟩:=(show ∃t,u=Value.float y t from d);cases q;exact IZ PySem.W.kitx_float I.Cs True.intro e (λz=>nomatch z) h
 |@lst a xs ea=>
  cases(show u=Value.ref a from d);obtain⟨_,_,n,_,h1⟩:=(show C7 X.prog X.w H s.heap a (.lst xs)from I.AO a _ ea);exact IZ ZIg I.Cs ⟨_,h1,rfl⟩ e (λz=>nomatch z) h
 |@C0 a ob xs ea=>
  cases(show u=Value.ref a from d);obtain⟨_,_,_,n,_,h1⟩:=(show C7 X.prog X.w H s.heap a (.C0 ob (.lst xs))from I.AO a _ ea);exact IZ ZIg I.Cs ⟨_,h1,rfl⟩ e (λz=>nomatch z) h
 |@tup a xs ea=>
  cases(show u=Value.ref a from d);obtain⟨_,_,_,p⟩:=(show C7 X.prog X.w H s.heap a (.tup xs)from I.AO a _ ea);obtain⟨o,h1,h2,_⟩:=p.1;exact IZ PySem.W.kitx_tuple I.Cs ⟨o,h1,h2⟩ e (λz=>nomatch z) h
 |@dK a A6 ea=>
  cases(show u=Value.ref a from d);obtain⟨_,_,vs,_,p⟩:=(show C7 X.prog X.w H s.heap a (.dK A6)from I.AO a _ ea);obtain⟨o,es,ep,h1,h2,_⟩:=p;exact IZ ZIf I.Cs ⟨o,h1,h2.1⟩ e (λz=>nomatch z) h
 |@dT a A6 ea=>
  cases(show u=Value.ref a from d);obtain⟨_,_,xs,_,o,es,ep,h1,h2,_⟩:=(show C7 X.prog X.w H s.heap a (.dT A6)from I.AO a _ ea);exact IZ ZIf I.Cs ⟨o,h1,h2.1⟩ e (λz=>nomatch z) h
 |@ins a C dx fs ea cl g hn N9 f=>
  cases(show u=Value.ref a from d);obtain⟨mA,O,_⟩:=R4 I.AO ea;obtain⟨j,J,_⟩:=O.look;exact IZ (PySem.W.kitx_own (cl.get _) cl.hd g hn N9 f) I.Cs J e (λz=>nomatch z) h
end
structure BW (k:Nat) (A:Around):Prop where
 hd:A.handled=none
 dp:A.depth+3 * k+5<recursionLimit
 un:A.units+16 * k+200<cLine
theorem BW.mono{k:Nat}(r:BW k A)(h:j<=k):BW j A:=⟨r.hd,by have:=r.dp;omega,by have:=r.un;omega⟩
theorem BW.deeper{k:Nat}(r:BW (k+1) A)(env:Env):BW k (A.deeper env):=
 ⟨r.hd,by have:=r.dp;show A.depth+1+3 * k+5<_;omega,by have:=r.un;show A.units+3+16 * k+200<_;omega⟩
theorem uK:(A.under (.builtin "type.__call__" ⟨.ref C::us,kw⟩)).depth=A.depth+1:=by
 first|rfl|simp[Around.under,Code.weight,Code.isCreation,Code.isGuard,Code.isCaller,Code.frames,Code.isFrame,guardIds]
theorem ot:(A.under (.builtin "type.__call__" ⟨.ref C::us,kw⟩)).units=A.units+1:=by
 first|rfl|simp[Around.under,Code.cUnits,Code.frames,Code.isFrame]
theorem BW.make{k:Nat}(r:BW (k+1) A)(C:Addr)(us:List Value)(kw:List (Str×Value)):BW k (A.under (.builtin "type.__call__" ⟨.ref C::us,kw⟩)):=
 ⟨r.hd,by have:=r.dp;rw[uK];omega,by have:=r.un;rw[ot];omega⟩
theorem BW.depth{k:Nat}(r:BW k A):A.depth<recursionLimit:=by have:=r.dp;omega
theorem BW.units{k:Nat}(r:BW k A):A.units+64<cLine:=by have:=r.un;omega
theorem BW.G2{k:Nat}(r:BW k A):A.units<cLine:=by have:=r.un;omega
def BC:TA:=λ_ H Q=>Q [] H
def Ab(ta:TE)(tr:TA):TA:=λZ H Q=>ta Z H λx H1=>tr Z H1 λxs H2=>Q (x::xs) H2
theorem ZCq(g:PE X e te)(f:PA X es t)(hs:EH X e es:=by rfl):PA X (e::es) (Ab te t):=by
 intro pos Zo s Z H Q I h;rw[hs];show wpAny _ _ (spliced ((false,eval e X.env)::backTo pos (starEach es X.env))) _ _ s;refine Calls.spliced_cons (g.k I h λu s1 x H1 I1 b d=>?_);exact B9 (f pos Zo s1 Z H1 _ I1 d) λus s2 AV=>by obtain⟨xs,H2,I2,a,c⟩:=AV;exact⟨x::xs,H2,I2,.cons b a,c⟩
def Nn(t:TA):TE:=λZ H Q=>t Z H λxs H1=>xs.length<=sizeLine/\∀p,H1 p=none->Q (.ref p) (upd H1 p (.tup xs))
def TM(t:TA):TE:=λZ H Q=>t Z H λxs H1=>xs.length<=sizeLine/\∀p,H1 p=none->Q (.ref p) (upd H1 p (.lst xs))
theorem ZEx{x1}(h:PA X es t):PE X (.Tuple es x1 pos) (Nn t):=by
 intro Zo s Z H Q I c;refine wpAny_Tuple_spliced (h.k pos I c λus s1 xs H1 I1 r⟨z,q⟩=>⟨by rw[<- r.length];exact z,?_⟩);have d:H1 s1.heap.objs.size=none:=I1.AO.fresh (Ag _);refine⟨.ref s1.heap.objs.size,upd H1 s1.heap.objs.size (.tup xs),I1.laid (t':=s1.toks) (λb u e=>BH _ e) (Ag _) ?_,rfl,q _ d⟩;exact⟨z,us,r,⟨_,Ba _ rfl,rfl,_,rfl⟩,λSG a=>by rw[Ba _ rfl]at a;cases a;rfl⟩
theorem qx(h:PA X es t):PE X (.List es pos) (TM t):=by
 intro Zo s Z H Q I a;refine wpAny_List_spliced (h.k pos I a λus s1 xs H1 I1 r⟨z,q⟩=>⟨by rw[<- r.length];exact z,?_⟩);have c:H1 s1.heap.objs.size=none:=I1.AO.fresh (Ag _);refine⟨.ref s1.heap.objs.size,upd H1 s1.heap.objs.size (.lst xs),I1.laid (t':=s1.toks) (λb u e=>BH _ e) (Ag _) ?_,rfl,q _ c⟩;exact⟨z,us,0,r,Ba _ rfl⟩
abbrev Sp:=List V->Hp->VK->XK->Prop
abbrev Ge:=List Env->Hp->Shared->XK->Value->Shared->Prop
variable{CX:Ge}
structure LP (P:Program) (w:World) (K:ZJR) (mg:ZJT) (Zv:Heap) (A:Around) (outer:List Env) (s:Shared) (H:Hp):Prop where
 frames:A.frames=some outer
 mod:Mod K mg Zv
 bs:∀b o,Zv.get? b=some o->s.heap.get? b=some o/\H b=none
 J6:Zv.objs.size<=s.heap.objs.size
 Gs:s.heap.FunFrames Zv outer
 L5:∀b∈HL outer,H b=none
 AO:CF P w H s.heap
 bare:AllBare s.gens
def CE(outer:List Env)(P:Program)(w:World)(H:Hp)(s:Shared)(Q:VK)(u:Value)(s':Shared):Prop:=
 ∃v H',s'.os=s.os/\AllBare s'.gens/\Un (HL outer) [] H H' s.heap s'.heap/\CF P w H' s'.heap/\RelV v u/\Q v H'
def CR(CX:Ge)(outer:List Env)(P:Program)(w:World)(H:Hp)(s:Shared)(Q:VK)(E:XK)(r:Result)(s':Shared):Prop:=
 match r with
 | .ok (.ret u)=>CE outer P w H s Q u s'
 | .ok _=>False
 | .error e=>CX outer H s E e s'
structure DB (P:Program) (w:World) (K:ZJR) (mg:ZJT) (Zv:Heap) (CX:Ge) (k:Nat) (f:Addr) (fd:FuncData) (ps:List Str) (sp:Sp):Prop where
 len:∀vs H Q E,sp vs H Q E->vs.length=ps.length
 run:∀(A:Around)(outer:List Env)(s:Shared)(H:Hp)(args:Args)(us:List Value)(vs:List V)(Q:VK)(E:XK),BW k A->LP P w K mg Zv A outer s H->BindsTo s fd args (ps.zip us)->Vals vs us->sp vs H Q E->
  codeAny (model P w) A (.call (.ref f) args) (CR CX outer P w H s Q E) s
theorem DB.mono{P:Program}{K:ZJR}{k:Nat}{f:Addr}{sp:Sp}(F:DB P w K mg Zv CX j f fd ps sp)(h:j<=k):
  DB P w K mg Zv CX k f fd ps sp:=⟨F.len,λA outer s H args us vs Q E a=>F.run A outer s H args us vs Q E (a.mono h)⟩
theorem LP.make{P:Program}{K:ZJR}(e:LP P w K mg Zv A outer s H)(C:Addr)(us:List Value)(kw:List (Str×Value)):
  LP P w K mg Zv (A.under (.builtin "type.__call__" ⟨.ref C::us,kw⟩)) outer s H:=⟨by first|exact e.frames|(simpa[Around.under,Code.envs,Code.isFrame,pushEnvs]using e.frames),e.mod,e.bs,e.J6,e.Gs,e.L5,e.AO,e.bare⟩
theorem Inv.jI(I:Inv X Zo Z H s):LP X.prog X.w X.K X.mg X.base X.A X.stack s H:=
 ⟨I.ok.frames,I.ok.mod,I.bs,Cc I.ok.J6 I.sz,I.stack,I.gK,I.AO,I.bare⟩
theorem Inv.after{Q:VK}(I:Inv X Zo Z H s)(h:CE X.stack X.prog X.w H s Q u s'):EP X Zo Z Q u s':=by
 obtain⟨v,H',os,bare,un,AO,r,q⟩:=h;obtain⟨hh,g,d,t,Og⟩:=s';obtain rfl:Og=s.os:=os;exact⟨v,H',I.call (h':=hh) (g':=g) (d':=d) (t':=t) (ch:=[]) un AO bare (λb z=>absurd z (by simp)),r,q⟩
def CZ(sp:Sp)(DT:List V)(E:XK)(t:TA):TE:=λZ H Q=>t Z H λvs H1=>sp (vs++DT) H1 Q E
def IF(C:Addr)(m:Str)(sp:Sp)(DT:List V)(E:XK)(ta:TE)(t:TA):TE:=λZ H Q=>ta Z H λx H1=>∃a dx fs,x=.ref a/\H1 a=some (.ins C dx fs)/\fs.lookup m=none/\
 t Z H1 λvs H2=>sp (x::(vs++DT)) H2 Q E
def Vq(C:Addr)(sp:Sp)(DT:List V)(E:XK)(t:TA):TE:=λZ H Q=>t Z H λvs H1=>∀x dx,H1 x=none->H1 dx=none->dx≠x->
 sp (.ref x::(vs++DT)) (upd (upd H1 dx (.own x)) x (.ins C dx [])) (λv H2=>v=.AB/\Q (.ref x) H2) E
def Binds(K:ZJR)(fd:FuncData)(ps:List Str)(ds:List Value):Prop:=
 ∀(s:Shared)(us:List Value),K.In s.heap->(us++ds).length=ps.length->BindsTo s fd ⟨us,[]⟩ (ps.zip (us++ds))
theorem Binds.all{K:ZJR}(h:∀us:List Value,us.length=ps.length->bindArgs fd ⟨us,[]⟩=pure (ps.zip us)):Binds K fd ps []:=λs us _ a=>by
 rw[E8]at a ⊢;exact .of_eq (h us a)
def Passes(CX:Ge)(X:Cx)(E:XK):Prop:=∀(Zo:ZJS)(Z:St)(H:Hp)(s:Shared)(e:Value)(s':Shared),Inv X Zo Z H s->CX X.stack H s E e s'->X.xe e s'
section
variable{k:Nat}{f:Addr}{sp:Sp}{E:XK}{p apos:Pos}{o:Expr}
theorem Yn{Q:VK}(F:DB X.prog X.w X.K X.mg X.base CX k f fd ps sp)(c:BW k X.A)(g:Binds X.K fd ps ds)(hd:Vals DT ds)(hx:Passes CX X E)
  (I:Inv X Zo Z H s) (r:Vals vs us) (h:sp (vs++DT) H Q E):wpAny (model X.prog X.w) X.A (call (.ref f) us) (EP X Zo Z Q) X.xe s:=by
 have b:Vals (vs++DT) (us++ds):=r.append hd;have d:(us++ds).length=ps.length:=by rw[<- b.length];exact F.len _ _ _ _ h
 refine wpAny_call (ZAq (F.run X.A X.stack s H ⟨us,[]⟩ (us++ds) (vs++DT) Q E c I.jI (g s us I.Cs d) b h) λr s' a=>?_);cases r with
 |error e=>exact hx Zo Z H s e s' I a
 |ok i=>
  cases i with
  |ret u=>exact I.after a
  |next=>exact False.elim a
  |brk=>exact False.elim a
  |cont=>exact False.elim a
theorem ZEs(F:DB X.prog X.w X.K X.mg X.base CX k f fd ps sp)(a:BW k X.A)(hg:Gl X x)(b:X.mg x=some (.ref f))(c:PySem.W.keepIn X.K (.ref f)=true)(d:Binds X.K fd ps ds)(hd:Vals DT ds)(hx:Passes CX X E)
  (g:PA X (e::es) t) (D9:(x == ("__debug__":Str))=false:=by decide) (he:EH X e es:=by rfl) (Bb:BEq X pos es:=by rfl) :
  PE X (.Call (.Name x p) (e::es) [] pos) (CZ sp DT E t):=by
 intro Zo s Z H Q I h;refine z6 (Xj I hg b ?_ D9);refine oR (h₀:=X.base) I.ok.mod.OG c (g.k pos I h λus s1 vs H1 I1 r q=>⟨I1.Cs,?_⟩) he Bb;exact Yn F a d hd hx I1 r q
theorem ZGK(j:PE X o ta)(c:Bz X.K C)(b:Meth X.K C m f)(F:DB X.prog X.w X.K X.mg X.base CX k f fd ps sp)(i:BW k X.A)(n:Binds X.K fd ps ds)(hd:Vals DT ds)(hx:Passes CX X E)(p:PA X (e::es) t)
  (Cf:EH X e es:=by rfl) (Bb:BEq X pos es:=by rfl)
  (ht:eval (.Call (.Attribute o m apos) (e::es) [] pos) X.env=(do
   let ov <- eval o X.env
   standAt apos.atName
   let (f,first) <- holding [ov] (getMethod ov m pl)
   callWith pos f first (backTo pos (starEach (e::es) X.env)) (backToKw pos (keywordEach [] X.env))):=by rfl) :
  PE X (.Call (.Attribute o m apos) (e::es) [] pos) (IF C m sp DT E ta t):=by
 intro Zo s Z H Q I h;refine ZIh (pl:=pl) (j.k I h λu s1 x H1 I1 d⟨a,dx,fs,ex,ea,l,q⟩=>?_) ht;subst ex;obtain rfl:u=Value.ref a:=d;refine iT I1 ea c b l ?_;refine oR (first:=[.ref a]) (h₀:=X.base) I.ok.mod.OG b.kp (p.k pos I1 q λus s2 vs H2 I2 r g=>⟨I2.Cs,?_⟩) Cf Bb
 exact Yn (us:=.ref a::us) (vs:=.ref a::vs) F i n hd hx I2 (.cons rfl r) g
theorem ZCG(i:PE X o ta)(c:Bz X.K C)(b:Meth X.K C m f)(F:DB X.prog X.w X.K X.mg X.base CX k f fd ps sp)(g:BW k X.A)(j:Binds X.K fd ps ds)(hd:Vals DT ds)(hx:Passes CX X E)
  (e:eval (.Call (.Attribute o m apos) [] [] pos) X.env=(do
   let ov <- eval o X.env
   standAt apos.atName
   let (f,first) <- holding [ov] (getMethod ov m pl)
   callWith pos f first (backTo pos (starEach [] X.env)) (backToKw pos (keywordEach [] X.env))):=by rfl) :
  PE X (.Call (.Attribute o m apos) [] [] pos) (IF C m sp DT E ta BC):=by
 intro Zo s Z H Q I h;refine ZIh (pl:=pl) (i.k I h λu s1 x H1 I1 d⟨a,dx,fs,ex,ea,l,q⟩=>?_) e;subst ex;obtain rfl:u=Value.ref a:=d;refine iT I1 ea c b l ?_;exact PySem.W.callWith_K0 (first:=[.ref a]) I1.Cs b.kp (Yn (us:=[.ref a]) (vs:=[.ref a]) F g j hd hx I1 (.cons rfl .nil) q)
structure Mk (K:ZJR) (C f:Addr):Prop where
 makes:PySem.W.makesIn K C=true
 init:PySem.W.findIn K (.ref C) "__init__"=some (some (.ref f))
 fn:PySem.W.isFn K (.ref f)=true
 kp:PySem.W.keepIn K (.ref C)=true
theorem rV{Q:VK}(M:Mk X.K C f)(F:DB X.prog X.w X.K X.mg X.base CX k f fd ps sp)(i:BW (k+1) X.A)(l:Binds X.K fd ps ds)(hd:Vals DT ds)
  (hx:Passes CX X E) (I:Inv X Zo Z H s) (r:Vals vs us)
  (h:∀x dx,H x=none->H dx=none->dx≠x->sp (.ref x::(vs++DT)) (upd (upd H dx (.own x)) x (.ins C dx [])) (λv H2=>v=.AB/\Q (.ref x) H2) E) :
  wpAny (model X.prog X.w) X.A (call (.ref C) us) (EP X Zo Z Q) X.xe s:=by
 have c:=h (s.heap.objs.size+1) s.heap.objs.size (I.AO.fresh (GS _)) (I.AO.fresh (Ag _)) (BP (M7 _));have a:=Inv.made (C:=C) I;have b:Vals (V.ref (s.heap.objs.size+1)::(vs++DT)) (Value.ref (s.heap.objs.size+1)::(us++ds)):=.cons rfl (r.append hd);have j:(Value.ref (s.heap.objs.size+1)::us++ds).length=ps.length:=by
  have e:=b.length;rw[F.len _ _ _ _ c]at e;exact e.symm
 refine wpAny_call (ZHT (f:=f) I.Cs M.makes M.init (beq_iff_eq.mp M.fn) (ZAq (F.run _ X.stack _ _ ⟨Value.ref (s.heap.objs.size+1)::us,[]⟩ (Value.ref (s.heap.objs.size+1)::(us++ds)) _ _ E (i.make C us [])
  (a.jI.make C us []) (l _ (Value.ref (s.heap.objs.size+1)::us) a.Cs j) b c) λr s' Iq=>?_))
 cases r with
 |error e=>exact hx Zo Z _ _ e s' a Iq
 |ok m=>
  cases m with
  |ret u=>
   obtain⟨v,H',I3,d,n,g⟩:=a.after Iq;subst n;exact⟨d,⟨V.ref (s.heap.objs.size+1),H',I3,rfl,g⟩⟩
  |next=>exact False.elim Iq
  |brk=>exact False.elim Iq
  |cont=>exact False.elim Iq
theorem ZB4(M:Mk X.K C f)(F:DB X.prog X.w X.K X.mg X.base CX k f fd ps sp)(a:BW (k+1) X.A)(hg:Gl X x)(b:X.mg x=some (.ref C))(c:Binds X.K fd ps ds)(hd:Vals DT ds)(hx:Passes CX X E)
  (d:PA X (e::es) t) (D9:(x == ("__debug__":Str))=false:=by decide) (he:EH X e es:=by rfl) (Bb:BEq X pos es:=by rfl) :
  PE X (.Call (.Name x p) (e::es) [] pos) (Vq C sp DT E t):=by
 intro Zo s Z H Q I h;refine z6 (Xj I hg b ?_ D9);refine oR (h₀:=X.base) I.ok.mod.OG M.kp (d.k pos I h λus s1 vs H1 I1 r q=>⟨I1.Cs,?_⟩) he Bb;exact rV M F a c hd hx I1 r q
variable{kws:List Keyword}{tk:TA}{nm:Option Str}{g:List Value->List Value->List Value}{gV:List V->List V->List V}
end
structure Ae (N P:List Str) (sc:Scope):Prop where
 kind:sc.kind=.function
 co:sc.isCoroutine=false
 gen:sc.isGenerator=false
 nd:N.Nodup
 pre:N.take P.length=P
 par:∀x∈P,sc.names.lookup x=some .local∨sc.names.lookup x=some .cell
 ZEK:∀y∈sc.names,y.2≠.free
theorem j8{a:Str->Option NameKind}{x:Str}:∀{binds:List (Str×Value)}{m:ZJT},(∀v,(x,v)∉binds)->bindL a binds m x=m x
 | [],_,_=>rfl
 | (n,v)::r,m,h=>by
  unfold bindL;rw[j8 λw hw=>h w (Ck _ hw)];split
  .have:x≠n:=by rintro rfl;exact h v CV
   simp[this]
  .rfl
theorem gP{a:Str->Option NameKind}{x:Str}:∀{binds:List (Str×Value)}{m:ZJT},(∀v,(x,v)∉binds)->bindC a binds m x=m x
 | [],_,_=>rfl
 | (n,v)::r,m,h=>by
  unfold bindC;rw[gP λw hw=>h w (Ck _ hw)];split
  .rfl
  .have:x≠n:=by rintro rfl;exact h v CV
   simp[this]
theorem lR{a:Str->Option NameKind}{x:Str}{v:Value}:∀{P:List Str}{vs:List Value}{i:Nat}{m:ZJT},P.Nodup->P[i]?=some x->vs[i]?=some v->a x=some .local->
  bindL a (P.zip vs) m x=some v
 | [],_,_,_,_,h,_,_=>by simp at h
 |_::_,[],_,_,_,_,h,_=>by simp at h
 |p::P,w::vs,0,m,nd,h1,h2,hk=>by
  simp at h1 h2;subst h1;subst h2;show bindL a ((p,w)::P.zip vs) m p=_;unfold bindL;rw[j8 λv b=>(List.nodup_cons.mp nd).1 (oB b).1,sZ hk];simp
 |p::P,w::vs,i+1,m,nd,h1,h2,hk=>by
  show bindL a ((p,w)::P.zip vs) m x=_;unfold bindL;exact lR (i:=i) (List.nodup_cons.mp nd).2 (by simpa using h1) (by simpa using h2) hk
theorem cx{a:Str->Option NameKind}{x:Str}{v:Value}:∀{P:List Str}{vs:List Value}{i:Nat}{m:ZJT},P.Nodup->P[i]?=some x->vs[i]?=some v->a x≠some .local->
  bindC a (P.zip vs) m x=some v
 | [],_,_,_,_,h,_,_=>by simp at h
 |_::_,[],_,_,_,_,h,_=>by simp at h
 |p::P,w::vs,0,m,nd,h1,h2,hk=>by
  simp at h1 h2;subst h1;subst h2;show bindC a ((p,w)::P.zip vs) m p=_;unfold bindC;rw[gP λv b=>(List.nodup_cons.mp nd).1 (oB b).1,sN hk];simp
 |p::P,w::vs,i+1,m,nd,h1,h2,hk=>by
  show bindC a ((p,w)::P.zip vs) m x=_;unfold bindC;exact cx (i:=i) (List.nodup_cons.mp nd).2 (by simpa using h1) (by simpa using h2) hk
noncomputable def start(N:List Str)(vs:List V):St:=vs.map some++List.replicate (N.length - vs.length) none
noncomputable def HU(CX:Ge)(P:Program)(w:World)(K:ZJR)(mg:ZJT)(Zv:Heap)(N:List Str)(qual:Str)(scope:Scope)(f:Addr)(cd:Value)(A:Around)(outer:List Env)(s:Shared)(H:Hp)(E:XK):Cx where
 prog:=P
 w:=w
 K:=K
 mg:=mg
 base:=Zv
 A:=A.deeper (envOfC qual scope s.heap.objs.size f cd)
 N:=N
 s₀:=s
 H₀:=H
 env:=envOfC qual scope s.heap.objs.size f cd
 outer:=outer
 stack:=envOfC qual scope s.heap.objs.size f cd::outer
 ex:=[]
 calm:=true
 fn:=λ_=>true
 pn:=[]
 xe:=λe s'=>wpAny (model P w) (A.deeper (envOfC qual scope s.heap.objs.size f cd)) (leaving (envOfC qual scope s.heap.objs.size f cd) e) (λ_ LU=>CX outer H s E e LU) (λa LU=>CX outer H s E a LU) s'
theorem il(h:sc.names.lookup x=some .cell):∃c,(cellsFrom n sc.names []).lookup x=some c:=by
 have q:=ZIe sc.names n [] (.inl h);exact Option.isSome_iff_exists.mp q
theorem ZGp{P:Program}{K:ZJR}{f:Addr}{s1:Shared}{E:XK}
  (S:Ae N ps scope) (hd:A.handled=none) (e0:LP P w K mg Zv A outer s H) (t:vs.length=ps.length) (r:Vals vs us)
  (x:InCallC s s.heap.objs.size (bindL (envOfC qual scope s.heap.objs.size f cd).kindOf (ps.zip us) λ_=>none) (cellsFrom (s.heap.objs.size+1) scope.names []) (bindC (envOfC qual scope s.heap.objs.size f cd).kindOf (ps.zip us) λ_=>none) s1) :
  Inv (HU CX P w K mg Zv N qual scope f cd A outer s H E) [] (start N vs) H s1:=by
 have C:ps.length<=N.length:=by have:=wu List.length S.pre;rw[Bi]at this;omega
 obtain⟨h1,tk,rfl,l⟩:=x.done;have g:∀b:Addr,b∉(HU CX P w K mg Zv N qual scope f cd A outer s H E).ex:=λb z=>absurd (show b∈([]:List Addr)from z) (by simp);refine⟨⟨e0.mod,S.kind,rfl,rfl,Ag _,λy z c h1 h2=>?_,λy d=>?_,λy c _ h=>?_,λ_=>hd,Around.frames_deeper e0.frames,.inr ⟨rfl,rfl⟩,λb z=>absurd z (g b),e0.bs,e0.J6,λb _ _=>g b,λb z=>absurd z (g b),e0.Gs,e0.L5⟩,
  rfl,e0.bare,Un.kept l,⟨_,x.toInCall.ns,λi y v h1 h2 B=>?_⟩,λy c h=>⟨_,x.cell y c h⟩,e0.AO.fresh (Ag _),λy c h=>?_,λp hp=>absurd (show p∈([]:ZJS)from hp) (by simp),e0.AO.kept l,?_⟩
 .exact name_of_addr x.apart (ME h1) (ME h2)
 .have d:scope.names.lookup y=some .cell∨scope.names.lookup y=some .free:=d;rcases d with d|d
  .exact il d
  .exact absurd rfl (S.ZEK _ (ME d))
 .exact JU (x.above y c (ME h))
 .have hi:i<vs.length:=by
   unfold start at h2
   by_cases hi:i<vs.length
   .exact hi
   .rw[FD (by simpa using hi)]at h2
    rw[o5]at h2;split at h2 <;> cases h2
  have o:vs[i]?=some v:=by
   unfold start at h2;rw[Dd (by simpa using hi),Am]at h2
   cases e:vs[i]? with
   |none=>rw[e]at h2;cases h2
   |some a=>rw[e]at h2;cases h2;rfl
  obtain⟨u,hu,m⟩:=r.get o;have hp:ps[i]?=some y:=by
   rw[<- S.pre,o6 (by omega)];exact h1
  have j:ps.Nodup:=by rw[<- S.pre];exact S.nd.sublist (ZIU _ _)
  refine⟨u,m,?_⟩;rcases S.par y (DQ hp)with k|k
  .exact .inl ⟨k,lR j hp hu k⟩
  .obtain⟨c,e⟩:=il (n:=s.heap.objs.size+1) k;refine .inr ⟨.inl k,c,e,?_⟩;have q:=x.cell y c e;rw[cx j hp hu (by show scope.names.lookup y≠_;rw[k];decide)]at q;exact q
 .exact e0.AO.fresh (JU (x.above y c (ME h)))
 .unfold start;show _=N.length;rw[B2,AU,ZIO];omega
theorem ZEA{P:Program}{K:ZJR}{k:Nat}{f:Addr}{a:Arguments}{body:List Stmt}{m kV d l AY ct C:Value}{p B:Option Addr}
  {HK:Array (Option Value)}{sp:Sp}(D:K.lookup f=some ⟨C,B,.func (PySem.W.fnOf name qual a body scope m kV d l p AY ct),HK⟩) (HE:PySem.W.codeIn K AY qual=true) (S:Ae N ps scope)
  (len:∀vs H Q E,sp vs H Q E->vs.length=ps.length)
  (PL:∀(A:Around)(outer:List Env)(s:Shared)(H:Hp)(vs:List V)(Q:VK)(E:XK),BW k (A.deeper (envOfC qual scope s.heap.objs.size f AY))->sp vs H Q E->
   ∃t,EU (HU CX P w K mg Zv N qual scope f AY A outer s H E) body t/\t { nx:=λ_ H'=>Q .AB H',rt:=Q } (start N vs) H) :
  DB P w K mg Zv CX (k+1) f (PySem.W.fnOf name qual a body scope m kV d l p AY ct) ps sp:=by
 refine⟨len,λA outer s H args us vs Q E i e0 R r GB=>?_⟩;have M:=len _ _ _ _ GB;have z:K.In s.heap:=e0.mod.OG.keeps λb o e=>(e0.bs b o e).1;have h:s.heap.NoLimit:=e0.mod.nolimit.keeps λb o e=>(e0.bs b o e).1;have j:∀y∈ps.zip us,scope.names.lookup y.1=some .local∨(scope.names.lookup y.1=some .cell/\((cellsFrom (s.heap.objs.size+1) scope.names []).lookup y.1).isSome=true):=λ⟨n,v⟩F=>by
  rcases S.par n (oB F).1 with q|q
  .exact .inl q
  .exact .inr ⟨q,ZIe _ _ _ (.inl q)⟩
 refine codeAny_call_function i.depth (z _ _ D) rfl S.co S.gen rfl (PySem.W.codeRec_of z HE) (R _ _ _ _ ?_);refine wpAny_newFunctionEnv_cells S.kind j λenv O s1 x=>?_;subst O;refine⟨h.keeps x.toInCall.keep,codeAny_func ?_⟩;obtain⟨t,G,L⟩:=PL A outer s H vs Q E (i.deeper _) GB;have I:Inv (HU CX P w K mg Zv N qual scope f AY A outer s H E) [] (start N vs) H s1:=ZGp S i.hd e0 M r x;refine v7 (G [] s1 (start N vs) H _ I L) (λT s' hs=>?_) λe s' hs=>hs;have c:∀{σ':St}{H':Hp}{v:V}{u:Value},Inv (HU CX P w K mg Zv N qual scope f AY A outer s H E) [] σ' H' s'->RelV v u->Q v H'->CE outer P w H s Q u s':=
  λ{σ' H' v u}J g q=>⟨v,H',J.os,J.bare,J.base,J.AO,g,q⟩
 cases T with
 |ret u=>
  obtain⟨v,σ',H',J,g,q⟩:=hs;exact c J g q
 |next=>
  obtain⟨σ',H',J,q⟩:=hs;exact c (v:=V.AB) (u:=Value.none) J rfl q
 |brk=>
  obtain⟨_,_,_,q⟩:=hs;exact False.elim q
 |cont=>
  obtain⟨_,_,_,q⟩:=hs;exact False.elim q
section
variable{p:Pos}{id T:String}{r:List V->Hp->VK->Prop}
def DL(r:List V->Hp->VK->Prop)(t:TA):TE:=λZ H Q=>t Z H λvs H1=>r vs H1 Q
end
end L2
namespace HT
variable{E Q:Value->Shared->Prop}{sl t:Addr}{v vl vu:Value}{hi o:Option Int}
section
open PySem.SeqAt
open PySem.AutoSeq1 (wpAny_loadPart')
open PySem.MeetsSeq PySem.MeetsSeq2 PySem.MeetsSeq3
end
section
variable{prog:Program}{w:World}{A:Around}{s:Shared}
theorem qc{b:Addr}{vs ws:List Value}(h:IsTup s.heap t vs.toArray)(i:IsTup s.heap b ws.toArray)(f:vs≠[])
  (h1:ws=[]->Q (.ref t) s) (h2:ws≠[]->Q (.ref s.heap.objs.size) { s with heap:=s.heap.push { cls:=.type "tuple", data:=.seq (vs++ws).toArray } })
  (hsz:vs.length+ws.length<=sizeLine):wpAny (model prog w) A (binaryOp .Add (.ref t) (.ref b)) Q E s:=by
 obtain⟨⟨cls,dd,data,sl⟩,ho,g,n,hd⟩:=id h;obtain⟨⟨j,Qt,c,LW⟩,Lc,L0,d,a⟩:=id i;simp only at g hd L0 a;subst g hd L0 a;have e:vs.toArray++ws.toArray=(vs++ws).toArray:=by simp
 by_cases hw:ws=[]
 .exact concat_meets ⟨_,ho,rfl⟩ ⟨_,Lc,rfl⟩ ZBO seq_tuple_add oP oN (oM _ _)
   (tuple_addW1 t b vs.toArray ws.toArray n d dd Qt sl LW (by simpa using f) (by simp[hw])) ⟨ho,Lc,h1 hw⟩
 .refine concat_meets ⟨_,ho,rfl⟩ ⟨_,Lc,rfl⟩ ZBO seq_tuple_add oP oN (oM _ _)
   (tuple_addW2 t b vs.toArray ws.toArray n d dd Qt sl LW (by simpa using f) (by simpa using hw) (by rw[Bt,Bt];exact hsz)) ⟨ho,Lc,?_⟩
  rw[e];exact h2 hw
noncomputable def Ak(n d:Nat):Option Int->Nat
 |none=>d
 |some v=>if v<0 then(v+(n:Int)).toNat else min v.toNat n
theorem Rn(n d:Nat):Ak n d none=d:=rfl
theorem Ml(n d k:Nat):Ak n d (some (k:Int))=min k n:=by
 show(if(k:Int)<0 then((k:Int)+(n:Int)).toNat else min (k:Int).toNat n)=min k n
 rw[sN (by omega),Ly]
theorem ZEl(n d:Nat)(hd:d<=n)(o:Option Int):Ak n d o<=n:=by
 cases o with
 |none=>exact hd
 |some v=>
  show(if v<0 then(v+(n:Int)).toNat else min v.toNat n)<=n
  by_cases a:v<0
  .rw[sZ a];omega
  .rw[sN a];exact oH _ _
theorem kh(v:Int)(n d:Nat):(if v<0 then max (v+(n:Int)) 0 else min v (n:Int))=((Ak n d (some v):Nat):Int):=by
 show(if v<0 then max (v+(n:Int)) 0 else min v (n:Int))=(((if v<0 then(v+(n:Int)).toNat else min v.toNat n):Nat):Int)
 by_cases a:v<0
 .simp only[sZ a];omega
 .simp only[sN a];omega
theorem ZE0(lo hi:Option Int)(n:Nat):Builtin.Slice.sliceAdjust lo hi 1 (n:Int)=(((Ak n 0 lo:Nat):Int),((Ak n n hi:Nat):Int)):=by
 have h1:¬ ((1:Int)<0):=by omega
 unfold Builtin.Slice.sliceAdjust;simp only[h1,ZBb];refine Prod.ext ?_ ?_
 .cases lo with
  |none=>rfl
  |some v=>exact kh v n 0
 .cases hi with
  |none=>rfl
  |some v=>exact kh v n n
theorem ZDb(i j:Nat):Builtin.Slice.slicePlaces (i:Int) (j:Int) 1=j - i:=by
 unfold Builtin.Slice.slicePlaces;have h1:(1:Int) > 0:=by omega
 simp only[h1,ZBT,Int.ediv_one];split <;> omega
theorem cL{Q:Option Int->Shared->Prop}(p:IsPart v o)(h:Q o s):wpAny (model prog w) A (Builtin.Slice.slicePartIndex v) Q E s:=by
 cases p with
 |none=>exact slicePart_none h
 |int i t=>exact slicePart_int h
theorem mX{lo:Option Int}{n:Nat}{Q:Int×Int×Nat->Shared->Prop}(hs:s.heap.IsSliceOf sl vl vu .none)(pl:IsPart vl lo)(a:IsPart vu hi)
  (h:Q (((Ak n 0 lo:Nat):Int),1,Ak n n hi - Ak n 0 lo) s):wpAny (model prog w) A (Builtin.Slice.sliceApplied (.ref sl) (pure (n:Int))) Q E s:=by
 obtain⟨os,Kr,MF,OJ⟩:=id hs;unfold Builtin.Slice.sliceApplied Builtin.Slice.sliceFields;refine pN (pN (wpAny_field Kr OJ (x:=vl) rfl (pN (wpAny_field Kr OJ (x:=vu) rfl (pN (wpAny_field Kr OJ (x:=.none) rfl (pq ?_)))))));refine pN (slicePart_none ?_);show wpAny _ _ (if((1:Int) == 0)=true then _ else _) _ _ s
 rw[sN (by decide)];refine pN (cL pl (pN (cL a (pN (pq ?_)))));show wpAny _ _ (match Builtin.Slice.sliceAdjust lo hi 1 (n:Int)with|(lo,hi)=>pure (lo,(1:Int),Builtin.Slice.slicePlaces lo hi 1)) _ _ s
 rw[ZE0 lo hi n];show wpAny _ _ (pure (((Ak n 0 lo:Nat):Int),(1:Int),Builtin.Slice.slicePlaces ((Ak n 0 lo:Nat):Int) ((Ak n n hi:Nat):Int) 1)) _ _ s;rw[ZDb];exact pq h
theorem sF(xs:Array Value)(i k:Nat):((List.range k).filterMap λ(m:Nat)=>xs[((i:Int)+(m:Int) * 1).toNat]?).toArray=((xs.toList.drop i).take k).toArray:=by
 have e:(λ(m:Nat)=>xs[((i:Int)+(m:Int) * 1).toNat]?)=λm=>xs[i+m]?:=by
  funext m
  have:((i:Int)+(m:Int) * 1).toNat=i+m:=by omega
  rw[this]
 rw[e];have:=pick_run xs i k;rw[List.filterMap_map]at this;have a:((λx=>xs[x]?) ∘ λx=>i+x)=λm=>xs[i+m]?:=rfl;rw[a]at this;rw[this]
theorem zK{items:Array Value}{lo:Option Int}(a:IsTup s.heap t items)(hs:s.heap.IsSliceOf sl vl vu .none)(pl:IsPart vl lo)(c:IsPart vu hi)
  (hw:¬ (Ak items.size 0 lo=0/\Ak items.size items.size hi=items.size))
  (h:Q (.ref s.heap.objs.size) { s with heap:=s.heap.push { cls:=.type "tuple", data:=.seq ((items.toList.drop (Ak items.size 0 lo)).take (Ak items.size items.size hi - Ak items.size 0 lo)).toArray } })
  (hsz:items.size<=sizeLine):wpAny (model prog w) A (getItem (.ref t) (.ref sl)) Q E s:=by
 have b:sizeOk (.seq ((items.toList.drop (Ak items.size 0 lo)).take (Ak items.size items.size hi - Ak items.size 0 lo)).toArray):=by
  show((items.toList.drop (Ak items.size 0 lo)).take (Ak items.size items.size hi - Ak items.size 0 lo)).toArray.size<=sizeLine;rw[Bt,Bi,Ct,Gy];omega
 have i:Ak items.size items.size hi<=items.size:=ZEl _ _ (Ag _) hi;obtain⟨os,Kr,MF,OJ⟩:=id hs;have d:s.TypeIs (.ref sl) "slice" := ⟨os,Kr,MF⟩;unfold getItem
 try with_reducible refine x6 ?_
 first|refine pN (pq ?_)|skip
 refine pN (wpAny_sequenceKey a.typeIs (by decide) ?_);refine pN (xI (name:=Str.ofString "__getitem__") a.typeIs bB
  (xE bB a.typeIs entry_tuple_getitem ?_ (args_tuple_getitem _ _)))
 show wpAny _ _ (Builtin.Tuple.tupleItemsOf (.ref t) >>= _) _ _ s;refine pN (tupleItemsOf_ a ?_);refine pN (zj d ?_);rw[sZ (by decide)];refine pN (mX hs pl c ?_);have e:¬ ((((Ak items.size 0 lo:Nat):Int) == 0 && (1:Int) == 1 && (Ak items.size items.size hi - Ak items.size 0 lo) == items.size)=true):=by
  intro q;rw[FC,FC]at q;have g:((Ak items.size 0 lo:Nat):Int)=0:=eq_of_beq q.1.1;have f:Ak items.size items.size hi - Ak items.size 0 lo=items.size:=eq_of_beq q.2;exact hw ⟨by omega,by omega⟩
 show wpAny _ _ (if(((Ak items.size 0 lo:Nat):Int) == 0 && (1:Int) == 1 && (Ak items.size items.size hi - Ak items.size 0 lo) == items.size)=true then _ else _) _ _ s
 rw[sN e,sF]
 first
  |exact pN (m:=Builtin.Tuple.tupleExact _) (wW (pq ⟨_,rfl,pq h⟩) b)
  |exact pN (m:=Builtin.Tuple.tupleExact _) (wW (pN (pq (pq ⟨_,rfl,pq h⟩))) b)
  |exact pN (pN (m:=Builtin.Tuple.tupleExact _) (wW (pq (pq ⟨_,rfl,pq h⟩)) b))
  |exact pN (pN (m:=Builtin.Tuple.tupleExact _) (wW (pq ⟨_,rfl,pq h⟩) b))
end
end HT
namespace L2
variable{X:Cx}{pos:Pos}{xs ys:List V}{A4 its' us:List Value}{α:Type}{j n t':Nat}{i:Int}{Zo:ZJS}{Z:St}{H:Hp}{s:Shared}{A:Around}{x y:V}{u v:Value}{T:String}
abbrev TO:=St->Hp->(Option Int->Hp->Prop)->Prop
def PO(X:Cx)(e:Option Expr)(t:TO):Prop:=
 ∀(Zo:ZJS)(s:Shared)(Z:St)(H:Hp)(Q:Option Int->Hp->Prop),Inv X Zo Z H s->t Z H Q->
  wpAny (model X.prog X.w) X.A (evalPart e X.env) (λu s'=>∃o H',Inv X Zo Z H' s'/\IsPart u o/\Q o H') X.xe s
def WJ:TO:=λ_ H Q=>Q none H
def ZX(t:TE):TO:=λZ H Q=>t Z H λx H1=>∃i,x=.int i/\Q (some i) H1
section
variable{e:Expr}{te:TE}{lo hi:Option Expr}{tl th:TO}{p2:Pos}
def KD(X:Cx)(r:V->Option Int->Option Int->Hp->VK->Prop):Prop:=
 ∀(Zo:ZJS)(s:Shared)(Z:St)(H:Hp)(x:V)(v vl vu:Value)(lo hi:Option Int)(sl:Addr)(Q:VK),Inv X Zo Z H s->RelV x v->s.heap.IsSliceOf sl vl vu .none->IsPart vl lo->IsPart vu hi->r x lo hi H Q->
  ∃T id,typeLookup (.type T) "__getitem__"=pure (some (.builtin id))/\s.TypeIs v T/\wpAny (model X.prog X.w) X.A (getItem v (.ref sl)) (EP X Zo Z Q) X.xe s
def OL(r:V->Option Int->Option Int->Hp->VK->Prop)(te:TE)(tl th:TO):TE:=λZ H Q=>te Z H λx H1=>tl Z H1 λl H2=>th Z H2 λu H3=>r x l u H3 Q
def CK(xs:List V)(lo hi:Option Int):List V:=(xs.drop (HT.Ak xs.length 0 lo)).take (HT.Ak xs.length xs.length hi - HT.Ak xs.length 0 lo)
theorem jr(xs:List V)(lo hi:Option Int):(CK xs lo hi).length<=xs.length:=by
 unfold CK;rw[Bi,Ct];omega
def yg(K:ZJR):V->Option Int->Option Int->Hp->VK->Prop:=λx lo hi H Q=>∃a xs,x=.ref a/\AD K H a xs/\
 ¬ (HT.Ak xs.length 0 lo=0/\HT.Ak xs.length xs.length hi=xs.length)/\∀p,H p=none->Q (.ref p) (upd H p (.tup (CK xs lo hi)))
theorem lN:KD X (yg X.K):=by
 intro Zo s Z H x v vl vu lo hi sl Q I g hs pl i h;obtain⟨a,xs,rfl,hx,hw,q⟩:=h;cases g;obtain⟨A4,r,e,d⟩:=I.tuple hx;have c:A4.toArray.size=xs.length:=by rw[Bt];exact r.length.symm
 refine⟨"tuple", _,PyProof.Rows.slot_tuple_getitem.lookup,e.typeIs,?_⟩;refine HT.zK e hs pl i (by rw[c];exact hw) ?_ (by rw[c];exact d);rw[c];refine⟨.ref s.heap.objs.size,_,I.laid (t':=s.toks) (o:=.tup (CK xs lo hi)) (λb ob q=>BH _ q) (Ag _) ?_,rfl,q _ (I.AO.fresh (Ag _))⟩;exact⟨Cc (jr xs lo hi) d,_,(r.drop (HT.Ak xs.length 0 lo)).take (HT.Ak xs.length xs.length hi - HT.Ak xs.length 0 lo),⟨IsTup.new _ _,λSG f=>by rw[Ba _ rfl]at f;cases f;rfl⟩⟩
def vN(K:ZJR):R2:=λx y H Q=>∃a b xs ys,x=.ref a/\y=.ref b/\AD K H a xs/\AD K H b ys/\xs≠[]/\xs.length+ys.length<=sizeLine/\
 (ys=[]->Q (.ref a) H)/\(ys≠[]->∀p,H p=none->Q (.ref p) (upd H p (.tup (xs++ys))))
theorem Vals.Sw(r:Vals xs us):us=[]↔xs=[]:=by
 cases r with
 |nil=>simp
 |cons _ _=>simp
theorem zv:BB X (binaryOp .Add) (vN X.K):=by
 intro Zo s Z H x y v u Q I i g h;obtain⟨a,b,xs,ys,rfl,rfl,n,m,hx,e,k,j⟩:=h;cases i;cases g;obtain⟨A4,d,l,_⟩:=I.tuple n;obtain⟨Bk,c,p2,_⟩:=I.tuple m;refine HT.qc l p2 (λz=>hx (d.Sw.mp z)) (λz=>⟨.ref a,H,I,rfl,k (c.Sw.mp z)⟩) (λz=>?_) (by rw[<- d.length,<- c.length];exact e);refine⟨.ref s.heap.objs.size,_,I.laid (t':=s.toks) (o:=.tup (xs++ys)) (λb ob q=>BH _ q) (Ag _) ?_,rfl,j (λw=>z (c.Sw.mpr w)) _ (I.AO.fresh (Ag _))⟩;exact⟨by rw[B2];exact e,_,d.append c,⟨IsTup.new _ _,λSG f=>by rw[Ba _ rfl]at f;cases f;rfl⟩⟩
end
noncomputable def Hz(n:Nat)(i:Int):Option Nat:=if 0<=i then(if i<n then some i.toNat else none)else if -(n:Int)<=i then some (i+n).toNat else none
def Be(xs:List α)(i:Int):Option α:=(Hz xs.length i).bind λj=>xs[j]?
theorem mT(h:Hz n i=some j):seqIndex? i n=some j/\j<n/\-(n:Int)<=i/\i<n:=by
 unfold Hz at h
 by_cases a:0<=i
 .rw[sZ a]at h
  by_cases h1:i<n
  .rw[sZ h1]at h;have e:i.toNat=j:=BI h;exact⟨by rw[seqIndex_of a h1,e],by omega,by omega,h1⟩
  .rw[sN h1]at h;cases h
 .rw[sN a]at h
  by_cases h1:-(n:Int)<=i
  .rw[sZ h1]at h;have e:(i+n).toNat=j:=BI h;exact⟨by rw[seqIndex_neg (by omega) h1,e],by omega,h1,by omega⟩
  .rw[sN h1]at h;cases h
theorem Wd{xs:List α}{v:α}(h:Be xs i=some v):∃j,seqIndex? i xs.length=some j/\xs[j]?=some v/\j<xs.length/\-(xs.length:Int)<=i/\i<xs.length:=by
 unfold Be at h;cases e:Hz xs.length i with
 |none=>rw[e]at h;cases h
 |some j=>
  rw[e]at h;obtain⟨h1,h2,b,a⟩:=mT e;exact⟨j,h1,h,h2,b,a⟩
theorem RN{xs:List α}{v:α}(h:xs[j]?=some v):Be xs (j:Int)=some v:=by
 have a:j<xs.length:=(List.getElem?_eq_some_iff.mp h).1;have e:Hz xs.length (j:Int)=some j:=by
  unfold Hz;rw[sZ (by omega),sZ (by omega)];simp
 unfold Be;rw[e];exact h
def UL(b:Expr):Prop:=∀o i,subscripted b false o i=operate [o,i] (getItem o i)
def FU(X:Cx)(r:R2):Prop:=
 ∀(value a:Expr)(Zo:ZJS)(s:Shared)(Z:St)(H:Hp)(x y:V)(v u:Value)(Q:VK),Inv X Zo Z H s->RelV x v->RelV y u->r x y H Q->
  subscripted a false v u=operate [v,u] (getItem v u)->wpAny (model X.prog X.w) X.A (subscriptTail value a v u) (EP X Zo Z Q) X.xe s
def Ik(X:Cx)(id:String)(r:V->List V->Hp->VK->Prop):Prop:=
 ∀(Zo:ZJS)(s:Shared)(Z:St)(H:Hp)(x:V)(xs:List V)(v:Value)(us:List Value)(Q:VK),Inv X Zo Z H s->RelV x v->Vals xs us->r x xs H Q->
  wpAny (model X.prog X.w) X.A (call (.builtin id) (v::us)) (EP X Zo Z Q) X.xe s
section
variable{a b:Expr}{ta tb:TE}
def LS(K:ZJR):R2:=λx y H Q=>∃p xs i v,x=.ref p/\y=.int i/\AK K H p xs/\Be xs i=some v/\Q v H
def KQ(K:ZJR):R2:=λx y H Q=>∃p xs i v,x=.ref p/\y=.int i/\AD K H p xs/\Be xs i=some v/\Q v H
def yV:R2:=λx y H Q=>∃z i c,x=.str z/\y=.int i/\z.length<=sizeLine/\Be z.cps.toList i=some c/\Q (.str ⟨#[c]⟩) H
theorem Dk:FU X (LS X.K):=by
 intro value b Zo s Z H x y v u Q I g f h hs;obtain⟨p,xs,i,z,rfl,rfl,k,m,q⟩:=h;cases g;obtain⟨t,rfl⟩:=f;obtain⟨A4,r,pl,A⟩:=I.list k;obtain⟨j,h1,h2,B,o,n⟩:=Wd m;obtain⟨w,e,Ig⟩:=r.get h2;have l:=r.length;have hn:=JA;have a:EP X Zo Z Q w s:=⟨z,H,I,Ig,q⟩
 by_cases d:0<=i
 .have c:i.toNat=j:=by
   rw[seqIndex_of d n]at h1;exact BI h1
  exact item_listR pl.isList d (by omega) (by rw[c];simpa using e) a hs
 .have c:(i+(A4.toArray.size:Int)).toNat=j:=by
   rw[seqIndex_neg (by omega) o]at h1;rw[Bt,<- l];exact BI h1
  exact subscriptTail_builtinR (x:=w) pl.isList.typeIs slot_list_getitem.lookup
   (wpAny_getItem_list_neg (Q:=λr s'=>r=w/\EP X Zo Z Q r s') pl.isList (by omega) (by rw[Bt] <;> omega) (by omega) (by rw[c];simpa using e) ⟨rfl,a⟩) hs
theorem AN:FU X (KQ X.K):=by
 intro value a Zo s Z H x y v u Q I d c h hs;obtain⟨p,xs,i,z,rfl,rfl,e,g,q⟩:=h;cases d;obtain⟨t,rfl⟩:=c;obtain⟨A4,r,pl,l⟩:=I.tuple e;obtain⟨j,h1,h2,o,n,m⟩:=Wd g;obtain⟨w,k,Ig⟩:=r.get h2;have f:=r.length;have hn:=JA;have b:EP X Zo Z Q w s:=⟨z,H,I,Ig,q⟩;exact subscriptTail_builtinR (x:=w) pl.typeIs slot_tuple_getitem.lookup
  (getItem_tuple (j:=j) (Q:=λr s'=>r=w/\EP X Zo Z Q r s') pl (by omega) (by omega) (by rw[Bt,<- f];exact h1) (by simpa using k) ⟨rfl,b⟩) hs
theorem pD:FU X yV:=by
 intro value a Zo s Z H x y v u Q I d b h hs;obtain⟨z,i,c,rfl,rfl,n,f,q⟩:=h;obtain⟨t,rfl⟩:=d;obtain⟨t',rfl⟩:=b;obtain⟨j,h1,h2,o,k,g⟩:=Wd f;have e:z.cps.toList.length=z.length:=by simp[Str.length]
 rw[e]at h1 k g;have hn:=JA;exact tail_any (typeIs_str s z t) slot_str_getitem.lookup (getItem_str (c:=c) (by
  have m:decide (i < -(2 ^ 63:Int))=false:=uz (by omega);have l:decide (i>=2 ^ 63)=false:=uz (by omega);rw[m,l,Bool.or_false]) (by rw[h1];simpa using h2) ⟨.str ⟨#[c]⟩,H,I.tok _,⟨_,rfl⟩,q⟩) hs
theorem ZBk(A4:List Value)(n j:Nat)(u:Value):Obj.mapSeq (·.setIfInBounds j u) { cls:=.type "list", data:=.seq A4.toArray n }={ cls:=.type "list", data:=.seq (A4.set j u).toArray n }:=by
 simp[Obj.mapSeq]
theorem Inv.lst{Zo:ZJS}{Z:St}{H:Hp}{s:Shared}{p:Addr}{xs:List V}(I:Inv X Zo Z H s)(h:H p=some (.lst xs)):
  ∃(A4:List Value)(n:Nat),Vals xs A4/\s.heap.get? p=some { cls:=.type "list", data:=.seq A4.toArray n }/\xs.length<=sizeLine:=by
 obtain⟨z,A4,n,r,e⟩:=I.AO p _ h;exact⟨A4,n,r,e,z⟩
theorem Inv.xV{p:Addr}{a:Nat}{f:Obj->Obj}(I:Inv X Zo Z H s)(h:H p=some (.lst xs))
  (ho:s.heap.get? p=some { cls:=.type "list", data:=.seq A4.toArray n }) (hf:f { cls:=.type "list", data:=.seq A4.toArray n }={ cls:=.type "list", data:=.seq its'.toArray a }) (r:Vals ys its') (hz:ys.length<=sizeLine) (t:Nat) :
  Inv X Zo Z (upd H p (.lst ys)) { s with heap:=s.heap.update p f,toks:=t }:=by
 have e:(s.heap.update p f).get? p=some { cls:=.type "list", data:=.seq its'.toArray a }:=by
  rw[GR f ho (by rw[hf] <;> rfl),hf]
 refine I.write (x:=p) (e:=p) (by rw[h];trivial) (.inl rfl) (λb u c q=>(Gz _ _ (BG c)).trans q) ⟨_,e⟩ ?_;exact⟨hz,its',a,r,e⟩
def rd:V->V->V->Hp->(Hp->Prop)->Prop:=λo i v H Q=>∃p xs k j,o=.ref p/\i=.int k/\H p=some (.lst xs)/\Hz xs.length k=some j/\Q (upd H p (.lst (xs.set j v)))
theorem set_list:Y3 X rd:=by
 intro Zo s Z H o i v y z u Q I l m g h;obtain⟨p,xs,k,j,rfl,rfl,hp,x,q⟩:=h;cases l;obtain⟨t,rfl⟩:=m;obtain⟨A4,n,r,ho,w⟩:=I.lst hp;obtain⟨h1,h2,d,c⟩:=mT x;have a:=r.length;have hn:=JA;have f:Inv X Zo Z (upd H p (.lst (xs.set j v))) { s with heap:=s.heap.update p (Obj.mapSeq (·.setIfInBounds j u)) }:=
  I.xV hp ho (ZBk A4 n j u) (r.set g j) (by rw[DP];exact w) s.toks
 by_cases e:0<=k
 .have b:k.toNat=j:=by
   rw[seqIndex_of e c]at h1;exact BI h1
  exact PySem.W.ki_setAt ho e (by omega) (by rw[Bt,<- a];exact c) (by rw[b];exact⟨_,f,q⟩)
 .have b:(k+(A4.toArray.size:Int)).toNat=j:=by
   rw[seqIndex_neg (by omega) d]at h1;rw[Bt,<- a];exact BI h1
  exact PySem.W.ki_setBack ho (by omega) (by rw[Bt,<- a];exact d) (by omega) (by rw[b];exact⟨_,f,q⟩)
theorem y8(lo hi:Option Int)(n:Nat):(sliceBounds lo hi none n).1=((HT.Ak n 0 lo:Nat):Int)/\(sliceBounds lo hi none n).2.1=((HT.Ak n n hi:Nat):Int)/\(sliceBounds lo hi none n).2.2=1:=by
 refine⟨?_,?_,rfl⟩
 .cases lo with
  |none=>simp[sliceBounds,HT.Ak]
  |some i=>
   simp only[sliceBounds,HT.Ak,ZIX,show(1:Int) > 0 by decide,ZBT]
   by_cases h:i<0
   .simp only[h,ZBT] <;> omega
   .simp only[h,ZBb] <;> omega
 .cases hi with
  |none=>simp[sliceBounds,HT.Ak]
  |some i=>
   simp only[sliceBounds,HT.Ak,ZIX,show(1:Int) > 0 by decide,ZBT]
   by_cases h:i<0
   .simp only[h,ZBT] <;> omega
   .simp only[h,ZBb] <;> omega
theorem p5(A4:List Value)(lo hi:Option Int):slicePick A4.toArray lo hi none=((A4.drop (HT.Ak A4.length 0 lo)).take (HT.Ak A4.length A4.length hi - HT.Ak A4.length 0 lo)).toArray:=by
 obtain⟨h1,h2,a⟩:=y8 lo hi A4.toArray.size;unfold slicePick;rw[h1,h2,a];simp only[sliceRange_one,pick_run,Bt] <;> rfl
def V6(K:ZJR):V->Option Int->Option Int->Hp->VK->Prop:=λx lo hi H Q=>∃a xs,x=.ref a/\AK K H a xs/\∀p,H p=none->Q (.ref p) (upd H p (.lst (CK xs lo hi)))
theorem J9:KD X (V6 X.K):=by
 intro Zo s Z H x v vl vu lo hi sl Q I e hs pl f h;obtain⟨a,xs,rfl,hx,q⟩:=h;cases e;obtain⟨A4,r,d,g⟩:=I.list hx;have c:=r.length;refine⟨"list", _,slot_list_getitem.lookup,d.isList.typeIs,?_⟩;refine wpAny_getItem_list_slice d.isList hs pl f .none (by simp) ?_ (by rw[Bt] <;> omega)
 rw[p5,<- c];refine⟨.ref s.heap.objs.size,_,I.laid (t':=s.toks) (o:=.lst (CK xs lo hi)) (λb ob q=>BH _ q) (Ag _) ?_,rfl,q _ (I.AO.fresh (Ag _))⟩;exact⟨Cc (jr xs lo hi) g,_,0,(r.drop (HT.Ak xs.length 0 lo)).take (HT.Ak xs.length xs.length hi - HT.Ak xs.length 0 lo),Ba _ rfl⟩
noncomputable def En:V->Bool
 | .AB=>true
 | .bl _=>true
 | .int _=>true
 | .str _=>true
 |_=>false
noncomputable def ER:V->V->Bool
 | .AB,.AB=>true
 | .bl a,.bl b=>a == b
 | .bl a,.int b=>(if a then 1 else 0) == b
 | .int a,.bl b=>a == (if b then 1 else 0)
 | .int a,.int b=>a == b
 | .str a,.str b=>a == b
 |_,_=>false
theorem SR(d:RelV y u)(c:RelV x v)(f:En y=true)(e:En x=true):SeqAt.EqAt A s u v (ER y x):=by
 cases y with
 |AB=>
  cases d;cases x with
  |AB=>cases c;exact SeqAt.EqAt.same _
  |bl b=>cases c;exact SeqAt.EqAt.none_bool b
  |int b=>obtain⟨t,rfl⟩:=c;exact SeqAt.EqAt.none_int b t
  |str b=>obtain⟨t,rfl⟩:=c;exact SeqAt.EqAt.none_str b t
  |_=>exact absurd (show false=true from e) DO
 |bl a=>
  cases d;cases x with
  |AB=>cases c;exact SeqAt.EqAt.bool_none a
  |bl b=>cases c;exact SeqAt.EqAt.bool_bool a b
  |int b=>obtain⟨t,rfl⟩:=c;exact SeqAt.EqAt.bool_int a b t
  |str b=>obtain⟨t,rfl⟩:=c;exact SeqAt.EqAt.bool_str a b t
  |_=>exact absurd (show false=true from e) DO
 |int a=>
  obtain⟨t',rfl⟩:=d;cases x with
  |AB=>cases c;exact SeqAt.EqAt.int_none a t'
  |bl b=>cases c;exact SeqAt.EqAt.int_bool a t' b
  |int b=>obtain⟨t,rfl⟩:=c;exact SeqAt.EqAt.int_int a t' b t
  |str b=>obtain⟨t,rfl⟩:=c;exact SeqAt.EqAt.int_str a t' b t
  |_=>exact absurd (show false=true from e) DO
 |str a=>
  obtain⟨t',rfl⟩:=d;cases x with
  |AB=>cases c;exact SeqAt.EqAt.str_none a t'
  |bl b=>cases c;exact SeqAt.EqAt.str_bool a t' b
  |int b=>obtain⟨t,rfl⟩:=c;exact SeqAt.EqAt.str_int a t' b t
  |str b=>obtain⟨t,rfl⟩:=c;exact SeqAt.EqAt.str_str a t' b t
  |_=>exact absurd (show false=true from e) DO
 |_=>exact absurd (show false=true from f) DO
def EK(x:V)(u:Value):Bool:=match u with
 | .none=>ER .AB x
 | .bool b=>ER (.bl b) x
 | .int i _=>ER (.int i) x
 | .str z _=>ER (.str z) x
 |_=>false
theorem lW(r:RelV y u)(f:En y=true):EK x u=ER y x:=by
 cases y with
 |AB=>cases r;rfl
 |bl b=>cases r;rfl
 |int i=>obtain⟨t,rfl⟩:=r;rfl
 |str z=>obtain⟨t,rfl⟩:=r;rfl
 |_=>exact absurd (show false=true from f) DO
theorem Pb{x:V}:∀{xs:List V}{us:List Value},Vals xs us->xs.all En=true->us.any (EK x)=xs.any λy=>ER y x
 |_,_,.nil,_=>rfl
 |y::xs,u::us,.cons r t,f=>by
  rw[U4,FC]at f;rw[NZ,NZ,lW r f.1,Pb t f.2]
theorem L1{A:Around}{s:Shared}{x:V}{v:Value}(a:RelV x v)(b:En x=true):∀{xs:List V}{us:List Value},Vals xs us->xs.all En=true->∀u∈us,SeqAt.EqAt A s u v (EK x u)
 |_,_,.nil,_=>λu hu=>by cases hu
 |y::xs,u::us,.cons r t,f=>λc hu=>by
  rw[U4,FC]at f;rcases List.mem_cons.mp hu with rfl|hu
  .rw[lW r f.1];exact SR r a f.1 b
  .exact L1 a b t f.2 c hu
def DI(x:V)(xs:List V):Bool:=xs.any λy=>ER y x
def Eo(K:ZJR)(neg:Bool):R2:=λx y H Q=>∃p xs,y=.ref p/\(AK K H p xs∨AD K H p xs)/\En x=true/\xs.all En=true/\Q (.bl (if neg then !DI x xs else DI x xs)) H
theorem FK:BB X (compareOp .In) (Eo X.K false):=by
 intro Zo s Z H x y v u Q I b d h;obtain⟨p,xs,rfl,a,c,fs,q⟩:=h;cases d;rcases a with a|a
 .obtain⟨A4,r,pl,e⟩:=I.list a;refine SeqAt.in_listAt (EK x) pl.isList (λw hw=>L1 b c r fs w (by simpa using hw)) ⟨.bl _,H,I,rfl,?_⟩
  rw[show A4.toArray.any (EK x)=A4.any (EK x) by simp,Pb r fs];exact q
 .obtain⟨A4,r,pl,e⟩:=I.tuple a;refine SeqAt.in_tupleAt (EK x) pl (λw hw=>L1 b c r fs w (by simpa using hw)) ⟨.bl _,H,I,rfl,?_⟩
  rw[show A4.toArray.any (EK x)=A4.any (EK x) by simp,Pb r fs];exact q
theorem Q6:BB X (compareOp .NotIn) (Eo X.K true):=by
 intro Zo s Z H x y v u Q I b d h;obtain⟨p,xs,rfl,a,c,fs,q⟩:=h;cases d;rcases a with a|a
 .obtain⟨A4,r,pl,e⟩:=I.list a;refine SeqAt.notIn_listAt (EK x) pl.isList (λw hw=>L1 b c r fs w (by simpa using hw)) ⟨.bl _,H,I,rfl,?_⟩
  rw[show A4.toArray.any (EK x)=A4.any (EK x) by simp,Pb r fs];exact q
 .obtain⟨A4,r,pl,e⟩:=I.tuple a;refine SeqAt.notIn_tupleAt (EK x) pl (λw hw=>L1 b c r fs w (by simpa using hw)) ⟨.bl _,H,I,rfl,?_⟩
  rw[show A4.toArray.any (EK x)=A4.any (EK x) by simp,Pb r fs];exact q
theorem EZ:D3 X (.builtin "len") (λxs H Q=>∃p ys,xs=[.ref p]/\(AK X.K H p ys∨AD X.K H p ys)/\Q (.int ys.length) H):=by
 intro Zo s Z H xs us Q I r h;obtain⟨p,ys,rfl,b,q⟩:=h;obtain⟨u,rfl,d⟩:=vals1 r;cases d;have hn:=JA;rcases b with b|b
 .obtain⟨A4,c,pl,e⟩:=I.list b;have a:=c.length;exact Calls.call_len_list pl.isList (by simp only[Bt] <;> omega) ⟨.int ys.length,H,I.tok _,⟨s.toks+1,by rw[Bt,a]⟩,q⟩
 .obtain⟨A4,c,pl,e⟩:=I.tuple b;have a:=c.length;exact len_tuple pl (by simp only[Bt] <;> omega) ⟨.int ys.length,H,I.tok _,⟨s.toks+1,by rw[Bt,a]⟩,q⟩
theorem nB:D3 X (.builtin "len") (λxs H Q=>∃z,xs=[.str z]/\z.length<=sizeLine/\Q (.int z.length) H):=by
 intro Zo s Z H xs us Q I r h;obtain⟨z,rfl,a,q⟩:=h;obtain⟨u,rfl,t,rfl⟩:=vals1 r;have hn:=JA;exact len_str (by omega) ⟨.int z.length,H,I.tok _,⟨_,rfl⟩,q⟩
theorem Kc:D3 X (.type "list") (λxs H Q=>∃p ys,xs=[.ref p]/\(AK X.K H p ys∨AD X.K H p ys)/\∀l,H l=none->Q (.ref l) (upd H l (.lst ys))):=by
 intro Zo s Z H xs us Q I r h;obtain⟨p,ys,rfl,f,q⟩:=h;obtain⟨u,rfl,k⟩:=vals1 r;cases k;have i:∀(A4:List Value),Vals ys A4->ys.length<=sizeLine->∀(h':Heap)(c:Nat),(∀b o',s.heap.get? b=some o'->h'.get? b=some o')->
   h'.get? s.heap.objs.size=some { cls:=.type "list", dict:=none,data:=.seq A4.toArray c,slots:=#[] }->EP X Zo Z Q (.ref s.heap.objs.size) { s with heap:=h' }:=λA4 a d h' c kp e=>
  ⟨.ref s.heap.objs.size,_,I.laid (t':=s.toks) kp (Ag _) (show C7 X.prog X.w _ h' _ (.lst ys)from⟨d,A4,c,a,e⟩),rfl,q _ (I.AO.fresh (Ag _))⟩
 rcases f with f|f
 .obtain⟨A4,a,pl,d⟩:=I.list f;have g:=a.length;obtain⟨o,ho,j,n,hd⟩:=pl.isList;exact call_list_seq p (.inl rfl) ho j hd (λh' c kp e=>i A4 a d h' c kp e) (by simp only[Bt] <;> omega)
 .obtain⟨A4,a,pl,d⟩:=I.tuple f;have g:=a.length;obtain⟨o,ho,j,n,hd⟩:=pl;exact call_list_seq p (.inr rfl) ho j hd (λh' c kp e=>i A4 a d h' c kp e) (by simp only[Bt] <;> omega)
theorem Io:D3 X (.type "tuple") (λxs H Q=>∃p ys,xs=[.ref p]/\((AK X.K H p ys/\∀l,H l=none->Q (.ref l) (upd H l (.tup ys)))∨(AD X.K H p ys/\Q (.ref p) H))):=by
 intro Zo s Z H xs us Q I r h;obtain⟨p,ys,rfl,h⟩:=h;obtain⟨u,rfl,j⟩:=vals1 r;cases j;rcases h with⟨c,q⟩|⟨c,q⟩
 .obtain⟨A4,a,pl,d⟩:=I.list c;have f:=a.length;refine call_tuple_list pl.isList (λh' kp=>?_) (by simp only[Bt] <;> omega)
  have i:Inv X Zo Z H { s with heap:=h' }:=I.kept (t':=s.toks) kp
  have k:Inv X Zo Z (upd H h'.objs.size (.tup ys)) { s with heap:=h'.push { cls:=.type "tuple", data:=.seq A4.toArray } }:=
   i.laid (t':=s.toks) (λb o e=>BH _ e) (Ag _) (show C7 X.prog X.w _ _ _ (.tup ys)from⟨d,A4,a,⟨IsTup.new _ _,λSG g=>by rw[Ba _ rfl]at g;cases g;rfl⟩⟩)
  exact⟨.ref h'.objs.size,_,k,rfl,q _ (i.AO.fresh (Ag _))⟩
 .obtain⟨A4,a,pl,d⟩:=I.tuple c;exact call_tuple_same pl ⟨.ref p,H,I,rfl,q⟩
def Lf(K:ZJR)(T:String)(x:V)(H:Hp):Prop:=match x with
 | .str _=>T="str"
 | .int _=>T="int"
 | .ref p=>(T="list" /\ ∃xs,AK K H p xs)∨(T="tuple" /\ ∃o,K.lookup p=some o/\o.cls=.type "tuple" /\ o.dict=none)∨
   (T="dict" /\ ((∃A6,H p=some (.dK A6))∨∃A6,H p=some (.dT A6)))∨(T="set" /\ ∃S n,H p=some (.set S n))∨(T="tuple" /\ ∃xs,H p=some (.tup xs))
 |_=>False
theorem kA(I:Inv X Zo Z H s)(r:RelV x v)(ty:Lf X.K T x H):
  s.TypeIs v T/\∀a,v=.ref a->∃ob,s.heap.get? a=some ob/\ob.dict=none:=by
 cases x with
 |str z=>
  obtain⟨t,rfl⟩:=r;cases(show T="str" from ty);exact⟨typeIs_str s z t,λ_ e=>nomatch e⟩
 |int i=>
  obtain⟨t,rfl⟩:=r;cases(show T="int" from ty);exact⟨typeIs_int s i t,λ_ e=>nomatch e⟩
 |ref p=>
  cases r;rcases ty with⟨rfl,xs,f⟩|⟨rfl,o,b,g,hd⟩|⟨rfl,b⟩|⟨rfl,S,n,b⟩|⟨rfl,xs,b⟩
  .obtain⟨A4,_,pl,_⟩:=I.list f;refine⟨pl.isList.typeIs,λa e=>?_⟩;cases e;obtain⟨o,n,e,c,hd,_⟩:=pl;exact⟨o,e,hd⟩
  .refine⟨⟨o,I.Cs p o b,g⟩,λa e=>?_⟩;cases e;exact⟨o,I.Cs _ o b,hd⟩
  .have z:∃o,s.heap.get? p=some o/\o.ExactDict:=by
    rcases b with⟨A6,b⟩|⟨A6,b⟩
    .obtain⟨_,_,_,_,o,_,_,e,ex,_⟩:=I.AO p _ b;exact⟨o,e,ex⟩
    .obtain⟨_,_,_,_,o,_,_,e,ex,_⟩:=I.AO p _ b;exact⟨o,e,ex⟩
   obtain⟨o,e,ex⟩:=z;refine⟨⟨o,e,ex.1⟩,λa d=>?_⟩;cases d;exact⟨o,e,ex.2.1⟩
  .obtain⟨o,_,_,_,e,ex,_⟩:=I.AO p _ b;refine⟨⟨o,e,ex.1⟩,λa d=>?_⟩;cases d;exact⟨o,e,ex.2.1⟩
  .obtain⟨_,A4,_,⟨o,e,c,_⟩,h⟩:=I.AO p _ b;refine⟨⟨o,e,c⟩,λa d=>?_⟩;cases d;exact⟨o,e,h o e⟩
 |_=>exact False.elim ty
def XW(K:ZJR)(T:String)(r:V->List V->Hp->VK->Prop)(to:TE):TE:=λZ H Q=>to Z H λx H1=>Lf K T x H1/\r x [] H1 Q
def QR(K:ZJR)(T:String)(r:V->List V->Hp->VK->Prop)(to:TE)(t:TA):TE:=λZ H Q=>to Z H λx H1=>Lf K T x H1/\t Z H1 λxs H2=>r x xs H2 Q
variable{o e:Expr}{es:List Expr}{to:TE}{t:TA}{name:Str}{apos D4:Pos}{id:String}{r:V->List V->Hp->VK->Prop}
end
def Uz(X:Cx)(id:String)(r:V->List V->Hp->VK->Prop):Prop:=
 ∀(Zo:ZJS)(s:Shared)(Z:St)(H:Hp)(x:V)(xs:List V)(v:Value)(us:List Value)(Q:VK),Inv X Zo Z H s->RelV x v->Vals xs us->r x xs H Q->
  wpAny (model X.prog X.w) X.A (call (.builtin id) (v::us)) (EP X Zo Z Q) X.xe s
theorem Vals.one:∀{x:V}{us:List Value},Vals [x] us->∃u,us=[u]/\RelV x u:=λr=>vals1 r
theorem Vals.two:∀{x y:V}{us:List Value},Vals [x,y] us->∃u v,us=[u,v]/\RelV x u/\RelV y v:=λr=>vals2 r
theorem Vals.zero:∀{us:List Value},Vals [] us->us=[]
 |_,.nil=>rfl
theorem Vals.dropLast(h:Vals xs us):Vals xs.dropLast us.dropLast:=by
 induction h with
 |nil=>exact .nil
 |cons r t a=>
  cases t with
  |nil=>exact .nil
  |cons q t'=>exact .cons r a
theorem Vals.reverse(h:Vals xs us):Vals xs.reverse us.reverse:=by
 induction h with
 |nil=>exact .nil
 |cons r t a=>rw[ZIT,ZIT];exact Vals.append a (.cons r .nil)
theorem ZHz(l:List α):l.eraseIdx (l.length - 1)=l.dropLast:=by
 induction l with
 |nil=>rfl
 |cons a r c=>
  cases r with
  |nil=>rfl
  |cons b r=>
   have e:(a::b::r).length - 1=((b::r).length - 1)+1:=by
    have h1:(a::b::r).length=r.length+2:=rfl;have h2:(b::r).length=r.length+1:=rfl;omega
   rw[e,List.eraseIdx_cons_succ,c]
   all_goals rfl
section
variable{l b:Addr}{zs:List V}
theorem Inv.Xc{f:Array Value->Array Value}(I:Inv X Zo Z H s)(b:H l=some (.lst xs))
  (e:s.heap.get? l=some { cls:=.type "list", data:=.seq A4.toArray n }) (hf:f A4.toArray=its'.toArray) (hv:Vals ys its') (hz:ys.length<=sizeLine) :
  Inv X Zo Z (upd H l (.lst ys)) { s with heap:=s.heap.update l (Obj.mapSeq f),toks:=t' }:=by
 have q:=PySem.IsL.update e f;rw[hf]at q;refine I.write (x:=l) (e:=l) (by rw[b];exact trivial) (.inl rfl) (λc u a hu=>(Gz s.heap (Obj.mapSeq f) (BG a)).trans hu) ⟨_,q⟩ ?_;exact⟨hz,its',_,hv,q⟩
theorem Inv.gC(I:Inv X Zo Z H s)(b:Vals ys A4)(a:ys.length<=sizeLine):
  Inv X Zo Z (upd H s.heap.objs.size (.lst ys)) { s with heap:=s.heap.push { cls:=.type "list", data:=.seq A4.toArray },toks:=t' }:=
 I.laid (λ_ _ q=>BH _ q) (Ag _) ⟨a,A4,0,b,Ba _ rfl⟩
theorem Inv.fresh(I:Inv X Zo Z H s):H s.heap.objs.size=none:=I.AO.fresh (Ag _)
theorem Inv.OC(I:Inv X Zo Z H s)(a:H l=some (.lst xs)):xs.length<=sizeLine/\∃(A4:List Value)(n:Nat),Vals xs A4/\xs.length=A4.length/\s.heap.get? l=some { cls:=.type "list", data:=.seq A4.toArray n }:=by
 obtain⟨z,A4,n,r,e⟩:=I.AO l _ a;exact⟨z,A4,n,r,r.length,e⟩
def P6:V->List V->Hp->VK->Prop:=λx vs H Q=>∃l xs y,x=.ref l/\vs=[y]/\H l=some (.lst xs)/\xs.length<sizeLine/\Q .AB (upd H l (.lst (xs++[y])))
theorem nP:Uz X "list.append" P6:=by
 intro Zo s Z H x vs v us Q I b c h;obtain⟨l,xs,y,rfl,rfl,a,f,q⟩:=h;cases b;obtain⟨u,rfl,d⟩:=c.one;obtain⟨z,A4,n,r,g,e⟩:=I.OC a;refine ZBS F.slot_list_append ⟨_,e,rfl⟩ F.entry_list_append (F.args_list_append_2 _ _) (PySem.list_append l A4.toArray n u (by rw[Bt];omega)) ⟨e,?_⟩;refine⟨.AB,_,I.Xc (its':=A4++[u]) a e (by simp) (r.append (.cons d .nil)) ?_,rfl,q⟩;rw[B2,Kj];omega
def WQ:V->List V->Hp->VK->Prop:=λx vs H Q=>∃l xs y,x=.ref l/\vs=[]/\H l=some (.lst xs)/\xs[xs.length - 1]?=some y/\Q y (upd H l (.lst xs.dropLast))
theorem pJ:Uz X "list.pop" WQ:=by
 intro Zo s Z H x vs v us Q I c d h;obtain⟨l,xs,y,rfl,rfl,b,g,q⟩:=h;cases c;have a:=d.zero;subst a;obtain⟨z,A4,n,r,i,e⟩:=I.OC b;obtain⟨u,hu,f⟩:=r.get g;have j:A4.toArray[A4.toArray.size - 1]?=some u:=by
  show A4.toArray[A4.length - 1]?=some u;rw[<- QX,<- i];exact hu
 refine ZBS F.slot_list_pop ⟨_,e,rfl⟩ F.entry_list_pop (F.args_list_pop_1 _) (MeetsSeq.list_pop_last l A4.toArray n u j (by rw[Bt];omega)) ⟨e,?_⟩;refine⟨y,_,I.Xc (its':=A4.dropLast) b e ?_ r.dropLast ?_,f,q⟩
 .show A4.toArray.eraseIdxIfInBounds (A4.toArray.size - 1)=A4.dropLast.toArray;rw[Bt,List.eraseIdxIfInBounds_toArray,ZHz]
 .rw[List.length_dropLast];omega
def fv:R2:=λx y H Q=>∃l b xs zs,x=.ref l/\y=.ref b/\H l=some (.lst xs)/\H b=some (.lst zs)/\xs.length+zs.length<=sizeLine/\∀p,H p=none->Q (.ref p) (upd H p (.lst (xs++zs)))
theorem Hw:BB X (binaryOp .Add) fv:=by
 intro Zo s Z H x y v u Q I c a h;obtain⟨l,b,xs,zs,rfl,rfl,f,g,m,q⟩:=h;cases c;cases a;obtain⟨z,A4,n,r,o,e⟩:=I.OC f;obtain⟨j,Bk,k,d,Cz,i⟩:=I.OC g;refine PySem.P.add_list e i ?_ (by rw[Bt,Bt];omega);have ea:A4.toArray++Bk.toArray=(A4++Bk).toArray:=by simp
 rw[ea];exact⟨.ref _,_,I.gC (t':=s.toks) (r.append d) (by rw[B2];omega),rfl,q _ I.fresh⟩
variable{prog:Program}{w:World}{E:Value->Shared->Prop}
set_option maxRecDepth 100000 in
end
end L2
namespace dF
open PySem.W PySem.Calls
variable{l:OpenLaw}{n:Nat}{prog q:Program}
theorem ZAW{P:Params}{h:Heap}:∀(ns:List Int)(vs:List Value),WellAll P h vs (ns.map WData.int)->IntsAre vs ns:=by
 intro ns
 induction ns with
 |nil=>
  intro vs w;rw[ay]at w;cases w;exact .nil
 |cons n ns c=>
  intro vs w;rw[Bs]at w;cases w with
  |cons a b=>
   cases a;exact .cons _ _ (c _ b)
theorem ZAO(hn:l.most=some n){P:Params}{h:Heap}{args:List WData}{vals:List Value}
  (MN:l.row.toRowW.claim.pre args=true) (ZV:WellAll P h vals args) :
  ∃a vs ns,vals=[Value.ref a]/\args=[WData.list (ns.map WData.int)]/\h.get? a=some { cls:=.type "list", data:=.seq vs.toArray }/\IntsAre vs ns/\ns.length<=n:=by
 have f:WShape.hasAll [] args [.list .int]=true:=(pre_splitW MN).1;have g:l.pre.holds [] { args:=args }=true:=(pre_splitW MN).2;obtain⟨d,r,rfl,h1,h2⟩:=hasAllW_cons f;obtain rfl:=hasAllW_nil h2;obtain⟨xs,rfl,m⟩:=hasW_list h1;obtain⟨ns,rfl⟩:=items_int m;have b:ns.length<=n:=by
  unfold OpenLaw.pre at g;have e:(WTm.not (.lt (.lit (.int (n:Int))) (.len (.arg 0)))).holds [] { args:=[.list (ns.map .int)] }=true:=by
   have e:=(holds_andW g).1;rw[hn]at e;exact e
  have c:=condW_of e (w_not (w_lt w_lit (w_len_list (w_arg rfl))));rw[AU]at c;refine oG λq=>?_;have k:(n:Int)<((ns.length:Nat):Int):=by omega
  first
   | (rw[rg k]at c;exact absurd c (by decide))
   | (simp at c;omega)
 cases ZV with
 |cons j i=>
  cases i;cases j with
  |list ho K9=>exact⟨_,_,ns,rfl,rfl,ho,ZAW ns _ K9,b⟩
theorem ZCJ(l:OpenLaw)(args:List WData):l.row.toRowW.claim.post args (.bool true) args=true:=
 postW_of (r:=l.row.toRowW) (X:=(true == true))
  (show WShape.has [] (.bool true) .bool=true by first|rfl|decide|simp[WShape.has,WShape.arms,WShape.armsAll])
  (show(WTm.eq .res (.lit (.bool true))).value [] { args:=args,res:=some (.bool true),after:=args }=some (.bool (true == true))from w_eq_bool (w_res rfl) w_lit) rfl
theorem ZCt{loose:List Str}{XP:(ZJT)->Heap->Prop}{YP:World->Heap->Prop}{d:DefRec}
  (hn:l.most=some n) (PJ:d.params.defaults=[])
  (call:∀(w:World)(s₀ b:Shared)(mg j:ZJT)(h:Addr)(o:Obj)(i cd e:Value)(a:Addr)(vs:List Value)(ns:List Int),
   Ground q loose [] XP w s₀ mg j b.heap->YP w b.heap->
   b.heap.get? h=some o->o.data=.func (docDef d.name d.params d.body d.scope i cd e)->b.heap.CodeRec cd d.name->mg d.name=some (.ref h)->
   b.heap.get? a=some { cls:=.type "list", data:=.seq vs.toArray }->IntsAre vs ns->ns.length<=n->b.gens=#[]->
   codeAny (model l.prog w) callerA (.call (.ref h) ⟨[.ref a],[]⟩) (λr s'=>r=.ok (.ret (.bool true))/\OldK b.heap s'.heap/\s'.os=b.os/\AllBare s'.gens) b) :
  WalkO q loose XP YP l.row.toRowW d [] (λf vs=>PySem.call f vs):=by
 intro w s₀ b mg j G Y h o i cd e x kV ho hd HE k Pr hg args vals as MN ZIt m ZV t;obtain rfl:x=.none:=Dflts.none k PJ;obtain rfl:kV=.none:=Dflts.noKw k;obtain⟨a,vs,ns,rfl,rfl,YY,c,g⟩:=ZAO hn MN ZV;refine enter_call (ZAq (call w s₀ b mg j h o i cd e a vs ns G Y ho (fd_plain hd) HE Pr YY c g hg) λr s' p=>?_);obtain⟨rfl,h2,v,u⟩:=p;exact⟨.inl ⟨.bool true,.bool true,[],rfl,λ_=>rfl,.bool true,ZCJ l _,λ_=>⟨List.Pairwise.nil,λ_ s=>(nomatch s)⟩⟩,h2,v,u⟩
end dF
namespace L2
variable{w:World}{mg:ZJT}{a f:Addr}{fd:FuncData}{qual x:Str}{sp:Sp}{loose ps:List Str}{X:Cx}{A B c:Prop}
theorem j4:∀{vs:List Value}{ns:List Int},IntsAre vs ns->Vals (ns.map V.int) vs
 |_,_,.nil=>.nil
 |_,_,.cons n t h=>.cons ⟨t,rfl⟩ (j4 h)
def Vy(H:Hp):Prop:=∀b,H b=none∨∃o xs,H b=some (.C0 o (.lst xs))
theorem pP{P:Program}{K:ZJR}{p:ZJT}{CX:Ge}{k:Nat}{y:Addr}{c:Shared}{vs:List Value}{ns:List Int}
  (KX:K.In c.heap) (NR:c.heap.Ns mainGlobals mg) (f:c.heap.Ns builtinsNs p) (N:∀x:Str,x ≠"__name__" -> p x=bootBuiltins x) (M:c.heap.NoLimit) (hg:c.gens=#[])
  (j:c.heap.get? a=some { cls:=.type "list", data:=.seq vs.toArray }) (hi:IntsAre vs ns) (hl:ns.length<=sizeLine) (hr:BW k callerA)
  (F:∀Zv:Heap,K.In Zv->Zv.Ns mainGlobals mg->DB P w K mg Zv CX k y fd [x] sp) (vE:∀(s:Shared)(u:Value),BindsTo s fd ⟨[u],[]⟩ [(x,u)])
  (GB:∀H:Hp,Vy H->AK K H a (ns.map V.int)->sp [.ref a] H (λv _=>v=.bl true) λ_ _ _=>False)
  (W4:∀H e s',CX [] H c (λ_ _ _=>False) e s'->False) :
  codeAny (model P w) callerA (.call (.ref y) ⟨[.ref a],[]⟩) (λr s'=>r=.ok (.ret (.bool true))/\OldK c.heap s'.heap/\s'.os=c.os/\AllBare s'.gens) c:=by
 have C:=j4 hi;have B:=hi.length
 -- from an abstract heap in ZJ5 nothing but HN iP may be tracked
 have g:∀H:Hp,Vy H->AK K H a (ns.map V.int)->CF P w H c.heap->(∀b,H b≠none->b=a)->(H a≠none->K.lookup a=none)->
   codeAny (model P w) callerA (.call (.ref y) ⟨[.ref a],[]⟩) (λr s'=>r=.ok (.ret (.bool true))/\OldK c.heap s'.heap/\s'.os=c.os/\AllBare s'.gens) c:=by
  intro H G S AO I T;have E:∀{b:Addr}{o:Obj},c.heap.get? b=some o->H b=none->(J0 c.heap H).get? b=some o:=λe n=>ZFO e n;have X:∀{b:Addr}{o:Obj}{es:Array DictEntry}{ep:Nat},c.heap.get? b=some o->o.data=.dict es ep->H b=none:=λ{b o es ep}e d=>by
   cases q:H b with
   |none=>rfl
   |some u=>
    have A:b=a:=I b (by rw[q];simp);subst A;rw[j]at e;cases e;have d':Data.seq vs.toArray _=Data.dict es ep:=d;cases d'
  have l:∀{b:Addr}{m:ZJT},c.heap.Ns b m->(J0 c.heap H).Ns b m:=λ{b m}AV=>by obtain⟨o,es,ep,e,d,r⟩:=AV;exact⟨o,es,ep,E e (X e d),d,r⟩
  have D:K.In (J0 c.heap H):=λb o e=>E (KX b o e) (by
   cases q:H b with
   |none=>rfl
   |some u=>
    have A:b=a:=I b (by rw[q];simp);subst A;rw[T (by rw[q];simp)]at e;cases e)
  have hM:Mod K mg (J0 c.heap H):=⟨D,l NR,⟨p,l f,N⟩,let ⟨mc,h1,h2⟩:=M;⟨mc,l h1,h2⟩⟩;have e0:LP P w K mg (J0 c.heap H) callerA [] c H:=⟨rfl,hM,λb o e=>zD e,oE (rP _ _),trivial,λb f=>absurd (show b∈([]:List Addr)from f) (by simp),AO,.of_eq hg⟩;refine ZAq ((F _ D (l NR)).run callerA [] c H ⟨[.ref a],[]⟩ [.ref a] [.ref a] _ _ hr e0 (vE c (.ref a)) (.cons rfl .nil) (GB H G S)) λr s' h=>?_;cases r with
  |error e=>exact(W4 H e s' h).elim
  |ok U=>
   cases U with
   |next=>exact False.elim h
   |brk=>exact False.elim h
   |cont=>exact False.elim h
   |ret u=>
    obtain⟨v,H',os,bare,un,R,O,q⟩:=h;have Q:v=.bl true:=q;subst Q;obtain rfl:u=Value.bool true:=O;refine⟨rfl,OldK.of_keep λb o e=>?_,os,bare⟩;cases q:H b with
    |none=>exact un.keep b o e q (by intro z;exact absurd (show b∈([]:List Addr)from z) (by simp)) (by simp)
    |some u=>
     rcases G b with z|⟨ob,xs,z⟩
     .rw[q]at z;cases z
     .have L:=un.HP b ob _ z;obtain⟨J,_⟩:=AO b _ z;obtain⟨W,_⟩:=R b _ L;rw[e]at J;cases J;exact W
 cases t:K.lookup a with
 |some o=>
  -- HN iP is one of HN ZJ6 own objects
  have e:=KX a o t;rw[j]at e;cases e;refine g (λ_=>none) (λ_=>.inl rfl) (.inr ⟨_,vs.toArray,_,t,rfl,rfl,rfl,by rw[Bt,B];exact hl,by simpa using C⟩) (λb u z=>by have i:(none:Option HO)=some u:=z;cases i) (λb z=>absurd rfl z) λz=>absurd rfl z
 |none=>
  refine g (λb=>if b=a then some (.C0 { cls:=.type "list", data:=.seq vs.toArray } (.lst (ns.map V.int)))else none) (λb=>?_) (.inl (.inr ⟨{ cls:=.type "list", data:=.seq vs.toArray },sZ rfl⟩)) (λb u z=>?_) (λb z=>?_) λ_=>t
  .by_cases f:b=a
   .exact .inr ⟨_,_,sZ f⟩
   .exact .inl (sN f)
  .by_cases f:b=a
   .have i:=(sZ f).symm.trans z;cases i;subst f;exact⟨j,by rw[AU];exact hl,vs,_,C,j⟩
   .have i:=(sN f).symm.trans z;cases i
  .by_cases f:b=a
   .exact f
   .exact absurd (sN f) z
theorem ZAh{l:PySem.W.OpenLaw}{n k:Nat}{q:Program}{XP:(ZJT)->Heap->Prop}{YP:World->Heap->Prop}{d:DefRec}{K:Params->ZJR}{CX:World->Ge}{sp:World->Sp}
  (hn:l.most=some n) (RZ:n<=sizeLine) (PJ:d.params.defaults=[]) (r:BW k callerA)
  (y:∀(w:World)(h:Heap),YP w h->(K w.params).In h)
  (F:∀(w:World)(mg:ZJT)(j:Addr)(h:Heap),(K w.params).In h->h.Ns mainGlobals mg->mg d.name=some (.ref j)->
   ∃fd:FuncData,(∀(s:Shared)(u:Value),BindsTo s fd ⟨[u],[]⟩ [(x,u)])/\
    ∀Zv:Heap,(K w.params).In Zv->Zv.Ns mainGlobals mg->DB l.prog w (K w.params) mg Zv (CX w) k j fd [x] (sp w))
  (GB:∀(w:World)(H:Hp)(a:Addr)(ns:List Int),ns.length<=n->Vy H->AK (K w.params) H a (ns.map V.int)->sp w [.ref a] H (λv _=>v=.bl true) λ_ _ _=>False)
  (W4:∀(w:World)(H:Hp)(s:Shared)(e:Value)(s':Shared),CX w [] H s (λ_ _ _=>False) e s'->False) :
  PySem.W.WalkO q loose XP YP l.row.toRowW d [] (λf vs=>PySem.call f vs):=by
 refine dF.ZCt hn PJ λw s₀ p mg D j o C cd B a vs ns G Y ho hd HE Pr YY i c hg=>?_;have m:=y w _ Y;obtain⟨fd,t,hF⟩:=F w mg j _ m G.T.g Pr;exact pP m G.T.g G.T.b G.T.builtins G.T.nolimit hg YY i (Cc c RZ) r hF t (λH A z=>GB w H a ns c A z) λH e s'=>W4 w H p e s'
noncomputable def LJ(s:Stmt):Arguments:=match s with
 | .FunctionDef _ a _ _ _ _ _ _ _ _=>a
 |_=>{ posonlyargs:=[],args:=[],vararg:=none,kwonlyargs:=[],kw_defaults:=[],kwarg:=none,defaults:=[] }
noncomputable def GF(s:Stmt):List Stmt:=match s with
 | .FunctionDef _ _ b _ _ _ _ _ _ _=>b
 |_=>[]
noncomputable def AM(s:Stmt):Scope:=match s with
 | .FunctionDef _ _ _ _ _ _ sc _ _ _=>sc
 |_=>{ kind:=.function,names:=[],isGenerator:=false,isCoroutine:=false }
abbrev E2:Ge:=λ_ _ _ _ _ _=>False
abbrev E0:XK:=λ_ _ _=>False
theorem RH:Passes E2 X E0:=λ_ _ _ _ _ _ _ h=>h.elim
structure AF (K:ZJR) (x qual:Str) (st:Stmt) (f:Addr) (fd:FuncData):Prop where
 ex:∃(oc:Value)(od:Option Addr)(kV doc pm:Value)(an:Option Addr)(AY ct:Value)(HK:Array (Option Value)),
  fd=PySem.W.fnOf x qual (LJ st) (GF st) (AM st) .none kV doc pm an AY ct/\K.lookup f=some ⟨oc,od,.func fd,HK⟩/\PySem.W.codeIn K AY qual=true
 kp:PySem.W.keepIn K (.ref f)=true
section
variable{P:Program}{K:ZJR}{Zv:Heap}
theorem AF.ok{st:Stmt}{N:List Str}{k:Nat}(F:AF K x qual st f fd)(S:Ae N ps (AM st))(len:∀vs H Q E,sp vs H Q E->vs.length=ps.length)
  (PL:∀(AY:Value)(A:Around)(outer:List Env)(s:Shared)(H:Hp)(vs:List V)(Q:VK)(E:XK),BW k (A.deeper (envOfC qual (AM st) s.heap.objs.size f AY))->sp vs H Q E->
   ∃t,EU (HU E2 P w K mg Zv N qual (AM st) f AY A outer s H E).Ie (GF st) t/\t { nx:=λ_ H'=>Q .AB H',rt:=Q } (start N vs) H):DB P w K mg Zv E2 (k+1) f fd ps sp:=by
 obtain⟨g,e,kV,c,d,i,AY,ct,HK,rfl,a,HE⟩:=F.ex;refine ZEA a HE S len λA outer s H vs Q E b GB=>?_;obtain⟨t,h,q⟩:=PL AY A outer s H vs Q E b GB;exact⟨t,h.Ie,q⟩
theorem AF.binds{st:Stmt}(F:AF K x qual st f fd)
  (h:∀(kV a b:Value)(c:Option Addr)(AY ct:Value)(us:List Value),us.length=ps.length->bindArgs (PySem.W.fnOf x qual (LJ st) (GF st) (AM st) .none kV a b c AY ct) ⟨us,[]⟩=pure (ps.zip us)):Binds K fd ps []:=by
 obtain⟨e,d,kV,a,b,c,AY,ct,HK,rfl,g,HE⟩:=F.ex;exact .all (h kV a b c AY ct)
theorem ud{st:Stmt}{g:Value}{e d:Option Addr}{HK:Array (Option Value)}{kV a b AY ct:Value}(l:K.lookup f=some ⟨g,e,.func (PySem.W.fnOf x qual (LJ st) (GF st) (AM st) .none kV a b d AY ct),HK⟩)
  (c:PySem.W.codeIn K AY qual=true) (k:PySem.W.keepIn K (.ref f)=true):AF K x qual st f (PySem.W.fnOf x qual (LJ st) (GF st) (AM st) .none kV a b d AY ct):=⟨⟨g,e,kV,a,b,d,AY,ct,HK,rfl,l,c⟩,k⟩
end
theorem Bj{A:Around}{k:Nat}(a:BW k A):A.units+1<cLine:=IW (Nat.add_le_add_left (by decide:1<=64) _) a.units
theorem Dh(h:B):if false=true then A else B:=by
 rw[sN DO];exact h
theorem L8(h:A):if true=true then A else B:=by
 rw[sZ rfl];exact h
theorem BA[Decidable c](h1:c->A)(h2:¬ c->B):if c then A else B:=by
 by_cases h:c
 .rw[sZ h];exact h1 h
 .rw[sN h];exact h2 h
theorem RG[Decidable c](a:c)(h:B):if(!decide c)=true then A else B:=by
 rw[rg a];exact Dh h
def A8(H H':Hp):Prop:=∀b o,H b=some o->H' b=some o
theorem A8.refl(H:Hp):A8 H H:=λ_ _ h=>h
theorem A8.trans{H H1 H2:Hp}(a:A8 H H1)(b:A8 H1 H2):A8 H H2:=λc o h=>b c o (a c o h)
theorem A8.seq{K:ZJR}{H H':Hp}{xs:List V}(e:A8 H H')(h:AK K H a xs):AK K H' a xs:=by
 rcases h with(h|⟨o,h⟩)|h
 .exact .inl (.inl (e _ _ h))
 .exact .inl (.inr ⟨o,e _ _ h⟩)
 .exact .inr h
end L2
set_option maxHeartbeats 4000000
namespace L2
variable{α κ:Type}{A6:List (List Key×V)}{o:Option V}{u v:Value}{y:V}{w:World}{H H' H1 H2 H4:Hp}{xs:List (List Key×Addr×Value)}{C a acc b it n:Addr}{X Y:Cx}{Zo:ZJS}{ws Z:St}{s s2 s4:Shared}{A:Around}{E Q:Value->Shared->Prop}{h' h1:Heap}{i j n0 t':Nat}{prog:Program}{env:Env}{c e elt tg value:Expr}{JZ pos px py:Pos}{td te tv:TE}{outer scope:Scope}{cl closure:List (Str×Addr)}{qual x z:Str}{ce:Option Str}{ifs:List Expr}{R:Result->Shared->Prop}{js:List Nat}{tt:TT}{J:It}{tn:Nat->Heap->Prop}{wi:TI}{CW:It->St->Hp->Addr->VK->Prop}{N:List Str}{tp:Bool}{ys:List V}{A4:List Value}
section
variable[DecidableEq κ]
noncomputable def ET(A6:List (κ×V))(k:κ):Option V:=(A6.find? λa=>decide (a.1=k)).map (·.2)
def putK(A6:List (κ×V))(k:κ)(v:V):List (κ×V):=
 if(A6.any λa=>decide (a.1=k))=true then A6.map (λa=>if a.1=k then(a.1,v)else a)else A6++[(k,v)]
theorem Od{p:κ×V}{r:List (κ×V)}{k:κ}(e:p.1=k):ET (p::r) k=some p.2:=by simp[ET,QY,e]
theorem Nz{p:κ×V}{r:List (κ×V)}{k:κ}(e:¬ p.1=k):ET (p::r) k=ET r k:=by simp[ET,QY,e]
theorem SO(k:κ):∀A6:List (κ×V),(A6.any λa=>decide (a.1=k))=(ET A6 k).isSome
 | []=>rfl
 |p::r=>by
  rw[NZ]
  by_cases e:p.1=k
  .simp only[Od e,rg e,Bool.true_or,ZIZ]
  .rw[Nz e,uz e,Bool.false_or];exact SO k r
theorem W7(A6:List (κ×V))(k:κ)(v:V):(putK A6 k v).length<=A6.length+1:=by
 unfold putK;split
 .rw[AU];omega
 .rw[B2,BK,U7];omega
theorem Rv{A6:List (κ×V)}{k:κ}(v:V)(h:ET A6 k=none):putK A6 k v=A6++[(k,v)]:=by
 unfold putK;rw[SO,h];exact sN (by decide)
theorem Er.P7{u:Option Value}(r:Er o u):o.isSome=u.isSome:=by
 cases o with
 |none=>cases u with
  |none=>rfl
  |some _=>exact(show False from r).elim
 |some _=>cases u with
  |none=>exact(show False from r).elim
  |some _=>rfl
theorem KV.val{A6:List (κ×V)}{vs:List (κ×Value)}(r:KV A6 vs)(k:κ):Er (ET A6 k) (valueAt vs k):=by
 unfold KV at r
 induction r with
 |nil=>exact True.intro
 |@cons p q ps a h t d=>
  obtain⟨h1,h2⟩:=h
  by_cases e:p.1=k
  .have c:q.1=k:=h1.symm.trans e;have b:valueAt (q::a) k=some q.2:=by simp[valueAt,QY,c]
   rw[Od e,b];exact h2
  .have c:¬ q.1=k:=λz=>e (h1.trans z);have b:valueAt (q::a) k=valueAt a k:=by simp[valueAt,QY,c]
   rw[Nz e,b];exact d
theorem KV.any{A6:List (κ×V)}{vs:List (κ×Value)}(r:KV A6 vs)(k:κ):(A6.any λa=>decide (a.1=k))=vs.any λa=>decide (a.1=k):=by
 unfold KV at r
 induction r with
 |nil=>rfl
 |cons h t b=>rw[NZ,NZ,b,h.1]
theorem KV.Zc{A6:List (κ×V)}{vs:List (κ×Value)}(r:KV A6 vs)(k:κ)(b:RelV y u):
  KV (A6.map λa=>if a.1=k then(a.1,y)else a) (vs.map λa=>if a.1=k then(a.1,u)else a):=by
 unfold KV at r ⊢
 induction r with
 |nil=>exact .nil
 |@cons p q ps d h t c=>
  rw[Bs,Bs];refine .cons ?_ c;obtain⟨h1,h2⟩:=h
  by_cases e:p.1=k
  .rw[sZ e,sZ (h1.symm.trans e)];exact⟨h1,b⟩
  .rw[sN e,sN (λz=>e (h1.trans z))];exact⟨h1,h2⟩
theorem KV.put{A6:List (κ×V)}{vs:List (κ×Value)}(r:KV A6 vs)(k:κ)(a:RelV y u):KV (putK A6 k y) (stored vs k u):=by
 unfold putK stored;rw[r.any k]
 by_cases e:(vs.any λb=>decide (b.1=k))=true
 .rw[sZ e,sZ e];exact r.Zc k a
 .rw[sN e,sN e];exact Paired.snoc r ⟨rfl,a⟩
theorem KV.keys{A6:List (κ×V)}{vs:List (κ×Value)}(r:KV A6 vs):A6.map (·.1)=vs.map (·.1):=by
 unfold KV at r
 induction r with
 |nil=>rfl
 |cons h t a=>rw[Bs,Bs,a,h.1]
theorem KV.length{A6:List (κ×V)}{vs:List (κ×Value)}(r:KV A6 vs):A6.length=vs.length:=bA r
end
theorem MU{P:Program}{k:Key}(r:RelV (kV k) u):(C3 P w).is k u=true:=by
 cases k with
 |inl i=>obtain⟨t,e⟩:=(show ∃t,u=Value.int i t from r);subst e;exact ZHH P w i t
 |inr x=>obtain⟨t,e⟩:=(show ∃t,u=Value.str x t from r);subst e;exact ZEC P w x t
theorem cG{P:Program}{w:World}:∀{ks:List Key}{us:List Value},Vals (ks.map kV) us->ItemsAre (C3 P w) ks us
 | [],_,r=>by rw[ay]at r;cases r;exact .nil
 |k::ks,_,r=>by
  rw[Bs]at r;cases r with
  |cons h t=>exact .cons (MU h) (cG t)
abbrev KT(H:Hp):List (List Key×V)->List (List Key×Addr×Value)->Prop:=Paired λp q=>p.1=q.1/\H q.2.1=some (.tup (p.1.map kV))/\RelV p.2 q.2.2
theorem KT.val(r:KT H A6 xs)(k:List Key):Er (ET A6 k) ((atKey xs k).map (·.2)):=by
 induction r with
 |nil=>exact True.intro
 |@cons p q ps a h t d=>
  obtain⟨h1,_,h2⟩:=h
  by_cases e:p.1=k
  .have c:q.1=k:=h1.symm.trans e;have b:atKey (q::a) k=some q.2:=by simp[atKey,QY,c]
   rw[Od e,b];exact h2
  .have c:¬ q.1=k:=λz=>e (h1.trans z);have b:atKey (q::a) k=atKey a k:=by simp[atKey,QY,c]
   rw[Nz e,b];exact d
theorem KT.Zc(r:KT H A6 xs)(k:List Key)(b:RelV y u):
  KT H (A6.map λa=>if a.1=k then(a.1,y)else a) (xs.map (putAt k u)):=by
 induction r with
 |nil=>exact .nil
 |@cons p q ps f h t c=>
  rw[Bs,Bs];refine .cons ?_ c;obtain⟨h1,h2,d⟩:=h;unfold putAt
  by_cases e:p.1=k
  .rw[sZ e,sZ (h1.symm.trans e)];exact⟨h1,h2,b⟩
  .rw[sN e,sN (λz=>e (h1.trans z))];exact⟨h1,h2,d⟩
theorem KT.put(r:KT H A6 xs)(k:List Key)(d:H b=some (.tup (k.map kV)))(a:RelV y u):
  KT H (putK A6 k y) (storedH xs k b u):=by
 have e:(A6.any λc=>decide (c.1=k))=(atKey xs k).isSome:=by
  rw[SO,(r.val k).P7,b9]
 unfold putK storedH;rw[e]
 by_cases q:(atKey xs k).isSome=true
 .rw[sZ q,sZ q];exact r.Zc k a
 .rw[sN q,sN q];exact Paired.snoc r ⟨rfl,d,a⟩
theorem KT.keeps(r:KT H A6 xs)(a:∀b ys,H b=some (.tup ys)->H' b=some (.tup ys)):KT H' A6 xs:=
 Paired.YR r λ_ _ z=>⟨z.1,a _ _ z.2.1,z.2.2⟩
section
variable{P:Program}{h:Heap}
theorem ml{u:HO}(ok:CF P w H h)(e:Rd H a u):C7 P w H h a u:=e.ok ok
theorem HS{A6:List (Key×V)}(ok:CF P w H h)(e:Rd H a (.dK A6)):A6.length<=sizeLine/\(a == sysModules)=false/\∃vs,KV A6 vs/\h.DictOf (C3 P w) a vs:=
 show C7 P w H h a (.dK A6)from ml ok e
theorem iM{A6:List (Key×V)}(ok:CF P w H h)(e:H a=some (.dK A6)):A6.length<=sizeLine/\(a == sysModules)=false/\∃vs,KV A6 vs/\h.DictOf (C3 P w) a vs:=HS ok (.inl e)
theorem QN{ks:List Key}(ok:CF P w H h)(e:H a=some (.tup (ks.map kV))):(tupleKind (C3 P w)).is h ks a:=by
 obtain⟨_,A4,r,⟨o,h1,h2,n,b⟩,_⟩:=(show C7 P w H h a (.tup (ks.map kV))from ok a _ e);exact⟨o,A4.toArray,n,h1,h2,b,by simpa using cG r⟩
theorem PF(ok:CF P w H h)(e:Rd H a (.dT A6)):A6.length<=sizeLine/\(a == sysModules)=false/\
  ∃xs,KT H A6 xs/\h.DictOfH (tupleKind (C3 P w)) a xs:=by
 obtain⟨z,y,xs,r,o,es,ep,h1,h2,g,f,d⟩:=(show C7 P w H h a (.dT A6)from ml ok e);refine⟨z,y,xs,r,o,es,ep,h1,h2,g,f,λx hx=>?_,d⟩;have all:∀{l:List (List Key×V)}{m:List (List Key×Addr×Value)},KT H l m->∀x∈m,(tupleKind (C3 P w)).is h x.1 x.2.1:=by
  intro l m q
  induction q with
  |nil=>intro x hx;exact nomatch hx
  |@cons p q ps i b t c=>
   intro x hx;rcases List.mem_cons.mp hx with e|hx
   .subst e;exact QN ok (by rw[<- b.1];exact b.2.1)
   .exact c x hx
 exact all r x hx
theorem vA(ok:CF P w H h)(e:H a=some (.dT A6)):A6.length<=sizeLine/\(a == sysModules)=false/\
  ∃xs,KT H A6 xs/\h.DictOfH (tupleKind (C3 P w)) a xs:=PF ok (.inl e)
end
def GL(H:Hp)(a:Addr)(y:V)(r:Option V):Prop:=
 (∃A6 k,Rd H a (.dK A6)/\y=kV k/\r=ET A6 k)∨∃A6 k b,Rd H a (.dT A6)/\y=.ref b/\H b=some (.tup (k.map kV))/\r=ET A6 k
def PQ(H:Hp)(a:Addr)(y v:V)(H':Hp):Prop:=
 (∃A6 k,H a=some (.dK A6)/\y=kV k/\A6.length<sizeLine/\H'=upd H a (.dK (putK A6 k v)))∨
 ∃A6 k b,H a=some (.dT A6)/\y=.ref b/\H b=some (.tup (k.map kV))/\A6.length<sizeLine/\H'=upd H a (.dT (putK A6 k v))
theorem GL.k{A6:List (Key×V)}{k:Key}(e:H a=some (.dK A6)):GL H a (kV k) (ET A6 k):=.inl ⟨A6,k,.inl e,rfl,rfl⟩
theorem PQ.k{A6:List (Key×V)}{k:Key}{v:V}(e:H a=some (.dK A6))(b:A6.length<sizeLine):PQ H a (kV k) v (upd H a (.dK (putK A6 k v))):=.inl ⟨A6,k,e,rfl,b,rfl⟩
section
variable{v:V}{r:Value}
theorem Inv.big(I:Inv X Zo Z H s):sysModules<s.heap.objs.size:=by
 have h:mainGlobals<s.heap.objs.size:=(I.mod.glob.keeps I.bk).lt;exact Nat.lt_trans (by decide) h
theorem ZH1(hu:A.units+1<cLine)(I:Inv X Zo Z H s)(g:GL H a y (some v))(f:RelV y u)(h:∀c s',Inv X Zo Z H s'->RelV v c->Q c s'):
  wpAny (model X.prog X.w) A (getItem (.ref a) u) Q E s:=by
 rcases g with⟨A6,k,e,d,l⟩|⟨A6,k,b,e,d,i,l⟩
 .subst d;obtain⟨z,hd,vs,rel,dd⟩:=HS I.AO e;obtain⟨c,hw,Ig⟩:=Er.some_of (v:=v) (o:=valueAt vs k) (by rw[l];exact rel.val k);exact wpAny_getItem_of (MU f) dd.mapOf hw (h c _ (I.tok _) Ig)
 .subst d;cases(show u=Value.ref b from f);obtain⟨z,hd,xs,rel,dd⟩:=PF I.AO e;obtain⟨c,hw,Ig⟩:=Er.some_of (v:=v) (o:=(atKey xs k).map (·.2)) (by rw[l];exact rel.val k)
  obtain⟨p,hp,LC⟩:=Option.map_eq_some_iff.mp hw;refine wpAny_getItem_heap (ZAn hu) (QN I.AO i) dd hp ?_;rw[LC];exact h c _ (I.tok _) Ig
theorem oy(hu:A.units+1<cLine)(I:Inv X Zo Z H s)(g:GL H a y o)(d:RelV y u)(h:∀s',Inv X Zo Z H s'->Q (.bool o.isSome) s'):
  wpAny (model X.prog X.w) A (compareOp .In u (.ref a)) Q E s:=by
 rcases g with⟨A6,k,e,c,l⟩|⟨A6,k,b,e,c,f,l⟩
 .subst c;obtain⟨z,hd,vs,rel,dd⟩:=HS I.AO e;refine wpAny_in_of (MU d) hd dd.mapOf ?_;rw[<- (rel.val k).P7,<- l];exact h _ (I.tok _)
 .subst c;cases(show u=Value.ref b from d);obtain⟨z,hd,xs,rel,dd⟩:=PF I.AO e;refine wpAny_in_heap (ZAn hu) (QN I.AO f) hd dd ?_;have q:=(rel.val k).P7;rw[b9]at q;rw[<- q,<- l];exact h _ (I.tok _)
theorem qt(hu:A.units+1<cLine)(I:Inv X Zo Z H s)(g:GL H a y o)(d:RelV y u)(h:∀s',Inv X Zo Z H s'->Q (.bool (!o.isSome)) s'):
  wpAny (model X.prog X.w) A (compareOp .NotIn u (.ref a)) Q E s:=by
 rcases g with⟨A6,k,e,c,l⟩|⟨A6,k,b,e,c,f,l⟩
 .subst c;obtain⟨z,hd,vs,rel,dd⟩:=HS I.AO e;refine wpAny_notIn_of (MU d) hd dd.mapOf ?_;rw[<- (rel.val k).P7,<- l];exact h _ (I.tok _)
 .subst c;cases(show u=Value.ref b from d);obtain⟨z,hd,xs,rel,dd⟩:=PF I.AO e;refine wpAny_notIn_heap (ZAn hu) (QN I.AO f) hd dd ?_;have q:=(rel.val k).P7;rw[b9]at q;rw[<- q,<- l];exact h _ (I.tok _)
theorem Um{ob:HO}(I:Inv X Zo Z H s)(c:Pl (H a))(hs:Heap.SameBut a s.heap h')(d:∃q,h'.get? a=some q)(new:C7 X.prog X.w (upd H a ob) h' a ob):
  Inv X Zo Z (upd H a ob) { s with heap:=h',toks:=t' }:=
 I.write (x:=a) (e:=a) c (.inl rfl) (λb q f z=>(hs.2 b f).trans z) d new
theorem bM{P:Program}{A6:List (Key×V)}{vs:List (Key×Value)}(z:A6.length<=sizeLine)(hd:(a == sysModules)=false)(rel:KV A6 vs)(dd:h'.DictOf (C3 P w) a vs):
  C7 P w H' h' a (.dK A6):=⟨z,hd,vs,rel,dd⟩
theorem ZDL{Q:Unit->Shared->Prop}(hu:A.units+1<cLine)(I:Inv X Zo Z H s)(g:PQ H a y v H')(n:RelV y u)(o:RelV v r)(h:∀s',Inv X Zo Z H' s'->Q () s'):
  wpAny (model X.prog X.w) A (setItem (.ref a) u r) Q E s:=by
 rcases g with⟨A6,k,e,j,l,m⟩|⟨A6,k,b,e,j,t,l,m⟩
 .subst j m;obtain⟨z,hd,vs,rel,dd⟩:=iM I.AO e;have f:vs.length<=sizeLine:=by rw[<- rel.length];exact z
  have i:(putK A6 k v).length<=sizeLine:=by have:=W7 A6 k v;omega
  refine wpAny_setItem_pairs (hsz:=f) (MU n) dd λh' Kn hs=>h _ ?_;have x:∃q,h'.get? a=some q:=let ⟨q,_,_,d,_⟩:=Kn;⟨q,d⟩;exact Um I (by rw[e];exact True.intro) hs x (bM i hd (rel.put k o) Kn)
 .subst j m;cases(show u=Value.ref b from n);obtain⟨z,hd,xs,rel,dd⟩:=vA I.AO e;have f:xs.length<=sizeLine:=by rw[<- bA rel];exact z
  have i:(putK A6 k v).length<=sizeLine:=by have:=W7 A6 k v;omega
  refine wpAny_setItem_heap (hsz:=f) (ZAn hu) (QN I.AO t) dd λh' Kn hs=>h _ ?_;obtain⟨q,es,ep,d,h2,D,C,_,B⟩:=Kn;refine Um I (by rw[e];exact True.intro) hs ⟨q,d⟩ ⟨i,hd,_,(rel.put k t o).keeps λc ys p=>?_,q,es,ep,d,h2,D,C,B⟩;rw[Af (ua p e (λz=>nomatch z))];exact p
variable{A6:List (Key×V)}{k:Key}
theorem vL(I:Inv X Zo Z H s)(e:Rd H a (.dK A6))(h:∀t s',Inv X Zo Z H s'->Q (.int A6.length t) s'):wpAny (model X.prog X.w) A (call (.builtin "len") [.ref a]) Q E s:=by
 obtain⟨z,hd,vs,rel,dd⟩:=HS I.AO e;refine call_len_dict hd dd (by rw[<- rel.length];rw[ZAu]at z;omega) ?_;rw[<- rel.length];exact h _ _ (I.tok _)
end
def Vt(i:Expr):Prop:=∀a b,subscripted i false a b=operate [a,b] (getItem a b)
theorem ZBM{a:Expr}{T id:String}
  (l:typeLookup (.type T) "__getitem__"=pure (some (.builtin id))) (hs:Vt a)
  (h:wpAny (model prog w) A (eval value env) (λo f=>wpAny (model prog w) A (eval a env) (λi c=>c.TypeIs o T/\wpAny (model prog w) A (getItem o i) Q E c) E f) E s) :
  wpAny (model prog w) A (eval (.Subscript value a pos) env) Q E s:=by
 refine Subscript_ (v7 h (λo f k=>v7 k (λi c d=>?_) λ_ _ x=>x) λ_ _ x=>x);obtain⟨g,d⟩:=d;unfold subscriptTail;refine pN ?_;rw[getitemInPython_of_ne g.not_modules];refine pN (ZAM g l ?_);have b:wpAny (model prog w) A (subscripted a false o i) (λr e=>wpAny (model prog w) A (letTemporaryGo value o r >>= λ_=>pure r) Q E e) E c:=by
  rw[hs o i];exact wpAny_operating (v7 d (λr e j=>pN (wpAny_letTemporaryGo (pq j))) λ_ _ x=>x)
 first
  |exact pq (pN b)
  |exact pN (pq (pN b))
  |exact pN b
theorem yX(I:Inv X Zo Z H s)(g:GL H a y o):s.TypeIs (.ref a) "dict" := by
 rcases g with⟨A6,k,e,_,_⟩|⟨A6,k,b,e,_,_,_⟩
 .obtain⟨_,_,vs,_,dd⟩:=HS I.AO e;exact dd.typeIs
 .obtain⟨_,_,xs,_,dd⟩:=PF I.AO e;exact dd.typeIs
def Jp(td ty:TE):TE:=λZ H Q=>td Z H λx H1=>ty Z H1 λy H2=>∃a v,x=.ref a/\GL H2 a y (some v)/\Q v H2
def Uk(ty td:TE):TE:=λZ H Q=>ty Z H λy H1=>td Z H1 λx H2=>∃a o,x=.ref a/\GL H2 a y o/\Q (.bl o.isSome) H2
def aD(ty td:TE):TE:=λZ H Q=>ty Z H λy H1=>td Z H1 λx H2=>∃a o,x=.ref a/\GL H2 a y o/\Q (.bl (!o.isSome)) H2
def aW(td ty tv:TE):TS:=λD Z H=>tv Z H λv H1=>td Z H1 λx H2=>ty Z H2 λy H3=>∃a H4,x=.ref a/\PQ H3 a y v H4/\D.nx Z H4
section
variable{o i:Expr}{pos' Xh:Pos}{ty:TE}
theorem ZCX(hu:X.A.units+1<cLine)(hi:PE X i ty)(ho:PE X o td):PC X .In i o (Uk ty td):=by
 intro Zo s Z H Q I h;refine hi.k I h λl s1 y H1 I1 b e=>ho.k I1 e λu s2 x H2 I2 c⟨a,f,ex,g,d⟩=>?_;subst ex;obtain rfl:u=Value.ref a:=c;exact oy hu I2 g b λj I3=>⟨.bl f.isSome,H2,I3,rfl,d⟩
theorem zZ(hu:X.A.units+1<cLine)(hi:PE X i ty)(ho:PE X o td):PC X .NotIn i o (aD ty td):=by
 intro Zo s Z H Q I h;refine hi.k I h λl s1 y H1 I1 b e=>ho.k I1 e λu s2 x H2 I2 c⟨a,f,ex,g,d⟩=>?_;subst ex;obtain rfl:u=Value.ref a:=c;exact qt hu I2 g b λj I3=>⟨.bl (!f.isSome),H2,I3,rfl,d⟩
end
theorem dH{P:Program}(h:Heap)(a:sysModules<h.objs.size):C7 P w H (h.push { cls:=.type "dict", data:=.dict #[] }) h.objs.size (.dK []):=
 ⟨CH _,beq_eq_false_iff_ne.mpr (BG (BP a)),[],.nil,Heap.DictOf.new h⟩
def T3:TE:=λ_ H Q=>∀p,H p=none->Q (.ref p) (upd H p (.dK []))
def Yx:List (TE×TE)->St->Hp->(List (V×V)->Hp->Prop)->Prop
 | [],_,H,Q=>Q [] H
 | (tk,tv)::r,Z,H,Q=>tk Z H λx H1=>tv Z H1 λy H2=>Yx r Z H2 λps H3=>Q ((x,y)::ps) H3
abbrev VV:List (V×V)->List (Value×Value)->Prop:=Paired λp q=>RelV p.1 q.1/\RelV p.2 q.2
def Jr(X:Cx)(pos:Pos)(keys:List (Option Expr))(values:List Expr)(FT:List (TE×TE)):Prop:=
 ∀(Zo:ZJS)(s:Shared)(Z:St)(H:Hp)(Q:List (V×V)->Hp->Prop),Inv X Zo Z H s->Yx FT Z H Q->
  wpAny (model X.prog X.w) X.A (evalPairs (pairTrees keys values X.env pos)) (λvs s'=>∃ps H',Inv X Zo Z H' s'/\VV ps vs/\Q ps H') X.xe s
theorem y9:Jr X pos [] [] []:=λZo s Z H Q I h=>pairTrees_nil_walk ⟨[],H,I,.nil,h⟩
theorem wF{k v:Expr}{ks:List (Option Expr)}{vs:List Expr}{tk:TE}{FT:List (TE×TE)}(i:PE X k tk)(f:PE X v tv)(g:Jr X pos ks vs FT):
  Jr X pos (some k::ks) (v::vs) ((tk,tv)::FT):=λZo s Z H Q I h=>
 pairTrees_cons_walk (i.k I h λu s1 x H1 I1 b e=>f.k I1 e λj s2 y H2 I2 a d=>
  B9 (g Zo s2 Z H2 _ I2 d) λws l⟨ps,H3,I3,rel,c⟩=>⟨(x,y)::ps,H3,I3,.cons ⟨b,a⟩ rel,c⟩)
def Jl(A6 more:List (Key×V)):List (Key×V):=more.foldl (λacc a=>putK acc a.1 a.2) A6
theorem KV.merge:∀{more:List (Key×V)}{rs:List (Key×Value)}{A6:List (Key×V)}{vs:List (Key×Value)},KV more rs->KV A6 vs->KV (Jl A6 more) (merged vs rs):=by
 intro more rs A6 vs r;unfold KV at r
 induction r generalizing A6 vs with
 |nil=>intro q;exact q
 |@cons p q ps c h t b=>
  intro a;have e:KV (putK A6 p.1 p.2) (stored vs q.1 q.2):=by
   have:=a.put p.1 h.2;rw[<- h.1];exact this
  exact b e
theorem ck:∀(more A6:List (Key×V)),(Jl A6 more).length<=A6.length+more.length
 | [],A6=>by show A6.length<=A6.length+0;omega
 |p::r,A6=>by
  have h1:=ck r (putK A6 p.1 p.2);have h2:=W7 A6 p.1 p.2;show(Jl (putK A6 p.1 p.2) r).length<=_;rw[BK];omega
theorem d9{P:Program}{w:World}:∀{A6:List (Key×V)}{ws:List (Value×Value)},VV (A6.map λd=>(kV d.1,d.2)) ws->∃rs,Carries (C3 P w) ws rs/\KV A6 rs
 | [],_,r=>by rw[ay]at r;cases r;exact⟨[],True.intro,.nil⟩
 |p::A6,_,r=>by
  rw[Bs]at r;cases r with
  |@cons a b as bs h t=>
   obtain⟨rs,c,q⟩:=d9 (P:=P) (w:=w) t;obtain⟨f,e⟩:=b;exact⟨(p.1,e)::rs,⟨MU h.1,rfl,c⟩,.cons ⟨rfl,h.2⟩ q⟩
def XN(FT:List (TE×TE)):TE:=λZ H Q=>∀p,H p=none->Yx FT Z (upd H p (.dK [])) λps H2=>H2 p=some (.dK [])/\∃A6:List (Key×V),ps=A6.map (λa=>(kV a.1,a.2))/\A6.length<=15/\Q (.ref p) (upd H2 p (.dK (Jl [] A6)))
theorem ZFs{β:Type}{l:List α}{f:α->β->Sem (ForInStep β)}(g:β->α->β)(h:∀x∈l,∀c,f x c=pure (.yield (g c x))):∀c,forIn l c f=pure (l.foldl g c):=by
 induction l with
 |nil=>intro c;rfl
 |cons x l a=>
  intro c;rw[List.forIn_cons,h x CV,pure_bind];exact a (λy b=>h y (Ck _ b)) (g c x)
noncomputable def L6(cells:List (Str×Addr))(cs:List (Str×Addr))(x:Str×NameKind):List (Str×Addr):=
 if x.2=.free then(x.1,(cells.lookup x.1).getD 0)::cs else cs
def Cd(cells:List (Str×Addr))(names:List (Str×NameKind)):List (Str×Addr):=names.foldl (L6 cells) []
theorem ZFM(h:∀x∈scope.names,x.2=.free->(env.cells.lookup x.1).isSome=true):closureFor scope env=pure (Cd env.cells scope.names):=by
 simp only[closureFor];rw[ZFs (L6 env.cells) (λx hx c=>by
  obtain⟨n,k⟩:=x;unfold L6
  by_cases b:k=NameKind.free
  .subst b;have q:=h _ hx rfl;obtain⟨a,f⟩:=Option.isSome_iff_exists.mp q;have d:env.cells.lookup n=some a:=f;have e:cellOf env n=pure a:=by unfold cellOf;rw[d]
   simp[e,d]
  .have:(k == NameKind.free)=false:=by simpa using b
   simp[this,b])]
 rfl
theorem nL{cells:List (Str×Addr)}:∀(names:List (Str×NameKind))(acc:List (Str×Addr)),(∀y∈names,y.2=.free->(cells.lookup y.1).isSome=true)->
  (∀x c,acc.lookup x=some c->cells.lookup x=some c)->∀x c,(names.foldl (L6 cells) acc).lookup x=some c->cells.lookup x=some c
 | [],acc,_,ha,x,c,e=>ha x c e
 | (n,k)::r,acc,hs,ha,x,c,e=>by
  rw[aq]at e;refine nL r _ (λy f=>hs y (Ck _ f)) (λx c e=>?_) x c e;unfold L6 at e
  by_cases b:k=NameKind.free
  .rw[sZ b]at e;have q:=hs _ CV b;obtain⟨a,q⟩:=Option.isSome_iff_exists.mp q;have d:cells.lookup n=some a:=q;rw[Hh]at e
   by_cases hx:x=n
   .subst hx;simp only[vX,d,ZIY]at e;rw[d,<- e]
   .have g:(x == n)=false:=by simpa using hx
    rw[g]at e;exact ha x c e
  .rw[sN b]at e;exact ha x c e
theorem YW{cells:List (Str×Addr)}{x:Str}:∀(names:List (Str×NameKind))(acc:List (Str×Addr)),((acc.lookup x).isSome=true∨(x,NameKind.free)∈names)->
  ((names.foldl (L6 cells) acc).lookup x).isSome=true
 | [],acc,h=>by
  rcases h with h|h
  .exact h
  .cases h
 | (n,k)::r,acc,h=>by
  rw[aq];refine YW r _ ?_;unfold L6;rcases h with h|h
  .refine .inl ?_;split
   .rw[Hh];split
    .rfl
    .exact h
   .exact h
  .rcases List.mem_cons.mp h with e|h
   .cases e;refine .inl ?_;rw[sZ rfl,Hh];simp
   .exact .inr h
theorem Su{env:Env}:∀(names:List (Str×NameKind))(x:Str),
  (names.map λ(n,k)=>if(k == NameKind.free && env.scope.kind == .function && env.kindOf n == some .cell)then(n,NameKind.cell)else(n,k)).lookup x =
   (names.lookup x).map λk=>if(k == NameKind.free && env.scope.kind == .function && env.kindOf x == some .cell)then NameKind.cell else k
 | [],x=>rfl
 | (n,k)::r,x=>by
  have c:=Su (env:=env) r x;rw[Bs]
  by_cases a:(k == NameKind.free && env.scope.kind == .function && env.kindOf n == some .cell)=true
  .show List.lookup x ((if(k == NameKind.free && env.scope.kind == .function && env.kindOf n == some .cell)=true then(n,NameKind.cell)else(n,k))::_)=_
   rw[sZ a,Hh,Hh]
   by_cases hx:x=n
   .subst hx;simp only[vX,UE];rw[sZ a]
   .have b:(x == n)=false:=by simpa using hx
    rw[b];exact c
  .show List.lookup x ((if(k == NameKind.free && env.scope.kind == .function && env.kindOf n == some .cell)=true then(n,NameKind.cell)else(n,k))::_)=_
   rw[sN a,Hh,Hh]
   by_cases hx:x=n
   .subst hx;simp only[vX,UE];rw[sN a]
   .have b:(x == n)=false:=by simpa using hx
    rw[b];exact c
noncomputable abbrev Jd(X:Cx)(N:List Str)(scope:Scope)(cl:List (Str×Addr))(C:Addr)(s:Shared)(H:Hp)(fp:List Addr):Cx:=
 { X with N:=N,s₀:=s,H₀:=H,env:=compEnvC scope cl C X.env,outer:=X.stack,ex:=fp,fn:=λ_=>false,pn:=[],xe:=λ_ _=>False }
noncomputable def Bh(js:List Nat)(Z:St):St:=js.map λj=>(Z[j]?).join
structure Cr (N:List Str) (outer scope:Scope) (x:Str) (Ah:List Str) (js:List Nat):Prop where
 kind:scope.kind=.function
 Oy:∀y∈scope.names,y.2≠.cell
 loc:∀y∈scope.names,y.2=.local->scope.names.lookup y.1=some .local
 eP:scope.names.lookup x=some .local
 at':js.map (λj=>N[j]?)=Ah.map some
 cell:∀y∈Ah,outer.names.lookup y=some .cell
 free:∀y∈Ah,scope.names.lookup y=some .free
 all:∀y∈scope.names,y.2=.free->outer.names.lookup y.1=some .cell
 nd:(Ah++[x]).Nodup
def JH(X:Cx)(ifs:List Expr)(t:TT):Prop:=
 ∀(Zo:ZJS)(s:Shared)(Z:St)(H:Hp)(Q:Bool->Hp->Prop),Inv X Zo Z H s->t Z H Q->
  wpAny (model X.prog X.w) X.A (forIn ifs true λc r=>if r=true then do let ok <- isTrue c X.env (eval c X.env);pure (ForInStep.yield ok)else pure (ForInStep.yield r)) (TP X Zo Z Q) X.xe s
def Mg:TT:=λ_ H Q=>Q true H
theorem vz{t:TT}(a:PT X c t):JH X [c] t:=λZo s Z H Q I h=>by
 rw[List.forIn_cons];refine pN ?_;rw[sZ rfl];refine pN (B9 (a Zo s Z H Q I h) λb s1 q=>pq ?_);show wpAny _ _ (forIn [] b _) _ _ s1;rw[o3];exact pq q
def LR(J:It)(js:List Nat)(tt:TT)(te:TE)(Z:St)(H1:Hp)(acc:Addr)(Q:VK):Prop:=
 ∃W:Nat->Nat->Hp->Prop,(∃m,W 0 m (upd H1 acc (.lst [])))/\∀i m H2,W i m H2->
  (J.stop i H2/\Q (.ref acc) H2)∨(J.go i H2/\∀x H3,J.G4 i H2 x H3->tt (Bh js Z++[some x]) H3 λb H4=>
   if b=true then te (Bh js Z++[some x]) H4 λy H5=>∃ys,H5 acc=some (.lst ys)/\ys.length<sizeLine/\∃a,a < m/\W (i+1) a (upd H5 acc (.lst (ys++[y])))
   else ∃a,a < m/\W (i+1) a H4)
def IG(wi:TI)(js:List Nat)(tt:TT)(te:TE):TE:=λZ H Q=>wi Z H λJ H1=>∀acc,H1 acc=none->LR J js tt te Z H1 acc Q
theorem ZG4(l:List α)(a b:α):(l++[a]).set l.length b=l++[b]:=by
 induction l with
 |nil=>rfl
 |cons x l c=>simp[c]
noncomputable def IE:Option Str->Addr->List (Str×Addr)
 |none,_=>[]
 |some x,n=>[(x,n)]
noncomputable def RJ:Option Str->Heap->Heap
 |none,h=>h
 |some _,h=>h.push { cls:=.type "cell", data:=.cell none }
structure Gf (N:List Str) (outer scope:Scope) (ce:Option Str) (zs Ah:List Str) (js:List Nat):Prop where
 kind:scope.kind=.function
 loc:∀y∈scope.names,y.2=.local->scope.names.lookup y.1=some .local
 one:∀y∈scope.names,y.2=.cell->ce=some y.1
 sub:∀x,ce=some x->x∈zs
 cf:∀(n:Nat)(cl:List (Str×Addr)),cellsFrom n scope.names cl=IE ce n++cl
 pc:∀h:Heap,pushCells h scope.names=RJ ce h
 at':js.map (λj=>N[j]?)=Ah.map some
 cell:∀y∈Ah,outer.names.lookup y=some .cell∨outer.names.lookup y=some .free
 free:∀y∈Ah,scope.names.lookup y=some .free
 all:∀y∈scope.names,y.2=.free->outer.names.lookup y.1=some .cell∨outer.names.lookup y.1=some .free
 nd:(Ah++zs).Nodup
abbrev GV(X:Cx)(N:List Str)(scope:Scope)(ce:Option Str)(cl:List (Str×Addr))(C:Addr)(s:Shared)(H:Hp)(fp:List Addr):Cx:=
 { X with N:=N,s₀:=s,H₀:=H,env:=compEnvC scope (IE ce (C+1)++cl) C X.env,outer:=X.stack,ex:=fp,fn:=λy=>ce == some y,pn:=[],xe:=λ_ _=>False }
theorem wI{M:Model}{a:Addr}{b:Option Addr}{c:Value}{outer:Env}{Q:Env->Shared->Prop}
  (cf:∀(n:Nat)(cl:List (Str×Addr)),cellsFrom n scope.names cl=IE ce n++cl) (pc:∀h:Heap,pushCells h scope.names=RJ ce h)
  (d:Q (newEnv scope s.heap.objs.size a (IE ce (s.heap.objs.size+1)++closure) qual b c (some outer) builtinsNs) { s with heap:=RJ ce (s.heap.push { cls:=.type "dict", data:=.dict #[] }) }) :
  wpAny M A (newFunctionEnv scope a closure [] qual b c (some outer)) Q E s:=by
 simp only[newFunctionEnv,ZIZ,ZBT];refine pN (wpAny_alloc ?_);refine pN (wpAny_layCells _ (λname kind cells=>by cases e:kind == NameKind.cell <;> simp[e]) _ _ _ _ ?_)
 rw[cf,pc];rw[show({ s with heap:=s.heap.push { cls:=.type "dict", data:=.dict #[] } }:Shared).heap.objs.size=s.heap.objs.size+1 from Eh ..]
 refine pN ?_;rw[o3];exact pq (pq d)
theorem ZE5{y:Str}{c:Addr}(h:(IE ce n++cl).lookup y=some c):(ce=some y/\c=n)∨(ce≠some y/\cl.lookup y=some c):=by
 cases ce with
 |none=>exact .inr ⟨λz=>(by cases z),h⟩
 |some x=>
  have h:((x,n)::cl).lookup y=some c:=h;rw[Hh]at h
  by_cases e:y=x
  .subst e;simp only[vX]at h;exact .inl ⟨rfl,(BI h).symm⟩
  .have a:(y == x)=false:=by simpa using e
   rw[a]at h;exact .inr ⟨λz=>e (BI z).symm,h⟩
theorem gA{y:Str}(h:ce≠some y):(IE ce n++cl).lookup y=cl.lookup y:=by
 cases ce with
 |none=>rfl
 |some x=>
  show((x,n)::cl).lookup y=_;have a:(y == x)=false:=beq_eq_false_iff_ne.mpr λz=>h (by rw[z]);rw[Hh,a]
theorem ZCe:(IE (some x) n++cl).lookup x=some n:=by
 show((x,n)::cl).lookup x=_;rw[Hh,vX]
theorem ZAY{iter:Expr}{it acc:Value}(I:Nat->Shared->Prop)
  (turn:∀n s,I n s->wpAny (model prog w) A (pyNext it) (λr s1=>match r with
   |none=>R (.ok .next) s1
   |some v=>wpAny (model prog w) A (letOwnedTupleGo tg it v) (λ_ s2=>wpAny (model prog w) A (assign tg env v) (λ_ f=>
     wpAny (model prog w) A (forIn ifs true λc r=>if r=true then do let ok <- isTrue c env (eval c env);pure (ForInStep.yield ok)else pure (ForInStep.yield r)) (λok s4=>if ok=true then
      wpAny (model prog w) A (eval elt env) (λx d=>wpAny (model prog w) A (call (.builtin "list.append") [acc,x]) (λ_ b=>∃m,m<n/\I m b) (notedBy (model prog w) A env λe s'=>R (.error e) s') d) (notedBy (model prog w) A env λe s'=>R (.error e) s') s4
      else ∃m,m<n/\I m s4) (notedBy (model prog w) A env λe s'=>R (.error e) s') f)
     (notedBy (model prog w) A env λe s'=>R (.error e) s') s2) (notedBy (model prog w) A env λe s'=>R (.error e) s') s1) (notedBy (model prog w) A env λe s'=>R (.error e) s') s)
  (n:Nat) (h:I n s):codeAny (model prog w) A (.compLoop (.ListComp elt [⟨tg,iter,ifs,0⟩] scope pos) 0 it acc env) R s:=by
 refine codeAny_loop rfl I (λn s o=>(show wpAny _ A ((compTurn (.ListComp elt [⟨tg,iter,ifs,0⟩] scope pos) 0 it acc env).onRaise (λx=>do noteFrame x env;theTreesLotGoes x)) _ _ s from wpAny_noted ?_)) n h
 rw[compTurn_list];refine pN (wpAny_standAt (pN (v7 (turn n s o) (λr s1 g=>?_) λ_ _ z=>z)));cases r with
 |none=>exact pq g
 |some v=>
  refine pN (v7 g (λ_ s2 l=>pN (v7 l (λ_ f k=>pN (v7 k (λok s4 a=>?_) λ_ _ z=>z)) λ_ _ z=>z)) λ_ _ z=>z);cases ok with
  |false=>
   rw[sN (by decide)]at a;exact pN (pq (pq ⟨rfl,a⟩))
  |true=>
   rw[sZ rfl]at a;exact pN (pN (v7 a (λx d j=>pN (v7 j (λ_ b i=>pq (pq ⟨rfl,i⟩)) λ_ _ z=>z)) λ_ _ z=>z))
abbrev gz(tt:TT)(te:TE)(acc:Addr)(W:Nat->Nat->Hp->Prop)(i m:Nat)(Z:St)(H:Hp):Prop:=
 tt Z H λb H4=>if b=true then te Z H4 λy H5=>∃ys,H5 acc=some (.lst ys)/\ys.length<sizeLine/\∃m',m' < m/\W (i+1) m' (upd H5 acc (.lst (ys++[y])))
  else ∃m',m' < m/\W (i+1) m' H4
def Rt(g:TG)(n:Nat)(J:It)(js:List Nat)(tt:TT)(te:TE)(Z:St)(H1:Hp)(acc:Addr)(Q:VK):Prop:=
 ∃W:Nat->Nat->Hp->Prop,(∃m,W 0 m (upd H1 acc (.lst [])))/\∀i m H2,W i m H2->
  (J.stop i H2/\Q (.ref acc) H2)∨(J.go i H2/\∀x H3,J.G4 i H2 x H3->∀ws,ws.length=n->g x (Bh js Z++ws) H3 λσ8 H8=>∃us,us.length=n/\σ8=Bh js Z++us/\gz tt te acc W i m σ8 H8)
def lE(CW:It->St->Hp->Addr->VK->Prop)(wi:TI):TE:=λZ H Q=>wi Z H λJ H1=>∀acc,H1 acc=none->CW J Z H1 acc Q
section
variable{iter:Expr}{zs Ah:List Str}{fp:List Addr}{g:TG}
theorem uS(h:scope.names.lookup x=some .cell):(relabel scope env).names.lookup x=some .cell:=by
 refine(Su (env:=env) scope.names x).trans ?_;rw[h];simp
theorem v5{n:Nat}{v:V}(h:(List.replicate n (none:Option V))[i]?=some (some v)):False:=by
 rw[o5]at h
 by_cases c:i<n
 .rw[sZ c]at h;cases h
 .rw[sN c]at h;cases h
theorem tU(S:Gf X.N X.env.scope scope ce zs Ah js)(I3:Inv X Zo Z H2 s2)(G:∀b∈fp,Ed X Zo H2 b)(Q:∀b∈fp,b<s2.heap.objs.size)
  {m:ZJT}(NR:h1.Ns s2.heap.objs.size m) (A:∀b o,s2.heap.get? b=some o->h1.get? b=some o) (F:∀x,ce=some x->h1.IsCell (s2.heap.objs.size+1) none) :
  Inv (GV X (Ah++zs) scope ce (Cd X.env.cells scope.names) s2.heap.objs.size s2 H2 fp) [] (Bh js Z++List.replicate zs.length none) H2 { s2 with heap:=h1,toks:=t' }:=by
 have L:∀y∈scope.names,y.2=.free->(X.env.cells.lookup y.1).isSome=true:=λy g D=>by
  obtain⟨c,e⟩:=I3.ok.has y.1 (S.all y g D);rw[e];rfl
 have R:∀y c,(Cd X.env.cells scope.names).lookup y=some c->X.env.cells.lookup y=some c:=nL scope.names [] L (λ_ _ e=>by cases e);have O:∀y k,(relabel scope X.env).names.lookup y=some k->k=.cell∨k=.free->scope.names.lookup y=some .free∨ce=some y:=λy k e D=>by
  have t:=(Su (env:=X.env) scope.names y).symm.trans e;cases q:scope.names.lookup y with
  |none=>rw[q]at t;cases t
  |some k0=>
   rw[q]at t;cases k0 with
   |free=>exact .inl rfl
   |cell=>exact .inr (S.one _ (ME q) rfl)
   |_=>simp at t;rcases D with rfl|rfl <;> cases t
 have n:js.length=Ah.length:=by have:=wu List.length S.at';simpa using this
 have M:∀y c,X.env.cells.lookup y=some c->c<s2.heap.objs.size:=λy c e=>by
  obtain⟨v,o,ho,_⟩:=I3.cell y c e;exact BE ho
 have f:∀c v,s2.heap.IsCell c v->h1.IsCell c v:=λc v AV=>by obtain⟨o,ho,hd⟩:=AV;exact⟨o,A c o ho,hd⟩
 have B:∀y c,(IE ce (s2.heap.objs.size+1)++Cd X.env.cells scope.names).lookup y=some c->(ce=some y/\c=s2.heap.objs.size+1)∨(ce≠some y/\X.env.cells.lookup y=some c):=λy c e=>(ZE5 e).imp id λz=>⟨z.1,R y c z.2⟩;have T:∀y∈Ah,ce≠some y:=λy g z=>(List.nodup_append.mp S.nd).2.2 y g y (S.sub y z) rfl;refine⟨⟨I3.ok.mod,S.kind,I3.ok.glob,I3.ok.blt,Ag _,λy z c K E=>?_,λy g=>?_,λy c J e=>?_,I3.ok.hd,I3.ok.frames,.inl rfl,λb s=>⟨BP (Q b s),λy c e=>?_⟩,
  λb o e=>I3.bs b o e,Cc I3.ok.J6 I3.sz,λb o e s=>?_,λb s hs=>?_,I3.stack,I3.gK⟩,rfl,I3.bare,Un.kept A,⟨m,NR,λi y v K E σ=>?_⟩,λy c e=>?_,I3.AO.fresh (Ag _),λy c e=>?_,λp hp=>(by cases hp),I3.AO.kept A,?_⟩
 .rcases B y c K with⟨a1,rfl⟩|⟨_,DH⟩
  .rcases B z _ E with⟨a2,_⟩|⟨_,Ec⟩
   .exact BI (a1.symm.trans a2)
   .exact absurd (M z _ Ec) (ZIW (GS _))
  .rcases B z c E with⟨_,rfl⟩|⟨_,Ec⟩
   .exact absurd (M y _ DH) (ZIW (GS _))
   .exact I3.ok.inj y z c DH Ec
 .have J:scope.names.lookup y=some .free∨ce=some y:=g.elim (λg=>O y _ g (.inl rfl)) λg=>O y _ g (.inr rfl);show ∃c,List.lookup y (IE ce (s2.heap.objs.size+1)++Cd X.env.cells scope.names)=some c
  by_cases ex:ce=some y
  .rw[ex];exact⟨_,ZCe⟩
  .rw[gA ex];exact Option.isSome_iff_exists.mp (YW scope.names [] (.inr (ME (J.resolve_right ex))))
 .rcases B y c e with⟨_,rfl⟩|⟨n1,_⟩
  .exact GS _
  .exact absurd (eq_of_beq J) n1
 .rcases B y c e with⟨_,rfl⟩|⟨_,DH⟩
  .exact M8 (IX (Q b s))
  .exact(G b s).2.2.2.2.1 y c DH
 .rcases(G b s).2.2.2.1 with z|z
  .exact I3.ok.Of b o e z
  .exact absurd (De (De (BE e) I3.ok.J6) z) (M6 _)
 .rcases List.mem_cons.mp (I3.aR b hs)with z|z
  .exact(G b s).2.1 z
  .exact(G b s).2.2.1 z
 .have F:(Bh js Z).length=Ah.length:=by unfold Bh;rw[AU,n]
  have hi:i<Ah.length:=by
   by_cases hi:i<Ah.length
   .exact hi
   .have d:(Bh js Z++List.replicate zs.length none)[i]?=some (some v):=E;rw[FD (by rw[F];omega),F]at d;exact(v5 d).elim
  have H:Ah[i]?=some y:=by
   have H:(Ah++zs)[i]?=some y:=K
   rwa [Dd hi]at H
  have d:(Bh js Z)[i]?=some (some v):=by
   have d:(Bh js Z++List.replicate zs.length none)[i]?=some (some v):=E
   rwa [Dd (by rw[F];exact hi)]at d
  have C:y∈Ah:=DQ H;unfold Bh at d;rw[Am]at d;cases I:js[i]? with
  |none=>rw[I]at d;cases d
  |some j=>
   rw[I]at d;have V:X.N[j]?=some y:=by
    have q:=wu (λl=>l[i]?) S.at';simp only[Am,I,H,UE]at q;exact BI q
   have hσ:Z[j]?=some (some v):=by
    simp only[UE,Option.some.injEq]at d;cases q:Z[j]? with
    |none=>rw[q]at d;cases d
    |some w=>rw[q]at d;simp at d;rw[d]
   obtain⟨Y,U,PN⟩:=I3.loc;obtain⟨u,r,l⟩:=PN j y v V hσ (.inr (S.cell y C));refine⟨u,r,?_⟩;rcases l with⟨k,_⟩|⟨_,c,e,z⟩
   .have k':X.env.scope.names.lookup y=some .local:=k;rcases S.cell y C with z|z <;> (rw[z]at k';cases k')
   .have D:(relabel scope X.env).names.lookup y=some .cell∨(relabel scope X.env).names.lookup y=some .free:=by
     have e0:=Su (env:=X.env) scope.names y;rw[S.free y C]at e0;rcases S.cell y C with QC|QC
     .exact .inl (e0.trans (by simp[I3.ok.kind,show X.env.kindOf y=some .cell from QC]))
     .exact .inr (e0.trans (by simp[show X.env.kindOf y=some .free from QC]))
    obtain⟨W,t⟩:=Option.isSome_iff_exists.mp (YW (cells:=X.env.cells) scope.names [] (.inr (ME (S.free y C))));have P:=R y W t;rw[e]at P;cases P;exact .inr ⟨D,c,(gA (T y C)).trans t,f c _ z⟩
 .rcases B y c e with⟨a,rfl⟩|⟨_,DH⟩
  .exact⟨none,F _ a⟩
  .obtain⟨v,z⟩:=I3.cell y c DH;exact⟨v,f c v z⟩
 .rcases B y c e with⟨_,rfl⟩|⟨_,DH⟩
  .exact I3.AO.fresh (GS _)
  .exact I3.HQ y c DH
 .show(Bh js Z++List.replicate zs.length none).length=(Ah++zs).length;unfold Bh;simp[n]
theorem ZGi(hp:Y.prog=X.prog)(hw:Y.w=X.w)(S:Y.K=X.K)(hA:Y.A=X.A)(t:Y.xe=λ_ _=>False)(P:Y.calm=true)
  (hg:PG Y tg g) (FG:JH Y ifs tt) (FF:PE Y elt te)
  (T:Turn X.prog X.w X.K tg J fp it tn) (HY:∀b∈fp,Y.Ok->Ed Y [] (λ_=>none) b)
  (W:Nat->Nat->Hp->Prop) (Q:VK)
  (turn:∀i m H2,W i m H2->(J.stop i H2/\Q (.ref acc) H2)∨(J.go i H2/\∀x H3,J.G4 i H2 x H3->∀ws,ws.length=n0->g x (Bh js Z++ws) H3 λσ8 H8=>∃us,us.length=n0/\σ8=Bh js Z++us/\gz tt te acc W i m σ8 H8))
  (I4:Inv Y [] (Bh js Z++ws) H4 s4) (R0:tn 0 s4.heap) (F:∀b∈fp,H4 b=none) (O:Nat) (w4:W 0 O H4)
  (rN:ws.length=n0) (hR:∀H' s' ws,Inv Y [] (Bh js Z++ws) H' s'->Q (.ref acc) H'->R (.ok .next) s') :
  codeAny (model X.prog X.w) X.A (.compLoop (.ListComp elt [⟨tg,iter,ifs,0⟩] scope pos) 0 (.ref it) (.ref acc) Y.env) R s4:=by
 have AO:=I4.ok;have H:∀{H':Hp},(∀b∈fp,H' b=none)->∀b∈fp,Ed Y [] H' b:=λhn b c=>⟨hn b c,(HY b c AO).2⟩;rw[<- hp,<- hw,<- hA];have h:∀{σ:Value->Shared->Prop}v s,Y.xe v s->σ v s:=λv s z=>by rw[t]at z;exact z.elim
 refine ZAY (λn s'=>∃i ws H',ws.length=n0/\Inv Y [] (Bh js Z++ws) H' s'/\tn i s'.heap/\(∀b∈fp,H' b=none)/\W i n H') ?_ O ⟨0,ws,H4,rN,I4,R0,F,w4⟩;rintro n M⟨i,V,H5,xx,I5,N8,SM,w5⟩;rcases turn i n H5 w5 with⟨stop,q⟩|⟨go,step⟩
 .have d:=T.done Y hp hw S P i [] M _ H5 (λ_ _=>False) I5 (H SM) N8 stop;rw[<- hp,<- hw]at d;refine v7 d (λr L⟨C,I6⟩=>?_) λ_ _ z=>z.elim;subst C;exact hR H5 L V I6 q
 .have d:=T.item Y hp hw S P i [] M _ H5 (λ_ _=>False) I5 (H SM) N8 go;rw[<- hp,<- hw]at d;refine v7 d (λr L⟨u,C,h6⟩=>?_) λ_ _ z=>z.elim;subst C;refine v7 h6 (λ_ I⟨v,H7,I7,r7,y7,XD,E⟩=>?_) λ_ _ z=>z.elim;have uU:=I7.pinned (H E) (T.obj _ _ XD);refine v7 (hg _ I _ H7 v u _ uU r7 (step v H7 y7 V xx)) (λ_ s8⟨σ8,H8,I8,us,dN,e8,B⟩=>?_) h;subst e8;have a:∀{σa:St}{Ha:Hp}{sa:Shared},Inv Y ([]++Oe fp I.heap) σa Ha sa->tn (i+1) sa.heap/\(∀b∈fp,Ha b=none):=λ{σa Ha sa}Ia=>by
   refine⟨T.keep _ _ _ XD λb c o e=>(Ia.pin (b,o) (DE _ (DE _ (Rp c e)))).1,λb c=>?_⟩;obtain⟨o,e,d⟩:=T.obj _ _ XD b c;exact(Ia.pin (b,o) (DE _ (DE _ (Rp c e)))).2.1
  refine v7 (FG _ s8 _ H8 _ I8 B) (λb s9⟨H9,I9,p⟩=>?_) h;cases b with
  |false=>
   have l:∃f,f < n/\W (i+1) f H9:=p;obtain⟨f,D,w9⟩:=l;rw[sN (by decide)];exact⟨f,D,i+1,_,H9,dN,I9.Py,(a I9).1,(a I9).2,w9⟩
  |true=>
   rw[sZ rfl];rw[sZ rfl]at p;refine v7 (FF _ s9 _ H9 _ I9 p) (λyv NV⟨y,U,ze,k,ys,Aq,hz,f,D,j⟩=>?_) h;refine v7 (nP (X:=Y) _ NV _ U (.ref acc) [y] (.ref acc) [yv] (λ_ N=>N=upd U acc (.lst (ys++[y]))) ze rfl (.cons k .nil) ⟨acc,ys,y,rfl,rfl,Aq,hz,rfl⟩)
    (λ_ s11⟨_,N,G,_,pF⟩=>?_) h
   subst pF;exact⟨f,D,i+1,_,_,dN,G.Py,(a G).1,(a G).2,j⟩
theorem eJ{RR:Value->Addr->Result->Shared->Prop}(F:X.calm=true)(S:Gf X.N X.env.scope scope ce zs Ah js)
  (hg:∀C s H,PG (GV X (Ah++zs) scope ce (Cd X.env.cells scope.names) C s H fp) tg g)
  (FG:∀C s H,JH (GV X (Ah++zs) scope ce (Cd X.env.cells scope.names) C s H fp) ifs tt) (FF:∀C s H,PE (GV X (Ah++zs) scope ce (Cd X.env.cells scope.names) C s H fp) elt te)
  (T:Turn X.prog X.w X.K tg J fp it tn) (I2:Inv X Zo Z H2 s2) (Gh:tn 0 s2.heap) (t:∀b∈fp,Ed X Zo H2 b) (Q:VK) (G:∀acc,H2 acc=none->Rt g zs.length J js tt te Z H2 acc Q)
  (j:∀acc C H' s' m,Inv X Zo Z H' s'->Ed X Zo H' C->s'.heap.Ns C m->Q (.ref acc) H'->RR (.ref acc) C (.ok .next) s') :
  wpAny (model X.prog X.w) X.A (newList []) (λacc a=>wpAny (model X.prog X.w) X.A (newFunctionEnv scope X.env.globals (Cd X.env.cells scope.names) [] X.env.qual none .none (some X.env)) (λr s4=>
   codeAny (model X.prog X.w) X.A (.compStart (.ListComp elt [⟨tg,iter,ifs,0⟩] scope pos) 0 (.ref it) acc { r with scope:=relabel scope X.env }) (RR acc r.locals) s4) E a) E s2:=by
 refine wW (wI S.cf S.pc ?_);have h:Inv X Zo Z (upd H2 s2.heap.objs.size (.lst [])) { s2 with heap:=s2.heap.push { cls:=.type "list", data:=.seq ([]:List Value).toArray } }:=I2.gC (t':=s2.toks) .nil (CH _)
 have z:∀b∈fp,b<s2.heap.objs.size:=λb c=>by
  obtain⟨o,e,_⟩:=T.obj _ _ Gh b c;exact BE e
 have hsz:(s2.heap.push { cls:=.type "list", data:=.seq ([]:List Value).toArray }).objs.size=s2.heap.objs.size+1:=Eh ..;have f3:∀b∈fp,Ed X Zo (upd H2 s2.heap.objs.size (.lst [])) b:=λb c=>⟨by rw[Af (BP (z b c))];exact(t b c).1,(t b c).2⟩;generalize i:({ s2 with heap:=s2.heap.push { cls:=.type "list", data:=.seq ([]:List Value).toArray } }:Shared)=a at h ⊢
 have v:a.heap=s2.heap.push { cls:=.type "list", data:=.seq ([]:List Value).toArray }:=by rw[<- i]
 have k:∀b∈fp,b<a.heap.objs.size:=λb c=>by rw[v,hsz];exact IX (z b c)
 generalize u:RJ ce (a.heap.push { cls:=.type "dict", data:=.dict #[] })=h1;have n:∀b o,(a.heap.push { cls:=.type "dict", data:=.dict #[] }).get? b=some o->h1.get? b=some o:=λb o e=>by
  rw[<- u];cases ce with
  |none=>exact e
  |some _=>exact BH _ e
 have f:∀b o,a.heap.get? b=some o->h1.get? b=some o:=λb o e=>n b o (BH _ e);have l:∀b o,s2.heap.get? b=some o->h1.get? b=some o:=λb o e=>f b o (by rw[v];exact BH _ e);have I:h1.Ns a.heap.objs.size (λ_=>none):=(Heap.Ns.new a.heap (.type "dict")).keeps n;have M:∀x,ce=some x->h1.IsCell (a.heap.objs.size+1) none:=λx hx=>by
  subst hx;rw[<- u];have e:(a.heap.push { cls:=.type "dict", data:=.dict #[] }).objs.size=a.heap.objs.size+1:=Eh ..;exact⟨_,by rw[<- e];exact Ba _ rfl,rfl⟩
 have L:=tU S h f3 k I f M (t':=a.toks);have y:tn 0 h1:=T.keep _ _ _ Gh λb _ o e=>l b o e;obtain⟨W,⟨D,B⟩,turn⟩:=G s2.heap.objs.size (I2.AO.fresh (Ag _));have d:codeAny (model X.prog X.w) X.A (.compLoop (.ListComp elt [⟨tg,iter,ifs,0⟩] scope pos) 0 (.ref it) (.ref s2.heap.objs.size) (compEnvC scope (IE ce (a.heap.objs.size+1)++Cd X.env.cells scope.names) a.heap.objs.size X.env))
   (RR (.ref s2.heap.objs.size) a.heap.objs.size) { a with heap:=h1 }:=by
  refine ZGi (X:=X) (Y:=GV X (Ah++zs) scope ce (Cd X.env.cells scope.names) a.heap.objs.size a (upd H2 s2.heap.objs.size (.lst [])) fp) (acc:=s2.heap.objs.size) (Q:=Q) rfl rfl rfl rfl rfl F (hg _ _ _) (FG _ _ _) (FF _ _ _) T (λb c ok=>⟨rfl,(ok.Tq b c).1,ok.OM b c,.inl c,(ok.Tq b c).2,λp hp=>by cases hp⟩) W turn L y (λb c=>(f3 b c).1) D B (ZIO ..) λH' s' w I' q=>?_;obtain⟨m,hn,_⟩:=I'.loc;exact j _ _ H' s' m (h.pZ (ch:=fp) I'.os I'.base I'.AO I'.bare λb c=>⟨(f3 b c).2.2.2.1,(f3 b c).2.1,(f3 b c).2.2.2.2.1,(f3 b c).2.2.2.2.2⟩) (h.NI (Ag _) I'.free) hn q
 exact codeAny_compStart_list d (T.self X.A 0 _ _ _ y d)
theorem jo(S:Gf X.N X.env.scope scope ce zs Ah js)(I:Inv X Zo Z H s):closureFor scope X.env=pure (Cd X.env.cells scope.names):=ZFM λy a b=>by
 obtain⟨c,e⟩:=I.ok.has y.1 (S.all y a b);rw[e];rfl
theorem qR(i:∀J Z H1 acc Q,CW J Z H1 acc Q->Rt g zs.length J js tt te Z H1 acc Q)(c:X.calm=true)(S:Gf X.N X.env.scope scope ce zs Ah js)(hi:PI X tg iter wi)
  (hg:∀fp C s H,PG (GV X (Ah++zs) scope ce (Cd X.env.cells scope.names) C s H fp) tg g)
  (FG:∀fp C s H,JH (GV X (Ah++zs) scope ce (Cd X.env.cells scope.names) C s H fp) ifs tt) (FF:∀fp C s H,PE (GV X (Ah++zs) scope ce (Cd X.env.cells scope.names) C s H fp) elt te)
  (hs:∀v,foldedSetIterable iter X.env v=pure v):PE X (.ListComp elt [⟨tg,iter,ifs,0⟩] scope pos) (lE CW wi):=by
 intro Zo s Z H Q I h;rw[eval_ListComp];refine wpAny_comprehension_free (use:=none) rfl hs (jo S I) S.kind S.loc (B9 (hi Zo s Z H _ I h) λv s1 h1=>B9 h1 λSb s2 h2=>?_);obtain⟨it,fp,tn,J,H2,e,I2,T,Gh,j,hw⟩:=h2;subst e;refine eJ (RR:=λacc C=>compPost (model X.prog X.w) X.A X.xe none (EP X Zo Z Q) acc C) c S (hg fp) (FG fp) (FF fp) T I2 Gh j Q (λacc f=>i _ _ _ _ _ (hw acc f)) λacc C H' s' m I' a hn q=>⟨m,hn,λh' Ms=>?_⟩;exact⟨.ref acc,H',I'.turned (t':=s'.toks) (λb o d e=>(Ms.2 b d).trans e) a.1 a.2.1 a.2.2.2.1 a.2.2.2.2.1 a.2.2.2.2.2,rfl,q⟩
theorem p0(r:∀J Z H1 acc Q,CW J Z H1 acc Q->Rt g zs.length J js tt te Z H1 acc Q){y:Str}(t:X.N.Nodup)(Dc:X.N[i]?=some y)(j:Loc X.env.scope y)(n:X.calm=true)(S:Gf X.N X.env.scope scope ce zs Ah js)(hi:PI X tg iter wi)
  (hg:∀fp C s H,PG (GV X (Ah++zs) scope ce (Cd X.env.cells scope.names) C s H fp) tg g)
  (FG:∀fp C s H,JH (GV X (Ah++zs) scope ce (Cd X.env.cells scope.names) C s H fp) ifs tt) (FF:∀fp C s H,PE (GV X (Ah++zs) scope ce (Cd X.env.cells scope.names) C s H fp) elt te)
  (Nh:swapsWith (.ListComp elt [⟨tg,iter,ifs,0⟩] scope pos) (some (.Name y py)) JZ.line X.env=pure true)
  (l:X.fn y=true∨X.env.scope.names.lookup y=some .local)
  (hs:∀v,foldedSetIterable iter X.env v=pure v):PS X (.Assign [.Name y py] (.ListComp elt [⟨tg,iter,ifs,0⟩] scope pos) JZ) (GC (lE CW wi) (Du i)):=by
 intro Zo s Z H D I h;rw[exec_Assign_Name_used _ _ _ _ Nh];refine pN (wpAny_standAt (pN ?_));show wpAny _ X.A (do let _ <- comprehension (.ListComp elt [⟨tg,iter,ifs,0⟩] scope pos) scope X.env _ (newList []) false (eval iter X.env) (some (assign (.Name y py) X.env))) _ _ s
 refine pN (v7 (wpAny_comprehension_free (use:=some (assign (.Name y py) X.env)) (Q:=λ_ s'=>SP X Zo D .next s') rfl hs (jo S I) S.kind S.loc
  (B9 (hi Zo s Z H _ I h) λv s1 h1=>B9 h1 λSb s2 h2=>?_)) (λ_ s' k=>pq (pq k)) λ_ _ e=>e)
 obtain⟨it,fp,tn,J,H2,e,I2,T,Gh,u,hw⟩:=h2;subst e;refine eJ (RR:=λacc C=>compPost (model X.prog X.w) X.A X.xe (some (assign (.Name y py) X.env)) (λ_ s'=>SP X Zo D .next s') acc C) n S (hg fp) (FG fp) (FF fp) T I2 Gh u _ (λacc f=>r _ _ _ _ _ (hw acc f)) λacc C H' s' m I' c hn q=>?_;show wpAny _ X.A (assign (.Name y py) X.env (.ref acc)) _ _ s';refine wpAny_assign_Name (gD (v:=.ref acc) I' t Dc j rfl (λLU I''⟨a,d,f⟩=>?_) l);have x:C≠a:=by
  rcases f with z|z
  .rw[z];exact c.2.1
  .exact(c.2.2.2.2.1 y a z).symm
 refine⟨m,hn.sameBut d x,λh' Ms=>?_⟩;exact⟨_,H',I''.turned (t':=LU.toks) (λb o p e=>(Ms.2 b p).trans e) c.1 c.2.1 c.2.2.2.1 c.2.2.2.2.1 c.2.2.2.2.2,q⟩
theorem cu{n:Nat}{cl:List (Str×Addr)}:∀{names:List (Str×NameKind)},(∀y∈names,y.2≠.cell)->cellsFrom n names cl=cl
 | [],_=>rfl
 | (x,k)::r,h=>by
  have b:(k == NameKind.cell)=false:=beq_eq_false_iff_ne.mpr (h _ CV);rw[cellsFrom,b];exact cu λy a=>h y (Ck _ a)
theorem mD{a:Heap}:∀{names:List (Str×NameKind)},(∀y∈names,y.2≠.cell)->pushCells a names=a
 | [],_=>rfl
 | (x,k)::r,h=>by
  have c:(k == NameKind.cell)=false:=beq_eq_false_iff_ne.mpr (h _ CV);rw[pushCells,c];exact mD λy b=>h y (Ck _ b)
theorem Gf.xY(kind:scope.kind=.function)(Oy:∀y∈scope.names,y.2≠.cell)(loc:∀y∈scope.names,y.2=.local->scope.names.lookup y.1=some .local)
  (at':js.map (λj=>N[j]?)=Ah.map some) (cell:∀y∈Ah,outer.names.lookup y=some .cell) (free:∀y∈Ah,scope.names.lookup y=some .free)
  (all:∀y∈scope.names,y.2=.free->outer.names.lookup y.1=some .cell) (nd:(Ah++zs).Nodup):Gf N outer scope none zs Ah js:=
 ⟨kind,loc,λy a e=>absurd e (Oy y a),λx e=>(by cases e),λn cl=>cu Oy,λh=>mD Oy,at',λy a=>.inl (cell y a),free,λy a e=>.inl (all y a e),nd⟩
theorem Gf.len(S:Gf N outer scope ce zs Ah js)(Z:St):(Bh js Z).length=Ah.length:=by
 unfold Bh;rw[AU];have:=wu List.length S.at';simpa using this
theorem gu(S:Gf N outer scope ce [x] Ah js)(J:It)(Z:St)(H1:Hp)(acc:Addr)(Q:VK)(h:LR J js tt te Z H1 acc Q):Rt (Du Ah.length) 1 J js tt te Z H1 acc Q:=by
 obtain⟨W,a,h⟩:=h;refine⟨W,a,λi m H2 w=>(h i m H2 w).imp id λz=>⟨z.1,λx H3 y ws hw=>?_⟩⟩
 match ws,hw with
 | [w],_=>
  have e:(Bh js Z++[w]).set Ah.length (some x)=Bh js Z++[some x]:=by rw[<- S.len Z];exact ZG4 _ _ _
  exact⟨[some x],rfl,e,by rw[e];exact z.2 x H3 y⟩
theorem d5(S:Gf X.N X.env.scope scope ce [x] Ah js)(hx:scope.names.lookup x=some .local∨(ce=some x/\scope.names.lookup x=some .cell)):
  PG (GV X (Ah++[x]) scope ce cl C s H fp) (.Name x px) (Du Ah.length):=
 kC S.nd (by simp) (hx.imp (λh=>lookup_relabel_local h) λh=>uS h.2) (hx.symm.imp (λh=>by show(ce == some x)=true;rw[h.1];exact vX _) λh=>lookup_relabel_local h)
theorem Cr.G(S:Cr N outer scope x Ah js):Gf N outer scope none [x] Ah js:=.xY S.kind S.Oy S.loc S.at' S.cell S.free S.all S.nd
theorem qQ(a:X.calm=true)(S:Cr X.N X.env.scope scope x Ah js)(hi:PI X (.Name x px) iter wi)
  (FG:∀fp C s H,JH (Jd X (Ah++[x]) scope (Cd X.env.cells scope.names) C s H fp) ifs tt) (FF:∀fp C s H,PE (Jd X (Ah++[x]) scope (Cd X.env.cells scope.names) C s H fp) elt te)
  (hs:∀v,foldedSetIterable iter X.env v=pure v:=by intro _;rfl):PE X (.ListComp elt [⟨.Name x px,iter,ifs,0⟩] scope pos) (IG wi js tt te):=
 qR (CW:=λJ Z H1 acc Q=>LR J js tt te Z H1 acc Q) (gu S.G) a S.G hi (λ_ _ _ _=>d5 S.G (.inl S.eP)) FG FF hs
theorem ZEj{y:Str}(c:X.N.Nodup)(Dc:X.N[i]?=some y)(a:Loc X.env.scope y)(b:X.calm=true)(S:Cr X.N X.env.scope scope x Ah js)(hi:PI X (.Name x px) iter wi)
  (FG:∀fp C s H,JH (Jd X (Ah++[x]) scope (Cd X.env.cells scope.names) C s H fp) ifs tt) (FF:∀fp C s H,PE (Jd X (Ah++[x]) scope (Cd X.env.cells scope.names) C s H fp) elt te)
  (Nh:swapsWith (.ListComp elt [⟨.Name x px,iter,ifs,0⟩] scope pos) (some (.Name y py)) JZ.line X.env=pure true:=by rfl)
  (hf:X.fn y=true∨X.env.scope.names.lookup y=some .local:=by first|exact .inl rfl|exact .inr rfl|assumption)
  (hs:∀v,foldedSetIterable iter X.env v=pure v:=by intro _;rfl):PS X (.Assign [.Name y py] (.ListComp elt [⟨.Name x px,iter,ifs,0⟩] scope pos) JZ) (GC (IG wi js tt te) (Du i)):=
 p0 (CW:=λJ Z H1 acc Q=>LR J js tt te Z H1 acc Q) (gu S.G) c Dc a b S.G hi (λ_ _ _ _=>d5 S.G (.inl S.eP)) FG FF Nh hf hs
end
def CQ(K:ZJR)(tp:Bool)(H:Hp)(a:Addr)(xs:List V):Prop:=match tp with
 |false=>AK K H a xs
 |true=>AD K H a xs
theorem CQ.or{K:ZJR}{xs:List V}(h:CQ K tp H a xs):AK K H a xs∨AD K H a xs:=by
 cases tp
 .exact .inl h
 .exact .inr h
noncomputable def Oq(K:ZJR)(tp:Bool)(a:Addr)(xs:List V):It:=
 ⟨λi H=>CQ K tp H a xs/\i<xs.length,λi H x H'=>H'=H/\xs[i]?=some x,λi H=>CQ K tp H a xs/\xs.length<=i⟩
theorem qh{P:Program}{K:ZJR}(a it:Addr)(xs:List V):Turn P w K tg (Oq K false a xs) [it] it (λi h=>h.IsListIter it a i) where
 mem:=by simp
 obj:=(Nw (P:=P) (w:=w) (K:=K) (tg:=tg) a it).obj
 keep:=(Nw (P:=P) (w:=w) (K:=K) (tg:=tg) a it).keep
 item:=by
  intro X d hw f c i Zo s Z H E I b st hg;obtain⟨g,hi⟩:=hg;refine B9 ((Nw (P:=P) (w:=w) (K:=K) (tg:=tg) a it).item X d hw f c i Zo s Z H E I b st ⟨xs,xs[i],g,by simp[hi]⟩) λr s1 AV=>by obtain⟨u,e,h⟩:=AV;exact⟨u,e,B9 h λ_ s2 JD=>by obtain⟨x,H',I',j,y,D6,k⟩:=JD;exact⟨x,H',I',j,⟨y.1,y.2 xs g⟩,D6,k⟩⟩
 done:=by
  intro X d hw f c i Zo s Z H E I b st hg;exact(Nw (P:=P) (w:=w) (K:=K) (tg:=tg) a it).done X d hw f c i Zo s Z H E I b st ⟨xs,hg.1,hg.2⟩
 self:=(Nw (P:=P) (w:=w) (K:=K) (tg:=tg) a it).self
theorem vd{P:Program}{K:ZJR}(a it:Addr)(xs:List V):Turn P w K tg (Oq K true a xs) [it] it (λi h=>h.IsTupleIter it a i) where
 mem:=by simp
 obj:=(Oa (P:=P) (w:=w) (K:=K) (tg:=tg) a it).obj
 keep:=(Oa (P:=P) (w:=w) (K:=K) (tg:=tg) a it).keep
 item:=by
  intro X d hw f c i Zo s Z H E I b st hg;obtain⟨g,hi⟩:=hg;refine B9 ((Oa (P:=P) (w:=w) (K:=K) (tg:=tg) a it).item X d hw f c i Zo s Z H E I b st ⟨xs,xs[i],g,by simp[hi]⟩) λr s1 AV=>by obtain⟨u,e,h⟩:=AV;exact⟨u,e,B9 h λ_ s2 JD=>by obtain⟨x,H',I',j,y,D6,k⟩:=JD;exact⟨x,H',I',j,⟨y.1,y.2 xs g⟩,D6,k⟩⟩
 done:=by
  intro X d hw f c i Zo s Z H E I b st hg;exact(Oa (P:=P) (w:=w) (K:=K) (tg:=tg) a it).done X d hw f c i Zo s Z H E I b st ⟨xs,hg.1,hg.2⟩
 self:=(Oa (P:=P) (w:=w) (K:=K) (tg:=tg) a it).self
def OX(K:ZJR)(tl:TE):TI:=λZ H R=>tl Z H λx H1=>∃tp a xs,x=.ref a/\CQ K tp H1 a xs/\R (Oq K tp a xs) H1
noncomputable def ZL(z:Str):It:=⟨λi _=>i<z.cps.size,λi H x H'=>H'=H/\∃c,z.cps[i]?=some c/\x=.str ⟨#[c]⟩,λi _=>i=z.cps.size⟩
theorem fK{P:Program}{K:ZJR}{t:Tok}{ty:String}
  (hn:["enumerate","zip","dict_itemiterator","dict_reverseitemiterator","odict_iterator","itertools.zip_longest","itertools.pairwise"].contains ty=false)
  (W:∀A:Around,A.handled=none->Walks P w A it [it] [it] z.cps.size (SignAt z) (λi h=>h.IsStrIter it ty z t i))
  (self:∀(A:Around)(i:Nat)(s:Shared)(Q:Value->Shared->Prop)(E:Value->Shared->Prop),s.heap.IsStrIter it ty z t i->Q (.ref it) s->wpAny (model P w) A (pyIter (.ref it)) Q E s) :
  Turn P w K tg (ZL z) [it] it (λi h=>h.IsStrIter it ty z t i) where
 mem:=by simp
 obj:=λi h st b a=>by
  have e:b=it:=by simpa using a
  subst e;obtain⟨o,e,c,d⟩:=st;exact⟨o,e,λv z=>by rw[d]at z;cases z⟩
 keep:=λi h h' st k=>let ⟨o,e,r⟩:=st;⟨o,k it (by simp) o e,r⟩
 item:=by
  intro X l hw m j i Zo s Z H E I f st hg;subst l hw m;obtain⟨f0,q,y,f3,p,n⟩:=f it (by simp);refine(W X.A (I.ok.hd j)).item i s _ _ hg st λv h' tk⟨c,u,SY,x⟩D6 kp=>?_;subst x;have B:Inv X Zo Z H { s with heap:=h',toks:=tk }:=I.turned (t':=tk) (λb o a e=>kp b o (by simpa using a) e) f0 q f3 p n
  obtain⟨o,e,cl,d⟩:=id D6;exact⟨_,rfl,Nj (s:={ s with heap:=h',toks:=tk }) e cl d hn ⟨.str ⟨#[c]⟩,H,B,⟨u,rfl⟩,⟨rfl,c,SY,rfl⟩,D6,λb a=>(f b a).1⟩⟩
 done:=by
  intro X l hw m j i Zo s Z H E I f st hg;subst l hw m;obtain⟨f0,q,y,f3,p,n⟩:=f it (by simp);have g:i=z.cps.size:=hg;subst g;exact(W X.A (I.ok.hd j)).done s _ _ st λh' tk kp=>⟨rfl,I.turned (t':=tk) (λb o a e=>kp b o (by simpa using a) e) f0 q f3 p n⟩
 self:=self
def fZ(tl:TE):TI:=λZ H R=>tl Z H λx H1=>∃z,x=.str z/\R (ZL z) H1
theorem Aa{p:Addr}(h:H p=none)(o:HO):A8 H (upd H p o):=λb u q=>by rw[Af (Dr q h)];exact q
theorem A8.Jf{K:ZJR}{xs:List V}(e:A8 H H')(h:AD K H a xs):AD K H' a xs:=by
 rcases h with(h|⟨o,h⟩)|h
 .exact .inl (.inl (e _ _ h))
 .exact .inl (.inr ⟨o,e _ _ h⟩)
 .exact .inr h
theorem A8.sq{K:ZJR}{xs:List V}(e:A8 H H')(h:CQ K tp H a xs):CQ K tp H' a xs:=by
 cases tp
 .exact A8.seq e h
 .exact A8.Jf e h
theorem gQ{Q:VK}(xs:List V)(f:V->Bool)(g:V->V)(Aq:H1 acc=none)(z:xs.length<=sizeLine)
  (n:∀i H,A8 H1 H->i<xs.length->J.go i H) (Cf:∀H,A8 H1 H->J.stop xs.length H) (p:∀i H x H',J.G4 i H x H'->H'=H/\xs[i]?=some x)
  (r:∀(i:Nat)(x:V)(H':Hp)(Q':Bool->Hp->Prop),xs[i]?=some x->A8 H1 H'->(∀Ee,A8 H' Ee->Q' (f x) Ee)->tt (Bh js Z++[some x]) H' Q')
  (s:∀(i:Nat)(x:V)(H':Hp)(Q':VK),xs[i]?=some x->f x=true->A8 H1 H'->(∀Ee,A8 H' Ee->Q' (g x) Ee)->te (Bh js Z++[some x]) H' Q')
  (hd:∀H',A8 H1 H'->H' acc=some (.lst ((xs.filter f).map g))->Q (.ref acc) H'):LR J js tt te Z H1 acc Q:=by
 refine⟨λi m H=>m=xs.length - i/\i<=xs.length/\A8 H1 H/\H acc=some (.lst (((xs.take i).filter f).map g)),⟨xs.length,by simp,CH _,Aa Aq _,AJ⟩,?_⟩;rintro i m H2⟨rfl,hi,a,j⟩
 by_cases h:i<xs.length
 .refine .inr ⟨n i H2 a h,λx H3 y=>?_⟩;obtain⟨e,hx⟩:=p i H2 x H3 y;subst e;have w:(xs.take (i+1))=xs.take i++[x]:=by
   have u:xs[i]=x:=by
    rw[B7 h]at hx;exact BI hx
   rw[UC h,u]
  have l:List.filter f (xs.take (i+1))=(xs.take i).filter f++(if f x=true then[x]else[]):=by
   rw[w,Lz];congr 1
   by_cases c:f x=true <;> simp[c]
  refine r i x _ _ hx a λH4 s4=>?_
  by_cases c:f x=true
  .rw[sZ c];refine s i x H4 _ hx c (a.trans s4) λH5 k=>?_;have d:(((xs.take i).filter f).map g).length<sizeLine:=by
    rw[AU];have:=HB f (xs.take i);rw[Bi]at this;omega
   refine⟨_,k _ _ (s4 _ _ j),d,xs.length - (i+1),by omega,rfl,h,λb o q=>?_,?_⟩
   .have t:b≠acc:=by rintro rfl;rw[Aq]at q;cases q
    rw[Af t];exact k _ _ (s4 _ _ (a b o q))
   .rw[AJ,l,sZ c,Bx];rfl
  .have v:f x=false:=by simpa using c
   rw[v];rw[sN (by decide)];refine⟨xs.length - (i+1),by omega,rfl,h,a.trans s4,?_⟩;rw[l,sN c,E8];exact s4 _ _ j
 .have e:i=xs.length:=by omega
  subst e;refine .inl ⟨Cf H2 a,hd H2 a ?_⟩;rw[IU]at j;exact j
theorem Jk{K:ZJR}{xs:List V}{Q:VK}(f:V->Bool)(g:V->V)(b:CQ K tp H1 a xs)(Aq:H1 acc=none)(c:xs.length<=sizeLine)
  (d:∀(i:Nat)(x:V)(H':Hp)(Q':Bool->Hp->Prop),xs[i]?=some x->A8 H1 H'->(∀Ee,A8 H' Ee->Q' (f x) Ee)->tt (Bh js Z++[some x]) H' Q')
  (e:∀(i:Nat)(x:V)(H':Hp)(Q':VK),xs[i]?=some x->f x=true->A8 H1 H'->(∀Ee,A8 H' Ee->Q' (g x) Ee)->te (Bh js Z++[some x]) H' Q')
  (hd:∀H',A8 H1 H'->H' acc=some (.lst ((xs.filter f).map g))->Q (.ref acc) H'):LR (Oq K tp a xs) js tt te Z H1 acc Q:=
 gQ xs f g Aq c (λi H s hi=>⟨s.sq b,hi⟩) (λH s=>⟨s.sq b,Ag _⟩) (λi H x H' y=>y) d e hd
noncomputable def Gj(z:Str):List V:=z.cps.toList.map λc=>.str ⟨#[c]⟩
theorem Xe(z:Str):(Gj z).length=z.cps.size:=by unfold Gj;simp
theorem ZHn{Q:VK}(f:V->Bool)(g:V->V)(Aq:H1 acc=none)(a:z.cps.size<=sizeLine)
  (b:∀(i:Nat)(x:V)(H':Hp)(Q':Bool->Hp->Prop),(Gj z)[i]?=some x->A8 H1 H'->(∀Ee,A8 H' Ee->Q' (f x) Ee)->tt (Bh js Z++[some x]) H' Q')
  (d:∀(i:Nat)(x:V)(H':Hp)(Q':VK),(Gj z)[i]?=some x->f x=true->A8 H1 H'->(∀Ee,A8 H' Ee->Q' (g x) Ee)->te (Bh js Z++[some x]) H' Q')
  (hd:∀H',A8 H1 H'->H' acc=some (.lst (((Gj z).filter f).map g))->Q (.ref acc) H'):LR (ZL z) js tt te Z H1 acc Q:=by
 refine gQ (Gj z) f g Aq (by rw[Xe];exact a) (λi H s hi=>?_) (λH s=>?_) (λi H x H' y=>?_) b d hd
 .rw[Xe]at hi;exact hi
 .show(Gj z).length=z.cps.size;exact Xe z
 .obtain⟨e,c,h,hx⟩:=y;refine⟨e,?_⟩;subst hx;unfold Gj;rw[Am,QX,h];rfl
def Dp(xs ys:List V):Bool:=xs.length == ys.length && (List.range xs.length).all λj=>ER (xs.getD j .AB) (ys.getD j .AB)
theorem Kb{xs:List V}{x:V}(h:xs[j]?=some x):xs.getD j .AB=x:=by rw[ES,h];rfl
theorem mB{xs:List V}{x:V}(h:xs.all En=true)(e:xs[j]?=some x):En x=true:=List.all_eq_true.mp h x (DQ e)
theorem So{xs:List V}{Bk:List Value}(d:Vals xs A4)(c:Vals ys Bk)(i:xs.all En=true)(h:ys.all En=true):
  ∀j(h1:j<A4.toArray.size)(h2:j<Bk.toArray.size),SeqAt.EqAt A s A4.toArray[j] Bk.toArray[j] (ER (xs.getD j .AB) (ys.getD j .AB)):=λj h1 h2=>by
 have l1:=d.length;have l2:=c.length;have n:j<A4.length:=by simpa using h1
 have m:j<Bk.length:=by simpa using h2
 have b:xs[j]?=some (xs[j]'(by omega)):=B7 _;have a:ys[j]?=some (ys[j]'(by omega)):=B7 _;obtain⟨u,hu,g⟩:=d.get b;obtain⟨v,e,f⟩:=c.get a;rw[B7 n]at hu;rw[B7 m]at e;have k:A4[j]=u:=BI hu;have l:Bk[j]=v:=BI e;rw[Kb b,Kb a];have q:=SR (A:=A) (s:=s) g f (mB i b) (mB h a);rw[<- k,<- l]at q
 simpa using q
def MG(K:ZJR)(neg:Bool):R2:=λx y H Q=>∃p q xs ys,x=.ref p/\y=.ref q/\((AK K H p xs/\AK K H q ys)∨(AD K H p xs/\AD K H q ys))/\xs.all En=true/\ys.all En=true/\
 Q (.bl (if neg then !Dp xs ys else Dp xs ys)) H
theorem Ks{xs:List V}(h:xs.length≠ys.length):Dp xs ys=false:=by
 unfold Dp;have:(xs.length == ys.length)=false:=by simpa using h
 rw[this,Bool.false_and]
theorem Kd{xs:List V}(h:xs.length=ys.length):Dp xs ys=(List.range xs.length).all λj=>ER (xs.getD j .AB) (ys.getD j .AB):=by
 unfold Dp;have:(xs.length == ys.length)=true:=by simpa using h
 rw[this,Lu]
theorem NB(hu:X.A.units<cLine):BB X (compareOp .Eq) (MG X.K false):=by
 intro Zo s Z H x y v u Q I r o h;obtain⟨p,q,xs,ys,rfl,rfl,t,l,k,w⟩:=h;cases r;cases o;have b:Q (.bl (Dp xs ys)) H:=w;rcases t with⟨i,g⟩|⟨i,g⟩
 .obtain⟨A4,d,f,n⟩:=I.list i;obtain⟨Bk,c,p2,m⟩:=I.list g;have l1:=d.length;have l2:=c.length
  by_cases a:xs.length=ys.length
  .refine SeqAt.eq_listAt (e:=λj=>ER (xs.getD j .AB) (ys.getD j .AB)) f.isList p2.isList (by simp;omega) hu (So d c l k) ⟨.bl _,H,I,rfl,?_⟩;rw[Kd a]at b;simp only[Bt,<- l1];exact b
  .rw[Ks a]at b;exact SeqAt.eq_list_lengthsAt f.isList p2.isList (by simp;omega) hu ⟨.bl false,H,I,rfl,b⟩
 .obtain⟨A4,d,f,n⟩:=I.tuple i;obtain⟨Bk,c,p2,m⟩:=I.tuple g;have l1:=d.length;have l2:=c.length;refine SeqAt.eq_tupleAt (e:=λj=>ER (xs.getD j .AB) (ys.getD j .AB)) f p2 hu (So d c l k) ⟨.bl _,H,I,rfl,?_⟩;simp only[Bt,<- l1,<- l2]
  by_cases a:xs.length=ys.length
  .rw[Kd a]at b;have:(xs.length == ys.length)=true:=by simpa using a
   rw[this,ag,<- a,b7];exact b
  .rw[Ks a]at b;have:(xs.length == ys.length)=false:=by simpa using a
   rw[this,af];exact b
theorem NH(hu:X.A.units<cLine):BB X (compareOp .NotEq) (MG X.K true):=by
 intro Zo s Z H x y v u Q I r o h;obtain⟨p,q,xs,ys,rfl,rfl,t,l,k,w⟩:=h;cases r;cases o;have b:Q (.bl (!Dp xs ys)) H:=w;rcases t with⟨i,g⟩|⟨i,g⟩
 .obtain⟨A4,d,f,n⟩:=I.list i;obtain⟨Bk,c,p2,m⟩:=I.list g;have l1:=d.length;have l2:=c.length
  by_cases a:xs.length=ys.length
  .refine SeqAt.RcNeAt.lists (e:=λj=>ER (xs.getD j .AB) (ys.getD j .AB)) f.isList p2.isList (by simp;omega) hu (So d c l k) _ _ _ _ ⟨.bl _,H,I,rfl,?_⟩;rw[Kd a]at b;simp only[Bt,<- l1];exact b
  .rw[Ks a]at b;exact SeqAt.RcNeAt.lists_lengths f.isList p2.isList (by simp;omega) hu _ _ _ _ ⟨.bl true,H,I,rfl,b⟩
 .obtain⟨A4,d,f,n⟩:=I.tuple i;obtain⟨Bk,c,p2,m⟩:=I.tuple g;have l1:=d.length;have l2:=c.length;refine SeqAt.RcNeAt.tuples (e:=λj=>ER (xs.getD j .AB) (ys.getD j .AB)) f p2 hu (So d c l k) _ _ _ _ ⟨.bl _,H,I,rfl,?_⟩;simp only[Bt,<- l1,<- l2]
  by_cases a:xs.length=ys.length
  .rw[Kd a]at b;have:(xs.length == ys.length)=true:=by simpa using a
   rw[this,ag,<- a,b7];exact b
  .rw[Ks a]at b;have:(xs.length == ys.length)=false:=by simpa using a
   rw[this,af];exact b
theorem ZHX:D3 X (.builtin "isinstance") (λxs H Q=>∃x n t b,xs=[x,.ty n]/\FP X.K H x t/\PySem.W.kitOne X.K t (.type n)=some b/\Q (.bl b) H):=by
 intro Zo s Z H xs us Q I r h;obtain⟨x,n,t,b,rfl,ty,e,q⟩:=h;obtain⟨u,c,rfl,a,rt⟩:=vals2 r;cases rt;exact ZAg I a ty e λtk=>⟨.bl b,H,I.tok tk,rfl,q⟩
theorem ZFp{bs:List Bool}(r:Vals (bs.map V.bl) A4)(e:A4[i]?=some v):v=.bool (bs.getD i false):=by
 have b:=r.length;rw[AU]at b;have hi:i<A4.length:=(List.getElem?_eq_some_iff.mp e).1;have c:(bs.map V.bl)[i]?=some (.bl (bs[i]'(by omega))):=by rw[Am,B7 (by omega)];rfl
 obtain⟨u,hu,a⟩:=r.get c;rw[e]at hu;cases hu;cases a;rw[ES,B7 (by omega)];rfl
theorem range_all(bs:List Bool):(List.range bs.length).all (λi=>bs.getD i false)=bs.all id:=by
 rw[NY,Hg,Hg];constructor
 .intro h x hx;obtain⟨i,hi,rfl⟩:=List.mem_iff_getElem.mp hx;have:=h i (List.mem_range.mpr hi);rw[ES,B7 hi]at this;exact this
 .intro h i hi;rw[ES,B7 (List.mem_range.mp hi)];exact h _ (M4 _)
theorem TU(j:X.calm=true):D3 X (.builtin "all") (λxs H Q=>∃(p:Addr)(bs:List Bool),xs=[.ref p]/\AK X.K H p (bs.map V.bl)/\Q (.bl (bs.all id)) H):=by
 intro Zo s Z H xs us Q I r h;obtain⟨p,bs,rfl,g,q⟩:=h;obtain⟨u,rfl,d⟩:=vals1 r;cases d;obtain⟨A4,a,pl,m⟩:=I.list g;have c:=a.length;rw[AU]at c;refine call_all_walk (ZBC pl.isList ?_);obtain⟨o,n,ho,_⟩:=id pl;have l:p≠s.heap.objs.size:=BP (BE ho);refine⟨s.heap.objs.size,_,_,_,_,_,λi=>bs.getD i false,rfl,Walks.list (by rw[nY];exact I.ok.hd j) _ p l A4.toArray,⟨⟨_,Ba _ rfl,rfl,rfl⟩,pl.isList.push _⟩,λi v s' Q' E' f E6=>?_,λh' tk kp=>?_⟩
 .have k:v=.bool (bs.getD i false):=ZFp a (by simpa using f)
  rw[k];exact vZ E6
 .refine⟨.bl _,H,I.kept (t':=tk) λb ob e=>kp b ob (by simpa using BP (BE e)) (BH _ e),rfl,?_⟩
  rw[Bt,<- c,range_all];exact q
def bS:V->List V->Hp->VK->Prop:=λx vs H Q=>∃(l:Addr)(xs:List V)(j:Int)(y:V),x=.ref l/\vs=[.int j,y]/\H l=some (.lst xs)/\0<=j/\j<=xs.length/\xs.length<sizeLine/\Q .AB (upd H l (.lst (xs.take j.toNat++y::xs.drop j.toNat)))
theorem ZC8:Uz X "list.insert" bS:=by
 intro Zo s Z H x vs v us Q I f g h;obtain⟨l,xs,j,y,rfl,rfl,c,p,o,B,q⟩:=h;cases f;obtain⟨A,b,rfl,i,d⟩:=g.two;obtain⟨t,rfl⟩:=i;obtain⟨z,A4,n,r,m,e⟩:=I.OC c;have h2:j<2 ^ 63:=by
  have C:(xs.length:Int)<=(sizeLine:Int):=Int.ofNat_le.mpr z;have D:((sizeLine:Nat):Int)<2 ^ 63:=by exact_mod_cast JA
  omega
 have a:(!Builtin.List.listFitsIndex j)=true->False:=by
  have h1:Builtin.List.listFitsIndex j=true:=by
   unfold Builtin.List.listFitsIndex;rw[FC];exact⟨rg (by omega),rg h2⟩
  rw[h1];exact λh=>nomatch h
 have w:A4.toArray.size<=sizeLine:=Cc (oE (List.size_toArray.trans m.symm)) z;refine ZBS ZIc ⟨_,e,rfl⟩ PySem.F.entry_list_insert (PySem.F.args_list_insert_3 _ _ _) (PySem.AutoSeq1.list_insert_list_int_val_1 l A4.toArray n j t b a w) ⟨e,?_⟩;refine⟨.AB,_,I.Xc (its':=A4.take j.toNat++b::A4.drop j.toNat) c e ?_ ((r.take _).append (.cons d (r.drop _))) ?_,rfl,q⟩
 .have u:¬ (j<0):=by omega
  have k:min j.toNat A4.toArray.size=j.toNat:=by simp;omega
  simp only[u,ZBb,k];apply Array.toList_inj.mp;simp;exact Qb (by simp)
 .rw[B2,BK,Bi,Ct];omega
def yf:V->Option Int->Option Int->Hp->VK->Prop:=λx lo hi H Q=>∃z,x=.str z/\z.length<=sizeLine/\Q (.str (Txt.slice z lo hi)) H
theorem part_of{o:Option Int}(p:IsPart v o):∃l:Option (Int×Tok),v=partValue l/\l.map (·.1)=o:=by
 cases p with
 |none=>exact⟨none,rfl,rfl⟩
 |int i t=>exact⟨some (i,t),rfl,rfl⟩
theorem cj:KD X yf:=by
 intro Zo s Z H x v vl vu lo hi sl Q I a hs pl b h;obtain⟨z,rfl,c,q⟩:=h;obtain⟨t,rfl⟩:=a;obtain⟨l,rfl,d⟩:=part_of pl;obtain⟨u,rfl,hu⟩:=part_of b;subst d;subst hu;refine⟨"str", _,F.slot_str_getitem.lookup,typeIs_str _ _ _,wpAny_getItem_str_slice (l:=l) (u:=u) (st:=none) hs rfl (post_val_or_str ⟨Cc (Txt.slice_le z _ _) c,λt' k=>?_⟩)⟩;exact⟨.str _,H,I.tok k,⟨t',rfl⟩,q⟩
end L2
set_option exponentiation.threshold 5000
namespace L2
variable{f p:Addr}{H:Hp}
def A9(P:Program)(w:World)(K:ZJR)(mg:ZJT)(Zv:Heap)(x:Str)(k:Nat)(ps:List Str)(sp:Sp):Prop:=
 ∃f fd,DB P w K mg Zv E2 k f fd ps sp/\Binds K fd ps []/\PySem.W.keepIn K (.ref f)=true/\mg x=some (.ref f)
section
variable{P:Program}{w:World}{K:ZJR}{mg:ZJT}{Zv:Heap}{x qual:Str}{k:Nat}{ps:List Str}{sp:Sp}{st:Stmt}{fd:FuncData}
theorem A9.mk(F:AF K x qual st f fd)(b:Binds K fd ps [])(m:mg x=some (.ref f))(h:DB P w K mg Zv E2 k f fd ps sp):A9 P w K mg Zv x k ps sp:=⟨f,fd,h,b,F.kp,m⟩
variable{X:Cx}{j:Nat}{p pos:Pos}{e:Expr}{es:List Expr}{t:TA}
def WW(K:ZJR):List V->Hp->VK->Prop:=λxs H Q=>∃(p:Addr)(ys:List V),xs=[.ref p]/\(AK K H p ys∨AD K H p ys)/\Q (.int ys.length) H
theorem Fb:D3 X (.builtin "len") (WW X.K):=EZ
def fY(K:ZJR):List V->Hp->VK->Prop:=λxs H Q=>∃(x:V)(n:String)(t:Value)(b:Bool),xs=[x,.ty n]/\FP K H x t/\PySem.W.kitOne K t (.type n)=some b/\Q (.bl b) H
theorem OR:D3 X (.builtin "isinstance") (fY X.K):=ZHX
theorem K8:Ik X "list.append" P6:=nP
theorem ZHt:Ik X "list.insert" bS:=ZC8
theorem yO:Ik X "list.pop" WQ:=pJ
def ZH4(i j:Int):Prop:=i.natAbs<2 ^ 1000/\j.natAbs<2 ^ 1000
theorem lu{n:Nat}(h:n<2 ^ 1000):n.log2<1000:=by
 rcases Nat.eq_zero_or_pos n with e|e
 .subst e;exact(show(0:Nat).log2<1000 by decide)
 .exact(Nat.log2_lt (M8 e)).mpr h
theorem bits_le{i:Int}(h:i.natAbs<2 ^ 1000):Builtin.Int.intBits i<=2 ^ 20:=by
 unfold Builtin.Int.intBits;split
 .exact CH _
 .have:=lu h;have e:(2:Nat) ^ 20=1048576:=by decide
  omega
theorem LI:BB X (binaryOp .Mult) (rI ZH4 λi j=>.int (i * j)):=SH λ_ _ _ _ _ _ _ a q=>mul_int q (.of_bits (bits_le a.1) (bits_le a.2))
theorem XF:BB X (binaryOp .FloorDiv) (rI (λ_ j=>0<j/\j.natAbs<2 ^ 1000) λi j=>.int (i / j)):=SH λi j _ _ _ _ _ a q=>by
 have h1:(0:Int)<j:=a.1;have h2:=lu a.2;exact floordiv_int (by omega) (by rw[Int.fdiv_eq_ediv_of_nonneg i (by omega)];exact q) (.inl (PyProof.noPylong_of_log2 (by omega)))
theorem yL{body rest:List Stmt}{t u:TS}(e:body=st::rest)(h:PS X st t)(h2:EU X rest u):EU X body (QF t u):=by rw[e];exact xa h h2
def X9(t:TS):TS:=λD Z H=>∃J:St->Hp->Prop,t { D with nx:=J } Z H/\∀ σ' H',J σ' H'->D.nx σ' H'
end
def Gn(p:Addr)(H H':Hp):Prop:=∀b o,b≠p->H b=some o->H' b=some o
theorem Gn.trans{H1 H2:Hp}(a:Gn p H H1)(b:Gn p H1 H2):Gn p H H2:=λc o d e=>b c o d (a c o d e)
theorem Gn.of{H':Hp}(a:A8 H H'):Gn p H H':=λc o _ e=>a c o e
theorem Gn.upd{o:HO}:Gn p H (upd H p o):=λc u a e=>by rw[Af a];exact e
end L2
set_option maxHeartbeats 8000000
namespace L2
variable{ss:List Str}
def FI(acc:List Str)(x:Str):List Str:=if acc.any (· == x)then acc else acc++[x]
def dd(ss:List Str):List Str:=ss.foldl FI []
theorem y3(acc:List Str)(x k:Str):(FI acc x).any (· == k)=(acc.any (· == k) || decide (k=x)):=by
 unfold FI
 by_cases h:acc.any (· == x)=true
 .rw[sZ h]
  by_cases e:k=x
  .subst e;rw[h];simp
  .simp[e]
 .rw[sN h,List.any_append]
  by_cases e:k=x
  .subst e;simp
  .have a:(x == k)=false:=by simpa[beq_iff_eq]using(λh':x=k=>e h'.symm)
   simp[a,e]
theorem iW(acc:List Str)(x:Str):(FI acc x).length=if acc.any (· == x)then acc.length else acc.length+1:=by
 unfold FI;split <;> simp
theorem m7(ss:List Str)(i:Nat)(h:i<ss.length):dd (ss.take (i+1))=FI (dd (ss.take i)) ss[i]:=by
 unfold dd;rw[UC h,ZII];rfl
theorem YD(ss:List Str):(dd ss).length<=ss.length:=by
 have:∀(l acc:List Str),(l.foldl FI acc).length<=acc.length+l.length:=by
  intro l
  induction l with
  |nil=>intro acc;simp
  |cons x r a=>
   intro acc;rw[aq];have h1:=a (FI acc x);rw[iW]at h1;simp only[BK];split at h1 <;> omega
 have q:=this ss [];simp only[U7,Nat.zero_add]at q;exact q
section
variable{prog:Program}{w:World}{A:Around}{R:Result->Shared->Prop}{I:Addr}{fp wr:List Addr}{G:Array GenState->Array GenState->Prop}{n:Nat}{P:Nat->Value->Prop}{St:Nat->Shared->Prop}
variable{E:Value->Shared->Prop}{s:Shared}
theorem sub_tuple_set:isSubtype (.type "tuple") (.type "set")=pure false:=by rw[xQ];kernel_rfl
theorem sub_tuple_frozenset:isSubtype (.type "tuple") (.type "frozenset")=pure false:=by rw[xQ];kernel_rfl
end
noncomputable def ZHL(P:Program)(w:World)(a:Addr)(f:Str->Bool)(n:Nat):HO:=.ext λh=>h.SetOf (strKind P w) a f n
section
variable{X:Cx}
theorem TJ{A4:List Value}(r:Vals (ss.map V.str) A4){i:Nat}{v:Value}(e:A4[i]?=some v):∃(h:i<ss.length)(t:Tok),v=.str ss[i] t:=by
 have c:=r.length;rw[AU]at c;have hi:i<A4.length:=(List.getElem?_eq_some_iff.mp e).1;have a:i<ss.length:=by omega
 have d:(ss.map V.str)[i]?=some (.str ss[i]):=by rw[Am,B7 a];rfl
 obtain⟨u,hu,b⟩:=r.get d;rw[e]at hu;cases hu;obtain⟨t,q⟩:=b;exact⟨a,t,q⟩
end
end L2
set_option maxHeartbeats 4000000
namespace L2
variable{X:Cx}{a c e l o tg:Expr}{es ifs:List Expr}{body rest:List Stmt}{t tb:TS}{tc tt:TT}{te tl to:TE}{p pos pos' px:Pos}{name x y:Str}{FQ op:CmpOp}{r:V->List V->Hp->VK->Prop}{ps ss:List Str}{sp:Sp}{T:String}{wi:TI}{i n:Nat}{g:TG}{w:World}{I f:Addr}{E Q:Value->Shared->Prop}
structure QE (X:Cx) (e:Expr) (t:TE):Prop where h:PE X e t
structure QT (X:Cx) (e:Expr) (t:TT):Prop where h:PT X e t
structure QW (X:Cx) (e:Expr) (t:TT):Prop where h:PW X e t
structure QA (X:Cx) (es:List Expr) (t:TA):Prop where h:PA X es t
structure QS (X:Cx) (st:Stmt) (t:TS):Prop where h:PS X st t
structure GJ (X:Cx) (st:List Stmt) (t:TS):Prop where h:EU X st t
structure QG (X:Cx) (tg:Expr) (t:TG):Prop where h:PG X tg t
structure Qz (X:Cx) (ts:List Expr) (t:Hs):Prop where h:Ph X ts t
structure QI (X:Cx) (tg iter:Expr) (wi:TI):Prop where h:PI X tg iter wi
structure TR (X:Cx) (ifs:List Expr) (t:TT):Prop where h:JH X ifs t
structure QO (X:Cx) (e:Option Expr) (t:TO):Prop where h:PO X e t
section
variable{b:Expr}{rest:List Expr}{ta tb tc:TE}{tA JP:TT}{t:TA}{p2 apos D4:Pos}
theorem qv(i:Nat)(k:X.N[i]?=some x:=by rfl)(hv:VT X.env.scope x:=by first|exact Or.inl rfl|exact Or.inr (Or.inl rfl)|exact Or.inr (Or.inr rfl))(hd:(x == ("__debug__":Str))=false:=by decide)
  (HE:(x == ("__classdict__":Str))=false:=by decide):QE X (.Name x pos) (BX i):=⟨by
 intro Zo s Z H Q I h;obtain⟨v,e,h⟩:=h;obtain⟨m,hn,j⟩:=I.loc;obtain⟨u,r,l⟩:=j i x v k e hv;have b:EP X Zo Z Q u s:=⟨v,H,I,r,h⟩;rcases l with⟨a,g⟩|⟨a,c,f,d⟩
 .exact wpAny_Name (wpAny_loadName_local I.ok.kind a hn g b) hd
 .rcases a with a|a
  .exact wpAny_Name (wpAny_loadName_cell I.ok.kind a f d b) hd
  .exact wpAny_Name (wpAny_loadName_free I.ok.kind a f d b HE) hd⟩
theorem A7{i j pos}:QE X (.Constant (.int i) j pos) (tC (.int i)):=⟨λ_ _ _ H _ I h=>wpAny_Constant_int ⟨.int i,H,I.tok _,⟨_,rfl⟩,h⟩⟩
theorem GY{b j pos}:QE X (.Constant (.bool b) j pos) (tC (.bl b)):=⟨λ_ _ _ H _ I h=>Constant_bool ⟨.bl b,H,I,rfl,h⟩⟩
theorem Rx{j pos}:QE X (.Constant .none j pos) (tC .AB):=⟨λ_ _ _ H _ I h=>Constant_none ⟨.AB,H,I,rfl,h⟩⟩
theorem Ap{x j pos}:QE X (.Constant (.str x) j pos) (tC (.str x)):=⟨λ_ _ _ H _ I h=>Calls.Constant_str ⟨.str x,H,I.tok _,⟨_,rfl⟩,h⟩⟩
theorem Js{v:V}{u:Value}(hg:Gl X x)(a:X.mg x=some u)(r:RelV v u)(hd:(x == ("__debug__":Str))=false:=by decide):QE X (.Name x pos) (tC v):=⟨λ_ _ _ H _ I h=>Xj I hg a ⟨v,H,I,r,h⟩ hd⟩
theorem OP(T:String)(a:X.mg x=none)(hg:Gl X x:=by rfl)(hv:bootBuiltins x=some (.type T):=by decide +kernel)(hn:x ≠"__name__" := by decide)(hd:(x == ("__debug__":Str))=false:=by decide):
  QE X (.Name x pos) (tC (.ty T)):=⟨ZHv hg a hv rfl hn hd⟩
theorem Ay{op:Operator}{r:R2}(ho:BB X (binaryOp op) r)(d:QE X a ta)(c:QE X b tb):QE X (.BinOp a op b pos) (Bv r ta tb):=⟨by
 have d:=d.h;have c:=c.h;intro Zo s Z H Q I h;exact wpAny_BinOp (VS d c I h λv u s2 x y H2 I2 f e q=>ho Zo s2 Z H2 x y v u Q I2 f e q)⟩
theorem se{r:R2}(ho:BB X (compareOp op) r)(d:QE X a ta)(c:QE X b tb)(g:behindInMarks op b=false):QE X (.Compare a [op] [b] pos) (Bv r ta tb):=⟨by
 have d:=d.h;have c:=c.h;intro Zo s Z H Q I h;exact wpAny_Compare1 (VS d c I h λv u s2 x y H2 I2 f e q=>ho Zo s2 Z H2 x y v u Q I2 f e q) g⟩
theorem qL{r:R2}(ho:BB X (compareOp op) r)(e:QE X a ta)(d:QE X b tb)(c:behindInMarks op b=false):QT X (.Compare a [op] [b] pos) (L4 (Bv r ta tb)):=⟨ZBI ho e.h d.h c⟩
theorem gH{r l:R2}(ho:BB X (compareOp op) r)(EX:BB X (compareOp FQ) l)(i:QE X a ta)(g:QE X b tb)(f:QE X c tc)
  (D:lastMarks [op,FQ] [b,c]=false:=by with_unfolding_all rfl):QE X (.Compare a [op,FQ] [b,c] pos) (Pg r l ta tb tc):=⟨by
 have i:=i.h;have g:=g.h;have f:=f.h;intro Zo s Z H Q I h;refine Compare_chain (i.k I h λv s1 x H1 I1 w C=>chain_link (g.k I1 C λu s2 y H2 I2 j B=>
  B9 (ho Zo s2 Z H2 x y v u _ I2 w j B) λd p⟨z,H3,I3,t,k,e,m⟩=>?_)) D
 subst e;cases t;refine vZ ?_;cases k with
 |false=>exact ite_ff ⟨.bl false,H3,I3,rfl,m⟩
 |true=>exact ite_tt (chain_last (B9 (f Zo p Z H3 _ I3 m) λo s4⟨n,H4,I4,q,A⟩=>EX Zo s4 Z H4 y n u o Q I4 j q A))⟩
theorem MQ{r l:R2}(ho:BB X (compareOp op) r)(EX:BB X (compareOp FQ) l)(i:QE X a ta)(g:QE X b tb)(f:QE X c tc)
  (G:lastMarks [op,FQ] [b,c]=false:=by with_unfolding_all rfl):QT X (.Compare a [op,FQ] [b,c] pos) (L4 (Pg r l ta tb tc)):=⟨by
 have i:=i.h;have g:=g.h;have f:=f.h;intro Zo s Z H Q I h;refine isTrue_chain (i.k I h λv s1 x H1 I1 A E=>test_link (g.k I1 E λu s2 y H2 I2 j D=>
  B9 (ho Zo s2 Z H2 x y v u _ I2 A j D) λd p⟨z,H3,I3,w,k,e,m⟩=>?_)) G
 subst e;cases w;refine vZ ?_;cases k with
 |false=>
  obtain⟨k',K,F⟩:=m;cases K;exact ite_ff ⟨H3,I3,F⟩
 |true=>
  refine ite_tt (test_last (B9 (f Zo p Z H3 _ I3 m) λo s4⟨n,H4,I4,t,C⟩=>B9 (EX Zo s4 Z H4 y n u o _ I4 j t C) λd' M ZE6=>?_));obtain⟨L,H5,I5,q,k2,J,B⟩:=ZE6;subst J;cases q;exact vZ ⟨H5,I5,B⟩⟩
theorem Kg{op}(h:QE X a ta):QE X (.BoolOp op [a] pos) ta:=⟨by have h:=h.h;exact λZo s Z H Q I hw=>BoolOp_one (h Zo s Z H Q I hw)⟩
theorem Jc(f:QE X a ta)(e:QE X (.BoolOp .And (b::rest) pos) tb):QE X (.BoolOp .And (a::b::rest) pos) (Zh ta tb):=⟨by
 have f:=f.h;have e:=e.h;intro Zo s Z H Q I h;refine BoolOp_and (f.k I h λv s1 x H1 I1 g d=>?_);obtain⟨c,rfl,d⟩:=d;cases g;refine vZ ?_;cases c with
 |true=>exact e Zo s1 Z H1 Q I1 d
 |false=>exact⟨.bl false,H1,I1,rfl,d⟩⟩
theorem ZAG(f:QE X a ta)(e:QE X (.BoolOp .Or (b::rest) pos) tb):QE X (.BoolOp .Or (a::b::rest) pos) (cE ta tb):=⟨by
 have f:=f.h;have e:=e.h;intro Zo s Z H Q I h;refine BoolOp_or (f.k I h λv s1 x H1 I1 g d=>?_);obtain⟨c,rfl,d⟩:=d;cases g;refine vZ ?_;cases c with
 |false=>exact e Zo s1 Z H1 Q I1 d
 |true=>exact⟨.bl true,H1,I1,rfl,d⟩⟩
theorem ZCs(d:QE X a ta):QE X (.UnaryOp .Not a pos) (WT ta):=⟨by
 have d:=d.h;intro Zo s Z H Q I h;refine UnaryOp_ (d.k I h λv s1 x H1 I1 e b=>?_);obtain⟨c,rfl,b⟩:=b;cases e;exact not_of (vZ ⟨.bl (!c),H1,I1,rfl,b⟩)⟩
theorem JY(b:QT X a tA):QW X (.BoolOp .And [a] pos) tA:=⟨by
 have b:=b.h;intro d Zo s Z H Q I h;refine isTrue_and (B9 (b Zo s Z H Q I h) λc s1 e=>?_);cases c with
 |true=>exact isTrue_and_nil e
 |false=>exact e⟩
theorem HR(b:QT X a tA):QW X (.BoolOp .Or [a] pos) tA:=⟨by
 have b:=b.h;intro d Zo s Z H Q I h;refine isTrue_or (B9 (b Zo s Z H Q I h) λc s1 e=>?_);cases c with
 |false=>exact isTrue_or_nil e
 |true=>exact e⟩
theorem Ke(e:QT X a tA)(d:QW X (.BoolOp .And (b::rest) pos) JP):QW X (.BoolOp .And (a::b::rest) pos) (V3 tA JP):=⟨by
 have e:=e.h;have d:=d.h;intro g Zo s Z H Q I h;refine isTrue_and (B9 (e Zo s Z H _ I h) λc s1 LB=>?_);obtain⟨H1,I1,f⟩:=LB;cases c with
 |true=>exact d g Zo s1 Z H1 Q I1 f
 |false=>exact⟨H1,I1,f⟩⟩
theorem GH(e:QT X a tA)(d:QW X (.BoolOp .Or (b::rest) pos) JP):QW X (.BoolOp .Or (a::b::rest) pos) (WV tA JP):=⟨by
 have e:=e.h;have d:=d.h;intro g Zo s Z H Q I h;refine isTrue_or (B9 (e Zo s Z H _ I h) λc s1 LB=>?_);obtain⟨H1,I1,f⟩:=LB;cases c with
 |true=>exact⟨H1,I1,f⟩
 |false=>exact d g Zo s1 Z H1 Q I1 f⟩
theorem QW.pt{t:TT}(h:QW X e t):QT X e t:=⟨h.h.pt⟩
theorem DW(b:QT X a tA):QT X (.UnaryOp .Not a pos) (Pe tA):=⟨by
 have b:=b.h;intro Zo s Z H Q I h;exact isTrue_not (b Zo s Z H (λc H1=>Q (!c) H1) I h)⟩
theorem Ew(h:QE X e te)(f:∀a,isTrue e X.env a=(do let v <- a;standAt e.pos;holding [v] (truthy v)):=by intro _;rfl):QT X e (tB te):=⟨by
 have h:=h.h;intro Zo s Z H Q I hw;refine isTrue_plain (h.k I hw λv s1 x H1 I1 b c=>?_) (f _);obtain⟨d,rfl,q⟩:=c;cases b;exact vZ ⟨H1,I1,q⟩⟩
theorem A5:QA X [] BC:=⟨λ_ _ _ _ H Q I h=>Calls.spliced_nil ⟨[],H,I,.nil,h⟩⟩
theorem A0(b:QE X e te)(a:QA X es t)(hs:EH X e es:=by rfl):QA X (e::es) (Ab te t):=⟨ZCq b.h a.h hs⟩
theorem Bn{x1}(h:QA X es t):QE X (.Tuple es x1 pos) (Nn t):=⟨ZEx h.h⟩
theorem FA(h:QA X es t):QE X (.List es pos) (TM t):=⟨qx h.h⟩
theorem Dt:QO X none WJ:=⟨by
 intro Zo s Z H Q I h;rw[evalPart_none];exact pq ⟨none,H,I,.none,h⟩⟩
theorem Cu(h:QE X e te):QO X (some e) (ZX te):=⟨by
 have h:=h.h;intro Zo s Z H Q I hw;rw[evalPart_some];refine B9 (h Zo s Z H _ I hw) λu s1 Xn=>?_;obtain⟨x,H1,I1,a,b⟩:=Xn;obtain⟨i,rfl,q⟩:=b;obtain⟨t,rfl⟩:=a;exact⟨some i,H1,I1,.int i t,q⟩⟩
theorem DF{r:V->Option Int->Option Int->Hp->VK->Prop}{lo hi:Option Expr}{tl th:TO}(o:KD X r)(d:QE X e te)(c:QO X lo tl)(hu:QO X hi th):QE X (.Subscript e (.Slice lo hi none p2) pos) (OL r te tl th):=⟨by
 have d:=d.h;have c:=c.h;have hu:=hu.h;intro Zo s Z H Q I h;refine Subscript_ (d.k I h λv s1 x H1 I1 f j=>?_);refine wpAny_Slice (B9 (c Zo s1 Z H1 _ I1 j) λvl s2⟨l,H2,I2,pl,i⟩=>B9 (hu Zo s2 Z H2 _ I2 i) λvu a Yt=>?_);obtain⟨u,H3,I3,m,g⟩:=Yt;rw[evalPart_none];refine pq ?_;have t:Inv X Zo Z H3 { a with heap:=a.heap.push { cls:=.type "slice", data:=.fields #[vl,vu,.none] } }:=I3.kept (t':=a.toks) λb ob q=>BH _ q
 obtain⟨T,id,p,n,hg⟩:=o Zo { a with heap:=a.heap.push { cls:=.type "slice", data:=.fields #[vl,vu,.none] } } Z H3 x v vl vu l u a.heap.objs.size Q t f (Heap.IsSliceOf.new ..) pl m g
 show wpAny (model X.prog X.w) X.A (subscriptTail e (.Slice lo hi none p2) v (.ref a.heap.objs.size)) (EP X Zo Z Q) X.xe { a with heap:=a.heap.push { cls:=.type "slice", data:=.fields #[vl,vu,.none] } }
 exact tail_any (ops:=[.ref a.heap.objs.size,v]) n p hg (by with_unfolding_all rfl)⟩
theorem rH{r:R2}(g:FU X r)(d:QE X a ta)(c:QE X b tb)(hs:UL b):QE X (.Subscript a b pos) (Bv r ta tb):=⟨by
 have d:=d.h;have c:=c.h;intro Zo s Z H Q I h;exact Subscript_ (VS d c I h λv u s2 x y H2 I2 f e q=>g a b Zo s2 Z H2 x y v u Q I2 f e q (hs _ _))⟩
theorem yG{j k:Nat}(h:A9 X.prog X.w X.K X.mg X.base x k ps sp)(c:BW j X.A)(d:k<=j)(a:QA X (e::es) t)(hg:Gl X x:=by rfl)(D9:(x == ("__debug__":Str))=false:=by decide)
  (he:EH X e es:=by rfl) (Bb:BEq X pos es:=by rfl):QE X (.Call (.Name x p) (e::es) [] pos) (CZ sp [] E0 t):=⟨by
 have a:=a.h;obtain⟨f,fd,F,b,kp,m⟩:=h;exact ZEs (F.mono d) c hg m kp b .nil RH a D9 he Bb⟩
theorem ZEY{id:String}{r:List V->Hp->VK->Prop}(g:D3 X (.builtin id) r)(hg:Gl X x)(f:X.mg x=none)(d:bootBuiltins x=some (.builtin id))(a:QA X (e::es) t)(hn:x ≠"__name__" := by decide)(D9:(x == ("__debug__":Str))=false:=by decide)
  (he:EH X e es:=by rfl) (Bb:BEq X pos es:=by rfl):QE X (.Call (.Name x p) (e::es) [] pos) (DL r t):=⟨by
 have a:=a.h;intro Zo s Z H Q I h;refine z6 (Kx I hg f d ?_ hn D9);exact PyProof.Rows.callWith_builtin1 (B9 (a pos Zo s Z H _ I h) λus s1 AV=>by obtain⟨vs,H1,I1,b,c⟩:=AV;exact g Zo s1 Z H1 vs us Q I1 b c) he Bb⟩
theorem ZHN{r:List V->Hp->VK->Prop}(g:D3 X (.type T) r)(hg:Gl X x)(f:X.mg x=none)(d:bootBuiltins x=some (.type T))(a:QA X (e::es) t)(hn:x ≠"__name__" := by decide)(D9:(x == ("__debug__":Str))=false:=by decide)
  (he:EH X e es:=by rfl) (Bb:BEq X pos es:=by rfl):QE X (.Call (.Name x p) (e::es) [] pos) (DL r t):=⟨by
 have a:=a.h;intro Zo s Z H Q I h;refine z6 (Kx I hg f d ?_ hn D9);exact UG (B9 (a pos Zo s Z H _ I h) λus s1 AV=>by obtain⟨vs,H1,I1,b,c⟩:=AV;exact g Zo s1 Z H1 vs us Q I1 b c) he Bb⟩
theorem uC{id:String}(pa:PlainAttrs T)(slot:Slot T name id)(Ky:typeOf (.builtin id)=pure (.type "method_descriptor"))(c:Ik X id r)(ho:QE X o to)
  (Ld:attributeBase o name X.env (eval o X.env)=eval o X.env:=by rfl) (Kw:(apos.endLine == D4.line)=true:=by rfl):QE X (.Call (.Attribute o name apos) [] [] D4) (XW X.K T r to):=⟨by
 have ho:=ho.h;intro Zo s Z H Q I h;refine wpAny_Call_method0_late Ld Kw (ho.k I h λv s1 x H1 I1 a Xn=>?_);obtain⟨ty,b⟩:=Xn;obtain⟨h1,h2⟩:=kA I1 a ty;exact⟨T,id,pa,slot,Ky,h1,h2,ZI8 rfl (PySem.evalArgs_none (c Zo s1 Z H1 x [] v [] Q I1 a .nil b))⟩⟩
theorem G7{id:String}(pa:PlainAttrs T)(slot:Slot T name id)(Ky:typeOf (.builtin id)=pure (.type "method_descriptor"))(i:Ik X id r)(ho:QE X o to)(a:QA X (e::es) t)
  (Ld:attributeBase o name X.env (eval o X.env)=eval o X.env:=by rfl)
  (ZN:((backTo D4 (starEach (e::es) X.env)).all (λx=>!x.1) && (backToKw D4 (keywordEach [] X.env)).all (λx=>x.1.isSome)
   && decide ((e::es).length+([]:List Keyword).length+(if([]:List Keyword).isEmpty then 0 else 1)<30))=true:=by rfl)
  (Kw:(apos.endLine == D4.line)=true:=by rfl) (hs:EH X e es:=by rfl) (Wr:BEq X D4 es:=by rfl) :
  QE X (.Call (.Attribute o name apos) (e::es) [] D4) (QR X.K T r to t):=⟨by
 have ho:=ho.h;have a:=a.h;intro Zo s Z H Q I h;refine wpAny_Call_method_late Ld ZN Kw rfl (ho.k I h λv s1 x H1 I1 b ZDu=>?_);obtain⟨ty,g⟩:=ZDu;obtain⟨h1,h2⟩:=kA I1 b ty;refine⟨T,id,pa,slot,Ky,h1,h2,?_⟩;have c:=a D4 Zo s1 Z H1 _ I1 g;rw[hs]at c ⊢;refine ZI8 (by show(false || (backTo D4 (starEach es X.env)).any (·.1))=false;rw[Wr] <;> rfl) (Calls.evalArgs_plain ?_)
 exact B9 c λus s2 AV=>by obtain⟨vs,H2,I2,d,f⟩:=AV;exact i Zo s2 Z H2 x vs v us Q I2 b d f⟩
variable{elt iter:Expr}{scope:Scope}{Ah:List Str}{js:List Nat}
theorem DS(d:QE X l tl):QI X tg l (OX X.K tl):=⟨by
 have d:=d.h;intro Zo s Z H R I h;refine d.k I h λv s1 x H1 I1 i j=>?_;obtain⟨tp,a,xs,e,f,q⟩:=j;subst e;cases i;have c:∀b∈[s1.heap.objs.size],Ed X Zo H1 b:=λb n=>by
  have e:b=s1.heap.objs.size:=by simpa using n
  subst e;exact I1.NI (Ag _) (I1.AO.fresh (Ag _))
 cases tp with
 |false=>
  obtain⟨A4,g,p,m⟩:=I1.list f;refine ZBC p.isList ?_;exact⟨s1.heap.objs.size,[s1.heap.objs.size],_,_,H1,rfl,I1.kept (t':=s1.toks) λb o e=>BH _ e,qh a _ xs,⟨_,Ba _ rfl,rfl,rfl⟩,c,q⟩
 |true=>
  obtain⟨A4,g,p,m⟩:=I1.tuple f;refine wpAny_pyIter_tuple (show s1.heap.IsTuple a A4.toArray from p) ?_;exact⟨s1.heap.objs.size,[s1.heap.objs.size],_,_,H1,rfl,I1.kept (t':=s1.toks) λb o e=>BH _ e,vd a _ xs,⟨_,Ba _ rfl,rfl,rfl⟩,c,q⟩⟩
theorem ye(c:QE X l tl):QI X tg l (fZ tl):=⟨by
 have c:=c.h;intro Zo s Z H R I h;refine c.k I h λv s1 x H1 I1 g i=>?_;obtain⟨z,e,q⟩:=i;subst e;obtain⟨t,rfl⟩:=g;have a:∀b∈[s1.heap.objs.size],Ed X Zo H1 b:=λb j=>by
  have e:b=s1.heap.objs.size:=by simpa using j
  subst e;exact I1.NI (Ag _) (I1.AO.fresh (Ag _))
 have kp:∀(ob:Obj),Inv X Zo Z H1 { s1 with heap:=s1.heap.push ob }:=λob=>I1.kept (t':=s1.toks) λb o e=>BH _ e
 cases f:z.cps.all (· < 128)
 .refine wpAny_pyIter_wide f ?_;exact⟨s1.heap.objs.size,[s1.heap.objs.size],_,_,H1,rfl,kp _,fK (t:=t) (by decide) (λA' d=>Walks.strWide d _ z t) (λ_ _ _ _ _ st h=>wpAny_pyIter_striter_wide st h),⟨_,Ba _ rfl,rfl,rfl⟩,a,q⟩
 .refine wpAny_pyIter_ascii f ?_;exact⟨s1.heap.objs.size,[s1.heap.objs.size],_,_,H1,rfl,kp _,fK (t:=t) (by decide) (λA' d=>Walks.strAscii d _ z t) (λ_ _ _ _ _ st h=>wpAny_pyIter_striter_ascii st h),⟨_,Ba _ rfl,rfl,rfl⟩,a,q⟩⟩
theorem Kf{ta:TA}(hg:Gl X "range")(i:X.mg "range"=none)(c:QA X [a] ta)(hs:starEach [a] X.env=[(false,eval a X.env)]:=by rfl):QI X tg (.Call (.Name "range" p) [a] [] pos) (WC ta):=⟨by
 have c:=c.h;intro Zo s Z H R I h;refine Call_ (Kx I hg i boot_range (UG (c.k pos I h λus s1 vs H1 I1 f b=>?_) hs rfl));obtain⟨j,e,b,g,q⟩:=b;subst e;cases f with
 |cons r d=>
  cases d;obtain⟨t,rfl⟩:=r;exact call_range_1 (ZFb I1 (by omega) (by omega) b g (by simpa using q))⟩
theorem Q8:TR X [] Mg:=⟨λZo s Z H Q I h=>by
 rw[o3];exact pq ⟨H,I,h⟩⟩
theorem Fh{t:TT}(a:QT X c t):TR X [c] t:=⟨vz a.h⟩
theorem Fx(a:X.calm=true)(S:Cr X.N X.env.scope scope x Ah js)(hi:QI X (.Name x px) iter wi)
  (FG:∀fp C s H,TR (Jd X (Ah++[x]) scope (Cd X.env.cells scope.names) C s H fp) ifs tt) (FF:∀fp C s H,QE (Jd X (Ah++[x]) scope (Cd X.env.cells scope.names) C s H fp) elt te)
  (hs:∀v,foldedSetIterable iter X.env v=pure v:=by intro _;rfl):QE X (.ListComp elt [⟨.Name x px,iter,ifs,0⟩] scope pos) (IG wi js tt te):=⟨qQ a S hi.h (λfp C s H=>(FG fp C s H).h) (λfp C s H=>(FF fp C s H).h) hs⟩
theorem QQ{py JZ:Pos}(c:X.N.Nodup)(Dc:X.N[i]?=some y)(a:Loc X.env.scope y)(b:X.calm=true)(S:Cr X.N X.env.scope scope x Ah js)(hi:QI X (.Name x px) iter wi)
  (FG:∀fp C s H,TR (Jd X (Ah++[x]) scope (Cd X.env.cells scope.names) C s H fp) ifs tt) (FF:∀fp C s H,QE (Jd X (Ah++[x]) scope (Cd X.env.cells scope.names) C s H fp) elt te)
  (Nh:swapsWith (.ListComp elt [⟨.Name x px,iter,ifs,0⟩] scope pos) (some (.Name y py)) JZ.line X.env=pure true:=by rfl)
  (hf:X.fn y=true∨X.env.scope.names.lookup y=some .local:=by first|exact .inl rfl|exact .inr rfl|assumption)
  (hs:∀v,foldedSetIterable iter X.env v=pure v:=by intro _;rfl):QS X (.Assign [.Name y py] (.ListComp elt [⟨.Name x px,iter,ifs,0⟩] scope pos) JZ) (GC (IG wi js tt te) (Du i)):=
 ⟨ZEj c Dc a b S hi.h (λfp C s H=>(FG fp C s H).h) (λfp C s H=>(FF fp C s H).h) Nh hf hs⟩
theorem ZAI(b:X.N.Nodup)(hi:X.N[i]?=some x)(hx:Loc X.env.scope x)(a:X.fn x=true∨X.env.scope.names.lookup x=some .local:=by first|exact .inl rfl|exact .inr rfl|assumption):QG X (.Name x pos) (Du i):=⟨kC b hi hx a⟩
theorem O2:Qz X [] WO:=⟨by
 intro Zo s Z H vs us Q I r h;obtain⟨e,h⟩:=h;subst e;cases r;exact assignInOrder_nil ⟨Z,H,I,h⟩⟩
theorem Gm{t:TG}{u:Hs}(h1:QG X e t)(h2:Qz X es u)
  (hs:(assignEach (e::es) X.env).map (·.2)=assign e X.env::(assignEach es X.env).map (·.2):=by rfl):Qz X (e::es) (SQ t u):=⟨by
 have h1:=h1.h;have h2:=h2.h;intro Zo s Z H vs us Q I r h;obtain⟨v,d,c,h⟩:=h;subst c;cases r with
 |cons r a=>
  rw[hs];refine assignInOrder_cons (B9 (h1 Zo s Z H _ _ _ I r h) λ_ s1 ZA9=>?_);obtain⟨σ1,H1,I1,b⟩:=ZA9;exact h2 Zo s1 σ1 H1 _ _ Q I1 a b⟩
theorem Pn{k:Nat}{t:Hs}(i:X.calm=true)(h:Qz X es t)(hn:(assignEach es X.env).length=n:=by rfl)(Cf:(assignEach es X.env).findIdx? (·.1)=none:=by rfl):QG X (.Tuple es k pos) (Ww X.K n t):=⟨by
 have h:=h.h;intro Zo s Z H v u Q I r hw;obtain⟨a,xs,j,f,g,hw⟩:=hw;subst j;cases r;obtain⟨A4,c,d,m⟩:=I.tuple f;refine assign_Tuple_tuple (I.ok.hd i) d (by simp[hn,<- g,c.length]) Cf λh' hx=>?_;have l:Inv X Zo Z H { s with heap:=h' }:=I.kept (t':=s.toks) λb o e=>hx b o (BP (BE e)) e
 exact h Zo _ Z H xs _ Q l (by simpa using c) hw⟩
theorem mH{i:Expr}{ti:TE}{t:Rm}(ho:QE X o to)(hi:QE X i ti)(hs:Y3 X t)
  (l:∀v,assign (.Subscript o i pos) X.env v=(do
   let a <- holding [v] (eval o X.env)
   let b <- holding [v,a] (eval i X.env)
   standAt pos
   holding [v,a,b] (setItem a b v)
   release [v,a,b] []):=by intro _;rfl):QG X (.Subscript o i pos) (dq to ti t):=⟨by
 have ho:=ho.h;have hi:=hi.h;intro Zo s Z H v u Q I r h;rw[l];refine pN (x6 (ho.k I h λa s1 x H1 I1 e j=>?_));refine pN (x6 (hi.k I1 j λb s2 y H2 I2 d g=>?_));refine pN (wpAny_standAt (pN (x6 (B9 (hs Zo s2 Z H2 x y v a b u _ I2 e d r g) λ_ m c=>?_))));obtain⟨H3,I3,f⟩:=c;exact wpAny_release ⟨Z,H3,I3,f⟩⟩
end
section
variable{st:Stmt}{u:TS}
theorem Az:GJ X [] Ur:=⟨λ_ _ Z H _ I h=>ZAw ⟨Z,H,I,h⟩⟩
theorem AH(e:body=st::rest)(h:QS X st t)(h2:GJ X rest u):GJ X body (QF t u):=⟨yL e h.h h2.h⟩
theorem AE(e:body=[st])(h:QS X st t):GJ X body t:=⟨by have h:=h.h;rw[e];exact ZFG h⟩
theorem Dq:QS X st cz:=⟨λ_ _ _ _ _ _ h=>h.elim⟩
theorem D5(a:QE X e te)(hs:swapsWith e none pos.line X.env=pure false:=by rfl):QS X (.Expr e pos) (Je te):=⟨by
 have a:=a.h;intro Zo s Z H D I h;exact wpAny_Expr_any (B9 (a Zo s Z H _ I h) λv s1 AV=>by obtain⟨x,H1,I1,c,b⟩:=AV;exact⟨Z,H1,I1,b⟩) I.quiet hs⟩
theorem AZ(a:QE X e te):QS X (.Return (some e) pos) (JF te):=⟨by
 have a:=a.h;intro Zo s Z H D I h;exact wpAny_Return_some (B9 (a Zo s Z H _ I h) λv s1 AV=>by obtain⟨x,H1,I1,b,c⟩:=AV;exact⟨x,Z,H1,I1,b,c⟩)⟩
theorem Ao{a b:List Stmt}(e:QT X c tc)(g:GJ X a t)(f:GJ X b u):QS X (.If c a b pos) (NQ tc t u):=⟨by
 have e:=e.h;have g:=g.h;have f:=f.h;intro Zo s Z H D I h;refine wpAny_If (B9 (e Zo s Z H _ I h) λd s1 LB=>?_);obtain⟨H1,I1,i⟩:=LB;cases d with
 |true=>exact g Zo s1 Z H1 D I1 i
 |false=>exact f Zo s1 Z H1 D I1 i⟩
theorem PK(a:QE X e te)(hg:QG X tg g)(hs:swapsWithSole [tg] e pos.line X.env=pure false:=by rfl)(hw:swappedStores [tg] e X.env=pure none:=by rfl)
  (h1:(assignEach [tg] X.env).map (·.2)=[assign tg X.env]:=by rfl):QS X (.Assign [tg] e pos) (GC te g):=⟨by
 have a:=a.h;have hg:=hg.h;intro Zo s Z H D I h;refine wpAny_Assign_stores (a.k I h λv s1 x H1 I1 b c=>?_) hs hw;rw[h1];exact B9 (hg Zo s1 Z H1 x v _ I1 b c) λ_ s2 q=>q⟩
theorem ZDh(d:X.N.Nodup)(hi:X.N[i]?=some x)(hx:Loc X.env.scope x)(a:QE X e te)(hs:swapsWith e (some (.Name x pos')) pos.line X.env=pure false:=by rfl)(hf:X.fn x=true∨X.env.scope.names.lookup x=some .local:=by first|exact .inl rfl|exact .inr rfl|assumption):
  QS X (.Assign [.Name x pos'] e pos) (GC te (Du i)):=⟨by
 have a:=a.h;intro Zo s Z H D I h;refine wpAny_Assign_Name (a.k I h λv s1 y H1 I1 b c=>?_) hs;exact hE I1 d hi hx b (λs2 I2=>⟨_,H1,I2,c⟩) hf⟩
theorem X6(hp:PassesOwn (model X.prog X.w) X.A X.env X.xe)(k:QT X c tc)(l:GJ X body tb):QS X (.While c body [] pos) (YH tc tb):=⟨by
 have k:=k.h;have l:=l.h;intro Zo s Z H D I h;obtain⟨W,⟨r,p⟩,turn⟩:=h;refine wpAny_While (codeAny_whileLoop (λn s'=>∃ σ' H',Inv X Zo σ' H' s'/\W n σ' H') ?_ r ⟨Z,H,I,p⟩);rintro n s1⟨σ1,H1,I1,o⟩;refine ZAB hp (B9 (k Zo s1 σ1 H1 _ I1 (turn n σ1 H1 o)) λb s2 q=>?_);obtain⟨H2,I2,d⟩:=q;cases b with
 |true=>
  obtain⟨N,m,d⟩:=d;rw[sZ rfl];refine ZAB hp (B9 (l Zo s2 σ1 H2 _ I2 d) λf t a=>?_);cases f with
  |next=>
   obtain⟨σ3,H3,I3,g⟩:=a;obtain⟨i,j,e⟩:=m σ3 H3 g;exact⟨i,j,σ3,H3,I3,e⟩
  |cont=>
   obtain⟨σ3,H3,I3,g⟩:=a;obtain⟨i,j,e⟩:=m σ3 H3 g;exact⟨i,j,σ3,H3,I3,e⟩
  |brk=>exact a
  |ret v=>exact a
 |false=>
  rw[sN DO];exact ZAw ⟨σ1,H2,I2,d⟩⟩
theorem Fy{iter:Expr}(hp:PassesOwn (model X.prog X.w) X.A X.env X.xe)(E:X.calm=true)(hi:QI X tg iter wi)(hg:QG X tg g)(a:GJ X body tb)
  (hs:∀x,foldedSetIterable iter X.env x=pure x:=by intro _;rfl):QS X (.For tg iter body [] pos) (RC wi g tb):=⟨by
 have hi:=hi.h;have hg:=hg.h;have a:=a.h;intro Zo s Z H D I h;refine wpAny_For (B9 (hi Zo s Z H _ I h) λv s1 h1=>B9 h1 λSb s2 h2=>?_) hs;obtain⟨it,fp,tn,J,H2,e,I2,T,Gh,F,W,⟨Y,P⟩,turn⟩:=h2;subst e
 -- ZEq stays true of HN ZIo objects through HN loop
 have q:∀{H':Hp},(∀b∈fp,H' b=none)->∀b∈fp,Ed X Zo H' b:=λhn b a=>⟨hn b a,(F b a).2⟩;refine codeAny_forLoop_any (λn s'=>∃i σ' H',Inv X Zo σ' H' s'/\tn i s'.heap/\(∀b∈fp,H' b=none)/\W i n σ' H') ?_ Y ⟨0,Z,H2,I2,Gh,λb a=>(F b a).1,P⟩;rintro n z⟨i,σ3,H3,I3,C,B,O⟩;rcases turn i n σ3 H3 O with⟨stop,U⟩|⟨go,N,hN,step⟩
 .refine ZAB hp (B9 (T.done X rfl rfl rfl E i Zo z σ3 H3 X.xe I3 (q B) C stop) λr s4 ZHf=>?_);obtain⟨p,I4⟩:=ZHf;subst p;exact ZAw ⟨σ3,H3,I4,U⟩
 .refine ZAB hp (B9 (T.item X rfl rfl rfl E i Zo z σ3 H3 X.xe I3 (q B) C go) λr s4 ZAk=>?_);obtain⟨u,p,h4⟩:=ZAk;subst p;refine ZAB hp (B9 h4 λ_ y G=>?_);obtain⟨x,H5,I5,S,K,N8,SM⟩:=G;have t:=I5.pinned (q SM) (T.obj _ _ N8);refine ZAB hp (B9 (hg _ y σ3 H5 x u _ t S (step x H5 K)) λ_ Q ZBA=>?_);obtain⟨σ6,H6,I6,V⟩:=ZBA;refine ZAB hp (B9 (a _ Q σ6 H6 _ I6 V) λf l j=>?_);have c:∀{σ7:St}{H7:Hp},Inv X (Zo++Oe fp y.heap) σ7 H7 l->N σ7 H7->∃m,m<n/\∃i σ' H',Inv X Zo σ' H' l/\tn i l.heap/\(∀b∈fp,H' b=none)/\W i m σ' H':=λ{σ7 H7}I7 k=>by
   obtain⟨σ,hm,M⟩:=hN σ7 H7 k;refine⟨σ,hm,i+1,σ7,H7,I7.Py,T.keep _ _ _ N8 λb a o e=>(I7.pin (b,o) (DE _ (DE _ (Rp a e)))).1,λb a=>?_,M⟩;obtain⟨o,e,d⟩:=T.obj _ _ N8 b a;exact(I7.pin (b,o) (DE _ (DE _ (Rp a e)))).2.1
  cases f with
  |next=>obtain⟨σ7,H7,I7,k⟩:=j;exact c I7 k
  |cont=>obtain⟨σ7,H7,I7,k⟩:=j;exact c I7 k
  |brk=>obtain⟨σ7,H7,I7,j⟩:=j;exact⟨σ7,H7,I7.Py,j⟩
  |ret v=>obtain⟨L,σ7,H7,I7,R,j⟩:=j;exact⟨L,σ7,H7,I7.Py,R,j⟩⟩
theorem CS(h:QS X st t):QS X st (X9 t):=⟨by
 have h:=h.h;intro Zo s Z H D I hw;obtain⟨J,h1,h2⟩:=hw;refine B9 (h Zo s Z H _ I h1) λf s' q=>?_;cases f with
 |next=>obtain⟨σ',H',I',q⟩:=q;exact⟨σ',H',I',h2 σ' H' q⟩
 |ret v=>exact q
 |brk=>exact q
 |cont=>exact q⟩
end
theorem AF.BJ{P:Program}{K:ZJR}{mg:ZJT}{Zv:Heap}{qual:Str}{st:Stmt}{fd:FuncData}{N:List Str}{k:Nat}(F:AF K x qual st f fd)(S:Ae N ps (AM st))(len:∀vs H Q E,sp vs H Q E->vs.length=ps.length)
  (PL:∀(AY:Value)(A:Around)(outer:List Env)(s:Shared)(H:Hp)(vs:List V)(Q:VK)(E:XK),BW k (A.deeper (envOfC qual (AM st) s.heap.objs.size f AY))->sp vs H Q E->
   ∃t,GJ (HU E2 P w K mg Zv N qual (AM st) f AY A outer s H E).Ie (GF st) t/\t { nx:=λ_ H'=>Q .AB H',rt:=Q } (start N vs) H):DB P w K mg Zv E2 (k+1) f fd ps sp:=
 F.ok S len λAY A outer s H vs Q E a h=>let ⟨t,q,r⟩:=PL AY A outer s H vs Q E a h;⟨t,q.h,r⟩
theorem SX{t:Tok}:EK (.str x) (.str y t)=(y == x):=rfl
theorem aJ(x:Str):∀(ss:List Str)(m:Nat)(b:m<ss.length),m<ss.idxOf x->ss[m]≠x
 | [],_,b,_=>absurd b (Nat.not_lt_zero _)
 |a::r,m,b,h=>by
  rw[o7]at h
  by_cases e:a=x
  .have:(a == x)=true:=by simpa using e
   rw[this]at h;exact absurd h (Nat.not_lt_zero _)
  .have c:(a == x)=false:=by simpa using e
   rw[c]at h;cases m with
   |zero=>exact e
   |succ k=>
    have h':k+1<r.idxOf x+1:=h;exact aJ x r k (by simpa using b) (by omega)
theorem NN(h:x∈ss):∃a:ss.idxOf x<ss.length,ss[ss.idxOf x]=x/\∀m(b:m<ss.length),m<ss.idxOf x->ss[m]≠x:=by
 have a:ss.idxOf x<ss.length:=List.idxOf_lt_length_iff.mpr h;exact⟨a,av a,λm b AR=>aJ x ss m b AR⟩
def sT(K:ZJR):V->List V->Hp->VK->Prop:=λx vs H Q=>∃(l:Addr)(ss:List Str)(y:Str),x=.ref l/\vs=[.str y]/\AK K H l (ss.map V.str)/\y∈ss/\Q (.int (ss.idxOf y:Nat)) H
theorem WK:Ik X "list.index" (sT X.K):=by
 intro Zo s Z H x vs v us Q I i j h;obtain⟨l,ss,y,rfl,rfl,p,o,q⟩:=h;cases i;obtain⟨u,rfl,k⟩:=j.one;obtain⟨A4,r,pl,b⟩:=I.list p;obtain⟨⟨c,d,G,sl⟩,n,ho,f,hd,G6⟩:=id pl;simp only at f hd G6;subst f;subst hd;subst G6;have A:=r.length;rw[AU]at A;obtain⟨D,Vg,Lm⟩:=NN o;have at':∀(m:Nat)(a:m<A4.toArray.size),∃t,A4.toArray[m]=.str (ss[m]'(by simp at a;omega)) t:=λm a=>by
  have B:m<A4.length:=by simpa using a
  obtain⟨h2,t,e⟩:=TJ r (B7 B);exact⟨t,by simpa using e⟩
 have g:ss.idxOf y<A4.toArray.size:=by simp;omega
 refine ZBS bC ⟨_,ho,rfl⟩ PySem.F.entry_list_index (PySem.F.args_list_index_2 _ _) (SeqAt.list_indexAt l A4.toArray n none sl u (EK (.str y)) (ss.idxOf y) g ?_ ?_ (λm a AR=>?_)) ⟨ho,λz Pp=>L1 k rfl r (by
   rw[Hg];intro w hw;obtain⟨C,_,rfl⟩:=List.mem_map.mp hw;rfl) z (by simpa using Pp),?_⟩
 .have h1:ss.length<=sizeLine:=by rw[AU]at b;exact b
  have h2:=JA;have E:((sizeLine:Nat):Int)<2 ^ 63:=by exact_mod_cast h2
  omega
 .obtain⟨t,e⟩:=at' _ g;rw[e,SX];simpa using Vg
 .obtain⟨t,e⟩:=at' _ a;rw[e,SX];have:=Lm m (by simp at a;omega) AR
  simpa using this
 .exact⟨.int _,H,I.tok _,⟨_,rfl⟩,q⟩
theorem ZFy(l:Addr)(items:Array Value)(n:Nat)(dd:Option Addr)(sl:Array (Option Value))(x:Value)(e:Value->Bool)(j:Nat)(v:j<items.size)(f:e items[j]=true)(Lm:∀m(u:m<items.size),m<j->e items[m]=false):
  Meets (Builtin.«tuple.index» ⟨[.ref l,x],[]⟩)
   (λA R s=>s.heap.get? l=some { cls:=.type "tuple", dict:=dd,data:=.seq items n,slots:=sl }/\(∀y,y∈items->SeqAt.EqAt A.in1 s y x (e y))/\R (.ok (.ret (.int j s.toks))) { s with toks:=s.toks+1 }):=by
 refine Meets.of_wp λprog w A R s h=>?_;obtain⟨hp,g,d,tk,os⟩:=s;obtain⟨o,p,h⟩:=h
 wp_walk using AutoSeq1.wpAny_loadPart' o
 show wpAny _ _ (forIn [:min items.size items.size] ((none:Option Fin),()) (λ(i:Nat)(_:Option Fin×Unit)=>match items[i]? with
  |some y=>(do let b <- eqBool y x;if b=true then do let r <- retInt ((i:Nat):Int);pure (ForInStep.done (some r,()))else pure (ForInStep.yield (none,())))
  |_=>pure (ForInStep.yield (none,())))) _ _ _
 rw[ZIj];have hsz:([:min items.size items.size]:Std.Legacy.Range).size=items.size:=by simp[Std.Legacy.Range.size]
 show wpAny _ _ (forIn (List.range' 0 ([:min items.size items.size]:Std.Legacy.Range).size 1) _ _) _ _ _;rw[hsz];refine wpAny_forIn_list _ (λrest b s'=>b=(none,())/\s'=⟨hp,g,d,tk,os⟩/\∃i,rest=List.range' i (items.size - i) 1/\i<=j) _ ?_ ?_ _ _ ⟨rfl,rfl,0,rfl,CH _⟩
 .rintro i rest b s'⟨rfl,rfl,a,c,CB⟩;have k:a < items.size:=by omega
  have t:List.range' a (items.size - a) 1=a::List.range' (a+1) (items.size - (a+1)) 1:=by
   have:items.size - a=(items.size - (a+1))+1:=by omega
   rw[this,ZIS]
  rw[t]at c;injection c with hr1 sY
  subst hr1;subst sY;have hi:items[i]?=some items[i]:=by simp[k]
  rw[hi];refine pN (p _ (Array.getElem_mem k) prog w _ _ ?_)
  by_cases q:i=j
  .subst q;rw[f,sZ rfl]
   wp_walk
   exact⟨_,rfl,h⟩
  .rw[Lm i k (by omega),sN (by decide)];exact pq ⟨rfl,rfl,i+1,rfl,by omega⟩
 .rintro b s'⟨rfl,rfl,i,c,CB⟩;have:0<(List.range' i (items.size - i) 1).length:=by rw[List.length_range'];omega
  rw[<- c]at this;exact absurd this (by simp)
def sC(K:ZJR):V->List V->Hp->VK->Prop:=λx vs H Q=>∃(l:Addr)(ss:List Str)(y:Str),x=.ref l/\vs=[.str y]/\AD K H l (ss.map V.str)/\y∈ss/\Q (.int (ss.idxOf y:Nat)) H
theorem qS:Ik X "tuple.index" (sC X.K):=by
 intro Zo s Z H x vs v us Q I g i h;obtain⟨l,ss,y,rfl,rfl,o,k,q⟩:=h;cases g;obtain⟨u,rfl,j⟩:=i.one;obtain⟨A4,r,pl,C⟩:=I.tuple o;obtain⟨⟨c,d,E,sl⟩,ho,b,n,G6⟩:=id pl;simp only at b G6;subst b;subst G6;have p:=r.length;rw[AU]at p;obtain⟨D,Vg,Lm⟩:=NN k;have at':∀(m:Nat)(a:m<A4.toArray.size),∃t,A4.toArray[m]=.str (ss[m]'(by simp at a;omega)) t:=λm a=>by
  have A:m<A4.length:=by simpa using a
  obtain⟨h2,t,e⟩:=TJ r (B7 A);exact⟨t,by simpa using e⟩
 have f:ss.idxOf y<A4.toArray.size:=by simp;omega
 refine ZBS ZId ⟨_,ho,rfl⟩ PySem.F.entry_tuple_index (PySem.F.args_tuple_index_2 _ _) (ZFy l A4.toArray n d sl u (EK (.str y)) (ss.idxOf y) f ?_ (λm a AR=>?_)) ⟨ho,λz Pp=>L1 j rfl r (by
   rw[Hg];intro w hw;obtain⟨B,_,rfl⟩:=List.mem_map.mp hw;rfl) z (by simpa using Pp),?_⟩
 .obtain⟨t,e⟩:=at' _ f;rw[e,SX];simpa using Vg
 .obtain⟨t,e⟩:=at' _ a;rw[e,SX];have:=Lm m (by simp at a;omega) AR
  simpa using this
 .exact⟨.int _,H,I.tok _,⟨_,rfl⟩,q⟩
def ZGN(t u:TE):TE:=λZ H Q=>t Z H Q∨u Z H Q
theorem ZB0{t u:TE}(h:QE X e t)(h2:QE X e u):QE X e (ZGN t u):=⟨λZo s Z H Q I q=>q.elim (h.h Zo s Z H Q I) (h2.h Zo s Z H Q I)⟩
theorem ZB3:typeLookup (.type "list_reverseiterator") "__len__"=pure none:=by rw[ZAT,yb];kernel_rfl
theorem ZBP:typeLookup (.type "list_reverseiterator") "__length_hint__"=pure (some (.builtin "list_reverseiterator.__length_hint__")):=by rw[ZAT,yb];kernel_rfl
section
variable{prog:Program}{A:Around}{s:Shared}{R:Result->Shared->Prop}
variable{fp wr:List Addr}{G:Array GenState->Array GenState->Prop}{P:Nat->Value->Prop}{St:Nat->Shared->Prop}
theorem ZHS(W:WalksS prog w A.in1 I fp wr G n P St)(c:∀i s,St i s->s.TypeIs (.ref I) "list_reverseiterator")(S:Addr)(res:Value)(m:Nat)(Cf:St 0 s)(DY:S∉fp)(l:I∈fp)
  (k:s.heap.get? S=some { cls:=.type "list", data:=.seq #[] m })
  (hR:∀s' DA a,Moved (S::wr) G s s'->s'.heap.get? S=some { cls:=.type "list", dict:=none,data:=.seq DA a,slots:=#[] }->ItemsOf P DA n->R (.ok (.ret res)) s') (hn:n<=sizeLine) :
  wpAny (model prog w) A.in1 (Builtin.List.listExtendWith (.ref S) (.ref I) res)
   (λg s'=>match g with | .done f=>R (.ok f) s' | .again a=>a.quiet=true/\codeAny (model prog w) A a R s') (λe s'=>R (.error e) s') s:=by
 have d:S≠I:=λe=>DY (e▸l);unfold Builtin.List.listExtendWith;refine pN (zj (c 0 _ Cf) ?_);have h1:Builtin.List.listSameRef (.ref S) (.ref I)=false:=by simp[Builtin.List.listSameRef,d]
 rw[sN (by rw[h1];decide)];refine pN (W.self 0 _ _ _ Cf ?_);refine pN (x6 ?_);unfold Builtin.List.listLengthHint;refine pN (ZAM (c 0 _ Cf) ZB3 ?_);show wpAny _ A.in1 (specialOf (Value.ref I) (Str.ofString "__length_hint__") >>= _) _ _ _;refine pN (ZAM (c 0 _ Cf) ZBP ?_);generalize h:("list_reverseiterator.__length_hint__":String)=Li
 wp_delta
 rw[show splitId Li=some ("list_reverseiterator","__length_hint__")from by subst h;decide +kernel];subst h;refine pN (ZA3 (b:=true) (c 0 _ Cf) (by rw[xQ];kernel_rfl) ?_);refine pq ?_;rw[sN (by decide)];refine pq ⟨ZAE F.plain_extend_loop _,ZAm W hn _ DY _ n 0 _ _ _ rfl (CH _) Cf k (ai P) λs' DA a j CY Aq=>?_⟩;exact hR s' DA a j CY Aq
theorem ZF6(W:WalksS prog w A.in1 I fp wr G n P St)(m:∀i s,St i s->s.TypeIs (.ref I) "list_reverseiterator")(S:Addr)(Cf:St 0 s)(DY:S∉fp)(p:I∈fp)
  (g:s.heap.get? S=some { cls:=.type "list", data:=.seq #[] })
  (hR:∀s' DA a,Moved (S::wr) G s s'->s'.heap.get? S=some { cls:=.type "list", dict:=none,data:=.seq DA a,slots:=#[] }->ItemsOf P DA n->R (.ok (.ret .none)) s') (hn:n<=sizeLine) :
  wpAny (model prog w) A.in1 (Builtin.«list.__init__» ⟨[.ref S,.ref I],[]⟩)
   (λj s'=>match j with | .done f=>R (.ok f) s' | .again a=>a.quiet=true/\codeAny (model prog w) A a R s') (λe s'=>R (.error e) s') s:=by
 show wpAny _ A.in1 (do let old <- Builtin.List.listItems (.ref S);Builtin.List.listUpdate (.ref S) (λ_=>#[]);letGo old.toList.reverse;Builtin.List.listExtendWith (.ref S) (.ref I) .none) _ _ s
 refine pN ?_;unfold Builtin.List.listItems;refine pN (wpAny_seqItems g rfl (pq ?_));show wpAny _ A.in1 (updateSeq S (λ_=>#[]) >>= λ_=>letGo (#[]:Array Value).toList.reverse >>= λ_=>Builtin.List.listExtendWith (.ref S) (.ref I) .none) _ _ s;refine pN (zw g rfl ?_);have d:=GR (Obj.mapSeq (λ_=>(#[]:Array Value))) g rfl;have k:∀b o,b≠S->s.heap.get? b=some o->(s.heap.update S (Obj.mapSeq (λ_=>(#[]:Array Value)))).get? b=some o:=
  λb o c e=>(Gz _ _ (BG c)).trans e
 refine pN (wpAny_letGo ?_);refine ZHS (hn:=hn) W m S .none _ (W.frame 0 s _ s.toks Cf (Ag _) λb c o e=>k b o (λh=>DY (h▸c)) e) DY p d λs' DA a l CY Aq=>?_;exact hR s' DA a (Moved.trans W.gtrans ((Moved.refl W.grefl).then_heap (Ag _) λb o c e=>k b o (λh=>c (h▸CV)) e) l) CY Aq
theorem za(W:WalksS prog w A.in1.in1 I fp wr G n P St)(h:∀i s,St i s->s.TypeIs (.ref I) "list_reverseiterator")(Cf:St 0 s)(Mm:∀b∈fp,b<s.heap.objs.size)(k:I∈fp)
  (j:∀s' DA c,Moved (s.heap.objs.size::wr) G { s with heap:=s.heap.push { cls:=.type "list", data:=.seq #[] } } s'->
   s'.heap.get? s.heap.objs.size=some { cls:=.type "list", dict:=none,data:=.seq DA c,slots:=#[] }->ItemsOf P DA n->Q (.ref s.heap.objs.size) s') (hn:n<=sizeLine) :
  wpAny (model prog w) A (call (.type "list") [.ref I]) Q E s:=by
 have l:s.heap.objs.size∉fp:=λa=>M6 _ (Mm _ a);refine callType_codes (Q₁:=λobj d=>obj=.ref s.heap.objs.size/\d={ s with heap:=s.heap.push { cls:=.type "list", data:=.seq #[] } }) F.called_list (F.typeCall_list_1 _) F.entry_list_init
  (code_list_new _ ⟨rfl,rfl⟩) λobj d g=>?_
 obtain⟨rfl,rfl⟩:=g;have f:(s.heap.push { cls:=.type "list", data:=.seq #[] }).get? s.heap.objs.size=some { cls:=.type "list", data:=.seq #[] }:=Ba _ rfl;refine⟨⟨_,f,rfl⟩,F.args_list_init_2 _ _,ZF6 (hn:=hn) W h _ (W.frame 0 s _ s.toks Cf (Ag _) λb _ o e=>BH _ e) l k f λs' DA c a CY Aq=>?_⟩;exact⟨rfl,j s' DA c a CY Aq⟩
variable{l:Addr}{items:Array Value}
end
end L2
namespace HT
variable{E Q:Value->Shared->Prop}
section
variable{prog:Program}{w:World}{A:Around}{s:Shared}
theorem zG{t sl:Addr}{items:Array Value}{vl vu:Value}{lo hi:Option Int}(a:IsTup s.heap t items)(hs:s.heap.IsSliceOf sl vl vu .none)(pl:IsPart vl lo)(c:IsPart vu hi)
  (hw:Ak items.size 0 lo=0/\Ak items.size items.size hi=items.size) (h:Q (.ref t) s):wpAny (model prog w) A (getItem (.ref t) (.ref sl)) Q E s:=by
 obtain⟨os,Kr,MF,OJ⟩:=id hs;have d:s.TypeIs (.ref sl) "slice" := ⟨os,Kr,MF⟩;unfold getItem
 try with_reducible refine x6 ?_
 first|refine pN (pq ?_)|skip
 refine pN (wpAny_sequenceKey a.typeIs (by decide) ?_);refine pN (xI (name:=Str.ofString "__getitem__") a.typeIs bB
  (xE bB a.typeIs entry_tuple_getitem ?_ (args_tuple_getitem _ _)))
 show wpAny _ _ (Builtin.Tuple.tupleItemsOf (.ref t) >>= _) _ _ s;refine pN (tupleItemsOf_ a ?_);refine pN (zj d ?_);rw[sZ (by decide)];refine pN (mX hs pl c ?_);have b:((((Ak items.size 0 lo:Nat):Int) == 0 && (1:Int) == 1 && (Ak items.size items.size hi - Ak items.size 0 lo) == items.size)=true):=by
  rw[hw.1,hw.2];simp
 first
 |rw[sZ b]
 |simp only[b,ZBT]
 refine pN ?_;unfold Builtin.Tuple.tupleIsExact;refine pN (zj a.typeIs (pq ?_));rw[sZ (by decide)];exact pN (ZAs (pq ⟨_,rfl,pq h⟩))
end
end HT
namespace L2
variable{X:Cx}{xs ys:List V}{A4 vs:List Value}{acc items ps:Array Value}{Zo:ZJS}{Z:St}{H:Hp}{s:Shared}{h':Heap}{ep i k1 n nT nl pl sl t':Nat}{fp:List Addr}{I S a it:Addr}{o oT:Obj}{w:World}{es:Array (Int×Value)}{t:SetTable}{prog:Program}{A:Around}{E Q₁:Value->Shared->Prop}{Q:Option Value->Shared->Prop}{α:Type}{e:Int×Value}{f v x:Value}{AA ss:List Str}
def nG(K:ZJR):V->Option Int->Option Int->Hp->VK->Prop:=λx lo hi H Q=>∃a xs,x=.ref a/\AD K H a xs/\
 ((HT.Ak xs.length 0 lo=0/\HT.Ak xs.length xs.length hi=xs.length)->Q (.ref a) H)/\(¬ (HT.Ak xs.length 0 lo=0/\HT.Ak xs.length xs.length hi=xs.length)->∀p,H p=none->Q (.ref p) (upd H p (.tup (CK xs lo hi))))
theorem jf:KD X (nG X.K):=by
 intro Zo s Z H x v vl vu lo hi sl Q I c hs pl d h;obtain⟨a,xs,rfl,hx,g,f⟩:=h
 by_cases hw:HT.Ak xs.length 0 lo=0/\HT.Ak xs.length xs.length hi=xs.length
 .cases c;obtain⟨A4,r,e,i⟩:=I.tuple hx;have b:A4.toArray.size=xs.length:=by rw[Bt];exact r.length.symm
  refine⟨"tuple", _,PyProof.Rows.slot_tuple_getitem.lookup,e.typeIs,?_⟩;exact HT.zG e hs pl d (by rw[b];exact hw) ⟨.ref a,H,I,rfl,g hw⟩
 .exact lN Zo s Z H _ v vl vu lo hi sl Q I c hs pl d ⟨a,xs,rfl,hx,hw,f hw⟩
def uJ(K:ZJR):V->Option Int->Option Int->Hp->VK->Prop:=λx lo hi H Q=>∃a tp xs,x=.ref a/\CQ K tp H a xs/\∀p H',A8 H H'->CQ K tp H' p (CK xs lo hi)->Q (.ref p) H'
theorem qC{lo hi:Option Int}(h:HT.Ak xs.length 0 lo=0/\HT.Ak xs.length xs.length hi=xs.length):CK xs lo hi=xs:=by
 unfold CK;rw[h.1,h.2];simp
theorem LG:KD X (uJ X.K):=by
 intro Zo s Z H x v vl vu lo hi sl Q I b hs pl c h;obtain⟨a,tp,xs,rfl,hx,q⟩:=h;cases tp with
 |false=>exact J9 Zo s Z H _ v vl vu lo hi sl Q I b hs pl c ⟨a,xs,rfl,hx,λp hp=>q p _ (Aa hp _) (AK.of AJ)⟩
 |true=>exact jf Zo s Z H _ v vl vu lo hi sl Q I b hs pl c ⟨a,xs,rfl,hx,λhw=>q a H (A8.refl _) (by rw[qC hw];exact hx),λ_ p hp=>q p _ (Aa hp _) (AD.of AJ)⟩
theorem ZCC(r:Vals ys A4)(h:ItemsOf (λi v=>A4.toArray[A4.toArray.size - 1 - i]?=some v) acc A4.toArray.size):∃us:List Value,Vals ys.reverse us/\acc=us.toArray:=by
 have e:acc=A4.reverse.toArray:=by
  apply Array.toList_inj.mp;rw[List.toList_toArray];apply ao;intro i;have hs:acc.size=A4.length:=by rw[h.1];simp
  by_cases hi:i<A4.length
  .have h1:acc.toList[i]?=some (acc[i]'(by omega)):=by simp
   have h2:=h.2 i (acc[i]'(by omega)) (by simp);rw[h1,List.getElem?_reverse hi];simp at h2;rw[<- h2]
  .have h1:acc.toList[i]?=none:=M0 (by simp;omega);have h2:A4.reverse[i]?=none:=M0 (by simp;omega);rw[h1,h2]
 exact⟨A4.reverse,r.reverse,e⟩
theorem Inv.ZCW(I:Inv X Zo Z H s)(d:∀b∈fp,Ed X Zo H b)(k:∀b o,b∉fp->s.heap.get? b=some o->h'.get? b=some o):
  Inv X Zo Z H { s with heap:=h',toks:=t' }:=by
 have f:∀b u,H b=some u->b∉fp:=λb u e z=>by rw[(d b z).1]at e;cases e
 refine I.step (g':=s.gens) (d':=s.drawn) (ch:=fp) (λb h=>?_) (λb o _ _ a e _=>k b o a e) (λb o _ _ a e _=>⟨o.slots,k b o a e⟩) (λ_ _ _ _ n=>n)
  (λb o a e=>⟨o,k b o a e⟩) (λ_ _ e=>e) (λ_ _ _ e=>e) (λm g=>?_) (λb u e=>?_) I.bare
 .obtain⟨_,h1,_,l,j,i⟩:=d b h;exact⟨l,h1,j,i⟩
 .obtain⟨o,es,ep,ho,r⟩:=g;exact⟨o,es,ep,k _ o (λz=>(d _ z).2.1 rfl) ho,r⟩
 .refine(I.AO b u e).JL (λc v a q=>k c v ?_ q) (λ_ q=>q) λ_ _ q=>q;rcases a with z|z
  .rw[z];exact f b u e
  .exact f c _ z
theorem Inv.rR{o:HO}(I:Inv X Zo Z H s)(h:∀b∈fp,Ed X Zo H b)(k:∀b o,b∉fp->s.heap.get? b=some o->h'.get? b=some o)
  (i:s.heap.objs.size<=a) (new:C7 X.prog X.w (upd H a o) h' a o):Inv X Zo Z (upd H a o) { s with heap:=h',toks:=t' }:=by
 have hn:H a=none:=I.AO.fresh i;have j:∀b u,H b=some u->b∉fp:=λb u e z=>by rw[(h b z).1]at e;cases e
 have ne:∀b u,H b=some u->b≠a:=λb u e=>Dr e hn;have g:∀b u,s.heap.get? b=some u->b≠a:=λb u e=>BP (De (BE e) i);refine I.step (g':=s.gens) (d':=s.drawn) (ch:=fp) (λb f=>?_) (λb o _ _ d e _=>k b o d e) (λb o _ _ d e _=>⟨o.slots,k b o d e⟩) (λb o _ e n=>by rw[Af (g b o e)];exact n)
  (λb o d e=>⟨o,k b o d e⟩) (λb _ e=>by rw[Af (ne b _ e)];exact e) (λb _ _ e=>by rw[Af (ne b _ e)];exact e) (λm l=>?_) (λb u e=>?_) I.bare
 .obtain⟨_,h1,_,x,t,p⟩:=h b f;exact⟨x,h1,t,p⟩
 .obtain⟨o,es,ep,ho,r⟩:=l;exact⟨o,es,ep,k _ o (λz=>(h _ z).2.1 rfl) ho,r⟩
 .by_cases f:b=a
  .subst f;rw[AJ]at e;cases e;exact new
  .rw[Af f]at e;refine(I.AO b u e).JL (λc v d q=>k c v ?_ q) (λc q=>by rw[Af (ne c _ q)];exact q) λc _ q=>by rw[Af (ne c _ q)];exact q
   rcases d with z|z
   .rw[z];exact j b u e
   .exact j c _ z
noncomputable def mf(K:ZJR)(a:Addr)(xs:List V):It:=
 ⟨λi H=>AK K H a xs/\i<xs.length,λi H x H'=>∃p y,xs[i]?=some y/\x=.ref p/\H p=none/\H'=upd H p (.tup [.int i,y]),λi H=>AK K H a xs/\xs.length<=i⟩
theorem pV{P:Program}{K:ZJR}{es:List Expr}{J:Pos}(a e it:Addr)(xs:List V)(A:e≠it):
  Turn P w K (.Tuple es k1 J) (mf K a xs) [e,it] e (λi h=>(∃c,IsEnum h e it i c)/\h.IsListIter it a i) where
 mem:=by simp
 obj:=λi h st b g=>by
  obtain⟨⟨c,h1⟩,o,h2,_,d⟩:=st;rcases List.mem_cons.mp g with z|z
  .subst z;exact⟨_,h1,λv z=>by cases z⟩
  .have:b=it:=by simpa using z
   subst this;exact⟨o,h2,λv z=>by rw[d]at z;cases z⟩
 keep:=λi h h' st k=>⟨let ⟨c,h1⟩:=st.1;⟨c,k e (by simp) _ h1⟩,st.2.at λo q=>k it (by simp) o q⟩
 item:=by
  intro X r hw t B i Zo s Z H E I l st hg;subst r hw t;obtain⟨n,hi⟩:=hg;obtain⟨⟨c,j⟩,f⟩:=st;obtain⟨A4,m,p,L⟩:=I.list n;obtain⟨u,hu,G⟩:=m.get (B7 hi);refine wpAny_pyNext_enum_item j f p.isList (x:=u) (by simpa using hu) A λh1 KP ZHF Oo O F=>⟨_,rfl,?_⟩
  refine wpAny_letOwnedTupleGo_enum KP λh2 NP EJ=>?_;have D:e<s.heap.objs.size:=BE j;have C:h2.get? s.heap.objs.size=some { cls:=.type "tuple", data:=.seq #[.int i s.toks,u] }:=(EJ.2 _ (M8 D)).trans Oo;have kp:∀b o,b∉[e,it]->s.heap.get? b=some o->h2.get? b=some o:=λb o g q=>by
   have y:b≠e/\b≠it:=by simpa using g
   exact(EJ.2 b y.1).trans (F b o y.1 y.2 q)
  refine⟨.ref s.heap.objs.size,_,I.rR (t':=s.toks+1) (a:=s.heap.objs.size) (o:=.tup [.int i,xs[i]]) l kp (Ag _) ?_,rfl,⟨_,_,B7 hi,rfl,I.AO.fresh (Ag _),rfl⟩,⟨⟨_,NP⟩,ZHF.at λo q=>(EJ.2 it (BG A)).trans q⟩,λb g=>?_⟩
  .exact⟨(by show 2<=sizeLine;decide),[.int i s.toks,u],.cons ⟨_,rfl⟩ (.cons G .nil),⟨_,C,rfl,_,rfl⟩,λob q=>by rw[C]at q;cases q;rfl⟩
  .have N:b<s.heap.objs.size:=by
    rcases List.mem_cons.mp g with z|z
    .rw[z];exact D
    .have:b=it:=by simpa using z
     obtain⟨o,q,_⟩:=f;rw[this];exact BE q
   rw[Af (BP N)];exact(l b g).1
 done:=by
  intro X r hw t B i Zo s Z H E I l st hg;subst r hw t;obtain⟨n,hx⟩:=hg;obtain⟨⟨c,j⟩,f⟩:=st;obtain⟨A4,m,p,L⟩:=I.list n;have Q:=m.length;exact wpAny_pyNext_enum_end (I.ok.hd B) j f p.isList (by simp;omega) λh' M=>⟨rfl,I.ZCW (t':=s.toks) l λb o g q=>M b o (λz=>g (by simp[z])) q⟩
 self:=λ_ _ _ _ _ st h=>let ⟨⟨_,j⟩,_⟩:=st;wpAny_pyIter_enum j h
def Ym(K:ZJR)(t:TA):TI:=λZ H R=>t Z H λvs H1=>∃a xs,vs=[.ref a]/\AK K H1 a xs/\R (mf K a xs) H1
theorem mx{es:List Expr}{m p pos:Pos}{l:Expr}{t:TA}(hg:Gl X "enumerate")(o:X.mg "enumerate"=none)(d:QA X [l] t)(hs:starEach [l] X.env=[(false,eval l X.env)]:=by rfl):
  QI X (.Tuple es k1 m) (.Call (.Name "enumerate" p) [l] [] pos) (Ym X.K t):=⟨by
 have d:=d.h;intro Zo s Z H R I h;refine z6 (Kx I hg o (show bootBuiltins "enumerate"=some (.type "enumerate") by decide +kernel) ?_ (by decide) (by decide));refine UG (d.k pos I h λus s1 vs H1 I1 i j=>?_) hs rfl;obtain⟨a,xs,rfl,n,q⟩:=j;obtain⟨u,rfl,g⟩:=vals1 i;cases g;obtain⟨A4,w,p,x⟩:=I1.list n;refine call_enumerate_list p.isList λh' e c hsz kp=>?_;refine wpAny_pyIter_enum e ?_;have v:s1.heap.objs.size+1≠s1.heap.objs.size:=Nat.succ_ne_self _;refine⟨s1.heap.objs.size+1,[s1.heap.objs.size+1,s1.heap.objs.size],_,_,H1,rfl,I1.kept (t':=s1.toks) kp,pV a _ _ xs v,⟨⟨_,e⟩,c⟩,λb r=>?_,q⟩;have f:s1.heap.objs.size<=b:=by
  rcases List.mem_cons.mp r with z|z
  .rw[z];exact GS _
  .have:b=s1.heap.objs.size:=by simpa using z
   rw[this];exact Ag _
 exact I1.NI f (I1.AO.fresh f)⟩
theorem ZCk(t:SetTable)(n:Nat):(t.orStandIn n).led=t.led:=by unfold SetTable.orStandIn;split <;> rfl
theorem ZFh(t:SetTable)(es:Array (Int×Value))(h:Int)(x:Value):(layNew t es h x).2.1.led=t.led:=by
 unfold layNew;split
 .show(SetTable.orStandIn (t.put _).1 _).led=t.led;rw[ZCk];rfl
 .rfl
theorem ZBt{c b d:Nat}{led a:Bool}{hs:Array Int}{p:SetTable×Array Nat}(h:SetTable.laid c b d led a hs=some p):p.1.led=led/\p.1.plain=a:=by
 unfold SetTable.laid at h;cases e:SetTable.layClean c hs with
 |none=>rw[e]at h;cases h
 |some ow=>rw[e]at h;cases h;exact⟨rfl,rfl⟩
theorem vO(t:SetTable)(es:Array (Int×Value))(n:Nat)(hp:t.plain=false):(relayAll t es n).2.1.led=t.led/\(relayAll t es n).2.1.plain=false:=by
 unfold relayAll;split
 .next t' order hr=>
  have q:=ZBt (p:=(t',order)) hr;dsimp only at q ⊢;split
  .exact⟨q.1,q.2.trans hp⟩
  .exact⟨rfl,rfl⟩
 .exact⟨rfl,rfl⟩
noncomputable def Ga(w:World):Bool:=w.params.followText "set-order"
def D7(prog:Program)(w:World)(h:Heap)(a:Addr)(S:Str->Bool)(n:Nat):Prop:=
 ∃o es ep t,h.get? a=some o/\o.ExactSet/\o.data=.set es ep t/\ElemsOf (PySem.strKind prog w) es.toList/\(∀k,S k=true↔∃e∈es.toList,(PySem.strKind prog w).is k e.2=true)/\
  es.size<scanBound/\t.fits es.size=true/\es.size=n/\(t.led=!Ga w)/\(0<es.size->t.plain=false)
theorem D7.keep{h:Heap}{S:Str->Bool}(x:D7 prog w h a S n)(k:∀o,h.get? a=some o->h'.get? a=some o):D7 prog w h' a S n:=by
 obtain⟨o,es,ep,t,ho,r⟩:=x;exact⟨o,es,ep,t,k o ho,r⟩
theorem D7.congr{h:Heap}{S S':Str->Bool}{b:Nat}(x:D7 prog w h a S n)(e:∀k,S k=S' k)(m:n=b):D7 prog w h a S' b:=by
 obtain⟨o,es,ep,t,h1,h2,l,j,i,g,f,d,c⟩:=x;exact⟨o,es,ep,t,h1,h2,l,j,λk=>by rw[<- e k];exact i k,g,f,d.trans m,c⟩
theorem fO{h:Heap}(ho:h.get? a=some o)(hd:o.data=.set es ep t)(DX:Array (Int×Value))(t':SetTable):
  (h.update a (Obj.putSet DX t')).get? a=some { o with data:=.set DX (ep+1) t' }:=by
 have q:=GR (Obj.putSet DX t') ho (by rw[putSet_of DX t' hd];rfl);rw[q,putSet_of DX t' hd]
theorem D7.put{S:Str->Bool}{k:Str}{tk:Tok}{Q:Bool->Shared->Prop}(hS:D7 prog w s.heap a S n)(Oz:n+1<scanBound)
  (h:∀h',Heap.SameBut a s.heap h'->D7 prog w h' a (λk'=>S k' || decide (k'=k)) (if S k then n else n+1)->Q (!S k) { s with heap:=h' }) :
  wpAny (model prog w) A (setAddHashed a (.str k tk) ((PySem.strKind prog w).hash k)) Q E s:=by
 obtain⟨o,es,ep,t,ho,d,hd,Mi,GO,N,y,hn,R1,Bb⟩:=hS;have F:(PySem.strKind prog w).is k (.str k tk)=true:=ZIi prog w k tk;have D:(Value.str k tk).scannable=true:=rfl;have rm:es.size+1<scanBound:=by rw[hn];exact Oz
 have O:∀(b:Bool)(s1:Shared)(Q1:Unit->Shared->Prop),Q1 () s1->wpAny (model prog w) A (match b with|true=>rule "set.scan.the-table-gave-way" |false=>pure ()) Q1 E s1:=by
  intro b s1 Q1 q;cases b
  .exact pq q
  .exact ZAs q
 unfold setAddHashed setAddHashedIn;refine x6 ?_;refine pN (ZAC ho hd y ?_);dsimp only;rw[byScan_of D N Mi];simp only[↓reduceIte];unfold setAddByScan;refine pN ?_;refine pN (ZAs ?_);refine pN (wpAny_setScan_of F ho hd y Mi ?_);cases M:List.findIdx? (λe=>(PySem.strKind prog w).is k e.2) es.toList with
 |some j=>
  dsimp only;obtain⟨σ,W,_⟩:=List.findIdx?_eq_some_iff_getElem.mp M;have g:S k=true:=(GO k).mpr ⟨es.toList[j],M4 σ,W⟩;refine pq ?_;refine pq ?_;have q:=h s.heap (Heap.SameBut.refl a s.heap) ⟨o,es,ep,t,ho,d,hd,Mi,λk'=>by
   rw[<- GO k',Bool.or_eq_true,decide_eq_true_eq];exact⟨λz=>z.elim id λe=>e▸g,Or.inl⟩,N,y,by rw[sZ g];exact hn,R1,Bb⟩
  rw[g]at q;exact q
 |none=>
  dsimp only;have g:S k=false:=by
   cases e:S k with
   |false=>rfl
   |true=>
    obtain⟨x,hx,hp⟩:=(GO k).mp e;have q:=List.findIdx?_eq_none_iff.mp M x hx;rw[hp]at q;exact Bool.noConfusion q
  have f:=layNew_perm t es ((PySem.strKind prog w).hash k) (.str k tk);have u:=layNew_fits t es ((PySem.strKind prog w).hash k) (.str k tk);have l1:=ZFh t es ((PySem.strKind prog w).hash k) (.str k tk);generalize layNew t es ((PySem.strKind prog w).hash k) (.str k tk)=L at f u l1 ⊢;obtain⟨CU,t1,U,gv⟩:=L;dsimp only at f u l1 ⊢;rw[ZI6]at f;have C:ElemsOf (PySem.strKind prog w) CU.toList:=(Mi.push F D).perm f;have Y:∀k',(S k' || decide (k'=k))=true↔∃e∈CU.toList,(PySem.strKind prog w).is k' e.2=true:=mem_push_iff F GO f;have H:CU.size=n+1:=by rw[<- Gy,f.length_eq,B2,Gy,hn];rfl
  have P:CU.size<scanBound:=by rw[H];exact Oz
  have i:∀(h':Heap)(o':Obj)(DX:Array (Int×Value))(Hn:Nat)(t':SetTable),Heap.SameBut a s.heap h'->h'.get? a=some o'->o'.ExactSet->o'.data=.set DX Hn t'->DX.toList.Perm CU.toList->t'.fits DX.size=true->t'.led=t.led->t'.plain=false->
    Q true { s with heap:=h' }:=by
   intro h' o' DX Hn t' V go T d' l ff ll X;have G:DX.size=n+1:=by rw[<- H,<- Gy,l.length_eq,Gy]
   have q:=h h' V ⟨o',DX,Hn,t',go,T,d',C.perm l,λk'=>(Y k').trans ⟨λ⟨e,B,q⟩=>⟨e,l.mem_iff.mpr B,q⟩,λ⟨e,B,q⟩=>⟨e,l.mem_iff.mp B,q⟩⟩,by rw[G];exact Oz,ff,by rw[g];exact G,ll.trans R1,λ_=>X⟩;rw[g]at q;exact q
  have c:∀(t2:SetTable),t2.fits CU.size=true->t2.led=t.led->t2.plain=false->wpAny (model prog w) A (do
    storeSet a CU t2
    if(
      !U && t2.tooFull)=true then do
      (match(relayAll t2 CU (SetTable.grown CU.size)).2.2 with|true=>rule "set.scan.the-table-gave-way" |false=>pure ())
      storeSet a (relayAll t2 CU (SetTable.grown CU.size)).1 (relayAll t2 CU (SetTable.grown CU.size)).2.1
      pure (some true)
     else pure (some true)) (λr s'=>match r with|some b=>Q b s'|none=>False) E s:=by
   intro t2 f2 l2 K;refine pN (wpAny_storeSet_of ho hd ?_ (ZBF P));have v:=fO ho hd CU t2;have J:=U2 s.heap a (Obj.putSet CU t2);split
   .have m:=relayAll_perm t2 CU (SetTable.grown CU.size);have f3:=relayAll_fits t2 CU (SetTable.grown CU.size);have p:=vO t2 CU (SetTable.grown CU.size) K;generalize relayAll t2 CU (SetTable.grown CU.size)=Rl at m f3 p ⊢;obtain⟨NS,I,g3⟩:=Rl;dsimp only at m f3 p ⊢;have R:NS.size=CU.size:=by rw[<- Gy,m.length_eq,Gy]
    refine pN (O _ _ _ ?_);refine pN (wpAny_storeSet_of v rfl ?_ (ZBF (by rw[R];exact P)));refine pq ?_;exact i _ _ NS _ I (J.trans (U2 _ a _)) (fO v rfl NS I) d rfl m f3 (p.1.trans l2) p.2
   .exact pq (i _ _ CU _ t2 J v d rfl (U3 _) f2 l2 K)
  refine pN (O _ _ _ ?_);split
  .next Rh=>
   refine pN ?_;rw[hashByValue_scannable 8 D];refine pq ?_;refine v7 (c { t1 with plain:=false } (SetTable.fits_plain_off u) l1 rfl) (λr s' q=>?_) λ_ _ e=>e
   cases r with
   |none=>exact q.elim
   |some b=>exact pq q
  .next Rh=>
   refine pN (pq ?_);simp only[↓reduceIte];refine v7 (c t1 u l1 (by simpa using Rh)) (λr s' q=>?_) λ_ _ e=>e
   cases r with
   |none=>exact q.elim
   |some b=>exact pq q
theorem Xb{α:Type}:∀(l:List α)(i:Nat)(h:i<l.length),(l[i]::l.eraseIdx i).Perm l
 |_::_,0,_=>U3 _
 |x::r,i+1,h=>(List.Perm.swap x (r[i]'(by simpa using h)) (r.eraseIdx i)).trans ((Xb r i (by simpa using h)).cons x)
theorem ZC4(nx:Nat->Nat):∀(n k:Nat)(l:List α)(out:Array α),l.length=n->(pickOrder.go nx n k l out).toList.Perm (out.toList++l):=by
 intro n
 induction n with
 |zero=>
  intro k l out b;rw[List.length_eq_zero_iff.mp b];unfold pickOrder.go;simp
 |succ n c=>
  intro k l out b;have a:nx k % l.length<l.length:=Nat.mod_lt _ (by omega);unfold pickOrder.go;rw[B7 a];dsimp only;refine(c _ _ _ (by rw[ZIN a];omega)).trans ?_;rw[ZI6,Bd];exact List.Perm.append_left _ (Xb l _ a)
theorem VD(nx:Nat->Nat)(xs:Array α):(pickOrder nx xs).toList.Perm xs.toList:=by
 have q:=ZC4 nx xs.size 0 xs.toList #[] (by simp)
 simpa[pickOrder]using q
theorem z5{a:Source}{Q:Nat->Shared->Prop}(hn:n≠0)(h:∀k d,k<n->Q k { s with drawn:=d }):wpAny (model prog w) A (choose a n) Q E s:=by
 intro Γ p hΓ;show Sem.wp _ _ (.choose a n .pure) _ _ _ _;rw[Sem.wp_choose];refine⟨hn,?_⟩;rw[Sem.wp_pure];exact h _ _ (Nat.mod_lt _ (Nat.pos_of_ne_zero hn))
theorem ZBg:∀(n:Nat)(xs:List α)(s:Shared)(Q:List α->Shared->Prop),xs.length<=n->(∀ys d,ys.Perm xs->Q ys { s with drawn:=d })->wpAny (model prog w) A (drawOrder n xs) Q E s:=by
 intro n
 induction n with
 |zero=>
  intro xs s Q a h;rw[List.length_eq_zero_iff.mp (Nat.le_zero.mp a)]at h ⊢;exact pq (h [] s.drawn (U3 _))
 |succ n c=>
  intro xs s Q a h;cases xs with
  |nil=>exact pq (h [] s.drawn (U3 _))
  |cons x r=>
   unfold drawOrder;refine pN (z5 (by simp) λk d b=>?_);rw[B7 b];dsimp only;refine pN (c _ _ _ (by rw[ZIN b];simp only[BK]at a ⊢;omega) λys d' hp=>?_);exact pq (h _ d' ((hp.cons _).trans (Xb (x::r) _ b)))
theorem vB{Q:Bool->Shared->Prop}(ho:s.heap.get? a=some o)(hd:o.data=.set es ep t)(b:t.fits es.size=true)
  (h:Q (!Ga w && (!t.plain && decide (es.size > 1))) s):wpAny (model prog w) A (setDrawn a) Q E s:=by
 unfold setDrawn;refine pN (ZAC ho hd b ?_);dsimp only;unfold setsByText;refine pN (pN (ZAH (pq ?_)));exact pq h
theorem jA{Q:Option (Value×Nat)->Shared->Prop}(d:Ga w=true)(ho:s.heap.get? a=some o)(hd:o.data=.set es ep t)(b:t.fits es.size=true)
  (h:Q (((pickOrder (w.params.setOrder a ep) es)[i]?).map λe=>(e.2,sl)) s):wpAny (model prog w) A (setNext a sl i ep) Q E s:=by
 have c:w.params.followText "set-order"=true:=d;unfold setNext;refine pN (ZAC ho hd b ?_);dsimp only;unfold setsByText;refine pN (pN (ZAH (pq ?_)));show wpAny _ _ (if w.params.followText "set-order"=true then _ else _) _ _ _
 rw[sZ c,sN (by simp)];refine pN ?_;unfold setWalk setsByText;refine pN (ZAC ho hd b ?_);dsimp only;refine pN (pN (ZAH (pq ?_)));show wpAny _ _ (if w.params.followText "set-order"=true then _ else _) _ _ _
 rw[sZ c];exact pN (ZAH (pq (pq h)))
theorem jZ{Q:Option (Value×Nat)->Shared->Prop}(d:Ga w=false)(ho:s.heap.get? a=some o)(hd:o.data=.set es ep t)(c:t.fits es.size=true)
  (h1:es.size<=1) (b:t.led=true)
  (h:Q (match es[SetTable.below t.place sl]?,t.place[SetTable.below t.place sl]? with|some (_,x),some j=>some (x,j+1)|_,_=>none) s):wpAny (model prog w) A (setNext a sl i ep) Q E s:=by
 have e:w.params.followText "set-order"=false:=d;unfold setNext;refine pN (ZAC ho hd c ?_);dsimp only;unfold setsByText;refine pN (pN (ZAH (pq ?_)));show wpAny _ _ (if w.params.followText "set-order"=true then _ else _) _ _ _
 rw[sN (by rw[e];decide)];show wpAny _ _ (if(!t.plain && decide (es.size > 1))=true then _ else _) _ _ _
 rw[sN (by rw[uz (by omega)];simp)];refine pN (m:=_) ?_
 wp_delta
 rw[b];exact pq (pq h)
theorem ZDR{Q:Value->Shared->Prop}(ho:s.heap.get? a=some o)(hd:o.data=.set es ep t)(b:t.fits es.size=true)(c:es[pl]?=some e)
  (h:Q e.2 s):wpAny (model prog w) A (setNextDrawn a pl ep) Q E s:=by
 unfold setNextDrawn;refine pN (ZAC ho hd b ?_);dsimp only;rw[sN (by simp),c];exact pq h
theorem i7:Manifest.owners.lookup (String.ofList ['r','o','t','a','r','e','t','i','_','t','e','s'].reverse)=some Manifest.sig_set_iterator:=by kernel_rfl
theorem HH:Slot "set_iterator" "__next__" "set_iterator.__next__" :=
 .of (owner:="set_iterator") (n:="__next__") (by rw[ZAT,yb];kernel_rfl) (by decide +kernel) (by decide +kernel) (by decide +kernel)
  (by first|exact .inl (by decide +kernel)|exact .inr (by decide +kernel)) (by rw[xQ];kernel_rfl)
theorem R7:entryFor table "set_iterator.__next__"=some Builtin.«set_iterator.__next__»:=entryFor_of_tree (by kernel_rfl)
theorem SK(a:Value):argsOk "set_iterator.__next__" ⟨[a],[]⟩:=by
 unfold argsOk;rw[signature?_of (id:="set_iterator.__next__") (n:=['_','_','t','x','e','n','_','_']) (o:=['r','o','t','a','r','e','t','i','_','t','e','s']) (by kernel_rfl) i7];kernel_rfl
theorem jV:Slot "set_iterator" "__iter__" "set_iterator.__iter__" :=
 .of (owner:="set_iterator") (n:="__iter__") (by rw[ZAT,yb];kernel_rfl) (by decide +kernel) (by decide +kernel) (by decide +kernel)
  (by first|exact .inl (by decide +kernel)|exact .inr (by decide +kernel)) (by rw[xQ];kernel_rfl)
theorem ZGr(a:Value):argsOk "set_iterator.__iter__" ⟨[a],[]⟩:=by
 unfold argsOk;rw[signature?_of (id:="set_iterator.__iter__") (n:=['_','_','r','e','t','i','_','_']) (o:=['r','o','t','a','r','e','t','i','_','t','e','s']) (by kernel_rfl) i7];kernel_rfl
theorem yA:entryFor table "set_iterator.__iter__"=some Builtin.«dict_keyiterator.__iter__»:=
 entryFor_alias (id' := "dict_keyiterator.__iter__") (by kernel_rfl) (by first|rfl|decide +kernel|(unfold String.splitOn;simp +decide [String.splitOnAux])) (by decide +kernel) (by kernel_rfl)
theorem pd:entryFor table "set.__iter__"=some Builtin.«frozenset.__iter__»:=
 entryFor_alias (id' := "frozenset.__iter__") (by kernel_rfl) (by first|rfl|decide +kernel|(unfold String.splitOn;simp +decide [String.splitOnAux])) (by decide +kernel) (by kernel_rfl)
noncomputable def Iw(f:Value)(i:Nat)(S:Addr)(n ep:Nat):Array Value:=#[f,rawInt (i:Int),.ref S,rawInt (n:Int),rawInt (ep:Int)]
def FR(h:Heap)(I:Addr)(f:Value)(i:Nat)(S:Addr)(n ep:Nat):Prop:=∃o,h.get? I=some o/\o.cls=.type "set_iterator" /\ o.data=.fields (Iw f i S n ep)
theorem FR.typeIs(x:FR s.heap I f i S n ep):s.TypeIs (.ref I) "set_iterator" := let ⟨o,ho,hc,_⟩:=x;⟨o,ho,hc⟩
theorem FR.at{h:Heap}(x:FR h I f i S n ep)(e:∀o,h.get? I=some o->h'.get? I=some o):FR h' I f i S n ep:=let ⟨o,ho,r⟩:=x;⟨o,e _ ho,r⟩
theorem nQ{Q:α->Shared->Prop}{F:Value->Shared->Prop}(hh:A.handled=none)
  (hF:∀e h',(∀b o,s.heap.get? b=some o->h'.get? b=some o)->(Shared.TypeIs { s with heap:=h' } e "StopIteration")->F e { s with heap:=h' }) :
  wpAny (model prog w) A (newExc (.type "StopIteration") [] >>= λe=>raiseNew e) Q F s:=by
 refine pN ?_;simp only[newExc,newTuple];refine pN (wW ?_ (by size_fits));refine pN (m:=firstArgMember _ _) (ZAp (a:=Value.none) (by first|rfl|(simp only[firstArgMember];rfl)) ?_)
 refine wW ?_ (by size_fits);simp only[raiseNew];refine pN (wpAny_handled ?_);rw[hh];refine pN (pq (wpAny_throw ?_));exact hF _ _ (λb o e=>BH _ (BH _ e)) ⟨_,Ba _ rfl,rfl⟩
theorem cP{nx:Nat}(b:FR s.heap it (rawInt (sl:Int)) i S n ep)
  (ho:s.heap.get? S=some o) (hd:o.data=.set es ep t) (e:t.fits es.size=true) (hn:es.size=n)
  (Q7:∀(A1:Around)(E1:Value->Shared->Prop)(Q1:Option (Value×Nat)->Shared->Prop),Q1 (some (x,nx)) s->wpAny (model prog w) A1 (setNext S sl i ep) Q1 E1 s)
  (g:∀h',FR h' it (rawInt (nx:Int)) (i+1) S n ep->Heap.SameBut it s.heap h'->Q (some x) { s with heap:=h' }):wpAny (model prog w) A (pyNext (.ref it)) Q E s:=by
 obtain⟨h,Fg,f,Ef⟩:=id b;subst hn;unfold pyNext;refine pN (ZBG (xI (name:=Str.ofString "__next__") b.typeIs HH
  (xE HH b.typeIs R7 ?_ (SK _))))
 unfold Builtin.«set_iterator.__next__»;refine pN (ZAp (a:=(Value.ref it,[])) rfl ?_)
 try dsimp only
 refine pN (ZB8 Fg Ef ?_);show wpAny _ _ (setEntries S >>= _) _ _ s;refine pN (ZAF ho hd e ?_);rw[sN (by simp)];show wpAny _ _ (setNext S sl i ep >>= _) _ _ s;refine pN (Q7 _ _ _ ?_);dsimp only;refine pN (ZAe Fg Ef (by simp[Iw]) ?_);have d:=GR (λob=>Obj.mapFields (·.setIfInBounds 0 (rawInt (nx:Int))) ob) Fg (b8 (MB Ef _))
 have c:=MB Ef (·.setIfInBounds 0 (rawInt (nx:Int)))
 refine pN (ZAe (s:={ s with heap:=_ }) d c (by simp[Iw]) ?_)
 refine pq ⟨x,rfl,pq (g _ ⟨_,GR _ d (b8 (MB c _)),?_,?_⟩ ((U2 ..).trans (U2 ..)))⟩
 .exact(oJ ..).trans ((oJ ..).trans f)
 .rw[MB c];simp[Iw]
theorem gL(hh:A.handled=none)(c:FR s.heap it (rawInt (sl:Int)) i S n ep)
  (ho:s.heap.get? S=some o) (hd:o.data=.set es ep t) (d:t.fits es.size=true) (hn:es.size=n)
  (Q7:∀(A1:Around)(E1:Value->Shared->Prop)(Q1:Option (Value×Nat)->Shared->Prop),Q1 none s->wpAny (model prog w) A1 (setNext S sl i ep) Q1 E1 s)
  (h:∀h',Heap.ExtBut it s.heap h'->Q none { s with heap:=h' }):wpAny (model prog w) A (pyNext (.ref it)) Q E s:=by
 obtain⟨j,Fg,l,Ef⟩:=id c;subst hn;unfold pyNext;refine pN (ZBG (xI (name:=Str.ofString "__next__") c.typeIs HH
  (xE HH c.typeIs R7 ?_ (SK _))))
 unfold Builtin.«set_iterator.__next__»;refine pN (ZAp (a:=(Value.ref it,[])) rfl ?_)
 try dsimp only
 refine pN (ZB8 Fg Ef ?_);show wpAny _ _ (setEntries S >>= _) _ _ s;refine pN (ZAF ho hd d ?_);rw[sN (by simp)];show wpAny _ _ (setNext S sl i ep >>= _) _ _ s;refine pN (Q7 _ _ _ ?_);dsimp only;refine pN (ZAe Fg Ef (by simp[Iw]) ?_);refine nQ (A:=A.in1) hh λe h' k g=>?_;refine pN (ZA3 (T:="StopIteration") (b:=true) g isSubtype_stop ?_);refine pq (h _ (λb ob f e=>?_));exact k b ob ((Gz _ _ (BG f)).trans e)
theorem qo{T:Addr}(b:FR s.heap it (.ref T) i S n ep)
  (ho:s.heap.get? S=some o) (hd:o.data=.set es ep t) (c:t.fits es.size=true) (hn:es.size=n) (g:s.heap.get? T=some oT) (VY:oT.data=.seq ps nT) (hp:ps[i]?=some (rawInt (pl:Int))) (d:es[pl]?=some e)
  (h:∀h',FR h' it (.ref T) (i+1) S n ep->Heap.SameBut it s.heap h'->Q (some e.2) { s with heap:=h' }):wpAny (model prog w) A (pyNext (.ref it)) Q E s:=by
 obtain⟨j,Fg,f,Ef⟩:=id b;subst hn;unfold pyNext;refine pN (ZBG (xI (name:=Str.ofString "__next__") b.typeIs HH
  (xE HH b.typeIs R7 ?_ (SK _))))
 unfold Builtin.«set_iterator.__next__»;refine pN (ZAp (a:=(Value.ref it,[])) rfl ?_)
 try dsimp only
 refine pN (ZB8 Fg Ef ?_);show wpAny _ _ (setEntries S >>= _) _ _ s;refine pN (ZAF ho hd c ?_);rw[sN (by simp)];show wpAny _ _ (seqItems? (.ref T) >>= _) _ _ s;refine pN ?_;unfold seqItems?;refine pN (ZAx g ?_);rw[VY];refine pq ?_;show wpAny _ _ (match ps[i]? with|some (.int place _)=>_|some _=>_|none=>_) _ _ s
 rw[hp];show wpAny _ _ (setNextDrawn S pl ep >>= _) _ _ s;refine pN (ZDR ho hd c d ?_);refine pN (ZAe Fg Ef (by simp[Iw]) ?_);refine pq ⟨e.2,rfl,pq (h _ ⟨_,GR _ Fg (b8 (MB Ef _)),?_,?_⟩ (U2 ..))⟩
 .exact(oJ ..).trans f
 .rw[MB Ef];simp[Iw]
theorem tR{T:Addr}(hh:A.handled=none)(c:FR s.heap it (.ref T) i S n ep)
  (ho:s.heap.get? S=some o) (hd:o.data=.set es ep t) (h:t.fits es.size=true) (hn:es.size=n) (d:s.heap.get? T=some oT) (VY:oT.data=.seq ps nT) (hp:ps[i]?=none)
  (j:∀h',Heap.ExtBut it s.heap h'->Q none { s with heap:=h' }):wpAny (model prog w) A (pyNext (.ref it)) Q E s:=by
 obtain⟨m,Fg,p,Ef⟩:=id c;subst hn;unfold pyNext;refine pN (ZBG (xI (name:=Str.ofString "__next__") c.typeIs HH
  (xE HH c.typeIs R7 ?_ (SK _))))
 unfold Builtin.«set_iterator.__next__»;refine pN (ZAp (a:=(Value.ref it,[])) rfl ?_)
 try dsimp only
 refine pN (ZB8 Fg Ef ?_);show wpAny _ _ (setEntries S >>= _) _ _ s;refine pN (ZAF ho hd h ?_);rw[sN (by simp)];show wpAny _ _ (seqItems? (.ref T) >>= _) _ _ s;refine pN ?_;unfold seqItems?;refine pN (ZAx d ?_);rw[VY];refine pq ?_;show wpAny _ _ (match ps[i]? with|some (.int place _)=>_|some _=>_|none=>_) _ _ s
 rw[hp];dsimp only;refine pN (ZAe Fg Ef (by simp[Iw]) ?_);have g:=GR (λob=>Obj.mapFields (·.setIfInBounds 0 (rawInt 0)) ob) Fg (b8 (MB Ef _))
 have l:=MB Ef (·.setIfInBounds 0 (rawInt 0))
 refine pN (ZAe (s:={ s with heap:=_ }) g l (by simp[Iw]) ?_)
 refine nQ (A:=A.in1) hh λe h' k d=>?_;refine pN (ZA3 (T:="StopIteration") (b:=true) d isSubtype_stop ?_);refine pq (j _ (λb ob f e=>?_));exact k b ob ((Gz _ _ (BG f)).trans ((Gz _ _ (BG f)).trans e))
theorem V7{Q:Value->Shared->Prop}(a:FR s.heap it f i S n ep)(h:Q (.ref it) s):wpAny (model prog w) A (pyIter (.ref it)) Q E s:=by
 refine wpAny_pyIter_slot a.typeIs jV (xE jV a.typeIs yA ?_ (ZGr _));show wpAny _ _ (ret (.ref it)) _ _ s;exact pq ⟨_,rfl, "set_iterator", _,a.typeIs,HH.lookup,h⟩
theorem zW(a:Ga w=true)(hh:A.handled=none)(I S:Addr)(Ac:S≠I)(hd:o.data=.set es ep t)(d:t.fits es.size=true):
  Walks prog w A I [I,S] [I] es.size (λi v=>((pickOrder (w.params.setOrder S ep) es).toList.map (·.2))[i]?=some v) (λi h=>FR h I (rawInt ((0:Nat):Int)) i S es.size ep/\h.get? S=some o) where
 sub:=λb a=>by simp at a;simp[a]
 frame:=λ_ _ _ x j=>⟨x.1.at λo e=>j I (by simp) o e,j S (by simp) _ x.2⟩
 item:=λi s Q E hi x c=>by
  have l:(pickOrder (w.params.setOrder S ep) es).size=es.size:=by
   have q:=(VD (w.params.setOrder S ep) es).length_eq
   simpa using q
  have k:i<(pickOrder (w.params.setOrder S ep) es).size:=by omega
  refine cP (x:=((pickOrder (w.params.setOrder S ep) es)[i]).2) (nx:=0) x.1 x.2 hd d rfl (λA1 E1 Q1 q=>jA a x.2 hd d (by rw[U1 k];exact q)) λh' PY g=>?_;exact c _ h' s.toks (by rw[Am,QX,U1 k];rfl) ⟨PY,g.extBut S o Ac x.2⟩ λb ob a f=>g.extBut b ob (λh=>a (by simp[h])) f
 done:=λs Q E x c=>by
  have l:(pickOrder (w.params.setOrder S ep) es).size=es.size:=by
   have q:=(VD (w.params.setOrder S ep) es).length_eq
   simpa using q
  refine gL hh x.1 x.2 hd d rfl (λA1 E1 Q1 q=>jA a x.2 hd d (by rw[nZ (by omega)];exact q)) λh' m=>?_;exact c h' s.toks λb ob a f=>m b ob (λh=>a (by simp[h])) f
 self:=λ_ _ _ _ x c=>V7 x.1 c
theorem Zn:∀(a:Array α),a.size=1->∃x,a=#[x]
 | ⟨[x]⟩,_=>⟨x,rfl⟩
 | ⟨[]⟩,h=>by simp at h
 | ⟨_::_::_⟩,h=>by simp at h
theorem qk(p:Nat):SetTable.below #[p] 0=0:=by simp[SetTable.below,SetTable.below.go]
theorem below_1(p:Nat):SetTable.below #[p] (p+1)=1:=by simp[SetTable.below,SetTable.below.go]
theorem ja(h:t.fits n=true):t.place.size=n:=by
 simp only[SetTable.fits,FC,beq_iff_eq]at h;exact h.1
theorem ZG0(a:Ga w=false)(hh:A.handled=none)(I S:Addr)(Ac:S≠I)(hd:o.data=.set es ep t)(c:t.fits es.size=true)(h1:es.size<=1)(m:t.led=true):
  Walks prog w A I [I,S] [I] es.size (λi v=>(es.toList.map (·.2))[i]?=some v) (λi h=>FR h I (rawInt (((if i=0 then 0 else t.place.getD 0 0+1:Nat)):Int)) i S es.size ep/\h.get? S=some o) where
 sub:=λb a=>by simp at a;simp[a]
 frame:=λ_ _ _ x n=>⟨x.1.at λo e=>n I (by simp) o e,n S (by simp) _ x.2⟩
 item:=λi s Q E hi x d=>by
  obtain rfl:i=0:=by omega
  have z:es.size=1:=by omega
  have f:t.place.size=1:=(ja c).trans z;obtain⟨e,rfl⟩:=Zn es z;obtain⟨p,hp⟩:=Zn t.place f;have g:=x.1;refine cP (x:=e.2) (nx:=p+1) g x.2 hd c rfl (λA1 E1 Q1 q=>jZ a x.2 hd c h1 m (by rw[hp,sZ rfl,qk];exact q)) λh' PY l=>?_;refine d _ h' s.toks rfl ⟨?_,l.extBut S o Ac x.2⟩ λb ob a k=>l.extBut b ob (λh=>a (by simp[h])) k;rw[sN (by omega),hp];exact PY
 done:=λs Q E x d=>by
  refine gL hh x.1 x.2 hd c rfl (λA1 E1 Q1 q=>jZ a x.2 hd c h1 m ?_) λh' u=>?_
  .by_cases z:es.size=0
   .rw[nZ (by omega)];exact q
   .have r:es.size=1:=by omega
    have f:t.place.size=1:=(ja c).trans r;obtain⟨p,hp⟩:=Zn t.place f;rw[sN z,hp];show Q1 (match es[SetTable.below #[p] (p+1)]?,(#[p]:Array Nat)[SetTable.below #[p] (p+1)]? with|some (_,x),some j=>some (x,j+1)|_,_=>none) s
    rw[below_1,nZ (by omega)];exact q
  .exact d h' s.toks λb ob a k=>u b ob (λh=>a (by simp[h])) k
 self:=λ_ _ _ _ x d=>V7 x.1 d
theorem ZFm(hh:A.handled=none)(I S T:Addr)(Ac:S≠I)(r:T≠I)(hd:o.data=.set es ep t)(k:t.fits es.size=true){ps:List Nat}(hp:ps.Perm (List.range es.size))(m:oT.data=.seq (ps.map λi:Nat=>rawInt i).toArray nT):
  Walks prog w A I [I,S,T] [I] es.size (λi v=>(ps.map λp=>(es[p]?.map (·.2)).getD .none)[i]?=some v) (λi h=>FR h I (.ref T) i S es.size ep/\h.get? S=some o/\h.get? T=some oT) where
 sub:=λb a=>by simp at a;simp[a]
 frame:=λ_ _ _ x f=>⟨x.1.at λo e=>f I (by simp) o e,f S (by simp) _ x.2.1,f T (by simp) _ x.2.2⟩
 item:=λi s Q E hi x c=>by
  have u:ps.length=es.size:=by have q:=hp.length_eq;simpa using q
  have j:i<ps.length:=by omega
  have n:ps[i]<es.size:=by
   have q:=hp.mem_iff.mp (M4 j)
   simpa using q
  have l:es[ps[i]]?=some es[ps[i]]:=U1 n;refine qo (pl:=ps[i]) (e:=es[ps[i]]) x.1 x.2.1 hd k rfl x.2.2 m (by rw[ZIJ,Am,B7 j];rfl) l λh' PY d=>?_;exact c _ h' s.toks (by rw[Am,B7 j];simp only[UE,l,ZIY]) ⟨PY,d.extBut S o Ac x.2.1,d.extBut T oT r x.2.2⟩ λb ob a g=>d.extBut b ob (λh=>a (by simp[h])) g
 done:=λs Q E x c=>by
  have u:ps.length=es.size:=by have q:=hp.length_eq;simpa using q
  refine tR hh x.1 x.2.1 hd k rfl x.2.2 m (by rw[ZIJ,Am,M0 (by omega)];rfl) λh' y=>?_;exact c h' s.toks λb ob a g=>y b ob (λh=>a (by simp[h])) g
 self:=λ_ _ _ _ x c=>V7 x.1 c
theorem ZEz(es:Array (Int×Value)):(List.range es.size).map (λp=>(es[p]?.map (·.2)).getD Value.none)=es.toList.map (·.2):=by
 refine ni (by simp) λi h1 h2=>?_;have hi:i<es.size:=by simpa using h1
 simp[U1 hi]
theorem xG{l:List (Int×Value)}(h:ElemsOf (PySem.strKind prog w) l):∃ts,StrsAre (l.map (·.2)) ts/\∀k,k∈ts↔∃e∈l,(PySem.strKind prog w).is k e.2=true:=by
 induction l with
 |nil=>exact⟨[],.nil,λk=>by simp⟩
 |cons e r b=>
  obtain⟨ts,h1,h2⟩:=b h.tail;obtain⟨⟨k,a,_⟩,_⟩:=h.head;obtain⟨tk,c⟩:=Value.isStrOf_shape a;refine⟨k::ts,?_,λk'=>?_⟩
  .rw[Bs,c];exact .cons k tk h1
  .rw[E9,h2 k'];constructor
   .rintro(rfl|⟨x,hx,q⟩)
    .exact⟨e,CV,a⟩
    .exact⟨x,Ck _ hx,q⟩
   .rintro⟨x,hx,q⟩;rcases List.mem_cons.mp hx with rfl|hx
    .exact .inl ((PySem.strKind prog w).inj x.2 k' k q a)
    .exact .inr ⟨x,hx,q⟩
theorem StrsAre.len:∀{vs:List Value}{ss:List Str},StrsAre vs ss->vs.length=ss.length
 |_,_,.nil=>rfl
 |_,_,.cons _ _ h=>by rw[BK,BK,StrsAre.len h]
theorem StrsAre.perm{CJ:List Value}(h:StrsAre vs ss)(p:CJ.Perm vs):∃AA,StrsAre CJ AA/\AA.Perm ss:=by
 refine⟨CJ.map strOf,strsAre_map CJ λv a=>h.all v (p.mem_iff.mp a),?_⟩;rw[<- h.strs];exact p.map strOf
section
theorem qU{f:Str->Bool}{Q:Value->Shared->Prop}(H:D7 prog w s.heap S f n)
  (h:∀(I:Addr)(h1:Heap)(d:_)(fp:List Addr)(vs:List Value)(ts:List Str)(St:Nat->Heap->Prop),(∀A2:Around,A2.handled=none->Walks prog w A2 I fp [I] n (λi v=>vs[i]?=some v) St)->St 0 h1->(∀b∈fp,b=S∨s.heap.objs.size<=b/\b<h1.objs.size)->s.heap.objs.size<=I->s.heap.objs.size<=h1.objs.size->
   (∀b o,s.heap.get? b=some o->h1.get? b=some o)->StrsAre vs ts->ts.length=n->(∀k,f k=true↔k∈ts)->Q (.ref I) { s with heap:=h1,drawn:=d }):wpAny (model prog w) A (pyIter (.ref S)) Q E s:=by
 obtain⟨o,es,ep,t,ho,r,hd,Mi,GO,G,c,hn,R1,Bb⟩:=H;subst hn;have y:s.TypeIs (.ref S) "set" := ⟨o,ho,r.1⟩;have u:S<s.heap.objs.size:=BE ho;obtain⟨C,t1,t2⟩:=xG Mi;have j:∀(I:Addr)(h1:Heap)(d:_)(fp:List Addr)(vs:List Value)(St:Nat->Heap->Prop),(∀A2:Around,A2.handled=none->Walks prog w A2 I fp [I] es.size (λi v=>vs[i]?=some v) St)->St 0 h1->(∀b∈fp,b=S∨s.heap.objs.size<=b/\b<h1.objs.size)->s.heap.objs.size<=I->s.heap.objs.size<=h1.objs.size->
   (∀b o,s.heap.get? b=some o->h1.get? b=some o)->vs.Perm (es.toList.map (·.2))->Q (.ref I) { s with heap:=h1,drawn:=d }:=by
  intro I h1 d fp vs St a1 a2 N M L K J;obtain⟨ts,D,x⟩:=StrsAre.perm t1 J;refine h I h1 d fp vs ts St a1 a2 N M L K D ?_ λk=>?_
  .rw[x.length_eq,<- StrsAre.len t1];simp
  .rw[GO k,<- t2 k];exact x.mem_iff.symm
 refine wpAny_pyIter_slot y F.slot_set_iter (xE F.slot_set_iter y pd ?_ (F.args_set_iter_1 _));unfold Builtin.«frozenset.__iter__»;refine pN (ZAp (a:=S) rfl ?_);refine pN ?_;unfold Builtin.Frozenset.sizeOf;refine pN (ZAF ho hd c (pq ?_));refine pN (vB ho hd c ?_)
 by_cases m:(!Ga w && (!t.plain && decide (es.size > 1)))=true
 .rw[sZ m];refine pN ?_;refine ZBg es.size (List.range es.size) _ _ (by rw[M5];exact Ag _) λps d hp=>?_;have pz:(ps.map λi:Nat=>rawInt i).length<=sizeLine:=by rw[AU,hp.length_eq,M5];exact ZBF G
  refine pN (wpAny_newTuple ?_ pz);dsimp only;refine pN (wpAny_setEpoch_of (s:={ s with heap:=_,drawn:=d }) (BH _ ho) hd c ?_)
  refine pN (wW ?_);have g:∀(q:Obj)(b:Addr)(ob:Obj),s.heap.get? b=some ob->((s.heap.push (seqObj "tuple" (ps.map λi:Nat=>rawInt i).toArray 0)).push q).get? b=some ob:=λq b ob e=>BH _ (BH _ e);have l:(s.heap.push (seqObj "tuple" (ps.map λi:Nat=>rawInt i).toArray 0)).objs.size=s.heap.objs.size+1:=Eh ..;refine pq ⟨_,rfl, "set_iterator", _,⟨_,Ba _ rfl,rfl⟩,HH.lookup,?_⟩;refine j _ _ d [(s.heap.push (seqObj "tuple" (ps.map λi:Nat=>rawInt i).toArray 0)).objs.size,S,s.heap.objs.size] _ _ (λA2 hh=>ZFm hh _ S s.heap.objs.size (by rw[l];exact BP (IX u)) (by rw[l];exact BP (M7 _)) hd c hp (oT:=seqObj "tuple" (ps.map λi:Nat=>rawInt i).toArray 0) rfl) ⟨⟨_,Ba _ rfl,rfl,rfl⟩,g _ _ _ ho,BH _ (Ba _ rfl)⟩ ?_ (by show s.heap.objs.size<=(s.heap.push (seqObj "tuple" (ps.map λi:Nat=>rawInt i).toArray 0)).objs.size;rw[l];exact GS _) ?_ (g _) ?_
  .intro b C1;simp only[E9,B0,ZAb]at C1;rw[Eh,l];rcases C1 with rfl|rfl|rfl
   .right;rw[l];exact⟨GS _,M7 _⟩
   .left;rfl
   .right;exact⟨Ag _,IX (M7 _)⟩
  .rw[Eh,l];exact UD (GS _)
  .rw[<- ZEz];exact hp.map _
 .rw[sN m];refine pN (pq ?_);refine pN (wpAny_setEpoch_of ho hd c ?_);refine pN (wW ?_);have g:∀(q:Obj)(b:Addr)(ob:Obj),s.heap.get? b=some ob->(s.heap.push q).get? b=some ob:=λq b ob e=>BH _ e;refine pq ⟨_,rfl, "set_iterator", _,⟨_,Ba _ rfl,rfl⟩,HH.lookup,?_⟩;have B:∀(q:Obj),∀b∈[s.heap.objs.size,S],b=S∨s.heap.objs.size<=b/\b<(s.heap.push q).objs.size:=by
   intro q b C1;simp only[E9,B0,ZAb]at C1;rw[Eh];rcases C1 with rfl|rfl
   .right;omega
   .left;rfl
  cases p:Ga w with
  |true=>
   refine j _ _ s.drawn [s.heap.objs.size,S] _ _ (λA2 hh=>zW p hh _ S (BP u) hd c) ⟨⟨_,Ba _ rfl,rfl,rfl⟩,g _ _ _ ho⟩ (B _) (Ag _) (by rw[Eh];omega) (g _) ?_;exact(VD _ _).map _
  |false=>
   have h1:es.size<=1:=by
    rw[p]at m
    by_cases z:es.size<=1
    .exact z
    .rw[Bb (by omega),rg (by omega:es.size > 1)]at m;exact absurd rfl m
   refine j _ _ s.drawn [s.heap.objs.size,S] _ _ (λA2 hh=>ZG0 p hh _ S (BP u) hd c h1 (by rw[R1,p];rfl)) ⟨⟨_,Ba _ rfl,rfl,rfl⟩,g _ _ _ ho⟩ (B _) (Ag _) (by rw[Eh];omega) (g _) (U3 _)
theorem yT:typeLookup (.type "set") "__len__"=pure (some (.builtin "set.__len__")):=by rw[ZAT,yb];kernel_rfl
theorem oz{f:Str->Bool}{Q:List Value->Shared->Prop}(hh:A.handled=none)(q:D7 prog w s.heap S f n)(hn:n<=sizeLine)
  (h:∀(s':Shared)(vs:List Value)(ts:List Str),(∀b o,s.heap.get? b=some o->s'.heap.get? b=some o)->s.heap.objs.size<=s'.heap.objs.size->s'.gens=s.gens->s'.os=s.os->StrsAre vs ts->ts.length=n->(∀k,f k=true↔k∈ts)->Q vs s') :
  wpAny (model prog w) A (collect (.ref S)) Q E s:=by
 have U:S<s.heap.objs.size:=by obtain⟨o,_,_,_,ho,_⟩:=q;exact BE ho
 have u:s.heap.objs.size≠S:=M8 U;unfold collect;refine pN (ZB7 (xA F.entry_proto_collect ?_));rw[NX F.plain_proto_collect _];show wpAny _ A.in1 (newList [] >>= λl=>again (.builtin "list.__iadd__" ⟨[l,.ref S],[]⟩)) _ _ s;refine pN (wW ?_);refine pq ⟨ZAE ah _,xA F.entry_list_iadd ?_⟩;rw[NX ah _];generalize r:({ cls:=.type "list", data:=.seq ([]:List Value).toArray }:Obj)=so;have y:D7 prog w (s.heap.push so) S f n:=q.keep λo e=>BH _ e;have T:(s.heap.push so).get? s.heap.objs.size=some so:=Ba _ (by rw[<- r];rfl);have sz:(s.heap.push so).objs.size=s.heap.objs.size+1:=Eh ..;have C:Shared.TypeIs { s with heap:=s.heap.push so } (.ref S) "set" := by obtain⟨o,_,_,_,ho,g,_⟩:=y;exact⟨o,ho,g.1⟩
 have h1:Builtin.List.listSameRef (.ref s.heap.objs.size) (.ref S)=false:=by simp[Builtin.List.listSameRef,u]
 show wpAny _ A.in1 (Builtin.List.listExtendWith (.ref s.heap.objs.size) (.ref S) (.ref s.heap.objs.size)) _ _ { s with heap:=s.heap.push so }
 unfold Builtin.List.listExtendWith;refine pN (zj C ?_);rw[sN (by rw[h1];decide)];refine pN (qU (s:={ s with heap:=s.heap.push so }) y λI h2 d fp vs ts St W Ih Mm O ZJ8 kp WG tl K=>?_)
 have B:s.heap.objs.size∉fp:=λc=>by
  rcases Mm _ c with z|⟨z,_⟩
  .exact u z
  .have J:(s.heap.push so).objs.size<=s.heap.objs.size:=z;rw[sz]at J;omega
 have j:Shared.TypeIs { s with heap:=h2,drawn:=d } (.ref S) "set" := by obtain⟨o,ho,N⟩:=C;exact⟨o,kp _ _ ho,N⟩
 refine pN (x6 ?_);unfold Builtin.List.listLengthHint;refine pN (ZAM j yT ?_);generalize x:("set.__len__":String)=Li
 wp_delta
 rw[show splitId Li=some ("set","__len__")from by subst x;decide +kernel];subst x;refine pN (ZA3 (b:=true) j (by rw[xQ];kernel_rfl) ?_);rw[sN (by decide)];refine ZAS (λ_=>?_) (λDM=>absurd (by decide +kernel) DM);refine pN (zj j ?_);refine pq ?_;refine ZAS (λ_=>?_) (λDM=>absurd (by decide +kernel) DM);refine pN (ZAs ?_);refine pN ?_;show wpAny _ _ (updateSeq s.heap.objs.size (·.push .none) >>= λ_=>updateSeq s.heap.objs.size (·.pop)) _ _ _
 have H:(#[]:Array Value).size<=sizeLine:=CH _;have m:((#[]:Array Value).push Value.none).size<=sizeLine:=by show 1<=sizeLine;decide
 have G:((#[]:Array Value).push Value.none).size<=sizeLine+1:=UD m;have D:(((#[]:Array Value).push Value.none).pop).size<=sizeLine+1:=CH _;have t:=kp _ _ T;subst r;refine pN (zw (s:={ s with heap:=h2,drawn:=d }) t rfl ?_ H G)
 have p:=GR (Obj.mapSeq (·.push Value.none)) t rfl
 refine zw p rfl ?_ m D;have L:=GR (Obj.mapSeq (·.pop)) p rfl
 have v:∀b o,b≠s.heap.objs.size->h2.get? b=some o->((h2.update s.heap.objs.size (Obj.mapSeq (·.push Value.none))).update s.heap.objs.size (Obj.mapSeq (·.pop))).get? b=some o:=
  λb o a e=>(Gz _ _ (BG a)).trans ((Gz _ _ (BG a)).trans e)
 refine pq ⟨ZAE oO _,ZAm (W A.in1 hh).toS hn _ B _ n 0 _ #[] _ rfl (CH _) ?_ L (ai _) λs' DA V c CY Aq=>?_⟩
 .exact(W A.in1 hh).frame 0 h2 _ Ih λb a o e=>v b o (λz=>B (z▸a)) e
 .show wpAny _ A (load s.heap.objs.size >>= _) _ _ s';refine pN (ZAx CY ?_);have P:DA.toList=vs:=by
   have M:vs.length=n:=(StrsAre.len WG).trans tl;refine ao λi=>?_
   by_cases hi:i<n
   .have h1:DA[i]?=some (DA[i]'(by rw[Aq.1];exact hi)):=U1 _;rw[QX,h1];exact(Aq.2 i _ h1).symm
   .rw[M0 (by rw[Gy,Aq.1];omega),M0 (by omega)]
  refine pq ?_;rw[<- P]at WG;refine h s' DA.toList ts (λb o e=>?_) (JU (BE CY)) c.gens c.os WG tl K;have a:b<s.heap.objs.size:=BE e;refine c.heap b o ?_ (v b o (BP a) (kp b o (BH _ e)));simp only[E9,B0,ZAb,not_or];refine⟨BP a,?_⟩;have R:s.heap.objs.size+1<=I:=by rw[<- sz];exact O
  exact BP (De a (Nat.le_of_succ_le R))
variable{R:Result->Shared->Prop}{wr:List Addr}{G:Array GenState->Array GenState->Prop}{P:Nat->Value->Prop}{St:Nat->Shared->Prop}
theorem ZDQ(W:WalksS prog w A.in1 I fp wr G ss.length P St)(S:Addr)(DY:S∉fp)(Zj:∀i v,P i v->∃(h:i<ss.length)(t:Tok),v=.str ss[i] t)(a:ss.length+1<scanBound):
  ∀(k i:Nat)(s:Shared),ss.length - i=k->i<=ss.length->St i s->D7 prog w s.heap S (λk'=>(dd (ss.take i)).any (· == k')) (dd (ss.take i)).length->
   (∀s',Moved (S::wr) G s s'->D7 prog w s'.heap S (λk'=>(dd ss).any (· == k')) (dd ss).length->R (.ok (.ret .none)) s')->
   codeAny (model prog w) A (.builtin "set.update.loop" ⟨[.ref S,.ref I],[]⟩) R s:=by
 have p:S∉wr:=λh=>DY (W.sub _ h);have n:∀{s s':Shared}{f:Str->Bool}{m:Nat},Moved wr G s s'->D7 prog w s.heap S f m->D7 prog w s'.heap S f m:=λc g=>g.keep λo ho=>c.heap S _ p ho;intro k
 induction k with
 |zero=>
  intro i s x hi Cf g d;have e:i=ss.length:=by omega
  subst e;refine xA ZIa ?_;rw[NX oK _];show wpAny _ A.in1 (pyNext (.ref I) >>= _) _ _ s;refine pN (W.done s _ _ Cf λs' c=>?_);show wpAny _ A.in1 (ret Value.none) _ _ s';rw[IU]at g;exact pq (d s' (c.mono λb a=>Ck _ a) (n c g))
 |succ k u=>
  intro i s x hi Cf g d;have j:i<ss.length:=by omega
  refine xA ZIa ?_;rw[NX oK _];show wpAny _ A.in1 (pyNext (.ref I) >>= _) _ _ s;refine pN (W.item i s _ _ j Cf λv s' y r c=>?_);obtain⟨_,t,rfl⟩:=Zj i v y;have C:=n c g;show wpAny _ A.in1 (holding [Value.str ss[i] t] (setAdd S (.str ss[i] t)) >>= _) _ _ s';refine pN (x6 ?_);unfold setAdd;have z:(PySem.strKind prog w).is ss[i] (.str ss[i] t)=true:=ZIi prog w ss[i] t;refine x6 (pN ((PySem.strKind prog w).pyHash z ?_));have B:(dd (ss.take i)).length+1<scanBound:=by
   have:=YD (ss.take i);rw[Bi]at this;omega
  refine D7.put (s:={ s' with toks:=s'.toks+1 }) C B λh' Ms Pz=>?_
  have l:D7 prog w h' S (λk'=>(dd (ss.take (i+1))).any (· == k')) (dd (ss.take (i+1))).length:=
   Pz.congr (λk'=>by rw[m7 ss i j,y3]) (by rw[m7 ss i j,iW])
  refine pq ⟨ZAE oK _,u (i+1) _ (by omega) j (W.frame _ s' _ _ r (GS _) λb a o e=>?_) l λLU ZH8 q=>?_⟩
  .rw[Ms.2 b (by rintro rfl;exact DY a)];exact e
  .refine d LU (Moved.trans W.gtrans ((c.mono λb a=>Ck _ a).then_heap (GS _) λb o a e=>?_) ZH8) q;rw[Ms.2 b (by rintro rfl;exact a CV)];exact e
theorem oV(a:Value)
  (h:Q₁ (.ref s.heap.objs.size) { s with heap:=s.heap.push { cls:=.type "set", dict:=none,data:=.set #[] 0 (.fresh 0 0 (!Ga w)) } }) :
  codeAny (model prog w) A (.call (.builtin "set.__new__") ⟨[.type "set", a],[]⟩) (wants Q₁ E) s:=by
 refine codeAny_of_tree ?_;show wpAny _ A.in1 (do checkBuiltinCall "set.__new__" ⟨[.type "set", a],[]⟩;again (.builtin "set.__new__" ⟨[.type "set", a],[]⟩)) _ _ s
 refine pN (ZAp (PySem.F.newCall_set_1 a) ?_);refine pq ⟨ZAE ZIb _,xA PySem.F.entry_set_new ?_⟩;rw[NX ZIb _];unfold Builtin.«set.__new__» Builtin.Frozenset.newClass;have b:isSubtype (.type "set") (.type "set")=pure true:=by rw[xQ];kernel_rfl
 obtain⟨hp,g,d,tk,os⟩:=s;dsimp only
 wp_walk
 refine ZAH (pq ?_);dsimp only;simp only[newObj];refine pN (wpAny_alloc (pq ?_));exact pq h
theorem ke{l:Addr}{T:String}{u:Option Addr}{HK:Array (Option Value)}{Q:Value->Shared->Prop}(ho:s.heap.get? l=some { cls:=.type T,dict:=u,data:=.seq items nl,slots:=HK })
  (hs1:isSubtype (.type T) (.type "set")=pure false) (EJ:isSubtype (.type T) (.type "frozenset")=pure false) (Ac:(Value.type T == Value.type "dict")=false) (hb:ss.length+1<scanBound)
  (hit:∀(s1:Shared)(A1:Around)(Q1:Value->Shared->Prop),A1.handled=A.handled->s1.heap.get? l=s.heap.get? l->l<s1.heap.objs.size->
   (∀ob St P,WalksS prog w A1.in1 s1.heap.objs.size [s1.heap.objs.size,l] [s1.heap.objs.size] (λa b=>b=a) ss.length P St->(∀i v,P i v->∃(h:i<ss.length)(t:Tok),v=.str ss[i] t)->St 0 { s1 with heap:=s1.heap.push ob }->Q1 (.ref s1.heap.objs.size) { s1 with heap:=s1.heap.push ob })->
   wpAny (model prog w) A1 (pyIter (.ref l)) Q1 E s1)
  (h:∀(h':Heap)(tk:Nat),D7 prog w h' s.heap.objs.size (λk'=>(dd ss).any (· == k')) (dd ss).length->(∀b o,b<s.heap.objs.size->s.heap.get? b=some o->h'.get? b=some o)->Q (.ref s.heap.objs.size) { s with heap:=h',toks:=tk }) :
  wpAny (model prog w) A (call (.type "set") [.ref l]) Q E s:=by
 have y:l<s.heap.objs.size:=BE ho;obtain⟨c,tl,ZIp⟩:=PySem.F.called_set.mro;have L:=PySem.F.called_set.made;have S:=PySem.F.called_set.sub;refine wpAny_call (codeAny_of_tree (by
  show wpAny _ _ (callAny (.type "set") _) _ _ _;refine pq ⟨Code.quiet_builtin _ (by decide +kernel),xA PySem.F.entry_type_call ?_⟩;rw[Around.under_plain (weight_type_call_type "set" [.ref l] []) rfl];have h1:=PySem.F.called_set.notType;have h2:=PySem.F.called_set.canCreate;have C:=PySem.F.typeCall_set_1 (.ref l)
  repeat (any_goals (first|assumption|wp_step))
  refine ZAq (oV (.ref l) (E:=E) (Q₁:=λobj q=>obj=.ref s.heap.objs.size/\q={ s with heap:=s.heap.push { cls:=.type "set", dict:=none,data:=.set #[] 0 (.fresh 0 0 (!Ga w)) } }) ⟨rfl,rfl⟩) λr q g=>?_
  cases r with
  |error e=>exact g
  |ok H=>
   cases H with
   |ret obj=>
    obtain⟨rfl,rfl⟩:=g;generalize n:({ cls:=.type "set", dict:=none,data:=.set #[] 0 (.fresh 0 0 (!Ga w)) }:Obj)=so;have hsz:(s.heap.push so).objs.size=s.heap.objs.size+1:=Eh ..;have x:(s.heap.push so).get? s.heap.objs.size=some so:=Ba _ (by rw[<- n];rfl);have G:Shared.TypeIs { s with heap:=s.heap.push so } (.ref s.heap.objs.size) "set" := ⟨_,x,by rw[<- n]⟩
    have O:=PySem.F.called_set.init.lookup;have D:=PySem.F.called_set.init.bind (.ref s.heap.objs.size)
    repeat (any_goals (first|assumption|wp_step))
    refine ZAq (codeAny_call_builtin (R:=wants (λr p=>r=.none/\∃h' tk,p={ s with heap:=h',toks:=tk }/\D7 prog w h' s.heap.objs.size (λk'=>(dd ss).any (· == k')) (dd ss).length/\
      (∀b o,b<s.heap.objs.size->s.heap.get? b=some o->h'.get? b=some o)) E) PySem.F.called_set.init.plain PySem.F.entry_set_init (check_set_init_1 G ?_)) λz p d=>?_
    .have M:(s.heap.push so).get? l=some { cls:=.type T,dict:=u,data:=.seq items nl,slots:=HK }:=BH _ ho;subst n;unfold Builtin.«set.__init__» noKeywords Builtin.Frozenset.updateFrom;generalize j:pyIter=PI
     wp_walk
     subst j;refine hit { s with heap:=s.heap.push _ } _ _ rfl (M.trans ho.symm) (Nat.lt_of_lt_of_eq (IX y) hsz.symm) λob St P W Zj Ih=>?_
     refine pN (ZB7 ?_);have N:s.heap.objs.size∉[(s.heap.push { cls:=.type "set", dict:=none,data:=.set #[] 0 (.fresh 0 0 (!Ga w)) }).objs.size,l]:=by
      rw[hsz];simp only[E9,B0,ZAb,not_or];exact⟨BP (M7 _),M8 y⟩
     refine ZDQ W s.heap.objs.size N Zj hb (ss.length - 0) 0 _ rfl (CH _) Ih ?_ ?_
     .have hg:=BH ob x;exact⟨_,#[],0,_,hg,⟨rfl,rfl,rfl⟩,rfl,λe B=>by simp at B,λk=>by simp[dd],by decide,by rfl,rfl,rfl,λh=>absurd h (by simp)⟩
     .intro s' f CY;obtain⟨h',g',d',UW,Og⟩:=s';have J:g'=s.gens:=f.gens;have K:d'=s.drawn:=f.drawn;have I:Og=s.os:=f.os;subst J;subst K;subst I;show wpAny _ _ _ _ _ _;refine pq ?_;show wpAny _ _ (ret Value.none) _ _ _;refine pq ⟨rfl,h',UW,rfl,CY,λb o C1 e=>?_⟩;refine f.heap b o ?_ (BH _ (BH _ e));rw[hsz];simp only[E9,B0,ZAb,not_or];exact⟨BP C1,BP (IX C1)⟩
    .cases z with
     |error e=>exact d
     |ok m=>
      cases m with
      |ret r=>
       obtain⟨rfl,h',tk,rfl,CY,PB⟩:=d
       repeat (any_goals (first|assumption|wp_step))
       exact h _ _ CY PB
      |_=>exact d.elim
   |_=>exact g.elim))
end
noncomputable def Mn(P:Program)(w:World)(a:Addr)(f:Str->Bool)(n:Nat):HO:=.ext λh=>D7 P w h a f n
theorem gR(z:X.calm=true):D3 X (.type "set") (λxs H Q=>∃(p:Addr)(tp:Bool)(ss:List Str),xs=[.ref p]/\CQ X.K tp H p (ss.map V.str)/\ss.length<4000/\
  ∀l,H l=none->Q (.ref l) (upd H l (Mn X.prog X.w l (λk'=>(dd ss).any (· == k')) (dd ss).length))):=by
 intro Zo s Z H xs us Q I r h;obtain⟨p,tp,ss,rfl,y,G,q⟩:=h;obtain⟨u,rfl,D⟩:=vals1 r;cases D;have B:ss.length+1<scanBound:=by unfold scanBound;omega
 have g:∀(h':Heap)(tk:Nat),D7 X.prog X.w h' s.heap.objs.size (λk'=>(dd ss).any (· == k')) (dd ss).length->(∀b o,b<s.heap.objs.size->s.heap.get? b=some o->h'.get? b=some o)->
   EP X Zo Z Q (.ref s.heap.objs.size) { s with heap:=h',toks:=tk }:=λh' tk C kp=>by
  refine⟨.ref s.heap.objs.size,_,I.laid (t':=tk) (λb o e=>kp b o (BE e) e) (Ag _) (show C7 X.prog X.w _ h' _ (Mn X.prog X.w s.heap.objs.size _ _)from⟨C,?_,λh1 h2 EC m=>?_⟩),rfl,q _ (I.AO.fresh (Ag _))⟩
  .obtain⟨o,_,_,_,ho,_⟩:=C;exact⟨o,ho⟩
  .exact EC.keep m
 cases tp with
 |false=>
  obtain⟨A4,a,pl,Pp⟩:=I.list y;have f:=a.length;rw[AU]at f;obtain⟨⟨c,d,E,sl⟩,n,ho,GA,hd,G6⟩:=id pl;simp only at GA hd G6;subst GA;subst hd;subst G6;refine ke ho PySem.F.sub_list_set PySem.F.sub_list_frozenset (by decide) B (λs1 A1 Q1 t j l1 Zd=>?_) g;have k:s1.heap.IsList p A4.toArray:=⟨_,j.trans ho,rfl,n,rfl⟩;have x:A4.toArray.size=ss.length:=List.size_toArray.trans f.symm;refine ZBC k (Zd _ (λi s=>s.heap.IsListIter s1.heap.objs.size p i/\s.heap.IsList p A4.toArray) (λi v=>A4.toArray[i]?=some v) (by
   have W:=(Walks.list (prog:=X.prog) (w:=X.w) (A:=A1.in1) (by rw[nY,t];exact I.ok.hd z) s1.heap.objs.size p (BP l1) A4.toArray).toS;rw[x]at W;exact W) (λi v e=>TJ a (by simpa using e)) ⟨⟨_,Ba _ rfl,rfl,rfl⟩,k.push _⟩)
 |true=>
  obtain⟨A4,a,pl,Pp⟩:=I.tuple y;have f:=a.length;rw[AU]at f;obtain⟨⟨c,d,E,sl⟩,ho,GA,n,G6⟩:=id pl;simp only at GA G6;subst GA;subst G6;refine ke ho sub_tuple_set sub_tuple_frozenset (by decide) B (λs1 A1 Q1 t j l1 Zd=>?_) g;have k:s1.heap.IsTuple p A4.toArray:=⟨_,j.trans ho,rfl,n,rfl⟩;have x:A4.toArray.size=ss.length:=List.size_toArray.trans f.symm;refine wpAny_pyIter_tuple k (Zd _ (λi s=>s.heap.IsTupleIter s1.heap.objs.size p i/\s.heap.IsTuple p A4.toArray) (λi v=>A4.toArray[i]?=some v) (by
   have W:=(Walks.tuple (prog:=X.prog) (w:=X.w) (A:=A1.in1) (by rw[nY,t];exact I.ok.hd z) s1.heap.objs.size p (BP l1) A4.toArray).toS;rw[x]at W;exact W) (λi v e=>TJ a (by simpa using e)) ⟨⟨_,Ba _ rfl,rfl,rfl⟩,?_⟩)
  exact⟨_,BH _ (j.trans ho),rfl,n,rfl⟩
theorem Inv.drew(I:Inv X Zo Z H s)(d:Drawn):Inv X Zo Z H { s with drawn:=d }:=
 I.step (h':=s.heap) (g':=s.gens) (t':=s.toks) (d':=d) (ch:=[]) (λ_ z=>nomatch z) (λb o _ _ _ e _=>e) (λb o _ _ _ e _=>⟨o.slots,e⟩) (λ_ _ _ _ n=>n) (λb o _ e=>⟨o,e⟩) (λ_ _ e=>e) (λ_ _ _ e=>e) (λm a=>a) I.AO I.bare
theorem ZEZ{l:Addr}{Q:List Value->Shared->Prop}(a:IsTup s.heap l vs.toArray)(h:Q vs { s with heap:=(s.heap.push (seqObj "list" #[] 0)).update s.heap.objs.size (Obj.mapSeq (·++vs.toArray)) })(hsz:vs.length<=sizeLine):
  wpAny (model prog w) A (collect (.ref l)) Q E s:=by
 obtain⟨o,ho,b,n,hd⟩:=id a;unfold collect;refine pN (ZB7 (xA entry_proto_collect' ?_));show wpAny _ _ (newList [] >>= λx=>again (.builtin "list.__iadd__" ⟨[x,.ref l],[]⟩)) _ _ s;refine pN (wpAny_newList ?_);refine pq ⟨Code.quiet_builtin _ (by decide +kernel),xA entry_list_iadd' ?_⟩;show wpAny _ _ (Builtin.List.listExtendWith (.ref s.heap.objs.size) (.ref l) (.ref s.heap.objs.size)) _ _ { s with heap:=s.heap.push (seqObj "list" #[] 0) }
 unfold Builtin.List.listExtendWith;have g:(s.heap.push (seqObj "list" #[] 0)).get? l=some o:=BH _ ho;refine pN (zj (T:="tuple") ⟨o,g,b⟩ ?_);rw[sZ (by simp)];refine pN (listItems_at g hd ?_);refine pN (listItems_at (xs:=#[]) (n:=0) (Ba _ rfl) rfl ?_);rw[sN (by simp)];refine pN (listUpdate_at (xs:=#[]) (n:=0) (Ba _ rfl) rfl ?_ (CH _) (by show(#[]++vs.toArray).size<=sizeLine+1;simp only[Array.size_append,Bt,U7];omega));refine pq ?_;show wpAny (model prog w) A (load s.heap.objs.size >>= λo=>(match o.data with | .seq xs _=>pure xs.toList|_=>unsupported "internal:collect")) Q E _
 refine pN (ZAx (get?_update_seq (Ba _ rfl) _) ?_);show wpAny _ _ (pure ((#[]:Array Value)++vs.toArray).toList) Q E _;have e:((#[]:Array Value)++vs.toArray).toList=vs:=by simp
 rw[e];exact pq h
theorem Vc{Pc:List Value->Shared->Prop}{Q:Value->Shared->Prop}
  (g:∀(A1:Around)(E1:Value->Shared->Prop)(Q1:List Value->Shared->Prop),A1.handled=A.handled->(∀vs s1,Pc vs s1->Q1 vs s1)->wpAny (model prog w) A1 (collect v) Q1 E1 s)
  (h:∀vs s1,Pc vs s1->vs.length<64/\∃ss,StrsAre vs ss/\∀out AA e h',(∀b o,s1.heap.get? b=some o->h'.get? b=some o)->h'.get? s1.heap.objs.size=some (seqObj "list" out e)->StrsAre out.toList AA->AA.Perm ss->sortedS AA=true->Q (.ref s1.heap.objs.size) { s1 with heap:=h' }) :
  wpAny (model prog w) A (call (.builtin "sorted") [v]) Q E s:=by
 refine Calls.call_function_entry kind_sorted plain_sorted entry_sorted (args_sorted1 _) ?_;unfold Builtin.«sorted»;refine pN (m:=checkCount "sorted" 1 1 _) (pq ?_);refine pN (g _ _ _ rfl λvs s1 hp=>?_);obtain⟨C8,ss,JB,k⟩:=h vs s1 hp;refine pN (wpAny_newList ?_);have a:(s1.heap.push (seqObj "list" vs.toArray 0)).get? s1.heap.objs.size=some (seqObj "list" vs.toArray 0):=Ba _ rfl;refine pN (x6 (xE slot_list_sort ⟨_,a,rfl⟩ entry_list_sort (list_sort_treeK (s:={ s1 with heap:=s1.heap.push (seqObj "list" vs.toArray 0) }) strKind_oneLt a JB.keysOf (λp n rest e=>keyKind_strs (by rw[<- e];exact JB)) C8 λD6 a1 a2=>⟨_,rfl,?_⟩) (args_list_sort _)))
 obtain⟨AA,l,j,i⟩:=sorted_out_str JB a1 a2;obtain⟨e,f⟩:=sortedHeap_at (out:=(arrOf D6).map (·.2)) a
 refine pq ⟨_,rfl,k _ AA e _ (λb o c=>?_) f l j i⟩;have d:=BE c;rw[sortedHeap_old (BP d) (by rw[Eh];exact IX d)];exact BH _ c
theorem cT:∀{ss:List Str}{us:List Value},Vals (ss.map V.str) us->StrsAre us ss
 | [],_,.nil=>.nil
 |x::r,_,.cons ⟨t,e⟩ h=>by rw[e];exact .cons x t (cT h)
theorem bE:∀{ss:List Str}{us:List Value},StrsAre us ss->Vals (ss.map V.str) us
 |_,_,.nil=>.nil
 |_,_,.cons x t h=>.cons ⟨t,rfl⟩ (bE h)
theorem Yr{s1:Shared}{Q:VK}(I:Inv X Zo Z H s)(hg:s1.gens=s.gens)(ho:s1.os=s.os)(c:∀b o,s.heap.get? b=some o->s1.heap.get? b=some o)(hs:s.heap.objs.size<=s1.heap.objs.size)
  {out:Array Value}{e:Nat}(kp:∀b o,s1.heap.get? b=some o->h'.get? b=some o) (d:h'.get? s1.heap.objs.size=some (seqObj "list" out e)) (f:StrsAre out.toList AA) (C8:AA.length<64)
  (q:∀l,H l=none->Q (.ref l) (upd H l (.lst (AA.map V.str)))):EP X Zo Z Q (.ref s1.heap.objs.size) { s1 with heap:=h' }:=by
 obtain⟨h1,g1,g,t1,h⟩:=s1;simp only at hg ho c hs kp d;subst hg;subst ho;refine⟨.ref _,_,(I.drew g).laid (a:=h1.objs.size) (h':=h') (t':=t1) (o:=.lst (AA.map V.str)) (λb o q=>kp b o (c b o q)) hs ?_,rfl,q _ (I.AO.fresh hs)⟩;refine⟨?_,out.toList,e,bE f,by simpa[seqObj]using d⟩
 rw[AU];exact Cc (JU C8) (by decide +kernel)
def jw(K:ZJR):List V->Hp->VK->Prop:=λxs H Q=>∃(p:Addr)(tp:Bool)(ss:List Str),xs=[.ref p]/\CQ K tp H p (ss.map V.str)/\ss.length<64/\∀l AA,H l=none->AA.Perm ss->sortedS AA=true->Q (.ref l) (upd H l (.lst (AA.map V.str)))
theorem K0:D3 X (.builtin "sorted") (jw X.K):=by
 intro Zo s Z H xs us Q I r h;obtain⟨p,tp,ss,rfl,f,C8,q⟩:=h;obtain⟨u,rfl,j⟩:=vals1 r;cases j;have d:∀A4:List Value,Vals (ss.map V.str) A4->(∀(A1:Around)(E1:Value->Shared->Prop)(Q1:List Value->Shared->Prop),Q1 A4 { s with heap:=(s.heap.push (seqObj "list" #[] 0)).update s.heap.objs.size (Obj.mapSeq (·++A4.toArray)) }->wpAny (model X.prog X.w) A1 (collect (.ref p)) Q1 E1 s)->
   wpAny (model X.prog X.w) X.A (call (.builtin "sorted") [.ref p]) (EP X Zo Z Q) X.xe s:=by
  intro A4 c i;have a:=c.length;rw[AU]at a;refine Vc (Pc:=λvs s1=>vs=A4/\s1={ s with heap:=(s.heap.push (seqObj "list" #[] 0)).update s.heap.objs.size (Obj.mapSeq (·++A4.toArray)) }) (λA1 E1 Q1 _ k=>i A1 E1 Q1 (k _ _ ⟨rfl,rfl⟩)) ?_
  rintro vs s1⟨rfl,rfl⟩;refine⟨by omega,ss,cT c,λout AA e h' kp t v hp hs=>?_⟩;refine Yr (s1:={ s with heap:=(s.heap.push (seqObj "list" #[] 0)).update s.heap.objs.size (Obj.mapSeq (·++vs.toArray)) }) I rfl rfl (λb o g=>?_) (by show s.heap.objs.size<=((s.heap.push (seqObj "list" #[] 0)).update s.heap.objs.size (Obj.mapSeq (·++vs.toArray))).objs.size;rw[Heap.size_update,Eh];exact GS _) kp t v (by rw[hp.length_eq];exact C8) λl n=>q l AA n hp hs
  show((s.heap.push _).update _ _).get? b=some o;rw[Heap.get?_update_ne _ _ _ _ (BP (BE g))];exact BH _ g
 cases tp with
 |false=>
  obtain⟨A4,c,pl,m⟩:=I.list f;have a:=c.length;exact d A4 c λA1 E1 Q1 k=>collect_list pl.isList k (by omega)
 |true=>
  obtain⟨A4,c,pl,m⟩:=I.tuple f;have a:=c.length;exact d A4 c λA1 E1 Q1 k=>ZEZ pl k (by omega)
def cK(P:Program)(w:World):List V->Hp->VK->Prop:=λxs H Q=>∃(p:Addr)(f:Str->Bool)(n:Nat),xs=[.ref p]/\H p=some (Mn P w p f n)/\n<64/\∀l ts,H l=none->ts.length=n->(∀k,f k=true↔k∈ts)->sortedS ts=true->Q (.ref l) (upd H l (.lst (ts.map V.str)))
theorem i6(v:X.calm=true):D3 X (.builtin "sorted") (cK X.prog X.w):=by
 intro Zo s Z H xs us Q I r h;obtain⟨p,f,n,rfl,y,C8,q⟩:=h;obtain⟨u,rfl,j⟩:=vals1 r;cases j;have x:D7 X.prog X.w s.heap p f n:=(I.AO p _ y).1;have hh:X.A.handled=none:=I.ok.hd v;refine Vc (Pc:=λvs s1=>∃ts,(∀b o,s.heap.get? b=some o->s1.heap.get? b=some o)/\s.heap.objs.size<=s1.heap.objs.size/\s1.gens=s.gens/\s1.os=s.os/\StrsAre vs ts/\ts.length=n/\(∀k,f k=true↔k∈ts)) (λA1 E1 Q1 z k=>?_) ?_
 .exact oz (z.trans hh) x (Cc (JU C8) (by decide +kernel)) λs' vs ts a1 a2 i g c a d=>k vs s' ⟨ts,a1,a2,i,g,c,a,d⟩
 .rintro vs s1⟨ts,a1,a2,i,g,c,a,d⟩;refine⟨by rw[StrsAre.len c,a];exact C8,ts,c,λout AA e h' kp t CY hp hs=>?_⟩;exact Yr I i g a1 a2 kp t CY (by rw[hp.length_eq,a];exact C8) λl m=>q l AA m (hp.length_eq.trans a) (λk=>(d k).trans hp.mem_iff.symm) hs
theorem ib:∀{ss:List Int}{us:List Value},Vals (ss.map V.int) us->IntsAre us ss
 | [],_,.nil=>.nil
 |x::r,_,.cons ⟨t,e⟩ h=>by rw[e];exact .cons x t (ib h)
end L2
namespace MA
noncomputable def O0:Nat->Nat->List Nat
 | 0,n=>[97+n]
 |k+1,n=>if n<26 then[97+n]else(97+n % 26)::O0 k (n / 26)
theorem LD:∀(k:Nat){n:Nat},n<26->O0 k n=[97+n]
 | 0,_,_=>rfl
 |_+1,_,h=>sZ h
theorem iI:∀(k j n:Nat),n<=k->n<=j->O0 k n=O0 j n
 | 0,j,n,h,_=>by rw[LD 0 (IW h (by decide)),LD j (IW h (by decide))]
 |k+1,0,n,_,h=>by rw[LD (k+1) (IW h (by decide)),LD 0 (IW h (by decide))]
 |k+1,j+1,n,h1,h2=>by
  by_cases c:n<26
  .rw[LD _ c,LD _ c]
  .have d:n / 26<n:=Nat.div_lt_self (De (by decide) (oG c)) (by decide);show(if n<26 then _ else _)=(if n<26 then _ else _)
   rw[sN c,sN c,iI k j (n / 26) (oF (De d h1)) (oF (De d h2))]
def lets(n:Nat):List Nat:=O0 n n
noncomputable def vals:List Nat->Nat
 | []=>0
 |c::r=>(c - 97)+26 * vals r
theorem Me{n:Nat}(h:n<26):lets n=[97+n]:=LD n h
theorem PD{n:Nat}(h:¬ n<26):lets n=(97+n % 26)::lets (n / 26):=by
 cases n with
 |zero=>exact absurd (by decide) h
 |succ k=>
  have d:(k+1) / 26<k+1:=Nat.div_lt_self (oI k) (by decide);show(if k+1<26 then _ else _)=_
  rw[sN h,iI k ((k+1) / 26) ((k+1) / 26) (oF d) (Ag _)];rfl
theorem k8:∀n,vals (lets n)=n:=by
 intro n
 induction n using Nat.strongRecOn with
 |_ n a=>
  by_cases h:n<26
  .rw[Me h];simp[vals]
  .rw[PD h];have:=a (n / 26) (by omega);simp only[vals,this];omega
theorem ZFD{a b:Nat}(h:lets a=lets b):a=b:=by rw[<- k8 a,h,k8]
theorem V4(n:Nat):1<=(lets n).length:=by
 by_cases h:n<26
 .rw[Me h];simp
 .rw[PD h];simp
theorem Ts:∀(k n:Nat),n<26 ^ (k+1)->(lets n).length<=k+1
 | 0,n,h=>by rw[Me (by simpa using h)];simp
 |k+1,n,h=>by
  by_cases h1:n<26
  .rw[Me h1];simp
  .rw[PD h1];have:=Ts k (n / 26) (by rw[Nat.pow_succ]at h;exact Nat.div_lt_of_lt_mul (by rw[Nat.mul_comm];exact h));simp only[BK];omega
theorem wD:∀n,∀c∈lets n,97<=c/\c<=122:=by
 intro n
 induction n using Nat.strongRecOn with
 |_ n b=>
  by_cases h:n<26
  .rw[Me h];intro c a;simp at a;omega
  .rw[PD h];intro c a;rcases List.mem_cons.mp a with e|e
   .omega
   .exact b (n / 26) (by omega) c e
theorem bV{α:Type}[DecidableEq α]:∀(k:Nat)(f:Nat->α)(l:List α),(∀i j,i<k->j<k->f i=f j->i=j)->(∀i,i<k->f i∈l)->k<=l.length
 | 0,_,_,_,_=>CH _
 |k+1,f,l,hi,hm=>by
  have h1:=hm k (M7 k);have:=bV k f (l.erase (f k)) (λi j a b e=>hi i j (by omega) (by omega) e) (λi a=>by
   have c:f i≠f k:=λe=>by have:=hi i k (by omega) (by omega) e;omega
   exact(U9 c).mpr (hm i (by omega)))
  rw[ax h1]at this;have hp:=o8 h1;omega
end MA
namespace Lw
open L2
variable{a l p:Addr}{H H' H2:Hp}{xs:List V}{o:HO}{α:Type}{hi i m n:Nat}{ns ss:List Str}{x y z:Str}{j r:Int}{A B c:Prop}
def BR(H:Hp)(p:Addr):Prop:=∃a b:Int,H p=some (.lst [.int a,.int b])/\0<=a/\a<10 ^ 256/\0<=b/\b<2147483647
structure BF (p:Addr) (H H':Hp):Prop where
 AG:BR H' p
 same:Gn p H H'
theorem BF.trans{H1:Hp}(a:BF p H H1)(b:BF p H1 H2):BF p H H2:=⟨b.AG,a.same.trans b.same⟩
theorem BF.of(h:BR H p)(s:A8 H H'):BF p H H':=by
 obtain⟨a,b,e,r⟩:=h;exact⟨⟨a,b,s _ _ e,r⟩,Gn.of s⟩
theorem BF.Np{K:ZJR}(s:BF p H H')(h:AK K H a xs)(Ac:a≠p):AK K H' a xs:=by
 rcases h with(h|⟨o,h⟩)|h
 .exact .inl (.inl (s.same _ _ Ac h))
 .exact .inl (.inr ⟨o,s.same _ _ Ac h⟩)
 .exact .inr h
theorem BF.at'(s:BF p H H')(h:H a=some o)(Ac:a≠p):H' a=some o:=s.same _ _ Ac h
theorem MJ{a:Int}(c:-(10 ^ 20)<a)(h1:a<10 ^ 20):a.natAbs<2 ^ 1000:=by
 have b:a.natAbs<10 ^ 20:=by omega
 exact Nat.lt_trans b (by decide +kernel)
def Y2(K:ZJR):Sp:=λvs H Q _=>∃(a:Addr)(ns:List Int)(k:Int),vs=[.ref a,.int k]/\AK K H a (ns.map V.int)/\0<=k/\k<=1000/\∀p H',H p=none->A8 H H'->BR H' p->Q (.ref p) H'
def Ki:Sp:=λvs H Q _=>∃(p:Addr)(m:Int),vs=[.ref p,.int m]/\BR H p/\0<m/\m<10 ^ 18/\∀r H',0<=r->r<m->BF p H H'->Q (.int r) H'
noncomputable def DN(l:List Nat):Str:=⟨l.toArray⟩
def iH:Sp:=λvs H Q _=>∃r:Int,vs=[.int r]/\0<=r/\r<26 ^ 8/\∀H',A8 H H'->Q (.str (DN (MA.lets r.toNat))) H'
theorem Ng{xs:List α}{k:Int}{v:α}(b:0<=k)(h:xs[k.toNat]?=some v):Be xs k=some v:=by
 have a:k=((k.toNat:Nat):Int):=by omega
 have q:=RN h;rw[<- a]at q;exact q
noncomputable abbrev My:Str:="abcdefghijklmnopqrstuvwxyz"
theorem xf:∀j,j<26->My.cps.toList[j]?=some (97+j):=by decide +kernel
theorem fN{k:Int}(a:0<=k)(h1:k<26):Be My.cps.toList k=some (97+k.toNat):=Ng a (xf _ (by omega))
theorem ly(l:List Nat)(c:Nat):DN l++(⟨#[c]⟩:Str)=DN (l++[c]):=by
 show(⟨l.toArray++#[c]⟩:Str)=⟨(l++[c]).toArray⟩;simp
theorem Qw(l:List Nat):(DN l).length=l.length:=by simp[DN,Str.length]
theorem jT{l:List Nat}:(V.str (DN l)=V.str (Str.ofString ""))↔l=[]:=by
 constructor
 .intro h;injection h with h
  have h2:=wu (λx=>x.cps.toList) h;have e:(Str.ofString "").cps.toList=[]:=by decide +kernel
  rw[e]at h2
  simpa[DN]using h2
 .rintro rfl;rfl
theorem small(h:n<=100000):n<=sizeLine:=Cc h (by decide +kernel)
theorem ij{k:Nat}{pre:List Nat}(h:pre++MA.lets k=MA.lets n):(0<k / 26->(pre++[97+k % 26])++MA.lets (k / 26)=MA.lets n)/\(k / 26=0->pre++[97+k % 26]=MA.lets n):=by
 constructor
 .intro h1;rw[MA.PD (by omega)]at h;rw[<- h,Bd];rfl
 .intro h1;have h2:k<26:=by omega
  rw[MA.Me h2]at h;rw[<- h,Nat.mod_eq_of_lt h2]
def Nm(x:Str):Prop:=1<=x.length/\x.length<=8/\∀c∈x.cps.toList,97<=c/\c<=122
instance (x:Str):Decidable (Nm x):=by unfold Nm;exact inferInstance
theorem IQ(x:Str):x.length=x.cps.toList.length:=by simp[Str.length]
theorem Z4(h:n<26 ^ 8):Nm (DN (MA.lets n)):=by
 refine⟨by rw[Qw];exact MA.V4 n,by rw[Qw];exact MA.Ts 7 n h,λc a=>MA.wD n c (by simpa[DN]using a)⟩
noncomputable def menu:List Str:=["put","take","none","ahead","all","over","next","a","ab","abc","abcdefgh","b","step"]
theorem ZBV:∀x∈menu,Nm x:=by decide +kernel
noncomputable def S7:List V:=[.str "put",.str "take",.str "none",.str "ahead",.str "all",.str "over",.str "next",.str "a",.str "ab",.str "abc",.str "abcdefgh",.str "b",.str "step"]
theorem ZC9{i:Int}(a:0<=i)(h1:i<13):∃x,Be S7 i=some (.str x)/\Nm x:=by
 have b:menu.length=13:=rfl;have hi:i.toNat<menu.length:=by omega
 have e:S7=menu.map V.str:=rfl;refine⟨menu[i.toNat],Ng a ?_,ZBV _ (M4 hi)⟩;rw[e,Am,B7 hi];rfl
theorem QM{i:Int}(a:0<=i)(h1:i<ns.length):∃x,Be (ns.map V.str) i=some (.str x)/\x∈ns/\ns[i.toNat]?=some x:=by
 have hi:i.toNat<ns.length:=by omega
 exact⟨ns[i.toNat],Ng a (by rw[Am,B7 hi];rfl),M4 hi,B7 hi⟩
theorem EB(ns:List Str):(ns.map V.str).all En=true:=by
 rw[Hg];intro x hx;obtain⟨y,_,rfl⟩:=List.mem_map.mp hx;rfl
theorem J8(x:Str)(ns:List Str):DI (.str x) (ns.map V.str)=decide (x∈ns):=by
 unfold DI;rw[NY,ZIC,decide_eq_true_iff];constructor
 .rintro⟨v,b,h⟩;obtain⟨y,a,rfl⟩:=List.mem_map.mp b;have h':(y == x)=true:=h;have:y=x:=by simpa using h'
  rw[<- this];exact a
 .intro h;exact⟨.str x,List.mem_map.mpr ⟨x,h,rfl⟩,by show(x == x)=true;simp⟩
theorem ND(xs:List V):Dp xs []=decide (xs=[]):=by
 cases xs with
 |nil=>rfl
 |cons x r=>rw[Ks (by simp)];simp
theorem ZAZ(h:x.cps.toList=y.cps.toList):x=y:=by
 cases x;cases y;simp only[Str.mk.injEq];exact Array.toList_inj.mp h
theorem ZCp(z:Str){a b:Nat}{lo hi:Option Int}(DM:a<=b)(c:b<=z.length)(e:Builtin.Str.strSliceIndices lo hi 1 z.length=Builtin.Str.strSliceIndices (some (a:Int)) (some (b:Int)) 1 z.length):
  (Txt.slice z lo hi).cps.toList=(z.cps.toList.drop a).take (b - a):=by
 have q:=StrLaws.sliced_plain z DM c;rw[<- e]at q;unfold Txt.slice;split
 .rename_i h;have d:(Builtin.Str.strSliceIndices lo hi 1 z.length).length=z.length:=by simpa using h
  rw[e,StrLaws.strSliceIndices_plain DM c,AU,M5]at d;have h1:a=0:=by omega
  have h2:b=z.length:=by omega
  subst h1;subst h2;rw[U5,Qe,IQ,IU]
 .rw[<- q]
theorem ZB9(h:0<=j):max (0:Int) (min j (n:Int))=max 0 (min ((min j.toNat n:Nat):Int) (n:Int)):=by
 have e:((min j.toNat n:Nat):Int)=min j n:=by
  rcases Qc j.toNat n with c|c
  .rw[Kk c,ng h,Int.min_eq_left (by have:=Int.ofNat_le.mpr c;rw[ng h]at this;exact this)]
  .rw[Qd c,Int.min_eq_right (by have:=Int.ofNat_le.mpr c;rw[ng h]at this;exact this)]
 rw[e,Int.min_assoc,Int.min_self]
theorem vF(z:Str)(h:0<=j):(Txt.slice z none (some j)).cps.toList=z.cps.toList.take j.toNat:=by
 have e:=ZCp z (a:=0) (b:=min j.toNat z.length) (lo:=none) (hi:=some j) (CH _) (oH _ _) (by
  have h1:¬ j<0:=by omega
  have h2:¬ (((min j.toNat z.length:Nat):Int)<0):=Int.not_lt.mpr (Int.natCast_nonneg _);have c:max (0:Int) (min j (z.length:Int))=max 0 (min ((min j.toNat z.length:Nat):Int) (z.length:Int)):=ZB9 h;simp only[Builtin.Str.strSliceIndices,h1,h2,ZBb,c];rfl)
 rw[e,U5,Qe];rcases Qc j.toNat z.length with h1|h1
 .rw[Kk h1]
 .rw[Qd h1,IQ,IU,Qb (by rw[<- IQ];exact h1)]
theorem d7(h:1<=j)(d:j<=8)(b:1<=z.length)(a:∀c∈z.cps.toList,97<=c/\c<=122):Nm (Txt.slice z none (some j)):=by
 have e:=vF z (j:=j) (by omega);refine⟨?_,?_,λc HX=>a c ?_⟩
 .rw[IQ,e,Bi,<- IQ];omega
 .rw[IQ,e,Bi];omega
 .rw[e]at HX;exact UA HX
theorem eT(x y:Str):(x++y).cps.toList=x.cps.toList++y.cps.toList:=by
 show(x.cps++y.cps).toList=_;simp
theorem gk(x y:Str):(x++y).length=x.length+y.length:=by rw[IQ,eT,B2,<- IQ,<- IQ]
def PR(K:ZJR):Sp:=λvs H Q _=>∃(p q:Addr)(ns:List Str),vs=[.ref p,.ref q]/\BR H p/\H q=some (.lst (ns.map V.str))/\q≠p/\(∀x∈ns,Nm x)/\ns.length<=1000/\∀x H',Nm x->x∉ns->BF p H H'->Q (.str x) H'
theorem ZFP{k:Nat}(h:∀j,j<k->DN (MA.lets j)∈ns):k<=ns.length:=
 MA.bV k (λj=>DN (MA.lets j)) ns (λi j _ _ e=>MA.ZFD (by
  have:=wu (λx=>x.cps.toList) e
  simpa[DN]using this)) h
theorem ZCN:1000<26 ^ 8:=by decide +kernel
theorem xD:(1000:Int)<26 ^ 8:=by decide +kernel
theorem ZDf:(26:Int) ^ (8:Int).toNat - 26<26 ^ 8:=by decide +kernel
theorem tG:(26:Int)<26 ^ 8:=by decide +kernel
theorem ZF3:(0:Int)<26 ^ (8:Int).toNat - 26:=by decide +kernel
theorem ZEa:(26:Int) ^ (8:Int).toNat - 26<10 ^ 18:=by decide +kernel
theorem mr(a:0<=r)(h:r<26 ^ 8):r.toNat<26 ^ 8:=by omega
theorem BF.upd(s:BF p H H2)(h:H l=none)(Ac:l≠p):BF p H (upd H2 l o):=by
 obtain⟨a,b,e,r⟩:=s.AG;refine⟨⟨a,b,by rw[Af (BG Ac)];exact e,r⟩,λc u d q=>?_⟩;rw[Af (Dr q h)];exact s.same c u d q
theorem BF.none(s:BF p H H2)(h:H2 l=none):H l=none:=by
 cases q:H l with
 |none=>rfl
 |some o=>
  by_cases e:l=p
  .obtain⟨a,b,c,_⟩:=s.AG;rw[<- e,h]at c;cases c
  .rw[s.same l o e q]at h;cases h
theorem BR.ne(h:BR H p)(a:H l=none):l≠p:=by
 obtain⟨_,_,e,_⟩:=h;exact(Dr e a).symm
theorem A8.none(s:A8 H H2)(h:H2 l=none):H l=none:=by
 cases q:H l with
 |none=>rfl
 |some o=>rw[s l o q]at h;cases h
def bg:Sp:=λvs H Q _=>∃(p:Addr)(m:Int),vs=[.ref p,.int m]/\BR H p/\0<=m/\m<=100/\
 ∀l H'(ns:List Str),H l=none->BF p H H'->H' l=some (.lst (ns.map V.str))->(ns.length:Int)=m->(∀x∈ns,Nm x)->ns.Nodup->Q (.ref l) H'
def X5:Sp:=λvs H Q _=>∃(p:Addr)(m:Int),vs=[.ref p,.int m]/\BR H p/\1<=m/\m<=100/\
 ∀l H'(ns:List Str),H l=none->BF p H H'->H' l=some (.lst (ns.map V.str))->(ns.length:Int)<=m->(∀x∈ns,Nm x)->ns.Nodup->Q (.ref l) H'
theorem SJ{l:List α}{x:α}(h:l.Nodup)(hx:x∉l):(l++[x]).Nodup:=by
 rw[CG];exact⟨h,by simp,λa d b c=>by
  have:b=x:=by simpa using c
  subst this;rintro rfl;exact hx d⟩
theorem ZA6{m:Int}(b:0<=j)(h1:j<3)(a:1<=m):∃k:Int,Be [V.int 0,V.int 1,V.int m] j=some (.int k)/\0<=k/\k<=m:=by
 have:j=0∨j=1∨j=2:=by omega
 rcases this with rfl|rfl|rfl
 .exact⟨0,rfl,by omega,by omega⟩
 .exact⟨1,rfl,by omega,by omega⟩
 .exact⟨m,rfl,by omega,by omega⟩
noncomputable def T9(c:Nat):Bool:=!(Builtin.Str.occurrences My ⟨#[c]⟩ 0 My.length 1).isEmpty
def isNm(x:Str):Bool:=decide ((1:Int)<=x.length) && (decide ((x.length:Int)<=8) && x.cps.toList.all T9)
def OU:Sp:=λvs H Q _=>∃x:Str,vs=[.str x]/\x.length<=1000/\∀H',A8 H H'->Q (.bl (isNm x)) H'
theorem gx(l:List α):l.filter (λ_=>true)=l:=List.filter_eq_self.mpr λ_ _=>rfl
noncomputable def fj:V->V
 | .str y=>.bl (!(Builtin.Str.occurrences My y 0 My.length 1).isEmpty)
 |_=>.bl false
theorem sJ(x:Str):((Gj x).filter (λ_=>true)).map fj=(x.cps.toList.map T9).map V.bl:=by
 unfold Gj;rw[gx,Hi,Hi];rfl
theorem signs_get{v:V}(h:(Gj x)[i]?=some v):∃c,v=.str ⟨#[c]⟩:=by
 unfold Gj at h;rw[Am]at h;cases q:x.cps.toList[i]? with
 |none=>rw[q]at h;cases h
 |some c=>rw[q]at h;simp at h;exact⟨c,h.symm⟩
theorem all_map(f:α->Bool)(l:List α):(l.map f).all id=l.all f:=by rw[List.all_map];rfl
theorem Jh{v:V}(h:(ss.map V.str)[i]?=some v):∃x,v=.str x/\x∈ss:=by
 rw[Am]at h;cases q:ss[i]? with
 |none=>rw[q]at h;cases h
 |some x=>rw[q]at h;simp at h;exact⟨x,h.symm,DQ q⟩
theorem ZHd(xs:List Str):Dp (xs.map V.str) (xs.map V.str)=true:=by
 rw[Kd rfl,Hg];intro j a;have b:j<xs.length:=by simpa using a
 have e:(xs.map V.str)[j]?=some (.str xs[j]):=by rw[Am,B7 b];rfl
 rw[Kb e];show(xs[j] == xs[j])=true;simp
theorem RF(K:ZJR)(t:String):PySem.W.kitOne K (.type t) (.type t)=some true:=by
 unfold PySem.W.kitOne;rw[sZ (by simp)]
def OK(K:ZJR):Sp:=λvs H Q _=>∃(a:Addr)(ns:List Int),vs=[.ref a]/\AK K H a (ns.map V.int)/\ns.length<=63/\∀H',Q (.bl true) H'
inductive AQ where
 |put (x:Str) (i:Nat)|take (x:Str)|move (x:Str) (i:Nat)|turn (lo hi:Nat)
noncomputable def AQ.vals:AQ->List V
 | .put x i=>[.str "put",.str x,.int i]
 | .take x=>[.str "take",.str x]
 | .move x i=>[.str "move",.str x,.int i]
 | .turn lo hi=>[.str "turn",.int lo,.int hi]
def AQ.Ok(m:Nat)(ns:List Str):AQ->Prop
 | .put x i=>Nm x/\x∉ns/\i<=ns.length/\ns.length<m
 | .take x=>x∈ns
 | .move x i=>x∈ns/\i<ns.length
 | .turn lo hi=>lo<=hi/\hi<=ns.length
noncomputable def ins(ns:List Str)(x:Str)(i:Nat):List Str:=ns.take i++x::ns.drop i
def wo(ns:List Str)(x:Str):List Str:=ns.filter λy=>!decide (y=x)
noncomputable def FZ(ns:List Str)(lo hi:Nat):List Str:=ns.take lo++((ns.drop lo).take (hi - lo)).reverse++ns.drop hi
def AQ.done(ns:List Str):AQ->List Str
 | .put x i=>ins ns x i
 | .take x=>wo ns x
 | .move x i=>ins (wo ns x) x i
 | .turn lo hi=>FZ ns lo hi
theorem Mz(h:x∉ns):wo ns x=ns:=by
 unfold wo;rw[ZIH];intro y a;have:y≠x:=λe=>h (e▸a);simp[this]
theorem KS:y∈wo ns x↔y∈ns/\y≠x:=by
 unfold wo;rw[Nc];simp
theorem eE(h:ns.Nodup):(wo ns x).Nodup:=h.filter _
theorem gf(as bs:List Str)(x:Str):wo (as++bs) x=wo as x++wo bs x:=by unfold wo;rw[Lz]
theorem mz(bs:List Str)(x:Str):wo (x::bs) x=wo bs x:=by unfold wo;rw[nq];simp
theorem TF(h:x∈ns):ns=ns.take (ns.idxOf x)++x::ns.drop (ns.idxOf x+1):=by
 have a:ns.idxOf x<ns.length:=List.idxOf_lt_length_iff.mpr h;have e:ns[ns.idxOf x]=x:=av a
 conv=>lhs;rw[<- Hj (ns.idxOf x) ns,ZIE a,e]
theorem nR(h:x∈ns):x∉ns.take (ns.idxOf x):=by
 intro a;obtain⟨m,PZ,e⟩:=List.mem_iff_getElem.mp a;rw[Bi]at PZ;rw[List.getElem_take]at e;exact aJ x ns m (by omega) (by omega) e
theorem mY(h:x∈ns)(nd:ns.Nodup):x∉ns.drop (ns.idxOf x+1):=by
 rw[TF h]at nd;have h2:=(List.nodup_append.mp nd).2.1;exact(List.nodup_cons.mp h2).1
theorem ZFo(h:x∈ns)(nd:ns.Nodup):wo ns x=ns.take (ns.idxOf x)++ns.drop (ns.idxOf x+1):=by
 conv=>lhs;rw[TF h]
 rw[gf,mz,Mz (nR h),Mz (mY h nd)]
theorem O7(h:x∈ns)(nd:ns.Nodup):(wo ns x).length+1=ns.length:=by
 have a:ns.idxOf x<ns.length:=List.idxOf_lt_length_iff.mpr h;rw[ZFo h nd,B2,Bi,Ct];omega
theorem RU:(ins ns x i).length=ns.length+1:=by
 unfold ins;rw[B2,BK,Bi,Ct];omega
theorem TH:y∈ins ns x i↔y=x∨y∈ns:=by
 unfold ins;rw[FY,E9];have:y∈ns↔y∈ns.take i∨y∈ns.drop i:=by rw[<- FY,Hj]
 rw[this];constructor
 .rintro(h|h|h)
  .exact .inr (.inl h)
  .exact .inl h
  .exact .inr (.inr h)
 .rintro(h|h|h)
  .exact .inr (.inl h)
  .exact .inl h
  .exact .inr (.inr h)
theorem WB(h:ns.Nodup)(hx:x∉ns):(ins ns x i).Nodup:=by
 unfold ins;have e:(ns.take i++ns.drop i).Nodup:=by rw[Hj];exact h
 obtain⟨h1,h2,f⟩:=List.nodup_append.mp e;rw[CG];refine⟨h1,List.nodup_cons.mpr ⟨λz=>hx (az z),h2⟩,λa c b d=>?_⟩;rcases List.mem_cons.mp d with z|z
 .rw[z];rintro rfl;exact hx (UA c)
 .exact f a c b z
theorem iV{lo:Nat}(h1:lo<=hi)(h2:hi<=ns.length):(FZ ns lo hi).length=ns.length:=by
 unfold FZ;rw[B2,B2,QZ,Bi,Bi,Ct,Ct];omega
theorem nD{lo:Nat}(h1:lo<=hi):ns=ns.take lo++(ns.drop lo).take (hi - lo)++ns.drop hi:=by
 have:ns.drop hi=(ns.drop lo).drop (hi - lo):=by rw[List.drop_drop];congr 1;omega
 rw[this,Bd,Hj,Hj]
theorem e9{lo:Nat}(h1:lo<=hi):y∈FZ ns lo hi↔y∈ns:=by
 conv=>rhs;rw[nD (ns:=ns) h1]
 unfold FZ;simp only[FY,List.mem_reverse]
theorem sR{lo:Nat}(h1:lo<=hi)(nd:ns.Nodup):(FZ ns lo hi).Nodup:=by
 have p:List.Perm (FZ ns lo hi) ns:=by
  conv=>rhs;rw[nD (ns:=ns) h1]
  unfold FZ;exact((List.reverse_perm _).append_left _).append_right _
 exact p.nodup_iff.mpr nd
theorem AQ.step{d:AQ}(h:d.Ok m ns)(nd:ns.Nodup)(b:∀x∈ns,Nm x)(c:ns.length<=m):
  (d.done ns).Nodup/\(∀x∈d.done ns,Nm x)/\(d.done ns).length<=m:=by
 cases d with
 |put x i=>
  obtain⟨h1,h2,g,f⟩:=h;refine⟨WB nd h2,λy a=>?_,?_⟩
  .rcases TH.mp a with e|e
   .rw[e];exact h1
   .exact b y e
  .show(ins ns x i).length<=m;rw[RU];omega
 |take x=>
  refine⟨eE nd,λy a=>b y (KS.mp a).1,?_⟩;have:=O7 h nd;show(wo ns x).length<=m;omega
 |move x i=>
  obtain⟨h1,h2⟩:=h;refine⟨WB (eE nd) (λz=>(KS.mp z).2 rfl),λy a=>?_,?_⟩
  .rcases TH.mp a with e|e
   .rw[e];exact b x h1
   .exact b y (KS.mp e).1
  .have:=O7 h1 nd;show(ins (wo ns x) x i).length<=m;rw[RU];omega
 |turn lo hi=>
  obtain⟨h1,h2⟩:=h;exact⟨sR h1 nd,λy a=>b y ((e9 h1).mp a),by show(FZ ns lo hi).length<=m;rw[iV h1 h2];exact c⟩
theorem OB(xs:List V)(i:Nat):CK xs none (some (i:Int))=xs.take i:=by
 unfold CK;rw[HT.Rn,HT.Ml,U5,Qe];rcases Qc i xs.length with h|h
 .rw[Kk h]
 .rw[Qd h,IU,Qb h]
theorem OF(xs:List V)(i:Nat):CK xs (some (i:Int)) none=xs.drop i:=by
 unfold CK;rw[HT.Rn,HT.Ml];rcases Qc i xs.length with h|h
 .rw[Kk h,Qb (by rw[Ct];omega)]
 .rw[Qd h,IY,List.take_zero,ZIF h]
theorem la(xs:List V){j:Nat}(hi:i<=j)(a:j<=xs.length):CK xs (some (i:Int)) (some (j:Int))=(xs.drop i).take (j - i):=by
 unfold CK;rw[HT.Ml,HT.Ml,Kk a,Kk (Cc hi a)]
noncomputable def BN(tp:Bool)(xs:List V):HO:=match tp with
 |false=>.lst xs
 |true=>.tup xs
theorem BN.sq{K:ZJR}{tp:Bool}(h:H a=some (BN tp xs)):CQ K tp H a xs:=by
 cases tp
 .exact AK.of h
 .exact AD.of h
def LZ:Sp:=λvs H Q _=>∃(a:Addr)(tp:Bool)(ns:List Str)(x:Str),vs=[.ref a,.str x]/\H a=some (BN tp (ns.map V.str))/\x∈ns/\Q (.int (ns.idxOf x:Nat)) H
def bI:Sp:=λvs H Q _=>∃(a:Addr)(tp:Bool)(ns:List Str)(x:Str)(i:Nat),vs=[.ref a,.str x,.int i]/\H a=some (BN tp (ns.map V.str))/\(AQ.put x i).Ok 40 ns/\∀H',A8 H H'->Q .AB H'
def nU:Sp:=λvs H Q _=>∃(a:Addr)(tp:Bool)(ns:List Str)(x:Str)(i:Nat),vs=[.ref a,.str x,.int i]/\H a=some (BN tp (ns.map V.str))/\(AQ.move x i).Ok 40 ns/\Q .AB H
def fD:Sp:=λvs H Q _=>∃(a:Addr)(tp:Bool)(ns:List Str)(lo hi:Nat),vs=[.ref a,.int lo,.int hi]/\H a=some (BN tp (ns.map V.str))/\(AQ.turn lo hi).Ok 40 ns/\Q .AB H
def mn:Sp:=λvs H Q _=>∃(a t:Addr)(tp:Bool)(ns:List Str)(d:AQ),vs=[.ref a,.ref t]/\H a=some (BN tp (ns.map V.str))/\H t=some (.tup d.vals)/\d.Ok 40 ns/\∀H',A8 H H'->Q .AB H'
def KI(H:Hp)(Q:VK)(ns:List Str):Prop:=∀l H',H l=none->A8 H H'->H' l=some (.lst (ns.map V.str))->Q (.ref l) H'
def lY:Sp:=λvs H Q _=>∃(a:Addr)(tp:Bool)(ns:List Str)(x:Str)(i:Nat),vs=[.ref a,.str x,.int i]/\H a=some (BN tp (ns.map V.str))/\ns.length<=1000/\KI H Q (ins ns x i)
def jm:Sp:=λvs H Q _=>∃(a:Addr)(tp:Bool)(ns:List Str)(x:Str),vs=[.ref a,.str x]/\H a=some (BN tp (ns.map V.str))/\ns.length<=1000/\KI H Q (wo ns x)
def WN:Sp:=λvs H Q _=>∃(a t:Addr)(ns:List Str)(d:AQ),vs=[.ref a,.ref t]/\H a=some (.lst (ns.map V.str))/\H t=some (.tup d.vals)/\d.Ok 40 ns/\ns.length<=40/\ns.Nodup/\KI H Q (d.done ns)
def Z6:Sp:=λvs H Q _=>∃(p a:Addr)(m:Nat)(ns:List Str),vs=[.ref p,.ref a,.int m]/\BR H p/\H a=some (.lst (ns.map V.str))/\a≠p/\(∀x∈ns,Nm x)/\ns.length<=m/\1<=m/\m<=100/\
 ∀(d:AQ)t H',H t=none->BF p H H'->H' t=some (.tup d.vals)->d.Ok m ns->Q (.ref t) H'
theorem Hm[Decidable c](h:c)(a:A):if c then A else B:=by rw[sZ h];exact a
theorem BU[Decidable c](h:¬ c)(b:B):if c then A else B:=by rw[sN h];exact b
theorem ZFu:∀j,j<26->T9 (97+j)=true:=by decide +kernel
theorem Vb(h:Nm x):isNm x=true:=by
 obtain⟨h1,h2,f⟩:=h;unfold isNm;rw[rg (by omega),rg (by omega),Lu,Lu,Hg];intro c d;obtain⟨a,b⟩:=f c d;have:=ZFu (c - 97) (by omega);have e:97+(c - 97)=c:=by omega
 rw[e]at this;exact this
theorem DC(ns:List Str):(ns.map V.str).length=ns.length:=AU _
noncomputable def I0(y:V):V->Bool:=λv=>!decide (v=y)
theorem Pd(ns:List Str)(x:Str):((ns.map V.str).filter (I0 (.str x))).map (λv=>v)=(wo ns x).map V.str:=by
 unfold wo I0;rw[o9,nr]
 congr 1
 apply ZIG;intro y _;simp
theorem ZBz(ns:List Str)(i:Int):((ns.map V.str).filter (I0 (.int i))).map (λv=>v)=ns.map V.str:=by
 unfold I0;rw[o9,ZIH];intro v a;obtain⟨y,_,rfl⟩:=List.mem_map.mp a;rfl
theorem uO(s:A8 H H')(h:H l=none):A8 H (upd H' l o):=λb u q=>by rw[Af (Dr q h)];exact s b u q
theorem ZHO(K:ZJR):PySem.W.kitOne K (.type "int") (.type "bool")=some false:=by
 unfold PySem.W.kitOne;rw[sN (by decide)];with_unfolding_all rfl
end Lw
namespace Fz
open L2 Lw
variable{F F' H H':Hp}{v:V}{CJ vs:List V}{i i0 j:Nat}{t:TA}{a l:Addr}{r:List V->Hp->VK->Prop}{Z τ:L2.St}{o:HO}{ta tc te:TE}{tb u:TS}{b neg tp:Bool}{A:List Addr}{α:Type}{Q:VK}{f:Int->Int->Bool}{n:String}{th tl:TO}{X:XK}{c tt:TT}{wi:TI}
inductive PV where
 |AB|bl (b:Bool)|int (i:Int)|str (x:Str)|lst (xs:List PV)|tup (xs:List PV)
 |B1 (ks:List Key) (xs:List PV)|obj (C:Addr) (ns:List Str) (xs:List PV)|exc (C:Addr) (ns:List Str) (xs:List PV)|con (a:Addr) (xs:List PV)
variable{p:PV}{ps xs:List PV}
noncomputable def Tt(a C:Addr)(dx:Option Addr):HO:=.ext λh=>∃ob vs,h.get? a=some ob/\ob.cls=.ref C/\ob.dict=dx/\ob.data=.fields vs
mutual
inductive Rep (F:Hp):V->PV->Prop where
 |AB:Rep F .AB .AB
 |bl (b:Bool):Rep F (.bl b) (.bl b)
 |int (i:Int):Rep F (.int i) (.int i)
 |str (x:Str):Rep F (.str x) (.str x)
 |lst {a:Addr}{vs:List V}{xs:List PV}:F a=some (.lst vs)->AW F vs xs->Rep F (.ref a) (.lst xs)
 |tup {a:Addr}{vs:List V}{xs:List PV}:F a=some (.tup vs)->AW F vs xs->Rep F (.ref a) (.tup xs)
 |B1 {a:Addr}{ks:List Key}{vs:List V}{xs:List PV}:F a=some (.dK (ks.zip vs))->ks.length=vs.length->AW F vs xs->Rep F (.ref a) (.B1 ks xs)
 |obj {a C dx:Addr}{ns:List Str}{vs:List V}{xs:List PV}:F a=some (.ins C dx (ns.zip vs))->F dx=some (.own a)->ns.length=vs.length->AW F vs xs->Rep F (.ref a) (.obj C ns xs)
 |con {a:Addr}{xs:List PV}:Rep F (.ref a) (.con a xs)
 |Te {a C:Addr}:F a=some (Tt a C none)->Rep F (.ref a) (.exc C [] [])
 |exc {a C dx:Addr}{ns:List Str}{vs:List V}{xs:List PV}:F a=some (Tt a C (some dx))->F dx=some (.xd (ns.zip vs))->ns.length=vs.length->AW F vs xs->Rep F (.ref a) (.exc C ns xs)
inductive AW (F:Hp):List V->List PV->Prop where
 |nil:AW F [] []
 |cons {v:V}{p:PV}{vs:List V}{ps:List PV}:Rep F v p->AW F vs ps->AW F (v::vs) (p::ps)
end
theorem Rep.mono(s:A8 F F')(r:Rep F v p):Rep F' v p:=
 Rep.rec (motive_1:=λv p _=>Rep F' v p) (motive_2:=λvs ps _=>AW F' vs ps) .AB .bl .int .str (λh _ i=>.lst (s _ _ h) i) (λh _ i=>.tup (s _ _ h) i) (λh e _ i=>.B1 (s _ _ h) e i) (λh h2 e _ i=>.obj (s _ _ h) (s _ _ h2) e i) .con (λh=>.Te (s _ _ h)) (λh h2 e _ i=>.exc (s _ _ h) (s _ _ h2) e i) .nil (λ_ _ i k=>.cons i k) r
def ZCa(F:Hp)(v:V):PV->Prop
 | .AB=>v=.AB
 | .bl b=>v=.bl b
 | .int i=>v=.int i
 | .str x=>v=.str x
 | .lst xs=>∃a vs,v=.ref a/\F a=some (.lst vs)/\AW F vs xs
 | .tup xs=>∃a vs,v=.ref a/\F a=some (.tup vs)/\AW F vs xs
 | .B1 ks xs=>∃a vs,v=.ref a/\F a=some (.dK (ks.zip vs))/\ks.length=vs.length/\AW F vs xs
 | .obj C ns xs=>∃a dx vs,v=.ref a/\F a=some (.ins C dx (ns.zip vs))/\F dx=some (.own a)/\ns.length=vs.length/\AW F vs xs
 | .con a _=>v=.ref a
 | .exc C ns xs=>(∃a,v=.ref a/\F a=some (Tt a C none)/\ns=[]/\xs=[])∨∃a dx vs,v=.ref a/\F a=some (Tt a C (some dx))/\F dx=some (.xd (ns.zip vs))/\ns.length=vs.length/\AW F vs xs
theorem Rep.inv(r:Rep F v p):ZCa F v p:=by
 cases r with
 |lst h r=>exact⟨_,_,rfl,h,r⟩
 |tup h r=>exact⟨_,_,rfl,h,r⟩
 |B1 h l r=>exact⟨_,_,rfl,h,l,r⟩
 |obj h h2 l r=>exact⟨_,_,_,rfl,h,h2,l,r⟩
 |Te h=>exact .inl ⟨_,rfl,h,rfl,rfl⟩
 |exc h h2 l r=>exact .inr ⟨_,_,_,rfl,h,h2,l,r⟩
 |_=>exact rfl
theorem AW.inv(r:AW F vs (p::ps)):∃v ws,vs=v::ws/\Rep F v p/\AW F ws ps:=by
 cases r with
 |cons r t=>exact⟨_,_,rfl,r,t⟩
theorem AW.Ej(r:AW F vs []):vs=[]:=by
 cases r;rfl
theorem AW.mono(s:A8 F F')(r:AW F vs ps):AW F' vs ps:=by
 induction ps generalizing vs with
 |nil=>cases r.Ej;exact .nil
 |cons p ps c=>obtain⟨v,ws,rfl,a,b⟩:=r.inv;exact .cons (a.mono s) (c b)
theorem AW.length{F:Hp}{vs:List V}{ps:List PV}(r:AW F vs ps):vs.length=ps.length:=by
 induction ps generalizing vs with
 |nil=>cases r.Ej;rfl
 |cons p ps c=>obtain⟨v,ws,rfl,a,b⟩:=r.inv;exact wu (· + 1) (c b)
theorem AW.get{F:Hp}{vs:List V}{ps:List PV}{i:Nat}{p:PV}(r:AW F vs ps)(e:ps[i]?=some p):∃v,vs[i]?=some v/\Rep F v p:=by
 induction ps generalizing vs i with
 |nil=>cases e
 |cons q ps c=>
  obtain⟨v,ws,rfl,a,b⟩:=r.inv;cases i with
  |zero=>cases e;exact⟨_,rfl,a⟩
  |succ i=>exact c (vs:=ws) (i:=i) b e
theorem AW.get'(r:AW F vs ps)(e:vs[i]?=some v):∃p,ps[i]?=some p/\Rep F v p:=by
 induction ps generalizing vs i with
 |nil=>cases r.Ej;cases e
 |cons q ps c=>
  obtain⟨u,ws,rfl,a,b⟩:=r.inv;cases i with
  |zero=>cases e;exact⟨_,rfl,a⟩
  |succ i=>exact c (vs:=ws) (i:=i) b e
theorem AW.append{ws:List V}{c:List PV}(r:AW F vs ps)(s:AW F ws c):AW F (vs++ws) (ps++c):=by
 induction ps generalizing vs with
 |nil=>cases r.Ej;exact s
 |cons p ps d=>obtain⟨v,us,rfl,a,b⟩:=r.inv;exact .cons a (d b)
theorem AW.take(n:Nat)(r:AW F vs ps):AW F (vs.take n) (ps.take n):=by
 induction ps generalizing vs n with
 |nil=>cases r.Ej;rw[List.take_nil,List.take_nil];exact .nil
 |cons p ps c=>
  obtain⟨v,us,rfl,a,b⟩:=r.inv;cases n with
  |zero=>exact .nil
  |succ n=>exact .cons a (c n b)
theorem AW.drop(n:Nat)(r:AW F vs ps):AW F (vs.drop n) (ps.drop n):=by
 induction ps generalizing vs n with
 |nil=>cases r.Ej;rw[List.drop_nil,List.drop_nil];exact .nil
 |cons p ps c=>
  cases n with
  |zero=>exact r
  |succ n=>obtain⟨v,us,rfl,a,b⟩:=r.inv;exact c n b
theorem AW.one(r:Rep F v p):AW F [v] [p]:=.cons r .nil
noncomputable def flat:PV->Bool
 | .lst _=>false
 | .tup _=>false
 | .B1 _ _=>false
 | .obj _ _ _=>false
 | .exc _ _ _=>false
 | .con _ _=>false
 |_=>true
noncomputable def enc:PV->V
 | .bl b=>.bl b
 | .int i=>.int i
 | .str x=>.str x
 |_=>.AB
theorem Rep.enc(h:flat p=true)(r:Rep F v p):v=enc p:=by
 cases r <;> first|rfl|cases h
theorem qJ(h:flat p=true):Rep F (enc p) p:=by
 cases p with
 |AB=>exact .AB
 |bl b=>exact .bl b
 |int i=>exact .int i
 |str x=>exact .str x
 |lst xs=>cases h
 |tup xs=>cases h
 |B1 ks xs=>cases h
 |obj C ns xs=>cases h
 |exc C ns xs=>cases h
 |con a xs=>cases h
theorem AW.enc(h:ps.all flat=true)(r:AW F vs ps):vs=ps.map enc:=by
 induction ps generalizing vs with
 |nil=>exact r.Ej
 |cons p ps c=>
  obtain⟨v,us,rfl,a,b⟩:=r.inv;rw[U4,FC]at h;rw[Bs,<- Rep.enc h.1 a,<- c h.2 b]
theorem kH(h:ps.all flat=true):AW F (ps.map enc) ps:=by
 induction ps with
 |nil=>exact .nil
 |cons p r a=>
  rw[U4,FC]at h;exact .cons (qJ h.1) (a h.2)
theorem RS(h:flat p=true):En (Fz.enc p)=true:=by cases p <;> first|rfl|cases h
theorem iD(ns:List Str):(ns.map PV.str).all flat=true:=by
 rw[Hg];intro x hx;obtain⟨y,_,rfl⟩:=List.mem_map.mp hx;rfl
theorem ZCb(ns:List Int):(ns.map PV.int).all flat=true:=by
 rw[Hg];intro x hx;obtain⟨y,_,rfl⟩:=List.mem_map.mp hx;rfl
theorem rh(ns:List Bool):(ns.map PV.bl).all flat=true:=by
 rw[Hg];intro x hx;obtain⟨y,_,rfl⟩:=List.mem_map.mp hx;rfl
theorem YQ(ns:List Str):(ns.map PV.str).map Fz.enc=ns.map V.str:=by rw[Hi];rfl
theorem wV(ns:List Bool):(ns.map PV.bl).map Fz.enc=ns.map V.bl:=by rw[Hi];rfl
theorem ZEu(ns:List Int):(ns.map PV.int).map Fz.enc=ns.map V.int:=by rw[Hi];rfl
theorem AW.strs{ns:List Str}(r:AW F vs (ns.map PV.str)):vs=ns.map V.str:=(r.enc (iD ns)).trans (YQ ns)
theorem Lg(ns:List Str):AW F (ns.map V.str) (ns.map PV.str):=by rw[<- YQ];exact kH (iD ns)
theorem AW.bls{ns:List Bool}(r:AW F vs (ns.map PV.bl)):vs=ns.map V.bl:=(r.enc (rh ns)).trans (wV ns)
theorem AW.ints{ns:List Int}(r:AW F vs (ns.map PV.int)):vs=ns.map V.int:=(r.enc (ZCb ns)).trans (ZEu ns)
inductive NK where
 |lst|B1 (ks:List Key)|obj (C dx:Addr) (ns:List Str)|RI (ks:List (List Key))
noncomputable def NK.ho:NK->List V->HO
 | .lst,vs=>.lst vs
 | .B1 ks,vs=>.dK (ks.zip vs)
 | .obj C dx ns,vs=>.ins C dx (ns.zip vs)
 | .RI ks,vs=>.dT (ks.zip vs)
noncomputable def NK.more:NK->List Addr
 | .obj _ dx _=>[dx]
 |_=>[]
def NK.side(k:NK)(a:Addr)(H:Hp):Prop:=match k with
 | .obj _ dx _=>H dx=some (.own a)
 |_=>True
def NK.fit(k:NK)(n:Nat):Prop:=match k with
 | .B1 ks=>ks.length=n
 | .obj _ _ ns=>ns.length=n
 | .RI ks=>ks.length=n
 |_=>True
inductive OV where
 |fz (p:PV)
 |tp (xs:List OV)
 |nd (k:NK) (a:Addr) (xs:List OV)
variable{ts:List OV}
mutual
def OV.addrs:OV->List Addr
 | .fz _=>[]
 | .tp xs=>OV.An xs
 | .nd k a xs=>a::(k.more++OV.An xs)
def OV.An:List OV->List Addr
 | []=>[]
 |x::r=>x.addrs++OV.An r
end
mutual
def OV.pv:OV->PV
 | .fz p=>p
 | .tp xs=>.tup (OV.Ft xs)
 | .nd .lst _ xs=>.lst (OV.Ft xs)
 | .nd (.B1 ks) _ xs=>.B1 ks (OV.Ft xs)
 | .nd (.obj C _ ns) _ xs=>.obj C ns (OV.Ft xs)
 | .nd (.RI _) a _=>.con a []
def OV.Ft:List OV->List PV
 | []=>[]
 |x::r=>x.pv::OV.Ft r
end
mutual
inductive Aj (F H:Hp):V->OV->Prop where
 |fz {v:V}{p:PV}:Rep F v p->Aj F H v (.fz p)
 |tp {a:Addr}{vs:List V}{xs:List OV}:F a=some (.tup vs)->BO F H vs xs->Aj F H (.ref a) (.tp xs)
 |nd {k:NK}{a:Addr}{vs:List V}{xs:List OV}:H a=some (k.ho vs)->k.side a H->k.fit vs.length->BO F H vs xs->Aj F H (.ref a) (.nd k a xs)
inductive BO (F H:Hp):List V->List OV->Prop where
 |nil:BO F H [] []
 |cons {v:V}{t:OV}{vs:List V}{ts:List OV}:Aj F H v t->BO F H vs ts->BO F H (v::vs) (t::ts)
end
def ZHw(F H:Hp)(v:V):OV->Prop
 | .fz p=>Rep F v p
 | .tp xs=>∃a vs,v=.ref a/\F a=some (.tup vs)/\BO F H vs xs
 | .nd k a xs=>∃vs,v=.ref a/\H a=some (k.ho vs)/\k.side a H/\k.fit vs.length/\BO F H vs xs
theorem Aj.inv{t:OV}(r:Aj F H v t):ZHw F H v t:=by
 cases r with
 |fz r=>exact r
 |tp h r=>exact⟨_,_,rfl,h,r⟩
 |nd h a b r=>exact⟨_,rfl,h,a,b,r⟩
theorem BO.inv{t:OV}(r:BO F H vs (t::ts)):∃v ws,vs=v::ws/\Aj F H v t/\BO F H ws ts:=by
 cases r with
 |cons r t=>exact⟨_,_,rfl,r,t⟩
theorem BO.Ej(r:BO F H vs []):vs=[]:=by
 cases r;rfl
theorem OV.DJ{k:NK}{xs:List OV}:(OV.nd k a xs).addrs=a::(k.more++OV.An xs):=by rw[OV.addrs]
theorem OV.Gp{xs:List OV}:(OV.tp xs).addrs=OV.An xs:=by rw[OV.addrs]
theorem OV.Kt:(OV.fz p).addrs=[]:=by rw[OV.addrs]
theorem OV.DG{x:OV}{r:List OV}:OV.An (x::r)=x.addrs++OV.An r:=by rw[OV.An]
theorem OV.IJ:OV.An []=[]:=by rw[OV.An]
theorem NK.jc{k:NK}(h:k.side a H)(s:∀b∈k.more,∀o,H b=some o->H' b=some o):k.side a H':=by
 cases k with
 |obj C dx ns=>exact s dx (by simp[NK.more]) _ h
 |_=>trivial
theorem Aj.mono(f:A8 F F'){t:OV}(r:Aj F H v t):(∀a∈t.addrs,∀o,H a=some o->H' a=some o)->Aj F' H' v t:=
 Aj.rec (motive_1:=λv t _=>(∀a∈t.addrs,∀o,H a=some o->H' a=some o)->Aj F' H' v t) (motive_2:=λvs ts _=>(∀a∈OV.An ts,∀o,H a=some o->H' a=some o)->BO F' H' vs ts)
  (λr _=>.fz (r.mono f))
  (λh _ i s=>.tp (f _ _ h) (i (by rw[OV.Gp]at s;exact s)))
  (λh d g _ i s=>by
   rw[OV.DJ]at s;exact .nd (s _ CV _ h) (NK.jc d λb e=>s b (Ck _ (Ei _ e))) g (i λa c=>s a (Ck _ (DE _ c))))
  (λ_=>.nil)
  (λ_ _ i k s=>by
   rw[OV.DG]at s;exact .cons (i λa c=>s a (Ei _ c)) (k λa c=>s a (DE _ c)))
  r
theorem BO.mono(f:A8 F F')(r:BO F H vs ts)(s:∀a∈OV.An ts,∀o,H a=some o->H' a=some o):BO F' H' vs ts:=by
 induction ts generalizing vs with
 |nil=>cases r.Ej;exact .nil
 |cons p ps d=>
  obtain⟨v,ws,rfl,a,b⟩:=r.inv;rw[OV.DG]at s;exact .cons (a.mono f λa c=>s a (Ei _ c)) (d b λa c=>s a (DE _ c))
theorem Aj.there{t:OV}(r:Aj F H v t):∀a∈t.addrs,H a≠none:=
 Aj.rec (motive_1:=λv t _=>∀a∈t.addrs,H a≠none) (motive_2:=λvs ts _=>∀a∈OV.An ts,H a≠none)
  (λ_ a c=>by rw[OV.Kt]at c;cases c)
  (λ_ _ i a c=>i a (by rw[OV.Gp]at c;exact c))
  (λ{k b vs xs}h d f _ i a c=>by
   rw[OV.DJ,E9,FY]at c;rcases c with rfl|c|c
   .rw[h];exact λz=>by cases z
   .cases k with
    |obj C dx ns=>
     have e:a=dx:=List.mem_singleton.mp c;rw[e,show H dx=some (.own b)from d];exact λz=>by cases z
    |_=>cases c
   .exact i a c)
  (λa c=>by rw[OV.IJ]at c;cases c)
  (λ_ _ i k a c=>by
   rw[OV.DG,FY]at c;exact c.elim (i a) (k a))
  r
theorem BO.there(r:BO F H vs ts):∀a∈OV.An ts,H a≠none:=by
 induction ts generalizing vs with
 |nil=>intro a c;rw[OV.IJ]at c;cases c
 |cons p ps d=>
  obtain⟨v,ws,rfl,x,b⟩:=r.inv;intro a c;rw[OV.DG,FY]at c;exact c.elim (x.there a) (d b a)
theorem BO.length{F H:Hp}{vs:List V}{ts:List OV}(r:BO F H vs ts):vs.length=ts.length:=by
 induction ts generalizing vs with
 |nil=>cases r.Ej;rfl
 |cons p ps c=>obtain⟨v,ws,rfl,a,b⟩:=r.inv;exact wu (· + 1) (c b)
inductive Slot where
 |any|is (p:PV)|own (xs:List PV)|AG|sq (tp:Bool) (xs:List PV)|raw (P:Hp->V->Prop)|ow (lt:Bool) (t:OV)
variable{ss:List Slot}{s:Slot}{HI nx:List Slot->Prop}
structure Ent0 where
 A:List Addr
 F0:Hp
 H0:Hp
 B:List Addr
variable{E:Ent0}
noncomputable abbrev E3(A:List Addr)(F H:Hp):Ent0:=⟨A,F,H,[]⟩
def Ok(E:Ent0)(F H:Hp):Slot->Option (Option V)->Prop
 | .any,_=>True
 | .is p,o=>∃v,o=some (some v)/\Rep F v p
 | .own xs,o=>∃l vs,o=some (some (.ref l))/\F l=none/\E.H0 l=none/\H l=some (.lst vs)/\AW F vs xs
 | .AG,o=>∃l,o=some (some (.ref l))/\F l=none/\(E.H0 l=none∨l∈E.A)/\BR H l
 | .sq true xs,o=>∃v,o=some (some v)/\Rep F v (.tup xs)
 | .sq false xs,o=>∃l vs,o=some (some (.ref l))/\(l∉E.A/\l∉E.B)/\E.H0 l=some (.lst vs)/\AW F vs xs
 | .raw P,o=>∃v,o=some (some v)/\P F v/\∀F F',A8 F F'->P F v->P F' v
 | .ow lt t,o=>∃v,o=some (some v)/\Aj F H v t/\t.addrs.Nodup/\∀a∈t.addrs,F a=none/\(E.H0 a=none∨(lt=true/\a∈E.B))
def BD:Slot->Option (Option V)->Addr->Prop
 | .own _,o,l=>o=some (some (.ref l))
 | .AG,o,l=>o=some (some (.ref l))
 | .ow _ t,_,l=>l∈t.addrs
 |_,_,_=>False
structure Fin (E:Ent0) (F H:Hp):Prop where
 fh:A8 F H
 f0:A8 E.F0 F
 keep:∀a o,(a∉E.A/\a∉E.B)->E.H0 a=some o->H a=some o
 fresh:∀a o,F a=some o->E.F0 a=some o∨E.H0 a=none
 Co:∀a,a∈E.A->BR H a
 K6:∀a,a∈E.A->F a=none
 a0:∀a,a∈E.A->E.H0 a≠none
 bF:∀a,a∈E.B->F a=none
 bH:∀a,a∈E.B->H a≠none
 b0:∀a,a∈E.B->E.H0 a≠none/\a∉E.A
structure Sg (E:Ent0) (ss:List Slot) (Z:L2.St) (F H:Hp):Prop extends Fin E F H where
 len:ss.length=Z.length
 ok:∀(i:Nat)s,ss[i]?=some s->Ok E F H s Z[i]?
 BL:∀(i j:Nat)s u l,i≠j->ss[i]?=some s->ss[j]?=some u->BD s Z[i]? l->¬ BD u Z[j]? l
structure Ex where
 C:Addr
 ns:List Str
 xs:List PV
def Ex.at(x:Ex)(F:Hp)(C:Value)(dx:Option Addr):Prop:=
 C=.ref x.C/\((x.ns=[]/\x.xs=[]/\dx=none)∨∃a vs,dx=some a/\F a=some (.xd (x.ns.zip vs))/\x.ns.length=vs.length/\AW F vs x.xs)
class Xw where
 e:L2.St->XK
 J:List Slot->Prop
 D:Ex->Prop
structure Ent [Xw] extends Ent0 where
 hx:∀(ss:List Slot)(Z:L2.St)(F H:Hp)(x:Ex)(C:Value)(dx:Option Addr),Xw.J ss->Sg toEnt0 ss Z F H->Xw.D x->x.at F C dx->Xw.e Z C dx H
instance [Xw]:CoeOut Ent Ent0:=⟨Ent.toEnt0⟩
noncomputable instance jj:Xw:=⟨λ_=>E0,λ_=>True,λ_=>False⟩
def C6(ss:List Slot)(Z:L2.St)(a:Addr):Prop:=∀i:Nat,ss[i]?=some .AG->Z[i]?≠some (some (.ref a))
structure Mv (E:Ent0) (ss:List Slot) (Z:L2.St) (F H F' H':Hp):Prop where
 st:Sg E ss Z F' H'
 ff:A8 F F'
 hh:∀a o,C6 ss Z a->H a=some o->H' a=some o
 nn:∀a o,F' a=some o->F a=some o∨H a=none
theorem Sg.MV(S:Sg E ss Z F H)(h:H l=none):C6 ss Z l:=λi hi e=>by
 obtain⟨c,b,_,_,_,_,a,_⟩:=S.ok i _ hi;rw[e]at b;cases b;rw[h]at a;cases a
theorem Mv.none(m:Mv E ss Z F H F' H')(h:H' a=none):H a=none:=by
 cases e:H a with
 |none=>rfl
 |some o=>rw[m.hh a o (m.st.MV h) e]at h;cases h
theorem Mv.refl{E:Ent0}{ss:List Slot}{Z:L2.St}{F H:Hp}(S:Sg E ss Z F H):Mv E ss Z F H F H:=⟨S,A8.refl _,λ_ _ _ e=>e,λ_ _ e=>.inl e⟩
theorem Mv.trans{F1 H1 F2 H2:Hp}(a:Mv E ss Z F H F1 H1)(b:Mv E ss Z F1 H1 F2 H2):Mv E ss Z F H F2 H2:=
 ⟨b.st,a.ff.trans b.ff,λc o n e=>b.hh c o n (a.hh c o n e),λc o e=>(b.nn c o e).elim (λe=>a.nn c o e) λe=>.inr (a.none e)⟩
theorem Sg.DK(S:Sg E ss Z F H){p:Addr}(h:H p=none):E.H0 p=none:=by
 cases e:E.H0 p with
 |none=>rfl
 |some o=>
  by_cases q:p∈E.A
  .obtain⟨_,_,b,_⟩:=S.Co p q;rw[h]at b;cases b
  .by_cases a:p∈E.B
   .exact absurd h (S.bH p a)
   .rw[S.keep p o ⟨q,a⟩ e]at h;cases h
theorem Sg.BM(S:Sg E ss Z F H){p:Addr}(h:H p=none):F p=none:=A8.none S.fh h
theorem BR.keep(h:BR H l)(k:∀o,H l=some o->H' l=some o):BR H' l:=by
 obtain⟨a,b,e,r⟩:=h;exact⟨a,b,k _ e,r⟩
theorem Sg.fE(S:Sg E ss Z F H)(h:F l=some o):C6 ss Z l:=λi hi e=>by
 obtain⟨c,b,a,_⟩:=S.ok i _ hi;rw[e]at b;cases b;rw[h]at a;cases a
theorem Sg.fu(S:Sg E ss Z F H)(b:l∉E.A)(h:E.H0 l=some o):C6 ss Z l:=λi hi e=>by
 obtain⟨c,a,_,q,_⟩:=S.ok i _ hi;rw[e]at a;cases a;rcases q with q|q
 .rw[h]at q;cases q
 .exact b q
theorem Sg.tQ(S:Sg E ss Z F H)(h:l∈E.B):C6 ss Z l:=λi hi e=>by
 obtain⟨d,a,_,q,_⟩:=S.ok i _ hi;rw[e]at a;cases a;obtain⟨c,b⟩:=S.b0 l h;rcases q with q|q
 .exact c q
 .exact b q
theorem Sg.E5(S:Sg E ss Z F H)(h:ss[i]?=some s)(m:BD s Z[i]? l):H l≠none:=by
 have k:=S.ok i s h;cases s with
 |own xs=>obtain⟨c,vs,a,_,_,b,_⟩:=k;rw[show Z[i]?=some (some (.ref l))from m]at a;cases a;rw[b];simp
 |AG=>obtain⟨c,a,_,_,_,_,b,_⟩:=k;rw[show Z[i]?=some (some (.ref l))from m]at a;cases a;rw[b];simp
 |ow lt t=>obtain⟨v,_,r,_⟩:=k;exact r.there l m
 |_=>cases m
theorem Sg.ZAj(S:Sg E ss Z F H)(h:ss[i]?=some s)(m:BD s Z[i]? l):F l=none:=by
 have k:=S.ok i s h;cases s with
 |own xs=>obtain⟨c,vs,a,b,_⟩:=k;rw[show Z[i]?=some (some (.ref l))from m]at a;cases a;exact b
 |AG=>obtain⟨c,a,b,_⟩:=k;rw[show Z[i]?=some (some (.ref l))from m]at a;cases a;exact b
 |ow lt t=>obtain⟨v,_,r,_,q⟩:=k;exact(q l m).1
 |_=>cases m
theorem Sg.Mu(S:Sg E ss Z F H)(h:ss[i]?=some s)(a:H l=none):¬ BD s Z[i]? l:=λm=>S.E5 h m a
theorem Sg.Ny(S:Sg E ss Z F H)(h:ss[i]?=some s)(m:BD s Z[i]? l)(np:s≠.AG):C6 ss Z l:=λj a b=>
 S.BL i j s _ l (by rintro rfl;rw[h]at a;exact np (BI a)) h a m b
theorem Ok.go(S:Sg E ss Z F H)(hi:ss[i]?=some s)(ff:A8 F F')(f:∀a o,BD s Z[i]? a->H a=some o->H' a=some o)(BM:∀a,H a≠none->F a=none->F' a=none)(np:s≠.AG):Ok E F' H' s Z[i]?:=by
 have k:=S.ok i s hi;cases s with
 |any=>trivial
 |is p=>obtain⟨v,e,r⟩:=k;exact⟨v,e,r.mono ff⟩
 |own xs=>
  obtain⟨l,vs,e,d,c,g,r⟩:=k;exact⟨l,vs,e,BM l (by rw[g];simp) d,c,f l _ e g,r.mono ff⟩
 |AG=>exact absurd rfl np
 |sq tp xs=>
  cases tp with
  |true=>obtain⟨v,e,r⟩:=k;exact⟨v,e,r.mono ff⟩
  |false=>obtain⟨l,vs,e,d,c,r⟩:=k;exact⟨l,vs,e,d,c,r.mono ff⟩
 |raw P=>obtain⟨v,e,r,st⟩:=k;exact⟨v,e,st _ _ ff r,st⟩
 |ow lt t=>
  obtain⟨v,e,r,nd,q⟩:=k;exact⟨v,e,r.mono ff λa b o=>f a o b,nd,λa b=>⟨BM a (r.there a b) (q a b).1,(q a b).2⟩⟩
theorem Sg.step(S:Sg E ss Z F H)(ff:A8 F F')(fh:A8 F' H')(c:∀a o,C6 ss Z a->H a=some o->H' a=some o)(hn:∀a o,F' a=some o->F a=some o∨H a=none)
  (hp:∀(i:Nat)l,ss[i]?=some .AG->Z[i]?=some (some (.ref l))->BR H' l):Mv E ss Z F H F' H':=by
 have BM:∀a,H a≠none->F a=none->F' a=none:=λa h1 h2=>by
  cases e:F' a with
  |none=>rfl
  |some o=>
   rcases hn a o e with q|q
   .rw[h2]at q;cases q
   .exact absurd q h1
 have g:∀a,BR H a->C6 ss Z a->BR H' a:=λa p n=>BR.keep p λo e=>c a o n e;refine⟨⟨⟨fh,S.f0.trans ff,λa o b e=>?_,λa o e=>?_,λa b=>?_,λa b=>?_,S.a0,λa d=>BM a (S.bH a d) (S.bF a d),λa d=>?_,S.b0⟩,S.len,λi s hi=>?_,S.BL⟩,ff,c,hn⟩
 .exact c a o (S.fu b.1 e) (S.keep a o b e)
 .rcases hn a o e with q|q
  .exact S.fresh a o q
  .exact .inr (S.DK q)
 .by_cases q:∃i:Nat,ss[i]?=some .AG/\Z[i]?=some (some (.ref a))
  .obtain⟨i,j,h⟩:=q;exact hp i a j h
  .exact g a (S.Co a b) λi h1 h2=>q ⟨i,h1,h2⟩
 .refine BM a ?_ (S.K6 a b);obtain⟨_,_,f,_⟩:=S.Co a b;rw[f];simp
 .obtain⟨o,e⟩:=Option.ne_none_iff_exists'.mp (S.bH a d);rw[c a o (S.tQ d) e];simp
 .by_cases np:s=.AG
  .subst np;obtain⟨l,e,f,t,r⟩:=S.ok i _ hi;have u:=r;obtain⟨_,_,k,_⟩:=u;exact⟨l,e,BM l (by rw[k];simp) f,t,hp i l hi e⟩
  .exact Ok.go S hi ff (λa o m=>c a o (S.Ny hi m np)) BM np
theorem Sg.Et(S:Sg E ss Z F H)(hi:ss[i]?=some .AG)(e:Z[i]?=some (some (.ref l))):BR H l:=by
 obtain⟨b,a,_,_,p⟩:=S.ok i _ hi;rw[e]at a;cases a;exact p
theorem Sg.alloc(S:Sg E ss Z F H){p:Addr}(h:H p=none)(o:HO):Mv E ss Z F H (upd F p o) (upd H p o):=by
 refine S.step (Aa (S.BM h) _) (λa u e=>?_) (λa u _ e=>Aa h o a u e) (λa u e=>?_) λi l hi e=>BR.keep (S.Et hi e) λu e=>Aa h o l u e
 .by_cases q:a=p
  .subst q;rw[AJ]at e ⊢;exact e
  .rw[Af q]at e ⊢;exact S.fh a u e
 .by_cases q:a=p
  .subst q;exact .inr h
  .rw[Af q]at e;exact .inl e
theorem Sg.make(S:Sg E ss Z F H){p:Addr}(h:H p=none)(o:HO):Mv E ss Z F H F (upd H p o):=
 S.step (A8.refl _) (S.fh.trans (Aa h o)) (λa u _ e=>Aa h o a u e) (λa u e=>.inl e) λi l hi e=>BR.keep (S.Et hi e) λu e=>Aa h o l u e
theorem Sg.grow(S:Sg E ss Z F H)(s:A8 H H'):Mv E ss Z F H F H':=
 S.step (A8.refl _) (S.fh.trans s) (λa u _ e=>s a u e) (λa u e=>.inl e) λi l hi e=>BR.keep (S.Et hi e) λu e=>s l u e
theorem Sg.setG(S:Sg E ss Z F H)(AO:Ok E F H s (some (some v)))(f:∀l,BD s (some (some v)) l->∀(i:Nat)u,i≠j->ss[i]?=some u->¬ BD u Z[i]? l):Sg E (ss.set j s) (Z.set j (some v)) F H:=by
 refine⟨S.toFin,by rw[DP,DP];exact S.len,λi u hi=>?_,λi k u w l SN hi b d c=>?_⟩
 .by_cases q:i=j
  .subst q;have a:i<ss.length:=by have:=(List.getElem?_eq_some_iff.mp hi).1;simpa using this
   rw[Bw a]at hi;cases hi;rw[Bw (by rw[<- S.len];exact a)];exact AO
  .rw[Br (BG q)]at hi ⊢;exact S.ok i u hi
 .by_cases q:i=j
  .subst q;have a:i<ss.length:=by have:=(List.getElem?_eq_some_iff.mp hi).1;simpa using this
   rw[Bw a]at hi;rw[Bw (by rw[<- S.len];exact a)]at d;cases hi;rw[Br SN]at b c;exact f l d k w (BG SN) b c
  .rw[Br (BG q)]at hi d
   by_cases e:k=j
   .subst e;have a:k<ss.length:=by have:=(List.getElem?_eq_some_iff.mp b).1;simpa using this
    rw[Bw a]at b;cases b;rw[Bw (by rw[<- S.len];exact a)]at c;exact f l c i u SN hi d
   .rw[Br (BG e)]at b c;exact S.BL i k u w l SN hi b d c
theorem Sg.L7(S:Sg E ss Z F H)(r:Rep F v p):Sg E (ss.set j (.is p)) (Z.set j (some v)) F H:=S.setG ⟨v,rfl,r⟩ λ_ h=>by cases h
def Sv(ss:List Slot)(Z:L2.St)(F H:Hp)(v:V):Bool->List PV->Prop
 |true,xs=>Rep F v (.tup xs)
 |false,xs=>∃l vs,v=.ref l/\C6 ss Z l/\H l=some (.lst vs)/\AW F vs xs
def Fv(E:Ent0)(F:Hp)(v:V):Bool->List PV->Prop
 |true,xs=>Rep F v (.tup xs)
 |false,xs=>∃l vs,v=.ref l/\(F l=some (.lst vs)∨((l∉E.A/\l∉E.B)/\E.H0 l=some (.lst vs)))/\AW F vs xs
structure Wp [Xw] (ss:List Slot) (t:TE) (k:PV->Prop):Prop where
 go:∀(E:Ent)(Z:L2.St)(F H:Hp)(Q:VK),Sg E ss Z F H->(∀v p F' H',Mv E ss Z F H F' H'->Rep F' v p->k p->Q v H')->t Z H Q
structure Wn [Xw] (ss:List Slot) (t:TE) (k:List PV->Prop):Prop where
 go:∀(E:Ent)(Z:L2.St)(F H:Hp)(Q:VK),Sg E ss Z F H->(∀l vs xs F' H',Mv E ss Z F H F' H'->F' l=none->H l=none->H' l=some (.lst vs)->AW F' vs xs->k xs->Q (.ref l) H')->t Z H Q
structure Wq [Xw] (ss:List Slot) (t:TE) (k:Bool->List PV->Prop):Prop where
 go:∀(E:Ent)(Z:L2.St)(F H:Hp)(Q:VK),Sg E ss Z F H->(∀v tp xs F' H',Mv E ss Z F H F' H'->Sv ss Z F' H' v tp xs->k tp xs->Q v H')->t Z H Q
structure Wz [Xw] (ss:List Slot) (t:TE) (k:Bool->List PV->Prop):Prop where
 go:∀(E:Ent)(Z:L2.St)(F H:Hp)(Q:VK),Sg E ss Z F H->(∀v tp xs F' H',Mv E ss Z F H F' H'->Fv E F' v tp xs->k tp xs->Q v H')->t Z H Q
structure Wt [Xw] (ss:List Slot) (t:TT) (k:Bool->Prop):Prop where
 go:∀(E:Ent)(Z:L2.St)(F H:Hp)(Q:Bool->Hp->Prop),Sg E ss Z F H->(∀b F' H',Mv E ss Z F H F' H'->k b->Q b H')->t Z H Q
def Av(ss:List Slot)(Z:L2.St)(F H:Hp)(v:V):Slot->Prop
 | .is p=>Rep F v p
 | .sq tp xs=>Sv ss Z F H v tp xs
 | .raw P=>P F v/\∀F F',A8 F F'->P F v->P F' v
 |_=>False
inductive Hl (ss:List Slot) (Z:L2.St) (F H:Hp):List V->List Slot->Prop where
 |nil:Hl ss Z F H [] []
 |cons {v:V}{s:Slot}{vs:List V}{l:List Slot}:Av ss Z F H v s->Hl ss Z F H vs l->Hl ss Z F H (v::vs) (s::l)
structure Wa [Xw] (ss:List Slot) (t:TA) (k:List Slot->Prop):Prop where
 go:∀(E:Ent)(Z:L2.St)(F H:Hp)(Q:List V->Hp->Prop),Sg E ss Z F H->(∀vs l F' H',Mv E ss Z F H F' H'->Hl ss Z F' H' vs l->k l->Q vs H')->t Z H Q
inductive AX where
 |is (k:PV->Prop)|new (k:List PV->Prop)|AG|ow (k:OV->Prop)|mt (k:PV->OV->Prop)|Lo (k:PV->OV->OV->Prop)|J2 (k:PV->OV->OV->OV->Prop)
noncomputable def OV.val:OV->V
 | .nd _ a _=>.ref a
 |_=>.AB
def AX.ok(R:AX)(E:Ent0)(F' H':Hp)(v:V):Prop:=match R with
 | .is k=>∃p,Rep F' v p/\k p
 | .new k=>∃l vs xs,v=.ref l/\F' l=none/\E.H0 l=none/\H' l=some (.lst vs)/\AW F' vs xs/\k xs
 | .AG=>∃l,v=.ref l/\F' l=none/\E.H0 l=none/\BR H' l
 | .ow k=>∃t,Aj F' H' v t/\t.addrs.Nodup/\(∀a∈t.addrs,F' a=none/\E.H0 a=none)/\k t
 | .mt k=>∃p t,Rep F' v p/\Aj F' H' t.val t/\t.addrs.Nodup/\(∀a∈t.addrs,F' a=none/\(E.H0 a=none∨a∈E.B))/\k p t
 | .Lo k=>∃p t u,Rep F' v p/\Aj F' H' t.val t/\Aj F' H' u.val u/\(t.addrs++u.addrs).Nodup/\(∀a∈t.addrs++u.addrs,F' a=none/\(E.H0 a=none∨a∈E.B))/\k p t u
 | .J2 k=>∃p t u z,Rep F' v p/\Aj F' H' t.val t/\Aj F' H' u.val u/\Aj F' H' z.val z/\(t.addrs++u.addrs++z.addrs).Nodup/\(∀a∈t.addrs++u.addrs++z.addrs,F' a=none/\(E.H0 a=none∨a∈E.B))/\k p t u z
structure Ws [Xw] (ss:List Slot) (t:TS) (nx:List Slot->Prop) (R:AX):Prop where
 go:∀(E:Ent)(D:Ends)(Z:L2.St)(F H:Hp),Sg E ss Z F H->(∀AA σ' F' H',nx AA->Sg E AA σ' F' H'->A8 F F'->D.nx σ' H')->(∀v F' H',Fin E F' H'->R.ok E F' H' v->D.rt v H')->t D Z H
section
variable[Xw]
variable{K:ZJR}{tb:TE}{k:PV->Prop}{R:AX}
theorem Sv.mv(h:Sv ss Z F H v tp xs)(m:Mv E ss Z F H F' H'):Sv ss Z F' H' v tp xs:=by
 cases tp with
 |true=>exact Rep.mono m.ff h
 |false=>
  obtain⟨l,vs,e,n,r,q⟩:=h;exact⟨l,vs,e,n,m.hh l _ n r,q.mono m.ff⟩
theorem Sv.seq(S:Sg E ss Z F H)(h:Sv ss Z F H v tp xs):∃l vs,v=.ref l/\H l=some (BN tp vs)/\AW F vs xs:=by
 cases tp with
 |true=>cases h with|tup e r=>exact⟨_,_,rfl,S.fh _ _ e,r⟩
 |false=>obtain⟨l,vs,e,_,r,q⟩:=h;exact⟨l,vs,e,r,q⟩
theorem Fv.sv(S:Sg E ss Z F H)(h:Fv E F v tp xs):Sv ss Z F H v tp xs:=by
 cases tp with
 |true=>exact h
 |false=>
  obtain⟨l,vs,e,h1|⟨a,h1⟩,r⟩:=h
  .exact⟨l,vs,e,S.fE h1,S.fh _ _ h1,r⟩
  .exact⟨l,vs,e,S.fu a.1 h1,S.keep _ _ a h1,r⟩
theorem ofT{A B:Prop}(h:if true=true then A else B):A:=h
theorem VA{A B:Prop}(h:if false=true then A else B):B:=h
class Flt {α:Type} (f:α->PV) (g:outParam (α->V)):Prop where
 eq:∀{F:Hp}{v:V}{i:α},Rep F v (f i)->v=g i
instance:Flt PV.int V.int:=⟨λr=>r.inv⟩
instance:Flt PV.str V.str:=⟨λr=>r.inv⟩
instance:Flt PV.bl V.bl:=⟨λr=>r.inv⟩
instance:Flt (λn:Nat=>PV.int n) λn:Nat=>V.int n:=⟨λr=>r.inv⟩
theorem Wp.el{f:α->PV}{g:α->V}[i:Flt f g]{k:α->Prop}(h:Wp ss te λx=>∃i,x=f i/\k i)(E:Ent)(S:Sg E ss Z F H)(q:∀i F1 H1,Mv E ss Z F H F1 H1->k i->Q (g i) H1):te Z H Q:=
 h.go E Z F H Q S λv p F1 H1 m r z=>by
  obtain⟨j,e,kk⟩:=z;subst e;rw[i.eq r];exact q j F1 H1 m kk
theorem AL(h:ss[i]?=some (.is p))(b:k p):Wp ss (BX i) k:=⟨λE Z F H Q S q=>by
 obtain⟨v,a,r⟩:=S.ok i _ h;exact⟨v,a,q v p F H (.refl S) r b⟩⟩
theorem C4{i:Int}(a:k (.int i)):Wp ss (tC (.int i)) k:=⟨λE Z F H Q S q=>q _ _ F H (.refl S) (.int i) a⟩
theorem Mj{x:Str}(a:k (.str x)):Wp ss (tC (.str x)) k:=⟨λE Z F H Q S q=>q _ _ F H (.refl S) (.str x) a⟩
theorem gS(a:k (.bl b)):Wp ss (tC (.bl b)) k:=⟨λE Z F H Q S q=>q _ _ F H (.refl S) (.bl b) a⟩
theorem EM(h:Wn ss te (λxs=>k (.lst xs))):Wp ss te k:=⟨λE Z F H Q S q=>h.go E Z F H Q S λl vs xs F' H' m c f Eu r kk=>by
 have b:=m.st;have A:Mv E ss Z F H (upd F' l (.lst vs)) H':=by
  have B:∀a,H' a≠none->a≠l->F' a=none->upd F' l (.lst vs) a=none:=λa _ h1 h2=>by rw[Af h1];exact h2
  refine⟨⟨⟨λa u e=>?_,b.f0.trans (Aa c _),b.keep,λa u e=>?_,b.Co,λa z=>?_,b.a0,λa y=>?_,b.bH,b.b0⟩,b.len,λi s hi=>?_,b.BL⟩,m.ff.trans (Aa c _),m.hh,λa u e=>?_⟩
  .by_cases q:a=l
   .subst q;rw[AJ]at e;rw[<- e];exact Eu
   .rw[Af q]at e;exact b.fh a u e
  .by_cases q:a=l
   .subst q;exact .inr (S.DK f)
   .rw[Af q]at e;exact b.fresh a u e
  .by_cases q:a=l
   .subst q;obtain⟨_,_,e,_⟩:=S.Co _ z;rw[f]at e;cases e
   .rw[Af q];exact b.K6 a z
  .by_cases q:a=l
   .subst q;exact absurd f (S.bH _ y)
   .rw[Af q];exact b.bF a y
  .have x:∀a,BD s Z[i]? a->a≠l:=by
    rintro a m rfl;exact S.Mu hi f m
   have kk:=b.ok i s hi;cases s with
   |any=>trivial
   |is p=>obtain⟨v,e,r⟩:=kk;exact⟨v,e,r.mono (Aa c _)⟩
   |own ys=>
    obtain⟨d,ws,e,j,g,w,r⟩:=kk;exact⟨d,ws,e,by rw[Af (x d e)];exact j,g,w,r.mono (Aa c _)⟩
   |AG=>
    obtain⟨d,e,j,g,w⟩:=kk;exact⟨d,e,by rw[Af (x d e)];exact j,g,w⟩
   |sq tp ys=>
    cases tp with
    |true=>obtain⟨v,e,r⟩:=kk;exact⟨v,e,r.mono (Aa c _)⟩
    |false=>obtain⟨d,ws,e,j,g,r⟩:=kk;exact⟨d,ws,e,j,g,r.mono (Aa c _)⟩
   |raw P=>obtain⟨v,e,r,st⟩:=kk;exact⟨v,e,st _ _ (Aa c _) r,st⟩
   |ow lt t=>
    obtain⟨v,e,r,nd,q⟩:=kk;exact⟨v,e,r.mono (Aa c _) λa _ o h=>h,nd,λa n=>⟨by rw[Af (x a n)];exact(q a n).1,(q a n).2⟩⟩
  .by_cases q:a=l
   .subst q;exact .inr f
   .rw[Af q]at e;exact m.nn a u e
 exact q _ _ _ _ A (.lst AJ (r.mono (Aa c _))) kk⟩
theorem Bl{k:Bool->List PV->Prop}(h:Wp ss te (λp=>∃xs,(p=.lst xs/\k false xs)∨(p=.tup xs/\k true xs))):Wq ss te k:=⟨λE Z F H Q S q=>h.go E Z F H Q S λv p F' H' m r AV=>by
 obtain⟨xs,h⟩:=AV;rcases h with⟨rfl,kk⟩|⟨rfl,kk⟩
 .cases r with|lst h r=>exact q _ false xs F' H' m ⟨_,_,rfl,m.st.fE h,m.st.fh _ _ h,r⟩ kk
 .exact q v true xs F' H' m r kk⟩
theorem Q0{k:Bool->List PV->Prop}(h:ss[i]?=some (.is (.lst xs)))(a:k false xs):Wq ss (BX i) k:=Bl (AL h ⟨xs,.inl ⟨rfl,a⟩⟩)
theorem Dg{k:Bool->List PV->Prop}(h:ss[i]?=some (.is (.tup xs)))(a:k true xs):Wq ss (BX i) k:=Bl (AL h ⟨xs,.inr ⟨rfl,a⟩⟩)
theorem eZ{k:Bool->List PV->Prop}(h:ss[i]?=some (.own xs))(a:k false xs):Wq ss (BX i) k:=⟨λE Z F H Q S q=>by
 obtain⟨l,vs,e,d,c,b,r⟩:=S.ok i _ h;exact⟨_,e,q _ false xs F H (.refl S) ⟨l,vs,rfl,S.Ny h e (by simp),b,r⟩ a⟩⟩
theorem Yl{k:Bool->List PV->Prop}(h:ss[i]?=some (.sq tp xs))(a:k tp xs):Wz ss (BX i) k:=⟨λE Z F H Q S q=>by
 have kk:=S.ok i _ h;cases tp with
 |true=>obtain⟨v,e,r⟩:=kk;exact⟨_,e,q _ true xs F H (.refl S) r a⟩
 |false=>
  obtain⟨l,vs,e,b,c,r⟩:=kk;exact⟨_,e,q _ false xs F H (.refl S) ⟨l,vs,rfl,.inr ⟨b,c⟩,r⟩ a⟩⟩
theorem HF{k:Bool->List PV->Prop}(h:Wp ss te (λp=>∃xs,(p=.lst xs/\k false xs)∨(p=.tup xs/\k true xs))):Wz ss te k:=⟨λE Z F H Q S q=>h.go E Z F H Q S λv p F' H' m r AV=>by
 obtain⟨xs,h⟩:=AV;rcases h with⟨rfl,kk⟩|⟨rfl,kk⟩
 .cases r with|lst h r=>exact q _ false xs F' H' m ⟨_,_,rfl,.inl h,r⟩ kk
 .exact q _ true xs F' H' m r kk⟩
theorem ZAf{k:Bool->List PV->Prop}(h:Wz ss te k):Wq ss te k:=⟨λE Z F H Q S q=>h.go E Z F H Q S λv tp xs F' H' m f kk=>q v tp xs F' H' m (f.sv m.st) kk⟩
theorem wY{k:Bool->List PV->Prop}(h:ss[i]?=some (.sq tp xs))(a:k tp xs):Wq ss (BX i) k:=ZAf (Yl h a)
theorem Ru{f:Int->Int->Int}(h:Wp ss ta λx=>∃i,x=.int i/\Wp ss tb λy=>∃j,y=.int j/\k (.int (f i j))):Wp ss (Bv (Gi λi j=>.int (f i j)) ta tb) k:=⟨λE Z F H Q S q=>
 h.el E S λi F1 H1 a h2=>
  h2.el E a.st λj F2 H2 b kk=>by
   exact⟨i,j,rfl,rfl,q _ _ F2 H2 (a.trans b) (.int _) kk⟩⟩
theorem TY(h:Wp ss ta λx=>∃i,x=.int i/\Wp ss tb λy=>∃j,y=.int j/\k (.bl (f i j))):Wp ss (Bv (Gi λi j=>.bl (f i j)) ta tb) k:=⟨λE Z F H Q S q=>
 h.el E S λi F1 H1 a h2=>
  h2.el E a.st λj F2 H2 b kk=>by
   exact⟨i,j,rfl,rfl,q _ _ F2 H2 (a.trans b) (.bl _) kk⟩⟩
noncomputable def alike:PV->PV->Bool
 | .int i,.int j=>decide (i=j)
 | .str i,.str j=>decide (i=j)
 | .bl i,.bl j=>decide (i=j)
 | .AB,.AB=>true
 |_,_=>false
def NU(p q:PV):Bool:=flat p && flat q && RX (Fz.enc p) (Fz.enc q)
theorem br{q:PV}(h:NU p q=true):decide (Fz.enc p=Fz.enc q)=alike p q:=by
 unfold NU at h;rw[FC,FC]at h;obtain⟨⟨h1,h2⟩,a⟩:=h;cases p <;> first|exact Bool.noConfusion h1|skip
 all_goals cases q <;> first|exact Bool.noConfusion h2|exact Bool.noConfusion a|rfl|exact decide_eq_decide.mpr ⟨λe=>by injection e,wu _⟩
theorem eX(h:Wp ss ta λx=>Wp ss tb λy=>NU x y=true/\k (.bl (alike x y))):Wp ss (Bv cm ta tb) k:=⟨λE Z F H Q S q=>
 h.go E Z F H _ S λv p F1 H1 a c h2=>h2.go E Z F1 H1 _ a.st λv2 p2 F2 H2 d b AV=>by
  obtain⟨sc,kk⟩:=AV;have e:=sc;unfold NU at sc;rw[FC,FC]at sc;rw[c.enc sc.1.1,b.enc sc.1.2];refine⟨sc.2,?_⟩;rw[br e];exact q _ _ F2 H2 (a.trans d) (.bl _) kk⟩
theorem ZA5(h:Wp ss ta λx=>Wp ss tb λy=>NU x y=true/\k (.bl (!alike x y))):Wp ss (Bv iK ta tb) k:=⟨λE Z F H Q S q=>
 h.go E Z F H _ S λv p F1 H1 a c h2=>h2.go E Z F1 H1 _ a.st λv2 p2 F2 H2 d b AV=>by
  obtain⟨sc,kk⟩:=AV;have e:=sc;unfold NU at sc;rw[FC,FC]at sc;rw[c.enc sc.1.1,b.enc sc.1.2];refine⟨sc.2,?_⟩;rw[br e];exact q _ _ F2 H2 (a.trans d) (.bl _) kk⟩
theorem Tz(h:Wp ss ta λx=>∃c,x=.bl c/\if c=true then Wp ss tb k else k (.bl false)):Wp ss (Zh ta tb) k:=⟨λE Z F H Q S q=>
 h.el E S λc F1 H1 a h2=>by
  refine⟨c,rfl,?_⟩;cases c with
  |true=>exact L8 ((ofT h2).go E Z F1 H1 _ a.st λv2 p2 F2 H2 d b kk=>q _ _ F2 H2 (a.trans d) b kk)
  |false=>exact Dh (q _ _ F1 H1 a (.bl _) (VA h2))⟩
theorem dE(h:Wp ss ta λx=>∃c,x=.bl c/\k (.bl (!c))):Wp ss (WT ta) k:=⟨λE Z F H Q S q=>
 h.el E S λc F1 H1 a kk=>⟨c,rfl,q _ _ F1 H1 a (.bl _) kk⟩⟩
theorem u4{g:Int->Int->Bool}(h:Wp ss ta λx=>∃i,x=.int i/\Wp ss tb λy=>∃j,y=.int j/\if f i j=true then Wp ss tc (λz=>∃l,z=.int l/\k (.bl (g j l)))else k (.bl false)):
  Wp ss (Pg (Gi λi j=>.bl (f i j)) (Gi λi j=>.bl (g i j)) ta tb tc) k:=⟨λE Z F H Q S q=>
 h.el E S λi F1 H1 d h2=>
  h2.el E d.st λj F2 H2 b a=>by
   refine⟨i,j,rfl,rfl,f i j,rfl,?_⟩;cases c:f i j with
   |true=>
    rw[c,sZ rfl]at a;rw[sZ rfl];exact a.el E b.st λl F3 H3 e kk=>by
     exact⟨j,l,rfl,rfl,q _ _ F3 H3 (d.trans (b.trans e)) (.bl _) kk⟩
   |false=>
    rw[c,sN (by decide)]at a;rw[sN (by decide)];exact q _ _ F2 H2 (d.trans b) (.bl _) a⟩
theorem KG{k:Bool->Prop}(h:Wp ss te λx=>∃c,x=.bl c/\k c):Wt ss (L4 te) k:=⟨λE Z F H Q S q=>
 h.el E S λc F1 H1 a kk=>⟨c,rfl,q _ F1 H1 a kk⟩⟩
theorem GP{k:Bool->Prop}(h:Wp ss te λx=>∃c,x=.bl c/\k c):Wt ss (tB te) k:=⟨λE Z F H Q S q=>
 h.el E S λc F1 H1 a kk=>⟨c,rfl,q _ F1 H1 a kk⟩⟩
theorem Za{k:Bool->Prop}(h:k true):Wt ss Mg k:=⟨λE Z F H Q S q=>q _ F H (.refl S) h⟩
theorem Gw{t:TT}{k:Bool->Prop}(h:Wt ss t λc=>k (!c)):Wt ss (Pe t) k:=⟨λE Z F H Q S q=>h.go E Z F H _ S λc F1 H1 a kk=>q _ F1 H1 a kk⟩
theorem Xy{t u:TT}{k:Bool->Prop}(h:Wt ss t λc=>if c=true then Wt ss u k else k false):Wt ss (V3 t u) k:=⟨λE Z F H Q S q=>
 h.go E Z F H _ S λc F1 H1 a h2=>by
  show if c=true then _ else _
  cases c with
  |true=>exact L8 ((ofT h2).go E Z F1 H1 _ a.st λd F2 H2 b kk=>q _ F2 H2 (a.trans b) kk)
  |false=>exact Dh (q _ F1 H1 a (VA h2))⟩
theorem Jb{t u:TT}{k:Bool->Prop}(h:Wt ss t λc=>if c=true then k true else Wt ss u k):Wt ss (WV t u) k:=⟨λE Z F H Q S q=>
 h.go E Z F H _ S λc F1 H1 a h2=>by
  show if c=true then _ else _
  cases c with
  |true=>exact L8 (q _ F1 H1 a (ofT h2))
  |false=>exact Dh ((VA h2).go E Z F1 H1 _ a.st λd F2 H2 b kk=>q _ F2 H2 (a.trans b) kk)⟩
end
structure We [Xw] (ss:List Slot) (t:TA) (k:List PV->Prop):Prop where
 go:∀(E:Ent)(Z:L2.St)(F H:Hp)(Q:List V->Hp->Prop),Sg E ss Z F H->(∀vs ps F' H',Mv E ss Z F H F' H'->AW F' vs ps->k ps->Q vs H')->t Z H Q
structure Wo [Xw] (ss:List Slot) (t:TO) (k:Option Int->Prop):Prop where
 go:∀(E:Ent)(Z:L2.St)(F H:Hp)(Q:Option Int->Hp->Prop),Sg E ss Z F H->(∀o F' H',Mv E ss Z F H F' H'->k o->Q o H')->t Z H Q
section
variable[Xw]
variable{K:ZJR}{tb:TE}{k:PV->Prop}{R:AX}
theorem MZ{k:List PV->Prop}(h:k []):We ss BC k:=⟨λE Z F H Q S q=>q _ _ F H (.refl S) .nil h⟩
theorem Iz{k:List PV->Prop}(h:Wp ss te λp=>We ss t λps=>k (p::ps)):We ss (Ab te t) k:=⟨λE Z F H Q S q=>
 h.go E Z F H _ S λv p F1 H1 b d h2=>h2.go E Z F1 H1 _ b.st λvs ps F2 H2 a c kk=>q _ _ F2 H2 (b.trans a) (.cons (d.mono a.ff) c) kk⟩
theorem By{k:List Slot->Prop}(h:k []):Wa ss BC k:=⟨λE Z F H Q S q=>q _ _ F H (.refl S) .nil h⟩
theorem Bq{k:List Slot->Prop}(h:Wp ss te λp=>Wa ss t λl=>k (.is p::l)):Wa ss (Ab te t) k:=⟨λE Z F H Q S q=>
 h.go E Z F H _ S λv p F1 H1 b d h2=>h2.go E Z F1 H1 _ b.st λvs l F2 H2 a c kk=>q _ _ F2 H2 (b.trans a) (.cons (s:=.is p) (d.mono a.ff) c) kk⟩
theorem K4{k:List Slot->Prop}(h:Wq ss te λtp xs=>Wa ss t λl=>k (.sq tp xs::l)):Wa ss (Ab te t) k:=⟨λE Z F H Q S q=>
 h.go E Z F H _ S λv tp xs F1 H1 b d h2=>h2.go E Z F1 H1 _ b.st λvs l F2 H2 a c kk=>q _ _ F2 H2 (b.trans a) (.cons (s:=.sq tp xs) (d.mv a) c) kk⟩
theorem ki{k:Option Int->Prop}(h:k none):Wo ss WJ k:=⟨λE Z F H Q S q=>q _ F H (.refl S) h⟩
theorem c7{k:Option Int->Prop}(h:Wp ss te λp=>∃i,p=.int i/\k (some i)):Wo ss (ZX te) k:=⟨λE Z F H Q S q=>
 h.el E S λi F1 H1 a kk=>⟨i,rfl,q _ F1 H1 a kk⟩⟩
theorem Mb{n:Nat}(h:n<=99999):n<sizeLine:=De (Nat.lt_succ_of_le h) (small (Ag 100000))
theorem KO(h:We ss t λps=>ps.length<=100000/\k (.tup ps)):Wp ss (Nn t) k:=⟨λE Z F H Q S q=>
 h.go E Z F H _ S λvs ps F1 H1 d b AV=>by obtain⟨e,kk⟩:=AV;exact⟨small (by rw[b.length];exact e),λa f=>by
  have c:=d.st.alloc f (.tup vs);exact q _ _ _ _ (d.trans c) (.tup AJ (b.mono c.ff)) kk⟩⟩
theorem qp{k:List PV->Prop}(h:We ss t λps=>ps.length<=100000/\k ps):Wn ss (TM t) k:=⟨λE Z F H Q S q=>
 h.go E Z F H _ S λvs ps F1 H1 b d AV=>by obtain⟨g,kk⟩:=AV;exact⟨small (by rw[d.length];exact g),λa c=>by
  have f:=b.st.make c (.lst vs);refine q a vs ps F1 _ (b.trans f) (b.st.BM c) ?_ AJ d kk;cases e:H a with
  |none=>rfl
  |some o=>rw[b.hh a o (b.st.MV c) e]at c;cases c⟩⟩
theorem WU(h:Wq ss te λ_ xs=>k (.int xs.length)):Wp ss (DL (WW K) (Ab te BC)) k:=⟨λE Z F H Q S q=>
 h.go E Z F H _ S λv tp xs F1 H1 a sv kk=>by
  obtain⟨l,vs,rfl,b,r⟩:=sv.seq a.st;refine⟨l,vs,rfl,(BN.sq (K:=K) b).or,?_⟩;rw[r.length];exact q _ _ F1 H1 a (.int _) kk⟩
theorem AW.Be{i:Int}(r:AW F vs xs)(h:L2.Be xs i=some p):∃u,L2.Be vs i=some u/\Rep F u p:=by
 unfold L2.Be at h ⊢;rw[r.length];cases e:Hz xs.length i with
 |none=>rw[e]at h;cases h
 |some j=>
  rw[e]at h;exact r.get h
theorem gb(h:Wq ss ta λtp xs=>tp=false/\Wp ss tb λy=>∃i p,y=.int i/\L2.Be xs i=some p/\k p):Wp ss (Bv (LS K) ta tb) k:=⟨λE Z F H Q S q=>
 h.go E Z F H _ S λv tp xs F1 H1 b sv⟨j,h2⟩=>h2.go E Z F1 H1 _ b.st λv2 p2 F2 H2 a d⟨i,p,e,g,kk⟩=>by
  subst e;cases d.inv;subst j;obtain⟨l,vs,rfl,f,r⟩:=(sv.mv a).seq a.st;obtain⟨u,hu,c⟩:=r.Be g;exact⟨l,vs,i,u,rfl,rfl,AK.of f,hu,q _ _ F2 H2 (b.trans a) c kk⟩⟩
theorem DD(h:Wq ss ta λtp xs=>tp=true/\Wp ss tb λy=>∃i p,y=.int i/\L2.Be xs i=some p/\k p):Wp ss (Bv (KQ K) ta tb) k:=⟨λE Z F H Q S q=>
 h.go E Z F H _ S λv tp xs F1 H1 b sv⟨j,h2⟩=>h2.go E Z F1 H1 _ b.st λv2 p2 F2 H2 a d⟨i,p,e,g,kk⟩=>by
  subst e;cases d.inv;subst j;obtain⟨l,vs,rfl,f,r⟩:=(sv.mv a).seq a.st;obtain⟨u,hu,c⟩:=r.Be g;exact⟨l,vs,i,u,rfl,rfl,AD.of f,hu,q _ _ F2 H2 (b.trans a) c kk⟩⟩
theorem jJ(h:Wp ss ta λp=>∃x,p=.str x/\Wq ss tb λ_ ys=>∃ns:List Str,ys=ns.map PV.str/\k (.bl (if neg then !decide (x∈ns)else decide (x∈ns)))):Wp ss (Bv (Eo K neg) ta tb) k:=⟨λE Z F H Q S q=>
 h.el E S λx F1 H1 b h2=>by
  exact h2.go E Z F1 H1 _ b.st λv2 tp ys F2 H2 a sv JD=>by
   obtain⟨ns,d,kk⟩:=JD;subst d;obtain⟨l,vs,rfl,c,r⟩:=sv.seq a.st;rw[r.strs]at c;refine⟨l,_,rfl,(BN.sq (K:=K) c).or,rfl,EB ns,?_⟩;rw[J8];exact q _ _ F2 H2 (b.trans a) (.bl _) kk⟩
theorem WI{k:List PV->Prop}(e:r=λxs H Q=>∃p ys,xs=[.ref p]/\(AK K H p ys∨AD K H p ys)/\∀l,H l=none->Q (.ref l) (upd H l (.lst ys)))(h:Wq ss te λ_ xs=>k xs):Wn ss (DL r (Ab te BC)) k:=⟨λE Z F H Q S q=>
 h.go E Z F H _ S λv tp xs F1 H1 b sv kk=>by
  subst e;obtain⟨l,vs,rfl,f,r⟩:=sv.seq b.st;refine⟨l,vs,rfl,(BN.sq (K:=K) f).or,λa c=>?_⟩;have d:=b.st.make c (.lst vs);exact q a vs xs F1 _ (b.trans d) (b.st.BM c) (b.none c) AJ r kk⟩
theorem xZ(d:r=λxs H Q=>∃p ys,xs=[.ref p]/\((AK K H p ys/\∀l,H l=none->Q (.ref l) (upd H l (.tup ys)))∨(AD K H p ys/\Q (.ref p) H)))(h:Wq ss te λ_ xs=>k (.tup xs)):Wp ss (DL r (Ab te BC)) k:=⟨λE Z F H Q S q=>
 h.go E Z F H _ S λv tp xs F1 H1 b sv kk=>by
  subst d;cases tp with
  |false=>
   obtain⟨l,vs,rfl,f,r⟩:=sv.seq b.st;refine⟨l,vs,rfl,.inl ⟨AK.of f,λa g=>?_⟩⟩;have c:=b.st.alloc g (.tup vs);exact q _ _ _ _ (b.trans c) (.tup AJ (r.mono c.ff)) kk
  |true=>
   have i:Rep F1 v (.tup xs):=sv;cases i with
   |tup e r=>exact⟨_,_,rfl,.inr ⟨AD.of (b.st.fh _ _ e),q _ _ F1 H1 b (.tup e r) kk⟩⟩⟩
theorem yP{k:List PV->Prop}(h:Wq ss ta λtp xs=>tp=false/\Wq ss tb λBS ys=>BS=false/\xs.length+ys.length<=100000/\k (xs++ys)):Wn ss (Bv fv ta tb) k:=⟨λE Z F H Q S q=>
 h.go E Z F H _ S λv tp xs F1 H1 c sv⟨m,h2⟩=>h2.go E Z F1 H1 _ c.st λv2 BS ys F2 H2 b W3⟨e,i,kk⟩=>by
  subst m;subst e;obtain⟨l,vs,rfl,j,r⟩:=(sv.mv b).seq b.st;obtain⟨l2,Ya,rfl,Cz,f⟩:=W3.seq b.st;refine⟨l,l2,vs,Ya,rfl,rfl,j,Cz,small (by rw[r.length,f.length];exact i),λa d=>?_⟩;have g:=b.st.make d (.lst (vs++Ya));exact q a _ _ F2 _ (c.trans (b.trans g)) (b.st.BM d) ((c.trans b).none d) AJ (r.append f) kk⟩
def Dw(xs:List α)(lo hi:Option Int):List α:=(xs.drop (HT.Ak xs.length 0 lo)).take (HT.Ak xs.length xs.length hi - HT.Ak xs.length 0 lo)
theorem AW.cut(r:AW F vs xs)(lo hi:Option Int):AW F (CK vs lo hi) (Dw xs lo hi):=by
 unfold CK Dw;rw[r.length];exact(r.drop _).take _
theorem mZ{k:List PV->Prop}(h:Wq ss te λtp xs=>tp=false/\Wo ss tl λlo=>Wo ss th λhi=>k (Dw xs lo hi)):Wn ss (OL (V6 K) te tl th) k:=⟨λE Z F H Q S q=>
 h.go E Z F H _ S λv tp xs F1 H1 d sv⟨i,h2⟩=>h2.go E Z F1 H1 _ d.st λlo F2 H2 c g=>g.go E Z F2 H2 _ c.st λhi F3 H3 b kk=>by
  subst i;obtain⟨l,vs,rfl,f,r⟩:=(sv.mv (c.trans b)).seq b.st;refine⟨l,vs,rfl,AK.of f,λa e=>?_⟩;have m4:=b.st.make e (.lst (CK vs lo hi));exact q a _ _ F3 _ (d.trans (c.trans (b.trans m4))) (b.st.BM e) ((d.trans (c.trans b)).none e) AJ (r.cut lo hi) kk⟩
noncomputable def lT(tp:Bool)(xs:List PV):PV:=if tp then .tup xs else .lst xs
def aN(K:ZJR):V->Option Int->Option Int->Hp->VK->Prop:=λx lo hi H Q=>V6 K x lo hi H Q∨nG K x lo hi H Q
theorem Oh{X:Cx}:KD X (aN X.K):=by
 intro Zo s Z H x v vl vu lo hi sl Q I a hs pl b h;rcases h with h|h
 .exact J9 Zo s Z H x v vl vu lo hi sl Q I a hs pl b h
 .exact jf Zo s Z H x v vl vu lo hi sl Q I a hs pl b h
theorem ZZ(h:Wq ss te λtp xs=>Wo ss tl λlo=>Wo ss th λhi=>k (lT tp (Dw xs lo hi))):Wp ss (OL (aN K) te tl th) k:=⟨λE Z F H Q S q=>
 h.go E Z F H _ S λv tp xs F1 H1 g sv h2=>h2.go E Z F1 H1 _ g.st λlo F2 H2 c n=>n.go E Z F2 H2 _ c.st λhi F3 H3 b kk=>by
  have j:=sv.mv (c.trans b);have f:=g.trans (c.trans b);cases tp with
  |false=>
   obtain⟨l,vs,rfl,m,r⟩:=j.seq b.st;refine .inl ⟨l,vs,rfl,AK.of m,λa d=>?_⟩;have m4:=b.st.alloc d (.lst (CK vs lo hi));exact q _ _ _ _ (f.trans m4) (.lst AJ ((r.cut lo hi).mono m4.ff)) kk
  |true=>
   have p:Rep F3 v (.tup xs):=j;cases p with
   |@tup _ vs _ e r=>
    refine .inr ⟨_,vs,rfl,AD.of (b.st.fh _ _ e),λhw=>?_,λhw a d=>?_⟩
    .have o:Dw xs lo hi=xs:=by
      rw[r.length]at hw;unfold Dw;rw[hw.1,hw.2];simp
     refine q _ _ F3 H3 f (.tup e r) ?_;have i:=kk;rw[o]at i;exact i
    .have m4:=b.st.alloc d (.tup (CK vs lo hi));exact q _ _ _ _ (f.trans m4) (.tup AJ ((r.cut lo hi).mono m4.ff)) kk⟩
theorem ZAN{k:List PV->Prop}(h:Wq ss te λ_ xs=>∃ns:List Str,xs=ns.map PV.str/\ns.length<64/\∀C5:List Str,C5.Perm ns->sortedS C5=true->k (C5.map PV.str)):Wn ss (DL (jw K) (Ab te BC)) k:=⟨λE Z F H Q S q=>
 h.go E Z F H _ S λv tp xs F1 H1 b sv AV=>by
  obtain⟨ns,e,g,kk⟩:=AV;subst e;obtain⟨l,vs,rfl,d,r⟩:=sv.seq b.st;rw[r.strs]at d;refine⟨l,tp,ns,rfl,BN.sq d,g,λa C5 c hp hs=>?_⟩;have f:=b.st.make c (.lst (C5.map V.str));exact q a _ _ F1 _ (b.trans f) (b.st.BM c) (b.none c) AJ (Lg C5) (kk C5 hp hs)⟩
theorem rU(xs ys:List Str):Dp (xs.map V.str) (ys.map V.str)=decide (xs=ys):=by
 by_cases h:xs=ys
 .subst h;rw[ZHd,rg rfl]
 .rw[uz h]
  by_cases a:xs.length=ys.length
  .rw[Kd (by simpa using a)]
   cases c:(List.range (xs.map V.str).length).all λj=>ER ((xs.map V.str).getD j .AB) ((ys.map V.str).getD j .AB)with
   |false=>rfl
   |true=>
    exfalso;apply h;apply ni a;intro j h1 h2;have q:=List.all_eq_true.mp c j (List.mem_range.mpr (by simpa using h1))
    have e:(xs.map V.str)[j]?=some (.str xs[j]):=by rw[Am,B7 h1];rfl
    have d:(ys.map V.str)[j]?=some (.str ys[j]):=by rw[Am,B7 h2];rfl
    rw[Kb e,Kb d]at q;have b:(xs[j] == ys[j])=true:=q
    simpa using b
  .rw[Ks (by simpa using a)]
theorem dQ(h:Wq ss ta λtp xs=>∃ns:List Str,xs=ns.map PV.str/\Wq ss tb λBS ys=>BS=tp/\∃ms:List Str,ys=ms.map PV.str/\k (.bl (if neg then !decide (ns=ms)else decide (ns=ms)))):Wp ss (Bv (MG K neg) ta tb) k:=⟨λE Z F H Q S q=>
 h.go E Z F H _ S λv tp xs F1 H1 b sv⟨ns,g,h2⟩=>h2.go E Z F1 H1 _ b.st λv2 BS ys F2 H2 a W3⟨e,ms,f,kk⟩=>by
  subst g;subst f;subst e;obtain⟨l,vs,rfl,c,r⟩:=(sv.mv a).seq a.st;obtain⟨l2,Ya,rfl,Cz,d⟩:=W3.seq a.st;rw[r.strs]at c;rw[d.strs]at Cz;refine⟨l,l2,ns.map V.str,ms.map V.str,rfl,rfl,?_,EB _,EB _,?_⟩
  .cases BS
   .exact .inl ⟨AK.of c,AK.of Cz⟩
   .exact .inr ⟨AD.of c,AD.of Cz⟩
  .rw[rU];cases neg
   .exact q _ _ F2 H2 (b.trans a) (.bl _) kk
   .exact q _ _ F2 H2 (b.trans a) (.bl _) kk⟩
theorem Ux(c:r=λxs H Q=>∃(p:Addr)(bs:List Bool),xs=[.ref p]/\AK K H p (bs.map V.bl)/\Q (.bl (bs.all id)) H)(h:Wq ss te λtp xs=>tp=false/\∃bs:List Bool,xs=bs.map PV.bl/\k (.bl (bs.all id))):Wp ss (DL r (Ab te BC)) k:=⟨λE Z F H Q S q=>
 h.go E Z F H _ S λv tp xs F1 H1 a sv AV=>by
  obtain⟨d,bs,e,kk⟩:=AV;subst c;subst e;subst d;obtain⟨l,vs,rfl,b,r⟩:=sv.seq a.st;rw[r.bls]at b;exact⟨l,bs,rfl,AK.of b,q _ _ F1 H1 a (.bl _) kk⟩⟩
noncomputable def tyP:PV->String
 | .AB => "NoneType"
 | .bl _ => "bool"
 | .int _ => "int"
 | .str _ => "str"
 | .lst _ => "list"
 | .tup _ => "tuple"
 | .B1 _ _ => "dict"
 |_ => ""
def Lf:PV->Value
 | .obj _ _ _=>.none
 | .exc _ _ _=>.none
 | .con _ _=>.none
 |p=>.type (tyP p)
theorem R9(h:PySem.W.kitOne K .none (.type n)=some b):False:=by
 unfold PySem.W.kitOne PySem.W.kitCls PySem.W.subIn at h;simp at h
theorem Rep.vc(s:A8 F H)(r:Rep F v p)(a:PySem.W.kitOne K (Lf p) (.type n)=some b):FP K H v (Lf p):=by
 cases r with
 |AB=>exact .AB
 |bl b=>exact .bl b
 |int i=>exact .int i
 |str x=>exact .str x
 |lst h _=>exact .lst (s _ _ h)
 |tup h _=>exact .tup (s _ _ h)
 |B1 h _ _=>exact .dK (s _ _ h)
 |obj _ _ _ _=>exact(R9 a).elim
 |Te _=>exact(R9 a).elim
 |con=>exact(R9 a).elim
 |exc _ _ _ _=>exact(R9 a).elim
theorem PH(h:Wp ss te λp=>∃b,PySem.W.kitOne K (Lf p) (.type n)=some b/\k (.bl b)):Wp ss (DL (fY K) (Ab te (Ab (tC (.ty n)) BC))) k:=⟨λE Z F H Q S q=>
 h.go E Z F H _ S λv p F1 H1 a r AV=>by obtain⟨b,c,kk⟩:=AV;exact⟨v,n,_,b,rfl,r.vc a.st.fh c,c,q _ _ F1 H1 a (.bl _) kk⟩⟩
theorem ZDO(d:r=λxs H Q=>∃i j,xs=[.int i,.int j]/\Q (.int (if j > i then j else i)) H)(h:Wp ss ta λx=>∃i,x=.int i/\Wp ss tb λy=>∃j,y=.int j/\k (.int (if j > i then j else i))):Wp ss (DL r (Ab ta (Ab tb BC))) k:=⟨λE Z F H Q S q=>
 h.go E Z F H _ S λv p F1 H1 a b AV=>by
  obtain⟨i,e,h2⟩:=AV;subst d;subst e;cases b.inv;exact h2.el E a.st λj F2 H2 c kk=>by
   exact⟨i,j,rfl,q _ _ F2 H2 (a.trans c) (.int _) kk⟩⟩
theorem tP(d:r=λxs H Q=>∃i j,xs=[.int i,.int j]/\Q (.int (if j<i then j else i)) H)(h:Wp ss ta λx=>∃i,x=.int i/\Wp ss tb λy=>∃j,y=.int j/\k (.int (if j<i then j else i))):Wp ss (DL r (Ab ta (Ab tb BC))) k:=⟨λE Z F H Q S q=>
 h.go E Z F H _ S λv p F1 H1 a b AV=>by
  obtain⟨i,e,h2⟩:=AV;subst d;subst e;cases b.inv;exact h2.el E a.st λj F2 H2 c kk=>by
   exact⟨i,j,rfl,q _ _ F2 H2 (a.trans c) (.int _) kk⟩⟩
end
structure Src (E:Ent0) (F1:Hp) (J:It) (xs:List PV):Prop where
 go:∀(ss:List Slot)(Z:L2.St)(F H:Hp)(i:Nat),A8 F1 F->Sg E ss Z F H->i<xs.length->J.go i H
 stop:∀(ss:List Slot)(Z:L2.St)(F H:Hp),A8 F1 F->Sg E ss Z F H->J.stop xs.length H
 G4:∀(ss:List Slot)(Z:L2.St)(F H:Hp)(i:Nat)(x:V)(H':Hp),A8 F1 F->Sg E ss Z F H->i<xs.length->J.G4 i H x H'->∃p F',xs[i]?=some p/\Mv E ss Z F H F' H'/\Rep F' x p
structure Wi [Xw] (ss:List Slot) (wi:TI) (k:List PV->Prop):Prop where
 go:∀(E:Ent)(Z:L2.St)(F H:Hp)(R:It->Hp->Prop),Sg E ss Z F H->(∀J xs F' H',Mv E ss Z F H F' H'->Src E F' J xs->k xs->R J H')->wi Z H R
structure Wg [Xw] (ss:List Slot) (g:TG) (p:PV) (k:List Slot->Prop):Prop where
 go:∀(E:Ent)(Z:L2.St)(F H:Hp)(v:V)(Q:L2.St->Hp->Prop),Sg E ss Z F H->Rep F v p->(∀AA σ',k AA->Sg E AA σ' F H->Q σ' H)->g v Z H Q
section
variable[Xw]
variable{K:ZJR}{tb:TE}{k:PV->Prop}{R:AX}
theorem fF(h:∀(ss:List Slot)(Z:L2.St)(F H:Hp),A8 F' F->Sg E ss Z F H->H l=some (BN tp vs))(r:AW F' vs xs):Src E F' (Oq K tp l vs) xs where
 go:=λss Z F H i s S hi=>⟨BN.sq (h ss Z F H s S),by rw[r.length];exact hi⟩
 stop:=λss Z F H s S=>⟨BN.sq (h ss Z F H s S),by rw[r.length];exact Ag _⟩
 G4:=λss Z F H i x H' s S hi y=>by
  obtain⟨e,hx⟩:=y;subst e;obtain⟨p,hp,a⟩:=r.get' hx;exact⟨p,F,hp,.refl S,a.mono s⟩
theorem Jz{k:List PV->Prop}(h:Wz ss te λ_ xs=>k xs):Wi ss (OX K te) k:=⟨λE Z F H R S q=>
 h.go E Z F H _ S λv tp xs F1 H1 a f kk=>by
  cases tp with
  |true=>
   have c:Rep F1 v (.tup xs):=f;cases c with
   |tup e r=>exact⟨true,_,_,rfl,AD.of (a.st.fh _ _ e),q _ _ F1 H1 a (fF (tp:=true) (λss Z F H s S=>S.fh _ _ (s _ _ e)) r) kk⟩
  |false=>
   obtain⟨l,vs,rfl,h1,r⟩:=f;have b:∀(ss:List Slot)(Z:L2.St)(F H:Hp),A8 F1 F->Sg E ss Z F H->H l=some (.lst vs):=λss Z F H s S=>by
    rcases h1 with h1|⟨hA,h1⟩
    .exact S.fh _ _ (s _ _ h1)
    .exact S.keep _ _ hA h1
   exact⟨false,l,vs,rfl,AK.of (b ss Z F1 H1 (A8.refl _) a.st),q _ _ F1 H1 a (fF (tp:=false) b r) kk⟩⟩
noncomputable def Ka(n:Nat):List PV:=(List.range n).map λi:Nat=>PV.int (i:Int)
theorem JO(n:Nat):(Ka n).length=n:=by simp[Ka]
theorem Qn{n:Nat}(h:(Ka n)[i]?=some p):i<n/\p=.int (i:Int):=by
 have hi:i<n:=by have:=(List.getElem?_eq_some_iff.mp h).1;rwa [JO]at this
 unfold Ka at h;rw[Am,o4 hi]at h;exact⟨hi,(BI h).symm⟩
theorem dO{k:List PV->Prop}(h:Wp ss te λp=>∃j:Int,p=.int j/\j<=1000000/\-1000000<=j/\k (Ka j.toNat)):Wi ss (WC (Ab te BC)) k:=⟨λE Z F H R S q=>
 h.el E S λj F1 H1 b a=>by
  obtain⟨h1,h2,kk⟩:=a;refine⟨j,rfl,by omega,by omega,q _ (Ka j.toNat) F1 H1 b ⟨λss Z F H i s S hi=>?_,λss Z F H s S=>?_,λss Z F H i x H' s S hi y=>?_⟩ kk⟩
  .rw[JO]at hi;exact hi
  .show _<=_;rw[JO];exact Ag _
  .obtain⟨e,hx⟩:=y;subst e;subst hx;rw[JO]at hi;refine⟨.int (i:Int),F,?_,.refl S,?_⟩
   .unfold Ka;rw[Am,o4 hi];rfl
   .rw[Int.zero_add];exact .int _⟩
theorem IL{k:List Slot->Prop}(h:k (ss.set j (.is p))):Wg ss (Du j) p k:=⟨λE Z F H v Q S r q=>q _ _ h (S.L7 r)⟩
theorem fM{k:List Slot->Prop}(h:∃a b,p=.tup [a,b]/\k ((ss.set i (.is a)).set j (.is b))):Wg ss (Ww K 2 (SQ (Du i) (SQ (Du j) WO))) p k:=⟨λE Z F H v Q S r q=>by
 obtain⟨a,b,rfl,kk⟩:=h;obtain⟨_,_,rfl,e,r⟩:=r.inv;obtain⟨_,_,rfl,d,r⟩:=r.inv;obtain⟨_,_,rfl,c,r⟩:=r.inv;obtain rfl:=r.Ej;exact⟨_,_,rfl,AD.of (S.fh _ _ e),rfl,_,_,rfl,_,_,rfl,rfl,q _ _ kk ((S.L7 d).L7 c)⟩⟩
theorem B4{t:TS}(h:Ws ss t (λAA=>Ws AA u nx R) R):Ws ss (QF t u) nx R:=⟨λE D Z F H S hn a=>
 h.go E { D with nx:=u D } Z F H S (λAA σ' F' H' w S' s=>w.go E D σ' F' H' S' (λCT σ2 F2 H2 b S2 s2=>hn CT σ2 F2 H2 b S2 (s.trans s2)) a) a⟩
theorem Fm{t:TS}(h:Ws ss t nx R):Ws ss (X9 t) nx R:=⟨λE D Z F H S hn a=>⟨D.nx,h.go E { D with nx:=D.nx } Z F H S hn a,λ_ _ q=>q⟩⟩
theorem Ws.mono{t:TS}(h:Ws ss t nx R)(i:∀s,nx s->HI s):Ws ss t HI R:=⟨λE D Z F H S hn a=>h.go E D Z F H S (λAA σ' F' H' n=>hn AA σ' F' H' (i _ n)) a⟩
theorem lL{t:TS}(J:List Slot->Prop)(h:Ws ss t J R)(h2:∀AA,J AA->Ws AA u nx R):Ws ss (QF t u) nx R:=B4 (h.mono h2)
theorem GD(h:Wp ss te λp=>nx (ss.set i (.is p))):Ws ss (GC te (Du i)) nx R:=⟨λE D Z F H S hn b=>
 h.go E Z F H _ S λv p F1 H1 a r kk=>hn _ _ F1 H1 kk (a.st.L7 r) a.ff⟩
theorem Lb(h:Wn ss te λxs=>nx (ss.set i (.own xs))):Ws ss (GC te (Du i)) nx R:=⟨λE D Z F H S hn g=>
 h.go E Z F H _ S λl vs xs F1 H1 a d b G5 r kk=>hn _ _ F1 H1 kk (a.st.setG ⟨l,vs,rfl,d,S.DK b,G5,r⟩ λf e j u _ hu c=>by cases e;exact S.Mu hu b c) a.ff⟩
theorem G0(h:Wp ss te k):Ws ss (JF te) nx (.is k):=⟨λE D Z F H S hn b=>
 h.go E Z F H _ S λv p F1 H1 a r kk=>b v F1 H1 a.st.toFin ⟨p,r,kk⟩⟩
theorem fG{k:List PV->Prop}(h:Wn ss te k):Ws ss (JF te) nx (.new k):=⟨λE D Z F H S hn b=>
 h.go E Z F H _ S λl vs xs F1 H1 a d c G5 r kk=>b _ F1 H1 a.st.toFin ⟨l,vs,xs,rfl,d,S.DK c,G5,r,kk⟩⟩
theorem Ey{t:TS}(h:Wt ss c λb=>if b=true then Ws ss t nx R else Ws ss u nx R):Ws ss (NQ c t u) nx R:=⟨λE D Z F H S hn d=>
 h.go E Z F H _ S λb F1 H1 a w=>by
  show if b=true then _ else _
  cases b with
  |true=>rw[sZ rfl]at w ⊢;exact w.go E D Z F1 H1 a.st (λCT σ2 F2 H2 n S2 s2=>hn CT σ2 F2 H2 n S2 (a.ff.trans s2)) d
  |false=>rw[sN (by decide)]at w ⊢;exact w.go E D Z F1 H1 a.st (λCT σ2 F2 H2 n S2 s2=>hn CT σ2 F2 H2 n S2 (a.ff.trans s2)) d⟩
theorem Cv(h:nx ss):Ws ss Ur nx R:=⟨λE D Z F H S hn a=>hn ss Z F H h S (A8.refl _)⟩
theorem Pw(h:Wp ss te λ_=>nx ss):Ws ss (Je te) nx R:=⟨λE D Z F H S hn b=>
 h.go E Z F H _ S λv p F1 H1 a r kk=>hn ss Z F1 H1 kk a.st a.ff⟩
theorem Sg.drop(S:Sg E ss Z F H)(i:Nat):Sg E (ss.set i .any) Z F H:=by
 have b:∀(j:Nat)u,(ss.set i .any)[j]?=some u->u=.any∨ss[j]?=some u:=λj u a=>by
  by_cases q:j=i
  .subst q;have f:j<ss.length:=by have:=(List.getElem?_eq_some_iff.mp a).1;simpa using this
   rw[Bw f]at a;exact .inl (BI a).symm
  .rw[Br (BG q)]at a;exact .inr a
 refine⟨S.toFin,by rw[DP];exact S.len,λj u a=>?_,λj k u w l Qy a e d c=>?_⟩
 .rcases b j u a with rfl|h
  .trivial
  .exact S.ok j u h
 .rcases b j u a with rfl|h
  .cases d
  .rcases b k w e with rfl|h2
   .cases c
   .exact S.BL j k u w l Qy h h2 d c
theorem Yw(e:Z[i]?=some (some v)):Z.set i (some v)=Z:=by
 apply ao;intro j
 by_cases q:j=i
 .subst q;rw[Bw (List.getElem?_eq_some_iff.mp e).1,e]
 .rw[Br (BG q)]
theorem Sg.OI(S:Sg E ss Z F H)(j:F a=none)(c:E.H0 a=none∨a∈E.B)(hn:∀(i:Nat)s,ss[i]?=some s->¬ BD s Z[i]? a):Sg E ss Z F (upd H a o):=by
 have f:∀b u,b≠a->H b=some u->upd H a o b=some u:=λb u h e=>by rw[Af h];exact e
 refine⟨⟨λb u e=>?_,S.f0,λb u d e=>?_,S.fresh,λb d=>?_,S.K6,S.a0,S.bF,λb g=>?_,S.b0⟩,S.len,λi s hi=>?_,S.BL⟩
 .exact f b u (Dr e j) (S.fh b u e)
 .refine f b u ?_ (S.keep b u d e);rintro rfl;rcases c with c|c
  .rw[c]at e;cases e
  .exact d.2 c
 .refine BR.keep (S.Co b d) λu e=>f b u ?_ e;rintro rfl;rcases c with c|c
  .exact S.a0 _ d c
  .exact(S.b0 _ c).2 d
 .by_cases q:b=a
  .subst q;rw[AJ];simp
  .rw[Af q];exact S.bH b g
 .by_cases np:s=.AG
  .subst np;obtain⟨l,e,p,n,k⟩:=S.ok i _ hi;exact⟨l,e,p,n,BR.keep k λu h=>f l u (by rintro rfl;exact hn i _ hi e) h⟩
  .exact Ok.go S hi (A8.refl _) (λb u m h=>f b u (by rintro rfl;exact hn i _ hi m) h) (λ_ _ h=>h) np
theorem Sg.put(S:Sg E ss Z F H){ys:List PV}(hi:ss[i]?=some (.own xs))(e:Z[i]?=some (some (.ref l)))(f:F l=none)(d:E.H0 l=none)(r:AW F CJ ys):Sg E (ss.set i (.own ys)) Z F (upd H l (.lst CJ)):=by
 have a:∀(j:Nat)s,(ss.set i .any)[j]?=some s->¬ BD s Z[j]? l:=λj s b c=>by
  by_cases q:j=i
  .subst q;have n:j<ss.length:=(List.getElem?_eq_some_iff.mp hi).1;rw[Bw n]at b;cases b;cases c
  .rw[Br (BG q)]at b;exact S.BL j i s _ l q b hi c e
 have m:=(S.drop i).OI (o:=.lst CJ) f (.inl d) a;have g:=m.setG (j:=i) (s:=.own ys) (v:=.ref l) ⟨l,CJ,rfl,f,d,AJ,r⟩ λp k j u b hu h=>by cases k;exact a j u hu h
 rw[Yw e,Nf]at g;exact g
theorem RK(hi:ss[i]?=some (.own xs))(h:Wp ss te λp=>xs.length<=99999/\nx (ss.set i (.own (xs++[p])))):Ws ss (Je (QR K "list" P6 (BX i) (Ab te BC))) nx R:=⟨λE D Z F H S hn k=>by
 obtain⟨l,vs,e,n,m,g,r⟩:=S.ok i _ hi;refine⟨_,e,.inl ⟨rfl,_,AK.of g⟩,h.go E Z F H _ S λv p F1 H1 a d⟨f,kk⟩=>?_⟩;obtain⟨j,CJ,c,EE,CP,Pu,b⟩:=a.st.ok i _ hi;rw[e]at c;cases c;refine⟨l,CJ,v,rfl,rfl,Pu,Mb (by rw[b.length];exact f),?_⟩;exact hn _ Z F1 _ kk (a.st.put hi e EE CP (b.append (.one d))) a.ff⟩
noncomputable def Bo(F H:Hp)(as:List Addr):Hp:=λa=>if a∈as then H a else F a
theorem Sg.lay(S:Sg E ss Z F H)(as:List Addr)(g:∀a∈as,F a=none/\E.H0 a=none/\H a≠none)(hn:∀a∈as,∀(i:Nat)s,ss[i]?=some s->¬ BD s Z[i]? a):Sg E ss Z (Bo F H as) H/\A8 F (Bo F H as):=by
 have x:∀a,a∈as->Bo F H as a=H a:=λa h=>sZ h;have j:∀a,a∉as->Bo F H as a=F a:=λa h=>sN h;have ff:A8 F (Bo F H as):=λa o e=>by
  by_cases q:a∈as
  .rw[(g a q).1]at e;cases e
  .rw[j a q];exact e
 have f:∀a,a∉as->F a=none->Bo F H as a=none:=λa q h=>by rw[j a q];exact h
 refine⟨⟨⟨λa o e=>?_,S.f0.trans ff,S.keep,λa o e=>?_,S.Co,λa w=>?_,S.a0,λa u=>?_,S.bH,S.b0⟩,S.len,λi s hi=>?_,S.BL⟩,ff⟩
 .by_cases q:a∈as
  .rw[x a q]at e;exact e
  .rw[j a q]at e;exact S.fh a o e
 .by_cases q:a∈as
  .exact .inr (g a q).2.1
  .rw[j a q]at e;exact S.fresh a o e
 .exact f a (λq=>S.a0 a w (g a q).2.1) (S.K6 a w)
 .exact f a (λq=>(S.b0 a u).1 (g a q).2.1) (S.bF a u)
 .have l:∀a,BD s Z[i]? a->a∉as:=λa m q=>hn a q i s hi m;have kk:=S.ok i s hi;cases s with
  |any=>trivial
  |is p=>obtain⟨v,e,r⟩:=kk;exact⟨v,e,r.mono ff⟩
  |own ys=>
   obtain⟨b,ws,q,d,c,k,r⟩:=kk;exact⟨b,ws,q,f b (l b q) d,c,k,r.mono ff⟩
  |AG=>
   obtain⟨b,q,d,c,k⟩:=kk;exact⟨b,q,f b (l b q) d,c,k⟩
  |sq tp ys=>
   cases tp with
   |true=>obtain⟨v,e,r⟩:=kk;exact⟨v,e,r.mono ff⟩
   |false=>obtain⟨b,ws,q,d,c,r⟩:=kk;exact⟨b,ws,q,d,c,r.mono ff⟩
  |raw P=>obtain⟨v,e,r,st⟩:=kk;exact⟨v,e,st _ _ ff r,st⟩
  |ow lt t=>
   obtain⟨v,e,r,nd,q⟩:=kk;exact⟨v,e,r.mono ff λa _ o h=>h,nd,λa n=>⟨f a (l a n) (q a n).1,(q a n).2⟩⟩
theorem Si{t:TS}(i:Nat)(hi:ss[i]?=some (.own xs))(h:Ws (ss.set i (.is (.lst xs))) t nx R):Ws ss t nx R:=⟨λE D Z F H S hn g=>by
 obtain⟨l,vs,e,o,k,f,r⟩:=S.ok i _ hi;have one:∀a,a∈[l]->a=l:=λa h=>by simpa using h
 obtain⟨S1,d⟩:=(S.drop i).lay [l] (λa h=>by rw[one a h,f];exact⟨o,k,by simp⟩) λa h j s b m=>by
  rw[one a h]at m
  by_cases q:j=i
  .subst q;rw[Bw (List.getElem?_eq_some_iff.mp hi).1]at b;cases b;cases m
  .rw[Br (BG q)]at b;exact S.BL j i s _ l q b hi m e
 have c:=S1.L7 (j:=i) (v:=.ref l) (p:=.lst xs) (.lst (by unfold Bo;rw[sZ (by simp)];exact f) (r.mono d));rw[Yw e,Nf]at c;exact h.go E D Z _ H c (λCT σ2 F2 H2 n c s2=>hn CT σ2 F2 H2 n c (d.trans s2)) g⟩
theorem Gu{g:TG}{tb:TS}(I:List PV->Nat->List Slot->Prop)(h:Wi ss wi λxs=>I xs 0 ss/\(∀(i:Nat)p AA,xs[i]?=some p->I xs i AA->Wg AA g p λCT=>Ws CT tb (I xs (i+1)) R)/\∀AA,I xs xs.length AA->nx AA):Ws ss (RC wi g tb) nx R:=⟨λE D Z F H S hn s=>
 h.go E Z F H _ S λJ xs F1 H1 k d AV=>by
  obtain⟨i0,hs,hd⟩:=AV;refine⟨λi m σ' H'=>m=xs.length - i/\i<=xs.length/\∃AA F',I xs i AA/\Sg E AA σ' F' H'/\A8 F1 F',⟨_,rfl,CH _,ss,F1,i0,k.st,A8.refl _⟩,?_⟩;rintro i m σ' H'⟨rfl,hi,AA,F',l,S',s'⟩
  by_cases f:i<xs.length
  .refine .inr ⟨d.go AA σ' F' H' i s' S' f,λσ2 H2=>∃CT F2,I xs (i+1) CT/\Sg E CT σ2 F2 H2/\A8 F1 F2,λσ2 H2 JD=>by obtain⟨CT,F2,a,b,c⟩:=JD;exact⟨_,by omega,rfl,f,CT,F2,a,b,c⟩,λx H3 y=>?_⟩;obtain⟨p,F3,hp,j,q⟩:=d.G4 AA σ' F' H' i x H3 s' S' f y;refine(hs i p AA hp l).go E σ' F3 H3 x _ j.st q λn σ4 w S4=>?_;exact w.go E _ σ4 F3 H3 S4 (λt σ5 F5 H5 r S5 o=>⟨t,F5,r,S5,(s'.trans j.ff).trans o⟩) s
  .have e:i=xs.length:=by omega
   subst e;exact .inl ⟨d.stop AA σ' F' H' s' S',hn AA σ' F' H' (hd AA l) S' (k.ff.trans s')⟩⟩
theorem ZBR{tb:TS}(I:Nat->List Slot->Prop)(e:Nat)(n:I e ss)(h:∀m AA,I m AA->Wt AA c λb=>if b=true then Ws AA tb (λCT=>∃a,a < m/\I a CT) R else nx AA):Ws ss (YH c tb) nx R:=⟨λE D Z F H S hn j=>by
 refine⟨λm σ' H'=>∃AA F',I m AA/\Sg E AA σ' F' H'/\A8 F F',⟨e,ss,F,n,S,A8.refl _⟩,?_⟩;rintro m σ' H'⟨AA,F',k,S',s'⟩;refine(h m AA k).go E σ' F' H' _ S' λb F1 H1 d w=>?_;cases b with
 |true=>
  rw[sZ rfl]at w;refine⟨λσ2 H2=>∃CT F2,(∃a,a < m/\I a CT)/\Sg E CT σ2 F2 H2/\A8 F F2,λσ2 H2 AV=>by obtain⟨CT,F2,⟨a,l,i⟩,b,c⟩:=AV;exact⟨a,l,CT,F2,i,b,c⟩,?_⟩;exact w.go E _ σ' F1 H1 d.st (λo σ5 F5 H5 g S5 f=>⟨o,F5,g,S5,(s'.trans d.ff).trans f⟩) j
 |false=>
  rw[sN (by decide)]at w;exact hn AA σ' F1 H1 w d.st (s'.trans d.ff)⟩
end
noncomputable def E4(js:List Nat)(ss:List Slot):List Slot:=js.map λj=>(ss[j]?).getD .any
def SV(js:List Nat)(ss:List Slot):Bool:=js.all λj=>match ss[j]? with
 |some .AG=>false
 |_=>true
section
variable[Xw]
variable{K:ZJR}{js:List Nat}
theorem ZGv(h:js[i]?=some j)(e:(E4 js ss)[i]?=some s):s=(ss[j]?).getD .any:=by
 unfold E4 at e;rw[Am,h]at e;exact(BI e).symm
theorem Sg.Ah(S:Sg E ss Z F H)(nd:js.Nodup)(r:AW F vs ps):Sg E (E4 js ss++ps.map .is) (Bh js Z++vs.map some) F H:=by
 have d:(E4 js ss).length=js.length:=by simp[E4]
 have f:(Bh js Z).length=js.length:=by simp[Bh]
 have k:∀(i:Nat)(hi:i<js.length),(E4 js ss++ps.map .is)[i]?=some ((ss[js[i]]?).getD .any)/\(Bh js Z++vs.map some)[i]?=some ((Z[js[i]]?).join):=λi hi=>by
  rw[Dd (by rw[d];exact hi),Dd (by rw[f];exact hi)];unfold E4 Bh;rw[Am,Am,B7 hi];exact⟨rfl,rfl⟩
 have c:∀(i:Nat)s,js.length<=i->(E4 js ss++ps.map .is)[i]?=some s->∃p v,s=.is p/\(Bh js Z++vs.map some)[i]?=some (some v)/\Rep F v p:=λi s hi e=>by
  rw[FD (by rw[d];exact hi),d,Am]at e;rw[FD (by rw[f];exact hi),f,Am];cases q:ps[i - js.length]? with
  |none=>rw[q]at e;cases e
  |some p=>
   rw[q]at e;obtain⟨v,h,g⟩:=r.get q;rw[h];exact⟨p,v,(BI e).symm,rfl,g⟩
 have D:∀(s:Slot)(m:Nat)(l:Addr),BD s (some (Z[m]?).join) l->BD s Z[m]? l:=λs m l o=>by
  have w:∀l,some (Z[m]?).join=some (some (V.ref l))->Z[m]?=some (some (.ref l)):=λl e=>by
   cases q:Z[m]? with
   |none=>rw[q]at e;cases e
   |some o=>rw[q]at e;cases o with
    |none=>cases e
    |some v=>simpa using e
  cases s with
  |own xs=>exact w l o
  |AG=>exact w l o
  |ow lt t=>exact o
  |_=>exact o
 have n:∀(i:Nat)s l,(E4 js ss++ps.map .is)[i]?=some s->BD s (Bh js Z++vs.map some)[i]? l->∃hi:i<js.length,ss[js[i]]?=some s/\BD s Z[js[i]]? l:=λi s l e m=>by
  by_cases hi:i<js.length
  .rw[(k i hi).2]at m;refine⟨hi,?_,D s _ l m⟩;rw[(k i hi).1]at e;cases q:ss[js[i]]? with
   |none=>rw[q]at e;cases e;cases m
   |some u=>rw[q]at e;exact e
  .obtain⟨p,v,rfl,_⟩:=c i s (by omega) e;cases m
 refine⟨S.toFin,?_,λi s e=>?_,λi j s u l CB hi C ms B=>?_⟩
 .rw[B2,B2,d,f,AU,AU,r.length]
 .by_cases hi:i<js.length
  .obtain⟨a,b⟩:=k i hi;rw[a]at e;rw[b];cases q:ss[js[i]]? with
   |none=>rw[q]at e;cases e;trivial
   |some u=>
    rw[q]at e;have G:u=s:=BI e;subst G;have kk:=S.ok _ _ q;cases u with
    |any=>trivial
    |is p=>obtain⟨v,e,r⟩:=kk;rw[e];exact⟨v,rfl,r⟩
    |own xs=>obtain⟨l,vs,e,r⟩:=kk;rw[e];exact⟨l,vs,rfl,r⟩
    |AG=>obtain⟨l,e,r⟩:=kk;rw[e];exact⟨l,rfl,r⟩
    |sq tp xs=>
     cases tp with
     |true=>obtain⟨v,e,r⟩:=kk;rw[e];exact⟨v,rfl,r⟩
     |false=>obtain⟨l,vs,e,r⟩:=kk;rw[e];exact⟨l,vs,rfl,r⟩
    |raw P=>obtain⟨v,e,r⟩:=kk;rw[e];exact⟨v,rfl,r⟩
    |ow lt t=>obtain⟨v,e,r⟩:=kk;rw[e];exact⟨v,rfl,r⟩
  .obtain⟨p,v,rfl,h,g⟩:=c i s (by omega) e;rw[h];exact⟨v,rfl,g⟩
 .obtain⟨J,y,A⟩:=n i s l hi ms;obtain⟨I,x,z⟩:=n j u l C B;refine S.BL js[i] js[j] s u l (λe=>CB ?_) y x A z;exact(ZIK nd).mp e
theorem Mv.out(S:Sg E ss Z F H)(np:SV js ss=true)(m:Mv E (E4 js ss++ps.map .is) τ F H F' H'):Mv E ss Z F H F' H':=by
 have nn:∀a,C6 (E4 js ss++ps.map .is) τ a:=λa i hi _=>by
  by_cases h:i<(E4 js ss).length
  .rw[Dd h]at hi;have c:i<js.length:=by simpa[E4]using h
   have q:=ZGv (B7 c) hi;have z:=List.all_eq_true.mp np js[i] (M4 c);cases w:ss[js[i]]? with
   |none=>rw[w]at q;cases q
   |some u=>rw[w]at q z;cases q;cases z
  .rw[FD (by omega),Am]at hi;cases w:ps[i - (E4 js ss).length]? with
   |none=>rw[w]at hi;cases hi
   |some p=>rw[w]at hi;cases hi
 have b:∀a o,H a=some o->H' a=some o:=λa o e=>m.hh a o (nn a) e;exact S.step m.ff m.st.fh (λa o _ e=>b a o e) m.nn λi l hi e=>BR.keep (S.Et hi e) λo e=>b l o e
theorem VL{k:List PV->Prop}(f:PV->Bool)(g:PV->PV)
  (h:Wi ss wi λxs=>xs.length<=100000/\(∀x∈xs,Wt (E4 js ss++[.is x]) tt λb=>b=f x)/\(∀x∈xs,f x=true->Wp (E4 js ss++[.is x]) te λp=>p=g x)/\k ((xs.filter f).map g))
  (nd:js.Nodup:=by decide) (np:SV js ss=true:=by rfl):Wn ss (IG wi js tt te) k:=⟨λE Z F H Q S q=>
 h.go E Z F H _ S λJ xs F1 H1 d C⟨hz,V,W,kk⟩acc Aq=>by
  have O:C6 ss Z acc:=d.st.MV Aq;have JN:=d.st.DK Aq;have RL:∀(i:Nat)s,ss[i]?=some s->¬ BD s Z[i]? acc:=λi s hi=>d.st.Mu hi Aq;refine⟨λi m H2=>m=xs.length - i/\i<=xs.length/\∃F2 vs,Mv E ss Z F1 H1 F2 H2/\F2 acc=none/\H2 acc=some (.lst vs)/\AW F2 vs (((xs.take i).filter f).map g),⟨_,rfl,CH _,F1,[],d.st.make Aq _,d.st.BM Aq,AJ,.nil⟩,?_⟩;rintro i m H2⟨rfl,hi,F2,vs,c,K,z,t⟩
  by_cases r:i<xs.length
  .refine .inr ⟨C.go ss Z F2 H2 i c.ff c.st r,λx H3 y=>?_⟩;obtain⟨p,F3,hp,u,D⟩:=C.G4 ss Z F2 H2 i x H3 c.ff c.st r y;have G:p∈xs:=DQ hp;have N9:(xs.take (i+1))=xs.take i++[p]:=by
    have σ:xs[i]=p:=by rw[B7 r]at hp;exact BI hp
    rw[UC r,σ]
   have M:List.filter f (xs.take (i+1))=(xs.take i).filter f++(if f p=true then[p]else[]):=by
    rw[N9,Lz];congr 1
    by_cases j:f p=true <;> simp[j]
   have N:∀{F4:Hp},(∀a o,F4 a=some o->F2 a=some o∨H2 a=none)->F4 acc=none:=λ{F4}n=>by
    cases e:F4 acc with
    |none=>rfl
    |some o=>
     rcases n acc o e with w|w
     .rw[K]at w;cases w
     .rw[z]at w;cases w
   have S3:=u.st.Ah (js:=js) nd (.one D);refine(V p G).go E _ F3 H3 _ S3 λb F4 H4 m4 X=>?_;have l:=u.trans (m4.out (ps:=[p]) u.st np);show if b=true then _ else _
   rw[X]
   by_cases j:f p=true
   .rw[sZ j];have S4:=l.st.Ah (js:=js) nd (.one (D.mono (m4.out (ps:=[p]) u.st np).ff));refine(W p G j).go E _ F4 H4 _ S4 λw pw F5 H5 T I Y=>?_;have U:=m4.out (ps:=[p]) u.st np;have P:=T.out (ps:=[p]) l.st np;have A:=l.trans P;have R:=A.hh acc _ O z;have L:=N A.nn;have v:vs.length<=99999:=by
     rw[t.length,AU];have:=HB f (xs.take i);rw[Bi]at this;omega
    refine⟨vs,R,Mb v,xs.length - (i+1),by omega,rfl,r,F5,vs++[w],?_,L,AJ,?_⟩
    .have B:=c.trans A;refine⟨B.st.OI L (.inl JN) RL,B.ff,λa o n e=>?_,B.nn⟩;rw[Af (Dr e Aq)];exact B.hh a o n e
    .rw[M,sZ j,Bx];rw[Y]at I;exact(t.mono A.ff).append (.one I)
   .have Xp:f p=false:=by simpa using j
    rw[Xp,sN (by decide)];refine⟨xs.length - (i+1),by omega,rfl,r,F4,vs,c.trans l,N l.nn,l.hh acc _ O z,?_⟩;rw[M,sN j,E8];exact t.mono l.ff
  .have e:i=xs.length:=by omega
   subst e;refine .inl ⟨C.stop ss Z F2 H2 c.ff c.st,q acc vs _ F2 H2 (d.trans c) K (d.none Aq) z ?_ kk⟩;rw[IU]at t;exact t⟩
end
abbrev Pre:=List Slot->AX->Prop
def Al(pre:Pre):Sp:=λvs H Q _=>∃(ss:List Slot)(R:AX)(F:Hp)(A:List Addr),pre ss R/\Sg (E3 A F H) ss (vs.map some) F H/\∀v F' H',Fin (E3 A F H) F' H'->R.ok (E3 A F H) F' H' v->Q v H'
section
variable[Xw]
variable{pre:Pre}{k:PV->Prop}
theorem Hl.at{l:List Slot}(h:Hl ss Z F H vs l):∀{i:Nat}{s:Slot},l[i]?=some s->∃v,vs[i]?=some v/\Av ss Z F H v s:=by
 induction h with
 |nil=>intro i s e;simp at e
 |cons a _ b=>
  intro i s e;cases i with
  |zero=>simp at e;subst e;exact⟨_,rfl,a⟩
  |succ i=>exact b (by simpa using e)
theorem Hl.len{l:List Slot}(h:Hl ss Z F H vs l):l.length=vs.length:=by
 induction h with
 |nil=>rfl
 |cons a _ b=>rw[BK,BK,b]
theorem Av.ok(S:Sg E ss Z F H)(a:Av ss Z F H v s)(b:∀l,C6 ss Z l->l∉A):Ok (E3 A F H) F H s (some (some v))/\∀o l,¬ BD s o l:=by
 cases s with
 |is p=>exact⟨⟨v,rfl,a⟩,λ_ _ z=>z⟩
 |sq tp xs=>
  cases tp with
  |true=>exact⟨⟨v,rfl,a⟩,λ_ _ z=>z⟩
  |false=>obtain⟨l,vs,rfl,n,h,r⟩:=a;exact⟨⟨l,vs,rfl,⟨b l n,B0⟩,h,r⟩,λ_ _ z=>z⟩
 |raw P=>exact⟨⟨v,rfl,a⟩,λ_ _ z=>z⟩
 |any=>exact a.elim
 |own xs=>exact a.elim
 |AG=>exact a.elim
 |ow lt t=>exact a.elim
theorem Sg.P2(S:Sg E ss Z F H){l:List Slot}(a:Hl ss Z F H vs l):Sg (E3 [] F H) l (vs.map some) F H:=by
 have nn:∀{p:Prop}(a:Addr),a∈([]:List Addr)->p:=λa h=>absurd h B0;refine⟨⟨S.fh,A8.refl _,λ_ _ _ e=>e,λ_ _ e=>.inl e,λa h=>nn a h,λa h=>nn a h,λa h=>nn a h,λa h=>nn a h,λa h=>nn a h,λa h=>nn a h⟩,by rw[AU];exact a.len,λi s hi=>?_,λi j s u l CB hi d ms c=>?_⟩
 .obtain⟨v,b,q⟩:=a.at hi;rw[Am,b];exact(q.ok S λ_ _ h=>absurd h B0).1
 .obtain⟨v,b,q⟩:=a.at hi;exact(q.ok S (A:=[]) λ_ _ h=>absurd h B0).2 _ _ ms
theorem Sg.m9(S:Sg E ss Z F H){p:Addr}(hi:ss[i0]?=some .AG)(e:Z[i0]?=some (some (.ref p))){l:List Slot}(a:Hl ss Z F H vs l):Sg (E3 [p] F H) (.AG::l) ((V.ref p::vs).map some) F H:=by
 obtain⟨t,g,fp,_,b⟩:=S.ok i0 _ hi;rw[e]at g;cases g;have f:∀l,C6 ss Z l->l∉[p]:=λl n h=>by
  have:l=p:=by simpa using h
  subst this;exact n i0 hi e
 have one:∀a,a∈[p]->a=p:=λa h=>by simpa using h
 have nn:∀{p:Prop}(a:Addr),a∈([]:List Addr)->p:=λa h=>absurd h B0;refine⟨⟨S.fh,A8.refl _,λ_ _ _ e=>e,λ_ _ e=>.inl e,λa h=>(one a h)▸b,λa h=>(one a h)▸fp,λa h=>?_,λa h=>nn a h,λa h=>nn a h,λa h=>nn a h⟩,by rw[AU,BK,BK];rw[a.len],λi s hi=>?_,λi j s u c CB hi r ms k=>?_⟩
 .rw[one a h];obtain⟨_,_,q,_⟩:=b;show H p≠none;rw[q];simp
 .cases i with
  |zero=>simp at hi;subst hi;exact⟨p,rfl,fp,.inr (by simp),b⟩
  |succ i=>
   obtain⟨v,d,q⟩:=a.at (i:=i) (s:=s) (by simpa using hi)
   have:((V.ref p::vs).map some)[i+1]?=some (some v):=by rw[Bs,List.getElem?_cons_succ,Am,d];rfl
   rw[this];exact(q.ok S f).1
 .have z:∀(i:Nat)s o c,(Slot.AG::l)[i]?=some s->BD s o c->i=0:=λi s o c h m=>by
   cases i with
   |zero=>rfl
   |succ i=>
    obtain⟨v,d,q⟩:=a.at (i:=i) (s:=s) (by simpa using h)
    exact((q.ok S f).2 _ _ m).elim
  exact absurd ((z i s _ _ hi ms).trans (z j u _ _ r k).symm) CB
theorem Sg.back(S:Sg E ss Z F H)(d:∀a,a∈A->∃i:Nat,ss[i]?=some .AG/\Z[i]?=some (some (.ref a)))(f:Fin (E3 A F H) F' H'):Mv E ss Z F H F' H':=by
 refine S.step f.f0 f.fh (λa o n e=>f.keep a o ⟨λh=>?_,B0⟩ e) f.fresh λi l hi e=>?_
 .obtain⟨i,c,b⟩:=d a h;exact n i c b
 .by_cases q:l∈A
  .exact f.Co l q
  .exact BR.keep (S.Et hi e) λo e=>f.keep l o ⟨q,B0⟩ e
theorem wp_call(h:Wa ss t λl=>∃k',pre l (.is k')/\∀p,k' p->k p):Wp ss (CZ (Al pre) [] E0 t) k:=⟨λE Z F H Q S q=>
 h.go E Z F H _ S λvs l F1 H1 b a⟨k',hp,kk⟩=>by
  rw[E8];refine⟨l,.is k',F1,[],hp,b.st.P2 a,λv F' H' f⟨p,r,kp⟩=>?_⟩;exact q v p F' H' (b.trans (b.st.back (λ_ h=>absurd h B0) f)) r (kk p kp)⟩
theorem bN{k:List PV->Prop}(h:Wa ss t λl=>∃k',pre l (.new k')/\∀xs,k' xs->k xs):Wn ss (CZ (Al pre) [] E0 t) k:=⟨λE Z F H Q S q=>
 h.go E Z F H _ S λvs l F1 H1 b a⟨k',hp,kk⟩=>by
  rw[E8];refine⟨l,.new k',F1,[],hp,b.st.P2 a,λv F' H' f⟨l,vs,xs,e,g,d,Eu,r,c⟩=>?_⟩;subst e;exact q l vs xs F' H' (b.trans (b.st.back (λ_ h=>absurd h B0) f)) g (b.none d) Eu r (kk xs c)⟩
theorem rl(hi:ss[i]?=some .AG)(h:Wa ss t λl=>∃k',pre (.AG::l) (.is k')/\∀p,k' p->k p):Wp ss (CZ (Al pre) [] E0 (Ab (BX i) t)) k:=⟨λE Z F H Q S q=>by
 obtain⟨p,e,_⟩:=S.ok i _ hi;refine⟨_,e,h.go E Z F H _ S λvs l F1 H1 b a⟨k',hp,kk⟩=>?_⟩;show Al pre ((V.ref p::vs)++[]) H1 Q E0;rw[E8];refine⟨.AG::l,.is k',F1,[p],hp,b.st.m9 hi e a,λv F' H' f⟨pv,r,kp⟩=>?_⟩;exact q v pv F' H' (b.trans (b.st.back (A:=[p]) (λa h=>⟨i,hi,(show a=p from by simpa using h)▸e⟩) f)) r (kk pv kp)⟩
theorem Sg.grown(S:Sg E ss Z F H)(n:Nat):Sg E (ss++List.replicate n .any) (Z++List.replicate n none) F H:=by
 have g:∀(i:Nat)s,(ss++List.replicate n .any)[i]?=some s->s≠.any->ss[i]?=some s/\(Z++List.replicate n none)[i]?=Z[i]?:=λi s e hs=>by
  by_cases h:i<ss.length
  .rw[Dd h]at e;rw[Dd (by rw[<- S.len];exact h)];exact⟨e,rfl⟩
  .rw[FD (by omega),o5]at e;split at e
   .exact absurd (BI e).symm hs
   .cases e
 refine⟨S.toFin,by simp[S.len],λi s e=>?_,λi j s u l CB hi m ms f=>?_⟩
 .cases s with
  |any=>trivial
  |_=>obtain⟨a,b⟩:=g i _ e (by simp);rw[b];exact S.ok i _ a
 .have ns:s≠.any:=by rintro rfl;cases ms
  have k:u≠.any:=by rintro rfl;cases f
  obtain⟨a,b⟩:=g i s hi ns;obtain⟨c,d⟩:=g j u m k;rw[b]at ms;rw[d]at f;exact S.BL i j s u l CB a c ms f
end
section
variable{pre:Pre}{k:PV->Prop}
noncomputable def P4(E:Ent0):Ent:=⟨E,λ_ _ _ _ _ _ _ _ _ d=>d.elim⟩
theorem ZHq{N:List Str}{n:Nat}{t:TS}(h:Al pre vs H Q X)(b:∀ss R,pre ss R->ss.length=n)
  (hw:∀ss R,pre ss R->Ws (ss++List.replicate (N.length - n) .any) t (λ_=>∃k,R=.is k/\k .AB) R):t { nx:=λ_ H'=>Q .AB H',rt:=Q } (L2.start N vs) H:=by
 obtain⟨ss,R,F,A,hp,S,q⟩:=h;have e:vs.length=n:=by have:=S.len;rw[AU]at this;rw[<- this];exact b ss R hp
 unfold L2.start;rw[e];refine(hw ss R hp).go (P4 (E3 A F H)) _ _ F H (S.grown _) (λAA σ' F' H'⟨k,e,a⟩S' _=>?_) λv F' H' f ok=>q v F' H' f ok;subst e;exact q .AB F' H' S'.toFin ⟨.AB,.AB,a⟩
theorem ZEX{n:Nat}(a:∀ss R,pre ss R->ss.length=n)(h:Al pre vs H Q X):vs.length=n:=by
 obtain⟨ss,R,F,A,hp,S,q⟩:=h;have:=S.len;rw[AU]at this;rw[<- this];exact a ss R hp
end
end Fz
namespace Lw
open L2
variable{Ek acc l ns ss:List Str}{r x:Str}{H H':Hp}{t:Addr}{g j:Int}
theorem O6:∀l:List Nat,¬ l<l
 | [],h=>by simp at h
 |a::r,h=>by
  rw[ak]at h;rcases h with h|⟨_,h⟩
  .omega
  .exact O6 r h
theorem R8:∀{a b c:List Nat},a<b->b<c->a<c
 |_,[],_,h,_=>by simp at h
 |_,_::_,[],_,h=>by simp at h
 | [],_::_,_::_,_,_=>by simp
 |a::r,b::s,c::t,h,h'=>by
  rw[ak]at h h' ⊢;rcases h with h|⟨rfl,h⟩
  .rcases h' with h'|⟨rfl,h'⟩
   .left;omega
   .left;exact h
  .rcases h' with h'|⟨rfl,h'⟩
   .left;exact h'
   .right;exact⟨rfl,R8 h h'⟩
theorem i8:∀a b:List Nat,a<b∨a=b∨b<a
 | [],[]=>.inr (.inl rfl)
 | [],_::_=>.inl (by simp)
 |_::_,[]=>.inr (.inr (by simp))
 |a::r,b::s=>by
  rw[ak,ak];rcases ZIV a b with h|rfl|h
  .exact .inl (.inl h)
  .rcases i8 r s with h|rfl|h
   .exact .inl (.inr ⟨rfl,h⟩)
   .exact .inr (.inl rfl)
   .exact .inr (.inr (.inr ⟨rfl,h⟩))
  .exact .inr (.inr (.inl h))
abbrev IA(a b:Str):Prop:=a.cps.toList<b.cps.toList
theorem SI(a b:Str):IA a b∨a=b∨IA b a:=by
 rcases i8 a.cps.toList b.cps.toList with h|h|h
 .exact .inl h
 .exact .inr (.inl (ZAZ h))
 .exact .inr (.inr h)
abbrev Up(ss:List Str):Prop:=ss.Pairwise IA
theorem Kz(h:Up ss):ss.Nodup:=by
 refine List.Pairwise.imp (λ{a b}(DM:IA a b)(e:a=b)=>?_) h;subst e;exact O6 _ DM
theorem mM:∀(l:List Str)(p:Str),risingS p l=true->(∀x∈l,¬ IA x p)/\l.Pairwise λa b=>¬ IA b a
 | [],p,_=>⟨λx hx=>absurd hx (by simp),.nil⟩
 |y::r,p,h=>by
  have h1:(!ltCps y.cps.toList p.cps.toList && risingS y r)=true:=h;rw[FC,ltCps_eq]at h1;have c:¬ IA y p:=by
   intro z;rw[rg z]at h1;exact absurd h1.1 (by decide)
  obtain⟨h2,d⟩:=mM r y h1.2;refine⟨λx hx=>?_,List.pairwise_cons.mpr ⟨λx hx=>h2 x hx,d⟩⟩;rcases List.mem_cons.mp hx with rfl|hx
  .exact c
  .intro z;rcases SI y p with q|q|q
   .exact c q
   .exact h2 x hx (q▸z)
   .exact h2 x hx (R8 z q)
theorem UO(h:sortedS l=true):l.Pairwise λa b=>¬ IA b a:=by
 cases l with
 |nil=>exact .nil
 |cons x r=>
  obtain⟨h1,h2⟩:=mM r x h;exact List.pairwise_cons.mpr ⟨h1,h2⟩
theorem Tw(h:sortedS l=true)(nd:l.Nodup):Up l:=by
 have w:=UO h;have q:=List.Pairwise.and w nd;refine q.imp λ{a b}DM=>?_;rcases SI a b with z|z|z
 .exact z
 .exact absurd z DM.2
 .exact absurd z DM.1
theorem Pj:∀{as bs:List Str},Up as->Up bs->(∀x,x∈as↔x∈bs)->as=bs
 | [],[],_,_,_=>rfl
 | [],b::bs,_,_,h=>absurd ((h b).mpr CV) (by simp)
 |a::as,[],_,_,h=>absurd ((h a).mp CV) (by simp)
 |a::as,b::bs,ha,hb,h=>by
  obtain⟨a1,a2⟩:=List.pairwise_cons.mp ha;obtain⟨c,d⟩:=List.pairwise_cons.mp hb;have e:a=b:=by
   rcases List.mem_cons.mp ((h a).mp CV)with z|z
   .exact z
   .rcases List.mem_cons.mp ((h b).mpr CV)with y|y
    .exact y.symm
    .exact absurd (R8 (a1 b y) (c a z)) (O6 _)
  subst e
  congr 1
  refine Pj a2 d λx=>⟨λhx=>?_,λhx=>?_⟩
  .rcases List.mem_cons.mp ((h x).mp (Ck _ hx))with z|z
   .exact absurd (z▸a1 x hx) (O6 _)
   .exact z
  .rcases List.mem_cons.mp ((h x).mpr (Ck _ hx))with z|z
   .exact absurd (z▸c x hx) (O6 _)
   .exact z
theorem Rw:∀{as bs:List Str},as.Nodup->(∀x∈as,x∈bs)->as.length<=bs.length
 | [],_,_,_=>CH _
 |a::as,bs,nd,h=>by
  obtain⟨h1,h2⟩:=List.nodup_cons.mp nd;have b:=h a CV;have q:=Rw (bs:=bs.erase a) h2 λx hx=>(U9 (λe:x=a=>h1 (by rw[<- e];exact hx))).mpr (h x (Ck _ hx));have e:=ax b;have p:=o8 b;simp only[BK];omega
theorem bj:∀{as bs:List Str},as.Nodup->(∀x∈as,x∈bs)->bs.length=as.length->bs.Nodup
 | [],bs,_,_,hl=>by
  have e:bs=[]:=List.length_eq_zero_iff.mp (by simpa using hl)
  rw[e];exact Nd
 |a::as,bs,nd,h,hl=>by
  obtain⟨h1,h2⟩:=List.nodup_cons.mp nd;have b:=h a CV;have d:bs.length=as.length+1:=by simpa using hl
  have sub:∀x∈as,x∈bs.erase a:=λx hx=>(U9 (λe:x=a=>h1 (by rw[<- e];exact hx))).mpr (h x (Ck _ hx));have e:=ax b;have q:=bj (bs:=bs.erase a) h2 sub (by omega);have p:=List.perm_cons_erase b;rw[p.nodup_iff,b5];refine⟨λc=>?_,q⟩;have r:=Rw (as:=a::as) (bs:=bs.erase a) nd λx hx=>by
   rcases List.mem_cons.mp hx with rfl|hx
   .exact c
   .exact sub x hx
  simp only[BK]at r;omega
theorem yq{k:Str}:k∈FI acc x↔k∈acc∨k=x:=by
 unfold FI
 by_cases h:acc.any (· == x)=true
 .rw[sZ h];refine⟨.inl,λq=>q.elim id λe=>?_⟩;obtain⟨y,a,b⟩:=List.any_eq_true.mp h;have:y=x:=by simpa using b
  rw[e,<- this];exact a
 .rw[sN h];simp
theorem Xs:∀(l acc:List Str),acc.Nodup->(l.foldl FI acc).Nodup/\∀k,k∈l.foldl FI acc↔k∈acc∨k∈l
 | [],acc,h=>⟨h,λk=>by simp⟩
 |x::r,acc,h=>by
  have hn:(FI acc x).Nodup:=by
   unfold FI
   by_cases c:acc.any (· == x)=true
   .rw[sZ c];exact h
   .rw[sN c];exact SJ h λa=>c (List.any_eq_true.mpr ⟨x,a,by simp⟩)
  obtain⟨h1,h2⟩:=Xs r (FI acc x) hn;refine⟨h1,λk=>?_⟩;rw[aq,h2 k,yq,E9,or_assoc]
theorem ZDP(ss:List Str):(dd ss).Nodup:=(Xs ss [] Nd).1
theorem ZH2(ss:List Str)(k:Str):k∈dd ss↔k∈ss:=by
 have q:=(Xs ss [] Nd).2 k;refine(show(k∈dd ss↔_)from q).trans ⟨λz=>z.elim (λy=>absurd y (by simp)) id,.inr⟩
theorem k6(l:List Str)(k:Str):l.any (· == k)=true↔k∈l:=by
 rw[ZIC];exact⟨λ⟨y,a,e⟩=>by
   have:y=k:=by simpa using e
   rw[<- this];exact a,λh=>⟨k,h,by simp⟩⟩
theorem eC{ts:List Str}(c:ts.length=(dd ss).length)(b:∀k,(dd ss).any (· == k)=true↔k∈ts)(hs:sortedS ts=true):(ss=ts)↔Up ss:=by
 have nd:ts.Nodup:=bj (ZDP ss) (λx hx=>(b x).mp ((k6 _ _).mpr hx)) c;have a:=Tw hs nd;constructor
 .rintro rfl;exact a
 .intro us;exact Pj us a λx=>by rw[<- b x,k6,ZH2]
theorem ZBr:∀(as bs:List Str),Dp (as.map V.str) (bs.map V.str)=decide (as=bs):=by
 intro as bs
 by_cases a:as.length=bs.length
 .rw[Kd (by simpa using a),NY,Hg,decide_eq_true_iff]
  constructor
  .intro h;refine ni a λi h1 h2=>?_;have q:=h i (by simpa using h1)
   have b:(as.map V.str)[i]?=some (.str as[i]):=by rw[Am,B7 h1];rfl
   have d:(bs.map V.str)[i]?=some (.str bs[i]):=by rw[Am,B7 h2];rfl
   rw[Kb b,Kb d]at q;have c:(as[i] == bs[i])=true:=q
   simpa using c
  .rintro rfl i hi;have h1:i<as.length:=by simpa using hi
   have b:(as.map V.str)[i]?=some (.str as[i]):=by rw[Am,B7 h1];rfl
   rw[Kb b];show(as[i] == as[i])=true;simp
 .rw[Ks (by simpa using a),uz]
  rintro rfl;exact a rfl
noncomputable def Cn:List Str:=["none","ahead","all"]
noncomputable def Hr(ss:List Str):Bool:=decide (Up ss)
def Ho(ns ss:List Str):Bool:=ss.all λx=>decide (x∈ns)
noncomputable def JS(n:Nat)(g:Int):Bool:=decide (0<=g) && decide (g<=(n:Int))
def Fp(ns:List Str)(r:Str)(g:Int)(ss:List Str):Bool:=decide (r∈Cn) && (JS ns.length g && (Hr ss && Ho ns ss))
def OY(K:ZJR):Sp:=λvs H Q _=>∃(a:Addr)(tp:Bool)(ns:List Str)(g:Int),vs=[.ref a,.int g]/\CQ K tp H a (ns.map V.str)/\Q (.bl (JS ns.length g)) H
def Ry(K:ZJR):Sp:=λvs H Q _=>∃(a:Addr)(tp:Bool)(ns:List Str)(c:Addr)(ss:List Str),vs=[.ref a,.ref c]/\CQ K tp H a (ns.map V.str)/\AD K H c (ss.map V.str)/\ss.length<64/\∀H',A8 H H'->Q (.bl (Hr ss && Ho ns ss)) H'
def LoopAt(K:ZJR)(H:Hp)(t:Addr)(r:Str)(g:Int)(ss:List Str):Prop:=∃c,AD K H t [.str r,.int g,.ref c]/\AD K H c (ss.map V.str)
theorem LoopAt.same{K:ZJR}(s:A8 H H')(h:LoopAt K H t r g ss):LoopAt K H' t r g ss:=by
 obtain⟨c,h1,h2⟩:=h;exact⟨c,s.Jf h1,s.Jf h2⟩
def dS(K:ZJR):Sp:=λvs H Q _=>∃(a:Addr)(tp:Bool)(ns:List Str)(t:Addr)(r:Str)(g:Int)(ss:List Str),vs=[.ref a,.ref t]/\CQ K tp H a (ns.map V.str)/\LoopAt K H t r g ss/\ss.length<64/\∀H',A8 H H'->Q (.bl (Fp ns r g ss)) H'
theorem ZFa(ns ss:List Str):((ss.map V.str).filter λ_=>true).map (λv=>V.bl (DI v (ns.map V.str)))=(ss.map λx=>decide (x∈ns)).map V.bl:=by
 rw[gx,Hi,Hi];refine U8 λx _=>?_;show V.bl _=V.bl _;rw[J8]
theorem cW(c:0<=j)(h1:j<3):∃r,Be (Cn.map V.str) j=some (.str r)/\r∈Cn:=by
 obtain⟨x,a,b,_⟩:=QM (ns:=Cn) c h1;exact⟨x,a,b⟩
def Gv(ss:List Str)(x:Str):Bool:=decide (x∈ss)
def Cp(ns:List Str)(g:Nat)(ss:List Str):List Str:=(ns.drop g).filter (Gv ss)++(ns.take g).filter (Gv ss)
theorem ZB1(ns:List Str)(g:Nat)(ss:List Str):(ns.drop g++ns.take g).filter (Gv ss)=Cp ns g ss:=Lz ..
theorem PM{g:Nat}:x∈Cp ns g ss↔x∈ns/\x∈ss:=by
 unfold Cp;rw[FY,Nc,Nc];have e:(x∈ns)↔(x∈ns.take g∨x∈ns.drop g):=by
  rw[<- FY,Hj]
 unfold Gv;simp only[decide_eq_true_eq];rw[e];constructor
 .rintro(⟨a,b⟩|⟨a,b⟩)
  .exact⟨.inr a,b⟩
  .exact⟨.inl a,b⟩
 .rintro⟨a|a,b⟩
  .exact .inr ⟨a,b⟩
  .exact .inl ⟨a,b⟩
theorem ma(ns ss:List Str):((ns.map V.str).filter (λv=>DI v (ss.map V.str))).map (λv=>v)=(ns.filter (Gv ss)).map V.str:=by
 rw[o9,nr]
 congr 1
 apply ZIG;intro y _;show DI (.str y) (ss.map V.str)=Gv ss y;rw[J8];rfl
def Iy(H:Hp)(t:Addr)(r:Str)(g:Int)(ss:List Str):Prop:=∃c,H t=some (.tup [.str r,.int g,.ref c])/\H c=some (.tup (ss.map V.str))
theorem Iy.at{K:ZJR}(h:Iy H t r g ss):LoopAt K H t r g ss:=by
 obtain⟨c,a,b⟩:=h;exact⟨c,AD.of a,AD.of b⟩
theorem Iy.same(s:A8 H H')(h:Iy H t r g ss):Iy H' t r g ss:=by
 obtain⟨c,a,b⟩:=h;exact⟨c,s _ _ a,s _ _ b⟩
structure Cw (ns:List Str) (r:Str) (g:Int) (ss:List Str):Prop where
 rule:r∈Cn
 g0:0<=g
 g1:g<=(ns.length:Int)
 up:Up ss
 sub:∀x∈ss,x∈ns
theorem Cw.Fp(h:Cw ns r g ss):Fp ns r g ss=true:=by
 unfold Lw.Fp JS Hr Ho;rw[rg h.rule,rg h.g0,rg h.g1,rg h.up,Lu,Lu,Lu,Lu,Hg];intro x hx;exact rg (h.sub x hx)
theorem Wc(x:Str)(h:Up ss):Up (wo ss x):=h.filter _
theorem yl(nd:ss.Nodup)(h:x∈ss):(wo ss x).length+1=ss.length:=by
 have e:=TF h;have h1:=nR h;have h2:=mY h nd;have:wo ss x=ss.take (ss.idxOf x)++ss.drop (ss.idxOf x+1):=by
  conv=>lhs;rw[e]
  rw[gf,mz,Mz h1,Mz h2]
 rw[this]
 conv=>rhs;rw[e]
 simp only[B2,BK];omega
theorem Cw.step(h:Cw ns r g ss)(hx:x∈ns):Cw ns r ((ns.idxOf x:Nat)+1) (wo ss x):=by
 have b:ns.idxOf x<ns.length:=List.idxOf_lt_length_iff.mpr hx;exact⟨h.rule,by omega,by omega,Wc x h.up,λy a=>h.sub y (KS.mp a).1⟩
def gY(K:ZJR):Sp:=λvs H Q _=>∃(a:Addr)(tp:Bool)(ns:List Str)(t:Addr)(r:Str)(g:Int)(ss:List Str),vs=[.ref a,.ref t]/\CQ K tp H a (ns.map V.str)/\LoopAt K H t r g ss/\ns.length<=1000/\KI H Q (ns.filter (Gv ss))
def jM(K:ZJR):Sp:=λvs H Q _=>∃(a:Addr)(tp:Bool)(ns:List Str)(t:Addr)(r:Str)(g:Int)(ss:List Str),vs=[.ref a,.ref t]/\CQ K tp H a (ns.map V.str)/\LoopAt K H t r g ss/\ss.length<64/\Fp ns r g ss=true/\∀H',A8 H H'->Q .AB H'
def cQ(K:ZJR):Sp:=λvs H Q _=>∃(a:Addr)(tp:Bool)(ns:List Str)(t:Addr)(r:Str)(g:Nat)(ss:List Str),vs=[.ref a,.ref t]/\H a=some (BN tp (ns.map V.str))/\LoopAt K H t r g ss/\ss.length<64/\Fp ns r g ss=true/\ns.length<=1000/\KI H Q (Cp ns g ss)
def Ub(K:ZJR):Sp:=λvs H Q _=>∃(c:Addr)(ss:List Str)(x:Str),vs=[.ref c,.str x]/\AD K H c (ss.map V.str)/\ss.length<=1000/\∀l H',H l=none->A8 H H'->H' l=some (.tup ((wo ss x).map V.str))->Q (.ref l) H'
def Ca(ns:List Str)(g:Nat)(ss:List Str):Option Str:=(Cp ns g ss).head?
def LF(ns:List Str)(g:Nat)(ss:List Str):Nat:=match Ca ns g ss with
 |none=>g
 |some x=>ns.idxOf x+1
def JW(ns:List Str)(g:Nat)(ss:List Str):List Str:=match Ca ns g ss with
 |none=>ss
 |some x=>wo ss x
theorem ZFQ{g:Nat}(h:Cw ns r g ss):Cw ns r (LF ns g ss:Nat) (JW ns g ss)/\(JW ns g ss).length<=ss.length - 1:=by
 unfold LF JW;cases e:Ca ns g ss with
 |none=>
  refine⟨h,?_⟩;have a:Cp ns g ss=[]:=List.head?_eq_none_iff.mp e;have:ss=[]:=by
   cases hs:ss with
   |nil=>rfl
   |cons x q=>
    have hx:x∈ss:=by rw[hs];exact CV
    have:x∈Cp ns g ss:=PM.mpr ⟨h.sub x hx,hx⟩;rw[a]at this;simp at this
  show ss.length<=ss.length - 1;rw[this];exact Ag _
 |some x=>
  have hx:x∈Cp ns g ss:=ZIR e;obtain⟨h1,h2⟩:=PM.mp hx;have:=yl (Kz h.up) h2;exact⟨h.step h1,by show(wo ss x).length<=_;omega⟩
theorem Nu:Be ((x::Ek).map V.str) 0=some (.str x):=Ng (by decide) rfl
structure Ent where
 a:Addr
 ns:List Str
 t:Addr
 r:Str
 g:Nat
 ss:List Str
end Lw
namespace L2
section
variable{X:Cx}
def q8(K:ZJR):R2:=λx y H Q=>∃a b xs ys,x=.ref a/\y=.ref b/\AD K H a xs/\AD K H b ys/\ys≠[]/\xs.length+ys.length<=sizeLine/\∀p H',A8 H H'->AD K H' p (xs++ys)->Q (.ref p) H'
theorem lC:BB X (binaryOp .Add) (q8 X.K):=by
 intro Zo s Z H x y v u Q I i g h;obtain⟨a,b,xs,ys,rfl,rfl,k,d,t,r,q⟩:=h
 by_cases hx:xs=[]
 .subst hx;cases i;cases g;obtain⟨A4,l,m,_⟩:=I.tuple k;obtain⟨Bk,z,p2,_⟩:=I.tuple d;obtain⟨⟨cls,dd,data,sl⟩,ho,j,n,hd⟩:=id m;obtain⟨⟨w,Qt,f,LW⟩,Lc,L0,o,c⟩:=id p2;simp only at j hd L0 c;subst j hd L0 c;have e:A4=[]:=l.Sw.mpr rfl;exact concat_meets ⟨_,ho,rfl⟩ ⟨_,Lc,rfl⟩ ZBO seq_tuple_add oP oN (oM _ _)
   (tuple_addW0 a b A4.toArray Bk.toArray n o dd Qt sl LW (by simp[e])) ⟨ho,Lc,⟨.ref b,H,I,rfl,q b H (A8.refl _) d⟩⟩
 .exact zv Zo s Z H _ _ _ _ Q I i g ⟨a,b,xs,ys,rfl,rfl,k,d,hx,r,λe=>absurd e t,λ_ p hp=>q p _ (Aa hp _) (AD.of AJ)⟩
end
end L2
namespace Lw
open L2
variable{ns rs ss:List Str}{r x:Str}{g i:Nat}{d:AQ}
def Fo(i g:Nat):Nat:=if i<g then g+1 else g
def Em(p g:Nat):Nat:=if p<g then g - 1 else g
def AQ.gap(ns:List Str)(g:Nat):AQ->Nat
 | .put _ i=>Fo i g
 | .take x=>Em (ns.idxOf x) g
 | .move x i=>Fo i (Em (ns.idxOf x) g)
 | .turn _ _=>g
def Ep:List Str->Str->List Str
 | [],x=>[x]
 |y::r,x=>if IA x y then x::y::r else y::Ep r x
def Di(r:Str)(g i:Nat):Bool:=if decide (V.str r=V.str "all")=true then true else if decide (V.str r=V.str "ahead")=true then decide ((g:Int)<=(i:Int))else false
def AQ.Fj(r:Str)(g:Nat)(ss:List Str):AQ->List Str
 | .put x i=>if Di r g i=true then Ep ss x else ss
 | .take x=>wo ss x
 | .move _ _=>ss
 | .turn _ _=>ss
theorem OO{x k:Str}:∀{ss:List Str},k∈Ep ss x↔k=x∨k∈ss
 | []=>by simp[Ep]
 |y::r=>by
  unfold Ep;split
  .simp
  .rw[E9,OO (ss:=r),E9];constructor
   .rintro(h|h|h)
    .exact .inr (.inl h)
    .exact .inl h
    .exact .inr (.inr h)
   .rintro(h|h|h)
    .exact .inr (.inl h)
    .exact .inl h
    .exact .inr (.inr h)
theorem dA{x:Str}:∀{ss:List Str},(Ep ss x).length=ss.length+1
 | []=>rfl
 |y::r=>by
  unfold Ep;split
  .rfl
  .rw[BK,dA (ss:=r)];rfl
theorem Tg{x:Str}:∀{ss:List Str},Up ss->x∉ss->Up (Ep ss x)
 | [],_,_=>List.pairwise_singleton _ _
 |y::r,h,hx=>by
  obtain⟨h1,h2⟩:=List.pairwise_cons.mp h;unfold Ep;split
  .next c=>exact List.pairwise_cons.mpr ⟨λk a=>(List.mem_cons.mp a).elim (λe=>by rw[e];exact c) λa=>R8 c (h1 k a),h⟩
  .next c=>
   refine List.pairwise_cons.mpr ⟨λk a=>?_,Tg h2 λb=>hx (Ck _ b)⟩;rcases OO.mp a with rfl|a
   .rcases SI k y with z|z|z
    .exact absurd z c
    .exact absurd (by rw[z];exact CV) hx
    .exact z
   .exact h1 k a
theorem Z9{ts:List Str}(hp:ts.Perm (ss++[x]))(hs:sortedS ts=true)(h:Up ss)(hx:x∉ss):ts=Ep ss x:=by
 have nd:ts.Nodup:=hp.nodup_iff.mpr (SJ (Kz h) hx);refine Pj (Tw hs nd) (Tg h hx) λk=>?_;rw[hp.mem_iff,OO,FY,List.mem_singleton];exact or_comm
theorem Cw.len{g:Int}(h:Cw ns r g ss):ss.length<=ns.length:=Rw (Kz h.up) h.sub
theorem Cw.led(h:Cw ns r g ss)(ok:d.Ok 40 ns)(nd:ns.Nodup):Cw (d.done ns) r (d.gap ns g:Nat) (d.Fj r g ss):=by
 have g1:=h.g1;cases d with
 |put x i=>
  obtain⟨h1,h2,o,n⟩:=ok;refine⟨h.rule,by omega,?_,?_,?_⟩
  .show((Fo i g:Nat):Int)<=((ins ns x i).length:Int);rw[RU];unfold Fo;split <;> omega
  .show Up (if Di r g i=true then Ep ss x else ss)
   split
   .exact Tg h.up λj=>h2 (h.sub x j)
   .exact h.up
  .intro k c;show k∈ins ns x i;rw[TH];have f:k∈(if Di r g i=true then Ep ss x else ss):=c
   split at f
   .rcases OO.mp f with z|z
    .exact .inl z
    .exact .inr (h.sub k z)
   .exact .inr (h.sub k f)
 |take x=>
  have hx:x∈ns:=ok;have l:=O7 hx nd;have m:ns.idxOf x<ns.length:=List.idxOf_lt_length_iff.mpr hx;refine⟨h.rule,by omega,?_,Wc x h.up,λk c=>?_⟩
  .show((Em (ns.idxOf x) g:Nat):Int)<=((wo ns x).length:Int);unfold Em;split <;> omega
  .obtain⟨a,b⟩:=KS.mp (show k∈wo ss x from c);exact KS.mpr ⟨h.sub k a,b⟩
 |move x i=>
  obtain⟨hx,hi⟩:=ok;have l:=O7 hx nd;have m:ns.idxOf x<ns.length:=List.idxOf_lt_length_iff.mpr hx;refine⟨h.rule,by omega,?_,h.up,λk c=>?_⟩
  .show((Fo i (Em (ns.idxOf x) g):Nat):Int)<=((ins (wo ns x) x i).length:Int);rw[RU];unfold Fo Em;split <;> split <;> omega
  .show k∈ins (wo ns x) x i;rw[TH,KS]
   by_cases e:k=x
   .exact .inl e
   .exact .inr ⟨h.sub k c,e⟩
 |turn lo hi=>
  obtain⟨h1,h2⟩:=ok;refine⟨h.rule,by omega,?_,h.up,λk c=>(e9 h1).mpr (h.sub k c)⟩;show((g:Nat):Int)<=((FZ ns lo hi).length:Int);rw[iV h1 h2];exact g1
def gn:Sp:=λvs H Q _=>∃(g i:Nat),vs=[.int g,.int i]/\Q (.int (Fo i g:Nat)) H
def bJ:Sp:=λvs H Q _=>∃(g p:Nat),vs=[.int g,.int p]/\Q (.int (Em p g:Nat)) H
def m6:Sp:=λvs H Q _=>∃(a t:Addr)(ns:List Str)(g:Nat)(d:AQ),vs=[.ref a,.int g,.ref t]/\H a=some (.lst (ns.map V.str))/\H t=some (.tup d.vals)/\d.Ok 40 ns/\∀H',A8 H H'->Q (.int (d.gap ns g:Nat)) H'
def kE:Sp:=λvs H Q _=>∃(t:Addr)(r:Str)(g i:Nat)(c:Addr),vs=[.ref t,.int i]/\H t=some (.tup [.str r,.int g,.ref c])/\Q (.bl (Di r g i)) H
theorem YN{g:Int}(h:Cw ns r g ss)(ok:d.Ok 40 ns):∀x i,d=.put x i->x∉ss:=by
 rintro x i rfl a;exact ok.2.1 (h.sub x a)
theorem xP(p g:Nat):((g:Int) - (if decide ((p:Int)<(g:Int))=true then 1 else 0))=((Em p g:Nat):Int):=by
 unfold Em
 by_cases h:p<g
 .rw[sZ h,sZ (rg (by omega))];omega
 .rw[sN h,sN (by simp;omega)];omega
theorem vo(i g:Nat):((g:Int)+(if decide ((i:Int)<(g:Int))=true then 1 else 0))=((Fo i g:Nat):Int):=by
 unfold Fo
 by_cases h:i<g
 .rw[sZ h,sZ (rg (by omega))];omega
 .rw[sN h,sN (by simp;omega)];omega
noncomputable def AQ.kind:AQ->Str
 | .put _ _ => "put"
 | .take _ => "take"
 | .move _ _ => "move"
 | .turn _ _ => "turn"
theorem HD(d:AQ):Be d.vals 0=some (.str d.kind):=by cases d <;> rfl
noncomputable def AQ.P8(ns:List Str)(g:Nat):AQ->Nat
 | .take x=>Em (ns.idxOf x) g
 | .move x _=>Em (ns.idxOf x) g
 |_=>g
theorem yC(g:Nat)(ok:d.Ok 40 ns)(h:DI (.str d.kind) [.str "take",.str "move"]=true):∃x,Be d.vals 1=some (.str x)/\x∈ns/\d.P8 ns g=Em (ns.idxOf x) g:=by
 cases d with
 |put x i=>(simp only[AQ.kind]at h;exact absurd h (by decide +kernel))
 |take x=>exact⟨x,rfl,ok,rfl⟩
 |move x i=>exact⟨x,rfl,ok.1,rfl⟩
 |turn lo hi=>(simp only[AQ.kind]at h;exact absurd h (by decide +kernel))
theorem wO(g:Nat)(h:¬ DI (.str d.kind) [.str "take",.str "move"]=true):d.P8 ns g=g:=by
 cases d with
 |put x i=>rfl
 |take x=>exact absurd (by simp only[AQ.kind];decide +kernel) h
 |move x i=>exact absurd (by simp only[AQ.kind];decide +kernel) h
 |turn lo hi=>rfl
theorem ZG3(g:Nat)(h:DI (.str d.kind) [.str "put",.str "move"]=true):∃i:Nat,Be d.vals 2=some (.int i)/\d.gap ns g=Fo i (d.P8 ns g):=by
 cases d with
 |put x i=>exact⟨i,rfl,rfl⟩
 |take x=>(simp only[AQ.kind]at h;exact absurd h (by decide +kernel))
 |move x i=>exact⟨i,rfl,rfl⟩
 |turn lo hi=>(simp only[AQ.kind]at h;exact absurd h (by decide +kernel))
theorem ZBh(g:Nat)(h:¬ DI (.str d.kind) [.str "put",.str "move"]=true):d.gap ns g=d.P8 ns g:=by
 cases d with
 |put x i=>exact absurd (by simp only[AQ.kind];decide +kernel) h
 |take x=>rfl
 |move x i=>exact absurd (by simp only[AQ.kind];decide +kernel) h
 |turn lo hi=>rfl
noncomputable def AQ.SD(ss:List Str):AQ->List Str
 | .take x=>wo ss x
 |_=>ss
theorem rJ{r:Str}{g:Nat}(h:decide (V.str d.kind=V.str "take")=true):∃x,Be d.vals 1=some (.str x)/\d.SD ss=wo ss x:=by
 cases d with
 |take x=>exact⟨x,rfl,rfl⟩
 |_=>
  have h':=uq h;injection h' with h2
  exact absurd h2 (by simp only[AQ.kind];decide +kernel)
theorem jB(h:¬ decide (V.str d.kind=V.str "take")=true):d.SD ss=ss:=by
 cases d with
 |take x=>exact absurd (by simp only[AQ.kind];decide +kernel) h
 |_=>rfl
theorem Vu(h:decide (V.str d.kind=V.str "put")=true):∃x i,d=.put x i:=by
 cases d with
 |put x i=>exact⟨x,i,rfl⟩
 |_=>
  have h':=uq h;injection h' with h2
  exact absurd h2 (by simp only[AQ.kind];decide +kernel)
theorem kg(h:¬ decide (V.str d.kind=V.str "put")=true):d.Fj r g ss=d.SD ss:=by
 cases d with
 |put x i=>exact absurd (by simp only[AQ.kind];decide +kernel) h
 |_=>rfl
theorem Xt(h:Di r g i=true):AQ.Fj r g ss (.put x i)=Ep ss x:=by show(if _ then _ else _)=_;rw[sZ h]
theorem Z0(h:Di r g i=false):AQ.Fj r g ss (.put x i)=ss:=by show(if _ then _ else _)=_;rw[sN (by rw[h];decide)]
theorem XZ(h:decide (V.str d.kind=V.str "take")=true):∃x,d=.take x:=by
 cases d with
 |take x=>exact⟨x,rfl⟩
 |_=>
  have h':=uq h;injection h' with h2
  exact absurd h2 (by simp only[AQ.kind];decide +kernel)
theorem ZBv(h:decide (V.str d.kind=V.str "move")=true):∃x i,d=.move x i:=by
 cases d with
 |move x i=>exact⟨x,i,rfl⟩
 |_=>
  have h':=uq h;injection h' with h2
  exact absurd h2 (by simp only[AQ.kind];decide +kernel)
theorem r9(h1:¬ decide (V.str d.kind=V.str "put")=true)(h2:¬ decide (V.str d.kind=V.str "take")=true)(a:¬ decide (V.str d.kind=V.str "move")=true):∃lo hi,d=.turn lo hi:=by
 cases d with
 |put x i=>exact absurd (by simp only[AQ.kind];decide +kernel) h1
 |take x=>exact absurd (by simp only[AQ.kind];decide +kernel) h2
 |move x i=>exact absurd (by simp only[AQ.kind];decide +kernel) a
 |turn lo hi=>exact⟨lo,hi,rfl⟩
theorem ZHa(h1:¬ decide (V.str d.kind=V.str "put")=true)(h2:¬ decide (V.str d.kind=V.str "take")=true):d.Fj r g ss=ss:=by
 rw[kg h1,jB h2]
noncomputable def AQ.v1:AQ->V
 | .put x _=>.str x
 | .take x=>.str x
 | .move x _=>.str x
 | .turn lo _=>.int lo
theorem lZ(d:AQ):Be d.vals 1=some d.v1:=by cases d <;> rfl
theorem ZEI(y:Str)(d:AQ):RX (.str y) d.v1=true:=by cases d <;> rfl
noncomputable def AQ.made(ns:List Str):AQ->List Str
 | .put x _=>wo ns x
 | .take x=>wo ns x
 | .move x _=>wo ns x
 | .turn _ _=>ns
theorem pj(ns:List Str)(d:AQ):((ns.map V.str).filter (I0 d.v1)).map (λv=>v)=(d.made ns).map V.str:=by
 cases d with
 |turn lo hi=>exact ZBz ns lo
 |_=>exact Pd ns _
theorem uT(ns:List Str)(d:AQ):(d.made ns).length<=ns.length:=by
 cases d with
 |turn lo hi=>exact Ag _
 |_=>exact HB _ _
theorem ZBd(h:decide (V.str d.kind=V.str "turn")=true):∃lo hi,d=.turn lo hi:=by
 cases d with
 |turn lo hi=>exact⟨lo,hi,rfl⟩
 |_=>
  have h':=uq h;injection h' with h2
  exact absurd h2 (by simp only[AQ.kind];decide +kernel)
theorem ZCc(h:¬ (!decide (V.str d.kind=V.str "take"))=true):d.done ns=d.made ns:=by
 have h':decide (V.str d.kind=V.str "take")=true:=by simpa using h
 obtain⟨x,rfl⟩:=XZ h';rfl
theorem tL(ok:d.Ok 40 ns)(nd:ns.Nodup)(h1:¬ decide (V.str d.kind=V.str "turn")=true)(h2:(!decide (V.str d.kind=V.str "take"))=true):
  ∃(x:Str)(i:Nat),Be d.vals 2=some (.int i)/\d.v1=.str x/\i<=(d.made ns).length/\d.done ns=ins (d.made ns) x i:=by
 cases d with
 |put x i=>
  refine⟨x,i,rfl,rfl,?_,?_⟩
  .show i<=(wo ns x).length;rw[Mz ok.2.1];exact ok.2.2.1
  .show ins ns x i=ins (wo ns x) x i;rw[Mz ok.2.1]
 |take x=>exact absurd h2 (by simp only[AQ.kind];decide +kernel)
 |move x i=>
  refine⟨x,i,rfl,rfl,?_,rfl⟩;show i<=(wo ns x).length;have:=O7 ok.1 nd;have:=ok.2;omega
 |turn lo hi=>exact absurd (by simp only[AQ.kind];decide +kernel) h1
def Qx:Sp:=λvs H Q _=>∃r:Str,vs=[.str r]/\r∈Cn/\Q .AB H
theorem NN(nd:rs.Nodup)(h:rs[g]?=some x):rs.idxOf x=g:=by
 obtain⟨hg,e⟩:=List.getElem?_eq_some_iff.mp h;have hx:x∈rs:=DQ h;have a:rs.idxOf x<rs.length:=List.idxOf_lt_length_iff.mpr hx;have d:rs[rs.idxOf x]=x:=av a;have b:=List.pairwise_iff_getElem.mp nd;rcases ZIV (rs.idxOf x) g with c|c|c
 .exact absurd (d.trans e.symm) (b _ _ a hg c)
 .exact c
 .exact absurd (e.trans d.symm) (b _ _ hg a c)
end Lw
namespace L2
section
variable{X:Cx}{Zo:ZJS}{Z:St}{H2:Hp}{s2:Shared}{elt iter:Expr}{x z:Str}{px pz tp pos:Pos}{tk:Nat}{scope:Scope}{Ah:List Str}{js:List Nat}{te:TE}{J:It}{fp:List Addr}{it:Addr}
 {tn:Nat->Heap->Prop}
end
end L2
namespace Fz
open L2 Lw
variable{E:Ent0}{ss:List Slot}{Z:L2.St}{F F' H H':Hp}{js:List Nat}{ta tb te:TE}{nx:List Slot->Prop}{R:AX}{i j:Nat}{ns:List Int}{wi:TI}{α β:Type}{xs:List PV}
section
variable[Xw]
variable{K:ZJR}{k:PV->Prop}
theorem Sg.Ss(S:Sg E ss Z F H){p:Addr}(hi:ss[i]?=some .AG)(e:Z[i]?=some (some (.ref p)))(s:BF p H H'):Mv E ss Z F H F H':=by
 obtain⟨g,b,fp,_,f⟩:=S.ok i _ hi;rw[e]at b;cases b;refine S.step (A8.refl _) (λa o q=>s.same a o (Dr q fp) (S.fh a o q)) (λa o n q=>s.same a o (λz=>?_) q) (λa o q=>.inl q) λj l c d=>?_
 .rw[z]at n;exact n i hi e
 .by_cases z:l=p
  .rw[z];exact s.AG
  .exact BR.keep (S.Et c d) λo q=>s.same l o z q
theorem cZ(hi:ss[i]?=some .AG)(h:Wp ss te λx=>∃m,x=.int m/\0<m/\m<10 ^ 18/\∀r:Int,0<=r->r<m->k (.int r)):Wp ss (CZ Ki [] E0 (Ab (BX i) (Ab te BC))) k:=⟨λE Z F H Q S q=>by
 obtain⟨p,e,_⟩:=S.ok i _ hi;refine⟨_,e,h.go E Z F H _ S λv x F1 H1 a r⟨m,f,d,Nq,kk⟩=>?_⟩;subst f;cases r.inv;exact⟨p,m,rfl,a.st.Et hi e,d,Nq,λr H2 c b s=>q _ _ F1 H2 (a.trans (a.st.Ss hi e s)) (.int r) (kk r c b)⟩⟩
theorem gU{sp:Sp}{k:List PV->Prop}(GB:sp=X5)(hi:ss[i]?=some .AG)(h:Wp ss te λx=>∃m,x=.int m/\1<=m/\m<=100/\∀ns:List Str,(ns.length:Int)<=m->(∀x∈ns,Nm x)->ns.Nodup->k (ns.map PV.str)):Wn ss (CZ sp [] E0 (Ab (BX i) (Ab te BC))) k:=⟨λE Z F H Q S q=>by
 subst GB;obtain⟨p,e,_⟩:=S.ok i _ hi;refine⟨_,e,h.go E Z F H _ S λv x F1 H1 a r⟨m,j,d,Nq,kk⟩=>?_⟩;subst j;cases r.inv;refine⟨p,m,rfl,a.st.Et hi e,d,Nq,λl H2 ns b s Cz f g nd=>?_⟩;have c:=a.st.Ss hi e s;exact q l _ _ F1 H2 (a.trans c) (a.st.BM b) (a.none b) Cz (Lg ns) (kk ns f g nd)⟩
def Dm(K:ZJR)(ns:List Int):Hp->V->Prop:=λF v=>∃a,v=.ref a/\AK K F a (ns.map V.int)
theorem aQ(K:ZJR)(ns:List Int):∀(v:V)(F F':Hp),A8 F F'->Dm K ns F v->Dm K ns F' v:=λv F F' s AV=>by obtain⟨a,e,h⟩:=AV;exact⟨a,e,by
 rcases h with(h|⟨o,h⟩)|h
 .exact .inl (.inl (s _ _ h))
 .exact .inl (.inr ⟨o,s _ _ h⟩)
 .exact .inr h⟩
theorem uI(hi:ss[i]?=some (.raw (Dm K ns)))(h:k (.int ns.length)):Wp ss (DL (WW K) (Ab (BX i) BC)) k:=⟨λE Z F H Q S q=>by
 obtain⟨v,e,⟨a,c,b⟩,st⟩:=S.ok i _ hi;subst c;obtain⟨d,ea,Iq⟩:=aQ K ns _ F H S.fh ⟨a,rfl,b⟩;cases ea;refine⟨_,e,a,_,rfl,.inl Iq,?_⟩;rw[AU];exact q _ _ F H (.refl S) (.int _) h⟩
theorem Z2(hi:ss[i]?=some (.raw (Dm K ns)))(h:Wp ss te λx=>∃m,x=.int m/\0<=m/\m<=1000/\nx (ss.set j .AG)):Ws ss (GC (CZ (Y2 K) [] E0 (Ab (BX i) (Ab te BC))) (Du j)) nx R:=⟨λE D Z F H S hn y=>by
 obtain⟨v,e,⟨a,q,z⟩,st⟩:=S.ok i _ hi;subst q;refine⟨_,e,h.go E Z F H _ S λv x F1 H1 c r⟨m,t,o,Nq,kk⟩=>?_⟩;subst t;cases r.inv;obtain⟨w,d,f,_⟩:=c.st.ok i _ hi;rw[e]at d;cases d;obtain⟨A,ea,Iq⟩:=aQ K ns _ F1 H1 c.st.fh f;cases ea;refine⟨a,ns,m,rfl,Iq,o,Nq,λp H2 hp s g=>?_⟩;have n:=c.st.grow s;exact hn _ _ F1 H2 kk (n.st.setG ⟨p,rfl,c.st.BM hp,.inl (c.st.DK hp),g⟩ λl e b u _ hu k=>by cases e;exact c.st.Mu hu hp k) c.ff⟩
end
section
variable{K:ZJR}
theorem ZGu{N:List Str}{vs:List V}{Q:VK}{X:XK}{t:TS}(h:OK K vs H Q X)(hw:∀ns:List Int,ns.length<=63->Ws (.raw (Dm K ns)::List.replicate (N.length - 1) .any) t (λ_=>False) (.is λp=>p=.bl true)):t { nx:=λ_ H'=>Q .AB H',rt:=Q } (L2.start N vs) H:=by
 obtain⟨a,ns,rfl,c,b,q⟩:=h;have S:Sg (E3 [] H H) [.raw (Dm K ns)] [some (.ref a)] H H:=by
  have nn:∀{p:Prop}(a:Addr),a∈([]:List Addr)->p:=λa h=>absurd h B0;refine⟨⟨A8.refl _,A8.refl _,λ_ _ _ e=>e,λ_ _ e=>.inl e,λa h=>nn a h,λa h=>nn a h,λa h=>nn a h,λa h=>nn a h,λa h=>nn a h,λa h=>nn a h⟩,rfl,λi s hi=>?_,λi j s u l CB hi d ms=>?_⟩
  .cases i with
   |zero=>cases hi;exact⟨_,rfl,⟨a,rfl,c⟩,aQ K ns _⟩
   |succ i=>simp at hi
  .cases i with
   |zero=>cases hi;cases ms
   |succ i=>simp at hi
 refine(hw ns b).go (P4 (E3 [] H H)) _ _ H H (S.grown _) (λ_ _ _ _ h=>h.elim) λv F' H' f ok=>?_;obtain⟨p,r,rfl⟩:=ok;cases r.inv;exact q H'
end
section
variable[Xw]
variable{K:ZJR}{k:PV->Prop}
theorem Wi.mono{k k':List PV->Prop}(h:Wi ss wi k)(i:∀xs,k xs->k' xs):Wi ss wi k':=⟨λE Z F H R S q=>h.go E Z F H R S λJ xs F' H' m s kk=>q J xs F' H' m s (i xs kk)⟩
theorem Jg{tt:TT}{k:List PV->Prop}(c:α->PV)(f:α->Bool)(g:α->PV)
  (h:Wi ss wi λxs=>∃ns:List α,xs=ns.map c/\ns.length<=100000/\(∀x∈ns,Wt (E4 js ss++[.is (c x)]) tt λb=>b=f x)/\(∀x∈ns,f x=true->Wp (E4 js ss++[.is (c x)]) te λp=>p=g x)/\k ((ns.filter f).map g))
  (inj:∀x y,c x=c y->x=y) (nd:js.Nodup:=by decide) (np:SV js ss=true:=by rfl):Wn ss (IG wi js tt te) k:=by
 by_cases hα:Nonempty α
 .obtain⟨l⟩:=hα;have inv:∀p:PV,∃x:α,∀y,c y=p->y=x:=λp=>by
   by_cases q:∃y,c y=p
   .obtain⟨y,a⟩:=q;exact⟨y,λz i=>inj _ _ (i.trans a.symm)⟩
   .exact⟨l,λy a=>absurd ⟨y,a⟩ q⟩
  let d:PV->α:=λp=>Classical.choose (inv p)
  have hd:∀x,d (c x)=x:=λx=>(Classical.choose_spec (inv (c x)) x rfl).symm;refine VL (λp=>f (d p)) (λp=>g (d p)) (h.mono λxs⟨ns,e,i,h1,h2,kk⟩=>?_) nd np;subst e;refine⟨by rw[AU];exact i,λx hx=>?_,λx hx j=>?_,?_⟩
  .obtain⟨y,a,rfl⟩:=List.mem_map.mp hx;rw[hd];exact h1 y a
  .obtain⟨y,a,rfl⟩:=List.mem_map.mp hx;rw[hd]at j ⊢;exact h2 y a j
  .have e:((ns.map c).filter λp=>f (d p)).map (λp=>g (d p))=(ns.filter f).map g:=by
    rw[nr,Hi]
    congr 1
    .funext x;show g (d (c x))=g x;rw[hd]
    .congr 1;funext x;show f (d (c x))=f x;rw[hd]
   rw[e];exact kk
 .refine VL (λ_=>true) (λp=>p) (h.mono λxs⟨ns,e,i,h1,h2,kk⟩=>?_) nd np;have m:ns=[]:=by
   cases ns with
   |nil=>rfl
   |cons x r=>exact absurd ⟨x⟩ hα
  subst m;subst e;exact⟨by simp,λx hx=>absurd hx (by simp),λx hx=>absurd hx (by simp),kk⟩
theorem str_inj:∀x y:Str,PV.str x=PV.str y->x=y:=λ_ _ e=>by injection e
theorem dZ:∀x y:Nat,PV.int (x:Int)=PV.int (y:Int)->x=y:=λ_ _ e=>by injection e with e;omega
theorem ZGV(h:Wp ss ta λp=>∃x,p=.str x/\Wq ss tb λ_ ys=>∃ns:List Str,ys=ns.map PV.str/\k (.bl (decide (x∈ns)))):Wp ss (Bv (Eo K false) ta tb) k:=jJ h
theorem ZA8(h:Wp ss ta λp=>∃x,p=.str x/\Wq ss tb λ_ ys=>∃ns:List Str,ys=ns.map PV.str/\k (.bl (!decide (x∈ns)))):Wp ss (Bv (Eo K true) ta tb) k:=jJ h
theorem km(h:Wq ss ta λtp xs=>∃ns:List Str,xs=ns.map PV.str/\Wq ss tb λBS ys=>BS=tp/\∃ms:List Str,ys=ms.map PV.str/\k (.bl (decide (ns=ms)))):Wp ss (Bv (MG K false) ta tb) k:=dQ h
theorem ZBL(h:Wq ss ta λtp xs=>∃ns:List Str,xs=ns.map PV.str/\Wq ss tb λBS ys=>BS=tp/\∃ms:List Str,ys=ms.map PV.str/\k (.bl (!decide (ns=ms)))):Wp ss (Bv (MG K true) ta tb) k:=dQ h
theorem Wq.mono{k k':Bool->List PV->Prop}(h:Wq ss te k)(i:∀b xs,k b xs->k' b xs):Wq ss te k':=⟨λE Z F H Q S q=>h.go E Z F H Q S λv tp xs F' H' m s kk=>q v tp xs F' H' m s (i tp xs kk)⟩
theorem Wo.mono{t:TO}{k k':Option Int->Prop}(h:Wo ss t k)(i:∀o,k o->k' o):Wo ss t k':=⟨λE Z F H Q S q=>h.go E Z F H Q S λo F' H' m kk=>q o F' H' m (i o kk)⟩
theorem w8{tl th:TO}{k:Bool->List PV->Prop}(h:Wq ss te λtp xs=>Wo ss tl λlo=>Wo ss th λhi=>k tp (Dw xs lo hi)):Wz ss (OL (aN K) te tl th) k:=
 HF (ZZ (h.mono λtp xs h=>h.mono λlo h=>h.mono λhi h=>by
  cases tp
  .exact⟨_,.inl ⟨rfl,h⟩⟩
  .exact⟨_,.inr ⟨rfl,h⟩⟩))
theorem oY(c:α->β)(xs:List α)(lo hi:Option Int):Dw (xs.map c) lo hi=(Dw xs lo hi).map c:=by
 unfold Dw;rw[AU,Nb,Na]
theorem bU(c:α->β)(xs ys:List α):xs.map c++ys.map c=(xs++ys).map c:=by rw[Bx]
theorem kR(xs:List α)(g:Nat):Dw xs none (some (g:Int))=xs.take g:=by
 unfold Dw;rw[HT.Ml,HT.Rn,U5,Qe];rcases Qc g xs.length with h|h
 .rw[Kk h]
 .rw[Qd h,IU,Qb h]
theorem XB(xs:List α)(g:Nat):Dw xs (some (g:Int)) none=xs.drop g:=by
 unfold Dw;rw[HT.Ml,HT.Rn];rcases Qc g xs.length with h|h
 .rw[Kk h,Qb (by rw[Ct];omega)]
 .rw[Qd h,nh,ZIF h];simp
theorem Tu(xs:List α)(lo hi:Option Int):(Dw xs lo hi).length<=xs.length:=by
 unfold Dw;rw[Bi,Ct];omega
theorem V0{ns:List Str}(h:i<ns.length):L2.Be (ns.map PV.str) (i:Int)=some (.str (ns.getD i "")):=by
 have e:(ns.map PV.str)[i]?=some (.str (ns.getD i "")):=by rw[Am,B7 h,ES,B7 h];rfl
 exact L2.RN e
variable{ys:List PV}
theorem qP(h:Wq ss ta λ_ xs=>∃ns:List Str,xs=ns.map PV.str/\Wp ss tb λp=>∃x,p=.str x/\x∈ns/\k (.int (ns.idxOf x:Nat))):Wp ss (CZ LZ [] E0 (Ab ta (Ab tb BC))) k:=⟨λE Z F H Q S q=>
 h.go E Z F H _ S λv tp xs F1 H1 b sv⟨ns,e,h2⟩=>h2.go E Z F1 H1 _ b.st λv2 p2 F2 H2 a d⟨x,f,hx,kk⟩=>by
  subst e;subst f;cases d.inv;obtain⟨l,vs,rfl,c,r⟩:=(sv.mv a).seq a.st;rw[r.strs]at c;exact⟨l,tp,ns,x,rfl,c,hx,q _ _ F2 H2 (b.trans a) (.int _) kk⟩⟩
noncomputable def Ll(xs:List PV):List PV:=(List.range xs.length).map λi:Nat=>.tup [.int (i:Int),xs.getD i .AB]
theorem Ro(xs:List PV):(Ll xs).length=xs.length:=by simp[Ll]
theorem cy{x:PV}(h:xs[i]?=some x):(Ll xs)[i]?=some (.tup [.int (i:Int),x]):=by
 have hi:i<xs.length:=(List.getElem?_eq_some_iff.mp h).1;unfold Ll;rw[Am,o4 hi];show some (PV.tup [PV.int (i:Int),xs.getD i PV.AB])=_;rw[ES,h];rfl
theorem lg{p:PV}(h:(Ll xs)[i]?=some p):∃x,xs[i]?=some x/\p=.tup [.int (i:Int),x]:=by
 have hi:i<xs.length:=by have:=(List.getElem?_eq_some_iff.mp h).1;rwa [Ro]at this
 have e:=B7 hi;refine⟨xs[i],e,?_⟩;rw[cy e]at h;exact(BI h).symm
theorem ZCF{y:PV}(hi:ss[i]?=some (.own xs))(m:ss[j]?=some (.own ys))(CB:i≠j)(w:ys[ys.length - 1]?=some y)(h:Wp (ss.set j (.own ys.dropLast)) te λp=>xs.length<=99999/\nx ((ss.set j (.own ys.dropLast)).set i (.own (xs++[.tup [y,p]])))):
  Ws ss (Je (QR K "list" P6 (BX i) (Ab (Nn (Ab (XW K "list" WQ (BX j)) (Ab te BC))) BC))) nx R:=⟨λE D Z F H S hn I=>by
 obtain⟨l,vs,e,L,J,B,r⟩:=S.ok i _ hi;obtain⟨l2,ws,f,A,z,f3,c⟩:=S.ok j _ m;obtain⟨u,hu,s⟩:=c.get w;have g:AW F ws.dropLast ys.dropLast:=by
  rw[ZID,ZID,c.length];exact c.take _
 refine⟨_,e,.inl ⟨rfl,_,AK.of B⟩,_,f,.inl ⟨rfl,_,AK.of f3⟩,l2,ws,u,rfl,rfl,f3,by rw[c.length];exact hu,?_⟩;have C:=S.put m f A z g;refine h.go E Z F _ _ C λv p F1 H1 d q⟨t,kk⟩=>?_;refine⟨(by show 2<=sizeLine;decide),λa x=>?_⟩;have b:=d.st.alloc x (.tup [u,v]);have o:(ss.set j (.own ys.dropLast))[i]?=some (.own xs):=by rw[Br (BG CB)];exact hi
 obtain⟨G,CJ,n,EE,CP,Pu,k⟩:=b.st.ok i _ o;rw[e]at n;cases n;refine⟨l,CJ,_,rfl,rfl,Pu,Mb (by rw[k.length];exact t),?_⟩;have rt:Rep (upd F1 a (.tup [u,v])) (.ref a) (.tup [y,p]):=.tup AJ (.cons (s.mono (d.ff.trans b.ff)) (.one (q.mono b.ff)));exact hn _ Z _ _ kk (b.st.put o e EE CP (k.append (.one rt))) (d.ff.trans b.ff)⟩
theorem ZDV{k:List PV->Prop}(c:α->PV)(g:α->PV)
  (h:Wi ss wi λxs=>∃ns:List α,xs=ns.map c/\ns.length<=100000/\(∀x∈ns,Wp (E4 js ss++[.is (c x)]) te λp=>p=g x)/\k (ns.map g))
  (inj:∀x y,c x=c y->x=y) (nd:js.Nodup:=by decide) (np:SV js ss=true:=by rfl):Wn ss (IG wi js Mg te) k:=
 Jg c (λ_=>true) g (h.mono λxs AV=>by obtain⟨ns,e,a,h1,kk⟩:=AV;exact⟨ns,e,a,λx hx=>Za rfl,λx hx _=>h1 x hx,by rw[List.filter_eq_self.mpr (λ_ _=>rfl)];exact kk⟩) inj nd np
noncomputable def ZR(a:Str×Str):PV:=.tup [.str a.1,.str a.2]
theorem wJ{r:List V->Hp->VK->Prop}(c:r=λxs H Q=>(∃i,xs=[.int i]/\Q (.int i) H)∨∃k,xs=[.bl k]/\Q (.int (if k then 1 else 0)) H)(h:Wp ss te λp=>∃b,p=.bl b/\k (.int (if b then 1 else 0))):Wp ss (DL r (Ab te BC)) k:=⟨λE Z F H Q S q=>
 h.go E Z F H _ S λv p F1 H1 a r AV=>by
  obtain⟨b,e,kk⟩:=AV;subst c;subst e;cases r.inv;exact .inr ⟨b,rfl,q _ _ F1 H1 a (.int _) kk⟩⟩
end
theorem Lj{c A B:Prop}[Decidable c](h:c)(a:A):if c then A else B:=by rw[sZ h];exact a
theorem yy{a b:List Str}(p:a.Perm b)(d:sortedS a=true)(c:sortedS b=true):a=b:=by
 refine List.Perm.eq_of_pairwise (le:=λa b=>¬ IA b a) (λx y _ _ h1 h2=>?_) (UO d) (UO c) p;rcases SI x y with z|z|z
 .exact absurd z h2
 .exact z
 .exact absurd z h1
end Fz
namespace Fz
open L2 Lw
variable{d:AQ}{t:Addr}
section
variable[Xw]
variable{E:Ent0}{ss:List Slot}{Z:L2.St}{F H F' H':Hp}{K:ZJR}{js:List Nat}{ta tb tc te:TE}{k:PV->Prop}{nx:List Slot->Prop}{R:AX}{xs ys:List PV}
def dP:AQ->PV
 | .put x i=>.tup [.str "put",.str x,.int i]
 | .take x=>.tup [.str "take",.str x]
 | .move x i=>.tup [.str "move",.str x,.int i]
 | .turn lo hi=>.tup [.str "turn",.int lo,.int hi]
theorem u9(h:F t=some (.tup d.vals)):Rep F (.ref t) (dP d):=by
 cases d with
 |put x i=>exact .tup h (.cons (.str _) (.cons (.str _) (.one (.int _))))
 |take x=>exact .tup h (.cons (.str _) (.one (.str _)))
 |move x i=>exact .tup h (.cons (.str _) (.cons (.str _) (.one (.int _))))
 |turn lo hi=>exact .tup h (.cons (.str _) (.cons (.int _) (.one (.int _))))
theorem Qk{v:V}(r:Rep F v (dP d)):∃t,v=.ref t/\F t=some (.tup d.vals):=by
 cases d <;> (obtain⟨a,vs,rfl,h,b⟩:=r.inv;cases b.enc rfl;exact⟨a,rfl,h⟩)
theorem Sg.adopt(S:Sg E ss Z F H)(m:Mv E ss Z F H F H'){o:HO}(b:H t=none)(e:H' t=some o):Mv E ss Z F H (upd F t o) H':=by
 have fn:=S.BM b;refine S.step (Aa fn o) (λa u q=>?_) m.hh (λa u q=>?_) λi l hi c=>m.st.Et hi c
 .by_cases z:a=t
  .subst z;rw[AJ]at q;rw[<- q];exact e
  .rw[Af z]at q;exact m.st.fh a u q
 .by_cases z:a=t
  .subst z;exact .inr b
  .rw[Af z]at q;exact .inl q
theorem cY{i:Nat}(hi:ss[i]?=some .AG)(h:Wq ss ta λtp xs=>tp=false/\∃ns:List Str,xs=ns.map PV.str/\Wp ss tb λp=>∃m:Nat,p=.int m/\(∀x∈ns,Nm x)/\ns.length<=m/\1<=m/\m<=100/\∀d:AQ,d.Ok m ns->k (dP d)):
  Wp ss (CZ Z6 [] E0 (Ab (BX i) (Ab ta (Ab tb BC)))) k:=⟨λE Z F H Q S q=>by
 obtain⟨p,e,_⟩:=S.ok i _ hi;refine⟨_,e,h.go E Z F H _ S λv tp xs F1 H1 b sv⟨y,ns,ex,h2⟩=>h2.go E Z F1 H1 _ b.st λv2 p2 F2 H2 a f⟨m,A,o,j,h1,u,kk⟩=>?_⟩;subst y;subst ex;subst A;cases f.inv;obtain⟨l,vs,w,hn,c,r⟩:=sv.mv a;subst w;rw[r.strs]at c;refine⟨p,l,m,ns,rfl,a.st.Et hi e,c,λz=>hn i hi (z▸e),o,j,h1,u,λd t H3 n s B hd=>?_⟩;have g:=a.st.adopt (a.st.Ss hi e s) n B;exact q _ _ _ H3 (b.trans (a.trans g)) (u9 AJ) (kk d hd)⟩
theorem eR{k:List PV->Prop}(h:Wq ss ta λtp xs=>tp=false/\∃ns:List Str,xs=ns.map PV.str/\Wp ss tb λp=>∃d:AQ,p=dP d/\d.Ok 40 ns/\ns.length<=40/\ns.Nodup/\k ((d.done ns).map PV.str)):
  Wn ss (CZ WN [] E0 (Ab ta (Ab tb BC))) k:=⟨λE Z F H Q S q=>
 h.go E Z F H _ S λv tp xs F1 H1 c sv⟨e,ns,ex,h2⟩=>h2.go E Z F1 H1 _ c.st λv2 p2 F2 H2 b i⟨d,u,hd,m,nd,kk⟩=>by
  subst e;subst ex;subst u;obtain⟨l,vs,o,f,r⟩:=(sv.mv b).seq b.st;subst o;rw[r.strs]at f;obtain⟨t,e,n⟩:=Qk i;subst e;refine⟨l,t,ns,d,rfl,f,b.st.fh _ _ n,hd,m,nd,λa H3 g s w=>?_⟩;have j:=b.st.grow s;exact q a _ _ F2 H3 (c.trans (b.trans j)) (b.st.BM g) ((c.trans b).none g) w (Lg _) kk⟩
end
end Fz
namespace Fz
open L2 Lw
section
variable[Xw]
variable{E:Ent0}{ss:List Slot}{Z:L2.St}{F H F' H':Hp}{K:ZJR}{js:List Nat}{ta tb tc te:TE}{k:PV->Prop}{nx:List Slot->Prop}{R:AX}{xs ys:List PV}{P:Program}{w:World}
theorem ZGt{k:List PV->Prop}(h:Wq ss te λ_ xs=>∃ns:List Str,xs=ns.map PV.str/\ns.length<64/\∀ts:List Str,ts.length=(dd ns).length->(∀x,(dd ns).any (· == x)=true↔x∈ts)->sortedS ts=true->k (ts.map PV.str)):
  Wn ss (DL (cK P w) (Ab (DL (λxs H Q=>∃(p:Addr)(tp:Bool)(ss:List Str),xs=[.ref p]/\CQ K tp H p (ss.map V.str)/\ss.length<4000/\∀l,H l=none->Q (.ref l) (upd H l (Mn P w l (λk'=>(dd ss).any (· == k')) (dd ss).length))) (Ab te BC)) BC)) k:=⟨λE Z F H Q S q=>
 h.go E Z F H _ S λv tp xs F1 H1 d sv AV=>by
  obtain⟨ns,e,j,kk⟩:=AV;subst e;obtain⟨l,vs,rfl,g,r⟩:=sv.seq d.st;rw[r.strs]at g;refine⟨l,tp,ns,rfl,BN.sq g,by omega,λa n=>?_⟩;have c:=d.st.make n (Mn P w a (λk'=>(dd ns).any (· == k')) (dd ns).length)
  refine⟨a,_,_,rfl,AJ,IW (YD ns) j,λb ts f Cz m hs=>?_⟩;have i:=c.st.make f (.lst (ts.map V.str));exact q b _ _ F1 _ (d.trans (c.trans i)) (c.st.BM f) ((d.trans c).none f) AJ (Lg ts) (kk ts Cz m hs)⟩
end
end Fz
namespace Lw
open L2
variable{c t:Addr}{r:Str}{g:Int}{ss:List Str}
def dk:Sp:=λvs H Q _=>∃(a t:Addr)(tp:Bool)(ns:List Str)(g:Nat)(d:AQ),vs=[.ref a,.int g,.ref t]/\H a=some (BN tp (ns.map V.str))/\H t=some (.tup d.vals)/\d.Ok 40 ns/\Q (.int (d.gap ns g:Nat)) H
def Dz(H:Hp)(t c:Addr)(r:Str)(g:Int)(ss:List Str):Prop:=H t=some (.tup [.str r,.int g,.ref c])/\H c=some (.tup (ss.map V.str))
theorem Dz.h{H:Hp}(h:Dz H t c r g ss):Iy H t r g ss:=⟨c,h⟩
theorem Dz.same{H H':Hp}(s:A8 H H')(h:Dz H t c r g ss):Dz H' t c r g ss:=⟨s _ _ h.1,s _ _ h.2⟩
def fT:Sp:=λvs H Q _=>∃(tl td a:Addr)(r:Str)(g:Nat)(ss:List Str)(d:AQ),vs=[.ref tl,.ref td]/\Dz H tl a r g ss/\H td=some (.tup d.vals)/\ss.length<=60/\Up ss/\(∀x i,d=.put x i->x∉ss)/\
 ∀c H',(H c=none∨c=a)->A8 H H'->H' c=some (.tup ((d.Fj r g ss).map V.str))->Q (.ref c) H'
def Sd:Sp:=λvs H Q _=>∃(a tl td c:Addr)(tp:Bool)(ns:List Str)(r:Str)(g:Nat)(ss:List Str)(d:AQ),vs=[.ref a,.ref tl,.ref td]/\H a=some (BN tp (ns.map V.str))/\Dz H tl c r g ss/\H td=some (.tup d.vals)/\d.Ok 40 ns/\Cw ns r g ss/\ns.length<=40/\
 ∀t' b H',H t'=none->(H b=none∨b=c)->A8 H H'->Dz H' t' b r (d.gap ns g:Nat) (d.Fj r g ss)->Q (.ref t') H'
def XO:Sp:=λvs H Q _=>∃(a tl td c:Addr)(ns:List Str)(r:Str)(g:Nat)(ss:List Str)(d:AQ),vs=[.ref a,.ref tl,.ref td]/\H a=some (.lst (ns.map V.str))/\Dz H tl c r g ss/\H td=some (.tup d.vals)/\d.Ok 40 ns/\Cw ns r g ss/\ns.length<=40/\
 ∀t' b H',H t'=none->(H b=none∨b=c)->A8 H H'->Dz H' t' b r (d.gap ns g:Nat) (d.Fj r g ss)->Q (.ref t') H'
def fV(K:ZJR):Sp:=λvs H Q _=>∃(a:Addr)(tp:Bool)(ns:List Str)(t:Addr)(r:Str)(g:Nat)(ss:List Str)(x:Str),vs=[.ref a,.ref t,.str x]/\H a=some (BN tp (ns.map V.str))/\Iy H t r g ss/\ss.length<64/\x∈ns/\
 ∀t' b H',H t'=none->H b=none->A8 H H'->Dz H' t' b r ((ns.idxOf x:Nat)+1) (wo ss x)->Q (.ref t') H'
def Y6(H H':Hp)(t' t:Addr)(ns:List Str)(r:Str)(g:Nat)(ss:List Str):Prop:=
 (Cp ns g ss=[]/\H' t'=some (.tup [.AB,.ref t]))∨∃x Ek t2 a,Cp ns g ss=x::Ek/\H t2=none/\H a=none/\H' t'=some (.tup [.str x,.ref t2])/\Dz H' t2 a r ((ns.idxOf x:Nat)+1) (wo ss x)
def Rj(K:ZJR):Sp:=λvs H Q _=>∃(a:Addr)(tp:Bool)(ns:List Str)(t:Addr)(r:Str)(g:Nat)(ss:List Str),vs=[.ref a,.ref t]/\H a=some (BN tp (ns.map V.str))/\Iy H t r g ss/\ss.length<64/\Fp ns r g ss=true/\ns.length<=1000/\
 ∀t' H',H t'=none->A8 H H'->Y6 H H' t' t ns r g ss->Q (.ref t') H'
def VH:Sp:=λvs H Q _=>∃(a:Addr)(ns:List Str)(t:Addr)(r:Str)(g:Nat)(ss:List Str),vs=[.ref a,.ref t]/\H a=some (.lst (ns.map V.str))/\Iy H t r g ss/\ss.length<64/\ns.length<=1000/\
 ∀t' H',H t'=none->A8 H H'->Y6 H H' t' t ns r g ss->Q (.ref t') H'
def Qf(K:ZJR):Sp:=λvs H Q _=>∃(a:Addr)(tp:Bool)(ns:List Str)(r:Str),vs=[.ref a,.str r]/\CQ K tp H a (ns.map V.str)/\r∈Cn/\ns.length<64/\∀t c H' ts,H t=none->H c=none->A8 H H'->ts.Perm ns->sortedS ts=true->Dz H' t c r (0:Nat) ts->Q (.ref t) H'
end Lw
namespace Fz
open L2 Lw
variable{E:Ent0}{ss:List Slot}{Z:L2.St}{F F' F0 F1 H H' H0:Hp}{js m p:List Nat}{ta tb tc te ti:TE}{nx:List Slot->Prop}{R:AX}{n t u x y:OV}{o:HO}{v:V}{r:Str}{g i j:Nat}{cs ns:List Str}{a b c:Addr}{ps xs ys:List PV}{A:Around}{CJ vs ws:List V}{A4 Bk:List Value}{BS tp:Bool}{q:PV}{tr:TA}{us:List OV}{pre:Pre}
def DR(r:Str)(g:Nat)(ss:List Str):PV:=.tup [.str r,.int g,.tup (ss.map .str)]
section
variable[Xw]
variable{K:ZJR}{k:PV->Prop}
theorem Mv.adopt(m:Mv E ss Z F H F1 H')(S:Sg E ss Z F H){t:Addr}(c:H t=Option.none)(e:H' t=some o):Mv E ss Z F H (upd F1 t o) H':=by
 have b:A8 F1 (upd F1 t o):=λa u q=>by
  by_cases z:a=t
  .subst z;have w:=m.st.fh _ _ q;rw[e]at w;rw[AJ];exact w
  .rw[Af z];exact q
 refine S.step (m.ff.trans b) (λa u q=>?_) m.hh (λa u q=>?_) λi l hi d=>m.st.Et hi d
 .by_cases z:a=t
  .subst z;rw[AJ]at q;rw[<- q];exact e
  .rw[Af z]at q;exact m.st.fh a u q
 .by_cases z:a=t
  .subst z;exact .inr c
  .rw[Af z]at q;exact m.nn a u q
theorem Sy(h:Rep F v (DR r g cs)):∃t c,v=.ref t/\Dz F t c r g cs:=by
 obtain⟨_,_,rfl,e,q⟩:=h.inv;obtain⟨_,_,rfl,a,q⟩:=q.inv;obtain⟨_,_,rfl,b,q⟩:=q.inv;obtain⟨_,_,rfl,c,q⟩:=q.inv;cases q;cases a;cases b;obtain⟨_,_,rfl,d,f⟩:=c.inv;rw[f.strs]at d;exact⟨_,_,rfl,e,d⟩
theorem WS{t:Addr}(h:Dz F t c r g cs):Rep F (.ref t) (DR r g cs):=.tup h.1 (.cons (.str _) (.cons (.int _) (.one (.tup h.2 (Lg cs)))))
theorem Mv.Yf(m:Mv E ss Z F H F1 H')(S:Sg E ss Z F H){t j:Addr}(k:H t=Option.none)(d:H c=Option.none∨c=j)(l:F j=some o)(e:Dz H' t c r g cs):∃F2,Mv E ss Z F H F2 H'/\A8 F1 F2/\Rep F2 (.ref t) (DR r g cs):=by
 have b:∃F2,Mv E ss Z F H F2 H'/\A8 F1 F2/\F2 c=some (.tup (cs.map V.str)):=by
  rcases d with d|rfl
  .refine⟨_,m.adopt S d e.2,λa u q=>?_,AJ⟩
   by_cases z:a=c
   .subst z;have w:=m.st.fh _ _ q;rw[e.2]at w;rw[AJ];exact w
   .rw[Af z];exact q
  .refine⟨F1,m,A8.refl _,?_⟩;have w:=m.ff _ _ l;have f:=m.st.fh _ _ w;rw[e.2]at f;rw[w,<- f]
 obtain⟨F2,i,s2,L0⟩:=b;have h:A8 F2 (upd F2 t (.tup [.str r,.int g,.ref c])):=λa u q=>by
  by_cases z:a=t
  .subst z;have w:=i.st.fh _ _ q;rw[e.1]at w;rw[AJ];exact w
  .rw[Af z];exact q
 exact⟨_,i.adopt S k e.1,s2.trans h,WS ⟨AJ,h _ _ L0⟩⟩
theorem fS(h:Wq ss ta λtp xs=>∃ns:List Str,xs=ns.map PV.str/\Wp ss tb λp=>∃(r:Str)(g:Nat)(cs:List Str),p=DR r g cs/\Wp ss tc λp2=>∃d:AQ,p2=dP d/\d.Ok 40 ns/\Cw ns r g cs/\ns.length<=40/\k (DR r (d.gap ns g) (d.Fj r g cs))):
  Wp ss (CZ Sd [] E0 (Ab ta (Ab tb (Ab tc BC)))) k:=⟨λE Z F H Q S q=>
 h.go E Z F H _ S λv tp xs F1 H1 c sv⟨ns,ex,h2⟩=>h2.go E Z F1 H1 _ c.st λv2 p2 F2 H2 b n⟨r,g,cs,ep,u⟩=>u.go E Z F2 H2 _ b.st λz A F3 H3 a m⟨d,w,hd,gd,o,kk⟩=>by
  subst ex;subst ep;subst w;obtain⟨l,vs,rfl,f,i⟩:=(sv.mv (b.trans a)).seq a.st;rw[i.strs]at f;obtain⟨tl,y,rfl,e⟩:=Sy (n.mono a.ff);obtain⟨t,rfl,s⟩:=Qk m;refine⟨l,tl,t,y,tp,ns,r,g,cs,d,rfl,f,e.same a.st.fh,a.st.fh _ _ s,hd,gd,o,λt' B H4 FW HX s4 x=>?_⟩;obtain⟨F4,m4,_,j⟩:=(a.st.grow s4).Yf a.st FW HX e.2 x;exact q _ _ F4 H4 (c.trans (b.trans (a.trans m4))) j kk⟩
theorem ZDE(h:Wq ss ta λtp xs=>tp=false/\∃ns:List Str,xs=ns.map PV.str/\Wp ss tb λp=>∃(r:Str)(g:Nat)(cs:List Str),p=DR r g cs/\Wp ss tc λp2=>∃d:AQ,p2=dP d/\d.Ok 40 ns/\Cw ns r g cs/\ns.length<=40/\k (DR r (d.gap ns g) (d.Fj r g cs))):
  Wp ss (CZ XO [] E0 (Ab ta (Ab tb (Ab tc BC)))) k:=⟨λE Z F H Q S q=>
 h.go E Z F H _ S λv tp xs F1 H1 c sv⟨w,ns,ex,h2⟩=>h2.go E Z F1 H1 _ c.st λv2 p2 F2 H2 b n⟨r,g,cs,ep,u⟩=>u.go E Z F2 H2 _ b.st λA B F3 H3 a m⟨d,x,hd,gd,o,kk⟩=>by
  subst w;subst ex;subst ep;subst x;obtain⟨l,vs,rfl,f,i⟩:=(sv.mv (b.trans a)).seq a.st;rw[i.strs]at f;obtain⟨tl,z,rfl,e⟩:=Sy (n.mono a.ff);obtain⟨t,rfl,s⟩:=Qk m;refine⟨l,tl,t,z,ns,r,g,cs,d,rfl,f,e.same a.st.fh,a.st.fh _ _ s,hd,gd,o,λt' C H4 FW HX s4 y=>?_⟩;obtain⟨F4,m4,_,j⟩:=(a.st.grow s4).Yf a.st FW HX e.2 y;exact q _ _ F4 H4 (c.trans (b.trans (a.trans m4))) j kk⟩
noncomputable def LV(ns:List Str)(r:Str)(g:Nat)(cs:List Str):PV:=match Cp ns g cs with
 | []=>.tup [.AB,DR r g cs]
 |x::_=>.tup [.str x,DR r (ns.idxOf x+1) (wo cs x)]
theorem Mv.kX(m:Mv E ss Z F H F1 H')(S:Sg E ss Z F H){t t':Addr}(d:H t'=Option.none)(i:Dz F t c r g cs)(e:Y6 H H' t' t ns r g cs):∃F2,Mv E ss Z F H F2 H'/\Rep F2 (.ref t') (LV ns r g cs):=by
 rcases e with⟨f,e⟩|⟨x,Ek,t2,o,f,h2,n,e,l⟩
 .refine⟨_,m.adopt S d e,?_⟩;have b:=(m.adopt S d e).ff;unfold LV;rw[f];exact .tup AJ (.cons .AB (.one (WS (i.same b))))
 .have j:Dz H' t2 o r ((ns.idxOf x+1:Nat):Int) (wo cs x):=l;obtain⟨F2,h,_,k⟩:=m.Yf S h2 (.inl n) i.1 j;refine⟨_,h.adopt S d e,?_⟩;have b:A8 F2 (upd F2 t' (.tup [.str x,.ref t2])):=λa u q=>by
   by_cases z:a=t'
   .subst z;have w:=h.st.fh _ _ q;rw[e]at w;rw[AJ];exact w
   .rw[Af z];exact q
  unfold LV;rw[f];exact .tup AJ (.cons (.str _) (.one (k.mono b)))
theorem fH(h:Wq ss ta λtp xs=>∃ns:List Str,xs=ns.map PV.str/\Wp ss tb λp=>∃(r:Str)(g:Nat)(cs:List Str),p=DR r g cs/\Cw ns r g cs/\ns.length<=60/\k (LV ns r g cs)):
  Wp ss (CZ (Rj K) [] E0 (Ab ta (Ab tb BC))) k:=⟨λE Z F H Q S q=>
 h.go E Z F H _ S λv tp xs F1 H1 b sv⟨ns,ex,h2⟩=>h2.go E Z F1 H1 _ b.st λv2 p2 F2 H2 a j⟨r,g,cs,ep,gd,n,kk⟩=>by
  subst ex;subst ep;obtain⟨l,vs,rfl,e,f⟩:=(sv.mv a).seq a.st;rw[f.strs]at e;obtain⟨tl,o,rfl,c⟩:=Sy j;have d:=gd.len;refine⟨l,tp,ns,tl,r,g,cs,rfl,e,(c.same a.st.fh).h,by omega,gd.Fp,by omega,λt' H4 FW s4 m=>?_⟩;obtain⟨F4,m4,i⟩:=(a.st.grow s4).kX a.st FW c m;exact q _ _ F4 H4 (b.trans (a.trans m4)) i kk⟩
theorem ZF1(h:Wq ss ta λtp xs=>tp=false/\∃ns:List Str,xs=ns.map PV.str/\Wp ss tb λp=>∃(r:Str)(g:Nat)(cs:List Str),p=DR r g cs/\Cw ns r g cs/\ns.length<=60/\k (LV ns r g cs)):
  Wp ss (CZ VH [] E0 (Ab ta (Ab tb BC))) k:=⟨λE Z F H Q S q=>
 h.go E Z F H _ S λv tp xs F1 H1 b sv⟨m,ns,ex,h2⟩=>h2.go E Z F1 H1 _ b.st λv2 p2 F2 H2 a j⟨r,g,cs,ep,gd,o,kk⟩=>by
  subst m;subst ex;subst ep;obtain⟨l,vs,rfl,e,f⟩:=(sv.mv a).seq a.st;rw[f.strs]at e;obtain⟨tl,s,rfl,c⟩:=Sy j;have d:=gd.len;refine⟨l,ns,tl,r,g,cs,rfl,e,(c.same a.st.fh).h,by omega,by omega,λt' H4 FW s4 n=>?_⟩;obtain⟨F4,m4,i⟩:=(a.st.grow s4).kX a.st FW c n;exact q _ _ F4 H4 (b.trans (a.trans m4)) i kk⟩
theorem bz(h:Wq ss ta λtp xs=>∃ns:List Str,xs=ns.map PV.str/\Wp ss tb λp=>∃r:Str,p=.str r/\r∈Cn/\ns.length<64/\∀ts:List Str,ts.Perm ns->sortedS ts=true->k (DR r 0 ts)):
  Wp ss (CZ (Qf K) [] E0 (Ab ta (Ab tb BC))) k:=⟨λE Z F H Q S q=>
 h.go E Z F H _ S λv tp xs F1 H1 c sv⟨ns,ex,h2⟩=>h2.go E Z F1 H1 _ c.st λv2 p2 F2 H2 a i⟨r,ep,o,n,kk⟩=>by
  subst ex;subst ep;cases i.inv;obtain⟨l,vs,rfl,d,f⟩:=(sv.mv a).seq a.st;rw[f.strs]at d;refine⟨l,tp,ns,r,rfl,BN.sq d,o,n,λt' e H4 ts FW HX s4 j st s=>?_⟩;have b:Dz H4 t' e r ((0:Nat):Int) ts:=s;have m:=(a.st.grow s4).adopt a.st HX b.2;obtain⟨F4,m4,_,g⟩:∃F4,Mv E ss Z F2 H2 F4 H4/\True/\Rep F4 (.ref t') (DR r 0 ts):=by
   refine⟨_,m.adopt a.st FW b.1,trivial,WS ⟨AJ,?_⟩⟩
   by_cases z:e=t'
   .subst z;rw[AJ];exact b.1.symm.trans b.2
   .rw[Af z,AJ]
  exact q _ _ F4 H4 (c.trans (a.trans m4)) g (kk ts j st)⟩
end
mutual
def CN:PV->PV->Bool
 | .lst xs,.lst ys=>D1 xs ys
 | .tup xs,.tup ys=>D1 xs ys
 | .tup xs,.con _ ys=>D1 xs ys
 | .con _ xs,.tup ys=>D1 xs ys
 | .con _ xs,.con _ ys=>D1 xs ys
 | .AB,.AB=>true
 | .bl a,.bl b=>a == b
 | .bl a,.int b=>(if a then 1 else 0) == b
 | .int a,.bl b=>a == (if b then 1 else 0)
 | .int a,.int b=>a == b
 | .str a,.str b=>a == b
 |_,_=>false
def D1:List PV->List PV->Bool
 | [],[]=>true
 |x::r,y::t=>CN x y && D1 r t
 |_,_=>false
end
theorem RD(x y:PV)(r t:List PV):D1 (x::r) (y::t)=(CN x y && D1 r t):=by rw[D1]
theorem YO:∀(xs ys:List PV),xs.length≠ys.length->D1 xs ys=false
 | [],[],h=>absurd rfl h
 | [],_::_,_=>by rw[D1];all_goals simp
 |_::_,[],_=>by rw[D1];all_goals simp
 |x::r,y::t,h=>by rw[RD,YO r t (by simpa using h),af]
theorem XC:∀(xs ys:List PV),xs.length=ys.length->D1 xs ys=(List.range xs.length).all λj=>CN (xs.getD j .AB) (ys.getD j .AB)
 | [],[],_=>by rw[D1];rfl
 |x::r,y::t,h=>by
  rw[RD,XC r t (by simpa using h),BK,List.range_succ_eq_map,U4,List.all_map]
  rfl
def dat(K:ZJR):Nat->PV->Prop
 |_,.AB=>True
 |_,.bl _=>True
 |_,.int _=>True
 |_,.str _=>True
 |d+1,.lst xs=>∀x∈xs,dat K d x
 |d+1,.tup xs=>∀x∈xs,dat K d x
 |d+1,.con a xs=>(∀x∈xs,dat K d x)/\xs.all flat=true/\∀H,AD K H a (xs.map Fz.enc)
 |_,_=>False
inductive Gx (K:ZJR) (H:Hp):V->PV->Bool->Addr->List V->List PV->Prop where
 |lst {a:Addr}{vs:List V}{xs:List PV}:AK K H a vs->AW H vs xs->Gx K H (.ref a) (.lst xs) false a vs xs
 |tup {a:Addr}{vs:List V}{xs:List PV}:AD K H a vs->AW H vs xs->Gx K H (.ref a) (.tup xs) true a vs xs
 |con {a:Addr}{vs:List V}{xs:List PV}:AD K H a vs->AW H vs xs->Gx K H (.ref a) (.con a xs) true a vs xs
theorem G3{K:ZJR}:∀{d:Nat}{x:V}{p:PV},dat K d p->Rep H x p->(flat p=true/\x=Fz.enc p)∨∃d' tp a vs xs,d=d'+1/\Gx K H x p tp a vs xs/\∀y∈xs,dat K d' y:=by
 intro d x p h r;cases r with
 |AB=>exact .inl ⟨rfl,rfl⟩
 |bl b=>exact .inl ⟨rfl,rfl⟩
 |int b=>exact .inl ⟨rfl,rfl⟩
 |str b=>exact .inl ⟨rfl,rfl⟩
 |lst e r=>cases d with
  |zero=>exact h.elim
  |succ d=>exact .inr ⟨d,_,_,_,_,rfl,.lst (AK.of e) r,h⟩
 |tup e r=>cases d with
  |zero=>exact h.elim
  |succ d=>exact .inr ⟨d,_,_,_,_,rfl,.tup (AD.of e) r,h⟩
 |con=>cases d with
  |zero=>exact h.elim
  |succ d=>obtain⟨h1,h2,c⟩:=h;exact .inr ⟨d,_,_,_,_,rfl,.con (c H) (kH h2),h1⟩
 |B1 _ _ _=>cases d <;> exact h.elim
 |obj _ _ _ _=>cases d <;> exact h.elim
 |Te _=>cases d <;> exact h.elim
 |exc _ _ _ _=>cases d <;> exact h.elim
section
variable{X:Cx}{Zo:ZJS}{s:Shared}
theorem ZBp(b:Vals vs A4)(a:Vals ws Bk)(d:AW H vs xs)(c:AW H ws ys)
  (h:∀(x y:V)(p q:PV)(u v:Value),p∈xs->q∈ys->Rep H x p->Rep H y q->RelV x u->RelV y v->SeqAt.EqAt A s u v (CN p q)) :
  ∀j(h1:j<A4.toArray.size)(h2:j<Bk.toArray.size),SeqAt.EqAt A s A4.toArray[j] Bk.toArray[j] ((λj=>CN (xs.getD j .AB) (ys.getD j .AB)) j):=λj h1 h2=>by
 have l1:=b.length;have l2:=a.length;have z:=d.length;have w:=c.length;have t:j<A4.length:=by simpa using h1
 have r:j<Bk.length:=by simpa using h2
 have a1:j<xs.length:=by omega
 have a2:j<ys.length:=by omega
 obtain⟨x,hx,g⟩:=d.get (i:=j) (p:=xs[j]) (B7 a1);obtain⟨y,m,f⟩:=c.get (i:=j) (p:=ys[j]) (B7 a2);obtain⟨u,hu,l⟩:=b.get hx;obtain⟨v,e,k⟩:=a.get m;rw[B7 t]at hu;rw[B7 r]at e;have n:A4[j]=u:=BI hu;have o:Bk[j]=v:=BI e;have q:=h x y _ _ u v (M4 a1) (M4 a2) g f l k;rw[<- n,<- o]at q;show SeqAt.EqAt A s _ _ (CN (xs.getD j .AB) (ys.getD j .AB));rw[ES,B7 a1,ES,B7 a2]
 simpa using q
theorem RA{p:PV}{x:V}(h:Gx X.K H x p tp a vs xs)(f:flat q=true):CN p q=false/\CN q p=false:=by
 cases h <;> cases q <;> first|exact Bool.noConfusion f|exact⟨rfl,rfl⟩
theorem X7{p:PV}{x y:V}(h:Gx X.K H x p tp a vs xs)(h2:Gx X.K H y q BS b ws ys):CN p q=(if tp=BS then D1 xs ys else false):=by
 cases h <;> cases h2 <;> rfl
theorem Qs{p:PV}(h:flat p=true)(h2:flat q=true):CN p q=ER (Fz.enc p) (Fz.enc q):=by
 cases p <;> cases q <;> first|exact Bool.noConfusion h|exact Bool.noConfusion h2|rfl
theorem ZDX{p:PV}{u v:Value}(h:flat p=true)(h2:flat q=true)(b:RelV (Fz.enc p) u)(a:RelV (Fz.enc q) v):SeqAt.RcAt A s u v (CN p q)/\SeqAt.RcNeAt A s u v (!CN p q):=by
 cases p <;> first|exact Bool.noConfusion h|skip
 all_goals cases q <;> first|exact Bool.noConfusion h2|skip
 .cases b;cases a;exact⟨.none_none,.none_none⟩
 .cases b;cases a;exact⟨.none_bool _,.none_bool _⟩
 .cases b;obtain⟨t,rfl⟩:=a;exact⟨.none_int _ _,.none_int _ _⟩
 .cases b;obtain⟨t,rfl⟩:=a;exact⟨.none_str _ _,.none_str _ _⟩
 .cases b;cases a;exact⟨.bool_none _,.bool_none _⟩
 .cases b;cases a;exact⟨.bool_bool _ _,.bool_bool _ _⟩
 .cases b;obtain⟨t,rfl⟩:=a;exact⟨.bool_int _ _ _,.bool_int _ _ _⟩
 .cases b;obtain⟨t,rfl⟩:=a;exact⟨.bool_str _ _ _,.bool_str _ _ _⟩
 .obtain⟨t,rfl⟩:=b;cases a;exact⟨.int_none _ _,.int_none _ _⟩
 .obtain⟨t,rfl⟩:=b;cases a;exact⟨.int_bool _ _ _,.int_bool _ _ _⟩
 .obtain⟨t,rfl⟩:=b;obtain⟨t2,rfl⟩:=a;exact⟨.int_int _ _ _ _,.int_int _ _ _ _⟩
 .obtain⟨t,rfl⟩:=b;obtain⟨t2,rfl⟩:=a;exact⟨.int_str _ _ _ _,.int_str _ _ _ _⟩
 .obtain⟨t,rfl⟩:=b;cases a;exact⟨.str_none _ _,.str_none _ _⟩
 .obtain⟨t,rfl⟩:=b;cases a;exact⟨.str_bool _ _ _,.str_bool _ _ _⟩
 .obtain⟨t,rfl⟩:=b;obtain⟨t2,rfl⟩:=a;exact⟨.str_int _ _ _ _,.str_int _ _ _ _⟩
 .obtain⟨t,rfl⟩:=b;obtain⟨t2,rfl⟩:=a;exact⟨.str_str _ _ _ _,.str_str _ _ _ _⟩
def Tj(h:Heap)(tp:Bool)(a:Addr)(A4:Array Value):Prop:=if tp then IsTup h a A4 else h.IsList a A4
theorem Gx.Gq(I:Inv X Zo Z H s){x:V}{p:PV}(h:Gx X.K H x p tp a vs xs):∃A4:List Value,x=.ref a/\Vals vs A4/\Tj s.heap tp a A4.toArray/\AW H vs xs:=by
 cases h with
 |lst h r=>obtain⟨A4,b,c,_⟩:=I.list h;exact⟨A4,rfl,b,c.isList,r⟩
 |tup h r=>obtain⟨A4,b,c,_⟩:=I.tuple h;exact⟨A4,rfl,b,c,r⟩
 |con h r=>obtain⟨A4,b,c,_⟩:=I.tuple h;exact⟨A4,rfl,b,c,r⟩
theorem TC{A4:Array Value}{v:Value}(h:Tj s.heap tp a A4)(f:flat q=true)(b:RelV (Fz.enc q) v)(hu:A.units<cLine):
  (SeqAt.EqAt A s (.ref a) v false/\SeqAt.EqAt A s v (.ref a) false)/\(SeqAt.RcAt A s (.ref a) v false/\SeqAt.RcAt A s v (.ref a) false)/\(SeqAt.RcNeAt A s (.ref a) v true/\SeqAt.RcNeAt A s v (.ref a) true):=by
 cases tp with
 |false=>
  have h':s.heap.IsList a A4:=h;cases q <;> first|exact Bool.noConfusion f|skip
  .cases b;exact⟨⟨.list_none h' hu,.none_list h' hu⟩,⟨.list_none h' hu,.none_list h' hu⟩,⟨.list_none h' hu,.none_list h' hu⟩⟩
  .cases b;exact⟨⟨.list_bool _ h' hu,.bool_list _ h' hu⟩,⟨.list_bool _ h' hu,.bool_list _ h' hu⟩,⟨.list_bool _ h' hu,.bool_list _ h' hu⟩⟩
  .obtain⟨t,rfl⟩:=b;exact⟨⟨.list_int _ _ h' hu,.int_list _ _ h' hu⟩,⟨.list_int _ _ h' hu,.int_list _ _ h' hu⟩,⟨.list_int _ _ h' hu,.int_list _ _ h' hu⟩⟩
  .obtain⟨t,rfl⟩:=b;exact⟨⟨.list_str _ _ h' hu,.str_list _ _ h' hu⟩,⟨.list_str _ _ h' hu,.str_list _ _ h' hu⟩,⟨.list_str _ _ h' hu,.str_list _ _ h' hu⟩⟩
 |true=>
  have h':IsTup s.heap a A4:=h;cases q <;> first|exact Bool.noConfusion f|skip
  .cases b;exact⟨⟨.tuple_none h' hu,.none_tuple h' hu⟩,⟨.tuple_none h' hu,.none_tuple h' hu⟩,⟨.tuple_none h' hu,.none_tuple h' hu⟩⟩
  .cases b;exact⟨⟨.tuple_bool _ h' hu,.bool_tuple _ h' hu⟩,⟨.tuple_bool _ h' hu,.bool_tuple _ h' hu⟩,⟨.tuple_bool _ h' hu,.bool_tuple _ h' hu⟩⟩
  .obtain⟨t,rfl⟩:=b;exact⟨⟨.tuple_int _ _ h' hu,.int_tuple _ _ h' hu⟩,⟨.tuple_int _ _ h' hu,.int_tuple _ _ h' hu⟩,⟨.tuple_int _ _ h' hu,.int_tuple _ _ h' hu⟩⟩
  .obtain⟨t,rfl⟩:=b;exact⟨⟨.tuple_str _ _ h' hu,.str_tuple _ _ h' hu⟩,⟨.tuple_str _ _ h' hu,.str_tuple _ _ h' hu⟩,⟨.tuple_str _ _ h' hu,.str_tuple _ _ h' hu⟩⟩
theorem Gx.inj(I:Inv X Zo Z H s){x y:V}{p q:PV}{tp BS:Bool}{a:Addr}{vs ws:List V}{xs ys:List PV}(h:Gx X.K H x p tp a vs xs)(h2:Gx X.K H y q BS a ws ys):tp=BS/\vs=ws:=by
 have b:∀{vs ws:List V},AK X.K H a vs->AD X.K H a ws->False:=λ{vs ws}h1 h2=>by
  obtain⟨A4,_,g,_⟩:=I.list h1;obtain⟨Bk,_,p2,_⟩:=I.tuple h2;obtain⟨o,n,e,c,_⟩:=g;obtain⟨i,d,f,_⟩:=p2;rw[e]at d;cases d;rw[c]at f;exact absurd f (by decide)
 cases h with
 |lst h r=>cases h2 with
  |lst h2 _=>exact⟨rfl,I.kD h h2⟩
  |tup h2 _=>exact(b h h2).elim
  |con h2 _=>exact(b h h2).elim
 |tup h r=>cases h2 with
  |lst h2 _=>exact(b h2 h).elim
  |tup h2 _=>exact⟨rfl,I.Px h h2⟩
  |con h2 _=>exact⟨rfl,I.Px h h2⟩
 |con h r=>cases h2 with
  |lst h2 _=>exact(b h2 h).elim
  |tup h2 _=>exact⟨rfl,I.Px h h2⟩
  |con h2 _=>exact⟨rfl,I.Px h h2⟩
theorem nI{p:PV}(h:flat p=true):ER (Fz.enc p) (Fz.enc p)=true:=by cases p <;> first|exact Bool.noConfusion h|exact vX _|rfl
theorem ZGs(i:∀(x:V)(p q:PV),Rep H x p->Rep H x q->dat X.K d p->dat X.K d q->CN p q=true)(g:AW H vs xs)(c:AW H vs ys)(h1:∀x∈xs,dat X.K d x)(h2:∀y∈ys,dat X.K d y):D1 xs ys=true:=by
 induction xs generalizing vs ys with
 |nil=>
  cases g.Ej;cases ys with
  |nil=>rfl
  |cons y t=>obtain⟨v,ws,e,_⟩:=c.inv;cases e
 |cons x xs f=>
  obtain⟨v,ws,rfl,a,b⟩:=g.inv;cases ys with
  |nil=>have e:=c.Ej;cases e
  |cons y t=>
   obtain⟨v2,h,e,a2,j⟩:=c.inv;cases e;rw[RD,i _ _ _ a a2 (h1 _ CV) (h2 _ CV),f b j (λx hx=>h1 x (Ck _ hx)) (λx hx=>h2 x (Ck _ hx))];rfl
theorem qz(I:Inv X Zo Z H s):∀(d:Nat)(x:V)(p q:PV),Rep H x p->Rep H x q->dat X.K d p->dat X.K d q->CN p q=true:=λd=>by
 induction d with
 |zero=>
  intro x p q l h h1 h2;rcases G3 h1 l with⟨j,k⟩|⟨d',_,_,_,_,e,_⟩
  .rcases G3 h2 h with⟨c,g⟩|⟨d',_,_,_,_,e,_⟩
   .rw[Qs j c,<- k,g];exact nI c
   .cases e
  .cases e
 |succ d r=>
  intro x p q l h h1 h2;rcases G3 h1 l with⟨j,k⟩|⟨w,tp,a,vs,xs,e,i,k1⟩
  .rcases G3 h2 h with⟨c,g⟩|⟨v,BS,b,ws,ys,e,f,k2⟩
   .rw[Qs j c,<- k,g];exact nI c
   .obtain⟨_,ex,_⟩:=f.Gq I;subst ex;cases p <;> first|(cases j;done)|(cases k;done)
  .cases e;rcases G3 h2 h with⟨c,g⟩|⟨v,BS,b,ws,ys,e,f,k2⟩
   .obtain⟨_,ex,_⟩:=i.Gq I;subst ex;cases q <;> first|(cases c;done)|(cases g;done)
   .cases e;obtain⟨_,ex,_,_,o⟩:=i.Gq I;obtain⟨_,m,_,_,n⟩:=f.Gq I;rw[ex]at m;cases m;obtain⟨u,t⟩:=i.inj I f;subst t;rw[X7 i f,sZ u];exact ZGs r o n k1 k2
theorem ZFV(b:Vals vs A4)(a:Vals ws Bk)(d:AW H vs xs)(c:AW H ws ys):A4.toArray.size=xs.length/\Bk.toArray.size=ys.length:=by
 have l1:=b.length;have l2:=a.length;have f:=d.length;have e:=c.length;simp only[Bt];omega
theorem ko(h1:Tj s.heap tp a A4.toArray)(h2:Tj s.heap BS b Bk.toArray)(l:Vals vs A4)(k:Vals ws Bk)(n:AW H vs xs)(m:AW H ws ys)(hu:A.units<cLine)
  (h:∀(x y:V)(p q:PV)(u v:Value),p∈xs->q∈ys->Rep H x p->Rep H y q->RelV x u->RelV y v->SeqAt.EqAt A.in1 s u v (CN p q)) :
  SeqAt.RcAt A s (.ref a) (.ref b) (if tp=BS then D1 xs ys else false)/\SeqAt.RcNeAt A s (.ref a) (.ref b) (!(if tp=BS then D1 xs ys else false)):=by
 obtain⟨g,i⟩:=ZFV l k n m;have it:=ZBp (A:=A.in1) l k n m h;cases tp with
 |false=>cases BS with
  |false=>
   rw[sZ rfl];have f:s.heap.IsList a A4.toArray:=h1;have d:s.heap.IsList b Bk.toArray:=h2
   by_cases c:xs.length=ys.length
   .rw[XC xs ys c,<- g];exact⟨.lists f d (by omega) hu it,.lists f d (by omega) hu it⟩
   .rw[YO xs ys c];have o:(A4.toArray.size != Bk.toArray.size)=true:=by simp only[bne_iff_ne,ne_eq];omega
    exact⟨.lists_lengths f d o hu,.lists_lengths f d o hu⟩
  |true=>rw[sN (by decide)];exact⟨.list_tuple h1 h2 hu,.list_tuple h1 h2 hu⟩
 |true=>cases BS with
  |false=>rw[sN (by decide)];exact⟨.tuple_list h1 h2 hu,.tuple_list h1 h2 hu⟩
  |true=>
   rw[sZ rfl];have f:IsTup s.heap a A4.toArray:=h1;have d:IsTup s.heap b Bk.toArray:=h2;have e:((List.range (min A4.toArray.size Bk.toArray.size)).all (λj=>CN (xs.getD j .AB) (ys.getD j .AB)) && A4.toArray.size == Bk.toArray.size)=D1 xs ys:=by
    by_cases c:xs.length=ys.length
    .rw[XC xs ys c,g,i,<- c,b7,vX,ag]
    .rw[YO xs ys c,g,i,show(xs.length == ys.length)=false from by simpa using c,af]
   have k1:=SeqAt.RcAt.tuples (A:=A) (e:=λj=>CN (xs.getD j .AB) (ys.getD j .AB)) f d hu it;have k2:=SeqAt.RcNeAt.tuples (A:=A) (e:=λj=>CN (xs.getD j .AB) (ys.getD j .AB)) f d hu it;rw[e]at k1 k2;exact⟨k1,k2⟩
theorem zy(I:Inv X Zo Z H s):∀(d:Nat)(x y:V)(p q:PV),Rep H x p->Rep H y q->dat X.K d p->dat X.K d q->∀(A:Around)(u v:Value),RelV x u->RelV y v->A.units+d<cLine->SeqAt.EqAt A s u v (CN p q):=λd=>by
 induction d with
 |zero=>
  intro x y p q k h h1 h2 A u v f c hu;rcases G3 h1 k with⟨i,o⟩|⟨_,_,_,_,_,e,_⟩
  .rcases G3 h2 h with⟨g,m⟩|⟨_,_,_,_,_,e,_⟩
   .subst o;subst m;rw[Qs i g];exact SR f c (RS i) (RS g)
   .cases e
  .cases e
 |succ d D=>
  intro x y p q k h h1 h2 A u v f c hu;rcases G3 h1 k with⟨i,o⟩|⟨G,tp,a,vs,xs,e,n,k1⟩
  .rcases G3 h2 h with⟨g,m⟩|⟨F,BS,b,ws,ys,e,l,k2⟩
   .subst o;subst m;rw[Qs i g];exact SR f c (RS i) (RS g)
   .obtain⟨A4,r,_,j,_⟩:=l.Gq I;subst o;subst r;cases(show v=Value.ref b from c);rw[(RA l i).2];exact(TC j i f (by omega)).1.2
  .cases e;rcases G3 h2 h with⟨g,m⟩|⟨F,BS,b,ws,ys,e,l,k2⟩
   .obtain⟨A4,ex,_,j,_⟩:=n.Gq I;subst m;subst ex;cases(show u=Value.ref a from f);rw[(RA n g).1];exact(TC j g c (by omega)).1.1
   .cases e;obtain⟨A4,ex,v1,C,z⟩:=n.Gq I;obtain⟨Bk,r,v2,B,w⟩:=l.Gq I;subst ex;subst r;cases(show u=Value.ref a from f);cases(show v=Value.ref b from c)
    by_cases t:a=b
    .subst t;rw[qz I (d+1) _ p q k h h1 h2];exact .same _
    .rw[X7 n l];refine SeqAt.EqAt.of_refs t (ko C B v1 v2 z w (by omega) λx y p q u v hp E k h f c=>?_).1;exact D x y p q k h (k1 p hp) (k2 q E) A.in1 u v f c (by show A.units+1+d<cLine;omega)
theorem gJ(I:Inv X Zo Z H s)(d:Nat)(x y:V)(p q:PV)(m:Rep H x p)(i:Rep H y q)(h1:dat X.K d p)(h2:dat X.K d q)(A:Around)(u v:Value)(f:RelV x u)(c:RelV y v)(hu:A.units+d<cLine):SeqAt.RcAt A s u v (CN p q)/\SeqAt.RcNeAt A s u v (!CN p q):=by
 rcases G3 h1 m with⟨n,r⟩|⟨t,tp,a,vs,xs,e,k,k1⟩
 .rcases G3 h2 i with⟨l,h⟩|⟨F,BS,b,ws,ys,e,g,k2⟩
  .subst r;subst h;exact ZDX n l f c
  .obtain⟨A4,o,_,j,_⟩:=g.Gq I;subst r;subst o;cases(show v=Value.ref b from c);rw[(RA g n).2];have z:=TC (A:=A) j n f (by omega);exact⟨z.2.1.2,z.2.2.2⟩
 .rcases G3 h2 i with⟨l,h⟩|⟨F,BS,b,ws,ys,h,g,k2⟩
  .obtain⟨A4,ex,_,j,_⟩:=k.Gq I;subst h;subst ex;cases(show u=Value.ref a from f);rw[(RA k l).1];have z:=TC (A:=A) j l c (by omega);exact⟨z.2.1.1,z.2.2.1⟩
  .subst e;cases h;obtain⟨A4,ex,v1,D,B⟩:=k.Gq I;obtain⟨Bk,o,v2,C,w⟩:=g.Gq I;subst ex;subst o;cases(show u=Value.ref a from f);cases(show v=Value.ref b from c);rw[X7 k g];exact ko D C v1 v2 B w (by omega) λx y p q u v hp E m i f c=>zy I t x y p q m i (k1 p hp) (k2 q E) A.in1 u v f c (by show A.units+1+t<cLine;omega)
def R6(K:ZJR)(neg:Bool):R2:=λx y H Q=>∃p q,Rep H x p/\Rep H y q/\dat K 40 p/\dat K 40 q/\Q (.bl (if neg then !CN p q else CN p q)) H
theorem ZF9(hu:X.A.units+64<cLine):BB X (compareOp .Eq) (R6 X.K false):=by
 intro Zo s Z H x y v u Q I b a h;obtain⟨p,q,d,c,g,f,e⟩:=h;exact(gJ I 40 x y p q d c g f X.A _ _ b a (by omega)).1 _ _ _ _ ⟨.bl (CN p q),H,I,rfl,e⟩
theorem ZFc(hu:X.A.units+64<cLine):BB X (compareOp .NotEq) (R6 X.K true):=by
 intro Zo s Z H x y v u Q I b a h;obtain⟨p,q,d,c,g,f,e⟩:=h;exact(gJ I 40 x y p q d c g f X.A _ _ b a (by omega)).2 _ _ _ _ ⟨.bl (!CN p q),H,I,rfl,e⟩
end
section
variable[Xw]
variable{K:ZJR}{k:PV->Prop}
theorem mG(h:Wp ss ta λp=>Wp ss tb λq=>dat K 40 p/\dat K 40 q/\k (.bl (CN p q))):Wp ss (Bv (R6 K false) ta tb) k:=⟨λE Z F H Q S q=>
 h.go E Z F H _ S λv p F1 H1 b d h2=>h2.go E Z F1 H1 _ b.st λv2 p2 F2 H2 a c⟨f,e,kk⟩=>
  ⟨p,p2,(d.mono a.ff).mono a.st.fh,c.mono a.st.fh,f,e,q _ _ F2 H2 (b.trans a) (.bl _) kk⟩⟩
theorem hV(h:Wp ss ta λp=>Wp ss tb λq=>dat K 40 p/\dat K 40 q/\k (.bl (!CN p q))):Wp ss (Bv (R6 K true) ta tb) k:=⟨λE Z F H Q S q=>
 h.go E Z F H _ S λv p F1 H1 b d h2=>h2.go E Z F1 H1 _ b.st λv2 p2 F2 H2 a c⟨f,e,kk⟩=>
  ⟨p,p2,(d.mono a.ff).mono a.st.fh,c.mono a.st.fh,f,e,q _ _ F2 H2 (b.trans a) (.bl _) kk⟩⟩
end
noncomputable def OV.at(t:OV):List Nat->Option OV
 | []=>some t
 |j::p=>match t with
  | .nd _ _ xs=>(xs[j]?).bind λx=>OV.at x p
  | .tp xs=>(xs[j]?).bind λx=>OV.at x p
  | .fz _=>none
noncomputable def OV.put(t:OV)(l:List Nat)(n:OV):OV:=match l with
 | []=>n
 |j::p=>match t with
  | .nd k a xs=>match xs[j]? with
   |some x=>.nd k a (xs.set j (OV.put x p n))
   |none=>.nd k a xs
  | .tp xs=>match xs[j]? with
   |some x=>.tp (xs.set j (OV.put x p n))
   |none=>.tp xs
  | .fz q=>.fz q
theorem OV.KR:t.at []=some t:=by rw[OV.at]
theorem OV.L3{k:NK}{xs:List OV}:(OV.nd k a xs).at (j::p)=(xs[j]?).bind λx=>x.at p:=by rw[OV.at]
theorem OV.P1{xs:List OV}:(OV.tp xs).at (j::p)=(xs[j]?).bind λx=>x.at p:=by rw[OV.at]
theorem OV.Fd:t.put [] n=n:=by rw[OV.put]
theorem OV.KJ{k:NK}{xs:List OV}(h:xs[j]?=some x):(OV.nd k a xs).put (j::p) n=.nd k a (xs.set j (x.put p n)):=by rw[OV.put,h]
theorem OV.S9{xs:List OV}(h:xs[j]?=some x):(OV.tp xs).put (j::p) n=.tp (xs.set j (x.put p n)):=by rw[OV.put,h]
theorem OV.MW{u w:OV}:∀{p:List Nat}{t:OV}{j:Nat},t.at p=some u->u.at [j]=some w->t.at (p++[j])=some w
 | [],t,j,h,h2=>by rw[OV.KR]at h;cases h;exact h2
 |i::p,.nd k a xs,j,h,h2=>by
  rw[OV.L3]at h;rw[aj,OV.L3];cases e:xs[i]? with
  |none=>rw[e]at h;cases h
  |some x=>rw[e]at h;exact OV.MW (t:=x) h h2
 |i::p,.tp xs,j,h,h2=>by
  rw[OV.P1]at h;rw[aj,OV.P1];cases e:xs[i]? with
  |none=>rw[e]at h;cases h
  |some x=>rw[e]at h;exact OV.MW (t:=x) h h2
 |i::p,.fz q,j,h,h2=>by rw[OV.at]at h;cases h
theorem Jt:∀{xs:List OV}{j:Nat}{x:OV},xs[j]?=some x->∃l r,OV.An xs=l++x.addrs++r/\∀y:OV,OV.An (xs.set j y)=l++y.addrs++r
 |x::xs,0,z,h=>by
  simp at h;subst h;exact⟨[],OV.An xs,by rw[OV.DG];rfl,λy=>by rw[b6,OV.DG];rfl⟩
 |x::xs,j+1,z,h=>by
  obtain⟨l,r,b,a⟩:=Jt (xs:=xs) (j:=j) (x:=z) (by simpa using h)
  refine⟨x.addrs++l,r,by rw[OV.DG,b];simp[Bd],λy=>by rw[UB,OV.DG,a];simp[Bd]⟩
theorem OV.split{u:OV}:∀{p:List Nat}{t:OV},t.at p=some u->∃l r,t.addrs=l++u.addrs++r/\∀n:OV,(t.put p n).addrs=l++n.addrs++r
 | [],t,h=>by rw[OV.KR]at h;cases h;exact⟨[],[],by simp,λn=>by rw[OV.Fd];simp⟩
 |j::p,.nd k a xs,h=>by
  rw[OV.L3]at h;cases e:xs[j]? with
  |none=>rw[e]at h;cases h
  |some x=>
   rw[e]at h;obtain⟨l,r,g,f⟩:=Jt e;obtain⟨l2,b,d,c⟩:=OV.split (t:=x) h;refine⟨a::(k.more++(l++l2)),b++r,by rw[OV.DJ,g,d];simp[Bd],λn=>by rw[OV.KJ e,OV.DJ,f,c];simp[Bd]⟩
 |j::p,.tp xs,h=>by
  rw[OV.P1]at h;cases e:xs[j]? with
  |none=>rw[e]at h;cases h
  |some x=>
   rw[e]at h;obtain⟨l,r,g,f⟩:=Jt e;obtain⟨l2,b,d,c⟩:=OV.split (t:=x) h;refine⟨l++l2,b++r,by rw[OV.Gp,g,d];simp[Bd],λn=>by rw[OV.S9 e,OV.Gp,f,c];simp[Bd]⟩
 |j::p,.fz q,h=>by rw[OV.at]at h;cases h
theorem BO.get{F H:Hp}{vs:List V}{ts:List OV}{j:Nat}{t:OV}(r:BO F H vs ts)(e:ts[j]?=some t):∃v,vs[j]?=some v/\Aj F H v t:=by
 induction ts generalizing vs j with
 |nil=>cases e
 |cons q ps c=>
  obtain⟨v,ws,rfl,a,b⟩:=r.inv;cases j with
  |zero=>cases e;exact⟨_,rfl,a⟩
  |succ j=>exact c (vs:=ws) (j:=j) b e
theorem BO.append{xs ys:List OV}(r:BO F H vs xs)(s:BO F H ws ys):BO F H (vs++ws) (xs++ys):=by
 induction xs generalizing vs with
 |nil=>cases r.Ej;exact s
 |cons p ps c=>obtain⟨v,us,rfl,a,b⟩:=r.inv;exact .cons a (c b)
theorem BO.one(r:Aj F H v t):BO F H [v] [t]:=.cons r .nil
theorem uh(r:AW F vs xs):BO F H vs (xs.map .fz):=by
 induction xs generalizing vs with
 |nil=>cases r.Ej;exact .nil
 |cons p ps c=>obtain⟨v,us,rfl,a,b⟩:=r.inv;exact .cons (.fz a) (c b)
theorem jh:∀(xs:List PV),OV.An (xs.map .fz)=[]
 | []=>by rw[ay,OV.An]
 |x::r=>by rw[Bs,OV.DG,OV.Kt,jh r];rfl
theorem BO.set{xs:List OV}(j:Nat)(r:BO F H vs xs)(q:Aj F H v t):BO F H (vs.set j v) (xs.set j t):=by
 induction xs generalizing vs j with
 |nil=>cases r.Ej;exact .nil
 |cons p ps c=>
  obtain⟨u,us,rfl,a,b⟩:=r.inv;cases j with
  |zero=>exact .cons q b
  |succ j=>exact .cons a (c j b)
theorem BO.swap{xs:List OV}(r:BO F H vs xs)(h:xs[j]?=some x)(f:vs[j]?=some v)(e:∀l r,OV.An xs=l++x.addrs++r->(∀z:OV,OV.An (xs.set j z)=l++z.addrs++r)->∀b∈l++r,∀o,H b=some o->H' b=some o)(g:Aj F H' v y):BO F H' vs (xs.set j y):=by
 induction xs generalizing vs j with
 |nil=>cases h
 |cons p ps m=>
  obtain⟨u,us,rfl,a,b⟩:=r.inv;cases j with
  |zero=>
   cases h;cases f;refine .cons g (b.mono (A8.refl _) λc d o=>e [] (OV.An ps) (by rw[OV.DG];rfl) (λz=>by rw[b6,OV.DG];rfl) c d o)
  |succ j=>
   rw[UB];obtain⟨l,q,s,n⟩:=Jt (xs:=ps) (j:=j) h;refine .cons (a.mono (A8.refl _) λc d o=>e (p.addrs++l) q (by rw[OV.DG,s,Bd,Bd,Bd]) (λz=>by rw[UB,OV.DG,n,Bd,Bd,Bd]) c (Ei _ (Ei _ d)) o) (m (vs:=us) (j:=j) b h f λk i EE CP c d o=>?_);refine e (p.addrs++k) i (by rw[OV.DG,EE,Bd,Bd,Bd]) (λz=>by rw[UB,OV.DG,CP,Bd,Bd,Bd]) c ?_ o;rcases List.mem_append.mp d with hz|hz
   .exact Ei _ (DE _ hz)
   .exact DE _ hz
theorem Aj.at{F H:Hp}{u:OV}:∀{p:List Nat}{t:OV}{v:V},Aj F H v t->t.at p=some u->∃w,Aj F H w u/\∀(H':Hp)(n:OV),Aj F H' w n->(∀l r,t.addrs=l++u.addrs++r->(∀n:OV,(t.put p n).addrs=l++n.addrs++r)->∀b∈l++r,∀o,H b=some o->H' b=some o)->Aj F H' v (t.put p n)
 | [],t,v,h,e=>by rw[OV.KR]at e;cases e;exact⟨v,h,λH' n r _=>by rw[OV.Fd];exact r⟩
 |j::p,.fz q,v,h,e=>by rw[OV.at]at e;cases e
 |j::p,.nd k a xs,_,.nd h sd ft r,e=>by
  rw[OV.L3]at e;cases ex:xs[j]? with
  |none=>rw[ex]at e;cases e
  |some x=>
   rw[ex]at e;obtain⟨I,ZG,C⟩:=r.get ex;obtain⟨w,d,go⟩:=Aj.at (t:=x) C e;refine⟨w,d,λH' n B y=>?_⟩;obtain⟨l2,A,G,E⟩:=OV.split e;have i:∀l r,OV.An xs=l++x.addrs++r->(∀z:OV,OV.An (xs.set j z)=l++z.addrs++r)->∀b,b∈(a::(k.more++(l++l2)))++(A++r)->∀o,H b=some o->H' b=some o:=λl r s m b c o=>
    y (a::(k.more++(l++l2))) (A++r) (by rw[OV.DJ,s,G];simp[Bd]) (λn=>by rw[OV.KJ ex,OV.DJ,m,E];simp[Bd]) b c o
   obtain⟨l,q,s,m⟩:=Jt ex;rw[OV.KJ ex];refine .nd (i l q s m a (by simp) _ h) (NK.jc sd λb c=>i l q s m b (by simp[c])) ft ?_;refine r.swap ex ZG (λg f EE CP b c o=>i g f EE CP b (by rcases List.mem_append.mp c with hz|hz <;> simp[hz]) o) ?_
   refine go H' n B λg f g1 D b c o=>?_;refine y (a::(k.more++(l++g))) (f++q) (by rw[OV.DJ,s,g1];simp[Bd]) (λn=>by rw[OV.KJ ex,OV.DJ,m,D];simp[Bd]) b (by rcases List.mem_append.mp c with hz|hz <;> simp[hz]) o
 |j::p,.tp xs,_,.tp h r,e=>by
  rw[OV.P1]at e;cases ex:xs[j]? with
  |none=>rw[ex]at e;cases e
  |some x=>
   rw[ex]at e;obtain⟨I,ZG,C⟩:=r.get ex;obtain⟨w,d,go⟩:=Aj.at (t:=x) C e;refine⟨w,d,λH' n B y=>?_⟩;obtain⟨l2,A,G,E⟩:=OV.split e;obtain⟨l,q,s,m⟩:=Jt ex;rw[OV.S9 ex];refine .tp h (r.swap ex ZG (λg f EE CP b c o=>?_) (go H' n B λg f g1 D b c o=>?_))
   .exact y (g++l2) (A++f) (by rw[OV.Gp,EE,G];simp[Bd]) (λn=>by rw[OV.S9 ex,OV.Gp,CP,E];simp[Bd]) b (by rcases List.mem_append.mp c with hz|hz <;> simp[hz]) o
   .exact y (l++g) (f++q) (by rw[OV.Gp,s,g1];simp[Bd]) (λn=>by rw[OV.S9 ex,OV.Gp,m,D];simp[Bd]) b (by rcases List.mem_append.mp c with hz|hz <;> simp[hz]) o
theorem YA{l u r n:List Addr}(h:(l++u++r).Nodup)(hn:n.Nodup)(hd:∀b∈n,b∈u∨b∉l++u++r):(l++n++r).Nodup:=by
 rw[CG]at h ⊢;obtain⟨h1,h2,f⟩:=h;rw[CG]at h1 ⊢;obtain⟨a1,a2,g⟩:=h1;refine⟨⟨a1,hn,λa c b d e=>?_⟩,h2,λa c b d e=>?_⟩
 .subst e;rcases hd a d with z|z
  .exact g a c a z rfl
  .exact z (by simp[c])
 .subst e;rcases List.mem_append.mp c with c|c
  .exact f a (by simp[c]) a d rfl
  .rcases hd a c with z|z
   .exact f a (by simp[z]) a d rfl
   .exact z (by simp[d])
theorem Sg.Vd(S:Sg E ss Z F H){k:NK}{xs:List OV}{ho:HO}{lt:Bool}(hi:ss[i]?=some (.ow lt t))(C2:t.at p=some (.nd k a xs))(hn:Aj F (upd H a ho) (.ref a) n)(nd:n.addrs.Nodup)
  (B:∀b∈n.addrs,b∈(OV.nd k a xs).addrs∨(F b=none/\E.H0 b=none/\∀(j:Nat)s,ss[j]?=some s->¬ BD s Z[j]? b)):Sg E (ss.set i (.ow lt (t.put p n))) Z F (upd H a ho):=by
 obtain⟨v,e,r,VP,q⟩:=S.ok i _ hi;obtain⟨l,J,g,C⟩:=OV.split C2;have f:a∈(OV.nd k a xs).addrs:=by rw[OV.DJ];simp
 have u:∀b∈(OV.nd k a xs).addrs,b∈t.addrs:=λb c=>by rw[g];simp[c]
 have T:∀b∈n.addrs,b∈(OV.nd k a xs).addrs∨b∉t.addrs:=λb c=>(B b c).imp id λz m=>z.2.2 i _ hi m;obtain⟨w,x,go⟩:=r.at C2;have L:w=.ref a:=by cases x;rfl
 subst L;have h:∀(j:Nat)s,(ss.set i .any)[j]?=some s->∀b,b∈t.addrs->¬ BD s Z[j]? b:=λj s d b c m=>by
  by_cases z:j=i
  .subst z;rw[Bw (List.getElem?_eq_some_iff.mp hi).1]at d;cases d;cases m
  .rw[Br (BG z)]at d;exact S.BL j i s _ b z d hi m c
 have R:=(S.drop i).OI (o:=ho) (q a (u a f)).1 ((q a (u a f)).2.imp id λz=>z.2) λj s d=>h j s d a (u a f);have y:=VP;rw[g,CG,CG]at y;obtain⟨⟨_,_,N⟩,_,M⟩:=y;have Q:∀b,b∈l++J->b≠a:=λb c z=>by
  subst z;rcases List.mem_append.mp c with c|c
  .exact N b c b f rfl
  .exact M b (by simp[f]) b c rfl
 have K:Aj F (upd H a ho) v (t.put p n):=go _ n hn λV U g1 W b c o I=>by
  rw[Af ?_];exact I;rintro rfl;have A:=VP;rw[g1,CG,CG]at A;obtain⟨⟨_,_,P⟩,_,O⟩:=A;rcases List.mem_append.mp c with c|c
  .exact P b c b f rfl
  .exact O b (by simp[f]) b c rfl
 have D:∀b∈(t.put p n).addrs,b∈t.addrs∨(F b=none/\E.H0 b=none/\∀(j:Nat)s,ss[j]?=some s->¬ BD s Z[j]? b):=λb c=>by
  rw[C]at c;rcases List.mem_append.mp c with c|c
  .rcases List.mem_append.mp c with c|c
   .exact .inl (by rw[g];simp[c])
   .exact(B b c).imp (u b) id
  .exact .inl (by rw[g];simp[c])
 have G:=R.setG (j:=i) (s:=.ow lt (t.put p n)) (v:=v) ⟨v,rfl,K,by rw[C];exact YA (g▸VP) nd λb c=>(T b c).imp id (by rw[g];exact id),λb c=>(D b c).elim (q b) λz=>⟨z.1,.inl z.2.1⟩⟩ λb c j s d hs m=>by
  rcases D b c with z|z
  .exact h j s hs b z m
  .rw[Br (BG d)]at hs;exact z.2.2 j s hs m
 rw[Yw e,Nf]at G;exact G
structure Wl [Xw] (ss:List Slot) (i:Nat) (t:OV) (te:TE) (k:List Nat->OV->Prop):Prop where
 hi:∃lt,ss[i]?=some (.ow lt t)
 go:∀(E:Ent)(Z:L2.St)(F H:Hp)(Q:VK),Sg E ss Z F H->(∀v p u F' H',Mv E ss Z F H F' H'->Aj F' H' v u->t.at p=some u->k p u->Q v H')->te Z H Q
noncomputable def Dl:List Nat->List Slot->List Slot
 | [],ss=>ss
 |i::m,ss=>Dl m (ss.set i .any)
structure Wx [Xw] (ss:List Slot) (te:TE) (k:List Nat->OV->Prop):Prop where
 go:∀(E:Ent)(Z:L2.St)(F H:Hp)(Q:VK),Sg E ss Z F H->(∀v m u F' H',Mv E ss Z F H F' H'->Aj F' H' v u->u.addrs.Nodup->(∀a∈u.addrs,F' a=none/\E.H0 a=none/\((∃i∈m,∃s,s≠Slot.AG/\ss[i]?=some s/\BD s Z[i]? a)∨H a=none))->k m u->Q v H')->te Z H Q
structure Kq [Xw] (ss:List Slot) (te:TA) (k:List Nat->List OV->Prop):Prop where
 go:∀(E:Ent)(Z:L2.St)(F H:Hp)(Q:List V->Hp->Prop),Sg E ss Z F H->(∀vs m us F' H',Mv E ss Z F H F' H'->BO F' H' vs us->(OV.An us).Nodup->(∀a∈OV.An us,F' a=none/\E.H0 a=none/\((∃i∈m,∃s,s≠Slot.AG/\ss[i]?=some s/\BD s Z[i]? a)∨H a=none))->k m us->Q vs H')->te Z H Q
section
variable[Xw]
variable{K:ZJR}{k:PV->Prop}
theorem OV.Jo(h:t.at p=some u):∀a∈u.addrs,a∈t.addrs:=λa b=>by
 obtain⟨l,r,e,_⟩:=OV.split h;rw[e];simp[b]
theorem Aj.mv(r:Aj F H v u)(S:Sg E ss Z F H)(hi:∃lt,ss[i]?=some (.ow lt t))(h:t.at p=some u)(m:Mv E ss Z F H F' H'):Aj F' H' v u:=
 r.mono m.ff λa b o e=>m.hh a o (S.Ny hi.choose_spec (OV.Jo h a b) (by simp)) e
theorem Cm{lt:Bool}{k:List Nat->OV->Prop}(hi:ss[i]?=some (.ow lt t))(a:k [] t):Wl ss i t (BX i) k:=⟨⟨lt,hi⟩,λE Z F H Q S q=>by
 obtain⟨v,e,r,_,_⟩:=S.ok i _ hi;exact⟨v,e,q v [] t F H (.refl S) r OV.KR a⟩⟩
theorem R5{k:List Nat->OV->Prop}(h:Wl ss i t ta λp u=>∃a xs,u=.nd .lst a xs/\Wp ss tb λq=>∃(j:Int)(n:Nat)(w:OV),q=.int j/\Hz xs.length j=some n/\xs[n]?=some w/\k (p++[n]) w):Wl ss i t (Bv (LS K) ta tb) k:=⟨h.hi,λE Z F H Q S q=>
 h.go E Z F H _ S λv p u F1 H1 b m h1⟨a,xs,r,h2⟩=>h2.go E Z F1 H1 _ b.st λv2 p2 F2 H2 d l⟨j,n,w,e,hn,hw,kk⟩=>by
  subst e;cases l.inv;have g:=m.mv b.st h.hi h1 d;subst r;obtain⟨_,rfl,o,s,y,c⟩:=g.inv;obtain⟨x,hx,f⟩:=c.get hw;refine⟨a,_,j,x,rfl,rfl,AK.of o,?_,q x (p++[n]) w F2 H2 (b.trans d) f (OV.MW h1 (by rw[OV.L3,hw];exact OV.KR)) kk⟩;unfold L2.Be;rw[c.length,hn];exact hx⟩
theorem Td{k:List Nat->OV->Prop}(h:Wl ss i t ta λp u=>∃xs,u=.tp xs/\Wp ss tb λq=>∃(j:Int)(n:Nat)(w:OV),q=.int j/\Hz xs.length j=some n/\xs[n]?=some w/\k (p++[n]) w):Wl ss i t (Bv (KQ K) ta tb) k:=⟨h.hi,λE Z F H Q S q=>
 h.go E Z F H _ S λv p u F1 H1 b l h1⟨xs,o,h2⟩=>h2.go E Z F1 H1 _ b.st λv2 p2 F2 H2 a g⟨j,n,w,e,hn,hw,kk⟩=>by
  subst e;cases g.inv;have f:=l.mv b.st h.hi h1 a;subst o;obtain⟨_,_,rfl,m,c⟩:=f.inv;obtain⟨x,hx,d⟩:=c.get hw;refine⟨_,_,j,x,rfl,rfl,AD.of (a.st.fh _ _ m),?_,q x (p++[n]) w F2 H2 (b.trans a) d (OV.MW h1 (by rw[OV.P1,hw];exact OV.KR)) kk⟩;unfold L2.Be;rw[c.length,hn];exact hx⟩
theorem DZ(h:Wl ss i t te λ_ u=>∃p,u=.fz p/\k p):Wp ss te k:=⟨λE Z F H Q S q=>
 h.go E Z F H _ S λv p u F1 H1 b a h1 AV=>by obtain⟨p,c,kk⟩:=AV;subst c;cases a with|fz r=>exact q v p F1 H1 b r kk⟩
theorem Es{k:List Nat->OV->Prop}(h:Wp ss te λp=>k [] (.fz p)):Wx ss te k:=⟨λE Z F H Q S q=>
 h.go E Z F H _ S λv p F1 H1 c r kk=>q v [] (.fz p) F1 H1 c (.fz r) (by rw[OV.Kt];exact Nd) (λa b=>by rw[OV.Kt]at b;cases b) kk⟩
theorem lO(a:Addr)(xs:List PV):(OV.nd .lst a (xs.map .fz)).addrs=[a]:=by rw[OV.DJ,jh];rfl
theorem wg{k:List Nat->OV->Prop}(hi:ss[i]?=some (.own xs))(h:∀l,k [i] (.nd .lst l (xs.map .fz))):Wx ss (BX i) k:=⟨λE Z F H Q S q=>by
 obtain⟨l,vs,e,f,d,c,r⟩:=S.ok i _ hi;refine⟨_,e,q _ [i] _ F H (.refl S) (.nd (k:=.lst) c trivial trivial (uh r)) (by rw[lO];simp) (λa b=>?_) (h l)⟩;rw[lO]at b;have ea:a=l:=by simpa using b
 subst ea;exact⟨f,d,.inl ⟨i,by simp,_,by simp,hi,e⟩⟩⟩
theorem SA{k:List Nat->List OV->Prop}(h:k [] []):Kq ss BC k:=⟨λE Z F H Q S q=>q _ [] [] F H (.refl S) .nil (by rw[OV.IJ];exact Nd) (λa b=>by rw[OV.IJ]at b;cases b) h⟩
theorem Wx.ZDT(S:Sg E ss Z F H)(h:(∃i∈m,∃s,s≠Slot.AG/\ss[i]?=some s/\BD s Z[i]? a)∨H a=none):C6 ss Z a:=by
 rcases h with⟨j,_,s,hp,hs,o⟩|z
 .exact S.Ny hs o hp
 .exact S.MV z
theorem Mv.vD(m:Mv E ss Z F H F' H')(h:F a=Option.none)(h2:H a≠Option.none):F' a=Option.none:=by
 cases e:F' a with
 |none=>rfl
 |some o=>
  rcases m.nn a o e with z|z
  .rw[h]at z;cases z
  .exact absurd z h2
theorem O8{k:List Nat->List OV->Prop}(h:Wx ss te λm u=>Kq ss tr λd us=>(∀i∈m,i∉d)/\k (m++d) (u::us)):Kq ss (Ab te tr) k:=⟨λE Z F H Q S q=>
 h.go E Z F H _ S λv m u F1 H1 p n EA a1 h2=>h2.go E Z F1 H1 _ p.st λvs y us F2 H2 d A GW a2 AV=>by
  obtain⟨D,kk⟩:=AV;have np:∀a∈u.addrs,C6 ss Z a:=λa c=>Wx.ZDT S (a1 a c).2.2;refine q (v::vs) (m++y) (u::us) F2 H2 (p.trans d) (.cons (n.mono d.ff λa c o e=>d.hh a o (np a c) e) A) ?_ (λa c=>?_) kk
  .rw[OV.DG,CG];refine⟨EA,GW,λa c b C e=>?_⟩;subst e;rcases(a2 a C).2.2 with⟨B,r,s2,LC,EJ,x⟩|z
   .rcases(a1 a c).2.2 with⟨j,g,s,hp,hs,o⟩|z
    .exact S.BL j B s s2 a (by rintro rfl;exact D j g r) hs EJ o x
    .exact S.E5 EJ x z
   .exact n.there a c z
  .rw[OV.DG]at c;rcases List.mem_append.mp c with c|c
   .obtain⟨f,t,w⟩:=a1 a c;exact⟨d.vD f (n.there a c),t,w.imp (λJD=>by obtain⟨j,g,z⟩:=JD;exact⟨j,by simp[g],z⟩) id⟩
   .obtain⟨f,t,w⟩:=a2 a c;exact⟨f,t,w.imp (λl=>by obtain⟨j,g,z⟩:=l;exact⟨j,by simp[g],z⟩) p.none⟩⟩
theorem ZC3{k:List Nat->OV->Prop}(h:Kq ss tr λm us=>us.length<=100000/\k m (.tp us)):Wx ss (Nn tr) k:=⟨λE Z F H Q S q=>
 h.go E Z F H _ S λvs m us F1 H1 g c EA a1 AV=>by obtain⟨i,kk⟩:=AV;exact⟨small (by rw[c.length];exact i),λp hp=>by
  have d:=g.st.alloc hp (.tup vs);refine q _ m (.tp us) _ _ (g.trans d) (.tp AJ (c.mono d.ff λa b o e=>by rw[Af (by rintro rfl;exact c.there _ b hp)];exact e)) (by rw[OV.Gp];exact EA) (λa b=>?_) kk;rw[OV.Gp]at b;obtain⟨f,j,w⟩:=a1 a b;exact⟨by rw[Af (by rintro rfl;exact c.there _ b hp)];exact f,j,w⟩⟩⟩
theorem lJ{k:List Nat->OV->Prop}(h:Kq ss tr λm us=>us.length<=100000/\∀l,k m (.nd .lst l us)):Wx ss (TM tr) k:=⟨λE Z F H Q S q=>
 h.go E Z F H _ S λvs m us F1 H1 c d EA a1 AV=>by obtain⟨j,kk⟩:=AV;exact⟨small (by rw[d.length];exact j),λp hp=>by
  have g:=c.st.make hp (.lst vs);have i:p∉OV.An us:=λb=>d.there _ b hp;refine q _ m (.nd .lst p us) _ _ (c.trans g) (.nd (k:=.lst) AJ trivial trivial (d.mono g.ff λa b o e=>by rw[Af (by rintro rfl;exact i b)];exact e)) ?_ (λa b=>?_) (kk p)
  .rw[OV.DJ];exact List.nodup_cons.mpr ⟨i,EA⟩
  .rw[OV.DJ]at b;rcases List.mem_cons.mp b with e|b
   .subst e;exact⟨c.st.BM hp,c.st.DK hp,.inr (c.none hp)⟩
   .obtain⟨f,n,w⟩:=a1 a b;exact⟨f,n,w⟩⟩⟩
theorem OH{j:Nat}{s:Slot}:∀{m:List Nat}{ss:List Slot},(Dl m ss)[j]?=some s->s=.any∨(ss[j]?=some s/\j∉m)
 | [],ss,h=>.inr ⟨h,by simp⟩
 |i::m,ss,h=>by
  rcases OH (m:=m) (ss:=ss.set i .any) h with e|⟨e,hm⟩
  .exact .inl e
  .by_cases q:j=i
   .subst q;have a:j<ss.length:=by have:=(List.getElem?_eq_some_iff.mp e).1;simpa using this
    rw[Bw a]at e;exact .inl (BI e).symm
   .rw[Br (BG q)]at e;exact .inr ⟨e,by simp[q,hm]⟩
theorem Sg.Dl{E:Ent0}{Z:L2.St}{F H:Hp}:∀(m:List Nat){ss:List Slot},Sg E ss Z F H->Sg E (Fz.Dl m ss) Z F H
 | [],_,S=>S
 |i::m,_,S=>Sg.Dl m (S.drop i)
theorem Sg.nV(S0:Sg E ss Z F0 H0)(S:Sg E ss Z F H)(r:Aj F H v u)(nd:u.addrs.Nodup)(hu:∀a∈u.addrs,F a=none/\E.H0 a=none/\((∃i∈m,∃s,s≠Slot.AG/\ss[i]?=some s/\BD s Z[i]? a)∨H0 a=none)):
  Sg E ((Fz.Dl m ss).set j (.ow false u)) (Z.set j (some v)) F H:=by
 refine(S.Dl m).setG ⟨v,rfl,r,nd,λa b=>⟨(hu a b).1,.inl (hu a b).2.1⟩⟩ λa b i s CB hs o=>?_;rcases OH hs with e|⟨GN,hm⟩
 .subst e;cases o
 .rcases(hu a b).2.2 with⟨i2,Dx,s2,_,EJ,c⟩|z
  .exact S.BL i i2 s s2 a (by rintro rfl;exact hm Dx) GN EJ o c
  .exact S0.E5 GN o z
theorem Yq(h:Wx ss te λm u=>nx ((Fz.Dl m ss).set j (.ow false u))):Ws ss (GC te (Du j)) nx R:=⟨λE D Z F H S hn b=>
 h.go E Z F H _ S λv m u F1 H1 a r nd hu kk=>hn _ _ F1 H1 kk (Sg.nV S a.st r nd hu) a.ff⟩
theorem Aj.rep(ff:A8 F F1):∀{v:V}{t:OV},Aj F H v t->(∀a∈t.addrs,∀o,H a=some o->F1 a=some o)->Rep F1 v t.pv:=by
 intro v t r h;exact Aj.rec (motive_1:=λv t _=>(∀a∈t.addrs,∀o,H a=some o->F1 a=some o)->Rep F1 v t.pv) (motive_2:=λvs ts _=>(∀a∈OV.An ts,∀o,H a=some o->F1 a=some o)->AW F1 vs (OV.Ft ts))
  (λ{v p}r _=>by rw[OV.pv];exact r.mono ff)
  (λ{a vs xs}e _ c h=>by rw[OV.pv];exact .tup (ff _ _ e) (c (by rw[OV.Gp]at h;exact h)))
  (λ{k a vs xs}e i g _ c h=>by
   rw[OV.DJ]at h;have f:=c λa b=>h a (by simp[b]);have d:=h a (by simp) _ e;cases k with
   |lst=>rw[OV.pv];exact .lst d f
   |B1 ks=>rw[OV.pv];exact .B1 d g f
   |obj C dx ns=>rw[OV.pv];exact .obj d (h dx (by simp[NK.more]) _ i) g f
   |RI ks=>rw[OV.pv];exact .con)
  (λ_=>by rw[OV.Ft];exact .nil)
  (λ_ _ Nk ON h=>by
   rw[OV.DG]at h;rw[OV.Ft];exact .cons (Nk λa b=>h a (by simp[b])) (ON λa b=>h a (by simp[b])))
  r h
variable{lt:Bool}
theorem NJ:(OV.nd .lst a us).addrs=a::OV.An us:=by rw[OV.DJ];rfl
theorem Le:∀(us ws:List OV),OV.An (us++ws)=OV.An us++OV.An ws
 | [],ws=>by rw[b4,OV.IJ,b4]
 |u::us,ws=>by rw[aj,OV.DG,OV.DG,Le us ws,Bd]
theorem N6(u:OV):OV.An [u]=u.addrs:=by rw[OV.DG,OV.IJ,E8]
theorem Sg.ZCS{BQ:List OV}(S0:Sg E ss Z F0 H0)(S:Sg E ss Z F H)(hi:ss[i]?=some (.ow lt t))(C2:t.at p=some (.nd .lst a us))
  (hu:∀a∈u.addrs,F a=none/\E.H0 a=none/\((∃i∈m,∃s,s≠Slot.AG/\ss[i]?=some s/\BD s Z[i]? a)∨H0 a=none)) (Eb:i∉m)
  (C:BO F H CJ BQ) (Q3:(OV.An BQ).Nodup) (Eg:∀b∈OV.An BQ,b∈OV.An us∨b∈u.addrs):Sg E ((Fz.Dl m ss).set i (.ow lt (t.put p (.nd .lst a BQ)))) Z F (upd H a (.lst CJ)):=by
 have J:(Fz.Dl m ss)[i]?=some (.ow lt t):=by
  have f:∀(m:List Nat)(ss:List Slot),ss[i]?=some (.ow lt t)->i∉m->(Fz.Dl m ss)[i]?=some (.ow lt t):=by
   intro m
   induction m with
   |nil=>intro ss h _;exact h
   |cons j m B=>
    intro ss h d;refine B _ ?_ λz=>d (by simp[z]);rw[Br (by rintro rfl;exact d (by simp))];exact h
  exact f m ss hi Eb
 obtain⟨v,e,r,nd,q⟩:=S.ok i _ hi;have x:∀b,b∈a::OV.An us->b∈t.addrs:=λb c=>OV.Jo C2 b (by rw[NJ];exact c);have I:∀b∈u.addrs,b∉t.addrs:=λb c z=>by
  rcases(hu b c).2.2 with⟨j,D,s,_,hs,o⟩|w
  .exact S.BL j i s _ b (by rintro rfl;exact Eb D) hs hi o z
  .exact S0.E5 hi z w
 have n:(OV.nd .lst a us).addrs.Nodup:=by
  obtain⟨l,K,G,_⟩:=OV.split C2;rw[G,CG,CG]at nd;exact nd.1.2.1
 rw[NJ]at n;have g:∀b∈OV.An BQ,b≠a:=λb c z=>by
  subst z;rcases Eg b c with w|w
  .exact(List.nodup_cons.mp n).1 w
  .exact I b w (x b (by simp))
 refine(S.Dl m).Vd J C2 (.nd (k:=.lst) AJ trivial trivial (C.mono (A8.refl _) λb c o ho=>by rw[Af (g b c)];exact ho)) (by rw[NJ];exact List.nodup_cons.mpr ⟨λz=>g a z rfl,Q3⟩) λb c=>?_;rw[NJ]at c ⊢;rcases List.mem_cons.mp c with w|w
 .exact .inl (by simp[w])
 .rcases Eg b w with z|z
  .exact .inl (by simp[z])
  .refine .inr ⟨(hu b z).1,(hu b z).2.1,λj s hs o=>?_⟩;rcases OH hs with y|⟨GN,d⟩
   .subst y;cases o
   .rcases(hu b z).2.2 with⟨i2,Dx,s2,_,EJ,A⟩|y
    .exact S.BL j i2 s s2 b (by rintro rfl;exact d Dx) GN EJ o A
    .exact S0.E5 GN o y
theorem cO(h:Wl ss i t ta λp u=>∃lt a us,ss[i]?=some (.ow lt t)/\u=.nd .lst a us/\us.length<=99999/\Wx ss te λm w=>i∉m/\nx ((Dl m ss).set i (.ow lt (t.put p (.nd .lst a (us++[w])))))):Ws ss (Je (QR K "list" P6 ta (Ab te BC))) nx R:=⟨λE D Z F H S hn V=>
 h.go E Z F H _ S λv p u F1 H1 c I h1⟨lt,a,us,hi,P,J,hw⟩=>by
  subst P;cases I with
  |@nd k W vs _ r B O g=>
   refine .inl ⟨rfl,_,AK.of r⟩ |> λn=>⟨n,hw.go E Z F1 H1 _ c.st λv2 m w F2 H2 d G GW a2⟨Eb,kk⟩=>?_⟩;have C:=(Aj.nd (k:=.lst) r B O g).mv c.st h.hi h1 d;cases C with
   |@nd _ _ Wf _ YK A N XU=>
    refine⟨a,Wf,v2,rfl,rfl,YK,Mb (by rw[XU.length];exact J),?_⟩;refine hn _ Z F2 _ kk (Sg.ZCS (u:=w) c.st d.st hi h1 a2 Eb (XU.append (.one G)) ?_ λb q=>?_) (c.ff.trans d.ff)
    .rw[Le,N6,CG];obtain⟨T,e0,U,EO,n⟩:=d.st.ok i _ hi;have z:(OV.nd .lst a us).addrs.Nodup:=by
      obtain⟨l,g,Q,_⟩:=OV.split h1;rw[Q,CG,CG]at EO;exact EO.1.2.1
     rw[NJ]at z;refine⟨(List.nodup_cons.mp z).2,GW,λx hx y L e=>?_⟩;subst e;have f:x∈t.addrs:=OV.Jo h1 x (by rw[NJ];simp[hx]);rcases(a2 x L).2.2 with⟨j,M,s,_,hs,o⟩|w
     .exact c.st.BL j i s _ x (by rintro rfl;exact Eb M) hs hi o f
     .exact c.st.E5 hi f w
    .rw[Le,N6]at q;exact List.mem_append.mp q⟩
theorem eB{k:OV->Prop}(h:Wx ss te λ_ u=>k u):Ws ss (JF te) nx (.ow k):=⟨λE D Z F H S hn d=>
 h.go E Z F H _ S λv m u F1 H1 c r nd hu kk=>d v F1 H1 c.st.toFin ⟨u,r,nd,λa b=>⟨(hu a b).1,(hu a b).2.1⟩,kk⟩⟩
theorem ZGn{ta:TA}{k:List Nat->OV->Prop}(c:ss[j]?=some .AG)(h:Wa ss ta λl=>∃k',pre (.AG::l) (.ow k')/\∀u,k' u->k [] u):Wx ss (CZ (Al pre) [] E0 (Ab (BX j) ta)) k:=⟨λE Z F H Q S q=>by
 obtain⟨p,e,_⟩:=S.ok j _ c;refine⟨_,e,h.go E Z F H _ S λvs l F1 H1 b a⟨k',hp,kk⟩=>?_⟩;show Al pre ((V.ref p::vs)++[]) H1 Q E0;rw[E8];refine⟨.AG::l,.ow k',F1,[p],hp,b.st.m9 c e a,λv F' H' f⟨u,r,nd,hu,g⟩=>?_⟩;exact q v [] u F' H' (b.trans (b.st.back (A:=[p]) (λa h=>⟨j,c,(show a=p from by simpa using h)▸e⟩) f)) r nd (λa d=>⟨(hu a d).1,S.DK (b.none (hu a d).2),.inr (b.none (hu a d).2)⟩) (kk u g)⟩
end
def ptr(a:Addr):Hp->V->Prop:=λ_ v=>v=.ref a
def Cj:List Slot->L2.St->List Addr
 | .own _::ss,some (.ref l)::Z=>l::Cj ss Z
 | .ow _ t::ss,_::Z=>t.addrs++Cj ss Z
 |_::ss,_::Z=>Cj ss Z
 |_,_=>[]
theorem lV:∀{ss:List Slot}{Z:L2.St}{a:Addr},a∈Cj ss Z->∃(i:Nat)(s:Slot),ss[i]?=some s/\s≠.AG/\BD s Z[i]? a
 | [],Z,a,h=>absurd h B0
 |s::ss,[],a,h=>by cases s <;> exact absurd h B0
 |s::ss,o::Z,a,h=>by
  have up:a∈Cj ss Z->∃(i:Nat)(s':Slot),(s::ss)[i]?=some s'/\s'≠.AG/\BD s' (o::Z)[i]? a:=λh=>by
   obtain⟨i,s',h1,h2,b⟩:=lV h;exact⟨i+1,s',by simpa using h1,h2,by simpa using b⟩
  cases s with
  |own xs=>
   cases o with
   |none=>exact up h
   |some v=>
    cases v with
    |ref l=>
     have h:a∈l::Cj ss Z:=h;rcases List.mem_cons.mp h with e|h
     .subst e;exact⟨0,_,rfl,by simp,rfl⟩
     .exact up h
    |_=>exact up h
  |ow lt t=>
   have h:a∈t.addrs++Cj ss Z:=h;rcases List.mem_append.mp h with h|h
   .exact⟨0,_,rfl,by simp,h⟩
   .exact up h
  |_=>exact up h
theorem S6:∀{ss:List Slot}{Z:L2.St}{i:Nat}{s:Slot}{a:Addr},ss.length=Z.length->ss[i]?=some s->s≠.AG->BD s Z[i]? a->a∈Cj ss Z
 | [],Z,i,s,a,_,h,_,_=>by simp at h
 |s0::ss,[],i,s,a,hl,_,_,_=>by simp at hl
 |s0::ss,o::Z,0,s,a,hl,h,hp,ho=>by
  simp at h;subst h;cases s0 with
  |own xs=>
   have e:o=some (.ref a):=by have:some o=some (some (V.ref a)):=ho;exact BI this
   subst e;exact CV
  |ow lt t=>exact Ei _ ho
  |AG=>exact absurd rfl hp
  |_=>cases ho
 |s0::ss,o::Z,i+1,s,a,hl,h,hp,ho=>by
  have q:=S6 (ss:=ss) (Z:=Z) (i:=i) (a:=a) (by simpa using hl) (by simpa using h) hp (by simpa using ho)
  cases s0 with
  |own xs=>cases o with
   |none=>exact q
   |some v=>cases v with
    |ref l=>exact Ck _ q
    |_=>exact q
  |ow lt t=>exact DE _ q
  |_=>exact q
theorem Aj.ZGh(r:Aj F H v t):∀a∈t.addrs,∀vs,H a≠some (.tup vs):=
 Aj.rec (motive_1:=λ_ t _=>∀a∈t.addrs,∀vs,H a≠some (.tup vs)) (motive_2:=λ_ ts _=>∀a∈OV.An ts,∀vs,H a≠some (.tup vs))
  (λ_ a c _=>by rw[OV.Kt]at c;cases c)
  (λ_ _ i a c vs=>by rw[OV.Gp]at c;exact i a c vs)
  (λ{k}{b}{_}{_}h f _ _ i a c vs=>by
   rw[OV.DJ,E9,FY]at c;rcases c with rfl|c|c
   .rw[h];cases k <;> (intro z;cases z)
   .cases k with
    |obj C dx ns=>
     have e:a=dx:=List.mem_singleton.mp c;subst e;have d:H a=some (.own b):=f;rw[d];intro z;cases z
    |_=>exact absurd c B0
   .exact i a c vs)
  (λa c _=>by rw[OV.IJ]at c;cases c)
  (λ_ _ i k a c ws=>by
   rw[OV.DG,FY]at c;rcases c with c|c
   .exact i a c ws
   .exact k a c ws)
  r
mutual
def FL:PV->Bool
 | .lst _=>false
 | .B1 _ _=>false
 | .obj _ _ _=>false
 | .exc _ _ _=>false
 | .tup xs=>Ii xs
 |_=>true
def Ii:List PV->Bool
 | []=>true
 |x::r=>FL x && Ii r
end
noncomputable def G9(F:Hp)(as:List Addr):Hp:=λa=>if a∈as then none else F a
theorem Rep.sub{as:List Addr}(h:∀a∈as,∀vs,F a≠some (.tup vs)):∀{v:V}{p:PV},Rep F v p->FL p=true->Rep (G9 F as) v p:=by
 intro v p r hn;exact Rep.rec (motive_1:=λv p _=>FL p=true->Rep (G9 F as) v p) (motive_2:=λvs ps _=>Ii ps=true->AW (G9 F as) vs ps)
  (λ_=>.AB) (λb _=>.bl b) (λi _=>.int i) (λx _=>.str x)
  (λ_ _ _ z=>Bool.noConfusion (show false=true from z))
  (λ{a vs xs}e _ c z=>.tup (by unfold G9;rw[sN (λq=>h a q vs e)];exact e) (c z))
  (λ_ _ _ _ z=>Bool.noConfusion (show false=true from z))
  (λ_ _ _ _ _ z=>Bool.noConfusion (show false=true from z))
  (λ_=>.con)
  (λ_ z=>Bool.noConfusion (show false=true from z))
  (λ_ _ _ _ _ z=>Bool.noConfusion (show false=true from z))
  (λ_=>.nil)
  (λ_ _ Nk ON z=>by
   have z:=(FC _ _).mp z;exact .cons (Nk z.1) (ON z.2))
  r hn
structure Wb [Xw] (ss:List Slot) (ta:TA) (k:List PV->Prop):Prop where
 go:∀(E:Ent)(Z:L2.St)(F H:Hp)(Q:List V->Hp->Prop),Sg E ss Z F H->(∀vs ps F' H',Mv E ss Z F H F' H'->AW (Bo F' H' (Cj ss Z)) vs ps->k ps->Q vs H')->ta Z H Q
theorem Sg.as(S:Sg E ss Z F H)(h:a∈Cj ss Z):F a=none/\H a≠none/\(∀vs,H a≠some (.tup vs))/\C6 ss Z a:=by
 obtain⟨i,s,hs,hp,ho⟩:=lV h;refine⟨S.ZAj hs ho,S.E5 hs ho,?_,S.Ny hs ho hp⟩;have k:=S.ok i s hs;cases s with
 |own xs=>obtain⟨l,vs,e,_,_,b,_⟩:=k;rw[show Z[i]?=some (some (.ref a))from ho]at e;cases e;rw[b];simp
 |ow lt t=>obtain⟨v,_,r,_⟩:=k;exact r.ZGh a ho
 |AG=>exact absurd rfl hp
 |_=>cases ho
theorem Sg.HG(S:Sg E ss Z F H):A8 F (Bo F H (Cj ss Z))/\A8 (Bo F H (Cj ss Z)) H:=by
 refine⟨λa o e=>?_,λa o e=>?_⟩
 .unfold Bo;rw[sN (λq=>by rw[(S.as q).1]at e;cases e)];exact e
 .unfold Bo at e;split at e
  .exact e
  .exact S.fh a o e
theorem Sg.lend(S:Sg E ss Z F H)(r:AW (Bo F H (Cj ss Z)) vs ps):Sg (E3 [] (Bo F H (Cj ss Z)) H) (ps.map .is) (vs.map some) (Bo F H (Cj ss Z)) H:=by
 have nn:∀{p:Prop}(a:Addr),a∈([]:List Addr)->p:=λa h=>absurd h B0;refine⟨⟨S.HG.2,A8.refl _,λ_ _ _ e=>e,λ_ _ e=>.inl e,λa h=>nn a h,λa h=>nn a h,λa h=>nn a h,λa h=>nn a h,λa h=>nn a h,λa h=>nn a h⟩,by rw[AU,AU,r.length],λi s hi=>?_,λi j s u l CB hi f ms d=>?_⟩
 .rw[Am]at hi;cases e:ps[i]? with
  |none=>rw[e]at hi;cases hi
  |some p=>
   rw[e]at hi;obtain⟨v,c,b⟩:=r.get e;have es:Slot.is p=s:=BI hi;subst es;rw[Am,c];exact⟨v,rfl,b⟩
 .rw[Am]at hi;cases e:ps[i]? with
  |none=>rw[e]at hi;cases hi
  |some p=>rw[e]at hi;have es:Slot.is p=s:=BI hi;subst es;cases ms
theorem Sg.RP(S:Sg E ss Z F H)(f:Fin (E3 [] (Bo F H (Cj ss Z)) H) F' H'):Mv E ss Z F H (G9 F' (Cj ss Z)) H'/\∀a∈Cj ss Z,∀vs,F' a≠some (.tup vs):=by
 have kp:∀a o,H a=some o->H' a=some o:=λa o e=>f.keep a o ⟨B0,B0⟩ e;refine⟨S.step (λa o e=>?_) (λa o e=>?_) (λa o _ e=>kp a o e) (λa o e=>?_) (λi l hi e=>BR.keep (S.Et hi e) λo e=>kp l o e),λa c vs e=>?_⟩
 .unfold G9;rw[sN (λq=>by rw[(S.as q).1]at e;cases e)];exact f.f0 a o (S.HG.1 a o e)
 .unfold G9 at e;split at e
  .cases e
  .exact f.fh a o e
 .unfold G9 at e;split at e
  .cases e
  .rename_i q;rcases f.fresh a o e with z|z
   .left
    have b:Bo F H (Cj ss Z) a=some o:=z;unfold Bo at b;rw[sN q]at b;exact b
   .exact .inr z
 .obtain⟨o,ho⟩:=Option.ne_none_iff_exists'.mp (S.as c).2.1;have z:F' a=some o:=f.f0 a o (by show Bo F H (Cj ss Z) a=some o;unfold Bo;rw[sZ c];exact ho);rw[z]at e;cases e;exact(S.as c).2.2.1 vs ho
section
variable[Xw]
variable{K:ZJR}{k:PV->Prop}{lt:Bool}
theorem mO{k:List PV->Prop}(h:k []):Wb ss BC k:=⟨λE Z F H Q S q=>q _ _ F H (.refl S) .nil h⟩
theorem bx{k:List PV->Prop}(h:Wp ss te λp=>Wb ss tr λps=>k (p::ps)):Wb ss (Ab te tr) k:=⟨λE Z F H Q S q=>
 h.go E Z F H _ S λv p F1 H1 b d h2=>h2.go E Z F1 H1 _ b.st λvs ps F2 H2 a c kk=>q _ _ F2 H2 (b.trans a) (.cons ((d.mono a.ff).mono a.st.HG.1) c) kk⟩
end
theorem RM:∀{xs:List PV},(∀x∈xs,CN x x=true)->D1 xs xs=true
 | [],_=>by rw[D1]
 |x::r,h=>by rw[RD,h x (by simp),RM (xs:=r) λy a=>h y (by simp[a])];rfl
theorem ia{K:ZJR}:∀(d:Nat){p:PV},dat K d p->CN p p=true:=by
 intro d
 induction d with
 |zero=>intro p h;cases p <;> first|exact h.elim|rfl|exact vX _
 |succ d b=>
  intro p h;cases p with
  |lst xs=>show D1 xs xs=true;exact RM λx hx=>b (h x hx)
  |tup xs=>show D1 xs xs=true;exact RM λx hx=>b (h x hx)
  |con a xs=>show D1 xs xs=true;exact RM λx hx=>b (h.1 x hx)
  |_=>first|exact h.elim|rfl|exact vX _
end Fz
namespace L2
variable{M:Model}{A:Around}{E xe:Value->Shared->Prop}{s:Shared}{Zv:Heap}{env:Env}{outer:List Env}{C S ea f fI:Addr}{dx tb:Option Addr}{w:World}{mg:ZJT}{N ps sn:List Str}{n name par qual x:Str}{scope:Scope}{cd v:Value}{H:Hp}{X:Cx}{E':St->XK}{D4 KH np p pos:Pos}{e e0:Expr}{es:List Expr}{t:TA}{ZGO ab:Bool}{prog:Program}{ZJG Zo:ZJS}{Z:St}{j kk:Nat}{fd:FuncData}{body jO:List Stmt}{b0:Stmt}{bG:(St->XK)->TS}{th:TS}{sp:Sp}
theorem DC{α:Type}{l:List α}{n:Nat}(h:l.length=n+1):∃a r,l=a::r/\r.length=n:=by
 cases l with
 |nil=>cases h
 |cons a r=>exact⟨a,r,rfl,M9 h⟩
section
variable{K:ZJR}{x t:Addr}
section
open PySem.Builtin PySem.Builtin.ObjectAttr
end
end
end L2
namespace Fz
open L2 Lw
variable{xs:List PV}{E:Ent0}{ss:List Slot}{Z:L2.St}{F F' H H':Hp}{ta tb tc te:TE}{tp:Bool}{nx:List Slot->Prop}{R:AX}{α:Type}{cs ms ns pre u:List Str}{x:Str}{g i:Nat}
structure Mc (K:ZJR) (a:Addr) (xs:List PV):Prop where
 JV:xs.all flat=true
 sq:∀H,AD K H a (xs.map Fz.enc)
 ob:∃o:Obj,K.lookup a=some o/\o.cls=.type "tuple"
theorem Mc.of{K:ZJR}{a:Addr}{vs:List V}(h:∀H,AD K H a vs)(e:xs.map Fz.enc=vs)(f:xs.all flat=true):Mc K a xs:=by
 subst e;refine⟨f,h,?_⟩;rcases h (λ_=>none)with h|⟨o,A4,n,h1,h2,_⟩
 .rcases h with h|⟨_,h⟩
  .cases h
  .cases h
 .exact⟨o,h1,h2⟩
def BV(ns:List Str)(g:Nat)(ms:List Str):List Str:=(ns.take g).filter (λx=>decide (x∈ms))++(ns.drop g).filter (λx=>!decide (x∈ms))
def eM:Pre:=λl R=>∃(tp:Bool)(ns:List Str)(g:Nat)(ms:List Str),l=[.sq tp (ns.map .str),.is (.tup [.int g,.tup (ms.map .str)])]/\ns.length<=1000/\R=.new λxs=>xs=(BV ns g ms).map .str
theorem kW(ns:List Str)(g:Nat)(ms:List Str):(BV ns g ms).length<=ns.length:=by
 unfold BV;rw[B2];have h1:=HB (λx=>decide (x∈ms)) (ns.take g);have h2:=HB (λx=>!decide (x∈ms)) (ns.drop g);rw[Bi]at h1;rw[Ct]at h2;omega
def K3(g:Nat)(ms ns:List Str)(i:Nat):Bool:=!alike (.bl (decide ((g:Int)<=(i:Int)))) (.bl (decide (ns.getD i "" ∈ms)))
theorem bT(f:Nat->Bool)(h:Str->Bool)(ns:List Str)(s:Nat):(∀i,i<ns.length->f (s+i)=h (ns.getD i ""))->(((List.range' s ns.length).filter f).map λi=>ns.getD (i - s) "")=ns.filter h:=by
 induction ns generalizing s with
 |nil=>intro _;rfl
 |cons x r d=>
  intro a;have g:f s=h x:=by simpa using a 0 (by simp)
  have b:=d (s+1) λi hi=>by
   have:=a (i+1) (by simpa using hi)
   rw[show s+1+i=s+(i+1) by omega]
   simpa using this
  rw[BK,ZIS,nq,nq,g];have e:((List.range' (s+1) r.length).filter f).map (λi=>(x::r).getD (i - s) "")=((List.range' (s+1) r.length).filter f).map λi=>r.getD (i - (s+1)) "" := by
   apply U8;intro i hi;have k:=(List.mem_range'_1.mp (List.mem_filter.mp hi).1).1;rw[show i - s=(i - (s+1))+1 by omega];simp
  by_cases c:h x=true
  .rw[c,sZ rfl,sZ rfl,Bs,e,b,IY];rfl
  .have j:h x=false:=by simpa using c
   rw[j,sN (by decide),sN (by decide),e,b]
theorem gM(ns:List Str)(g:Nat)(ms:List Str):((List.range ns.length).filter (K3 g ms ns)).map (λi=>PV.str (ns.getD i ""))=(BV ns g ms).map .str:=by
 have a:((List.range ns.length).filter (K3 g ms ns)).map (λi=>ns.getD i "")=BV ns g ms:=by
  have split:∀n,n<=ns.length->List.range ns.length=List.range' 0 n++List.range' n (ns.length - n):=λn hn=>by
   rw[List.range_eq_range',show ns.length=n+(ns.length - n) by omega,<- List.range'_append_1];simp
  unfold BV;have hn:min g ns.length<=ns.length:=oH _ _;rw[split _ hn,Lz,Bx]
  congr 1
  .have q:=bT (K3 g ms ns) (λx=>decide (x∈ms)) (ns.take g) 0 (λi hi=>by
    rw[Bi]at hi;have e:(ns.take g).getD i ""=ns.getD i "" := by rw[ES,ES,o6 (by omega)]
    rw[e,Nat.zero_add];unfold K3 alike;have:¬ ((g:Int)<=(i:Int)):=by omega
    rw[uz this];cases decide (ns.getD i "" ∈ms) <;> rfl)
   rw[<- q,Bi];apply U8;intro i hi;have c:=(List.mem_range'_1.mp (List.mem_filter.mp hi).1);rw[Qe,ES,ES,o6 (by omega)]
  .have q:=bT (K3 g ms ns) (λx=>!decide (x∈ms)) (ns.drop g) (min g ns.length) (λi hi=>by
    rw[Ct]at hi;have e:(ns.drop g).getD i ""=ns.getD (g+i) "" := by rw[ES,ES,U6]
    rw[e,Kk (by omega)];unfold K3 alike;have:((g:Int)<=((g+i:Nat):Int)):=by omega
    rw[rg this];cases decide (ns.getD (g+i) "" ∈ms) <;> rfl)
   rw[<- q,Ct];have b:ns.length - min g ns.length=ns.length - g:=by omega
   rw[b];apply U8;intro i hi;have c:=(List.mem_range'_1.mp (List.mem_filter.mp hi).1);rw[ES,ES,U6]
   congr 2
   omega
 rw[<- a,Hi];rfl
theorem tf(ms:List α)(x:α)(j:Nat):(ms.take j++x::ms.drop j).Perm (x::ms):=by
 have h:=oC (a:=x) (l₁:=ms.take j) (l₂:=ms.drop j)
 rwa [Hj]at h
theorem WB(j:Nat)(h:ms.Nodup)(hx:x∉ms):(ms.take j++x::ms.drop j).Nodup:=(tf ms x j).nodup_iff.mpr (List.nodup_cons.mpr ⟨hx,h⟩)
theorem YT(hi:i<ns.length):ns.take (i+1)=ns.take i++[ns.getD i ""]:=by
 rw[UC hi,ES,B7 hi];rfl
theorem ZAX(nd:ns.Nodup)(hi:i<ns.length):ns.getD i "" ∉ ns.take i:=by
 have h:=nd.sublist (ZIU (i+1) ns);rw[YT hi,CG]at h;intro hx;exact h.2.2 _ hx _ (by simp) rfl
theorem Nl:x∈BV ns g ms↔(x∈ns.take g/\x∈ms)∨(x∈ns.drop g/\x∉ms):=by
 unfold BV;rw[FY,Nc,Nc];simp
theorem jv(h:x∈BV ns g ms):x∈ns:=by
 rcases Nl.mp h with h|h
 .exact UA h.1
 .exact az h.1
theorem Ov(nd:ns.Nodup)(g:Nat)(ms:List Str):(BV ns g ms).Nodup:=by
 have h:(ns.take g++ns.drop g).Nodup:=by rw[Hj];exact nd
 rw[CG]at h;unfold BV;rw[CG];exact⟨h.1.filter _,h.2.1.filter _,λa d b c=>h.2.2 a (List.mem_filter.mp d).1 b (List.mem_filter.mp c).1⟩
theorem V8(nd:ns.Nodup)(h1:x∈ns.take g)(h2:x∈ns.drop g):False:=by
 have h:(ns.take g++ns.drop g).Nodup:=by rw[Hj];exact nd
 rw[CG]at h;exact h.2.2 x h1 x h2 rfl
theorem TV(g:Nat)(h:x∈ns):x∈ns.take g∨x∈ns.drop g:=by
 rw[<- FY,Hj];exact h
theorem fc(nd:ns.Nodup){ts:List Str}(a:∀x,x∈ts↔x∈BV ns g cs)(x:Str):x∈BV ns g ts↔x∈ns/\x∈cs:=by
 rw[Nl,a,Nl];constructor
 .rintro(⟨h1,h2⟩|⟨h1,h2⟩)
  .rcases h2 with h2|h2
   .exact⟨UA h1,h2.2⟩
   .exact(V8 nd h1 h2.1).elim
  .refine⟨az h1,?_⟩
   by_cases c:x∈cs
   .exact c
   .exact absurd (.inr ⟨h1,c⟩) h2
 .rintro⟨h1,h2⟩;rcases TV g h1 with h|h
  .exact .inl ⟨h,.inl ⟨h,h2⟩⟩
  .refine .inr ⟨h,?_⟩;rintro(⟨z,_⟩|⟨_,z⟩)
   .exact V8 nd z h
   .exact z h2
theorem iN{as bs:List Str}(b:as.Nodup)(a:bs.Nodup)(h:∀x,x∈as↔x∈bs):as.Perm bs:=(List.perm_ext_iff_of_nodup b a).mpr h
structure Gr where
 n:Nat
 g:Nat
 u:List Str
 ps:List (Str×Str)
noncomputable def LY(cs:List Str)(s:Gr)(x:Str):Gr:=
 if x∈cs then⟨s.n+1,s.g,s.u++[x],s.ps⟩
 else if s.u=[]then⟨s.n+1,s.n+1,s.u,s.ps⟩
 else⟨s.n+1,s.g,s.u.dropLast,s.ps++[(s.u.getLastD "", x)]⟩
def gr(cs ns:List Str):Gr:=ns.foldl (LY cs) ⟨0,0,[],[]⟩
theorem ee(cs ns:List Str)(x:Str):gr cs (ns++[x])=LY cs (gr cs ns) x:=by unfold gr;rw[ZII];rfl
noncomputable def cC(cs ns:List Str):Nat:=(ns.filter λx=>decide (x∈cs)).length
noncomputable def cN(cs ns:List Str):Nat:=(ns.filter λx=>!decide (x∈cs)).length
theorem SE(cs ns:List Str)(x:Str):cC cs (ns++[x])=cC cs ns+if x∈cs then 1 else 0:=by
 unfold cC;rw[Lz,B2]
 by_cases h:x∈cs <;> simp[h]
theorem gT(cs ns:List Str)(x:Str):cN cs (ns++[x])=cN cs ns+if x∈cs then 0 else 1:=by
 unfold cN;rw[Lz,B2]
 by_cases h:x∈cs <;> simp[h]
structure GI (cs pre:List Str) (s:Gr):Prop where
 hn:s.n=pre.length
 hg:s.g<=pre.length
 ZE:s.ps.length=cC cs (pre.take s.g)+cN cs (pre.drop s.g)
 QL:s.ps.length+s.u.length=cC cs pre
 hu:∀x∈s.u,x∈pre/\x∈cs
 hp:∀a∈s.ps,(a.1∈pre/\a.1∈cs)/\a.2∈pre/\a.2∉cs
 ord:∀a∈s.ps,pre.idxOf a.1<pre.idxOf a.2
 EA:(s.u++s.ps.map Prod.fst).Nodup
 GW:(s.ps.map Prod.snd).Nodup
theorem Lh{y:Str}(h:y∈pre):(pre++[x]).idxOf y=pre.idxOf y:=by
 rw[aw,sZ h]
theorem qK(h:x∉pre):(pre++[x]).idxOf x=pre.length:=by
 rw[aw,sN h];simp
theorem GI.init(cs:List Str):GI cs [] ⟨0,0,[],[]⟩:=⟨rfl,Ag _,rfl,rfl,λ_ h=>absurd h (by simp),λ_ h=>absurd h (by simp),λ_ h=>absurd h (by simp),by simp,by simp⟩
theorem ZDx(h:u≠[]):u.getLastD "" ∈u/\u=u.dropLast++[u.getLastD ""]:=by
 have e:u.getLastD ""=u.getLast h:=by
  cases u with
  |nil=>exact absurd rfl h
  |cons a r=>rw[ZIL,ZIM]
 rw[e];exact⟨List.getLast_mem h,(List.dropLast_concat_getLast h).symm⟩
theorem GI.step{s:Gr}(I:GI cs pre s)(hx:x∉pre):GI cs (pre++[x]) (LY cs s x):=by
 have l:(pre++[x]).length=pre.length+1:=by simp
 have i:∀{y},y∈pre->y∈pre++[x]:=λh=>Ei _ h;have r:x∈pre++[x]:=by simp
 have tk:(pre++[x]).take s.g=pre.take s.g:=List.take_append_of_le_length I.hg;have t:(pre++[x]).drop s.g=pre.drop s.g++[x]:=List.drop_append_of_le_length I.hg;unfold LY
 by_cases c:x∈cs
 .rw[sZ c];refine⟨by show s.n+1=_;rw[l,I.hn],by show s.g<=_;have:=I.hg;omega,?_,?_,?_,λa b=>?_,λa b=>?_,?_,I.GW⟩
  .show s.ps.length=_;rw[tk,t,gT,sZ c];exact I.ZE
  .show s.ps.length+(s.u++[x]).length=_;rw[SE,sZ c,B2,<- Nat.add_assoc,I.QL];rfl
  .intro y k;rcases List.mem_append.mp k with h|h
   .exact⟨i (I.hu y h).1,(I.hu y h).2⟩
   .have:y=x:=by simpa using h
    rw[this];exact⟨r,c⟩
  .obtain⟨⟨a1,a2⟩,f,j⟩:=I.hp a b;exact⟨⟨i a1,a2⟩,i f,j⟩
  .obtain⟨⟨a1,a2⟩,f,j⟩:=I.hp a b;rw[Lh a1,Lh f];exact I.ord a b
  .show((s.u++[x])++s.ps.map Prod.fst).Nodup;have p:((s.u++[x])++s.ps.map Prod.fst).Perm (x::(s.u++s.ps.map Prod.fst)):=by
    rw[Bd];exact oC
   rw[p.nodup_iff,b5];refine⟨λh=>?_,I.EA⟩;rcases List.mem_append.mp h with h|h
   .exact hx (I.hu x h).1
   .obtain⟨a,b,e⟩:=List.mem_map.mp h;exact hx (e▸(I.hp a b).1.1)
 .rw[sN c]
  by_cases d:s.u=[]
  .rw[sZ d];refine⟨by show s.n+1=_;rw[l,I.hn],by show s.n+1<=_;rw[l,I.hn];exact Ag _,?_,?_,λy k=>?_,λa b=>?_,λa b=>?_,I.EA,I.GW⟩
   .show s.ps.length=cC cs ((pre++[x]).take (s.n+1))+cN cs ((pre++[x]).drop (s.n+1));rw[I.hn,<- l,IU,nh,SE,sN c];have:=I.QL;rw[d]at this
    simpa[cN]using this
   .show s.ps.length+s.u.length=_;rw[SE,sN c];exact I.QL
   .exact⟨i (I.hu y k).1,(I.hu y k).2⟩
   .obtain⟨⟨a1,a2⟩,f,j⟩:=I.hp a b;exact⟨⟨i a1,a2⟩,i f,j⟩
   .obtain⟨⟨a1,a2⟩,f,j⟩:=I.hp a b;rw[Lh a1,Lh f];exact I.ord a b
  .rw[sN d];obtain⟨q,o⟩:=ZDx d;generalize B:s.u.getLastD ""=z at q o;have m:=I.hu z q;have A:s.u.length=s.u.dropLast.length+1:=by
    have:=wu List.length o
    rwa [B2]at this
   refine⟨by show s.n+1=_;rw[l,I.hn],by show s.g<=_;have:=I.hg;omega,?_,?_,λy k=>?_,λa b=>?_,λa b=>?_,?_,?_⟩
   .show(s.ps++[(z,x)]).length=_;rw[tk,t,gT,sN c,B2,I.ZE,Nat.add_assoc];rfl
   .show(s.ps++[(z,x)]).length+s.u.dropLast.length=_;rw[SE,sN c,B2];have:=I.QL;simp only[BK,U7];omega
   .have v:y∈s.u:=List.dropLast_subset _ k;exact⟨i (I.hu y v).1,(I.hu y v).2⟩
   .rcases List.mem_append.mp b with h|h
    .obtain⟨⟨a1,a2⟩,f,j⟩:=I.hp a h;exact⟨⟨i a1,a2⟩,i f,j⟩
    .have:a=(z,x):=by simpa using h
     rw[this];exact⟨⟨i m.1,m.2⟩,r,c⟩
   .rcases List.mem_append.mp b with h|h
    .obtain⟨⟨a1,a2⟩,f,j⟩:=I.hp a h;rw[Lh a1,Lh f];exact I.ord a h
    .have:a=(z,x):=by simpa using h
     rw[this];show(pre++[x]).idxOf z<(pre++[x]).idxOf x;rw[Lh m.1,qK hx];exact List.idxOf_lt_length_iff.mpr m.1
   .show(s.u.dropLast++(s.ps++[(z,x)]).map Prod.fst).Nodup;have p:(s.u.dropLast++(s.ps++[(z,x)]).map Prod.fst).Perm (s.u++s.ps.map Prod.fst):=by
     rw[Bx]
     conv=>rhs;rw[o]
     rw[Bd];exact(List.perm_append_comm).append_left _
    exact p.nodup_iff.mpr I.EA
   .show((s.ps++[(z,x)]).map Prod.snd).Nodup;rw[Bx];refine SJ I.GW λh=>?_;obtain⟨a,b,e⟩:=List.mem_map.mp h;have w:a.2=x:=e;exact hx (w▸(I.hp a b).2.1)
theorem Vh(cs:List Str){ns:List Str}(nd:ns.Nodup):∀i,i<=ns.length->GI cs (ns.take i) (gr cs (ns.take i))
 | 0,_=>GI.init cs
 |i+1,h=>by
  have hi:i<ns.length:=h;rw[YT hi,ee];exact(Vh cs nd i (by omega)).step (ZAX nd hi)
theorem Ou(cs:List Str)(nd:ns.Nodup):GI cs ns (gr cs ns):=by
 have:=Vh cs nd ns.length (Ag _)
 rwa [IU]at this
theorem ZH6(cs:List Str)(nd:ns.Nodup):(BV ns (gr cs ns).g cs).length=(gr cs ns).ps.length:=by
 rw[(Ou cs nd).ZE];unfold BV cC cN;rw[B2]
theorem ZGc(nd:ns.Nodup)(g:Nat){a:Str×Str}(b:a∈(gr cs ns).ps):a.1∈BV ns g cs∨a.2∈BV ns g cs:=by
 obtain⟨⟨a1,a2⟩,d,c⟩:=(Ou cs nd).hp a b;have o:=(Ou cs nd).ord a b;rcases TV g a1 with h|h
 .exact .inl (Nl.mpr (.inl ⟨h,a2⟩))
 .refine .inr (Nl.mpr (.inr ⟨?_,c⟩));rcases TV g d with q|q
  .exfalso;have e:ns=ns.take g++ns.drop g:=(Hj g ns).symm;have i2:ns.idxOf a.2<(ns.take g).length:=by
    conv=>lhs;rw[e]
    rw[aw,sZ q];exact List.idxOf_lt_length_iff.mpr q
   have i1:(ns.take g).length<=ns.idxOf a.1:=by
    conv=>rhs;rw[e]
    rw[aw,sN (λz=>V8 nd z h)];omega
   omega
  .exact q
theorem ZFT(h:u≠[]):(u.map PV.str)[(u.map PV.str).length - 1]?=some (.str (u.getLastD "")):=by
 have e:u.getLastD ""=u.getLast h:=by
  cases u with
  |nil=>exact absurd rfl h
  |cons a r=>rw[ZIL,ZIM]
 rw[AU,Am,e,<- List.getLast?_eq_getElem?,List.getLast?_eq_some_getLast h];rfl
theorem sV{β:Type}(f:α->β)(l:List α):(l.map f).dropLast=l.dropLast.map f:=by rw[List.map_dropLast]
noncomputable def JX(ps:List (Str×Str)):List Str:=ps.map Prod.fst++ps.map Prod.snd
theorem ZHe{s:Gr}(I:GI cs ns s):(JX s.ps).Nodup/\∀x∈JX s.ps,x∈ns:=by
 unfold JX;constructor
 .have h:=I.EA;rw[CG]at h;rw[CG];refine⟨h.2.1,I.GW,λa f b d e=>?_⟩;obtain⟨p,hp,rfl⟩:=List.mem_map.mp f;obtain⟨q,c,rfl⟩:=List.mem_map.mp d;have h1:=(I.hp p hp).1.2;have h2:=(I.hp q c).2.2;rw[e]at h1;exact h2 h1
 .intro x hx;rcases List.mem_append.mp hx with h|h
  .obtain⟨p,hp,rfl⟩:=List.mem_map.mp h;exact(I.hp p hp).1.1
  .obtain⟨p,hp,rfl⟩:=List.mem_map.mp h;exact(I.hp p hp).2.1
def nM(ns cs:List Str)(p:PV):Prop:=∃ts:List Str,ts.Perm (BV ns (gr cs ns).g cs)/\sortedS ts=true/\p=.tup [.tup [.int ((gr cs ns).g:Nat),.tup (ts.map .str)],.lst ((gr cs ns).ps.map ZR)]
def kZ:Pre:=λl R=>∃(tp BS:Bool)(ns cs:List Str),l=[.sq tp (ns.map .str),.sq BS (cs.map .str)]/\(∀x∈cs,x∈ns)/\R=.is λp=>p=.AB
def ji:Pre:=λl R=>∃(tp BS:Bool)(ns cs:List Str)(g:Nat),l=[.sq tp (ns.map .str),.is (.int g),.sq BS (cs.map .str)]/\ns.length<=60/\R=.is λp=>∃ts:List Str,ts.Perm (BV ns g cs)/\sortedS ts=true/\p=.tup (ts.map .str)
def fJ:Pre:=λl R=>∃i:Int,l=[.is (.int i)]/\R=.is λp=>p=.bl true
def fw(cs ns:List Str):Nat:=(gr cs ns).ps.length
theorem gq:∀(ps:List (Str×Str))(M:List Str),(JX ps).Nodup->(∀a∈ps,a.1∈M∨a.2∈M)->ps.length<=M.length
 | [],_,_,_=>CH _
 |a::ps,M,nd,h=>by
  have g:(JX (a::ps)).Perm (a.1::a.2::JX ps):=by
   unfold JX;rw[Bs,Bs,aj];exact List.Perm.cons _ oC
  have f:=g.nodup_iff.mp nd;rw[b5,b5]at f;obtain⟨n1,j,i⟩:=f;have c:∀x,x∈M->x∉JX ps->(a::ps).length<=M.length:=λx hx hn=>by
   have q:=gq ps (M.erase x) i λb d=>by
    have l:b.1≠x:=λe=>hn (e▸Ei _ (ZIQ d));have k:b.2≠x:=λe=>hn (e▸DE _ (ZIQ d));exact(h b (Ck _ d)).imp (λz=>(U9 l).mpr z) λz=>(U9 k).mpr z
   have e:=ax hx;have p:=o8 hx;rw[BK];omega
  rcases h a CV with z|z
  .exact c a.1 z λw=>n1 (Ck _ w)
  .exact c a.2 z j
theorem ZBH(cs:List Str)(nd:ns.Nodup)(g:Nat):fw cs ns<=(BV ns g cs).length:=gq _ _ (ZHe (Ou cs nd)).1 λa b=>ZGc nd g b
theorem Rf(cs:List Str)(nd:ns.Nodup):(BV ns (gr cs ns).g cs).length=fw cs ns/\(gr cs ns).g<=ns.length:=⟨ZH6 cs nd,(Ou cs nd).hg⟩
section
variable[Xw]
variable{F1:Hp}{K:ZJR}{js:List Nat}{ti:TE}{k:PV->Prop}
theorem Ys(hi:ss[i]?=some .AG)(h:Wq ss ta λtp xs=>tp=false/\∃ns:List Str,xs=ns.map PV.str/\(∀x∈ns,Nm x)/\ns.length<=1000/\∀x:Str,Nm x->x∉ns->k (.str x)):
  Wp ss (CZ (PR K) [] E0 (Ab (BX i) (Ab ta BC))) k:=⟨λE Z F H Q S q=>by
 obtain⟨p,e,_⟩:=S.ok i _ hi;refine⟨_,e,h.go E Z F H _ S λv tp xs F1 H1 a sv⟨g,ns,ex,d,c,kk⟩=>?_⟩;subst g;subst ex;obtain⟨l,vs,f,hn,b,r⟩:=sv;subst f;rw[r.strs]at b;exact⟨p,l,ns,rfl,a.st.Et hi e,b,λz=>hn i hi (z▸e),d,c,λx H3 hx Ls s=>q _ _ F1 H3 (a.trans (a.st.Ss hi e s)) (.str x) (kk x hx Ls)⟩⟩
def zo:Option Str->PV
 |none=>.AB
 |some x=>.str x
def iS:Pre:=λl R=>∃(ns:List Str)(r:Str),l=[.sq false (ns.map .str),.is (.str r)]/\ns.length<64/\R=.is λp=>∃ts:List Str,ts.Perm ns/\sortedS ts=true/\p=DR r 0 ts
end
end Fz
namespace Fz
open L2 Lw
variable{E:Ent0}{ss:List Slot}{Z:L2.St}{F F' H H':Hp}{te:TE}{nx:List Slot->Prop}{R:AX}{pre:Ra}
@[reducible] noncomputable def ZJ1 (X:XK) (D:Ex->Prop):Xw:=⟨λ_=>X,λ_=>True,D⟩
@[reducible] noncomputable def xwT (E:Ent0) (J:List Slot->Prop) (D:Ex->Prop):Xw:=⟨λZ C dx H=>∃ss F x,J ss/\Sg E ss Z F H/\D x/\x.at F C dx,J,D⟩
end Fz
namespace Fz
open L2 Lw
variable{i j n:Nat}{l ss:List Slot}{ta te:TE}{a a0:Addr}{N ms ns:List Str}{t t' u:OV}{F F' H H':Hp}{Z:L2.St}{E:Ent0}{vs:List V}{us:List OV}{Q:VK}{X:XK}
theorem wx{b c n:Int}(d:1<=b)(a:b<=c)(hn:0<=n):∃m:Nat,(if(if c<n then c else n) > b then(if c<n then c else n)else b)=(m:Int)/\(m:Int)<=c:=by
 have h:∀z:Int,1<=z->z<=c->∃m:Nat,z=(m:Int)/\(m:Int)<=c:=λz e h1=>⟨z.toNat,by omega,by omega⟩;apply h
 .split
  .omega
  .omega
 .split
  .split <;> omega
  .omega
section
variable[Xw]
variable{K:ZJR}{k:PV->Prop}
theorem x4{neg:Bool}(c:Mc K a (ns.map .str))(h:Wp ss ta λp=>∃x,p=.str x/\k (.bl (if neg then !decide (x∈ns)else decide (x∈ns)))):Wp ss (Bv (Eo K neg) ta (tC (.ref a))) k:=⟨λE Z F H Q S q=>
 h.el E S λx F1 H1 b kk=>by
  have sq:=c.sq H1;rw[YQ]at sq;refine⟨a,ns.map V.str,rfl,.inr sq,rfl,EB ns,?_⟩;rw[J8];exact q _ _ F1 H1 b (.bl _) kk⟩
variable{cs:List Addr}{S C:Addr}{xs:List PV}
end
theorem ZB5{x:Str}(h:x.length<=100)(hx:∀c∈x.cps.toList,c<16 ^ 8):(reprText x).length<=100000:=by
 have:=PySem.StrLaws.reprText_len x hx;omega
section
variable[Xw]
variable{tb:TE}{k:PV->Prop}
variable{K:ZJR}{t u:TE}{pre:Ra}{tA:TA}
theorem jD(h:Wp ss te λp=>∃x,p=.str x/\x.length<=1000/\k (.bl (isNm x))):Wp ss (CZ OU [] E0 (Ab te BC)) k:=⟨λE Z F H Q S q=>
 h.el E S λx F1 H1 a b=>by
  obtain⟨hx,kk⟩:=b;exact⟨x,rfl,hx,λH3 s=>q _ _ F1 H3 (a.trans (a.st.grow s)) (.bl _) kk⟩⟩
end
def CI(pre:Pre):Sp:=λvs H Q _=>∃(ss:List Slot)(R:AX)(F:Hp)(A B:List Addr),pre ss R/\Sg ⟨A,F,H,B⟩ ss (vs.map some) F H/\∀v F' H',Fin ⟨A,F,H,B⟩ F' H'->R.ok ⟨A,F,H,B⟩ F' H' v->Q v H'
inductive Ib (F:Hp):List V->List Slot->Prop where
 |nil:Ib F [] []
 |cons {v:V}{p:PV}{vs:List V}{l:List Slot}:Rep F v p->Ib F vs l->Ib F (v::vs) (.is p::l)
inductive Jx (Z:L2.St) (F:Hp) (i:Nat) (t:OV):List V->List Slot->Prop where
 |here {v:V}{vs:List V}{l:List Slot}:Z[i]?=some (some v)->Ib F vs l->Jx Z F i t (v::vs) (.ow true t::l)
 |there {v:V}{p:PV}{vs:List V}{l:List Slot}:Rep F v p->Jx Z F i t vs l->Jx Z F i t (v::vs) (.is p::l)
theorem Ib.len:∀{vs:List V}{l:List Slot},Ib F vs l->l.length=vs.length:=by
 intro vs l h
 induction h with
 |nil=>rfl
 |cons _ _ a=>rw[BK,BK,a]
theorem Jx.len:∀{vs:List V}{l:List Slot},Jx Z F i t vs l->l.length=vs.length:=by
 intro vs l h
 induction h with
 |here _ r=>rw[BK,BK,r.len]
 |there _ _ a=>rw[BK,BK,a]
theorem Ib.at:∀{vs:List V}{l:List Slot},Ib F vs l->∀{n:Nat}{s:Slot},l[n]?=some s->∃v p,vs[n]?=some v/\s=.is p/\Rep F v p:=by
 intro vs l h
 induction h with
 |nil=>intro n s e;rw[List.getElem?_nil]at e;cases e
 |cons r _ a=>
  intro n s e;cases n with
  |zero=>cases(show some _=some s from e);exact⟨_,_,rfl,rfl,r⟩
  |succ n=>exact a (n:=n) e
theorem Jx.at:∀{vs:List V}{l:List Slot},Jx Z F i t vs l->∃m:Nat,∀{n:Nat}{s:Slot},l[n]?=some s->(n=m/\s=.ow true t/\∃v,vs[n]?=some v/\Z[i]?=some (some v))∨∃v p,vs[n]?=some v/\s=.is p/\Rep F v p:=by
 intro vs l h
 induction h with
 |here e r=>
  refine⟨0,λ{n s}h=>?_⟩;cases n with
  |zero=>cases(show some _=some s from h);exact .inl ⟨rfl,rfl,_,rfl,e⟩
  |succ n=>exact .inr (r.at (n:=n) h)
 |there r _ b=>
  obtain⟨m,c⟩:=b;refine⟨m+1,λ{n s}q=>?_⟩;cases n with
  |zero=>cases(show some _=some s from q);exact .inr ⟨_,_,rfl,rfl,r⟩
  |succ n=>
   rcases c (n:=n) (s:=s) q with⟨e,es,a⟩|a
   .exact .inl ⟨wu Nat.succ e,es,a⟩
   .exact .inr a
structure MH (E:Ent0) (ss:List Slot) (Z:L2.St) (i:Nat) (lt:Bool) (t t':OV) (F H F' H':Hp):Prop where
 st:Sg E (ss.set i (.ow lt t')) Z F' H'
 ff:A8 F F'
 hh:∀a o,C6 ss Z a->a∉t.addrs->H a=some o->H' a=some o
 nn:∀a o,F' a=some o->F a=some o∨H a=none
structure Nv [Xw] (ss:List Slot) (ta:TA) (k:List Slot->Prop):Prop where
 go:∀(E:Ent)(Z:L2.St)(F H:Hp)(Q:List V->Hp->Prop),Sg E ss Z F H->(∀vs l F' H',Mv E ss Z F H F' H'->Ib F' vs l->k l->Q vs H')->ta Z H Q
structure Wm [Xw] (ss:List Slot) (i:Nat) (lt:Bool) (t:OV) (te:TE) (k:PV->OV->Prop):Prop where
 go:∀(E:Ent)(Z:L2.St)(F H:Hp)(Q:VK),Sg E ss Z F H->(∀v p t' F' H',MH E ss Z i lt t t' F H F' H'->Rep F' v p->k p t'->Q v H')->te Z H Q
structure bX [Xw] (ss:List Slot) (i:Nat) (lt:Bool) (t:OV) (c:TT) (k:Bool->OV->Prop):Prop where
 go:∀(E:Ent)(Z:L2.St)(F H:Hp)(Q:Bool->Hp->Prop),Sg E ss Z F H->(∀b t' F' H',MH E ss Z i lt t t' F H F' H'->k b t'->Q b H')->c Z H Q
theorem Sg.Y0{lt:Bool}(S:Sg E ss Z F H)(hi:ss[i]?=some (.ow lt t))(a:Jx Z F i t vs l):Sg ⟨[],F,H,t.addrs⟩ l (vs.map some) F H:=by
 obtain⟨q,e0,c,EO,g⟩:=S.ok i _ hi;have nn:∀{p:Prop}(a:Addr),a∈([]:List Addr)->p:=λa h=>absurd h B0;obtain⟨m,f⟩:=a.at;refine⟨⟨S.fh,A8.refl _,λ_ _ _ e=>e,λ_ _ e=>.inl e,λa h=>nn a h,λa h=>nn a h,λa h=>nn a h,λa h=>(g a h).1,λa h=>c.there a h,λa h=>⟨c.there a h,B0⟩⟩,by rw[AU];exact a.len,λn s hn=>?_,λn j s u b KL hn x ms w=>?_⟩
 .rcases f hn with⟨_,rfl,v,d,o⟩|⟨v,p,d,rfl,r⟩
  .rw[Am,d];rw[e0]at o;cases o;exact⟨q,rfl,c,EO,λa k=>⟨(g a k).1,.inr ⟨rfl,k⟩⟩⟩
  .rw[Am,d];exact⟨v,rfl,r⟩
 .rcases f hn with⟨z,rfl,_⟩|⟨_,_,_,rfl,_⟩
  .rcases f x with⟨y,rfl,_⟩|⟨_,_,_,rfl,_⟩
   .exact KL (z.trans y.symm)
   .cases w
  .cases ms
theorem Sg.Zw{lt:Bool}{p Ez:NK}{BQ:List OV}(S:Sg E ss Z F H)(hi:ss[i]?=some (.ow lt (.nd p a0 us)))(f:Fin ⟨[],F,H,(OV.nd p a0 us).addrs⟩ F' H')(r:Aj F' H' (.ref a0) (.nd Ez a0 BQ))(nd:(OV.nd Ez a0 BQ).addrs.Nodup)(q:∀a∈(OV.nd Ez a0 BQ).addrs,F' a=none/\(H a=none∨a∈(OV.nd p a0 us).addrs)):
  MH E ss Z i lt (.nd p a0 us) (.nd Ez a0 BQ) F H F' H':=by
 obtain⟨J,e0,K,EO,w⟩:=S.ok i _ hi;have N:J=.ref a0:=by cases K;rfl
 subst N;have I:i<ss.length:=(List.getElem?_eq_some_iff.mp hi).1;have kp:∀a o,a∉(OV.nd p a0 us).addrs->H a=some o->H' a=some o:=λa o n e=>f.keep a o ⟨B0,n⟩ e;have BM:∀a,H a≠none->F a=none->F' a=none:=λa h1 h2=>by
  cases e:F' a with
  |none=>rfl
  |some o=>
   rcases f.fresh a o e with z|z
   .rw[show F a=some o from z]at h2;cases h2
   .exact absurd z h1
 have O:∀a,a∈E.A->a∉(OV.nd p a0 us).addrs:=λa h m=>by
  rcases(w a m).2 with z|⟨_,z⟩
  .exact S.a0 a h z
  .exact(S.b0 a z).2 h
 have d:∀(j:Nat)s,j≠i->ss[j]?=some s->∀a,BD s Z[j]? a->a∉(OV.nd p a0 us).addrs:=λj s g hs a ho m=>S.BL j i s _ a g hs hi ho m;refine⟨⟨⟨f.fh,S.f0.trans f.f0,λa o h e=>?_,λa o e=>?_,λa h=>?_,λa h=>?_,S.a0,λa v=>?_,λa v=>?_,S.b0⟩,by rw[DP];exact S.len,λj s g=>?_,λj k s u b Qy g B ms x=>?_⟩,f.f0,λa o _ n e=>kp a o n e,λa o e=>f.fresh a o e⟩
 .refine kp a o (λm=>?_) (S.keep a o h e);rcases(w a m).2 with z|⟨_,z⟩
  .rw[e]at z;cases z
  .exact h.2 z
 .rcases f.fresh a o e with z|z
  .exact S.fresh a o z
  .exact .inr (S.DK z)
 .exact BR.keep (S.Co a h) λo e=>kp a o (O a h) e
 .obtain⟨_,_,t,_⟩:=S.Co a h;exact BM a (by rw[t];simp) (S.K6 a h)
 .exact BM a (S.bH a v) (S.bF a v)
 .by_cases m:a∈(OV.nd p a0 us).addrs
  .exact f.bH a m
  .intro z;cases e:H a with
   |none=>exact S.bH a v e
   |some o=>rw[kp a o m e]at z;cases z
 .by_cases c:j=i
  .subst c;rw[Bw I]at g;cases g;refine⟨.ref a0,e0,r,nd,λa C=>⟨(q a C).1,?_⟩⟩;rcases(q a C).2 with z|z
   .exact .inl (S.DK z)
   .exact(w a z).2
  .rw[Br (BG c)]at g
   by_cases np:s=.AG
   .subst np;obtain⟨l,e,M,L,pt⟩:=S.ok j _ g;obtain⟨_,_,t,_⟩:=id pt;exact⟨l,e,BM l (by rw[t];simp) M,L,BR.keep pt λo z=>kp l o (d j _ c g l e) z⟩
   .exact Ok.go S g f.f0 (λa o ho e=>kp a o (d j s c g a ho) e) BM np
 .have at_:∀(n:Nat)s,(ss.set i (.ow lt (.nd Ez a0 BQ)))[n]?=some s->(n=i/\s=.ow lt (.nd Ez a0 BQ))∨(n≠i/\ss[n]?=some s):=λn s hn=>by
   by_cases c:n=i
   .subst c;rw[Bw I]at hn;exact .inl ⟨rfl,(BI hn).symm⟩
   .rw[Br (BG c)]at hn;exact .inr ⟨c,hn⟩
  have G:∀(n:Nat)s,n≠i->ss[n]?=some s->BD s Z[n]? b->b∉(OV.nd Ez a0 BQ).addrs:=λn s hn hs ho m=>by
   rcases(q b m).2 with z|z
   .exact S.E5 hs ho z
   .exact d n s hn hs b ho z
  rcases at_ j s g with⟨t,rfl⟩|⟨n1,h1⟩
  .rcases at_ k u B with⟨D,rfl⟩|⟨y,h2⟩
   .exact Qy (t.trans D.symm)
   .exact G k u y h2 x ms
  .rcases at_ k u B with⟨D,rfl⟩|⟨y,h2⟩
   .exact G j s n1 h1 ms x
   .exact S.BL j k s u b Qy h1 h2 ms x
section
variable[Xw]
variable{ta:TA}{lt:Bool}{nx:List Slot->Prop}{R:AX}
theorem Rb{k:List Slot->Prop}(h:k []):Nv ss BC k:=⟨λE Z F H Q S q=>q [] [] F H (Mv.refl S) .nil h⟩
theorem Oc{k:List Slot->Prop}(h:Wp ss te λp=>Nv ss ta λl=>k (.is p::l)):Nv ss (Ab te ta) k:=⟨λE Z F H Q S q=>
 h.go E Z F H _ S λv p F1 H1 c r h2=>h2.go E Z F1 H1 _ c.st λvs l F2 H2 b a kk=>q _ _ F2 H2 (c.trans b) (.cons (r.mono b.ff) a) kk⟩
theorem Mv.eh{F1 H1 F2 H2:Hp}(hi:ss[i]?=some (.ow lt t))(a:Mv E ss Z F H F1 H1)(b:MH E ss Z i lt t t' F1 H1 F2 H2):MH E ss Z i lt t t' F H F2 H2:=
 ⟨b.st,a.ff.trans b.ff,λc o n z e=>b.hh c o n z (a.hh c o n e),λc o e=>(b.nn c o e).elim (λe=>a.nn c o e) λe=>.inr (a.none e)⟩
theorem qD{k:Bool->OV->Prop}(h:Wm ss i lt t te λp t'=>∃c,p=.bl c/\k c t'):bX ss i lt t (L4 te) k:=⟨λE Z F H Q S q=>
 h.go E Z F H _ S λv p t' F1 H1 a r AV=>by
  obtain⟨c,e,kk⟩:=AV;subst e;cases r.inv;exact⟨c,rfl,q c t' F1 H1 a kk⟩⟩
theorem zk{c:TT}{u v:TS}(h:bX ss i lt t c λb t'=>if b=true then Ws (ss.set i (.ow lt t')) u nx R else Ws (ss.set i (.ow lt t')) v nx R):Ws ss (NQ c u v) nx R:=⟨λE D Z F H S hn d=>
 h.go E Z F H _ S λb t' F1 H1 a kk=>by
  cases b with
  |true=>rw[sZ rfl]at kk;exact kk.go E D Z F1 H1 a.st (λAA σ' F' H' n S' s=>hn AA σ' F' H' n S' (a.ff.trans s)) d
  |false=>rw[sN (by decide)]at kk;exact kk.go E D Z F1 H1 a.st (λAA σ' F' H' n S' s=>hn AA σ' F' H' n S' (a.ff.trans s)) d⟩
theorem ZAA(h:Wm ss i lt t te λ_ t'=>nx (ss.set i (.ow lt t'))):Ws ss (Je te) nx R:=⟨λE D Z F H S hn b=>
 h.go E Z F H _ S λv p t' F1 H1 a r kk=>hn _ Z F1 H1 kk a.st a.ff⟩
theorem sI(h:Wm ss i lt t te λp t'=>nx ((ss.set i (.ow lt t')).set j (.is p))):Ws ss (GC te (Du j)) nx R:=⟨λE D Z F H S hn b=>
 h.go E Z F H _ S λv p t' F1 H1 a r kk=>hn _ _ F1 H1 kk (a.st.L7 r) a.ff⟩
theorem ZFz{b:NK}{k:PV->OV->Prop}(hi:ss[i]?=some (.ow lt (.nd b a0 us)))(h:Wp ss te λp=>k p (.nd b a0 us)):Ws ss (JF te) nx (.mt k):=⟨λE D Z F H S hn j=>
 h.go E Z F H _ S λv p F1 H1 e r kk=>by
  obtain⟨g,e0,c,EO,d⟩:=e.st.ok i _ hi;have l:g=.ref a0:=by cases c;rfl
  subst l;exact j v F1 H1 e.st.toFin ⟨p,.nd b a0 us,r,c,EO,λa f=>⟨(d a f).1,(d a f).2.imp id λz=>z.2⟩,kk⟩⟩
end
section
variable{pre:Pre}
theorem ZA0{t:TS}(h:CI pre vs H Q X)(a:∀ss R,pre ss R->ss.length=n)
  (hw:∀ss R,pre ss R->Ws (ss++List.replicate (N.length - n) .any) t (λ_=>False) R):t { nx:=λ_ H'=>Q .AB H',rt:=Q } (L2.start N vs) H:=by
 obtain⟨ss,R,F,A,B,hp,S,q⟩:=h;have e:vs.length=n:=by have:=S.len;rw[AU]at this;rw[<- this];exact a ss R hp
 unfold L2.start;rw[e];exact(hw ss R hp).go (P4 ⟨A,F,H,B⟩) _ _ F H (S.grown _) (λAA σ' F' H' z S' _=>z.elim) λv F' H' f ok=>q v F' H' f ok
theorem PX(a:∀ss R,pre ss R->ss.length=n)(h:CI pre vs H Q X):vs.length=n:=by
 obtain⟨ss,R,F,A,B,hp,S,q⟩:=h;have:=S.len;rw[AU]at this;rw[<- this];exact a ss R hp
end
end Fz
namespace L2
section
variable{X:Cx}{o i value:Expr}{td ty tv:TE}{pos pos':Pos}
theorem D2(hu:X.A.units+1<cLine)(ho:QE X o td)(hi:QE X i ty)(hs:Vt i):QE X (.Subscript o i pos) (Jp td ty):=⟨by
 have ho:=ho.h;have hi:=hi.h;intro Zo s Z H Q I h;refine ZBM PySem.F.slot_dict_getitem.lookup hs (ho.k I h λu s1 x H1 I1 c e=>hi.k I1 e λl s2 y H2 I2 b⟨a,v,ex,g,d⟩=>?_);subst ex;obtain rfl:u=Value.ref a:=c;exact⟨yX I2 g,ZH1 hu I2 g b λf j I3 Ig=>⟨v,H2,I3,Ig,d⟩⟩⟩
theorem JK(hu:X.A.units+1<cLine)(ho:QE X o td)(hi:QE X i ty)(b:QE X value tv)(hs:swapsWith value (some (.Subscript o i pos')) pos.line X.env=pure false:=by rfl):
  QS X (.Assign [.Subscript o i pos'] value pos) (aW td ty tv):=⟨by
 have ho:=ho.h;have hi:=hi.h;have b:=b.h;intro Zo s Z H D I h;refine wpAny_Assign_Subscript (b.k I h λr s1 v H1 I1 e l=>ho.k I1 l λu s2 x H2 I2 d j=>hi.k I2 j λn m y H3 I3 c⟨a,H4,ex,g,f⟩=>?_) hs;subst ex;obtain rfl:u=Value.ref a:=d;exact ZDL hu I3 g c e λs4 I4=>⟨Z,H4,I4,f⟩⟩
theorem TL:QE X (.Dict [] [] pos) T3:=⟨λZo s Z H Q I h=>
 wpAny_Dict_empty ⟨.ref s.heap.objs.size,_,I.laid (a:=s.heap.objs.size) (o:=.dK []) (t':=s.toks) (λ_ _ q=>BH _ q) (Ag _) (dH s.heap I.big),rfl,h _ (I.AO.fresh (Ag _))⟩⟩
end
end L2
namespace Fz
open L2 Lw
variable{F F0 H H0:Hp}{ss:List Slot}{ta td tv ty:TE}{nx:List Slot->Prop}{R:AX}{i:Nat}{ks:List Key}{CJ vs:List V}{t u w:OV}{C a dx:Addr}{BQ us:List OV}{E:Ent0}{Z:L2.St}{m p:List Nat}{f:Str}{ns:List Str}{pre:Pre}
noncomputable def GK:Key->PV
 | .inl i=>.int i
 | .inr x=>.str x
noncomputable def Ji:List Key->List PV->Key->Option PV
 |k'::ks,x::xs,k=>if k'=k then some x else Ji ks xs k
 |_,_,_=>none
def HV(ks:List Key)(k:Key):Bool:=ks.any λk'=>decide (k'=k)
def HM(ks:List Key)(k:Key):List Key:=if HV ks k=true then ks else ks++[k]
theorem N0{v:V}{k:Key}(r:Rep F v (GK k)):v=kV k:=by
 cases k with
 |inl i=>cases r.inv;rfl
 |inr x=>cases r.inv;rfl
theorem mJ{k:Key}{y:PV}:∀{ks:List Key}{vs:List V}{xs:List PV},AW F vs xs->ks.length=vs.length->Ji ks xs k=some y->∃v,ET (ks.zip vs) k=some v/\Rep F v y:=by
 intro ks
 induction ks with
 |nil=>intro vs xs _ _ h;cases h
 |cons k' ks d=>
  intro vs xs r e h;cases xs with
  |nil=>cases h
  |cons x xs=>
   obtain⟨v,ws,rfl,a,b⟩:=r.inv;have h:(if k'=k then some x else Ji ks xs k)=some y:=h
   rw[IV]
   by_cases c:k'=k
   .rw[sZ c]at h;cases h;exact⟨v,Od c,a⟩
   .rw[sN c]at h;obtain⟨w,h1,h2⟩:=d b (M9 e) h;exact⟨w,by rw[Nz c];exact h1,h2⟩
section
variable[Xw]
variable{k:PV->Prop}{lt:Bool}
theorem Pk(h:Wp ss td λp=>∃ks xs,p=.B1 ks xs/\Wp ss ty λq=>∃a y,q=GK a/\Ji ks xs a=some y/\k y):Wp ss (Jp td ty) k:=⟨λE Z F H Q S q=>
 h.go E Z F H _ S λv p F1 H1 d i⟨ks,xs,e,h2⟩=>h2.go E Z F1 H1 _ d.st λv2 p2 F2 H2 c g⟨a,y,n,j,kk⟩=>by
  subst e;subst n;have o:=i.mono c.ff;cases o with
  |B1 m l f=>
   obtain⟨w,hw,b⟩:=mJ f l j;refine⟨_,w,rfl,?_,q w y F2 H2 (d.trans c) b kk⟩;rw[<- hw,N0 g];exact GL.k (c.st.fh _ _ m)⟩
theorem Yb{k:List Nat->OV->Prop}(h:∀a,k [] (.nd (.B1 []) a (([]:List PV).map .fz))):Wx ss T3 k:=⟨λE Z F H Q S q p hp=>by
 have m:=S.make hp (.dK []);refine q _ [] (.nd (.B1 []) p (([]:List PV).map .fz)) F _ m (.nd (k:=.B1 []) (vs:=[]) AJ trivial rfl .nil) (by rw[OV.DJ];simp[NK.more,OV.IJ]) (λa b=>?_) (h p);rw[OV.DJ]at b;have e:a=p:=by simpa[NK.more,OV.IJ]using b
 subst e;exact⟨S.BM hp,S.DK hp,.inr hp⟩⟩
theorem XJ:∀{ks:List Key}{vs:List V}{a:Key},ks.length=vs.length->(ks.zip vs).any (λb=>decide (b.1=a))=HV ks a
 | [],vs,a,h=>rfl
 |k'::ks,w::vs,a,h=>by
  rw[IV,NZ,XJ (by simpa using h)]
  rfl
 |_::_,[],_,h=>by simp at h
noncomputable def HZ:List Key->List V->Key->V->List V
 |k'::ks,x::xs,k,p=>(if k'=k then p else x)::HZ ks xs k p
 |_,xs,_,_=>xs
theorem ir:∀{ks:List Key}{vs:List V}{a:Key}{v:V},(ks.zip vs).map (λb=>if b.1=a then(b.1,v)else b)=ks.zip (HZ ks vs a v)
 | [],vs,a,v=>by simp
 |k'::ks,w::vs,a,v=>by
  rw[IV,Bs,ir,HZ,IV]
  by_cases c:k'=a
  .rw[sZ c,sZ c]
  .rw[sN c,sN c]
 |_::_,[],_,_=>by simp[HZ]
end
noncomputable def D8:List Key->Key->Option Nat
 | [],_=>none
 |k'::ks,k=>if k'=k then some 0 else(D8 ks k).map (· + 1)
theorem gG:∀{ks:List Key}{a:Key}{n:Nat},D8 ks a=some n->ks[n]?=some a
 | [],_,_,h=>by cases h
 |k'::ks,a,n,h=>by
  rw[D8]at h
  by_cases c:k'=a
  .rw[sZ c]at h;cases h;subst c;rfl
  .rw[sN c]at h;cases e:D8 ks a with
   |none=>rw[e]at h;cases h
   |some m=>rw[e]at h;cases h;exact gG (ks:=ks) e
theorem Uu:∀{ks:List Key}{a:Key},(D8 ks a).isSome=HV ks a
 | [],_=>rfl
 |k'::ks,a=>by
  rw[D8];unfold HV;rw[NZ]
  by_cases c:k'=a
  .rw[sZ c,rg c];rfl
  .rw[sN c,uz c,Bool.false_or,b9,Uu];rfl
theorem fe:∀{ks:List Key}{vs:List V}{a:Key}{n:Nat}{v:V},D8 ks a=some n->vs[n]?=some v->ET (ks.zip vs) a=some v
 | [],_,_,_,_,h,_=>by cases h
 |k'::ks,[],a,n,v,h,hv=>by simp at hv
 |k'::ks,w::vs,a,n,v,h,hv=>by
  rw[D8]at h;rw[IV]
  by_cases c:k'=a
  .rw[sZ c]at h;cases h;simp at hv;rw[Od c,hv]
  .rw[sN c]at h;cases e:D8 ks a with
   |none=>rw[e]at h;cases h
   |some m=>
    rw[e]at h;cases h;rw[Nz c];exact fe e (by simpa using hv)
theorem eS{a:Key}(b:ks.length=vs.length):(ET (ks.zip vs) a).isSome=HV ks a:=by
 rw[<- SO,XJ b]
theorem bb:∀{ks:List Key}{vs:List V}{a:Key}{n:Nat}{v:V},ks.Nodup->D8 ks a=some n->HZ ks vs a v=vs.set n v
 | [],_,_,_,_,_,h=>by cases h
 |k'::ks,[],a,n,v,_,h=>by rw[HZ];simp;simp
 |k'::ks,w::vs,a,n,v,nd,h=>by
  rw[D8]at h;obtain⟨n1,d⟩:=List.nodup_cons.mp nd;rw[HZ]
  by_cases c:k'=a
  .rw[sZ c]at h;cases h;rw[sZ c,b6]
   congr 1
   subst c;have b:∀{ks:List Key}{vs:List V},k'∉ks->HZ ks vs k' v=vs:=by
    intro ks
    induction ks with
    |nil=>intro vs _;rw[HZ];simp
    |cons k2 ks f=>
     intro vs hn;cases vs with
     |nil=>rw[HZ];simp
     |cons u vs=>
      rw[HZ,sN (λz=>hn (by rw[z];simp)),f (λz=>hn (by simp[z]))]
   exact b n1
  .rw[sN c]at h;cases e:D8 ks a with
   |none=>rw[e]at h;cases h
   |some m=>
    rw[e]at h;cases h;rw[sN c,UB,bb d e]
section
variable[Xw]
variable{k:PV->Prop}
theorem NC{k:List Nat->OV->Prop}(h:Wl ss i t td λp u=>∃ks a us,u=.nd (.B1 ks) a us/\Wp ss ty λq=>∃b n w,q=GK b/\D8 ks b=some n/\us[n]?=some w/\k (p++[n]) w):Wl ss i t (Jp td ty) k:=⟨h.hi,λE Z F H Q S q=>
 h.go E Z F H _ S λv p u F1 H1 c m h1⟨ks,a,us,r,h2⟩=>h2.go E Z F1 H1 _ c.st λv2 p2 F2 H2 d l⟨b,n,w,e,hn,hw,kk⟩=>by
  subst e;have j:=m.mv c.st h.hi h1 d;subst r;obtain⟨vs,rfl,o,s,y,g⟩:=j.inv;obtain⟨x,hx,f⟩:=g.get hw;refine⟨a,x,rfl,?_,q x (p++[n]) w F2 H2 (c.trans d) f (OV.MW h1 (by rw[OV.L3,hw];exact OV.KR)) kk⟩;rw[<- fe hn hx,N0 l];exact GL.k o⟩
theorem ZDj(h:Wp ss ty λq=>Wl ss i t td λ_ u=>∃ks a us b,u=.nd (.B1 ks) a us/\q=GK b/\k (.bl (HV ks b))):Wp ss (Uk ty td) k:=⟨λE Z F H Q S q=>
 h.go E Z F H _ S λv p F1 H1 c e h2=>h2.go E Z F1 H1 _ c.st λv2 p2 u F2 H2 f d C2 AV=>by
  obtain⟨ks,a,us,b,l,eq,kk⟩:=AV;subst l;subst eq;obtain⟨vs,rfl,g,m,j,n⟩:=d.inv;refine⟨a,ET (ks.zip vs) b,rfl,by rw[N0 e];exact GL.k g,?_⟩;rw[eS j];exact q _ _ F2 H2 (c.trans f) (.bl _) kk⟩
theorem ZEv(h:Wp ss ty λq=>Wp ss td λu=>∃ks xs b,u=.B1 ks xs/\q=GK b/\k (.bl (!HV ks b))):Wp ss (aD ty td) k:=⟨λE Z F H Q S q=>
 h.go E Z F H _ S λv p F1 H1 d f h2=>h2.go E Z F1 H1 _ d.st λv2 u F2 H2 c e AV=>by
  obtain⟨ks,xs,b,i,eq,kk⟩:=AV;subst i;subst eq;cases e with
  |@B1 a _ vs _ j g l=>
   refine⟨a,ET (ks.zip vs) b,rfl,by rw[N0 f];exact GL.k (c.st.fh _ _ j),?_⟩;rw[eS g];exact q _ _ F2 H2 (d.trans c) (.bl _) kk⟩
theorem N2:(OV.nd (.B1 ks) a us).addrs=a::OV.An us:=by rw[OV.DJ];rfl
theorem mV{lt:Bool}:∀(m:List Nat)(ss:List Slot),ss[i]?=some (.ow lt t)->i∉m->(Fz.Dl m ss)[i]?=some (.ow lt t):=by
 intro m
 induction m with
 |nil=>intro ss h _;exact h
 |cons j m b=>
  intro ss h a;refine b _ ?_ λz=>a (by simp[z]);rw[Br (by rintro rfl;exact a (by simp))];exact h
theorem Sg.qm{lt:Bool}{Ti:List Key}(S0:Sg E ss Z F0 H0)(S:Sg E ss Z F H)(hi:ss[i]?=some (.ow lt t))(C2:t.at p=some (.nd (.B1 ks) a us))
  (hu:∀a∈u.addrs,F a=none/\E.H0 a=none/\((∃i∈m,∃s,s≠Slot.AG/\ss[i]?=some s/\BD s Z[i]? a)∨H0 a=none)) (Eb:i∉m)
  (n:BO F H CJ BQ) (x:Ti.length=CJ.length) (Q3:(OV.An BQ).Nodup) (Eg:∀b∈OV.An BQ,b∈OV.An us∨b∈u.addrs):Sg E ((Fz.Dl m ss).set i (.ow lt (t.put p (.nd (.B1 Ti) a BQ)))) Z F (upd H a (.dK (Ti.zip CJ))):=by
 have D:=mV m ss hi Eb;obtain⟨v,e,r,nd,q⟩:=S.ok i _ hi;have g:∀b,b∈a::OV.An us->b∈t.addrs:=λb c=>OV.Jo C2 b (by rw[N2];exact c);have C:∀b∈u.addrs,b∉t.addrs:=λb c z=>by
  rcases(hu b c).2.2 with⟨j,A,s,_,hs,o⟩|w
  .exact S.BL j i s _ b (by rintro rfl;exact Eb A) hs hi o z
  .exact S0.E5 hi z w
 have f:(OV.nd (.B1 ks) a us).addrs.Nodup:=by
  obtain⟨l,G,B,_⟩:=OV.split C2;rw[B,CG,CG]at nd;exact nd.1.2.1
 rw[N2]at f;have d:∀b∈OV.An BQ,b≠a:=λb c z=>by
  subst z;rcases Eg b c with w|w
  .exact(List.nodup_cons.mp f).1 w
  .exact C b w (g b (by simp))
 refine(S.Dl m).Vd D C2 (.nd (k:=.B1 Ti) AJ trivial x (n.mono (A8.refl _) λb c o ho=>by rw[Af (d b c)];exact ho)) (by rw[N2];exact List.nodup_cons.mpr ⟨λz=>d a z rfl,Q3⟩) λb c=>?_;rw[N2]at c ⊢;rcases List.mem_cons.mp c with w|w
 .exact .inl (by simp[w])
 .rcases Eg b w with z|z
  .exact .inl (by simp[z])
  .refine .inr ⟨(hu b z).1,(hu b z).2.1,λj s hs o=>?_⟩;rcases OH hs with y|⟨GN,hm⟩
   .subst y;cases o
   .rcases(hu b z).2.2 with⟨i2,Dx,s2,_,EJ,h⟩|y
    .exact S.BL j i2 s s2 b (by rintro rfl;exact hm Dx) GN EJ o h
    .exact S0.E5 GN o y
def G8(ks:List Key)(us:List OV)(a:Key)(w:OV):List OV:=match D8 ks a with
 |some n=>us.set n w
 |none=>us++[w]
theorem J7(h:Wx ss tv λm w=>Wl ss i t td λp u=>∃lt a ks us,ss[i]?=some (.ow lt t)/\u=.nd (.B1 ks) a us/\us.length<=99999/\ks.Nodup/\i∉m/\Wp ss ty λq=>∃d,q=GK d/\nx ((Fz.Dl m ss).set i (.ow lt (t.put p (.nd (.B1 (HM ks d)) a (G8 ks us d w)))))):Ws ss (aW td ty tv) nx R:=⟨λE D Z F H S hn hr=>
 h.go E Z F H _ S λv m w F1 H1 P O EA a1 h2=>h2.go E Z F1 H1 _ P.st λv2 p u F2 H2 L N C2 z=>by
  obtain⟨lt,a,ks,us,hi,rfl,hz,A,Eb,h3⟩:=z;refine h3.go E Z F2 H2 _ L.st λv3 q F3 H3 I r3 z=>?_;obtain⟨d,rfl,kk⟩:=z;have ev:v2=.ref a:=N.inv.elim λ_ h=>h.1;subst ev;have J:=L.trans I;have np:∀b∈w.addrs,C6 ss Z b:=λb f k A T=>by
   rcases(a1 b f).2.2 with⟨j,Q,s,hs,JB,o⟩|z
   .exact S.BL j k s _ b (λe=>by subst e;rw[JB]at A;exact hs (BI A)) JB A o T
   .exact S.E5 A T z
  have X:Aj F3 H3 v w:=O.mono J.ff λb f o e=>J.hh b o (np b f) e;have X8:∀b∈w.addrs,F3 b=none/\E.H0 b=none/\((∃i∈m,∃s,s≠Slot.AG/\ss[i]?=some s/\BD s Z[i]? b)∨H b=none):=λb f=>by
   refine⟨?_,(a1 b f).2⟩;cases e:F3 b with
   |none=>rfl
   |some o=>
    rcases J.nn b o e with z|z
    .rw[(a1 b f).1]at z;cases z
    .exact absurd z (O.there b f)
  have σ:=N.mv L.st ⟨lt,hi⟩ C2 I;cases σ with
  |@nd _ _ vs _ ha sd ft G=>
   have K:ks.length=vs.length:=ft;have vl:=G.length;have pE:(ks.zip vs).length<=99999:=by rw[Qa];omega
   refine⟨a,_,rfl,by rw[N0 r3];exact PQ.k ha (Mb pE),?_⟩;obtain⟨v0,e0,r0,EO,q0⟩:=I.st.ok i _ hi;have M:(OV.nd (.B1 ks) a us).addrs.Nodup:=by
    obtain⟨l,G,B,_⟩:=OV.split C2;rw[B,CG,CG]at EO;exact EO.1.2.1
   rw[N2]at M;have g:∀b∈w.addrs,b∉OV.An us:=λb f z=>by
    have W:b∈t.addrs:=OV.Jo C2 b (by rw[N2];simp[z]);rcases(a1 b f).2.2 with⟨j,Q,s,_,hs,o⟩|y
    .exact S.BL j i s _ b (by rintro rfl;exact Eb Q) hs hi o W
    .exact S.E5 hi W y
   obtain⟨CJ,ep,V9,Pm,GW,Y⟩:∃CJ:List V,putK (ks.zip vs) d v=(HM ks d).zip CJ/\(HM ks d).length=CJ.length/\BO F3 H3 CJ (G8 ks us d w)/\(OV.An (G8 ks us d w)).Nodup/\∀b∈OV.An (G8 ks us d w),b∈OV.An us∨b∈w.addrs:=by
    unfold putK HM G8;rw[XJ K];cases e:D8 ks d with
    |some n=>
     have c:HV ks d=true:=by rw[<- Uu,e];rfl
     have Tv:n<us.length:=by
      have:=(List.getElem?_eq_some_iff.mp (gG e)).1;omega
     obtain⟨l,r,B,U⟩:=Jt (B7 Tv);rw[sZ c,sZ c,ir,bb A e];refine⟨vs.set n v,rfl,by rw[DP];exact K,G.set n X,?_,λb f=>?_⟩
     .show(OV.An (us.set n w)).Nodup;rw[U];have n1:=(List.nodup_cons.mp M).2;rw[B]at n1;exact YA n1 EA λb f=>.inr (by rw[<- B];exact g b f)
     .have C:b∈OV.An (us.set n w):=f;rw[U]at C;rcases List.mem_append.mp C with z|z
      .rcases List.mem_append.mp z with z|z
       .exact .inl (by rw[B];simp[z])
       .exact .inr z
      .exact .inl (by rw[B];simp[z])
    |none=>
     have c:¬ HV ks d=true:=by rw[<- Uu,e];decide
     rw[sN c,sN c];refine⟨vs++[v],by rw[List.zip_append K];rfl,by rw[B2,B2,K];rfl,G.append (.one X),?_,λb f=>?_⟩
     .show(OV.An (us++[w])).Nodup;rw[Le,N6,CG];exact⟨(List.nodup_cons.mp M).2,EA,λx hx y hy e=>g y hy (e▸hx)⟩
     .have C:b∈OV.An (us++[w]):=f;rw[Le,N6]at C;exact List.mem_append.mp C
   rw[ep];exact hn _ Z F3 _ kk (Sg.qm (u:=w) S I.st hi C2 X8 Eb Pm V9 GW Y) (P.ff.trans J.ff)⟩
end
noncomputable def Cq:List Str->Str->Option Nat
 | [],_=>none
 |g::ns,f=>if g=f then some 0 else(Cq ns f).map (· + 1)
def OW(ns:List Str)(f:Str):List Str:=match Cq ns f with
 |some _=>ns
 |none=>ns++[f]
def QP(ns:List Str)(us:List OV)(f:Str)(w:OV):List OV:=match Cq ns f with
 |some n=>us.set n w
 |none=>us++[w]
def MT(ns:List Str)(vs:List V)(f:Str)(w:V):List V:=match Cq ns f with
 |some n=>vs.set n w
 |none=>vs++[w]
theorem iR:∀{ns:List Str}{f:Str}{n:Nat},Cq ns f=some n->n<ns.length
 | [],_,_,h=>by cases h
 |g::ns,f,n,h=>by
  rw[Cq]at h
  by_cases c:g=f
  .rw[sZ c]at h;cases h;exact oI _
  .rw[sN c]at h;cases e:Cq ns f with
   |none=>rw[e]at h;cases h
   |some m=>rw[e]at h;cases h;exact Nat.succ_lt_succ (iR e)
theorem UN:∀{ns:List Str}{vs:List V}{f:Str}{n:Nat}{v:V},Cq ns f=some n->vs[n]?=some v->(ns.zip vs).lookup f=some v
 | [],_,_,_,_,h,_=>by cases h
 |g::ns,[],f,n,v,h,hv=>by simp at hv
 |g::ns,w::vs,f,n,v,h,hv=>by
  rw[Cq]at h;rw[IV]
  by_cases c:g=f
  .rw[sZ c]at h;cases h;simp at hv;subst c;rw[List.lookup_cons_self,hv]
  .rw[sN c]at h;cases e:Cq ns f with
   |none=>rw[e]at h;cases h
   |some m=>
    rw[e]at h;cases h;rw[Hh];have:(f == g)=false:=by simpa using λz=>c z.symm
    rw[this];exact UN e (by simpa using hv)
theorem lQ:∀{ns:List Str}{vs:List V}{f:Str}{v:V},ns.length=vs.length->Ds f v (ns.zip vs)=(OW ns f).zip (MT ns vs f v)/\(OW ns f).length=(MT ns vs f v).length
 | [],[],f,v,_=>by simp[Ds,OW,MT,Cq]
 | [],_::_,_,_,h=>by simp at h
 |_::_,[],_,_,h=>by simp at h
 |g::ns,w::vs,f,v,h=>by
  obtain⟨i1,i2⟩:=lQ (ns:=ns) (vs:=vs) (f:=f) (v:=v) (by simpa using h)
  rw[IV];rw[show Ds f v ((g,w)::ns.zip vs)=(if g=f then(g,v)::ns.zip vs else(g,w)::Ds f v (ns.zip vs))from rfl]
  unfold OW MT at i1 i2 ⊢;rw[Cq]
  by_cases c:g=f
  .rw[sZ c,sZ c];exact⟨by simp,by simpa using h⟩
  .rw[sN c,sN c,i1];cases e:Cq ns f with
   |none=>rw[e]at i2;exact⟨by simp,by simpa using i2⟩
   |some m=>rw[e]at i2;exact⟨by simp,by simpa using i2⟩
section
variable[Xw]
variable{k:PV->Prop}{K:ZJR}
theorem Xd{k:List Nat->OV->Prop}(h:Wl ss i t ta λp u=>∃C dx ns a us n w,u=.nd (.obj C dx ns) a us/\Bz K C/\Bg K C f/\Cq ns f=some n/\us[n]?=some w/\k (p++[n]) w):Wl ss i t (LO K ta f) k:=⟨h.hi,λE Z F H Q S q=>
 h.go E Z F H _ S λv p u F1 H1 g e h1 AV=>by
  obtain⟨C,dx,ns,a,us,n,w,m,j,hn,hx,hw,kk⟩:=AV;subst m;obtain⟨vs,rfl,l,o,r,d⟩:=e.inv;obtain⟨x,b,c⟩:=d.get hw;exact⟨a,C,dx,ns.zip vs,x,rfl,l,j,hn,UN hx b,q x (p++[n]) w F1 H1 g c (OV.MW h1 (by rw[OV.L3,hw];exact OV.KR)) kk⟩⟩
theorem Kp:(OV.nd (.obj C dx ns) a us).addrs=a::dx::OV.An us:=by rw[OV.DJ];rfl
theorem Sg.ZD6{lt:Bool}{C5:List Str}(S0:Sg E ss Z F0 H0)(S:Sg E ss Z F H)(hi:ss[i]?=some (.ow lt t))(C2:t.at p=some (.nd (.obj C dx ns) a us))(Oj:H dx=some (.own a))
  (hu:∀a∈u.addrs,F a=none/\E.H0 a=none/\((∃i∈m,∃s,s≠Slot.AG/\ss[i]?=some s/\BD s Z[i]? a)∨H0 a=none)) (Eb:i∉m)
  (D:BO F H CJ BQ) (G:C5.length=CJ.length) (Q3:(OV.An BQ).Nodup) (Eg:∀b∈OV.An BQ,b∈OV.An us∨b∈u.addrs):Sg E ((Fz.Dl m ss).set i (.ow lt (t.put p (.nd (.obj C dx C5) a BQ)))) Z F (upd H a (.ins C dx (C5.zip CJ))):=by
 have K:=mV m ss hi Eb;obtain⟨v,e,r,nd,q⟩:=S.ok i _ hi;have d:∀b,b∈a::dx::OV.An us->b∈t.addrs:=λb c=>OV.Jo C2 b (by rw[Kp];exact c);have h:∀b∈u.addrs,b∉t.addrs:=λb c z=>by
  rcases(hu b c).2.2 with⟨j,I,s,_,hs,o⟩|w
  .exact S.BL j i s _ b (by rintro rfl;exact Eb I) hs hi o z
  .exact S0.E5 hi z w
 have n:(OV.nd (.obj C dx ns) a us).addrs.Nodup:=by
  obtain⟨l,L,J,_⟩:=OV.split C2;rw[J,CG,CG]at nd;exact nd.1.2.1
 rw[Kp]at n;obtain⟨n1,B⟩:=List.nodup_cons.mp n;obtain⟨A,M⟩:=List.nodup_cons.mp B;have f:∀b∈OV.An BQ,b≠a:=λb c z=>by
  subst z;rcases Eg b c with w|w
  .exact n1 (by simp[w])
  .exact h b w (d b (by simp))
 have HI:∀b∈OV.An BQ,b≠dx:=λb c z=>by
  subst z;rcases Eg b c with w|w
  .exact A w
  .exact h b w (d b (by simp))
 have g:dx≠a:=λz=>n1 (by simp[z]);refine(S.Dl m).Vd K C2 (.nd (k:=.obj C dx C5) AJ (show upd H a _ dx=some (.own a) by rw[Af g];exact Oj) G (D.mono (A8.refl _) λb c o ho=>by rw[Af (f b c)];exact ho)) (by
  rw[Kp];exact List.nodup_cons.mpr ⟨λz=>by
   rcases List.mem_cons.mp z with z|z
   .exact g z.symm
   .exact f a z rfl,List.nodup_cons.mpr ⟨λz=>HI dx z rfl,Q3⟩⟩) λb c=>?_
 rw[Kp]at c ⊢;rcases List.mem_cons.mp c with w|w
 .exact .inl (by simp[w])
 .rcases List.mem_cons.mp w with w|w
  .exact .inl (by simp[w])
  .rcases Eg b w with z|z
   .exact .inl (by simp[z])
   .refine .inr ⟨(hu b z).1,(hu b z).2.1,λj s hs o=>?_⟩;rcases OH hs with y|⟨GN,hm⟩
    .subst y;cases o
    .rcases(hu b z).2.2 with⟨i2,Dx,s2,_,EJ,x⟩|y
     .exact S.BL j i2 s s2 b (by rintro rfl;exact hm Dx) GN EJ o x
     .exact S0.E5 GN o y
theorem ZCA{F1 H1 F3 H3:Hp}{v:V}(S:Sg E ss Z F H)(KU:Mv E ss Z F1 H1 F3 H3)(f:Aj F1 H1 v w)(a1:∀a∈w.addrs,F1 a=none/\E.H0 a=none/\((∃i∈m,∃s,s≠Slot.AG/\ss[i]?=some s/\BD s Z[i]? a)∨H a=none)):
  Aj F3 H3 v w/\∀b∈w.addrs,F3 b=none/\E.H0 b=none/\((∃i∈m,∃s,s≠Slot.AG/\ss[i]?=some s/\BD s Z[i]? b)∨H b=none):=by
 have np:∀b∈w.addrs,C6 ss Z b:=λb c k d g=>by
  rcases(a1 b c).2.2 with⟨j,h,s,hs,JB,o⟩|z
  .exact S.BL j k s _ b (λe=>by subst e;rw[JB]at d;exact hs (BI d)) JB d o g
  .exact S.E5 d g z
 refine⟨f.mono KU.ff λb c o e=>KU.hh b o (np b c) e,λb c=>⟨?_,(a1 b c).2⟩⟩;cases e:F3 b with
 |none=>rfl
 |some o=>
  rcases KU.nn b o e with z|z
  .rw[(a1 b c).1]at z;cases z
  .exact absurd z (f.there b c)
theorem Q4(h:Wx ss tv λm w=>Wl ss i t ta λp u=>∃lt C dx ns a us,ss[i]?=some (.ow lt t)/\u=.nd (.obj C dx ns) a us/\Bz K C/\Bg K C f/\ns.length<1000/\i∉m/\nx ((Fz.Dl m ss).set i (.ow lt (t.put p (.nd (.obj C dx (OW ns f)) a (QP ns us f w)))))):Ws ss (Xi K ta tv f) nx R:=⟨λE D Z F H S hn hr=>
 h.go E Z F H _ S λv m w F1 H1 I Q EA a1 h2=>h2.go E Z F1 H1 _ I.st λv2 p u F2 H2 A G C2 AV=>by
  obtain⟨lt,C,dx,ns,a,us,hi,σ,V,N,hz,Eb,kk⟩:=AV;subst σ;have Y:v2=.ref a:=by cases G;rfl
  subst Y;obtain⟨JJ,X8⟩:=ZCA S A Q a1;cases G with
  |@nd _ _ vs _ W O X q=>
   have GX:ns.length=vs.length:=X;have vl:=q.length;obtain⟨ep,V9⟩:=lQ (f:=f) (v:=v) GX;refine⟨a,C,dx,ns.zip vs,rfl,W,V,N,by rw[Qa];omega,?_⟩;obtain⟨v0,e0,r0,EO,q0⟩:=A.st.ok i _ hi;have M:(OV.nd (.obj C dx ns) a us).addrs.Nodup:=by
    obtain⟨l,q,g,_⟩:=OV.split C2;rw[g,CG,CG]at EO;exact EO.1.2.1
   rw[Kp]at M;have B:=(List.nodup_cons.mp (List.nodup_cons.mp M).2).2;have c:∀b∈w.addrs,b∉OV.An us:=λb d z=>by
    have L:b∈t.addrs:=OV.Jo C2 b (by rw[Kp];simp[z]);rcases(a1 b d).2.2 with⟨j,U,s,_,hs,o⟩|y
    .exact S.BL j i s _ b (by rintro rfl;exact Eb U) hs hi o L
    .exact S.E5 hi L y
   obtain⟨Pm,GW,P⟩:BO F2 H2 (MT ns vs f v) (QP ns us f w)/\(OV.An (QP ns us f w)).Nodup/\∀b∈OV.An (QP ns us f w),b∈OV.An us∨b∈w.addrs:=by
    unfold MT QP;cases e:Cq ns f with
    |some n=>
     have Tv:n<us.length:=by have:=iR e;omega
     obtain⟨l,r,g,J⟩:=Jt (B7 Tv);refine⟨q.set n JJ,?_,λb d=>?_⟩
     .show(OV.An (us.set n w)).Nodup;rw[J];rw[g]at B;exact YA B EA λb d=>.inr (by rw[<- g];exact c b d)
     .have k:b∈OV.An (us.set n w):=d;rw[J]at k;rcases List.mem_append.mp k with z|z
      .rcases List.mem_append.mp z with z|z
       .exact .inl (by rw[g];simp[z])
       .exact .inr z
      .exact .inl (by rw[g];simp[z])
    |none=>
     refine⟨q.append (.one JJ),?_,λb d=>?_⟩
     .show(OV.An (us++[w])).Nodup;rw[Le,N6,CG];exact⟨B,EA,λx hx y T e=>c y T (e▸hx)⟩
     .have k:b∈OV.An (us++[w]):=d;rw[Le,N6]at k;exact List.mem_append.mp k
   rw[ep];exact hn _ Z F2 _ kk (Sg.ZD6 (u:=w) S A.st hi C2 O X8 Eb Pm V9 GW P) (I.ff.trans A.ff)⟩
end
theorem LL:∀{ns:List Str}{vs:List V}{f:Str},Cq ns f=none->(ns.zip vs).lookup f=none
 | [],_,_,_=>by simp
 |g::ns,[],f,h=>by simp
 |g::ns,w::vs,f,h=>by
  rw[Cq]at h
  by_cases c:g=f
  .rw[sZ c]at h;cases h
  .rw[sN c]at h;rw[IV,Hh];have:(f == g)=false:=by simpa using λz=>c z.symm
   rw[this];refine LL ?_;cases e:Cq ns f with
   |none=>rfl
   |some m=>rw[e]at h;cases h
section
variable[Xw]
variable{te:TE}{ta:TA}{lt:Bool}{K:ZJR}
theorem YJ{a0:Addr}{m:Str}{k:PV->OV->Prop}(hi:ss[i]?=some (.ow lt (.nd (.obj C dx ns) a0 us)))(j:Cq ns m=none)(h:Nv ss ta λl=>∃k',pre (.ow true (.nd (.obj C dx ns) a0 us)::l) (.mt k')/\∀p t',k' p t'->∃Ez BQ,t'=.nd Ez a0 BQ/\k p t'):
  Wm ss i lt (.nd (.obj C dx ns) a0 us) (IF C m (CI pre) [] E0 (BX i) ta) k:=⟨λE Z F H Q S q=>by
 obtain⟨d,e0,c,_,_⟩:=S.ok i _ hi;have o:d=.ref a0:=by cases c;rfl
 subst o;cases c with
 |@nd _ _ Fi _ n s u t=>
  refine⟨_,e0,a0,dx,ns.zip Fi,rfl,n,LL j,h.go E Z F H _ S λvs l F1 H1 b a⟨k',hp,kk⟩=>?_⟩;rw[E8];refine⟨.ow true (.nd (.obj C dx ns) a0 us)::l,.mt k',F1,[],(OV.nd (.obj C dx ns) a0 us).addrs,hp,b.st.Y0 hi (.here e0 a),λv F' H' f⟨p,t',r,e,nd,g,kp⟩=>?_⟩;obtain⟨Ez,BQ,rfl,k2⟩:=kk p t' kp;exact q v p _ F' H' (b.eh hi (b.st.Zw hi f e nd g)) r k2⟩
theorem Fs{m:Str}{k:PV->Prop}(h:Wp ss te λo=>∃ns xs,o=.obj C ns xs/\Cq ns m=none/\Wa ss ta λl=>∃k',pre (.is o::l) (.is k')/\∀p,k' p->k p):Wp ss (IF C m (Al pre) [] E0 te ta) k:=⟨λE Z F H Q S q=>
 h.go E Z F H _ S λv o F1 H1 c g⟨ns,xs,n,i,h2⟩=>by
  subst n;cases g with
  |@obj a _ dx _ Fi _ d t j e=>
   refine⟨a,dx,ns.zip Fi,rfl,c.st.fh _ _ d,LL i,h2.go E Z F1 H1 _ c.st λvs l F2 H2 b u⟨k',hp,kk⟩=>?_⟩;rw[E8];refine⟨.is (.obj C ns xs)::l,.is k',F2,[],hp,b.st.P2 (.cons (s:=.is _) (Rep.obj (b.ff _ _ d) (b.ff _ _ t) j (e.mono b.ff)) u),λv F' H' f⟨p,r,kp⟩=>?_⟩;exact q v p F' H' (c.trans (b.trans (b.st.back (λ_ h=>absurd h B0) f))) r (kk p kp)⟩
theorem Fn{k:PV->Prop}(h:Wp ss te λo=>∃C ns xs n y,o=.obj C ns xs/\Bz K C/\Bg K C f/\Cq ns f=some n/\xs[n]?=some y/\k y):Wp ss (LO K te f) k:=⟨λE Z F H Q S q=>
 h.go E Z F H _ S λv o F1 H1 b e AV=>by
  obtain⟨C,ns,xs,n,y,j,i,hn,hx,g,kk⟩:=AV;subst j;cases e with
  |@obj a _ dx _ Fi _ l p m d=>
   obtain⟨u,hu,c⟩:=d.get g;exact⟨a,C,dx,ns.zip Fi,u,rfl,b.st.fh _ _ l,i,hn,UN hx hu,q u y F1 H1 b c kk⟩⟩
theorem xk{k:List Nat->OV->Prop}(h:Nv ss ta λl=>∀x dx:Addr,∃k',pre (.ow true (.nd (.obj C dx []) x [])::l) (.mt k')/\∀p t',k' p t'->p=.AB/\∃C5 BQ,t'=.nd (.obj C dx C5) x BQ/\k [] t'):Wx ss (Vq C (CI pre) [] E0 ta) k:=⟨λE Z F H Q S q=>
 h.go E Z F H _ S λvs l F1 H1 d L MN x dx hx Oj Ac=>by
  rw[E8];have A:=d.st.make Oj (.own x);have O:upd H1 dx (.own x) x=none:=by rw[Af (BG Ac)];exact hx
  have N:=A.st.make O (.ins C dx []);have I:=A.trans N;have up:∀a o,H1 a=some o->upd (upd H1 dx (.own x)) x (.ins C dx []) a=some o:=λa o e=>by
   rw[Af (Dr e hx),Af (Dr e Oj)];exact e
  have w:∀a,upd (upd H1 dx (.own x)) x (.ins C dx []) a=none->H1 a=none:=λa e=>by
   cases z:H1 a with
   |none=>rfl
   |some o=>rw[up a o z]at e;cases e
  have a0:(OV.nd (.obj C dx []) x []).addrs=[x,dx]:=by rw[Kp,OV.IJ]
  have G:Aj F1 (upd (upd H1 dx (.own x)) x (.ins C dx [])) (.ref x) (.nd (.obj C dx []) x []):=.nd (k:=.obj C dx []) (vs:=[]) AJ (show upd _ x _ dx=some (.own x) by rw[Af Ac];exact AJ) rfl .nil;have f0:∀a∈(OV.nd (.obj C dx []) x []).addrs,H1 a=none:=λa b=>by
   rw[a0]at b;simp only[E9,B0,ZAb]at b;rcases b with rfl|rfl
   .exact hx
   .exact Oj
  have P:(OV.nd (.obj C dx []) x []).addrs.Nodup:=by
   rw[a0];simp[BG Ac]
  have y:=Sg.nV (j:=ss.length) (m:=[]) (v:=.ref x) (u:=.nd (.obj C dx []) x []) (d.st.grown 1) (I.st.grown 1) G P λa b=>⟨d.st.BM (f0 a b),d.st.DK (f0 a b),.inr (f0 a b)⟩;have T:=d.st.len;have hi:((ss++List.replicate 1 Slot.any).set ss.length (.ow false (.nd (.obj C dx []) x [])))[ss.length]?=some (.ow false (.nd (.obj C dx []) x [])):=Bw (by simp);have e0:((Z++List.replicate 1 none).set ss.length (some (V.ref x)))[ss.length]?=some (some (.ref x)):=Bw (by simp;omega);obtain⟨k',hp,kk⟩:=MN x dx;refine⟨.ow true (.nd (.obj C dx []) x [])::l,.mt k',F1,[],(OV.nd (.obj C dx []) x []).addrs,hp,y.Y0 hi (.here e0 L),λv F' H' f⟨p,t',r,t,nd,s,kp⟩=>?_⟩;obtain⟨rfl,C5,BQ,rfl,k2⟩:=kk p t' kp;have B:=y.Zw hi f t nd s;have at':∀n,n<ss.length->((ss++List.replicate 1 Slot.any).set ss.length (.ow false (.nd (.obj C dx []) x [])))[n]?=ss[n]?:=λn hn=>by rw[Br (by omega),Dd hn]
  have D:∀n,n<ss.length->((Z++List.replicate 1 none).set ss.length (some (V.ref x)))[n]?=Z[n]?:=λn hn=>by rw[Br (by omega),Dd (by omega)]
  have np:∀a,H1 a≠none->C6 ss Z a->C6 ((ss++List.replicate 1 Slot.any).set ss.length (.ow false (.nd (.obj C dx []) x []))) ((Z++List.replicate 1 none).set ss.length (some (V.ref x))) a:=λa _ hn n g=>by
   by_cases c:n<ss.length
   .rw[at' n c]at g;rw[D n c];exact hn n g
   .by_cases K:n=ss.length
    .subst K;rw[hi]at g;cases g
    .rw[M0 (by simp;omega)]at g;cases g
  have M:Mv E ss Z F1 H1 F' H':=d.st.step B.ff B.st.fh (λa o hn e=>B.hh a o (np a (by rw[e];simp) hn) (λz=>by rw[f0 a z]at e;cases e) (up a o e)) (λa o e=>(B.nn a o e).imp id (w a)) λn R hn J=>by
   have c:n<ss.length:=(List.getElem?_eq_some_iff.mp hn).1;refine B.st.Et (i:=n) ?_ (by rw[D n c];exact J);rw[Br (by omega)];exact(at' n c).trans hn
  cases r.inv;refine⟨rfl,q (.ref x) [] _ F' H' (d.trans M) t nd (λa b=>?_) k2⟩;have h1:H1 a=none:=(s a b).2.elim (w a) (f0 a);exact⟨(s a b).1,d.st.DK h1,.inr (d.none h1)⟩⟩
end
end Fz
namespace L2
section
variable{X:Cx}{o e value:Expr}{f:Str}{pos pos' Xh:Pos}{ta tv:TE}
theorem Cb(b:QE X e ta)(i:attributeBase e f X.env (eval e X.env)=eval e X.env:=by rfl):QE X (.Attribute e f pos) (LO X.K ta f):=⟨by
 have b:=b.h;intro Zo s Z H Q I h;refine ZHm i (b.k I h λu s1 x H1 I1 d LB=>?_);obtain⟨a,C,dx,fs,v,ex,ea,c,n,l,q⟩:=LB;subst ex;obtain rfl:u=Value.ref a:=d;exact wa I1 ea c n l λj s2 I2 g=>⟨v,H1,I2,g,q⟩⟩
theorem Nr(d:QE X o ta)(b:QE X value tv)(hs:swapsWith value (some (.Attribute o f pos')) pos.line X.env=pure false:=by rfl):QS X (.Assign [.Attribute o f pos'] value pos) (Xi X.K ta tv f):=⟨by
 have d:=d.h;have b:=b.h;intro Zo s Z H D I h;refine plainObj_wpAny_Assign_Attribute (b.k I h λu s1 y H1 I1 e q=>?_) hs;refine B9 (d Zo s1 Z H1 _ I1 q) λj s2 z=>?_;obtain⟨x,H2,I2,g,a,C,dx,fs,rfl,ea,c,n,l,i⟩:=z;obtain rfl:j=Value.ref a:=g;exact wb I2 ea c n l e λm I3=>⟨Z,_,I3,i⟩⟩
end
end L2
namespace L2
variable{pl:Sem Bool}
def Bc(P:Program)(w:World)(K:ZJR)(mg:ZJT)(Zv:Heap)(C:Addr)(m:Str)(k:Nat)(ps:List Str)(sp:Sp):Prop:=
 ∃f fd,DB P w K mg Zv E2 k f fd ps sp/\Binds K fd ps []/\Meth K C m f/\Bz K C
def Yy(P:Program)(w:World)(K:ZJR)(mg:ZJT)(Zv:Heap)(C:Addr)(k:Nat)(ps:List Str)(sp:Sp):Prop:=
 ∃f fd,DB P w K mg Zv E2 k f fd ps sp/\Binds K fd ps []/\Mk K C f
section
variable{X:Cx}{o e:Expr}{es:List Expr}{m x:Str}{C:Addr}{k j:Nat}{ps:List Str}{sp:Sp}{ta:TE}{t:TA}{apos pos p:Pos}
theorem Dy(h:Bc X.prog X.w X.K X.mg X.base C m k ps sp)(a:BW j X.A)(g:k<=j)(i:QE X o ta)(l:QA X (e::es) t)
  (Cf:EH X e es:=by rfl) (Bb:BEq X pos es:=by rfl)
  (ht:eval (.Call (.Attribute o m apos) (e::es) [] pos) X.env=(do
   let ov <- eval o X.env
   standAt apos.atName
   let (f,first) <- holding [ov] (getMethod ov m pl)
   callWith pos f first (backTo pos (starEach (e::es) X.env)) (backToKw pos (keywordEach [] X.env))):=by rfl) :
  QE X (.Call (.Attribute o m apos) (e::es) [] pos) (IF C m sp [] E0 ta t):=by
 obtain⟨f,fd,F,b,d,c⟩:=h;exact⟨ZGK i.h c d (F.mono g) a b .nil RH l.h Cf Bb ht⟩
theorem Po(h:Bc X.prog X.w X.K X.mg X.base C m k ps sp)(d:BW j X.A)(g:k<=j)(i:QE X o ta)
  (a:eval (.Call (.Attribute o m apos) [] [] pos) X.env=(do
   let ov <- eval o X.env
   standAt apos.atName
   let (f,first) <- holding [ov] (getMethod ov m pl)
   callWith pos f first (backTo pos (starEach [] X.env)) (backToKw pos (keywordEach [] X.env))):=by rfl) :
  QE X (.Call (.Attribute o m apos) [] [] pos) (IF C m sp [] E0 ta BC):=by
 obtain⟨f,fd,F,b,e,c⟩:=h;exact⟨ZCG i.h c e (F.mono g) d b .nil RH a⟩
theorem ZHB(h:Yy X.prog X.w X.K X.mg X.base C k ps sp)(a:BW (j+1) X.A)(d:k<=j)(c:X.mg x=some (.ref C))(g:QA X (e::es) t)(hg:Gl X x:=by rfl)(D9:(x == ("__debug__":Str))=false:=by decide)
  (he:EH X e es:=by rfl) (Bb:BEq X pos es:=by rfl):QE X (.Call (.Name x p) (e::es) [] pos) (Vq C sp [] E0 t):=by
 obtain⟨f,fd,F,b,M⟩:=h;exact⟨ZB4 M (F.mono d) a hg c b .nil RH g.h D9 he Bb⟩
variable{prog:Program}{w:World}{A:Around}{E:Value->Shared->Prop}{s:Shared}
end
end L2
set_option maxHeartbeats 200000
set_option maxHeartbeats 4000000
namespace L2
noncomputable def Fw(s:Stmt)(n:Nat):Stmt:=match s with
 | .ClassDef _ _ _ b ..=>b.getD n (.Pass ⟨0,0,0,0⟩)
 |s=>s
end L2
namespace Fz
open L2 Lw
@[reducible] noncomputable def xwM (X:XK) (t:OV) (D:Ex->Prop):Xw:=⟨λ_=>X,λss=>ss[0]?=some (.ow true t),D⟩
variable{pre:Pre}{R:AX}{AA ss:List Slot}{C f:Addr}
section
variable{pre:Ra}{H:Hp}
def aY(R:AX)(AA:List Slot):Prop:=∃(k:PV->OV->Prop)(nk:NK)(a:Addr)(us:List OV),R=.mt k/\AA[0]?=some (.ow true (.nd nk a us))/\k .AB (.nd nk a us)
theorem aY.ok{E:Ent0}{Z:L2.St}{F:Hp}(h:aY R AA)(S:Sg E AA Z F H):R.ok E F H .AB:=by
 obtain⟨k,g,a,us,rfl,j,i⟩:=h;obtain⟨f,e0,c,EO,d⟩:=S.ok 0 _ j;have l:f=.ref a:=by cases c;rfl
 subst l;exact⟨.AB,.nd g a us,.AB,c,EO,λb e=>⟨(d b e).1,(d b e).2.imp id λz=>z.2⟩,i⟩
end
section
variable[Xw]
variable{te tv:TE}{ta:TA}{i:Nat}{lt:Bool}{t:OV}{nx:List Slot->Prop}{K:ZJR}{f:Str}
theorem sL{m:Str}{k:List PV->Prop}(h:Wp ss te λo=>∃ns xs,o=.obj C ns xs/\Cq ns m=none/\Wa ss ta λl=>∃k',pre (.is o::l) (.new k')/\∀p,k' p->k p):Wn ss (IF C m (Al pre) [] E0 te ta) k:=⟨λE Z F H Q S q=>
 h.go E Z F H _ S λv o F1 H1 c j⟨ns,xs,x,n,h2⟩=>by
  subst x;cases j with
  |@obj a _ dx _ Fi _ g y t i=>
   refine⟨a,dx,ns.zip Fi,rfl,c.st.fh _ _ g,LL n,h2.go E Z F1 H1 _ c.st λvs l F2 H2 b z⟨k',hp,kk⟩=>?_⟩;rw[E8];refine⟨.is (.obj C ns xs)::l,.new k',F2,[],hp,b.st.P2 (.cons (s:=.is _) (Rep.obj (b.ff _ _ g) (b.ff _ _ y) t (i.mono b.ff)) z),λv F' H' f⟨a,d,e,w,u,h1,Ec,r,kp⟩=>?_⟩;subst w;exact q a d e F' H' (c.trans (b.trans (b.st.back (λ_ h=>absurd h B0) f))) u (c.none (b.none h1)) Ec r (kk e kp)⟩
end
section
variable{P:Program}{w:World}{K:ZJR}{mg:ZJT}{Zv:Heap}{x qual:Str}{st:Stmt}{fd:FuncData}{N ps:List Str}{k:Nat}
theorem Hc(F:AF K x qual st f fd)(S:Ae N ps (AM st))(a:∀ss R,pre ss R->ss.length=ps.length)
  (c:∀{AY:Value}{A:Around}{outer:List Env}{s:Shared}{H:Hp}{E:XK},BW k (A.deeper (envOfC qual (AM st) s.heap.objs.size f AY))->
   ∃t,GJ (HU E2 P w K mg Zv N qual (AM st) f AY A outer s H E).Ie (GF st) t/\∀ss R,pre ss R->Ws (ss++List.replicate (N.length - ps.length) .any) t (λ_=>∃k,R=.is k/\k .AB) R):DB P w K mg Zv E2 (k+1) f fd ps (Al pre):=
 F.BJ S (λvs H Q E h=>ZEX a h) λAY A outer s H vs Q E b h=>let ⟨t,q,r⟩:=c b;⟨t,q,ZHq h a r⟩
theorem dY(F:AF K x qual st f fd)(S:Ae N ps (AM st))(a:∀ss R,pre ss R->ss.length=ps.length)
  (c:∀{AY:Value}{A:Around}{outer:List Env}{s:Shared}{H:Hp}{E:XK},BW k (A.deeper (envOfC qual (AM st) s.heap.objs.size f AY))->
   ∃t,GJ (HU E2 P w K mg Zv N qual (AM st) f AY A outer s H E).Ie (GF st) t/\∀ss R,pre ss R->Ws (ss++List.replicate (N.length - ps.length) .any) t (λ_=>False) R):DB P w K mg Zv E2 (k+1) f fd ps (CI pre):=
 F.BJ S (λvs H Q E h=>PX a h) λAY A outer s H vs Q E b h=>let ⟨t,q,r⟩:=c b;⟨t,q,ZA0 h a r⟩
theorem hF(F:AF K x qual st f fd)(b:∀(kV a c:Value)(g:Option Addr)(AY ct:Value)(us:List Value),us.length=ps.length->bindArgs (PySem.W.fnOf x qual (LJ st) (GF st) (AM st) .none kV a c g AY ct) ⟨us,[]⟩=pure (ps.zip us))(m:mg x=some (.ref f))(S:Ae N ps (AM st))(d:∀ss R,pre ss R->ss.length=ps.length)
  (e:∀{AY:Value}{A:Around}{outer:List Env}{s:Shared}{H:Hp}{E:XK},BW k (A.deeper (envOfC qual (AM st) s.heap.objs.size f AY))->
   ∃t,GJ (HU E2 P w K mg Zv N qual (AM st) f AY A outer s H E).Ie (GF st) t/\∀ss R,pre ss R->Ws (ss++List.replicate (N.length - ps.length) .any) t (λ_=>∃k,R=.is k/\k .AB) R):A9 P w K mg Zv x (k+1) ps (Al pre):=
 A9.mk F (F.binds b) m (Hc F S d e)
theorem hM(F:AF K x qual st f fd)(b:∀(kV a c:Value)(g:Option Addr)(AY ct:Value)(us:List Value),us.length=ps.length->bindArgs (PySem.W.fnOf x qual (LJ st) (GF st) (AM st) .none kV a c g AY ct) ⟨us,[]⟩=pure (ps.zip us))(m:mg x=some (.ref f))(S:Ae N ps (AM st))(d:∀ss R,pre ss R->ss.length=ps.length)
  (e:∀{AY:Value}{A:Around}{outer:List Env}{s:Shared}{H:Hp}{E:XK},BW k (A.deeper (envOfC qual (AM st) s.heap.objs.size f AY))->
   ∃t,GJ (HU E2 P w K mg Zv N qual (AM st) f AY A outer s H E).Ie (GF st) t/\∀ss R,pre ss R->Ws (ss++List.replicate (N.length - ps.length) .any) t (λ_=>False) R):A9 P w K mg Zv x (k+1) ps (CI pre):=
 A9.mk F (F.binds b) m (dY F S d e)
end
end Fz
namespace L2
variable{X:Cx}{S a:Addr}{e o:Expr}{te to:TE}{pos pos':Pos}{x:Str}{r:List V->Hp->VK->Prop}{ns ps:List Str}{op:CmpOp}{Zo:ZJS}{H:Hp}{s:Shared}
section
variable{a b:Expr}{es:List Expr}{ta tb:TE}{t:TA}{p:Pos}
theorem B6{id:String}(b:D3 X (.builtin id) r)(a:X.mg x=none)(c:QA X (e::es) t)(hg:Gl X x:=by rfl)(hv:bootBuiltins x=some (.builtin id):=by decide +kernel)(hn:x ≠"__name__" := by decide)(D9:(x == ("__debug__":Str))=false:=by decide)
  (he:EH X e es:=by rfl) (Bb:BEq X pos es:=by rfl):QE X (.Call (.Name x p) (e::es) [] pos) (DL r t):=ZEY b hg a hv c hn D9 he Bb
theorem Cy{T:String}(b:D3 X (.type T) r)(a:X.mg x=none)(c:QA X (e::es) t)(hg:Gl X x:=by rfl)(hv:bootBuiltins x=some (.type T):=by decide +kernel)(hn:x ≠"__name__" := by decide)(D9:(x == ("__debug__":Str))=false:=by decide)
  (he:EH X e es:=by rfl) (Bb:BEq X pos es:=by rfl):QE X (.Call (.Name x p) (e::es) [] pos) (DL r t):=ZHN b hg a hv c hn D9 he Bb
theorem AI{r:R2}(c:FU X r)(e:QE X a ta)(d:QE X b tb)(hs:UL b:=by exact λ_ _=>rfl):QE X (.Subscript a b pos) (Bv r ta tb):=rH c e d hs
theorem AS{j k:Nat}{sp:Sp}(h:A9 X.prog X.w X.K X.mg X.base x k ps sp)(a:BW j X.A)(c:QA X (e::es) t)(b:k<=j:=by decide)(hg:Gl X x:=by rfl)(D9:(x == ("__debug__":Str))=false:=by decide)
  (he:EH X e es:=by rfl) (Bb:BEq X pos es:=by rfl):QE X (.Call (.Name x p) (e::es) [] pos) (CZ sp [] E0 t):=yG h a b c hg D9 he Bb
theorem E7{r:R2}(ho:BB X (compareOp op) r)(e:QE X a ta)(d:QE X b tb)(c:behindInMarks op b=false:=by first|exact dv _|with_unfolding_all rfl):QE X (.Compare a [op] [b] pos) (Bv r ta tb):=se ho e d c
theorem Ad{r:R2}(ho:BB X (compareOp op) r)(e:QE X a ta)(d:QE X b tb)(c:behindInMarks op b=false:=by first|exact dv _|with_unfolding_all rfl):QT X (.Compare a [op] [b] pos) (L4 (Bv r ta tb)):=qL ho e d c
theorem Ax(i:Nat)(b:X.N.Nodup)(a:QE X e te)(hi:X.N[i]?=some x:=by rfl)(hx:Loc X.env.scope x:=by first|exact Or.inl rfl|exact Or.inr rfl)(hs:swapsWith e (some (.Name x pos')) pos.line X.env=pure false:=by rfl)(hf:X.fn x=true∨X.env.scope.names.lookup x=some .local:=by first|exact .inl rfl|exact .inr rfl|assumption):
  QS X (.Assign [.Name x pos'] e pos) (GC te (Du i)):=ZDh b hi hx a hs hf
theorem D0(i:Nat)(a:X.N.Nodup)(hi:X.N[i]?=some x:=by rfl)(hx:Loc X.env.scope x:=by first|exact Or.inl rfl|exact Or.inr rfl)(hf:X.fn x=true∨X.env.scope.names.lookup x=some .local:=by first|exact .inl rfl|exact .inr rfl|assumption):QG X (.Name x pos) (Du i):=ZAI a hi hx hf
end
open AutoSeq1 (wpAny_loadPart')
section
variable{prog:Program}{w:World}{A:Around}{E:Value->Shared->Prop}
variable{M:Model}{env:Env}
variable{lo hi:Option Expr}{tl th:TO}{p2:Pos}
variable{Z:St}
theorem mE:typeLookup (.type "dict") "__len__"=pure (some (.builtin "dict.__len__")):=by rw[ZAT,yb];kernel_rfl
theorem vS{A6:List (Key×Value)}{n:Nat}{Q:List Value->Shared->Prop}(hh:A.handled=none)(Fu:(S == sysModules)=false)(d:s.heap.DictOf (C3 prog w) S A6)(q:A6.length=n)(hn:n<=sizeLine)
  (h:∀(s':Shared)(vs:List Value),(∀b o,s.heap.get? b=some o->s'.heap.get? b=some o)->s.heap.objs.size<=s'.heap.objs.size->s'.gens=s.gens->s'.os=s.os->vs.length=n->(∀(i:Nat)v,vs[i]?=some v->∃k x,A6[i]?=some (k,x)/\(C3 prog w).is k v=true)->Q vs s') :
  wpAny (model prog w) A (collect (.ref S)) Q E s:=by
 obtain⟨ep,d⟩:=d.dictAt;have H:S<s.heap.objs.size:=d.lt_size;have u:s.heap.objs.size≠S:=M8 H;unfold collect;refine pN (ZB7 (xA F.entry_proto_collect ?_));rw[NX F.plain_proto_collect _];show wpAny _ A.in1 (newList [] >>= λl=>again (.builtin "list.__iadd__" ⟨[l,.ref S],[]⟩)) _ _ s;refine pN (wW ?_);refine pq ⟨ZAE ah _,xA F.entry_list_iadd ?_⟩;rw[NX ah _];generalize r:({ cls:=.type "list", data:=.seq ([]:List Value).toArray }:Obj)=so;have j:(s.heap.push so).DictAt (C3 prog w) S A6 ep:=d.push _;have O:(s.heap.push so).get? s.heap.objs.size=some so:=Ba _ (by rw[<- r];rfl);have sz:(s.heap.push so).objs.size=s.heap.objs.size+1:=Eh ..;have G:Shared.TypeIs { s with heap:=s.heap.push so } (.ref S) "dict" := j.dictOf.typeIs
 have h1:Builtin.List.listSameRef (.ref s.heap.objs.size) (.ref S)=false:=by simp[Builtin.List.listSameRef,u]
 show wpAny _ A.in1 (Builtin.List.listExtendWith (.ref s.heap.objs.size) (.ref S) (.ref s.heap.objs.size)) _ _ { s with heap:=s.heap.push so }
 unfold Builtin.List.listExtendWith;refine pN (zj G ?_);rw[sN (by rw[h1];decide)];refine pN (ZBD (s:={ s with heap:=s.heap.push so }) Fu j ?_)
 dsimp only;generalize f:({ cls:=.type "dict_keyiterator", data:=.fields #[.ref S,.int 0 0,.int A6.length 0,.int ep 0] }:Obj)=io;have kp:∀b o,(s.heap.push so).get? b=some o->((s.heap.push so).push io).get? b=some o:=λb o e=>BH _ e;have P:S≠(s.heap.push so).objs.size:=by rw[sz];exact BP (IX H)
 have W:∀A2:Around,A2.handled=none->Walks prog w A2 (s.heap.push so).objs.size [(s.heap.push so).objs.size,S] [(s.heap.push so).objs.size] A6.length _ _:=λA2 h2=>bD (knd:=C3 prog w) h2 (s.heap.push so).objs.size S P A6 ep;have y:((s.heap.push so).push io).IsKeyIter (s.heap.push so).objs.size S 0 A6.length ep/\((s.heap.push so).push io).DictAt (C3 prog w) S A6 ep:=⟨⟨io,Ba _ (by rw[<- f];rfl),by rw[<- f],by rw[<- f];rfl⟩,j.push _⟩;have D:s.heap.objs.size∉[(s.heap.push so).objs.size,S]:=λc=>by
  simp only[E9,B0,ZAb]at c;rcases c with z|z
  .rw[sz]at z;omega
  .exact u z
 generalize T:(s.heap.push so).push io=h2 at kp y ⊢;have g:Shared.TypeIs { s with heap:=h2 } (.ref S) "dict" := by obtain⟨o,ho,N⟩:=G;exact⟨o,kp _ _ ho,N⟩
 refine pN (x6 ?_);unfold Builtin.List.listLengthHint;refine pN (ZAM g mE ?_);generalize C:("dict.__len__":String)=Li
 wp_delta
 rw[show splitId Li=some ("dict","__len__")from by subst C;decide +kernel];subst C;refine pN (ZA3 (b:=true) g (by rw[xQ];kernel_rfl) ?_);rw[sN (by decide)];refine ZAS (λ_=>?_) (λDM=>absurd (by decide +kernel) DM);refine pN (zj g ?_);refine pq ?_;refine ZAS (λ_=>?_) (λDM=>absurd (by decide +kernel) DM);refine pN (ZAs ?_);refine pN ?_;show wpAny _ _ (updateSeq s.heap.objs.size (·.push .none) >>= λ_=>updateSeq s.heap.objs.size (·.pop)) _ _ _
 have K:(#[]:Array Value).size<=sizeLine:=CH _;have m:((#[]:Array Value).push Value.none).size<=sizeLine:=by show 1<=sizeLine;decide
 have J:((#[]:Array Value).push Value.none).size<=sizeLine+1:=UD m;have I:(((#[]:Array Value).push Value.none).pop).size<=sizeLine+1:=CH _;have t:=kp _ _ O;subst r;refine pN (zw (s:={ s with heap:=h2 }) t rfl ?_ K J)
 have p:=GR (Obj.mapSeq (·.push Value.none)) t rfl
 refine zw p rfl ?_ m I;have L:=GR (Obj.mapSeq (·.pop)) p rfl
 have B:∀b o,b≠s.heap.objs.size->h2.get? b=some o->((h2.update s.heap.objs.size (Obj.mapSeq (·.push Value.none))).update s.heap.objs.size (Obj.mapSeq (·.pop))).get? b=some o:=
  λb o a e=>(Gz _ _ (BG a)).trans ((Gz _ _ (BG a)).trans e)
 refine pq ⟨ZAE oO _,ZAm (W A.in1 hh).toS (q▸hn) _ D _ A6.length 0 _ #[] _ rfl (CH _) ?_ L (ai _) λs' DA R c CY Aq=>?_⟩
 .exact(W A.in1 hh).frame 0 h2 _ y λb a o e=>B b o (λz=>D (z▸a)) e
 .show wpAny _ A (load s.heap.objs.size >>= _) _ _ s';refine pN (ZAx CY ?_);refine pq ?_;refine h s' DA.toList (λb o e=>?_) (JU (BE CY)) c.gens c.os (by rw[Gy,Aq.1];exact q) λi v M=>Aq.2 i v (by rw[<- QX];exact M);have a:b<s.heap.objs.size:=BE e;refine c.heap b o ?_ (B b o (BP a) (kp b o (BH _ e)));simp only[E9,B0,ZAb,not_or];refine⟨BP a,?_⟩;rw[sz];exact BP (IX a)
end
theorem ic{prog:Program}{w:World}:∀{ns:List Str}{A6:List (Key×Value)}{vs:List Value},A6.map (·.1)=ns.map Sum.inr->vs.length=A6.length->(∀(i:Nat)v,vs[i]?=some v->∃k x,A6[i]?=some (k,x)/\(C3 prog w).is k v=true)->StrsAre vs ns
 | [],[],[],_,_,_=>.nil
 | [],[],_::_,_,h,_=>by simp at h
 | [],_::_,_,h,_,_=>by simp at h
 |_::_,[],_,h,_,_=>by simp at h
 |_::_,_::_,[],_,h,_=>by simp at h
 |n::ns,kv::A6,v::vs,e,hl,h=>by
  rw[Bs,Bs]at e;injection e with e1 e2
  obtain⟨k,x,c,b⟩:=h 0 v rfl;have d:kv=(k,x):=by simpa using c
  subst d;have f:k=Sum.inr n:=e1;subst f;rcases Gb (show JC (Sum.inr n) v=true from b)with⟨i,t,z,_⟩|⟨y,t,z,rfl⟩
  .cases z
  .cases z;exact .cons n t (ic e2 (by simpa using hl) λi v a=>h (i+1) v a)
theorem StrsAre.y1{vs:List Value}(h:StrsAre vs ns):vs.length=ns.length:=by induction h with|nil=>rfl|cons y t h a=>simp[a]
def dU:List V->Hp->VK->Prop:=λxs H Q=>∃(p:Addr)(A6:List (Key×V))(ns:List Str),xs=[.ref p]/\Rd H p (.dK A6)/\A6.map (·.1)=ns.map Sum.inr/\ns.length<64/\∀(l:Addr)(AA:List Str),H l=none->AA.Perm ns->sortedS AA=true->Q (.ref l) (upd H l (.lst (AA.map V.str)))
theorem bQ(n:X.calm=true):D3 X (.builtin "sorted") dU:=by
 intro Zo s Z H xs us Q I r h;obtain⟨p,A6,ns,rfl,v,j,C8,q⟩:=h;obtain⟨u,rfl,f⟩:=vals1 r;cases f;obtain⟨g,Fu,Fi,rel,t⟩:=HS I.AO v;have hh:X.A.handled=none:=I.ok.hd n;have x:Fi.map (·.1)=ns.map Sum.inr:=rel.keys.symm.trans j
 refine Vc (Pc:=λvs s1=>(∀b o,s.heap.get? b=some o->s1.heap.get? b=some o)/\s.heap.objs.size<=s1.heap.objs.size/\s1.gens=s.gens/\s1.os=s.os/\StrsAre vs ns) (λA1 E1 Q1 w k=>?_) ?_
 .exact vS (w.trans hh) Fu t rfl (by rw[<- rel.length];exact g) λs' vs a1 a2 d c a y=>k vs s' ⟨a1,a2,d,c,ic x a y⟩
 .rintro vs s1⟨a1,a2,d,c,a⟩;refine⟨by rw[StrsAre.y1 a];exact C8,ns,a,λout AA e h' kp m CY hp hs=>?_⟩;exact Yr I d c a1 a2 kp m CY (by rw[hp.length_eq];exact C8) λl i=>q l AA i hp hs
end L2
namespace Fz
open L2 Lw
theorem Wk:∀{ks:List Key}{vs:List V},ks.length=vs.length->(ks.zip vs).map (·.1)=ks
 | [],[],_=>rfl
 | [],_::_,h=>by simp at h
 |_::_,[],h=>by simp at h
 |k::ks,v::vs,h=>by
  rw[IV,Bs,Wk (by simpa using h)]
end Fz
namespace L2
section
variable{prog:Program}{w:World}{A:Around}{s:Shared}{R:Result->Shared->Prop}
theorem ZAV{L S:Addr}{N:Nat}{res:Value}{A6:List (Key×Value)}{n:Nat}(hh:A.handled=none)(Fu:(S == sysModules)=false)(l:s.heap.get? L=some { cls:=.type "list", data:=.seq #[] N })(vg:s.heap.DictOf (C3 prog w) S A6)(en:A6.length=n)(hn:n<=sizeLine)
  (h:∀(s':Shared)(vs:List Value)(d:Nat),(∀b o,b≠L->s.heap.get? b=some o->s'.heap.get? b=some o)->L<s'.heap.objs.size->s'.gens=s.gens->s'.os=s.os->s'.heap.get? L=some { cls:=.type "list", data:=.seq vs.toArray d }->vs.length=n->(∀(i:Nat)v,vs[i]?=some v->∃k x,A6[i]?=some (k,x)/\(C3 prog w).is k v=true)->R (.ok (.ret res)) s') :
  wpAny (model prog w) A.in1 (Builtin.List.listExtendWith (.ref L) (.ref S) res)
   (λm s'=>match m with | .done f=>R (.ok f) s' | .again d=>d.quiet=true/\codeAny (model prog w) A d R s') (λe s'=>R (.error e) s') s:=by
 obtain⟨ep,g⟩:=vg.dictAt;have Q:S<s.heap.objs.size:=g.lt_size;have B:L≠S:=λz=>by
  subst z;obtain⟨o,ho,j⟩:=g.dictOf.typeIs;rw[l]at ho;cases ho;exact absurd j (by show ¬ Value.type "list"=Value.type "dict"; decide)
 have G:Shared.TypeIs s (.ref S) "dict" := g.dictOf.typeIs;have h1:Builtin.List.listSameRef (.ref L) (.ref S)=false:=by simp[Builtin.List.listSameRef,B]
 unfold Builtin.List.listExtendWith;refine pN (zj G ?_);rw[sN (by rw[h1];decide)];refine pN (ZBD (s:=s) Fu g ?_);dsimp only;generalize p:({ cls:=.type "dict_keyiterator", data:=.fields #[.ref S,.int 0 0,.int A6.length 0,.int ep 0] }:Obj)=io;have kp:∀b o,s.heap.get? b=some o->(s.heap.push io).get? b=some o:=λb o e=>BH _ e;have P:S≠s.heap.objs.size:=BP Q;have W:∀A2:Around,A2.handled=none->Walks prog w A2 s.heap.objs.size [s.heap.objs.size,S] [s.heap.objs.size] A6.length _ _:=λA2 h2=>bD (knd:=C3 prog w) h2 s.heap.objs.size S P A6 ep;have C:(s.heap.push io).IsKeyIter s.heap.objs.size S 0 A6.length ep/\(s.heap.push io).DictAt (C3 prog w) S A6 ep:=⟨⟨io,Ba _ (by rw[<- p];rfl),by rw[<- p],by rw[<- p];rfl⟩,g.push _⟩;have F:L∉[s.heap.objs.size,S]:=λc=>by
  simp only[E9,B0,ZAb]at c;rcases c with z|z
  .have q:L<s.heap.objs.size:=BE l;rw[z]at q;exact M6 _ q
  .exact B z
 generalize T:s.heap.push io=h2 at kp C ⊢;have r:Shared.TypeIs { s with heap:=h2 } (.ref S) "dict" := by obtain⟨o,ho,j⟩:=G;exact⟨o,kp _ _ ho,j⟩
 refine pN (x6 ?_);unfold Builtin.List.listLengthHint;refine pN (ZAM r mE ?_);generalize E:("dict.__len__":String)=Li
 wp_delta
 rw[show splitId Li=some ("dict","__len__")from by subst E;decide +kernel];subst E;refine pN (ZA3 (b:=true) r (by rw[xQ];kernel_rfl) ?_);rw[sN (by decide)];refine ZAS (λ_=>?_) (λDM=>absurd (by decide +kernel) DM);refine pN (zj r ?_);refine pq ?_;refine ZAS (λ_=>?_) (λDM=>absurd (by decide +kernel) DM);refine pN (ZAs ?_);refine pN ?_;show wpAny _ _ (updateSeq L (·.push .none) >>= λ_=>updateSeq L (·.pop)) _ _ _
 have J:(#[]:Array Value).size<=sizeLine:=CH _;have t:((#[]:Array Value).push Value.none).size<=sizeLine:=by show 1<=sizeLine;decide
 have I:((#[]:Array Value).push Value.none).size<=sizeLine+1:=UD t;have H:(((#[]:Array Value).push Value.none).pop).size<=sizeLine+1:=CH _;have y:=kp _ _ l;refine pN (zw (s:={ s with heap:=h2 }) y rfl ?_ J I)
 have u:=GR (Obj.mapSeq (·.push Value.none)) y rfl
 refine zw u rfl ?_ t H;have K:=GR (Obj.mapSeq (·.pop)) u rfl
 have D:∀b o,b≠L->h2.get? b=some o->((h2.update L (Obj.mapSeq (·.push Value.none))).update L (Obj.mapSeq (·.pop))).get? b=some o:=
  λb o a e=>(Gz _ _ (BG a)).trans ((Gz _ _ (BG a)).trans e)
 refine pq ⟨ZAE oO _,ZAm (W A.in1 hh).toS (en▸hn) _ F _ A6.length 0 _ #[] _ rfl (CH _) ?_ K (ai _) λs' DA d c CY Aq=>?_⟩
 .exact(W A.in1 hh).frame 0 h2 _ C λb a o e=>D b o (λz=>F (z▸a)) e
 .have hsz:L<s'.heap.objs.size:=BE CY;refine h s' DA.toList d (λb o a e=>?_) hsz c.gens c.os CY (by rw[Gy,Aq.1];exact en) λi v M=>Aq.2 i v (by rw[<- QX];exact M);have O:b<s.heap.objs.size:=BE e;refine c.heap b o ?_ (D b o a (kp b o e));simp only[E9,B0,ZAb,not_or];exact⟨a,BP O⟩
end
theorem mi{prog:Program}{w:World}:∀{ks:List Key}{A6:List (Key×Value)}{vs:List Value},A6.map (·.1)=ks->vs.length=A6.length->(∀(i:Nat)v,vs[i]?=some v->∃k x,A6[i]?=some (k,x)/\(C3 prog w).is k v=true)->Vals (ks.map kV) vs
 | [],[],[],_,_,_=>.nil
 | [],[],_::_,_,h,_=>by simp at h
 | [],_::_,_,h,_,_=>by simp at h
 |_::_,[],_,h,_,_=>by simp at h
 |_::_,_::_,[],_,h,_=>by simp at h
 |n::ns,kv::A6,v::vs,e,hl,h=>by
  rw[Bs]at e;injection e with e1 e2
  obtain⟨k,x,c,b⟩:=h 0 v rfl;have d:kv=(k,x):=by simpa using c
  subst d;have f:k=n:=e1;subst f;refine .cons ?_ (mi e2 (by simpa using hl) λi v a=>h (i+1) v a)
  rcases Gb (show JC k v=true from b)with⟨i,t,rfl,rfl⟩|⟨y,t,rfl,rfl⟩
  .exact⟨t,rfl⟩
  .exact⟨t,rfl⟩
section
variable{X:Cx}
def d4:List V->Hp->VK->Prop:=λxs H Q=>∃(p:Addr)(A6:List (Key×V)),xs=[.ref p]/\Rd H p (.dK A6)/\A6.length<=1000/\∀l:Addr,H l=none->Q (.ref l) (upd H l (.lst ((A6.map (·.1)).map kV)))
theorem mR(x:X.calm=true):D3 X (.type "list") d4:=by
 intro Zo s Z H xs us Q I r h;obtain⟨p,A6,rfl,y,J,q⟩:=h;obtain⟨u,rfl,t⟩:=vals1 r;cases t;obtain⟨i,Fu,Fi,rel,j⟩:=HS I.AO y;have hh:X.A.handled=none:=I.ok.hd x;have G:p<s.heap.objs.size:=by obtain⟨ep,h2⟩:=j.dictAt;exact h2.lt_size
 have L:p≠s.heap.objs.size:=BP G;refine callType_codes (Q₁:=λobj g=>obj=.ref s.heap.objs.size/\g={ s with heap:=s.heap.push { cls:=.type "list", data:=.seq #[] } }) F.called_list (F.typeCall_list_1 _) F.entry_list_init
  (code_list_new _ ⟨rfl,rfl⟩) λobj g v=>?_
 obtain⟨rfl,rfl⟩:=v;have d:(s.heap.push { cls:=.type "list", data:=.seq #[] }).get? s.heap.objs.size=some { cls:=.type "list", data:=.seq #[] }:=Ba _ rfl;refine⟨⟨_,d,rfl⟩,F.args_list_init_2 _ _,?_⟩;show wpAny _ X.A.in1.in1 (do let c <- Builtin.List.listItems (.ref s.heap.objs.size);Builtin.List.listUpdate (.ref s.heap.objs.size) (λ_=>#[]);letGo c.toList.reverse;Builtin.List.listExtendWith (.ref s.heap.objs.size) (.ref p) .none) _ _ _
 refine pN ?_;unfold Builtin.List.listItems;refine pN (wpAny_seqItems d rfl (pq ?_));show wpAny _ X.A.in1.in1 (updateSeq s.heap.objs.size (λ_=>#[]) >>= λ_=>letGo (#[]:Array Value).toList.reverse >>= λ_=>Builtin.List.listExtendWith (.ref s.heap.objs.size) (.ref p) .none) _ _ _;refine pN (zw d rfl ?_);have E:=GR (Obj.mapSeq (λ_=>(#[]:Array Value))) d rfl;have c:∀b o,s.heap.get? b=some o->((s.heap.push { cls:=.type "list", data:=.seq #[] }).update s.heap.objs.size (Obj.mapSeq (λ_=>(#[]:Array Value)))).get? b=some o:=λb o e=>
  (Gz _ _ (M8 (BE e))).trans (BH _ e)
 have f:((s.heap.push { cls:=.type "list", data:=.seq #[] }).update s.heap.objs.size (Obj.mapSeq (λ_=>(#[]:Array Value)))).DictOf (C3 X.prog X.w) p Fi:=by
  obtain⟨o,es,ep,ho,rest⟩:=j;exact⟨o,es,ep,c _ _ ho,rest⟩
 refine pN (wpAny_letGo ?_);refine ZAV (A:=X.A.in1) hh Fu E f rfl (by rw[<- rel.length];exact i) λs' vs B a1 a2 m l k D C=>?_;have n:Vals ((A6.map (·.1)).map kV) vs:=by
  rw[rel.keys];exact mi rfl D C
 refine⟨rfl,?_⟩;obtain⟨h1,g1,z,t1,K⟩:=s';simp only at a1 a2 m l k;subst m;subst l;refine⟨.ref _,_,(I.drew z).laid (a:=s.heap.objs.size) (h':=h1) (t':=t1) (o:=.lst ((A6.map (·.1)).map kV)) (λb o e=>a1 b o (BP (BE e)) (c b o e)) (Ag _) ?_,rfl,q _ (I.AO.fresh (Ag _))⟩
 exact⟨by rw[AU,AU];exact i,vs,B,n,k⟩
def ba:List V->Hp->VK->Prop:=λxs H Q=>∃(p:Addr)(A6:List (Key×V)),xs=[.ref p]/\Rd H p (.dK A6)/\Q (.int A6.length) H
theorem nE:D3 X (.builtin "len") ba:=by
 intro Zo s Z H xs us Q I r h;obtain⟨p,A6,rfl,b,q⟩:=h;obtain⟨u,rfl,a⟩:=vals1 r;cases a;exact vL I b λt s' I'=>⟨.int A6.length,H,I',⟨t,rfl⟩,q⟩
variable{i o:Expr}{ty td:TE}{pos:Pos}
theorem ZCz(hu:X.A.units+1<cLine)(hi:QE X i ty)(ho:QE X o td)(a:behindInMarks .In o=false:=by with_unfolding_all rfl):QT X (.Compare i [.In] [o] pos) (tB (Uk ty td)):=⟨gi (ZCX hu hi.h ho.h) a⟩
theorem pA(hu:X.A.units+1<cLine)(hi:QE X i ty)(ho:QE X o td)(a:behindInMarks .NotIn o=false:=by with_unfolding_all rfl):QT X (.Compare i [.NotIn] [o] pos) (tB (aD ty td)):=⟨gi (zZ hu hi.h ho.h) a⟩
end
end L2
namespace Fz
open L2 Lw
theorem Yi{F:Hp}:∀ks:List Key,AW F (ks.map kV) (ks.map GK)
 | []=>.nil
 | .inl i::ks=>.cons (.int i) (Yi ks)
 | .inr x::ks=>.cons (.str x) (Yi ks)
section
variable[Xw]
variable{E:Ent0}{ss:List Slot}{Z:L2.St}{F H F' H':Hp}{K:ZJR}{i:Nat}{t:OV}{ta tb tc te:TE}{nx:List Slot->Prop}{R:AX}
theorem jK{k:PV->Prop}(h:Wl ss i t te λ_ u=>∃(ks:List Key)(a:Addr)(us:List OV),u=.nd (.B1 ks) a us/\k (.int ks.length)):Wp ss (DL ba (Ab te BC)) k:=⟨λE Z F H Q S q=>
 h.go E Z F H _ S λv p u F1 H1 b r C2 AV=>by
  obtain⟨ks,a,us,e,kk⟩:=AV;subst e;obtain⟨vs,rfl,c,g,d,j⟩:=r.inv;have f:ks.length=vs.length:=d;refine⟨a,_,rfl,.inl c,?_⟩;rw[Qa,<- f,b7];exact q _ _ F1 H1 b (.int _) kk⟩
theorem iX{k:List PV->Prop}(h:Wl ss i t te λ_ u=>∃(ks:List Key)(a:Addr)(us:List OV),u=.nd (.B1 ks) a us/\ks.length<=1000/\k (ks.map GK)):Wn ss (DL d4 (Ab te BC)) k:=⟨λE Z F H Q S q=>
 h.go E Z F H _ S λv p u F1 H1 b r C2 AV=>by
  obtain⟨ks,a,us,f,m,kk⟩:=AV;subst f;obtain⟨vs,rfl,d,g,e,j⟩:=r.inv;refine⟨a,_,rfl,.inl d,by rw[Qa];omega,λl Eu=>?_⟩;rw[Wk e];have c:=b.st.make Eu (.lst (ks.map kV));exact q l _ _ F1 _ (b.trans c) (b.st.BM Eu) (b.none Eu) AJ (Yi ks) kk⟩
theorem j3{k:List PV->Prop}(h:Wl ss i t te λ_ u=>∃(ns:List Str)(a:Addr)(us:List OV),u=.nd (.B1 (ns.map Sum.inr)) a us/\ns.length<64/\∀C5:List Str,C5.Perm ns->sortedS C5=true->k (C5.map PV.str)):Wn ss (DL dU (Ab te BC)) k:=⟨λE Z F H Q S q=>
 h.go E Z F H _ S λv p u F1 H1 b r C2 AV=>by
  obtain⟨ns,a,us,g,d,kk⟩:=AV;subst g;obtain⟨vs,rfl,e,j,f,m⟩:=r.inv;refine⟨a,_,ns,rfl,.inl e,Wk f,d,λl C5 Eu hp hs=>?_⟩;have c:=b.st.make Eu (.lst (C5.map V.str));exact q l _ _ F1 _ (b.trans c) (b.st.BM Eu) (b.none Eu) AJ (Lg C5) (kk C5 hp hs)⟩
end
end Fz
namespace L2
variable{w:World}{H H2:Hp}{a b it:Addr}{X:Cx}{Zo:ZJS}{s s2:Shared}{r x:Value}{A6:List (Key×V)}{A:Around}{E:Value->Shared->Prop}{o:Obj}{ep i tk:Nat}{e tg:Expr}{tn:Nat->Heap->Prop}
section
variable{prog:Program}
variable{z TI TO i1 i2 l1 l2:Addr}{k:Nat}{t1 t2:Bool}{xs ys:Array Value}{y a b:Value}
variable{Z:St}
theorem Inv.swap{a:Addr}{g f:HO}(I:Inv X Zo Z H s)(d:H a=some g)(i:∀x,g≠.own x)(h:∀x:IS,g≠x.ho)(n1:∀o u,X.H₀ a≠some (.C0 o u))(j:∀x:IS,X.H₀ a≠some x.ho)
  (new:C7 X.prog X.w H s.heap a f):Inv X Zo Z (upd H a f) s:=by
 have tr:∀b,b≠a->upd H a f b=H b:=λb k=>Af k;have own:∀b x,H b=some (.own x)->upd H a f b=some (.own x):=λb x e=>by
  rw[tr b (by rintro rfl;rw[d]at e;exact i x (by injection e))];exact e
 have tup:∀b(x:IS),H b=some x.ho->upd H a f b=some x.ho:=λb xs e=>by
  rw[tr b (by rintro rfl;rw[d]at e;exact h xs (by injection e))];exact e
 refine⟨I.ok,I.os,I.bare,⟨I.base.keep,I.base.slot,λb o q n hx=>?_,I.base.there,λb xs q=>?_,λb o u q=>?_⟩,I.loc,I.cell,?_,λy c q=>?_,λp hp=>?_,λb o q=>?_,I.len⟩
 .have z:=I.base.free b o q n hx;rw[tr b (by rintro rfl;rw[d]at z;cases z)];exact z
 .rw[tr b (by rintro rfl;exact j xs q)];exact I.base.IM b xs q
 .rw[tr b (by rintro rfl;exact n1 o u q)];exact I.base.HP b o u q
 .have z:=I.free;rw[tr _ (by rintro e;rw[e,d]at z;cases z)];exact z
 .have z:=I.HQ y c q;rw[tr _ (by rintro rfl;rw[d]at z;cases z)];exact z
 .obtain⟨h1,h2,l⟩:=I.pin p hp;exact⟨h1,by rw[tr _ (by rintro e;rw[e,d]at h2;cases h2)];exact h2,l⟩
 .by_cases z:b=a
  .subst z;rw[AJ]at q;cases q;exact new.JL (λ_ _ _ e=>e) (λc e=>own c _ e) tup
  .rw[tr b z]at q;exact(I.AO b o q).JL (λ_ _ _ e=>e) (λc e=>own c _ e) tup
def d6(X:Cx)(a:Addr):Prop:=(∀o u,X.H₀ a≠some (.C0 o u))/\∀x:IS,X.H₀ a≠some x.ho
theorem Inv.iA{a:Addr}(I:Inv X Zo Z H s)(b:H a=some (.dK A6)):d6 X a:=by
 refine⟨λo u e=>?_,λxs e=>?_⟩
 .have:=I.base.HP a o u e;rw[b]at this;cases this
 .have:=I.base.IM a xs e;rw[b]at this;cases xs <;> cases this
theorem Inv.held{a:Addr}(I:Inv X Zo Z H s)(b:H a=some (.dK A6)):∃o es ep,s.heap.get? a=some o/\o.data=.dict es ep/\Inv X Zo Z (upd H a (.C0 o (.dK A6))) s:=by
 obtain⟨z,y,vs,r,ob,es,ep,e,c,d,rest⟩:=I.AO a _ b;have m:=I.iA b;exact⟨ob,es,ep,e,d,I.swap b (λ_ z=>by cases z) (λx z=>by cases x <;> cases z) m.1 m.2 ⟨e,z,y,vs,r,ob,es,ep,e,c,d,rest⟩⟩
theorem Inv.T7{a:Addr}{u:HO}(I:Inv X Zo Z H s)(m:d6 X a)(b:H a=some (.C0 o u)):Inv X Zo Z (upd H a u) s:=
 I.swap b (λ_ z=>by cases z) (λx z=>by cases x <;> cases z) m.1 m.2 (I.AO a _ b).2
end
noncomputable def j7(a:Addr)(o:Obj)(A6:List (Key×V)):It:=⟨λi H=>H a=some (.C0 o (.dK A6))/\i<A6.length,λi H x H'=>H'=H/\∃k v,A6[i]?=some (k,v)/\x=kV k,λi H=>H a=some (.C0 o (.dK A6))/\i=A6.length⟩
theorem KV.at{vs:List (Key×Value)}(r:KV A6 vs){k:Key}(h:vs[i]?=some (k,x)):∃v,A6[i]?=some (k,v):=by
 have e:=r.keys;have h1:(vs.map (·.1))[i]?=some k:=by rw[Am,h];rfl
 rw[<- e,Am]at h1;cases q:A6[i]? with
 |none=>rw[q]at h1;cases h1
 |some p=>
  rw[q]at h1;obtain⟨k',v⟩:=p;have:k'=k:=by simpa using h1
  subst this;exact⟨v,rfl⟩
theorem zb{P:Program}{K:ZJR}{es:Array DictEntry}(hd:o.data=.dict es ep)(Ac:a≠it):
  Turn P w K tg (j7 a o A6) [it] it (λi h=>h.IsKeyIter it a i A6.length ep) where
 mem:=by simp
 obj:=λi h st b f=>by
  have e:b=it:=by simpa using f
  subst e;obtain⟨o,e,c,d⟩:=st;exact⟨o,e,λv z=>by rw[d]at z;cases z⟩
 keep:=λi h h' st k=>let ⟨o,e,r⟩:=st;⟨o,k it (by simp) o e,r⟩
 item:=by
  intro X p hw q n i Zo s Z H E I m st hg;subst p hw q;obtain⟨f0,C,N,f3,B,u⟩:=m it (by simp);obtain⟨e0,L,Fu,vs,rel,ob,DX,Hn,j,D,l,rest⟩:=I.AO a _ hg.1;rw[e0]at j;cases j;rw[hd]at l;cases l;have g:=rel.length;refine(bD (knd:=C3 X.prog X.w) (I.ok.hd n) it a Ac vs ep).item i s _ _ (by rw[<- g];exact hg.2) ⟨by rw[<- g];exact st,o,es,e0,D,hd,rest⟩ λv h' tk⟨k,x,M,VE⟩D6 kp=>?_;obtain⟨G,F⟩:=rel.at M;have R:Inv X Zo Z H { s with heap:=h',toks:=tk }:=I.turned (t':=tk) (λb o f e=>kp b o (by simpa using f) e) f0 C f3 B u
  obtain⟨o',O,cl,d⟩:=id D6.1;have J:RelV (kV k) v:=by
   rcases Gb (show JC k v=true from VE)with⟨i,t,rfl,rfl⟩|⟨y,t,rfl,rfl⟩
   .exact⟨t,rfl⟩
   .exact⟨t,rfl⟩
  exact⟨_,rfl,Nj (s:={ s with heap:=h',toks:=tk }) O cl d (by decide) ⟨kV k,H,R,J,⟨rfl,k,G,F,rfl⟩,by rw[g];exact D6.1,λb f=>(m b f).1⟩⟩
 done:=by
  intro X p hw q n i Zo s Z H E I m st hg;subst p hw q;obtain⟨f0,C,N,f3,B,u⟩:=m it (by simp);obtain⟨e0,L,Fu,vs,rel,ob,DX,Hn,j,D,l,rest⟩:=I.AO a _ hg.1;rw[e0]at j;cases j;rw[hd]at l;cases l;have g:=rel.length;have hi:i=A6.length:=hg.2;subst hi;exact(bD (knd:=C3 X.prog X.w) (I.ok.hd n) it a Ac vs ep).done s _ _ ⟨by rw[<- g];exact st,o,es,e0,D,hd,rest⟩ λh' tk kp=>⟨rfl,I.turned (t':=tk) (λb o f e=>kp b o (by simpa using f) e) f0 C f3 B u⟩
 self:=λA i s Q E st h=>wpAny_pyIter_keyiter st h
def XY(tl:TE):TI:=λZ H R=>tl Z H λx H1=>∃a A6,x=.ref a/\H1 a=some (.dK A6)/\∀o,R (j7 a o A6) (upd H1 a (.C0 o (.dK A6)))
noncomputable def pU(a:Addr)(D:Ends):Ends where
 nx:=λZ H=>∃o u,H a=some (.C0 o u)/\D.nx Z (upd H a u)
 rt:=λv H=>∃o u,H a=some (.C0 o u)/\D.rt v (upd H a u)
 bk:=λZ H=>∃o u,H a=some (.C0 o u)/\D.bk Z (upd H a u)
 ct:=λZ H=>∃o u,H a=some (.C0 o u)/\D.ct Z (upd H a u)
def W8(t:TS):TS:=λD Z H=>∃a A6,H a=some (.dK A6)/\t (pU a D) Z H
section
variable{l:Expr}{tl t:TE}{st:Stmt}{ts:TS}
theorem wA(h:QE X l tl):QI X tg l (XY tl):=⟨by
 have m:=h.h;intro Zo s Z H R I h;refine m.k I h λv s1 x H1 I1 i j=>?_;obtain⟨a,A6,e,d,q⟩:=j;subst e;cases i;obtain⟨z,Fu,vs,rel,p⟩:=HS I1.AO (.inl d);obtain⟨o,es,ep,e0,hd,I2⟩:=I1.held d;have u:a<s1.heap.objs.size:=BE e0;have t:s1.heap.DictAt (C3 X.prog X.w) a vs ep:=by
  obtain⟨ob,DX,Hn,f,r,g,rest⟩:=p;rw[e0]at f;cases f;rw[hd]at g;cases g;exact⟨o,es,e0,r,hd,rest⟩
 have c:∀b∈[s1.heap.objs.size],Ed X Zo (upd H1 a (.C0 o (.dK A6))) b:=λb n=>by
  have e:b=s1.heap.objs.size:=by simpa using n
  subst e;exact I2.NI (Ag _) (I2.AO.fresh (Ag _))
 refine ZBD Fu t ?_;exact⟨s1.heap.objs.size,[s1.heap.objs.size],_,_,_,rfl,I2.kept (t':=s1.toks) λb o e=>BH _ e,zb hd (BP u),⟨_,Ba _ rfl,rfl,by rw[rel.length];rfl⟩,c,q o⟩⟩
theorem wy(h:QS X st ts):QS X st (W8 ts):=⟨by
 have h:=h.h;intro Zo s Z H D I ⟨a,A6,d,q⟩;have m:=I.iA d;refine B9 (h Zo s Z H _ I q) λf s' sp=>?_;cases f with
 |next=>obtain⟨σ',H',I',o,u,e,b⟩:=sp;exact⟨σ',_,I'.T7 m e,b⟩
 |brk=>obtain⟨σ',H',I',o,u,e,b⟩:=sp;exact⟨σ',_,I'.T7 m e,b⟩
 |cont=>obtain⟨σ',H',I',o,u,e,b⟩:=sp;exact⟨σ',_,I'.T7 m e,b⟩
 |ret v=>obtain⟨c,σ',H',I',r,o,u,e,b⟩:=sp;exact⟨c,σ',_,I'.T7 m e,r,b⟩⟩
end
end L2
namespace Fz
open L2 Lw
theorem jH{α:Type}{xs:List α}{i:Nat}{x:α}(h:xs[i]?=some x):xs.set i x=xs:=by
 apply ao;intro n
 by_cases q:i=n
 .subst q;rw[Bw (List.getElem?_eq_some_iff.mp h).1,h]
 .rw[Br q]
theorem lb{F H:Hp}:∀{vs:List V}{xs:List PV},BO F H vs (xs.map .fz)->AW F vs xs
 |_,[],h=>by cases h;exact .nil
 |_,x::xs,h=>by
  obtain⟨_,_,rfl,a,b⟩:=h.inv;cases a with|fz r=>exact .cons r (lb b)
theorem jP:∀{ks:List Key}{vs:List V}{n:Nat}{k:Key}{v:V},(ks.zip vs)[n]?=some (k,v)->ks[n]?=some k/\vs[n]?=some v
 | [],_,_,_,_,h=>by simp at h
 |_::_,[],_,_,_,h=>by simp at h
 |k0::ks,v0::vs,0,k,v,h=>by
  rw[IV]at h;have:(k0,v0)=(k,v):=by simpa using h
  cases this;exact⟨rfl,rfl⟩
 |k0::ks,v0::vs,n+1,k,v,h=>by
  rw[IV]at h;have:=jP (ks:=ks) (vs:=vs) (n:=n) (k:=k) (v:=v) (by simpa using h)
  exact⟨by simpa using this.1,by simpa using this.2⟩
theorem pI{F:Hp}:∀k:Key,Rep F (kV k) (GK k)
 | .inl i=>.int i
 | .inr x=>.str x
end Fz
namespace L2
variable{values vs:List Expr}{FT:List (TE×TE)}
section
variable{X:Cx}{pos:Pos}
theorem oh:Jr X pos [] [] []:=y9
theorem ZW{k v:Expr}{ks:List (Option Expr)}{tk tv:TE}(c:QE X k tk)(a:QE X v tv)(b:Jr X pos ks vs FT):Jr X pos (some k::ks) (v::vs) ((tk,tv)::FT):=wF c.h a.h b
theorem z4{keys:List (Option Expr)}(h:Jr X pos keys values FT)(K9:keys.all (·.isSome)=true)(i:keys.length=values.length)(k:keys≠[])(Sr:keys.length<=15):QE X (.Dict keys values pos) (XN FT):=⟨by
 intro Zo s Z H Q I q;have hn:=I.AO.fresh (Ag s.heap.objs.size);have l:=I.laid (a:=s.heap.objs.size) (o:=.dK []) (h':=s.heap.push { cls:=.type "dict", data:=.dict #[] }) (t':=s.toks) (λ_ _ q=>BH _ q) (Ag _) (dH s.heap I.big);refine wpAny_Dict_walk (knd:=C3 X.prog X.w) K9 i k Sr (B9 (h Zo _ Z _ _ l (q _ hn)) λws s2⟨ps,H2,I2,rel,e,A6,ep,m,f⟩=>?_);subst ep;obtain⟨rs,c,b⟩:=d9 (P:=X.prog) (w:=X.w) rel;obtain⟨z,hd,Fi,d,dd⟩:=iM I2.AO e;cases d;refine⟨rs,c,dd,λh' Kn hs=>⟨.ref s.heap.objs.size,_,?_,rfl,f⟩⟩;have g:(Jl [] A6).length<=sizeLine:=by
  have h1:=ck A6 [];rw[U7]at h1;rw[ZAu];omega
 have j:∃q,h'.get? s.heap.objs.size=some q:=let ⟨q,_,_,hq,_⟩:=Kn;⟨q,hq⟩;exact Um I2 (by rw[e];exact True.intro) hs j (bM g hd (b.merge .nil) Kn)⟩
end
theorem cS:∀(more acc:List (Key×V)),((acc++more).map (·.1)).Nodup->Jl acc more=acc++more
 | [],acc,_=>by rw[E8];rfl
 |p::r,acc,h=>by
  show Jl (putK acc p.1 p.2) r=_;have hp:acc.any (λa=>decide (a.1=p.1))=false:=by
   rw[ZIB];intro q b e;have c:=uq e;rw[Bx,Bs,CG]at h;exact h.2.2 q.1 (List.mem_map.mpr ⟨q,b,rfl⟩) p.1 CV c
  have e:putK acc p.1 p.2=acc++[p]:=by
   unfold putK;rw[hp];rfl
  rw[e,cS r (acc++[p]) (by rw[Bd];exact h),Bd];rfl
end L2
namespace Fz
open L2 Lw
variable{ss:List Slot}{E:Ent0}{Z:L2.St}{F H:Hp}{C a p:Addr}{ta:TA}{Q:VK}{i n:Nat}{t w x y z:OV}{pre:Pre}
section
variable[Xw]
theorem qO{F1 H1:Hp}{o:HO}(S:Sg E ss Z F H)(m:Mv E ss Z F H F1 H1)(hp:H p=none)(c:F1 p=none):Mv E ss Z F H F1 (upd H1 p o):=
 S.step m.ff (λa u e=>by rw[Af (by rintro rfl;rw[c]at e;cases e)];exact m.st.fh a u e)
  (λa u n e=>by rw[Af (by rintro rfl;rw[hp]at e;cases e)];exact m.hh a u n e) m.nn
  λi l hi e=>BR.keep (m.st.Et hi e) λu d=>by
   rw[Af (by
    rintro rfl;obtain⟨_,_,b,_⟩:=S.Et hi e;rw[hp]at b;cases b)]
   exact d
theorem wR{k:List Nat->OV->Prop}{E:Ent}(ks:List Str)(D:ks.Nodup)(Sr:ks.length<=15)(S:Sg E ss Z F H)(hp:H p=none)
  (h:Kq ss ta λm us=>us.length=ks.length/\∀l,k m (.nd (.B1 (ks.map Sum.inr)) l us))
  (q:∀v m u F' H',Mv E ss Z F H F' H'->Aj F' H' v u->u.addrs.Nodup->(∀a∈u.addrs,F' a=none/\E.H0 a=none/\((∃i∈m,∃s,s≠Slot.AG/\ss[i]?=some s/\BD s Z[i]? a)∨H a=none))->k m u->Q v H') :
  ta Z (upd H p (.dK [])) λvs H2=>H2 p=some (.dK [])/\∃A6:List (Key×V),List.zipWith (λs v=>(V.str s,v)) ks vs=A6.map (λg=>(kV g.1,g.2))/\A6.length<=15/\Q (.ref p) (upd H2 p (.dK (Jl [] A6))):=by
 have r:=S.make hp (.dK []);have y:F p=none:=S.BM hp;refine h.go E Z F _ _ r.st λvs m us F1 H1 j n EA a1⟨C,kk⟩=>?_;have J:H1 p=some (.dK []):=j.hh p _ (S.MV hp) AJ;have t:F1 p=none:=by
  cases e:F1 p with
  |none=>rfl
  |some o=>
   rcases j.nn p o e with z|z
   .rw[y]at z;cases z
   .rw[AJ]at z;cases z
 have B:vs.length=ks.length:=by rw[n.length,C]
 have I:List.zipWith (λs v=>(V.str s,v)) ks vs=((ks.map Sum.inr).zip vs:List (Key×V)).map (λg=>(kV g.1,g.2)):=by
  rw[List.zip_eq_zipWith,List.zipWith_map_left,List.map_zipWith];rfl
 refine⟨J,(ks.map Sum.inr).zip vs,I,by rw[Qa,AU];omega,?_⟩;have A:((ks.map Sum.inr:List Key)).Nodup:=ZIA _ (λa b(h:a≠b)=>λz=>h (by injection z)) D;rw[cS _ [] (by rw[b4,List.map_fst_zip (by rw[AU];omega)];exact A),b4];have mv:=qO (o:=.dK ((ks.map Sum.inr).zip vs)) S (r.trans j) hp t;have x:p∉OV.An us:=λd=>by
  rcases(a1 p d).2.2 with⟨i,_,s,_,hs,ow⟩|z
  .exact S.E5 hs ow hp
  .rw[AJ]at z;cases z
 refine q _ m (.nd (.B1 (ks.map Sum.inr)) p us) F1 _ mv (.nd (k:=.B1 (ks.map Sum.inr)) (vs:=vs) AJ trivial (show(List.map Sum.inr ks:List Key).length=vs.length by rw[AU];exact B.symm) (n.mono (A8.refl _) λa d o e=>by rw[Af (by rintro rfl;exact x d)];exact e)) ?_ (λa d=>?_) (kk p)
 .rw[OV.DJ];exact List.nodup_cons.mpr ⟨x,EA⟩
 .rw[OV.DJ]at d;rcases List.mem_cons.mp d with e|d
  .subst e;exact⟨t,S.DK hp,.inr hp⟩
  .obtain⟨f,G,w⟩:=a1 a d;exact⟨f,G,w.imp id λz=>by
    by_cases c:a=p
    .subst c;exact hp
    .rw[Af c]at z;exact z⟩
theorem oX{k:List Nat->OV->Prop}{k1 k2 a:Str}{t1 t2 b:TE}(c:[k1,k2,a].Nodup)(h:Kq ss (Ab t1 (Ab t2 (Ab b BC))) λm us=>us.length=3/\∀l,k m (.nd (.B1 [.inr k1,.inr k2,.inr a]) l us)):Wx ss (XN [(tC (.str k1),t1),(tC (.str k2),t2),(tC (.str a),b)]) k:=⟨λE Z F H Q S q p hp=>
 wR (ta:=Ab t1 (Ab t2 (Ab b BC))) [k1,k2,a] c (by show(_:Nat)+1<=15;simp) S hp h q⟩
variable{te:TE}
theorem lh{m:Str}{k:PV->Prop}(h:Wl ss i t te λ_ u=>∃dx ns a us,u=.nd (.obj C dx ns) a us/\Cq ns m=none/\Wb ss ta λps=>∃k',pre ((u.pv::ps).map .is) (.is k')/\∀p,k' p->FL p=true/\k p):Wp ss (IF C m (Al pre) [] E0 te ta) k:=⟨λE Z F H Q S q=>
 h.go E Z F H _ S λv p u F1 H1 c e C2⟨dx,ns,a,us,s,n,h2⟩=>by
  subst s;have x:=e;cases x with
  |@nd _ _ vs _ d y A z=>
   refine⟨a,dx,ns.zip vs,rfl,d,LL n,h2.go E Z F1 H1 _ c.st λvs ps F2 H2 b j⟨k',hp,kk⟩=>?_⟩;rw[E8];have g:=e.mv c.st h.hi C2 b;have w:AW (Bo F2 H2 (Cj ss Z)) (V.ref a::vs) (_::ps):=.cons (g.rep b.st.HG.1 λa d o ho=>by
    unfold Bo;obtain⟨lt,hi⟩:=h.hi;rw[sZ (S6 b.st.len hi (by simp) (OV.Jo C2 a d))];exact ho) j
   refine⟨_,.is k',_,[],hp,b.st.lend w,λv F' H' f⟨p,r,kp⟩=>?_⟩;obtain⟨mv,l⟩:=b.st.RP f;exact q v p _ H' (c.trans (b.trans mv)) (r.sub l (kk p kp).1) (kk p kp).2⟩
end
theorem Vp{k:NK}:(OV.nd k a [x,y,z]).put [1] w=.nd k a [x,w,z]:=by rw[OV.KJ (x:=y) rfl,OV.Fd];rfl
theorem put2{k:NK}:(OV.nd k a [x,y,z]).put [2] w=.nd k a [x,y,w]:=by rw[OV.KJ (x:=z) rfl,OV.Fd];rfl
theorem VN{N:List Str}{vs:List V}{X:XK}{t:TS}(h:CI pre vs H Q X)(a:∀ss R,pre ss R->ss.length=n)
  (hw:∀ss R,pre ss R->Ws (ss++List.replicate (N.length - n) .any) t (aY R) R):t { nx:=λ_ H'=>Q .AB H',rt:=Q } (L2.start N vs) H:=by
 obtain⟨ss,R,F,A,B,hp,S,q⟩:=h;have e:vs.length=n:=by have:=S.len;rw[AU]at this;rw[<- this];exact a ss R hp
 unfold L2.start;rw[e];exact(hw ss R hp).go (P4 ⟨A,F,H,B⟩) _ _ F H (S.grown _) (λAA σ' F' H' z S' _=>q .AB F' H' S'.toFin (z.ok S')) λv F' H' f ok=>q v F' H' f ok
end Fz
namespace Fz
open L2 Lw
variable{ss:List Slot}
noncomputable def EG:Slot->Slot
 | .own xs=>.is (.lst xs)
 | .ow _ t=>.is t.pv
 | .AG=>.any
 |s=>s
section
variable{E:Ent0}{Z:L2.St}{F H F' H':Hp}
theorem Sg.aE(S:Sg E ss Z F H):Sg (E3 [] (Bo F H (Cj ss Z)) H) (ss.map EG) Z (Bo F H (Cj ss Z)) H:=by
 have nn:∀{p:Prop}(a:Addr),a∈([]:List Addr)->p:=λa h=>absurd h B0;refine⟨⟨S.HG.2,A8.refl _,λ_ _ _ e=>e,λ_ _ e=>.inl e,λa h=>nn a h,λa h=>nn a h,λa h=>nn a h,λa h=>nn a h,λa h=>nn a h,λa h=>nn a h⟩,by rw[AU,S.len],λi s hi=>?_,λi j s u l CB hi q ms n=>?_⟩
 .rw[Am]at hi;cases e:ss[i]? with
  |none=>rw[e]at hi;cases hi
  |some s0=>
   rw[e]at hi;have es:EG s0=s:=BI hi;subst es;have k:=S.ok i s0 e;cases s0 with
   |any=>trivial
   |is p=>obtain⟨v,b,r⟩:=k;exact⟨v,b,r.mono S.HG.1⟩
   |own xs=>
    obtain⟨l,vs,b,_,_,g,r⟩:=k;refine⟨_,b,.lst ?_ (r.mono S.HG.1)⟩;unfold Bo;rw[sZ (S6 S.len e (by simp) b)];exact g
   |AG=>trivial
   |sq tp xs=>
    cases tp with
    |true=>obtain⟨v,b,r⟩:=k;exact⟨v,b,r.mono S.HG.1⟩
    |false=>
     obtain⟨l,vs,b,f,m,r⟩:=k;exact⟨l,vs,b,⟨B0,B0⟩,S.keep l _ f m,r.mono S.HG.1⟩
   |raw P=>obtain⟨v,b,hp,c⟩:=k;exact⟨v,b,c _ _ S.HG.1 hp,c⟩
   |ow lt t=>
    obtain⟨v,b,r,_,_⟩:=k;refine⟨v,b,r.rep S.HG.1 λa d o ho=>?_⟩;unfold Bo;rw[sZ (S6 S.len e (by simp) d)];exact ho
 .rw[Am]at hi;cases e:ss[i]? with
  |none=>rw[e]at hi;cases hi
  |some s0=>
   rw[e]at hi;have es:EG s0=s:=BI hi;subst es;cases s0 <;> cases ms
mutual
def OV.Il:OV->Bool
 | .fz p=>FL p
 | .tp xs=>OV.K7 xs
 | .nd _ _ xs=>OV.K7 xs
def OV.K7:List OV->Bool
 | []=>true
 |x::r=>x.Il && OV.K7 r
end
theorem Aj.ZBl{as:List Addr}(h:∀a∈as,∀vs,F a≠some (.tup vs)):∀{v:V}{t:OV},Aj F H v t->t.Il=true->Aj (G9 F as) H v t:=by
 intro v t r hn;exact Aj.rec (motive_1:=λv t _=>t.Il=true->Aj (G9 F as) H v t) (motive_2:=λvs ts _=>OV.K7 ts=true->BO (G9 F as) H vs ts)
  (λ{v p}r z=>.fz (r.sub h (by simpa[OV.Il]using z)))
  (λ{a vs xs}e _ b z=>.tp (by unfold G9;rw[sN (λq=>h a q vs e)];exact e) (b (by simpa[OV.Il]using z)))
  (λ{k a vs xs}e c d _ b z=>.nd e c d (b (by simpa[OV.Il]using z)))
  (λ_=>.nil)
  (λ_ _ Nk ON z=>by
   rw[OV.K7,FC]at z;exact .cons (Nk z.1) (ON z.2))
  r hn
end
section
variable{te:TE}{c:TT}
def Wy(E:Ent0)(F H:Hp)(as:List Addr):@Ent jj:=@Ent.mk jj (E3 [] (Bo F H as) H) λ_ _ _ _ _ _ _ _ _ d _=>d.elim
theorem kI{k:PV->Prop}(h:Wp (ss.map EG) te λp=>FL p=true/\k p):Wp ss te k:=⟨λE Z F H Q S q=>by
 refine h.go (Wy E F H (Cj ss Z)) Z _ H Q S.aE λv p F' H' m a⟨hn,kk⟩=>?_;obtain⟨M,b⟩:=S.RP m.st.toFin;exact q v p _ H' M (a.sub b hn) kk⟩
theorem ZEB{k:Bool->Prop}(h:Wt (ss.map EG) c k):Wt ss c k:=⟨λE Z F H Q S q=>by
 refine h.go (Wy E F H (Cj ss Z)) Z _ H Q S.aE λb F' H' m kk=>?_;exact q b _ H' (S.RP m.st.toFin).1 kk⟩
theorem aU{k:List Nat->OV->Prop}(h:Wx (ss.map EG) te λm u=>m=[]/\u.Il=true/\k [] u):Wx ss te k:=⟨λE Z F H Q S q=>by
 refine h.go (Wy E F H (Cj ss Z)) Z _ H Q S.aE λv i u F' H' m c nd hu⟨g,hn,kk⟩=>?_;subst g;obtain⟨M,d⟩:=S.RP m.st.toFin;refine q v [] u _ H' M (c.ZBl d hn) nd (λa e=>?_) kk;obtain⟨f,b,_⟩:=hu a e;have b:H a=none:=b;exact⟨by unfold G9;split <;> first|rfl|exact f,S.DK b,.inr b⟩⟩
end
end Fz
namespace L2
variable{Zo:ZJS}{Z:St}{s s2:Shared}{tk:Nat}
section
variable{X:Cx}
theorem Inv.same{H:Hp}(I:Inv X Zo Z H s){h':Heap}(k:∀b o,s.heap.get? b=some o->h'.get? b=some o):Inv X Zo Z H { s with heap:=h',toks:=tk }:=I.kept (t':=tk) k
variable{elt iter:Expr}{ifs es:List Expr}{zs:List Str}{tp pos:Pos}{scope:Scope}{Ah:List Str}{js:List Nat}{tt:TT}{te:TE}
variable{H2:Hp}{x:Str}{px:Pos}{J:It}{fp:List Addr}{it:Addr}{tn:Nat->Heap->Prop}
end
end L2
namespace L2
section
variable{X:Cx}
def m8(K:ZJR)(t:TA):TE:=λZ H Q=>t Z H λvs H1=>∃a tp ys,vs=[.ref a]/\CQ K tp H1 a ys/\tp=false/\∀l,H1 l=none->Q (.ref l) (upd H1 l (.lst ys.reverse))
theorem iw{E p2 ZU Iu:Pos}{e:Expr}{t:TA}(J:X.calm=true)(Vw:Gl X "list")(PZ:X.mg "list"=none)(VI:Gl X "reversed")(Y8:X.mg "reversed"=none)(j:QA X [e] t)
  (G:starEach [e] X.env=[(false,eval e X.env)]:=by rfl) (NP:starEach [.Call (.Name "reversed" p2) [e] [] Iu] X.env=[(false,eval (.Call (.Name "reversed" p2) [e] [] Iu) X.env)]:=by rfl) :
  QE X (.Call (.Name "list" E) [.Call (.Name "reversed" p2) [e] [] Iu] [] ZU) (m8 X.K t):=⟨by
 have j:=j.h;intro Zo s Z H Q I h;refine z6 (Kx I Vw PZ (show bootBuiltins "list"=some (.type "list") by decide +kernel) ?_ (by decide) (by decide));refine UG ?_ NP rfl;rw[NP];show wpAny _ _ (spliced ((false,eval (.Call (.Name "reversed" p2) [e] [] Iu) X.env)::[])) _ _ s;refine Calls.spliced_cons ?_;refine z6 (Kx I VI Y8 (show bootBuiltins "reversed"=some (.type "reversed") by decide +kernel) ?_ (by decide) (by decide));refine UG (j.k Iu I h λus s1 vs H1 I1 B C=>?_) G rfl;obtain⟨a,tp,ys,rfl,F,rfl,q⟩:=C;obtain⟨u,rfl,y⟩:=vals1 B;cases y;have m:∀(A4:List Value)(D:Addr)(s2 s':Shared)(acc:Array Value)(c:Nat)(tk:Nat)(ob:Obj),Vals ys A4->ys.length<=sizeLine->D=s1.heap.objs.size->s2={ s1 with heap:=s1.heap.push ob,toks:=tk }->
   Moved [s2.heap.objs.size,D] (λa b=>b=a) { s2 with heap:=s2.heap.push { cls:=.type "list", data:=.seq #[] } } s'->s'.heap.get? s2.heap.objs.size=some { cls:=.type "list", dict:=none,data:=.seq acc c,slots:=#[] }->
   ItemsOf (λi v=>A4.toArray[A4.toArray.size - 1 - i]?=some v) acc A4.toArray.size->EP X Zo Z Q (.ref s2.heap.objs.size) s':=by
  intro A4 D s2 s' acc c tk ob r g O P d l Aq;subst O;subst P;obtain⟨us,z,rfl⟩:=ZCC r Aq;obtain⟨h',g',d',UW,Og⟩:=s';have M:g'=s1.gens:=d.gens;have N:d'=s1.drawn:=d.drawn;have L:Og=s1.os:=d.os;subst M;subst N;subst L;have hsz:(s1.heap.push ob).objs.size=s1.heap.objs.size+1:=Eh ..;have kp:∀b o,s1.heap.get? b=some o->h'.get? b=some o:=λb o e=>by
   have f:=BE e;refine d.heap b o ?_ (BH _ (BH _ e));show b∉[(s1.heap.push ob).objs.size,s1.heap.objs.size];rw[hsz];simp only[E9,B0,ZAb,not_or];exact⟨BP (IX f),BP f⟩
  refine⟨.ref _,_,I1.laid (a:=(s1.heap.push ob).objs.size) (t':=UW) kp (by rw[hsz];exact GS _) (show C7 X.prog X.w _ h' _ (.lst ys.reverse)from⟨by rw[QZ];exact g,us,c,z,l⟩),rfl,q _ (I1.AO.fresh (by show _<=_;rw[hsz];exact GS _))⟩
 have hh:X.A.handled=none:=I1.ok.hd J;obtain⟨A4,r,pl,g⟩:=I1.list F;have p:=r.length;refine call_reversed_list pl.isList ?_;refine Calls.spliced_nil ?_;obtain⟨o,n,ho,_⟩:=id pl;have x:=BE ho;have S:a≠s1.heap.objs.size:=BP x;have R:0<=A4.toArray.size/\Heap.IsRevIter (s1.heap.push (revObj a ((A4.toArray.size:Int) - 1))) s1.heap.objs.size a ((A4.toArray.size:Int) - 1 - ((0:Nat):Int))/\Heap.IsList (s1.heap.push (revObj a ((A4.toArray.size:Int) - 1))) a A4.toArray:=
  ⟨CH _,⟨_,Ba _ rfl,rfl,by simp[revObj]⟩,pl.isList.push _⟩
 refine za (I:=s1.heap.objs.size) (s:={ s1 with heap:=s1.heap.push (revObj a ((A4.toArray.size:Int) - 1)) }) (Walks.listRev (prog:=X.prog) (w:=X.w) (A:=X.A.in1.in1) hh s1.heap.objs.size a S A4.toArray).toS (λi s st=>st.2.1.typeIs) R ?_ (by simp) ?_ (by simp;omega)
 .intro b f;show b<(s1.heap.push _).objs.size;rw[Eh];rcases List.mem_cons.mp f with h|h
  .rw[h];exact M7 _
  .have:b=a:=by simpa using h
   rw[this];exact IX x
 .intro s' acc c d l Aq;exact m A4 s1.heap.objs.size { s1 with heap:=s1.heap.push (revObj a ((A4.toArray.size:Int) - 1)) } s' acc c s1.toks (revObj a ((A4.toArray.size:Int) - 1)) r g rfl rfl d l Aq⟩
end
end L2
namespace Fz
open L2 Lw
variable{l ss:List Slot}{te:TE}{F H:Hp}{v2 vp:V}{t t1 t2:OV}{b c d l1 l2:Bool}{vs:List V}{E:Ent0}{Z:L2.St}{A:List Addr}{a:Addr}{i j n:Nat}{s:Slot}{k1 k2:NK}{Dj Fq:List OV}{kk:PV->OV->OV->Prop}{x:TT}
inductive FX (F:Hp) (vp v1 v2:V) (t1 t2:OV):Bool->Bool->Bool->List V->List Slot->Prop where
 |nil:FX F vp v1 v2 t1 t2 false false false [] []
 |is {b c d:Bool}{v:V}{p:PV}{vs:List V}{l:List Slot}:Rep F v p->FX F vp v1 v2 t1 t2 b c d vs l->FX F vp v1 v2 t1 t2 b c d (v::vs) (.is p::l)
 |AG {c d:Bool}{vs:List V}{l:List Slot}:FX F vp v1 v2 t1 t2 false c d vs l->FX F vp v1 v2 t1 t2 true c d (vp::vs) (.AG::l)
 |one {b d:Bool}{vs:List V}{l:List Slot}:FX F vp v1 v2 t1 t2 b false d vs l->FX F vp v1 v2 t1 t2 b true d (v1::vs) (.ow true t1::l)
 |two {b c:Bool}{vs:List V}{l:List Slot}:FX F vp v1 v2 t1 t2 b c false vs l->FX F vp v1 v2 t1 t2 b c true (v2::vs) (.ow true t2::l)
section
variable{F':Hp}{v1:V}
theorem FX.len(h:FX F vp v1 v2 t1 t2 b c d vs l):l.length=vs.length:=by
 induction h with
 |nil=>rfl
 |is _ _ a=>rw[BK,BK,a]
 |AG _ a=>rw[BK,BK,a]
 |one _ a=>rw[BK,BK,a]
 |two _ a=>rw[BK,BK,a]
theorem FX.at(h:FX F vp v1 v2 t1 t2 b c d vs l):∃(n0 n1 i:Nat),∀(n:Nat)(s:Slot),l[n]?=some s->
  (∃v p,vs[n]?=some v/\s=.is p/\Rep F v p)∨(b=true/\n=n0/\s=.AG/\vs[n]?=some vp)∨(c=true/\n=n1/\s=.ow true t1/\vs[n]?=some v1)∨(d=true/\n=i/\s=.ow true t2/\vs[n]?=some v2):=by
 induction h with
 |nil=>exact⟨0,0,0,λn s h=>by simp at h⟩
 |is r _ g=>
  obtain⟨n0,n1,i,g⟩:=g;refine⟨n0+1,n1+1,i+1,λn s h=>?_⟩;cases n with
  |zero=>simp at h;subst h;exact .inl ⟨_,_,rfl,rfl,r⟩
  |succ n=>
   rcases g n s (by simpa using h)with⟨v,p,q⟩|⟨a,q,f,e⟩|⟨a,q,f,e⟩|⟨a,q,f,e⟩
   .exact .inl ⟨v,p,by simpa using q⟩
   .exact .inr (.inl ⟨a,by rw[q],f,by simpa using e⟩)
   .exact .inr (.inr (.inl ⟨a,by rw[q],f,by simpa using e⟩))
   .exact .inr (.inr (.inr ⟨a,by rw[q],f,by simpa using e⟩))
 |AG _ g=>
  obtain⟨n0,n1,i,g⟩:=g;refine⟨0,n1+1,i+1,λn s h=>?_⟩;cases n with
  |zero=>simp at h;subst h;exact .inr (.inl ⟨rfl,rfl,rfl,rfl⟩)
  |succ n=>
   rcases g n s (by simpa using h)with⟨v,p,q⟩|⟨a,q,f,e⟩|⟨a,q,f,e⟩|⟨a,q,f,e⟩
   .exact .inl ⟨v,p,by simpa using q⟩
   .cases a
   .exact .inr (.inr (.inl ⟨a,by rw[q],f,by simpa using e⟩))
   .exact .inr (.inr (.inr ⟨a,by rw[q],f,by simpa using e⟩))
 |one _ g=>
  obtain⟨n0,n1,i,g⟩:=g;refine⟨n0+1,0,i+1,λn s h=>?_⟩;cases n with
  |zero=>simp at h;subst h;exact .inr (.inr (.inl ⟨rfl,rfl,rfl,rfl⟩))
  |succ n=>
   rcases g n s (by simpa using h)with⟨v,p,q⟩|⟨a,q,f,e⟩|⟨a,q,f,e⟩|⟨a,q,f,e⟩
   .exact .inl ⟨v,p,by simpa using q⟩
   .exact .inr (.inl ⟨a,by rw[q],f,by simpa using e⟩)
   .cases a
   .exact .inr (.inr (.inr ⟨a,by rw[q],f,by simpa using e⟩))
 |two _ g=>
  obtain⟨n0,n1,i,g⟩:=g;refine⟨n0+1,n1+1,0,λn s h=>?_⟩;cases n with
  |zero=>simp at h;subst h;exact .inr (.inr (.inr ⟨rfl,rfl,rfl,rfl⟩))
  |succ n=>
   rcases g n s (by simpa using h)with⟨v,p,q⟩|⟨a,q,f,e⟩|⟨a,q,f,e⟩|⟨a,q,f,e⟩
   .exact .inl ⟨v,p,by simpa using q⟩
   .exact .inr (.inl ⟨a,by rw[q],f,by simpa using e⟩)
   .exact .inr (.inr (.inl ⟨a,by rw[q],f,by simpa using e⟩))
   .cases a
variable{H':Hp}
def Jw(ss:List Slot)(Z:L2.St)(b:Bool)(vp:V)(A:List Addr):Prop:=(b=false/\A=[])∨∃(q:Nat)(a:Addr),b=true/\A=[a]/\vp=.ref a/\ss[q]?=some .AG/\Z[q]?=some (some (.ref a))
theorem Jw.own(h:Jw ss Z b vp A)(c:a∈A):∃q:Nat,ss[q]?=some .AG/\Z[q]?=some (some (.ref a)):=by
 rcases h with⟨_,rfl⟩|⟨q,d,_,rfl,_,h1,h2⟩
 .cases c
 .rw[List.mem_singleton.mp c];exact⟨q,h1,h2⟩
theorem Sg.call2(S:Sg E ss Z F H)(pa:Jw ss Z b vp A)(I:Aj F H v1 t1)(G:Aj F H v2 t2)(nd:(t1.addrs++t2.addrs).Nodup)
  (C:∀a∈t1.addrs++t2.addrs,F a=none) (m:∀a∈t1.addrs++t2.addrs,a∉A)(a:FX F vp v1 v2 t1 t2 b c d vs l):Sg ⟨A,F,H,t1.addrs++t2.addrs⟩ l (vs.map some) F H:=by
 obtain⟨n0,n1,K,t⟩:=a.at;have th:∀x∈t1.addrs++t2.addrs,H x≠none:=λx hx=>by
  rcases List.mem_append.mp hx with h|h
  .exact I.there x h
  .exact G.there x h
 have pt:∀x∈A,BR H x/\F x=none:=λx hx=>by
  obtain⟨q,h1,h2⟩:=pa.own hx;obtain⟨l,e,J,_,p⟩:=S.ok q _ h1;rw[h2]at e;cases e;exact⟨p,J⟩
 have B:=List.nodup_append.mp nd;refine⟨⟨S.fh,A8.refl _,λ_ _ _ e=>e,λ_ _ e=>.inl e,λx h=>(pt x h).1,λx h=>(pt x h).2,λx h=>by obtain⟨_,_,e,_⟩:=(pt x h).1;show H x≠none;rw[e];simp,C,th,λx h=>⟨th x h,m x h⟩⟩,by rw[AU];exact a.len,λn s hn=>?_,λn j s u x KL hn D ms k=>?_⟩
 .rcases t n s hn with⟨v,p,f,rfl,r⟩|⟨g,_,rfl,f⟩|⟨_,_,rfl,f⟩|⟨_,_,rfl,f⟩
  .rw[Am,f];exact⟨v,rfl,r⟩
  .rw[Am,f];rcases pa with⟨h,_⟩|⟨q,o,_,rfl,rfl,h1,h2⟩
   .rw[h]at g;cases g
   .exact⟨o,rfl,(pt o (by simp)).2,.inr (by simp),(pt o (by simp)).1⟩
  .rw[Am,f];exact⟨v1,rfl,I,B.1,λx hx=>⟨C x (by simp[hx]),.inr ⟨rfl,by simp[hx]⟩⟩⟩
  .rw[Am,f];exact⟨v2,rfl,G,B.2.1,λx hx=>⟨C x (by simp[hx]),.inr ⟨rfl,by simp[hx]⟩⟩⟩
 .have y:∀{n:Nat},b=true->vs[n]?=some vp->BD .AG ((vs.map some)[n]?) x->x∈A:=λ{n}g f ho=>by
   rcases pa with⟨h,_⟩|⟨q,o,_,rfl,rfl,h1,h2⟩
   .rw[h]at g;cases g
   .rw[Am,f]at ho;have z:some (some (V.ref o))=some (some (V.ref x)):=ho;injection z with z;injection z with z;injection z with z
    rw[z];simp
  rcases t n s hn with⟨v,p,f,rfl,r⟩|⟨g,w,rfl,f⟩|⟨_,w,rfl,f⟩|⟨_,w,rfl,f⟩
  .cases ms
  .rcases t j u D with⟨_,_,_,rfl,_⟩|⟨_,i,rfl,_⟩|⟨_,i,rfl,_⟩|⟨_,i,rfl,_⟩
   .cases k
   .exact KL (w.trans i.symm)
   .exact m x (Ei _ k) (y g f ms)
   .exact m x (DE _ k) (y g f ms)
  .rcases t j u D with⟨_,_,_,rfl,_⟩|⟨g,i,rfl,Ol⟩|⟨_,i,rfl,_⟩|⟨_,i,rfl,_⟩
   .cases k
   .exact m x (Ei _ ms) (y g Ol k)
   .exact KL (w.trans i.symm)
   .exact B.2.2 x ms x k rfl
  .rcases t j u D with⟨_,_,_,rfl,_⟩|⟨g,i,rfl,Ol⟩|⟨_,i,rfl,_⟩|⟨_,i,rfl,_⟩
   .cases k
   .exact m x (DE _ ms) (y g Ol k)
   .exact B.2.2 x k x ms rfl
   .exact KL (w.trans i.symm)
theorem Sg.ZAJ{lt:Bool}{D C:OV}(S:Sg E ss Z F H)(pa:Jw ss Z b vp A)(CB:i≠j)(hi:ss[i]?=some (.ow lt t1))(X:ss[j]?=some (.ow lt t2))
  (K:Z[i]?=some (some v1)) (e2:Z[j]?=some (some v2)) (f:Fin ⟨A,F,H,t1.addrs++t2.addrs⟩ F' H') (r1:Aj F' H' v1 D) (r2:Aj F' H' v2 C) (nd:(D.addrs++C.addrs).Nodup)
  (q:∀a∈D.addrs++C.addrs,F' a=none/\(H a=none∨a∈t1.addrs++t2.addrs)) :
  Sg E ((ss.set i (.ow lt D)).set j (.ow lt C)) Z F' H'/\(∀a o,C6 ss Z a->a∉t1.addrs++t2.addrs->H a=some o->H' a=some o):=by
 obtain⟨w1,x1,_,_,R⟩:=S.ok i _ hi;obtain⟨w2,x2,_,_,Q⟩:=S.ok j _ X;have SW:i<ss.length:=(List.getElem?_eq_some_iff.mp hi).1;have U:j<ss.length:=(List.getElem?_eq_some_iff.mp X).1;have P:∀a∈t1.addrs++t2.addrs,F a=none/\(E.H0 a=none∨a∈E.B):=λa g=>by
  rcases List.mem_append.mp g with h|h
  .exact⟨(R a h).1,(R a h).2.imp id λz=>z.2⟩
  .exact⟨(Q a h).1,(Q a h).2.imp id λz=>z.2⟩
 have kp:∀a o,a∉A->a∉t1.addrs++t2.addrs->H a=some o->H' a=some o:=λa o n1 I e=>f.keep a o ⟨n1,I⟩ e;have BM:∀a,H a≠none->F a=none->F' a=none:=λa h1 h2=>by
  cases e:F' a with
  |none=>rfl
  |some o=>
   rcases f.fresh a o e with z|z
   .rw[show F a=some o from z]at h2;cases h2
   .exact absurd z h1
 have Yk:∀a∈A,E.H0 a=none∨a∈E.A:=λa g=>by
  obtain⟨n,h1,h2⟩:=pa.own g;obtain⟨l,e,_,W,_⟩:=S.ok n _ h1;rw[h2]at e;cases e;exact W
 have Q5:∀a,a∈E.A->a∉t1.addrs++t2.addrs:=λa k t=>by
  rcases(P a t).2 with z|z
  .exact S.a0 a k z
  .exact(S.b0 a z).2 k
 have d:∀(n:Nat)s,n≠i->n≠j->ss[n]?=some s->∀a,BD s Z[n]? a->a∉t1.addrs++t2.addrs:=λn s h1 h2 hs a ho t=>by
  rcases List.mem_append.mp t with h|h
  .exact S.BL n i s _ a h1 hs hi ho h
  .exact S.BL n j s _ a h2 hs X ho h
 have Ip:∀(n:Nat)s,s≠.AG->ss[n]?=some s->∀a,BD s Z[n]? a->a∉A:=λn s np hs a ho t=>by
  obtain⟨m,h1,h2⟩:=pa.own t
  by_cases c:n=m
  .subst c;rw[hs]at h1;exact np (BI h1)
  .exact S.BL n m s _ a c hs h1 ho h2
 have Co:∀a,BR H a->a∉t1.addrs++t2.addrs->BR H' a:=λa p n=>by
  by_cases c:a∈A
  .exact f.Co a c
  .exact BR.keep p λo e=>kp a o c n e
 have at_:∀(n:Nat)s,((ss.set i (.ow lt D)).set j (.ow lt C))[n]?=some s->(n=j/\s=.ow lt C)∨(n=i/\s=.ow lt D)∨(n≠i/\n≠j/\ss[n]?=some s):=λn s hn=>by
  by_cases c:n=j
  .subst c;rw[Bw (by rw[DP];exact U)]at hn;exact .inl ⟨rfl,(BI hn).symm⟩
  .rw[Br (BG c)]at hn
   by_cases w:n=i
   .subst w;rw[Bw SW]at hn;exact .inr (.inl ⟨rfl,(BI hn).symm⟩)
   .rw[Br (BG w)]at hn;exact .inr (.inr ⟨w,c,hn⟩)
 have qn:∀a∈D.addrs++C.addrs,E.H0 a=none∨a∈E.B:=λa g=>by
  rcases(q a g).2 with z|z
  .exact .inl (S.DK z)
  .exact(P a z).2
 have N:=List.nodup_append.mp nd;have T:∀a,a∈E.B->a∈D.addrs++C.addrs->lt=true:=λa G g=>by
  rcases(q a g).2 with z|z
  .exact absurd (S.DK z) (S.b0 a G).1
  .rcases List.mem_append.mp z with h|h
   .exact((R a h).2.resolve_left (S.b0 a G).1).1
   .exact((Q a h).2.resolve_left (S.b0 a G).1).1
 have σ:∀{u:OV}{v:V}{n:Nat},Z[n]?=some (some v)->Aj F' H' v u->u.addrs.Nodup->(∀a∈u.addrs,a∈D.addrs++C.addrs)->Ok E F' H' (.ow lt u) Z[n]?:=λ{u v n}e r MK hs=>by
  refine⟨v,e,r,MK,λa g=>⟨(q a (hs a g)).1,?_⟩⟩;rcases qn a (hs a g)with z|z
  .exact .inl z
  .exact .inr ⟨T a z (hs a g),z⟩
 refine⟨⟨⟨f.fh,S.f0.trans f.f0,λa o k e=>?_,λa o e=>?_,λa k=>?_,λa k=>?_,S.a0,λa G=>?_,λa G=>?_,S.b0⟩,by rw[DP,DP];exact S.len,λn s hn=>?_,λn m s u x N7 hn t ms J=>?_⟩,λa o np nb e=>?_⟩
 .refine kp a o (λz=>?_) (λz=>?_) (S.keep a o k e)
  .rcases Yk a z with y|y
   .rw[e]at y;cases y
   .exact k.1 y
  .rcases(P a z).2 with y|y
   .rw[e]at y;cases y
   .exact k.2 y
 .rcases f.fresh a o e with z|z
  .exact S.fresh a o z
  .exact .inr (S.DK z)
 .exact Co a (S.Co a k) (Q5 a k)
 .obtain⟨_,_,K,_⟩:=S.Co a k;exact BM a (by rw[K];simp) (S.K6 a k)
 .exact BM a (S.bH a G) (S.bF a G)
 .by_cases t:a∈t1.addrs++t2.addrs
  .exact f.bH a t
  .by_cases k:a∈A
   .obtain⟨_,_,K,_⟩:=f.Co a k;rw[K];simp
   .intro z;cases e:H a with
    |none=>exact S.bH a G e
    |some o=>rw[kp a o k t e]at z;cases z
 .rcases at_ n s hn with⟨rfl,rfl⟩|⟨rfl,rfl⟩|⟨n1,I,h⟩
  .exact σ e2 r2 N.2.1 λa g=>DE _ g
  .exact σ K r1 N.1 λa g=>Ei _ g
  .by_cases np:s=.AG
   .subst np;obtain⟨l,e,fl,W,pt⟩:=S.ok n _ h;obtain⟨_,_,e3,_⟩:=id pt;exact⟨l,e,BM l (by rw[e3];simp) fl,W,Co l pt (d n _ n1 I h l e)⟩
   .exact Ok.go S h f.f0 (λa o ho e=>kp a o (Ip n s np h a ho) (d n s n1 I h a ho) e) BM np
 .have O:∀(n:Nat)s,n≠i->n≠j->ss[n]?=some s->BD s Z[n]? x->x∉D.addrs++C.addrs:=λn s h1 h2 hs ho t=>by
   rcases(q x t).2 with z|z
   .exact S.E5 hs ho z
   .exact d n s h1 h2 hs x ho z
  rcases at_ n s hn with⟨Y,rfl⟩|⟨Y,rfl⟩|⟨n1,I,h⟩
  .rcases at_ m u t with⟨w,rfl⟩|⟨w,rfl⟩|⟨M,L,h'⟩
   .exact N7 (Y.trans w.symm)
   .exact N.2.2 x J x ms rfl
   .exact O m u M L h' J (DE _ ms)
  .rcases at_ m u t with⟨w,rfl⟩|⟨w,rfl⟩|⟨M,L,h'⟩
   .exact N.2.2 x ms x J rfl
   .exact N7 (Y.trans w.symm)
   .exact O m u M L h' J (Ei _ ms)
  .rcases at_ m u t with⟨w,rfl⟩|⟨w,rfl⟩|⟨M,L,h'⟩
   .exact O n s n1 I h ms (DE _ J)
   .exact O n s n1 I h ms (Ei _ J)
   .exact S.BL n m s u x N7 h h' ms J
 .refine kp a o (λz=>?_) nb e;obtain⟨n,h1,h2⟩:=pa.own z;exact np n h1 h2
end
noncomputable def IH(Z:L2.St)(q:Nat):V:=match Z[q]? with
 |some (some v)=>v
 |_=>.AB
def Om(s:Slot)(a:Addr):Prop:=(∃lt k us,s=.ow lt (.nd k a us))∨s=.raw (ptr a)
theorem Om.val(p:Om s a)(S:Sg E ss Z F H)(hn:ss[n]?=some s):Z[n]?=some (some (.ref a)):=by
 rcases p with⟨lt,k,us,rfl⟩|rfl
 .obtain⟨v,e,r,_⟩:=S.ok n _ hn;have b:v=.ref a:=by cases r;rfl
  rw[<- b];exact e
 .obtain⟨v,e,r,_⟩:=S.ok n _ hn;have b:v=.ref a:=r;rw[<- b];exact e
structure fU (E:Ent0) (ss AA:List Slot) (Z:L2.St) (t1 t2:OV) (F H F' H':Hp):Prop where
 st:Sg E AA Z F' H'
 ff:A8 F F'
 hh:∀a o,C6 ss Z a->a∉t1.addrs++t2.addrs->H a=some o->H' a=some o
 nn:∀a o,F' a=some o->F a=some o∨H a=none
structure IB [Xw] (ss:List Slot) (q:Nat) (a1 a2:Addr) (t1 t2:OV) (b c d:Bool) (ta:TA) (k:List Slot->Prop):Prop where
 go:∀(E:Ent)(Z:L2.St)(F H:Hp)(Q:List V->Hp->Prop),Sg E ss Z F H->(∀vs l F' H',Mv E ss Z F H F' H'->FX F' (IH Z q) (.ref a1) (.ref a2) t1 t2 b c d vs l->k l->Q vs H')->ta Z H Q
structure bo [Xw] (ss:List Slot) (t1 t2:OV) (new:OV->OV->List Slot) (te:TE) (k:PV->OV->OV->Prop):Prop where
 go:∀(E:Ent)(Z:L2.St)(F H:Hp)(Q:VK),Sg E ss Z F H->(∀v p u1 u2 F' H',fU E ss (new u1 u2) Z t1 t2 F H F' H'->Rep F' v p->k p u1 u2->Q v H')->te Z H Q
structure Sf [Xw] (ss:List Slot) (t1 t2:OV) (new:OV->OV->List Slot) (c:TT) (k:Bool->OV->OV->Prop):Prop where
 go:∀(E:Ent)(Z:L2.St)(F H:Hp)(Q:Bool->Hp->Prop),Sg E ss Z F H->(∀b u1 u2 F' H',fU E ss (new u1 u2) Z t1 t2 F H F' H'->k b u1 u2->Q b H')->c Z H Q
section
variable[Xw]
variable{ta:TA}{q:Nat}{lt:Bool}{a1 a2:Addr}{nx:List Slot->Prop}{R:AX}{k:List Slot->Prop}{new:OV->OV->List Slot}
theorem lH(h:k []):IB ss q a1 a2 t1 t2 false false false BC k:=⟨λE Z F H Q S go=>go [] [] F H (Mv.refl S) .nil h⟩
theorem dy(h:Wp ss te λp=>IB ss q a1 a2 t1 t2 b c d ta λl=>k (.is p::l)):IB ss q a1 a2 t1 t2 b c d (Ab te ta) k:=⟨λE Z F H Q S go=>
 h.go E Z F H _ S λv p F1 H1 f r h2=>h2.go E Z F1 H1 _ f.st λvs l F2 H2 e a kk=>go _ _ F2 H2 (f.trans e) (.is (r.mono e.ff) a) kk⟩
theorem ZI2(g:ss[q]?=some .AG)(h:IB ss q a1 a2 t1 t2 false c d ta λl=>k (.AG::l)):IB ss q a1 a2 t1 t2 true c d (Ab (BX q) ta) k:=⟨λE Z F H Q S go=>by
 obtain⟨f,e,_⟩:=S.ok q _ g;have i:IH Z q=.ref f:=by unfold IH;rw[e]
 refine⟨_,e,h.go E Z F H _ S λvs l F2 H2 b a kk=>go _ _ F2 H2 b ?_ kk⟩;rw[<- i];exact .AG a⟩
theorem lS(hn:ss[n]?=some s)(ps:Om s a1)(h:IB ss q a1 a2 t1 t2 b false d ta λl=>k (.ow true t1::l)):IB ss q a1 a2 t1 t2 b true d (Ab (BX n) ta) k:=⟨λE Z F H Q S go=>
 ⟨_,ps.val S hn,h.go E Z F H _ S λvs l F2 H2 c a kk=>go _ _ F2 H2 c (.one a) kk⟩⟩
theorem gO(hn:ss[n]?=some s)(ps:Om s a2)(h:IB ss q a1 a2 t1 t2 b c false ta λl=>k (.ow true t2::l)):IB ss q a1 a2 t1 t2 b c true (Ab (BX n) ta) k:=⟨λE Z F H Q S go=>
 ⟨_,ps.val S hn,h.go E Z F H _ S λvs l F2 H2 d a kk=>go _ _ F2 H2 d (.two a) kk⟩⟩
theorem iq(S:Sg E ss Z F H)(d:b=true->ss[q]?=some .AG):∃A,Jw ss Z b (IH Z q) A/\∀a∈A,∃m:Nat,ss[m]?=some .AG/\Z[m]?=some (some (.ref a)):=by
 cases b with
 |false=>exact⟨[],.inl ⟨rfl,rfl⟩,λ_ h=>absurd h B0⟩
 |true=>
  obtain⟨c,e,_⟩:=S.ok q _ (d rfl);have g:IH Z q=.ref c:=by unfold IH;rw[e]
  have P:Jw ss Z true (IH Z q) [c]:=.inr ⟨q,c,rfl,rfl,g,d rfl,e⟩;exact⟨[c],P,λa f=>P.own f⟩
theorem fi{pre:Pre}(CB:i≠j)(hi:ss[i]?=some (.ow lt (.nd k1 a1 Fq)))(t:ss[j]?=some (.ow lt (.nd k2 a2 Dj)))(V:b=true->ss[q]?=some .AG)
  (h:IB ss q a1 a2 (.nd k1 a1 Fq) (.nd k2 a2 Dj) b c d ta λl=>∃k',pre l (.Lo k')/\∀p k g,k' p k g->k.val=.ref a1/\g.val=.ref a2/\kk p k g) :
  bo ss (.nd k1 a1 Fq) (.nd k2 a2 Dj) (λk g=>(ss.set i (.ow lt k)).set j (.ow lt g)) (CZ (CI pre) [] E0 ta) kk:=⟨λE Z F H Q S go=>
 h.go E Z F H _ S λvs l F1 H1 s a⟨k',hp,T⟩=>by
  rw[E8];have n:=s.st;obtain⟨v1,I,B,n1,O⟩:=n.ok i _ hi;obtain⟨v2,G,u,R,N⟩:=n.ok j _ t;have Y:v1=.ref a1:=by cases B;rfl
  have X:v2=.ref a2:=by cases u;rfl
  subst Y;subst X;obtain⟨A,pa,own⟩:=iq n V;have σ:((OV.nd k1 a1 Fq).addrs++(OV.nd k2 a2 Dj).addrs).Nodup:=List.nodup_append.mpr ⟨n1,R,λx hx y U e=>n.BL i j _ _ x CB hi t hx (by rw[e];exact U)⟩;refine⟨l,.Lo k',F1,A,_,hp,n.call2 pa B u σ (λx hx=>?_) (λx hx W=>?_) a,λv F' H' f⟨p,k,g,L,D,C,nd,M,kp⟩=>?_⟩
  .rcases List.mem_append.mp hx with z|z
   .exact(O x z).1
   .exact(N x z).1
  .obtain⟨m,r,p2⟩:=own x W;rcases List.mem_append.mp hx with z|z
   .by_cases w:m=i
    .subst w;rw[hi]at r;cases r
    .exact n.BL m i _ _ x w r hi p2 z
   .by_cases w:m=j
    .subst w;rw[t]at r;cases r
    .exact n.BL m j _ _ x w r t p2 z
  .obtain⟨K,J,Zb⟩:=T p k g kp;rw[K]at D;rw[J]at C;obtain⟨S2,hh⟩:=n.ZAJ pa CB hi t I G f D C nd M;exact go v p k g F' H' ⟨S2,s.ff.trans f.f0,λa o np P e=>hh a o np P (s.hh a o np e),λa o e=>(f.fresh a o e).elim (λe=>s.nn a o e) λe=>.inr (s.none e)⟩ L Zb⟩
theorem hU{kk:Bool->OV->OV->Prop}(h:bo ss t1 t2 new te λp b a=>∃c,p=.bl c/\kk c b a):Sf ss t1 t2 new (tB te) kk:=⟨λE Z F H Q S go=>
 h.go E Z F H _ S λv p b a F1 H1 d r AV=>by
  obtain⟨c,e,k2⟩:=AV;subst e;cases r.inv;exact⟨c,rfl,go c b a F1 H1 d k2⟩⟩
theorem kB{kk:Bool->OV->OV->Prop}(h:Sf ss t1 t2 new x λb c a=>kk (!b) c a):Sf ss t1 t2 new (Pe x) kk:=⟨λE Z F H Q S go=>
 h.go E Z F H _ S λb c a F1 H1 d k2=>go (!b) c a F1 H1 d k2⟩
theorem iG{u v:TS}(h:Sf ss t1 t2 new x λb d c=>if b=true then Ws (new d c) u nx R else Ws (new d c) v nx R):Ws ss (NQ x u v) nx R:=⟨λE D Z F H S hn e=>
 h.go E Z F H _ S λb d c F1 H1 a kk=>by
  cases b with
  |true=>rw[sZ rfl]at kk;exact kk.go E D Z F1 H1 a.st (λAA σ' F' H' n S' s=>hn AA σ' F' H' n S' (a.ff.trans s)) e
  |false=>rw[sN (by decide)]at kk;exact kk.go E D Z F1 H1 a.st (λAA σ' F' H' n S' s=>hn AA σ' F' H' n S' (a.ff.trans s)) e⟩
theorem Sg.two(S:Sg E ss Z F H)(CB:i≠j)(hi:ss[i]?=some (.ow l1 (.nd k1 a1 Fq)))(g:ss[j]?=some (.ow l2 (.nd k2 a2 Dj))):
  Aj F H (.ref a1) (.nd k1 a1 Fq)/\Aj F H (.ref a2) (.nd k2 a2 Dj)/\((OV.nd k1 a1 Fq).addrs++(OV.nd k2 a2 Dj).addrs).Nodup/\∀a∈(OV.nd k1 a1 Fq).addrs++(OV.nd k2 a2 Dj).addrs,F a=none/\(E.H0 a=none∨a∈E.B):=by
 obtain⟨v1,q,c,n1,f⟩:=S.ok i _ hi;obtain⟨v2,p,b,k,d⟩:=S.ok j _ g;have o:v1=.ref a1:=by cases c;rfl
 have n:v2=.ref a2:=by cases b;rfl
 subst o;subst n;refine⟨c,b,List.nodup_append.mpr ⟨n1,k,λx hx y l e=>S.BL i j _ _ x CB hi g hx (by rw[e];exact l)⟩,λa m=>?_⟩;rcases List.mem_append.mp m with h|h
 .exact⟨(f a h).1,(f a h).2.imp id λz=>z.2⟩
 .exact⟨(d a h).1,(d a h).2.imp id λz=>z.2⟩
theorem ZCM(CB:i≠j)(hi:ss[i]?=some (.ow l1 (.nd k1 a1 Fq)))(f:ss[j]?=some (.ow l2 (.nd k2 a2 Dj)))(h:Wp ss te λp=>kk p (.nd k1 a1 Fq) (.nd k2 a2 Dj)):Ws ss (JF te) nx (.Lo kk):=⟨λE D Z F H S hn e=>
 h.go E Z F H _ S λv p F1 H1 a r kp=>by
  obtain⟨c,b,nd,d⟩:=a.st.two CB hi f;exact e v F1 H1 a.st.toFin ⟨p,.nd k1 a1 Fq,.nd k2 a2 Dj,r,c,b,nd,d,kp⟩⟩
theorem zE(CB:i≠j)(hi:ss[i]?=some (.ow l1 t))(k:ss[j]?=some (.ow l2 (.nd k2 a2 Dj)))(h:Wm ss i l1 t te λp t'=>∃k' a BQ,t'=.nd k' a BQ/\kk p t' (.nd k2 a2 Dj)):Ws ss (JF te) nx (.Lo kk):=⟨λE D Z F H S hn g=>
 h.go E Z F H _ S λv p t' F1 H1 b r AV=>by
  obtain⟨k',a,BQ,e,kp⟩:=AV;subst e;have l:i<ss.length:=(List.getElem?_eq_some_iff.mp hi).1;obtain⟨d,c,nd,f⟩:=b.st.two CB (Bw l) (by rw[Br CB];exact k);exact g v F1 H1 b.st.toFin ⟨p,.nd k' a BQ,.nd k2 a2 Dj,r,d,c,nd,f,kp⟩⟩
end
end Fz
namespace L2
theorem A9.alias{P:Program}{w:World}{K:ZJR}{mg:ZJT}{Zv:Heap}{x y:Str}{k:Nat}{ps:List Str}{sp:Sp}{v:Option Value}(h:A9 P w K mg Zv x k ps sp)(e:mg x=v)(a:mg y=v):A9 P w K mg Zv y k ps sp:=by
 obtain⟨f,fd,F,b,kp,m⟩:=h;exact⟨f,fd,F,b,kp,a.trans (e.symm.trans m)⟩
end L2
namespace Fz
open L2 Lw
variable{r x:Str}{ss:List Slot}{ta tb tc te:TE}{d:AQ}{nx:List Slot->Prop}{R:AX}{xs:List PV}{cs ns:List Str}{g i j m:Nat}{t u w y z:OV}{us:List OV}{a:Addr}
def dM(x:Str):Prop:=(reprText x).length<=100000/\x.length<=1000
theorem ZBW(h:x.length<=100)(hx:∀c∈x.cps.toList,c<16 ^ 8):dM x:=⟨ZB5 h hx,by omega⟩
theorem ZAK(h:Nm x):∀c∈x.cps.toList,c<16 ^ 8:=λc a=>IW (h.2.2 c a).2 (by decide)
theorem xJ(K:ZJR){d:Nat}(r:Str)(g:Nat)(cs:List Str):dat K (d+2) (DR r g cs):=λx hx=>by
 simp only[E9,B0,ZAb]at hx;rcases hx with rfl|rfl|rfl
 .trivial
 .trivial
 .intro y a;obtain⟨z,_,rfl⟩:=List.mem_map.mp a;cases d <;> trivial
theorem Cw.step(h:Cw ns r g cs):Cw ns r (LF ns g cs:Nat) (JW ns g cs):=by
 unfold LF JW;cases e:Ca ns g cs with
 |none=>exact h
 |some x=>
  have c:x∈Cp ns g cs:=by
   unfold Ca at e;exact ZIR (by rw[e];rfl)
  obtain⟨a,d⟩:=PM.mp c;have:=List.idxOf_lt_length_iff.mpr a;exact⟨h.rule,by show(0:Int)<=((ns.idxOf x+1:Nat):Int);omega,by show((ns.idxOf x+1:Nat):Int)<=_;omega,Wc x h.up,λy b=>h.sub y (KS.mp b).1⟩
section
variable[Xw]
theorem ZCZ{t:TT}{k k':Bool->Prop}(h:Wt ss t k')(c:∀b,k' b->k b):Wt ss t k:=⟨λE Z F H Q S q=>h.go E Z F H Q S λb F' H' m a=>q b F' H' m (c b a)⟩
end
structure EY (m:Nat) (ns:List Str):Prop where
 len:ns.length<=m
 nm:∀x∈ns,Nm x
 nd:ns.Nodup
theorem EY.done(h:EY m ns)(ok:d.Ok m ns):EY m (d.done ns):=by
 obtain⟨a,b,c⟩:=AQ.step ok h.nd h.nm h.len;exact⟨c,b,a⟩
structure Lp where
 r:Str
 g:Nat
 cs:List Str
def Lp.P(l:Lp):PV:=DR l.r l.g l.cs
def Ce(ns:List Str):List Str:=ns.foldr (λx r=>Ep r x) []
theorem K2{x:Str}:∀{ns:List Str},x∈Ce ns↔x∈ns
 | []=>Iff.rfl
 |y::r=>by
  show x∈Ep (Ce r) y↔_;rw[OO,K2 (ns:=r),E9]
theorem Pt:∀{ns:List Str},ns.Nodup->Up (Ce ns)
 | [],_=>List.Pairwise.nil
 |y::r,h=>by
  obtain⟨h1,h2⟩:=List.nodup_cons.mp h;exact Tg (Pt h2) λz=>h1 (K2.mp z)
theorem TX{ts:List Str}(nd:ns.Nodup)(a:ts.Perm ns)(st:sortedS ts=true):ts=Ce ns:=
 Pj (Tw st (a.nodup_iff.mpr nd)) (Pt nd) λk=>by rw[a.mem_iff,K2]
def Lp.led(ns:List Str)(d:AQ)(l:Lp):Lp:=⟨l.r,d.gap ns l.g,d.Fj l.r l.g l.cs⟩
def Lp.EV(ns:List Str)(l:Lp):Lp:=⟨l.r,LF ns l.g l.cs,JW ns l.g l.cs⟩
def Lp.told(ns:List Str)(l:Lp):PV:=zo (Ca ns l.g l.cs)
def Lp.Good(ns:List Str)(l:Lp):Prop:=Cw ns l.r l.g l.cs
theorem WR(nd:ns.Nodup)(a:r∈Cn):Cw ns r (0:Nat) (Ce ns):=⟨a,by decide,by show(0:Int)<=_;omega,Pt nd,λx hx=>K2.mp hx⟩
theorem cW{k:Nat}(h:k<3):∃r:Str,r∈Cn/\L2.Be [PV.str "none",.str "ahead",.str "all"] (k:Int)=some (.str r):=by
 have:k=0∨k=1∨k=2:=by omega
 rcases this with rfl|rfl|rfl
 .exact⟨_,by decide,rfl⟩
 .exact⟨_,by decide,rfl⟩
 .exact⟨_,by decide,rfl⟩
theorem TF{l:List Str}(h:x∈l):l[l.idxOf x]?=some x:=by
 rw[B7 (List.idxOf_lt_length_iff.mpr h),av]
noncomputable def Au(ns:List Str):List Key:=ns.map Sum.inr
noncomputable def CO(ll:List Lp):List OV:=ll.map λl=>.fz l.P
theorem Th(ns:List Str)(x:Str):HV (Au ns) (.inr x)=decide (x∈ns):=by
 unfold HV Au;rw[List.any_map]
 by_cases h:x∈ns
 .rw[rg h];exact List.any_eq_true.mpr ⟨x,h,rg rfl⟩
 .rw[uz h];rw[Bool.eq_false_iff];intro z;obtain⟨y,b,e⟩:=List.any_eq_true.mp z;have a:(Sum.inr y:Key)=Sum.inr x:=uq e;injection a with a
  exact h (a▸b)
theorem QH:∀{ns:List Str}{x:Str},x∈ns->D8 (Au ns) (.inr x)=some (ns.idxOf x)
 | [],_,h=>absurd h B0
 |y::ns,x,h=>by
  unfold Au;rw[Bs,D8,o7]
  by_cases c:y=x
  .subst c;rw[sZ rfl,show(y == y)=true from vX y];rfl
  .rw[sN (λe=>c (by injection e)),show(y == x)=false from beq_eq_false_iff_ne.mpr c];have h1:D8 (ns.map λn:Str=>(Sum.inr n:Key)) (.inr x)=some (ns.idxOf x):=QH ((List.mem_cons.mp h).resolve_left λz=>c z.symm);have a:D8 (ns.map (Sum.inr:Str->Key)) (.inr x)=some (ns.idxOf x):=h1;rw[a];rfl
theorem jx:∀{ns:List Str}{x:Str},x∉ns->D8 (Au ns) (.inr x)=none
 | [],_,_=>rfl
 |y::ns,x,h=>by
  unfold Au;rw[Bs,D8,sN (λe=>h (by injection e with e;subst e;exact CV))]
  have h1:D8 (ns.map (Sum.inr:Str->Key)) (.inr x)=none:=jx (ns:=ns) λz=>h (Ck _ z);rw[h1];rfl
theorem KC(h:ns.Nodup):(Au ns).Nodup:=ZIA _ (λa b(h:a≠b)=>λz=>h (by injection z)) h
theorem fm(h:x∉ns):HM (Au ns) (.inr x)=Au (ns++[x])/\G8 (Au ns) us (.inr x) u=us++[u]:=by
 unfold G8 HM;rw[jx h,Th,uz h];exact⟨by unfold Au;rw[Bx];rfl,rfl⟩
theorem fX(h:x∈ns):HM (Au ns) (.inr x)=Au ns/\G8 (Au ns) us (.inr x) u=us.set (ns.idxOf x) u:=by
 unfold G8 HM;rw[QH h,Th,rg h];exact⟨rfl,rfl⟩
theorem Nx(h:x∈ns):HM (Au ns) (.inr x)=Au ns:=(fX (us:=[]) (u:=.fz .AB) h).1
theorem P5(h:x∈ns):G8 (Au ns) us (.inr x) u=us.set (ns.idxOf x) u:=(fX h).2
theorem Rv(h:x∉ns):HM (Au ns) (.inr x)=Au (ns++[x]):=(fm (us:=[]) (u:=.fz .AB) h).1
theorem UR(h:x∉ns):G8 (Au ns) us (.inr x) u=us++[u]:=(fm h).2
theorem T4(a:List Lp)(i:Nat)(l:Lp):(CO a).set i (.fz l.P)=CO (a.set i l):=by unfold CO;rw[oA]
theorem Ue{a:List Lp}{l:Lp}(h:a[i]?=some l):(CO a)[i]?=some (.fz l.P):=by unfold CO;rw[Am,h];rfl
theorem NW{y:PV}:∀{ns:List Str}{xs:List PV}{x:Str},x∈ns->xs[ns.idxOf x]?=some y->Ji (Au ns) xs (.inr x)=some y
 | [],_,_,h,_=>absurd h B0
 |z::ns,xs,x,h,e=>by
  rw[o7]at e;unfold Au
  by_cases c:z=x
  .subst c;rw[show(z == z)=true from vX z]at e;cases xs with
   |nil=>cases e
   |cons w ws=>rw[Bs,Ji,sZ rfl];exact e
  .rw[show(z == x)=false from beq_eq_false_iff_ne.mpr c]at e;cases xs with
   |nil=>cases e
   |cons w ws=>
    rw[Bs,Ji,sN (λq=>c (by injection q))];exact NW ((List.mem_cons.mp h).resolve_left λq=>c q.symm) e
theorem jY(ns:List Str):FL (.tup (ns.map .str))=true:=by
 rw[FL]
 induction ns with
 |nil=>rfl
 |cons x ns a=>rw[Bs,Ii,a];rfl
def kJ:Pre:=λl R=>l=[.AG]/\R=.is λp=>∃r,p=.str r/\r∈Cn
theorem mh(ns:List Str):(Au ns).map GK=ns.map PV.str:=by
 unfold Au;rw[Hi];rfl
theorem RQ:∀ns:List Str,(Ce ns).length=ns.length
 | []=>rfl
 |x::r=>by
  show(Ep (Ce r) x).length=_;rw[dA,RQ r];rfl
theorem uP{K:ZJR}{d:Nat}(h:∀x∈xs,flat x=true):dat K (d+2) (.tup xs):=λx hx=>by
 have:=h x hx;cases x <;> first|trivial|(cases this)
theorem ZAR:∀x y:Int,PV.int x=PV.int y->x=y:=λ_ _ e=>by injection e
def de:Sp:=λvs H Q _=>∃(a:Addr)(tp:Bool)(ns:List Str)(lo hi:Nat),vs=[.ref a,.int lo,.int hi]/\H a=some (BN tp (ns.map V.str))/\tp=false/\ns.length<=1000/\lo<=hi/\hi<=ns.length/\KI H Q (FZ ns lo hi)
def Zg:Sp:=λvs H Q _=>∃(a t:Addr)(tp:Bool)(ns:List Str)(d:AQ),vs=[.ref a,.ref t]/\H a=some (BN tp (ns.map V.str))/\H t=some (.tup d.vals)/\tp=false/\d.Ok 40 ns/\ns.length<=40/\KI H Q (d.done ns)
section
variable[Xw]
variable{K:ZJR}{k:PV->Prop}
theorem lx{k:List PV->Prop}(h:Wz ss te λtp xs=>tp=false/\k (Ll xs)):Wi ss (Ym K (Ab te BC)) k:=⟨λE Z F H R S q=>
 h.go E Z F H _ S λv tp xs F1 H1 b f AV=>by
  obtain⟨n,kk⟩:=AV;subst n;obtain⟨l,vs,j,a,r⟩:∃l vs,v=.ref l/\(∀(ss:List Slot)(Z:L2.St)(F H:Hp),A8 F1 F->Sg E ss Z F H->H l=some (.lst vs))/\AW F1 vs xs:=by
   obtain⟨l,vs,e,h1,r⟩:=f;refine⟨l,vs,e,λss Z F H s S=>?_,r⟩;rcases h1 with h1|⟨hA,h1⟩
   .exact S.fh _ _ (s _ _ h1)
   .exact S.keep _ _ hA h1
  subst j;refine⟨l,vs,rfl,AK.of (a ss Z F1 H1 (A8.refl _) b.st),q _ (Ll xs) F1 H1 b ⟨λss Z F H i s S hi=>?_,λss Z F H s S=>?_,λss Z F H i x H' s S hi y=>?_⟩ kk⟩
  .rw[Ro]at hi;exact⟨AK.of (a ss Z F H s S),by rw[r.length];exact hi⟩
  .refine⟨AK.of (a ss Z F H s S),?_⟩;rw[Ro,r.length];exact Ag _
  .obtain⟨p,y,g,ex,hp,o⟩:=y;subst ex;subst o;obtain⟨z,d,c⟩:=r.get' g;have m:=S.alloc hp (.tup [.int i,y]);exact⟨_,_,cy d,m,.tup AJ (.cons (.int _) (.one (c.mono (s.trans m.ff))))⟩⟩
theorem sS{k:List PV->Prop}(h:Wq ss ta λtp xs=>tp=false/\∃ns:List Str,xs=ns.map PV.str/\Wp ss tb λp=>∃d:AQ,p=dP d/\d.Ok 40 ns/\ns.length<=40/\k ((d.done ns).map PV.str)):
  Wn ss (CZ Zg [] E0 (Ab ta (Ab tb BC))) k:=⟨λE Z F H Q S q=>
 h.go E Z F H _ S λv tp xs F1 H1 c sv⟨Lr,ns,ex,h2⟩=>h2.go E Z F1 H1 _ c.st λv2 p2 F2 H2 b g⟨d,u,hd,j,kk⟩=>by
  subst ex;subst u;obtain⟨l,vs,n,e,r⟩:=(sv.mv b).seq b.st;subst n;rw[r.strs]at e;obtain⟨t,o,m⟩:=Qk g;subst o;refine⟨l,t,tp,ns,d,rfl,e,b.st.fh _ _ m,Lr,hd,j,λa H3 f s w=>?_⟩;have i:=b.st.grow s;exact q a _ _ F2 H3 (c.trans (b.trans i)) (b.st.BM f) ((c.trans b).none f) w (Lg _) kk⟩
end
noncomputable def yN:List Str:=["standing","kept","past","forgotten"]
theorem MO:∀ps:List PV,OV.Ft (ps.map .fz)=ps
 | []=>rfl
 |p::ps=>by rw[Bs,OV.Ft,OV.pv,MO ps]
theorem jL(h:Nm x):dM x:=ZBW (by have:=h.2.1;omega) (ZAK h)
theorem zQ{k:Nat}(h:k<=ns.length):Dw ns none (some (k:Int))=ns.take k:=by
 unfold Dw;rw[show HT.Ak ns.length 0 none=0 from rfl,U5,Qe]
 congr 1
 simp only[HT.Ak];split <;> omega
structure Yd where
 row:List Str
 ln:List Str
 ll:List Lp
 pa:List PV
 fg:Nat
variable{s:Yd}
structure Yd.Ok (m:Nat) (s:Yd):Prop where
 row:EY m s.row
 m4:m<=40
 l1:s.ln.length=s.ll.length
 n1:s.ln.Nodup
 Iv:s.ln.length<=12
 good:∀l∈s.ll,l.Good s.row
 nm:∀x∈s.ln,Nm x
noncomputable def y0(ns:List Str):Yd:=⟨ns,[],[],[],0⟩
noncomputable def Yd.Hk(s:Yd)(x r:Str):Yd:=⟨s.row,s.ln++[x],s.ll++[⟨r,0,Ce s.row⟩],s.pa,s.fg⟩
noncomputable def Yd.EV(s:Yd)(x:Str)(l:Lp):Yd:=⟨s.row,s.ln,s.ll.set (s.ln.idxOf x) (l.EV s.row),s.pa,s.fg⟩
noncomputable def Fl(s:Yd)(d:AQ)(i:Nat):List Lp:=(s.ll.take i).map (Lp.led s.row d)++s.ll.drop i
def Yd.mid(s:Yd)(d:AQ)(i:Nat):Yd:=⟨s.row,s.ln,Fl s d i,s.pa,s.fg⟩
def JI(ns:List Str)(d:AQ):PV:=.tup [.lst (ns.map .str),dP d]
def Yd.act(s:Yd)(d:AQ):Yd:=⟨d.done s.row,s.ln,s.ll.map (Lp.led s.row d),s.pa++[JI s.row d],s.fg⟩
theorem jd(s:Yd)(d:AQ):Fl s d s.ll.length=s.ll.map (Lp.led s.row d):=by
 unfold Fl;rw[IU,nh,E8]
theorem mW(s:Yd)(d:AQ)(i:Nat):(Fl s d i).length=s.ll.length:=by
 unfold Fl;rw[B2,AU,Bi,Ct];omega
theorem eA{l:Lp}(h:s.ll[i]?=some l):(Fl s d i)[i]?=some l:=by
 have hi:=(List.getElem?_eq_some_iff.mp h).1;unfold Fl;rw[FD (by rw[AU,Bi];omega),AU,Bi,U6,show i+(i - min i s.ll.length)=i by omega];exact h
theorem nK{l:Lp}(h:s.ll[i]?=some l):(Fl s d i).set i (l.led s.row d)=Fl s d (i+1):=by
 obtain⟨hi,e⟩:=List.getElem?_eq_some_iff.mp h;unfold Fl;rw[List.set_append_right _ _ (by rw[AU,Bi];omega),AU,Bi,show i - min i s.ll.length=0 by omega,ZIE hi,b6,UC hi,Bx,Bd,e];rfl
theorem Yd.Ok.Hk(h:s.Ok m)(hx:x∉s.ln)(nx:Nm x)(f:r∈Cn)(c:s.ln.length<12):(s.Hk x r).Ok m:=by
 refine⟨h.row,h.m4,?_,?_,?_,λl c=>?_,λy d=>?_⟩
 .show(s.ln++[x]).length=(s.ll++[_]).length;rw[B2,B2,h.l1];rfl
 .refine List.nodup_append.mpr ⟨h.n1,by simp,λa i b g e=>?_⟩;rw[List.mem_singleton.mp g]at e;subst e;exact hx i
 .show(s.ln++[x]).length<=12;rw[B2];exact c
 .rcases List.mem_append.mp c with z|z
  .exact h.good l z
  .rw[List.mem_singleton.mp z];exact WR h.row.nd f
 .rcases List.mem_append.mp d with z|z
  .exact h.nm y z
  .rw[List.mem_singleton.mp z];exact nx
theorem Yd.Ok.act(h:s.Ok m)(hd:d.Ok m s.row)(c:d.Ok 40 s.row):(s.act d).Ok m:=by
 refine⟨h.row.done hd,h.m4,?_,h.n1,h.Iv,λl b=>?_,h.nm⟩
 .show s.ln.length=(s.ll.map _).length;rw[AU];exact h.l1
 .obtain⟨a,PN,rfl⟩:=List.mem_map.mp b;exact(h.good a PN).led c h.row.nd
theorem ZFR(h:EY m ns)(b:m<=40):(y0 ns).Ok m:=⟨h,b,rfl,Nd,CH _,λl a=>absurd a B0,λl a=>absurd a B0⟩
noncomputable def Gg:List Key:=[.inr "row",.inr "kept",.inr "past"]
def B5(s:Yd)(a aK aP:Addr):OV:=.nd (.B1 Gg) a [.fz (.lst (s.row.map .str)),.nd (.B1 (Au s.ln)) aK (CO s.ll),.nd .lst aP (s.pa.map .fz)]
def ID(s:Yd)(a:Addr)(t:OV):Prop:=∃aK aP,t=B5 s a aK aP
def jG(s:Yd):PV:=.B1 Gg [.lst (s.row.map .str),.B1 (Au s.ln) (s.ll.map Lp.P),.lst s.pa]
def As(s:Yd)(C a dx aK aP:Addr):OV:=.nd (.obj C dx yN) a [.fz (.lst (s.row.map .str)),.nd (.B1 (Au s.ln)) aK (CO s.ll),.nd .lst aP (s.pa.map .fz),.fz (.int s.fg)]
def Ea(s:Yd)(C a:Addr)(t:OV):Prop:=∃dx aK aP,t=As s C a dx aK aP
def Ci(s:Yd)(C:Addr):PV:=.obj C yN [.lst (s.row.map .str),.B1 (Au s.ln) (s.ll.map Lp.P),.lst s.pa,.int s.fg]
theorem kM(ll:List Lp):OV.Ft (CO ll)=ll.map Lp.P:=by
 unfold CO;rw[show(ll.map λl=>OV.fz l.P)=(ll.map Lp.P).map .fz by rw[Hi];rfl,MO]
theorem Jy(s:Yd)(C a dx aK aP:Addr):(As s C a dx aK aP).pv=Ci s C:=by
 unfold As Ci;simp only[OV.pv,OV.Ft,MO,kM]
theorem MX(s:Yd)(a aK aP:Addr):(B5 s a aK aP).pv=jG s:=by
 unfold B5 jG;simp only[OV.pv,OV.Ft,MO,kM]
theorem Ea.nd{s:Yd}{C a:Addr}{t:OV}(h:Ea s C a t):∃b us,t=.nd b a us:=by obtain⟨dx,aK,aP,rfl⟩:=h;exact⟨_,_,rfl⟩
section
variable[Xw]
variable{lt:Bool}{K:ZJR}{C dx aK aP:Addr}{k:List Nat->OV->Prop}
theorem Ni(hi:ss[i]?=some (.ow lt (As s C a dx aK aP)))(b:Bz K C)(c:Bg K C "standing")(h:k ([]++[0]) (.fz (.lst (s.row.map .str)))):Wl ss i (As s C a dx aK aP) (LO K (BX i) "standing") k:=Xd (Cm hi ⟨C,dx,yN,a,_,0,_,rfl,b,c,by decide +kernel,rfl,h⟩)
theorem Ku(hi:ss[i]?=some (.ow lt (As s C a dx aK aP)))(b:Bz K C)(c:Bg K C "kept")(h:k ([]++[1]) (.nd (.B1 (Au s.ln)) aK (CO s.ll))):Wl ss i (As s C a dx aK aP) (LO K (BX i) "kept") k:=Xd (Cm hi ⟨C,dx,yN,a,_,1,_,rfl,b,c,by decide +kernel,rfl,h⟩)
theorem ZAd(hi:ss[i]?=some (.ow lt (As s C a dx aK aP)))(b:Bz K C)(c:Bg K C "past")(h:k ([]++[2]) (.nd .lst aP (s.pa.map .fz))):Wl ss i (As s C a dx aK aP) (LO K (BX i) "past") k:=Xd (Cm hi ⟨C,dx,yN,a,_,2,_,rfl,b,c,by decide +kernel,rfl,h⟩)
theorem Kl(hi:ss[i]?=some (.ow lt (B5 s a aK aP)))(h:k ([]++[0]) (.fz (.lst (s.row.map .str)))):Wl ss i (B5 s a aK aP) (Jp (BX i) (tC (V.str "row"))) k:=NC (Cm hi ⟨Gg,a,_,rfl,Mj ⟨.inr "row", 0,_,rfl,by decide +kernel,rfl,h⟩⟩)
theorem LM(hi:ss[i]?=some (.ow lt (B5 s a aK aP)))(h:k ([]++[1]) (.nd (.B1 (Au s.ln)) aK (CO s.ll))):Wl ss i (B5 s a aK aP) (Jp (BX i) (tC (V.str "kept"))) k:=NC (Cm hi ⟨Gg,a,_,rfl,Mj ⟨.inr "kept", 1,_,rfl,by decide +kernel,rfl,h⟩⟩)
theorem vR(hi:ss[i]?=some (.ow lt (B5 s a aK aP)))(h:k ([]++[2]) (.nd .lst aP (s.pa.map .fz))):Wl ss i (B5 s a aK aP) (Jp (BX i) (tC (V.str "past"))) k:=NC (Cm hi ⟨Gg,a,_,rfl,Mj ⟨.inr "past", 2,_,rfl,by decide +kernel,rfl,h⟩⟩)
end
theorem UX{k:NK}{x:OV}:(OV.nd k a [x,y,z,w]).put [1] u=.nd k a [x,u,z,w]:=by rw[OV.KJ (x:=y) rfl,OV.Fd];rfl
theorem qY{k:NK}{x:OV}:(OV.nd k a [x,y,z,w]).put [2] u=.nd k a [x,y,u,w]:=by rw[OV.KJ (x:=z) rfl,OV.Fd];rfl
inductive TZ (C:Addr) (l:List Slot) (R:AX):Prop
 |mk (a dx:Addr) (ns:List Str) (_:l=[.ow true (.nd (.obj C dx []) a []),.is (.lst (ns.map .str))]) (_:EY 40 ns) (_:R=.mt λp t'=>p=.AB/\∃aK aP,t'=As (y0 ns) C a dx aK aP):TZ C l R
inductive Y4 (l:List Slot) (R:AX):Prop
 |mk (ns:List Str) (_:l=[.is (.lst (ns.map .str))]) (_:EY 40 ns) (_:R=.is λp=>p=.AB):Y4 l R
inductive Qu (C:Addr) (l:List Slot) (R:AX):Prop
 |mk (m:Nat) (s:Yd) (a:Addr) (t:OV) (x r:Str) (_:l=[.ow true t,.is (.str x),.is (.str r)]) (_:Ea s C a t) (_:s.Ok m) (_:x∉s.ln) (_:Nm x) (_:r∈Cn) (_:s.ln.length<12) (_:R=.mt λp t'=>p=.AB/\Ea (s.Hk x r) C a t'):Qu C l R
inductive Qq (C:Addr) (l:List Slot) (R:AX):Prop
 |mk (m:Nat) (s:Yd) (a:Addr) (t:OV) (x:Str) (lo:Lp) (_:l=[.ow true t,.is (.str x)]) (_:Ea s C a t) (_:s.Ok m) (_:x∈s.ln) (_:s.ll[s.ln.idxOf x]?=some lo) (_:R=.mt λp t'=>p=lo.told s.row/\Ea (s.EV x lo) C a t'):Qq C l R
inductive RT (C:Addr) (l:List Slot) (R:AX):Prop
 |mk (m:Nat) (s:Yd) (a:Addr) (t:OV) (d:AQ) (_:l=[.ow true t,.is (dP d)]) (_:Ea s C a t) (_:s.Ok m) (_:d.Ok 40 s.row) (_:s.pa.length<=1000) (_:R=.mt λp t'=>p=.AB/\Ea (s.act d) C a t'):RT C l R
inductive Ox (C:Addr) (l:List Slot) (R:AX):Prop
 |mk (s:Yd) (x:Str) (lo:Lp) (_:l=[.is (Ci s C),.is (.str x)]) (_:x∈s.ln) (_:s.ll[s.ln.idxOf x]?=some lo) (_:s.ln.length=s.ll.length) (_:R=.is λp=>p=lo.P):Ox C l R
inductive UM (C:Addr) (l:List Slot) (R:AX):Prop
 |mk (s:Yd) (_:l=[.is (Ci s C)]) (_:R=.new λxs=>xs=s.row.map .str):UM C l R
inductive N3 (C:Addr) (l:List Slot) (R:AX):Prop
 |mk (s:Yd) (_:l=[.is (Ci s C)]) (_:s.pa.length<=2000) (_:R=.is λp=>p=.int (s.fg+s.pa.length)):N3 C l R
inductive Zf (l:List Slot) (R:AX):Prop
 |mk (m:Nat) (_:l=[.AG,.is (.int m)]) (_:1<=m) (_:m<=40) (_:R=.ow λu=>∃ns a,EY m ns/\ID (y0 ns) a u):Zf l R
inductive Vz (C:Addr) (l:List Slot) (R:AX):Prop
 |mk (m:Nat) (s:Yd) (a1 a2:Addr) (t1 t2:OV) (d:AQ) (_:l=[.ow true t1,.ow true t2,.is (dP d)]) (_:Ea s C a1 t1) (_:ID s a2 t2) (_:s.Ok m) (_:d.Ok 40 s.row) (_:s.pa.length<=1000) (_:R=.Lo λp u1 u2=>p=.bl true/\Ea (s.act d) C a1 u1/\ID (s.act d) a2 u2):Vz C l R
section
variable[Xw]
variable{k:PV->Prop}
theorem xW(h:Wp ss te λp=>∃r:Str,p=.str r/\r∈Cn/\k .AB):Wp ss (CZ Qx [] E0 (Ab te BC)) k:=⟨λE Z F H Q S q=>
 h.el E S λr F1 H1 b a=>by
  obtain⟨c,kk⟩:=a;exact⟨r,rfl,c,q _ _ F1 H1 b .AB kk⟩⟩
end
theorem ZBZ(nd:ns.Nodup){k:Nat}(e:ns[k]?=some x):x∉ns.take k:=λh=>by
 have a:=nd;rw[<- Hj k ns]at a;refine(List.nodup_append.mp a).2.2 x h x (DQ (i:=0) ?_) rfl;rw[U6];exact e
theorem ZEy(l:Lp):FL l.P=true:=by
 have h:=jY l.cs;unfold Lp.P DR;rw[FL,Ii,Ii,Ii,h];rfl
theorem Yc(ns:List Str)(l:Lp):LV ns l.r l.g l.cs=.tup [l.told ns,(l.EV ns).P]:=by
 unfold LV Lp.told Lp.EV Lp.P Ca LF JW;unfold Ca;cases e:Cp ns l.g l.cs with
 |nil=>rfl
 |cons x r=>rfl
theorem sk:HM Gg (.inr "row")=Gg:=by decide +kernel
theorem xC{x:OV}:G8 Gg [x,y,z] (.inr "row") w=[w,y,z]:=by
 unfold G8;rw[show D8 Gg (.inr "row")=some 0 by decide +kernel];rfl
section
variable[Xw]
variable{lt:Bool}{k:PV->OV->Prop}
theorem ZCm(h:Wm ss i lt t te λp t'=>p=.AB/\k (.bl true) t'):Wm ss i lt t (Bv (λx y H Q=>y=V.AB/\Q (V.bl (decide (x=V.AB))) H) te (tC V.AB)) k:=⟨λE Z F H Q S q=>
 h.go E Z F H _ S λv p t' F1 H1 a r AV=>by
  obtain⟨e,kk⟩:=AV;subst e;cases r.inv;refine⟨rfl,?_⟩;rw[rg rfl];exact q _ _ t' F1 H1 a (.bl true) kk⟩
variable{y:PV}
end
theorem set_same{α:Type}{l:List α}{x:α}(h:l[i]?=some x):l.set i x=l:=by
 obtain⟨a,ex⟩:=List.getElem?_eq_some_iff.mp h;rw[<- ex,List.set_getElem_self]
end Fz
namespace L2
section
variable{X:Cx}
def cq(K:ZJR):List V->Hp->VK->Prop:=λxs H Q=>∃(p:Addr)(ss:List Int),xs=[.ref p]/\AK K H p (ss.map V.int)/\ss≠[]/\∀m∈ss,(∀y∈ss,m<=y)->Q (.int m) H
theorem xq(m:X.calm=true):D3 X (.builtin "min") (cq X.K):=by
 intro Zo s Z H xs us Q I r h;obtain⟨p,ss,rfl,k,Ac,q⟩:=h;obtain⟨u,rfl,d⟩:=vals1 r;cases d;obtain⟨A4,f,pl,_⟩:=I.list k;have hi:=ib f;obtain⟨ys,e⟩:=hi.allInts.items;have c:=pl.isList;rw[e]at c;have a:ys.toList.map (·.1)=ss:=by
  rw[<- nums_intItems,<- e];exact hi.numsOf
 have b:ys.size=ss.length:=by rw[<- a];simp
 have KH:0<ss.length:=List.length_pos_iff.mpr Ac;refine min_intList (I.ok.hd m) c (by omega) λv h' tk i l=>?_;obtain⟨t',rfl⟩:=intItems_at i;obtain⟨w,o⟩:=argBest_lt (numAt ys) (ys.size - 1);refine⟨.int _,H,I.same l,⟨t',rfl⟩,q _ ?_ λy g=>?_⟩
 .rw[numAt_eq,a];exact getD_mem (by omega)
 .obtain⟨j,t,n⟩:=mem_getD g;have:=o j (by omega);rw[numAt_eq ys j,a,n]at this;exact this
end
end L2
namespace Fz
open L2 Lw
variable{AA l ss:List Slot}{te:TE}{i j n:Nat}{N cs ns row:List Str}{C x:Addr}{d:Nat->Nat}{ta:TA}{pre:Pre}{t u:Nat->OV}{F H:Hp}{vp:V}{a:Nat->Addr}{b:Bool}{I:List Nat}{vs:List V}{E:Ent0}{Z:L2.St}{A:List Addr}{s:Slot}{R:AX}
section
variable[Xw]
variable{K:ZJR}{k:PV->Prop}
theorem ZBX(h:Wq ss te λtp xs=>tp=false/\∃ns:List Int,xs=ns.map PV.int/\ns≠[]/\∀m∈ns,(∀y∈ns,m<=y)->k (.int m)):Wp ss (DL (cq K) (Ab te BC)) k:=⟨λE Z F H Q S q=>
 h.go E Z F H _ S λv tp xs F1 H1 a sv z=>by
  obtain⟨f,ns,e,hn,kk⟩:=z;subst f;subst e;obtain⟨l,vs,rfl,b,r⟩:=sv.seq a.st;rw[r.ints]at b;exact⟨l,ns,rfl,AK.of b,hn,λm d c=>q _ _ F1 H1 a (.int _) (kk m d c)⟩⟩
variable{l1 l2:Bool}{t1 t2:OV}
end
def Dv(ns cs:List Str):List Str:=Ce (BV ns (gr cs ns).g cs)
def DU(n:Int)(ns:List Str)(lo:Lp):PV:=.tup [.int n,.str lo.r,.int lo.g,.tup [.int ((gr lo.cs ns).g:Nat),.tup ((Dv ns lo.cs).map .str)]]
theorem vx(cs:List Str)(nd:ns.Nodup):(Dv ns cs).length=fw cs ns:=by
 unfold Dv;rw[RQ,(Rf cs nd).1]
theorem sU(cs:List Str):(Dv ns cs).length<=ns.length:=by
 unfold Dv BV;rw[RQ,B2];have h1:=HB (λx=>decide (x∈cs)) (ns.take (gr cs ns).g);have h2:=HB (λx=>!decide (x∈cs)) (ns.drop (gr cs ns).g);rw[Bi]at h1;rw[Ct]at h2;omega
theorem ZGC(cs:List Str)(nd:ns.Nodup):Up (Dv ns cs):=Pt (Ov nd _ _)
theorem vG{x:Str}(h:x∈Dv ns cs):x∈ns:=jv (K2.mp h)
theorem pT{q:PV}(nd:ns.Nodup)(h:nM ns cs q):q=.tup [.tup [.int ((gr cs ns).g:Nat),.tup ((Dv ns cs).map .str)],.lst ((gr cs ns).ps.map ZR)]:=by
 obtain⟨ts,a,st,rfl⟩:=h;rw[TX (Ov nd _ _) a st];rfl
theorem zY(nd:ns.Nodup)(hs:∀x∈cs,x∈ns)(a:cs.Nodup):(BV ns (gr cs ns).g (Dv ns cs)).Perm cs:=iN (Ov nd _ _) a λx=>by
 unfold Dv;rw[fc nd (λy=>K2) x];exact⟨λh=>h.2,λh=>⟨hs x h,h⟩⟩
theorem aB(ns:List Str)(g:Nat)(cs:List Str):(BV ns g cs).length<=ns.length:=by
 unfold BV;rw[B2];have h1:=HB (λx=>decide (x∈cs)) (ns.take g);have h2:=HB (λx=>!decide (x∈cs)) (ns.drop g);rw[Bi]at h1;rw[Ct]at h2;omega
noncomputable def KW(ns cs:List Str)(i:Nat):List Int:=(List.range i).map λg=>((BV ns g cs).length:Int)
theorem yn(nd:ns.Nodup){m:Int}(h1:m∈KW ns cs (ns.length+1))(h2:∀y∈KW ns cs (ns.length+1),m<=y):m=(fw cs ns:Nat):=by
 obtain⟨g,hg,rfl⟩:=List.mem_map.mp h1;have a:=ZBH cs nd g;obtain⟨e,c⟩:=Rf cs nd;have b:=h2 _ (List.mem_map.mpr ⟨(gr cs ns).g,List.mem_range.mpr (by omega),rfl⟩);rw[e]at b;omega
inductive QD (C:Addr) (l:List Slot) (R:AX):Prop
 |mk (m:Nat) (s:Yd) (lo:Lp) (_:l=[.is (Ci s C),.is lo.P]) (_:s.Ok m) (_:lo.Good s.row) (_:s.pa.length<=2000) (_:R=.is λp=>p=DU (s.fg+s.pa.length) s.row lo):QD C l R
inductive Ug (C:Addr) (l:List Slot) (R:AX):Prop
 |mk (m:Nat) (s:Yd) (r:Str) (_:l=[.is (Ci s C),.is (.str r)]) (_:s.Ok m) (_:r∈Cn) (_:s.pa.length<=2000) (_:R=.is λp=>p=DU (s.fg+s.pa.length) s.row ⟨r,0,Ce s.row⟩):Ug C l R
inductive Vl (C:Addr) (l:List Slot) (R:AX):Prop
 |mk (m:Nat) (s:Yd) (x:Str) (lo:Lp) (_:l=[.is (Ci s C),.is (.str x)]) (_:s.Ok m) (_:x∈s.ln) (_:s.ll[s.ln.idxOf x]?=some lo) (_:s.pa.length<=2000) (_:R=.is λp=>p=DU (s.fg+s.pa.length) s.row lo):Vl C l R
inductive Y1 (l:List Slot) (R:AX):Prop
 |mk (ns ts:List Str) (g:Nat) (_:l=[.is (.lst (ns.map .str)),.is (.tup [.int g,.tup (ts.map .str)])]) (_:ns.length<=60) (_:R=.new λxs=>∃us:List Str,us.Perm (BV ns g ts)/\sortedS us=true/\xs=us.map .str):Y1 l R
inductive aH (l:List Slot) (R:AX):Prop
 |mk (ns cs:List Str) (_:l=[.is (.lst (ns.map .str)),.is (.tup (cs.map .str))]) (_:ns.length<=60) (_:ns.Nodup) (_:R=.is λp=>p=.int (fw cs ns:Nat)):aH l R
inductive WD (l:List Slot) (R:AX):Prop
 |mk (n:Int) (ns:List Str) (lo:Lp) (_:l=[.is (DU n ns lo),.is (.int n),.is (.lst (ns.map .str)),.is lo.P]) (_:ns.length<=40) (_:ns.Nodup) (_:lo.Good ns) (_:R=.is λp=>p=.bl true):WD l R
abbrev BZ:=List (List Str×AQ)
variable{ps:BZ}
noncomputable def Ir(ps:BZ):List PV:=ps.map λq=>JI q.1 q.2
def rowAt(ps:BZ)(row:List Str)(i:Nat):List Str:=match ps[i]? with
 |some q=>q.1
 |none=>row
theorem Ob{q:List Str×AQ}(h:ps[i]?=some q):rowAt ps row i=q.1:=by unfold rowAt;rw[h]
theorem NA(ps:BZ)(row:List Str):rowAt ps row ps.length=row:=by unfold rowAt;rw[M0 (Ag _)]
structure Ht (ps:BZ) (row:List Str):Prop where
 ok:∀q∈ps,EY 40 q.1/\q.2.Ok 40 q.1
 nx:∀i q,ps[i]?=some q->q.2.done q.1=rowAt ps row (i+1)
theorem ZFf(row:List Str):Ht [] row:=⟨λq h=>absurd h B0,λi q h=>by simp at h⟩
theorem Ht.snoc{d:AQ}(h:Ht ps row)(b:EY 40 row)(hd:d.Ok 40 row):Ht (ps++[(row,d)]) (d.done row):=by
 refine⟨λq f=>?_,λi q hi=>?_⟩
 .rcases List.mem_append.mp f with z|z
  .exact h.ok q z
  .rw[List.mem_singleton.mp z];exact⟨b,hd⟩
 .by_cases c:i<ps.length
  .rw[Dd c]at hi;rw[h.nx i q hi]
   by_cases a:i+1<ps.length
   .unfold rowAt;rw[Dd a];rw[B7 a]
   .have e:i+1=ps.length:=by omega
    rw[e,NA,Ob (q:=(row,d)) (by rw[FD (Ag _),IY];rfl)]
  .have g:=(List.getElem?_eq_some_iff.mp hi).1;rw[B2,Kj]at g;have e:i=ps.length:=by omega
   subst e;rw[FD (Ag _),IY]at hi;have eq:(row,d)=q:=BI hi;subst eq;unfold rowAt;rw[M0 (by rw[B2,Kj];exact Ag _)]
theorem Ht.zT(h:Ht ps row)(a:EY 40 row)(i:Nat):EY 40 (rowAt ps row i):=by
 unfold rowAt;cases e:ps[i]? with
 |none=>exact a
 |some q=>exact(h.ok q (DQ e)).1
noncomputable def EI(ps:BZ)(n:Nat)(l:Lp):Nat->Lp
 | 0=>l
 |j+1=>match ps[n+j]? with
  |some q=>Lp.led q.1 q.2 (EI ps n l j)
  |none=>EI ps n l j
theorem Zq{ps:BZ}{row:List Str}(h:Ht ps row){n:Nat}{l:Lp}(g:l.Good (rowAt ps row n)):∀j,n+j<=ps.length->(EI ps n l j).Good (rowAt ps row (n+j))
 | 0,_=>g
 |j+1,hj=>by
  have b:n+j<ps.length:=by omega
  have e:=B7 b;have a:=Zq h g j (JU b);rw[Ob e]at a;obtain⟨d,c⟩:=h.ok _ (DQ e);unfold EI;rw[e,show n+(j+1)=(n+j)+1 from rfl,<- h.nx _ _ e];exact a.led c d.nd
def GQ(ps:BZ)(n:Nat)(l:Lp):Lp:=EI ps n l (ps.length - n)
theorem ZFS(h:Ht ps row){l:Lp}(hn:n<=ps.length)(g:l.Good (rowAt ps row n)):(GQ ps n l).Good row:=by
 have:=Zq h g (ps.length - n) (by omega);rw[show n+(ps.length - n)=ps.length by omega,NA]at this;exact this
def pg(row:List Str)(l:Lp):Nat->List Str×Lp
 | 0=>([],l)
 |n+1=>match Ca row (pg row l n).2.g (pg row l n).2.cs with
  |some x=>((pg row l n).1++[x],(pg row l n).2.EV row)
  |none=>pg row l n
theorem KN{row:List Str}{l:Lp}(g:l.Good row):∀n,(pg row l n).2.Good row
 | 0=>g
 |n+1=>by
  unfold pg;cases Ca row (pg row l n).2.g (pg row l n).2.cs with
  |none=>exact KN g n
  |some x=>exact(ZFQ (KN g n)).1
theorem V1(row:List Str)(l:Lp):∀n,(pg row l n).1.length<=n
 | 0=>Ag _
 |n+1=>by
  have:=V1 row l n;unfold pg;cases Ca row (pg row l n).2.g (pg row l n).2.cs with
  |none=>exact UD this
  |some x=>show((pg row l n).1++[x]).length<=n+1;rw[B2];exact Nat.succ_le_succ this
theorem yZ(row:List Str)(g:Nat):Ca row g []=none:=by
 unfold Ca Cp;have e:∀l:List Str,l.filter (Gv [])=[]:=λl=>List.filter_eq_nil_iff.mpr λx _ h=>by cases h
 rw[e,e];rfl
theorem tJ{l:Lp}(g:l.Good row)(h:l.cs≠[]):∃x,Ca row l.g l.cs=some x:=by
 cases e:Ca row l.g l.cs with
 |some x=>exact⟨x,rfl⟩
 |none=>
  exfalso;cases d:l.cs with
  |nil=>exact h d
  |cons c r=>
   have b:c∈l.cs:=by rw[d];simp
   have a:c∈Cp row l.g l.cs:=by
    unfold Cp;rw[FY,Nc,Nc];have hi:Gv l.cs c=true:=by unfold Gv;simp[b]
    rcases TV l.g (g.sub c b)with z|z
    .exact .inr ⟨z,hi⟩
    .exact .inl ⟨z,hi⟩
   unfold Ca at e;rw[List.head?_eq_none_iff]at e;rw[e]at a;cases a
theorem Pa{l:Lp}{x:Str}(h:Ca row (pg row l n).2.g (pg row l n).2.cs=some x):pg row l (n+1)=((pg row l n).1++[x],(pg row l n).2.EV row):=by
 conv=>lhs;unfold pg
 rw[h]
theorem Qv{l:Lp}(h:Ca row (pg row l n).2.g (pg row l n).2.cs=none):pg row l (n+1)=pg row l n:=by
 conv=>lhs;unfold pg
 rw[h]
theorem dJ{row:List Str}{l:Lp}{j:Nat}(h:(pg row l j).2.cs=[]):∀n,pg row l (j+n)=pg row l j
 | 0=>rfl
 |n+1=>by
  have a:=dJ h n;refine(Qv (n:=j+n) ?_).trans a;rw[a,h,yZ]
def Fc(n a:Nat)(row:List Str)(lo:Lp):PV:=.tup [.int n,.str lo.r,.int lo.g,.tup [.int a,.tup ((Ce (BV row a lo.cs)).map .str)]]
structure YC (m:Nat) (s:Yd) (ps:BZ) (n sg:Nat) (lo:Lp):Prop where
 ok:s.Ok m
 pa:s.pa=Ir ps
 fg:s.fg=0
 ch:Ht ps s.row
 hn:n<=ps.length
 len:ps.length<=1000
 gd:lo.Good (rowAt ps s.row n)
 hs:sg<=(rowAt ps s.row n).length
theorem Im(ps:BZ):(Ir ps).length=ps.length:=AU _
theorem pS(nd:ns.Nodup)(g:Nat)(hs:∀x∈cs,x∈ns)(up:Up cs):(BV ns g (Ce (BV ns g cs))).Perm cs:=iN (Ov nd _ _) (Kz up) λx=>by
 rw[fc nd (λy=>K2) x];exact⟨λh=>h.2,λh=>⟨hs x h,h⟩⟩
inductive VJ (l:List Slot) (R:AX):Prop
 |mk (ns ts:List Str) (g:Nat) (_:l=[.is (.lst (ns.map .str)),.is (.tup [.int g,.tup (ts.map .str)])]) (_:g<=ns.length) (_:Up ts) (_:(∀x∈ts,x∈ns)) (_:ts.length<64) (_:R=.is λp=>p=.bl true):VJ l R
inductive VF (l:List Slot) (R:AX):Prop
 |mk (n sg:Nat) (ns:List Str) (lo:Lp) (_:l=[.is (.lst (ns.map .str)),.is (Fc n sg ns lo)]) (_:EY 40 ns) (_:lo.Good ns) (_:sg<=ns.length) (_:R=.is λp=>p=lo.P):VF l R
inductive Uh (C:Addr) (l:List Slot) (R:AX):Prop
 |mk (s:Yd) (n:Nat) (r:Str) (x y:PV) (_:l=[.is (Ci s C),.is (.tup [.int n,.str r,x,y])]) (_:n<=s.pa.length) (_:s.fg=0) (_:r∈Cn) (_:s.pa.length<=2000) (_:R=.is λp=>p=.AB):Uh C l R
inductive Us (C:Addr) (l:List Slot) (R:AX):Prop
 |mk (s:Yd) (ps:BZ) (n:Nat) (_:l=[.is (Ci s C),.is (.int n)]) (_:s.pa=Ir ps) (_:s.fg=0) (_:n<=ps.length) (_:ps.length<=1000) (_:R=.is λp=>p=.lst ((rowAt ps s.row n).map .str)):Us C l R
inductive UJ (C:Addr) (l:List Slot) (R:AX):Prop
 |mk (m:Nat) (s:Yd) (ps:BZ) (n sg:Nat) (lo:Lp) (_:l=[.is (Ci s C),.is (Fc n sg (rowAt ps s.row n) lo)]) (_:YC m s ps n sg lo) (_:R=.is λp=>p=(GQ ps n lo).P):UJ C l R
inductive Qj (C:Addr) (l:List Slot) (R:AX):Prop
 |mk (m:Nat) (s:Yd) (ps:BZ) (n sg:Nat) (lo:Lp) (c:Nat) (_:l=[.is (Ci s C),.is (Fc n sg (rowAt ps s.row n) lo),.is (.int c)]) (_:YC m s ps n sg lo) (_:c<=100) (_:R=.ow λu=>∃a,u=.tp [.nd .lst a (((pg s.row (GQ ps n lo) c).1.map PV.str).map .fz),.fz (DU s.pa.length s.row (pg s.row (GQ ps n lo) c).2)]):Qj C l R
theorem qd{g:Int}(a:0<=g)(h1:g<=n):JS n g=true:=by
 unfold JS;rw[rg a,rg h1];rfl
theorem tq{ts:List Str}(up:Up ts)(sub:∀x∈ts,x∈ns):(Hr ts && Ho ns ts)=true:=by
 unfold Hr Ho;rw[rg up,Lu];exact List.all_eq_true.mpr λx hx=>rg (sub x hx)
section
variable[Xw]
variable{K:ZJR}{ta tb:TE}{k:PV->Prop}
theorem cH(h:Wq ss ta λtp xs=>∃ns:List Str,xs=ns.map PV.str/\Wp ss tb λp=>∃g:Int,p=.int g/\0<=g/\g<=ns.length/\k (.bl true)):Wp ss (CZ (OY K) [] E0 (Ab ta (Ab tb BC))) k:=⟨λE Z F H Q S q=>
 h.go E Z F H _ S λv tp xs F1 H1 c sv z=>by
  obtain⟨ns,rfl,h2⟩:=z;refine h2.go E Z F1 H1 _ c.st λv2 p2 F2 H2 a e d=>?_;obtain⟨g,rfl,g0,g1,kk⟩:=d;cases e.inv;obtain⟨l,vs,rfl,b,r⟩:=(sv.mv a).seq a.st;rw[r.strs]at b;have f:CQ K tp H2 l (ns.map V.str):=by
   cases tp with
   |true=>exact AD.of b
   |false=>exact AK.of b
  refine⟨l,tp,ns,g,rfl,f,?_⟩;rw[qd g0 g1];exact q _ _ F2 H2 (c.trans a) (.bl true) kk⟩
theorem ZEE(h:Wq ss ta λtp xs=>∃ns:List Str,xs=ns.map PV.str/\Wp ss tb λp=>∃ts:List Str,p=.tup (ts.map .str)/\Up ts/\(∀x∈ts,x∈ns)/\ts.length<64/\k (.bl true)):Wp ss (CZ (Ry K) [] E0 (Ab ta (Ab tb BC))) k:=⟨λE Z F H Q S q=>
 h.go E Z F H _ S λv tp xs F1 H1 d sv z=>by
  obtain⟨ns,rfl,h2⟩:=z;refine h2.go E Z F1 H1 _ d.st λv2 p2 F2 H2 a g f=>?_;obtain⟨ts,rfl,up,sub,i,kk⟩:=f;obtain⟨c,ws,rfl,e,rt⟩:=g.inv;obtain⟨l,vs,rfl,b,r⟩:=(sv.mv a).seq a.st;rw[r.strs]at b;rw[rt.strs]at e;have j:CQ K tp H2 l (ns.map V.str):=by
   cases tp with
   |true=>exact AD.of b
   |false=>exact AK.of b
  refine⟨l,tp,ns,c,ts,rfl,j,AD.of (a.st.fh _ _ e),i,λH3 s=>?_⟩;rw[tq up sub];exact q _ _ F2 H3 (d.trans (a.trans (a.st.grow s))) (.bl true) kk⟩
theorem i3(h:Wp ss ta λp=>flat p=true/\k (.bl (!decide (Fz.enc p=V.AB)))):Wp ss (Bv (λx y H Q=>y=V.AB/\Q (V.bl (!decide (x=V.AB))) H) ta (tC V.AB)) k:=⟨λE Z F H Q S q=>
 h.go E Z F H _ S λv p F1 H1 b a z=>by
  obtain⟨c,kk⟩:=z;rw[a.enc c];exact⟨rfl,q _ _ F1 H1 b (.bl _) kk⟩⟩
theorem Zz{ta:TA}{m:Str}{k:List Nat->OV->Prop}(h:Wp ss te λo=>∃ns xs,o=.obj C ns xs/\Cq ns m=none/\Wa ss ta λl=>∃k',pre (.is o::l) (.ow k')/\∀u,k' u->k [] u):Wx ss (IF C m (Al pre) [] E0 te ta) k:=⟨λE Z F H Q S q=>
 h.go E Z F H _ S λv o F1 H1 c n z=>by
  obtain⟨ns,xs,rfl,t,h2⟩:=z;obtain⟨a,dx,Fi,rfl,e,x,w,j⟩:=n.inv;refine⟨a,dx,ns.zip Fi,rfl,c.st.fh _ _ e,LL t,h2.go E Z F1 H1 _ c.st λvs l F2 H2 b y i=>?_⟩;obtain⟨k',hp,kk⟩:=i;rw[E8];refine⟨.is (.obj C ns xs)::l,.ow k',F2,[],hp,b.st.P2 (.cons (s:=.is _) (Rep.obj (b.ff _ _ e) (b.ff _ _ x) w (j.mono b.ff)) y),λv F' H' f g=>?_⟩;obtain⟨u,r,nd,hu,p⟩:=g;exact q v [] u F' H' (c.trans (b.trans (b.st.back (λ_ h=>absurd h B0) f))) r nd (λa d=>⟨(hu a d).1,S.DK (c.none (b.none (hu a d).2)),.inr (c.none (b.none (hu a d).2))⟩) (kk u p)⟩
end
noncomputable def f3{α:Type}(x y z:α):Nat->α
 | 0=>x
 | 1=>y
 |_=>z
def B3(t:Nat->OV):List Addr:=(t 0).addrs++(t 1).addrs++(t 2).addrs
theorem HY(h:i<3):i=0∨i=1∨i=2:=by omega
theorem Fe:x∈B3 t↔∃i,i<3/\x∈(t i).addrs:=by
 unfold B3;rw[FY,FY];constructor
 .rintro((h|h)|h)
  .exact⟨0,by decide,h⟩
  .exact⟨1,by decide,h⟩
  .exact⟨2,by decide,h⟩
 .rintro⟨i,hi,h⟩;rcases HY hi with rfl|rfl|rfl
  .exact .inl (.inl h)
  .exact .inl (.inr h)
  .exact .inr h
theorem cX(nd:(B3 t).Nodup)(hi:i<3)(c:j<3)(h:i≠j)(h1:x∈(t i).addrs)(h2:x∈(t j).addrs):False:=by
 obtain⟨n1,_,a⟩:=List.nodup_append.mp nd;obtain⟨_,_,b⟩:=List.nodup_append.mp n1;rcases HY hi with rfl|rfl|rfl <;> rcases HY c with rfl|rfl|rfl
 .exact h rfl
 .exact b x h1 x h2 rfl
 .exact a x (Ei _ h1) x h2 rfl
 .exact b x h2 x h1 rfl
 .exact h rfl
 .exact a x (DE _ h1) x h2 rfl
 .exact a x (Ei _ h2) x h1 rfl
 .exact a x (DE _ h2) x h1 rfl
 .exact h rfl
theorem mQ(nd:(B3 t).Nodup)(hi:i<3):(t i).addrs.Nodup:=by
 obtain⟨n1,a,_⟩:=List.nodup_append.mp nd;obtain⟨c,b,_⟩:=List.nodup_append.mp n1;rcases HY hi with rfl|rfl|rfl
 .exact c
 .exact b
 .exact a
theorem mF(h:∀i,i<3->(t i).addrs.Nodup)(d:∀i j,i<3->j<3->i≠j->∀x,x∈(t i).addrs->x∈(t j).addrs->False):(B3 t).Nodup:=
 List.nodup_append.mpr ⟨List.nodup_append.mpr ⟨h 0 (by decide),h 1 (by decide),λx h1 y h2 e=>d 0 1 (by decide) (by decide) (by decide) x h1 (e▸h2)⟩,h 2 (by decide),λx h1 y h2 e=>by
  subst e;rcases List.mem_append.mp h1 with h1|h1
  .exact d 0 2 (by decide) (by decide) (by decide) x h1 h2
  .exact d 1 2 (by decide) (by decide) (by decide) x h1 h2⟩
inductive GG (F:Hp) (vp:V) (a:Nat->Addr) (t:Nat->OV):Bool->List Nat->List V->List Slot->Prop where
 |nil:GG F vp a t false [] [] []
 |is {b:Bool}{I:List Nat}{v:V}{p:PV}{vs:List V}{l:List Slot}:Rep F v p->GG F vp a t b I vs l->GG F vp a t b I (v::vs) (.is p::l)
 |AG {I:List Nat}{vs:List V}{l:List Slot}:GG F vp a t false I vs l->GG F vp a t true I (vp::vs) (.AG::l)
 |ow {b:Bool}{I:List Nat}{vs:List V}{l:List Slot}{i:Nat}:i∉I->GG F vp a t b I vs l->GG F vp a t b (i::I) (.ref (a i)::vs) (.ow true (t i)::l)
section
theorem GG.len(h:GG F vp a t b I vs l):l.length=vs.length:=by
 induction h with
 |nil=>rfl
 |is _ _ c=>rw[BK,BK,c]
 |AG _ c=>rw[BK,BK,c]
 |ow _ _ c=>rw[BK,BK,c]
theorem GG.at(h:GG F vp a t b I vs l):∃(n0:Nat)(n:Nat->Nat),∀(m:Nat)(s:Slot),l[m]?=some s->
  (∃v p,vs[m]?=some v/\s=.is p/\Rep F v p)∨(b=true/\m=n0/\s=.AG/\vs[m]?=some vp)∨∃i,i∈I/\m=n i/\s=.ow true (t i)/\vs[m]?=some (.ref (a i)):=by
 induction h with
 |nil=>exact⟨0,λ_=>0,λm s h=>by simp at h⟩
 |is r _ d=>
  obtain⟨n0,n,d⟩:=d;refine⟨n0+1,λi=>n i+1,λm s h=>?_⟩;cases m with
  |zero=>simp at h;subst h;exact .inl ⟨_,_,rfl,rfl,r⟩
  |succ m=>
   rcases d m s (by simpa using h)with⟨v,p,q⟩|⟨c,q,f,e⟩|⟨i,c,q,f,e⟩
   .exact .inl ⟨v,p,by simpa using q⟩
   .exact .inr (.inl ⟨c,by rw[q],f,by simpa using e⟩)
   .exact .inr (.inr ⟨i,c,by rw[q],f,by simpa using e⟩)
 |AG _ d=>
  obtain⟨n0,n,d⟩:=d;refine⟨0,λi=>n i+1,λm s h=>?_⟩;cases m with
  |zero=>simp at h;subst h;exact .inr (.inl ⟨rfl,rfl,rfl,rfl⟩)
  |succ m=>
   rcases d m s (by simpa using h)with⟨v,p,q⟩|⟨c,q,f,e⟩|⟨i,c,q,f,e⟩
   .exact .inl ⟨v,p,by simpa using q⟩
   .cases c
   .exact .inr (.inr ⟨i,c,by rw[q],f,by simpa using e⟩)
 |@ow _ _ _ _ i hi _ d=>
  obtain⟨n0,n,d⟩:=d;refine⟨n0+1,λj=>if j=i then 0 else n j+1,λm s h=>?_⟩
  cases m with
  |zero=>simp at h;subst h;exact .inr (.inr ⟨i,CV,(sZ rfl).symm,rfl,rfl⟩)
  |succ m=>
   rcases d m s (by simpa using h)with⟨v,p,q⟩|⟨c,q,f,e⟩|⟨j,c,q,f,e⟩
   .exact .inl ⟨v,p,by simpa using q⟩
   .exact .inr (.inl ⟨c,by rw[q],f,by simpa using e⟩)
   .exact .inr (.inr ⟨j,Ck _ c,(wu (· + 1) q).trans (sN λ(z:j=i)=>hi (z▸c)).symm,f,by simpa using e⟩)
variable{F' H':Hp}
theorem Sg.ZFU(S:Sg E ss Z F H)(pa:Jw ss Z b vp A)(f:∀i∈I,i<3)(r:∀i,i<3->Aj F H (.ref (a i)) (t i))(nd:(B3 t).Nodup)
  (C:∀x∈B3 t,F x=none) (y:∀x∈B3 t,x∉A)(G:GG F vp a t b I vs l):Sg ⟨A,F,H,B3 t⟩ l (vs.map some) F H:=by
 obtain⟨n0,n,w⟩:=G.at;have th:∀x∈B3 t,H x≠none:=λx hx=>by
  obtain⟨i,hi,h⟩:=Fe.mp hx;exact(r i hi).there x h
 have pt:∀x∈A,BR H x/\F x=none:=λx hx=>by
  obtain⟨q,h1,h2⟩:=pa.own hx;obtain⟨l,e,K,_,p⟩:=S.ok q _ h1;rw[h2]at e;cases e;exact⟨p,K⟩
 refine⟨⟨S.fh,A8.refl _,λ_ _ _ e=>e,λ_ _ e=>.inl e,λx h=>(pt x h).1,λx h=>(pt x h).2,λx h=>by obtain⟨_,_,e,_⟩:=(pt x h).1;show H x≠none;rw[e];simp,C,th,λx h=>⟨th x h,y x h⟩⟩,by rw[AU];exact G.len,λm s hn=>?_,λm j s u x KL hn D ms g=>?_⟩
 .rcases w m s hn with⟨v,p,c,rfl,q⟩|⟨d,_,rfl,c⟩|⟨i,hi,_,rfl,c⟩
  .rw[Am,c];exact⟨v,rfl,q⟩
  .rw[Am,c];rcases pa with⟨h,_⟩|⟨q,k,_,rfl,rfl,h1,h2⟩
   .rw[h]at d;cases d
   .exact⟨k,rfl,(pt k (by simp)).2,.inr (by simp),(pt k (by simp)).1⟩
  .rw[Am,c];exact⟨_,rfl,r i (f i hi),mQ nd (f i hi),λx hx=>⟨C x (Fe.mpr ⟨i,f i hi,hx⟩),.inr ⟨rfl,Fe.mpr ⟨i,f i hi,hx⟩⟩⟩⟩
 .have J:∀{n:Nat},b=true->vs[n]?=some vp->BD .AG ((vs.map some)[n]?) x->x∈A:=λ{n}d c ho=>by
   rcases pa with⟨h,_⟩|⟨q,k,_,rfl,rfl,h1,h2⟩
   .rw[h]at d;cases d
   .rw[Am,c]at ho;have z:some (some (V.ref k))=some (some (V.ref x)):=ho;injection z with z;injection z with z;injection z with z
    rw[z];simp
  rcases w m s hn with⟨v,p,c,rfl,_⟩|⟨d,B,rfl,c⟩|⟨i,hi,B,rfl,c⟩
  .cases ms
  .rcases w j u D with⟨_,_,_,rfl,_⟩|⟨_,o,rfl,_⟩|⟨i2,h2,o,rfl,_⟩
   .cases g
   .exact KL (B.trans o.symm)
   .exact y x (Fe.mpr ⟨i2,f i2 h2,g⟩) (J d c ms)
  .rcases w j u D with⟨_,_,_,rfl,_⟩|⟨d,o,rfl,Ol⟩|⟨i2,h2,o,rfl,_⟩
   .cases g
   .exact y x (Fe.mpr ⟨i,f i hi,ms⟩) (J d Ol g)
   .exact cX nd (f i hi) (f i2 h2) (λz=>KL (by rw[B,o,z])) ms g
noncomputable def O1(ss:List Slot)(d:Nat->Nat)(lt:Bool)(u:Nat->OV):List Slot:=((ss.set (d 0) (.ow lt (u 0))).set (d 1) (.ow lt (u 1))).set (d 2) (.ow lt (u 2))
theorem RO{lt:Bool}(a:∀i,i<3->d i<ss.length)(h:(O1 ss d lt u)[n]?=some s):(∃i,i<3/\n=d i/\s=.ow lt (u i))∨((∀i,i<3->n≠d i)/\ss[n]?=some s):=by
 unfold O1 at h
 by_cases c:n=d 2
 .subst c;rw[Bw (by rw[DP,DP];exact a 2 (by decide))]at h;exact .inl ⟨2,by decide,rfl,(BI h).symm⟩
 rw[Br (BG c)]at h
 by_cases b:n=d 1
 .subst b;rw[Bw (by rw[DP];exact a 1 (by decide))]at h;exact .inl ⟨1,by decide,rfl,(BI h).symm⟩
 rw[Br (BG b)]at h
 by_cases e:n=d 0
 .subst e;rw[Bw (a 0 (by decide))]at h;exact .inl ⟨0,by decide,rfl,(BI h).symm⟩
 rw[Br (BG e)]at h;refine .inr ⟨λi hi=>?_,h⟩;rcases HY hi with rfl|rfl|rfl
 .exact e
 .exact b
 .exact c
theorem Sg.qZ{lt:Bool}(S:Sg E ss Z F H)(pa:Jw ss Z b vp A)(hd:∀i j,i<3->j<3->i≠j->d i≠d j)(hs:∀i,i<3->ss[d i]?=some (.ow lt (t i)))
  (U:∀i,i<3->Z[d i]?=some (some (.ref (a i)))) (f:Fin ⟨A,F,H,B3 t⟩ F' H') (r:∀i,i<3->Aj F' H' (.ref (a i)) (u i)) (nd:(B3 u).Nodup) (q:∀x∈B3 u,F' x=none/\(H x=none∨x∈B3 t)) :
  Sg E (O1 ss d lt u) Z F' H'/\(∀x o,C6 ss Z x->x∉B3 t->H x=some o->H' x=some o):=by
 have w:∀i,i<3->d i<ss.length:=λi hi=>(List.getElem?_eq_some_iff.mp (hs i hi)).1;have Q:∀i,i<3->∀x∈(t i).addrs,F x=none/\(E.H0 x=none∨lt=true/\x∈E.B):=λi hi=>by
  obtain⟨_,_,_,_,z⟩:=S.ok (d i) _ (hs i hi);exact z
 have G:∀x∈B3 t,F x=none/\(E.H0 x=none∨lt=true/\x∈E.B):=λx hx=>by
  obtain⟨i,hi,h⟩:=Fe.mp hx;exact Q i hi x h
 have kp:∀x o,x∉A->x∉B3 t->H x=some o->H' x=some o:=λx o n1 T e=>f.keep x o ⟨n1,T⟩ e;have BM:∀x,H x≠none->F x=none->F' x=none:=λx h1 h2=>by
  cases e:F' x with
  |none=>rfl
  |some o=>
   rcases f.fresh x o e with z|z
   .rw[show F x=some o from z]at h2;cases h2
   .exact absurd z h1
 have Y:∀x∈A,E.H0 x=none∨x∈E.A:=λx J=>by
  obtain⟨n,h1,h2⟩:=pa.own J;obtain⟨l,e,_,w,_⟩:=S.ok n _ h1;rw[h2]at e;cases e;exact w
 have σ:∀x,x∈E.A->x∉B3 t:=λx k v=>by
  rcases(G x v).2 with z|z
  .exact S.a0 x k z
  .exact(S.b0 x z.2).2 k
 have g:∀(n:Nat)s,(∀i,i<3->n≠d i)->ss[n]?=some s->∀x,BD s Z[n]? x->x∉B3 t:=λn s h1 GN x ho v=>by
  obtain⟨i,hi,h⟩:=Fe.mp v;exact S.BL n (d i) s _ x (h1 i hi) GN (hs i hi) ho h
 have Ip:∀(n:Nat)s,s≠.AG->ss[n]?=some s->∀x,BD s Z[n]? x->x∉A:=λn s np hs x ho v=>by
  obtain⟨m,h1,h2⟩:=pa.own v
  by_cases c:n=m
  .subst c;rw[hs]at h1;exact np (BI h1)
  .exact S.BL n m s _ x c hs h1 ho h2
 have Co:∀x,BR H x->x∉B3 t->BR H' x:=λx p n=>by
  by_cases c:x∈A
  .exact f.Co x c
  .exact BR.keep p λo e=>kp x o c n e
 have P:∀x∈B3 u,E.H0 x=none∨lt=true/\x∈E.B:=λx J=>by
  rcases(q x J).2 with z|z
  .exact .inl (S.DK z)
  .exact(G x z).2
 refine⟨⟨⟨f.fh,S.f0.trans f.f0,λx o k e=>?_,λx o e=>?_,λx k=>?_,λx k=>?_,S.a0,λx D=>?_,λx D=>?_,S.b0⟩,by unfold O1;rw[DP,DP,DP];exact S.len,λn s hn=>?_,λn m s L x N7 hn v ms C=>?_⟩,λx o np R e=>?_⟩
 .refine kp x o (λz=>?_) (λz=>?_) (S.keep x o k e)
  .rcases Y x z with y|y
   .rw[e]at y;cases y
   .exact k.1 y
  .rcases(G x z).2 with y|y
   .rw[e]at y;cases y
   .exact k.2 y.2
 .rcases f.fresh x o e with z|z
  .exact S.fresh x o z
  .exact .inr (S.DK z)
 .exact Co x (S.Co x k) (σ x k)
 .obtain⟨_,_,K,_⟩:=S.Co x k;exact BM x (by rw[K];simp) (S.K6 x k)
 .exact BM x (S.bH x D) (S.bF x D)
 .by_cases v:x∈B3 t
  .exact f.bH x v
  .by_cases k:x∈A
   .obtain⟨_,_,K,_⟩:=f.Co x k;rw[K];simp
   .intro z;cases e:H x with
    |none=>exact S.bH x D e
    |some o=>rw[kp x o k v e]at z;cases z
 .rcases RO w hn with⟨i,hi,rfl,rfl⟩|⟨n1,h⟩
  .exact⟨_,U i hi,r i hi,mQ nd hi,λx hx=>⟨(q x (Fe.mpr ⟨i,hi,hx⟩)).1,P x (Fe.mpr ⟨i,hi,hx⟩)⟩⟩
  .by_cases np:s=.AG
   .subst np;obtain⟨l,e,V,w,pt⟩:=S.ok n _ h;obtain⟨_,_,W,_⟩:=id pt;exact⟨l,e,BM l (by rw[W];simp) V,w,Co l pt (g n _ n1 h l e)⟩
   .exact Ok.go S h f.f0 (λx o ho e=>kp x o (Ip n s np h x ho) (g n s n1 h x ho) e) BM np
 .have O:∀(n:Nat)s,(∀i,i<3->n≠d i)->ss[n]?=some s->BD s Z[n]? x->x∉B3 u:=λn s h1 hs ho v=>by
   rcases(q x v).2 with z|z
   .exact S.E5 hs ho z
   .exact g n s h1 hs x ho z
  rcases RO w hn with⟨i,hi,X,rfl⟩|⟨n1,h⟩
  .rcases RO w v with⟨j,I,N,rfl⟩|⟨M,h'⟩
   .exact cX nd hi I (λz=>N7 (by rw[X,N,z])) ms C
   .exact O m L M h' C (Fe.mpr ⟨i,hi,ms⟩)
  .rcases RO w v with⟨j,I,N,rfl⟩|⟨M,h'⟩
   .exact O n s n1 h ms (Fe.mpr ⟨j,I,C⟩)
   .exact S.BL n m s L x N7 h h' ms C
 .refine kp x o (λz=>?_) R e;obtain⟨n,h1,h2⟩:=pa.own z;exact np n h1 h2
end
structure rZ (E:Ent0) (ss AA:List Slot) (Z:L2.St) (t:Nat->OV) (F H F' H':Hp):Prop where
 st:Sg E AA Z F' H'
 ff:A8 F F'
 hh:∀x o,C6 ss Z x->x∉B3 t->H x=some o->H' x=some o
 nn:∀x o,F' x=some o->F x=some o∨H x=none
structure KZ [Xw] (ss:List Slot) (q:Nat) (a:Nat->Addr) (t:Nat->OV) (b:Bool) (I:List Nat) (ta:TA) (k:List Slot->Prop):Prop where
 go:∀(E:Ent)(Z:L2.St)(F H:Hp)(Q:List V->Hp->Prop),Sg E ss Z F H->(∀vs l F' H',Mv E ss Z F H F' H'->GG F' (IH Z q) a t b I vs l->k l->Q vs H')->ta Z H Q
structure Vr [Xw] (ss:List Slot) (t:Nat->OV) (new:(Nat->OV)->List Slot) (te:TE) (k:PV->(Nat->OV)->Prop):Prop where
 go:∀(E:Ent)(Z:L2.St)(F H:Hp)(Q:VK),Sg E ss Z F H->(∀v p u F' H',rZ E ss (new u) Z t F H F' H'->Rep F' v p->k p u->Q v H')->te Z H Q
section
variable[Xw]
variable{q:Nat}{lt:Bool}{nx:List Slot->Prop}{k:List Slot->Prop}{new:(Nat->OV)->List Slot}
theorem je(h:k []):KZ ss q a t false [] BC k:=⟨λE Z F H Q S go=>go [] [] F H (Mv.refl S) .nil h⟩
theorem kc(h:Wp ss te λp=>KZ ss q a t b I ta λl=>k (.is p::l)):KZ ss q a t b I (Ab te ta) k:=⟨λE Z F H Q S go=>
 h.go E Z F H _ S λv p F1 H1 d r h2=>h2.go E Z F1 H1 _ d.st λvs l F2 H2 c e kk=>go _ _ F2 H2 (d.trans c) (.is (r.mono c.ff) e) kk⟩
theorem om(d:ss[q]?=some .AG)(h:KZ ss q a t false I ta λl=>k (.AG::l)):KZ ss q a t true I (Ab (BX q) ta) k:=⟨λE Z F H Q S go=>by
 obtain⟨c,e,_⟩:=S.ok q _ d;have f:IH Z q=.ref c:=by unfold IH;rw[e]
 refine⟨_,e,h.go E Z F H _ S λvs l F2 H2 b g kk=>go _ _ F2 H2 b ?_ kk⟩;rw[<- f];exact .AG g⟩
theorem Md(i:Nat)(hn:ss[n]?=some s)(ps:Om s (a i))(h:KZ ss q a t b I ta λl=>k (.ow true (t i)::l))(hi:i∉I:=by decide):KZ ss q a t b (i::I) (Ab (BX n) ta) k:=⟨λE Z F H Q S go=>
 ⟨_,ps.val S hn,h.go E Z F H _ S λvs l F2 H2 c d kk=>go _ _ F2 H2 c (.ow hi d) kk⟩⟩
theorem dz{kk:PV->(Nat->OV)->Prop}(hd:∀i j,i<3->j<3->i≠j->d i≠d j)(hs:∀i,i<3->ss[d i]?=some (.ow lt (t i)))(W:∀i,i<3->∃k us,t i=.nd k (a i) us)(X:b=true->ss[q]?=some .AG)(Y:∀i∈I,i<3)
  (h:KZ ss q a t b I ta λl=>∃k',pre l (.J2 k')/\∀p n g c,k' p n g c->n.val=.ref (a 0)/\g.val=.ref (a 1)/\c.val=.ref (a 2)/\kk p (f3 n g c)) :
  Vr ss t (λu=>O1 ss d lt u) (CZ (CI pre) [] E0 ta) kk:=⟨λE Z F H Q S go=>
 h.go E Z F H _ S λvs l F1 H1 s ar z=>by
  obtain⟨k',hp,V⟩:=z;rw[E8];have r:=s.st;have ok:∀i,i<3->Z[d i]?=some (some (.ref (a i)))/\Aj F1 H1 (.ref (a i)) (t i)/\(t i).addrs.Nodup/\∀x∈(t i).addrs,F1 x=none:=λi hi=>by
   obtain⟨v1,L,y,n1,T⟩:=r.ok (d i) _ (hs i hi);obtain⟨k,us,e⟩:=W i hi;have e1:v1=.ref (a i):=by rw[e]at y;cases y;rfl
   subst e1;exact⟨L,y,n1,λx hx=>(T x hx).1⟩
  obtain⟨A,pa,own⟩:=iq r X;have Zs:(B3 t).Nodup:=mF (λi hi=>(ok i hi).2.2.1) λi j hi J Ac x h1 h2=>r.BL (d i) (d j) _ _ x (hd i j hi J Ac) (hs i hi) (hs j J) h1 h2;refine⟨l,.J2 k',F1,A,_,hp,r.ZFU pa Y (λi hi=>(ok i hi).2.1) Zs (λx hx=>?_) (λx hx σ=>?_) ar,λv F' H' f K=>?_⟩
  .obtain⟨i,hi,h⟩:=Fe.mp hx;exact(ok i hi).2.2.2 x h
  .obtain⟨m,B,p2⟩:=own x σ;obtain⟨i,hi,h⟩:=Fe.mp hx
   by_cases w:m=d i
   .subst w;rw[hs i hi]at B;cases B
   .exact r.BL m (d i) _ _ x w B (hs i hi) p2 h
  .obtain⟨p,n,g,c,P,G,D,C,nd,R,kp⟩:=K;obtain⟨O,N,M,Zb⟩:=V p n g c kp;rw[O]at G;rw[N]at D;rw[M]at C;obtain⟨S2,hh⟩:=r.qZ (u:=f3 n g c) pa hd hs (λi hi=>(ok i hi).1) f (λi hi=>by
    rcases HY hi with rfl|rfl|rfl
    .exact G
    .exact D
    .exact C) nd R
   exact go v p (f3 n g c) F' H' ⟨S2,s.ff.trans f.f0,λx o np U e=>hh x o np U (s.hh x o np e),λx o e=>(f.fresh x o e).elim (λe=>s.nn x o e) λe=>.inr (s.none e)⟩ P Zb⟩
theorem rG(h:Vr ss t new te λ_ u=>nx (new u)):Ws ss (Je te) nx R:=⟨λE D Z F H S hn b=>
 h.go E Z F H _ S λv p u F1 H1 a r kk=>hn _ Z F1 H1 kk a.st a.ff⟩
theorem uW{u v:TS}(h:Vr ss t new te λp x=>∃c,p=.bl c/\if c=true then Ws (new x) v nx R else Ws (new x) u nx R):Ws ss (NQ (Pe (tB te)) u v) nx R:=⟨λE D Z F H S hn b=>
 h.go E Z F H _ S λw p x F1 H1 a r z=>by
  obtain⟨c,rfl,kk⟩:=z;cases r.inv;refine⟨c,rfl,?_⟩;cases c with
  |true=>rw[sZ rfl]at kk;exact kk.go E D Z F1 H1 a.st (λAA σ' F' H' n S' s=>hn AA σ' F' H' n S' (a.ff.trans s)) b
  |false=>rw[sN (by decide)]at kk;exact kk.go E D Z F1 H1 a.st (λAA σ' F' H' n S' s=>hn AA σ' F' H' n S' (a.ff.trans s)) b⟩
theorem Sg.three{l:Nat->Bool}(S:Sg E ss Z F H)(hd:∀i j,i<3->j<3->i≠j->d i≠d j)(hs:∀i,i<3->ss[d i]?=some (.ow (l i) (t i)))(m:∀i,i<3->∃k us,t i=.nd k (a i) us):
  (∀i,i<3->Aj F H (t i).val (t i))/\(B3 t).Nodup/\∀x∈B3 t,F x=none/\(E.H0 x=none∨x∈E.B):=by
 refine⟨λi hi=>?_,mF (λi hi=>?_) λi j hi g Ac x h1 h2=>S.BL (d i) (d j) _ _ x (hd i j hi g Ac) (hs i hi) (hs j g) h1 h2,λx hx=>?_⟩
 .obtain⟨v1,f,b,n1,c⟩:=S.ok (d i) _ (hs i hi);obtain⟨k,us,e⟩:=m i hi;have n:v1=(t i).val:=by rw[e]at b ⊢;cases b;rfl
  exact n▸b
 .obtain⟨v1,f,b,n1,c⟩:=S.ok (d i) _ (hs i hi);exact n1
 .obtain⟨i,hi,h⟩:=Fe.mp hx;obtain⟨v1,f,b,n1,c⟩:=S.ok (d i) _ (hs i hi);exact⟨(c x h).1,(c x h).2.imp id λz=>z.2⟩
theorem pC{l:Nat->Bool}{kk:PV->OV->OV->OV->Prop}(hd:∀i j,i<3->j<3->i≠j->d i≠d j)(hs:∀i,i<3->ss[d i]?=some (.ow (l i) (t i)))(f:∀i,i<3->∃k us,t i=.nd k (a i) us)(h:Wp ss te λp=>kk p (t 0) (t 1) (t 2)):Ws ss (JF te) nx (.J2 kk):=⟨λE D Z F H S hn g=>
 h.go E Z F H _ S λv p F1 H1 c r kp=>by
  obtain⟨b,nd,e⟩:=c.st.three hd hs f;exact g v F1 H1 c.st.toFin ⟨p,t 0,t 1,t 2,r,b 0 (by decide),b 1 (by decide),b 2 (by decide),nd,e,kp⟩⟩
end
def VG(d:Nat->Nat)(R:AX)(AA:List Slot):Prop:=∃(k:PV->OV->OV->OV->Prop)(t:Nat->OV)(a:Nat->Addr),R=.J2 k/\(∀i,i<3->AA[d i]?=some (.ow true (t i)))/\(∀i,i<3->∃k us,t i=.nd k (a i) us)/\k .AB (t 0) (t 1) (t 2)
theorem VG.ok(hd:∀i j,i<3->j<3->i≠j->d i≠d j)(h:VG d R AA)(S:Sg E AA Z F H):R.ok E F H .AB:=by
 obtain⟨k,t,a,rfl,g,e,f⟩:=h;obtain⟨b,nd,c⟩:=S.three (l:=λ_=>true) hd g e;exact⟨.AB,t 0,t 1,t 2,.AB,b 0 (by decide),b 1 (by decide),b 2 (by decide),nd,c,f⟩
theorem oU(hd:∀i j,i<3->j<3->i≠j->d i≠d j){Q:VK}{X:XK}{t:TS}(h:CI pre vs H Q X)(a:∀ss R,pre ss R->ss.length=n)
  (hw:∀ss R,pre ss R->Ws (ss++List.replicate (N.length - n) .any) t (VG d R) R):t { nx:=λ_ H'=>Q .AB H',rt:=Q } (L2.start N vs) H:=by
 obtain⟨ss,R,F,A,B,hp,S,q⟩:=h;have e:vs.length=n:=by have:=S.len;rw[AU]at this;rw[<- this];exact a ss R hp
 unfold L2.start;rw[e];exact(hw ss R hp).go (P4 ⟨A,F,H,B⟩) _ _ F H (S.grown _) (λAA σ' F' H' z S' _=>q .AB F' H' S'.toFin (z.ok hd S')) λv F' H' f ok=>q v F' H' f ok
end Fz
namespace Fz
open L2 Lw
variable{ss:List Slot}{ta:TA}{tb te:TE}{pos:Pos}{T:Addr}
section
variable{E:Ent0}{Z:List (Option V)}{F H:Hp}
theorem Sg.snoc{v:V}{t:OV}{lt:Bool}(S:Sg E ss Z F H)(r:Aj F H v t)(nd:t.addrs.Nodup)(q:∀a∈t.addrs,F a=none/\E.H0 a=none/\∀(n:Nat)s,ss[n]?=some s->¬ BD s Z[n]? a):Sg E (ss++[.ow lt t]) (Z++[some v]) F H:=by
 have at_:∀(n:Nat)s,(ss++[Slot.ow lt t])[n]?=some s->(n<ss.length/\ss[n]?=some s/\(Z++[some v])[n]?=Z[n]?)∨(s=.ow lt t/\n=ss.length/\(Z++[some v])[n]?=some (some v)):=λn s h=>by
  by_cases c:n<ss.length
  .rw[Dd c]at h;exact .inl ⟨c,h,Dd (S.len▸c)⟩
  .rw[FD (oG c)]at h;have e:n - ss.length=0:=by
    cases e:n - ss.length with
    |zero=>rfl
    |succ k=>rw[e]at h;simp at h
   rw[e]at h;refine .inr ⟨(BI h).symm,by omega,?_⟩;rw[FD (by rw[<- S.len];omega),<- S.len,e];rfl
 refine⟨S.toFin,by rw[B2,B2,S.len];rfl,λn s h=>?_,λi j s u a CB hi l ms b=>?_⟩
 .rcases at_ n s h with⟨_,h,e⟩|⟨rfl,_,e⟩
  .rw[e];exact S.ok n s h
  .rw[e];exact⟨v,rfl,r,nd,λa g=>⟨(q a g).1,.inl (q a g).2.1⟩⟩
 .rcases at_ i s hi with⟨_,h1,f⟩|⟨rfl,f,_⟩ <;> rcases at_ j u l with⟨_,h2,d⟩|⟨rfl,d,_⟩
  .rw[f]at ms;rw[d]at b;exact S.BL i j s u a CB h1 h2 ms b
  .rw[f]at ms;exact(q a b).2.2 i s h1 ms
  .rw[d]at b;exact(q a ms).2.2 j u h2 b
  .exact CB (f.trans d.symm)
theorem Sg.oW{s:Slot}{o:Option V}(S:Sg E (ss++[s]) (Z++[o]) F H):Sg E ss Z F H:=by
 have b:ss.length=Z.length:=by have:=S.len;rw[B2,B2]at this;exact M9 this
 have at_:∀(n:Nat)u,ss[n]?=some u->(ss++[s])[n]?=some u/\(Z++[o])[n]?=Z[n]?:=λn u h=>by
  have c:=(List.getElem?_eq_some_iff.mp h).1;exact⟨(Dd c).trans h,Dd (b▸c)⟩
 refine⟨S.toFin,b,λn u h=>?_,λi j u w a CB hi e ms d=>?_⟩
 .obtain⟨h1,h2⟩:=at_ n u h;rw[<- h2];exact S.ok n u h1
 .obtain⟨h1,h2⟩:=at_ i u hi;obtain⟨g,f⟩:=at_ j w e;exact S.BL i j u w a CB h1 g (by rw[h2];exact ms) (by rw[f];exact d)
end
end Fz
namespace L2
theorem ZAP(a b:Addr):Meets (Builtin.«dict.__eq__» ⟨[.ref a,.ref b],[]⟩)
  (λA R s=>∃c ob ea g j i,s.heap.get? a=some c/\c.cls=.type "dict" /\ c.data=.dict ea j/\(a == sysModules)=false/\s.heap.get? b=some ob/\ob.cls=.type "dict" /\ ob.data=.dict g i/\(b == sysModules)=false/\g.size=0/\R (.ok (.ret (.bool (decide (ea.size=0))))) s):=by
 intro prog w A R s ⟨c,ob,ea,g,j,i,e,r,l,sa,k,q,p,m,o,h⟩;have n:s.TypeIs (.ref a) "dict" := ⟨c,e,r⟩;have f:s.TypeIs (.ref b) "dict" := ⟨ob,k,q⟩;unfold Builtin.«dict.__eq__»
 wp_delta
 refine pN ?_;unfold Builtin.Dict.dictSlotArgs;refine pN (wpAny_notOrdered_dict n ?_);show wpAny _ _ (pure (Value.ref a,Value.ref b)) _ _ s;refine pq ?_;refine pN (ZA3 (b:=true) f (by rw[xQ];kernel_rfl) ?_);rw[sN (by decide)];refine pN (pq ?_);refine pN (pq ?_);refine pN ?_;unfold Builtin.Dict.samePairs Builtin.Dict.showsAll;rw[sN (by rw[sa];exact DO),sN (by rw[m];exact DO)];refine pN (pq ?_);refine pN (pq ?_);refine pN (wpAny_dictEntries e l ?_);refine pN (wpAny_dictEntries k p ?_);dsimp only;rw[o]
 by_cases d:ea.size=0
 .rw[d]at h ⊢;rw[sN (by decide)];refine pN (wpAny_dictEpoch e l ?_);refine pN ?_;rw[ZIj];exact pq (pq (pq h))
 .rw[sZ (by simpa using d)]
  rw[uz d]at h;exact pN (ZAs (pq (pq h)))
def fk:R2:=λx y H Q=>∃(p q:Addr)(A6:List (Key×V)),x=.ref p/\y=.ref q/\H p=some (.dK A6)/\H q=some (.dK [])/\Q (.bl A6.isEmpty) H
theorem ZG9{X:Cx}(hu:X.A.units<cLine):BB X (compareOp .Eq) fk:=by
 intro Zo s Z H x y v u Q I n m h;obtain⟨p,q,A6,rfl,rfl,hp,o,h⟩:=h;cases n;cases m;obtain⟨_,sa,Fq,k1,d,CU,b,g1,i,t1,_,k,_⟩:=HS I.AO (.inl hp);obtain⟨_,l,Dj,k2,c,NS,a,f,g,t2,_,j,_⟩:=HS I.AO (.inl o);have l1:A6.isEmpty=decide (CU.size=0):=by
  have e:=k.length;cases k1 with
  |nil=>rw[rg (by simpa using e)];rfl
  |cons=>rw[uz (by simp at e;omega)];rfl
 have l2:NS.size=0:=by
  have e:=j.length;cases k2
  simpa using e
 rw[l1]at h;exact richCompare_meets_room (op:=.Eq) ⟨d,g1,i.1⟩ ⟨c,f,g.1⟩ PySem.F.slot_dict_eq PySem.F.entry_dict_eq (PySem.F.args_dict_eq_2 _ _) (ZAP p q) ⟨d,c,CU,NS,b,a,g1,i.1,t1,sa,f,g.1,t2,l,l2,show Value.bool _≠Value.notImplemented/\_ from⟨(λx=>nomatch x),.bl _,H,I,rfl,h⟩⟩ hu
def VQ(K:ZJR)(ta:TE):TT:=λZ H Q=>ta Z H λx H'=>∃k,W9 K x H' k/\Q k H'
theorem vK{X:Cx}{a:Expr}{ta:TE}(c:QE X a ta)(f:∀b,isTrue a X.env b=(do let v <- b;standAt a.pos;holding [v] (truthy v)):=by intro _;rfl):QT X a (VQ X.K ta):=⟨by
 have c:=c.h;intro Zo s Z H Q I h;exact isTrue_plain (B9 (c Zo s Z H _ I h) λv s1 AV=>by obtain⟨x,H1,I1,d,e⟩:=AV;exact ZEk Zo s1 Z H1 x v Q I1 d e) (f _)⟩
end L2
namespace Fz
open L2 Lw
variable{kl x:Str}{g i jb m n:Nat}{C a a0:Addr}{ks:List Key}{xs:List PV}{ps:BZ}{cs ns row:List Str}{d:AQ}{l:Lp}{s:Yd}
theorem To{x y z:Nat}(h1:x≠y)(h2:x≠z)(a:y≠z):∀i j,i<3->j<3->i≠j->f3 x y z i≠f3 x y z j:=λi j hi b hn=>by
 rcases HY hi with rfl|rfl|rfl <;> rcases HY b with rfl|rfl|rfl
 .exact absurd rfl hn
 .exact h1
 .exact h2
 .exact BG h1
 .exact absurd rfl hn
 .exact a
 .exact BG h2
 .exact BG a
 .exact absurd rfl hn
theorem Jn{P:Nat->Prop}(a:P 0)(h1:P 1)(h2:P 2):∀i,i<3->P i:=λi hi=>by
 rcases HY hi with rfl|rfl|rfl
 .exact a
 .exact h1
 .exact h2
structure my [Xw] (ss:List Slot) (i:Nat) (lt:Bool) (t:OV) (te:TE) (k:PV->OV->Prop):Prop where
 go:∀(E:Ent)(Z:L2.St)(F H:Hp)(Q:VK),Sg E ss Z F H->(∀v p t' F' H',MH E ss Z i lt t t' F H F' H'->(∀a,H' a=none->H a=none)->Rep F' v p->k p t'->Q v H')->te Z H Q
section
variable[Xw]
variable{ss:List Slot}{te ta tb ty:TE}{j:Nat}{lt:Bool}{t:OV}{K:ZJR}{nx:List Slot->Prop}{R:AX}
theorem ZF4{k:PV->Prop}(h:Wl ss i t te λ_ u=>∃(ks:List Key)(a:Addr)(us:List OV),u=.nd (.B1 ks) a us/\k (.bl ks.isEmpty)):Wp ss (Bv fk te T3) k:=⟨λE Z F H Q S q=>
 h.go E Z F H _ S λv p u F1 H1 c r C2 AV=>by
  obtain⟨ks,a,us,l,kk⟩:=AV;subst l;obtain⟨vs,rfl,g,o,j,s⟩:=r.inv;intro b d;have m:ks.length=vs.length:=j;have e:H1 a=some (.dK (ks.zip vs)):=g;have f:=c.st.make d (.dK []);refine⟨a,b,ks.zip vs,rfl,rfl,by rw[Af (Dr e d)];exact e,AJ,?_⟩;rw[show(ks.zip vs).isEmpty=ks.isEmpty from by
   cases ks with
   |nil=>rfl
   |cons k0 ks=>cases vs with
    |nil=>cases m
    |cons n vs=>rfl]
  exact q _ _ F1 _ (c.trans f) (.bl _) kk⟩
theorem ZFt{k:Bool->Prop}(h:Wp ss te λp=>(p=.AB/\k false)∨∃x:Str,p=.str x/\x.length<=1000/\k ((x.length:Int) != 0)):Wt ss (VQ K te) k:=⟨λE Z F H Q S q=>
 h.go E Z F H _ S λv p F1 H1 a r z=>by
  rcases z with⟨rfl,kk⟩|⟨x,rfl,hx,kk⟩
  .cases r.inv;exact⟨false,rfl,q _ F1 H1 a kk⟩
  .cases r.inv;exact⟨_,⟨by have:=ZAu;omega,rfl⟩,q _ F1 H1 a kk⟩⟩
theorem Yh{k:PV->Prop}(h:Wx ss te λm u=>m=[]/\k u.pv):Wp ss te k:=⟨λE Z F H Q S q=>
 h.go E Z F H _ S λv j u F' H' m c nd hu⟨g,kk⟩=>by
  subst g;have f:∀a∈u.addrs,H a=none:=λa b=>by
   rcases(hu a b).2.2 with⟨i,hi,_⟩|z
   .cases hi
   .exact z
  obtain⟨S1,d⟩:=m.st.lay u.addrs (λa b=>⟨(hu a b).1,(hu a b).2.1,c.there a b⟩) λa b i s hs ho=>S.Mu hs (f a b) ho;refine q v u.pv _ H' ⟨S1,m.ff.trans d,m.hh,λa o e=>?_⟩ (c.rep d λa b o ho=>by unfold Bo;rw[sZ b];exact ho) kk;unfold Bo at e;split at e
  .rename_i b;exact .inr (f a b)
  .exact m.nn a o e⟩
theorem qw{k:PV->OV->Prop}(hi:ss[i]?=some (.ow lt t))(h:Wp ss ta λp=>Wm ss i lt t tb λq t'=>∃ns:List Str,p=.lst (ns.map .str)/\q=.lst (ns.map .str)/\k (.bl false) t'):Wm ss i lt t (Bv (MG K true) ta tb) k:=⟨λE Z F H Q S q=>
 h.go E Z F H _ S λv p F1 H1 d g h2=>h2.go E Z F1 H1 _ d.st λv2 p2 t' F2 H2 c f z=>by
  obtain⟨ns,rfl,rfl,kk⟩:=z;obtain⟨a,vs,rfl,ea,l⟩:=(g.mono c.ff).inv;obtain⟨b,ws,rfl,m,j⟩:=f.inv;have o:=l.strs;have n:=j.strs;subst o;subst n;refine⟨a,b,ns.map V.str,ns.map V.str,rfl,rfl,.inl ⟨AK.of (c.st.fh _ _ ea),AK.of (c.st.fh _ _ m)⟩,?_,?_,?_⟩
  .exact List.all_eq_true.mpr λx hx=>by obtain⟨y,_,rfl⟩:=List.mem_map.mp hx;rfl
  .exact List.all_eq_true.mpr λx hx=>by obtain⟨y,_,rfl⟩:=List.mem_map.mp hx;rfl
  .have e:Dp (ns.map V.str) (ns.map V.str)=true:=by
    rw[Kd rfl];refine List.all_eq_true.mpr λx hx=>?_;have hx:=List.mem_range.mp hx;rw[ES,B7 hx,List.getElem_map];exact rg rfl
   show Q (.bl (!Dp (ns.map V.str) (ns.map V.str))) H2;rw[e];exact q _ _ t' F2 H2 (d.eh hi c) (.bl _) kk⟩
theorem rB{pre:Pre}{wi:TI}{L:PV}{LA:NK}{L9:List OV}{k:PV->OV->Prop}(I:Nat->NK->List OV->List PV->Prop)(hi:ss[i]?=some (.ow lt (.nd LA a0 L9)))(N:ss[jb]?=some (.is L))
  (h:Wi ss wi λxs=>xs.length<=1000/\I 0 LA L9 []/\(∀n d us ps,n<xs.length->I n d us ps->∃dx fs,d=.obj C dx fs/\Cq fs kl=none/\∃k',pre [.ow true (.nd d a0 us),.is L] (.mt k')/\∀p t',k' p t'->∃Ez BQ,t'=.nd Ez a0 BQ/\I (n+1) Ez BQ (ps++[p]))/\∀d us ps,I xs.length d us ps->k (.lst ps) (.nd d a0 us)) :
  my ss i lt (.nd LA a0 L9) (IG wi [jb,i] Mg (IF C kl (CI pre) [] E0 (BX 1) (Ab (BX 0) BC))) k:=⟨λE Z F H Q S q=>
 h.go E Z F H _ S λJ xs F1 H1 g G⟨hz,i0,st,hk⟩acc Aq=>by
  have IC:C6 ss Z acc:=g.st.MV Aq;have JN:=g.st.DK Aq;have RL:∀(i:Nat)s,ss[i]?=some s->¬ BD s Z[i]? acc:=λi s hi=>g.st.Mu hi Aq;have Ul:=(List.getElem?_eq_some_iff.mp hi).1;obtain⟨vI,U,rI,ndI,qI⟩:=g.st.ok i _ hi;obtain⟨_,R,_⟩:=rI.inv;subst R;have sO:jb≠i:=λz=>by subst z;rw[hi]at N;cases N
  have W:acc∉(OV.nd LA a0 L9).addrs:=λz=>RL i _ hi z;have LW:∀(T:OV),acc∉T.addrs->∀(n:Nat)s,(ss.set i (.ow lt T))[n]?=some s->¬ BD s Z[n]? acc:=λT hT n s hn o=>by
   by_cases c:n=i
   .subst c;rw[Bw Ul]at hn;cases hn;exact hT o
   .rw[Br (BG c)]at hn;exact RL n s hn o
  refine⟨λn m H2=>m=xs.length - n/\n<=xs.length/\∃d us ps vs F2,I n d us ps/\AW F2 vs ps/\vs.length=n/\Sg E (ss.set i (.ow lt (.nd d a0 us))) Z F2 H2/\A8 F1 F2/\F2 acc=none/\H2 acc=some (.lst vs)/\acc∉(OV.nd d a0 us).addrs/\(∀x∈(OV.nd d a0 us).addrs,x∈(OV.nd LA a0 L9).addrs∨H1 x=none)/\(∀a o,C6 ss Z a->a∉(OV.nd LA a0 L9).addrs->H1 a=some o->H2 a=some o)/\(∀a,H1 a≠none->H2 a≠none)/\(∀a o,F2 a=some o->F1 a=some o∨H1 a=none),⟨_,rfl,CH _,LA,L9,[],[],F1,i0,.nil,rfl,by rw[set_same hi];exact(g.st.make Aq _).st,A8.refl _,g.st.BM Aq,AJ,W,λx hx=>.inl hx,λa o _ _ ea=>by rw[Af (Dr ea Aq)];exact ea,λa ea=>by rw[Af (λz=>by subst z;exact ea Aq)];exact ea,λa o ea=>.inl ea⟩,?_⟩;rintro n m H2⟨rfl,hn,d,us,ps,vs,F2,hI,gh,en,S2,QU,fR,A,X,tT,Rr,NT,bf⟩
  by_cases B:n<xs.length
  .refine .inr ⟨G.go _ Z F2 H2 n QU S2 B,λx H3 y=>?_⟩;obtain⟨p,F3,hp,l,rp⟩:=G.G4 _ Z F2 H2 n x H3 QU S2 B y;unfold Mg;dsimp only;rw[sZ rfl];have i4:∀b,C6 ss Z b->C6 (ss.set i (.ow lt (.nd d a0 us))) Z b:=λb nb j u=>by
    by_cases c:j=i
    .subst c;rw[Bw Ul]at u;cases u
    .rw[Br (BG c)]at u;exact nb j u
   have Y:(ss.set i (.ow lt (.nd d a0 us)))[i]?=some (.ow lt (.nd d a0 us)):=Bw Ul;have σ:=l.hh acc _ (i4 acc IC) A;have j5:F3 acc=none:=by
    cases e:F3 acc with
    |none=>rfl
    |some o=>
     rcases l.nn acc o e with w|w
     .rw[fR]at w;cases w
     .rw[A]at w;cases w
   obtain⟨dx,fs,sD,M,k',OZ,kk⟩:=st n d us ps B hI;subst sD;obtain⟨D,eb,rb⟩:=l.st.ok jb (.is L) (by rw[Br (BG sO)];exact N);obtain⟨v3,e3,r3,_,_⟩:=l.st.ok i _ Y;rw[U]at e3;cases e3;obtain⟨Wf,_,YK,sd3,ft3,XU⟩:=r3.inv;have DX:Bh [jb,i] Z++[some x]=[some D,some (V.ref a0),some x]:=by
    show[(Z[jb]?).join,(Z[i]?).join]++_=_;rw[eb,U];rfl
   rw[DX];refine⟨V.ref a0,rfl,a0,dx,fs.zip Wf,rfl,YK,LL M,D,rfl,?_⟩;show CI pre ([V.ref a0,D]++[]) H3 _ E0;rw[E8];refine⟨_,.mt k',F3,[],(OV.nd (.obj C dx fs) a0 us).addrs,OZ,l.st.Y0 Y (.here U (.cons rb .nil)),λv F' H' f⟨q',t',rq,ro,MK,K,kp⟩=>?_⟩;obtain⟨Ez,BQ,rfl,N4⟩:=kk q' t' kp;have m4:=l.st.Zw Y f ro MK K;have S4:=m4.st;rw[Nf]at S4;have P:H' acc=some (.lst vs):=f.keep acc _ ⟨B0,X⟩ σ;have ka:F' acc=none:=by
    cases e:F' acc with
    |none=>rfl
    |some o=>
     rcases f.fresh acc o e with w|w
     .rw[show F3 acc=some o from w]at j5;cases j5
     .have r:H3 acc=none:=w;rw[σ]at r;cases r
   have mL:acc∉(OV.nd Ez a0 BQ).addrs:=λz=>by
    rcases(K acc z).2 with w|w
    .have w:H3 acc=none:=w;rw[σ]at w;cases w
    .exact X w
   have Ud:∀a,H2 a≠none->H3 a≠none:=λa e w=>e (l.none w);have zO:∀a,H3 a≠none->H' a≠none:=λa e w=>by
    by_cases c:a∈(OV.nd (.obj C dx fs) a0 us).addrs
    .exact f.bH a c w
    .cases e2:H3 a with
     |none=>exact e e2
     |some o=>rw[f.keep a o ⟨B0,c⟩ e2]at w;cases w
   refine⟨_,P,Mb (by rw[en];omega),xs.length - (n+1),by omega,rfl,B,Ez,BQ,ps++[q'],vs++[v],F',N4,((gh.mono l.ff).mono f.f0).append (.one rq),by rw[B2,en];rfl,S4.OI ka (.inl JN) (LW _ mL),QU.trans (l.ff.trans f.f0),ka,AJ,mL,λz X0=>?_,λa o np t ea=>?_,λa ea=>?_,λa o ea=>?_⟩
   .rcases(K z X0).2 with w|w
    .refine .inr ?_;have r:H3 z=none:=w;cases e:H1 z with
     |none=>rfl
     |some o=>exact absurd r (Ud z (NT z (by rw[e];simp)))
    .exact tT z w
   .rw[Af (Dr ea Aq)];have h3:=l.hh a o (i4 a np) (Rr a o np t ea);refine f.keep a o ⟨B0,λz=>?_⟩ h3;rcases tT a z with w|w
    .exact t w
    .rw[w]at ea;cases ea
   .rw[Af (λz=>by subst z;exact ea Aq)];exact zO a (Ud a (NT a ea))
   .rcases f.fresh a o ea with w|w
    .rcases l.nn a o w with w|w
     .exact bf a o w
     .refine .inr ?_;cases e:H1 a with
      |none=>rfl
      |some o'=>exact absurd w (NT a (by rw[e];simp))
    .refine .inr ?_;have r:H3 a=none:=w;cases e:H1 a with
     |none=>rfl
     |some o'=>exact absurd r (Ud a (NT a (by rw[e];simp)))
  .have e:n=xs.length:=by omega
   subst e;obtain⟨S5,nf⟩:=S2.lay [acc] (λa O=>by rw[List.mem_singleton.mp O,A];exact⟨fR,JN,by simp⟩) (λa O n s hs ho=>by rw[List.mem_singleton.mp O]at ho;exact LW _ X n s hs ho);refine .inl ⟨G.stop _ Z F2 H2 QU S2,q _ (.lst ps) (.nd d a0 us) _ H2 ⟨S5,g.ff.trans (QU.trans nf),λa o np t ea=>Rr a o np t (g.hh a o np ea),λa o ea=>?_⟩ (λa ea=>?_) (.lst (by unfold Bo;rw[sZ (List.mem_singleton.mpr rfl)];exact A) (gh.mono nf)) (hk d us ps hI)⟩
   .unfold Bo at ea;split at ea
    .rename_i c;rw[List.mem_singleton.mp c];exact .inr (g.none Aq)
    .exact(bf a o ea).elim (g.nn a o) λw=>.inr (g.none w)
   .cases e:H a with
    |none=>rfl
    |some o=>exact absurd ea (NT a λz=>by rw[g.none z]at e;cases e)⟩
theorem yd{tt:TT}{j:TE}{k:PV->OV->Prop}(h:my ss i lt t te λp t'=>∃xs,p=.lst xs/\Wp ((ss.set i (.ow lt t'))++[.ow false (.fz (.lst xs))]) (IG (OX K (BX ss.length)) [] tt j) λq=>k q t'):Wm ss i lt t (IG (OX K te) [] tt j) k:=⟨λE Z F H Q S q=>
 h.go E Z F H _ S λv p t' F1 H1 b A r z=>by
  obtain⟨xs,rfl,w⟩:=z;have f:Z.length=ss.length:=by have:=b.st.len;rw[DP]at this;exact this.symm
  have D:=b.st.snoc (lt:=false) (.fz r) (by rw[OV.Kt];exact Nd) (λa l=>by rw[OV.Kt]at l;cases l);have y:∀a,C6 ss Z a->C6 (ss.set i (.ow lt t')++[.ow false (.fz (.lst xs))]) (Z++[some v]) a:=λa np n hn m=>by
   have c:=(List.getElem?_eq_some_iff.mp hn).1;rw[B2,DP,Kj]at c
   by_cases g:n<ss.length
   .rw[Dd (by rw[DP];exact g)]at hn;rw[Dd (by rw[f];exact g)]at m
    by_cases s:n=i
    .subst s;rw[Bw g]at hn;cases hn
    .rw[Br (BG s)]at hn;exact np n hn m
   .have e:n=ss.length:=by omega
    subst e;rw[FD (by rw[DP];exact Ag _),DP,IY]at hn;cases hn
  obtain⟨u,e0,z⟩:=w.go E (Z++[some v]) F1 H1 Q D λv2 p2 F2 H2 d x kk=>q v2 p2 t' F2 H2 ⟨d.st.oW,b.ff.trans d.ff,λa o np B ea=>d.hh a o (y a np) (b.hh a o np B ea),λa o ea=>(d.nn a o ea).elim (b.nn a o) λz=>.inr (A a z)⟩ x kk;rw[FD (by rw[f];exact Ag _),f,IY]at e0;have C:v=u:=by simpa using e0
  subst C;exact z⟩
def La(a:Addr)(ks:List Key)(xs:List PV):Hp->V->Prop:=λF v=>v=.ref a/\∃(o:Obj)(vs:List V),F a=some (.C0 o (.dK (ks.zip vs)))/\ks.length=vs.length/\AW F vs xs
theorem uQ{k:PV->Prop}(hi:ss[i]?=some (.raw (La a ks xs)))(h:Wp ss ty λq=>∃b y,q=GK b/\Ji ks xs b=some y/\k y):Wp ss (Jp (BX i) ty) k:=⟨λE Z F H Q S q=>by
 obtain⟨v,e,⟨l,o,vs,m,j,f⟩,_⟩:=S.ok i _ hi;subst l;refine⟨_,e,h.go E Z F H _ S λv2 p F1 H1 c r z=>?_⟩;obtain⟨b,y,rfl,g,kk⟩:=z;have:=N0 r;subst this;obtain⟨w,hw,d⟩:=mJ (f.mono c.ff) j g;exact⟨a,w,rfl,.inl ⟨_,b,.inr ⟨o,c.st.fh _ _ (c.ff _ _ m)⟩,rfl,hw.symm⟩,q w y F1 H1 c d kk⟩⟩
theorem ZDC{tb:TS}(I:Nat->List Slot->Prop)(hi:ss[i]?=some (.ow false (.nd (.B1 ks) a (xs.map .fz))))(Y:I 0 (ss.set i (.raw (La a ks xs))))(W:∀n AA,I n AA->AA.length=ss.length)
  (step:∀n d AA,ks[n]?=some d->I n AA->Ws (AA.set j (.is (GK d))) tb (λCT=>I (n+1) CT) (.is λ_=>False)) (hn:nx (ss.map λ_=>.any)):Ws ss (W8 (RC (XY (BX i)) (Du j) tb)) nx R:=⟨λE D Z F H S Q7 hr=>by
 obtain⟨v0,e0,T,EO,K⟩:=S.ok i _ hi;obtain⟨vs,rfl,V,sd,σ,Q⟩:=T.inv;have N:H a=some (.dK (ks.zip vs)):=V;have GX:ks.length=vs.length:=σ;have P:=lb Q;have C:a∈(OV.nd (.B1 ks) a (xs.map .fz)).addrs:=by rw[OV.DJ];exact CV
 have A:=(K a C).1;have r:E.H0 a=none:=(K a C).2.elim id λz=>by cases z.1
 have AR:i<ss.length:=(List.getElem?_eq_some_iff.mp hi).1;have M:∀(n:Nat)s,(ss.set i .any)[n]?=some s->¬ BD s Z[n]? a:=λn s hs ho=>by
  by_cases c:n=i
  .subst c;rw[Bw AR]at hs;cases hs;exact ho
  .rw[Br (BG c)]at hs;exact S.BL n i s _ a c hs hi ho C
 refine⟨a,_,N,.ref a,e0,a,_,rfl,N,λo=>?_⟩;have S1:Sg E (ss.set i .any) Z F (upd H a (.C0 o (.dK (ks.zip vs)))):=(S.drop i).OI A (.inl r) M;obtain⟨S2,t⟩:=S1.lay [a] (λb w=>by rw[List.mem_singleton.mp w];exact⟨A,r,by rw[AJ];simp⟩) (λb w n s hs ho=>by rw[List.mem_singleton.mp w]at ho;exact M n s hs ho);have B:Bo F (upd H a (.C0 o (.dK (ks.zip vs)))) [a] a=some (.C0 o (.dK (ks.zip vs))):=by unfold Bo;rw[sZ (List.mem_singleton.mpr rfl),AJ]
 generalize Bo F (upd H a (.C0 o (.dK (ks.zip vs)))) [a]=F1 at S2 t B;have S3:Sg E (ss.set i (.raw (La a ks xs))) Z F1 (upd H a (.C0 o (.dK (ks.zip vs)))):=by
  have:=S2.setG (j:=i) (s:=.raw (La a ks xs)) (v:=.ref a) ⟨.ref a,rfl,⟨rfl,o,vs,B,GX,P.mono t⟩,λF F' s⟨e,o,vs,e1,e2,e3⟩=>⟨e,o,vs,s _ _ e1,e2,e3.mono s⟩⟩ (λl h=>by cases h);rw[jH e0,Nf]at this;exact this
 have J:(ks.zip vs).length=ks.length:=by rw[Qa];omega
 refine⟨λn m σ' H'=>m=ks.length - n/\n<=ks.length/\∃AA F',I n AA/\Sg E AA σ' F' H'/\A8 F1 F',⟨_,rfl,CH _,_,F1,Y,S3,A8.refl _⟩,?_⟩;rintro n m σ' H'⟨rfl,Tv,AA,F',N4,S',s'⟩;have G:=S'.fh a _ (s' a _ B)
 by_cases L:n<ks.length
 .refine .inr ⟨⟨G,by rw[J];exact L⟩,λσ2 H2=>∃CT F2,I (n+1) CT/\Sg E CT σ2 F2 H2/\A8 F1 F2,λσ2 H2 q=>⟨_,by omega,rfl,L,q⟩,λx H3 y=>?_⟩;obtain⟨eH,k,v,O,ex⟩:=y;subst eH;subst ex;obtain⟨U,hv⟩:=jP O;have S4:=S'.L7 (j:=j) (v:=kV k) (p:=GK k) (pI k);exact(step n k AA U N4).go E _ _ F' H3 S4 (λCT σ2 F2 H2 Dx S5 s2=>⟨CT,F2,Dx,S5,s'.trans s2⟩) λv F H f ok=>ok.elim λp z=>z.2.elim
 .have e:n=ks.length:=by omega
  subst e;refine .inl ⟨⟨G,J.symm⟩,o,_,G,Q7 (ss.map λ_=>.any) σ' F _ hn ⟨⟨λb u e=>?_,S.f0,λb u g e=>?_,S.fresh,λb g=>?_,S.K6,S.a0,S.bF,λb X=>?_,S.b0⟩,?_,λn s hs=>?_,λn m s u b _ hs _ ms=>?_⟩ (A8.refl F)⟩
  .rw[Af (Dr e A)];exact S'.fh b u (s' b u (t b u e))
  .rw[Af (Dr e r)];exact S'.keep b u g e
  .exact BR.keep (S'.Co b g) λu eu=>by rw[Af (λz=>S.a0 b g (by rw[z];exact r))];exact eu
  .by_cases c:b=a
   .subst c;rw[AJ];simp
   .rw[Af c];exact S'.bH b X
  .rw[AU,<- W _ _ N4];exact S'.len
  .rw[Am]at hs;obtain⟨_,_,rfl⟩:=Option.map_eq_some_iff.mp hs;trivial
  .rw[Am]at hs;obtain⟨_,_,rfl⟩:=Option.map_eq_some_iff.mp hs;exact ms.elim⟩
end
theorem j6{ZD8:List Str}(h:n<=ps.length):rowAt (ps++[(row,d)]) ZD8 n=rowAt ps row n:=by
 by_cases c:n<ps.length
 .unfold rowAt;rw[Dd c,B7 c]
 .have e:n=ps.length:=by omega
  subst e;rw[NA,Ob (q:=(row,d)) (by rw[FD (Ag _),IY];rfl)]
theorem cI{ps:BZ}{x:List Str×AQ}{n:Nat}{l:Lp}:∀j,n+j<=ps.length->EI (ps++[x]) n l j=EI ps n l j
 | 0,_=>rfl
 |j+1,h=>by
  have a:=cI (ps:=ps) (x:=x) (n:=n) (l:=l) j (by omega)
  conv=>lhs;unfold EI
  conv=>rhs;unfold EI
  rw[a,Dd (by omega)]
theorem ZAQ(h:n<=ps.length):GQ (ps++[(row,d)]) n l=Lp.led row d (GQ ps n l):=by
 unfold GQ;rw[B2,Kj,show ps.length+1 - n=(ps.length - n)+1 by omega]
 conv=>lhs;unfold EI
 rw[cI _ (by omega),show n+(ps.length - n)=ps.length by omega,FD (Ag _),IY];rfl
theorem vJ(ps:BZ)(l:Lp):GQ ps ps.length l=l:=by
 unfold GQ;rw[IY];rfl
abbrev Tk:=Nat×Nat×Lp
variable{q:List Tk}
def GZ(ps:BZ)(row:List Str)(k:Tk):PV:=Fc k.1 k.2.1 (rowAt ps row k.1) k.2.2
noncomputable def B8(ps:BZ)(row:List Str)(q:List Tk):List PV:=q.map (GZ ps row)
def BY(ns:List Str)(a:Addr)(xs:List PV):OV:=.nd (.B1 (Au ns)) a (xs.map .fz)
def DV(ps:BZ)(row:List Str)(l:Lp):Tk:=(ps.length,(gr l.cs row).g,l)
theorem gm(hp:s.pa=Ir ps)(l:Lp):DU s.pa.length s.row l=GZ ps s.row (DV ps s.row l):=by
 unfold GZ DV Fc DU Dv;rw[NA,hp,Im]
structure Hd (m:Nat) (s:Yd) (ps:BZ) (q:List Tk):Prop where
 ok:s.Ok m
 pa:s.pa=Ir ps
 fg:s.fg=0
 ch:Ht ps s.row
 ql:q.length=s.ln.length
 tk:∀(i:Nat)k l,q[i]?=some k->s.ll[i]?=some l->k.1<=ps.length/\k.2.2.Good (rowAt ps s.row k.1)/\k.2.1<=(rowAt ps s.row k.1).length/\GQ ps k.1 k.2.2=l
theorem Yd.Ok.gX(h:s.Ok m):EY 40 s.row:=⟨Cc h.row.len h.m4,h.row.nm,h.row.nd⟩
theorem Hd.iZ(h:Hd m s ps q)(e:ps.length<=1000){k:Tk}(h1:q[i]?=some k)(h2:s.ll[i]?=some l):YC m s ps k.1 k.2.1 k.2.2/\GQ ps k.1 k.2.2=l:=by
 obtain⟨a,b,c,d⟩:=h.tk i k l h1 h2;exact⟨⟨h.ok,h.pa,h.fg,h.ch,a,e,b,c⟩,d⟩
theorem Hd.act(h:Hd m s ps q)(hd:d.Ok m s.row)(j:d.Ok 40 s.row):Hd m (s.act d) (ps++[(s.row,d)]) q/\B8 (ps++[(s.row,d)]) (d.done s.row) q=B8 ps s.row q:=by
 have e:∀(i:Nat)k,q[i]?=some k->k.1<=ps.length:=λi k f=>by
  have hi:=(List.getElem?_eq_some_iff.mp f).1;have:=h.ql;have:=h.ok.l1;exact(h.tk i k _ f (B7 (by omega))).1
 refine⟨⟨h.ok.act hd j,by show s.pa++_=_;rw[h.pa];unfold Ir;rw[Bx];rfl,h.fg,h.ch.snoc h.ok.gX j,h.ql,λi k l f g=>?_⟩,?_⟩
 .have g:(s.ll.map (Lp.led s.row d))[i]?=some l:=g;rw[Am]at g;obtain⟨n,PN,rfl⟩:=Option.map_eq_some_iff.mp g;obtain⟨a,b,c,z⟩:=h.tk i k n f PN;show _/\_/\_/\_;rw[show(s.act d).row=d.done s.row from rfl,j6 a,ZAQ a,z];exact⟨by rw[B2];exact Nat.le_add_right_of_le a,b,c,rfl⟩
 .unfold B8;refine U8 λk f=>?_;obtain⟨i,hi⟩:=List.mem_iff_getElem?.mp f;unfold GZ;rw[j6 (e i k hi)]
theorem jQ(h:s.Ok m)(ps:BZ)(g:l.Good s.row):(DV ps s.row l).1<=ps.length/\(DV ps s.row l).2.2.Good (rowAt ps s.row (DV ps s.row l).1)/\(DV ps s.row l).2.1<=(rowAt ps s.row (DV ps s.row l).1).length/\GQ ps (DV ps s.row l).1 (DV ps s.row l).2.2=l:=by
 unfold DV;rw[NA];exact⟨Ag _,g,(Rf l.cs h.row.nd).2,vJ ps l⟩
theorem Hd.Hk(h:Hd m s ps q){r:Str}(hx:x∉s.ln)(nx:Nm x)(d:r∈Cn)(a:s.ln.length<12):Hd m (s.Hk x r) ps (q++[DV ps s.row ⟨r,0,Ce s.row⟩]):=by
 refine⟨h.ok.Hk hx nx d a,h.pa,h.fg,h.ch,by show _=(s.ln++[x]).length;rw[B2,B2,h.ql];rfl,λi k l b a=>?_⟩;have a:(s.ll++[⟨r,0,Ce s.row⟩])[i]?=some l:=a
 by_cases c:i<q.length
 .rw[Dd c]at b;rw[Dd (by rw[<- h.ok.l1,<- h.ql];exact c)]at a;exact h.tk i k l b a
 .have hi:=(List.getElem?_eq_some_iff.mp b).1;rw[B2,Kj]at hi;have e:i=q.length:=by omega
  subst e;rw[FD (Ag _),IY]at b;rw[h.ql,h.ok.l1,FD (Ag _),IY]at a;cases b;cases a;exact jQ h.ok ps (WR h.ok.row.nd d)
noncomputable def Yd.put(s:Yd)(i:Nat)(l:Lp):Yd:=⟨s.row,s.ln,s.ll.set i l,s.pa,s.fg⟩
theorem Yd.Ok.put(h:s.Ok m)(g:l.Good s.row):(s.put i l).Ok m:=⟨h.row,h.m4,by show s.ln.length=(s.ll.set _ _).length;rw[DP];exact h.l1,h.n1,h.Iv,λa Eu=>(List.mem_or_eq_of_mem_set Eu).elim (h.good a) λz=>z▸g,h.nm⟩
theorem Hd.put(h:Hd m s ps q)(g:l.Good s.row)(hi:i<s.ln.length):Hd m (s.put i l) ps (q.set i (DV ps s.row l)):=by
 refine⟨h.ok.put g,h.pa,h.fg,h.ch,by rw[DP];exact h.ql,λj k d b a=>?_⟩;have a:(s.ll.set i l)[j]?=some d:=a
 by_cases c:j=i
 .subst c;rw[Bw (by rw[h.ql];exact hi)]at b;rw[Bw (by rw[<- h.ok.l1];exact hi)]at a;cases b;cases a;exact jQ h.ok ps g
 .rw[Br (BG c)]at b a;exact h.tk j k d b a
theorem tV(h:Ca ns l.g l.cs=none):l.EV ns=l:=by
 unfold Ca at h;have e:=List.head?_eq_none_iff.mp h;unfold Lp.EV LF JW Ca;rw[e];rfl
theorem VU(row:List Str)(l:Lp)(j:Nat):(pg row l j).2.EV row=(pg row l (j+1)).2:=by
 cases e:Ca row (pg row l j).2.g (pg row l j).2.cs with
 |some x=>rw[Pa e]
 |none=>rw[Qv e,tV e]
theorem cV(h:Ca row g cs=some x):x∈row:=by
 unfold Ca at h;have h2:=List.mem_of_head? h;unfold Cp at h2;rcases List.mem_append.mp h2 with z|z
 .exact az (List.mem_filter.mp z).1
 .exact UA (List.mem_filter.mp z).1
noncomputable def Lk(row:List Str)(l:Lp)(n:Nat):List PV:=(List.range n).map λj=>(pg row l j).2.told row
theorem iF(row:List Str)(l:Lp)(n:Nat):Lk row l (n+1)=Lk row l n++[(pg row l n).2.told row]:=by unfold Lk;rw[List.range_succ,Bx];rfl
noncomputable def OE:PV->Bool
 | .str x=>(x.length:Int) != 0
 |_=>false
theorem dw{row:List Str}(a:EY 40 row)(l:Lp):∀n,(Lk row l n).filter OE=(pg row l n).1.map .str
 | 0=>rfl
 |n+1=>by
  rw[iF,Lz,dw a l n];unfold Lp.told;cases e:Ca row (pg row l n).2.g (pg row l n).2.cs with
  |some x=>
   have hx:=(a.nm x (cV e)).1;have t:OE (.str x)=true:=by show((x.length:Int) != 0)=true;rw[bne_iff_ne];omega
   rw[Pa e,Bx];show _++List.filter OE [.str x]=_;rw[List.filter_cons_of_pos t];rfl
  |none=>
   rw[Qv e];show _++List.filter OE [.AB]=_;rw[List.filter_cons_of_neg (by decide),List.filter_nil,E8]
theorem ZBm(a:EY 40 row){p:PV}(h:p∈Lk row l n):p=.AB∨∃x:Str,p=.str x/\x.length<=1000:=by
 obtain⟨j,_,rfl⟩:=List.mem_map.mp h;unfold Lp.told;cases e:Ca row (pg row l j).2.g (pg row l j).2.cs with
 |some x=>exact .inr ⟨x,rfl,by have:=(a.nm x (cV e)).2.1;omega⟩
 |none=>exact .inl rfl
theorem Zm(n:Int)(ns:List Str)(lo:Lp):FL (DU n ns lo)=true:=by
 have h:=jY (Dv ns lo.cs);unfold DU;rw[FL]at h ⊢;simp only[FL,Ii,h,nc,ag]
theorem uB(n:Int)(ns:List Str)(lo:Lp):FL (.tup [DU n ns lo,DU n ns lo])=true:=by simp only[FL,Ii,Zm,nc]
theorem ZD9(ps:BZ)(row:List Str)(q:List Tk)(k:Tk):(B8 ps row q).map OV.fz++[.fz (GZ ps row k)]=(B8 ps row (q++[k])).map .fz:=by unfold B8;rw[Bx,Bx];rfl
theorem ZB6(ps:BZ)(row:List Str)(q:List Tk)(i:Nat)(k:Tk):((B8 ps row q).map OV.fz).set i (.fz (GZ ps row k))=(B8 ps row (q.set i k)).map .fz:=by unfold B8;rw[oA,oA]
theorem OD(ns:List Str)(a:Addr)(xs:List PV):(BY ns a xs).pv=.B1 (Au ns) xs:=by unfold BY;simp only[OV.pv,MO]
theorem Yj(a:Addr)(ns:List Str)(p:PV):(OV.tp [.nd .lst a ((ns.map PV.str).map .fz),.fz p]).pv=.tup [.lst (ns.map .str),p]:=by simp only[OV.pv,OV.Ft,MO]
theorem iL:∀ns:List Str,OV.K7 ((ns.map PV.str).map .fz)=true
 | []=>rfl
 |x::ns=>by rw[Bs,Bs,OV.K7,iL ns];rfl
theorem Ut(a:Addr)(ns:List Str)(n:Int)(row:List Str)(lo:Lp):(OV.tp [.nd .lst a ((ns.map PV.str).map .fz),.fz (DU n row lo)]).Il=true:=by
 simp only[OV.Il,OV.K7,iL,Zm,nc]
theorem kL(h:s.ll[i]?=some l):s.put i l=s:=by
 unfold Yd.put;rw[jH h]
theorem iU(s:Yd)(x:Str)(l:Lp):(s.put (s.ln.idxOf x) l).EV x l=s.put (s.ln.idxOf x) (l.EV s.row):=by
 unfold Yd.put Yd.EV;dsimp only;rw[Nf]
theorem MS(l:Lp)(h:i<s.ll.length):(s.put i l).ll[i]?=some l:=Bw h
def dG:Pre:=λl R=>∃(BS:Bool)(ns cs:List Str),l=[.sq false (ns.map .str),.sq BS (cs.map .str)]/\ns.length<=60/\ns.Nodup/\(∀x∈cs,x∈ns)/\R=.is (nM ns cs)
inductive Rq (C:Addr) (l:List Slot) (R:AX):Prop
 |mk (m:Nat) (s:Yd) (ps:BZ) (q:List Tk) (a1 a2 a3:Addr) (t1 t2:OV) (_:l=[.AG,.ow true t1,.ow true t2,.ow true (BY s.ln a3 (B8 ps s.row q))]) (_:Ea s C a1 t1) (_:ID s a2 t2) (_:Hd m s ps q) (_:ps.length<=1000) (_:s.ln.length<12)
  (_:R=.J2 λp u1 u2 u3=>p=.AB/\∃s' q',Ea s' C a1 u1/\ID s' a2 u2/\u3=BY s'.ln a3 (B8 ps s'.row q')/\Hd m s' ps q'/\s'.ln.length=s.ln.length+1):Rq C l R
inductive aZ (C:Addr) (l:List Slot) (R:AX):Prop
 |mk (m:Nat) (s:Yd) (ps:BZ) (q:List Tk) (a1 a2 a3:Addr) (t1 t2:OV) (x:Str) (c:Nat) (_:l=[.ow true t1,.ow true t2,.ow true (BY s.ln a3 (B8 ps s.row q)),.is (.str x),.is (.int c)]) (_:Ea s C a1 t1) (_:ID s a2 t2) (_:Hd m s ps q) (_:ps.length<=1000) (_:x∈s.ln) (_:c<=100)
  (_:R=.J2 λp u1 u2 u3=>p=.bl true/\∃s' q',Ea s' C a1 u1/\ID s' a2 u2/\u3=BY s'.ln a3 (B8 ps s'.row q')/\Hd m s' ps q'/\s'.ln=s.ln):aZ C l R
inductive Ze (C:Addr) (l:List Slot) (R:AX):Prop
 |mk (m:Nat) (s:Yd) (ps:BZ) (q:List Tk) (a1 a2:Addr) (t1 t2:OV) (_:l=[.AG,.ow true t1,.ow true t2,.is (.int m)]) (_:1<=m) (_:Ea s C a1 t1) (_:ID s a2 t2) (_:Hd m s ps q) (_:ps.length<=900)
  (_:R=.Lo λp u1 u2=>p=.bl true/\∃s' EN,Ea s' C a1 u1/\ID s' a2 u2/\Hd m s' EN q/\B8 EN s'.row q=B8 ps s.row q/\s'.ln=s.ln/\EN.length<=ps.length+3):Ze C l R
def vQ(s0:Slot)(m:Nat)(C x a2 f:Addr)(i:Nat)(AA:List Slot):Prop:=∃(s:Yd)(ps:BZ)(q:List Tk)(dx aK aP e d:Addr)(s1 c b a:Slot),AA=[s0,s1,.is (.int m),.ow false (B5 s a2 e d),.ow false (As s C x dx aK aP),.ow false (BY s.ln f (B8 ps s.row q)),c,b,a]/\Hd m s ps q/\ps.length<=3 * i
def uf(s0:Slot)(m:Nat)(C x a2 f:Addr)(i:Nat)(AA:List Slot):Prop:=∃(s:Yd)(ps:BZ)(q:List Tk)(dx aK aP e d:Addr)(c b a:Slot),AA=[s0,.AG,.is (.int m),.ow false (B5 s a2 e d),.ow false (As s C x dx aK aP),.ow false (BY s.ln f (B8 ps s.row q)),c,b,a]/\Hd m s ps q/\ps.length<=3 * i/\s.ln≠[]
end Fz
set_option maxHeartbeats 8000000
namespace Pf
open L2 Lw
variable{w:World}{mg:ZJT}{A3 EF f:Addr}{α:Type}{OS UU Uw aG:Tok}{l:PySem.W.OpenLaw}
abbrev St:=L2.St
noncomputable def top(i:Nat):Stmt:=PySem.Challenge.pw_stirround_k70_whole_tickets_go_on_as_kep.main.body.getD i (.Pass ⟨0,0,0,0⟩)
abbrev Sk:Stmt:=top 17
abbrev Yo:Stmt:=top 57
abbrev W2:Stmt:=Fw (top 56) 0
abbrev XI:Stmt:=Fw (top 56) 2
abbrev VR:Stmt:=Fw (top 56) 15
abbrev Zy:Stmt:=Fw (top 56) 16
abbrev UH:Stmt:=top 22
abbrev TK:Stmt:=top 44
abbrev Ui:Stmt:=top 52
abbrev Q2:Stmt:=top 50
abbrev WM:Stmt:=top 58
abbrev Uc:Stmt:=top 30
abbrev ZP:Stmt:=top 31
abbrev X4:Stmt:=top 19
abbrev Va:Stmt:=top 21
abbrev Qp:Stmt:=top 47
abbrev Zl:Stmt:=top 48
abbrev XG:Stmt:=top 46
abbrev Uo:Stmt:=top 40
abbrev Ua:Stmt:=Fw (top 56) 14
abbrev Xf:Stmt:=top 53
abbrev O5:Stmt:=top 54
abbrev Yz:Stmt:=top 51
abbrev Zr:Stmt:=Fw (top 56) 13
abbrev ZF:Stmt:=top 35
abbrev Xk:Stmt:=top 43
abbrev Rz:Stmt:=top 45
abbrev ZA:Stmt:=top 39
abbrev Zt:Stmt:=top 41
abbrev Xm:Stmt:=top 37
abbrev YM:Stmt:=Fw (top 56) 11
abbrev aI:Stmt:=Fw (top 56) 6
abbrev YF:Stmt:=Fw (top 56) 5
abbrev Yv:Stmt:=top 60
abbrev VO:Stmt:=top 61
abbrev aS:Stmt:=top 62
abbrev YZ:Stmt:=top 63
abbrev Zu:Stmt:=top 64
abbrev ZQ:Stmt:=top 65
abbrev Xg:Stmt:=top 73
abbrev ZJ:Stmt:=top 42
abbrev WY:Stmt:=top 36
abbrev Zi:Stmt:=Fw (top 56) 9
abbrev Xr:Stmt:=Fw (top 56) 4
abbrev Z1:Stmt:=top 74
abbrev Z8:Stmt:=top 69
abbrev WZ:Stmt:=top 80
abbrev W0:Stmt:=top 24
abbrev Xo:Stmt:=top 25
abbrev Xq:Stmt:=top 26
abbrev VC:Stmt:=top 23
abbrev Wh:Stmt:=top 29
abbrev W6:Stmt:=top 27
abbrev T1:Stmt:=top 28
abbrev Y9:Stmt:=top 20
abbrev UQ:Stmt:=Fw (top 56) 3
abbrev Qi:Stmt:=top 67
abbrev XQ:Stmt:=top 68
abbrev Sn:Stmt:=top 70
abbrev ZD:Stmt:=top 75
abbrev aC:Stmt:=top 66
abbrev Zk:Stmt:=top 82
abbrev Yp:Stmt:=Fw (top 56) 10
abbrev YV:Stmt:=Fw (top 56) 1
abbrev P0:Stmt:=top 71
abbrev Sm:Stmt:=top 77
abbrev RY:Stmt:=top 78
abbrev UY:Stmt:=top 72
abbrev O9:Stmt:=top 79
abbrev aL:Stmt:=top 81
abbrev Jq:Stmt:=top 83
variable{P:Program}{K:ZJR}{Zv:Heap}{fd:FuncData}
def d8{us:List α}(h:us.length=1):∃a,us=[a]:=by
 rcases us with _|⟨a,_|⟨b,us⟩⟩
 .cases h
 .exact⟨a,rfl⟩
 .cases h
def ln2{us:List α}(h:us.length=2):∃a b,us=[a,b]:=by
 rcases us with _|⟨a,us⟩
 .cases h
 .obtain⟨b,rfl⟩:=d8 (M9 h);exact⟨a,b,rfl⟩
def lF{us:List α}(h:us.length=3):∃a b c,us=[a,b,c]:=by
 rcases us with _|⟨a,us⟩
 .cases h
 .obtain⟨b,c,rfl⟩:=ln2 (M9 h);exact⟨a,b,c,rfl⟩
def eN{us:List α}(h:us.length=4):∃a b c d,us=[a,b,c,d]:=by
 rcases us with _|⟨a,us⟩
 .cases h
 .obtain⟨b,c,d,rfl⟩:=lF (M9 h);exact⟨a,b,c,d,rfl⟩
def lr{us:List α}(h:us.length=5):∃a b c d e,us=[a,b,c,d,e]:=by
 rcases us with _|⟨a,us⟩
 .cases h
 .obtain⟨b,c,d,e,rfl⟩:=eN (M9 h);exact⟨a,b,c,d,e,rfl⟩
def yD{us:List α}(h:us.length=6):∃a b c d e f,us=[a,b,c,d,e,f]:=by
 rcases us with _|⟨a,us⟩
 .cases h
 .obtain⟨b,c,d,e,f,rfl⟩:=lr (M9 h);exact⟨a,b,c,d,e,f,rfl⟩
local macro_rules | `(tactic| walk_at "bD1")=>`(tactic| (intro _ _ _ _ _ _ us hl;obtain⟨_,e⟩:=d8 hl;subst e;rfl))
local macro_rules | `(tactic| walk_at "bD2")=>`(tactic| (intro _ _ _ _ _ _ us hl;obtain⟨_,_,e⟩:=ln2 hl;subst e;rfl))
local macro_rules | `(tactic| walk_at "bD3")=>`(tactic| (intro _ _ _ _ _ _ us hl;obtain⟨_,_,_,e⟩:=lF hl;subst e;rfl))
local macro_rules | `(tactic| walk_at "bD4")=>`(tactic| (intro _ _ _ _ _ _ us hl;obtain⟨_,_,_,_,e⟩:=eN hl;subst e;rfl))
local macro_rules | `(tactic| walk_at "bD5")=>`(tactic| (intro _ _ _ _ _ _ us hl;obtain⟨_,_,_,_,_,e⟩:=lr hl;subst e;rfl))
local macro_rules | `(tactic| walk_at "bD6")=>`(tactic| (intro _ _ _ _ _ _ us hl;obtain⟨_,_,_,_,_,_,e⟩:=yD hl;subst e;rfl))
abbrev nS(K:ZJR)(x:Str)(v:Value):Prop:=PySem.W.nsIn K mainGlobals x=some (some v)
abbrev nN(K:ZJR)(x:Str):Prop:=PySem.W.nsIn K mainGlobals x=some none
open Fz
def ZWM(t:String):Lean.MacroM (Lean.TSyntax `tactic):=do
 let g:Lean.TSyntax `tactic←`(tactic| fail)
 let k←`(tactic| case wk=>rfl)
 let n (s:String):=`(tactic| walk_at $(Lean.quote s):str)
 (t.splitOn " ").foldrM (λs r=>do
  let l:=((s.drop 1).toString.splitOn "/").map λx=>Lean.mkIdent (`Fz++x.toName)
  let h:Lean.Ident:=l.getLast!
  let c:=s.front
  let w:=(h.getId.getString!.toLower.replace "o" "e").replace "i" "e"
  let z←if c=='j' then `($h ?wj ?wk ?_)else if c=='k'||c=='K' then `($h ?wk ?_)else `($h ?_)
  let z←l.dropLast.foldrM (λ(f:Lean.Ident)(z:Lean.Term)=>`($f ($z))) z
  let p←if c=='e' then `(tactic| show ∃_,_=$h _/\_)else if c=='s' then `(tactic| show $h _ _ _)else `(tactic| refine' $z)
  let p←if c=='K'||c=='R'||c=='j' then pure p else `(tactic| with_reducible $p:tactic)
  let q←if c=='e' then `(tactic| refine⟨_,rfl,?_⟩)else if c=='s' then n w else if c=='n' then n "wn" else if c=='p' then n "wp" else if c=='k'||c=='K' then pure k else if c=='j' then `(tactic| ((case wj=>rfl);$k:tactic))else `(tactic| skip)
  `(tactic| first|($p:tactic;$q:tactic) | $r:tactic)) g
local macro_rules | `(tactic| walk_at "wp")=>ZWM "kYs kDZ/Td/Cm kDZ/R5/Cm kDZ/Td/Td/Cm kDZ/R5/R5/Cm kDZ/R5/Td/Cm kYs kAL rC4 rMj rgS rRu rTY reX rZA5 rTz rdE ru4 kuI rWU rgb rDD rZGV rZA8 rKO rZZ rkm rZBL rmG rhV kcZ rqP KZDO KwJ kcY KtP KUx KxZ"
local macro_rules | `(tactic| walk_at "wn")=>ZWM "rqp ryP rmZ rZAN RZGt reR KWI jgU"
local macro_rules | `(tactic| walk_at "wq")=>do
 let z←ZWM "keZ kwY kQ0 kDg"
 `(tactic| first | $z:tactic|(refine Bl (EM ?_);walk_at "wn")|(refine Bl ?_;walk_at "wp"))
local macro_rules | `(tactic| walk_at "wz")=>`(tactic| first
 | ((with_reducible refine' Yl ?wk ?_);(case wk=>rfl))
 | (with_reducible refine' w8 ?_)
 | (refine HF (EM ?_);walk_at "wn")
 | (refine HF ?_;walk_at "wp"))
local macro_rules | `(tactic| walk_at "wt")=>ZWM "rKG rGP rZa rGw rXy rJb"
local macro_rules | `(tactic| walk_at "we")=>ZWM "rIz rMZ rki rc7 rdO rJz"
local macro_rules | `(tactic| walk_at "w")=>do
 let z←ZWM "rB4 rFm rEy rCv kRK kZ2 nLb pGD nfG pG0"
 let z1←ZWM "eOV.tp eOV.fz"
 let z2←ZWM "sWn sWq sWz sWt sWe sWo sWi"
 let z3←ZWM "ePV.int ePV.str ePV.bl"
 `(tactic| first | $z1:tactic|((with_reducible show ∃_ _,_=OV.nd NK.lst _ _/\_);refine⟨_,_,rfl,?_⟩)|((with_reducible show ∃_ _ _,_=PV.int _/\_/\_/\_);refine⟨_,_,_,rfl,rfl,rfl,?_⟩)|((with_reducible show Wp _ _ _);first|walk_at "wp" | (refine EM ?_;walk_at "wn")) | $z2:tactic|((with_reducible show Ws _ _ _ _);$z:tactic) | $z3:tactic|((with_reducible show(_:Bool)=_/\_);refine⟨rfl,?_⟩)|((with_reducible show ∃_ _,_=PV.int _/\L2.Be _ _=some _/\_);refine⟨_,_,rfl,rfl,?_⟩)|((with_reducible show ∃_,(_=PV.lst _/\_)∨(_=PV.tup _/\_));first|refine⟨_,.inl ⟨rfl,?_⟩⟩|refine⟨_,.inr ⟨rfl,?_⟩⟩)|((with_reducible show ∃_,_=List.map _ _/\_);first|refine⟨_,rfl,?_⟩|refine⟨[],rfl,?_⟩|refine⟨_,oY _ _ _ _,?_⟩|refine⟨_,bU _ _ _,?_⟩))
local macro_rules | `(tactic| walk_at "ww")=>`(tactic| repeat walk_at "w")
local macro_rules | `(tactic| walk_at "z1")=>`(tactic| exact⟨rfl,rfl,rfl,by decide +kernel,rfl,by decide +kernel,by decide +kernel⟩)
local macro_rules | `(tactic| walk_at "z2")=>`(tactic| exact⟨rfl,by decide +kernel,by decide +kernel,rfl,rfl,by decide +kernel,by decide +kernel,by decide +kernel,by decide +kernel⟩)
def ZEG:Ae ["text"] ["text"] (AM Sk):=by walk_at "z1"
noncomputable abbrev Sc(l):=Scope.mk .function l false false []
def sP:=Sc [(".0",.local),("sign",.local),("LETTERS",.globalImplicit)]
def ZBo:Cr ["text"] (AM Sk) sP "sign" [] []:=by walk_at "z2"
variable(Hq:mg "all"=none)(Ar:mg "len"=none)(W5:mg "LETTERS"=some (.str "abcdefghijklmnopqrstuvwxyz" aG))(XE:mg "MOST_LETTERS"=some (.int 8 UU))(Ij:A9 P w K mg Zv "is_name" 1 ["text"] (OU))(MP:mg "enumerate"=none)(Mr:mg "MOST_THINGS"=some (.int 40 OS))(ZH:A9 P w K mg Zv "check_new_row" 3 ["row"] (Al Y4))(CD:mg "list"=none)(Ai:Bz K A3)(FN:Bg K A3 "forgotten")(Df:Bg K A3 "kept")(FJ:Bg K A3 "past")(CA:Bg K A3 "standing")(Gk:Bc P w K mg Zv A3 "count" 1 ["self"] (Al (N3 A3)))(JR:mg "RULES"=some (.ref EF))(J4:∀H,AD K H EF [.str "none",.str "ahead",.str "all"])(NL:mg "set"=none)(Bm:mg "sorted"=none)(MR:A9 P w K mg Zv "is_coming" 1 ["row","coming"] (Ry K))(J1:A9 P w K mg Zv "is_gap" 1 ["row","gap"] (OY K))(aV:A9 P w K mg Zv "is_slip" 2 ["row","slip"] (Al VJ))(Yg:A9 P w K mg Zv "shown" 1 ["row","slip"] (Al eM))(CC:mg "tuple"=none)(RE:A9 P w K mg Zv "gap_behind_put" 1 ["gap","at"] (gn))(TQ:A9 P w K mg Zv "gap_behind_take" 1 ["gap","place"] (bJ))(El:A9 P w K mg Zv "place_of" 1 ["row","name"] (LZ))(NM:A9 P w K mg Zv "coming_without" 1 ["coming","gone"] (Ub K))(Xz:A9 P w K mg Zv "joins" 1 ["loop","at"] (kE))(Wj:A9 P w K mg Zv "coming_behind" 2 ["loop","deed"] (fT))(WA:A9 P w K mg Zv "gap_led" 3 ["row","gap","deed"] (dk))(Xa:Bc P w K mg Zv A3 "check_time" 2 ["self","ticket"] (Al (Uh A3)))(YG:Bc P w K mg Zv A3 "row_at" 2 ["self","number"] (Al (Us A3)))(WE:A9 P w K mg Zv "loop_at" 3 ["row","ticket"] (Al VF))(N1:A9 P w K mg Zv "loop_led" 4 ["row","loop","deed"] (Sd))(Vn:A9 P w K mg Zv "check_coming" 2 ["row","coming"] (Al kZ))(VZ:A9 P w K mg Zv "marks_at" 1 ["row","gap","coming"] (Al ji))(Vk:A9 P w K mg Zv "least_slip" 3 ["row","coming"] (Al dG))(ZI:A9 P w K mg Zv "is_loop" 2 ["row","thing"] (dS K))(X3:A9 P w K mg Zv "check_loop" 3 ["row","loop"] (jM K))(Qo:A9 P w K mg Zv "things_to_come" 1 ["things","loop"] (gY K))(YE:A9 P w K mg Zv "loop_telling" 2 ["row","loop","name"] (fV K))(aM:A9 P w K mg Zv "rest" 4 ["row","loop"] (cQ K))(ZM:Bc P w K mg Zv A3 "led_on" 9 ["self","ticket"] (Al (UJ A3)))(J5:Bc P w K mg Zv A3 "ticket_now" 4 ["self","loop"] (Al (QD A3)))(Ma:A9 P w K mg Zv "step_loops" 5 ["row","loop"] (Rj K))(Hy:Bc P w K mg Zv A3 "loop" 1 ["self","name"] (Al (Ox A3)))(QJ:A9 P w K mg Zv "_law_letters" 1 ["number"] (iH))(Bp:A9 P w K mg Zv "_law_take" 1 ["pot","many"] (Ki))(Ic:A9 P w K mg Zv "_law_name" 2 ["pot","names"] (PR K))(Dn:mg "range"=none)(Uv:A9 P w K mg Zv "_law_names" 3 ["pot","many"] (bg))(V2:A9 P w K mg Zv "_law_row" 4 ["pot","most"] (X5))(Mo:A9 P w K mg Zv "check_rule" 1 ["rule"] (Qx))(NG:A9 P w K mg Zv "begun" 2 ["row","rule"] (Qf K))(VM:mg "MOST_LOOPS"=some (.int 12 Uw))(Ye:Bc P w K mg Zv A3 "begin" 8 ["self","name","rule"] (CI (Qu A3)))(Vv:Bc P w K mg Zv A3 "ticket" 9 ["self","rule"] (Al (Ug A3)))(XS:A9 P w K mg Zv "_law_begun" 1 ["row","rule"] (Al iS))(X2:A9 P w K mg Zv "_law_rule" 2 ["pot"] (Al kJ))(YI:A9 P w K mg Zv "check_move" 2 ["row","name","at"] (nU))(ZC:A9 P w K mg Zv "check_put" 2 ["row","name","at"] (bI))(ZK:A9 P w K mg Zv "check_turn" 1 ["row","low","high"] (fD))(Mx:mg "reversed"=none)(XM:A9 P w K mg Zv "check_deed" 3 ["row","deed"] (mn))(XA:A9 P w K mg Zv "row_turned" 1 ["row","low","high"] (de))(Rg:A9 P w K mg Zv "row_with" 1 ["row","name","at"] (lY))(Rk:A9 P w K mg Zv "row_without" 1 ["row","name"] (jm))(Zp:A9 P w K mg Zv "done" 4 ["row","deed"] (Zg))(IK:mg "int"=none)(UI:A9 P w K mg Zv "_law_gap" 1 ["row","gap","deed"] (m6))(Z7:Bc P w K mg Zv A3 "act" 9 ["self","deed"] (CI (RT A3)))(Y5:A9 P w K mg Zv "_law_done" 1 ["row","deed"] (WN))(Vm:A9 P w K mg Zv "_law_led" 2 ["row","loop","deed"] (XO))(Xl:A9 P w K mg Zv "_law_acts" 10 ["yard","state","deed"] (CI (Vz A3)))(Xx:A9 P w K mg Zv "_law_deed" 3 ["pot","row","most"] (Z6))(MM:mg "min"=none)(UZ:mg "bool"=none)(JE:mg "isinstance"=none)(Z3:A9 P w K mg Zv "_law_least" 1 ["row","coming"] (Al aH))(Xv:A9 P w K mg Zv "_law_shown" 1 ["row","slip"] (Al Y1))(X1:A9 P w K mg Zv "_law_whole" 1 ["found"] (Al fJ))(LQ:Bc P w K mg Zv A3 "page" 10 ["self","ticket","many"] (Al (Qj A3)))(Yu:Bc P w K mg Zv A3 "row" 1 ["self"] (Al (UM A3)))(MI:Bc P w K mg Zv A3 "step" 8 ["self","name"] (CI (Qq A3)))(V5:Bc P w K mg Zv A3 "ticket_of" 5 ["self","name"] (Al (Vl A3)))(ZO:A9 P w K mg Zv "_law_is_ticket" 2 ["found","count","row","loop"] (Al WD))(YS:A9 P w K mg Zv "_law_step" 1 ["row","loop"] (VH))(UP:Yy P w K mg Zv A3 4 ["self","row"] (CI (TZ A3)))(aa:A9 P w K mg Zv "_law_begun_both" 10 ["pot","yard","state","handed"] (CI (Rq A3)))(XT:A9 P w K mg Zv "_law_new" 6 ["pot","most"] (Al Zf))(RB:A9 P w K mg Zv "_law_pot" 1 ["script","k"] (Y2 K))(XR:A9 P w K mg Zv "_law_stepped_both" 11 ["yard","state","handed","name","many"] (CI (aZ A3)))(XH:A9 P w K mg Zv "_law_stirred" 11 ["pot","yard","state","most"] (CI (Ze A3)))(YU:mg "max"=none)(Wu:mg "Yard"=some (.ref A3))
def ZGf(F:AF K "is_name" "is_name" Sk f fd)(m:mg "is_name"=some (.ref f)):
  A9 P w K mg Zv "is_name" 1 ["text"] (OU):=by
 refine A9.mk F (F.binds (by walk_at "bD1")) m (F.BJ (k:=0) ZEG (λvs H Q E h=>?_) (λAY A outer s H vs Q E g h=>?_))
 .obtain⟨x,rfl,hx,q⟩:=h;rfl
 obtain⟨x,rfl,hx,q⟩:=h;refine⟨_,(AE rfl (AZ (Jc (gH FV FV A7 (B6 nB Ar (A0 (qv 0) A5)) (Js (v:=.int 8) (by rfl) XE ⟨_,rfl⟩)) (Kg (B6 (TU rfl) Hq (A0 (Fx rfl ZBo (ye (qv 0)) (λ_ _ _ _=>by exact Q8) (λ_ _ _ _=>by exact(E7 vC (qv 0) (Js (v:=.str "abcdefghijklmnopqrstuvwxyz") (by rfl) W5 ⟨_,rfl⟩)))) A5)))))),?_⟩;refine⟨_,rfl,_,rfl,small (by omega),_,_,rfl,rfl,_,rfl,?_⟩;refine BA (λc=>?_) (λc=>⟨_,rfl,Dh ?_⟩)
 .refine⟨_,_,rfl,rfl,_,rfl,?_⟩;refine BA (λa=>?_) (λa=>?_)
  .refine⟨_,rfl,x,rfl,λacc Aq=>ZHn (λ_=>true) fj Aq (by rw[<- Gy,<- IQ];exact small (by omega)) (λi v H' Q' _ _ h=>h H' (A8.refl _)) (λi v H' Q' d _ _ h=>?_) (λH' s1 b=>?_)⟩
   .obtain⟨j,rfl⟩:=signs_get d;exact⟨_,rfl,_,_,rfl,rfl,h H' (A8.refl _)⟩
   .rw[sJ]at b;refine⟨acc,_,rfl,AK.of b,?_⟩;rw[all_map];have e:isNm x=x.cps.toList.all T9:=by unfold isNm;rw[c,a];rfl
    rw[<- e];exact q H' s1
  .have e:isNm x=false:=by unfold isNm;rw[Bool.eq_false_iff.mpr a];simp
   rw[<- e];exact q H (A8.refl _)
 .have e:isNm x=false:=by unfold isNm;rw[Bool.eq_false_iff.mpr c];simp
  rw[<- e];exact q H (A8.refl _)
def SS:Ae ["row","name","place"] ["row"] (AM Yo):=by walk_at "z1"
def yY(F:AF K "check_new_row" "check_new_row" Yo f fd)(m:mg "check_new_row"=some (.ref f)):
  A9 P w K mg Zv "check_new_row" 3 ["row"] (Al Y4):=by
 refine Fz.hF (k:=2) F (by walk_at "bD1") m SS (by rintro _ _⟨ns,rfl,_,rfl⟩;rfl) λb=>⟨_,(AH rfl (CS (Fy FE rfl (DS (qv 0)) (D0 1 SS.nd) (AE rfl (Ao (DW (Ew (AS Ij b (A0 (qv 1) A5)))) (AE rfl Dq) Az))))
   (AH rfl (CS (Fy FE rfl (mx rfl MP (A0 (qv 0) A5)) (Pn rfl (Gm (D0 2 SS.nd) (Gm (D0 1 SS.nd) O2))) (AE rfl (Ao (Ad FK (qv 1) (DF J9 (qv 0) Dt (Cu (qv 2)))) (AE rfl Dq) Az))))
   (AE rfl (Ao (Ad Sq (B6 Fb Ar (A0 (qv 0) A5)) (Js (v:=.int 40) (by rfl) Mr ⟨_,rfl⟩)) (AE rfl Dq) Az)))),?_⟩
 rintro _ _⟨ns,rfl,a,rfl⟩;show Ws [_,.any,.any] _ _ _;refine B4 (Fm (Gu (λ_ i AA=>∃s1 s2:Slot,AA=[.is (.lst (ns.map .str)),s1,s2]) (Jz (HF (AL rfl ⟨_,.inl ⟨rfl,?_⟩⟩)))));refine⟨⟨_,_,rfl⟩,?_,?_⟩
 .rintro k p AA hp⟨s1,s2,rfl⟩;rw[Am]at hp;obtain⟨x,ex,rfl⟩:=Option.map_eq_some_iff.mp hp;refine IL ?_;have hx:=a.nm x (DQ ex);refine Ey (Gw (GP (jD (AL rfl ⟨x,rfl,(jL hx).2,_,rfl,?_⟩))));rw[Vb hx];exact BU (by decide) (Cv ⟨_,_,rfl⟩)
 .rintro AA⟨s1,s2,rfl⟩;refine B4 (Fm (Gu (λ_ i AA=>∃s1 s2:Slot,AA=[.is (.lst (ns.map .str)),s1,s2]) (lx (HF (AL rfl ⟨_,.inl ⟨rfl,rfl,?_⟩⟩)))));refine⟨⟨_,_,rfl⟩,?_,?_⟩
  .rintro k q AA d⟨s1,s2,rfl⟩;obtain⟨g,hx,rfl⟩:=lg d;rw[Am]at hx;obtain⟨x,ex,rfl⟩:=Option.map_eq_some_iff.mp hx;have e:=(List.getElem?_eq_some_iff.mp ex).1;refine fM ⟨_,_,rfl,?_⟩
   walk_at "ww"
   rw[zQ (JU e)];refine BA (λc=>?_) (λc=>Cv ⟨_,_,rfl⟩);exact absurd (uq c) (ZBZ a.nd ex)
  .rintro AA⟨s1,s2,rfl⟩
   walk_at "ww"
   rw[AU];have:=a.len;exact BU (λz=>by have:=uq z;omega) (Cv ⟨_,rfl,rfl⟩)
def ZGj:Ae ["self","row"] ["self","row"] (AM W2):=by walk_at "z1"
def kP:∀ss R,(TZ A3) ss R->ss.length=2:=by rintro _ _⟨a,dx,ns,rfl,_,rfl⟩;rfl
def ZGa(F:AF K "__init__" "Yard.__init__" W2 f fd)(d:Mk K A3 f):
  Yy P w K mg Zv A3 4 ["self","row"] (CI (TZ A3)):=by
 refine⟨f,fd,F.BJ (k:=3) ZGj (λvs H Q E h=>Fz.PX kP h) (λAY A outer s H vs Q E e h=>?_),(F.binds (by walk_at "bD2")),d⟩
 refine⟨_,(AH rfl (D5 (AS ZH e (A0 (qv 1) A5)))
   (AH rfl (Nr (qv 0) (Cy Kc CD (A0 (qv 1) A5)))
   (AH rfl (Nr (qv 0) TL)
   (AH rfl (Nr (qv 0) (FA A5))
   (AE rfl (Nr (qv 0) A7)))))),?_⟩
 refine Fz.VN h kP ?_;rintro _ _⟨a,dx,ns,rfl,g,rfl⟩;show Ws [_,_] _ _ _;refine B4 (Pw (wp_call (Bq (AL rfl (By ⟨_,⟨ns,rfl,g,rfl⟩,λp hp=>?_⟩)))));refine B4 (Q4 (i:=0) (Es (EM (WI rfl (Bl (AL rfl ⟨_,.inl ⟨rfl,Cm rfl ⟨true,A3,dx,_,a,_,rfl,rfl,Ai,CA,by decide,B0,?_⟩⟩⟩))))));rw[OV.Fd];show Ws [.ow true (.nd (.obj A3 dx ["standing"]) a [.fz (.lst (ns.map .str))]),_] _ _ _;refine B4 (Q4 (i:=0) (Yb λb=>Cm rfl ⟨true,A3,dx,_,a,_,rfl,rfl,Ai,Df,by decide,B0,?_⟩));rw[OV.Fd];show Ws [.ow true (.nd (.obj A3 dx ["standing","kept"]) a [.fz (.lst (ns.map .str)),.nd (.B1 []) b []]),_] _ _ _;refine B4 (Q4 (i:=0) (lJ (SA ⟨by decide,λc=>Cm rfl ⟨true,A3,dx,_,a,_,rfl,rfl,Ai,FJ,by decide,B0,?_⟩⟩)));rw[OV.Fd];show Ws [.ow true (.nd (.obj A3 dx ["standing","kept","past"]) a [.fz (.lst (ns.map .str)),.nd (.B1 []) b [],.nd .lst c []]),_] _ _ _;refine Q4 (i:=0) (Es (C4 (Cm rfl ⟨true,A3,dx,_,a,_,rfl,rfl,Ai,FN,by decide,B0,?_⟩)));rw[OV.Fd];exact⟨_,_,_,_,rfl,rfl,rfl,b,c,rfl⟩
def ZDM:Ae ["self"] ["self"] (AM XI):=by walk_at "z1"
def ZGl(F:AF K "count" "Yard.count" XI f fd)(a:Meth K A3 "count" f):
  Bc P w K mg Zv A3 "count" 1 ["self"] (Al (N3 A3)):=by
 refine⟨f,fd,Fz.Hc (k:=0) F ZDM (by rintro _ _⟨s,rfl,_,rfl⟩;rfl) λb=>⟨_,(AE rfl (AZ (Ay EL (Cb (qv 0)) (B6 Fb Ar (A0 (Cb (qv 0)) A5))))),?_⟩,(F.binds (by walk_at "bD1")),a,Ai⟩
 rintro _ _⟨s,rfl,hp,rfl⟩;show Ws [_] _ _ _;refine G0 (Ru (Fn (AL rfl ⟨A3,yN,_,3,_,rfl,Ai,FN,by decide +kernel,rfl,_,rfl,?_⟩)));refine WU (Bl (Fn (AL rfl ⟨A3,yN,_,2,_,rfl,Ai,FJ,by decide +kernel,rfl,_,.inl ⟨rfl,?_⟩⟩)));exact⟨_,rfl,rfl⟩
def ZD0:Ae ["self","ticket"] ["self","ticket"] (AM VR):=by walk_at "z1"
def wt(F:AF K "check_time" "Yard.check_time" VR f fd)(b:Meth K A3 "check_time" f):
  Bc P w K mg Zv A3 "check_time" 2 ["self","ticket"] (Al (Uh A3)):=by
 refine⟨f,fd,Fz.Hc (k:=1) F ZD0 (by rintro _ _⟨s,n,r,x,y,rfl,_,_,_,_,rfl⟩;rfl) λa=>⟨_,(AH rfl (Ao (GH (DW (MQ FV FV A7 (AI AN (qv 1) A7) (Po Gk a (by decide) (qv 0)))) (HR (Ad Q6 (AI AN (qv 1) A7) (Js (v:=.ref EF) (by rfl) JR rfl)))).pt (AE rfl Dq) Az)
   (AE rfl (Ao (Ad He (AI AN (qv 1) A7) (Cb (qv 0))) (AE rfl Dq) Az))),?_⟩,(F.binds (by walk_at "bD2")),b,Ai⟩
 rintro _ _⟨s,n,r,x,y,rfl,hn,c,a,hp,rfl⟩;show Ws [.is (Ci s A3),.is (.tup [.int n,.str r,x,y])] _ _ _;refine B4 (Ey (Jb (Gw ?_)))
 walk_at "ww"
 refine Lj (rg (by omega)) ?_;refine Fs (AL rfl ⟨_,_,rfl,by decide +kernel,By ⟨_,⟨s,rfl,hp,rfl⟩,?_⟩⟩);rintro _ rfl;refine⟨_,rfl,_,rfl,BU (by rw[rg (by omega)];decide) ?_⟩;have C:Mc K EF ([("none":Str), "ahead","all"].map .str):=Mc.of J4 rfl rfl;refine KG (x4 (neg:=true) C (DD (Dg rfl ⟨rfl,C4 ⟨_,_,rfl,rfl,r,rfl,_,rfl,BU (by rw[rg (show r∈[("none":Str), "ahead","all"]from a)];decide) (Cv ?_)⟩⟩)));refine Ey (KG (TY (DD (Dg rfl ⟨rfl,C4 ⟨_,_,rfl,rfl,_,rfl,?_⟩⟩))));refine Fn (AL rfl ⟨A3,yN,_,3,_,rfl,Ai,FN,by decide +kernel,rfl,_,rfl,_,rfl,BU ?_ (Cv ⟨_,rfl,rfl⟩)⟩);rw[c];exact λz=>by have:=uq z;omega
def ZDN:Ae ["self","number"] ["self","number"] (AM Zy):=by walk_at "z1"
def qr(F:AF K "row_at" "Yard.row_at" Zy f fd)(d:Meth K A3 "row_at" f):
  Bc P w K mg Zv A3 "row_at" 2 ["self","number"] (Al (Us A3)):=by
 refine⟨f,fd,Fz.Hc (k:=1) F ZDN (by rintro _ _⟨s,ps,n,rfl,_,_,_,_,rfl⟩;rfl) λg=>⟨_,(AH rfl (Ao (Ad CL (qv 1) (Po Gk g (by decide) (qv 0))) (AE rfl (AZ (Cb (qv 0)))) Az)
   (AE rfl (AZ (AI AN (AI Dk (Cb (qv 0)) (Ay Mf (qv 1) (Cb (qv 0)))) A7)))),?_⟩,(F.binds (by walk_at "bD2")),d,Ai⟩
 rintro _ _⟨s,ps,n,rfl,a,b,hn,l,rfl⟩;show Ws [.is (Ci s A3),.is (.int n)] _ _ _;refine B4 (Ey (KG (eX (AL rfl (Fs (AL rfl ⟨_,_,rfl,by decide +kernel,By ⟨_,⟨s,rfl,by rw[a,Im];omega,rfl⟩,?_⟩⟩))))));rintro _ rfl;have i:(s.fg:Int)+s.pa.length=ps.length:=by rw[b,a,Im];simp
 rw[i];refine⟨rfl,_,rfl,BA (λc=>?_) (λc=>Cv ?_)⟩
 .have e:n=ps.length:=by have:=uq c;omega
  subst e;rw[NA];exact G0 (Fn (AL rfl ⟨A3,yN,_,0,_,rfl,Ai,CA,by decide +kernel,rfl,rfl⟩))
 .have j:n<ps.length:=by
   rcases Nat.lt_or_eq_of_le hn with h|h
   .exact h
   .exact absurd (rg (by rw[h])) c
  have e:=B7 j;rw[Ob e];refine G0 (DD (Bl (gb (Bl (Fn (AL rfl ⟨A3,yN,_,2,_,rfl,Ai,FJ,by decide +kernel,rfl,_,.inl ⟨rfl,rfl,?_⟩⟩))))));refine Ru (AL rfl ⟨_,rfl,Fn (AL rfl ⟨A3,yN,_,3,_,rfl,Ai,FN,by decide +kernel,rfl,_,rfl,_,JI ps[n].1 ps[n].2,rfl,?_,_,.inr ⟨rfl,rfl,C4 ⟨_,_,rfl,rfl,rfl⟩⟩⟩)⟩);rw[b,a];show L2.Be (Ir ps) ((n:Int) - ((0:Nat):Int))=_;rw[show(n:Int) - ((0:Nat):Int)=(n:Int) by simp];exact RN (by unfold Ir;rw[Am,e];rfl)
def zq:Ae ["row","gap"] ["row","gap"] (AM UH):=by walk_at "z1"
def ZEm(F:AF K "is_gap" "is_gap" UH f fd)(m:mg "is_gap"=some (.ref f)):
  A9 P w K mg Zv "is_gap" 1 ["row","gap"] (OY K):=by
 refine A9.mk F (F.binds (by walk_at "bD2")) m (F.BJ (k:=0) zq (λvs H Q E h=>?_) (λAY A outer s H vs Q E i h=>?_))
 .obtain⟨a,tp,ns,g,rfl,b,q⟩:=h;rfl
 obtain⟨a,tp,ns,g,rfl,b,q⟩:=h;refine⟨_,(AE rfl (AZ (gH FV FV A7 (qv 1) (B6 EZ Ar (A0 (qv 0) A5))))),?_⟩;have d:=Lw.DC ns;refine⟨_,rfl,_,_,rfl,rfl,_,rfl,?_⟩;refine BA (λc=>?_) (λc=>?_)
 .refine⟨_,rfl,a,_,rfl,b.or,_,_,rfl,rfl,?_⟩;rw[d];have e:JS ns.length g=decide (g<=(ns.length:Int)):=by unfold JS;rw[c];rfl
  show Q (.bl (decide (g<=(ns.length:Int)))) H;rw[<- e];exact q
 .have e:JS ns.length g=false:=by unfold JS;rw[Bool.eq_false_iff.mpr c];rfl
  show Q (.bl false) H;rw[<- e];exact q
def yW:Ae ["row","coming"] ["row","coming"] (AM TK):=by walk_at "z1"
def tj:=Sc [(".0",.local),("name",.local),("row",.free)]
def ZGE:Cr ["row","coming"] (AM TK) tj "name" ["row"] [0]:=by walk_at "z2"
def uR(F:AF K "is_coming" "is_coming" TK f fd)(m:mg "is_coming"=some (.ref f)):
  A9 P w K mg Zv "is_coming" 1 ["row","coming"] (Ry K):=by
 refine A9.mk F (F.binds (by walk_at "bD2")) m (F.BJ (k:=0) yW (λvs H Q E h=>?_) (λAY A outer s H vs Q E u h=>?_))
 .obtain⟨a,tp,ns,c,ss,rfl,o,d,C8,q⟩:=h;rfl
 obtain⟨a,tp,ns,c,ss,rfl,o,d,C8,q⟩:=h;refine⟨_,(AE rfl (AZ (Jc (E7 (NB u.G2) (Cy Kc CD (A0 (qv 1) A5)) (B6 (i6 rfl) Bm (A0 (Cy (gR rfl) NL (A0 (qv 1) A5)) A5))) (Kg (B6 (TU rfl) Hq (A0 (Fx rfl ZGE (DS (qv 1)) (λ_ _ _ _=>by exact Q8) (λ_ _ _ _=>by exact(E7 (show BB _ (compareOp .In) (Eo K false)from FK) (qv 1) (qv 0)))) A5)))))),?_⟩;have y:=Lw.DC ss;refine⟨_,rfl,c,_,rfl,.inr d,λl1 G5=>?_⟩;have n1:=Aa G5 (.lst (ss.map V.str));refine⟨_,rfl,c,true,ss,rfl,n1.Jf d,by omega,λl2 Cz=>?_⟩;have l:=Aa Cz (Mn P w l2 (λk'=>(dd ss).any (· == k')) (dd ss).length)
 refine⟨l2,_,_,rfl,AJ,by have:=YD ss;omega,λr ts Mw C B z=>?_⟩;have j:=Aa Mw (.lst (ts.map V.str));have b:=n1.trans (l.trans j);refine⟨l1,r,_,_,rfl,rfl,.inl ⟨AK.of (j _ _ (l _ _ AJ)),AK.of AJ⟩,EB ss,EB ts,_,rfl,?_⟩;have hu:Dp (ss.map V.str) (ts.map V.str)=Hr ss:=by rw[ZBr];unfold Hr;rw[decide_eq_decide];exact eC C B z
 show if Dp (ss.map V.str) (ts.map V.str)=true then _ else _
 rw[hu];refine BA (λg=>?_) (λg=>?_)
 .have n:=b.Jf d;refine⟨_,rfl,true,c,_,rfl,n,λacc Aq=>Jk (tp:=true) (λ_=>true) (λv=>.bl (DI v (ns.map V.str))) n Aq (by rw[y];exact small (by omega)) (λi v H' Q' _ _ h=>h H' (A8.refl _)) (λi v H' Q' t _ s4 h=>?_) (λH' s4 p=>?_)⟩
  .obtain⟨x,rfl,D⟩:=Jh t;exact⟨_,rfl,_,rfl,a,_,rfl,((b.trans s4).sq o).or,rfl,EB ns,h _ (A8.refl _)⟩
  .rw[ZFa]at p;refine⟨acc,_,rfl,AK.of p,?_⟩;rw[all_map];have e:(Hr ss && Ho ns ss)=Ho ns ss:=by rw[g];rfl
   show Q (.bl (Ho ns ss)) H';rw[<- e];exact q _ (b.trans s4)
 .have e:(Hr ss && Ho ns ss)=false:=by rw[Bool.eq_false_iff.mpr g];rfl
  rw[<- e];exact q _ b
def zX:Ae ["row","slip"] ["row","slip"] (AM Ui):=by walk_at "z1"
def ZBi(F:AF K "is_slip" "is_slip" Ui f fd)(m:mg "is_slip"=some (.ref f)):
  A9 P w K mg Zv "is_slip" 2 ["row","slip"] (Al VJ):=by
 refine Fz.hF (k:=1) F (by walk_at "bD2") m zX (by rintro _ _⟨ns,ts,g,rfl,_,_,_,_,rfl⟩;rfl) λa=>⟨_,(AE rfl (AZ (Jc (AS J1 a (A0 (qv 0) (A0 (AI AN (qv 1) A7) A5))) (Kg (AS MR a (A0 (qv 0) (A0 (AI AN (qv 1) A7) A5))))))),?_⟩
 rintro _ _⟨ns,ts,g,rfl,hg,up,sub,b,rfl⟩;show Ws [.is (.lst (ns.map .str)),.is (.tup [.int g,.tup (ts.map .str)])] _ _ _;refine G0 (Tz (cH (Q0 rfl ⟨ns,rfl,DD (Dg rfl ⟨rfl,C4 ⟨_,_,rfl,rfl,g,rfl,by omega,by omega,_,rfl,Lj rfl ?_⟩⟩)⟩)));exact ZEE (Q0 rfl ⟨ns,rfl,DD (Dg rfl ⟨rfl,C4 ⟨_,_,rfl,rfl,ts,rfl,up,sub,b,rfl⟩⟩)⟩)
def QB:Ae ["row","slip","gap","marks","behind","ahead"] ["row","slip"] (AM Q2):=by walk_at "z1"
def tX:=Sc [(".0",.local),("thing",.local),("marks",.free)]
def ZAa:Cr ["row","slip","gap","marks","behind","ahead"] (AM Q2) tX "thing" ["marks"] [3]:=by walk_at "z2"
def oo:=Sc [(".0",.local),("thing",.local),("marks",.free)]
def ZER:Cr ["row","slip","gap","marks","behind","ahead"] (AM Q2) oo "thing" ["marks"] [3]:=by walk_at "z2"
def pR(F:AF K "shown" "shown" Q2 f fd)(m:mg "shown"=some (.ref f)):
  A9 P w K mg Zv "shown" 1 ["row","slip"] (Al eM):=by
 refine Fz.hF (k:=0) F (by walk_at "bD2") m QB (by rintro _ _⟨tp,ns,g,ms,rfl,a,rfl⟩;rfl) λb=>⟨_,(AH rfl (Ax 2 QB.nd (AI AN (qv 1) A7))
   (AH rfl (Ax 3 QB.nd (AI AN (qv 1) A7))
   (AH rfl (QQ (i:=4) QB.nd rfl (Or.inl rfl) rfl ZAa (DS (DF Fz.Oh (qv 0) Dt (Cu (qv 2)))) (λ_ _ _ _=>by exact(Fh (Ad (show BB _ (compareOp .In) (Eo K false)from FK) (qv 1) (qv 0)))) (λ_ _ _ _=>by exact(qv 1)))
   (AH rfl (QQ (i:=5) QB.nd rfl (Or.inl rfl) rfl ZER (DS (DF Fz.Oh (qv 0) (Cu (qv 2)) Dt)) (λ_ _ _ _=>by exact(Fh (Ad (show BB _ (compareOp .NotIn) (Eo K true)from Q6) (qv 1) (qv 0)))) (λ_ _ _ _=>by exact(qv 1)))
   (AE rfl (AZ (Ay Hw (qv 4) (qv 5)))))))),?_⟩
 rintro _ _⟨tp,ns,g,ms,rfl,a,rfl⟩;show Ws [_,_,.any,.any,.any,.any] _ _ _
 walk_at "ww"
 refine Lb (Jg PV.str (λx=>decide (x∈ms)) PV.str ?_ str_inj)
 walk_at "ww"
 refine⟨Cc (Tu _ _ _) (by omega),λx hx=>by walk_at "ww"; rfl,λx hx _=>by walk_at "ww"; rfl,?_⟩
 walk_at "ww"
 refine Lb (Jg PV.str (λx=>!decide (x∈ms)) PV.str ?_ str_inj)
 walk_at "ww"
 refine⟨Cc (Tu _ _ _) (by omega),λx hx=>by walk_at "ww"; rfl,λx hx _=>by walk_at "ww"; rfl,?_⟩
 walk_at "ww"
 rw[kR,XB,bU,AU,AU];refine⟨?_,rfl⟩;have h:=kW ns g ms;unfold BV at h;rw[B2]at h;omega
def uV:Ae ["row","ticket"] ["row","ticket"] (AM WM):=by walk_at "z1"
def ZFi(F:AF K "loop_at" "loop_at" WM f fd)(m:mg "loop_at"=some (.ref f)):
  A9 P w K mg Zv "loop_at" 3 ["row","ticket"] (Al VF):=by
 refine Fz.hF (k:=2) F (by walk_at "bD2") m uV (by rintro _ _⟨n,a,ns,lo,rfl,_,_,_,rfl⟩;rfl) λb=>⟨_,(AH rfl (Ao (GH (DW (Ew (AS J1 b (A0 (qv 0) (A0 (AI AN (qv 1) A7) A5))))) (HR (DW (Ew (AS aV b (A0 (qv 0) (A0 (AI AN (qv 1) A7) A5))))))).pt (AE rfl Dq) Az)
   (AE rfl (AZ (Bn (A0 (AI AN (qv 1) A7) (A0 (AI AN (qv 1) A7) (A0 (Cy Io CC (A0 (B6 K0 Bm (A0 (AS Yg b (A0 (qv 0) (A0 (AI AN (qv 1) A7) A5))) A5)) A5)) A5))))))),?_⟩
 rintro _ _⟨n,a,ns,⟨r,g,cs⟩,rfl,c,gd,hs,rfl⟩;have l:=c.len;have hg:(g:Int)<=ns.length:=gd.g1;have j:=aB ns a cs;have i:(Ce (BV ns a cs)).length=(BV ns a cs).length:=RQ _;show Ws [.is (.lst (ns.map .str)),.is (.tup [.int n,.str r,.int g,.tup [.int a,.tup ((Ce (BV ns a cs)).map .str)]])] _ _ _;refine B4 (Ey (Jb (Gw (GP (cH (Q0 rfl ⟨ns,rfl,DD (Dg rfl ⟨rfl,C4 ⟨_,_,rfl,rfl,g,rfl,by omega,by omega,_,rfl,Dh ?_⟩⟩)⟩))))));refine Gw (GP (wp_call (Bq (AL rfl (Bq (DD (Dg rfl ⟨rfl,C4 ⟨_,_,rfl,rfl,By ⟨_,⟨ns,Ce (BV ns a cs),a,rfl,hs,Pt (Ov c.nd _ _),λx hx=>jv (K2.mp hx),by omega,rfl⟩,?_⟩⟩⟩)))))));rintro _ rfl;refine⟨true,rfl,Dh (Cv ?_)⟩
 walk_at "ww"
 refine Bl (EM (bN (K4 (Q0 rfl (Bq (DD (Dg rfl ⟨rfl,C4 ⟨_,_,rfl,rfl,By ⟨_,⟨false,ns,a,Ce (BV ns a cs),rfl,by omega,rfl⟩,?_⟩⟩⟩)))))));rintro _ rfl;have o:=aB ns a (Ce (BV ns a cs));refine⟨_,.inl ⟨rfl,_,rfl,by omega,λus h st=>?_⟩⟩;have d:=h.trans (pS c.nd a gd.sub gd.up);have e:us=cs:=Pj (Tw st (d.nodup_iff.mpr (Kz gd.up))) gd.up λk=>d.mem_iff;rw[e];exact⟨_,.inl ⟨rfl,MZ ⟨by show 3<=100000;decide,rfl⟩⟩⟩
def zf:Ae ["gap","at"] ["gap","at"] (AM Uc):=by walk_at "z1"
def ZAy(F:AF K "gap_behind_put" "gap_behind_put" Uc f fd)(m:mg "gap_behind_put"=some (.ref f)):
  A9 P w K mg Zv "gap_behind_put" 1 ["gap","at"] (gn):=by
 refine A9.mk F (F.binds (by walk_at "bD2")) m (F.BJ (k:=0) zf (λvs H Q E h=>?_) (λAY A outer s H vs Q E b h=>?_))
 .obtain⟨g,i,rfl,q⟩:=h;rfl
 obtain⟨g,i,rfl,q⟩:=h;refine⟨_,(AH rfl (Ao (Ad He (qv 1) (qv 0)) (AE rfl (AZ (Ay EL (qv 0) A7))) Az)
   (AE rfl (AZ (qv 0)))),?_⟩
 refine⟨_,rfl,_,rfl,_,_,rfl,rfl,_,rfl,?_⟩;refine BA (λc=>?_) (λc=>?_)
 .have a:(i:Int)<(g:Int):=uq c;have e:((Fo i g:Nat):Int)=(g:Int)+1:=by unfold Fo;rw[sZ (by omega)];omega
  rw[e]at q;exact⟨_,rfl,_,_,rfl,rfl,q⟩
 .have a:¬ (i:Int)<(g:Int):=λz=>c (rg z);have e:Fo i g=g:=by unfold Fo;rw[sN (by omega)]
  rw[e]at q;exact⟨_,rfl,q⟩
def zM:Ae ["gap","place"] ["gap","place"] (AM ZP):=by walk_at "z1"
def zh(F:AF K "gap_behind_take" "gap_behind_take" ZP f fd)(m:mg "gap_behind_take"=some (.ref f)):
  A9 P w K mg Zv "gap_behind_take" 1 ["gap","place"] (bJ):=by
 refine A9.mk F (F.binds (by walk_at "bD2")) m (F.BJ (k:=0) zM (λvs H Q E h=>?_) (λAY A outer s H vs Q E b h=>?_))
 .obtain⟨g,p,rfl,q⟩:=h;rfl
 obtain⟨g,p,rfl,q⟩:=h;refine⟨_,(AH rfl (Ao (Ad He (qv 1) (qv 0)) (AE rfl (AZ (Ay Mf (qv 0) A7))) Az)
   (AE rfl (AZ (qv 0)))),?_⟩
 refine⟨_,rfl,_,rfl,_,_,rfl,rfl,_,rfl,?_⟩;refine BA (λc=>?_) (λc=>?_)
 .have a:(p:Int)<(g:Int):=uq c;have e:((Em p g:Nat):Int)=(g:Int) - 1:=by unfold Em;rw[sZ (by omega)];omega
  rw[e]at q;exact⟨_,rfl,_,_,rfl,rfl,q⟩
 .have a:¬ (p:Int)<(g:Int):=λz=>c (rg z);have e:Em p g=g:=by unfold Em;rw[sN (by omega)]
  rw[e]at q;exact⟨_,rfl,q⟩
def yR:Ae ["row","name"] ["row","name"] (AM X4):=by walk_at "z1"
def ph(F:AF K "place_of" "place_of" X4 f fd)(m:mg "place_of"=some (.ref f)):
  A9 P w K mg Zv "place_of" 1 ["row","name"] (LZ):=by
 refine A9.mk F (F.binds (by walk_at "bD2")) m (F.BJ (k:=0) yR (λvs H Q E h=>?_) (λAY A outer s H vs Q E c h=>?_))
 .obtain⟨a,tp,ns,x,rfl,b,hx,q⟩:=h;rfl
 obtain⟨a,tp,ns,x,rfl,b,hx,q⟩:=h;refine⟨_,(AH rfl (Ao (Ad Q6 (qv 1) (qv 0)) (AE rfl Dq) Az)
   (AE rfl (AZ (ZB0 (G7 HC bC oQ WK (qv 0) (A0 (qv 1) A5)) (G7 PySem.F.plainAttrs_tuple ZId PySem.F.type_tuple_index qS (qv 0) (A0 (qv 1) A5)))))),?_⟩
 refine⟨_,rfl,_,rfl,a,_,rfl,(BN.sq (K:=K) b).or,rfl,EB ns,_,rfl,?_⟩;refine BU (by show ¬ (!DI (V.str x) (ns.map V.str))=true;rw[J8,rg hx];decide) ?_;cases tp with
 |false=>exact .inl ⟨_,rfl,.inl ⟨rfl,_,AK.of b⟩,_,rfl,a,ns,x,rfl,rfl,AK.of b,hx,q⟩
 |true=>exact .inr ⟨_,rfl,.inr (.inr (.inr (.inr ⟨rfl,_,b⟩))),_,rfl,a,ns,x,rfl,rfl,AD.of b,hx,q⟩
def wX:Ae ["row","gap","deed"] ["row","gap","deed"] (AM Va):=by walk_at "z1"
def ue(F:AF K "gap_led" "gap_led" Va f fd)(m:mg "gap_led"=some (.ref f)):
  A9 P w K mg Zv "gap_led" 3 ["row","gap","deed"] (dk):=by
 refine A9.mk F (F.binds (by walk_at "bD3")) m (F.BJ (k:=2) wX (λvs H Q E h=>?_) (λAY A outer s H vs Q E c h=>?_))
 .obtain⟨a,t,tp,ns,g,d,rfl,o,n,ok,q⟩:=h;rfl
 obtain⟨a,t,tp,ns,g,d,rfl,o,n,ok,q⟩:=h;refine⟨_,(AH rfl (Ao (Ad CL (AI AN (qv 2) A7) Ap) (AE rfl (AZ (AS RE c (A0 (qv 1) (A0 (AI AN (qv 2) A7) A5))))) Az)
   (AH rfl (Ao (Ad CL (AI AN (qv 2) A7) Ap) (AE rfl (AZ (AS TQ c (A0 (qv 1) (A0 (AS El c (A0 (qv 0) (A0 (AI AN (qv 2) A7) A5))) A5))))) Az)
   (AH rfl (Ao (Ad CL (AI AN (qv 2) A7) Ap) (AE rfl (AZ (AS RE c (A0 (AS TQ c (A0 (qv 1) (A0 (AS El c (A0 (qv 0) (A0 (AI AN (qv 2) A7) A5))) A5))) (A0 (AI AN (qv 2) A7) A5))))) Az)
   (AE rfl (AZ (qv 1)))))),?_⟩
 have b:=n;have a1:=o;refine⟨_,rfl,t,_,_,_,rfl,rfl,AD.of b,HD d,rfl,_,rfl,BA (λl=>?_) (λl=>?_)⟩
 .obtain⟨x,i,rfl⟩:=Vu l;exact⟨_,rfl,_,rfl,t,_,_,_,rfl,rfl,AD.of b,rfl,g,i,rfl,q⟩
 refine⟨_,rfl,t,_,_,_,rfl,rfl,AD.of b,HD d,rfl,_,rfl,BA (λj=>?_) (λj=>?_)⟩
 .obtain⟨x,rfl⟩:=XZ j;exact⟨_,rfl,_,rfl,_,rfl,t,_,_,_,rfl,rfl,AD.of b,rfl,a,tp,ns,x,rfl,a1,ok,g,_,rfl,q⟩
 refine⟨_,rfl,t,_,_,_,rfl,rfl,AD.of b,HD d,rfl,_,rfl,BA (λe=>?_) (λe=>?_)⟩
 .obtain⟨x,i,rfl⟩:=ZBv e;exact⟨_,rfl,_,rfl,_,rfl,t,_,_,_,rfl,rfl,AD.of b,rfl,a,tp,ns,x,rfl,a1,ok.1,g,_,rfl,_,rfl,t,_,_,_,rfl,rfl,AD.of b,rfl,_,i,rfl,q⟩
 obtain⟨lo,hi,rfl⟩:=r9 l j e;exact⟨_,rfl,q⟩
def vm:Ae ["coming","gone"] ["coming","gone"] (AM Qp):=by walk_at "z1"
def ZAz:=Sc [(".0",.local),("name",.local),("gone",.free)]
def uG:Cr ["coming","gone"] (AM Qp) ZAz "name" ["gone"] [1]:=by walk_at "z2"
def xO(F:AF K "coming_without" "coming_without" Qp f fd)(m:mg "coming_without"=some (.ref f)):
  A9 P w K mg Zv "coming_without" 1 ["coming","gone"] (Ub K):=by
 refine A9.mk F (F.binds (by walk_at "bD2")) m (F.BJ (k:=0) vm (λvs H Q E h=>?_) (λAY A outer s H vs Q E n h=>?_))
 .obtain⟨c,ss,x,rfl,d,j,q⟩:=h;rfl
 obtain⟨c,ss,x,rfl,d,j,q⟩:=h;refine⟨_,(AE rfl (AZ (Cy Io CC (A0 (Fx rfl uG (DS (qv 0)) (λ_ _ _ _=>by exact(Fh (Ad IP (qv 1) (qv 0)))) (λ_ _ _ _=>by exact(qv 1))) A5)))),?_⟩;have l:=Lw.DC ss;have g:CQ K true H c (ss.map V.str):=d;refine⟨_,rfl,true,c,_,rfl,g,λacc Aq=>Jk (I0 (.str x)) (λv=>v) g Aq (by rw[l];exact small (by omega)) (λi v H' Q' a s1 h=>?_) (λi v H' Q' a _ s1 h=>?_) (λH' s1 e=>?_)⟩
 .obtain⟨y,rfl,_⟩:=Jh a;exact⟨_,rfl,_,rfl,rfl,_,rfl,h _ (A8.refl _)⟩
 .exact⟨_,rfl,h _ (A8.refl _)⟩
 .rw[Pd]at e;refine⟨acc,_,rfl,.inl ⟨AK.of e,λt b=>?_⟩⟩;exact q t _ (A8.none s1 b) (s1.trans (Aa b _)) AJ
def rL:Ae ["loop","at"] ["loop","at"] (AM Zl):=by walk_at "z1"
def pO(F:AF K "joins" "joins" Zl f fd)(m:mg "joins"=some (.ref f)):
  A9 P w K mg Zv "joins" 1 ["loop","at"] (kE):=by
 refine A9.mk F (F.binds (by walk_at "bD2")) m (F.BJ (k:=0) rL (λvs H Q E h=>?_) (λAY A outer s H vs Q E j h=>?_))
 .obtain⟨t,r,g,i,c,rfl,a,q⟩:=h;rfl
 obtain⟨t,r,g,i,c,rfl,a,q⟩:=h;refine⟨_,(AE rfl (AZ (ZAG (E7 CL (AI AN (qv 0) A7) Ap) (Kg (Jc (E7 CL (AI AN (qv 0) A7) Ap) (Kg (E7 KY (qv 1) (AI AN (qv 0) A7)))))))),?_⟩;refine⟨_,rfl,t,_,_,_,rfl,rfl,AD.of a,rfl,rfl,_,rfl,?_⟩;refine BA (λb=>?_) (λb=>?_)
 .have e:Di r g i=true:=by unfold Di;rw[sZ b]
  rw[e]at q;exact q
 .refine⟨_,rfl,t,_,_,_,rfl,rfl,AD.of a,rfl,rfl,_,rfl,?_⟩;refine BA (λd=>?_) (λd=>?_)
  .have e:Di r g i=decide ((g:Int)<=(i:Int)):=by unfold Di;rw[sN b,sZ d]
   rw[e]at q;exact⟨_,rfl,_,rfl,t,_,_,_,rfl,rfl,AD.of a,rfl,_,_,rfl,rfl,q⟩
  .have e:Di r g i=false:=by unfold Di;rw[sN b,sN d]
   rw[e]at q;exact q
def yS:Ae ["loop","deed"] ["loop","deed"] (AM XG):=by walk_at "z1"
def xr(F:AF K "coming_behind" "coming_behind" XG f fd)(m:mg "coming_behind"=some (.ref f)):
  A9 P w K mg Zv "coming_behind" 2 ["loop","deed"] (fT):=by
 refine A9.mk F (F.binds (by walk_at "bD2")) m (F.BJ (k:=1) yS (λvs H Q E h=>?_) (λAY A outer s H vs Q E v h=>?_))
 .obtain⟨tl,t,c,r,g,ss,d,rfl,⟨b,j⟩,a,z,up,hx,q⟩:=h;rfl
 obtain⟨tl,t,c,r,g,ss,d,rfl,⟨b,j⟩,a,z,up,hx,q⟩:=h;refine⟨_,(AH rfl (Ao (Ad CL (AI AN (qv 1) A7) Ap) (AE rfl (AZ (AS NM v (A0 (AI AN (qv 0) A7) (A0 (AI AN (qv 1) A7) A5))))) Az)
   (AH rfl (Ao (Ke (Ad CL (AI AN (qv 1) A7) Ap) (JY (Ew (AS Xz v (A0 (qv 0) (A0 (AI AN (qv 1) A7) A5)))))).pt (AE rfl (AZ (Cy Io CC (A0 (B6 K0 Bm (A0 (Ay lC (AI AN (qv 0) A7) (Bn (A0 (AI AN (qv 1) A7) A5))) A5)) A5)))) Az)
   (AE rfl (AZ (AI AN (qv 0) A7))))),?_⟩
 refine⟨_,rfl,t,_,_,_,rfl,rfl,AD.of a,HD d,rfl,_,rfl,BA (λo=>?_) (λo=>?_)⟩
 .obtain⟨x,rfl⟩:=XZ o;exact⟨_,rfl,tl,_,_,_,rfl,rfl,AD.of b,rfl,_,rfl,t,_,_,_,rfl,rfl,AD.of a,rfl,c,ss,x,rfl,AD.of j,by omega,λl H' B s e=>q l H' (.inl B) s e⟩
 refine⟨_,rfl,t,_,_,_,rfl,rfl,AD.of a,HD d,rfl,_,rfl,BA (λp=>?_) (λp=>Dh ⟨_,rfl,tl,_,_,_,rfl,rfl,AD.of b,rfl,q c _ (.inr rfl) (A8.refl _) (by rw[ZHa p o];exact j)⟩)⟩;obtain⟨x,i,rfl⟩:=Vu p;refine⟨_,rfl,_,rfl,t,_,_,_,rfl,rfl,AD.of a,rfl,tl,r,g,i,c,rfl,b,_,rfl,?_⟩;refine BA (λn=>?_) (λn=>⟨_,rfl,tl,_,_,_,rfl,rfl,AD.of b,rfl,q c _ (.inr rfl) (A8.refl _) (by rw[Z0 (Bool.eq_false_iff.mpr n)];exact j)⟩);refine⟨_,rfl,tl,_,_,_,rfl,rfl,AD.of b,rfl,_,rfl,t,_,_,_,rfl,rfl,AD.of a,rfl,(by show 1<=sizeLine;decide),λt1 Oo=>?_⟩;have n1:=Aa Oo (.tup [.str x]);refine⟨c,t1,_,_,rfl,rfl,AD.of (n1 _ _ j),AD.of AJ,by simp,small (by rw[Lw.DC];simp;omega),λp2 H2 s2 C=>?_⟩;have G:AD K H2 p2 ((ss++[x]).map V.str):=by rw[Bx];exact C
 refine⟨p2,true,ss++[x],rfl,G,by rw[B2];simp;omega,λy ts Mw hp hs=>?_⟩;have u:=Aa Mw (.lst (ts.map V.str));refine⟨y,_,rfl,.inl ⟨AK.of AJ,λD Sa=>?_⟩⟩;exact q D _ (.inl (A8.none (n1.trans (s2.trans u)) Sa)) (n1.trans (s2.trans (u.trans (Aa Sa _)))) (by rw[AJ,Z9 hp hs up (hx x i rfl),Xt n])
def ZBB:Ae ["row","loop","deed"] ["row","loop","deed"] (AM Uo):=by walk_at "z1"
def pe(F:AF K "loop_led" "loop_led" Uo f fd)(m:mg "loop_led"=some (.ref f)):
  A9 P w K mg Zv "loop_led" 4 ["row","loop","deed"] (Sd):=by
 refine A9.mk F (F.binds (by walk_at "bD3")) m (F.BJ (k:=3) ZBB (λvs H Q E h=>?_) (λAY A outer s H vs Q E l h=>?_))
 .obtain⟨a,tl,t,c,tp,ns,r,g,ss,d,rfl,o,⟨Jv,j⟩,b,ok,gd,v,q⟩:=h;rfl
 obtain⟨a,tl,t,c,tp,ns,r,g,ss,d,rfl,o,⟨Jv,j⟩,b,ok,gd,v,q⟩:=h;refine⟨_,(AE rfl (AZ (Bn (A0 (AI AN (qv 1) A7) (A0 (AS WA l (A0 (qv 0) (A0 (AI AN (qv 1) A7) (A0 (qv 2) A5)))) (A0 (AS Wj l (A0 (qv 1) (A0 (qv 2) A5))) A5)))))),?_⟩;have n:=gd.len;have g1:=gd.g1;refine⟨_,rfl,tl,_,_,_,rfl,rfl,AD.of Jv,rfl,_,rfl,_,rfl,tl,_,_,_,rfl,rfl,AD.of Jv,rfl,_,rfl,a,t,tp,ns,g,d,rfl,o,b,ok,?_⟩;refine⟨_,rfl,_,rfl,tl,t,c,r,g,ss,d,rfl,⟨Jv,j⟩,b,by omega,gd.up,YN gd ok,λp H3 f3 e x=>?_⟩;refine⟨(by show 3<=sizeLine;decide),λu II=>?_⟩;have i:=Aa II (.tup [.str r,.int (d.gap ns g:Nat),.ref p]);exact q u p _ (A8.none e II) f3 (e.trans i) ⟨AJ,i _ _ x⟩
def Ql:Ae ["self","ticket","loop","moment"] ["self","ticket"] (AM Ua):=by walk_at "z1"
def ZA2(F:AF K "led_on" "Yard.led_on" Ua f fd)(i:Meth K A3 "led_on" f):
  Bc P w K mg Zv A3 "led_on" 9 ["self","ticket"] (Al (UJ A3)):=by
 refine⟨f,fd,Fz.Hc (k:=8) F Ql (by rintro _ _⟨m,s,ps,n,a,lo,rfl,_,rfl⟩;rfl) λb=>⟨_,(AH rfl (D5 (Dy Xa b (by decide) (qv 0) (A0 (qv 1) A5)))
   (AH rfl (Ax 2 Ql.nd (AS WE b (A0 (Dy YG b (by decide) (qv 0) (A0 (AI AN (qv 1) A7) A5)) (A0 (qv 1) A5))))
   (AH rfl (CS (Fy FE rfl (DS (DF J9 (Cb (qv 0)) (Cu (Ay Mf (AI AN (qv 1) A7) (Cb (qv 0)))) Dt)) (D0 3 Ql.nd) (AE rfl (Ax 2 Ql.nd (AS N1 b (A0 (AI AN (qv 3) A7) (A0 (qv 2) (A0 (AI AN (qv 3) A7) A5))))))))
   (AE rfl (AZ (qv 2)))))),?_⟩,(F.binds (by walk_at "bD2")),i,Ai⟩
 rintro _ _⟨m,s,ps,n,a,lo,rfl,T,rfl⟩;have u:s.pa.length=ps.length:=by rw[T.pa,Im]
 have o:EY 40 s.row:=⟨Cc T.ok.row.len T.ok.m4,T.ok.row.nm,T.ok.row.nd⟩;have l:=T.len;have hn:=T.hn;show Ws [.is (Ci s A3),.is (Fc n a (rowAt ps s.row n) lo),.any,.any] _ _ _;refine B4 (Pw (Fs (AL rfl ⟨_,_,rfl,by decide +kernel,Bq (AL rfl (By ⟨_,⟨s,n,lo.r,_,_,rfl,by omega,T.fg,T.gd.rule,by omega,rfl⟩,?_⟩))⟩)));rintro _ rfl;refine B4 (GD (wp_call (Bq (Fs (AL rfl ⟨_,_,rfl,by decide +kernel,Bq (DD (Dg rfl ⟨rfl,C4 ⟨_,_,rfl,rfl,By ⟨_,⟨s,ps,n,rfl,T.pa,T.fg,hn,l,rfl⟩,?_⟩⟩⟩))⟩)))));rintro _ rfl;refine Bq (AL rfl (By ⟨_,⟨n,a,rowAt ps s.row n,lo,rfl,T.ch.zT o n,T.gd,T.hs,rfl⟩,?_⟩));rintro _ rfl;show Ws [.is (Ci s A3),.is (Fc n a (rowAt ps s.row n) lo),.is lo.P,.any] _ _ _;refine B4 (Fm (Gu (λ_ j AA=>∃c:Slot,AA=[.is (Ci s A3),.is (Fc n a (rowAt ps s.row n) lo),.is (EI ps n lo j).P,c]) (Jz (HF (EM (mZ (Bl (Fn (AL rfl ⟨A3,yN,_,2,_,rfl,Ai,FJ,by decide +kernel,rfl,_,.inl ⟨rfl,rfl,?_⟩⟩)))))))));refine c7 (Ru (DD (Dg rfl ⟨rfl,C4 ⟨_,_,rfl,rfl,_,rfl,Fn (AL rfl ⟨A3,yN,_,3,_,rfl,Ai,FN,by decide +kernel,rfl,_,rfl,_,rfl,ki ?_⟩)⟩⟩)));have e0:(n:Int) - (s.fg:Int)=(n:Int):=by rw[T.fg];simp
 rw[e0,XB,T.pa];refine⟨_,.inl ⟨rfl,⟨_,rfl⟩,?_,?_⟩⟩
 .rintro j p AA hp⟨c,rfl⟩;rw[U6]at hp;unfold Ir at hp;rw[Am]at hp;obtain⟨q,eq,rfl⟩:=Option.map_eq_some_iff.mp hp;have t:=(List.getElem?_eq_some_iff.mp eq).1;have d:=Zq T.ch T.gd j (JU t);rw[Ob eq]at d;obtain⟨h,e⟩:=T.ch.ok q (DQ eq);refine IL ?_;show Ws [.is (Ci s A3),.is (Fc n a (rowAt ps s.row n) lo),.is (EI ps n lo j).P,.is (JI q.1 q.2)] _ _ _;refine GD (fS (Bl (DD (Dg rfl ⟨rfl,C4 ⟨_,_,rfl,rfl,_,.inl ⟨rfl,q.1,rfl,AL rfl ⟨(EI ps n lo j).r,(EI ps n lo j).g,(EI ps n lo j).cs,rfl,DD (Dg rfl ⟨rfl,C4 ⟨_,_,rfl,rfl,q.2,rfl,e,d,h.len,.is (JI q.1 q.2),?_⟩⟩)⟩⟩⟩⟩))));rw[show EI ps n lo (j+1)=Lp.led q.1 q.2 (EI ps n lo j)from by conv=>lhs;unfold EI;rw[eq]]
  rfl
 .rintro AA⟨c,rfl⟩;rw[Ct,Im];exact G0 (AL rfl rfl)
def mU:Ae ["row","coming","name"] ["row","coming"] (AM Xf):=by walk_at "z1"
def ZAU(F:AF K "check_coming" "check_coming" Xf f fd)(m:mg "check_coming"=some (.ref f)):
  A9 P w K mg Zv "check_coming" 2 ["row","coming"] (Al kZ):=by
 refine Fz.hF (k:=1) F (by walk_at "bD2") m mU (by rintro _ _⟨tp,BS,ns,cs,rfl,Eg,rfl⟩;rfl) λa=>⟨_,(AE rfl (Fy FE rfl (DS (qv 1)) (D0 2 mU.nd) (AE rfl (D5 (AS El a (A0 (qv 0) (A0 (qv 2) A5))))))),?_⟩
 rintro _ _⟨tp,BS,ns,cs,rfl,Eg,rfl⟩;show Ws [_,_,.any] _ _ _;refine Gu (λ_ i AA=>∃s2:Slot,AA=[.sq tp (ns.map .str),.sq BS (cs.map .str),s2]) ?_
 walk_at "ww"
 refine⟨⟨_,rfl⟩,?_,λ_ _=>⟨_,rfl,rfl⟩⟩;rintro i p AA hp⟨s2,rfl⟩;rw[Am]at hp;cases hx:cs[i]? with
 |none=>rw[hx]at hp;cases hp
 |some x=>
  rw[hx]at hp;cases hp;refine IL (Pw ?_)
  walk_at "ww"
  exact⟨Eg x (DQ hx),_,rfl⟩
def Vs:Ae ["row","gap","coming","behind","ahead"] ["row","gap","coming"] (AM O5):=by walk_at "z1"
def zA:=Sc [(".0",.local),("thing",.local),("coming",.free)]
def z7:Cr ["row","gap","coming","behind","ahead"] (AM O5) zA "thing" ["coming"] [2]:=by walk_at "z2"
def ZE4:=Sc [(".0",.local),("thing",.local),("coming",.free)]
def ZAL:Cr ["row","gap","coming","behind","ahead"] (AM O5) ZE4 "thing" ["coming"] [2]:=by walk_at "z2"
def zU(F:AF K "marks_at" "marks_at" O5 f fd)(m:mg "marks_at"=some (.ref f)):
  A9 P w K mg Zv "marks_at" 1 ["row","gap","coming"] (Al ji):=by
 refine Fz.hF (k:=0) F (by walk_at "bD3") m Vs (by rintro _ _⟨tp,BS,ns,cs,g,rfl,b,rfl⟩;rfl) λc=>⟨_,(AH rfl (QQ (i:=3) Vs.nd rfl (Or.inl rfl) rfl z7 (DS (DF Fz.Oh (qv 0) Dt (Cu (qv 1)))) (λ_ _ _ _=>by exact(Fh (Ad (show BB _ (compareOp .In) (Eo K false)from FK) (qv 1) (qv 0)))) (λ_ _ _ _=>by exact(qv 1)))
   (AH rfl (QQ (i:=4) Vs.nd rfl (Or.inl rfl) rfl ZAL (DS (DF Fz.Oh (qv 0) (Cu (qv 1)) Dt)) (λ_ _ _ _=>by exact(Fh (Ad (show BB _ (compareOp .NotIn) (Eo K true)from Q6) (qv 1) (qv 0)))) (λ_ _ _ _=>by exact(qv 1)))
   (AE rfl (AZ (Cy Io CC (A0 (B6 K0 Bm (A0 (Ay Hw (qv 3) (qv 4)) A5)) A5)))))),?_⟩
 rintro _ _⟨tp,BS,ns,cs,g,rfl,b,rfl⟩;show Ws [_,_,_,.any,.any] _ _ _
 walk_at "ww"
 refine Lb (Jg PV.str (λx=>decide (x∈cs)) PV.str ?_ str_inj)
 walk_at "ww"
 refine⟨Cc (Tu _ _ _) (by omega),λx hx=>by walk_at "ww"; rfl,λx hx _=>by walk_at "ww"; rfl,?_⟩
 walk_at "ww"
 refine Lb (Jg PV.str (λx=>!decide (x∈cs)) PV.str ?_ str_inj)
 walk_at "ww"
 refine⟨Cc (Tu _ _ _) (by omega),λx hx=>by walk_at "ww"; rfl,λx hx _=>by walk_at "ww"; rfl,?_⟩
 walk_at "ww"
 rw[kR,XB,AU,AU];have h:=kW ns g cs;unfold BV at h;rw[B2]at h;refine⟨by omega,?_⟩
 walk_at "ww"
 refine⟨by rw[B2];omega,λts a st=>?_⟩
 walk_at "ww"
 exact⟨ts,a,st,rfl⟩
def LH:Ae ["row","coming","gap","unpaired","pairs","place","thing"] ["row","coming"] (AM Yz):=by walk_at "z1"
def qy(F:AF K "least_slip" "least_slip" Yz f fd)(m:mg "least_slip"=some (.ref f)):
  A9 P w K mg Zv "least_slip" 3 ["row","coming"] (Al dG):=by
 refine Fz.hF (k:=2) F (by walk_at "bD2") m LH (by rintro _ _⟨BS,ns,cs,rfl,q,nd,Eg,rfl⟩;rfl) λo=>⟨_,(AH rfl (D5 (AS Vn o (A0 (qv 0) (A0 (qv 1) A5))))
   (AH rfl (Ax 2 LH.nd A7)
   (AH rfl (Ax 3 LH.nd (FA A5))
   (AH rfl (Ax 4 LH.nd (FA A5))
   (AH rfl (CS (Fy FE rfl (mx rfl MP (A0 (qv 0) A5)) (Pn rfl (Gm (D0 5 LH.nd) (Gm (D0 6 LH.nd) O2))) (AE rfl (Ao (Ad FK (qv 6) (qv 1)) (AE rfl (D5 (G7 HC MC MD K8 (qv 3) (A0 (qv 6) A5)))) (AE rfl (Ao (Ad (NB o.G2) (qv 3) (FA A5)) (AE rfl (Ax 2 LH.nd (Ay EL (qv 5) A7))) (AE rfl (D5 (G7 HC MC MD K8 (qv 4) (A0 (Bn (A0 (uC HC PySem.F.slot_list_pop PySem.F.type_list_pop yO (qv 3)) (A0 (qv 6) A5))) A5))))))))))
   (AE rfl (AZ (Bn (A0 (Bn (A0 (qv 2) (A0 (AS VZ o (A0 (qv 0) (A0 (qv 2) (A0 (qv 1) A5)))) A5))) (A0 (qv 4) A5)))))))))),?_⟩
 rintro _ _⟨BS,ns,cs,rfl,q,nd,Eg,rfl⟩;show Ws [_,_,.any,.any,.any,.any,.any] _ _ _;refine B4 (Pw (wp_call (K4 ?_)))
 walk_at "ww"
 refine K4 ?_
 walk_at "ww"
 refine By ⟨_,⟨_,_,_,_,rfl,Eg,rfl⟩,λ_ _=>?_⟩
 walk_at "ww"
 refine⟨by simp,?_⟩
 walk_at "ww"
 refine⟨by simp,?_⟩
 walk_at "ww"
 refine Gu (λ_ i AA=>∃e b:Slot,AA=[.sq false (ns.map .str),.sq BS (cs.map .str),.is (.int ((gr cs (ns.take i)).g:Nat)),.own ((gr cs (ns.take i)).u.map .str),.own ((gr cs (ns.take i)).ps.map ZR),e,b]) (lx (Yl rfl ⟨rfl,?_⟩));refine⟨⟨_,_,rfl⟩,?_,?_⟩
 .rintro i p AA hp⟨e,b,rfl⟩;obtain⟨y,l,rfl⟩:=lg hp;have hi:i<ns.length:=by have:=(List.getElem?_eq_some_iff.mp l).1;simpa using this
  have t:y=.str (ns.getD i ""):=by
   rw[Am,B7 hi]at l;rw[ES,B7 hi];exact(BI l).symm
  subst t;have I:=Vh cs nd i (by omega);rw[YT hi,ee];generalize ns.getD i ""=x;generalize hs:gr cs (ns.take i)=s at I;have hn:=I.hn;rw[Bi]at hn;have l1:=I.QL;have l2:cC cs (ns.take i)<=ns.length:=Cc (HB _ _) (by rw[Bi];omega);refine fM ⟨_,_,rfl,?_⟩
  walk_at "ww"
  refine BA (λc=>?_) (λc=>?_)
  .have a:x∈cs:=uq c;rw[show LY cs s x=⟨s.n+1,s.g,s.u++[x],s.ps⟩from sZ a]
   walk_at "ww"
   exact⟨by rw[AU];omega,_,_,by rw[Bx];rfl⟩
  have a:x∉cs:=λh=>c (rg h)
  walk_at "ww"
  refine⟨by simp,?_⟩
  walk_at "ww"
  refine BA (λd=>?_) (λd=>?_)
  .have d':s.u=[]:=uq d;rw[show LY cs s x=⟨s.n+1,s.n+1,s.u,s.ps⟩from(sN a).trans (sZ d')]
   walk_at "ww"
   exact⟨_,_,by
    show _=[_,_,Slot.is (.int ((s.n+1:Nat):Int)),_,_,_,_];rw[show((s.n+1:Nat):Int)=(i:Int)+1 by omega];rfl⟩
  .have d':s.u≠[]:=λh=>d (rg h);rw[show LY cs s x=⟨s.n+1,s.g,s.u.dropLast,s.ps++[(s.u.getLastD "", x)]⟩from(sN a).trans (sN d')];refine ZCF (i:=4) (j:=3) rfl rfl (by decide) (ZFT d') (AL rfl ⟨by rw[AU];omega,_,_,by rw[sV,Bx];rfl⟩)
 .rw[Ro,AU];rintro AA⟨e,b,rfl⟩;rw[IU];refine Si 4 rfl ?_;refine G0 (KO (Iz (KO ?_)))
  walk_at "ww"
  refine wp_call (K4 ?_)
  walk_at "ww"
  refine Bq ?_
  walk_at "ww"
  refine K4 ?_
  walk_at "ww"
  refine By ⟨_,⟨_,_,_,_,_,rfl,q,rfl⟩,?_⟩;rintro _⟨ts,r,st,rfl⟩
  walk_at "ww"
  refine⟨by simp,?_⟩
  walk_at "ww"
  exact⟨by simp,ts,r,st,rfl⟩
def um:Ae ["self","loop"] ["self","loop"] (AM Zr):=by walk_at "z1"
def vP(F:AF K "ticket_now" "Yard.ticket_now" Zr f fd)(b:Meth K A3 "ticket_now" f):
  Bc P w K mg Zv A3 "ticket_now" 4 ["self","loop"] (Al (QD A3)):=by
 refine⟨f,fd,Fz.Hc (k:=3) F um (by rintro _ _⟨m,s,lo,rfl,_,_,_,rfl⟩;rfl) λa=>⟨_,(AE rfl (AZ (Bn (A0 (Po Gk a (by decide) (qv 0)) (A0 (AI AN (qv 1) A7) (A0 (AI AN (qv 1) A7) (A0 (AI AN (AS Vk a (A0 (Cb (qv 0)) (A0 (AI AN (qv 1) A7) A5))) A7) A5))))))),?_⟩,(F.binds (by walk_at "bD2")),b,Ai⟩
 rintro _ _⟨m,s,⟨r,g,cs⟩,rfl,ok,gd,hp,rfl⟩;have a:=ok.row.len;have d:=ok.m4;show Ws [.is (Ci s A3),.is (.tup [.str r,.int g,.tup (cs.map .str)])] _ _ _;refine G0 (KO (Iz (Fs (AL rfl ⟨_,_,rfl,by decide +kernel,By ⟨_,⟨s,rfl,hp,rfl⟩,?_⟩⟩))));rintro _ rfl
 walk_at "ww"
 refine Bl (wp_call (K4 (Bl (Fn (AL rfl ⟨A3,yN,_,0,_,rfl,Ai,CA,by decide +kernel,rfl,_,.inl ⟨rfl,?_⟩⟩)))));refine K4 (Bl ?_)
 walk_at "ww"
 refine By ⟨_,⟨true,s.row,cs,rfl,by omega,ok.row.nd,gd.sub,rfl⟩,?_⟩;intro q c;rw[pT ok.row.nd c];refine⟨_,.inr ⟨rfl,rfl,C4 ⟨_,_,rfl,rfl,MZ ⟨by show 4<=100000;decide,rfl⟩⟩⟩⟩
def zc:Ae ["row","thing"] ["row","thing"] (AM ZF):=by walk_at "z1"
def ZC0(F:AF K "is_loop" "is_loop" ZF f fd)(m:mg "is_loop"=some (.ref f)):
  A9 P w K mg Zv "is_loop" 2 ["row","thing"] (dS K):=by
 refine A9.mk F (F.binds (by walk_at "bD2")) m (F.BJ (k:=1) zc (λvs H Q E h=>?_) (λAY A outer s H vs Q E l h=>?_))
 .obtain⟨a,tp,ns,t,r,g,ss,rfl,i,⟨c,b,n⟩,C8,q⟩:=h;rfl
 obtain⟨a,tp,ns,t,r,g,ss,rfl,i,⟨c,b,n⟩,C8,q⟩:=h;refine⟨_,(AE rfl (AZ (Jc (E7 FK (AI AN (qv 1) A7) (Js (v:=.ref EF) (by rfl) JR rfl)) (Jc (AS J1 l (A0 (qv 0) (A0 (AI AN (qv 1) A7) A5))) (Kg (AS MR l (A0 (qv 0) (A0 (AI AN (qv 1) A7) A5)))))))),?_⟩;refine⟨_,rfl,t,_,_,_,rfl,rfl,b,rfl,EF,_,rfl,.inr (J4 H),rfl,rfl,_,rfl,?_⟩;have o:DI (.str r) (Cn.map V.str)=decide (r∈Cn):=J8 r Cn;show if DI (.str r) (Cn.map V.str)=true then _ else _
 rw[o];refine BA (λd=>?_) (λd=>?_)
 .refine⟨_,rfl,_,rfl,t,_,_,_,rfl,rfl,b,rfl,a,tp,ns,g,rfl,i,_,rfl,?_⟩;refine BA (λj=>?_) (λj=>?_)
  .refine⟨_,rfl,_,rfl,t,_,_,_,rfl,rfl,b,rfl,a,tp,ns,c,ss,rfl,i,n,C8,λH' s'=>?_⟩;have e:Fp ns r g ss=(Hr ss && Ho ns ss):=by unfold Fp;rw[d,j];rfl
   rw[<- e];exact q _ s'
  .have e:Fp ns r g ss=false:=by unfold Fp;rw[d,Bool.eq_false_iff.mpr j];rfl
   rw[<- e];exact q _ (A8.refl _)
 .have e:Fp ns r g ss=false:=by unfold Fp;rw[Bool.eq_false_iff.mpr d];rfl
  rw[<- e];exact q _ (A8.refl _)
def wH:Ae ["row","loop"] ["row","loop"] (AM Xk):=by walk_at "z1"
def pk(F:AF K "check_loop" "check_loop" Xk f fd)(m:mg "check_loop"=some (.ref f)):
  A9 P w K mg Zv "check_loop" 3 ["row","loop"] (jM K):=by
 refine A9.mk F (F.binds (by walk_at "bD2")) m (F.BJ (k:=2) wH (λvs H Q E h=>?_) (λAY A outer s H vs Q E d h=>?_))
 .obtain⟨a,tp,ns,t,r,g,ss,rfl,b,c,C8,ok,q⟩:=h;rfl
 obtain⟨a,tp,ns,t,r,g,ss,rfl,b,c,C8,ok,q⟩:=h;refine⟨_,(AE rfl (Ao (DW (Ew (AS ZI d (A0 (qv 0) (A0 (qv 1) A5))))) (AE rfl Dq) Az)),?_⟩;refine⟨_,rfl,_,rfl,a,tp,ns,t,r,g,ss,rfl,b,c,C8,λH' s1=>⟨_,rfl,?_⟩⟩;refine BU (by rw[ok];decide) ?_;exact q _ s1
def v8:Ae ["things","loop"] ["things","loop"] (AM Rz):=by walk_at "z1"
def yi:=Sc [(".0",.local),("name",.local),("loop",.free)]
def ZDp:Cr ["things","loop"] (AM Rz) yi "name" ["loop"] [1]:=by walk_at "z2"
def ZFW(F:AF K "things_to_come" "things_to_come" Rz f fd)(m:mg "things_to_come"=some (.ref f)):
  A9 P w K mg Zv "things_to_come" 1 ["things","loop"] (gY K):=by
 refine A9.mk F (F.binds (by walk_at "bD2")) m (F.BJ (k:=0) v8 (λvs H Q E h=>?_) (λAY A outer s H vs Q E p h=>?_))
 .obtain⟨a,tp,ns,t,r,g,ss,rfl,b,⟨c,e,j⟩,n,q⟩:=h;rfl
 obtain⟨a,tp,ns,t,r,g,ss,rfl,b,⟨c,e,j⟩,n,q⟩:=h;refine⟨_,(AE rfl (AZ (Fx rfl ZDp (DS (qv 0)) (λ_ _ _ _=>by exact(Fh (Ad (show BB _ (compareOp .In) (Eo K false)from FK) (qv 1) (AI (show FU _ (KQ K)from AN) (qv 0) A7)))) (λ_ _ _ _=>by exact(qv 1))))),?_⟩;have o:=Lw.DC ns;refine⟨_,rfl,tp,a,_,rfl,b,λacc Aq=>Jk (λv=>DI v (ss.map V.str)) (λv=>v) b Aq (by rw[o];exact small (by omega)) (λi v H' Q' d s1 h=>?_) (λi v H' Q' d _ s1 h=>?_) (λH' s1 l=>?_)⟩
 .obtain⟨x,rfl,_⟩:=Jh d;exact⟨_,rfl,_,rfl,t,_,_,_,rfl,rfl,s1.Jf e,rfl,c,_,rfl,.inr (s1.Jf j),rfl,EB ss,_,rfl,h _ (A8.refl _)⟩
 .exact⟨_,rfl,h _ (A8.refl _)⟩
 .rw[ma]at l;exact q acc H' Aq s1 l
def kj:Ae ["row","loop","gap"] ["row","loop"] (AM ZA):=by walk_at "z1"
def ZCR(F:AF K "rest" "rest" ZA f fd)(m:mg "rest"=some (.ref f)):
  A9 P w K mg Zv "rest" 4 ["row","loop"] (cQ K):=by
 refine A9.mk F (F.binds (by walk_at "bD2")) m (F.BJ (k:=3) kj (λvs H Q E h=>?_) (λAY A outer s H vs Q E e h=>?_))
 .obtain⟨a,tp,ns,t,r,g,ss,rfl,d,b,C8,ok,G,q⟩:=h;rfl
 obtain⟨a,tp,ns,t,r,g,ss,rfl,d,b,C8,ok,G,q⟩:=h;refine⟨_,(AH rfl (D5 (AS X3 e (A0 (qv 0) (A0 (qv 1) A5))))
   (AH rfl (Ax 2 kj.nd (AI AN (qv 1) A7))
   (AE rfl (AZ (Ay Hw (AS Qo e (A0 (DF LG (qv 0) (Cu (qv 2)) Dt) (A0 (qv 1) A5))) (AS Qo e (A0 (DF LG (qv 0) Dt (Cu (qv 2))) (A0 (qv 1) A5)))))))),?_⟩
 have O:=Lw.DC ns;refine⟨_,rfl,_,rfl,a,tp,ns,t,r,g,ss,rfl,BN.sq d,b,C8,ok,λH1 s1=>?_⟩;obtain⟨c,I,R⟩:=id b;have N:=s1.Jf I;refine⟨_,rfl,t,_,_,_,rfl,rfl,N,rfl,?_⟩;have M:=s1 _ _ d;refine⟨_,rfl,_,rfl,_,rfl,a,tp,_,rfl,BN.sq M,λp2 H2 s2 p=>?_⟩;rw[OF,<- Na]at p;have k2:=s1.trans s2;refine⟨_,rfl,p2,tp,ns.drop g,t,r,g,ss,rfl,p,b.same k2,by rw[Ct];omega,λD H3 Mw y L=>?_⟩;have n:=k2.trans y;refine⟨_,rfl,_,rfl,_,rfl,a,tp,_,rfl,BN.sq (n _ _ d),λz H4 s4 o=>?_⟩;rw[OB,<- Nb]at o;have l:=n.trans s4;refine⟨_,rfl,z,tp,ns.take g,t,r,g,ss,rfl,o,b.same l,by rw[Bi];omega,λC H5 S i J=>?_⟩;have j:=l.trans i;have x:=HB (Gv ss) (ns.drop g);have v:=HB (Gv ss) (ns.take g);rw[Ct]at x;rw[Bi]at v;refine⟨D,C,_,_,rfl,rfl,i _ _ (s4 _ _ L),J,small (by rw[AU,AU];omega),λB u=>?_⟩;refine q B _ (A8.none j u) (j.trans (Aa u _)) ?_;rw[AJ,<- Bx];rfl
def ZGd:Ae ["row","loop","name"] ["row","loop","name"] (AM Zt):=by walk_at "z1"
def ZDB(F:AF K "loop_telling" "loop_telling" Zt f fd)(m:mg "loop_telling"=some (.ref f)):
  A9 P w K mg Zv "loop_telling" 2 ["row","loop","name"] (fV K):=by
 refine A9.mk F (F.binds (by walk_at "bD3")) m (F.BJ (k:=1) ZGd (λvs H Q E h=>?_) (λAY A outer s H vs Q E i h=>?_))
 .obtain⟨a,tp,ns,t,r,g,ss,x,rfl,l,n,C8,hx,q⟩:=h;rfl
 obtain⟨a,tp,ns,t,r,g,ss,x,rfl,l,n,C8,hx,q⟩:=h;refine⟨_,(AE rfl (AZ (Bn (A0 (AI AN (qv 1) A7) (A0 (Ay EL (AS El i (A0 (qv 0) (A0 (qv 2) A5))) A7) (A0 (AS NM i (A0 (AI AN (qv 1) A7) (A0 (qv 2) A5))) A5)))))),?_⟩;obtain⟨c,G1,JT⟩:=id n;have j:AD K H t _:=AD.of G1;have u:AD K H c _:=AD.of JT;refine⟨_,rfl,t,_,_,_,rfl,rfl,j,rfl,_,rfl,_,rfl,a,tp,ns,x,rfl,l,hx,_,_,rfl,rfl,?_⟩;refine⟨_,rfl,t,_,_,_,rfl,rfl,j,rfl,_,rfl,c,ss,x,rfl,u,by omega,λo H3 b d v=>?_⟩;refine⟨(by show 3<=sizeLine;decide),λp II=>?_⟩;have e:=Aa II (.tup [.str r,.int ((ns.idxOf x:Nat)+1),.ref o]);exact q p o _ (A8.none d II) b (d.trans e) ⟨AJ,e _ _ v⟩
def nA:Ae ["row","loop","order"] ["row","loop"] (AM Xm):=by walk_at "z1"
def xN(F:AF K "step" "step" Xm f fd)(m:mg "step"=some (.ref f)):
  A9 P w K mg Zv "step" 5 ["row","loop"] (Rj K):=by
 refine A9.mk F (F.binds (by walk_at "bD2")) m (F.BJ (k:=4) nA (λvs H Q E h=>?_) (λAY A outer s H vs Q E l h=>?_))
 .obtain⟨a,tp,ns,t,r,g,ss,rfl,n,e,C8,ok,u,q⟩:=h;rfl
 obtain⟨a,tp,ns,t,r,g,ss,rfl,n,e,C8,ok,u,q⟩:=h;refine⟨_,(AH rfl (Ax 2 nA.nd (AS aM l (A0 (qv 0) (A0 (qv 1) A5))))
   (AH rfl (Ao (Ad (NB l.G2) (qv 2) (FA A5)) (AE rfl (AZ (Bn (A0 Rx (A0 (qv 1) A5))))) Az)
   (AE rfl (AZ (Bn (A0 (AI Dk (qv 2) A7) (A0 (AS YE l (A0 (qv 0) (A0 (qv 1) (A0 (AI Dk (qv 2) A7) A5)))) A5))))))),?_⟩
 refine⟨_,rfl,_,rfl,a,tp,ns,t,r,g,ss,rfl,n,e.at,C8,ok,u,λl1 H1 G5 s1 v=>?_⟩;obtain⟨c,G1,JT⟩:=id e;have G:AD K H t _:=AD.of G1;have I:AD K H c _:=AD.of JT;refine⟨_,rfl,(by show 0<=sizeLine;decide),λl2 Cz=>?_⟩;have d:=Aa Cz (.lst []);have k2:=s1.trans d;refine⟨l1,l2,_,[],rfl,rfl,.inl ⟨AK.of (d _ _ v),AK.of AJ⟩,EB _,rfl,_,rfl,?_⟩;show if Dp ((Cp ns g ss).map V.str) []=true then _ else _
 rw[ND];refine BA (λj=>?_) (λj=>?_)
 .have b:Cp ns g ss=[]:=by simpa using j
  refine⟨_,rfl,(by show 2<=sizeLine;decide),λt' FW=>?_⟩;exact q t' _ (A8.none k2 FW) (k2.trans (Aa FW _)) (.inl ⟨b,AJ⟩)
 .obtain⟨x,Ek,b⟩:∃x Ek,Cp ns g ss=x::Ek:=by
   cases h:Cp ns g ss with
   |nil=>rw[h]at j;simp at j
   |cons x Ek=>exact⟨x,Ek,rfl⟩
  have hx:x∈ns/\x∈ss:=PM.mp (by rw[b];exact CV);have i:=d _ _ v;rw[b]at i;generalize B:upd H1 l2 (.lst [])=H2 at d k2 i;refine⟨_,rfl,l1,_,_,_,rfl,rfl,AK.of i,Nu,?_⟩;refine⟨_,rfl,_,rfl,_,rfl,l1,_,_,_,rfl,rfl,AK.of i,Nu,a,tp,ns,t,r,g,ss,x,rfl,k2 _ _ n,e.same k2,C8,hx.1,λo D H4 II Sa s4 C=>?_⟩;refine⟨(by show 2<=sizeLine;decide),λy O4=>?_⟩;have p:=Aa O4 (.tup [.str x,.ref o]);have z:=k2.trans (s4.trans p);exact q y _ (A8.none (k2.trans s4) O4) z (.inr ⟨x,Ek,o,D,b,A8.none k2 II,A8.none k2 Sa,AJ,C.same p⟩)
def QV:Ae ["self","ticket","many","loop","things","answer"] ["self","ticket","many"] (AM YM):=by walk_at "z1"
def ZFx(F:AF K "page" "Yard.page" YM f fd)(y:Meth K A3 "page" f):
  Bc P w K mg Zv A3 "page" 10 ["self","ticket","many"] (Al (Qj A3)):=by
 refine⟨f,fd,Fz.Hc (k:=9) F QV (by rintro _ _⟨m,s,ps,n,b,lo,c,rfl,_,_,rfl⟩;rfl) λl=>⟨_,(AH rfl (Ax 3 QV.nd (Dy ZM l (by decide) (qv 0) (A0 (qv 1) A5)))
   (AH rfl (Ax 4 QV.nd (FA A5))
   (AH rfl (CS (X6 FE (Ke (Ad He (B6 Fb Ar (A0 (qv 4) A5)) (qv 2)) (JY (Ad Sq (B6 Fb Ar (A0 (AI AN (qv 3) A7) A5)) A7))).pt (AH rfl (Ax 5 QV.nd (AS Ma l (A0 (Cb (qv 0)) (A0 (qv 3) A5))))
   (AH rfl (D5 (G7 HC MC MD K8 (qv 4) (A0 (AI AN (qv 5) A7) A5)))
   (AE rfl (Ax 3 QV.nd (AI AN (qv 5) A7)))))))
   (AE rfl (AZ (Bn (A0 (qv 4) (A0 (Dy J5 l (by decide) (qv 0) (A0 (qv 3) A5)) A5)))))))),?_⟩,(F.binds (by walk_at "bD3")),y,Ai⟩
 rintro _ _⟨m,s,ps,n,b,lo,c,rfl,T,E,rfl⟩;have H:s.pa.length=ps.length:=by rw[T.pa,Im]
 have C:=T.len;have h1:=T.ok.row.len;have G:=T.ok.m4;have o:=ZFS T.ch T.hn T.gd;show Ws [.is (Ci s A3),.is (Fc n b (rowAt ps s.row n) lo),.is (.int c),.any,.any,.any] _ _ _;refine B4 (GD (Fs (AL rfl ⟨_,_,rfl,by decide +kernel,Bq (AL rfl (By ⟨_,⟨m,s,ps,n,b,lo,rfl,T,rfl⟩,?_⟩))⟩)));rintro _ rfl;generalize GQ ps n lo=l0 at o ⊢
 walk_at "ww"
 refine⟨by decide,?_⟩;show Ws [.is (Ci s A3),.is (Fc n b (rowAt ps s.row n) lo),.is (.int c),.is l0.P,.own [],.any] _ _ _;refine lL (λAA=>∃d:Slot,AA=[.is (Ci s A3),.is (Fc n b (rowAt ps s.row n) lo),.is (.int c),.is (pg s.row l0 c).2.P,.own ((pg s.row l0 c).1.map .str),d]) (Fm (ZBR (λk AA=>∃(j:Nat)(d:Slot),AA=[.is (Ci s A3),.is (Fc n b (rowAt ps s.row n) lo),.is (.int c),.is (pg s.row l0 j).2.P,.own ((pg s.row l0 j).1.map .str),d]/\k=c - j/\j<=c/\(pg s.row l0 j).1.length=j) c ⟨0,_,rfl,by simp,CH _,rfl⟩ ?_)) ?_
 .rintro k AA⟨j,d,rfl,rfl,D,t⟩;have u:=KN o j;refine Xy ?_
  walk_at "ww"
  rw[AU,t];refine BA (λq=>?_) (λq=>?_)
  .have v:=uq q
   walk_at "ww"
   rw[AU];refine BA (λp=>?_) (λp=>?_)
   .have B:(pg s.row l0 j).2.cs≠[]:=λz=>by
     have:=uq p;rw[z]at this;exact absurd this (by decide)
    obtain⟨x,ex⟩:=tJ u B;refine B4 (GD (fH (Bl (Fn (AL rfl ⟨A3,yN,_,0,_,rfl,Ai,CA,by decide +kernel,rfl,_,.inl ⟨rfl,s.row,rfl,AL rfl ⟨(pg s.row l0 j).2.r,(pg s.row l0 j).2.g,(pg s.row l0 j).2.cs,rfl,u,by omega,?_⟩⟩⟩)))));rw[Yc,show(pg s.row l0 j).2.told s.row=.str x by unfold Lp.told;rw[ex];rfl];show Ws [.is (Ci s A3),.is (Fc n b (rowAt ps s.row n) lo),.is (.int c),.is (pg s.row l0 j).2.P,.own ((pg s.row l0 j).1.map .str),.is (.tup [.str x,((pg s.row l0 j).2.EV s.row).P])] _ _ _;refine B4 (RK rfl (DD (Dg rfl ⟨rfl,C4 ⟨_,_,rfl,rfl,by rw[AU];omega,?_⟩⟩)));refine GD (DD (Dg rfl ⟨rfl,C4 ⟨_,_,rfl,rfl,c - (j+1),by omega,j+1,.is (.tup [.str x,((pg s.row l0 j).2.EV s.row).P]),?_,rfl,by omega,?_⟩⟩))
    .rw[Pa ex,Bx];rfl
    .rw[Pa ex,B2,t];rfl
   .have A:(pg s.row l0 j).2.cs=[]:=by
     cases e:(pg s.row l0 j).2.cs with
     |nil=>rfl
     |cons z r=>exact absurd (rg (by rw[e];exact Int.natCast_pos.mpr (oI _))) p
    have e:pg s.row l0 c=pg s.row l0 j:=by
     have:=dJ A (c - j);rw[show j+(c - j)=c by omega]at this;exact this
    exact⟨_,by rw[e]⟩
  .have v:j=c:=by
    have:¬ ((j:Int)<c):=λh=>q (rg h);omega
   subst v;exact⟨_,rfl⟩
 .rintro _⟨d,rfl⟩;refine eB (ZC3 (O8 (wg (i:=4) rfl λa=>?_)));refine O8 (Es (Fs (AL rfl ⟨_,_,rfl,by decide +kernel,Bq (AL rfl (By ⟨_,⟨m,s,_,rfl,T.ok,KN o c,by omega,rfl⟩,?_⟩))⟩)));rintro _ rfl;rw[T.fg,show((0:Nat):Int)+(s.pa.length:Int)=s.pa.length by simp];exact SA ⟨by simp,by simp,by show 2<=100000;decide,a,rfl⟩
def yt:Ae ["self","name"] ["self","name"] (AM aI):=by walk_at "z1"
def ZBQ(F:AF K "loop" "Yard.loop" aI f fd)(b:Meth K A3 "loop" f):
  Bc P w K mg Zv A3 "loop" 1 ["self","name"] (Al (Ox A3)):=by
 refine⟨f,fd,Fz.Hc (k:=0) F yt (by rintro _ _⟨s,x,lo,rfl,_,_,_,rfl⟩;rfl) λa=>⟨_,(AH rfl (Ao (pA (Bj a) (qv 1) (Cb (qv 0))) (AE rfl Dq) Az)
   (AE rfl (AZ (D2 (Bj a) (Cb (qv 0)) (qv 1) (λ_ _=>rfl))))),?_⟩,(F.binds (by walk_at "bD2")),b,Ai⟩
 rintro _ _⟨s,x,lo,rfl,hx,c,l1,rfl⟩;show Ws [_,_] _ _ _;refine B4 (Ey (GP (ZEv (AL rfl (Fn (AL rfl ⟨A3,yN,_,1,_,rfl,Ai,Df,by decide +kernel,rfl,Au s.ln,_,.inr x,rfl,rfl,_,rfl,?_⟩))))));rw[Th,rg hx];refine BU (by decide) (Cv ?_);refine G0 (Pk (Fn (AL rfl ⟨A3,yN,_,1,_,rfl,Ai,Df,by decide +kernel,rfl,Au s.ln,_,rfl,AL rfl ⟨.inr x,lo.P,rfl,NW hx ?_,rfl⟩⟩)));rw[Am,c];rfl
def dB:Ae ["self","name","answer"] ["self","name"] (AM YF):=by walk_at "z1"
def rA(F:AF K "step" "Yard.step" YF f fd)(c:Meth K A3 "step" f):
  Bc P w K mg Zv A3 "step" 8 ["self","name"] (CI (Qq A3)):=by
 refine⟨f,fd,Fz.dY (k:=7) F dB (by rintro _ _⟨m,s,a,t,x,lo,rfl,_,_,_,_,rfl⟩;rfl) λb=>⟨_,(AH rfl (Ax 2 dB.nd (AS Ma b (A0 (Cb (qv 0)) (A0 (Dy Hy b (by decide) (qv 0) (A0 (qv 1) A5)) A5))))
   (AH rfl (JK (Bj b) (Cb (qv 0)) (qv 1) (AI AN (qv 2) A7))
   (AE rfl (AZ (AI AN (qv 2) A7))))),?_⟩,(F.binds (by walk_at "bD2")),c,Ai⟩
 rintro _ _⟨m,s,a,t,x,lo,rfl,d,ok,hx,el,rfl⟩;obtain⟨dx,aK,aP,rfl⟩:=d;show Ws [_,_,.any] _ _ _;have l1:=ok.l1;have h:=ok.Iv;have b:=ok.row.len;have j:=ok.m4;have e:=ok.good lo (DQ el);refine B4 (GD (fH (Bl (DZ (Ni rfl Ai CA ⟨_,rfl,_,.inl ⟨rfl,s.row,rfl,?_⟩⟩)))));refine lh (i:=0) (Cm rfl ⟨dx,yN,a,_,rfl,by decide +kernel,bx (AL rfl (mO ⟨_,⟨s,x,lo,wu (λp=>[Slot.is p,.is (.str x)]) (Jy s A3 a dx aK aP),hx,el,ok.l1,rfl⟩,λ_ hp=>hp▸⟨ZEy lo,lo.r,lo.g,lo.cs,rfl,e,by omega,?_⟩⟩))⟩);rw[Yc];show Ws [.ow true (As s A3 a dx aK aP),.is (.str x),.is (.tup [lo.told s.row,(lo.EV s.row).P])] _ _ _;refine B4 (J7 (i:=0) (t:=As s A3 a dx aK aP) (Es (DD (Dg rfl ⟨rfl,C4 ⟨1,_,rfl,rfl,?_⟩⟩))));refine Ku rfl Ai Df ⟨true,aK,Au s.ln,_,rfl,rfl,by unfold CO;rw[AU];omega,KC ok.n1,B0,AL rfl ⟨.inr x,rfl,?_⟩⟩;rw[Nx hx,P5 hx];unfold As;rw[show([]++[1]:List Nat)=[1]from rfl,UX,T4];exact ZFz (i:=0) rfl (DD (Dg rfl ⟨rfl,C4 ⟨0,_,rfl,rfl,rfl,dx,aK,aP,rfl⟩⟩))
def QK:Ae ["script","k","cell","rest_here"] ["script","k"] (AM Yv):=by walk_at "z1"
def ZBJ(F:AF K "_law_pot" "_law_pot" Yv f fd)(m:mg "_law_pot"=some (.ref f)):
  A9 P w K mg Zv "_law_pot" 1 ["script","k"] (Y2 K):=by
 refine A9.mk F (F.binds (by walk_at "bD2")) m (F.BJ (k:=0) QK (λvs H Q E h=>?_) (λAY A outer s H vs Q E t h=>?_))
 .obtain⟨a,ns,k,rfl,b,k0,k1,q⟩:=h;rfl
 obtain⟨a,ns,k,rfl,b,k0,k1,q⟩:=h;refine⟨_,(AH rfl (Ax 2 QK.nd A7)
   (AH rfl (CS (Ao (Ad He (qv 1) (B6 EZ Ar (A0 (qv 0) A5))) (AE rfl (Ax 2 QK.nd (Ay Jm (AI Dk (qv 0) (qv 1)) (Ay LI (Ay LI (Ay LI (Ay Mt A7 A7) (Ay Mt A7 A7)) (Ay Mt A7 A7)) (Ay Mt A7 A7))))) Az))
   (AH rfl (Ax 3 QK.nd A7)
   (AH rfl (CS (Ao (Ad KY (qv 2) (Ay Mt A7 A7)) (AE rfl (Ax 3 QK.nd (qv 2))) Az))
   (AE rfl (AZ (FA (A0 (qv 3) (A0 (Ay Jm (Ay LI (Ay EL (Ay EL (Ay Jm (qv 2) A7) (Ay LI A7 (qv 1))) A7) A7) A7) A5))))))))),?_⟩
 have g:(ns.map V.int).length=ns.length:=AU _;refine⟨λσ' H'=>∃c:Int,σ'=[some (.ref a),some (.int k),some (.int c),none]/\H=H'/\0<=c/\c<10 ^ 256,?_,?_⟩
 .refine⟨_,rfl,_,rfl,a,_,rfl,.inl b,_,_,rfl,rfl,_,rfl,?_⟩;refine BA (λc=>?_) (λc=>?_)
  .have r:k<(((ns.map V.int).length:Nat):Int):=uq c;rw[g]at r;have i:k.toNat<ns.length:=by omega
   have e:Be (ns.map V.int) k=some (.int ns[k.toNat]):=Ng k0 (by rw[Am,B7 i] <;> rfl)
   refine⟨_,rfl,_,rfl,a,_,_,_,rfl,rfl,b,e,_,_,rfl,rfl,⟨by decide,by decide,by decide +kernel⟩,_,_,rfl,rfl,⟨by decide,by decide,by decide +kernel⟩,_,_,rfl,rfl,⟨by decide +kernel,by decide +kernel⟩,_,_,rfl,rfl,⟨by decide,by decide,by decide +kernel⟩,_,_,rfl,rfl,⟨by decide +kernel,by decide +kernel⟩,
    _,_,rfl,rfl,⟨by decide,by decide,by decide +kernel⟩,_,_,rfl,rfl,⟨by decide +kernel,by decide +kernel⟩,_,_,rfl,rfl,(by show(0:Int)<_;decide +kernel),?_⟩
   exact⟨_,rfl,rfl,Lx _ (by decide +kernel),Lv _ (by decide +kernel)⟩
  .exact⟨0,rfl,rfl,by decide,by decide +kernel⟩
 rintro σ' H'⟨c,rfl,rfl,o,n⟩;refine⟨λσ' H'=>∃d:Int,σ'=[some (.ref a),some (.int k),some (.int c),some (.int d)]/\H=H'/\0<=d/\d<10 ^ 256,?_,?_⟩
 .refine⟨_,rfl,_,_,rfl,rfl,⟨by decide,by decide,by decide +kernel⟩,_,_,rfl,rfl,_,rfl,?_⟩;refine BA (λ_=>?_) (λ_=>?_)
  .exact⟨_,rfl,c,rfl,rfl,o,n⟩
  .exact⟨0,rfl,rfl,by decide,by decide +kernel⟩
 rintro σ' H'⟨d,rfl,rfl,l,j⟩;have e0:0<=c % 2147483629:=Lx _ (by decide);have u:c % 2147483629<2147483629:=Lv _ (by decide);refine⟨_,rfl,_,rfl,_,_,rfl,rfl,(by show(0:Int)<2147483629;decide),_,rfl,_,_,rfl,rfl,⟨by decide +kernel,MJ (by omega) (by omega)⟩,_,_,rfl,rfl,_,_,rfl,rfl,_,_,rfl,rfl,⟨MJ (by omega) (by omega),by decide +kernel⟩,_,_,rfl,rfl,(by show(0:Int)<2147483647;decide),?_⟩;refine⟨(by show 2<=sizeLine;decide),λp hp=>?_⟩;exact q p _ hp (Aa hp _) ⟨d,_,AJ,l,j,Lx _ (by decide),Lv _ (by decide)⟩
def iO:Ae ["pot","many","found"] ["pot","many"] (AM VO):=by walk_at "z1"
def zL(F:AF K "_law_take" "_law_take" VO f fd)(m:mg "_law_take"=some (.ref f)):
  A9 P w K mg Zv "_law_take" 1 ["pot","many"] (Ki):=by
 refine A9.mk F (F.binds (by walk_at "bD2")) m (F.BJ (k:=0) iO (λvs H Q E h=>?_) (λAY A outer s H vs Q E o h=>?_))
 .obtain⟨p,m,rfl,⟨a,b,hp,a0,a1,b0,j⟩,d,l,q⟩:=h;rfl
 obtain⟨p,m,rfl,⟨a,b,hp,a0,a1,b0,j⟩,d,l,q⟩:=h;refine⟨_,(AH rfl (Ao (Ad Sq (AI Dk (qv 0) A7) A7) (AH rfl (Ax 2 iO.nd (Ay Jm (AI Dk (qv 0) A7) (qv 1)))
   (AH rfl (PK (Ay XF (AI Dk (qv 0) A7) (qv 1)) (mH (qv 0) A7 set_list))
   (AE rfl (AZ (qv 2))))) Az)
   (AH rfl (PK (Ay Jm (Ay EL (Ay LI (AI Dk (qv 0) A7) A7) A7) A7) (mH (qv 0) A7 set_list))
   (AE rfl (AZ (Ay Jm (Ay XF (Ay Jm (Ay LI (AI Dk (qv 0) A7) (AI Dk (qv 0) A7)) A7) A7) (qv 1)))))),?_⟩
 refine⟨_,rfl,p,_,_,_,rfl,rfl,AK.of hp,rfl,_,_,rfl,rfl,_,rfl,?_⟩;refine BA (λc=>?_) (λc=>?_)
 .have r:0<a:=uq c;refine⟨_,rfl,p,_,_,_,rfl,rfl,AK.of hp,rfl,_,rfl,_,_,rfl,rfl,d,?_⟩;refine⟨_,rfl,p,_,_,_,rfl,rfl,AK.of hp,rfl,_,rfl,_,_,rfl,rfl,⟨d,MJ (by omega) (by omega)⟩,?_⟩;refine⟨_,rfl,p,_,_,_,rfl,rfl,hp,rfl,?_⟩;refine⟨_,rfl,?_⟩;refine q _ _ (Lx _ (by omega)) (Lv _ d) ⟨⟨a / m,b,AJ,Int.ediv_nonneg a0 (by omega),ZI9 (Int.ediv_le_self _ a0) a1,b0,j⟩,Gn.upd⟩
 .refine⟨_,rfl,p,_,_,_,rfl,rfl,AK.of hp,rfl,_,_,rfl,rfl,⟨MJ (by omega) (by omega),by decide +kernel⟩,_,_,rfl,rfl,_,_,rfl,rfl,(by show(0:Int)<2147483647;decide),?_⟩;refine⟨_,rfl,p,_,_,_,rfl,rfl,hp,rfl,?_⟩;have i:0<=(b * 69621+12345) % 2147483647:=Lx _ (by decide);have g:(b * 69621+12345) % 2147483647<2147483647:=Lv _ (by decide);generalize n:(b * 69621+12345) % 2147483647=b' at i g;have e:(upd H p (.lst [.int a,.int ((b * 69621+12345) % 2147483647)])) p=some (.lst [.int a,.int b']):=by rw[AJ,n]
  refine⟨_,rfl,p,_,_,_,rfl,rfl,AK.of e,rfl,_,rfl,p,_,_,_,rfl,rfl,AK.of e,rfl,_,_,rfl,rfl,⟨MJ (by omega) (by omega),MJ (by omega) (by omega)⟩,_,_,rfl,rfl,(by show(0:Int)<2147483629;decide),?_⟩;refine⟨_,_,rfl,rfl,⟨(by show(0:Int)<64;decide),by decide +kernel⟩,_,rfl,_,_,rfl,rfl,d,?_⟩;exact q _ _ (Lx _ (by omega)) (Lv _ d) ⟨⟨a,b',e,a0,a1,i,g⟩,Gn.upd⟩
def Ri:Ae ["number","word"] ["number"] (AM aS):=by walk_at "z1"
def ZBu(F:AF K "_law_letters" "_law_letters" aS f fd)(m:mg "_law_letters"=some (.ref f)):
  A9 P w K mg Zv "_law_letters" 1 ["number"] (iH):=by
 refine A9.mk F (F.binds (by walk_at "bD1")) m (F.BJ (k:=0) Ri (λvs H Q E h=>?_) (λAY A outer s H vs Q E u h=>?_))
 .obtain⟨r,rfl,j,o,q⟩:=h;rfl
 obtain⟨r,rfl,j,o,q⟩:=h;refine⟨_,(AH rfl (Ax 1 Ri.nd Ap)
   (AH rfl (CS (X6 FE (GH (Ad CL (qv 1) Ap) (HR (Ad Sq (qv 0) A7))).pt (AH rfl (Ax 1 Ri.nd (Ay iE (qv 1) (AI pD Ap (Ay Jm (qv 0) A7))))
   (AE rfl (Ax 0 Ri.nd (Ay XF (qv 0) A7))))))
   (AE rfl (AZ (qv 1))))),?_⟩
 obtain⟨n,rfl⟩:=HA j;have hn:n<26 ^ 8:=by omega
 rw[Ly]at q;refine⟨λσ' H'=>∃v,σ'=[some v,some (.str (DN (MA.lets n)))]/\H=H',?_,?_⟩
 .refine⟨λm σ' H'=>∃(k:Nat)(pre:List Nat),σ'=[some (.int k),some (.str (DN pre))]/\H=H'/\((pre=[]/\k=n/\m=n+2)∨(pre≠[]/\m=k+1/\(0<k->pre++MA.lets k=MA.lets n)/\(k=0->pre=MA.lets n))),⟨n+2,n,[],rfl,rfl,.inl ⟨rfl,rfl,rfl⟩⟩,?_⟩;rintro m σ' H'⟨k,pre,rfl,rfl,l⟩;refine⟨_,rfl,rfl,_,rfl,?_⟩;refine BA (λc=>L8 ?_) (λc=>⟨_,rfl,_,_,rfl,rfl,_,rfl,?_⟩)
  .have hp:pre=[]:=jT.mp (uq c);obtain⟨_,b,p⟩|⟨h,_⟩:=l
   .have d:pre++MA.lets k=MA.lets n:=by rw[hp,b];rfl
    have a:pre.length+1<=8:=by
     have h1:=wu List.length d;rw[B2]at h1;have h2:=MA.Ts 7 n hn;have t:=MA.V4 k;omega
    refine⟨λσ' H'=>σ'=[some (.int ((k:Int) / 26)),some (.str (DN pre++⟨#[97+((k:Int) % 26).toNat]⟩))]/\H=H',?_,?_⟩
    .rintro σ' H'⟨rfl,rfl⟩;have nx:=ij d;have g:((k:Int) % 26).toNat=k % 26:=by omega
     have e:(k:Int) / 26=((k / 26:Nat):Int):=by omega
     exact⟨k / 26+1,by omega,k / 26,pre++[97+k % 26],by rw[g,e,ly],rfl,.inr ⟨by simp,rfl,nx.1,nx.2⟩⟩
    .refine⟨_,rfl,_,rfl,_,_,rfl,rfl,(by show(0:Int)<26;decide),_,_,_,rfl,rfl,(by decide +kernel),fN (Lx _ (by decide)) (Lv _ (by decide)),_,_,rfl,rfl,?_,?_⟩
     .rw[Qw];exact small (show pre.length+1<=_ by omega)
     .exact⟨_,rfl,_,_,rfl,rfl,⟨(by show(0:Int)<26;decide),by decide +kernel⟩,rfl,rfl⟩
   .exact absurd hp h
  .have hp:pre≠[]:=λh=>c (rg (jT.mpr h));obtain⟨h,_⟩|⟨_,p,h1,h2⟩:=l
   .exact absurd h hp
   refine BA (λi=>?_) (λi=>?_)
   .have b:0<k:=by have:(0:Int)<k:=uq i;omega
    have d:=h1 b;have a:pre.length+1<=8:=by
     have h1:=wu List.length d;rw[B2]at h1;have h2:=MA.Ts 7 n hn;have t:=MA.V4 k;omega
    refine⟨λσ' H'=>σ'=[some (.int ((k:Int) / 26)),some (.str (DN pre++⟨#[97+((k:Int) % 26).toNat]⟩))]/\H=H',?_,?_⟩
    .rintro σ' H'⟨rfl,rfl⟩;have nx:=ij d;have g:((k:Int) % 26).toNat=k % 26:=by omega
     have e:(k:Int) / 26=((k / 26:Nat):Int):=by omega
     exact⟨k / 26+1,by omega,k / 26,pre++[97+k % 26],by rw[g,e,ly],rfl,.inr ⟨by simp,rfl,nx.1,nx.2⟩⟩
    .refine⟨_,rfl,_,rfl,_,_,rfl,rfl,(by show(0:Int)<26;decide),_,_,_,rfl,rfl,(by decide +kernel),fN (Lx _ (by decide)) (Lv _ (by decide)),_,_,rfl,rfl,?_,?_⟩
     .rw[Qw];exact small (show pre.length+1<=_ by omega)
     .exact⟨_,rfl,_,_,rfl,rfl,⟨(by show(0:Int)<26;decide),by decide +kernel⟩,rfl,rfl⟩
   .have b:k=0:=by
     have:¬ (0:Int)<k:=λz=>i (rg z);omega
    exact⟨_,by rw[h2 b],rfl⟩
 .rintro σ' H'⟨v,rfl,rfl⟩;exact⟨_,rfl,q _ (A8.refl _)⟩
def Gd:Ae ["pot","names","some","way","name","number"] ["pot","names"] (AM YZ):=by walk_at "z1"
def ZB2(F:AF K "_law_name" "_law_name" YZ f fd)(m:mg "_law_name"=some (.ref f)):
  A9 P w K mg Zv "_law_name" 2 ["pot","names"] (PR K):=by
 refine A9.mk F (F.binds (by walk_at "bD2")) m (F.BJ (k:=1) Gd (λvs H Q E h=>?_) (λAY A outer s H vs Q E g h=>?_))
 .obtain⟨p,q,ns,rfl,hp,u,Ac,Y,hL,K1⟩:=h;rfl
 obtain⟨p,q,ns,rfl,hp,u,Ac,Y,hL,K1⟩:=h;refine⟨_,(AH rfl (Ax 2 Gd.nd (Bn (A0 Ap (A0 Ap (A0 Ap (A0 Ap (A0 Ap (A0 Ap (A0 Ap (A0 Ap (A0 Ap (A0 Ap (A0 Ap (A0 Ap (A0 Ap A5)))))))))))))))
   (AH rfl (Ax 3 Gd.nd (AS Bp g (A0 (qv 0) (A0 A7 A5))))
   (AH rfl (Ax 4 Gd.nd (AI AN (qv 2) (AS Bp g (A0 (qv 0) (A0 A7 A5)))))
   (AH rfl (CS (Ao (Ad CL (qv 3) A7) (AE rfl (Ax 4 Gd.nd (AS QJ g (A0 (AS Bp g (A0 (qv 0) (A0 (Ay Mf (Ay Mt A7 A7) A7) A5))) A5)))) Az))
   (AH rfl (CS (Ao (Ke (Ad CL (qv 3) A7) (JY (Ad (NH g.G2) (qv 1) (FA A5)))).pt (AH rfl (Ax 4 Gd.nd (AI Dk (qv 1) (AS Bp g (A0 (qv 0) (A0 (B6 EZ Ar (A0 (qv 1) A5)) A5)))))
   (AE rfl (Ax 4 Gd.nd (DF cj (Ay iE (qv 4) (AS QJ g (A0 (AS Bp g (A0 (qv 0) (A0 A7 A5))) A5))) Dt (Cu A7))))) Az))
   (AH rfl (CS (Ao (Ke (Ad CL (qv 3) A7) (JY (Ad (NH g.G2) (qv 1) (FA A5)))).pt (AH rfl (Ax 4 Gd.nd (AI Dk (qv 1) (AS Bp g (A0 (qv 0) (A0 (B6 EZ Ar (A0 (qv 1) A5)) A5)))))
   (AE rfl (Ax 4 Gd.nd (DF cj (qv 4) Dt (Cu (Ay EL A7 (AS Bp g (A0 (qv 0) (A0 (B6 nB Ar (A0 (qv 4) A5)) A5))))))))) Az))
   (AH rfl (Ax 5 Gd.nd A7)
   (AH rfl (CS (X6 FE (Ad FK (qv 4) (qv 1)) (AH rfl (Ax 4 Gd.nd (AS QJ g (A0 (qv 5) A5)))
   (AE rfl (Ax 5 Gd.nd (Ay EL (qv 5) A7))))))
   (AE rfl (AZ (qv 4))))))))))),?_⟩
 have G:(ns.map V.str).length=ns.length:=AU _;have u:AK K H q (ns.map V.str):=AK.of u;refine⟨(by show 13<=sizeLine;decide +kernel),λo Fu=>?_⟩;have GB:o≠p:=by
  obtain⟨_,_,e,_⟩:=hp;exact(Dr e Fu).symm
 have g0:BF p H (upd H o (.tup S7)):=BF.of hp (Aa Fu _);refine⟨_,rfl,p,4,rfl,g0.AG,by decide,by decide,λd H1 w0 w1 s1=>?_⟩;refine⟨_,rfl,_,rfl,p,13,rfl,s1.AG,by decide,by decide,λi H2 i0 i1 s2=>?_⟩;have h2:H2 o=some (.tup S7):=s2.at' (s1.at' AJ GB) GB;obtain⟨x,hx,nx⟩:=ZC9 i0 i1;refine⟨o,_,_,_,rfl,rfl,AD.of h2,hx,?_⟩;have R:=g0.trans (s1.trans s2);refine⟨λσ' H'=>∃x,σ'=[some (.ref p),some (.ref q),some (.ref o),some (.int d),some (.str x),none]/\Nm x/\BF p H H',?_,?_⟩
 .refine⟨_,rfl,rfl,_,rfl,?_⟩;refine BA (λc=>?_) (λc=>?_)
  .refine⟨_,rfl,_,_,rfl,rfl,⟨by decide,by decide,by decide +kernel⟩,_,_,rfl,rfl,p,_,rfl,R.AG,ZF3,ZEa,λr H3 D N σ=>?_⟩;have J:r<26 ^ 8:=Int.lt_trans N ZDf;exact⟨r,rfl,D,J,λH4 s4=>⟨_,rfl,Z4 (mr D J),(R.trans σ).trans (BF.of σ.AG s4)⟩⟩
  .exact⟨x,rfl,nx,R⟩
 clear h2 hx nx s2 R i0 i1;rintro σ' H3⟨y,rfl,t,l⟩;refine⟨λσ' H'=>∃x,σ'=[some (.ref p),some (.ref q),some (.ref o),some (.int d),some (.str x),none]/\Nm x/\BF p H H',?_,?_⟩
 .refine⟨_,rfl,rfl,_,rfl,?_⟩;refine BA (λc=>?_) (λc=>Dh ⟨y,rfl,t,l⟩);refine⟨_,rfl,(by show 0<=sizeLine;decide),λe X=>?_⟩;have b:=l.trans (BF.of l.AG (Aa X (.lst [])));have M:=b.Np u Ac;refine⟨q,e,_,[],rfl,rfl,.inl ⟨M,AK.of AJ⟩,EB ns,rfl,_,rfl,?_⟩;rw[ND];refine BA (λL=>?_) (λL=>⟨y,rfl,t,b⟩);have KH:0<ns.length:=by
   cases ns with
   |nil=>simp at L
   |cons a r=>simp
  refine⟨_,rfl,_,rfl,_,rfl,q,_,rfl,.inl M,p,_,rfl,b.AG,(by rw[G];omega),(by rw[G];omega),λi H5 i0 i1 T=>?_⟩;rw[G]at i1;have C:=b.trans T;obtain⟨z,U,YB,_⟩:=QM i0 i1;have B:=Y z YB;refine⟨q,_,_,_,rfl,rfl,C.Np u Ac,U,?_⟩;refine⟨_,rfl,_,rfl,p,26,rfl,C.AG,by decide,by decide,λr H6 D N S=>?_⟩;have O:=C.trans S;have J:r<26 ^ 8:=Int.lt_trans N tG;refine⟨r,rfl,D,J,λH7 s7=>?_⟩;have O:=O.trans (BF.of O.AG s7);have nl:=Z4 (n:=r.toNat) (mr D J);have hlen:z.length+(DN (MA.lets r.toNat)).length<=16:=by have:=B.2.1;have:=nl.2.1;omega
  refine⟨_,_,rfl,rfl,small (by omega),?_⟩;refine⟨_,rfl,_,rfl,small (by rw[gk];omega),?_⟩;refine⟨_,rfl,d7 (by decide) (by decide) (by rw[gk];have:=B.1;omega) (λc I=>?_),O⟩;rw[eT]at I;rcases List.mem_append.mp I with I|I
  .exact B.2.2 c I
  .exact nl.2.2 c I
 clear t l;rintro σ' H3⟨y,rfl,t,l⟩;refine⟨λσ' H'=>∃x,σ'=[some (.ref p),some (.ref q),some (.ref o),some (.int d),some (.str x),none]/\Nm x/\BF p H H',?_,?_⟩
 .refine⟨_,rfl,rfl,_,rfl,?_⟩;refine BA (λc=>?_) (λc=>Dh ⟨y,rfl,t,l⟩);refine⟨_,rfl,(by show 0<=sizeLine;decide),λe X=>?_⟩;have b:=l.trans (BF.of l.AG (Aa X (.lst [])));have M:=b.Np u Ac;refine⟨q,e,_,[],rfl,rfl,.inl ⟨M,AK.of AJ⟩,EB ns,rfl,_,rfl,?_⟩;rw[ND];refine BA (λL=>?_) (λL=>⟨y,rfl,t,b⟩);have KH:0<ns.length:=by
   cases ns with
   |nil=>simp at L
   |cons a r=>simp
  refine⟨_,rfl,_,rfl,_,rfl,q,_,rfl,.inl M,p,_,rfl,b.AG,(by rw[G];omega),(by rw[G];omega),λi H5 i0 i1 T=>?_⟩;rw[G]at i1;have C:=b.trans T;obtain⟨z,U,YB,_⟩:=QM i0 i1;have B:=Y z YB;refine⟨q,_,_,_,rfl,rfl,C.Np u Ac,U,?_⟩;have zm:=B.1;have NT:=B.2.1;refine⟨_,rfl,_,rfl,_,rfl,_,rfl,small (by omega),p,_,rfl,C.AG,(by omega),(by omega),λr H6 D N S=>?_⟩;refine⟨_,_,rfl,rfl,_,rfl,_,rfl,small (by omega),?_⟩;exact⟨_,rfl,d7 (by omega) (by omega) zm B.2.2,C.trans S⟩
 clear t l;rintro σ' H3⟨y,rfl,t,l⟩;refine⟨λσ' H'=>∃x v,σ'=[some (.ref p),some (.ref q),some (.ref o),some (.int d),some (.str x),some v]/\Nm x/\x∉ns/\BF p H H',?_,?_⟩
 .refine⟨λm σ' H'=>∃(k:Nat)(x:Str),σ'=[some (.ref p),some (.ref q),some (.ref o),some (.int d),some (.str x),some (.int k)]/\BF p H H'/\Nm x/\m=ns.length+1 - k/\k<=ns.length+1/\(0<k->x=DN (MA.lets (k - 1)))/\(∀j,j+1<k->DN (MA.lets j)∈ns),
   ⟨ns.length+1,0,y,rfl,l,t,rfl,CH _,λh=>absurd h (by decide),λj h=>absurd h (by omega)⟩,?_⟩
  rintro m σ' H'⟨k,x,rfl,b,nx,rfl,hk,hx,hj⟩;refine⟨_,rfl,_,rfl,q,_,rfl,.inl (b.Np u Ac),rfl,EB ns,_,rfl,?_⟩;rw[sN (by decide),J8];refine BA (λc=>?_) (λc=>⟨x,_,rfl,nx,λz=>c (rg z),b⟩);have Uj:x∈ns:=uq c;have K9:∀j,j<k->DN (MA.lets j)∈ns:=λj K5=>by
   by_cases e:j+1<k
   .exact hj j e
   .have e2:j=k - 1:=by omega
    rw[e2,<- hx (by omega)];exact Uj
  have W:=ZFP K9;refine⟨λσ' H'=>σ'=[some (.ref p),some (.ref q),some (.ref o),some (.int d),some (.str (DN (MA.lets k))),some (.int ((k:Int)+1))]/\BF p H H',?_,?_⟩
  .rintro σ' H'⟨rfl,b⟩;exact⟨ns.length+1 - (k+1),by omega,k+1,DN (MA.lets k),rfl,b,Z4 (IW (Cc W hL) ZCN),rfl,by omega,λ_=>rfl,λj K5=>K9 j (by omega)⟩
  .refine⟨_,rfl,k,rfl,by omega,?_,λH4 s4=>?_⟩
   .have:(k:Int)<=1000:=by omega
    exact ZI9 this xD
   .rw[Ly];exact⟨_,rfl,_,_,rfl,rfl,rfl,b.trans (BF.of b.AG s4)⟩
 rintro σ' H'⟨x,v,rfl,nx,hx,b⟩;exact⟨_,rfl,K1 x H' nx hx b⟩
def Vo:Ae ["pot","many","names","k"] ["pot","many"] (AM Zu):=by walk_at "z1"
def qH(F:AF K "_law_names" "_law_names" Zu f fd)(m:mg "_law_names"=some (.ref f)):
  A9 P w K mg Zv "_law_names" 3 ["pot","many"] (bg):=by
 refine A9.mk F (F.binds (by walk_at "bD2")) m (F.BJ (k:=2) Vo (λvs H Q E h=>?_) (λAY A outer s H vs Q E t h=>?_))
 .obtain⟨p,m,rfl,hp,o,j,q⟩:=h;rfl
 obtain⟨p,m,rfl,hp,o,j,q⟩:=h;refine⟨_,(AH rfl (Ax 2 Vo.nd (FA A5))
   (AH rfl (CS (Fy FE rfl (Kf rfl Dn (A0 (qv 1) A5)) (D0 3 Vo.nd) (AE rfl (D5 (G7 HC MC MD K8 (qv 2) (A0 (AS Ic t (A0 (qv 0) (A0 (qv 2) A5))) A5))))))
   (AE rfl (AZ (qv 2))))),?_⟩
 refine⟨(by show 0<=sizeLine;decide),λl c=>?_⟩;have d:=hp.ne c;refine⟨λσ' H'=>∃(ns:List Str)(v:Option V),σ'=[some (.ref p),some (.int m),some (.ref l),v]/\BF p H H'/\H' l=some (.lst (ns.map V.str))/\(ns.length:Int)=m/\(∀x∈ns,Nm x)/\ns.Nodup,?_,?_⟩
 .refine⟨_,rfl,m,rfl,by omega,by omega,ZEF (n:=m.toNat) (λi σ' H'=>∃(ns:List Str)(v:Option V),σ'=[some (.ref p),some (.int m),some (.ref l),v]/\BF p H H'/\H' l=some (.lst (ns.map V.str))/\ns.length=i/\(∀x∈ns,Nm x)/\ns.Nodup) ?_ ?_ ?_⟩
  .exact⟨[],none,rfl,(BF.of hp (A8.refl H)).upd c d,AJ,rfl,λx hx=>absurd hx (by simp),by simp⟩
  .rintro i σ' H' hi⟨ns,v,rfl,g,e,a,b,nd⟩;refine⟨_,rfl,.inl ⟨rfl,_,AK.of e⟩,_,rfl,_,rfl,p,l,ns,rfl,g.AG,e,d,b,by omega,λx H2 nx hx s2=>?_⟩;refine⟨l,_,_,rfl,rfl,s2.at' e d,IW (m:=100) (by rw[AU];omega) (by decide +kernel),?_⟩;refine⟨ns++[x],_,rfl,(g.trans s2).upd c d,by rw[AJ,Bx];rfl,by rw[B2];simp[a],λy r=>?_,SJ nd hx⟩;rcases List.mem_append.mp r with h|h
   .exact b y h
   .have:y=x:=by simpa using h
    rw[this];exact nx
  .rintro σ' H'⟨ns,v,rfl,g,e,a,b,nd⟩;exact⟨ns,v,rfl,g,e,by omega,b,nd⟩
 rintro σ' H'⟨ns,v,rfl,g,e,a,b,nd⟩;exact⟨_,rfl,q l H' ns c g e a b nd⟩
def WL:Ae ["pot","most","many"] ["pot","most"] (AM ZQ):=by walk_at "z1"
def ZDk(F:AF K "_law_row" "_law_row" ZQ f fd)(m:mg "_law_row"=some (.ref f)):
  A9 P w K mg Zv "_law_row" 4 ["pot","most"] (X5):=by
 refine A9.mk F (F.binds (by walk_at "bD2")) m (F.BJ (k:=3) WL (λvs H Q E h=>?_) (λAY A outer s H vs Q E b h=>?_))
 .obtain⟨p,m,rfl,hp,d,u,q⟩:=h;rfl
 obtain⟨p,m,rfl,hp,d,u,q⟩:=h;refine⟨_,(AH rfl (Ax 2 WL.nd (AS Bp b (A0 (qv 0) (A0 (Ay EL (qv 1) A7) A5))))
   (AH rfl (CS (Ao (Ad CL (AS Bp b (A0 (qv 0) (A0 A7 A5))) A7) (AE rfl (Ax 2 WL.nd (AI AN (Bn (A0 A7 (A0 A7 (A0 (qv 1) A5)))) (AS Bp b (A0 (qv 0) (A0 A7 A5)))))) Az))
   (AE rfl (AZ (AS Uv b (A0 (qv 0) (A0 (qv 2) A5))))))),?_⟩
 refine⟨_,rfl,_,rfl,_,_,rfl,rfl,p,_,rfl,hp,by omega,by omega,λa H1 n0 n1 s1=>?_⟩;refine⟨λσ' H'=>∃k:Int,σ'=[some (.ref p),some (.int m),some (.int k)]/\0<=k/\k<=m/\BF p H H',?_,?_⟩
 .refine⟨_,rfl,p,8,rfl,s1.AG,by decide,by decide,λr H2 G D s2=>?_⟩;have c:=s1.trans s2;refine⟨rfl,_,rfl,?_⟩;refine BA (λ_=>?_) (λ_=>⟨a,rfl,n0,by omega,c⟩);refine⟨_,rfl,(by show 3<=sizeLine;decide +kernel),λt i=>?_⟩;have C:=c.AG.ne i;have o:=c.trans (BF.of c.AG (Aa i (.tup [.int 0,.int 1,.int m])));refine⟨_,rfl,p,3,rfl,o.AG,by decide,by decide,λj H4 x v s4=>?_⟩;obtain⟨k,z,k0,k1⟩:=ZA6 x v d;exact⟨t,_,_,_,rfl,rfl,AD.of (s4.at' AJ C),z,k,rfl,k0,k1,o.trans s4⟩
 rintro σ' H'⟨k,rfl,k0,k1,g⟩;refine⟨_,rfl,_,rfl,p,k,rfl,g.AG,k0,by omega,λl H' ns y s e n B nd=>?_⟩;exact q l H' ns (g.none y) (g.trans s) e (by omega) B nd
def vq:Ae ["pot","most"] ["pot","most"] (AM Xg):=by walk_at "z1"
def qT(F:AF K "_law_new" "_law_new" Xg f fd)(m:mg "_law_new"=some (.ref f)):
  A9 P w K mg Zv "_law_new" 6 ["pot","most"] (Al Zf):=by
 refine Fz.hF (k:=5) F (by walk_at "bD2") m vq (by rintro _ _⟨m,rfl,_,_,rfl⟩;rfl) λb=>⟨_,(AE rfl (AZ (z4 (ZW Ap (AS V2 b (A0 (qv 0) (A0 (qv 1) A5))) (ZW Ap TL (ZW Ap (FA A5) oh))) rfl rfl (by simp) (by decide)))),?_⟩
 rintro _ _⟨m,rfl,h1,c,rfl⟩;show Ws [_,_] _ _ _;refine eB (oX (by decide +kernel) (O8 (Es (EM (gU rfl rfl (AL rfl ⟨_,rfl,by omega,by omega,λns l nm nd=>?_⟩))))));refine O8 (Yb λaK=>O8 (lJ (SA ⟨by decide,λaP=>SA ⟨by simp,by simp,by simp,rfl,λa=>?_⟩⟩)));exact⟨ns,a,⟨by omega,nm,nd⟩,aK,aP,rfl⟩
def ZF7:Ae ["rule"] ["rule"] (AM ZJ):=by walk_at "z1"
def ZH0(F:AF K "check_rule" "check_rule" ZJ f fd)(m:mg "check_rule"=some (.ref f)):
  A9 P w K mg Zv "check_rule" 1 ["rule"] (Qx):=by
 refine A9.mk F (F.binds (by walk_at "bD1")) m (F.BJ (k:=0) ZF7 (λvs H Q E h=>?_) (λAY A outer s H vs Q E b h=>?_))
 .obtain⟨r,rfl,JG,q⟩:=h;rfl
 obtain⟨r,rfl,JG,q⟩:=h;refine⟨_,(AE rfl (Ao (Ad Q6 (qv 0) (Js (v:=.ref EF) (by rfl) JR rfl)) (AE rfl Dq) Az)),?_⟩;refine⟨_,rfl,EF,_,rfl,.inr (J4 H),rfl,rfl,_,rfl,?_⟩;have a:DI (.str r) (Cn.map V.str)=decide (r∈Cn):=J8 r Cn;show if(!DI (.str r) (Cn.map V.str))=true then _ else _
 rw[a,rg JG];exact Dh q
def rY:Ae ["row","rule"] ["row","rule"] (AM WY):=by walk_at "z1"
def ZCf(F:AF K "begun" "begun" WY f fd)(m:mg "begun"=some (.ref f)):
  A9 P w K mg Zv "begun" 2 ["row","rule"] (Qf K):=by
 refine A9.mk F (F.binds (by walk_at "bD2")) m (F.BJ (k:=1) rY (λvs H Q E h=>?_) (λAY A outer s H vs Q E n h=>?_))
 .obtain⟨a,tp,ns,r,rfl,j,JG,e,q⟩:=h;rfl
 obtain⟨a,tp,ns,r,rfl,j,JG,e,q⟩:=h;refine⟨_,(AH rfl (D5 (AS Mo n (A0 (qv 1) A5)))
   (AE rfl (AZ (Bn (A0 (qv 1) (A0 A7 (A0 (Cy Io CC (A0 (B6 K0 Bm (A0 (qv 0) A5)) A5)) A5))))))),?_⟩
 refine⟨_,rfl,r,rfl,JG,?_⟩;refine⟨_,rfl,_,rfl,a,tp,ns,rfl,j,e,λl ts o hp hs=>?_⟩;have n1:=Aa o (.lst (ts.map V.str));refine⟨l,_,rfl,.inl ⟨AK.of AJ,λc i=>?_⟩⟩;have d:=Aa i (.tup (ts.map V.str));refine⟨(by show 3<=sizeLine;decide),λt g=>?_⟩;have b:=Aa g (.tup [.str r,.int 0,.ref c]);exact q t c _ ts (A8.none (n1.trans d) g) (A8.none n1 i) (n1.trans (d.trans b)) hp hs ⟨AJ,b _ _ AJ⟩
def ZEh:Ae ["self","rule"] ["self","rule"] (AM Zi):=by walk_at "z1"
def vM(F:AF K "ticket" "Yard.ticket" Zi f fd)(c:Meth K A3 "ticket" f):
  Bc P w K mg Zv A3 "ticket" 9 ["self","rule"] (Al (Ug A3)):=by
 refine⟨f,fd,Fz.Hc (k:=8) F ZEh (by rintro _ _⟨m,s,r,rfl,_,_,_,rfl⟩;rfl) λa=>⟨_,(AE rfl (AZ (Dy J5 a (by decide) (qv 0) (A0 (AS NG a (A0 (Cb (qv 0)) (A0 (qv 1) A5))) A5)))),?_⟩,(F.binds (by walk_at "bD2")),c,Ai⟩
 rintro _ _⟨m,s,r,rfl,ok,a,hp,rfl⟩;have h1:=ok.row.len;have d:=ok.m4;show Ws [.is (Ci s A3),.is (.str r)] _ _ _;refine G0 (Fs (AL rfl ⟨_,_,rfl,by decide +kernel,Bq (bz (Bl (Fn (AL rfl ⟨A3,yN,_,0,_,rfl,Ai,CA,by decide +kernel,rfl,_,.inl ⟨rfl,s.row,rfl,AL rfl ⟨r,rfl,a,by omega,λts b st=>?_⟩⟩⟩))))⟩));rw[TX ok.row.nd b st];exact By ⟨_,⟨m,s,⟨r,0,Ce s.row⟩,rfl,ok,WR ok.row.nd a,hp,rfl⟩,λ_ h=>h⟩
def xS:Ae ["self","name","rule"] ["self","name","rule"] (AM Xr):=by walk_at "z1"
def eK:∀ss R,(Qu A3) ss R->ss.length=3:=by rintro _ _⟨m,s,a,t,x,r,rfl,_,_,_,_,_,_,rfl⟩;rfl
def wq(F:AF K "begin" "Yard.begin" Xr f fd)(d:Meth K A3 "begin" f):
  Bc P w K mg Zv A3 "begin" 8 ["self","name","rule"] (CI (Qu A3)):=by
 refine⟨f,fd,F.BJ (k:=7) xS (λvs H Q E h=>Fz.PX eK h) (λAY A outer s H vs Q E b h=>?_),(F.binds (by walk_at "bD3")),d,Ai⟩
 refine⟨_,(AH rfl (Ao (DW (Ew (AS Ij b (A0 (qv 1) A5)))) (AE rfl Dq) Az)
   (AH rfl (Ao (ZCz (Bj b) (qv 1) (Cb (qv 0))) (AE rfl Dq) Az)
   (AH rfl (D5 (AS Mo b (A0 (qv 2) A5)))
   (AH rfl (Ao (Ad KY (B6 nE Ar (A0 (Cb (qv 0)) A5)) (Js (v:=.int 12) (by rfl) VM ⟨_,rfl⟩)) (AE rfl Dq) Az)
   (AE rfl (JK (Bj b) (Cb (qv 0)) (qv 1) (AS NG b (A0 (Cb (qv 0)) (A0 (qv 2) A5))))))))),?_⟩
 refine Fz.VN h eK ?_;rintro _ _⟨m,s,a,t,x,r,rfl,g,ok,hx,nx,b,Ve,rfl⟩;obtain⟨dx,aK,aP,rfl⟩:=g;show Ws [_,_,_] _ _ _;refine B4 (Ey (Gw (GP (jD (AL rfl ⟨x,rfl,(jL nx).2,_,rfl,?_⟩)))));rw[Vb nx];refine BU (by decide) (Cv ?_);refine B4 (Ey (GP (ZDj (AL rfl (Ku rfl Ai Df ⟨Au s.ln,aK,_,.inr x,rfl,rfl,_,rfl,?_⟩)))));rw[Th,uz hx];refine BU (by decide) (Cv ?_);refine B4 (Pw (xW (AL rfl ⟨r,rfl,b,?_⟩)));refine B4 (Ey (KG (TY (jK (Ku rfl Ai Df ⟨Au s.ln,aK,_,rfl,_,rfl,?_⟩)))));have e:(Au s.ln).length=s.ln.length:=by unfold Au;rw[AU]
 rw[e];refine C4 ⟨_,rfl,_,rfl,BU (λz=>by have:=uq z;omega) (Cv ?_)⟩;refine J7 (i:=0) (t:=As s A3 a dx aK aP) (Es (bz (Bl (DZ (Ni rfl Ai CA ⟨_,rfl,_,.inl ⟨rfl,s.row,rfl,AL rfl ⟨r,rfl,b,by have:=ok.row.len;have:=ok.m4;omega,λts c st=>?_⟩⟩⟩)))));rw[TX ok.row.nd c st];have l1:=ok.l1;refine Ku rfl Ai Df ⟨true,aK,Au s.ln,_,rfl,rfl,by unfold CO;rw[AU];omega,KC ok.n1,B0,AL rfl ⟨.inr x,rfl,?_⟩⟩;rw[Rv hx,UR hx];unfold As;rw[show([]++[1]:List Nat)=[1]from rfl,UX];have j:CO s.ll++[.fz (DR r 0 (Ce s.row))]=CO (s.ll++[⟨r,0,Ce s.row⟩]):=by unfold CO;rw[Bx];rfl
 rw[j];exact⟨_,_,_,_,rfl,rfl,rfl,dx,aK,aP,rfl⟩
def ZGG:Ae ["pot"] ["pot"] (AM Z1):=by walk_at "z1"
def ZHx(F:AF K "_law_rule" "_law_rule" Z1 f fd)(m:mg "_law_rule"=some (.ref f)):
  A9 P w K mg Zv "_law_rule" 2 ["pot"] (Al kJ):=by
 refine Fz.hF (k:=1) F (by walk_at "bD1") m ZGG (by rintro _ _⟨rfl,rfl⟩;rfl) λa=>⟨_,(AE rfl (AZ (AI AN (Bn (A0 Ap (A0 Ap (A0 Ap A5)))) (AS Bp a (A0 (qv 0) (A0 A7 A5)))))),?_⟩
 rintro _ _⟨rfl,rfl⟩;show Ws [_] _ _ _
 walk_at "ww"
 refine⟨by decide,_,.inr ⟨rfl,rfl,?_⟩⟩
 walk_at "ww"
 refine⟨by decide,by decide,λq b d=>?_⟩;obtain⟨q,rfl⟩:=HA b;obtain⟨r,a,c⟩:=cW (k:=q) (by omega);exact⟨_,_,rfl,c,r,rfl,a⟩
def ZHQ:Ae ["row","rule"] ["row","rule"] (AM Z8):=by walk_at "z1"
def ZDU(F:AF K "_law_begun" "_law_begun" Z8 f fd)(m:mg "_law_begun"=some (.ref f)):
  A9 P w K mg Zv "_law_begun" 1 ["row","rule"] (Al iS):=by
 refine Fz.hF (k:=0) F (by walk_at "bD2") m ZHQ (by rintro _ _⟨ns,r,rfl,a,rfl⟩;rfl) λc=>⟨_,(AE rfl (AZ (Bn (A0 (qv 1) (A0 A7 (A0 (Cy Io CC (A0 (B6 K0 Bm (A0 (qv 0) A5)) A5)) A5)))))),?_⟩
 rintro _ _⟨ns,r,rfl,a,rfl⟩;show Ws [_,_] _ _ _
 walk_at "ww"
 refine⟨a,λts b st=>?_⟩
 walk_at "ww"
 exact⟨by simp,ts,b,st,rfl⟩
def TB:Ae ["pot","yard","state","handed","name","rule","ticket"] ["pot","yard","state","handed"] (AM WZ):=by walk_at "z1"
def jE:∀ss R,(Rq A3) ss R->ss.length=4:=by rintro _ _⟨m,s,ps,q,a1,a2,a,t1,t2,rfl,_,_,_,_,_,rfl⟩;rfl
def ZCy(F:AF K "_law_begun_both" "_law_begun_both" WZ f fd)(m:mg "_law_begun_both"=some (.ref f)):
  A9 P w K mg Zv "_law_begun_both" 10 ["pot","yard","state","handed"] (CI (Rq A3)):=by
 refine A9.mk F (F.binds (by walk_at "bD4")) m (F.BJ (k:=9) TB (λvs H Q E h=>Fz.PX jE h) (λAY A outer s H vs Q E a h=>?_))
 refine⟨_,(AH rfl (Ax 4 TB.nd (AS Ic a (A0 (qv 0) (A0 (B6 (bQ rfl) Bm (A0 (D2 (Bj a) (qv 2) Ap (λ_ _=>rfl)) A5)) A5))))
   (AH rfl (Ax 5 TB.nd (AS X2 a (A0 (qv 0) A5)))
   (AH rfl (Ax 6 TB.nd (Dy Vv a (by decide) (qv 1) (A0 (qv 5) A5)))
   (AH rfl (D5 (Dy Ye a (by decide) (qv 1) (A0 (qv 4) (A0 (qv 5) A5))))
   (AH rfl (JK (Bj a) (D2 (Bj a) (qv 2) Ap (λ_ _=>rfl)) (qv 4) (AS XS a (A0 (D2 (Bj a) (qv 2) Ap (λ_ _=>rfl)) (A0 (qv 5) A5))))
   (AE rfl (JK (Bj a) (qv 3) (qv 4) (qv 6)))))))),?_⟩
 refine Fz.oU (d:=f3 1 2 3) (To (by decide) (by decide) (by decide)) h jE ?_;rintro _ _⟨m,s,ps,q,a1,a2,b,t1,t2,rfl,l,n,hd,B,Ve,rfl⟩;obtain⟨aK,aP,rfl⟩:=n;obtain⟨dx,e,c,rfl⟩:=l;have ok:=hd.ok;have l1:=ok.l1;have y:=ok.Iv;have a:=ok.row.len;have C:=ok.m4;have D:s.pa.length=ps.length:=by rw[hd.pa,Im]
 have v:s.pa.length<=2000:=by omega
 have o:(s.fg:Int)+s.pa.length=s.pa.length:=by rw[hd.fg];simp
 show Ws [.AG,.ow true (As s A3 a1 dx e c),.ow true (B5 s a2 aK aP),.ow true (BY s.ln b (B8 ps s.row q)),.any,.any,.any] _ _ _;refine B4 (GD (Ys rfl (Bl (EM (j3 (LM (i:=2) rfl ⟨s.ln,aK,_,rfl,by omega,λC5 g st=>⟨_,.inl ⟨rfl,rfl,C5,rfl,λx hx=>ok.nm x (g.mem_iff.mp hx),by have:=g.length_eq;omega,λx hx j=>?_⟩⟩⟩))))));have HI:x∉s.ln:=λz=>j (g.mem_iff.mpr z);refine B4 (GD (rl rfl (By ⟨_,⟨rfl,rfl⟩,?_⟩)));rintro _⟨r,rfl,JG⟩;show Ws [.AG,.ow true (As s A3 a1 dx e c),.ow true (B5 s a2 aK aP),.ow true (BY s.ln b (B8 ps s.row q)),.is (.str x),.is (.str r),.any] _ _ _;refine B4 (GD (lh (i:=1) (Cm rfl ⟨dx,yN,a1,_,rfl,by decide +kernel,bx (AL rfl (mO ⟨_,⟨m,s,r,wu (λp=>[Slot.is p,.is (.str r)]) (Jy s A3 a1 dx e c),ok,JG,v,rfl⟩,λ_ hp=>hp▸⟨Zm _ _ _,?_⟩⟩))⟩)));rw[o,gm hd.pa];show Ws [.AG,.ow true (As s A3 a1 dx e c),.ow true (B5 s a2 aK aP),.ow true (BY s.ln b (B8 ps s.row q)),.is (.str x),.is (.str r),.is (GZ ps s.row (DV ps s.row ⟨r,0,Ce s.row⟩))] _ _ _;refine B4 (ZAA (YJ (i:=1) rfl (by decide +kernel) (Oc (AL rfl (Oc (AL rfl (Rb ⟨_,⟨m,s,a1,_,x,r,rfl,⟨dx,e,c,rfl⟩,ok,HI,hx,JG,Ve,rfl⟩,?_⟩)))))));rintro _ t2⟨rfl,Cg,FO,FH,rfl⟩;refine⟨_,_,rfl,?_⟩;refine B4 (J7 (i:=2) (t:=B5 s a2 aK aP) (Es (wp_call (K4 (Bl (DZ (Kl rfl ⟨_,rfl,_,.inl ⟨rfl,Bq (AL rfl (By ⟨_,⟨s.row,r,rfl,by omega,rfl⟩,?_⟩))⟩⟩)))))));rintro _⟨ts,NF,Gh,rfl⟩;rw[TX ok.row.nd NF Gh];refine LM rfl ⟨true,aK,Au s.ln,_,rfl,rfl,by unfold CO;rw[AU];omega,KC ok.n1,B0,AL rfl ⟨.inr x,rfl,?_⟩⟩;rw[Rv HI,UR HI];unfold B5;rw[show([]++[1]:List Nat)=[1]from rfl,Vp];have u:CO s.ll++[.fz (DR r 0 (Ce s.row))]=CO (s.ll++[⟨r,0,Ce s.row⟩]):=by unfold CO;rw[Bx];rfl
 rw[u];show Ws [.AG,.ow true (As (s.Hk x r) A3 a1 Cg FO FH),.ow true (B5 (s.Hk x r) a2 aK aP),.ow true (BY s.ln b (B8 ps s.row q)),.is (.str x),.is (.str r),.is (GZ ps s.row (DV ps s.row ⟨r,0,Ce s.row⟩))] _ _ _;refine J7 (i:=3) (t:=BY s.ln b (B8 ps s.row q)) (Es (AL rfl (Cm rfl ⟨true,b,Au s.ln,_,rfl,rfl,?_,KC ok.n1,B0,AL rfl ⟨.inr x,rfl,?_⟩⟩)))
 .unfold B8;rw[AU,AU,hd.ql];omega
 rw[Rv HI,UR HI,OV.Fd,ZD9];exact⟨_,f3 _ _ _,f3 a1 a2 b,rfl,Jn rfl rfl rfl,Jn ⟨_,_,rfl⟩ ⟨_,_,rfl⟩ ⟨_,_,rfl⟩,rfl,s.Hk x r,_,⟨Cg,FO,FH,rfl⟩,⟨aK,aP,rfl⟩,rfl,hd.Hk HI hx JG Ve,by show(s.ln++[x]).length=_;rw[B2];rfl⟩
def ZEd:Ae ["row","name","at"] ["row","name","at"] (AM W0):=by walk_at "z1"
def wN(F:AF K "check_put" "check_put" W0 f fd)(m:mg "check_put"=some (.ref f)):
  A9 P w K mg Zv "check_put" 2 ["row","name","at"] (bI):=by
 refine A9.mk F (F.binds (by walk_at "bD3")) m (F.BJ (k:=1) ZEd (λvs H Q E h=>?_) (λAY A outer s H vs Q E e h=>?_))
 .obtain⟨a,tp,ns,x,i,rfl,d,⟨h1,h2,j,g⟩,q⟩:=h;rfl
 obtain⟨a,tp,ns,x,i,rfl,d,⟨h1,h2,j,g⟩,q⟩:=h;refine⟨_,(AH rfl (Ao (DW (Ew (AS Ij e (A0 (qv 1) A5)))) (AE rfl Dq) Az)
   (AH rfl (Ao (Ad FK (qv 1) (qv 0)) (AE rfl Dq) Az)
   (AH rfl (Ao (DW (MQ FV FV A7 (qv 2) (B6 EZ Ar (A0 (qv 0) A5)))) (AE rfl Dq) Az)
   (AE rfl (Ao (Ad KY (B6 EZ Ar (A0 (qv 0) A5)) (Js (v:=.int 40) (by rfl) Mr ⟨_,rfl⟩)) (AE rfl Dq) Az))))),?_⟩
 have c:=Lw.DC ns;refine⟨_,rfl,x,rfl,by have:=h1.2.1;omega,λH1 s1=>⟨_,rfl,?_⟩⟩;refine BU (by rw[Vb h1];decide) ?_;have b:=s1 _ _ d;refine⟨_,rfl,_,rfl,a,_,rfl,(BN.sq (K:=K) b).or,rfl,EB ns,_,rfl,?_⟩;refine BU (by show ¬ (DI (V.str x) (ns.map V.str))=true;rw[J8,uz h2];decide) ?_;refine⟨_,rfl,_,_,rfl,rfl,_,rfl,Hm (rg (by omega)) ?_⟩;refine⟨_,rfl,a,_,rfl,(BN.sq (K:=K) b).or,_,_,rfl,rfl,_,rfl,RG (by rw[c];omega) ?_⟩;refine⟨_,rfl,a,_,rfl,(BN.sq (K:=K) b).or,_,_,rfl,rfl,_,rfl,BU (by rw[c,uz (by omega)];decide) ?_⟩;exact q _ s1
def ZA7:Ae ["row","name","at"] ["row","name","at"] (AM Xo):=by walk_at "z1"
def yo(F:AF K "check_move" "check_move" Xo f fd)(m:mg "check_move"=some (.ref f)):
  A9 P w K mg Zv "check_move" 2 ["row","name","at"] (nU):=by
 refine A9.mk F (F.binds (by walk_at "bD3")) m (F.BJ (k:=1) ZA7 (λvs H Q E h=>?_) (λAY A outer s H vs Q E c h=>?_))
 .obtain⟨a,tp,ns,x,i,rfl,b,⟨h1,h2⟩,q⟩:=h;rfl
 obtain⟨a,tp,ns,x,i,rfl,b,⟨h1,h2⟩,q⟩:=h;refine⟨_,(AH rfl (D5 (AS El c (A0 (qv 0) (A0 (qv 1) A5))))
   (AE rfl (Ao (DW (MQ FV He A7 (qv 2) (B6 EZ Ar (A0 (qv 0) A5)))) (AE rfl Dq) Az))),?_⟩
 have d:=Lw.DC ns;refine⟨_,rfl,_,rfl,a,tp,ns,x,rfl,b,h1,?_⟩;refine⟨_,rfl,_,_,rfl,rfl,_,rfl,Hm (rg (by omega)) ?_⟩;refine⟨_,rfl,a,_,rfl,(BN.sq (K:=K) b).or,_,_,rfl,rfl,_,rfl,RG (by rw[d];omega) ?_⟩;exact q
def ZI3:Ae ["row","low","high"] ["row","low","high"] (AM Xq):=by walk_at "z1"
def vf(F:AF K "check_turn" "check_turn" Xq f fd)(m:mg "check_turn"=some (.ref f)):
  A9 P w K mg Zv "check_turn" 1 ["row","low","high"] (fD):=by
 refine A9.mk F (F.binds (by walk_at "bD3")) m (F.BJ (k:=0) ZI3 (λvs H Q E h=>?_) (λAY A outer s H vs Q E d h=>?_))
 .obtain⟨a,tp,ns,lo,hi,rfl,b,⟨h1,h2⟩,q⟩:=h;rfl
 obtain⟨a,tp,ns,lo,hi,rfl,b,⟨h1,h2⟩,q⟩:=h;refine⟨_,(AH rfl (Ao (DW (MQ FV FV A7 (qv 1) (B6 EZ Ar (A0 (qv 0) A5)))) (AE rfl Dq) Az)
   (AE rfl (Ao (DW (MQ FV FV (qv 1) (qv 2) (B6 EZ Ar (A0 (qv 0) A5)))) (AE rfl Dq) Az))),?_⟩
 have c:=Lw.DC ns;refine⟨_,rfl,_,_,rfl,rfl,_,rfl,Hm (rg (by omega)) ?_⟩;refine⟨_,rfl,a,_,rfl,(BN.sq (K:=K) b).or,_,_,rfl,rfl,_,rfl,RG (by rw[c];omega) ?_⟩;refine⟨_,rfl,_,rfl,_,_,rfl,rfl,_,rfl,Hm (rg (by omega)) ?_⟩;refine⟨_,rfl,a,_,rfl,(BN.sq (K:=K) b).or,_,_,rfl,rfl,_,rfl,RG (by rw[c];omega) ?_⟩;exact q
def ZBE:Ae ["row","deed"] ["row","deed"] (AM VC):=by walk_at "z1"
def ZE3(F:AF K "check_deed" "check_deed" VC f fd)(m:mg "check_deed"=some (.ref f)):
  A9 P w K mg Zv "check_deed" 3 ["row","deed"] (mn):=by
 refine A9.mk F (F.binds (by walk_at "bD2")) m (F.BJ (k:=2) ZBE (λvs H Q E h=>?_) (λAY A outer s H vs Q E e h=>?_))
 .obtain⟨a,t,tp,ns,d,rfl,c,b,hd,q⟩:=h;rfl
 obtain⟨a,t,tp,ns,d,rfl,c,b,hd,q⟩:=h;refine⟨_,(AE rfl (Ao (Ad CL (AI AN (qv 1) A7) Ap) (AE rfl (D5 (AS ZC e (A0 (qv 0) (A0 (AI AN (qv 1) A7) (A0 (AI AN (qv 1) A7) A5)))))) (AE rfl (Ao (Ad CL (AI AN (qv 1) A7) Ap) (AE rfl (D5 (AS El e (A0 (qv 0) (A0 (AI AN (qv 1) A7) A5))))) (AE rfl (Ao (Ad CL (AI AN (qv 1) A7) Ap) (AE rfl (D5 (AS YI e (A0 (qv 0) (A0 (AI AN (qv 1) A7) (A0 (AI AN (qv 1) A7) A5)))))) (AE rfl (D5 (AS ZK e (A0 (qv 0) (A0 (AI AN (qv 1) A7) (A0 (AI AN (qv 1) A7) A5)))))))))))),?_⟩;cases d with
 |put x i=>
  refine⟨_,rfl,t,_,_,_,rfl,rfl,AD.of b,rfl,rfl,_,rfl,Hm (by decide +kernel) ?_⟩;exact⟨_,rfl,_,rfl,t,_,_,_,rfl,rfl,AD.of b,rfl,_,rfl,t,_,_,_,rfl,rfl,AD.of b,rfl,a,tp,ns,x,i,rfl,c,hd,q⟩
 |take x=>
  refine⟨_,rfl,t,_,_,_,rfl,rfl,AD.of b,rfl,rfl,_,rfl,BU (by decide +kernel) ?_⟩;refine⟨_,rfl,t,_,_,_,rfl,rfl,AD.of b,rfl,rfl,_,rfl,Hm (by decide +kernel) ?_⟩;exact⟨_,rfl,_,rfl,t,_,_,_,rfl,rfl,AD.of b,rfl,a,tp,ns,x,rfl,c,hd,q _ (A8.refl _)⟩
 |move x i=>
  refine⟨_,rfl,t,_,_,_,rfl,rfl,AD.of b,rfl,rfl,_,rfl,BU (by decide +kernel) ?_⟩;refine⟨_,rfl,t,_,_,_,rfl,rfl,AD.of b,rfl,rfl,_,rfl,BU (by decide +kernel) ?_⟩;refine⟨_,rfl,t,_,_,_,rfl,rfl,AD.of b,rfl,rfl,_,rfl,Hm (by decide +kernel) ?_⟩;exact⟨_,rfl,_,rfl,t,_,_,_,rfl,rfl,AD.of b,rfl,_,rfl,t,_,_,_,rfl,rfl,AD.of b,rfl,a,tp,ns,x,i,rfl,c,hd,q _ (A8.refl _)⟩
 |turn lo hi=>
  refine⟨_,rfl,t,_,_,_,rfl,rfl,AD.of b,rfl,rfl,_,rfl,BU (by decide +kernel) ?_⟩;refine⟨_,rfl,t,_,_,_,rfl,rfl,AD.of b,rfl,rfl,_,rfl,BU (by decide +kernel) ?_⟩;refine⟨_,rfl,t,_,_,_,rfl,rfl,AD.of b,rfl,rfl,_,rfl,BU (by decide +kernel) ?_⟩;exact⟨_,rfl,_,rfl,t,_,_,_,rfl,rfl,AD.of b,rfl,_,rfl,t,_,_,_,rfl,rfl,AD.of b,rfl,a,tp,ns,lo,hi,rfl,c,hd,q _ (A8.refl _)⟩
def ZG7:Ae ["row","low","high"] ["row","low","high"] (AM Wh):=by walk_at "z1"
def ZCD(F:AF K "row_turned" "row_turned" Wh f fd)(m:mg "row_turned"=some (.ref f)):
  A9 P w K mg Zv "row_turned" 1 ["row","low","high"] (de):=by
 refine A9.mk F (F.binds (by walk_at "bD3")) m (F.BJ (k:=0) ZG7 (λvs H Q E h=>?_) (λAY A outer s H vs Q E N h=>?_))
 .obtain⟨a,tp,ns,lo,hi,rfl,b,Lr,L,h1,h2,q⟩:=h;rfl
 obtain⟨a,tp,ns,lo,hi,rfl,b,Lr,L,h1,h2,q⟩:=h;refine⟨_,(AE rfl (AZ (Ay Hw (Ay Hw (Cy Kc CD (A0 (DF LG (qv 0) Dt (Cu (qv 1))) A5)) (iw rfl rfl CD rfl Mx (A0 (DF LG (qv 0) (Cu (qv 1)) (Cu (qv 2))) A5))) (Cy Kc CD (A0 (DF LG (qv 0) (Cu (qv 2)) Dt) A5))))),?_⟩;have M:=Lw.DC ns;have c:∀n:Nat,n<=2001->n<=sizeLine:=λn h=>Cc h (by decide +kernel);refine⟨_,rfl,_,rfl,_,rfl,a,tp,_,rfl,BN.sq b,λy H1 s1 t=>?_⟩;rw[OB]at t;refine⟨y,_,rfl,t.or,λl1 n1=>?_⟩;have t1:=Aa n1 (.lst ((ns.map V.str).take lo));have s2:=s1.trans t1;refine⟨_,rfl,_,rfl,_,rfl,_,rfl,_,rfl,a,tp,_,rfl,BN.sq (s2 _ _ b),λx H3 l r=>?_⟩;rw[la _ h1 (by rw[M];exact h2)]at r;refine⟨x,tp,_,rfl,r,Lr,λJ C=>?_⟩;have e:=Aa C (.lst (((ns.map V.str).drop lo).take (hi - lo)).reverse);refine⟨l1,J,_,_,rfl,rfl,e _ _ (l _ _ AJ),AJ,c _ (by simp only[Bi,QZ,Ct];omega),λI B=>?_⟩;have u:=Aa B (.lst ((ns.map V.str).take lo++(((ns.map V.str).drop lo).take (hi - lo)).reverse));have j:=s2.trans (l.trans (e.trans u));refine⟨_,rfl,_,rfl,_,rfl,a,tp,_,rfl,BN.sq (j _ _ b),λv H6 i p=>?_⟩;rw[OF]at p;refine⟨v,_,rfl,p.or,λG z=>?_⟩;have d:=Aa z (.lst ((ns.map V.str).drop hi));refine⟨I,G,_,_,rfl,rfl,d _ _ (i _ _ AJ),AJ,c _ (by simp only[B2,Bi,Ct,QZ];omega),λD o=>?_⟩;have g:=j.trans (i.trans d);refine q D _ (A8.none g o) (g.trans (Aa o _)) ?_;rw[AJ];unfold FZ;simp only[Bx,Nb,Na,ZIP,Bd]
def ZGJ:Ae ["row","name","at"] ["row","name","at"] (AM W6):=by walk_at "z1"
def tF(F:AF K "row_with" "row_with" W6 f fd)(m:mg "row_with"=some (.ref f)):
  A9 P w K mg Zv "row_with" 1 ["row","name","at"] (lY):=by
 refine A9.mk F (F.binds (by walk_at "bD3")) m (F.BJ (k:=0) ZGJ (λvs H Q E h=>?_) (λAY A outer s H vs Q E G h=>?_))
 .obtain⟨a,tp,ns,x,i,rfl,c,D,q⟩:=h;rfl
 obtain⟨a,tp,ns,x,i,rfl,c,D,q⟩:=h;refine⟨_,(AE rfl (AZ (Ay Hw (Ay Hw (Cy Kc CD (A0 (DF LG (qv 0) Dt (Cu (qv 2))) A5)) (FA (A0 (qv 1) A5))) (Cy Kc CD (A0 (DF LG (qv 0) (Cu (qv 2)) Dt) A5))))),?_⟩;have I:=Lw.DC ns;have b:∀n:Nat,n<=2001->n<=sizeLine:=λn h=>Cc h (by decide +kernel);refine⟨_,rfl,_,rfl,_,rfl,a,tp,_,rfl,BN.sq c,λt H1 s1 o=>?_⟩;rw[OB]at o;refine⟨t,_,rfl,o.or,λl1 n1=>?_⟩;have t1:=Aa n1 (.lst ((ns.map V.str).take i));refine⟨_,rfl,b _ (by show 1<=2001;decide),λl2 y=>?_⟩;have t2:=Aa y (.lst [.str x]);refine⟨l1,l2,_,_,rfl,rfl,t2 _ _ AJ,AJ,b _ (by simp only[Bi,Kj];omega),λC v=>?_⟩;have p:=Aa v (.lst ((ns.map V.str).take i++[.str x]));have g:=s1.trans (t1.trans (t2.trans p));refine⟨_,rfl,_,rfl,_,rfl,a,tp,_,rfl,BN.sq (g _ _ c),λr H4 s4 l=>?_⟩;rw[OF]at l;refine⟨r,_,rfl,l.or,λB u=>?_⟩;have d:=Aa u (.lst ((ns.map V.str).drop i));refine⟨C,B,_,_,rfl,rfl,d _ _ (s4 _ _ AJ),AJ,b _ (by simp only[B2,Bi,Ct,Kj];omega),λz j=>?_⟩;have e:=g.trans (s4.trans d);refine q z _ (A8.none e j) (e.trans (Aa j _)) ?_;rw[AJ];unfold ins;simp only[Bx,Nb,Bs,Na,Bd,List.singleton_append]
def ZDW:Ae ["row","name"] ["row","name"] (AM T1):=by walk_at "z1"
def vY:=Sc [(".0",.local),("thing",.local),("name",.free)]
def ZCg:Cr ["row","name"] (AM T1) vY "thing" ["name"] [1]:=by walk_at "z2"
def ZCd(F:AF K "row_without" "row_without" T1 f fd)(m:mg "row_without"=some (.ref f)):
  A9 P w K mg Zv "row_without" 1 ["row","name"] (jm):=by
 refine A9.mk F (F.binds (by walk_at "bD2")) m (F.BJ (k:=0) ZDW (λvs H Q E h=>?_) (λAY A outer s H vs Q E j h=>?_))
 .obtain⟨a,tp,ns,x,rfl,b,e,q⟩:=h;rfl
 obtain⟨a,tp,ns,x,rfl,b,e,q⟩:=h;refine⟨_,(AE rfl (AZ (Fx rfl ZCg (DS (qv 0)) (λ_ _ _ _=>by exact(Fh (Ad IP (qv 1) (qv 0)))) (λ_ _ _ _=>by exact(qv 1))))),?_⟩;have g:=Lw.DC ns;refine⟨_,rfl,tp,a,_,rfl,BN.sq b,λacc Aq=>Jk (I0 (.str x)) (λv=>v) (BN.sq b) Aq (by rw[g];exact small (by omega)) (λi v H' Q' c s1 h=>?_) (λi v H' Q' c _ s1 h=>?_) (λH' s1 d=>?_)⟩
 .obtain⟨y,rfl,l⟩:=Jh c;exact⟨_,rfl,_,rfl,rfl,_,rfl,h H' (A8.refl _)⟩
 .exact⟨_,rfl,h H' (A8.refl _)⟩
 .rw[Pd]at d;exact q acc H' Aq s1 d
def ZHI:Ae ["row","deed"] ["row","deed"] (AM Y9):=by walk_at "z1"
def p8(F:AF K "done" "done" Y9 f fd)(m:mg "done"=some (.ref f)):
  A9 P w K mg Zv "done" 4 ["row","deed"] (Zg):=by
 refine A9.mk F (F.binds (by walk_at "bD2")) m (F.BJ (k:=3) ZHI (λvs H Q E h=>?_) (λAY A outer s H vs Q E g h=>?_))
 .obtain⟨a,t,tp,ns,d,rfl,p,o,Lr,hd,u,q⟩:=h;rfl
 obtain⟨a,t,tp,ns,d,rfl,p,o,Lr,hd,u,q⟩:=h;refine⟨_,(AH rfl (D5 (AS XM g (A0 (qv 0) (A0 (qv 1) A5))))
   (AH rfl (Ao (Ad CL (AI AN (qv 1) A7) Ap) (AE rfl (AZ (AS Rg g (A0 (qv 0) (A0 (AI AN (qv 1) A7) (A0 (AI AN (qv 1) A7) A5)))))) Az)
   (AH rfl (Ao (Ad CL (AI AN (qv 1) A7) Ap) (AE rfl (AZ (AS Rk g (A0 (qv 0) (A0 (AI AN (qv 1) A7) A5))))) Az)
   (AH rfl (Ao (Ad CL (AI AN (qv 1) A7) Ap) (AE rfl (AZ (AS Rg g (A0 (AS Rk g (A0 (qv 0) (A0 (AI AN (qv 1) A7) A5))) (A0 (AI AN (qv 1) A7) (A0 (AI AN (qv 1) A7) A5)))))) Az)
   (AE rfl (AZ (AS XA g (A0 (qv 0) (A0 (AI AN (qv 1) A7) (A0 (AI AN (qv 1) A7) A5)))))))))),?_⟩
 refine⟨_,rfl,_,rfl,a,t,tp,ns,d,rfl,p,o,hd,λH1 s1=>?_⟩;have b:=s1 _ _ o;have j:=s1 _ _ p;have c:KI H1 Q (d.done ns):=λl H' n s e=>q l H' (A8.none s1 n) (s1.trans s) e;cases d with
 |put x i=>
  refine⟨_,rfl,t,_,_,_,rfl,rfl,AD.of b,rfl,rfl,_,rfl,Hm (by decide +kernel) ?_⟩;exact⟨_,rfl,_,rfl,t,_,_,_,rfl,rfl,AD.of b,rfl,_,rfl,t,_,_,_,rfl,rfl,AD.of b,rfl,a,tp,ns,x,i,rfl,j,by omega,c⟩
 |take x=>
  refine⟨_,rfl,t,_,_,_,rfl,rfl,AD.of b,rfl,rfl,_,rfl,BU (by decide +kernel) ?_⟩;refine⟨_,rfl,t,_,_,_,rfl,rfl,AD.of b,rfl,rfl,_,rfl,Hm (by decide +kernel) ?_⟩;exact⟨_,rfl,_,rfl,t,_,_,_,rfl,rfl,AD.of b,rfl,a,tp,ns,x,rfl,j,by omega,c⟩
 |move x i=>
  refine⟨_,rfl,t,_,_,_,rfl,rfl,AD.of b,rfl,rfl,_,rfl,BU (by decide +kernel) ?_⟩;refine⟨_,rfl,t,_,_,_,rfl,rfl,AD.of b,rfl,rfl,_,rfl,BU (by decide +kernel) ?_⟩;refine⟨_,rfl,t,_,_,_,rfl,rfl,AD.of b,rfl,rfl,_,rfl,Hm (by decide +kernel) ?_⟩;refine⟨_,rfl,_,rfl,t,_,_,_,rfl,rfl,AD.of b,rfl,a,tp,ns,x,rfl,j,by omega,λl2 H2 y s2 v=>?_⟩;have r:=s2 _ _ b;have hw:(wo ns x).length<=ns.length:=HB _ _;exact⟨_,rfl,t,_,_,_,rfl,rfl,AD.of r,rfl,_,rfl,t,_,_,_,rfl,rfl,AD.of r,rfl,l2,false,wo ns x,x,i,rfl,v,by omega,λl H' n s e=>c l H' (A8.none s2 n) (s2.trans s) e⟩
 |turn lo hi=>
  refine⟨_,rfl,t,_,_,_,rfl,rfl,AD.of b,rfl,rfl,_,rfl,BU (by decide +kernel) ?_⟩;refine⟨_,rfl,t,_,_,_,rfl,rfl,AD.of b,rfl,rfl,_,rfl,BU (by decide +kernel) ?_⟩;refine⟨_,rfl,t,_,_,_,rfl,rfl,AD.of b,rfl,rfl,_,rfl,BU (by decide +kernel) ?_⟩;exact⟨_,rfl,_,rfl,t,_,_,_,rfl,rfl,AD.of b,rfl,_,rfl,t,_,_,_,rfl,rfl,AD.of b,rfl,a,tp,ns,lo,hi,rfl,j,Lr,by omega,hd.1,hd.2,c⟩
def Uq:Ae ["self","deed","behind","name"] ["self","deed"] (AM UQ):=by walk_at "z1"
def bq:∀ss R,(RT A3) ss R->ss.length=2:=by rintro _ _⟨m,s,a,t,d,rfl,_,_,_,_,rfl⟩;rfl
def ZDv(F:AF K "act" "Yard.act" UQ f fd)(n:Meth K A3 "act" f):
  Bc P w K mg Zv A3 "act" 9 ["self","deed"] (CI (RT A3)):=by
 refine⟨f,fd,F.BJ (k:=8) Uq (λvs H Q E h=>Fz.PX bq h) (λAY A outer s H vs Q E b h=>?_),(F.binds (by walk_at "bD2")),n,Ai⟩
 refine⟨_,(AH rfl (Ax 2 Uq.nd (AS Zp b (A0 (Cb (qv 0)) (A0 (qv 1) A5))))
   (AH rfl (CS (Fy FE rfl (DS (Cy (mR rfl) CD (A0 (Cb (qv 0)) A5))) (D0 3 Uq.nd) (AE rfl (JK (Bj b) (Cb (qv 0)) (qv 3) (AS N1 b (A0 (Cb (qv 0)) (A0 (D2 (Bj b) (Cb (qv 0)) (qv 3) (λ_ _=>rfl)) (A0 (qv 1) A5))))))))
   (AH rfl (D5 (G7 HC MC MD K8 (Cb (qv 0)) (A0 (Bn (A0 (Cb (qv 0)) (A0 (qv 1) A5))) A5)))
   (AE rfl (Nr (qv 0) (qv 2)))))),?_⟩
 refine Fz.VN h bq ?_;rintro _ _⟨m,s,a,t,d,rfl,o,ok,hd,hp,rfl⟩;obtain⟨dx,aK,aP,rfl⟩:=o;show Ws [_,_,.any,.any] _ _ _;have l1:=ok.l1;have y:=ok.Iv;have b:=ok.row.len;have z:=ok.m4;refine B4 (Lb (sS (Bl (DZ (Ni rfl Ai CA ⟨_,rfl,_,.inl ⟨rfl,rfl,s.row,rfl,AL rfl ⟨d,rfl,hd,by omega,?_⟩⟩⟩)))));refine Si 2 rfl ?_;show Ws [.ow true (As s A3 a dx aK aP),.is (dP d),.is (.lst ((d.done s.row).map .str)),.any] _ _ _;refine B4 (Fm (Gu (λ_ i AA=>∃(c:Slot)(t':OV),AA=[.ow true t',.is (dP d),.is (.lst ((d.done s.row).map .str)),c]/\Ea (s.mid d i) A3 a t') (Jz (HF (EM (iX (Ku rfl Ai Df ⟨Au s.ln,aK,_,rfl,by unfold Au;rw[AU];omega,_,.inl ⟨rfl,?_⟩⟩)))))));rw[mh];refine⟨⟨_,_,rfl,dx,aK,aP,rfl⟩,?_,?_⟩
 .rintro i p AA hp⟨c,t',rfl,G1⟩;rw[Am]at hp;obtain⟨x,hx,rfl⟩:=Option.map_eq_some_iff.mp hp;refine IL ?_;obtain⟨Cg,C9,CM,rfl⟩:=G1;have e:x∈s.ln:=DQ hx;have j:s.ln.idxOf x=i:=NN ok.n1 hx;have hi:i<s.ln.length:=(List.getElem?_eq_some_iff.mp hx).1;obtain⟨l,el⟩:∃l,s.ll[i]?=some l:=⟨_,B7 (by omega)⟩;have q:=ok.good l (DQ el);refine J7 (i:=0) (t:=As (s.mid d i) A3 a Cg C9 CM) (Es (fS (Bl (DZ (Ni rfl Ai CA ⟨_,rfl,_,.inl ⟨rfl,s.row,rfl,?_⟩⟩)))));refine DZ (NC (Ku rfl Ai Df ⟨Au s.ln,C9,_,rfl,AL rfl ⟨.inr x,i,.fz l.P,rfl,by rw[QH e,j],Ue (eA el),_,rfl,l.r,l.g,l.cs,rfl,AL rfl ⟨d,rfl,hd,q,by omega,?_⟩⟩⟩));refine Ku rfl Ai Df ⟨true,C9,Au s.ln,_,rfl,rfl,by unfold CO;rw[AU];show(Fl s d i).length<=99999;rw[mW];omega,KC ok.n1,B0,AL rfl ⟨.inr x,rfl,?_⟩⟩;rw[Nx e,P5 e];unfold As;rw[show([]++[1]:List Nat)=[1]from rfl,UX,j];have v:(CO (s.mid d i).ll).set i (.fz (DR l.r (d.gap s.row l.g) (d.Fj l.r l.g l.cs)))=CO (Fl s d (i+1)):=by
   rw[<- nK el];exact T4 _ _ (l.led s.row d)
  rw[v];exact⟨_,_,rfl,Cg,C9,CM,rfl⟩
 .rintro AA⟨c,t',rfl,G1⟩;rw[AU,l1]at G1;obtain⟨Cg,C9,CM,rfl⟩:=G1;have u:(s.mid d s.ll.length).ll=s.ll.map (Lp.led s.row d):=jd s d;refine B4 (cO (i:=0) (t:=As (s.mid d s.ll.length) A3 a Cg C9 CM) (ZAd rfl Ai FJ ⟨true,CM,_,rfl,rfl,by rw[AU];show s.pa.length<=99999;omega,Es (KO (Iz (DZ (Ni rfl Ai CA ⟨_,rfl,Iz (AL rfl (MZ ⟨by show 2<=100000;decide,B0,?_⟩))⟩))))⟩));unfold As;rw[show([]++[2]:List Nat)=[2]from rfl,qY,u];have ep:s.pa.map .fz++[.fz (.tup [.lst (s.row.map .str),dP d])]=(s.pa++[JI s.row d]).map OV.fz:=by rw[Bx];rfl
  show Ws [.ow true (.nd (.obj A3 Cg yN) a [.fz (.lst (s.row.map .str)),.nd (.B1 (Au s.ln)) C9 (CO (s.ll.map (Lp.led s.row d))),.nd .lst CM (s.pa.map .fz++[.fz (.tup [.lst (s.row.map .str),dP d])]),.fz (.int s.fg)]),.is (dP d),.is (.lst ((d.done s.row).map .str)),c] _ _ _;rw[ep];refine Q4 (i:=0) (Es (AL rfl (Cm rfl ⟨true,A3,Cg,yN,a,_,rfl,rfl,Ai,CA,by decide,B0,?_⟩)));rw[OV.Fd];exact⟨_,_,_,_,rfl,rfl,rfl,Cg,C9,CM,rfl⟩
def U0:Ae ["row","deed","made","low","high"] ["row","deed"] (AM Qi):=by walk_at "z1"
def xH:=Sc [(".0",.local),("name",.local),("deed",.free)]
def ZED:Cr ["row","deed","made","low","high"] (AM Qi) xH "name" ["deed"] [1]:=by walk_at "z2"
def uD(F:AF K "_law_done" "_law_done" Qi f fd)(m:mg "_law_done"=some (.ref f)):
  A9 P w K mg Zv "_law_done" 1 ["row","deed"] (WN):=by
 refine A9.mk F (F.binds (by walk_at "bD2")) m (F.BJ (k:=0) U0 (λvs H Q E h=>?_) (λAY A outer s H vs Q E hr h=>?_))
 .obtain⟨a,t,ns,d,rfl,b,l,hd,M,nd,q⟩:=h;rfl
 obtain⟨a,t,ns,d,rfl,b,l,hd,M,nd,q⟩:=h;refine⟨_,(AH rfl (QQ (i:=2) U0.nd rfl (Or.inl rfl) rfl ZED (DS (qv 0)) (λ_ _ _ _=>by exact(Fh (Ad IP (qv 1) (AI (show FU _ (KQ K)from AN) (qv 0) A7)))) (λ_ _ _ _=>by exact(qv 1)))
   (AH rfl (Ao (Ad CL (AI AN (qv 1) A7) Ap) (AH rfl (PK (DF lN (qv 1) (Cu A7) Dt) (Pn rfl (Gm (D0 3 U0.nd) (Gm (D0 4 U0.nd) O2))))
   (AE rfl (AZ (Ay Hw (Ay Hw (DF J9 (qv 0) Dt (Cu (qv 3))) (iw rfl rfl CD rfl Mx (A0 (DF J9 (qv 0) (Cu (qv 3)) (Cu (qv 4))) A5))) (DF J9 (qv 0) (Cu (qv 4)) Dt))))) Az)
   (AH rfl (CS (Ao (Ad IP (AI AN (qv 1) A7) Ap) (AE rfl (D5 (G7 HC ZIc PySem.F.type_list_insert ZHt (qv 2) (A0 (AI AN (qv 1) A7) (A0 (AI AN (qv 1) A7) A5))))) Az))
   (AE rfl (AZ (qv 2)))))),?_⟩
 have N:=Lw.DC ns;have z:∀n:Nat,n<=2001->n<=sizeLine:=λn h=>Cc h (by decide +kernel);have O:CQ K false H a (ns.map V.str):=AK.of b;have R:=uT ns d;refine⟨_,rfl,false,a,_,rfl,O,λacc Aq=>Jk (I0 d.v1) (λv=>v) O Aq (by rw[N];exact small (by omega)) (λi v H' Q' e s1 h=>?_) (λi v H' Q' e _ s1 h=>?_) (λH' s1 g=>?_)⟩
 .obtain⟨y,rfl,hm⟩:=Jh e;exact⟨_,rfl,_,rfl,t,_,_,_,rfl,rfl,AD.of (s1 _ _ l),lZ d,ZEI y d,_,rfl,h H' (A8.refl _)⟩
 .exact⟨_,rfl,h H' (A8.refl _)⟩
 have c:=s1 _ _ l;rw[pj]at g;refine⟨_,rfl,t,_,_,_,rfl,rfl,AD.of c,HD d,rfl,_,rfl,BA (λu=>?_) (λu=>?_)⟩
 .obtain⟨lo,hi,rfl⟩:=ZBd u;obtain⟨h1,h2⟩:=hd;refine⟨_,rfl,_,rfl,t,_,rfl,AD.of c,(λh=>absurd h.1 (show ¬ HT.Ak 3 0 (some 1)=0 by decide)),λp n=>?_⟩;have n1:=Aa n (.tup (CK (AQ.turn lo hi).vals (some 1) none));refine⟨p,_,rfl,AD.of AJ,rfl,_,_,rfl,_,_,rfl,rfl,?_⟩;have s2:=s1.trans n1;have o:=s2 _ _ b;refine⟨_,rfl,_,rfl,_,rfl,a,_,rfl,AK.of o,λl3 σ=>?_⟩;rw[OB];have T:=Aa σ (.lst ((ns.map V.str).take lo));have J:=s2.trans T;refine⟨_,rfl,_,rfl,_,rfl,_,rfl,_,rfl,a,_,rfl,AK.of (J _ _ b),λl4 Y=>?_⟩;rw[la _ h1 (by rw[N];exact h2)];have D:=Aa Y (.lst (((ns.map V.str).drop lo).take (hi - lo)));refine⟨l4,false,_,rfl,AK.of AJ,rfl,λl5 X=>?_⟩;have C:=Aa X (.lst (((ns.map V.str).drop lo).take (hi - lo)).reverse);refine⟨l3,l5,_,_,rfl,rfl,C _ _ (D _ _ AJ),AJ,z _ (by simp only[Bi,QZ,Ct];omega),λl6 W=>?_⟩;have S:=Aa W (.lst ((ns.map V.str).take lo++(((ns.map V.str).drop lo).take (hi - lo)).reverse));have I:=J.trans (D.trans (C.trans S));refine⟨_,rfl,_,rfl,_,rfl,a,_,rfl,AK.of (I _ _ b),λl7 U=>?_⟩;rw[OF];have B:=Aa U (.lst ((ns.map V.str).drop hi));refine⟨l6,l7,_,_,rfl,rfl,B _ _ AJ,AJ,z _ (by simp only[B2,Bi,Ct,QZ];omega),λl8 L=>?_⟩;have G:=I.trans B;refine q l8 _ (A8.none G L) (G.trans (Aa L _)) ?_;rw[AJ];show some (HO.lst _)=some (HO.lst ((FZ ns lo hi).map V.str));unfold FZ;simp only[Bx,Nb,Na,ZIP,Bd]
 .refine⟨λσ' H'=>σ'=[some (.ref a),some (.ref t),some (.ref acc),none,none]/\A8 H H'/\H' acc=some (.lst ((d.done ns).map V.str)),?_,?_⟩
  .refine⟨_,rfl,t,_,_,_,rfl,rfl,AD.of c,HD d,rfl,_,rfl,BA (λr=>?_) (λr=>⟨rfl,s1,by rw[ZCc r];exact g⟩)⟩;obtain⟨x,i,Mh,e,Dx,j⟩:=tL hd nd u r;refine⟨_,rfl,.inl ⟨rfl,_,AK.of g⟩,_,rfl,t,_,_,_,rfl,rfl,AD.of c,Mh,_,rfl,t,_,_,_,rfl,rfl,AD.of c,lZ d,acc,_,_,_,rfl,rfl,g,by omega,by rw[Lw.DC];omega,by rw[Lw.DC];exact IW R (IW M (by decide +kernel)),?_⟩;refine⟨rfl,uO s1 Aq,?_⟩;rw[AJ,j,e];unfold ins;simp only[Bx,Nb,Bs,Na,Ly]
  .rintro σ' H2⟨rfl,s2,o⟩;exact⟨_,rfl,q acc H2 Aq s2 o⟩
def ZY:Ae ["row","gap","deed"] ["row","gap","deed"] (AM XQ):=by walk_at "z1"
def rC(F:AF K "_law_gap" "_law_gap" XQ f fd)(m:mg "_law_gap"=some (.ref f)):
  A9 P w K mg Zv "_law_gap" 1 ["row","gap","deed"] (m6):=by
 refine A9.mk F (F.binds (by walk_at "bD3")) m (F.BJ (k:=0) ZY (λvs H Q E h=>?_) (λAY A outer s H vs Q E o h=>?_))
 .obtain⟨a,t,ns,g,d,rfl,l,b,ok,q⟩:=h;rfl
 obtain⟨a,t,ns,g,d,rfl,l,b,ok,q⟩:=h;refine⟨_,(AH rfl (CS (Ao (Ad FK (AI AN (qv 2) A7) (Bn (A0 Ap (A0 Ap A5)))) (AE rfl (Ax 1 ZY.nd (Ay Mf (qv 1) (Cy YX IK (A0 (E7 He (G7 HC bC oQ WK (qv 0) (A0 (AI AN (qv 2) A7) A5)) (qv 1)) A5))))) Az))
   (AH rfl (CS (Ao (Ad FK (AI AN (qv 2) A7) (Bn (A0 Ap (A0 Ap A5)))) (AE rfl (Ax 1 ZY.nd (Ay EL (qv 1) (Cy YX IK (A0 (E7 He (AI AN (qv 2) A7) (qv 1)) A5))))) Az))
   (AE rfl (AZ (qv 1))))),?_⟩
 refine⟨λσ' H'=>σ'=[some (.ref a),some (.int (d.P8 ns g:Nat)),some (.ref t)]/\A8 H H',?_,?_⟩
 .refine⟨_,rfl,t,_,_,_,rfl,rfl,AD.of b,HD d,(by show 2<=sizeLine;decide),λt1 Oo=>?_⟩;have n1:=Aa Oo (.tup [.str "take",.str "move"]);refine⟨t1,_,rfl,.inr (AD.of AJ),rfl,rfl,_,rfl,?_⟩;show if DI (.str d.kind) [.str "take",.str "move"]=true then _ else _
  refine BA (λc=>?_) (λc=>?_)
  .obtain⟨x,WX,Ls,j⟩:=yC g ok c;refine⟨_,rfl,_,rfl,.inl ⟨rfl,_,AK.of (n1 _ _ l)⟩,_,rfl,t,_,_,_,rfl,rfl,AD.of (n1 _ _ b),WX,a,ns,x,rfl,rfl,AK.of (n1 _ _ l),Ls,_,rfl,_,_,rfl,rfl,.inr ⟨_,rfl,_,_,rfl,rfl,?_,n1⟩⟩;rw[j,<- xP];rfl
  .refine⟨?_,n1⟩;rw[wO g c];rfl
 rintro σ' H1⟨rfl,s1⟩;have n:=s1 _ _ b;refine⟨λσ' H'=>σ'=[some (.ref a),some (.int (d.gap ns g:Nat)),some (.ref t)]/\A8 H H',?_,?_⟩
 .refine⟨_,rfl,t,_,_,_,rfl,rfl,AD.of n,HD d,(by show 2<=sizeLine;decide),λt2 S8=>?_⟩;have e:=Aa S8 (.tup [.str "put",.str "move"]);refine⟨t2,_,rfl,.inr (AD.of AJ),rfl,rfl,_,rfl,?_⟩;show if DI (.str d.kind) [.str "put",.str "move"]=true then _ else _
  refine BA (λc=>?_) (λc=>?_)
  .obtain⟨i,Mh,Dx⟩:=ZG3 (ns:=ns) g c;refine⟨_,rfl,_,rfl,t,_,_,_,rfl,rfl,AD.of (e _ _ n),Mh,_,rfl,_,_,rfl,rfl,.inr ⟨_,rfl,_,_,rfl,rfl,?_,s1.trans e⟩⟩;rw[Dx,<- vo];rfl
  .refine⟨?_,s1.trans e⟩;rw[ZBh g c]
 rintro σ' H2⟨rfl,s2⟩;exact⟨_,rfl,q _ s2⟩
def MY:Ae ["row","loop","deed","rule","gap","coming"] ["row","loop","deed"] (AM Sn):=by walk_at "z1"
def ZCl:=Sc [(".0",.local),("name",.local),("deed",.free)]
def yE:Cr ["row","loop","deed","rule","gap","coming"] (AM Sn) ZCl "name" ["deed"] [2]:=by walk_at "z2"
def ZHK(F:AF K "_law_led" "_law_led" Sn f fd)(m:mg "_law_led"=some (.ref f)):
  A9 P w K mg Zv "_law_led" 2 ["row","loop","deed"] (XO):=by
 refine A9.mk F (F.binds (by walk_at "bD3")) m (F.BJ (k:=1) MY (λvs H Q E h=>?_) (λAY A outer s H vs Q E hr h=>?_))
 .obtain⟨a,tl,t,c,ns,r,g,ss,d,rfl,Y,⟨σ,G⟩,e,ok,gd,hz,q⟩:=h;rfl
 obtain⟨a,tl,t,c,ns,r,g,ss,d,rfl,Y,⟨σ,G⟩,e,ok,gd,hz,q⟩:=h;refine⟨_,(AH rfl (PK (qv 1) (Pn rfl (Gm (D0 3 MY.nd) (Gm (D0 4 MY.nd) (Gm (D0 5 MY.nd) O2)))))
   (AH rfl (CS (Ao (Ad CL (AI AN (qv 2) A7) Ap) (AE rfl (Ax 5 MY.nd (Cy Io CC (A0 (Fx rfl yE (DS (qv 5)) (λ_ _ _ _=>by exact(Fh (Ad IP (qv 1) (AI (show FU _ (KQ K)from AN) (qv 0) A7)))) (λ_ _ _ _=>by exact(qv 1))) A5)))) Az))
   (AH rfl (CS (Ao (Ke (Ad CL (AI AN (qv 2) A7) Ap) (JY (GH (Ad CL (qv 3) Ap) (HR (Ke (Ad CL (qv 3) Ap) (JY (Ad KY (AI AN (qv 2) A7) (qv 4)))).pt)).pt)).pt (AE rfl (Ax 5 MY.nd (Cy Io CC (A0 (B6 K0 Bm (A0 (Ay lC (qv 5) (Bn (A0 (AI AN (qv 2) A7) A5))) A5)) A5)))) Az))
   (AE rfl (AZ (Bn (A0 (qv 3) (A0 (AS UI hr (A0 (qv 0) (A0 (qv 4) (A0 (qv 2) A5)))) (A0 (qv 5) A5))))))))),?_⟩
 have X:=gd.len;refine⟨_,rfl,tl,_,rfl,AD.of σ,rfl,_,_,rfl,_,_,rfl,_,_,rfl,rfl,?_⟩;refine⟨λσ' H'=>∃b:Addr,σ'=[some (.ref a),some (.ref tl),some (.ref t),some (.str r),some (.int g),some (.ref b)]/\A8 H H'/\(H b=none∨b=c)/\H' b=some (.tup ((d.SD ss).map V.str)),?_,?_⟩
 .refine⟨_,rfl,t,_,_,_,rfl,rfl,AD.of e,HD d,rfl,_,rfl,?_⟩;refine BA (λj=>?_) (λj=>⟨c,rfl,A8.refl _,.inr rfl,by rw[jB j];exact G⟩);obtain⟨x,WX,Ls⟩:=rJ (r:=r) (g:=g) (ss:=ss) j;have JT:CQ K true H c (ss.map V.str):=AD.of G;refine⟨_,rfl,true,c,_,rfl,JT,λacc Aq=>Jk (I0 (.str x)) (λv=>v) JT Aq (by rw[Lw.DC];exact small (by omega)) (λi v H' Q' W s4 h=>?_) (λi v H' Q' W _ s4 h=>?_) (λH4 s4 e4=>?_)⟩
  .obtain⟨y,rfl,_⟩:=Jh W;exact⟨_,rfl,_,rfl,t,_,_,_,rfl,rfl,AD.of (s4 _ _ e),WX,rfl,_,rfl,h _ (A8.refl _)⟩
  .exact⟨_,rfl,h _ (A8.refl _)⟩
  rw[Pd,<- Ls]at e4;exact⟨acc,_,rfl,.inl ⟨AK.of e4,λt5 O4=>⟨t5,rfl,s4.trans (Aa O4 _),.inl (A8.none s4 O4),AJ⟩⟩⟩
 rintro σ' H1⟨p,rfl,s1,I,o⟩;refine⟨λσ' H'=>∃b:Addr,σ'=[some (.ref a),some (.ref tl),some (.ref t),some (.str r),some (.int g),some (.ref b)]/\A8 H H'/\(H b=none∨b=c)/\H' b=some (.tup ((d.Fj r g ss).map V.str)),?_,?_⟩
 .refine⟨_,rfl,t,_,_,_,rfl,rfl,AD.of (s1 _ _ e),HD d,rfl,_,rfl,?_⟩;refine BA (λN=>?_) (λN=>Dh ⟨p,rfl,s1,I,by rw[kg N];exact o⟩);obtain⟨x,i,rfl⟩:=Vu N;replace o:H1 p=some (.tup (ss.map V.str)):=o;refine⟨_,rfl,rfl,_,rfl,?_⟩;refine BA (λj=>?_) (λj=>?_)
  .have n:Di r g i=true:=by unfold Di;rw[sZ j]
   refine L8 ?_;refine⟨_,rfl,_,rfl,t,_,_,_,rfl,rfl,AD.of (s1 _ _ e),rfl,(by show 1<=sizeLine;decide),λC VX=>?_⟩;have l:=Aa VX (.tup [.str x]);refine⟨p,C,_,_,rfl,rfl,AD.of (l _ _ o),AD.of AJ,by simp,small (by rw[Lw.DC];simp;omega),λz H7 u J=>?_⟩;have R:AD K H7 z ((ss++[x]).map V.str):=by rw[Bx];exact J
   refine⟨z,true,ss++[x],rfl,R,by rw[B2];simp;omega,λD ts Vi hp hs=>?_⟩;have B:=Aa Vi (.lst (ts.map V.str));refine⟨D,_,rfl,.inl ⟨AK.of AJ,λO PU=>?_⟩⟩;exact⟨O,rfl,s1.trans (l.trans (u.trans (B.trans (Aa PU _)))),.inl (A8.none (s1.trans (l.trans (u.trans B))) PU),by rw[AJ,Z9 hp hs gd.up (YN gd ok x i rfl),Xt n]⟩
  .refine⟨_,rfl,rfl,_,rfl,?_⟩;refine BA (λM=>?_) (λM=>?_)
   .refine⟨_,rfl,t,_,_,_,rfl,rfl,AD.of (s1 _ _ e),rfl,_,rfl,_,_,rfl,rfl,_,rfl,?_⟩;have K5:Di r g i=decide ((g:Int)<=(i:Int)):=by unfold Di;rw[sN j,sZ M]
    refine BA (λL=>?_) (λL=>?_)
    .have n:Di r g i=true:=K5.trans L;refine⟨_,rfl,_,rfl,t,_,_,_,rfl,rfl,AD.of (s1 _ _ e),rfl,(by show 1<=sizeLine;decide),λC VX=>?_⟩;have l:=Aa VX (.tup [.str x]);refine⟨p,C,_,_,rfl,rfl,AD.of (l _ _ o),AD.of AJ,by simp,small (by rw[Lw.DC];simp;omega),λz H7 u J=>?_⟩;have R:AD K H7 z ((ss++[x]).map V.str):=by rw[Bx];exact J
     refine⟨z,true,ss++[x],rfl,R,by rw[B2];simp;omega,λD ts Vi hp hs=>?_⟩;have B:=Aa Vi (.lst (ts.map V.str));refine⟨D,_,rfl,.inl ⟨AK.of AJ,λO PU=>?_⟩⟩;exact⟨O,rfl,s1.trans (l.trans (u.trans (B.trans (Aa PU _)))),.inl (A8.none (s1.trans (l.trans (u.trans B))) PU),by rw[AJ,Z9 hp hs gd.up (YN gd ok x i rfl),Xt n]⟩
    .have n:Di r g i=false:=K5.trans (Bool.eq_false_iff.mpr L);exact⟨p,rfl,s1,I,by rw[Z0 n];exact o⟩
   .have n:Di r g i=false:=by unfold Di;rw[sN j,sN M]
    exact Dh ⟨p,rfl,s1,I,by rw[Z0 n];exact o⟩
 rintro σ' H2⟨c2,rfl,s2,f2,e2⟩;refine⟨_,rfl,_,rfl,_,rfl,_,rfl,a,t,ns,g,d,rfl,s2 _ _ Y,s2 _ _ e,ok,λH3 S=>?_⟩;refine⟨_,rfl,(by show 3<=sizeLine;decide),λt4 II=>?_⟩;have U:=s2.trans S;have T:=Aa II (.tup [.str r,.int (d.gap ns g:Nat),.ref c2]);exact q t4 c2 _ (A8.none U II) f2 (U.trans T) ⟨AJ,T _ _ (S _ _ e2)⟩
def ik:Ae ["yard","state","deed","name"] ["yard","state","deed"] (AM ZD):=by walk_at "z1"
def ZD4(F:AF K "_law_acts" "_law_acts" ZD f fd)(m:mg "_law_acts"=some (.ref f)):
  A9 P w K mg Zv "_law_acts" 10 ["yard","state","deed"] (CI (Vz A3)):=by
 refine Fz.hM (k:=9) F (by walk_at "bD3") m ik (by rintro _ _⟨m,s,a1,a2,t1,t2,d,rfl,_,_,_,_,_,rfl⟩;rfl) λa=>⟨_,(AH rfl (CS (Fy FE rfl (DS (Cy (mR rfl) CD (A0 (D2 (Bj a) (qv 1) Ap (λ_ _=>rfl)) A5))) (D0 3 ik.nd) (AE rfl (JK (Bj a) (D2 (Bj a) (qv 1) Ap (λ_ _=>rfl)) (qv 3) (AS Vm a (A0 (D2 (Bj a) (qv 1) Ap (λ_ _=>rfl)) (A0 (D2 (Bj a) (D2 (Bj a) (qv 1) Ap (λ_ _=>rfl)) (qv 3) (λ_ _=>rfl)) (A0 (qv 2) A5))))))))
   (AH rfl (D5 (G7 HC MC MD K8 (D2 (Bj a) (qv 1) Ap (λ_ _=>rfl)) (A0 (Bn (A0 (D2 (Bj a) (qv 1) Ap (λ_ _=>rfl)) (A0 (qv 2) A5))) A5)))
   (AH rfl (JK (Bj a) (qv 1) Ap (AS Y5 a (A0 (D2 (Bj a) (qv 1) Ap (λ_ _=>rfl)) (A0 (qv 2) A5))))
   (AE rfl (AZ (E7 ZD7 (Dy Z7 a (by decide) (qv 0) (A0 (qv 2) A5)) Rx)))))),?_⟩
 rintro _ _⟨m,s,a1,a2,t1,t2,d,rfl,o,u,ok,hd,hp,rfl⟩;obtain⟨aK,aP,rfl⟩:=u;obtain⟨dx,e,c,rfl⟩:=id o;have l1:=ok.l1;have A:=ok.Iv;have a:=ok.row.len;have B:=ok.m4;show Ws [.ow true (As s A3 a1 dx e c),.ow true (B5 s a2 aK aP),.is (dP d),.any] _ _ _;refine B4 (Fm (Gu (λ_ i AA=>∃(b:Slot)(t':OV),AA=[.ow true (As s A3 a1 dx e c),.ow true t',.is (dP d),b]/\ID (s.mid d i) a2 t') (Jz (HF (EM (iX (LM rfl ⟨Au s.ln,aK,_,rfl,by unfold Au;rw[AU];omega,_,.inl ⟨rfl,?_⟩⟩)))))));rw[mh];refine⟨⟨_,_,rfl,aK,aP,rfl⟩,?_,?_⟩
 .rintro i p AA hp⟨b,t',rfl,G1⟩;rw[Am]at hp;obtain⟨x,hx,rfl⟩:=Option.map_eq_some_iff.mp hp;refine IL ?_;obtain⟨C9,CM,rfl⟩:=G1;have h:x∈s.ln:=DQ hx;have n:s.ln.idxOf x=i:=NN ok.n1 hx;have hi:i<s.ln.length:=(List.getElem?_eq_some_iff.mp hx).1;obtain⟨l,el⟩:∃l,s.ll[i]?=some l:=⟨_,B7 (by omega)⟩;have v:=ok.good l (DQ el);refine J7 (i:=1) (t:=B5 (s.mid d i) a2 C9 CM) (Es (ZDE (Bl (DZ (Kl rfl ⟨_,rfl,_,.inl ⟨rfl,rfl,s.row,rfl,?_⟩⟩)))));refine DZ (NC (LM rfl ⟨Au s.ln,C9,_,rfl,AL rfl ⟨.inr x,i,.fz l.P,rfl,by rw[QH h,n],Ue (eA el),_,rfl,l.r,l.g,l.cs,rfl,AL rfl ⟨d,rfl,hd,v,by omega,?_⟩⟩⟩));refine LM rfl ⟨true,C9,Au s.ln,_,rfl,rfl,by unfold CO;rw[AU];show(Fl s d i).length<=99999;rw[mW];omega,KC ok.n1,B0,AL rfl ⟨.inr x,rfl,?_⟩⟩;rw[Nx h,P5 h];unfold B5;rw[show([]++[1]:List Nat)=[1]from rfl,Vp,n];have z:(CO (s.mid d i).ll).set i (.fz (DR l.r (d.gap s.row l.g) (d.Fj l.r l.g l.cs)))=CO (Fl s d (i+1)):=by
   rw[<- nK el];exact T4 _ _ (l.led s.row d)
  rw[z];exact⟨_,_,rfl,C9,CM,rfl⟩
 .rintro AA⟨b,t',rfl,G1⟩;rw[AU,l1]at G1;obtain⟨C9,CM,rfl⟩:=G1;have y:(s.mid d s.ll.length).ll=s.ll.map (Lp.led s.row d):=jd s d;refine B4 (cO (i:=1) (t:=B5 (s.mid d s.ll.length) a2 C9 CM) (vR rfl ⟨true,CM,_,rfl,rfl,by rw[AU];show s.pa.length<=99999;omega,Es (KO (Iz (DZ (Kl rfl ⟨_,rfl,Iz (AL rfl (MZ ⟨by show 2<=100000;decide,B0,?_⟩))⟩))))⟩));unfold B5;rw[show([]++[2]:List Nat)=[2]from rfl,put2,y];have ep:s.pa.map .fz++[.fz (.tup [.lst (s.row.map .str),dP d])]=(s.pa++[JI s.row d]).map OV.fz:=by rw[Bx];rfl
  show Ws [.ow true (As s A3 a1 dx e c),.ow true (.nd (.B1 Gg) a2 [.fz (.lst (s.row.map .str)),.nd (.B1 (Au s.ln)) C9 (CO (s.ll.map (Lp.led s.row d))),.nd .lst CM (s.pa.map .fz++[.fz (.tup [.lst (s.row.map .str),dP d])])]),.is (dP d),b] _ _ _;rw[ep];show Ws [.ow true (As s A3 a1 dx e c),.ow true (B5 ⟨s.row,s.ln,s.ll.map (Lp.led s.row d),s.pa++[JI s.row d],s.fg⟩ a2 C9 CM),.is (dP d),b] _ _ _;refine B4 (J7 (i:=1) (t:=B5 ⟨s.row,s.ln,s.ll.map (Lp.led s.row d),s.pa++[JI s.row d],s.fg⟩ a2 C9 CM) (Es (EM (eR (Bl (DZ (Kl rfl ⟨_,rfl,_,.inl ⟨rfl,rfl,s.row,rfl,AL rfl ⟨d,rfl,hd,by omega,ok.row.nd,?_⟩⟩⟩)))))));refine Cm rfl ⟨true,a2,Gg,_,rfl,rfl,by show 3<=99999;decide,by decide +kernel,B0,Mj ⟨.inr "row", rfl,?_⟩⟩;rw[OV.Fd,sk,xC];show Ws [.ow true (As s A3 a1 dx e c),.ow true (B5 (s.act d) a2 C9 CM),.is (dP d),b] _ _ _;refine zE (i:=0) (j:=1) (by decide) rfl rfl (ZCm (YJ rfl (by decide +kernel) (Oc (AL rfl (Rb ⟨_,⟨m,s,a1,_,d,rfl,o,ok,hd,hp,rfl⟩,?_⟩)))));rintro _ t2⟨rfl,EW⟩;obtain⟨q,Dj,rfl⟩:=EW.nd;exact⟨q,Dj,rfl,rfl,_,_,_,rfl,rfl,EW,C9,CM,rfl⟩
def T5:Ae ["pot","row","most","way","low","name"] ["pot","row","most"] (AM aC):=by walk_at "z1"
def zN(F:AF K "_law_deed" "_law_deed" aC f fd)(m:mg "_law_deed"=some (.ref f)):
  A9 P w K mg Zv "_law_deed" 3 ["pot","row","most"] (Z6):=by
 refine A9.mk F (F.binds (by walk_at "bD3")) m (F.BJ (k:=2) T5 (λvs H Q E h=>?_) (λAY A outer s H vs Q E B h=>?_))
 .obtain⟨p,a,m,ns,rfl,hp,R,Ac,J,X,W,U,q⟩:=h;rfl
 obtain⟨p,a,m,ns,rfl,hp,R,Ac,J,X,W,U,q⟩:=h;refine⟨_,(AH rfl (Ax 3 T5.nd (AS Bp B (A0 (qv 0) (A0 A7 A5))))
   (AH rfl (Ao (GH (Ke (Ad He (qv 3) A7) (JY (Ad He (B6 EZ Ar (A0 (qv 1) A5)) (qv 2)))).pt (HR (Ad (NB B.G2) (qv 1) (FA A5)))).pt (AH rfl (Ao (Ad KY (B6 EZ Ar (A0 (qv 1) A5)) (qv 2)) (AE rfl (AZ (Bn (A0 Ap (A0 A7 (A0 A7 A5)))))) Az)
   (AE rfl (AZ (Bn (A0 Ap (A0 (AS Ic B (A0 (qv 0) (A0 (qv 1) A5))) (A0 (AS Bp B (A0 (qv 0) (A0 (Ay EL (B6 EZ Ar (A0 (qv 1) A5)) A7) A5))) A5))))))) Az)
   (AH rfl (Ao (Ad CL (qv 3) A7) (AH rfl (Ax 4 T5.nd (AS Bp B (A0 (qv 0) (A0 (Ay EL (B6 EZ Ar (A0 (qv 1) A5)) A7) A5))))
   (AE rfl (AZ (Bn (A0 Ap (A0 (qv 4) (A0 (Ay EL (qv 4) (AS Bp B (A0 (qv 0) (A0 (Ay EL (Ay Mf (B6 EZ Ar (A0 (qv 1) A5)) (qv 4)) A7) A5)))) A5))))))) Az)
   (AH rfl (Ax 5 T5.nd (AI Dk (qv 1) (AS Bp B (A0 (qv 0) (A0 (B6 EZ Ar (A0 (qv 1) A5)) A5)))))
   (AH rfl (Ao (Ad CL (qv 3) A7) (AE rfl (AZ (Bn (A0 Ap (A0 (qv 5) (A0 (AS Bp B (A0 (qv 0) (A0 (B6 EZ Ar (A0 (qv 1) A5)) A5))) A5)))))) Az)
   (AE rfl (AZ (Bn (A0 Ap (A0 (qv 5) A5)))))))))),?_⟩
 have b:=Lw.DC ns;have v:∀n:Nat,n<=3->n<=sizeLine:=λn h=>Cc h (by decide +kernel);refine⟨_,rfl,p,5,rfl,hp,by decide,by decide,λT H1 w0 w1 s1=>?_⟩;have C:=s1.at' R Ac;have S:decide (ns.map V.str=[])=true->ns=[]:=λh=>List.map_eq_nil_iff.mp (uq h);have O:¬ decide (ns.map V.str=[])=true->0<ns.length:=λh=>by
  cases ns with
  |nil=>exact absurd (rg rfl) h
  |cons y r=>simp
 refine⟨_,rfl,_,_,rfl,rfl,_,rfl,?_⟩;refine BA (λY=>?_) (λY=>Dh ?_)
 .refine⟨_,rfl,a,_,rfl,.inl (AK.of C),_,rfl,_,_,rfl,rfl,_,rfl,?_⟩;refine BA (λL=>L8 ?_) (λL=>?_)
  .have σ:ns.length<m:=by have:=uq L;rw[b]at this;omega
   have l:=s1;have j:=C;refine⟨_,rfl,a,_,rfl,.inl (AK.of j),_,rfl,_,_,rfl,rfl,_,rfl,BU (by rw[b,uz (by omega)];decide) ?_⟩;refine⟨_,rfl,_,rfl,p,a,ns,rfl,l.AG,j,Ac,J,by omega,λx H3 nx hx c=>?_⟩;have o:=c.at' j Ac;refine⟨_,rfl,_,rfl,a,_,rfl,.inl (AK.of o),_,_,rfl,rfl,p,_,rfl,c.AG,by omega,by rw[b];omega,λi H4 i0 i1 s4=>?_⟩;rw[b]at i1;obtain⟨i,rfl⟩:=HA i0;refine⟨v _ (by simp),λt d=>?_⟩;have g:=l.trans (c.trans s4);exact q (.put x i) t _ (g.none d) (g.trans (BF.of g.AG (Aa d _))) AJ ⟨nx,hx,by omega,by omega⟩
  .have G:¬ ns.length<m:=λz=>L (rg (by rw[b];omega));refine⟨_,rfl,(by show 0<=sizeLine;decide),λe I=>?_⟩;have s2:=BF.of s1.AG (Aa I (.lst []));have l:=s1.trans s2;have j:=s2.at' C Ac;refine⟨a,e,_,[],rfl,rfl,.inl ⟨AK.of j,AK.of AJ⟩,EB ns,rfl,_,rfl,?_⟩;show if Dp (ns.map V.str) []=true then _ else _
   rw[ND];refine BA (λcC=>?_) (λcC=>?_)
   .exact absurd (by rw[S cC];show 0<m;omega) G
   .have KH:=O cC;refine⟨_,rfl,rfl,_,rfl,?_⟩;refine BA (λM=>?_) (λM=>?_)
    .refine⟨_,rfl,_,rfl,a,_,rfl,.inl (AK.of j),_,_,rfl,rfl,p,_,rfl,l.AG,by omega,by rw[b];omega,λlo H3 D l1 c=>?_⟩;rw[b]at l1;obtain⟨lo,rfl⟩:=HA D;have o:=c.at' j Ac;refine⟨_,rfl,_,rfl,_,rfl,_,rfl,a,_,rfl,.inl (AK.of o),_,rfl,_,_,rfl,rfl,_,_,rfl,rfl,p,_,rfl,c.AG,by rw[b];omega,by rw[b];omega,λk H4 k0 k1 s4=>?_⟩;rw[b]at k1;obtain⟨k,rfl⟩:=HA k0;refine⟨_,_,rfl,rfl,v _ (by simp),λt d=>?_⟩;have g:=l.trans (c.trans s4);exact q (.turn lo (lo+k)) t _ (g.none d) (g.trans (BF.of g.AG (Aa d _))) (by rw[AJ];rfl) ⟨by omega,by omega⟩
    .refine⟨_,rfl,_,rfl,_,rfl,a,_,rfl,.inl (AK.of j),p,_,rfl,l.AG,by rw[b];omega,by rw[b];omega,λi H3 i0 i1 c=>?_⟩;rw[b]at i1;have o:=c.at' j Ac;obtain⟨x,hx,OQ,_⟩:=QM i0 i1;refine⟨a,_,_,_,rfl,rfl,AK.of o,hx,?_⟩;have u:=l.trans c;refine⟨_,rfl,rfl,_,rfl,?_⟩;refine BA (λN=>?_) (λN=>?_)
     .refine⟨_,rfl,_,rfl,_,rfl,a,_,rfl,.inl (AK.of o),p,_,rfl,c.AG,by rw[b];omega,by rw[b];omega,λk H4 k0 k1 s4=>?_⟩;rw[b]at k1;obtain⟨k,rfl⟩:=HA k0;have g:=u.trans s4;refine⟨v _ (by simp),λt d=>?_⟩;exact q (.move x k) t _ (g.none d) (g.trans (BF.of g.AG (Aa d _))) AJ ⟨OQ,by omega⟩
     .refine⟨_,rfl,v _ (by simp),λt d=>?_⟩;exact q (.take x) t _ (u.none d) (u.trans (BF.of u.AG (Aa d _))) AJ OQ
 .skip
  refine⟨_,rfl,(by show 0<=sizeLine;decide),λe I=>?_⟩;have s2:=BF.of s1.AG (Aa I (.lst []));have l:=s1.trans s2;have j:=s2.at' C Ac;refine⟨a,e,_,[],rfl,rfl,.inl ⟨AK.of j,AK.of AJ⟩,EB ns,rfl,_,rfl,?_⟩;show if Dp (ns.map V.str) []=true then _ else _
  rw[ND];refine BA (λcC=>?_) (λcC=>?_)
  .have σ:ns.length<m:=by rw[S cC];show 0<m;omega
   refine⟨_,rfl,a,_,rfl,.inl (AK.of j),_,rfl,_,_,rfl,rfl,_,rfl,BU (by rw[b,uz (by omega)];decide) ?_⟩;refine⟨_,rfl,_,rfl,p,a,ns,rfl,l.AG,j,Ac,J,by omega,λx H3 nx hx c=>?_⟩;have o:=c.at' j Ac;refine⟨_,rfl,_,rfl,a,_,rfl,.inl (AK.of o),_,_,rfl,rfl,p,_,rfl,c.AG,by omega,by rw[b];omega,λi H4 i0 i1 s4=>?_⟩;rw[b]at i1;obtain⟨i,rfl⟩:=HA i0;refine⟨v _ (by simp),λt d=>?_⟩;have g:=l.trans (c.trans s4);exact q (.put x i) t _ (g.none d) (g.trans (BF.of g.AG (Aa d _))) AJ ⟨nx,hx,by omega,by omega⟩
  .have KH:=O cC;refine⟨_,rfl,rfl,_,rfl,?_⟩;refine BA (λM=>?_) (λM=>?_)
   .refine⟨_,rfl,_,rfl,a,_,rfl,.inl (AK.of j),_,_,rfl,rfl,p,_,rfl,l.AG,by omega,by rw[b];omega,λlo H3 D l1 c=>?_⟩;rw[b]at l1;obtain⟨lo,rfl⟩:=HA D;have o:=c.at' j Ac;refine⟨_,rfl,_,rfl,_,rfl,_,rfl,a,_,rfl,.inl (AK.of o),_,rfl,_,_,rfl,rfl,_,_,rfl,rfl,p,_,rfl,c.AG,by rw[b];omega,by rw[b];omega,λk H4 k0 k1 s4=>?_⟩;rw[b]at k1;obtain⟨k,rfl⟩:=HA k0;refine⟨_,_,rfl,rfl,v _ (by simp),λt d=>?_⟩;have g:=l.trans (c.trans s4);exact q (.turn lo (lo+k)) t _ (g.none d) (g.trans (BF.of g.AG (Aa d _))) (by rw[AJ];rfl) ⟨by omega,by omega⟩
   .refine⟨_,rfl,_,rfl,_,rfl,a,_,rfl,.inl (AK.of j),p,_,rfl,l.AG,by rw[b];omega,by rw[b];omega,λi H3 i0 i1 c=>?_⟩;rw[b]at i1;have o:=c.at' j Ac;obtain⟨x,hx,OQ,_⟩:=QM i0 i1;refine⟨a,_,_,_,rfl,rfl,AK.of o,hx,?_⟩;have u:=l.trans c;refine⟨_,rfl,rfl,_,rfl,?_⟩;refine BA (λN=>?_) (λN=>?_)
    .refine⟨_,rfl,_,rfl,_,rfl,a,_,rfl,.inl (AK.of o),p,_,rfl,c.AG,by rw[b];omega,by rw[b];omega,λk H4 k0 k1 s4=>?_⟩;rw[b]at k1;obtain⟨k,rfl⟩:=HA k0;have g:=u.trans s4;refine⟨v _ (by simp),λt d=>?_⟩;exact q (.move x k) t _ (g.none d) (g.trans (BF.of g.AG (Aa d _))) AJ ⟨OQ,by omega⟩
    .refine⟨_,rfl,v _ (by simp),λt d=>?_⟩;exact q (.take x) t _ (u.none d) (u.trans (BF.of u.AG (Aa d _))) AJ OQ
def kT:Ae ["pot","yard","state","most","turn"] ["pot","yard","state","most"] (AM Zk):=by walk_at "z1"
def ZFj(F:AF K "_law_stirred" "_law_stirred" Zk f fd)(m:mg "_law_stirred"=some (.ref f)):
  A9 P w K mg Zv "_law_stirred" 11 ["pot","yard","state","most"] (CI (Ze A3)):=by
 refine Fz.hM (k:=10) F (by walk_at "bD4") m kT (by rintro _ _⟨m,s,ps,q,a1,a2,t1,t2,rfl,_,_,_,_,_,rfl⟩;rfl) λg=>⟨_,(AH rfl (CS (Fy FE rfl (Kf rfl Dn (A0 (Ay EL A7 (AS Bp g (A0 (qv 0) (A0 A7 A5)))) A5)) (D0 4 kT.nd) (AE rfl (Ao (DW (Ew (AS Xl g (A0 (qv 1) (A0 (qv 2) (A0 (AS Xx g (A0 (qv 0) (A0 (D2 (Bj g) (qv 2) Ap (λ_ _=>rfl)) (A0 (qv 3) A5)))) A5)))))) (AE rfl (AZ GY)) Az))))
   (AE rfl (AZ GY))),?_⟩
 rintro _ _⟨m,s,ps,q,a1,a2,t1,t2,rfl,h1,v,y,hd,E,rfl⟩;obtain⟨aK,aP,rfl⟩:=y;obtain⟨dx,c,a,rfl⟩:=v;show Ws [.AG,.ow true (As s A3 a1 dx c a),.ow true (B5 s a2 aK aP),.is (.int m),.any] _ _ _;refine B4 (Fm (Gu (λ_ i AA=>∃(s':Yd)(EN:BZ)(dx c a aK aP:Addr)(s4:Slot),AA=[.AG,.ow true (As s' A3 a1 dx c a),.ow true (B5 s' a2 aK aP),.is (.int m),s4]/\Hd m s' EN q/\B8 EN s'.row q=B8 ps s.row q/\s'.ln=s.ln/\EN.length<=ps.length+i) ?_))
 walk_at "ww"
 refine⟨by decide,by decide,λr u D=>?_⟩;obtain⟨r,rfl⟩:=HA u;refine⟨_,rfl,_,rfl,by omega,by omega,⟨s,ps,dx,c,a,aK,aP,_,rfl,hd,rfl,rfl,Ag _⟩,?_,?_⟩
 .clear hd;rintro i p AA hp⟨s',EN,dx,c,a,aK,aP,s4,rfl,hd,l,h,o⟩;obtain⟨hi,rfl⟩:=Qn hp;have ok:=hd.ok;have g:=ok.row.len;have G:=ok.m4;have H:s'.pa.length=EN.length:=by rw[hd.pa,Im]
  refine IL ?_;show Ws [.AG,.ow true (As s' A3 a1 dx c a),.ow true (B5 s' a2 aK aP),.is (.int m),.is (.int i)] _ _ _;refine iG (kB (hU (fi (i:=1) (j:=2) (q:=0) (b:=false) (by decide) rfl rfl (λz=>by cases z) (lS (n:=1) rfl (.inl ⟨_,_,_,rfl⟩) (gO (n:=2) rfl (.inl ⟨_,_,_,rfl⟩) (dy (cY rfl (Bl (DZ (Kl rfl ⟨_,rfl,_,.inl ⟨rfl,rfl,s'.row,rfl,AL rfl ⟨m,rfl,ok.row.nm,g,h1,by omega,λd e=>?_⟩⟩⟩))))))))));have t:d.Ok 40 s'.row:=by
   cases d with
   |put x i=>exact⟨e.1,e.2.1,e.2.2.1,by have:=e.2.2.2;omega⟩
   |_=>exact e
  refine lH ⟨_,⟨m,s',a1,a2,_,_,d,rfl,⟨dx,c,a,rfl⟩,⟨aK,aP,rfl⟩,ok,t,by omega,rfl⟩,?_⟩;rintro _ C B⟨rfl,⟨Cg,FO,FH,rfl⟩,⟨C9,CM,rfl⟩⟩;refine⟨rfl,rfl,true,rfl,Dh (Cv ?_)⟩;obtain⟨g1,A⟩:=hd.act e t;exact⟨s'.act d,_,Cg,FO,FH,C9,CM,_,rfl,g1,A.trans l,h,by rw[B2,Kj];omega⟩
 .rintro AA⟨s',EN,dx,c,a,aK,aP,s4,rfl,hd,l,h,o⟩;rw[JO]at o;exact ZCM (i:=1) (j:=2) (by decide) rfl rfl (gS ⟨rfl,s',EN,⟨dx,c,a,rfl⟩,⟨aK,aP,rfl⟩,hd,l,h,by omega⟩)
def ZFg:Ae ["self","name"] ["self","name"] (AM Yp):=by walk_at "z1"
def ZCI(F:AF K "ticket_of" "Yard.ticket_of" Yp f fd)(c:Meth K A3 "ticket_of" f):
  Bc P w K mg Zv A3 "ticket_of" 5 ["self","name"] (Al (Vl A3)):=by
 refine⟨f,fd,Fz.Hc (k:=4) F ZFg (by rintro _ _⟨m,s,x,lo,rfl,_,_,_,_,rfl⟩;rfl) λa=>⟨_,(AE rfl (AZ (Dy J5 a (by decide) (qv 0) (A0 (Dy Hy a (by decide) (qv 0) (A0 (qv 1) A5)) A5)))),?_⟩,(F.binds (by walk_at "bD2")),c,Ai⟩
 rintro _ _⟨m,s,x,lo,rfl,ok,hx,b,hp,rfl⟩;show Ws [.is (Ci s A3),.is (.str x)] _ _ _;refine G0 (Fs (AL rfl ⟨_,_,rfl,by decide +kernel,Bq (Fs (AL rfl ⟨_,_,rfl,by decide +kernel,Bq (AL rfl (By ⟨_,⟨s,x,lo,rfl,hx,b,ok.l1,rfl⟩,?_⟩))⟩))⟩));rintro _ rfl;exact By ⟨_,⟨m,s,lo,rfl,ok,ok.good lo (DQ b),hp,rfl⟩,λ_ h=>h⟩
def zg:Ae ["self"] ["self"] (AM YV):=by walk_at "z1"
def uH(F:AF K "row" "Yard.row" YV f fd)(a:Meth K A3 "row" f):
  Bc P w K mg Zv A3 "row" 1 ["self"] (Al (UM A3)):=by
 refine⟨f,fd,Fz.Hc (k:=0) F zg (by rintro _ _⟨s,rfl,rfl⟩;rfl) λb=>⟨_,(AE rfl (AZ (Cy Kc CD (A0 (Cb (qv 0)) A5)))),?_⟩,(F.binds (by walk_at "bD1")),a,Ai⟩
 rintro _ _⟨s,rfl,rfl⟩;show Ws [_] _ _ _;exact fG (WI rfl (Bl (Fn (AL rfl ⟨A3,yN,_,0,_,rfl,Ai,CA,by decide +kernel,rfl,_,.inl ⟨rfl,rfl⟩⟩))))
def ML:Ae ["row","loop","rule","gap","coming","found","left"] ["row","loop"] (AM P0):=by walk_at "z1"
def ZEf:=Sc [(".0",.local),("name",.local),("coming",.free)]
def zH:Cr ["row","loop","rule","gap","coming","found","left"] (AM P0) ZEf "name" ["coming"] [4]:=by walk_at "z2"
def tK:=Sc [(".0",.local),("name",.local),("found",.free)]
def ZAi:Cr ["row","loop","rule","gap","coming","found","left"] (AM P0) tK "name" ["found"] [5]:=by walk_at "z2"
def y4(F:AF K "_law_step" "_law_step" P0 f fd)(m:mg "_law_step"=some (.ref f)):
  A9 P w K mg Zv "_law_step" 1 ["row","loop"] (VH):=by
 refine A9.mk F (F.binds (by walk_at "bD2")) m (F.BJ (k:=0) ML (λvs H Q E h=>?_) (λAY A outer s H vs Q E hr h=>?_))
 .obtain⟨a,ns,t,r,g,ss,rfl,n,⟨c,X,I⟩,C8,hz,q⟩:=h;rfl
 obtain⟨a,ns,t,r,g,ss,rfl,n,⟨c,X,I⟩,C8,hz,q⟩:=h;refine⟨_,(AH rfl (PK (qv 1) (Pn rfl (Gm (D0 2 ML.nd) (Gm (D0 3 ML.nd) (Gm (D0 4 ML.nd) O2)))))
   (AH rfl (Ax 5 ML.nd (Fx rfl zH (DS (Ay Hw (DF J9 (qv 0) (Cu (qv 3)) Dt) (DF J9 (qv 0) Dt (Cu (qv 3))))) (λ_ _ _ _=>by exact(Fh (Ad (show BB _ (compareOp .In) (Eo K false)from FK) (qv 1) (qv 0)))) (λ_ _ _ _=>by exact(qv 1))))
   (AH rfl (Ao (Ad (NB hr.G2) (qv 5) (FA A5)) (AE rfl (AZ (Bn (A0 Rx (A0 (qv 1) A5))))) Az)
   (AH rfl (Ax 6 ML.nd (Cy Io CC (A0 (Fx rfl ZAi (DS (qv 4)) (λ_ _ _ _=>by exact(Fh (Ad IP (qv 1) (AI (show FU _ (LS K)from Dk) (qv 0) A7)))) (λ_ _ _ _=>by exact(qv 1))) A5)))
   (AE rfl (AZ (Bn (A0 (AI Dk (qv 5) A7) (A0 (Bn (A0 (qv 2) (A0 (Ay EL (G7 HC bC oQ WK (qv 0) (A0 (AI Dk (qv 5) A7) A5)) A7) (A0 (qv 6) A5)))) A5))))))))),?_⟩
 have hl:=Lw.DC ns;have G:=Lw.DC ss;refine⟨_,rfl,t,_,rfl,AD.of X,rfl,_,_,rfl,_,_,rfl,_,_,rfl,rfl,?_⟩;refine⟨_,rfl,_,rfl,_,rfl,a,_,rfl,AK.of n,λl1 G5=>?_⟩;have n1:=Aa G5 (.lst (CK (ns.map V.str) (some (g:Int)) none));refine⟨_,rfl,_,rfl,_,rfl,a,_,rfl,AK.of (n1 _ _ n),λl2 Cz=>?_⟩;have N:=Aa Cz (.lst (CK (ns.map V.str) none (some (g:Int))));have e1:=N _ _ (AJ (H:=H) (a:=l1) (o:=.lst (CK (ns.map V.str) (some (g:Int)) none)));have e2:=AJ (H:=upd H l1 (.lst (CK (ns.map V.str) (some (g:Int)) none))) (a:=l2) (o:=.lst (CK (ns.map V.str) none (some (g:Int))));have k2:=n1.trans N;generalize upd (upd H l1 (.lst (CK (ns.map V.str) (some (g:Int)) none))) l2 (.lst (CK (ns.map V.str) none (some (g:Int))))=H2 at *;rw[OF]at e1;rw[OB]at e2;refine⟨l1,l2,_,_,rfl,rfl,e1,e2,small (by rw[Ct,Bi];omega),λD Mw=>?_⟩;have n3:=Aa Mw (.lst ((ns.map V.str).drop g++(ns.map V.str).take g));have S:=k2.trans n3;have hM:CQ K false (upd H2 D (.lst ((ns.map V.str).drop g++(ns.map V.str).take g))) D ((ns.drop g++ns.take g).map V.str):=AK.of (by rw[AJ,Bx,Na,Nb]);refine⟨false,D,_,rfl,hM,λacc Aq=>Jk (λv=>DI v (ss.map V.str)) (λv=>v) hM Aq (small (by rw[Lw.DC,B2,Ct,Bi];omega)) (λi v H' Q' l s4 h=>?_) (λi v H' Q' l _ s4 h=>?_) (λH4 s4 e4=>?_)⟩
 .obtain⟨x,rfl,_⟩:=Jh l;exact⟨_,rfl,_,rfl,c,_,rfl,.inr (AD.of (s4 _ _ (S _ _ I))),rfl,EB ss,_,rfl,h _ (A8.refl _)⟩
 .exact⟨_,rfl,h _ (A8.refl _)⟩
 rw[ma,ZB1]at e4;have k4:=S.trans s4;refine⟨_,rfl,(by show 0<=sizeLine;decide),λR gB=>?_⟩;have M:=Aa gB (.lst []);have j:=k4.trans M;have u:=M _ _ e4;refine⟨acc,R,_,[],rfl,rfl,.inl ⟨AK.of u,AK.of AJ⟩,EB _,rfl,_,rfl,?_⟩;show if Dp ((Cp ns g ss).map V.str) []=true then _ else _
 rw[ND];refine BA (λz=>?_) (λz=>?_)
 .have p:Cp ns g ss=[]:=by simpa using z
  refine⟨_,rfl,(by show 2<=sizeLine;decide),λt' FW=>?_⟩;exact q t' _ (A8.none j FW) (j.trans (Aa FW _)) (.inl ⟨p,AJ⟩)
 .obtain⟨x,Ek,p⟩:∃x Ek,Cp ns g ss=x::Ek:=by
   cases h:Cp ns g ss with
   |nil=>rw[h]at z;simp at z
   |cons x Ek=>exact⟨x,Ek,rfl⟩
  have hx:x∈ns/\x∈ss:=PM.mp (by rw[p];exact CV);rw[p]at u;generalize upd H4 R (.lst [])=H5 at *;have O:CQ K true H5 c (ss.map V.str):=AD.of (j _ _ I);refine⟨_,rfl,true,c,_,rfl,O,λZDn pG=>Jk (I0 (.str x)) (λv=>v) O pG (by rw[G];exact small (by omega)) (λi v H' Q' l b h=>?_) (λi v H' Q' l _ b h=>?_) (λH6 b σ=>?_)⟩
  .obtain⟨y,rfl,_⟩:=Jh l;exact⟨_,rfl,_,rfl,acc,_,_,_,rfl,rfl,AK.of (b _ _ u),Nu,rfl,_,rfl,h _ (A8.refl _)⟩
  .exact⟨_,rfl,h _ (A8.refl _)⟩
  rw[Pd]at σ;refine⟨ZDn,_,rfl,.inl ⟨AK.of σ,λd T=>?_⟩⟩;have L:=Aa T (.tup ((wo ss x).map V.str));have e:=j.trans (b.trans L);have f7:H d=none:=A8.none (j.trans b) T;have Y:=L _ _ (b _ _ u);have u7:=AJ (H:=H6) (a:=d) (o:=.tup ((wo ss x).map V.str));generalize upd H6 d (.tup ((wo ss x).map V.str))=H7 at *;refine⟨_,rfl,acc,_,_,_,rfl,rfl,AK.of Y,Nu,_,rfl,_,rfl,.inl ⟨rfl,_,AK.of (e _ _ n)⟩,_,rfl,acc,_,_,_,rfl,rfl,AK.of Y,Nu,a,ns,x,rfl,rfl,AK.of (e _ _ n),hx.1,_,_,rfl,rfl,_,rfl,?_⟩;refine⟨(by show 3<=sizeLine;decide),λJ U=>?_⟩;have C:=Aa U (.tup [.str r,.int ((ns.idxOf x:Nat)+1),.ref d]);refine⟨(by show 2<=sizeLine;decide),λt9 W=>?_⟩;have B:=Aa W (.tup [.str x,.ref J]);exact q t9 _ (A8.none (e.trans C) W) (e.trans (C.trans B)) (.inr ⟨x,Ek,J,d,p,A8.none e U,f7,AJ,B _ _ AJ,B _ _ (C _ _ u7)⟩)
def yu:Ae ["row","slip"] ["row","slip"] (AM Sm):=by walk_at "z1"
def tM:=Sc [(".0",.local),("at",.local),("row",.free),("slip",.free)]
def zI:Cr ["row","slip"] (AM Sm) tM "at" ["row","slip"] [0,1]:=by walk_at "z2"
def ZES(F:AF K "_law_shown" "_law_shown" Sm f fd)(m:mg "_law_shown"=some (.ref f)):
  A9 P w K mg Zv "_law_shown" 1 ["row","slip"] (Al Y1):=by
 refine Fz.hF (k:=0) F (by walk_at "bD2") m yu (by rintro _ _⟨ns,ts,g,rfl,_,rfl⟩;rfl) λd=>⟨_,(AE rfl (AZ (B6 K0 Bm (A0 (Fx rfl zI (Kf rfl Dn (A0 (B6 Fb Ar (A0 (qv 0) A5)) A5)) (λ_ _ _ _=>by exact(Fh (Ad IP (E7 KY (qv 2) (AI (show FU _ (KQ K)from AN) (qv 1) A7)) (E7 (show BB _ (compareOp .In) (Eo K false)from FK) (AI (show FU _ (LS K)from Dk) (qv 0) (qv 2)) (AI (show FU _ (KQ K)from AN) (qv 1) A7))))) (λ_ _ _ _=>by exact(AI (show FU _ (LS K)from Dk) (qv 0) (qv 2)))) A5)))),?_⟩
 rintro _ _⟨ns,ts,g,rfl,c,rfl⟩;show Ws [.is (.lst (ns.map .str)),.is (.tup [.int g,.tup (ts.map .str)])] _ _ _
 walk_at "ww"
 refine Bl (EM (Jg (λi:Nat=>PV.int (i:Int)) (K3 g ts ns) (λi=>.str (ns.getD i "")) ?_ dZ))
 walk_at "ww"
 rw[AU,Ly];refine⟨by omega,by omega,List.range ns.length,rfl,by rw[M5];omega,λi hi=>?_,λi hi _=>?_,?_⟩
 .have a:=List.mem_range.mp hi
  walk_at "ww"
  refine⟨_,_,rfl,V0 a,?_⟩
  walk_at "ww"
  rfl
 .have a:=List.mem_range.mp hi
  walk_at "ww"
  exact⟨_,_,rfl,V0 a,rfl⟩
 .rw[gM ns g ts];refine⟨_,.inl ⟨rfl,BV ns g ts,rfl,?_,λus b st=>⟨us,b,st,rfl⟩⟩⟩;have:=aB ns g ts;omega
def Z5:Ae ["row","coming","counts","gap"] ["row","coming"] (AM RY):=by walk_at "z1"
def xR:=Sc [(".0",.local),("at",.local),("coming",.free),("gap",.free),("row",.free)]
def uY:Cr ["row","coming","counts","gap"] (AM RY) xR "at" ["coming","gap","row"] [1,3,0]:=by walk_at "z2"
def ZD3(F:AF K "_law_least" "_law_least" RY f fd)(m:mg "_law_least"=some (.ref f)):
  A9 P w K mg Zv "_law_least" 1 ["row","coming"] (Al aH):=by
 refine Fz.hF (k:=0) F (by walk_at "bD2") m Z5 (by rintro _ _⟨ns,cs,rfl,_,_,rfl⟩;rfl) λh=>⟨_,(AH rfl (Ax 2 Z5.nd (FA A5))
   (AH rfl (CS (Fy FE rfl (Kf rfl Dn (A0 (Ay EL (B6 Fb Ar (A0 (qv 0) A5)) A7) A5)) (D0 3 Z5.nd) (AE rfl (D5 (G7 HC MC MD K8 (qv 2) (A0 (B6 Fb Ar (A0 (Fx rfl uY (Kf rfl Dn (A0 (B6 Fb Ar (A0 (qv 0) A5)) A5)) (λ_ _ _ _=>by exact(Fh (Ad IP (E7 KY (qv 3) (qv 1)) (E7 (show BB _ (compareOp .In) (Eo K false)from FK) (AI (show FU _ (LS K)from Dk) (qv 2) (qv 3)) (qv 0))))) (λ_ _ _ _=>by exact(qv 3))) A5)) A5))))))
   (AE rfl (AZ (B6 (xq rfl) MM (A0 (qv 2) A5)))))),?_⟩
 rintro _ _⟨ns,cs,rfl,g,nd,rfl⟩;show Ws [.is (.lst (ns.map .str)),.is (.tup (cs.map .str)),.any,.any] _ _ _
 walk_at "ww"
 refine⟨by decide,?_⟩;show Ws [.is (.lst (ns.map .str)),.is (.tup (cs.map .str)),.own [],.any] _ _ _;refine B4 (Fm (Gu (λ_ i AA=>∃a:Slot,AA=[.is (.lst (ns.map .str)),.is (.tup (cs.map .str)),.own ((KW ns cs i).map .int),a]) ?_))
 walk_at "ww"
 rw[AU];refine⟨by omega,by omega,⟨_,rfl⟩,?_,?_⟩
 .rintro i p AA hp⟨a,rfl⟩;obtain⟨hi,rfl⟩:=Qn hp;refine IL ?_;show Ws [.is (.lst (ns.map .str)),.is (.tup (cs.map .str)),.own ((KW ns cs i).map .int),.is (.int i)] _ _ _;refine RK rfl (WU (Bl (EM (Jg (λj:Nat=>PV.int (j:Int)) (K3 i cs ns) (λj=>.int j) ?_ dZ))))
  walk_at "ww"
  rw[AU,Ly];refine⟨by omega,by omega,List.range ns.length,rfl,by rw[M5];omega,λj b=>?_,λj b _=>?_,?_⟩
  .have e:=List.mem_range.mp b
   walk_at "ww"
   refine⟨_,_,rfl,V0 e,?_⟩
   walk_at "ww"
   rfl
  .walk_at "ww"
   rfl
  .have el:=wu List.length (gM ns i cs);rw[AU,AU]at el;refine⟨_,.inl ⟨rfl,?_,.is (.int i),?_⟩⟩
   .rw[AU];unfold KW;rw[AU,M5];omega
   .rw[AU,el];unfold KW;rw[List.range_succ,Bx,Bx];rfl
 .rintro AA⟨a,rfl⟩;rw[JO];refine G0 (ZBX (eZ rfl ⟨rfl,KW ns cs (ns.length+1),rfl,?_,λm d c=>?_⟩))
  .intro z;have:=wu List.length z;unfold KW at this;rw[AU,M5]at this;cases this
  .rw[yn nd d c]
def ZEt:Ae ["found"] ["found"] (AM UY):=by walk_at "z1"
def tE(F:AF K "_law_whole" "_law_whole" UY f fd)(m:mg "_law_whole"=some (.ref f)):
  A9 P w K mg Zv "_law_whole" 1 ["found"] (Al fJ):=by
 refine Fz.hF (k:=0) F (by walk_at "bD1") m ZEt (by rintro _ _⟨i,rfl,rfl⟩;rfl) λa=>⟨_,(AE rfl (AZ (Jc (B6 OR JE (A0 (qv 0) (A0 (OP "int" IK) A5))) (Kg (ZCs (B6 OR JE (A0 (qv 0) (A0 (OP "bool" UZ) A5)))))))),?_⟩
 rintro _ _⟨i,rfl,rfl⟩;show Ws [_] _ _ _;refine G0 (Tz (PH (AL rfl ⟨true,RF _ _,_,rfl,L8 ?_⟩)));exact dE (PH (AL rfl ⟨false,ZHO _,_,rfl,rfl⟩))
def k9:Ae ["found","count","row","loop","slip"] ["found","count","row","loop"] (AM O9):=by walk_at "z1"
def ZHZ:=Sc [(".0",.local),("one",.local),("_law_whole",.globalImplicit)]
def ZAt:Cr ["found","count","row","loop","slip"] (AM O9) ZHZ "one" [] []:=by walk_at "z2"
def ZDH:=Sc [(".0",.local),("name",.local),("row",.free)]
def ve:Cr ["found","count","row","loop","slip"] (AM O9) ZDH "name" ["row"] [2]:=by walk_at "z2"
def ZE1(F:AF K "_law_is_ticket" "_law_is_ticket" O9 f fd)(m:mg "_law_is_ticket"=some (.ref f)):
  A9 P w K mg Zv "_law_is_ticket" 2 ["found","count","row","loop"] (Al WD):=by
 refine Fz.hF (k:=1) F (by walk_at "bD4") m k9 (by rintro _ _⟨c,ns,lo,rfl,_,_,_,rfl⟩;rfl) λa=>⟨_,(AH rfl (Ao (GH (DW (Ew (B6 OR JE (A0 (qv 0) (A0 (OP "tuple" CC) A5))))) (GH (Ad IP (B6 Fb Ar (A0 (qv 0) A5)) A7) (HR (Ad (Fz.ZFc a.units) (DF Fz.Oh (qv 0) Dt (Cu A7)) (Bn (A0 (qv 1) (A0 (AI AN (qv 3) A7) (A0 (AI AN (qv 3) A7) A5)))))))).pt (AE rfl (AZ GY)) Az)
   (AH rfl (Ax 4 k9.nd (AI AN (qv 0) A7))
   (AH rfl (Ao (GH (DW (Ew (B6 OR JE (A0 (qv 4) (A0 (OP "tuple" CC) A5))))) (GH (Ad IP (B6 Fb Ar (A0 (qv 4) A5)) A7) (HR (DW (Ew (B6 OR JE (A0 (AI AN (qv 4) A7) (A0 (OP "tuple" CC) A5)))))))).pt (AE rfl (AZ GY)) Az)
   (AH rfl (Ao (GH (DW (Ew (B6 (TU rfl) Hq (A0 (Fx rfl ZAt (DS (Bn (A0 (AI AN (qv 0) A7) (A0 (AI AN (qv 0) A7) (A0 (AI AN (qv 4) A7) A5))))) (λ_ _ _ _=>by exact Q8) (λ_ _ _ _=>by exact(AS X1 a (A0 (qv 0) A5)))) A5)))) (HR (DW (MQ FV FV A7 (AI AN (qv 4) A7) (B6 Fb Ar (A0 (qv 2) A5)))))).pt (AE rfl (AZ GY)) Az)
   (AH rfl (Ao (GH (Ad (NH a.G2) (Cy Kc CD (A0 (AI AN (qv 4) A7) A5)) (B6 (i6 rfl) Bm (A0 (Cy (gR rfl) NL (A0 (AI AN (qv 4) A7) A5)) A5))) (HR (DW (Ew (B6 (TU rfl) Hq (A0 (Fx rfl ve (DS (AI AN (qv 4) A7)) (λ_ _ _ _=>by exact Q8) (λ_ _ _ _=>by exact(E7 (show BB _ (compareOp .In) (Eo K false)from FK) (qv 1) (qv 0)))) A5)))))).pt (AE rfl (AZ GY)) Az)
   (AE rfl (AZ (Jc (E7 (NB a.G2) (AS Xv a (A0 (qv 2) (A0 (qv 4) A5))) (B6 K0 Bm (A0 (AI AN (qv 3) A7) A5))) (Kg (E7 CL (B6 Fb Ar (A0 (AI AN (qv 4) A7) A5)) (AS Z3 a (A0 (qv 2) (A0 (AI AN (qv 3) A7) A5))))))))))))),?_⟩
 rintro _ _⟨n,ns,⟨r,g,cs⟩,rfl,t,nd,gd,rfl⟩;have hg:=(Rf cs nd).2;have u:=sU (ns:=ns) cs;show Ws [.is (.tup [.int n,.str r,.int g,.tup [.int ((gr cs ns).g:Nat),.tup ((Dv ns cs).map .str)]]),.is (.int n),.is (.lst (ns.map .str)),.is (.tup [.str r,.int g,.tup (cs.map .str)]),.any] _ _ _;refine B4 (Ey (Jb (Gw (GP (PH (AL rfl ⟨true,RF _ _,true,rfl,Dh ?_⟩))))))
 walk_at "ww"
 refine BU (by simp[alike]) ?_;have i:dat K 40 (.tup [.int n,.str r,.int g]):=uP (d:=38) (λx hx=>by simp at hx;rcases hx with rfl|rfl|rfl <;> rfl)
 refine KG (hV (ZZ (Dg rfl ?_)))
 walk_at "ww"
 rw[show lT true (Dw [PV.int n,.str r,.int g,.tup [.int ((gr cs ns).g:Nat),.tup ((Dv ns cs).map .str)]] none (some 3))=.tup [.int n,.str r,.int g]from rfl];refine⟨by show 3<=100000;decide,i,i,_,rfl,BU (by rw[ia 40 i];decide) (Cv ?_)⟩;refine B4 (GD (DD (Dg rfl ⟨rfl,C4 ⟨_,_,rfl,rfl,?_⟩⟩)));show Ws [.is (.tup [.int n,.str r,.int g,.tup [.int ((gr cs ns).g:Nat),.tup ((Dv ns cs).map .str)]]),.is (.int n),.is (.lst (ns.map .str)),.is (.tup [.str r,.int g,.tup (cs.map .str)]),.is (.tup [.int ((gr cs ns).g:Nat),.tup ((Dv ns cs).map .str)])] _ _ _;refine B4 (Ey (Jb (Gw (GP (PH (AL rfl ⟨true,RF _ _,true,rfl,Dh ?_⟩))))))
 walk_at "ww"
 refine BU (by simp[alike]) ?_;refine Gw (GP (PH ?_))
 walk_at "ww"
 refine⟨true,RF _ _,true,rfl,Dh (Cv ?_)⟩;refine B4 (Ey (Jb (Gw (GP (Ux rfl (Bl (EM (Jg PV.int (λ_=>true) (λ_=>.bl true) (Jz (HF (KO ?_))) ZAR))))))))
 walk_at "ww"
 refine⟨by show 3<=100000;decide,_,.inr ⟨rfl,[n,(g:Int),((gr cs ns).g:Nat)],rfl,by show 3<=100000;decide,λz _=>Za rfl,λz _ _=>wp_call (Bq (AL rfl (By ⟨_,⟨z,rfl,rfl⟩,λ_ h=>h⟩))),?_⟩⟩;refine⟨_,.inl ⟨rfl,rfl,[true,true,true],rfl,_,rfl,BU (by decide) ?_⟩⟩
 walk_at "ww"
 refine Lj (rg (by omega)) ?_
 walk_at "ww"
 rw[AU];refine BU (by simp;omega) (Cv ?_);refine B4 (Ey (Jb ?_))
 walk_at "ww"
 refine⟨by omega,λus Cz p hs=>?_⟩
 walk_at "ww"
 rw[rg ((eC Cz p hs).mpr (ZGC cs nd))];refine BU (by decide) ?_;refine Gw (GP (Ux rfl (Bl (EM (ZDV PV.str (λx=>.bl (decide (x∈ns))) ?_ str_inj)))))
 walk_at "ww"
 refine⟨by omega,λx hx=>by walk_at "ww"; rfl,?_⟩
 have s:(((Dv ns cs).map λx=>decide (x∈ns)).all id)=true:=List.all_eq_true.mpr λb q=>by
  obtain⟨y,o,rfl⟩:=List.mem_map.mp q;exact rg (vG o)
 refine⟨_,.inl ⟨rfl,rfl,(Dv ns cs).map λx=>decide (x∈ns),by rw[Hi];rfl,_,rfl,BU (by rw[s];decide) (Cv ?_)⟩⟩;refine G0 (Tz (km ?_));refine Bl (EM (bN (Bq (AL rfl (Bq (AL rfl (By ⟨_,⟨ns,Dv ns cs,(gr cs ns).g,rfl,by omega,rfl⟩,?_⟩)))))));rintro _⟨us,l,j,rfl⟩;refine⟨_,.inl ⟨rfl,us,rfl,?_⟩⟩
 walk_at "ww"
 have v:cs.length<=ns.length:=Rw (Kz gd.up) gd.sub;refine⟨by omega,λvs NF Gh=>?_⟩;have e:us=vs:=yy (l.trans ((zY nd gd.sub (Kz gd.up)).trans NF.symm)) j Gh;refine⟨_,.inl ⟨rfl,rfl,vs,rfl,_,rfl,?_⟩⟩;rw[rg e];refine Lj rfl ?_
 walk_at "ww"
 refine wp_call (Bq (AL rfl (Bq ?_)))
 walk_at "ww"
 refine By ⟨_,⟨ns,cs,rfl,by omega,nd,rfl⟩,?_⟩;rintro _ rfl;rw[AU,vx cs nd];exact⟨rfl,wu PV.bl (rg rfl)⟩
def LX:Ae ["yard","state","handed","name","many","before","told","turn","thing","found","ticket"] ["yard","state","handed","name","many"] (AM aL):=by walk_at "z1"
def xn(F:AF K "_law_stepped_both" "_law_stepped_both" aL f fd)(m:mg "_law_stepped_both"=some (.ref f)):
  A9 P w K mg Zv "_law_stepped_both" 11 ["yard","state","handed","name","many"] (CI (aZ A3)):=by
 refine Fz.hM (k:=10) F (by walk_at "bD5") m LX (by rintro _ _⟨m,s,ps,q,a1,a2,u,t1,t2,x,c,rfl,_,_,_,_,_,_,rfl⟩;rfl) λb=>⟨_,(AH rfl (Ax 5 LX.nd (AI AN (Dy LQ b (by decide) (qv 0) (A0 (D2 (Bj b) (qv 2) (qv 3) (λ_ _=>rfl)) (A0 (qv 4) A5))) A7))
   (AH rfl (Ax 6 LX.nd (FA A5))
   (AH rfl (CS (Fy FE rfl (Kf rfl Dn (A0 (qv 4) A5)) (D0 7 LX.nd) (AH rfl (Ax 8 LX.nd (Dy MI b (by decide) (qv 0) (A0 (qv 3) A5)))
   (AH rfl (JK (Bj b) (D2 (Bj b) (qv 1) Ap (λ_ _=>rfl)) (qv 3) (AI AN (AS YS b (A0 (D2 (Bj b) (qv 1) Ap (λ_ _=>rfl)) (A0 (D2 (Bj b) (D2 (Bj b) (qv 1) Ap (λ_ _=>rfl)) (qv 3) (λ_ _=>rfl)) A5))) A7))
   (AE rfl (Ao (Ad ZDm (qv 8) Rx) (AE rfl (D5 (G7 HC MC MD K8 (qv 6) (A0 (qv 8) A5)))) Az))))))
   (AH rfl (Ax 9 LX.nd (Dy LQ b (by decide) (qv 0) (A0 (D2 (Bj b) (qv 2) (qv 3) (λ_ _=>rfl)) (A0 (qv 4) A5))))
   (AH rfl (JK (Bj b) (qv 2) (qv 3) (AI AN (qv 9) A7))
   (AH rfl (Ao (GH (Ad (NH b.G2) (qv 5) (qv 6)) (HR (Ad (NH b.G2) (AI AN (qv 9) A7) (qv 6)))).pt (AE rfl (AZ GY)) Az)
   (AH rfl (CS (Fy FE rfl (DS (Bn (A0 (AI AN (qv 9) A7) (A0 (Dy V5 b (by decide) (qv 0) (A0 (qv 3) A5)) A5)))) (D0 10 LX.nd) (AE rfl (Ao (DW (Ew (AS ZO b (A0 (qv 10) (A0 (Po Gk b (by decide) (qv 0)) (A0 (Po Yu b (by decide) (qv 0)) (A0 (Dy Hy b (by decide) (qv 0) (A0 (qv 3) A5)) A5))))))) (AE rfl (AZ GY)) Az))))
   (AE rfl (AZ (E7 (Fz.ZF9 b.units) (Dy Hy b (by decide) (qv 0) (A0 (qv 3) A5)) (D2 (Bj b) (D2 (Bj b) (qv 1) Ap (λ_ _=>rfl)) (qv 3) (λ_ _=>rfl)))))))))))),?_⟩
 rintro _ _⟨m,s,ps,q,a1,a2,u,t1,t2,x,c,rfl,U,V,hd,S,hx,L,rfl⟩;obtain⟨aK,aP,rfl⟩:=V;obtain⟨dx,o,n,rfl⟩:=U;have ok:=hd.ok;have l1:=ok.l1;have lf:=ok.Iv;have b:=ok.row.len;have h4:=ok.m4;have Bb:s.pa.length=ps.length:=by rw[hd.pa,Im]
 have R:s.pa.length<=2000:=by omega
 have W:(s.fg:Int)+s.pa.length=s.pa.length:=by rw[hd.fg];simp
 have hi:=List.idxOf_lt_length_iff.mpr hx;obtain⟨l,el⟩:∃l,s.ll[s.ln.idxOf x]?=some l:=⟨_,B7 (by omega)⟩;obtain⟨k,D⟩:∃k,q[s.ln.idxOf x]?=some k:=⟨_,B7 (by rw[hd.ql];exact hi)⟩;have M:=ok.good l (DQ el);obtain⟨T,O⟩:=hd.iZ S D el;show Ws [.ow true (As s A3 a1 dx o n),.ow true (B5 s a2 aK aP),.ow true (BY s.ln u (B8 ps s.row q)),.is (.str x),.is (.int c),.any,.any,.any,.any,.any,.any] _ _ _;refine B4 (GD (DD (Bl (Yh (aU ?_)))));show Wx [.is (As s A3 a1 dx o n).pv,.is (B5 s a2 aK aP).pv,.is (BY s.ln u (B8 ps s.row q)).pv,.is (.str x),.is (.int c),.any,.any,.any,.any,.any,.any] _ _;rw[Jy,MX,OD];refine Zz (AL rfl ⟨_,_,rfl,by decide +kernel,Bq (Pk (AL rfl ⟨Au s.ln,_,rfl,AL rfl ⟨.inr x,GZ ps s.row k,rfl,NW hx (by unfold B8;rw[Am,D];rfl),Bq (AL rfl (By ⟨_,⟨m,s,ps,k.1,k.2.1,k.2.2,c,rfl,T,L,rfl⟩,?_⟩))⟩⟩))⟩);rintro _⟨a,rfl⟩;rw[O];refine⟨rfl,Ut _ _ _ _ _,rfl,?_⟩;rw[Yj];refine⟨_,.inr ⟨rfl,rfl,C4 ⟨_,_,rfl,rfl,?_⟩⟩⟩;show Ws [.ow true (As s A3 a1 dx o n),.ow true (B5 s a2 aK aP),.ow true (BY s.ln u (B8 ps s.row q)),.is (.str x),.is (.int c),.is (.lst ((pg s.row l c).1.map .str)),.any,.any,.any,.any,.any] _ _ _
 walk_at "ww"
 refine⟨by decide,?_⟩;show Ws [.ow true (As s A3 a1 dx o n),.ow true (B5 s a2 aK aP),.ow true (BY s.ln u (B8 ps s.row q)),.is (.str x),.is (.int c),.is (.lst ((pg s.row l c).1.map .str)),.own [],.any,.any,.any,.any] _ _ _;refine B4 (Fm (Gu (λ_ j AA=>∃(dx o n aK aP:Addr)(A v:Slot),AA=[.ow true (As (s.put (s.ln.idxOf x) (pg s.row l j).2) A3 a1 dx o n),.ow true (B5 (s.put (s.ln.idxOf x) (pg s.row l j).2) a2 aK aP),.ow true (BY s.ln u (B8 ps s.row q)),.is (.str x),.is (.int c),.is (.lst ((pg s.row l c).1.map .str)),.own ((pg s.row l j).1.map .str),A,v,.any,.any]) ?_))
 walk_at "ww"
 rw[Ly];refine⟨by omega,by omega,⟨dx,o,n,aK,aP,_,_,by rw[show(pg s.row l 0).2=l from rfl,kL el];rfl⟩,?_,?_⟩
 .rintro j p AA hp⟨dx,o,n,aK,aP,A,v,rfl⟩;obtain⟨hj,rfl⟩:=Qn hp;refine IL ?_;have N:=KN M j;have σ:=V1 s.row l j;have Y:(s.put (s.ln.idxOf x) (pg s.row l j).2).Ok m:=ok.put N;show Ws [.ow true (As (s.put (s.ln.idxOf x) (pg s.row l j).2) A3 a1 dx o n),.ow true (B5 (s.put (s.ln.idxOf x) (pg s.row l j).2) a2 aK aP),.ow true (BY s.ln u (B8 ps s.row q)),.is (.str x),.is (.int c),.is (.lst ((pg s.row l c).1.map .str)),.own ((pg s.row l j).1.map .str),.is (.int j),v,.any,.any] _ _ _;refine B4 (sI (YJ (i:=0) rfl (by decide +kernel) (Oc (AL rfl (Rb ⟨_,⟨m,(s.put (s.ln.idxOf x) (pg s.row l j).2),a1,_,x,(pg s.row l j).2,rfl,⟨dx,o,n,rfl⟩,Y,hx,MS _ (by omega),rfl⟩,?_⟩)))));rintro _ t2⟨rfl,Cg,FO,FH,rfl⟩;refine⟨_,_,rfl,?_⟩;rw[iU,VU];refine B4 (J7 (i:=1) (t:=B5 (s.put (s.ln.idxOf x) (pg s.row l j).2) a2 aK aP) (Es (DD (Bl (ZF1 (Bl (DZ (Kl rfl ⟨_,rfl,_,.inl ⟨rfl,rfl,s.row,rfl,DZ (NC (LM rfl ⟨Au s.ln,aK,_,rfl,AL rfl ⟨.inr x,_,.fz (pg s.row l j).2.P,rfl,QH hx,Ue (MS _ (by omega)),_,rfl,(pg s.row l j).2.r,(pg s.row l j).2.g,(pg s.row l j).2.cs,rfl,N,by omega,?_⟩⟩))⟩⟩))))))));rw[Yc];refine⟨_,.inr ⟨rfl,rfl,C4 ⟨_,_,rfl,rfl,?_⟩⟩⟩;refine LM rfl ⟨true,aK,Au s.ln,_,rfl,rfl,by unfold CO;rw[AU];show(s.ll.set _ _).length<=_;rw[DP];omega,KC ok.n1,B0,AL rfl ⟨.inr x,rfl,?_⟩⟩;rw[Nx hx,P5 hx];unfold B5;rw[show([]++[1]:List Nat)=[1]from rfl,Vp,T4,VU];have X:(s.put (s.ln.idxOf x) (pg s.row l j).2).ll.set (s.ln.idxOf x) (pg s.row l (j+1)).2=(s.put (s.ln.idxOf x) (pg s.row l (j+1)).2).ll:=Nf ..;rw[X];cases e:Ca s.row (pg s.row l j).2.g (pg s.row l j).2.cs with
  |none=>
   have E:(pg s.row l j).2.told (s.put (s.ln.idxOf x) (pg s.row l j).2).row=.AB:=by show(pg s.row l j).2.told s.row=_;unfold Lp.told;rw[e];rfl
   rw[E];show Ws [.ow true (As (s.put (s.ln.idxOf x) (pg s.row l (j+1)).2) A3 a1 Cg FO FH),.ow true (B5 (s.put (s.ln.idxOf x) (pg s.row l (j+1)).2) a2 aK aP),.ow true (BY s.ln u (B8 ps s.row q)),.is (.str x),.is (.int c),.is (.lst ((pg s.row l c).1.map .str)),.own ((pg s.row l j).1.map .str),.is (.int j),.is .AB,.any,.any] _ _ _
   walk_at "ww"
   exact i3 (AL rfl ⟨rfl,_,rfl,BU (by decide) (Cv ⟨Cg,FO,FH,aK,aP,.is (.int j),.is .AB,by rw[Qv e];rfl⟩)⟩)
  |some y=>
   have E:(pg s.row l j).2.told (s.put (s.ln.idxOf x) (pg s.row l j).2).row=.str y:=by show(pg s.row l j).2.told s.row=_;unfold Lp.told;rw[e];rfl
   rw[E];show Ws [.ow true (As (s.put (s.ln.idxOf x) (pg s.row l (j+1)).2) A3 a1 Cg FO FH),.ow true (B5 (s.put (s.ln.idxOf x) (pg s.row l (j+1)).2) a2 aK aP),.ow true (BY s.ln u (B8 ps s.row q)),.is (.str x),.is (.int c),.is (.lst ((pg s.row l c).1.map .str)),.own ((pg s.row l j).1.map .str),.is (.int j),.is (.str y),.any,.any] _ _ _
   walk_at "ww"
   refine i3 (AL rfl ⟨rfl,_,rfl,Lj (by rw[uz (λh=>by cases h)];rfl) ?_⟩);refine RK rfl (AL rfl ⟨by rw[AU];omega,Cg,FO,FH,aK,aP,.is (.int j),.is (.str y),?_⟩);rw[Pa e,Bx];rfl
 .rintro AA⟨dx,o,n,aK,aP,A,v,rfl⟩;rw[JO];have C:=KN M c;have lc:=V1 s.row l c;have H:(s.put (s.ln.idxOf x) (pg s.row l c).2).Ok m:=ok.put C;have B:=hd.put C hi;refine Si 6 rfl ?_;show Ws [.ow true (As (s.put (s.ln.idxOf x) (pg s.row l c).2) A3 a1 dx o n),.ow true (B5 (s.put (s.ln.idxOf x) (pg s.row l c).2) a2 aK aP),.ow true (BY s.ln u (B8 ps s.row q)),.is (.str x),.is (.int c),.is (.lst ((pg s.row l c).1.map .str)),.is (.lst ((pg s.row l c).1.map .str)),A,v,.any,.any] _ _ _;refine B4 (GD (Yh (aU ?_)));show Wx [.is (As (s.put (s.ln.idxOf x) (pg s.row l c).2) A3 a1 dx o n).pv,.is (B5 (s.put (s.ln.idxOf x) (pg s.row l c).2) a2 aK aP).pv,.is (BY s.ln u (B8 ps s.row q)).pv,.is (.str x),.is (.int c),.is (.lst ((pg s.row l c).1.map .str)),.is (.lst ((pg s.row l c).1.map .str)),EG A,EG v,.any,.any] _ _;rw[Jy,MX,OD];refine Zz (AL rfl ⟨_,_,rfl,by decide +kernel,Bq (Pk (AL rfl ⟨Au s.ln,_,rfl,AL rfl ⟨.inr x,GZ ps s.row k,rfl,NW hx (by unfold B8;rw[Am,D];rfl),Bq (AL rfl (By ⟨_,⟨m,(s.put (s.ln.idxOf x) (pg s.row l c).2),ps,k.1,k.2.1,k.2.2,c,rfl,⟨H,T.pa,T.fg,T.ch,T.hn,T.len,T.gd,T.hs⟩,L,rfl⟩,?_⟩))⟩⟩))⟩);rintro _⟨a,rfl⟩;rw[O];refine⟨rfl,Ut _ _ _ _ _,rfl,?_⟩;rw[Yj];show Ws [.ow true (As (s.put (s.ln.idxOf x) (pg s.row l c).2) A3 a1 dx o n),.ow true (B5 (s.put (s.ln.idxOf x) (pg s.row l c).2) a2 aK aP),.ow true (BY s.ln u (B8 ps s.row q)),.is (.str x),.is (.int c),.is (.lst ((pg s.row l c).1.map .str)),.is (.lst ((pg s.row l c).1.map .str)),A,v,.is (.tup [.lst ((pg s.row l c).1.map .str),(DU s.pa.length s.row (pg s.row l c).2)]),.any] _ _ _;have I:(DU s.pa.length s.row (pg s.row l c).2)=GZ ps s.row (DV ps s.row (pg s.row l c).2):=gm hd.pa _;refine B4 (J7 (i:=2) (t:=BY s.ln u (B8 ps s.row q)) (Es (DD (Dg rfl ⟨rfl,C4 ⟨_,_,rfl,rfl,Cm rfl ⟨true,u,Au s.ln,_,rfl,rfl,?_,KC ok.n1,B0,AL rfl ⟨.inr x,rfl,?_⟩⟩⟩⟩))))
  .unfold B8;rw[AU,AU,hd.ql];omega
  rw[Nx hx,P5 hx,OV.Fd,I,ZB6,<- I];show Ws [.ow true (As (s.put (s.ln.idxOf x) (pg s.row l c).2) A3 a1 dx o n),.ow true (B5 (s.put (s.ln.idxOf x) (pg s.row l c).2) a2 aK aP),.ow true (BY s.ln u (B8 ps s.row (q.set (s.ln.idxOf x) (DV ps s.row (pg s.row l c).2)))),.is (.str x),.is (.int c),.is (.lst ((pg s.row l c).1.map .str)),.is (.lst ((pg s.row l c).1.map .str)),A,v,.is (.tup [.lst ((pg s.row l c).1.map .str),(DU s.pa.length s.row (pg s.row l c).2)]),.any] _ _ _;have J:((s.put (s.ln.idxOf x) (pg s.row l c).2).fg:Int)+(s.put (s.ln.idxOf x) (pg s.row l c).2).pa.length=s.pa.length:=W;have G:dat K 40 (pg s.row l c).2.P:=xJ K (d:=38) _ _ _;have Q:(s.put (s.ln.idxOf x) (pg s.row l c).2).ln.length=(s.put (s.ln.idxOf x) (pg s.row l c).2).ll.length:=H.l1
  walk_at "ww"
  rw[rg rfl];refine BU (by decide) ?_
  walk_at "ww"
  rw[rg rfl];refine BU (by decide) (Cv ?_);refine B4 (Fm (Gu (λ_ i AA=>∃NV:Slot,AA=[.ow true (As (s.put (s.ln.idxOf x) (pg s.row l c).2) A3 a1 dx o n),.ow true (B5 (s.put (s.ln.idxOf x) (pg s.row l c).2) a2 aK aP),.ow true (BY s.ln u (B8 ps s.row (q.set (s.ln.idxOf x) (DV ps s.row (pg s.row l c).2)))),.is (.str x),.is (.int c),.is (.lst ((pg s.row l c).1.map .str)),.is (.lst ((pg s.row l c).1.map .str)),A,v,.is (.tup [.lst ((pg s.row l c).1.map .str),(DU s.pa.length s.row (pg s.row l c).2)]),NV]) (Jz (HF (kI ?_)))));show Wp [.is (As (s.put (s.ln.idxOf x) (pg s.row l c).2) A3 a1 dx o n).pv,.is (B5 (s.put (s.ln.idxOf x) (pg s.row l c).2) a2 aK aP).pv,.is (BY s.ln u (B8 ps s.row (q.set (s.ln.idxOf x) (DV ps s.row (pg s.row l c).2)))).pv,.is (.str x),.is (.int c),.is (.lst ((pg s.row l c).1.map .str)),.is (.lst ((pg s.row l c).1.map .str)),EG A,EG v,.is (.tup [.lst ((pg s.row l c).1.map .str),(DU s.pa.length s.row (pg s.row l c).2)]),.any] _ _;rw[Jy,MX,OD];refine KO (Iz (DD (Dg rfl ⟨rfl,C4 ⟨_,_,rfl,rfl,Iz (Fs (AL rfl ⟨_,_,rfl,by decide +kernel,Bq (AL rfl (By ⟨_,⟨m,(s.put (s.ln.idxOf x) (pg s.row l c).2),x,(pg s.row l c).2,rfl,H,hx,MS _ (by omega),R,rfl⟩,?_⟩))⟩))⟩⟩)));rintro _ rfl;rw[J];refine MZ ⟨by show 2<=100000;decide,uB _ _ _,_,.inr ⟨rfl,⟨_,rfl⟩,?_,?_⟩⟩
  .rintro i p AA hp⟨NV,rfl⟩;have ep:p=(DU s.pa.length s.row (pg s.row l c).2):=(List.mem_cons.mp (DQ hp)).elim id λz=>List.mem_singleton.mp z;subst ep;refine IL ?_;refine Ey (ZEB ?_);show Wt [.is (As (s.put (s.ln.idxOf x) (pg s.row l c).2) A3 a1 dx o n).pv,.is (B5 (s.put (s.ln.idxOf x) (pg s.row l c).2) a2 aK aP).pv,.is (BY s.ln u (B8 ps s.row (q.set (s.ln.idxOf x) (DV ps s.row (pg s.row l c).2)))).pv,.is (.str x),.is (.int c),.is (.lst ((pg s.row l c).1.map .str)),.is (.lst ((pg s.row l c).1.map .str)),EG A,EG v,.is (.tup [.lst ((pg s.row l c).1.map .str),(DU s.pa.length s.row (pg s.row l c).2)]),.is (DU s.pa.length s.row (pg s.row l c).2)] _ _;rw[Jy,MX,OD];refine Gw (GP (wp_call (Bq (AL rfl (Bq (Fs (AL rfl ⟨_,_,rfl,by decide +kernel,By ⟨_,⟨(s.put (s.ln.idxOf x) (pg s.row l c).2),rfl,R,rfl⟩,?_⟩⟩)))))));rintro _ rfl;rw[J];refine Bq (EM (sL (AL rfl ⟨_,_,rfl,by decide +kernel,By ⟨_,⟨(s.put (s.ln.idxOf x) (pg s.row l c).2),rfl,rfl⟩,?_⟩⟩)));rintro _ rfl;refine Bq (Fs (AL rfl ⟨_,_,rfl,by decide +kernel,Bq (AL rfl (By ⟨_,⟨(s.put (s.ln.idxOf x) (pg s.row l c).2),x,(pg s.row l c).2,rfl,hx,MS _ (by omega),Q,rfl⟩,?_⟩))⟩));rintro _ rfl;refine By ⟨_,⟨(s.pa.length:Int),s.row,(pg s.row l c).2,rfl,by omega,ok.row.nd,C,rfl⟩,?_⟩;rintro _ rfl;exact⟨true,rfl,Dh (Cv ⟨_,rfl⟩)⟩
  .rintro AA⟨NV,rfl⟩;refine pC (l:=λ_=>true) (a:=f3 a1 a2 u) (t:=f3 (As (s.put (s.ln.idxOf x) (pg s.row l c).2) A3 a1 dx o n) (B5 (s.put (s.ln.idxOf x) (pg s.row l c).2) a2 aK aP) (BY s.ln u (B8 ps s.row (q.set (s.ln.idxOf x) (DV ps s.row (pg s.row l c).2))))) (d:=f3 0 1 2) (To (by decide) (by decide) (by decide)) (Jn rfl rfl rfl) (Jn ⟨_,_,rfl⟩ ⟨_,_,rfl⟩ ⟨_,_,rfl⟩) (kI ?_);show Wp [.is (As (s.put (s.ln.idxOf x) (pg s.row l c).2) A3 a1 dx o n).pv,.is (B5 (s.put (s.ln.idxOf x) (pg s.row l c).2) a2 aK aP).pv,.is (BY s.ln u (B8 ps s.row (q.set (s.ln.idxOf x) (DV ps s.row (pg s.row l c).2)))).pv,.is (.str x),.is (.int c),.is (.lst ((pg s.row l c).1.map .str)),.is (.lst ((pg s.row l c).1.map .str)),EG A,EG v,.is (.tup [.lst ((pg s.row l c).1.map .str),(DU s.pa.length s.row (pg s.row l c).2)]),EG NV] _ _;rw[Jy,MX,OD];refine mG (Fs (AL rfl ⟨_,_,rfl,by decide +kernel,Bq (AL rfl (By ⟨_,⟨(s.put (s.ln.idxOf x) (pg s.row l c).2),x,(pg s.row l c).2,rfl,hx,MS _ (by omega),Q,rfl⟩,?_⟩))⟩));rintro _ rfl;refine Pk (Pk (AL rfl ⟨Gg,_,rfl,Mj ⟨.inr "kept", _,rfl,rfl,Au s.ln,_,rfl,AL rfl ⟨.inr x,(pg s.row l c).2.P,rfl,NW hx (by rw[Am,MS _ (by omega)];rfl),?_⟩⟩⟩));refine⟨G,G,?_⟩;rw[ia 40 G];exact⟨rfl,rfl,(s.put (s.ln.idxOf x) (pg s.row l c).2),_,⟨dx,o,n,rfl⟩,⟨aK,aP,rfl⟩,rfl,B,rfl⟩
def Hb:Ae ["script","pot","most","state","yard","handed","k","names","name"] ["script"] (AM Jq):=by walk_at "z1"
def ZGq:=Sc [(".0",.local),("thing",.local)]
def ZGF:Cr ["script","pot","most","state","yard","handed","k","names","name"] (AM Jq) ZGq "thing" [] []:=by walk_at "z2"
def vw:=Sc [(".0",.local),("turn",.local),("name",.free),("yard",.free)]
def ZA1:Cr ["script","pot","most","state","yard","handed","k","names","name"] (AM Jq) vw "turn" ["name","yard"] [8,4]:=by walk_at "z2"
def ZAr(F:AF K "law" "law" Jq f fd)(m:mg "law"=some (.ref f)):
  DB P w K mg Zv E2 13 f fd ["script"] (OK K):=by
 refine(F.BJ (k:=12) Hb (λvs H Q E h=>by obtain⟨a,ns,rfl,_⟩:=h;rfl) (λAY A outer s H vs Q E v h=>?_));refine⟨_,(AH rfl (Ax 1 Hb.nd (AS RB v (A0 (qv 0) (A0 A7 A5))))
   (AH rfl (Ax 2 Hb.nd (AI AN (Bn (A0 A7 (A0 A7 A5))) (Cy YX IK (A0 (E7 CL (AS Bp v (A0 (qv 1) (A0 A7 A5))) A7) A5))))
   (AH rfl (Ax 3 Hb.nd (AS XT v (A0 (qv 1) (A0 (qv 2) A5))))
   (AH rfl (Ax 4 Hb.nd (ZHB UP v (by decide) Wu (A0 (D2 (Bj v) (qv 3) Ap (λ_ _=>rfl)) A5)))
   (AH rfl (Ax 5 Hb.nd TL)
   (AH rfl (CS (Fy FE rfl (Kf rfl Dn (A0 (B6 (rD rfl) YU (A0 A7 (A0 (B6 (uj rfl) MM (A0 (B6 Fb Ar (A0 (qv 0) A5)) (A0 A7 A5))) A5))) A5)) (D0 6 Hb.nd) (AH rfl (Ax 1 Hb.nd (AS RB v (A0 (qv 0) (A0 (qv 6) A5))))
   (AH rfl (CS (Ao (Ke (Ad He (B6 nE Ar (A0 (qv 5) A5)) A7) (JY (GH (Ad (ZG9 v.G2) (qv 5) TL) (HR (Ad CL (AS Bp v (A0 (qv 1) (A0 A7 A5))) A7))).pt)).pt (AE rfl (D5 (AS aa v (A0 (qv 1) (A0 (qv 4) (A0 (qv 3) (A0 (qv 5) A5))))))) Az))
   (AH rfl (Ao (DW (Ew (AS XH v (A0 (qv 1) (A0 (qv 4) (A0 (qv 3) (A0 (qv 2) A5))))))) (AE rfl (AZ GY)) Az)
   (AH rfl (Ax 7 Hb.nd (B6 (bQ rfl) Bm (A0 (qv 5) A5)))
   (AH rfl (Ax 8 Hb.nd (AI Dk (qv 7) (AS Bp v (A0 (qv 1) (A0 (B6 Fb Ar (A0 (qv 7) A5)) A5)))))
   (AE rfl (Ao (DW (Ew (AS XR v (A0 (qv 4) (A0 (qv 3) (A0 (qv 5) (A0 (qv 8) (A0 (AS Bp v (A0 (qv 1) (A0 A7 A5))) A5)))))))) (AE rfl (AZ GY)) Az)))))))))
   (AH rfl (CS (wy (Fy FE rfl (wA (qv 5)) (D0 8 Hb.nd) (AE rfl (Ao (Ad (NH v.G2) (AI AN (Dy LQ v (by decide) (qv 4) (A0 (D2 (Bj v) (qv 5) (qv 8) (λ_ _=>rfl)) (A0 A7 A5))) A7) (Fx rfl ZGF (DS (Fx rfl ZA1 (Kf rfl Dn (A0 A7 A5)) (λ_ _ _ _=>by exact Q8) (λ_ _ _ _=>by exact(Dy MI v (by decide) (qv 1) (A0 (qv 0) A5))))) (λ_ _ _ _=>by exact(Fh (show QT _ _ (VQ K _)from vK (qv 0)))) (λ_ _ _ _=>by exact(qv 0)))) (AE rfl (AZ GY)) Az)))))
   (AE rfl (AZ GY))))))))),?_⟩
 refine Fz.ZGu h ?_;intro sc nW;show Ws [_,.any,.any,.any,.any,.any,.any,.any,.any] _ _ _;refine B4 (Z2 rfl (C4 ⟨_,rfl,by decide,by decide,?_⟩));show Ws [.raw (Dm K sc),.AG,.any,.any,.any,.any,.any,.any,.any] _ _ _
 walk_at "ww"
 refine⟨by decide,_,.inr ⟨rfl,rfl,?_⟩⟩
 walk_at "ww"
 refine⟨by decide,by decide,λr O r1=>?_⟩
 walk_at "ww"
 obtain⟨m,em,hm⟩:∃m:Nat,L2.Be [PV.int 9,.int 16] (if alike (PV.int r) (.int 0)=true then 1 else 0)=some (.int m)/\(m=9∨m=16):=by
  split
  .exact⟨16,rfl,.inr rfl⟩
  .exact⟨9,rfl,.inl rfl⟩
 refine⟨_,_,rfl,em,?_⟩;show Ws [.raw (Dm K sc),.AG,.is (.int m),.any,.any,.any,.any,.any,.any] _ _ _;refine B4 (Yq (ZGn rfl (Bq (AL rfl (By ⟨_,⟨m,rfl,by omega,by omega,rfl⟩,?_⟩)))));rintro _⟨ns,a2,J,o,g,rfl⟩;show Ws [.raw (Dm K sc),.AG,.is (.int m),.ow false (B5 (y0 ns) a2 o g),.any,.any,.any,.any,.any] _ _ _;refine B4 (Yq (xk (Oc (DZ (Kl (i:=3) rfl ⟨_,rfl,Rb λx dx=>⟨_,⟨x,dx,ns,rfl,⟨by have:=J.len;omega,J.nm,J.nd⟩,rfl⟩,?_⟩⟩)))));rintro _ t2⟨rfl,aK,aP,rfl⟩;refine⟨rfl,_,_,rfl,?_⟩;show Ws [.raw (Dm K sc),.AG,.is (.int m),.ow false (B5 (y0 ns) a2 o g),.ow false (As (y0 ns) A3 x dx aK aP),.any,.any,.any,.any] _ _ _;refine B4 (Yq (Yb λu=>?_));refine B4 (Fm (Gu (λ_ i AA=>vQ (.raw (Dm K sc)) m A3 x a2 u i AA) ?_))
 walk_at "ww"
 obtain⟨n,en,hn⟩:=wx (b:=8) (c:=24) (n:=sc.length) (by decide) (by decide) (by omega);rw[en,Ly];refine⟨by omega,by omega,⟨y0 ns,[],[],dx,aK,aP,o,g,_,_,_,_,rfl,⟨ZFR J (by omega),rfl,rfl,ZFf _,rfl,λi k l h=>by simp at h⟩,Ag _⟩,?_,?_⟩
 .rintro i p AA hp⟨s,ps,q,dx,aK,aP,o,g,s1,D,C,B,rfl,hd,G⟩;obtain⟨hi,rfl⟩:=Qn hp;have ZJ4:i<24:=by omega
  refine IL ?_;show Ws [.raw (Dm K sc),s1,.is (.int m),.ow false (B5 s a2 o g),.ow false (As s A3 x dx aK aP),.ow false (BY s.ln u (B8 ps s.row q)),.is (.int i),C,B] _ _ _;refine B4 (Z2 rfl (AL rfl ⟨_,rfl,by omega,by omega,?_⟩));show Ws [.raw (Dm K sc),.AG,.is (.int m),.ow false (B5 s a2 o g),.ow false (As s A3 x dx aK aP),.ow false (BY s.ln u (B8 ps s.row q)),.is (.int i),C,B] _ _ _;refine lL (λAA=>uf (.raw (Dm K sc)) m A3 x a2 u i AA) (Fm (Ey (ZCZ (k':=λb=>(b=true->s.ln.length<6)/\(b=false->s.ln≠[])) ?_ ?_))) ?_
  .have lk:(Au s.ln).length=s.ln.length:=by unfold Au;rw[AU]
   refine Xy (KG (TY (jK (Cm rfl ⟨Au s.ln,u,_,rfl,_,rfl,?_⟩))));rw[lk];refine C4 ⟨_,rfl,_,rfl,BA (λc=>?_) (λc=>⟨λz=>(by cases z),λ_ z=>c (rg (by rw[z];decide))⟩)⟩;have σ:s.ln.length<6:=by have:=uq c;omega
   refine Jb (KG (ZF4 (Cm rfl ⟨Au s.ln,u,_,rfl,_,rfl,?_⟩)));refine BA (λc2=>⟨λ_=>σ,λz=>(by cases z)⟩) (λc2=>?_)
   walk_at "ww"
   refine⟨by decide,by decide,λr O r1=>?_⟩
   walk_at "ww"
   exact⟨λ_=>σ,λ_ z=>c2 (by rw[z];rfl)⟩
  .rintro b⟨h6,Ac⟩;cases b with
   |true=>
    have σ:=h6 rfl;refine Lj rfl (rG (dz (b:=true) (q:=1) (I:=[0,1,2]) (lt:=false) (d:=f3 4 3 5) (a:=f3 x a2 u) (t:=f3 (As s A3 x dx aK aP) (B5 s a2 o g) (BY s.ln u (B8 ps s.row q))) (To (by decide) (by decide) (by decide)) (Jn rfl rfl rfl) (Jn ⟨_,_,rfl⟩ ⟨_,_,rfl⟩ ⟨_,_,rfl⟩) (λ_=>rfl) (by decide) (om rfl (Md 0 rfl (.inl ⟨_,_,_,rfl⟩) (Md 1 rfl (.inl ⟨_,_,_,rfl⟩) (Md 2 rfl (.inl ⟨_,_,_,rfl⟩) (je ⟨_,⟨m,s,ps,q,x,a2,u,_,_,rfl,⟨dx,aK,aP,rfl⟩,⟨o,g,rfl⟩,hd,by omega,by omega,rfl⟩,?_⟩)))))));rintro _ u0 u1 u2⟨rfl,s',R,⟨Cg,C9,CM,rfl⟩,⟨FO,FH,rfl⟩,rfl,JM,el⟩;exact⟨rfl,rfl,rfl,s',ps,R,Cg,C9,CM,FO,FH,.is (.int i),C,B,rfl,JM,G,λz=>by rw[z]at el;cases el⟩
   |false=>exact BU (by decide) (Cv ⟨s,ps,q,dx,aK,aP,o,g,.is (.int i),C,B,rfl,hd,G,Ac rfl⟩)
  .clear hd G;rintro _⟨s,ps,q,dx,aK,aP,o,g,D,C,B,rfl,hd,G,Ac⟩;refine B4 (iG (kB (hU (fi (i:=4) (j:=3) (q:=1) (by decide) rfl rfl (λ_=>rfl) (ZI2 rfl (lS rfl (.inl ⟨_,_,_,rfl⟩) (gO rfl (.inl ⟨_,_,_,rfl⟩) (dy (AL rfl (lH ⟨_,⟨m,s,ps,q,x,a2,_,_,rfl,by omega,⟨dx,aK,aP,rfl⟩,⟨o,g,rfl⟩,hd,by omega,rfl⟩,?_⟩))))))))));rintro _ u1 u2⟨rfl,s',EN,⟨Cg,C9,CM,rfl⟩,⟨FO,FH,rfl⟩,JM,e1,Y,e3⟩;refine⟨rfl,rfl,true,rfl,Dh (Cv ?_)⟩;rw[<- e1,<- Y];have ZAo:s'.ln≠[]:=by rw[Y];exact Ac
   have Eu:EN.length<=3 * (i+1):=by omega
   clear hd G Ac e1 Y e3;revert JM Eu ZAo;generalize s'=s,EN=ps,Cg=dx,C9=aK,CM=aP,FO=o,FH=g;intro hd Ac G;have lf:=hd.ok.Iv;show Ws [.raw (Dm K sc),.AG,.is (.int m),.ow false (B5 s a2 o g),.ow false (As s A3 x dx aK aP),.ow false (BY s.ln u (B8 ps s.row q)),D,C,B] _ _ _;refine B4 (Lb (j3 (Cm (i:=5) rfl ⟨s.ln,u,_,rfl,by omega,λC5 pm st=>?_⟩)));refine Si 7 rfl ?_;show Ws [.raw (Dm K sc),.AG,.is (.int m),.ow false (B5 s a2 o g),.ow false (As s A3 x dx aK aP),.ow false (BY s.ln u (B8 ps s.row q)),D,.is (.lst (C5.map .str)),B] _ _ _;have nl:C5.length=s.ln.length:=pm.length_eq;have KH:0<C5.length:=by rw[nl];exact List.length_pos_iff.mpr Ac
   walk_at "ww"
   rw[AU];refine⟨by omega,by omega,λr O r1=>?_⟩;obtain⟨r,rfl⟩:=HA O;obtain⟨y,L⟩:∃y,C5[r]?=some y:=⟨_,B7 (by omega)⟩;refine⟨_,.str y,rfl,RN (by rw[Am,L];rfl),?_⟩;have M:y∈s.ln:=pm.mem_iff.mp (DQ L);show Ws [.raw (Dm K sc),.AG,.is (.int m),.ow false (B5 s a2 o g),.ow false (As s A3 x dx aK aP),.ow false (BY s.ln u (B8 ps s.row q)),D,.is (.lst (C5.map .str)),.is (.str y)] _ _ _;refine uW (dz (b:=false) (q:=0) (I:=[0,1,2]) (lt:=false) (d:=f3 4 3 5) (a:=f3 x a2 u) (t:=f3 (As s A3 x dx aK aP) (B5 s a2 o g) (BY s.ln u (B8 ps s.row q))) (To (by decide) (by decide) (by decide)) (Jn rfl rfl rfl) (Jn ⟨_,_,rfl⟩ ⟨_,_,rfl⟩ ⟨_,_,rfl⟩) (λz=>by cases z) (by decide) (Md 0 rfl (.inl ⟨_,_,_,rfl⟩) (Md 1 rfl (.inl ⟨_,_,_,rfl⟩) (Md 2 rfl (.inl ⟨_,_,_,rfl⟩) (kc (AL rfl (kc (cZ rfl (C4 ⟨_,rfl,by decide,by decide,λc c0 c1=>?_⟩)))))))));obtain⟨c,rfl⟩:=HA c0;refine je ⟨_,⟨m,s,ps,q,x,a2,u,_,_,y,c,rfl,⟨dx,aK,aP,rfl⟩,⟨o,g,rfl⟩,hd,by omega,M,by omega,rfl⟩,?_⟩;rintro _ u0 u1 u2⟨rfl,s',R,⟨Cg,C9,CM,rfl⟩,⟨FO,FH,rfl⟩,rfl,JM,el⟩;refine⟨rfl,rfl,rfl,true,rfl,Lj rfl (Cv ?_)⟩;rw[<- el];exact⟨s',ps,R,Cg,C9,CM,FO,FH,.AG,D,_,_,rfl,JM,G⟩
 .rintro AA⟨s,ps,q,dx,aK,aP,o,g,s1,D,C,B,rfl,hd,G⟩;have ok:=hd.ok;have l1:=ok.l1;have lf:=ok.Iv;have v:=ok.row.len;have h4:=ok.m4;have J:=ok.gX;have W:ps.length<=1000:=by rw[JO]at G;omega
  refine B4 (Fm (ZDC (λn AA=>∃(ll:List Lp)(dx aK aP:Addr)(B:Slot),AA=[.raw (Dm K sc),s1,.is (.int m),.ow false (B5 s a2 o g),.ow false (As (⟨s.row,s.ln,ll,s.pa,s.fg⟩:Yd) A3 x dx aK aP),.raw (La u (Au s.ln) (B8 ps s.row q)),D,C,B]/\(⟨s.row,s.ln,ll,s.pa,s.fg⟩:Yd).Ok m/\∀j,n<=j->ll[j]?=s.ll[j]?) rfl ⟨s.ll,dx,aK,aP,B,rfl,ok,λj _=>rfl⟩ (by rintro n _⟨ll,dx,aK,aP,B,rfl,_⟩;rfl) ?_ ?_))
  .rintro n U _ N⟨ll,dx,aK,aP,B,rfl,R3,fo⟩;have N:(s.ln.map Sum.inr)[n]?=some U:=N;rw[Am]at N;obtain⟨y,L,rfl⟩:=Option.map_eq_some_iff.mp N;have hn:=(List.getElem?_eq_some_iff.mp L).1;have M:y∈s.ln:=DQ L;have V:s.ln.idxOf y=n:=NN ok.n1 L;have l2:s.ln.length=ll.length:=R3.l1;obtain⟨l,el⟩:∃l,s.ll[n]?=some l:=⟨_,B7 (by omega)⟩;obtain⟨k,ek⟩:∃k,q[n]?=some k:=⟨_,B7 (by rw[hd.ql];exact hn)⟩;have gl:=ok.good l (DQ el);have wc:ll[n]?=some l:=(fo n (Ag _)).trans el;obtain⟨T,eL⟩:=hd.iZ W ek el;show Ws [.raw (Dm K sc),s1,.is (.int m),.ow false (B5 s a2 o g),.ow false (As (⟨s.row,s.ln,ll,s.pa,s.fg⟩:Yd) A3 x dx aK aP),.raw (La u (Au s.ln) (B8 ps s.row q)),D,C,.is (.str y)] _ _ _;refine zk (i:=4) (qD (qw rfl (DD (Bl (Yh (aU ?_))))));show Wx [.raw (Dm K sc),EG s1,.is (.int m),.is (B5 s a2 o g).pv,.is (As (⟨s.row,s.ln,ll,s.pa,s.fg⟩:Yd) A3 x dx aK aP).pv,.raw (La u (Au s.ln) (B8 ps s.row q)),EG D,EG C,.is (.str y)] _ _;rw[Jy,MX];refine Zz (AL rfl ⟨_,_,rfl,by decide +kernel,Bq (uQ rfl (AL rfl ⟨.inr y,GZ ps s.row k,rfl,NW M (by unfold B8;rw[V,Am,ek];rfl),Bq (C4 (By ⟨_,⟨m,(⟨s.row,s.ln,ll,s.pa,s.fg⟩:Yd),ps,k.1,k.2.1,k.2.2,60,rfl,⟨R3,T.pa,T.fg,T.ch,T.hn,T.len,T.gd,T.hs⟩,by omega,rfl⟩,?_⟩))⟩))⟩);rintro _⟨a,rfl⟩;rw[eL];refine⟨rfl,Ut _ _ _ _ _,rfl,?_⟩;rw[Yj];refine⟨_,.inr ⟨rfl,rfl,C4 ⟨_,_,rfl,rfl,?_⟩⟩⟩;refine yd (rB (jb:=8) (λj S us EN=>∃dx aK aP:Addr,OV.nd S x us=As ((⟨s.row,s.ln,ll,s.pa,s.fg⟩:Yd).put n (pg s.row l j).2) A3 x dx aK aP/\EN=Lk s.row l j) rfl rfl (dO (C4 ⟨_,rfl,by decide,by decide,?_⟩)));rw[show(Ka (Int.toNat 60)).length=60 from JO 60];refine⟨by decide,⟨dx,aK,aP,by rw[show(pg s.row l 0).2=l from rfl,kL wc];rfl,rfl⟩,λj S us EN hj X=>?_,λS us EN X=>?_⟩
   .obtain⟨dx,aK,aP,e,rfl⟩:=X;have ZT:((⟨s.row,s.ln,ll,s.pa,s.fg⟩:Yd).put n (pg s.row l j).2).Ok m:=R3.put (KN gl j);have e0:=e;unfold As at e0;injection e0 with z1 z2 z3
    subst z1;refine⟨dx,yN,rfl,by decide +kernel,_,⟨m,(⟨s.row,s.ln,ll,s.pa,s.fg⟩:Yd).put n (pg s.row l j).2,x,_,y,(pg s.row l j).2,rfl,⟨dx,aK,aP,e⟩,ZT,M,?_,rfl⟩,?_⟩
    .show(ll.set n _)[s.ln.idxOf y]?=_;rw[V];exact Bw (by omega)
    .rintro _ _⟨rfl,Cg,C9,CM,rfl⟩;refine⟨_,_,rfl,Cg,C9,CM,?_,(iF s.row l j).symm⟩;have z:=iU (⟨s.row,s.ln,ll,s.pa,s.fg⟩:Yd) y (pg s.row l j).2;rw[show(⟨s.row,s.ln,ll,s.pa,s.fg⟩:Yd).ln.idxOf y=n from V]at z;show As (((⟨s.row,s.ln,ll,s.pa,s.fg⟩:Yd).put n (pg s.row l j).2).EV y (pg s.row l j).2) A3 x Cg C9 CM=_;rw[z,<- VU]
   .obtain⟨dx,aK,aP,e,rfl⟩:=X;rw[e];refine⟨_,rfl,EM (VL OE id (Jz (HF (DZ (Cm rfl ⟨_,rfl,_,.inl ⟨rfl,?_⟩⟩)))))⟩;refine⟨by unfold Lk;rw[AU,M5];decide,λp hp=>?_,λp hp _=>AL rfl rfl,?_⟩
    .refine ZFt (AL rfl ?_);rcases ZBm J hp with rfl|⟨z,rfl,W⟩
     .exact .inl ⟨rfl,rfl⟩
     .exact .inr ⟨z,rfl,W,rfl⟩
    .rw[List.map_id,dw J];refine⟨(pg s.row l 60).1,rfl,rfl,false,rfl,BU (by decide) (Cv ?_)⟩;refine⟨ll.set n (pg s.row l 60).2,dx,aK,aP,.is (.str y),rfl,R3.put (KN gl 60),λj hj=>?_⟩;rw[Br (by omega)];exact fo j (by omega)
  .walk_at "ww"
   rfl
def all_mk{h:Heap}{fa f1 f2 f3 f4 f5 f6 f7 f8 f9 eV gE fQ nH gp kG bc eU dg bw Qh fb ky gZ RW mK lD gy kf iz Vx Sl SU T6 cF lA cR l9 jR jU hJ jy nJ Tx T8 bO iC gF jX fq j9 eG gW bh cD cg Tr eQ dD jz fA cM md Tp Qg jF eO cw jk lX dm bW:Addr}{g1 g2 g3 g4 g5 g6 g7 g8 g9 g10 g11 yJ g13 tZ g15 vh pQ wZ g19 g20 g21 g22 yw qe g25 r6 xB qV g29 g30 x8 g32 uu g34 uM g36 qG g38 x3 ub rE uX wM g44 g45 g46 g47 sM g49 g50 ux g52 sh g54 g55 g56 ya g58 g59 p9 g61 g62 xU g64 g65 xg g67 g68 g69 tY sE:FuncData}(X:K.In h)(G:h.Ns mainGlobals mg)(oe:mg "law"=some (.ref fa))
  
  (ZBy:PySem.W.nsIn K mainGlobals "Yard"=some (some (.ref A3)))
  (xu:PySem.W.plainGet K A3 Str.empty=true)
  (tD:PySem.W.hasDictIn K A3=true)
  (ZCY:PySem.W.plainOver K A3=true)
  (ZAv:PySem.W.findIn K (.ref A3) "__setattr__"=some (some (.builtin "object.__setattr__")))
  (qX:PySem.W.makesIn K A3=true)
  (vt:PySem.W.keepIn K (.ref A3)=true)
  (FN:PySem.W.findIn K (.ref A3) "forgotten"=some none)
  (Df:PySem.W.findIn K (.ref A3) "kept"=some none)
  (FJ:PySem.W.findIn K (.ref A3) "past"=some none)
  (CA:PySem.W.findIn K (.ref A3) "standing"=some none)
  (a1:nS K "is_name" (.ref f1)) (F1:AF K "is_name" "is_name" Sk f1 g1)
  (a2:nS K "check_new_row" (.ref f2)) (F2:AF K "check_new_row" "check_new_row" Yo f2 g2)
  (a3:PySem.W.findIn K (.ref A3) "__init__"=some (some (.ref f3))) (F3:AF K "__init__" "Yard.__init__" W2 f3 g3)
  (zC:PySem.W.isFn K (.ref f3)=true)
  (a4:PySem.W.findIn K (.ref A3) "count"=some (some (.ref f4))) (F4:AF K "count" "Yard.count" XI f4 g4)
  (tN:PySem.W.isFn K (.ref f4)=true)
  (a5:PySem.W.findIn K (.ref A3) "check_time"=some (some (.ref f5))) (F5:AF K "check_time" "Yard.check_time" VR f5 g5)
  (fn5:PySem.W.isFn K (.ref f5)=true)
  (a6:PySem.W.findIn K (.ref A3) "row_at"=some (some (.ref f6))) (F6:AF K "row_at" "Yard.row_at" Zy f6 g6)
  (fn6:PySem.W.isFn K (.ref f6)=true)
  (a7:nS K "is_gap" (.ref f7)) (F7:AF K "is_gap" "is_gap" UH f7 g7)
  (a8:nS K "is_coming" (.ref f8)) (F8:AF K "is_coming" "is_coming" TK f8 g8)
  (a9:nS K "is_slip" (.ref f9)) (F9:AF K "is_slip" "is_slip" Ui f9 g9)
  (yj:nS K "shown" (.ref eV)) (F10:AF K "shown" "shown" Q2 eV g10)
  (rf:nS K "loop_at" (.ref gE)) (vT:AF K "loop_at" "loop_at" WM gE g11)
  (a12:nS K "gap_behind_put" (.ref fQ)) (F12:AF K "gap_behind_put" "gap_behind_put" Uc fQ yJ)
  (a13:nS K "gap_behind_take" (.ref nH)) (F13:AF K "gap_behind_take" "gap_behind_take" ZP nH g13)
  (oq:nS K "place_of" (.ref gp)) (F14:AF K "place_of" "place_of" X4 gp tZ)
  (a15:nS K "gap_led" (.ref kG)) (F15:AF K "gap_led" "gap_led" Va kG g15)
  (zF:nS K "coming_without" (.ref bc)) (xb:AF K "coming_without" "coming_without" Qp bc vh)
  (sy:nS K "joins" (.ref eU)) (F17:AF K "joins" "joins" Zl eU pQ)
  (a18:nS K "coming_behind" (.ref dg)) (vH:AF K "coming_behind" "coming_behind" XG dg wZ)
  (pX:nS K "loop_led" (.ref bw)) (uv:AF K "loop_led" "loop_led" Uo bw g19)
  (a20:PySem.W.findIn K (.ref A3) "led_on"=some (some (.ref Qh))) (gI:AF K "led_on" "Yard.led_on" Ua Qh g20)
  (vW:PySem.W.isFn K (.ref Qh)=true)
  (xp:nS K "check_coming" (.ref fb)) (F21:AF K "check_coming" "check_coming" Xf fb g21)
  (a22:nS K "marks_at" (.ref ky)) (uE:AF K "marks_at" "marks_at" O5 ky g22)
  (a23:nS K "least_slip" (.ref gZ)) (yp:AF K "least_slip" "least_slip" Yz gZ yw)
  (ug:PySem.W.findIn K (.ref A3) "ticket_now"=some (some (.ref RW))) (iY:AF K "ticket_now" "Yard.ticket_now" Zr RW qe)
  (rO:PySem.W.isFn K (.ref RW)=true)
  (a25:nS K "is_loop" (.ref mK)) (F25:AF K "is_loop" "is_loop" ZF mK g25)
  (xF:nS K "check_loop" (.ref lD)) (tu:AF K "check_loop" "check_loop" Xk lD r6)
  (sW:nS K "things_to_come" (.ref gy)) (sj:AF K "things_to_come" "things_to_come" Rz gy xB)
  (yI:nS K "rest" (.ref kf)) (xK:AF K "rest" "rest" ZA kf qV)
  (zV:nS K "loop_telling" (.ref iz)) (uc:AF K "loop_telling" "loop_telling" Zt iz g29)
  (bZ:nS K "step" (.ref Vx)) (F30:AF K "step" "step" Xm Vx g30)
  (zi:nS K "step_loops" (.ref Vx))
  (tH:PySem.W.findIn K (.ref A3) "page"=some (some (.ref Sl))) (lP:AF K "page" "Yard.page" YM Sl x8)
  (uA:PySem.W.isFn K (.ref Sl)=true)
  (a32:PySem.W.findIn K (.ref A3) "loop"=some (some (.ref SU))) (df:AF K "loop" "Yard.loop" aI SU g32)
  (vn:PySem.W.isFn K (.ref SU)=true)
  (a33:PySem.W.findIn K (.ref A3) "step"=some (some (.ref T6))) (i5:AF K "step" "Yard.step" YF T6 uu)
  (ZEM:PySem.W.isFn K (.ref T6)=true)
  (a34:nS K "_law_pot" (.ref cF)) (F34:AF K "_law_pot" "_law_pot" Yv cF g34)
  (wm:nS K "_law_take" (.ref lA)) (F35:AF K "_law_take" "_law_take" VO lA uM)
  (a36:nS K "_law_letters" (.ref cR)) (zt:AF K "_law_letters" "_law_letters" aS cR g36)
  (x5:nS K "_law_name" (.ref l9)) (F37:AF K "_law_name" "_law_name" YZ l9 qG)
  (oZ:nS K "_law_names" (.ref jR)) (w6:AF K "_law_names" "_law_names" Zu jR g38)
  (a39:nS K "_law_row" (.ref jU)) (F39:AF K "_law_row" "_law_row" ZQ jU x3)
  (tS:nS K "_law_new" (.ref hJ)) (F40:AF K "_law_new" "_law_new" Xg hJ ub)
  (a41:nS K "check_rule" (.ref jy)) (x9:AF K "check_rule" "check_rule" ZJ jy rE)
  (wQ:nS K "begun" (.ref nJ)) (F42:AF K "begun" "begun" WY nJ uX)
  (a43:PySem.W.findIn K (.ref A3) "ticket"=some (some (.ref Tx))) (dC:AF K "ticket" "Yard.ticket" Zi Tx wM)
  (wL:PySem.W.isFn K (.ref Tx)=true)
  (a44:PySem.W.findIn K (.ref A3) "begin"=some (some (.ref T8))) (kO:AF K "begin" "Yard.begin" Xr T8 g44)
  (ZHl:PySem.W.isFn K (.ref T8)=true)
  (yF:nS K "_law_rule" (.ref bO)) (F45:AF K "_law_rule" "_law_rule" Z1 bO g45)
  (a46:nS K "_law_begun" (.ref iC)) (rS:AF K "_law_begun" "_law_begun" Z8 iC g46)
  (a47:nS K "_law_begun_both" (.ref gF)) (F47:AF K "_law_begun_both" "_law_begun_both" WZ gF g47)
  (yB:nS K "check_put" (.ref jX)) (F48:AF K "check_put" "check_put" W0 jX sM)
  (yK:nS K "check_move" (.ref fq)) (F49:AF K "check_move" "check_move" Xo fq g49)
  (a50:nS K "check_turn" (.ref j9)) (vU:AF K "check_turn" "check_turn" Xq j9 g50)
  (pY:nS K "check_deed" (.ref eG)) (qf:AF K "check_deed" "check_deed" VC eG ux)
  (yU:nS K "row_turned" (.ref gW)) (F52:AF K "row_turned" "row_turned" Wh gW g52)
  (zP:nS K "row_with" (.ref bh)) (F53:AF K "row_with" "row_with" W6 bh sh)
  (a54:nS K "row_without" (.ref cD)) (F54:AF K "row_without" "row_without" T1 cD g54)
  (qM:nS K "done" (.ref cg)) (xv:AF K "done" "done" Y9 cg g55)
  (a56:PySem.W.findIn K (.ref A3) "act"=some (some (.ref Tr))) (bR:AF K "act" "Yard.act" UQ Tr g56)
  (xi:PySem.W.isFn K (.ref Tr)=true)
  (a57:nS K "_law_done" (.ref eQ)) (rF:AF K "_law_done" "_law_done" Qi eQ ya)
  (pH:nS K "_law_gap" (.ref dD)) (xM:AF K "_law_gap" "_law_gap" XQ dD g58)
  (ou:nS K "_law_led" (.ref jz)) (we:AF K "_law_led" "_law_led" Sn jz g59)
  (uo:nS K "_law_acts" (.ref fA)) (wU:AF K "_law_acts" "_law_acts" ZD fA p9)
  (wz:nS K "_law_deed" (.ref cM)) (zR:AF K "_law_deed" "_law_deed" aC cM g61)
  (a62:nS K "_law_stirred" (.ref md)) (qu:AF K "_law_stirred" "_law_stirred" Zk md g62)
  (pL:PySem.W.findIn K (.ref A3) "ticket_of"=some (some (.ref Tp))) (cU:AF K "ticket_of" "Yard.ticket_of" Yp Tp xU)
  (v9:PySem.W.isFn K (.ref Tp)=true)
  (wK:PySem.W.findIn K (.ref A3) "row"=some (some (.ref Qg))) (kQ:AF K "row" "Yard.row" YV Qg g64)
  (qE:PySem.W.isFn K (.ref Qg)=true)
  (og:nS K "_law_step" (.ref jF)) (F65:AF K "_law_step" "_law_step" P0 jF g65)
  (a66:nS K "_law_shown" (.ref eO)) (sH:AF K "_law_shown" "_law_shown" Sm eO xg)
  (si:nS K "_law_least" (.ref cw)) (F67:AF K "_law_least" "_law_least" RY cw g67)
  (zJ:nS K "_law_whole" (.ref jk)) (F68:AF K "_law_whole" "_law_whole" UY jk g68)
  (a69:nS K "_law_is_ticket" (.ref lX)) (F69:AF K "_law_is_ticket" "_law_is_ticket" O9 lX g69)
  (a70:nS K "_law_stepped_both" (.ref dm)) (qg:AF K "_law_stepped_both" "_law_stepped_both" aL dm tY)
  (kq:nS K "law" (.ref bW)) (mq:AF K "law" "law" Jq bW sE)
  (yk:nN K "all")
  (ZHR:nN K "bool")
  (rW:nN K "enumerate")
  (ZCB:nN K "int")
  (ZFI:nN K "isinstance")
  (ZAD:nN K "len")
  (ZGg:nN K "list")
  (tw:nN K "max")
  (ZEw:nN K "min")
  (ZC5:nN K "range")
  (y2:nN K "reversed")
  (ZCh:nN K "set")
  (pB:nN K "sorted")
  (ZFH:nN K "tuple")
  (ZH3:nS K "LETTERS" (.str "abcdefghijklmnopqrstuvwxyz" aG))
  (wC:nS K "MOST_LETTERS" (.int 8 UU))
  (zx:nS K "MOST_LOOPS" (.int 12 Uw))
  (wG:nS K "MOST_THINGS" (.int 40 OS))
  (uN:nS K "RULES" (.ref EF))
  {ur:Option Addr}{ZFw:Array (Option Value)}{yM:Nat}{ZEp ZHh ZBn:Tok}(rT:K.lookup EF=some ⟨.type "tuple", ur,.seq #[.str "none" ZEp,.str "ahead" ZHh,.str "all" ZBn] yM,ZFw⟩)
  : ∃fd:FuncData,(∀(s:Shared)(v:Value),BindsTo s fd ⟨[v],[]⟩ [("script", v)])/\∀Zv:Heap,K.In Zv->Zv.Ns mainGlobals mg->DB l.prog w K mg Zv E2 13 fa fd ["script"] (OK K):=by
 have e:=oe.symm.trans (Aw X G kq);cases e;have Ai:Bz K A3:=⟨xu,tD,ZCY,ZAv⟩;have J2:Mk K A3 f3:=⟨qX,a3,zC,vt⟩;have mt4:Meth K A3 "count" f4:=⟨a4,tN,F4.kp⟩;have sQ:Meth K A3 "check_time" f5:=⟨a5,fn5,F5.kp⟩;have xw:Meth K A3 "row_at" f6:=⟨a6,fn6,F6.kp⟩;have ZGW:Meth K A3 "led_on" Qh:=⟨a20,vW,gI.kp⟩;have ZFC:Meth K A3 "ticket_now" RW:=⟨ug,rO,iY.kp⟩;have rX:Meth K A3 "page" Sl:=⟨tH,uA,lP.kp⟩;have yr:Meth K A3 "loop" SU:=⟨a32,vn,df.kp⟩;have ZEN:Meth K A3 "step" T6:=⟨a33,ZEM,i5.kp⟩;have ZHE:Meth K A3 "ticket" Tx:=⟨a43,wL,dC.kp⟩;have ZAc:Meth K A3 "begin" T8:=⟨a44,ZHl,kO.kp⟩;have ZFB:Meth K A3 "act" Tr:=⟨a56,xi,bR.kp⟩;have zB:Meth K A3 "ticket_of" Tp:=⟨pL,v9,cU.kp⟩;have ZI4:Meth K A3 "row" Qg:=⟨wK,qE,kQ.kp⟩;have Hq:=GU X G yk;have UZ:=GU X G ZHR;have MP:=GU X G rW;have IK:=GU X G ZCB;have JE:=GU X G ZFI;have Ar:=GU X G ZAD;have CD:=GU X G ZGg;have YU:=GU X G tw;have MM:=GU X G ZEw;have Dn:=GU X G ZC5;have Mx:=GU X G y2;have NL:=GU X G ZCh;have Bm:=GU X G pB;have CC:=GU X G ZFH;have W5:=Aw X G ZH3;have XE:=Aw X G wC;have VM:=Aw X G zx;have Mr:=Aw X G wG;have JR:=Aw X G uN;have J4:∀H,AD K H EF [.str "none",.str "ahead",.str "all"]:=λH=>.inr ⟨_,_,_,rT,rfl,rfl,(by show 3<=sizeLine;decide +kernel),(.cons ⟨_,rfl⟩ (.cons ⟨_,rfl⟩ (.cons ⟨_,rfl⟩ .nil)))⟩;have Wu:=Aw X G ZBy;obtain⟨_,_,kV,dc,pm,an,cd,ct,_,rfl,_,_⟩:=id mq.ex;refine⟨PySem.W.fnOf "law" "law" (LJ Jq) (GF Jq) (AM Jq) .none kV dc pm an cd ct,λs v=>.of_eq rfl,λZv _ _=>?_⟩;have Ij:=ZGf (P:=l.prog) (w:=w) (Zv:=Zv) Hq Ar W5 XE F1 (Aw X G a1);have ZH:=yY Ar Ij MP Mr F2 (Aw X G a2);have UP:=ZGa (P:=l.prog) (w:=w) (mg:=mg) (Zv:=Zv) (A3:=A3) ZH CD Ai FN Df FJ CA F3 J2;have Gk:=ZGl (P:=l.prog) (w:=w) (mg:=mg) (Zv:=Zv) (A3:=A3) Ar Ai FN FJ F4 mt4;have Xa:=wt (P:=l.prog) (w:=w) (mg:=mg) (Zv:=Zv) (A3:=A3) Ai FN Gk JR J4 F5 sQ;have YG:=qr (P:=l.prog) (w:=w) (mg:=mg) (Zv:=Zv) (A3:=A3) Ai FN FJ CA Gk F6 xw;have J1:=ZEm (P:=l.prog) (w:=w) (Zv:=Zv) Ar F7 (Aw X G a7);have MR:=uR (P:=l.prog) (w:=w) (Zv:=Zv) Hq CD NL Bm F8 (Aw X G a8);have aV:=ZBi MR J1 F9 (Aw X G a9);have Yg:=pR (P:=l.prog) (w:=w) (Zv:=Zv) F10 (Aw X G yj);have WE:=ZFi Bm J1 aV Yg CC vT (Aw X G rf);have RE:=ZAy (P:=l.prog) (w:=w) (Zv:=Zv) F12 (Aw X G a12);have TQ:=zh (P:=l.prog) (w:=w) (Zv:=Zv) F13 (Aw X G a13);have El:=ph (P:=l.prog) (w:=w) (Zv:=Zv) F14 (Aw X G oq);have WA:=ue RE TQ El F15 (Aw X G a15);have NM:=xO (P:=l.prog) (w:=w) (Zv:=Zv) CC xb (Aw X G zF);have Xz:=pO (P:=l.prog) (w:=w) (Zv:=Zv) F17 (Aw X G sy);have Wj:=xr Bm CC NM Xz vH (Aw X G a18);have N1:=pe Wj WA uv (Aw X G pX);have ZM:=ZA2 (P:=l.prog) (w:=w) (mg:=mg) (Zv:=Zv) (A3:=A3) Ai FN FJ Xa YG WE N1 gI ZGW;have Vn:=ZAU El F21 (Aw X G xp);have VZ:=zU (P:=l.prog) (w:=w) (Zv:=Zv) Bm CC uE (Aw X G a22)
 have Vk:=qy MP Vn VZ yp (Aw X G a23);have J5:=vP (P:=l.prog) (w:=w) (mg:=mg) (Zv:=Zv) (A3:=A3) Ai CA Gk Vk iY ZFC;have ZI:=ZC0 JR J4 MR J1 F25 (Aw X G a25);have X3:=pk ZI tu (Aw X G xF);have Qo:=ZFW (P:=l.prog) (w:=w) (Zv:=Zv) sj (Aw X G sW);have aM:=ZCR X3 Qo xK (Aw X G yI);have YE:=ZDB El NM uc (Aw X G zV);have xX:=xN YE aM F30 (Aw X G bZ);have Ma:=A9.alias xX (Aw X G bZ) (Aw X G zi);have LQ:=ZFx (P:=l.prog) (w:=w) (mg:=mg) (Zv:=Zv) (A3:=A3) Ar Ai CA ZM J5 Ma lP rX;have Hy:=ZBQ (P:=l.prog) (w:=w) (mg:=mg) (Zv:=Zv) (A3:=A3) Ai Df df yr;have MI:=rA (P:=l.prog) (w:=w) (mg:=mg) (Zv:=Zv) (A3:=A3) Ai Df CA Ma Hy i5 ZEN;have RB:=ZBJ (P:=l.prog) (w:=w) (Zv:=Zv) Ar F34 (Aw X G a34);have Bp:=zL (P:=l.prog) (w:=w) (Zv:=Zv) F35 (Aw X G wm);have QJ:=ZBu (P:=l.prog) (w:=w) (Zv:=Zv) zt (Aw X G a36);have Ic:=ZB2 Ar QJ Bp F37 (Aw X G x5);have Uv:=qH Ic Dn w6 (Aw X G oZ);have V2:=ZDk Bp Uv F39 (Aw X G a39);have XT:=qT V2 F40 (Aw X G tS);have Mo:=ZH0 (P:=l.prog) (w:=w) (Zv:=Zv) JR J4 x9 (Aw X G a41);have NG:=ZCf Bm CC Mo F42 (Aw X G wQ);have Vv:=vM (P:=l.prog) (w:=w) (mg:=mg) (Zv:=Zv) (A3:=A3) Ai CA J5 NG dC ZHE;have Ye:=wq (P:=l.prog) (w:=w) (mg:=mg) (Zv:=Zv) (A3:=A3) Ar Ij Ai Df CA Mo NG VM kO ZAc;have X2:=ZHx Bp F45 (Aw X G yF);have XS:=ZDU (P:=l.prog) (w:=w) (Zv:=Zv) Bm CC rS (Aw X G a46);have aa:=ZCy (A3:=A3) Bm Ic Ye Vv XS X2 F47 (Aw X G a47);have ZC:=wN Ar Ij Mr F48 (Aw X G yB);have YI:=yo Ar El F49 (Aw X G yK);have ZK:=vf (P:=l.prog) (w:=w) (Zv:=Zv) Ar vU (Aw X G a50);have XM:=ZE3 El YI ZC ZK qf (Aw X G pY);have XA:=ZCD (P:=l.prog) (w:=w) (Zv:=Zv) CD Mx F52 (Aw X G yU);have Rg:=tF (P:=l.prog) (w:=w) (Zv:=Zv) CD F53 (Aw X G zP);have Rk:=ZCd (P:=l.prog) (w:=w) (Zv:=Zv) F54 (Aw X G a54);have Zp:=p8 XM XA Rg Rk xv (Aw X G qM);have Z7:=ZDv (P:=l.prog) (w:=w) (mg:=mg) (Zv:=Zv) (A3:=A3) CD Ai Df FJ CA N1 Zp bR ZFB;have Y5:=uD (P:=l.prog) (w:=w) (Zv:=Zv) CD Mx rF (Aw X G a57);have UI:=rC (P:=l.prog) (w:=w) (Zv:=Zv) IK xM (Aw X G pH);have Vm:=ZHK Bm CC UI we (Aw X G ou);have Xl:=ZD4 (A3:=A3) CD Z7 Y5 Vm wU (Aw X G uo);have Xx:=zN Ar Bp Ic zR (Aw X G wz);have XH:=ZFj (A3:=A3) Bp Dn Xl Xx qu (Aw X G a62);have V5:=ZCI (P:=l.prog) (w:=w) (mg:=mg) (Zv:=Zv) (A3:=A3) Ai J5 Hy cU zB;have Yu:=uH (P:=l.prog) (w:=w) (mg:=mg) (Zv:=Zv) (A3:=A3) CD Ai CA kQ ZI4
 have YS:=y4 (P:=l.prog) (w:=w) (Zv:=Zv) CC F65 (Aw X G og);have Xv:=ZES (P:=l.prog) (w:=w) (Zv:=Zv) Ar Bm Dn sH (Aw X G a66);have Z3:=ZD3 (P:=l.prog) (w:=w) (Zv:=Zv) Ar Dn MM F67 (Aw X G si);have X1:=tE (P:=l.prog) (w:=w) (Zv:=Zv) IK UZ JE F68 (Aw X G zJ);have ZO:=ZE1 Hq Ar CD NL Bm CC JE Z3 Xv X1 F69 (Aw X G a69);have XR:=xn (A3:=A3) Gk Hy Dn LQ Yu MI V5 ZO YS qg (Aw X G a70);exact ZAr (A3:=A3) Ar Bm Bp Dn IK MM LQ MI UP aa XT RB XR XH YU Wu mq (Aw X G kq)
def walk{q:Program}{loose:List Str}{XP:(ZJT)->Heap->Prop}{YP:World->Heap->Prop}{d:DefRec}{K:Params->ZJR}(hn:l.most=some 63)(PJ:d.params.defaults=[])
  (hY:∀(w:World)(h:Heap),YP w h->(K w.params).In h)
  (F:∀(w:World)(mg:ZJT)(fa:Addr)(h:Heap),(K w.params).In h->h.Ns mainGlobals mg->mg d.name=some (.ref fa)->
   ∃fd:FuncData,(∀(s:Shared)(u:Value),BindsTo s fd ⟨[u],[]⟩ [("script", u)])/\∀Zv:Heap,(K w.params).In Zv->Zv.Ns mainGlobals mg->DB l.prog w (K w.params) mg Zv E2 13 fa fd ["script"] (OK (K w.params))) :
  PySem.W.WalkO q loose XP YP l.row.toRowW d [] (λf vs=>PySem.call f vs):=
 L2.ZAh (n:=63) (k:=13) (x:="script") (CX:=λ_=>E2) (sp:=λw=>OK (K w.params)) hn (by decide) PJ ⟨rfl,by decide,by decide⟩ hY F (λ_ _ a ns hl _ hS=>⟨a,ns,rfl,hS,hl,λ_=>rfl⟩) λ_ _ _ _ _ z=>z
end Pf
open PySem.W
local macro_rules | `(tactic| walk_at "kF")=>`(tactic| (refine' L2.ud ?_ ?_ ?_;all_goals try k_is;all_goals k_is))
set_option maxRecDepth 100000 in
set_option maxHeartbeats 0 in
theorem PySem.Challenge.cw_stirround_k70_whole_tickets_go_on_as_kep_holds : PySem.Challenge.rw_stirround_k70_whole_tickets_go_on_as_kep.Holds := by
 w_on;o_law;k_head;(case hw=>w_witness2)
 k_fill
 refine Pf.walk (l:=PySem.Challenge.rw_stirround_k70_whole_tickets_go_on_as_kep) rfl rfl (λw h Y=>PySem.W.kIn_of Y) ?F
 case F=>
  intro w mg fa h KX G Pr;apply Pf.all_mk KX G Pr
  any_goals first|k_is|(show _=_;k_is)|kernel_rfl|walk_at "kF"
#print axioms PySem.Challenge.cw_stirround_k70_whole_tickets_go_on_as_kep_holds
