import PyProof.Rows.All
import Wide.All
import OpenK.AllK
import Wide.FinOn
import Lean
import PyProof.EqAt
import PyProof.EqKinds
import PyProof.TupleCall
import KE.KRevIter
import PyProof.CallType
import PyProof.EnumMake
import PyProof.EnumFor
import PyProof.Rows.SortStr
import PyProof.Rows.TupAdd
import KE.KLcPair
import PyProof.Draws
import PyProof.TupleIter
import PyProof.IsRules
import PyProof.ListRange
import PyProof.NeKinds
import KE.KTryMore
import OpenK.KOwn
import PyProof.ExcInit
import PyProof.FString
import PyProof.ReprStr
import PyProof.StrLawsRepr
import PyProof.CallStr
import OpenK.KCls
import PyProof.ExcArgsOwn
import PyProof.Rows.StrJoin2
import PyProof.ZipIter
import PyProof.Rows.ZipGen
import PyProof.FactsAll.set_2
import PyProof.MeetsSeq2
import PyProof.Rows.Range3
import PyProof.Rows.ChunkLeaf
import PyProof.DictWalks
import PyProof.ListMulRoad
import PyProof.ListCopy
import PySem.Challenge.RW_stirround_k24_logs_bent
set_option genSizeOf false
set_option linter.all false
set_option compiler.extract_closed false
set_option bootstrap.genMatcherCode false
def nc:=@PySem.wpAny_bind
def nv:=@decide_eq_true
def o5:=@if_neg
def oR:=@PySem.wpAny_pure
def om:=@of_decide_eq_true
def pQ:=@if_pos
def q8:=@decide_eq_false
def qG:=@PySem.wpAny_mono
def qK:=@PySem.builtinLookup_eq_fast
def qz:=@PySem.wpAny_newObj_type
def r6:=@PySem.wpAny_field
def rA:=@congrArg
def rL:=@PySem.wpAny_callSpecial?_slot
def rm:=@PySem.wpAny_Call_Name_kw
def sR:=@PySem.wpAny_holding
def tq:=@PySem.wpAny_call_entry
def u4:=@beq_self_eq_true
def uA:=@PySem.wpAny_truthy_bool
def uL:=@PySem.wpAny_specialOf
def uQ:=@PySem.typeLookup_type
def ub:=@PySem.isSubtype_type
def vJ:=@PySem.wpAny_updateSeq
def vM:=@PySem.wpAny_typeOf
def vQ:=@PySem.wpAny_setField
def vw:=@PySem.wpAny_isInstance
def wM:=@PySem.wpAny_passesOwn
def wQ:=@PySem.wpAny_of_eq
def wd:=@PySem.wpAny_ite_split
def wg:=@PySem.wpAny_execs_nil
def x9:=@PySem.wpAny_loadPart_at
def xX:=@PySem.codeAny_extend_loopS
def xf:=@PySem.wpAny_attempt
def xt:=@PySem.plainId_quiet
def xu:=@PySem.tupleKind_room_in1
def yU:=@PySem.codeAny_mono
def yg:=@PySem.wpAny_seqItems
def yn:=@PySem.wpAny_pyIter_enum
def yy:=@PySem.plainObj_wpAny_Assign_Attribute
def zd:=@PySem.wpAny_rule
def ZA1:=@PySem.wpAny_call
def ZA5:=@PySem.wpAny_standAt
def ZAC:=@PySem.codeAny_call_builtin
def ZAK:=@PySem.codeAny_builtin
def ZAW:=@PySem.wpAny_pyIter_tuple
def ZAZ:=@decide_eq_true_iff
def ZAa:=@PySem.wpAny_letOwnedTupleGo_enum
def ZAc:=@PySem.noFill_tuple_add
def ZAg:=@PySem.call_meets
def ZAh:=@or_false
def ZAm:=@PySem.callType_codes
def ZAp:=@if_true
def ZBJ:=@beq_iff_eq
def ZBM:=@if_false
def AQ:=@List.length_map
def Ax:=@Nat.le_refl
def B5:=@PySem.W.mg_of
def B8:=@PySem.Heap.lt_size
def B9:=@Ne.symm
def BC:=@List.getElem?_eq_getElem
def BJ:=@List.not_mem_nil
def BN:=@PySem.Heap.get?_push_of_some
def BU:=@List.getElem?_map
def Bi:=@Nat.le_trans
def Bj:=@Option.some.inj
def Bl:=@PySem.Heap.get?_push_size
def Bm:=@Nat.ne_of_lt
def Bp:=@List.map_cons
def Bu:=@List.size_toArray
def C0:=@List.append_assoc
def CL:=@List.getElem?_set_ne
def CM:=@List.length_append
def CN:=@List.length_cons
def CO:=@Nat.zero_le
def Cm:=@List.getElem?_set_self
def Cn:=@List.length_take
def Cu:=@List.nodup_append
def D7:=@Bool.false_ne_true
def D8:=@PySem.Heap.get?_update_other
def DQ:=@Nat.lt_of_lt_of_le
def Df:=@Bool.and_eq_true
def Dg:=@List.mem_cons_self
def Dh:=@List.mem_of_getElem?
def Dv:=@Nat.le_succ
def ED:=@PySem.Heap.get?_update_self
def EE:=@Int.eq_ofNat_of_zero_le
def EF:=@List.map_append
def EG:=@List.mem_cons_of_mem
def El:=@List.append_nil
def Em:=@List.length_drop
def FY:=@List.mem_append_right
def G2:=@PySem.Heap.size_push
def GX:=@List.length_set
def HH:=@List.lookup_cons
def HI:=@PySem.W.mg_none_of
def Hq:=@List.getElem?_append_left
def Hr:=@List.mem_append_left
def Hs:=@List.mem_cons
def Ht:=@Nat.lt_of_le_of_lt
def Hu:=@Nat.ne_of_gt
def Hv:=@PySem.Obj.data_mapFields
def Iu:=@List.mem_append
def Iv:=@PySem.F.plainAttrs_list
def Iw:=@PySem.W.kia_one
def Jb:=@Decidable.byContradiction
def Jc:=@List.zip_cons_cons
def Jd:=@Nat.min_eq_left
def Je:=@PySem.PassesOwn.never
def Ki:=@Int.toNat_natCast
def Kj:=@List.all_eq_true
def Kk:=@List.getElem?_append_right
def Kl:=@List.getElem?_eq_none
def Km:=@List.take_append_drop
def Kn:=@List.take_length
def M6:=@Int.emod_lt_of_pos
def M7:=@Int.emod_nonneg
def M8:=@List.eraseIdx_cons_succ
def M9:=@Nat.lt_irrefl
def MB:=@PySem.mem_of_lookup
def Nh:=@Array.length_toList
def Ni:=@Bool.eq_iff_iff
def Nj:=@PySem.Heap.get?_none_of_le
def Nk:=@List.any_cons
def Nl:=@List.getD_eq_getElem?_getD
def Nn:=@List.length_filter_le
def Np:=@List.map_drop
def Nq:=@List.map_take
def Nr:=@Nat.lt_succ_of_lt
def Nt:=@PySem.Obj.isFreed_of_fields
def Q9:=@PySem.Heap.size_after_update
def QB:=@List.find?_cons
def QC:=@List.getElem_mem
def QD:=@List.length_zip
def QF:=@List.map_map
def QH:=@List.nodup_nil
def QJ:=@List.take_of_length_le
def QK:=@List.take_succ_eq_append_getElem
def QL:=@Nat.le_total
def QM:=@Nat.min_eq_right
def QN:=@PyProof.Rows.callWith_type1
def Tp:=@Bool.and_false
def Tq:=@List.all_cons
def Tr:=@List.eraseIdx_sublist
def Ts:=@List.filterMap_cons
def Tt:=@List.getElem?_range
def Tu:=@List.map_nil
def Tv:=@List.set_cons_succ
def Tw:=@List.set_set
def Tx:=@Nat.le_of_lt
def Tz:=@Nat.succ.inj
def U0:=@PySem.F.slot_list_index
def U1:=@PySem.W.callWith_K
def aY:=@Array.getElem?_toList
def aZ:=@Bool.true_and
def aa:=@PySem.Calls.evalArgs_plain
def ae:=@PySem.Calls.spliced_nil
def af:=@PySem.F.slot_tuple_iterator_next
def ag:=@PySem.Heap.SameBut.update
def ah:=@PySem.ItemsOf.nil
def ai:=@List.cons_append
def aj:=@List.cons_lt_cons_iff
def ak:=@List.drop_zero
def ao:=@List.ext_getElem?
def aq:=@List.filter_append
def ar:=@List.filter_cons
def av:=@List.getElem_idxOf
def aw:=@List.idxOf_eq_length
def ax:=@List.length_nil
def ay:=@List.length_reverse
def az:=@List.map_set
def b4:=@List.mem_of_mem_take
def b5:=@List.mem_or_eq_of_mem_set
def b6:=@List.nil_append
def b7:=@List.of_mem_zip
def b8:=@List.reverse_cons
def b9:=@List.set_cons_zero
def bA:=@Nat.le_succ_of_le
def bB:=@Nat.lt_succ_self
def bC:=@Nat.lt_trichotomy
def bD:=@Nat.sub_zero
def bE:=@Option.isSome_map
def bG:=@Option.map_some
def bI:=@PyProof.Rows.slot_tuple_getitem
def bJ:=@PySem.F.slot_list_insert
def bK:=@PySem.F.type_list_index
def bL:=@PySem.W.looks_findIn
def mG:=@Bool.and_true
def mH:=@PySem.Calls.callWith_builtin
def mI:=@PySem.Calls.spliced_cons
def mJ:=@PySem.Code.quiet_builtin
def mK:=@PySem.F.args_list_init_2
def mL:=@PySem.F.called_list
def mM:=@PySem.F.entry_list_init
def mO:=@PySem.F.plain_extend_loop
def mP:=@PySem.F.typeCall_list_1
def mQ:=@Int.toNat_of_nonneg
def mR:=@List.drop_eq_getElem_cons
def mS:=@List.filter_map
def mT:=@List.forIn_nil
def mU:=@List.getElem?_replicate
def mV:=@List.idxOf_cons
def mW:=@List.length_eraseIdx_le
def mX:=@List.length_eraseIdx_of_lt
def mY:=@List.length_singleton
def mZ:=@List.map_id'
def ma:=@List.mem_filter
def md:=@List.mem_of_mem_drop
def me:=@Nat.le_of_eq
def mf:=@Nat.le_of_lt_succ
def mh:=@Nat.log2_lt
def mi:=@Nat.lt_trans
def ml:=@Nat.min_self
def mm:=@PySem.Obj.cls_mapFields
def mn:=@PySem.Paired.length
def mq:=@PySem.F.args_tuple_add_2
def mr:=@PySem.F.entry_tuple_add
def mx:=@PySem.F.excBase_ValueError
def my:=@PySem.F.slot_tuple_add
def mz:=@PySem.F.type_list_insert
def nA:=@PySem.W.any_some
def nB:=@PySem.W.looks_clsIn
def nC:=@PySem.W.plainGet_of
def ZFw:=@Array.find?_toList
def ZFx:=@PySem.Calls.Name_function_global
def ZFy:=@PySem.F.args_tuple_iterator_next_1
def ZFz:=@PySem.F.entry_tuple_iterator_next
def ZG0:=@Int.lt_of_le_of_lt
def ZG1:=@Int.natCast_nonneg
def ZG2:=@List.Pairwise.map
def ZG3:=@List.Sublist.refl
def ZG4:=@List.any_eq_false
def ZG5:=@List.contains_cons
def ZG6:=@List.drop_length
def ZG7:=@List.drop_of_length_le
def ZG8:=@List.eq_nil_of_length_eq_zero
def ZG9:=@List.exists_cons_of_ne_nil
def ZGA:=@List.filter_congr
def ZGB:=@List.filter_eq_self
def ZGC:=@List.getElem_inj
def ZGD:=@List.length_erase_of_mem
def ZGE:=@List.length_pos_of_mem
def ZGF:=@List.length_replicate
def ZGG:=@List.lookup_cons_self
def ZGH:=@List.map_reverse
def ZGI:=@List.mem_erase_of_ne
def ZGJ:=@Nat.le_of_not_lt
def ZGK:=@Nat.min_le_right
def ZGL:=@Nat.not_lt_of_le
def ZGM:=@Nat.succ_le_succ
def ZGN:=@Option.getD_none
def ZGO:=@Option.isSome_some
def ZGP:=@PySem.F.plain_extend_loop
def ZGQ:=@PySem.F.slot_dict_pop
def ZGR:=@PySem.F.slot_list_append
def ZGS:=@PySem.F.slot_list_pop
def ZGT:=@PySem.F.slot_tuple_index
def ZGU:=@PySem.F.type_list_append
def ZGV:=@PySem.F.type_list_pop
def ZGW:=@PySem.W.Looks.here
def ZGX:=@PySem.W.Looks.ld
def ZGY:=@PySem.W.cellsFrom_some
def ZGZ:=@PySem.W.findObj_own
def ZGa:=@PySem.W.kitx_dict
def ZGb:=@PySem.W.kitx_list
def ZGc:=@PySem.W.looks_mroIn
def ZGd:=@PySem.W.methodCall_KW
def ZGe:=@PySem.W.set_plain
def ZGf:=@PySem.Within.cons
open PySem PySem.Spec PyProof.Rows
abbrev ZHP:=PySem.W.Frag
abbrev ZHQ:=(List (Addr×Obj))
abbrev ZHR:=(Str->Option Value)
namespace PySem.W.Fast
noncomputable def tw5393047060527198925:=0
noncomputable def tw6062816698051781555:=0
noncomputable def tw5019454675238657107:=0
noncomputable def tw3449992313449624853:=0
noncomputable def tw1308673226098455066:=0
noncomputable def tw18206617277653620686:=0
noncomputable def tw1917583228679645753:=0
noncomputable def tw12545891566010527223:=0
noncomputable def tw1532283424418296648:=0
noncomputable def tw15850754340529422780:=0
noncomputable def tw13050230918878440468:=0
noncomputable def tw7448724075656344274:=0
noncomputable def tw16842721181290449560:=0
noncomputable def tw11697632811317882253:=0
noncomputable def tw1932313180401193875:=0
noncomputable def tw2806305180091494173:=0
noncomputable def tw18160132749636090889:=0
noncomputable def tw9921712274011717967:=0
noncomputable def tw13238500702389018632:=0
noncomputable def tw17959754645088247463:=0
noncomputable def tw16606755554807092941:=0
noncomputable def tw7832938604932832432:=0
noncomputable def tw4167421973962870318:=0
noncomputable def tw3837011778866967737:=0
noncomputable def tw7034039631626034706:=0
noncomputable def tw16500418350276068215:=0
noncomputable def tw180227956502296493:=0
noncomputable def tw5930874910315998591:=0
noncomputable def tw12994951228862817843:=0
noncomputable def tw1590254567706515694:=0
noncomputable def tw5950154761888446289:=0
noncomputable def tw17718996882295233855:=0
noncomputable def tw14131551143710251749:=0
noncomputable def tw5270535807968791590:=0
noncomputable def tw14475095852412784614:=0
noncomputable def tw17327005131151440955:=0
noncomputable def tw8218794319810360714:=0
noncomputable def tw1233798249147022572:=0
noncomputable def tw14360283656131698145:=0
noncomputable def tw390397323620320571:=0
noncomputable def tw8528058277625689221:=0
noncomputable def tw16484834647049150625:=0
noncomputable def tw17050878701669340497:=0
noncomputable def tw10730756745714002885:=0
noncomputable def tw9405815485440082202:=0
noncomputable def tw7630681179621355122:=0
noncomputable def tw18215285720474235540:=0
noncomputable def tw6439766154640978457:=0
noncomputable def tw15778425863764707363:=0
noncomputable def tw18276280463837053421:=0
noncomputable def tw17259024473388016635:=0
noncomputable def tw9578027525474371528:=0
noncomputable def tw10732301123626592059:=0
noncomputable def tw2686991049686688165:=0
noncomputable def tw17495726794994320081:=0
noncomputable def tw11704609275691347225:=0
noncomputable def tw4484190895360445261:=0
noncomputable def tw14856092767731384274:=0
noncomputable def tw8224281091019787269:=0
noncomputable def tw1875845215073921873:=0
noncomputable def tw15979326300111008540:=0
noncomputable def tw286157716688031475:=0
noncomputable def tw6521731796659161141:=0
noncomputable def tw6836044336734904937:=0
noncomputable def tw7767076100581669388:=0
noncomputable def tw12115372691707157546:=0
noncomputable def tw11014049186534163255:=0
noncomputable def tw4169111003374584690:=0
noncomputable def tw17074198194940659757:=0
noncomputable def tw16056042623339241597:=0
noncomputable def tw275271507478491731:=0
noncomputable def tw18398427191191774099:=0
noncomputable def tw16031540133503994141:=0
noncomputable def tw9315939942395166457:=0
noncomputable def tw6442136170625430174:=0
noncomputable def tw12229052429108971082:=0
noncomputable def tw11691587318171899632:=0
noncomputable def tw11338437811587044918:=0
noncomputable def tw2678250287325470432:=0
noncomputable def tw11433005693229726349:=0
noncomputable def tw15034731911231880843:=0
noncomputable def tw3399521927023977703:=0
noncomputable def tw6324596447541787841:=0
noncomputable def tw1894467610088911733:=0
noncomputable def tw11216657046787271288:=0
noncomputable def tw9692841445494283878:=0
noncomputable def tw1552372850910300940:=0
noncomputable def tw265360437464263781:=0
noncomputable def tw2472443290311735565:=0
noncomputable def tw702069197743268067:=0
noncomputable def tw12449151382685626086:=0
noncomputable def tw4505313803623050751:=0
noncomputable def tw6167648956503049301:=0
noncomputable def tw9040337391303732697:=0
noncomputable def tw1916234348349521334:=0
noncomputable def tw10096719469291554582:=0
noncomputable def tw3010342472684837408:=0
noncomputable def tw11255068357517604766:=0
noncomputable def tw8517262866739002142:=0
noncomputable def tw12546371326856477334:=0
noncomputable def tw2173916887739098919:=0
noncomputable def tw5760063051120607512:=0
noncomputable def tw12445459065465090860:=0
noncomputable def tw12049354689704483101:=0
noncomputable def tw5516870441024453736:=0
noncomputable def tw11662316959121224109:=0
noncomputable def tw18202712873439416879:=0
noncomputable def tw2329453020239453092:=0
noncomputable def tw5379634697806782326:=0
noncomputable def tw11319920395155306795:=0
noncomputable def tw3003049884507831919:=0
noncomputable def tw9719863851067383775:=0
noncomputable def tw14119415547707052159:=0
noncomputable def tw9014390238778019711:=0
noncomputable def tw738877100399564883:=0
noncomputable def tw13950278198127895487:=0
noncomputable def tw14169774449745599438:=0
noncomputable def tw17190358766657419877:=0
noncomputable def tw2344988976157492794:=0
noncomputable def tw12307707646206002067:=0
noncomputable def tw14217700533155426723:=0
noncomputable def tw7102670985340825881:=0
noncomputable def tw16718975472405359294:=0
noncomputable def tw8458039571400041862:=0
noncomputable def tw463573027109400891:=0
noncomputable def tw12985056432790209516:=0
noncomputable def tw16173937121892835193:=0
noncomputable def tw9705271839052393351:=0
noncomputable def tw16985974584310988426:=0
noncomputable def tw10684849202892060751:=0
noncomputable def tw1057012685340666614:=0
noncomputable def tw7111137166523200960:=0
noncomputable def tw17126480742008162620:=0
noncomputable def tw7237929168883354128:=0
noncomputable def tw17559060160723782948:=0
noncomputable def tw14809521218720191120:=0
noncomputable def tw14454904298538376090:=0
noncomputable def tw11303190174991075767:=0
noncomputable def tw598898277970772435:=0
noncomputable def tw17187938568283175374:=0
noncomputable def tw6918450925008608568:=0
noncomputable def tw9619264197508276299:=0
noncomputable def tw9091883287619355600:=0
noncomputable def tw10138645840035833044:=0
noncomputable def tw4298014902779092705:=0
noncomputable def tw6026516860871208003:=0
noncomputable def tw16813731074968713666:=0
noncomputable def tw5658095634734220830:=0
noncomputable def tw3948058091962157770:=0
noncomputable def tw15016448666718234096:=0
noncomputable def tw14640350433844763598:=0
noncomputable def tw18133628450507063607:=0
noncomputable def tw2469603257740072176:=0
noncomputable def tw13792105413544619822:=0
noncomputable def tw16095137909722108376:=0
noncomputable def tw2565935845335897882:=0
noncomputable def tw17028658675501808280:=0
noncomputable def tw973421791169425909:=0
noncomputable def tw8939852392852917908:=0
noncomputable def tw9894319191087520002:=0
noncomputable def tw3409731787109416092:=0
noncomputable def tw3723409017754961952:=0
noncomputable def tw5151596663936957824:=0
noncomputable def tw14216245093411853060:=0
noncomputable def tw10790040739722301012:=0
noncomputable def tw4387404238289882146:=0
noncomputable def tw4911281542332039976:=0
noncomputable def tw12955286813616047505:=0
noncomputable def tw10068970828202235859:=0
noncomputable def tw1945359964772103025:=0
noncomputable def tw1274236860758467627:=0
end PySem.W.Fast
set_option Elab.async false
set_option maxRecDepth 100000
namespace L2
variable {α κ:Type}{C a b dx it:Addr}{c cd u:Value}{w:World}{base h':Heap}{m name qual x:Str}{e tg:Expr}{mC pins:ZHQ}{s s':Shared}{g':Array GenState}{i j n t' tk:Nat}{d':Drawn}{ch fp:List Addr}{N ks ns ps:List Str}{M:Model}{A:Around}{E Q:Value->Shared->Prop}{ZGv pos:Pos}{op:CmpOp}{es rest:List Expr}{f:Value->Value->Sem Value}{pl:Sem Bool}{ds us:List Value}{mA mg:ZHR}{prog:Program}{kw:List (Str×Value)}{fd:FuncData}{outer:List Env}{sc scope:Scope}
abbrev Key:=Sum Int Str
noncomputable def Jf:Key->Value->Bool
 | .inl k,v=>Value.isInt k v
 | .inr x,v=>Value.isStrOf x v
noncomputable def rB (w:World):Key->Int
 | .inl k=>hashInt k
 | .inr x=>hashStr w x
theorem Hd:∀{k:Key}{v:Value},Jf k v=true->(∃i t,k=Sum.inl i/\v=Value.int i t)∨(∃x t,k=Sum.inr x/\v=Value.str x t)
 | .inl i,v,h=>by
  obtain⟨t,e⟩:=Value.isInt_shape (k:=i) (v:=v) h;exact .inl ⟨i,t,rfl,e⟩
 | .inr x,v,h=>by
  obtain⟨t,e⟩:=Value.isStrOf_shape (x:=x) (v:=v) h;exact .inr ⟨x,t,rfl,e⟩
theorem tP (i:Int)(t:Tok):Jf (.inl i) (.int i t)=true:=by simp[Jf,Value.isInt]
theorem zf (x:Str)(t:Tok):Jf (.inr x) (.str x t)=true:=by simp[Jf,Value.isStrOf]
theorem xq (a b:Int):decide ((Sum.inl a:Key)=Sum.inl b)=(a == b):=by
 by_cases e:a=b
 ·subst e;simp
 ·have h:¬ (Sum.inl a:Key)=Sum.inl b:=fun q=>e (Sum.inl.inj q);rw[q8 h];exact(beq_eq_false_iff_ne.mpr e).symm
theorem vy (a b:Str):decide ((Sum.inr a:Key)=Sum.inr b)=decide (a=b):=by
 by_cases e:a=b
 ·subst e;simp
 ·have h:¬ (Sum.inr a:Key)=Sum.inr b:=fun q=>e (Sum.inr.inj q);rw[q8 h,q8 e]
theorem nV (a:Int)(b:Str):decide ((Sum.inl a:Key)=Sum.inr b)=false:=q8 (fun q=>nomatch q)
theorem og (a:Str)(b:Int):decide ((Sum.inr a:Key)=Sum.inl b)=false:=q8 (fun q=>nomatch q)
noncomputable def CV (prog:Program)(w:World):PySem.KeyKind prog w Key where
 is:=Jf
 hash:=rB w
 inj:=fun v a b g d=>by
  rcases Hd g with⟨i,t,rfl,rfl⟩|⟨x,t,rfl,rfl⟩
  ·rcases Hd d with⟨j,u,rfl,e⟩|⟨y,u,rfl,e⟩
   ·injection e with e1 _;rw[e1]
   ·exact nomatch e
  ·rcases Hd d with⟨j,u,rfl,e⟩|⟨y,u,rfl,e⟩
   ·exact nomatch e
   ·injection e with e1 _;rw[e1]
 byValue:=fun k v h=>by
  rcases Hd h with⟨i,t,rfl,rfl⟩|⟨x,t,rfl,rfl⟩ <;> rfl
 pyHash:=fun c h=>by
  rcases Hd c with⟨i,t,rfl,rfl⟩|⟨x,t,rfl,rfl⟩
  ·exact wpAny_pyHash_int h
  ·exact wpAny_pyHash_str h
 eqBool:=fun f c h=>by
  rcases Hd f with⟨i,t,rfl,rfl⟩|⟨x,t,rfl,rfl⟩
  ·rcases Hd c with⟨j,u,rfl,rfl⟩|⟨y,u,rfl,rfl⟩
   ·rw[xq] at h;exact wpAny_eqBool_int h
   ·rw[nV] at h;exact SeqAt.EqAt.int_str i t y u _ _ _ _ h
  ·rcases Hd c with⟨j,u,rfl,rfl⟩|⟨y,u,rfl,rfl⟩
   ·rw[og] at h;exact SeqAt.EqAt.str_int x t j u _ _ _ _ h
   ·rw[vy] at h;exact wpAny_eqBool_str h
 «strs»:=fun k x t v h=>by
  rcases Hd h with⟨i,u,rfl,e⟩|⟨y,u,rfl,e⟩
  ·exact nomatch e
  ·injection e with e1 _
   subst e1;cases v <;> rfl
theorem ZBb (prog:Program)(w:World)(i:Int)(t:Tok):(CV prog w).is (.inl i) (.int i t)=true:=tP i t
theorem ZF8 (prog:Program)(w:World)(x:Str)(t:Tok):(CV prog w).is (.inr x) (.str x t)=true:=zf x t
inductive V where
 | A8 | bl (b:Bool) | int (i:Int) | str (x:Str) | Gz (b:Array UInt8) | K8 (b:UInt64) | ref (a:Addr) | ty (n:String)
 deriving DecidableEq
variable {v y:V}{Dj vs:List V}
def RelV:V->Value->Prop
 | .A8,u=>u=Value.none
 | .bl b,u=>u=Value.bool b
 | .int i,u=>∃t,u=Value.int i t
 | .str x,u=>∃t,u=Value.str x t
 | .Gz b,u=>∃t,u=Value.bytes b t
 | .K8 b,u=>∃t,u=Value.float b t
 | .ref a,u=>u=Value.ref a
 | .ty n,u=>u=Value.type n
abbrev Vals:List V->List Value->Prop:=Paired RelV
theorem Vals.length {xs:List V}{us:List Value}(r:Vals xs us):xs.length=us.length:=mn r
theorem Vals.get:∀{xs:List V}{us:List Value}{i:Nat}{x:V},Vals xs us->xs[i]?=some x->∃u,us[i]?=some u/\RelV x u
 | _,_,_,_,.nil,e=>by simp at e
 | _,_,0,_,.cons r _,e=>by simp at e;subst e;exact⟨_,rfl,r⟩
 | _,_,i+1,x,.cons _ t,e=>by
  obtain⟨u,h1,h2⟩:=Vals.get (i:=i) (x:=x) t (by simpa using e)
  exact⟨u,by simpa using h1,h2⟩
theorem Vals.set {x:V}{u:Value}(r:RelV x u):∀{xs:List V}{us:List Value}(i:Nat),Vals xs us->Vals (xs.set i x) (us.set i u)
 | _,_,_,.nil=>.nil
 | _,_,0,.cons _ t=>.cons r t
 | _,_,i+1,.cons q t=>.cons q (Vals.set r i t)
theorem Vals.append:∀{xs ys:List V}{us ws:List Value},Vals xs us->Vals ys ws->Vals (xs++ys) (us++ws)
 | _,_,_,_,.nil,s=>s
 | _,_,_,_,.cons r t,s=>.cons r (Vals.append t s)
theorem Vals.take:∀{xs:List V}{us:List Value}(n:Nat),Vals xs us->Vals (xs.take n) (us.take n)
 | _,_,0,_=>.nil
 | _,_,_+1,.nil=>.nil
 | _,_,n+1,.cons r t=>.cons r (Vals.take n t)
theorem Vals.drop:∀{xs:List V}{us:List Value}(n:Nat),Vals xs us->Vals (xs.drop n) (us.drop n)
 | _,_,0,r=>r
 | _,_,_+1,.nil=>.nil
 | _,_,n+1,.cons _ t=>Vals.drop n t
def E9:Option V->Option Value->Prop
 | some v,some u=>RelV v u
 | none,none=>True
 | _,_=>False
def KV:List (κ×V)->List (κ×Value)->Prop:=Paired fun(p:κ×V) (q:κ×Value)=>p.1=q.1/\RelV p.2 q.2
noncomputable def kV:Key->V
 | .inl i=>.int i
 | .inr x=>.str x
inductive HO where
 /-- a list -/
 | lst (xs:List V)
 /-- a tuple (never changes) -/
 | tup (xs:List V)
 /-- a dict ZEv keys are ints and texts;one ZEv keys are tuples of ints and texts (HU empty one is both) -/
 | dK (A6:List (Key×V)) | dT (A6:List (List Key×V))
 /-- a set of ints: A3 members,A3 size -/
 | set (S:Int->Bool) (n:Nat)
 /-- an instance of HU class at C,A3 dict at dx,A3 attributes -/
 | ins (C dx:Addr) (fs:List (Str×V))
 /-- HU dict of HU instance at x -/
 | own (x:Addr)
 /-- HU dict of an exception -/
 | xd (fs:List (Str×V))
 /-- a bound method,f of x -/
 | met (f x:Addr)
 /-- a range object lo,lo+1,.. below hi -/
 | Qf (lo hi:Int)
 /-- a ZDA ZHC is known to HU object (HU jA;a dict while a loop walks it): read,never written while it is so -/
 | FF (o:Obj) (u:HO)
 /-- a code ZH5 table -/
 | Kf (ps:Array Value)
 /-- any other ZDA,by tV is true of A3 one object (a def of ZH1 own: pO a S n:=HO.ext fun h=>..) -/
 | ext (φ:Heap->Prop)
variable {o o':HO}
abbrev Hp:=Addr->Option HO
variable {H H':Hp}
noncomputable def upd (H:Hp)(a:Addr)(o:HO):Hp:=fun b=>if b=a then some o else H b
theorem AO:upd H a o a=some o:=by unfold upd;rw[pQ rfl]
theorem AX (h:b≠a):upd H a o b=H b:=by unfold upd;rw[o5 h]
theorem sU {u:HO}:upd (upd H a o) a u=upd H a u:=by
 funext b;unfold upd;split <;> rfl
theorem ZBf {u:HO}(h:H a=some o)(h':H b=some u)(d:o≠u):a≠b:=by
 intro e;subst e;rw[h] at h';exact d (Bj h')
theorem DN (h:H a=some o)(h':H b=none):a≠b:=by
 intro e;subst e;rw[h] at h';cases h'
section
variable (P:Program)(w:World)
def C9 (H:Hp)(h:Heap)(a:Addr):HO->Prop
 | .lst xs=>xs.length<=sizeLine/\∃(A3:List Value) (n:Nat),Vals xs A3/\h.get? a=some { cls:=.type "list", data:=.seq A3.toArray n }
 | .tup xs=>xs.length<=sizeLine/\∃A3:List Value,Vals xs A3/\(IsTup h a A3.toArray/\∀ob,h.get? a=some ob->ob.dict=none)
 | .dK A6=>A6.length<=sizeLine/\(a == sysModules)=false/\∃vs,KV A6 vs/\h.DictOf (CV P w) a vs
 | .dT A6=>A6.length<=sizeLine/\(a == sysModules)=false/\∃xs:List (List Key×Addr×Value),
   Paired (fun(p:List Key×V) (q:List Key×Addr×Value)=>p.1=q.1/\H q.2.1=some (.tup (p.1.map kV))/\RelV p.2 q.2.2) A6 xs/\
   ∃o es b,h.get? a=some o/\o.ExactDict/\o.data=.dict es b/\es.toList=xs.map (entryOfKey (tupleKind (CV P w)))/\(xs.map (·.1)).Nodup
 | .set S n=>h.SetOf (intKind P w) a S n
 | .ins C dx fs=>H dx=some (.own a)/\fs.length<=1000/\dx≠a/\h.get? a=some (PySem.W.instObj C dx)/\
   ∃mA,h.Ns1 dx mA/\(∀f,E9 (fs.lookup f) (mA f))/\PySem.Within mA (fs.map (·.1))
 | .own _=>∃o,h.get? a=some o
 | .xd fs=>∃mA,h.Ns1 a mA/\∀f,E9 (fs.lookup f) (mA f)
 | .Qf lo hi=>∃t u v,h.get? a=some { cls:=.type "range", data:=.fields #[.int lo t,.int hi u,.int 1 v] }
 | .FF o u=>h.get? a=some o/\C9 H h a u
 | .Kf ps=>h.get? a=some { cls:=.none,data:=.fields ps }
 | .met f x=>h.get? a=some (PySem.W.methodObj (.ref f) (.ref x))
 | .ext φ=>φ h/\(∃o,h.get? a=some o)/\∀h1 h2:Heap,φ h1->(∀o,h1.get? a=some o->h2.get? a=some o)->φ h2
def Bo (H:Hp)(h:Heap):Prop:=∀a o,H a=some o->C9 P w H h a o
end
section
variable {P:Program}{h:Heap}
theorem C9.lt (x:C9 P w H h a o):a<h.objs.size:=by
 cases o with
 | lst xs=>obtain⟨_,_,_,_,e⟩:=x;exact B8 e
 | tup xs=>obtain⟨_,_,_,p⟩:=x;exact p.1.lt
 | dK A6=>obtain⟨_,_,_,_,o,_,_,e,_⟩:=x;exact B8 e
 | dT A6=>obtain⟨_,_,_,_,o,_,_,e,_⟩:=x;exact B8 e
 | set S n=>obtain⟨o,_,_,_,e,_⟩:=x;exact B8 e
 | ins C dx fs=>obtain⟨_,_,_,e,_⟩:=x;exact B8 e
 | own y=>obtain⟨_,e⟩:=x;exact B8 e
 | xd fs=>obtain⟨_,⟨_,_,_,e,_⟩,_⟩:=x;exact B8 e
 | Qf lo hi=>obtain⟨_,_,_,e⟩:=x;exact B8 e
 | FF ob u=>obtain⟨e,_⟩:=x;exact B8 e
 | Kf ps=>exact B8 (show h.get? a=some _ from x)
 | met f y=>exact B8 (show h.get? a=some _ from x)
 | ext φ=>obtain⟨_,⟨_,e⟩,_⟩:=x;exact B8 e
theorem Paired.XF {α β:Type}{F G:α->β->Prop}:∀{l₁:List α}{l₂:List β},Paired F l₁ l₂->(∀a b,F a b->G a b)->Paired G l₁ l₂
 | _,_,.nil,_=>.nil
 | _,_,.cons r t,f=>.cons (f _ _ r) (Paired.XF t f)
theorem C9.Gf (x:C9 P w H h a o)(k:∀b u,(b=a∨H b=some (.own a))->h.get? b=some u->h'.get? b=some u)
  (ho:∀b,H b=some (.own a)->H' b=some (.own a)) (l:∀b xs,H b=some (.tup xs)->H' b=some (.tup xs)):C9 P w H' h' a o:=by
 induction o with
 | lst xs=>obtain⟨z,A3,n,r,e⟩:=x;exact⟨z,A3,n,r,k _ _ (.inl rfl) e⟩
 | tup xs=>obtain⟨z,A3,r,⟨ob,e,c⟩,s⟩:=x;exact⟨z,A3,r,⟨ob,k _ _ (.inl rfl) e,c⟩,fun Rq i=>by rw[k _ _ (.inl rfl) e] at i;cases i;exact s _ e⟩
 | dK A6=>obtain⟨z,y,vs,r,ob,es,g,e,c⟩:=x;exact⟨z,y,vs,r,ob,es,g,k _ _ (.inl rfl) e,c⟩
 | dT A6=>
  obtain⟨z,y,xs,r,ob,es,g,e,c⟩:=x;exact⟨z,y,xs,Paired.XF r fun p q z=>⟨z.1,l _ _ z.2.1,z.2.2⟩,ob,es,g,k _ _ (.inl rfl) e,c⟩
 | set S n=>obtain⟨ob,es,g,t,e,c⟩:=x;exact⟨ob,es,g,t,k _ _ (.inl rfl) e,c⟩
 | ins C dx fs=>
  obtain⟨d,z,ne,e,mA,⟨od,es,g,m,c⟩,r⟩:=x;exact⟨ho _ d,z,ne,k _ _ (.inl rfl) e,mA,⟨od,es,g,k _ _ (.inr d) m,c⟩,r⟩
 | own y=>obtain⟨ob,e⟩:=x;exact⟨ob,k _ _ (.inl rfl) e⟩
 | xd fs=>obtain⟨mA,⟨od,es,g,e,c⟩,r⟩:=x;exact⟨mA,⟨od,es,g,k _ _ (.inl rfl) e,c⟩,r⟩
 | Qf lo hi=>obtain⟨t,u,v,e⟩:=x;exact⟨t,u,v,k _ _ (.inl rfl) e⟩
 | FF ob u j=>obtain⟨e,q⟩:=x;exact⟨k _ _ (.inl rfl) e,j q⟩
 | Kf ps=>
  have e:h.get? a=some { cls:=.none,data:=.fields ps }:=x;show h'.get? a=some { cls:=.none,data:=.fields ps };exact k a _ (.inl rfl) e
 | met f y=>
  have e:h.get? a=some (PySem.W.methodObj (.ref f) (.ref y)):=x;show h'.get? a=some (PySem.W.methodObj (.ref f) (.ref y));exact k a _ (.inl rfl) e
 | ext φ=>obtain⟨p,⟨o,e⟩,st⟩:=x;exact⟨st _ _ p fun o q=>k _ _ (.inl rfl) q,⟨o,k _ _ (.inl rfl) e⟩,st⟩
theorem Bo.lt (x:Bo P w H h)(e:H a=some o):a<h.objs.size:=(x a o e).lt
theorem Bo.fresh (x:Bo P w H h)(e:h.objs.size<=a):H a=none:=by
 cases q:H a with
 | none=>rfl
 | some u=>exact absurd (DQ (x.lt q) e) (M9 _)
theorem Bo.kept (x:Bo P w H h)(k:∀b u,h.get? b=some u->h'.get? b=some u):Bo P w H h':=fun a o e=>
 (x a o e).Gf (fun b u _ q=>k b u q) (fun _ q=>q) fun _ _ q=>q
theorem Bo.laid (x:Bo P w H h)(k:∀b u,h.get? b=some u->h'.get? b=some u)(g:h.objs.size<=a)(d:C9 P w (upd H a o) h' a o):Bo P w (upd H a o) h':=fun b u e=>by
 have hn:=x.fresh g
 by_cases f:b=a
 ·subst f;rw[AO] at e;cases e;exact d
 ·rw[AX f] at e;exact(x b u e).Gf (fun c v _ q=>k c v q) (fun c q=>by rw[AX (DN q hn)];exact q) fun c xs q=>by rw[AX (DN q hn)];exact q
end
def Rd (H:Hp)(a:Addr)(u:HO):Prop:=H a=some u∨∃o,H a=some (.FF o u)
theorem Rd.ok {P:Program}{h:Heap}{u:HO}(r:Rd H a u)(x:Bo P w H h):C9 P w H h a u:=by
 rcases r with r | ⟨o,r⟩
 ·exact x a u r
 ·obtain⟨_,q⟩:=x a _ r;exact q
def ML:Option HO->Prop
 | some (.lst _)=>True
 | some (.dK _)=>True
 | some (.dT _)=>True
 | some (.set _ _)=>True
 | some (.ins _ _ _)=>True
 | some (.ext _)=>True
 | _=>False
section
variable {P:Program}{h:Heap}{x e:Addr}
theorem Bo.write (ok:Bo P w H h)(a:ML (H x))(m:e=x∨H e=some (.own x))(k:∀b u,b≠e->h.get? b=some u->h'.get? b=some u)(IH:∃u,h'.get? e=some u)
  (i:C9 P w (upd H x o') h' x o'):Bo P w (upd H x o') h':=fun b u q=>by
 have n:∀c y,H c=some (.own y)->c≠x:=fun c y r z=>by subst z;rw[r] at a;exact a
 have j:∀c xs,H c=some (.tup xs)->c≠x:=fun c xs r z=>by subst z;rw[r] at a;exact a
 by_cases f:b=x
 ·subst f;rw[AO] at q;cases q;exact i
 ·rw[AX f] at q
  by_cases g:b=e
  ·have l:H b=some (.own x):=by
    rcases m with z | z
    ·exact absurd (g.trans z) f
    ·rw[g];exact z
   rw[q] at l;cases l;obtain⟨v,o⟩:=IH;exact⟨v,by rw[g];exact o⟩
  ·refine(ok b u q).Gf (fun c v d r=>k c v ?_ r) (fun c r=>by rw[AX (n c b r)];exact r) fun c xs r=>by rw[AX (j c xs r)];exact r
   rcases d with rfl | d
   ·exact g
   ·rintro rfl;rcases m with z | z
    ·exact n c b d z
    ·rw[d] at z;cases z;exact f rfl
end
structure Un (fs ex:List Addr) (H H':Hp) (h h':Heap):Prop where
 keep:∀b o,h.get? b=some o->H b=none->b∉fs->b∉ex->h'.get? b=some o
 slot:∀b o,h.get? b=some o->H b=none->b∈fs->b∉ex->∃sl,h'.get? b=some { o with slots:=sl }
 free:∀b o,h.get? b=some o->H b=none->b∉ex->H' b=none
 there:∀b o,h.get? b=some o->b∉ex->∃o',h'.get? b=some o'
 G9:∀b xs,H b=some (.tup xs)->H' b=some (.tup xs)
 Fy:∀b o u,H b=some (.FF o u)->H' b=some (.FF o u)
 GG:∀b ps,H b=some (.Kf ps)->∃more,H' b=some (.Kf (ps++more))
section
variable {fs Kd ex ex':List Addr}{H1 H2:Hp}{h h1 h2:Heap}{x e:Addr}
theorem Un.any (u:Un fs ex H H1 h h1){ob:Obj}(q:h.get? b=some ob)(n:H b=none)(hx:b∉ex):∃sl,h1.get? b=some { ob with slots:=sl }:=by
 by_cases a:b∈fs
 ·exact u.slot b ob q n a hx
 ·exact⟨ob.slots,u.keep b ob q n a hx⟩
theorem Un.kept (k:∀b u,h.get? b=some u->h'.get? b=some u):Un fs ex H H h h':=
 ⟨fun b ob q _ _ _=>k b ob q,fun b ob q _ _ _=>⟨ob.slots,k b ob q⟩,fun _ _ _ n _=>n,fun b ob q _=>⟨ob,k b ob q⟩,fun _ _ q=>q,fun _ _ _ q=>q,fun _ ps q=>⟨#[],by rw[q];simp⟩⟩
theorem Un.refl:Un fs ex H H h h:=Un.kept fun _ _ q=>q
theorem Un.laid (k:∀b u,h.get? b=some u->h'.get? b=some u)(c:h.objs.size<=a)(hn:H a=none):Un fs ex H (upd H a o) h h' where
 keep:=fun b u q _ _ _=>k b u q
 slot:=fun b u q _ _ _=>⟨u.slots,k b u q⟩
 free:=fun b u q n _=>by rw[AX (Bm (DQ (B8 q) c))];exact n
 there:=fun b u q _=>⟨u,k b u q⟩
 G9:=fun b xs q=>by rw[AX (DN q hn)];exact q
 Fy:=fun b u xs q=>by rw[AX (DN q hn)];exact q
 GG:=fun b ps q=>⟨#[],by rw[AX (DN q hn),q];simp⟩
theorem Un.write (a:ML (H x))(g:e=x∨H e=some (.own x))(k:∀b u,b≠e->h.get? b=some u->h'.get? b=some u)(IH:∃u,h'.get? e=some u):Un fs ex H (upd H x o) h h':=by
 have hx:∀b,H b=none->b≠x:=fun b n z=>by subst z;rw[n] at a;exact a
 have d:∀b,H b=none->b≠e:=fun b n z=>by
  subst z;rcases g with r | r
  ·exact hx b n r
  ·rw[n] at r;cases r
 have c:∀b u,H b=some u->¬ ML (some u)->b≠x:=fun b u q nm z=>by subst z;rw[q] at a;exact nm a
 refine⟨fun b u q n _ _=>k b u (d b n) q,fun b u q n _ _=>⟨u.slots,k b u (d b n) q⟩,fun b u q n _=>by rw[AX (hx b n)];exact n,fun b u q _=>?_,
  fun b xs q=>by rw[AX (c b _ q fun z=>z)];exact q,fun b u xs q=>by rw[AX (c b _ q fun z=>z)];exact q,fun b ps q=>⟨#[],by rw[AX (c b _ q fun z=>z),q];simp⟩⟩
 by_cases f:b=e
 ·subst f;exact IH
 ·exact⟨u,k b u f q⟩
end
noncomputable def TB (h:Heap)(H:Hp):List Addr:=(List.range h.objs.size).filter fun a=>(H a).isSome
noncomputable def JN (h:Heap)(H:Hp):Heap:=PySem.W.hideAll h (TB h H)
theorem ZDe (h:Heap)(H:Hp):(JN h H).objs.size=h.objs.size:=PySem.W.hideAll_size _ _
theorem ZBl {h:Heap}{o:Obj}(e:h.get? b=some o)(n:H b=none):(JN h H).get? b=some o:=
 PySem.W.hideAll_get _ e fun a=>by
  have q:(H b).isSome=true:=(List.mem_filter.mp a).2;rw[n] at q;simp at q
theorem ZDg {h:Heap}{o:Obj}(e:(JN h H).get? b=some o):h.get? b=some o/\H b=none:=by
 have a:h.get? b=some o:=PySem.W.of_hideAll (TB h H) e;refine⟨a,?_⟩;cases q:H b with
 | none=>rfl
 | some x=>
  have c:b∈TB h H:=List.mem_filter.mpr ⟨List.mem_range.mpr (B8 a),by simp[q]⟩;have z:(JN h H).get? b=none:=PySem.W.hideAll_none (TB h H) c;rw[z] at e;cases e
structure Mod (K:ZHP) (mg:ZHR) (base:Heap):Prop where
 IY:K.In base
 glob:base.Ns mainGlobals mg
 blt:∃mb,base.Ns builtinsNs mb/\∀x:Str,x ≠ "__name__" -> mb x=bootBuiltins x
 nolimit:base.NoLimit
structure Cx where
 prog:Program
 w:World
 K:ZHP
 mg:ZHR
 base:Heap
 A:Around
 N:List Str
 s₀:Shared
 H₀:Hp
 env:Env
 outer:List Env
 stack:List Env
 ex:List Addr
 fn:Str->Bool
 calm:Bool
 pn:ZHQ
 xe:Value->Shared->Prop
variable {X:Cx}
noncomputable def Ca (l:List Env):List Addr:=l.filterMap (·.frame)
noncomputable abbrev Cx.fs (X:Cx):List Addr:=Ca X.outer
def Rl (sc:Scope)(x:Str):Prop:=sc.names.lookup x=some .local∨sc.names.lookup x=some .cell∨sc.names.lookup x=some .free
def Loc (sc:Scope)(x:Str):Prop:=sc.names.lookup x=some .local∨sc.names.lookup x=some .cell
def Look (env:Env)(h:Heap)(m:ZHR)(x:Str)(u:Value):Prop:=
 (env.kindOf x=some .local/\m x=some u)∨((env.kindOf x=some .cell∨env.kindOf x=some .free)/\∃c,env.cells.lookup x=some c/\h.IsCell c (some u))
structure Cx.Ok (X:Cx):Prop where
 mod:Mod X.K X.mg X.base
 kind:X.env.scope.kind=.function
 glob:X.env.globals=mainGlobals
 blt:X.env.builtins=builtinsNs
 above:X.s₀.heap.objs.size<=X.env.locals
 inj:∀x y c,X.env.cells.lookup x=some c->X.env.cells.lookup y=some c->x=y
 has:∀x,(X.env.kindOf x=some .cell∨X.env.kindOf x=some .free)->∃c,X.env.cells.lookup x=some c
 KC:∀x c,X.fn x=true->X.env.cells.lookup x=some c->X.s₀.heap.objs.size<=c
 hd:X.calm=true->X.A.handled=none
 frames:X.A.frames=some X.stack
 Hw:X.stack=X.outer∨(X.stack=X.env::X.outer/\X.env.frame=some X.env.locals)
 Lr:∀b∈X.ex,b≠X.env.locals/\∀x c,X.env.cells.lookup x=some c->c≠b
 bs:∀b o,X.base.get? b=some o->X.s₀.heap.get? b=some o/\X.H₀ b=none
 Gy:X.base.objs.size<=X.s₀.heap.objs.size
 Ju:∀b o,X.base.get? b=some o->b∉X.ex
 Jm:∀b∈X.ex,b∉X.fs
 Er:X.s₀.heap.FunFrames X.base X.outer
 Hx:∀b∈X.fs,X.H₀ b=none
structure Inv (X:Cx) (pins:ZHQ) (σ:List (Option V)) (H:Hp) (s:Shared):Prop where
 ok:X.Ok
 os:s.os=X.s₀.os
 bare:AllBare s.gens
 base:Un X.fs X.ex X.H₀ H X.s₀.heap s.heap
 loc:∃m,s.heap.Ns X.env.locals m/\∀(i:Nat) (x:Str) (v:V),X.N[i]?=some x->σ[i]?=some (some v)->Rl X.env.scope x->∃u,RelV v u/\Look X.env s.heap m x u
 cell:∀x c,X.env.cells.lookup x=some c->∃v,s.heap.IsCell c v
 free:H X.env.locals=none
 Dz:∀x c,X.env.cells.lookup x=some c->H c=none
 pin:∀p∈X.pn++pins,s.heap.get? p.1=some p.2/\H p.1=none/\p.1≠X.env.locals/\p.1∉X.fs/\∀v,p.2.data≠.cell v
 AF:Bo X.prog X.w H s.heap
 len:σ.length=X.N.length
section
variable {σ:List (Option V)}
theorem Cx.Ok.wt (ok:X.Ok){o:Obj}(e:X.base.get? b=some o):b∉X.fs:=fun a=>by
 have:=(ok.Er.mem a).1;rw[e] at this;cases this
theorem Inv.bs (I:Inv X pins σ H s):∀b o,X.base.get? b=some o->s.heap.get? b=some o/\H b=none:=fun b o e=>
 ⟨I.base.keep b o (I.ok.bs b o e).1 (I.ok.bs b o e).2 (I.ok.wt e) (I.ok.Ju b o e),I.base.free b o (I.ok.bs b o e).1 (I.ok.bs b o e).2 (I.ok.Ju b o e)⟩
theorem Inv.bk (I:Inv X pins σ H s):∀b o,X.base.get? b=some o->s.heap.get? b=some o:=fun b o e=>(I.bs b o e).1
theorem Inv.mod (I:Inv X pins σ H s):Mod X.K X.mg X.base:=I.ok.mod
theorem Inv.Bn (I:Inv X pins σ H s):X.K.In s.heap:=I.ok.mod.IY.keeps I.bk
theorem Inv.lt (I:Inv X pins σ H s):X.env.locals<s.heap.objs.size:=let ⟨_,hn,_⟩:=I.loc;hn.lt
theorem Inv.sz (I:Inv X pins σ H s):X.s₀.heap.objs.size<=s.heap.objs.size:=Bi I.ok.above (Tx I.lt)
theorem Inv.wJ (I:Inv X pins σ H s)(h:s.heap.objs.size<=a):a∉X.fs:=fun b=>by
 obtain⟨_,o,ho,_⟩:=I.ok.Er.mem b;exact absurd (DQ (B8 ho) (Bi I.sz h)) (M9 _)
theorem Inv.GA (I:Inv X pins σ H s):∀x c,X.env.cells.lookup x=some c->c≠X.env.locals:=fun x c e z=>by
 obtain⟨v,o,ho,hd⟩:=I.cell x c e;obtain⟨m,⟨o',es,a,E4,DH,_⟩,_⟩:=I.loc;rw[z,E4] at ho;cases ho;rw[DH] at hd;cases hd
theorem Inv.Er (I:Inv X pins σ H s):s.heap.FunFrames X.base X.outer:=by
 have all:∀(l:List Env),(∀b∈Ca l,b∈X.fs)->X.s₀.heap.FunFrames X.base l->s.heap.FunFrames X.base l:=by
  intro l
  induction l with
  | nil=>intro _ _;trivial
  | cons env r g=>
   intro f i;obtain⟨j,⟨L,o,a,hn,ho,hd⟩,h⟩:=i;have d:L∈X.fs:=f L (by unfold Ca;rw[Ts,a];exact Dg);obtain⟨sl,e⟩:=I.base.slot L o ho (I.ok.Hx L d) d fun z=>I.ok.Jm L z d;exact⟨j,⟨L,_,a,hn,e,hd⟩,g (fun b c=>f b (by unfold Ca;rw[Ts,a];exact EG _ c)) h⟩
 exact all X.outer (fun _ c=>c) I.ok.Er
theorem Inv.stack (I:Inv X pins σ H s):s.heap.FunFrames X.base X.stack:=by
 rcases I.ok.Hw with e | ⟨e,hf⟩
 ·rw[e];exact I.Er
 ·rw[e];obtain⟨m,hn,_⟩:=I.loc;refine .cons (by rw[I.ok.kind];decide) hf hn ?_ I.Er;exact Nj (Bi I.ok.Gy I.ok.above)
theorem Inv.Nx (I:Inv X pins σ H s):∀b∈Ca X.stack,b∈X.env.locals::X.fs:=fun b a=>by
 rcases I.ok.Hw with e | ⟨e,hf⟩
 ·rw[e] at a;exact EG _ a
 ·rw[e] at a;unfold Ca at a;rw[Ts,hf] at a;exact a
theorem Inv.Qj (I:Inv X pins σ H s):∀b∈Ca X.stack,H b=none:=fun b a=>by
 rcases List.mem_cons.mp (I.Nx b a) with e | a
 ·rw[e];exact I.free
 ·obtain⟨_,o,ho,_⟩:=I.ok.Er.mem a;exact I.base.free b o ho (I.ok.Hx b a) fun z=>I.ok.Jm b z a
theorem Inv.step (I:Inv X pins σ H s)
  (IU:∀b∈ch,(b∈X.ex∨X.s₀.heap.objs.size<=b)/\b≠X.env.locals/\(∀x c,X.env.cells.lookup x=some c->c≠b)/\∀p∈X.pn++pins,p.1≠b)
  (keep:∀b o,b≠X.env.locals->b∉X.fs->b∉ch->s.heap.get? b=some o->H b=none->h'.get? b=some o)
  (slot:∀b o,b≠X.env.locals->b∈X.fs->b∉ch->s.heap.get? b=some o->H b=none->∃sl,h'.get? b=some { o with slots:=sl }) (free:∀b o,b∉ch->s.heap.get? b=some o->H b=none->H' b=none)
  (there:∀b o,b∉ch->s.heap.get? b=some o->∃o',h'.get? b=some o')
  (G9:∀b xs,H b=some (.tup xs)->H' b=some (.tup xs)) (Fy:∀b o u,H b=some (.FF o u)->H' b=some (.FF o u)) (GG:∀b ps,H b=some (.Kf ps)->∃more,H' b=some (.Kf (ps++more)))
  (ns:∀m,s.heap.Ns X.env.locals m->h'.Ns X.env.locals m) (AF:Bo X.prog X.w H' h') (hg:AllBare g') :
  Inv X pins σ H' { s with heap:=h',gens:=g',drawn:=d',toks:=t' }:=by
 have B:∀b o,X.s₀.heap.get? b=some o->b≠X.env.locals:=fun b o e=>Bm (DQ (B8 e) I.ok.above);have t:∀b o,X.s₀.heap.get? b=some o->b∉X.ex->b∉ch:=fun b o e hx g=>by
  rcases(IU b g).1 with z | z
  ·exact hx z
  ·exact absurd (DQ (B8 e) z) (M9 _)
 have a:∀x c,X.env.cells.lookup x=some c->∀v,s.heap.IsCell c v->h'.IsCell c v:=fun x c e v AK=>by
  obtain⟨o,ho,hd⟩:=AK;have j:c∉ch:=fun z=>(IU c z).2.2.1 x c e rfl
  by_cases D:c∈X.fs
  ·obtain⟨sl,q⟩:=slot c o (I.GA x c e) D j ho (I.Dz x c e);exact⟨_,q,hd⟩
  ·exact⟨o,keep c o (I.GA x c e) D j ho (I.Dz x c e),hd⟩
 refine⟨I.ok,I.os,hg,⟨fun b o e n g hx=>?_,fun b o e n g hx=>?_,fun b o e n hx=>?_,fun b o e hx=>?_,fun b xs e=>G9 b xs (I.base.G9 b xs e),fun b o xs e=>Fy b o xs (I.base.Fy b o xs e),fun b ps e=>?_⟩,?_,fun x c e=>?_,?_,fun x c e=>?_,fun p C=>?_,AF,I.len⟩
 ·exact keep b o (B b o e) g (t b o e hx) (I.base.keep b o e n g hx) (I.base.free b o e n hx)
 ·obtain⟨sl,f⟩:=I.base.slot b o e n g hx;obtain⟨y,h⟩:=slot b _ (B b o e) g (t b o e hx) f (I.base.free b o e n hx);exact⟨y,h⟩
 ·obtain⟨o',f⟩:=I.base.there b o e hx;exact free b o' (t b o e hx) f (I.base.free b o e n hx)
 ·obtain⟨o',f⟩:=I.base.there b o e hx;exact there b o' (t b o e hx) f
 ·obtain⟨F,f⟩:=I.base.GG b ps e;obtain⟨E,h⟩:=GG b _ f;exact⟨F++E,by rw[h,Array.append_assoc]⟩
 ·obtain⟨m,hn,G⟩:=I.loc;refine⟨m,ns m hn,fun i x v f h J=>?_⟩;obtain⟨u,r,l⟩:=G i x v f h J;refine⟨u,r,?_⟩;rcases l with l | ⟨k,c,e,z⟩
  ·exact .inl l
  ·exact .inr ⟨k,c,e,a x c e _ z⟩
 ·obtain⟨v,z⟩:=I.cell x c e;exact⟨v,a x c e v z⟩
 ·obtain⟨m,⟨o,_,_,ho,_⟩,_⟩:=I.loc;exact free _ o (fun z=>(IU _ z).2.1 rfl) ho I.free
 ·obtain⟨v,o,ho,hd⟩:=I.cell x c e;exact free c o (fun z=>(IU c z).2.2.1 x c e rfl) ho (I.Dz x c e)
 ·obtain⟨e,n,ne,A,d⟩:=I.pin p C;have j:p.1∉ch:=fun z=>(IU p.1 z).2.2.2 p C rfl;exact⟨keep p.1 p.2 ne A j e n,free p.1 p.2 j e n,ne,A,d⟩
theorem Inv.un (I:Inv X pins σ H s)(u:Un X.fs [] H H' s.heap h')(AF:Bo X.prog X.w H' h'):Inv X pins σ H' { s with heap:=h',toks:=t' }:=by
 obtain⟨m,⟨o,es,h,ho,r⟩,_⟩:=id I.loc;obtain⟨sl,f⟩:=u.any ho I.free (by simp);exact I.step (g':=s.gens) (d':=s.drawn) (ch:=[]) (fun _ z=>nomatch z) (fun b o _ a _ e n=>u.keep b o e n a (by simp)) (fun b o _ a _ e n=>u.slot b o e n a (by simp)) (fun b o _ e n=>u.free b o e n (by simp)) (fun b o _ e=>u.there b o e (by simp)) u.G9 u.Fy u.GG (fun g d=>by
  obtain⟨o',EB,XS,E4,c⟩:=d;rw[ho] at E4;cases E4;exact⟨_,EB,XS,f,c⟩) AF I.bare
theorem Inv.call (I:Inv X pins σ H s)(u:Un (Ca X.stack) ch H H' s.heap h')(AF:Bo X.prog X.w H' h')(h:AllBare g')
  (IU:∀b∈ch,(b∈X.ex∨X.s₀.heap.objs.size<=b)/\b≠X.env.locals/\(∀x c,X.env.cells.lookup x=some c->c≠b)/\∀p∈X.pn++pins,p.1≠b) :
  Inv X pins σ H' { s with heap:=h',gens:=g',drawn:=d',toks:=t' }:=by
 obtain⟨m,⟨o,es,k,ho,r⟩,_⟩:=id I.loc;obtain⟨sl,d⟩:=u.any ho I.free fun z=>(IU _ z).2.1 rfl;exact I.step (ch:=ch) IU (fun b o d i a e n=>u.keep b o e n (fun z=>(List.mem_cons.mp (I.Nx b z)).elim d i) a) (fun b o _ _ a e n=>u.any e n a) (fun b o a e n=>u.free b o e n a) (fun b o a e=>u.there b o e a) u.G9 u.Fy u.GG (fun j g=>by
  obtain⟨o',EB,XS,E4,f⟩:=g;rw[ho] at E4;cases E4;exact⟨_,EB,XS,d,f⟩) AF h
theorem Inv.turned (I:Inv X pins σ H s)(k:∀b o,b≠it->s.heap.get? b=some o->h'.get? b=some o)(hn:H it=none)(d:it≠X.env.locals)
  (h1:it∈X.ex∨X.s₀.heap.objs.size<=it) (h2:∀x c,X.env.cells.lookup x=some c->c≠it) (i:∀p∈X.pn++pins,p.1≠it):Inv X pins σ H { s with heap:=h',toks:=t' }:=by
 have f:∀b u,H b=some u->b≠it:=fun b u e z=>by rw[z,hn] at e;cases e
 refine I.step (g':=s.gens) (d':=s.drawn) (ch:=[it]) (fun b h=>?_) (fun b o _ _ a e _=>k b o (fun z=>a (by simp[z])) e) (fun b o _ _ a e _=>⟨o.slots,k b o (fun z=>a (by simp[z])) e⟩) (fun _ _ _ _ n=>n)
  (fun b o a e=>⟨o,k b o (fun z=>a (by simp[z])) e⟩) (fun _ _ e=>e) (fun _ _ _ e=>e) (fun b ps e=>⟨#[],by rw[e];simp⟩) (fun m g=>?_) (fun b u e=>?_) I.bare
 ·have e:b=it:=by simpa using h
  subst e;exact⟨h1,d,h2,i⟩
 ·obtain⟨o,es,j,ho,r⟩:=g;exact⟨o,es,j,k _ o (B9 d) ho,r⟩
 ·refine(I.AF b u e).Gf (fun c v a q=>k c v ?_ q) (fun _ q=>q) fun _ _ q=>q;rcases a with z | z
  ·rw[z];exact f b u e
  ·exact f c _ z
theorem Inv.tok (I:Inv X pins σ H s)(t:Nat):Inv X pins σ H { s with toks:=t }:=I.un (h':=s.heap) (t':=t) Un.refl I.AF
theorem Inv.kept (I:Inv X pins σ H s)(k:∀b u,s.heap.get? b=some u->h'.get? b=some u):Inv X pins σ H { s with heap:=h',toks:=t' }:=I.un (Un.kept k) (I.AF.kept k)
theorem Inv.laid (I:Inv X pins σ H s)(k:∀b u,s.heap.get? b=some u->h'.get? b=some u)(d:s.heap.objs.size<=a)(c:C9 X.prog X.w (upd H a o) h' a o):
  Inv X pins σ (upd H a o) { s with heap:=h',toks:=t' }:=I.un (Un.laid k d (I.AF.fresh d)) (I.AF.laid k d c)
theorem Inv.write {x e:Addr}(I:Inv X pins σ H s)(c:ML (H x))(d:e=x∨H e=some (.own x))(k:∀b u,b≠e->s.heap.get? b=some u->h'.get? b=some u)(IH:∃u,h'.get? e=some u)
  (a:C9 X.prog X.w (upd H x o) h' x o):Inv X pins σ (upd H x o) { s with heap:=h',toks:=t' }:=I.un (Un.write c d k IH) (I.AF.write c d k IH a)
theorem Inv.cx (I:Inv X pins σ H s)(h:∀p∈mC,s.heap.get? p.1=some p.2/\H p.1=none/\p.1≠X.env.locals/\p.1∉X.fs/\∀v,p.2.data≠.cell v):Inv X mC σ H s:=
 ⟨I.ok,I.os,I.bare,I.base,I.loc,I.cell,I.free,I.Dz,fun p a=>(List.mem_append.mp a).elim (fun z=>I.pin p (Hr _ z)) (h p),I.AF,I.len⟩
theorem YK (c:N.Nodup)(a:N[i]?=some x)(b:N[j]?=some x):i=j:=by
 obtain⟨h1,e⟩:=List.getElem?_eq_some_iff.mp a;obtain⟨h2,d⟩:=List.getElem?_eq_some_iff.mp b;exact(ZGC c).mp (e.trans d.symm)
theorem aR {Q:Unit->Shared->Prop}(I:Inv X pins σ H s)(V:X.N.Nodup)(hi:X.N[i]?=some x)(hx:Loc X.env.scope x)(r:RelV v u)
  (h:∀s',Inv X pins (σ.set i (some v)) H s'->(∃a,Heap.SameBut a s.heap s'.heap/\(a=X.env.locals∨X.env.cells.lookup x=some a))->Q () s') (hf:X.fn x=true∨X.env.scope.names.lookup x=some .local:=by first | exact .inl rfl | exact .inr rfl | assumption):wpAny M A (storeName X.env x u) Q E s:=by
 obtain⟨m,hn,U⟩:=id I.loc;have UD:(X.env.scope.kind == .class || (X.env.scope.kind == .module && X.env.locals != X.env.globals))=false:=by rw[I.ok.kind];rfl
 have hiσ:i<σ.length:=by rw[I.len];exact(List.getElem?_eq_some_iff.mp hi).1
 have GA:=I.GA;have g:∀{a:Addr}{h':Heap},(∃o,s.heap.get? a=some o/\H a=none)->Heap.SameBut a s.heap h'->Bo X.prog X.w H h':=fun {a h'} ha f b ob e=>by
  obtain⟨_,_,W⟩:=ha;refine(I.AF b ob e).Gf (fun c F t q=>(f.2 c ?_).trans q) (fun _ q=>q) fun _ _ q=>q;rintro rfl;rcases t with rfl | t
  ·rw[W] at e;cases e
  ·rw[W] at t;cases t
 rcases hx with hk | hk
 ·refine wpAny_storeName_local hk hn (fun h' Q5 f=>?_) UD;obtain⟨oL,_,_,NB,_⟩:=id hn;refine h _ ⟨I.ok,I.os,I.bare,⟨fun b o e n D hx=>?_,fun b o e n D hx=>?_,I.base.free,fun b o e hx=>?_,I.base.G9,I.base.Fy,I.base.GG⟩,⟨_,Q5,fun j y J l B R=>?_⟩,fun y c e=>?_,I.free,I.Dz,fun p P=>?_,g ⟨oL,NB,I.free⟩ f,by simpa using I.len⟩ ⟨_,f,.inl rfl⟩
  ·exact(f.2 b (Bm (DQ (B8 e) I.ok.above))).trans (I.base.keep b o e n D hx)
  ·obtain⟨sl,l⟩:=I.base.slot b o e n D hx;exact⟨sl,(f.2 b (Bm (DQ (B8 e) I.ok.above))).trans l⟩
  ·obtain⟨o',l⟩:=I.base.there b o e hx;exact⟨o',(f.2 b (Bm (DQ (B8 e) I.ok.above))).trans l⟩
  ·by_cases C:j=i
   ·subst C;rw[hi] at l;cases l;rw[Cm hiσ] at B;cases B;exact⟨u,r,.inl ⟨hk,by simp⟩⟩
   ·rw[CL (B9 C)] at B;obtain⟨K,L,q⟩:=U j y J l B R;refine⟨K,L,?_⟩;rcases q with⟨k,e⟩|⟨k,c,e,z⟩
    ·refine .inl ⟨k,?_⟩;have:y≠x:=fun e=>C (YK V l (e▸hi));simp[this,e]
    ·exact .inr ⟨k,c,e,z.sameBut f (GA y c e)⟩
  ·obtain⟨F,z⟩:=I.cell y c e;exact⟨F,z.sameBut f (GA y c e)⟩
  ·obtain⟨e,n,ne,O,d⟩:=I.pin p P;exact⟨(f.2 p.1 ne).trans e,n,ne,O,d⟩
 ·have S:X.fn x=true:=by
   rcases hf with z | z
   ·exact z
   ·rw[z] at hk;cases hk
  obtain⟨c,t⟩:=I.ok.has x (.inl hk);obtain⟨F,z⟩:=I.cell x c t;refine wpAny_storeName_cell I.ok.kind hk t z (fun h' L6 f=>?_);obtain⟨T,RL,ZAj⟩:=id z;refine h { s with heap:=h' } ⟨I.ok,I.os,I.bare,⟨fun b o e n D hx=>?_,fun b o e n D hx=>?_,I.base.free,fun b o e hx=>?_,I.base.G9,I.base.Fy,I.base.GG⟩,⟨m,hn.sameBut f (B9 (GA x c t)),fun j y J l B R=>?_⟩,fun y G e=>?_,I.free,I.Dz,fun p P=>?_,g ⟨T,RL,I.Dz x c t⟩ f,by simpa using I.len⟩ ⟨c,f,.inr t⟩
  ·exact(f.2 b (Bm (DQ (B8 e) (I.ok.KC x c S t)))).trans (I.base.keep b o e n D hx)
  ·obtain⟨sl,l⟩:=I.base.slot b o e n D hx;exact⟨sl,(f.2 b (Bm (DQ (B8 e) (I.ok.KC x c S t)))).trans l⟩
  ·obtain⟨o',l⟩:=I.base.there b o e hx;exact⟨o',(f.2 b (Bm (DQ (B8 e) (I.ok.KC x c S t)))).trans l⟩
  ·by_cases C:j=i
   ·subst C;rw[hi] at l;cases l;rw[Cm hiσ] at B;cases B;exact⟨u,r,.inr ⟨.inl hk,c,t,L6⟩⟩
   ·rw[CL (B9 C)] at B;obtain⟨K,L,q⟩:=U j y J l B R;refine⟨K,L,?_⟩;rcases q with q | ⟨k,G,e,z'⟩
    ·exact .inl q
    ·refine .inr ⟨k,G,e,z'.sameBut f ?_⟩;rintro rfl;exact C (YK V l (I.ok.inj _ _ _ e t▸hi))
  ·by_cases Y:G=c
   ·subst Y;exact⟨_,L6⟩
   ·obtain⟨w2,Z⟩:=I.cell y G e;exact⟨w2,Z.sameBut f Y⟩
  ·obtain⟨e,n,ne,O,d⟩:=I.pin p P;refine⟨(f.2 p.1 ?_).trans e,n,ne,O,d⟩;intro q;rw[q,RL] at e;have q':T=p.2:=Bj e;exact d F (by rw[<- q'];exact ZAj)
theorem Zc {Q:Unit->Shared->Prop}(I:Inv X pins σ H s)(b:X.N.Nodup)(hi:X.N[i]?=some x)(hx:Loc X.env.scope x)(r:RelV v u)
  (h:∀s',Inv X pins (σ.set i (some v)) H s'->Q () s') (a:X.fn x=true∨X.env.scope.names.lookup x=some .local:=by first | exact .inl rfl | exact .inr rfl | assumption):wpAny M A (storeName X.env x u) Q E s:=
 aR I b hi hx r (fun s' I' _=>h s' I') a
theorem Inv.tM (I:Inv X pins σ H s)(ho:s'.os=s.os)(u:Un (Ca X.stack) ch H H' s.heap s'.heap)(AF:Bo X.prog X.w H' s'.heap)(a:AllBare s'.gens)
  (IU:∀b∈ch,(b∈X.ex∨X.s₀.heap.objs.size<=b)/\b≠X.env.locals/\(∀x c,X.env.cells.lookup x=some c->c≠b)/\∀p∈X.pn++pins,p.1≠b):Inv X pins σ H' s':=by
 obtain⟨h',g',d',t',o'⟩:=s';have e:o'=s.os:=ho;subst e;exact I.call (g':=g') (t':=t') (d':=d') u AF a IU
end
abbrev XK:=Value->Option Addr->Hp->Prop
abbrev St:=List (Option V)
variable {σ:St}
abbrev VK:=V->Hp->Prop
abbrev TE:=St->Hp->VK->Prop
variable {ta tb tc te:TE}
abbrev TT:=St->Hp->(Bool->Hp->Prop)->Prop
abbrev TA:=St->Hp->(List V->Hp->Prop)->Prop
structure Ends where
 nx:St->Hp->Prop
 rt:VK
 bk:St->Hp->Prop:=fun _ _=>False
 ct:St->Hp->Prop:=fun _ _=>False
abbrev TS:=Ends->St->Hp->Prop
def EP (X:Cx)(pins:ZHQ)(σ:St)(Q:VK)(u:Value)(s':Shared):Prop:=∃v H',Inv X pins σ H' s'/\RelV v u/\Q v H'
def TP (X:Cx)(pins:ZHQ)(σ:St)(Q:Bool->Hp->Prop)(b:Bool)(s':Shared):Prop:=∃H',Inv X pins σ H' s'/\Q b H'
def AP (X:Cx)(pins:ZHQ)(σ:St)(Q:List V->Hp->Prop)(us:List Value)(s':Shared):Prop:=∃vs H',Inv X pins σ H' s'/\Vals vs us/\Q vs H'
def SP (X:Cx)(pins:ZHQ)(D:Ends)(f:Flow)(s':Shared):Prop:=
 match f with
 | .next=>∃ σ' H',Inv X pins σ' H' s'/\D.nx σ' H'
 | .brk=>∃ σ' H',Inv X pins σ' H' s'/\D.bk σ' H'
 | .cont=>∃ σ' H',Inv X pins σ' H' s'/\D.ct σ' H'
 | .ret u=>∃v σ' H',Inv X pins σ' H' s'/\RelV v u/\D.rt v H'
def PE (X:Cx)(e:Expr)(t:TE):Prop:=
 ∀(pins:ZHQ) (s:Shared) (σ:St) (H:Hp) (Q:VK),Inv X pins σ H s->t σ H Q->wpAny (model X.prog X.w) X.A (eval e X.env) (EP X pins σ Q) X.xe s
def PT (X:Cx)(e:Expr)(t:TT):Prop:=
 ∀(pins:ZHQ) (s:Shared) (σ:St) (H:Hp) (Q:Bool->Hp->Prop),Inv X pins σ H s->t σ H Q->wpAny (model X.prog X.w) X.A (isTrue e X.env (eval e X.env)) (TP X pins σ Q) X.xe s
def PW (X:Cx)(e:Expr)(t:TT):Prop:=
 ∀(a:Sem Value) (pins:ZHQ) (s:Shared) (σ:St) (H:Hp) (Q:Bool->Hp->Prop),Inv X pins σ H s->t σ H Q->wpAny (model X.prog X.w) X.A (isTrue e X.env a) (TP X pins σ Q) X.xe s
theorem PW.pt {t:TT}(h:PW X e t):PT X e t:=h _
def PA (X:Cx)(es:List Expr)(t:TA):Prop:=
 ∀(pos:Pos) (pins:ZHQ) (s:Shared) (σ:St) (H:Hp) (Q:List V->Hp->Prop),Inv X pins σ H s->t σ H Q->wpAny (model X.prog X.w) X.A (spliced (backTo pos (starEach es X.env))) (AP X pins σ Q) X.xe s
def PS (X:Cx)(st:Stmt)(t:TS):Prop:=
 ∀(pins:ZHQ) (s:Shared) (σ:St) (H:Hp) (D:Ends),Inv X pins σ H s->t D σ H->wpAny (model X.prog X.w) X.A (exec st X.env) (SP X pins D) X.xe s
def DJ (X:Cx)(st:List Stmt)(t:TS):Prop:=
 ∀(pins:ZHQ) (s:Shared) (σ:St) (H:Hp) (D:Ends),Inv X pins σ H s->t D σ H->wpAny (model X.prog X.w) X.A (execs st X.env) (SP X pins D) X.xe s
theorem AR {t:Sem α}{Q Q':α->Shared->Prop}(h:wpAny M A t Q E s)(b:∀a s,Q a s->Q' a s):wpAny M A t Q' E s:=qG h b fun _ _ x=>x
section
def BD (i:Nat):TE:=fun σ H Q=>∃v,σ[i]?=some (some v)/\Q v H
def tC (v:V):TE:=fun _ H Q=>Q v H
theorem lX (n:X.N[i]?=some x)(g:Rl X.env.scope x)(hd:(x == ("__debug__":Str))=false:=by decide)(Ez:(x == ("__classdict__":Str))=false:=by decide):PE X (.Name x pos) (BD i):=by
 intro pins s σ H Q I h;obtain⟨v,e,h⟩:=h;obtain⟨m,hn,k⟩:=I.loc;obtain⟨u,r,l⟩:=k i x v n e g;have b:EP X pins σ Q u s:=⟨v,H,I,r,h⟩;rcases l with⟨a,j⟩|⟨a,c,f,d⟩
 ·exact wpAny_Name (wpAny_loadName_local I.ok.kind a hn j b) hd
 ·rcases a with a | a
  ·exact wpAny_Name (wpAny_loadName_cell I.ok.kind a f d b) hd
  ·exact wpAny_Name (wpAny_loadName_free I.ok.kind a f d b Ez) hd
def Gl (X:Cx)(x:Str):Prop:=X.env.kindOf x=some .globalImplicit
theorem JL (I:Inv X pins σ H s)(b:Gl X x)(a:X.mg x=some u)(h:Q u s)
  (hd:(x == ("__debug__":Str))=false:=by decide):wpAny (model X.prog X.w) X.A (eval (.Name x pos) X.env) Q E s:=
 ZFx I.ok.kind b (Calls.loadGlobal_global (by rw[I.ok.glob];exact I.mod.glob.keeps I.bk) a h) hd
theorem K0 (I:Inv X pins σ H s)(c:Gl X x)(b:X.mg x=none)(a:bootBuiltins x=some u)(h:Q u s)
  (hn:x ≠ "__name__" := by decide) (hd:(x == ("__debug__":Str))=false:=by decide):wpAny (model X.prog X.w) X.A (eval (.Name x pos) X.env) Q E s:=by
 obtain⟨mb,h1,h2⟩:=I.mod.blt;exact ZFx I.ok.kind c (Calls.loadGlobal_builtin (by rw[I.ok.glob];exact I.mod.glob.keeps I.bk) b (by rw[I.ok.blt];exact h1.keeps I.bk) ((h2 x hn).trans a) h) hd
theorem ZCP (c:Gl X x)(b:X.mg x=none)(a:bootBuiltins x=some u)(r:RelV v u)(hn:x ≠ "__name__" := by decide)(hd:(x == ("__debug__":Str))=false:=by decide):PE X (.Name x pos) (tC v):=
 fun _ _ _ H _ I h=>K0 I c b a ⟨v,H,I,r,h⟩ hn hd
variable {a b:Expr}
def PC (X:Cx)(op:CmpOp)(a b:Expr)(t:TE):Prop:=
 ∀(pins:ZHQ) (s:Shared) (σ:St) (H:Hp) (Q:VK),Inv X pins σ H s->t σ H Q->
  wpAny (model X.prog X.w) X.A (eval a X.env) (fun v d=>wpAny (model X.prog X.w) X.A (eval b X.env) (fun u c=>wpAny (model X.prog X.w) X.A (compareOp op v u) (EP X pins σ Q) X.xe c) X.xe d) X.xe s
theorem ZDV (b:Expr)(h:op≠.In)(h2:op≠.NotIn):behindInMarks op b=false:=by
 have c:(op == CmpOp.In)=false:=by cases op <;> first | rfl | exact absurd rfl h
 have a:(op == CmpOp.NotIn)=false:=by cases op <;> first | rfl | exact absurd rfl h2
 cases b <;> simp[behindInMarks,c,a]
def tB (t:TE):TT:=fun σ H Q=>t σ H fun x H1=>∃c,x=.bl c/\Q c H1
theorem eE {t:TE}(h:PC X op a b t)(h1:behindInMarks op b=false:=by first | exact ZDV _ (by decide) (by decide) | rfl):PT X (.Compare a [op] [b] pos) (tB t):=by
 intro pins s σ H Q I hw;refine wpAny_isTrue_Compare1 (AR (h pins s σ H _ I hw) fun v s1 h1=>AR h1 fun u s2 h2=>AR h2 fun c g ⟨x,H1,I1,e,f⟩=>?_) h1;obtain⟨d,rfl,q⟩:=f;cases e;exact uA ⟨H1,I1,q⟩
variable {tA JI:TT}
def RZ (t u:TT):TT:=fun σ H Q=>t σ H fun c H1=>if c=true then u σ H1 Q else Q false H1
def ZR (t u:TT):TT:=fun σ H Q=>t σ H fun c H1=>if c=true then Q true H1 else u σ H1 Q
def RB (t:TT):TT:=fun σ H Q=>t σ H fun c H1=>Q (!c) H1
def Zn (ta tb:TE):TE:=fun σ H Q=>ta σ H fun x H1=>∃c,x=.bl c/\if c=true then tb σ H1 Q else Q (.bl false) H1
def aH (ta tb:TE):TE:=fun σ H Q=>ta σ H fun x H1=>∃c,x=.bl c/\if c=true then Q (.bl true) H1 else tb σ H1 Q
end
def AN (K:ZHP)(H:Hp)(a:Addr)(xs:List V):Prop:=
 Rd H a (.lst xs)∨
  ∃(o:Obj) (A3:Array Value) (n:Nat),K.lookup a=some o/\o.cls=.type "list" /\ o.dict=none/\o.data=.seq A3 n/\A3.size<=sizeLine/\Vals xs A3.toList
def AU (K:ZHP)(H:Hp)(a:Addr)(xs:List V):Prop:=
 Rd H a (.tup xs)∨
  ∃(o:Obj) (A3:Array Value) (n:Nat),K.lookup a=some o/\o.cls=.type "tuple" /\ o.data=.seq A3 n/\A3.size<=sizeLine/\Vals xs A3.toList
noncomputable def uC:Value->Option V
 | .none=>some .A8
 | .bool b=>some (.bl b)
 | .int i _=>some (.int i)
 | .str x _=>some (.str x)
 | .bytes b _=>some (.Gz b)
 | .float b _=>some (.K8 b)
 | .ref a=>some (.ref a)
 | .type n=>some (.ty n)
 | _=>none
theorem RelV.abs {x:V}(r:RelV x u):uC u=some x:=by
 cases x with
 | A8=>cases r;rfl
 | bl _=>cases r;rfl
 | int _=>obtain⟨t,rfl⟩:=r;rfl
 | str _=>obtain⟨t,rfl⟩:=r;rfl
 | Gz _=>obtain⟨t,rfl⟩:=r;rfl
 | K8 _=>obtain⟨t,rfl⟩:=r;rfl
 | ref _=>cases r;rfl
 | ty _=>cases r;rfl
theorem RelV.inj {x y:V}{u:Value}(r:RelV x u)(q:RelV y u):x=y:=Bj (r.abs.symm.trans q.abs)
theorem Vals.inj:∀{xs ys:List V}{us:List Value},Vals xs us->Vals ys us->xs=ys
 | _,_,_,.nil,.nil=>rfl
 | _,_,_,.cons r t,.cons r' t'=>by rw[r.inj r',Vals.inj t t']
section
variable {xs ys:List V}
theorem AN.of {K:ZHP}(h:H a=some (.lst xs)):AN K H a xs:=.inl (.inl h)
theorem AU.of {K:ZHP}(h:H a=some (.tup xs)):AU K H a xs:=.inl (.inl h)
theorem Inv.list (I:Inv X pins σ H s)(h:AN X.K H a xs):∃A3:List Value,Vals xs A3/\PlainL s.heap a A3.toArray/\xs.length<=sizeLine:=by
 rcases h with h | ⟨o,A3,n,hk,hc,hd,hs,hz,r⟩
 ·obtain⟨z,A3,n,r,e⟩:=h.ok I.AF;exact⟨A3,r,⟨_,n,e,rfl,rfl,rfl⟩,z⟩
 ·refine⟨A3.toList,r,⟨o,n,I.Bn a o hk,hc,hd,by simpa using hs⟩,?_⟩
  have e:=r.length;simp only[Nh] at e;omega
theorem Inv.tuple (I:Inv X pins σ H s)(h:AU X.K H a xs):∃A3:List Value,Vals xs A3/\IsTup s.heap a A3.toArray/\xs.length<=sizeLine:=by
 rcases h with h | ⟨o,A3,n,hk,hc,hs,hz,r⟩
 ·obtain⟨z,A3,r,p⟩:=h.ok I.AF;exact⟨A3,r,p.1,z⟩
 ·refine⟨A3.toList,r,⟨o,I.Bn a o hk,hc,n,by simpa using hs⟩,?_⟩
  have e:=r.length;simp only[Nh] at e;omega
theorem Inv.du (I:Inv X pins σ H s)(h:AN X.K H a xs)(h':AN X.K H a ys):xs=ys:=by
 obtain⟨A3,r,⟨o,n,e,_,_,d⟩,_⟩:=I.list h;obtain⟨its',c,⟨o',f,b,_,_,d'⟩,_⟩:=I.list h';rw[e] at b;cases b;rw[d] at d';injection d' with d1 _
 have:A3=its':=by simpa using rA Array.toList d1
 subst this;exact r.inj c
theorem Inv.P0 (I:Inv X pins σ H s)(h:AU X.K H a xs)(h':AU X.K H a ys):xs=ys:=by
 obtain⟨A3,r,⟨o,e,_,n,d⟩,_⟩:=I.tuple h;obtain⟨its',c,⟨o',b,_,f,d'⟩,_⟩:=I.tuple h';rw[e] at b;cases b;rw[d] at d';injection d' with d1 _
 have:A3=its':=by simpa using rA Array.toList d1
 subst this;exact r.inj c
end
noncomputable abbrev Cx.Ih (X:Cx)(E:Value->Shared->Prop):Cx:={ X with xe:=E }
noncomputable abbrev Cx.Oh (X:Cx):Cx:=X.Ih fun _ _=>False
theorem Cx.Ok.Ih (ok:X.Ok)(E:Value->Shared->Prop):(X.Ih E).Ok:=
 ⟨ok.mod,ok.kind,ok.glob,ok.blt,ok.above,ok.inj,ok.has,ok.KC,ok.hd,ok.frames,ok.Hw,ok.Lr,ok.bs,ok.Gy,ok.Ju,ok.Jm,ok.Er,ok.Hx⟩
theorem Cx.Ok.Jt (ok:(X.Ih E).Ok):X.Ok:=
 ⟨ok.mod,ok.kind,ok.glob,ok.blt,ok.above,ok.inj,ok.has,ok.KC,ok.hd,ok.frames,ok.Hw,ok.Lr,ok.bs,ok.Gy,ok.Ju,ok.Jm,ok.Er,ok.Hx⟩
section
theorem Inv.Ih (I:Inv X pins σ H s)(E:Value->Shared->Prop):Inv (X.Ih E) pins σ H s:=⟨I.ok.Ih E,I.os,I.bare,I.base,I.loc,I.cell,I.free,I.Dz,I.pin,I.AF,I.len⟩
theorem Inv.Jt (I:Inv (X.Ih E) pins σ H s):Inv X pins σ H s:=⟨I.ok.Jt,I.os,I.bare,I.base,I.loc,I.cell,I.free,I.Dz,I.pin,I.AF,I.len⟩
theorem SP.Jt {D:Ends}{f:Flow}(h:SP (X.Ih E) pins D f s'):SP X pins D f s':=by
 cases f with
 | next=>obtain⟨σ',H',I,q⟩:=h;exact⟨σ',H',I.Jt,q⟩
 | brk=>obtain⟨σ',H',I,q⟩:=h;exact⟨σ',H',I.Jt,q⟩
 | cont=>obtain⟨σ',H',I,q⟩:=h;exact⟨σ',H',I.Jt,q⟩
 | ret u=>obtain⟨v,σ',H',I,r,q⟩:=h;exact⟨v,σ',H',I.Jt,r,q⟩
theorem DJ.Oh {st:List Stmt}{t:TS}(h:DJ X.Oh st t):DJ X st t:=fun pins s σ H D I hw=>
 qG (h pins s σ H D (I.Ih _) hw) (fun _ _ q=>q.Jt) fun _ _ z=>False.elim z
variable {st:Stmt}{rest:List Stmt}{t u:TS}
def Sd:TS:=fun D σ H=>D.nx σ H
def LQ (t u:TS):TS:=fun D σ H=>t { D with nx:=u D } σ H
theorem Kt:DJ X [] Sd:=fun _ _ σ H _ I h=>wg ⟨σ,H,I,h⟩
theorem G6 (h1:PS X st t)(h2:DJ X rest u):DJ X (st::rest) (LQ t u):=by
 intro pins s σ H D I h;refine wpAny_execs_cons (AR (h1 pins s σ H { D with nx:=u D } I h) fun f s1 q=>?_)
 cases f with
 | next=>
  obtain⟨σ',H',I',q⟩:=q;exact h2 pins s1 σ' H' D I' q
 | ret v=>exact q
 | brk=>exact q
 | cont=>exact q
theorem ZCa (h1:PS X st t):DJ X [st] t:=by
 intro pins s σ H D I h;refine wpAny_execs_cons (AR (h1 pins s σ H D I h) fun f s1 q=>?_);cases f with
 | next=>exact wg q
 | ret v=>exact q
 | brk=>exact q
 | cont=>exact q
theorem Inv.quiet (I:Inv X pins σ H s):interactive X.env=false:=by simp[interactive,I.ok.kind]
def HN (te:TE):TS:=fun D σ H=>te σ H fun _ H1=>D.nx σ H1
theorem Lq (c:PE X e te)(b:swapsWith e none pos.line X.env=pure false:=by rfl):PS X (.Expr e pos) (HN te):=by
 intro pins s σ H D I h;exact wpAny_Expr_any (AR (c pins s σ H _ I h) fun v s1 AK=>by obtain⟨x,H1,I1,d,a⟩:=AK;exact⟨σ,H1,I1,a⟩) I.quiet b
def Fp (te:TE):TS:=fun D σ H=>te σ H D.rt
def SY (c:TT)(t u:TS):TS:=fun D σ H=>c σ H fun b H1=>if b=true then t D σ H1 else u D σ H1
def gC:TS:=fun _ _ _=>False
end
abbrev TG:=V->St->Hp->(St->Hp->Prop)->Prop
abbrev IZ:=List V->St->Hp->(St->Hp->Prop)->Prop
def PG (X:Cx)(a:Expr)(t:TG):Prop:=
 ∀(pins:ZHQ) (s:Shared) (σ:St) (H:Hp) (v:V) (u:Value) (Q:St->Hp->Prop),Inv X pins σ H s->RelV v u->t v σ H Q->
  wpAny (model X.prog X.w) X.A (assign a X.env u) (fun _ s'=>∃ σ' H',Inv X pins σ' H' s'/\Q σ' H') X.xe s
def OB (X:Cx)(ts:List Expr)(t:IZ):Prop:=
 ∀(pins:ZHQ) (s:Shared) (σ:St) (H:Hp) (vs:List V) (us:List Value) (Q:St->Hp->Prop),Inv X pins σ H s->Vals vs us->t vs σ H Q->
  wpAny (model X.prog X.w) X.A (assignInOrder ((assignEach ts X.env).map (·.2)) us) (fun _ s'=>∃ σ' H',Inv X pins σ' H' s'/\Q σ' H') X.xe s
abbrev Rt:=V->V->V->Hp->(Hp->Prop)->Prop
def ZA (X:Cx)(t:Rt):Prop:=
 ∀(pins:ZHQ) (s:Shared) (σ:St) (H:Hp) (o i v:V) (a b u:Value) (Q:Hp->Prop),Inv X pins σ H s->RelV o a->RelV i b->RelV v u->t o i v H Q->
  wpAny (model X.prog X.w) X.A (setItem a b u) (fun _ s'=>∃H',Inv X pins σ H' s'/\Q H') X.xe s
abbrev fT:=V->V->Hp->VK->Prop
def PIp (X:Cx)(op:Operator)(t:fT):Prop:=
 ∀(pins:ZHQ) (s:Shared) (σ:St) (H:Hp) (x y:V) (v u:Value) (Q:VK),Inv X pins σ H s->RelV x v->RelV y u->t x y H Q->
  wpAny (model X.prog X.w) X.A (inplaceOp op v u) (EP X pins σ Q) X.xe s
def Cg (i:Nat):TG:=fun v σ H Q=>Q (σ.set i (some v)) H
theorem lg (b:X.N.Nodup)(hi:X.N[i]?=some x)(hx:Loc X.env.scope x)(a:X.fn x=true∨X.env.scope.names.lookup x=some .local:=by first | exact .inl rfl | exact .inr rfl | assumption):PG X (.Name x pos) (Cg i):=by
 intro pins s σ H v u Q I r h;exact wpAny_assign_Name (Zc I b hi hx r (fun s' I'=>⟨_,H,I',h⟩) a)
def Pa:IZ:=fun vs σ H Q=>vs=[]/\Q σ H
def He (t:TG)(u:IZ):IZ:=fun vs σ H Q=>∃v r,vs=v::r/\t v σ H fun σ' H'=>u r σ' H' Q
def OU (K:ZHP)(n:Nat)(t:IZ):TG:=fun v σ H Q=>∃a xs,v=.ref a/\AU K H a xs/\xs.length=n/\t xs σ H Q
def Sr (to ti:TE)(t:Rt):TG:=fun v σ H Q=>to σ H fun o H1=>ti σ H1 fun i H2=>t o i v H2 fun H3=>Q σ H3
def Ea (te:TE)(g:TG):TS:=fun D σ H=>te σ H fun x H1=>g x σ H1 D.nx
def fw (f:Int->Int->Int):fT:=fun x y H Q=>∃i j,x=.int i/\y=.int j/\Q (.int (f i j)) H
theorem Uo:PIp X .Add (fw fun i j=>i+j):=by
 intro pins s σ H x y v u Q I b a h;obtain⟨i,j,d,c,q⟩:=h;subst d;subst c;obtain⟨t,rfl⟩:=b;obtain⟨t',rfl⟩:=a;exact iadd_int ⟨.int _,H,I.tok _,⟨_,rfl⟩,q⟩
def dM (c:TT)(tb:TS):TS:=fun D σ H=>∃W:Nat->St->Hp->Prop,(∃m,W m σ H)/\∀m σ H,W m σ H->
 c σ H fun b H1=>if b=true then ∃N:St->Hp->Prop,(∀ σ' H',N σ' H'->∃a,a < m/\W a σ' H')/\tb { D with nx:=N,ct:=N,bk:=D.nx } σ H1 else D.nx σ H1
structure It where
 go:Nat->Hp->Prop
 Gn:Nat->Hp->V->Hp->Prop
 stop:Nat->Hp->Prop
def EW (X:Cx)(pins:ZHQ)(H:Hp)(b:Addr):Prop:=
 H b=none/\b≠X.env.locals/\b∉X.fs/\(b∈X.ex∨X.s₀.heap.objs.size<=b)/\(∀x c,X.env.cells.lookup x=some c->c≠b)/\∀p∈X.pn++pins,p.1≠b
theorem Inv.Om (I:Inv X pins σ H s)(a:s.heap.objs.size<=b)(hn:H' b=none):EW X pins H' b:=by
 refine⟨hn,Hu (DQ I.lt a),I.wJ a,.inr (Bi I.sz a),fun x c e z=>?_,fun p d z=>?_⟩
 ·obtain⟨v,q⟩:=I.cell x c e;exact absurd (DQ q.lt (by rw[z];exact a)) (M9 _)
 ·exact absurd (DQ (B8 (I.pin p d).1) (by rw[z];exact a)) (M9 _)
structure Turn (P:Program) (w:World) (K:ZHP) (tg:Expr) (J:It) (fp:List Addr) (it:Addr) (tn:Nat->Heap->Prop):Prop where
 mem:it∈fp
 obj:∀i h,tn i h->∀b∈fp,∃o,h.get? b=some o/\∀v,o.data≠.cell v
 keep:∀i h h',tn i h->(∀b∈fp,∀o,h.get? b=some o->h'.get? b=some o)->tn i h'
 item:∀(X:Cx),X.prog=P->X.w=w->X.K=K->X.calm=true->∀(i:Nat) (pins:ZHQ) (s:Shared) (σ:St) (H:Hp) (E:Value->Shared->Prop),Inv X pins σ H s->(∀b∈fp,EW X pins H b)->tn i s.heap->J.go i H->
  wpAny (model P w) X.A (pyNext (.ref it)) (fun r s1=>∃u,r=some u/\
   wpAny (model P w) X.A (letOwnedTupleGo tg (.ref it) u) (fun _ s2=>∃x H',Inv X pins σ H' s2/\RelV x u/\J.Gn i H x H'/\tn (i+1) s2.heap/\∀b∈fp,H' b=none) E s1) E s
 done:∀(X:Cx),X.prog=P->X.w=w->X.K=K->X.calm=true->∀(i:Nat) (pins:ZHQ) (s:Shared) (σ:St) (H:Hp) (E:Value->Shared->Prop),Inv X pins σ H s->(∀b∈fp,EW X pins H b)->tn i s.heap->J.stop i H->
  wpAny (model P w) X.A (pyNext (.ref it)) (fun r s1=>r=none/\Inv X pins σ H s1) E s
 self:∀(A:Around) (i:Nat) (s:Shared) (Q:Value->Shared->Prop) (E:Value->Shared->Prop),tn i s.heap->Q (.ref it) s->wpAny (model P w) A (pyIter (.ref it)) Q E s
abbrev TI:=St->Hp->(It->Hp->Prop)->Prop
def iU (X:Cx)(pins:ZHQ)(σ:St)(tg:Expr)(R:It->Hp->Prop)(Sa:Value)(s2:Shared):Prop:=
 ∃(it:Addr) (fp:List Addr) (tn:Nat->Heap->Prop) (J:It) (H':Hp),Sa=.ref it/\Inv X pins σ H' s2/\Turn X.prog X.w X.K tg J fp it tn/\tn 0 s2.heap/\(∀b∈fp,EW X pins H' b)/\R J H'
def PI (X:Cx)(tg iter:Expr)(wi:TI):Prop:=
 ∀(pins:ZHQ) (s:Shared) (σ:St) (H:Hp) (R:It->Hp->Prop),Inv X pins σ H s->wi σ H R->
  wpAny (model X.prog X.w) X.A (eval iter X.env) (fun v s1=>wpAny (model X.prog X.w) X.A (pyIter v) (iU X pins σ tg R) X.xe s1) X.xe s
theorem Rv {o:Obj}{n:String}{vs:Array Value}{Q:Unit->Shared->Prop}(ho:s.heap.get? it=some o)(b:o.cls=.type n)(hd:o.data=.fields vs)
  (hn:["enumerate","zip","dict_itemiterator","dict_reverseitemiterator","odict_iterator","itertools.zip_longest","itertools.pairwise"].contains n=false) (a:Q () s):wpAny M A (letOwnedTupleGo tg (.ref it) u) Q E s:=by
 unfold letOwnedTupleGo;cases tg <;> first
  | exact oR a
  | (cases u <;> first
    | exact oR a
    | (
      refine nc (wpAny_load ho ?_);rw[b,hd];show wpAny M A (if(["enumerate","zip","dict_itemiterator","dict_reverseitemiterator","odict_iterator","itertools.zip_longest","itertools.pairwise"].contains n && vs[0]? == some (rawInt _))=true then _ else _) Q E s
      rw[o5 (by intro h;rw[hn,Bool.false_and] at h;cases h)];exact oR a))
noncomputable def Itl (K:ZHP)(a:Addr):It:=
 ⟨fun i H=>∃xs x,AN K H a xs/\xs[i]?=some x,fun i H x H'=>H'=H/\∀xs,AN K H a xs->xs[i]?=some x,fun i H=>∃xs,AN K H a xs/\xs.length<=i⟩
noncomputable def Itt (K:ZHP)(a:Addr):It:=
 ⟨fun i H=>∃xs x,AU K H a xs/\xs[i]?=some x,fun i H x H'=>H'=H/\∀xs,AU K H a xs->xs[i]?=some x,fun i H=>∃xs,AU K H a xs/\xs.length<=i⟩
noncomputable def Lf (lo:Int)(n:Nat):It:=⟨fun i _=>i<n,fun i H x H'=>H'=H/\x=.int (lo+i),fun i _=>n<=i⟩
theorem Pg {P:Program}{K:ZHP}(a it:Addr):Turn P w K tg (Itl K a) [it] it (fun i h=>h.IsListIter it a i) where
 mem:=by simp
 obj:=fun i h st b f=>by
  have e:b=it:=by simpa using f
  subst e;obtain⟨o,e,c,d⟩:=st;exact⟨o,e,fun v z=>by rw[d] at z;cases z⟩
 keep:=fun i h h' st k=>st.at fun o e=>k it (by simp) o e
 item:=by
  intro X n hw q B i pins s σ H E I j st m;subst n hw q;obtain⟨xs,x,g,hx⟩:=m;obtain⟨A3,l,p,F⟩:=I.list g;obtain⟨u,J,D⟩:=l.get hx;obtain⟨f0,A,L,y,t,r⟩:=j it (by simp);refine wpAny_pyNext_list_item st p.isList (x:=u) (by simpa using J) fun h' DZ C=>?_
  have N:Inv X pins σ H { s with heap:=h' }:=I.turned (t':=s.toks) (fun b o f e=>(C.2 b f).trans e) f0 A y t r
  obtain⟨o,e,c,d⟩:=id DZ;exact⟨u,rfl,Rv (s:={ s with heap:=h' }) e c d (by decide) ⟨x,H,N,D,⟨rfl,fun ys G=>by rw[I.du G g];exact hx⟩,DZ,fun b f=>(j b f).1⟩⟩
 done:=by
  intro X n hw q B i pins s σ H E I j st m;subst n hw q;obtain⟨xs,g,hx⟩:=m;obtain⟨A3,l,p,F⟩:=I.list g;obtain⟨f0,A,L,y,t,r⟩:=j it (by simp);have O:=l.length;exact wpAny_pyNext_list_end (I.ok.hd B) st p.isList (by simp;omega) fun h' M=>⟨rfl,I.turned (t':=s.toks) (fun b o f e=>M b o f e) f0 A y t r⟩
 self:=fun _ _ _ _ _ st h=>wpAny_pyIter_listiter st h
theorem OI {P:Program}{K:ZHP}(a it:Addr):Turn P w K tg (Itt K a) [it] it (fun i h=>h.IsTupleIter it a i) where
 mem:=by simp
 obj:=fun i h st b f=>by
  have e:b=it:=by simpa using f
  subst e;obtain⟨o,e,c,d⟩:=st;exact⟨o,e,fun v z=>by rw[d] at z;cases z⟩
 keep:=fun i h h' st k=>st.at fun o e=>k it (by simp) o e
 item:=by
  intro X n hw q B i pins s σ H E I j st m;subst n hw q;obtain⟨xs,x,g,hx⟩:=m;obtain⟨A3,l,p,F⟩:=I.tuple g;obtain⟨u,J,D⟩:=l.get hx;obtain⟨f0,A,L,y,t,r⟩:=j it (by simp);refine wpAny_pyNext_tuple_item st (show s.heap.IsTuple a A3.toArray from p) (x:=u) (by simpa using J) fun h' DZ C=>?_
  have N:Inv X pins σ H { s with heap:=h' }:=I.turned (t':=s.toks) (fun b o f e=>(C.2 b f).trans e) f0 A y t r
  obtain⟨o,e,c,d⟩:=id DZ;exact⟨u,rfl,Rv (s:={ s with heap:=h' }) e c d (by decide) ⟨x,H,N,D,⟨rfl,fun ys G=>by rw[I.P0 G g];exact hx⟩,DZ,fun b f=>(j b f).1⟩⟩
 done:=by
  intro X n hw q B i pins s σ H E I j st m;subst n hw q;obtain⟨xs,g,hx⟩:=m;obtain⟨A3,l,p,F⟩:=I.tuple g;obtain⟨f0,A,L,y,t,r⟩:=j it (by simp);have O:=l.length;exact wpAny_pyNext_tuple_end (I.ok.hd B) st (show s.heap.IsTuple a A3.toArray from p) (by simp;omega) fun h' M=>⟨rfl,I.turned (t':=s.toks) (fun b o f e=>M b o f e) f0 A y t r⟩
 self:=fun _ _ _ _ _ st h=>wpAny_pyIter_tupleiter st h
theorem pJ {P:Program}{K:ZHP}(it:Addr)(lo:Int)(n:Nat):Turn P w K tg (Lf lo n) [it] it (fun i h=>IsRangeIter h it (lo+(i:Nat) * 1) ((n:Int) - (i:Nat)) 1) where
 mem:=by simp
 obj:=fun i h st b a=>by
  have e:b=it:=by simpa using a
  subst e;exact⟨_,st,fun v z=>by
   have r:Data.fields _=Data.cell v:=z;cases r⟩
 keep:=fun i h h' st k=>k it (by simp) _ st
 item:=by
  intro X g hw j f i pins s σ H E I c st d;subst g hw j;obtain⟨f0,q,x,p,m,l⟩:=c it (by simp);have W:=Walks.range (prog:=X.prog) (w:=X.w) (I.ok.hd f) it lo 1 n;refine W.item i s _ _ d st fun v h' tk u DZ kk=>?_;obtain⟨t,rfl⟩:=u;have A:Inv X pins σ H { s with heap:=h',toks:=tk }:=I.turned (fun b o a e=>kk b o (by simpa using a) e) f0 q p m l
  refine⟨_,rfl,Rv (s:={ s with heap:=h',toks:=tk }) (n:="range_iterator") DZ rfl rfl (by decide) ⟨.int (lo+i),H,A,⟨t,?_⟩,⟨rfl,rfl⟩,DZ,fun b a=>(c b a).1⟩⟩
  rw[Int.mul_one]
 done:=by
  intro X g hw j f i pins s σ H E I c st d;subst g hw j;obtain⟨f0,q,x,p,m,l⟩:=c it (by simp);exact wpAny_pyNext_range_end (I.ok.hd f) st (by have:n<=i:=d;omega) fun h' y=>⟨rfl,I.turned (t':=s.toks) (fun b o a e=>y b o a e) f0 q p m l⟩
 self:=fun _ _ _ _ _ st h=>wpAny_pyIter_rangeiter st h
theorem jL {R:It->Hp->Prop}{lo hi:Int}{t u v:Tok}(I:Inv X pins σ H s)(h1:-(2 ^ 62)<=lo)(h2:lo<2 ^ 62)(f:-(2 ^ 62)<=hi)(d:hi<2 ^ 62)
  (q:R (Lf lo (hi - lo).toNat) H):wpAny (model X.prog X.w) X.A (pyIter (.ref s.heap.objs.size)) (iU X pins σ tg R) E { s with heap:=s.heap.push { cls:=.type "range", data:=.fields #[.int lo t,.int hi u,.int 1 v] },toks:=tk }:=by
 refine wpAny_pyIter_range (IsRange.new ..) (small_one h1 h2 f d) ?_;have a:Inv X pins σ H { s with heap:=s.heap.push { cls:=.type "range", data:=.fields #[.int lo t,.int hi u,.int 1 v] },toks:=tk }:=I.kept fun b o e=>BN _ e
 refine⟨(s.heap.push { cls:=.type "range", data:=.fields #[.int lo t,.int hi u,.int 1 v] }).objs.size,[(s.heap.push { cls:=.type "range", data:=.fields #[.int lo t,.int hi u,.int 1 v] }).objs.size],_,_,H,rfl,
  a.kept (t':=tk) fun b o e=>BN _ e,pJ _ lo (hi - lo).toNat,?_,fun b c=>?_,q⟩
 ·have h:lo+((0:Nat):Int) * 1=lo:=by simp
  have g:(((hi - lo).toNat:Nat):Int) - ((0:Nat):Int)=Builtin.Range.rangeSize lo hi 1:=by rw[rangeSize_one];split <;> omega
  show IsRangeIter _ _ (lo+((0:Nat):Int) * 1) ((((hi - lo).toNat:Nat):Int) - ((0:Nat):Int)) 1;rw[h,g];exact Bl _ rfl
 ·have e:b=(s.heap.push { cls:=.type "range", data:=.fields #[.int lo t,.int hi u,.int 1 v] }).objs.size:=by simpa using c
  subst e;exact a.Om (Ax _) (a.AF.fresh (Ax _))
def W2 (ta:TA):TI:=fun σ H R=>ta σ H fun vs H1=>∃j:Int,vs=[.int j]/\-(2 ^ 62)<=j/\j<2 ^ 62/\R (Lf 0 j.toNat) H1
def Yy (ta:TA):TI:=fun σ H R=>ta σ H fun vs H1=>∃i j:Int,vs=[.int i,.int j]/\(-(2 ^ 62)<=i/\i<2 ^ 62/\-(2 ^ 62)<=j/\j<2 ^ 62)/\R (Lf i (j - i).toNat) H1
def UC (wi:TI)(g:TG)(tb:TS):TS:=fun D σ H=>wi σ H fun J H1=>∃W:Nat->Nat->St->Hp->Prop,(∃m,W 0 m σ H1)/\∀i m σ H,W i m σ H->
 (J.stop i H/\D.nx σ H)∨(J.go i H/\∃N:St->Hp->Prop,(∀ σ' H',N σ' H'->∃a,a < m/\W (i+1) a σ' H')/\∀x H',J.Gn i H x H'->g x σ H' fun σ2 H2=>tb { D with nx:=N,ct:=N,bk:=D.nx } σ2 H2)
noncomputable def P4 (fp:List Addr)(h:Heap):ZHQ:=fp.filterMap fun b=>(h.get? b).map fun o=>(b,o)
theorem SX {h:Heap}{o:Obj}(a:b∈fp)(e:h.get? b=some o):(b,o)∈P4 fp h:=List.mem_filterMap.mpr ⟨b,a,by rw[e];rfl⟩
theorem yK {h:Heap}{p:Addr×Obj}(a:p∈P4 fp h):p.1∈fp/\h.get? p.1=some p.2:=by
 obtain⟨b,c,e⟩:=List.mem_filterMap.mp a;cases q:h.get? b with
 | none=>rw[q] at e;cases e
 | some o=>
  rw[q] at e;have d:(b,o)=p:=Bj e;subst d;exact⟨c,q⟩
theorem Inv.pinned (I:Inv X pins σ H s)(g:∀b∈fp,EW X pins H b)(ho:∀b∈fp,∃o,s.heap.get? b=some o/\∀v,o.data≠.cell v):Inv X (pins++P4 fp s.heap) σ H s:=
 I.cx fun p f=>(List.mem_append.mp f).elim (fun z=>I.pin p (FY _ z)) fun z=>by
  obtain⟨a,e⟩:=yK z;obtain⟨f0,i,h,_⟩:=g p.1 a;obtain⟨o,c,d⟩:=ho p.1 a;rw[e] at c;cases c;exact⟨e,f0,i,h,d⟩
theorem Inv.Pj {pl:ZHQ}(I:Inv X (pins++pl) σ H s):Inv X pins σ H s:=I.cx fun p a=>I.pin p (FY _ (Hr _ a))
theorem ZFY {lo:Int}{g:TG}{tb:TS}{D:Ends}(Pv:Nat->St->Hp->Prop)(f:Pv 0 σ H)
  (d:∀i σ H,i<n->Pv i σ H->g (.int (lo+i)) σ H fun σ2 H2=>tb { D with nx:=Pv (i+1),ct:=Pv (i+1),bk:=D.nx } σ2 H2) (hd:∀ σ H,Pv n σ H->D.nx σ H) :
  ∃W:Nat->Nat->St->Hp->Prop,(∃m,W 0 m σ H)/\∀i m σ H,W i m σ H->
   ((Lf lo n).stop i H/\D.nx σ H)∨((Lf lo n).go i H/\∃N:St->Hp->Prop,(∀ σ' H',N σ' H'->∃b,b < m/\W (i+1) b σ' H')/\∀x H',(Lf lo n).Gn i H x H'->g x σ H' fun σ2 H2=>tb { D with nx:=N,ct:=N,bk:=D.nx } σ2 H2):=by
 refine⟨fun i m σ H=>m=n - i/\i<=n/\Pv i σ H,⟨n,by simp,CO _,f⟩,?_⟩;rintro i m σ H ⟨rfl,hi,p⟩
 by_cases a:i<n
 ·refine .inr ⟨a,Pv (i+1),fun σ' H' c=>⟨n - (i+1),by omega,rfl,a,c⟩,fun x H' y=>?_⟩;obtain⟨e,y⟩:=y;subst e y;exact d i σ _ a p
 ·have e:i=n:=by omega
  subst e;exact .inl ⟨Ax _,hd σ H p⟩
abbrev R2:=V->V->Hp->VK->Prop
def BW (X:Cx)(f:Value->Value->Sem Value)(r:R2):Prop:=
 ∀(pins:ZHQ) (s:Shared) (σ:St) (H:Hp) (x y:V) (v u:Value) (Q:VK),Inv X pins σ H s->RelV x v->RelV y u->r x y H Q->
  wpAny (model X.prog X.w) X.A (f v u) (EP X pins σ Q) X.xe s
def DR (X:Cx)(f:Value)(r:List V->Hp->VK->Prop):Prop:=
 ∀(pins:ZHQ) (s:Shared) (σ:St) (H:Hp) (xs:List V) (us:List Value) (Q:VK),Inv X pins σ H s->Vals xs us->r xs H Q->
  wpAny (model X.prog X.w) X.A (call f us) (EP X pins σ Q) X.xe s
def CD (r:R2)(ta tb:TE):TE:=fun σ H Q=>ta σ H fun x H1=>tb σ H1 fun y H2=>r x y H2 Q
def rI (C:Int->Int->Prop)(g:Int->Int->V):R2:=fun x y H Q=>∃i j,x=.int i/\y=.int j/\C i j/\Q (g i j) H
def Gi (g:Int->Int->V):R2:=fun x y H Q=>∃i j,x=.int i/\y=.int j/\Q (g i j) H
section
variable {a b c:Expr}
theorem Yn (m:PE X a ta)(l:PE X b tb){R:V->V->Hp->Prop}(I:Inv X pins σ H s)
  (h:ta σ H fun x H1=>tb σ H1 fun y H2=>R x y H2)
  (k:∀v u s2 x y H2,Inv X pins σ H2 s2->RelV x v->RelV y u->R x y H2->wpAny (model X.prog X.w) X.A (f v u) Q X.xe s2) :
  wpAny (model X.prog X.w) X.A (eval a X.env) (fun v d=>wpAny (model X.prog X.w) X.A (eval b X.env) (fun u c=>wpAny (model X.prog X.w) X.A (f v u) Q X.xe c) X.xe d) X.xe s:=by
 refine AR (m pins s σ H _ I h) fun v s1 Nw=>?_;obtain⟨x,H1,I1,g,j⟩:=Nw;refine AR (l pins s1 σ H1 _ I1 j) fun u s2 Yt=>?_;obtain⟨y,H2,I2,e,i⟩:=Yt;exact k v u s2 x y H2 I2 g e i
theorem SH {C:Int->Int->Prop}{g:Int->Int->Int}
  (rule:∀(i j:Int) (t u:Tok) (s:Shared) (Q:Value->Shared->Prop) (E:Value->Shared->Prop),C i j->Q (.int (g i j) s.toks) { s with toks:=s.toks+1 }->wpAny (model X.prog X.w) X.A (f (.int i t) (.int j u)) Q E s) :
  BW X f (rI C fun i j=>.int (g i j)):=by
 intro pins s σ H x y v u Q I b a h;obtain⟨i,j,rfl,rfl,c,q⟩:=h;obtain⟨t,rfl⟩:=b;obtain⟨t',rfl⟩:=a;exact rule i j t t' s _ _ c ⟨.int (g i j),H,I.tok _,⟨_,rfl⟩,q⟩
theorem k6 {g:Int->Int->Int}
  (rule:∀(i j:Int) (t u:Tok) (s:Shared) (Q:Value->Shared->Prop) (E:Value->Shared->Prop),Q (.int (g i j) s.toks) { s with toks:=s.toks+1 }->wpAny (model X.prog X.w) X.A (f (.int i t) (.int j u)) Q E s) :
  BW X f (Gi fun i j=>.int (g i j)):=by
 intro pins s σ H x y v u Q I b a h;obtain⟨i,j,rfl,rfl,q⟩:=h;obtain⟨t,rfl⟩:=b;obtain⟨t',rfl⟩:=a;exact rule i j t t' s _ _ ⟨.int (g i j),H,I.tok _,⟨_,rfl⟩,q⟩
theorem Qk {g:Int->Int->Bool}
  (rule:∀(i j:Int) (t u:Tok) (s:Shared) (Q:Value->Shared->Prop) (E:Value->Shared->Prop),Q (.bool (g i j)) s->wpAny (model X.prog X.w) X.A (f (.int i t) (.int j u)) Q E s) :
  BW X f (Gi fun i j=>.bl (g i j)):=by
 intro pins s σ H x y v u Q I b a h;obtain⟨i,j,rfl,rfl,q⟩:=h;obtain⟨t,rfl⟩:=b;obtain⟨t',rfl⟩:=a;exact rule i j t t' s _ _ ⟨.bl (g i j),H,I,rfl,q⟩
def nD (i j:Int):Prop:=0<=j/\j<=1000000/\i.natAbs<2 ^ 64
theorem EA:BW X (binaryOp .Add) (Gi fun i j=>.int (i+j)):=k6 fun _ _ _ _ _ _ _ q=>add_int q
theorem O1:BW X (binaryOp .Sub) (Gi fun i j=>.int (i - j)):=k6 fun _ _ _ _ _ _ _ q=>sub_int q
theorem Kh:BW X (binaryOp .Mod) (rI (fun _ j=>0<j) fun i j=>.int (i % j)):=SH fun i j _ _ _ _ _ a q=>by
 have h1:(0:Int)<j:=a;exact mod_int' (by omega) (by rw[Int.fmod_eq_emod_of_nonneg i (by omega)];exact q)
theorem Mq:BW X (binaryOp .Pow) (rI nD fun i j=>.int (i ^ j.toNat)):=SH fun _ _ _ _ _ _ _ a q=>pow_int_small a.1 a.2.1 a.2.2 q
end
noncomputable def Ud:V->V->Bool
 | .A8,.A8=>true | .A8,.int _=>true | .int _,.A8=>true | .A8,.bl _=>true | .bl _,.A8=>true | .A8,.str _=>true | .str _,.A8=>true
 | .int _,.int _=>true | .bl _,.bl _=>true | .str _,.str _=>true | .Gz _,.Gz _=>true
 | .int _,.str _=>true | .str _,.int _=>true | .bl _,.str _=>true | .str _,.bl _=>true
 | _,_=>false
def kZ:R2:=fun x y H Q=>Ud x y=true/\Q (.bl (decide (x=y))) H
def gK:R2:=fun x y H Q=>Ud x y=true/\Q (.bl (!decide (x=y))) H
theorem fu {i j:Int}:decide (V.int i=V.int j)=(i == j):=by
 rw[Ni];simp
theorem d6 {i j:Bool}:decide (V.bl i=V.bl j)=(i == j):=by
 rw[Ni];simp
theorem jT {i j:Str}:decide (V.str i=V.str j)=(i == j):=by
 rw[Ni];simp
theorem hU {i j:Array UInt8}:decide (V.Gz i=V.Gz j)=(i.toList == j.toList):=by
 rw[Ni];cases i;cases j;simp
section
variable {a b c:Expr}
theorem C4 {Q:VK}{k k':Bool}(I:Inv X pins σ H s)(q:Q (.bl k) H)(e:k=k'):EP X pins σ Q (.bool k') s:=by
 subst e;exact⟨.bl k,H,I,rfl,q⟩
theorem BP:BW X (compareOp .Eq) kZ:=by
 intro pins s σ H x y v u Q I c a h;obtain⟨b,q⟩:=h;cases x with
 | A8=>
  cases c;cases y with
  | A8=>cases a;exact PySem.EqNone.eq_none_none (C4 I q (by simp))
  | bl j=>cases a;exact PySem.EqNone.eq_none_bool (C4 I q (by simp))
  | int j=>obtain⟨t',rfl⟩:=a;exact PySem.EqNone.eq_none_int (C4 I q (by simp))
  | str j=>obtain⟨t',rfl⟩:=a;exact PySem.EqNone.eq_none_str (C4 I q (by simp))
  | _=>exact absurd (show false=true from b) D7
 | bl i=>
  cases c;cases y with
  | A8=>cases a;exact PySem.EqNone.eq_bool_none (C4 I q (by simp))
  | bl j=>cases a;exact eq_bool (C4 I q d6)
  | str j=>obtain⟨t',rfl⟩:=a;exact PySem.EqMixed.eq_bool_str (C4 I q (by simp))
  | _=>exact absurd (show false=true from b) D7
 | int i=>
  obtain⟨t,rfl⟩:=c;cases y with
  | A8=>cases a;exact PySem.EqNone.eq_int_none (C4 I q (by simp))
  | int j=>obtain⟨t',rfl⟩:=a;exact eq_int (C4 I q fu)
  | str j=>obtain⟨t',rfl⟩:=a;exact PySem.EqMixed.eq_int_str (C4 I q (by simp))
  | _=>exact absurd (show false=true from b) D7
 | str i=>
  obtain⟨t,rfl⟩:=c;cases y with
  | A8=>cases a;exact PySem.EqNone.eq_str_none (C4 I q (by simp))
  | bl j=>cases a;exact PySem.EqMixed.eq_str_bool (C4 I q (by simp))
  | int j=>obtain⟨t',rfl⟩:=a;exact PySem.EqMixed.eq_str_int (C4 I q (by simp))
  | str j=>obtain⟨t',rfl⟩:=a;exact eq_str (C4 I q jT)
  | _=>exact absurd (show false=true from b) D7
 | Gz i=>
  obtain⟨t,rfl⟩:=c;cases y with
  | Gz j=>obtain⟨t',rfl⟩:=a;exact PySem.W.eq_bytes (C4 I q hU)
  | _=>exact absurd (show false=true from b) D7
 | _=>cases y <;> exact absurd (show false=true from b) D7
theorem Lk:BW X (compareOp .NotEq) gK:=by
 intro pins s σ H x y v u Q I c a h;obtain⟨b,q⟩:=h;cases x with
 | A8=>
  cases c;cases y with
  | A8=>cases a;exact PySem.EqNone.ne_none_none (C4 I q (by simp))
  | bl j=>cases a;exact PySem.EqNone.ne_none_bool (C4 I q (by simp))
  | int j=>obtain⟨t',rfl⟩:=a;exact PySem.EqNone.ne_none_int (C4 I q (by simp))
  | str j=>obtain⟨t',rfl⟩:=a;exact PySem.EqNone.ne_none_str (C4 I q (by simp))
  | _=>exact absurd (show false=true from b) D7
 | bl i=>
  cases c;cases y with
  | A8=>cases a;exact PySem.EqNone.ne_bool_none (C4 I q (by simp))
  | bl j=>cases a;exact ne_bool (C4 I q (rA not d6))
  | str j=>obtain⟨t',rfl⟩:=a;exact PySem.EqMixed.ne_bool_str (C4 I q (by simp))
  | _=>exact absurd (show false=true from b) D7
 | int i=>
  obtain⟨t,rfl⟩:=c;cases y with
  | A8=>cases a;exact PySem.EqNone.ne_int_none (C4 I q (by simp))
  | int j=>obtain⟨t',rfl⟩:=a;exact ne_int (C4 I q (rA not fu))
  | str j=>obtain⟨t',rfl⟩:=a;exact PySem.EqMixed.ne_int_str (C4 I q (by simp))
  | _=>exact absurd (show false=true from b) D7
 | str i=>
  obtain⟨t,rfl⟩:=c;cases y with
  | A8=>cases a;exact PySem.EqNone.ne_str_none (C4 I q (by simp))
  | bl j=>cases a;exact PySem.EqMixed.ne_str_bool (C4 I q (by simp))
  | int j=>obtain⟨t',rfl⟩:=a;exact PySem.EqMixed.ne_str_int (C4 I q (by simp))
  | str j=>obtain⟨t',rfl⟩:=a;exact ne_str (C4 I q (rA not jT))
  | _=>exact absurd (show false=true from b) D7
 | Gz i=>
  obtain⟨t,rfl⟩:=c;cases y with
  | Gz j=>obtain⟨t',rfl⟩:=a;exact PySem.W.ne_bytes (C4 I q (rA not hU))
  | _=>exact absurd (show false=true from b) D7
 | _=>cases y <;> exact absurd (show false=true from b) D7
theorem Ff:BW X (compareOp .Lt) (Gi fun i j=>.bl (decide (i<j))):=Qk fun _ _ _ _ _ _ _ q=>lt_int q
theorem E7:BW X (compareOp .LtE) (Gi fun i j=>.bl (decide (i<=j))):=Qk fun _ _ _ _ _ _ _ q=>le_int q
theorem KD:BW X (compareOp .Gt) (Gi fun i j=>.bl (decide (j<i))):=Qk fun _ _ _ _ _ _ _ q=>gt_int q
theorem MH:BW X (compareOp .GtE) (Gi fun i j=>.bl (decide (j<=i))):=Qk fun _ _ _ _ _ _ _ q=>ge_int q
theorem hV:BW X (compareOp .In) (fun x y H Q=>∃i j,x=.str i/\y=.str j/\Q (.bl (!(Builtin.Str.occurrences j i 0 j.length 1).isEmpty)) H):=by
 intro pins s σ H x y v u Q I b a h;obtain⟨i,j,rfl,rfl,q⟩:=h;obtain⟨t,rfl⟩:=b;obtain⟨t',rfl⟩:=a;exact in_str (C4 I q rfl)
theorem ZA0:BW X (compareOp .Is) (fun x y H Q=>y=.A8/\Q (.bl (decide (x=.A8))) H):=by
 intro pins s σ H x y v u Q I a b h;obtain⟨rfl,q⟩:=h;cases b;refine is_none_gen (C4 I q ?_);cases x <;> first
  | (cases a;rfl)
  | (obtain⟨t,rfl⟩:=a;rfl)
theorem ZA9:BW X (compareOp .IsNot) (fun x y H Q=>y=.A8/\Q (.bl (!decide (x=.A8))) H):=by
 intro pins s σ H x y v u Q I a b h;obtain⟨rfl,q⟩:=h;cases b;refine isnot_none_gen (C4 I q ?_);cases x <;> first
  | (cases a;rfl)
  | (obtain⟨t,rfl⟩:=a;rfl)
theorem gy (b:Expr)(h:op≠.In:=by decide)(h2:op≠.NotIn:=by decide):behindInMarks op b=false:=by
 have c:(op == CmpOp.In)=false:=by cases op <;> first | rfl | exact absurd rfl h
 have a:(op == CmpOp.NotIn)=false:=by cases op <;> first | rfl | exact absurd rfl h2
 cases b <;> simp[behindInMarks,c,a]
def Ms (t:TE):TT:=fun σ H Q=>t σ H fun x H'=>∃k,x=.bl k/\Q k H'
theorem vo {r:R2}(ho:BW X (compareOp op) r)(o:PE X a ta)(n:PE X b tb)(m:behindInMarks op b=false):PT X (.Compare a [op] [b] pos) (Ms (CD r ta tb)):=by
 intro pins s σ H Q I h;refine wpAny_isTrue_Compare1 (AR (o pins s σ H _ I h) fun v s1 ⟨x,H1,I1,g,l⟩=>AR (n pins s1 σ H1 _ I1 l) fun u s2 ⟨y,H2,I2,f,j⟩=>
  AR (ho pins s2 σ H2 x y v u _ I2 g f j) fun c p ⟨z,H3,I3,d,k,e,i⟩=>?_) m
 subst e;cases d;exact uA ⟨H3,I3,i⟩
def O3 (r b:R2)(ta tb tc:TE):TE:=fun σ H Q=>ta σ H fun x H1=>tb σ H1 fun y H2=>r x y H2 fun z H3=>∃k,z=.bl k/\
 (if k=true then tc σ H3 fun a H4=>b y a H4 Q else Q (.bl false) H3)
theorem Ic:(sizeLine:Nat)<2 ^ 63:=by rw[sizeLine_eq];decide
theorem dH:BW X (binaryOp .Add) (fun x y H Q=>∃i j,x=.str i/\y=.str j/\i.length+j.length<=sizeLine/\Q (.str (i++j)) H):=by
 intro pins s σ H x y v u Q I b a h;obtain⟨i,j,rfl,rfl,c,q⟩:=h;obtain⟨t,rfl⟩:=b;obtain⟨t',rfl⟩:=a;exact add_str (fun t' tk=>⟨.str (i++j),H,I.tok _,⟨_,rfl⟩,q⟩) c
theorem vals1 {x:V}(r:Vals [x] us):∃u,us=[u]/\RelV x u:=by
 cases r with
 | cons b a=>cases a;exact⟨_,rfl,b⟩
theorem vals2 {x:V}(r:Vals [x,y] us):∃u a,us=[u,a]/\RelV x u/\RelV y a:=by
 cases r with
 | cons e d=>
  cases d with
  | cons c b=>cases b;exact⟨_,_,rfl,e,c⟩
theorem zE (b:X.calm=true):DR X (.builtin "max") (fun xs H Q=>∃i j,xs=[.int i,.int j]/\Q (.int (if j > i then j else i)) H):=by
 intro pins s σ H xs us Q I r h;obtain⟨i,j,rfl,q⟩:=h;obtain⟨u,c,rfl,⟨t,rfl⟩,⟨t',rfl⟩⟩:=vals2 r;refine max_two_ints (I.ok.hd b) fun h' tk k=>⟨_,H,I.kept k,?_,q⟩
 by_cases a:j > i
 ·rw[pQ a,pQ a];exact⟨_,rfl⟩
 ·rw[o5 a,o5 a];exact⟨_,rfl⟩
theorem tR (b:X.calm=true):DR X (.builtin "min") (fun xs H Q=>∃i j,xs=[.int i,.int j]/\Q (.int (if j<i then j else i)) H):=by
 intro pins s σ H xs us Q I r h;obtain⟨i,j,rfl,q⟩:=h;obtain⟨u,c,rfl,⟨t,rfl⟩,⟨t',rfl⟩⟩:=vals2 r;refine min_two_ints (I.ok.hd b) fun h' tk k=>⟨_,H,I.kept k,?_,q⟩
 by_cases a:j<i
 ·rw[pQ a,pQ a];exact⟨_,rfl⟩
 ·rw[o5 a,o5 a];exact⟨_,rfl⟩
theorem RW:DR X (.type "int") (fun xs H Q=>(∃i,xs=[.int i]/\Q (.int i) H)∨∃k,xs=[.bl k]/\Q (.int (if k then 1 else 0)) H):=by
 intro pins s σ H xs us Q I r h;rcases h with⟨i,rfl,q⟩|⟨k,rfl,q⟩
 ·obtain⟨u,rfl,t,rfl⟩:=vals1 r;exact call_int_int ⟨.int i,H,I,⟨_,rfl⟩,q⟩
 ·obtain⟨u,rfl,a⟩:=vals1 r;cases a;exact call_int_bool ⟨.int (if k then 1 else 0),H,I.tok _,⟨_,rfl⟩,q⟩
end
structure LN (h:Heap) (x dx C:Addr) (mA:ZHR):Prop where
 obj:h.get? x=some (PySem.W.instObj C dx)
 ns:h.Ns1 dx mA
 ne:dx≠x
theorem dN {h:Heap}(n:h.Ns1 dx mA):∃od,h.get? dx=some od/\∀name,PySem.W.lookIn name od=some (mA name):=by
 obtain⟨o,es,g,ho,hd,d,_,c⟩:=n;refine⟨o,ho,fun name=>?_⟩;have e:=c name;unfold nsFind findBy at e;rw[<- ZFw] at e;unfold PySem.W.lookIn;rw[hd];dsimp only;split
 ·rename_i y q;rw[q] at e;exact rA some e
 ·rename_i q;rw[q] at e;have a:es.toList.any (·.refKey)=false:=by
   rw[ZG4];intro y b;obtain⟨z,t,ZEe⟩:=d y (Array.mem_toList_iff.mp b);simp[DictEntry.refKey,ZEe]
  have f:¬ es.toList.any (·.refKey)=true:=by rw[a];exact D7
  rw[o5 f];exact rA some e
theorem LN.look {h:Heap}{x:Addr}(I:LN h x dx C mA):∃od,PySem.W.InstAt h x (PySem.W.instObj C dx) C (some od)/\∀name,PySem.W.lookIn name od=some (mA name):=
 let ⟨od,ho,hl⟩:=dN I.ns
 ⟨od,⟨I.obj,rfl,rfl,ho⟩,hl⟩
section
variable {K:ZHP}{x f:Addr}{v:Value}
theorem get_map {expr:Bool}(X:K.In s.heap)(I:LN s.heap x dx C mA)(c:PySem.W.plainGet K C name=true)(hh:PySem.W.hasDictIn K C=true)
  (d:PySem.W.findIn K (.ref C) name=some none) (a:mA name=some v) (Po:PySem.W.handedIn v=true) (h:Q v { s with toks:=s.toks+1 }) :
  wpAny (model prog w) A (getAttr (.ref x) name expr) Q E s:=by
 obtain⟨od,J,b⟩:=I.look;exact PySem.W.get_value X J (nC c).1 (ZGZ hh d rfl (by rw[b,a])) Po h
theorem qS {Q:Value×List Value->Shared->Prop}(X:K.In s.heap)(I:LN s.heap x dx C mA)(a:PySem.W.plainGet K C name=true)
  (e:PySem.W.findIn K (.ref C) name=some (some (.ref f))) (c:PySem.W.isFn K (.ref f)=true) (b:mA name=none) (h:Q (.ref f,[.ref x]) s) :
  wpAny (model prog w) A (getMethod (.ref x) name pl) Q E s:=by
 obtain⟨od,J,d⟩:=I.look;exact PySem.W.method_fn X J (nC a).1 (nC a).2 e (beq_iff_eq.mp c) (by show(PySem.W.lookIn name od).map (·.isSome)=some false;rw[d,b];rfl) h
theorem tL {Q:Unit->Shared->Prop}(X:K.In s.heap)(I:LN s.heap x dx C mA)
  (d:PySem.W.findIn K (.ref C) "__setattr__"=some (some (.builtin "object.__setattr__"))) (e:PySem.W.plainOver K C=true) (c:PySem.W.takerIn K C name=some none) (hh:PySem.W.hasDictIn K C=true)
  (hw:PySem.Within mA ns) (hsz:ns.length<=sizeLine)
  (h:∀h',LN h' x dx C (fun y=>if y=name then some v else mA y)->Heap.SameBut dx s.heap h'->Q () { s with heap:=h',toks:=s.toks+2 }) :
  wpAny (model prog w) A (setAttr (.ref x) name v) Q E s:=by
 obtain⟨od,J,k⟩:=I.look;refine ZGe X J d (PySem.W.osa_open (s:={ s with toks:=s.toks+1 }) (r:=none) X J e c fun b=>?_)
 obtain⟨cd,f,DH⟩:=nA hh;have hx:s.heap.get? x=some ⟨.ref C,some dx,.plain,#[]⟩:=I.obj;refine nc (oR (nc (nc (wpAny_loadPart hx (nc (ZGW (s:={ s with toks:=s.toks+1 }) (nB X f) ?_))))))
 rw[DH];refine oR (a:=some dx) (nc (oR (nc ?_)));refine wpAny_nsSet1 (s:={ s with toks:=s.toks+1 }) I.ns fun h' L4 CK=>?_
 obtain⟨j,g,i,Yg,W3,Za⟩:=L4.count (ZGf name v hw);refine nc (wpAny_lookBehind Yg (by rw[W3];exact pastItsLine_dict (Bi Za (by rw[CN];omega))) ?_);exact oR (h _ ⟨(CK.2 _ (B9 I.ne)).trans I.obj,L4,I.ne⟩ CK)
theorem pf {R:Result->Shared->Prop}{vs:List Value}(X:K.In s.heap)(a:PySem.W.makesIn K C=true)
  (hi:PySem.W.findIn K (.ref C) "__init__"=some (some (.ref f))) (b:PySem.W.typeIn K (.ref f)=some (.type "function"))
  (h:codeAny (model prog w) (A.under (.builtin "type.__call__" ⟨.ref C::vs,kw⟩)) (.call (.ref f) ⟨.ref (s.heap.objs.size+1)::vs,kw⟩) (PySem.W.InitBack (s.heap.objs.size+1) R)
   { s with heap:=(s.heap.push PySem.W.emptyDict).push (PySem.W.instObj C s.heap.objs.size) }) :
  codeAny (model prog w) A (.call (.ref C) ⟨vs,kw⟩) R s:=by
 obtain⟨hh,g,d,t,os⟩:=s;exact PySem.W.make_core (PySem.W.makes_of X a) (bL X hi) (fun self=>PySem.W.bind_fn X self b) (.inl rfl) h
end
noncomputable def DI (f:Str)(v:V):List (Str×V)->List (Str×V)
 | []=>[(f,v)]
 | (g,x)::r=>if g=f then(g,v)::r else(g,x)::DI f v r
theorem gQ (f g:Str)(v:V):∀fs:List (Str×V),(DI f v fs).lookup g=if g=f then some v else fs.lookup g
 | []=>by
  show List.lookup g [(f,v)]=_
  by_cases h:g=f
  ·have a:(g == f)=true:=beq_iff_eq.mpr h;simp only[List.lookup,a,pQ h]
  ·have a:(g == f)=false:=beq_eq_false_iff_ne.mpr h;simp only[List.lookup,a,o5 h]
 | (k,x)::r=>by
  have c:=gQ f g v r;rw[show DI f v ((k,x)::r)=(if k=f then(k,v)::r else(k,x)::DI f v r) from rfl]
  by_cases b:k=f
  ·rw[pQ b]
   by_cases h:g=k
   ·have a:(g == k)=true:=beq_iff_eq.mpr h;simp only[List.lookup,a,pQ (h.trans b)]
   ·have a:(g == k)=false:=beq_eq_false_iff_ne.mpr h;simp only[List.lookup,a,o5 (fun e:g=f=>h (e.trans b.symm))]
  ·rw[o5 b]
   by_cases h:g=k
   ·have a:(g == k)=true:=beq_iff_eq.mpr h;simp only[List.lookup,a,o5 (fun e:g=f=>b (h.symm.trans e))]
   ·have a:(g == k)=false:=beq_eq_false_iff_ne.mpr h;simp only[List.lookup,a];exact c
theorem Ya (f:Str)(v:V):∀fs:List (Str×V),f∈(DI f v fs).map (·.1)/\∀g,g∈fs.map (·.1)->g∈(DI f v fs).map (·.1)
 | []=>⟨by simp[DI],fun g h=>by simp at h⟩
 | (k,x)::r=>by
  obtain⟨c,b⟩:=Ya f v r;rw[show DI f v ((k,x)::r)=(if k=f then(k,v)::r else(k,x)::DI f v r) from rfl]
  by_cases a:k=f
  ·rw[pQ a];subst a;exact⟨by simp,fun g h=>by simpa using h⟩
  ·rw[o5 a];refine⟨?_,fun g h=>?_⟩
   ·rw[Bp];exact EG _ c
   ·rw[Bp] at h ⊢;rcases List.mem_cons.mp h with e | e
    ·exact List.mem_cons.mpr (.inl e)
    ·exact EG _ (b g e)
theorem mF (f:Str)(v:V):∀fs:List (Str×V),(DI f v fs).length<=fs.length+1
 | []=>by simp[DI]
 | (k,x)::r=>by
  have b:=mF f v r;rw[show DI f v ((k,x)::r)=(if k=f then(k,v)::r else(k,x)::DI f v r) from rfl]
  by_cases a:k=f
  ·rw[pQ a,CN,CN];omega
  ·rw[o5 a,CN,CN];omega
theorem E9.some_of {o:Option Value}(r:E9 (some v) o):∃u,o=some u/\RelV v u:=by
 cases o with
 | none=>exact(show False from r).elim
 | some u=>exact⟨u,rfl,r⟩
theorem E9.none_of {o:Option Value}(r:E9 none o):o=none:=by
 cases o with
 | none=>rfl
 | some u=>exact(show False from r).elim
theorem iR (r:RelV v u):PySem.W.handedIn u=true:=by
 cases v with
 | A8=>cases(show u=Value.none from r);rfl
 | bl b=>cases(show u=Value.bool b from r);rfl
 | int i=>obtain⟨t,e⟩:=(show ∃t,u=Value.int i t from r);cases e;rfl
 | str x=>obtain⟨t,e⟩:=(show ∃t,u=Value.str x t from r);cases e;rfl
 | Gz b=>obtain⟨t,e⟩:=(show ∃t,u=Value.bytes b t from r);cases e;rfl
 | K8 b=>obtain⟨t,e⟩:=(show ∃t,u=Value.float b t from r);cases e;rfl
 | ref a=>cases(show u=Value.ref a from r);rfl
 | ty n=>cases(show u=Value.type n from r);rfl
section
variable {P:Program}{h:Heap}{fs Kd:List (Str×V)}
theorem TX (AF:Bo P w H h)(e:H a=some (.ins C dx fs)):∃mA,LN h a dx C mA/\(∀f,E9 (fs.lookup f) (mA f))/\PySem.Within mA (fs.map (·.1))/\fs.length<=1000/\H dx=some (.own a):=by
 obtain⟨d,z,ne,ob,mA,n,r,q⟩:=(show C9 P w H h a (.ins C dx fs) from AF a _ e);exact⟨mA,⟨ob,n,ne⟩,r,q,z,d⟩
end
structure CI (K:ZHP) (C:Addr):Prop where
 pg:PySem.W.plainGet K C Str.empty=true
 hd:PySem.W.hasDictIn K C=true
 po:PySem.W.plainOver K C=true
 sa:PySem.W.findIn K (.ref C) "__setattr__"=some (some (.builtin "object.__setattr__"))
theorem CI.get {K:ZHP}{C:Addr}(c:CI K C)(f:Str):PySem.W.plainGet K C f=true:=c.pg
def Be (K:ZHP)(C:Addr)(f:Str):Prop:=PySem.W.findIn K (.ref C) f=some none
theorem Be.ZAk {K:ZHP}{f:Str}(n:Be K C f):PySem.W.takerIn K C f=some none:=by
 unfold PySem.W.takerIn;rw[show PySem.W.findIn K (.ref C) f=some none from n];rfl
structure Jr (K:ZHP) (C:Addr) (f:Str) (v:V) (u:Value):Prop where
 at_:PySem.W.findIn K (.ref C) f=some (some u)
 rel:RelV v u
 get:PySem.W.specialIn K u "__get__"=some none
 cp:PySem.W.copiedNames.contains f=false
structure Meth (K:ZHP) (C:Addr) (m:Str) (f:Addr):Prop where
 at_:PySem.W.findIn K (.ref C) m=some (some (.ref f))
 fn:PySem.W.isFn K (.ref f)=true
 kp:PySem.W.keepIn K (.ref f)=true
section
variable {fs:List (Str×V)}{f:Str}
theorem ck {b:Bool}(I:Inv X pins σ H s)(e:H a=some (.ins C dx fs))(c:CI X.K C)(n:Be X.K C f)(l:fs.lookup f=some v)
  (h:∀u s',Inv X pins σ H s'->RelV v u->Q u s'):wpAny (model X.prog X.w) A (getAttr (.ref a) f b) Q E s:=by
 obtain⟨mA,O,r,_,_,_⟩:=TX I.AF e;obtain⟨u,g,d⟩:=E9.some_of (v:=v) (o:=mA f) (by rw[<- l];exact r f);exact get_map I.Bn O (c.get f) c.hd n g (iR d) (h u _ (I.tok _) d)
theorem ZDr {g:Addr}{Q:Value×List Value->Shared->Prop}(I:Inv X pins σ H s)(e:H a=some (.ins C dx fs))(c:CI X.K C)(k:Meth X.K C m g)(l:fs.lookup m=none)
  (h:Q (.ref g,[.ref a]) s):wpAny (model X.prog X.w) A (getMethod (.ref a) m pl) Q E s:=by
 obtain⟨mA,O,r,_,_,_⟩:=TX I.AF e;have hn:mA m=none:=E9.none_of (by rw[<- l];exact r m);exact qS I.Bn O (c.get m) k.at_ k.fn hn h
theorem dR {Q:Unit->Shared->Prop}(I:Inv X pins σ H s)(e:H a=some (.ins C dx fs))(c:CI X.K C)(n:Be X.K C f)(m:fs.length<1000)(i:RelV y u)
  (h:∀s',Inv X pins σ (upd H a (.ins C dx (DI f y fs))) s'->Q () s'):wpAny (model X.prog X.w) A (setAttr (.ref a) f u) Q E s:=by
 obtain⟨mA,O,r,wi,_,ho⟩:=TX I.AF e;have j:(fs.map (·.1)).length<=sizeLine:=by rw[AQ,sizeLine_eq];omega
 refine tL I.Bn O c.sa c.po n.ZAk c.hd wi j fun h' O' d=>h _ ?_;have hd:∃o,h'.get? dx=some o:=let ⟨o,_,_,e',_⟩:=O'.ns;⟨o,e'⟩;refine I.write (x:=a) (e:=dx) (by rw[e];exact True.intro) (.inr ho) (fun b q l z=>(d.2 b l).trans z) hd ?_;refine⟨by rw[AX O.ne];exact ho,?_,O.ne,O'.obj,_,O'.ns,fun g=>?_,fun g k=>?_⟩
 ·have:=mF f y fs;omega
 ·show E9 ((DI f y fs).lookup g) (if g=f then some u else mA g)
  rw[gQ]
  by_cases q:g=f
  ·rw[pQ q,pQ q];exact i
  ·rw[o5 q,o5 q];exact r g
 ·by_cases q:g=f
  ·rw[q];exact(Ya f y fs).1
  ·refine(Ya f y fs).2 g (wi g fun z=>k ?_);show(if g=f then some u else mA g)=none
   rw[o5 q];exact z
theorem Inv.made (I:Inv X pins σ H s):Inv X pins σ (upd (upd H s.heap.objs.size (.own (s.heap.objs.size+1))) (s.heap.objs.size+1) (.ins C s.heap.objs.size []))
  { s with heap:=(s.heap.push PySem.W.emptyDict).push (PySem.W.instObj C s.heap.objs.size) }:=by
 have c:(s.heap.push PySem.W.emptyDict).get? s.heap.objs.size=some PySem.W.emptyDict:=Bl s.heap rfl;have h:((s.heap.push PySem.W.emptyDict).push (PySem.W.instObj C s.heap.objs.size)).get? (s.heap.objs.size+1)=some (PySem.W.instObj C s.heap.objs.size):=by
  have:=Bl (s.heap.push PySem.W.emptyDict) (o:=PySem.W.instObj C s.heap.objs.size) rfl
  rwa [G2] at this
 have g:(s.heap.push PySem.W.emptyDict).Ns s.heap.objs.size (fun _=>none):=⟨PySem.W.emptyDict,#[],_,c,rfl,(fun e f=>absurd f (by simp)),fun _=>rfl⟩;have i:=I.laid (a:=s.heap.objs.size) (o:=.own (s.heap.objs.size+1)) (h':=s.heap.push PySem.W.emptyDict) (t':=s.toks) (fun b u q=>BN _ q) (Ax _) ⟨_,c⟩;refine i.laid (a:=s.heap.objs.size+1) (o:=.ins C s.heap.objs.size []) (t':=s.toks) (fun b u q=>BN _ q) (me (G2 _ _)) ?_;have ne:s.heap.objs.size≠s.heap.objs.size+1:=Bm (bB _);refine⟨by rw[AX ne,AO],CO _,ne,h,fun _=>none,(Heap.Ns1.of_empty g).at fun o q=>BN _ q,fun _=>True.intro,fun y d=>absurd rfl d⟩
theorem bj {env:Env}(b:attributeBase e f env (eval e env)=eval e env)
  (h:wpAny (model prog w) A (eval e env) (fun o a=>wpAny (model prog w) A (getAttr o f true) Q E a) E s):wpAny (model prog w) A (eval (.Attribute e f pos) env) Q E s:=
 Attribute_any_ h (by rw[arm_eval_Attribute,b])
end
def KO (K:ZHP)(ta:TE)(f:Str):TE:=fun σ H Q=>ta σ H fun x H1=>∃a C dx fs v,x=.ref a/\H1 a=some (.ins C dx fs)/\CI K C/\Be K C f/\fs.lookup f=some v/\Q v H1
def Yw (K:ZHP)(ta tv:TE)(f:Str):TS:=fun D σ H=>tv σ H fun y H1=>ta σ H1 fun x H2=>∃a C dx fs,x=.ref a/\H2 a=some (.ins C dx fs)/\CI K C/\Be K C f/\fs.length<1000/\
 D.nx σ (upd H2 a (.ins C dx (DI f y fs)))
def ie (X:Cx)(op:Operator)(rd:V->V->Hp->VK->Prop):Prop:=
 ∀(pins:ZHQ) (s:Shared) (σ:St) (H:Hp) (x y:V) (u v:Value) (Q:VK),Inv X pins σ H s->RelV x u->RelV y v->rd x y H Q->wpAny (model X.prog X.w) X.A (inplaceOp op u v) (EP X pins σ Q) X.xe s
def aE (K:ZHP)(ta tv:TE)(rd:V->V->Hp->VK->Prop)(f:Str):TS:=fun D σ H=>ta σ H fun x H1=>∃a C dx fs v,x=.ref a/\H1 a=some (.ins C dx fs)/\CI K C/\Be K C f/\fs.lookup f=some v/\
 tv σ H1 fun y H2=>rd v y H2 fun z H3=>∃dx' Kd,H3 a=some (.ins C dx' Kd)/\Kd.length<1000/\D.nx σ (upd H3 a (.ins C dx' (DI f z Kd)))
section
variable {o value:Expr}{f:Str}{pos' Qn:Pos}{tv:TE}
variable {b:Bool}
inductive FT (K:ZHP) (H:Hp):V->Value->Prop where
 | A8:FT K H .A8 (.type "NoneType")
 | bl (x:Bool):FT K H (.bl x) (.type "bool")
 | int (i:Int):FT K H (.int i) (.type "int")
 | str (x:Str):FT K H (.str x) (.type "str")
 | K8 (x:UInt64):FT K H (.K8 x) (.type "float")
 | lst {a:Addr}{xs:List V}(e:H a=some (.lst xs)):FT K H (.ref a) (.type "list")
 | FF {a:Addr}{o:Obj}{xs:List V}(e:H a=some (.FF o (.lst xs))):FT K H (.ref a) (.type "list")
 | tup {a:Addr}{xs:List V}(e:H a=some (.tup xs)):FT K H (.ref a) (.type "tuple")
 | dK {a:Addr}{A6:List (Key×V)}(e:H a=some (.dK A6)):FT K H (.ref a) (.type "dict")
 | dT {a:Addr}{A6:List (List Key×V)}(e:H a=some (.dT A6)):FT K H (.ref a) (.type "dict")
 | ins {a C dx:Addr}{fs:List (Str×V)}(e:H a=some (.ins C dx fs)) (cl:CI K C) (ha:PySem.W.findIn K (.ref C) "__class__"=some (some (.builtin "object.__class__")))
   (hn:PySem.W.specialIn K (.builtin "object.__class__") "__get__"=some (some (.builtin "getset_descriptor.__get__"))) (JK:PySem.W.takesIn K (.builtin "object.__class__")=some true)
   (hm:PySem.W.mroIn K C (.type "object")=some true):FT K H (.ref a) (.ref C)
theorem ZC8 {x:V}{t:Value}(I:Inv X pins σ H s)(d:RelV x u)(ty:FT X.K H x t)(e:PySem.W.kitOne X.K t c=some b)(h:∀tk,Q (.bool b) { s with toks:=tk }):
  wpAny (model X.prog X.w) A (call (.builtin "isinstance") [u,c]) Q E s:=by
 cases ty with
 | A8=>cases(show u=Value.none from d);exact Iw PySem.W.kitx_none I.Bn True.intro e (fun z=>nomatch z) h
 | bl y=>cases(show u=Value.bool y from d);exact Iw PySem.W.kitx_bool I.Bn True.intro e (fun z=>nomatch z) h
 | int i=>obtain⟨t,q⟩:=(show ∃t,u=Value.int i t from d);cases q;exact Iw PySem.W.kitx_int I.Bn True.intro e (fun z=>nomatch z) h
 | str y=>obtain⟨t,q⟩:=(show ∃t,u=Value.str y t from d);cases q;exact Iw PySem.W.kitx_str I.Bn True.intro e (fun z=>nomatch z) h
 | K8 y=>obtain⟨t,q⟩:=(show ∃t,u=Value.float y t from d);cases q;exact Iw PySem.W.kitx_float I.Bn True.intro e (fun z=>nomatch z) h
 | @lst a xs ea=>
  cases(show u=Value.ref a from d);obtain⟨_,_,n,_,h1⟩:=(show C9 X.prog X.w H s.heap a (.lst xs) from I.AF a _ ea);exact Iw ZGb I.Bn ⟨_,h1,rfl⟩ e (fun z=>nomatch z) h
 | @FF a ob xs ea=>
  cases(show u=Value.ref a from d);obtain⟨_,_,_,n,_,h1⟩:=(show C9 X.prog X.w H s.heap a (.FF ob (.lst xs)) from I.AF a _ ea);exact Iw ZGb I.Bn ⟨_,h1,rfl⟩ e (fun z=>nomatch z) h
 | @tup a xs ea=>
  cases(show u=Value.ref a from d);obtain⟨_,_,_,p⟩:=(show C9 X.prog X.w H s.heap a (.tup xs) from I.AF a _ ea);obtain⟨o,h1,h2,_⟩:=p.1;exact Iw PySem.W.kitx_tuple I.Bn ⟨o,h1,h2⟩ e (fun z=>nomatch z) h
 | @dK a A6 ea=>
  cases(show u=Value.ref a from d);obtain⟨_,_,vs,_,p⟩:=(show C9 X.prog X.w H s.heap a (.dK A6) from I.AF a _ ea);obtain⟨o,es,j,h1,h2,_⟩:=p;exact Iw ZGa I.Bn ⟨o,h1,h2.1⟩ e (fun z=>nomatch z) h
 | @dT a A6 ea=>
  cases(show u=Value.ref a from d);obtain⟨_,_,xs,_,o,es,j,h1,h2,_⟩:=(show C9 X.prog X.w H s.heap a (.dT A6) from I.AF a _ ea);exact Iw ZGa I.Bn ⟨o,h1,h2.1⟩ e (fun z=>nomatch z) h
 | @ins a C dx fs ea cl g hn JK f=>
  cases(show u=Value.ref a from d);obtain⟨mA,O,_⟩:=TX I.AF ea;obtain⟨od,J,_⟩:=O.look;exact Iw (PySem.W.kitx_own (cl.get _) cl.hd g hn JK f) I.Bn J e (fun z=>nomatch z) h
end
structure Bf (k:Nat) (A:Around):Prop where
 hd:A.handled=none
 dp:A.depth+3 * k+5<recursionLimit
 un:A.units+16 * k+200<cLine
theorem Bf.mono {k:Nat}(r:Bf k A)(h:j<=k):Bf j A:=⟨r.hd,by have:=r.dp;omega,by have:=r.un;omega⟩
theorem Bf.deeper {k:Nat}(r:Bf (k+1) A)(env:Env):Bf k (A.deeper env):=
 ⟨r.hd,by have:=r.dp;show A.depth+1+3 * k+5<_;omega,by have:=r.un;show A.units+3+16 * k+200<_;omega⟩
theorem wI:(A.under (.builtin "type.__call__" ⟨.ref C::us,kw⟩)).depth=A.depth+1:=by
 first | rfl | simp[Around.under,Code.weight,Code.isCreation,Code.isGuard,Code.isCaller,Code.frames,Code.isFrame,guardIds]
theorem ZF7:(A.under (.builtin "type.__call__" ⟨.ref C::us,kw⟩)).units=A.units+1:=by
 first | rfl | simp[Around.under,Code.cUnits,Code.frames,Code.isFrame]
theorem Bf.make {k:Nat}(r:Bf (k+1) A)(C:Addr)(us:List Value)(kw:List (Str×Value)):Bf k (A.under (.builtin "type.__call__" ⟨.ref C::us,kw⟩)):=
 ⟨r.hd,by have:=r.dp;rw[wI];omega,by have:=r.un;rw[ZF7];omega⟩
theorem Bf.depth {k:Nat}(r:Bf k A):A.depth<recursionLimit:=by have:=r.dp;omega
theorem Bf.units {k:Nat}(r:Bf k A):A.units+64<cLine:=by have:=r.un;omega
theorem Bf.J4 {k:Nat}(r:Bf k A):A.units<cLine:=by have:=r.un;omega
def BM:TA:=fun _ H Q=>Q [] H
def Ag (ta:TE)(tr:TA):TA:=fun σ H Q=>ta σ H fun x H1=>tr σ H1 fun xs H2=>Q (x::xs) H2
section
variable {t:TA}
theorem LO:PA X [] BM:=fun _ _ _ _ H Q I h=>ae ⟨[],H,I,.nil,h⟩
theorem GB (i:PE X e te)(g:PA X es t)(f:starEach (e::es) X.env=(false,eval e X.env)::starEach es X.env:=by rfl):PA X (e::es) (Ag te t):=by
 intro pos pins s σ H Q I h;rw[f];show wpAny _ _ (spliced ((false,eval e X.env)::backTo pos (starEach es X.env))) _ _ s;refine mI (AR (i pins s σ H _ I h) fun u s1 Nw=>?_);obtain⟨x,H1,I1,b,d⟩:=Nw;exact AR (g pos pins s1 σ H1 _ I1 d) fun us s2 AK=>by obtain⟨xs,H2,I2,a,c⟩:=AK;exact⟨x::xs,H2,I2,.cons b a,c⟩
def aF (t:TA):TE:=fun σ H Q=>t σ H fun xs H1=>xs.length<=sizeLine/\∀p,H1 p=none->Q (.ref p) (upd H1 p (.tup xs))
def Ta (t:TA):TE:=fun σ H Q=>t σ H fun xs H1=>xs.length<=sizeLine/\∀p,H1 p=none->Q (.ref p) (upd H1 p (.lst xs))
theorem ZB6 {x1}(h:PA X es t):PE X (.Tuple es x1 pos) (aF t):=by
 intro pins s σ H Q I c;refine wpAny_Tuple_spliced (AR (h pos pins s σ H _ I c) fun us s1 ⟨xs,H1,I1,r,z,q⟩=>⟨by rw[<- r.length];exact z,?_⟩);have d:H1 s1.heap.objs.size=none:=I1.AF.fresh (Ax _);refine⟨.ref s1.heap.objs.size,upd H1 s1.heap.objs.size (.tup xs),I1.laid (t':=s1.toks) (fun b u e=>BN _ e) (Ax _) ?_,rfl,q _ d⟩;exact⟨z,us,r,⟨_,Bl _ rfl,rfl,_,rfl⟩,fun Rq a=>by rw[Bl _ rfl] at a;cases a;rfl⟩
theorem ra (h:PA X es t):PE X (.List es pos) (Ta t):=by
 intro pins s σ H Q I a;refine wpAny_List_spliced (AR (h pos pins s σ H _ I a) fun us s1 ⟨xs,H1,I1,r,z,q⟩=>⟨by rw[<- r.length];exact z,?_⟩);have c:H1 s1.heap.objs.size=none:=I1.AF.fresh (Ax _);refine⟨.ref s1.heap.objs.size,upd H1 s1.heap.objs.size (.lst xs),I1.laid (t':=s1.toks) (fun b u e=>BN _ e) (Ax _) ?_,rfl,q _ c⟩;exact⟨z,us,0,r,Bl _ rfl⟩
end
abbrev Sp:=List V->Hp->VK->XK->Prop
abbrev GJ:=List Env->Hp->Shared->XK->Value->Shared->Prop
variable {CX:GJ}
structure Lc (P:Program) (w:World) (K:ZHP) (mg:ZHR) (base:Heap) (A:Around) (outer:List Env) (s:Shared) (H:Hp):Prop where
 frames:A.frames=some outer
 mod:Mod K mg base
 bs:∀b o,base.get? b=some o->s.heap.get? b=some o/\H b=none
 Gy:base.objs.size<=s.heap.objs.size
 Er:s.heap.FunFrames base outer
 Hx:∀b∈Ca outer,H b=none
 AF:Bo P w H s.heap
 bare:AllBare s.gens
def CE (outer:List Env)(P:Program)(w:World)(H:Hp)(s:Shared)(Q:VK)(u:Value)(s':Shared):Prop:=
 ∃v H',s'.os=s.os/\AllBare s'.gens/\Un (Ca outer) [] H H' s.heap s'.heap/\Bo P w H' s'.heap/\RelV v u/\Q v H'
def CR (CX:GJ)(outer:List Env)(P:Program)(w:World)(H:Hp)(s:Shared)(Q:VK)(E:XK)(r:Result)(s':Shared):Prop:=
 match r with
 | .ok (.ret u)=>CE outer P w H s Q u s'
 | .ok _=>False
 | .error e=>CX outer H s E e s'
structure Cj (P:Program) (w:World) (K:ZHP) (mg:ZHR) (base:Heap) (CX:GJ) (k:Nat) (f:Addr) (fd:FuncData) (ps:List Str) (sp:Sp):Prop where
 len:∀vs H Q E,sp vs H Q E->vs.length=ps.length
 run:∀(A:Around) (outer:List Env) (s:Shared) (H:Hp) (args:Args) (us:List Value) (vs:List V) (Q:VK) (E:XK),Bf k A->Lc P w K mg base A outer s H->BindsTo s fd args (ps.zip us)->Vals vs us->sp vs H Q E->
  codeAny (model P w) A (.call (.ref f) args) (CR CX outer P w H s Q E) s
theorem Cj.mono {P:Program}{K:ZHP}{k:Nat}{f:Addr}{sp:Sp}(F:Cj P w K mg base CX j f fd ps sp)(h:j<=k):
  Cj P w K mg base CX k f fd ps sp:=⟨F.len,fun A outer s H args us vs Q E a=>F.run A outer s H args us vs Q E (a.mono h)⟩
theorem Lc.make {P:Program}{K:ZHP}(e:Lc P w K mg base A outer s H)(C:Addr)(us:List Value)(kw:List (Str×Value)):
  Lc P w K mg base (A.under (.builtin "type.__call__" ⟨.ref C::us,kw⟩)) outer s H:=⟨by first | exact e.frames | (simpa[Around.under,Code.envs,Code.isFrame,pushEnvs] using e.frames),e.mod,e.bs,e.Gy,e.Er,e.Hx,e.AF,e.bare⟩
theorem Inv.Rw (I:Inv X pins σ H s):Lc X.prog X.w X.K X.mg X.base X.A X.stack s H:=
 ⟨I.ok.frames,I.ok.mod,I.bs,Bi I.ok.Gy I.sz,I.stack,I.Qj,I.AF,I.bare⟩
theorem Inv.after {Q:VK}(I:Inv X pins σ H s)(h:CE X.stack X.prog X.w H s Q u s'):EP X pins σ Q u s':=by
 obtain⟨v,H',os,bare,un,AF,r,q⟩:=h;obtain⟨hh,g,d,t,OG⟩:=s';obtain rfl:OG=s.os:=os;exact⟨v,H',I.call (h':=hh) (g':=g) (d':=d) (t':=t) (ch:=[]) un AF bare (fun b z=>absurd z (by simp)),r,q⟩
def DK (sp:Sp)(Dj:List V)(E:XK)(t:TA):TE:=fun σ H Q=>t σ H fun vs H1=>sp (vs++Dj) H1 Q E
def Ml (C:Addr)(m:Str)(sp:Sp)(Dj:List V)(E:XK)(ta:TE)(t:TA):TE:=fun σ H Q=>ta σ H fun x H1=>∃a dx fs,x=.ref a/\H1 a=some (.ins C dx fs)/\fs.lookup m=none/\
 t σ H1 fun vs H2=>sp (x::(vs++Dj)) H2 Q E
def Vm (C:Addr)(sp:Sp)(Dj:List V)(E:XK)(t:TA):TE:=fun σ H Q=>t σ H fun vs H1=>∀x dx,H1 x=none->H1 dx=none->dx≠x->
 sp (.ref x::(vs++Dj)) (upd (upd H1 dx (.own x)) x (.ins C dx [])) (fun v H2=>v=.A8/\Q (.ref x) H2) E
def Binds (K:ZHP)(fd:FuncData)(ps:List Str)(ds:List Value):Prop:=
 ∀(s:Shared) (us:List Value),K.In s.heap->(us++ds).length=ps.length->BindsTo s fd ⟨us,[]⟩ (ps.zip (us++ds))
theorem Binds.all {K:ZHP}(h:∀us:List Value,us.length=ps.length->bindArgs fd ⟨us,[]⟩=pure (ps.zip us)):Binds K fd ps []:=fun s us _ a=>by
 rw[El] at a ⊢;exact .of_eq (h us a)
def Passes (CX:GJ)(X:Cx)(E:XK):Prop:=∀(pins:ZHQ) (σ:St) (H:Hp) (s:Shared) (e:Value) (s':Shared),Inv X pins σ H s->CX X.stack H s E e s'->X.xe e s'
section
variable {k:Nat}{f:Addr}{sp:Sp}{E:XK}{p apos:Pos}{o:Expr}{t:TA}
theorem fB {Q:VK}(F:Cj X.prog X.w X.K X.mg X.base CX k f fd ps sp)(c:Bf k X.A)(g:Binds X.K fd ps ds)(hd:Vals Dj ds)(hx:Passes CX X E)
  (I:Inv X pins σ H s) (r:Vals vs us) (h:sp (vs++Dj) H Q E):wpAny (model X.prog X.w) X.A (call (.ref f) us) (EP X pins σ Q) X.xe s:=by
 have b:Vals (vs++Dj) (us++ds):=r.append hd;have d:(us++ds).length=ps.length:=by rw[<- b.length];exact F.len _ _ _ _ h
 refine ZA1 (yU (F.run X.A X.stack s H ⟨us,[]⟩ (us++ds) (vs++Dj) Q E c I.Rw (g s us I.Bn d) b h) fun r s' a=>?_);cases r with
 | error e=>exact hx pins σ H s e s' I a
 | ok i=>
  cases i with
  | ret u=>exact I.after a
  | next=>exact False.elim a
  | brk=>exact False.elim a
  | cont=>exact False.elim a
theorem ZAV (F:Cj X.prog X.w X.K X.mg X.base CX k f fd ps sp)(a:Bf k X.A)(d:Gl X x)(b:X.mg x=some (.ref f))(c:PySem.W.keepIn X.K (.ref f)=true)(g:Binds X.K fd ps ds)(hd:Vals Dj ds)(hx:Passes CX X E)
  (i:PA X (e::es) t) (BQ:(x == ("__debug__":Str))=false:=by decide) (he:starEach (e::es) X.env=(false,eval e X.env)::starEach es X.env:=by rfl) (BY:(backTo pos (starEach es X.env)).any (·.1)=false:=by rfl) :
  PE X (.Call (.Name x p) (e::es) [] pos) (DK sp Dj E t):=by
 intro pins s σ H Q I h;refine rm (JL I d b ?_ BQ);refine U1 (h₀:=X.base) I.ok.mod.IY c (AR (i pos pins s σ H _ I h) fun us s1 ⟨vs,H1,I1,r,q⟩=>⟨I1.Bn,?_⟩) he BY;exact fB F a g hd hx I1 r q
theorem uk (j:PE X o ta)(c:CI X.K C)(b:Meth X.K C m f)(F:Cj X.prog X.w X.K X.mg X.base CX k f fd ps sp)(i:Bf k X.A)(n:Binds X.K fd ps ds)(hd:Vals Dj ds)(hx:Passes CX X E)(p:PA X (e::es) t)
  (BI:starEach (e::es) X.env=(false,eval e X.env)::starEach es X.env:=by rfl) (BY:(backTo pos (starEach es X.env)).any (·.1)=false:=by rfl)
  (ht:eval (.Call (.Attribute o m apos) (e::es) [] pos) X.env=(do
   let ov <- eval o X.env
   standAt apos.atName
   let (f,first) <- holding [ov] (getMethod ov m pl)
   callWith pos f first (backTo pos (starEach (e::es) X.env)) (backToKw pos (keywordEach [] X.env))):=by rfl) :
  PE X (.Call (.Attribute o m apos) (e::es) [] pos) (Ml C m sp Dj E ta t):=by
 intro pins s σ H Q I h;refine ZGd (pl:=pl) (AR (j pins s σ H _ I h) fun u s1 ⟨x,H1,I1,d,a,dx,fs,ex,ea,l,q⟩=>?_) ht;subst ex;obtain rfl:u=Value.ref a:=d;refine ZDr I1 ea c b l ?_;refine U1 (first:=[.ref a]) (h₀:=X.base) I.ok.mod.IY b.kp (AR (p pos pins s1 σ H1 _ I1 q) fun us s2 ⟨vs,H2,I2,r,g⟩=>⟨I2.Bn,?_⟩) BI BY
 exact fB (us:=.ref a::us) (vs:=.ref a::vs) F i n hd hx I2 (.cons rfl r) g
structure Mk (K:ZHP) (C f:Addr):Prop where
 makes:PySem.W.makesIn K C=true
 init:PySem.W.findIn K (.ref C) "__init__"=some (some (.ref f))
 fn:PySem.W.isFn K (.ref f)=true
 kp:PySem.W.keepIn K (.ref C)=true
theorem ZDx {Q:VK}(M:Mk X.K C f)(F:Cj X.prog X.w X.K X.mg X.base CX k f fd ps sp)(i:Bf (k+1) X.A)(l:Binds X.K fd ps ds)(hd:Vals Dj ds)
  (hx:Passes CX X E) (I:Inv X pins σ H s) (r:Vals vs us)
  (h:∀x dx,H x=none->H dx=none->dx≠x->sp (.ref x::(vs++Dj)) (upd (upd H dx (.own x)) x (.ins C dx [])) (fun v H2=>v=.A8/\Q (.ref x) H2) E) :
  wpAny (model X.prog X.w) X.A (call (.ref C) us) (EP X pins σ Q) X.xe s:=by
 have c:=h (s.heap.objs.size+1) s.heap.objs.size (I.AF.fresh (Dv _)) (I.AF.fresh (Ax _)) (Bm (bB _));have a:=Inv.made (C:=C) I;have b:Vals (V.ref (s.heap.objs.size+1)::(vs++Dj)) (Value.ref (s.heap.objs.size+1)::(us++ds)):=.cons rfl (r.append hd);have j:(Value.ref (s.heap.objs.size+1)::us++ds).length=ps.length:=by
  have e:=b.length;rw[F.len _ _ _ _ c] at e;exact e.symm
 refine ZA1 (pf (f:=f) I.Bn M.makes M.init (beq_iff_eq.mp M.fn) (yU (F.run _ X.stack _ _ ⟨Value.ref (s.heap.objs.size+1)::us,[]⟩ (Value.ref (s.heap.objs.size+1)::(us++ds)) _ _ E (i.make C us [])
  (a.Rw.make C us []) (l _ (Value.ref (s.heap.objs.size+1)::us) a.Bn j) b c) fun r s' Ja=>?_))
 cases r with
 | error e=>exact hx pins σ _ _ e s' a Ja
 | ok m=>
  cases m with
  | ret u=>
   obtain⟨v,H',I3,d,n,g⟩:=a.after Ja;subst n;exact⟨d,⟨V.ref (s.heap.objs.size+1),H',I3,rfl,g⟩⟩
  | next=>exact False.elim Ja
  | brk=>exact False.elim Ja
  | cont=>exact False.elim Ja
theorem vT (M:Mk X.K C f)(F:Cj X.prog X.w X.K X.mg X.base CX k f fd ps sp)(a:Bf (k+1) X.A)(c:Gl X x)(b:X.mg x=some (.ref C))(d:Binds X.K fd ps ds)(hd:Vals Dj ds)(hx:Passes CX X E)
  (g:PA X (e::es) t) (BQ:(x == ("__debug__":Str))=false:=by decide) (he:starEach (e::es) X.env=(false,eval e X.env)::starEach es X.env:=by rfl) (BY:(backTo pos (starEach es X.env)).any (·.1)=false:=by rfl) :
  PE X (.Call (.Name x p) (e::es) [] pos) (Vm C sp Dj E t):=by
 intro pins s σ H Q I h;refine rm (JL I c b ?_ BQ);refine U1 (h₀:=X.base) I.ok.mod.IY M.kp (AR (g pos pins s σ H _ I h) fun us s1 ⟨vs,H1,I1,r,q⟩=>⟨I1.Bn,?_⟩) he BY;exact ZDx M F a d hd hx I1 r q
variable {kws:List Keyword}{tk:TA}{nm:Option Str}{g:List Value->List Value->List Value}{gV:List V->List V->List V}
end
structure As (N P:List Str) (sc:Scope):Prop where
 kind:sc.kind=.function
 co:sc.isCoroutine=false
 gen:sc.isGenerator=false
 nd:N.Nodup
 pre:N.take P.length=P
 par:∀x∈P,sc.names.lookup x=some .local∨sc.names.lookup x=some .cell
 uf:∀y∈sc.names,y.2≠.free
theorem cv {a:Str->Option NameKind}{x:Str}:∀{binds:List (Str×Value)}{m:ZHR},(∀v,(x,v)∉binds)->bindL a binds m x=m x
 | [],_,_=>rfl
 | (n,v)::r,m,h=>by
  unfold bindL;rw[cv fun w hw=>h w (EG _ hw)];split
  ·have:x≠n:=by rintro rfl;exact h v Dg
   simp[this]
  ·rfl
theorem iG {a:Str->Option NameKind}{x:Str}:∀{binds:List (Str×Value)}{m:ZHR},(∀v,(x,v)∉binds)->bindC a binds m x=m x
 | [],_,_=>rfl
 | (n,v)::r,m,h=>by
  unfold bindC;rw[iG fun w hw=>h w (EG _ hw)];split
  ·rfl
  ·have:x≠n:=by rintro rfl;exact h v Dg
   simp[this]
theorem i3 {a:Str->Option NameKind}{x:Str}{v:Value}:∀{P:List Str}{vs:List Value}{i:Nat}{m:ZHR},P.Nodup->P[i]?=some x->vs[i]?=some v->a x=some .local->
  bindL a (P.zip vs) m x=some v
 | [],_,_,_,_,h,_,_=>by simp at h
 | _::_,[],_,_,_,_,h,_=>by simp at h
 | p::P,w::vs,0,m,nd,h1,h2,hk=>by
  simp at h1 h2;subst h1;subst h2;show bindL a ((p,w)::P.zip vs) m p=_;unfold bindL;rw[cv fun v b=>(List.nodup_cons.mp nd).1 (b7 b).1,pQ hk];simp
 | p::P,w::vs,i+1,m,nd,h1,h2,hk=>by
  show bindL a ((p,w)::P.zip vs) m x=_;unfold bindL;exact i3 (i:=i) (List.nodup_cons.mp nd).2 (by simpa using h1) (by simpa using h2) hk
theorem bw {a:Str->Option NameKind}{x:Str}{v:Value}:∀{P:List Str}{vs:List Value}{i:Nat}{m:ZHR},P.Nodup->P[i]?=some x->vs[i]?=some v->a x≠some .local->
  bindC a (P.zip vs) m x=some v
 | [],_,_,_,_,h,_,_=>by simp at h
 | _::_,[],_,_,_,_,h,_=>by simp at h
 | p::P,w::vs,0,m,nd,h1,h2,hk=>by
  simp at h1 h2;subst h1;subst h2;show bindC a ((p,w)::P.zip vs) m p=_;unfold bindC;rw[iG fun v b=>(List.nodup_cons.mp nd).1 (b7 b).1,o5 hk];simp
 | p::P,w::vs,i+1,m,nd,h1,h2,hk=>by
  show bindC a ((p,w)::P.zip vs) m x=_;unfold bindC;exact bw (i:=i) (List.nodup_cons.mp nd).2 (by simpa using h1) (by simpa using h2) hk
noncomputable def start (N:List Str)(vs:List V):St:=vs.map some++List.replicate (N.length - vs.length) none
noncomputable def EI (CX:GJ)(P:Program)(w:World)(K:ZHP)(mg:ZHR)(base:Heap)(N:List Str)(qual:Str)(scope:Scope)(f:Addr)(cd:Value)(A:Around)(outer:List Env)(s:Shared)(H:Hp)(E:XK):Cx where
 prog:=P
 w:=w
 K:=K
 mg:=mg
 base:=base
 A:=A.deeper (envOfC qual scope s.heap.objs.size f cd)
 N:=N
 s₀:=s
 H₀:=H
 env:=envOfC qual scope s.heap.objs.size f cd
 outer:=outer
 stack:=envOfC qual scope s.heap.objs.size f cd::outer
 ex:=[]
 calm:=true
 fn:=fun _=>true
 pn:=[]
 xe:=fun e s'=>wpAny (model P w) (A.deeper (envOfC qual scope s.heap.objs.size f cd)) (leaving (envOfC qual scope s.heap.objs.size f cd) e) (fun _ OW=>CX outer H s E e OW) (fun a OW=>CX outer H s E a OW) s'
theorem ke (h:sc.names.lookup x=some .cell):∃c,(cellsFrom n sc.names []).lookup x=some c:=by
 have q:=ZGY sc.names n [] (.inl h);exact Option.isSome_iff_exists.mp q
theorem xN {P:Program}{K:ZHP}{f:Addr}{s1:Shared}{E:XK}
  (S:As N ps scope) (hd:A.handled=none) (e0:Lc P w K mg base A outer s H) (C:vs.length=ps.length) (r:Vals vs us)
  (x:InCallC s s.heap.objs.size (bindL (envOfC qual scope s.heap.objs.size f cd).kindOf (ps.zip us) fun _=>none) (cellsFrom (s.heap.objs.size+1) scope.names []) (bindC (envOfC qual scope s.heap.objs.size f cd).kindOf (ps.zip us) fun _=>none) s1) :
  Inv (EI CX P w K mg base N qual scope f cd A outer s H E) [] (start N vs) H s1:=by
 have F:ps.length<=N.length:=by have:=rA List.length S.pre;rw[Cn] at this;omega
 obtain⟨h1,tk,rfl,m⟩:=x.done;have j:∀b:Addr,b∉(EI CX P w K mg base N qual scope f cd A outer s H E).ex:=fun b z=>absurd (show b∈([]:List Addr) from z) (by simp);refine⟨⟨e0.mod,S.kind,rfl,rfl,Ax _,fun y z c h1 h2=>?_,fun y d=>?_,fun y c _ h=>?_,fun _=>hd,Around.frames_deeper e0.frames,.inr ⟨rfl,rfl⟩,fun b z=>absurd z (j b),e0.bs,e0.Gy,fun b _ _=>j b,fun b z=>absurd z (j b),e0.Er,e0.Hx⟩,
  rfl,e0.bare,Un.kept m,⟨_,x.toInCall.ns,fun i y v h1 h2 D=>?_⟩,fun y c h=>⟨_,x.cell y c h⟩,e0.AF.fresh (Ax _),fun y c h=>?_,fun p g=>absurd (show p∈([]:ZHQ) from g) (by simp),e0.AF.kept m,?_⟩
 ·exact name_of_addr x.apart (MB h1) (MB h2)
 ·have d:scope.names.lookup y=some .cell∨scope.names.lookup y=some .free:=d;rcases d with d | d
  ·exact ke d
  ·exact absurd rfl (S.uf _ (MB d))
 ·exact Tx (x.above y c (MB h))
 ·have hi:i<vs.length:=by
   unfold start at h2
   by_cases hi:i<vs.length
   ·exact hi
   ·rw[Kk (by simpa using hi)] at h2
    rw[mU] at h2;split at h2 <;> cases h2
  have B:vs[i]?=some v:=by
   unfold start at h2;rw[Hq (by simpa using hi),BU] at h2
   cases e:vs[i]? with
   | none=>rw[e] at h2;cases h2
   | some a=>rw[e] at h2;cases h2;rfl
  obtain⟨u,l,t⟩:=r.get B;have g:ps[i]?=some y:=by
   rw[<- S.pre,List.getElem?_take_of_lt (by omega)];exact h1
  have o:ps.Nodup:=by rw[<- S.pre];exact S.nd.sublist (List.take_sublist _ _)
  refine⟨u,t,?_⟩;rcases S.par y (Dh g) with k | k
  ·exact .inl ⟨k,i3 o g l k⟩
  ·obtain⟨c,e⟩:=ke (n:=s.heap.objs.size+1) k;refine .inr ⟨.inl k,c,e,?_⟩;have q:=x.cell y c e;rw[bw o g l (by show scope.names.lookup y≠_;rw[k];decide)] at q;exact q
 ·exact e0.AF.fresh (Tx (x.above y c (MB h)))
 ·unfold start;show _=N.length;rw[CM,AQ,ZGF];omega
theorem jd {P:Program}{K:ZHP}{k:Nat}{f:Addr}{a:Arguments}{body:List Stmt}{p kV g m AY ct C:Value}{z od:Option Addr}
  {J8:Array (Option Value)}{sp:Sp}(D:K.lookup f=some ⟨C,od,.func (PySem.W.fnOf name qual a body scope p kV g m z AY ct),J8⟩) (Ez:PySem.W.codeIn K AY qual=true) (S:As N ps scope)
  (len:∀vs H Q E,sp vs H Q E->vs.length=ps.length)
  (Lh:∀(A:Around) (outer:List Env) (s:Shared) (H:Hp) (vs:List V) (Q:VK) (E:XK),Bf k (A.deeper (envOfC qual scope s.heap.objs.size f AY))->sp vs H Q E->
   ∃t,DJ (EI CX P w K mg base N qual scope f AY A outer s H E) body t/\t { nx:=fun _ H'=>Q .A8 H',rt:=Q } (start N vs) H) :
  Cj P w K mg base CX (k+1) f (PySem.W.fnOf name qual a body scope p kV g m z AY ct) ps sp:=by
 refine⟨len,fun A outer s H args us vs Q E j e0 R r Et=>?_⟩;have M:=len _ _ _ _ Et;have B:K.In s.heap:=e0.mod.IY.keeps fun b o e=>(e0.bs b o e).1;have i:s.heap.NoLimit:=e0.mod.nolimit.keeps fun b o e=>(e0.bs b o e).1;have l:∀y∈ps.zip us,scope.names.lookup y.1=some .local∨(scope.names.lookup y.1=some .cell/\((cellsFrom (s.heap.objs.size+1) scope.names []).lookup y.1).isSome=true):=fun⟨n,v⟩ F=>by
  rcases S.par n (b7 F).1 with q | q
  ·exact .inl q
  ·exact .inr ⟨q,ZGY _ _ _ (.inl q)⟩
 refine codeAny_call_function j.depth (B _ _ D) rfl S.co S.gen rfl (PySem.W.codeRec_of B Ez) (R _ _ _ _ ?_);refine wpAny_newFunctionEnv_cells S.kind l fun env O s1 x=>?_;subst O;refine⟨i.keeps x.toInCall.keep,codeAny_func ?_⟩;obtain⟨t,G,L⟩:=Lh A outer s H vs Q E (j.deeper _) Et;have I:Inv (EI CX P w K mg base N qual scope f AY A outer s H E) [] (start N vs) H s1:=xN S j.hd e0 M r x;refine qG (G [] s1 (start N vs) H _ I L) (fun T s' c=>?_) fun e s' c=>c;have d:∀{σ':St} {H':Hp}{v:V}{u:Value},Inv (EI CX P w K mg base N qual scope f AY A outer s H E) [] σ' H' s'->RelV v u->Q v H'->CE outer P w H s Q u s':=
  fun {σ' H' v u} J h q=>⟨v,H',J.os,J.bare,J.base,J.AF,h,q⟩
 cases T with
 | ret u=>
  obtain⟨v,σ',H',J,h,q⟩:=c;exact d J h q
 | next=>
  obtain⟨σ',H',J,q⟩:=c;exact d (v:=V.A8) (u:=Value.none) J rfl q
 | brk=>
  obtain⟨_,_,_,q⟩:=c;exact False.elim q
 | cont=>
  obtain⟨_,_,_,q⟩:=c;exact False.elim q
section
variable {p:Pos}{t:TA}{id T:String}{r:List V->Hp->VK->Prop}
def Dm (r:List V->Hp->VK->Prop)(t:TA):TE:=fun σ H Q=>t σ H fun vs H1=>r vs H1 Q
end
end L2
namespace HT
variable {E Q:Value->Shared->Prop}{sl t:Addr}{v vl vu:Value}{hi o:Option Int}
section
open PySem.SeqAt
open PySem.AutoSeq1 (wpAny_loadPart')
open PySem.MeetsSeq PySem.MeetsSeq2 PySem.MeetsSeq3
end
section
variable {prog:Program}{w:World}{A:Around}{s:Shared}
theorem zt {b:Addr}{vs ws:List Value}(g:IsTup s.heap t vs.toArray)(h:IsTup s.heap b ws.toArray)(d:vs≠[])
  (h1:ws=[]->Q (.ref t) s) (h2:ws≠[]->Q (.ref s.heap.objs.size) { s with heap:=s.heap.push { cls:=.type "tuple", data:=.seq (vs++ws).toArray } })
  (hsz:vs.length+ws.length<=sizeLine):wpAny (model prog w) A (binaryOp .Add (.ref t) (.ref b)) Q E s:=by
 obtain⟨⟨cls,dd,data,sl⟩,ho,f,n,hd⟩:=id g;obtain⟨⟨ZFl,Sy,c,Io⟩,Dt,Ln,n2,a⟩:=id h;simp only at f hd Ln a;subst f hd Ln a;have e:vs.toArray++ws.toArray=(vs++ws).toArray:=by simp
 by_cases hw:ws=[]
 ·exact concat_meets ⟨_,ho,rfl⟩ ⟨_,Dt,rfl⟩ ZAc seq_tuple_add my mr (mq _ _)
   (tuple_addW1 t b vs.toArray ws.toArray n n2 dd Sy sl Io (by simpa using d) (by simp[hw])) ⟨ho,Dt,h1 hw⟩
 ·refine concat_meets ⟨_,ho,rfl⟩ ⟨_,Dt,rfl⟩ ZAc seq_tuple_add my mr (mq _ _)
   (tuple_addW2 t b vs.toArray ws.toArray n n2 dd Sy sl Io (by simpa using d) (by simpa using hw) (by rw[Bu,Bu];exact hsz)) ⟨ho,Dt,?_⟩
  rw[e];exact h2 hw
noncomputable def Aq (n d:Nat):Option Int->Nat
 | none=>d
 | some v=>if v<0 then(v+(n:Int)).toNat else min v.toNat n
theorem R1 (n d:Nat):Aq n d none=d:=rfl
theorem Ji (n d k:Nat):Aq n d (some (k:Int))=min k n:=by
 show(if(k:Int)<0 then((k:Int)+(n:Int)).toNat else min (k:Int).toNat n)=min k n
 rw[o5 (by omega),Ki]
theorem ZDc (n d:Nat)(hd:d<=n)(o:Option Int):Aq n d o<=n:=by
 cases o with
 | none=>exact hd
 | some v=>
  show(if v<0 then(v+(n:Int)).toNat else min v.toNat n)<=n
  by_cases a:v<0
  ·rw[pQ a];omega
  ·rw[o5 a];exact ZGK _ _
theorem gF (v:Int)(n d:Nat):(if v<0 then max (v+(n:Int)) 0 else min v (n:Int))=((Aq n d (some v):Nat):Int):=by
 show(if v<0 then max (v+(n:Int)) 0 else min v (n:Int))=(((if v<0 then(v+(n:Int)).toNat else min v.toNat n):Nat):Int)
 by_cases a:v<0
 ·simp only[pQ a];omega
 ·simp only[o5 a];omega
theorem ZEF (lo hi:Option Int)(n:Nat):Builtin.Slice.sliceAdjust lo hi 1 (n:Int)=(((Aq n 0 lo:Nat):Int),((Aq n n hi:Nat):Int)):=by
 have h1:¬ ((1:Int)<0):=by omega
 unfold Builtin.Slice.sliceAdjust;simp only[h1,ZBM];refine Prod.ext ?_ ?_
 ·cases lo with
  | none=>rfl
  | some v=>exact gF v n 0
 ·cases hi with
  | none=>rfl
  | some v=>exact gF v n n
theorem ZBZ (i j:Nat):Builtin.Slice.slicePlaces (i:Int) (j:Int) 1=j - i:=by
 unfold Builtin.Slice.slicePlaces;have h1:(1:Int) > 0:=by omega
 simp only[h1,ZAp,Int.ediv_one];split <;> omega
theorem eB {Q:Option Int->Shared->Prop}(p:IsPart v o)(h:Q o s):wpAny (model prog w) A (Builtin.Slice.slicePartIndex v) Q E s:=by
 cases p with
 | none=>exact slicePart_none h
 | int i t=>exact slicePart_int h
theorem cH {lo:Option Int}{n:Nat}{Q:Int×Int×Nat->Shared->Prop}(b:s.heap.IsSliceOf sl vl vu .none)(pl:IsPart vl lo)(a:IsPart vu hi)
  (h:Q (((Aq n 0 lo:Nat):Int),1,Aq n n hi - Aq n 0 lo) s):wpAny (model prog w) A (Builtin.Slice.sliceApplied (.ref sl) (pure (n:Int))) Q E s:=by
 obtain⟨os,La,Sq,O4⟩:=id b;unfold Builtin.Slice.sliceApplied Builtin.Slice.sliceFields;refine nc (nc (r6 La O4 (x:=vl) rfl (nc (r6 La O4 (x:=vu) rfl (nc (r6 La O4 (x:=.none) rfl (oR ?_)))))));refine nc (slicePart_none ?_);show wpAny _ _ (if((1:Int) == 0)=true then _ else _) _ _ s
 rw[o5 (by decide)];refine nc (eB pl (nc (eB a (nc (oR ?_)))));show wpAny _ _ (match Builtin.Slice.sliceAdjust lo hi 1 (n:Int) with | (lo,hi)=>pure (lo,(1:Int),Builtin.Slice.slicePlaces lo hi 1)) _ _ s
 rw[ZEF lo hi n];show wpAny _ _ (pure (((Aq n 0 lo:Nat):Int),(1:Int),Builtin.Slice.slicePlaces ((Aq n 0 lo:Nat):Int) ((Aq n n hi:Nat):Int) 1)) _ _ s;rw[ZBZ];exact oR h
theorem yX (xs:Array Value)(i k:Nat):((List.range k).filterMap fun(m:Nat)=>xs[((i:Int)+(m:Int) * 1).toNat]?).toArray=((xs.toList.drop i).take k).toArray:=by
 have e:(fun(m:Nat)=>xs[((i:Int)+(m:Int) * 1).toNat]?)=fun m=>xs[i+m]?:=by
  funext m
  have:((i:Int)+(m:Int) * 1).toNat=i+m:=by omega
  rw[this]
 rw[e];have:=pick_run xs i k;rw[List.filterMap_map] at this;have a:((fun x=>xs[x]?) ∘ fun x=>i+x)=fun m=>xs[i+m]?:=rfl;rw[a] at this;rw[this]
theorem ZCh {items:Array Value}{lo:Option Int}(a:IsTup s.heap t items)(c:s.heap.IsSliceOf sl vl vu .none)(pl:IsPart vl lo)(d:IsPart vu hi)
  (hw:¬ (Aq items.size 0 lo=0/\Aq items.size items.size hi=items.size))
  (h:Q (.ref s.heap.objs.size) { s with heap:=s.heap.push { cls:=.type "tuple", data:=.seq ((items.toList.drop (Aq items.size 0 lo)).take (Aq items.size items.size hi - Aq items.size 0 lo)).toArray } })
  (hsz:items.size<=sizeLine):wpAny (model prog w) A (getItem (.ref t) (.ref sl)) Q E s:=by
 have b:sizeOk (.seq ((items.toList.drop (Aq items.size 0 lo)).take (Aq items.size items.size hi - Aq items.size 0 lo)).toArray):=by
  show((items.toList.drop (Aq items.size 0 lo)).take (Aq items.size items.size hi - Aq items.size 0 lo)).toArray.size<=sizeLine;rw[Bu,Cn,Em,Nh];omega
 have j:Aq items.size items.size hi<=items.size:=ZDc _ _ (Ax _) hi;obtain⟨os,La,Sq,O4⟩:=id c;have e:s.TypeIs (.ref sl) "slice" := ⟨os,La,Sq⟩;unfold getItem
 try with_reducible refine sR ?_
 first | refine nc (oR ?_) | skip
 refine nc (wpAny_sequenceKey a.typeIs (by decide) ?_);refine nc (rL (name:=Str.ofString "__getitem__") a.typeIs bI
  (tq bI a.typeIs entry_tuple_getitem ?_ (args_tuple_getitem _ _)))
 show wpAny _ _ (Builtin.Tuple.tupleItemsOf (.ref t) >>= _) _ _ s;refine nc (tupleItemsOf_ a ?_);refine nc (vM e ?_);rw[pQ (by decide)];refine nc (cH c pl d ?_);have f:¬ ((((Aq items.size 0 lo:Nat):Int) == 0 && (1:Int) == 1 && (Aq items.size items.size hi - Aq items.size 0 lo) == items.size)=true):=by
  intro q;rw[Df,Df] at q;have i:((Aq items.size 0 lo:Nat):Int)=0:=eq_of_beq q.1.1;have g:Aq items.size items.size hi - Aq items.size 0 lo=items.size:=eq_of_beq q.2;exact hw ⟨by omega,by omega⟩
 show wpAny _ _ (if(((Aq items.size 0 lo:Nat):Int) == 0 && (1:Int) == 1 && (Aq items.size items.size hi - Aq items.size 0 lo) == items.size)=true then _ else _) _ _ s
 rw[o5 f,yX]
 first
  | exact nc (m:=Builtin.Tuple.tupleExact _) (qz (oR ⟨_,rfl,oR h⟩) b)
  | exact nc (m:=Builtin.Tuple.tupleExact _) (qz (nc (oR (oR ⟨_,rfl,oR h⟩))) b)
  | exact nc (nc (m:=Builtin.Tuple.tupleExact _) (qz (oR (oR ⟨_,rfl,oR h⟩)) b))
  | exact nc (nc (m:=Builtin.Tuple.tupleExact _) (qz (oR ⟨_,rfl,oR h⟩) b))
end
end HT
namespace L2
variable {X:Cx}{pos:Pos}{xs ys:List V}{A3 its' us:List Value}{α:Type}{j n t':Nat}{i:Int}{pins:ZHQ}{σ:St}{H:Hp}{s:Shared}{A:Around}{x y:V}{u v:Value}{T:String}
abbrev TO:=St->Hp->(Option Int->Hp->Prop)->Prop
def PO (X:Cx)(e:Option Expr)(t:TO):Prop:=
 ∀(pins:ZHQ) (s:Shared) (σ:St) (H:Hp) (Q:Option Int->Hp->Prop),Inv X pins σ H s->t σ H Q->
  wpAny (model X.prog X.w) X.A (evalPart e X.env) (fun u s'=>∃o H',Inv X pins σ H' s'/\IsPart u o/\Q o H') X.xe s
def Xn:TO:=fun _ H Q=>Q none H
def Uw (t:TE):TO:=fun σ H Q=>t σ H fun x H1=>∃i,x=.int i/\Q (some i) H1
section
variable {e:Expr}{te:TE}{lo hi:Option Expr}{tl th:TO}{p2:Pos}
def LB (X:Cx)(r:V->Option Int->Option Int->Hp->VK->Prop):Prop:=
 ∀(pins:ZHQ) (s:Shared) (σ:St) (H:Hp) (x:V) (v vl vu:Value) (lo hi:Option Int) (sl:Addr) (Q:VK),Inv X pins σ H s->RelV x v->s.heap.IsSliceOf sl vl vu .none->IsPart vl lo->IsPart vu hi->r x lo hi H Q->
  ∃T id,typeLookup (.type T) "__getitem__"=pure (some (.builtin id))/\s.TypeIs v T/\wpAny (model X.prog X.w) X.A (getItem v (.ref sl)) (EP X pins σ Q) X.xe s
def Pn (r:V->Option Int->Option Int->Hp->VK->Prop)(te:TE)(tl th:TO):TE:=fun σ H Q=>te σ H fun x H1=>tl σ H1 fun l H2=>th σ H2 fun u H3=>r x l u H3 Q
noncomputable def Cr (xs:List V)(lo hi:Option Int):List V:=(xs.drop (HT.Aq xs.length 0 lo)).take (HT.Aq xs.length xs.length hi - HT.Aq xs.length 0 lo)
theorem di (xs:List V)(lo hi:Option Int):(Cr xs lo hi).length<=xs.length:=by
 unfold Cr;rw[Cn,Em];omega
def ZAX (K:ZHP):V->Option Int->Option Int->Hp->VK->Prop:=fun x lo hi H Q=>∃a xs,x=.ref a/\AU K H a xs/\
 ¬ (HT.Aq xs.length 0 lo=0/\HT.Aq xs.length xs.length hi=xs.length)/\∀p,H p=none->Q (.ref p) (upd H p (.tup (Cr xs lo hi)))
theorem hZ:LB X (ZAX X.K):=by
 intro pins s σ H x v vl vu lo hi sl Q I g j pl i h;obtain⟨a,xs,rfl,hx,hw,q⟩:=h;cases g;obtain⟨A3,r,e,d⟩:=I.tuple hx;have c:A3.toArray.size=xs.length:=by rw[Bu];exact r.length.symm
 refine⟨"tuple", _,PyProof.Rows.slot_tuple_getitem.lookup,e.typeIs,?_⟩;refine HT.ZCh e j pl i (by rw[c];exact hw) ?_ (by rw[c];exact d);rw[c];refine⟨.ref s.heap.objs.size,_,I.laid (t':=s.toks) (o:=.tup (Cr xs lo hi)) (fun b ob q=>BN _ q) (Ax _) ?_,rfl,q _ (I.AF.fresh (Ax _))⟩;exact⟨Bi (di xs lo hi) d,_,(r.drop (HT.Aq xs.length 0 lo)).take (HT.Aq xs.length xs.length hi - HT.Aq xs.length 0 lo),⟨IsTup.new _ _,fun Rq f=>by rw[Bl _ rfl] at f;cases f;rfl⟩⟩
def fj (K:ZHP):R2:=fun x y H Q=>∃a b xs ys,x=.ref a/\y=.ref b/\AU K H a xs/\AU K H b ys/\xs≠[]/\xs.length+ys.length<=sizeLine/\
 (ys=[]->Q (.ref a) H)/\(ys≠[]->∀p,H p=none->Q (.ref p) (upd H p (.tup (xs++ys))))
theorem Vals.T7 (r:Vals xs us):us=[]↔xs=[]:=by
 cases r with
 | nil=>simp
 | cons _ _=>simp
theorem jn:BW X (binaryOp .Add) (fj X.K):=by
 intro pins s σ H x y v u Q I i g h;obtain⟨a,b,xs,ys,rfl,rfl,m,l,hx,e,k,j⟩:=h;cases i;cases g;obtain⟨A3,d,p1,_⟩:=I.tuple m;obtain⟨Bq,c,p2,_⟩:=I.tuple l;refine HT.zt p1 p2 (fun z=>hx (d.T7.mp z)) (fun z=>⟨.ref a,H,I,rfl,k (c.T7.mp z)⟩) (fun z=>?_) (by rw[<- d.length,<- c.length];exact e);refine⟨.ref s.heap.objs.size,_,I.laid (t':=s.toks) (o:=.tup (xs++ys)) (fun b ob q=>BN _ q) (Ax _) ?_,rfl,j (fun w=>z (c.T7.mpr w)) _ (I.AF.fresh (Ax _))⟩;exact⟨by rw[CM];exact e,_,d.append c,⟨IsTup.new _ _,fun Rq f=>by rw[Bl _ rfl] at f;cases f;rfl⟩⟩
end
noncomputable def Fl (n:Nat)(i:Int):Option Nat:=if 0<=i then(if i<n then some i.toNat else none) else if -(n:Int)<=i then some (i+n).toNat else none
noncomputable def Bs (xs:List α)(i:Int):Option α:=(Fl xs.length i).bind fun j=>xs[j]?
theorem YM (h:Fl n i=some j):seqIndex? i n=some j/\j<n/\-(n:Int)<=i/\i<n:=by
 unfold Fl at h
 by_cases a:0<=i
 ·rw[pQ a] at h
  by_cases h1:i<n
  ·rw[pQ h1] at h;have e:i.toNat=j:=Bj h;exact⟨by rw[seqIndex_of a h1,e],by omega,by omega,h1⟩
  ·rw[o5 h1] at h;cases h
 ·rw[o5 a] at h
  by_cases h1:-(n:Int)<=i
  ·rw[pQ h1] at h;have e:(i+n).toNat=j:=Bj h;exact⟨by rw[seqIndex_neg (by omega) h1,e],by omega,h1,by omega⟩
  ·rw[o5 h1] at h;cases h
theorem UP {xs:List α}{v:α}(h:Bs xs i=some v):∃j,seqIndex? i xs.length=some j/\xs[j]?=some v/\j<xs.length/\-(xs.length:Int)<=i/\i<xs.length:=by
 unfold Bs at h;cases e:Fl xs.length i with
 | none=>rw[e] at h;cases h
 | some j=>
  rw[e] at h;obtain⟨h1,h2,b,a⟩:=YM e;exact⟨j,h1,h,h2,b,a⟩
theorem Ie {xs:List α}{v:α}(h:xs[j]?=some v):Bs xs (j:Int)=some v:=by
 have a:j<xs.length:=(List.getElem?_eq_some_iff.mp h).1;have e:Fl xs.length (j:Int)=some j:=by
  unfold Fl;rw[pQ (by omega),pQ (by omega)];simp
 unfold Bs;rw[e];exact h
def aW (b:Expr):Prop:=∀o i,subscripted b false o i=operate [o,i] (getItem o i)
def IK (X:Cx)(r:R2):Prop:=
 ∀(value a:Expr) (pins:ZHQ) (s:Shared) (σ:St) (H:Hp) (x y:V) (v u:Value) (Q:VK),Inv X pins σ H s->RelV x v->RelV y u->r x y H Q->
  subscripted a false v u=operate [v,u] (getItem v u)->wpAny (model X.prog X.w) X.A (subscriptTail value a v u) (EP X pins σ Q) X.xe s
def LW (X:Cx)(id:String)(r:V->List V->Hp->VK->Prop):Prop:=
 ∀(pins:ZHQ) (s:Shared) (σ:St) (H:Hp) (x:V) (xs:List V) (v:Value) (us:List Value) (Q:VK),Inv X pins σ H s->RelV x v->Vals xs us->r x xs H Q->
  wpAny (model X.prog X.w) X.A (call (.builtin id) (v::us)) (EP X pins σ Q) X.xe s
section
variable {a b:Expr}{ta tb:TE}
def TR (K:ZHP):R2:=fun x y H Q=>∃p xs i v,x=.ref p/\y=.int i/\AN K H p xs/\Bs xs i=some v/\Q v H
def NC (K:ZHP):R2:=fun x y H Q=>∃p xs i v,x=.ref p/\y=.int i/\AU K H p xs/\Bs xs i=some v/\Q v H
def vm:R2:=fun x y H Q=>∃z i c,x=.str z/\y=.int i/\z.length<=sizeLine/\Bs z.cps.toList i=some c/\Q (.str ⟨#[c]⟩) H
theorem D1:IK X (TR X.K):=by
 intro value b pins s σ H x y v u Q I k g h d;obtain⟨p,xs,i,z,rfl,rfl,l,n,q⟩:=h;cases k;obtain⟨t,rfl⟩:=g;obtain⟨A3,r,pl,B⟩:=I.list l;obtain⟨j,h1,h2,C,A,o⟩:=UP n;obtain⟨w,f,Eo⟩:=r.get h2;have m:=r.length;have hn:=Ic;have a:EP X pins σ Q w s:=⟨z,H,I,Eo,q⟩
 by_cases e:0<=i
 ·have c:i.toNat=j:=by
   rw[seqIndex_of e o] at h1;exact Bj h1
  exact item_listR pl.isList e (by omega) (by rw[c];simpa using f) a d
 ·have c:(i+(A3.toArray.size:Int)).toNat=j:=by
   rw[seqIndex_neg (by omega) A] at h1;rw[Bu,<- m];exact Bj h1
  exact subscriptTail_builtinR (x:=w) pl.isList.typeIs slot_list_getitem.lookup
   (wpAny_getItem_list_neg (Q:=fun r s'=>r=w/\EP X pins σ Q r s') pl.isList (by omega) (by rw[Bu] <;> omega) (by omega) (by rw[c];simpa using f) ⟨rfl,a⟩) d
theorem AL:IK X (NC X.K):=by
 intro value a pins s σ H x y v u Q I d c h e;obtain⟨p,xs,i,z,rfl,rfl,f,k,q⟩:=h;cases d;obtain⟨t,rfl⟩:=c;obtain⟨A3,r,pl,m⟩:=I.tuple f;obtain⟨j,h1,h2,A,o,n⟩:=UP k;obtain⟨w,l,Eo⟩:=r.get h2;have g:=r.length;have hn:=Ic;have b:EP X pins σ Q w s:=⟨z,H,I,Eo,q⟩;exact subscriptTail_builtinR (x:=w) pl.typeIs slot_tuple_getitem.lookup
  (getItem_tuple (j:=j) (Q:=fun r s'=>r=w/\EP X pins σ Q r s') pl (by omega) (by omega) (by rw[Bu,<- g];exact h1) (by simpa using l) ⟨rfl,b⟩) e
theorem ZDU:IK X vm:=by
 intro value a pins s σ H x y v u Q I d b h e;obtain⟨z,i,c,rfl,rfl,o,g,q⟩:=h;obtain⟨t,rfl⟩:=d;obtain⟨t',rfl⟩:=b;obtain⟨j,h1,h2,p,l,k⟩:=UP g;have f:z.cps.toList.length=z.length:=by simp[Str.length]
 rw[f] at h1 l k;have hn:=Ic;exact tail_any (typeIs_str s z t) slot_str_getitem.lookup (getItem_str (c:=c) (by
  have n:decide (i < -(2 ^ 63:Int))=false:=q8 (by omega);have m:decide (i>=2 ^ 63)=false:=q8 (by omega);rw[n,m,Bool.or_false]) (by rw[h1];simpa using h2) ⟨.str ⟨#[c]⟩,H,I.tok _,⟨_,rfl⟩,q⟩) e
theorem oP (A3:List Value)(n j:Nat)(u:Value):Obj.mapSeq (·.setIfInBounds j u) { cls:=.type "list", data:=.seq A3.toArray n }={ cls:=.type "list", data:=.seq (A3.set j u).toArray n }:=by
 simp[Obj.mapSeq]
theorem Inv.lst {pins:ZHQ}{σ:St}{H:Hp}{s:Shared}{p:Addr}{xs:List V}(I:Inv X pins σ H s)(h:H p=some (.lst xs)):
  ∃(A3:List Value) (n:Nat),Vals xs A3/\s.heap.get? p=some { cls:=.type "list", data:=.seq A3.toArray n }/\xs.length<=sizeLine:=by
 obtain⟨z,A3,n,r,e⟩:=I.AF p _ h;exact⟨A3,n,r,e,z⟩
theorem Inv.ZEG {p:Addr}{a:Nat}{f:Obj->Obj}(I:Inv X pins σ H s)(h:H p=some (.lst xs))
  (ho:s.heap.get? p=some { cls:=.type "list", data:=.seq A3.toArray n }) (hf:f { cls:=.type "list", data:=.seq A3.toArray n }={ cls:=.type "list", data:=.seq its'.toArray a }) (r:Vals ys its') (hz:ys.length<=sizeLine) (t:Nat) :
  Inv X pins σ (upd H p (.lst ys)) { s with heap:=s.heap.update p f,toks:=t }:=by
 have e:(s.heap.update p f).get? p=some { cls:=.type "list", data:=.seq its'.toArray a }:=by
  rw[ED f ho (by rw[hf] <;> rfl),hf]
 refine I.write (x:=p) (e:=p) (by rw[h];trivial) (.inl rfl) (fun b u c q=>(D8 _ _ (B9 c)).trans q) ⟨_,e⟩ ?_;exact⟨hz,its',a,r,e⟩
def XH:V->V->V->Hp->(Hp->Prop)->Prop:=fun o i v H Q=>∃p xs k j,o=.ref p/\i=.int k/\H p=some (.lst xs)/\Fl xs.length k=some j/\Q (upd H p (.lst (xs.set j v)))
theorem set_list:ZA X XH:=by
 intro pins s σ H o i v z A u Q I m w l h;obtain⟨p,xs,k,j,rfl,rfl,c,y,q⟩:=h;cases m;obtain⟨t,rfl⟩:=w;obtain⟨A3,n,r,ho,x⟩:=I.lst c;obtain⟨h1,h2,e,d⟩:=YM y;have a:=r.length;have hn:=Ic;have g:Inv X pins σ (upd H p (.lst (xs.set j v))) { s with heap:=s.heap.update p (Obj.mapSeq (·.setIfInBounds j u)) }:=
  I.ZEG c ho (oP A3 n j u) (r.set l j) (by rw[GX];exact x) s.toks
 by_cases f:0<=k
 ·have b:k.toNat=j:=by
   rw[seqIndex_of f d] at h1;exact Bj h1
  exact PySem.W.ki_setAt ho f (by omega) (by rw[Bu,<- a];exact d) (by rw[b];exact⟨_,g,q⟩)
 ·have b:(k+(A3.toArray.size:Int)).toNat=j:=by
   rw[seqIndex_neg (by omega) e] at h1;rw[Bu,<- a];exact Bj h1
  exact PySem.W.ki_setBack ho (by omega) (by rw[Bu,<- a];exact e) (by omega) (by rw[b];exact⟨_,g,q⟩)
theorem ZFJ (lo hi:Option Int)(n:Nat):(sliceBounds lo hi none n).1=((HT.Aq n 0 lo:Nat):Int)/\(sliceBounds lo hi none n).2.1=((HT.Aq n n hi:Nat):Int)/\(sliceBounds lo hi none n).2.2=1:=by
 refine⟨?_,?_,rfl⟩
 ·cases lo with
  | none=>simp[sliceBounds,HT.Aq]
  | some i=>
   simp only[sliceBounds,HT.Aq,ZGN,show(1:Int) > 0 by decide,ZAp]
   by_cases h:i<0
   ·simp only[h,ZAp] <;> omega
   ·simp only[h,ZBM] <;> omega
 ·cases hi with
  | none=>simp[sliceBounds,HT.Aq]
  | some i=>
   simp only[sliceBounds,HT.Aq,ZGN,show(1:Int) > 0 by decide,ZAp]
   by_cases h:i<0
   ·simp only[h,ZAp] <;> omega
   ·simp only[h,ZBM] <;> omega
theorem ZFk (A3:List Value)(lo hi:Option Int):slicePick A3.toArray lo hi none=((A3.drop (HT.Aq A3.length 0 lo)).take (HT.Aq A3.length A3.length hi - HT.Aq A3.length 0 lo)).toArray:=by
 obtain⟨h1,h2,a⟩:=ZFJ lo hi A3.toArray.size;unfold slicePick;rw[h1,h2,a];simp only[sliceRange_one,pick_run,Bu] <;> rfl
def ji (K:ZHP):V->Option Int->Option Int->Hp->VK->Prop:=fun x lo hi H Q=>∃a xs,x=.ref a/\AN K H a xs/\∀p,H p=none->Q (.ref p) (upd H p (.lst (Cr xs lo hi)))
theorem NW:LB X (ji X.K):=by
 intro pins s σ H x v vl vu lo hi sl Q I e i pl f h;obtain⟨a,xs,rfl,hx,q⟩:=h;cases e;obtain⟨A3,r,d,g⟩:=I.list hx;have c:=r.length;refine⟨"list", _,slot_list_getitem.lookup,d.isList.typeIs,?_⟩;refine wpAny_getItem_list_slice d.isList i pl f .none (by simp) ?_ (by rw[Bu] <;> omega)
 rw[ZFk,<- c];refine⟨.ref s.heap.objs.size,_,I.laid (t':=s.toks) (o:=.lst (Cr xs lo hi)) (fun b ob q=>BN _ q) (Ax _) ?_,rfl,q _ (I.AF.fresh (Ax _))⟩;exact⟨Bi (di xs lo hi) g,_,0,(r.drop (HT.Aq xs.length 0 lo)).take (HT.Aq xs.length xs.length hi - HT.Aq xs.length 0 lo),Bl _ rfl⟩
noncomputable def Ej:V->Bool
 | .A8=>true
 | .bl _=>true
 | .int _=>true
 | .str _=>true
 | _=>false
noncomputable def E8:V->V->Bool
 | .A8,.A8=>true
 | .bl a,.bl b=>a == b
 | .bl a,.int b=>(if a then 1 else 0) == b
 | .int a,.bl b=>a == (if b then 1 else 0)
 | .int a,.int b=>a == b
 | .str a,.str b=>a == b
 | _,_=>false
theorem T9 (d:RelV y u)(c:RelV x v)(f:Ej y=true)(e:Ej x=true):SeqAt.EqAt A s u v (E8 y x):=by
 cases y with
 | A8=>
  cases d;cases x with
  | A8=>cases c;exact SeqAt.EqAt.same _
  | bl b=>cases c;exact SeqAt.EqAt.none_bool b
  | int b=>obtain⟨t,rfl⟩:=c;exact SeqAt.EqAt.none_int b t
  | str b=>obtain⟨t,rfl⟩:=c;exact SeqAt.EqAt.none_str b t
  | _=>exact absurd (show false=true from e) D7
 | bl a=>
  cases d;cases x with
  | A8=>cases c;exact SeqAt.EqAt.bool_none a
  | bl b=>cases c;exact SeqAt.EqAt.bool_bool a b
  | int b=>obtain⟨t,rfl⟩:=c;exact SeqAt.EqAt.bool_int a b t
  | str b=>obtain⟨t,rfl⟩:=c;exact SeqAt.EqAt.bool_str a b t
  | _=>exact absurd (show false=true from e) D7
 | int a=>
  obtain⟨t',rfl⟩:=d;cases x with
  | A8=>cases c;exact SeqAt.EqAt.int_none a t'
  | bl b=>cases c;exact SeqAt.EqAt.int_bool a t' b
  | int b=>obtain⟨t,rfl⟩:=c;exact SeqAt.EqAt.int_int a t' b t
  | str b=>obtain⟨t,rfl⟩:=c;exact SeqAt.EqAt.int_str a t' b t
  | _=>exact absurd (show false=true from e) D7
 | str a=>
  obtain⟨t',rfl⟩:=d;cases x with
  | A8=>cases c;exact SeqAt.EqAt.str_none a t'
  | bl b=>cases c;exact SeqAt.EqAt.str_bool a t' b
  | int b=>obtain⟨t,rfl⟩:=c;exact SeqAt.EqAt.str_int a t' b t
  | str b=>obtain⟨t,rfl⟩:=c;exact SeqAt.EqAt.str_str a t' b t
  | _=>exact absurd (show false=true from e) D7
 | _=>exact absurd (show false=true from f) D7
noncomputable def Dw (x:V)(u:Value):Bool:=match u with
 | .none=>E8 .A8 x
 | .bool b=>E8 (.bl b) x
 | .int i _=>E8 (.int i) x
 | .str z _=>E8 (.str z) x
 | _=>false
theorem eZ (r:RelV y u)(f:Ej y=true):Dw x u=E8 y x:=by
 cases y with
 | A8=>cases r;rfl
 | bl b=>cases r;rfl
 | int i=>obtain⟨t,rfl⟩:=r;rfl
 | str z=>obtain⟨t,rfl⟩:=r;rfl
 | _=>exact absurd (show false=true from f) D7
theorem OL {x:V}:∀{xs:List V}{us:List Value},Vals xs us->xs.all Ej=true->us.any (Dw x)=xs.any fun y=>E8 y x
 | _,_,.nil,_=>rfl
 | y::xs,u::us,.cons r t,f=>by
  rw[Tq,Df] at f;rw[Nk,Nk,eZ r f.1,OL t f.2]
theorem LS {A:Around}{s:Shared}{x:V}{v:Value}(b:RelV x v)(c:Ej x=true):∀{xs:List V}{us:List Value},Vals xs us->xs.all Ej=true->∀u∈us,SeqAt.EqAt A s u v (Dw x u)
 | _,_,.nil,_=>fun u a=>by cases a
 | y::xs,u::us,.cons r t,f=>fun d a=>by
  rw[Tq,Df] at f;rcases List.mem_cons.mp a with rfl | a
  ·rw[eZ r f.1];exact T9 r b f.1 c
  ·exact LS b c t f.2 d a
noncomputable def GD (x:V)(xs:List V):Bool:=xs.any fun y=>E8 y x
def Ko (K:ZHP)(neg:Bool):R2:=fun x y H Q=>∃p xs,y=.ref p/\(AN K H p xs∨AU K H p xs)/\Ej x=true/\xs.all Ej=true/\Q (.bl (if neg then !GD x xs else GD x xs)) H
theorem Mu:BW X (compareOp .In) (Ko X.K false):=by
 intro pins s σ H x y v u Q I b d h;obtain⟨p,xs,rfl,a,c,fs,q⟩:=h;cases d;rcases a with a | a
 ·obtain⟨A3,r,pl,e⟩:=I.list a;refine SeqAt.in_listAt (Dw x) pl.isList (fun w hw=>LS b c r fs w (by simpa using hw)) ⟨.bl _,H,I,rfl,?_⟩
  rw[show A3.toArray.any (Dw x)=A3.any (Dw x) by simp,OL r fs];exact q
 ·obtain⟨A3,r,pl,e⟩:=I.tuple a;refine SeqAt.in_tupleAt (Dw x) pl (fun w hw=>LS b c r fs w (by simpa using hw)) ⟨.bl _,H,I,rfl,?_⟩
  rw[show A3.toArray.any (Dw x)=A3.any (Dw x) by simp,OL r fs];exact q
theorem Kv:BW X (compareOp .NotIn) (Ko X.K true):=by
 intro pins s σ H x y v u Q I b d h;obtain⟨p,xs,rfl,a,c,fs,q⟩:=h;cases d;rcases a with a | a
 ·obtain⟨A3,r,pl,e⟩:=I.list a;refine SeqAt.notIn_listAt (Dw x) pl.isList (fun w hw=>LS b c r fs w (by simpa using hw)) ⟨.bl _,H,I,rfl,?_⟩
  rw[show A3.toArray.any (Dw x)=A3.any (Dw x) by simp,OL r fs];exact q
 ·obtain⟨A3,r,pl,e⟩:=I.tuple a;refine SeqAt.notIn_tupleAt (Dw x) pl (fun w hw=>LS b c r fs w (by simpa using hw)) ⟨.bl _,H,I,rfl,?_⟩
  rw[show A3.toArray.any (Dw x)=A3.any (Dw x) by simp,OL r fs];exact q
theorem HQ:DR X (.builtin "len") (fun xs H Q=>∃p ys,xs=[.ref p]/\(AN X.K H p ys∨AU X.K H p ys)/\Q (.int ys.length) H):=by
 intro pins s σ H xs us Q I r h;obtain⟨p,ys,rfl,b,q⟩:=h;obtain⟨u,rfl,d⟩:=vals1 r;cases d;have hn:=Ic;rcases b with b | b
 ·obtain⟨A3,c,pl,e⟩:=I.list b;have a:=c.length;exact Calls.call_len_list pl.isList (by simp only[Bu] <;> omega) ⟨.int ys.length,H,I.tok _,⟨s.toks+1,by rw[Bu,a]⟩,q⟩
 ·obtain⟨A3,c,pl,e⟩:=I.tuple b;have a:=c.length;exact len_tuple pl (by simp only[Bu] <;> omega) ⟨.int ys.length,H,I.tok _,⟨s.toks+1,by rw[Bu,a]⟩,q⟩
theorem Xs:DR X (.builtin "len") (fun xs H Q=>∃z,xs=[.str z]/\z.length<=sizeLine/\Q (.int z.length) H):=by
 intro pins s σ H xs us Q I r h;obtain⟨z,rfl,a,q⟩:=h;obtain⟨u,rfl,t,rfl⟩:=vals1 r;have hn:=Ic;exact len_str (by omega) ⟨.int z.length,H,I.tok _,⟨_,rfl⟩,q⟩
theorem KG:DR X (.type "list") (fun xs H Q=>∃p ys,xs=[.ref p]/\(AN X.K H p ys∨AU X.K H p ys)/\∀l,H l=none->Q (.ref l) (upd H l (.lst ys))):=by
 intro pins s σ H xs us Q I r h;obtain⟨p,ys,rfl,f,q⟩:=h;obtain⟨u,rfl,k⟩:=vals1 r;cases k;have i:∀(A3:List Value),Vals ys A3->ys.length<=sizeLine->∀(h':Heap) (c:Nat),(∀b o',s.heap.get? b=some o'->h'.get? b=some o')->
   h'.get? s.heap.objs.size=some { cls:=.type "list", dict:=none,data:=.seq A3.toArray c,slots:=#[] }->EP X pins σ Q (.ref s.heap.objs.size) { s with heap:=h' }:=fun A3 a d h' c kp e=>
  ⟨.ref s.heap.objs.size,_,I.laid (t':=s.toks) kp (Ax _) (show C9 X.prog X.w _ h' _ (.lst ys) from⟨d,A3,c,a,e⟩),rfl,q _ (I.AF.fresh (Ax _))⟩
 rcases f with f | f
 ·obtain⟨A3,a,pl,d⟩:=I.list f;have g:=a.length;obtain⟨o,ho,j,n,hd⟩:=pl.isList;exact call_list_seq p (.inl rfl) ho j hd (fun h' c kp e=>i A3 a d h' c kp e) (by simp only[Bu] <;> omega)
 ·obtain⟨A3,a,pl,d⟩:=I.tuple f;have g:=a.length;obtain⟨o,ho,j,n,hd⟩:=pl;exact call_list_seq p (.inr rfl) ho j hd (fun h' c kp e=>i A3 a d h' c kp e) (by simp only[Bu] <;> omega)
theorem Kg:DR X (.type "tuple") (fun xs H Q=>∃p ys,xs=[.ref p]/\((AN X.K H p ys/\∀l,H l=none->Q (.ref l) (upd H l (.tup ys)))∨(AU X.K H p ys/\Q (.ref p) H))):=by
 intro pins s σ H xs us Q I r h;obtain⟨p,ys,rfl,h⟩:=h;obtain⟨u,rfl,j⟩:=vals1 r;cases j;rcases h with⟨c,q⟩|⟨c,q⟩
 ·obtain⟨A3,a,pl,d⟩:=I.list c;have f:=a.length;refine call_tuple_list pl.isList (fun h' kp=>?_) (by simp only[Bu] <;> omega)
  have i:Inv X pins σ H { s with heap:=h' }:=I.kept (t':=s.toks) kp
  have k:Inv X pins σ (upd H h'.objs.size (.tup ys)) { s with heap:=h'.push { cls:=.type "tuple", data:=.seq A3.toArray } }:=
   i.laid (t':=s.toks) (fun b o e=>BN _ e) (Ax _) (show C9 X.prog X.w _ _ _ (.tup ys) from⟨d,A3,a,⟨IsTup.new _ _,fun Rq g=>by rw[Bl _ rfl] at g;cases g;rfl⟩⟩)
  exact⟨.ref h'.objs.size,_,k,rfl,q _ (i.AF.fresh (Ax _))⟩
 ·obtain⟨A3,a,pl,d⟩:=I.tuple c;exact call_tuple_same pl ⟨.ref p,H,I,rfl,q⟩
def Kr (K:ZHP)(T:String)(x:V)(H:Hp):Prop:=match x with
 | .str _=>T="str"
 | .int _=>T="int"
 | .ref p=>(T="list" /\ ∃xs,AN K H p xs)∨(T="tuple" /\ ∃o,K.lookup p=some o/\o.cls=.type "tuple" /\ o.dict=none)∨
   (T="dict" /\ ((∃A6,H p=some (.dK A6))∨∃A6,H p=some (.dT A6)))∨(T="set" /\ ∃S n,H p=some (.set S n))∨(T="tuple" /\ ∃xs,H p=some (.tup xs))
 | _=>False
theorem sj (I:Inv X pins σ H s)(r:RelV x v)(ty:Kr X.K T x H):
  s.TypeIs v T/\∀a,v=.ref a->∃ob,s.heap.get? a=some ob/\ob.dict=none:=by
 cases x with
 | str z=>
  obtain⟨t,rfl⟩:=r;cases(show T="str" from ty);exact⟨typeIs_str s z t,fun _ e=>nomatch e⟩
 | int i=>
  obtain⟨t,rfl⟩:=r;cases(show T="int" from ty);exact⟨typeIs_int s i t,fun _ e=>nomatch e⟩
 | ref p=>
  cases r;rcases ty with⟨rfl,xs,f⟩|⟨rfl,o,b,g,hd⟩|⟨rfl,b⟩|⟨rfl,S,n,b⟩|⟨rfl,xs,b⟩
  ·obtain⟨A3,_,pl,_⟩:=I.list f;refine⟨pl.isList.typeIs,fun a e=>?_⟩;cases e;obtain⟨o,n,e,c,hd,_⟩:=pl;exact⟨o,e,hd⟩
  ·refine⟨⟨o,I.Bn p o b,g⟩,fun a e=>?_⟩;cases e;exact⟨o,I.Bn _ o b,hd⟩
  ·have z:∃o,s.heap.get? p=some o/\o.ExactDict:=by
    rcases b with⟨A6,b⟩|⟨A6,b⟩
    ·obtain⟨_,_,_,_,o,_,_,e,ex,_⟩:=I.AF p _ b;exact⟨o,e,ex⟩
    ·obtain⟨_,_,_,_,o,_,_,e,ex,_⟩:=I.AF p _ b;exact⟨o,e,ex⟩
   obtain⟨o,e,ex⟩:=z;refine⟨⟨o,e,ex.1⟩,fun a d=>?_⟩;cases d;exact⟨o,e,ex.2.1⟩
  ·obtain⟨o,_,_,_,e,ex,_⟩:=I.AF p _ b;refine⟨⟨o,e,ex.1⟩,fun a d=>?_⟩;cases d;exact⟨o,e,ex.2.1⟩
  ·obtain⟨_,A3,_,⟨o,e,c,_⟩,h⟩:=I.AF p _ b;refine⟨⟨o,e,c⟩,fun a d=>?_⟩;cases d;exact⟨o,e,h o e⟩
 | _=>exact False.elim ty
def JE (K:ZHP)(T:String)(r:V->List V->Hp->VK->Prop)(to:TE)(t:TA):TE:=fun σ H Q=>to σ H fun x H1=>Kr K T x H1/\t σ H1 fun xs H2=>r x xs H2 Q
variable {o e:Expr}{es:List Expr}{to:TE}{t:TA}{name:Str}{apos Ba:Pos}{id:String}{r:V->List V->Hp->VK->Prop}
end
def XQ (X:Cx)(id:String)(r:V->List V->Hp->VK->Prop):Prop:=
 ∀(pins:ZHQ) (s:Shared) (σ:St) (H:Hp) (x:V) (xs:List V) (v:Value) (us:List Value) (Q:VK),Inv X pins σ H s->RelV x v->Vals xs us->r x xs H Q->
  wpAny (model X.prog X.w) X.A (call (.builtin id) (v::us)) (EP X pins σ Q) X.xe s
theorem Vals.one:∀{x:V}{us:List Value},Vals [x] us->∃u,us=[u]/\RelV x u:=fun r=>vals1 r
theorem Vals.two:∀{x y:V}{us:List Value},Vals [x,y] us->∃u v,us=[u,v]/\RelV x u/\RelV y v:=fun r=>vals2 r
theorem Vals.eraseIdx:∀{xs:List V}{us:List Value}(i:Nat),Vals xs us->Vals (xs.eraseIdx i) (us.eraseIdx i)
 | _,_,_,.nil=>.nil
 | _,_,0,.cons _ t=>t
 | _,_,i+1,.cons r t=>.cons r (Vals.eraseIdx i t)
theorem Vals.reverse (h:Vals xs us):Vals xs.reverse us.reverse:=by
 induction h with
 | nil=>exact .nil
 | cons r t a=>rw[b8,b8];exact Vals.append a (.cons r .nil)
theorem fk {α:Type}:∀(l:List α) (i:Nat),(l.eraseIdx i).length<=l.length
 | [],_=>Ax _
 | _::_,0=>Dv _
 | _::r,i+1=>ZGM (fk r i)
section
variable {l b:Addr}{zs:List V}
theorem Inv.Yq {f:Array Value->Array Value}(I:Inv X pins σ H s)(c:H l=some (.lst xs))
  (e:s.heap.get? l=some { cls:=.type "list", data:=.seq A3.toArray n }) (hf:f A3.toArray=its'.toArray) (hv:Vals ys its') (hz:ys.length<=sizeLine) :
  Inv X pins σ (upd H l (.lst ys)) { s with heap:=s.heap.update l (Obj.mapSeq f),toks:=t' }:=by
 have q:=PySem.IsL.update e f;rw[hf] at q;refine I.write (x:=l) (e:=l) (by rw[c];exact trivial) (.inl rfl) (fun d u b a=>(D8 s.heap (Obj.mapSeq f) (B9 b)).trans a) ⟨_,q⟩ ?_;exact⟨hz,its',_,hv,q⟩
theorem Inv.iB (I:Inv X pins σ H s)(b:Vals ys A3)(a:ys.length<=sizeLine):
  Inv X pins σ (upd H s.heap.objs.size (.lst ys)) { s with heap:=s.heap.push { cls:=.type "list", data:=.seq A3.toArray },toks:=t' }:=
 I.laid (fun _ _ q=>BN _ q) (Ax _) ⟨a,A3,0,b,Bl _ rfl⟩
theorem Inv.fresh (I:Inv X pins σ H s):H s.heap.objs.size=none:=I.AF.fresh (Ax _)
theorem Inv.OH (I:Inv X pins σ H s)(a:H l=some (.lst xs)):xs.length<=sizeLine/\∃(A3:List Value) (n:Nat),Vals xs A3/\xs.length=A3.length/\s.heap.get? l=some { cls:=.type "list", data:=.seq A3.toArray n }:=by
 obtain⟨z,A3,n,r,e⟩:=I.AF l _ a;exact⟨z,A3,n,r,r.length,e⟩
def VA:V->List V->Hp->VK->Prop:=fun x vs H Q=>∃l xs y,x=.ref l/\vs=[y]/\H l=some (.lst xs)/\xs.length<sizeLine/\Q .A8 (upd H l (.lst (xs++[y])))
theorem kU:XQ X "list.append" VA:=by
 intro pins s σ H x vs v us Q I b c h;obtain⟨l,xs,y,rfl,rfl,a,f,q⟩:=h;cases b;obtain⟨u,rfl,d⟩:=c.one;obtain⟨z,A3,n,r,g,e⟩:=I.OH a;refine ZAg F.slot_list_append ⟨_,e,rfl⟩ F.entry_list_append (F.args_list_append_2 _ _) (PySem.list_append l A3.toArray n u (by rw[Bu];omega)) ⟨e,?_⟩;refine⟨.A8,_,I.Yq (its':=A3++[u]) a e (by simp) (r.append (.cons d .nil)) ?_,rfl,q⟩;rw[CM,mY];omega
def Qs:V->List V->Hp->VK->Prop:=fun x vs H Q=>∃l xs i k y,x=.ref l/\vs=[.int i]/\H l=some (.lst xs)/\-(2 ^ 63)<=i/\i<2 ^ 63/\seqIndex? i xs.length=some k/\xs[k]?=some y/\Q y (upd H l (.lst (xs.eraseIdx k)))
theorem xy:XQ X "list.pop" Qs:=by
 intro pins s σ H x vs v us Q I b c h;obtain⟨l,xs,i,k,y,rfl,rfl,a,h1,h2,j,f,q⟩:=h;cases b;obtain⟨u,rfl,d⟩:=c.one;obtain⟨t,rfl⟩:=d;obtain⟨z,A3,n,r,g,e⟩:=I.OH a;obtain⟨w,hw,Eo⟩:=r.get f;refine ZAg F.slot_list_pop ⟨_,e,rfl⟩ F.entry_list_pop (F.args_list_pop_2 _ _)
  (MeetsSeq.list_pop_at l A3.toArray n i t k w (fitsIndex_both h1 h2) (by rw[Bu,<- g];exact j) (by rw[<- aY];exact hw) (by rw[Bu];omega)) ⟨e,?_⟩
 refine⟨y,_,I.Yq (its':=A3.eraseIdx k) a e ?_ (r.eraseIdx k) ?_,Eo,q⟩
 ·show A3.toArray.eraseIdxIfInBounds k=(A3.eraseIdx k).toArray;rw[List.eraseIdxIfInBounds_toArray]
 ·have:=fk xs k;omega
def jP:R2:=fun x y H Q=>∃l b xs zs,x=.ref l/\y=.ref b/\H l=some (.lst xs)/\H b=some (.lst zs)/\xs.length+zs.length<=sizeLine/\∀p,H p=none->Q (.ref p) (upd H p (.lst (xs++zs)))
theorem Lm:BW X (binaryOp .Add) jP:=by
 intro pins s σ H x y v u Q I c a h;obtain⟨l,b,xs,zs,rfl,rfl,f,g,k,q⟩:=h;cases c;cases a;obtain⟨z,A3,n,r,m,e⟩:=I.OH f;obtain⟨j,Bq,n2,d,FK,i⟩:=I.OH g;refine PySem.P.add_list e i ?_ (by rw[Bu,Bu];omega);have ea:A3.toArray++Bq.toArray=(A3++Bq).toArray:=by simp
 rw[ea];exact⟨.ref _,_,I.iB (t':=s.toks) (r.append d) (by rw[CM];omega),rfl,q _ I.fresh⟩
variable {prog:Program}{w:World}{E:Value->Shared->Prop}
set_option maxRecDepth 100000 in
end
end L2
namespace bO
open PySem.W PySem.Calls
variable {l:OpenLaw}{n:Nat}{prog q:Program}
theorem v9 {P:Params}{h:Heap}:∀(ns:List Int) (vs:List Value),WellAll P h vs (ns.map WData.int)->IntsAre vs ns:=by
 intro ns
 induction ns with
 | nil=>
  intro vs w;rw[Tu] at w;cases w;exact .nil
 | cons n ns c=>
  intro vs w;rw[Bp] at w;cases w with
  | cons a b=>
   cases a;exact .cons _ _ (c _ b)
theorem va (hn:l.most=some n){P:Params}{h:Heap}{args:List WData}{vals:List Value}
  (ME:l.row.toRowW.claim.pre args=true) (KN:WellAll P h vals args) :
  ∃a vs ns,vals=[Value.ref a]/\args=[WData.list (ns.map WData.int)]/\h.get? a=some { cls:=.type "list", data:=.seq vs.toArray }/\IntsAre vs ns/\ns.length<=n:=by
 have f:WShape.hasAll [] args [.list .int]=true:=(pre_splitW ME).1;have g:l.pre.holds [] { args:=args }=true:=(pre_splitW ME).2;obtain⟨d,r,rfl,h1,h2⟩:=hasAllW_cons f;obtain rfl:=hasAllW_nil h2;obtain⟨xs,rfl,m⟩:=hasW_list h1;obtain⟨ns,rfl⟩:=items_int m;have b:ns.length<=n:=by
  unfold OpenLaw.pre at g;have e:(WTm.not (.lt (.lit (.int (n:Int))) (.len (.arg 0)))).holds [] { args:=[.list (ns.map .int)] }=true:=by
   have e:=(holds_andW g).1;rw[hn] at e;exact e
  have c:=condW_of e (w_not (w_lt w_lit (w_len_list (w_arg rfl))));rw[AQ] at c;refine ZGJ fun q=>?_;have k:(n:Int)<((ns.length:Nat):Int):=by omega
  first
   | (rw[nv k] at c;exact absurd c (by decide))
   | (simp at c;omega)
 cases KN with
 | cons j i=>
  cases i;cases j with
  | list ho KS=>exact⟨_,_,ns,rfl,rfl,ho,v9 ns _ KS,b⟩
theorem pd (l:OpenLaw)(args:List WData):l.row.toRowW.claim.post args (.bool true) args=true:=
 postW_of (r:=l.row.toRowW) (X:=(true == true))
  (show WShape.has [] (.bool true) .bool=true by first | rfl | decide | simp[WShape.has,WShape.arms,WShape.armsAll])
  (show(WTm.eq .res (.lit (.bool true))).value [] { args:=args,res:=some (.bool true),after:=args }=some (.bool (true == true)) from w_eq_bool (w_res rfl) w_lit) rfl
theorem wF {loose:List Str}{XP:(ZHR)->Heap->Prop}{YP:World->Heap->Prop}{d:DefRec}
  (hn:l.most=some n) (OA:d.params.defaults=[])
  (call:∀(w:World) (s₀ b:Shared) (mg mb:ZHR) (h:Addr) (o:Obj) (i cd e:Value) (a:Addr) (vs:List Value) (ns:List Int),
   Ground q loose [] XP w s₀ mg mb b.heap->YP w b.heap->
   b.heap.get? h=some o->o.data=.func (docDef d.name d.params d.body d.scope i cd e)->b.heap.CodeRec cd d.name->mg d.name=some (.ref h)->
   b.heap.get? a=some { cls:=.type "list", data:=.seq vs.toArray }->IntsAre vs ns->ns.length<=n->b.gens=#[]->
   codeAny (model l.prog w) callerA (.call (.ref h) ⟨[.ref a],[]⟩) (fun r s'=>r=.ok (.ret (.bool true))/\OldK b.heap s'.heap/\s'.os=b.os/\AllBare s'.gens) b) :
  WalkO q loose XP YP l.row.toRowW d [] (fun f vs=>PySem.call f vs):=by
 intro w s₀ b mg mb G Y h o i cd e x kV ho hd Ez j Q4 t args vals as ME ZHL k KN s;obtain rfl:x=.none:=Dflts.none j OA;obtain rfl:kV=.none:=Dflts.noKw j;obtain⟨a,vs,ns,rfl,rfl,Zp,c,g⟩:=va hn ME KN;refine enter_call (yU (call w s₀ b mg mb h o i cd e a vs ns G Y ho (fd_plain hd) Ez Q4 Zp c g t) fun r s' m=>?_);obtain⟨rfl,h2,v,u⟩:=m;exact⟨.inl ⟨.bool true,.bool true,[],rfl,fun _=>rfl,.bool true,pd l _,fun _=>⟨List.Pairwise.nil,fun _ p=>(nomatch p)⟩⟩,h2,v,u⟩
end bO
namespace L2
variable {w:World}{mg:ZHR}{a f:Addr}{fd:FuncData}{qual x:Str}{sp:Sp}{loose ps:List Str}{X:Cx}{A B:Prop}
theorem dk:∀{vs:List Value}{ns:List Int},IntsAre vs ns->Vals (ns.map V.int) vs
 | _,_,.nil=>.nil
 | _,_,.cons n t h=>.cons ⟨t,rfl⟩ (dk h)
def Ux (H:Hp):Prop:=∀b,H b=none∨∃o xs,H b=some (.FF o (.lst xs))
theorem nh {P:Program}{K:ZHP}{mb:ZHR}{CX:GJ}{k:Nat}{A:Addr}{c:Shared}{vs:List Value}{ns:List Int}
  (KX:K.In c.heap) (Mj:c.heap.Ns mainGlobals mg) (f:c.heap.Ns builtinsNs mb) (y:∀x:Str,x ≠ "__name__" -> mb x=bootBuiltins x) (M:c.heap.NoLimit) (R:c.gens=#[])
  (l:c.heap.get? a=some { cls:=.type "list", data:=.seq vs.toArray }) (hi:IntsAre vs ns) (hl:ns.length<=sizeLine) (hr:Bf k callerA)
  (F:∀base:Heap,K.In base->base.Ns mainGlobals mg->Cj P w K mg base CX k A fd [x] sp) (ph:∀(s:Shared) (u:Value),BindsTo s fd ⟨[u],[]⟩ [(x,u)])
  (Et:∀H:Hp,Ux H->AN K H a (ns.map V.int)->sp [.ref a] H (fun v _=>v=.bl true) fun _ _ _=>False)
  (Xx:∀H e s',CX [] H c (fun _ _ _=>False) e s'->False) :
  codeAny (model P w) callerA (.call (.ref A) ⟨[.ref a],[]⟩) (fun r s'=>r=.ok (.ret (.bool true))/\OldK c.heap s'.heap/\s'.os=c.os/\AllBare s'.gens) c:=by
 have C:=dk hi;have Q:=hi.length
 -- from an abstract heap in ZGi nothing but HU jA may be tracked
 have g:∀H:Hp,Ux H->AN K H a (ns.map V.int)->Bo P w H c.heap->(∀b,H b≠none->b=a)->(H a≠none->K.lookup a=none)->
   codeAny (model P w) callerA (.call (.ref A) ⟨[.ref a],[]⟩) (fun r s'=>r=.ok (.ret (.bool true))/\OldK c.heap s'.heap/\s'.os=c.os/\AllBare s'.gens) c:=by
  intro H G S AF I U;have E:∀{b:Addr}{o:Obj},c.heap.get? b=some o->H b=none->(JN c.heap H).get? b=some o:=fun e n=>ZBl e n;have Y:∀{b:Addr}{o:Obj}{es:Array DictEntry}{j:Nat},c.heap.get? b=some o->o.data=.dict es j->H b=none:=fun {b o es j} e d=>by
   cases q:H b with
   | none=>rfl
   | some u=>
    have B:b=a:=I b (by rw[q];simp);subst B;rw[l] at e;cases e;have d':Data.seq vs.toArray _=Data.dict es j:=d;cases d'
  have p:∀{b:Addr}{m:ZHR},c.heap.Ns b m->(JN c.heap H).Ns b m:=fun {b m} AK=>by obtain⟨o,es,j,e,d,r⟩:=AK;exact⟨o,es,j,E e (Y e d),d,r⟩
  have D:K.In (JN c.heap H):=fun b o e=>E (KX b o e) (by
   cases q:H b with
   | none=>rfl
   | some u=>
    have B:b=a:=I b (by rw[q];simp);subst B;rw[U (by rw[q];simp)] at e;cases e)
  have T:Mod K mg (JN c.heap H):=⟨D,p Mj,⟨mb,p f,y⟩,let ⟨mc,h1,h2⟩:=M;⟨mc,p h1,h2⟩⟩;have e0:Lc P w K mg (JN c.heap H) callerA [] c H:=⟨rfl,T,fun b o e=>ZDg e,me (ZDe _ _),trivial,fun b f=>absurd (show b∈([]:List Addr) from f) (by simp),AF,.of_eq R⟩;refine yU ((F _ D (p Mj)).run callerA [] c H ⟨[.ref a],[]⟩ [.ref a] [.ref a] _ _ hr e0 (ph c (.ref a)) (.cons rfl .nil) (Et H G S)) fun r s' h=>?_;cases r with
  | error e=>exact(Xx H e s' h).elim
  | ok W=>
   cases W with
   | next=>exact False.elim h
   | brk=>exact False.elim h
   | cont=>exact False.elim h
   | ret u=>
    obtain⟨v,H',os,bare,un,ZAE,N,q⟩:=h;have O:v=.bl true:=q;subst O;obtain rfl:u=Value.bool true:=N;refine⟨rfl,OldK.of_keep fun b o e=>?_,os,bare⟩;cases q:H b with
    | none=>exact un.keep b o e q (by intro z;exact absurd (show b∈([]:List Addr) from z) (by simp)) (by simp)
    | some u=>
     rcases G b with z | ⟨ob,xs,z⟩
     ·rw[q] at z;cases z
     ·have L:=un.Fy b ob _ z;obtain⟨J,_⟩:=AF b _ z;obtain⟨X,_⟩:=ZAE b _ L;rw[e] at J;cases J;exact X
 cases t:K.lookup a with
 | some o=>
  -- HU jA is one of HU ZGk own objects
  have e:=KX a o t;rw[l] at e;cases e;refine g (fun _=>none) (fun _=>.inl rfl) (.inr ⟨_,vs.toArray,_,t,rfl,rfl,rfl,by rw[Bu,Q];exact hl,by simpa using C⟩) (fun b u z=>by have i:(none:Option HO)=some u:=z;cases i) (fun b z=>absurd rfl z) fun z=>absurd rfl z
 | none=>
  refine g (fun b=>if b=a then some (.FF { cls:=.type "list", data:=.seq vs.toArray } (.lst (ns.map V.int))) else none) (fun b=>?_) (.inl (.inr ⟨{ cls:=.type "list", data:=.seq vs.toArray },pQ rfl⟩)) (fun b u z=>?_) (fun b z=>?_) fun _=>t
  ·by_cases f:b=a
   ·exact .inr ⟨_,_,pQ f⟩
   ·exact .inl (o5 f)
  ·by_cases f:b=a
   ·have i:=(pQ f).symm.trans z;cases i;subst f;exact⟨l,by rw[AQ];exact hl,vs,_,C,l⟩
   ·have i:=(o5 f).symm.trans z;cases i
  ·by_cases f:b=a
   ·exact f
   ·exact absurd (o5 f) z
theorem uv {l:PySem.W.OpenLaw}{n k:Nat}{q:Program}{XP:(ZHR)->Heap->Prop}{YP:World->Heap->Prop}{d:DefRec}{K:Params->ZHP}{CX:World->GJ}{sp:World->Sp}
  (hn:l.most=some n) (L4:n<=sizeLine) (OA:d.params.defaults=[]) (r:Bf k callerA)
  (z:∀(w:World) (h:Heap),YP w h->(K w.params).In h)
  (F:∀(w:World) (mg:ZHR) (j:Addr) (h:Heap),(K w.params).In h->h.Ns mainGlobals mg->mg d.name=some (.ref j)->
   ∃fd:FuncData,(∀(s:Shared) (u:Value),BindsTo s fd ⟨[u],[]⟩ [(x,u)])/\
    ∀base:Heap,(K w.params).In base->base.Ns mainGlobals mg->Cj l.prog w (K w.params) mg base (CX w) k j fd [x] (sp w))
  (Et:∀(w:World) (H:Hp) (a:Addr) (ns:List Int),ns.length<=n->Ux H->AN (K w.params) H a (ns.map V.int)->sp w [.ref a] H (fun v _=>v=.bl true) fun _ _ _=>False)
  (Xx:∀(w:World) (H:Hp) (s:Shared) (e:Value) (s':Shared),CX w [] H s (fun _ _ _=>False) e s'->False) :
  PySem.W.WalkO q loose XP YP l.row.toRowW d [] (fun f vs=>PySem.call f vs):=by
 refine bO.wF hn OA fun w s₀ p mg mb j o E cd D a vs ns G Y ho hd Ez Q4 Zp i c t=>?_;have m:=z w _ Y;obtain⟨fd,y,C⟩:=F w mg j _ m G.T.g Q4;exact nh m G.T.g G.T.b G.T.builtins G.T.nolimit t Zp i (Bi c L4) r C y (fun H B A=>Et w H a ns c B A) fun H e s'=>Xx w H p e s'
noncomputable def Nz (s:Stmt):Arguments:=match s with
 | .FunctionDef _ a _ _ _ _ _ _ _ _=>a
 | _=>{ posonlyargs:=[],args:=[],vararg:=none,kwonlyargs:=[],kw_defaults:=[],kwarg:=none,defaults:=[] }
noncomputable def KW (s:Stmt):List Stmt:=match s with
 | .FunctionDef _ _ b _ _ _ _ _ _ _=>b
 | _=>[]
noncomputable def Ae (s:Stmt):Scope:=match s with
 | .FunctionDef _ _ _ _ _ _ sc _ _ _=>sc
 | _=>{ kind:=.function,names:=[],isGenerator:=false,isCoroutine:=false }
abbrev Eg:GJ:=fun _ _ _ _ _ _=>False
abbrev E0:XK:=fun _ _ _=>False
theorem Zg:Passes Eg X E0:=fun _ _ _ _ _ _ _ h=>h.elim
structure AE (K:ZHP) (x qual:Str) (st:Stmt) (f:Addr) (fd:FuncData):Prop where
 ex:∃(oc:Value) (od:Option Addr) (kV doc pm:Value) (an:Option Addr) (AY ct:Value) (J8:Array (Option Value)),
  fd=PySem.W.fnOf x qual (Nz st) (KW st) (Ae st) .none kV doc pm an AY ct/\K.lookup f=some ⟨oc,od,.func fd,J8⟩/\PySem.W.codeIn K AY qual=true
 kp:PySem.W.keepIn K (.ref f)=true
section
variable {P:Program}{K:ZHP}{base:Heap}
theorem AE.ok {st:Stmt}{N:List Str}{k:Nat}(F:AE K x qual st f fd)(S:As N ps (Ae st))(len:∀vs H Q E,sp vs H Q E->vs.length=ps.length)
  (Lh:∀(AY:Value) (A:Around) (outer:List Env) (s:Shared) (H:Hp) (vs:List V) (Q:VK) (E:XK),Bf k (A.deeper (envOfC qual (Ae st) s.heap.objs.size f AY))->sp vs H Q E->
   ∃t,DJ (EI Eg P w K mg base N qual (Ae st) f AY A outer s H E).Oh (KW st) t/\t { nx:=fun _ H'=>Q .A8 H',rt:=Q } (start N vs) H):Cj P w K mg base Eg (k+1) f fd ps sp:=by
 obtain⟨e,od,kV,c,d,g,AY,ct,J8,rfl,a,Ez⟩:=F.ex;refine jd a Ez S len fun A outer s H vs Q E b Et=>?_;obtain⟨t,h,q⟩:=Lh AY A outer s H vs Q E b Et;exact⟨t,h.Oh,q⟩
theorem AE.binds {st:Stmt}(F:AE K x qual st f fd)
  (h:∀(kV a b:Value) (c:Option Addr) (AY ct:Value) (us:List Value),us.length=ps.length->bindArgs (PySem.W.fnOf x qual (Nz st) (KW st) (Ae st) .none kV a b c AY ct) ⟨us,[]⟩=pure (ps.zip us)):Binds K fd ps []:=by
 obtain⟨d,od,kV,a,b,c,AY,ct,J8,rfl,e,Ez⟩:=F.ex;exact .all (h kV a b c AY ct)
theorem ZB8 {st:Stmt}{e:Value}{od d:Option Addr}{J8:Array (Option Value)}{kV a b AY ct:Value}(l:K.lookup f=some ⟨e,od,.func (PySem.W.fnOf x qual (Nz st) (KW st) (Ae st) .none kV a b d AY ct),J8⟩)
  (c:PySem.W.codeIn K AY qual=true) (k:PySem.W.keepIn K (.ref f)=true):AE K x qual st f (PySem.W.fnOf x qual (Nz st) (KW st) (Ae st) .none kV a b d AY ct):=⟨⟨e,od,kV,a,b,d,AY,ct,J8,rfl,l,c⟩,k⟩
end
theorem BO {A:Around}{k:Nat}(a:Bf k A):A.units+1<cLine:=Ht (Nat.add_le_add_left (by decide:1<=64) _) a.units
theorem pv (i:Nat){pos:Pos}(a:X.N[i]?=some x:=by rfl)(hv:Rl X.env.scope x:=by first | exact Or.inl rfl | exact Or.inr (Or.inl rfl) | exact Or.inr (Or.inr rfl))(hd:(x == ("__debug__":Str))=false:=by decide)
  (Ez:(x == ("__classdict__":Str))=false:=by decide):PE X (.Name x pos) (BD i):=lX a hv hd Ez
theorem D5 (h:B):if false=true then A else B:=by
 rw[o5 D7];exact h
theorem Mp (h:A):if true=true then A else B:=by
 rw[pQ rfl];exact h
theorem Ad {c:Prop}[Decidable c](h1:c->A)(h2:¬ c->B):if c then A else B:=by
 by_cases h:c
 ·rw[pQ h];exact h1 h
 ·rw[o5 h];exact h2 h
def AB (H H':Hp):Prop:=∀b o,H b=some o->H' b=some o
theorem AB.refl (H:Hp):AB H H:=fun _ _ h=>h
theorem AB.trans {H H1 H2:Hp}(a:AB H H1)(b:AB H1 H2):AB H H2:=fun c o h=>b c o (a c o h)
theorem AB.seq {K:ZHP}{H H':Hp}{xs:List V}(e:AB H H')(h:AN K H a xs):AN K H' a xs:=by
 rcases h with(h | ⟨o,h⟩) | h
 ·exact .inl (.inl (e _ _ h))
 ·exact .inl (.inr ⟨o,e _ _ h⟩)
 ·exact .inr h
end L2
set_option maxHeartbeats 4000000
namespace L2
variable {α:Type}{outer scope:Scope}{env:Env}{X Y:Cx}{c elt tg:Expr}{A:Around}{E:Value->Shared->Prop}{s s2 s4:Shared}{cl closure:List (Str×Addr)}{qual x y z:Str}{ce:Option Str}{C a acc it n p:Addr}{w:World}{ifs:List Expr}{Kb pos px py:Pos}{R:Result->Shared->Prop}{pins:ZHQ}{ws σ:St}{H H' H1 H2 H4:Hp}{js:List Nat}{tt:TT}{te:TE}{J:It}{tn:Nat->Heap->Prop}{i j n0 t':Nat}{v:Value}{wi:TI}{CW:It->St->Hp->Addr->VK->Prop}{N:List Str}{tp:Bool}{xs ys:List V}{A3:List Value}
theorem rK {β:Type}{l:List α}{f:α->β->Sem (ForInStep β)}(g:β->α->β)(h:∀x∈l,∀c,f x c=pure (.yield (g c x))):∀c,forIn l c f=pure (l.foldl g c):=by
 induction l with
 | nil=>intro c;rfl
 | cons x l a=>
  intro c;rw[List.forIn_cons,h x Dg,pure_bind];exact a (fun y b=>h y (EG _ b)) (g c x)
noncomputable def LU (cells:List (Str×Addr))(cs:List (Str×Addr))(x:Str×NameKind):List (Str×Addr):=
 if x.2=.free then(x.1,(cells.lookup x.1).getD 0)::cs else cs
noncomputable def Ce (cells:List (Str×Addr))(names:List (Str×NameKind)):List (Str×Addr):=names.foldl (LU cells) []
theorem zK (h:∀x∈scope.names,x.2=.free->(env.cells.lookup x.1).isSome=true):closureFor scope env=pure (Ce env.cells scope.names):=by
 simp only[closureFor];rw[rK (LU env.cells) (fun x hx c=>by
  obtain⟨n,k⟩:=x;unfold LU
  by_cases b:k=NameKind.free
  ·subst b;have q:=h _ hx rfl;obtain⟨a,f⟩:=Option.isSome_iff_exists.mp q;have d:env.cells.lookup n=some a:=f;have e:cellOf env n=pure a:=by unfold cellOf;rw[d]
   simp[e,d]
  ·have:(k == NameKind.free)=false:=by simpa using b
   simp[this,b])]
 rfl
theorem fV {cells:List (Str×Addr)}:∀(names:List (Str×NameKind)) (acc:List (Str×Addr)),(∀y∈names,y.2=.free->(cells.lookup y.1).isSome=true)->
  (∀x c,acc.lookup x=some c->cells.lookup x=some c)->∀x c,(names.foldl (LU cells) acc).lookup x=some c->cells.lookup x=some c
 | [],acc,_,ha,x,c,e=>ha x c e
 | (n,k)::r,acc,hs,ha,x,c,e=>by
  rw[List.foldl_cons] at e;refine fV r _ (fun y f=>hs y (EG _ f)) (fun x c e=>?_) x c e;unfold LU at e
  by_cases b:k=NameKind.free
  ·rw[pQ b] at e;have q:=hs _ Dg b;obtain⟨a,q⟩:=Option.isSome_iff_exists.mp q;have d:cells.lookup n=some a:=q;rw[HH] at e
   by_cases hx:x=n
   ·subst hx;simp only[u4,d,Option.getD_some] at e;rw[d,<- e]
   ·have g:(x == n)=false:=by simpa using hx
    rw[g] at e;exact ha x c e
  ·rw[o5 b] at e;exact ha x c e
theorem aM {cells:List (Str×Addr)}{x:Str}:∀(names:List (Str×NameKind)) (acc:List (Str×Addr)),((acc.lookup x).isSome=true∨(x,NameKind.free)∈names)->
  ((names.foldl (LU cells) acc).lookup x).isSome=true
 | [],acc,h=>by
  rcases h with h | h
  ·exact h
  ·cases h
 | (n,k)::r,acc,h=>by
  rw[List.foldl_cons];refine aM r _ ?_;unfold LU;rcases h with h | h
  ·refine .inl ?_;split
   ·rw[HH];split
    ·rfl
    ·exact h
   ·exact h
  ·rcases List.mem_cons.mp h with e | h
   ·cases e;refine .inl ?_;rw[pQ rfl,HH];simp
   ·exact .inr h
theorem SG {env:Env}:∀(names:List (Str×NameKind)) (x:Str),
  (names.map fun(n,k)=>if(k == NameKind.free && env.scope.kind == .function && env.kindOf n == some .cell) then(n,NameKind.cell) else(n,k)).lookup x =
   (names.lookup x).map fun k=>if(k == NameKind.free && env.scope.kind == .function && env.kindOf x == some .cell) then NameKind.cell else k
 | [],x=>rfl
 | (n,k)::r,x=>by
  have c:=SG (env:=env) r x;rw[Bp]
  by_cases a:(k == NameKind.free && env.scope.kind == .function && env.kindOf n == some .cell)=true
  ·show List.lookup x ((if(k == NameKind.free && env.scope.kind == .function && env.kindOf n == some .cell)=true then(n,NameKind.cell) else(n,k))::_)=_
   rw[pQ a,HH,HH]
   by_cases hx:x=n
   ·subst hx;simp only[u4,bG];rw[pQ a]
   ·have b:(x == n)=false:=by simpa using hx
    rw[b];exact c
  ·show List.lookup x ((if(k == NameKind.free && env.scope.kind == .function && env.kindOf n == some .cell)=true then(n,NameKind.cell) else(n,k))::_)=_
   rw[o5 a,HH,HH]
   by_cases hx:x=n
   ·subst hx;simp only[u4,bG];rw[o5 a]
   ·have b:(x == n)=false:=by simpa using hx
    rw[b];exact c
noncomputable abbrev Jj (X:Cx)(N:List Str)(scope:Scope)(cl:List (Str×Addr))(C:Addr)(s:Shared)(H:Hp)(fp:List Addr):Cx:=
 { X with N:=N,s₀:=s,H₀:=H,env:=compEnvC scope cl C X.env,outer:=X.stack,ex:=fp,fn:=fun _=>false,pn:=[],xe:=fun _ _=>False }
noncomputable def Bt (js:List Nat)(σ:St):St:=js.map fun j=>(σ[j]?).join
structure Ep (N:List Str) (outer scope:Scope) (x:Str) (Ar:List Str) (js:List Nat):Prop where
 kind:scope.kind=.function
 Px:∀y∈scope.names,y.2≠.cell
 loc:∀y∈scope.names,y.2=.local->scope.names.lookup y.1=some .local
 jD:scope.names.lookup x=some .local
 at':js.map (fun j=>N[j]?)=Ar.map some
 cell:∀y∈Ar,outer.names.lookup y=some .cell
 free:∀y∈Ar,scope.names.lookup y=some .free
 all:∀y∈scope.names,y.2=.free->outer.names.lookup y.1=some .cell
 nd:(Ar++[x]).Nodup
def JZ (X:Cx)(ifs:List Expr)(t:TT):Prop:=
 ∀(pins:ZHQ) (s:Shared) (σ:St) (H:Hp) (Q:Bool->Hp->Prop),Inv X pins σ H s->t σ H Q->
  wpAny (model X.prog X.w) X.A (forIn ifs true fun c r=>if r=true then do let ok <- isTrue c X.env (eval c X.env);pure (ForInStep.yield ok) else pure (ForInStep.yield r)) (TP X pins σ Q) X.xe s
def bx:TT:=fun _ H Q=>Q true H
theorem ZC9 {t:TT}(a:PT X c t):JZ X [c] t:=fun pins s σ H Q I h=>by
 rw[List.forIn_cons];refine nc ?_;rw[pQ rfl];refine nc (AR (a pins s σ H Q I h) fun b s1 q=>oR ?_);show wpAny _ _ (forIn [] b _) _ _ s1;rw[mT];exact oR q
def M4 (J:It)(js:List Nat)(tt:TT)(te:TE)(σ:St)(H1:Hp)(acc:Addr)(Q:VK):Prop:=
 ∃W:Nat->Nat->Hp->Prop,(∃m,W 0 m (upd H1 acc (.lst [])))/\∀i m H2,W i m H2->
  (J.stop i H2/\Q (.ref acc) H2)∨(J.go i H2/\∀x H3,J.Gn i H2 x H3->tt (Bt js σ++[some x]) H3 fun b H4=>
   if b=true then te (Bt js σ++[some x]) H4 fun y H5=>∃ys,H5 acc=some (.lst ys)/\ys.length<sizeLine/\∃a,a < m/\W (i+1) a (upd H5 acc (.lst (ys++[y])))
   else ∃a,a < m/\W (i+1) a H4)
def N5 (wi:TI)(js:List Nat)(tt:TT)(te:TE):TE:=fun σ H Q=>wi σ H fun J H1=>∀acc,H1 acc=none->M4 J js tt te σ H1 acc Q
theorem ZCL (l:List α)(a b:α):(l++[a]).set l.length b=l++[b]:=by
 induction l with
 | nil=>rfl
 | cons x l c=>simp[c]
noncomputable def Ii:Option Str->Addr->List (Str×Addr)
 | none,_=>[]
 | some x,n=>[(x,n)]
noncomputable def QU:Option Str->Heap->Heap
 | none,h=>h
 | some _,h=>h.push { cls:=.type "cell", data:=.cell none }
structure Gq (N:List Str) (outer scope:Scope) (ce:Option Str) (zs Ar:List Str) (js:List Nat):Prop where
 kind:scope.kind=.function
 loc:∀y∈scope.names,y.2=.local->scope.names.lookup y.1=some .local
 one:∀y∈scope.names,y.2=.cell->ce=some y.1
 sub:∀x,ce=some x->x∈zs
 cf:∀(n:Nat) (cl:List (Str×Addr)),cellsFrom n scope.names cl=Ii ce n++cl
 pc:∀h:Heap,pushCells h scope.names=QU ce h
 at':js.map (fun j=>N[j]?)=Ar.map some
 cell:∀y∈Ar,outer.names.lookup y=some .cell
 free:∀y∈Ar,scope.names.lookup y=some .free
 all:∀y∈scope.names,y.2=.free->outer.names.lookup y.1=some .cell
 nd:(Ar++zs).Nodup
noncomputable abbrev Gv (X:Cx)(N:List Str)(scope:Scope)(ce:Option Str)(cl:List (Str×Addr))(C:Addr)(s:Shared)(H:Hp)(fp:List Addr):Cx:=
 { X with N:=N,s₀:=s,H₀:=H,env:=compEnvC scope (Ii ce (C+1)++cl) C X.env,outer:=X.stack,ex:=fp,fn:=fun y=>ce == some y,pn:=[],xe:=fun _ _=>False }
theorem o7 {M:Model}{a:Addr}{b:Option Addr}{c:Value}{outer:Env}{Q:Env->Shared->Prop}
  (cf:∀(n:Nat) (cl:List (Str×Addr)),cellsFrom n scope.names cl=Ii ce n++cl) (pc:∀h:Heap,pushCells h scope.names=QU ce h)
  (d:Q (newEnv scope s.heap.objs.size a (Ii ce (s.heap.objs.size+1)++closure) qual b c (some outer) builtinsNs) { s with heap:=QU ce (s.heap.push { cls:=.type "dict", data:=.dict #[] }) }) :
  wpAny M A (newFunctionEnv scope a closure [] qual b c (some outer)) Q E s:=by
 simp only[newFunctionEnv,ZGO,ZAp];refine nc (wpAny_alloc ?_);refine nc (wpAny_layCells _ (fun name kind cells=>by cases e:kind == NameKind.cell <;> simp[e]) _ _ _ _ ?_)
 rw[cf,pc];rw[show({ s with heap:=s.heap.push { cls:=.type "dict", data:=.dict #[] } }:Shared).heap.objs.size=s.heap.objs.size+1 from G2 ..]
 refine nc ?_;rw[mT];exact oR (oR d)
theorem qc {c:Addr}(h:(Ii ce n++cl).lookup y=some c):(ce=some y/\c=n)∨(ce≠some y/\cl.lookup y=some c):=by
 cases ce with
 | none=>exact .inr ⟨fun z=>(by cases z),h⟩
 | some x=>
  have h:((x,n)::cl).lookup y=some c:=h;rw[HH] at h
  by_cases e:y=x
  ·subst e;simp only[u4] at h;exact .inl ⟨rfl,(Bj h).symm⟩
  ·have a:(y == x)=false:=by simpa using e
   rw[a] at h;exact .inr ⟨fun z=>e (Bj z).symm,h⟩
theorem bf (h:ce≠some y):(Ii ce n++cl).lookup y=cl.lookup y:=by
 cases ce with
 | none=>rfl
 | some x=>
  show((x,n)::cl).lookup y=_;have a:(y == x)=false:=beq_eq_false_iff_ne.mpr fun z=>h (by rw[z]);rw[HH,a]
theorem ZDn:(Ii (some x) n++cl).lookup x=some n:=by
 show((x,n)::cl).lookup x=_;rw[HH,u4]
theorem ZDS {prog:Program}{iter:Expr}{it acc:Value}(I:Nat->Shared->Prop)
  (turn:∀n s,I n s->wpAny (model prog w) A (pyNext it) (fun r s1=>match r with
   | none=>R (.ok .next) s1
   | some v=>wpAny (model prog w) A (letOwnedTupleGo tg it v) (fun _ s2=>wpAny (model prog w) A (assign tg env v) (fun _ f=>
     wpAny (model prog w) A (forIn ifs true fun c r=>if r=true then do let ok <- isTrue c env (eval c env);pure (ForInStep.yield ok) else pure (ForInStep.yield r)) (fun ok s4=>if ok=true then
      wpAny (model prog w) A (eval elt env) (fun x d=>wpAny (model prog w) A (call (.builtin "list.append") [acc,x]) (fun _ b=>∃m,m<n/\I m b) (notedBy (model prog w) A env fun e s'=>R (.error e) s') d) (notedBy (model prog w) A env fun e s'=>R (.error e) s') s4
      else ∃m,m<n/\I m s4) (notedBy (model prog w) A env fun e s'=>R (.error e) s') f)
     (notedBy (model prog w) A env fun e s'=>R (.error e) s') s2) (notedBy (model prog w) A env fun e s'=>R (.error e) s') s1) (notedBy (model prog w) A env fun e s'=>R (.error e) s') s)
  (n:Nat) (h:I n s):codeAny (model prog w) A (.compLoop (.ListComp elt [⟨tg,iter,ifs,0⟩] scope pos) 0 it acc env) R s:=by
 refine codeAny_loop rfl I (fun n s o=>(show wpAny _ A ((compTurn (.ListComp elt [⟨tg,iter,ifs,0⟩] scope pos) 0 it acc env).onRaise (fun x=>do noteFrame x env;theTreesLotGoes x)) _ _ s from wpAny_noted ?_)) n h
 rw[compTurn_list];refine nc (ZA5 (nc (qG (turn n s o) (fun r s1 g=>?_) fun _ _ z=>z)));cases r with
 | none=>exact oR g
 | some v=>
  refine nc (qG g (fun _ s2 l=>nc (qG l (fun _ f k=>nc (qG k (fun ok s4 a=>?_) fun _ _ z=>z)) fun _ _ z=>z)) fun _ _ z=>z);cases ok with
  | false=>
   rw[o5 (by decide)] at a;exact nc (oR (oR ⟨rfl,a⟩))
  | true=>
   rw[pQ rfl] at a;exact nc (nc (qG a (fun x d j=>nc (qG j (fun _ b i=>oR (oR ⟨rfl,i⟩)) fun _ _ z=>z)) fun _ _ z=>z))
abbrev da (tt:TT)(te:TE)(acc:Addr)(W:Nat->Nat->Hp->Prop)(i m:Nat)(σ:St)(H:Hp):Prop:=
 tt σ H fun b H4=>if b=true then te σ H4 fun y H5=>∃ys,H5 acc=some (.lst ys)/\ys.length<sizeLine/\∃m',m' < m/\W (i+1) m' (upd H5 acc (.lst (ys++[y])))
  else ∃m',m' < m/\W (i+1) m' H4
def Qt (g:TG)(n:Nat)(J:It)(js:List Nat)(tt:TT)(te:TE)(σ:St)(H1:Hp)(acc:Addr)(Q:VK):Prop:=
 ∃W:Nat->Nat->Hp->Prop,(∃m,W 0 m (upd H1 acc (.lst [])))/\∀i m H2,W i m H2->
  (J.stop i H2/\Q (.ref acc) H2)∨(J.go i H2/\∀x H3,J.Gn i H2 x H3->∀ws,ws.length=n->g x (Bt js σ++ws) H3 fun σ8 H8=>∃us,us.length=n/\σ8=Bt js σ++us/\da tt te acc W i m σ8 H8)
def dO (CW:It->St->Hp->Addr->VK->Prop)(wi:TI):TE:=fun σ H Q=>wi σ H fun J H1=>∀acc,H1 acc=none->CW J σ H1 acc Q
section
variable {iter:Expr}{zs Ar:List Str}{fp:List Addr}{g:TG}
theorem pB (h:scope.names.lookup x=some .cell):(relabel scope env).names.lookup x=some .cell:=by
 refine(SG (env:=env) scope.names x).trans ?_;rw[h];simp
theorem vY {n:Nat}{v:V}(h:(List.replicate n (none:Option V))[i]?=some (some v)):False:=by
 rw[mU] at h
 by_cases c:i<n
 ·rw[pQ c] at h;cases h
 ·rw[o5 c] at h;cases h
theorem rU (S:Gq X.N X.env.scope scope ce zs Ar js)(I3:Inv X pins σ H2 s2)(F:∀b∈fp,EW X pins H2 b)(Q:∀b∈fp,b<s2.heap.objs.size){h1:Heap}
  {m:ZHR}(Mj:h1.Ns s2.heap.objs.size m) (old:∀b o,s2.heap.get? b=some o->h1.get? b=some o) (E:∀x,ce=some x->h1.IsCell (s2.heap.objs.size+1) none) :
  Inv (Gv X (Ar++zs) scope ce (Ce X.env.cells scope.names) s2.heap.objs.size s2 H2 fp) [] (Bt js σ++List.replicate zs.length none) H2 { s2 with heap:=h1,toks:=t' }:=by
 have K:∀y∈scope.names,y.2=.free->(X.env.cells.lookup y.1).isSome=true:=fun y g C=>by
  obtain⟨c,e⟩:=I3.ok.has y.1 (.inl (S.all y g C));rw[e];rfl
 have M:∀y c,(Ce X.env.cells scope.names).lookup y=some c->X.env.cells.lookup y=some c:=fV scope.names [] K (fun _ _ e=>by cases e);have P:∀y k,(relabel scope X.env).names.lookup y=some k->k=.cell∨k=.free->scope.names.lookup y=some .free∨ce=some y:=fun y k e C=>by
  have t:=(SG (env:=X.env) scope.names y).symm.trans e;cases q:scope.names.lookup y with
  | none=>rw[q] at t;cases t
  | some k0=>
   rw[q] at t;cases k0 with
   | free=>exact .inl rfl
   | cell=>exact .inr (S.one _ (MB q) rfl)
   | _=>simp at t;rcases C with rfl | rfl <;> cases t
 have n:js.length=Ar.length:=by have:=rA List.length S.at';simpa using this
 have L:∀y c,X.env.cells.lookup y=some c->c<s2.heap.objs.size:=fun y c e=>by
  obtain⟨v,o,ho,_⟩:=I3.cell y c e;exact B8 ho
 have f:∀c v,s2.heap.IsCell c v->h1.IsCell c v:=fun c v AK=>by obtain⟨o,ho,hd⟩:=AK;exact⟨o,old c o ho,hd⟩
 have A:∀y c,(Ii ce (s2.heap.objs.size+1)++Ce X.env.cells scope.names).lookup y=some c->(ce=some y/\c=s2.heap.objs.size+1)∨(ce≠some y/\X.env.cells.lookup y=some c):=fun y c e=>(qc e).imp id fun z=>⟨z.1,M y c z.2⟩;have R:∀y∈Ar,ce≠some y:=fun y g z=>(List.nodup_append.mp S.nd).2.2 y g y (S.sub y z) rfl;refine⟨⟨I3.ok.mod,S.kind,I3.ok.glob,I3.ok.blt,Ax _,fun y z c J D=>?_,fun y g=>?_,fun y c I e=>?_,I3.ok.hd,I3.ok.frames,.inl rfl,fun b s=>⟨Bm (Q b s),fun y c e=>?_⟩,
  fun b o e=>I3.bs b o e,Bi I3.ok.Gy I3.sz,fun b o e s=>?_,fun b s T=>?_,I3.stack,I3.Qj⟩,rfl,I3.bare,Un.kept old,⟨m,Mj,fun i y v J D e3=>?_⟩,fun y c e=>?_,I3.AF.fresh (Ax _),fun y c e=>?_,fun p U=>(by cases U),I3.AF.kept old,?_⟩
 ·rcases A y c J with⟨a1,rfl⟩|⟨_,D0⟩
  ·rcases A z _ D with⟨Z,_⟩|⟨_,Eu⟩
   ·exact Bj (a1.symm.trans Z)
   ·exact absurd (L z _ Eu) (ZGL (Dv _))
  ·rcases A z c D with⟨_,rfl⟩|⟨_,Eu⟩
   ·exact absurd (L y _ D0) (ZGL (Dv _))
   ·exact I3.ok.inj y z c D0 Eu
 ·have I:scope.names.lookup y=some .free∨ce=some y:=g.elim (fun g=>P y _ g (.inl rfl)) fun g=>P y _ g (.inr rfl);show ∃c,List.lookup y (Ii ce (s2.heap.objs.size+1)++Ce X.env.cells scope.names)=some c
  by_cases ex:ce=some y
  ·rw[ex];exact⟨_,ZDn⟩
  ·rw[bf ex];exact Option.isSome_iff_exists.mp (aM scope.names [] (.inr (MB (I.resolve_right ex))))
 ·rcases A y c e with⟨_,rfl⟩|⟨n1,_⟩
  ·exact Dv _
  ·exact absurd (eq_of_beq I) n1
 ·rcases A y c e with⟨_,rfl⟩|⟨_,D0⟩
  ·exact Hu (Nr (Q b s))
  ·exact(F b s).2.2.2.2.1 y c D0
 ·rcases(F b s).2.2.2.1 with z | z
  ·exact I3.ok.Ju b o e z
  ·exact absurd (DQ (DQ (B8 e) I3.ok.Gy) z) (M9 _)
 ·rcases List.mem_cons.mp (I3.Nx b T) with z | z
  ·exact(F b s).2.1 z
  ·exact(F b s).2.2.1 z
 ·have E:(Bt js σ).length=Ar.length:=by unfold Bt;rw[AQ,n]
  have hi:i<Ar.length:=by
   by_cases hi:i<Ar.length
   ·exact hi
   ·have d:(Bt js σ++List.replicate zs.length none)[i]?=some (some v):=D;rw[Kk (by rw[E];omega),E] at d;exact(vY d).elim
  have G:Ar[i]?=some y:=by
   have G:(Ar++zs)[i]?=some y:=J
   rwa [Hq hi] at G
  have d:(Bt js σ)[i]?=some (some v):=by
   have d:(Bt js σ++List.replicate zs.length none)[i]?=some (some v):=D
   rwa [Hq (by rw[E];exact hi)] at d
  have B:y∈Ar:=Dh G;unfold Bt at d;rw[BU] at d;cases H:js[i]? with
  | none=>rw[H] at d;cases d
  | some j=>
   rw[H] at d;have W:X.N[j]?=some y:=by
    have q:=rA (fun l=>l[i]?) S.at';simp only[BU,H,G,bG] at q;exact Bj q
   have hσ:σ[j]?=some (some v):=by
    simp only[bG,Option.some.injEq] at d;cases q:σ[j]? with
    | none=>rw[q] at d;cases d
    | some w=>rw[q] at d;simp at d;rw[d]
   obtain⟨m0,V,V8⟩:=I3.loc;obtain⟨u,r,l⟩:=V8 j y v W hσ (.inr (.inl (S.cell y B)));refine⟨u,r,?_⟩;rcases l with⟨k,_⟩|⟨_,c,e,z⟩
   ·have k':X.env.scope.names.lookup y=some .local:=k;rw[S.cell y B] at k';cases k'
   ·have VH:X.env.kindOf y=some .cell:=S.cell y B;have C:(relabel scope X.env).names.lookup y=some .cell:=by
     refine(SG (env:=X.env) scope.names y).trans ?_;rw[S.free y B];simp[I3.ok.kind,VH]
    obtain⟨Y,t⟩:=Option.isSome_iff_exists.mp (aM (cells:=X.env.cells) scope.names [] (.inr (MB (S.free y B))));have O:=M y Y t;rw[e] at O;cases O;exact .inr ⟨.inl C,c,(bf (R y B)).trans t,f c _ z⟩
 ·rcases A y c e with⟨a,rfl⟩|⟨_,D0⟩
  ·exact⟨none,E _ a⟩
  ·obtain⟨v,z⟩:=I3.cell y c D0;exact⟨v,f c v z⟩
 ·rcases A y c e with⟨_,rfl⟩|⟨_,D0⟩
  ·exact I3.AF.fresh (Dv _)
  ·exact I3.Dz y c D0
 ·show(Bt js σ++List.replicate zs.length none).length=(Ar++zs).length;unfold Bt;simp[n]
theorem xl (h:Y.prog=X.prog)(hw:Y.w=X.w)(O:Y.K=X.K)(hA:Y.A=X.A)(x2:Y.xe=fun _ _=>False)(N:Y.calm=true)
  (hg:PG Y tg g) (FG:JZ Y ifs tt) (FP:PE Y elt te)
  (T:Turn X.prog X.w X.K tg J fp it tn) (l:∀b∈fp,Y.Ok->EW Y [] (fun _=>none) b)
  (W:Nat->Nat->Hp->Prop) (Q:VK)
  (turn:∀i m H2,W i m H2->(J.stop i H2/\Q (.ref acc) H2)∨(J.go i H2/\∀x H3,J.Gn i H2 x H3->∀ws,ws.length=n0->g x (Bt js σ++ws) H3 fun σ8 H8=>∃us,us.length=n0/\σ8=Bt js σ++us/\da tt te acc W i m σ8 H8))
  (I4:Inv Y [] (Bt js σ++ws) H4 s4) (Qa:tn 0 s4.heap) (C:∀b∈fp,H4 b=none) (H:Nat) (w4:W 0 H H4)
  (sM:ws.length=n0) (hR:∀H' s' ws,Inv Y [] (Bt js σ++ws) H' s'->Q (.ref acc) H'->R (.ok .next) s') :
  codeAny (model X.prog X.w) X.A (.compLoop (.ListComp elt [⟨tg,iter,ifs,0⟩] scope pos) 0 (.ref it) (.ref acc) Y.env) R s4:=by
 have AF:=I4.ok;have D:∀{H':Hp},(∀b∈fp,H' b=none)->∀b∈fp,EW Y [] H' b:=fun hn b c=>⟨hn b c,(l b c AF).2⟩;rw[<- h,<- hw,<- hA];have j:∀{Z:Value->Shared->Prop} v s,Y.xe v s->Z v s:=fun v s z=>by rw[x2] at z;exact z.elim
 refine ZDS (fun n s'=>∃i ws H',ws.length=n0/\Inv Y [] (Bt js σ++ws) H' s'/\tn i s'.heap/\(∀b∈fp,H' b=none)/\W i n H') ?_ H ⟨0,ws,H4,sM,I4,Qa,C,w4⟩;rintro n G ⟨i,I,H5,pA,I5,Nd,RG,w5⟩;rcases turn i n H5 w5 with⟨stop,q⟩|⟨go,step⟩
 ·have d:=T.done Y h hw O N i [] G _ H5 (fun _ _=>False) I5 (D RG) Nd stop;rw[<- h,<- hw] at d;refine qG d (fun r F ⟨p,I6⟩=>?_) fun _ _ z=>z.elim;subst p;exact hR H5 F I I6 q
 ·have d:=T.item Y h hw O N i [] G _ H5 (fun _ _=>False) I5 (D RG) Nd go;rw[<- h,<- hw] at d;refine qG d (fun r F ⟨u,p,h6⟩=>?_) fun _ _ z=>z.elim;subst p;refine qG h6 (fun _ E ⟨v,H7,I7,r7,y7,Uj,B⟩=>?_) fun _ _ z=>z.elim;have qq:=I7.pinned (D B) (T.obj _ _ Uj);refine qG (hg _ E _ H7 v u _ qq r7 (step v H7 y7 I pA)) (fun _ s8 ⟨σ8,H8,I8,us,P,e8,S⟩=>?_) j;subst e8;have a:∀{σa:St} {Ha:Hp}{sa:Shared},Inv Y ([]++P4 fp E.heap) σa Ha sa->tn (i+1) sa.heap/\(∀b∈fp,Ha b=none):=fun {σa Ha sa} Ia=>by
   refine⟨T.keep _ _ _ Uj fun b c o e=>(Ia.pin (b,o) (FY _ (FY _ (SX c e)))).1,fun b c=>?_⟩;obtain⟨o,e,d⟩:=T.obj _ _ Uj b c;exact(Ia.pin (b,o) (FY _ (FY _ (SX c e)))).2.1
  refine qG (FG _ s8 _ H8 _ I8 S) (fun b s9 ⟨H9,I9,k⟩=>?_) j;cases b with
  | false=>
   have oH:∃f,f < n/\W (i+1) f H9:=k;obtain⟨f,t,w9⟩:=oH;rw[o5 (by decide)];exact⟨f,t,i+1,_,H9,P,I9.Pj,(a I9).1,(a I9).2,w9⟩
  | true=>
   rw[pQ rfl];rw[pQ rfl] at k;refine qG (FP _ s9 _ H9 _ I9 k) (fun V EZ ⟨y,L,I10,U,ys,B2,hz,f,t,uw⟩=>?_) j;refine qG (kU (X:=Y) _ EZ _ L (.ref acc) [y] (.ref acc) [V] (fun _ M=>M=upd L acc (.lst (ys++[y]))) I10 rfl (.cons U .nil) ⟨acc,ys,y,rfl,rfl,B2,hz,rfl⟩)
    (fun _ s11 ⟨_,M,Ub,_,pY⟩=>?_) j
   subst pY;exact⟨f,t,i+1,_,_,P,Ub.Pj,(a Ub).1,(a Ub).2,uw⟩
theorem lJ {RR:Value->Addr->Result->Shared->Prop}(I:X.calm=true)(S:Gq X.N X.env.scope scope ce zs Ar js)
  (G:∀C s H,PG (Gv X (Ar++zs) scope ce (Ce X.env.cells scope.names) C s H fp) tg g)
  (FG:∀C s H,JZ (Gv X (Ar++zs) scope ce (Ce X.env.cells scope.names) C s H fp) ifs tt) (FP:∀C s H,PE (Gv X (Ar++zs) scope ce (Ce X.env.cells scope.names) C s H fp) elt te)
  (T:Turn X.prog X.w X.K tg J fp it tn) (I2:Inv X pins σ H2 s2) (KH:tn 0 s2.heap) (j:∀b∈fp,EW X pins H2 b) (Q:VK) (L:∀acc,H2 acc=none->Qt g zs.length J js tt te σ H2 acc Q)
  (u:∀acc C H' s' m,Inv X pins σ H' s'->EW X pins H' C->s'.heap.Ns C m->Q (.ref acc) H'->RR (.ref acc) C (.ok .next) s') :
  wpAny (model X.prog X.w) X.A (newList []) (fun acc a=>wpAny (model X.prog X.w) X.A (newFunctionEnv scope X.env.globals (Ce X.env.cells scope.names) [] X.env.qual none .none (some X.env)) (fun n s4=>
   codeAny (model X.prog X.w) X.A (.compStart (.ListComp elt [⟨tg,iter,ifs,0⟩] scope pos) 0 (.ref it) acc { n with scope:=relabel scope X.env }) (RR acc n.locals) s4) E a) E s2:=by
 refine qz (o7 S.cf S.pc ?_);have h:Inv X pins σ (upd H2 s2.heap.objs.size (.lst [])) { s2 with heap:=s2.heap.push { cls:=.type "list", data:=.seq ([]:List Value).toArray } }:=I2.iB (t':=s2.toks) .nil (CO _)
 have t:∀b∈fp,b<s2.heap.objs.size:=fun b c=>by
  obtain⟨o,e,_⟩:=T.obj _ _ KH b c;exact B8 e
 have hsz:(s2.heap.push { cls:=.type "list", data:=.seq ([]:List Value).toArray }).objs.size=s2.heap.objs.size+1:=G2 ..;have f:∀b∈fp,EW X pins (upd H2 s2.heap.objs.size (.lst [])) b:=fun b c=>⟨by rw[AX (Bm (t b c))];exact(j b c).1,(j b c).2⟩;generalize z:({ s2 with heap:=s2.heap.push { cls:=.type "list", data:=.seq ([]:List Value).toArray } }:Shared)=a at h ⊢
 have k:a.heap=s2.heap.push { cls:=.type "list", data:=.seq ([]:List Value).toArray }:=by rw[<- z]
 have y:∀b∈fp,b<a.heap.objs.size:=fun b c=>by rw[k,hsz];exact Nr (t b c)
 generalize i:QU ce (a.heap.push { cls:=.type "dict", data:=.dict #[] })=h1;have l:∀b o,(a.heap.push { cls:=.type "dict", data:=.dict #[] }).get? b=some o->h1.get? b=some o:=fun b o e=>by
  rw[<- i];cases ce with
  | none=>exact e
  | some _=>exact BN _ e
 have old:∀b o,a.heap.get? b=some o->h1.get? b=some o:=fun b o e=>l b o (BN _ e);have B:∀b o,s2.heap.get? b=some o->h1.get? b=some o:=fun b o e=>old b o (by rw[k];exact BN _ e);have M:h1.Ns a.heap.objs.size (fun _=>none):=(Heap.Ns.new a.heap (.type "dict")).keeps l;have O:∀x,ce=some x->h1.IsCell (a.heap.objs.size+1) none:=fun x hx=>by
  subst hx;rw[<- i];have e:(a.heap.push { cls:=.type "dict", data:=.dict #[] }).objs.size=a.heap.objs.size+1:=G2 ..;exact⟨_,by rw[<- e];exact Bl _ rfl,rfl⟩
 have P:=rU S h f y M old O (t':=a.toks);have r:tn 0 h1:=T.keep _ _ _ KH fun b _ o e=>B b o e;obtain⟨W,⟨D,v⟩,turn⟩:=L s2.heap.objs.size (I2.AF.fresh (Ax _));have d:codeAny (model X.prog X.w) X.A (.compLoop (.ListComp elt [⟨tg,iter,ifs,0⟩] scope pos) 0 (.ref it) (.ref s2.heap.objs.size) (compEnvC scope (Ii ce (a.heap.objs.size+1)++Ce X.env.cells scope.names) a.heap.objs.size X.env))
   (RR (.ref s2.heap.objs.size) a.heap.objs.size) { a with heap:=h1 }:=by
  refine xl (X:=X) (Y:=Gv X (Ar++zs) scope ce (Ce X.env.cells scope.names) a.heap.objs.size a (upd H2 s2.heap.objs.size (.lst [])) fp) (acc:=s2.heap.objs.size) (Q:=Q) rfl rfl rfl rfl rfl I (G _ _ _) (FG _ _ _) (FP _ _ _) T (fun b c ok=>⟨rfl,(ok.Lr b c).1,ok.Jm b c,.inl c,(ok.Lr b c).2,fun p F=>by cases F⟩) W turn P r (fun b c=>(f b c).1) D v (ZGF ..) fun H' s' w I' q=>?_;obtain⟨m,hn,_⟩:=I'.loc;exact u _ _ H' s' m (h.tM (ch:=fp) I'.os I'.base I'.AF I'.bare fun b c=>⟨(f b c).2.2.2.1,(f b c).2.1,(f b c).2.2.2.2.1,(f b c).2.2.2.2.2⟩) (h.Om (Ax _) I'.free) hn q
 exact codeAny_compStart_list d (T.self X.A 0 _ _ _ r d)
theorem i6 (S:Gq X.N X.env.scope scope ce zs Ar js)(I:Inv X pins σ H s):closureFor scope X.env=pure (Ce X.env.cells scope.names):=zK fun y a b=>by
 obtain⟨c,e⟩:=I.ok.has y.1 (.inl (S.all y a b));rw[e];rfl
theorem xK (k:∀J σ H1 acc Q,CW J σ H1 acc Q->Qt g zs.length J js tt te σ H1 acc Q)(f:X.calm=true)(S:Gq X.N X.env.scope scope ce zs Ar js)(hi:PI X tg iter wi)
  (d:∀fp C s H,PG (Gv X (Ar++zs) scope ce (Ce X.env.cells scope.names) C s H fp) tg g)
  (FG:∀fp C s H,JZ (Gv X (Ar++zs) scope ce (Ce X.env.cells scope.names) C s H fp) ifs tt) (FP:∀fp C s H,PE (Gv X (Ar++zs) scope ce (Ce X.env.cells scope.names) C s H fp) elt te)
  (c:∀v,foldedSetIterable iter X.env v=pure v):PE X (.ListComp elt [⟨tg,iter,ifs,0⟩] scope pos) (dO CW wi):=by
 intro pins s σ H Q I h;rw[eval_ListComp];refine wpAny_comprehension_free (use:=none) rfl c (i6 S I) S.kind S.loc (AR (hi pins s σ H _ I h) fun v s1 h1=>AR h1 fun Sa s2 h2=>?_);obtain⟨it,fp,tn,J,H2,e,I2,T,KH,l,hw⟩:=h2;subst e;refine lJ (RR:=fun acc C=>compPost (model X.prog X.w) X.A X.xe none (EP X pins σ Q) acc C) f S (d fp) (FG fp) (FP fp) T I2 KH l Q (fun acc j=>k _ _ _ _ _ (hw acc j)) fun acc C H' s' m I' a hn q=>⟨m,hn,fun h' Ul=>?_⟩;exact⟨.ref acc,H',I'.turned (t':=s'.toks) (fun b o i e=>(Ul.2 b i).trans e) a.1 a.2.1 a.2.2.2.1 a.2.2.2.2.1 a.2.2.2.2.2,rfl,q⟩
theorem zZ (u:∀J σ H1 acc Q,CW J σ H1 acc Q->Qt g zs.length J js tt te σ H1 acc Q)(x:X.N.Nodup)(FI:X.N[i]?=some y)(j:Loc X.env.scope y)(r:X.calm=true)(S:Gq X.N X.env.scope scope ce zs Ar js)(hi:PI X tg iter wi)
  (n:∀fp C s H,PG (Gv X (Ar++zs) scope ce (Ce X.env.cells scope.names) C s H fp) tg g)
  (FG:∀fp C s H,JZ (Gv X (Ar++zs) scope ce (Ce X.env.cells scope.names) C s H fp) ifs tt) (FP:∀fp C s H,PE (Gv X (Ar++zs) scope ce (Ce X.env.cells scope.names) C s H fp) elt te)
  (Q0:swapsWith (.ListComp elt [⟨tg,iter,ifs,0⟩] scope pos) (some (.Name y py)) Kb.line X.env=pure true)
  (p:X.fn y=true∨X.env.scope.names.lookup y=some .local)
  (k:∀v,foldedSetIterable iter X.env v=pure v):PS X (.Assign [.Name y py] (.ListComp elt [⟨tg,iter,ifs,0⟩] scope pos) Kb) (Ea (dO CW wi) (Cg i)):=by
 intro pins s σ H D I h;rw[exec_Assign_Name_used _ _ _ _ Q0];refine nc (ZA5 (nc ?_));show wpAny _ X.A (do let _ <- comprehension (.ListComp elt [⟨tg,iter,ifs,0⟩] scope pos) scope X.env _ (newList []) false (eval iter X.env) (some (assign (.Name y py) X.env))) _ _ s
 refine nc (qG (wpAny_comprehension_free (use:=some (assign (.Name y py) X.env)) (Q:=fun _ s'=>SP X pins D .next s') rfl k (i6 S I) S.kind S.loc
  (AR (hi pins s σ H _ I h) fun v s1 h1=>AR h1 fun Sa s2 h2=>?_)) (fun _ s' l=>oR (oR l)) fun _ _ e=>e)
 obtain⟨it,fp,tn,J,H2,e,I2,T,KH,B,hw⟩:=h2;subst e;refine lJ (RR:=fun acc C=>compPost (model X.prog X.w) X.A X.xe (some (assign (.Name y py) X.env)) (fun _ s'=>SP X pins D .next s') acc C) r S (n fp) (FG fp) (FP fp) T I2 KH B _ (fun acc d=>u _ _ _ _ _ (hw acc d)) fun acc C H' s' m I' c hn q=>?_;show wpAny _ X.A (assign (.Name y py) X.env (.ref acc)) _ _ s';refine wpAny_assign_Name (aR (v:=.ref acc) I' x FI j rfl (fun OW I'' ⟨a,f,d⟩=>?_) p);have E:C≠a:=by
  rcases d with z | z
  ·rw[z];exact c.2.1
  ·exact(c.2.2.2.2.1 y a z).symm
 refine⟨m,hn.sameBut f E,fun h' Ul=>?_⟩;exact⟨_,H',I''.turned (t':=OW.toks) (fun b o t e=>(Ul.2 b t).trans e) c.1 c.2.1 c.2.2.2.1 c.2.2.2.2.1 c.2.2.2.2.2,q⟩
theorem i9 {n:Nat}{cl:List (Str×Addr)}:∀{names:List (Str×NameKind)},(∀y∈names,y.2≠.cell)->cellsFrom n names cl=cl
 | [],_=>rfl
 | (x,k)::r,h=>by
  have b:(k == NameKind.cell)=false:=beq_eq_false_iff_ne.mpr (h _ Dg);rw[cellsFrom,b];exact i9 fun y a=>h y (EG _ a)
theorem jy {a:Heap}:∀{names:List (Str×NameKind)},(∀y∈names,y.2≠.cell)->pushCells a names=a
 | [],_=>rfl
 | (x,k)::r,h=>by
  have c:(k == NameKind.cell)=false:=beq_eq_false_iff_ne.mpr (h _ Dg);rw[pushCells,c];exact jy fun y b=>h y (EG _ b)
theorem Gq.sV (kind:scope.kind=.function)(Px:∀y∈scope.names,y.2≠.cell)(loc:∀y∈scope.names,y.2=.local->scope.names.lookup y.1=some .local)
  (at':js.map (fun j=>N[j]?)=Ar.map some) (cell:∀y∈Ar,outer.names.lookup y=some .cell) (free:∀y∈Ar,scope.names.lookup y=some .free)
  (all:∀y∈scope.names,y.2=.free->outer.names.lookup y.1=some .cell) (nd:(Ar++zs).Nodup):Gq N outer scope none zs Ar js:=
 ⟨kind,loc,fun y a e=>absurd e (Px y a),fun x e=>(by cases e),fun n cl=>i9 Px,fun h=>jy Px,at',cell,free,all,nd⟩
theorem Gq.len (S:Gq N outer scope ce zs Ar js)(σ:St):(Bt js σ).length=Ar.length:=by
 unfold Bt;rw[AQ];have:=rA List.length S.at';simpa using this
theorem fm (S:Gq N outer scope ce [x] Ar js)(J:It)(σ:St)(H1:Hp)(acc:Addr)(Q:VK)(h:M4 J js tt te σ H1 acc Q):Qt (Cg Ar.length) 1 J js tt te σ H1 acc Q:=by
 obtain⟨W,a,h⟩:=h;refine⟨W,a,fun i m H2 w=>(h i m H2 w).imp id fun z=>⟨z.1,fun x H3 y ws hw=>?_⟩⟩
 match ws,hw with
 | [w],_=>
  have e:(Bt js σ++[w]).set Ar.length (some x)=Bt js σ++[some x]:=by rw[<- S.len σ];exact ZCL _ _ _
  exact⟨[some x],rfl,e,by rw[e];exact z.2 x H3 y⟩
theorem iQ (S:Gq X.N X.env.scope scope ce [x] Ar js)(hx:scope.names.lookup x=some .local∨(ce=some x/\scope.names.lookup x=some .cell)):
  PG (Gv X (Ar++[x]) scope ce cl C s H fp) (.Name x px) (Cg Ar.length):=
 lg S.nd (by simp) (hx.imp (fun h=>lookup_relabel_local h) fun h=>pB h.2) (hx.symm.imp (fun h=>by show(ce == some x)=true;rw[h.1];exact u4 _) fun h=>lookup_relabel_local h)
theorem Ep.G (S:Ep N outer scope x Ar js):Gq N outer scope none [x] Ar js:=.sV S.kind S.Px S.loc S.at' S.cell S.free S.all S.nd
theorem u9 (b:X.calm=true)(S:Ep X.N X.env.scope scope x Ar js)(hi:PI X (.Name x px) iter wi)
  (FG:∀fp C s H,JZ (Jj X (Ar++[x]) scope (Ce X.env.cells scope.names) C s H fp) ifs tt) (FP:∀fp C s H,PE (Jj X (Ar++[x]) scope (Ce X.env.cells scope.names) C s H fp) elt te)
  (a:∀v,foldedSetIterable iter X.env v=pure v:=by intro _;rfl):PE X (.ListComp elt [⟨.Name x px,iter,ifs,0⟩] scope pos) (N5 wi js tt te):=
 xK (CW:=fun J σ H1 acc Q=>M4 J js tt te σ H1 acc Q) (fm S.G) b S.G hi (fun _ _ _ _=>iQ S.G (.inl S.jD)) FG FP a
theorem ZDd (c:X.N.Nodup)(FI:X.N[i]?=some y)(a:Loc X.env.scope y)(b:X.calm=true)(S:Ep X.N X.env.scope scope x Ar js)(hi:PI X (.Name x px) iter wi)
  (FG:∀fp C s H,JZ (Jj X (Ar++[x]) scope (Ce X.env.cells scope.names) C s H fp) ifs tt) (FP:∀fp C s H,PE (Jj X (Ar++[x]) scope (Ce X.env.cells scope.names) C s H fp) elt te)
  (Q0:swapsWith (.ListComp elt [⟨.Name x px,iter,ifs,0⟩] scope pos) (some (.Name y py)) Kb.line X.env=pure true:=by rfl)
  (hf:X.fn y=true∨X.env.scope.names.lookup y=some .local:=by first | exact .inl rfl | exact .inr rfl | assumption)
  (hs:∀v,foldedSetIterable iter X.env v=pure v:=by intro _;rfl):PS X (.Assign [.Name y py] (.ListComp elt [⟨.Name x px,iter,ifs,0⟩] scope pos) Kb) (Ea (N5 wi js tt te) (Cg i)):=
 zZ (CW:=fun J σ H1 acc Q=>M4 J js tt te σ H1 acc Q) (fm S.G) c FI a b S.G hi (fun _ _ _ _=>iQ S.G (.inl S.jD)) FG FP Q0 hf hs
end
def EC (K:ZHP)(tp:Bool)(H:Hp)(a:Addr)(xs:List V):Prop:=match tp with
 | false=>AN K H a xs
 | true=>AU K H a xs
theorem EC.or {K:ZHP}(h:EC K tp H a xs):AN K H a xs∨AU K H a xs:=by
 cases tp
 ·exact .inl h
 ·exact .inr h
noncomputable def PL (K:ZHP)(tp:Bool)(a:Addr)(xs:List V):It:=
 ⟨fun i H=>EC K tp H a xs/\i<xs.length,fun i H x H'=>H'=H/\xs[i]?=some x,fun i H=>EC K tp H a xs/\xs.length<=i⟩
theorem ZFI {P:Program}{K:ZHP}(a it:Addr)(xs:List V):Turn P w K tg (PL K false a xs) [it] it (fun i h=>h.IsListIter it a i) where
 mem:=by simp
 obj:=(Pg (P:=P) (w:=w) (K:=K) (tg:=tg) a it).obj
 keep:=(Pg (P:=P) (w:=w) (K:=K) (tg:=tg) a it).keep
 item:=by
  intro X f hw g d i pins s σ H E I c st b;obtain⟨j,hi⟩:=b;refine AR ((Pg (P:=P) (w:=w) (K:=K) (tg:=tg) a it).item X f hw g d i pins s σ H E I c st ⟨xs,xs[i],j,by simp[hi]⟩) fun r s1 AK=>by obtain⟨u,e,h⟩:=AK;exact⟨u,e,AR h fun _ s2 DM=>by obtain⟨x,H',I',k,y,DZ,l⟩:=DM;exact⟨x,H',I',k,⟨y.1,y.2 xs j⟩,DZ,l⟩⟩
 done:=by
  intro X f hw g d i pins s σ H E I c st b;exact(Pg (P:=P) (w:=w) (K:=K) (tg:=tg) a it).done X f hw g d i pins s σ H E I c st ⟨xs,b.1,b.2⟩
 self:=(Pg (P:=P) (w:=w) (K:=K) (tg:=tg) a it).self
theorem ZEC {P:Program}{K:ZHP}(a it:Addr)(xs:List V):Turn P w K tg (PL K true a xs) [it] it (fun i h=>h.IsTupleIter it a i) where
 mem:=by simp
 obj:=(OI (P:=P) (w:=w) (K:=K) (tg:=tg) a it).obj
 keep:=(OI (P:=P) (w:=w) (K:=K) (tg:=tg) a it).keep
 item:=by
  intro X f hw g d i pins s σ H E I c st b;obtain⟨j,hi⟩:=b;refine AR ((OI (P:=P) (w:=w) (K:=K) (tg:=tg) a it).item X f hw g d i pins s σ H E I c st ⟨xs,xs[i],j,by simp[hi]⟩) fun r s1 AK=>by obtain⟨u,e,h⟩:=AK;exact⟨u,e,AR h fun _ s2 DM=>by obtain⟨x,H',I',k,y,DZ,l⟩:=DM;exact⟨x,H',I',k,⟨y.1,y.2 xs j⟩,DZ,l⟩⟩
 done:=by
  intro X f hw g d i pins s σ H E I c st b;exact(OI (P:=P) (w:=w) (K:=K) (tg:=tg) a it).done X f hw g d i pins s σ H E I c st ⟨xs,b.1,b.2⟩
 self:=(OI (P:=P) (w:=w) (K:=K) (tg:=tg) a it).self
def YS (K:ZHP)(tl:TE):TI:=fun σ H R=>tl σ H fun x H1=>∃tp a xs,x=.ref a/\EC K tp H1 a xs/\R (PL K tp a xs) H1
noncomputable def WD (z:Str):It:=⟨fun i _=>i<z.cps.size,fun i H x H'=>H'=H/\∃c,z.cps[i]?=some c/\x=.str ⟨#[c]⟩,fun i _=>i=z.cps.size⟩
theorem iJ {P:Program}{K:ZHP}{t:Tok}{ty:String}
  (hn:["enumerate","zip","dict_itemiterator","dict_reverseitemiterator","odict_iterator","itertools.zip_longest","itertools.pairwise"].contains ty=false)
  (W:∀A:Around,A.handled=none->Walks P w A it [it] [it] z.cps.size (SignAt z) (fun i h=>h.IsStrIter it ty z t i))
  (self:∀(A:Around) (i:Nat) (s:Shared) (Q:Value->Shared->Prop) (E:Value->Shared->Prop),s.heap.IsStrIter it ty z t i->Q (.ref it) s->wpAny (model P w) A (pyIter (.ref it)) Q E s) :
  Turn P w K tg (WD z) [it] it (fun i h=>h.IsStrIter it ty z t i) where
 mem:=by simp
 obj:=fun i h st b a=>by
  have e:b=it:=by simpa using a
  subst e;obtain⟨o,e,c,d⟩:=st;exact⟨o,e,fun v z=>by rw[d] at z;cases z⟩
 keep:=fun i h h' st k=>let ⟨o,e,r⟩:=st;⟨o,k it (by simp) o e,r⟩
 item:=by
  intro X l hw m j i pins s σ H E I f st g;subst l hw m;obtain⟨f0,x,C,q,p,n⟩:=f it (by simp);refine(W X.A (I.ok.hd j)).item i s _ _ g st fun v h' tk ⟨c,u,So,B⟩ DZ kp=>?_;subst B;have D:Inv X pins σ H { s with heap:=h',toks:=tk }:=I.turned (t':=tk) (fun b o a e=>kp b o (by simpa using a) e) f0 x q p n
  obtain⟨o,e,cl,d⟩:=id DZ;exact⟨_,rfl,Rv (s:={ s with heap:=h',toks:=tk }) e cl d hn ⟨.str ⟨#[c]⟩,H,D,⟨u,rfl⟩,⟨rfl,c,So,rfl⟩,DZ,fun b a=>(f b a).1⟩⟩
 done:=by
  intro X l hw m j i pins s σ H E I f st g;subst l hw m;obtain⟨f0,x,C,q,p,n⟩:=f it (by simp);have y:i=z.cps.size:=g;subst y;exact(W X.A (I.ok.hd j)).done s _ _ st fun h' tk kp=>⟨rfl,I.turned (t':=tk) (fun b o a e=>kp b o (by simpa using a) e) f0 x q p n⟩
 self:=self
def iZ (tl:TE):TI:=fun σ H R=>tl σ H fun x H1=>∃z,x=.str z/\R (WD z) H1
theorem B7 (h:H p=none)(o:HO):AB H (upd H p o):=fun b u q=>by rw[AX (DN q h)];exact q
theorem AB.ql {K:ZHP}(e:AB H H')(h:AU K H a xs):AU K H' a xs:=by
 rcases h with(h | ⟨o,h⟩) | h
 ·exact .inl (.inl (e _ _ h))
 ·exact .inl (.inr ⟨o,e _ _ h⟩)
 ·exact .inr h
theorem AB.sq {K:ZHP}(e:AB H H')(h:EC K tp H a xs):EC K tp H' a xs:=by
 cases tp
 ·exact AB.seq e h
 ·exact AB.ql e h
theorem dI {Q:VK}(xs:List V)(f:V->Bool)(g:V->V)(B2:H1 acc=none)(z:xs.length<=sizeLine)
  (k:∀i H,AB H1 H->i<xs.length->J.go i H) (BI:∀H,AB H1 H->J.stop xs.length H) (p:∀i H x H',J.Gn i H x H'->H'=H/\xs[i]?=some x)
  (r:∀(i:Nat) (x:V) (H':Hp) (Q':Bool->Hp->Prop),xs[i]?=some x->AB H1 H'->(∀EJ,AB H' EJ->Q' (f x) EJ)->tt (Bt js σ++[some x]) H' Q')
  (s:∀(i:Nat) (x:V) (H':Hp) (Q':VK),xs[i]?=some x->f x=true->AB H1 H'->(∀EJ,AB H' EJ->Q' (g x) EJ)->te (Bt js σ++[some x]) H' Q')
  (hd:∀H',AB H1 H'->H' acc=some (.lst ((xs.filter f).map g))->Q (.ref acc) H'):M4 J js tt te σ H1 acc Q:=by
 refine⟨fun i m H=>m=xs.length - i/\i<=xs.length/\AB H1 H/\H acc=some (.lst (((xs.take i).filter f).map g)),⟨xs.length,by simp,CO _,B7 B2 _,AO⟩,?_⟩;rintro i m H2 ⟨rfl,hi,a,j⟩
 by_cases h:i<xs.length
 ·refine .inr ⟨k i H2 a h,fun x H3 y=>?_⟩;obtain⟨e,hx⟩:=p i H2 x H3 y;subst e;have w:(xs.take (i+1))=xs.take i++[x]:=by
   have u:xs[i]=x:=by
    rw[BC h] at hx;exact Bj hx
   rw[QK h,u]
  have n:List.filter f (xs.take (i+1))=(xs.take i).filter f++(if f x=true then[x] else[]):=by
   rw[w,aq];congr 1
   by_cases c:f x=true <;> simp[c]
  refine r i x _ _ hx a fun H4 s4=>?_
  by_cases c:f x=true
  ·rw[pQ c];refine s i x H4 _ hx c (a.trans s4) fun H5 l=>?_;have d:(((xs.take i).filter f).map g).length<sizeLine:=by
    rw[AQ];have:=Nn f (xs.take i);rw[Cn] at this;omega
   refine⟨_,l _ _ (s4 _ _ j),d,xs.length - (i+1),by omega,rfl,h,fun b o q=>?_,?_⟩
   ·have t:b≠acc:=by rintro rfl;rw[B2] at q;cases q
    rw[AX t];exact l _ _ (s4 _ _ (a b o q))
   ·rw[AO,n,pQ c,EF];rfl
  ·have v:f x=false:=by simpa using c
   rw[v];rw[o5 (by decide)];refine⟨xs.length - (i+1),by omega,rfl,h,a.trans s4,?_⟩;rw[n,o5 c,El];exact s4 _ _ j
 ·have e:i=xs.length:=by omega
  subst e;refine .inl ⟨BI H2 a,hd H2 a ?_⟩;rw[Kn] at j;exact j
theorem L7 {K:ZHP}{Q:VK}(f:V->Bool)(g:V->V)(b:EC K tp H1 a xs)(B2:H1 acc=none)(c:xs.length<=sizeLine)
  (d:∀(i:Nat) (x:V) (H':Hp) (Q':Bool->Hp->Prop),xs[i]?=some x->AB H1 H'->(∀EJ,AB H' EJ->Q' (f x) EJ)->tt (Bt js σ++[some x]) H' Q')
  (e:∀(i:Nat) (x:V) (H':Hp) (Q':VK),xs[i]?=some x->f x=true->AB H1 H'->(∀EJ,AB H' EJ->Q' (g x) EJ)->te (Bt js σ++[some x]) H' Q')
  (hd:∀H',AB H1 H'->H' acc=some (.lst ((xs.filter f).map g))->Q (.ref acc) H'):M4 (PL K tp a xs) js tt te σ H1 acc Q:=
 dI xs f g B2 c (fun i H s hi=>⟨s.sq b,hi⟩) (fun H s=>⟨s.sq b,Ax _⟩) (fun i H x H' y=>y) d e hd
noncomputable def GY (z:Str):List V:=z.cps.toList.map fun c=>.str ⟨#[c]⟩
theorem W0 (z:Str):(GY z).length=z.cps.size:=by unfold GY;simp
theorem dX {Q:VK}(f:V->Bool)(g:V->V)(B2:H1 acc=none)(a:z.cps.size<=sizeLine)
  (b:∀(i:Nat) (x:V) (H':Hp) (Q':Bool->Hp->Prop),(GY z)[i]?=some x->AB H1 H'->(∀EJ,AB H' EJ->Q' (f x) EJ)->tt (Bt js σ++[some x]) H' Q')
  (d:∀(i:Nat) (x:V) (H':Hp) (Q':VK),(GY z)[i]?=some x->f x=true->AB H1 H'->(∀EJ,AB H' EJ->Q' (g x) EJ)->te (Bt js σ++[some x]) H' Q')
  (hd:∀H',AB H1 H'->H' acc=some (.lst (((GY z).filter f).map g))->Q (.ref acc) H'):M4 (WD z) js tt te σ H1 acc Q:=by
 refine dI (GY z) f g B2 (by rw[W0];exact a) (fun i H s hi=>?_) (fun H s=>?_) (fun i H x H' y=>?_) b d hd
 ·rw[W0] at hi;exact hi
 ·show(GY z).length=z.cps.size;exact W0 z
 ·obtain⟨e,c,h,hx⟩:=y;refine⟨e,?_⟩;subst hx;unfold GY;rw[BU,aY,h];rfl
noncomputable def Fg (xs ys:List V):Bool:=xs.length == ys.length && (List.range xs.length).all fun j=>E8 (xs.getD j .A8) (ys.getD j .A8)
theorem PX {x:V}(h:xs[j]?=some x):xs.getD j .A8=x:=by rw[Nl,h];rfl
theorem lM {x:V}(h:xs.all Ej=true)(e:xs[j]?=some x):Ej x=true:=List.all_eq_true.mp h x (Dh e)
theorem Sl {Bq:List Value}(d:Vals xs A3)(c:Vals ys Bq)(k:xs.all Ej=true)(i:ys.all Ej=true):
  ∀j (h1:j<A3.toArray.size) (h2:j<Bq.toArray.size),SeqAt.EqAt A s A3.toArray[j] Bq.toArray[j] (E8 (xs.getD j .A8) (ys.getD j .A8)):=fun j h1 h2=>by
 have l1:=d.length;have l2:=c.length;have o:j<A3.length:=by simpa using h1
 have n:j<Bq.length:=by simpa using h2
 have b:xs[j]?=some (xs[j]'(by omega)):=BC _;have a:ys[j]?=some (ys[j]'(by omega)):=BC _;obtain⟨u,f,h⟩:=d.get b;obtain⟨v,e,g⟩:=c.get a;rw[BC o] at f;rw[BC n] at e;have m:A3[j]=u:=Bj f;have l:Bq[j]=v:=Bj e;rw[PX b,PX a];have q:=T9 (A:=A) (s:=s) h g (lM k b) (lM i a);rw[<- m,<- l] at q
 simpa using q
def OE (K:ZHP)(neg:Bool):R2:=fun x y H Q=>∃p q xs ys,x=.ref p/\y=.ref q/\((AN K H p xs/\AN K H q ys)∨(AU K H p xs/\AU K H q ys))/\xs.all Ej=true/\ys.all Ej=true/\
 Q (.bl (if neg then !Fg xs ys else Fg xs ys)) H
theorem Na (h:xs.length≠ys.length):Fg xs ys=false:=by
 unfold Fg;have:(xs.length == ys.length)=false:=by simpa using h
 rw[this,Bool.false_and]
theorem Mf (h:xs.length=ys.length):Fg xs ys=(List.range xs.length).all fun j=>E8 (xs.getD j .A8) (ys.getD j .A8):=by
 unfold Fg;have:(xs.length == ys.length)=true:=by simpa using h
 rw[this,aZ]
theorem RM (f:X.A.units<cLine):BW X (compareOp .Eq) (OE X.K false):=by
 intro pins s σ H x y v u Q I r o h;obtain⟨p,q,xs,ys,rfl,rfl,t,l,k,w⟩:=h;cases r;cases o;have b:Q (.bl (Fg xs ys)) H:=w;rcases t with⟨i,g⟩|⟨i,g⟩
 ·obtain⟨A3,d,p1,n⟩:=I.list i;obtain⟨Bq,c,p2,m⟩:=I.list g;have l1:=d.length;have l2:=c.length
  by_cases a:xs.length=ys.length
  ·refine SeqAt.eq_listAt (e:=fun j=>E8 (xs.getD j .A8) (ys.getD j .A8)) p1.isList p2.isList (by simp;omega) f (Sl d c l k) ⟨.bl _,H,I,rfl,?_⟩;rw[Mf a] at b;simp only[Bu,<- l1];exact b
  ·rw[Na a] at b;exact SeqAt.eq_list_lengthsAt p1.isList p2.isList (by simp;omega) f ⟨.bl false,H,I,rfl,b⟩
 ·obtain⟨A3,d,p1,n⟩:=I.tuple i;obtain⟨Bq,c,p2,m⟩:=I.tuple g;have l1:=d.length;have l2:=c.length;refine SeqAt.eq_tupleAt (e:=fun j=>E8 (xs.getD j .A8) (ys.getD j .A8)) p1 p2 f (Sl d c l k) ⟨.bl _,H,I,rfl,?_⟩;simp only[Bu,<- l1,<- l2]
  by_cases a:xs.length=ys.length
  ·rw[Mf a] at b;have:(xs.length == ys.length)=true:=by simpa using a
   rw[this,mG,<- a,ml];exact b
  ·rw[Na a] at b;have:(xs.length == ys.length)=false:=by simpa using a
   rw[this,Tp];exact b
theorem OQ (f:X.A.units<cLine):BW X (compareOp .NotEq) (OE X.K true):=by
 intro pins s σ H x y v u Q I r o h;obtain⟨p,q,xs,ys,rfl,rfl,t,l,k,w⟩:=h;cases r;cases o;have b:Q (.bl (!Fg xs ys)) H:=w;rcases t with⟨i,g⟩|⟨i,g⟩
 ·obtain⟨A3,d,p1,n⟩:=I.list i;obtain⟨Bq,c,p2,m⟩:=I.list g;have l1:=d.length;have l2:=c.length
  by_cases a:xs.length=ys.length
  ·refine SeqAt.RcNeAt.lists (e:=fun j=>E8 (xs.getD j .A8) (ys.getD j .A8)) p1.isList p2.isList (by simp;omega) f (Sl d c l k) _ _ _ _ ⟨.bl _,H,I,rfl,?_⟩;rw[Mf a] at b;simp only[Bu,<- l1];exact b
  ·rw[Na a] at b;exact SeqAt.RcNeAt.lists_lengths p1.isList p2.isList (by simp;omega) f _ _ _ _ ⟨.bl true,H,I,rfl,b⟩
 ·obtain⟨A3,d,p1,n⟩:=I.tuple i;obtain⟨Bq,c,p2,m⟩:=I.tuple g;have l1:=d.length;have l2:=c.length;refine SeqAt.RcNeAt.tuples (e:=fun j=>E8 (xs.getD j .A8) (ys.getD j .A8)) p1 p2 f (Sl d c l k) _ _ _ _ ⟨.bl _,H,I,rfl,?_⟩;simp only[Bu,<- l1,<- l2]
  by_cases a:xs.length=ys.length
  ·rw[Mf a] at b;have:(xs.length == ys.length)=true:=by simpa using a
   rw[this,mG,<- a,ml];exact b
  ·rw[Na a] at b;have:(xs.length == ys.length)=false:=by simpa using a
   rw[this,Tp];exact b
theorem tG:DR X (.builtin "isinstance") (fun xs H Q=>∃x n t b,xs=[x,.ty n]/\FT X.K H x t/\PySem.W.kitOne X.K t (.type n)=some b/\Q (.bl b) H):=by
 intro pins s σ H xs us Q I r h;obtain⟨x,n,t,b,rfl,ty,e,q⟩:=h;obtain⟨u,c,rfl,a,rt⟩:=vals2 r;cases rt;exact ZC8 I a ty e fun tk=>⟨.bl b,H,I.tok tk,rfl,q⟩
theorem vC {bs:List Bool}(r:Vals (bs.map V.bl) A3)(e:A3[i]?=some v):v=.bool (bs.getD i false):=by
 have c:=r.length;rw[AQ] at c;have hi:i<A3.length:=(List.getElem?_eq_some_iff.mp e).1;have d:(bs.map V.bl)[i]?=some (.bl (bs[i]'(by omega))):=by rw[BU,BC (by omega)];rfl
 obtain⟨u,a,b⟩:=r.get d;rw[e] at a;cases a;cases b;rw[Nl,BC (by omega)];rfl
theorem range_all (bs:List Bool):(List.range bs.length).all (fun i=>bs.getD i false)=bs.all id:=by
 rw[Ni,Kj,Kj];constructor
 ·intro h x hx;obtain⟨i,hi,rfl⟩:=List.mem_iff_getElem.mp hx;have:=h i (List.mem_range.mpr hi);rw[Nl,BC hi] at this;exact this
 ·intro h i hi;rw[Nl,BC (List.mem_range.mp hi)];exact h _ (QC _)
theorem lH (j:X.calm=true):DR X (.builtin "all") (fun xs H Q=>∃(p:Addr) (bs:List Bool),xs=[.ref p]/\AN X.K H p (bs.map V.bl)/\Q (.bl (bs.all id)) H):=by
 intro pins s σ H xs us Q I r h;obtain⟨p,bs,rfl,g,q⟩:=h;obtain⟨u,rfl,d⟩:=vals1 r;cases d;obtain⟨A3,a,pl,m⟩:=I.list g;have c:=a.length;rw[AQ] at c;refine call_all_walk (wpAny_pyIter_list pl.isList ?_);obtain⟨o,n,ho,_⟩:=id pl;have l:p≠s.heap.objs.size:=Bm (B8 ho);refine⟨s.heap.objs.size,_,_,_,_,_,fun i=>bs.getD i false,rfl,Walks.list (by rw[Around.in1_handled];exact I.ok.hd j) _ p l A3.toArray,⟨⟨_,Bl _ rfl,rfl,rfl⟩,pl.isList.push _⟩,fun i v s' Q' E' f Dr=>?_,fun h' tk kp=>?_⟩
 ·have k:v=.bool (bs.getD i false):=vC a (by simpa using f)
  rw[k];exact uA Dr
 ·refine⟨.bl _,H,I.kept (t':=tk) fun b ob e=>kp b ob (by simpa using Bm (B8 e)) (BN _ e),rfl,?_⟩
  rw[Bu,<- c,range_all];exact q
def To:V->List V->Hp->VK->Prop:=fun x vs H Q=>∃(l:Addr) (xs:List V) (j:Int) (y:V),x=.ref l/\vs=[.int j,y]/\H l=some (.lst xs)/\0<=j/\j<=xs.length/\xs.length<sizeLine/\Q .A8 (upd H l (.lst (xs.take j.toNat++y::xs.drop j.toNat)))
theorem ZDX:XQ X "list.insert" To:=by
 intro pins s σ H x vs v us Q I f g h;obtain⟨l,xs,j,y,rfl,rfl,b,p,o,B,q⟩:=h;cases f;obtain⟨A,a,rfl,i,d⟩:=g.two;obtain⟨t,rfl⟩:=i;obtain⟨z,A3,n,r,m,e⟩:=I.OH b;have h2:j<2 ^ 63:=by
  have C:(xs.length:Int)<=(sizeLine:Int):=Int.ofNat_le.mpr z;have D:((sizeLine:Nat):Int)<2 ^ 63:=by exact_mod_cast Ic
  omega
 have w:(!Builtin.List.listFitsIndex j)=true->False:=by
  have h1:Builtin.List.listFitsIndex j=true:=by
   unfold Builtin.List.listFitsIndex;rw[Df];exact⟨nv (by omega),nv h2⟩
  rw[h1];exact fun h=>nomatch h
 have c:A3.toArray.size<=sizeLine:=Bi (me (List.size_toArray.trans m.symm)) z;refine ZAg bJ ⟨_,e,rfl⟩ PySem.F.entry_list_insert (PySem.F.args_list_insert_3 _ _ _) (PySem.AutoSeq1.list_insert_list_int_val_1 l A3.toArray n j t a w c) ⟨e,?_⟩;refine⟨.A8,_,I.Yq (its':=A3.take j.toNat++a::A3.drop j.toNat) b e ?_ ((r.take _).append (.cons d (r.drop _))) ?_,rfl,q⟩
 ·have u:¬ (j<0):=by omega
  have k:min j.toNat A3.toArray.size=j.toNat:=by simp;omega
  simp only[u,ZBM,k];apply Array.toList_inj.mp;simp;exact QJ (by simp)
 ·rw[CM,CN,Cn,Em];omega
def uO:V->Option Int->Option Int->Hp->VK->Prop:=fun x lo hi H Q=>∃z,x=.str z/\z.length<=sizeLine/\Q (.str (Txt.slice z lo hi)) H
theorem part_of {o:Option Int}(p:IsPart v o):∃l:Option (Int×Tok),v=partValue l/\l.map (·.1)=o:=by
 cases p with
 | none=>exact⟨none,rfl,rfl⟩
 | int i t=>exact⟨some (i,t),rfl,rfl⟩
theorem gZ:LB X uO:=by
 intro pins s σ H x v vl vu lo hi sl Q I a e pl b h;obtain⟨z,rfl,c,q⟩:=h;obtain⟨t,rfl⟩:=a;obtain⟨l,rfl,f⟩:=part_of pl;obtain⟨u,rfl,d⟩:=part_of b;subst f;subst d;refine⟨"str", _,F.slot_str_getitem.lookup,typeIs_str _ _ _,wpAny_getItem_str_slice (l:=l) (u:=u) (st:=none) e rfl (post_val_or_str ⟨Bi (Txt.slice_le z _ _) c,fun t' k=>?_⟩)⟩;exact⟨.str _,H,I.tok k,⟨t',rfl⟩,q⟩
end L2
set_option exponentiation.threshold 5000
namespace L2
variable {f p:Addr}{H:Hp}
def AG (P:Program)(w:World)(K:ZHP)(mg:ZHR)(base:Heap)(x:Str)(k:Nat)(ps:List Str)(sp:Sp):Prop:=
 ∃f fd,Cj P w K mg base Eg k f fd ps sp/\Binds K fd ps []/\PySem.W.keepIn K (.ref f)=true/\mg x=some (.ref f)
section
variable {P:Program}{w:World}{K:ZHP}{mg:ZHR}{base:Heap}{x qual:Str}{k:Nat}{ps:List Str}{sp:Sp}{st:Stmt}{fd:FuncData}
theorem AG.mk (F:AE K x qual st f fd)(b:Binds K fd ps [])(m:mg x=some (.ref f))(h:Cj P w K mg base Eg k f fd ps sp):AG P w K mg base x k ps sp:=⟨f,fd,h,b,F.kp,m⟩
variable {X:Cx}{j:Nat}{p pos:Pos}{e:Expr}{es:List Expr}{t:TA}
def YF (K:ZHP):List V->Hp->VK->Prop:=fun xs H Q=>∃(p:Addr) (ys:List V),xs=[.ref p]/\(AN K H p ys∨AU K H p ys)/\Q (.int ys.length) H
theorem CJ:DR X (.builtin "len") (YF X.K):=HQ
def kH (K:ZHP):List V->Hp->VK->Prop:=fun xs H Q=>∃(x:V) (n:String) (t:Value) (b:Bool),xs=[x,.ty n]/\FT K H x t/\PySem.W.kitOne K t (.type n)=some b/\Q (.bl b) H
theorem oy:DR X (.builtin "isinstance") (kH X.K):=tG
theorem gL:LW X "list.append" VA:=kU
theorem Xv:LW X "list.insert" To:=ZDX
def vd (i j:Int):Prop:=i.natAbs<2 ^ 1000/\j.natAbs<2 ^ 1000
theorem lb {n:Nat}(h:n<2 ^ 1000):n.log2<1000:=by
 rcases Nat.eq_zero_or_pos n with e | e
 ·subst e;exact(show(0:Nat).log2<1000 by decide)
 ·exact(mh (Hu e)).mpr h
theorem bits_le {i:Int}(h:i.natAbs<2 ^ 1000):Builtin.Int.intBits i<=2 ^ 20:=by
 unfold Builtin.Int.intBits;split
 ·exact CO _
 ·have:=lb h;have e:(2:Nat) ^ 20=1048576:=by decide
  omega
theorem LD:BW X (binaryOp .Mult) (rI vd fun i j=>.int (i * j)):=SH fun _ _ _ _ _ _ _ a q=>mul_int q (.of_bits (bits_le a.1) (bits_le a.2))
theorem Wd:BW X (binaryOp .FloorDiv) (rI (fun _ j=>0<j/\j.natAbs<2 ^ 1000) fun i j=>.int (i / j)):=SH fun i j _ _ _ _ _ a q=>by
 have h1:(0:Int)<j:=a.1;have h2:=lb a.2;exact floordiv_int (by omega) (by rw[Int.fdiv_eq_ediv_of_nonneg i (by omega)];exact q) (.inl (PyProof.noPylong_of_log2 (by omega)))
theorem ze {body rest:List Stmt}{t u:TS}(e:body=st::rest)(h:PS X st t)(h2:DJ X rest u):DJ X body (LQ t u):=by rw[e];exact G6 h h2
def Zo (t:TS):TS:=fun D σ H=>∃J:St->Hp->Prop,t { D with nx:=J } σ H/\∀ σ' H',J σ' H'->D.nx σ' H'
end
def Gp (p:Addr)(H H':Hp):Prop:=∀b o,b≠p->H b=some o->H' b=some o
theorem Gp.trans {H1 H2:Hp}(a:Gp p H H1)(b:Gp p H1 H2):Gp p H H2:=fun c o d e=>b c o d (a c o d e)
theorem Gp.of {H':Hp}(a:AB H H'):Gp p H H':=fun c o _ e=>a c o e
theorem Gp.upd {o:HO}:Gp p H (upd H p o):=fun c u a e=>by rw[AX a];exact e
end L2
set_option maxHeartbeats 8000000
namespace L2
variable {ss:List Str}
noncomputable def pO (P:Program)(w:World)(a:Addr)(f:Str->Bool)(n:Nat):HO:=.ext fun h=>h.SetOf (strKind P w) a f n
section
variable {X:Cx}
theorem jw {A3:List Value}(r:Vals (ss.map V.str) A3){i:Nat}{v:Value}(e:A3[i]?=some v):∃(h:i<ss.length) (t:Tok),v=.str ss[i] t:=by
 have d:=r.length;rw[AQ] at d;have hi:i<A3.length:=(List.getElem?_eq_some_iff.mp e).1;have b:i<ss.length:=by omega
 have f:(ss.map V.str)[i]?=some (.str ss[i]):=by rw[BU,BC b];rfl
 obtain⟨u,a,c⟩:=r.get f;rw[e] at a;cases a;obtain⟨t,q⟩:=c;exact⟨b,t,q⟩
end
end L2
set_option maxHeartbeats 4000000
namespace L2
variable {X:Cx}{a c e o tg:Expr}{es ifs:List Expr}{body rest:List Stmt}{ta te to:TE}{t tb:TS}{tc tt:TT}{p pos pos' px:Pos}{name x y:Str}{FE op:CmpOp}{r:List V->Hp->VK->Prop}{i j n:Nat}{ps ss:List Str}{sp:Sp}{T:String}{wi:TI}{I f it l:Addr}{g:TG}{w:World}{prog:Program}{A:Around}{s:Shared}{R:Result->Shared->Prop}{E Q:Value->Shared->Prop}{items:Array Value}
structure QE (X:Cx) (e:Expr) (t:TE):Prop where h:PE X e t
structure QT (X:Cx) (e:Expr) (t:TT):Prop where h:PT X e t
structure QW (X:Cx) (e:Expr) (t:TT):Prop where h:PW X e t
structure QA (X:Cx) (es:List Expr) (t:TA):Prop where h:PA X es t
structure QS (X:Cx) (st:Stmt) (t:TS):Prop where h:PS X st t
structure Fh (X:Cx) (st:List Stmt) (t:TS):Prop where h:DJ X st t
structure QG (X:Cx) (tg:Expr) (t:TG):Prop where h:PG X tg t
structure R9 (X:Cx) (ts:List Expr) (t:IZ):Prop where h:OB X ts t
structure QI (X:Cx) (tg iter:Expr) (wi:TI):Prop where h:PI X tg iter wi
structure Qy (X:Cx) (ifs:List Expr) (t:TT):Prop where h:JZ X ifs t
structure QO (X:Cx) (e:Option Expr) (t:TO):Prop where h:PO X e t
section
variable {b:Expr}{rest:List Expr}{tb tc:TE}{tA JI:TT}{t:TA}{p2 apos Ba:Pos}
theorem qv (i:Nat)(a:X.N[i]?=some x:=by rfl)(hv:Rl X.env.scope x:=by first | exact Or.inl rfl | exact Or.inr (Or.inl rfl) | exact Or.inr (Or.inr rfl))(hd:(x == ("__debug__":Str))=false:=by decide)
  (Ez:(x == ("__classdict__":Str))=false:=by decide):QE X (.Name x pos) (BD i):=⟨lX a hv hd Ez⟩
theorem A5 {i j pos}:QE X (.Constant (.int i) j pos) (tC (.int i)):=⟨fun _ _ _ H _ I h=>wpAny_Constant_int ⟨.int i,H,I.tok _,⟨_,rfl⟩,h⟩⟩
theorem DP {b j pos}:QE X (.Constant (.bool b) j pos) (tC (.bl b)):=⟨fun _ _ _ H _ I h=>Constant_bool ⟨.bl b,H,I,rfl,h⟩⟩
theorem MP {j pos}:QE X (.Constant .none j pos) (tC .A8):=⟨fun _ _ _ H _ I h=>Constant_none ⟨.A8,H,I,rfl,h⟩⟩
theorem AZ {x j pos}:QE X (.Constant (.str x) j pos) (tC (.str x)):=⟨fun _ _ _ H _ I h=>Calls.Constant_str ⟨.str x,H,I.tok _,⟨_,rfl⟩,h⟩⟩
theorem OO {v:V}{u:Value}(b:Gl X x)(a:X.mg x=some u)(r:RelV v u)(hd:(x == ("__debug__":Str))=false:=by decide):QE X (.Name x pos) (tC v):=⟨fun _ _ _ H _ I h=>JL I b a ⟨v,H,I,r,h⟩ hd⟩
theorem oO (T:String)(a:X.mg x=none)(b:Gl X x:=by rfl)(hv:bootBuiltins x=some (.type T):=by decide +kernel)(hn:x ≠ "__name__" := by decide)(hd:(x == ("__debug__":Str))=false:=by decide):
  QE X (.Name x pos) (tC (.ty T)):=⟨ZCP b a hv rfl hn hd⟩
theorem B6 {op:Operator}{r:R2}(ho:BW X (binaryOp op) r)(d:QE X a ta)(c:QE X b tb):QE X (.BinOp a op b pos) (CD r ta tb):=⟨by
 have d:=d.h;have c:=c.h;intro pins s σ H Q I h;exact wpAny_BinOp (Yn d c I h fun v u s2 x y H2 I2 f e q=>ho pins s2 σ H2 x y v u Q I2 f e q)⟩
theorem uq {r:R2}(ho:BW X (compareOp op) r)(d:QE X a ta)(c:QE X b tb)(g:behindInMarks op b=false):QE X (.Compare a [op] [b] pos) (CD r ta tb):=⟨by
 have d:=d.h;have c:=c.h;intro pins s σ H Q I h;exact wpAny_Compare1 (Yn d c I h fun v u s2 x y H2 I2 f e q=>ho pins s2 σ H2 x y v u Q I2 f e q) g⟩
theorem rT {r:R2}(ho:BW X (compareOp op) r)(e:QE X a ta)(d:QE X b tb)(c:behindInMarks op b=false):QT X (.Compare a [op] [b] pos) (Ms (CD r ta tb)):=⟨vo ho e.h d.h c⟩
theorem Nb {r l:R2}(ho:BW X (compareOp op) r)(E4:BW X (compareOp FE) l)(i:QE X a ta)(g:QE X b tb)(f:QE X c tc)
  (D:lastMarks [op,FE] [b,c]=false:=by with_unfolding_all rfl):QE X (.Compare a [op,FE] [b,c] pos) (O3 r l ta tb tc):=⟨by
 have i:=i.h;have g:=g.h;have f:=f.h;intro pins s σ H Q I h;refine Compare_chain (AR (i pins s σ H _ I h) fun v s1 ⟨x,H1,I1,w,C⟩=>chain_link (AR (g pins s1 σ H1 _ I1 C) fun u s2 ⟨y,H2,I2,j,B⟩=>
  AR (ho pins s2 σ H2 x y v u _ I2 w j B) fun d p ⟨z,H3,I3,t,k,e,m⟩=>?_)) D
 subst e;cases t;refine uA ?_;cases k with
 | false=>exact ite_ff ⟨.bl false,H3,I3,rfl,m⟩
 | true=>exact ite_tt (chain_last (AR (f pins p σ H3 _ I3 m) fun o s4 ⟨n,H4,I4,q,A⟩=>E4 pins s4 σ H4 y n u o Q I4 j q A))⟩
theorem RP {r l:R2}(ho:BW X (compareOp op) r)(E4:BW X (compareOp FE) l)(i:QE X a ta)(g:QE X b tb)(f:QE X c tc)
  (J:lastMarks [op,FE] [b,c]=false:=by with_unfolding_all rfl):QT X (.Compare a [op,FE] [b,c] pos) (Ms (O3 r l ta tb tc)):=⟨by
 have i:=i.h;have g:=g.h;have f:=f.h;intro pins s σ H Q I h;refine isTrue_chain (AR (i pins s σ H _ I h) fun v s1 ⟨x,H1,I1,A,E⟩=>test_link (AR (g pins s1 σ H1 _ I1 E) fun u s2 ⟨y,H2,I2,j,D⟩=>
  AR (ho pins s2 σ H2 x y v u _ I2 A j D) fun d p ⟨z,H3,I3,w,k,e,m⟩=>?_)) J
 subst e;cases w;refine uA ?_;cases k with
 | false=>
  obtain⟨k',L,F⟩:=m;cases L;exact ite_ff ⟨H3,I3,F⟩
 | true=>
  refine ite_tt (test_last (AR (f pins p σ H3 _ I3 m) fun o s4 ⟨n,H4,I4,t,C⟩=>AR (E4 pins s4 σ H4 y n u o _ I4 j t C) fun d' N G=>?_));obtain⟨M,H5,I5,q,k2,K,B⟩:=G;subst K;cases q;exact uA ⟨H5,I5,B⟩⟩
theorem MV {op}(h:QE X a ta):QE X (.BoolOp op [a] pos) ta:=⟨by have h:=h.h;exact fun pins s σ H Q I hw=>BoolOp_one (h pins s σ H Q I hw)⟩
theorem Tn (f:QE X a ta)(e:QE X (.BoolOp .And (b::rest) pos) tb):QE X (.BoolOp .And (a::b::rest) pos) (Zn ta tb):=⟨by
 have f:=f.h;have e:=e.h;intro pins s σ H Q I h;refine BoolOp_and (AR (f pins s σ H _ I h) fun v s1 FX=>?_);obtain⟨x,H1,I1,g,d⟩:=FX;obtain⟨c,rfl,d⟩:=d;cases g;refine uA ?_;cases c with
 | true=>exact e pins s1 σ H1 Q I1 d
 | false=>exact⟨.bl false,H1,I1,rfl,d⟩⟩
theorem bc (f:QE X a ta)(e:QE X (.BoolOp .Or (b::rest) pos) tb):QE X (.BoolOp .Or (a::b::rest) pos) (aH ta tb):=⟨by
 have f:=f.h;have e:=e.h;intro pins s σ H Q I h;refine BoolOp_or (AR (f pins s σ H _ I h) fun v s1 FX=>?_);obtain⟨x,H1,I1,g,d⟩:=FX;obtain⟨c,rfl,d⟩:=d;cases g;refine uA ?_;cases c with
 | false=>exact e pins s1 σ H1 Q I1 d
 | true=>exact⟨.bl true,H1,I1,rfl,d⟩⟩
theorem GN (b:QT X a tA):QW X (.BoolOp .And [a] pos) tA:=⟨by
 have b:=b.h;intro d pins s σ H Q I h;refine isTrue_and (AR (b pins s σ H Q I h) fun c s1 e=>?_);cases c with
 | true=>exact isTrue_and_nil e
 | false=>exact e⟩
theorem Hb (b:QT X a tA):QW X (.BoolOp .Or [a] pos) tA:=⟨by
 have b:=b.h;intro d pins s σ H Q I h;refine isTrue_or (AR (b pins s σ H Q I h) fun c s1 e=>?_);cases c with
 | false=>exact isTrue_or_nil e
 | true=>exact e⟩
theorem FO (e:QT X a tA)(d:QW X (.BoolOp .And (b::rest) pos) JI):QW X (.BoolOp .And (a::b::rest) pos) (RZ tA JI):=⟨by
 have e:=e.h;have d:=d.h;intro g pins s σ H Q I h;refine isTrue_and (AR (e pins s σ H _ I h) fun c s1 FX=>?_);obtain⟨H1,I1,f⟩:=FX;cases c with
 | true=>exact d g pins s1 σ H1 Q I1 f
 | false=>exact⟨H1,I1,f⟩⟩
theorem Fb (e:QT X a tA)(d:QW X (.BoolOp .Or (b::rest) pos) JI):QW X (.BoolOp .Or (a::b::rest) pos) (ZR tA JI):=⟨by
 have e:=e.h;have d:=d.h;intro g pins s σ H Q I h;refine isTrue_or (AR (e pins s σ H _ I h) fun c s1 FX=>?_);obtain⟨H1,I1,f⟩:=FX;cases c with
 | true=>exact⟨H1,I1,f⟩
 | false=>exact d g pins s1 σ H1 Q I1 f⟩
theorem QW.pt {t:TT}(h:QW X e t):QT X e t:=⟨h.h.pt⟩
theorem Gr (b:QT X a tA):QT X (.UnaryOp .Not a pos) (RB tA):=⟨by
 have b:=b.h;intro pins s σ H Q I h;exact isTrue_not (b pins s σ H (fun c H1=>Q (!c) H1) I h)⟩
theorem IX (h:QE X e te)(f:∀a,isTrue e X.env a=(do let v <- a;standAt e.pos;holding [v] (truthy v)):=by intro _;rfl):QT X e (tB te):=⟨by
 have h:=h.h;intro pins s σ H Q I hw;refine isTrue_plain (AR (h pins s σ H _ I hw) fun v s1 ⟨x,H1,I1,b,c⟩=>?_) (f _);obtain⟨d,rfl,q⟩:=c;cases b;exact uA ⟨H1,I1,q⟩⟩
theorem A4:QA X [] BM:=⟨LO⟩
theorem A0 (c:QE X e te)(b:QA X es t)(a:starEach (e::es) X.env=(false,eval e X.env)::starEach es X.env:=by rfl):QA X (e::es) (Ag te t):=⟨GB c.h b.h a⟩
theorem Bx {x1}(h:QA X es t):QE X (.Tuple es x1 pos) (aF t):=⟨ZB6 h.h⟩
theorem Im (h:QA X es t):QE X (.List es pos) (Ta t):=⟨ra h.h⟩
theorem GK:QO X none Xn:=⟨by
 intro pins s σ H Q I h;rw[evalPart_none];exact oR ⟨none,H,I,.none,h⟩⟩
theorem EX (h:QE X e te):QO X (some e) (Uw te):=⟨by
 have h:=h.h;intro pins s σ H Q I hw;rw[evalPart_some];refine AR (h pins s σ H _ I hw) fun u s1 ZAe=>?_;obtain⟨x,H1,I1,a,b⟩:=ZAe;obtain⟨i,rfl,q⟩:=b;obtain⟨t,rfl⟩:=a;exact⟨some i,H1,I1,.int i t,q⟩⟩
theorem FA {r:V->Option Int->Option Int->Hp->VK->Prop}{lo hi:Option Expr}{tl th:TO}(o:LB X r)(f:QE X e te)(d:QO X lo tl)(c:QO X hi th):QE X (.Subscript e (.Slice lo hi none p2) pos) (Pn r te tl th):=⟨by
 have f:=f.h;have d:=d.h;have c:=c.h;intro pins s σ H Q I h;refine Subscript_ (AR (f pins s σ H _ I h) fun v s1 FX=>?_);obtain⟨x,H1,I1,g,k⟩:=FX;refine wpAny_Slice (AR (d pins s1 σ H1 _ I1 k) fun vl s2 ⟨l,H2,I2,pl,j⟩=>AR (c pins s2 σ H2 _ I2 j) fun vu a Nw=>?_);obtain⟨u,H3,I3,m,i⟩:=Nw;rw[evalPart_none];refine oR ?_;have y:Inv X pins σ H3 { a with heap:=a.heap.push { cls:=.type "slice", data:=.fields #[vl,vu,.none] } }:=I3.kept (t':=a.toks) fun b ob q=>BN _ q
 obtain⟨T,id,t,n,p⟩:=o pins { a with heap:=a.heap.push { cls:=.type "slice", data:=.fields #[vl,vu,.none] } } σ H3 x v vl vu l u a.heap.objs.size Q y g (Heap.IsSliceOf.new ..) pl m i
 show wpAny (model X.prog X.w) X.A (subscriptTail e (.Slice lo hi none p2) v (.ref a.heap.objs.size)) (EP X pins σ Q) X.xe { a with heap:=a.heap.push { cls:=.type "slice", data:=.fields #[vl,vu,.none] } }
 exact tail_any (ops:=[.ref a.heap.objs.size,v]) n t p (by with_unfolding_all rfl)⟩
theorem si {r:R2}(i:IK X r)(d:QE X a ta)(c:QE X b tb)(g:aW b):QE X (.Subscript a b pos) (CD r ta tb):=⟨by
 have d:=d.h;have c:=c.h;intro pins s σ H Q I h;exact Subscript_ (Yn d c I h fun v u s2 x y H2 I2 f e q=>i a b pins s2 σ H2 x y v u Q I2 f e q (g _ _))⟩
theorem tw {k:Nat}(h:AG X.prog X.w X.K X.mg X.base x k ps sp)(c:Bf j X.A)(d:k<=j)(a:QA X (e::es) t)(g:Gl X x:=by rfl)(BQ:(x == ("__debug__":Str))=false:=by decide)
  (he:starEach (e::es) X.env=(false,eval e X.env)::starEach es X.env:=by rfl) (BY:(backTo pos (starEach es X.env)).any (·.1)=false:=by rfl):QE X (.Call (.Name x p) (e::es) [] pos) (DK sp [] E0 t):=⟨by
 have a:=a.h;obtain⟨f,fd,F,b,kp,m⟩:=h;exact ZAV (F.mono d) c g m kp b .nil Zg a BQ he BY⟩
theorem yV {id:String}(i:DR X (.builtin id) r)(g:Gl X x)(f:X.mg x=none)(d:bootBuiltins x=some (.builtin id))(a:QA X (e::es) t)(hn:x ≠ "__name__" := by decide)(BQ:(x == ("__debug__":Str))=false:=by decide)
  (he:starEach (e::es) X.env=(false,eval e X.env)::starEach es X.env:=by rfl) (BY:(backTo pos (starEach es X.env)).any (·.1)=false:=by rfl):QE X (.Call (.Name x p) (e::es) [] pos) (Dm r t):=⟨by
 have a:=a.h;intro pins s σ H Q I h;refine rm (K0 I g f d ?_ hn BQ);exact PyProof.Rows.callWith_builtin1 (AR (a pos pins s σ H _ I h) fun us s1 AK=>by obtain⟨vs,H1,I1,b,c⟩:=AK;exact i pins s1 σ H1 vs us Q I1 b c) he BY⟩
theorem ZAf (i:DR X (.type T) r)(g:Gl X x)(f:X.mg x=none)(d:bootBuiltins x=some (.type T))(a:QA X (e::es) t)(hn:x ≠ "__name__" := by decide)(BQ:(x == ("__debug__":Str))=false:=by decide)
  (he:starEach (e::es) X.env=(false,eval e X.env)::starEach es X.env:=by rfl) (BY:(backTo pos (starEach es X.env)).any (·.1)=false:=by rfl):QE X (.Call (.Name x p) (e::es) [] pos) (Dm r t):=⟨by
 have a:=a.h;intro pins s σ H Q I h;refine rm (K0 I g f d ?_ hn BQ);exact QN (AR (a pos pins s σ H _ I h) fun us s1 AK=>by obtain⟨vs,H1,I1,b,c⟩:=AK;exact i pins s1 σ H1 vs us Q I1 b c) he BY⟩
theorem Gx {id:String}{r:V->List V->Hp->VK->Prop}(i:PlainAttrs T)(slot:Slot T name id)(Xa:typeOf (.builtin id)=pure (.type "method_descriptor"))(j:LW X id r)(ho:QE X o to)(a:QA X (e::es) t)
  (Zi:attributeBase o name X.env (eval o X.env)=eval o X.env:=by rfl)
  (Yk:((backTo Ba (starEach (e::es) X.env)).all (fun x=>!x.1) && (backToKw Ba (keywordEach [] X.env)).all (fun x=>x.1.isSome)
   && decide ((e::es).length+([]:List Keyword).length+(if([]:List Keyword).isEmpty then 0 else 1)<30))=true:=by rfl)
  (Uz:(apos.endLine == Ba.line)=true:=by rfl) (hs:starEach (e::es) X.env=(false,eval e X.env)::starEach es X.env:=by rfl) (VU:(backTo Ba (starEach es X.env)).any (·.1)=false:=by rfl) :
  QE X (.Call (.Attribute o name apos) (e::es) [] Ba) (JE X.K T r to t):=⟨by
 have ho:=ho.h;have a:=a.h;intro pins s σ H Q I h;refine wpAny_Call_method_late Zi Yk Uz rfl (AR (ho pins s σ H _ I h) fun v s1 ZEq=>?_);obtain⟨x,H1,I1,b,ty,g⟩:=ZEq;obtain⟨h1,h2⟩:=sj I1 b ty;refine⟨T,id,i,slot,Xa,h1,h2,?_⟩;have c:=a Ba pins s1 σ H1 _ I1 g;rw[hs] at c ⊢;refine mH (by show(false || (backTo Ba (starEach es X.env)).any (·.1))=false;rw[VU] <;> rfl) (aa ?_)
 exact AR c fun us s2 AK=>by obtain⟨vs,H2,I2,d,f⟩:=AK;exact j pins s2 σ H2 x vs v us Q I2 b d f⟩
variable {elt iter:Expr}{scope:Scope}{Ar:List Str}{js:List Nat}
theorem J3 {l:Expr}{tl:TE}(d:QE X l tl):QI X tg l (YS X.K tl):=⟨by
 have d:=d.h;intro pins s σ H R I h;refine AR (d pins s σ H _ I h) fun v s1 ⟨x,H1,I1,i,j⟩=>?_;obtain⟨tp,a,xs,e,f,q⟩:=j;subst e;cases i;have c:∀b∈[s1.heap.objs.size],EW X pins H1 b:=fun b m=>by
  have e:b=s1.heap.objs.size:=by simpa using m
  subst e;exact I1.Om (Ax _) (I1.AF.fresh (Ax _))
 cases tp with
 | false=>
  obtain⟨A3,g,p,k⟩:=I1.list f;refine wpAny_pyIter_list p.isList ?_;exact⟨s1.heap.objs.size,[s1.heap.objs.size],_,_,H1,rfl,I1.kept (t':=s1.toks) fun b o e=>BN _ e,ZFI a _ xs,⟨_,Bl _ rfl,rfl,rfl⟩,c,q⟩
 | true=>
  obtain⟨A3,g,p,k⟩:=I1.tuple f;refine ZAW (show s1.heap.IsTuple a A3.toArray from p) ?_;exact⟨s1.heap.objs.size,[s1.heap.objs.size],_,_,H1,rfl,I1.kept (t':=s1.toks) fun b o e=>BN _ e,ZEC a _ xs,⟨_,Bl _ rfl,rfl,rfl⟩,c,q⟩⟩
theorem jJ {l:Expr}{tl:TE}(c:QE X l tl):QI X tg l (iZ tl):=⟨by
 have c:=c.h;intro pins s σ H R I h;refine AR (c pins s σ H _ I h) fun v s1 ⟨x,H1,I1,g,i⟩=>?_;obtain⟨z,e,q⟩:=i;subst e;obtain⟨t,rfl⟩:=g;have a:∀b∈[s1.heap.objs.size],EW X pins H1 b:=fun b j=>by
  have e:b=s1.heap.objs.size:=by simpa using j
  subst e;exact I1.Om (Ax _) (I1.AF.fresh (Ax _))
 have kp:∀(ob:Obj),Inv X pins σ H1 { s1 with heap:=s1.heap.push ob }:=fun ob=>I1.kept (t':=s1.toks) fun b o e=>BN _ e
 cases f:z.cps.all (· < 128)
 ·refine wpAny_pyIter_wide f ?_;exact⟨s1.heap.objs.size,[s1.heap.objs.size],_,_,H1,rfl,kp _,iJ (t:=t) (by decide) (fun A' d=>Walks.strWide d _ z t) (fun _ _ _ _ _ st h=>wpAny_pyIter_striter_wide st h),⟨_,Bl _ rfl,rfl,rfl⟩,a,q⟩
 ·refine wpAny_pyIter_ascii f ?_;exact⟨s1.heap.objs.size,[s1.heap.objs.size],_,_,H1,rfl,kp _,iJ (t:=t) (by decide) (fun A' d=>Walks.strAscii d _ z t) (fun _ _ _ _ _ st h=>wpAny_pyIter_striter_ascii st h),⟨_,Bl _ rfl,rfl,rfl⟩,a,q⟩⟩
theorem TY {ta:TA}(l:Gl X "range")(k:X.mg "range"=none)(c:QA X [a] ta)(i:starEach [a] X.env=[(false,eval a X.env)]:=by rfl):QI X tg (.Call (.Name "range" p) [a] [] pos) (W2 ta):=⟨by
 have c:=c.h;intro pins s σ H R I h;refine Call_ (K0 I l k boot_range (QN (AR (c pos pins s σ H _ I h) fun us s1 ⟨vs,H1,I1,f,b⟩=>?_) i rfl));obtain⟨j,e,b,g,q⟩:=b;subst e;cases f with
 | cons r d=>
  cases d;obtain⟨t,rfl⟩:=r;exact call_range_1 (jL I1 (by omega) (by omega) b g (by simpa using q))⟩
theorem iA:Qy X [] bx:=⟨fun pins s σ H Q I h=>by
 rw[mT];exact oR ⟨H,I,h⟩⟩
theorem L5 {t:TT}(a:QT X c t):Qy X [c] t:=⟨ZC9 a.h⟩
theorem KZ (b:X.calm=true)(S:Ep X.N X.env.scope scope x Ar js)(hi:QI X (.Name x px) iter wi)
  (FG:∀fp C s H,Qy (Jj X (Ar++[x]) scope (Ce X.env.cells scope.names) C s H fp) ifs tt) (FP:∀fp C s H,QE (Jj X (Ar++[x]) scope (Ce X.env.cells scope.names) C s H fp) elt te)
  (a:∀v,foldedSetIterable iter X.env v=pure v:=by intro _;rfl):QE X (.ListComp elt [⟨.Name x px,iter,ifs,0⟩] scope pos) (N5 wi js tt te):=⟨u9 b S hi.h (fun fp C s H=>(FG fp C s H).h) (fun fp C s H=>(FP fp C s H).h) a⟩
theorem qt {py Kb:Pos}(c:X.N.Nodup)(FI:X.N[i]?=some y)(a:Loc X.env.scope y)(b:X.calm=true)(S:Ep X.N X.env.scope scope x Ar js)(hi:QI X (.Name x px) iter wi)
  (FG:∀fp C s H,Qy (Jj X (Ar++[x]) scope (Ce X.env.cells scope.names) C s H fp) ifs tt) (FP:∀fp C s H,QE (Jj X (Ar++[x]) scope (Ce X.env.cells scope.names) C s H fp) elt te)
  (Q0:swapsWith (.ListComp elt [⟨.Name x px,iter,ifs,0⟩] scope pos) (some (.Name y py)) Kb.line X.env=pure true:=by rfl)
  (hf:X.fn y=true∨X.env.scope.names.lookup y=some .local:=by first | exact .inl rfl | exact .inr rfl | assumption)
  (hs:∀v,foldedSetIterable iter X.env v=pure v:=by intro _;rfl):QS X (.Assign [.Name y py] (.ListComp elt [⟨.Name x px,iter,ifs,0⟩] scope pos) Kb) (Ea (N5 wi js tt te) (Cg i)):=
 ⟨ZDd c FI a b S hi.h (fun fp C s H=>(FG fp C s H).h) (fun fp C s H=>(FP fp C s H).h) Q0 hf hs⟩
theorem uH (b:X.N.Nodup)(hi:X.N[i]?=some x)(hx:Loc X.env.scope x)(a:X.fn x=true∨X.env.scope.names.lookup x=some .local:=by first | exact .inl rfl | exact .inr rfl | assumption):QG X (.Name x pos) (Cg i):=⟨lg b hi hx a⟩
theorem LP:R9 X [] Pa:=⟨by
 intro pins s σ H vs us Q I r h;obtain⟨e,h⟩:=h;subst e;cases r;exact assignInOrder_nil ⟨σ,H,I,h⟩⟩
theorem Dq {t:TG}{u:IZ}(h1:QG X e t)(h2:R9 X es u)
  (d:(assignEach (e::es) X.env).map (·.2)=assign e X.env::(assignEach es X.env).map (·.2):=by rfl):R9 X (e::es) (He t u):=⟨by
 have h1:=h1.h;have h2:=h2.h;intro pins s σ H vs us Q I r h;obtain⟨v,g,f,h⟩:=h;subst f;cases r with
 | cons r b=>
  rw[d];refine assignInOrder_cons (AR (h1 pins s σ H _ _ _ I r h) fun _ s1 a=>?_);obtain⟨σ1,H1,I1,c⟩:=a;exact h2 pins s1 σ1 H1 _ _ Q I1 b c⟩
theorem Ky {k:Nat}{t:IZ}(i:X.calm=true)(h:R9 X es t)(hn:(assignEach es X.env).length=n:=by rfl)(BI:(assignEach es X.env).findIdx? (·.1)=none:=by rfl):QG X (.Tuple es k pos) (OU X.K n t):=⟨by
 have h:=h.h;intro pins s σ H v u Q I r hw;obtain⟨a,xs,j,f,g,hw⟩:=hw;subst j;cases r;obtain⟨A3,c,d,m⟩:=I.tuple f;refine assign_Tuple_tuple (I.ok.hd i) d (by simp[hn,<- g,c.length]) BI fun h' hx=>?_;have l:Inv X pins σ H { s with heap:=h' }:=I.kept (t':=s.toks) fun b o e=>hx b o (Bm (B8 e)) e
 exact h pins _ σ H xs _ Q l (by simpa using c) hw⟩
theorem Mr {i:Expr}{ti:TE}{t:Rt}(ho:QE X o to)(hi:QE X i ti)(l:ZA X t)
  (m:∀v,assign (.Subscript o i pos) X.env v=(do
   let a <- holding [v] (eval o X.env)
   let b <- holding [v,a] (eval i X.env)
   standAt pos
   holding [v,a,b] (setItem a b v)
   release [v,a,b] []):=by intro _;rfl):QG X (.Subscript o i pos) (Sr to ti t):=⟨by
 have ho:=ho.h;have hi:=hi.h;intro pins s σ H v u Q I r h;rw[m];refine nc (sR (AR (ho pins s σ H _ I h) fun a s1 f=>?_));obtain⟨x,H1,I1,e,k⟩:=f;refine nc (sR (AR (hi pins s1 σ H1 _ I1 k) fun b s2 Z2=>?_));obtain⟨y,H2,I2,d,j⟩:=Z2;refine nc (ZA5 (nc (sR (AR (l pins s2 σ H2 x y v a b u _ I2 e d r j) fun _ n c=>?_))));obtain⟨H3,I3,g⟩:=c;exact wpAny_release ⟨σ,H3,I3,g⟩⟩
end
section
variable {st:Stmt}{u:TS}
theorem Ak:Fh X [] Sd:=⟨Kt⟩
theorem A9 (e:body=st::rest)(h:QS X st t)(h2:Fh X rest u):Fh X body (LQ t u):=⟨ze e h.h h2.h⟩
theorem AA (e:body=[st])(h:QS X st t):Fh X body t:=⟨by have h:=h.h;rw[e];exact ZCa h⟩
theorem ZEZ:QS X st gC:=⟨fun _ _ _ _ _ _ h=>h.elim⟩
theorem DV (b:QE X e te)(a:swapsWith e none pos.line X.env=pure false:=by rfl):QS X (.Expr e pos) (HN te):=⟨Lq b.h a⟩
theorem Aa (a:QE X e te):QS X (.Return (some e) pos) (Fp te):=⟨by
 have a:=a.h;intro pins s σ H D I h;exact wpAny_Return_some (AR (a pins s σ H _ I h) fun v s1 AK=>by obtain⟨x,H1,I1,b,c⟩:=AK;exact⟨x,σ,H1,I1,b,c⟩)⟩
theorem Ai {a b:List Stmt}(e:QT X c tc)(g:Fh X a t)(f:Fh X b u):QS X (.If c a b pos) (SY tc t u):=⟨by
 have e:=e.h;have g:=g.h;have f:=f.h;intro pins s σ H D I h;refine wpAny_If (AR (e pins s σ H _ I h) fun d s1 FX=>?_);obtain⟨H1,I1,i⟩:=FX;cases d with
 | true=>exact g pins s1 σ H1 D I1 i
 | false=>exact f pins s1 σ H1 D I1 i⟩
theorem HV (b:QE X e te)(a:QG X tg g)(f:swapsWithSole [tg] e pos.line X.env=pure false:=by rfl)(hw:swappedStores [tg] e X.env=pure none:=by rfl)
  (h1:(assignEach [tg] X.env).map (·.2)=[assign tg X.env]:=by rfl):QS X (.Assign [tg] e pos) (Ea te g):=⟨by
 have b:=b.h;have a:=a.h;intro pins s σ H D I h;refine wpAny_Assign_stores (AR (b pins s σ H _ I h) fun v s1 ⟨x,H1,I1,c,d⟩=>?_) f hw;rw[h1];exact AR (a pins s1 σ H1 x v _ I1 c d) fun _ s2 q=>q⟩
theorem x3 (f:X.N.Nodup)(hi:X.N[i]?=some x)(hx:Loc X.env.scope x)(a:QE X e te)(d:swapsWith e (some (.Name x pos')) pos.line X.env=pure false:=by rfl)(hf:X.fn x=true∨X.env.scope.names.lookup x=some .local:=by first | exact .inl rfl | exact .inr rfl | assumption):
  QS X (.Assign [.Name x pos'] e pos) (Ea te (Cg i)):=⟨by
 have a:=a.h;intro pins s σ H D I h;refine wpAny_Assign_Name (AR (a pins s σ H _ I h) fun v s1 ⟨y,H1,I1,b,c⟩=>?_) d;exact Zc I1 f hi hx b (fun s2 I2=>⟨_,H1,I2,c⟩) hf⟩
theorem cQ (m:PassesOwn (model X.prog X.w) X.A X.env X.xe)(k:QT X c tc)(l:Fh X body tb):QS X (.While c body [] pos) (dM tc tb):=⟨by
 have k:=k.h;have l:=l.h;intro pins s σ H D I h;obtain⟨W,⟨r,q⟩,turn⟩:=h;refine wpAny_While (codeAny_whileLoop (fun n s'=>∃ σ' H',Inv X pins σ' H' s'/\W n σ' H') ?_ r ⟨σ,H,I,q⟩);rintro n s1 ⟨σ1,H1,I1,p⟩;refine wM m (AR (k pins s1 σ1 H1 _ I1 (turn n σ1 H1 p)) fun b s2 ZEr=>?_);obtain⟨H2,I2,d⟩:=ZEr;cases b with
 | true=>
  obtain⟨N,o,d⟩:=d;rw[pQ rfl];refine wM m (AR (l pins s2 σ1 H2 _ I2 d) fun f t a=>?_);cases f with
  | next=>
   obtain⟨σ3,H3,I3,g⟩:=a;obtain⟨i,j,e⟩:=o σ3 H3 g;exact⟨i,j,σ3,H3,I3,e⟩
  | cont=>
   obtain⟨σ3,H3,I3,g⟩:=a;obtain⟨i,j,e⟩:=o σ3 H3 g;exact⟨i,j,σ3,H3,I3,e⟩
  | brk=>exact a
  | ret v=>exact a
 | false=>
  rw[o5 D7];exact wg ⟨σ1,H2,I2,d⟩⟩
theorem J5 {iter:Expr}(l:PassesOwn (model X.prog X.w) X.A X.env X.xe)(G:X.calm=true)(hi:QI X tg iter wi)(t:QG X tg g)(a:Fh X body tb)
  (hs:∀x,foldedSetIterable iter X.env x=pure x:=by intro _;rfl):QS X (.For tg iter body [] pos) (UC wi g tb):=⟨by
 have hi:=hi.h;have t:=t.h;have a:=a.h;intro pins s σ H D I h;refine wpAny_For (AR (hi pins s σ H _ I h) fun v s1 h1=>AR h1 fun Sa s2 h2=>?_) hs;obtain⟨it,fp,tn,J,H2,e,I2,T,KH,K,W,⟨m0,U⟩,turn⟩:=h2;subst e
 -- tV stays true of HU ZGl objects through HU loop
 have y:∀{H':Hp},(∀b∈fp,H' b=none)->∀b∈fp,EW X pins H' b:=fun hn b a=>⟨hn b a,(K b a).2⟩;refine codeAny_forLoop_any (fun n s'=>∃i σ' H',Inv X pins σ' H' s'/\tn i s'.heap/\(∀b∈fp,H' b=none)/\W i n σ' H') ?_ m0 ⟨0,σ,H2,I2,KH,fun b a=>(K b a).1,U⟩;rintro n C ⟨i,σ3,H3,I3,F,E,S⟩;rcases turn i n σ3 H3 S with⟨stop,qn⟩|⟨go,N,hN,step⟩
 ·refine wM l (AR (T.done X rfl rfl rfl G i pins C σ3 H3 X.xe I3 (y E) F stop) fun r s4 Z2=>?_);obtain⟨q,I4⟩:=Z2;subst q;exact wg ⟨σ3,H3,I4,qn⟩
 ·refine wM l (AR (T.item X rfl rfl rfl G i pins C σ3 H3 X.xe I3 (y E) F go) fun r s4 M=>?_);obtain⟨u,q,h4⟩:=M;subst q;refine wM l (AR h4 fun _ B P=>?_);obtain⟨x,H5,I5,Z,O,Nd,RG⟩:=P;have z:=I5.pinned (y RG) (T.obj _ _ Nd);refine wM l (AR (t _ B σ3 H5 x u _ z Z (step x H5 O)) fun _ V L=>?_);obtain⟨σ6,H6,I6,q6⟩:=L;refine wM l (AR (a _ V σ6 H6 _ I6 q6) fun f p j=>?_);have c:∀{σ7:St} {H7:Hp},Inv X (pins++P4 fp B.heap) σ7 H7 p->N σ7 H7->∃m,m<n/\∃i σ' H',Inv X pins σ' H' p/\tn i p.heap/\(∀b∈fp,H' b=none)/\W i m σ' H':=fun {σ7 H7} I7 k=>by
   obtain⟨m',hm,R⟩:=hN σ7 H7 k;refine⟨m',hm,i+1,σ7,H7,I7.Pj,T.keep _ _ _ Nd fun b a o e=>(I7.pin (b,o) (FY _ (FY _ (SX a e)))).1,fun b a=>?_,R⟩;obtain⟨o,e,d⟩:=T.obj _ _ Nd b a;exact(I7.pin (b,o) (FY _ (FY _ (SX a e)))).2.1
  cases f with
  | next=>obtain⟨σ7,H7,I7,k⟩:=j;exact c I7 k
  | cont=>obtain⟨σ7,H7,I7,k⟩:=j;exact c I7 k
  | brk=>obtain⟨σ7,H7,I7,j⟩:=j;exact⟨σ7,H7,I7.Pj,j⟩
  | ret v=>obtain⟨Q,σ7,H7,I7,Y,j⟩:=j;exact⟨Q,σ7,H7,I7.Pj,Y,j⟩⟩
theorem CF (h:QS X st t):QS X st (Zo t):=⟨by
 have h:=h.h;intro pins s σ H D I hw;obtain⟨J,h1,h2⟩:=hw;refine AR (h pins s σ H _ I h1) fun f s' q=>?_;cases f with
 | next=>obtain⟨σ',H',I',q⟩:=q;exact⟨σ',H',I',h2 σ' H' q⟩
 | ret v=>exact q
 | brk=>exact q
 | cont=>exact q⟩
end
theorem AE.BS {P:Program}{K:ZHP}{mg:ZHR}{base:Heap}{qual:Str}{st:Stmt}{fd:FuncData}{N:List Str}{k:Nat}(F:AE K x qual st f fd)(S:As N ps (Ae st))(len:∀vs H Q E,sp vs H Q E->vs.length=ps.length)
  (Lh:∀(AY:Value) (A:Around) (outer:List Env) (s:Shared) (H:Hp) (vs:List V) (Q:VK) (E:XK),Bf k (A.deeper (envOfC qual (Ae st) s.heap.objs.size f AY))->sp vs H Q E->
   ∃t,Fh (EI Eg P w K mg base N qual (Ae st) f AY A outer s H E).Oh (KW st) t/\t { nx:=fun _ H'=>Q .A8 H',rt:=Q } (start N vs) H):Cj P w K mg base Eg (k+1) f fd ps sp:=
 F.ok S len fun AY A outer s H vs Q E a h=>let ⟨t,q,r⟩:=Lh AY A outer s H vs Q E a h;⟨t,q.h,r⟩
section
variable {b:Expr}{tb:TE}{t:TA}
theorem BF {id:String}(c:DR X (.builtin id) r)(a:X.mg x=none)(d:QA X (e::es) t)(b:Gl X x:=by rfl)(hv:bootBuiltins x=some (.builtin id):=by decide +kernel)(hn:x ≠ "__name__" := by decide)(BQ:(x == ("__debug__":Str))=false:=by decide)
  (he:starEach (e::es) X.env=(false,eval e X.env)::starEach es X.env:=by rfl) (BY:(backTo pos (starEach es X.env)).any (·.1)=false:=by rfl):QE X (.Call (.Name x p) (e::es) [] pos) (Dm r t):=yV c b a hv d hn BQ he BY
theorem D4 (c:DR X (.type T) r)(a:X.mg x=none)(d:QA X (e::es) t)(b:Gl X x:=by rfl)(hv:bootBuiltins x=some (.type T):=by decide +kernel)(hn:x ≠ "__name__" := by decide)(BQ:(x == ("__debug__":Str))=false:=by decide)
  (he:starEach (e::es) X.env=(false,eval e X.env)::starEach es X.env:=by rfl) (BY:(backTo pos (starEach es X.env)).any (·.1)=false:=by rfl):QE X (.Call (.Name x p) (e::es) [] pos) (Dm r t):=ZAf c b a hv d hn BQ he BY
theorem AD {r:R2}(d:IK X r)(f:QE X a ta)(e:QE X b tb)(c:aW b:=by exact fun _ _=>rfl):QE X (.Subscript a b pos) (CD r ta tb):=si d f e c
theorem Af {k:Nat}(h:AG X.prog X.w X.K X.mg X.base x k ps sp)(a:Bf j X.A)(c:QA X (e::es) t)(b:k<=j:=by decide)(hg:Gl X x:=by rfl)(BQ:(x == ("__debug__":Str))=false:=by decide)
  (he:starEach (e::es) X.env=(false,eval e X.env)::starEach es X.env:=by rfl) (BY:(backTo pos (starEach es X.env)).any (·.1)=false:=by rfl):QE X (.Call (.Name x p) (e::es) [] pos) (DK sp [] E0 t):=tw h a b c hg BQ he BY
theorem Ir {r:R2}(ho:BW X (compareOp op) r)(e:QE X a ta)(d:QE X b tb)(c:behindInMarks op b=false:=by first | exact gy _ | with_unfolding_all rfl):QE X (.Compare a [op] [b] pos) (CD r ta tb):=uq ho e d c
theorem AW {r:R2}(ho:BW X (compareOp op) r)(e:QE X a ta)(d:QE X b tb)(c:behindInMarks op b=false:=by first | exact gy _ | with_unfolding_all rfl):QT X (.Compare a [op] [b] pos) (Ms (CD r ta tb)):=rT ho e d c
theorem Az (i:Nat)(b:X.N.Nodup)(a:QE X e te)(hi:X.N[i]?=some x:=by rfl)(hx:Loc X.env.scope x:=by first | exact Or.inl rfl | exact Or.inr rfl)(hs:swapsWith e (some (.Name x pos')) pos.line X.env=pure false:=by rfl)(hf:X.fn x=true∨X.env.scope.names.lookup x=some .local:=by first | exact .inl rfl | exact .inr rfl | assumption):
  QS X (.Assign [.Name x pos'] e pos) (Ea te (Cg i)):=x3 b hi hx a hs hf
theorem Ck (i:Nat)(a:X.N.Nodup)(hi:X.N[i]?=some x:=by rfl)(hx:Loc X.env.scope x:=by first | exact Or.inl rfl | exact Or.inr rfl)(hf:X.fn x=true∨X.env.scope.names.lookup x=some .local:=by first | exact .inl rfl | exact .inr rfl | assumption):QG X (.Name x pos) (Cg i):=uH a hi hx hf
theorem TU {t:Tok}:Dw (.str x) (.str y t)=(y == x):=rfl
theorem YH (x:Str):∀(ss:List Str) (m:Nat) (b:m<ss.length),m<ss.idxOf x->ss[m]≠x
 | [],_,b,_=>absurd b (Nat.not_lt_zero _)
 | a::r,m,b,h=>by
  rw[mV] at h
  by_cases e:a=x
  ·have:(a == x)=true:=by simpa using e
   rw[this] at h;exact absurd h (Nat.not_lt_zero _)
  ·have c:(a == x)=false:=by simpa using e
   rw[c] at h;cases m with
   | zero=>exact e
   | succ k=>
    have h':k+1<r.idxOf x+1:=h;exact YH x r k (by simpa using b) (by omega)
theorem MK (h:x∈ss):∃a:ss.idxOf x<ss.length,ss[ss.idxOf x]=x/\∀m (b:m<ss.length),m<ss.idxOf x->ss[m]≠x:=by
 have a:ss.idxOf x<ss.length:=List.idxOf_lt_length_iff.mpr h;exact⟨a,av a,fun m b Am=>YH x ss m b Am⟩
def cj (K:ZHP):V->List V->Hp->VK->Prop:=fun x vs H Q=>∃(l:Addr) (ss:List Str) (y:Str),x=.ref l/\vs=[.str y]/\AN K H l (ss.map V.str)/\y∈ss/\Q (.int (ss.idxOf y:Nat)) H
theorem Qx:LW X "list.index" (cj X.K):=by
 intro pins s σ H x vs v us Q I i j h;obtain⟨l,ss,y,rfl,rfl,p,o,q⟩:=h;cases i;obtain⟨u,rfl,k⟩:=j.one;obtain⟨A3,r,pl,b⟩:=I.list p;obtain⟨⟨c,d,G,sl⟩,n,ho,f,hd,M0⟩:=id pl;simp only at f hd M0;subst f;subst hd;subst M0;have A:=r.length;rw[AQ] at A;obtain⟨D,V4,L9⟩:=MK o;have at':∀(m:Nat) (a:m<A3.toArray.size),∃t,A3.toArray[m]=.str (ss[m]'(by simp at a;omega)) t:=fun m a=>by
  have B:m<A3.length:=by simpa using a
  obtain⟨h2,t,e⟩:=jw r (BC B);exact⟨t,by simpa using e⟩
 have g:ss.idxOf y<A3.toArray.size:=by simp;omega
 refine ZAg U0 ⟨_,ho,rfl⟩ PySem.F.entry_list_index (PySem.F.args_list_index_2 _ _) (SeqAt.list_indexAt l A3.toArray n none sl u (Dw (.str y)) (ss.idxOf y) g ?_ ?_ (fun m a Am=>?_)) ⟨ho,fun z Xb=>LS k rfl r (by
   rw[Kj];intro w hw;obtain⟨C,_,rfl⟩:=List.mem_map.mp hw;rfl) z (by simpa using Xb),?_⟩
 ·have h1:ss.length<=sizeLine:=by rw[AQ] at b;exact b
  have h2:=Ic;have E:((sizeLine:Nat):Int)<2 ^ 63:=by exact_mod_cast h2
  omega
 ·obtain⟨t,e⟩:=at' _ g;rw[e,TU];simpa using V4
 ·obtain⟨t,e⟩:=at' _ a;rw[e,TU];have:=L9 m (by simp at a;omega) Am
  simpa using this
 ·exact⟨.int _,H,I.tok _,⟨_,rfl⟩,q⟩
theorem ot (l:Addr)(items:Array Value)(n:Nat)(dd:Option Addr)(sl:Array (Option Value))(x:Value)(e:Value->Bool)(j:Nat)(z:j<items.size)(f:e items[j]=true)(L9:∀m (v:m<items.size),m<j->e items[m]=false):
  Meets (Builtin.«tuple.index» ⟨[.ref l,x],[]⟩)
   (fun A R s=>s.heap.get? l=some { cls:=.type "tuple", dict:=dd,data:=.seq items n,slots:=sl }/\(∀y,y∈items->SeqAt.EqAt A.in1 s y x (e y))/\R (.ok (.ret (.int j s.toks))) { s with toks:=s.toks+1 }):=by
 refine Meets.of_wp fun prog w A R s h=>?_;obtain⟨o,g,d,tk,os⟩:=s;obtain⟨p,q,h⟩:=h
 wp_walk using AutoSeq1.wpAny_loadPart' p
 show wpAny _ _ (forIn [:min items.size items.size] ((none:Option Fin),()) (fun(i:Nat) (_:Option Fin×Unit)=>match items[i]? with
  | some y=>(do let b <- eqBool y x;if b=true then do let r <- retInt ((i:Nat):Int);pure (ForInStep.done (some r,())) else pure (ForInStep.yield (none,())))
  | _=>pure (ForInStep.yield (none,())))) _ _ _
 rw[Std.Legacy.Range.forIn_eq_forIn_range'];have hsz:([:min items.size items.size]:Std.Legacy.Range).size=items.size:=by simp[Std.Legacy.Range.size]
 show wpAny _ _ (forIn (List.range' 0 ([:min items.size items.size]:Std.Legacy.Range).size 1) _ _) _ _ _;rw[hsz];refine wpAny_forIn_list _ (fun rest b s'=>b=(none,())/\s'=⟨o,g,d,tk,os⟩/\∃i,rest=List.range' i (items.size - i) 1/\i<=j) _ ?_ ?_ _ _ ⟨rfl,rfl,0,rfl,CO _⟩
 ·rintro i rest b s' ⟨rfl,rfl,a,c,FN⟩;have k:a < items.size:=by omega
  have u:List.range' a (items.size - a) 1=a::List.range' (a+1) (items.size - (a+1)) 1:=by
   have:items.size - a=(items.size - (a+1))+1:=by omega
   rw[this,List.range'_succ]
  rw[u] at c;injection c with qo o8
  subst qo;subst o8;have hi:items[i]?=some items[i]:=by simp[k]
  rw[hi];refine nc (q _ (Array.getElem_mem k) prog w _ _ ?_)
  by_cases t:i=j
  ·subst t;rw[f,pQ rfl]
   wp_walk
   exact⟨_,rfl,h⟩
  ·rw[L9 i k (by omega),o5 (by decide)];exact oR ⟨rfl,rfl,i+1,rfl,by omega⟩
 ·rintro b s' ⟨rfl,rfl,i,c,FN⟩;have:0<(List.range' i (items.size - i) 1).length:=by rw[List.length_range'];omega
  rw[<- c] at this;exact absurd this (by simp)
def gO (K:ZHP):V->List V->Hp->VK->Prop:=fun x vs H Q=>∃(l:Addr) (ss:List Str) (y:Str),x=.ref l/\vs=[.str y]/\AU K H l (ss.map V.str)/\y∈ss/\Q (.int (ss.idxOf y:Nat)) H
theorem ZCG:LW X "tuple.index" (gO X.K):=by
 intro pins s σ H x vs v us Q I g i h;obtain⟨l,ss,y,rfl,rfl,o,k,q⟩:=h;cases g;obtain⟨u,rfl,j⟩:=i.one;obtain⟨A3,r,pl,C⟩:=I.tuple o;obtain⟨⟨c,d,E,sl⟩,ho,b,n,M0⟩:=id pl;simp only at b M0;subst b;subst M0;have p:=r.length;rw[AQ] at p;obtain⟨D,V4,L9⟩:=MK k;have at':∀(m:Nat) (a:m<A3.toArray.size),∃t,A3.toArray[m]=.str (ss[m]'(by simp at a;omega)) t:=fun m a=>by
  have A:m<A3.length:=by simpa using a
  obtain⟨h2,t,e⟩:=jw r (BC A);exact⟨t,by simpa using e⟩
 have f:ss.idxOf y<A3.toArray.size:=by simp;omega
 refine ZAg ZGT ⟨_,ho,rfl⟩ PySem.F.entry_tuple_index (PySem.F.args_tuple_index_2 _ _) (ot l A3.toArray n d sl u (Dw (.str y)) (ss.idxOf y) f ?_ (fun m a Am=>?_)) ⟨ho,fun z Xb=>LS j rfl r (by
   rw[Kj];intro w hw;obtain⟨B,_,rfl⟩:=List.mem_map.mp hw;rfl) z (by simpa using Xb),?_⟩
 ·obtain⟨t,e⟩:=at' _ f;rw[e,TU];simpa using V4
 ·obtain⟨t,e⟩:=at' _ a;rw[e,TU];have:=L9 m (by simp at a;omega) Am
  simpa using this
 ·exact⟨.int _,H,I.tok _,⟨_,rfl⟩,q⟩
def YO (t u:TE):TE:=fun σ H Q=>t σ H Q∨u σ H Q
theorem p4 {t u:TE}(h:QE X e t)(h2:QE X e u):QE X e (YO t u):=⟨fun pins s σ H Q I q=>q.elim (h.h pins s σ H Q I) (h2.h pins s σ H Q I)⟩
end
theorem wN:typeLookup (.type "list_reverseiterator") "__len__"=pure none:=by rw[uQ,qK];kernel_rfl
theorem z7:typeLookup (.type "list_reverseiterator") "__length_hint__"=pure (some (.builtin "list_reverseiterator.__length_hint__")):=by rw[uQ,qK];kernel_rfl
section
variable {fp wr:List Addr}{G:Array GenState->Array GenState->Prop}{P:Nat->Value->Prop}{St:Nat->Shared->Prop}
theorem ZA6 (W:WalksS prog w A.in1 I fp wr G n P St)(c:∀i s,St i s->s.TypeIs (.ref I) "list_reverseiterator")(S:Addr)(res:Value)(l:Nat)(BI:St 0 s)(Ey:S∉fp)(k:I∈fp)
  (j:s.heap.get? S=some { cls:=.type "list", data:=.seq #[] l })
  (hR:∀s' C1 a,Moved (S::wr) G s s'->s'.heap.get? S=some { cls:=.type "list", dict:=none,data:=.seq C1 a,slots:=#[] }->ItemsOf P C1 n->R (.ok (.ret res)) s') (hn:n<=sizeLine) :
  wpAny (model prog w) A.in1 (Builtin.List.listExtendWith (.ref S) (.ref I) res)
   (fun d s'=>match d with | .done f=>R (.ok f) s' | .again a=>a.quiet=true/\codeAny (model prog w) A a R s') (fun e s'=>R (.error e) s') s:=by
 have m:S≠I:=fun e=>Ey (e▸k);unfold Builtin.List.listExtendWith;refine nc (vM (c 0 _ BI) ?_);have h1:Builtin.List.listSameRef (.ref S) (.ref I)=false:=by simp[Builtin.List.listSameRef,m]
 rw[o5 (by rw[h1];decide)];refine nc (W.self 0 _ _ _ BI ?_);refine nc (sR ?_);unfold Builtin.List.listLengthHint;refine nc (uL (c 0 _ BI) wN ?_);show wpAny _ A.in1 (specialOf (Value.ref I) (Str.ofString "__length_hint__") >>= _) _ _ _;refine nc (uL (c 0 _ BI) z7 ?_);generalize g:("list_reverseiterator.__length_hint__":String)=L8
 wp_delta
 rw[show splitId L8=some ("list_reverseiterator","__length_hint__") from by subst g;decide +kernel];subst g;refine nc (vw (b:=true) (c 0 _ BI) (by rw[ub];kernel_rfl) ?_);refine oR ?_;rw[o5 (by decide)];refine oR ⟨xt mO _,xX W hn _ Ey _ n 0 _ _ _ rfl (CO _) BI j (ah P) fun s' C1 a h CU B2=>?_⟩;exact hR s' C1 a h CU B2
theorem x5 (W:WalksS prog w A.in1 I fp wr G n P St)(m:∀i s,St i s->s.TypeIs (.ref I) "list_reverseiterator")(S:Addr)(BI:St 0 s)(Ey:S∉fp)(p:I∈fp)
  (g:s.heap.get? S=some { cls:=.type "list", data:=.seq #[] })
  (hR:∀s' C1 a,Moved (S::wr) G s s'->s'.heap.get? S=some { cls:=.type "list", dict:=none,data:=.seq C1 a,slots:=#[] }->ItemsOf P C1 n->R (.ok (.ret .none)) s') (hn:n<=sizeLine) :
  wpAny (model prog w) A.in1 (Builtin.«list.__init__» ⟨[.ref S,.ref I],[]⟩)
   (fun j s'=>match j with | .done f=>R (.ok f) s' | .again a=>a.quiet=true/\codeAny (model prog w) A a R s') (fun e s'=>R (.error e) s') s:=by
 show wpAny _ A.in1 (do let old <- Builtin.List.listItems (.ref S);Builtin.List.listUpdate (.ref S) (fun _=>#[]);letGo old.toList.reverse;Builtin.List.listExtendWith (.ref S) (.ref I) .none) _ _ s
 refine nc ?_;unfold Builtin.List.listItems;refine nc (yg g rfl (oR ?_));show wpAny _ A.in1 (updateSeq S (fun _=>#[]) >>= fun _=>letGo (#[]:Array Value).toList.reverse >>= fun _=>Builtin.List.listExtendWith (.ref S) (.ref I) .none) _ _ s;refine nc (vJ g rfl ?_);have d:=ED (Obj.mapSeq (fun _=>(#[]:Array Value))) g rfl;have k:∀b o,b≠S->s.heap.get? b=some o->(s.heap.update S (Obj.mapSeq (fun _=>(#[]:Array Value)))).get? b=some o:=
  fun b o c e=>(D8 _ _ (B9 c)).trans e
 refine nc (wpAny_letGo ?_);refine ZA6 (hn:=hn) W m S .none _ (W.frame 0 s _ s.toks BI (Ax _) fun b c o e=>k b o (fun h=>Ey (h▸c)) e) Ey p d fun s' C1 a l CU B2=>?_;exact hR s' C1 a (Moved.trans W.gtrans ((Moved.refl W.grefl).then_heap (Ax _) fun b o c e=>k b o (fun h=>c (h▸Dg)) e) l) CU B2
theorem ZFv (W:WalksS prog w A.in1.in1 I fp wr G n P St)(j:∀i s,St i s->s.TypeIs (.ref I) "list_reverseiterator")(BI:St 0 s)(c:∀b∈fp,b<s.heap.objs.size)(l:I∈fp)
  (k:∀s' C1 d,Moved (s.heap.objs.size::wr) G { s with heap:=s.heap.push { cls:=.type "list", data:=.seq #[] } } s'->
   s'.heap.get? s.heap.objs.size=some { cls:=.type "list", dict:=none,data:=.seq C1 d,slots:=#[] }->ItemsOf P C1 n->Q (.ref s.heap.objs.size) s') (hn:n<=sizeLine) :
  wpAny (model prog w) A (call (.type "list") [.ref I]) Q E s:=by
 have m:s.heap.objs.size∉fp:=fun a=>M9 _ (c _ a);refine ZAm (Q₁:=fun obj f=>obj=.ref s.heap.objs.size/\f={ s with heap:=s.heap.push { cls:=.type "list", data:=.seq #[] } }) mL (mP _) mM
  (code_list_new _ ⟨rfl,rfl⟩) fun obj f h=>?_
 obtain⟨rfl,rfl⟩:=h;have g:(s.heap.push { cls:=.type "list", data:=.seq #[] }).get? s.heap.objs.size=some { cls:=.type "list", data:=.seq #[] }:=Bl _ rfl;refine⟨⟨_,g,rfl⟩,mK _ _,x5 (hn:=hn) W j _ (W.frame 0 s _ s.toks BI (Ax _) fun b _ o e=>BN _ e) m l g fun s' C1 d a CU B2=>?_⟩;exact⟨rfl,k s' C1 d a CU B2⟩
end
theorem ZER:typeLookup (.type "tuple") "__reversed__"=pure none:=by rw[uQ,qK];kernel_rfl
theorem nX:typeLookup (.type "reversed") "__len__"=pure none:=by rw[uQ,qK];kernel_rfl
theorem ZCU:typeLookup (.type "reversed") "__length_hint__"=pure (some (.builtin "reversed.__length_hint__")):=by rw[uQ,qK];kernel_rfl
theorem ZBG:isSubtype (.type "tuple") (.type "dict")=pure false:=by rw[ub];kernel_rfl
theorem Wr:Manifest.owners.lookup (String.ofList ['d','e','s','r','e','v','e','r'].reverse)=some Manifest.sig_reversed:=by kernel_rfl
theorem Og:Slot "reversed" "__next__" "reversed.__next__" :=
 .of (owner:="reversed") (n:="__next__") (by rw[uQ,qK];kernel_rfl) (by decide +kernel) (by decide +kernel) (by decide +kernel)
  (by first | exact .inl (by decide +kernel) | exact .inr (by decide +kernel)) (by rw[ub];kernel_rfl)
theorem bz:entryFor table "reversed.__next__"=some Builtin.«reversed.__next__»:=entryFor_of_tree (by kernel_rfl)
theorem gU (a:Value):argsOk "reversed.__next__" ⟨[a],[]⟩:=by
 unfold argsOk;rw[signature?_of (id:="reversed.__next__") (n:=['_','_','t','x','e','n','_','_']) (o:=['d','e','s','r','e','v','e','r']) (by kernel_rfl) Wr];kernel_rfl
theorem dw:Slot "reversed" "__iter__" "reversed.__iter__" :=
 .of (owner:="reversed") (n:="__iter__") (by rw[uQ,qK];kernel_rfl) (by decide +kernel) (by decide +kernel) (by decide +kernel)
  (by first | exact .inl (by decide +kernel) | exact .inr (by decide +kernel)) (by rw[ub];kernel_rfl)
theorem pk (a:Value):argsOk "reversed.__iter__" ⟨[a],[]⟩:=by
 unfold argsOk;rw[signature?_of (id:="reversed.__iter__") (n:=['_','_','r','e','t','i','_','_']) (o:=['d','e','s','r','e','v','e','r']) (by kernel_rfl) Wr];kernel_rfl
theorem pZ:entryFor table "reversed.__iter__"=some Builtin.«dict_keyiterator.__iter__»:=
 entryFor_alias (id' := "dict_keyiterator.__iter__") (by kernel_rfl) (by first | rfl | decide +kernel | (unfold String.splitOn;simp +decide [String.splitOnAux])) (by decide +kernel) (by kernel_rfl)
theorem gI:Slot "reversed" "__length_hint__" "reversed.__length_hint__" :=
 .of (owner:="reversed") (n:="__length_hint__") (by rw[uQ,qK];kernel_rfl) (by decide +kernel) (by decide +kernel) (by decide +kernel)
  (by first | exact .inl (by decide +kernel) | exact .inr (by decide +kernel)) (by rw[ub];kernel_rfl)
theorem vX:entryFor table "reversed.__length_hint__"=some Builtin.«reversed.__length_hint__»:=entryFor_of_tree (by kernel_rfl)
theorem ZEh (a:Value):argsOk "reversed.__length_hint__" ⟨[a],[]⟩:=by
 unfold argsOk;rw[signature?_of (id:="reversed.__length_hint__") (n:=['_','_','t','n','i','h','_','h','t','g','n','e','l','_','_']) (o:=['d','e','s','r','e','v','e','r']) (by kernel_rfl) Wr];kernel_rfl
theorem ZAl:Slot "reversed" "__init__" "object.__init__" :=
 .of (owner:="object") (n:="__init__") (by rw[uQ,qK];kernel_rfl) (by decide +kernel) (by decide +kernel) (by decide +kernel)
  (by first | exact .inl (by decide +kernel) | exact .inr (by decide +kernel)) (by rw[ub];kernel_rfl)
theorem zo:TypeCalled "reversed" "reversed.__new__" "object.__init__" :=
 ⟨by decide +kernel,by decide +kernel,⟨_,_,F.mro_reversed⟩,F.made_reversed,by decide +kernel,by rw[ub];kernel_rfl,ZAl⟩
noncomputable def OK (l:Addr)(i:Int):Obj:={ cls:=.type "reversed", data:=.fields #[.ref l,rawInt i] }
def FR (h:Heap)(a l:Addr)(i:Int):Prop:=∃o,h.get? a=some o/\o.cls=.type "reversed" /\ o.data=.fields #[.ref l,rawInt i]
theorem FR.typeIs {a:Addr}{i:Int}(x:FR s.heap a l i):s.TypeIs (.ref a) "reversed" := let ⟨o,ho,hc,_⟩:=x;⟨o,ho,hc⟩
theorem FR.at {h h':Heap}{a:Addr}{i:Int}(x:FR h a l i)(e:∀o,h.get? a=some o->h'.get? a=some o):FR h' a l i:=let ⟨o,ho,r⟩:=x;⟨o,e _ ho,r⟩
theorem sL (l:Addr)(items:Array Value)(Eh:(items.size:Int)<2 ^ 63):
  Meets (Builtin.«reversed.__new__» ⟨[.type "reversed", .ref l],[]⟩) (fun _ R s=>IsTup s.heap l items/\
   R (.ok (.ret (.ref s.heap.objs.size))) { s with heap:=s.heap.push (OK l ((items.size:Int) - 1)),toks:=s.toks+1+1 }):=
 .of_wp fun prog w A R s h=>by
  obtain⟨c,h⟩:=h;unfold Builtin.«reversed.__new__»;refine nc (wQ (newClass_reversed _) ?_)
  try dsimp only
  refine nc (wQ (a:=()) (by first | rfl | kernel_rfl) ?_)
  refine nc (wQ (a:=()) (by first | rfl | kernel_rfl) ?_)
  try dsimp only
  refine nc (uL c.typeIs ZER ?_)
  try dsimp only
  refine nc ?_
  wp_delta
  refine nc (vw (b:=false) c.typeIs ZBG ?_);rw[o5 (by decide)];refine nc (uL c.typeIs PyProof.Rows.slot_tuple_getitem.lookup ?_);dsimp only;rw[pQ (by decide +kernel)];refine oR ?_;rw[o5 (by decide)];refine nc (len_tuple c Eh ?_);refine nc (m:=asInt? _) (oR ?_);dsimp only;refine nc ?_;unfold Builtin.SmallTypes.newRecord;dsimp only;exact qz (oR ⟨_,rfl,h⟩)
theorem qy (Eh:(items.size:Int)<2 ^ 63)(a:IsTup s.heap l items)
  (h:Q (.ref s.heap.objs.size) { s with heap:=s.heap.push (OK l ((items.size:Int) - 1)),toks:=s.toks+1+1 }):wpAny (model prog w) A (call (.type "reversed") [.ref l]) Q E s:=by
 refine callType_new zo (by decide) (F.typeCall_reversed_1 _) (F.newCall_reversed_1 _) (fun obj=>F.args_object_init_2 obj _) F.entry_reversed_new (sL l items Eh) ⟨a,?_⟩;exact⟨⟨_,Bl _ rfl,rfl⟩,h⟩
theorem ZDf {x:Value}{Q:Option Value->Shared->Prop}(b:FR s.heap it l (i:Int))(c:IsTup s.heap l items)(hx:items[i]?=some x)(Eh:(items.size:Int)<2 ^ 63)
  (d:∀h' tk,FR h' it l ((i:Int) - 1)->Heap.SameBut it s.heap h'->s.toks<=tk->Q (some x) { s with heap:=h',toks:=tk }):wpAny (model prog w) A (pyNext (.ref it)) Q E s:=by
 obtain⟨o,ho,f,hd⟩:=id b;have hi:i<items.size:=(Array.getElem?_eq_some_iff.mp hx).1;unfold pyNext;refine nc (xf (rL (name:=Str.ofString "__next__") b.typeIs Og
  (tq Og b.typeIs bz ?_ (gU _))))
 unfold Builtin.«reversed.__next__»;refine nc (wQ (a:=(Value.ref it,[])) rfl ?_)
 try dsimp only
 refine nc (r6 ho hd (x:=.ref l) rfl ?_);refine nc (r6 ho hd (x:=rawInt (i:Int)) rfl ?_);show wpAny _ _ (if(i:Int)<0 then _ else _) _ _ s
 rw[o5 (by omega)];refine nc (uL c.typeIs PyProof.Rows.slot_tuple_getitem.lookup ?_);rw[o5 (by simp)];refine nc (wpAny_mkInt ?_);have e:seqIndex? (i:Int) items.size=some i:=by
  unfold seqIndex?;simp;omega
 refine nc (xf (getItem_tuple (s:={ s with toks:=s.toks+1 }) c (by omega) (by omega) e hx ?_))
 dsimp only;refine nc (r6 (s:={ s with toks:=s.toks+1 }) ho hd (x:=rawInt (i:Int)) rfl ?_)
 show wpAny _ _ (setField (.ref it) 1 (rawInt ((i:Int) - 1)) >>= _) _ _ _;refine nc (vQ (s:={ s with toks:=s.toks+1 }) ho hd (by simp) ?_)
 first
 | refine oR ⟨x,rfl,oR (d _ _ ?_ (ag ..) (Dv _))⟩
 | refine nc (oR (oR ⟨x,rfl,oR (d _ _ ?_ (ag ..) (Dv _))⟩))
 exact⟨_,ED _ ho (Nt (Hv hd _)),(mm ..).trans f,by
  rw[Hv hd];simp⟩
theorem ZC7 {Q:Option Value->Shared->Prop}(hh:A.handled=none)(c:FR s.heap it l (-1))
  (g:∀h',Heap.ExtBut it s.heap h'->Q none { s with heap:=h' }):wpAny (model prog w) A (pyNext (.ref it)) Q E s:=by
 obtain⟨o,ho,i,hd⟩:=id c;unfold pyNext;refine nc (xf (rL (name:=Str.ofString "__next__") c.typeIs Og
  (tq Og c.typeIs bz ?_ (gU _))))
 unfold Builtin.«reversed.__next__»;refine nc (wQ (a:=(Value.ref it,[])) rfl ?_)
 try dsimp only
 refine nc (r6 ho hd (x:=.ref l) rfl ?_);refine nc (r6 ho hd (x:=rawInt (-1)) rfl ?_);show wpAny _ _ (if(-1:Int)<0 then _ else _) _ _ s
 rw[pQ (by decide)];refine nc (zd ?_);refine nc ?_
 wp_delta
 refine nc (vQ ho hd (by simp) ?_);have h:=ED (fun ob=>Obj.mapFields (·.set! 1 (rawInt (-1))) ob) ho (Nt (Hv hd _))
 have d:=Hv hd (·.set! 1 (rawInt (-1)))
 refine vQ (s:={ s with heap:=_ }) h d (by simp) ?_
 refine nc ?_;show wpAny _ _ (newExc (.type "StopIteration") [] >>= _) _ _ _;refine nc ?_;simp only[newExc,newTuple];refine nc (qz ?_ (by size_fits));refine nc (m:=firstArgMember _ _) (wQ (a:=Value.none) (by first | rfl | (simp only[firstArgMember];rfl)) ?_)
 refine qz ?_ (by size_fits);simp only[raiseNew];refine nc (wpAny_handled ?_)
 first | rw[show A.in1.handled=none from hh] | rw[hh]
 refine nc (oR (wpAny_throw ?_));refine nc (vw (T:="StopIteration") (b:=true) ⟨_,Bl _ rfl,rfl⟩ isSubtype_stop ?_);refine oR (g _ (fun b ob f e=>?_));exact BN _ (BN _ ((D8 _ _ (B9 f)).trans ((D8 _ _ (B9 f)).trans e)))
theorem ZEN {i:Int}(a:FR s.heap it l i)(h:Q (.ref it) s):wpAny (model prog w) A (pyIter (.ref it)) Q E s:=by
 refine wpAny_pyIter_slot a.typeIs dw (tq dw a.typeIs pZ ?_ (pk _));show wpAny _ _ (ret (.ref it)) _ _ s;exact oR ⟨_,rfl, "reversed", _,a.typeIs,Og.lookup,h⟩
theorem ZAN (hh:A.handled=none)(I l:Addr)(Ap:l≠I)(items:Array Value)(Eh:(items.size:Int)<2 ^ 63):
  Walks prog w A I [I,l] [I] items.size (fun i v=>items[items.size - 1 - i]?=some v) (fun i h=>i<=items.size/\FR h I l ((items.size:Int) - 1 - (i:Int))/\IsTup h l items) where
 sub:=fun b c=>by simp at c;simp[c]
 frame:=fun _ _ _ x j=>⟨x.1,x.2.1.at fun o e=>j I (by simp) o e,let ⟨o,ho,r⟩:=x.2.2;⟨o,j l (by simp) o ho,r⟩⟩
 item:=fun i s Q E hi x d=>by
  have e:(items.size:Int) - 1 - (i:Int)=((items.size - 1 - i:Nat):Int):=by omega
  have a:=x.2.1;rw[e] at a;have hx:items[items.size - 1 - i]?=some (items[items.size - 1 - i]'(by omega)):=Array.getElem?_eq_getElem (by omega);refine ZDf a x.2.2 hx Eh fun h' tk g EM JK=>?_;have k:((items.size - 1 - i:Nat):Int) - 1=(items.size:Int) - 1 - ((i+1:Nat):Int):=by omega
  rw[k] at g;exact d _ h' tk hx ⟨hi,g,x.2.2.extBut EM.extBut Ap⟩ fun b o c f=>EM.extBut b o (fun h=>c (by simp[h])) f
 done:=fun s Q E x d=>by
  have e:(items.size:Int) - 1 - (items.size:Int)=-1:=by omega
  have a:=x.2.1;rw[e] at a;exact ZC7 hh a fun h' LK=>d h' s.toks fun b o c f=>LK b o (fun h=>c (by simp[h])) f
 self:=fun _ _ _ _ x d=>ZEN x.2.1 d
theorem ZBH (b:FR s.heap it l ((items.size:Int) - 1))(c:IsTup s.heap l items)(Eh:(items.size:Int)<2 ^ 63)
  (h:∀t tk,s.toks<=tk->Q (.int (items.size:Int) t) { s with toks:=tk }):wpAny (model prog w) A (call (.builtin "reversed.__length_hint__") [.ref it]) Q E s:=by
 obtain⟨o,ho,d,hd⟩:=id b;refine tq gI b.typeIs vX ?_ (ZEh _);unfold Builtin.«reversed.__length_hint__»;refine nc (wQ (a:=Value.ref it) rfl ?_);refine nc (r6 ho hd (x:=.ref l) rfl ?_);rw[o5 (show ¬ ((Value.ref l == Value.none)=true) from D7)];refine nc (len_tuple c Eh ?_);refine nc (m:=asInt? _) (oR ?_);dsimp only;refine nc (r6 (s:={ s with toks:=_ }) ho hd (x:=rawInt ((items.size:Int) - 1)) rfl ?_)
 show wpAny _ _ (if(items.size:Int)<((items.size:Int) - 1)+1 then _ else _) _ _ _
 rw[o5 (by omega)];show wpAny _ _ (retInt (((items.size:Int) - 1)+1)) _ _ _;have e:((items.size:Int) - 1)+1=items.size:=by omega
 rw[e];exact nc (wpAny_mkInt (oR ⟨_,rfl,h _ _ (by show s.toks<=s.toks+1+1+1;omega)⟩))
theorem y2 (hh:A.handled=none)(Ap:l≠I)(E:items.size<=sizeLine)(S:Addr)(res:Value)(F:Nat)(c:FR s.heap I l ((items.size:Int) - 1))(n:IsTup s.heap l items)(Hz:S≠I)(LF:S≠l)
  (x:s.heap.get? S=some { cls:=.type "list", data:=.seq #[] F })
  (hR:∀s' C1 d,Moved [S,I] (fun a b=>b=a) s s'->s'.heap.get? S=some { cls:=.type "list", dict:=none,data:=.seq C1 d,slots:=#[] }->ItemsOf (fun i v=>items[items.size - 1 - i]?=some v) C1 items.size->R (.ok (.ret res)) s') :
  wpAny (model prog w) A.in1 (Builtin.List.listExtendWith (.ref S) (.ref I) res)
   (fun y s'=>match y with | .done f=>R (.ok f) s' | .again d=>d.quiet=true/\codeAny (model prog w) A d R s') (fun e s'=>R (.error e) s') s:=by
 have C:(items.size:Int)<2 ^ 63:=by
  have h1:=Ic;have P:((sizeLine:Nat):Int)<2 ^ 63:=by exact_mod_cast h1
  omega
 have W:=(ZAN (prog:=prog) (w:=w) (A:=A.in1) hh I l Ap items C).toS;have O:(fun(i:Nat) (s:Shared)=>i<=items.size/\FR s.heap I l ((items.size:Int) - 1 - (i:Int))/\IsTup s.heap l items) 0 s:=⟨CO _,by simpa using c,n⟩
 have N:S∉[I,l]:=by simp[Hz,LF]
 unfold Builtin.List.listExtendWith;refine nc (vM c.typeIs ?_);have h1:Builtin.List.listSameRef (.ref S) (.ref I)=false:=by simp[Builtin.List.listSameRef,Hz]
 rw[o5 (by rw[h1];decide)];refine nc (W.self 0 _ _ _ O ?_);refine nc (sR ?_);unfold Builtin.List.listLengthHint;refine nc (uL c.typeIs nX ?_);show wpAny _ A.in1 (specialOf (Value.ref I) (Str.ofString "__length_hint__") >>= _) _ _ _;refine nc (uL c.typeIs ZCU ?_);generalize G:("reversed.__length_hint__":String)=L8
 wp_delta
 rw[show splitId L8=some ("reversed","__length_hint__") from by subst G;decide +kernel];subst G;refine nc (vw (b:=true) c.typeIs (by rw[ub];kernel_rfl) ?_);rw[o5 (by decide)];refine wd (fun Dd=>absurd Dd (by decide +kernel)) (fun _=>?_);refine nc (zd ?_);refine nc (wQ (gI.bind _) ?_);dsimp only;refine nc (xf (ZBH c n C fun t tk JK=>?_));dsimp only;have ea:asInt? (Value.int (items.size:Int) t)=pure (some (items.size:Int)):=rfl;rw[ea,pure_bind];dsimp only;have L:Builtin.List.listTooLong ((items.size:Int).toNat)=false:=by
  simp[Builtin.List.listTooLong];exact E
 have M:Builtin.List.listFitsIndex (items.size:Int)=true:=by
  unfold Builtin.List.listFitsIndex;rw[Df];exact⟨nv (by omega),nv C⟩
 rw[o5 (by rw[M];decide),o5 (by omega),o5 (by rw[L];decide)];refine oR ?_;have g:∀(h:Heap) (B:Nat),(∀b o,b≠S->s.heap.get? b=some o->h.get? b=some o)->h.get? S=some { cls:=.type "list", data:=.seq #[] B }->
   codeAny (model prog w) A (.builtin "list.extend.loop" ⟨[.ref S,.ref I,res],[]⟩) R { s with heap:=h,toks:=tk }:=by
  intro h B p u;refine xX W E S N res items.size 0 _ #[] B rfl (CO _) ⟨CO _,?_,?_⟩ u (ah _) fun s' C1 d j CU B2=>?_
  ·have:=c.at fun o e=>p I o (B9 Hz) e
   simpa using this
  ·obtain⟨o,ho,r⟩:=n;exact⟨o,p l o (B9 LF) ho,r⟩
  ·exact hR s' C1 d ⟨fun b o k e=>j.heap b o k (p b o (fun z=>k (by simp[z])) e),j.gens,j.drawn,j.os,Bi JK j.toks⟩ CU B2
 refine wd (fun _=>?_) (fun _=>oR ⟨xt mO _,g _ F (fun b o _ e=>e) x⟩);refine nc (zd ?_);refine nc ?_;show wpAny _ _ (updateSeq S (·.push .none) >>= fun _=>updateSeq S (·.pop)) _ _ _
 have K:(#[]:Array Value).size<=sizeLine:=CO _;have D:((#[]:Array Value).push Value.none).size<=sizeLine:=by show 1<=sizeLine;decide
 have J:((#[]:Array Value).push Value.none).size<=sizeLine+1:=bA D;have H:(((#[]:Array Value).push Value.none).pop).size<=sizeLine+1:=CO _;refine nc (vJ (s:={ s with toks:=tk }) x rfl ?_ K J)
 have m:=ED (Obj.mapSeq (·.push Value.none)) x rfl
 refine vJ m rfl ?_ D H;have q:=ED (Obj.mapSeq (·.pop)) m rfl
 refine oR ⟨xt mO _,g _ _ (fun b o k e=>?_) q⟩;exact(D8 _ _ (B9 k)).trans ((D8 _ _ (B9 k)).trans e)
theorem ZDR (hh:A.handled=none)(Ap:l≠I)(p:items.size<=sizeLine)(S:Addr)(h:FR s.heap I l ((items.size:Int) - 1))(q:IsTup s.heap l items)(Hz:S≠I)(LF:S≠l)
  (k:s.heap.get? S=some { cls:=.type "list", data:=.seq #[] })
  (hR:∀s' C1 c,Moved [S,I] (fun a b=>b=a) s s'->s'.heap.get? S=some { cls:=.type "list", dict:=none,data:=.seq C1 c,slots:=#[] }->ItemsOf (fun i v=>items[items.size - 1 - i]?=some v) C1 items.size->R (.ok (.ret .none)) s') :
  wpAny (model prog w) A.in1 (Builtin.«list.__init__» ⟨[.ref S,.ref I],[]⟩)
   (fun m s'=>match m with | .done f=>R (.ok f) s' | .again c=>c.quiet=true/\codeAny (model prog w) A c R s') (fun e s'=>R (.error e) s') s:=by
 show wpAny _ A.in1 (do let old <- Builtin.List.listItems (.ref S);Builtin.List.listUpdate (.ref S) (fun _=>#[]);letGo old.toList.reverse;Builtin.List.listExtendWith (.ref S) (.ref I) .none) _ _ s
 refine nc ?_;unfold Builtin.List.listItems;refine nc (yg k rfl (oR ?_));show wpAny _ A.in1 (updateSeq S (fun _=>#[]) >>= fun _=>letGo (#[]:Array Value).toList.reverse >>= fun _=>Builtin.List.listExtendWith (.ref S) (.ref I) .none) _ _ s;refine nc (vJ k rfl ?_);have j:=ED (Obj.mapSeq (fun _=>(#[]:Array Value))) k rfl;have n:∀b o,b≠S->s.heap.get? b=some o->(s.heap.update S (Obj.mapSeq (fun _=>(#[]:Array Value)))).get? b=some o:=
  fun b o g e=>(D8 _ _ (B9 g)).trans e
 refine nc (wpAny_letGo ?_);refine y2 hh Ap p S .none _ (h.at fun o e=>n I o (B9 Hz) e) (let ⟨o,ho,r⟩:=q;⟨o,n l o (B9 LF) ho,r⟩) Hz LF j fun s' C1 c d CU B2=>?_;exact hR s' C1 c ⟨fun b o g e=>d.heap b o g (n b o (fun z=>g (by simp[z])) e),d.gens,d.drawn,d.os,d.toks⟩ CU B2
theorem rY (hh:A.handled=none)(Ap:l≠I)(k:items.size<=sizeLine)(c:FR s.heap I l ((items.size:Int) - 1))(g:IsTup s.heap l items)
  (n:∀s' C1 d,Moved [s.heap.objs.size,I] (fun a b=>b=a) { s with heap:=s.heap.push { cls:=.type "list", data:=.seq #[] } } s'->
   s'.heap.get? s.heap.objs.size=some { cls:=.type "list", dict:=none,data:=.seq C1 d,slots:=#[] }->ItemsOf (fun i v=>items[items.size - 1 - i]?=some v) C1 items.size->Q (.ref s.heap.objs.size) s') :
  wpAny (model prog w) A (call (.type "list") [.ref I]) Q E s:=by
 have q:s.heap.objs.size≠I:=by obtain⟨o,ho,_⟩:=c;exact Hu (B8 ho)
 have p:s.heap.objs.size≠l:=Hu g.lt;refine ZAm (Q₁:=fun obj f=>obj=.ref s.heap.objs.size/\f={ s with heap:=s.heap.push { cls:=.type "list", data:=.seq #[] } }) mL (mP _) mM
  (code_list_new _ ⟨rfl,rfl⟩) fun obj f j=>?_
 obtain⟨rfl,rfl⟩:=j;have h:(s.heap.push { cls:=.type "list", data:=.seq #[] }).get? s.heap.objs.size=some { cls:=.type "list", data:=.seq #[] }:=Bl _ rfl;refine⟨⟨_,h,rfl⟩,mK _ _,ZDR (A:=A.in1) hh Ap k _ (c.at fun o e=>BN _ e) (g.push _) q p h fun s' C1 d m CU B2=>?_⟩;exact⟨rfl,n s' C1 d m CU B2⟩
end L2
namespace HT
variable {E Q:Value->Shared->Prop}
section
variable {prog:Program}{w:World}{A:Around}{s:Shared}
theorem rZ {t sl:Addr}{items:Array Value}{vl vu:Value}{lo hi:Option Int}(a:IsTup s.heap t items)(c:s.heap.IsSliceOf sl vl vu .none)(pl:IsPart vl lo)(d:IsPart vu hi)
  (hw:Aq items.size 0 lo=0/\Aq items.size items.size hi=items.size) (h:Q (.ref t) s):wpAny (model prog w) A (getItem (.ref t) (.ref sl)) Q E s:=by
 obtain⟨os,La,Sq,O4⟩:=id c;have e:s.TypeIs (.ref sl) "slice" := ⟨os,La,Sq⟩;unfold getItem
 try with_reducible refine sR ?_
 first | refine nc (oR ?_) | skip
 refine nc (wpAny_sequenceKey a.typeIs (by decide) ?_);refine nc (rL (name:=Str.ofString "__getitem__") a.typeIs bI
  (tq bI a.typeIs entry_tuple_getitem ?_ (args_tuple_getitem _ _)))
 show wpAny _ _ (Builtin.Tuple.tupleItemsOf (.ref t) >>= _) _ _ s;refine nc (tupleItemsOf_ a ?_);refine nc (vM e ?_);rw[pQ (by decide)];refine nc (cH c pl d ?_);have b:((((Aq items.size 0 lo:Nat):Int) == 0 && (1:Int) == 1 && (Aq items.size items.size hi - Aq items.size 0 lo) == items.size)=true):=by
  rw[hw.1,hw.2];simp
 first
 | rw[pQ b]
 | simp only[b,ZAp]
 refine nc ?_;unfold Builtin.Tuple.tupleIsExact;refine nc (vM a.typeIs (oR ?_));rw[pQ (by decide)];exact nc (zd (oR ⟨_,rfl,oR h⟩))
end
end HT
namespace L2
variable {X:Cx}{A3 vs:List Value}{pins:ZHQ}{σ:St}{H:Hp}{s:Shared}{h':Heap}{k1 n t':Nat}{fp:List Addr}{I a l:Addr}{w:World}{AJ ss:List Str}{Pc Q:List Value->Shared->Prop}
section
def ba (K:ZHP):V->Option Int->Option Int->Hp->VK->Prop:=fun x lo hi H Q=>∃a xs,x=.ref a/\AU K H a xs/\
 ((HT.Aq xs.length 0 lo=0/\HT.Aq xs.length xs.length hi=xs.length)->Q (.ref a) H)/\(¬ (HT.Aq xs.length 0 lo=0/\HT.Aq xs.length xs.length hi=xs.length)->∀p,H p=none->Q (.ref p) (upd H p (.tup (Cr xs lo hi))))
theorem ZE5:LB X (ba X.K):=by
 intro pins s σ H x v vl vu lo hi sl Q I c f pl d h;obtain⟨a,xs,rfl,hx,i,g⟩:=h
 by_cases hw:HT.Aq xs.length 0 lo=0/\HT.Aq xs.length xs.length hi=xs.length
 ·cases c;obtain⟨A3,r,e,j⟩:=I.tuple hx;have b:A3.toArray.size=xs.length:=by rw[Bu];exact r.length.symm
  refine⟨"tuple", _,PyProof.Rows.slot_tuple_getitem.lookup,e.typeIs,?_⟩;exact HT.rZ e f pl d (by rw[b];exact hw) ⟨.ref a,H,I,rfl,i hw⟩
 ·exact hZ pins s σ H _ v vl vu lo hi sl Q I c f pl d ⟨a,xs,rfl,hx,hw,g hw⟩
theorem wB {ys:List V}(r:Vals ys A3){acc:Array Value}(h:ItemsOf (fun i v=>A3.toArray[A3.toArray.size - 1 - i]?=some v) acc A3.toArray.size):∃us:List Value,Vals ys.reverse us/\acc=us.toArray:=by
 have e:acc=A3.reverse.toArray:=by
  apply Array.toList_inj.mp;rw[List.toList_toArray];apply ao;intro i;have a:acc.size=A3.length:=by rw[h.1];simp
  by_cases hi:i<A3.length
  ·have h1:acc.toList[i]?=some (acc[i]'(by omega)):=by simp
   have h2:=h.2 i (acc[i]'(by omega)) (by simp);rw[h1,List.getElem?_reverse hi];simp at h2;rw[<- h2]
  ·have h1:acc.toList[i]?=none:=Kl (by simp;omega);have h2:A3.reverse[i]?=none:=Kl (by simp;omega);rw[h1,h2]
 exact⟨A3.reverse,r.reverse,e⟩
def WX (K:ZHP)(t:TA):TE:=fun σ H Q=>t σ H fun vs H1=>∃a tp ys,vs=[.ref a]/\EC K tp H1 a ys/\∀l,H1 l=none->Q (.ref l) (upd H1 l (.lst ys.reverse))
theorem jU {p1 p2 Vc JA:Pos}{e:Expr}{t:TA}(J:X.calm=true)(Ke:Gl X "list")(Nu:X.mg "list"=none)(Z3:Gl X "reversed")(TH:X.mg "reversed"=none)(p:QA X [e] t)
  (G:starEach [e] X.env=[(false,eval e X.env)]:=by rfl) (KA:starEach [.Call (.Name "reversed" p2) [e] [] JA] X.env=[(false,eval (.Call (.Name "reversed" p2) [e] [] JA) X.env)]:=by rfl) :
  QE X (.Call (.Name "list" p1) [.Call (.Name "reversed" p2) [e] [] JA] [] Vc) (WX X.K t):=⟨by
 have p:=p.h;intro pins s σ H Q I h;refine rm (K0 I Ke Nu (show bootBuiltins "list"=some (.type "list") by decide +kernel) ?_ (by decide) (by decide));refine QN ?_ KA rfl;rw[KA];show wpAny _ _ (spliced ((false,eval (.Call (.Name "reversed" p2) [e] [] JA) X.env)::[])) _ _ s;refine mI ?_;refine rm (K0 I Z3 TH (show bootBuiltins "reversed"=some (.type "reversed") by decide +kernel) ?_ (by decide) (by decide));refine QN (AR (p JA pins s σ H _ I h) fun us s1 ⟨vs,H1,I1,E,F⟩=>?_) G rfl;obtain⟨a,tp,ys,rfl,y,q⟩:=F;obtain⟨u,rfl,B⟩:=vals1 E;cases B;have k:∀(A3:List Value) (D:Addr) (s2 s':Shared) (acc:Array Value) (c:Nat) (tk:Nat) (ob:Obj),Vals ys A3->ys.length<=sizeLine->D=s1.heap.objs.size->s2={ s1 with heap:=s1.heap.push ob,toks:=tk }->
   Moved [s2.heap.objs.size,D] (fun a b=>b=a) { s2 with heap:=s2.heap.push { cls:=.type "list", data:=.seq #[] } } s'->s'.heap.get? s2.heap.objs.size=some { cls:=.type "list", dict:=none,data:=.seq acc c,slots:=#[] }->
   ItemsOf (fun i v=>A3.toArray[A3.toArray.size - 1 - i]?=some v) acc A3.toArray.size->EP X pins σ Q (.ref s2.heap.objs.size) s':=by
  intro A3 D s2 s' acc c tk ob r f O P d j B2;subst O;subst P;obtain⟨us,C,rfl⟩:=wB r B2;obtain⟨h',g',d',m,OG⟩:=s';have M:g'=s1.gens:=d.gens;have N:d'=s1.drawn:=d.drawn;have L:OG=s1.os:=d.os;subst M;subst N;subst L;have hsz:(s1.heap.push ob).objs.size=s1.heap.objs.size+1:=G2 ..;have kp:∀b o,s1.heap.get? b=some o->h'.get? b=some o:=fun b o e=>by
   have l:=B8 e;refine d.heap b o ?_ (BN _ (BN _ e));show b∉[(s1.heap.push ob).objs.size,s1.heap.objs.size];rw[hsz];simp only[Hs,BJ,ZAh,not_or];exact⟨Bm (Nr l),Bm l⟩
  refine⟨.ref _,_,I1.laid (a:=(s1.heap.push ob).objs.size) (t':=m) kp (by rw[hsz];exact Dv _) (show C9 X.prog X.w _ h' _ (.lst ys.reverse) from⟨by rw[ay];exact f,us,c,C,j⟩),rfl,q _ (I1.AF.fresh (by show _<=_;rw[hsz];exact Dv _))⟩
 have hh:X.A.handled=none:=I1.ok.hd J;cases tp with
 | false=>
  obtain⟨A3,r,pl,f⟩:=I1.list y;have g:=r.length;refine call_reversed_list pl.isList ?_;refine ae ?_;obtain⟨o,n,ho,_⟩:=id pl;have z:=B8 ho;have x:a≠s1.heap.objs.size:=Bm z;have S:0<=A3.toArray.size/\Heap.IsRevIter (s1.heap.push (revObj a ((A3.toArray.size:Int) - 1))) s1.heap.objs.size a ((A3.toArray.size:Int) - 1 - ((0:Nat):Int))/\Heap.IsList (s1.heap.push (revObj a ((A3.toArray.size:Int) - 1))) a A3.toArray:=
   ⟨CO _,⟨_,Bl _ rfl,rfl,by simp[revObj]⟩,pl.isList.push _⟩
  refine ZFv (I:=s1.heap.objs.size) (s:={ s1 with heap:=s1.heap.push (revObj a ((A3.toArray.size:Int) - 1)) }) (Walks.listRev (prog:=X.prog) (w:=X.w) (A:=X.A.in1.in1) hh s1.heap.objs.size a x A3.toArray).toS (fun i s st=>st.2.1.typeIs) S ?_ (by simp) ?_ (by simp;omega)
  ·intro b l;show b<(s1.heap.push _).objs.size;rw[G2];rcases List.mem_cons.mp l with h | h
   ·rw[h];exact bB _
   ·have:b=a:=by simpa using h
    rw[this];exact Nr z
  ·intro s' acc c d j B2;exact k A3 s1.heap.objs.size { s1 with heap:=s1.heap.push (revObj a ((A3.toArray.size:Int) - 1)) } s' acc c s1.toks (revObj a ((A3.toArray.size:Int) - 1)) r f rfl rfl d j B2
 | true=>
  obtain⟨A3,r,pl,f⟩:=I1.tuple y;have g:=r.length;have hn:=Ic;have R:(A3.toArray.size:Int)<2 ^ 63:=by simp only[Bu];omega
  refine qy R pl ?_;refine ae ?_;have x:a≠s1.heap.objs.size:=Bm pl.lt;refine rY (I:=s1.heap.objs.size) (s:={ s1 with heap:=s1.heap.push (OK a ((A3.toArray.size:Int) - 1)),toks:=s1.toks+1+1 }) hh x (by simp;omega) ⟨_,Bl _ rfl,rfl,rfl⟩ (pl.push _) ?_
  intro s' acc c d j B2;exact k A3 s1.heap.objs.size { s1 with heap:=s1.heap.push (OK a ((A3.toArray.size:Int) - 1)),toks:=s1.toks+1+1 } s' acc c (s1.toks+1+1) (OK a ((A3.toArray.size:Int) - 1)) r f rfl rfl d j B2⟩
theorem Inv.lN (I:Inv X pins σ H s)(d:∀b∈fp,EW X pins H b)(k:∀b o,b∉fp->s.heap.get? b=some o->h'.get? b=some o):
  Inv X pins σ H { s with heap:=h',toks:=t' }:=by
 have f:∀b u,H b=some u->b∉fp:=fun b u e z=>by rw[(d b z).1] at e;cases e
 refine I.step (g':=s.gens) (d':=s.drawn) (ch:=fp) (fun b h=>?_) (fun b o _ _ a e _=>k b o a e) (fun b o _ _ a e _=>⟨o.slots,k b o a e⟩) (fun _ _ _ _ n=>n)
  (fun b o a e=>⟨o,k b o a e⟩) (fun _ _ e=>e) (fun _ _ _ e=>e) (fun b ps e=>⟨#[],by rw[e];simp⟩) (fun m g=>?_) (fun b u e=>?_) I.bare
 ·obtain⟨_,h1,_,l,j,i⟩:=d b h;exact⟨l,h1,j,i⟩
 ·obtain⟨o,es,p,ho,r⟩:=g;exact⟨o,es,p,k _ o (fun z=>(d _ z).2.1 rfl) ho,r⟩
 ·refine(I.AF b u e).Gf (fun c v a q=>k c v ?_ q) (fun _ q=>q) fun _ _ q=>q;rcases a with z | z
  ·rw[z];exact f b u e
  ·exact f c _ z
theorem Inv.jt {o:HO}(I:Inv X pins σ H s)(i:∀b∈fp,EW X pins H b)(k:∀b o,b∉fp->s.heap.get? b=some o->h'.get? b=some o)
  (j:s.heap.objs.size<=a) (g:C9 X.prog X.w (upd H a o) h' a o):Inv X pins σ (upd H a o) { s with heap:=h',toks:=t' }:=by
 have hn:H a=none:=I.AF.fresh j;have l:∀b u,H b=some u->b∉fp:=fun b u e z=>by rw[(i b z).1] at e;cases e
 have ne:∀b u,H b=some u->b≠a:=fun b u e=>DN e hn;have h:∀b u,s.heap.get? b=some u->b≠a:=fun b u e=>Bm (DQ (B8 e) j);refine I.step (g':=s.gens) (d':=s.drawn) (ch:=fp) (fun b f=>?_) (fun b o _ _ d e _=>k b o d e) (fun b o _ _ d e _=>⟨o.slots,k b o d e⟩) (fun b o _ e n=>by rw[AX (h b o e)];exact n)
  (fun b o d e=>⟨o,k b o d e⟩) (fun b _ e=>by rw[AX (ne b _ e)];exact e) (fun b _ _ e=>by rw[AX (ne b _ e)];exact e) (fun b ps e=>⟨#[],by rw[AX (ne b _ e),e];simp⟩) (fun m p=>?_) (fun b u e=>?_) I.bare
 ·obtain⟨_,h1,_,y,x,t⟩:=i b f;exact⟨y,h1,x,t⟩
 ·obtain⟨o,es,A,ho,r⟩:=p;exact⟨o,es,A,k _ o (fun z=>(i _ z).2.1 rfl) ho,r⟩
 ·by_cases f:b=a
  ·subst f;rw[AO] at e;cases e;exact g
  ·rw[AX f] at e;refine(I.AF b u e).Gf (fun c v d q=>k c v ?_ q) (fun c q=>by rw[AX (ne c _ q)];exact q) fun c _ q=>by rw[AX (ne c _ q)];exact q
   rcases d with z | z
   ·rw[z];exact l b u e
   ·exact l c _ z
noncomputable def tX (K:ZHP)(a:Addr)(xs:List V):It:=
 ⟨fun i H=>AN K H a xs/\i<xs.length,fun i H x H'=>∃p y,xs[i]?=some y/\x=.ref p/\H p=none/\H'=upd H p (.tup [.int i,y]),fun i H=>AN K H a xs/\xs.length<=i⟩
theorem yZ {P:Program}{K:ZHP}{es:List Expr}{p1:Pos}(a e it:Addr)(xs:List V)(NN:e≠it):
  Turn P w K (.Tuple es k1 p1) (tX K a xs) [e,it] e (fun i h=>(∃old,IsEnum h e it i old)/\h.IsListIter it a i) where
 mem:=by simp
 obj:=fun i h st b f=>by
  obtain⟨⟨old,h1⟩,o,h2,_,d⟩:=st;rcases List.mem_cons.mp f with z | z
  ·subst z;exact⟨_,h1,fun v z=>by cases z⟩
  ·have:b=it:=by simpa using z
   subst this;exact⟨o,h2,fun v z=>by rw[d] at z;cases z⟩
 keep:=fun i h h' st k=>⟨let ⟨old,h1⟩:=st.1;⟨old,k e (by simp) _ h1⟩,st.2.at fun o q=>k it (by simp) o q⟩
 item:=by
  intro X r hw t A i pins s σ H E I j st n;subst r hw t;obtain⟨m,hi⟩:=n;obtain⟨⟨old,g⟩,c⟩:=st;obtain⟨A3,l,p,G⟩:=I.list m;obtain⟨u,J,F⟩:=l.get (BC hi);refine wpAny_pyNext_enum_item g c p.isList (x:=u) (by simpa using J) NN fun h1 IH D OP N VM=>⟨_,rfl,?_⟩
  refine ZAa IH fun h2 KA CK=>?_;have C:e<s.heap.objs.size:=B8 g;have B:h2.get? s.heap.objs.size=some { cls:=.type "tuple", data:=.seq #[.int i s.toks,u] }:=(CK.2 _ (Hu C)).trans OP;have kp:∀b o,b∉[e,it]->s.heap.get? b=some o->h2.get? b=some o:=fun b o f q=>by
   have y:b≠e/\b≠it:=by simpa using f
   exact(CK.2 b y.1).trans (VM b o y.1 y.2 q)
  refine⟨.ref s.heap.objs.size,_,I.jt (t':=s.toks+1) (a:=s.heap.objs.size) (o:=.tup [.int i,xs[i]]) j kp (Ax _) ?_,rfl,⟨_,_,BC hi,rfl,I.AF.fresh (Ax _),rfl⟩,⟨⟨_,KA⟩,D.at fun o q=>(CK.2 it (B9 NN)).trans q⟩,fun b f=>?_⟩
  ·exact⟨(by show 2<=sizeLine;decide),[.int i s.toks,u],.cons ⟨_,rfl⟩ (.cons F .nil),⟨_,B,rfl,_,rfl⟩,fun ob q=>by rw[B] at q;cases q;rfl⟩
  ·have M:b<s.heap.objs.size:=by
    rcases List.mem_cons.mp f with z | z
    ·rw[z];exact C
    ·have:b=it:=by simpa using z
     obtain⟨o,q,_⟩:=c;rw[this];exact B8 q
   rw[AX (Bm M)];exact(j b f).1
 done:=by
  intro X r hw t A i pins s σ H E I j st n;subst r hw t;obtain⟨m,hx⟩:=n;obtain⟨⟨old,g⟩,c⟩:=st;obtain⟨A3,l,p,G⟩:=I.list m;have O:=l.length;exact wpAny_pyNext_enum_end (I.ok.hd A) g c p.isList (by simp;omega) fun h' L=>⟨rfl,I.lN (t':=s.toks) j fun b o f q=>L b o (fun z=>f (by simp[z])) q⟩
 self:=fun _ _ _ _ _ st h=>let ⟨⟨_,g⟩,_⟩:=st;yn g h
variable {prog:Program}{A:Around}{E:Value->Shared->Prop}
variable {R:Result->Shared->Prop}{wr:List Addr}{G:Array GenState->Array GenState->Prop}{P:Nat->Value->Prop}{St:Nat->Shared->Prop}
theorem Inv.drew (I:Inv X pins σ H s)(d:Drawn):Inv X pins σ H { s with drawn:=d }:=
 I.step (h':=s.heap) (g':=s.gens) (t':=s.toks) (d':=d) (ch:=[]) (fun _ z=>nomatch z) (fun b o _ _ _ e _=>e) (fun b o _ _ _ e _=>⟨o.slots,e⟩) (fun _ _ _ _ n=>n) (fun b o _ e=>⟨o,e⟩) (fun _ _ e=>e) (fun _ _ _ e=>e) (fun b ps e=>⟨#[],by rw[e];simp⟩) (fun m a=>a) I.AF I.bare
theorem w6 (a:IsTup s.heap l vs.toArray)(h:Q vs { s with heap:=(s.heap.push (seqObj "list" #[] 0)).update s.heap.objs.size (Obj.mapSeq (·++vs.toArray)) })(hsz:vs.length<=sizeLine):
  wpAny (model prog w) A (collect (.ref l)) Q E s:=by
 obtain⟨o,ho,b,n,hd⟩:=id a;unfold collect;refine nc (wpAny_runValue (ZAK entry_proto_collect' ?_));show wpAny _ _ (newList [] >>= fun x=>again (.builtin "list.__iadd__" ⟨[x,.ref l],[]⟩)) _ _ s;refine nc (wpAny_newList ?_);refine oR ⟨mJ _ (by decide +kernel),ZAK entry_list_iadd' ?_⟩;show wpAny _ _ (Builtin.List.listExtendWith (.ref s.heap.objs.size) (.ref l) (.ref s.heap.objs.size)) _ _ { s with heap:=s.heap.push (seqObj "list" #[] 0) }
 unfold Builtin.List.listExtendWith;have g:(s.heap.push (seqObj "list" #[] 0)).get? l=some o:=BN _ ho;refine nc (vM (T:="tuple") ⟨o,g,b⟩ ?_);rw[pQ (by simp)];refine nc (listItems_at g hd ?_);refine nc (listItems_at (xs:=#[]) (n:=0) (Bl _ rfl) rfl ?_);rw[o5 (by simp)];refine nc (listUpdate_at (xs:=#[]) (n:=0) (Bl _ rfl) rfl ?_ (CO _) (by show(#[]++vs.toArray).size<=sizeLine+1;simp only[Array.size_append,Bu,ax];omega));refine oR ?_;show wpAny (model prog w) A (load s.heap.objs.size >>= fun o=>(match o.data with | .seq xs _=>pure xs.toList | _=>unsupported "internal:collect")) Q E _
 refine nc (wpAny_load (get?_update_seq (Bl _ rfl) _) ?_);show wpAny _ _ (pure ((#[]:Array Value)++vs.toArray).toList) Q E _;have e:((#[]:Array Value)++vs.toArray).toList=vs:=by simp
 rw[e];exact oR h
theorem lu {v:Value}{Q:Value->Shared->Prop}
  (i:∀(A1:Around) (E1:Value->Shared->Prop) (Q1:List Value->Shared->Prop),A1.handled=A.handled->(∀vs s1,Pc vs s1->Q1 vs s1)->wpAny (model prog w) A1 (collect v) Q1 E1 s)
  (h:∀vs s1,Pc vs s1->vs.length<64/\∃ss,StrsAre vs ss/\∀out AJ e h',(∀b o,s1.heap.get? b=some o->h'.get? b=some o)->h'.get? s1.heap.objs.size=some (seqObj "list" out e)->StrsAre out.toList AJ->AJ.Perm ss->sortedS AJ=true->Q (.ref s1.heap.objs.size) { s1 with heap:=h' }) :
  wpAny (model prog w) A (call (.builtin "sorted") [v]) Q E s:=by
 refine Calls.call_function_entry kind_sorted plain_sorted entry_sorted (args_sorted1 _) ?_;unfold Builtin.«sorted»;refine nc (m:=checkCount "sorted" 1 1 _) (oR ?_);refine nc (i _ _ _ rfl fun vs s1 f=>?_);obtain⟨II,ss,JT,k⟩:=h vs s1 f;refine nc (wpAny_newList ?_);have a:(s1.heap.push (seqObj "list" vs.toArray 0)).get? s1.heap.objs.size=some (seqObj "list" vs.toArray 0):=Bl _ rfl;refine nc (sR (tq slot_list_sort ⟨_,a,rfl⟩ entry_list_sort (list_sort_treeK (s:={ s1 with heap:=s1.heap.push (seqObj "list" vs.toArray 0) }) strKind_oneLt a JT.keysOf (fun t r rest e=>keyKind_strs (by rw[<- e];exact JT)) II fun DZ q p=>⟨_,rfl,?_⟩) (args_list_sort _)))
 obtain⟨AJ,n,l,j⟩:=sorted_out_str JT q p;obtain⟨e,g⟩:=sortedHeap_at (out:=(arrOf DZ).map (·.2)) a
 refine oR ⟨_,rfl,k _ AJ e _ (fun b o c=>?_) g n l j⟩;have d:=B8 c;rw[sortedHeap_old (Bm d) (by rw[G2];exact Nr d)];exact BN _ c
end
theorem c6:∀{ss:List Str}{us:List Value},Vals (ss.map V.str) us->StrsAre us ss
 | [],_,.nil=>.nil
 | x::r,_,.cons ⟨t,e⟩ h=>by rw[e];exact .cons x t (c6 h)
theorem eG:∀{ss:List Str}{us:List Value},StrsAre us ss->Vals (ss.map V.str) us
 | _,_,.nil=>.nil
 | _,_,.cons x t h=>.cons ⟨t,rfl⟩ (eG h)
theorem lD {s1:Shared}{Q:VK}(I:Inv X pins σ H s)(f:s1.gens=s.gens)(ho:s1.os=s.os)(d:∀b o,s.heap.get? b=some o->s1.heap.get? b=some o)(c:s.heap.objs.size<=s1.heap.objs.size)
  {out:Array Value}{e:Nat}(kp:∀b o,s1.heap.get? b=some o->h'.get? b=some o) (g:h'.get? s1.heap.objs.size=some (seqObj "list" out e)) (i:StrsAre out.toList AJ) (II:AJ.length<64)
  (q:∀l,H l=none->Q (.ref l) (upd H l (.lst (AJ.map V.str)))):EP X pins σ Q (.ref s1.heap.objs.size) { s1 with heap:=h' }:=by
 obtain⟨h1,g1,j,h,k⟩:=s1;simp only at f ho d c kp g;subst f;subst ho;refine⟨.ref _,_,(I.drew j).laid (a:=h1.objs.size) (h':=h') (t':=h) (o:=.lst (AJ.map V.str)) (fun b o q=>kp b o (d b o q)) c ?_,rfl,q _ (I.AF.fresh c)⟩;refine⟨?_,out.toList,e,eG i,by simpa[seqObj] using g⟩
 rw[AQ];exact Bi (Tx II) (by decide +kernel)
def ZI (K:ZHP):List V->Hp->VK->Prop:=fun xs H Q=>∃(p:Addr) (tp:Bool) (ss:List Str),xs=[.ref p]/\EC K tp H p (ss.map V.str)/\ss.length<64/\∀l AJ,H l=none->AJ.Perm ss->sortedS AJ=true->Q (.ref l) (upd H l (.lst (AJ.map V.str)))
theorem Ry:DR X (.builtin "sorted") (ZI X.K):=by
 intro pins s σ H xs us Q I r h;obtain⟨p,tp,ss,rfl,f,II,q⟩:=h;obtain⟨u,rfl,m⟩:=vals1 r;cases m;have d:∀A3:List Value,Vals (ss.map V.str) A3->(∀(A1:Around) (E1:Value->Shared->Prop) (Q1:List Value->Shared->Prop),Q1 A3 { s with heap:=(s.heap.push (seqObj "list" #[] 0)).update s.heap.objs.size (Obj.mapSeq (·++A3.toArray)) }->wpAny (model X.prog X.w) A1 (collect (.ref p)) Q1 E1 s)->
   wpAny (model X.prog X.w) X.A (call (.builtin "sorted") [.ref p]) (EP X pins σ Q) X.xe s:=by
  intro A3 c j;have a:=c.length;rw[AQ] at a;refine lu (Pc:=fun vs s1=>vs=A3/\s1={ s with heap:=(s.heap.push (seqObj "list" #[] 0)).update s.heap.objs.size (Obj.mapSeq (·++A3.toArray)) }) (fun A1 E1 Q1 _ k=>j A1 E1 Q1 (k _ _ ⟨rfl,rfl⟩)) ?_
  rintro vs s1 ⟨rfl,rfl⟩;refine⟨by omega,ss,c6 c,fun out AJ e h' kp x y g t=>?_⟩;refine lD (s1:={ s with heap:=(s.heap.push (seqObj "list" #[] 0)).update s.heap.objs.size (Obj.mapSeq (·++vs.toArray)) }) I rfl rfl (fun b o i=>?_) (by show s.heap.objs.size<=((s.heap.push (seqObj "list" #[] 0)).update s.heap.objs.size (Obj.mapSeq (·++vs.toArray))).objs.size;rw[Heap.size_update,G2];exact Dv _) kp x y (by rw[g.length_eq];exact II) fun l v=>q l AJ v g t
  show((s.heap.push _).update _ _).get? b=some o;rw[Heap.get?_update_ne _ _ _ _ (Bm (B8 i))];exact BN _ i
 cases tp with
 | false=>
  obtain⟨A3,c,pl,n⟩:=I.list f;have a:=c.length;exact d A3 c fun A1 E1 Q1 k=>collect_list pl.isList k (by omega)
 | true=>
  obtain⟨A3,c,pl,n⟩:=I.tuple f;have a:=c.length;exact d A3 c fun A1 E1 Q1 k=>w6 pl k (by omega)
end L2
namespace MA
noncomputable def Pp:Nat->Nat->List Nat
 | 0,n=>[97+n]
 | k+1,n=>if n<26 then[97+n] else(97+n % 26)::Pp k (n / 26)
theorem Li:∀(k:Nat){n:Nat},n<26->Pp k n=[97+n]
 | 0,_,_=>rfl
 | _+1,_,h=>pQ h
theorem ik:∀(k j n:Nat),n<=k->n<=j->Pp k n=Pp j n
 | 0,j,n,h,_=>by rw[Li 0 (Ht h (by decide)),Li j (Ht h (by decide))]
 | k+1,0,n,_,h=>by rw[Li (k+1) (Ht h (by decide)),Li 0 (Ht h (by decide))]
 | k+1,j+1,n,h1,h2=>by
  by_cases c:n<26
  ·rw[Li _ c,Li _ c]
  ·have d:n / 26<n:=Nat.div_lt_self (DQ (by decide) (ZGJ c)) (by decide);show(if n<26 then _ else _)=(if n<26 then _ else _)
   rw[o5 c,o5 c,ik k j (n / 26) (mf (DQ d h1)) (mf (DQ d h2))]
noncomputable def lets (n:Nat):List Nat:=Pp n n
noncomputable def vals:List Nat->Nat
 | []=>0
 | c::r=>(c - 97)+26 * vals r
theorem Ma {n:Nat}(h:n<26):lets n=[97+n]:=Li n h
theorem P9 {n:Nat}(h:¬ n<26):lets n=(97+n % 26)::lets (n / 26):=by
 cases n with
 | zero=>exact absurd (by decide) h
 | succ k=>
  have d:(k+1) / 26<k+1:=Nat.div_lt_self (Nat.succ_pos k) (by decide);show(if k+1<26 then _ else _)=_
  rw[o5 h,ik k ((k+1) / 26) ((k+1) / 26) (mf d) (Ax _)];rfl
theorem j3:∀n,vals (lets n)=n:=by
 intro n
 induction n using Nat.strongRecOn with
 | _ n a=>
  by_cases h:n<26
  ·rw[Ma h];simp[vals]
  ·rw[P9 h];have:=a (n / 26) (by omega);simp only[vals,this];omega
theorem nZ {a b:Nat}(h:lets a=lets b):a=b:=by rw[<- j3 a,h,j3]
theorem WB (n:Nat):1<=(lets n).length:=by
 by_cases h:n<26
 ·rw[Ma h];simp
 ·rw[P9 h];simp
theorem RH:∀(k n:Nat),n<26 ^ (k+1)->(lets n).length<=k+1
 | 0,n,h=>by rw[Ma (by simpa using h)];simp
 | k+1,n,h=>by
  by_cases h1:n<26
  ·rw[Ma h1];simp
  ·rw[P9 h1];have:=RH k (n / 26) (by rw[Nat.pow_succ] at h;exact Nat.div_lt_of_lt_mul (by rw[Nat.mul_comm];exact h));simp only[CN];omega
theorem ZEs:∀n,∀c∈lets n,97<=c/\c<=122:=by
 intro n
 induction n using Nat.strongRecOn with
 | _ n b=>
  by_cases h:n<26
  ·rw[Ma h];intro c a;simp at a;omega
  ·rw[P9 h];intro c a;rcases List.mem_cons.mp a with e | e
   ·omega
   ·exact b (n / 26) (by omega) c e
theorem hX {α:Type}[DecidableEq α]:∀(k:Nat) (f:Nat->α) (l:List α),(∀i j,i<k->j<k->f i=f j->i=j)->(∀i,i<k->f i∈l)->k<=l.length
 | 0,_,_,_,_=>CO _
 | k+1,f,l,hi,hm=>by
  have h1:=hm k (bB k);have:=hX k f (l.erase (f k)) (fun i j a b e=>hi i j (by omega) (by omega) e) (fun i a=>by
   have c:f i≠f k:=fun e=>by have:=hi i k (by omega) (by omega) e;omega
   exact(ZGI c).mpr (hm i (by omega)))
  rw[ZGD h1] at this;have d:=ZGE h1;omega
end MA
namespace Lw
open L2
variable {a l p:Addr}{H H' H2:Hp}{xs:List V}{o:HO}{α:Type}{hi i m n:Nat}{ns ss:List Str}{x y z:Str}{j r:Int}{A B c:Prop}
def C5 (H:Hp)(p:Addr):Prop:=∃a b:Int,H p=some (.lst [.int a,.int b])/\0<=a/\a<10 ^ 256/\0<=b/\b<2147483647
structure BZ (p:Addr) (H H':Hp):Prop where
 AM:C5 H' p
 same:Gp p H H'
theorem BZ.trans {H1:Hp}(a:BZ p H H1)(b:BZ p H1 H2):BZ p H H2:=⟨b.AM,a.same.trans b.same⟩
theorem BZ.of (h:C5 H p)(s:AB H H'):BZ p H H':=by
 obtain⟨a,b,e,r⟩:=h;exact⟨⟨a,b,s _ _ e,r⟩,Gp.of s⟩
theorem BZ.Pm {K:ZHP}(s:BZ p H H')(h:AN K H a xs)(Ap:a≠p):AN K H' a xs:=by
 rcases h with(h | ⟨o,h⟩) | h
 ·exact .inl (.inl (s.same _ _ Ap h))
 ·exact .inl (.inr ⟨o,s.same _ _ Ap h⟩)
 ·exact .inr h
theorem BZ.at' (s:BZ p H H')(h:H a=some o)(Ap:a≠p):H' a=some o:=s.same _ _ Ap h
theorem N8 {a:Int}(c:-(10 ^ 20)<a)(h1:a<10 ^ 20):a.natAbs<2 ^ 1000:=by
 have b:a.natAbs<10 ^ 20:=by omega
 exact mi b (by decide +kernel)
def T1 (K:ZHP):Sp:=fun vs H Q _=>∃(a:Addr) (ns:List Int) (k:Int),vs=[.ref a,.int k]/\AN K H a (ns.map V.int)/\0<=k/\k<=1000/\∀p H',H p=none->AB H H'->C5 H' p->Q (.ref p) H'
def IC:Sp:=fun vs H Q _=>∃(p:Addr) (m:Int),vs=[.ref p,.int m]/\C5 H p/\0<m/\m<10 ^ 18/\∀r H',0<=r->r<m->BZ p H H'->Q (.int r) H'
noncomputable def DF (l:List Nat):Str:=⟨l.toArray⟩
def kX:Sp:=fun vs H Q _=>∃r:Int,vs=[.int r]/\0<=r/\r<26 ^ 8/\Q (.str (DF (MA.lets r.toNat))) H
theorem OD {xs:List α}{k:Int}{v:α}(b:0<=k)(h:xs[k.toNat]?=some v):Bs xs k=some v:=by
 have a:k=((k.toNat:Nat):Int):=by omega
 have q:=Ie h;rw[<- a] at q;exact q
noncomputable abbrev IQ:Str:="abcdefghijklmnopqrstuvwxyz"
theorem zB:∀j,j<26->IQ.cps.toList[j]?=some (97+j):=by decide +kernel
theorem gs {k:Int}(a:0<=k)(h1:k<26):Bs IQ.cps.toList k=some (97+k.toNat):=OD a (zB _ (by omega))
theorem je (l:List Nat)(c:Nat):DF l++(⟨#[c]⟩:Str)=DF (l++[c]):=by
 show(⟨l.toArray++#[c]⟩:Str)=⟨(l++[c]).toArray⟩;simp
theorem Rk (l:List Nat):(DF l).length=l.length:=by simp[DF,Str.length]
theorem mE {l:List Nat}:(V.str (DF l)=V.str (Str.ofString ""))↔l=[]:=by
 constructor
 ·intro h;injection h with h
  have h2:=rA (fun x=>x.cps.toList) h;have e:(Str.ofString "").cps.toList=[]:=by decide +kernel
  rw[e] at h2
  simpa[DF] using h2
 ·rintro rfl;rfl
theorem small (h:n<=100000):n<=sizeLine:=Bi h (by decide +kernel)
theorem dF {k:Nat}{pre:List Nat}(h:pre++MA.lets k=MA.lets n):(0<k / 26->(pre++[97+k % 26])++MA.lets (k / 26)=MA.lets n)/\(k / 26=0->pre++[97+k % 26]=MA.lets n):=by
 constructor
 ·intro h1;rw[MA.P9 (by omega)] at h;rw[<- h,C0];rfl
 ·intro h1;have h2:k<26:=by omega
  rw[MA.Ma h2] at h;rw[<- h,Nat.mod_eq_of_lt h2]
def Nm (x:Str):Prop:=1<=x.length/\x.length<=8/\∀c∈x.cps.toList,97<=c/\c<=122
instance (x:Str):Decidable (Nm x):=by unfold Nm;exact inferInstance
theorem Ho (x:Str):x.length=x.cps.toList.length:=by simp[Str.length]
theorem YU (h:n<26 ^ 8):Nm (DF (MA.lets n)):=by
 refine⟨by rw[Rk];exact MA.WB n,by rw[Rk];exact MA.RH 7 n h,fun c a=>MA.ZEs n c (by simpa[DF] using a)⟩
noncomputable def menu:List Str:=["put","take","none","ahead","all","over","next","a","ab","abc","abcdefgh","b","step"]
theorem zS:∀x∈menu,Nm x:=by decide +kernel
noncomputable def Qv:List V:=[.str "put", .str "take", .str "none", .str "ahead", .str "all", .str "over", .str "next", .str "a", .str "ab", .str "abc", .str "abcdefgh", .str "b", .str "step"]
theorem ZCw {i:Int}(a:0<=i)(h1:i<13):∃x,Bs Qv i=some (.str x)/\Nm x:=by
 have b:menu.length=13:=rfl;have hi:i.toNat<menu.length:=by omega
 have e:Qv=menu.map V.str:=rfl;refine⟨menu[i.toNat],OD a ?_,zS _ (QC hi)⟩;rw[e,BU,BC hi];rfl
theorem P7 {i:Int}(a:0<=i)(h1:i<ns.length):∃x,Bs (ns.map V.str) i=some (.str x)/\x∈ns/\ns[i.toNat]?=some x:=by
 have hi:i.toNat<ns.length:=by omega
 exact⟨ns[i.toNat],OD a (by rw[BU,BC hi];rfl),QC hi,BC hi⟩
theorem HX (ns:List Str):(ns.map V.str).all Ej=true:=by
 rw[Kj];intro x hx;obtain⟨y,_,rfl⟩:=List.mem_map.mp hx;rfl
theorem R3 (x:Str)(ns:List Str):GD (.str x) (ns.map V.str)=decide (x∈ns):=by
 unfold GD;rw[Ni,List.any_eq_true,ZAZ];constructor
 ·rintro⟨v,b,h⟩;obtain⟨y,a,rfl⟩:=List.mem_map.mp b;have h':(y == x)=true:=h;have:y=x:=by simpa using h'
  rw[<- this];exact a
 ·intro h;exact⟨.str x,List.mem_map.mpr ⟨x,h,rfl⟩,by show(x == x)=true;simp⟩
theorem Ov (xs:List V):Fg xs []=decide (xs=[]):=by
 cases xs with
 | nil=>rfl
 | cons x r=>rw[Na (by simp)];simp
theorem yh (h:x.cps.toList=y.cps.toList):x=y:=by
 cases x;cases y;simp only[Str.mk.injEq];exact Array.toList_inj.mp h
theorem ux (z:Str){a b:Nat}{lo hi:Option Int}(Dd:a<=b)(c:b<=z.length)(e:Builtin.Str.strSliceIndices lo hi 1 z.length=Builtin.Str.strSliceIndices (some (a:Int)) (some (b:Int)) 1 z.length):
  (Txt.slice z lo hi).cps.toList=(z.cps.toList.drop a).take (b - a):=by
 have q:=StrLaws.sliced_plain z Dd c;rw[<- e] at q;unfold Txt.slice;split
 ·rename_i h;have d:(Builtin.Str.strSliceIndices lo hi 1 z.length).length=z.length:=by simpa using h
  rw[e,StrLaws.strSliceIndices_plain Dd c,AQ,List.length_range] at d;have h1:a=0:=by omega
  have h2:b=z.length:=by omega
  subst h1;subst h2;rw[ak,bD,Ho,Kn]
 ·rw[<- q]
theorem uI (h:0<=j):max (0:Int) (min j (n:Int))=max 0 (min ((min j.toNat n:Nat):Int) (n:Int)):=by
 have e:((min j.toNat n:Nat):Int)=min j n:=by
  rcases QL j.toNat n with c | c
  ·rw[Jd c,mQ h,Int.min_eq_left (by have:=Int.ofNat_le.mpr c;rw[mQ h] at this;exact this)]
  ·rw[QM c,Int.min_eq_right (by have:=Int.ofNat_le.mpr c;rw[mQ h] at this;exact this)]
 rw[e,Int.min_assoc,Int.min_self]
theorem ZBv (z:Str)(h:0<=j):(Txt.slice z none (some j)).cps.toList=z.cps.toList.take j.toNat:=by
 have e:=ux z (a:=0) (b:=min j.toNat z.length) (lo:=none) (hi:=some j) (CO _) (ZGK _ _) (by
  have h1:¬ j<0:=by omega
  have h2:¬ (((min j.toNat z.length:Nat):Int)<0):=Int.not_lt.mpr (ZG1 _);have c:max (0:Int) (min j (z.length:Int))=max 0 (min ((min j.toNat z.length:Nat):Int) (z.length:Int)):=uI h;simp only[Builtin.Str.strSliceIndices,h1,h2,ZBM,c];rfl)
 rw[e,ak,bD];rcases QL j.toNat z.length with h1 | h1
 ·rw[Jd h1]
 ·rw[QM h1,Ho,Kn,QJ (by rw[<- Ho];exact h1)]
theorem br (h:1<=j)(d:j<=8)(b:1<=z.length)(a:∀c∈z.cps.toList,97<=c/\c<=122):Nm (Txt.slice z none (some j)):=by
 have e:=ZBv z (j:=j) (by omega);refine⟨?_,?_,fun c L6=>a c ?_⟩
 ·rw[Ho,e,Cn,<- Ho];omega
 ·rw[Ho,e,Cn];omega
 ·rw[e] at L6;exact b4 L6
theorem i7 (x y:Str):(x++y).cps.toList=x.cps.toList++y.cps.toList:=by
 show(x.cps++y.cps).toList=_;simp
theorem dG (x y:Str):(x++y).length=x.length+y.length:=by rw[Ho,i7,CM,<- Ho,<- Ho]
def Pq (K:ZHP):Sp:=fun vs H Q _=>∃(p q:Addr) (ns:List Str),vs=[.ref p,.ref q]/\C5 H p/\AN K H q (ns.map V.str)/\q≠p/\(∀x∈ns,Nm x)/\ns.length<=1000/\∀x H',Nm x->x∉ns->BZ p H H'->Q (.str x) H'
theorem ZAL {k:Nat}(h:∀j,j<k->DF (MA.lets j)∈ns):k<=ns.length:=
 MA.hX k (fun j=>DF (MA.lets j)) ns (fun i j _ _ e=>MA.nZ (by
  have:=rA (fun x=>x.cps.toList) e
  simpa[DF] using this)) h
theorem rO:1000<26 ^ 8:=by decide +kernel
theorem ZAo:(1000:Int)<26 ^ 8:=by decide +kernel
theorem ZFp:(26:Int) ^ (8:Int).toNat - 26<26 ^ 8:=by decide +kernel
theorem wY:(26:Int)<26 ^ 8:=by decide +kernel
theorem ZDE:(0:Int)<26 ^ (8:Int).toNat - 26:=by decide +kernel
theorem zC:(26:Int) ^ (8:Int).toNat - 26<10 ^ 18:=by decide +kernel
theorem gv (a:0<=r)(h:r<26 ^ 8):r.toNat<26 ^ 8:=by omega
theorem BZ.upd (s:BZ p H H2)(h:H l=none)(Ap:l≠p):BZ p H (upd H2 l o):=by
 obtain⟨a,b,e,r⟩:=s.AM;refine⟨⟨a,b,by rw[AX (B9 Ap)];exact e,r⟩,fun c u d q=>?_⟩;rw[AX (DN q h)];exact s.same c u d q
theorem BZ.none (s:BZ p H H2)(h:H2 l=none):H l=none:=by
 cases q:H l with
 | none=>rfl
 | some o=>
  by_cases e:l=p
  ·obtain⟨a,b,c,_⟩:=s.AM;rw[<- e,h] at c;cases c
  ·rw[s.same l o e q] at h;cases h
theorem C5.ne (h:C5 H p)(a:H l=none):l≠p:=by
 obtain⟨_,_,e,_⟩:=h;exact(DN e a).symm
theorem AB.none (s:AB H H2)(h:H2 l=none):H l=none:=by
 cases q:H l with
 | none=>rfl
 | some o=>rw[s l o q] at h;cases h
def jH:Sp:=fun vs H Q _=>∃(p:Addr) (m:Int),vs=[.ref p,.int m]/\C5 H p/\0<=m/\m<=100/\
 ∀l H' (ns:List Str),H l=none->BZ p H H'->H' l=some (.lst (ns.map V.str))->(ns.length:Int)=m->(∀x∈ns,Nm x)->ns.Nodup->Q (.ref l) H'
def YR:Sp:=fun vs H Q _=>∃(p:Addr) (m:Int),vs=[.ref p,.int m]/\C5 H p/\1<=m/\m<=100/\
 ∀l H' (ns:List Str),H l=none->BZ p H H'->H' l=some (.lst (ns.map V.str))->(ns.length:Int)<=m->(∀x∈ns,Nm x)->ns.Nodup->Q (.ref l) H'
theorem Rr {l:List α}{x:α}(h:l.Nodup)(hx:x∉l):(l++[x]).Nodup:=by
 rw[Cu];exact⟨h,by simp,fun a d b c=>by
  have:b=x:=by simpa using c
  subst this;rintro rfl;exact hx d⟩
theorem zY {m:Int}(b:0<=j)(h1:j<3)(a:1<=m):∃k:Int,Bs [V.int 0,V.int 1,V.int m] j=some (.int k)/\0<=k/\k<=m:=by
 have:j=0∨j=1∨j=2:=by omega
 rcases this with rfl | rfl | rfl
 ·exact⟨0,rfl,by omega,by omega⟩
 ·exact⟨1,rfl,by omega,by omega⟩
 ·exact⟨m,rfl,by omega,by omega⟩
noncomputable def LR (c:Nat):Bool:=!(Builtin.Str.occurrences IQ ⟨#[c]⟩ 0 IQ.length 1).isEmpty
noncomputable def isNm (x:Str):Bool:=decide ((1:Int)<=x.length) && (decide ((x.length:Int)<=8) && x.cps.toList.all LR)
def Lo:Sp:=fun vs H Q _=>∃x:Str,vs=[.str x]/\x.length<=1000/\∀H',AB H H'->Q (.bl (isNm x)) H'
theorem ZAA (l:List α):l.filter (fun _=>true)=l:=List.filter_eq_self.mpr fun _ _=>rfl
noncomputable def Zk:V->V
 | .str y=>.bl (!(Builtin.Str.occurrences IQ y 0 IQ.length 1).isEmpty)
 | _=>.bl false
theorem kT (x:Str):((GY x).filter (fun _=>true)).map Zk=(x.cps.toList.map LR).map V.bl:=by
 unfold GY;rw[ZAA,QF,QF];rfl
theorem signs_get {v:V}(h:(GY x)[i]?=some v):∃c,v=.str ⟨#[c]⟩:=by
 unfold GY at h;rw[BU] at h;cases q:x.cps.toList[i]? with
 | none=>rw[q] at h;cases h
 | some c=>rw[q] at h;simp at h;exact⟨c,h.symm⟩
theorem all_map (f:α->Bool)(l:List α):(l.map f).all id=l.all f:=by rw[List.all_map];rfl
theorem LY {v:V}(h:(ss.map V.str)[i]?=some v):∃x,v=.str x/\x∈ss:=by
 rw[BU] at h;cases q:ss[i]? with
 | none=>rw[q] at h;cases h
 | some x=>rw[q] at h;simp at h;exact⟨x,h.symm,Dh q⟩
theorem vS (xs:List Str):Fg (xs.map V.str) (xs.map V.str)=true:=by
 rw[Mf rfl,Kj];intro j a;have b:j<xs.length:=by simpa using a
 have e:(xs.map V.str)[j]?=some (.str xs[j]):=by rw[BU,BC b];rfl
 rw[PX e];show(xs[j] == xs[j])=true;simp
def Pu (K:ZHP):Sp:=fun vs H Q _=>∃(a:Addr) (ns:List Int),vs=[.ref a]/\AN K H a (ns.map V.int)/\ns.length<=63/\∀H',Q (.bl true) H'
inductive Ab where
 | put (x:Str) (i:Nat) | take (x:Str) | move (x:Str) (i:Nat) | turn (lo hi:Nat)
noncomputable def Ab.vals:Ab->List V
 | .put x i=>[.str "put", .str x,.int i]
 | .take x=>[.str "take", .str x]
 | .move x i=>[.str "move", .str x,.int i]
 | .turn lo hi=>[.str "turn", .int lo,.int hi]
def Ab.Ok (m:Nat)(ns:List Str):Ab->Prop
 | .put x i=>Nm x/\x∉ns/\i<=ns.length/\ns.length<m
 | .take x=>x∈ns
 | .move x i=>x∈ns/\i<ns.length
 | .turn lo hi=>lo<=hi/\hi<=ns.length
noncomputable def ins (ns:List Str)(x:Str)(i:Nat):List Str:=ns.take i++x::ns.drop i
noncomputable def wo (ns:List Str)(x:Str):List Str:=ns.filter fun y=>!decide (y=x)
noncomputable def Fm (ns:List Str)(lo hi:Nat):List Str:=ns.take lo++((ns.drop lo).take (hi - lo)).reverse++ns.drop hi
noncomputable def Ab.done (ns:List Str):Ab->List Str
 | .put x i=>ins ns x i
 | .take x=>wo ns x
 | .move x i=>ins (wo ns x) x i
 | .turn lo hi=>Fm ns lo hi
theorem Qq (h:x∉ns):wo ns x=ns:=by
 unfold wo;rw[ZGB];intro y a;have:y≠x:=fun e=>h (e▸a);simp[this]
theorem Jq:y∈wo ns x↔y∈ns/\y≠x:=by
 unfold wo;rw[ma];simp
theorem jv (h:ns.Nodup):(wo ns x).Nodup:=h.filter _
theorem y0 (as bs:List Str)(x:Str):wo (as++bs) x=wo as x++wo bs x:=by unfold wo;rw[aq]
theorem ZBR (bs:List Str)(x:Str):wo (x::bs) x=wo bs x:=by unfold wo;rw[ar];simp
theorem Xr (h:x∈ns):ns=ns.take (ns.idxOf x)++x::ns.drop (ns.idxOf x+1):=by
 have a:ns.idxOf x<ns.length:=List.idxOf_lt_length_iff.mpr h;have e:ns[ns.idxOf x]=x:=av a
 conv=>lhs;rw[<- Km (ns.idxOf x) ns,mR a,e]
theorem ZBq (h:x∈ns):x∉ns.take (ns.idxOf x):=by
 intro a;obtain⟨m,Nu,e⟩:=List.mem_iff_getElem.mp a;rw[Cn] at Nu;rw[List.getElem_take] at e;exact YH x ns m (by omega) (by omega) e
theorem ZBI (h:x∈ns)(nd:ns.Nodup):x∉ns.drop (ns.idxOf x+1):=by
 rw[Xr h] at nd;have h2:=(List.nodup_append.mp nd).2.1;exact(List.nodup_cons.mp h2).1
theorem rN (h:x∈ns)(nd:ns.Nodup):wo ns x=ns.take (ns.idxOf x)++ns.drop (ns.idxOf x+1):=by
 conv=>lhs;rw[Xr h]
 rw[y0,ZBR,Qq (ZBq h),Qq (ZBI h nd)]
theorem Ou (h:x∈ns)(nd:ns.Nodup):(wo ns x).length+1=ns.length:=by
 have a:ns.idxOf x<ns.length:=List.idxOf_lt_length_iff.mpr h;rw[rN h nd,CM,Cn,Em];omega
theorem Qi:(ins ns x i).length=ns.length+1:=by
 unfold ins;rw[CM,CN,Cn,Em];omega
theorem RT:y∈ins ns x i↔y=x∨y∈ns:=by
 unfold ins;rw[Iu,Hs];have:y∈ns↔y∈ns.take i∨y∈ns.drop i:=by rw[<- Iu,Km]
 rw[this];constructor
 ·rintro(h | h | h)
  ·exact .inr (.inl h)
  ·exact .inl h
  ·exact .inr (.inr h)
 ·rintro(h | h | h)
  ·exact .inr (.inl h)
  ·exact .inl h
  ·exact .inr (.inr h)
theorem Ye (h:ns.Nodup)(hx:x∉ns):(ins ns x i).Nodup:=by
 unfold ins;have e:(ns.take i++ns.drop i).Nodup:=by rw[Km];exact h
 obtain⟨h1,h2,f⟩:=List.nodup_append.mp e;rw[Cu];refine⟨h1,List.nodup_cons.mpr ⟨fun z=>hx (md z),h2⟩,fun a c b d=>?_⟩;rcases List.mem_cons.mp d with z | z
 ·rw[z];rintro rfl;exact hx (b4 c)
 ·exact f a c b z
theorem cT {lo:Nat}(h1:lo<=hi)(h2:hi<=ns.length):(Fm ns lo hi).length=ns.length:=by
 unfold Fm;rw[CM,CM,ay,Cn,Cn,Em,Em];omega
theorem fe {lo:Nat}(h1:lo<=hi):ns=ns.take lo++(ns.drop lo).take (hi - lo)++ns.drop hi:=by
 have:ns.drop hi=(ns.drop lo).drop (hi - lo):=by rw[List.drop_drop];congr 1;omega
 rw[this,C0,Km,Km]
theorem cu {lo:Nat}(h1:lo<=hi):y∈Fm ns lo hi↔y∈ns:=by
 conv=>rhs;rw[fe (ns:=ns) h1]
 unfold Fm;simp only[Iu,List.mem_reverse]
theorem ZBw {lo:Nat}(h1:lo<=hi)(nd:ns.Nodup):(Fm ns lo hi).Nodup:=by
 have p:List.Perm (Fm ns lo hi) ns:=by
  conv=>rhs;rw[fe (ns:=ns) h1]
  unfold Fm;exact((List.reverse_perm _).append_left _).append_right _
 exact p.nodup_iff.mpr nd
theorem Ab.step {d:Ab}(h:d.Ok m ns)(nd:ns.Nodup)(b:∀x∈ns,Nm x)(c:ns.length<=m):
  (d.done ns).Nodup/\(∀x∈d.done ns,Nm x)/\(d.done ns).length<=m:=by
 cases d with
 | put x i=>
  obtain⟨h1,h2,g,f⟩:=h;refine⟨Ye nd h2,fun y a=>?_,?_⟩
  ·rcases RT.mp a with e | e
   ·rw[e];exact h1
   ·exact b y e
  ·show(ins ns x i).length<=m;rw[Qi];omega
 | take x=>
  refine⟨jv nd,fun y a=>b y (Jq.mp a).1,?_⟩;have:=Ou h nd;show(wo ns x).length<=m;omega
 | move x i=>
  obtain⟨h1,h2⟩:=h;refine⟨Ye (jv nd) (fun z=>(Jq.mp z).2 rfl),fun y a=>?_,?_⟩
  ·rcases RT.mp a with e | e
   ·rw[e];exact b x h1
   ·exact b y (Jq.mp e).1
  ·have:=Ou h1 nd;show(ins (wo ns x) x i).length<=m;rw[Qi];omega
 | turn lo hi=>
  obtain⟨h1,h2⟩:=h;exact⟨ZBw h1 nd,fun y a=>b y ((cu h1).mp a),by show(Fm ns lo hi).length<=m;rw[cT h1 h2];exact c⟩
theorem bS (xs:List V)(i:Nat):Cr xs none (some (i:Int))=xs.take i:=by
 unfold Cr;rw[HT.R1,HT.Ji,ak,bD];rcases QL i xs.length with h | h
 ·rw[Jd h]
 ·rw[QM h,Kn,QJ h]
theorem fg (xs:List V)(i:Nat):Cr xs (some (i:Int)) none=xs.drop i:=by
 unfold Cr;rw[HT.R1,HT.Ji];rcases QL i xs.length with h | h
 ·rw[Jd h,QJ (by rw[Em];omega)]
 ·rw[QM h,Nat.sub_self,List.take_zero,ZG7 h]
theorem ng (xs:List V){j:Nat}(hi:i<=j)(a:j<=xs.length):Cr xs (some (i:Int)) (some (j:Int))=(xs.drop i).take (j - i):=by
 unfold Cr;rw[HT.Ji,HT.Ji,Jd a,Jd (Bi hi a)]
noncomputable def FW (tp:Bool)(xs:List V):HO:=match tp with
 | false=>.lst xs
 | true=>.tup xs
theorem FW.sq {K:ZHP}{tp:Bool}(h:H a=some (FW tp xs)):EC K tp H a xs:=by
 cases tp
 ·exact AN.of h
 ·exact AU.of h
def ZEV (H:Hp)(Q:VK)(ns:List Str):Prop:=∀l H',H l=none->AB H H'->H' l=some (.lst (ns.map V.str))->Q (.ref l) H'
def aO:Sp:=fun vs H Q _=>∃(a t:Addr) (ns:List Str) (d:Ab),vs=[.ref a,.ref t]/\H a=some (.lst (ns.map V.str))/\H t=some (.tup d.vals)/\d.Ok 40 ns/\ns.length<=40/\ns.Nodup/\ZEV H Q (d.done ns)
def SK:Sp:=fun vs H Q _=>∃(p a:Addr) (m:Nat) (ns:List Str),vs=[.ref p,.ref a,.int m]/\C5 H p/\H a=some (.lst (ns.map V.str))/\a≠p/\(∀x∈ns,Nm x)/\ns.length<=m/\1<=m/\m<=100/\
 ∀(d:Ab) t H',H t=none->BZ p H H'->H' t=some (.tup d.vals)->d.Ok m ns->Q (.ref t) H'
theorem Vp [Decidable c](h:c)(a:A):if c then A else B:=by rw[pQ h];exact a
theorem Ah [Decidable c](h:¬ c)(b:B):if c then A else B:=by rw[o5 h];exact b
theorem ZFW:∀j,j<26->LR (97+j)=true:=by decide +kernel
theorem jI (h:Nm x):isNm x=true:=by
 obtain⟨h1,h2,f⟩:=h;unfold isNm;rw[nv (by omega),nv (by omega),aZ,aZ,Kj];intro c d;obtain⟨a,b⟩:=f c d;have:=ZFW (c - 97) (by omega);have e:97+(c - 97)=c:=by omega
 rw[e] at this;exact this
theorem HF (ns:List Str):(ns.map V.str).length=ns.length:=AQ _
noncomputable def IF (y:V):V->Bool:=fun v=>!decide (v=y)
theorem OX (ns:List Str)(x:Str):((ns.map V.str).filter (IF (.str x))).map (fun v=>v)=(wo ns x).map V.str:=by
 unfold wo IF;rw[mZ,mS]
 congr 1
 apply ZGA;intro y _;simp
theorem tj (ns:List Str)(i:Int):((ns.map V.str).filter (IF (.int i))).map (fun v=>v)=ns.map V.str:=by
 unfold IF;rw[mZ,ZGB];intro v a;obtain⟨y,_,rfl⟩:=List.mem_map.mp a;rfl
theorem jK (s:AB H H')(h:H l=none):AB H (upd H' l o):=fun b u q=>by rw[AX (DN q h)];exact s b u q
theorem qm (K:ZHP):PySem.W.kitOne K (.type "int") (.type "bool")=some false:=by
 unfold PySem.W.kitOne;rw[o5 (by decide)];with_unfolding_all rfl
end Lw
namespace Fz
open L2 Lw
variable {F F' H H':Hp}{v:V}{Bv vs:List V}{i i0 j:Nat}{N ns:List Str}{t:TA}{a l:Addr}{r:List V->Hp->VK->Prop}{σ τ:L2.St}{o:HO}{ta tb tc te:TE}{b neg tp:Bool}{f:Int->Int->Bool}{g:TG}{u:TS}{n:String}{X:XK}{wi:TI}{A:List Addr}{Q:VK}
inductive PV where
 | A8 | bl (b:Bool) | int (i:Int) | str (x:Str) | lst (xs:List PV) | tup (xs:List PV)
 | B1 (ks:List Key) (xs:List PV) | obj (C:Addr) (ns:List Str) (xs:List PV) | exc (C:Addr) (ns:List Str) (xs:List PV) | con (a:Addr) (xs:List PV)
variable {p:PV}{ps xs:List PV}
noncomputable def IA (a C:Addr)(dx:Option Addr):HO:=.ext fun h=>∃ob vs,h.get? a=some ob/\ob.cls=.ref C/\ob.dict=dx/\ob.data=.fields vs
mutual
inductive Rep (F:Hp):V->PV->Prop where
 | A8:Rep F .A8 .A8
 | bl (b:Bool):Rep F (.bl b) (.bl b)
 | int (i:Int):Rep F (.int i) (.int i)
 | str (x:Str):Rep F (.str x) (.str x)
 | lst {a:Addr}{vs:List V}{xs:List PV}:F a=some (.lst vs)->AV F vs xs->Rep F (.ref a) (.lst xs)
 | tup {a:Addr}{vs:List V}{xs:List PV}:F a=some (.tup vs)->AV F vs xs->Rep F (.ref a) (.tup xs)
 | B1 {a:Addr}{ks:List Key}{vs:List V}{xs:List PV}:F a=some (.dK (ks.zip vs))->ks.length=vs.length->AV F vs xs->Rep F (.ref a) (.B1 ks xs)
 | obj {a C dx:Addr}{ns:List Str}{vs:List V}{xs:List PV}:F a=some (.ins C dx (ns.zip vs))->F dx=some (.own a)->ns.length=vs.length->AV F vs xs->Rep F (.ref a) (.obj C ns xs)
 | con {a:Addr}{xs:List PV}:Rep F (.ref a) (.con a xs)
 | Pk {a C:Addr}:F a=some (IA a C none)->Rep F (.ref a) (.exc C [] [])
 | exc {a C dx:Addr}{ns:List Str}{vs:List V}{xs:List PV}:F a=some (IA a C (some dx))->F dx=some (.xd (ns.zip vs))->ns.length=vs.length->AV F vs xs->Rep F (.ref a) (.exc C ns xs)
inductive AV (F:Hp):List V->List PV->Prop where
 | nil:AV F [] []
 | cons {v:V}{p:PV}{vs:List V}{ps:List PV}:Rep F v p->AV F vs ps->AV F (v::vs) (p::ps)
end
theorem Rep.mono (s:AB F F')(r:Rep F v p):Rep F' v p:=
 Rep.rec (motive_1:=fun v p _=>Rep F' v p) (motive_2:=fun vs ps _=>AV F' vs ps) .A8 .bl .int .str (fun h _ i=>.lst (s _ _ h) i) (fun h _ i=>.tup (s _ _ h) i) (fun h e _ i=>.B1 (s _ _ h) e i) (fun h h2 e _ i=>.obj (s _ _ h) (s _ _ h2) e i) .con (fun h=>.Pk (s _ _ h)) (fun h h2 e _ i=>.exc (s _ _ h) (s _ _ h2) e i) .nil (fun _ _ i k=>.cons i k) r
def tI (F:Hp)(v:V):PV->Prop
 | .A8=>v=.A8
 | .bl b=>v=.bl b
 | .int i=>v=.int i
 | .str x=>v=.str x
 | .lst xs=>∃a vs,v=.ref a/\F a=some (.lst vs)/\AV F vs xs
 | .tup xs=>∃a vs,v=.ref a/\F a=some (.tup vs)/\AV F vs xs
 | .B1 ks xs=>∃a vs,v=.ref a/\F a=some (.dK (ks.zip vs))/\ks.length=vs.length/\AV F vs xs
 | .obj C ns xs=>∃a dx vs,v=.ref a/\F a=some (.ins C dx (ns.zip vs))/\F dx=some (.own a)/\ns.length=vs.length/\AV F vs xs
 | .con a _=>v=.ref a
 | .exc C ns xs=>(∃a,v=.ref a/\F a=some (IA a C none)/\ns=[]/\xs=[])∨∃a dx vs,v=.ref a/\F a=some (IA a C (some dx))/\F dx=some (.xd (ns.zip vs))/\ns.length=vs.length/\AV F vs xs
theorem Rep.inv (r:Rep F v p):tI F v p:=by
 cases r with
 | lst h r=>exact⟨_,_,rfl,h,r⟩
 | tup h r=>exact⟨_,_,rfl,h,r⟩
 | B1 h l r=>exact⟨_,_,rfl,h,l,r⟩
 | obj h h2 l r=>exact⟨_,_,_,rfl,h,h2,l,r⟩
 | Pk h=>exact .inl ⟨_,rfl,h,rfl,rfl⟩
 | exc h h2 l r=>exact .inr ⟨_,_,_,rfl,h,h2,l,r⟩
 | _=>exact rfl
theorem AV.inv (r:AV F vs (p::ps)):∃v ws,vs=v::ws/\Rep F v p/\AV F ws ps:=by
 cases r with
 | cons r t=>exact⟨_,_,rfl,r,t⟩
theorem AV.Dy (r:AV F vs []):vs=[]:=by
 cases r;rfl
theorem AV.mono (s:AB F F')(r:AV F vs ps):AV F' vs ps:=by
 induction ps generalizing vs with
 | nil=>cases r.Dy;exact .nil
 | cons p ps c=>obtain⟨v,ws,rfl,a,b⟩:=r.inv;exact .cons (a.mono s) (c b)
theorem AV.length {F:Hp}{vs:List V}{ps:List PV}(r:AV F vs ps):vs.length=ps.length:=by
 induction ps generalizing vs with
 | nil=>cases r.Dy;rfl
 | cons p ps c=>obtain⟨v,ws,rfl,a,b⟩:=r.inv;exact rA (· + 1) (c b)
theorem AV.get {F:Hp}{vs:List V}{ps:List PV}{i:Nat}{p:PV}(r:AV F vs ps)(e:ps[i]?=some p):∃v,vs[i]?=some v/\Rep F v p:=by
 induction ps generalizing vs i with
 | nil=>cases e
 | cons q ps c=>
  obtain⟨v,ws,rfl,a,b⟩:=r.inv;cases i with
  | zero=>cases e;exact⟨_,rfl,a⟩
  | succ i=>exact c (vs:=ws) (i:=i) b e
theorem AV.get' (r:AV F vs ps)(e:vs[i]?=some v):∃p,ps[i]?=some p/\Rep F v p:=by
 induction ps generalizing vs i with
 | nil=>cases r.Dy;cases e
 | cons q ps c=>
  obtain⟨u,ws,rfl,a,b⟩:=r.inv;cases i with
  | zero=>cases e;exact⟨_,rfl,a⟩
  | succ i=>exact c (vs:=ws) (i:=i) b e
theorem AV.append {ws:List V}{c:List PV}(r:AV F vs ps)(s:AV F ws c):AV F (vs++ws) (ps++c):=by
 induction ps generalizing vs with
 | nil=>cases r.Dy;exact s
 | cons p ps d=>obtain⟨v,us,rfl,a,b⟩:=r.inv;exact .cons a (d b)
theorem AV.take (n:Nat)(r:AV F vs ps):AV F (vs.take n) (ps.take n):=by
 induction ps generalizing vs n with
 | nil=>cases r.Dy;rw[List.take_nil,List.take_nil];exact .nil
 | cons p ps c=>
  obtain⟨v,us,rfl,a,b⟩:=r.inv;cases n with
  | zero=>exact .nil
  | succ n=>exact .cons a (c n b)
theorem AV.drop (n:Nat)(r:AV F vs ps):AV F (vs.drop n) (ps.drop n):=by
 induction ps generalizing vs n with
 | nil=>cases r.Dy;rw[List.drop_nil,List.drop_nil];exact .nil
 | cons p ps c=>
  cases n with
  | zero=>exact r
  | succ n=>obtain⟨v,us,rfl,a,b⟩:=r.inv;exact c n b
theorem AV.one (r:Rep F v p):AV F [v] [p]:=.cons r .nil
theorem AV.reverse (r:AV F vs ps):AV F vs.reverse ps.reverse:=by
 induction ps generalizing vs with
 | nil=>cases r.Dy;exact .nil
 | cons p ps c=>obtain⟨v,us,rfl,a,b⟩:=r.inv;rw[b8,b8];exact(c b).append (.one a)
def flat:PV->Bool
 | .lst _=>false
 | .tup _=>false
 | .B1 _ _=>false
 | .obj _ _ _=>false
 | .exc _ _ _=>false
 | .con _ _=>false
 | _=>true
def enc:PV->V
 | .bl b=>.bl b
 | .int i=>.int i
 | .str x=>.str x
 | _=>.A8
theorem Rep.enc (h:flat p=true)(r:Rep F v p):v=enc p:=by
 cases r <;> first | rfl | cases h
theorem oG (h:flat p=true):Rep F (enc p) p:=by
 cases p with
 | A8=>exact .A8
 | bl b=>exact .bl b
 | int i=>exact .int i
 | str x=>exact .str x
 | lst xs=>cases h
 | tup xs=>cases h
 | B1 ks xs=>cases h
 | obj C ns xs=>cases h
 | exc C ns xs=>cases h
 | con a xs=>cases h
theorem AV.enc (h:ps.all flat=true)(r:AV F vs ps):vs=ps.map enc:=by
 induction ps generalizing vs with
 | nil=>exact r.Dy
 | cons p ps c=>
  obtain⟨v,us,rfl,a,b⟩:=r.inv;rw[Tq,Df] at h;rw[Bp,<- Rep.enc h.1 a,<- c h.2 b]
theorem d9 (h:ps.all flat=true):AV F (ps.map enc) ps:=by
 induction ps with
 | nil=>exact .nil
 | cons p r a=>
  rw[Tq,Df] at h;exact .cons (oG h.1) (a h.2)
theorem RS (h:flat p=true):Ej (Fz.enc p)=true:=by cases p <;> first | rfl | cases h
theorem iN (ns:List Str):(ns.map PV.str).all flat=true:=by
 rw[Kj];intro x hx;obtain⟨y,_,rfl⟩:=List.mem_map.mp hx;rfl
theorem Yi (ns:List Str):(ns.map PV.str).map Fz.enc=ns.map V.str:=by rw[QF];rfl
theorem AV.strs (r:AV F vs (ns.map PV.str)):vs=ns.map V.str:=(r.enc (iN ns)).trans (Yi ns)
theorem MU (ns:List Str):AV F (ns.map V.str) (ns.map PV.str):=by rw[<- Yi];exact d9 (iN ns)
inductive NK where
 | lst | B1 (ks:List Key) | obj (C dx:Addr) (ns:List Str)
def NK.ho:NK->List V->HO
 | .lst,vs=>.lst vs
 | .B1 ks,vs=>.dK (ks.zip vs)
 | .obj C dx ns,vs=>.ins C dx (ns.zip vs)
def NK.more:NK->List Addr
 | .obj _ dx _=>[dx]
 | _=>[]
def NK.side (k:NK)(a:Addr)(H:Hp):Prop:=match k with
 | .obj _ dx _=>H dx=some (.own a)
 | _=>True
def NK.fit (k:NK)(n:Nat):Prop:=match k with
 | .B1 ks=>ks.length=n
 | .obj _ _ ns=>ns.length=n
 | _=>True
inductive OV where
 | fz (p:PV)
 | tp (xs:List OV)
 | nd (k:NK) (a:Addr) (xs:List OV)
variable {ts:List OV}
mutual
def OV.addrs:OV->List Addr
 | .fz _=>[]
 | .tp xs=>OV.Ao xs
 | .nd k a xs=>a::(k.more++OV.Ao xs)
def OV.Ao:List OV->List Addr
 | []=>[]
 | x::r=>x.addrs++OV.Ao r
end
mutual
def OV.pv:OV->PV
 | .fz p=>p
 | .tp xs=>.tup (OV.Cw xs)
 | .nd .lst _ xs=>.lst (OV.Cw xs)
 | .nd (.B1 ks) _ xs=>.B1 ks (OV.Cw xs)
 | .nd (.obj C _ ns) _ xs=>.obj C ns (OV.Cw xs)
def OV.Cw:List OV->List PV
 | []=>[]
 | x::r=>x.pv::OV.Cw r
end
mutual
inductive BG (F H:Hp):V->OV->Prop where
 | fz {v:V}{p:PV}:Rep F v p->BG F H v (.fz p)
 | tp {a:Addr}{vs:List V}{xs:List OV}:F a=some (.tup vs)->BH F H vs xs->BG F H (.ref a) (.tp xs)
 | nd {k:NK}{a:Addr}{vs:List V}{xs:List OV}:H a=some (k.ho vs)->k.side a H->k.fit vs.length->BH F H vs xs->BG F H (.ref a) (.nd k a xs)
inductive BH (F H:Hp):List V->List OV->Prop where
 | nil:BH F H [] []
 | cons {v:V}{t:OV}{vs:List V}{ts:List OV}:BG F H v t->BH F H vs ts->BH F H (v::vs) (t::ts)
end
def sP (F H:Hp)(v:V):OV->Prop
 | .fz p=>Rep F v p
 | .tp xs=>∃a vs,v=.ref a/\F a=some (.tup vs)/\BH F H vs xs
 | .nd k a xs=>∃vs,v=.ref a/\H a=some (k.ho vs)/\k.side a H/\k.fit vs.length/\BH F H vs xs
theorem BG.inv {t:OV}(r:BG F H v t):sP F H v t:=by
 cases r with
 | fz r=>exact r
 | tp h r=>exact⟨_,_,rfl,h,r⟩
 | nd h a b r=>exact⟨_,rfl,h,a,b,r⟩
theorem BH.inv {t:OV}(r:BH F H vs (t::ts)):∃v ws,vs=v::ws/\BG F H v t/\BH F H ws ts:=by
 cases r with
 | cons r t=>exact⟨_,_,rfl,r,t⟩
theorem BH.Dy (r:BH F H vs []):vs=[]:=by
 cases r;rfl
theorem OV.Dc {k:NK}{xs:List OV}:(OV.nd k a xs).addrs=a::(k.more++OV.Ao xs):=by rw[OV.addrs]
theorem OV.IM {xs:List OV}:(OV.tp xs).addrs=OV.Ao xs:=by rw[OV.addrs]
theorem OV.Hm:(OV.fz p).addrs=[]:=by rw[OV.addrs]
theorem OV.Cp {x:OV}{r:List OV}:OV.Ao (x::r)=x.addrs++OV.Ao r:=by rw[OV.Ao]
theorem OV.Ik:OV.Ao []=[]:=by rw[OV.Ao]
theorem NK.eP {k:NK}(h:k.side a H)(s:∀b∈k.more,∀o,H b=some o->H' b=some o):k.side a H':=by
 cases k with
 | obj C dx ns=>exact s dx (by simp[NK.more]) _ h
 | _=>trivial
theorem BG.mono (f:AB F F'){t:OV}(r:BG F H v t):(∀a∈t.addrs,∀o,H a=some o->H' a=some o)->BG F' H' v t:=
 BG.rec (motive_1:=fun v t _=>(∀a∈t.addrs,∀o,H a=some o->H' a=some o)->BG F' H' v t) (motive_2:=fun vs ts _=>(∀a∈OV.Ao ts,∀o,H a=some o->H' a=some o)->BH F' H' vs ts)
  (fun r _=>.fz (r.mono f))
  (fun h _ i s=>.tp (f _ _ h) (i (by rw[OV.IM] at s;exact s)))
  (fun h d g _ i s=>by
   rw[OV.Dc] at s;exact .nd (s _ Dg _ h) (NK.eP d fun b e=>s b (EG _ (Hr _ e))) g (i fun a c=>s a (EG _ (FY _ c))))
  (fun _=>.nil)
  (fun _ _ i k s=>by
   rw[OV.Cp] at s;exact .cons (i fun a c=>s a (Hr _ c)) (k fun a c=>s a (FY _ c)))
  r
theorem BH.mono (f:AB F F')(r:BH F H vs ts)(s:∀a∈OV.Ao ts,∀o,H a=some o->H' a=some o):BH F' H' vs ts:=by
 induction ts generalizing vs with
 | nil=>cases r.Dy;exact .nil
 | cons p ps d=>
  obtain⟨v,ws,rfl,a,b⟩:=r.inv;rw[OV.Cp] at s;exact .cons (a.mono f fun a c=>s a (Hr _ c)) (d b fun a c=>s a (FY _ c))
theorem BG.there {t:OV}(r:BG F H v t):∀a∈t.addrs,H a≠none:=
 BG.rec (motive_1:=fun v t _=>∀a∈t.addrs,H a≠none) (motive_2:=fun vs ts _=>∀a∈OV.Ao ts,H a≠none)
  (fun _ a c=>by rw[OV.Hm] at c;cases c)
  (fun _ _ i a c=>i a (by rw[OV.IM] at c;exact c))
  (fun {k b vs xs} h d f _ i a c=>by
   rw[OV.Dc,Hs,Iu] at c;rcases c with rfl | c | c
   ·rw[h];exact fun z=>by cases z
   ·cases k with
    | obj C dx ns=>
     have e:a=dx:=List.mem_singleton.mp c;rw[e,show H dx=some (.own b) from d];exact fun z=>by cases z
    | _=>cases c
   ·exact i a c)
  (fun a c=>by rw[OV.Ik] at c;cases c)
  (fun _ _ i k a c=>by
   rw[OV.Cp,Iu] at c;exact c.elim (i a) (k a))
  r
theorem BH.there (r:BH F H vs ts):∀a∈OV.Ao ts,H a≠none:=by
 induction ts generalizing vs with
 | nil=>intro a c;rw[OV.Ik] at c;cases c
 | cons p ps d=>
  obtain⟨v,ws,rfl,x,b⟩:=r.inv;intro a c;rw[OV.Cp,Iu] at c;exact c.elim (x.there a) (d b a)
theorem BH.length {F H:Hp}{vs:List V}{ts:List OV}(r:BH F H vs ts):vs.length=ts.length:=by
 induction ts generalizing vs with
 | nil=>cases r.Dy;rfl
 | cons p ps c=>obtain⟨v,ws,rfl,a,b⟩:=r.inv;exact rA (· + 1) (c b)
inductive Slot where
 | any | is (p:PV) | own (xs:List PV) | AM | sq (tp:Bool) (xs:List PV) | raw (P:Hp->V->Prop) | ow (lt:Bool) (t:OV)
variable {ss:List Slot}{s:Slot}{Sk nx:List Slot->Prop}
structure Ent0 where
 A:List Addr
 F0:Hp
 H0:Hp
 B:List Addr
variable {E:Ent0}
abbrev E3 (A:List Addr)(F H:Hp):Ent0:=⟨A,F,H,[]⟩
def Ok (E:Ent0)(F H:Hp):Slot->Option (Option V)->Prop
 | .any,_=>True
 | .is p,o=>∃v,o=some (some v)/\Rep F v p
 | .own xs,o=>∃l vs,o=some (some (.ref l))/\F l=none/\E.H0 l=none/\H l=some (.lst vs)/\AV F vs xs
 | .AM,o=>∃l,o=some (some (.ref l))/\F l=none/\(E.H0 l=none∨l∈E.A)/\C5 H l
 | .sq true xs,o=>∃v,o=some (some v)/\Rep F v (.tup xs)
 | .sq false xs,o=>∃l vs,o=some (some (.ref l))/\(l∉E.A/\l∉E.B)/\E.H0 l=some (.lst vs)/\AV F vs xs
 | .raw P,o=>∃v,o=some (some v)/\P F v/\∀F F',AB F F'->P F v->P F' v
 | .ow lt t,o=>∃v,o=some (some v)/\BG F H v t/\t.addrs.Nodup/\∀a∈t.addrs,F a=none/\(E.H0 a=none∨(lt=true/\a∈E.B))
def Bc:Slot->Option (Option V)->Addr->Prop
 | .own _,o,l=>o=some (some (.ref l))
 | .AM,o,l=>o=some (some (.ref l))
 | .ow _ t,_,l=>l∈t.addrs
 | _,_,_=>False
structure Fin (E:Ent0) (F H:Hp):Prop where
 fh:AB F H
 f0:AB E.F0 F
 keep:∀a o,(a∉E.A/\a∉E.B)->E.H0 a=some o->H a=some o
 fresh:∀a o,F a=some o->E.F0 a=some o∨E.H0 a=none
 HB:∀a,a∈E.A->C5 H a
 Ll:∀a,a∈E.A->F a=none
 a0:∀a,a∈E.A->E.H0 a≠none
 bF:∀a,a∈E.B->F a=none
 bH:∀a,a∈E.B->H a≠none
 b0:∀a,a∈E.B->E.H0 a≠none/\a∉E.A
structure Sg (E:Ent0) (ss:List Slot) (σ:L2.St) (F H:Hp):Prop extends Fin E F H where
 len:ss.length=σ.length
 ok:∀(i:Nat) s,ss[i]?=some s->Ok E F H s σ[i]?
 CH:∀(i j:Nat) s u l,i≠j->ss[i]?=some s->ss[j]?=some u->Bc s σ[i]? l->¬ Bc u σ[j]? l
structure Ex where
 C:Addr
 ns:List Str
 xs:List PV
def Ex.at (x:Ex)(F:Hp)(C:Value)(dx:Option Addr):Prop:=
 C=.ref x.C/\((x.ns=[]/\x.xs=[]/\dx=none)∨∃a vs,dx=some a/\F a=some (.xd (x.ns.zip vs))/\x.ns.length=vs.length/\AV F vs x.xs)
class Xw where
 e:L2.St->XK
 J:List Slot->Prop
 D:Ex->Prop
structure Ent [Xw] extends Ent0 where
 hx:∀(ss:List Slot) (σ:L2.St) (F H:Hp) (x:Ex) (C:Value) (dx:Option Addr),Xw.J ss->Sg toEnt0 ss σ F H->Xw.D x->x.at F C dx->Xw.e σ C dx H
instance [Xw]:CoeOut Ent Ent0:=⟨Ent.toEnt0⟩
instance noX:Xw:=⟨fun _=>E0,fun _=>True,fun _=>False⟩
def D2 (ss:List Slot)(σ:L2.St)(a:Addr):Prop:=∀i:Nat,ss[i]?=some .AM->σ[i]?≠some (some (.ref a))
structure Mv (E:Ent0) (ss:List Slot) (σ:L2.St) (F H F' H':Hp):Prop where
 st:Sg E ss σ F' H'
 ff:AB F F'
 hh:∀a o,D2 ss σ a->H a=some o->H' a=some o
 nn:∀a o,F' a=some o->F a=some o∨H a=none
theorem Sg.PY (S:Sg E ss σ F H)(h:H l=none):D2 ss σ l:=fun i hi e=>by
 obtain⟨c,b,_,_,_,_,a,_⟩:=S.ok i _ hi;rw[e] at b;cases b;rw[h] at a;cases a
theorem Mv.none (m:Mv E ss σ F H F' H')(h:H' a=none):H a=none:=by
 cases e:H a with
 | none=>rfl
 | some o=>rw[m.hh a o (m.st.PY h) e] at h;cases h
theorem Mv.refl {E:Ent0}{ss:List Slot}{σ:L2.St}{F H:Hp}(S:Sg E ss σ F H):Mv E ss σ F H F H:=⟨S,AB.refl _,fun _ _ _ e=>e,fun _ _ e=>.inl e⟩
theorem Mv.trans {F1 H1 F2 H2:Hp}(a:Mv E ss σ F H F1 H1)(b:Mv E ss σ F1 H1 F2 H2):Mv E ss σ F H F2 H2:=
 ⟨b.st,a.ff.trans b.ff,fun c o n e=>b.hh c o n (a.hh c o n e),fun c o e=>(b.nn c o e).elim (fun e=>a.nn c o e) fun e=>.inr (a.none e)⟩
theorem Sg.EO (S:Sg E ss σ F H){p:Addr}(h:H p=none):E.H0 p=none:=by
 cases e:E.H0 p with
 | none=>rfl
 | some o=>
  by_cases q:p∈E.A
  ·obtain⟨_,_,b,_⟩:=S.HB p q;rw[h] at b;cases b
  ·by_cases a:p∈E.B
   ·exact absurd h (S.bH p a)
   ·rw[S.keep p o ⟨q,a⟩ e] at h;cases h
theorem Sg.CA (S:Sg E ss σ F H){p:Addr}(h:H p=none):F p=none:=AB.none S.fh h
theorem C5.keep (h:C5 H l)(k:∀o,H l=some o->H' l=some o):C5 H' l:=by
 obtain⟨a,b,e,r⟩:=h;exact⟨a,b,k _ e,r⟩
theorem Sg.cJ (S:Sg E ss σ F H)(h:F l=some o):D2 ss σ l:=fun i hi e=>by
 obtain⟨c,b,a,_⟩:=S.ok i _ hi;rw[e] at b;cases b;rw[h] at a;cases a
theorem Sg.cW (S:Sg E ss σ F H)(b:l∉E.A)(h:E.H0 l=some o):D2 ss σ l:=fun i hi e=>by
 obtain⟨c,a,_,q,_⟩:=S.ok i _ hi;rw[e] at a;cases a;rcases q with q | q
 ·rw[h] at q;cases q
 ·exact b q
theorem Sg.ZCy (S:Sg E ss σ F H)(h:l∈E.B):D2 ss σ l:=fun i hi e=>by
 obtain⟨d,a,_,q,_⟩:=S.ok i _ hi;rw[e] at a;cases a;obtain⟨c,b⟩:=S.b0 l h;rcases q with q | q
 ·exact c q
 ·exact b q
theorem Sg.EL (S:Sg E ss σ F H)(h:ss[i]?=some s)(m:Bc s σ[i]? l):H l≠none:=by
 have k:=S.ok i s h;cases s with
 | own xs=>obtain⟨c,vs,a,_,_,b,_⟩:=k;rw[show σ[i]?=some (some (.ref l)) from m] at a;cases a;rw[b];simp
 | AM=>obtain⟨c,a,_,_,_,_,b,_⟩:=k;rw[show σ[i]?=some (some (.ref l)) from m] at a;cases a;rw[b];simp
 | ow lt t=>obtain⟨v,_,r,_⟩:=k;exact r.there l m
 | _=>cases m
theorem Sg.ZCl (S:Sg E ss σ F H)(h:ss[i]?=some s)(m:Bc s σ[i]? l):F l=none:=by
 have k:=S.ok i s h;cases s with
 | own xs=>obtain⟨c,vs,a,b,_⟩:=k;rw[show σ[i]?=some (some (.ref l)) from m] at a;cases a;exact b
 | AM=>obtain⟨c,a,b,_⟩:=k;rw[show σ[i]?=some (some (.ref l)) from m] at a;cases a;exact b
 | ow lt t=>obtain⟨v,_,r,_,q⟩:=k;exact(q l m).1
 | _=>cases m
theorem Sg.RF (S:Sg E ss σ F H)(h:ss[i]?=some s)(a:H l=none):¬ Bc s σ[i]? l:=fun m=>S.EL h m a
theorem Sg.Td (S:Sg E ss σ F H)(h:ss[i]?=some s)(m:Bc s σ[i]? l)(np:s≠.AM):D2 ss σ l:=fun j a b=>
 S.CH i j s _ l (by rintro rfl;rw[h] at a;exact np (Bj a)) h a m b
theorem Ok.go (S:Sg E ss σ F H){i:Nat}{s:Slot}(hi:ss[i]?=some s)(ff:AB F F')(f:∀a o,Bc s σ[i]? a->H a=some o->H' a=some o)(CA:∀a,H a≠none->F a=none->F' a=none)(np:s≠.AM):Ok E F' H' s σ[i]?:=by
 have k:=S.ok i s hi;cases s with
 | any=>trivial
 | is p=>obtain⟨v,e,r⟩:=k;exact⟨v,e,r.mono ff⟩
 | own xs=>
  obtain⟨l,vs,e,d,c,g,r⟩:=k;exact⟨l,vs,e,CA l (by rw[g];simp) d,c,f l _ e g,r.mono ff⟩
 | AM=>exact absurd rfl np
 | sq tp xs=>
  cases tp with
  | true=>obtain⟨v,e,r⟩:=k;exact⟨v,e,r.mono ff⟩
  | false=>obtain⟨l,vs,e,d,c,r⟩:=k;exact⟨l,vs,e,d,c,r.mono ff⟩
 | raw P=>obtain⟨v,e,r,st⟩:=k;exact⟨v,e,st _ _ ff r,st⟩
 | ow lt t=>
  obtain⟨v,e,r,nd,q⟩:=k;exact⟨v,e,r.mono ff fun a b o=>f a o b,nd,fun a b=>⟨CA a (r.there a b) (q a b).1,(q a b).2⟩⟩
theorem Sg.step (S:Sg E ss σ F H)(ff:AB F F')(fh:AB F' H')(c:∀a o,D2 ss σ a->H a=some o->H' a=some o)(hn:∀a o,F' a=some o->F a=some o∨H a=none)
  (g:∀(i:Nat) l,ss[i]?=some .AM->σ[i]?=some (some (.ref l))->C5 H' l):Mv E ss σ F H F' H':=by
 have CA:∀a,H a≠none->F a=none->F' a=none:=fun a h1 h2=>by
  cases e:F' a with
  | none=>rfl
  | some o=>
   rcases hn a o e with q | q
   ·rw[h2] at q;cases q
   ·exact absurd q h1
 have h:∀a,C5 H a->D2 ss σ a->C5 H' a:=fun a p n=>C5.keep p fun o e=>c a o n e;refine⟨⟨⟨fh,S.f0.trans ff,fun a o b e=>?_,fun a o e=>?_,fun a b=>?_,fun a b=>?_,S.a0,fun a d=>CA a (S.bH a d) (S.bF a d),fun a d=>?_,S.b0⟩,S.len,fun i s hi=>?_,S.CH⟩,ff,c,hn⟩
 ·exact c a o (S.cW b.1 e) (S.keep a o b e)
 ·rcases hn a o e with q | q
  ·exact S.fresh a o q
  ·exact .inr (S.EO q)
 ·by_cases q:∃i:Nat,ss[i]?=some .AM/\σ[i]?=some (some (.ref a))
  ·obtain⟨i,k,j⟩:=q;exact g i a k j
  ·exact h a (S.HB a b) fun i h1 h2=>q ⟨i,h1,h2⟩
 ·refine CA a ?_ (S.Ll a b);obtain⟨_,_,f,_⟩:=S.HB a b;rw[f];simp
 ·obtain⟨o,e⟩:=Option.ne_none_iff_exists'.mp (S.bH a d);rw[c a o (S.ZCy d) e];simp
 ·by_cases np:s=.AM
  ·subst np;obtain⟨l,e,f,u,t⟩:=S.ok i _ hi;have v:=t;obtain⟨_,_,r,_⟩:=v;exact⟨l,e,CA l (by rw[r];simp) f,u,g i l hi e⟩
  ·exact Ok.go S hi ff (fun a o m=>c a o (S.Td hi m np)) CA np
theorem Sg.EV (S:Sg E ss σ F H)(hi:ss[i]?=some .AM)(e:σ[i]?=some (some (.ref l))):C5 H l:=by
 obtain⟨b,a,_,_,p⟩:=S.ok i _ hi;rw[e] at a;cases a;exact p
theorem Sg.alloc (S:Sg E ss σ F H){p:Addr}(h:H p=none)(o:HO):Mv E ss σ F H (upd F p o) (upd H p o):=by
 refine S.step (B7 (S.CA h) _) (fun a u e=>?_) (fun a u _ e=>B7 h o a u e) (fun a u e=>?_) fun i l hi e=>C5.keep (S.EV hi e) fun u e=>B7 h o l u e
 ·by_cases q:a=p
  ·subst q;rw[AO] at e ⊢;exact e
  ·rw[AX q] at e ⊢;exact S.fh a u e
 ·by_cases q:a=p
  ·subst q;exact .inr h
  ·rw[AX q] at e;exact .inl e
theorem Sg.make (S:Sg E ss σ F H){p:Addr}(h:H p=none)(o:HO):Mv E ss σ F H F (upd H p o):=
 S.step (AB.refl _) (S.fh.trans (B7 h o)) (fun a u _ e=>B7 h o a u e) (fun a u e=>.inl e) fun i l hi e=>C5.keep (S.EV hi e) fun u e=>B7 h o l u e
theorem Sg.grow (S:Sg E ss σ F H)(s:AB H H'):Mv E ss σ F H F H':=
 S.step (AB.refl _) (S.fh.trans s) (fun a u _ e=>s a u e) (fun a u e=>.inl e) fun i l hi e=>C5.keep (S.EV hi e) fun u e=>s l u e
theorem Sg.setG (S:Sg E ss σ F H)(AF:Ok E F H s (some (some v)))(f:∀l,Bc s (some (some v)) l->∀(i:Nat) u,i≠j->ss[i]?=some u->¬ Bc u σ[i]? l):Sg E (ss.set j s) (σ.set j (some v)) F H:=by
 refine⟨S.toFin,by rw[GX,GX];exact S.len,fun i u hi=>?_,fun i k u w l Mz hi b d c=>?_⟩
 ·by_cases q:i=j
  ·subst q;have a:i<ss.length:=by have:=(List.getElem?_eq_some_iff.mp hi).1;simpa using this
   rw[Cm a] at hi;cases hi;rw[Cm (by rw[<- S.len];exact a)];exact AF
  ·rw[CL (B9 q)] at hi ⊢;exact S.ok i u hi
 ·by_cases q:i=j
  ·subst q;have a:i<ss.length:=by have:=(List.getElem?_eq_some_iff.mp hi).1;simpa using this
   rw[Cm a] at hi;rw[Cm (by rw[<- S.len];exact a)] at d;cases hi;rw[CL Mz] at b c;exact f l d k w (B9 Mz) b c
  ·rw[CL (B9 q)] at hi d
   by_cases e:k=j
   ·subst e;have a:k<ss.length:=by have:=(List.getElem?_eq_some_iff.mp b).1;simpa using this
    rw[Cm a] at b;cases b;rw[Cm (by rw[<- S.len];exact a)] at c;exact f l c i u Mz hi d
   ·rw[CL (B9 e)] at b c;exact S.CH i k u w l Mz hi b d c
theorem Sg.FQ (S:Sg E ss σ F H)(r:Rep F v p):Sg E (ss.set j (.is p)) (σ.set j (some v)) F H:=S.setG ⟨v,rfl,r⟩ fun _ h=>by cases h
def Sv (ss:List Slot)(σ:L2.St)(F H:Hp)(v:V):Bool->List PV->Prop
 | true,xs=>Rep F v (.tup xs)
 | false,xs=>∃l vs,v=.ref l/\D2 ss σ l/\H l=some (.lst vs)/\AV F vs xs
def Fv (E:Ent0)(F:Hp)(v:V):Bool->List PV->Prop
 | true,xs=>Rep F v (.tup xs)
 | false,xs=>∃l vs,v=.ref l/\(F l=some (.lst vs)∨((l∉E.A/\l∉E.B)/\E.H0 l=some (.lst vs)))/\AV F vs xs
structure Wp [Xw] (ss:List Slot) (t:TE) (k:PV->Prop):Prop where
 go:∀(E:Ent) (σ:L2.St) (F H:Hp) (Q:VK),Sg E ss σ F H->(∀v p F' H',Mv E ss σ F H F' H'->Rep F' v p->k p->Q v H')->t σ H Q
structure Wn [Xw] (ss:List Slot) (t:TE) (k:List PV->Prop):Prop where
 go:∀(E:Ent) (σ:L2.St) (F H:Hp) (Q:VK),Sg E ss σ F H->(∀l vs xs F' H',Mv E ss σ F H F' H'->F' l=none->H l=none->H' l=some (.lst vs)->AV F' vs xs->k xs->Q (.ref l) H')->t σ H Q
structure Wq [Xw] (ss:List Slot) (t:TE) (k:Bool->List PV->Prop):Prop where
 go:∀(E:Ent) (σ:L2.St) (F H:Hp) (Q:VK),Sg E ss σ F H->(∀v tp xs F' H',Mv E ss σ F H F' H'->Sv ss σ F' H' v tp xs->k tp xs->Q v H')->t σ H Q
structure Wz [Xw] (ss:List Slot) (t:TE) (k:Bool->List PV->Prop):Prop where
 go:∀(E:Ent) (σ:L2.St) (F H:Hp) (Q:VK),Sg E ss σ F H->(∀v tp xs F' H',Mv E ss σ F H F' H'->Fv E F' v tp xs->k tp xs->Q v H')->t σ H Q
structure Wt [Xw] (ss:List Slot) (t:TT) (k:Bool->Prop):Prop where
 go:∀(E:Ent) (σ:L2.St) (F H:Hp) (Q:Bool->Hp->Prop),Sg E ss σ F H->(∀b F' H',Mv E ss σ F H F' H'->k b->Q b H')->t σ H Q
def Av (ss:List Slot)(σ:L2.St)(F H:Hp)(v:V):Slot->Prop
 | .is p=>Rep F v p
 | .sq tp xs=>Sv ss σ F H v tp xs
 | .raw P=>P F v/\∀F F',AB F F'->P F v->P F' v
 | _=>False
inductive IS (ss:List Slot) (σ:L2.St) (F H:Hp):List V->List Slot->Prop where
 | nil:IS ss σ F H [] []
 | cons {v:V}{s:Slot}{vs:List V}{l:List Slot}:Av ss σ F H v s->IS ss σ F H vs l->IS ss σ F H (v::vs) (s::l)
structure Wa [Xw] (ss:List Slot) (t:TA) (k:List Slot->Prop):Prop where
 go:∀(E:Ent) (σ:L2.St) (F H:Hp) (Q:List V->Hp->Prop),Sg E ss σ F H->(∀vs l F' H',Mv E ss σ F H F' H'->IS ss σ F' H' vs l->k l->Q vs H')->t σ H Q
inductive B3 where
 | is (k:PV->Prop) | new (k:List PV->Prop) | AM | ow (k:OV->Prop) | mt (k:PV->OV->Prop) | wK (k:PV->OV->OV->Prop)
def OV.val:OV->V
 | .nd _ a _=>.ref a
 | _=>.A8
def B3.ok (R:B3)(E:Ent0)(F' H':Hp)(v:V):Prop:=match R with
 | .is k=>∃p,Rep F' v p/\k p
 | .new k=>∃l vs xs,v=.ref l/\F' l=none/\E.H0 l=none/\H' l=some (.lst vs)/\AV F' vs xs/\k xs
 | .AM=>∃l,v=.ref l/\F' l=none/\E.H0 l=none/\C5 H' l
 | .ow k=>∃t,BG F' H' v t/\t.addrs.Nodup/\(∀a∈t.addrs,F' a=none/\E.H0 a=none)/\k t
 | .mt k=>∃p t,Rep F' v p/\BG F' H' t.val t/\t.addrs.Nodup/\(∀a∈t.addrs,F' a=none/\(E.H0 a=none∨a∈E.B))/\k p t
 | .wK k=>∃p t u,Rep F' v p/\BG F' H' t.val t/\BG F' H' u.val u/\(t.addrs++u.addrs).Nodup/\(∀a∈t.addrs++u.addrs,F' a=none/\(E.H0 a=none∨a∈E.B))/\k p t u
structure Ws [Xw] (ss:List Slot) (t:TS) (nx:List Slot->Prop) (R:B3):Prop where
 go:∀(E:Ent) (D:Ends) (σ:L2.St) (F H:Hp),Sg E ss σ F H->(∀AJ σ' F' H',nx AJ->Sg E AJ σ' F' H'->AB F F'->D.nx σ' H')->(∀v F' H',Fin E F' H'->R.ok E F' H' v->D.rt v H')->t D σ H
section
variable [Xw]
variable {K:ZHP}{k:PV->Prop}{R:B3}
theorem Sv.mv (h:Sv ss σ F H v tp xs)(m:Mv E ss σ F H F' H'):Sv ss σ F' H' v tp xs:=by
 cases tp with
 | true=>exact Rep.mono m.ff h
 | false=>
  obtain⟨l,vs,e,n,r,q⟩:=h;exact⟨l,vs,e,n,m.hh l _ n r,q.mono m.ff⟩
theorem Sv.seq (S:Sg E ss σ F H)(h:Sv ss σ F H v tp xs):∃l vs,v=.ref l/\H l=some (FW tp vs)/\AV F vs xs:=by
 cases tp with
 | true=>cases h with | tup e r=>exact⟨_,_,rfl,S.fh _ _ e,r⟩
 | false=>obtain⟨l,vs,e,_,r,q⟩:=h;exact⟨l,vs,e,r,q⟩
theorem Fv.sv (S:Sg E ss σ F H)(h:Fv E F v tp xs):Sv ss σ F H v tp xs:=by
 cases tp with
 | true=>exact h
 | false=>
  obtain⟨l,vs,e,h1 | ⟨a,h1⟩,r⟩:=h
  ·exact⟨l,vs,e,S.cJ h1,S.fh _ _ h1,r⟩
  ·exact⟨l,vs,e,S.cW a.1 h1,S.keep _ _ a h1,r⟩
theorem AH (h:ss[i]?=some (.is p))(b:k p):Wp ss (BD i) k:=⟨fun E σ F H Q S q=>by
 obtain⟨v,a,r⟩:=S.ok i _ h;exact⟨v,a,q v p F H (.refl S) r b⟩⟩
theorem Bw {i:Int}(a:k (.int i)):Wp ss (tC (.int i)) k:=⟨fun E σ F H Q S q=>q _ _ F H (.refl S) (.int i) a⟩
theorem Hj {x:Str}(a:k (.str x)):Wp ss (tC (.str x)) k:=⟨fun E σ F H Q S q=>q _ _ F H (.refl S) (.str x) a⟩
theorem Ci (a:k (.bl b)):Wp ss (tC (.bl b)) k:=⟨fun E σ F H Q S q=>q _ _ F H (.refl S) (.bl b) a⟩
theorem Rp (a:k .A8):Wp ss (tC .A8) k:=⟨fun E σ F H Q S q=>q _ _ F H (.refl S) .A8 a⟩
theorem FV (h:Wn ss te (fun xs=>k (.lst xs))):Wp ss te k:=⟨fun E σ F H Q S q=>h.go E σ F H Q S fun l vs xs F' H' m c f CP r kk=>by
 have b:=m.st;have A:Mv E ss σ F H (upd F' l (.lst vs)) H':=by
  have B:∀a,H' a≠none->a≠l->F' a=none->upd F' l (.lst vs) a=none:=fun a _ h1 h2=>by rw[AX h1];exact h2
  refine⟨⟨⟨fun a u e=>?_,b.f0.trans (B7 c _),b.keep,fun a u e=>?_,b.HB,fun a z=>?_,b.a0,fun a y=>?_,b.bH,b.b0⟩,b.len,fun i s hi=>?_,b.CH⟩,m.ff.trans (B7 c _),m.hh,fun a u e=>?_⟩
  ·by_cases q:a=l
   ·subst q;rw[AO] at e;rw[<- e];exact CP
   ·rw[AX q] at e;exact b.fh a u e
  ·by_cases q:a=l
   ·subst q;exact .inr (S.EO f)
   ·rw[AX q] at e;exact b.fresh a u e
  ·by_cases q:a=l
   ·subst q;obtain⟨_,_,e,_⟩:=S.HB _ z;rw[f] at e;cases e
   ·rw[AX q];exact b.Ll a z
  ·by_cases q:a=l
   ·subst q;exact absurd f (S.bH _ y)
   ·rw[AX q];exact b.bF a y
  ·have x:∀a,Bc s σ[i]? a->a≠l:=by
    rintro a m rfl;exact S.RF hi f m
   have kk:=b.ok i s hi;cases s with
   | any=>trivial
   | is p=>obtain⟨v,e,r⟩:=kk;exact⟨v,e,r.mono (B7 c _)⟩
   | own ys=>
    obtain⟨d,ws,e,j,g,w,r⟩:=kk;exact⟨d,ws,e,by rw[AX (x d e)];exact j,g,w,r.mono (B7 c _)⟩
   | AM=>
    obtain⟨d,e,j,g,w⟩:=kk;exact⟨d,e,by rw[AX (x d e)];exact j,g,w⟩
   | sq tp ys=>
    cases tp with
    | true=>obtain⟨v,e,r⟩:=kk;exact⟨v,e,r.mono (B7 c _)⟩
    | false=>obtain⟨d,ws,e,j,g,r⟩:=kk;exact⟨d,ws,e,j,g,r.mono (B7 c _)⟩
   | raw P=>obtain⟨v,e,r,st⟩:=kk;exact⟨v,e,st _ _ (B7 c _) r,st⟩
   | ow lt t=>
    obtain⟨v,e,r,nd,q⟩:=kk;exact⟨v,e,r.mono (B7 c _) fun a _ o h=>h,nd,fun a n=>⟨by rw[AX (x a n)];exact(q a n).1,(q a n).2⟩⟩
  ·by_cases q:a=l
   ·subst q;exact .inr f
   ·rw[AX q] at e;exact m.nn a u e
 exact q _ _ _ _ A (.lst AO (r.mono (B7 c _))) kk⟩
theorem BX {k:Bool->List PV->Prop}(h:Wp ss te (fun p=>∃xs,(p=.lst xs/\k false xs)∨(p=.tup xs/\k true xs))):Wq ss te k:=⟨fun E σ F H Q S q=>h.go E σ F H Q S fun v p F' H' m r AK=>by
 obtain⟨xs,h⟩:=AK;rcases h with⟨rfl,kk⟩|⟨rfl,kk⟩
 ·cases r with | lst h r=>exact q _ false xs F' H' m ⟨_,_,rfl,m.st.cJ h,m.st.fh _ _ h,r⟩ kk
 ·exact q v true xs F' H' m r kk⟩
theorem RA {k:Bool->List PV->Prop}(h:ss[i]?=some (.is (.lst xs)))(a:k false xs):Wq ss (BD i) k:=BX (AH h ⟨xs,.inl ⟨rfl,a⟩⟩)
theorem GH {k:Bool->List PV->Prop}(h:ss[i]?=some (.is (.tup xs)))(a:k true xs):Wq ss (BD i) k:=BX (AH h ⟨xs,.inr ⟨rfl,a⟩⟩)
theorem cn {k:Bool->List PV->Prop}(h:ss[i]?=some (.sq tp xs))(a:k tp xs):Wz ss (BD i) k:=⟨fun E σ F H Q S q=>by
 have kk:=S.ok i _ h;cases tp with
 | true=>obtain⟨v,e,r⟩:=kk;exact⟨_,e,q _ true xs F H (.refl S) r a⟩
 | false=>
  obtain⟨l,vs,e,b,c,r⟩:=kk;exact⟨_,e,q _ false xs F H (.refl S) ⟨l,vs,rfl,.inr ⟨b,c⟩,r⟩ a⟩⟩
theorem MM {k:Bool->List PV->Prop}(h:Wp ss te (fun p=>∃xs,(p=.lst xs/\k false xs)∨(p=.tup xs/\k true xs))):Wz ss te k:=⟨fun E σ F H Q S q=>h.go E σ F H Q S fun v p F' H' m r AK=>by
 obtain⟨xs,h⟩:=AK;rcases h with⟨rfl,kk⟩|⟨rfl,kk⟩
 ·cases r with | lst h r=>exact q _ false xs F' H' m ⟨_,_,rfl,.inl h,r⟩ kk
 ·exact q _ true xs F' H' m r kk⟩
theorem kM {k:Bool->List PV->Prop}(h:Wz ss te k):Wq ss te k:=⟨fun E σ F H Q S q=>h.go E σ F H Q S fun v tp xs F' H' m f kk=>q v tp xs F' H' m (f.sv m.st) kk⟩
theorem FC {k:Bool->List PV->Prop}(h:ss[i]?=some (.sq tp xs))(a:k tp xs):Wq ss (BD i) k:=kM (cn h a)
theorem YY {f:Int->Int->Int}(h:Wp ss ta fun x=>∃i,x=.int i/\Wp ss tb fun y=>∃j,y=.int j/\k (.int (f i j))):Wp ss (CD (Gi fun i j=>.int (f i j)) ta tb) k:=⟨fun E σ F H Q S q=>
 h.go E σ F H _ S fun v p F1 H1 a c AK=>by
  obtain⟨i,g,h2⟩:=AK;subst g;cases c.inv;exact h2.go E σ F1 H1 _ a.st fun l p2 F2 H2 d b DM=>by
   obtain⟨j,e,kk⟩:=DM;subst e;cases b.inv;exact⟨i,j,rfl,rfl,q _ _ F2 H2 (a.trans d) (.int _) kk⟩⟩
theorem G0 (h:Wp ss ta fun x=>∃i,x=.int i/\Wp ss tb fun y=>∃j,y=.int j/\k (.bl (f i j))):Wp ss (CD (Gi fun i j=>.bl (f i j)) ta tb) k:=⟨fun E σ F H Q S q=>
 h.go E σ F H _ S fun v p F1 H1 a c AK=>by
  obtain⟨i,g,h2⟩:=AK;subst g;cases c.inv;exact h2.go E σ F1 H1 _ a.st fun l p2 F2 H2 d b DM=>by
   obtain⟨j,e,kk⟩:=DM;subst e;cases b.inv;exact⟨i,j,rfl,rfl,q _ _ F2 H2 (a.trans d) (.bl _) kk⟩⟩
def alike:PV->PV->Bool
 | .int i,.int j=>decide (i=j)
 | .str i,.str j=>decide (i=j)
 | .bl i,.bl j=>decide (i=j)
 | .A8,.A8=>true
 | _,_=>false
noncomputable def NF (p q:PV):Bool:=flat p && flat q && Ud (Fz.enc p) (Fz.enc q)
theorem kL {q:PV}(h:NF p q=true):decide (Fz.enc p=Fz.enc q)=alike p q:=by
 unfold NF at h;rw[Df,Df] at h;obtain⟨⟨h1,h2⟩,a⟩:=h;cases p <;> first | exact Bool.noConfusion h1 | skip
 all_goals cases q <;> first | exact Bool.noConfusion h2 | exact Bool.noConfusion a | rfl | exact decide_eq_decide.mpr ⟨fun e=>by injection e,rA _⟩
theorem WI (h:Wp ss ta fun x=>Wp ss tb fun y=>NF x y=true/\k (.bl (alike x y))):Wp ss (CD kZ ta tb) k:=⟨fun E σ F H Q S q=>
 h.go E σ F H _ S fun v p F1 H1 a c h2=>h2.go E σ F1 H1 _ a.st fun f p2 F2 H2 d b AK=>by
  obtain⟨sc,kk⟩:=AK;have e:=sc;unfold NF at sc;rw[Df,Df] at sc;rw[c.enc sc.1.1,b.enc sc.1.2];refine⟨sc.2,?_⟩;rw[kL e];exact q _ _ F2 H2 (a.trans d) (.bl _) kk⟩
theorem uF (h:Wp ss ta fun x=>Wp ss tb fun y=>NF x y=true/\k (.bl (!alike x y))):Wp ss (CD gK ta tb) k:=⟨fun E σ F H Q S q=>
 h.go E σ F H _ S fun v p F1 H1 a c h2=>h2.go E σ F1 H1 _ a.st fun f p2 F2 H2 d b AK=>by
  obtain⟨sc,kk⟩:=AK;have e:=sc;unfold NF at sc;rw[Df,Df] at sc;rw[c.enc sc.1.1,b.enc sc.1.2];refine⟨sc.2,?_⟩;rw[kL e];exact q _ _ F2 H2 (a.trans d) (.bl _) kk⟩
theorem jb (h:Wp ss ta fun x=>∃c,x=.bl c/\if c=true then Wp ss tb k else k (.bl false)):Wp ss (Zn ta tb) k:=⟨fun E σ F H Q S q=>
 h.go E σ F H _ S fun v p F1 H1 a d AK=>by
  obtain⟨c,e,h2⟩:=AK;subst e;cases d.inv;refine⟨c,rfl,?_⟩;cases c with
  | true=>rw[pQ rfl] at h2 ⊢;exact h2.go E σ F1 H1 _ a.st fun g p2 F2 H2 f b kk=>q _ _ F2 H2 (a.trans f) b kk
  | false=>rw[o5 (by decide)] at h2 ⊢;exact q _ _ F1 H1 a (.bl _) h2⟩
theorem kK (h:Wp ss ta fun x=>∃c,x=.bl c/\if c=true then k (.bl true) else Wp ss tb k):Wp ss (aH ta tb) k:=⟨fun E σ F H Q S q=>
 h.go E σ F H _ S fun v p F1 H1 a d AK=>by
  obtain⟨c,e,h2⟩:=AK;subst e;cases d.inv;refine⟨c,rfl,?_⟩;cases c with
  | true=>rw[pQ rfl] at h2 ⊢;exact q _ _ F1 H1 a (.bl _) h2
  | false=>rw[o5 (by decide)] at h2 ⊢;exact h2.go E σ F1 H1 _ a.st fun g p2 F2 H2 f b kk=>q _ _ F2 H2 (a.trans f) b kk⟩
theorem P2 {g:Int->Int->Bool}(h:Wp ss ta fun x=>∃i,x=.int i/\Wp ss tb fun y=>∃j,y=.int j/\if f i j=true then Wp ss tc (fun z=>∃l,z=.int l/\k (.bl (g j l))) else k (.bl false)):
  Wp ss (O3 (Gi fun i j=>.bl (f i j)) (Gi fun i j=>.bl (g i j)) ta tb tc) k:=⟨fun E σ F H Q S q=>
 h.go E σ F H _ S fun v p F1 H1 d n AK=>by
  obtain⟨i,t,h2⟩:=AK;subst t;cases n.inv;exact h2.go E σ F1 H1 _ d.st fun w p2 F2 H2 b m DM=>by
   obtain⟨j,s,a⟩:=DM;subst s;cases m.inv;refine⟨i,j,rfl,rfl,f i j,rfl,?_⟩;cases c:f i j with
   | true=>
    rw[c,pQ rfl] at a;rw[pQ rfl];exact a.go E σ F2 H2 _ b.st fun u p3 F3 H3 o e Z8=>by
     obtain⟨l,r,kk⟩:=Z8;subst r;cases e.inv;exact⟨j,l,rfl,rfl,q _ _ F3 H3 (d.trans (b.trans o)) (.bl _) kk⟩
   | false=>
    rw[c,o5 (by decide)] at a;rw[o5 (by decide)];exact q _ _ F2 H2 (d.trans b) (.bl _) a⟩
theorem Ct {k:Bool->Prop}(h:Wp ss te fun x=>∃c,x=.bl c/\k c):Wt ss (Ms te) k:=⟨fun E σ F H Q S q=>
 h.go E σ F H _ S fun v p F1 H1 b a AK=>by obtain⟨c,e,kk⟩:=AK;subst e;cases a.inv;exact⟨c,rfl,q _ F1 H1 b kk⟩⟩
theorem Fc {k:Bool->Prop}(h:Wp ss te fun x=>∃c,x=.bl c/\k c):Wt ss (tB te) k:=⟨fun E σ F H Q S q=>
 h.go E σ F H _ S fun v p F1 H1 b a AK=>by obtain⟨c,e,kk⟩:=AK;subst e;cases a.inv;exact⟨c,rfl,q _ F1 H1 b kk⟩⟩
theorem Ib {t:TT}{k:Bool->Prop}(h:Wt ss t fun c=>k (!c)):Wt ss (RB t) k:=⟨fun E σ F H Q S q=>h.go E σ F H _ S fun c F1 H1 a kk=>q _ F1 H1 a kk⟩
theorem ZC4 {t u:TT}{k:Bool->Prop}(h:Wt ss t fun c=>if c=true then Wt ss u k else k false):Wt ss (RZ t u) k:=⟨fun E σ F H Q S q=>
 h.go E σ F H _ S fun c F1 H1 a h2=>by
  show if c=true then _ else _
  cases c with
  | true=>rw[pQ rfl] at h2 ⊢;exact h2.go E σ F1 H1 _ a.st fun c2 F2 H2 b kk=>q _ F2 H2 (a.trans b) kk
  | false=>rw[o5 (by decide)] at h2 ⊢;exact q _ F1 H1 a h2⟩
theorem Hy {t u:TT}{k:Bool->Prop}(h:Wt ss t fun c=>if c=true then k true else Wt ss u k):Wt ss (ZR t u) k:=⟨fun E σ F H Q S q=>
 h.go E σ F H _ S fun c F1 H1 a h2=>by
  show if c=true then _ else _
  cases c with
  | true=>rw[pQ rfl] at h2 ⊢;exact q _ F1 H1 a h2
  | false=>rw[o5 (by decide)] at h2 ⊢;exact h2.go E σ F1 H1 _ a.st fun c2 F2 H2 b kk=>q _ F2 H2 (a.trans b) kk⟩
end
structure We [Xw] (ss:List Slot) (t:TA) (k:List PV->Prop):Prop where
 go:∀(E:Ent) (σ:L2.St) (F H:Hp) (Q:List V->Hp->Prop),Sg E ss σ F H->(∀vs ps F' H',Mv E ss σ F H F' H'->AV F' vs ps->k ps->Q vs H')->t σ H Q
structure Wo [Xw] (ss:List Slot) (t:TO) (k:Option Int->Prop):Prop where
 go:∀(E:Ent) (σ:L2.St) (F H:Hp) (Q:Option Int->Hp->Prop),Sg E ss σ F H->(∀o F' H',Mv E ss σ F H F' H'->k o->Q o H')->t σ H Q
section
variable [Xw]
variable {K:ZHP}{k:PV->Prop}{R:B3}
theorem LA {k:List PV->Prop}(h:k []):We ss BM k:=⟨fun E σ F H Q S q=>q _ _ F H (.refl S) .nil h⟩
theorem Ld {k:List PV->Prop}(h:Wp ss te fun p=>We ss t fun ps=>k (p::ps)):We ss (Ag te t) k:=⟨fun E σ F H Q S q=>
 h.go E σ F H _ S fun v p F1 H1 b d h2=>h2.go E σ F1 H1 _ b.st fun vs ps F2 H2 a c kk=>q _ _ F2 H2 (b.trans a) (.cons (d.mono a.ff) c) kk⟩
theorem Bh {k:List Slot->Prop}(h:k []):Wa ss BM k:=⟨fun E σ F H Q S q=>q _ _ F H (.refl S) .nil h⟩
theorem B4 {k:List Slot->Prop}(h:Wp ss te fun p=>Wa ss t fun l=>k (.is p::l)):Wa ss (Ag te t) k:=⟨fun E σ F H Q S q=>
 h.go E σ F H _ S fun v p F1 H1 b d h2=>h2.go E σ F1 H1 _ b.st fun vs l F2 H2 a c kk=>q _ _ F2 H2 (b.trans a) (.cons (s:=.is p) (d.mono a.ff) c) kk⟩
theorem DS {k:List Slot->Prop}(h:Wq ss te fun tp xs=>Wa ss t fun l=>k (.sq tp xs::l)):Wa ss (Ag te t) k:=⟨fun E σ F H Q S q=>
 h.go E σ F H _ S fun v tp xs F1 H1 b d h2=>h2.go E σ F1 H1 _ b.st fun vs l F2 H2 a c kk=>q _ _ F2 H2 (b.trans a) (.cons (s:=.sq tp xs) (d.mv a) c) kk⟩
theorem yT {k:List Slot->Prop}{P:Hp->V->Prop}(hi:ss[i]?=some (.raw P))(h:Wa ss t fun l=>k (.raw P::l)):Wa ss (Ag (BD i) t) k:=⟨fun E σ F H Q S q=>by
 obtain⟨v,e,r,st⟩:=S.ok i _ hi;exact⟨v,e,h.go E σ F H _ S fun vs l F2 H2 a b kk=>q _ _ F2 H2 a (.cons (s:=.raw P) ⟨st _ _ a.ff r,st⟩ b) kk⟩⟩
theorem nQ {k:Option Int->Prop}(h:k none):Wo ss Xn k:=⟨fun E σ F H Q S q=>q _ F H (.refl S) h⟩
theorem ZFs {k:Option Int->Prop}(h:Wp ss te fun p=>∃i,p=.int i/\k (some i)):Wo ss (Uw te) k:=⟨fun E σ F H Q S q=>
 h.go E σ F H _ S fun v p F1 H1 b a AK=>by obtain⟨i,e,kk⟩:=AK;subst e;cases a.inv;exact⟨i,rfl,q _ F1 H1 b kk⟩⟩
theorem OF {n:Nat}(h:n<=99999):n<sizeLine:=DQ (Nat.lt_succ_of_le h) (small (Ax 100000))
theorem Pe (h:We ss t fun ps=>ps.length<=100000/\k (.tup ps)):Wp ss (aF t) k:=⟨fun E σ F H Q S q=>
 h.go E σ F H _ S fun vs ps F1 H1 d b AK=>by obtain⟨e,kk⟩:=AK;exact⟨small (by rw[b.length];exact e),fun a f=>by
  have c:=d.st.alloc f (.tup vs);exact q _ _ _ _ (d.trans c) (.tup AO (b.mono c.ff)) kk⟩⟩
theorem zM {k:List PV->Prop}(h:We ss t fun ps=>ps.length<=100000/\k ps):Wn ss (Ta t) k:=⟨fun E σ F H Q S q=>
 h.go E σ F H _ S fun vs ps F1 H1 b d AK=>by obtain⟨g,kk⟩:=AK;exact⟨small (by rw[d.length];exact g),fun a c=>by
  have f:=b.st.make c (.lst vs);refine q a vs ps F1 _ (b.trans f) (b.st.CA c) ?_ AO d kk;cases e:H a with
  | none=>rfl
  | some o=>rw[b.hh a o (b.st.PY c) e] at c;cases c⟩⟩
theorem D6 (h:Wq ss te fun _ xs=>k (.int xs.length)):Wp ss (Dm (YF K) (Ag te BM)) k:=⟨fun E σ F H Q S q=>
 h.go E σ F H _ S fun v tp xs F1 H1 a sv kk=>by
  obtain⟨l,vs,rfl,b,r⟩:=sv.seq a.st;refine⟨l,vs,rfl,(FW.sq (K:=K) b).or,?_⟩;rw[r.length];exact q _ _ F1 H1 a (.int _) kk⟩
theorem AV.Bs {i:Int}(r:AV F vs xs)(h:L2.Bs xs i=some p):∃u,L2.Bs vs i=some u/\Rep F u p:=by
 unfold L2.Bs at h ⊢;rw[r.length];cases e:Fl xs.length i with
 | none=>rw[e] at h;cases h
 | some j=>
  rw[e] at h;exact r.get h
theorem oA (h:Wq ss ta fun tp xs=>tp=false/\Wp ss tb fun y=>∃i p,y=.int i/\L2.Bs xs i=some p/\k p):Wp ss (CD (TR K) ta tb) k:=⟨fun E σ F H Q S q=>
 h.go E σ F H _ S fun v tp xs F1 H1 b sv ⟨m,h2⟩=>h2.go E σ F1 H1 _ b.st fun n p2 F2 H2 a d ⟨i,p,e,j,kk⟩=>by
  subst e;cases d.inv;subst m;obtain⟨l,vs,rfl,g,r⟩:=(sv.mv a).seq a.st;obtain⟨u,f,c⟩:=r.Bs j;exact⟨l,vs,i,u,rfl,rfl,AN.of g,f,q _ _ F2 H2 (b.trans a) c kk⟩⟩
theorem FL (h:Wq ss ta fun tp xs=>tp=true/\Wp ss tb fun y=>∃i p,y=.int i/\L2.Bs xs i=some p/\k p):Wp ss (CD (NC K) ta tb) k:=⟨fun E σ F H Q S q=>
 h.go E σ F H _ S fun v tp xs F1 H1 b sv ⟨m,h2⟩=>h2.go E σ F1 H1 _ b.st fun n p2 F2 H2 a d ⟨i,p,e,j,kk⟩=>by
  subst e;cases d.inv;subst m;obtain⟨l,vs,rfl,g,r⟩:=(sv.mv a).seq a.st;obtain⟨u,f,c⟩:=r.Bs j;exact⟨l,vs,i,u,rfl,rfl,AU.of g,f,q _ _ F2 H2 (b.trans a) c kk⟩⟩
theorem gN (h:Wp ss ta fun p=>∃x,p=.str x/\Wq ss tb fun _ ys=>∃ns:List Str,ys=ns.map PV.str/\k (.bl (if neg then !decide (x∈ns) else decide (x∈ns)))):Wp ss (CD (Ko K neg) ta tb) k:=⟨fun E σ F H Q S q=>
 h.go E σ F H _ S fun v p F1 H1 b d AK=>by
  obtain⟨x,e,h2⟩:=AK;subst e;cases d.inv;exact h2.go E σ F1 H1 _ b.st fun g tp ys F2 H2 a sv DM=>by
   obtain⟨ns,f,kk⟩:=DM;subst f;obtain⟨l,vs,rfl,c,r⟩:=sv.seq a.st;rw[r.strs] at c;refine⟨l,_,rfl,(FW.sq (K:=K) c).or,rfl,HX ns,?_⟩;rw[R3];exact q _ _ F2 H2 (b.trans a) (.bl _) kk⟩
theorem NX {k:List PV->Prop}(e:r=fun xs H Q=>∃p ys,xs=[.ref p]/\(AN K H p ys∨AU K H p ys)/\∀l,H l=none->Q (.ref l) (upd H l (.lst ys)))(h:Wq ss te fun _ xs=>k xs):Wn ss (Dm r (Ag te BM)) k:=⟨fun E σ F H Q S q=>
 h.go E σ F H _ S fun v tp xs F1 H1 b sv kk=>by
  subst e;obtain⟨l,vs,rfl,f,r⟩:=sv.seq b.st;refine⟨l,vs,rfl,(FW.sq (K:=K) f).or,fun a c=>?_⟩;have d:=b.st.make c (.lst vs);exact q a vs xs F1 _ (b.trans d) (b.st.CA c) (b.none c) AO r kk⟩
theorem Sh (d:r=fun xs H Q=>∃p ys,xs=[.ref p]/\((AN K H p ys/\∀l,H l=none->Q (.ref l) (upd H l (.tup ys)))∨(AU K H p ys/\Q (.ref p) H)))(h:Wq ss te fun _ xs=>k (.tup xs)):Wp ss (Dm r (Ag te BM)) k:=⟨fun E σ F H Q S q=>
 h.go E σ F H _ S fun v tp xs F1 H1 b sv kk=>by
  subst d;cases tp with
  | false=>
   obtain⟨l,vs,rfl,f,r⟩:=sv.seq b.st;refine⟨l,vs,rfl,.inl ⟨AN.of f,fun a g=>?_⟩⟩;have c:=b.st.alloc g (.tup vs);exact q _ _ _ _ (b.trans c) (.tup AO (r.mono c.ff)) kk
  | true=>
   have i:Rep F1 v (.tup xs):=sv;cases i with
   | tup e r=>exact⟨_,_,rfl,.inr ⟨AU.of (b.st.fh _ _ e),q _ _ F1 H1 b (.tup e r) kk⟩⟩⟩
theorem ZFr {k:List PV->Prop}(h:Wq ss ta fun tp xs=>tp=false/\Wq ss tb fun CZ ys=>CZ=false/\xs.length+ys.length<=100000/\k (xs++ys)):Wn ss (CD jP ta tb) k:=⟨fun E σ F H Q S q=>
 h.go E σ F H _ S fun v tp xs F1 H1 c sv ⟨m,h2⟩=>h2.go E σ F1 H1 _ c.st fun n CZ ys F2 H2 b XW ⟨f,i,kk⟩=>by
  subst m;subst f;obtain⟨l,vs,rfl,j,r⟩:=(sv.mv b).seq b.st;obtain⟨l2,Jg,rfl,FK,e⟩:=XW.seq b.st;refine⟨l,l2,vs,Jg,rfl,rfl,j,FK,small (by rw[r.length,e.length];exact i),fun a d=>?_⟩;have g:=b.st.make d (.lst (vs++Jg));exact q a _ _ F2 _ (c.trans (b.trans g)) (b.st.CA d) ((c.trans b).none d) AO (r.append e) kk⟩
noncomputable def Du {α:Type}(xs:List α)(lo hi:Option Int):List α:=(xs.drop (HT.Aq xs.length 0 lo)).take (HT.Aq xs.length xs.length hi - HT.Aq xs.length 0 lo)
theorem AV.cut (r:AV F vs xs)(lo hi:Option Int):AV F (Cr vs lo hi) (Du xs lo hi):=by
 unfold Cr Du;rw[r.length];exact(r.drop _).take _
def vD (tp:Bool)(xs:List PV):PV:=if tp then .tup xs else .lst xs
def TV (K:ZHP):V->Option Int->Option Int->Hp->VK->Prop:=fun x lo hi H Q=>ji K x lo hi H Q∨ba K x lo hi H Q
theorem Lb {X:Cx}:LB X (TV X.K):=by
 intro pins s σ H x v vl vu lo hi sl Q I a c pl b h;rcases h with h | h
 ·exact NW pins s σ H x v vl vu lo hi sl Q I a c pl b h
 ·exact ZE5 pins s σ H x v vl vu lo hi sl Q I a c pl b h
theorem TZ {tl th:TO}(h:Wq ss te fun tp xs=>Wo ss tl fun lo=>Wo ss th fun hi=>k (vD tp (Du xs lo hi))):Wp ss (Pn (TV K) te tl th) k:=⟨fun E σ F H Q S q=>
 h.go E σ F H _ S fun v tp xs F1 H1 i sv h2=>h2.go E σ F1 H1 _ i.st fun lo F2 H2 d o=>o.go E σ F2 H2 _ d.st fun hi F3 H3 b kk=>by
  have m:=sv.mv (d.trans b);have g:=i.trans (d.trans b);cases tp with
  | false=>
   obtain⟨l,vs,rfl,n,r⟩:=m.seq b.st;refine .inl ⟨l,vs,rfl,AN.of n,fun a f=>?_⟩;have c:=b.st.alloc f (.lst (Cr vs lo hi));exact q _ _ _ _ (g.trans c) (.lst AO ((r.cut lo hi).mono c.ff)) kk
  | true=>
   have s:Rep F3 v (.tup xs):=m;cases s with
   | @tup _ vs _ e r=>
    refine .inr ⟨_,vs,rfl,AU.of (b.st.fh _ _ e),fun hw=>?_,fun hw a f=>?_⟩
    ·have p:Du xs lo hi=xs:=by
      rw[r.length] at hw;unfold Du;rw[hw.1,hw.2];simp
     refine q _ _ F3 H3 g (.tup e r) ?_;have j:=kk;rw[p] at j;exact j
    ·have c:=b.st.alloc f (.tup (Cr vs lo hi));exact q _ _ _ _ (g.trans c) (.tup AO ((r.cut lo hi).mono c.ff)) kk⟩
theorem ZAI {k:List PV->Prop}(h:Wq ss te fun _ xs=>∃ns:List Str,xs=ns.map PV.str/\ns.length<64/\∀Bd:List Str,Bd.Perm ns->sortedS Bd=true->k (Bd.map PV.str)):Wn ss (Dm (ZI K) (Ag te BM)) k:=⟨fun E σ F H Q S q=>
 h.go E σ F H _ S fun v tp xs F1 H1 b sv AK=>by
  obtain⟨ns,e,g,kk⟩:=AK;subst e;obtain⟨l,vs,rfl,d,r⟩:=sv.seq b.st;rw[r.strs] at d;refine⟨l,tp,ns,rfl,FW.sq d,g,fun a Bd c j i=>?_⟩;have f:=b.st.make c (.lst (Bd.map V.str));exact q a _ _ F1 _ (b.trans f) (b.st.CA c) (b.none c) AO (MU Bd) (kk Bd j i)⟩
theorem wq (xs ys:List Str):Fg (xs.map V.str) (ys.map V.str)=decide (xs=ys):=by
 by_cases h:xs=ys
 ·subst h;rw[vS,nv rfl]
 ·rw[q8 h]
  by_cases a:xs.length=ys.length
  ·rw[Mf (by simpa using a)]
   cases c:(List.range (xs.map V.str).length).all fun j=>E8 ((xs.map V.str).getD j .A8) ((ys.map V.str).getD j .A8) with
   | false=>rfl
   | true=>
    exfalso;apply h;apply List.ext_getElem a;intro j h1 h2;have q:=List.all_eq_true.mp c j (List.mem_range.mpr (by simpa using h1))
    have e:(xs.map V.str)[j]?=some (.str xs[j]):=by rw[BU,BC h1];rfl
    have d:(ys.map V.str)[j]?=some (.str ys[j]):=by rw[BU,BC h2];rfl
    rw[PX e,PX d] at q;have b:(xs[j] == ys[j])=true:=q
    simpa using b
  ·rw[Na (by simpa using a)]
theorem kA (h:Wq ss ta fun tp xs=>∃ns:List Str,xs=ns.map PV.str/\Wq ss tb fun CZ ys=>CZ=tp/\∃a:List Str,ys=a.map PV.str/\k (.bl (if neg then !decide (ns=a) else decide (ns=a)))):Wp ss (CD (OE K neg) ta tb) k:=⟨fun E σ F H Q S q=>
 h.go E σ F H _ S fun v tp xs F1 H1 c sv ⟨ns,i,h2⟩=>h2.go E σ F1 H1 _ c.st fun j CZ ys F2 H2 b XW ⟨f,a,g,kk⟩=>by
  subst i;subst g;subst f;obtain⟨l,vs,rfl,d,r⟩:=(sv.mv b).seq b.st;obtain⟨l2,Jg,rfl,FK,e⟩:=XW.seq b.st;rw[r.strs] at d;rw[e.strs] at FK;refine⟨l,l2,ns.map V.str,a.map V.str,rfl,rfl,?_,HX _,HX _,?_⟩
  ·cases CZ
   ·exact .inl ⟨AN.of d,AN.of FK⟩
   ·exact .inr ⟨AU.of d,AU.of FK⟩
  ·rw[wq];cases neg
   ·exact q _ _ F2 H2 (c.trans b) (.bl _) kk
   ·exact q _ _ F2 H2 (c.trans b) (.bl _) kk⟩
def tyP:PV->String
 | .A8 => "NoneType"
 | .bl _ => "bool"
 | .int _ => "int"
 | .str _ => "str"
 | .lst _ => "list"
 | .tup _ => "tuple"
 | .B1 _ _ => "dict"
 | _ => ""
def Kr:PV->Value
 | .obj _ _ _=>.none
 | .exc _ _ _=>.none
 | .con _ _=>.none
 | p=>.type (tyP p)
theorem SD (h:PySem.W.kitOne K .none (.type n)=some b):False:=by
 unfold PySem.W.kitOne PySem.W.kitCls PySem.W.subIn at h;simp at h
theorem Rep.zx (s:AB F H)(r:Rep F v p)(a:PySem.W.kitOne K (Kr p) (.type n)=some b):FT K H v (Kr p):=by
 cases r with
 | A8=>exact .A8
 | bl b=>exact .bl b
 | int i=>exact .int i
 | str x=>exact .str x
 | lst h _=>exact .lst (s _ _ h)
 | tup h _=>exact .tup (s _ _ h)
 | B1 h _ _=>exact .dK (s _ _ h)
 | obj _ _ _ _=>exact(SD a).elim
 | Pk _=>exact(SD a).elim
 | con=>exact(SD a).elim
 | exc _ _ _ _=>exact(SD a).elim
theorem nW (h:Wp ss te fun p=>∃b,PySem.W.kitOne K (Kr p) (.type n)=some b/\k (.bl b)):Wp ss (Dm (kH K) (Ag te (Ag (tC (.ty n)) BM))) k:=⟨fun E σ F H Q S q=>
 h.go E σ F H _ S fun v p F1 H1 a r AK=>by obtain⟨b,c,kk⟩:=AK;exact⟨v,n,_,b,rfl,r.zx a.st.fh c,c,q _ _ F1 H1 a (.bl _) kk⟩⟩
theorem ZEj (e:r=fun xs H Q=>∃i j,xs=[.int i,.int j]/\Q (.int (if j > i then j else i)) H)(h:Wp ss ta fun x=>∃i,x=.int i/\Wp ss tb fun y=>∃j,y=.int j/\k (.int (if j > i then j else i))):Wp ss (Dm r (Ag ta (Ag tb BM))) k:=⟨fun E σ F H Q S q=>
 h.go E σ F H _ S fun v p F1 H1 a c AK=>by
  obtain⟨i,g,h2⟩:=AK;subst e;subst g;cases c.inv;exact h2.go E σ F1 H1 _ a.st fun l p2 F2 H2 d b DM=>by
   obtain⟨j,f,kk⟩:=DM;subst f;cases b.inv;exact⟨i,j,rfl,q _ _ F2 H2 (a.trans d) (.int _) kk⟩⟩
theorem ZAM (e:r=fun xs H Q=>∃i j,xs=[.int i,.int j]/\Q (.int (if j<i then j else i)) H)(h:Wp ss ta fun x=>∃i,x=.int i/\Wp ss tb fun y=>∃j,y=.int j/\k (.int (if j<i then j else i))):Wp ss (Dm r (Ag ta (Ag tb BM))) k:=⟨fun E σ F H Q S q=>
 h.go E σ F H _ S fun v p F1 H1 a c AK=>by
  obtain⟨i,g,h2⟩:=AK;subst e;subst g;cases c.inv;exact h2.go E σ F1 H1 _ a.st fun l p2 F2 H2 d b DM=>by
   obtain⟨j,f,kk⟩:=DM;subst f;cases b.inv;exact⟨i,j,rfl,q _ _ F2 H2 (a.trans d) (.int _) kk⟩⟩
end
structure Src (E:Ent0) (F1:Hp) (J:It) (xs:List PV):Prop where
 go:∀(ss:List Slot) (σ:L2.St) (F H:Hp) (i:Nat),AB F1 F->Sg E ss σ F H->i<xs.length->J.go i H
 stop:∀(ss:List Slot) (σ:L2.St) (F H:Hp),AB F1 F->Sg E ss σ F H->J.stop xs.length H
 Gn:∀(ss:List Slot) (σ:L2.St) (F H:Hp) (i:Nat) (x:V) (H':Hp),AB F1 F->Sg E ss σ F H->i<xs.length->J.Gn i H x H'->∃p F',xs[i]?=some p/\Mv E ss σ F H F' H'/\Rep F' x p
structure Wi [Xw] (ss:List Slot) (wi:TI) (k:List PV->Prop):Prop where
 go:∀(E:Ent) (σ:L2.St) (F H:Hp) (R:It->Hp->Prop),Sg E ss σ F H->(∀J xs F' H',Mv E ss σ F H F' H'->Src E F' J xs->k xs->R J H')->wi σ H R
structure Wg [Xw] (ss:List Slot) (g:TG) (p:PV) (k:List Slot->Prop):Prop where
 go:∀(E:Ent) (σ:L2.St) (F H:Hp) (v:V) (Q:L2.St->Hp->Prop),Sg E ss σ F H->Rep F v p->(∀AJ σ',k AJ->Sg E AJ σ' F H->Q σ' H)->g v σ H Q
section
variable [Xw]
variable {K:ZHP}{k:PV->Prop}{R:B3}
theorem iM (h:∀(ss:List Slot) (σ:L2.St) (F H:Hp),AB F' F->Sg E ss σ F H->H l=some (FW tp vs))(r:AV F' vs xs):Src E F' (PL K tp l vs) xs where
 go:=fun ss σ F H i s S hi=>⟨FW.sq (h ss σ F H s S),by rw[r.length];exact hi⟩
 stop:=fun ss σ F H s S=>⟨FW.sq (h ss σ F H s S),by rw[r.length];exact Ax _⟩
 Gn:=fun ss σ F H i x H' s S hi y=>by
  obtain⟨e,hx⟩:=y;subst e;obtain⟨p,b,a⟩:=r.get' hx;exact⟨p,F,b,.refl S,a.mono s⟩
theorem Rn {k:List PV->Prop}(h:Wz ss te fun _ xs=>k xs):Wi ss (YS K te) k:=⟨fun E σ F H R S q=>
 h.go E σ F H _ S fun v tp xs F1 H1 a f kk=>by
  cases tp with
  | true=>
   have c:Rep F1 v (.tup xs):=f;cases c with
   | tup e r=>exact⟨true,_,_,rfl,AU.of (a.st.fh _ _ e),q _ _ F1 H1 a (iM (tp:=true) (fun ss σ F H s S=>S.fh _ _ (s _ _ e)) r) kk⟩
  | false=>
   obtain⟨l,vs,rfl,h1,r⟩:=f;have b:∀(ss:List Slot) (σ:L2.St) (F H:Hp),AB F1 F->Sg E ss σ F H->H l=some (.lst vs):=fun ss σ F H s S=>by
    rcases h1 with h1 | ⟨hA,h1⟩
    ·exact S.fh _ _ (s _ _ h1)
    ·exact S.keep _ _ hA h1
   exact⟨false,l,vs,rfl,AN.of (b ss σ F1 H1 (AB.refl _) a.st),q _ _ F1 H1 a (iM (tp:=false) b r) kk⟩⟩
def LL (n:Nat):List PV:=(List.range n).map fun i:Nat=>PV.int (i:Int)
theorem N3 (n:Nat):(LL n).length=n:=by simp[LL]
theorem Yv {n:Nat}(h:(LL n)[i]?=some p):i<n/\p=.int (i:Int):=by
 have hi:i<n:=by have:=(List.getElem?_eq_some_iff.mp h).1;rwa [N3] at this
 unfold LL at h;rw[BU,Tt hi] at h;exact⟨hi,(Bj h).symm⟩
theorem ZB5 {k:List PV->Prop}(h:Wp ss te fun p=>∃j:Int,p=.int j/\j<=1000000/\-1000000<=j/\k (LL j.toNat)):Wi ss (W2 (Ag te BM)) k:=⟨fun E σ F H R S q=>
 h.go E σ F H _ S fun v p F1 H1 a r AK=>by
  obtain⟨j,e,h1,h2,kk⟩:=AK;subst e;cases r.inv;refine⟨j,rfl,by omega,by omega,q _ (LL j.toNat) F1 H1 a ⟨fun ss σ F H i s S hi=>?_,fun ss σ F H s S=>?_,fun ss σ F H i x H' s S hi y=>?_⟩ kk⟩
  ·rw[N3] at hi;exact hi
  ·show _<=_;rw[N3];exact Ax _
  ·obtain⟨e,hx⟩:=y;subst e;subst hx;rw[N3] at hi;refine⟨.int (i:Int),F,?_,.refl S,?_⟩
   ·unfold LL;rw[BU,Tt hi];rfl
   ·rw[Int.zero_add];exact .int _⟩
theorem NY {k:List Slot->Prop}(h:k (ss.set j (.is p))):Wg ss (Cg j) p k:=⟨fun E σ F H v Q S r q=>q _ _ h (S.FQ r)⟩
theorem jl {k:List Slot->Prop}(h:∃a b,p=.tup [a,b]/\k ((ss.set i (.is a)).set j (.is b))):Wg ss (OU K 2 (He (Cg i) (He (Cg j) Pa))) p k:=⟨fun E σ F H v Q S r q=>by
 obtain⟨a,b,rfl,kk⟩:=h;obtain⟨_,_,rfl,e,r⟩:=r.inv;obtain⟨_,_,rfl,d,r⟩:=r.inv;obtain⟨_,_,rfl,c,r⟩:=r.inv;obtain rfl:=r.Dy;exact⟨_,_,rfl,AU.of (S.fh _ _ e),rfl,_,_,rfl,_,_,rfl,rfl,q _ _ kk ((S.FQ d).FQ c)⟩⟩
theorem qf {l:Nat}{k:List Slot->Prop}(h:∃a b c,p=.tup [a,b,c]/\k (((ss.set i (.is a)).set j (.is b)).set l (.is c))):Wg ss (OU K 3 (He (Cg i) (He (Cg j) (He (Cg l) Pa)))) p k:=⟨fun E σ F H v Q S r q=>by
 obtain⟨a,b,c,rfl,kk⟩:=h;obtain⟨_,_,rfl,e,r⟩:=r.inv;obtain⟨_,_,rfl,g,r⟩:=r.inv;obtain⟨_,_,rfl,f,r⟩:=r.inv;obtain⟨_,_,rfl,d,r⟩:=r.inv;obtain rfl:=r.Dy;exact⟨_,_,rfl,AU.of (S.fh _ _ e),rfl,_,_,rfl,_,_,rfl,_,_,rfl,rfl,q _ _ kk (((S.FQ g).FQ f).FQ d)⟩⟩
theorem Al {t:TS}(h:Ws ss t (fun AJ=>Ws AJ u nx R) R):Ws ss (LQ t u) nx R:=⟨fun E D σ F H S hn a=>
 h.go E { D with nx:=u D } σ F H S (fun AJ σ' F' H' w S' s=>w.go E D σ' F' H' S' (fun DU σ2 F2 H2 n2 S2 s2=>hn DU σ2 F2 H2 n2 S2 (s.trans s2)) a) a⟩
theorem Ei {t:TS}(h:Ws ss t nx R):Ws ss (Zo t) nx R:=⟨fun E D σ F H S hn a=>⟨D.nx,h.go E { D with nx:=D.nx } σ F H S hn a,fun _ _ q=>q⟩⟩
theorem Ws.mono {t:TS}(h:Ws ss t nx R)(i:∀s,nx s->Sk s):Ws ss t Sk R:=⟨fun E D σ F H S hn a=>h.go E D σ F H S (fun AJ σ' F' H' n=>hn AJ σ' F' H' (i _ n)) a⟩
theorem yQ {t:TS}(J:List Slot->Prop)(h:Ws ss t J R)(h2:∀AJ,J AJ->Ws AJ u nx R):Ws ss (LQ t u) nx R:=Al (h.mono h2)
theorem Iq (h:Wp ss te fun p=>nx (ss.set i (.is p))):Ws ss (Ea te (Cg i)) nx R:=⟨fun E D σ F H S hn b=>
 h.go E σ F H _ S fun v p F1 H1 a r kk=>hn _ _ F1 H1 kk (a.st.FQ r) a.ff⟩
theorem fA (h:Wp ss te fun p=>Wg ss g p nx):Ws ss (Ea te g) nx R:=⟨fun E D σ F H S hn b=>
 h.go E σ F H _ S fun v p F1 H1 a r kk=>kk.go E σ F1 H1 v _ a.st r fun AJ σ' n S'=>hn _ _ F1 H1 n S' a.ff⟩
theorem Of (h:Wn ss te fun xs=>nx (ss.set i (.own xs))):Ws ss (Ea te (Cg i)) nx R:=⟨fun E D σ F H S hn k=>
 h.go E σ F H _ S fun l vs xs F1 H1 a f b Ow r kk=>hn _ _ F1 H1 kk (a.st.setG ⟨l,vs,rfl,f,S.EO b,Ow,r⟩ fun g e j u _ d c=>by cases e;exact S.RF d b c) a.ff⟩
theorem Cq (h:Wp ss te k):Ws ss (Fp te) nx (.is k):=⟨fun E D σ F H S hn b=>
 h.go E σ F H _ S fun v p F1 H1 a r kk=>b v F1 H1 a.st.toFin ⟨p,r,kk⟩⟩
theorem NJ {k:List PV->Prop}(h:Wn ss te k):Ws ss (Fp te) nx (.new k):=⟨fun E D σ F H S hn b=>
 h.go E σ F H _ S fun l vs xs F1 H1 a d c Ow r kk=>b _ F1 H1 a.st.toFin ⟨l,vs,xs,rfl,d,S.EO c,Ow,r,kk⟩⟩
theorem qg {k:List PV->Prop}(h:ss[i]?=some (.own xs))(kk:k xs):Ws ss (Fp (BD i)) nx (.new k):=⟨fun E D σ F H S hn a=>by
 obtain⟨l,vs,e,d,c,b,r⟩:=S.ok i _ h;exact⟨_,e,a _ F H S.toFin ⟨l,vs,xs,rfl,d,c,b,r,kk⟩⟩⟩
theorem CC {c:TT}{t:TS}(h:Wt ss c fun b=>if b=true then Ws ss t nx R else Ws ss u nx R):Ws ss (SY c t u) nx R:=⟨fun E D σ F H S hn d=>
 h.go E σ F H _ S fun b F1 H1 a w=>by
  show if b=true then _ else _
  cases b with
  | true=>rw[pQ rfl] at w ⊢;exact w.go E D σ F1 H1 a.st (fun DU σ2 F2 H2 n S2 s2=>hn DU σ2 F2 H2 n S2 (a.ff.trans s2)) d
  | false=>rw[o5 (by decide)] at w ⊢;exact w.go E D σ F1 H1 a.st (fun DU σ2 F2 H2 n S2 s2=>hn DU σ2 F2 H2 n S2 (a.ff.trans s2)) d⟩
theorem AS (h:nx ss):Ws ss Sd nx R:=⟨fun E D σ F H S hn a=>hn ss σ F H h S (AB.refl _)⟩
theorem KJ (h:Wp ss te fun _=>nx ss):Ws ss (HN te) nx R:=⟨fun E D σ F H S hn b=>
 h.go E σ F H _ S fun v p F1 H1 a r kk=>hn ss σ F1 H1 kk a.st a.ff⟩
theorem Sg.drop (S:Sg E ss σ F H)(i:Nat):Sg E (ss.set i .any) σ F H:=by
 have Ds:∀(j:Nat) u,(ss.set i .any)[j]?=some u->u=.any∨ss[j]?=some u:=fun j u a=>by
  by_cases q:j=i
  ·subst q;have e:j<ss.length:=by have:=(List.getElem?_eq_some_iff.mp a).1;simpa using this
   rw[Cm e] at a;exact .inl (Bj a).symm
  ·rw[CL (B9 q)] at a;exact .inr a
 refine⟨S.toFin,by rw[GX];exact S.len,fun j u a=>?_,fun j k u w l Rj a d c b=>?_⟩
 ·rcases Ds j u a with rfl | h
  ·trivial
  ·exact S.ok j u h
 ·rcases Ds j u a with rfl | h
  ·cases c
  ·rcases Ds k w d with rfl | h2
   ·cases b
   ·exact S.CH j k u w l Rj h h2 c b
theorem P6 (e:σ[i]?=some (some v)):σ.set i (some v)=σ:=by
 apply ao;intro j
 by_cases q:j=i
 ·subst q;rw[Cm (List.getElem?_eq_some_iff.mp e).1,e]
 ·rw[CL (B9 q)]
theorem Sg.Zw (S:Sg E ss σ F H)(j:F a=none)(c:E.H0 a=none∨a∈E.B)(hn:∀(i:Nat) s,ss[i]?=some s->¬ Bc s σ[i]? a):Sg E ss σ F (upd H a o):=by
 have f:∀b u,b≠a->H b=some u->upd H a o b=some u:=fun b u h e=>by rw[AX h];exact e
 refine⟨⟨fun b u e=>?_,S.f0,fun b u d e=>?_,S.fresh,fun b d=>?_,S.Ll,S.a0,S.bF,fun b g=>?_,S.b0⟩,S.len,fun i s hi=>?_,S.CH⟩
 ·exact f b u (DN e j) (S.fh b u e)
 ·refine f b u ?_ (S.keep b u d e);rintro rfl;rcases c with c | c
  ·rw[c] at e;cases e
  ·exact d.2 c
 ·refine C5.keep (S.HB b d) fun u e=>f b u ?_ e;rintro rfl;rcases c with c | c
  ·exact S.a0 _ d c
  ·exact(S.b0 _ c).2 d
 ·by_cases q:b=a
  ·subst q;rw[AO];simp
  ·rw[AX q];exact S.bH b g
 ·by_cases np:s=.AM
  ·subst np;obtain⟨l,e,p,n,k⟩:=S.ok i _ hi;exact⟨l,e,p,n,C5.keep k fun u h=>f l u (by rintro rfl;exact hn i _ hi e) h⟩
  ·exact Ok.go S hi (AB.refl _) (fun b u m h=>f b u (by rintro rfl;exact hn i _ hi m) h) (fun _ _ h=>h) np
theorem Sg.put (S:Sg E ss σ F H){ys:List PV}(hi:ss[i]?=some (.own xs))(e:σ[i]?=some (some (.ref l)))(f:F l=none)(d:E.H0 l=none)(r:AV F Bv ys):Sg E (ss.set i (.own ys)) σ F (upd H l (.lst Bv)):=by
 have a:∀(j:Nat) s,(ss.set i .any)[j]?=some s->¬ Bc s σ[j]? l:=fun j s b c=>by
  by_cases q:j=i
  ·subst q;have p:j<ss.length:=(List.getElem?_eq_some_iff.mp hi).1;rw[Cm p] at b;cases b;cases c
  ·rw[CL (B9 q)] at b;exact S.CH j i s _ l q b hi c e
 have n:=(S.drop i).Zw (o:=.lst Bv) f (.inl d) a;have g:=n.setG (j:=i) (s:=.own ys) (v:=.ref l) ⟨l,Bv,rfl,f,d,AO,r⟩ fun t m j u b k h=>by cases m;exact a j u k h
 rw[P6 e,Tw] at g;exact g
theorem ZDF (hi:ss[i]?=some (.own xs))(h:Wp ss te fun p=>xs.length<=99999/\nx (ss.set i (.own (xs++[p])))):Ws ss (HN (JE K "list" VA (BD i) (Ag te BM))) nx R:=⟨fun E D σ F H S hn k=>by
 obtain⟨l,vs,e,n,m,g,r⟩:=S.ok i _ hi;refine⟨_,e,.inl ⟨rfl,_,AN.of g⟩,h.go E σ F H _ S fun v p F1 H1 a d ⟨f,kk⟩=>?_⟩;obtain⟨j,Bv,c,Cv,C7,HP,b⟩:=a.st.ok i _ hi;rw[e] at c;cases c;refine⟨l,Bv,v,rfl,rfl,HP,OF (by rw[b.length];exact f),?_⟩;exact hn _ σ F1 _ kk (a.st.put hi e Cv C7 (b.append (.one d))) a.ff⟩
theorem cG (hi:ss[i]?=some (.own xs))(h:Wp ss ta fun a=>∃j:Int,a=.int j/\0<=j/\j<=xs.length/\Wp ss te fun p=>xs.length<=99999/\nx (ss.set i (.own (xs.take j.toNat++p::xs.drop j.toNat)))):
  Ws ss (HN (JE K "list" To (BD i) (Ag ta (Ag te BM)))) nx R:=⟨fun E D σ F H S hn w=>by
 obtain⟨l,vs,e,y,x,s,r⟩:=S.ok i _ hi;refine⟨_,e,.inl ⟨rfl,_,AN.of s⟩,h.go E σ F H _ S fun t p1 F1 H1 d k ⟨j,q,n,m,h2⟩=>?_⟩;subst q;cases k.inv;refine h2.go E σ F1 H1 _ d.st fun v p F2 H2 c g ⟨o,kk⟩=>?_;obtain⟨u,Bv,f,Cv,C7,HP,b⟩:=c.st.ok i _ hi;rw[e] at f;cases f;refine⟨l,Bv,j,v,rfl,rfl,HP,n,by rw[b.length];exact m,OF (by rw[b.length];exact o),?_⟩;exact hn _ σ F2 _ kk (c.st.put hi e Cv C7 ((b.take _).append (.cons g (b.drop _)))) (d.ff.trans c.ff)⟩
def CB (F H:Hp)(as:List Addr):Hp:=fun a=>if a∈as then H a else F a
theorem Sg.lay (S:Sg E ss σ F H)(as:List Addr)(g:∀a∈as,F a=none/\E.H0 a=none/\H a≠none)(hn:∀a∈as,∀(i:Nat) s,ss[i]?=some s->¬ Bc s σ[i]? a):Sg E ss σ (CB F H as) H/\AB F (CB F H as):=by
 have x:∀a,a∈as->CB F H as a=H a:=fun a h=>pQ h;have j:∀a,a∉as->CB F H as a=F a:=fun a h=>o5 h;have ff:AB F (CB F H as):=fun a o e=>by
  by_cases q:a∈as
  ·rw[(g a q).1] at e;cases e
  ·rw[j a q];exact e
 have f:∀a,a∉as->F a=none->CB F H as a=none:=fun a q h=>by rw[j a q];exact h
 refine⟨⟨⟨fun a o e=>?_,S.f0.trans ff,S.keep,fun a o e=>?_,S.HB,fun a w=>?_,S.a0,fun a u=>?_,S.bH,S.b0⟩,S.len,fun i s hi=>?_,S.CH⟩,ff⟩
 ·by_cases q:a∈as
  ·rw[x a q] at e;exact e
  ·rw[j a q] at e;exact S.fh a o e
 ·by_cases q:a∈as
  ·exact .inr (g a q).2.1
  ·rw[j a q] at e;exact S.fresh a o e
 ·exact f a (fun q=>S.a0 a w (g a q).2.1) (S.Ll a w)
 ·exact f a (fun q=>(S.b0 a u).1 (g a q).2.1) (S.bF a u)
 ·have l:∀a,Bc s σ[i]? a->a∉as:=fun a m q=>hn a q i s hi m;have kk:=S.ok i s hi;cases s with
  | any=>trivial
  | is p=>obtain⟨v,e,r⟩:=kk;exact⟨v,e,r.mono ff⟩
  | own ys=>
   obtain⟨b,ws,q,d,c,k,r⟩:=kk;exact⟨b,ws,q,f b (l b q) d,c,k,r.mono ff⟩
  | AM=>
   obtain⟨b,q,d,c,k⟩:=kk;exact⟨b,q,f b (l b q) d,c,k⟩
  | sq tp ys=>
   cases tp with
   | true=>obtain⟨v,e,r⟩:=kk;exact⟨v,e,r.mono ff⟩
   | false=>obtain⟨b,ws,q,d,c,r⟩:=kk;exact⟨b,ws,q,d,c,r.mono ff⟩
  | raw P=>obtain⟨v,e,r,st⟩:=kk;exact⟨v,e,st _ _ ff r,st⟩
  | ow lt t=>
   obtain⟨v,e,r,nd,q⟩:=kk;exact⟨v,e,r.mono ff fun a _ o h=>h,nd,fun a n=>⟨f a (l a n) (q a n).1,(q a n).2⟩⟩
theorem NR {t:TS}(i:Nat)(hi:ss[i]?=some (.own xs))(h:Ws (ss.set i (.is (.lst xs))) t nx R):Ws ss t nx R:=⟨fun E D σ F H S hn g=>by
 obtain⟨l,vs,e,o,k,f,r⟩:=S.ok i _ hi;have one:∀a,a∈[l]->a=l:=fun a h=>by simpa using h
 obtain⟨S1,d⟩:=(S.drop i).lay [l] (fun a h=>by rw[one a h,f];exact⟨o,k,by simp⟩) fun a h j s b m=>by
  rw[one a h] at m
  by_cases q:j=i
  ·subst q;rw[Cm (List.getElem?_eq_some_iff.mp hi).1] at b;cases b;cases m
  ·rw[CL (B9 q)] at b;exact S.CH j i s _ l q b hi m e
 have c:=S1.FQ (j:=i) (v:=.ref l) (p:=.lst xs) (.lst (by unfold CB;rw[pQ (by simp)];exact f) (r.mono d));rw[P6 e,Tw] at c;exact h.go E D σ _ H c (fun DU σ2 F2 H2 n c s2=>hn DU σ2 F2 H2 n c (d.trans s2)) g⟩
theorem K4 {tb:TS}(I:List PV->Nat->List Slot->Prop)(h:Wi ss wi fun xs=>I xs 0 ss/\(∀(i:Nat) p AJ,xs[i]?=some p->I xs i AJ->Wg AJ g p fun DU=>Ws DU tb (I xs (i+1)) R)/\∀AJ,I xs xs.length AJ->nx AJ):Ws ss (UC wi g tb) nx R:=⟨fun E D σ F H S hn u=>
 h.go E σ F H _ S fun J xs F1 H1 k d AK=>by
  obtain⟨i0,t,hd⟩:=AK;refine⟨fun i m σ' H'=>m=xs.length - i/\i<=xs.length/\∃AJ F',I xs i AJ/\Sg E AJ σ' F' H'/\AB F1 F',⟨_,rfl,CO _,ss,F1,i0,k.st,AB.refl _⟩,?_⟩;rintro i m σ' H' ⟨rfl,hi,AJ,F',l,S',s'⟩
  by_cases f:i<xs.length
  ·refine .inr ⟨d.go AJ σ' F' H' i s' S' f,fun σ2 H2=>∃DU F2,I xs (i+1) DU/\Sg E DU σ2 F2 H2/\AB F1 F2,fun σ2 H2 DM=>by obtain⟨DU,F2,a,b,c⟩:=DM;exact⟨_,by omega,rfl,f,DU,F2,a,b,c⟩,fun x H3 y=>?_⟩;obtain⟨p,F3,v,j,r⟩:=d.Gn AJ σ' F' H' i x H3 s' S' f y;refine(t i p AJ v l).go E σ' F3 H3 x _ j.st r fun o σ4 w S4=>?_;exact w.go E _ σ4 F3 H3 S4 (fun n σ5 F5 H5 s S5 q=>⟨n,F5,s,S5,(s'.trans j.ff).trans q⟩) u
  ·have e:i=xs.length:=by omega
   subst e;exact .inl ⟨d.stop AJ σ' F' H' s' S',hn AJ σ' F' H' (hd AJ l) S' (k.ff.trans s')⟩⟩
end
def E2 (js:List Nat)(ss:List Slot):List Slot:=js.map fun j=>(ss[j]?).getD .any
def WM (js:List Nat)(ss:List Slot):Bool:=js.all fun j=>match ss[j]? with
 | some .AM=>false
 | _=>true
section
variable [Xw]
variable {K:ZHP}{js:List Nat}
theorem ZFB (h:js[i]?=some j)(e:(E2 js ss)[i]?=some s):s=(ss[j]?).getD .any:=by
 unfold E2 at e;rw[BU,h] at e;exact(Bj e).symm
theorem Sg.Ar (S:Sg E ss σ F H)(nd:js.Nodup)(r:AV F vs ps):Sg E (E2 js ss++ps.map .is) (Bt js σ++vs.map some) F H:=by
 have d:(E2 js ss).length=js.length:=by simp[E2]
 have f:(Bt js σ).length=js.length:=by simp[Bt]
 have Ds:∀(i:Nat) (hi:i<js.length),(E2 js ss++ps.map .is)[i]?=some ((ss[js[i]]?).getD .any)/\(Bt js σ++vs.map some)[i]?=some ((σ[js[i]]?).join):=fun i hi=>by
  rw[Hq (by rw[d];exact hi),Hq (by rw[f];exact hi)];unfold E2 Bt;rw[BU,BU,BC hi];exact⟨rfl,rfl⟩
 have c:∀(i:Nat) s,js.length<=i->(E2 js ss++ps.map .is)[i]?=some s->∃p v,s=.is p/\(Bt js σ++vs.map some)[i]?=some (some v)/\Rep F v p:=fun i s hi e=>by
  rw[Kk (by rw[d];exact hi),d,BU] at e;rw[Kk (by rw[f];exact hi),f,BU];cases q:ps[i - js.length]? with
  | none=>rw[q] at e;cases e
  | some p=>
   rw[q] at e;obtain⟨v,h,g⟩:=r.get q;rw[h];exact⟨p,v,(Bj e).symm,rfl,g⟩
 have D:∀(s:Slot) (m:Nat) (l:Addr),Bc s (some (σ[m]?).join) l->Bc s σ[m]? l:=fun s m l o=>by
  have n:∀l,some (σ[m]?).join=some (some (V.ref l))->σ[m]?=some (some (.ref l)):=fun l e=>by
   cases q:σ[m]? with
   | none=>rw[q] at e;cases e
   | some o=>rw[q] at e;cases o with
    | none=>cases e
    | some v=>simpa using e
  cases s with
  | own xs=>exact n l o
  | AM=>exact n l o
  | ow lt t=>exact o
  | _=>exact o
 have k:∀(i:Nat) s l,(E2 js ss++ps.map .is)[i]?=some s->Bc s (Bt js σ++vs.map some)[i]? l->∃hi:i<js.length,ss[js[i]]?=some s/\Bc s σ[js[i]]? l:=fun i s l e m=>by
  by_cases hi:i<js.length
  ·rw[(Ds i hi).2] at m;refine⟨hi,?_,D s _ l m⟩;rw[(Ds i hi).1] at e;cases q:ss[js[i]]? with
   | none=>rw[q] at e;cases e;cases m
   | some u=>rw[q] at e;exact e
  ·obtain⟨p,v,rfl,_⟩:=c i s (by omega) e;cases m
 refine⟨S.toFin,?_,fun i s e=>?_,fun i j s u l FN hi C B A=>?_⟩
 ·rw[CM,CM,d,f,AQ,AQ,r.length]
 ·by_cases hi:i<js.length
  ·obtain⟨a,b⟩:=Ds i hi;rw[a] at e;rw[b];cases q:ss[js[i]]? with
   | none=>rw[q] at e;cases e;trivial
   | some u=>
    rw[q] at e;have G:u=s:=Bj e;subst G;have kk:=S.ok _ _ q;cases u with
    | any=>trivial
    | is p=>obtain⟨v,e,r⟩:=kk;rw[e];exact⟨v,rfl,r⟩
    | own xs=>obtain⟨l,vs,e,r⟩:=kk;rw[e];exact⟨l,vs,rfl,r⟩
    | AM=>obtain⟨l,e,r⟩:=kk;rw[e];exact⟨l,rfl,r⟩
    | sq tp xs=>
     cases tp with
     | true=>obtain⟨v,e,r⟩:=kk;rw[e];exact⟨v,rfl,r⟩
     | false=>obtain⟨l,vs,e,r⟩:=kk;rw[e];exact⟨l,vs,rfl,r⟩
    | raw P=>obtain⟨v,e,r⟩:=kk;rw[e];exact⟨v,rfl,r⟩
    | ow lt t=>obtain⟨v,e,r⟩:=kk;rw[e];exact⟨v,rfl,r⟩
  ·obtain⟨p,v,rfl,h,g⟩:=c i s (by omega) e;rw[h];exact⟨v,rfl,g⟩
 ·obtain⟨J,x,z⟩:=k i s l hi B;obtain⟨I,w,y⟩:=k j u l C A;refine S.CH js[i] js[j] s u l (fun e=>FN ?_) x w z y;exact(ZGC nd).mp e
theorem Mv.out (S:Sg E ss σ F H)(np:WM js ss=true)(m:Mv E (E2 js ss++ps.map .is) τ F H F' H'):Mv E ss σ F H F' H':=by
 have nn:∀a,D2 (E2 js ss++ps.map .is) τ a:=fun a i hi _=>by
  by_cases h:i<(E2 js ss).length
  ·rw[Hq h] at hi;have c:i<js.length:=by simpa[E2] using h
   have q:=ZFB (BC c) hi;have z:=List.all_eq_true.mp np js[i] (QC c);cases w:ss[js[i]]? with
   | none=>rw[w] at q;cases q
   | some u=>rw[w] at q z;cases q;cases z
  ·rw[Kk (by omega),BU] at hi;cases w:ps[i - (E2 js ss).length]? with
   | none=>rw[w] at hi;cases hi
   | some p=>rw[w] at hi;cases hi
 have b:∀a o,H a=some o->H' a=some o:=fun a o e=>m.hh a o (nn a) e;exact S.step m.ff m.st.fh (fun a o _ e=>b a o e) m.nn fun i l hi e=>C5.keep (S.EV hi e) fun o e=>b l o e
theorem bu {tt:TT}{k:List PV->Prop}(f:PV->Bool)(g:PV->PV)
  (h:Wi ss wi fun xs=>xs.length<=100000/\(∀x∈xs,Wt (E2 js ss++[.is x]) tt fun b=>b=f x)/\(∀x∈xs,f x=true->Wp (E2 js ss++[.is x]) te fun p=>p=g x)/\k ((xs.filter f).map g))
  (nd:js.Nodup:=by decide) (np:WM js ss=true:=by rfl):Wn ss (N5 wi js tt te) k:=⟨fun E σ F H Q S q=>
 h.go E σ F H _ S fun J xs F1 H1 d C ⟨hz,Z,he,kk⟩ acc B2=>by
  have V:D2 ss σ acc:=d.st.PY B2;have L:=d.st.EO B2;have D:∀(i:Nat) s,ss[i]?=some s->¬ Bc s σ[i]? acc:=fun i s hi=>d.st.RF hi B2;refine⟨fun i m H2=>m=xs.length - i/\i<=xs.length/\∃F2 vs,Mv E ss σ F1 H1 F2 H2/\F2 acc=none/\H2 acc=some (.lst vs)/\AV F2 vs (((xs.take i).filter f).map g),⟨_,rfl,CO _,F1,[],d.st.make B2 _,d.st.CA B2,AO,.nil⟩,?_⟩;rintro i m H2 ⟨rfl,hi,F2,vs,c,R,z,t⟩
  by_cases r:i<xs.length
  ·refine .inr ⟨C.go ss σ F2 H2 i c.ff c.st r,fun x H3 y=>?_⟩;obtain⟨p,F3,I,u,M⟩:=C.Gn ss σ F2 H2 i x H3 c.ff c.st r y;have P:p∈xs:=Dh I;have JK:(xs.take (i+1))=xs.take i++[p]:=by
    have e2:xs[i]=p:=by rw[BC r] at I;exact Bj I
    rw[QK r,e2]
   have U:List.filter f (xs.take (i+1))=(xs.take i).filter f++(if f p=true then[p] else[]):=by
    rw[JK,aq];congr 1
    by_cases j:f p=true <;> simp[j]
   have T:∀{F4:Hp},(∀a o,F4 a=some o->F2 a=some o∨H2 a=none)->F4 acc=none:=fun {F4} n=>by
    cases e:F4 acc with
    | none=>rfl
    | some o=>
     rcases n acc o e with w | w
     ·rw[R] at w;cases w
     ·rw[z] at w;cases w
   have S3:=u.st.Ar (js:=js) nd (.one M);refine(Z p P).go E _ F3 H3 _ S3 fun b F4 H4 G hb=>?_;have l:=u.trans (G.out (ps:=[p]) u.st np);show if b=true then _ else _
   rw[hb]
   by_cases j:f p=true
   ·rw[pQ j];have S4:=l.st.Ar (js:=js) nd (.one (M.mono (G.out (ps:=[p]) u.st np).ff));refine(he p P j).go E _ F4 H4 _ S4 fun w pw F5 H5 X O ew=>?_;have Y:=G.out (ps:=[p]) u.st np;have W:=X.out (ps:=[p]) l.st np;have B:=l.trans W;have K:=B.hh acc _ V z;have N:=T B.nn;have v:vs.length<=99999:=by
     rw[t.length,AQ];have:=Nn f (xs.take i);rw[Cn] at this;omega
    refine⟨vs,K,OF v,xs.length - (i+1),by omega,rfl,r,F5,vs++[w],?_,N,AO,?_⟩
    ·have A:=c.trans B;refine⟨A.st.Zw N (.inl L) D,A.ff,fun a o n e=>?_,A.nn⟩;rw[AX (DN e B2)];exact A.hh a o n e
    ·rw[U,pQ j,EF];rw[ew] at O;exact(t.mono B.ff).append (.one O)
   ·have PQ:f p=false:=by simpa using j
    rw[PQ,o5 (by decide)];refine⟨xs.length - (i+1),by omega,rfl,r,F4,vs,c.trans l,T l.nn,l.hh acc _ V z,?_⟩;rw[U,o5 j,El];exact t.mono l.ff
  ·have e:i=xs.length:=by omega
   subst e;refine .inl ⟨C.stop ss σ F2 H2 c.ff c.st,q acc vs _ F2 H2 (d.trans c) R (d.none B2) z ?_ kk⟩;rw[Kn] at t;exact t⟩
end
abbrev Pre:=List Slot->B3->Prop
def BE (pre:Pre):Sp:=fun vs H Q _=>∃(ss:List Slot) (R:B3) (F:Hp) (A:List Addr),pre ss R/\Sg (E3 A F H) ss (vs.map some) F H/\∀v F' H',Fin (E3 A F H) F' H'->R.ok (E3 A F H) F' H' v->Q v H'
section
variable [Xw]
variable {pre:Pre}{k:PV->Prop}
theorem IS.at {l:List Slot}(h:IS ss σ F H vs l):∀{i:Nat}{s:Slot},l[i]?=some s->∃v,vs[i]?=some v/\Av ss σ F H v s:=by
 induction h with
 | nil=>intro i s e;simp at e
 | cons a _ b=>
  intro i s e;cases i with
  | zero=>simp at e;subst e;exact⟨_,rfl,a⟩
  | succ i=>exact b (by simpa using e)
theorem IS.len {l:List Slot}(h:IS ss σ F H vs l):l.length=vs.length:=by
 induction h with
 | nil=>rfl
 | cons a _ b=>rw[CN,CN,b]
theorem Av.ok (S:Sg E ss σ F H)(a:Av ss σ F H v s)(b:∀l,D2 ss σ l->l∉A):Ok (E3 A F H) F H s (some (some v))/\∀o l,¬ Bc s o l:=by
 cases s with
 | is p=>exact⟨⟨v,rfl,a⟩,fun _ _ z=>z⟩
 | sq tp xs=>
  cases tp with
  | true=>exact⟨⟨v,rfl,a⟩,fun _ _ z=>z⟩
  | false=>obtain⟨l,vs,rfl,n,h,r⟩:=a;exact⟨⟨l,vs,rfl,⟨b l n,BJ⟩,h,r⟩,fun _ _ z=>z⟩
 | raw P=>exact⟨⟨v,rfl,a⟩,fun _ _ z=>z⟩
 | any=>exact a.elim
 | own xs=>exact a.elim
 | AM=>exact a.elim
 | ow lt t=>exact a.elim
theorem Sg.OC (S:Sg E ss σ F H){l:List Slot}(a:IS ss σ F H vs l):Sg (E3 [] F H) l (vs.map some) F H:=by
 have nn:∀{p:Prop}(a:Addr),a∈([]:List Addr)->p:=fun a h=>absurd h BJ;refine⟨⟨S.fh,AB.refl _,fun _ _ _ e=>e,fun _ _ e=>.inl e,fun a h=>nn a h,fun a h=>nn a h,fun a h=>nn a h,fun a h=>nn a h,fun a h=>nn a h,fun a h=>nn a h⟩,by rw[AQ];exact a.len,fun i s hi=>?_,fun i j s u l FN hi f c d=>?_⟩
 ·obtain⟨v,b,q⟩:=a.at hi;rw[BU,b];exact(q.ok S fun _ _ h=>absurd h BJ).1
 ·obtain⟨v,b,q⟩:=a.at hi;exact(q.ok S (A:=[]) fun _ _ h=>absurd h BJ).2 _ _ c
theorem Sg.km (S:Sg E ss σ F H){p:Addr}(hi:ss[i0]?=some .AM)(e:σ[i0]?=some (some (.ref p))){l:List Slot}(a:IS ss σ F H vs l):Sg (E3 [p] F H) (.AM::l) ((V.ref p::vs).map some) F H:=by
 obtain⟨w,g,fp,_,b⟩:=S.ok i0 _ hi;rw[e] at g;cases g;have f:∀l,D2 ss σ l->l∉[p]:=fun l n h=>by
  have:l=p:=by simpa using h
  subst this;exact n i0 hi e
 have one:∀a,a∈[p]->a=p:=fun a h=>by simpa using h
 have nn:∀{p:Prop}(a:Addr),a∈([]:List Addr)->p:=fun a h=>absurd h BJ;refine⟨⟨S.fh,AB.refl _,fun _ _ _ e=>e,fun _ _ e=>.inl e,fun a h=>(one a h)▸b,fun a h=>(one a h)▸fp,fun a h=>?_,fun a h=>nn a h,fun a h=>nn a h,fun a h=>nn a h⟩,by rw[AQ,CN,CN];rw[a.len],fun i s hi=>?_,fun i j s u c FN hi t r k=>?_⟩
 ·rw[one a h];obtain⟨_,_,q,_⟩:=b;show H p≠none;rw[q];simp
 ·cases i with
  | zero=>simp at hi;subst hi;exact⟨p,rfl,fp,.inr (by simp),b⟩
  | succ i=>
   obtain⟨v,d,q⟩:=a.at (i:=i) (s:=s) (by simpa using hi)
   have:((V.ref p::vs).map some)[i+1]?=some (some v):=by rw[Bp,List.getElem?_cons_succ,BU,d];rfl
   rw[this];exact(q.ok S f).1
 ·have z:∀(i:Nat) s o c,(Slot.AM::l)[i]?=some s->Bc s o c->i=0:=fun i s o c h m=>by
   cases i with
   | zero=>rfl
   | succ i=>
    obtain⟨v,d,q⟩:=a.at (i:=i) (s:=s) (by simpa using h)
    exact((q.ok S f).2 _ _ m).elim
  exact absurd ((z i s _ _ hi r).trans (z j u _ _ t k).symm) FN
theorem Sg.back (S:Sg E ss σ F H)(d:∀a,a∈A->∃i:Nat,ss[i]?=some .AM/\σ[i]?=some (some (.ref a)))(f:Fin (E3 A F H) F' H'):Mv E ss σ F H F' H':=by
 refine S.step f.f0 f.fh (fun a o n e=>f.keep a o ⟨fun h=>?_,BJ⟩ e) f.fresh fun i l hi e=>?_
 ·obtain⟨i,c,b⟩:=d a h;exact n i c b
 ·by_cases q:l∈A
  ·exact f.HB l q
  ·exact C5.keep (S.EV hi e) fun o e=>f.keep l o ⟨q,BJ⟩ e
theorem wp_call (h:Wa ss t fun l=>∃k',pre l (.is k')/\∀p,k' p->k p):Wp ss (DK (BE pre) [] E0 t) k:=⟨fun E σ F H Q S q=>
 h.go E σ F H _ S fun vs l F1 H1 b a ⟨k',c,kk⟩=>by
  rw[El];refine⟨l,.is k',F1,[],c,b.st.OC a,fun v F' H' f ⟨p,r,kp⟩=>?_⟩;exact q v p F' H' (b.trans (b.st.back (fun _ h=>absurd h BJ) f)) r (kk p kp)⟩
theorem Q8 {k:List PV->Prop}(h:Wa ss t fun l=>∃k',pre l (.new k')/\∀xs,k' xs->k xs):Wn ss (DK (BE pre) [] E0 t) k:=⟨fun E σ F H Q S q=>
 h.go E σ F H _ S fun vs l F1 H1 b a ⟨k',d,kk⟩=>by
  rw[El];refine⟨l,.new k',F1,[],d,b.st.OC a,fun v F' H' f ⟨l,vs,xs,e,i,g,CP,r,c⟩=>?_⟩;subst e;exact q l vs xs F' H' (b.trans (b.st.back (fun _ h=>absurd h BJ) f)) i (b.none g) CP r (kk xs c)⟩
theorem gw (hi:ss[i]?=some .AM)(h:Wa ss t fun l=>∃k',pre (.AM::l) (.is k')/\∀p,k' p->k p):Wp ss (DK (BE pre) [] E0 (Ag (BD i) t)) k:=⟨fun E σ F H Q S q=>by
 obtain⟨p,e,_⟩:=S.ok i _ hi;refine⟨_,e,h.go E σ F H _ S fun vs l F1 H1 b a ⟨k',c,kk⟩=>?_⟩;show BE pre ((V.ref p::vs)++[]) H1 Q E0;rw[El];refine⟨.AM::l,.is k',F1,[p],c,b.st.km hi e a,fun v F' H' f ⟨pv,r,kp⟩=>?_⟩;exact q v pv F' H' (b.trans (b.st.back (A:=[p]) (fun a h=>⟨i,hi,(show a=p from by simpa using h)▸e⟩) f)) r (kk pv kp)⟩
theorem vH {k:List PV->Prop}(hi:ss[i]?=some .AM)(h:Wa ss t fun l=>∃k',pre (.AM::l) (.new k')/\∀xs,k' xs->k xs):Wn ss (DK (BE pre) [] E0 (Ag (BD i) t)) k:=⟨fun E σ F H Q S q=>by
 obtain⟨p,e,_⟩:=S.ok i _ hi;refine⟨_,e,h.go E σ F H _ S fun vs l F1 H1 b a ⟨k',d,kk⟩=>?_⟩;show BE pre ((V.ref p::vs)++[]) H1 Q E0;rw[El];refine⟨.AM::l,.new k',F1,[p],d,b.st.km hi e a,fun v F' H' f ⟨l,vs,xs,m,j,g,CP,r,c⟩=>?_⟩;subst m;exact q l vs xs F' H' (b.trans (b.st.back (A:=[p]) (fun a h=>⟨i,hi,(show a=p from by simpa using h)▸e⟩) f)) j (b.none g) CP r (kk xs c)⟩
theorem Sg.grown (S:Sg E ss σ F H)(n:Nat):Sg E (ss++List.replicate n .any) (σ++List.replicate n none) F H:=by
 have Ds:∀(i:Nat) s,(ss++List.replicate n .any)[i]?=some s->s≠.any->ss[i]?=some s/\(σ++List.replicate n none)[i]?=σ[i]?:=fun i s e m=>by
  by_cases h:i<ss.length
  ·rw[Hq h] at e;rw[Hq (by rw[<- S.len];exact h)];exact⟨e,rfl⟩
  ·rw[Kk (by omega),mU] at e;split at e
   ·exact absurd (Bj e).symm m
   ·cases e
 refine⟨S.toFin,by simp[S.len],fun i s e=>?_,fun i j s u l FN hi o g f=>?_⟩
 ·cases s with
  | any=>trivial
  | _=>obtain⟨a,b⟩:=Ds i _ e (by simp);rw[b];exact S.ok i _ a
 ·have ns:s≠.any:=by rintro rfl;cases g
  have k:u≠.any:=by rintro rfl;cases f
  obtain⟨a,b⟩:=Ds i s hi ns;obtain⟨c,d⟩:=Ds j u o k;rw[b] at g;rw[d] at f;exact S.CH i j s u l FN a c g f
end
section
variable {pre:Pre}{k:PV->Prop}
def RE (E:Ent0):Ent:=⟨E,fun _ _ _ _ _ _ _ _ _ d=>d.elim⟩
theorem DY {n:Nat}{t:TS}(h:BE pre vs H Q X)(c:∀ss R,pre ss R->ss.length=n)
  (hw:∀ss R,pre ss R->Ws (ss++List.replicate (N.length - n) .any) t (fun _=>∃k,R=.is k/\k .A8) R):t { nx:=fun _ H'=>Q .A8 H',rt:=Q } (L2.start N vs) H:=by
 obtain⟨ss,R,F,A,a,S,q⟩:=h;have e:vs.length=n:=by have:=S.len;rw[AQ] at this;rw[<- this];exact c ss R a
 unfold L2.start;rw[e];refine(hw ss R a).go (RE (E3 A F H)) _ _ F H (S.grown _) (fun AJ σ' F' H' ⟨k,e,b⟩ S' _=>?_) fun v F' H' f ok=>q v F' H' f ok;subst e;exact q .A8 F' H' S'.toFin ⟨.A8,.A8,b⟩
theorem DW {n:Nat}(b:∀ss R,pre ss R->ss.length=n)(h:BE pre vs H Q X):vs.length=n:=by
 obtain⟨ss,R,F,A,a,S,q⟩:=h;have:=S.len;rw[AQ] at this;rw[<- this];exact b ss R a
end
end Fz
namespace Lw
open L2
variable {G7 l ns ss:List Str}{r x:Str}
theorem Oo:∀l:List Nat,¬ l<l
 | [],h=>by simp at h
 | a::r,h=>by
  rw[aj] at h;rcases h with h | ⟨_,h⟩
  ·omega
  ·exact Oo r h
theorem Sb:∀{a b c:List Nat},a<b->b<c->a<c
 | _,[],_,h,_=>by simp at h
 | _,_::_,[],_,h=>by simp at h
 | [],_::_,_::_,_,_=>by simp
 | a::r,b::s,c::t,h,h'=>by
  rw[aj] at h h' ⊢;rcases h with h | ⟨rfl,h⟩
  ·rcases h' with h' | ⟨rfl,h'⟩
   ·left;omega
   ·left;exact h
  ·rcases h' with h' | ⟨rfl,h'⟩
   ·left;exact h'
   ·right;exact⟨rfl,Sb h h'⟩
theorem kF:∀a b:List Nat,a<b∨a=b∨b<a
 | [],[]=>.inr (.inl rfl)
 | [],_::_=>.inl (by simp)
 | _::_,[]=>.inr (.inr (by simp))
 | a::r,b::s=>by
  rw[aj,aj];rcases bC a b with h | rfl | h
  ·exact .inl (.inl h)
  ·rcases kF r s with h | rfl | h
   ·exact .inl (.inr ⟨rfl,h⟩)
   ·exact .inr (.inl rfl)
   ·exact .inr (.inr (.inr ⟨rfl,h⟩))
  ·exact .inr (.inr (.inl h))
abbrev JD (a b:Str):Prop:=a.cps.toList<b.cps.toList
theorem YN (a b:Str):JD a b∨a=b∨JD b a:=by
 rcases kF a.cps.toList b.cps.toList with h | h | h
 ·exact .inl h
 ·exact .inr (.inl (yh h))
 ·exact .inr (.inr h)
abbrev Up (ss:List Str):Prop:=ss.Pairwise JD
theorem gS (h:Up ss):ss.Nodup:=by
 refine List.Pairwise.imp (fun {a b} (Dd:JD a b) (e:a=b)=>?_) h;subst e;exact Oo _ Dd
theorem eV:∀(l:List Str) (p:Str),risingS p l=true->(∀x∈l,¬ JD x p)/\l.Pairwise fun a b=>¬ JD b a
 | [],p,_=>⟨fun x hx=>absurd hx (by simp),.nil⟩
 | y::r,p,h=>by
  have h1:(!ltCps y.cps.toList p.cps.toList && risingS y r)=true:=h;rw[Df,ltCps_eq] at h1;have c:¬ JD y p:=by
   intro z;rw[nv z] at h1;exact absurd h1.1 (by decide)
  obtain⟨h2,d⟩:=eV r y h1.2;refine⟨fun x hx=>?_,List.pairwise_cons.mpr ⟨fun x hx=>h2 x hx,d⟩⟩;rcases List.mem_cons.mp hx with rfl | hx
  ·exact c
  ·intro z;rcases YN y p with q | q | q
   ·exact c q
   ·exact h2 x hx (q▸z)
   ·exact h2 x hx (Sb z q)
theorem yO (h:sortedS l=true):l.Pairwise fun a b=>¬ JD b a:=by
 cases l with
 | nil=>exact .nil
 | cons x r=>
  obtain⟨h1,h2⟩:=eV r x h;exact List.pairwise_cons.mpr ⟨h1,h2⟩
theorem cS (h:sortedS l=true)(nd:l.Nodup):Up l:=by
 have w:=yO h;have q:=List.Pairwise.and w nd;refine q.imp fun {a b} Dd=>?_;rcases YN a b with z | z | z
 ·exact z
 ·exact absurd z Dd.2
 ·exact absurd z Dd.1
theorem XZ:∀{as bs:List Str},Up as->Up bs->(∀x,x∈as↔x∈bs)->as=bs
 | [],[],_,_,_=>rfl
 | [],b::bs,_,_,h=>absurd ((h b).mpr Dg) (by simp)
 | a::as,[],_,_,h=>absurd ((h a).mp Dg) (by simp)
 | a::as,b::bs,ha,hb,h=>by
  obtain⟨d,g⟩:=List.pairwise_cons.mp ha;obtain⟨c,f⟩:=List.pairwise_cons.mp hb;have e:a=b:=by
   rcases List.mem_cons.mp ((h a).mp Dg) with z | z
   ·exact z
   ·rcases List.mem_cons.mp ((h b).mpr Dg) with y | y
    ·exact y.symm
    ·exact absurd (Sb (d b y) (c a z)) (Oo _)
  subst e
  congr 1
  refine XZ g f fun x=>⟨fun hx=>?_,fun hx=>?_⟩
  ·rcases List.mem_cons.mp ((h x).mp (EG _ hx)) with z | z
   ·exact absurd (z▸d x hx) (Oo _)
   ·exact z
  ·rcases List.mem_cons.mp ((h x).mpr (EG _ hx)) with z | z
   ·exact absurd (z▸c x hx) (Oo _)
   ·exact z
theorem JM:∀{as bs:List Str},as.Nodup->(∀x∈as,x∈bs)->as.length<=bs.length
 | [],_,_,_=>CO _
 | a::as,bs,nd,h=>by
  obtain⟨h1,h2⟩:=List.nodup_cons.mp nd;have b:=h a Dg;have q:=JM (bs:=bs.erase a) h2 fun x hx=>(ZGI (fun e:x=a=>h1 (by rw[<- e];exact hx))).mpr (h x (EG _ hx));have e:=ZGD b;have p:=ZGE b;simp only[CN];omega
noncomputable def Le:List Str:=["none","ahead","all"]
theorem eA {j:Int}(c:0<=j)(h1:j<3):∃r,Bs (Le.map V.str) j=some (.str r)/\r∈Le:=by
 obtain⟨x,a,b,_⟩:=P7 (ns:=Le) c h1;exact⟨x,a,b⟩
noncomputable def MY (ss:List Str)(x:Str):Bool:=decide (x∈ss)
noncomputable def Ft (ns:List Str)(g:Nat)(ss:List Str):List Str:=(ns.drop g).filter (MY ss)++(ns.take g).filter (MY ss)
theorem nY (ns:List Str)(g:Nat)(ss:List Str):(ns.drop g++ns.take g).filter (MY ss)=Ft ns g ss:=aq ..
theorem RC {g:Nat}:x∈Ft ns g ss↔x∈ns/\x∈ss:=by
 unfold Ft;rw[Iu,ma,ma];have e:(x∈ns)↔(x∈ns.take g∨x∈ns.drop g):=by
  rw[<- Iu,Km]
 unfold MY;simp only[decide_eq_true_eq];rw[e];constructor
 ·rintro(⟨a,b⟩|⟨a,b⟩)
  ·exact⟨.inr a,b⟩
  ·exact⟨.inl a,b⟩
 ·rintro⟨a | a,b⟩
  ·exact .inr ⟨a,b⟩
  ·exact .inl ⟨a,b⟩
theorem ZEU (ns ss:List Str):((ns.map V.str).filter (fun v=>GD v (ss.map V.str))).map (fun v=>v)=(ns.filter (MY ss)).map V.str:=by
 rw[mZ,mS]
 congr 1
 apply ZGA;intro y _;show GD (.str y) (ss.map V.str)=MY ss y;rw[R3];rfl
def fM (H:Hp)(t:Addr)(r:Str)(g:Int)(ss:List Str):Prop:=∃c,H t=some (.tup [.str r,.int g,.ref c])/\H c=some (.tup (ss.map V.str))
structure Dl (ns:List Str) (r:Str) (g:Int) (ss:List Str):Prop where
 rule:r∈Le
 g0:0<=g
 g1:g<=(ns.length:Int)
 up:Up ss
 sub:∀x∈ss,x∈ns
theorem aJ (x:Str)(h:Up ss):Up (wo ss x):=h.filter _
theorem Dl.step {g:Int}(h:Dl ns r g ss)(hx:x∈ns):Dl ns r ((ns.idxOf x:Nat)+1) (wo ss x):=by
 have b:ns.idxOf x<ns.length:=List.idxOf_lt_length_iff.mpr hx;exact⟨h.rule,by omega,by omega,aJ x h.up,fun y a=>h.sub y (Jq.mp a).1⟩
noncomputable def Qz (ns:List Str)(g:Nat)(ss:List Str):Option Str:=(Ft ns g ss).head?
noncomputable def bN (ns:List Str)(g:Nat)(ss:List Str):Nat:=match Qz ns g ss with
 | none=>g
 | some x=>ns.idxOf x+1
noncomputable def gp (ns:List Str)(g:Nat)(ss:List Str):List Str:=match Qz ns g ss with
 | none=>ss
 | some x=>wo ss x
theorem VT:Bs ((x::G7).map V.str) 0=some (.str x):=OD (by decide) rfl
structure Ent where
 a:Addr
 ns:List Str
 t:Addr
 r:Str
 g:Nat
 ss:List Str
end Lw
namespace L2
section
variable {X:Cx}
def iF (K:ZHP):R2:=fun x y H Q=>∃a b xs ys,x=.ref a/\y=.ref b/\AU K H a xs/\AU K H b ys/\ys≠[]/\xs.length+ys.length<=sizeLine/\∀p H',AB H H'->AU K H' p (xs++ys)->Q (.ref p) H'
theorem dr:BW X (binaryOp .Add) (iF X.K):=by
 intro pins s σ H x y v u Q I i g h;obtain⟨a,b,xs,ys,rfl,rfl,k,d,o,m,q⟩:=h
 by_cases hx:xs=[]
 ·subst hx;cases i;cases g;obtain⟨A3,l,p1,_⟩:=I.tuple k;obtain⟨Bq,t,p2,_⟩:=I.tuple d;obtain⟨⟨cls,dd,data,sl⟩,ho,j,n,hd⟩:=id p1;obtain⟨⟨ZFl,Sy,f,Io⟩,Dt,Ln,n2,c⟩:=id p2;simp only at j hd Ln c;subst j hd Ln c;have e:A3=[]:=l.T7.mpr rfl;exact concat_meets ⟨_,ho,rfl⟩ ⟨_,Dt,rfl⟩ ZAc seq_tuple_add my mr (mq _ _)
   (tuple_addW0 a b A3.toArray Bq.toArray n n2 dd Sy sl Io (by simp[e])) ⟨ho,Dt,⟨.ref b,H,I,rfl,q b H (AB.refl _) d⟩⟩
 ·exact jn pins s σ H _ _ _ _ Q I i g ⟨a,b,xs,ys,rfl,rfl,k,d,hx,m,fun e=>absurd e o,fun _ p r=>q p _ (B7 r _) (AU.of AO)⟩
end
end L2
namespace Lw
open L2
variable {ns rs ss:List Str}{r x:Str}{g i:Nat}{d:Ab}
noncomputable def Gb (i g:Nat):Nat:=if i<g then g+1 else g
noncomputable def Fs (p g:Nat):Nat:=if p<g then g - 1 else g
noncomputable def Ab.gap (ns:List Str)(g:Nat):Ab->Nat
 | .put _ i=>Gb i g
 | .take x=>Fs (ns.idxOf x) g
 | .move x i=>Gb i (Fs (ns.idxOf x) g)
 | .turn _ _=>g
noncomputable def G5:List Str->Str->List Str
 | [],x=>[x]
 | y::r,x=>if JD x y then x::y::r else y::G5 r x
noncomputable def Ef (r:Str)(g i:Nat):Bool:=if decide (V.str r=V.str "all")=true then true else if decide (V.str r=V.str "ahead")=true then decide ((g:Int)<=(i:Int)) else false
noncomputable def Ab.Gd (r:Str)(g:Nat)(ss:List Str):Ab->List Str
 | .put x i=>if Ef r g i=true then G5 ss x else ss
 | .take x=>wo ss x
 | .move _ _=>ss
 | .turn _ _=>ss
theorem Ph {x k:Str}:∀{ss:List Str},k∈G5 ss x↔k=x∨k∈ss
 | []=>by simp[G5]
 | y::r=>by
  unfold G5;split
  ·simp
  ·rw[Hs,Ph (ss:=r),Hs];constructor
   ·rintro(h | h | h)
    ·exact .inr (.inl h)
    ·exact .inl h
    ·exact .inr (.inr h)
   ·rintro(h | h | h)
    ·exact .inr (.inl h)
    ·exact .inl h
    ·exact .inr (.inr h)
theorem Rc {x:Str}:∀{ss:List Str},Up ss->x∉ss->Up (G5 ss x)
 | [],_,_=>List.pairwise_singleton _ _
 | y::r,h,hx=>by
  obtain⟨h1,h2⟩:=List.pairwise_cons.mp h;unfold G5;split
  ·next c=>exact List.pairwise_cons.mpr ⟨fun k a=>(List.mem_cons.mp a).elim (fun e=>by rw[e];exact c) fun a=>Sb c (h1 k a),h⟩
  ·next c=>
   refine List.pairwise_cons.mpr ⟨fun k a=>?_,Rc h2 fun b=>hx (EG _ b)⟩;rcases Ph.mp a with rfl | a
   ·rcases YN k y with z | z | z
    ·exact absurd z c
    ·exact absurd (by rw[z];exact Dg) hx
    ·exact z
   ·exact h1 k a
theorem UA {ts:List Str}(a:ts.Perm (ss++[x]))(b:sortedS ts=true)(h:Up ss)(hx:x∉ss):ts=G5 ss x:=by
 have nd:ts.Nodup:=a.nodup_iff.mpr (Rr (gS h) hx);refine XZ (cS b nd) (Rc h hx) fun k=>?_;rw[a.mem_iff,Ph,Iu,List.mem_singleton];exact or_comm
theorem Dl.len {g:Int}(h:Dl ns r g ss):ss.length<=ns.length:=JM (gS h.up) h.sub
theorem Dl.led (h:Dl ns r g ss)(ok:d.Ok 40 ns)(nd:ns.Nodup):Dl (d.done ns) r (d.gap ns g:Nat) (d.Gd r g ss):=by
 have g1:=h.g1;cases d with
 | put x i=>
  obtain⟨h1,h2,o,n⟩:=ok;refine⟨h.rule,by omega,?_,?_,?_⟩
  ·show((Gb i g:Nat):Int)<=((ins ns x i).length:Int);rw[Qi];unfold Gb;split <;> omega
  ·show Up (if Ef r g i=true then G5 ss x else ss)
   split
   ·exact Rc h.up fun j=>h2 (h.sub x j)
   ·exact h.up
  ·intro k c;show k∈ins ns x i;rw[RT];have f:k∈(if Ef r g i=true then G5 ss x else ss):=c
   split at f
   ·rcases Ph.mp f with z | z
    ·exact .inl z
    ·exact .inr (h.sub k z)
   ·exact .inr (h.sub k f)
 | take x=>
  have hx:x∈ns:=ok;have l:=Ou hx nd;have m:ns.idxOf x<ns.length:=List.idxOf_lt_length_iff.mpr hx;refine⟨h.rule,by omega,?_,aJ x h.up,fun k c=>?_⟩
  ·show((Fs (ns.idxOf x) g:Nat):Int)<=((wo ns x).length:Int);unfold Fs;split <;> omega
  ·obtain⟨a,b⟩:=Jq.mp (show k∈wo ss x from c);exact Jq.mpr ⟨h.sub k a,b⟩
 | move x i=>
  obtain⟨hx,hi⟩:=ok;have l:=Ou hx nd;have m:ns.idxOf x<ns.length:=List.idxOf_lt_length_iff.mpr hx;refine⟨h.rule,by omega,?_,h.up,fun k c=>?_⟩
  ·show((Gb i (Fs (ns.idxOf x) g):Nat):Int)<=((ins (wo ns x) x i).length:Int);rw[Qi];unfold Gb Fs;split <;> split <;> omega
  ·show k∈ins (wo ns x) x i;rw[RT,Jq]
   by_cases e:k=x
   ·exact .inl e
   ·exact .inr ⟨h.sub k c,e⟩
 | turn lo hi=>
  obtain⟨h1,h2⟩:=ok;refine⟨h.rule,by omega,?_,h.up,fun k c=>(cu h1).mpr (h.sub k c)⟩;show((g:Nat):Int)<=((Fm ns lo hi).length:Int);rw[cT h1 h2];exact g1
def bV:Sp:=fun vs H Q _=>∃(a t:Addr) (ns:List Str) (g:Nat) (d:Ab),vs=[.ref a,.int g,.ref t]/\H a=some (.lst (ns.map V.str))/\H t=some (.tup d.vals)/\d.Ok 40 ns/\∀H',AB H H'->Q (.int (d.gap ns g:Nat)) H'
theorem UW {g:Int}(h:Dl ns r g ss)(ok:d.Ok 40 ns):∀x i,d=.put x i->x∉ss:=by
 rintro x i rfl a;exact ok.2.1 (h.sub x a)
theorem ZFX (p g:Nat):((g:Int) - (if decide ((p:Int)<(g:Int))=true then 1 else 0))=((Fs p g:Nat):Int):=by
 unfold Fs
 by_cases h:p<g
 ·rw[pQ h,pQ (nv (by omega))];omega
 ·rw[o5 h,o5 (by simp;omega)];omega
theorem ZEK (i g:Nat):((g:Int)+(if decide ((i:Int)<(g:Int))=true then 1 else 0))=((Gb i g:Nat):Int):=by
 unfold Gb
 by_cases h:i<g
 ·rw[pQ h,pQ (nv (by omega))];omega
 ·rw[o5 h,o5 (by simp;omega)];omega
noncomputable def Ab.kind:Ab->Str
 | .put _ _ => "put"
 | .take _ => "take"
 | .move _ _ => "move"
 | .turn _ _ => "turn"
theorem Ru (d:Ab):Bs d.vals 0=some (.str d.kind):=by cases d <;> rfl
noncomputable def Ab.Ot (ns:List Str)(g:Nat):Ab->Nat
 | .take x=>Fs (ns.idxOf x) g
 | .move x _=>Fs (ns.idxOf x) g
 | _=>g
theorem ZD8 (g:Nat)(ok:d.Ok 40 ns)(h:GD (.str d.kind) [.str "take", .str "move"]=true):∃x,Bs d.vals 1=some (.str x)/\x∈ns/\d.Ot ns g=Fs (ns.idxOf x) g:=by
 cases d with
 | put x i=>(simp only[Ab.kind] at h;exact absurd h (by decide +kernel))
 | take x=>exact⟨x,rfl,ok,rfl⟩
 | move x i=>exact⟨x,rfl,ok.1,rfl⟩
 | turn lo hi=>(simp only[Ab.kind] at h;exact absurd h (by decide +kernel))
theorem ZAu (g:Nat)(h:¬ GD (.str d.kind) [.str "take", .str "move"]=true):d.Ot ns g=g:=by
 cases d with
 | put x i=>rfl
 | take x=>exact absurd (by simp only[Ab.kind];decide +kernel) h
 | move x i=>exact absurd (by simp only[Ab.kind];decide +kernel) h
 | turn lo hi=>rfl
theorem sG (g:Nat)(h:GD (.str d.kind) [.str "put", .str "move"]=true):∃i:Nat,Bs d.vals 2=some (.int i)/\d.gap ns g=Gb i (d.Ot ns g):=by
 cases d with
 | put x i=>exact⟨i,rfl,rfl⟩
 | take x=>(simp only[Ab.kind] at h;exact absurd h (by decide +kernel))
 | move x i=>exact⟨i,rfl,rfl⟩
 | turn lo hi=>(simp only[Ab.kind] at h;exact absurd h (by decide +kernel))
theorem ZBE (g:Nat)(h:¬ GD (.str d.kind) [.str "put", .str "move"]=true):d.gap ns g=d.Ot ns g:=by
 cases d with
 | put x i=>exact absurd (by simp only[Ab.kind];decide +kernel) h
 | take x=>rfl
 | move x i=>exact absurd (by simp only[Ab.kind];decide +kernel) h
 | turn lo hi=>rfl
noncomputable def Ab.RX (ss:List Str):Ab->List Str
 | .take x=>wo ss x
 | _=>ss
theorem tK {r:Str}{g:Nat}(h:decide (V.str d.kind=V.str "take")=true):∃x,Bs d.vals 1=some (.str x)/\d.RX ss=wo ss x:=by
 cases d with
 | take x=>exact⟨x,rfl,rfl⟩
 | _=>
  have h':=om h;injection h' with h2
  exact absurd h2 (by simp only[Ab.kind];decide +kernel)
theorem ZDa (h:¬ decide (V.str d.kind=V.str "take")=true):d.RX ss=ss:=by
 cases d with
 | take x=>exact absurd (by simp only[Ab.kind];decide +kernel) h
 | _=>rfl
theorem zp (h:decide (V.str d.kind=V.str "put")=true):∃x i,d=.put x i:=by
 cases d with
 | put x i=>exact⟨x,i,rfl⟩
 | _=>
  have h':=om h;injection h' with h2
  exact absurd h2 (by simp only[Ab.kind];decide +kernel)
theorem wG (h:¬ decide (V.str d.kind=V.str "put")=true):d.Gd r g ss=d.RX ss:=by
 cases d with
 | put x i=>exact absurd (by simp only[Ab.kind];decide +kernel) h
 | _=>rfl
theorem W6 (h:Ef r g i=true):Ab.Gd r g ss (.put x i)=G5 ss x:=by show(if _ then _ else _)=_;rw[pQ h]
theorem UR (h:Ef r g i=false):Ab.Gd r g ss (.put x i)=ss:=by show(if _ then _ else _)=_;rw[o5 (by rw[h];decide)]
theorem MK (nd:rs.Nodup)(h:rs[g]?=some x):rs.idxOf x=g:=by
 obtain⟨d,e⟩:=List.getElem?_eq_some_iff.mp h;have hx:x∈rs:=Dh h;have a:rs.idxOf x<rs.length:=List.idxOf_lt_length_iff.mpr hx;have f:rs[rs.idxOf x]=x:=av a;have b:=List.pairwise_iff_getElem.mp nd;rcases bC (rs.idxOf x) g with c | c | c
 ·exact absurd (f.trans e.symm) (b _ _ a d c)
 ·exact c
 ·exact absurd (e.trans f.symm) (b _ _ d a c)
end Lw
namespace L2
section
variable {X:Cx}{pins:ZHQ}{σ:St}{H2:Hp}{s2:Shared}{elt iter:Expr}{x z:Str}{px pz tp pos:Pos}{tk:Nat}{scope:Scope}{Ar:List Str}{js:List Nat}{te:TE}{J:It}{fp:List Addr}{it:Addr}
 {tn:Nat->Heap->Prop}
end
end L2
namespace Fz
open L2 Lw
variable {E:Ent0}{ss:List Slot}{σ:L2.St}{F F' H H':Hp}{js:List Nat}{ta tb te:TE}{nx:List Slot->Prop}{R:B3}{i:Nat}{ns:List Int}{wi:TI}{α:Type}
section
variable [Xw]
variable {K:ZHP}{k:PV->Prop}
theorem Sg.QV (S:Sg E ss σ F H){p:Addr}(hi:ss[i]?=some .AM)(e:σ[i]?=some (some (.ref p)))(s:BZ p H H'):Mv E ss σ F H F H':=by
 obtain⟨g,b,fp,_,f⟩:=S.ok i _ hi;rw[e] at b;cases b;refine S.step (AB.refl _) (fun a o q=>s.same a o (DN q fp) (S.fh a o q)) (fun a o n q=>s.same a o (fun z=>?_) q) (fun a o q=>.inl q) fun j l c d=>?_
 ·rw[z] at n;exact n i hi e
 ·by_cases z:l=p
  ·rw[z];exact s.AM
  ·exact C5.keep (S.EV c d) fun o q=>s.same l o z q
theorem w8 (hi:ss[i]?=some .AM)(h:Wp ss te fun x=>∃m,x=.int m/\0<m/\m<10 ^ 18/\∀r:Int,0<=r->r<m->k (.int r)):Wp ss (DK IC [] E0 (Ag (BD i) (Ag te BM))) k:=⟨fun E σ F H Q S q=>by
 obtain⟨p,e,_⟩:=S.ok i _ hi;refine⟨_,e,h.go E σ F H _ S fun v x F1 H1 a r ⟨m,f,d,Ny,kk⟩=>?_⟩;subst f;cases r.inv;exact⟨p,m,rfl,a.st.EV hi e,d,Ny,fun r H2 c b s=>q _ _ F1 H2 (a.trans (a.st.QV hi e s)) (.int r) (kk r c b)⟩⟩
theorem ZBC {sp:Sp}{k:List PV->Prop}(Et:sp=YR)(hi:ss[i]?=some .AM)(h:Wp ss te fun x=>∃m,x=.int m/\1<=m/\m<=100/\∀ns:List Str,(ns.length:Int)<=m->(∀x∈ns,Nm x)->ns.Nodup->k (ns.map PV.str)):Wn ss (DK sp [] E0 (Ag (BD i) (Ag te BM))) k:=⟨fun E σ F H Q S q=>by
 subst Et;obtain⟨p,e,_⟩:=S.ok i _ hi;refine⟨_,e,h.go E σ F H _ S fun v x F1 H1 a r ⟨m,j,d,Ny,kk⟩=>?_⟩;subst j;cases r.inv;refine⟨p,m,rfl,a.st.EV hi e,d,Ny,fun l H2 ns b s FK f g nd=>?_⟩;have c:=a.st.QV hi e s;exact q l _ _ F1 H2 (a.trans c) (a.st.CA b) (a.none b) FK (MU ns) (kk ns f g nd)⟩
def Eb (K:ZHP)(ns:List Int):Hp->V->Prop:=fun F v=>∃a,v=.ref a/\AN K F a (ns.map V.int)
theorem Z6 (K:ZHP)(ns:List Int):∀(v:V) (F F':Hp),AB F F'->Eb K ns F v->Eb K ns F' v:=fun v F F' s AK=>by obtain⟨a,e,h⟩:=AK;exact⟨a,e,by
 rcases h with(h | ⟨o,h⟩) | h
 ·exact .inl (.inl (s _ _ h))
 ·exact .inl (.inr ⟨o,s _ _ h⟩)
 ·exact .inr h⟩
theorem ZFm (hi:ss[i]?=some (.raw (Eb K ns)))(h:k (.int ns.length)):Wp ss (Dm (YF K) (Ag (BD i) BM)) k:=⟨fun E σ F H Q S q=>by
 obtain⟨v,e,⟨a,c,b⟩,st⟩:=S.ok i _ hi;subst c;obtain⟨d,ea,Ja⟩:=Z6 K ns _ F H S.fh ⟨a,rfl,b⟩;cases ea;refine⟨_,e,a,_,rfl,.inl Ja,?_⟩;rw[AQ];exact q _ _ F H (.refl S) (.int _) h⟩
theorem ZBx {j:Nat}(hi:ss[i]?=some (.raw (Eb K ns)))(h:Wp ss te fun x=>∃m,x=.int m/\0<=m/\m<=1000/\nx (ss.set j .AM)):Ws ss (Ea (DK (T1 K) [] E0 (Ag (BD i) (Ag te BM))) (Cg j)) nx R:=⟨fun E D σ F H S hn A=>by
 obtain⟨v,e,⟨a,w,B⟩,st⟩:=S.ok i _ hi;subst w;refine⟨_,e,h.go E σ F H _ S fun v x F1 H1 c r ⟨m,y,q,Ny,kk⟩=>?_⟩;subst y;cases r.inv;obtain⟨z,f,g,_⟩:=c.st.ok i _ hi;rw[e] at f;cases f;obtain⟨C,ea,Ja⟩:=Z6 K ns _ F1 H1 c.st.fh g;cases ea;refine⟨a,ns,m,rfl,Ja,q,Ny,fun p H2 d s k=>?_⟩;have o:=c.st.grow s;exact hn _ _ F1 H2 kk (o.st.setG ⟨p,rfl,c.st.CA d,.inl (c.st.EO d),k⟩ fun l e b u _ t n=>by cases e;exact c.st.RF t d n) c.ff⟩
end
section
variable {K:ZHP}
theorem ZE8 {N:List Str}{vs:List V}{Q:VK}{X:XK}{t:TS}(h:Pu K vs H Q X)(hw:∀ns:List Int,ns.length<=63->Ws (.raw (Eb K ns)::List.replicate (N.length - 1) .any) t (fun _=>False) (.is fun p=>p=.bl true)):t { nx:=fun _ H'=>Q .A8 H',rt:=Q } (L2.start N vs) H:=by
 obtain⟨a,ns,rfl,c,SN,q⟩:=h;have S:Sg (E3 [] H H) [.raw (Eb K ns)] [some (.ref a)] H H:=by
  have nn:∀{p:Prop}(a:Addr),a∈([]:List Addr)->p:=fun a h=>absurd h BJ;refine⟨⟨AB.refl _,AB.refl _,fun _ _ _ e=>e,fun _ _ e=>.inl e,fun a h=>nn a h,fun a h=>nn a h,fun a h=>nn a h,fun a h=>nn a h,fun a h=>nn a h,fun a h=>nn a h⟩,rfl,fun i s hi=>?_,fun i j s u l FN hi d b=>?_⟩
  ·cases i with
   | zero=>cases hi;exact⟨_,rfl,⟨a,rfl,c⟩,Z6 K ns _⟩
   | succ i=>simp at hi
  ·cases i with
   | zero=>cases hi;cases b
   | succ i=>simp at hi
 refine(hw ns SN).go (RE (E3 [] H H)) _ _ H H (S.grown _) (fun _ _ _ _ h=>h.elim) fun v F' H' f ok=>?_;obtain⟨p,r,rfl⟩:=ok;cases r.inv;exact q H'
end
section
variable [Xw]
variable {K:ZHP}{k:PV->Prop}
theorem Wi.mono {k k':List PV->Prop}(h:Wi ss wi k)(i:∀xs,k xs->k' xs):Wi ss wi k':=⟨fun E σ F H R S q=>h.go E σ F H R S fun J xs F' H' m s kk=>q J xs F' H' m s (i xs kk)⟩
theorem WG {tt:TT}{k:List PV->Prop}(c:α->PV)(f:α->Bool)(g:α->PV)
  (h:Wi ss wi fun xs=>∃ns:List α,xs=ns.map c/\ns.length<=100000/\(∀x∈ns,Wt (E2 js ss++[.is (c x)]) tt fun b=>b=f x)/\(∀x∈ns,f x=true->Wp (E2 js ss++[.is (c x)]) te fun p=>p=g x)/\k ((ns.filter f).map g))
  (inj:∀x y,c x=c y->x=y) (nd:js.Nodup:=by decide) (np:WM js ss=true:=by rfl):Wn ss (N5 wi js tt te) k:=by
 by_cases hα:Nonempty α
 ·obtain⟨l⟩:=hα;have inv:∀p:PV,∃x:α,∀y,c y=p->y=x:=fun p=>by
   by_cases q:∃y,c y=p
   ·obtain⟨y,a⟩:=q;exact⟨y,fun z i=>inj _ _ (i.trans a.symm)⟩
   ·exact⟨l,fun y a=>absurd ⟨y,a⟩ q⟩
  let d:PV->α:=fun p=>Classical.choose (inv p)
  have hd:∀x,d (c x)=x:=fun x=>(Classical.choose_spec (inv (c x)) x rfl).symm;refine bu (fun p=>f (d p)) (fun p=>g (d p)) (h.mono fun xs ⟨ns,e,i,h1,h2,kk⟩=>?_) nd np;subst e;refine⟨by rw[AQ];exact i,fun x hx=>?_,fun x hx j=>?_,?_⟩
  ·obtain⟨y,a,rfl⟩:=List.mem_map.mp hx;rw[hd];exact h1 y a
  ·obtain⟨y,a,rfl⟩:=List.mem_map.mp hx;rw[hd] at j ⊢;exact h2 y a j
  ·have e:((ns.map c).filter fun p=>f (d p)).map (fun p=>g (d p))=(ns.filter f).map g:=by
    rw[mS,QF]
    congr 1
    ·funext x;show g (d (c x))=g x;rw[hd]
    ·congr 1;funext x;show f (d (c x))=f x;rw[hd]
   rw[e];exact kk
 ·refine bu (fun _=>true) (fun p=>p) (h.mono fun xs ⟨ns,e,i,h1,h2,kk⟩=>?_) nd np;have m:ns=[]:=by
   cases ns with
   | nil=>rfl
   | cons x r=>exact absurd ⟨x⟩ hα
  subst m;subst e;exact⟨by simp,fun x hx=>absurd hx (by simp),fun x hx=>absurd hx (by simp),kk⟩
theorem str_inj:∀x y:Str,PV.str x=PV.str y->x=y:=fun _ _ e=>by injection e
theorem rl (h:Wp ss ta fun p=>∃x,p=.str x/\Wq ss tb fun _ ys=>∃ns:List Str,ys=ns.map PV.str/\k (.bl (decide (x∈ns)))):Wp ss (CD (Ko K false) ta tb) k:=gN h
theorem VN (h:Wp ss ta fun p=>∃x,p=.str x/\Wq ss tb fun _ ys=>∃ns:List Str,ys=ns.map PV.str/\k (.bl (!decide (x∈ns)))):Wp ss (CD (Ko K true) ta tb) k:=gN h
theorem ZBs (h:Wq ss ta fun tp xs=>∃ns:List Str,xs=ns.map PV.str/\Wq ss tb fun CZ ys=>CZ=tp/\∃a:List Str,ys=a.map PV.str/\k (.bl (decide (ns=a)))):Wp ss (CD (OE K false) ta tb) k:=kA h
theorem fJ (h:Wq ss ta fun tp xs=>∃ns:List Str,xs=ns.map PV.str/\Wq ss tb fun CZ ys=>CZ=tp/\∃a:List Str,ys=a.map PV.str/\k (.bl (!decide (ns=a)))):Wp ss (CD (OE K true) ta tb) k:=kA h
theorem Wq.mono {k k':Bool->List PV->Prop}(h:Wq ss te k)(i:∀b xs,k b xs->k' b xs):Wq ss te k':=⟨fun E σ F H Q S q=>h.go E σ F H Q S fun v tp xs F' H' m s kk=>q v tp xs F' H' m s (i tp xs kk)⟩
theorem Wo.mono {t:TO}{k k':Option Int->Prop}(h:Wo ss t k)(i:∀o,k o->k' o):Wo ss t k':=⟨fun E σ F H Q S q=>h.go E σ F H Q S fun o F' H' m kk=>q o F' H' m (i o kk)⟩
theorem bW {tl th:TO}{k:Bool->List PV->Prop}(h:Wq ss te fun tp xs=>Wo ss tl fun lo=>Wo ss th fun hi=>k tp (Du xs lo hi)):Wz ss (Pn (TV K) te tl th) k:=
 MM (TZ (h.mono fun tp xs h=>h.mono fun lo h=>h.mono fun hi h=>by
  cases tp
  ·exact⟨_,.inl ⟨rfl,h⟩⟩
  ·exact⟨_,.inr ⟨rfl,h⟩⟩))
theorem ZDy {tl th:TO}{k:Bool->List PV->Prop}(h:Wq ss te fun tp xs=>Wo ss tl fun lo=>Wo ss th fun hi=>k tp (Du xs lo hi)):Wq ss (Pn (TV K) te tl th) k:=kM (bW h)
theorem dY (xs:List α)(g:Nat):Du xs none (some (g:Int))=xs.take g:=by
 unfold Du;rw[HT.Ji,HT.R1,ak,bD];rcases QL g xs.length with h | h
 ·rw[Jd h]
 ·rw[QM h,Kn,QJ h]
theorem gi (xs:List α)(g:Nat):Du xs (some (g:Int)) none=xs.drop g:=by
 unfold Du;rw[HT.Ji,HT.R1];rcases QL g xs.length with h | h
 ·rw[Jd h,QJ (by rw[Em];omega)]
 ·rw[QM h,ZG6,ZG7 h];simp
theorem bZ (xs:List α)(lo hi:Option Int):(Du xs lo hi).length<=xs.length:=by
 unfold Du;rw[Cn,Em];omega
end
end Fz
namespace HT
open AutoSeq1 (wpAny_loadPart')
variable {prog:Program}{w:World}{A:Around}{E Q:Value->Shared->Prop}{it tu:Addr}{i:Nat}{old v:Value}
theorem zu (tu:Addr)(vals:Array Value)(k:Nat)(e:Option Addr)(ZK:Array (Option Value)):
  Meets (Builtin.«enumerate.__new__» ⟨[.type "enumerate", .ref tu],[]⟩) (fun _ R s=>s.heap.get? tu=some { cls:=.type "tuple", dict:=e,data:=.seq vals k,slots:=ZK }/\R (.ok (.ret (.ref (s.heap.push { cls:=.type "tuple_iterator", data:=.fields #[.ref tu,.int 0 0] }).objs.size)))
    { s with heap:=(s.heap.push { cls:=.type "tuple_iterator", data:=.fields #[.ref tu,.int 0 0] }).push { cls:=.type "enumerate", data:=.fields #[.none,.bool false,.ref s.heap.objs.size,rawInt 0,.none,.none] } }):=.of_wp fun prog w A R s h=>by
 obtain⟨b,g,d,tk,os⟩:=s;obtain⟨ho,h⟩:=h;have f:=sub_enumerate;have a:Heap.IsTuple (Shared.heap ⟨b,g,d,tk,os⟩) tu vals:=⟨_,ho,rfl,k,rfl⟩
 wp_walk using wpAny_loadPart' ho
 refine wpAny_stack_any fun i=>oR ?_;split
 ·rename_i c _ _ _ _ _;cases(c == Value.type "enumerate") <;> (wp_walk using wpAny_loadPart' ho,ZAW a;exact⟨_,rfl,h⟩)
 ·wp_walk using wpAny_loadPart' ho,ZAW a
  exact⟨_,rfl,h⟩
section
variable {s:Shared}
theorem rb {vals:Array Value}(e:s.heap.IsTuple tu vals)
  (q:∀h',IsEnum h' (s.heap.objs.size+1) s.heap.objs.size 0 .none->h'.IsTupleIter s.heap.objs.size tu 0->h'.objs.size=s.heap.objs.size+2->(∀b o,s.heap.get? b=some o->h'.get? b=some o)->Q (.ref (s.heap.objs.size+1)) { s with heap:=h' }) :
  wpAny (model prog w) A (call (.type "enumerate") [.ref tu]) Q E s:=by
 obtain⟨⟨c,g,f,ZK⟩,ho,a,k,hd⟩:=e;replace a:c=.type "tuple" := a;replace hd:f=.seq vals k:=hd;subst a hd;refine callType_new F.called_enumerate (by decide) (F.typeCall_enumerate_1 _) (F.newCall_enumerate_1 _) (fun ob=>F.args_object_init_2 ob _) F.entry_enumerate_new (zu tu vals k g ZK) ⟨ho,?_⟩;have z:(s.heap.push { cls:=.type "tuple_iterator", data:=.fields #[.ref tu,.int 0 0] }).objs.size=s.heap.objs.size+1:=G2 ..;show _/\_;rw[z];have d:IsEnum ((s.heap.push { cls:=.type "tuple_iterator", data:=.fields #[.ref tu,.int 0 0] }).push { cls:=.type "enumerate", data:=.fields #[.none,.bool false,.ref s.heap.objs.size,rawInt 0,.none,.none] }) (s.heap.objs.size+1) s.heap.objs.size 0 .none:=by
  have y:=Bl (s.heap.push { cls:=.type "tuple_iterator", data:=.fields #[.ref tu,.int 0 0] }) (o:={ cls:=.type "enumerate", data:=.fields #[.none,.bool false,.ref s.heap.objs.size,rawInt 0,.none,.none] }) rfl;rw[z] at y;exact y
 exact⟨⟨_,d,rfl⟩,q _ d ⟨_,BN _ (Bl _ rfl),rfl,rfl⟩ (by rw[G2,z]) fun b o y=>BN _ (BN _ y)⟩
theorem xh {vals:Array Value}(hi:s.heap.IsTupleIter it tu i)(c:s.heap.IsTuple tu vals)(b:vals[i]?=some v)
  (q:∀h',h'.IsTupleIter it tu (i+1)->Heap.SameBut it s.heap h'->Q v { s with heap:=h' }):wpAny (model prog w) A (Builtin.SmallTypes.nextOf (.ref it)) Q E s:=by
 obtain⟨o,ho,d,hd⟩:=id hi;obtain⟨e,Dt,_,k,a⟩:=c;unfold Builtin.SmallTypes.nextOf;refine nc (rL (name:=Str.ofString "__next__") hi.typeIs af (tq af hi.typeIs ZFz ?_ (ZFy _)));show wpAny _ _ (field (.ref it) 0 >>= _) _ _ s;refine nc (r6 ho hd (x:=.ref tu) rfl ?_);show wpAny _ _ (if(Value.ref tu == Value.none)=true then _ else _) _ _ s;rw[o5 (show ¬ ((Value.ref tu == Value.none)=true) from D7)]
 show wpAny _ _ (field (.ref it) 1 >>= _) _ _ s;refine nc (r6 ho hd (x:=.int i 0) rfl ?_);show wpAny _ _ (seqItems? (.ref tu) >>= _) _ _ s;refine nc (yg Dt a ?_);simp only[Ki,b];refine nc (vQ ho hd (by simp) (oR ⟨v,rfl,oR (q _ ?_ (ag ..))⟩));exact⟨_,ED _ ho (Nt (Hv hd _)),(mm ..).trans d,by rw[Hv hd];simp[rawInt]⟩
theorem cZ {vals:Array Value}(hh:A.handled=none)(hi:s.heap.IsTupleIter it tu i)(d:s.heap.IsTuple tu vals)(c:vals[i]?=none)
  (q:∀h' e,Heap.ExtBut it s.heap h'->(∃o,h'.get? e=some o/\o.cls=.type "StopIteration")->E (.ref e) { s with heap:=h' }):wpAny (model prog w) A (Builtin.SmallTypes.nextOf (.ref it)) Q E s:=by
 obtain⟨o,ho,g,hd⟩:=id hi;obtain⟨f,Dt,_,k,b⟩:=d;unfold Builtin.SmallTypes.nextOf;refine nc (rL (name:=Str.ofString "__next__") hi.typeIs af (tq af hi.typeIs ZFz ?_ (ZFy _)));show wpAny _ _ (field (.ref it) 0 >>= _) _ _ s;refine nc (r6 ho hd (x:=.ref tu) rfl ?_);show wpAny _ _ (if(Value.ref tu == Value.none)=true then _ else _) _ _ s;rw[o5 (show ¬ ((Value.ref tu == Value.none)=true) from D7)]
 show wpAny _ _ (field (.ref it) 1 >>= _) _ _ s;refine nc (r6 ho hd (x:=.int i 0) rfl ?_);show wpAny _ _ (seqItems? (.ref tu) >>= _) _ _ s;refine nc (yg Dt b ?_);simp only[Ki,c];refine nc (zd (nc (vQ ho hd (by simp) ?_)));show wpAny _ _ (newExc (.type "StopIteration") [] >>= _) _ _ _;refine nc ?_;simp only[newExc,newTuple];refine nc (qz ?_ (by size_fits));refine nc (m:=firstArgMember _ _) (wQ (a:=Value.none) (by first | rfl | (simp only[firstArgMember];rfl)) ?_);refine qz ?_ (by size_fits)
 simp only[raiseNew];refine nc (wpAny_handled ?_);first | rw[show A.in1.handled=none from hh] | rw[hh]
 refine nc (oR (wpAny_throw ?_));exact q _ _ (((ag ..).extBut.push _).push _) ⟨_,Bl _ rfl,rfl⟩
theorem xV {e:Addr}{vals:Array Value}{j:Int}{Q:Option Value->Shared->Prop}(hh:A.handled=none)(a:IsEnum s.heap e it j old)(hi:s.heap.IsTupleIter it tu i)(d:s.heap.IsTuple tu vals)(c:vals[i]?=none)
  (q:∀h',Heap.ExtBut it s.heap h'->Q none { s with heap:=h' }):wpAny (model prog w) A (pyNext (.ref e)) Q E s:=by
 have ty:s.TypeIs (.ref e) "enumerate" := ⟨_,a,rfl⟩;unfold pyNext;refine nc (xf (rL (name:=Str.ofString "__next__") ty F.slot_enumerate_next (tq F.slot_enumerate_next ty F.entry_enumerate_next ?_ (F.args_enumerate_next_1 _))));show wpAny _ _ (field (.ref e) 2 >>= _) _ _ _;refine nc (r6 a rfl (x:=.ref it) rfl ?_);refine nc (cZ (show A.in1.handled=none from hh) hi d c fun h' x g hx=>?_)
 obtain⟨o,ho,f⟩:=hx;exact nc (vw (T:="StopIteration") (b:=true) ⟨o,ho,f⟩ isSubtype_stop (oR (q _ g)))
end
theorem ZBO (hh:A.handled=none)(it tu:Addr)(Ap:tu≠it)(vals:Array Value):
  Draws prog w A it [it,tu] vals.size (fun i v=>vals[i]?=some v) (fun i h=>h.IsTupleIter it tu i/\h.IsTuple tu vals) where
 live:=fun _ _ st=>by obtain⟨o,ho,_⟩:=st.1;exact⟨o,ho⟩
 frame:=fun _ _ _ st d=>by
  obtain⟨⟨o,ho,r⟩,c,Dt,e⟩:=st;exact⟨⟨o,d it (by simp) o ho,r⟩,c,d tu (by simp) c Dt,e⟩
 item:=fun i s Q E hi st f=>xh st.1 st.2 (v:=vals[i]) (by simp[hi]) fun h' a b=>f _ h' s.toks (by simp[hi]) ⟨a,st.2.extBut b.extBut Ap⟩ b
 done:=fun s Q E st g=>cZ hh st.1 st.2 (by simp) g
end HT
namespace L2
variable {es:List Expr}{k1:Nat}
section
variable {X:Cx}
noncomputable def eW (K:ZHP)(tp:Bool)(a:Addr)(xs:List V):It:=
 ⟨fun i H=>EC K tp H a xs/\i<xs.length,fun i H x H'=>∃p y,xs[i]?=some y/\x=.ref p/\H p=none/\H'=upd H p (.tup [.int i,y]),fun i H=>EC K tp H a xs/\xs.length<=i⟩
theorem ZCv {P:Program}{w:World}{K:ZHP}{p1:Pos}(a e it:Addr)(xs:List V)(NN:e≠it):
  Turn P w K (.Tuple es k1 p1) (eW K true a xs) [e,it] e (fun i h=>(∃old,IsEnum h e it i old)/\h.IsTupleIter it a i) where
 mem:=by simp
 obj:=fun i h st b f=>by
  obtain⟨⟨old,h1⟩,o,h2,_,d⟩:=st;rcases List.mem_cons.mp f with z | z
  ·subst z;exact⟨_,h1,fun v z=>by cases z⟩
  ·have y:b=it:=by simpa using z
   subst y;exact⟨o,h2,fun v z=>by rw[d] at z;cases z⟩
 keep:=fun i h h' st k=>⟨let ⟨old,h1⟩:=st.1;⟨old,k e (by simp) _ h1⟩,let ⟨o,h2,r⟩:=st.2;⟨o,k it (by simp) o h2,r⟩⟩
 item:=by
  intro X F hw G D i pins s σ H E I x st C;subst F hw G;obtain⟨B,hi⟩:=C;obtain⟨⟨old,g⟩,c⟩:=st;obtain⟨A3,m,j,S⟩:=I.tuple B;obtain⟨u,T,N⟩:=m.get (BC hi);have Jy:A3.toArray[i]?=some u:=by simpa using T
  have U:a<s.heap.objs.size:=j.lt;have W:a≠it:=by
   rintro rfl;obtain⟨o,t,Q,_⟩:=c;obtain⟨R,l,p,_⟩:=j;rw[t] at l;cases l;rw[Q] at p;exact absurd p (by decide)
  have JB:e≠a:=by
   rintro rfl;obtain⟨R,l,p,_⟩:=j;have t:=g;unfold IsEnum at t;rw[t] at l;cases l;exact absurd (show Value.type "enumerate"=Value.type "tuple" from p) (by decide)
  have L:e<s.heap.objs.size:=B8 g;refine wpAny_pyNext_enum_itemD (n:=A3.toArray.size) (HT.ZBO (show X.A.in1.handled=none from I.ok.hd D) it a W A3.toArray) g ⟨c,j⟩ (by rw[Bu,<- m.length];exact hi) NN (by simp[NN,JB]) fun v h1 ZU pv IH O OP lO VM=>⟨_,rfl,?_⟩;have Y:v=u:=by rw[Jy] at pv;exact(Bj pv).symm
  subst Y;refine ZAa IH fun h2 KA CK=>?_;have J:h2.get? s.heap.objs.size=some { cls:=.type "tuple", data:=.seq #[.int i ZU,v] }:=(CK.2 _ (Hu L)).trans OP;have kp:∀b o,b∉[e,it]->s.heap.get? b=some o->h2.get? b=some o:=fun b o f q=>by
   have y:b≠e/\b≠it:=by simpa using f
   exact(CK.2 b y.1).trans (VM b o y.1 y.2 q)
  refine⟨.ref s.heap.objs.size,_,I.jt (t':=ZU+1) (a:=s.heap.objs.size) (o:=.tup [.int i,xs[i]]) x kp (Ax _) ?_,rfl,⟨_,_,BC hi,rfl,I.AF.fresh (Ax _),rfl⟩,⟨⟨_,KA⟩,?_⟩,fun b f=>?_⟩
  ·exact⟨(by show 2<=sizeLine;decide),[.int i ZU,v],.cons ⟨_,rfl⟩ (.cons N .nil),⟨_,J,rfl,_,rfl⟩,fun ob q=>by rw[J] at q;cases q;rfl⟩
  ·obtain⟨o,q,r⟩:=O.1;exact⟨o,(CK.2 it (B9 NN)).trans q,r⟩
  ·have y:b<s.heap.objs.size:=by
    rcases List.mem_cons.mp f with z | z
    ·rw[z];exact L
    ·have M:b=it:=by simpa using z
     obtain⟨o,q,_⟩:=c;rw[M];exact B8 q
   rw[AX (Bm y)];exact(x b f).1
 done:=by
  intro X F hw G D i pins s σ H E I x st C;subst F hw G;obtain⟨B,hx⟩:=C;obtain⟨⟨old,g⟩,c⟩:=st;obtain⟨A3,m,j,S⟩:=I.tuple B;have hl:=m.length;exact HT.xV (I.ok.hd D) g c j (by simp;omega) fun h' Z=>⟨rfl,I.lN (t':=s.toks) x fun b o f q=>Z b o (fun z=>f (by simp[z])) q⟩
 self:=fun _ _ _ _ _ st h=>let ⟨⟨_,g⟩,_⟩:=st;yn g h
def ZE (K:ZHP)(t:TA):TI:=fun σ H R=>t σ H fun vs H1=>∃a tp xs,vs=[.ref a]/\EC K tp H1 a xs/\R (eW K tp a xs) H1
theorem kq {p1 p pos:Pos}{l:Expr}{t:TA}(x:Gl X "enumerate")(w:X.mg "enumerate"=none)(e:QA X [l] t)(v:starEach [l] X.env=[(false,eval l X.env)]:=by rfl):
  QI X (.Tuple es k1 p1) (.Call (.Name "enumerate" p) [l] [] pos) (ZE X.K t):=⟨by
 have e:=e.h;intro pins s σ H R I h;refine rm (K0 I x w (show bootBuiltins "enumerate"=some (.type "enumerate") by decide +kernel) ?_ (by decide) (by decide));refine QN (AR (e pos pins s σ H _ I h) fun us s1 ⟨vs,H1,I1,m,n⟩=>?_) v rfl;obtain⟨a,tp,xs,rfl,f,q⟩:=n;obtain⟨u,rfl,j⟩:=vals1 m;cases j;have g:s1.heap.objs.size+1≠s1.heap.objs.size:=Nat.succ_ne_self _;have fp:∀b∈[s1.heap.objs.size+1,s1.heap.objs.size],EW X pins H1 b:=fun b A=>by
  have y:s1.heap.objs.size<=b:=by
   rcases List.mem_cons.mp A with z | z
   ·rw[z];exact Dv _
   ·have i:b=s1.heap.objs.size:=by simpa using z
    rw[i];exact Ax _
  exact I1.Om y (I1.AF.fresh y)
 cases tp with
 | false=>
  obtain⟨A3,k,p,o⟩:=I1.list f;refine call_enumerate_list p.isList fun h' d c hsz kp=>yn d ?_;exact⟨s1.heap.objs.size+1,[s1.heap.objs.size+1,s1.heap.objs.size],_,_,H1,rfl,I1.kept (t':=s1.toks) kp,yZ a _ _ xs g,⟨⟨_,d⟩,c⟩,fp,q⟩
 | true=>
  obtain⟨A3,k,r,o⟩:=I1.tuple f;refine HT.rb r fun h' d c hsz kp=>yn d ?_;exact⟨s1.heap.objs.size+1,[s1.heap.objs.size+1,s1.heap.objs.size],_,_,H1,rfl,I1.kept (t':=s1.toks) kp,ZCv a _ _ xs g,⟨⟨_,d⟩,c⟩,fp,q⟩⟩
end
end L2
namespace Fz
open L2 Lw
variable {xs:List PV}{i:Nat}
section
variable [Xw]
variable {E:Ent0}{ss:List Slot}{σ:L2.St}{F H F' H':Hp}{K:ZHP}{js:List Nat}{ta tb te:TE}{k:PV->Prop}{nx:List Slot->Prop}{R:B3}{ys:List PV}
theorem Yu (h:Wq ss ta fun tp xs=>tp=false/\∃ns:List Str,xs=ns.map PV.str/\Wp ss tb fun p=>∃x,p=.str x/\x∈ns/\k (.int (ns.idxOf x:Nat))):Wp ss (JE K "list" (cj K) ta (Ag tb BM)) k:=⟨fun E σ F H Q S q=>
 h.go E σ F H _ S fun v tp xs F1 H1 b sv ⟨g,ns,e,h2⟩=>by
  subst e;subst g;obtain⟨l,vs,rfl,f,r⟩:=sv.seq b.st;refine⟨.inl ⟨rfl,_,AN.of f⟩,h2.go E σ F1 H1 _ b.st fun m p2 F2 H2 a c ⟨x,i,hx,kk⟩=>?_⟩;subst i;cases c.inv;obtain⟨n,Bv,j,CP,d⟩:=(sv.mv a).seq a.st;cases j;rw[d.strs] at CP;exact⟨l,ns,x,rfl,rfl,AN.of CP,hx,q _ _ F2 H2 (b.trans a) (.int _) kk⟩⟩
noncomputable def Lu (xs:List PV):List PV:=(List.range xs.length).map fun i:Nat=>.tup [.int (i:Int),xs.getD i .A8]
theorem O9 (xs:List PV):(Lu xs).length=xs.length:=by simp[Lu]
theorem lh {x:PV}(h:xs[i]?=some x):(Lu xs)[i]?=some (.tup [.int (i:Int),x]):=by
 have hi:i<xs.length:=(List.getElem?_eq_some_iff.mp h).1;unfold Lu;rw[BU,Tt hi];show some (PV.tup [PV.int (i:Int),xs.getD i PV.A8])=_;rw[Nl,h];rfl
theorem kG {p:PV}(h:(Lu xs)[i]?=some p):∃x,xs[i]?=some x/\p=.tup [.int (i:Int),x]:=by
 have hi:i<xs.length:=by have:=(List.getElem?_eq_some_iff.mp h).1;rwa [O9] at this
 have e:=BC hi;refine⟨xs[i],e,?_⟩;rw[lh e] at h;exact(Bj h).symm
theorem ZEQ {k:List PV->Prop}(h:Wz ss te fun _ xs=>k (Lu xs)):Wi ss (ZE K (Ag te BM)) k:=⟨fun E σ F H R S q=>
 h.go E σ F H _ S fun v tp xs F1 H1 b f kk=>by
  obtain⟨l,vs,o,a,r⟩:∃l vs,v=.ref l/\(∀(ss:List Slot) (σ:L2.St) (F H:Hp),AB F1 F->Sg E ss σ F H->H l=some (FW tp vs))/\AV F1 vs xs:=by
   cases tp with
   | true=>
    have n:Rep F1 v (.tup xs):=f;cases n with
    | tup e r=>exact⟨_,_,rfl,fun ss σ F H s S=>S.fh _ _ (s _ _ e),r⟩
   | false=>
    obtain⟨l,vs,e,h1,r⟩:=f;refine⟨l,vs,e,fun ss σ F H s S=>?_,r⟩;rcases h1 with h1 | ⟨hA,h1⟩
    ·exact S.fh _ _ (s _ _ h1)
    ·exact S.keep _ _ hA h1
  subst o;refine⟨l,tp,vs,rfl,FW.sq (a ss σ F1 H1 (AB.refl _) b.st),q _ (Lu xs) F1 H1 b ⟨fun ss σ F H i s S hi=>?_,fun ss σ F H s S=>?_,fun ss σ F H i x H' s S hi y=>?_⟩ kk⟩
  ·rw[O9] at hi;exact⟨FW.sq (a ss σ F H s S),by rw[r.length];exact hi⟩
  ·refine⟨FW.sq (a ss σ F H s S),?_⟩;rw[O9,r.length];exact Ax _
  ·obtain⟨p,y,g,ex,j,t⟩:=y;subst ex;subst t;obtain⟨z,d,c⟩:=r.get' g;have m:=S.alloc j (.tup [.int i,y]);exact⟨_,_,lh d,m,.tup AO (.cons (.int _) (.one (c.mono (s.trans m.ff))))⟩⟩
theorem ya {k:List PV->Prop}(h:Wq ss te fun _ xs=>k xs.reverse):Wn ss (WX K (Ag te BM)) k:=⟨fun E σ F H Q S q=>
 h.go E σ F H _ S fun v tp xs F1 H1 b sv kk=>by
  obtain⟨l,vs,rfl,e,r⟩:=sv.seq b.st;refine⟨l,tp,vs,rfl,FW.sq e,fun a c=>?_⟩;have d:=b.st.make c (.lst vs.reverse);exact q a _ _ F1 _ (b.trans d) (b.st.CA c) (b.none c) AO r.reverse kk⟩
theorem qC {r:List V->Hp->VK->Prop}(c:r=fun xs H Q=>(∃i,xs=[.int i]/\Q (.int i) H)∨∃k,xs=[.bl k]/\Q (.int (if k then 1 else 0)) H)(h:Wp ss te fun p=>∃b,p=.bl b/\k (.int (if b then 1 else 0))):Wp ss (Dm r (Ag te BM)) k:=⟨fun E σ F H Q S q=>
 h.go E σ F H _ S fun v p F1 H1 a r AK=>by
  obtain⟨b,e,kk⟩:=AK;subst c;subst e;cases r.inv;exact .inr ⟨b,rfl,q _ _ F1 H1 a (.int _) kk⟩⟩
end
theorem Bk {c A B:Prop}[Decidable c](h:c)(a:A):if c then A else B:=by rw[pQ h];exact a
end Fz
namespace L2
theorem zw {X:Cx}{tg:Expr}{a b:Expr}{ta:TA}{p pos:Pos}(v:Gl X "range")(u:X.mg "range"=none)(f:QA X [a,b] ta)(o:starEach [a,b] X.env=[(false,eval a X.env),(false,eval b X.env)]:=by rfl)(CK:starEach [b] X.env=[(false,eval b X.env)]:=by rfl):QI X tg (.Call (.Name "range" p) [a,b] [] pos) (Yy ta):=⟨by
 have f:=f.h;intro pins s σ H R I h;refine Call_ (K0 I v u boot_range (QN (AR (f pos pins s σ H _ I h) fun us s1 ⟨vs,H1,I1,g,d⟩=>?_) (by rw[o,CK]) (by rw[CK];rfl)));obtain⟨i,j,e,⟨d,n,m,l⟩,q⟩:=d;subst e;cases g with
 | cons r c=>
  cases c with
  | cons k c=>
   cases c;obtain⟨t,rfl⟩:=r;obtain⟨t',rfl⟩:=k;exact call_range_2 (jL I1 d n m l q)⟩
end L2
namespace Fz
open L2 Lw
variable {d:Ab}{t:Addr}
section
variable [Xw]
variable {E:Ent0}{ss:List Slot}{σ:L2.St}{F H F' H':Hp}{K:ZHP}{js:List Nat}{ta tb tc te:TE}{k:PV->Prop}{nx:List Slot->Prop}{R:B3}{xs ys:List PV}
noncomputable def Lz (i:Int)(n:Nat):List PV:=(List.range n).map fun j:Nat=>PV.int (i+(j:Int))
theorem PK (i:Int)(n:Nat):(Lz i n).length=n:=by simp[Lz]
theorem ZEL {i:Int}{n j:Nat}{p:PV}(h:(Lz i n)[j]?=some p):j<n/\p=.int (i+(j:Int)):=by
 have a:j<n:=by have:=(List.getElem?_eq_some_iff.mp h).1;rwa [PK] at this
 unfold Lz at h;rw[BU,Tt a] at h;exact⟨a,(Bj h).symm⟩
theorem oh {k:List PV->Prop}(h:Wp ss ta fun p=>∃i:Int,p=.int i/\Wp ss tb fun p=>∃j:Int,p=.int j/\(i<=1000000/\-1000000<=i/\j<=1000000/\-1000000<=j)/\k (Lz i (j - i).toNat)):Wi ss (Yy (Ag ta (Ag tb BM))) k:=⟨fun E σ F H R S q=>
 h.go E σ F H _ S fun v p F1 H1 a r AK=>by
  obtain⟨i,e,h2⟩:=AK;subst e;cases r.inv;exact h2.go E σ F1 H1 _ a.st fun f p2 F2 H2 c b DM=>by
   obtain⟨j,d,g,kk⟩:=DM;subst d;cases b.inv;refine⟨i,j,rfl,by omega,q _ (Lz i (j - i).toNat) F2 H2 (a.trans c) ⟨fun ss σ F H n s S hn=>?_,fun ss σ F H s S=>?_,fun ss σ F H n x H' s S hn y=>?_⟩ kk⟩
   ·rw[PK] at hn;exact hn
   ·show _<=_;rw[PK];exact Ax _
   ·obtain⟨e,hx⟩:=y;subst e;subst hx;rw[PK] at hn;refine⟨.int (i+(n:Int)),F,?_,.refl S,.int _⟩;unfold Lz;rw[BU,Tt hn];rfl⟩
noncomputable def dP:Ab->PV
 | .put x i=>.tup [.str "put", .str x,.int i]
 | .take x=>.tup [.str "take", .str x]
 | .move x i=>.tup [.str "move", .str x,.int i]
 | .turn lo hi=>.tup [.str "turn", .int lo,.int hi]
theorem zH (h:F t=some (.tup d.vals)):Rep F (.ref t) (dP d):=by
 cases d with
 | put x i=>exact .tup h (.cons (.str _) (.cons (.str _) (.one (.int _))))
 | take x=>exact .tup h (.cons (.str _) (.one (.str _)))
 | move x i=>exact .tup h (.cons (.str _) (.cons (.str _) (.one (.int _))))
 | turn lo hi=>exact .tup h (.cons (.str _) (.cons (.int _) (.one (.int _))))
theorem iy {v:V}(r:Rep F v (dP d)):∃t,v=.ref t/\F t=some (.tup d.vals):=by
 cases d <;> (obtain⟨a,vs,rfl,h,b⟩:=r.inv;cases b.enc rfl;exact⟨a,rfl,h⟩)
theorem Sg.adopt (S:Sg E ss σ F H)(m:Mv E ss σ F H F H'){o:HO}(b:H t=none)(e:H' t=some o):Mv E ss σ F H (upd F t o) H':=by
 have fn:=S.CA b;refine S.step (B7 fn o) (fun a u q=>?_) m.hh (fun a u q=>?_) fun i l hi c=>m.st.EV hi c
 ·by_cases z:a=t
  ·subst z;rw[AO] at q;rw[<- q];exact e
  ·rw[AX z] at q;exact m.st.fh a u q
 ·by_cases z:a=t
  ·subst z;exact .inr b
  ·rw[AX z] at q;exact .inl q
theorem lY {i:Nat}(hi:ss[i]?=some .AM)(h:Wq ss ta fun tp xs=>tp=false/\∃ns:List Str,xs=ns.map PV.str/\Wp ss tb fun p=>∃m:Nat,p=.int m/\(∀x∈ns,Nm x)/\ns.length<=m/\1<=m/\m<=100/\∀d:Ab,d.Ok m ns->k (dP d)):
  Wp ss (DK SK [] E0 (Ag (BD i) (Ag ta (Ag tb BM)))) k:=⟨fun E σ F H Q S q=>by
 obtain⟨p,e,_⟩:=S.ok i _ hi;refine⟨_,e,h.go E σ F H _ S fun v tp xs F1 H1 b sv ⟨y,ns,ex,h2⟩=>h2.go E σ F1 H1 _ b.st fun C p2 F2 H2 a f ⟨m,A,o,j,h1,u,kk⟩=>?_⟩;subst y;subst ex;subst A;cases f.inv;obtain⟨l,vs,w,hn,c,r⟩:=sv.mv a;subst w;rw[r.strs] at c;refine⟨p,l,m,ns,rfl,a.st.EV hi e,c,fun z=>hn i hi (z▸e),o,j,h1,u,fun d t H3 n s B hd=>?_⟩;have g:=a.st.adopt (a.st.QV hi e s) n B;exact q _ _ _ H3 (b.trans (a.trans g)) (zH AO) (kk d hd)⟩
theorem gR {k:List PV->Prop}(h:Wq ss ta fun tp xs=>tp=false/\∃ns:List Str,xs=ns.map PV.str/\Wp ss tb fun p=>∃d:Ab,p=dP d/\d.Ok 40 ns/\ns.length<=40/\ns.Nodup/\k ((d.done ns).map PV.str)):
  Wn ss (DK aO [] E0 (Ag ta (Ag tb BM))) k:=⟨fun E σ F H Q S q=>
 h.go E σ F H _ S fun v tp xs F1 H1 c sv ⟨e,ns,ex,h2⟩=>h2.go E σ F1 H1 _ c.st fun x p2 F2 H2 b i ⟨d,u,hd,m,nd,kk⟩=>by
  subst e;subst ex;subst u;obtain⟨l,vs,o,f,r⟩:=(sv.mv b).seq b.st;subst o;rw[r.strs] at f;obtain⟨t,e,n⟩:=iy i;subst e;refine⟨l,t,ns,d,rfl,f,b.st.fh _ _ n,hd,m,nd,fun a H3 g s w=>?_⟩;have j:=b.st.grow s;exact q a _ _ F2 H3 (c.trans (b.trans j)) (b.st.CA g) ((c.trans b).none g) w (MU _) kk⟩
end
end Fz
namespace L2
section
variable {X:Cx}{pins:ZHQ}{σ:St}{H:Hp}{s:Shared}
theorem dB:LW X "list.pop" Qs:=xy
end
end L2
namespace Lw
open L2
variable {c t:Addr}{r:Str}{g:Int}{ss:List Str}
def GV (H:Hp)(t c:Addr)(r:Str)(g:Int)(ss:List Str):Prop:=H t=some (.tup [.str r,.int g,.ref c])/\H c=some (.tup (ss.map V.str))
theorem GV.h {H:Hp}(h:GV H t c r g ss):fM H t r g ss:=⟨c,h⟩
theorem GV.same {H H':Hp}(s:AB H H')(h:GV H t c r g ss):GV H' t c r g ss:=⟨s _ _ h.1,s _ _ h.2⟩
def XX:Sp:=fun vs H Q _=>∃(a tl td c0:Addr) (ns:List Str) (r:Str) (g:Nat) (ss:List Str) (d:Ab),vs=[.ref a,.ref tl,.ref td]/\H a=some (.lst (ns.map V.str))/\GV H tl c0 r g ss/\H td=some (.tup d.vals)/\d.Ok 40 ns/\Dl ns r g ss/\ns.length<=40/\
 ∀t' b H',H t'=none->(H b=none∨b=c0)->AB H H'->GV H' t' b r (d.gap ns g:Nat) (d.Gd r g ss)->Q (.ref t') H'
def i5 (H H':Hp)(t' t:Addr)(ns:List Str)(r:Str)(g:Nat)(ss:List Str):Prop:=
 (Ft ns g ss=[]/\H' t'=some (.tup [.A8,.ref t]))∨∃x G7 a c2,Ft ns g ss=x::G7/\H a=none/\H c2=none/\H' t'=some (.tup [.str x,.ref a])/\GV H' a c2 r ((ns.idxOf x:Nat)+1) (wo ss x)
def YQ:Sp:=fun vs H Q _=>∃(a:Addr) (ns:List Str) (t:Addr) (r:Str) (g:Nat) (ss:List Str),vs=[.ref a,.ref t]/\H a=some (.lst (ns.map V.str))/\fM H t r g ss/\ss.length<64/\ns.length<=1000/\
 ∀t' H',H t'=none->AB H H'->i5 H H' t' t ns r g ss->Q (.ref t') H'
end Lw
namespace Fz
open L2 Lw
variable {E:Ent0}{ss:List Slot}{σ:L2.St}{F F' F0 F1 H H' H0:Hp}{js m p:List Nat}{ta tb tc te ti:TE}{nx:List Slot->Prop}{R:B3}{n t u x y:OV}{o:HO}{v:V}{r:Str}{g i j:Nat}{cs ns:List Str}{a b c:Addr}{ky ps xs ys:List PV}{Bv vs ws:List V}{A:Around}{A3 Bq:List Value}{CZ tp:Bool}{q:PV}{tr:TA}{us:List OV}
noncomputable def Ed (r:Str)(g:Nat)(ss:List Str):PV:=.tup [.str r,.int g,.tup (ss.map .str)]
section
variable [Xw]
variable {K:ZHP}{k:PV->Prop}
theorem Mv.adopt (m:Mv E ss σ F H F1 H')(S:Sg E ss σ F H){t:Addr}(c:H t=Option.none)(e:H' t=some o):Mv E ss σ F H (upd F1 t o) H':=by
 have b:AB F1 (upd F1 t o):=fun a u q=>by
  by_cases z:a=t
  ·subst z;have w:=m.st.fh _ _ q;rw[e] at w;rw[AO];exact w
  ·rw[AX z];exact q
 refine S.step (m.ff.trans b) (fun a u q=>?_) m.hh (fun a u q=>?_) fun i l hi d=>m.st.EV hi d
 ·by_cases z:a=t
  ·subst z;rw[AO] at q;rw[<- q];exact e
  ·rw[AX z] at q;exact m.st.fh a u q
 ·by_cases z:a=t
  ·subst z;exact .inr c
  ·rw[AX z] at q;exact m.nn a u q
theorem iw (h:Rep F v (Ed r g cs)):∃t c,v=.ref t/\GV F t c r g cs:=by
 obtain⟨_,_,rfl,e,q⟩:=h.inv;obtain⟨_,_,rfl,a,q⟩:=q.inv;obtain⟨_,_,rfl,b,q⟩:=q.inv;obtain⟨_,_,rfl,c,q⟩:=q.inv;cases q;cases a;cases b;obtain⟨_,_,rfl,d,f⟩:=c.inv;rw[f.strs] at d;exact⟨_,_,rfl,e,d⟩
theorem lW {t:Addr}(h:GV F t c r g cs):Rep F (.ref t) (Ed r g cs):=.tup h.1 (.cons (.str _) (.cons (.int _) (.one (.tup h.2 (MU cs)))))
theorem Mv.eQ (m:Mv E ss σ F H F1 H')(S:Sg E ss σ F H){t c0:Addr}(j:H t=Option.none)(d:H c=Option.none∨c=c0)(k:F c0=some o)(e:GV H' t c r g cs):∃F2,Mv E ss σ F H F2 H'/\AB F1 F2/\Rep F2 (.ref t) (Ed r g cs):=by
 have b:∃F2,Mv E ss σ F H F2 H'/\AB F1 F2/\F2 c=some (.tup (cs.map V.str)):=by
  rcases d with d | rfl
  ·refine⟨_,m.adopt S d e.2,fun a u q=>?_,AO⟩
   by_cases z:a=c
   ·subst z;have w:=m.st.fh _ _ q;rw[e.2] at w;rw[AO];exact w
   ·rw[AX z];exact q
  ·refine⟨F1,m,AB.refl _,?_⟩;have w:=m.ff _ _ k;have f:=m.st.fh _ _ w;rw[e.2] at f;rw[w,<- f]
 obtain⟨F2,i,s2,Ln⟩:=b;have h:AB F2 (upd F2 t (.tup [.str r,.int g,.ref c])):=fun a u q=>by
  by_cases z:a=t
  ·subst z;have w:=i.st.fh _ _ q;rw[e.1] at w;rw[AO];exact w
  ·rw[AX z];exact q
 exact⟨_,i.adopt S j e.1,s2.trans h,lW ⟨AO,h _ _ Ln⟩⟩
theorem y1 (h:Wq ss ta fun tp xs=>tp=false/\∃ns:List Str,xs=ns.map PV.str/\Wp ss tb fun p=>∃(r:Str) (g:Nat) (cs:List Str),p=Ed r g cs/\Wp ss tc fun p2=>∃d:Ab,p2=dP d/\d.Ok 40 ns/\Dl ns r g cs/\ns.length<=40/\k (Ed r (d.gap ns g) (d.Gd r g cs))):
  Wp ss (DK XX [] E0 (Ag ta (Ag tb (Ag tc BM)))) k:=⟨fun E σ F H Q S q=>
 h.go E σ F H _ S fun v tp xs F1 H1 c sv ⟨y,ns,ex,h2⟩=>h2.go E σ F1 H1 _ c.st fun D p2 F2 H2 b n ⟨r,g,cs,z,w⟩=>w.go E σ F2 H2 _ b.st fun C p3 F3 H3 a m ⟨d,A,hd,x,s,kk⟩=>by
  subst y;subst ex;subst z;subst A;obtain⟨l,vs,rfl,f,i⟩:=(sv.mv (b.trans a)).seq a.st;rw[i.strs] at f;obtain⟨tl,c0,rfl,e⟩:=iw (n.mono a.ff);obtain⟨t,rfl,u⟩:=iy m;refine⟨l,tl,t,c0,ns,r,g,cs,d,rfl,f,e.same a.st.fh,a.st.fh _ _ u,hd,x,s,fun t' G H4 LX L6 s4 B=>?_⟩;obtain⟨F4,o,_,j⟩:=(a.st.grow s4).eQ a.st LX L6 e.2 B;exact q _ _ F4 H4 (c.trans (b.trans (a.trans o))) j kk⟩
noncomputable def Me (ns:List Str)(r:Str)(g:Nat)(cs:List Str):PV:=match Ft ns g cs with
 | []=>.tup [.A8,Ed r g cs]
 | x::_=>.tup [.str x,Ed r (ns.idxOf x+1) (wo cs x)]
theorem Mv.ZCR (m:Mv E ss σ F H F1 H')(S:Sg E ss σ F H){t t':Addr}(d:H t'=Option.none)(j:GV F t c r g cs)(e:i5 H H' t' t ns r g cs):∃F2,Mv E ss σ F H F2 H'/\Rep F2 (.ref t') (Me ns r g cs):=by
 rcases e with⟨f,e⟩|⟨x,G7,h,c2,f,h2,o,e,n⟩
 ·refine⟨_,m.adopt S d e,?_⟩;have b:=(m.adopt S d e).ff;unfold Me;rw[f];exact .tup AO (.cons .A8 (.one (lW (j.same b))))
 ·have l:GV H' h c2 r ((ns.idxOf x+1:Nat):Int) (wo cs x):=n;obtain⟨F2,i,_,k⟩:=m.eQ S h2 (.inl o) j.1 l;refine⟨_,i.adopt S d e,?_⟩;have b:AB F2 (upd F2 t' (.tup [.str x,.ref h])):=fun a u q=>by
   by_cases z:a=t'
   ·subst z;have w:=i.st.fh _ _ q;rw[e] at w;rw[AO];exact w
   ·rw[AX z];exact q
  unfold Me;rw[f];exact .tup AO (.cons (.str _) (.one (k.mono b)))
theorem um (h:Wq ss ta fun tp xs=>tp=false/\∃ns:List Str,xs=ns.map PV.str/\Wp ss tb fun p=>∃(r:Str) (g:Nat) (cs:List Str),p=Ed r g cs/\Dl ns r g cs/\ns.length<=60/\k (Me ns r g cs)):
  Wp ss (DK YQ [] E0 (Ag ta (Ag tb BM))) k:=⟨fun E σ F H Q S q=>
 h.go E σ F H _ S fun v tp xs F1 H1 b sv ⟨o,ns,ex,h2⟩=>h2.go E σ F1 H1 _ b.st fun u p2 F2 H2 a j ⟨r,g,cs,s,n,w,kk⟩=>by
  subst o;subst ex;subst s;obtain⟨l,vs,rfl,e,f⟩:=(sv.mv a).seq a.st;rw[f.strs] at e;obtain⟨tl,c0,rfl,c⟩:=iw j;have d:=n.len;refine⟨l,ns,tl,r,g,cs,rfl,e,(c.same a.st.fh).h,by omega,by omega,fun t' H4 LX s4 t=>?_⟩;obtain⟨F4,m,i⟩:=(a.st.grow s4).ZCR a.st LX c t;exact q _ _ F4 H4 (b.trans (a.trans m)) i kk⟩
theorem N1 {n:Nat}(h:j<n):Fl n (j:Int)=some j:=by
 unfold Fl;simp;omega
theorem AV.set:∀{xs:List PV}(j:Nat){v:V}{p:PV},AV F vs xs->Rep F v p->AV F (vs.set j v) (xs.set j p):=by
 intro xs
 induction vs generalizing xs with
 | nil=>intro j v p h r;cases h;exact .nil
 | cons a vs c=>
  intro j v p h r;cases h with
  | cons b t=>
   cases j with
   | zero=>exact .cons r t
   | succ j=>exact .cons b (c j t r)
end
mutual
noncomputable def C6:PV->PV->Bool
 | .lst xs,.lst ys=>DA xs ys
 | .tup xs,.tup ys=>DA xs ys
 | .tup xs,.con _ ys=>DA xs ys
 | .con _ xs,.tup ys=>DA xs ys
 | .con _ xs,.con _ ys=>DA xs ys
 | .A8,.A8=>true
 | .bl a,.bl b=>a == b
 | .bl a,.int b=>(if a then 1 else 0) == b
 | .int a,.bl b=>a == (if b then 1 else 0)
 | .int a,.int b=>a == b
 | .str a,.str b=>a == b
 | _,_=>false
noncomputable def DA:List PV->List PV->Bool
 | [],[]=>true
 | x::r,y::t=>C6 x y && DA r t
 | _,_=>false
end
theorem RN (x y:PV)(r t:List PV):DA (x::r) (y::t)=(C6 x y && DA r t):=by rw[DA]
theorem Yc:∀(xs ys:List PV),xs.length≠ys.length->DA xs ys=false
 | [],[],h=>absurd rfl h
 | [],_::_,_=>by rw[DA];all_goals simp
 | _::_,[],_=>by rw[DA];all_goals simp
 | x::r,y::t,h=>by rw[RN,Yc r t (by simpa using h),Tp]
theorem Vd:∀(xs ys:List PV),xs.length=ys.length->DA xs ys=(List.range xs.length).all fun j=>C6 (xs.getD j .A8) (ys.getD j .A8)
 | [],[],_=>by rw[DA];rfl
 | x::r,y::t,h=>by
  rw[RN,Vd r t (by simpa using h),CN,List.range_succ_eq_map,Tq,List.all_map]
  rfl
def dat (K:ZHP):Nat->PV->Prop
 | _,.A8=>True
 | _,.bl _=>True
 | _,.int _=>True
 | _,.str _=>True
 | d+1,.lst xs=>∀x∈xs,dat K d x
 | d+1,.tup xs=>∀x∈xs,dat K d x
 | d+1,.con a xs=>(∀x∈xs,dat K d x)/\xs.all flat=true/\∀H,AU K H a (xs.map Fz.enc)
 | _,_=>False
inductive Ga (K:ZHP) (H:Hp):V->PV->Bool->Addr->List V->List PV->Prop where
 | lst {a:Addr}{vs:List V}{xs:List PV}:AN K H a vs->AV H vs xs->Ga K H (.ref a) (.lst xs) false a vs xs
 | tup {a:Addr}{vs:List V}{xs:List PV}:AU K H a vs->AV H vs xs->Ga K H (.ref a) (.tup xs) true a vs xs
 | con {a:Addr}{vs:List V}{xs:List PV}:AU K H a vs->AV H vs xs->Ga K H (.ref a) (.con a xs) true a vs xs
theorem GW {K:ZHP}:∀{d:Nat}{x:V}{p:PV},dat K d p->Rep H x p->(flat p=true/\x=Fz.enc p)∨∃d' tp a vs xs,d=d'+1/\Ga K H x p tp a vs xs/\∀y∈xs,dat K d' y:=by
 intro d x p h r;cases r with
 | A8=>exact .inl ⟨rfl,rfl⟩
 | bl b=>exact .inl ⟨rfl,rfl⟩
 | int b=>exact .inl ⟨rfl,rfl⟩
 | str b=>exact .inl ⟨rfl,rfl⟩
 | lst e r=>cases d with
  | zero=>exact h.elim
  | succ d=>exact .inr ⟨d,_,_,_,_,rfl,.lst (AN.of e) r,h⟩
 | tup e r=>cases d with
  | zero=>exact h.elim
  | succ d=>exact .inr ⟨d,_,_,_,_,rfl,.tup (AU.of e) r,h⟩
 | con=>cases d with
  | zero=>exact h.elim
  | succ d=>obtain⟨h1,h2,c⟩:=h;exact .inr ⟨d,_,_,_,_,rfl,.con (c H) (d9 h2),h1⟩
 | B1 _ _ _=>cases d <;> exact h.elim
 | obj _ _ _ _=>cases d <;> exact h.elim
 | Pk _=>cases d <;> exact h.elim
 | exc _ _ _ _=>cases d <;> exact h.elim
section
variable {X:Cx}{pins:ZHQ}{s:Shared}
theorem ZFH (d:Vals vs A3)(c:Vals ws Bq)(f:AV H vs xs)(e:AV H ws ys)
  (h:∀(x y:V) (p q:PV) (u v:Value),p∈xs->q∈ys->Rep H x p->Rep H y q->RelV x u->RelV y v->SeqAt.EqAt A s u v (C6 p q)) :
  ∀j (h1:j<A3.toArray.size) (h2:j<Bq.toArray.size),SeqAt.EqAt A s A3.toArray[j] Bq.toArray[j] ((fun j=>C6 (xs.getD j .A8) (ys.getD j .A8)) j):=fun j h1 h2=>by
 have l1:=d.length;have l2:=c.length;have D:=f.length;have C:=e.length;have B:j<A3.length:=by simpa using h1
 have z:j<Bq.length:=by simpa using h2
 have b:j<xs.length:=by omega
 have a:j<ys.length:=by omega
 obtain⟨x,hx,m⟩:=f.get (i:=j) (p:=xs[j]) (BC b);obtain⟨y,r,l⟩:=e.get (i:=j) (p:=ys[j]) (BC a);obtain⟨u,k,o⟩:=d.get hx;obtain⟨v,g,n⟩:=c.get r;rw[BC B] at k;rw[BC z] at g;have w:A3[j]=u:=Bj k;have t:Bq[j]=v:=Bj g;have q:=h x y _ _ u v (QC b) (QC a) m l o n;rw[<- w,<- t] at q;show SeqAt.EqAt A s _ _ (C6 (xs.getD j .A8) (ys.getD j .A8));rw[Nl,BC b,Nl,BC a]
 simpa using q
theorem Tg {p:PV}{x:V}(h:Ga X.K H x p tp a vs xs)(f:flat q=true):C6 p q=false/\C6 q p=false:=by
 cases h <;> cases q <;> first | exact Bool.noConfusion f | exact⟨rfl,rfl⟩
theorem VP {p:PV}{x y:V}(h:Ga X.K H x p tp a vs xs)(h2:Ga X.K H y q CZ b ws ys):C6 p q=(if tp=CZ then DA xs ys else false):=by
 cases h <;> cases h2 <;> rfl
theorem SI {p:PV}(h:flat p=true)(h2:flat q=true):C6 p q=E8 (Fz.enc p) (Fz.enc q):=by
 cases p <;> cases q <;> first | exact Bool.noConfusion h | exact Bool.noConfusion h2 | rfl
theorem pe {p:PV}{u v:Value}(h:flat p=true)(h2:flat q=true)(b:RelV (Fz.enc p) u)(a:RelV (Fz.enc q) v):SeqAt.RcAt A s u v (C6 p q)/\SeqAt.RcNeAt A s u v (!C6 p q):=by
 cases p <;> first | exact Bool.noConfusion h | skip
 all_goals cases q <;> first | exact Bool.noConfusion h2 | skip
 ·cases b;cases a;exact⟨.none_none,.none_none⟩
 ·cases b;cases a;exact⟨.none_bool _,.none_bool _⟩
 ·cases b;obtain⟨t,rfl⟩:=a;exact⟨.none_int _ _,.none_int _ _⟩
 ·cases b;obtain⟨t,rfl⟩:=a;exact⟨.none_str _ _,.none_str _ _⟩
 ·cases b;cases a;exact⟨.bool_none _,.bool_none _⟩
 ·cases b;cases a;exact⟨.bool_bool _ _,.bool_bool _ _⟩
 ·cases b;obtain⟨t,rfl⟩:=a;exact⟨.bool_int _ _ _,.bool_int _ _ _⟩
 ·cases b;obtain⟨t,rfl⟩:=a;exact⟨.bool_str _ _ _,.bool_str _ _ _⟩
 ·obtain⟨t,rfl⟩:=b;cases a;exact⟨.int_none _ _,.int_none _ _⟩
 ·obtain⟨t,rfl⟩:=b;cases a;exact⟨.int_bool _ _ _,.int_bool _ _ _⟩
 ·obtain⟨t,rfl⟩:=b;obtain⟨c,rfl⟩:=a;exact⟨.int_int _ _ _ _,.int_int _ _ _ _⟩
 ·obtain⟨t,rfl⟩:=b;obtain⟨c,rfl⟩:=a;exact⟨.int_str _ _ _ _,.int_str _ _ _ _⟩
 ·obtain⟨t,rfl⟩:=b;cases a;exact⟨.str_none _ _,.str_none _ _⟩
 ·obtain⟨t,rfl⟩:=b;cases a;exact⟨.str_bool _ _ _,.str_bool _ _ _⟩
 ·obtain⟨t,rfl⟩:=b;obtain⟨c,rfl⟩:=a;exact⟨.str_int _ _ _ _,.str_int _ _ _ _⟩
 ·obtain⟨t,rfl⟩:=b;obtain⟨c,rfl⟩:=a;exact⟨.str_str _ _ _ _,.str_str _ _ _ _⟩
def Qd (h:Heap)(tp:Bool)(a:Addr)(A3:Array Value):Prop:=if tp then IsTup h a A3 else h.IsList a A3
theorem Ga.Ge (I:Inv X pins σ H s){x:V}{p:PV}(h:Ga X.K H x p tp a vs xs):∃A3:List Value,x=.ref a/\Vals vs A3/\Qd s.heap tp a A3.toArray/\AV H vs xs:=by
 cases h with
 | lst h r=>obtain⟨A3,b,p1,_⟩:=I.list h;exact⟨A3,rfl,b,p1.isList,r⟩
 | tup h r=>obtain⟨A3,b,p1,_⟩:=I.tuple h;exact⟨A3,rfl,b,p1,r⟩
 | con h r=>obtain⟨A3,b,p1,_⟩:=I.tuple h;exact⟨A3,rfl,b,p1,r⟩
theorem S9 {A3:Array Value}{v:Value}(h:Qd s.heap tp a A3)(f:flat q=true)(c:RelV (Fz.enc q) v)(b:A.units<cLine):
  (SeqAt.EqAt A s (.ref a) v false/\SeqAt.EqAt A s v (.ref a) false)/\(SeqAt.RcAt A s (.ref a) v false/\SeqAt.RcAt A s v (.ref a) false)/\(SeqAt.RcNeAt A s (.ref a) v true/\SeqAt.RcNeAt A s v (.ref a) true):=by
 cases tp with
 | false=>
  have h':s.heap.IsList a A3:=h;cases q <;> first | exact Bool.noConfusion f | skip
  ·cases c;exact⟨⟨.list_none h' b,.none_list h' b⟩,⟨.list_none h' b,.none_list h' b⟩,⟨.list_none h' b,.none_list h' b⟩⟩
  ·cases c;exact⟨⟨.list_bool _ h' b,.bool_list _ h' b⟩,⟨.list_bool _ h' b,.bool_list _ h' b⟩,⟨.list_bool _ h' b,.bool_list _ h' b⟩⟩
  ·obtain⟨t,rfl⟩:=c;exact⟨⟨.list_int _ _ h' b,.int_list _ _ h' b⟩,⟨.list_int _ _ h' b,.int_list _ _ h' b⟩,⟨.list_int _ _ h' b,.int_list _ _ h' b⟩⟩
  ·obtain⟨t,rfl⟩:=c;exact⟨⟨.list_str _ _ h' b,.str_list _ _ h' b⟩,⟨.list_str _ _ h' b,.str_list _ _ h' b⟩,⟨.list_str _ _ h' b,.str_list _ _ h' b⟩⟩
 | true=>
  have h':IsTup s.heap a A3:=h;cases q <;> first | exact Bool.noConfusion f | skip
  ·cases c;exact⟨⟨.tuple_none h' b,.none_tuple h' b⟩,⟨.tuple_none h' b,.none_tuple h' b⟩,⟨.tuple_none h' b,.none_tuple h' b⟩⟩
  ·cases c;exact⟨⟨.tuple_bool _ h' b,.bool_tuple _ h' b⟩,⟨.tuple_bool _ h' b,.bool_tuple _ h' b⟩,⟨.tuple_bool _ h' b,.bool_tuple _ h' b⟩⟩
  ·obtain⟨t,rfl⟩:=c;exact⟨⟨.tuple_int _ _ h' b,.int_tuple _ _ h' b⟩,⟨.tuple_int _ _ h' b,.int_tuple _ _ h' b⟩,⟨.tuple_int _ _ h' b,.int_tuple _ _ h' b⟩⟩
  ·obtain⟨t,rfl⟩:=c;exact⟨⟨.tuple_str _ _ h' b,.str_tuple _ _ h' b⟩,⟨.tuple_str _ _ h' b,.str_tuple _ _ h' b⟩,⟨.tuple_str _ _ h' b,.str_tuple _ _ h' b⟩⟩
theorem Ga.inj (I:Inv X pins σ H s){x y:V}{p q:PV}{tp CZ:Bool}{a:Addr}{vs ws:List V}{xs ys:List PV}(h:Ga X.K H x p tp a vs xs)(h2:Ga X.K H y q CZ a ws ys):tp=CZ/\vs=ws:=by
 have b:∀{vs ws:List V},AN X.K H a vs->AU X.K H a ws->False:=fun {vs ws} h1 h2=>by
  obtain⟨A3,_,p1,_⟩:=I.list h1;obtain⟨Bq,_,p2,_⟩:=I.tuple h2;obtain⟨o,n,e,c,_⟩:=p1;obtain⟨f,d,c2,_⟩:=p2;rw[e] at d;cases d;rw[c] at c2;exact absurd c2 (by decide)
 cases h with
 | lst h r=>cases h2 with
  | lst h2 _=>exact⟨rfl,I.du h h2⟩
  | tup h2 _=>exact(b h h2).elim
  | con h2 _=>exact(b h h2).elim
 | tup h r=>cases h2 with
  | lst h2 _=>exact(b h2 h).elim
  | tup h2 _=>exact⟨rfl,I.P0 h h2⟩
  | con h2 _=>exact⟨rfl,I.P0 h h2⟩
 | con h r=>cases h2 with
  | lst h2 _=>exact(b h2 h).elim
  | tup h2 _=>exact⟨rfl,I.P0 h h2⟩
  | con h2 _=>exact⟨rfl,I.P0 h h2⟩
theorem l9 {p:PV}(h:flat p=true):E8 (Fz.enc p) (Fz.enc p)=true:=by cases p <;> first | exact Bool.noConfusion h | exact u4 _ | rfl
theorem jQ (a:∀(x:V) (p q:PV),Rep H x p->Rep H x q->dat X.K d p->dat X.K d q->C6 p q=true):∀{vs:List V}{xs ys:List PV},AV H vs xs->AV H vs ys->(∀x∈xs,dat X.K d x)->(∀y∈ys,dat X.K d y)->DA xs ys=true
 | _,_,_,.nil,.nil,_,_=>by rw[DA]
 | _,_,_,.cons r1 t1,.cons r2 t2,h1,h2=>by
  rw[RN,a _ _ _ r1 r2 (h1 _ (by simp)) (h2 _ (by simp)),jQ a t1 t2 (fun x hx=>h1 x (by simp[hx])) (fun x hx=>h2 x (by simp[hx]))];rfl
theorem ZEY (I:Inv X pins σ H s):∀(d:Nat) (x:V) (p q:PV),Rep H x p->Rep H x q->dat X.K d p->dat X.K d q->C6 p q=true:=fun d=>by
 induction d with
 | zero=>
  intro x p q l h h1 h2;rcases GW h1 l with⟨j,k⟩|⟨d',_,_,_,_,e,_⟩
  ·rcases GW h2 h with⟨c,g⟩|⟨d',_,_,_,_,e,_⟩
   ·rw[SI j c,<- k,g];exact l9 c
   ·cases e
  ·cases e
 | succ d r=>
  intro x p q l h h1 h2;rcases GW h1 l with⟨j,k⟩|⟨w,tp,a,vs,xs,e,i,k1⟩
  ·rcases GW h2 h with⟨c,g⟩|⟨v,CZ,b,ws,ys,e,f,k2⟩
   ·rw[SI j c,<- k,g];exact l9 c
   ·obtain⟨_,ex,_⟩:=f.Ge I;subst ex;cases p <;> first | (cases j;done) | (cases k;done)
  ·cases e;rcases GW h2 h with⟨c,g⟩|⟨v,CZ,b,ws,ys,e,f,k2⟩
   ·obtain⟨_,ex,_⟩:=i.Ge I;subst ex;cases q <;> first | (cases c;done) | (cases g;done)
   ·cases e;obtain⟨_,ex,_,_,o⟩:=i.Ge I;obtain⟨_,m,_,_,n⟩:=f.Ge I;rw[ex] at m;cases m;obtain⟨u,t⟩:=i.inj I f;subst t;rw[VP i f,pQ u];exact jQ r o n k1 k2
theorem xD (b:Vals vs A3)(a:Vals ws Bq)(d:AV H vs xs)(c:AV H ws ys):A3.toArray.size=xs.length/\Bq.toArray.size=ys.length:=by
 have l1:=b.length;have l2:=a.length;have f:=d.length;have e:=c.length;simp only[Bu];omega
theorem bh (h1:Qd s.heap tp a A3.toArray)(h2:Qd s.heap CZ b Bq.toArray)(m:Vals vs A3)(l:Vals ws Bq)(o:AV H vs xs)(n:AV H ws ys)(c:A.units<cLine)
  (h:∀(x y:V) (p q:PV) (u v:Value),p∈xs->q∈ys->Rep H x p->Rep H y q->RelV x u->RelV y v->SeqAt.EqAt A.in1 s u v (C6 p q)) :
  SeqAt.RcAt A s (.ref a) (.ref b) (if tp=CZ then DA xs ys else false)/\SeqAt.RcNeAt A s (.ref a) (.ref b) (!(if tp=CZ then DA xs ys else false)):=by
 obtain⟨i,k⟩:=xD m l o n;have it:=ZFH (A:=A.in1) m l o n h;cases tp with
 | false=>cases CZ with
  | false=>
   rw[pQ rfl];have g:s.heap.IsList a A3.toArray:=h1;have f:s.heap.IsList b Bq.toArray:=h2
   by_cases d:xs.length=ys.length
   ·rw[Vd xs ys d,<- i];exact⟨.lists g f (by omega) c it,.lists g f (by omega) c it⟩
   ·rw[Yc xs ys d];have r:(A3.toArray.size != Bq.toArray.size)=true:=by simp only[bne_iff_ne,ne_eq];omega
    exact⟨.lists_lengths g f r c,.lists_lengths g f r c⟩
  | true=>rw[o5 (by decide)];exact⟨.list_tuple h1 h2 c,.list_tuple h1 h2 c⟩
 | true=>cases CZ with
  | false=>rw[o5 (by decide)];exact⟨.tuple_list h1 h2 c,.tuple_list h1 h2 c⟩
  | true=>
   rw[pQ rfl];have g:IsTup s.heap a A3.toArray:=h1;have f:IsTup s.heap b Bq.toArray:=h2;have e:((List.range (min A3.toArray.size Bq.toArray.size)).all (fun j=>C6 (xs.getD j .A8) (ys.getD j .A8)) && A3.toArray.size == Bq.toArray.size)=DA xs ys:=by
    by_cases d:xs.length=ys.length
    ·rw[Vd xs ys d,i,k,<- d,ml,u4,mG]
    ·rw[Yc xs ys d,i,k,show(xs.length == ys.length)=false from by simpa using d,Tp]
   have k1:=SeqAt.RcAt.tuples (A:=A) (e:=fun j=>C6 (xs.getD j .A8) (ys.getD j .A8)) g f c it;have k2:=SeqAt.RcNeAt.tuples (A:=A) (e:=fun j=>C6 (xs.getD j .A8) (ys.getD j .A8)) g f c it;rw[e] at k1 k2;exact⟨k1,k2⟩
theorem sW (I:Inv X pins σ H s):∀(d:Nat) (x y:V) (p q:PV),Rep H x p->Rep H y q->dat X.K d p->dat X.K d q->∀(A:Around) (u v:Value),RelV x u->RelV y v->A.units+d<cLine->SeqAt.EqAt A s u v (C6 p q):=fun d=>by
 induction d with
 | zero=>
  intro x y p q k h h1 h2 A u v f c G;rcases GW h1 k with⟨i,o⟩|⟨_,_,_,_,_,e,_⟩
  ·rcases GW h2 h with⟨g,m⟩|⟨_,_,_,_,_,e,_⟩
   ·subst o;subst m;rw[SI i g];exact T9 f c (RS i) (RS g)
   ·cases e
  ·cases e
 | succ d F=>
  intro x y p q k h h1 h2 A u v f c G;rcases GW h1 k with⟨i,o⟩|⟨N,tp,a,vs,xs,e,n,k1⟩
  ·rcases GW h2 h with⟨g,m⟩|⟨M,CZ,b,ws,ys,e,l,k2⟩
   ·subst o;subst m;rw[SI i g];exact T9 f c (RS i) (RS g)
   ·obtain⟨A3,r,_,j,_⟩:=l.Ge I;subst o;subst r;cases(show v=Value.ref b from c);rw[(Tg l i).2];exact(S9 j i f (by omega)).1.2
  ·cases e;rcases GW h2 h with⟨g,m⟩|⟨M,CZ,b,ws,ys,e,l,k2⟩
   ·obtain⟨A3,ex,_,j,_⟩:=n.Ge I;subst m;subst ex;cases(show u=Value.ref a from f);rw[(Tg n g).1];exact(S9 j g c (by omega)).1.1
   ·cases e;obtain⟨A3,ex,C,E,z⟩:=n.Ge I;obtain⟨Bq,r,B,D,w⟩:=l.Ge I;subst ex;subst r;cases(show u=Value.ref a from f);cases(show v=Value.ref b from c)
    by_cases t:a=b
    ·subst t;rw[ZEY I (d+1) _ p q k h h1 h2];exact .same _
    ·rw[VP n l];refine SeqAt.EqAt.of_refs t (bh E D C B z w (by omega) fun x y p q u v L J k h f c=>?_).1;exact F x y p q k h (k1 p L) (k2 q J) A.in1 u v f c (by show A.units+1+d<cLine;omega)
theorem ZCt (I:Inv X pins σ H s)(d:Nat)(x y:V)(p q:PV)(m:Rep H x p)(i:Rep H y q)(h1:dat X.K d p)(h2:dat X.K d q)(A:Around)(u v:Value)(f:RelV x u)(c:RelV y v)(M:A.units+d<cLine):SeqAt.RcAt A s u v (C6 p q)/\SeqAt.RcNeAt A s u v (!C6 p q):=by
 rcases GW h1 m with⟨n,r⟩|⟨t,tp,a,vs,xs,e,k,k1⟩
 ·rcases GW h2 i with⟨l,h⟩|⟨L,CZ,b,ws,ys,e,g,k2⟩
  ·subst r;subst h;exact pe n l f c
  ·obtain⟨A3,o,_,j,_⟩:=g.Ge I;subst r;subst o;cases(show v=Value.ref b from c);rw[(Tg g n).2];have z:=S9 (A:=A) j n f (by omega);exact⟨z.2.1.2,z.2.2.2⟩
 ·rcases GW h2 i with⟨l,h⟩|⟨L,CZ,b,ws,ys,h,g,k2⟩
  ·obtain⟨A3,ex,_,j,_⟩:=k.Ge I;subst h;subst ex;cases(show u=Value.ref a from f);rw[(Tg k l).1];have z:=S9 (A:=A) j l c (by omega);exact⟨z.2.1.1,z.2.2.1⟩
  ·subst e;cases h;obtain⟨A3,ex,D,F,B⟩:=k.Ge I;obtain⟨Bq,o,C,E,w⟩:=g.Ge I;subst ex;subst o;cases(show u=Value.ref a from f);cases(show v=Value.ref b from c);rw[VP k g];exact bh F E D C B w (by omega) fun x y p q u v J G m i f c=>sW I t x y p q m i (k1 p J) (k2 q G) A.in1 u v f c (by show A.units+1+t<cLine;omega)
def jF (K:ZHP)(neg:Bool):R2:=fun x y H Q=>∃p q,Rep H x p/\Rep H y q/\dat K 40 p/\dat K 40 q/\Q (.bl (if neg then !C6 p q else C6 p q)) H
theorem za (i:X.A.units+64<cLine):BW X (compareOp .NotEq) (jF X.K true):=by
 intro pins s σ H x y v u Q I b a h;obtain⟨p,q,d,c,g,f,e⟩:=h;exact(ZCt I 40 x y p q d c g f X.A _ _ b a (by omega)).2 _ _ _ _ ⟨.bl (!C6 p q),H,I,rfl,e⟩
end
section
variable [Xw]
variable {K:ZHP}{k:PV->Prop}
theorem fo (h:Wp ss ta fun p=>Wp ss tb fun q=>dat K 40 p/\dat K 40 q/\k (.bl (!C6 p q))):Wp ss (CD (jF K true) ta tb) k:=⟨fun E σ F H Q S q=>
 h.go E σ F H _ S fun v p F1 H1 b d h2=>h2.go E σ F1 H1 _ b.st fun g p2 F2 H2 a c ⟨f,e,kk⟩=>
  ⟨p,p2,(d.mono a.ff).mono a.st.fh,c.mono a.st.fh,f,e,q _ _ F2 H2 (b.trans a) (.bl _) kk⟩⟩
end
def OV.at (t:OV):List Nat->Option OV
 | []=>some t
 | j::p=>match t with
  | .nd _ _ xs=>(xs[j]?).bind fun x=>OV.at x p
  | .tp xs=>(xs[j]?).bind fun x=>OV.at x p
  | .fz _=>none
def OV.put (t:OV)(l:List Nat)(n:OV):OV:=match l with
 | []=>n
 | j::p=>match t with
  | .nd k a xs=>match xs[j]? with
   | some x=>.nd k a (xs.set j (OV.put x p n))
   | none=>.nd k a xs
  | .tp xs=>match xs[j]? with
   | some x=>.tp (xs.set j (OV.put x p n))
   | none=>.tp xs
  | .fz q=>.fz q
theorem OV.Ig:t.at []=some t:=by rw[OV.at]
theorem OV.LC {k:NK}{xs:List OV}:(OV.nd k a xs).at (j::p)=(xs[j]?).bind fun x=>x.at p:=by rw[OV.at]
theorem OV.O5 {xs:List OV}:(OV.tp xs).at (j::p)=(xs[j]?).bind fun x=>x.at p:=by rw[OV.at]
theorem OV.Fj:t.put [] n=n:=by rw[OV.put]
theorem OV.KQ {k:NK}{xs:List OV}(h:xs[j]?=some x):(OV.nd k a xs).put (j::p) n=.nd k a (xs.set j (x.put p n)):=by rw[OV.put,h]
theorem OV.RD {xs:List OV}(h:xs[j]?=some x):(OV.tp xs).put (j::p) n=.tp (xs.set j (x.put p n)):=by rw[OV.put,h]
theorem OV.Mg {u w:OV}:∀{p:List Nat}{t:OV}{j:Nat},t.at p=some u->u.at [j]=some w->t.at (p++[j])=some w
 | [],t,j,h,h2=>by rw[OV.Ig] at h;cases h;exact h2
 | i::p,.nd k a xs,j,h,h2=>by
  rw[OV.LC] at h;rw[ai,OV.LC];cases e:xs[i]? with
  | none=>rw[e] at h;cases h
  | some x=>rw[e] at h;exact OV.Mg (t:=x) h h2
 | i::p,.tp xs,j,h,h2=>by
  rw[OV.O5] at h;rw[ai,OV.O5];cases e:xs[i]? with
  | none=>rw[e] at h;cases h
  | some x=>rw[e] at h;exact OV.Mg (t:=x) h h2
 | i::p,.fz q,j,h,h2=>by rw[OV.at] at h;cases h
theorem J2:∀{xs:List OV}{j:Nat}{x:OV},xs[j]?=some x->∃l r,OV.Ao xs=l++x.addrs++r/\∀y:OV,OV.Ao (xs.set j y)=l++y.addrs++r
 | x::xs,0,z,h=>by
  simp at h;subst h;exact⟨[],OV.Ao xs,by rw[OV.Cp];rfl,fun y=>by rw[b9,OV.Cp];rfl⟩
 | x::xs,j+1,z,h=>by
  obtain⟨l,r,b,a⟩:=J2 (xs:=xs) (j:=j) (x:=z) (by simpa using h)
  refine⟨x.addrs++l,r,by rw[OV.Cp,b];simp[C0],fun y=>by rw[Tv,OV.Cp,a];simp[C0]⟩
theorem OV.split {u:OV}:∀{p:List Nat}{t:OV},t.at p=some u->∃l r,t.addrs=l++u.addrs++r/\∀n:OV,(t.put p n).addrs=l++n.addrs++r
 | [],t,h=>by rw[OV.Ig] at h;cases h;exact⟨[],[],by simp,fun n=>by rw[OV.Fj];simp⟩
 | j::p,.nd k a xs,h=>by
  rw[OV.LC] at h;cases e:xs[j]? with
  | none=>rw[e] at h;cases h
  | some x=>
   rw[e] at h;obtain⟨l,r,g,f⟩:=J2 e;obtain⟨l2,b,d,c⟩:=OV.split (t:=x) h;refine⟨a::(k.more++(l++l2)),b++r,by rw[OV.Dc,g,d];simp[C0],fun n=>by rw[OV.KQ e,OV.Dc,f,c];simp[C0]⟩
 | j::p,.tp xs,h=>by
  rw[OV.O5] at h;cases e:xs[j]? with
  | none=>rw[e] at h;cases h
  | some x=>
   rw[e] at h;obtain⟨l,r,g,f⟩:=J2 e;obtain⟨l2,b,d,c⟩:=OV.split (t:=x) h;refine⟨l++l2,b++r,by rw[OV.IM,g,d];simp[C0],fun n=>by rw[OV.RD e,OV.IM,f,c];simp[C0]⟩
 | j::p,.fz q,h=>by rw[OV.at] at h;cases h
theorem BH.get {F H:Hp}{vs:List V}{ts:List OV}{j:Nat}{t:OV}(r:BH F H vs ts)(e:ts[j]?=some t):∃v,vs[j]?=some v/\BG F H v t:=by
 induction ts generalizing vs j with
 | nil=>cases e
 | cons q ps c=>
  obtain⟨v,ws,rfl,a,b⟩:=r.inv;cases j with
  | zero=>cases e;exact⟨_,rfl,a⟩
  | succ j=>exact c (vs:=ws) (j:=j) b e
theorem BH.append {xs ys:List OV}(r:BH F H vs xs)(s:BH F H ws ys):BH F H (vs++ws) (xs++ys):=by
 induction xs generalizing vs with
 | nil=>cases r.Dy;exact s
 | cons p ps c=>obtain⟨v,us,rfl,a,b⟩:=r.inv;exact .cons a (c b)
theorem BH.one (r:BG F H v t):BH F H [v] [t]:=.cons r .nil
theorem ZDt (r:AV F vs xs):BH F H vs (xs.map .fz):=by
 induction xs generalizing vs with
 | nil=>cases r.Dy;exact .nil
 | cons p ps c=>obtain⟨v,us,rfl,a,b⟩:=r.inv;exact .cons (.fz a) (c b)
theorem BH.fzs (r:BH F H vs (xs.map .fz)):AV F vs xs:=by
 induction xs generalizing vs with
 | nil=>cases r.Dy;exact .nil
 | cons p ps c=>obtain⟨v,us,rfl,a,b⟩:=r.inv;exact .cons a.inv (c b)
theorem YA:∀(xs:List PV),OV.Ao (xs.map .fz)=[]
 | []=>by rw[Tu,OV.Ao]
 | x::r=>by rw[Bp,OV.Cp,OV.Hm,YA r];rfl
theorem BH.set {xs:List OV}(j:Nat)(r:BH F H vs xs)(q:BG F H v t):BH F H (vs.set j v) (xs.set j t):=by
 induction xs generalizing vs j with
 | nil=>cases r.Dy;exact .nil
 | cons p ps c=>
  obtain⟨u,us,rfl,a,b⟩:=r.inv;cases j with
  | zero=>exact .cons q b
  | succ j=>exact .cons a (c j b)
theorem BH.swap {xs:List OV}(r:BH F H vs xs)(h:xs[j]?=some x)(f:vs[j]?=some v)(e:∀l r,OV.Ao xs=l++x.addrs++r->(∀z:OV,OV.Ao (xs.set j z)=l++z.addrs++r)->∀b∈l++r,∀o,H b=some o->H' b=some o)(g:BG F H' v y):BH F H' vs (xs.set j y):=by
 induction xs generalizing vs j with
 | nil=>cases h
 | cons p ps m=>
  obtain⟨u,us,rfl,a,b⟩:=r.inv;cases j with
  | zero=>
   cases h;cases f;refine .cons g (b.mono (AB.refl _) fun c d o=>e [] (OV.Ao ps) (by rw[OV.Cp];rfl) (fun z=>by rw[b9,OV.Cp];rfl) c d o)
  | succ j=>
   rw[Tv];obtain⟨l,q,s,n⟩:=J2 (xs:=ps) (j:=j) h;refine .cons (a.mono (AB.refl _) fun c d o=>e (p.addrs++l) q (by rw[OV.Cp,s,C0,C0,C0]) (fun z=>by rw[Tv,OV.Cp,n,C0,C0,C0]) c (Hr _ (Hr _ d)) o) (m (vs:=us) (j:=j) b h f fun k i Cv C7 c d o=>?_);refine e (p.addrs++k) i (by rw[OV.Cp,Cv,C0,C0,C0]) (fun z=>by rw[Tv,OV.Cp,C7,C0,C0,C0]) c ?_ o;rcases List.mem_append.mp d with hz | hz
   ·exact Hr _ (FY _ hz)
   ·exact FY _ hz
theorem BG.at {F H:Hp}{u:OV}:∀{p:List Nat}{t:OV}{v:V},BG F H v t->t.at p=some u->∃w,BG F H w u/\∀(H':Hp) (n:OV),BG F H' w n->(∀l r,t.addrs=l++u.addrs++r->(∀n:OV,(t.put p n).addrs=l++n.addrs++r)->∀b∈l++r,∀o,H b=some o->H' b=some o)->BG F H' v (t.put p n)
 | [],t,v,h,e=>by rw[OV.Ig] at e;cases e;exact⟨v,h,fun H' n r _=>by rw[OV.Fj];exact r⟩
 | j::p,.fz q,v,h,e=>by rw[OV.at] at e;cases e
 | j::p,.nd k a xs,_,.nd h sd ft r,e=>by
  rw[OV.LC] at e;cases ex:xs[j]? with
  | none=>rw[ex] at e;cases e
  | some x=>
   rw[ex] at e;obtain⟨I,Vs,C⟩:=r.get ex;obtain⟨w,d,go⟩:=BG.at (t:=x) C e;refine⟨w,d,fun H' n B y=>?_⟩;obtain⟨l2,A,G,E⟩:=OV.split e;have i:∀l r,OV.Ao xs=l++x.addrs++r->(∀z:OV,OV.Ao (xs.set j z)=l++z.addrs++r)->∀b,b∈(a::(k.more++(l++l2)))++(A++r)->∀o,H b=some o->H' b=some o:=fun l r s m b c o=>
    y (a::(k.more++(l++l2))) (A++r) (by rw[OV.Dc,s,G];simp[C0]) (fun n=>by rw[OV.KQ ex,OV.Dc,m,E];simp[C0]) b c o
   obtain⟨l,q,s,m⟩:=J2 ex;rw[OV.KQ ex];refine .nd (i l q s m a (by simp) _ h) (NK.eP sd fun b c=>i l q s m b (by simp[c])) ft ?_;refine r.swap ex Vs (fun g f Cv C7 b c o=>i g f Cv C7 b (by rcases List.mem_append.mp c with hz | hz <;> simp[hz]) o) ?_
   refine go H' n B fun g f g1 D b c o=>?_;refine y (a::(k.more++(l++g))) (f++q) (by rw[OV.Dc,s,g1];simp[C0]) (fun n=>by rw[OV.KQ ex,OV.Dc,m,D];simp[C0]) b (by rcases List.mem_append.mp c with hz | hz <;> simp[hz]) o
 | j::p,.tp xs,_,.tp h r,e=>by
  rw[OV.O5] at e;cases ex:xs[j]? with
  | none=>rw[ex] at e;cases e
  | some x=>
   rw[ex] at e;obtain⟨I,Vs,C⟩:=r.get ex;obtain⟨w,d,go⟩:=BG.at (t:=x) C e;refine⟨w,d,fun H' n B y=>?_⟩;obtain⟨l2,A,G,E⟩:=OV.split e;obtain⟨l,q,s,m⟩:=J2 ex;rw[OV.RD ex];refine .tp h (r.swap ex Vs (fun g f Cv C7 b c o=>?_) (go H' n B fun g f g1 D b c o=>?_))
   ·exact y (g++l2) (A++f) (by rw[OV.IM,Cv,G];simp[C0]) (fun n=>by rw[OV.RD ex,OV.IM,C7,E];simp[C0]) b (by rcases List.mem_append.mp c with hz | hz <;> simp[hz]) o
   ·exact y (l++g) (f++q) (by rw[OV.IM,s,g1];simp[C0]) (fun n=>by rw[OV.RD ex,OV.IM,m,D];simp[C0]) b (by rcases List.mem_append.mp c with hz | hz <;> simp[hz]) o
theorem Qc {l u r n:List Addr}(h:(l++u++r).Nodup)(hn:n.Nodup)(hd:∀b∈n,b∈u∨b∉l++u++r):(l++n++r).Nodup:=by
 rw[Cu] at h ⊢;obtain⟨h1,h2,f⟩:=h;rw[Cu] at h1 ⊢;obtain⟨i,j,g⟩:=h1;refine⟨⟨i,hn,fun a c b d e=>?_⟩,h2,fun a c b d e=>?_⟩
 ·subst e;rcases hd a d with z | z
  ·exact g a c a z rfl
  ·exact z (by simp[c])
 ·subst e;rcases List.mem_append.mp c with c | c
  ·exact f a (by simp[c]) a d rfl
  ·rcases hd a c with z | z
   ·exact f a (by simp[z]) a d rfl
   ·exact z (by simp[d])
theorem Sg.Zy (S:Sg E ss σ F H){k:NK}{xs:List OV}{ho:HO}{lt:Bool}(hi:ss[i]?=some (.ow lt t))(B0:t.at p=some (.nd k a xs))(hn:BG F (upd H a ho) (.ref a) n)(nd:n.addrs.Nodup)
  (B:∀b∈n.addrs,b∈(OV.nd k a xs).addrs∨(F b=none/\E.H0 b=none/\∀(j:Nat) s,ss[j]?=some s->¬ Bc s σ[j]? b)):Sg E (ss.set i (.ow lt (t.put p n))) σ F (upd H a ho):=by
 obtain⟨v,e,r,Uy,q⟩:=S.ok i _ hi;obtain⟨l,K,g,C⟩:=OV.split B0;have f:a∈(OV.nd k a xs).addrs:=by rw[OV.Dc];simp
 have u:∀b∈(OV.nd k a xs).addrs,b∈t.addrs:=fun b c=>by rw[g];simp[c]
 have R:∀b∈n.addrs,b∈(OV.nd k a xs).addrs∨b∉t.addrs:=fun b c=>(B b c).imp id fun z m=>z.2.2 i _ hi m;obtain⟨w,x,go⟩:=r.at B0;have M:w=.ref a:=by cases x;rfl
 subst M;have h:∀(j:Nat) s,(ss.set i .any)[j]?=some s->∀b,b∈t.addrs->¬ Bc s σ[j]? b:=fun j s d b c m=>by
  by_cases z:j=i
  ·subst z;rw[Cm (List.getElem?_eq_some_iff.mp hi).1] at d;cases d;cases m
  ·rw[CL (B9 z)] at d;exact S.CH j i s _ b z d hi m c
 have Q:=(S.drop i).Zw (o:=ho) (q a (u a f)).1 ((q a (u a f)).2.imp id fun z=>z.2) fun j s d=>h j s d a (u a f);have G:=Uy;rw[g,Cu,Cu] at G;obtain⟨⟨_,_,O⟩,_,N⟩:=G;have P:∀b,b∈l++K->b≠a:=fun b c z=>by
  subst z;rcases List.mem_append.mp c with c | c
  ·exact O b c b f rfl
  ·exact N b (by simp[f]) b c rfl
 have L:BG F (upd H a ho) v (t.put p n):=go _ n hn fun U T g1 V b c o A=>by
  rw[AX ?_];exact A;rintro rfl;have D:=Uy;rw[g1,Cu,Cu] at D;obtain⟨⟨_,_,c1⟩,_,c2⟩:=D;rcases List.mem_append.mp c with c | c
  ·exact c1 b c b f rfl
  ·exact c2 b (by simp[f]) b c rfl
 have I:∀b∈(t.put p n).addrs,b∈t.addrs∨(F b=none/\E.H0 b=none/\∀(j:Nat) s,ss[j]?=some s->¬ Bc s σ[j]? b):=fun b c=>by
  rw[C] at c;rcases List.mem_append.mp c with c | c
  ·rcases List.mem_append.mp c with c | c
   ·exact .inl (by rw[g];simp[c])
   ·exact(B b c).imp (u b) id
  ·exact .inl (by rw[g];simp[c])
 have J:=Q.setG (j:=i) (s:=.ow lt (t.put p n)) (v:=v) ⟨v,rfl,L,by rw[C];exact Qc (g▸Uy) nd fun b c=>(R b c).imp id (by rw[g];exact id),fun b c=>(I b c).elim (q b) fun z=>⟨z.1,.inl z.2.1⟩⟩ fun b c j s d y m=>by
  rcases I b c with z | z
  ·exact h j s y b z m
  ·rw[CL (B9 d)] at y;exact z.2.2 j s y m
 rw[P6 e,Tw] at J;exact J
structure Wl [Xw] (ss:List Slot) (i:Nat) (t:OV) (te:TE) (k:List Nat->OV->Prop):Prop where
 hi:∃lt,ss[i]?=some (.ow lt t)
 go:∀(E:Ent) (σ:L2.St) (F H:Hp) (Q:VK),Sg E ss σ F H->(∀v p u F' H',Mv E ss σ F H F' H'->BG F' H' v u->t.at p=some u->k p u->Q v H')->te σ H Q
def Dk:List Nat->List Slot->List Slot
 | [],ss=>ss
 | i::m,ss=>Dk m (ss.set i .any)
structure Wx [Xw] (ss:List Slot) (te:TE) (k:List Nat->OV->Prop):Prop where
 go:∀(E:Ent) (σ:L2.St) (F H:Hp) (Q:VK),Sg E ss σ F H->(∀v m u F' H',Mv E ss σ F H F' H'->BG F' H' v u->u.addrs.Nodup->(∀a∈u.addrs,F' a=none/\E.H0 a=none/\((∃i∈m,∃s,s≠Slot.AM/\ss[i]?=some s/\Bc s σ[i]? a)∨H a=none))->k m u->Q v H')->te σ H Q
structure Ng [Xw] (ss:List Slot) (te:TA) (k:List Nat->List OV->Prop):Prop where
 go:∀(E:Ent) (σ:L2.St) (F H:Hp) (Q:List V->Hp->Prop),Sg E ss σ F H->(∀vs m us F' H',Mv E ss σ F H F' H'->BH F' H' vs us->(OV.Ao us).Nodup->(∀a∈OV.Ao us,F' a=none/\E.H0 a=none/\((∃i∈m,∃s,s≠Slot.AM/\ss[i]?=some s/\Bc s σ[i]? a)∨H a=none))->k m us->Q vs H')->te σ H Q
section
variable [Xw]
variable {K:ZHP}{k:PV->Prop}
theorem OV.Ku (h:t.at p=some u):∀a∈u.addrs,a∈t.addrs:=fun a b=>by
 obtain⟨l,r,e,_⟩:=OV.split h;rw[e];simp[b]
theorem BG.mv (r:BG F H v u)(S:Sg E ss σ F H)(hi:∃lt,ss[i]?=some (.ow lt t))(h:t.at p=some u)(m:Mv E ss σ F H F' H'):BG F' H' v u:=
 r.mono m.ff fun a b o e=>m.hh a o (S.Td hi.choose_spec (OV.Ku h a b) (by simp)) e
theorem DE {lt:Bool}{k:List Nat->OV->Prop}(hi:ss[i]?=some (.ow lt t))(a:k [] t):Wl ss i t (BD i) k:=⟨⟨lt,hi⟩,fun E σ F H Q S q=>by
 obtain⟨v,e,r,_,_⟩:=S.ok i _ hi;exact⟨v,e,q v [] t F H (.refl S) r OV.Ig a⟩⟩
theorem Pt {k:List Nat->OV->Prop}(h:Wl ss i t ta fun p u=>∃a xs,u=.nd .lst a xs/\Wp ss tb fun q=>∃(j:Int) (n:Nat) (w:OV),q=.int j/\Fl xs.length j=some n/\xs[n]?=some w/\k (p++[n]) w):Wl ss i t (CD (TR K) ta tb) k:=⟨h.hi,fun E σ F H Q S q=>
 h.go E σ F H _ S fun v p u F1 H1 b m h1 ⟨a,xs,r,h2⟩=>h2.go E σ F1 H1 _ b.st fun s p2 F2 H2 d l ⟨j,n,w,e,hn,hw,kk⟩=>by
  subst e;cases l.inv;have g:=m.mv b.st h.hi h1 d;subst r;obtain⟨_,rfl,o,y,z,c⟩:=g.inv;obtain⟨x,hx,f⟩:=c.get hw;refine⟨a,_,j,x,rfl,rfl,AN.of o,?_,q x (p++[n]) w F2 H2 (b.trans d) f (OV.Mg h1 (by rw[OV.LC,hw];exact OV.Ig)) kk⟩;unfold L2.Bs;rw[c.length,hn];exact hx⟩
theorem Sw {k:List Nat->OV->Prop}(h:Wl ss i t ta fun p u=>∃xs,u=.tp xs/\Wp ss tb fun q=>∃(j:Int) (n:Nat) (w:OV),q=.int j/\Fl xs.length j=some n/\xs[n]?=some w/\k (p++[n]) w):Wl ss i t (CD (NC K) ta tb) k:=⟨h.hi,fun E σ F H Q S q=>
 h.go E σ F H _ S fun v p u F1 H1 b l h1 ⟨xs,o,h2⟩=>h2.go E σ F1 H1 _ b.st fun r p2 F2 H2 a g ⟨j,n,w,e,hn,hw,kk⟩=>by
  subst e;cases g.inv;have f:=l.mv b.st h.hi h1 a;subst o;obtain⟨_,_,rfl,m,c⟩:=f.inv;obtain⟨x,hx,d⟩:=c.get hw;refine⟨_,_,j,x,rfl,rfl,AU.of (a.st.fh _ _ m),?_,q x (p++[n]) w F2 H2 (b.trans a) d (OV.Mg h1 (by rw[OV.O5,hw];exact OV.Ig)) kk⟩;unfold L2.Bs;rw[c.length,hn];exact hx⟩
theorem D3 (h:Wl ss i t te fun _ u=>∃p,u=.fz p/\k p):Wp ss te k:=⟨fun E σ F H Q S q=>
 h.go E σ F H _ S fun v p u F1 H1 b a h1 AK=>by obtain⟨p,c,kk⟩:=AK;subst c;cases a with | fz r=>exact q v p F1 H1 b r kk⟩
theorem De {k:List Nat->OV->Prop}(h:Wp ss te fun p=>k [] (.fz p)):Wx ss te k:=⟨fun E σ F H Q S q=>
 h.go E σ F H _ S fun v p F1 H1 c r kk=>q v [] (.fz p) F1 H1 c (.fz r) (by rw[OV.Hm];exact QH) (fun a b=>by rw[OV.Hm] at b;cases b) kk⟩
theorem Zl {k:List Nat->List OV->Prop}(h:k [] []):Ng ss BM k:=⟨fun E σ F H Q S q=>q _ [] [] F H (.refl S) .nil (by rw[OV.Ik];exact QH) (fun a b=>by rw[OV.Ik] at b;cases b) h⟩
theorem nr {k:List Nat->OV->Prop}(hi:ss[i]?=some (.ow false t))(h:k [i] t):Wx ss (BD i) k:=⟨fun E σ F H Q S q=>by
 obtain⟨v,e,r,nd,c⟩:=S.ok i _ hi;refine⟨_,e,q v [i] t F H (.refl S) r nd (fun a b=>⟨(c a b).1,?_,.inl ⟨i,by simp,_,by simp,hi,b⟩⟩) h⟩;exact(c a b).2.elim id fun z=>by cases z.1⟩
theorem Wx.zA (S:Sg E ss σ F H)(h:(∃i∈m,∃s,s≠Slot.AM/\ss[i]?=some s/\Bc s σ[i]? a)∨H a=none):D2 ss σ a:=by
 rcases h with⟨j,_,s,c,b,o⟩|z
 ·exact S.Td b o c
 ·exact S.PY z
theorem Mv.ZEB (m:Mv E ss σ F H F' H')(h:F a=Option.none)(h2:H a≠Option.none):F' a=Option.none:=by
 cases e:F' a with
 | none=>rfl
 | some o=>
  rcases m.nn a o e with z | z
  ·rw[h] at z;cases z
  ·exact absurd z h2
theorem IG {k:List Nat->List OV->Prop}(h:Wx ss te fun m u=>Ng ss tr fun d us=>(∀i∈m,i∉d)/\k (m++d) (u::us)):Ng ss (Ag te tr) k:=⟨fun E σ F H Q S q=>
 h.go E σ F H _ S fun v m u F1 H1 n l HM r h2=>h2.go E σ F1 H1 _ n.st fun vs A us F2 H2 d B Pz x AK=>by
  obtain⟨I,kk⟩:=AK;have np:∀a∈u.addrs,D2 ss σ a:=fun a c=>Wx.zA S (r a c).2.2;refine q (v::vs) (m++A) (u::us) F2 H2 (n.trans d) (.cons (l.mono d.ff fun a c o e=>d.hh a o (np a c) e) B) ?_ (fun a c=>?_) kk
  ·rw[OV.Cp,Cu];refine⟨HM,Pz,fun a c b G e=>?_⟩;subst e;rcases(x a G).2.2 with⟨C,y,s2,K,CK,t⟩|z
   ·rcases(r a c).2.2 with⟨j,g,s,J,D,o⟩|z
    ·exact S.CH j C s s2 a (by rintro rfl;exact I j g y) D CK o t
    ·exact S.EL CK t z
   ·exact l.there a c z
  ·rw[OV.Cp] at c;rcases List.mem_append.mp c with c | c
   ·obtain⟨f,p,w⟩:=r a c;exact⟨d.ZEB f (l.there a c),p,w.imp (fun DM=>by obtain⟨j,g,z⟩:=DM;exact⟨j,by simp[g],z⟩) id⟩
   ·obtain⟨f,p,w⟩:=x a c;exact⟨f,p,w.imp (fun Z8=>by obtain⟨j,g,z⟩:=Z8;exact⟨j,by simp[g],z⟩) n.none⟩⟩
theorem ZBt {k:List Nat->OV->Prop}(h:Ng ss tr fun m us=>us.length<=100000/\∀l,k m (.nd .lst l us)):Wx ss (Ta tr) k:=⟨fun E σ F H Q S q=>
 h.go E σ F H _ S fun vs m us F1 H1 c g HM s AK=>by obtain⟨n,kk⟩:=AK;exact⟨small (by rw[g.length];exact n),fun p d=>by
  have i:=c.st.make d (.lst vs);have j:p∉OV.Ao us:=fun b=>g.there _ b d;refine q _ m (.nd .lst p us) _ _ (c.trans i) (.nd (k:=.lst) AO trivial trivial (g.mono i.ff fun a b o e=>by rw[AX (by rintro rfl;exact j b)];exact e)) ?_ (fun a b=>?_) (kk p)
  ·rw[OV.Dc];exact List.nodup_cons.mpr ⟨j,HM⟩
  ·rw[OV.Dc] at b;rcases List.mem_cons.mp b with e | b
   ·subst e;exact⟨c.st.CA d,c.st.EO d,.inr (c.none d)⟩
   ·obtain⟨f,r,w⟩:=s a b;exact⟨f,r,w⟩⟩⟩
theorem Py {j:Nat}{s:Slot}:∀{m:List Nat}{ss:List Slot},(Dk m ss)[j]?=some s->s=.any∨(ss[j]?=some s/\j∉m)
 | [],ss,h=>.inr ⟨h,by simp⟩
 | i::m,ss,h=>by
  rcases Py (m:=m) (ss:=ss.set i .any) h with e | ⟨e,hm⟩
  ·exact .inl e
  ·by_cases q:j=i
   ·subst q;have a:j<ss.length:=by have:=(List.getElem?_eq_some_iff.mp e).1;simpa using this
    rw[Cm a] at e;exact .inl (Bj e).symm
   ·rw[CL (B9 q)] at e;exact .inr ⟨e,by simp[q,hm]⟩
theorem Sg.Dk {E:Ent0}{σ:L2.St}{F H:Hp}:∀(m:List Nat){ss:List Slot},Sg E ss σ F H->Sg E (Fz.Dk m ss) σ F H
 | [],_,S=>S
 | i::m,_,S=>Sg.Dk m (S.drop i)
theorem Sg.jN (S0:Sg E ss σ F0 H0)(S:Sg E ss σ F H)(r:BG F H v u)(nd:u.addrs.Nodup)(c:∀a∈u.addrs,F a=none/\E.H0 a=none/\((∃i∈m,∃s,s≠Slot.AM/\ss[i]?=some s/\Bc s σ[i]? a)∨H0 a=none)):
  Sg E ((Fz.Dk m ss).set j (.ow false u)) (σ.set j (some v)) F H:=by
 refine(S.Dk m).setG ⟨v,rfl,r,nd,fun a b=>⟨(c a b).1,.inl (c a b).2.1⟩⟩ fun a b i s FN g o=>?_;rcases Py g with e | ⟨EM,hm⟩
 ·subst e;cases o
 ·rcases(c a b).2.2 with⟨f,GR,s2,_,CK,d⟩|z
  ·exact S.CH i f s s2 a (by rintro rfl;exact hm GR) EM CK o d
  ·exact S0.EL EM o z
theorem UN (h:Wx ss te fun m u=>nx ((Fz.Dk m ss).set j (.ow false u))):Ws ss (Ea te (Cg j)) nx R:=⟨fun E D σ F H S hn c=>
 h.go E σ F H _ S fun v m u F1 H1 a r nd b kk=>hn _ _ F1 H1 kk (Sg.jN S a.st r nd b) a.ff⟩
theorem BG.rep (ff:AB F F1):∀{v:V}{t:OV},BG F H v t->(∀a∈t.addrs,∀o,H a=some o->F1 a=some o)->Rep F1 v t.pv:=by
 intro v t r h;exact BG.rec (motive_1:=fun v t _=>(∀a∈t.addrs,∀o,H a=some o->F1 a=some o)->Rep F1 v t.pv) (motive_2:=fun vs ts _=>(∀a∈OV.Ao ts,∀o,H a=some o->F1 a=some o)->AV F1 vs (OV.Cw ts))
  (fun {v p} r _=>by rw[OV.pv];exact r.mono ff)
  (fun {a vs xs} e _ c h=>by rw[OV.pv];exact .tup (ff _ _ e) (c (by rw[OV.IM] at h;exact h)))
  (fun {k a vs xs} e i g _ c h=>by
   rw[OV.Dc] at h;have f:=c fun a b=>h a (by simp[b]);have d:=h a (by simp) _ e;cases k with
   | lst=>rw[OV.pv];exact .lst d f
   | B1 ks=>rw[OV.pv];exact .B1 d g f
   | obj C dx ns=>rw[OV.pv];exact .obj d (h dx (by simp[NK.more]) _ i) g f)
  (fun _=>by rw[OV.Cw];exact .nil)
  (fun _ _ WA VE h=>by
   rw[OV.Cp] at h;rw[OV.Cw];exact .cons (WA fun a b=>h a (by simp[b])) (VE fun a b=>h a (by simp[b])))
  r h
theorem v8 {t':TS}(i:Nat)(hi:ss[i]?=some (.ow false t))(h:Ws (ss.set i (.is t.pv)) t' nx R):Ws ss t' nx R:=⟨fun E D σ F H S hn k=>by
 obtain⟨v,e,r,nd,f⟩:=S.ok i _ hi;obtain⟨S1,g⟩:=(S.drop i).lay t.addrs (fun a b=>⟨(f a b).1,(f a b).2.elim id (fun z=>by cases z.1),r.there a b⟩) fun a b j s c m=>by
  by_cases q:j=i
  ·subst q;rw[Cm (List.getElem?_eq_some_iff.mp hi).1] at c;cases c;cases m
  ·rw[CL (B9 q)] at c;exact S.CH j i s _ a q c hi m b
 have d:=S1.FQ (j:=i) (v:=v) (p:=t.pv) (r.rep g fun a b o ho=>by unfold CB;rw[pQ b];exact ho);rw[P6 e,Tw] at d;exact h.go E D σ _ H d (fun DU σ2 F2 H2 n d s2=>hn DU σ2 F2 H2 n d (g.trans s2)) k⟩
variable {lt:Bool}
theorem T5:(OV.nd .lst a us).addrs=a::OV.Ao us:=by rw[OV.Dc];rfl
theorem PD:∀(us ws:List OV),OV.Ao (us++ws)=OV.Ao us++OV.Ao ws
 | [],ws=>by rw[b6,OV.Ik,b6]
 | u::us,ws=>by rw[ai,OV.Cp,OV.Cp,PD us ws,C0]
theorem TJ (u:OV):OV.Ao [u]=u.addrs:=by rw[OV.Cp,OV.Ik,El]
theorem Sg.y9 {us':List OV}(S0:Sg E ss σ F0 H0)(S:Sg E ss σ F H)(hi:ss[i]?=some (.ow lt t))(B0:t.at p=some (.nd .lst a us))
  (d:∀a∈u.addrs,F a=none/\E.H0 a=none/\((∃i∈m,∃s,s≠Slot.AM/\ss[i]?=some s/\Bc s σ[i]? a)∨H0 a=none)) (Fi:i∉m)
  (I:BH F H Bv us') (OM:(OV.Ao us').Nodup) (JY:∀b∈OV.Ao us',b∈OV.Ao us∨b∈u.addrs):Sg E ((Fz.Dk m ss).set i (.ow lt (t.put p (.nd .lst a us')))) σ F (upd H a (.lst Bv)):=by
 have M:(Fz.Dk m ss)[i]?=some (.ow lt t):=by
  have n:∀(m:List Nat) (ss:List Slot),ss[i]?=some (.ow lt t)->i∉m->(Fz.Dk m ss)[i]?=some (.ow lt t):=by
   intro m
   induction m with
   | nil=>intro ss h _;exact h
   | cons j m D=>
    intro ss h f;refine D _ ?_ fun z=>f (by simp[z]);rw[CL (by rintro rfl;exact f (by simp))];exact h
  exact n m ss hi Fi
 obtain⟨v,e,r,nd,q⟩:=S.ok i _ hi;have B:∀b,b∈a::OV.Ao us->b∈t.addrs:=fun b c=>OV.Ku B0 b (by rw[T5];exact c);have L:∀b∈u.addrs,b∉t.addrs:=fun b c z=>by
  rcases(d b c).2.2 with⟨j,J,s,_,g,o⟩|w
  ·exact S.CH j i s _ b (by rintro rfl;exact Fi J) g hi o z
  ·exact S0.EL hi z w
 have A:(OV.nd .lst a us).addrs.Nodup:=by
  obtain⟨l,N,K,_⟩:=OV.split B0;rw[K,Cu,Cu] at nd;exact nd.1.2.1
 rw[T5] at A;have x:∀b∈OV.Ao us',b≠a:=fun b c z=>by
  subst z;rcases JY b c with w | w
  ·exact(List.nodup_cons.mp A).1 w
  ·exact L b w (B b (by simp))
 refine(S.Dk m).Zy M B0 (.nd (k:=.lst) AO trivial trivial (I.mono (AB.refl _) fun b c o ho=>by rw[AX (x b c)];exact ho)) (by rw[T5];exact List.nodup_cons.mpr ⟨fun z=>x a z rfl,OM⟩) fun b c=>?_;rw[T5] at c ⊢;rcases List.mem_cons.mp c with w | w
 ·exact .inl (by simp[w])
 ·rcases JY b w with z | z
  ·exact .inl (by simp[z])
  ·refine .inr ⟨(d b z).1,(d b z).2.1,fun j s g o=>?_⟩;rcases Py g with y | ⟨EM,f⟩
   ·subst y;cases o
   ·rcases(d b z).2.2 with⟨G,GR,s2,_,CK,C⟩|y
    ·exact S.CH j G s s2 b (by rintro rfl;exact f GR) EM CK o C
    ·exact S0.EL EM o y
theorem oK {k:OV->Prop}(h:Wx ss te fun _ u=>k u):Ws ss (Fp te) nx (.ow k):=⟨fun E D σ F H S hn e=>
 h.go E σ F H _ S fun v m u F1 H1 d r nd b kk=>e v F1 H1 d.st.toFin ⟨u,r,nd,fun a c=>⟨(b a c).1,(b a c).2.1⟩,kk⟩⟩
end
def ptr (a:Addr):Hp->V->Prop:=fun _ v=>v=.ref a
section
variable [Xw]
variable {K:ZHP}{k:PV->Prop}{lt:Bool}
theorem Sg.vG (S:Sg E ss σ F H)(hi:ss[i]?=some (.ow lt t))(B0:t.at p=some (.nd .lst a (ps.map .fz)))(e:AV F Bv ky):Sg E (ss.set i (.ow lt (t.put p (.nd .lst a (ky.map .fz))))) σ F (upd H a (.lst Bv)):=
 Sg.y9 (m:=[]) (u:=.fz .A8) S S hi B0 (fun a d=>by rw[OV.Hm] at d;cases d) (by simp) (ZDt e) (by rw[YA];exact QH) fun b c=>by rw[YA] at c;cases c
theorem Sg.ZA7 (S:Sg E ss σ F H)(hi:ss[i]?=some (.ow lt t))(B0:t.at p=some (.nd .lst a (ps.map .fz))):∃vs,H a=some (.lst vs)/\AV F vs ps:=by
 obtain⟨v,e,r,_,_⟩:=S.ok i _ hi;obtain⟨w,b,_⟩:=r.at B0;obtain⟨_,rfl,d,_,_,c⟩:=b.inv;exact⟨_,d,c.fzs⟩
theorem IJ {k:List Nat->OV->Prop}{nk:NK}(g:ss[j]?=some (.raw (ptr a)))(hi:ss[i]?=some (.ow lt t))(B0:t.at p=some (.nd nk a us))(f:k p (.nd nk a us)):Wl ss i t (BD j) k:=⟨⟨lt,hi⟩,fun E σ F H Q S q=>by
 obtain⟨v,e,c,_⟩:=S.ok j _ g;obtain⟨l,m,d,_,_⟩:=S.ok i _ hi;obtain⟨w,b,_⟩:=d.at B0;have h:w=.ref a:=by cases b;rfl
 subst h;cases(show v=.ref a from c);exact⟨_,e,q _ p _ F H (.refl S) b B0 f⟩⟩
theorem vp (h:Wp ss te fun q=>Wl ss i t ta fun p u=>∃(lt:Bool) (a:Addr) (ps:List PV),ss[i]?=some (.ow lt t)/\u=.nd .lst a (ps.map .fz)/\Wp ss ti fun l=>∃n:Nat,l=.int n/\n<ps.length/\nx (ss.set i (.ow lt (t.put p (.nd .lst a ((ps.set n q).map .fz)))))):Ws ss (Ea te (Sr ta ti XH)) nx R:=⟨fun E D σ F H S hn z=>
 h.go E σ F H _ S fun v q F1 H1 e g h2=>h2.go E σ F1 H1 _ e.st fun f p u F2 H2 c k B0 ⟨lt,a,ps,hi,s,o⟩=>by
  subst s;have r:f=.ref a:=by cases k;rfl
  subst r;refine o.go E σ F2 H2 _ c.st fun x y F3 H3 b j ⟨n,w,Q5,kk⟩=>?_;subst w;cases j;obtain⟨vs,m,d⟩:=b.st.ZA7 hi B0;refine⟨a,vs,_,n,rfl,rfl,m,N1 (by rw[d.length];exact Q5),?_⟩;exact hn _ σ F3 _ kk (b.st.vG hi B0 (d.set n (g.mono (c.ff.trans b.ff)))) (e.ff.trans (c.ff.trans b.ff))⟩
theorem pM {m n:Nat}(h:m<n):seqIndex? (m:Int) n=some m:=by
 unfold seqIndex?;simp;omega
theorem AV.erase {F:Hp}:∀{vs:List V}{xs:List PV}(n:Nat),AV F vs xs->AV F (vs.eraseIdx n) (xs.eraseIdx n)
 | _,_,_,.nil=>.nil
 | _,_,0,.cons _ t=>t
 | _,_,n+1,.cons r t=>.cons r (AV.erase n t)
end
def C2:List Slot->L2.St->List Addr
 | .own _::ss,some (.ref l)::σ=>l::C2 ss σ
 | .ow _ t::ss,_::σ=>t.addrs++C2 ss σ
 | _::ss,_::σ=>C2 ss σ
 | _,_=>[]
theorem kC:∀{ss:List Slot}{σ:L2.St} {a:Addr},a∈C2 ss σ->∃(i:Nat) (s:Slot),ss[i]?=some s/\s≠.AM/\Bc s σ[i]? a
 | [],σ,a,h=>by simp[C2] at h
 | s::ss,[],a,h=>by cases s <;> simp[C2] at h
 | s::ss,o::σ,a,h=>by
  have up:a∈C2 ss σ->∃(i:Nat) (s':Slot),(s::ss)[i]?=some s'/\s'≠.AM/\Bc s' (o::σ)[i]? a:=fun h=>by
   obtain⟨i,s',h1,h2,b⟩:=kC h;exact⟨i+1,s',by simpa using h1,h2,by simpa using b⟩
  cases s with
  | own xs=>
   cases o with
   | none=>exact up (by simpa[C2] using h)
   | some v=>
    cases v with
    | ref l=>
     rw[C2] at h;rcases List.mem_cons.mp h with e | h
     ·subst e;exact⟨0,_,rfl,by simp,rfl⟩
     ·exact up h
    | _=>exact up (by simpa[C2] using h)
  | ow lt t=>
   rw[C2] at h;rcases List.mem_append.mp h with h | h
   ·exact⟨0,_,rfl,by simp,h⟩
   ·exact up h
  | _=>exact up (by simpa[C2] using h)
theorem la:∀{ss:List Slot}{σ:L2.St} {i:Nat}{s:Slot}{a:Addr},ss.length=σ.length->ss[i]?=some s->s≠.AM->Bc s σ[i]? a->a∈C2 ss σ
 | [],σ,i,s,a,_,h,_,_=>by simp at h
 | s0::ss,[],i,s,a,hl,_,_,_=>by simp at hl
 | s0::ss,o::σ,0,s,a,hl,h,hp,ho=>by
  simp at h;subst h;cases s0 with
  | own xs=>
   have e:o=some (.ref a):=by have:some o=some (some (V.ref a)):=ho;exact Bj this
   subst e;rw[C2];simp
  | ow lt t=>rw[C2];exact Hr _ ho
  | AM=>exact absurd rfl hp
  | _=>cases ho
 | s0::ss,o::σ,i+1,s,a,hl,h,hp,ho=>by
  have q:=la (ss:=ss) (σ:=σ) (i:=i) (a:=a) (by simpa using hl) (by simpa using h) hp (by simpa using ho)
  cases s0 with
  | own xs=>cases o with
   | none=>simpa[C2] using q
   | some v=>cases v with
    | ref l=>rw[C2];simp[q]
    | _=>simpa[C2] using q
  | ow lt t=>rw[C2];exact FY _ q
  | _=>simpa[C2] using q
mutual
theorem BG.Lx {F H:Hp}:∀{v:V}{t:OV},BG F H v t->∀a∈t.addrs,∀vs,H a≠some (.tup vs)
 | _,_,.fz _,a,ha,_=>by rw[OV.Hm] at ha;cases ha
 | _,_,.tp _ r,a,ha,vs=>by rw[OV.IM] at ha;exact BH.Lx r a ha vs
 | _,_,@BG.nd _ _ k b ws xs h sd ft r,a,ha,vs=>by
  rw[OV.Dc,Hs,Iu] at ha;rcases ha with rfl | ha | ha
  ·rw[h];cases k <;> simp[NK.ho]
  ·cases k with
   | obj C dx ns=>
    have e:a=dx:=by simpa[NK.more] using ha
    subst e;have c:H a=some (.own b):=sd;rw[c];simp
   | _=>simp[NK.more] at ha
  ·exact BH.Lx r a ha vs
theorem BH.Lx {F H:Hp}:∀{vs:List V}{ts:List OV},BH F H vs ts->∀a∈OV.Ao ts,∀ws,H a≠some (.tup ws)
 | _,_,.nil,a,ha,_=>by rw[OV.Ik] at ha;cases ha
 | _,_,.cons r t,a,ha,ws=>by
  rw[OV.Cp,Iu] at ha;rcases ha with ha | ha
  ·exact BG.Lx r a ha ws
  ·exact BH.Lx t a ha ws
end
mutual
def Fx:PV->Bool
 | .lst _=>false
 | .B1 _ _=>false
 | .obj _ _ _=>false
 | .exc _ _ _=>false
 | .tup xs=>OJ xs
 | _=>true
def OJ:List PV->Bool
 | []=>true
 | x::r=>Fx x && OJ r
end
def HG (F:Hp)(as:List Addr):Hp:=fun a=>if a∈as then none else F a
theorem Rep.sub {as:List Addr}(h:∀a∈as,∀vs,F a≠some (.tup vs)):∀{v:V}{p:PV},Rep F v p->Fx p=true->Rep (HG F as) v p:=by
 intro v p r hn;exact Rep.rec (motive_1:=fun v p _=>Fx p=true->Rep (HG F as) v p) (motive_2:=fun vs ps _=>OJ ps=true->AV (HG F as) vs ps)
  (fun _=>.A8) (fun b _=>.bl b) (fun i _=>.int i) (fun x _=>.str x)
  (fun _ _ _ z=>by simp[Fx] at z)
  (fun {a vs xs} e _ c z=>.tup (by unfold HG;rw[o5 (fun q=>h a q vs e)];exact e) (c (by simpa[Fx] using z)))
  (fun _ _ _ _ z=>by simp[Fx] at z)
  (fun _ _ _ _ _ z=>by simp[Fx] at z)
  (fun _=>.con)
  (fun _ z=>by simp[Fx] at z)
  (fun _ _ _ _ _ z=>by simp[Fx] at z)
  (fun _=>.nil)
  (fun _ _ WA VE z=>by
   rw[OJ,Df] at z;exact .cons (WA z.1) (VE z.2))
  r hn
structure Wb [Xw] (ss:List Slot) (ta:TA) (k:List PV->Prop):Prop where
 go:∀(E:Ent) (σ:L2.St) (F H:Hp) (Q:List V->Hp->Prop),Sg E ss σ F H->(∀vs ps F' H',Mv E ss σ F H F' H'->AV (CB F' H' (C2 ss σ)) vs ps->k ps->Q vs H')->ta σ H Q
theorem Sg.as (S:Sg E ss σ F H)(h:a∈C2 ss σ):F a=none/\H a≠none/\(∀vs,H a≠some (.tup vs))/\D2 ss σ a:=by
 obtain⟨i,s,b,c,ho⟩:=kC h;refine⟨S.ZCl b ho,S.EL b ho,?_,S.Td b ho c⟩;have k:=S.ok i s b;cases s with
 | own xs=>obtain⟨l,vs,e,_,_,d,_⟩:=k;rw[show σ[i]?=some (some (.ref a)) from ho] at e;cases e;rw[d];simp
 | ow lt t=>obtain⟨v,_,r,_⟩:=k;exact r.Lx a ho
 | AM=>exact absurd rfl c
 | _=>cases ho
theorem Sg.T6 (S:Sg E ss σ F H):AB F (CB F H (C2 ss σ))/\AB (CB F H (C2 ss σ)) H:=by
 refine⟨fun a o e=>?_,fun a o e=>?_⟩
 ·unfold CB;rw[o5 (fun q=>by rw[(S.as q).1] at e;cases e)];exact e
 ·unfold CB at e;split at e
  ·exact e
  ·exact S.fh a o e
theorem Sg.lend (S:Sg E ss σ F H)(r:AV (CB F H (C2 ss σ)) vs ps):Sg (E3 [] (CB F H (C2 ss σ)) H) (ps.map .is) (vs.map some) (CB F H (C2 ss σ)) H:=by
 have nn:∀{p:Prop}(a:Addr),a∈([]:List Addr)->p:=fun a h=>absurd h BJ;refine⟨⟨S.T6.2,AB.refl _,fun _ _ _ e=>e,fun _ _ e=>.inl e,fun a h=>nn a h,fun a h=>nn a h,fun a h=>nn a h,fun a h=>nn a h,fun a h=>nn a h,fun a h=>nn a h⟩,by rw[AQ,AQ,r.length],fun i s hi=>?_,fun i j s u l FN hi g c f=>?_⟩
 ·rw[BU] at hi;cases e:ps[i]? with
  | none=>rw[e] at hi;cases hi
  | some p=>
   rw[e] at hi;obtain⟨v,d,b⟩:=r.get e;have es:Slot.is p=s:=Bj hi;subst es;rw[BU,d];exact⟨v,rfl,b⟩
 ·rw[BU] at hi;cases e:ps[i]? with
  | none=>rw[e] at hi;cases hi
  | some p=>rw[e] at hi;have es:Slot.is p=s:=Bj hi;subst es;cases c
theorem Sg.z5 (S:Sg E ss σ F H)(f:Fin (E3 [] (CB F H (C2 ss σ)) H) F' H'):Mv E ss σ F H (HG F' (C2 ss σ)) H'/\∀a∈C2 ss σ,∀vs,F' a≠some (.tup vs):=by
 have kp:∀a o,H a=some o->H' a=some o:=fun a o e=>f.keep a o ⟨BJ,BJ⟩ e;refine⟨S.step (fun a o e=>?_) (fun a o e=>?_) (fun a o _ e=>kp a o e) (fun a o e=>?_) (fun i l hi e=>C5.keep (S.EV hi e) fun o e=>kp l o e),fun a c vs e=>?_⟩
 ·unfold HG;rw[o5 (fun q=>by rw[(S.as q).1] at e;cases e)];exact f.f0 a o (S.T6.1 a o e)
 ·unfold HG at e;split at e
  ·cases e
  ·exact f.fh a o e
 ·unfold HG at e;split at e
  ·cases e
  ·rename_i q;rcases f.fresh a o e with z | z
   ·left
    have b:CB F H (C2 ss σ) a=some o:=z;unfold CB at b;rw[o5 q] at b;exact b
   ·exact .inr z
 ·obtain⟨o,ho⟩:=Option.ne_none_iff_exists'.mp (S.as c).2.1;have z:F' a=some o:=f.f0 a o (by show CB F H (C2 ss σ) a=some o;unfold CB;rw[pQ c];exact ho);rw[z] at e;cases e;exact(S.as c).2.2.1 vs ho
section
variable [Xw]
variable {K:ZHP}{k:PV->Prop}{lt:Bool}{pre:Pre}
theorem ZF0 {k:List PV->Prop}(h:k []):Wb ss BM k:=⟨fun E σ F H Q S q=>q _ _ F H (.refl S) .nil h⟩
theorem ZCH {k:List PV->Prop}(h:Wp ss te fun p=>Wb ss tr fun ps=>k (p::ps)):Wb ss (Ag te tr) k:=⟨fun E σ F H Q S q=>
 h.go E σ F H _ S fun v p F1 H1 b d h2=>h2.go E σ F1 H1 _ b.st fun vs ps F2 H2 a c kk=>q _ _ F2 H2 (b.trans a) (.cons ((d.mono a.ff).mono a.st.T6.1) c) kk⟩
theorem ZCI (h:Wx ss te fun m u=>m=[]/\k u.pv):Wp ss te k:=⟨fun E σ F H Q S q=>
 h.go E σ F H _ S fun v m u F1 H1 c r nd d AK=>by
  obtain⟨l,kk⟩:=AK;subst l;have g:∀a∈u.addrs,H a=none:=fun a b=>by
   rcases(d a b).2.2 with⟨i,hi,_⟩|z
   ·cases hi
   ·exact z
  obtain⟨S1,f⟩:=c.st.lay u.addrs (fun a b=>⟨(d a b).1,(d a b).2.1,r.there a b⟩) fun a b i s j o=>S.EL j o (g a b);refine q v u.pv _ H1 ⟨S1,c.ff.trans f,c.hh,fun a o e=>?_⟩ (r.rep f fun a b o ho=>by unfold CB;rw[pQ b];exact ho) kk;unfold CB at e;split at e
  ·rename_i z;exact .inr (g a z)
  ·exact c.nn a o e⟩
end
theorem R6:∀{xs:List PV},(∀x∈xs,C6 x x=true)->DA xs xs=true
 | [],_=>by rw[DA]
 | x::r,h=>by rw[RN,h x (by simp),R6 (xs:=r) fun y a=>h y (by simp[a])];rfl
theorem ZEA {K:ZHP}:∀(d:Nat){p:PV},dat K d p->C6 p p=true:=by
 intro d
 induction d with
 | zero=>intro p h;cases p <;> first | exact h.elim | (rw[C6] <;> simp)
 | succ d b=>
  intro p h;cases p with
  | lst xs=>rw[C6];exact R6 fun x hx=>b (h x hx)
  | tup xs=>rw[C6];exact R6 fun x hx=>b (h x hx)
  | con a xs=>rw[C6];exact R6 fun x hx=>b (h.1 x hx)
  | _=>first | exact h.elim | (rw[C6] <;> simp)
theorem Zs:∀(xs:List PV),OV.Cw (xs.map .fz)=xs
 | []=>by rw[Tu,OV.Cw]
 | x::r=>by rw[Bp,OV.Cw,OV.pv,Zs r]
theorem yi (a:Addr)(xs:List PV):(OV.nd .lst a (xs.map .fz)).pv=.lst xs:=by rw[OV.pv,Zs]
end Fz
namespace L2
variable {M:Model}{A:Around}{E Q xe:Value->Shared->Prop}{s s':Shared}{base h':Heap}{env:Env}{outer:List Env}{C S a b ea f fI:Addr}{dd dx tb:Option Addr}{o:HO}{vs:Array Value}{cd head u v:Value}{oI oe ox:Obj}{w:World}{mN mg:ZHR}{N ps sn:List Str}{n name par qual x:Str}{scope:Scope}{H H':Hp}{e e0:Expr}{X:Cx}{IP r:Option Value}{E':St->XK}{Ba HL np p pos:Pos}{es:List Expr}{t:TA}{ab hdct:Bool}{prog:Program}{RY l us:List Value}{od:Option Obj}{tk:Tok}{pins pn:ZHQ}{σ:St}{j kk t':Nat}{ta te:TE}{fd:FuncData}{b0:Stmt}{IL:(St->XK)->TS}{th:TS}{sp:Sp}
structure Gk (h:Heap) (ea:Addr) (C:Value) (dx tb:Option Addr):Prop where
 obj:∃oe vs,h.get? ea=some oe/\oe.cls=C/\oe.dict=dx/\oe.data=.fields vs/\1<vs.size/\vs[1]?=some (tb.elim Value.none Value.ref)
 ent:∀T,tb=some T->T≠ea/\∃oT ts,h.get? T=some oT/\oT.data=.fields ts/\3<ts.size/\ts[3]?=some Value.none
section
variable {L:Addr}{C:Value}{Q:Unit->Shared->Prop}
theorem ZCj (o:Obj)(g:Array Value->Array Value):(o.mapFields g).dict=o.dict:=by
 obtain⟨c,d,a,sl⟩:=o;cases a <;> rfl
structure Kp (l:List Env) (ea:Addr) (tb:Option Addr) (h h':Heap):Prop where
 keep:∀b o,h.get? b=some o->b∉Ca l->b≠ea->tb≠some b->h'.get? b=some o
 slot:∀b o,h.get? b=some o->b∈Ca l->∃sl,h'.get? b=some { o with slots:=sl }
 size:h.objs.size<=h'.objs.size
theorem jY (d:s.heap.FunFrames base (env::outer)){o:Obj}(ho:s.heap.get? b=some o)(hd:o.data=.fields vs):b∉Ca (env::outer):=fun c=>by
 obtain⟨_,u,a,hn⟩:=d.mem c;rw[ho] at a;cases a;exact hn vs hd
theorem lR {more:Bool}(MT:A.frames=some (env::outer))(k:s.heap.FunFrames base (env::outer))(u:env.frame=some L)
  (l:s.heap.get? ea=some oe) (v:oe.cls=C) (Lg:oe.dict=dx) (hd:oe.data=.fields vs) (d:1<vs.size)
  (h:∀h' T,Kp (env::outer) ea none s.heap h'->s.heap.objs.size<=T->Gk h' ea C dx (some T)->Q () { s with heap:=h' }) :
  wpAny M A (do
   let fr <- frameOf env
   let pl <- entryPlaceOf L more
   let b <- EntryCells.newEntry head fr Value.none (rawInt L) Value.none pl
   setField (.ref ea) 1 b) (fun _ s'=>wpAny M A (setFlight (.ref ea) none) Q E s') E s:=by
 have n:=jY k l hd;refine nc (wpAny_frameOf_fun MT k u fun g a=>?_);refine nc (wpAny_entryPlaceOf fun pl t=>?_);unfold EntryCells.newEntry newFields;refine nc (qz ?_ (t.sizeOk5 _ _ _ _ _));generalize w:([head,Value.ref L,Value.none,rawInt L,Value.none]++(if pl.isEmpty then List.replicate 6 Value.none else pl)).toArray=ts
 have e:3<ts.size:=by
  rw[<- w];simp only[Bu,CM,CN,ax];omega
 have p:g.get? ea=some oe:=(a.2.1 ea n).trans l;have y:(g.push { cls:=.type "traceback", dict:=none,data:=.fields ts }).get? g.objs.size=some { cls:=.type "traceback", dict:=none,data:=.fields ts }:=Bl g rfl;have m:=BN (h:=g) { cls:=.type "traceback", dict:=none,data:=.fields ts } p;refine vQ m hd d ?_;have j:g.objs.size≠ea:=Hu (B8 p);have i:=Hv hd (·.setIfInBounds 1 (Value.ref g.objs.size))
 have q:=ED (Obj.mapFields (·.setIfInBounds 1 (Value.ref g.objs.size))) m (Nt i)
 have r:=(D8 (g.push { cls:=.type "traceback", dict:=none,data:=.fields ts }) (Obj.mapFields (·.setIfInBounds 1 (Value.ref g.objs.size))) (B9 j)).trans y
 unfold setFlight;refine nc (r6 q i (x:=.ref g.objs.size) (by simp[d]) ?_);rw[pQ (show(Value.ref g.objs.size != Value.none)=true from by simp)];refine vQ r rfl e (h _ g.objs.size ⟨fun b o f Zm HW _=>?_,fun b o f Mw=>?_,?_⟩ ?_ ⟨⟨_,_,?_,?_,?_,i,?_,?_⟩,fun T z=>?_⟩)
 ·have c:g.get? b=some o:=(a.2.1 b Zm).trans f;rw[D8 _ _ (Hu (B8 c)),D8 _ _ (B9 HW)];exact BN _ c
 ·obtain⟨sl,c⟩:=a.2.2 b o f;refine⟨sl,?_⟩;rw[D8 _ _ (Hu (B8 c)),D8 _ _ (by rintro rfl;exact n Mw)];exact BN _ c
 ·rw[Q9,Q9,G2,a.1];exact Dv _
 ·rw[a.1];exact Ax _
 ·rw[D8 _ _ j];exact q
 ·rw[mm];exact v
 ·rw[ZCj];exact Lg
 ·simpa using d
 ·simp[d]
 ·cases z;refine⟨j,_,_,ED _ r (Nt (Hv rfl _)),Hv rfl _,by simpa using e,?_⟩
  simp[e]
theorem Vg (MT:A.frames=some (env::outer))(e:s.heap.FunFrames base (env::outer))(f:env.frame=some L)(hx:Gk s.heap ea C dx tb)
  (h:∀h' T,Kp (env::outer) ea tb s.heap h'->s.heap.objs.size<=T->Gk h' ea C dx (some T)->Q () { s with heap:=h' }) :
  wpAny M A (noteFrame (.ref ea) env) (fun _ s'=>wpAny M A (setFlight (.ref ea) none) Q E s') E s:=by
 obtain⟨oe,vs,g,j,hd,HD,i,h1⟩:=hx.obj;unfold noteFrame;simp only[f];refine nc (r6 g HD h1 ?_);cases tb with
 | none=>
  rw[o5 (by decide)];exact lR MT e f g j hd HD i h
 | some T=>
  obtain⟨Js,p,ts,c,Gm,l,n⟩:=hx.ent T rfl;show wpAny M A (do if(Value.ref T != Value.none)=true then _ else _) _ _ _
  rw[pQ (show(Value.ref T != Value.none)=true from by simp)];refine nc (r6 c Gm n ?_);rw[o5 (show ¬ ((Value.none == rawInt L)=true) from by simp[rawInt])];refine nc (vQ c Gm l ?_);have d:∀b,b≠T->(s.heap.update T (Obj.mapFields (·.setIfInBounds 3 Value.none))).get? b=s.heap.get? b:=fun b a=>D8 _ _ (B9 a)
  have m:=jY e c Gm;refine lR (s:={ s with heap:=s.heap.update T (Obj.mapFields (·.setIfInBounds 3 Value.none)) }) MT (e.of_keeps fun b o a hn=>⟨o,(d b (by rintro rfl;rw[c] at a;cases a;exact hn ts Gm)).trans a,rfl⟩) f ((d ea (B9 Js)).trans g) j hd HD i fun h' T' k hn x=>?_
  have q:=ED (Obj.mapFields (·.setIfInBounds 3 Value.none)) c (Nt (Hv Gm _))
  refine h h' T' ⟨fun b o a Zm HW U7=>k.keep b o ((d b (by rintro rfl;exact U7 rfl)).trans a) Zm HW (by simp),fun b o a Mw=>k.slot b o ((d b (by rintro rfl;exact m Mw)).trans a) Mw,?_⟩ ?_ x
  ·have z:=k.size;rw[show(s.heap.update T (Obj.mapFields (·.setIfInBounds 3 Value.none))).objs.size=s.heap.objs.size from Q9 ..] at z
   exact z
  ·have z:=hn;rw[show(s.heap.update T (Obj.mapFields (·.setIfInBounds 3 Value.none))).objs.size=s.heap.objs.size from Q9 ..] at z
   exact z
theorem wA (MT:A.frames=some (env::outer))(a:s.heap.FunFrames base (env::outer))(b:env.frame=some L)(hx:Gk s.heap ea C dx tb)
  (h:∀h' T,Kp (env::outer) ea tb s.heap h'->s.heap.objs.size<=T->Gk h' ea C dx (some T)->Q () { s with heap:=h' }):wpAny M A (leaving env (.ref ea)) Q E s:=by
 unfold leaving;exact nc (Vg MT a b hx h)
end
def HY (P:Program)(w:World):GJ:=fun outer H s E e s'=>∃(ea C:Addr) (dx tb:Option Addr) (H':Hp),e=.ref ea/\s'.os=s.os/\AllBare s'.gens/\Un (Ca outer) [] H H' s.heap s'.heap/\Bo P w H' s'.heap/\
 Gk s'.heap ea (.ref C) dx tb/\(H' ea=none/\s.heap.get? ea=none)/\(∀T,tb=some T->H' T=none/\s.heap.get? T=none)/\E (.ref C) dx H'
def ZO (X:Cx)(E:XK)(e:Value)(s':Shared):Prop:=∃(pins:ZHQ) (σ:St) (H':Hp) (ea C:Addr) (dx tb:Option Addr),e=.ref ea/\Inv X pins σ H' s'/\
 Gk s'.heap ea (.ref C) dx tb/\(H' ea=none/\X.s₀.heap.get? ea=none)/\(∀T,tb=some T->H' T=none/\X.s₀.heap.get? T=none)/\E (.ref C) dx H'
section
variable {P:Program}{K:ZHP}{E:XK}
theorem Bo.jo {h:Heap}(ok:Bo P w H' h)(k:∀b u,H' b≠none->h.get? b=some u->h'.get? b=some u):Bo P w H' h':=fun a o e=>
 (ok a o e).Gf (fun b u c d=>k b u (by rcases c with rfl | c;(rw[e];simp);(rw[c];simp)) d) (fun _ z=>z) fun _ _ z=>z
theorem ZO.leave {e:Value}(r:ZO (EI (HY P w) P w K mg base N qual scope f cd A outer s H E) E e s'):(EI (HY P w) P w K mg base N qual scope f cd A outer s H E).xe e s':=by
 obtain⟨pins,σ,H',ea,C,dx,tb,rfl,I,x,⟨h,g⟩,d,m⟩:=r;have n:=I.ok.frames
 change s.heap.get? ea=none at g
 have d:∀T,tb=some T->H' T=none/\s.heap.get? T=none:=d;refine wA (outer:=outer) (L:=s.heap.objs.size) n I.stack rfl x fun h' T kp j k=>?_;have l:∀b o,s.heap.get? b=some o->b≠s.heap.objs.size:=fun b o a=>Bm (B8 a);have mem:∀b,b∈Ca (envOfC qual scope s.heap.objs.size f cd::outer)->b=s.heap.objs.size∨b∈Ca outer:=fun b a=>by
  rcases List.mem_cons.mp (I.Nx b a) with z | z
  ·exact .inl z
  ·exact .inr z
 have old:∀b o,s'.heap.get? b=some o->H' b≠none->h'.get? b=some o:=fun b o a hn=>kp.keep b o a (fun z=>hn (I.Qj b z)) (fun z=>hn (z▸h)) fun z=>hn (d b z).1;refine⟨ea,C,dx,some T,H',rfl,I.os,I.bare,⟨fun b o a hn c _=>?_,fun b o a hn c _=>?_,fun b o a hn hx=>I.base.free b o a hn hx,fun b o a hx=>?_,I.base.G9,I.base.Fy,I.base.GG⟩,I.AF.jo fun b u hn a=>old b u a hn,k,⟨h,g⟩,fun T' p=>?_,m⟩
 ·refine kp.keep b o (I.base.keep b o a hn c (by simp[EI])) (fun z=>(mem b z).elim (l b o a) c) (by rintro rfl;rw[g] at a;cases a) fun z=>?_;rw[(d b z).2] at a;cases a
 ·obtain⟨sl,h1⟩:=I.base.slot b o a hn c (by simp[EI]);have q:b∈Ca (envOfC qual scope s.heap.objs.size f cd::outer):=by
   show b∈List.filterMap _ (_::_);rw[Ts];exact EG _ c
  obtain⟨Io,h2⟩:=kp.slot b _ h1 q;exact⟨Io,h2⟩
 ·obtain⟨i,h1⟩:=I.base.there b o a (by simp[EI])
  by_cases c:b∈Ca (envOfC qual scope s.heap.objs.size f cd::outer)
  ·obtain⟨Io,h2⟩:=kp.slot b _ h1 c;exact⟨_,h2⟩
  ·exact⟨i,kp.keep b i h1 c (by rintro rfl;rw[g] at a;cases a) fun z=>by rw[(d b z).2] at a;cases a⟩
 ·cases p;exact⟨I.AF.fresh j,Nj (Bi I.sz j)⟩
end
noncomputable abbrev kN:List Value:=[.type "ValueError", .type "Exception", .type "BaseException", .type "object"]
structure jf (h:Heap) (C:Addr) (IP:Option Value):Prop where
 obj:∃bm N nm q bs hdct sn sub ab col dd k0 k1 k2 k3 k5 mN,h.get? C=some (excClassObj nm q C N bs bm hdct sn sub ab col dd k0 k1 k2 k3 k5 "ValueError.__new__")/\h.Ns N mN/\mN "__init__"=IP/\OwnTail h kN bm
noncomputable def FU (K:ZHP)(C:Addr)(IP:Option Value):Bool:=match K.lookup C with
 | some ⟨.type "type", _,.cls cd,sl⟩=>(match cd.mro,sl.toList with
  | .ref C'::bm,[_,_,_,_,some (.builtin n),_]=>C' == C && n == "ValueError.__new__" && !cd.hasDel && PySem.W.tailIn K kN bm && PySem.W.nsOkIn K cd.ns && PySem.W.nsIn K cd.ns "__init__" == some IP
  | _,_=>false)
 | _=>false
theorem Oe {K:ZHP}{h:Heap}(X:K.In h)(q:FU K C IP=true):jf h C IP:=by
 unfold FU at q;split at q
 ·rename_i dd cd sl ho;split at q
  ·rename_i C' bm k0 k1 k2 k3 n k5 hm hs;simp only[Df,ZBJ,Bool.not_eq_true'] at q;obtain⟨⟨⟨⟨⟨rfl,rfl⟩,b⟩,i⟩,AF⟩,Fd⟩:=q;obtain⟨nm,bs,g,ns,qn,hd,sn,sub,ab,col,k⟩:=cd;dsimp only at hm b AF Fd;subst hm b;obtain⟨l⟩:=sl;simp only at hs;subst hs;have G:h.Ns ns (h.nsMap ns):=.of_isNs (PySem.W.isNs_of_in X AF);refine⟨bm,ns,nm,qn,bs,hd,sn,sub,ab,col,dd,k0,k1,k2,k3,k5,_,X _ _ ho,G,?_,PySem.W.tail_of_in X i⟩;cases IP with
   | none=>exact PySem.W.ns_none_of X G Fd
   | some v=>
    obtain⟨o,es,m,f,a,_,j⟩:=G;unfold PySem.W.nsIn at Fd;split at Fd
    ·rename_i c d EB n' sl q2;have z:=X _ _ q2;rw[f] at z;cases z;cases a;split at Fd
     ·rename_i e he;rw[<- j];unfold nsFind findBy;rw[<- ZFw,he]
      simpa using Fd
     ·split at Fd <;> cases Fd
    ·cases Fd
  ·cases q
 ·cases q
theorem C9.there {P:Program}{h:Heap}(x:C9 P w H h a o):∃u,h.get? a=some u:=by
 induction o with
 | lst xs=>obtain⟨_,_,_,_,e⟩:=x;exact⟨_,e⟩
 | tup xs=>obtain⟨_,_,_,⟨_,e,_⟩,_⟩:=x;exact⟨_,e⟩
 | dK A6=>obtain⟨_,_,_,_,_,_,_,e,_⟩:=x;exact⟨_,e⟩
 | dT A6=>obtain⟨_,_,_,_,_,_,_,e,_⟩:=x;exact⟨_,e⟩
 | set S n=>obtain⟨_,_,_,_,e,_⟩:=x;exact⟨_,e⟩
 | ins C dx fs=>obtain⟨_,_,_,e,_⟩:=x;exact⟨_,e⟩
 | own y=>exact x
 | xd fs=>obtain⟨_,⟨_,_,_,e,_⟩,_⟩:=x;exact⟨_,e⟩
 | met f y=>exact⟨_,x⟩
 | Qf lo hi=>obtain⟨_,_,_,e⟩:=x;exact⟨_,e⟩
 | FF ob u _=>exact⟨_,x.1⟩
 | Kf ps=>exact⟨_,x⟩
 | ext φ=>exact x.2.1
theorem Bo.there {P:Program}{h:Heap}(x:Bo P w H h)(e:H a=some o):∃u,h.get? a=some u:=(x a o e).there
section
variable {E:XK}
def aU (C:Addr)(E:St->XK)(t:TA):TS:=fun _ σ H=>t σ H fun vs H1=>vs.length<=1000/\E σ (.ref C) none H1
def Goes (X:Cx)(E:St->XK):Prop:=∀(pins:ZHQ) (σ:St) (H':Hp) (s':Shared) (ea C:Addr) (dx tb:Option Addr),Inv X pins σ H' s'->Gk s'.heap ea (.ref C) dx tb->(H' ea=none/\X.s₀.heap.get? ea=none)->(∀T,tb=some T->H' T=none/\X.s₀.heap.get? T=none)->
 (∀p∈X.pn++pins,p.1≠ea/\tb≠some p.1)->E σ (.ref C) dx H'->X.xe (.ref ea) s'
end
noncomputable abbrev Iy (C t:Addr)(dx:Option Addr):Obj:={ cls:=.ref C,dict:=dx,data:=.fields #[.ref t,.none,.none,.none,.bool false,.none] }
section
variable {nm qn:Str}{N:Addr}{bs bm:List Value}{sub:List Value}{col:Option Bool}{k0 k1 k2 k3 k5:Option Value}{newId:String}
theorem ZEc {y:Sem Value}{Q:Flow->Shared->Prop}(e:bm.contains (.type "BaseException")=true)(hh:A.handled=none)
  (c:wpAny M A y (fun v z=>∃ea t dx,v=.ref ea/\z.heap.get? C=some (excClassObj nm qn C N bs bm hdct sn sub ab col dd k0 k1 k2 k3 k5 newId)/\z.heap.get? ea=some (Iy C t dx)/\E (.ref ea) z) E s) :
  wpAny M A (raiseStmt env (some y) none) Q E s:=by
 have h:(Value.ref C::bm).contains (.type "BaseException")=true:=by
  rw[ZG5,e,Bool.or_true]
 unfold raiseStmt;refine nc (qG c (fun v z b=>?_) fun _ _ q=>q);obtain⟨ea,t,dx,rfl,a,oe,f⟩:=b;obtain⟨i,g,d,tk,os⟩:=z
 repeat (first
  | with_reducible refine x9 oe ?_
  | with_reducible refine x9 a ?_
  | (with_reducible refine wpAny_isSubtype_exc a ?_;rw[h])
  | wp_step)
 exact wpAny_raiseNew_none hh f
variable {h:Heap}{g:Array GenState}{d:Drawn}{t:Nat}{os:OsState}{B e9:String}
theorem qE (F:ExcBaseFacts B newId e9 RY)(T:OwnTail h RY bm){Q:PySem.Fin->Shared->Prop}
  (a:h.get? C=some (excClassObj nm qn C N bs bm hdct sn sub ab col dd k0 k1 k2 k3 k5 newId)) (hn:h.Ns N mN) (hi:mN "__init__"=some (.ref fI)) (WC:h.get? fI=some oI) (YG:oI.cls=.type "function") (BK:us.length<=sizeLine)
  (m:∀h' ea,h.objs.size<=ea->Heap.MadeExcOf h h' ea (.ref C) us->wpAny (model prog w) A (call (.ref fI) (.ref ea::us)) (fun r s'=>r=.none/\Q (.done (.ret (.ref ea))) s') E ⟨h',g,d,t,os⟩) :
  wpAny (model prog w) A (Builtin.«type.__call__» ⟨.ref C::us,[]⟩) Q E ⟨h,g,d,t,os⟩:=by
 repeat (first
  | with_reducible refine x9 a ?_
  | with_reducible refine wpAny_madeBy_exc a ?_
  | wp_step)
 refine codeAny_call_builtin_code (mJ _ F.quiet) (wpAny_check_new_subT F T a ?_);refine codeAny_exc_new_subT F T a ?_ BK;show wpAny _ _ _ _ _ _;generalize j:({ cls:=.type "tuple", data:=.seq us.toArray }:Obj)=o1;generalize c:({ cls:=.ref C,data:=.fields #[.ref h.objs.size,.none,.none,.none,.bool false,.none] }:Obj)=o2;have up:∀{b:Addr}{o:Obj},h.get? b=some o->((h.push o1).push o2).get? b=some o:=fun e=>BN _ (BN _ e);have i:((h.push o1).push o2).get? (h.objs.size+1)=some o2:=by
  rw[<- G2 h o1];exact Bl _ (by rw[<- c];rfl)
 have g1:((h.push o1).push o2).get? h.objs.size=some o1:=BN _ (Bl h (by rw[<- j];rfl));have n2:((h.push o1).push o2).Ns N mN:=hn.keeps fun b o e=>up e;have f:=up a;have k:=up WC;have u:=T.keeps (h':=(h.push o1).push o2) fun b o e=>up e;have s:(Value.ref C::bm).contains (.ref C)=true:=by simp
 have v:o2.cls=.ref C:=by rw[<- c]
 unfold isInstance;subst c
 repeat (first
  | with_reducible refine x9 i ?_
  | (with_reducible refine wpAny_isSubtype_exc f ?_;rw[s])
  | wp_step)
 show wpAny _ _ (typeLookup (.ref C) _) _ _ _;refine wpAny_typeLookup_tail f n2 u F.mroIs F.init.lookup ?_;rw[hi];refine sR (nc ?_);unfold bindSpecial;refine nc (vM (T:="function") ⟨_,k,YG⟩ ?_);rw[pQ (by decide)];subst j;refine oR (nc (qG (m _ (h.objs.size+1) (Dv _) ⟨fun b o n=>up n,Nj (Dv _),h.objs.size,i,Nj (Ax _),g1⟩) (fun r s' l=>?_) fun _ _ q=>q));obtain⟨rfl,p⟩:=l
 wp_walk
 exact p
theorem v7 (F:ExcBaseFacts B newId e9 RY)(T:OwnTail h RY bm)
  (a:h.get? C=some (excClassObj nm qn C N bs bm hdct sn sub ab col dd k0 k1 k2 k3 k5 newId)) (hn:h.Ns N mN) (hi:mN "__init__"=some (.ref fI)) (WC:h.get? fI=some oI) (YG:oI.cls=.type "function") (BK:us.length<=sizeLine)
  (b:∀h' ea,h.objs.size<=ea->Heap.MadeExcOf h h' ea (.ref C) us->wpAny (model prog w) (A.under (.builtin "type.__call__" ⟨.ref C::us,[]⟩)) (call (.ref fI) (.ref ea::us)) (fun r s'=>r=.none/\Q (.ref ea) s') E ⟨h',g,d,t,os⟩) :
  wpAny (model prog w) A (call (.ref C) us) Q E ⟨h,g,d,t,os⟩:=by
 have e:=tc_lookup;have c:=tc_bind (.ref C);have ty:(⟨h,g,d,t,os⟩:Shared).TypeIs (.ref C) "type" := ⟨_,a,rfl⟩;refine ZA1 (codeAny_of_tree ?_);show wpAny _ _ (callAny (.ref C) _) _ _ _
 repeat (any_goals (first
  | assumption
  | with_reducible refine x9 a ?_
  | wp_step))
 refine⟨rfl,?_⟩;exact codeAny_call_builtin_at (mJ _ (by decide +kernel)) entry_typeCall (wpAny_check_type_call_sub a (qE F T a hn hi WC YG BK b))
end
section
variable {K:ZHP}{x t:Addr}
noncomputable def Kx:List Value->Bool
 | [.type a,.type b,.type c,.type d]=>a == "ValueError" && (b == "Exception" && (c == "BaseException" && d == "object"))
 | .ref _::r=>Kx r
 | _=>false
theorem ZEP (self:Value):PySem.refuseLoop self "__setattr__" [.type "ValueError", .type "Exception", .type "BaseException", .type "object"]=pure ():=by
 first | rfl | kernel_rfl
theorem iC (h:Kx l=true):l=[.type "ValueError", .type "Exception", .type "BaseException", .type "object"]∨∃c r,l=.ref c::r/\Kx r=true:=by
 unfold Kx at h;split at h
 ·simp only[Df,ZBJ] at h;obtain⟨rfl,rfl,rfl,rfl⟩:=h;exact .inl rfl
 ·exact .inr ⟨_,_,rfl,h⟩
 ·cases h
theorem zX (self:Value):∀{l:List Value},Kx l=true->PySem.refuseLoop self "__setattr__" l=pure ():=by
 intro l
 induction l with
 | nil=>intro h;cases h
 | cons x r a=>
  intro h;rcases iC h with e | ⟨c,r',e,h'⟩
  ·rw[e];exact ZEP self
  ·cases e;rw[PySem.refuseLoop_ref];exact a h'
theorem zr:∀{l:List Value},Kx l=true->l.contains (.type "object")=true:=by
 intro l
 induction l with
 | nil=>intro h;cases h
 | cons x r a=>
  intro h;rcases iC h with e | ⟨c,r',e,h'⟩
  ·rw[e];decide
  ·cases e;rw[ZG5,a h',Bool.or_true]
noncomputable def JV (K:ZHP)(C:Addr):Bool:=(PySem.W.clsIn K C).any fun cd=>Kx cd.mro
section
open PySem.Builtin PySem.Builtin.ObjectAttr
theorem uu {R:Result->Shared->Prop}(X:K.In s.heap)(I:PySem.W.InstAt s.heap x ox C od)(m:JV K C=true)(l:PySem.W.takerIn K C name=some r)
  (h:∀b,wpAny (model prog w) A.in1 (match r with | some a=>setByDescriptor a (.ref x) v | none=>storeInOwnDict (.ref x) (.ref C) (.str name tk) name v b)
   (fun g s'=>match g with | .done f=>R (.ok f) s' | .again k=>k.quiet=true/\codeAny (model prog w) A k R s') (fun e s'=>R (.error e) s') s) :
  codeAny (model prog w) A (.call (.builtin "object.__setattr__") ⟨[.ref x,.str name tk,v],[]⟩) R s:=by
 have d:=PySem.F.store_object;obtain⟨cd,j,ho⟩:=nA m;have ne:cd.mro.isEmpty=false:=by cases q:cd.mro with | nil=>rw[q] at ho;cases ho | cons _ _=>rfl
 have sub:PySem.W.Looks (model prog w) s.heap (isInstance (.ref x) (.type "object")) true:=I.type.andThen (ZGc X (by unfold PySem.W.mroIn;rw[j,Option.bind_some,o5 (by rw[ne];decide),zr ho]));refine ZAC d.slot.plain d.entry (@PySem.W.check_slot (model prog w) _ _ s "object.__setattr__" "object" "__setattr__" (.ref x) [.str name tk,v] [] _ d.kind d.split sub (d.args (.ref x) (.str name tk) v) ?_);obtain⟨c,p,i⟩:=Option.bind_eq_some_iff.mp l;have n:PySem.W.Looks (model prog w) s.heap (mroOf (.ref C)) cd.mro:=(nB X j).andThen .now;have t:PySem.W.Looks (model prog w) s.heap (storeTaker? c) r:=by
  cases c with
  | none=>cases i;exact .now
  | some a=>
   obtain⟨b,o,rfl⟩:=Option.map_eq_some_iff.mp i;refine(PySem.W.looks_takesIn X o).andThen ?_;cases b <;> exact .now
 rw[PySem.W.osa_eq,PySem.refuse_eq];refine nc (nc (I.type.here (nc (n.here ?_))));rw[zX _ ho];refine oR (nc (I.type.here (nc ((bL X p).here (nc (t.here ?_))))));exact h _
end
theorem ZDu (h:Heap):(h.push { cls:=.type "dict", data:=.dict #[] }).Ns1 h.objs.size (fun _=>none):=by
 refine⟨_,#[],_,Bl h rfl,rfl,?_⟩;refine⟨fun e a=>?_,?_,fun _=>rfl⟩
 ·simp at a
 ·simp[UniqKeys]
theorem sH {Q:Unit->Shared->Prop}(X:K.In s.heap)(ho:s.heap.get? x=some (Iy C t none))
  (j:PySem.W.findIn K (.ref C) "__setattr__"=some (some (.builtin "object.__setattr__"))) (k:JV K C=true) (i:PySem.W.takerIn K C name=some none) (hh:PySem.W.hasDictIn K C=true)
  (h:∀h' d,s.heap.objs.size<=d->h'.get? x=some (Iy C t (some d))->h'.Ns1 d (fun y=>if y=name then some v else none)->(∀b o,b≠x->s.heap.get? b=some o->h'.get? b=some o)->s.heap.objs.size<=h'.objs.size->Q () { s with heap:=h',toks:=s.toks+2 }) :
  wpAny (model prog w) A (setAttr (.ref x) name v) Q E s:=by
 have J:PySem.W.InstAt s.heap x (Iy C t none) C none:=⟨ho,rfl,rfl,trivial⟩;refine ZGe X J j (uu (s:={ s with toks:=s.toks+1 }) (r:=none) X J k i fun b=>?_)
 obtain⟨cd,l,DH⟩:=nA hh;refine nc (oR (nc (nc (wpAny_loadPart ho (nc (ZGW (s:={ s with toks:=s.toks+1 }) (nB X l) ?_))))))
 rw[DH,o5 (by decide)];show wpAny _ _ (do
  let d <- alloc { cls:=Value.type "dict", data:=Data.dict #[] }
  update x fun o=>{ o with dict:=some d }
  dictMade (Value.ref C) x d) _ _ _
 have f:x<s.heap.objs.size:=B8 ho;refine nc (wpAny_alloc (nc (wpAny_update (BN _ ho) ?_)));refine nc (oR (oR ?_));generalize a:((s.heap.push { cls:=Value.type "dict", data:=Data.dict #[] }).update x fun o=>{ o with dict:=some s.heap.objs.size })=g
 have n:g.get? x=some (Iy C t (some s.heap.objs.size)):=by
  rw[<- a];exact ED _ (BN _ ho) rfl
 have q:∀b o,b≠x->s.heap.get? b=some o->g.get? b=some o:=fun b o c e=>by
  rw[<- a,D8 _ _ (B9 c)];exact BN _ e
 have m:g.objs.size=s.heap.objs.size+1:=by rw[<- a,Q9,G2]
 have p:g.Ns1 s.heap.objs.size (fun _=>none):=(ZDu s.heap).at fun o e=>by
  rw[<- a,D8 _ _ (Bm f)];exact e
 refine nc (oR (nc ?_));refine wpAny_nsSet1 (s:=⟨g,s.gens,s.drawn,s.toks+1,s.os⟩) p fun h' L4 CK=>?_;obtain⟨B,u,z,Yg,W3,Za⟩:=L4.count (ZGf (ns:=[]) name v PySem.Within.nil);refine nc (wpAny_lookBehind Yg (by rw[W3];exact pastItsLine_dict (Bi Za (ZGM (CO _)))) ?_);exact oR (h h' s.heap.objs.size (Ax _) ((CK.2 x (Bm f)).trans n) L4 (fun b o c e=>(CK.2 b (Bm (B8 e))).trans (q b o c e)) (by rw[CK.1,m];exact Dv _))
end
noncomputable def Ek (ea C:Addr)(dx:Option Addr):HO:=.ext fun h=>∃t,h.get? ea=some (Iy C t dx)
theorem ZN {P:Program}{h:Heap}{t:Addr}(e:h.get? ea=some (Iy C t dx)):C9 P w H h ea (Ek ea C dx):=
 ⟨⟨t,e⟩,⟨_,e⟩,fun _ _ ⟨t',a⟩ k=>⟨t',k _ a⟩⟩
theorem Inv.exc (I:Inv X pins σ H s){ea C:Addr}{dx:Option Addr}(e:H ea=some (Ek ea C dx)):∃t,s.heap.get? ea=some (Iy C t dx):=(I.AF ea _ e).1
theorem Inv.qr {t:Addr}{dx':Option Addr}(I:Inv X pins σ H s)(e:H ea=some (Ek ea C dx))(k:∀b u,b≠ea->s.heap.get? b=some u->h'.get? b=some u)(a:h'.get? ea=some (Iy C t dx')):
  Inv X pins σ (upd H ea (Ek ea C dx')) { s with heap:=h',toks:=t' }:=by
 have c:ML (H ea):=by rw[e];trivial
 exact I.write c (.inl rfl) k ⟨_,a⟩ (ZN a)
def Th:V->Prop
 | .str x=>(reprText x).length<=100000
 | .int i=>i.natAbs.log2<1920
 | _=>False
section
variable {p1 p2 p3:Pos}{k1 k2:Nat}{c1 c2:Str}
theorem dg {R:St->Hp->Prop}(d:PE X e te)(I:Inv X pins σ H s)(h:te σ H fun v H1=>Th v/\R σ H1)
  (b:∀y t s1 H1,y.length<=200000->Inv X pins σ H1 s1->R σ H1->Q (.str y t) s1):wpAny (model X.prog X.w) X.A (eval (.FormattedValue e 114 none pos) X.env) Q X.xe s:=by
 refine wpAny_FormattedValue_repr (AR (d pins s σ H _ I h) fun u s1 ⟨v,H1,I1,c,sv,a⟩=>?_);cases v with
 | str x=>
  obtain⟨t,rfl⟩:=c;have sz:(reprText x).length<=sizeLine:=Bi sv (by decide +kernel);refine wpAny_pyReprObj_str ?_ sz;refine wpAny_formatField_str ?_ ?_ sz
  ·exact b _ _ _ H1 (Bi sv (by decide)) (I1.tok _) a
  ·exact b _ _ _ H1 (Bi sv (by decide)) (I1.tok _) a
 | int i=>
  obtain⟨t,rfl⟩:=c;have l1:(Str.ofString (toString i)).length<=sizeLine:=int_text_fits sv;have f:i.natAbs.log2<1920:=sv;have l2:(Str.ofString (toString i)).length<=200000:=by
   have h1:i.natAbs<10 ^ 600:=by
    by_cases z:i.natAbs=0
    ·rw[z];decide +kernel
    ·exact mi ((mh z).mp f) (by decide +kernel)
   have e:=int_text_length_le10 (k:=600) (by decide) h1;clear h1;rw[PySem.ofString_length];omega
  refine wpAny_pyReprObj_gives (typeIs_int _ i t) F.slot_int_repr F.entry_int_repr (F.args_int_repr_1 _) (gives_int_repr i t sv) ?_ rfl l1;refine wpAny_formatField_str ?_ ?_ l1
  ·exact b _ _ _ H1 l2 (I1.tok _) a
  ·exact b _ _ _ H1 l2 (I1.tok _) a
 | _=>exact sv.elim
def XY (te:TE):TE:=fun σ H Q=>te σ H fun v H1=>Th v/\∀y,Q (.str y) H1
theorem len_app (a b:Str):(a++b).length=a.length+b.length:=strLen_append a b
theorem Ob (b:PE X e te)(h1:c1.length<=1000):PE X (.JoinedStr [.Constant (.str c1) k1 p1,.FormattedValue e 114 none p2] pos) (XY te):=by
 intro pins s σ H Q I h;have a:(Str.empty++c1).length<=1000:=by rw[len_app];show 0+_<=_;omega
 refine wpAny_JoinedStr (show wpAny _ _ (eval (.Constant (.str c1) k1 p1) X.env) _ _ s from fun _ _ _=>⟨c1,_,rfl,Bi a (by decide +kernel),?_⟩);refine dg (R:=fun _ H1=>∀y,Q (.str y) H1) b (I.tok _) h fun y t s1 H1 d I1 c=>⟨y,t,rfl,?_,?_,?_⟩
 ·rw[len_app];exact Bi (show _<=201000 by omega) (by decide +kernel)
 ·rw[len_app];exact Bi (show _<=201000 by omega) (by decide +kernel)
 ·exact⟨.str _,H1,I1.tok _,⟨_,rfl⟩,c _⟩
theorem ZCW (b:PE X e te)(h1:c1.length<=1000)(h2:c2.length<=1000):PE X (.JoinedStr [.Constant (.str c1) k1 p1,.FormattedValue e 114 none p2,.Constant (.str c2) k2 p3] pos) (XY te):=by
 intro pins s σ H Q I h;have a:(Str.empty++c1).length<=1000:=by rw[len_app];show 0+_<=_;omega
 refine wpAny_JoinedStr (show wpAny _ _ (eval (.Constant (.str c1) k1 p1) X.env) _ _ s from fun _ _ _=>⟨c1,_,rfl,Bi a (by decide +kernel),?_⟩);refine dg (R:=fun _ H1=>∀y,Q (.str y) H1) b (I.tok _) h fun y t s1 H1 d I1 c=>⟨y,t,rfl,?_,?_⟩
 ·rw[len_app];exact Bi (show _<=201000 by omega) (by decide +kernel)
 ·refine show wpAny _ _ (eval (.Constant (.str c2) k2 p3) X.env) _ _ s1 from fun _ _ _=>⟨c2,_,rfl,?_,?_,?_⟩
  ·rw[len_app,len_app];exact Bi (show _<=202000 by omega) (by decide +kernel)
  ·rw[len_app,len_app];exact Bi (show _<=202000 by omega) (by decide +kernel)
  ·exact⟨.str _,H1,(I1.tok _).tok _,⟨_,rfl⟩,c _⟩
end
structure LH (K:ZHP) (S:Addr):Prop where
 ga:PySem.W.specialIn K (.ref S) "__getattribute__"=some (some (.builtin "type.__getattribute__"))
 rd:PySem.W.readsIn K S (.type "type")=true
 fd:PySem.W.findCls K (.ref S) (.type "type") "__init__"=some (.val (.builtin "ValueError.__init__"))
 hd:PySem.W.handedIn (.builtin "ValueError.__init__")=true
structure ID (K:ZHP) (C fI:Addr) (fld:Str):Prop where
 ex:FU K C (some (.ref fI))=true
 sa:PySem.W.findIn K (.ref C) "__setattr__"=some (some (.builtin "object.__setattr__"))
 po:JV K C=true
 tk:PySem.W.takerIn K C fld=some none
 hd:PySem.W.hasDictIn K C=true
 fn:PySem.W.isFn K (.ref fI)=true
 kp:PySem.W.keepIn K (.ref C)=true
theorem gW {x:V}{xs:List V}(r:Vals (x::xs) us):∃u us',us=u::us'/\RelV x u/\Vals xs us':=by
 cases r with
 | cons a b=>exact⟨_,_,rfl,a,b⟩
theorem ZBS (h:H a=some o):upd H a o=H:=by
 funext b
 unfold upd;split
 ·rename_i e;rw[e,h]
 ·rfl
section
variable {fld:Str}
theorem tH {t:Addr}(I:Inv X pins σ H s)(hx:H ea=some (Ek ea C none))(q:FU X.K C IP=true)
  (i:∀s',Inv X pins σ H s'->Q .none s'):wpAny (model X.prog X.w) X.A (call (.builtin "ValueError.__init__") [.ref ea,u]) Q X.xe s:=by
 obtain⟨l,ho⟩:=I.exc hx;obtain⟨bm,N,nm,qn,bs,hdct,sn,sub,ab,col,dd,k0,k1,k2,k3,k5,mN,j,m,Fd,T⟩:=(Oe I.Bn q).obj;have F:=mx;have n:H C=none:=by
  cases z:X.base.get? C with
  | some o=>exact(I.bs C o z).2
  | none=>
   obtain⟨_,_,_,_,_,_,_,_,_,_,_,_,_,_,_,_,_,c,_⟩:=(Oe I.mod.IY q).obj;rw[z] at c;cases c
 obtain⟨a,g,d,tk,os⟩:=s;refine ZA1 (ZAC F.init.plain F.initEntry (wpAny_check_init_subT F T j ho rfl ?_))
 wp_walk
 refine i _ ?_;have f:=I.qr (h':=(a.push { cls:=Value.type "tuple", data:=Data.seq #[u] }).update ea (Obj.mapFields fun x=>x.setIfInBounds 0 (Value.ref a.objs.size))) (t':=tk) (t:=a.objs.size) (dx':=none) hx (fun b k h e=>by
  rw[D8 _ _ (B9 h)];exact BN _ e) (by
  rw[ED _ (BN _ ho) rfl];rfl)
 rw[ZBS hx] at f;exact f
def k9 (C:Addr)(t:TA):TE:=fun σ H Q=>t σ H fun vs H1=>∃ea v,vs=[.ref ea,v]/\H1 ea=some (Ek ea C none)/\Q .A8 H1
theorem MN {pl:Sem Bool}{apos:Pos}(sp:LH X.K S)(m:Gl X x)(l:X.mg x=some (.ref S))(q:FU X.K C IP=true)(n:PA X (e::es) t)
  (BQ:(x == ("__debug__":Str))=false:=by decide) (BI:starEach (e::es) X.env=(false,eval e X.env)::starEach es X.env:=by rfl) (BY:(backTo pos (starEach es X.env)).any (·.1)=false:=by rfl)
  (ht:eval (.Call (.Attribute (.Name x p) "__init__" apos) (e::es) [] pos) X.env=(do
   let ov <- eval (.Name x p) X.env
   standAt apos.atName
   let (f,first) <- holding [ov] (getMethod ov "__init__" pl)
   callWith pos f first (backTo pos (starEach (e::es) X.env)) (backToKw pos (keywordEach [] X.env))):=by rfl) :
  PE X (.Call (.Attribute (.Name x p) "__init__" apos) (e::es) [] pos) (k9 C t):=by
 intro pins s σ H Q I h;refine ZGd (pl:=pl) (JL I m l ?_ BQ) ht;refine PySem.W.method_cls I.Bn sp.ga (PySem.W.cls_value I.Bn sp.rd sp.fd sp.hd ?_);have a:=n pos pins { s with toks:=s.toks+1 } σ H _ (I.tok _) h
 show wpAny _ _ (callWith pos (.builtin "ValueError.__init__") [] (backTo pos (starEach (e::es) X.env)) _) _ _ _;rw[BI] at a ⊢;refine mH (by show(false || (backTo pos (starEach es X.env)).any (·.1))=false;rw[BY] <;> rfl) (aa ?_)
 refine AR a fun us s2 ⟨vs,H2,I2,k,ea,v,r,hx,o⟩=>?_;subst r;obtain⟨c,b,rfl,g,j⟩:=gW k;obtain⟨u,Ee,rfl,d,i⟩:=gW j;cases i;cases(show c=Value.ref ea from g);exact tH (t:=ea) I2 hx q fun s' I'=>⟨.A8,H2,I',rfl,o⟩
def gH (C:Addr)(f:Str)(ta tv:TE):TS:=fun D σ H=>tv σ H fun y H1=>ta σ H1 fun x H2=>∃ea,x=.ref ea/\H2 ea=some (Ek ea C none)/\∀d,H2 d=none->D.nx σ (upd (upd H2 d (.xd [(f,y)])) ea (Ek ea C (some d)))
theorem Md {o value:Expr}{pos':Pos}{tv:TE}(c:ID X.K C fI fld)(E:PE X o ta)(w:PE X value tv)(B:swapsWith value (some (.Attribute o fld pos')) pos.line X.env=pure false):PS X (.Assign [.Attribute o fld pos'] value pos) (gH C fld ta tv):=by
 intro pins s σ H D I h;refine yy (AR (w pins s σ H _ I h) fun u s1 ⟨y,H1,I1,p,q⟩=>AR (E pins s1 σ H1 _ I1 q) fun v s2 ⟨x,H2,I2,r,ea,ex,hx,t⟩=>?_) B;subst ex;obtain rfl:v=Value.ref ea:=r;obtain⟨F,ho⟩:=I2.exc hx;refine sH I2.Bn ho c.sa c.po c.tk c.hd fun h' d hd l hn k G=>?_;have f:H2 d=none:=I2.AF.fresh hd;have J:d≠ea:=by rintro rfl;rw[hx] at f;cases f
 refine⟨σ,_,I2.un (t':=s2.toks+2) (h':=h') ⟨fun b o e n _ _=>k b o (by rintro rfl;rw[hx] at n;cases n) e,fun b o e n _ _=>⟨o.slots,k b o (by rintro rfl;rw[hx] at n;cases n) e⟩,fun b o e n _=>?_,fun b o e _=>?_,fun b xs e=>?_,fun b o' j e=>?_,fun b ps e=>?_⟩ ?_,t d f⟩
 ·rw[AX (by rintro rfl;rw[hx] at n;cases n),AX (by rintro rfl;exact absurd (B8 e) (Nat.not_lt.mpr hd))];exact n
 ·by_cases z:b=ea
  ·subst z;exact⟨_,l⟩
  ·exact⟨o,k b o z e⟩
 ·rw[AX (by rintro rfl;rw[hx] at e;cases e),AX (DN e f)];exact e
 ·rw[AX (by rintro rfl;rw[hx] at e;cases e),AX (DN e f)];exact e
 ·exact⟨#[],by rw[AX (by rintro rfl;rw[hx] at e;cases e),AX (DN e f),e];simp⟩
 ·intro b o e
  by_cases z:b=ea
  ·subst z;rw[AO] at e;cases e;exact ZN l
  ·rw[AX z] at e
   by_cases i:b=d
   ·subst i;rw[AO] at e;cases e;refine⟨_,hn,fun m=>?_⟩
    by_cases g:m=fld
    ·subst g;rw[pQ rfl,ZGG];exact p
    ·rw[o5 g,HH];rw[show(m == fld)=false from by simpa using g]
     exact trivial
   ·rw[AX i] at e;refine(I2.AF b o e).Gf (fun c j a A=>k c j ?_ A) (fun c a=>?_) fun c xs a=>?_
    ·rcases a with rfl | a
     ·exact z
     ·rintro rfl;rw[hx] at a;cases a
    ·rw[AX (by rintro rfl;rw[hx] at a;cases a),AX (DN a f)];exact a
    ·rw[AX (by rintro rfl;rw[hx] at a;cases a),AX (DN a f)];exact a
end
def MD (C:Addr)(fld:Str):Sp:=fun vs H Q _=>∃(ea:Addr) (v:V),vs=[.ref ea,v]/\Th v/\H ea=some (Ek ea C none)/\∀d,H d=none->Q .A8 (upd (upd H d (.xd [(fld,v)])) ea (Ek ea C (some d)))
def Rz (C:Addr)(fld:Str)(E:St->XK)(t:TA):TS:=fun _ σ H=>t σ H fun vs H1=>∃v,vs=[v]/\Th v/\∀d,H1 d=none->E σ (.ref C) (some d) (upd H1 d (.xd [(fld,v)]))
noncomputable def MQ (H:Hp)(a:Addr):Hp:=fun b=>if b=a then none else H b
theorem S7 (h:b≠a):MQ H a b=H b:=o5 h
theorem Vz:MQ H a a=none:=pQ rfl
section
theorem Inv.forget (I:Inv X pins σ H s){φ:Heap->Prop}(e:H a=some (.ext φ))(k:∀p∈X.pn++pins,p.1≠a):Inv X pins σ (MQ H a) s:=by
 have keep:∀b o,b≠a->H b=o->MQ H a b=o:=fun b o h q=>by rw[S7 h];exact q
 have f:∀b,H b=none->MQ H a b=none:=fun b q=>by
  by_cases z:b=a
  ·subst z;exact Vz
  ·rw[S7 z];exact q
 refine⟨I.ok,I.os,I.bare,⟨I.base.keep,I.base.slot,fun b o q n hx=>f b (I.base.free b o q n hx),I.base.there,fun b xs q=>?_,fun b o u q=>?_,fun b ps q=>?_⟩,I.loc,I.cell,f _ I.free,fun x c q=>f c (I.Dz x c q),fun p Ec=>?_,fun b o q=>?_,I.len⟩
 ·have z:=I.base.G9 b xs q;exact keep b _ (by rintro rfl;rw[e] at z;cases z) z
 ·have z:=I.base.Fy b o u q;exact keep b _ (by rintro rfl;rw[e] at z;cases z) z
 ·obtain⟨m,z⟩:=I.base.GG b ps q;exact⟨m,keep b _ (by rintro rfl;rw[e] at z;cases z) z⟩
 ·obtain⟨h1,h2,j⟩:=I.pin p Ec;exact⟨h1,f _ h2,j⟩
 ·have i:b≠a:=by rintro rfl;rw[Vz] at q;cases q
  rw[S7 i] at q;refine(I.AF b o q).Gf (fun c u _ g=>g) (fun c d=>keep c _ (by rintro rfl;rw[e] at d;cases d) d) fun c xs d=>keep c _ (by rintro rfl;rw[e] at d;cases d) d
variable {fld:Str}
end
section
variable {C:Value}
theorem Inv.Ra (I:Inv X pins σ H s)(BI:X.stack=X.env::X.outer)(x:Gk s.heap ea C dx tb)(G:H ea=none)(t:X.s₀.heap.get? ea=none)(g:∀T,tb=some T->H T=none/\X.s₀.heap.get? T=none)
  (D:∀p∈X.pn++pins,p.1≠ea/\tb≠some p.1)(kp:Kp (X.env::X.outer) ea tb s.heap h'):Inv X pins σ H { s with heap:=h' }:=by
 obtain⟨oe,vs,M,_,_,n,_⟩:=x.obj;have mem:∀b,b∈Ca (X.env::X.outer)->b=X.env.locals∨b∈X.fs:=fun b a=>by
  rw[<- BI] at a;exact List.mem_cons.mp (I.Nx b a)
 have B:∀b,b=X.env.locals∨b∈X.fs->b∈Ca (X.env::X.outer):=fun b a=>by
  have d:X.env.frame=some X.env.locals:=by
   rcases I.ok.Hw with e | ⟨_,d⟩
   ·rw[e] at BI;exact absurd (rA List.length BI) (by simp)
   ·exact d
  unfold Ca;rw[Ts,d];rcases a with rfl | a
  ·exact Dg
  ·exact EG _ a
 have f:∀b o,s.heap.get? b=some o->(∀vs,o.data≠.fields vs)->∃sl,h'.get? b=some { o with slots:=sl }:=fun b o a hd=>by
  by_cases d:b∈Ca (X.env::X.outer)
  ·exact kp.slot b o a d
  ·refine⟨o.slots,kp.keep b o a d (by rintro rfl;rw[M] at a;cases a;exact hd _ n) fun z=>?_⟩;obtain⟨_,Q,ts,N,Gm,_⟩:=x.ent b z;rw[N] at a;cases a;exact hd _ Gm
 have old:∀b o,s.heap.get? b=some o->H b≠none->h'.get? b=some o:=fun b o a hn=>kp.keep b o a (fun z=>hn (I.Qj b (by rw[BI];exact z))) (fun z=>hn (z▸G)) fun z=>hn (g b z).1;have h:∀b o,X.s₀.heap.get? b=some o->b≠X.env.locals:=fun b o a z=>absurd (B8 a) (Nat.not_lt.mpr (z▸I.ok.above));have A:∀c v,s.heap.IsCell c v->h'.IsCell c v:=fun c v AK=>by
  obtain⟨o,ho,hd⟩:=AK;obtain⟨sl,h1⟩:=f c o ho (by rw[hd];intro vs z;cases z);exact⟨_,h1,hd⟩
 refine⟨I.ok,I.os,I.bare,⟨fun b o a hn d hx=>?_,fun b o a hn d hx=>?_,I.base.free,fun b o a hx=>?_,I.base.G9,I.base.Fy,I.base.GG⟩,?_,fun y c q=>?_,I.free,I.Dz,fun p Ec=>?_,I.AF.jo fun b u hn a=>old b u a hn,I.len⟩
 ·exact kp.keep b o (I.base.keep b o a hn d hx) (fun z=>(mem b z).elim (h b o a) d) (by rintro rfl;rw[t] at a;cases a) fun z=>by rw[(g b z).2] at a;cases a
 ·obtain⟨sl,h1⟩:=I.base.slot b o a hn d hx;obtain⟨Io,h2⟩:=kp.slot b _ h1 (B b (.inr d));exact⟨Io,h2⟩
 ·obtain⟨w,h1⟩:=I.base.there b o a hx
  by_cases d:b∈Ca (X.env::X.outer)
  ·obtain⟨Io,h2⟩:=kp.slot b _ h1 d;exact⟨_,h2⟩
  ·exact⟨w,kp.keep b w h1 d (by rintro rfl;rw[t] at a;cases a) fun z=>by rw[(g b z).2] at a;cases a⟩
 ·obtain⟨m,⟨o,es,P,ho,r⟩,L⟩:=I.loc;obtain⟨sl,h1⟩:=kp.slot _ _ ho (B _ (.inl rfl));refine⟨m,⟨_,es,P,h1,r⟩,fun i y v hi l K=>?_⟩;obtain⟨u,J,j⟩:=L i y v hi l K;refine⟨u,J,?_⟩;rcases j with j | ⟨k,c,hc,ic⟩
  ·exact .inl j
  ·exact .inr ⟨k,c,hc,A c _ ic⟩
 ·obtain⟨v,l⟩:=I.cell y c q;exact⟨v,A c v l⟩
 ·obtain⟨h1,h2,F,E,O⟩:=I.pin p Ec;exact⟨kp.keep _ _ h1 (fun z=>(mem _ z).elim F E) (D p Ec).1 (D p Ec).2,h2,F,E,O⟩
theorem iT {Q:Unit->Shared->Prop}{l:List Env}(x:Gk s.heap ea C dx tb)(i:∀b∈Ca l,∃o,s.heap.get? b=some o/\∀vs,o.data≠.fields vs)
  (h:∀h',Kp l ea tb s.heap h'->Gk h' ea C dx tb->Q () { s with heap:=h' }):wpAny M A (setFlight (.ref ea) none) Q E s:=by
 obtain⟨oe,vs,f,j,hd,HD,g,h1⟩:=x.obj;unfold setFlight;refine nc (r6 f HD h1 ?_);cases tb with
 | none=>
  rw[o5 (by decide)];exact oR (h s.heap ⟨fun b o a _ _ _=>a,fun b o a _=>⟨o.slots,a⟩,Ax _⟩ x)
 | some T=>
  obtain⟨Js,n,ts,d,Gm,c,p⟩:=x.ent T rfl;rw[pQ (show((some T).elim Value.none Value.ref != Value.none)=true from by simp)];have e:∀b,b≠T->(s.heap.update T (Obj.mapFields (·.setIfInBounds 3 Value.none))).get? b=s.heap.get? b:=fun b a=>D8 _ _ (B9 a)
  have m:=ED (Obj.mapFields (·.setIfInBounds 3 Value.none)) d (Nt (Hv Gm _))
  refine vQ d Gm c (h _ ⟨fun b o a _ _ U7=>(e b (by rintro rfl;exact U7 rfl)).trans a,fun b o a Mw=>⟨o.slots,(e b ?_).trans a⟩,by rw[Q9];exact Ax _⟩ ⟨⟨oe,vs,(e ea (B9 Js)).trans f,j,hd,HD,g,h1⟩,fun T' k=>?_⟩)
  ·rintro rfl;obtain⟨o',E4,hn⟩:=i b Mw;rw[d] at E4;cases E4;exact hn ts Gm
  ·cases k;exact⟨Js,_,_,m,Hv Gm _,by simpa using c,by simp[c]⟩
end
theorem Inv.unbind {Q:Unit->Shared->Prop}(I:Inv X pins σ H s)(G:X.N.Nodup)(g:X.N[j]?=some n)(r:X.env.scope.names.lookup n=some .local)
  (h:∀s',Inv X pins (σ.set j none) H s'->Q () s'):wpAny M A (do bindName X.env n .none;unbindBehindTheSuite X.env n pos) Q E s:=by
 refine nc (wpAny_bindName (aR (v:=.A8) I G g (.inl r) rfl (fun s1 I1 _=>?_) (.inr r)));unfold unbindBehindTheSuite;refine wpAny_onRaise ?_;obtain⟨m,hn,F⟩:=id I1.loc;have U:(X.env.scope.kind == .class || (X.env.scope.kind == .module && X.env.locals != X.env.globals))=false:=by rw[I.ok.kind];rfl
 have hjσ:j<σ.length:=by rw[I.len];exact(List.getElem?_eq_some_iff.mp g).1
 obtain⟨u,Y,P⟩:=F j n .A8 g (Cm hjσ) (.inl r);have S:m n=some u:=by
  rcases P with⟨_,e⟩|⟨z,_⟩
  ·exact e
  ·have V:X.env.kindOf n=some .local:=r;rw[V] at z;rcases z with z | z <;> cases z
 refine wpAny_unbindName_local r hn S U fun h' W Q5 f=>?_;obtain⟨Z,_,_,NB,_⟩:=id hn;have GA:=I1.GA;have a:∀b o,X.s₀.heap.get? b=some o->b≠X.env.locals:=fun b o t=>Bm (DQ (B8 t) I.ok.above);refine h _ ⟨I1.ok,I1.os,I1.bare,⟨fun b o e n t hx=>(f.2 b (a b o e)).trans (I1.base.keep b o e n t hx),fun b o e n t hx=>?_,I1.base.free,fun b o e hx=>?_,I1.base.G9,I1.base.Fy,I1.base.GG⟩,⟨_,Q5,fun i y K l B T=>?_⟩,fun y c e=>?_,I1.free,I1.Dz,fun p R=>?_,fun b ob e=>?_,by simpa using I.len⟩
 ·obtain⟨sl,l⟩:=I1.base.slot b o e n t hx;exact⟨sl,(f.2 b (a b o e)).trans l⟩
 ·obtain⟨o',l⟩:=I1.base.there b o e hx;exact⟨o',(f.2 b (a b o e)).trans l⟩
 ·have C:i≠j:=by
   rintro rfl;rw[Cm hjσ] at B;cases B
  rw[CL (B9 C)] at B;obtain⟨w,L,q⟩:=F i y K l (by rw[CL (B9 C)];exact B) T;refine⟨w,L,?_⟩;rcases q with⟨k,e⟩|⟨k,c,e,z⟩
  ·refine .inl ⟨k,?_⟩;have:y≠n:=fun e=>C (YK G l (e▸g));simp[this,e]
  ·exact .inr ⟨k,c,e,z.sameBut f (GA y c e)⟩
 ·obtain⟨D,z⟩:=I1.cell y c e;exact⟨D,z.sameBut f (GA y c e)⟩
 ·obtain⟨e,n,ne,O,d⟩:=I1.pin p R;exact⟨(f.2 p.1 ne).trans e,n,ne,O,d⟩
 ·refine(I1.AF b ob e).Gf (fun c D x q=>(f.2 c ?_).trans q) (fun _ q=>q) fun _ _ q=>q;rintro rfl;have J:=I1.free;rcases x with rfl | x
  ·rw[J] at e;cases e
  ·rw[J] at x;cases x
theorem Inv.p8 (I:Inv X pins σ H s)(x:Gk s.heap ea (.ref C) dx tb)(i:H ea=none)(h:X.s₀.heap.get? ea=none)(l:∀p∈X.pn++pins,p.1≠ea):Inv X pins σ (upd H ea (Fz.IA ea C dx)) s:=by
 obtain⟨oe,vs,e,d,hd,HD,_⟩:=x.obj;have f:X.env.locals≠ea:=fun z=>by
  obtain⟨m,⟨o,es,A,ho,a,_⟩,_⟩:=I.loc;rw[z,e] at ho;cases ho;rw[HD] at a;cases a
 have GA:∀y c,X.env.cells.lookup y=some c->c≠ea:=fun y c q z=>by
  obtain⟨v,o,ho,a⟩:=I.cell y c q;rw[z,e] at ho;cases ho;rw[HD] at a;cases a
 have tr:∀b o,H b=some o->upd H ea (Fz.IA ea C dx) b=some o:=fun b o q=>by
  rw[AX (by rintro rfl;rw[i] at q;cases q)];exact q
 refine⟨I.ok,I.os,I.bare,⟨I.base.keep,I.base.slot,fun b o q n hx=>?_,I.base.there,fun b xs q=>tr b _ (I.base.G9 b xs q),fun b o u q=>tr b _ (I.base.Fy b o u q),fun b ps q=>?_⟩,I.loc,I.cell,?_,fun y c q=>?_,fun p Ec=>?_,fun b o q=>?_,I.len⟩
 ·rw[AX (by rintro rfl;rw[h] at q;cases q)];exact I.base.free b o q n hx
 ·obtain⟨m,z⟩:=I.base.GG b ps q;exact⟨m,tr b _ z⟩
 ·rw[AX f];exact I.free
 ·rw[AX (GA y c q)];exact I.Dz y c q
 ·obtain⟨h1,h2,t⟩:=I.pin p Ec;exact⟨h1,by rw[AX (l p Ec)];exact h2,t⟩
 ·by_cases z:b=ea
  ·subst z;rw[AO] at q;cases q;exact⟨⟨oe,vs,e,d,hd,HD⟩,⟨_,e⟩,fun _ _ ⟨o',g,w,r⟩ k=>⟨o',g,k _ w,r⟩⟩
  ·rw[AX z] at q;exact(I.AF b o q).Gf (fun c u _ j=>j) (fun c d=>tr c _ d) fun c xs d=>tr c _ d
noncomputable abbrev Cx.EH (X:Cx)(pn:ZHQ)(xe:Value->Shared->Prop):Cx:={ X with pn:=pn,xe:=xe }
noncomputable abbrev Cx.CY (X:Cx)(e:Value):Cx:={ X with A:=X.A.mark (some e),calm:=false,xe:=fun _ _=>False }
section
variable {Us:ZHQ}{e:Value}
theorem Cx.Ok.EH (ok:X.Ok):(X.EH pn xe).Ok:=⟨ok.mod,ok.kind,ok.glob,ok.blt,ok.above,ok.inj,ok.has,ok.KC,ok.hd,ok.frames,ok.Hw,ok.Lr,ok.bs,ok.Gy,ok.Ju,ok.Jm,ok.Er,ok.Hx⟩
theorem Cx.Ok.HA (ok:(X.EH pn xe).Ok):X.Ok:=⟨ok.mod,ok.kind,ok.glob,ok.blt,ok.above,ok.inj,ok.has,ok.KC,ok.hd,ok.frames,ok.Hw,ok.Lr,ok.bs,ok.Gy,ok.Ju,ok.Jm,ok.Er,ok.Hx⟩
theorem Cx.Ok.CY (ok:X.Ok):(X.CY e).Ok:=⟨ok.mod,ok.kind,ok.glob,ok.blt,ok.above,ok.inj,ok.has,ok.KC,fun z=>(by cases z),ok.frames,ok.Hw,ok.Lr,ok.bs,ok.Gy,ok.Ju,ok.Jm,ok.Er,ok.Hx⟩
theorem Inv.EH (I:Inv X pins σ H s):Inv (X.EH (X.pn++pins) xe) [] σ H s:=⟨I.ok.EH,I.os,I.bare,I.base,I.loc,I.cell,I.free,I.Dz,fun p a=>I.pin p (by simpa using a),I.AF,I.len⟩
theorem Inv.HA (I:Inv (X.EH (X.pn++pins) xe) Us σ H s):Inv X pins σ H s:=⟨I.ok.HA,I.os,I.bare,I.base,I.loc,I.cell,I.free,I.Dz,fun p a=>I.pin p (Hr _ a),I.AF,I.len⟩
theorem Inv.CY (I:Inv X pins σ H s):Inv (X.CY e) pins σ H s:=⟨I.ok.CY,I.os,I.bare,I.base,I.loc,I.cell,I.free,I.Dz,I.pin,I.AF,I.len⟩
theorem Inv.KY (ok:X.Ok)(I:Inv (X.CY e) pins σ H s):Inv X pins σ H s:=⟨ok,I.os,I.bare,I.base,I.loc,I.cell,I.free,I.Dz,I.pin,I.AF,I.len⟩
end
noncomputable def Ends.drop (D:Ends)(j:Nat):Ends:=⟨fun σ H=>D.nx (σ.set j none) H,D.rt,fun σ H=>D.bk (σ.set j none) H,fun σ H=>D.ct (σ.set j none) H⟩
def Zz (K:ZHP)(S:Addr)(j:Nat)(tb:(St->XK)->TS)(th:TS):TS:=fun D σ H=>∃E1:St->XK,tb E1 D σ H/\
 ∀ σ1 C dx ea H1,E1 σ1 (.ref C) dx H1->H1 ea=none->PySem.W.exmOne K (.ref C) (.ref S)=some true/\th (D.drop j) (σ1.set j (some (.ref ea))) (upd H1 ea (Fz.IA ea C dx))
def O0 (sp:Sp)(E:St->XK)(t:TA):TE:=fun σ H Q=>t σ H fun vs H1=>sp vs H1 Q (E σ)
def Bz (P:Program)(w:World)(K:ZHP)(mg:ZHR)(base:Heap)(x:Str)(k:Nat)(ps:List Str)(sp:Sp):Prop:=
 ∃f fd,Cj P w K mg base (HY P w) k f fd ps sp/\Binds K fd ps []/\PySem.W.keepIn K (.ref f)=true/\mg x=some (.ref f)
section
variable {P:Program}{K:ZHP}{k:Nat}{st:Stmt}
theorem Bz.mk (F:AE K x qual st f fd)(b:Binds K fd ps [])(m:mg x=some (.ref f))(h:Cj P w K mg base (HY P w) k f fd ps sp):Bz P w K mg base x k ps sp:=⟨f,fd,h,b,F.kp,m⟩
variable {E:St->XK}
theorem Goes.call (go:Goes X E)(f:X.ex=[]){e:Value}(I:Inv X pins σ H s)(h:HY X.prog X.w X.stack H s (E σ) e s'):X.xe e s':=by
 have EO:∀a,s.heap.get? a=none->X.s₀.heap.get? a=none:=fun a m=>by
  cases q:X.s₀.heap.get? a with
  | none=>rfl
  | some o=>
   obtain⟨u,h1⟩:=I.base.there a o q (by rw[f];simp);rw[m] at h1;cases h1
 obtain⟨ea,C,dx,tb,H',rfl,os,bare,un,AF,x,⟨l,i⟩,c,n⟩:=h;obtain⟨hh,g,d,t,OG⟩:=s';obtain rfl:OG=s.os:=os;have r:=I.call (h':=hh) (g':=g) (d':=d) (t':=t) (ch:=[]) un AF bare (fun b z=>absurd z (by simp));refine go pins σ H' _ ea C dx tb r x ⟨l,EO _ i⟩ (fun T k=>⟨(c T k).1,EO _ (c T k).2⟩) (fun p j=>⟨fun z=>?_,fun z=>?_⟩) n
 ·have:=(I.pin p j).1;rw[z,i] at this;cases this
 ·have:=(I.pin p j).1;rw[(c _ z).2] at this;cases this
end
section
variable {P:Program}{K:ZHP}{E:XK}
theorem ES:Goes (EI (HY P w) P w K mg base N qual scope f cd A outer s H E) (fun _=>E):=fun pins σ H' s' ea C dx tb I x u a _ b=>
 ZO.leave ⟨pins,σ,H',ea,C,dx,tb,rfl,I,x,u,a,b⟩
theorem qY:PassesOwn (model P w) (EI (HY P w) P w K mg base N qual scope f cd A outer s H E).A (EI (HY P w) P w K mg base N qual scope f cd A outer s H E).env (EI (HY P w) P w K mg base N qual scope f cd A outer s H E).xe:=PassesOwn.leaving
end
theorem AE.JX {P:Program}{K:ZHP}{st:Stmt}{k:Nat}(F:AE K x qual st f fd)(S:As N ps (Ae st))(len:∀vs H Q E,sp vs H Q E->vs.length=ps.length)
  (Lh:∀(AY:Value) (A:Around) (outer:List Env) (s:Shared) (H:Hp) (vs:List V) (Q:VK) (E:XK),Bf k (A.deeper (envOfC qual (Ae st) s.heap.objs.size f AY))->sp vs H Q E->
   ∃t,Fh (EI (HY P w) P w K mg base N qual (Ae st) f AY A outer s H E) (KW st) t/\t { nx:=fun _ H'=>Q .A8 H',rt:=Q } (start N vs) H):Cj P w K mg base (HY P w) (k+1) f fd ps sp:=by
 obtain⟨e,od,kV,c,d,g,AY,ct,J8,rfl,a,Ez⟩:=F.ex;refine jd a Ez S len fun A outer s H vs Q E b Et=>?_;obtain⟨t,h,q⟩:=Lh AY A outer s H vs Q E b Et;exact⟨t,h.h,q⟩
section
variable {i k:Nat}{E:St->XK}{body CY:List Stmt}{fld:Str}
theorem GI (h:Bz X.prog X.w X.K X.mg X.base x k ps sp)(g:Bf j X.A)(l:k<=j)(go:Goes X E)(c:X.ex=[])(d:QA X (e::es) t)(n:Gl X x:=by rfl)(BQ:(x == ("__debug__":Str))=false:=by decide)
  (he:starEach (e::es) X.env=(false,eval e X.env)::starEach es X.env:=by rfl) (BY:(backTo pos (starEach es X.env)).any (·.1)=false:=by rfl):QE X (.Call (.Name x p) (e::es) [] pos) (O0 sp E t):=⟨by
 have d:=d.h;obtain⟨f,fd,F,b,kp,m⟩:=h;have F:=F.mono l;intro pins s σ H Q I h;refine rm (JL I n m ?_ BQ);refine U1 (h₀:=X.base) I.ok.mod.IY kp (AR (d pos pins s σ H _ I h) fun us s1 ⟨vs,H1,I1,r,q⟩=>⟨I1.Bn,?_⟩) he BY;have i:us.length=ps.length:=by rw[<- r.length];exact F.len _ _ _ _ q
 refine ZA1 (yU (F.run X.A X.stack s1 H1 ⟨us,[]⟩ us vs Q (E σ) g I1.Rw (by have z:=b s1 us I1.Bn (by rw[El];exact i);rw[El] at z;exact z) r q) fun r s' a=>?_);cases r with
 | error e=>exact go.call c I1 a
 | ok o=>
  cases o with
  | ret u=>exact I1.after a
  | next=>exact False.elim a
  | brk=>exact False.elim a
  | cont=>exact False.elim a⟩
theorem ZDM (m:Gl X x)(a:X.mg x=some (.ref C))(q:FU X.K C none=true)(n:X.calm=true)(d:X.ex=[])(go:Goes X E)(f:QA X (e0::es) t)
  (BQ:(x == ("__debug__":Str))=false:=by decide) (he:starEach (e0::es) X.env=(false,eval e0 X.env)::starEach es X.env:=by rfl) (BY:(backTo Ba (starEach es X.env)).any (·.1)=false:=by rfl) :
  QS X (.Raise (some (.Call (.Name x np) (e0::es) [] Ba)) none pos) (aU C E t):=⟨by
 have f:=f.h;intro pins s σ H D I h;have mk:∀h':Heap,X.K.In h'->jf h' C none:=fun h' k=>Oe k q;obtain⟨bm,N,nm,qn,bs,hdct,sn,sub,ab,col,dd,k0,k1,k2,k3,k5,mN,y,v,Fd,T⟩:=(Oe (X:=I.mod.IY) q).obj;refine wpAny_Raise_call_subT (C:=C) (nm:=nm) (q:=qn) (N:=N) (bs:=bs) (bm:=bm) (hdct:=hdct) (sn:=sn) (sub:=sub) (ab:=ab) (col:=col) (dd:=dd) (k0:=k0) (k1:=k1) (k2:=k2) (k3:=k3) (k5:=k5)
  mx (mN:=mN) (T.hasType rfl) (I.ok.hd n) (by rw[he];show(false || (backTo Ba (starEach es X.env)).any (·.1))=false;rw[BY];rfl) Fd (JL I m a ⟨rfl,?_⟩ BQ)
 rw[he];have i:=f Ba pins s σ H _ I h;rw[he] at i;refine aa (AR i fun us s2 ⟨vs,H2,I2,r,j,w⟩=>⟨rfl,?_,I2.bk _ _ y,v.keeps I2.bk,T.keeps I2.bk,fun h' e a=>?_⟩)
 ·rw[<- r.length];exact Bi j (by decide +kernel)
 ·obtain⟨t',LK,LX,_⟩:=a.there;have g:s2.heap.get? e=none:=a.new;have A:=I2.call (h':=h') (g':=s2.gens) (d':=s2.drawn) (t':=s2.toks) (ch:=[]) (Un.kept a.keeps) (I2.AF.kept a.keeps) I2.bare (fun b z=>absurd z (by simp));refine go pins σ H2 _ e C none none A ⟨⟨_,_,LK,rfl,rfl,rfl,by simp,rfl⟩,fun T z=>by cases z⟩ ⟨?_,?_⟩ (fun T z=>by cases z) (fun p l=>⟨fun z=>?_,by simp⟩) w
  ·cases z:H2 e with
   | none=>rfl
   | some o=>obtain⟨u,c⟩:=I2.AF.there z;rw[g] at c;cases c
  ·cases z:X.s₀.heap.get? e with
   | none=>rfl
   | some o=>obtain⟨u,c⟩:=I2.base.there e o z (by rw[d];simp);rw[g] at c;cases c
  ·have:=(I2.pin p l).1;rw[z,g] at this;cases this⟩
theorem zJ (c:ID X.K C fI fld)(hg:Gl X x)(hm:X.mg x=some (.ref C))(Fn:Cj X.prog X.w X.K X.mg X.base Eg kk fI fd ["self", par] (MD C fld))(hb:Binds X.K fd ["self", par] [])(Y:Bf (kk+1) X.A)(m:X.calm=true)(hex:X.ex=[])(go:Goes X E)(n:QA X [e0] t)
  (BQ:(x == ("__debug__":Str))=false:=by decide) (he:starEach [e0] X.env=(false,eval e0 X.env)::starEach [] X.env:=by rfl) (BY:(backTo Ba (starEach [] X.env)).any (·.1)=false:=by rfl) :
  QS X (.Raise (some (.Call (.Name x np) [e0] [] Ba)) none pos) (Rz C fld E t):=⟨by
 have n:=n.h;intro pins s σ H D I h;obtain⟨bm,N,nm,qn,bs,hdct,sn,sub,ab,col,dd,k0,k1,k2,k3,k5,mN,F,hN,Fd,T⟩:=(Oe I.mod.IY c.ex).obj;rw[arm_exec_Raise];show wpAny _ _ (do standAt pos;raiseStmt X.env (some (do let v <- eval (.Call (.Name x np) [e0] [] Ba) X.env;standAt pos;pure v)) none) _ _ s
 refine nc (ZA5 (ZEc (C:=C) (nm:=nm) (qn:=qn) (N:=N) (bs:=bs) (bm:=bm) (hdct:=hdct) (sn:=sn) (sub:=sub) (ab:=ab) (col:=col) (dd:=dd) (k0:=k0) (k1:=k1) (k2:=k2) (k3:=k3) (k5:=k5) (newId:="ValueError.__new__") (T.hasType rfl) (I.ok.hd m) (nc ?_)));refine rm (JL I hg hm ?_ BQ);refine U1 (h₀:=X.base) I.ok.mod.IY c.kp (AR (n Ba pins s σ H _ I h) fun us s1 ⟨vs,H1,I1,r,v,ev,sv,hE⟩=>⟨I1.Bn,?_⟩) he BY;subst ev;obtain⟨u,rfl,Q⟩:=vals1 r;obtain⟨Z,g,d,tk,os⟩:=s1;have Pr:∃oI,Z.get? fI=some oI/\oI.cls=.type "function" := by
  have z:=beq_iff_eq.mp c.fn;unfold PySem.W.typeIn at z;obtain⟨o,ho,m⟩:=Option.map_eq_some_iff.mp z;exact⟨o,I1.Bn _ _ ho,m⟩
 obtain⟨oI,U,RL⟩:=Pr;refine v7 mx (T.keeps I1.bk) (I1.bk _ _ F) (hN.keeps I1.bk) Fd U RL (by show 1<=sizeLine;decide +kernel) fun h' ea JB B=>?_;obtain⟨t',LK,_,_⟩:=B.there;have J:H1 ea=none:=I1.AF.fresh JB;have q:Inv X pins σ (upd H1 ea (Ek ea C none)) ⟨h',g,d,tk,os⟩:=I1.laid (t':=tk) B.keeps JB (ZN LK);have V:MD C fld ([.ref ea,v]++[]) (upd H1 ea (Ek ea C none)) (fun w H3=>w=.A8/\∃d,H1 d=none/\d≠ea/\H3=upd (upd (upd H1 ea (Ek ea C none)) d (.xd [(fld,v)])) ea (Ek ea C (some d))) E0:=
  ⟨ea,v,rfl,sv,AO,fun d hd=>by
   have j:d≠ea:=by rintro rfl;rw[AO] at hd;cases hd
   rw[AX j] at hd;exact⟨rfl,d,hd,j,rfl⟩⟩
 refine ZA1 (yU (Fn.run _ X.stack _ _ ⟨[.ref ea,u],[]⟩ [.ref ea,u] [.ref ea,v] _ E0 (Y.make C [u] []) (q.Rw.make C [u] []) (hb _ [.ref ea,u] q.Bn rfl) (.cons rfl (.cons Q .nil)) V) fun R s' i=>?_);cases R with
 | error e=>exact False.elim i
 | ok fl=>
  cases fl with
  | ret O=>
   obtain⟨w3,H3,I3,l,ew,f,S,j,eH⟩:=q.after i;subst ew;subst eH;cases(show O=Value.none from l);refine⟨rfl,nc (ZA5 (oR ?_))⟩;obtain⟨P,y⟩:=I3.exc (C:=C) (dx:=some f) AO;refine⟨ea,P,some f,rfl,I3.bk _ _ F,y,?_⟩;have G:∀p∈X.pn++pins,p.1≠ea:=fun p Ec z=>by
    have:=B8 (I1.pin p Ec).1;rw[z] at this;exact absurd this (Nat.not_lt.mpr JB)
   have L:=I3.forget (a:=ea) AO G;have M:MQ (upd (upd (upd H1 ea (Ek ea C none)) f (.xd [(fld,v)])) ea (Ek ea C (some f))) ea=upd H1 f (.xd [(fld,v)]):=by
    funext b
    by_cases z:b=ea
    ·subst z;rw[Vz,AX (B9 j),J]
    ·rw[S7 z,AX z]
     by_cases k:b=f
     ·subst k;rw[AO,AO]
     ·rw[AX k,AX k,AX z]
   rw[M] at L;refine go pins σ _ s' ea C (some f) none L ⟨⟨_,_,y,rfl,rfl,rfl,by simp,rfl⟩,fun T z=>by cases z⟩ ⟨by rw[AX (B9 j)];exact J,?_⟩ (fun T z=>by cases z) (fun p Ec=>⟨G p Ec,by simp⟩) (hE f S);exact Nj (Bi I1.sz JB)
  | next=>exact False.elim i
  | brk=>exact False.elim i
  | cont=>exact False.elim i⟩
theorem sI (BI:X.stack=X.env::X.outer)(V:X.ex=[])(y:X.N.Nodup)(m:X.N[j]?=some n)(a:X.env.scope.names.lookup n=some .local)(U:Gl X x)(R:X.mg x=some (.ref S))
  (t:∀(pn:ZHQ) (xe:Value->Shared->Prop) (E1:St->XK),Goes (X.EH pn xe) E1->Fh (X.EH pn xe) body (IL E1))
  (hh:∀e,Fh (X.CY e) (b0::CY) th) (BQ:(x == ("__debug__":Str))=false:=by decide) :
  QS X (.Try body [.ExceptHandler (some (.Name x np)) (some n) (b0::CY) HL] [] [] pos) (Zz X.K S j IL th):=⟨by
 have t:=fun pn xe E1 g=>(t pn xe E1 g).h;have hh:=fun e=>(hh e).h;intro pins s σ H D I h;obtain⟨E1,h1,h2⟩:=h;have G:X.env.frame=some X.env.locals:=by
  rcases I.ok.Hw with e | ⟨_,G⟩
  ·rw[e] at BI;exact absurd (rA List.length BI) (by simp)
  ·exact G
 refine wpAny_Try_except ?_;refine qG (t (X.pn++pins) _ E1 ?_ [] s σ H D I.EH h1) (fun f s1 q=>?_) (fun e s1 q=>q)
 ·intro Us σ1 H1 s1 ea C dx tb I1 M ⟨A,i⟩ F k hE;have c:Inv X pins σ1 H1 s1:=I1.HA;have i:X.s₀.heap.get? ea=none:=i;have F:∀T,tb=some T->H1 T=none/\X.s₀.heap.get? T=none:=F;have k:∀p∈X.pn++pins,p.1≠ea/\tb≠some p.1:=fun p q=>k p (Hr _ q);refine Vg (outer:=X.outer) (L:=X.env.locals) (by rw[<- BI];exact c.ok.frames) (base:=X.base) (by rw[<- BI];exact c.stack) G M fun h' T kp J E=>?_;have B:=c.Ra BI M A i F k kp;obtain⟨V3,YB⟩:=h2 σ1 C dx ea H1 hE A;refine wpAny_handleBy_cons ?_ (fun z=>by cases z);refine codeAny_handlers_test ?_;refine JL (X:=X.CY (.ref ea)) B.CY U R ?_ BQ;obtain⟨oe,vs,Y,Z,hd,HD,hz,h3⟩:=E.obj;have LT:PySem.W.Looks (model X.prog X.w) h' (typeOf (.ref ea)) (.ref C):=by
   rw[<- Z];exact(ZGX Y).andThen .now
  refine(PySem.W.exm_one (K:=X.K) B.Bn LT V3).here ?_;refine codeAny_handlers_suite_as ?_;have fl:∀b∈Ca (X.env::X.outer),∃o,h'.get? b=some o/\∀vs,o.data≠.fields vs:=fun b t=>by
   have st:=B.stack;rw[BI] at st;obtain⟨_,o,ho,hn⟩:=st.mem t;exact⟨o,ho,hn⟩
  refine iT (s:={ s1 with heap:=h' }) (l:=X.env::X.outer) E fl fun h4 XU P=>?_
  have Y1:∀T',some T=some T'->H1 T'=none/\X.s₀.heap.get? T'=none:=fun T' eT=>by
   cases eT;exact⟨c.AF.fresh J,Nj (Bi c.sz J)⟩
  have W9:∀p∈X.pn++pins,p.1≠ea/\some T≠some p.1:=fun p q=>⟨(k p q).1,fun z=>by
   have O:=B8 (c.pin p q).1;rw[<- Bj z] at O;exact absurd O (Nat.not_lt.mpr J)⟩
  have I4:=B.Ra BI E A i Y1 W9 XU;have I5:=I4.p8 P A i fun p q=>(k p q).1;refine Zc (X:=X.CY (.ref ea)) (v:=.ref ea) I5.CY y m (.inl a) rfl (fun Q I6=>?_) (.inr a);refine qG (hh (.ref ea) pins Q _ _ (D.drop j) I6 YB) (fun f s7 q=>?_) (fun _ _ z=>z.elim);cases f with
  | next=>
   obtain⟨σ7,H7,I7,d⟩:=q;exact(I7.KY I.ok).unbind y m a fun s' I9=>⟨_,_,I9,d⟩
  | brk=>
   obtain⟨σ7,H7,I7,d⟩:=q;exact(I7.KY I.ok).unbind y m a fun s' I9=>⟨_,_,I9,d⟩
  | cont=>
   obtain⟨σ7,H7,I7,d⟩:=q;exact(I7.KY I.ok).unbind y m a fun s' I9=>⟨_,_,I9,d⟩
  | ret u=>
   obtain⟨v,σ7,H7,I7,r,d⟩:=q;exact(I7.KY I.ok).unbind y m a fun s' I9=>⟨v,_,_,I9,r,d⟩
 ·cases f with
  | next=>
   obtain⟨σ7,H7,I7,d⟩:=q;exact wg ⟨_,_,I7.HA,d⟩
  | brk=>
   obtain⟨σ7,H7,I7,d⟩:=q;exact⟨_,_,I7.HA,d⟩
  | cont=>
   obtain⟨σ7,H7,I7,d⟩:=q;exact⟨_,_,I7.HA,d⟩
  | ret u=>
   obtain⟨v,σ7,H7,I7,r,d⟩:=q;exact⟨v,_,_,I7.HA,r,d⟩⟩
end
section
variable {K:ZHP}{x:Addr}{fill expr:Bool}
structure ExGet (K:ZHP) (C:Addr):Prop where
 ga:PySem.W.findIn K (.ref C) "__getattribute__"=some (some (.builtin "BaseException.__getattribute__"))
 gt:PySem.W.findIn K (.ref C) "__getattr__"=some none
 mb:PySem.W.mroIn K C (.type "BaseException")=some true
theorem ZDW (o:Value):bindSpecial (.builtin "BaseException.__getattribute__") o=pure (.builtin "BaseException.__getattribute__", [o]):=by
 first | rfl | kernel_rfl
theorem ZAr (X:K.In s.heap)(I:PySem.W.InstAt s.heap x ox C od)(g:ExGet K C)
  (h:wpAny (model prog w) A.in1 (Builtin.«object.__getattribute__» ⟨[.ref x,.str name tk],[]⟩) (fun a s'=>match a with | .done (.ret v)=>wpAny (model prog w) A (handedOut v) Q E s' | _=>False) (fun _ _=>False) s) :
  wpAny (model prog w) A (getAttrBy (.ref x) (.str name tk) fill expr) Q E s:=by
 obtain⟨hh,m,d,t,os⟩:=s;have b:=I.type (M:=model prog w);have k:=bL (M:=model prog w) X g.ga;have j:=bL (M:=model prog w) X g.gt;have i:=ZGc (M:=model prog w) X g.mb;unfold getAttrBy;refine sR (nc (b.at (nc (k.at ?_))));have l:(Value.builtin "BaseException.__getattribute__" == Value.builtin "object.__getattribute__")=false:=by decide +kernel
 dsimp only;rw[o5 (by rw[l,Tp];decide)];unfold getAttrByItsOwn hookBefore;rw[pQ (show onTheHeap (Value.ref C)=true from rfl)];refine nc (j.at (nc (xf (sR ?_))));unfold callGetattribute;rw[o5 (show ¬ (expr && onTheHeap (Value.builtin "BaseException.__getattribute__"))=true by cases expr <;> decide)]
 unfold boundAndCalled;rw[ZDW];refine nc (oR ?_);show wpAny _ _ (call (.builtin "BaseException.__getattribute__") [.ref x,.str name tk]) _ _ _;refine ZA1 (ZAC PySem.F.excAttr_ValueError.ga.plain PySem.F.entry_bexc_ga ?_);have e:builtinKind "BaseException.__getattribute__"=some .slot:=by decide +kernel
 have c:splitId "BaseException.__getattribute__"=some ("BaseException","__getattribute__"):=by decide +kernel
 have f:=PySem.F.args_bexc_ga (.ref x) (.str name tk);simp only[checkBuiltinCall,e,c];unfold isInstance;refine nc (nc (b.at (i.at ?_)));rw[o5 (by decide)];refine wQ f ?_;refine qG h (fun a s' z=>?_) fun _ _ z=>z.elim;rcases a with(_ | _ | _ | _) | _ <;> first | exact z | exact z.elim
theorem ZEw (X:K.In s.heap)(I:PySem.W.InstAt s.heap x ox C od)(g:ExGet K C)(a:PySem.W.findObj K C od name=some (.value v))(hh:PySem.W.handedIn v=true)(h:Q v { s with toks:=s.toks+1 }):
  wpAny (model prog w) A (getAttr (.ref x) name expr) Q E s:=by
 unfold getAttr;refine nc (wpAny_mkText (ZAr (s:={ s with toks:=s.toks+1 }) X I g ?_))
 obtain⟨e,f,d,t,os⟩:=s;have c:=I.type (M:=model prog w);have b:=PySem.W.looks_find (M:=model prog w) X I a;refine nc (oR (nc (oR (nc (c.at (nc (b.at ?_)))))));refine oR ?_;show wpAny _ _ (handedOut v) _ _ _;rw[PySem.W.handedOut_of hh];exact oR h
end
structure oE (K:ZHP) (C:Addr):Prop extends ExGet K C where
 cl:(PySem.W.clsIn K C).isSome=true
 gc:PySem.W.findIn K (.ref C) "__class__"=some (some (.builtin "object.__class__"))
 gn:PySem.W.specialIn K (.builtin "object.__class__") "__get__"=some (some (.builtin "getset_descriptor.__get__"))
 tk:PySem.W.takesIn K (.builtin "object.__class__")=some true
 mo:PySem.W.mroIn K C (.type "object")=some true
def Ti (K:ZHP)(ta:TE)(f:Str):TE:=fun σ H Q=>ta σ H fun x H1=>∃a C dx fs v,x=.ref a/\H1 a=some (Fz.IA a C (some dx))/\H1 dx=some (.xd fs)/\ExGet K C/\PySem.W.hasDictIn K C=true/\Be K C f/\fs.lookup f=some v/\Q v H1
section
variable {f:Str}
theorem qP (b:QE X e ta)(m:attributeBase e f X.env (eval e X.env)=eval e X.env:=by rfl):QE X (.Attribute e f pos) (Ti X.K ta f):=⟨by
 have b:=b.h;intro pins s σ H Q I h;refine bj m (AR (b pins s σ H _ I h) fun u s1 ⟨x,H1,I1,i,a,C,dx,fs,v,ex,ea,w,g,hd,n,l,q⟩=>?_);subst ex;obtain rfl:u=Value.ref a:=i;obtain⟨ob,vs,h1,h2,t,p⟩:=(I1.AF a _ ea).1;obtain⟨mA,ns,r⟩:=I1.AF dx _ w;obtain⟨od,d,j⟩:=dN ns;obtain⟨u,k,c⟩:=E9.some_of (v:=v) (o:=mA f) (by rw[<- l];exact r f);have J:PySem.W.InstAt s1.heap a ob C (some od):=⟨h1,h2,by unfold PySem.W.notCls;rw[p],by rw[t];exact d⟩;exact ZEw I1.Bn J g (ZGZ hd n rfl (by rw[j f,k])) (iR c) ⟨v,H1,I1.tok _,c,q⟩⟩
end
end L2
namespace Fz
open L2 Lw
variable {xs:List PV}{E:Ent0}{ss:List Slot}{σ:L2.St}{F F' H H':Hp}{ta tb tc te:TE}{tp:Bool}{nx:List Slot->Prop}{R:B3}{α:Type}
structure Jr (K:ZHP) (a:Addr) (xs:List PV):Prop where
 K8:xs.all flat=true
 sq:∀H,AU K H a (xs.map Fz.enc)
 ob:∃o:Obj,K.lookup a=some o/\o.cls=.type "tuple"
theorem Jr.of {K:ZHP}{a:Addr}{vs:List V}(h:∀H,AU K H a vs)(e:xs.map Fz.enc=vs)(f:xs.all flat=true):Jr K a xs:=by
 subst e;refine⟨f,h,?_⟩;rcases h (fun _=>none) with h | ⟨o,A3,n,h1,h2,_⟩
 ·rcases h with h | ⟨_,h⟩
  ·cases h
  ·cases h
 ·exact⟨o,h1,h2⟩
theorem ZAn (b:List α)(x:α)(j:Nat):(b.take j++x::b.drop j).Perm (x::b):=by
 have h:=List.perm_middle (a:=x) (l₁:=b.take j) (l₂:=b.drop j)
 rwa [Km] at h
theorem Ye {a:List Str}{x:Str}(j:Nat)(h:a.Nodup)(hx:x∉a):(a.take j++x::a.drop j).Nodup:=(ZAn a x j).nodup_iff.mpr (List.nodup_cons.mpr ⟨hx,h⟩)
theorem ZDs (xs:List α){i j:Nat}(hi:i<=j)(a:j<=xs.length):Du xs (some (i:Int)) (some (j:Int))=(xs.drop i).take (j - i):=by
 unfold Du;rw[HT.Ji,HT.Ji,Jd a,Jd (Bi hi a)]
theorem lZ (ns:List Str)(x:Str):(ns.filter fun y=>!alike (.str y) (.str x))=wo ns x:=by
 unfold wo alike;rfl
section
variable [Xw]
variable {F1:Hp}{K:ZHP}{js:List Nat}{ti:TE}{k:PV->Prop}
theorem Ym {i:Nat}(hi:ss[i]?=some .AM)(h:Wq ss ta fun tp xs=>tp=false/\∃ns:List Str,xs=ns.map PV.str/\(∀x∈ns,Nm x)/\ns.length<=1000/\∀x:Str,Nm x->x∉ns->k (.str x)):
  Wp ss (DK (Pq K) [] E0 (Ag (BD i) (Ag ta BM))) k:=⟨fun E σ F H Q S q=>by
 obtain⟨p,e,_⟩:=S.ok i _ hi;refine⟨_,e,h.go E σ F H _ S fun v tp xs F1 H1 a sv ⟨g,ns,ex,d,c,kk⟩=>?_⟩;subst g;subst ex;obtain⟨l,vs,f,hn,b,r⟩:=sv;subst f;rw[r.strs] at b;exact⟨p,l,ns,rfl,a.st.EV hi e,AN.of b,fun z=>hn i hi (z▸e),d,c,fun x H3 hx Iz s=>q _ _ F1 H3 (a.trans (a.st.QV hi e s)) (.str x) (kk x hx Iz)⟩⟩
def XG:Pre:=fun l R=>∃(ns:List Str) (r:Str),l=[.sq false (ns.map .str),.is (.str r)]/\ns.length<64/\R=.is fun p=>∃ts:List Str,ts.Perm ns/\sortedS ts=true/\p=Ed r 0 ts
end
end Fz
namespace Fz
open L2 Lw
variable {E:Ent0}{AJ ss:List Slot}{σ σ':L2.St}{F F' H H':Hp}{te:TE}{v:V}{nx:List Slot->Prop}{R:B3}{j n:Nat}{vs:List V}{Q:VK}{X:XK}
section
variable [Xw]
variable {K:ZHP}{ta tb tc:TE}{k:PV->Prop}{tp:Bool}{xs:List PV}
theorem ZDY (h:Wp ss ta fun p=>∃xs,p=.tup xs/\xs≠[]/\Wp ss tb fun q=>∃ys,q=.tup ys/\xs.length+ys.length<=100000/\k (.tup (xs++ys))):Wp ss (CD (fj K) ta tb) k:=⟨fun E σ F H Q S q=>
 h.go E σ F H _ S fun v p F1 H1 g l ⟨xs,e,hx,h2⟩=>h2.go E σ F1 H1 _ g.st fun t p2 F2 H2 d j ⟨ys,s,u,kk⟩=>by
  subst e;subst s;cases l with
  | @tup a vs _ o s1=>
   cases j with
   | @tup b ws _ n s2=>
    have g1:=d.ff _ _ o;have f:=s1.mono d.ff;have l1:=f.length;have l2:=s2.length;refine⟨a,b,vs,ws,rfl,rfl,AU.of (d.st.fh _ _ g1),AU.of (d.st.fh _ _ n),fun z=>hx ?_,small (by omega),fun z=>?_,fun _ c m=>?_⟩
    ·rw[z] at l1;exact ZG8 l1.symm
    ·have r:ys=[]:=by rw[z] at l2;exact ZG8 l2.symm
     subst r;rw[El] at kk;exact q _ _ F2 H2 (g.trans d) (.tup g1 f) kk
    ·have i:=d.st.alloc m (.tup (vs++ws));exact q _ _ _ _ (g.trans (d.trans i)) (.tup AO ((f.append s2).mono i.ff)) kk⟩
end
abbrev Es:=List Slot->B3->(Ex->Prop)->Prop
def Cf (pre:Es):Sp:=fun vs H Q X=>∃(ss:List Slot) (R:B3) (D:Ex->Prop) (F:Hp) (A:List Addr),pre ss R D/\Sg (E3 A F H) ss (vs.map some) F H/\(∀v F' H',Fin (E3 A F H) F' H'->R.ok (E3 A F H) F' H' v->Q v H')/\
 ∀(x:Ex) (C:Value) (dx:Option Addr) F' H',Fin (E3 A F H) F' H'->D x->x.at F' C dx->X C dx H'
@[reducible] noncomputable def lA (X:XK) (D:Ex->Prop):Xw:=⟨fun _=>X,fun _=>True,D⟩
@[reducible] noncomputable def HE (E:Ent0) (J:List Slot->Prop) (D:Ex->Prop):Xw:=⟨fun σ C dx H=>∃ss F x,J ss/\Sg E ss σ F H/\D x/\x.at F C dx,J,D⟩
def x8:PV->Prop
 | .str x=>(reprText x).length<=100000
 | .int i=>i.natAbs.log2<1920
 | _=>False
section
variable [Xw]
variable {pre:Es}{t:TA}{k:PV->Prop}{K:ZHP}{C S:Addr}{fld:Str}
theorem Hf (h:Wa ss t fun l=>∃k' D,pre l (.is k') D/\Xw.J ss/\(∀x,D x->Xw.D x)/\∀p,k' p->k p):Wp ss (O0 (Cf pre) Xw.e t) k:=⟨fun E σ F H Q S q=>
 h.go E σ F H _ S fun vs l F1 H1 b a ⟨k',D,c,g,i,kk⟩=>by
  refine⟨l,.is k',D,F1,[],c,b.st.OC a,fun v F' H' f ⟨p,r,kp⟩=>?_,fun x C dx F' H' f d B0=>?_⟩
  ·exact q v p F' H' (b.trans (b.st.back (fun _ h=>absurd h BJ) f)) r (kk p kp)
  ·exact E.hx ss σ F' H' x C dx g (b.st.back (fun _ h=>absurd h BJ) f).st (i x d) B0⟩
theorem ZEJ (h:We ss t fun ps=>ps.length<=1000/\Xw.J ss/\Xw.D ⟨C,[],[]⟩):Ws ss (aU C Xw.e t) nx R:=⟨fun E D σ F H S hn f=>
 h.go E σ F H _ S fun vs ps F1 H1 a rs AK=>by obtain⟨b,c,d⟩:=AK;exact⟨by rw[rs.length];exact b,E.hx ss σ F1 H1 ⟨C,[],[]⟩ (.ref C) none c a.st d ⟨rfl,.inl ⟨rfl,rfl,rfl⟩⟩⟩⟩
theorem G3 (h:Wp ss te fun p=>x8 p/\Xw.J ss/\Xw.D ⟨C,[fld],[p]⟩):Ws ss (Rz C fld Xw.e (Ag te BM)) nx R:=⟨fun E D σ F H S hn g=>
 h.go E σ F H _ S fun v p F1 H1 b r AK=>by
  obtain⟨sp,c,f⟩:=AK;refine⟨v,rfl,?_,fun d hd=>?_⟩
  ·cases r <;> first | exact sp | exact sp.elim
  ·have a:=b.st.alloc hd (.xd [(fld,v)]);exact E.hx ss σ _ _ ⟨C,[fld],[p]⟩ (.ref C) (some d) c a.st f ⟨rfl,.inr ⟨d,[v],rfl,AO,rfl,.cons (r.mono a.ff) .nil⟩⟩⟩
end
section
variable {pre:Es}
theorem J9 {N:List Str}{t:TS}(h:Cf pre vs H Q X)(g:∀ss R D,pre ss R D->ss.length=n)
  (hw:∀ss R D,pre ss R D->let _i:Xw:=lA X D;Ws (ss++List.replicate (N.length - n) .any) t (fun _=>∃k,R=.is k/\k .A8) R):t { nx:=fun _ H'=>Q .A8 H',rt:=Q } (L2.start N vs) H:=by
 obtain⟨ss,R,D,F,A,a,S,q,b⟩:=h;have e:vs.length=n:=by have:=S.len;rw[AQ] at this;rw[<- this];exact g ss R D a
 unfold L2.start;rw[e];letI:Xw:=lA X D;refine(hw ss R D a).go ⟨E3 A F H,fun AJ σ' F' H' x C dx _ S' d B0=>b x C dx F' H' S'.toFin d B0⟩ _ _ F H (S.grown _) (fun AJ σ' F' H' ⟨k,e,c⟩ S' _=>?_) fun v F' H' f ok=>q v F' H' f ok;subst e;exact q .A8 F' H' S'.toFin ⟨.A8,.A8,c⟩
theorem JU (b:∀ss R D,pre ss R D->ss.length=n)(h:Cf pre vs H Q X):vs.length=n:=by
 obtain⟨ss,R,D,F,A,a,S,q⟩:=h;have:=S.len;rw[AQ] at this;rw[<- this];exact b ss R D a
noncomputable abbrev Ent0.at (E:Ent0)(F:Hp):Ent0:=⟨E.A,F,E.H0,E.B⟩
theorem Fin.un (S:Fin E F H)(f:Fin (E.at F) F' H'):Fin E F' H':=⟨f.fh,S.f0.trans f.f0,f.keep,fun a o e=>(f.fresh a o e).elim (fun e=>S.fresh a o e) .inr,f.HB,f.Ll,f.a0,f.bF,f.bH,f.b0⟩
theorem Ok.un {G:Hp}{s:Slot}{o:Option (Option V)}:Ok (E.at G) F H s o↔Ok E F H s o:=by
 cases s with
 | sq tp xs=>cases tp <;> exact Iff.rfl
 | _=>exact Iff.rfl
theorem Sg.un (S:Sg E ss σ F H)(S':Sg (E.at F) AJ σ' F' H'):Sg E AJ σ' F' H':=⟨S.toFin.un S'.toFin,S'.len,fun i s hi=>Ok.un.mp (S'.ok i s hi),S'.CH⟩
theorem Sg.eM (S:Sg E ss σ F H):Sg (E.at F) ss σ F H:=⟨⟨S.fh,AB.refl _,S.keep,fun _ _ e=>.inl e,S.HB,S.Ll,S.a0,S.bF,S.bH,S.b0⟩,S.len,fun i s hi=>Ok.un.mpr (S.ok i s hi),S.CH⟩
theorem B3.un {G:Hp}(h:R.ok (E.at G) F H v):R.ok E F H v:=by
 cases R <;> exact h
theorem Sg.p9 (S:Sg E ss σ F H)(j:Nat):Sg E (ss.set j .any) (σ.set j none) F H:=by
 have at_:∀(i:Nat) (s:Slot),(ss.set j .any)[i]?=some s->s=.any∨(i≠j/\ss[i]?=some s):=fun i s hi=>by
  by_cases q:i=j
  ·subst q
   by_cases d:i<ss.length
   ·rw[Cm d] at hi;cases hi;exact .inl rfl
   ·rw[Kl (by rw[GX];omega)] at hi;cases hi
  ·rw[CL (B9 q)] at hi;exact .inr ⟨q,hi⟩
 refine⟨S.toFin,by rw[GX,GX];exact S.len,fun i s hi=>?_,fun i k u w l Mz hi c b a=>?_⟩
 ·rcases at_ i s hi with rfl | ⟨q,hi⟩
  ·trivial
  ·rw[CL (B9 q)];exact S.ok i s hi
 ·rcases at_ i u hi with rfl | ⟨q,hi⟩
  ·exact b
  ·rcases at_ k w c with rfl | ⟨q2,c⟩
   ·exact a
   ·rw[CL (B9 q)] at b;rw[CL (B9 q2)] at a;exact S.CH i k u w l Mz hi c b a
end
section
variable [Xw]
variable {K:ZHP}{S:Addr}{tb:(L2.St->XK)->TS}{th:TS}
theorem zI (J:List Slot->Prop)(Dx:Ex->Prop)(l:∀E:Ent0,@Ws (HE E J Dx) ss (tb (HE E J Dx).e) nx R)
  (hh:∀Hh x,J Hh->Dx x->PySem.W.exmOne K (.ref x.C) (.ref S)=some true/\Ws (Hh.set j (.is (.exc x.C x.ns x.xs))) th (fun DU=>nx (DU.set j .any)) R):Ws ss (Zz K S j tb th) nx R:=⟨fun E D σ F H S0 hn i=>by
 refine⟨(HE (E.toEnt0.at F) J Dx).e,@Ws.go (HE (E.toEnt0.at F) J Dx) _ _ _ _ (l (E.toEnt0.at F)) (@Ent.mk (HE (E.toEnt0.at F) J Dx) (E.toEnt0.at F) fun ss σ F H x C dx b S d B0=>⟨ss,F,x,b,S,d,B0⟩) D σ F H S0.eM (fun AJ σ' F' H' n S' ff=>hn AJ σ' F' H' n (S0.un S') ff) (fun v F' H' f ok=>i v F' H' (S0.toFin.un f) (B3.un ok)),fun σ1 C dx ea H1 k JB=>?_⟩;obtain⟨Hh,F1,x,b,S1,o,p,B0⟩:=k;obtain⟨Ks,hw⟩:=hh Hh x b o;cases p;have s:=S0.un S1;have m:=s.alloc JB (IA ea x.C dx);have r:Rep (upd F1 ea (IA ea x.C dx)) (.ref ea) (.exc x.C x.ns x.xs):=by
  rcases B0 with⟨h,g,c⟩|⟨a,vs,h,g,c,q⟩
  ·subst c;rw[h,g];exact .Pk AO
  ·subst h;exact .exc AO (m.ff _ _ g) c (q.mono m.ff)
 exact⟨Ks,hw.go E (D.drop j) _ _ _ (m.st.FQ r) (fun DU σ2 F3 H3 n2 S2 ff=>hn _ _ F3 H3 n2 (S2.p9 j) (S1.f0.trans (m.ff.trans ff))) fun v F' H' f ok=>i v F' H' f ok⟩⟩
variable {k:PV->Prop}{fld:Str}
theorem ZAi (h:Wp ss te fun p=>∃C x,p=.exc C [fld] [x]/\ExGet K C/\PySem.W.hasDictIn K C=true/\Be K C fld/\k x):Wp ss (Ti K te fld) k:=⟨fun E σ F H Q S q=>
 h.go E σ F H _ S fun v p F1 H1 b r AK=>by
  obtain⟨C,x,e,g,hd,n,kk⟩:=AK;subst e;cases r with
  | @exc a _ dx _ vs _ f d i c=>
   match vs,c with
   | [u],.cons r1 .nil=>exact⟨a,C,dx,_,u,rfl,b.st.fh _ _ f,b.st.fh _ _ d,g,hd,n,by simp[List.zip,List.lookup],q _ _ F1 H1 b r1 kk⟩⟩
end
end Fz
namespace L2
variable {C:Addr}{X:Cx}
noncomputable def MI (s:Stmt):Stmt:=match s with
 | .ClassDef _ _ _ (d::_) ..=>d
 | s=>s
def FJ (P:Program)(w:World)(K:ZHP)(mg:ZHR)(base:Heap)(C:Addr)(fld:Str):Prop:=
 ∃(fI:Addr) (fd:FuncData) (par:Str),ID K C fI fld/\Cj P w K mg base Eg 1 fI fd ["self", par] (MD C fld)/\Binds K fd ["self", par] []
theorem My {fld:Str}{a b:Str}:∀vs H Q E,MD C fld vs H Q E->vs.length=[a,b].length:=fun vs H Q E h=>by obtain⟨ea,v,rfl,_⟩:=h;rfl
theorem N4 {fld:Str}{vs:List V}{H:Hp}{Q:VK}{E:XK}{N:List Str}(a:N.length=2)(h:MD C fld vs H Q E):
  LQ (HN (k9 C (Ag (BD 0) (Ag (XY (BD 1)) BM)))) (LQ (gH C fld (BD 0) (BD 1)) Sd) { nx:=fun _ H'=>Q .A8 H',rt:=Q } (start N vs) H:=by
 obtain⟨ea,v,rfl,sv,hx,q⟩:=h;have e0:(start N [V.ref ea,v])=[some (.ref ea),some v]:=by
  unfold start;simp[a]
 rw[e0];refine⟨_,rfl,_,rfl,sv,fun y=>⟨ea,_,rfl,hx,?_⟩⟩;refine⟨_,rfl,_,rfl,ea,rfl,hx,fun d hd=>q d hd⟩
theorem QQ:Goes X (fun _=>E0):=fun _ _ _ _ _ _ _ _ _ _ _ _ _ h=>h.elim
section
variable {x:Str}{fld:Str}{E:St->XK}{np Ba pos:Pos}{e0:Expr}{t:TA}{j:Nat}
theorem JF (c:FJ X.prog X.w X.K X.mg X.base C fld)(f:Gl X x)(d:X.mg x=some (.ref C))(b:Bf j X.A)(e:2<=j)(g:X.calm=true)(a:X.ex=[])(go:Goes X E)(i:QA X [e0] t)
  (BQ:(x == ("__debug__":Str))=false:=by decide) (he:starEach [e0] X.env=(false,eval e0 X.env)::starEach [] X.env:=by rfl) (BY:(backTo Ba (starEach [] X.env)).any (·.1)=false:=by rfl) :
  QS X (.Raise (some (.Call (.Name x np) [e0] [] Ba)) none pos) (Rz C fld E t):=by
 obtain⟨fI,fd,par,k,Fn,h⟩:=c;exact zJ k f d Fn h (b.mono e) g a go i BQ he BY
end
end L2
namespace Fz
open L2 Lw
variable {C a:Addr}{ss:List Slot}{ta tb tc te:TE}{cs ns:List Str}{r x:Str}{F:Hp}{d d':Ab}
theorem oW {b c n:Int}(d:1<=b)(a:b<=c)(hn:0<=n):∃m:Nat,(if(if c<n then c else n) > b then(if c<n then c else n) else b)=(m:Int)/\(m:Int)<=c:=by
 have h:∀z:Int,1<=z->z<=c->∃m:Nat,z=(m:Int)/\(m:Int)<=c:=fun z e h1=>⟨z.toNat,by omega,by omega⟩;apply h
 ·split
  ·omega
  ·omega
 ·split
  ·split <;> omega
  ·omega
noncomputable def TC (K:ZHP)(C:Addr):Bool:=PySem.W.findIn K (.ref C) "__getattribute__" == some (some (.builtin "BaseException.__getattribute__")) && (PySem.W.findIn K (.ref C) "__getattr__" == some none && (PySem.W.mroIn K C (.type "BaseException") == some true && ((PySem.W.clsIn K C).isSome && (PySem.W.findIn K (.ref C) "__class__" == some (some (.builtin "object.__class__")) && (PySem.W.specialIn K (.builtin "object.__class__") "__get__" == some (some (.builtin "getset_descriptor.__get__")) && (PySem.W.takesIn K (.builtin "object.__class__") == some true && PySem.W.mroIn K C (.type "object") == some true))))))
theorem ZCA {K:ZHP}(h:TC K C=true):oE K C:=by
 unfold TC at h;simp only[Df,ZBJ] at h;obtain⟨h1,h2,f,e,d,c,b,a⟩:=h;exact⟨⟨h1,h2,f⟩,e,d,c,b,a⟩
section
variable [Xw]
variable {K:ZHP}{k:PV->Prop}
theorem iY {neg:Bool}(c:Jr K a (ns.map .str))(h:Wp ss ta fun p=>∃x,p=.str x/\k (.bl (if neg then !decide (x∈ns) else decide (x∈ns)))):Wp ss (CD (Ko K neg) ta (tC (.ref a))) k:=⟨fun E σ F H Q S q=>
 h.go E σ F H _ S fun v p F1 H1 d b AK=>by
  obtain⟨x,e,kk⟩:=AK;subst e;cases b.inv;have sq:=c.sq H1;rw[Yi] at sq;refine⟨a,ns.map V.str,rfl,.inr sq,rfl,HX ns,?_⟩;rw[R3];exact q _ _ F1 H1 d (.bl _) kk⟩
end
noncomputable def IT (r:Str):Bool:=decide (r∈([("none":Str), "ahead","all"]))
noncomputable def j5 (C:Addr)(r:Str):Ex:=⟨C,["rule"],[.str r]⟩
def VZ (C:Addr):Es:=fun l R D=>∃r:Str,l=[.is (.str r)]/\(reprText r).length<=100000/\(R=.is fun p=>p=.A8/\IT r=true)/\D=fun x=>x=j5 C r/\IT r=false
def zD (r:Str)(ns:List Str)(p:PV):Prop:=IT r=true/\∃ts:List Str,ts.Perm ns/\sortedS ts=true/\p=.tup [.str r,.int 0,.tup (ts.map .str)]
def Uv (C:Addr):Es:=fun l R D=>∃(tp:Bool) (ns:List Str) (r:Str),l=[.sq tp (ns.map .str),.is (.str r)]/\ns.length<64/\(reprText r).length<=100000/\(R=.is (zD r ns))/\D=fun x=>x=j5 C r/\IT r=false
theorem lU (h:x.length<=100)(hx:∀c∈x.cps.toList,c<16 ^ 8):(reprText x).length<=100000:=by
 have:=PySem.StrLaws.reprText_len x hx;omega
theorem o4 (h:Nm x):(reprText x).length<=100000:=lU (Bi h.2.1 (by decide)) fun c a=>Ht (h.2.2 c a).2 (by decide)
noncomputable def Qb:PV->Bool
 | .A8=>true
 | _=>false
theorem Rep.Qb {v:V}{p:PV}(r:Rep F v p):decide (v=.A8)=Qb p:=by
 cases r <;> rfl
section
variable [Xw]
variable {k:PV->Prop}
theorem qW (h:Wp ss ta fun p=>Wp ss tb fun q=>q=.A8/\k (.bl (!Qb p))):Wp ss (CD (fun x y H Q=>y=.A8/\Q (.bl (!decide (x=.A8))) H) ta tb) k:=⟨fun E σ F H Q S q=>
 h.go E σ F H _ S fun v p F1 H1 a c h2=>h2.go E σ F1 H1 _ a.st fun f p2 F2 H2 d b AK=>by
  obtain⟨e,kk⟩:=AK;subst e;cases b.inv;refine⟨rfl,?_⟩;rw[c.Qb];exact q _ _ F2 H2 (a.trans d) (.bl _) kk⟩
variable {K:ZHP}{t u:TE}{pre:Es}{tA:TA}
theorem nq (h:Wp ss t k):Wp ss (YO t u) k:=⟨fun E σ F H Q S q=>.inl (h.go E σ F H Q S q)⟩
theorem yP (h:Wp ss u k):Wp ss (YO t u) k:=⟨fun E σ F H Q S q=>.inr (h.go E σ F H Q S q)⟩
theorem xa (h:Wq ss ta fun tp xs=>tp=true/\∃ns:List Str,xs=ns.map PV.str/\Wp ss tb fun p=>∃x,p=.str x/\x∈ns/\k (.int (ns.idxOf x:Nat))):Wp ss (JE K "tuple" (gO K) ta (Ag tb BM)) k:=⟨fun E σ F H Q S q=>
 h.go E σ F H _ S fun v tp xs F1 H1 b sv ⟨g,ns,e,h2⟩=>by
  subst e;subst g;obtain⟨l,vs,rfl,f,r⟩:=sv.seq b.st;refine⟨.inr (.inr (.inr (.inr ⟨rfl,_,f⟩))),h2.go E σ F1 H1 _ b.st fun m p2 F2 H2 a c ⟨x,i,hx,kk⟩=>?_⟩;subst i;cases c.inv;obtain⟨n,Bv,j,CP,d⟩:=(sv.mv a).seq a.st;cases j;rw[d.strs] at CP;exact⟨l,ns,x,rfl,rfl,AU.of CP,hx,q _ _ F2 H2 (b.trans a) (.int _) kk⟩⟩
theorem Ss (h:Wp ss te fun p=>∃x,p=.str x/\x.length<=1000/\k (.bl (isNm x))):Wp ss (DK Lo [] E0 (Ag te BM)) k:=⟨fun E σ F H Q S q=>
 h.go E σ F H _ S fun v p F1 H1 a r AK=>by
  obtain⟨x,e,hx,kk⟩:=AK;subst e;cases r.inv;exact⟨x,rfl,hx,fun H3 s=>q _ _ F1 H3 (a.trans (a.st.grow s)) (.bl _) kk⟩⟩
theorem su {k:List PV->Prop}(h:Wa ss tA fun l=>∃k' D,pre l (.new k') D/\Xw.J ss/\(∀x,D x->Xw.D x)/\∀xs,k' xs->k xs):Wn ss (O0 (Cf pre) Xw.e tA) k:=⟨fun E σ F H Q S q=>
 h.go E σ F H _ S fun vs l F1 H1 b a ⟨k',D,g,j,m,kk⟩=>by
  refine⟨l,.new k',D,F1,[],g,b.st.OC a,fun v F' H' f ⟨l,vs,xs,e,n,i,CP,r,c⟩=>?_,fun x C dx F' H' f d B0=>?_⟩
  ·subst e;exact q l vs xs F' H' (b.trans (b.st.back (fun _ h=>absurd h BJ) f)) n (b.none i) CP r (kk xs c)
  ·exact E.hx ss σ F' H' x C dx j (b.st.back (fun _ h=>absurd h BJ) f).st (m x d) B0⟩
end
inductive Ac where
 | put (x:Str) (i:Int) | take (x:Str) | move (x:Str) (i:Int) | turn (lo hi:Int)
noncomputable def aP:Ac->PV
 | .put x i=>.tup [.str "put", .str x,.int i]
 | .take x=>.tup [.str "take", .str x]
 | .move x i=>.tup [.str "move", .str x,.int i]
 | .turn lo hi=>.tup [.str "turn", .int lo,.int hi]
structure GC where
 noName:Addr
 there:Addr
 gone:Addr
 P8:Addr
 full:Addr
noncomputable def OR (C:Addr)(nm:Str):Ex:=⟨C,["name"],[.str nm]⟩
noncomputable def SQ (C:Addr)(i:Int):Ex:=⟨C,["at"],[.int i]⟩
noncomputable def ud (C:Addr):Ex:=⟨C,[],[]⟩
def inR (i:Int)(lo hi:Int):Prop:=lo<=i/\i<=hi
instance {i lo hi:Int}:Decidable (inR i lo hi):=by unfold inR;infer_instance
noncomputable def Ac.Aw (c:GC)(ns:List Str):Ac->Option Ex
 | .put x i=>if isNm x=false then some (OR c.noName x) else if x∈ns then some (OR c.there x) else if ¬ inR i 0 ns.length then some (SQ c.P8 i) else if 40<=ns.length then some (ud c.full) else none
 | .take x=>if x∉ns then some (OR c.gone x) else none
 | .move x i=>if x∉ns then some (OR c.gone x) else if ¬ inR i 0 (ns.length - 1) then some (SQ c.P8 i) else none
 | .turn lo hi=>if ¬ inR lo 0 ns.length then some (SQ c.P8 lo) else if ¬ inR hi lo ns.length then some (SQ c.P8 hi) else none
def Cb (x:Str):Prop:=(reprText x).length<=100000/\x.length<=1000
def HK (i:Int):Prop:=i.natAbs.log2<1920
def Ac.say:Ac->Prop
 | .put x i=>Cb x/\HK i
 | .take x=>Cb x
 | .move x i=>Cb x/\HK i
 | .turn lo hi=>HK lo/\HK hi
def Ac.Is (d:Ac)(ns:List Str)(d':Ab):Prop:=aP d=dP d'/\d'.Ok 40 ns
theorem tS {c:Nat}(h:LR c=true):97<=c/\c<=122:=by
 refine Jb fun hn=>?_;have e:∀i,i<26->IQ.cps.extract i (i+1)=#[97+i]:=by decide +kernel
 have a:∀i,i+(Str.length ⟨#[c]⟩)<=IQ.length->Builtin.Str.subAt IQ ⟨#[c]⟩ i=false:=fun i hi=>by
  have d:i+1<=26:=hi;show(IQ.cps.extract i (i+1) == #[c])=false;rw[e i (by omega)];cases b:(#[97+i] == #[c]) with
  | false=>rfl
  | true=>
   have q:=eq_of_beq b;simp at q;exact absurd ⟨by omega,by omega⟩ hn
 unfold LR at h;rw[PySem.W.occ_nil_of_no _ _ 1 a] at h;exact absurd h (by decide)
theorem fE (h:isNm x=true):Nm x:=by
 unfold isNm at h;simp only[Df,decide_eq_true_eq,Kj] at h;obtain⟨h1,h2,b⟩:=h;exact⟨by omega,by omega,fun c a=>tS (b c a)⟩
theorem Ac.good {c:GC}{d:Ac}(h:d.Aw c ns=none):∃d':Ab,d.Is ns d':=by
 cases d with
 | put x i=>
  simp only[Ac.Aw] at h;split at h
  ·cases h
  ·next h1=>
   split at h
   ·cases h
   ·next h2=>
    split at h
    ·cases h
    ·next h3=>
     split at h
     ·cases h
     ·next h4=>
      have f:inR i 0 ns.length:=Decidable.not_not.mp h3;obtain⟨a,b⟩:=f;obtain⟨n,rfl⟩:=EE a;refine⟨.put x n,rfl,fE (by cases e:isNm x <;> simp_all),h2,by omega,by omega⟩
 | take x=>
  simp only[Ac.Aw] at h;split at h
  ·cases h
  ·next h1=>exact⟨.take x,rfl,(Decidable.not_not.mp h1:x∈ns)⟩
 | move x i=>
  simp only[Ac.Aw] at h;split at h
  ·cases h
  ·next h1=>
   split at h
   ·cases h
   ·next h3=>
    have f:inR i 0 (ns.length - 1):=Decidable.not_not.mp h3;obtain⟨a,b⟩:=f;obtain⟨n,rfl⟩:=EE a;exact⟨.move x n,rfl,Decidable.not_not.mp h1,by omega⟩
 | turn lo hi=>
  simp only[Ac.Aw] at h;split at h
  ·cases h
  ·next h1=>
   split at h
   ·cases h
   ·next h3=>
    have j:inR lo 0 ns.length:=Decidable.not_not.mp h1;have f:inR hi lo ns.length:=Decidable.not_not.mp h3;obtain⟨a,b⟩:=j;obtain⟨g,k⟩:=f;obtain⟨n,rfl⟩:=EE a;obtain⟨m,rfl⟩:=EE (Int.le_trans a g);exact⟨.turn n m,rfl,by omega,by omega⟩
noncomputable def Hk:Ab->Ac
 | .put x i=>.put x i
 | .take x=>.take x
 | .move x i=>.move x i
 | .turn lo hi=>.turn lo hi
theorem VJ (d:Ab):aP (Hk d)=dP d:=by cases d <;> rfl
theorem sA {c:GC}(h:d.Ok 40 ns):(Hk d).Aw c ns=none:=by
 cases d with
 | put x i=>
  obtain⟨h1,h2,b,a⟩:=h;simp only[Hk,Ac.Aw];rw[o5 (by rw[jI h1];decide),o5 h2,o5 (Decidable.not_not.mpr ⟨by omega,by omega⟩),o5 (by omega)]
 | take x=>simp only[Hk,Ac.Aw];rw[o5 (Decidable.not_not.mpr (show x∈ns from h))]
 | move x i=>
  obtain⟨h1,h2⟩:=h;simp only[Hk,Ac.Aw];rw[o5 (Decidable.not_not.mpr h1),o5 (Decidable.not_not.mpr ⟨by omega,by omega⟩)]
 | turn lo hi=>
  obtain⟨h1,h2⟩:=h;simp only[Hk,Ac.Aw];rw[o5 (Decidable.not_not.mpr ⟨by omega,by omega⟩),o5 (Decidable.not_not.mpr ⟨by omega,by omega⟩)]
theorem ZCp (h:d.Ok 40 ns):(Hk d).Is ns d:=⟨VJ d,h⟩
theorem O6:¬ Str.ofString "put"=Str.ofString "move" := by decide +kernel
theorem wx {e:Ab}(h:dP d=dP e):d=e:=by
 cases d <;> cases e <;> simp[dP] at h <;> first | (exact absurd h.1 O6) | (exact absurd h.1.symm O6) | (obtain⟨a,b⟩:=h;subst a;congr;omega) | (obtain⟨a,b⟩:=h;congr <;> omega) | (subst h;rfl)
theorem ZC2 {i:Int}(h:i.natAbs<2 ^ 1000):HK i:=by
 unfold HK
 by_cases z:i.natAbs=0
 ·rw[z];decide
 ·have:=(mh z).mpr h;omega
theorem O7 {i:Nat}(h:i<=1000000):HK i:=ZC2 (by
 have:(1000000:Nat)<2 ^ 1000:=by decide +kernel
 show Int.natAbs (i:Int)<_;rw[Int.natAbs_natCast];omega)
theorem LM (h:Nm x):Cb x:=⟨o4 h,by have:=h.2.1;omega⟩
theorem Ac.U9 {d:Ac}(h:d.say)(e:d.Is ns d'):∀x,d'=.take x∨(∃i,d'=.move x i)->Cb x:=by
 rintro x (rfl | ⟨i,rfl⟩)
 ·have q:=e.1;cases d with
  | take y=>simp[aP,dP] at q;subst q;exact h
  | _=>simp[aP,dP] at q
 ·have q:=e.1;cases d with
  | move y j=>simp[aP,dP] at q;rw[<- q.1];exact h.1
  | put y j=>simp[aP,dP] at q;exact absurd q.1 O6
  | _=>simp[aP,dP] at q
theorem sS (h:d.Ok 40 ns)(a:∀x∈ns,Nm x)(b:ns.length<=40):(Hk d).say:=by
 cases d with
 | put x i=>exact⟨LM h.1,O7 (by have:=h.2.2.1;omega)⟩
 | take x=>exact LM (a x h)
 | move x i=>exact⟨LM (a x h.1),O7 (by have:=h.2;omega)⟩
 | turn lo hi=>exact⟨O7 (by have:=h.1;have:=h.2;omega),O7 (by have:=h.2;omega)⟩
def NI (C:Addr):Es:=fun l R D=>∃(tp:Bool) (ns:List Str) (x:Str),l=[.sq tp (ns.map .str),.is (.str x)]/\Cb x/\(R=.is fun p=>x∈ns/\p=.int (ns.idxOf x:Nat))/\D=fun e=>x∉ns/\e=OR C x
def aK (c:GC):Es:=fun l R D=>∃(tp:Bool) (ns:List Str) (x:Str) (i:Int),l=[.sq tp (ns.map .str),.is (.str x),.is (.int i)]/\(Cb x/\HK i)/\(R=.is fun p=>(Ac.put x i).Aw c ns=none)/\D=fun e=>(Ac.put x i).Aw c ns=some e
def YJ (c:GC):Es:=fun l R D=>∃(tp:Bool) (ns:List Str) (x:Str) (i:Int),l=[.sq tp (ns.map .str),.is (.str x),.is (.int i)]/\(Cb x/\HK i)/\(R=.is fun p=>(Ac.move x i).Aw c ns=none)/\D=fun e=>(Ac.move x i).Aw c ns=some e
def UE (c:GC):Es:=fun l R D=>∃(tp:Bool) (ns:List Str) (lo hi:Int),l=[.sq tp (ns.map .str),.is (.int lo),.is (.int hi)]/\(HK lo/\HK hi)/\(R=.is fun p=>(Ac.turn lo hi).Aw c ns=none)/\D=fun e=>(Ac.turn lo hi).Aw c ns=some e
def VS (c:GC):Es:=fun l R D=>∃(tp:Bool) (ns:List Str) (d:Ac),l=[.sq tp (ns.map .str),.is (aP d)]/\d.say/\(R=.is fun p=>d.Aw c ns=none)/\D=fun e=>d.Aw c ns=some e
def Z4:Pre:=fun l R=>∃(g i:Nat),l=[.is (.int g),.is (.int i)]/\R=.is fun p=>p=.int (Gb i g:Nat)
def aA:Pre:=fun l R=>∃(g i:Nat),l=[.is (.int g),.is (.int i)]/\R=.is fun p=>p=.int (Fs i g:Nat)
def Zf:Pre:=fun l R=>∃(tp:Bool) (ns:List Str) (g:Nat) (d:Ab),l=[.sq tp (ns.map .str),.is (.int g),.is (dP d)]/\d.Ok 40 ns/\(∀x,d=.take x∨(∃i,d=.move x i)->Cb x)/\R=.is fun p=>p=.int (d.gap ns g:Nat)
def VR (c:GC):Es:=fun l R D=>∃(tp:Bool) (ns:List Str) (d:Ac),l=[.sq tp (ns.map .str),.is (aP d)]/\d.say/\ns.length<=40/\(R=.new fun xs=>∃d':Ab,d.Is ns d'/\xs=(d'.done ns).map .str)/\D=fun e=>d.Aw c ns=some e
def Vj:Pre:=fun l R=>∃(tp:Bool) (ns:List Str) (x:Str) (i:Nat),l=[.sq tp (ns.map .str),.is (.str x),.is (.int i)]/\ns.length<=1000/\R=.new fun xs=>xs=(ins ns x i).map .str
def UK:Pre:=fun l R=>∃(tp:Bool) (ns:List Str) (x:Str),l=[.sq tp (ns.map .str),.is (.str x)]/\ns.length<=1000/\R=.new fun xs=>xs=(wo ns x).map .str
def ZD:Pre:=fun l R=>∃(tp:Bool) (ns:List Str) (lo hi:Nat),l=[.sq tp (ns.map .str),.is (.int lo),.is (.int hi)]/\ns.length<=1000/\lo<=hi/\hi<=ns.length/\R=.new fun xs=>xs=(Fm ns lo hi).map .str
theorem aN (h:x.length<=100)(hx:∀c∈x.cps.toList,c<16 ^ 8):Cb x:=⟨lU h hx,by omega⟩
theorem Is.ZBm {d:Ac}(h:d.say)(e:d.Is ns d'):(∀x,d'=.take x->Cb x)/\∀x i,d'=.move x i->Cb x:=⟨fun x q=>Ac.U9 h e x (.inl q),fun x i q=>Ac.U9 h e x (.inr ⟨i,q⟩)⟩
noncomputable def ND (r:Str)(g:Int)(cs:List Str):PV:=.tup [.str r,.int g,.tup (cs.map .str)]
section
variable [Xw]
variable {K:ZHP}{k:PV->Prop}
theorem ZCJ {k:List PV->Prop}(h:Wp ss ta fun p=>∃cs:List Str,p=.tup (cs.map .str)/\Wp ss tb fun q=>∃ys:List Str,q=.tup (ys.map .str)/\ys≠[]/\(cs++ys).length<64/\∀Bd:List Str,Bd.Perm (cs++ys)->sortedS Bd=true->k (Bd.map PV.str)):Wn ss (Dm (ZI K) (Ag (CD (iF K) ta tb) BM)) k:=⟨fun E σ F H Q S q=>
 h.go E σ F H _ S fun v p F1 H1 i t ⟨cs,e,h2⟩=>h2.go E σ F1 H1 _ i.st fun B p2 F2 H2 d r ⟨ys,A,w,l,kk⟩=>by
  subst e;subst A;cases t with
  | @tup a vs _ o s1=>
   cases r with
   | @tup b ws _ n s2=>
    rw[s1.strs] at o;rw[s2.strs] at n;rw[CM] at l;refine⟨a,b,_,_,rfl,rfl,AU.of (d.st.fh _ _ (d.ff _ _ o)),AU.of (d.st.fh _ _ n),fun z=>w (by simpa using z),small (by rw[AQ,AQ];omega),fun c H3 s m=>?_⟩
    have f:=d.st.grow s;rw[<- EF] at m;refine⟨c,true,cs++ys,rfl,m,by rw[CM];exact l,fun a Bd g y x=>?_⟩;have u:=f.st.make g (.lst (Bd.map V.str));have j:=i.trans (d.trans f);exact q a _ _ F2 _ (j.trans u) (f.st.CA g) (j.none g) AO (MU Bd) (kk Bd y x)⟩
end
def RJ:Pre:=fun l R=>∃(cs:List Str) (x:Str),l=[.is (.tup (cs.map .str)),.is (.str x)]/\cs.length<=1000/\R=.is fun p=>p=.tup ((wo cs x).map .str)
def X7:Pre:=fun l R=>∃(tp:Bool) (ns:List Str) (r:Str) (g:Nat) (cs:List Str) (x:Str),l=[.sq tp (ns.map .str),.is (ND r g cs),.is (.str x)]/\cs.length<=1000/\Cb x/\x∈ns/\R=.is fun p=>p=Ed r (ns.idxOf x+1) (wo cs x)
def Yp:Pre:=fun l R=>∃(r:Str) (g i:Nat) (xs:List PV),l=[.is (.tup (.str r :: .int g::xs)),.is (.int i)]/\R=.is fun p=>p=.bl (Ef r g i)
def WL:Pre:=fun l R=>∃(r:Str) (g:Nat) (cs:List Str) (d:Ab),l=[.is (ND r g cs),.is (dP d)]/\cs.length<=60/\Up cs/\(∀x i,d=.put x i->x∉cs)/\R=.is fun p=>p=.tup ((d.Gd r g cs).map .str)
def U4:Pre:=fun l R=>∃(tp:Bool) (ns:List Str) (r:Str) (g:Nat) (cs:List Str) (d:Ab),l=[.sq tp (ns.map .str),.is (ND r g cs),.is (dP d)]/\d.Ok 40 ns/\Dl ns r g cs/\ns.length<=40/\(∀x,d=.take x∨(∃i,d=.move x i)->Cb x)/\R=.is fun p=>p=Ed r (d.gap ns g) (d.Gd r g cs)
theorem Dl.step {g:Nat}(h:Dl ns r g cs):Dl ns r (bN ns g cs:Nat) (gp ns g cs):=by
 unfold bN gp;cases e:Qz ns g cs with
 | none=>exact h
 | some x=>
  have c:x∈Ft ns g cs:=by
   unfold Qz at e;exact List.mem_of_mem_head? (by rw[e];rfl)
  obtain⟨a,d⟩:=RC.mp c;have:=List.idxOf_lt_length_iff.mpr a;exact⟨h.rule,by show(0:Int)<=((ns.idxOf x+1:Nat):Int);omega,by show((ns.idxOf x+1:Nat):Int)<=_;omega,aJ x h.up,fun y b=>h.sub y (Jq.mp b).1⟩
section
variable [Xw]
theorem ZFT {t:TT}{k k':Bool->Prop}(h:Wt ss t k')(c:∀b,k' b->k b):Wt ss t k:=⟨fun E σ F H Q S q=>h.go E σ F H Q S fun b F' H' m a=>q b F' H' m (c b a)⟩
end
structure HS (m:Nat) (ns:List Str):Prop where
 len:ns.length<=m
 nm:∀x∈ns,Nm x
 nd:ns.Nodup
theorem HS.done {m:Nat}(h:HS m ns)(ok:d.Ok m ns):HS m (d.done ns):=by
 obtain⟨a,b,c⟩:=Ab.step ok h.nd h.nm h.len;exact⟨c,b,a⟩
structure Lp where
 r:Str
 g:Nat
 cs:List Str
noncomputable def Lp.P (l:Lp):PV:=Ed l.r l.g l.cs
noncomputable def Fe (ns:List Str):List Str:=ns.foldr (fun x r=>G5 r x) []
theorem Rh {x:Str}:∀{ns:List Str},x∈Fe ns↔x∈ns
 | []=>Iff.rfl
 | y::r=>by
  show x∈G5 (Fe r) y↔_;rw[Ph,Rh (ns:=r),Hs]
theorem Zv:∀{ns:List Str},ns.Nodup->Up (Fe ns)
 | [],_=>List.Pairwise.nil
 | y::r,h=>by
  obtain⟨h1,h2⟩:=List.nodup_cons.mp h;exact Rc (Zv h2) fun z=>h1 (Rh.mp z)
theorem fq {ts:List Str}(nd:ns.Nodup)(a:ts.Perm ns)(st:sortedS ts=true):ts=Fe ns:=
 XZ (cS st (a.nodup_iff.mpr nd)) (Zv nd) fun k=>by rw[a.mem_iff,Rh]
noncomputable def Lp.led (ns:List Str)(d:Ab)(l:Lp):Lp:=⟨l.r,d.gap ns l.g,d.Gd l.r l.g l.cs⟩
def Lp.Good (ns:List Str)(l:Lp):Prop:=Dl ns l.r l.g l.cs
theorem eA {k:Nat}(h:k<3):∃r:Str,r∈Le/\L2.Bs [PV.str "none", .str "ahead", .str "all"] (k:Int)=some (.str r):=by
 have:k=0∨k=1∨k=2:=by omega
 rcases this with rfl | rfl | rfl
 ·exact⟨_,by decide,rfl⟩
 ·exact⟨_,by decide,rfl⟩
 ·exact⟨_,by decide,rfl⟩
end Fz
namespace L2
variable {A6:List (List Key×V)}{o:Option V}{u:Value}{v y:V}{w:World}{H H':Hp}{xs:List (List Key×Addr×Value)}{a b:Addr}{X:Cx}{pins:ZHQ}{σ:St}{s:Shared}{A:Around}{E Q:Value->Shared->Prop}{h':Heap}{e value:Expr}{pos:Pos}{td tv ty:TE}
section
variable {κ:Type}[DecidableEq κ]
noncomputable def DT (A6:List (κ×V))(k:κ):Option V:=(A6.find? fun a=>decide (a.1=k)).map (·.2)
noncomputable def putK (A6:List (κ×V))(k:κ)(v:V):List (κ×V):=
 if(A6.any fun a=>decide (a.1=k))=true then A6.map (fun a=>if a.1=k then(a.1,v) else a) else A6++[(k,v)]
noncomputable def Jw (A6:List (κ×V))(k:κ):List (κ×V):=A6.filter fun a=>decide (a.1≠k)
theorem Q7 {p:κ×V}{r:List (κ×V)}{k:κ}(e:p.1=k):DT (p::r) k=some p.2:=by simp[DT,QB,e]
theorem Pd {p:κ×V}{r:List (κ×V)}{k:κ}(e:¬ p.1=k):DT (p::r) k=DT r k:=by simp[DT,QB,e]
theorem SJ (k:κ):∀A6:List (κ×V),(A6.any fun a=>decide (a.1=k))=(DT A6 k).isSome
 | []=>rfl
 | p::r=>by
  rw[Nk]
  by_cases e:p.1=k
  ·simp only[Q7 e,nv e,Bool.true_or,ZGO]
  ·rw[Pd e,q8 e,Bool.false_or];exact SJ k r
theorem Xp (A6:List (κ×V))(k:κ)(v:V):(putK A6 k v).length<=A6.length+1:=by
 unfold putK;split
 ·rw[AQ];omega
 ·rw[CM,CN,ax];omega
theorem ON {A6:List (κ×V)}{k:κ}(v:V)(h:DT A6 k=none):putK A6 k v=A6++[(k,v)]:=by
 unfold putK;rw[SJ,h];exact o5 (by decide)
theorem E9.O8 {u:Option Value}(r:E9 o u):o.isSome=u.isSome:=by
 cases o with
 | none=>cases u with
  | none=>rfl
  | some _=>exact(show False from r).elim
 | some _=>cases u with
  | none=>exact(show False from r).elim
  | some _=>rfl
theorem KV.val {A6:List (κ×V)}{vs:List (κ×Value)}(r:KV A6 vs)(k:κ):E9 (DT A6 k) (valueAt vs k):=by
 unfold KV at r
 induction r with
 | nil=>exact True.intro
 | @cons p q ps a h t d=>
  obtain⟨h1,h2⟩:=h
  by_cases e:p.1=k
  ·have c:q.1=k:=h1.symm.trans e;have b:valueAt (q::a) k=some q.2:=by simp[valueAt,QB,c]
   rw[Q7 e,b];exact h2
  ·have c:¬ q.1=k:=fun z=>e (h1.trans z);have b:valueAt (q::a) k=valueAt a k:=by simp[valueAt,QB,c]
   rw[Pd e,b];exact d
theorem KV.any {A6:List (κ×V)}{vs:List (κ×Value)}(r:KV A6 vs)(k:κ):(A6.any fun a=>decide (a.1=k))=vs.any fun a=>decide (a.1=k):=by
 unfold KV at r
 induction r with
 | nil=>rfl
 | cons h t b=>rw[Nk,Nk,b,h.1]
theorem KV.WW {A6:List (κ×V)}{vs:List (κ×Value)}(r:KV A6 vs)(k:κ)(b:RelV y u):
  KV (A6.map fun a=>if a.1=k then(a.1,y) else a) (vs.map fun a=>if a.1=k then(a.1,u) else a):=by
 unfold KV at r ⊢
 induction r with
 | nil=>exact .nil
 | @cons p q ps d h t c=>
  rw[Bp,Bp];refine .cons ?_ c;obtain⟨h1,h2⟩:=h
  by_cases e:p.1=k
  ·rw[pQ e,pQ (h1.symm.trans e)];exact⟨h1,b⟩
  ·rw[o5 e,o5 (fun z=>e (h1.trans z))];exact⟨h1,h2⟩
theorem KV.put {A6:List (κ×V)}{vs:List (κ×Value)}(r:KV A6 vs)(k:κ)(a:RelV y u):KV (putK A6 k y) (stored vs k u):=by
 unfold putK stored;rw[r.any k]
 by_cases e:(vs.any fun b=>decide (b.1=k))=true
 ·rw[pQ e,pQ e];exact r.WW k a
 ·rw[o5 e,o5 e];exact Paired.snoc r ⟨rfl,a⟩
theorem KV.drop {A6:List (κ×V)}{vs:List (κ×Value)}(r:KV A6 vs)(k:κ):KV (Jw A6 k) (without vs k):=by
 unfold KV at r ⊢;unfold Jw without
 induction r with
 | nil=>exact .nil
 | @cons p q ps f h t c=>
  obtain⟨h1,h2⟩:=h;rw[ar,ar]
  by_cases e:p.1=k
  ·have a:¬ decide (p.1≠k)=true:=by simp[e]
   have b:¬ decide (q.1≠k)=true:=by simp[h1.symm.trans e]
   rw[o5 a,o5 b];exact c
  ·have d:¬ q.1=k:=fun z=>e (h1.trans z);have a:decide (p.1≠k)=true:=by simp[e]
   have b:decide (q.1≠k)=true:=by simp[d]
   rw[pQ a,pQ b];exact .cons ⟨h1,h2⟩ c
theorem KV.keys {A6:List (κ×V)}{vs:List (κ×Value)}(r:KV A6 vs):A6.map (·.1)=vs.map (·.1):=by
 unfold KV at r
 induction r with
 | nil=>rfl
 | cons h t a=>rw[Bp,Bp,a,h.1]
theorem KV.length {A6:List (κ×V)}{vs:List (κ×Value)}(r:KV A6 vs):A6.length=vs.length:=mn r
theorem sN (A6:List (κ×V))(k:κ):(Jw A6 k).length<=A6.length:=Nn _ _
end
theorem LV {P:Program}{k:Key}(r:RelV (kV k) u):(CV P w).is k u=true:=by
 cases k with
 | inl i=>obtain⟨t,e⟩:=(show ∃t,u=Value.int i t from r);subst e;exact ZBb P w i t
 | inr x=>obtain⟨t,e⟩:=(show ∃t,u=Value.str x t from r);subst e;exact ZF8 P w x t
theorem j9 {P:Program}{w:World}:∀{ks:List Key}{us:List Value},Vals (ks.map kV) us->ItemsAre (CV P w) ks us
 | [],_,r=>by rw[Tu] at r;cases r;exact .nil
 | k::ks,_,r=>by
  rw[Bp] at r;cases r with
  | cons h t=>exact .cons (LV h) (j9 t)
abbrev KT (H:Hp):List (List Key×V)->List (List Key×Addr×Value)->Prop:=Paired fun p q=>p.1=q.1/\H q.2.1=some (.tup (p.1.map kV))/\RelV p.2 q.2.2
theorem KT.val (r:KT H A6 xs)(k:List Key):E9 (DT A6 k) ((atKey xs k).map (·.2)):=by
 induction r with
 | nil=>exact True.intro
 | @cons p q ps a h t d=>
  obtain⟨h1,_,h2⟩:=h
  by_cases e:p.1=k
  ·have c:q.1=k:=h1.symm.trans e;have b:atKey (q::a) k=some q.2:=by simp[atKey,QB,c]
   rw[Q7 e,b];exact h2
  ·have c:¬ q.1=k:=fun z=>e (h1.trans z);have b:atKey (q::a) k=atKey a k:=by simp[atKey,QB,c]
   rw[Pd e,b];exact d
theorem KT.WW (r:KT H A6 xs)(k:List Key)(b:RelV y u):
  KT H (A6.map fun a=>if a.1=k then(a.1,y) else a) (xs.map (putAt k u)):=by
 induction r with
 | nil=>exact .nil
 | @cons p q ps f h t c=>
  rw[Bp,Bp];refine .cons ?_ c;obtain⟨h1,h2,d⟩:=h;unfold putAt
  by_cases e:p.1=k
  ·rw[pQ e,pQ (h1.symm.trans e)];exact⟨h1,h2,b⟩
  ·rw[o5 e,o5 (fun z=>e (h1.trans z))];exact⟨h1,h2,d⟩
theorem KT.put (r:KT H A6 xs)(k:List Key)(d:H b=some (.tup (k.map kV)))(a:RelV y u):
  KT H (putK A6 k y) (storedH xs k b u):=by
 have e:(A6.any fun c=>decide (c.1=k))=(atKey xs k).isSome:=by
  rw[SJ,(r.val k).O8,bE]
 unfold putK storedH;rw[e]
 by_cases q:(atKey xs k).isSome=true
 ·rw[pQ q,pQ q];exact r.WW k a
 ·rw[o5 q,o5 q];exact Paired.snoc r ⟨rfl,d,a⟩
theorem KT.keeps (r:KT H A6 xs)(a:∀b ys,H b=some (.tup ys)->H' b=some (.tup ys)):KT H' A6 xs:=
 Paired.XF r fun _ _ z=>⟨z.1,a _ _ z.2.1,z.2.2⟩
section
variable {P:Program}{h:Heap}
theorem eR {u:HO}(ok:Bo P w H h)(e:Rd H a u):C9 P w H h a u:=e.ok ok
theorem Jx {A6:List (Key×V)}(ok:Bo P w H h)(e:Rd H a (.dK A6)):A6.length<=sizeLine/\(a == sysModules)=false/\∃vs,KV A6 vs/\h.DictOf (CV P w) a vs:=
 show C9 P w H h a (.dK A6) from eR ok e
theorem YW {A6:List (Key×V)}(ok:Bo P w H h)(e:H a=some (.dK A6)):A6.length<=sizeLine/\(a == sysModules)=false/\∃vs,KV A6 vs/\h.DictOf (CV P w) a vs:=Jx ok (.inl e)
theorem Q6 {ks:List Key}(ok:Bo P w H h)(e:H a=some (.tup (ks.map kV))):(tupleKind (CV P w)).is h ks a:=by
 obtain⟨_,A3,r,⟨o,h1,h2,n,b⟩,_⟩:=(show C9 P w H h a (.tup (ks.map kV)) from ok a _ e);exact⟨o,A3.toArray,n,h1,h2,b,by simpa using j9 r⟩
theorem Mc (ok:Bo P w H h)(e:Rd H a (.dT A6)):A6.length<=sizeLine/\(a == sysModules)=false/\
  ∃xs,KT H A6 xs/\h.DictOfH (tupleKind (CV P w)) a xs:=by
 obtain⟨z,y,xs,r,o,es,i,h1,h2,g,f,d⟩:=(show C9 P w H h a (.dT A6) from eR ok e);refine⟨z,y,xs,r,o,es,i,h1,h2,g,f,fun x hx=>?_,d⟩;have all:∀{l:List (List Key×V)}{m:List (List Key×Addr×Value)},KT H l m->∀x∈m,(tupleKind (CV P w)).is h x.1 x.2.1:=by
  intro l m q
  induction q with
  | nil=>intro x hx;exact nomatch hx
  | @cons p q ps j b t c=>
   intro x hx;rcases List.mem_cons.mp hx with e | hx
   ·subst e;exact Q6 ok (by rw[<- b.1];exact b.2.1)
   ·exact c x hx
 exact all r x hx
theorem ZDJ (ok:Bo P w H h)(e:H a=some (.dT A6)):A6.length<=sizeLine/\(a == sysModules)=false/\
  ∃xs,KT H A6 xs/\h.DictOfH (tupleKind (CV P w)) a xs:=Mc ok (.inl e)
end
def FZ (H:Hp)(a:Addr)(y:V)(r:Option V):Prop:=
 (∃A6 k,Rd H a (.dK A6)/\y=kV k/\r=DT A6 k)∨∃A6 k b,Rd H a (.dT A6)/\y=.ref b/\H b=some (.tup (k.map kV))/\r=DT A6 k
def Pb (H:Hp)(a:Addr)(y v:V)(H':Hp):Prop:=
 (∃A6 k,H a=some (.dK A6)/\y=kV k/\A6.length<sizeLine/\H'=upd H a (.dK (putK A6 k v)))∨
 ∃A6 k b,H a=some (.dT A6)/\y=.ref b/\H b=some (.tup (k.map kV))/\A6.length<sizeLine/\H'=upd H a (.dT (putK A6 k v))
theorem FZ.k {A6:List (Key×V)}{k:Key}(e:H a=some (.dK A6)):FZ H a (kV k) (DT A6 k):=.inl ⟨A6,k,.inl e,rfl,rfl⟩
theorem Pb.k {A6:List (Key×V)}{k:Key}(e:H a=some (.dK A6))(b:A6.length<sizeLine):Pb H a (kV k) v (upd H a (.dK (putK A6 k v))):=.inl ⟨A6,k,e,rfl,b,rfl⟩
section
variable {r:Value}
theorem Inv.big (I:Inv X pins σ H s):sysModules<s.heap.objs.size:=by
 have h:mainGlobals<s.heap.objs.size:=(I.mod.glob.keeps I.bk).lt;exact mi (by decide) h
theorem uG (i:A.units+1<cLine)(I:Inv X pins σ H s)(g:FZ H a y (some v))(f:RelV y u)(h:∀c s',Inv X pins σ H s'->RelV v c->Q c s'):
  wpAny (model X.prog X.w) A (getItem (.ref a) u) Q E s:=by
 rcases g with⟨A6,k,e,d,l⟩|⟨A6,k,b,e,d,n,l⟩
 ·subst d;obtain⟨z,hd,vs,rel,dd⟩:=Jx I.AF e;obtain⟨c,hw,Eo⟩:=E9.some_of (v:=v) (o:=valueAt vs k) (by rw[l];exact rel.val k);exact wpAny_getItem_of (LV f) dd.mapOf hw (h c _ (I.tok _) Eo)
 ·subst d;cases(show u=Value.ref b from f);obtain⟨z,hd,xs,rel,dd⟩:=Mc I.AF e;obtain⟨c,hw,Eo⟩:=E9.some_of (v:=v) (o:=(atKey xs k).map (·.2)) (by rw[l];exact rel.val k)
  obtain⟨p,j,m⟩:=Option.map_eq_some_iff.mp hw;refine wpAny_getItem_heap (xu i) (Q6 I.AF n) dd j ?_;rw[m];exact h c _ (I.tok _) Eo
theorem ZDZ (f:A.units+1<cLine)(I:Inv X pins σ H s)(g:FZ H a y o)(d:RelV y u)(h:∀s',Inv X pins σ H s'->Q (.bool o.isSome) s'):
  wpAny (model X.prog X.w) A (compareOp .In u (.ref a)) Q E s:=by
 rcases g with⟨A6,k,e,c,l⟩|⟨A6,k,b,e,c,i,l⟩
 ·subst c;obtain⟨z,hd,vs,rel,dd⟩:=Jx I.AF e;refine wpAny_in_of (LV d) hd dd.mapOf ?_;rw[<- (rel.val k).O8,<- l];exact h _ (I.tok _)
 ·subst c;cases(show u=Value.ref b from d);obtain⟨z,hd,xs,rel,dd⟩:=Mc I.AF e;refine wpAny_in_heap (xu f) (Q6 I.AF i) hd dd ?_;have q:=(rel.val k).O8;rw[bE] at q;rw[<- q,<- l];exact h _ (I.tok _)
theorem qH (f:A.units+1<cLine)(I:Inv X pins σ H s)(g:FZ H a y o)(d:RelV y u)(h:∀s',Inv X pins σ H s'->Q (.bool (!o.isSome)) s'):
  wpAny (model X.prog X.w) A (compareOp .NotIn u (.ref a)) Q E s:=by
 rcases g with⟨A6,k,e,c,l⟩|⟨A6,k,b,e,c,i,l⟩
 ·subst c;obtain⟨z,hd,vs,rel,dd⟩:=Jx I.AF e;refine wpAny_notIn_of (LV d) hd dd.mapOf ?_;rw[<- (rel.val k).O8,<- l];exact h _ (I.tok _)
 ·subst c;cases(show u=Value.ref b from d);obtain⟨z,hd,xs,rel,dd⟩:=Mc I.AF e;refine wpAny_notIn_heap (xu f) (Q6 I.AF i) hd dd ?_;have q:=(rel.val k).O8;rw[bE] at q;rw[<- q,<- l];exact h _ (I.tok _)
theorem Te {t':Nat}{ob:HO}(I:Inv X pins σ H s)(d:ML (H a))(f:Heap.SameBut a s.heap h')(g:∃q,h'.get? a=some q)(c:C9 X.prog X.w (upd H a ob) h' a ob):
  Inv X pins σ (upd H a ob) { s with heap:=h',toks:=t' }:=
 I.write (x:=a) (e:=a) d (.inl rfl) (fun b q h z=>(f.2 b h).trans z) g c
theorem Wc {P:Program}{A6:List (Key×V)}{vs:List (Key×Value)}(z:A6.length<=sizeLine)(hd:(a == sysModules)=false)(rel:KV A6 vs)(dd:h'.DictOf (CV P w) a vs):
  C9 P w H' h' a (.dK A6):=⟨z,hd,vs,rel,dd⟩
theorem ZB9 {Q:Unit->Shared->Prop}(B:A.units+1<cLine)(I:Inv X pins σ H s)(g:Pb H a y v H')(o:RelV y u)(p:RelV v r)(h:∀s',Inv X pins σ H' s'->Q () s'):
  wpAny (model X.prog X.w) A (setItem (.ref a) u r) Q E s:=by
 rcases g with⟨A6,k,e,m,l,n⟩|⟨A6,k,b,e,m,x,l,n⟩
 ·subst m n;obtain⟨z,hd,vs,rel,dd⟩:=YW I.AF e;have f:vs.length<=sizeLine:=by rw[<- rel.length];exact z
  have j:(putK A6 k v).length<=sizeLine:=by have:=Xp A6 k v;omega
  refine wpAny_setItem_pairs (hsz:=f) (LV o) dd fun h' IW i=>h _ ?_;have C:∃q,h'.get? a=some q:=let ⟨q,_,_,d,_⟩:=IW;⟨q,d⟩;exact Te I (by rw[e];exact True.intro) i C (Wc j hd (rel.put k p) IW)
 ·subst m n;cases(show u=Value.ref b from o);obtain⟨z,hd,xs,rel,dd⟩:=ZDJ I.AF e;have f:xs.length<=sizeLine:=by rw[<- mn rel];exact z
  have j:(putK A6 k v).length<=sizeLine:=by have:=Xp A6 k v;omega
  refine wpAny_setItem_heap (hsz:=f) (xu B) (Q6 I.AF x) dd fun h' IW i=>h _ ?_;obtain⟨q,es,J,d,h2,G,F,_,D⟩:=IW;refine Te I (by rw[e];exact True.intro) i ⟨q,d⟩ ⟨j,hd,_,(rel.put k x p).keeps fun c ys t=>?_,q,es,J,d,h2,G,F,D⟩;rw[AX (ZBf t e (fun z=>nomatch z))];exact t
variable {A6:List (Key×V)}{k:Key}
theorem ZEE {more:List Value}(I:Inv X pins σ H s)(e:H a=some (.dK A6))(c:RelV (kV k) u)(l:DT A6 k=some v)(d:more=[]∨∃x,more=[x])
  (h:∀b s',Inv X pins σ (upd H a (.dK (Jw A6 k))) s'->RelV v b->Q b s'):wpAny (model X.prog X.w) A (call (.builtin "dict.pop") (.ref a::u::more)) Q E s:=by
 obtain⟨z,hd,vs,rel,dd⟩:=YW I.AF e;obtain⟨b,hw,Eo⟩:=E9.some_of (v:=v) (o:=valueAt vs k) (by rw[<- l];exact rel.val k);have g:(keyPart u).isSome=true:=by
  cases k with
  | inl i=>obtain⟨t,q⟩:=(show ∃t,u=Value.int i t from c);subst q;rfl
  | inr x=>obtain⟨t,q⟩:=(show ∃t,u=Value.str x t from c);subst q;rfl
 have m:argsOk "dict.pop" ⟨.ref a::u::more,[]⟩:=by
  rcases d with q | ⟨x,q⟩
  ·subst q;exact PySem.F.args_dict_pop_2 _ _
  ·subst q;exact PySem.F.args_dict_pop_3 _ _ _
 refine call_meetsIn ZGQ dd.typeIs PySem.F.entry_dict_pop m (meets_dict_pop_there (CV X.prog X.w) a (LV c) more d g)
  ⟨vs,b,dd,by rw[<- rel.length];exact z,hw,fun h' IW f=>h b _ ?_ Eo⟩
 have j:∃q,h'.get? a=some q:=let ⟨q,_,_,hq,_⟩:=IW;⟨q,hq⟩;exact Te I (by rw[e];exact True.intro) f j (Wc (Bi (sN A6 k) z) hd (rel.drop k) IW)
end
def Z5 (i:Expr):Prop:=∀a b,subscripted i false a b=operate [a,b] (getItem a b)
theorem ZFC {prog:Program}{env:Env}{a:Expr}{T id:String}
  (m:typeLookup (.type T) "__getitem__"=pure (some (.builtin id))) (l:Z5 a)
  (h:wpAny (model prog w) A (eval value env) (fun o f=>wpAny (model prog w) A (eval a env) (fun i c=>c.TypeIs o T/\wpAny (model prog w) A (getItem o i) Q E c) E f) E s) :
  wpAny (model prog w) A (eval (.Subscript value a pos) env) Q E s:=by
 refine Subscript_ (qG h (fun o f k=>qG k (fun i c d=>?_) fun _ _ x=>x) fun _ _ x=>x);obtain⟨g,d⟩:=d;unfold subscriptTail;refine nc ?_;rw[getitemInPython_of_ne g.not_modules];refine nc (uL g m ?_);have b:wpAny (model prog w) A (subscripted a false o i) (fun r e=>wpAny (model prog w) A (letTemporaryGo value o r >>= fun _=>pure r) Q E e) E c:=by
  rw[l o i];exact wpAny_operating (qG d (fun r e j=>nc (wpAny_letTemporaryGo (oR j))) fun _ _ x=>x)
 first
  | exact oR (nc b)
  | exact nc (oR (nc b))
  | exact nc b
theorem ZBj (I:Inv X pins σ H s)(g:FZ H a y o):s.TypeIs (.ref a) "dict" := by
 rcases g with⟨A6,k,e,_,_⟩|⟨A6,k,b,e,_,_,_⟩
 ·obtain⟨_,_,vs,_,dd⟩:=Jx I.AF e;exact dd.typeIs
 ·obtain⟨_,_,xs,_,dd⟩:=Mc I.AF e;exact dd.typeIs
def J7 (td ty:TE):TE:=fun σ H Q=>td σ H fun x H1=>ty σ H1 fun y H2=>∃a v,x=.ref a/\FZ H2 a y (some v)/\Q v H2
def Vu (ty td:TE):TE:=fun σ H Q=>ty σ H fun y H1=>td σ H1 fun x H2=>∃a o,x=.ref a/\FZ H2 a y o/\Q (.bl o.isSome) H2
def SE (ty td:TE):TE:=fun σ H Q=>ty σ H fun y H1=>td σ H1 fun x H2=>∃a o,x=.ref a/\FZ H2 a y o/\Q (.bl (!o.isSome)) H2
def R0 (td ty tv:TE):TS:=fun D σ H=>tv σ H fun v H1=>td σ H1 fun x H2=>ty σ H2 fun y H3=>∃a H4,x=.ref a/\Pb H3 a y v H4/\D.nx σ H4
section
variable {o i:Expr}{pos' Qn:Pos}
theorem ZEO (j:X.A.units+1<cLine)(hi:PE X i ty)(ho:PE X o td):PC X .In i o (Vu ty td):=by
 intro pins s σ H Q I h;refine AR (hi pins s σ H _ I h) fun l s1 ⟨y,H1,I1,b,e⟩=>AR (ho pins s1 σ H1 _ I1 e) fun u s2 ⟨x,H2,I2,c,a,f,ex,g,d⟩=>?_;subst ex;obtain rfl:u=Value.ref a:=c;exact ZDZ j I2 g b fun k I3=>⟨.bl f.isSome,H2,I3,rfl,d⟩
theorem tE (j:X.A.units+1<cLine)(hi:PE X i ty)(ho:PE X o td):PC X .NotIn i o (SE ty td):=by
 intro pins s σ H Q I h;refine AR (hi pins s σ H _ I h) fun l s1 ⟨y,H1,I1,b,e⟩=>AR (ho pins s1 σ H1 _ I1 e) fun u s2 ⟨x,H2,I2,c,a,f,ex,g,d⟩=>?_;subst ex;obtain rfl:u=Value.ref a:=c;exact qH j I2 g b fun k I3=>⟨.bl (!f.isSome),H2,I3,rfl,d⟩
end
theorem lL {P:Program}(h:Heap)(a:sysModules<h.objs.size):C9 P w H (h.push { cls:=.type "dict", data:=.dict #[] }) h.objs.size (.dK []):=
 ⟨CO _,beq_eq_false_iff_ne.mpr (B9 (Bm a)),[],.nil,Heap.DictOf.new h⟩
def VL:TE:=fun _ H Q=>∀p,H p=none->Q (.ref p) (upd H p (.dK []))
def US:List (TE×TE)->St->Hp->(List (V×V)->Hp->Prop)->Prop
 | [],_,H,Q=>Q [] H
 | (tk,tv)::r,σ,H,Q=>tk σ H fun x H1=>tv σ H1 fun y H2=>US r σ H2 fun ps H3=>Q ((x,y)::ps) H3
abbrev VV:List (V×V)->List (Value×Value)->Prop:=Paired fun p q=>RelV p.1 q.1/\RelV p.2 q.2
def KU (X:Cx)(pos:Pos)(keys:List (Option Expr))(values:List Expr)(Ew:List (TE×TE)):Prop:=
 ∀(pins:ZHQ) (s:Shared) (σ:St) (H:Hp) (Q:List (V×V)->Hp->Prop),Inv X pins σ H s->US Ew σ H Q->
  wpAny (model X.prog X.w) X.A (evalPairs (pairTrees keys values X.env pos)) (fun vs s'=>∃ps H',Inv X pins σ H' s'/\VV ps vs/\Q ps H') X.xe s
theorem ZDi:KU X pos [] [] []:=fun pins s σ H Q I h=>pairTrees_nil_walk ⟨[],H,I,.nil,h⟩
theorem ZAS {k v:Expr}{ks:List (Option Expr)}{vs:List Expr}{tk:TE}{Ew:List (TE×TE)}(i:PE X k tk)(f:PE X v tv)(g:KU X pos ks vs Ew):
  KU X pos (some k::ks) (v::vs) ((tk,tv)::Ew):=fun pins s σ H Q I h=>
 pairTrees_cons_walk (AR (i pins s σ H _ I h) fun u s1 ⟨x,H1,I1,b,e⟩=>AR (f pins s1 σ H1 _ I1 e) fun j s2 ⟨y,H2,I2,a,d⟩=>
  AR (g pins s2 σ H2 _ I2 d) fun ws l ⟨ps,H3,I3,rel,c⟩=>⟨(x,y)::ps,H3,I3,.cons ⟨b,a⟩ rel,c⟩)
noncomputable def Jz (A6 more:List (Key×V)):List (Key×V):=more.foldl (fun acc a=>putK acc a.1 a.2) A6
theorem KV.merge:∀{more:List (Key×V)}{rs:List (Key×Value)}{A6:List (Key×V)}{vs:List (Key×Value)},KV more rs->KV A6 vs->KV (Jz A6 more) (merged vs rs):=by
 intro more rs A6 vs r;unfold KV at r
 induction r generalizing A6 vs with
 | nil=>intro q;exact q
 | @cons p q ps c h t b=>
  intro a;have e:KV (putK A6 p.1 p.2) (stored vs q.1 q.2):=by
   have:=a.put p.1 h.2;rw[<- h.1];exact this
  exact b e
theorem bT:∀(more A6:List (Key×V)),(Jz A6 more).length<=A6.length+more.length
 | [],A6=>by show A6.length<=A6.length+0;omega
 | p::r,A6=>by
  have h1:=bT r (putK A6 p.1 p.2);have h2:=Xp A6 p.1 p.2;show(Jz (putK A6 p.1 p.2) r).length<=_;rw[CN];omega
theorem m7 {P:Program}{w:World}:∀{A6:List (Key×V)}{ws:List (Value×Value)},VV (A6.map fun d=>(kV d.1,d.2)) ws->∃rs,Carries (CV P w) ws rs/\KV A6 rs
 | [],_,r=>by rw[Tu] at r;cases r;exact⟨[],True.intro,.nil⟩
 | p::A6,_,r=>by
  rw[Bp] at r;cases r with
  | @cons a b as bs h t=>
   obtain⟨rs,c,q⟩:=m7 (P:=P) (w:=w) t;obtain⟨f,e⟩:=b;exact⟨(p.1,e)::rs,⟨LV h.1,rfl,c⟩,.cons ⟨rfl,h.2⟩ q⟩
def Vn (Ew:List (TE×TE)):TE:=fun σ H Q=>∀p,H p=none->US Ew σ (upd H p (.dK [])) fun ps H2=>H2 p=some (.dK [])/\∃A6:List (Key×V),ps=A6.map (fun a=>(kV a.1,a.2))/\A6.length<=15/\Q (.ref p) (upd H2 p (.dK (Jz [] A6)))
structure M1 (X:Cx) (o:Expr) (m:Str) (apos:Pos) (e:Expr) (Ba:Pos):Prop where
 base:attributeBase o m X.env (eval o X.env)=eval o X.env
 xJ:((backTo Ba (starEach [e] X.env)).all (fun x=>!x.1) && (backToKw Ba (keywordEach [] X.env)).all (fun x=>x.1.isSome)
  && decide (([e]:List Expr).length+([]:List Keyword).length+(if([]:List Keyword).isEmpty then 0 else 1)<30))=true
 line:(apos.endLine == Ba.line)=true
 trees:backTo Ba (starEach [e] X.env)=[(false,eval e X.env)]
def kP (H:Hp)(a:Addr):Prop:=(∃A6,Rd H a (.dK A6))∨∃A6,Rd H a (.dT A6)
theorem ZBA (I:Inv X pins σ H s)(d:kP H a):
  s.TypeIs (.ref a) "dict" /\ (∀b,Value.ref a=.ref b->∃ob,s.heap.get? b=some ob/\ob.dict=none)/\(a == sysModules)=false:=by
 rcases d with⟨A6,e⟩|⟨A6,e⟩
 ·obtain⟨_,hd,vs,_,dd⟩:=Jx I.AF e;refine⟨dd.typeIs,fun b q=>?_,hd⟩;cases q;obtain⟨ob,_,_,h1,h2,_⟩:=dd;exact⟨ob,h1,h2.2.1⟩
 ·obtain⟨_,hd,xs,_,dd⟩:=Mc I.AF e;refine⟨dd.typeIs,fun b q=>?_,hd⟩;cases q;obtain⟨ob,_,_,h1,h2,_⟩:=dd;exact⟨ob,h1,h2.2.1⟩
def YT (td ty:TE):TE:=fun σ H Q=>td σ H fun x H1=>∃a,x=.ref a/\kP H1 a/\ty σ H1 fun y H2=>∃A6 k v,H2 a=some (.dK A6)/\y=kV k/\DT A6 k=some v/\Q v (upd H2 a (.dK (Jw A6 k)))
end L2
namespace Fz
open L2 Lw
variable {l ss:List Slot}{F F' H H':Hp}{σ:L2.St}{i j n:Nat}{t t' u:OV}{E:Ent0}{vs:List V}{nk:NK}{a0:Addr}{us:List OV}{te:TE}{pre:Pre}{c:TT}{Q:VK}{X:XK}
def Br (pre:Pre):Sp:=fun vs H Q _=>∃(ss:List Slot) (R:B3) (F:Hp) (A B:List Addr),pre ss R/\Sg ⟨A,F,H,B⟩ ss (vs.map some) F H/\∀v F' H',Fin ⟨A,F,H,B⟩ F' H'->R.ok ⟨A,F,H,B⟩ F' H' v->Q v H'
inductive JP (F:Hp):List V->List Slot->Prop where
 | nil:JP F [] []
 | cons {v:V}{p:PV}{vs:List V}{l:List Slot}:Rep F v p->JP F vs l->JP F (v::vs) (.is p::l)
inductive J0 (σ:L2.St) (F:Hp) (i:Nat) (t:OV):List V->List Slot->Prop where
 | here {v:V}{vs:List V}{l:List Slot}:σ[i]?=some (some v)->JP F vs l->J0 σ F i t (v::vs) (.ow true t::l)
 | there {v:V}{p:PV}{vs:List V}{l:List Slot}:Rep F v p->J0 σ F i t vs l->J0 σ F i t (v::vs) (.is p::l)
theorem JP.len:∀{vs:List V}{l:List Slot},JP F vs l->l.length=vs.length
 | _,_,.nil=>rfl
 | _,_,.cons _ t=>by rw[CN,CN,t.len]
theorem J0.len:∀{vs:List V}{l:List Slot},J0 σ F i t vs l->l.length=vs.length
 | _,_,.here _ r=>by rw[CN,CN,r.len]
 | _,_,.there _ h=>by rw[CN,CN,h.len]
theorem JP.at:∀{vs:List V}{l:List Slot},JP F vs l->∀{n:Nat}{s:Slot},l[n]?=some s->∃v p,vs[n]?=some v/\s=.is p/\Rep F v p
 | _,_,.nil,_,_,e=>by simp at e
 | _,_,.cons r _,0,_,e=>by simp at e;subst e;exact⟨_,_,rfl,rfl,r⟩
 | _,_,.cons _ t,n+1,s,e=>by
  obtain⟨v,p,h⟩:=t.at (n:=n) (s:=s) (by simpa using e)
  exact⟨v,p,by simpa using h⟩
theorem J0.at:∀{vs:List V}{l:List Slot},J0 σ F i t vs l->∃m:Nat,∀{n:Nat}{s:Slot},l[n]?=some s->(n=m/\s=.ow true t/\∃v,vs[n]?=some v/\σ[i]?=some (some v))∨∃v p,vs[n]?=some v/\s=.is p/\Rep F v p
 | _,_,.here e r=>⟨0,fun {n s} h=>by
  cases n with
  | zero=>simp at h;subst h;exact .inl ⟨rfl,rfl,_,rfl,e⟩
  | succ n=>
   obtain⟨v,p,q⟩:=r.at (n:=n) (s:=s) (by simpa using h)
   exact .inr ⟨v,p,by simpa using q⟩⟩
 | _,_,.there r h=>by
  obtain⟨m,b⟩:=h.at;refine⟨m+1,fun {n s} q=>?_⟩;cases n with
  | zero=>simp at q;subst q;exact .inr ⟨_,_,rfl,rfl,r⟩
  | succ n=>
   rcases b (n:=n) (s:=s) (by simpa using q) with⟨e,es,v,a⟩|⟨v,p,a⟩
   ·exact .inl ⟨by rw[e],es,v,by simpa using a⟩
   ·exact .inr ⟨v,p,by simpa using a⟩
structure PR (E:Ent0) (ss:List Slot) (σ:L2.St) (i:Nat) (lt:Bool) (t t':OV) (F H F' H':Hp):Prop where
 st:Sg E (ss.set i (.ow lt t')) σ F' H'
 ff:AB F F'
 hh:∀a o,D2 ss σ a->a∉t.addrs->H a=some o->H' a=some o
 nn:∀a o,F' a=some o->F a=some o∨H a=none
structure NZ [Xw] (ss:List Slot) (ta:TA) (k:List Slot->Prop):Prop where
 go:∀(E:Ent) (σ:L2.St) (F H:Hp) (Q:List V->Hp->Prop),Sg E ss σ F H->(∀vs l F' H',Mv E ss σ F H F' H'->JP F' vs l->k l->Q vs H')->ta σ H Q
structure j7 [Xw] (ss:List Slot) (i:Nat) (t:OV) (ta:TA) (k:List Slot->Prop):Prop where
 go:∀(E:Ent) (σ:L2.St) (F H:Hp) (Q:List V->Hp->Prop),Sg E ss σ F H->(∀vs l F' H',Mv E ss σ F H F' H'->J0 σ F' i t vs l->k l->Q vs H')->ta σ H Q
structure Wm [Xw] (ss:List Slot) (i:Nat) (lt:Bool) (t:OV) (te:TE) (k:PV->OV->Prop):Prop where
 go:∀(E:Ent) (σ:L2.St) (F H:Hp) (Q:VK),Sg E ss σ F H->(∀v p t' F' H',PR E ss σ i lt t t' F H F' H'->Rep F' v p->k p t'->Q v H')->te σ H Q
structure N7 [Xw] (ss:List Slot) (i:Nat) (lt:Bool) (t:OV) (c:TT) (k:Bool->OV->Prop):Prop where
 go:∀(E:Ent) (σ:L2.St) (F H:Hp) (Q:Bool->Hp->Prop),Sg E ss σ F H->(∀b t' F' H',PR E ss σ i lt t t' F H F' H'->k b t'->Q b H')->c σ H Q
theorem Sg.V0 {lt:Bool}(S:Sg E ss σ F H)(hi:ss[i]?=some (.ow lt t))(a:J0 σ F i t vs l):Sg ⟨[],F,H,t.addrs⟩ l (vs.map some) F H:=by
 obtain⟨w,e0,c,DC,g⟩:=S.ok i _ hi;have nn:∀{p:Prop}(a:Addr),a∈([]:List Addr)->p:=fun a h=>absurd h BJ;obtain⟨m,f⟩:=a.at;refine⟨⟨S.fh,AB.refl _,fun _ _ _ e=>e,fun _ _ e=>.inl e,fun a h=>nn a h,fun a h=>nn a h,fun a h=>nn a h,fun a h=>(g a h).1,fun a h=>c.there a h,fun a h=>⟨c.there a h,BJ⟩⟩,by rw[AQ];exact a.len,fun n s hn=>?_,fun n j s u b q hn z y x=>?_⟩
 ·rcases f hn with⟨_,rfl,v,d,o⟩|⟨v,p,d,rfl,r⟩
  ·rw[BU,d];rw[e0] at o;cases o;exact⟨w,rfl,c,DC,fun a k=>⟨(g a k).1,.inr ⟨rfl,k⟩⟩⟩
  ·rw[BU,d];exact⟨v,rfl,r⟩
 ·rcases f hn with⟨B,rfl,_⟩|⟨_,_,_,rfl,_⟩
  ·rcases f z with⟨A,rfl,_⟩|⟨_,_,_,rfl,_⟩
   ·exact q (B.trans A.symm)
   ·cases x
  ·cases y
theorem Sg.X4 {lt:Bool}{EK:NK}{us':List OV}(S:Sg E ss σ F H)(hi:ss[i]?=some (.ow lt (.nd nk a0 us)))(f:Fin ⟨[],F,H,(OV.nd nk a0 us).addrs⟩ F' H')(r:BG F' H' (.ref a0) (.nd EK a0 us'))(nd:(OV.nd EK a0 us').addrs.Nodup)(q:∀a∈(OV.nd EK a0 us').addrs,F' a=none/\(H a=none∨a∈(OV.nd nk a0 us).addrs)):
  PR E ss σ i lt (.nd nk a0 us) (.nd EK a0 us') F H F' H':=by
 obtain⟨J,e0,K,DC,w⟩:=S.ok i _ hi;have O:J=.ref a0:=by cases K;rfl
 subst O;have I:i<ss.length:=(List.getElem?_eq_some_iff.mp hi).1;have kp:∀a o,a∉(OV.nd nk a0 us).addrs->H a=some o->H' a=some o:=fun a o n e=>f.keep a o ⟨BJ,n⟩ e;have CA:∀a,H a≠none->F a=none->F' a=none:=fun a h1 h2=>by
  cases e:F' a with
  | none=>rfl
  | some o=>
   rcases f.fresh a o e with z | z
   ·rw[show F a=some o from z] at h2;cases h2
   ·exact absurd z h1
 have L:∀a,a∈E.A->a∉(OV.nd nk a0 us).addrs:=fun a h m=>by
  rcases(w a m).2 with z | ⟨_,z⟩
  ·exact S.a0 a h z
  ·exact(S.b0 a z).2 h
 have d:∀(j:Nat) s,j≠i->ss[j]?=some s->∀a,Bc s σ[j]? a->a∉(OV.nd nk a0 us).addrs:=fun j s g t a ho m=>S.CH j i s _ a g t hi ho m;refine⟨⟨⟨f.fh,S.f0.trans f.f0,fun a o h e=>?_,fun a o e=>?_,fun a h=>?_,fun a h=>?_,S.a0,fun a v=>?_,fun a v=>?_,S.b0⟩,by rw[GX];exact S.len,fun j s g=>?_,fun j k s u b Rj g C y x=>?_⟩,f.f0,fun a o _ n e=>kp a o n e,fun a o e=>f.fresh a o e⟩
 ·refine kp a o (fun m=>?_) (S.keep a o h e);rcases(w a m).2 with z | ⟨_,z⟩
  ·rw[e] at z;cases z
  ·exact h.2 z
 ·rcases f.fresh a o e with z | z
  ·exact S.fresh a o z
  ·exact .inr (S.EO z)
 ·exact C5.keep (S.HB a h) fun o e=>kp a o (L a h) e
 ·obtain⟨_,_,p,_⟩:=S.HB a h;exact CA a (by rw[p];simp) (S.Ll a h)
 ·exact CA a (S.bH a v) (S.bF a v)
 ·by_cases m:a∈(OV.nd nk a0 us).addrs
  ·exact f.bH a m
  ·intro z;cases e:H a with
   | none=>exact S.bH a v e
   | some o=>rw[kp a o m e] at z;cases z
 ·by_cases c:j=i
  ·subst c;rw[Cm I] at g;cases g;refine⟨.ref a0,e0,r,nd,fun a D=>⟨(q a D).1,?_⟩⟩;rcases(q a D).2 with z | z
   ·exact .inl (S.EO z)
   ·exact(w a z).2
  ·rw[CL (B9 c)] at g
   by_cases np:s=.AM
   ·subst np;obtain⟨l,e,N,M,pt⟩:=S.ok j _ g;obtain⟨_,_,p,_⟩:=id pt;exact⟨l,e,CA l (by rw[p];simp) N,M,C5.keep pt fun o z=>kp l o (d j _ c g l e) z⟩
   ·exact Ok.go S g f.f0 (fun a o ho e=>kp a o (d j s c g a ho) e) CA np
 ·have at_:∀(n:Nat) s,(ss.set i (.ow lt (.nd EK a0 us')))[n]?=some s->(n=i/\s=.ow lt (.nd EK a0 us'))∨(n≠i/\ss[n]?=some s):=fun n s hn=>by
   by_cases c:n=i
   ·subst c;rw[Cm I] at hn;exact .inl ⟨rfl,(Bj hn).symm⟩
   ·rw[CL (B9 c)] at hn;exact .inr ⟨c,hn⟩
  have B:∀(n:Nat) s,n≠i->ss[n]?=some s->Bc s σ[n]? b->b∉(OV.nd EK a0 us').addrs:=fun n s hn t ho m=>by
   rcases(q b m).2 with z | z
   ·exact S.EL t ho z
   ·exact d n s hn t b ho z
  rcases at_ j s g with⟨p,rfl⟩|⟨n1,h1⟩
  ·rcases at_ k u C with⟨G,rfl⟩|⟨n2,h2⟩
   ·exact Rj (p.trans G.symm)
   ·exact B k u n2 h2 x y
  ·rcases at_ k u C with⟨G,rfl⟩|⟨n2,h2⟩
   ·exact B j s n1 h1 y x
   ·exact S.CH j k s u b Rj h1 h2 y x
section
variable [Xw]
variable {ta:TA}{lt:Bool}{nx:List Slot->Prop}{R:B3}
theorem Fw {k:List Slot->Prop}(h:k []):NZ ss BM k:=⟨fun E σ F H Q S q=>q [] [] F H (Mv.refl S) .nil h⟩
theorem DX {k:List Slot->Prop}(h:Wp ss te fun p=>NZ ss ta fun l=>k (.is p::l)):NZ ss (Ag te ta) k:=⟨fun E σ F H Q S q=>
 h.go E σ F H _ S fun v p F1 H1 c r h2=>h2.go E σ F1 H1 _ c.st fun vs l F2 H2 b a kk=>q _ _ F2 H2 (c.trans b) (.cons (r.mono b.ff) a) kk⟩
theorem Nf {k:List Slot->Prop}(hi:ss[i]?=some (.ow lt t))(h:NZ ss ta fun l=>k (.ow true t::l)):j7 ss i t (Ag (BD i) ta) k:=⟨fun E σ F H Q S q=>by
 obtain⟨c,e0,_⟩:=S.ok i _ hi;exact⟨_,e0,h.go E σ F H _ S fun vs l F2 H2 b a kk=>q _ _ F2 H2 b (.here e0 a) kk⟩⟩
theorem Mv.cK {F1 H1 F2 H2:Hp}(hi:ss[i]?=some (.ow lt t))(a:Mv E ss σ F H F1 H1)(b:PR E ss σ i lt t t' F1 H1 F2 H2):PR E ss σ i lt t t' F H F2 H2:=
 ⟨b.st,a.ff.trans b.ff,fun c o n z e=>b.hh c o n z (a.hh c o n e),fun c o e=>(b.nn c o e).elim (fun e=>a.nn c o e) fun e=>.inr (a.none e)⟩
theorem NH {k:PV->OV->Prop}(hi:ss[i]?=some (.ow lt (.nd nk a0 us)))(h:j7 ss i (.nd nk a0 us) ta fun l=>∃k',pre l (.mt k')/\∀p t',k' p t'->∃EK us',t'=.nd EK a0 us'/\k p t'):Wm ss i lt (.nd nk a0 us) (DK (Br pre) [] E0 ta) k:=⟨fun E σ F H Q S q=>
 h.go E σ F H _ S fun vs l F1 H1 b a ⟨k',e,kk⟩=>by
  rw[El];refine⟨l,.mt k',F1,[],(OV.nd nk a0 us).addrs,e,b.st.V0 hi a,fun v F' H' f ⟨p,t',r,c,nd,d,kp⟩=>?_⟩;obtain⟨EK,us',rfl,k2⟩:=kk p t' kp;exact q v p _ F' H' (b.cK hi (b.st.X4 hi f c nd d)) r k2⟩
theorem Zq {k:Bool->OV->Prop}(h:Wm ss i lt t te fun p t'=>∃c,p=.bl c/\k c t'):N7 ss i lt t (tB te) k:=⟨fun E σ F H Q S q=>
 h.go E σ F H _ S fun v p t' F1 H1 a r AK=>by
  obtain⟨c,e,kk⟩:=AK;subst e;cases r.inv;exact⟨c,rfl,q c t' F1 H1 a kk⟩⟩
theorem XA {k:Bool->OV->Prop}(h:N7 ss i lt t c fun b t'=>k (!b) t'):N7 ss i lt t (RB c) k:=⟨fun E σ F H Q S q=>
 h.go E σ F H _ S fun b t' F1 H1 a kk=>q (!b) t' F1 H1 a kk⟩
theorem VF {u v:TS}(h:N7 ss i lt t c fun b t'=>if b=true then Ws (ss.set i (.ow lt t')) u nx R else Ws (ss.set i (.ow lt t')) v nx R):Ws ss (SY c u v) nx R:=⟨fun E D σ F H S hn d=>
 h.go E σ F H _ S fun b t' F1 H1 a kk=>by
  cases b with
  | true=>rw[pQ rfl] at kk;exact kk.go E D σ F1 H1 a.st (fun AJ σ' F' H' n S' s=>hn AJ σ' F' H' n S' (a.ff.trans s)) d
  | false=>rw[o5 (by decide)] at kk;exact kk.go E D σ F1 H1 a.st (fun AJ σ' F' H' n S' s=>hn AJ σ' F' H' n S' (a.ff.trans s)) d⟩
theorem ZZ (h:Wm ss i lt t te fun _ t'=>nx (ss.set i (.ow lt t'))):Ws ss (HN te) nx R:=⟨fun E D σ F H S hn b=>
 h.go E σ F H _ S fun v p t' F1 H1 a r kk=>hn _ σ F1 H1 kk a.st a.ff⟩
theorem Di {k:PV->OV->Prop}(hi:ss[i]?=some (.ow lt (.nd nk a0 us)))(h:Wp ss te fun p=>k p (.nd nk a0 us)):Ws ss (Fp te) nx (.mt k):=⟨fun E D σ F H S hn g=>
 h.go E σ F H _ S fun v p F1 H1 d r kk=>by
  obtain⟨f,e0,b,DC,c⟩:=d.st.ok i _ hi;have j:f=.ref a0:=by cases b;rfl
  subst j;exact g v F1 H1 d.st.toFin ⟨p,.nd nk a0 us,r,b,DC,fun a e=>⟨(c a e).1,(c a e).2.imp id fun z=>z.2⟩,kk⟩⟩
end
theorem KI {N:List Str}{t:TS}(h:Br pre vs H Q X)(b:∀ss R,pre ss R->ss.length=n)
  (hw:∀ss R,pre ss R->Ws (ss++List.replicate (N.length - n) .any) t (fun _=>False) R):t { nx:=fun _ H'=>Q .A8 H',rt:=Q } (L2.start N vs) H:=by
 obtain⟨ss,R,F,A,B,a,S,q⟩:=h;have e:vs.length=n:=by have:=S.len;rw[AQ] at this;rw[<- this];exact b ss R a
 unfold L2.start;rw[e];exact(hw ss R a).go (RE ⟨A,F,H,B⟩) _ _ F H (S.grown _) (fun AJ σ' F' H' z S' _=>z.elim) fun v F' H' f ok=>q v F' H' f ok
theorem Gh (b:∀ss R,pre ss R->ss.length=n)(h:Br pre vs H Q X):vs.length=n:=by
 obtain⟨ss,R,F,A,B,a,S,q⟩:=h;have:=S.len;rw[AQ] at this;rw[<- this];exact b ss R a
theorem Sg.iK (S:Sg E ss σ F H)(c:ss[j]?=some (.ow false u)):Sg E (ss.set j (.is u.pv)) σ (CB F H u.addrs) H/\AB F (CB F H u.addrs):=by
 obtain⟨v,e,r,nd,d⟩:=S.ok j _ c;obtain⟨S1,f⟩:=(S.drop j).lay u.addrs (fun a b=>⟨(d a b).1,(d a b).2.elim id (fun z=>by cases z.1),r.there a b⟩) fun a b n s hn m=>by
  by_cases q:n=j
  ·subst q;rw[Cm (List.getElem?_eq_some_iff.mp c).1] at hn;cases hn;cases m
  ·rw[CL (B9 q)] at hn;exact S.CH n j s _ a q hn c m b
 have g:=S1.FQ (j:=j) (v:=v) (p:=u.pv) (r.rep f fun a b o ho=>by unfold CB;rw[pQ b];exact ho);rw[P6 e,Tw] at g;exact⟨g,f⟩
theorem ZFU {p:Slot}(d:ss[j]?=some (.ow false u))(c:p≠.AM)(a:Addr):D2 ss σ a->D2 (ss.set j p) σ a:=fun n k b=>by
 by_cases q:k=j
 ·subst q;rw[Cm (List.getElem?_eq_some_iff.mp d).1] at b;cases b;exact absurd rfl c
 ·rw[CL (B9 q)] at b;exact n k b
theorem Sg.xC (S:Sg E ss σ F H)(d:ss[j]?=some (.ow false u))(ff:AB (CB F H u.addrs) F')(fh:AB F' H'):(∀a∈u.addrs,F' a=H a/\H' a=H a/\H a≠none)/\∀a∈u.addrs,∀ws,F' a≠some (.tup ws):=by
 obtain⟨v,e,r,nd,f⟩:=S.ok j _ d;have at_:∀a∈u.addrs,F' a=H a/\H' a=H a/\H a≠none:=fun a b=>by
  cases q:H a with
  | none=>exact absurd q (r.there a b)
  | some o=>
   have c:F' a=some o:=ff a o (by unfold CB;rw[pQ b];exact q);exact⟨c,fh a o c,by simp⟩
 exact⟨at_,fun a b ws q=>by rw[(at_ a b).1] at q;exact r.Lx a b ws q⟩
theorem Sg.ZCY (S:Sg E ss σ F H)(b:ss[j]?=some (.ow false u))(m:Mv E (ss.set j (.is u.pv)) σ (CB F H u.addrs) H F' H'):Mv E ss σ F H (HG F' u.addrs) H'/\∀a∈u.addrs,∀ws,F' a≠some (.tup ws):=by
 obtain⟨v,e,r,nd,d⟩:=S.ok j _ b;obtain⟨S2,g⟩:=S.iK b;obtain⟨at_,f⟩:=S.xC b m.ff m.st.fh;refine⟨S.step (fun a o ea=>?_) (fun a o ea=>?_) (fun a o n ea=>m.hh a o (ZFU b (fun z=>by cases z) a n) ea) (fun a o ea=>?_) (fun k l c h=>?_),f⟩
 ·unfold HG;rw[o5 (fun q=>by rw[(d a q).1] at ea;cases ea)];exact m.ff a o (g a o ea)
 ·unfold HG at ea;split at ea
  ·cases ea
  ·exact m.st.fh a o ea
 ·unfold HG at ea;split at ea
  ·cases ea
  ·rename_i q;rcases m.nn a o ea with z | z
   ·unfold CB at z;rw[o5 q] at z;exact .inl z
   ·exact .inr z
 ·refine m.st.EV (i:=k) ?_ h;rw[CL (fun q=>by subst q;rw[b] at c;cases c)];exact c
section
variable [Xw]
variable {lt:Bool}
theorem wW {k:PV->Prop}(j:Nat)(a:ss[j]?=some (.ow false u))(h:Wp (ss.set j (.is u.pv)) te fun p=>Fx p=true/\k p):Wp ss te k:=⟨fun E σ F H Q S q=>by
 obtain⟨S2,d⟩:=S.iK a;refine h.go E σ _ H Q S2 fun v p F' H' m b ⟨hn,kk⟩=>?_;obtain⟨M,c⟩:=S.ZCY a m;exact q v p _ H' M (b.sub c hn) kk⟩
end
end Fz
namespace L2
section
variable {X:Cx}{o i value:Expr}{td ty tv:TE}{pos pos':Pos}
theorem C8 (f:X.A.units+1<cLine)(ho:QE X o td)(hi:QE X i ty)(j:Z5 i):QE X (.Subscript o i pos) (J7 td ty):=⟨by
 have ho:=ho.h;have hi:=hi.h;intro pins s σ H Q I h;refine ZFC PySem.F.slot_dict_getitem.lookup j (AR (ho pins s σ H _ I h) fun u s1 ⟨x,H1,I1,c,e⟩=>AR (hi pins s1 σ H1 _ I1 e) fun m s2 ⟨y,H2,I2,b,a,v,ex,g,d⟩=>?_);subst ex;obtain rfl:u=Value.ref a:=c;exact⟨ZBj I2 g,uG f I2 g b fun k l I3 Eo=>⟨v,H2,I3,Eo,d⟩⟩⟩
theorem JQ (l:X.A.units+1<cLine)(ho:QE X o td)(hi:QE X i ty)(b:QE X value tv)(m:swapsWith value (some (.Subscript o i pos')) pos.line X.env=pure false:=by rfl):
  QS X (.Assign [.Subscript o i pos'] value pos) (R0 td ty tv):=⟨by
 have ho:=ho.h;have hi:=hi.h;have b:=b.h;intro pins s σ H D I h;refine wpAny_Assign_Subscript (AR (b pins s σ H _ I h) fun r s1 ⟨v,H1,I1,e,k⟩=>AR (ho pins s1 σ H1 _ I1 k) fun u s2 ⟨x,H2,I2,d,j⟩=>AR (hi pins s2 σ H2 _ I2 j) fun p n ⟨y,H3,I3,c,a,H4,ex,g,f⟩=>?_) m;subst ex;obtain rfl:u=Value.ref a:=d;exact ZB9 l I3 g c e fun s4 I4=>⟨σ,H4,I4,f⟩⟩
theorem NM:QE X (.Dict [] [] pos) VL:=⟨fun pins s σ H Q I h=>
 wpAny_Dict_empty ⟨.ref s.heap.objs.size,_,I.laid (a:=s.heap.objs.size) (o:=.dK []) (t':=s.toks) (fun _ _ q=>BN _ q) (Ax _) (lL s.heap I.big),rfl,h _ (I.AF.fresh (Ax _))⟩⟩
end
end L2
namespace Fz
open L2 Lw
variable {F F0 H H0:Hp}{ss:List Slot}{ta td tv ty:TE}{nx:List Slot->Prop}{R:B3}{i:Nat}{ks:List Key}{Bv vs:List V}{t u w:OV}{C a dx:Addr}{us us':List OV}{E:Ent0}{σ:L2.St}{m p:List Nat}{f:Str}{ns:List Str}{pre:Pre}
noncomputable def HC:Key->PV
 | .inl i=>.int i
 | .inr x=>.str x
noncomputable def Jn:List Key->List PV->Key->Option PV
 | k'::ks,x::xs,k=>if k'=k then some x else Jn ks xs k
 | _,_,_=>none
noncomputable def Gs (ks:List Key)(k:Key):Bool:=ks.any fun k'=>decide (k'=k)
noncomputable def HJ (ks:List Key)(k:Key):List Key:=if Gs ks k=true then ks else ks++[k]
theorem Kq {v:V}{k:Key}(r:Rep F v (HC k)):v=kV k:=by
 cases k with
 | inl i=>cases r.inv;rfl
 | inr x=>cases r.inv;rfl
theorem cg {F:Hp}{k:Key}{y:PV}:∀{ks:List Key}{vs:List V}{xs:List PV},AV F vs xs->ks.length=vs.length->Jn ks xs k=some y->∃v,DT (ks.zip vs) k=some v/\Rep F v y
 | [],_,_,_,_,h=>by rw[Jn] at h;cases h;all_goals simp
 | k'::ks,v::vs,x::xs,.cons r t,hl,h=>by
  rw[Jn] at h;rw[Jc]
  by_cases c:k'=k
  ·rw[pQ c] at h;cases h;exact⟨v,Q7 c,r⟩
  ·rw[o5 c] at h;obtain⟨w,h1,h2⟩:=cg t (by simpa using hl) h
   exact⟨w,by rw[Pd c];exact h1,h2⟩
 | k'::ks,[],xs,_,hl,_=>by simp at hl
section
variable [Xw]
variable {k:PV->Prop}{lt:Bool}
theorem LZ (h:Wp ss td fun p=>∃ks xs,p=.B1 ks xs/\Wp ss ty fun q=>∃a y,q=HC a/\Jn ks xs a=some y/\k y):Wp ss (J7 td ty) k:=⟨fun E σ F H Q S q=>
 h.go E σ F H _ S fun v p F1 H1 d i ⟨ks,xs,e,h2⟩=>h2.go E σ F1 H1 _ d.st fun r p2 F2 H2 c g ⟨a,y,n,j,kk⟩=>by
  subst e;subst n;have o:=i.mono c.ff;cases o with
  | B1 m l f=>
   obtain⟨w,hw,b⟩:=cg f l j;refine⟨_,w,rfl,?_,q w y F2 H2 (d.trans c) b kk⟩;rw[<- hw,Kq g];exact FZ.k (c.st.fh _ _ m)⟩
theorem Mb {k:List Nat->OV->Prop}(h:∀a,k [] (.nd (.B1 []) a (([]:List PV).map .fz))):Wx ss VL k:=⟨fun E σ F H Q S q p b=>by
 have m:=S.make b (.dK []);refine q _ [] (.nd (.B1 []) p (([]:List PV).map .fz)) F _ m (.nd (k:=.B1 []) (vs:=[]) AO trivial rfl .nil) (by rw[OV.Dc];simp[NK.more,OV.Ik]) (fun a c=>?_) (h p);rw[OV.Dc] at c;have e:a=p:=by simpa[NK.more,OV.Ik] using c
 subst e;exact⟨S.CA b,S.EO b,.inr b⟩⟩
theorem ZQ:∀{ks:List Key}{vs:List V}{a:Key},ks.length=vs.length->(ks.zip vs).any (fun b=>decide (b.1=a))=Gs ks a
 | [],vs,a,h=>rfl
 | k'::ks,w::vs,a,h=>by
  rw[Jc,Nk,ZQ (by simpa using h)]
  rfl
 | _::_,[],_,h=>by simp at h
noncomputable def HZ:List Key->List V->Key->V->List V
 | k'::ks,x::xs,k,p=>(if k'=k then p else x)::HZ ks xs k p
 | _,xs,_,_=>xs
theorem fH:∀{ks:List Key}{vs:List V}{a:Key}{v:V},(ks.zip vs).map (fun b=>if b.1=a then(b.1,v) else b)=ks.zip (HZ ks vs a v)
 | [],vs,a,v=>by simp
 | k'::ks,w::vs,a,v=>by
  rw[Jc,Bp,fH,HZ,Jc]
  by_cases c:k'=a
  ·rw[pQ c,pQ c]
  ·rw[o5 c,o5 c]
 | _::_,[],_,_=>by simp[HZ]
end
noncomputable def Cc:List Key->Key->Option Nat
 | [],_=>none
 | k'::ks,k=>if k'=k then some 0 else(Cc ks k).map (· + 1)
theorem Xz:∀{ks:List Key}{a:Key}{n:Nat},Cc ks a=some n->ks[n]?=some a
 | [],_,_,h=>by cases h
 | k'::ks,a,n,h=>by
  rw[Cc] at h
  by_cases c:k'=a
  ·rw[pQ c] at h;cases h;subst c;rfl
  ·rw[o5 c] at h;cases e:Cc ks a with
   | none=>rw[e] at h;cases h
   | some m=>rw[e] at h;cases h;exact Xz (ks:=ks) e
theorem Xu:∀{ks:List Key}{a:Key},(Cc ks a).isSome=Gs ks a
 | [],_=>rfl
 | k'::ks,a=>by
  rw[Cc];unfold Gs;rw[Nk]
  by_cases c:k'=a
  ·rw[pQ c,nv c];rfl
  ·rw[o5 c,q8 c,Bool.false_or,bE,Xu];rfl
theorem X9:∀{ks:List Key}{vs:List V}{a:Key}{n:Nat}{v:V},Cc ks a=some n->vs[n]?=some v->DT (ks.zip vs) a=some v
 | [],_,_,_,_,h,_=>by cases h
 | k'::ks,[],a,n,v,h,hv=>by simp at hv
 | k'::ks,w::vs,a,n,v,h,hv=>by
  rw[Cc] at h;rw[Jc]
  by_cases c:k'=a
  ·rw[pQ c] at h;cases h;simp at hv;rw[Q7 c,hv]
  ·rw[o5 c] at h;cases e:Cc ks a with
   | none=>rw[e] at h;cases h
   | some m=>
    rw[e] at h;cases h;rw[Pd c];exact X9 e (by simpa using hv)
theorem YE {a:Key}(b:ks.length=vs.length):(DT (ks.zip vs) a).isSome=Gs ks a:=by
 rw[<- SJ,ZQ b]
theorem iq:∀{ks:List Key}{vs:List V}{a:Key}{n:Nat}{v:V},ks.Nodup->Cc ks a=some n->HZ ks vs a v=vs.set n v
 | [],_,_,_,_,_,h=>by cases h
 | k'::ks,[],a,n,v,_,h=>by rw[HZ];simp;simp
 | k'::ks,w::vs,a,n,v,nd,h=>by
  rw[Cc] at h;obtain⟨n1,n2⟩:=List.nodup_cons.mp nd;rw[HZ]
  by_cases c:k'=a
  ·rw[pQ c] at h;cases h;rw[pQ c,b9]
   congr 1
   subst c;have b:∀{ks:List Key}{vs:List V},k'∉ks->HZ ks vs k' v=vs:=by
    intro ks
    induction ks with
    | nil=>intro vs _;rw[HZ];simp
    | cons k2 ks d=>
     intro vs hn;cases vs with
     | nil=>rw[HZ];simp
     | cons u vs=>
      rw[HZ,o5 (fun z=>hn (by rw[z];simp)),d (fun z=>hn (by simp[z]))]
   exact b n1
  ·rw[o5 c] at h;cases e:Cc ks a with
   | none=>rw[e] at h;cases h
   | some m=>
    rw[e] at h;cases h;rw[o5 c,Tv,iq n2 e]
section
variable [Xw]
variable {k:PV->Prop}
theorem G8 {k:List Nat->OV->Prop}(h:Wl ss i t td fun p u=>∃ks a us,u=.nd (.B1 ks) a us/\Wp ss ty fun q=>∃b n w,q=HC b/\Cc ks b=some n/\us[n]?=some w/\k (p++[n]) w):Wl ss i t (J7 td ty) k:=⟨h.hi,fun E σ F H Q S q=>
 h.go E σ F H _ S fun v p u F1 H1 c m h1 ⟨ks,a,us,r,h2⟩=>h2.go E σ F1 H1 _ c.st fun s p2 F2 H2 d l ⟨b,n,w,e,hn,hw,kk⟩=>by
  subst e;have j:=m.mv c.st h.hi h1 d;subst r;obtain⟨vs,rfl,o,y,z,g⟩:=j.inv;obtain⟨x,hx,f⟩:=g.get hw;refine⟨a,x,rfl,?_,q x (p++[n]) w F2 H2 (c.trans d) f (OV.Mg h1 (by rw[OV.LC,hw];exact OV.Ig)) kk⟩;rw[<- X9 hn hx,Kq l];exact FZ.k o⟩
theorem gJ (h:Wp ss ty fun q=>Wl ss i t td fun _ u=>∃ks a us b,u=.nd (.B1 ks) a us/\q=HC b/\k (.bl (Gs ks b))):Wp ss (Vu ty td) k:=⟨fun E σ F H Q S q=>
 h.go E σ F H _ S fun v p F1 H1 c e h2=>h2.go E σ F1 H1 _ c.st fun n p2 u F2 H2 f d B0 AK=>by
  obtain⟨ks,a,us,b,l,m,kk⟩:=AK;subst l;subst m;obtain⟨vs,rfl,g,o,j,r⟩:=d.inv;refine⟨a,DT (ks.zip vs) b,rfl,by rw[Kq e];exact FZ.k g,?_⟩;rw[YE j];exact q _ _ F2 H2 (c.trans f) (.bl _) kk⟩
theorem U3 (h:Wp ss ty fun q=>Wl ss i t td fun _ u=>∃ks a us b,u=.nd (.B1 ks) a us/\q=HC b/\k (.bl (!Gs ks b))):Wp ss (SE ty td) k:=⟨fun E σ F H Q S q=>
 h.go E σ F H _ S fun v p F1 H1 c e h2=>h2.go E σ F1 H1 _ c.st fun n p2 u F2 H2 f d B0 AK=>by
  obtain⟨ks,a,us,b,l,m,kk⟩:=AK;subst l;subst m;obtain⟨vs,rfl,g,o,j,r⟩:=d.inv;refine⟨a,DT (ks.zip vs) b,rfl,by rw[Kq e];exact FZ.k g,?_⟩;rw[YE j];exact q _ _ F2 H2 (c.trans f) (.bl _) kk⟩
theorem yu (h:Wp ss ty fun q=>Wp ss td fun u=>∃ks xs b,u=.B1 ks xs/\q=HC b/\k (.bl (!Gs ks b))):Wp ss (SE ty td) k:=⟨fun E σ F H Q S q=>
 h.go E σ F H _ S fun v p F1 H1 d f h2=>h2.go E σ F1 H1 _ d.st fun m u F2 H2 c e AK=>by
  obtain⟨ks,xs,b,i,j,kk⟩:=AK;subst i;subst j;cases e with
  | @B1 a _ vs _ l g n=>
   refine⟨a,DT (ks.zip vs) b,rfl,by rw[Kq f];exact FZ.k (c.st.fh _ _ l),?_⟩;rw[YE g];exact q _ _ F2 H2 (d.trans c) (.bl _) kk⟩
theorem LI:(OV.nd (.B1 ks) a us).addrs=a::OV.Ao us:=by rw[OV.Dc];rfl
theorem bU {lt:Bool}:∀(m:List Nat) (ss:List Slot),ss[i]?=some (.ow lt t)->i∉m->(Fz.Dk m ss)[i]?=some (.ow lt t):=by
 intro m
 induction m with
 | nil=>intro ss h _;exact h
 | cons j m b=>
  intro ss h a;refine b _ ?_ fun z=>a (by simp[z]);rw[CL (by rintro rfl;exact a (by simp))];exact h
theorem Sg.bb {lt:Bool}{ks':List Key}(S0:Sg E ss σ F0 H0)(S:Sg E ss σ F H)(hi:ss[i]?=some (.ow lt t))(B0:t.at p=some (.nd (.B1 ks) a us))
  (d:∀a∈u.addrs,F a=none/\E.H0 a=none/\((∃i∈m,∃s,s≠Slot.AM/\ss[i]?=some s/\Bc s σ[i]? a)∨H0 a=none)) (Fi:i∉m)
  (B:BH F H Bv us') (C:ks'.length=Bv.length) (OM:(OV.Ao us').Nodup) (JY:∀b∈OV.Ao us',b∈OV.Ao us∨b∈u.addrs):Sg E ((Fz.Dk m ss).set i (.ow lt (t.put p (.nd (.B1 ks') a us')))) σ F (upd H a (.dK (ks'.zip Bv))):=by
 have J:=bU m ss hi Fi;obtain⟨v,e,r,nd,q⟩:=S.ok i _ hi;have n:∀b,b∈a::OV.Ao us->b∈t.addrs:=fun b c=>OV.Ku B0 b (by rw[LI];exact c);have I:∀b∈u.addrs,b∉t.addrs:=fun b c z=>by
  rcases(d b c).2.2 with⟨j,D,s,_,f,o⟩|w
  ·exact S.CH j i s _ b (by rintro rfl;exact Fi D) f hi o z
  ·exact S0.EL hi z w
 have h:(OV.nd (.B1 ks) a us).addrs.Nodup:=by
  obtain⟨l,K,G,_⟩:=OV.split B0;rw[G,Cu,Cu] at nd;exact nd.1.2.1
 rw[LI] at h;have g:∀b∈OV.Ao us',b≠a:=fun b c z=>by
  subst z;rcases JY b c with w | w
  ·exact(List.nodup_cons.mp h).1 w
  ·exact I b w (n b (by simp))
 refine(S.Dk m).Zy J B0 (.nd (k:=.B1 ks') AO trivial C (B.mono (AB.refl _) fun b c o ho=>by rw[AX (g b c)];exact ho)) (by rw[LI];exact List.nodup_cons.mpr ⟨fun z=>g a z rfl,OM⟩) fun b c=>?_;rw[LI] at c ⊢;rcases List.mem_cons.mp c with w | w
 ·exact .inl (by simp[w])
 ·rcases JY b w with z | z
  ·exact .inl (by simp[z])
  ·refine .inr ⟨(d b z).1,(d b z).2.1,fun j s f o=>?_⟩;rcases Py f with y | ⟨EM,hm⟩
   ·subst y;cases o
   ·rcases(d b z).2.2 with⟨A,GR,s2,_,CK,x⟩|y
    ·exact S.CH j A s s2 b (by rintro rfl;exact hm GR) EM CK o x
    ·exact S0.EL EM o y
noncomputable def GP (ks:List Key)(us:List OV)(a:Key)(w:OV):List OV:=match Cc ks a with
 | some n=>us.set n w
 | none=>us++[w]
theorem JW (h:Wx ss tv fun m w=>Wl ss i t td fun p u=>∃lt a ks us,ss[i]?=some (.ow lt t)/\u=.nd (.B1 ks) a us/\us.length<=99999/\ks.Nodup/\i∉m/\Wp ss ty fun q=>∃d,q=HC d/\nx ((Fz.Dk m ss).set i (.ow lt (t.put p (.nd (.B1 (HJ ks d)) a (GP ks us d w)))))):Ws ss (R0 td ty tv) nx R:=⟨fun E D σ F H S hn hr=>
 h.go E σ F H _ S fun v m w F1 H1 U T HM J h2=>h2.go E σ F1 H1 _ U.st fun v2 p u F2 H2 M Q B0 ⟨lt,a,ks,us,hi,eu,hz,A,Fi,h3⟩=>h3.go E σ F2 H2 _ M.st fun v3 q F3 H3 I r3 ⟨d,eq,kk⟩=>by
  subst eu;subst eq;have ev:v2=.ref a:=by cases Q;rfl
  subst ev;have K:=M.trans I;have np:∀b∈w.addrs,D2 ss σ b:=fun b f k A X=>by
   rcases(J b f).2.2 with⟨j,W,s,O,JT,o⟩|z
   ·exact S.CH j k s _ b (fun e=>by subst e;rw[JT] at A;exact O (Bj A)) JT A o X
   ·exact S.EL A X z
  have GF:BG F3 H3 v w:=T.mono K.ff fun b f o e=>K.hh b o (np b f) e;have Zr:∀b∈w.addrs,F3 b=none/\E.H0 b=none/\((∃i∈m,∃s,s≠Slot.AM/\ss[i]?=some s/\Bc s σ[i]? b)∨H b=none):=fun b f=>by
   refine⟨?_,(J b f).2⟩;cases e:F3 b with
   | none=>rfl
   | some o=>
    rcases K.nn b o e with z | z
    ·rw[(J b f).1] at z;cases z
    ·exact absurd z (T.there b f)
  have r4:=Q.mv M.st ⟨lt,hi⟩ B0 I;cases r4 with
  | @nd _ _ vs _ ha sd ft G=>
   have L:ks.length=vs.length:=ft;have vl:=G.length;have N:(ks.zip vs).length<=99999:=by rw[QD];omega
   refine⟨a,_,rfl,by rw[Kq r3];exact Pb.k ha (OF N),?_⟩;obtain⟨v0,e0,r0,DC,q0⟩:=I.st.ok i _ hi;have P:(OV.nd (.B1 ks) a us).addrs.Nodup:=by
    obtain⟨l,G,B,_⟩:=OV.split B0;rw[B,Cu,Cu] at DC;exact DC.1.2.1
   rw[LI] at P;have g:∀b∈w.addrs,b∉OV.Ao us:=fun b f z=>by
    have Z:b∈t.addrs:=OV.Ku B0 b (by rw[LI];simp[z]);rcases(J b f).2.2 with⟨j,W,s,_,O,o⟩|y
    ·exact S.CH j i s _ b (by rintro rfl;exact Fi W) O hi o Z
    ·exact S.EL hi Z y
   obtain⟨Bv,ep,OY,K5,Pz,sb⟩:∃Bv:List V,putK (ks.zip vs) d v=(HJ ks d).zip Bv/\(HJ ks d).length=Bv.length/\BH F3 H3 Bv (GP ks us d w)/\(OV.Ao (GP ks us d w)).Nodup/\∀b∈OV.Ao (GP ks us d w),b∈OV.Ao us∨b∈w.addrs:=by
    unfold putK HJ GP;rw[ZQ L];cases e:Cc ks d with
    | some n=>
     have c:Gs ks d=true:=by rw[<- Xu,e];rfl
     have Jk:n<us.length:=by
      have:=(List.getElem?_eq_some_iff.mp (Xz e)).1;omega
     obtain⟨l,r,B,Y⟩:=J2 (BC Jk);rw[pQ c,pQ c,fH,iq A e];refine⟨vs.set n v,rfl,by rw[GX];exact L,G.set n GF,?_,fun b f=>?_⟩
     ·show(OV.Ao (us.set n w)).Nodup;rw[Y];have n1:=(List.nodup_cons.mp P).2;rw[B] at n1;exact Qc n1 HM fun b f=>.inr (by rw[<- B];exact g b f)
     ·have C:b∈OV.Ao (us.set n w):=f;rw[Y] at C;rcases List.mem_append.mp C with z | z
      ·rcases List.mem_append.mp z with z | z
       ·exact .inl (by rw[B];simp[z])
       ·exact .inr z
      ·exact .inl (by rw[B];simp[z])
    | none=>
     have c:¬ Gs ks d=true:=by rw[<- Xu,e];decide
     rw[o5 c,o5 c];refine⟨vs++[v],by rw[List.zip_append L];rfl,by rw[CM,CM,L];rfl,G.append (.one GF),?_,fun b f=>?_⟩
     ·show(OV.Ao (us++[w])).Nodup;rw[PD,TJ,Cu];exact⟨(List.nodup_cons.mp P).2,HM,fun x hx y hy e=>g y hy (e▸hx)⟩
     ·have C:b∈OV.Ao (us++[w]):=f;rw[PD,TJ] at C;exact List.mem_append.mp C
   rw[ep];exact hn _ σ F3 _ kk (Sg.bb (u:=w) S I.st hi B0 Zr Fi K5 OY Pz sb) (U.ff.trans K.ff)⟩
end
noncomputable def DB:List Str->Str->Option Nat
 | [],_=>none
 | g::ns,f=>if g=f then some 0 else(DB ns f).map (· + 1)
noncomputable def Kz (ns:List Str)(f:Str):List Str:=match DB ns f with
 | some _=>ns
 | none=>ns++[f]
noncomputable def OZ (ns:List Str)(us:List OV)(f:Str)(w:OV):List OV:=match DB ns f with
 | some n=>us.set n w
 | none=>us++[w]
noncomputable def KL (ns:List Str)(vs:List V)(f:Str)(w:V):List V:=match DB ns f with
 | some n=>vs.set n w
 | none=>vs++[w]
theorem VI:∀{ns:List Str}{f:Str}{n:Nat},DB ns f=some n->n<ns.length
 | [],_,_,h=>by cases h
 | g::ns,f,n,h=>by
  rw[DB] at h
  by_cases c:g=f
  ·rw[pQ c] at h;cases h;exact Nat.succ_pos _
  ·rw[o5 c] at h;cases e:DB ns f with
   | none=>rw[e] at h;cases h
   | some m=>rw[e] at h;cases h;exact Nat.succ_lt_succ (VI e)
theorem SO:∀{ns:List Str}{vs:List V}{f:Str}{n:Nat}{v:V},DB ns f=some n->vs[n]?=some v->(ns.zip vs).lookup f=some v
 | [],_,_,_,_,h,_=>by cases h
 | g::ns,[],f,n,v,h,hv=>by simp at hv
 | g::ns,w::vs,f,n,v,h,hv=>by
  rw[DB] at h;rw[Jc]
  by_cases c:g=f
  ·rw[pQ c] at h;cases h;simp at hv;subst c;rw[ZGG,hv]
  ·rw[o5 c] at h;cases e:DB ns f with
   | none=>rw[e] at h;cases h
   | some m=>
    rw[e] at h;cases h;rw[HH];have:(f == g)=false:=by simpa using fun z=>c z.symm
    rw[this];exact SO e (by simpa using hv)
theorem U8:∀{ns:List Str}{vs:List V}{f:Str}{v:V},ns.length=vs.length->DI f v (ns.zip vs)=(Kz ns f).zip (KL ns vs f v)/\(Kz ns f).length=(KL ns vs f v).length
 | [],[],f,v,_=>by simp[DI,Kz,KL,DB]
 | [],_::_,_,_,h=>by simp at h
 | _::_,[],_,_,h=>by simp at h
 | g::ns,w::vs,f,v,h=>by
  obtain⟨b,a⟩:=U8 (ns:=ns) (vs:=vs) (f:=f) (v:=v) (by simpa using h)
  rw[Jc];rw[show DI f v ((g,w)::ns.zip vs)=(if g=f then(g,v)::ns.zip vs else(g,w)::DI f v (ns.zip vs)) from rfl]
  unfold Kz KL at b a ⊢;rw[DB]
  by_cases c:g=f
  ·rw[pQ c,pQ c];exact⟨by simp,by simpa using h⟩
  ·rw[o5 c,o5 c,b];cases e:DB ns f with
   | none=>rw[e] at a;exact⟨by simp,by simpa using a⟩
   | some m=>rw[e] at a;exact⟨by simp,by simpa using a⟩
section
variable [Xw]
variable {k:PV->Prop}{K:ZHP}
theorem Uc {k:List Nat->OV->Prop}(h:Wl ss i t ta fun p u=>∃C dx ns a us n w,u=.nd (.obj C dx ns) a us/\CI K C/\Be K C f/\DB ns f=some n/\us[n]?=some w/\k (p++[n]) w):Wl ss i t (KO K ta f) k:=⟨h.hi,fun E σ F H Q S q=>
 h.go E σ F H _ S fun v p u F1 H1 g d h1 AK=>by
  obtain⟨C,dx,ns,a,us,n,w,m,j,hn,hx,hw,kk⟩:=AK;subst m;obtain⟨vs,rfl,l,o,r,c⟩:=d.inv;obtain⟨x,e,b⟩:=c.get hw;exact⟨a,C,dx,ns.zip vs,x,rfl,l,j,hn,SO hx e,q x (p++[n]) w F1 H1 g b (OV.Mg h1 (by rw[OV.LC,hw];exact OV.Ig)) kk⟩⟩
theorem K6:(OV.nd (.obj C dx ns) a us).addrs=a::dx::OV.Ao us:=by rw[OV.Dc];rfl
theorem Sg.lS {lt:Bool}{Bd:List Str}(S0:Sg E ss σ F0 H0)(S:Sg E ss σ F H)(hi:ss[i]?=some (.ow lt t))(B0:t.at p=some (.nd (.obj C dx ns) a us))(Lg:H dx=some (.own a))
  (d:∀a∈u.addrs,F a=none/\E.H0 a=none/\((∃i∈m,∃s,s≠Slot.AM/\ss[i]?=some s/\Bc s σ[i]? a)∨H0 a=none)) (Fi:i∉m)
  (I:BH F H Bv us') (J:Bd.length=Bv.length) (OM:(OV.Ao us').Nodup) (JY:∀b∈OV.Ao us',b∈OV.Ao us∨b∈u.addrs):Sg E ((Fz.Dk m ss).set i (.ow lt (t.put p (.nd (.obj C dx Bd) a us')))) σ F (upd H a (.ins C dx (Bd.zip Bv))):=by
 have M:=bU m ss hi Fi;obtain⟨v,e,r,nd,q⟩:=S.ok i _ hi;have g:∀b,b∈a::dx::OV.Ao us->b∈t.addrs:=fun b c=>OV.Ku B0 b (by rw[K6];exact c);have x:∀b∈u.addrs,b∉t.addrs:=fun b c z=>by
  rcases(d b c).2.2 with⟨j,K,s,_,f,o⟩|w
  ·exact S.CH j i s _ b (by rintro rfl;exact Fi K) f hi o z
  ·exact S0.EL hi z w
 have A:(OV.nd (.obj C dx ns) a us).addrs.Nodup:=by
  obtain⟨l,N,L,_⟩:=OV.split B0;rw[L,Cu,Cu] at nd;exact nd.1.2.1
 rw[K6] at A;obtain⟨n1,n2⟩:=List.nodup_cons.mp A;obtain⟨D,O⟩:=List.nodup_cons.mp n2;have h:∀b∈OV.Ao us',b≠a:=fun b c z=>by
  subst z;rcases JY b c with w | w
  ·exact n1 (by simp[w])
  ·exact x b w (g b (by simp))
 have Sk:∀b∈OV.Ao us',b≠dx:=fun b c z=>by
  subst z;rcases JY b c with w | w
  ·exact D w
  ·exact x b w (g b (by simp))
 have n:dx≠a:=fun z=>n1 (by simp[z]);refine(S.Dk m).Zy M B0 (.nd (k:=.obj C dx Bd) AO (show upd H a _ dx=some (.own a) by rw[AX n];exact Lg) J (I.mono (AB.refl _) fun b c o ho=>by rw[AX (h b c)];exact ho)) (by
  rw[K6];exact List.nodup_cons.mpr ⟨fun z=>by
   rcases List.mem_cons.mp z with z | z
   ·exact n z.symm
   ·exact h a z rfl,List.nodup_cons.mpr ⟨fun z=>Sk dx z rfl,OM⟩⟩) fun b c=>?_
 rw[K6] at c ⊢;rcases List.mem_cons.mp c with w | w
 ·exact .inl (by simp[w])
 ·rcases List.mem_cons.mp w with w | w
  ·exact .inl (by simp[w])
  ·rcases JY b w with z | z
   ·exact .inl (by simp[z])
   ·refine .inr ⟨(d b z).1,(d b z).2.1,fun j s f o=>?_⟩;rcases Py f with y | ⟨EM,hm⟩
    ·subst y;cases o
    ·rcases(d b z).2.2 with⟨G,GR,s2,_,CK,B⟩|y
     ·exact S.CH j G s s2 b (by rintro rfl;exact hm GR) EM CK o B
     ·exact S0.EL EM o y
theorem vq {F1 H1 F3 H3:Hp}{v:V}(S:Sg E ss σ F H)(Jp:Mv E ss σ F1 H1 F3 H3)(g:BG F1 H1 v w)(f:∀a∈w.addrs,F1 a=none/\E.H0 a=none/\((∃i∈m,∃s,s≠Slot.AM/\ss[i]?=some s/\Bc s σ[i]? a)∨H a=none)):
  BG F3 H3 v w/\∀b∈w.addrs,F3 b=none/\E.H0 b=none/\((∃i∈m,∃s,s≠Slot.AM/\ss[i]?=some s/\Bc s σ[i]? b)∨H b=none):=by
 have np:∀b∈w.addrs,D2 ss σ b:=fun b c k d h=>by
  rcases(f b c).2.2 with⟨j,n,s,l,JT,o⟩|z
  ·exact S.CH j k s _ b (fun e=>by subst e;rw[JT] at d;exact l (Bj d)) JT d o h
  ·exact S.EL d h z
 refine⟨g.mono Jp.ff fun b c o e=>Jp.hh b o (np b c) e,fun b c=>⟨?_,(f b c).2⟩⟩;cases e:F3 b with
 | none=>rfl
 | some o=>
  rcases Jp.nn b o e with z | z
  ·rw[(f b c).1] at z;cases z
  ·exact absurd z (g.there b c)
theorem J6 (h:Wx ss tv fun m w=>Wl ss i t ta fun p u=>∃lt C dx ns a us,ss[i]?=some (.ow lt t)/\u=.nd (.obj C dx ns) a us/\CI K C/\Be K C f/\ns.length<1000/\i∉m/\nx ((Fz.Dk m ss).set i (.ow lt (t.put p (.nd (.obj C dx (Kz ns f)) a (OZ ns us f w)))))):Ws ss (Yw K ta tv f) nx R:=⟨fun E D σ F H S hn hr=>
 h.go E σ F H _ S fun v m w F1 H1 I T HM M h2=>h2.go E σ F1 H1 _ I.st fun O p u F2 H2 A G B0 AK=>by
  obtain⟨lt,C,dx,ns,a,us,hi,eu,X,Xc,hz,Fi,kk⟩:=AK;subst eu;have ev:O=.ref a:=by cases G;rfl
  subst ev;obtain⟨GF,Zr⟩:=vq S A T M;cases G with
  | @nd _ _ vs _ Y P Z q=>
   have IV:ns.length=vs.length:=Z;have vl:=q.length;obtain⟨ep,OY⟩:=U8 (f:=f) (v:=v) IV;refine⟨a,C,dx,ns.zip vs,rfl,Y,X,Xc,by rw[QD];omega,?_⟩;obtain⟨v0,e0,r0,DC,q0⟩:=A.st.ok i _ hi;have N:(OV.nd (.obj C dx ns) a us).addrs.Nodup:=by
    obtain⟨l,q,g,_⟩:=OV.split B0;rw[g,Cu,Cu] at DC;exact DC.1.2.1
   rw[K6] at N;have B:=(List.nodup_cons.mp (List.nodup_cons.mp N).2).2;have c:∀b∈w.addrs,b∉OV.Ao us:=fun b d z=>by
    have L:b∈t.addrs:=OV.Ku B0 b (by rw[K6];simp[z]);rcases(M b d).2.2 with⟨j,W,s,_,V,o⟩|y
    ·exact S.CH j i s _ b (by rintro rfl;exact Fi W) V hi o L
    ·exact S.EL hi L y
   obtain⟨K5,Pz,Q⟩:BH F2 H2 (KL ns vs f v) (OZ ns us f w)/\(OV.Ao (OZ ns us f w)).Nodup/\∀b∈OV.Ao (OZ ns us f w),b∈OV.Ao us∨b∈w.addrs:=by
    unfold KL OZ;cases e:DB ns f with
    | some n=>
     have Jk:n<us.length:=by have:=VI e;omega
     obtain⟨l,r,g,J⟩:=J2 (BC Jk);refine⟨q.set n GF,?_,fun b d=>?_⟩
     ·show(OV.Ao (us.set n w)).Nodup;rw[J];rw[g] at B;exact Qc B HM fun b d=>.inr (by rw[<- g];exact c b d)
     ·have k:b∈OV.Ao (us.set n w):=d;rw[J] at k;rcases List.mem_append.mp k with z | z
      ·rcases List.mem_append.mp z with z | z
       ·exact .inl (by rw[g];simp[z])
       ·exact .inr z
      ·exact .inl (by rw[g];simp[z])
    | none=>
     refine⟨q.append (.one GF),?_,fun b d=>?_⟩
     ·show(OV.Ao (us++[w])).Nodup;rw[PD,TJ,Cu];exact⟨B,HM,fun x hx y U e=>c y U (e▸hx)⟩
     ·have k:b∈OV.Ao (us++[w]):=d;rw[PD,TJ] at k;exact List.mem_append.mp k
   rw[ep];exact hn _ σ F2 _ kk (Sg.lS (u:=w) S A.st hi B0 P Zr Fi K5 OY Pz Q) (I.ff.trans A.ff)⟩
end
theorem Yl:∀{ns:List Str}{vs:List V}{f:Str},DB ns f=none->(ns.zip vs).lookup f=none
 | [],_,_,_=>by simp
 | g::ns,[],f,h=>by simp
 | g::ns,w::vs,f,h=>by
  rw[DB] at h
  by_cases c:g=f
  ·rw[pQ c] at h;cases h
  ·rw[o5 c] at h;rw[Jc,HH];have:(f == g)=false:=by simpa using fun z=>c z.symm
   rw[this];refine Yl ?_;cases e:DB ns f with
   | none=>rfl
   | some m=>rw[e] at h;cases h
section
variable [Xw]
variable {te:TE}{ta:TA}{lt:Bool}{K:ZHP}
theorem MS {a0:Addr}{m:Str}{k:PV->OV->Prop}(hi:ss[i]?=some (.ow lt (.nd (.obj C dx ns) a0 us)))(n:DB ns m=none)(h:NZ ss ta fun l=>∃k',pre (.ow true (.nd (.obj C dx ns) a0 us)::l) (.mt k')/\∀p t',k' p t'->∃EK us',t'=.nd EK a0 us'/\k p t'):
  Wm ss i lt (.nd (.obj C dx ns) a0 us) (Ml C m (Br pre) [] E0 (BD i) ta) k:=⟨fun E σ F H Q S q=>by
 obtain⟨d,e0,c,_,_⟩:=S.ok i _ hi;have s:d=.ref a0:=by cases c;rfl
 subst s;cases c with
 | @nd _ _ I0 _ o t w u=>
  refine⟨_,e0,a0,dx,ns.zip I0,rfl,o,Yl n,h.go E σ F H _ S fun vs l F1 H1 b a ⟨k',j,kk⟩=>?_⟩;rw[El];refine⟨.ow true (.nd (.obj C dx ns) a0 us)::l,.mt k',F1,[],(OV.nd (.obj C dx ns) a0 us).addrs,j,b.st.V0 hi (.here e0 a),fun v F' H' f ⟨p,t',r,e,nd,g,kp⟩=>?_⟩;obtain⟨EK,us',rfl,k2⟩:=kk p t' kp;exact q v p _ F' H' (b.cK hi (b.st.X4 hi f e nd g)) r k2⟩
theorem ir {k:PV->Prop}(h:Wp ss te fun o=>∃C ns xs n y,o=.obj C ns xs/\CI K C/\Be K C f/\DB ns f=some n/\xs[n]?=some y/\k y):Wp ss (KO K te f) k:=⟨fun E σ F H Q S q=>
 h.go E σ F H _ S fun v o F1 H1 b e AK=>by
  obtain⟨C,ns,xs,n,y,l,j,hn,hx,g,kk⟩:=AK;subst l;cases e with
  | @obj a _ dx _ I0 _ m r p d=>
   obtain⟨u,i,c⟩:=d.get g;exact⟨a,C,dx,ns.zip I0,u,rfl,b.st.fh _ _ m,j,hn,SO hx i,q u y F1 H1 b c kk⟩⟩
theorem lQ {k:List Nat->OV->Prop}(h:NZ ss ta fun l=>∀x dx:Addr,∃k',pre (.ow true (.nd (.obj C dx []) x [])::l) (.mt k')/\∀p t',k' p t'->p=.A8/\∃Bd us',t'=.nd (.obj C dx Bd) x us'/\k [] t'):Wx ss (Vm C (Br pre) [] E0 ta) k:=⟨fun E σ F H Q S q=>
 h.go E σ F H _ S fun vs l F1 H1 d K ME x dx hx Lg Ap=>by
  rw[El];have M1:=d.st.make Lg (.own x);have N:upd H1 dx (.own x) x=none:=by rw[AX (B9 Ap)];exact hx
  have M:=M1.st.make N (.ins C dx []);have G:=M1.trans M;have up:∀a o,H1 a=some o->upd (upd H1 dx (.own x)) x (.ins C dx []) a=some o:=fun a o e=>by
   rw[AX (DN e hx),AX (DN e Lg)];exact e
  have w:∀a,upd (upd H1 dx (.own x)) x (.ins C dx []) a=none->H1 a=none:=fun a e=>by
   cases z:H1 a with
   | none=>rfl
   | some o=>rw[up a o z] at e;cases e
  have a0:(OV.nd (.obj C dx []) x []).addrs=[x,dx]:=by rw[K6,OV.Ik]
  have D:BG F1 (upd (upd H1 dx (.own x)) x (.ins C dx [])) (.ref x) (.nd (.obj C dx []) x []):=.nd (k:=.obj C dx []) (vs:=[]) AO (show upd _ x _ dx=some (.own x) by rw[AX Ap];exact AO) rfl .nil;have f0:∀a∈(OV.nd (.obj C dx []) x []).addrs,H1 a=none:=fun a b=>by
   rw[a0] at b;simp only[Hs,BJ,ZAh] at b;rcases b with rfl | rfl
   ·exact hx
   ·exact Lg
  have O:(OV.nd (.obj C dx []) x []).addrs.Nodup:=by
   rw[a0];simp[B9 Ap]
  have y:=Sg.jN (j:=ss.length) (m:=[]) (v:=.ref x) (u:=.nd (.obj C dx []) x []) (d.st.grown 1) (G.st.grown 1) D O fun a b=>⟨d.st.CA (f0 a b),d.st.EO (f0 a b),.inr (f0 a b)⟩;have R:=d.st.len;have hi:((ss++List.replicate 1 Slot.any).set ss.length (.ow false (.nd (.obj C dx []) x [])))[ss.length]?=some (.ow false (.nd (.obj C dx []) x [])):=Cm (by simp);have e0:((σ++List.replicate 1 none).set ss.length (some (V.ref x)))[ss.length]?=some (some (.ref x)):=Cm (by simp;omega);obtain⟨k',I,kk⟩:=ME x dx;refine⟨.ow true (.nd (.obj C dx []) x [])::l,.mt k',F1,[],(OV.nd (.obj C dx []) x []).addrs,I,y.V0 hi (.here e0 K),fun v F' H' f ⟨p,t',r,t,nd,s,kp⟩=>?_⟩;obtain⟨rfl,Bd,us',rfl,k2⟩:=kk p t' kp;have B:=y.X4 hi f t nd s;have at':∀n,n<ss.length->((ss++List.replicate 1 Slot.any).set ss.length (.ow false (.nd (.obj C dx []) x [])))[n]?=ss[n]?:=fun n hn=>by rw[CL (by omega),Hq hn]
  have A:∀n,n<ss.length->((σ++List.replicate 1 none).set ss.length (some (V.ref x)))[n]?=σ[n]?:=fun n hn=>by rw[CL (by omega),Hq (by omega)]
  have np:∀a,H1 a≠none->D2 ss σ a->D2 ((ss++List.replicate 1 Slot.any).set ss.length (.ow false (.nd (.obj C dx []) x []))) ((σ++List.replicate 1 none).set ss.length (some (V.ref x))) a:=fun a _ hn n g=>by
   by_cases c:n<ss.length
   ·rw[at' n c] at g;rw[A n c];exact hn n g
   ·by_cases c2:n=ss.length
    ·subst c2;rw[hi] at g;cases g
    ·rw[Kl (by simp;omega)] at g;cases g
  have L:Mv E ss σ F1 H1 F' H':=d.st.step B.ff B.st.fh (fun a o hn e=>B.hh a o (np a (by rw[e];simp) hn) (fun z=>by rw[f0 a z] at e;cases e) (up a o e)) (fun a o e=>(B.nn a o e).imp id (w a)) fun n P hn J=>by
   have c:n<ss.length:=(List.getElem?_eq_some_iff.mp hn).1;refine B.st.EV (i:=n) ?_ (by rw[A n c];exact J);rw[CL (by omega)];exact(at' n c).trans hn
  cases r.inv;refine⟨rfl,q (.ref x) [] _ F' H' (d.trans L) t nd (fun a b=>?_) k2⟩;have h1:H1 a=none:=(s a b).2.elim (w a) (f0 a);exact⟨(s a b).1,d.st.EO h1,.inr (d.none h1)⟩⟩
end
end Fz
namespace L2
section
variable {X:Cx}{o e value:Expr}{f:Str}{pos pos' Qn:Pos}{ta tv:TE}
theorem Dp (b:QE X e ta)(i:attributeBase e f X.env (eval e X.env)=eval e X.env:=by rfl):QE X (.Attribute e f pos) (KO X.K ta f):=⟨by
 have b:=b.h;intro pins s σ H Q I h;refine bj i (AR (b pins s σ H _ I h) fun u s1 FX=>?_);obtain⟨x,H1,I1,d,a,C,dx,fs,v,ex,ea,c,n,l,q⟩:=FX;subst ex;obtain rfl:u=Value.ref a:=d;exact ck I1 ea c n l fun j s2 I2 g=>⟨v,H1,I2,g,q⟩⟩
theorem Jv (d:QE X o ta)(b:QE X value tv)(k:swapsWith value (some (.Attribute o f pos')) pos.line X.env=pure false:=by rfl):QS X (.Assign [.Attribute o f pos'] value pos) (Yw X.K ta tv f):=⟨by
 have d:=d.h;have b:=b.h;intro pins s σ H D I h;refine yy (AR (b pins s σ H _ I h) fun u s1 ⟨y,H1,I1,e,q⟩=>AR (d pins s1 σ H1 _ I1 q) fun j s2 ⟨x,H2,I2,g,a,C,dx,fs,ex,ea,c,n,l,i⟩=>?_) k;subst ex;obtain rfl:j=Value.ref a:=g;exact dR I2 ea c n l e fun m I3=>⟨σ,_,I3,i⟩⟩
theorem aV {op:Operator}{rd:V->V->Hp->VK->Prop}(d:QE X o ta)(b:QE X value tv)(Xo:ie X op rd):QS X (.AugAssign (.Attribute o f Qn) op value pos) (aE X.K ta tv rd f):=⟨by
 have d:=d.h;have b:=b.h;intro pins s σ H D I h;refine wpAny_AugAssign_AttributeAny (AR (d pins s σ H _ I h) fun w s1 FX=>?_);obtain⟨x,H1,I1,m,a,C,dx,fs,v,ex,ea,c,n,l,q⟩:=FX;subst ex;obtain rfl:w=Value.ref a:=m;refine ck I1 ea c n l fun u s2 I2 p=>AR (b pins s2 σ H1 _ I2 q) fun g i ⟨y,H2,I3,k,t⟩=>AR (Xo pins i σ H2 v y u g _ I3 p k t) fun B s4 Yt=>?_;obtain⟨z,H3,I4,j,dx',Kd,e,A,r⟩:=Yt;exact dR I4 e c n A j fun E I5=>⟨σ,_,I5,r⟩⟩
end
end L2
namespace Fz
open L2 Lw
section
variable [Xw]
variable {ss:List Slot}{ta tv:TE}{nx:List Slot->Prop}{R:B3}{i:Nat}{t:OV}{K:ZHP}{f:Str}
theorem Xk {g:Int->Int->Int}(h:Wl ss i t ta fun p u=>∃lt C dx ns a us n x,ss[i]?=some (.ow lt t)/\u=.nd (.obj C dx ns) a us/\CI K C/\Be K C f/\ns.length<1000/\DB ns f=some n/\us[n]?=some (.fz (.int x))/\Wp ss tv fun q=>∃y,q=.int y/\nx (ss.set i (.ow lt (t.put p (.nd (.obj C dx ns) a (us.set n (.fz (.int (g x y))))))))):Ws ss (aE K ta tv (fw g) f) nx R:=⟨fun E D σ F H S hn hr=>
 h.go E σ F H _ S fun v p u F1 H1 j o B0 z=>by
  obtain⟨lt,C,dx,ns,a,us,n,x,hi,eu,V,Xc,hz,hx,U,h2⟩:=z;subst eu;have Z:v=.ref a:=o.inv.elim fun _ h=>h.1;subst Z;have GF:=o;obtain⟨vs,_,W,sd,ft,s⟩:=o.inv;obtain⟨w,hw,k⟩:=s.get U;have Y:w=.int x:=(k.inv:Rep _ _ _).inv;subst Y;refine⟨a,C,dx,ns.zip vs,.int x,rfl,W,V,Xc,SO hx hw,h2.go E σ F1 H1 _ j.st fun v2 q F2 H2 e T O=>?_⟩;obtain⟨y,X,kk⟩:=O;subst X;cases T.inv;refine⟨x,y,rfl,rfl,?_⟩;have Q:=GF.mv j.st ⟨lt,hi⟩ B0 e;obtain⟨Jg,_,N,P,OY,K5⟩:=Q.inv;have IV:ns.length=Jg.length:=OY;have vl:=K5.length;obtain⟨ep,A⟩:=U8 (f:=f) (v:=.int (g x y)) IV;refine⟨dx,ns.zip Jg,N,by rw[QD];omega,?_⟩;have Jk:n<us.length:=by have:=VI hx;omega
  obtain⟨v0,e0,r0,DC,q0⟩:=e.st.ok i _ hi;have L:(OV.nd (.obj C dx ns) a us).addrs.Nodup:=by
   obtain⟨l,s,d,_⟩:=OV.split B0;rw[d,Cu,Cu] at DC;exact DC.1.2.1
  rw[K6] at L;have J:=(List.nodup_cons.mp (List.nodup_cons.mp L).2).2;have G:Kz ns f=ns:=by unfold Kz;rw[hx]
  have B:KL ns Jg f (.int (g x y))=Jg.set n (.int (g x y)):=by unfold KL;rw[hx]
  rw[ep,G,B];rw[G,B] at A;obtain⟨l,r,d,I⟩:=J2 (BC Jk);have M:=Sg.lS (m:=[]) (u:=.fz (.int (g x y))) (us':=us.set n (.fz (.int (g x y)))) j.st e.st hi B0 P (fun b c=>by rw[OV.Hm] at c;cases c) (by simp) (K5.set n (.fz (.int _))) A (by
   rw[I];rw[d] at J;exact Qc J (by rw[OV.Hm];exact QH) fun b c=>by rw[OV.Hm] at c;cases c) fun b c=>by
    rw[I,OV.Hm] at c;rcases List.mem_append.mp c with z | z
    ·rcases List.mem_append.mp z with z | z
     ·exact .inl (by rw[d];simp[z])
     ·cases z
    ·exact .inl (by rw[d];simp[z])
  exact hn _ σ F2 _ kk M (j.ff.trans e.ff)⟩
end
end Fz
namespace L2
section
variable {X:Cx}{o e:Expr}{td ty:TE}{apos Ba:Pos}
theorem iL (ho:QE X o td)(b:QE X e ty)(m:M1 X o "pop" apos e Ba):QE X (.Call (.Attribute o "pop" apos) [e] [] Ba) (YT td ty):=⟨by
 have ho:=ho.h;have b:=b.h;intro pins s σ H Q I h;refine wpAny_Call_method m.base m.xJ m.line PySem.F.plainAttrs_dict ZGQ PySem.F.type_dict_pop (AR (ho pins s σ H _ I h) fun u s1 ⟨x,H1,I1,i,a,ex,d,n⟩=>?_);subst ex;obtain rfl:u=Value.ref a:=i;obtain⟨f,c,_⟩:=ZBA I1 d;refine⟨f,c,?_⟩;rw[m.trees];refine mH rfl (aa (mI (AR (b pins s1 σ H1 _ I1 n) fun t s2 ⟨y,H2,I2,g,A6,k,v,ea,p,l,j⟩=>ae ?_)));subst p;exact ZEE I2 ea g l (.inl rfl) fun q r I3 Eo=>⟨v,_,I3,Eo,j⟩⟩
end
end L2
namespace Fz
open L2 Lw
theorem cX:∀{ks:List Key}{vs:List V}{d:Key}{n:Nat},ks.Nodup->Cc ks d=some n->ks.length=vs.length->Jw (ks.zip vs) d=(ks.eraseIdx n).zip (vs.eraseIdx n)
 | [],_,_,_,_,h,_=>by cases h
 | _::_,[],_,_,_,_,hl=>by simp at hl
 | k'::ks,w::vs,d,n,nd,h,hl=>by
  obtain⟨n1,n2⟩:=List.nodup_cons.mp nd;rw[Cc] at h;unfold Jw;rw[Jc,ar]
  by_cases c:k'=d
  ·rw[pQ c] at h;cases h;rw[o5 (by simp[c])];show List.filter _ _=ks.zip vs;refine List.filter_eq_self.mpr fun f i=>?_;have:f.1∈ks:=(b7 (a:=f.1) (b:=f.2) i).1;exact nv fun z=>n1 (by rw[c,<- z];exact this)
  ·rw[o5 c] at h;cases e:Cc ks d with
   | none=>rw[e] at h;cases h
   | some m=>
    rw[e] at h;cases h;rw[pQ (nv c)];have g:=cX (vs:=vs) n2 e (by simpa using hl)
    unfold Jw at g;rw[g];rfl
theorem aI {α:Type}:∀(l:List α) (n:Nat),n<l.length->(l.eraseIdx n).length=l.length - 1
 | [],_,h=>by simp at h
 | _::_,0,_=>rfl
 | x::t,n+1,h=>by
  have h':n<t.length:=by simpa using h
  rw[M8,CN,aI t n h',CN];omega
theorem BH.d4 {F H:Hp}:∀{vs:List V}{us:List OV}(n:Nat),BH F H vs us->BH F H (vs.eraseIdx n) (us.eraseIdx n)
 | _,_,_,.nil=>.nil
 | _,_,0,.cons _ t=>t
 | _,_,n+1,.cons r t=>.cons r (BH.d4 n t)
theorem XO:∀(us:List OV) (n:Nat),(OV.Ao (us.eraseIdx n)).Sublist (OV.Ao us)
 | [],_=>ZG3 _
 | u::us,0=>by rw[List.eraseIdx_cons_zero,OV.Cp];exact List.sublist_append_right _ _
 | u::us,n+1=>by rw[M8,OV.Cp,OV.Cp];exact List.Sublist.append (ZG3 _) (XO us n)
section
variable [Xw]
variable {ss:List Slot}{td ty:TE}{nx:List Slot->Prop}{R:B3}{i:Nat}{t:OV}
theorem kr (h:Wl ss i t td fun p u=>∃lt a ks us,ss[i]?=some (.ow lt t)/\u=.nd (.B1 ks) a us/\ks.Nodup/\Wp ss ty fun q=>∃c n,q=HC c/\Cc ks c=some n/\nx (ss.set i (.ow lt (t.put p (.nd (.B1 (ks.eraseIdx n)) a (us.eraseIdx n)))))):Ws ss (HN (YT td ty)) nx R:=⟨fun E D σ F H S hn W=>
 h.go E σ F H _ S fun v p u F1 H1 e j B0 ⟨lt,a,ks,us,hi,I,z,h2⟩=>by
  subst I;have G:v=.ref a:=by cases j;rfl
  subst G;have O:=j;cases j with
  | @nd _ _ I0 _ o r B s=>
   refine⟨a,rfl,.inl ⟨_,.inl o⟩,h2.go E σ F1 H1 _ e.st fun P q F2 H2 d x ⟨c,n,J,hx,kk⟩=>?_⟩;subst J;have w:=O.mv e.st ⟨lt,hi⟩ B0 d;cases w with
   | @nd _ _ vs _ A T C g=>
    have N:ks.length=vs.length:=C;have vl:=g.length;have L:n<ks.length:=(List.getElem?_eq_some_iff.mp (Xz hx)).1;have y:=BC (show n<vs.length by omega);refine⟨_,c,_,A,Kq x,X9 hx y,?_⟩;obtain⟨Q,e0,U,DC,V⟩:=d.st.ok i _ hi;have k:(OV.nd (.B1 ks) a us).addrs.Nodup:=by
     obtain⟨l,g,K,_⟩:=OV.split B0;rw[K,Cu,Cu] at DC;exact DC.1.2.1
    rw[LI] at k;rw[cX z hx N];have M:=Sg.bb (m:=[]) (u:=.fz .A8) (ks':=ks.eraseIdx n) (us':=us.eraseIdx n) e.st d.st hi B0 (fun b f=>by rw[OV.Hm] at f;cases f) (by simp) (g.d4 n) (by rw[aI _ _ L,aI _ _ (by omega)];omega) ((List.nodup_cons.mp k).2.sublist (XO us n)) fun b f=>.inl ((XO us n).subset f);exact hn _ σ F2 _ kk M (e.ff.trans d.ff)⟩
end
end Fz
namespace L2
def ER (P:Program)(w:World)(K:ZHP)(mg:ZHR)(base:Heap)(C:Addr)(m:Str)(k:Nat)(ps:List Str)(sp:Sp):Prop:=
 ∃f fd,Cj P w K mg base Eg k f fd ps sp/\Binds K fd ps []/\Meth K C m f/\CI K C
def P5 (P:Program)(w:World)(K:ZHP)(mg:ZHR)(base:Heap)(C:Addr)(k:Nat)(ps:List Str)(sp:Sp):Prop:=
 ∃f fd,Cj P w K mg base Eg k f fd ps sp/\Binds K fd ps []/\Mk K C f
section
variable {X:Cx}{o e:Expr}{es:List Expr}{m x:Str}{C:Addr}{k j:Nat}{ps:List Str}{sp:Sp}{ta:TE}{t:TA}{apos pos p:Pos}
theorem Hc {pl:Sem Bool}(h:ER X.prog X.w X.K X.mg X.base C m k ps sp)(a:Bf j X.A)(g:k<=j)(i:QE X o ta)(l:QA X (e::es) t)
  (BI:starEach (e::es) X.env=(false,eval e X.env)::starEach es X.env:=by rfl) (BY:(backTo pos (starEach es X.env)).any (·.1)=false:=by rfl)
  (ht:eval (.Call (.Attribute o m apos) (e::es) [] pos) X.env=(do
   let ov <- eval o X.env
   standAt apos.atName
   let (f,first) <- holding [ov] (getMethod ov m pl)
   callWith pos f first (backTo pos (starEach (e::es) X.env)) (backToKw pos (keywordEach [] X.env))):=by rfl) :
  QE X (.Call (.Attribute o m apos) (e::es) [] pos) (Ml C m sp [] E0 ta t):=by
 obtain⟨f,fd,F,b,d,c⟩:=h;exact⟨uk i.h c d (F.mono g) a b .nil Zg l.h BI BY ht⟩
theorem gX (h:P5 X.prog X.w X.K X.mg X.base C k ps sp)(a:Bf (j+1) X.A)(d:k<=j)(c:X.mg x=some (.ref C))(i:QA X (e::es) t)(g:Gl X x:=by rfl)(BQ:(x == ("__debug__":Str))=false:=by decide)
  (he:starEach (e::es) X.env=(false,eval e X.env)::starEach es X.env:=by rfl) (BY:(backTo pos (starEach es X.env)).any (·.1)=false:=by rfl):QE X (.Call (.Name x p) (e::es) [] pos) (Vm C sp [] E0 t):=by
 obtain⟨f,fd,F,b,M⟩:=h;exact⟨vT M (F.mono d) a g c b .nil Zg i.h BQ he BY⟩
variable {prog:Program}{w:World}{A:Around}{E:Value->Shared->Prop}{s:Shared}
end
end L2
set_option maxHeartbeats 200000
set_option maxHeartbeats 4000000
namespace L2
def WJ (K:ZHP)(S:Addr)(tb:(St->XK)->TS)(th:TS):TS:=fun D σ H=>∃E1:St->XK,tb E1 D σ H/\
 ∀ σ1 C dx ea H1,E1 σ1 (.ref C) dx H1->H1 ea=none->PySem.W.exmOne K (.ref C) (.ref S)=some true/\th D σ1 H1
section
variable {X:Cx}{x:Str}{S:Addr}{body CY:List Stmt}{b0:Stmt}{np HL pos:Pos}{IL:(St->XK)->TS}{th:TS}
theorem tf (BI:X.stack=X.env::X.outer)(J:X.ex=[])(G:Gl X x)(F:X.mg x=some (.ref S))
  (c:∀(pn:ZHQ) (xe:Value->Shared->Prop) (E1:St->XK),Goes (X.EH pn xe) E1->Fh (X.EH pn xe) body (IL E1))
  (hh:∀e,Fh (X.CY e) (b0::CY) th) (BQ:(x == ("__debug__":Str))=false:=by decide) :
  QS X (.Try body [.ExceptHandler (some (.Name x np)) none (b0::CY) HL] [] [] pos) (WJ X.K S IL th):=⟨by
 have c:=fun pn xe E1 g=>(c pn xe E1 g).h;have hh:=fun e=>(hh e).h;intro pins s σ H D I h;obtain⟨E1,h1,h2⟩:=h;have y:X.env.frame=some X.env.locals:=by
  rcases I.ok.Hw with e | ⟨_,y⟩
  ·rw[e] at BI;exact absurd (rA List.length BI) (by simp)
  ·exact y
 refine wpAny_Try_except ?_;refine qG (c (X.pn++pins) _ E1 ?_ [] s σ H D I.EH h1) (fun f s1 q=>?_) (fun e s1 q=>q)
 ·intro Us σ1 H1 s1 ea C dx tb I1 B ⟨t,i⟩ n j O;have a:Inv X pins σ1 H1 s1:=I1.HA;have i:X.s₀.heap.get? ea=none:=i;have n:∀T,tb=some T->H1 T=none/\X.s₀.heap.get? T=none:=n;have j:∀p∈X.pn++pins,p.1≠ea/\tb≠some p.1:=fun p q=>j p (Hr _ q);refine Vg (outer:=X.outer) (L:=X.env.locals) (by rw[<- BI];exact a.ok.frames) (base:=X.base) (by rw[<- BI];exact a.stack) y B fun h' T kp A m=>?_;have k:=a.Ra BI B t i n j kp;obtain⟨V3,YB⟩:=h2 σ1 C dx ea H1 O t;refine wpAny_handleBy_cons ?_ (fun z=>by cases z);refine codeAny_handlers_test ?_;refine JL (X:=X.CY (.ref ea)) k.CY G F ?_ BQ;obtain⟨oe,vs,M,N,hd,HD,hz,h3⟩:=m.obj;have V:PySem.W.Looks (model X.prog X.w) h' (typeOf (.ref ea)) (.ref C):=by
   rw[<- N];exact(ZGX M).andThen .now
  refine(PySem.W.exm_one (K:=X.K) k.Bn V V3).here ?_;refine codeAny_handlers_suite ?_;have P:∀b∈Ca (X.env::X.outer),∃o,h'.get? b=some o/\∀vs,o.data≠.fields vs:=fun b c=>by
   have st:=k.stack;rw[BI] at st;obtain⟨_,o,ho,hn⟩:=st.mem c;exact⟨o,ho,hn⟩
  refine iT (s:={ s1 with heap:=h' }) (l:=X.env::X.outer) m P fun h4 XU Z=>?_
  have R:∀T',some T=some T'->H1 T'=none/\X.s₀.heap.get? T'=none:=fun T' Q=>by
   cases Q;exact⟨a.AF.fresh A,Nj (Bi a.sz A)⟩
  have U:∀p∈X.pn++pins,p.1≠ea/\some T≠some p.1:=fun p q=>⟨(j p q).1,fun z=>by
   have E:=B8 (a.pin p q).1;rw[<- Bj z] at E;exact absurd E (Nat.not_lt.mpr A)⟩
  have Y:=k.Ra BI m t i R U XU;refine qG (hh (.ref ea) pins _ _ _ D Y.CY YB) (fun f s7 q=>?_) (fun _ _ z=>z.elim);cases f with
  | next=>
   obtain⟨σ7,H7,I7,d⟩:=q;exact⟨_,_,I7.KY I.ok,d⟩
  | brk=>
   obtain⟨σ7,H7,I7,d⟩:=q;exact⟨_,_,I7.KY I.ok,d⟩
  | cont=>
   obtain⟨σ7,H7,I7,d⟩:=q;exact⟨_,_,I7.KY I.ok,d⟩
  | ret u=>
   obtain⟨v,σ7,H7,I7,r,d⟩:=q;exact⟨v,_,_,I7.KY I.ok,r,d⟩
 ·cases f with
  | next=>
   obtain⟨σ7,H7,I7,d⟩:=q;exact wg ⟨_,_,I7.HA,d⟩
  | brk=>
   obtain⟨σ7,H7,I7,d⟩:=q;exact⟨_,_,I7.HA,d⟩
  | cont=>
   obtain⟨σ7,H7,I7,d⟩:=q;exact⟨_,_,I7.HA,d⟩
  | ret u=>
   obtain⟨v,σ7,H7,I7,r,d⟩:=q;exact⟨v,_,_,I7.HA,r,d⟩⟩
end
end L2
namespace Fz
open L2 Lw
section
variable [Xw]
variable {ss:List Slot}{nx:List Slot->Prop}{R:B3}{K:ZHP}{S:Addr}{tb:(L2.St->XK)->TS}{th:TS}{ta te ti:TE}{xs:List PV}{F:Hp}
theorem xU (J:List Slot->Prop)(Dx:Ex->Prop)(g:∀E:Ent0,@Ws (HE E J Dx) ss (tb (HE E J Dx).e) nx R)
  (hh:∀Hh x,J Hh->Dx x->PySem.W.exmOne K (.ref x.C) (.ref S)=some true/\Ws Hh th nx R):Ws ss (WJ K S tb th) nx R:=⟨fun E D σ F H S0 hn b=>by
 refine⟨(HE (E.toEnt0.at F) J Dx).e,@Ws.go (HE (E.toEnt0.at F) J Dx) _ _ _ _ (g (E.toEnt0.at F)) (@Ent.mk (HE (E.toEnt0.at F) J Dx) (E.toEnt0.at F) fun ss σ F H x C dx a S d B0=>⟨ss,F,x,a,S,d,B0⟩) D σ F H S0.eM (fun AJ σ' F' H' n S' ff=>hn AJ σ' F' H' n (S0.un S') ff) (fun v F' H' f ok=>b v F' H' (S0.toFin.un f) (B3.un ok)),fun σ1 C dx ea H1 c JB=>?_⟩;obtain⟨Hh,F1,x,a,S1,h,i,B0⟩:=c;obtain⟨Ks,hw⟩:=hh Hh x a h;cases i;have j:=S0.un S1;exact⟨Ks,hw.go E D _ _ _ j (fun DU σ2 F3 H3 n2 S2 ff=>hn _ _ F3 H3 n2 S2 (S1.f0.trans ff)) fun v F' H' f ok=>b v F' H' f ok⟩⟩
theorem VW {i:Nat}(hi:ss[i]?=some (.own xs))(h:Wp ss te fun p=>Wp ss ti fun q=>∃(n:Int) (j:Nat),q=.int n/\Fl xs.length n=some j/\nx (ss.set i (.own (xs.set j p)))):Ws ss (Ea te (Sr (BD i) ti XH)) nx R:=⟨fun E D σ F H S hn t=>
 h.go E σ F H _ S fun v p F1 H1 b f h2=>by
  obtain⟨l,vs,e,x,w,u,r⟩:=b.st.ok i _ hi;refine⟨_,e,h2.go E σ F1 H1 _ b.st fun o q F2 H2 a g ⟨n,j,m,k,kk⟩=>?_⟩;subst m;cases g.inv;obtain⟨s,Bv,d,Cv,C7,HP,c⟩:=a.st.ok i _ hi;rw[e] at d;cases d;refine⟨l,Bv,_,j,rfl,rfl,HP,by rw[c.length];exact k,?_⟩;exact hn _ σ F2 _ kk (a.st.put hi e Cv C7 (c.set j (f.mono a.ff))) (b.ff.trans a.ff)⟩
theorem ZD9 {i:Nat}(hi:ss[i]?=some (.own xs))(h:Wp ss te fun q=>∃(n:Int) (j:Nat),q=.int n/\-1000<=n/\n<=1000/\Fl xs.length n=some j/\nx (ss.set i (.own (xs.eraseIdx j)))):Ws ss (HN (JE K "list" Qs (BD i) (Ag te BM))) nx R:=⟨fun E D σ F H S hn t=>by
 obtain⟨l,vs,e,w,u,o,r⟩:=S.ok i _ hi;refine⟨_,e,.inl ⟨rfl,_,AN.of o⟩,h.go E σ F H _ S fun v p F1 H1 a g ⟨n,j,m,n0,n1,k,kk⟩=>?_⟩;subst m;cases g.inv;obtain⟨s,Bv,f,Cv,C7,HP,b⟩:=a.st.ok i _ hi;rw[e] at f;cases f;obtain⟨d,c,_,_⟩:=YM k;rw[<- b.length] at d c;refine⟨l,Bv,n,j,Bv[j],rfl,rfl,HP,by omega,by omega,d,BC c,?_⟩;exact hn _ σ F1 _ kk (a.st.put hi e Cv C7 (b.erase j)) a.ff⟩
end
end Fz
namespace Fz
open L2 Lw
variable {ss:List Slot}{ta tb:TE}
section
variable [Xw]
variable {E:Ent0}{σ:L2.St}{F H F' H':Hp}{K:ZHP}{tc te:TE}{k:PV->Prop}{xs:List PV}{nx:List Slot->Prop}{R:B3}
variable {pre:Es}{t:TA}
theorem pj {k:List Nat->OV->Prop}(h:Wa ss t fun l=>∃k' D,pre l (.ow k') D/\Xw.J ss/\(∀x,D x->Xw.D x)/\∀u,k' u->k [] u):Wx ss (O0 (Cf pre) Xw.e t) k:=⟨fun E σ F H Q S q=>
 h.go E σ F H _ S fun vs l F1 H1 b a ⟨k',D,j,m,n,kk⟩=>by
  refine⟨l,.ow k',D,F1,[],j,b.st.OC a,fun v F' H' f ⟨u,r,nd,c,i⟩=>?_,fun x C dx F' H' f d B0=>?_⟩
  ·exact q v [] u F' H' (b.trans (b.st.back (fun _ h=>absurd h BJ) f)) r nd (fun a g=>⟨(c a g).1,S.EO (b.none (c a g).2),.inr (b.none (c a g).2)⟩) (kk u i)
  ·exact E.hx ss σ F' H' x C dx m (b.st.back (fun _ h=>absurd h BJ) f).st (n x d) B0⟩
end
end Fz
namespace L2
noncomputable def JJ (s:Stmt)(n:Nat):Stmt:=match s with
 | .ClassDef _ _ _ b ..=>b.getD n (.Pass ⟨0,0,0,0⟩)
 | s=>s
end L2
namespace Fz
open L2 Lw
@[reducible] noncomputable def xwM (X:XK) (t:OV) (D:Ex->Prop):Xw:=⟨fun _=>X,fun ss=>ss[0]?=some (.ow true t),D⟩
variable {R:B3}{AJ ss:List Slot}
section
variable {pre:Es}{H:Hp}
def R4 (R:B3)(AJ:List Slot):Prop:=∃(k:PV->OV->Prop) (nk:NK) (a:Addr) (us:List OV),R=.mt k/\AJ[0]?=some (.ow true (.nd nk a us))/\k .A8 (.nd nk a us)
theorem R4.ok {E:Ent0}{σ:L2.St}{F:Hp}(h:R4 R AJ)(S:Sg E AJ σ F H):R.ok E F H .A8:=by
 obtain⟨k,nk,a,us,rfl,i,g⟩:=h;obtain⟨f,e0,c,DC,d⟩:=S.ok 0 _ i;have j:f=.ref a:=by cases c;rfl
 subst j;exact⟨.A8,.nd nk a us,.A8,c,DC,fun b e=>⟨(d b e).1,(d b e).2.imp id fun z=>z.2⟩,g⟩
end
end Fz
namespace L2
section
variable {prog:Program}{w:World}{A:Around}{E:Value->Shared->Prop}{s:Shared}
theorem cy:typeLookup (.type "dict") "__len__"=pure (some (.builtin "dict.__len__")):=by rw[uQ,qK];kernel_rfl
theorem ZCN {S:Addr}{A6:List (Key×Value)}{n:Nat}{Q:List Value->Shared->Prop}(hh:A.handled=none)(IE:(S == sysModules)=false)(f:s.heap.DictOf (CV prog w) S A6)(u:A6.length=n)(hn:n<=sizeLine)
  (h:∀(s':Shared) (vs:List Value),(∀b o,s.heap.get? b=some o->s'.heap.get? b=some o)->s.heap.objs.size<=s'.heap.objs.size->s'.gens=s.gens->s'.os=s.os->vs.length=n->(∀(i:Nat) v,vs[i]?=some v->∃k x,A6[i]?=some (k,x)/\(CV prog w).is k v=true)->Q vs s') :
  wpAny (model prog w) A (collect (.ref S)) Q E s:=by
 obtain⟨d,f⟩:=f.dictAt;have I:S<s.heap.objs.size:=f.lt_size;have y:s.heap.objs.size≠S:=Hu I;unfold collect;refine nc (wpAny_runValue (ZAK F.entry_proto_collect ?_));rw[Around.under_plainId F.plain_proto_collect _];show wpAny _ A.in1 (newList [] >>= fun l=>again (.builtin "list.__iadd__" ⟨[l,.ref S],[]⟩)) _ _ s;refine nc (qz ?_);refine oR ⟨xt F.plain_list_iadd _,ZAK F.entry_list_iadd ?_⟩;rw[Around.under_plainId F.plain_list_iadd _];generalize t:({ cls:=.type "list", data:=.seq ([]:List Value).toArray }:Obj)=so;have m:(s.heap.push so).DictAt (CV prog w) S A6 d:=f.push _;have g:(s.heap.push so).get? s.heap.objs.size=some so:=Bl _ (by rw[<- t];rfl);have sz:(s.heap.push so).objs.size=s.heap.objs.size+1:=G2 ..;have H:Shared.TypeIs { s with heap:=s.heap.push so } (.ref S) "dict" := m.dictOf.typeIs
 have h1:Builtin.List.listSameRef (.ref s.heap.objs.size) (.ref S)=false:=by simp[Builtin.List.listSameRef,y]
 show wpAny _ A.in1 (Builtin.List.listExtendWith (.ref s.heap.objs.size) (.ref S) (.ref s.heap.objs.size)) _ _ { s with heap:=s.heap.push so }
 unfold Builtin.List.listExtendWith;refine nc (vM H ?_);rw[o5 (by rw[h1];decide)];refine nc (wpAny_pyIter_dict (s:={ s with heap:=s.heap.push so }) IE m ?_)
 dsimp only;generalize j:({ cls:=.type "dict_keyiterator", data:=.fields #[.ref S,.int 0 0,.int A6.length 0,.int d 0] }:Obj)=io;have kp:∀b o,(s.heap.push so).get? b=some o->((s.heap.push so).push io).get? b=some o:=fun b o e=>BN _ e;have P:S≠(s.heap.push so).objs.size:=by rw[sz];exact Bm (Nr I)
 have W:∀A2:Around,A2.handled=none->Walks prog w A2 (s.heap.push so).objs.size [(s.heap.push so).objs.size,S] [(s.heap.push so).objs.size] A6.length _ _:=fun A2 h2=>Walks.dictKeys (knd:=CV prog w) h2 (s.heap.push so).objs.size S P A6 d;have Cs:((s.heap.push so).push io).IsKeyIter (s.heap.push so).objs.size S 0 A6.length d/\((s.heap.push so).push io).DictAt (CV prog w) S A6 d:=⟨⟨io,Bl _ (by rw[<- j];rfl),by rw[<- j],by rw[<- j];rfl⟩,m.push _⟩;have D:s.heap.objs.size∉[(s.heap.push so).objs.size,S]:=fun c=>by
  simp only[Hs,BJ,ZAh] at c;rcases c with z | z
  ·rw[sz] at z;omega
  ·exact y z
 generalize R:(s.heap.push so).push io=h2 at kp Cs ⊢;have p:Shared.TypeIs { s with heap:=h2 } (.ref S) "dict" := by obtain⟨o,ho,O⟩:=H;exact⟨o,kp _ _ ho,O⟩
 refine nc (sR ?_);unfold Builtin.List.listLengthHint;refine nc (uL p cy ?_);generalize C:("dict.__len__":String)=L8
 wp_delta
 rw[show splitId L8=some ("dict","__len__") from by subst C;decide +kernel];subst C;refine nc (vw (b:=true) p (by rw[ub];kernel_rfl) ?_);rw[o5 (by decide)];refine wd (fun _=>?_) (fun Dd=>absurd (by decide +kernel) Dd);refine nc (vM p ?_);refine oR ?_;refine wd (fun _=>?_) (fun Dd=>absurd (by decide +kernel) Dd);refine nc (zd ?_);refine nc ?_;show wpAny _ _ (updateSeq s.heap.objs.size (·.push .none) >>= fun _=>updateSeq s.heap.objs.size (·.pop)) _ _ _
 have L:(#[]:Array Value).size<=sizeLine:=CO _;have q:((#[]:Array Value).push Value.none).size<=sizeLine:=by show 1<=sizeLine;decide
 have K:((#[]:Array Value).push Value.none).size<=sizeLine+1:=bA q;have J:(((#[]:Array Value).push Value.none).pop).size<=sizeLine+1:=CO _;have B:=kp _ _ g;subst t;refine nc (vJ (s:={ s with heap:=h2 }) B rfl ?_ L K)
 have r:=ED (Obj.mapSeq (·.push Value.none)) B rfl
 refine vJ r rfl ?_ q J;have M:=ED (Obj.mapSeq (·.pop)) r rfl
 have G:∀b o,b≠s.heap.objs.size->h2.get? b=some o->((h2.update s.heap.objs.size (Obj.mapSeq (·.push Value.none))).update s.heap.objs.size (Obj.mapSeq (·.pop))).get? b=some o:=
  fun b o a e=>(D8 _ _ (B9 a)).trans ((D8 _ _ (B9 a)).trans e)
 refine oR ⟨xt ZGP _,xX (W A.in1 hh).toS (u▸hn) _ D _ A6.length 0 _ #[] _ rfl (CO _) ?_ M (ah _) fun s' C1 T c CU B2=>?_⟩
 ·exact(W A.in1 hh).frame 0 h2 _ Cs fun b a o e=>G b o (fun z=>D (z▸a)) e
 ·show wpAny _ A (load s.heap.objs.size >>= _) _ _ s';refine nc (wpAny_load CU ?_);refine oR ?_;refine h s' C1.toList (fun b o e=>?_) (Tx (B8 CU)) c.gens c.os (by rw[Nh,B2.1];exact u) fun i v N=>B2.2 i v (by rw[<- aY];exact N);have a:b<s.heap.objs.size:=B8 e;refine c.heap b o ?_ (G b o (Bm a) (kp b o (BN _ e)));simp only[Hs,BJ,ZAh,not_or];refine⟨Bm a,?_⟩;rw[sz];exact Bm (Nr a)
end
theorem h9 {prog:Program}{w:World}:∀{ns:List Str}{A6:List (Key×Value)}{vs:List Value},A6.map (·.1)=ns.map Sum.inr->vs.length=A6.length->(∀(i:Nat) v,vs[i]?=some v->∃k x,A6[i]?=some (k,x)/\(CV prog w).is k v=true)->StrsAre vs ns
 | [],[],[],_,_,_=>.nil
 | [],[],_::_,_,h,_=>by simp at h
 | [],_::_,_,h,_,_=>by simp at h
 | _::_,[],_,h,_,_=>by simp at h
 | _::_,_::_,[],_,h,_=>by simp at h
 | n::ns,kv::A6,v::vs,e,hl,h=>by
  rw[Bp,Bp] at e;injection e with e1 e2
  obtain⟨k,x,c,b⟩:=h 0 v rfl;have d:kv=(k,x):=by simpa using c
  subst d;have f:k=Sum.inr n:=e1;subst f;rcases Hd (show Jf (Sum.inr n) v=true from b) with⟨i,t,z,_⟩|⟨y,t,z,rfl⟩
  ·cases z
  ·cases z;exact .cons n t (h9 e2 (by simpa using hl) fun i v a=>h (i+1) v a)
theorem StrsAre.ZEb {vs:List Value}{ns:List Str}(h:StrsAre vs ns):vs.length=ns.length:=by induction h with | nil=>rfl | cons y t h a=>simp[a]
section
variable {X:Cx}
def fi:List V->Hp->VK->Prop:=fun xs H Q=>∃(p:Addr) (A6:List (Key×V)) (ns:List Str),xs=[.ref p]/\Rd H p (.dK A6)/\A6.map (·.1)=ns.map Sum.inr/\ns.length<64/\∀(l:Addr) (AJ:List Str),H l=none->AJ.Perm ns->sortedS AJ=true->Q (.ref l) (upd H l (.lst (AJ.map V.str)))
theorem ZAd (x:X.calm=true):DR X (.builtin "sorted") fi:=by
 intro pins s σ H xs us Q I r h;obtain⟨p,A6,ns,rfl,z,v,II,q⟩:=h;obtain⟨u,rfl,j⟩:=vals1 r;cases j;obtain⟨m,IE,I0,rel,y⟩:=Jx I.AF z;have hh:X.A.handled=none:=I.ok.hd x;have C:I0.map (·.1)=ns.map Sum.inr:=rel.keys.symm.trans v
 refine lu (Pc:=fun vs s1=>(∀b o,s.heap.get? b=some o->s1.heap.get? b=some o)/\s.heap.objs.size<=s1.heap.objs.size/\s1.gens=s.gens/\s1.os=s.os/\StrsAre vs ns) (fun A1 E1 Q1 B k=>?_) ?_
 ·exact ZCN (B.trans hh) IE y rfl (by rw[<- rel.length];exact m) fun s' vs g f d c a D=>k vs s' ⟨g,f,d,c,h9 C a D⟩
 ·rintro vs s1 ⟨g,f,d,c,a⟩;refine⟨by rw[StrsAre.ZEb a];exact II,ns,a,fun out AJ e h' kp w CU i n=>?_⟩;exact lD I d c g f kp w CU (by rw[i.length_eq];exact II) fun l t=>q l AJ t i n
end
end L2
namespace Fz
open L2 Lw
theorem TL:∀{ks:List Key}{vs:List V},ks.length=vs.length->(ks.zip vs).map (·.1)=ks
 | [],[],_=>rfl
 | [],_::_,h=>by simp at h
 | _::_,[],h=>by simp at h
 | k::ks,v::vs,h=>by
  rw[Jc,Bp,TL (by simpa using h)]
section
variable [Xw]
variable {E:Ent0}{ss:List Slot}{σ:L2.St}{F H F' H':Hp}{K:ZHP}{i:Nat}{t:OV}{ta tb te:TE}{nx:List Slot->Prop}{R:B3}
theorem rh {k:List PV->Prop}(h:Wp ss te fun p=>∃(xs:List PV) (ns:List Str),p=.B1 (ns.map Sum.inr) xs/\ns.length<64/\∀Bd:List Str,Bd.Perm ns->sortedS Bd=true->k (Bd.map PV.str)):Wn ss (Dm fi (Ag te BM)) k:=⟨fun E σ F H Q S q=>
 h.go E σ F H _ S fun v p F1 H1 b c AK=>by
  obtain⟨xs,ns,e,f,kk⟩:=AK;subst e;cases c with
  | @B1 a _ vs _ m j n=>
   refine⟨a,_,ns,rfl,.inl (b.st.fh _ _ m),TL j,f,fun l Bd CP i g=>?_⟩;have d:=b.st.make CP (.lst (Bd.map V.str));exact q l _ _ F1 _ (b.trans d) (b.st.CA CP) (b.none CP) AO (MU Bd) (kk Bd i g)⟩
end
end Fz
namespace L2
section
variable {prog:Program}{w:World}{A:Around}{s:Shared}{R:Result->Shared->Prop}
theorem ZEx {L S:Addr}{c0:Nat}{res:Value}{A6:List (Key×Value)}{n:Nat}(hh:A.handled=none)(IE:(S == sysModules)=false)(m:s.heap.get? L=some { cls:=.type "list", data:=.seq #[] c0 })(sX:s.heap.DictOf (CV prog w) S A6)(en:A6.length=n)(hn:n<=sizeLine)
  (h:∀(s':Shared) (vs:List Value) (d:Nat),(∀b o,b≠L->s.heap.get? b=some o->s'.heap.get? b=some o)->L<s'.heap.objs.size->s'.gens=s.gens->s'.os=s.os->s'.heap.get? L=some { cls:=.type "list", data:=.seq vs.toArray d }->vs.length=n->(∀(i:Nat) v,vs[i]?=some v->∃k x,A6[i]?=some (k,x)/\(CV prog w).is k v=true)->R (.ok (.ret res)) s') :
  wpAny (model prog w) A.in1 (Builtin.List.listExtendWith (.ref L) (.ref S) res)
   (fun p s'=>match p with | .done f=>R (.ok f) s' | .again d=>d.quiet=true/\codeAny (model prog w) A d R s') (fun e s'=>R (.error e) s') s:=by
 obtain⟨j,g⟩:=sX.dictAt;have P:S<s.heap.objs.size:=g.lt_size;have B:L≠S:=fun z=>by
  subst z;obtain⟨o,ho,l⟩:=g.dictOf.typeIs;rw[m] at ho;cases ho;exact absurd l (by show ¬ Value.type "list"=Value.type "dict"; decide)
 have G:Shared.TypeIs s (.ref S) "dict" := g.dictOf.typeIs;have h1:Builtin.List.listSameRef (.ref L) (.ref S)=false:=by simp[Builtin.List.listSameRef,B]
 unfold Builtin.List.listExtendWith;refine nc (vM G ?_);rw[o5 (by rw[h1];decide)];refine nc (wpAny_pyIter_dict (s:=s) IE g ?_);dsimp only;generalize r:({ cls:=.type "dict_keyiterator", data:=.fields #[.ref S,.int 0 0,.int A6.length 0,.int j 0] }:Obj)=io;have kp:∀b o,s.heap.get? b=some o->(s.heap.push io).get? b=some o:=fun b o e=>BN _ e;have O:S≠s.heap.objs.size:=Bm P;have W:∀A2:Around,A2.handled=none->Walks prog w A2 s.heap.objs.size [s.heap.objs.size,S] [s.heap.objs.size] A6.length _ _:=fun A2 h2=>Walks.dictKeys (knd:=CV prog w) h2 s.heap.objs.size S O A6 j;have Cs:(s.heap.push io).IsKeyIter s.heap.objs.size S 0 A6.length j/\(s.heap.push io).DictAt (CV prog w) S A6 j:=⟨⟨io,Bl _ (by rw[<- r];rfl),by rw[<- r],by rw[<- r];rfl⟩,g.push _⟩;have E:L∉[s.heap.objs.size,S]:=fun c=>by
  simp only[Hs,BJ,ZAh] at c;rcases c with z | z
  ·have q:L<s.heap.objs.size:=B8 m;rw[z] at q;exact M9 _ q
  ·exact B z
 generalize Q:s.heap.push io=h2 at kp Cs ⊢;have t:Shared.TypeIs { s with heap:=h2 } (.ref S) "dict" := by obtain⟨o,ho,l⟩:=G;exact⟨o,kp _ _ ho,l⟩
 refine nc (sR ?_);unfold Builtin.List.listLengthHint;refine nc (uL t cy ?_);generalize D:("dict.__len__":String)=L8
 wp_delta
 rw[show splitId L8=some ("dict","__len__") from by subst D;decide +kernel];subst D;refine nc (vw (b:=true) t (by rw[ub];kernel_rfl) ?_);rw[o5 (by decide)];refine wd (fun _=>?_) (fun Dd=>absurd (by decide +kernel) Dd);refine nc (vM t ?_);refine oR ?_;refine wd (fun _=>?_) (fun Dd=>absurd (by decide +kernel) Dd);refine nc (zd ?_);refine nc ?_;show wpAny _ _ (updateSeq L (·.push .none) >>= fun _=>updateSeq L (·.pop)) _ _ _
 have J:(#[]:Array Value).size<=sizeLine:=CO _;have u:((#[]:Array Value).push Value.none).size<=sizeLine:=by show 1<=sizeLine;decide
 have I:((#[]:Array Value).push Value.none).size<=sizeLine+1:=bA u;have H:(((#[]:Array Value).push Value.none).pop).size<=sizeLine+1:=CO _;have C:=kp _ _ m;refine nc (vJ (s:={ s with heap:=h2 }) C rfl ?_ J I)
 have y:=ED (Obj.mapSeq (·.push Value.none)) C rfl
 refine vJ y rfl ?_ u H;have K:=ED (Obj.mapSeq (·.pop)) y rfl
 have F:∀b o,b≠L->h2.get? b=some o->((h2.update L (Obj.mapSeq (·.push Value.none))).update L (Obj.mapSeq (·.pop))).get? b=some o:=
  fun b o a e=>(D8 _ _ (B9 a)).trans ((D8 _ _ (B9 a)).trans e)
 refine oR ⟨xt ZGP _,xX (W A.in1 hh).toS (en▸hn) _ E _ A6.length 0 _ #[] _ rfl (CO _) ?_ K (ah _) fun s' C1 d c CU B2=>?_⟩
 ·exact(W A.in1 hh).frame 0 h2 _ Cs fun b a o e=>F b o (fun z=>E (z▸a)) e
 ·have hsz:L<s'.heap.objs.size:=B8 CU;refine h s' C1.toList d (fun b o a e=>?_) hsz c.gens c.os CU (by rw[Nh,B2.1];exact en) fun i v M=>B2.2 i v (by rw[<- aY];exact M);have N:b<s.heap.objs.size:=B8 e;refine c.heap b o ?_ (F b o a (kp b o e));simp only[Hs,BJ,ZAh,not_or];exact⟨a,Bm N⟩
end
theorem dU {prog:Program}{w:World}:∀{ks:List Key}{A6:List (Key×Value)}{vs:List Value},A6.map (·.1)=ks->vs.length=A6.length->(∀(i:Nat) v,vs[i]?=some v->∃k x,A6[i]?=some (k,x)/\(CV prog w).is k v=true)->Vals (ks.map kV) vs
 | [],[],[],_,_,_=>.nil
 | [],[],_::_,_,h,_=>by simp at h
 | [],_::_,_,h,_,_=>by simp at h
 | _::_,[],_,h,_,_=>by simp at h
 | _::_,_::_,[],_,h,_=>by simp at h
 | n::ns,kv::A6,v::vs,e,hl,h=>by
  rw[Bp] at e;injection e with e1 e2
  obtain⟨k,x,c,b⟩:=h 0 v rfl;have d:kv=(k,x):=by simpa using c
  subst d;have f:k=n:=e1;subst f;refine .cons ?_ (dU e2 (by simpa using hl) fun i v a=>h (i+1) v a)
  rcases Hd (show Jf k v=true from b) with⟨i,t,rfl,rfl⟩|⟨y,t,rfl,rfl⟩
  ·exact⟨t,rfl⟩
  ·exact⟨t,rfl⟩
section
variable {X:Cx}
def W7:List V->Hp->VK->Prop:=fun xs H Q=>∃(p:Addr) (A6:List (Key×V)),xs=[.ref p]/\Rd H p (.dK A6)/\A6.length<=1000/\∀l:Addr,H l=none->Q (.ref l) (upd H l (.lst ((A6.map (·.1)).map kV)))
theorem Vr (B:X.calm=true):DR X (.type "list") W7:=by
 intro pins s σ H xs us Q I r h;obtain⟨p,A6,rfl,C,M,q⟩:=h;obtain⟨u,rfl,v⟩:=vals1 r;cases v;obtain⟨f,IE,I0,rel,g⟩:=Jx I.AF C;have hh:X.A.handled=none:=I.ok.hd B;have K:p<s.heap.objs.size:=by obtain⟨i,h2⟩:=g.dictAt;exact h2.lt_size
 have N:p≠s.heap.objs.size:=Bm K;refine ZAm (Q₁:=fun obj d=>obj=.ref s.heap.objs.size/\d={ s with heap:=s.heap.push { cls:=.type "list", data:=.seq #[] } }) mL (mP _) mM
  (code_list_new _ ⟨rfl,rfl⟩) fun obj d z=>?_
 obtain⟨rfl,rfl⟩:=z;have c:(s.heap.push { cls:=.type "list", data:=.seq #[] }).get? s.heap.objs.size=some { cls:=.type "list", data:=.seq #[] }:=Bl _ rfl;refine⟨⟨_,c,rfl⟩,mK _ _,?_⟩;show wpAny _ X.A.in1.in1 (do let old <- Builtin.List.listItems (.ref s.heap.objs.size);Builtin.List.listUpdate (.ref s.heap.objs.size) (fun _=>#[]);letGo old.toList.reverse;Builtin.List.listExtendWith (.ref s.heap.objs.size) (.ref p) .none) _ _ _
 refine nc ?_;unfold Builtin.List.listItems;refine nc (yg c rfl (oR ?_));show wpAny _ X.A.in1.in1 (updateSeq s.heap.objs.size (fun _=>#[]) >>= fun _=>letGo (#[]:Array Value).toList.reverse >>= fun _=>Builtin.List.listExtendWith (.ref s.heap.objs.size) (.ref p) .none) _ _ _;refine nc (vJ c rfl ?_);have y:=ED (Obj.mapSeq (fun _=>(#[]:Array Value))) c rfl;have old:∀b o,s.heap.get? b=some o->((s.heap.push { cls:=.type "list", data:=.seq #[] }).update s.heap.objs.size (Obj.mapSeq (fun _=>(#[]:Array Value)))).get? b=some o:=fun b o e=>
  (D8 _ _ (Hu (B8 e))).trans (BN _ e)
 have x:((s.heap.push { cls:=.type "list", data:=.seq #[] }).update s.heap.objs.size (Obj.mapSeq (fun _=>(#[]:Array Value)))).DictOf (CV X.prog X.w) p I0:=by
  obtain⟨o,es,i,ho,rest⟩:=g;exact⟨o,es,i,old _ _ ho,rest⟩
 refine nc (wpAny_letGo ?_);refine ZEx (A:=X.A.in1) hh IE y x rfl (by rw[<- rel.length];exact f) fun s' vs E m J l k j G F=>?_;have n:Vals ((A6.map (·.1)).map kV) vs:=by
  rw[rel.keys];exact dU rfl G F
 refine⟨rfl,?_⟩;obtain⟨h1,g1,D,t,L⟩:=s';simp only at m J l k j;subst l;subst k;refine⟨.ref _,_,(I.drew D).laid (a:=s.heap.objs.size) (h':=h1) (t':=t) (o:=.lst ((A6.map (·.1)).map kV)) (fun b o e=>m b o (Bm (B8 e)) (old b o e)) (Ax _) ?_,rfl,q _ (I.AF.fresh (Ax _))⟩
 exact⟨by rw[AQ,AQ];exact f,vs,E,n,j⟩
variable {i o:Expr}{ty td:TE}{pos:Pos}
theorem dm (a:X.A.units+1<cLine)(hi:QE X i ty)(ho:QE X o td)(b:behindInMarks .In o=false:=by with_unfolding_all rfl):QT X (.Compare i [.In] [o] pos) (tB (Vu ty td)):=⟨eE (ZEO a hi.h ho.h) b⟩
theorem Tc (a:X.A.units+1<cLine)(hi:QE X i ty)(ho:QE X o td)(b:behindInMarks .NotIn o=false:=by with_unfolding_all rfl):QT X (.Compare i [.NotIn] [o] pos) (tB (SE ty td)):=⟨eE (tE a hi.h ho.h) b⟩
end
end L2
namespace Fz
open L2 Lw
theorem SW {F:Hp}:∀ks:List Key,AV F (ks.map kV) (ks.map HC)
 | []=>.nil
 | .inl i::ks=>.cons (.int i) (SW ks)
 | .inr x::ks=>.cons (.str x) (SW ks)
section
variable [Xw]
variable {E:Ent0}{ss:List Slot}{σ:L2.St}{F H F' H':Hp}{K:ZHP}{i:Nat}{t:OV}{ta tb tc te:TE}{nx:List Slot->Prop}{R:B3}
theorem oN {k:List PV->Prop}(h:Wp ss te fun p=>∃(ks:List Key) (xs:List PV),p=.B1 ks xs/\ks.length<=1000/\k (ks.map HC)):Wn ss (Dm W7 (Ag te BM)) k:=⟨fun E σ F H Q S q=>
 h.go E σ F H _ S fun v p F1 H1 b c AK=>by
  obtain⟨ks,xs,e,j,kk⟩:=AK;subst e;cases c with
  | @B1 a _ vs _ g f i=>
   refine⟨a,_,rfl,.inl (b.st.fh _ _ g),by rw[QD];omega,fun l CP=>?_⟩;rw[TL f];have d:=b.st.make CP (.lst (ks.map kV));exact q l _ _ F1 _ (b.trans d) (b.st.CA CP) (b.none CP) AO (SW ks) kk⟩
theorem kI {k:List PV->Prop}(h:Wl ss i t te fun _ u=>∃(ks:List Key) (a:Addr) (us:List OV),u=.nd (.B1 ks) a us/\ks.length<=1000/\k (ks.map HC)):Wn ss (Dm W7 (Ag te BM)) k:=⟨fun E σ F H Q S q=>
 h.go E σ F H _ S fun v p u F1 H1 b r B0 AK=>by
  obtain⟨ks,a,us,f,m,kk⟩:=AK;subst f;obtain⟨vs,rfl,d,g,e,j⟩:=r.inv;refine⟨a,_,rfl,.inl d,by rw[QD];omega,fun l CP=>?_⟩;rw[TL e];have c:=b.st.make CP (.lst (ks.map kV));exact q l _ _ F1 _ (b.trans c) (b.st.CA CP) (b.none CP) AO (SW ks) kk⟩
end
end Fz
namespace L2
variable {values vs:List Expr}{Ew:List (TE×TE)}
section
variable {X:Cx}{pos:Pos}
theorem jq:KU X pos [] [] []:=ZDi
theorem N6 {k v:Expr}{ks:List (Option Expr)}{tk tv:TE}(c:QE X k tk)(a:QE X v tv)(b:KU X pos ks vs Ew):KU X pos (some k::ks) (v::vs) ((tk,tv)::Ew):=ZAS c.h a.h b
theorem lI {keys:List (Option Expr)}(h:KU X pos keys values Ew)(KS:keys.all (·.isSome)=true)(j:keys.length=values.length)(l:keys≠[])(TQ:keys.length<=15):QE X (.Dict keys values pos) (Vn Ew):=⟨by
 intro pins s σ H Q I q;have hn:=I.AF.fresh (Ax s.heap.objs.size);have n:=I.laid (a:=s.heap.objs.size) (o:=.dK []) (h':=s.heap.push { cls:=.type "dict", data:=.dict #[] }) (t':=s.toks) (fun _ _ q=>BN _ q) (Ax _) (lL s.heap I.big);refine wpAny_Dict_walk (knd:=CV X.prog X.w) KS j l TQ (AR (h pins _ σ _ _ n (q _ hn)) fun ws s2 ⟨ps,H2,I2,rel,e,A6,m,p,f⟩=>?_);subst m;obtain⟨rs,c,b⟩:=m7 (P:=X.prog) (w:=X.w) rel;obtain⟨z,hd,I0,d,dd⟩:=YW I2.AF e;cases d;refine⟨rs,c,dd,fun h' IW i=>⟨.ref s.heap.objs.size,_,?_,rfl,f⟩⟩;have g:(Jz [] A6).length<=sizeLine:=by
  have h1:=bT A6 [];rw[ax] at h1;rw[sizeLine_eq];omega
 have k:∃q,h'.get? s.heap.objs.size=some q:=let ⟨q,_,_,hq,_⟩:=IW;⟨q,hq⟩;exact Te I2 (by rw[e];exact True.intro) i k (Wc g hd (b.merge .nil) IW)⟩
end
theorem iH:∀(more acc:List (Key×V)),((acc++more).map (·.1)).Nodup->Jz acc more=acc++more
 | [],acc,_=>by rw[El];rfl
 | p::r,acc,h=>by
  show Jz (putK acc p.1 p.2) r=_;have c:acc.any (fun a=>decide (a.1=p.1))=false:=by
   rw[ZG4];intro q b e;have d:=om e;rw[EF,Bp,Cu] at h;exact h.2.2 q.1 (List.mem_map.mpr ⟨q,b,rfl⟩) p.1 Dg d
  have e:putK acc p.1 p.2=acc++[p]:=by
   unfold putK;rw[c];rfl
  rw[e,iH r (acc++[p]) (by rw[C0];exact h),C0];rfl
end L2
namespace Fz
open L2 Lw
variable {ss:List Slot}{σ:L2.St}{F H:Hp}{C S a aL aS b dx p:Addr}{ta:TA}{Q:VK}{te:TE}{i j n:Nat}{t u w y z:OV}{pre:Pre}{ls m:List Lp}{nx:List Slot->Prop}{R:B3}{x:Str}{us:List OV}{l:Lp}{N ns:List Str}{d:Ac}{d':Ab}{c:GC}
section
variable [Xw]
theorem ZFi {E:Ent0}{F1 H1:Hp}{o:HO}(S:Sg E ss σ F H)(m:Mv E ss σ F H F1 H1)(b:H p=none)(d:F1 p=none):Mv E ss σ F H F1 (upd H1 p o):=
 S.step m.ff (fun a u e=>by rw[AX (by rintro rfl;rw[d] at e;cases e)];exact m.st.fh a u e)
  (fun a u n e=>by rw[AX (by rintro rfl;rw[b] at e;cases e)];exact m.hh a u n e) m.nn
  fun i l hi e=>C5.keep (m.st.EV hi e) fun u f=>by
   rw[AX (by
    rintro rfl;obtain⟨_,_,c,_⟩:=S.EV hi e;rw[b] at c;cases c)]
   exact f
theorem ZAY {k:List Nat->OV->Prop}{E:Ent}(ks:List Str)(J:ks.Nodup)(TQ:ks.length<=15)(S:Sg E ss σ F H)(d:H p=none)
  (h:Ng ss ta fun m us=>us.length=ks.length/\∀l,k m (.nd (.B1 (ks.map Sum.inr)) l us))
  (q:∀v m u F' H',Mv E ss σ F H F' H'->BG F' H' v u->u.addrs.Nodup->(∀a∈u.addrs,F' a=none/\E.H0 a=none/\((∃i∈m,∃s,s≠Slot.AM/\ss[i]?=some s/\Bc s σ[i]? a)∨H a=none))->k m u->Q v H') :
  ta σ (upd H p (.dK [])) fun vs H2=>H2 p=some (.dK [])/\∃A6:List (Key×V),List.zipWith (fun s v=>(V.str s,v)) ks vs=A6.map (fun j=>(kV j.1,j.2))/\A6.length<=15/\Q (.ref p) (upd H2 p (.dK (Jz [] A6))):=by
 have y:=S.make d (.dK []);have t:F p=none:=S.CA d;refine h.go E σ F _ _ y.st fun vs m us F1 H1 n x HM B ⟨I,kk⟩=>?_;have r:H1 p=some (.dK []):=n.hh p _ (S.PY d) AO;have A:F1 p=none:=by
  cases e:F1 p with
  | none=>rfl
  | some o=>
   rcases n.nn p o e with z | z
   ·rw[t] at z;cases z
   ·rw[AO] at z;cases z
 have D:vs.length=ks.length:=by rw[x.length,I]
 have L:List.zipWith (fun s v=>(V.str s,v)) ks vs=((ks.map Sum.inr).zip vs:List (Key×V)).map (fun j=>(kV j.1,j.2)):=by
  rw[List.zip_eq_zipWith,List.zipWith_map_left,List.map_zipWith];rfl
 refine⟨r,(ks.map Sum.inr).zip vs,L,by rw[QD,AQ];omega,?_⟩;have nk:((ks.map Sum.inr:List Key)).Nodup:=ZG2 _ (fun a b (h:a≠b)=>fun z=>h (by injection z)) J;rw[iH _ [] (by rw[b6,List.map_fst_zip (by rw[AQ];omega)];exact nk),b6];have mv:=ZFi (o:=.dK ((ks.map Sum.inr).zip vs)) S (y.trans n) d A;have C:p∉OV.Ao us:=fun g=>by
  rcases(B p g).2.2 with⟨i,_,s,_,G,ow⟩|z
  ·exact S.EL G ow d
  ·rw[AO] at z;cases z
 refine q _ m (.nd (.B1 (ks.map Sum.inr)) p us) F1 _ mv (.nd (k:=.B1 (ks.map Sum.inr)) (vs:=vs) AO trivial (show(List.map Sum.inr ks:List Key).length=vs.length by rw[AQ];exact D.symm) (x.mono (AB.refl _) fun a g o e=>by rw[AX (by rintro rfl;exact C g)];exact e)) ?_ (fun a g=>?_) (kk p)
 ·rw[OV.Dc];exact List.nodup_cons.mpr ⟨C,HM⟩
 ·rw[OV.Dc] at g;rcases List.mem_cons.mp g with e | g
  ·subst e;exact⟨A,S.EO d,.inr d⟩
  ·obtain⟨f,K,w⟩:=B a g;exact⟨f,K,w.imp id fun z=>by
    by_cases c:a=p
    ·subst c;exact d
    ·rw[AX c] at z;exact z⟩
theorem bg {k:List Nat->OV->Prop}{k1 k2 k3:Str}{c b a:TE}(e:[k1,k2,k3].Nodup)(h:Ng ss (Ag c (Ag b (Ag a BM))) fun m us=>us.length=3/\∀l,k m (.nd (.B1 [.inr k1,.inr k2,.inr k3]) l us)):Wx ss (Vn [(tC (.str k1),c),(tC (.str k2),b),(tC (.str k3),a)]) k:=⟨fun E σ F H Q S q p d=>
 ZAY (ta:=Ag c (Ag b (Ag a BM))) [k1,k2,k3] e (by show(_:Nat)+1<=15;simp) S d h q⟩
theorem ZCD {m:Str}{k:PV->Prop}(h:Wl ss i t te fun _ u=>∃dx ns a us,u=.nd (.obj C dx ns) a us/\DB ns m=none/\Wb ss ta fun ps=>∃k',pre ((u.pv::ps).map .is) (.is k')/\∀p,k' p->Fx p=true/\k p):Wp ss (Ml C m (BE pre) [] E0 te ta) k:=⟨fun E σ F H Q S q=>
 h.go E σ F H _ S fun v p u F1 H1 c e B0 ⟨dx,ns,a,us,w,s,h2⟩=>by
  subst w;have y:=e;cases y with
  | @nd _ _ vs _ d z B A=>
   refine⟨a,dx,ns.zip vs,rfl,d,Yl s,h2.go E σ F1 H1 _ c.st fun vs ps F2 H2 b j ⟨k',n,kk⟩=>?_⟩;rw[El];have g:=e.mv c.st h.hi B0 b;have x:AV (CB F2 H2 (C2 ss σ)) (V.ref a::vs) (_::ps):=.cons (g.rep b.st.T6.1 fun a d o ho=>by
    unfold CB;obtain⟨lt,hi⟩:=h.hi;rw[pQ (la b.st.len hi (by simp) (OV.Ku B0 a d))];exact ho) j
   refine⟨_,.is k',_,[],n,b.st.lend x,fun v F' H' f ⟨p,r,kp⟩=>?_⟩;obtain⟨mv,l⟩:=b.st.z5 f;exact q v p _ H' (c.trans (b.trans mv)) (r.sub l (kk p kp).1) (kk p kp).2⟩
theorem V5 (h:Wl ss i t te fun _ u=>∃nk a us,u=.nd nk a us/\nx (ss.set j (.raw (ptr a)))):Ws ss (Ea te (Cg j)) nx R:=⟨fun E D σ F H S hn d=>
 h.go E σ F H _ S fun v p u F1 H1 b r B0 AK=>by
  obtain⟨nk,a,us,c,kk⟩:=AK;subst c;cases r;exact hn _ _ F1 H1 kk (b.st.setG ⟨_,rfl,rfl,fun _ _ _ h=>h⟩ fun _ z=>by cases z) b.ff⟩
end
theorem K3 {k:NK}{x:OV}:(OV.nd k a [x,y,z]).put [1] w=.nd k a [x,w,z]:=by rw[OV.KQ (x:=y) rfl,OV.Fj];rfl
theorem put2 {k:NK}{x:OV}:(OV.nd k a [x,y,z]).put [2] w=.nd k a [x,y,w]:=by rw[OV.KQ (x:=z) rfl,OV.Fj];rfl
theorem RQ {k k':NK}{x:OV}(h:us[n]?=some u):(OV.nd k a [x,y,.nd k' b us]).put [2,n] w=.nd k a [x,y,.nd k' b (us.set n w)]:=by rw[OV.KQ (x:=.nd k' b us) rfl,OV.KQ h,OV.Fj];rfl
theorem X5 {k k':NK}{x:OV}(h:us[n]?=some u):(OV.nd k a [x,y,.nd k' b us]).at [2,n]=some u:=by
 rw[OV.at];show OV.at (.nd k' b us) [n]=some u;rw[OV.at,h];exact OV.Ig
theorem Ds {k:NK}{x:OV}:(OV.nd k a [x,y,z]).at [1]=some y:=by
 rw[OV.at];exact OV.Ig
theorem z9 [Xw]{K:ZHP}{l m:Nat}{p:PV}{k:List Slot->Prop}(h:∃a b c d,p=.tup [a,b,c,d]/\k ((((ss.set i (.is a)).set j (.is b)).set l (.is c)).set m (.is d))):Wg ss (OU K 4 (He (Cg i) (He (Cg j) (He (Cg l) (He (Cg m) Pa))))) p k:=⟨fun E σ F H v Q S r q=>by
 obtain⟨a,b,c,d,rfl,kk⟩:=h;obtain⟨_,_,rfl,e,r⟩:=r.inv;obtain⟨_,_,rfl,o,r⟩:=r.inv;obtain⟨_,_,rfl,n,r⟩:=r.inv;obtain⟨_,_,rfl,g,r⟩:=r.inv;obtain⟨_,_,rfl,f,r⟩:=r.inv;obtain rfl:=r.Dy;exact⟨_,_,rfl,AU.of (S.fh _ _ e),rfl,_,_,rfl,_,_,rfl,_,_,rfl,_,_,rfl,rfl,q _ _ kk ((((S.FQ o).FQ n).FQ g).FQ f)⟩⟩
theorem RU {vs:List V}{X:XK}{t:TS}(h:Br pre vs H Q X)(b:∀ss R,pre ss R->ss.length=n)
  (hw:∀ss R,pre ss R->Ws (ss++List.replicate (N.length - n) .any) t (R4 R) R):t { nx:=fun _ H'=>Q .A8 H',rt:=Q } (L2.start N vs) H:=by
 obtain⟨ss,R,F,A,B,a,S,q⟩:=h;have e:vs.length=n:=by have:=S.len;rw[AQ] at this;rw[<- this];exact b ss R a
 unfold L2.start;rw[e];exact(hw ss R a).go (RE ⟨A,F,H,B⟩) _ _ F H (S.grown _) (fun AJ σ' F' H' z S' _=>q .A8 F' H' S'.toFin (z.ok S')) fun v F' H' f ok=>q v F' H' f ok
structure Sm where
 stood:Nat
 joined:Nat
 told:Nat
 taken:Nat
structure Ls where
 row:List Str
 ln:List Str
 ll:List Lp
 sn:List Str
 sq:List Sm
variable {s s':Ls}
inductive LE where
 | Fq (x r:Str) | tell (x y:Str) | over (x:Str) | CT (d:Ac)
variable {e:LE}{es:List LE}
noncomputable def LE.P:LE->PV
 | .Fq x r=>.tup [.str "begin", .str x,.str r]
 | .tell x y=>.tup [.str "tell", .str x,.str y]
 | .over x=>.tup [.str "over", .str x]
 | .CT d=>aP d
def LE.say:LE->Prop
 | .Fq x r=>Cb x/\Cb r
 | .tell x y=>Cb x/\Cb y
 | .over x=>Cb x
 | .CT d=>d.say
noncomputable def Fu (ns:List Str)(d:Ac):Option Ab:=open Classical in if h:∃d',d.Is ns d' then some h.choose else none
theorem VO (h:d.Is ns d'):Fu ns d=some d':=by
 have e:∃d',d.Is ns d':=⟨d',h⟩;unfold Fu;rw[dif_pos e];exact rA some (wx (e.choose_spec.1.symm.trans h.1))
theorem Z7 (h:Fu ns d=some d'):d.Is ns d':=by
 unfold Fu at h;split at h
 ·next e=>cases h;exact e.choose_spec
 ·cases h
theorem vB {e:Ac}(h:aP d=aP e):d=e:=by
 cases d <;> cases e <;> simp[aP] at h <;> first | (exact absurd h.1 O6) | (exact absurd h.1.symm O6) | (obtain⟨a,b⟩:=h;subst a;subst b;rfl) | (subst h;rfl)
theorem oq (h:d.Is ns d'):d.Aw c ns=none:=by
 have:d=Hk d':=vB (h.1.trans (VJ d').symm);rw[this];exact sA h.2
theorem bX {e:Ex}(h:d.Aw c ns=some e):Fu ns d=none:=by
 cases q:Fu ns d with
 | none=>rfl
 | some d'=>rw[oq (Z7 q)] at h;cases h
noncomputable def c0:GC:=⟨0,0,0,0,0⟩
theorem J1 (ns:List Str)(d:Ac):(Fu ns d).isSome=(d.Aw c0 ns).isNone:=by
 cases h:d.Aw c0 ns with
 | none=>
  obtain⟨d',h'⟩:=Ac.good h;rw[VO h'];rfl
 | some e=>rw[bX h];rfl
theorem wC {i:Int}(h1:isNm x=true)(h2:x∉ns)(a:ns.length<40):(Fu ns (.put x i)).isSome=decide (inR i 0 ns.length):=by
 rw[J1];simp only[Ac.Aw];rw[o5 (by rw[h1];decide),o5 h2]
 by_cases c:inR i 0 ns.length
 ·rw[o5 (Decidable.not_not.mpr c),o5 (by omega),nv c];rfl
 ·rw[pQ c,q8 c];rfl
theorem xp {i:Int}(h1:isNm x=true)(h2:x∉ns)(a:40<=ns.length):(Fu ns (.put x i)).isSome=false:=by
 rw[J1];simp only[Ac.Aw];rw[o5 (by rw[h1];decide),o5 h2]
 by_cases c:inR i 0 ns.length
 ·rw[o5 (Decidable.not_not.mpr c),pQ a];rfl
 ·rw[pQ c];rfl
theorem ZFh {i:Int}(h2:x∈ns):(Fu ns (.move x i)).isSome=decide (inR i 0 (ns.length - 1)):=by
 rw[J1];simp only[Ac.Aw];rw[o5 (Decidable.not_not.mpr h2)]
 by_cases c:inR i 0 (ns.length - 1)
 ·rw[o5 (Decidable.not_not.mpr c),nv c];rfl
 ·rw[pQ c,q8 c];rfl
theorem z8 {lo hi:Int}:(Fu ns (.turn lo hi)).isSome=(decide (inR lo 0 ns.length) && decide (inR hi lo ns.length)):=by
 rw[J1];simp only[Ac.Aw]
 by_cases c:inR lo 0 ns.length
 ·rw[o5 (Decidable.not_not.mpr c),nv c]
  by_cases e:inR hi lo ns.length
  ·rw[o5 (Decidable.not_not.mpr e),nv e];rfl
  ·rw[pQ e,q8 e];rfl
 ·rw[pQ c,q8 c];rfl
theorem Sf {i lo hi:Int}:decide (inR i lo hi)=(decide (lo<=i) && decide (i<=hi)):=by
 by_cases h1:lo<=i
 ·by_cases h2:i<=hi
  ·rw[nv (show inR i lo hi from⟨h1,h2⟩),nv h1,nv h2];rfl
  ·rw[q8 (fun z:inR i lo hi=>h2 z.2),nv h1,q8 h2];rfl
 ·rw[q8 (fun z:inR i lo hi=>h1 z.1),q8 h1];rfl
noncomputable def Sm.join (q:Sm):Sm:=⟨q.stood,q.joined+1,q.told,q.taken⟩
noncomputable def Sm.tell (q:Sm):Sm:=⟨q.stood,q.joined,q.told+1,q.taken⟩
noncomputable def Sm.take (q:Sm):Sm:=⟨q.stood,q.joined,q.told,q.taken+1⟩
noncomputable def Sm.by (n m:Nat):Sm->Sm:=if n<m then Sm.join else if m<n then Sm.take else id
noncomputable def Cd (s:Ls)(d:Ab):Nat->List Sm
 | 0=>s.sq
 | i+1=>match s.ln[i]?,s.ll[i]? with
  | some x,some l=>(Cd s d i).modify (s.sn.idxOf x) (Sm.by l.cs.length (l.led s.row d).cs.length)
  | _,_=>Cd s d i
noncomputable def CQ (s:Ls)(d:Ab)(i:Nat):List Lp:=(s.ll.take i).map (Lp.led s.row d)++s.ll.drop i
noncomputable def FD (s:Ls)(x r:Str):Option Ls:=if isNm x=true/\x∉s.sn/\IT r=true then some ⟨s.row,s.ln++[x],s.ll++[⟨r,0,Fe s.row⟩],s.sn++[x],s.sq++[⟨s.row.length,0,0,0⟩]⟩ else none
noncomputable def EU (s:Ls)(x y:Str):Option Ls:=match s.ll[s.ln.idxOf x]? with
 | some l=>if y∈l.cs then some ⟨s.row,s.ln,s.ll.set (s.ln.idxOf x) ⟨l.r,s.row.idxOf y+1,wo l.cs y⟩,s.sn,s.sq.modify (s.sn.idxOf x) Sm.tell⟩ else none
 | none=>none
noncomputable def EY (s:Ls)(x:Str):Option Ls:=match s.ll[s.ln.idxOf x]? with
 | some l=>if l.cs=[] then some ⟨s.row,s.ln.eraseIdx (s.ln.idxOf x),s.ll.eraseIdx (s.ln.idxOf x),s.sn,s.sq⟩ else none
 | none=>none
noncomputable def Fo (s:Ls)(d:Ac):Option Ls:=match Fu s.row d with
 | some d'=>some ⟨d'.done s.row,s.ln,s.ll.map (Lp.led s.row d'),s.sn,Cd s d' s.ln.length⟩
 | none=>none
noncomputable def En (s:Ls):LE->Option Ls
 | .Fq x r=>FD s x r
 | .tell x y=>EU s x y
 | .over x=>EY s x
 | .CT d=>Fo s d
structure Ls.Ok (s:Ls):Prop where
 row:HS 40 s.row
 l1:s.ln.length=s.ll.length
 l2:s.sn.length=s.sq.length
 n1:s.ln.Nodup
 n2:s.sn.Nodup
 sub:∀x∈s.ln,x∈s.sn
 good:∀l∈s.ll,l.Good s.row
 nm:∀x∈s.sn,Nm x
theorem Ol (s:Ls)(d:Ab):∀i,(Cd s d i).length=s.sq.length
 | 0=>rfl
 | i+1=>by
  unfold Cd;split
  ·rw[List.length_modify,Ol]
  ·exact Ol s d i
theorem jx (s:Ls)(d:Ab):CQ s d s.ll.length=s.ll.map (Lp.led s.row d):=by
 unfold CQ;rw[Kn,ZG6,El]
theorem JC (s:Ls)(d:Ab)(i:Nat):(CQ s d i).length=s.ll.length:=by
 unfold CQ;rw[CM,AQ,Cn,Em];omega
theorem U6 {d:Ab}(h:s.ll[i]?=some l):(CQ s d i)[i]?=some l:=by
 have hi:=(List.getElem?_eq_some_iff.mp h).1;unfold CQ;rw[Kk (by rw[AQ,Cn];omega),AQ,Cn,List.getElem?_drop];rw[show i+(i - min i s.ll.length)=i by omega];exact h
theorem X0 {d:Ab}(h:s.ll[i]?=some l):(CQ s d i).set i (l.led s.row d)=CQ s d (i+1):=by
 obtain⟨hi,e⟩:=List.getElem?_eq_some_iff.mp h;unfold CQ;rw[List.set_append_right _ _ (by rw[AQ,Cn];omega),AQ,Cn,show i - min i s.ll.length=0 by omega,mR hi,b9,QK hi,EF,C0,e];rfl
theorem Xr {l:List Str}(h:x∈l):l[l.idxOf x]?=some x:=by
 rw[BC (List.idxOf_lt_length_iff.mpr h),av]
theorem ZDK {l:List Str}{a:Lp}(b:l.length=m.length)(h:m[l.idxOf x]?=some a):x∈l:=by
 have:=(List.getElem?_eq_some_iff.mp h).1;exact List.idxOf_lt_length_iff.mp (by omega)
theorem Ls.Ok.step (h:s.Ok)(g:En s e=some s'):s'.Ok:=by
 cases e with
 | Fq x r=>
  have g:FD s x r=some s':=g;unfold FD at g;split at g
  ·next c=>
   cases g;obtain⟨c1,c2,m⟩:=c;refine⟨h.row,by simp[h.l1],by simp[h.l2],?_,?_,?_,?_,?_⟩
   ·exact Rr h.n1 fun z=>c2 (h.sub x z)
   ·exact Rr h.n2 c2
   ·intro y a;rcases List.mem_append.mp a with z | z
    ·exact List.mem_append.mpr (.inl (h.sub y z))
    ·exact List.mem_append.mpr (.inr z)
   ·intro l f;rcases List.mem_append.mp f with z | z
    ·exact h.good l z
    ·rw[List.mem_singleton.mp z];exact⟨om m,Int.le_refl _,ZG1 _,Zv h.row.nd,fun y a=>Rh.mp a⟩
   ·intro y a;rcases List.mem_append.mp a with z | z
    ·exact h.nm y z
    ·rw[List.mem_singleton.mp z];exact fE c1
  ·cases g
 | tell x y=>
  have g:EU s x y=some s':=g;unfold EU at g;split at g
  ·next l e=>
   split at g
   ·next c=>
    cases g;have i:=h.good l (Dh e);refine⟨h.row,by simp[h.l1],by simp[h.l2],h.n1,h.n2,h.sub,?_,h.nm⟩;intro b CP;rcases b5 CP with z | z
    ·exact h.good b z
    ·rw[z];exact Lw.Dl.step i (i.sub y c)
   ·cases g
  ·cases g
 | over x=>
  have g:EY s x=some s':=g;unfold EY at g;split at g
  ·next l e=>
   split at g
   ·next c=>
    cases g;have hi:=(List.getElem?_eq_some_iff.mp e).1;refine⟨h.row,?_,h.l2,List.Nodup.sublist (Tr _ _) h.n1,h.n2,fun y a=>h.sub y ((Tr _ _).subset a),fun b CP=>h.good b ((Tr _ _).subset CP),h.nm⟩;have h1:=h.l1;show(s.ln.eraseIdx _).length=(s.ll.eraseIdx _).length;rw[mX (by omega),mX hi,h1]
   ·cases g
  ·cases g
 | CT d=>
  have g:Fo s d=some s':=g;unfold Fo at g;split at g
  ·next d' e=>
   cases g;have ok:=(Z7 e).2;refine⟨h.row.done ok,by simp[h.l1],by rw[Ol];exact h.l2,h.n1,h.n2,h.sub,?_,h.nm⟩;intro l f;obtain⟨j,k,rfl⟩:=List.mem_map.mp f;exact Lw.Dl.led (h.good j k) ok h.row.nd
  ·cases g
def R2 (P:OV->Sm->Prop)(us:List OV)(a:List Sm):Prop:=us.length=a.length/\∀(n:Nat) u q,us[n]?=some u->a[n]?=some q->P u q
theorem R2.nil {P:OV->Sm->Prop}:R2 P [] []:=⟨rfl,fun n u q h=>by cases h⟩
theorem R2.snoc {P:OV->Sm->Prop}{d:List Sm}{q:Sm}(h:R2 P us d)(e:P u q):R2 P (us++[u]) (d++[q]):=by
 refine⟨by simp[h.1],fun n v p a b=>?_⟩;have f:=h.1
 by_cases c:n<us.length
 ·rw[Hq c] at a;rw[Hq (by omega)] at b;exact h.2 n v p a b
 ·have h1:=(List.getElem?_eq_some_iff.mp a).1;simp at h1;have:n=us.length:=by omega
  subst this;rw[Kk (Ax _),Nat.sub_self] at a;rw[Kk (by omega),show us.length - d.length=0 by omega] at b;cases a;cases b;exact e
theorem R2.set {P:OV->Sm->Prop}{d:List Sm}{f:Sm->Sm}(h:R2 P us d)(g:∀q,d[n]?=some q->P u (f q)):R2 P (us.set n u) (d.modify n f):=by
 refine⟨by simp[h.1],fun m v p b a=>?_⟩
 by_cases c:n=m
 ·subst c;have h1:=(List.getElem?_eq_some_iff.mp b).1;rw[GX] at h1;rw[Cm h1] at b;rw[List.getElem?_modify_eq] at a;cases e:d[n]? with
  | none=>rw[e] at a;cases a
  | some q=>rw[e] at a;cases a;cases b;exact g q e
 ·rw[CL c] at b;rw[List.getElem?_modify_ne _ _ c] at a;exact h.2 m v p b a
theorem R2.get {P:OV->Sm->Prop}{us:List OV}{a:List Sm}{n:Nat}{q:Sm}(h:R2 P us a)(b:a[n]?=some q):∃u,us[n]?=some u/\P u q:=by
 have h1:=(List.getElem?_eq_some_iff.mp b).1;have c:=h.1;exact⟨us[n],BC (by omega),h.2 n _ q (BC (by omega)) b⟩
noncomputable def GO (q:Sm):List PV:=[.int q.stood,.int q.joined,.int q.told,.int q.taken]
noncomputable def An (ns:List Str):List Key:=ns.map Sum.inr
noncomputable def CG (ll:List Lp):List OV:=ll.map fun l=>.fz l.P
def kf (u:OV)(q:Sm):Prop:=∃b,u=.nd .lst b ((GO q).map .fz)
def PM (T:Addr)(u:OV)(q:Sm):Prop:=∃e b,u=.nd (.obj T e ["stood","joined","told","taken"]) b ((GO q).map .fz)
noncomputable def k3:List Key:=[.inr "row", .inr "live", .inr "sums"]
noncomputable def Bb (s:Ls)(a aL aS:Addr)(us:List OV):OV:=.nd (.B1 k3) a [.fz (.lst (s.row.map .str)),.nd (.B1 (An s.ln)) aL (CG s.ll),.nd (.B1 (An s.sn)) aS us]
def DD (s:Ls)(a:Addr)(t:OV):Prop:=∃aL aS us,R2 kf us s.sq/\t=Bb s a aL aS us
noncomputable def JG:List Str:=["standing","running","tallies"]
noncomputable def Bg (s:Ls)(C a dx aL aS:Addr)(us:List OV):OV:=.nd (.obj C dx JG) a [.fz (.lst (s.row.map .str)),.nd (.B1 (An s.ln)) aL (CG s.ll),.nd (.B1 (An s.sn)) aS us]
def D9 (s:Ls)(C T a:Addr)(t:OV):Prop:=∃dx aL aS us,R2 (PM T) us s.sq/\t=Bg s C a dx aL aS us
theorem KR (ns:List Str)(x:Str):Gs (An ns) (.inr x)=decide (x∈ns):=by
 unfold Gs An;rw[List.any_map]
 by_cases h:x∈ns
 ·rw[nv h];exact List.any_eq_true.mpr ⟨x,h,nv rfl⟩
 ·rw[q8 h];rw[Bool.eq_false_iff];intro z;obtain⟨y,b,e⟩:=List.any_eq_true.mp z;have a:(Sum.inr y:Key)=Sum.inr x:=om e;injection a with a
  exact h (a▸b)
theorem G1:∀{ns:List Str}{x:Str},x∈ns->Cc (An ns) (.inr x)=some (ns.idxOf x)
 | [],_,h=>absurd h BJ
 | y::ns,x,h=>by
  unfold An;rw[Bp,Cc,mV]
  by_cases c:y=x
  ·subst c;rw[pQ rfl,show(y == y)=true from u4 y];rfl
  ·rw[o5 (fun e=>c (by injection e)),show(y == x)=false from beq_eq_false_iff_ne.mpr c];have h1:Cc (ns.map fun n:Str=>(Sum.inr n:Key)) (.inr x)=some (ns.idxOf x):=G1 ((List.mem_cons.mp h).resolve_left fun z=>c z.symm);have a:Cc (ns.map (Sum.inr:Str->Key)) (.inr x)=some (ns.idxOf x):=h1;rw[a];rfl
theorem cO:∀{ns:List Str}{x:Str},x∉ns->Cc (An ns) (.inr x)=none
 | [],_,_=>rfl
 | y::ns,x,h=>by
  unfold An;rw[Bp,Cc,o5 (fun e=>h (by injection e with e;subst e;exact Dg))]
  have h1:Cc (ns.map (Sum.inr:Str->Key)) (.inr x)=none:=cO (ns:=ns) fun z=>h (EG _ z);rw[h1];rfl
theorem Ip (h:ns.Nodup):(An ns).Nodup:=ZG2 _ (fun a b (h:a≠b)=>fun z=>h (by injection z)) h
theorem jj (h:x∉ns):HJ (An ns) (.inr x)=An (ns++[x])/\GP (An ns) us (.inr x) u=us++[u]:=by
 unfold GP HJ;rw[cO h,KR,q8 h];exact⟨by unfold An;rw[EF];rfl,rfl⟩
theorem dZ (h:x∈ns):HJ (An ns) (.inr x)=An ns/\GP (An ns) us (.inr x) u=us.set (ns.idxOf x) u:=by
 unfold GP HJ;rw[G1 h,KR,nv h];exact⟨rfl,rfl⟩
theorem SU (h:x∈ns):HJ (An ns) (.inr x)=An ns:=(dZ (us:=[]) (u:=.fz .A8) h).1
theorem Qr (h:x∈ns):GP (An ns) us (.inr x) u=us.set (ns.idxOf x) u:=(dZ h).2
theorem ON (h:x∉ns):HJ (An ns) (.inr x)=An (ns++[x]):=(jj (us:=[]) (u:=.fz .A8) h).1
theorem R7 (h:x∉ns):GP (An ns) us (.inr x) u=us++[u]:=(jj h).2
theorem kR (ns:List Str)(i:Nat):(An ns).eraseIdx i=An (ns.eraseIdx i):=by
 unfold An
 induction ns generalizing i with
 | nil=>rfl
 | cons x ns a=>cases i with
  | zero=>rfl
  | succ i=>rw[Bp,M8,M8,Bp,a]
theorem lr (ls:List Lp)(i:Nat):(CG ls).eraseIdx i=CG (ls.eraseIdx i):=by
 unfold CG
 induction ls generalizing i with
 | nil=>rfl
 | cons x ns a=>cases i with
  | zero=>rfl
  | succ i=>rw[Bp,M8,M8,Bp,a]
theorem QX (ls:List Lp)(i:Nat)(l:Lp):(CG ls).set i (.fz l.P)=CG (ls.set i l):=by unfold CG;rw[az]
theorem MC (h:ls[i]?=some l):(CG ls)[i]?=some (.fz l.P):=by unfold CG;rw[BU,h];rfl
theorem U2 {y:PV}:∀{ns:List Str}{xs:List PV}{x:Str},x∈ns->xs[ns.idxOf x]?=some y->Jn (An ns) xs (.inr x)=some y
 | [],_,_,h,_=>absurd h BJ
 | z::ns,xs,x,h,e=>by
  rw[mV] at e;unfold An
  by_cases c:z=x
  ·subst c;rw[show(z == z)=true from u4 z] at e;cases xs with
   | nil=>cases e
   | cons w ws=>rw[Bp,Jn,pQ rfl];exact e
  ·rw[show(z == x)=false from beq_eq_false_iff_ne.mpr c] at e;cases xs with
   | nil=>cases e
   | cons w ws=>
    rw[Bp,Jn,o5 (fun q=>c (by injection q))];exact U2 ((List.mem_cons.mp h).resolve_left fun q=>c q.symm) e
theorem V9:∀us:List OV,OV.Cw us=us.map OV.pv
 | []=>by rw[OV.Cw];rfl
 | u::us=>by rw[OV.Cw,V9 us];rfl
theorem cM (ll:List Lp):OV.Cw (CG ll)=ll.map Lp.P:=by
 have:=Zs (ll.map Lp.P);rw[QF] at this;exact this
theorem fv {d:Ab}(hx:s.ln[i]?=some x)(a:s.ll[i]?=some l):Cd s d (i+1)=(Cd s d i).modify (s.sn.idxOf x) (Sm.by l.cs.length (l.led s.row d).cs.length):=by
 rw[Cd,hx,a]
theorem ZB4 {d:Ab}(ok:s.Ok)(hx:x∈s.sn):∃q,(Cd s d i)[s.sn.idxOf x]?=some q:=by
 have h1:=List.idxOf_lt_length_iff.mpr hx;have h2:=ok.l2;exact⟨_,BC (by rw[Ol];omega)⟩
theorem lP {α:Type}(l:List α)(n:Nat):l.modify n id=l:=by
 apply ao;intro k;rw[List.getElem?_modify];cases l[k]? with
 | none=>rfl
 | some x=>by_cases c:n=k <;> simp[c]
theorem ZAz (ns:List Str):Fx (.tup (ns.map .str))=true:=by
 rw[Fx]
 induction ns with
 | nil=>rfl
 | cons x ns a=>rw[Bp,OJ,a];rfl
theorem wy:HJ k3 (.inr "row")=k3:=by decide +kernel
theorem ZBF {x:OV}:GP k3 [x,y,z] (.inr "row") w=[w,y,z]:=by
 unfold GP;rw[show Cc k3 (.inr "row")=some 0 by decide +kernel];rfl
noncomputable def LJ (tp:Bool)(xs:List PV):PV:=if tp=true then .tup xs else .lst xs
def Dn (T:Ls->OV->Prop)(s:Ls)(o:Option Ls)(p:PV)(t':OV):Prop:=(∃s',o=some s'/\p=.bl true/\T s' t')∨(o=none/\p=.bl false/\T s t')
noncomputable def E5 (s:Ls)(x:Str):List Str:=match s.ll[s.ln.idxOf x]? with
 | some l=>l.cs
 | none=>[]
noncomputable def UJ (C:Addr)(s:Ls)(xs:List PV):PV:=.obj C JG [.lst (s.row.map .str),.B1 (An s.ln) (s.ll.map Lp.P),.B1 (An s.sn) xs]
theorem vV:(Bg s C a dx aL aS us).pv=UJ C s (us.map OV.pv):=by
 unfold Bg UJ;rw[OV.pv,OV.Cw,OV.Cw,OV.Cw,OV.Cw,OV.pv,OV.pv,OV.pv,cM,V9]
theorem fU (nd:s.ln.Nodup)(hx:s.ln[i]?=some x)(a:s.ll[i]?=some l):E5 s x=l.cs:=by
 unfold E5;rw[MK nd hx,a]
def XB (T:Addr):Pre:=fun l R=>∃(a dx:Addr) (n:Nat),l=[.ow true (.nd (.obj T dx []) a []),.is (.int n)]/\R=.mt fun p t'=>p=.A8/\t'=.nd (.obj T dx ["stood","joined","told","taken"]) a ((GO ⟨n,0,0,0⟩).map .fz)
def WS (C T:Addr):Pre:=fun l R=>∃(a dx:Addr) (tp:Bool) (ns:List Str),l=[.ow true (.nd (.obj C dx []) a []),.is (LJ tp (ns.map .str))]/\R=.mt fun p t'=>p=.A8/\∃aL aS,t'=Bg ⟨ns,[],[],[],[]⟩ C a dx aL aS []
def Mh (C:Addr):Pre:=fun l R=>∃(s:Ls) (xs:List PV) (x:Str),l=[.is (UJ C s xs),.is (.str x)]/\s.ln.length=s.ll.length/\R=.is fun p=>p=.tup ((E5 s x).map .str)
def YD (C T:Addr):Pre:=fun l R=>∃(s:Ls) (a:Addr) (t:OV) (x r:Str),l=[.ow true t,.is (.str x),.is (.str r)]/\D9 s C T a t/\s.Ok/\Cb x/\Cb r/\s.sn.length<=1000/\R=.mt (Dn (fun s t=>D9 s C T a t) s (FD s x r))
def UZ (C T:Addr):Pre:=fun l R=>∃(s:Ls) (a:Addr) (t:OV) (x y:Str),l=[.ow true t,.is (.str x),.is (.str y)]/\D9 s C T a t/\s.Ok/\s.sn.length<=1000/\R=.mt (Dn (fun s t=>D9 s C T a t) s (EU s x y))
def W5 (C T:Addr):Pre:=fun l R=>∃(s:Ls) (a:Addr) (t:OV) (x:Str),l=[.ow true t,.is (.str x)]/\D9 s C T a t/\s.Ok/\R=.mt (Dn (fun s t=>D9 s C T a t) s (EY s x))
def Rf (C T:Addr):Pre:=fun l R=>∃(s:Ls) (a:Addr) (t:OV) (d:Ac),l=[.ow true t,.is (aP d)]/\D9 s C T a t/\s.Ok/\d.say/\s.sn.length<=1000/\R=.mt (Dn (fun s t=>D9 s C T a t) s (Fo s d))
def YL (C T:Addr):Pre:=fun l R=>∃(s:Ls) (a:Addr) (t:OV) (e:LE),l=[.ow true t,.is e.P]/\D9 s C T a t/\s.Ok/\e.say/\s.sn.length<=1000/\R=.mt (Dn (fun s t=>D9 s C T a t) s (En s e))
noncomputable def EN (s:Ls)(d:Ab)(i:Nat):Ls:=⟨s.row,s.ln,CQ s d i,s.sn,Cd s d i⟩
def ZX (C T:Addr):Pre:=fun l R=>∃(s:Ls) (a:Addr) (t:OV) (d:Ab) (i:Nat) (x:Str),l=[.ow true t,.is (.str x),.is (dP d)]/\D9 (EN s d i) C T a t/\s.Ok/\s.ln[i]?=some x/\d.Ok 40 s.row/\(∀x,d=.take x∨(∃i,d=.move x i)->Cb x)/\s.sn.length<=1000/\R=.mt fun p t'=>p=.A8/\D9 (EN s d (i+1)) C T a t'
noncomputable def runs (s:Ls):List LE->Option Ls
 | []=>some s
 | e::r=>match En s e with
  | some s'=>runs s' r
  | none=>none
noncomputable def Cs (ns:List Str):Ls:=⟨ns,[],[],[],[]⟩
noncomputable def Vy (C:Addr)(n:Int):Ex:=⟨C,["number"],[.int n]⟩
def JR (ns:List Str)(es:List LE)(i:Nat):Prop:=∃s e,runs (Cs ns) (es.take i)=some s/\es[i]?=some e/\En s e=none
theorem Xe (h:HS 40 ns):(Cs ns).Ok:=⟨h,rfl,rfl,QH,QH,fun x hx=>absurd hx BJ,fun x hx=>absurd hx BJ,fun x hx=>absurd hx BJ⟩
theorem XI:∀{s s':Ls},s.Ok->runs s es=some s'->s'.Ok:=by
 induction es with
 | nil=>intro s s' h e;rw[runs] at e;cases e;exact h
 | cons x es a=>
  intro s s' h e;rw[runs] at e;split at e
  ·next s1 e1=>exact a (h.step e1) e
  ·cases e
theorem X8 {fs:List LE}:∀{s:Ls},runs s (es++fs)=(runs s es).bind fun s'=>runs s' fs:=by
 induction es with
 | nil=>intro s;rfl
 | cons x es a=>
  intro s;rw[ai,runs,runs];split
  ·exact a
  ·rfl
theorem OS (h:runs s es=some s'):runs s (es++[e])=En s' e:=by
 rw[X8,h];show runs s' [e]=_;rw[runs];cases En s' e <;> rfl
theorem ZG (h:JR ns es i):runs (Cs ns) es≠some s:=fun z=>by
 obtain⟨s1,e,h1,h2,a⟩:=h;obtain⟨hi,b⟩:=List.getElem?_eq_some_iff.mp h2;have c:es=es.take i++[e]++es.drop (i+1):=by
  rw[C0]
  conv=>lhs;rw[<- Km i es,mR hi,b]
  rfl
 rw[c,X8,OS h1,a] at z;cases z
theorem oY (h:En s e=some s'):s'.sn.length<=s.sn.length+1:=by
 cases e with
 | Fq x r=>
  have h:FD s x r=some s':=h;unfold FD at h;split at h
  ·cases h;show(s.sn++[x]).length<=_;rw[CM];exact Ax _
  ·cases h
 | tell x y=>
  have h:EU s x y=some s':=h;unfold EU at h;split at h
  ·split at h
   ·cases h;exact Dv _
   ·cases h
  ·cases h
 | over x=>
  have h:EY s x=some s':=h;unfold EY at h;split at h
  ·split at h
   ·cases h;exact Dv _
   ·cases h
  ·cases h
 | CT d=>
  have h:Fo s d=some s':=h;unfold Fo at h;split at h
  ·cases h;exact Dv _
  ·cases h
theorem Wj:∀{s s':Ls},runs s es=some s'->s'.sn.length<=s.sn.length+es.length:=by
 induction es with
 | nil=>intro s s' e;rw[runs] at e;cases e;exact Ax _
 | cons x es a=>
  intro s s' e;rw[runs] at e;split at e
  ·next s1 e1=>have:=a e;have:=oY e1;rw[CN];omega
  ·cases e
def ZF (C T N:Addr):Es:=fun l R D=>∃(tp:Bool) (ns:List Str) (es:List LE),l=[.is (LJ tp (ns.map .str)),.is (.lst (es.map LE.P))]/\HS 40 ns/\(∀e∈es,e.say)/\es.length<=200/\(R=.ow fun u=>∃s a,runs (Cs ns) es=some s/\D9 s C T a u)/\D=fun x=>∃i:Nat,x=Vy N i/\JR ns es i
def V2:Pre:=fun l R=>∃(ns:List Str) (d:Ac),l=[.is (.lst (ns.map .str)),.is (aP d)]/\d.say/\ns.length<=40/\R=.is fun p=>p=.bl (Fu ns d).isSome
noncomputable def Zj (k:Nat)(q:Sm):Sm:=if k=1 then q.join else if k=2 then q.tell else q.take
def OT:Pre:=fun l R=>∃(s:Ls) (a:Addr) (t:OV) (x:Str) (k:Nat),l=[.ow true t,.is (.str x),.is (.int k)]/\DD s a t/\x∈s.sn/\s.sn.length=s.sq.length/\(k=1∨k=2∨k=3)/\R=.mt fun p t'=>p=.A8/\DD ⟨s.row,s.ln,s.ll,s.sn,s.sq.modify (s.sn.idxOf x) (Zj k)⟩ a t'
def Qo:Pre:=fun l R=>∃(s:Ls) (a:Addr) (t:OV) (d:Ac),l=[.ow true t,.is (aP d)]/\DD s a t/\s.Ok/\d.say/\s.sn.length<=1000/\R=.mt (Dn (fun s t=>DD s a t) s (Fo s d))
def ZL:Pre:=fun l R=>∃(s:Ls) (a:Addr) (t:OV) (x r:Str),l=[.ow true t,.is (.str x),.is (.str r)]/\DD s a t/\s.Ok/\Cb x/\Cb r/\s.sn.length<=1000/\R=.mt (Dn (fun s t=>DD s a t) s (FD s x r))
def QP:Pre:=fun l R=>∃(s:Ls) (a:Addr) (t:OV) (e:LE),l=[.ow true t,.is e.P]/\DD s a t/\s.Ok/\e.say/\s.sn.length<=1000/\R=.mt (Dn (fun s t=>DD s a t) s (En s e))
def WY:Pre:=fun l R=>l=[.AM]/\R=.is fun p=>∃r,p=.str r/\r∈Le
noncomputable def Hl (s:Ls):PV:=.B1 k3 [.lst (s.row.map .str),.B1 (An s.ln) (s.ll.map Lp.P),.B1 (An s.sn) (s.sq.map fun q=>.lst (GO q))]
theorem kW (h:R2 kf us s.sq):(Bb s a aL aS us).pv=Hl s:=by
 have e:OV.Cw us=s.sq.map fun q=>.lst (GO q):=by
  rw[V9];apply ao;intro n;rw[BU,BU];have f:=h.1;cases c:us[n]? with
  | none=>rw[Kl (by have:=List.getElem?_eq_none_iff.mp c;omega)];rfl
  | some u=>
   have hn:=(List.getElem?_eq_some_iff.mp c).1;have d:=BC (l:=s.sq) (i:=n) (by omega);obtain⟨b,rfl⟩:=h.2 n u _ c d;rw[d];show some _=some _;rw[yi]
 unfold Bb Hl;rw[OV.pv,OV.Cw,OV.Cw,OV.Cw,OV.Cw,OV.pv,OV.pv,OV.pv,cM,e]
theorem vn (e:LE):Fx e.P=true:=by
 cases e with
 | CT d=>cases d <;> rfl
 | _=>rfl
def XT:Pre:=fun l R=>∃(s:Ls) (m:Nat),l=[.AM,.is (Hl s),.is (.int m)]/\s.Ok/\s.ln.length<=5/\s.sn.length<=1000/\s.row.length<=m/\(m=9∨m=40)/\R=.is fun p=>∃e s',p=LE.P e/\En s e=some s'/\e.say/\s'.ln.length<=5/\s'.row.length<=m
noncomputable def Tb (K:ZHP)(S:Addr)(c:GC):Bool:=PySem.W.exmOne K (.ref c.noName) (.ref S) == some true && (PySem.W.exmOne K (.ref c.there) (.ref S) == some true && (PySem.W.exmOne K (.ref c.gone) (.ref S) == some true && (PySem.W.exmOne K (.ref c.P8) (.ref S) == some true && PySem.W.exmOne K (.ref c.full) (.ref S) == some true)))
theorem ye {K:ZHP}{e:Ex}(h:Tb K S c=true)(hd:d.Aw c ns=some e):PySem.W.exmOne K (.ref e.C) (.ref S)=some true:=by
 unfold Tb at h;simp only[Df,ZBJ] at h;obtain⟨h1,h2,b,a,f⟩:=h;cases d with
 | put x i=>
  simp only[Ac.Aw] at hd;split at hd
  ·cases hd;exact h1
  ·split at hd
   ·cases hd;exact h2
   ·split at hd
    ·cases hd;exact a
    ·split at hd
     ·cases hd;exact f
     ·cases hd
 | take x=>
  simp only[Ac.Aw] at hd;split at hd
  ·cases hd;exact b
  ·cases hd
 | move x i=>
  simp only[Ac.Aw] at hd;split at hd
  ·cases hd;exact b
  ·split at hd
   ·cases hd;exact a
   ·cases hd
 | turn lo hi=>
  simp only[Ac.Aw] at hd;split at hd
  ·cases hd;exact a
  ·split at hd
   ·cases hd;exact a
   ·cases hd
theorem D9.nd {s:Ls}{C T a:Addr}{t:OV}(h:D9 s C T a t):∃nk us,t=.nd nk a us:=by
 obtain⟨dx,aL,aS,us,_,rfl⟩:=h;exact⟨_,_,rfl⟩
theorem DD.nd {s:Ls}{a:Addr}{t:OV}(h:DD s a t):∃nk us,t=.nd nk a us:=by
 obtain⟨aL,aS,us,_,rfl⟩:=h;exact⟨_,_,rfl⟩
theorem Dn.nd {T:Ls->OV->Prop}{a:Addr}{s:Ls}{o:Option Ls}{p:PV}{t:OV}(h:Dn T s o p t)(b:∀s t,T s t->∃nk us,t=.nd nk a us):∃nk us,t=.nd nk a us:=by
 rcases h with⟨s',_,_,h⟩|⟨_,_,h⟩
 ·exact b _ _ h
 ·exact b _ _ h
theorem ZV (ns:List Str):(An ns).map HC=ns.map PV.str:=by
 unfold An;rw[QF];rfl
section
variable [Xw]
theorem NU {lt:Bool}{k:PV->OV->Prop}(hi:ss[i]?=some (.ow lt t))(h:Wm ss i lt t te fun p t'=>(∃nk a us,t'=.nd nk a us)/\k p t'):Ws ss (Fp te) nx (.mt k):=⟨fun E D σ F H S hn j=>
 h.go E σ F H _ S fun v p t' F1 H1 d r AK=>by
  obtain⟨⟨nk,a0,us,e⟩,kk⟩:=AK;subst e;have l:i<ss.length:=(List.getElem?_eq_some_iff.mp hi).1;obtain⟨g,e0,b,DC,c⟩:=d.st.ok i (.ow lt (.nd nk a0 us)) (by rw[Cm l]);have m:g=.ref a0:=by cases b;rfl
  subst m;exact j v F1 H1 d.st.toFin ⟨p,.nd nk a0 us,r,b,DC,fun a f=>⟨(c a f).1,(c a f).2.imp id fun z=>z.2⟩,kk⟩⟩
theorem ZFD {lt:Bool}{c d:TT}{k:Bool->OV->Prop}(h:N7 ss i lt t c fun b t'=>b=false/\k false t'):N7 ss i lt t (RZ c d) k:=⟨fun E σ F H Q S q=>
 h.go E σ F H _ S fun b t' F1 H1 a AK=>by
  obtain⟨e,kk⟩:=AK;subst e;rw[o5 (by decide)];exact q false t' F1 H1 a kk⟩
theorem Pw {lt:Bool}{K:ZHP}{k:List Nat->OV->Prop}(hi:ss[i]?=some (.ow lt (Bg s C a dx aL aS us)))(b:CI K C)(c:Be K C "standing")(h:k ([]++[0]) (.fz (.lst (s.row.map .str)))):Wl ss i (Bg s C a dx aL aS us) (KO K (BD i) "standing") k:=Uc (DE hi ⟨C,dx,JG,a,_,0,_,rfl,b,c,by decide +kernel,rfl,h⟩)
theorem Jo {lt:Bool}{K:ZHP}{k:List Nat->OV->Prop}(hi:ss[i]?=some (.ow lt (Bg s C a dx aL aS us)))(b:CI K C)(c:Be K C "running")(h:k ([]++[1]) (.nd (.B1 (An s.ln)) aL (CG s.ll))):Wl ss i (Bg s C a dx aL aS us) (KO K (BD i) "running") k:=Uc (DE hi ⟨C,dx,JG,a,_,1,_,rfl,b,c,by decide +kernel,rfl,h⟩)
theorem TK {lt:Bool}{K:ZHP}{k:List Nat->OV->Prop}(hi:ss[i]?=some (.ow lt (Bg s C a dx aL aS us)))(b:CI K C)(c:Be K C "tallies")(h:k ([]++[2]) (.nd (.B1 (An s.sn)) aS us)):Wl ss i (Bg s C a dx aL aS us) (KO K (BD i) "tallies") k:=Uc (DE hi ⟨C,dx,JG,a,_,2,_,rfl,b,c,by decide +kernel,rfl,h⟩)
theorem MW {lt:Bool}{k:List Nat->OV->Prop}(hi:ss[i]?=some (.ow lt (Bb s a aL aS us)))(h:k ([]++[0]) (.fz (.lst (s.row.map .str)))):Wl ss i (Bb s a aL aS us) (J7 (BD i) (tC (V.str "row"))) k:=G8 (DE hi ⟨k3,a,_,rfl,Hj ⟨.inr "row", 0,_,rfl,by decide +kernel,rfl,h⟩⟩)
theorem Oi {lt:Bool}{k:List Nat->OV->Prop}(hi:ss[i]?=some (.ow lt (Bb s a aL aS us)))(h:k ([]++[1]) (.nd (.B1 (An s.ln)) aL (CG s.ll))):Wl ss i (Bb s a aL aS us) (J7 (BD i) (tC (V.str "live"))) k:=G8 (DE hi ⟨k3,a,_,rfl,Hj ⟨.inr "live", 1,_,rfl,by decide +kernel,rfl,h⟩⟩)
theorem RI {lt:Bool}{k:List Nat->OV->Prop}(hi:ss[i]?=some (.ow lt (Bb s a aL aS us)))(h:k ([]++[2]) (.nd (.B1 (An s.sn)) aS us)):Wl ss i (Bb s a aL aS us) (J7 (BD i) (tC (V.str "sums"))) k:=G8 (DE hi ⟨k3,a,_,rfl,Hj ⟨.inr "sums", 2,_,rfl,by decide +kernel,rfl,h⟩⟩)
theorem JS {lt:Bool}{k:Bool->List PV->Prop}(e:ss[0]?=some (.ow lt (Bg s C a dx aL aS us)))(h1:ss[1]?=some (.is (.str x)))(c:s.ln.length=s.ll.length)(d:k true ((E5 s x).map .str)):Wq ss (Ml C "coming" (BE (Mh C)) [] E0 (BD 0) (Ag (BD 1) BM)) k:=
 BX (ZCD (i:=0) (DE e ⟨dx,JG,a,_,rfl,by decide +kernel,ZCH (AH h1 (ZF0 ⟨_,⟨s,_,x,rA (fun p=>[Slot.is p,.is (.str x)]) vV,c,rfl⟩,fun _ b=>b▸⟨ZAz _,_,.inr ⟨rfl,d⟩⟩⟩))⟩))
variable {ta tb:TE}{K:ZHP}{xs:List PV}
theorem ZA4 (hi:ss[i]?=some (.own xs))(L:xs.length<=99999)
  (h:Wp ss ta fun q=>∃n:Nat,q=.int n/\Wp ss tb fun j=>∃m:Nat,∃y,j=.int m/\xs[m]?=some y/\n<xs.length/\nx (ss.set i (.own ((xs.eraseIdx m).take n++y::(xs.eraseIdx m).drop n)))) :
  Ws ss (HN (JE K "list" To (BD i) (Ag ta (Ag (JE K "list" Qs (BD i) (Ag tb BM)) BM)))) nx R:=⟨fun E D σ F H S hn M=>by
 obtain⟨l,I0,e,P,O,B,I⟩:=S.ok i _ hi;refine⟨_,e,.inl ⟨rfl,_,AN.of B⟩,h.go E σ F H _ S fun G J F1 H1 g r ⟨n,x,h2⟩=>?_⟩;subst x;cases r.inv;obtain⟨s,o,a,_,_,HP,_⟩:=g.st.ok i _ hi;rw[e] at a;cases a;refine⟨_,e,.inl ⟨rfl,_,AN.of HP⟩,h2.go E σ F1 H1 _ g.st fun C j F2 H2 f p ⟨m,y,z,k,Jk,kk⟩=>?_⟩;subst z;cases p.inv;obtain⟨s,vs,a,Cv,C7,t,c⟩:=f.st.ok i _ hi;rw[e] at a;cases a;have N:=c.length;obtain⟨w,hw,b⟩:=c.get k;have u:m<xs.length:=(List.getElem?_eq_some_iff.mp k).1;refine⟨l,vs,m,m,w,rfl,rfl,t,by omega,by omega,?_,hw,?_⟩
 ·exact pM (by omega)
 have d:=c.erase m;have A:=d.length;have v:(xs.eraseIdx m).length=xs.length - 1:=mX u;refine⟨l,vs.eraseIdx m,n,w,rfl,rfl,AO,by omega,by omega,OF (by omega),?_⟩;rw[Ki,sU];exact hn _ σ F2 _ kk (f.st.put hi e Cv C7 ((d.take n).append (.cons b (d.drop n)))) (g.ff.trans f.ff)⟩
end
theorem ug (K:ZHP):PySem.W.kitOne K (.type "NoneType") (.type "bool")=some false:=by
 unfold PySem.W.kitOne;rw[o5 (by decide)];with_unfolding_all rfl
noncomputable def LE.tag:LE->Str
 | .Fq _ _ => "begin"
 | .tell _ _ => "tell"
 | .over _ => "over"
 | .CT (.put _ _) => "put"
 | .CT (.take _) => "take"
 | .CT (.move _ _) => "move"
 | .CT (.turn _ _) => "turn"
noncomputable def LE.tl:LE->List PV
 | .Fq x r=>[.str x,.str r]
 | .tell x y=>[.str x,.str y]
 | .over x=>[.str x]
 | .CT (.put x i)=>[.str x,.int i]
 | .CT (.take x)=>[.str x]
 | .CT (.move x i)=>[.str x,.int i]
 | .CT (.turn a b)=>[.int a,.int b]
theorem LE.cN (e:LE):e.P=.tup (.str e.tag::e.tl):=by
 cases e with
 | CT d=>cases d <;> rfl
 | _=>rfl
theorem qR {f:LE}(h1:e.tl.length=2)(h2:f.tl.length=2)(k:e.tag=f.tag)(m:e.say)(l:f.say):∃g:LE,g.say/\PV.tup (Du (.str e.tag::e.tl) none (some 2)++Du (.str f.tag::f.tl) (some 2) none)=g.P:=by
 have h:∀(t u:Str) (a b c d:PV),Du [.str t,a,b] none (some 2)++Du [.str u,c,d] (some 2) none=[.str t,a,d]:=fun t u a b c d=>rfl;cases e with
 | Fq x r=>cases f with
  | Fq y q=>exact⟨.Fq x q,⟨m.1,l.2⟩,by simp only[LE.tl,h];rfl⟩
  | tell y q=>exact absurd k (by simp only[LE.tag];decide +kernel)
  | over y=>cases h2
  | CT d=>cases d <;> first | (cases h2;done) | (exact absurd k (by simp only[LE.tag];decide +kernel))
 | tell x r=>cases f with
  | tell y q=>exact⟨.tell x q,⟨m.1,l.2⟩,by simp only[LE.tl,h];rfl⟩
  | Fq y q=>exact absurd k (by simp only[LE.tag];decide +kernel)
  | over y=>cases h2
  | CT d=>cases d <;> first | (cases h2;done) | (exact absurd k (by simp only[LE.tag];decide +kernel))
 | over x=>cases h1
 | CT d=>cases d with
  | put x i=>cases f with
   | CT d=>cases d with
    | put y j=>exact⟨.CT (.put x j),⟨m.1,l.2⟩,by simp only[LE.tl,h];rfl⟩
    | take y=>cases h2
    | _=>exact absurd k (by simp only[LE.tag];decide +kernel)
   | over y=>cases h2
   | _=>exact absurd k (by simp only[LE.tag];decide +kernel)
  | take x=>cases h1
  | move x i=>cases f with
   | CT d=>cases d with
    | move y j=>exact⟨.CT (.move x j),⟨m.1,l.2⟩,by simp only[LE.tl,h];rfl⟩
    | take y=>cases h2
    | _=>exact absurd k (by simp only[LE.tag];decide +kernel)
   | over y=>cases h2
   | _=>exact absurd k (by simp only[LE.tag];decide +kernel)
  | turn x i=>cases f with
   | CT d=>cases d with
    | turn y j=>exact⟨.CT (.turn x j),⟨m.1,l.2⟩,by simp only[LE.tl,h];rfl⟩
    | take y=>cases h2
    | _=>exact absurd k (by simp only[LE.tag];decide +kernel)
   | over y=>cases h2
   | _=>exact absurd k (by simp only[LE.tag];decide +kernel)
theorem ZBa (h:JR ns es i)(k:JR ns es j):i=j:=by
 have lt:∀{i j:Nat},JR ns es i->JR ns es j->¬ i<j:=fun {i j} h k lt=>by
  obtain⟨s1,b,f,d,c1⟩:=h;obtain⟨s2,l,a,c,c2⟩:=k;obtain⟨hi,q⟩:=List.getElem?_eq_some_iff.mp d;have g:=(List.getElem?_eq_some_iff.mp c).1;have e:es.take j=es.take i++[b]++(es.take j).drop (i+1):=by
   conv=>lhs;rw[<- Km (i+1) (es.take j),List.take_take,show min (i+1) j=i+1 by omega,QK hi,q]
  rw[e,X8,OS f,c1] at a;cases a
 have:=lt h k;have:=lt k h;omega
def Ql (ns:List Str)(es:List LE)(p:PV):Prop:=(p=.A8/\∃s,runs (Cs ns) es=some s)∨∃i:Nat,p=.int i/\JR ns es i
theorem zb {p q:PV}(h:Ql ns es p)(k:Ql ns es q):p=q:=by
 rcases h with⟨rfl,s,h⟩|⟨i,rfl,h⟩ <;> rcases k with⟨rfl,s',k⟩|⟨j,rfl,k⟩
 ·rfl
 ·exact absurd h (ZG k)
 ·exact absurd k (ZG h)
 ·rw[ZBa h k]
def Wh:Pre:=fun l R=>∃(tp:Bool) (ns:List Str) (es:List LE),l=[.is (LJ tp (ns.map .str)),.is (.lst (es.map LE.P))]/\HS 40 ns/\(∀e∈es,e.say)/\es.length<=200/\R=.is (Ql ns es)
def Vb:Pre:=fun l R=>∃(ns:List Str) (es:List LE),l=[.is (.lst (ns.map .str)),.is (.lst (es.map LE.P))]/\HS 40 ns/\(∀e∈es,e.say)/\es.length<=200/\R=.is (Ql ns es)
def Zd:Pre:=fun l R=>∃(es:List LE),l=[.AM,.is (.lst (es.map LE.P))]/\1<es.length/\es.length<=200/\(∀e∈es,e.say)/\R=.new fun xs=>∃EB:List LE,xs=EB.map LE.P/\(∀e∈EB,e.say)/\EB.length<=es.length+1
def Y5 (K:ZHP):Pre:=fun l R=>∃(sc:List Int),l=[.raw (Eb K sc),.is (.int 0)]/\sc.length<=63/\R=.is fun p=>∃(ns:List Str) (es:List LE) (s:Ls),p=.tup [.lst (ns.map .str),.lst (es.map LE.P),.A8,Hl s]/\HS 40 ns/\(∀e∈es,e.say)/\es.length<=110/\runs (Cs ns) es=some s
end Fz
set_option maxHeartbeats 8000000
namespace Pf
open L2 Lw
variable {w:World}{mg:ZHR}{A7 AI Au Ay BA BB BL By C Cz GQ IB Qm Ro S Si T8 TF TN f:Addr}{ZA2 ZE1 ZF9 fd sJ ue xv:FuncData}{α:Type}{UO Wk ZH:Tok}{l:PySem.W.OpenLaw}
abbrev St:=L2.St
noncomputable def top (i:Nat):Stmt:=PySem.Challenge.pw_stirround_k24_logs_bent.main.body.getD i (.Pass ⟨0,0,0,0⟩)
noncomputable abbrev aC:Stmt:=top 43
noncomputable abbrev Vv:Stmt:=top 44
noncomputable abbrev UL:Stmt:=top 45
noncomputable abbrev Vh:Stmt:=top 46
noncomputable abbrev XC:Stmt:=top 47
noncomputable abbrev aQ:Stmt:=top 48
noncomputable abbrev UI:Stmt:=top 49
noncomputable abbrev Ve:Stmt:=top 61
noncomputable abbrev Oc:Stmt:=top 54
noncomputable abbrev Xm:Stmt:=top 62
noncomputable abbrev Rb:Stmt:=top 50
noncomputable abbrev Qh:Stmt:=top 55
noncomputable abbrev UG:Stmt:=top 56
noncomputable abbrev Xj:Stmt:=top 51
noncomputable abbrev Rx:Stmt:=top 53
noncomputable abbrev Va:Stmt:=top 57
noncomputable abbrev VG:Stmt:=top 58
noncomputable abbrev Z0:Stmt:=top 52
noncomputable abbrev WH:Stmt:=top 59
noncomputable abbrev SM:Stmt:=top 60
noncomputable abbrev Ze:Stmt:=top 64
noncomputable abbrev UT:Stmt:=JJ (top 40) 0
noncomputable abbrev aX:Stmt:=JJ (top 41) 0
noncomputable abbrev V7:Stmt:=top 33
noncomputable abbrev X1:Stmt:=top 30
noncomputable abbrev RV:Stmt:=top 14
noncomputable abbrev Y0:Stmt:=JJ (top 40) 2
noncomputable abbrev UQ:Stmt:=JJ (top 40) 7
noncomputable abbrev T4:Stmt:=top 35
noncomputable abbrev Wv:Stmt:=top 16
noncomputable abbrev Vt:Stmt:=top 32
noncomputable abbrev WT:Stmt:=JJ (top 40) 3
noncomputable abbrev Uq:Stmt:=JJ (top 40) 4
noncomputable abbrev ZS:Stmt:=top 26
noncomputable abbrev VY:Stmt:=top 27
noncomputable abbrev Xy:Stmt:=top 18
noncomputable abbrev Yb:Stmt:=top 36
noncomputable abbrev Ug:Stmt:=top 34
noncomputable abbrev Xl:Stmt:=top 31
noncomputable abbrev Vo:Stmt:=JJ (top 40) 6
noncomputable abbrev Y9:Stmt:=top 20
noncomputable abbrev VC:Stmt:=top 21
noncomputable abbrev UB:Stmt:=top 22
noncomputable abbrev ZT:Stmt:=top 19
noncomputable abbrev Uh:Stmt:=top 25
noncomputable abbrev YX:Stmt:=top 23
noncomputable abbrev SS:Stmt:=top 24
noncomputable abbrev WU:Stmt:=top 17
noncomputable abbrev Vi:Stmt:=JJ (top 40) 5
noncomputable abbrev aB:Stmt:=JJ (top 40) 1
noncomputable abbrev UY:Stmt:=top 39
noncomputable abbrev Yx:Stmt:=top 38
noncomputable abbrev X2:Stmt:=top 65
noncomputable abbrev Zu:Stmt:=top 66
noncomputable abbrev MO:Stmt:=top 67
variable {P:Program}{K:ZHP}{base:Heap}
def eX {us:List α}(h:us.length=1):∃a,us=[a]:=by
 rcases us with _ | ⟨a,_ | ⟨b,us⟩⟩
 ·cases h
 ·exact⟨a,rfl⟩
 ·cases h
def ln2 {us:List α}(h:us.length=2):∃a b,us=[a,b]:=by
 rcases us with _ | ⟨a,us⟩
 ·cases h
 ·obtain⟨b,rfl⟩:=eX (Tz h);exact⟨a,b,rfl⟩
def fQ {us:List α}(h:us.length=3):∃a b c,us=[a,b,c]:=by
 rcases us with _ | ⟨a,us⟩
 ·cases h
 ·obtain⟨b,c,rfl⟩:=ln2 (Tz h);exact⟨a,b,c,rfl⟩
def dS {us:List α}(h:us.length=4):∃a b c d,us=[a,b,c,d]:=by
 rcases us with _ | ⟨a,us⟩
 ·cases h
 ·obtain⟨b,c,d,rfl⟩:=fQ (Tz h);exact⟨a,b,c,d,rfl⟩
def ko {us:List α}(h:us.length=5):∃a b c d e,us=[a,b,c,d,e]:=by
 rcases us with _ | ⟨a,us⟩
 ·cases h
 ·obtain⟨b,c,d,e,rfl⟩:=dS (Tz h);exact⟨a,b,c,d,e,rfl⟩
def pF {us:List α}(h:us.length=6):∃a b c d e f,us=[a,b,c,d,e,f]:=by
 rcases us with _ | ⟨a,us⟩
 ·cases h
 ·obtain⟨b,c,d,e,f,rfl⟩:=ko (Tz h);exact⟨a,b,c,d,e,f,rfl⟩
local macro_rules | `(tactic| walk_at "bD1")=>`(tactic| (intro _ _ _ _ _ _ us hl;obtain⟨_,e⟩:=eX hl;subst e;rfl))
local macro_rules | `(tactic| walk_at "bD2")=>`(tactic| (intro _ _ _ _ _ _ us hl;obtain⟨_,_,e⟩:=ln2 hl;subst e;rfl))
local macro_rules | `(tactic| walk_at "bD3")=>`(tactic| (intro _ _ _ _ _ _ us hl;obtain⟨_,_,_,e⟩:=fQ hl;subst e;rfl))
local macro_rules | `(tactic| walk_at "bD4")=>`(tactic| (intro _ _ _ _ _ _ us hl;obtain⟨_,_,_,_,e⟩:=dS hl;subst e;rfl))
local macro_rules | `(tactic| walk_at "bD5")=>`(tactic| (intro _ _ _ _ _ _ us hl;obtain⟨_,_,_,_,_,e⟩:=ko hl;subst e;rfl))
local macro_rules | `(tactic| walk_at "bD6")=>`(tactic| (intro _ _ _ _ _ _ us hl;obtain⟨_,_,_,_,_,_,e⟩:=pF hl;subst e;rfl))
abbrev nS (K:ZHP)(x:Str)(v:Value):Prop:=PySem.W.nsIn K mainGlobals x=some (some v)
abbrev nN (K:ZHP)(x:Str):Prop:=PySem.W.nsIn K mainGlobals x=some none
noncomputable abbrev ZY:Stmt:=MI (top 5)
local macro_rules | `(tactic| walk_at "z1")=>`(tactic| exact⟨rfl,rfl,rfl,by decide +kernel,rfl,by decide +kernel,by decide +kernel⟩)
local macro_rules | `(tactic| walk_at "z2")=>`(tactic| exact⟨rfl,by decide +kernel,by decide +kernel,rfl,rfl,by decide +kernel,by decide +kernel,by decide +kernel,by decide +kernel⟩)
def qk:As ["self","name"] ["self","name"] (Ae ZY):=by walk_at "z1"
def yR (F:AE K "__init__" "Gone.__init__" ZY f fd)(b:Binds K fd ["self","name"] [])(c:ID K C f "name")(a:LH K S)(Hg:mg "StirError"=some (.ref S)):FJ P w K mg base C "name" := by
 refine⟨f,fd, "name", c,F.ok (k:=0) qk My (fun AY A outer s H vs Q E d h=>?_),b⟩;refine⟨_,?_,N4 (N:=["self","name"]) rfl h⟩;exact G6 (Lq (MN (S:=S) a (by rfl) Hg c.ex (GB (pv 0) (GB (Ob (pv 1) (by decide)) LO)))) (G6 (Md c (pv 0) (pv 1) rfl) Kt)
noncomputable abbrev Xg:Stmt:=MI (top 8)
def xw:As ["self","number"] ["self","number"] (Ae Xg):=by walk_at "z1"
def xn (F:AE K "__init__" "NoLog.__init__" Xg f fd)(b:Binds K fd ["self","number"] [])(c:ID K C f "number")(a:LH K S)(Hg:mg "StirError"=some (.ref S)):FJ P w K mg base C "number" := by
 refine⟨f,fd, "number", c,F.ok (k:=0) xw My (fun AY A outer s H vs Q E d h=>?_),b⟩;refine⟨_,?_,N4 (N:=["self","number"]) rfl h⟩;exact G6 (Lq (MN (S:=S) a (by rfl) Hg c.ex (GB (pv 0) (GB (ZCW (pv 1) (by decide) (by decide)) LO)))) (G6 (Md c (pv 0) (pv 1) rfl) Kt)
noncomputable abbrev XD:Stmt:=MI (top 3)
def ZAG:As ["self","name"] ["self","name"] (Ae XD):=by walk_at "z1"
def ZBy (F:AE K "__init__" "NoName.__init__" XD f fd)(b:Binds K fd ["self","name"] [])(c:ID K C f "name")(a:LH K S)(Hg:mg "StirError"=some (.ref S)):FJ P w K mg base C "name" := by
 refine⟨f,fd, "name", c,F.ok (k:=0) ZAG My (fun AY A outer s H vs Q E d h=>?_),b⟩;refine⟨_,?_,N4 (N:=["self","name"]) rfl h⟩;exact G6 (Lq (MN (S:=S) a (by rfl) Hg c.ex (GB (pv 0) (GB (Ob (pv 1) (by decide)) LO)))) (G6 (Md c (pv 0) (pv 1) rfl) Kt)
noncomputable abbrev Yr:Stmt:=MI (top 6)
def xk:As ["self","at"] ["self","at"] (Ae Yr):=by walk_at "z1"
def rR (F:AE K "__init__" "NoPlace.__init__" Yr f fd)(b:Binds K fd ["self","at"] [])(c:ID K C f "at")(a:LH K S)(Hg:mg "StirError"=some (.ref S)):FJ P w K mg base C "at" := by
 refine⟨f,fd, "at", c,F.ok (k:=0) xk My (fun AY A outer s H vs Q E d h=>?_),b⟩;refine⟨_,?_,N4 (N:=["self","at"]) rfl h⟩;exact G6 (Lq (MN (S:=S) a (by rfl) Hg c.ex (GB (pv 0) (GB (Ob (pv 1) (by decide)) LO)))) (G6 (Md c (pv 0) (pv 1) rfl) Kt)
noncomputable abbrev YZ:Stmt:=MI (top 7)
def ZEm:As ["self","rule"] ["self","rule"] (Ae YZ):=by walk_at "z1"
def ZBc (F:AE K "__init__" "NoRule.__init__" YZ f fd)(b:Binds K fd ["self","rule"] [])(c:ID K C f "rule")(a:LH K S)(Hg:mg "StirError"=some (.ref S)):FJ P w K mg base C "rule" := by
 refine⟨f,fd, "rule", c,F.ok (k:=0) ZEm My (fun AY A outer s H vs Q E d h=>?_),b⟩;refine⟨_,?_,N4 (N:=["self","rule"]) rfl h⟩;exact G6 (Lq (MN (S:=S) a (by rfl) Hg c.ex (GB (pv 0) (GB (Ob (pv 1) (by decide)) LO)))) (G6 (Md c (pv 0) (pv 1) rfl) Kt)
noncomputable abbrev UX:Stmt:=MI (top 4)
def ZDp:As ["self","name"] ["self","name"] (Ae UX):=by walk_at "z1"
def pq (F:AE K "__init__" "There.__init__" UX f fd)(b:Binds K fd ["self","name"] [])(c:ID K C f "name")(a:LH K S)(Hg:mg "StirError"=some (.ref S)):FJ P w K mg base C "name" := by
 refine⟨f,fd, "name", c,F.ok (k:=0) ZDp My (fun AY A outer s H vs Q E d h=>?_),b⟩;refine⟨_,?_,N4 (N:=["self","name"]) rfl h⟩;exact G6 (Lq (MN (S:=S) a (by rfl) Hg c.ex (GB (pv 0) (GB (Ob (pv 1) (by decide)) LO)))) (G6 (Md c (pv 0) (pv 1) rfl) Kt)
open Fz
def ZWM (t:String):Lean.MacroM (Lean.TSyntax `tactic):=do
 let g:Lean.TSyntax `tactic←`(tactic| fail)
 let k←`(tactic| case wk=>rfl)
 let n (s:String):=`(tactic| walk_at $(Lean.quote s):str)
 (t.splitOn " ").foldrM (fun s r=>do
  let l:=((s.drop 1).toString.splitOn "/").map fun x=>Lean.mkIdent (`Fz++x.toName)
  let h:Lean.Ident:=l.getLast!
  let c:=s.front
  let w:=(h.getId.getString!.toLower.replace "o" "e").replace "i" "e"
  let z←if c=='j' then `($h ?wj ?wk ?_) else if c=='k'||c=='K' then `($h ?wk ?_) else `($h ?_)
  let z←l.dropLast.foldrM (fun(f:Lean.Ident) (z:Lean.Term)=>`($f ($z))) z
  let p←if c=='e' then `(tactic| show ∃_,_=$h _/\_) else if c=='s' then `(tactic| show $h _ _ _) else `(tactic| refine' $z)
  let p←if c=='K'||c=='R'||c=='j' then pure p else `(tactic| with_reducible $p:tactic)
  let q←if c=='e' then `(tactic| refine⟨_,rfl,?_⟩) else if c=='s' then n w else if c=='n' then n "wn" else if c=='p' then n "wp" else if c=='k'||c=='K' then pure k else if c=='j' then `(tactic| ((case wj=>rfl);$k:tactic)) else `(tactic| skip)
  `(tactic| first | ($p:tactic;$q:tactic) | $r:tactic)) g
local macro_rules | `(tactic| walk_at "wp")=>ZWM "kYm kD3/Sw/DE kD3/Pt/DE kD3/Sw/Sw/DE kD3/Pt/Pt/DE kD3/Pt/Sw/DE kYm kAH rBw rHj rCi rRp rYY rG0 rWI ruF rjb rkK rP2 kZFm rD6 roA rFL rrl rVN rPe rTZ rZBs rfJ rfo kw8 rYu KZEj KqC klY KZAM KSh"
local macro_rules | `(tactic| walk_at "wn")=>ZWM "rzM rZFr rZAI rya rgR KNX jZBC"
local macro_rules | `(tactic| walk_at "wq")=>do
 let z←ZWM "kFC kRA kGH rZDy"
 `(tactic| first | $z:tactic | (refine BX (FV ?_);walk_at "wn") | (refine BX ?_;walk_at "wp"))
local macro_rules | `(tactic| walk_at "wz")=>`(tactic| first
 | ((with_reducible refine' cn ?wk ?_);(case wk=>rfl))
 | (with_reducible refine' bW ?_)
 | (refine MM (FV ?_);walk_at "wn")
 | (refine MM ?_;walk_at "wp"))
local macro_rules | `(tactic| walk_at "wt")=>ZWM "rCt rFc rIb rZC4 rHy"
local macro_rules | `(tactic| walk_at "we")=>ZWM "rLd rLA rnQ rZFs rZB5 roh rZEQ rRn"
local macro_rules | `(tactic| walk_at "w")=>do
 let z←ZWM "rAl rEi rCC rAS kZDF kcG kZBx nOf pIq kqg nNJ pCq"
 let z1←ZWM "eOV.tp eOV.fz"
 let z2←ZWM "sWn sWq sWz sWt sWe sWo sWi"
 let z3←ZWM "ePV.int ePV.str ePV.bl"
 `(tactic| first | $z1:tactic | ((with_reducible show ∃_ _,_=OV.nd NK.lst _ _/\_);refine⟨_,_,rfl,?_⟩) | ((with_reducible show ∃_ _ _,_=PV.int _/\_/\_/\_);refine⟨_,_,_,rfl,rfl,rfl,?_⟩) | ((with_reducible show Wp _ _ _);first | walk_at "wp" | (refine FV ?_;walk_at "wn")) | $z2:tactic | ((with_reducible show Ws _ _ _ _);$z:tactic) | $z3:tactic | ((with_reducible show(_:Bool)=_/\_);refine⟨rfl,?_⟩) | ((with_reducible show ∃_ _,_=PV.int _/\L2.Bs _ _=some _/\_);refine⟨_,_,rfl,rfl,?_⟩) | ((with_reducible show ∃_,(_=PV.lst _/\_)∨(_=PV.tup _/\_));first | refine⟨_,.inl ⟨rfl,?_⟩⟩|refine⟨_,.inr ⟨rfl,?_⟩⟩) | ((with_reducible show ∃_,_=List.map _ _/\_);first | refine⟨_,rfl,?_⟩|refine⟨[],rfl,?_⟩))
local macro_rules | `(tactic| walk_at "ww")=>`(tactic| repeat walk_at "w")
def Q2:As ["script","k","cell","rest_here"] ["script","k"] (Ae aC):=by walk_at "z1"
variable (Aj:mg "len"=none)(P1:AG P w K mg base "_law_letters" 1 ["number"] (kX))(BV:AG P w K mg base "_law_take" 1 ["pot","many"] (IC))(JH:AG P w K mg base "_law_name" 2 ["pot","names"] (Pq K))(HR:mg "range"=none)(Ua:AG P w K mg base "_law_names" 3 ["pot","many"] (jH))(DG:mg "tuple"=none)(Vq:AG P w K mg base "_law_deed" 3 ["pot","row","most"] (SK))(ZC:AG P w K mg base "_law_rule" 2 ["pot"] (BE WY))(X6:AG P w K mg base "_law_step" 1 ["row","loop"] (YQ))(C3:mg "list"=none)(FH:mg "sorted"=none)(Mx:mg "reversed"=none)(NT:mg "all"=none)(Mm:AG P w K mg base "_law_is_name" 1 ["text"] (Lo))(Ka:mg "int"=none)(Y8:AG P w K mg base "_law_gap" 1 ["row","gap","deed"] (bV))(Lj:AG P w K mg base "_law_counted" 1 ["state","name","place"] (Br OT))(WQ:AG P w K mg base "_law_deed_right" 2 ["row","deed"] (BE V2))(WN:AG P w K mg base "_law_done" 1 ["row","deed"] (aO))(Ys:AG P w K mg base "_law_led" 2 ["row","loop","deed"] (XX))(XM:AG P w K mg base "_law_begun" 1 ["row","rule"] (BE XG))(VB:AG P w K mg base "_law_begins" 3 ["state","name","rule"] (Br ZL))(Vf:AG P w K mg base "_law_stirred" 4 ["state","deed"] (Br Qo))(NV:AG P w K mg base "_law_goes" 5 ["state","entry"] (Br QP))(ZW:AG P w K mg base "_law_good_entry" 4 ["pot","state","most"] (BE XT))(Ly:AG P w K mg base "_law_pot" 1 ["script","k"] (T1 K))(ZJ:AG P w K mg base "_law_row" 4 ["pot","most"] (YR))(WZ:mg "max"=none)(XJ:mg "min"=none)(BR:CI K A7)(Co:Be K A7 "running")(E6:Be K A7 "standing")(GS:Be K A7 "tallies")(GU:CI K AI)(Mo:Be K AI "joined")(Wy:Be K AI "stood")(Mi:Be K AI "taken")(NP:Be K AI "told")(NQ:mg "RULES"=some (.ref GQ))(N2:∀H,AU K H GQ [.str "none", .str "ahead", .str "all"])(Xt:mg "NoRule"=some (.ref Cz))(Ww:FJ P w K mg base Cz "rule")(Ue:Bz P w K mg base "check_rule" 3 ["rule"] (Cf (VZ Cz)))(XR:mg "LETTERS"=some (.str "abcdefghijklmnopqrstuvwxyz" Wk))(Ui:mg "MOST_LETTERS"=some (.int 8 UO))(Yj:P5 P w K mg base AI 1 ["self","stood"] (Br (XB AI)))(WE:Bz P w K mg base "begun" 4 ["row","rule"] (Cf (Uv Cz)))(MG:AG P w K mg base "is_name" 1 ["text"] (Lo))(Yf:mg "Tally"=some (.ref AI))(VQ:mg "Gone"=some (.ref Au))(Uk:FJ P w K mg base Au "name")(MX:AG P w K mg base "coming_without" 1 ["coming","gone"] (BE RJ))(GL:Bz P w K mg base "place_of" 3 ["row","name"] (Cf (NI Au)))(Hn:ER P w K mg base A7 "coming" 2 ["self","loop"] (BE (Mh A7)))(Y4:AG P w K mg base "loop_telling" 4 ["row","loop","name"] (BE X7))(Rg:AG P w K mg base "gap_behind_put" 1 ["gap","at"] (BE Z4))(QY:AG P w K mg base "gap_behind_take" 1 ["gap","place"] (BE aA))(Vw:AG P w K mg base "joins" 1 ["loop","at"] (BE Yp))(Ur:AG P w K mg base "coming_behind" 2 ["loop","deed"] (BE WL))(X3:AG P w K mg base "gap_led" 4 ["row","gap","deed"] (BE Zf))(V1:AG P w K mg base "loop_led" 5 ["row","loop","deed"] (BE U4))(Um:mg "MOST_THINGS"=some (.int 40 ZH))(Y2:mg "Full"=some (.ref BL))(Vk:FU K BL none=true)(Vx:mg "NoName"=some (.ref BA))(YI:FJ P w K mg base BA "name")(Il:mg "NoPlace"=some (.ref Ay))(Ij:FJ P w K mg base Ay "at")(Y6:mg "There"=some (.ref BB))(Uu:FJ P w K mg base BB "name")(U5:Bz P w K mg base "check_move" 4 ["row","name","at"] (Cf (YJ ⟨BA,BB,Au,Ay,BL⟩)))(V6:Bz P w K mg base "check_put" 3 ["row","name","at"] (Cf (aK ⟨BA,BB,Au,Ay,BL⟩)))(Zb:Bz P w K mg base "check_turn" 3 ["row","low","high"] (Cf (UE ⟨BA,BB,Au,Ay,BL⟩)))(UH:Bz P w K mg base "check_deed" 5 ["row","deed"] (Cf (VS ⟨BA,BB,Au,Ay,BL⟩)))(VX:AG P w K mg base "row_turned" 1 ["row","low","high"] (BE ZD))(Qu:AG P w K mg base "row_with" 1 ["row","name","at"] (BE Vj))(QR:AG P w K mg base "row_without" 1 ["row","name"] (BE UK))(Y3:ER P w K mg base A7 "lead" 8 ["self","loop","deed"] (Br (ZX A7 AI)))(Yo:Bz P w K mg base "done" 6 ["row","deed"] (Cf (VR ⟨BA,BB,Au,Ay,BL⟩)))(JO:mg "StirError"=some (.ref IB))(aG:Tb K IB ⟨BA,BB,Au,Ay,BL⟩=true)(W8:ER P w K mg base A7 "follows_begin" 6 ["self","loop","rule"] (Br (YD A7 AI)))(Ut:ER P w K mg base A7 "follows_deed" 9 ["self","deed"] (Br (Rf A7 AI)))(Yd:ER P w K mg base A7 "follows_over" 6 ["self","loop"] (Br (W5 A7 AI)))(Zh:ER P w K mg base A7 "follows_tell" 6 ["self","loop","name"] (Br (UZ A7 AI)))(Yz:P5 P w K mg base A7 2 ["self","row"] (Br (WS A7 AI)))(aT:ER P w K mg base A7 "follows" 10 ["self","entry"] (Br (YL A7 AI)))(MR:mg "enumerate"=none)(UU:mg "Course"=some (.ref A7))(MJ:mg "NoLog"=some (.ref By))(Zt:FJ P w K mg base By "number")(Zx:Bz P w K mg base "course_of" 11 ["row","log"] (Cf (ZF A7 AI By)))(lx:TC K By=true)(ZM:PySem.W.exmOne K (.ref By) (.ref By)=some true)(UM:PySem.W.hasDictIn K By=true)(YV:PySem.W.findIn K (.ref By) "number"=some none)(Xq:AG P w K mg base "_law_bent" 2 ["pot","log"] (BE Zd))(WK:AG P w K mg base "_law_first_wrong" 6 ["first","log"] (BE Vb))(YC:AG P w K mg base "_law_log" 6 ["script","rate"] (BE (Y5 K)))(R8:AG P w K mg base "first_wrong" 12 ["row","log"] (BE Wh))(Xf:mg "bool"=none)(XE:mg "isinstance"=none)
def nI (F:AE K "_law_pot" "_law_pot" aC f fd)(m:mg "_law_pot"=some (.ref f)):
  AG P w K mg base "_law_pot" 1 ["script","k"] (T1 K):=by
 refine AG.mk F (F.binds (by walk_at "bD2")) m (F.BS (k:=0) Q2 (fun vs H Q E h=>?_) (fun AY A outer s H vs Q E r h=>?_))
 ·obtain⟨a,ns,k,rfl,b,k0,k1,q⟩:=h;rfl
 obtain⟨a,ns,k,rfl,b,k0,k1,q⟩:=h;refine⟨_,(A9 rfl (Az 2 Q2.nd A5)
   (A9 rfl (CF (Ai (AW Ff (qv 1) (BF HQ Aj (A0 (qv 0) A4))) (AA rfl (Az 2 Q2.nd (B6 Kh (AD D1 (qv 0) (qv 1)) (B6 LD (B6 LD (B6 LD (B6 Mq A5 A5) (B6 Mq A5 A5)) (B6 Mq A5 A5)) (B6 Mq A5 A5))))) Ak))
   (A9 rfl (Az 3 Q2.nd A5)
   (A9 rfl (CF (Ai (AW MH (qv 2) (B6 Mq A5 A5)) (AA rfl (Az 3 Q2.nd (qv 2))) Ak))
   (AA rfl (Aa (Im (A0 (qv 3) (A0 (B6 Kh (B6 LD (B6 EA (B6 EA (B6 Kh (qv 2) A5) (B6 LD A5 (qv 1))) A5) A5) A5) A4))))))))),?_⟩
 have i:(ns.map V.int).length=ns.length:=AQ _;refine⟨fun σ' H'=>∃c:Int,σ'=[some (.ref a),some (.int k),some (.int c),none]/\H=H'/\0<=c/\c<10 ^ 256,?_,?_⟩
 ·refine⟨_,rfl,_,rfl,a,_,rfl,.inl b,_,_,rfl,rfl,_,rfl,?_⟩;refine Ad (fun c=>?_) (fun c=>?_)
  ·have o:k<(((ns.map V.int).length:Nat):Int):=om c;rw[i] at o;have j:k.toNat<ns.length:=by omega
   have g:Bs (ns.map V.int) k=some (.int ns[k.toNat]):=OD k0 (by rw[BU,BC j] <;> rfl)
   refine⟨_,rfl,_,rfl,a,_,_,_,rfl,rfl,b,g,_,_,rfl,rfl,⟨by decide,by decide,by decide +kernel⟩,_,_,rfl,rfl,⟨by decide,by decide,by decide +kernel⟩,_,_,rfl,rfl,⟨by decide +kernel,by decide +kernel⟩,_,_,rfl,rfl,⟨by decide,by decide,by decide +kernel⟩,_,_,rfl,rfl,⟨by decide +kernel,by decide +kernel⟩,
    _,_,rfl,rfl,⟨by decide,by decide,by decide +kernel⟩,_,_,rfl,rfl,⟨by decide +kernel,by decide +kernel⟩,_,_,rfl,rfl,(by show(0:Int)<_;decide +kernel),?_⟩
   exact⟨_,rfl,rfl,M7 _ (by decide +kernel),M6 _ (by decide +kernel)⟩
  ·exact⟨0,rfl,rfl,by decide,by decide +kernel⟩
 rintro σ' H' ⟨c,rfl,rfl,c0,c1⟩;refine⟨fun σ' H'=>∃d:Int,σ'=[some (.ref a),some (.int k),some (.int c),some (.int d)]/\H=H'/\0<=d/\d<10 ^ 256,?_,?_⟩
 ·refine⟨_,rfl,_,_,rfl,rfl,⟨by decide,by decide,by decide +kernel⟩,_,_,rfl,rfl,_,rfl,?_⟩;refine Ad (fun _=>?_) (fun _=>?_)
  ·exact⟨_,rfl,c,rfl,rfl,c0,c1⟩
  ·exact⟨0,rfl,rfl,by decide,by decide +kernel⟩
 rintro σ' H' ⟨d,rfl,rfl,n,l⟩;have e0:0<=c % 2147483629:=M7 _ (by decide);have t:c % 2147483629<2147483629:=M6 _ (by decide);refine⟨_,rfl,_,rfl,_,_,rfl,rfl,(by show(0:Int)<2147483629;decide),_,rfl,_,_,rfl,rfl,⟨by decide +kernel,N8 (by omega) (by omega)⟩,_,_,rfl,rfl,_,_,rfl,rfl,_,_,rfl,rfl,⟨N8 (by omega) (by omega),by decide +kernel⟩,_,_,rfl,rfl,(by show(0:Int)<2147483647;decide),?_⟩;refine⟨(by show 2<=sizeLine;decide),fun p e=>?_⟩;exact q p _ e (B7 e _) ⟨d,_,AO,n,l,M7 _ (by decide),M6 _ (by decide)⟩
def eO:As ["pot","many","found"] ["pot","many"] (Ae Vv):=by walk_at "z1"
def xB (F:AE K "_law_take" "_law_take" Vv f fd)(m:mg "_law_take"=some (.ref f)):
  AG P w K mg base "_law_take" 1 ["pot","many"] (IC):=by
 refine AG.mk F (F.binds (by walk_at "bD2")) m (F.BS (k:=0) eO (fun vs H Q E h=>?_) (fun AY A outer s H vs Q E t h=>?_))
 ·obtain⟨p,m,rfl,⟨a,b,d,a0,g,b0,l⟩,e,o,q⟩:=h;rfl
 obtain⟨p,m,rfl,⟨a,b,d,a0,g,b0,l⟩,e,o,q⟩:=h;refine⟨_,(A9 rfl (Ai (AW KD (AD D1 (qv 0) A5) A5) (A9 rfl (Az 2 eO.nd (B6 Kh (AD D1 (qv 0) A5) (qv 1)))
   (A9 rfl (HV (B6 Wd (AD D1 (qv 0) A5) (qv 1)) (Mr (qv 0) A5 set_list))
   (AA rfl (Aa (qv 2))))) Ak)
   (A9 rfl (HV (B6 Kh (B6 EA (B6 LD (AD D1 (qv 0) A5) A5) A5) A5) (Mr (qv 0) A5 set_list))
   (AA rfl (Aa (B6 Kh (B6 Wd (B6 Kh (B6 LD (AD D1 (qv 0) A5) (AD D1 (qv 0) A5)) A5) A5) (qv 1)))))),?_⟩
 refine⟨_,rfl,p,_,_,_,rfl,rfl,AN.of d,rfl,_,_,rfl,rfl,_,rfl,?_⟩;refine Ad (fun c=>?_) (fun c=>?_)
 ·have u:0<a:=om c;refine⟨_,rfl,p,_,_,_,rfl,rfl,AN.of d,rfl,_,rfl,_,_,rfl,rfl,e,?_⟩;refine⟨_,rfl,p,_,_,_,rfl,rfl,AN.of d,rfl,_,rfl,_,_,rfl,rfl,⟨e,N8 (by omega) (by omega)⟩,?_⟩;refine⟨_,rfl,p,_,_,_,rfl,rfl,d,rfl,?_⟩;refine⟨_,rfl,?_⟩;refine q _ _ (M7 _ (by omega)) (M6 _ e) ⟨⟨a / m,b,AO,Int.ediv_nonneg a0 (by omega),ZG0 (Int.ediv_le_self _ a0) g,b0,l⟩,Gp.upd⟩
 ·refine⟨_,rfl,p,_,_,_,rfl,rfl,AN.of d,rfl,_,_,rfl,rfl,⟨N8 (by omega) (by omega),by decide +kernel⟩,_,_,rfl,rfl,_,_,rfl,rfl,(by show(0:Int)<2147483647;decide),?_⟩;refine⟨_,rfl,p,_,_,_,rfl,rfl,d,rfl,?_⟩;have j:0<=(b * 69621+12345) % 2147483647:=M7 _ (by decide);have n:(b * 69621+12345) % 2147483647<2147483647:=M6 _ (by decide);generalize r:(b * 69621+12345) % 2147483647=b' at j n;have i:(upd H p (.lst [.int a,.int ((b * 69621+12345) % 2147483647)])) p=some (.lst [.int a,.int b']):=by rw[AO,r]
  refine⟨_,rfl,p,_,_,_,rfl,rfl,AN.of i,rfl,_,rfl,p,_,_,_,rfl,rfl,AN.of i,rfl,_,_,rfl,rfl,⟨N8 (by omega) (by omega),N8 (by omega) (by omega)⟩,_,_,rfl,rfl,(by show(0:Int)<2147483629;decide),?_⟩;refine⟨_,_,rfl,rfl,⟨(by show(0:Int)<64;decide),by decide +kernel⟩,_,rfl,_,_,rfl,rfl,e,?_⟩;exact q _ _ (M7 _ (by omega)) (M6 _ e) ⟨⟨a,b',i,a0,g,j,n⟩,Gp.upd⟩
def RO:As ["number","word"] ["number"] (Ae UL):=by walk_at "z1"
def p0 (F:AE K "_law_letters" "_law_letters" UL f fd)(m:mg "_law_letters"=some (.ref f)):
  AG P w K mg base "_law_letters" 1 ["number"] (kX):=by
 refine AG.mk F (F.binds (by walk_at "bD1")) m (F.BS (k:=0) RO (fun vs H Q E h=>?_) (fun AY A outer s H vs Q E u h=>?_))
 ·obtain⟨r,rfl,j,o,q⟩:=h;rfl
 obtain⟨r,rfl,j,o,q⟩:=h;refine⟨_,(A9 rfl (Az 1 RO.nd AZ)
   (A9 rfl (CF (cQ Je (Fb (AW BP (qv 1) AZ) (Hb (AW KD (qv 0) A5))).pt (A9 rfl (Az 1 RO.nd (B6 dH (qv 1) (AD ZDU AZ (B6 Kh (qv 0) A5))))
   (AA rfl (Az 0 RO.nd (B6 Wd (qv 0) A5))))))
   (AA rfl (Aa (qv 1))))),?_⟩
 obtain⟨n,rfl⟩:=EE j;have hn:n<26 ^ 8:=by omega
 rw[Ki] at q;refine⟨fun σ' H'=>∃v,σ'=[some v,some (.str (DF (MA.lets n)))]/\H=H',?_,?_⟩
 ·refine⟨fun m σ' H'=>∃(k:Nat) (pre:List Nat),σ'=[some (.int k),some (.str (DF pre))]/\H=H'/\((pre=[]/\k=n/\m=n+2)∨(pre≠[]/\m=k+1/\(0<k->pre++MA.lets k=MA.lets n)/\(k=0->pre=MA.lets n))),⟨n+2,n,[],rfl,rfl,.inl ⟨rfl,rfl,rfl⟩⟩,?_⟩;rintro m σ' H' ⟨k,pre,rfl,rfl,l⟩;refine⟨_,rfl,rfl,_,rfl,?_⟩;refine Ad (fun c=>Mp ?_) (fun c=>⟨_,rfl,_,_,rfl,rfl,_,rfl,?_⟩)
  ·have e:pre=[]:=mE.mp (om c);obtain⟨_,b,p⟩|⟨h,_⟩:=l
   ·have d:pre++MA.lets k=MA.lets n:=by rw[e,b];rfl
    have a:pre.length+1<=8:=by
     have h1:=rA List.length d;rw[CM] at h1;have h2:=MA.RH 7 n hn;have t:=MA.WB k;omega
    refine⟨fun σ' H'=>σ'=[some (.int ((k:Int) / 26)),some (.str (DF pre++⟨#[97+((k:Int) % 26).toNat]⟩))]/\H=H',?_,?_⟩
    ·rintro σ' H' ⟨rfl,rfl⟩;have nx:=dF d;have i:((k:Int) % 26).toNat=k % 26:=by omega
     have g:(k:Int) / 26=((k / 26:Nat):Int):=by omega
     exact⟨k / 26+1,by omega,k / 26,pre++[97+k % 26],by rw[i,g,je],rfl,.inr ⟨by simp,rfl,nx.1,nx.2⟩⟩
    ·refine⟨_,rfl,_,rfl,_,_,rfl,rfl,(by show(0:Int)<26;decide),_,_,_,rfl,rfl,(by decide +kernel),gs (M7 _ (by decide)) (M6 _ (by decide)),_,_,rfl,rfl,?_,?_⟩
     ·rw[Rk];exact small (show pre.length+1<=_ by omega)
     ·exact⟨_,rfl,_,_,rfl,rfl,⟨(by show(0:Int)<26;decide),by decide +kernel⟩,rfl,rfl⟩
   ·exact absurd e h
  ·have e:pre≠[]:=fun h=>c (nv (mE.mpr h));obtain⟨h,_⟩|⟨_,p,h1,h2⟩:=l
   ·exact absurd h e
   refine Ad (fun c2=>?_) (fun c2=>?_)
   ·have b:0<k:=by have:(0:Int)<k:=om c2;omega
    have d:=h1 b;have a:pre.length+1<=8:=by
     have h1:=rA List.length d;rw[CM] at h1;have h2:=MA.RH 7 n hn;have t:=MA.WB k;omega
    refine⟨fun σ' H'=>σ'=[some (.int ((k:Int) / 26)),some (.str (DF pre++⟨#[97+((k:Int) % 26).toNat]⟩))]/\H=H',?_,?_⟩
    ·rintro σ' H' ⟨rfl,rfl⟩;have nx:=dF d;have i:((k:Int) % 26).toNat=k % 26:=by omega
     have g:(k:Int) / 26=((k / 26:Nat):Int):=by omega
     exact⟨k / 26+1,by omega,k / 26,pre++[97+k % 26],by rw[i,g,je],rfl,.inr ⟨by simp,rfl,nx.1,nx.2⟩⟩
    ·refine⟨_,rfl,_,rfl,_,_,rfl,rfl,(by show(0:Int)<26;decide),_,_,_,rfl,rfl,(by decide +kernel),gs (M7 _ (by decide)) (M6 _ (by decide)),_,_,rfl,rfl,?_,?_⟩
     ·rw[Rk];exact small (show pre.length+1<=_ by omega)
     ·exact⟨_,rfl,_,_,rfl,rfl,⟨(by show(0:Int)<26;decide),by decide +kernel⟩,rfl,rfl⟩
   ·have b:k=0:=by
     have:¬ (0:Int)<k:=fun z=>c2 (nv z);omega
    exact⟨_,by rw[h2 b],rfl⟩
 ·rintro σ' H' ⟨v,rfl,rfl⟩;exact⟨_,rfl,q⟩
def Gw:As ["pot","names","some","way","name","number"] ["pot","names"] (Ae Vh):=by walk_at "z1"
def ZFK (F:AE K "_law_name" "_law_name" Vh f fd)(m:mg "_law_name"=some (.ref f)):
  AG P w K mg base "_law_name" 2 ["pot","names"] (Pq K):=by
 refine AG.mk F (F.binds (by walk_at "bD2")) m (F.BS (k:=1) Gw (fun vs H Q E h=>?_) (fun AY A outer s H vs Q E d h=>?_))
 ·obtain⟨p,q,ns,rfl,U,J,Ap,Y,hL,K1⟩:=h;rfl
 obtain⟨p,q,ns,rfl,U,J,Ap,Y,hL,K1⟩:=h;refine⟨_,(A9 rfl (Az 2 Gw.nd (Bx (A0 AZ (A0 AZ (A0 AZ (A0 AZ (A0 AZ (A0 AZ (A0 AZ (A0 AZ (A0 AZ (A0 AZ (A0 AZ (A0 AZ (A0 AZ A4)))))))))))))))
   (A9 rfl (Az 3 Gw.nd (Af BV d (A0 (qv 0) (A0 A5 A4))))
   (A9 rfl (Az 4 Gw.nd (AD AL (qv 2) (Af BV d (A0 (qv 0) (A0 A5 A4)))))
   (A9 rfl (CF (Ai (AW BP (qv 3) A5) (AA rfl (Az 4 Gw.nd (Af P1 d (A0 (Af BV d (A0 (qv 0) (A0 (B6 O1 (B6 Mq A5 A5) A5) A4))) A4)))) Ak))
   (A9 rfl (CF (Ai (FO (AW BP (qv 3) A5) (GN (AW (OQ d.J4) (qv 1) (Im A4)))).pt (A9 rfl (Az 4 Gw.nd (AD D1 (qv 1) (Af BV d (A0 (qv 0) (A0 (BF HQ Aj (A0 (qv 1) A4)) A4)))))
   (AA rfl (Az 4 Gw.nd (FA gZ (B6 dH (qv 4) (Af P1 d (A0 (Af BV d (A0 (qv 0) (A0 A5 A4))) A4))) GK (EX A5))))) Ak))
   (A9 rfl (CF (Ai (FO (AW BP (qv 3) A5) (GN (AW (OQ d.J4) (qv 1) (Im A4)))).pt (A9 rfl (Az 4 Gw.nd (AD D1 (qv 1) (Af BV d (A0 (qv 0) (A0 (BF HQ Aj (A0 (qv 1) A4)) A4)))))
   (AA rfl (Az 4 Gw.nd (FA gZ (qv 4) GK (EX (B6 EA A5 (Af BV d (A0 (qv 0) (A0 (BF Xs Aj (A0 (qv 4) A4)) A4))))))))) Ak))
   (A9 rfl (Az 5 Gw.nd A5)
   (A9 rfl (CF (cQ Je (AW Mu (qv 4) (qv 1)) (A9 rfl (Az 4 Gw.nd (Af P1 d (A0 (qv 5) A4)))
   (AA rfl (Az 5 Gw.nd (B6 EA (qv 5) A5))))))
   (AA rfl (Aa (qv 4))))))))))),?_⟩
 have G:(ns.map V.str).length=ns.length:=AQ _;refine⟨(by show 13<=sizeLine;decide +kernel),fun l IE=>?_⟩;have Et:l≠p:=by
  obtain⟨_,_,e,_⟩:=U;exact(DN e IE).symm
 have g0:BZ p H (upd H l (.tup Qv)):=BZ.of U (B7 IE _);refine⟨_,rfl,p,4,rfl,g0.AM,by decide,by decide,fun b H1 w0 w1 s1=>?_⟩;refine⟨_,rfl,_,rfl,p,13,rfl,s1.AM,by decide,by decide,fun i H2 i0 u s2=>?_⟩;have h2:H2 l=some (.tup Qv):=s2.at' (s1.at' AO Et) Et;obtain⟨x,hx,nx⟩:=ZCw i0 u;refine⟨l,_,_,_,rfl,rfl,AU.of h2,hx,?_⟩;have O:=g0.trans (s1.trans s2);refine⟨fun σ' H'=>∃x,σ'=[some (.ref p),some (.ref q),some (.ref l),some (.int b),some (.str x),none]/\Nm x/\BZ p H H',?_,?_⟩
 ·refine⟨_,rfl,rfl,_,rfl,?_⟩;refine Ad (fun c=>?_) (fun c=>?_)
  ·refine⟨_,rfl,_,_,rfl,rfl,⟨by decide,by decide,by decide +kernel⟩,_,_,rfl,rfl,p,_,rfl,O.AM,ZDE,zC,fun r H3 D N s3=>?_⟩;have L:r<26 ^ 8:=Int.lt_trans N ZFp;exact⟨r,rfl,D,L,_,rfl,YU (gv D L),O.trans s3⟩
  ·exact⟨x,rfl,nx,O⟩
 clear h2 hx nx s2 O i0 u;rintro σ' H3 ⟨y,rfl,o,g⟩;refine⟨fun σ' H'=>∃x,σ'=[some (.ref p),some (.ref q),some (.ref l),some (.int b),some (.str x),none]/\Nm x/\BZ p H H',?_,?_⟩
 ·refine⟨_,rfl,rfl,_,rfl,?_⟩;refine Ad (fun c=>?_) (fun c=>D5 ⟨y,rfl,o,g⟩);refine⟨_,rfl,(by show 0<=sizeLine;decide),fun e X=>?_⟩;have t:=g.trans (BZ.of g.AM (B7 X (.lst [])));have M:=t.Pm J Ap;refine⟨q,e,_,[],rfl,rfl,.inl ⟨M,AN.of AO⟩,HX ns,rfl,_,rfl,?_⟩;rw[Ov];refine Ad (fun c2=>?_) (fun c2=>⟨y,rfl,o,t⟩);have HL:0<ns.length:=by
   cases ns with
   | nil=>simp at c2
   | cons a r=>simp
  refine⟨_,rfl,_,rfl,_,rfl,q,_,rfl,.inl M,p,_,rfl,t.AM,(by rw[G];omega),(by rw[G];omega),fun i H5 i0 u S=>?_⟩;rw[G] at u;have C:=t.trans S;obtain⟨z,T,Z9,_⟩:=P7 i0 u;have B:=Y z Z9;refine⟨q,_,_,_,rfl,rfl,C.Pm J Ap,T,?_⟩;refine⟨_,rfl,_,rfl,p,26,rfl,C.AM,by decide,by decide,fun r H6 D N R=>?_⟩;have g6:=C.trans R;have L:r<26 ^ 8:=Int.lt_trans N wY;refine⟨r,rfl,D,L,?_⟩;have Z:=YU (n:=r.toNat) (gv D L);have hlen:z.length+(DF (MA.lets r.toNat)).length<=16:=by have:=B.2.1;have:=Z.2.1;omega
  refine⟨_,_,rfl,rfl,small (by omega),?_⟩;refine⟨_,rfl,_,rfl,small (by rw[dG];omega),?_⟩;refine⟨_,rfl,br (by decide) (by decide) (by rw[dG];have:=B.1;omega) (fun c I=>?_),g6⟩;rw[i7] at I;rcases List.mem_append.mp I with I | I
  ·exact B.2.2 c I
  ·exact Z.2.2 c I
 clear o g;rintro σ' H3 ⟨y,rfl,o,g⟩;refine⟨fun σ' H'=>∃x,σ'=[some (.ref p),some (.ref q),some (.ref l),some (.int b),some (.str x),none]/\Nm x/\BZ p H H',?_,?_⟩
 ·refine⟨_,rfl,rfl,_,rfl,?_⟩;refine Ad (fun c=>?_) (fun c=>D5 ⟨y,rfl,o,g⟩);refine⟨_,rfl,(by show 0<=sizeLine;decide),fun e X=>?_⟩;have t:=g.trans (BZ.of g.AM (B7 X (.lst [])));have M:=t.Pm J Ap;refine⟨q,e,_,[],rfl,rfl,.inl ⟨M,AN.of AO⟩,HX ns,rfl,_,rfl,?_⟩;rw[Ov];refine Ad (fun c2=>?_) (fun c2=>⟨y,rfl,o,t⟩);have HL:0<ns.length:=by
   cases ns with
   | nil=>simp at c2
   | cons a r=>simp
  refine⟨_,rfl,_,rfl,_,rfl,q,_,rfl,.inl M,p,_,rfl,t.AM,(by rw[G];omega),(by rw[G];omega),fun i H5 i0 u S=>?_⟩;rw[G] at u;have C:=t.trans S;obtain⟨z,T,Z9,_⟩:=P7 i0 u;have B:=Y z Z9;refine⟨q,_,_,_,rfl,rfl,C.Pm J Ap,T,?_⟩;have rS:=B.1;have nz2:=B.2.1;refine⟨_,rfl,_,rfl,_,rfl,_,rfl,small (by omega),p,_,rfl,C.AM,(by omega),(by omega),fun r H6 D N R=>?_⟩;refine⟨_,_,rfl,rfl,_,rfl,_,rfl,small (by omega),?_⟩;exact⟨_,rfl,br (by omega) (by omega) rS B.2.2,C.trans R⟩
 clear o g;rintro σ' H3 ⟨y,rfl,o,g⟩;refine⟨fun σ' H'=>∃x v,σ'=[some (.ref p),some (.ref q),some (.ref l),some (.int b),some (.str x),some v]/\Nm x/\x∉ns/\H3=H',?_,?_⟩
 ·refine⟨fun m σ' H'=>∃(k:Nat) (x:Str),σ'=[some (.ref p),some (.ref q),some (.ref l),some (.int b),some (.str x),some (.int k)]/\H3=H'/\Nm x/\m=ns.length+1 - k/\k<=ns.length+1/\(0<k->x=DF (MA.lets (k - 1)))/\(∀j,j+1<k->DF (MA.lets j)∈ns),
   ⟨ns.length+1,0,y,rfl,rfl,o,rfl,CO _,fun h=>absurd h (by decide),fun j h=>absurd h (by omega)⟩,?_⟩
  rintro m σ' H' ⟨k,x,rfl,rfl,nx,rfl,hk,hx,hj⟩;refine⟨_,rfl,_,rfl,q,_,rfl,.inl (g.Pm J Ap),rfl,HX ns,_,rfl,?_⟩;rw[o5 (by decide),R3];refine Ad (fun c=>?_) (fun c=>⟨x,_,rfl,nx,fun z=>c (nv z),rfl⟩);have Pl:x∈ns:=om c;have KS:∀j,j<k->DF (MA.lets j)∈ns:=fun j Nc=>by
   by_cases e:j+1<k
   ·exact hj j e
   ·have e2:j=k - 1:=by omega
    rw[e2,<- hx (by omega)];exact Pl
  have W:=ZAL KS;refine⟨fun σ' H'=>σ'=[some (.ref p),some (.ref q),some (.ref l),some (.int b),some (.str (DF (MA.lets k))),some (.int ((k:Int)+1))]/\H3=H',?_,?_⟩
  ·rintro σ' H' ⟨rfl,rfl⟩;exact⟨ns.length+1 - (k+1),by omega,k+1,DF (MA.lets k),rfl,rfl,YU (Ht (Bi W hL) rO),rfl,by omega,fun _=>rfl,fun j Nc=>KS j (by omega)⟩
  ·refine⟨_,rfl,k,rfl,by omega,?_,?_⟩
   ·have:(k:Int)<=1000:=by omega
    exact ZG0 this ZAo
   ·rw[Ki];exact⟨_,rfl,_,_,rfl,rfl,rfl,rfl⟩
 rintro σ' H' ⟨x,v,rfl,nx,hx,rfl⟩;exact⟨_,rfl,K1 x H3 nx hx g⟩
def aD:As ["pot","many","names","k"] ["pot","many"] (Ae XC):=by walk_at "z1"
def wR (F:AE K "_law_names" "_law_names" XC f fd)(m:mg "_law_names"=some (.ref f)):
  AG P w K mg base "_law_names" 3 ["pot","many"] (jH):=by
 refine AG.mk F (F.binds (by walk_at "bD2")) m (F.BS (k:=2) aD (fun vs H Q E h=>?_) (fun AY A outer s H vs Q E u h=>?_))
 ·obtain⟨p,m,rfl,j,r,o,q⟩:=h;rfl
 obtain⟨p,m,rfl,j,r,o,q⟩:=h;refine⟨_,(A9 rfl (Az 2 aD.nd (Im A4))
   (A9 rfl (CF (J5 Je rfl (TY rfl HR (A0 (qv 1) A4)) (Ck 3 aD.nd) (AA rfl (DV (Gx Iv ZGR ZGU gL (qv 2) (A0 (Af JH u (A0 (qv 0) (A0 (qv 2) A4))) A4))))))
   (AA rfl (Aa (qv 2))))),?_⟩
 refine⟨(by show 0<=sizeLine;decide),fun l c=>?_⟩;have d:=j.ne c;refine⟨fun σ' H'=>∃(ns:List Str) (v:Option V),σ'=[some (.ref p),some (.int m),some (.ref l),v]/\BZ p H H'/\H' l=some (.lst (ns.map V.str))/\(ns.length:Int)=m/\(∀x∈ns,Nm x)/\ns.Nodup,?_,?_⟩
 ·refine⟨_,rfl,m,rfl,by omega,by omega,ZFY (n:=m.toNat) (fun i σ' H'=>∃(ns:List Str) (v:Option V),σ'=[some (.ref p),some (.int m),some (.ref l),v]/\BZ p H H'/\H' l=some (.lst (ns.map V.str))/\ns.length=i/\(∀x∈ns,Nm x)/\ns.Nodup) ?_ ?_ ?_⟩
  ·exact⟨[],none,rfl,(BZ.of j (AB.refl H)).upd c d,AO,rfl,fun x hx=>absurd hx (by simp),by simp⟩
  ·rintro i σ' H' hi ⟨ns,v,rfl,g,e,a,b,nd⟩;refine⟨_,rfl,.inl ⟨rfl,_,AN.of e⟩,_,rfl,_,rfl,p,l,ns,rfl,g.AM,AN.of e,d,b,by omega,fun x H2 nx hx s2=>?_⟩;refine⟨l,_,_,rfl,rfl,s2.at' e d,Ht (m:=100) (by rw[AQ];omega) (by decide +kernel),?_⟩;refine⟨ns++[x],_,rfl,(g.trans s2).upd c d,by rw[AO,EF];rfl,by rw[CM];simp[a],fun y t=>?_,Rr nd hx⟩;rcases List.mem_append.mp t with h | h
   ·exact b y h
   ·have:y=x:=by simpa using h
    rw[this];exact nx
  ·rintro σ' H' ⟨ns,v,rfl,g,e,a,b,nd⟩;exact⟨ns,v,rfl,g,e,by omega,b,nd⟩
 rintro σ' H' ⟨ns,v,rfl,g,e,a,b,nd⟩;exact⟨_,rfl,q l H' ns c g e a b nd⟩
def WR:As ["pot","most","many"] ["pot","most"] (Ae aQ):=by walk_at "z1"
def ZEk (F:AE K "_law_row" "_law_row" aQ f fd)(m:mg "_law_row"=some (.ref f)):
  AG P w K mg base "_law_row" 4 ["pot","most"] (YR):=by
 refine AG.mk F (F.binds (by walk_at "bD2")) m (F.BS (k:=3) WR (fun vs H Q E h=>?_) (fun AY A outer s H vs Q E b h=>?_))
 ·obtain⟨p,m,rfl,n,d,v,q⟩:=h;rfl
 obtain⟨p,m,rfl,n,d,v,q⟩:=h;refine⟨_,(A9 rfl (Az 2 WR.nd (Af BV b (A0 (qv 0) (A0 (B6 EA (qv 1) A5) A4))))
   (A9 rfl (CF (Ai (AW BP (Af BV b (A0 (qv 0) (A0 A5 A4))) A5) (AA rfl (Az 2 WR.nd (AD AL (Bx (A0 A5 (A0 A5 (A0 (qv 1) A4)))) (Af BV b (A0 (qv 0) (A0 A5 A4)))))) Ak))
   (AA rfl (Aa (Af Ua b (A0 (qv 0) (A0 (qv 2) A4))))))),?_⟩
 refine⟨_,rfl,_,rfl,_,_,rfl,rfl,p,_,rfl,n,by omega,by omega,fun a H1 n0 n1 s1=>?_⟩;refine⟨fun σ' H'=>∃k:Int,σ'=[some (.ref p),some (.int m),some (.int k)]/\0<=k/\k<=m/\BZ p H H',?_,?_⟩
 ·refine⟨_,rfl,p,8,rfl,s1.AM,by decide,by decide,fun r H2 I G s2=>?_⟩;have c:=s1.trans s2;refine⟨rfl,_,rfl,?_⟩;refine Ad (fun _=>?_) (fun _=>⟨a,rfl,n0,by omega,c⟩);refine⟨_,rfl,(by show 3<=sizeLine;decide +kernel),fun t i=>?_⟩;have D:=c.AM.ne i;have u:=c.trans (BZ.of c.AM (B7 i (.tup [.int 0,.int 1,.int m])));refine⟨_,rfl,p,3,rfl,u.AM,by decide,by decide,fun j H4 y x s4=>?_⟩;obtain⟨k,B,k0,k1⟩:=zY y x d;exact⟨t,_,_,_,rfl,rfl,AU.of (s4.at' AO D),B,k,rfl,k0,k1,u.trans s4⟩
 rintro σ' H' ⟨k,rfl,k0,k1,g⟩;refine⟨_,rfl,_,rfl,p,k,rfl,g.AM,k0,by omega,fun l H' ns z s e o C nd=>?_⟩;exact q l H' ns (g.none z) (g.trans s) e (by omega) C nd
def Qg:As ["pot","row","most","way","low","name"] ["pot","row","most"] (Ae UI):=by walk_at "z1"
def zP (F:AE K "_law_deed" "_law_deed" UI f fd)(m:mg "_law_deed"=some (.ref f)):
  AG P w K mg base "_law_deed" 3 ["pot","row","most"] (SK):=by
 refine AG.mk F (F.binds (by walk_at "bD3")) m (F.BS (k:=2) Qg (fun vs H Q E h=>?_) (fun AY A outer s H vs Q E C h=>?_))
 ·obtain⟨p,a,m,ns,rfl,S,T,Ap,M,hz,Z,Y,q⟩:=h;rfl
 obtain⟨p,a,m,ns,rfl,S,T,Ap,M,hz,Z,Y,q⟩:=h;refine⟨_,(A9 rfl (Az 3 Qg.nd (Af BV C (A0 (qv 0) (A0 A5 A4))))
   (A9 rfl (Ai (Fb (FO (AW Ff (qv 3) A5) (GN (AW Ff (BF HQ Aj (A0 (qv 1) A4)) (qv 2)))).pt (Hb (AW (RM C.J4) (qv 1) (Im A4)))).pt (A9 rfl (Ai (AW MH (BF HQ Aj (A0 (qv 1) A4)) (qv 2)) (AA rfl (Aa (Bx (A0 AZ (A0 A5 (A0 A5 A4)))))) Ak)
   (AA rfl (Aa (Bx (A0 AZ (A0 (Af JH C (A0 (qv 0) (A0 (qv 1) A4))) (A0 (Af BV C (A0 (qv 0) (A0 (B6 EA (BF HQ Aj (A0 (qv 1) A4)) A5) A4))) A4))))))) Ak)
   (A9 rfl (Ai (AW BP (qv 3) A5) (A9 rfl (Az 4 Qg.nd (Af BV C (A0 (qv 0) (A0 (B6 EA (BF HQ Aj (A0 (qv 1) A4)) A5) A4))))
   (AA rfl (Aa (Bx (A0 AZ (A0 (qv 4) (A0 (B6 EA (qv 4) (Af BV C (A0 (qv 0) (A0 (B6 EA (B6 O1 (BF HQ Aj (A0 (qv 1) A4)) (qv 4)) A5) A4)))) A4))))))) Ak)
   (A9 rfl (Az 5 Qg.nd (AD D1 (qv 1) (Af BV C (A0 (qv 0) (A0 (BF HQ Aj (A0 (qv 1) A4)) A4)))))
   (A9 rfl (Ai (AW BP (qv 3) A5) (AA rfl (Aa (Bx (A0 AZ (A0 (qv 5) (A0 (Af BV C (A0 (qv 0) (A0 (BF HQ Aj (A0 (qv 1) A4)) A4))) A4)))))) Ak)
   (AA rfl (Aa (Bx (A0 AZ (A0 (qv 5) A4)))))))))),?_⟩
 have b:=HF ns;have B:∀n:Nat,n<=3->n<=sizeLine:=fun n h=>Bi h (by decide +kernel);refine⟨_,rfl,p,5,rfl,S,by decide,by decide,fun X H1 w0 w1 s1=>?_⟩;have G:=s1.at' T Ap;have U:decide (ns.map V.str=[])=true->ns=[]:=fun h=>List.map_eq_nil_iff.mp (om h);have W:¬ decide (ns.map V.str=[])=true->0<ns.length:=fun h=>by
  cases ns with
  | nil=>exact absurd (nv rfl) h
  | cons y r=>simp
 refine⟨_,rfl,_,_,rfl,rfl,_,rfl,?_⟩;refine Ad (fun cA=>?_) (fun cA=>D5 ?_)
 ·refine⟨_,rfl,a,_,rfl,.inl (AN.of G),_,rfl,_,_,rfl,rfl,_,rfl,?_⟩;refine Ad (fun N=>Mp ?_) (fun N=>?_)
  ·have Am:ns.length<m:=by have:=om N;rw[b] at this;omega
   have l:=s1;have j:=G;refine⟨_,rfl,a,_,rfl,.inl (AN.of j),_,rfl,_,_,rfl,rfl,_,rfl,Ah (by rw[b,q8 (by omega)];decide) ?_⟩;refine⟨_,rfl,_,rfl,p,a,ns,rfl,l.AM,AN.of j,Ap,M,by omega,fun x H3 nx hx c=>?_⟩;have o:=c.at' j Ap;refine⟨_,rfl,_,rfl,a,_,rfl,.inl (AN.of o),_,_,rfl,rfl,p,_,rfl,c.AM,by omega,by rw[b];omega,fun i H4 i0 u s4=>?_⟩;rw[b] at u;obtain⟨i,rfl⟩:=EE i0;refine⟨B _ (by simp),fun t d=>?_⟩;have g:=l.trans (c.trans s4);exact q (.put x i) t _ (g.none d) (g.trans (BZ.of g.AM (B7 d _))) AO ⟨nx,hx,by omega,by omega⟩
  ·have J:¬ ns.length<m:=fun z=>N (nv (by rw[b];omega));refine⟨_,rfl,(by show 0<=sizeLine;decide),fun e L=>?_⟩;have s2:=BZ.of s1.AM (B7 L (.lst []));have l:=s1.trans s2;have j:=s2.at' G Ap;refine⟨a,e,_,[],rfl,rfl,.inl ⟨AN.of j,AN.of AO⟩,HX ns,rfl,_,rfl,?_⟩;show if Fg (ns.map V.str) []=true then _ else _
   rw[Ov];refine Ad (fun D=>?_) (fun D=>?_)
   ·exact absurd (by rw[U D];show 0<m;omega) J
   ·have HL:=W D;refine⟨_,rfl,rfl,_,rfl,?_⟩;refine Ad (fun O=>?_) (fun O=>?_)
    ·refine⟨_,rfl,_,rfl,a,_,rfl,.inl (AN.of j),_,_,rfl,rfl,p,_,rfl,l.AM,by omega,by rw[b];omega,fun lo H3 I l1 c=>?_⟩;rw[b] at l1;obtain⟨lo,rfl⟩:=EE I;have o:=c.at' j Ap;refine⟨_,rfl,_,rfl,_,rfl,_,rfl,a,_,rfl,.inl (AN.of o),_,rfl,_,_,rfl,rfl,_,_,rfl,rfl,p,_,rfl,c.AM,by rw[b];omega,by rw[b];omega,fun k H4 k0 k1 s4=>?_⟩;rw[b] at k1;obtain⟨k,rfl⟩:=EE k0;refine⟨_,_,rfl,rfl,B _ (by simp),fun t d=>?_⟩;have g:=l.trans (c.trans s4);exact q (.turn lo (lo+k)) t _ (g.none d) (g.trans (BZ.of g.AM (B7 d _))) (by rw[AO];rfl) ⟨by omega,by omega⟩
    ·refine⟨_,rfl,_,rfl,_,rfl,a,_,rfl,.inl (AN.of j),p,_,rfl,l.AM,by rw[b];omega,by rw[b];omega,fun i H3 i0 u c=>?_⟩;rw[b] at u;have o:=c.at' j Ap;obtain⟨x,hx,Oa,_⟩:=P7 i0 u;refine⟨a,_,_,_,rfl,rfl,AN.of o,hx,?_⟩;have v:=l.trans c;refine⟨_,rfl,rfl,_,rfl,?_⟩;refine Ad (fun R=>?_) (fun R=>?_)
     ·refine⟨_,rfl,_,rfl,_,rfl,a,_,rfl,.inl (AN.of o),p,_,rfl,c.AM,by rw[b];omega,by rw[b];omega,fun k H4 k0 k1 s4=>?_⟩;rw[b] at k1;obtain⟨k,rfl⟩:=EE k0;have g:=v.trans s4;refine⟨B _ (by simp),fun t d=>?_⟩;exact q (.move x k) t _ (g.none d) (g.trans (BZ.of g.AM (B7 d _))) AO ⟨Oa,by omega⟩
     ·refine⟨_,rfl,B _ (by simp),fun t d=>?_⟩;exact q (.take x) t _ (v.none d) (v.trans (BZ.of v.AM (B7 d _))) AO Oa
 ·skip
  refine⟨_,rfl,(by show 0<=sizeLine;decide),fun e L=>?_⟩;have s2:=BZ.of s1.AM (B7 L (.lst []));have l:=s1.trans s2;have j:=s2.at' G Ap;refine⟨a,e,_,[],rfl,rfl,.inl ⟨AN.of j,AN.of AO⟩,HX ns,rfl,_,rfl,?_⟩;show if Fg (ns.map V.str) []=true then _ else _
  rw[Ov];refine Ad (fun D=>?_) (fun D=>?_)
  ·have Am:ns.length<m:=by rw[U D];show 0<m;omega
   refine⟨_,rfl,a,_,rfl,.inl (AN.of j),_,rfl,_,_,rfl,rfl,_,rfl,Ah (by rw[b,q8 (by omega)];decide) ?_⟩;refine⟨_,rfl,_,rfl,p,a,ns,rfl,l.AM,AN.of j,Ap,M,by omega,fun x H3 nx hx c=>?_⟩;have o:=c.at' j Ap;refine⟨_,rfl,_,rfl,a,_,rfl,.inl (AN.of o),_,_,rfl,rfl,p,_,rfl,c.AM,by omega,by rw[b];omega,fun i H4 i0 u s4=>?_⟩;rw[b] at u;obtain⟨i,rfl⟩:=EE i0;refine⟨B _ (by simp),fun t d=>?_⟩;have g:=l.trans (c.trans s4);exact q (.put x i) t _ (g.none d) (g.trans (BZ.of g.AM (B7 d _))) AO ⟨nx,hx,by omega,by omega⟩
  ·have HL:=W D;refine⟨_,rfl,rfl,_,rfl,?_⟩;refine Ad (fun O=>?_) (fun O=>?_)
   ·refine⟨_,rfl,_,rfl,a,_,rfl,.inl (AN.of j),_,_,rfl,rfl,p,_,rfl,l.AM,by omega,by rw[b];omega,fun lo H3 I l1 c=>?_⟩;rw[b] at l1;obtain⟨lo,rfl⟩:=EE I;have o:=c.at' j Ap;refine⟨_,rfl,_,rfl,_,rfl,_,rfl,a,_,rfl,.inl (AN.of o),_,rfl,_,_,rfl,rfl,_,_,rfl,rfl,p,_,rfl,c.AM,by rw[b];omega,by rw[b];omega,fun k H4 k0 k1 s4=>?_⟩;rw[b] at k1;obtain⟨k,rfl⟩:=EE k0;refine⟨_,_,rfl,rfl,B _ (by simp),fun t d=>?_⟩;have g:=l.trans (c.trans s4);exact q (.turn lo (lo+k)) t _ (g.none d) (g.trans (BZ.of g.AM (B7 d _))) (by rw[AO];rfl) ⟨by omega,by omega⟩
   ·refine⟨_,rfl,_,rfl,_,rfl,a,_,rfl,.inl (AN.of j),p,_,rfl,l.AM,by rw[b];omega,by rw[b];omega,fun i H3 i0 u c=>?_⟩;rw[b] at u;have o:=c.at' j Ap;obtain⟨x,hx,Oa,_⟩:=P7 i0 u;refine⟨a,_,_,_,rfl,rfl,AN.of o,hx,?_⟩;have v:=l.trans c;refine⟨_,rfl,rfl,_,rfl,?_⟩;refine Ad (fun R=>?_) (fun R=>?_)
    ·refine⟨_,rfl,_,rfl,_,rfl,a,_,rfl,.inl (AN.of o),p,_,rfl,c.AM,by rw[b];omega,by rw[b];omega,fun k H4 k0 k1 s4=>?_⟩;rw[b] at k1;obtain⟨k,rfl⟩:=EE k0;have g:=v.trans s4;refine⟨B _ (by simp),fun t d=>?_⟩;exact q (.move x k) t _ (g.none d) (g.trans (BZ.of g.AM (B7 d _))) AO ⟨Oa,by omega⟩
    ·refine⟨_,rfl,B _ (by simp),fun t d=>?_⟩;exact q (.take x) t _ (v.none d) (v.trans (BZ.of v.AM (B7 d _))) AO Oa
def we:As ["pot"] ["pot"] (Ae Ve):=by walk_at "z1"
def kJ : ∀ss R,WY ss R->ss.length=1:=by rintro _ _ ⟨rfl,rfl⟩;rfl
def ZAO (F:AE K "_law_rule" "_law_rule" Ve f fd)(m:mg "_law_rule"=some (.ref f)):
  AG P w K mg base "_law_rule" 2 ["pot"] (BE WY):=by
 refine AG.mk F (F.binds (by walk_at "bD1")) m (F.BS (k:=1) we (fun vs H Q E h=>Fz.DW kJ h) (fun AY A outer s H vs Q E a h=>?_))
 refine⟨_,(AA rfl (Aa (AD AL (Bx (A0 AZ (A0 AZ (A0 AZ A4)))) (Af BV a (A0 (qv 0) (A0 A5 A4)))))),?_⟩;refine Fz.DY h kJ ?_;rintro _ _ ⟨rfl,rfl⟩;show Ws [_] _ _ _
 walk_at "ww"
 refine⟨by decide,_,.inr ⟨rfl,rfl,?_⟩⟩
 walk_at "ww"
 refine⟨by decide,by decide,fun q b d=>?_⟩;obtain⟨q,rfl⟩:=EE b;obtain⟨r,a,c⟩:=eA (k:=q) (by omega);exact⟨_,_,rfl,c,r,rfl,a⟩
def NS:As ["row","loop","rule","gap","coming","found","left"] ["row","loop"] (Ae Oc):=by walk_at "z1"
noncomputable def ZFa:Scope:={ kind:=.function,names:=[(".0", .local),("name", .local),("coming", .free)],isGenerator:=false,isCoroutine:=false,more:=[] }
def ZCz:Ep ["row","loop","rule","gap","coming","found","left"] (Ae Oc) ZFa "name" ["coming"] [4]:=by walk_at "z2"
noncomputable def pL:Scope:={ kind:=.function,names:=[(".0", .local),("name", .local),("found", .free)],isGenerator:=false,isCoroutine:=false,more:=[] }
def oa:Ep ["row","loop","rule","gap","coming","found","left"] (Ae Oc) pL "name" ["found"] [5]:=by walk_at "z2"
def uU (F:AE K "_law_step" "_law_step" Oc f fd)(m:mg "_law_step"=some (.ref f)):
  AG P w K mg base "_law_step" 1 ["row","loop"] (YQ):=by
 refine AG.mk F (F.binds (by walk_at "bD2")) m (F.BS (k:=0) NS (fun vs H Q E h=>?_) (fun AY A outer s H vs Q E hr h=>?_))
 ·obtain⟨a,ns,t,r,g,ss,rfl,l,⟨c,M,C⟩,II,hz,q⟩:=h;rfl
 obtain⟨a,ns,t,r,g,ss,rfl,l,⟨c,M,C⟩,II,hz,q⟩:=h;refine⟨_,(A9 rfl (HV (qv 1) (Ky rfl (Dq (Ck 2 NS.nd) (Dq (Ck 3 NS.nd) (Dq (Ck 4 NS.nd) LP)))))
   (A9 rfl (Az 5 NS.nd (KZ rfl ZCz (J3 (B6 Lm (FA NW (qv 0) (EX (qv 3)) GK) (FA NW (qv 0) GK (EX (qv 3))))) (fun _ _ _ _=>by exact(L5 (AW (show BW _ (compareOp .In) (Ko K false) from Mu) (qv 1) (qv 0)))) (fun _ _ _ _=>by exact(qv 1))))
   (A9 rfl (Ai (AW (RM hr.J4) (qv 5) (Im A4)) (AA rfl (Aa (Bx (A0 MP (A0 (qv 1) A4))))) Ak)
   (A9 rfl (Az 6 NS.nd (D4 Kg DG (A0 (KZ rfl oa (J3 (qv 4)) (fun _ _ _ _=>by exact(L5 (AW Lk (qv 1) (AD (show IK _ (TR K) from D1) (qv 0) A5)))) (fun _ _ _ _=>by exact(qv 1))) A4)))
   (AA rfl (Aa (Bx (A0 (AD D1 (qv 5) A5) (A0 (Bx (A0 (qv 2) (A0 (B6 EA (Gx Iv U0 bK Qx (qv 0) (A0 (AD D1 (qv 5) A5) A4)) A5) (A0 (qv 6) A4)))) A4))))))))),?_⟩
 have hl:=HF ns;have Z:=HF ss;refine⟨_,rfl,t,_,rfl,AU.of M,rfl,_,_,rfl,_,_,rfl,_,_,rfl,rfl,?_⟩;refine⟨_,rfl,_,rfl,_,rfl,a,_,rfl,AN.of l,fun l1 Ow=>?_⟩;have n1:=B7 Ow (.lst (Cr (ns.map V.str) (some (g:Int)) none));refine⟨_,rfl,_,rfl,_,rfl,a,_,rfl,AN.of (n1 _ _ l),fun l2 FK=>?_⟩;have n2:=B7 FK (.lst (Cr (ns.map V.str) none (some (g:Int))));have Y:=n2 _ _ (AO (H:=H) (a:=l1) (o:=.lst (Cr (ns.map V.str) (some (g:Int)) none)));have X:=AO (H:=upd H l1 (.lst (Cr (ns.map V.str) (some (g:Int)) none))) (a:=l2) (o:=.lst (Cr (ns.map V.str) none (some (g:Int))));have k2:=n1.trans n2;generalize upd (upd H l1 (.lst (Cr (ns.map V.str) (some (g:Int)) none))) l2 (.lst (Cr (ns.map V.str) none (some (g:Int))))=H2 at *;rw[fg] at Y;rw[bS] at X;refine⟨l1,l2,_,_,rfl,rfl,Y,X,small (by rw[Em,Cn];omega),fun B xS=>?_⟩;have n3:=B7 xS (.lst ((ns.map V.str).drop g++(ns.map V.str).take g));have k3:=k2.trans n3;have N:EC K false (upd H2 B (.lst ((ns.map V.str).drop g++(ns.map V.str).take g))) B ((ns.drop g++ns.take g).map V.str):=AN.of (by rw[AO,EF,Np,Nq]);refine⟨false,B,_,rfl,N,fun acc B2=>L7 (fun v=>GD v (ss.map V.str)) (fun v=>v) N B2 (small (by rw[HF,CM,Em,Cn];omega)) (fun i v H' Q' j s4 h=>?_) (fun i v H' Q' j _ s4 h=>?_) (fun H4 s4 W=>?_)⟩
 ·obtain⟨x,rfl,_⟩:=LY j;exact⟨_,rfl,_,rfl,c,_,rfl,.inr (AU.of (s4 _ _ (k3 _ _ C))),rfl,HX ss,_,rfl,h _ (AB.refl _)⟩
 ·exact⟨_,rfl,h _ (AB.refl _)⟩
 rw[ZEU,nY] at W;have k4:=k3.trans s4;refine⟨_,rfl,(by show 0<=sizeLine;decide),fun J nO=>?_⟩;have I:=B7 nO (.lst []);have k5:=k4.trans I;have p:=I _ _ W;refine⟨acc,J,_,[],rfl,rfl,.inl ⟨AN.of p,AN.of AO⟩,HX _,rfl,_,rfl,?_⟩;show if Fg ((Ft ns g ss).map V.str) []=true then _ else _
 rw[Ov];refine Ad (fun c1=>?_) (fun c1=>?_)
 ·have n:Ft ns g ss=[]:=by simpa using c1
  refine⟨_,rfl,(by show 2<=sizeLine;decide),fun t' LX=>?_⟩;exact q t' _ (AB.none k5 LX) (k5.trans (B7 LX _)) (.inl ⟨n,AO⟩)
 ·obtain⟨x,G7,n⟩:∃x G7,Ft ns g ss=x::G7:=by
   cases h:Ft ns g ss with
   | nil=>rw[h] at c1;simp at c1
   | cons x G7=>exact⟨x,G7,rfl⟩
  have hx:x∈ns/\x∈ss:=RC.mp (by rw[n];exact Dg);rw[n] at p;generalize upd H4 J (.lst [])=H5 at *;have R:EC K true H5 c (ss.map V.str):=AU.of (k5 _ _ C);refine⟨_,rfl,true,c,_,rfl,R,fun xF ve=>L7 (IF (.str x)) (fun v=>v) R ve (by rw[Z];exact small (by omega)) (fun i v H' Q' j b h=>?_) (fun i v H' Q' j _ b h=>?_) (fun H6 b U=>?_)⟩
  ·obtain⟨y,rfl,_⟩:=LY j;exact⟨_,rfl,_,rfl,acc,_,_,_,rfl,rfl,AN.of (b _ _ p),VT,rfl,_,rfl,h _ (AB.refl _)⟩
  ·exact⟨_,rfl,h _ (AB.refl _)⟩
  rw[OX] at U;refine⟨xF,_,rfl,.inl ⟨AN.of U,fun d O=>?_⟩⟩;have G:=B7 O (.tup ((wo ss x).map V.str));have e:=k5.trans (b.trans G);have f7:H d=none:=AB.none (k5.trans b) O;have T:=G _ _ (b _ _ p);have u7:=AO (H:=H6) (a:=d) (o:=.tup ((wo ss x).map V.str));generalize upd H6 d (.tup ((wo ss x).map V.str))=H7 at *;refine⟨_,rfl,acc,_,_,_,rfl,rfl,AN.of T,VT,_,rfl,_,rfl,.inl ⟨rfl,_,AN.of (e _ _ l)⟩,_,rfl,acc,_,_,_,rfl,rfl,AN.of T,VT,a,ns,x,rfl,rfl,AN.of (e _ _ l),hx.1,_,_,rfl,rfl,_,rfl,?_⟩;refine⟨(by show 3<=sizeLine;decide),fun D L=>?_⟩;have z:=B7 L (.tup [.str r,.int ((ns.idxOf x:Nat)+1),.ref d]);refine⟨(by show 2<=sizeLine;decide),fun t9 S=>?_⟩;have u:=B7 S (.tup [.str x,.ref D]);exact q t9 _ (AB.none (e.trans z) S) (e.trans (z.trans u)) (.inr ⟨x,G7,D,d,n,AB.none e L,f7,AO,u _ _ AO,u _ _ (z _ _ u7)⟩)
def PB:As ["pot","state","most","way","names","name","loop"] ["pot","state","most"] (Ae Xm):=by walk_at "z1"
def kc : ∀ss R,XT ss R->ss.length=3:=by rintro _ _ ⟨s,m,rfl,_,_,_,_,_,rfl⟩;rfl
def ZCQ (F:AE K "_law_good_entry" "_law_good_entry" Xm f fd)(m:mg "_law_good_entry"=some (.ref f)):
  AG P w K mg base "_law_good_entry" 4 ["pot","state","most"] (BE XT):=by
 refine AG.mk F (F.binds (by walk_at "bD3")) m (F.BS (k:=3) PB (fun vs H Q E h=>Fz.DW kc h) (fun AY A outer s H vs Q E a h=>?_))
 refine⟨_,(A9 rfl (Az 3 PB.nd (Af BV a (A0 (qv 0) (A0 A5 A4))))
   (A9 rfl (Az 4 PB.nd (BF (ZAd rfl) FH (A0 (C8 (BO a) (qv 1) AZ (fun _ _=>rfl)) A4)))
   (A9 rfl (Ai (Fb (FO (AW BP (qv 3) A5) (GN (AW Ff (BF CJ Aj (A0 (qv 4) A4)) A5))).pt (Hb (FO (AW Ff (qv 3) A5) (GN (AW (RM a.J4) (qv 4) (Im A4)))).pt)).pt (AA rfl (Aa (Bx (A0 AZ (A0 (Af JH a (A0 (qv 0) (A0 (D4 (Vr rfl) C3 (A0 (C8 (BO a) (qv 1) AZ (fun _ _=>rfl)) A4)) A4))) (A0 (Af ZC a (A0 (qv 0) A4)) A4)))))) Ak)
   (A9 rfl (CF (Ai (AW Ff (qv 3) A5) (A9 rfl (Az 5 PB.nd (AD D1 (qv 4) (Af BV a (A0 (qv 0) (A0 (BF CJ Aj (A0 (qv 4) A4)) A4)))))
   (A9 rfl (Az 6 PB.nd (C8 (BO a) (C8 (BO a) (qv 1) AZ (fun _ _=>rfl)) (qv 5) (fun _ _=>rfl)))
   (A9 rfl (Ai (FO (AW (RM a.J4) (AD AL (qv 6) A5) (Bx A4)) (GN (AW BP (Af BV a (A0 (qv 0) (A0 A5 A4))) A5))).pt (AA rfl (Aa (Bx (A0 AZ (A0 (qv 5) A4))))) Ak)
   (A9 rfl (Ai (FO (AW (OQ a.J4) (AD AL (qv 6) A5) (Bx A4)) (GN (AW BP (Af BV a (A0 (qv 0) (A0 A5 A4))) A5))).pt (AA rfl (Aa (Bx (A0 AZ (A0 (qv 5) (A0 (AD AL (AD AL (qv 6) A5) (Af BV a (A0 (qv 0) (A0 (BF CJ Aj (A0 (AD AL (qv 6) A5) A4)) A4)))) A4)))))) Ak)
   (AA rfl (Ai (AW (OQ a.J4) (AD AL (qv 6) A5) (Bx A4)) (AA rfl (Aa (Bx (A0 AZ (A0 (qv 5) (A0 (AD AL (Af X6 a (A0 (C8 (BO a) (qv 1) AZ (fun _ _=>rfl)) (A0 (qv 6) A4))) A5) A4)))))) Ak)))))) Ak))
   (AA rfl (Aa (Af Vq a (A0 (qv 0) (A0 (C8 (BO a) (qv 1) AZ (fun _ _=>rfl)) (A0 (qv 2) A4)))))))))),?_⟩
 refine Fz.DY h kc ?_;rintro _ _ ⟨s,m,rfl,ok,I,hn,v,TH,rfl⟩;show Ws [_,_,_,.any,.any,.any,.any] _ _ _;have l1:=ok.l1
 walk_at "ww"
 refine⟨by decide,by decide,fun j G N=>?_⟩;refine Al (Of (rh (LZ (AH rfl ⟨k3,_,rfl,Hj ⟨.inr "live", _,rfl,rfl,_,s.ln,rfl,by omega,fun Bd U st=>?_⟩⟩))));refine NR 4 rfl ?_;show Ws [.AM,.is (Hl s),.is (.int m),.is (.int j),.is (.lst (Bd.map .str)),.any,.any] _ _ _;have D:=U.length_eq;refine Al (CC (ZFT (k':=fun b=>(b=true->s.ln.length<5)/\(b=false->j<5->Bd≠[])) ?_ ?_))
 ·walk_at "ww"
  refine Ad (fun c=>?_) (fun c=>?_)
  ·walk_at "ww"
   rw[AQ,D];refine Ad (fun c2=>⟨fun _=>by have:=om c2;omega,fun z=>by cases z⟩) (fun c2=>?_)
   walk_at "ww"
   refine Ad (fun C=>?_) (fun C=>⟨fun z=>(by cases z),fun _ z=>absurd (nv z) C⟩)
   walk_at "ww"
   refine⟨by decide,_,.inl ⟨rfl,rfl,[],rfl,_,rfl,fun z=>?_,fun z _ q=>?_⟩⟩
   ·have:=om z;rw[this] at D;have:s.ln.length=0:=D.symm;omega
   ·rw[nv q] at z;cases z
  ·refine D5 ?_
   walk_at "ww"
   refine Ad (fun C=>?_) (fun C=>⟨fun z=>(by cases z),fun _ z=>absurd (nv z) C⟩)
   walk_at "ww"
   refine⟨by decide,_,.inl ⟨rfl,rfl,[],rfl,_,rfl,fun z=>?_,fun z _ q=>?_⟩⟩
   ·have:=om z;rw[this] at D;have:s.ln.length=0:=D.symm;omega
   ·rw[nv q] at z;cases z
 rintro b ⟨Qw,Xd⟩;cases b with
 | true=>
  refine Bk rfl ?_;refine Cq (Pe (Ld (Hj (Ld (Ym rfl ?_)))));refine BX (FV (oN (LZ (AH rfl ⟨k3,_,rfl,Hj ⟨.inr "sums", _,rfl,rfl,An s.sn,_,rfl,by unfold An;rw[AQ];omega,_,.inl ⟨rfl,rfl,s.sn,ZV _,ok.nm,by omega,fun x hx nx=>?_⟩⟩⟩))));refine Ld (gw rfl (Bh ⟨_,⟨rfl,rfl⟩,?_⟩));rintro _ ⟨r,rfl,a⟩;have Z:Cb r:=by
   unfold Le at a;rcases List.mem_cons.mp a with rfl | a
   ·exact aN (by decide) (by decide +kernel)
   ·rcases List.mem_cons.mp a with rfl | a
    ·exact aN (by decide) (by decide +kernel)
    ·rw[List.mem_singleton.mp a];exact aN (by decide) (by decide +kernel)
  refine LA ⟨by simp,.Fq x r,⟨s.row,s.ln++[x],s.ll++[⟨r,0,Fe s.row⟩],s.sn++[x],s.sq++[⟨s.row.length,0,0,0⟩]⟩,rfl,by show FD s x r=_;unfold FD;rw[pQ ⟨jI hx,nx,nv a⟩],⟨LM hx,Z⟩,?_,v⟩;show(s.ln++[x]).length<=5;have:=Qw rfl;rw[CM,mY];omega
 | false=>
  refine Ah (by decide) (AS ?_);have hb:=Xd rfl;have R:∀t o:Slot,Ws [.AM,.is (Hl s),.is (.int m),.is (.int j),.is (.lst (Bd.map .str)),t,o] (Fp (DK SK [] E0 (Ag (BD 0) (Ag (J7 (BD 1) (tC (V.str "row"))) (Ag (BD 2) BM))))) (fun x=>∃k,(B3.is fun p=>∃e s',p=LE.P e/\En s e=some s'/\e.say/\s'.ln.length<=5/\s'.row.length<=m)=B3.is k/\k .A8) (.is fun p=>∃e s',p=LE.P e/\En s e=some s'/\e.say/\s'.ln.length<=5/\s'.row.length<=m):=fun t o=>by
   refine Cq (lY rfl (BX (LZ (AH rfl ⟨k3,_,rfl,Hj ⟨.inr "row", _,rfl,rfl,_,.inl ⟨rfl,rfl,s.row,rfl,AH rfl ⟨m,rfl,ok.row.nm,v,by omega,by omega,fun d od=>?_⟩⟩⟩⟩))));have W:d.Ok 40 s.row:=by
    cases d with
    | put x i=>exact⟨od.1,od.2.1,od.2.2.1,by have:=od.2.2.2;omega⟩
    | _=>exact od
   exact⟨.CT (Hk d),⟨d.done s.row,s.ln,s.ll.map (Lp.led s.row d),s.sn,Cd s d s.ln.length⟩,(VJ d).symm,by show Fo s (Hk d)=_;unfold Fo;rw[VO (ZCp W)],sS W ok.row.nm ok.row.len,I,(HS.done ⟨v,ok.row.nm,ok.row.nd⟩ od).len⟩
  refine yQ (fun AJ=>∃t o:Slot,AJ=[.AM,.is (Hl s),.is (.int m),.is (.int j),.is (.lst (Bd.map .str)),t,o]) ?_ (by rintro _ ⟨t,o,rfl⟩;exact R t o)
  walk_at "ww"
  refine Ad (fun c=>?_) (fun c=>AS ⟨_,_,rfl⟩);have Ap:=hb (om c);have HL:0<Bd.length:=List.length_pos_iff.mpr Ap
  walk_at "ww"
  rw[AQ];refine⟨by omega,by omega,fun q q0 q1=>?_⟩;obtain⟨q,rfl⟩:=EE q0;obtain⟨x,hx⟩:∃x,Bd[q]?=some x:=⟨_,BC (by omega)⟩;refine⟨_,.str x,rfl,?_,?_⟩
  ·exact Ie (by rw[BU,hx];rfl)
  have M:x∈s.ln:=U.mem_iff.mp (Dh hx);have hi:=List.idxOf_lt_length_iff.mpr M;obtain⟨l,L⟩:∃l,s.ll[s.ln.idxOf x]?=some l:=⟨_,BC (by omega)⟩;have J:=ok.good l (Dh L);have gj:=J.len;have PJ:=ok.row.len;have O:Cb x:=LM (ok.nm x (ok.sub x M));refine Al (Iq (LZ (LZ (AH rfl ⟨k3,_,rfl,Hj ⟨.inr "live", _,rfl,rfl,An s.ln,_,rfl,AH rfl ⟨.inr x,l.P,rfl,U2 M (by rw[BU,L];rfl),?_⟩⟩⟩))));show Ws [.AM,.is (Hl s),.is (.int m),.is (.int j),.is (.lst (Bd.map .str)),.is (.str x),.is (.tup [.str l.r,.int l.g,.tup (l.cs.map .str)])] _ _ _
  walk_at "ww"
  have ov:l.cs=[]->En s (.over x)=some ⟨s.row,s.ln.eraseIdx (s.ln.idxOf x),s.ll.eraseIdx (s.ln.idxOf x),s.sn,s.sq⟩:=fun h=>by
   show EY s x=_;unfold EY;rw[L];show(if l.cs=[] then _ else none)=_
   rw[pQ h]
  have te:∀y∈l.cs,En s (.tell x y)=some ⟨s.row,s.ln,s.ll.set (s.ln.idxOf x) ⟨l.r,s.row.idxOf y+1,wo l.cs y⟩,s.sn,s.sq.modify (s.sn.idxOf x) Sm.tell⟩:=fun y u=>by
   show EU s x y=_;unfold EU;rw[L];show(if y∈l.cs then _ else none)=_
   rw[pQ u]
  have T:∀y∈l.cs,Cb y:=fun y u=>LM (ok.row.nm y (J.sub y u));refine⟨by decide,_,.inr ⟨rfl,rfl,[],rfl,_,rfl,?_⟩⟩
  by_cases n:l.cs=[]
  ·rw[nv n];refine Mp ?_
   walk_at "ww"
   refine⟨by decide,by decide,fun w G N=>?_⟩
   walk_at "ww"
   refine Ad (fun c2=>?_) (fun c2=>AS ?_)
   ·walk_at "ww"
    refine⟨by simp,.over x,_,rfl,ov n,O,?_,v⟩;exact Bi (mW _ _) I
   ·walk_at "ww"
    refine⟨by decide,_,.inr ⟨rfl,rfl,[],rfl,_,rfl,?_⟩⟩;rw[nv n];refine D5 ?_;refine D5 (AS ?_)
    walk_at "ww"
    refine⟨by decide,_,.inr ⟨rfl,rfl,[],rfl,_,rfl,?_⟩⟩;rw[nv n];exact D5 (AS ⟨_,_,rfl⟩)
  ·rw[q8 n];refine D5 (D5 (AS ?_))
   walk_at "ww"
   refine⟨by decide,_,.inr ⟨rfl,rfl,[],rfl,_,rfl,?_⟩⟩;rw[q8 n];refine Mp ?_
   walk_at "ww"
   refine⟨by decide,by decide,fun w G N=>?_⟩
   walk_at "ww"
   refine Ad (fun c2=>?_) (fun c2=>AS ?_)
   ·walk_at "ww"
    rw[AQ];have lp:=List.length_pos_iff.mpr n;refine⟨by omega,by omega,fun w G N=>?_⟩;obtain⟨w,rfl⟩:=EE G;obtain⟨y,u⟩:∃y,l.cs[w]?=some y:=⟨_,BC (by omega)⟩;have B:=Dh u;exact⟨_,.str y,rfl,Ie (by rw[BU,u];rfl),LA ⟨by simp,.tell x y,_,rfl,te y B,⟨O,T y B⟩,I,v⟩⟩
   ·walk_at "ww"
    refine⟨by decide,_,.inr ⟨rfl,rfl,[],rfl,_,rfl,?_⟩⟩;rw[q8 n];refine Mp ?_
    walk_at "ww"
    obtain⟨y,G7,X⟩:∃y G7,Ft s.row l.g l.cs=y::G7:=by
     obtain⟨c,cs,ec⟩:=ZG9 n;have Y:c∈l.cs:=by rw[ec];exact Dg
     have:c∈Ft s.row l.g l.cs:=RC.mpr ⟨J.sub c Y,Y⟩;exact ZG9 fun z=>by rw[z] at this;cases this
    have B:y∈l.cs:=(RC.mp (by rw[X];exact Dg)).2;have S:Me s.row l.r l.g l.cs=.tup [.str y,Ed l.r (s.row.idxOf y+1) (wo l.cs y)]:=by unfold Me;rw[X]
    refine BX (um (BX (LZ (AH rfl ⟨k3,_,rfl,Hj ⟨.inr "row", _,rfl,rfl,_,.inl ⟨rfl,rfl,s.row,rfl,AH rfl ⟨l.r,l.g,l.cs,rfl,J,by omega,_,.inr ⟨S,rfl,Bw ⟨_,_,rfl,rfl,?_⟩⟩⟩⟩⟩⟩))));exact LA ⟨by simp,.tell x y,_,rfl,te y B,⟨O,T y B⟩,I,v⟩
def SR:As ["row","deed","made","low","high"] ["row","deed"] (Ae Rb):=by walk_at "z1"
noncomputable def ZFL:Scope:={ kind:=.function,names:=[(".0", .local),("name", .local),("deed", .free)],isGenerator:=false,isCoroutine:=false,more:=[] }
def ZB1:Ep ["row","deed","made","low","high"] (Ae Rb) ZFL "name" ["deed"] [1]:=by walk_at "z2"
def ZCr (F:AE K "_law_done" "_law_done" Rb f fd)(m:mg "_law_done"=some (.ref f)):
  AG P w K mg base "_law_done" 1 ["row","deed"] (aO):=by
 refine AG.mk F (F.binds (by walk_at "bD2")) m (F.BS (k:=0) SR (fun vs H Q E h=>?_) (fun AY A outer s H vs Q E hr h=>?_))
 ·obtain⟨a,t,ns,d,rfl,r,g,hd,z,nd,q⟩:=h;rfl
 obtain⟨a,t,ns,d,rfl,r,g,hd,z,nd,q⟩:=h;refine⟨_,(A9 rfl (qt (i:=2) SR.nd rfl (Or.inl rfl) rfl ZB1 (J3 (qv 0)) (fun _ _ _ _=>by exact(L5 (AW Lk (qv 1) (AD (show IK _ (NC K) from AL) (qv 0) A5)))) (fun _ _ _ _=>by exact(qv 1)))
   (A9 rfl (Ai (AW BP (AD AL (qv 1) A5) AZ) (A9 rfl (HV (FA hZ (qv 1) (EX A5) GK) (Ky rfl (Dq (Ck 3 SR.nd) (Dq (Ck 4 SR.nd) LP))))
   (AA rfl (Aa (B6 Lm (B6 Lm (FA NW (qv 0) GK (EX (qv 3))) (jU rfl rfl C3 rfl Mx (A0 (FA NW (qv 0) (EX (qv 3)) (EX (qv 4))) A4))) (FA NW (qv 0) (EX (qv 4)) GK))))) Ak)
   (A9 rfl (CF (Ai (AW Lk (AD AL (qv 1) A5) AZ) (AA rfl (DV (Gx Iv bJ mz Xv (qv 2) (A0 (AD AL (qv 1) A5) (A0 (AD AL (qv 1) A5) A4))))) Ak))
   (AA rfl (Aa (qv 2)))))),?_⟩
 have o:=HF ns;have C:∀n:Nat,n<=2001->n<=sizeLine:=fun n h=>Bi h (by decide +kernel);have l:EC K false H a (ns.map V.str):=AN.of r;cases d with
 | put x i=>
  obtain⟨h1,h2,h3,h4⟩:=hd;have u:(wo ns x).length<=ns.length:=Nn _ _;refine⟨_,rfl,false,a,_,rfl,l,fun acc B2=>L7 (IF (.str x)) (fun v=>v) l B2 (by rw[o];exact small (by omega)) (fun i v H' Q' e s1 h=>?_) (fun i v H' Q' e _ s1 h=>?_) (fun H' s1 c=>?_)⟩
  ·obtain⟨y,rfl,B⟩:=LY e;exact⟨_,rfl,_,rfl,t,_,_,_,rfl,rfl,AU.of (s1 _ _ g),rfl,rfl,_,rfl,h H' (AB.refl _)⟩
  ·exact⟨_,rfl,h H' (AB.refl _)⟩
  have b:=s1 _ _ g;rw[OX] at c;refine⟨_,rfl,t,_,_,_,rfl,rfl,AU.of b,rfl,rfl,_,rfl,Ah (by decide +kernel) ?_⟩;refine⟨fun σ' H'=>σ'=[some (.ref a),some (.ref t),some (.ref acc),none,none]/\AB H H'/\H' acc=some (.lst ((ins (wo ns x) x i).map V.str)),?_,?_⟩
  ·refine⟨_,rfl,t,_,_,_,rfl,rfl,AU.of b,rfl,rfl,_,rfl,Vp (by decide +kernel) ?_⟩;refine⟨_,rfl,.inl ⟨rfl,_,AN.of c⟩,_,rfl,t,_,_,_,rfl,rfl,AU.of b,rfl,_,rfl,t,_,_,_,rfl,rfl,AU.of b,rfl,acc,_,_,_,rfl,rfl,c,by omega,by rw[HF];rw[Qq h2];omega,by rw[HF];exact Ht u (Ht z (by decide +kernel)),?_⟩;refine⟨rfl,jK s1 B2,?_⟩;rw[AO];unfold ins;simp only[EF,Nq,Bp,Np,Ki]
  ·rintro σ' H2 ⟨rfl,s2,j⟩;exact⟨_,rfl,q acc H2 B2 s2 (by rw[Qq h2] at j;exact j)⟩
 | take x=>
  have u:(wo ns x).length<=ns.length:=Nn _ _;refine⟨_,rfl,false,a,_,rfl,l,fun acc B2=>L7 (IF (.str x)) (fun v=>v) l B2 (by rw[o];exact small (by omega)) (fun i v H' Q' e s1 h=>?_) (fun i v H' Q' e _ s1 h=>?_) (fun H' s1 c=>?_)⟩
  ·obtain⟨y,rfl,B⟩:=LY e;exact⟨_,rfl,_,rfl,t,_,_,_,rfl,rfl,AU.of (s1 _ _ g),rfl,rfl,_,rfl,h H' (AB.refl _)⟩
  ·exact⟨_,rfl,h H' (AB.refl _)⟩
  have b:=s1 _ _ g;rw[OX] at c;refine⟨_,rfl,t,_,_,_,rfl,rfl,AU.of b,rfl,rfl,_,rfl,Ah (by decide +kernel) ?_⟩;refine⟨fun σ' H'=>σ'=[some (.ref a),some (.ref t),some (.ref acc),none,none]/\AB H H'/\H' acc=some (.lst ((wo ns x).map V.str)),?_,?_⟩
  ·refine⟨_,rfl,t,_,_,_,rfl,rfl,AU.of b,rfl,rfl,_,rfl,Ah (by decide +kernel) ?_⟩;exact⟨rfl,s1,c⟩
  ·rintro σ' H2 ⟨rfl,s2,j⟩;exact⟨_,rfl,q acc H2 B2 s2 j⟩
 | move x i=>
  obtain⟨h1,h2⟩:=hd;have u:(wo ns x).length<=ns.length:=Nn _ _;have ZGh:=Ou h1 nd;refine⟨_,rfl,false,a,_,rfl,l,fun acc B2=>L7 (IF (.str x)) (fun v=>v) l B2 (by rw[o];exact small (by omega)) (fun i v H' Q' e s1 h=>?_) (fun i v H' Q' e _ s1 h=>?_) (fun H' s1 c=>?_)⟩
  ·obtain⟨y,rfl,B⟩:=LY e;exact⟨_,rfl,_,rfl,t,_,_,_,rfl,rfl,AU.of (s1 _ _ g),rfl,rfl,_,rfl,h H' (AB.refl _)⟩
  ·exact⟨_,rfl,h H' (AB.refl _)⟩
  have b:=s1 _ _ g;rw[OX] at c;refine⟨_,rfl,t,_,_,_,rfl,rfl,AU.of b,rfl,rfl,_,rfl,Ah (by decide +kernel) ?_⟩;refine⟨fun σ' H'=>σ'=[some (.ref a),some (.ref t),some (.ref acc),none,none]/\AB H H'/\H' acc=some (.lst ((ins (wo ns x) x i).map V.str)),?_,?_⟩
  ·refine⟨_,rfl,t,_,_,_,rfl,rfl,AU.of b,rfl,rfl,_,rfl,Vp (by decide +kernel) ?_⟩;refine⟨_,rfl,.inl ⟨rfl,_,AN.of c⟩,_,rfl,t,_,_,_,rfl,rfl,AU.of b,rfl,_,rfl,t,_,_,_,rfl,rfl,AU.of b,rfl,acc,_,_,_,rfl,rfl,c,by omega,by rw[HF];omega,by rw[HF];exact Ht u (Ht z (by decide +kernel)),?_⟩;refine⟨rfl,jK s1 B2,?_⟩;rw[AO];unfold ins;simp only[EF,Nq,Bp,Np,Ki]
  ·rintro σ' H2 ⟨rfl,s2,j⟩;exact⟨_,rfl,q acc H2 B2 s2 j⟩
 | turn lo hi=>
  obtain⟨h1,h2⟩:=hd;refine⟨_,rfl,false,a,_,rfl,l,fun acc B2=>L7 (IF (.int lo)) (fun v=>v) l B2 (by rw[o];exact small (by omega)) (fun i v H' Q' e s1 h=>?_) (fun i v H' Q' e _ s1 h=>?_) (fun H' s1 c=>?_)⟩
  ·obtain⟨y,rfl,B⟩:=LY e;exact⟨_,rfl,_,rfl,t,_,_,_,rfl,rfl,AU.of (s1 _ _ g),rfl,rfl,_,rfl,h H' (AB.refl _)⟩
  ·exact⟨_,rfl,h H' (AB.refl _)⟩
  have b:=s1 _ _ g;rw[tj] at c;refine⟨_,rfl,t,_,_,_,rfl,rfl,AU.of b,rfl,rfl,_,rfl,Vp (by decide +kernel) ?_⟩;refine⟨_,rfl,_,rfl,t,_,rfl,AU.of b,(fun h=>absurd h.1 (show ¬ HT.Aq 3 0 (some 1)=0 by decide)),fun p n=>?_⟩;have n1:=B7 n (.tup (Cr (Ab.turn lo hi).vals (some 1) none));refine⟨p,_,rfl,AU.of AO,rfl,_,_,rfl,_,_,rfl,rfl,?_⟩;have s2:=s1.trans n1;have j:=s2 _ _ r;refine⟨_,rfl,_,rfl,_,rfl,a,_,rfl,AN.of j,fun l3 X=>?_⟩;rw[bS];have R:=B7 X (.lst ((ns.map V.str).take lo));have M:=s2.trans R;refine⟨_,rfl,_,rfl,_,rfl,_,rfl,_,rfl,a,_,rfl,AN.of (M _ _ r),fun l4 W=>?_⟩;rw[ng _ h1 (by rw[o];exact h2)];have I:=B7 W (.lst (((ns.map V.str).drop lo).take (hi - lo)));refine⟨l4,false,_,rfl,AN.of AO,fun l5 U=>?_⟩;have G:=B7 U (.lst (((ns.map V.str).drop lo).take (hi - lo)).reverse);refine⟨l3,l5,_,_,rfl,rfl,G _ _ (I _ _ AO),AO,C _ (by simp only[Cn,ay,Em];omega),fun l6 T=>?_⟩;have O:=B7 T (.lst ((ns.map V.str).take lo++(((ns.map V.str).drop lo).take (hi - lo)).reverse));have L:=M.trans (I.trans (G.trans O));refine⟨_,rfl,_,rfl,_,rfl,a,_,rfl,AN.of (L _ _ r),fun Z S=>?_⟩;rw[fg];have D:=B7 S (.lst ((ns.map V.str).drop hi));refine⟨l6,Z,_,_,rfl,rfl,D _ _ AO,AO,C _ (by simp only[CM,Cn,Em,ay];omega),fun Y N=>?_⟩;have J:=L.trans D;refine q Y _ (AB.none J N) (J.trans (B7 N _)) ?_;rw[AO];show some (HO.lst _)=some (HO.lst ((Fm ns lo hi).map V.str));unfold Fm;simp only[EF,Nq,Np,ZGH,C0]
def rC:As ["text"] ["text"] (Ae Qh):=by walk_at "z1"
noncomputable def ZCM:Scope:={ kind:=.function,names:=[(".0", .local),("sign", .local)],isGenerator:=false,isCoroutine:=false,more:=[] }
def sh:Ep ["text"] (Ae Qh) ZCM "sign" [] []:=by walk_at "z2"
def tm (F:AE K "_law_is_name" "_law_is_name" Qh f fd)(m:mg "_law_is_name"=some (.ref f)):
  AG P w K mg base "_law_is_name" 1 ["text"] (Lo):=by
 refine AG.mk F (F.binds (by walk_at "bD1")) m (F.BS (k:=0) rC (fun vs H Q E h=>?_) (fun AY A outer s H vs Q E d h=>?_))
 ·obtain⟨x,rfl,hx,q⟩:=h;rfl
 obtain⟨x,rfl,hx,q⟩:=h;refine⟨_,(AA rfl (Aa (Tn (Nb E7 E7 A5 (BF Xs Aj (A0 (qv 0) A4)) A5) (MV (BF (lH rfl) NT (A0 (KZ rfl sh (jJ (qv 0)) (fun _ _ _ _=>by exact iA) (fun _ _ _ _=>by exact(Ir hV (qv 0) AZ))) A4)))))),?_⟩;refine⟨_,rfl,_,rfl,small (by omega),_,_,rfl,rfl,_,rfl,?_⟩;refine Ad (fun c=>?_) (fun c=>⟨_,rfl,D5 ?_⟩)
 ·refine⟨_,_,rfl,rfl,_,rfl,?_⟩;refine Ad (fun c2=>?_) (fun c2=>?_)
  ·refine⟨_,rfl,x,rfl,fun acc B2=>dX (fun _=>true) Zk B2 (by rw[<- Nh,<- Ho];exact small (by omega)) (fun i v H' Q' _ _ h=>h H' (AB.refl _)) (fun i v H' Q' b _ _ h=>?_) (fun H' s1 a=>?_)⟩
   ·obtain⟨g,rfl⟩:=signs_get b;exact⟨_,rfl,_,_,rfl,rfl,h H' (AB.refl _)⟩
   ·rw[kT] at a;refine⟨acc,_,rfl,AN.of a,?_⟩;rw[all_map];have e:isNm x=x.cps.toList.all LR:=by unfold isNm;rw[c,c2];rfl
    rw[<- e];exact q H' s1
  ·have e:isNm x=false:=by unfold isNm;rw[Bool.eq_false_iff.mpr c2];simp
   rw[<- e];exact q H (AB.refl _)
 ·have e:isNm x=false:=by unfold isNm;rw[Bool.eq_false_iff.mpr c];simp
  rw[<- e];exact q H (AB.refl _)
def oz:As ["row","deed"] ["row","deed"] (Ae UG):=by walk_at "z1"
def dh : ∀ss R,V2 ss R->ss.length=2:=by rintro _ _ ⟨ns,d,rfl,_,_,rfl⟩;rfl
def pH (F:AE K "_law_deed_right" "_law_deed_right" UG f fd)(m:mg "_law_deed_right"=some (.ref f)):
  AG P w K mg base "_law_deed_right" 2 ["row","deed"] (BE V2):=by
 refine AG.mk F (F.binds (by walk_at "bD2")) m (F.BS (k:=1) oz (fun vs H Q E h=>Fz.DW dh h) (fun AY A outer s H vs Q E j h=>?_))
 refine⟨_,(A9 rfl (Ai (AW BP (AD AL (qv 1) A5) AZ) (AA rfl (Aa (Tn (Nb E7 E7 A5 (AD AL (qv 1) A5) (BF CJ Aj (A0 (qv 0) A4))) (MV (Nb E7 E7 (AD AL (qv 1) A5) (AD AL (qv 1) A5) (BF CJ Aj (A0 (qv 0) A4))))))) Ak)
   (A9 rfl (Ai (AW BP (AD AL (qv 1) A5) AZ) (A9 rfl (Ai (Fb (Gr (IX (Af Mm j (A0 (AD AL (qv 1) A5) A4)))) (Fb (AW Mu (AD AL (qv 1) A5) (qv 0)) (Hb (AW MH (BF CJ Aj (A0 (qv 0) A4)) A5)))).pt (AA rfl (Aa DP)) Ak)
   (AA rfl (Aa (Nb E7 E7 A5 (AD AL (qv 1) A5) (BF CJ Aj (A0 (qv 0) A4)))))) Ak)
   (A9 rfl (Ai (AW Kv (AD AL (qv 1) A5) (qv 0)) (AA rfl (Aa DP)) Ak)
   (AA rfl (Aa (bc (Ir BP (AD AL (qv 1) A5) AZ) (MV (Nb E7 Ff A5 (AD AL (qv 1) A5) (BF CJ Aj (A0 (qv 0) A4)))))))))),?_⟩
 refine Fz.DY h dh ?_;rintro _ _ ⟨ns,d,rfl,g,n,rfl⟩;show Ws [_,_] _ _ _;cases d with
 | put x i=>
  unfold aP;dsimp only
  walk_at "ww"
  refine Ah (by decide +kernel) (AS ?_)
  walk_at "ww"
  refine Bk (by decide +kernel) ?_;refine Al (CC (Hy (Ib (Fc (Ss ?_)))))
  walk_at "ww"
  refine⟨g.1.2,_,rfl,?_⟩;refine Ad (fun c=>?_) (fun c=>?_)
  ·refine Cq (Ci ?_);rw[J1];simp only[Ac.Aw];have l:isNm x=false:=by cases e:isNm x with
    | false=>rfl
    | true=>rw[e] at c;cases c
   rw[pQ l];rfl
  have h1:isNm x=true:=by cases e:isNm x with
   | true=>rfl
   | false=>exact absurd (by rw[e];rfl) c
  walk_at "ww"
  refine Ad (fun c2=>?_) (fun c2=>?_)
  ·refine Cq (Ci ?_);rw[J1];simp only[Ac.Aw];rw[o5 (by rw[h1];decide),pQ (om c2)];rfl
  have h2:x∉ns:=fun z=>c2 (nv z)
  walk_at "ww"
  rw[AQ];refine Ad (fun b=>?_) (fun b=>AS ?_)
  ·refine Cq (Ci ?_);rw[xp h1 h2 (by have:=om b;omega)]
  walk_at "ww"
  rw[wC h1 h2 (by have:¬ (40:Int)<=ns.length:=fun z=>b (nv z);omega),Sf];refine Ad (fun a=>?_) (fun a=>?_)
  ·walk_at "ww"
   rw[a,AQ];rfl
  ·rw[Bool.eq_false_iff.mpr a];rfl
 | take x=>
  unfold aP;dsimp only
  walk_at "ww"
  refine Ah (by decide +kernel) (AS ?_)
  walk_at "ww"
  refine Ah (by decide +kernel) (AS ?_)
  walk_at "ww"
  refine Ad (fun c=>?_) (fun c=>AS ?_)
  ·refine Cq (Ci ?_);rw[J1];simp only[Ac.Aw];rw[pQ (fun z=>by rw[nv z] at c;cases c)];rfl
  have h2:x∈ns:=Jb fun z=>c (by rw[q8 z];rfl)
  walk_at "ww"
  refine Bk (by decide +kernel) ?_;rw[J1];simp only[Ac.Aw];rw[o5 (Decidable.not_not.mpr h2)];rfl
 | move x i=>
  unfold aP;dsimp only
  walk_at "ww"
  refine Ah (by decide +kernel) (AS ?_)
  walk_at "ww"
  refine Ah (by decide +kernel) (AS ?_)
  walk_at "ww"
  refine Ad (fun c=>?_) (fun c=>AS ?_)
  ·refine Cq (Ci ?_);rw[J1];simp only[Ac.Aw];rw[pQ (fun z=>by rw[nv z] at c;cases c)];rfl
  have h2:x∈ns:=Jb fun z=>c (by rw[q8 z];rfl)
  walk_at "ww"
  refine Ah (by decide +kernel) ?_
  walk_at "ww"
  rw[ZFh h2,Sf];refine Ad (fun a=>?_) (fun a=>?_)
  ·walk_at "ww"
   rw[a,AQ,aZ]
   congr 1
   rw[decide_eq_decide];omega
  ·rw[Bool.eq_false_iff.mpr a];rfl
 | turn lo hi=>
  unfold aP;dsimp only
  walk_at "ww"
  refine Bk (by decide +kernel) ?_
  walk_at "ww"
  rw[z8,Sf,Sf];refine Ad (fun c=>?_) (fun c=>?_)
  ·walk_at "ww"
   rw[AQ];refine Ad (fun c2=>?_) (fun c2=>?_)
   ·walk_at "ww"
    refine Ad (fun b=>?_) (fun b=>?_)
    ·walk_at "ww"
     rw[c,c2,b,AQ];rfl
    ·rw[c,c2,Bool.eq_false_iff.mpr b];rfl
   ·rw[c,Bool.eq_false_iff.mpr c2];rfl
  ·rw[Bool.eq_false_iff.mpr c];exact⟨_,rfl,D5 rfl⟩
def ZP:As ["row","gap","deed"] ["row","gap","deed"] (Ae Xj):=by walk_at "z1"
def ZA8 (F:AE K "_law_gap" "_law_gap" Xj f fd)(m:mg "_law_gap"=some (.ref f)):
  AG P w K mg base "_law_gap" 1 ["row","gap","deed"] (bV):=by
 refine AG.mk F (F.binds (by walk_at "bD3")) m (F.BS (k:=0) ZP (fun vs H Q E h=>?_) (fun AY A outer s H vs Q E r h=>?_))
 ·obtain⟨a,t,ns,g,d,rfl,e,b,ok,q⟩:=h;rfl
 obtain⟨a,t,ns,g,d,rfl,e,b,ok,q⟩:=h;refine⟨_,(A9 rfl (CF (Ai (AW Mu (AD AL (qv 2) A5) (Bx (A0 AZ (A0 AZ A4)))) (AA rfl (Az 1 ZP.nd (B6 O1 (qv 1) (D4 RW Ka (A0 (Ir Ff (Gx Iv U0 bK Qx (qv 0) (A0 (AD AL (qv 2) A5) A4)) (qv 1)) A4))))) Ak))
   (A9 rfl (CF (Ai (AW Mu (AD AL (qv 2) A5) (Bx (A0 AZ (A0 AZ A4)))) (AA rfl (Az 1 ZP.nd (B6 EA (qv 1) (D4 RW Ka (A0 (Ir Ff (AD AL (qv 2) A5) (qv 1)) A4))))) Ak))
   (AA rfl (Aa (qv 1))))),?_⟩
 refine⟨fun σ' H'=>σ'=[some (.ref a),some (.int (d.Ot ns g:Nat)),some (.ref t)]/\AB H H',?_,?_⟩
 ·refine⟨_,rfl,t,_,_,_,rfl,rfl,AU.of b,Ru d,(by show 2<=sizeLine;decide),fun n OP=>?_⟩;have n1:=B7 OP (.tup [.str "take", .str "move"]);refine⟨n,_,rfl,.inr (AU.of AO),rfl,rfl,_,rfl,?_⟩;show if GD (.str d.kind) [.str "take", .str "move"]=true then _ else _
  refine Ad (fun c=>?_) (fun c=>?_)
  ·obtain⟨x,Ks,Iz,o⟩:=ZD8 g ok c;refine⟨_,rfl,_,rfl,.inl ⟨rfl,_,AN.of (n1 _ _ e)⟩,_,rfl,t,_,_,_,rfl,rfl,AU.of (n1 _ _ b),Ks,a,ns,x,rfl,rfl,AN.of (n1 _ _ e),Iz,_,rfl,_,_,rfl,rfl,.inr ⟨_,rfl,_,_,rfl,rfl,?_,n1⟩⟩;rw[o,<- ZFX];rfl
  ·refine⟨?_,n1⟩;rw[ZAu g c];rfl
 rintro σ' H1 ⟨rfl,s1⟩;have j:=s1 _ _ b;refine⟨fun σ' H'=>σ'=[some (.ref a),some (.int (d.gap ns g:Nat)),some (.ref t)]/\AB H H',?_,?_⟩
 ·refine⟨_,rfl,t,_,_,_,rfl,rfl,AU.of j,Ru d,(by show 2<=sizeLine;decide),fun l Lv=>?_⟩;have n2:=B7 Lv (.tup [.str "put", .str "move"]);refine⟨l,_,rfl,.inr (AU.of AO),rfl,rfl,_,rfl,?_⟩;show if GD (.str d.kind) [.str "put", .str "move"]=true then _ else _
  refine Ad (fun c=>?_) (fun c=>?_)
  ·obtain⟨i,p,GR⟩:=sG (ns:=ns) g c;refine⟨_,rfl,_,rfl,t,_,_,_,rfl,rfl,AU.of (n2 _ _ j),p,_,rfl,_,_,rfl,rfl,.inr ⟨_,rfl,_,_,rfl,rfl,?_,s1.trans n2⟩⟩;rw[GR,<- ZEK];rfl
  ·refine⟨?_,s1.trans n2⟩;rw[ZBE g c]
 rintro σ' H2 ⟨rfl,s2⟩;exact⟨_,rfl,q _ s2⟩
def N0:As ["row","loop","deed","rule","gap","coming"] ["row","loop","deed"] (Ae Rx):=by walk_at "z1"
noncomputable def ZDL:Scope:={ kind:=.function,names:=[(".0", .local),("name", .local),("deed", .free)],isGenerator:=false,isCoroutine:=false,more:=[] }
def nP:Ep ["row","loop","deed","rule","gap","coming"] (Ae Rx) ZDL "name" ["deed"] [2]:=by walk_at "z2"
def uN (F:AE K "_law_led" "_law_led" Rx f fd)(m:mg "_law_led"=some (.ref f)):
  AG P w K mg base "_law_led" 2 ["row","loop","deed"] (XX):=by
 refine AG.mk F (F.binds (by walk_at "bD3")) m (F.BS (k:=1) N0 (fun vs H Q E h=>?_) (fun AY A outer s H vs Q E hr h=>?_))
 ·obtain⟨a,tl,t,c,ns,r,g,ss,d,rfl,hS,⟨hL,J⟩,e,ok,p,hz,q⟩:=h;rfl
 obtain⟨a,tl,t,c,ns,r,g,ss,d,rfl,hS,⟨hL,J⟩,e,ok,p,hz,q⟩:=h;refine⟨_,(A9 rfl (HV (qv 1) (Ky rfl (Dq (Ck 3 N0.nd) (Dq (Ck 4 N0.nd) (Dq (Ck 5 N0.nd) LP)))))
   (A9 rfl (CF (Ai (AW BP (AD AL (qv 2) A5) AZ) (AA rfl (Az 5 N0.nd (D4 Kg DG (A0 (KZ rfl nP (J3 (qv 5)) (fun _ _ _ _=>by exact(L5 (AW Lk (qv 1) (AD (show IK _ (NC K) from AL) (qv 0) A5)))) (fun _ _ _ _=>by exact(qv 1))) A4)))) Ak))
   (A9 rfl (CF (Ai (FO (AW BP (AD AL (qv 2) A5) AZ) (GN (Fb (AW BP (qv 3) AZ) (Hb (FO (AW BP (qv 3) AZ) (GN (AW MH (AD AL (qv 2) A5) (qv 4)))).pt)).pt)).pt (AA rfl (Az 5 N0.nd (D4 Kg DG (A0 (BF Ry FH (A0 (B6 dr (qv 5) (Bx (A0 (AD AL (qv 2) A5) A4))) A4)) A4)))) Ak))
   (AA rfl (Aa (Bx (A0 (qv 3) (A0 (Af Y8 hr (A0 (qv 0) (A0 (qv 4) (A0 (qv 2) A4)))) (A0 (qv 5) A4))))))))),?_⟩
 have Z:=p.len;refine⟨_,rfl,tl,_,rfl,AU.of hL,rfl,_,_,rfl,_,_,rfl,_,_,rfl,rfl,?_⟩;refine⟨fun σ' H'=>∃b:Addr,σ'=[some (.ref a),some (.ref tl),some (.ref t),some (.str r),some (.int g),some (.ref b)]/\AB H H'/\(H b=none∨b=c)/\H' b=some (.tup ((d.RX ss).map V.str)),?_,?_⟩
 ·refine⟨_,rfl,t,_,_,_,rfl,rfl,AU.of e,Ru d,rfl,_,rfl,?_⟩;refine Ad (fun j=>?_) (fun j=>⟨c,rfl,AB.refl _,.inr rfl,by rw[ZDa j];exact J⟩);obtain⟨x,Ks,Iz⟩:=tK (r:=r) (g:=g) (ss:=ss) j;have X:EC K true H c (ss.map V.str):=AU.of J;refine⟨_,rfl,true,c,_,rfl,X,fun acc B2=>L7 (IF (.str x)) (fun v=>v) X B2 (by rw[HF];exact small (by omega)) (fun i v H' Q' Y s4 h=>?_) (fun i v H' Q' Y _ s4 h=>?_) (fun H4 s4 e4=>?_)⟩
  ·obtain⟨y,rfl,_⟩:=LY Y;exact⟨_,rfl,_,rfl,t,_,_,_,rfl,rfl,AU.of (s4 _ _ e),Ks,rfl,_,rfl,h _ (AB.refl _)⟩
  ·exact⟨_,rfl,h _ (AB.refl _)⟩
  rw[OX,<- Iz] at e4;exact⟨acc,_,rfl,.inl ⟨AN.of e4,fun t5 dQ=>⟨t5,rfl,s4.trans (B7 dQ _),.inl (AB.none s4 dQ),AO⟩⟩⟩
 rintro σ' H1 ⟨c1,rfl,s1,L,o⟩;refine⟨fun σ' H'=>∃b:Addr,σ'=[some (.ref a),some (.ref tl),some (.ref t),some (.str r),some (.int g),some (.ref b)]/\AB H H'/\(H b=none∨b=c)/\H' b=some (.tup ((d.Gd r g ss).map V.str)),?_,?_⟩
 ·refine⟨_,rfl,t,_,_,_,rfl,rfl,AU.of (s1 _ _ e),Ru d,rfl,_,rfl,?_⟩;refine Ad (fun R=>?_) (fun R=>D5 ⟨c1,rfl,s1,L,by rw[wG R];exact o⟩);obtain⟨x,i,rfl⟩:=zp R;replace o:H1 c1=some (.tup (ss.map V.str)):=o;refine⟨_,rfl,rfl,_,rfl,?_⟩;refine Ad (fun j=>?_) (fun j=>?_)
  ·have n:Ef r g i=true:=by unfold Ef;rw[pQ j]
   refine Mp ?_;refine⟨_,rfl,_,rfl,t,_,_,_,rfl,rfl,AU.of (s1 _ _ e),rfl,(by show 1<=sizeLine;decide),fun C VD=>?_⟩;have l:=B7 VD (.tup [.str x]);refine⟨c1,C,_,_,rfl,rfl,AU.of (l _ _ o),AU.of AO,by simp,small (by rw[HF];simp;omega),fun z H7 u M=>?_⟩;have T:AU K H7 z ((ss++[x]).map V.str):=by rw[EF];exact M
   refine⟨z,true,ss++[x],rfl,T,by rw[CM];simp;omega,fun D ts Xh I G=>?_⟩;have B:=B7 Xh (.lst (ts.map V.str));refine⟨D,_,rfl,.inl ⟨AN.of AO,fun S Nv=>?_⟩⟩;exact⟨S,rfl,s1.trans (l.trans (u.trans (B.trans (B7 Nv _)))),.inl (AB.none (s1.trans (l.trans (u.trans B))) Nv),by rw[AO,UA I G p.up (UW p ok x i rfl),W6 n]⟩
  ·refine⟨_,rfl,rfl,_,rfl,?_⟩;refine Ad (fun O=>?_) (fun O=>?_)
   ·refine⟨_,rfl,t,_,_,_,rfl,rfl,AU.of (s1 _ _ e),rfl,_,rfl,_,_,rfl,rfl,_,rfl,?_⟩;have Nc:Ef r g i=decide ((g:Int)<=(i:Int)):=by unfold Ef;rw[o5 j,pQ O]
    refine Ad (fun N=>?_) (fun N=>?_)
    ·have n:Ef r g i=true:=Nc.trans N;refine⟨_,rfl,_,rfl,t,_,_,_,rfl,rfl,AU.of (s1 _ _ e),rfl,(by show 1<=sizeLine;decide),fun C VD=>?_⟩;have l:=B7 VD (.tup [.str x]);refine⟨c1,C,_,_,rfl,rfl,AU.of (l _ _ o),AU.of AO,by simp,small (by rw[HF];simp;omega),fun z H7 u M=>?_⟩;have T:AU K H7 z ((ss++[x]).map V.str):=by rw[EF];exact M
     refine⟨z,true,ss++[x],rfl,T,by rw[CM];simp;omega,fun D ts Xh I G=>?_⟩;have B:=B7 Xh (.lst (ts.map V.str));refine⟨D,_,rfl,.inl ⟨AN.of AO,fun S Nv=>?_⟩⟩;exact⟨S,rfl,s1.trans (l.trans (u.trans (B.trans (B7 Nv _)))),.inl (AB.none (s1.trans (l.trans (u.trans B))) Nv),by rw[AO,UA I G p.up (UW p ok x i rfl),W6 n]⟩
    ·have n:Ef r g i=false:=Nc.trans (Bool.eq_false_iff.mpr N);exact⟨c1,rfl,s1,L,by rw[UR n];exact o⟩
   ·have n:Ef r g i=false:=by unfold Ef;rw[o5 j,o5 O]
    exact D5 ⟨c1,rfl,s1,L,by rw[UR n];exact o⟩
 rintro σ' H2 ⟨c2,rfl,s2,f2,e2⟩;refine⟨_,rfl,_,rfl,_,rfl,_,rfl,a,t,ns,g,d,rfl,s2 _ _ hS,s2 _ _ e,ok,fun H3 U=>?_⟩;refine⟨_,rfl,(by show 3<=sizeLine;decide),fun t4 eI=>?_⟩;have k3:=s2.trans U;have W:=B7 eI (.tup [.str r,.int (d.gap ns g:Nat),.ref c2]);exact q t4 c2 _ (AB.none k3 eI) f2 (k3.trans W) ⟨AO,W _ _ (U _ _ e2)⟩
def qQ:As ["state","name","place"] ["state","name","place"] (Ae Va):=by walk_at "z1"
def cI : ∀ss R,OT ss R->ss.length=3:=by rintro _ _ ⟨s,a,t,x,k,rfl,_,_,_,_,rfl⟩;rfl
def ZAP (F:AE K "_law_counted" "_law_counted" Va f fd)(m:mg "_law_counted"=some (.ref f)):
  AG P w K mg base "_law_counted" 1 ["state","name","place"] (Br OT):=by
 refine AG.mk F (F.binds (by walk_at "bD3")) m (F.BS (k:=0) qQ (fun vs H Q E h=>Fz.Gh cI h) (fun AY A outer s H vs Q E c h=>?_))
 refine⟨_,(AA rfl (HV (B6 EA (AD D1 (C8 (BO c) (C8 (BO c) (qv 0) AZ (fun _ _=>rfl)) (qv 1) (fun _ _=>rfl)) (qv 2)) A5) (Mr (C8 (BO c) (C8 (BO c) (qv 0) AZ (fun _ _=>rfl)) (qv 1) (fun _ _=>rfl)) (qv 2) set_list))),?_⟩;refine Fz.RU h cI ?_;rintro _ _ ⟨s,a,t,x,k,rfl,n,hx,p,l,rfl⟩;obtain⟨aL,aS,us,BK,rfl⟩:=n;show Ws [_,_,_] _ _ _;obtain⟨q,g⟩:∃q,s.sq[s.sn.idxOf x]?=some q:=⟨_,BC (by have:=List.idxOf_lt_length_iff.mpr hx;omega)⟩;obtain⟨u,d,b,rfl⟩:=BK.get g;obtain⟨v,j,hw⟩:∃v:Int,(GO q)[k]?=some (.int v)/\(GO q).set k (.int (v+1))=GO (Zj k q):=by
  rcases l with rfl | rfl | rfl
  ·exact⟨_,rfl,rfl⟩
  ·exact⟨_,rfl,rfl⟩
  ·exact⟨_,rfl,rfl⟩
 have e:k<(GO q).length:=by show k<4;omega
 refine vp (i:=0) (t:=Bb s a aL aS us) (YY (D3 (Pt (G8 (RI rfl ⟨An s.sn,aS,us,rfl,AH rfl ⟨.inr x,s.sn.idxOf x,_,rfl,G1 hx,d,b,_,rfl,AH rfl ⟨_,k,.fz (.int v),rfl,?_,?_,_,rfl,?_⟩⟩⟩)))))
 ·rw[AQ];exact N1 e
 ·rw[BU,j];rfl
 refine⟨_,rfl,Bw ⟨_,rfl,G8 (RI rfl ⟨An s.sn,aS,us,rfl,AH rfl ⟨.inr x,s.sn.idxOf x,_,rfl,G1 hx,d,true,b,GO q,rfl,rfl,AH rfl ⟨k,rfl,e,?_⟩⟩⟩)⟩⟩;unfold Bb;rw[show(([]++[2])++[s.sn.idxOf x]:List Nat)=[2,s.sn.idxOf x] from rfl,RQ d,hw];exact⟨_,_,_,_,rfl,rfl,rfl,aL,aS,_,BK.set fun o h'=>by rw[g] at h';cases h';exact⟨b,rfl⟩,rfl⟩
def RK:As ["state","deed","name","loop","later"] ["state","deed"] (Ae VG):=by walk_at "z1"
def gY : ∀ss R,Qo ss R->ss.length=2:=by rintro _ _ ⟨s,a,t,d,rfl,_,_,_,_,rfl⟩;rfl
def ZDI (F:AE K "_law_stirred" "_law_stirred" VG f fd)(m:mg "_law_stirred"=some (.ref f)):
  AG P w K mg base "_law_stirred" 4 ["state","deed"] (Br Qo):=by
 refine AG.mk F (F.binds (by walk_at "bD2")) m (F.BS (k:=3) RK (fun vs H Q E h=>Fz.Gh gY h) (fun AY A outer s H vs Q E b h=>?_))
 refine⟨_,(A9 rfl (Ai (Gr (IX (Af WQ b (A0 (C8 (BO b) (qv 0) AZ (fun _ _=>rfl)) (A0 (qv 1) A4))))) (AA rfl (Aa DP)) Ak)
   (A9 rfl (CF (J5 Je rfl (J3 (D4 (Vr rfl) C3 (A0 (C8 (BO b) (qv 0) AZ (fun _ _=>rfl)) A4))) (Ck 2 RK.nd) (A9 rfl (Az 3 RK.nd (C8 (BO b) (C8 (BO b) (qv 0) AZ (fun _ _=>rfl)) (qv 2) (fun _ _=>rfl)))
   (A9 rfl (Az 4 RK.nd (Af Ys b (A0 (C8 (BO b) (qv 0) AZ (fun _ _=>rfl)) (A0 (qv 3) (A0 (qv 1) A4)))))
   (A9 rfl (CF (Ai (AW KD (BF CJ Aj (A0 (AD AL (qv 4) A5) A4)) (BF CJ Aj (A0 (AD AL (qv 3) A5) A4))) (AA rfl (DV (Af Lj b (A0 (qv 0) (A0 (qv 2) (A0 A5 A4)))))) Ak))
   (A9 rfl (CF (Ai (AW Ff (BF CJ Aj (A0 (AD AL (qv 4) A5) A4)) (BF CJ Aj (A0 (AD AL (qv 3) A5) A4))) (AA rfl (DV (Af Lj b (A0 (qv 0) (A0 (qv 2) (A0 A5 A4)))))) Ak))
   (AA rfl (JQ (BO b) (C8 (BO b) (qv 0) AZ (fun _ _=>rfl)) (qv 2) (qv 4)))))))))
   (A9 rfl (JQ (BO b) (qv 0) AZ (Af WN b (A0 (C8 (BO b) (qv 0) AZ (fun _ _=>rfl)) (A0 (qv 1) A4))))
   (AA rfl (Aa DP))))),?_⟩
 refine Fz.KI h gY ?_;rintro _ _ ⟨s,a,t,d,rfl,I,ok,D,hn,rfl⟩;obtain⟨aL,aS,us,BK,rfl⟩:=I;show Ws [_,_,.any,.any,.any] _ _ _;have l1:=ok.l1;have l2:=ok.l2;have N:=JM ok.n1 ok.sub;have B:=ok.row.len;refine Al (CC (Ib (Fc (wp_call (B4 (D3 (MW rfl ⟨_,rfl,B4 (AH rfl (Bh ⟨_,⟨s.row,d,rfl,D,B,rfl⟩,?_⟩))⟩)))))));rintro _ rfl;refine⟨_,rfl,?_⟩;cases q:Fu s.row d with
 | none=>exact Bk rfl (Di (i:=0) rfl (Ci (.inr ⟨by unfold Fo;rw[q],rfl,aL,aS,us,BK,rfl⟩)))
 | some d'=>
  refine Ah (fun z=>by cases z) (AS ?_);have u:=Z7 q;rw[u.1];refine Al (Ei (K4 (fun _ i AJ=>∃(s2 e s4:Slot) (t':OV),AJ=[.ow true t',.is (dP d'),s2,e,s4]/\DD (EN s d' i) a t') (Rn (MM (FV (kI (Oi rfl ⟨An s.ln,aL,_,rfl,by unfold An;rw[AQ];omega,_,.inl ⟨rfl,?_⟩⟩)))))));rw[ZV];refine⟨⟨_,_,_,_,rfl,aL,aS,us,BK,rfl⟩,?_,?_⟩
  ·rintro i p AJ y ⟨s2,e,s4,t',rfl,aL,aS,us,BK,rfl⟩;rw[BU] at y;obtain⟨x,hx,rfl⟩:=Option.map_eq_some_iff.mp y;refine NY ?_;have hi:i<s.ln.length:=(List.getElem?_eq_some_iff.mp hx).1;obtain⟨l,o⟩:∃l,s.ll[i]?=some l:=⟨_,BC (by omega)⟩;have n:x∈s.ln:=Dh hx;have xs:x∈s.sn:=ok.sub x n;have v:s.ln.idxOf x=i:=MK ok.n1 hx;have J:=ok.good l (Dh o);have ll:=JC s d' i;have M:=Ol s d' i;show Ws [.ow true (Bb (EN s d' i) a aL aS us),.is (dP d'),.is (.str x),e,s4] _ _ _;refine Al (Iq (D3 (G8 (Oi rfl ⟨An s.ln,aL,_,rfl,AH rfl ⟨.inr x,i,.fz l.P,rfl,by rw[G1 n,v],MC (U6 o),_,rfl,?_⟩⟩))));refine Al (Iq (y1 (BX (D3 (MW rfl ⟨_,rfl,_,.inl ⟨rfl,rfl,s.row,rfl,AH rfl ⟨l.r,l.g,l.cs,rfl,AH rfl ⟨d',rfl,u.2,J,B,?_⟩⟩⟩⟩)))));have c:∀t',DD ⟨s.row,s.ln,CQ s d' i,s.sn,Cd s d' (i+1)⟩ a t'->Ws [.ow true t',.is (dP d'),.is (.str x),.is l.P,.is (l.led s.row d').P] (R0 (J7 (BD 0) (tC (V.str "live"))) (BD 2) (BD 4)) (fun AJ=>∃(s2 e s4:Slot) (t':OV),AJ=[.ow true t',.is (dP d'),s2,e,s4]/\DD (EN s d' (i+1)) a t') (.mt (Dn (fun s t=>DD s a t) s (Fo s d))):=by
    rintro _ ⟨aL,aS,us,BK,rfl⟩;refine JW (i:=0) (t:=Bb ⟨s.row,s.ln,CQ s d' i,s.sn,Cd s d' (i+1)⟩ a aL aS us) (De (AH rfl (Oi rfl ⟨true,aL,An s.ln,_,rfl,rfl,by unfold CG;rw[AQ];show(CQ s d' i).length<=99999;omega,Ip ok.n1,BJ,AH rfl ⟨.inr x,rfl,?_⟩⟩)));rw[SU n,Qr n,v,QX,X0 o];unfold Bb;rw[show([]++[1]:List Nat)=[1] from rfl,K3];exact⟨_,_,_,_,rfl,aL,aS,us,BK,rfl⟩
   rw[fv hx o] at c;show Ws [.ow true (Bb (EN s d' i) a aL aS us),.is (dP d'),.is (.str x),.is l.P,.is (l.led s.row d').P] _ _ _;have j:∀k:Nat,(k=1∨k=2∨k=3)->∀(nx:List Slot->Prop) R,(∀t',DD ⟨s.row,s.ln,CQ s d' i,s.sn,(Cd s d' i).modify (s.sn.idxOf x) (Zj k)⟩ a t'->nx [.ow true t',.is (dP d'),.is (.str x),.is l.P,.is (l.led s.row d').P])->Ws [.ow true (Bb (EN s d' i) a aL aS us),.is (dP d'),.is (.str x),.is l.P,.is (l.led s.row d').P] (HN (DK (Br OT) [] E0 (Ag (BD 0) (Ag (BD 2) (Ag (tC (V.int k)) BM))))) nx R:=fun k G nx R C=>by
    refine ZZ (i:=0) (NH rfl (Nf rfl (DX (AH rfl (DX (Bw (Fw ⟨_,⟨EN s d' i,a,_,x,k,rfl,⟨aL,aS,us,BK,rfl⟩,xs,by show s.sn.length=(Cd s d' i).length;omega,G,rfl⟩,?_⟩)))))));rintro _ L ⟨rfl,CS⟩;obtain⟨nk,Ee,rfl⟩:=CS.nd;exact⟨nk,Ee,rfl,C _ CS⟩
   have O:(d'.Gd l.r l.g l.cs)=(l.led s.row d').cs:=rfl;rcases bC l.cs.length (l.led s.row d').cs.length with h | h | h
   ·refine Al (Ei (CC (Ct (G0 (D6 (BX (FL (GH (i:=4) rfl ⟨rfl,Bw ⟨_,_,rfl,rfl,_,.inr ⟨rfl,_,rfl,D6 (BX (FL (GH (i:=3) rfl ⟨rfl,Bw ⟨_,_,rfl,rfl,_,.inr ⟨rfl,_,rfl,_,rfl,?_⟩⟩⟩)))⟩⟩⟩))))))));rw[AQ,AQ];refine Bk (nv (by omega)) (j 1 (.inl rfl) _ _ fun t' GZ=>?_);refine Al (Ei (CC (Ct (G0 (D6 (BX (FL (GH (i:=4) rfl ⟨rfl,Bw ⟨_,_,rfl,rfl,_,.inr ⟨rfl,_,rfl,D6 (BX (FL (GH (i:=3) rfl ⟨rfl,Bw ⟨_,_,rfl,rfl,_,.inr ⟨rfl,_,rfl,_,rfl,?_⟩⟩⟩)))⟩⟩⟩))))))));rw[AQ,AQ];refine Ah (fun z=>by have:=om z;omega) (AS (c t' ?_));unfold Sm.by
    rw[pQ h];exact GZ
   ·refine Al (Ei (CC (Ct (G0 (D6 (BX (FL (GH (i:=4) rfl ⟨rfl,Bw ⟨_,_,rfl,rfl,_,.inr ⟨rfl,_,rfl,D6 (BX (FL (GH (i:=3) rfl ⟨rfl,Bw ⟨_,_,rfl,rfl,_,.inr ⟨rfl,_,rfl,_,rfl,?_⟩⟩⟩)))⟩⟩⟩))))))));rw[AQ,AQ];refine Ah (fun z=>by have:=om z;omega) (AS ?_);refine Al (Ei (CC (Ct (G0 (D6 (BX (FL (GH (i:=4) rfl ⟨rfl,Bw ⟨_,_,rfl,rfl,_,.inr ⟨rfl,_,rfl,D6 (BX (FL (GH (i:=3) rfl ⟨rfl,Bw ⟨_,_,rfl,rfl,_,.inr ⟨rfl,_,rfl,_,rfl,?_⟩⟩⟩)))⟩⟩⟩))))))));rw[AQ,AQ];refine Ah (fun z=>by have:=om z;omega) (AS (c _ ?_));unfold Sm.by
    rw[o5 (by omega),o5 (by omega),lP];exact⟨aL,aS,us,BK,rfl⟩
   ·refine Al (Ei (CC (Ct (G0 (D6 (BX (FL (GH (i:=4) rfl ⟨rfl,Bw ⟨_,_,rfl,rfl,_,.inr ⟨rfl,_,rfl,D6 (BX (FL (GH (i:=3) rfl ⟨rfl,Bw ⟨_,_,rfl,rfl,_,.inr ⟨rfl,_,rfl,_,rfl,?_⟩⟩⟩)))⟩⟩⟩))))))));rw[AQ,AQ];refine Ah (fun z=>by have:=om z;omega) (AS ?_);refine Al (Ei (CC (Ct (G0 (D6 (BX (FL (GH (i:=4) rfl ⟨rfl,Bw ⟨_,_,rfl,rfl,_,.inr ⟨rfl,_,rfl,D6 (BX (FL (GH (i:=3) rfl ⟨rfl,Bw ⟨_,_,rfl,rfl,_,.inr ⟨rfl,_,rfl,_,rfl,?_⟩⟩⟩)))⟩⟩⟩))))))));rw[AQ,AQ];refine Bk (nv (by omega)) (j 3 (.inr (.inr rfl)) _ _ fun t' GZ=>c t' ?_);unfold Sm.by
    rw[o5 (by omega),pQ h];exact GZ
  ·rintro AJ ⟨s2,e,s4,t',rfl,GZ⟩;rw[AQ] at GZ;obtain⟨KP,Jl,us',Gg,rfl⟩:=GZ;refine Al (JW (i:=0) (t:=Bb (EN s d' s.ln.length) a KP Jl us') (De (FV (gR (BX (D3 (MW rfl ⟨_,rfl,_,.inl ⟨rfl,rfl,s.row,rfl,AH rfl ⟨d',rfl,u.2,by omega,ok.row.nd,?_⟩⟩⟩)))))));refine DE rfl ⟨true,a,k3,_,rfl,rfl,by show 3<=99999;decide,by decide +kernel,BJ,Hj ⟨.inr "row", rfl,?_⟩⟩;rw[OV.Fj];refine Di (i:=0) rfl (Ci (.inl ⟨⟨d'.done s.row,s.ln,s.ll.map (Lp.led s.row d'),s.sn,Cd s d' s.ln.length⟩,?_,rfl,KP,Jl,us',Gg,?_⟩))
   ·unfold Fo;rw[q]
   ·rw[<- jx,<- l1,wy,ZBF];rfl
def sD:As ["row","rule"] ["row","rule"] (Ae Z0):=by walk_at "z1"
def fF : ∀ss R,XG ss R->ss.length=2:=by rintro _ _ ⟨ns,r,rfl,a,rfl⟩;rfl
def ZFM (F:AE K "_law_begun" "_law_begun" Z0 f fd)(m:mg "_law_begun"=some (.ref f)):
  AG P w K mg base "_law_begun" 1 ["row","rule"] (BE XG):=by
 refine AG.mk F (F.binds (by walk_at "bD2")) m (F.BS (k:=0) sD (fun vs H Q E h=>Fz.DW fF h) (fun AY A outer s H vs Q E c h=>?_))
 refine⟨_,(AA rfl (Aa (Bx (A0 (qv 1) (A0 A5 (A0 (D4 Kg DG (A0 (BF Ry FH (A0 (qv 0) A4)) A4)) A4)))))),?_⟩;refine Fz.DY h fF ?_;rintro _ _ ⟨ns,r,rfl,b,rfl⟩;show Ws [_,_] _ _ _
 walk_at "ww"
 refine⟨b,fun ts a st=>?_⟩
 walk_at "ww"
 exact⟨by simp,ts,a,st,rfl⟩
def ZAH:As ["state","name","rule"] ["state","name","rule"] (Ae WH):=by walk_at "z1"
def kE : ∀ss R,ZL ss R->ss.length=3:=by rintro _ _ ⟨s,a,t,x,r,rfl,_,_,_,_,_,rfl⟩;rfl
def ZDm (F:AE K "_law_begins" "_law_begins" WH f fd)(m:mg "_law_begins"=some (.ref f)):
  AG P w K mg base "_law_begins" 3 ["state","name","rule"] (Br ZL):=by
 refine AG.mk F (F.binds (by walk_at "bD3")) m (F.BS (k:=2) ZAH (fun vs H Q E h=>Fz.Gh kE h) (fun AY A outer s H vs Q E d h=>?_))
 refine⟨_,(A9 rfl (Ai (Fb (Gr (IX (Af Mm d (A0 (qv 1) A4)))) (Fb (dm (BO d) (qv 1) (C8 (BO d) (qv 0) AZ (fun _ _=>rfl))) (Hb (AW Kv (qv 2) (Bx (A0 AZ (A0 AZ (A0 AZ A4)))))))).pt (AA rfl (Aa DP)) Ak)
   (A9 rfl (JQ (BO d) (C8 (BO d) (qv 0) AZ (fun _ _=>rfl)) (qv 1) (Af XM d (A0 (C8 (BO d) (qv 0) AZ (fun _ _=>rfl)) (A0 (qv 2) A4))))
   (A9 rfl (JQ (BO d) (C8 (BO d) (qv 0) AZ (fun _ _=>rfl)) (qv 1) (Im (A0 (BF CJ Aj (A0 (C8 (BO d) (qv 0) AZ (fun _ _=>rfl)) A4)) (A0 A5 (A0 A5 (A0 A5 A4))))))
   (AA rfl (Aa DP))))),?_⟩
 refine Fz.KI h kE ?_;rintro _ _ ⟨s,a,t,x,r,rfl,p,ok,hx,d,hn,rfl⟩;obtain⟨aL,aS,us,BK,rfl⟩:=p;show Ws [_,_,_] _ _ _;have j:∀nx:List Slot->Prop,¬ (isNm x=true/\x∉s.sn/\IT r=true)->Ws [.ow true (Bb s a aL aS us),.is (.str x),.is (.str r)] (Fp (tC (V.bl false))) nx (.mt (Dn (fun s t=>DD s a t) s (FD s x r))):=fun nx h=>Di (i:=0) rfl (Ci (.inr ⟨by unfold FD;rw[o5 h],rfl,aL,aS,us,BK,rfl⟩));refine Al (CC (Hy (Ib (Fc (Ss (AH rfl ⟨x,rfl,hx.2,_,rfl,?_⟩))))));refine Ad (fun c=>j _ fun z=>by rw[z.1] at c;cases c) (fun c=>?_);refine Hy (Fc (gJ (AH rfl (RI rfl ⟨An s.sn,aS,us,.inr x,rfl,rfl,_,rfl,?_⟩))));rw[KR];refine Ad (fun c2=>j _ fun z=>z.2.1 (om c2)) (fun c2=>?_)
 walk_at "ww"
 refine⟨by decide,_,.inr ⟨rfl,["none","ahead","all"],rfl,_,rfl,?_⟩⟩;refine Ad (fun g=>j _ fun z=>?_) (fun g=>AS ?_)
 ·have l:decide (r∈([("none":Str), "ahead","all"]))=true:=z.2.2;rw[l] at g;cases g
 have h1:isNm x=true:=by cases e:isNm x with
  | true=>rfl
  | false=>exact absurd (by rw[e];rfl) c
 have h2:x∉s.sn:=fun z=>c2 (nv z);have l:IT r=true:=by
  show decide (r∈([("none":Str), "ahead","all"]))=true;cases e:decide (r∈([("none":Str), "ahead","all"])) with
  | true=>rfl
  | false=>exact absurd (by rw[e];rfl) g
 have n:x∉s.ln:=fun z=>h2 (ok.sub x z);have l1:=ok.l1;have l2:=ok.l2;have u:=JM ok.n1 ok.sub;refine Al (JW (i:=0) (t:=Bb s a aL aS us) (De (wp_call (DS (BX (D3 (MW rfl ⟨_,rfl,_,.inl ⟨rfl,B4 (AH rfl (Bh ⟨_,⟨s.row,r,rfl,by have:=ok.row.len;omega,rfl⟩,?_⟩))⟩⟩)))))));rintro _ ⟨ts,o,st,rfl⟩;rw[fq ok.row.nd o st];refine(Oi rfl ⟨true,aL,An s.ln,_,rfl,rfl,by unfold CG;rw[AQ];omega,Ip ok.n1,BJ,AH rfl ⟨.inr x,rfl,?_⟩⟩);rw[ON n,R7 n];unfold Bb;rw[show([]++[1]:List Nat)=[1] from rfl,K3];have q:CG s.ll++[.fz (Ed r 0 (Fe s.row))]=CG (s.ll++[⟨r,0,Fe s.row⟩]):=by unfold CG;rw[EF];rfl
 rw[q];show Ws [.ow true (Bb ⟨s.row,s.ln++[x],s.ll++[⟨r,0,Fe s.row⟩],s.sn,s.sq⟩ a aL aS us),.is (.str x),.is (.str r)] _ _ _;refine Al (JW (i:=0) (t:=Bb ⟨s.row,s.ln++[x],s.ll++[⟨r,0,Fe s.row⟩],s.sn,s.sq⟩ a aL aS us) (ZBt (IG (De (D6 (BX (D3 (MW rfl ⟨_,rfl,_,.inl ⟨rfl,IG (De (Bw (IG (De (Bw (IG (De (Bw (Zl ⟨by simp,by simp,by simp,by simp,by show 4<=100000;decide,fun b=>?_⟩)))))))))⟩⟩))))))));refine(RI rfl ⟨true,aS,An s.sn,us,rfl,rfl,by rw[BK.1];omega,Ip ok.n2,BJ,AH rfl ⟨.inr x,rfl,?_⟩⟩);rw[ON h2,R7 h2,AQ];unfold Bb;rw[show([]++[2]:List Nat)=[2] from rfl,put2];exact Di (i:=0) rfl (Ci (.inl ⟨_,by unfold FD;rw[pQ ⟨h1,h2,l⟩],rfl,aL,aS,_,BK.snoc ⟨b,rfl⟩,rfl⟩))
def Mt:As ["state","entry","live","rule","gap","coming","left"] ["state","entry"] (Ae SM):=by walk_at "z1"
noncomputable def ZBr:Scope:={ kind:=.function,names:=[(".0", .local),("name", .local),("entry", .free)],isGenerator:=false,isCoroutine:=false,more:=[] }
def yk:Ep ["state","entry","live","rule","gap","coming","left"] (Ae SM) ZBr "name" ["entry"] [1]:=by walk_at "z2"
def gq : ∀ss R,QP ss R->ss.length=2:=by rintro _ _ ⟨s,a,t,e,rfl,_,_,_,_,rfl⟩;rfl
def xr (F:AE K "_law_goes" "_law_goes" SM f fd)(m:mg "_law_goes"=some (.ref f)):
  AG P w K mg base "_law_goes" 5 ["state","entry"] (Br QP):=by
 refine AG.mk F (F.binds (by walk_at "bD2")) m (F.BS (k:=4) Mt (fun vs H Q E h=>Fz.Gh gq h) (fun AY A outer s H vs Q E b h=>?_))
 refine⟨_,(A9 rfl (Az 2 Mt.nd (C8 (BO b) (qv 0) AZ (fun _ _=>rfl)))
   (A9 rfl (Ai (AW BP (AD AL (qv 1) A5) AZ) (AA rfl (Aa (Af VB b (A0 (qv 0) (A0 (AD AL (qv 1) A5) (A0 (AD AL (qv 1) A5) A4)))))) Ak)
   (A9 rfl (Ai (AW BP (AD AL (qv 1) A5) AZ) (A9 rfl (Ai (Fb (Tc (BO b) (AD AL (qv 1) A5) (qv 2)) (Hb (AW (OQ b.J4) (AD AL (C8 (BO b) (qv 2) (AD AL (qv 1) A5) (fun _ _=>rfl)) A5) (Bx A4)))).pt (AA rfl (Aa DP)) Ak)
   (A9 rfl (DV (iL (qv 2) (AD AL (qv 1) A5) ⟨rfl,rfl,rfl,rfl⟩))
   (AA rfl (Aa DP)))) Ak)
   (A9 rfl (Ai (AW BP (AD AL (qv 1) A5) AZ) (A9 rfl (Ai (Fb (Tc (BO b) (AD AL (qv 1) A5) (qv 2)) (Hb (AW Kv (AD AL (qv 1) A5) (AD AL (C8 (BO b) (qv 2) (AD AL (qv 1) A5) (fun _ _=>rfl)) A5)))).pt (AA rfl (Aa DP)) Ak)
   (A9 rfl (HV (C8 (BO b) (qv 2) (AD AL (qv 1) A5) (fun _ _=>rfl)) (Ky rfl (Dq (Ck 3 Mt.nd) (Dq (Ck 4 Mt.nd) (Dq (Ck 5 Mt.nd) LP)))))
   (A9 rfl (Az 6 Mt.nd (D4 Kg DG (A0 (KZ rfl yk (J3 (qv 5)) (fun _ _ _ _=>by exact(L5 (AW Lk (qv 1) (AD (show IK _ (NC K) from AL) (qv 0) A5)))) (fun _ _ _ _=>by exact(qv 1))) A4)))
   (A9 rfl (JQ (BO b) (qv 2) (AD AL (qv 1) A5) (Bx (A0 (qv 3) (A0 (B6 EA (Gx Iv U0 bK Qx (C8 (BO b) (qv 0) AZ (fun _ _=>rfl)) (A0 (AD AL (qv 1) A5) A4)) A5) (A0 (qv 6) A4)))))
   (A9 rfl (DV (Af Lj b (A0 (qv 0) (A0 (AD AL (qv 1) A5) (A0 A5 A4)))))
   (AA rfl (Aa DP))))))) Ak)
   (AA rfl (Aa (Af Vf b (A0 (qv 0) (A0 (qv 1) A4))))))))),?_⟩
 refine Fz.KI h gq ?_;rintro _ _ ⟨s,a,t,e,rfl,v,ok,u,hn,rfl⟩;obtain⟨aL,aS,us,BK,rfl⟩:=id v;show Ws [_,_,.any,.any,.any,.any,.any] _ _ _;have nd:∀{o:Option Ls}{p:PV}{t':OV},Dn (fun s t=>DD s a t) s o p t'->∃EK us',t'=.nd EK a us'/\(∃nk a us,t'=.nd nk a us)/\Dn (fun s t=>DD s a t) s o p t':=fun h=>by
  obtain⟨nk,us,e⟩:=h.nd fun _ _ h=>h.nd;exact⟨nk,us,e,⟨nk,a,us,e⟩,h⟩
 have l1:=ok.l1;have l2:=ok.l2;have R:=JM ok.n1 ok.sub;have T:=ok.row.len;refine Al (V5 (i:=0) (Oi rfl ⟨_,aL,_,rfl,?_⟩));cases e with
 | Fq x r=>
  show Ws [.ow true (Bb s a aL aS us),.is (.tup [.str "begin", .str x,.str r]),.raw (ptr aL),.any,.any,.any,.any] _ _ _
  walk_at "ww"
  refine Bk (by decide +kernel) ?_;refine NU (i:=0) rfl (NH rfl (Nf rfl (DX ?_)))
  walk_at "ww"
  refine DX ?_
  walk_at "ww"
  exact Fw ⟨_,⟨s,a,_,x,r,rfl,v,ok,u.1,u.2,hn,rfl⟩,fun p t' h=>nd h⟩
 | over x=>
  show Ws [.ow true (Bb s a aL aS us),.is (.tup [.str "over", .str x]),.raw (ptr aL),.any,.any,.any,.any] _ _ _
  walk_at "ww"
  refine Ah (by decide +kernel) (AS ?_)
  walk_at "ww"
  refine Bk (by decide +kernel) ?_;refine Al (CC (Hy (Fc (U3 (i:=0) (t:=Bb s a aL aS us) ?_))))
  walk_at "ww"
  refine(IJ (j:=2) (i:=0) (p:=[1]) rfl rfl Ds ⟨An s.ln,aL,_,.inr x,rfl,rfl,_,rfl,?_⟩);rw[KR];refine Ad (fun c=>?_) (fun c=>?_)
  ·have nx:x∉s.ln:=fun z=>by rw[nv z] at c;cases c
   refine Di (i:=0) rfl (Ci (.inr ⟨?_,rfl,aL,aS,us,BK,rfl⟩));show EY s x=none;unfold EY;rw[aw nx,l1,Kl (Ax _)]
  ·have hx:x∈s.ln:=Jb fun z=>c (by rw[q8 z];rfl);have hi:=List.idxOf_lt_length_iff.mpr hx;obtain⟨l,n⟩:∃l,s.ll[s.ln.idxOf x]?=some l:=⟨_,BC (by omega)⟩;refine Ct (fJ (BX (FL (BX (D3 (G8 (IJ (j:=2) (i:=0) (p:=[1]) rfl rfl Ds ⟨An s.ln,aL,_,rfl,?_⟩)))))))
   walk_at "ww"
   refine⟨.inr x,s.ln.idxOf x,.fz l.P,rfl,G1 hx,MC n,_,rfl,_,.inr ⟨rfl,rfl,Bw ⟨_,_,rfl,rfl,_,.inr ⟨rfl,l.cs,rfl,?_⟩⟩⟩⟩;refine BX (Pe (LA ⟨by decide,_,.inr ⟨rfl,rfl,[],rfl,_,rfl,?_⟩⟩));refine Ad (fun c2=>?_) (fun c2=>AS ?_)
   ·refine Di (i:=0) rfl (Ci (.inr ⟨?_,rfl,aL,aS,us,BK,rfl⟩));show EY s x=none;unfold EY;rw[n];show(if l.cs=[] then _ else none)=none
    rw[o5 (fun z=>by rw[nv z] at c2;cases c2)]
   ·have M:l.cs=[]:=Jb fun z=>c2 (by rw[q8 z];rfl);refine Al (kr (i:=0) (t:=Bb s a aL aS us) (IJ (j:=2) (i:=0) (p:=[1]) rfl rfl Ds ⟨true,aL,An s.ln,_,rfl,rfl,Ip ok.n1,?_⟩))
    walk_at "ww"
    refine⟨.inr x,s.ln.idxOf x,rfl,G1 hx,?_⟩;unfold Bb;rw[K3,kR,lr];refine Di (i:=0) rfl (Ci (.inl ⟨⟨s.row,s.ln.eraseIdx (s.ln.idxOf x),s.ll.eraseIdx (s.ln.idxOf x),s.sn,s.sq⟩,?_,rfl,aL,aS,us,BK,rfl⟩));show EY s x=_;unfold EY;rw[n];show(if l.cs=[] then _ else none)=_
    rw[pQ M]
 | tell x y=>
  show Ws [.ow true (Bb s a aL aS us),.is (.tup [.str "tell", .str x,.str y]),.raw (ptr aL),.any,.any,.any,.any] _ _ _
  walk_at "ww"
  refine Ah (by decide +kernel) (AS ?_)
  walk_at "ww"
  refine Ah (by decide +kernel) (AS ?_)
  walk_at "ww"
  refine Bk (by decide +kernel) ?_;refine Al (CC (Hy (Fc (U3 (i:=0) (t:=Bb s a aL aS us) ?_))))
  walk_at "ww"
  refine(IJ (j:=2) (i:=0) (p:=[1]) rfl rfl Ds ⟨An s.ln,aL,_,.inr x,rfl,rfl,_,rfl,?_⟩);rw[KR];refine Ad (fun c=>?_) (fun c=>?_)
  ·have nx:x∉s.ln:=fun z=>by rw[nv z] at c;cases c
   refine Di (i:=0) rfl (Ci (.inr ⟨?_,rfl,aL,aS,us,BK,rfl⟩));show EU s x y=none;unfold EU;rw[aw nx,l1,Kl (Ax _)]
  ·have hx:x∈s.ln:=Jb fun z=>c (by rw[q8 z];rfl);have hi:=List.idxOf_lt_length_iff.mpr hx;obtain⟨l,n⟩:∃l,s.ll[s.ln.idxOf x]?=some l:=⟨_,BC (by omega)⟩;refine Ct (VN ?_)
   walk_at "ww"
   refine BX (D3 (G8 (IJ (j:=2) (i:=0) (p:=[1]) rfl rfl Ds ⟨An s.ln,aL,_,rfl,?_⟩)))
   walk_at "ww"
   refine⟨.inr x,s.ln.idxOf x,.fz l.P,rfl,G1 hx,MC n,_,rfl,_,.inr ⟨rfl,rfl,Bw ⟨_,_,rfl,rfl,_,.inr ⟨rfl,l.cs,rfl,_,rfl,?_⟩⟩⟩⟩;have xs:x∈s.sn:=ok.sub x hx;have D:=ok.good l (Dh n);have S:=D.len;refine Ad (fun c2=>?_) (fun c2=>AS ?_)
   ·refine Di (i:=0) rfl (Ci (.inr ⟨?_,rfl,aL,aS,us,BK,rfl⟩));show EU s x y=none;unfold EU;rw[n];show(if y∈l.cs then _ else none)=none
    rw[o5 (fun z=>by rw[nv z] at c2;cases c2)]
   ·have C:y∈l.cs:=Jb fun z=>c2 (by rw[q8 z];rfl);have G:y∈s.row:=D.sub y C;refine Al (fA (D3 (G8 (IJ (j:=2) (i:=0) (p:=[1]) rfl rfl Ds ⟨An s.ln,aL,_,rfl,?_⟩))))
    walk_at "ww"
    refine⟨.inr x,s.ln.idxOf x,.fz l.P,rfl,G1 hx,MC n,_,rfl,qf ⟨_,_,_,rfl,?_⟩⟩;show Ws [.ow true (Bb s a aL aS us),.is (.tup [.str "tell", .str x,.str y]),.raw (ptr aL),.is (.str l.r),.is (.int l.g),.is (.tup (l.cs.map .str)),.any] _ _ _;refine Al (Iq (Sh rfl (BX (FV (WG PV.str (fun z=>!decide (z=y)) PV.str (Rn (MM (AH rfl ⟨_,.inr ⟨rfl,l.cs,rfl,by omega,fun z L=>?_,fun z L _=>AH rfl rfl,?_⟩⟩))) str_inj)))))
    ·walk_at "ww"
     rw[show alike (PV.str z) (PV.str y)=decide (z=y) from rfl]
    refine⟨_,.inl ⟨rfl,?_⟩⟩;show Ws [.ow true (Bb s a aL aS us),.is (.tup [.str "tell", .str x,.str y]),.raw (ptr aL),.is (.str l.r),.is (.int l.g),.is (.tup (l.cs.map .str)),.is (.tup ((wo l.cs y).map .str))] _ _ _;refine Al (JW (i:=0) (t:=Bb s a aL aS us) (De (Pe (Ld (AH rfl (Ld ?_))))));refine YY (Yu (BX (D3 (MW rfl ⟨_,rfl,_,.inl ⟨rfl,rfl,s.row,rfl,?_⟩⟩))))
    walk_at "ww"
    refine⟨G,_,rfl,Bw ⟨_,rfl,Ld (AH rfl (LA ⟨by simp,?_⟩))⟩⟩;refine(IJ (j:=2) (i:=0) (p:=[1]) rfl rfl Ds ⟨true,aL,An s.ln,_,rfl,rfl,by unfold CG;rw[AQ];omega,Ip ok.n1,BJ,?_⟩)
    walk_at "ww"
    refine⟨.inr x,rfl,?_⟩;rw[SU hx,Qr hx];have N:(CG s.ll).set (s.ln.idxOf x) (.fz (.tup [.str l.r,.int (((s.row.idxOf y:Nat):Int)+1),.tup ((wo l.cs y).map .str)]))=CG (s.ll.set (s.ln.idxOf x) ⟨l.r,s.row.idxOf y+1,wo l.cs y⟩):=QX _ _ ⟨l.r,s.row.idxOf y+1,wo l.cs y⟩;rw[N];unfold Bb;rw[K3];show Ws [.ow true (Bb ⟨s.row,s.ln,s.ll.set (s.ln.idxOf x) ⟨l.r,s.row.idxOf y+1,wo l.cs y⟩,s.sn,s.sq⟩ a aL aS us),.is (.tup [.str "tell", .str x,.str y]),.raw (ptr aL),.is (.str l.r),.is (.int l.g),.is (.tup (l.cs.map .str)),.is (.tup ((wo l.cs y).map .str))] _ _ _;refine Al (ZZ (i:=0) (NH rfl (Nf rfl (DX ?_))))
    walk_at "ww"
    refine DX (Bw (Fw ⟨_,⟨⟨s.row,s.ln,s.ll.set (s.ln.idxOf x) ⟨l.r,s.row.idxOf y+1,wo l.cs y⟩,s.sn,s.sq⟩,a,_,x,2,rfl,⟨aL,aS,us,BK,rfl⟩,xs,l2,.inr (.inl rfl),rfl⟩,?_⟩));rintro _ O ⟨rfl,J,B,Ee,I,rfl⟩;refine⟨_,_,rfl,?_⟩;refine Di (i:=0) rfl (Ci (.inl ⟨⟨s.row,s.ln,s.ll.set (s.ln.idxOf x) ⟨l.r,s.row.idxOf y+1,wo l.cs y⟩,s.sn,s.sq.modify (s.sn.idxOf x) Sm.tell⟩,?_,rfl,J,B,Ee,I,rfl⟩));show EU s x y=_;unfold EU;rw[n];show(if y∈l.cs then _ else none)=_
    rw[pQ C]
 | CT d=>
  have q:∀nx,Ws [.ow true (Bb s a aL aS us),.is (aP d),.raw (ptr aL),.any,.any,.any,.any] (Fp (DK (Br Qo) [] E0 (Ag (BD 0) (Ag (BD 1) BM)))) nx (.mt (Dn (fun s t=>DD s a t) s (En s (.CT d)))):=fun nx=>NU (i:=0) rfl (NH rfl (Nf rfl (DX (AH rfl (Fw ⟨_,⟨s,a,_,d,rfl,v,ok,u,hn,rfl⟩,fun p t' h=>nd h⟩)))));show Ws [.ow true (Bb s a aL aS us),.is (aP d),.raw (ptr aL),.any,.any,.any,.any] _ _ _;cases d with
  | _=>
   unfold aP at q ⊢;dsimp only at q ⊢
   walk_at "ww"
   refine Ah (by decide +kernel) (AS ?_)
   walk_at "ww"
   refine Ah (by decide +kernel) (AS ?_)
   walk_at "ww"
   refine Ah (by decide +kernel) (AS ?_);exact q _
def Gj:As ["script","rate","pot","most","first","state","log","wrong","k","turn","entry"] ["script","rate"] (Ae Ze):=by walk_at "z1"
def jS : ∀ss R,(Y5 K) ss R->ss.length=2:=by rintro _ _ ⟨sc,rfl,_,rfl⟩;rfl
def zv (F:AE K "_law_log" "_law_log" Ze f fd)(m:mg "_law_log"=some (.ref f)):
  AG P w K mg base "_law_log" 6 ["script","rate"] (BE (Y5 K)):=by
 refine AG.mk F (F.binds (by walk_at "bD2")) m (F.BS (k:=5) Gj (fun vs H Q E h=>Fz.DW jS h) (fun AY A outer s H vs Q E d h=>?_))
 refine⟨_,(A9 rfl (Az 2 Gj.nd (Af Ly d (A0 (qv 0) (A0 A5 A4))))
   (A9 rfl (Az 3 Gj.nd (AD AL (Bx (A0 A5 (A0 A5 A4))) (D4 RW Ka (A0 (Ir BP (Af BV d (A0 (qv 2) (A0 A5 A4))) A5) A4))))
   (A9 rfl (Az 4 Gj.nd (Af ZJ d (A0 (qv 2) (A0 (qv 3) A4))))
   (A9 rfl (Az 5 Gj.nd (lI (N6 AZ (D4 KG C3 (A0 (qv 4) A4)) (N6 AZ NM (N6 AZ NM jq))) rfl rfl (by simp) (by decide)))
   (A9 rfl (Az 6 Gj.nd (Im A4))
   (A9 rfl (Az 7 Gj.nd MP)
   (A9 rfl (CF (J5 Je rfl (zw rfl HR (A0 A5 (A0 (BF (zE rfl) WZ (A0 A5 (A0 (BF (tR rfl) XJ (A0 (BF CJ Aj (A0 (qv 0) A4)) (A0 A5 A4))) A4))) A4))) (Ck 8 Gj.nd) (A9 rfl (Az 2 Gj.nd (Af Ly d (A0 (qv 0) (A0 (qv 8) A4))))
   (AA rfl (J5 Je rfl (TY rfl HR (A0 (B6 EA A5 (Af BV d (A0 (qv 2) (A0 (AD AL (Bx (A0 A5 (A0 A5 A4))) (D4 RW Ka (A0 (Ir KD (qv 3) A5) A4))) A4)))) A4)) (Ck 9 Gj.nd) (A9 rfl (Az 10 Gj.nd (Af ZW d (A0 (qv 2) (A0 (qv 5) (A0 (qv 3) A4)))))
   (A9 rfl (CF (Ai (FO (AW KD (qv 1) A5) (GN (AW BP (Af BV d (A0 (qv 2) (A0 (qv 1) A4))) A5))).pt (AA rfl ZEZ) Ak))
   (A9 rfl (DV (Gx Iv ZGR ZGU gL (qv 6) (A0 (qv 10) A4)))
   (AA rfl (Ai (FO (Gr (IX (Af NV d (A0 (qv 5) (A0 (qv 10) A4))))) (GN (AW ZA0 (qv 7) MP))).pt (AA rfl (Az 7 Gj.nd (B6 O1 (BF CJ Aj (A0 (qv 6) A4)) A5))) Ak))))))))))
   (AA rfl (Aa (Bx (A0 (qv 4) (A0 (qv 6) (A0 (qv 7) (A0 (qv 5) A4)))))))))))))),?_⟩
 refine Fz.DY h jS ?_;rintro _ _ ⟨sc,rfl,SN,rfl⟩;show Ws [_,_,.any,.any,.any,.any,.any,.any,.any,.any,.any] _ _ _
 walk_at "ww"
 refine⟨by decide,by decide,?_⟩
 walk_at "ww"
 refine⟨by decide,_,.inr ⟨rfl,rfl,?_⟩⟩
 walk_at "ww"
 refine⟨by decide,by decide,fun r r0 Z=>?_⟩
 walk_at "ww"
 obtain⟨m,U,N⟩:∃m:Nat,L2.Bs [PV.int 9,.int 40] (if alike (PV.int r) (.int 0)=true then 1 else 0)=some (.int m)/\(m=9∨m=40):=by
  split
  ·exact⟨40,rfl,.inr rfl⟩
  ·exact⟨9,rfl,.inl rfl⟩
 refine⟨_,_,rfl,U,?_⟩
 walk_at "ww"
 refine⟨by omega,by omega,fun ns W4 R nd=>?_⟩;have d:HS 40 ns:=⟨by omega,R,nd⟩;refine NR 4 rfl ?_;show Ws [.raw (Eb K sc),.is (.int 0),.AM,.is (.int m),.is (.lst (ns.map .str)),.any,.any,.any,.any,.any,.any] _ _ _;refine Al (UN (bg (by decide +kernel) (IG (De (FV (NX rfl (RA rfl (IG (Mb fun aL=>IG (Mb fun aS=>Zl ⟨by simp,by simp,by simp,rfl,fun a=>?_⟩))))))))));show Ws [.raw (Eb K sc),.is (.int 0),.AM,.is (.int m),.is (.lst (ns.map .str)),.ow false (Bb (Cs ns) a aL aS []),.any,.any,.any,.any,.any] _ _ _
 walk_at "ww"
 refine⟨by decide,?_⟩
 walk_at "ww"
 refine K4 (fun _ i AJ=>∃C:Slot,∃(es:List LE) (s:Ls) (t:OV) (s2 o EZ:Slot),AJ=[.raw (Eb K sc),.is (.int 0),s2,.is (.int m),.is (.lst (ns.map .str)),.ow false t,.own (es.map LE.P),.is .A8,C,o,EZ]/\DD s a t/\runs (Cs ns) es=some s/\(∀e∈es,e.say)/\s.ln.length<=5/\s.row.length<=m/\es.length<=3 * i) ?_
 walk_at "ww"
 obtain⟨n,T,M⟩:=oW (b:=7) (c:=36) (n:=sc.length) (by decide) (by decide) (by omega);rw[T];refine⟨by omega,⟨_,[],Cs ns,_,_,_,_,rfl,⟨aL,aS,[],R2.nil,rfl⟩,rfl,fun e h=>absurd h BJ,CO _,by show ns.length<=m;omega,CO _⟩,?_,?_⟩
 ·rintro i p AJ D ⟨C,es,s,t,s2,o,EZ,rfl,x,l,u,y,NL,v⟩;obtain⟨hi,rfl⟩:=ZEL D;refine NY ?_;have W:i<36:=by omega
  walk_at "ww"
  refine⟨by omega,by omega,?_⟩;refine K4 (fun _ j AJ=>∃(es:List LE) (s:Ls) (t:OV) (o EZ:Slot),AJ=[.raw (Eb K sc),.is (.int 0),.AM,.is (.int m),.is (.lst (ns.map .str)),.ow false t,.own (es.map LE.P),.is .A8,.is (.int (1+(i:Int))),o,EZ]/\DD s a t/\runs (Cs ns) es=some s/\(∀e∈es,e.say)/\s.ln.length<=5/\s.row.length<=m/\es.length<=3 * i+j) ?_
  walk_at "ww"
  refine⟨by decide,_,.inr ⟨rfl,rfl,?_⟩⟩
  walk_at "ww"
  obtain⟨q,S,hq⟩:∃q:Nat,L2.Bs [PV.int 3,.int 1] (if decide ((9:Int)<m)=true then 1 else 0)=some (.int q)/\(q=3∨q=1):=by
   split
   ·exact⟨1,rfl,.inr rfl⟩
   ·exact⟨3,rfl,.inl rfl⟩
  refine⟨_,_,rfl,S,_,rfl,by omega,by omega,fun w J X=>?_⟩;obtain⟨w,rfl⟩:=EE J;refine⟨_,rfl,_,rfl,by omega,by omega,⟨es,s,t,o,EZ,rfl,x,l,u,y,NL,v⟩,?_,?_⟩
  ·rintro j p AJ D ⟨es,s,t,o,EZ,rfl,x,l,u,y,NL,v⟩;obtain⟨hj,rfl⟩:=Yv D;refine NY ?_;obtain⟨aL,aS,us,BK,rfl⟩:=id x;have ok:=XI (Xe d) l;have sl:=Wj l;have L:(Cs ns).sn.length=0:=rfl;have O:j<3:=by omega
   show Ws [.raw (Eb K sc),.is (.int 0),.AM,.is (.int m),.is (.lst (ns.map .str)),.ow false (Bb s a aL aS us),.own (es.map LE.P),.is .A8,.is (.int (1+(i:Int))),.is (.int j),EZ] _ _ _;refine Al (Iq (wW 5 rfl (gw rfl (B4 (AH rfl (B4 (AH rfl (Bh ⟨_,⟨s,m,rA (fun p=>[Slot.AM,.is p,.is (.int m)]) (kW BK),ok,y,by omega,NL,N,rfl⟩,?_⟩))))))));rintro _ ⟨e,s',rfl,g,I,G,O2⟩;refine⟨vn e,?_⟩;show Ws [.raw (Eb K sc),.is (.int 0),.AM,.is (.int m),.is (.lst (ns.map .str)),.ow false (Bb s a aL aS us),.own (es.map LE.P),.is .A8,.is (.int (1+(i:Int))),.is (.int j),.is e.P] _ _ _
   walk_at "ww"
   refine D5 (D5 (AS ?_))
   walk_at "ww"
   refine⟨by rw[AQ];omega,?_⟩;refine VF (i:=5) (ZFD (XA (Zq (NH rfl (Nf rfl (DX (AH rfl (Fw ⟨_,⟨s,a,_,e,rfl,x,ok,I,by omega,rfl⟩,?_⟩))))))));rintro _ Y (⟨s2,B,rfl,CS⟩|⟨B,_,_⟩)
   ·rw[g] at B;cases B;obtain⟨nk,Ee,rfl⟩:=CS.nd;refine⟨nk,Ee,rfl,true,rfl,rfl,D5 (AS ⟨es++[e],s',_,.is (.int j),.is e.P,?_,CS,?_,?_,G,O2,?_⟩)⟩
    ·rw[EF];rfl
    ·rw[OS l,g]
    ·intro V LK;rcases List.mem_append.mp LK with z | z
     ·exact u V z
     ·rw[List.mem_singleton.mp z];exact I
    ·rw[CM,mY];omega
   ·rw[g] at B;cases B
  ·rintro AJ ⟨es,s,t,o,EZ,rfl,x,l,u,y,NL,v⟩;rw[N3,show((1:Int)+(w:Nat)).toNat=1+w by omega] at v;exact⟨_,es,s,t,_,_,_,rfl,x,l,u,y,NL,by omega⟩
 ·rintro AJ ⟨C,es,s,t,s2,o,EZ,rfl,⟨aL,aS,us,BK,rfl⟩,l,u,y,NL,v⟩;rw[PK] at v;refine v8 5 rfl ?_;refine NR 6 rfl ?_;rw[kW BK]
  walk_at "ww"
  exact⟨by show 4<=100000;decide,ns,es,s,rfl,d,u,by omega,l⟩
def xG:As ["self","row"] ["self","row"] (Ae UT):=by walk_at "z1"
def fR:∀ss R,(WS A7 AI) ss R->ss.length=2:=by rintro _ _ ⟨a,dx,tp,ns,rfl,rfl⟩;rfl
def yf (F:AE K "__init__" "Course.__init__" UT f fd)(c:Mk K A7 f):
  P5 P w K mg base A7 2 ["self","row"] (Br (WS A7 AI)):=by
 refine⟨f,fd,F.BS (k:=1) xG (fun vs H Q E h=>Fz.Gh fR h) (fun AY A outer s H vs Q E e h=>?_),(F.binds (by walk_at "bD2")),c⟩
 refine⟨_,(A9 rfl (Jv (qv 0) (D4 KG C3 (A0 (qv 1) A4)))
   (A9 rfl (Jv (qv 0) NM)
   (AA rfl (Jv (qv 0) NM)))),?_⟩
 refine Fz.RU h fR ?_;rintro _ _ ⟨a,dx,tp,ns,rfl,rfl⟩;show Ws [_,_] _ _ _;cases tp
 case' false=>refine Al (J6 (i:=0) (De (FV (NX rfl (BX (AH rfl ⟨_,.inl ⟨rfl,DE rfl ⟨true,A7,dx,_,a,_,rfl,rfl,BR,E6,by decide,BJ,?_⟩⟩⟩))))))
 case' true=>refine Al (J6 (i:=0) (De (FV (NX rfl (BX (AH rfl ⟨_,.inr ⟨rfl,DE rfl ⟨true,A7,dx,_,a,_,rfl,rfl,BR,E6,by decide,BJ,?_⟩⟩⟩))))))
 all_goals
  rw[OV.Fj];show Ws [.ow true (.nd (.obj A7 dx ["standing"]) a [.fz (.lst (ns.map .str))]),_] _ _ _;refine Al (J6 (i:=0) (Mb fun b=>DE rfl ⟨true,A7,dx,_,a,_,rfl,rfl,BR,Co,by decide,BJ,?_⟩));rw[OV.Fj];show Ws [.ow true (.nd (.obj A7 dx ["standing","running"]) a [.fz (.lst (ns.map .str)),.nd (.B1 []) b []]),_] _ _ _;refine J6 (i:=0) (Mb fun d=>DE rfl ⟨true,A7,dx,_,a,_,rfl,rfl,BR,GS,by decide,BJ,?_⟩);rw[OV.Fj];exact⟨_,_,_,_,rfl,rfl,rfl,b,d,rfl⟩
def ZB2:As ["self","stood"] ["self","stood"] (Ae aX):=by walk_at "z1"
def eU:∀ss R,(XB AI) ss R->ss.length=2:=by rintro _ _ ⟨a,dx,n,rfl,rfl⟩;rfl
def wD (F:AE K "__init__" "Tally.__init__" aX f fd)(b:Mk K AI f):
  P5 P w K mg base AI 1 ["self","stood"] (Br (XB AI)):=by
 refine⟨f,fd,F.BS (k:=0) ZB2 (fun vs H Q E h=>Fz.Gh eU h) (fun AY A outer s H vs Q E c h=>?_),(F.binds (by walk_at "bD2")),b⟩
 refine⟨_,(A9 rfl (Jv (qv 0) (qv 1))
   (A9 rfl (Jv (qv 0) A5)
   (A9 rfl (Jv (qv 0) A5)
   (AA rfl (Jv (qv 0) A5))))),?_⟩
 refine Fz.RU h eU ?_;rintro _ _ ⟨a,dx,n,rfl,rfl⟩;show Ws [_,_] _ _ _;refine Al (J6 (i:=0) (De (AH rfl (DE rfl ⟨true,AI,dx,_,a,_,rfl,rfl,GU,Wy,by decide,BJ,?_⟩))));rw[OV.Fj];show Ws [.ow true (.nd (.obj AI dx ["stood"]) a [.fz (.int n)]),.is (.int n)] _ _ _;refine Al (J6 (i:=0) (De (Bw (DE rfl ⟨true,AI,dx,_,a,_,rfl,rfl,GU,Mo,by decide,BJ,?_⟩))));rw[OV.Fj];show Ws [.ow true (.nd (.obj AI dx ["stood","joined"]) a [.fz (.int n),.fz (.int 0)]),.is (.int n)] _ _ _;refine Al (J6 (i:=0) (De (Bw (DE rfl ⟨true,AI,dx,_,a,_,rfl,rfl,GU,NP,by decide,BJ,?_⟩))));rw[OV.Fj];show Ws [.ow true (.nd (.obj AI dx ["stood","joined","told"]) a [.fz (.int n),.fz (.int 0),.fz (.int 0)]),.is (.int n)] _ _ _;refine J6 (i:=0) (De (Bw (DE rfl ⟨true,AI,dx,_,a,_,rfl,rfl,GU,Mi,by decide,BJ,?_⟩)));rw[OV.Fj];exact⟨_,_,_,_,rfl,rfl,rfl,rfl⟩
def uT:As ["rule"] ["rule"] (Ae V7):=by walk_at "z1"
def jG:∀ss R D,(VZ Cz) ss R D->ss.length=1:=by rintro _ _ _ ⟨r,rfl,_,rfl,rfl⟩;rfl
def nK (F:AE K "check_rule" "check_rule" V7 f fd)(m:mg "check_rule"=some (.ref f)):
  Bz P w K mg base "check_rule" 3 ["rule"] (Cf (VZ Cz)):=by
 refine Bz.mk F (F.binds (by walk_at "bD1")) m (F.JX (k:=2) uT (fun vs H Q E h=>Fz.JU jG h) (fun AY A outer s H vs Q E b h=>?_))
 refine⟨_,(AA rfl (Ai (AW Kv (qv 0) (OO (v:=.ref GQ) (by rfl) NQ rfl)) (AA rfl (JF Ww (by rfl) Xt b (by decide) rfl rfl ES (A0 (qv 0) A4))) Ak)),?_⟩;refine Fz.J9 h jG ?_;rintro _ _ _ ⟨r,rfl,a,rfl,rfl⟩;intro i;have C:Jr K GQ ([("none":Str), "ahead","all"].map .str):=Jr.of N2 rfl rfl;show Ws [_] _ _ _;refine CC (Ct (iY (neg:=true) C (AH rfl ⟨r,rfl,_,rfl,?_⟩)));refine Ad (fun c=>?_) (fun c=>?_)
 ·refine G3 (AH rfl ⟨a,trivial,rfl,?_⟩);unfold IT
  simpa using c
 ·refine AS ⟨_,rfl,rfl,?_⟩;show decide (r∈([("none":Str), "ahead","all"]))=true;cases e:decide (r∈([("none":Str), "ahead","all"])) with
  | true=>rfl
  | false=>exact absurd (by rw[e];rfl) c
def ZF6:As ["row","rule"] ["row","rule"] (Ae X1):=by walk_at "z1"
def cD:∀ss R D,(Uv Cz) ss R D->ss.length=2:=by rintro _ _ _ ⟨tp,ns,r,rfl,_,_,rfl,rfl⟩;rfl
def nU (F:AE K "begun" "begun" X1 f fd)(m:mg "begun"=some (.ref f)):
  Bz P w K mg base "begun" 4 ["row","rule"] (Cf (Uv Cz)):=by
 refine Bz.mk F (F.binds (by walk_at "bD2")) m (F.JX (k:=3) ZF6 (fun vs H Q E h=>Fz.JU cD h) (fun AY A outer s H vs Q E c h=>?_))
 refine⟨_,(A9 rfl (DV (GI Ue c (by decide) ES rfl (A0 (qv 1) A4)))
   (AA rfl (Aa (Bx (A0 (qv 1) (A0 A5 (A0 (D4 Kg DG (A0 (BF Ry FH (A0 (qv 0) A4)) A4)) A4))))))),?_⟩
 refine Fz.J9 h cD ?_;rintro _ _ _ ⟨tp,ns,r,rfl,e,b,rfl,rfl⟩;intro i;show Ws [_,_] _ _ _;refine Al (KJ (Hf (B4 (AH rfl (Bh ⟨_,_,⟨r,rfl,b,rfl,rfl⟩,trivial,fun x h=>h,?_⟩)))));rintro _ ⟨rfl,d⟩
 walk_at "ww"
 refine⟨e,fun ts a st=>?_⟩
 walk_at "ww"
 exact⟨by simp,d,ts,a,st,rfl⟩
def ZEp:As ["text"] ["text"] (Ae RV):=by walk_at "z1"
noncomputable def ZCT:Scope:={ kind:=.function,names:=[(".0", .local),("sign", .local),("LETTERS", .globalImplicit)],isGenerator:=false,isCoroutine:=false,more:=[] }
def ZF5:Ep ["text"] (Ae RV) ZCT "sign" [] []:=by walk_at "z2"
def xb (F:AE K "is_name" "is_name" RV f fd)(m:mg "is_name"=some (.ref f)):
  AG P w K mg base "is_name" 1 ["text"] (Lo):=by
 refine AG.mk F (F.binds (by walk_at "bD1")) m (F.BS (k:=0) ZEp (fun vs H Q E h=>?_) (fun AY A outer s H vs Q E d h=>?_))
 ·obtain⟨x,rfl,hx,q⟩:=h;rfl
 obtain⟨x,rfl,hx,q⟩:=h;refine⟨_,(AA rfl (Aa (Tn (Nb E7 E7 A5 (BF Xs Aj (A0 (qv 0) A4)) (OO (v:=.int 8) (by rfl) Ui ⟨_,rfl⟩)) (MV (BF (lH rfl) NT (A0 (KZ rfl ZF5 (jJ (qv 0)) (fun _ _ _ _=>by exact iA) (fun _ _ _ _=>by exact(Ir hV (qv 0) (OO (v:=.str "abcdefghijklmnopqrstuvwxyz") (by rfl) XR ⟨_,rfl⟩)))) A4)))))),?_⟩;refine⟨_,rfl,_,rfl,small (by omega),_,_,rfl,rfl,_,rfl,?_⟩;refine Ad (fun c=>?_) (fun c=>⟨_,rfl,D5 ?_⟩)
 ·refine⟨_,_,rfl,rfl,_,rfl,?_⟩;refine Ad (fun c2=>?_) (fun c2=>?_)
  ·refine⟨_,rfl,x,rfl,fun acc B2=>dX (fun _=>true) Zk B2 (by rw[<- Nh,<- Ho];exact small (by omega)) (fun i v H' Q' _ _ h=>h H' (AB.refl _)) (fun i v H' Q' b _ _ h=>?_) (fun H' s1 a=>?_)⟩
   ·obtain⟨g,rfl⟩:=signs_get b;exact⟨_,rfl,_,_,rfl,rfl,h H' (AB.refl _)⟩
   ·rw[kT] at a;refine⟨acc,_,rfl,AN.of a,?_⟩;rw[all_map];have e:isNm x=x.cps.toList.all LR:=by unfold isNm;rw[c,c2];rfl
    rw[<- e];exact q H' s1
  ·have e:isNm x=false:=by unfold isNm;rw[Bool.eq_false_iff.mpr c2];simp
   rw[<- e];exact q H (AB.refl _)
 ·have e:isNm x=false:=by unfold isNm;rw[Bool.eq_false_iff.mpr c];simp
  rw[<- e];exact q H (AB.refl _)
def ZDC:As ["self","loop","rule"] ["self","loop","rule"] (Ae Y0):=by walk_at "z1"
def iD:∀ss R,(YD A7 AI) ss R->ss.length=3:=by rintro _ _ ⟨s,a,t,x,r,rfl,_,_,_,_,_,rfl⟩;rfl
def vO (F:AE K "follows_begin" "Course.follows_begin" Y0 f fd)(p:Meth K A7 "follows_begin" f):
  ER P w K mg base A7 "follows_begin" 6 ["self","loop","rule"] (Br (YD A7 AI)):=by
 refine⟨f,fd,F.BS (k:=5) ZDC (fun vs H Q E h=>Fz.Gh iD h) (fun AY A outer s H vs Q E d h=>?_),(F.binds (by walk_at "bD3")),p,BR⟩
 refine⟨_,(A9 rfl (Ai (Fb (Gr (IX (Af MG d (A0 (qv 1) A4)))) (Fb (dm (BO d) (qv 1) (Dp (qv 0))) (Hb (AW Kv (qv 2) (OO (v:=.ref GQ) (by rfl) NQ rfl))))).pt (AA rfl (Aa DP)) Ak)
   (A9 rfl (JQ (BO d) (Dp (qv 0)) (qv 1) (GI WE d (by decide) QQ rfl (A0 (Dp (qv 0)) (A0 (qv 2) A4))))
   (A9 rfl (JQ (BO d) (Dp (qv 0)) (qv 1) (gX Yj d (by decide) Yf (A0 (BF CJ Aj (A0 (Dp (qv 0)) A4)) A4)))
   (AA rfl (Aa DP))))),?_⟩
 refine Fz.KI h iD ?_;rintro _ _ ⟨s,a,t,x,r,rfl,q,ok,hx,d,hn,rfl⟩;obtain⟨dx,aL,aS,us,BK,rfl⟩:=q;have C:Jr K GQ ([("none":Str), "ahead","all"].map .str):=Jr.of N2 rfl rfl;show Ws [_,_,_] _ _ _;have l:∀nx:List Slot->Prop,¬ (isNm x=true/\x∉s.sn/\IT r=true)->Ws [.ow true (Bg s A7 a dx aL aS us),.is (.str x),.is (.str r)] (Fp (tC (V.bl false))) nx (.mt (Dn (fun s t=>D9 s A7 AI a t) s (FD s x r))):=fun nx h=>Di (i:=0) rfl (Ci (.inr ⟨by unfold FD;rw[o5 h],rfl,dx,aL,aS,us,BK,rfl⟩));refine Al (CC (Hy (Ib (Fc (Ss (AH rfl ⟨x,rfl,hx.2,_,rfl,?_⟩))))));refine Ad (fun c=>l _ fun z=>by rw[z.1] at c;cases c) (fun c=>?_);refine Hy (Fc (gJ (AH rfl (TK rfl BR GS ⟨An s.sn,aS,us,.inr x,rfl,rfl,_,rfl,?_⟩))));rw[KR];refine Ad (fun c2=>l _ fun z=>z.2.1 (om c2)) (fun c2=>?_);refine Ct (iY (neg:=true) C (AH rfl ⟨r,rfl,_,rfl,?_⟩));refine Ad (fun j=>l _ fun z=>?_) (fun j=>AS ?_)
 ·have g:decide (r∈([("none":Str), "ahead","all"]))=true:=z.2.2;rw[g] at j;cases j
 have h1:isNm x=true:=by cases e:isNm x with
  | true=>rfl
  | false=>exact absurd (by rw[e];rfl) c
 have h2:x∉s.sn:=fun z=>c2 (nv z);have g:IT r=true:=by
  show decide (r∈([("none":Str), "ahead","all"]))=true;cases e:decide (r∈([("none":Str), "ahead","all"])) with
  | true=>rfl
  | false=>exact absurd (by rw[e];rfl) j
 have n:x∉s.ln:=fun z=>h2 (ok.sub x z);refine Al (JW (i:=0) (t:=Bg s A7 a dx aL aS us) (De (Hf (DS (BX (D3 (Pw rfl BR E6 ⟨_,rfl,_,.inl ⟨rfl,B4 (AH rfl (Bh ⟨_,_,⟨false,s.row,r,rfl,by have:=ok.row.len;omega,d.1,rfl,rfl⟩,trivial,fun e m=>(by rw[g] at m;cases m.2),?_⟩))⟩⟩)))))));rintro _ ⟨_,ts,o,st,rfl⟩;rw[fq ok.row.nd o st];have l1:=ok.l1;have l2:=ok.l2;have y:=JM ok.n1 ok.sub;refine(Jo rfl BR Co ⟨true,aL,An s.ln,_,rfl,rfl,by unfold CG;rw[AQ];omega,Ip ok.n1,BJ,AH rfl ⟨.inr x,rfl,?_⟩⟩);rw[ON n,R7 n];unfold Bg;rw[show([]++[1]:List Nat)=[1] from rfl,K3];have u:CG s.ll++[.fz (.tup [.str r,.int 0,.tup ((Fe s.row).map .str)])]=CG (s.ll++[⟨r,0,Fe s.row⟩]):=by unfold CG;rw[EF];rfl
 rw[u];show Ws [.ow true (Bg ⟨s.row,s.ln++[x],s.ll++[⟨r,0,Fe s.row⟩],s.sn,s.sq⟩ A7 a dx aL aS us),.is (.str x),.is (.str r)] _ _ _;refine Al (JW (i:=0) (t:=Bg ⟨s.row,s.ln++[x],s.ll++[⟨r,0,Fe s.row⟩],s.sn,s.sq⟩ A7 a dx aL aS us) (lQ (DX (D6 (BX (D3 (Pw rfl BR E6 ⟨_,rfl,_,.inl ⟨rfl,Fw fun b e=>⟨_,⟨b,e,s.row.length,by rw[AQ],rfl⟩,?_⟩⟩⟩)))))));rintro _ _ ⟨rfl,rfl⟩;refine⟨rfl,_,_,rfl,?_⟩;refine(TK rfl BR GS ⟨true,aS,An s.sn,us,rfl,rfl,by rw[BK.1];omega,Ip ok.n2,BJ,AH rfl ⟨.inr x,rfl,?_⟩⟩);rw[ON h2,R7 h2];unfold Bg;rw[show([]++[2]:List Nat)=[2] from rfl,put2];exact Di (i:=0) rfl (Ci (.inl ⟨_,by unfold FD;rw[pQ ⟨h1,h2,g⟩],rfl,dx,aL,aS,_,BK.snoc ⟨e,b,rfl⟩,rfl⟩))
def ZFE:As ["self","loop"] ["self","loop"] (Ae UQ):=by walk_at "z1"
def eY:∀ss R,(Mh A7) ss R->ss.length=2:=by rintro _ _ ⟨s,xs,x,rfl,_,rfl⟩;rfl
def ZFV (F:AE K "coming" "Course.coming" UQ f fd)(d:Meth K A7 "coming" f):
  ER P w K mg base A7 "coming" 2 ["self","loop"] (BE (Mh A7)):=by
 refine⟨f,fd,F.BS (k:=1) ZFE (fun vs H Q E h=>Fz.DW eY h) (fun AY A outer s H vs Q E a h=>?_),(F.binds (by walk_at "bD2")),d,BR⟩
 refine⟨_,(A9 rfl (Ai (Tc (BO a) (qv 1) (Dp (qv 0))) (AA rfl (Aa (Bx A4))) Ak)
   (AA rfl (Aa (AD AL (C8 (BO a) (Dp (qv 0)) (qv 1) (fun _ _=>rfl)) A5)))),?_⟩
 refine Fz.DY h eY ?_;rintro _ _ ⟨s,xs,x,rfl,e,rfl⟩;show Ws [_,_] _ _ _;refine Al (CC (Fc (yu (AH rfl (ir (AH rfl ⟨A7,JG,_,1,_,rfl,BR,Co,by decide +kernel,rfl,An s.ln,_,.inr x,rfl,rfl,_,rfl,?_⟩))))));rw[KR];refine Ad (fun c=>?_) (fun c=>AS ?_)
 ·refine Cq (Pe (LA ⟨by simp,?_⟩));have nx:x∉s.ln:=fun z=>by rw[nv z] at c;cases c
  unfold E5;rw[aw nx,e,Kl (Ax _)];rfl
 ·have hx:x∈s.ln:=Jb fun z=>c (by rw[q8 z];rfl);have hi:=List.idxOf_lt_length_iff.mpr hx;obtain⟨l,b⟩:∃l,s.ll[s.ln.idxOf x]?=some l:=⟨_,BC (by omega)⟩;refine Cq (FL (BX (LZ (ir (AH rfl ⟨A7,JG,_,1,_,rfl,BR,Co,by decide +kernel,rfl,An s.ln,_,rfl,AH rfl ⟨.inr x,l.P,rfl,U2 hx (by rw[BU,b];rfl),_,.inr ⟨rfl,rfl,Bw ⟨_,_,rfl,rfl,?_⟩⟩⟩⟩)))));unfold E5;rw[b]
def xo:As ["coming","gone"] ["coming","gone"] (Ae T4):=by walk_at "z1"
noncomputable def ZED:Scope:={ kind:=.function,names:=[(".0", .local),("name", .local),("gone", .free)],isGenerator:=false,isCoroutine:=false,more:=[] }
def yL:Ep ["coming","gone"] (Ae T4) ZED "name" ["gone"] [1]:=by walk_at "z2"
def jX : ∀ss R,RJ ss R->ss.length=2:=by rintro _ _ ⟨cs,x,rfl,_,rfl⟩;rfl
def xE (F:AE K "coming_without" "coming_without" T4 f fd)(m:mg "coming_without"=some (.ref f)):
  AG P w K mg base "coming_without" 1 ["coming","gone"] (BE RJ):=by
 refine AG.mk F (F.binds (by walk_at "bD2")) m (F.BS (k:=0) xo (fun vs H Q E h=>Fz.DW jX h) (fun AY A outer s H vs Q E c h=>?_))
 refine⟨_,(AA rfl (Aa (D4 Kg DG (A0 (KZ rfl yL (J3 (qv 0)) (fun _ _ _ _=>by exact(L5 (AW Lk (qv 1) (qv 0)))) (fun _ _ _ _=>by exact(qv 1))) A4)))),?_⟩;refine Fz.DY h jX ?_;rintro _ _ ⟨cs,x,rfl,b,rfl⟩;show Ws [_,_] _ _ _;refine Cq (Sh rfl (BX (FV (WG PV.str (fun y=>!alike (.str y) (.str x)) PV.str ?_ str_inj))))
 walk_at "ww"
 refine⟨by omega,fun y a=>by walk_at "ww"; rfl,fun y a _=>by walk_at "ww"; rfl,?_⟩
 rw[lZ];exact⟨_,.inl ⟨rfl,rfl⟩⟩
def rq:As ["row","name"] ["row","name"] (Ae Wv):=by walk_at "z1"
def kd:∀ss R D,(NI Au) ss R D->ss.length=2:=by rintro _ _ _ ⟨tp,ns,x,rfl,_,rfl,rfl⟩;rfl
def rG (F:AE K "place_of" "place_of" Wv f fd)(m:mg "place_of"=some (.ref f)):
  Bz P w K mg base "place_of" 3 ["row","name"] (Cf (NI Au)):=by
 refine Bz.mk F (F.binds (by walk_at "bD2")) m (F.JX (k:=2) rq (fun vs H Q E h=>Fz.JU kd h) (fun AY A outer s H vs Q E b h=>?_))
 refine⟨_,(A9 rfl (Ai (AW Kv (qv 1) (qv 0)) (AA rfl (JF Uk (by rfl) VQ b (by decide) rfl rfl ES (A0 (qv 1) A4))) Ak)
   (AA rfl (Aa (p4 (Gx Iv U0 bK Qx (qv 0) (A0 (qv 1) A4)) (Gx PySem.F.plainAttrs_tuple ZGT PySem.F.type_tuple_index ZCG (qv 0) (A0 (qv 1) A4)))))),?_⟩
 refine Fz.J9 h kd ?_;rintro _ _ _ ⟨tp,ns,x,rfl,a,rfl,rfl⟩;intro i;show Ws [_,_] _ _ _
 walk_at "ww"
 refine Ad (fun c=>?_) (fun c=>?_)
 ·refine G3 (AH rfl ⟨a.1,trivial,?_,rfl⟩);intro h;rw[nv h] at c;cases c
 ·have hx:x∈ns:=by
   cases e:decide (x∈ns) with
   | true=>exact om e
   | false=>exact absurd (by rw[e];rfl) c
  refine AS ?_;cases tp with
  | false=>
   refine Cq (nq (Yu ?_))
   walk_at "ww"
   exact⟨hx,hx,rfl⟩
  | true=>
   refine Cq (yP (xa ?_))
   walk_at "ww"
   exact⟨hx,hx,rfl⟩
def ZCm:As ["row","loop","name"] ["row","loop","name"] (Ae Vt):=by walk_at "z1"
def kD : ∀ss R,X7 ss R->ss.length=3:=by rintro _ _ ⟨tp,ns,r,g,cs,x,rfl,_,_,_,rfl⟩;rfl
def ZDD (F:AE K "loop_telling" "loop_telling" Vt f fd)(m:mg "loop_telling"=some (.ref f)):
  AG P w K mg base "loop_telling" 4 ["row","loop","name"] (BE X7):=by
 refine AG.mk F (F.binds (by walk_at "bD3")) m (F.BS (k:=3) ZCm (fun vs H Q E h=>Fz.DW kD h) (fun AY A outer s H vs Q E a h=>?_))
 refine⟨_,(AA rfl (Aa (Bx (A0 (AD AL (qv 1) A5) (A0 (B6 EA (GI GL a (by decide) QQ rfl (A0 (qv 0) (A0 (qv 2) A4))) A5) (A0 (Af MX a (A0 (AD AL (qv 1) A5) (A0 (qv 2) A4))) A4)))))),?_⟩;refine Fz.DY h kD ?_;rintro _ _ ⟨tp,ns,r,g,cs,x,rfl,c,b,hx,rfl⟩;unfold ND;show Ws [_,_,_] _ _ _
 walk_at "ww"
 refine Hf ?_;refine DS (FC rfl (B4 (AH rfl (Bh ⟨_,_,⟨tp,ns,x,rfl,b,rfl,rfl⟩,trivial,fun e h=>absurd hx h.1,?_⟩))));rintro _ ⟨_,rfl⟩
 walk_at "ww"
 refine wp_call (B4 ?_)
 walk_at "ww"
 refine B4 (AH rfl (Bh ⟨_,⟨cs,x,rfl,c,rfl⟩,?_⟩));rintro _ rfl
 walk_at "ww"
 exact⟨by simp,rfl⟩
def iV:As ["self","loop","name","tally"] ["self","loop","name"] (Ae WT):=by walk_at "z1"
def cz:∀ss R,(UZ A7 AI) ss R->ss.length=3:=by rintro _ _ ⟨s,a,t,x,y,rfl,_,_,_,rfl⟩;rfl
def ZD2 (F:AE K "follows_tell" "Course.follows_tell" WT f fd)(I:Meth K A7 "follows_tell" f):
  ER P w K mg base A7 "follows_tell" 6 ["self","loop","name"] (Br (UZ A7 AI)):=by
 refine⟨f,fd,F.BS (k:=5) iV (fun vs H Q E h=>Fz.Gh cz h) (fun AY A outer s H vs Q E m h=>?_),(F.binds (by walk_at "bD3")),I,BR⟩
 refine⟨_,(A9 rfl (Ai (AW Kv (qv 2) (Hc Hn m (by decide) (qv 0) (A0 (qv 1) A4))) (AA rfl (Aa DP)) Ak)
   (A9 rfl (JQ (BO m) (Dp (qv 0)) (qv 1) (Af Y4 m (A0 (Dp (qv 0)) (A0 (C8 (BO m) (Dp (qv 0)) (qv 1) (fun _ _=>rfl)) (A0 (qv 2) A4)))))
   (A9 rfl (Az 3 iV.nd (C8 (BO m) (Dp (qv 0)) (qv 1) (fun _ _=>rfl)))
   (A9 rfl (aV (qv 3) A5 Uo)
   (AA rfl (Aa DP)))))),?_⟩
 refine Fz.KI h cz ?_;rintro _ _ ⟨s,a,t,x,y,rfl,J,ok,hn,rfl⟩;obtain⟨dx,aL,aS,us,BK,rfl⟩:=J;show Ws [_,_,_,.any] _ _ _;have l1:=ok.l1;have l2:=ok.l2;have O:=JM ok.n1 ok.sub;have L:(E5 s x).length<=1000:=by
  unfold E5;split
  ·next l e=>have:=(ok.good l (Dh e)).len;have:=ok.row.len;omega
  ·exact CO _
 refine Al (CC (Ct (VN (AH rfl ⟨y,rfl,(JS rfl rfl l1 ⟨_,rfl,?_⟩)⟩))));refine⟨_,rfl,?_⟩;have G:y∉E5 s x->EU s x y=none:=fun h=>by
  unfold EU;unfold E5 at h;split
  ·next l e=>rw[e] at h;rw[o5 h]
  ·rfl
 refine Ad (fun c=>?_) (fun c=>AS ?_)
 ·refine Di (i:=0) rfl (Ci (.inr ⟨G (fun z=>(by rw[nv z] at c;cases c)),rfl,dx,aL,aS,us,BK,rfl⟩))
 ·have d:y∈E5 s x:=Jb fun z=>c (by rw[q8 z];rfl);obtain⟨l,n⟩:∃l,s.ll[s.ln.idxOf x]?=some l:=by
   unfold E5 at d;split at d
   ·next l e=>exact⟨l,e⟩
   ·cases d
  have c1:E5 s x=l.cs:=by unfold E5;rw[n]
  rw[c1] at d;have o:x∈s.ln:=ZDK l1 n;have xs:x∈s.sn:=ok.sub x o;have C:=ok.good l (Dh n);have B:y∈s.row:=C.sub y d;have S:=ok.row.len;have R:=C.len;refine Al (JW (i:=0) (t:=Bg s A7 a dx aL aS us) (De (wp_call (DS (BX (D3 (Pw rfl BR E6 ⟨_,rfl,_,.inl ⟨rfl,?_⟩⟩)))))));refine B4 (D3 (G8 (Jo rfl BR Co ⟨An s.ln,aL,_,rfl,AH rfl ⟨.inr x,s.ln.idxOf x,.fz l.P,rfl,G1 o,MC n,_,rfl,?_⟩⟩)));refine B4 (AH rfl (Bh ⟨_,⟨false,s.row,l.r,l.g,l.cs,y,rfl,by omega,LM (ok.row.nm y B),B,rfl⟩,?_⟩));rintro _ rfl;refine(Jo rfl BR Co ⟨true,aL,An s.ln,_,rfl,rfl,by unfold CG;rw[AQ];omega,Ip ok.n1,BJ,AH rfl ⟨.inr x,rfl,?_⟩⟩);rw[SU o,Qr o];unfold Bg;rw[show([]++[1]:List Nat)=[1] from rfl,K3];have M:(CG s.ll).set (s.ln.idxOf x) (.fz (Ed l.r (s.row.idxOf y+1) (wo l.cs y)))=CG (s.ll.set (s.ln.idxOf x) ⟨l.r,s.row.idxOf y+1,wo l.cs y⟩):=QX _ _ ⟨l.r,s.row.idxOf y+1,wo l.cs y⟩;rw[M];obtain⟨q,D⟩:∃q,s.sq[s.sn.idxOf x]?=some q:=⟨_,BC (by have:=List.idxOf_lt_length_iff.mpr xs;omega)⟩;obtain⟨u,v,e,b,rfl⟩:=BK.get D;show Ws [.ow true (Bg ⟨s.row,s.ln,s.ll.set (s.ln.idxOf x) ⟨l.r,s.row.idxOf y+1,wo l.cs y⟩,s.sn,s.sq⟩ A7 a dx aL aS us),.is (.str x),.is (.str y),.any] _ _ _;refine Al (V5 (i:=0) (G8 (TK rfl BR GS ⟨An s.sn,aS,us,rfl,AH rfl ⟨.inr x,s.sn.idxOf x,_,rfl,G1 xs,v,_,b,_,rfl,?_⟩⟩)));show Ws [.ow true (Bg ⟨s.row,s.ln,s.ll.set (s.ln.idxOf x) ⟨l.r,s.row.idxOf y+1,wo l.cs y⟩,s.sn,s.sq⟩ A7 a dx aL aS us),.is (.str x),.is (.str y),.raw (ptr b)] _ _ _;refine Al (Xk (IJ (j:=3) (i:=0) (p:=[2,s.sn.idxOf x]) rfl rfl (X5 v) ⟨true,AI,e,_,b,_,2,_,rfl,rfl,GU,NP,by decide,by decide +kernel,rfl,Bw ⟨_,rfl,?_⟩⟩));unfold Bg;rw[RQ v];refine Di (i:=0) rfl (Ci (.inl ⟨⟨s.row,s.ln,s.ll.set (s.ln.idxOf x) ⟨l.r,s.row.idxOf y+1,wo l.cs y⟩,s.sn,s.sq.modify (s.sn.idxOf x) Sm.tell⟩,?_,rfl,dx,aL,aS,_,BK.set fun N h'=>by rw[D] at h';cases h';exact⟨e,b,rfl⟩,rfl⟩));unfold EU;rw[n];show(if y∈l.cs then _ else none)=_
  rw[pQ d]
def vR:As ["self","loop"] ["self","loop"] (Ae Uq):=by walk_at "z1"
def fS:∀ss R,(W5 A7 AI) ss R->ss.length=2:=by rintro _ _ ⟨s,a,t,x,rfl,_,_,rfl⟩;rfl
def zG (F:AE K "follows_over" "Course.follows_over" Uq f fd)(g:Meth K A7 "follows_over" f):
  ER P w K mg base A7 "follows_over" 6 ["self","loop"] (Br (W5 A7 AI)):=by
 refine⟨f,fd,F.BS (k:=5) vR (fun vs H Q E h=>Fz.Gh fS h) (fun AY A outer s H vs Q E e h=>?_),(F.binds (by walk_at "bD2")),g,BR⟩
 refine⟨_,(A9 rfl (Ai (Fb (Tc (BO e) (qv 1) (Dp (qv 0))) (Hb (AW KD (BF CJ Aj (A0 (Hc Hn e (by decide) (qv 0) (A0 (qv 1) A4)) A4)) A5))).pt (AA rfl (Aa DP)) Ak)
   (A9 rfl (DV (iL (Dp (qv 0)) (qv 1) ⟨rfl,rfl,rfl,rfl⟩))
   (AA rfl (Aa DP)))),?_⟩
 refine Fz.KI h fS ?_;rintro _ _ ⟨s,a,t,x,rfl,j,ok,rfl⟩;obtain⟨dx,aL,aS,us,BK,rfl⟩:=j;show Ws [_,_] _ _ _;have l1:=ok.l1;refine Al (CC (Hy (Fc (U3 (AH rfl (Jo rfl BR Co ⟨An s.ln,aL,_,.inr x,rfl,rfl,_,rfl,?_⟩))))));rw[KR];refine Ad (fun c=>?_) (fun c=>?_)
 ·have nx:x∉s.ln:=fun z=>by rw[nv z] at c;cases c
  refine Di (i:=0) rfl (Ci (.inr ⟨?_,rfl,dx,aL,aS,us,BK,rfl⟩));unfold EY;rw[aw nx,l1,Kl (Ax _)]
 ·have hx:x∈s.ln:=Jb fun z=>c (by rw[q8 z];rfl);have hi:=List.idxOf_lt_length_iff.mpr hx;obtain⟨l,d⟩:∃l,s.ll[s.ln.idxOf x]?=some l:=⟨_,BC (by omega)⟩;have c1:E5 s x=l.cs:=by unfold E5;rw[d]
  refine Ct (G0 (D6 (JS rfl rfl l1 ?_)));rw[AQ,c1];refine⟨_,rfl,Bw ⟨_,rfl,_,rfl,?_⟩⟩;refine Ad (fun c2=>?_) (fun c2=>AS ?_)
  ·have b:=om c2;refine Di (i:=0) rfl (Ci (.inr ⟨?_,rfl,dx,aL,aS,us,BK,rfl⟩));unfold EY;rw[d];show(if l.cs=[] then _ else none)=none
   rw[o5 (fun z=>by rw[z] at b;exact absurd b (by decide))]
  ·have b:l.cs=[]:=List.length_eq_zero_iff.mp (by have:¬ (0:Int)<l.cs.length:=fun z=>c2 (nv z);omega);refine Al (kr (i:=0) (t:=Bg s A7 a dx aL aS us) (Jo rfl BR Co ⟨true,aL,An s.ln,_,rfl,rfl,Ip ok.n1,AH rfl ⟨.inr x,s.ln.idxOf x,rfl,G1 hx,?_⟩⟩));unfold Bg;rw[show([]++[1]:List Nat)=[1] from rfl,K3,kR,lr];refine Di (i:=0) rfl (Ci (.inl ⟨⟨s.row,s.ln.eraseIdx (s.ln.idxOf x),s.ll.eraseIdx (s.ln.idxOf x),s.sn,s.sq⟩,?_,rfl,dx,aL,aS,us,BK,rfl⟩));unfold EY;rw[d];show(if l.cs=[] then _ else none)=_
   rw[pQ b]
def vg:As ["gap","at"] ["gap","at"] (Ae ZS):=by walk_at "z1"
def bP : ∀ss R,Z4 ss R->ss.length=2:=by rintro _ _ ⟨g,i,rfl,rfl⟩;rfl
def qB (F:AE K "gap_behind_put" "gap_behind_put" ZS f fd)(m:mg "gap_behind_put"=some (.ref f)):
  AG P w K mg base "gap_behind_put" 1 ["gap","at"] (BE Z4):=by
 refine AG.mk F (F.binds (by walk_at "bD2")) m (F.BS (k:=0) vg (fun vs H Q E h=>Fz.DW bP h) (fun AY A outer s H vs Q E a h=>?_))
 refine⟨_,(A9 rfl (Ai (AW Ff (qv 1) (qv 0)) (AA rfl (Aa (B6 EA (qv 0) A5))) Ak)
   (AA rfl (Aa (qv 0)))),?_⟩
 refine Fz.DY h bP ?_;rintro _ _ ⟨g,i,rfl,rfl⟩;show Ws [_,_] _ _ _
 walk_at "ww"
 refine Ad (fun c=>?_) (fun c=>?_)
 ·have h:i<g:=by have:=om c;omega
  walk_at "ww"
  unfold Gb;rw[pQ h];rfl
 ·have h:¬ i<g:=fun z=>c (nv (by omega));refine AS ?_
  walk_at "ww"
  unfold Gb;rw[o5 h]
def rW:As ["gap","place"] ["gap","place"] (Ae VY):=by walk_at "z1"
def ig : ∀ss R,aA ss R->ss.length=2:=by rintro _ _ ⟨g,i,rfl,rfl⟩;rfl
def zW (F:AE K "gap_behind_take" "gap_behind_take" VY f fd)(m:mg "gap_behind_take"=some (.ref f)):
  AG P w K mg base "gap_behind_take" 1 ["gap","place"] (BE aA):=by
 refine AG.mk F (F.binds (by walk_at "bD2")) m (F.BS (k:=0) rW (fun vs H Q E h=>Fz.DW ig h) (fun AY A outer s H vs Q E a h=>?_))
 refine⟨_,(A9 rfl (Ai (AW Ff (qv 1) (qv 0)) (AA rfl (Aa (B6 O1 (qv 0) A5))) Ak)
   (AA rfl (Aa (qv 0)))),?_⟩
 refine Fz.DY h ig ?_;rintro _ _ ⟨g,i,rfl,rfl⟩;show Ws [_,_] _ _ _
 walk_at "ww"
 refine Ad (fun c=>?_) (fun c=>?_)
 ·have h:i<g:=by have:=om c;omega
  walk_at "ww"
  unfold Fs;rw[pQ h];show PV.int _=PV.int _
  congr 1;omega
 ·have h:¬ i<g:=fun z=>c (nv (by omega));refine AS ?_
  walk_at "ww"
  unfold Fs;rw[o5 h]
def ZAq:As ["row","gap","deed"] ["row","gap","deed"] (Ae Xy):=by walk_at "z1"
def kB : ∀ss R,Zf ss R->ss.length=3:=by rintro _ _ ⟨tp,ns,g,d,rfl,_,_,rfl⟩;rfl
def ZEd (F:AE K "gap_led" "gap_led" Xy f fd)(m:mg "gap_led"=some (.ref f)):
  AG P w K mg base "gap_led" 4 ["row","gap","deed"] (BE Zf):=by
 refine AG.mk F (F.binds (by walk_at "bD3")) m (F.BS (k:=3) ZAq (fun vs H Q E h=>Fz.DW kB h) (fun AY A outer s H vs Q E a h=>?_))
 refine⟨_,(A9 rfl (Ai (AW BP (AD AL (qv 2) A5) AZ) (AA rfl (Aa (Af Rg a (A0 (qv 1) (A0 (AD AL (qv 2) A5) A4))))) Ak)
   (A9 rfl (Ai (AW BP (AD AL (qv 2) A5) AZ) (AA rfl (Aa (Af QY a (A0 (qv 1) (A0 (GI GL a (by decide) QQ rfl (A0 (qv 0) (A0 (AD AL (qv 2) A5) A4))) A4))))) Ak)
   (A9 rfl (Ai (AW BP (AD AL (qv 2) A5) AZ) (AA rfl (Aa (Af Rg a (A0 (Af QY a (A0 (qv 1) (A0 (GI GL a (by decide) QQ rfl (A0 (qv 0) (A0 (AD AL (qv 2) A5) A4))) A4))) (A0 (AD AL (qv 2) A5) A4))))) Ak)
   (AA rfl (Aa (qv 1)))))),?_⟩
 refine Fz.DY h kB ?_;rintro _ _ ⟨tp,ns,g,d,rfl,hd,b,rfl⟩;show Ws [_,_,_] _ _ _;cases d with
 | put x i=>
  unfold dP
  walk_at "ww"
  refine Bk (by decide +kernel) ?_;refine Cq (wp_call (B4 (AH rfl (B4 ?_))))
  walk_at "ww"
  exact Bh ⟨_,⟨g,i,rfl,rfl⟩,fun _ h=>h⟩
 | take x=>
  unfold dP
  walk_at "ww"
  refine Ah (by decide +kernel) ?_;refine AS ?_
  walk_at "ww"
  refine Bk (by decide +kernel) ?_;refine Cq (wp_call (B4 (AH rfl (B4 ?_))));refine Hf ?_;refine DS (FC rfl (B4 ?_))
  walk_at "ww"
  refine Bh ⟨_,_,⟨tp,ns,x,rfl,b x (.inl rfl),rfl,rfl⟩,trivial,fun e h=>absurd (show x∈ns from hd) h.1,?_⟩;rintro _ ⟨_,rfl⟩;exact Bh ⟨_,⟨g,_,rfl,rfl⟩,fun _ h=>h⟩
 | move x i=>
  unfold dP
  walk_at "ww"
  refine Ah (by decide +kernel) ?_;refine AS ?_
  walk_at "ww"
  refine Ah (by decide +kernel) ?_;refine AS ?_
  walk_at "ww"
  refine Bk (by decide +kernel) ?_;refine Cq (wp_call (B4 (wp_call (B4 (AH rfl (B4 ?_))))));refine Hf ?_;refine DS (FC rfl (B4 ?_))
  walk_at "ww"
  refine Bh ⟨_,_,⟨tp,ns,x,rfl,b x (.inr ⟨i,rfl⟩),rfl,rfl⟩,trivial,fun e h=>absurd hd.1 h.1,?_⟩;rintro _ ⟨_,rfl⟩;refine Bh ⟨_,⟨g,_,rfl,rfl⟩,?_⟩;rintro _ rfl;refine B4 ?_
  walk_at "ww"
  exact Bh ⟨_,⟨_,i,rfl,rfl⟩,fun _ h=>h⟩
 | turn lo hi=>
  unfold dP
  walk_at "ww"
  refine Ah (by decide +kernel) ?_;refine AS ?_
  walk_at "ww"
  refine Ah (by decide +kernel) ?_;refine AS ?_
  walk_at "ww"
  refine Ah (by decide +kernel) ?_;refine AS ?_;exact Cq (AH rfl rfl)
def ZCV:As ["loop","at"] ["loop","at"] (Ae Yb):=by walk_at "z1"
def cP : ∀ss R,Yp ss R->ss.length=2:=by rintro _ _ ⟨r,g,i,xs,rfl,rfl⟩;rfl
def ZCu (F:AE K "joins" "joins" Yb f fd)(m:mg "joins"=some (.ref f)):
  AG P w K mg base "joins" 1 ["loop","at"] (BE Yp):=by
 refine AG.mk F (F.binds (by walk_at "bD2")) m (F.BS (k:=0) ZCV (fun vs H Q E h=>Fz.DW cP h) (fun AY A outer s H vs Q E a h=>?_))
 refine⟨_,(AA rfl (Aa (bc (Ir BP (AD AL (qv 0) A5) AZ) (MV (Tn (Ir BP (AD AL (qv 0) A5) AZ) (MV (Ir MH (qv 1) (AD AL (qv 0) A5)))))))),?_⟩;refine Fz.DY h cP ?_;rintro _ _ ⟨r,g,i,xs,rfl,rfl⟩;show Ws [_,_] _ _ _;refine Cq (kK (WI ?_))
 walk_at "ww"
 refine⟨0,.str r,rfl,Ie (j:=0) rfl,?_⟩
 walk_at "ww"
 unfold Ef;have q:∀z:Str,alike (.str r) (.str z)=decide (V.str r=V.str z):=fun z=>by
  show decide (r=z)=_;rw[Ni,ZAZ,ZAZ];exact⟨fun h=>by rw[h],fun h=>by injection h⟩
 rw[q];refine Ad (fun c=>by rw[pQ c]) (fun c=>?_);rw[o5 c];refine jb (WI ?_)
 walk_at "ww"
 refine⟨0,.str r,rfl,Ie (j:=0) rfl,?_⟩
 walk_at "ww"
 rw[q];refine Ad (fun c=>?_) (fun c=>by rw[o5 c]);rw[pQ c]
 walk_at "ww"
 refine⟨1,.int g,rfl,Ie (j:=1) rfl,?_⟩
 walk_at "ww"
 rfl
def zQ:As ["loop","deed"] ["loop","deed"] (Ae Ug):=by walk_at "z1"
def gB : ∀ss R,WL ss R->ss.length=2:=by rintro _ _ ⟨r,g,cs,d,rfl,_,_,_,rfl⟩;rfl
def ZAT (F:AE K "coming_behind" "coming_behind" Ug f fd)(m:mg "coming_behind"=some (.ref f)):
  AG P w K mg base "coming_behind" 2 ["loop","deed"] (BE WL):=by
 refine AG.mk F (F.binds (by walk_at "bD2")) m (F.BS (k:=1) zQ (fun vs H Q E h=>Fz.DW gB h) (fun AY A outer s H vs Q E a h=>?_))
 refine⟨_,(A9 rfl (Ai (AW BP (AD AL (qv 1) A5) AZ) (AA rfl (Aa (Af MX a (A0 (AD AL (qv 0) A5) (A0 (AD AL (qv 1) A5) A4))))) Ak)
   (A9 rfl (Ai (FO (AW BP (AD AL (qv 1) A5) AZ) (GN (IX (Af Vw a (A0 (qv 0) (A0 (AD AL (qv 1) A5) A4)))))).pt (AA rfl (Aa (D4 Kg DG (A0 (BF Ry FH (A0 (B6 dr (AD AL (qv 0) A5) (Bx (A0 (AD AL (qv 1) A5) A4))) A4)) A4)))) Ak)
   (AA rfl (Aa (AD AL (qv 0) A5))))),?_⟩
 refine Fz.DY h gB ?_;rintro _ _ ⟨r,g,cs,d,rfl,j,up,hx,rfl⟩;show Ws [_,_] _ _ _;unfold ND;cases d with
 | take x=>
  unfold dP
  walk_at "ww"
  refine Bk (by decide +kernel) ?_;refine Cq (wp_call (B4 ?_))
  walk_at "ww"
  refine B4 ?_
  walk_at "ww"
  exact Bh ⟨_,⟨cs,x,rfl,by omega,rfl⟩,fun _ h=>h⟩
 | put x i=>
  unfold dP
  walk_at "ww"
  refine Ah (by decide +kernel) ?_;refine AS ?_
  walk_at "ww"
  refine Bk (by decide +kernel) ?_;refine Fc (wp_call (B4 (AH rfl (B4 ?_))))
  walk_at "ww"
  refine Bh ⟨_,⟨r,g,i,_,rfl,rfl⟩,?_⟩;rintro _ rfl;refine⟨_,rfl,Ad (fun c=>?_) (fun c=>?_)⟩
  ·refine Cq (Sh rfl (BX (FV (ZCJ ?_))))
   walk_at "ww"
   refine⟨cs,rfl,?_⟩
   walk_at "ww"
   refine⟨by simp,[x],rfl,by simp,by simp;omega,fun ts b st=>?_⟩;refine⟨_,.inl ⟨rfl,?_⟩⟩;rw[UA b st up (hx x i rfl),W6 c]
  ·refine AS ?_
   walk_at "ww"
   rw[UR (by cases e:Ef r g i <;> simp_all)]
 | move x i=>
  unfold dP
  walk_at "ww"
  refine Ah (by decide +kernel) ?_;refine AS ?_
  walk_at "ww"
  refine Ah (by decide +kernel) (D5 (AS ?_))
  walk_at "ww"
  rfl
 | turn lo hi=>
  unfold dP
  walk_at "ww"
  refine Ah (by decide +kernel) ?_;refine AS ?_
  walk_at "ww"
  refine Ah (by decide +kernel) (D5 (AS ?_))
  walk_at "ww"
  rfl
def uV:As ["row","loop","deed"] ["row","loop","deed"] (Ae Xl):=by walk_at "z1"
def d8 : ∀ss R,U4 ss R->ss.length=3:=by rintro _ _ ⟨tp,ns,r,g,cs,d,rfl,_,_,_,_,rfl⟩;rfl
def ZEo (F:AE K "loop_led" "loop_led" Xl f fd)(m:mg "loop_led"=some (.ref f)):
  AG P w K mg base "loop_led" 5 ["row","loop","deed"] (BE U4):=by
 refine AG.mk F (F.binds (by walk_at "bD3")) m (F.BS (k:=4) uV (fun vs H Q E h=>Fz.DW d8 h) (fun AY A outer s H vs Q E b h=>?_))
 refine⟨_,(AA rfl (Aa (Bx (A0 (AD AL (qv 1) A5) (A0 (Af X3 b (A0 (qv 0) (A0 (AD AL (qv 1) A5) (A0 (qv 2) A4)))) (A0 (Af Ur b (A0 (qv 1) (A0 (qv 2) A4))) A4)))))),?_⟩;refine Fz.DY h d8 ?_;rintro _ _ ⟨tp,ns,r,g,cs,d,rfl,hd,a,e,c,rfl⟩;show Ws [_,_,_] _ _ _;unfold ND;have i:=a.len
 walk_at "ww"
 refine wp_call (DS (FC rfl (B4 ?_)))
 walk_at "ww"
 refine B4 (AH rfl (Bh ⟨_,⟨tp,ns,g,d,rfl,hd,c,rfl⟩,?_⟩));rintro _ rfl
 walk_at "ww"
 refine wp_call (B4 (AH rfl (B4 (AH rfl (Bh ⟨_,⟨r,g,cs,d,rfl,by omega,a.up,UW a hd,rfl⟩,?_⟩)))));rintro _ rfl
 walk_at "ww"
 exact⟨by simp,rfl⟩
def Y7:As ["self","loop","deed","many","tally"] ["self","loop","deed"] (Ae Vo):=by walk_at "z1"
def kY:∀ss R,(ZX A7 AI) ss R->ss.length=3:=by rintro _ _ ⟨s,a,t,d,i,x,rfl,_,_,_,_,_,_,rfl⟩;rfl
def ZE6 (F:AE K "lead" "Course.lead" Vo f fd)(G:Meth K A7 "lead" f):
  ER P w K mg base A7 "lead" 8 ["self","loop","deed"] (Br (ZX A7 AI)):=by
 refine⟨f,fd,F.BS (k:=7) Y7 (fun vs H Q E h=>Fz.Gh kY h) (fun AY A outer s H vs Q E m h=>?_),(F.binds (by walk_at "bD3")),G,BR⟩
 refine⟨_,(A9 rfl (Az 3 Y7.nd (BF CJ Aj (A0 (Hc Hn m (by decide) (qv 0) (A0 (qv 1) A4)) A4)))
   (A9 rfl (JQ (BO m) (Dp (qv 0)) (qv 1) (Af V1 m (A0 (Dp (qv 0)) (A0 (C8 (BO m) (Dp (qv 0)) (qv 1) (fun _ _=>rfl)) (A0 (qv 2) A4)))))
   (A9 rfl (Az 4 Y7.nd (C8 (BO m) (Dp (qv 0)) (qv 1) (fun _ _=>rfl)))
   (A9 rfl (CF (Ai (AW KD (BF CJ Aj (A0 (Hc Hn m (by decide) (qv 0) (A0 (qv 1) A4)) A4)) (qv 3)) (AA rfl (aV (qv 4) A5 Uo)) Ak))
   (AA rfl (Ai (AW Ff (BF CJ Aj (A0 (Hc Hn m (by decide) (qv 0) (A0 (qv 1) A4)) A4)) (qv 3)) (AA rfl (aV (qv 4) A5 Uo)) Ak)))))),?_⟩
 refine Fz.RU h kY ?_;rintro _ _ ⟨s,a,t,d,i,x,rfl,J,ok,hx,hd,I,hn,rfl⟩;obtain⟨dx,aL,aS,us,BK,rfl⟩:=J;show Ws [_,_,_,.any,.any] _ _ _;have l1:=ok.l1;have hi:i<s.ln.length:=(List.getElem?_eq_some_iff.mp hx).1;obtain⟨l,n⟩:∃l,s.ll[i]?=some l:=⟨_,BC (by omega)⟩;have y:x∈s.ln:=Dh hx;have xs:x∈s.sn:=ok.sub x y;have D:s.ln.idxOf x=i:=MK ok.n1 hx;have L:=ok.good l (Dh n);have ll:(CQ s d i).length=s.ll.length:=JC s d i;have c1:E5 (EN s d i) x=l.cs:=fU (s:=EN s d i) ok.n1 hx (U6 n);refine Al (Iq (D6 (JS rfl rfl (by rw[show(EN s d i).ll.length=s.ll.length from ll];exact l1) ?_)));rw[AQ,c1];refine Al (JW (i:=0) (t:=Bg (EN s d i) A7 a dx aL aS us) (De (wp_call (DS (BX (D3 (Pw rfl BR E6 ⟨_,rfl,_,.inl ⟨rfl,?_⟩⟩)))))));refine B4 (D3 (G8 (Jo rfl BR Co ⟨An s.ln,aL,_,rfl,AH rfl ⟨.inr x,i,.fz l.P,rfl,by rw[G1 y,D],MC (U6 n),_,rfl,?_⟩⟩)));refine B4 (AH rfl (Bh ⟨_,⟨false,s.row,l.r,l.g,l.cs,d,rfl,hd,L,ok.row.len,I,rfl⟩,?_⟩));rintro _ rfl;refine(Jo rfl BR Co ⟨true,aL,An s.ln,_,rfl,rfl,by unfold CG;rw[AQ];show(CQ s d i).length<=99999;have:=JM ok.n1 ok.sub;omega,Ip ok.n1,BJ,AH rfl ⟨.inr x,rfl,?_⟩⟩);rw[SU y,Qr y];unfold Bg;rw[show([]++[1]:List Nat)=[1] from rfl,K3,D];have M:(CG (EN s d i).ll).set i (.fz (Ed l.r (d.gap s.row l.g) (d.Gd l.r l.g l.cs)))=CG (CQ s d (i+1)):=by
  rw[<- X0 n];exact QX _ _ (l.led s.row d)
 rw[M];obtain⟨q,C⟩:=ZB4 (d:=d) (i:=i) ok xs;obtain⟨u,o,e,b,rfl⟩:=BK.get C;have N:=List.idxOf_lt_length_iff.mpr xs;have c2:∀Q,E5 ⟨s.row,s.ln,CQ s d (i+1),s.sn,Q⟩ x=(l.led s.row d).cs:=fun Q=>fU (s:=⟨s.row,s.ln,CQ s d (i+1),s.sn,Q⟩) ok.n1 hx (by rw[<- X0 n,Cm (by rw[JC];omega)]);show Ws [.ow true (Bg ⟨s.row,s.ln,CQ s d (i+1),s.sn,Cd s d i⟩ A7 a dx aL aS us),.is (.str x),.is (dP d),.is (.int l.cs.length),.any] _ _ _;refine Al (V5 (i:=0) (G8 (TK rfl BR GS ⟨An s.sn,aS,us,rfl,AH rfl ⟨.inr x,s.sn.idxOf x,_,rfl,G1 xs,o,_,b,_,rfl,?_⟩⟩)));have c:∀us',R2 (PM AI) us' (Cd s d (i+1))->R4 (.mt fun p t'=>p=.A8/\D9 (EN s d (i+1)) A7 AI a t') [.ow true (Bg ⟨s.row,s.ln,CQ s d (i+1),s.sn,Cd s d (i+1)⟩ A7 a dx aL aS us'),.is (.str x),.is (dP d),.is (.int l.cs.length),.raw (ptr b)]:=fun us' h=>⟨_,_,_,_,rfl,rfl,rfl,dx,aL,aS,us',h,rfl⟩;rw[fv hx n] at c;show Ws [.ow true (Bg ⟨s.row,s.ln,CQ s d (i+1),s.sn,Cd s d i⟩ A7 a dx aL aS us),.is (.str x),.is (dP d),.is (.int l.cs.length),.raw (ptr b)] _ _ _;rcases bC l.cs.length (l.led s.row d).cs.length with h | h | h
 ·refine Al (Ei (CC (Ct (G0 (D6 (JS rfl rfl (by rw[show(CQ s d (i+1)).length=s.ll.length from JC s d (i+1)];exact l1) ?_))))));rw[AQ,c2];refine⟨_,rfl,AH rfl ⟨_,rfl,_,rfl,Bk (nv (by omega)) ?_⟩⟩;refine Xk (IJ (j:=4) (i:=0) (p:=[2,s.sn.idxOf x]) rfl rfl (X5 o) ⟨true,AI,e,_,b,_,1,_,rfl,rfl,GU,Mo,by decide,by decide +kernel,rfl,Bw ⟨_,rfl,?_⟩⟩);unfold Bg;rw[RQ o];have v:R2 (PM AI) (us.set (s.sn.idxOf x) (.nd (.obj AI e ["stood","joined","told","taken"]) b ((GO q.join).map .fz))) ((Cd s d i).modify (s.sn.idxOf x) (Sm.by l.cs.length (l.led s.row d).cs.length)):=BK.set fun B h'=>by
   have h':(Cd s d i)[s.sn.idxOf x]?=some B:=h';rw[C] at h';cases h';unfold Sm.by
   rw[pQ h];exact⟨e,b,rfl⟩
  show Ws [.ow true (Bg ⟨s.row,s.ln,CQ s d (i+1),s.sn,(Cd s d i).modify (s.sn.idxOf x) (Sm.by l.cs.length (l.led s.row d).cs.length)⟩ A7 a dx aL aS (us.set (s.sn.idxOf x) (.nd (.obj AI e ["stood","joined","told","taken"]) b ((GO q.join).map .fz)))),.is (.str x),.is (dP d),.is (.int l.cs.length),.raw (ptr b)] _ _ _;refine CC (Ct (G0 (D6 (JS rfl rfl (by rw[show(CQ s d (i+1)).length=s.ll.length from JC s d (i+1)];exact l1) ?_))));rw[AQ,c2];exact⟨_,rfl,AH rfl ⟨_,rfl,_,rfl,Ah (fun z=>by have:=om z;omega) (AS (c _ v))⟩⟩
 ·have v:R2 (PM AI) us ((Cd s d i).modify (s.sn.idxOf x) (Sm.by l.cs.length (l.led s.row d).cs.length)):=by
   unfold Sm.by
   rw[o5 (by omega),o5 (by omega),lP];exact BK
  refine Al (Ei (CC (Ct (G0 (D6 (JS rfl rfl (by rw[show(CQ s d (i+1)).length=s.ll.length from JC s d (i+1)];exact l1) ?_))))));rw[AQ,c2];refine⟨_,rfl,AH rfl ⟨_,rfl,_,rfl,Ah (fun z=>by have:=om z;omega) (AS ?_)⟩⟩;refine CC (Ct (G0 (D6 (JS rfl rfl (by rw[show(CQ s d (i+1)).length=s.ll.length from JC s d (i+1)];exact l1) ?_))));rw[AQ,c2];exact⟨_,rfl,AH rfl ⟨_,rfl,_,rfl,Ah (fun z=>by have:=om z;omega) (AS (c _ v))⟩⟩
 ·refine Al (Ei (CC (Ct (G0 (D6 (JS rfl rfl (by rw[show(CQ s d (i+1)).length=s.ll.length from JC s d (i+1)];exact l1) ?_))))));rw[AQ,c2];refine⟨_,rfl,AH rfl ⟨_,rfl,_,rfl,Ah (fun z=>by have:=om z;omega) (AS ?_)⟩⟩;refine CC (Ct (G0 (D6 (JS rfl rfl (by rw[show(CQ s d (i+1)).length=s.ll.length from JC s d (i+1)];exact l1) ?_))));rw[AQ,c2];refine⟨_,rfl,AH rfl ⟨_,rfl,_,rfl,Bk (nv (by omega)) ?_⟩⟩;refine Xk (IJ (j:=4) (i:=0) (p:=[2,s.sn.idxOf x]) rfl rfl (X5 o) ⟨true,AI,e,_,b,_,3,_,rfl,rfl,GU,Mi,by decide,by decide +kernel,rfl,Bw ⟨_,rfl,?_⟩⟩);unfold Bg;rw[RQ o];have v:R2 (PM AI) (us.set (s.sn.idxOf x) (.nd (.obj AI e ["stood","joined","told","taken"]) b ((GO q.take).map .fz))) ((Cd s d i).modify (s.sn.idxOf x) (Sm.by l.cs.length (l.led s.row d).cs.length)):=BK.set fun B h'=>by
   have h':(Cd s d i)[s.sn.idxOf x]?=some B:=h';rw[C] at h';cases h';unfold Sm.by
   rw[o5 (by omega),pQ h];exact⟨e,b,rfl⟩
  exact c _ v
def ZDb:As ["row","name","at"] ["row","name","at"] (Ae Y9):=by walk_at "z1"
def eL:∀ss R D,(aK ⟨BA,BB,Au,Ay,BL⟩) ss R D->ss.length=3:=by rintro _ _ _ ⟨tp,ns,x,i,rfl,_,rfl,rfl⟩;rfl
def pR (F:AE K "check_put" "check_put" Y9 f fd)(m:mg "check_put"=some (.ref f)):
  Bz P w K mg base "check_put" 3 ["row","name","at"] (Cf (aK ⟨BA,BB,Au,Ay,BL⟩)):=by
 refine Bz.mk F (F.binds (by walk_at "bD3")) m (F.JX (k:=2) ZDb (fun vs H Q E h=>Fz.JU eL h) (fun AY A outer s H vs Q E b h=>?_))
 refine⟨_,(A9 rfl (Ai (Gr (IX (Af MG b (A0 (qv 1) A4)))) (AA rfl (JF YI (by rfl) Vx b (by decide) rfl rfl ES (A0 (qv 1) A4))) Ak)
   (A9 rfl (Ai (AW Mu (qv 1) (qv 0)) (AA rfl (JF Uu (by rfl) Y6 b (by decide) rfl rfl ES (A0 (qv 1) A4))) Ak)
   (A9 rfl (Ai (Gr (RP E7 E7 A5 (qv 2) (BF CJ Aj (A0 (qv 0) A4)))) (AA rfl (JF Ij (by rfl) Il b (by decide) rfl rfl ES (A0 (qv 2) A4))) Ak)
   (AA rfl (Ai (AW MH (BF CJ Aj (A0 (qv 0) A4)) (OO (v:=.int 40) (by rfl) Um ⟨_,rfl⟩)) (AA rfl (ZDM (by rfl) Y2 Vk rfl rfl ES (A0 AZ A4))) Ak))))),?_⟩
 refine Fz.J9 h eL ?_;rintro _ _ _ ⟨tp,ns,x,i,rfl,⟨d,hi⟩,rfl,rfl⟩;intro i0;show Ws [_,_,_] _ _ _;refine Al (CC (Ib (Fc (Ss (AH rfl ⟨x,rfl,d.2,_,rfl,?_⟩)))));refine Ad (fun c=>?_) (fun c=>?_)
 ·refine G3 (AH rfl ⟨d.1,trivial,?_⟩);show Ac.Aw _ _ _=_;simp only[Ac.Aw];rw[pQ (by cases e:isNm x <;> simp_all)];rfl
 have h1:¬ isNm x=false:=by cases e:isNm x <;> simp_all
 refine AS ?_
 walk_at "ww"
 refine Ad (fun c=>?_) (fun c=>?_)
 ·refine G3 (AH rfl ⟨d.1,trivial,?_⟩);show Ac.Aw _ _ _=_;simp only[Ac.Aw];rw[o5 h1,pQ (om c)];rfl
 have h2:x∉ns:=fun z=>c (nv z);refine AS ?_;have a:¬ inR i 0 ns.length->Ac.Aw ⟨BA,BB,Au,Ay,BL⟩ ns (.put x i)=some ⟨Ay,["at"],[.int i]⟩:=fun z=>by
  simp only[Ac.Aw];rw[o5 h1,o5 h2,pQ z];rfl
 refine Al (CC (Ib (Ct (P2 ?_))))
 walk_at "ww"
 refine Ad (fun c=>?_) (fun c=>?_)
 ·walk_at "ww"
  rw[AQ];refine Ad (fun c2=>?_) (fun c2=>?_)
  ·refine G3 (AH rfl ⟨hi,trivial,a fun z=>?_⟩);rw[nv z.2] at c2;cases c2
  ·have j:inR i 0 ns.length:=⟨om c,by
    cases e:decide (i<=(ns.length:Int)) with
    | true=>exact om e
    | false=>exact absurd (by rw[e];rfl) c2⟩
   refine AS ?_
   walk_at "ww"
   rw[AQ];refine Ad (fun g=>?_) (fun g=>?_)
   ·refine ZEJ ?_
    walk_at "ww"
    refine⟨by simp,trivial,?_⟩;show Ac.Aw _ _ _=_;simp only[Ac.Aw];have q:=om g;rw[o5 h1,o5 h2,o5 (Decidable.not_not.mpr j),pQ (by omega)];rfl
   ·refine AS ⟨_,rfl,?_⟩;show Ac.Aw _ _ _=_;simp only[Ac.Aw];have q:¬ (40:Int)<=ns.length:=fun z=>g (nv z);rw[o5 h1,o5 h2,o5 (Decidable.not_not.mpr j),o5 (by omega)]
 ·refine⟨false,rfl,Bk rfl ?_⟩;refine G3 (AH rfl ⟨hi,trivial,a fun z=>c (nv z.1)⟩)
def ZAF:As ["row","name","at"] ["row","name","at"] (Ae VC):=by walk_at "z1"
def cV:∀ss R D,(YJ ⟨BA,BB,Au,Ay,BL⟩) ss R D->ss.length=3:=by rintro _ _ _ ⟨tp,ns,x,i,rfl,_,rfl,rfl⟩;rfl
def ZAv (F:AE K "check_move" "check_move" VC f fd)(m:mg "check_move"=some (.ref f)):
  Bz P w K mg base "check_move" 4 ["row","name","at"] (Cf (YJ ⟨BA,BB,Au,Ay,BL⟩)):=by
 refine Bz.mk F (F.binds (by walk_at "bD3")) m (F.JX (k:=3) ZAF (fun vs H Q E h=>Fz.JU cV h) (fun AY A outer s H vs Q E b h=>?_))
 refine⟨_,(A9 rfl (DV (GI GL b (by decide) ES rfl (A0 (qv 0) (A0 (qv 1) A4))))
   (AA rfl (Ai (Gr (RP E7 Ff A5 (qv 2) (BF CJ Aj (A0 (qv 0) A4)))) (AA rfl (JF Ij (by rfl) Il b (by decide) rfl rfl ES (A0 (qv 2) A4))) Ak))),?_⟩
 refine Fz.J9 h cV ?_;rintro _ _ _ ⟨tp,ns,x,i,rfl,⟨d,hi⟩,rfl,rfl⟩;intro i0;show Ws [_,_,_] _ _ _;refine Al (KJ ?_);refine Hf ?_;refine DS (FC rfl (B4 (AH rfl (Bh ⟨_,_,⟨tp,ns,x,rfl,d,rfl,rfl⟩,trivial,?_,?_⟩))))
 ·rintro e ⟨hx,rfl⟩;show Ac.Aw _ _ _=_;simp only[Ac.Aw];rw[pQ hx]
 rintro _ ⟨hx,_⟩;have a:¬ inR i 0 (ns.length - 1)->Ac.Aw ⟨BA,BB,Au,Ay,BL⟩ ns (.move x i)=some ⟨Ay,["at"],[.int i]⟩:=fun z=>by
  simp only[Ac.Aw];rw[o5 (Decidable.not_not.mpr hx),pQ z];rfl
 refine CC (Ib (Ct (P2 ?_)))
 walk_at "ww"
 refine Ad (fun c=>?_) (fun c=>?_)
 ·walk_at "ww"
  rw[AQ];refine Ad (fun c2=>?_) (fun c2=>?_)
  ·refine G3 (AH rfl ⟨hi,trivial,a fun z=>?_⟩);have:=z.2;rw[nv (by omega)] at c2;cases c2
  ·have g:i<(ns.length:Int):=by
    cases e:decide (i<(ns.length:Int)) with
    | true=>exact om e
    | false=>exact absurd (by rw[e];rfl) c2
   refine AS ⟨_,rfl,?_⟩;show Ac.Aw _ _ _=_;simp only[Ac.Aw];rw[o5 (Decidable.not_not.mpr hx),o5 (Decidable.not_not.mpr ⟨om c,by omega⟩)]
 ·refine⟨false,rfl,Bk rfl ?_⟩;refine G3 (AH rfl ⟨hi,trivial,a fun z=>c (nv z.1)⟩)
def ZCn:As ["row","low","high"] ["row","low","high"] (Ae UB):=by walk_at "z1"
def jg:∀ss R D,(UE ⟨BA,BB,Au,Ay,BL⟩) ss R D->ss.length=3:=by rintro _ _ _ ⟨tp,ns,lo,hi,rfl,_,rfl,rfl⟩;rfl
def ZFN (F:AE K "check_turn" "check_turn" UB f fd)(m:mg "check_turn"=some (.ref f)):
  Bz P w K mg base "check_turn" 3 ["row","low","high"] (Cf (UE ⟨BA,BB,Au,Ay,BL⟩)):=by
 refine Bz.mk F (F.binds (by walk_at "bD3")) m (F.JX (k:=2) ZCn (fun vs H Q E h=>Fz.JU jg h) (fun AY A outer s H vs Q E i h=>?_))
 refine⟨_,(A9 rfl (Ai (Gr (RP E7 E7 A5 (qv 1) (BF CJ Aj (A0 (qv 0) A4)))) (AA rfl (JF Ij (by rfl) Il i (by decide) rfl rfl ES (A0 (qv 1) A4))) Ak)
   (AA rfl (Ai (Gr (RP E7 E7 (qv 1) (qv 2) (BF CJ Aj (A0 (qv 0) A4)))) (AA rfl (JF Ij (by rfl) Il i (by decide) rfl rfl ES (A0 (qv 2) A4))) Ak))),?_⟩
 refine Fz.J9 h jg ?_;rintro _ _ _ ⟨tp,ns,lo,hi,rfl,⟨j,hh⟩,rfl,rfl⟩;intro i0;show Ws [_,_,_] _ _ _;have a:¬ inR lo 0 ns.length->Ac.Aw ⟨BA,BB,Au,Ay,BL⟩ ns (.turn lo hi)=some ⟨Ay,["at"],[.int lo]⟩:=fun z=>by
  simp only[Ac.Aw];rw[pQ z];rfl
 have l:inR lo 0 ns.length->¬ inR hi lo ns.length->Ac.Aw ⟨BA,BB,Au,Ay,BL⟩ ns (.turn lo hi)=some ⟨Ay,["at"],[.int hi]⟩:=fun y z=>by
  simp only[Ac.Aw];rw[o5 (Decidable.not_not.mpr y),pQ z];rfl
 refine Al (CC (Ib (Ct (P2 ?_))))
 walk_at "ww"
 refine Ad (fun c=>?_) (fun c=>?_)
 ·walk_at "ww"
  rw[AQ];refine Ad (fun c2=>?_) (fun c2=>?_)
  ·refine G3 (AH rfl ⟨j,trivial,a fun z=>?_⟩);rw[nv z.2] at c2;cases c2
  ·have d:inR lo 0 ns.length:=⟨om c,by
    cases e:decide (lo<=(ns.length:Int)) with
    | true=>exact om e
    | false=>exact absurd (by rw[e];rfl) c2⟩
   refine AS ?_;refine CC (Ib (Ct (P2 ?_)))
   walk_at "ww"
   refine Ad (fun g=>?_) (fun g=>?_)
   ·walk_at "ww"
    rw[AQ];refine Ad (fun b=>?_) (fun b=>?_)
    ·refine G3 (AH rfl ⟨hh,trivial,l d fun z=>?_⟩);rw[nv z.2] at b;cases b
    ·have n:inR hi lo ns.length:=⟨om g,by
      cases e:decide (hi<=(ns.length:Int)) with
      | true=>exact om e
      | false=>exact absurd (by rw[e];rfl) b⟩
     refine AS ⟨_,rfl,?_⟩;show Ac.Aw _ _ _=_;simp only[Ac.Aw];rw[o5 (Decidable.not_not.mpr d),o5 (Decidable.not_not.mpr n)]
   ·refine⟨false,rfl,Bk rfl ?_⟩;refine G3 (AH rfl ⟨hh,trivial,l d fun z=>g (nv z.1)⟩)
 ·refine⟨false,rfl,Bk rfl ?_⟩;refine G3 (AH rfl ⟨j,trivial,a fun z=>c (nv z.1)⟩)
def y6:As ["row","deed"] ["row","deed"] (Ae ZT):=by walk_at "z1"
def kO:∀ss R D,(VS ⟨BA,BB,Au,Ay,BL⟩) ss R D->ss.length=2:=by rintro _ _ _ ⟨tp,ns,d,rfl,_,rfl,rfl⟩;rfl
def xR (F:AE K "check_deed" "check_deed" ZT f fd)(m:mg "check_deed"=some (.ref f)):
  Bz P w K mg base "check_deed" 5 ["row","deed"] (Cf (VS ⟨BA,BB,Au,Ay,BL⟩)):=by
 refine Bz.mk F (F.binds (by walk_at "bD2")) m (F.JX (k:=4) y6 (fun vs H Q E h=>Fz.JU kO h) (fun AY A outer s H vs Q E c h=>?_))
 refine⟨_,(AA rfl (Ai (AW BP (AD AL (qv 1) A5) AZ) (AA rfl (DV (GI V6 c (by decide) ES rfl (A0 (qv 0) (A0 (AD AL (qv 1) A5) (A0 (AD AL (qv 1) A5) A4)))))) (AA rfl (Ai (AW BP (AD AL (qv 1) A5) AZ) (AA rfl (DV (GI GL c (by decide) ES rfl (A0 (qv 0) (A0 (AD AL (qv 1) A5) A4))))) (AA rfl (Ai (AW BP (AD AL (qv 1) A5) AZ) (AA rfl (DV (GI U5 c (by decide) ES rfl (A0 (qv 0) (A0 (AD AL (qv 1) A5) (A0 (AD AL (qv 1) A5) A4)))))) (AA rfl (DV (GI Zb c (by decide) ES rfl (A0 (qv 0) (A0 (AD AL (qv 1) A5) (A0 (AD AL (qv 1) A5) A4)))))))))))),?_⟩;refine Fz.J9 h kO ?_;rintro _ _ _ ⟨tp,ns,d,rfl,b,rfl,rfl⟩;intro i0;show Ws [_,_] _ _ _;cases d with
 | put x i=>
  unfold aP
  walk_at "ww"
  refine Bk (by decide +kernel) ?_;refine KJ ?_;refine Hf ?_;refine DS (FC rfl (B4 ?_))
  walk_at "ww"
  refine B4 ?_
  walk_at "ww"
  exact Bh ⟨_,_,⟨tp,ns,_,_,rfl,b,rfl,rfl⟩,trivial,fun e h=>h,fun p a=>⟨_,rfl,a⟩⟩
 | take x=>
  unfold aP
  walk_at "ww"
  refine Ah (by decide +kernel) ?_
  walk_at "ww"
  refine Bk (by decide +kernel) ?_;refine KJ ?_;refine Hf ?_;refine DS (FC rfl (B4 ?_))
  walk_at "ww"
  refine Bh ⟨_,_,⟨tp,ns,x,rfl,b,rfl,rfl⟩,trivial,?_,?_⟩
  ·rintro e ⟨hx,rfl⟩;show Ac.Aw _ _ _=_;simp only[Ac.Aw];rw[pQ hx]
  ·rintro p ⟨hx,_⟩;refine⟨_,rfl,?_⟩;show Ac.Aw _ _ _=_;simp only[Ac.Aw];rw[o5 (Decidable.not_not.mpr hx)]
 | move x i=>
  unfold aP
  walk_at "ww"
  refine Ah (by decide +kernel) ?_
  walk_at "ww"
  refine Ah (by decide +kernel) ?_
  walk_at "ww"
  refine Bk (by decide +kernel) ?_;refine KJ ?_;refine Hf ?_;refine DS (FC rfl (B4 ?_))
  walk_at "ww"
  refine B4 ?_
  walk_at "ww"
  exact Bh ⟨_,_,⟨tp,ns,_,_,rfl,b,rfl,rfl⟩,trivial,fun e h=>h,fun p a=>⟨_,rfl,a⟩⟩
 | turn lo hi=>
  unfold aP
  walk_at "ww"
  refine Ah (by decide +kernel) ?_
  walk_at "ww"
  refine Ah (by decide +kernel) ?_
  walk_at "ww"
  refine Ah (by decide +kernel) ?_;refine KJ ?_;refine Hf ?_;refine DS (FC rfl (B4 ?_))
  walk_at "ww"
  refine B4 ?_
  walk_at "ww"
  exact Bh ⟨_,_,⟨tp,ns,_,_,rfl,b,rfl,rfl⟩,trivial,fun e h=>h,fun p a=>⟨_,rfl,a⟩⟩
def ZC6:As ["row","low","high"] ["row","low","high"] (Ae Uh):=by walk_at "z1"
def gG : ∀ss R,ZD ss R->ss.length=3:=by rintro _ _ ⟨tp,ns,lo,hi,rfl,_,_,_,rfl⟩;rfl
def ZEi (F:AE K "row_turned" "row_turned" Uh f fd)(m:mg "row_turned"=some (.ref f)):
  AG P w K mg base "row_turned" 1 ["row","low","high"] (BE ZD):=by
 refine AG.mk F (F.binds (by walk_at "bD3")) m (F.BS (k:=0) ZC6 (fun vs H Q E h=>Fz.DW gG h) (fun AY A outer s H vs Q E b h=>?_))
 refine⟨_,(AA rfl (Aa (B6 Lm (B6 Lm (D4 KG C3 (A0 (FA Fz.Lb (qv 0) GK (EX (qv 1))) A4)) (jU rfl rfl C3 rfl Mx (A0 (FA Fz.Lb (qv 0) (EX (qv 1)) (EX (qv 2))) A4))) (D4 KG C3 (A0 (FA Fz.Lb (qv 0) (EX (qv 2)) GK) A4))))),?_⟩;refine Fz.DY h gG ?_;rintro _ _ ⟨tp,ns,lo,hi,rfl,a,h1,h2,rfl⟩;show Ws [_,_,_] _ _ _
 walk_at "ww"
 rw[dY,ZDs _ h1 (by simpa using h2)]
 refine⟨by simp;omega,?_⟩
 walk_at "ww"
 rw[gi];refine⟨by simp;omega,?_⟩;unfold Fm;simp only[EF,Nq,Np,ZGH]
def pD:As ["row","name","at"] ["row","name","at"] (Ae YX):=by walk_at "z1"
def dW : ∀ss R,Vj ss R->ss.length=3:=by rintro _ _ ⟨tp,ns,x,i,rfl,_,rfl⟩;rfl
def ZF2 (F:AE K "row_with" "row_with" YX f fd)(m:mg "row_with"=some (.ref f)):
  AG P w K mg base "row_with" 1 ["row","name","at"] (BE Vj):=by
 refine AG.mk F (F.binds (by walk_at "bD3")) m (F.BS (k:=0) pD (fun vs H Q E h=>Fz.DW dW h) (fun AY A outer s H vs Q E b h=>?_))
 refine⟨_,(AA rfl (Aa (B6 Lm (B6 Lm (D4 KG C3 (A0 (FA Fz.Lb (qv 0) GK (EX (qv 2))) A4)) (Im (A0 (qv 1) A4))) (D4 KG C3 (A0 (FA Fz.Lb (qv 0) (EX (qv 2)) GK) A4))))),?_⟩;refine Fz.DY h dW ?_;rintro _ _ ⟨tp,ns,x,i,rfl,a,rfl⟩;show Ws [_,_,_] _ _ _
 walk_at "ww"
 rw[dY];refine⟨by simp,?_⟩
 walk_at "ww"
 refine⟨by simp;omega,?_⟩
 walk_at "ww"
 rw[gi];refine⟨by simp;omega,?_⟩;unfold ins;simp only[EF,Nq,Bp,Np,C0,List.singleton_append]
def ZAR:As ["row","name"] ["row","name"] (Ae SS):=by walk_at "z1"
noncomputable def oJ:Scope:={ kind:=.function,names:=[(".0", .local),("thing", .local),("name", .free)],isGenerator:=false,isCoroutine:=false,more:=[] }
def ZBD:Ep ["row","name"] (Ae SS) oJ "thing" ["name"] [1]:=by walk_at "z2"
def bR : ∀ss R,UK ss R->ss.length=2:=by rintro _ _ ⟨tp,ns,x,rfl,_,rfl⟩;rfl
def ZCZ (F:AE K "row_without" "row_without" SS f fd)(m:mg "row_without"=some (.ref f)):
  AG P w K mg base "row_without" 1 ["row","name"] (BE UK):=by
 refine AG.mk F (F.binds (by walk_at "bD2")) m (F.BS (k:=0) ZAR (fun vs H Q E h=>Fz.DW bR h) (fun AY A outer s H vs Q E c h=>?_))
 refine⟨_,(AA rfl (Aa (KZ rfl ZBD (J3 (qv 0)) (fun _ _ _ _=>by exact(L5 (AW Lk (qv 1) (qv 0)))) (fun _ _ _ _=>by exact(qv 1))))),?_⟩;refine Fz.DY h bR ?_;rintro _ _ ⟨tp,ns,x,rfl,b,rfl⟩;show Ws [_,_] _ _ _;refine NJ (WG PV.str (fun y=>!alike (.str y) (.str x)) PV.str ?_ str_inj)
 walk_at "ww"
 refine⟨by omega,fun y a=>by walk_at "ww"; rfl,fun y a _=>by walk_at "ww"; rfl,?_⟩
 rw[lZ]
def ZAD:As ["row","deed"] ["row","deed"] (Ae WU):=by walk_at "z1"
def gk:∀ss R D,(VR ⟨BA,BB,Au,Ay,BL⟩) ss R D->ss.length=2:=by rintro _ _ _ ⟨tp,ns,d,rfl,_,_,rfl,rfl⟩;rfl
def ZC0 (F:AE K "done" "done" WU f fd)(m:mg "done"=some (.ref f)):
  Bz P w K mg base "done" 6 ["row","deed"] (Cf (VR ⟨BA,BB,Au,Ay,BL⟩)):=by
 refine Bz.mk F (F.binds (by walk_at "bD2")) m (F.JX (k:=5) ZAD (fun vs H Q E h=>Fz.JU gk h) (fun AY A outer s H vs Q E a h=>?_))
 refine⟨_,(A9 rfl (DV (GI UH a (by decide) ES rfl (A0 (qv 0) (A0 (qv 1) A4))))
   (A9 rfl (Ai (AW BP (AD AL (qv 1) A5) AZ) (AA rfl (Aa (Af Qu a (A0 (qv 0) (A0 (AD AL (qv 1) A5) (A0 (AD AL (qv 1) A5) A4)))))) Ak)
   (A9 rfl (Ai (AW BP (AD AL (qv 1) A5) AZ) (AA rfl (Aa (Af QR a (A0 (qv 0) (A0 (AD AL (qv 1) A5) A4))))) Ak)
   (A9 rfl (Ai (AW BP (AD AL (qv 1) A5) AZ) (AA rfl (Aa (Af Qu a (A0 (Af QR a (A0 (qv 0) (A0 (AD AL (qv 1) A5) A4))) (A0 (AD AL (qv 1) A5) (A0 (AD AL (qv 1) A5) A4)))))) Ak)
   (AA rfl (Aa (Af VX a (A0 (qv 0) (A0 (AD AL (qv 1) A5) (A0 (AD AL (qv 1) A5) A4)))))))))),?_⟩
 refine Fz.J9 h gk ?_;rintro _ _ _ ⟨tp,ns,d,rfl,b,c,rfl,rfl⟩;intro i0;show Ws [_,_] _ _ _;refine Al (KJ ?_);refine Hf ?_;refine DS (FC rfl (B4 (AH rfl (Bh ⟨_,_,⟨tp,ns,d,rfl,b,rfl,rfl⟩,trivial,fun e h=>h,?_⟩))));intro _ hd;obtain⟨d',DH⟩:=Ac.good hd;have hx:=Is.ZBm b DH;have ok:=DH.2;rw[DH.1];cases d' with
 | put x i=>
  unfold dP
  walk_at "ww"
  refine Bk (by decide +kernel) ?_;refine NJ (Q8 (DS (FC rfl (B4 ?_))))
  walk_at "ww"
  refine B4 ?_
  walk_at "ww"
  exact Bh ⟨_,⟨tp,ns,x,i,rfl,by omega,rfl⟩,fun xs h=>⟨_,DH,h⟩⟩
 | take x=>
  unfold dP
  walk_at "ww"
  refine Ah (by decide +kernel) ?_;refine AS ?_
  walk_at "ww"
  refine Bk (by decide +kernel) ?_;refine NJ (Q8 (DS (FC rfl (B4 ?_))))
  walk_at "ww"
  exact Bh ⟨_,⟨tp,ns,x,rfl,by omega,rfl⟩,fun xs h=>⟨_,DH,h⟩⟩
 | move x i=>
  unfold dP
  walk_at "ww"
  refine Ah (by decide +kernel) ?_;refine AS ?_
  walk_at "ww"
  refine Ah (by decide +kernel) ?_;refine AS ?_
  walk_at "ww"
  refine Bk (by decide +kernel) ?_;refine NJ (Q8 (DS (BX (FV (Q8 (DS (FC rfl (B4 ?_))))))))
  walk_at "ww"
  refine Bh ⟨_,⟨tp,ns,x,rfl,by omega,rfl⟩,?_⟩;rintro _ rfl;refine⟨_,.inl ⟨rfl,B4 ?_⟩⟩
  walk_at "ww"
  refine B4 ?_
  walk_at "ww"
  have g:(wo ns x).length<=ns.length:=Nn _ _;exact Bh ⟨_,⟨false,wo ns x,x,i,rfl,by omega,rfl⟩,fun xs h=>⟨_,DH,h⟩⟩
 | turn lo hi=>
  unfold dP
  walk_at "ww"
  refine Ah (by decide +kernel) ?_;refine AS ?_
  walk_at "ww"
  refine Ah (by decide +kernel) ?_;refine AS ?_
  walk_at "ww"
  refine Ah (by decide +kernel) ?_;refine AS ?_;refine NJ (Q8 (DS (FC rfl (B4 ?_))))
  walk_at "ww"
  refine B4 ?_
  walk_at "ww"
  exact Bh ⟨_,⟨tp,ns,lo,hi,rfl,by omega,ok.1,ok.2,rfl⟩,fun xs h=>⟨_,DH,h⟩⟩
def Wf:As ["self","deed","behind","loop"] ["self","deed"] (Ae Vi):=by walk_at "z1"
def il:∀ss R,(Rf A7 AI) ss R->ss.length=2:=by rintro _ _ ⟨s,a,t,d,rfl,_,_,_,_,rfl⟩;rfl
def ZDv (F:AE K "follows_deed" "Course.follows_deed" Vi f fd)(n:Meth K A7 "follows_deed" f):
  ER P w K mg base A7 "follows_deed" 9 ["self","deed"] (Br (Rf A7 AI)):=by
 refine⟨f,fd,F.BS (k:=8) Wf (fun vs H Q E h=>Fz.Gh il h) (fun AY A outer s H vs Q E j h=>?_),(F.binds (by walk_at "bD2")),n,BR⟩
 refine⟨_,(A9 rfl (tf rfl rfl (by rfl) JO (fun _ _ _ g1=>by exact(AA rfl (Az 2 Wf.nd (GI Yo j (by decide) g1 rfl (A0 (show QE _ _ (KO K _ _) from Dp (qv 0)) (A0 (qv 1) A4)))))) (fun _=>by exact(AA rfl (Aa DP))))
   (A9 rfl (CF (J5 Je rfl (J3 (D4 (Vr rfl) C3 (A0 (Dp (qv 0)) A4))) (Ck 3 Wf.nd) (AA rfl (DV (Hc Y3 j (by decide) (qv 0) (A0 (qv 3) (A0 (qv 1) A4)))))))
   (A9 rfl (Jv (qv 0) (qv 2))
   (AA rfl (Aa DP))))),?_⟩
 refine Fz.KI h il ?_;rintro _ _ ⟨s,a,t,d,rfl,o,ok,g,hn,rfl⟩;obtain⟨dx,aL,aS,us,BK,rfl⟩:=o;show Ws [_,_,.any,.any] _ _ _;have l1:=ok.l1;have l2:=ok.l2;have u:=JM ok.n1 ok.sub;refine Al (xU (fun AJ=>AJ=[.ow true (Bg s A7 a dx aL aS us),.is (aP d),.any,.any]) (fun x=>d.Aw ⟨BA,BB,Au,Ay,BL⟩ s.row=some x) (fun E=>?_) (fun Hh x q m=>?_))
 ·letI:Xw:=HE E (fun AJ=>AJ=[.ow true (Bg s A7 a dx aL aS us),.is (aP d),.any,.any]) (fun x=>d.Aw ⟨BA,BB,Au,Ay,BL⟩ s.row=some x);refine Of (su (DS (BX (D3 (Pw rfl BR E6 ⟨_,rfl,_,.inl ⟨rfl,B4 (AH rfl (Bh ⟨_,_,⟨false,s.row,d,rfl,g,ok.row.len,rfl,rfl⟩,rfl,fun e h=>h,?_⟩))⟩⟩)))));rintro _ ⟨d',DH,rfl⟩;clear this;show Ws [.ow true (Bg s A7 a dx aL aS us),.is (aP d),.own ((d'.done s.row).map .str),.any] _ _ _;refine NR 2 rfl ?_;rw[DH.1];have c:=Ac.U9 g DH;refine Al (Ei (K4 (fun _ i AJ=>∃(b:Slot) (t':OV),AJ=[.ow true t',.is (dP d'),.is (.lst ((d'.done s.row).map .str)),b]/\D9 (EN s d' i) A7 AI a t') (Rn (MM (FV (kI (Jo rfl BR Co ⟨An s.ln,aL,_,rfl,by unfold An;rw[AQ];omega,_,.inl ⟨rfl,?_⟩⟩)))))));rw[ZV];refine⟨⟨_,_,rfl,dx,aL,aS,us,BK,rfl⟩,?_,?_⟩
  ·rintro i p AJ l ⟨b,t',rfl,GZ⟩;rw[BU] at l;obtain⟨x,hx,rfl⟩:=Option.map_eq_some_iff.mp l;refine NY ?_;obtain⟨dx',KP,Jl,us',Gg,rfl⟩:=id GZ;refine ZZ (i:=0) (MS rfl (by decide +kernel) (DX (AH rfl (DX (AH rfl (Fw ⟨_,⟨s,a,_,d',i,x,rfl,GZ,ok,hx,DH.2,c,hn,rfl⟩,?_⟩))))));rintro _ r ⟨rfl,CS⟩;obtain⟨nk,Ee,rfl⟩:=CS.nd;exact⟨nk,Ee,rfl,_,_,rfl,CS⟩
  ·rintro AJ ⟨b,t',rfl,GZ⟩;rw[AQ] at GZ;obtain⟨dx',KP,Jl,us',Gg,rfl⟩:=GZ;refine Al (J6 (i:=0) (t:=Bg (EN s d' s.ln.length) A7 a dx' KP Jl us') (De (AH rfl (DE rfl ⟨true,A7,dx',JG,a,_,rfl,rfl,BR,E6,by decide,BJ,?_⟩))));rw[OV.Fj];refine Di (i:=0) rfl (Ci (.inl ⟨⟨d'.done s.row,s.ln,s.ll.map (Lp.led s.row d'),s.sn,Cd s d' s.ln.length⟩,?_,rfl,dx',KP,Jl,us',Gg,?_⟩))
   ·unfold Fo;rw[VO DH]
   ·rw[<- jx,<- l1];rfl
 ·subst q;refine⟨ye aG m,Di (i:=0) rfl (Ci (.inr ⟨?_,rfl,dx,aL,aS,us,BK,rfl⟩))⟩;unfold Fo;rw[bX m]
def uX:As ["self","entry"] ["self","entry"] (Ae aB):=by walk_at "z1"
def jW:∀ss R,(YL A7 AI) ss R->ss.length=2:=by rintro _ _ ⟨s,a,t,e,rfl,_,_,_,_,rfl⟩;rfl
def rD (F:AE K "follows" "Course.follows" aB f fd)(l:Meth K A7 "follows" f):
  ER P w K mg base A7 "follows" 10 ["self","entry"] (Br (YL A7 AI)):=by
 refine⟨f,fd,F.BS (k:=9) uX (fun vs H Q E h=>Fz.Gh jW h) (fun AY A outer s H vs Q E g h=>?_),(F.binds (by walk_at "bD2")),l,BR⟩
 refine⟨_,(A9 rfl (Ai (AW BP (AD AL (qv 1) A5) AZ) (AA rfl (Aa (Hc W8 g (by decide) (qv 0) (A0 (AD AL (qv 1) A5) (A0 (AD AL (qv 1) A5) A4))))) Ak)
   (A9 rfl (Ai (AW BP (AD AL (qv 1) A5) AZ) (AA rfl (Aa (Hc Zh g (by decide) (qv 0) (A0 (AD AL (qv 1) A5) (A0 (AD AL (qv 1) A5) A4))))) Ak)
   (A9 rfl (Ai (AW BP (AD AL (qv 1) A5) AZ) (AA rfl (Aa (Hc Yd g (by decide) (qv 0) (A0 (AD AL (qv 1) A5) A4)))) Ak)
   (AA rfl (Aa (Hc Ut g (by decide) (qv 0) (A0 (qv 1) A4))))))),?_⟩
 refine Fz.KI h jW ?_;rintro _ _ ⟨s,a,t,e,rfl,c,ok,j,hn,rfl⟩;obtain⟨dx,aL,aS,us,BK,rfl⟩:=id c;show Ws [_,_] _ _ _;have nd:∀{o:Option Ls}{p:PV}{t':OV},Dn (fun s t=>D9 s A7 AI a t) s o p t'->∃EK us',t'=.nd EK a us'/\(∃nk a us,t'=.nd nk a us)/\Dn (fun s t=>D9 s A7 AI a t) s o p t':=fun h=>by
  obtain⟨nk,us,e⟩:=h.nd fun _ _ h=>h.nd;exact⟨nk,us,e,⟨nk,a,us,e⟩,h⟩
 cases e with
 | Fq x r=>
  show Ws [_,.is (.tup [.str "begin", .str x,.str r])] _ _ _
  walk_at "ww"
  refine Bk (by decide +kernel) ?_;refine NU (i:=0) rfl (MS rfl (by decide +kernel) (DX ?_))
  walk_at "ww"
  refine DX ?_
  walk_at "ww"
  exact Fw ⟨_,⟨s,a,_,x,r,rfl,c,ok,j.1,j.2,hn,rfl⟩,fun p t' h=>nd h⟩
 | tell x y=>
  show Ws [_,.is (.tup [.str "tell", .str x,.str y])] _ _ _
  walk_at "ww"
  refine Ah (by decide +kernel) (AS ?_)
  walk_at "ww"
  refine Bk (by decide +kernel) ?_;refine NU (i:=0) rfl (MS rfl (by decide +kernel) (DX ?_))
  walk_at "ww"
  refine DX ?_
  walk_at "ww"
  exact Fw ⟨_,⟨s,a,_,x,y,rfl,c,ok,hn,rfl⟩,fun p t' h=>nd h⟩
 | over x=>
  show Ws [_,.is (.tup [.str "over", .str x])] _ _ _
  walk_at "ww"
  refine Ah (by decide +kernel) (AS ?_)
  walk_at "ww"
  refine Ah (by decide +kernel) (AS ?_)
  walk_at "ww"
  refine Bk (by decide +kernel) ?_;refine NU (i:=0) rfl (MS rfl (by decide +kernel) (DX ?_))
  walk_at "ww"
  exact Fw ⟨_,⟨s,a,_,x,rfl,c,ok,rfl⟩,fun p t' h=>nd h⟩
 | CT d=>
  have b:∀nx,Ws [.ow true (Bg s A7 a dx aL aS us),.is (aP d)] (Fp (Ml A7 "follows_deed" (Br (Rf A7 AI)) [] E0 (BD 0) (Ag (BD 1) BM))) nx (.mt (Dn (fun s t=>D9 s A7 AI a t) s (En s (.CT d)))):=fun nx=>NU (i:=0) rfl (MS rfl (by decide +kernel) (DX (AH rfl (Fw ⟨_,⟨s,a,_,d,rfl,c,ok,j,hn,rfl⟩,fun p t' h=>nd h⟩))));show Ws [_,.is (aP d)] _ _ _;cases d with
  | _=>
   unfold aP at b ⊢;dsimp only at b ⊢
   walk_at "ww"
   refine Ah (by decide +kernel) (AS ?_)
   walk_at "ww"
   refine Ah (by decide +kernel) (AS ?_)
   walk_at "ww"
   refine Ah (by decide +kernel) (AS ?_);exact b _
def Rm:As ["row","log","course","number","entry"] ["row","log"] (Ae UY):=by walk_at "z1"
def gm:∀ss R D,(ZF A7 AI By) ss R D->ss.length=2:=by rintro _ _ _ ⟨tp,ns,es,rfl,_,_,_,rfl,rfl⟩;rfl
def xi (F:AE K "course_of" "course_of" UY f fd)(m:mg "course_of"=some (.ref f)):
  Bz P w K mg base "course_of" 11 ["row","log"] (Cf (ZF A7 AI By)):=by
 refine Bz.mk F (F.binds (by walk_at "bD2")) m (F.JX (k:=10) Rm (fun vs H Q E h=>Fz.JU gm h) (fun AY A outer s H vs Q E c h=>?_))
 refine⟨_,(A9 rfl (Az 2 Rm.nd (gX Yz c (by decide) UU (A0 (qv 0) A4)))
   (A9 rfl (CF (J5 qY rfl (kq rfl MR (A0 (qv 1) A4)) (Ky rfl (Dq (Ck 3 Rm.nd) (Dq (Ck 4 Rm.nd) LP))) (AA rfl (Ai (Gr (IX (Hc aT c (by decide) (qv 2) (A0 (qv 4) A4)))) (AA rfl (JF Zt (by rfl) MJ c (by decide) rfl rfl ES (A0 (qv 3) A4))) Ak))))
   (AA rfl (Aa (qv 2))))),?_⟩
 refine Fz.J9 h gm ?_;rintro _ _ _ ⟨tp,ns,es,rfl,c,o,x,rfl,rfl⟩;intro i0;show Ws [_,_,.any,.any,.any] _ _ _;refine Al (UN (lQ (DX (AH rfl (Fw fun b e=>⟨_,⟨b,e,tp,ns,rfl,rfl⟩,?_⟩)))));rintro _ _ ⟨rfl,aL,aS,rfl⟩;refine⟨rfl,_,_,rfl,?_⟩;show Ws [.is (LJ tp (ns.map .str)),.is (.lst (es.map LE.P)),.ow false (Bg (Cs ns) A7 b e aL aS []),.any,.any] _ _ _;refine Al (Ei (K4 (fun _ i AJ=>∃(l s4:Slot) (t':OV) (s:Ls),AJ=[.is (LJ tp (ns.map .str)),.is (.lst (es.map LE.P)),.ow false t',l,s4]/\runs (Cs ns) (es.take i)=some s/\D9 s A7 AI b t') ?_))
 walk_at "ww"
 refine⟨⟨_,_,_,Cs ns,rfl,rfl,e,aL,aS,[],R2.nil,rfl⟩,?_,?_⟩
 ·rintro i p AJ q ⟨l,s4,t',s,rfl,a,j⟩;obtain⟨u,hx,rfl⟩:=kG q;rw[BU] at hx;obtain⟨n,d,rfl⟩:=Option.map_eq_some_iff.mp hx;have ok:=XI (Xe c) a;have r:=Wj a;have hi:=(List.getElem?_eq_some_iff.mp d).1;rw[Cn] at r;have y:(Cs ns).sn.length=0:=rfl;refine jl ⟨_,_,rfl,?_⟩;obtain⟨dx',KP,Jl,us',Gg,rfl⟩:=id j;refine VF (i:=2) (XA (Zq (MS rfl (by decide +kernel) (DX (AH rfl (Fw ⟨_,⟨s,b,_,n,rfl,j,ok,o n (Dh d),by omega,rfl⟩,?_⟩))))));rintro _ v (⟨s',g,rfl,CS⟩|⟨g,rfl,CS⟩)
  ·obtain⟨nk,Ee,rfl⟩:=CS.nd;refine⟨nk,Ee,rfl,true,rfl,D5 (AS ⟨_,_,_,s',rfl,?_,CS⟩)⟩;obtain⟨GR,t⟩:=List.getElem?_eq_some_iff.mp d;rw[QK GR,t,OS a,g]
  ·obtain⟨nk,Ee,rfl⟩:=CS.nd;refine⟨nk,Ee,rfl,false,rfl,Bk rfl (G3 (AH rfl ⟨?_,trivial,i,rfl,s,n,a,d,g⟩))⟩;exact O7 (by omega)
 ·rintro AJ ⟨l,s4,t',s,rfl,a,j⟩;rw[O9,AQ,Kn] at a;exact oK (nr rfl ⟨s,b,a,j⟩)
def fG:As ["row","log","refusal"] ["row","log"] (Ae Yx):=by walk_at "z1"
def bo : ∀ss R,Wh ss R->ss.length=2:=by rintro _ _ ⟨tp,ns,es,rfl,_,_,_,rfl⟩;rfl
def uK (F:AE K "first_wrong" "first_wrong" Yx f fd)(m:mg "first_wrong"=some (.ref f)):
  AG P w K mg base "first_wrong" 12 ["row","log"] (BE Wh):=by
 refine AG.mk F (F.binds (by walk_at "bD2")) m (F.BS (k:=11) fG (fun vs H Q E h=>Fz.DW bo h) (fun AY A outer s H vs Q E b h=>?_))
 refine⟨_,(A9 rfl (sI (j:=2) rfl rfl fG.nd rfl rfl (by rfl) MJ (fun _ _ _ g1=>by exact(AA rfl (DV (GI Zx b (by decide) g1 rfl (A0 (qv 0) (A0 (qv 1) A4)))))) (fun _=>by exact(AA rfl (Aa (show QE _ _ (Ti K _ _) from qP (qv 2))))))
   (AA rfl (Aa MP))),?_⟩
 refine Fz.DY h bo ?_;rintro _ _ ⟨tp,ns,es,rfl,b,g,c,rfl⟩;show Ws [_,_,.any] _ _ _;refine Al (zI (fun AJ=>AJ=[.is (LJ tp (ns.map .str)),.is (.lst (es.map LE.P)),.any]) (fun x=>∃i:Nat,x=Vy By i/\JR ns es i) (fun E=>?_) (fun Hh x n o=>?_))
 ·letI:Xw:=HE E (fun AJ=>AJ=[.is (LJ tp (ns.map .str)),.is (.lst (es.map LE.P)),.any]) (fun x=>∃i:Nat,x=Vy By i/\JR ns es i);refine KJ (ZCI (pj (B4 (AH rfl (B4 (AH rfl (Bh ⟨_,_,⟨tp,ns,es,rfl,b,g,c,rfl,rfl⟩,rfl,fun e h=>h,fun u d=>?_⟩)))))));refine⟨rfl,?_⟩;clear this;show Ws _ _ _ _;obtain⟨s,a,l,_⟩:=d;exact Cq (Rp (.inl ⟨rfl,s,l⟩))
 ·subst n;obtain⟨i,rfl,hw⟩:=o;refine⟨ZM,?_⟩;exact Cq (ZAi (AH rfl ⟨By,.int i,rfl,(ZCA lx).toExGet,UM,YV,.inr ⟨i,rfl,hw⟩⟩))
def Qp:As ["first","log","state","number","entry"] ["first","log"] (Ae X2):=by walk_at "z1"
def gD : ∀ss R,Vb ss R->ss.length=2:=by rintro _ _ ⟨ns,es,rfl,_,_,_,rfl⟩;rfl
def tY (F:AE K "_law_first_wrong" "_law_first_wrong" X2 f fd)(m:mg "_law_first_wrong"=some (.ref f)):
  AG P w K mg base "_law_first_wrong" 6 ["first","log"] (BE Vb):=by
 refine AG.mk F (F.binds (by walk_at "bD2")) m (F.BS (k:=5) Qp (fun vs H Q E h=>Fz.DW gD h) (fun AY A outer s H vs Q E e h=>?_))
 refine⟨_,(A9 rfl (Az 2 Qp.nd (lI (N6 AZ (D4 KG C3 (A0 (qv 0) A4)) (N6 AZ NM (N6 AZ NM jq))) rfl rfl (by simp) (by decide)))
   (A9 rfl (CF (J5 Je rfl (kq rfl MR (A0 (qv 1) A4)) (Ky rfl (Dq (Ck 3 Qp.nd) (Dq (Ck 4 Qp.nd) LP))) (AA rfl (Ai (Gr (IX (Af NV e (A0 (qv 2) (A0 (qv 4) A4))))) (AA rfl (Aa (qv 3))) Ak))))
   (AA rfl (Aa MP)))),?_⟩
 refine Fz.DY h gD ?_;rintro _ _ ⟨ns,es,rfl,e,n,v,rfl⟩;show Ws [_,_,.any,.any,.any] _ _ _;refine Al (UN (bg (by decide +kernel) (IG (De (FV (NX rfl (RA rfl (IG (Mb fun aL=>IG (Mb fun aS=>Zl ⟨by simp,by simp,by simp,rfl,fun a=>?_⟩))))))))));show Ws [.is (.lst (ns.map .str)),.is (.lst (es.map LE.P)),.ow false (Bb (Cs ns) a aL aS []),.any,.any] _ _ _;refine Al (Ei (K4 (fun _ i AJ=>∃(d s4:Slot) (t':OV) (s:Ls),AJ=[.is (.lst (ns.map .str)),.is (.lst (es.map LE.P)),.ow false t',d,s4]/\runs (Cs ns) (es.take i)=some s/\DD s a t') ?_))
 walk_at "ww"
 refine⟨⟨_,_,_,Cs ns,rfl,rfl,aL,aS,[],R2.nil,rfl⟩,?_,?_⟩
 ·rintro i p AJ o ⟨d,s4,t',s,rfl,b,j⟩;obtain⟨t,hx,rfl⟩:=kG o;rw[BU] at hx;obtain⟨l,c,rfl⟩:=Option.map_eq_some_iff.mp hx;have ok:=XI (Xe e) b;have q:=Wj b;have hi:=(List.getElem?_eq_some_iff.mp c).1;rw[Cn] at q;have x:(Cs ns).sn.length=0:=rfl;refine jl ⟨_,_,rfl,?_⟩;obtain⟨KP,Jl,us',Gg,rfl⟩:=id j;refine VF (i:=2) (XA (Zq (NH rfl (Nf rfl (DX (AH rfl (Fw ⟨_,⟨s,a,_,l,rfl,j,ok,n l (Dh c),by omega,rfl⟩,?_⟩)))))));rintro _ u (⟨s',g,rfl,CS⟩|⟨g,rfl,CS⟩)
  ·obtain⟨nk,Ee,rfl⟩:=CS.nd;refine⟨nk,Ee,rfl,true,rfl,D5 (AS ⟨_,_,_,s',rfl,?_,CS⟩)⟩;obtain⟨GR,r⟩:=List.getElem?_eq_some_iff.mp c;rw[QK GR,r,OS b,g]
  ·obtain⟨nk,Ee,rfl⟩:=CS.nd;exact⟨nk,Ee,rfl,false,rfl,Bk rfl (Cq (AH rfl (.inr ⟨i,rfl,s,l,b,c,g⟩)))⟩
 ·rintro AJ ⟨d,s4,t',s,rfl,b,j⟩;rw[O9,AQ,Kn] at b;exact Cq (Rp (.inl ⟨rfl,s,b⟩))
def Q3:As ["pot","log","at","to","way","made"] ["pot","log"] (Ae Zu):=by walk_at "z1"
def cU : ∀ss R,Zd ss R->ss.length=2:=by rintro _ _ ⟨es,rfl,_,_,_,rfl⟩;rfl
def ZCX (F:AE K "_law_bent" "_law_bent" Zu f fd)(m:mg "_law_bent"=some (.ref f)):
  AG P w K mg base "_law_bent" 2 ["pot","log"] (BE Zd):=by
 refine AG.mk F (F.binds (by walk_at "bD2")) m (F.BS (k:=1) Q3 (fun vs H Q E h=>Fz.DW cU h) (fun AY A outer s H vs Q E r h=>?_))
 refine⟨_,(A9 rfl (Az 2 Q3.nd (Af BV r (A0 (qv 0) (A0 (BF CJ Aj (A0 (qv 1) A4)) A4))))
   (A9 rfl (Az 3 Q3.nd (Af BV r (A0 (qv 0) (A0 (BF CJ Aj (A0 (qv 1) A4)) A4))))
   (A9 rfl (Az 4 Q3.nd (Af BV r (A0 (qv 0) (A0 A5 A4))))
   (A9 rfl (Az 5 Q3.nd (D4 KG C3 (A0 (qv 1) A4)))
   (A9 rfl (CF (Ai (AW BP (qv 4) A5) (AA rfl (DV (Gx Iv ZGS ZGV dB (qv 5) (A0 (qv 2) A4)))) Ak))
   (A9 rfl (CF (Ai (AW BP (qv 4) A5) (AA rfl (DV (Gx Iv bJ mz Xv (qv 5) (A0 (qv 3) (A0 (AD D1 (qv 1) (qv 2)) A4))))) Ak))
   (A9 rfl (CF (Ai (AW BP (qv 4) A5) (A9 rfl (HV (AD D1 (qv 1) (qv 3)) (Mr (qv 5) (qv 2) set_list))
   (AA rfl (HV (AD D1 (qv 1) (qv 2)) (Mr (qv 5) (qv 3) set_list)))) Ak))
   (A9 rfl (CF (Ai (AW BP (qv 4) A5) (AA rfl (DV (Gx Iv bJ mz Xv (qv 5) (A0 (qv 3) (A0 (Gx Iv ZGS ZGV dB (qv 5) (A0 (qv 2) A4)) A4))))) Ak))
   (A9 rfl (CF (Ai (FO (AW BP (qv 4) A5) (FO (AW BP (BF CJ Aj (A0 (AD D1 (qv 1) (qv 2)) A4)) A5) (FO (AW BP (BF CJ Aj (A0 (AD D1 (qv 1) (qv 3)) A4)) A5) (GN (AW BP (AD AL (AD D1 (qv 1) (qv 2)) A5) (AD AL (AD D1 (qv 1) (qv 3)) A5)))))).pt (AA rfl (HV (B6 jn (FA Fz.Lb (AD D1 (qv 1) (qv 2)) GK (EX A5)) (FA Fz.Lb (AD D1 (qv 1) (qv 3)) (EX A5) GK)) (Mr (qv 5) (qv 2) set_list))) Ak))
   (AA rfl (Aa (qv 5)))))))))))),?_⟩
 refine Fz.DY h cU ?_;rintro _ _ ⟨es,rfl,h1,U,d,rfl⟩;show Ws [_,_,.any,.any,.any,.any] _ _ _
 walk_at "ww"
 rw[AQ];refine⟨by omega,by omega,fun a a0 W=>?_⟩;obtain⟨a,rfl⟩:=EE a0
 walk_at "ww"
 rw[AQ];refine⟨by omega,by omega,fun b b0 V=>?_⟩;obtain⟨b,rfl⟩:=EE b0
 walk_at "ww"
 refine⟨by decide,by decide,fun w S R=>?_⟩;refine Al (Of (NX rfl (RA (i:=1) rfl ?_)));obtain⟨ea,t⟩:∃e,es[a]?=some e:=⟨_,BC (by omega)⟩;obtain⟨n,B⟩:∃e,es[b]?=some e:=⟨_,BC (by omega)⟩;have sa:=d ea (Dh t);have y:=d n (Dh B);have p:L2.Bs (es.map LE.P) (a:Int)=some ea.P:=Ie (by rw[BU,t];rfl);have q:L2.Bs (es.map LE.P) (b:Int)=some n.P:=Ie (by rw[BU,B];rfl);have C:∀(f:LE->PV) (l:List LE) (k:Nat),(l.map f).eraseIdx k=(l.eraseIdx k).map f:=fun f l k=>by
  induction l generalizing k with
  | nil=>rfl
  | cons x l M=>cases k with
   | zero=>rfl
   | succ k=>rw[Bp,M8,M8,Bp,M]
 have I:w=0∨w=1∨w=2∨w=3∨w=4:=by omega
 have ins:∀(l:List LE) (k:Nat) (e:LE),(l.map LE.P).take k++e.P::(l.map LE.P).drop k=(l.take k++e::l.drop k).map LE.P:=fun l k e=>by rw[EF,Bp,Nq,Np]
 rcases I with rfl | rfl | rfl | rfl | rfl
 ·walk_at "ww"
  refine Bk (by decide) ?_;refine ZD9 rfl (AH rfl ⟨_,a,rfl,by omega,by omega,by rw[AQ];exact N1 (by omega),?_⟩);rw[C]
  walk_at "ww"
  refine Ah (by decide) (AS ?_)
  walk_at "ww"
  refine Ah (by decide) (AS ?_)
  walk_at "ww"
  refine Ah (by decide) (AS ?_)
  walk_at "ww"
  refine Ah (by decide) (AS ?_)
  walk_at "ww"
  exact⟨fun e c=>d e ((Tr _ _).subset c),bA (mW _ _)⟩
 ·walk_at "ww"
  refine Ah (by decide) (AS ?_)
  walk_at "ww"
  refine Bk (by decide) ?_;refine cG rfl (AH rfl ⟨_,rfl,by omega,by rw[AQ];omega,?_⟩)
  walk_at "ww"
  refine⟨_,_,rfl,p,by rw[AQ];omega,?_⟩;rw[Ki,ins]
  walk_at "ww"
  refine Ah (by decide) (AS ?_)
  walk_at "ww"
  refine Ah (by decide) (AS ?_)
  walk_at "ww"
  refine Ah (by decide) (AS ?_)
  walk_at "ww"
  refine⟨fun e c=>?_,by rw[CM,CN,Cn,Em];omega⟩;rcases List.mem_append.mp c with z | z
  ·exact d e (b4 z)
  ·rcases List.mem_cons.mp z with rfl | z
   ·exact sa
   ·exact d e (md z)
 ·walk_at "ww"
  refine Ah (by decide) (AS ?_)
  walk_at "ww"
  refine Ah (by decide) (AS ?_)
  walk_at "ww"
  refine Bk (by decide) ?_;refine Al (VW rfl ?_)
  walk_at "ww"
  refine⟨_,_,rfl,q,AH rfl ⟨_,a,rfl,by rw[AQ];exact N1 (by omega),?_⟩⟩;refine VW (xs:=(es.map LE.P).set a n.P) rfl ?_
  walk_at "ww"
  refine⟨_,_,rfl,p,AH rfl ⟨_,b,rfl,by rw[GX,AQ];exact N1 (by omega),?_⟩⟩;rw[<- az,<- az]
  walk_at "ww"
  refine Ah (by decide) (AS ?_)
  walk_at "ww"
  refine Ah (by decide) (AS ?_)
  walk_at "ww"
  refine⟨fun e c=>?_,by rw[GX,GX];omega⟩;rcases b5 c with z | rfl
  ·rcases b5 z with z | rfl
   ·exact d e z
   ·exact y
  ·exact sa
 ·walk_at "ww"
  refine Ah (by decide) (AS ?_)
  walk_at "ww"
  refine Ah (by decide) (AS ?_)
  walk_at "ww"
  refine Ah (by decide) (AS ?_)
  walk_at "ww"
  refine Bk (by decide) ?_;refine ZA4 rfl (by rw[AQ];omega) (AH rfl ⟨b,rfl,AH rfl ⟨a,ea.P,rfl,by rw[BU,t];rfl,by rw[AQ];omega,?_⟩⟩);rw[C,ins]
  walk_at "ww"
  refine Ah (by decide) (AS ?_)
  walk_at "ww"
  have G:∀e∈es.eraseIdx a,e.say:=fun e c=>d e ((Tr _ _).subset c);have T:=mW es a;refine⟨fun e c=>?_,by rw[CM,CN,Cn,Em];omega⟩;rcases List.mem_append.mp c with z | z
  ·exact G e (b4 z)
  ·rcases List.mem_cons.mp z with rfl | z
   ·exact sa
   ·exact G e (md z)
 ·walk_at "ww"
  refine Ah (by decide) (AS ?_)
  walk_at "ww"
  refine Ah (by decide) (AS ?_)
  walk_at "ww"
  refine Ah (by decide) (AS ?_)
  walk_at "ww"
  refine Ah (by decide) (AS ?_)
  walk_at "ww"
  refine Bk (by decide) ?_
  walk_at "ww"
  have same:Ws (((([.AM,.is (.lst (es.map LE.P)),.any,.any,.any,.any].set 2 (.is (.int (a:Nat)))).set 3 (.is (.int (b:Nat)))).set 4 (.is (.int 4))).set 5 (.own (es.map LE.P))) (Fp (BD 5)) (fun x=>∃k,(B3.new fun xs=>∃EB:List LE,xs=EB.map LE.P/\(∀e∈EB,e.say)/\EB.length<=es.length+1)=B3.is k/\k .A8) (.new fun xs=>∃EB:List LE,xs=EB.map LE.P/\(∀e∈EB,e.say)/\EB.length<=es.length+1):=by
   walk_at "ww"
   exact⟨d,Dv _⟩
  rw[LE.cN ea] at p;rw[LE.cN n] at q;refine⟨_,_,rfl,p,_,.inr ⟨rfl,?_⟩⟩
  walk_at "ww"
  refine Ad (fun c1=>?_) (fun c1=>D5 (AS same));have o:ea.tl.length=2:=by
   have:=om c1;rw[CN] at this;omega
  walk_at "ww"
  refine⟨_,_,rfl,q,_,.inr ⟨rfl,?_⟩⟩
  walk_at "ww"
  refine Ad (fun c2=>?_) (fun c2=>D5 (AS same));have J:n.tl.length=2:=by
   have:=om c2;rw[CN] at this;omega
  walk_at "ww"
  refine⟨_,_,rfl,p,_,.inr ⟨rfl,rfl,Bw ⟨_,.str ea.tag,rfl,Ie (j:=0) rfl,?_⟩⟩⟩
  walk_at "ww"
  refine⟨_,_,rfl,q,_,.inr ⟨rfl,rfl,Bw ⟨_,.str n.tag,rfl,Ie (j:=0) rfl,?_⟩⟩⟩;refine⟨rfl,_,rfl,?_⟩;refine Ad (fun D=>?_) (fun D=>AS same);have tg:ea.tag=n.tag:=om D;obtain⟨g,L,N⟩:=qR o J tg sa y;refine VW rfl (ZDY (TZ (BX ?_)))
  walk_at "ww"
  refine⟨_,_,rfl,p,_,.inr ⟨rfl,?_⟩⟩
  walk_at "ww"
  refine⟨_,rfl,?_,TZ (BX ?_)⟩
  ·obtain⟨u,v,O⟩:∃u v,ea.tl=[u,v]:=by
    rcases ht:ea.tl with _ | ⟨u,_ | ⟨v,_ | _⟩⟩
    ·rw[ht] at o;cases o
    ·rw[ht] at o;cases o
    ·exact⟨u,v,rfl⟩
    ·rw[ht] at o;cases o
   rw[O];exact fun z=>by cases z
  walk_at "ww"
  refine⟨_,_,rfl,q,_,.inr ⟨rfl,?_⟩⟩
  walk_at "ww"
  refine⟨_,rfl,?_,AH rfl ⟨_,a,rfl,by rw[AQ];exact N1 (by omega),?_⟩⟩
  ·have h1:=bZ (PV.str ea.tag::ea.tl) none (some 2);have h2:=bZ (PV.str n.tag::n.tl) (some 2) none;rw[CN] at h1 h2;omega
  rw[N,<- az]
  walk_at "ww"
  refine⟨fun e c=>?_,by rw[GX];omega⟩;rcases b5 c with z | rfl
  ·exact d e z
  ·exact L
def Gu:As ["script","first","log","wrong","state","k","pot","made","turn","found","due"] ["script"] (Ae MO):=by walk_at "z1"
def ZAJ (F:AE K "law" "law" MO f fd)(m:mg "law"=some (.ref f)):
  Cj P w K mg base Eg 14 f fd ["script"] (Pu K):=by
 refine(F.BS (k:=13) Gu (fun vs H Q E h=>by obtain⟨a,ns,rfl,_⟩:=h;rfl) (fun AY A outer s H vs Q E d h=>?_));refine⟨_,(A9 rfl (HV (Af YC d (A0 (qv 0) (A0 A5 A4))) (Ky rfl (Dq (Ck 1 Gu.nd) (Dq (Ck 2 Gu.nd) (Dq (Ck 3 Gu.nd) (Dq (Ck 4 Gu.nd) LP))))))
   (A9 rfl (Ai (AW ZA9 (Af R8 d (A0 (qv 1) (A0 (qv 2) A4))) MP) (AA rfl (Aa DP)) Ak)
   (A9 rfl (CF (J5 Je rfl (TY rfl HR (A0 A5 A4)) (Ck 5 Gu.nd) (A9 rfl (Az 6 Gu.nd (Af Ly d (A0 (qv 0) (A0 (qv 5) A4))))
   (A9 rfl (Az 7 Gu.nd (qv 2))
   (A9 rfl (CF (J5 Je rfl (TY rfl HR (A0 (B6 EA A5 (Af BV d (A0 (qv 6) (A0 A5 A4)))) A4)) (Ck 8 Gu.nd) (AA rfl (Ai (AW KD (BF CJ Aj (A0 (qv 7) A4)) A5) (AA rfl (Az 7 Gu.nd (Af Xq d (A0 (qv 6) (A0 (qv 7) A4))))) Ak))))
   (A9 rfl (Az 9 Gu.nd (Af R8 d (A0 (qv 1) (A0 (qv 7) A4))))
   (A9 rfl (Az 10 Gu.nd (Af WK d (A0 (qv 1) (A0 (qv 7) A4))))
   (AA rfl (Ai (Fb (AW (Fz.za d.units) (qv 9) (qv 10)) (Hb (IX (BF oy XE (A0 (qv 9) (A0 (oO "bool" Xf) A4)))))).pt (AA rfl (Aa DP)) Ak)))))))))
   (AA rfl (Aa DP))))),?_⟩
 refine Fz.ZE8 h ?_;intro sc SN;show Ws [_,.any,.any,.any,.any,.any,.any,.any,.any,.any,.any] _ _ _;refine Al (fA (wp_call (yT rfl (B4 (Bw (Bh ⟨_,⟨sc,rfl,SN,rfl⟩,?_⟩))))));rintro _ ⟨ns,es,s,rfl,d,B,M,G⟩;refine z9 ⟨_,_,_,_,rfl,?_⟩;show Ws [.raw (Eb K sc),.is (.lst (ns.map .str)),.is (.lst (es.map LE.P)),.is .A8,.is (Hl s),.any,.any,.any,.any,.any,.any] _ _ _;refine Al (CC (Ct (qW (wp_call (B4 (AH rfl (B4 (AH rfl (Bh ⟨_,⟨false,ns,es,rfl,d,B,by omega,rfl⟩,?_⟩)))))))));intro p l;have v:p=.A8:=by
  rcases l with⟨rfl,_⟩|⟨i,_,hw⟩
  ·rfl
  ·exact absurd G (ZG hw)
 subst v;refine Rp ⟨rfl,_,rfl,Ah (by decide) (AS ?_)⟩;refine Al (Ei (K4 (fun _ i AJ=>∃u t g n r EZ:Slot,AJ=[.raw (Eb K sc),.is (.lst (ns.map .str)),.is (.lst (es.map LE.P)),.is .A8,.is (Hl s),u,t,g,n,r,EZ]) ?_))
 walk_at "ww"
 refine⟨by decide,by decide,⟨_,_,_,_,_,_,rfl⟩,?_,?_⟩
 ·rintro i p AJ l ⟨u,t,g,n,r,EZ,rfl⟩;obtain⟨hi,rfl⟩:=Yv l;refine NY ?_
  walk_at "ww"
  refine⟨by omega,by omega,?_⟩;refine Al (Iq (AH rfl ?_));refine Al (Ei (K4 (fun _ j AJ=>∃(g n:Slot) (fs:List LE),AJ=[.raw (Eb K sc),.is (.lst (ns.map .str)),.is (.lst (es.map LE.P)),.is .A8,.is (Hl s),.is (.int i),.AM,g,n,r,EZ]/\(g=.is (.lst (fs.map LE.P))∨g=.own (fs.map LE.P))/\(∀e∈fs,e.say)/\fs.length<=110+j) ?_))
  walk_at "ww"
  refine⟨by decide,by decide,fun w L J=>⟨_,rfl,_,rfl,by omega,by omega,⟨_,_,es,rfl,.inl rfl,B,by omega⟩,?_,?_⟩⟩
  ·rintro j p AJ l ⟨g,n,fs,rfl,y,o,z⟩;obtain⟨N,rfl⟩:=Yv l;refine NY ?_;rcases y with rfl | rfl
   case' inr=>refine NR 7 rfl ?_
   all_goals
    walk_at "ww"
    rw[AQ];refine Ad (fun c=>?_) (fun c=>AS ⟨_,_,fs,rfl,.inl rfl,o,by omega⟩);have c1:=om c;refine Of (vH rfl (B4 (AH rfl (Bh ⟨_,⟨fs,rfl,by omega,by omega,o,rfl⟩,?_⟩))));rintro _ ⟨Kd,rfl,PQ,C⟩;exact⟨_,_,Kd,rfl,.inr rfl,PQ,by omega⟩
  ·rintro AJ ⟨g,n,fs,rfl,y,o,z⟩;rw[N3] at z;rcases y with rfl | rfl
   case' inr=>refine NR 7 rfl ?_
   all_goals
    refine Al (Iq (wp_call (B4 (AH rfl (B4 (AH rfl (Bh ⟨_,⟨false,ns,fs,rfl,d,o,by omega,rfl⟩,?_⟩)))))));intro p l;refine Al (Iq (wp_call (B4 (AH rfl (B4 (AH rfl (Bh ⟨_,⟨ns,fs,rfl,d,o,by omega,rfl⟩,?_⟩)))))));intro q D;have e:=zb l D;subst e;have dp:dat K 40 p:=by
     rcases l with⟨rfl,_⟩|⟨i,rfl,_⟩
     ·trivial
     ·trivial
    refine CC (Hy (Ct (fo (AH rfl (AH rfl ⟨dp,dp,_,rfl,Ah (by rw[ZEA 40 dp];decide) ?_⟩)))));have x:∃b,PySem.W.kitOne K (Kr p) (.type "bool")=some b/\b=false:=by
     rcases l with⟨rfl,_⟩|⟨i,rfl,_⟩
     ·exact⟨false,ug _,rfl⟩
     ·exact⟨false,qm _,rfl⟩
    obtain⟨b,x,I⟩:=x;refine Fc (nW (AH rfl ⟨b,x,_,rfl,Ah (by rw[I];decide) (AS ⟨_,_,_,_,_,_,rfl⟩)⟩))
 ·rintro AJ ⟨u,t,g,n,r,EZ,rfl⟩;exact Cq (Ci rfl)
def all_mk {h:Heap}{fa f1 f2 f3 f4 f5 f6 f7 f8 f9 dz lV eF jV bQ dD fD gP kS k8 bM fW Sj Sz i8 eJ c5 Qe Su j4 jB jO Ri SV ka lz lG jr lF cR Sn lB fL gr kl kg lT ki fY Tf Se gM m6 ee kQ bp:Addr}{g1 g2 g3 g4 g5 g6 g7 g8 g9 xZ pC tD vA vk g15 oX pP sF zi y3 g21 uE rM zm xM g26 yA yI g29 rX vh g32 uW g34 vW g36 g37 p6 yl g40 yS g42 qX yB qD qO g47 qJ oZ g50 uM g52 uz yd oQ:FuncData}(X:K.In h)(G:h.Ns mainGlobals mg)(sQ:mg "law"=some (.ref fa))
  
  (wV:PySem.W.nsIn K mainGlobals "Course"=some (some (.ref A7)))
  (ZCk:PySem.W.plainGet K A7 Str.empty=true)
  (ZEz:PySem.W.hasDictIn K A7=true)
  (xP:PySem.W.plainOver K A7=true)
  (pK:PySem.W.findIn K (.ref A7) "__setattr__"=some (some (.builtin "object.__setattr__")))
  (ZAU:PySem.W.makesIn K A7=true)
  (ZCo:PySem.W.keepIn K (.ref A7)=true)
  (ZCg:PySem.W.nsIn K mainGlobals "Tally"=some (some (.ref AI)))
  (ZBT:PySem.W.plainGet K AI Str.empty=true)
  (qN:PySem.W.hasDictIn K AI=true)
  (ZFt:PySem.W.plainOver K AI=true)
  (ZCO:PySem.W.findIn K (.ref AI) "__setattr__"=some (some (.builtin "object.__setattr__")))
  (pX:PySem.W.makesIn K AI=true)
  (ZAy:PySem.W.keepIn K (.ref AI)=true)
  (Co:PySem.W.findIn K (.ref A7) "running"=some none)
  (E6:PySem.W.findIn K (.ref A7) "standing"=some none)
  (GS:PySem.W.findIn K (.ref A7) "tallies"=some none)
  (Mo:PySem.W.findIn K (.ref AI) "joined"=some none)
  (Wy:PySem.W.findIn K (.ref AI) "stood"=some none)
  (Mi:PySem.W.findIn K (.ref AI) "taken"=some none)
  (NP:PySem.W.findIn K (.ref AI) "told"=some none)
  (a1:nS K "_law_pot" (.ref f1)) (F1:AE K "_law_pot" "_law_pot" aC f1 g1)
  (a2:nS K "_law_take" (.ref f2)) (F2:AE K "_law_take" "_law_take" Vv f2 g2)
  (a3:nS K "_law_letters" (.ref f3)) (F3:AE K "_law_letters" "_law_letters" UL f3 g3)
  (a4:nS K "_law_name" (.ref f4)) (F4:AE K "_law_name" "_law_name" Vh f4 g4)
  (a5:nS K "_law_names" (.ref f5)) (F5:AE K "_law_names" "_law_names" XC f5 g5)
  (a6:nS K "_law_row" (.ref f6)) (F6:AE K "_law_row" "_law_row" aQ f6 g6)
  (a7:nS K "_law_deed" (.ref f7)) (F7:AE K "_law_deed" "_law_deed" UI f7 g7)
  (a8:nS K "_law_rule" (.ref f8)) (F8:AE K "_law_rule" "_law_rule" Ve f8 g8)
  (a9:nS K "_law_step" (.ref f9)) (F9:AE K "_law_step" "_law_step" Oc f9 g9)
  (a10:nS K "_law_good_entry" (.ref dz)) (F10:AE K "_law_good_entry" "_law_good_entry" Xm dz xZ)
  (a11:nS K "_law_done" (.ref lV)) (qL:AE K "_law_done" "_law_done" Rb lV pC)
  (qw:nS K "_law_is_name" (.ref eF)) (vI:AE K "_law_is_name" "_law_is_name" Qh eF tD)
  (vN:nS K "_law_deed_right" (.ref jV)) (F13:AE K "_law_deed_right" "_law_deed_right" UG jV vA)
  (ni:nS K "_law_gap" (.ref bQ)) (F14:AE K "_law_gap" "_law_gap" Xj bQ vk)
  (xY:nS K "_law_led" (.ref dD)) (oo:AE K "_law_led" "_law_led" Rx dD g15)
  (a16:nS K "_law_counted" (.ref fD)) (F16:AE K "_law_counted" "_law_counted" Va fD oX)
  (u3:nS K "_law_stirred" (.ref gP)) (qV:AE K "_law_stirred" "_law_stirred" VG gP pP)
  (zO:nS K "_law_begun" (.ref kS)) (F18:AE K "_law_begun" "_law_begun" Z0 kS sF)
  (yC:nS K "_law_begins" (.ref k8)) (u0:AE K "_law_begins" "_law_begins" WH k8 zi)
  (xx:nS K "_law_goes" (.ref bM)) (F20:AE K "_law_goes" "_law_goes" SM bM y3)
  (pN:nS K "_law_log" (.ref fW)) (sE:AE K "_law_log" "_law_log" Ze fW g21)
  (sC:PySem.W.findIn K (.ref A7) "__init__"=some (some (.ref Sj))) (xI:AE K "__init__" "Course.__init__" UT Sj uE)
  (ZBp:PySem.W.isFn K (.ref Sj)=true)
  (a23:PySem.W.findIn K (.ref AI) "__init__"=some (some (.ref Sz))) (qU:AE K "__init__" "Tally.__init__" aX Sz rM)
  (z4:PySem.W.isFn K (.ref Sz)=true)
  (a24:nS K "check_rule" (.ref i8)) (F24:AE K "check_rule" "check_rule" V7 i8 zm)
  (ou:nS K "begun" (.ref eJ)) (vF:AE K "begun" "begun" X1 eJ xM)
  (a26:nS K "is_name" (.ref c5)) (pG:AE K "is_name" "is_name" RV c5 g26)
  (nH:PySem.W.findIn K (.ref A7) "follows_begin"=some (some (.ref Qe))) (mD:AE K "follows_begin" "Course.follows_begin" Y0 Qe yA)
  (ZDP:PySem.W.isFn K (.ref Qe)=true)
  (sZ:PySem.W.findIn K (.ref A7) "coming"=some (some (.ref Su))) (fc:AE K "coming" "Course.coming" UQ Su yI)
  (rF:PySem.W.isFn K (.ref Su)=true)
  (nL:nS K "coming_without" (.ref j4)) (vx:AE K "coming_without" "coming_without" T4 j4 g29)
  (a30:nS K "place_of" (.ref jB)) (F30:AE K "place_of" "place_of" Wv jB rX)
  (a31:nS K "loop_telling" (.ref jO)) (nJ:AE K "loop_telling" "loop_telling" Vt jO vh)
  (zh:PySem.W.findIn K (.ref A7) "follows_tell"=some (some (.ref Ri))) (df:AE K "follows_tell" "Course.follows_tell" WT Ri g32)
  (rf:PySem.W.isFn K (.ref Ri)=true)
  (a33:PySem.W.findIn K (.ref A7) "follows_over"=some (some (.ref SV))) (fP:AE K "follows_over" "Course.follows_over" Uq SV uW)
  (sk:PySem.W.isFn K (.ref SV)=true)
  (xW:nS K "gap_behind_put" (.ref ka)) (nj:AE K "gap_behind_put" "gap_behind_put" ZS ka g34)
  (a35:nS K "gap_behind_take" (.ref lz)) (yM:AE K "gap_behind_take" "gap_behind_take" VY lz vW)
  (a36:nS K "gap_led" (.ref lG)) (F36:AE K "gap_led" "gap_led" Xy lG g36)
  (a37:nS K "joins" (.ref jr)) (F37:AE K "joins" "joins" Yb jr g37)
  (vK:nS K "coming_behind" (.ref lF)) (qh:AE K "coming_behind" "coming_behind" Ug lF p6)
  (uh:nS K "loop_led" (.ref cR)) (u5:AE K "loop_led" "loop_led" Xl cR yl)
  (yD:PySem.W.findIn K (.ref A7) "lead"=some (some (.ref Sn))) (j8:AE K "lead" "Course.lead" Vo Sn g40)
  (ZB0:PySem.W.isFn K (.ref Sn)=true)
  (rJ:nS K "check_put" (.ref lB)) (wb:AE K "check_put" "check_put" Y9 lB yS)
  (vU:nS K "check_move" (.ref fL)) (zy:AE K "check_move" "check_move" VC fL g42)
  (uS:nS K "check_turn" (.ref gr)) (F43:AE K "check_turn" "check_turn" UB gr qX)
  (a44:nS K "check_deed" (.ref kl)) (F44:AE K "check_deed" "check_deed" ZT kl yB)
  (wm:nS K "row_turned" (.ref kg)) (tN:AE K "row_turned" "row_turned" Uh kg qD)
  (a46:nS K "row_with" (.ref lT)) (uY:AE K "row_with" "row_with" YX lT qO)
  (rH:nS K "row_without" (.ref ki)) (F47:AE K "row_without" "row_without" SS ki g47)
  (yJ:nS K "done" (.ref fY)) (o9:AE K "done" "done" WU fY qJ)
  (zL:PySem.W.findIn K (.ref A7) "follows_deed"=some (some (.ref Tf))) (jz:AE K "follows_deed" "Course.follows_deed" Vi Tf oZ)
  (ZAs:PySem.W.isFn K (.ref Tf)=true)
  (x6:PySem.W.findIn K (.ref A7) "follows"=some (some (.ref Se))) (de:AE K "follows" "Course.follows" aB Se g50)
  (ZFb:PySem.W.isFn K (.ref Se)=true)
  (yt:nS K "course_of" (.ref gM)) (F51:AE K "course_of" "course_of" UY gM uM)
  (y8:nS K "first_wrong" (.ref m6)) (u6:AE K "first_wrong" "first_wrong" Yx m6 g52)
  (zc:nS K "_law_first_wrong" (.ref ee)) (pU:AE K "_law_first_wrong" "_law_first_wrong" X2 ee uz)
  (xO:nS K "_law_bent" (.ref kQ)) (F54:AE K "_law_bent" "_law_bent" Zu kQ yd)
  (c8:nS K "law" (.ref bp)) (cL:AE K "law" "law" MO bp oQ)
  (pV:nN K "all")
  (ZBL:nN K "bool")
  (pE:nN K "enumerate")
  (pW:nN K "int")
  (tU:nN K "isinstance")
  (ZA3:nN K "len")
  (uc:nN K "list")
  (yY:nN K "max")
  (tJ:nN K "min")
  (ZBV:nN K "range")
  (sT:nN K "reversed")
  (vi:nN K "sorted")
  (wO:nN K "tuple")
  (ZAw:nS K "LETTERS" (.str "abcdefghijklmnopqrstuvwxyz" Wk))
  (v5:nS K "MOST_LETTERS" (.int 8 UO))
  (y4:nS K "MOST_THINGS" (.int 40 ZH))
  (ZCf:nS K "RULES" (.ref GQ))
  {vE:Option Addr}{wL:Array (Option Value)}{uP:Nat}{ZEI ZBK uR:Tok}(ZBo:K.lookup GQ=some ⟨.type "tuple", vE,.seq #[.str "none" ZEI,.str "ahead" ZBK,.str "all" uR] uP,wL⟩)
  (rg:nS K "Full" (.ref BL))
  (oM:nS K "Gone" (.ref Au))
  (ZDh:nS K "NoLog" (.ref By))
  (zV:nS K "NoName" (.ref BA))
  (vb:nS K "NoPlace" (.ref Ay))
  (rE:nS K "NoRule" (.ref Cz))
  (zU:nS K "StirError" (.ref IB))
  (ZBn:nS K "There" (.ref BB))
  (Mn:PySem.W.specialIn K (.ref IB) "__getattribute__"=some (some (.builtin "type.__getattribute__")))
  (NG:PySem.W.readsIn K IB (.type "type")=true)
  (MF:PySem.W.findCls K (.ref IB) (.type "type") "__init__"=some (.val (.builtin "ValueError.__init__")))
  (Vk:FU K BL none=true)
  (ZH4:PySem.W.findIn K (.ref Au) "__init__"=some (some (.ref Ro))) (jM:AE K "__init__" "Gone.__init__" ZY Ro ZE1)
  (ZAQ:FU K Au (some (.ref Ro))=true)
  (ZDG:PySem.W.findIn K (.ref Au) "__setattr__"=some (some (.builtin "object.__setattr__")))
  (yG:JV K Au=true)
  (yE:PySem.W.takerIn K Au "name"=some none)
  (pb:PySem.W.hasDictIn K Au=true)
  (ZC3:PySem.W.isFn K (.ref Ro)=true)
  (xH:PySem.W.keepIn K (.ref Au)=true)
  (ZHN:PySem.W.findIn K (.ref By) "__init__"=some (some (.ref T8))) (gA:AE K "__init__" "NoLog.__init__" Xg T8 ZA2)
  (yc:FU K By (some (.ref T8))=true)
  (ZB3:PySem.W.findIn K (.ref By) "__setattr__"=some (some (.builtin "object.__setattr__")))
  (ZE7:JV K By=true)
  (qM:PySem.W.takerIn K By "number"=some none)
  (yb:PySem.W.hasDictIn K By=true)
  (wU:PySem.W.isFn K (.ref T8)=true)
  (oS:PySem.W.keepIn K (.ref By)=true)
  (ZH8:PySem.W.findIn K (.ref BA) "__init__"=some (some (.ref TF))) (cY:AE K "__init__" "NoName.__init__" XD TF xv)
  (vZ:FU K BA (some (.ref TF))=true)
  (zl:PySem.W.findIn K (.ref BA) "__setattr__"=some (some (.builtin "object.__setattr__")))
  (ZDO:JV K BA=true)
  (uZ:PySem.W.takerIn K BA "name"=some none)
  (uJ:PySem.W.hasDictIn K BA=true)
  (ZBu:PySem.W.isFn K (.ref TF)=true)
  (ZFg:PySem.W.keepIn K (.ref BA)=true)
  (ZHI:PySem.W.findIn K (.ref Ay) "__init__"=some (some (.ref TN))) (iO:AE K "__init__" "NoPlace.__init__" Yr TN ue)
  (nG:FU K Ay (some (.ref TN))=true)
  (ZBP:PySem.W.findIn K (.ref Ay) "__setattr__"=some (some (.builtin "object.__setattr__")))
  (ZBg:JV K Ay=true)
  (wZ:PySem.W.takerIn K Ay "at"=some none)
  (sO:PySem.W.hasDictIn K Ay=true)
  (qA:PySem.W.isFn K (.ref TN)=true)
  (ZDq:PySem.W.keepIn K (.ref Ay)=true)
  (ZHO:PySem.W.findIn K (.ref Cz) "__init__"=some (some (.ref Si))) (fO:AE K "__init__" "NoRule.__init__" YZ Si sJ)
  (ZEH:FU K Cz (some (.ref Si))=true)
  (ZDk:PySem.W.findIn K (.ref Cz) "__setattr__"=some (some (.builtin "object.__setattr__")))
  (yo:JV K Cz=true)
  (zF:PySem.W.takerIn K Cz "rule"=some none)
  (yN:PySem.W.hasDictIn K Cz=true)
  (ua:PySem.W.isFn K (.ref Si)=true)
  (p5:PySem.W.keepIn K (.ref Cz)=true)
  (ZGt:PySem.W.findIn K (.ref BB) "__init__"=some (some (.ref Qm))) (bq:AE K "__init__" "There.__init__" UX Qm ZF9)
  (ZFq:FU K BB (some (.ref Qm))=true)
  (qu:PySem.W.findIn K (.ref BB) "__setattr__"=some (some (.builtin "object.__setattr__")))
  (yj:JV K BB=true)
  (ZDl:PySem.W.takerIn K BB "name"=some none)
  (ZAt:PySem.W.hasDictIn K BB=true)
  (tQ:PySem.W.isFn K (.ref Qm)=true)
  (ZDT:PySem.W.keepIn K (.ref BB)=true)
  (aG:Tb K IB ⟨BA,BB,Au,Ay,BL⟩=true)
  (lx:TC K By=true)
  (ZM:PySem.W.exmOne K (.ref By) (.ref By)=some true)
  (UM:PySem.W.hasDictIn K By=true)
  (YV:PySem.W.findIn K (.ref By) "number"=some none)
  : ∃fd:FuncData,(∀(s:Shared) (v:Value),BindsTo s fd ⟨[v],[]⟩ [("script", v)])/\∀base:Heap,K.In base->base.Ns mainGlobals mg->Cj l.prog w K mg base Eg 14 fa fd ["script"] (Pu K):=by
 have e:=sQ.symm.trans (B5 X G c8);cases e;have BR:CI K A7:=⟨ZCk,ZEz,xP,pK⟩;have GU:CI K AI:=⟨ZBT,qN,ZFt,ZCO⟩;have tT:Mk K A7 Sj:=⟨ZAU,sC,ZBp,ZCo⟩;have tZ:Mk K AI Sz:=⟨pX,a23,z4,ZAy⟩;have oU:Meth K A7 "follows_begin" Qe:=⟨nH,ZDP,mD.kp⟩;have xA:Meth K A7 "coming" Su:=⟨sZ,rF,fc.kp⟩;have pI:Meth K A7 "follows_tell" Ri:=⟨zh,rf,df.kp⟩;have ZBX:Meth K A7 "follows_over" SV:=⟨a33,sk,fP.kp⟩;have ZEf:Meth K A7 "lead" Sn:=⟨yD,ZB0,j8.kp⟩;have ZAB:Meth K A7 "follows_deed" Tf:=⟨zL,ZAs,jz.kp⟩;have xg:Meth K A7 "follows" Se:=⟨x6,ZFb,de.kp⟩;have NT:=HI X G pV;have Xf:=HI X G ZBL;have MR:=HI X G pE;have Ka:=HI X G pW;have XE:=HI X G tU;have Aj:=HI X G ZA3;have C3:=HI X G uc;have WZ:=HI X G yY;have XJ:=HI X G tJ;have HR:=HI X G ZBV;have Mx:=HI X G sT;have FH:=HI X G vi;have DG:=HI X G wO;have XR:=B5 X G ZAw;have Ui:=B5 X G v5;have Um:=B5 X G y4;have NQ:=B5 X G ZCf;have N2:∀H,AU K H GQ [.str "none", .str "ahead", .str "all"]:=fun H=>.inr ⟨_,_,_,ZBo,rfl,rfl,(by show 3<=sizeLine;decide +kernel),(.cons ⟨_,rfl⟩ (.cons ⟨_,rfl⟩ (.cons ⟨_,rfl⟩ .nil)))⟩;have UU:=B5 X G wV;have Y2:=B5 X G rg;have VQ:=B5 X G oM;have MJ:=B5 X G ZDh;have Vx:=B5 X G zV;have Il:=B5 X G vb;have Xt:=B5 X G rE;have JO:=B5 X G zU;have Yf:=B5 X G ZCg;have Y6:=B5 X G ZBn;obtain⟨_,_,kV,dc,pm,an,cd,ct,_,rfl,_,_⟩:=id cL.ex;refine⟨PySem.W.fnOf "law" "law" (Nz MO) (KW MO) (Ae MO) .none kV dc pm an cd ct,fun s v=>.of_eq rfl,fun base _ _=>?_⟩;have Uk:=yR (P:=l.prog) (w:=w) (base:=base) jM (jM.binds (ps:=["self","name"]) (by walk_at "bD2")) ⟨ZAQ,ZDG,yG,yE,pb,ZC3,xH⟩ ⟨Mn,NG,MF,rfl⟩ JO
 have Zt:=xn (P:=l.prog) (w:=w) (base:=base) gA (gA.binds (ps:=["self","number"]) (by walk_at "bD2")) ⟨yc,ZB3,ZE7,qM,yb,wU,oS⟩ ⟨Mn,NG,MF,rfl⟩ JO
 have YI:=ZBy (P:=l.prog) (w:=w) (base:=base) cY (cY.binds (ps:=["self","name"]) (by walk_at "bD2")) ⟨vZ,zl,ZDO,uZ,uJ,ZBu,ZFg⟩ ⟨Mn,NG,MF,rfl⟩ JO
 have Ij:=rR (P:=l.prog) (w:=w) (base:=base) iO (iO.binds (ps:=["self","at"]) (by walk_at "bD2")) ⟨nG,ZBP,ZBg,wZ,sO,qA,ZDq⟩ ⟨Mn,NG,MF,rfl⟩ JO
 have Ww:=ZBc (P:=l.prog) (w:=w) (base:=base) fO (fO.binds (ps:=["self","rule"]) (by walk_at "bD2")) ⟨ZEH,ZDk,yo,zF,yN,ua,p5⟩ ⟨Mn,NG,MF,rfl⟩ JO
 have Uu:=pq (P:=l.prog) (w:=w) (base:=base) bq (bq.binds (ps:=["self","name"]) (by walk_at "bD2")) ⟨ZFq,qu,yj,ZDl,ZAt,tQ,ZDT⟩ ⟨Mn,NG,MF,rfl⟩ JO
 have Ly:=nI (P:=l.prog) (w:=w) (base:=base) Aj F1 (B5 X G a1);have BV:=xB (P:=l.prog) (w:=w) (base:=base) F2 (B5 X G a2);have P1:=p0 (P:=l.prog) (w:=w) (base:=base) F3 (B5 X G a3);have JH:=ZFK (P:=l.prog) (w:=w) (base:=base) Aj P1 BV F4 (B5 X G a4);have Ua:=wR (P:=l.prog) (w:=w) (base:=base) JH HR F5 (B5 X G a5);have ZJ:=ZEk (P:=l.prog) (w:=w) (base:=base) BV Ua F6 (B5 X G a6);have Vq:=zP (P:=l.prog) (w:=w) (base:=base) Aj BV JH F7 (B5 X G a7);have ZC:=ZAO (P:=l.prog) (w:=w) (base:=base) BV F8 (B5 X G a8);have X6:=uU (P:=l.prog) (w:=w) (base:=base) DG F9 (B5 X G a9);have ZW:=ZCQ (P:=l.prog) (w:=w) (base:=base) Aj BV JH Vq ZC X6 C3 FH F10 (B5 X G a10);have WN:=ZCr (P:=l.prog) (w:=w) (base:=base) C3 Mx qL (B5 X G a11);have Mm:=tm (P:=l.prog) (w:=w) (base:=base) Aj NT vI (B5 X G qw);have WQ:=pH (P:=l.prog) (w:=w) (base:=base) Aj Mm F13 (B5 X G vN);have Y8:=ZA8 (P:=l.prog) (w:=w) (base:=base) Ka F14 (B5 X G ni);have Ys:=uN (P:=l.prog) (w:=w) (base:=base) DG FH Y8 oo (B5 X G xY);have Lj:=ZAP (P:=l.prog) (w:=w) (base:=base) F16 (B5 X G a16);have Vf:=ZDI (P:=l.prog) (w:=w) (base:=base) Aj C3 Lj WQ WN Ys qV (B5 X G u3);have XM:=ZFM (P:=l.prog) (w:=w) (base:=base) DG FH F18 (B5 X G zO);have VB:=ZDm (P:=l.prog) (w:=w) (base:=base) Aj Mm XM u0 (B5 X G yC);have NV:=xr (P:=l.prog) (w:=w) (base:=base) DG Lj VB Vf F20 (B5 X G xx);have YC:=zv (P:=l.prog) (w:=w) (base:=base) Aj BV HR C3 Ka NV ZW Ly ZJ WZ XJ sE (B5 X G pN);have Yz:=yf (P:=l.prog) (w:=w) (mg:=mg) (base:=base) (A7:=A7) (AI:=AI) C3 BR Co E6 GS xI tT;have Yj:=wD (P:=l.prog) (w:=w) (mg:=mg) (base:=base) (AI:=AI) GU Mo Wy Mi NP qU tZ;have Ue:=nK (P:=l.prog) (w:=w) (base:=base) (Cz:=Cz) NQ N2 Xt Ww F24 (B5 X G a24);have WE:=nU (P:=l.prog) (w:=w) (base:=base) (Cz:=Cz) DG FH Ue vF (B5 X G ou);have MG:=xb (P:=l.prog) (w:=w) (base:=base) Aj NT XR Ui pG (B5 X G a26);have W8:=vO (P:=l.prog) (w:=w) (mg:=mg) (base:=base) (A7:=A7) (AI:=AI) Aj BR Co E6 GS NQ N2 Yj WE MG Yf mD oU;have Hn:=ZFV (P:=l.prog) (w:=w) (mg:=mg) (base:=base) (A7:=A7) BR Co fc xA;have MX:=xE (P:=l.prog) (w:=w) (base:=base) DG vx (B5 X G nL);have GL:=rG (P:=l.prog) (w:=w) (base:=base) (Au:=Au) VQ Uk F30 (B5 X G a30);have Y4:=ZDD (P:=l.prog) (w:=w) (base:=base) MX GL nJ (B5 X G a31);have Zh:=ZD2 (P:=l.prog) (w:=w) (mg:=mg) (base:=base) (A7:=A7) (AI:=AI) BR Co E6 GS GU NP Hn Y4 df pI;have Yd:=zG (P:=l.prog) (w:=w) (mg:=mg) (base:=base) (A7:=A7) (AI:=AI) Aj BR Co Hn fP ZBX;have Rg:=qB (P:=l.prog) (w:=w) (base:=base) nj (B5 X G xW);have QY:=zW (P:=l.prog) (w:=w) (base:=base) yM (B5 X G a35);have X3:=ZEd (P:=l.prog) (w:=w) (base:=base) GL Rg QY F36 (B5 X G a36);have Vw:=ZCu (P:=l.prog) (w:=w) (base:=base) F37 (B5 X G a37);have Ur:=ZAT (P:=l.prog) (w:=w) (base:=base) DG FH MX Vw qh (B5 X G vK);have V1:=ZEo (P:=l.prog) (w:=w) (base:=base) Ur X3 u5 (B5 X G uh);have Y3:=ZE6 (P:=l.prog) (w:=w) (mg:=mg) (base:=base) (A7:=A7) (AI:=AI) Aj BR Co E6 GS GU Mo Mi Hn V1 j8 ZEf;have V6:=pR (P:=l.prog) (w:=w) (base:=base) (BL:=BL) (Au:=Au) (BA:=BA) (Ay:=Ay) (BB:=BB) Aj MG Um Y2 Vk Vx YI Il Ij Y6 Uu wb (B5 X G rJ)
 have U5:=ZAv (P:=l.prog) (w:=w) (base:=base) (BL:=BL) (Au:=Au) (BA:=BA) (Ay:=Ay) (BB:=BB) Aj GL Il Ij zy (B5 X G vU);have Zb:=ZFN (P:=l.prog) (w:=w) (base:=base) (BL:=BL) (Au:=Au) (BA:=BA) (Ay:=Ay) (BB:=BB) Aj Il Ij F43 (B5 X G uS);have UH:=xR (P:=l.prog) (w:=w) (base:=base) (BL:=BL) (Au:=Au) (BA:=BA) (Ay:=Ay) (BB:=BB) GL U5 V6 Zb F44 (B5 X G a44);have VX:=ZEi (P:=l.prog) (w:=w) (base:=base) C3 Mx tN (B5 X G wm);have Qu:=ZF2 (P:=l.prog) (w:=w) (base:=base) C3 uY (B5 X G a46);have QR:=ZCZ (P:=l.prog) (w:=w) (base:=base) F47 (B5 X G rH);have Yo:=ZC0 (P:=l.prog) (w:=w) (base:=base) (BL:=BL) (Au:=Au) (BA:=BA) (Ay:=Ay) (BB:=BB) UH VX Qu QR o9 (B5 X G yJ);have Ut:=ZDv (P:=l.prog) (w:=w) (mg:=mg) (base:=base) (A7:=A7) (BL:=BL) (Au:=Au) (BA:=BA) (Ay:=Ay) (IB:=IB) (AI:=AI) (BB:=BB) C3 BR Co E6 Y3 Yo JO aG jz ZAB;have aT:=rD (P:=l.prog) (w:=w) (mg:=mg) (base:=base) (A7:=A7) (AI:=AI) BR W8 Ut Yd Zh de xg;have Zx:=xi (P:=l.prog) (w:=w) (base:=base) (A7:=A7) (By:=By) (AI:=AI) Yz aT MR UU MJ Zt F51 (B5 X G yt);have R8:=uK (P:=l.prog) (w:=w) (base:=base) (A7:=A7) (By:=By) (AI:=AI) MJ Zx lx ZM UM YV u6 (B5 X G y8);have WK:=tY (P:=l.prog) (w:=w) (base:=base) C3 NV MR pU (B5 X G zc);have Xq:=ZCX (P:=l.prog) (w:=w) (base:=base) Aj BV C3 F54 (B5 X G xO);exact ZAJ (P:=l.prog) (w:=w) (base:=base) Aj BV HR Ly Xq WK YC R8 Xf XE cL (B5 X G c8)
def walk {q:Program}{loose:List Str}{XP:(ZHR)->Heap->Prop}{YP:World->Heap->Prop}{d:DefRec}{K:Params->ZHP}(hn:l.most=some 63)(OA:d.params.defaults=[])
  (hY:∀(w:World) (h:Heap),YP w h->(K w.params).In h)
  (F:∀(w:World) (mg:ZHR) (fa:Addr) (h:Heap),(K w.params).In h->h.Ns mainGlobals mg->mg d.name=some (.ref fa)->
   ∃fd:FuncData,(∀(s:Shared) (u:Value),BindsTo s fd ⟨[u],[]⟩ [("script", u)])/\∀base:Heap,(K w.params).In base->base.Ns mainGlobals mg->Cj l.prog w (K w.params) mg base Eg 14 fa fd ["script"] (Pu (K w.params))) :
  PySem.W.WalkO q loose XP YP l.row.toRowW d [] (fun f vs=>PySem.call f vs):=
 L2.uv (n:=63) (k:=14) (x:="script") (CX:=fun _=>Eg) (sp:=fun w=>Pu (K w.params)) hn (by decide) OA ⟨rfl,by decide,by decide⟩ hY F (fun _ _ a ns hl _ hS=>⟨a,ns,rfl,hS,hl,fun _=>rfl⟩) fun _ _ _ _ _ z=>z
end Pf
open PySem.W
local macro_rules | `(tactic| walk_at "kF")=>`(tactic| (refine' L2.ZB8 ?_ ?_ ?_;all_goals try k_is;all_goals k_is))
set_option maxRecDepth 100000 in
set_option maxHeartbeats 0 in
theorem PySem.Challenge.cw_stirround_k24_logs_bent_holds : PySem.Challenge.rw_stirround_k24_logs_bent.Holds := by
 w_on;o_law;k_head;(case hw=>w_witness2)
 k_fill
 refine Pf.walk (l:=PySem.Challenge.rw_stirround_k24_logs_bent) rfl rfl (fun w h Y=>PySem.W.kIn_of Y) ?F
 case F=>
  intro w mg fa h KX G Q4;refine' Pf.all_mk KX G Q4 ?_ ?_ ?_ ?_ ?_ ?_ ?_ ?_ ?_ ?_ ?_ ?_ ?_ ?_ ?_ ?_ ?_ ?_ ?_ ?_ ?_ ?_ ?_ ?_ ?_ ?_ ?_ ?_ ?_ ?_ ?_ ?_ ?_ ?_ ?_ ?_ ?_ ?_ ?_ ?_ ?_ ?_ ?_ ?_ ?_ ?_ ?_ ?_ ?_ ?_ ?_ ?_ ?_ ?_ ?_ ?_ ?_ ?_ ?_ ?_ ?_ ?_ ?_ ?_ ?_ ?_ ?_ ?_ ?_ ?_ ?_ ?_ ?_ ?_ ?_ ?_ ?_ ?_ ?_ ?_ ?_ ?_ ?_ ?_ ?_ ?_ ?_ ?_ ?_ ?_ ?_ ?_ ?_ ?_ ?_ ?_ ?_ ?_ ?_ ?_ ?_ ?_ ?_ ?_ ?_ ?_ ?_ ?_ ?_ ?_ ?_ ?_ ?_ ?_ ?_ ?_ ?_ ?_ ?_ ?_ ?_ ?_ ?_ ?_ ?_ ?_ ?_ ?_ ?_ ?_ ?_ ?_ ?_ ?_ ?_ ?_ ?_ ?_ ?_ ?_ ?_ ?_ ?_ ?_ ?_ ?_ ?_ ?_ ?_ ?_ ?_ ?_ ?_ ?_ ?_ ?_ ?_ ?_ ?_ ?_ ?_ ?_ ?_ ?_ ?_ ?_ ?_ ?_ ?_ ?_ ?_ ?_ ?_ ?_ ?_ ?_ ?_ ?_ ?_ ?_ ?_ ?_ ?_ ?_ ?_ ?_ ?_ ?_ ?_ ?_ ?_ ?_ ?_ ?_ ?_ ?_ ?_ ?_ ?_ ?_ ?_ ?_ ?_ ?_ ?_ ?_ ?_ ?_ ?_ ?_ ?_ ?_ ?_ ?_ ?_ ?_ ?_ ?_ ?_ ?_ ?_ ?_ ?_ ?_ ?_ ?_ ?_ ?_ ?_
  any_goals first | k_is | (show _=_;k_is) | kernel_rfl | walk_at "kF"
#print axioms PySem.Challenge.cw_stirround_k24_logs_bent_holds
