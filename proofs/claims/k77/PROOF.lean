import PyProof.Rows.All
import Wide.All
import OpenK.AllK
import Wide.FinOn
import Lean
import PyProof.EqAt
import PyProof.EqKinds
import PyProof.TupleCall
import KE.KRevIter
import PyProof.CallType
import PyProof.EnumMake
import PyProof.EnumFor
import PyProof.Draws
import PyProof.Rows.CallKwBuiltin
import PyProof.StrBlockH
import KE.KIntText
import PyProof.Rows.SortStr
import PyProof.TupleIter
import PyProof.ZipIter
import PyProof.Rows.ZipGen
import PyProof.Rows.TupAdd
import KE.KLcPair
import PyProof.IsRules
import PyProof.ListRange
import PyProof.NeKinds
import KE.KTryMore
import OpenK.KOwn
import PyProof.ExcInit
import PyProof.FString
import PyProof.ReprStr
import PyProof.StrLawsRepr
import PyProof.CallStr
import OpenK.KCls
import PyProof.ExcArgsOwn
import PyProof.Rows.StrJoin2
import PyProof.FactsAll.set_2
import PyProof.MeetsSeq2
import PyProof.Rows.Range3
import PyProof.Rows.ChunkLeaf
import PyProof.DictWalks
import PyProof.ListMulRoad
import PyProof.ListCopy
import PyProof.Rows.SumAny
import PyProof.ListIndex
import PySem.Challenge.RW_stirround_k77_endings_judged
def ji:=@PySem.wpAny_bind
def jx:=@PySem.wpAny_pure
def jy:=@decide_eq_true
def k6:=@if_neg
def k9:=@of_decide_eq_true
def mZ:=@if_pos
def nZ:=@decide_eq_false
def oJ:=@PySem.wpAny_callSpecial?_slot
def oY:=@PySem.wpAny_call_entry
def p7:=@PySem.wpAny_newObj_type
def pK:=@PySem.wpAny_mono
def pN:=@or_false
def pS:=@PySem.wpAny_field
def pT:=@PySem.wpAny_truthy_bool
def q8:=@PySem.wpAny_holding
def qN:=@PySem.wpAny_Call_Name_kw
def qr:=@PySem.wpAny_seqItems
def r8:=@PySem.builtinLookup_eq_fast
def rD:=@beq_self_eq_true
def rO:=@decide_eq_true_iff
def rW:=@congrArg
def rb:=@PySem.wpAny_setField
def sD:=@PySem.isSubtype_type
def sU:=@PySem.wpAny_setField_rec
def sX:=@PySem.wpAny_passesOwn
def t7:=@PySem.wpAny_setState_of
def uF:=@PySem.call_meets
def uX:=@PySem.wpAny_setEntries_of
def vT:=@PySem.wpAny_isInstance
def ve:=@PySem.wpAny_askSetting
def vh:=@PySem.wpAny_typeOf
def vy:=@PySem.wpAny_updateSeq
def xE:=@PySem.typeLookup_type
def xQ:=@PySem.codeAny_builtin
def xS:=@PySem.wpAny_pyIter_list
def yB:=@PySem.wpAny_of_eq
def yU:=@PySem.lookup_relabel_local
def yi:=@PySem.wpAny_attempt
def yu:=@PySem.plainId_quiet
def z9:=@PySem.wpAny_specialOf
def zG:=@PySem.wpAny_rule
def zU:=@PySem.tupleKind_room_in1
def ZA4:=@PySem.codeAny_mono
def ZA6:=@PySem.wpAny_updateSeq_pair
def ZA7:=@PySem.codeAny_extend_loopS
def ZAB:=@PySem.wpAny_ite_split
def ZAD:=@PySem.wpAny_execs_nil
def ZAK:=@PySem.wpAny_fieldsOf
def ZAP:=@PySem.wpAny_pyIter_tuple
def ZAT:=@if_true
def ZAa:=@PySem.wpAny_letGo
def ZAe:=@PySem.fits_of_scanBound
def ZAg:=@PySem.wpAny_onRaise
def ZAk:=@PySem.noFill_tuple_add
def ZAm:=@PySem.wpAny_ite_false
def ZAr:=@PySem.isSubtype_stop
def ZB1:=@if_false
def ZB3:=@not_or
def AA:=@List.length_map
def AX:=@List.getElem?_eq_getElem
def Aa:=@List.not_mem_nil
def Ac:=@List.getElem?_map
def Ai:=@Nat.le_refl
def B2:=@List.length_append
def B9:=@PySem.Heap.lt_size
def BG:=@PySem.W.mg_of
def BL:=@List.map_cons
def BQ:=@PySem.Heap.get?_push_of_some
def Ba:=@PySem.Heap.get?_push_size
def Bc:=@Option.some.inj
def Bd:=@List.size_toArray
def Be:=@List.map_append
def Bf:=@Nat.ne_of_lt
def Bs:=@Ne.symm
def By:=@List.length_cons
def C7:=@List.mem_of_getElem?
def CL:=@List.mem_cons
def CM:=@Nat.zero_le
def CU:=@List.map_map
def Cd:=@List.append_assoc
def Co:=@PySem.PassesOwn.never
def Cr:=@Bool.false_ne_true
def Cs:=@List.nodup_append
def D1:=@Nat.le_trans
def DK:=@List.getElem?_append_left
def DL:=@List.getElem?_set_ne
def DM:=@List.length_take
def Df:=@List.append_nil
def Dr:=@PySem.Heap.size_push
def Ds:=@List.getElem?_set_self
def E9:=@Nat.lt_of_lt_of_le
def ES:=@List.getElem_of_mem
def Ei:=@Bool.and_eq_true
def Ej:=@List.getElem?_append_right
def Ek:=@List.mem_cons_of_mem
def FF:=@PySem.W.mg_none_of
def FQ:=@List.take_length
def Fs:=@List.getElem_mem
def Ft:=@List.mem_cons_self
def Fu:=@Nat.le_succ
def GR:=@PySem.Heap.get?_update_self
def GS:=@List.length_singleton
def HE:=@Array.length_toList
def HF:=@Int.toNat_natCast
def HG:=@List.lookup_cons
def HH:=@List.nodup_nil
def HI:=@PySem.F.plainAttrs_list
def Hq:=@PySem.Heap.get?_update_other
def Hr:=@List.all_eq_true
def Hs:=@List.getElem_idxOf
def Ht:=@List.map_nil
def Hu:=@List.mem_append_right
def Hv:=@PySem.W.kia_one
def J3:=@List.nil_append
def J4:=@Nat.ne_of_gt
def J5:=@PySem.Obj.data_mapFields
def Jm:=@Int.emod_nonneg
def Jn:=@Int.eq_ofNat_of_zero_le
def Jo:=@List.getD_eq_getElem?_getD
def Jp:=@List.getElem_map
def Jq:=@List.replicate_succ
def Jr:=@List.zip_cons_cons
def Js:=@Nat.lt_succ_of_lt
def LI:=@Int.emod_lt_of_pos
def LJ:=@List.getElem_take
def LK:=@List.length_range
def LL:=@List.length_set
def LM:=@Nat.lt_irrefl
def LN:=@Nat.lt_succ_self
def LO:=@PySem.mem_of_lookup
def Mf:=@PySem.Heap.SameBut.update
def Mg:=@List.any_cons
def Mh:=@List.flatten_cons
def Mi:=@List.mem_append_left
def Mj:=@PyProof.Rows.callWith_type1
def Ow:=@Bool.eq_iff_iff
def Ox:=@List.find?_cons
def Oy:=@List.foldl_cons
def Oz:=@List.getElem?_eq_none
def P0:=@List.getElem?_range
def P1:=@List.take_of_length_le
def P2:=@List.take_succ_eq_append_getElem
def P4:=@Nat.le_of_lt
def S9:=@PySem.Around.under_plainId
def SA:=@Array.getElem?_eq_getElem
def SD:=@Array.getElem?_toList
def SE:=@Bool.and_false
def SF:=@List.Perm.refl
def SG:=@List.all_cons
def SH:=@List.ext_getElem
def SI:=@List.forIn_nil
def SJ:=@List.length_drop
def SK:=@List.length_filter_le
def SM:=@List.length_zip
def SN:=@List.map_congr_left
def SO:=@List.mem_append
def SQ:=@List.set_cons_succ
def SR:=@Nat.succ.inj
def SS:=@PySem.Obj.isFreed_of_fields
def SU:=@Option.map_some
def SV:=@PySem.F.slot_list_append
def SW:=@PySem.F.type_list_append
def YK:=@Bool.false_or
def YL:=@PySem.F.slot_tuple_iterator_next
def YM:=@PySem.F.slot_zip_next
def YN:=@Int.lt_of_le_of_lt
def YO:=@List.drop_zero
def YQ:=@List.filter_append
def YR:=@List.forIn_cons
def YS:=@List.getElem_range
def YT:=@List.length_nil
def YU:=@List.length_pos_of_mem
def YV:=@List.map_take
def YW:=@List.mem_of_mem_take
def YX:=@List.of_mem_zip
def YY:=@List.reverse_cons
def YZ:=@List.set_cons_zero
def Ya:=@List.set_set
def Yb:=@List.take_zero
def Yc:=@Nat.le_add_right
def Yd:=@Nat.lt_of_le_of_lt
def Ye:=@Nat.min_eq_left
def Yf:=@Nat.sub_zero
def Yg:=@PySem.Obj.cls_mapFields
def Yh:=@Option.isSome_map
def Yi:=@PyProof.Rows.slot_tuple_getitem
def j3:=@PySem.Around.in1_handled
def j4:=@Array.getElem?_eq_none
def j5:=@Bool.and_true
def j6:=@Bool.true_and
def j7:=@Bool.true_or
def j8:=@Classical.choose_spec
def j9:=@PySem.F.args_tuple_mul_2
def jA:=@PySem.F.entry_tuple_mul
def jB:=@PySem.F.slot_tuple_mul
def jC:=@List.all_map
def jD:=@List.cons_append
def jE:=@List.ext_getElem?
def jF:=@List.filterMap_cons
def jG:=@List.filter_map
def jH:=@List.getElem?_replicate
def jI:=@List.length_erase_of_mem
def jJ:=@List.map_drop
def jK:=@List.mem_singleton
def jL:=@List.zipWith_cons_cons
def jM:=@Nat.add_comm
def jN:=@Nat.le_of_eq
def jO:=@Nat.le_succ_of_le
def jP:=@Nat.le_total
def jQ:=@Nat.min_eq_right
def jR:=@Nat.min_self
def jS:=@PySem.Paired.length
def jT:=@PyProof.Rows.F.plain_set_update_loop
def jU:=@PySem.F.args_tuple_add_2
def jV:=@PySem.F.entry_tuple_add
def jW:=@PySem.F.slot_list_index
def jX:=@PySem.F.slot_tuple_add
def jY:=@PySem.W.callWith_K
def jZ:=@PySem.W.plainGet_of
def ZCb:=@Array.toList_push
def ZCc:=@PySem.Calls.Name_function_global
def ZCd:=@PySem.Calls.callWith_builtin
def ZCe:=@PySem.F.args_tuple_iterator_next_1
def ZCf:=@PySem.F.entry_tuple_iterator_next
def ZCg:=@List.Nodup.mem_erase_iff
def ZCh:=@List.Pairwise.map
def ZCi:=@List.any_eq_false
def ZCj:=@List.dropLast_concat_getLast
def ZCk:=@List.dropLast_eq_take
def ZCl:=@List.eq_nil_of_length_eq_zero
def ZCm:=@List.eraseIdxIfInBounds_toArray
def ZCn:=@List.eraseIdx_cons_succ
def ZCo:=@List.filter_congr
def ZCp:=@List.filter_cons
def ZCq:=@List.getElem?_cons_succ
def ZCr:=@List.getElem?_drop
def ZCs:=@List.getElem?_take
def ZCt:=@List.getElem?_toArray
def ZCu:=@List.getElem?_zip_eq_some
def ZCv:=@List.getElem_inj
def ZCw:=@List.length_eraseIdx_of_lt
def ZCx:=@List.length_replicate
def ZCy:=@List.length_reverse
def ZCz:=@List.length_zipWith
def ZD0:=@List.mem_erase_of_ne
def ZD1:=@List.mem_of_mem_drop
def ZD2:=@List.take_sublist
def ZD3:=@List.zipIdx_cons
def ZD4:=@Nat.min_le_right
def ZD5:=@Nat.not_lt_of_le
def ZD6:=@Option.getD_none
def ZD7:=@Option.getD_some
def ZD8:=@Option.isSome_some
def ZD9:=@PyProof.Rows.F.entry_set_update_loop
def ZDA:=@PySem.F.plain_extend_loop
def ZDB:=@PySem.F.plain_set_new
def ZDC:=@PySem.F.slot_list_insert
def ZDD:=@PySem.F.slot_list_remove
def ZDE:=@PySem.F.type_list_index
def ZDF:=@PySem.W.cellsFrom_some
def ZDG:=@PySem.W.kitx_dict
def ZDH:=@PySem.W.kitx_list
def ZDI:=@PySem.W.methodCall_KW
def ZDJ:=@PySem.seqSlot_of
def ZDK:=@PySem.strKind_is
def ZDL:=@PySem.SeqAt.RcNeAt.lists_lengths
open PySem PySem.Spec PyProof.Rows
abbrev ZE6:=PySem.W.Frag
abbrev ZE7:=(List (Addr×Obj))
abbrev ZE8:=(Str->Option Value)
namespace PySem.W.Fast
noncomputable def tw16593918266027052510:=0
noncomputable def tw15929177461804532847:=0
noncomputable def tw4581744606468495200:=0
noncomputable def tw17131453593633380842:=0
noncomputable def tw8693640474080205361:=0
noncomputable def tw12537165824342463110:=0
noncomputable def tw4061213996340428582:=0
noncomputable def tw579049063214320644:=0
noncomputable def tw4475245457013302561:=0
noncomputable def tw11464102132847885796:=0
noncomputable def tw10332750265117165615:=0
noncomputable def tw825612656764409345:=0
noncomputable def tw16278103666476386403:=0
noncomputable def tw17913175384504454248:=0
noncomputable def tw17201253437220608972:=0
noncomputable def tw4652389288808726859:=0
noncomputable def tw7712306376857504434:=0
noncomputable def tw12702811622238480703:=0
noncomputable def tw6840717023767759367:=0
noncomputable def tw12746107820075825439:=0
noncomputable def tw6847875434634203940:=0
noncomputable def tw11922812058408406494:=0
noncomputable def tw15720041243457847694:=0
noncomputable def tw3773795638886770257:=0
noncomputable def tw1234064269334192012:=0
noncomputable def tw11227041813988156444:=0
noncomputable def tw2171750573759959912:=0
noncomputable def tw11817595955216227395:=0
noncomputable def tw13932981875675935652:=0
noncomputable def tw5863589433044888691:=0
noncomputable def tw17644354927891038580:=0
noncomputable def tw8622048522953693047:=0
noncomputable def tw15781900160295256296:=0
noncomputable def tw12429065666468034723:=0
noncomputable def tw10565436821849919768:=0
noncomputable def tw14119025566739207135:=0
noncomputable def tw3162529259270396929:=0
noncomputable def tw5317891656622493722:=0
noncomputable def tw10272456428061926816:=0
noncomputable def tw2165230776593363146:=0
noncomputable def tw4907628729404820237:=0
noncomputable def tw1149468344744915719:=0
noncomputable def tw9289955084438535573:=0
noncomputable def tw5457945848836789063:=0
noncomputable def tw12841797443828877829:=0
noncomputable def tw18259554033354033063:=0
noncomputable def tw15636187259533875516:=0
noncomputable def tw16114942416039690422:=0
noncomputable def tw292115431116893273:=0
noncomputable def tw12336507913996263662:=0
noncomputable def tw16153101127886539058:=0
noncomputable def tw18392819175573815252:=0
noncomputable def tw4859111937014160602:=0
noncomputable def tw14446291356659322069:=0
noncomputable def tw3474912026830753216:=0
noncomputable def tw12930856729948389178:=0
noncomputable def tw2428593027703318221:=0
noncomputable def tw12546251541203136730:=0
noncomputable def tw10476320963933540078:=0
noncomputable def tw17086929578321279279:=0
noncomputable def tw5067183290575922800:=0
noncomputable def tw9357166538199447642:=0
noncomputable def tw17434023176259068589:=0
noncomputable def tw10741040136688773531:=0
noncomputable def tw4536050154418118949:=0
noncomputable def tw483679846391074250:=0
noncomputable def tw8913679627751663938:=0
noncomputable def tw15260651174293943025:=0
noncomputable def tw13237405141192735076:=0
noncomputable def tw15486740023698544251:=0
noncomputable def tw3141359048284339182:=0
noncomputable def tw6423943050293648506:=0
noncomputable def tw15139169679675540843:=0
noncomputable def tw13219922171465578749:=0
noncomputable def tw16815967589551996231:=0
noncomputable def tw14334109836665185617:=0
noncomputable def tw13715184690614451226:=0
noncomputable def tw4279530253495447602:=0
noncomputable def tw11089783357101082885:=0
noncomputable def tw13449645035552499588:=0
noncomputable def tw5216567013613316026:=0
noncomputable def tw16916224178324367567:=0
noncomputable def tw12789501766563921240:=0
noncomputable def tw7164319730845121152:=0
noncomputable def tw12526852638245432720:=0
noncomputable def tw16258595487168144879:=0
noncomputable def tw4326619617063805126:=0
noncomputable def tw5275607553284237571:=0
noncomputable def tw15699974648419999442:=0
noncomputable def tw11399765428720232072:=0
noncomputable def tw2126717603726440857:=0
noncomputable def tw3065330875086098339:=0
noncomputable def tw16466616604950689736:=0
noncomputable def tw2363515693275515023:=0
noncomputable def tw7634655415691608564:=0
noncomputable def tw4498034165451806854:=0
noncomputable def tw7184351588311610675:=0
noncomputable def tw11137982412945994882:=0
noncomputable def tw7555069637304219635:=0
noncomputable def tw10853405198839032778:=0
noncomputable def tw16272006599644427170:=0
noncomputable def tw1811729339998345057:=0
noncomputable def tw1437823246973420151:=0
noncomputable def tw6406050582062239795:=0
noncomputable def tw8354559052211372953:=0
noncomputable def tw12774659840640006731:=0
noncomputable def tw1073701715369838251:=0
noncomputable def tw12360932901705693404:=0
noncomputable def tw906533876770128178:=0
noncomputable def tw9550004388457781892:=0
noncomputable def tw10914986152005527872:=0
noncomputable def tw9924660311159606444:=0
noncomputable def tw16722471951072201476:=0
noncomputable def tw11593786800420718127:=0
noncomputable def tw548860138836023116:=0
noncomputable def tw12132755577215302675:=0
noncomputable def tw9323855437316513026:=0
noncomputable def tw3496228901533499839:=0
noncomputable def tw3052066872924575016:=0
noncomputable def tw13689355250394566011:=0
noncomputable def tw17647637293713734094:=0
noncomputable def tw257581430285189464:=0
noncomputable def tw15751815591919981551:=0
noncomputable def tw12794848614441833682:=0
noncomputable def tw9694869537405825309:=0
noncomputable def tw15981973571320250331:=0
noncomputable def tw13189168065594548606:=0
noncomputable def tw5155132428614186894:=0
noncomputable def tw14619899252566644720:=0
noncomputable def tw6398878720466630864:=0
noncomputable def tw1825544268411910234:=0
noncomputable def tw6032102189740463099:=0
noncomputable def tw6198256600494808447:=0
noncomputable def tw1030056124963182787:=0
noncomputable def tw3502720079647951275:=0
noncomputable def tw10196520018199525041:=0
noncomputable def tw8636138257766318642:=0
noncomputable def tw10504298224743382744:=0
noncomputable def tw16121819880487787202:=0
noncomputable def tw9544510907155624771:=0
noncomputable def tw7186527030656953046:=0
noncomputable def tw12227493944992096868:=0
noncomputable def tw17177592022349044989:=0
noncomputable def tw11701017068872655732:=0
noncomputable def tw4982232130076829723:=0
noncomputable def tw14570124410452439039:=0
end PySem.W.Fast
set_option bootstrap.genMatcherCode false
set_option Elab.async false
set_option linter.all false
set_option maxRecDepth 100000
namespace L2
variable {α κ:Type}{C a b dx it:Addr}{c cd u:Value}{w:World}{base h h':Heap}{m name qual x:Str}{e tg:Expr}{gp pins:ZE7}{s s':Shared}{g':Array GenState}{i j n t' tk:Nat}{d':Drawn}{ch fp:List Addr}{N ks ns ps:List Str}{M:Model}{A:Around}{E Q:Value->Shared->Prop}{Ka ZE1 pos:Pos}{op:CmpOp}{es rest:List Expr}{f:Value->Value->Sem Value}{pl:Sem Bool}{ds us:List Value}{mA mg:ZE8}{prog:Program}{kw:List (Str×Value)}{fd:FuncData}{outer:List Env}{sc scope:Scope}
abbrev Key:=Sum Int Str
noncomputable def KS:Key->Value->Bool
 | .inl k,v=>Value.isInt k v
 | .inr x,v=>Value.isStrOf x v
noncomputable def kW (w:World):Key->Int
 | .inl k=>hashInt k
 | .inr x=>hashStr w x
def HM:∀ {k:Key}{v:Value},KS k v=true->(∃ i t,k=Sum.inl i/\v=Value.int i t)∨(∃ x t,k=Sum.inr x/\v=Value.str x t)
 | .inl i,v,h=>by
  obtain ⟨t,e⟩:=Value.isInt_shape (k:=i) (v:=v) h;exact .inl ⟨i,t,rfl,e⟩
 | .inr x,v,h=>by
  obtain ⟨t,e⟩:=Value.isStrOf_shape (x:=x) (v:=v) h;exact .inr ⟨x,t,rfl,e⟩
def ZAo (i:Int)(t:Tok):KS (.inl i) (.int i t)=true:=by simp [KS,Value.isInt]
def ZAl (x:Str)(t:Tok):KS (.inr x) (.str x t)=true:=by simp [KS,Value.isStrOf]
def lP (a b:Int):decide ((Sum.inl a:Key)=Sum.inl b)=(a == b):=by
 by_cases e:a=b
 ·subst e;simp
 ·have h:¬ (Sum.inl a:Key)=Sum.inl b:=fun q=>e (Sum.inl.inj q);rw [nZ h];exact (beq_eq_false_iff_ne.mpr e).symm
def wF (a b:Str):decide ((Sum.inr a:Key)=Sum.inr b)=decide (a=b):=by
 by_cases e:a=b
 ·subst e;simp
 ·have h:¬ (Sum.inr a:Key)=Sum.inr b:=fun q=>e (Sum.inr.inj q);rw [nZ h,nZ e]
def ZAE (a:Int)(b:Str):decide ((Sum.inl a:Key)=Sum.inr b)=false:=nZ (fun q=>nomatch q)
def mf (a:Str)(b:Int):decide ((Sum.inr a:Key)=Sum.inl b)=false:=nZ (fun q=>nomatch q)
noncomputable def DF (prog:Program)(w:World):PySem.KeyKind prog w Key where
 is:=KS
 hash:=kW w
 inj:=fun v a b ha hb=>by
  rcases HM ha with ⟨i,t,rfl,rfl⟩ | ⟨x,t,rfl,rfl⟩
  ·rcases HM hb with ⟨j,u,rfl,e⟩ | ⟨y,u,rfl,e⟩
   ·injection e with e1 _;rw [e1]
   ·exact nomatch e
  ·rcases HM hb with ⟨j,u,rfl,e⟩ | ⟨y,u,rfl,e⟩
   ·exact nomatch e
   ·injection e with e1 _;rw [e1]
 byValue:=fun k v h=>by
  rcases HM h with ⟨i,t,rfl,rfl⟩ | ⟨x,t,rfl,rfl⟩ <;> rfl
 pyHash:=fun hv h=>by
  rcases HM hv with ⟨i,t,rfl,rfl⟩ | ⟨x,t,rfl,rfl⟩
  ·exact wpAny_pyHash_int h
  ·exact wpAny_pyHash_str h
 eqBool:=fun hu hv h=>by
  rcases HM hu with ⟨i,t,rfl,rfl⟩ | ⟨x,t,rfl,rfl⟩
  ·rcases HM hv with ⟨j,u,rfl,rfl⟩ | ⟨y,u,rfl,rfl⟩
   ·rw [lP] at h;exact wpAny_eqBool_int h
   ·rw [ZAE] at h;exact SeqAt.EqAt.int_str i t y u _ _ _ _ h
  ·rcases HM hv with ⟨j,u,rfl,rfl⟩ | ⟨y,u,rfl,rfl⟩
   ·rw [mf] at h;exact SeqAt.EqAt.str_int x t j u _ _ _ _ h
   ·rw [wF] at h;exact wpAny_eqBool_str h
 «strs»:=fun k x t v h=>by
  rcases HM h with ⟨i,u,rfl,e⟩ | ⟨y,u,rfl,e⟩
  ·exact nomatch e
  ·injection e with e1 _
   subst e1;cases v <;> rfl
def ZCH (prog:Program)(w:World)(i:Int)(t:Tok):(DF prog w).is (.inl i) (.int i t)=true:=ZAo i t
def xB (prog:Program)(w:World)(x:Str)(t:Tok):(DF prog w).is (.inr x) (.str x t)=true:=ZAl x t
inductive V where
 | AB | bl (b:Bool) | int (i:Int) | str (x:Str) | G2 (b:Array UInt8) | JL (b:UInt64) | ref (a:Addr) | ty (n:String)
 deriving DecidableEq
variable {v y:V}{DI vs:List V}
def RelV:V->Value->Prop
 | .AB,u=>u=Value.none
 | .bl b,u=>u=Value.bool b
 | .int i,u=>∃ t,u=Value.int i t
 | .str x,u=>∃ t,u=Value.str x t
 | .G2 b,u=>∃ t,u=Value.bytes b t
 | .JL b,u=>∃ t,u=Value.float b t
 | .ref a,u=>u=Value.ref a
 | .ty n,u=>u=Value.type n
abbrev Vals:List V->List Value->Prop:=Paired RelV
theorem Vals.length {xs:List V}{us:List Value}(r:Vals xs us):xs.length=us.length:=jS r
theorem Vals.get:∀ {xs:List V}{us:List Value}{i:Nat}{x:V},Vals xs us->xs[i]?=some x->∃ u,us[i]?=some u/\RelV x u
 | _,_,_,_,.nil,e=>by simp at e
 | _,_,0,_,.cons r _,e=>by simp at e;subst e;exact ⟨_,rfl,r⟩
 | _,_,i+1,x,.cons _ t,e=>by
  obtain ⟨u,h1,h2⟩:=Vals.get (i:=i) (x:=x) t (by simpa using e)
  exact ⟨u,by simpa using h1,h2⟩
theorem Vals.set {x:V}{u:Value}(r:RelV x u):∀ {xs:List V}{us:List Value}(i:Nat),Vals xs us->Vals (xs.set i x) (us.set i u)
 | _,_,_,.nil=>.nil
 | _,_,0,.cons _ t=>.cons r t
 | _,_,i+1,.cons q t=>.cons q (Vals.set r i t)
theorem Vals.append:∀ {xs ys:List V}{us ws:List Value},Vals xs us->Vals ys ws->Vals (xs++ys) (us++ws)
 | _,_,_,_,.nil,s=>s
 | _,_,_,_,.cons r t,s=>.cons r (Vals.append t s)
theorem Vals.take:∀ {xs:List V}{us:List Value}(n:Nat),Vals xs us->Vals (xs.take n) (us.take n)
 | _,_,0,_=>.nil
 | _,_,_+1,.nil=>.nil
 | _,_,n+1,.cons r t=>.cons r (Vals.take n t)
theorem Vals.drop:∀ {xs:List V}{us:List Value}(n:Nat),Vals xs us->Vals (xs.drop n) (us.drop n)
 | _,_,0,r=>r
 | _,_,_+1,.nil=>.nil
 | _,_,n+1,.cons _ t=>Vals.drop n t
def Ec:Option V->Option Value->Prop
 | some v,some u=>RelV v u
 | none,none=>True
 | _,_=>False
def KV:List (κ×V)->List (κ×Value)->Prop:=Paired fun (p:κ×V) (q:κ×Value)=>p.1=q.1/\RelV p.2 q.2
noncomputable def kV:Key->V
 | .inl i=>.int i
 | .inr x=>.str x
inductive HO where
 /-- a list -/
 | lst (xs:List V)
 /-- a tuple (never changes) -/
 | tup (xs:List V)
 /-- a dict ZAp keys are ints and texts;one ZAp keys are tuples of ints and texts (Gx empty one is both) -/
 | dK (A8:List (Key×V)) | dT (A8:List (List Key×V))
 /-- a set of ints: A3 members,A3 size -/
 | set (S:Int->Bool) (n:Nat)
 /-- an instance of Gx class at C,A3 dict at dx,A3 attributes -/
 | ins (C dx:Addr) (fs:List (Str×V))
 /-- Gx dict of Gx instance at x -/
 | own (x:Addr)
 /-- Gx dict of an exception -/
 | xd (fs:List (Str×V))
 /-- a bound method,f of x -/
 | met (f x:Addr)
 /-- a range object lo,lo+1,.. below hi -/
 | Ur (lo hi:Int)
 /-- a mh ZDw is known to Gx object (Gx fQ;a dict while a loop walks it): read,never written while it is so -/
 | FK (o:Obj) (u:HO)
 /-- a code ZDn table -/
 | K5 (ps:Array Value)
 /-- any other mh,by zJ is true of A3 one object (a def of ZDu own: uJ a S n:=HO.ext fun h=>..) -/
 | ext (φ:Heap->Prop)
variable {o o':HO}
abbrev Hp:=Addr->Option HO
variable {H H':Hp}
noncomputable def upd (H:Hp)(a:Addr)(o:HO):Hp:=fun b=>if b=a then some o else H b
def B0:upd H a o a=some o:=by unfold upd;rw [mZ rfl]
def An (h:b≠a):upd H a o b=H b:=by unfold upd;rw [k6 h]
def ZBS {u:HO}(h:H a=some o)(h':H b=some u)(d:o≠u):a≠b:=by
 intro e;subst e;rw [h] at h';exact d (Bc h')
def Dj (h:H a=some o)(h':H b=none):a≠b:=by
 intro e;subst e;rw [h] at h';cases h'
section
variable (P:Program)(w:World)
def CI (H:Hp)(h:Heap)(a:Addr):HO->Prop
 | .lst xs=>xs.length<=sizeLine/\∃ (A3:List Value) (n:Nat),Vals xs A3/\h.get? a=some { cls:=.type "list", data:=.seq A3.toArray n }
 | .tup xs=>xs.length<=sizeLine/\∃ A3:List Value,Vals xs A3/\(IsTup h a A3.toArray/\∀ ob,h.get? a=some ob->ob.dict=none)
 | .dK A8=>A8.length<=sizeLine/\(a == sysModules)=false/\∃ vs,KV A8 vs/\h.DictOf (DF P w) a vs
 | .dT A8=>A8.length<=sizeLine/\(a == sysModules)=false/\∃ xs:List (List Key×Addr×Value),
   Paired (fun (p:List Key×V) (q:List Key×Addr×Value)=>p.1=q.1/\H q.2.1=some (.tup (p.1.map kV))/\RelV p.2 q.2.2) A8 xs/\
   ∃ o es ep,h.get? a=some o/\o.ExactDict/\o.data=.dict es ep/\es.toList=xs.map (entryOfKey (tupleKind (DF P w)))/\(xs.map (·.1)).Nodup
 | .set S n=>h.SetOf (intKind P w) a S n
 | .ins C dx fs=>H dx=some (.own a)/\fs.length<=1000/\dx≠a/\h.get? a=some (PySem.W.instObj C dx)/\
   ∃ mA,h.Ns1 dx mA/\(∀ f,Ec (fs.lookup f) (mA f))/\PySem.Within mA (fs.map (·.1))
 | .own _=>∃ o,h.get? a=some o
 | .xd fs=>∃ mA,h.Ns1 a mA/\∀ f,Ec (fs.lookup f) (mA f)
 | .Ur lo hi=>∃ t u v,h.get? a=some { cls:=.type "range", data:=.fields #[.int lo t,.int hi u,.int 1 v] }
 | .FK o u=>h.get? a=some o/\CI H h a u
 | .K5 ps=>h.get? a=some { cls:=.none,data:=.fields ps }
 | .met f x=>h.get? a=some (PySem.W.methodObj (.ref f) (.ref x))
 | .ext φ=>φ h/\(∃ o,h.get? a=some o)/\∀ h1 h2:Heap,φ h1->(∀ o,h1.get? a=some o->h2.get? a=some o)->φ h2
def CF (H:Hp)(h:Heap):Prop:=∀ a o,H a=some o->CI P w H h a o
end
section
variable {P:Program}
theorem CI.lt (x:CI P w H h a o):a<h.objs.size:=by
 cases o with
 | lst xs=>obtain ⟨_,_,_,_,e⟩:=x;exact B9 e
 | tup xs=>obtain ⟨_,_,_,p⟩:=x;exact p.1.lt
 | dK A8=>obtain ⟨_,_,_,_,o,_,_,e,_⟩:=x;exact B9 e
 | dT A8=>obtain ⟨_,_,_,_,o,_,_,e,_⟩:=x;exact B9 e
 | set S n=>obtain ⟨o,_,_,_,e,_⟩:=x;exact B9 e
 | ins C dx fs=>obtain ⟨_,_,_,e,_⟩:=x;exact B9 e
 | own y=>obtain ⟨_,e⟩:=x;exact B9 e
 | xd fs=>obtain ⟨_,⟨_,_,_,e,_⟩,_⟩:=x;exact B9 e
 | Ur lo hi=>obtain ⟨_,_,_,e⟩:=x;exact B9 e
 | FK ob u=>obtain ⟨e,_⟩:=x;exact B9 e
 | K5 ps=>exact B9 (show h.get? a=some _ from x)
 | met f y=>exact B9 (show h.get? a=some _ from x)
 | ext φ=>obtain ⟨_,⟨_,e⟩,_⟩:=x;exact B9 e
theorem Paired.WE {α β:Type}{F G:α->β->Prop}:∀ {l₁:List α}{l₂:List β},Paired F l₁ l₂->(∀ a b,F a b->G a b)->Paired G l₁ l₂
 | _,_,.nil,_=>.nil
 | _,_,.cons r t,f=>.cons (f _ _ r) (Paired.WE t f)
def CI.Hz (x:CI P w H h a o)(k:∀ b u,(b=a∨H b=some (.own a))->h.get? b=some u->h'.get? b=some u)
  (ho:∀ b,H b=some (.own a)->H' b=some (.own a)) (ht:∀ b xs,H b=some (.tup xs)->H' b=some (.tup xs)):CI P w H' h' a o:=by
 induction o with
 | lst xs=>obtain ⟨z,A3,n,r,e⟩:=x;exact ⟨z,A3,n,r,k _ _ (.inl rfl) e⟩
 | tup xs=>obtain ⟨z,A3,r,⟨ob,e,c⟩,dn⟩:=x;exact ⟨z,A3,r,⟨ob,k _ _ (.inl rfl) e,c⟩,fun Nb e'=>by rw [k _ _ (.inl rfl) e] at e';cases e';exact dn _ e⟩
 | dK A8=>obtain ⟨z,y,vs,r,ob,es,ep,e,c⟩:=x;exact ⟨z,y,vs,r,ob,es,ep,k _ _ (.inl rfl) e,c⟩
 | dT A8=>
  obtain ⟨z,y,xs,r,ob,es,ep,e,c⟩:=x;exact ⟨z,y,xs,Paired.WE r fun p q z=>⟨z.1,ht _ _ z.2.1,z.2.2⟩,ob,es,ep,k _ _ (.inl rfl) e,c⟩
 | set S n=>obtain ⟨ob,es,ep,t,e,c⟩:=x;exact ⟨ob,es,ep,t,k _ _ (.inl rfl) e,c⟩
 | ins C dx fs=>
  obtain ⟨d,z,ne,e,mA,⟨od,es,ep,e2,c⟩,r⟩:=x;exact ⟨ho _ d,z,ne,k _ _ (.inl rfl) e,mA,⟨od,es,ep,k _ _ (.inr d) e2,c⟩,r⟩
 | own y=>obtain ⟨ob,e⟩:=x;exact ⟨ob,k _ _ (.inl rfl) e⟩
 | xd fs=>obtain ⟨mA,⟨od,es,ep,e,c⟩,r⟩:=x;exact ⟨mA,⟨od,es,ep,k _ _ (.inl rfl) e,c⟩,r⟩
 | Ur lo hi=>obtain ⟨t,u,v,e⟩:=x;exact ⟨t,u,v,k _ _ (.inl rfl) e⟩
 | FK ob u ih=>obtain ⟨e,q⟩:=x;exact ⟨k _ _ (.inl rfl) e,ih q⟩
 | K5 ps=>
  have e:h.get? a=some { cls:=.none,data:=.fields ps }:=x;show h'.get? a=some { cls:=.none,data:=.fields ps };exact k a _ (.inl rfl) e
 | met f y=>
  have e:h.get? a=some (PySem.W.methodObj (.ref f) (.ref y)):=x;show h'.get? a=some (PySem.W.methodObj (.ref f) (.ref y));exact k a _ (.inl rfl) e
 | ext φ=>obtain ⟨p,⟨o,e⟩,st⟩:=x;exact ⟨st _ _ p fun o q=>k _ _ (.inl rfl) q,⟨o,k _ _ (.inl rfl) e⟩,st⟩
theorem CF.lt (x:CF P w H h)(e:H a=some o):a<h.objs.size:=(x a o e).lt
def CF.fresh (x:CF P w H h)(e:h.objs.size<=a):H a=none:=by
 cases q:H a with
 | none=>rfl
 | some u=>exact absurd (E9 (x.lt q) e) (LM _)
def CF.kept (x:CF P w H h)(k:∀ b u,h.get? b=some u->h'.get? b=some u):CF P w H h':=fun a o e=>
 (x a o e).Hz (fun b u _ q=>k b u q) (fun _ q=>q) fun _ _ q=>q
def CF.laid (x:CF P w H h)(k:∀ b u,h.get? b=some u->h'.get? b=some u)(hp:h.objs.size<=a)(new:CI P w (upd H a o) h' a o):CF P w (upd H a o) h':=fun b u e=>by
 have hn:=x.fresh hp
 by_cases hb:b=a
 ·subst hb;rw [B0] at e;cases e;exact new
 ·rw [An hb] at e;exact (x b u e).Hz (fun c v _ q=>k c v q) (fun c q=>by rw [An (Dj q hn)];exact q) fun c xs q=>by rw [An (Dj q hn)];exact q
end
def Rd (H:Hp)(a:Addr)(u:HO):Prop:=H a=some u∨∃ o,H a=some (.FK o u)
def Rd.ok {P:Program}{u:HO}(r:Rd H a u)(x:CF P w H h):CI P w H h a u:=by
 rcases r with r | ⟨o,r⟩
 ·exact x a u r
 ·obtain ⟨_,q⟩:=x a _ r;exact q
def OR:Option HO->Prop
 | some (.lst _)=>True
 | some (.dK _)=>True
 | some (.dT _)=>True
 | some (.set _ _)=>True
 | some (.ins _ _ _)=>True
 | some (.ext _)=>True
 | _=>False
section
variable {P:Program}{x e:Addr}
def CF.write (ok:CF P w H h)(mu:OR (H x))(he:e=x∨H e=some (.own x))(k:∀ b u,b≠e->h.get? b=some u->h'.get? b=some u)(Je:∃ u,h'.get? e=some u)
  (new:CI P w (upd H x o') h' x o'):CF P w (upd H x o') h':=fun b u q=>by
 have eA:∀ c y,H c=some (.own y)->c≠x:=fun c y r z=>by subst z;rw [r] at mu;exact mu
 have mL:∀ c xs,H c=some (.tup xs)->c≠x:=fun c xs r z=>by subst z;rw [r] at mu;exact mu
 by_cases hb:b=x
 ·subst hb;rw [B0] at q;cases q;exact new
 ·rw [An hb] at q
  by_cases Kt:b=e
  ·have q':H b=some (.own x):=by
    rcases he with z | z
    ·exact absurd (Kt.trans z) hb
    ·rw [Kt];exact z
   rw [q] at q';cases q';obtain ⟨v,hv⟩:=Je;exact ⟨v,by rw [Kt];exact hv⟩
  ·refine (ok b u q).Hz (fun c v hc r=>k c v ?_ r) (fun c r=>by rw [An (eA c b r)];exact r) fun c xs r=>by rw [An (mL c xs r)];exact r
   rcases hc with rfl | hc
   ·exact Kt
   ·rintro rfl;rcases he with z | z
    ·exact eA c b hc z
    ·rw [hc] at z;cases z;exact hb rfl
end
structure Un (fs ex:List Addr) (H H':Hp) (h h':Heap):Prop where
 keep:∀ b o,h.get? b=some o->H b=none->b∉fs->b∉ex->h'.get? b=some o
 slot:∀ b o,h.get? b=some o->H b=none->b∈fs->b∉ex->∃ sl,h'.get? b=some { o with slots:=sl }
 free:∀ b o,h.get? b=some o->H b=none->b∉ex->H' b=none
 there:∀ b o,h.get? b=some o->b∉ex->∃ o',h'.get? b=some o'
 JB:∀ b xs,H b=some (.tup xs)->H' b=some (.tup xs)
 IT:∀ b o u,H b=some (.FK o u)->H' b=some (.FK o u)
 JU:∀ b ps,H b=some (.K5 ps)->∃ more,H' b=some (.K5 (ps++more))
section
variable {fs lY ex ex':List Addr}{H1 H2:Hp}{h1 h2:Heap}{x e:Addr}
def Un.any (u:Un fs ex H H1 h h1){ob:Obj}(q:h.get? b=some ob)(n:H b=none)(hx:b∉ex):∃ sl,h1.get? b=some { ob with slots:=sl }:=by
 by_cases hb:b∈fs
 ·exact u.slot b ob q n hb hx
 ·exact ⟨ob.slots,u.keep b ob q n hb hx⟩
def Un.kept (k:∀ b u,h.get? b=some u->h'.get? b=some u):Un fs ex H H h h':=
 ⟨fun b ob q _ _ _=>k b ob q,fun b ob q _ _ _=>⟨ob.slots,k b ob q⟩,fun _ _ _ n _=>n,fun b ob q _=>⟨ob,k b ob q⟩,fun _ _ q=>q,fun _ _ _ q=>q,fun _ ps q=>⟨#[],by rw [q];simp⟩⟩
def Un.refl:Un fs ex H H h h:=Un.kept fun _ _ q=>q
def Un.laid (k:∀ b u,h.get? b=some u->h'.get? b=some u)(hp:h.objs.size<=a)(hn:H a=none):Un fs ex H (upd H a o) h h' where
 keep:=fun b u q _ _ _=>k b u q
 slot:=fun b u q _ _ _=>⟨u.slots,k b u q⟩
 free:=fun b u q n _=>by rw [An (Bf (E9 (B9 q) hp))];exact n
 there:=fun b u q _=>⟨u,k b u q⟩
 JB:=fun b xs q=>by rw [An (Dj q hn)];exact q
 IT:=fun b u xs q=>by rw [An (Dj q hn)];exact q
 JU:=fun b ps q=>⟨#[],by rw [An (Dj q hn),q];simp⟩
def Un.write (mu:OR (H x))(he:e=x∨H e=some (.own x))(k:∀ b u,b≠e->h.get? b=some u->h'.get? b=some u)(Je:∃ u,h'.get? e=some u):Un fs ex H (upd H x o) h h':=by
 have hx:∀ b,H b=none->b≠x:=fun b n z=>by subst z;rw [n] at mu;exact mu
 have hb:∀ b,H b=none->b≠e:=fun b n z=>by
  subst z;rcases he with r | r
  ·exact hx b n r
  ·rw [n] at r;cases r
 have hm:∀ b u,H b=some u->¬ OR (some u)->b≠x:=fun b u q nm z=>by subst z;rw [q] at mu;exact nm mu
 refine ⟨fun b u q n _ _=>k b u (hb b n) q,fun b u q n _ _=>⟨u.slots,k b u (hb b n) q⟩,fun b u q n _=>by rw [An (hx b n)];exact n,fun b u q _=>?_,
  fun b xs q=>by rw [An (hm b _ q fun z=>z)];exact q,fun b u xs q=>by rw [An (hm b _ q fun z=>z)];exact q,fun b ps q=>⟨#[],by rw [An (hm b _ q fun z=>z),q];simp⟩⟩
 by_cases Kt:b=e
 ·subst Kt;exact Je
 ·exact ⟨u,k b u Kt q⟩
end
noncomputable def QP (h:Heap)(H:Hp):List Addr:=(List.range h.objs.size).filter fun a=>(H a).isSome
noncomputable def Im (h:Heap)(H:Hp):Heap:=PySem.W.hideAll h (QP h H)
def uO (h:Heap)(H:Hp):(Im h H).objs.size=h.objs.size:=PySem.W.hideAll_size _ _
def ZCX {o:Obj}(e:h.get? b=some o)(n:H b=none):(Im h H).get? b=some o:=
 PySem.W.hideAll_get _ e fun hm=>by
  have q:(H b).isSome=true:=(List.mem_filter.mp hm).2;rw [n] at q;simp at q
def uG {o:Obj}(e:(Im h H).get? b=some o):h.get? b=some o/\H b=none:=by
 have e':h.get? b=some o:=PySem.W.of_hideAll (QP h H) e;refine ⟨e',?_⟩;cases q:H b with
 | none=>rfl
 | some x=>
  have hm:b∈QP h H:=List.mem_filter.mpr ⟨List.mem_range.mpr (B9 e'),by simp [q]⟩;have z:(Im h H).get? b=none:=PySem.W.hideAll_none (QP h H) hm;rw [z] at e;cases e
structure Mod (K:ZE6) (mg:ZE8) (base:Heap):Prop where
 NI:K.In base
 glob:base.Ns mainGlobals mg
 blt:∃ mb,base.Ns builtinsNs mb/\∀ x:Str,x ≠ "__name__" -> mb x=bootBuiltins x
 nolimit:base.NoLimit
structure Cx where
 prog:Program
 w:World
 K:ZE6
 mg:ZE8
 base:Heap
 A:Around
 N:List Str
 s₀:Shared
 H₀:Hp
 env:Env
 outer:List Env
 stack:List Env
 ex:List Addr
 fn:Str->Bool
 calm:Bool
 pn:ZE7
 xe:Value->Shared->Prop
variable {X:Cx}
noncomputable def Gy (l:List Env):List Addr:=l.filterMap (·.frame)
noncomputable abbrev Cx.fs (X:Cx):List Addr:=Gy X.outer
def WN (sc:Scope)(x:Str):Prop:=sc.names.lookup x=some .local∨sc.names.lookup x=some .cell∨sc.names.lookup x=some .free
def Loc (sc:Scope)(x:Str):Prop:=sc.names.lookup x=some .local∨sc.names.lookup x=some .cell
def Look (env:Env)(h:Heap)(m:ZE8)(x:Str)(u:Value):Prop:=
 (env.kindOf x=some .local/\m x=some u)∨((env.kindOf x=some .cell∨env.kindOf x=some .free)/\∃ c,env.cells.lookup x=some c/\h.IsCell c (some u))
structure Cx.Ok (X:Cx):Prop where
 mod:Mod X.K X.mg X.base
 kind:X.env.scope.kind=.function
 glob:X.env.globals=mainGlobals
 blt:X.env.builtins=builtinsNs
 above:X.s₀.heap.objs.size<=X.env.locals
 inj:∀ x y c,X.env.cells.lookup x=some c->X.env.cells.lookup y=some c->x=y
 has:∀ x,(X.env.kindOf x=some .cell∨X.env.kindOf x=some .free)->∃ c,X.env.cells.lookup x=some c
 ON:∀ x c,X.fn x=true->X.env.cells.lookup x=some c->X.s₀.heap.objs.size<=c
 hd:X.calm=true->X.A.handled=none
 frames:X.A.frames=some X.stack
 Rt:X.stack=X.outer∨(X.stack=X.env::X.outer/\X.env.frame=some X.env.locals)
 Qj:∀ b∈X.ex,b≠X.env.locals/\∀ x c,X.env.cells.lookup x=some c->c≠b
 bs:∀ b o,X.base.get? b=some o->X.s₀.heap.get? b=some o/\X.H₀ b=none
 IE:X.base.objs.size<=X.s₀.heap.objs.size
 Ov:∀ b o,X.base.get? b=some o->b∉X.ex
 Nh:∀ b∈X.ex,b∉X.fs
 GQ:X.s₀.heap.FunFrames X.base X.outer
 LA:∀ b∈X.fs,X.H₀ b=none
structure Inv (X:Cx) (pins:ZE7) (σ:List (Option V)) (H:Hp) (s:Shared):Prop where
 ok:X.Ok
 os:s.os=X.s₀.os
 bare:AllBare s.gens
 base:Un X.fs X.ex X.H₀ H X.s₀.heap s.heap
 loc:∃ m,s.heap.Ns X.env.locals m/\∀ (i:Nat) (x:Str) (v:V),X.N[i]?=some x->σ[i]?=some (some v)->WN X.env.scope x->∃ u,RelV v u/\Look X.env s.heap m x u
 cell:∀ x c,X.env.cells.lookup x=some c->∃ v,s.heap.IsCell c v
 free:H X.env.locals=none
 Hd:∀ x c,X.env.cells.lookup x=some c->H c=none
 pin:∀ p∈X.pn++pins,s.heap.get? p.1=some p.2/\H p.1=none/\p.1≠X.env.locals/\p.1∉X.fs/\∀ v,p.2.data≠.cell v
 AK:CF X.prog X.w H s.heap
 len:σ.length=X.N.length
section
variable {σ:List (Option V)}
def Cx.Ok.wG (ok:X.Ok){o:Obj}(e:X.base.get? b=some o):b∉X.fs:=fun hb=>by
 have:=(ok.GQ.mem hb).1;rw [e] at this;cases this
theorem Inv.bs (I:Inv X pins σ H s):∀ b o,X.base.get? b=some o->s.heap.get? b=some o/\H b=none:=fun b o e=>
 ⟨I.base.keep b o (I.ok.bs b o e).1 (I.ok.bs b o e).2 (I.ok.wG e) (I.ok.Ov b o e),I.base.free b o (I.ok.bs b o e).1 (I.ok.bs b o e).2 (I.ok.Ov b o e)⟩
def Inv.bk (I:Inv X pins σ H s):∀ b o,X.base.get? b=some o->s.heap.get? b=some o:=fun b o e=>(I.bs b o e).1
theorem Inv.mod (I:Inv X pins σ H s):Mod X.K X.mg X.base:=I.ok.mod
def Inv.Cn (I:Inv X pins σ H s):X.K.In s.heap:=I.ok.mod.NI.keeps I.bk
theorem Inv.lt (I:Inv X pins σ H s):X.env.locals<s.heap.objs.size:=let ⟨_,hn,_⟩:=I.loc;hn.lt
def Inv.sz (I:Inv X pins σ H s):X.s₀.heap.objs.size<=s.heap.objs.size:=D1 I.ok.above (P4 I.lt)
def Inv.sE (I:Inv X pins σ H s)(h:s.heap.objs.size<=a):a∉X.fs:=fun hb=>by
 obtain ⟨_,o,ho,_⟩:=I.ok.GQ.mem hb;exact absurd (E9 (B9 ho) (D1 I.sz h)) (LM _)
def Inv.Ki (I:Inv X pins σ H s):∀ x c,X.env.cells.lookup x=some c->c≠X.env.locals:=fun x c e z=>by
 obtain ⟨v,o,ho,hd⟩:=I.cell x c e;obtain ⟨m,⟨o',es,ep,EN,Tu,_⟩,_⟩:=I.loc;rw [z,EN] at ho;cases ho;rw [Tu] at hd;cases hd
theorem Inv.GQ (I:Inv X pins σ H s):s.heap.FunFrames X.base X.outer:=by
 have all:∀ (l:List Env),(∀ b∈Gy l,b∈X.fs)->X.s₀.heap.FunFrames X.base l->s.heap.FunFrames X.base l:=by
  intro l
  induction l with
  | nil=>intro _ _;trivial
  | cons env r ih=>
   intro hs hl;obtain ⟨hk,⟨L,o,hf,hn,ho,hd⟩,hr⟩:=hl;have hL:L∈X.fs:=hs L (by unfold Gy;rw [jF,hf];exact Ft);obtain ⟨sl,e⟩:=I.base.slot L o ho (I.ok.LA L hL) hL fun z=>I.ok.Nh L z hL;exact ⟨hk,⟨L,_,hf,hn,e,hd⟩,ih (fun b hb=>hs b (by unfold Gy;rw [jF,hf];exact Ek _ hb)) hr⟩
 exact all X.outer (fun _ hb=>hb) I.ok.GQ
theorem Inv.stack (I:Inv X pins σ H s):s.heap.FunFrames X.base X.stack:=by
 rcases I.ok.Rt with e | ⟨e,hf⟩
 ·rw [e];exact I.GQ
 ·rw [e];obtain ⟨m,hn,_⟩:=I.loc;refine .cons (by rw [I.ok.kind];decide) hf hn ?_ I.GQ;exact Heap.get?_none_of_le (D1 I.ok.IE I.ok.above)
def Inv.Xc (I:Inv X pins σ H s):∀ b∈Gy X.stack,b∈X.env.locals::X.fs:=fun b hb=>by
 rcases I.ok.Rt with e | ⟨e,hf⟩
 ·rw [e] at hb;exact Ek _ hb
 ·rw [e] at hb;unfold Gy at hb;rw [jF,hf] at hb;exact hb
def Inv.aX (I:Inv X pins σ H s):∀ b∈Gy X.stack,H b=none:=fun b hb=>by
 rcases List.mem_cons.mp (I.Xc b hb) with e | hb
 ·rw [e];exact I.free
 ·obtain ⟨_,o,ho,_⟩:=I.ok.GQ.mem hb;exact I.base.free b o ho (I.ok.LA b hb) fun z=>I.ok.Nh b z hb
def Inv.step (I:Inv X pins σ H s)
  (Hc:∀ b∈ch,(b∈X.ex∨X.s₀.heap.objs.size<=b)/\b≠X.env.locals/\(∀ x c,X.env.cells.lookup x=some c->c≠b)/\∀ p∈X.pn++pins,p.1≠b)
  (keep:∀ b o,b≠X.env.locals->b∉X.fs->b∉ch->s.heap.get? b=some o->H b=none->h'.get? b=some o)
  (slot:∀ b o,b≠X.env.locals->b∈X.fs->b∉ch->s.heap.get? b=some o->H b=none->∃ sl,h'.get? b=some { o with slots:=sl }) (free:∀ b o,b∉ch->s.heap.get? b=some o->H b=none->H' b=none)
  (there:∀ b o,b∉ch->s.heap.get? b=some o->∃ o',h'.get? b=some o')
  (JB:∀ b xs,H b=some (.tup xs)->H' b=some (.tup xs)) (IT:∀ b o u,H b=some (.FK o u)->H' b=some (.FK o u)) (JU:∀ b ps,H b=some (.K5 ps)->∃ more,H' b=some (.K5 (ps++more)))
  (ns:∀ m,s.heap.Ns X.env.locals m->h'.Ns X.env.locals m) (AK:CF X.prog X.w H' h') (hg:AllBare g') :
  Inv X pins σ H' { s with heap:=h',gens:=g',drawn:=d',toks:=t' }:=by
 have gD:∀ b o,X.s₀.heap.get? b=some o->b≠X.env.locals:=fun b o e=>Bf (E9 (B9 e) I.ok.above);have P6:∀ b o,X.s₀.heap.get? b=some o->b∉X.ex->b∉ch:=fun b o e hx hb=>by
  rcases (Hc b hb).1 with z | z
  ·exact hx z
  ·exact absurd (E9 (B9 e) z) (LM _)
 have cellK:∀ x c,X.env.cells.lookup x=some c->∀ v,s.heap.IsCell c v->h'.IsCell c v:=fun x c e v ⟨o,ho,hd⟩=>by
  have OI:c∉ch:=fun z=>(Hc c z).2.2.1 x c e rfl
  by_cases hc:c∈X.fs
  ·obtain ⟨sl,q⟩:=slot c o (I.Ki x c e) hc OI ho (I.Hd x c e);exact ⟨_,q,hd⟩
  ·exact ⟨o,keep c o (I.Ki x c e) hc OI ho (I.Hd x c e),hd⟩
 refine ⟨I.ok,I.os,hg,⟨fun b o e n hb hx=>?_,fun b o e n hb hx=>?_,fun b o e n hx=>?_,fun b o e hx=>?_,fun b xs e=>JB b xs (I.base.JB b xs e),fun b o xs e=>IT b o xs (I.base.IT b o xs e),fun b ps e=>?_⟩,?_,fun x c e=>?_,?_,fun x c e=>?_,fun p hp=>?_,AK,I.len⟩
 ·exact keep b o (gD b o e) hb (P6 b o e hx) (I.base.keep b o e n hb hx) (I.base.free b o e n hx)
 ·obtain ⟨sl,e1⟩:=I.base.slot b o e n hb hx;obtain ⟨sl',e2⟩:=slot b _ (gD b o e) hb (P6 b o e hx) e1 (I.base.free b o e n hx);exact ⟨sl',e2⟩
 ·obtain ⟨o',e1⟩:=I.base.there b o e hx;exact free b o' (P6 b o e hx) e1 (I.base.free b o e n hx)
 ·obtain ⟨o',e1⟩:=I.base.there b o e hx;exact there b o' (P6 b o e hx) e1
 ·obtain ⟨m1,e1⟩:=I.base.JU b ps e;obtain ⟨m2,e2⟩:=JU b _ e1;exact ⟨m1++m2,by rw [e2,Array.append_assoc]⟩
 ·obtain ⟨m,hn,hl⟩:=I.loc;refine ⟨m,ns m hn,fun i x v e1 e2 e3=>?_⟩;obtain ⟨u,r,l⟩:=hl i x v e1 e2 e3;refine ⟨u,r,?_⟩;rcases l with l | ⟨k,c,e,z⟩
  ·exact .inl l
  ·exact .inr ⟨k,c,e,cellK x c e _ z⟩
 ·obtain ⟨v,z⟩:=I.cell x c e;exact ⟨v,cellK x c e v z⟩
 ·obtain ⟨m,⟨o,_,_,ho,_⟩,_⟩:=I.loc;exact free _ o (fun z=>(Hc _ z).2.1 rfl) ho I.free
 ·obtain ⟨v,o,ho,hd⟩:=I.cell x c e;exact free c o (fun z=>(Hc c z).2.2.1 x c e rfl) ho (I.Hd x c e)
 ·obtain ⟨e,n,ne,nf,d⟩:=I.pin p hp;have OI:p.1∉ch:=fun z=>(Hc p.1 z).2.2.2 p hp rfl;exact ⟨keep p.1 p.2 ne nf OI e n,free p.1 p.2 OI e n,ne,nf,d⟩
def Inv.un (I:Inv X pins σ H s)(u:Un X.fs [] H H' s.heap h')(AK:CF X.prog X.w H' h'):Inv X pins σ H' { s with heap:=h',toks:=t' }:=by
 obtain ⟨m,⟨o,es,ep,ho,r⟩,_⟩:=id I.loc;obtain ⟨sl,hL⟩:=u.any ho I.free (by simp);exact I.step (g':=s.gens) (d':=s.drawn) (ch:=[]) (fun _ z=>nomatch z) (fun b o _ hb _ e n=>u.keep b o e n hb (by simp)) (fun b o _ hb _ e n=>u.slot b o e n hb (by simp)) (fun b o _ e n=>u.free b o e n (by simp)) (fun b o _ e=>u.there b o e (by simp)) u.JB u.IT u.JU (fun m' hm=>by
  obtain ⟨o',EZ,Jx,EN,r'⟩:=hm;rw [ho] at EN;cases EN;exact ⟨_,EZ,Jx,hL,r'⟩) AK I.bare
def Inv.call (I:Inv X pins σ H s)(u:Un (Gy X.stack) ch H H' s.heap h')(AK:CF X.prog X.w H' h')(hg:AllBare g')
  (Hc:∀ b∈ch,(b∈X.ex∨X.s₀.heap.objs.size<=b)/\b≠X.env.locals/\(∀ x c,X.env.cells.lookup x=some c->c≠b)/\∀ p∈X.pn++pins,p.1≠b) :
  Inv X pins σ H' { s with heap:=h',gens:=g',drawn:=d',toks:=t' }:=by
 obtain ⟨m,⟨o,es,ep,ho,r⟩,_⟩:=id I.loc;obtain ⟨sl,hL⟩:=u.any ho I.free fun z=>(Hc _ z).2.1 rfl;exact I.step (ch:=ch) Hc (fun b o hL hb hc e n=>u.keep b o e n (fun z=>(List.mem_cons.mp (I.Xc b z)).elim hL hb) hc) (fun b o _ _ hc e n=>u.any e n hc) (fun b o hc e n=>u.free b o e n hc) (fun b o hc e=>u.there b o e hc) u.JB u.IT u.JU (fun m' hm=>by
  obtain ⟨o',EZ,Jx,EN,r'⟩:=hm;rw [ho] at EN;cases EN;exact ⟨_,EZ,Jx,hL,r'⟩) AK hg
def Inv.turned (I:Inv X pins σ H s)(k:∀ b o,b≠it->s.heap.get? b=some o->h'.get? b=some o)(hn:H it=none)(hL:it≠X.env.locals)
  (h1:it∈X.ex∨X.s₀.heap.objs.size<=it) (h2:∀ x c,X.env.cells.lookup x=some c->c≠it) (h3:∀ p∈X.pn++pins,p.1≠it):Inv X pins σ H { s with heap:=h',toks:=t' }:=by
 have JH:∀ b u,H b=some u->b≠it:=fun b u e z=>by rw [z,hn] at e;cases e
 refine I.step (g':=s.gens) (d':=s.drawn) (ch:=[it]) (fun b hb=>?_) (fun b o _ _ hc e _=>k b o (fun z=>hc (by simp [z])) e) (fun b o _ _ hc e _=>⟨o.slots,k b o (fun z=>hc (by simp [z])) e⟩) (fun _ _ _ _ n=>n)
  (fun b o hc e=>⟨o,k b o (fun z=>hc (by simp [z])) e⟩) (fun _ _ e=>e) (fun _ _ _ e=>e) (fun b ps e=>⟨#[],by rw [e];simp⟩) (fun m hm=>?_) (fun b u e=>?_) I.bare
 ·have e:b=it:=by simpa using hb
  subst e;exact ⟨h1,hL,h2,h3⟩
 ·obtain ⟨o,es,ep,ho,r⟩:=hm;exact ⟨o,es,ep,k _ o (Bs hL) ho,r⟩
 ·refine (I.AK b u e).Hz (fun c v hc q=>k c v ?_ q) (fun _ q=>q) fun _ _ q=>q;rcases hc with z | z
  ·rw [z];exact JH b u e
  ·exact JH c _ z
def Inv.tok (I:Inv X pins σ H s)(t:Nat):Inv X pins σ H { s with toks:=t }:=I.un (h':=s.heap) (t':=t) Un.refl I.AK
theorem Inv.kept (I:Inv X pins σ H s)(k:∀ b u,s.heap.get? b=some u->h'.get? b=some u):Inv X pins σ H { s with heap:=h',toks:=t' }:=I.un (Un.kept k) (I.AK.kept k)
theorem Inv.laid (I:Inv X pins σ H s)(k:∀ b u,s.heap.get? b=some u->h'.get? b=some u)(hp:s.heap.objs.size<=a)(new:CI X.prog X.w (upd H a o) h' a o):
  Inv X pins σ (upd H a o) { s with heap:=h',toks:=t' }:=I.un (Un.laid k hp (I.AK.fresh hp)) (I.AK.laid k hp new)
theorem Inv.write {x e:Addr}(I:Inv X pins σ H s)(mu:OR (H x))(he:e=x∨H e=some (.own x))(k:∀ b u,b≠e->s.heap.get? b=some u->h'.get? b=some u)(Je:∃ u,h'.get? e=some u)
  (new:CI X.prog X.w (upd H x o) h' x o):Inv X pins σ (upd H x o) { s with heap:=h',toks:=t' }:=I.un (Un.write mu he k Je) (I.AK.write mu he k Je new)
def Inv.ZO (I:Inv X pins σ H s)(h:∀ p∈gp,s.heap.get? p.1=some p.2/\H p.1=none/\p.1≠X.env.locals/\p.1∉X.fs/\∀ v,p.2.data≠.cell v):Inv X gp σ H s:=
 ⟨I.ok,I.os,I.bare,I.base,I.loc,I.cell,I.free,I.Hd,fun p hp=>(List.mem_append.mp hp).elim (fun z=>I.pin p (Mi _ z)) (h p),I.AK,I.len⟩
def iG (hN:N.Nodup)(a:N[i]?=some x)(b:N[j]?=some x):i=j:=by
 obtain ⟨h1,e1⟩:=List.getElem?_eq_some_iff.mp a;obtain ⟨h2,e2⟩:=List.getElem?_eq_some_iff.mp b;exact (ZCv hN).mp (e1.trans e2.symm)
def gk {Q:Unit->Shared->Prop}(I:Inv X pins σ H s)(hN:X.N.Nodup)(hi:X.N[i]?=some x)(hx:Loc X.env.scope x)(r:RelV v u)
  (h:∀ s',Inv X pins (σ.set i (some v)) H s'->(∃ a,Heap.SameBut a s.heap s'.heap/\(a=X.env.locals∨X.env.cells.lookup x=some a))->Q () s') (hf:X.fn x=true∨X.env.scope.names.lookup x=some .local:=by first | exact .inl rfl | exact .inr rfl | assumption):wpAny M A (storeName X.env x u) Q E s:=by
 obtain ⟨m,hn,hl⟩:=id I.loc;have md:(X.env.scope.kind == .class || (X.env.scope.kind == .module && X.env.locals != X.env.globals))=false:=by rw [I.ok.kind];rfl
 have hiσ:i<σ.length:=by rw [I.len];exact (List.getElem?_eq_some_iff.mp hi).1
 have Ki:=I.Ki;have tracked:∀ {a:Addr}{h':Heap},(∃ o,s.heap.get? a=some o/\H a=none)->Heap.SameBut a s.heap h'->CF X.prog X.w H h':=fun {a h'} ha hs b ob e=>by
  obtain ⟨_,_,bB⟩:=ha;refine (I.AK b ob e).Hz (fun c w' hc q=>(hs.2 c ?_).trans q) (fun _ q=>q) fun _ _ q=>q;rintro rfl;rcases hc with rfl | hc
  ·rw [bB] at e;cases e
  ·rw [bB] at hc;cases hc
 rcases hx with hk | hk
 ·refine wpAny_storeName_local hk hn (fun h' Xl hs=>?_) md;obtain ⟨oL,_,_,Nz,_⟩:=id hn;refine h _ ⟨I.ok,I.os,I.bare,⟨fun b o e n hb hx=>?_,fun b o e n hb hx=>?_,I.base.free,fun b o e hx=>?_,I.base.JB,I.base.IT,I.base.JU⟩,⟨_,Xl,fun j y v' e1 e2 e3=>?_⟩,fun y c e=>?_,I.free,I.Hd,fun p hp=>?_,tracked ⟨oL,Nz,I.free⟩ hs,by simpa using I.len⟩ ⟨_,hs,.inl rfl⟩
  ·exact (hs.2 b (Bf (E9 (B9 e) I.ok.above))).trans (I.base.keep b o e n hb hx)
  ·obtain ⟨sl,e1⟩:=I.base.slot b o e n hb hx;exact ⟨sl,(hs.2 b (Bf (E9 (B9 e) I.ok.above))).trans e1⟩
  ·obtain ⟨o',e1⟩:=I.base.there b o e hx;exact ⟨o',(hs.2 b (Bf (E9 (B9 e) I.ok.above))).trans e1⟩
  ·by_cases hj:j=i
   ·subst hj;rw [hi] at e1;cases e1;rw [Ds hiσ] at e2;cases e2;exact ⟨u,r,.inl ⟨hk,by simp⟩⟩
   ·rw [DL (Bs hj)] at e2;obtain ⟨u',r',q⟩:=hl j y v' e1 e2 e3;refine ⟨u',r',?_⟩;rcases q with ⟨k,e⟩ | ⟨k,c,e,z⟩
    ·refine .inl ⟨k,?_⟩;have:y≠x:=fun e=>hj (iG hN e1 (e▸hi));simp [this,e]
    ·exact .inr ⟨k,c,e,z.sameBut hs (Ki y c e)⟩
  ·obtain ⟨w',z⟩:=I.cell y c e;exact ⟨w',z.sameBut hs (Ki y c e)⟩
  ·obtain ⟨e,n,ne,nf,d⟩:=I.pin p hp;exact ⟨(hs.2 p.1 ne).trans e,n,ne,nf,d⟩
 ·have Ut:X.fn x=true:=by
   rcases hf with z | z
   ·exact z
   ·rw [z] at hk;cases hk
  obtain ⟨c,hc⟩:=I.ok.has x (.inl hk);obtain ⟨w',z⟩:=I.cell x c hc;refine wpAny_storeName_cell I.ok.kind hk hc z (fun h' J8 hs=>?_);obtain ⟨oc,fD,kO⟩:=id z;refine h { s with heap:=h' } ⟨I.ok,I.os,I.bare,⟨fun b o e n hb hx=>?_,fun b o e n hb hx=>?_,I.base.free,fun b o e hx=>?_,I.base.JB,I.base.IT,I.base.JU⟩,⟨m,hn.sameBut hs (Bs (Ki x c hc)),fun j y v' e1 e2 e3=>?_⟩,fun y c' e=>?_,I.free,I.Hd,fun p hp=>?_,tracked ⟨oc,fD,I.Hd x c hc⟩ hs,by simpa using I.len⟩ ⟨c,hs,.inr hc⟩
  ·exact (hs.2 b (Bf (E9 (B9 e) (I.ok.ON x c Ut hc)))).trans (I.base.keep b o e n hb hx)
  ·obtain ⟨sl,e1⟩:=I.base.slot b o e n hb hx;exact ⟨sl,(hs.2 b (Bf (E9 (B9 e) (I.ok.ON x c Ut hc)))).trans e1⟩
  ·obtain ⟨o',e1⟩:=I.base.there b o e hx;exact ⟨o',(hs.2 b (Bf (E9 (B9 e) (I.ok.ON x c Ut hc)))).trans e1⟩
  ·by_cases hj:j=i
   ·subst hj;rw [hi] at e1;cases e1;rw [Ds hiσ] at e2;cases e2;exact ⟨u,r,.inr ⟨.inl hk,c,hc,J8⟩⟩
   ·rw [DL (Bs hj)] at e2;obtain ⟨u',r',q⟩:=hl j y v' e1 e2 e3;refine ⟨u',r',?_⟩;rcases q with q | ⟨k,c',e,z'⟩
    ·exact .inl q
    ·refine .inr ⟨k,c',e,z'.sameBut hs ?_⟩;rintro rfl;exact hj (iG hN e1 (I.ok.inj _ _ _ e hc▸hi))
  ·by_cases R4:c'=c
   ·subst R4;exact ⟨_,J8⟩
   ·obtain ⟨w2,z2⟩:=I.cell y c' e;exact ⟨w2,z2.sameBut hs R4⟩
  ·obtain ⟨e,n,ne,nf,d⟩:=I.pin p hp;refine ⟨(hs.2 p.1 ?_).trans e,n,ne,nf,d⟩;intro q;rw [q,fD] at e;have q':oc=p.2:=Bc e;exact d w' (by rw [<- q'];exact kO)
def bP {Q:Unit->Shared->Prop}(I:Inv X pins σ H s)(hN:X.N.Nodup)(hi:X.N[i]?=some x)(hx:Loc X.env.scope x)(r:RelV v u)
  (h:∀ s',Inv X pins (σ.set i (some v)) H s'->Q () s') (hf:X.fn x=true∨X.env.scope.names.lookup x=some .local:=by first | exact .inl rfl | exact .inr rfl | assumption):wpAny M A (storeName X.env x u) Q E s:=
 gk I hN hi hx r (fun s' I' _=>h s' I') hf
def Inv.ZAU (I:Inv X pins σ H s)(ho:s'.os=s.os)(u:Un (Gy X.stack) ch H H' s.heap s'.heap)(AK:CF X.prog X.w H' s'.heap)(hg:AllBare s'.gens)
  (Hc:∀ b∈ch,(b∈X.ex∨X.s₀.heap.objs.size<=b)/\b≠X.env.locals/\(∀ x c,X.env.cells.lookup x=some c->c≠b)/\∀ p∈X.pn++pins,p.1≠b):Inv X pins σ H' s':=by
 obtain ⟨h',g',d',t',o'⟩:=s';have e:o'=s.os:=ho;subst e;exact I.call (g':=g') (t':=t') (d':=d') u AK hg Hc
end
abbrev XK:=Value->Option Addr->Hp->Prop
abbrev St:=List (Option V)
variable {σ:St}
abbrev VK:=V->Hp->Prop
abbrev TE:=St->Hp->VK->Prop
variable {ta tb tc te:TE}
abbrev TT:=St->Hp->(Bool->Hp->Prop)->Prop
abbrev TA:=St->Hp->(List V->Hp->Prop)->Prop
structure Ends where
 nx:St->Hp->Prop
 rt:VK
 bk:St->Hp->Prop:=fun _ _=>False
 ct:St->Hp->Prop:=fun _ _=>False
abbrev TS:=Ends->St->Hp->Prop
def EP (X:Cx)(pins:ZE7)(σ:St)(Q:VK)(u:Value)(s':Shared):Prop:=∃ v H',Inv X pins σ H' s'/\RelV v u/\Q v H'
def TP (X:Cx)(pins:ZE7)(σ:St)(Q:Bool->Hp->Prop)(b:Bool)(s':Shared):Prop:=∃ H',Inv X pins σ H' s'/\Q b H'
def AP (X:Cx)(pins:ZE7)(σ:St)(Q:List V->Hp->Prop)(us:List Value)(s':Shared):Prop:=∃ vs H',Inv X pins σ H' s'/\Vals vs us/\Q vs H'
def SP (X:Cx)(pins:ZE7)(D:Ends)(f:Flow)(s':Shared):Prop:=
 match f with
 | .next=>∃ σ' H',Inv X pins σ' H' s'/\D.nx σ' H'
 | .brk=>∃ σ' H',Inv X pins σ' H' s'/\D.bk σ' H'
 | .cont=>∃ σ' H',Inv X pins σ' H' s'/\D.ct σ' H'
 | .ret u=>∃ v σ' H',Inv X pins σ' H' s'/\RelV v u/\D.rt v H'
def PE (X:Cx)(e:Expr)(t:TE):Prop:=
 ∀ (pins:ZE7) (s:Shared) (σ:St) (H:Hp) (Q:VK),Inv X pins σ H s->t σ H Q->wpAny (model X.prog X.w) X.A (eval e X.env) (EP X pins σ Q) X.xe s
def PT (X:Cx)(e:Expr)(t:TT):Prop:=
 ∀ (pins:ZE7) (s:Shared) (σ:St) (H:Hp) (Q:Bool->Hp->Prop),Inv X pins σ H s->t σ H Q->wpAny (model X.prog X.w) X.A (isTrue e X.env (eval e X.env)) (TP X pins σ Q) X.xe s
def PW (X:Cx)(e:Expr)(t:TT):Prop:=
 ∀ (whole:Sem Value) (pins:ZE7) (s:Shared) (σ:St) (H:Hp) (Q:Bool->Hp->Prop),Inv X pins σ H s->t σ H Q->wpAny (model X.prog X.w) X.A (isTrue e X.env whole) (TP X pins σ Q) X.xe s
def PW.pt {t:TT}(h:PW X e t):PT X e t:=h _
def PA (X:Cx)(es:List Expr)(t:TA):Prop:=
 ∀ (pos:Pos) (pins:ZE7) (s:Shared) (σ:St) (H:Hp) (Q:List V->Hp->Prop),Inv X pins σ H s->t σ H Q->wpAny (model X.prog X.w) X.A (spliced (backTo pos (starEach es X.env))) (AP X pins σ Q) X.xe s
def PS (X:Cx)(st:Stmt)(t:TS):Prop:=
 ∀ (pins:ZE7) (s:Shared) (σ:St) (H:Hp) (D:Ends),Inv X pins σ H s->t D σ H->wpAny (model X.prog X.w) X.A (exec st X.env) (SP X pins D) X.xe s
def EH (X:Cx)(st:List Stmt)(t:TS):Prop:=
 ∀ (pins:ZE7) (s:Shared) (σ:St) (H:Hp) (D:Ends),Inv X pins σ H s->t D σ H->wpAny (model X.prog X.w) X.A (execs st X.env) (SP X pins D) X.xe s
def AL {t:Sem α}{Q Q':α->Shared->Prop}(h:wpAny M A t Q E s)(hQ:∀ a s,Q a s->Q' a s):wpAny M A t Q' E s:=pK h hQ fun _ _ x=>x
section
def BI (i:Nat):TE:=fun σ H Q=>∃ v,σ[i]?=some (some v)/\Q v H
def tC (v:V):TE:=fun _ H Q=>Q v H
def Gl (X:Cx)(x:Str):Prop:=X.env.kindOf x=some .globalImplicit
def TB (I:Inv X pins σ H s)(hg:Gl X x)(hm:X.mg x=some u)(h:Q u s)
  (hd:(x == ("__debug__":Str))=false:=by decide):wpAny (model X.prog X.w) X.A (eval (.Name x pos) X.env) Q E s:=
 ZCc I.ok.kind hg (Calls.loadGlobal_global (by rw [I.ok.glob];exact I.mod.glob.keeps I.bk) hm h) hd
def Iq (I:Inv X pins σ H s)(hg:Gl X x)(hm:X.mg x=none)(hv:bootBuiltins x=some u)(h:Q u s)
  (hn:x ≠ "__name__" := by decide) (hd:(x == ("__debug__":Str))=false:=by decide):wpAny (model X.prog X.w) X.A (eval (.Name x pos) X.env) Q E s:=by
 obtain ⟨mb,h1,h2⟩:=I.mod.blt;exact ZCc I.ok.kind hg (Calls.loadGlobal_builtin (by rw [I.ok.glob];exact I.mod.glob.keeps I.bk) hm (by rw [I.ok.blt];exact h1.keeps I.bk) ((h2 x hn).trans hv) h) hd
def ZCW (hg:Gl X x)(hm:X.mg x=none)(hv:bootBuiltins x=some u)(r:RelV v u)(hn:x ≠ "__name__" := by decide)(hd:(x == ("__debug__":Str))=false:=by decide):PE X (.Name x pos) (tC v):=
 fun _ _ _ H _ I h=>Iq I hg hm hv ⟨v,H,I,r,h⟩ hn hd
variable {a b:Expr}
def PC (X:Cx)(op:CmpOp)(a b:Expr)(t:TE):Prop:=
 ∀ (pins:ZE7) (s:Shared) (σ:St) (H:Hp) (Q:VK),Inv X pins σ H s->t σ H Q->
  wpAny (model X.prog X.w) X.A (eval a X.env) (fun v s₁=>wpAny (model X.prog X.w) X.A (eval b X.env) (fun u s₂=>wpAny (model X.prog X.w) X.A (compareOp op v u) (EP X pins σ Q) X.xe s₂) X.xe s₁) X.xe s
def aP (b:Expr)(h:op≠.In)(h2:op≠.NotIn):behindInMarks op b=false:=by
 have e1:(op == CmpOp.In)=false:=by cases op <;> first | rfl | exact absurd rfl h
 have e2:(op == CmpOp.NotIn)=false:=by cases op <;> first | rfl | exact absurd rfl h2
 cases b <;> simp [behindInMarks,e1,e2]
def tB (t:TE):TT:=fun σ H Q=>t σ H fun x H1=>∃ c,x=.bl c/\Q c H1
def zH {t:TE}(h:PC X op a b t)(h1:behindInMarks op b=false:=by first | exact aP _ (by decide) (by decide) | rfl):PE X (.Compare a [op] [b] pos) t:=fun pins s σ H Q I hw=>wpAny_Compare1 (h pins s σ H Q I hw) h1
def fZ {t:TE}(h:PC X op a b t)(h1:behindInMarks op b=false:=by first | exact aP _ (by decide) (by decide) | rfl):PT X (.Compare a [op] [b] pos) (tB t):=by
 intro pins s σ H Q I hw;refine wpAny_isTrue_Compare1 (AL (h pins s σ H _ I hw) fun v s1 h1=>AL h1 fun u s2 h2=>AL h2 fun c s3 ⟨x,H1,I1,r1,q1⟩=>?_) h1;obtain ⟨d,rfl,q⟩:=q1;cases r1;exact pT ⟨H1,I1,q⟩
variable {tA IS:TT}
def QL (t u:TT):TT:=fun σ H Q=>t σ H fun c H1=>if c=true then u σ H1 Q else Q false H1
def QZ (t u:TT):TT:=fun σ H Q=>t σ H fun c H1=>if c=true then Q true H1 else u σ H1 Q
def UL (t:TT):TT:=fun σ H Q=>t σ H fun c H1=>Q (!c) H1
def Vz (ta tb:TE):TE:=fun σ H Q=>ta σ H fun x H1=>∃ c,x=.bl c/\if c=true then tb σ H1 Q else Q (.bl false) H1
def Us (ta:TE):TE:=fun σ H Q=>ta σ H fun x H1=>∃ c,x=.bl c/\Q (.bl (!c)) H1
end
def AY (K:ZE6)(H:Hp)(a:Addr)(xs:List V):Prop:=
 Rd H a (.lst xs)∨
  ∃ (o:Obj) (A3:Array Value) (n:Nat),K.lookup a=some o/\o.cls=.type "list" /\ o.dict=none/\o.data=.seq A3 n/\A3.size<=sizeLine/\Vals xs A3.toList
def Aq (K:ZE6)(H:Hp)(a:Addr)(xs:List V):Prop:=
 Rd H a (.tup xs)∨
  ∃ (o:Obj) (A3:Array Value) (n:Nat),K.lookup a=some o/\o.cls=.type "tuple" /\ o.data=.seq A3 n/\A3.size<=sizeLine/\Vals xs A3.toList
noncomputable def pR:Value->Option V
 | .none=>some .AB
 | .bool b=>some (.bl b)
 | .int i _=>some (.int i)
 | .str x _=>some (.str x)
 | .bytes b _=>some (.G2 b)
 | .float b _=>some (.JL b)
 | .ref a=>some (.ref a)
 | .type n=>some (.ty n)
 | _=>none
def RelV.abs {x:V}(r:RelV x u):pR u=some x:=by
 cases x with
 | AB=>cases r;rfl
 | bl _=>cases r;rfl
 | int _=>obtain ⟨t,rfl⟩:=r;rfl
 | str _=>obtain ⟨t,rfl⟩:=r;rfl
 | G2 _=>obtain ⟨t,rfl⟩:=r;rfl
 | JL _=>obtain ⟨t,rfl⟩:=r;rfl
 | ref _=>cases r;rfl
 | ty _=>cases r;rfl
theorem RelV.inj {x y:V}{u:Value}(r:RelV x u)(q:RelV y u):x=y:=Bc (r.abs.symm.trans q.abs)
theorem Vals.inj:∀ {xs ys:List V}{us:List Value},Vals xs us->Vals ys us->xs=ys
 | _,_,_,.nil,.nil=>rfl
 | _,_,_,.cons r t,.cons r' t'=>by rw [r.inj r',Vals.inj t t']
section
variable {xs ys:List V}
def AY.of {K:ZE6}(h:H a=some (.lst xs)):AY K H a xs:=.inl (.inl h)
def Aq.of {K:ZE6}(h:H a=some (.tup xs)):Aq K H a xs:=.inl (.inl h)
def Inv.list (I:Inv X pins σ H s)(h:AY X.K H a xs):∃ A3:List Value,Vals xs A3/\PlainL s.heap a A3.toArray/\xs.length<=sizeLine:=by
 rcases h with h | ⟨o,A3,n,hk,hc,hd,hs,hz,r⟩
 ·obtain ⟨z,A3,n,r,e⟩:=h.ok I.AK;exact ⟨A3,r,⟨_,n,e,rfl,rfl,rfl⟩,z⟩
 ·refine ⟨A3.toList,r,⟨o,n,I.Cn a o hk,hc,hd,by simpa using hs⟩,?_⟩
  have e:=r.length;simp only [HE] at e;omega
def Inv.tuple (I:Inv X pins σ H s)(h:Aq X.K H a xs):∃ A3:List Value,Vals xs A3/\IsTup s.heap a A3.toArray/\xs.length<=sizeLine:=by
 rcases h with h | ⟨o,A3,n,hk,hc,hs,hz,r⟩
 ·obtain ⟨z,A3,r,p⟩:=h.ok I.AK;exact ⟨A3,r,p.1,z⟩
 ·refine ⟨A3.toList,r,⟨o,I.Cn a o hk,hc,n,by simpa using hs⟩,?_⟩
  have e:=r.length;simp only [HE] at e;omega
def Inv.bC (I:Inv X pins σ H s)(h:AY X.K H a xs)(h':AY X.K H a ys):xs=ys:=by
 obtain ⟨A3,r,⟨o,n,e,_,_,d⟩,_⟩:=I.list h;obtain ⟨its',r',⟨o',n',e',_,_,d'⟩,_⟩:=I.list h';rw [e] at e';cases e';rw [d] at d';injection d' with d1 _
 have:A3=its':=by simpa using rW Array.toList d1
 subst this;exact r.inj r'
def Inv.Nk (I:Inv X pins σ H s)(h:Aq X.K H a xs)(h':Aq X.K H a ys):xs=ys:=by
 obtain ⟨A3,r,⟨o,e,_,n,d⟩,_⟩:=I.tuple h;obtain ⟨its',r',⟨o',e',_,n',d'⟩,_⟩:=I.tuple h';rw [e] at e';cases e';rw [d] at d';injection d' with d1 _
 have:A3=its':=by simpa using rW Array.toList d1
 subst this;exact r.inj r'
end
noncomputable abbrev Cx.Hi (X:Cx)(E:Value->Shared->Prop):Cx:={ X with xe:=E }
noncomputable abbrev Cx.Oi (X:Cx):Cx:=X.Hi fun _ _=>False
theorem Cx.Ok.Hi (ok:X.Ok)(E:Value->Shared->Prop):(X.Hi E).Ok:=
 ⟨ok.mod,ok.kind,ok.glob,ok.blt,ok.above,ok.inj,ok.has,ok.ON,ok.hd,ok.frames,ok.Rt,ok.Qj,ok.bs,ok.IE,ok.Ov,ok.Nh,ok.GQ,ok.LA⟩
def Cx.Ok.JK (ok:(X.Hi E).Ok):X.Ok:=
 ⟨ok.mod,ok.kind,ok.glob,ok.blt,ok.above,ok.inj,ok.has,ok.ON,ok.hd,ok.frames,ok.Rt,ok.Qj,ok.bs,ok.IE,ok.Ov,ok.Nh,ok.GQ,ok.LA⟩
section
theorem Inv.Hi (I:Inv X pins σ H s)(E:Value->Shared->Prop):Inv (X.Hi E) pins σ H s:=⟨I.ok.Hi E,I.os,I.bare,I.base,I.loc,I.cell,I.free,I.Hd,I.pin,I.AK,I.len⟩
theorem Inv.JK (I:Inv (X.Hi E) pins σ H s):Inv X pins σ H s:=⟨I.ok.JK,I.os,I.bare,I.base,I.loc,I.cell,I.free,I.Hd,I.pin,I.AK,I.len⟩
theorem SP.JK {D:Ends}{f:Flow}(h:SP (X.Hi E) pins D f s'):SP X pins D f s':=by
 cases f with
 | next=>obtain ⟨σ',H',I,q⟩:=h;exact ⟨σ',H',I.JK,q⟩
 | brk=>obtain ⟨σ',H',I,q⟩:=h;exact ⟨σ',H',I.JK,q⟩
 | cont=>obtain ⟨σ',H',I,q⟩:=h;exact ⟨σ',H',I.JK,q⟩
 | ret u=>obtain ⟨v,σ',H',I,r,q⟩:=h;exact ⟨v,σ',H',I.JK,r,q⟩
theorem EH.Oi {st:List Stmt}{t:TS}(h:EH X.Oi st t):EH X st t:=fun pins s σ H D I hw=>
 pK (h pins s σ H D (I.Hi _) hw) (fun _ _ q=>q.JK) fun _ _ z=>False.elim z
variable {st:Stmt}{rest:List Stmt}{t u:TS}
def YJ:TS:=fun D σ H=>D.nx σ H
def Om (t u:TS):TS:=fun D σ H=>t { D with nx:=u D } σ H
def rE (h1:PS X st t)(h2:EH X rest u):EH X (st::rest) (Om t u):=by
 intro pins s σ H D I h;refine wpAny_execs_cons (AL (h1 pins s σ H { D with nx:=u D } I h) fun f s1 q=>?_)
 cases f with
 | next=>
  obtain ⟨σ',H',I',q⟩:=q;exact h2 pins s1 σ' H' D I' q
 | ret v=>exact q
 | brk=>exact q
 | cont=>exact q
def ZCC (h1:PS X st t):EH X [st] t:=by
 intro pins s σ H D I h;refine wpAny_execs_cons (AL (h1 pins s σ H D I h) fun f s1 q=>?_);cases f with
 | next=>exact ZAD q
 | ret v=>exact q
 | brk=>exact q
 | cont=>exact q
def Inv.quiet (I:Inv X pins σ H s):interactive X.env=false:=by simp [interactive,I.ok.kind]
def HQ (te:TE):TS:=fun D σ H=>te σ H fun _ H1=>D.nx σ H1
def J6 (te:TE):TS:=fun D σ H=>te σ H D.rt
def Vk:TS:=fun D _ H=>D.rt .AB H
def W6 (c:TT)(t u:TS):TS:=fun D σ H=>c σ H fun b H1=>if b=true then t D σ H1 else u D σ H1
def fH:TS:=fun _ _ _=>False
end
abbrev TG:=V->St->Hp->(St->Hp->Prop)->Prop
abbrev Gn:=List V->St->Hp->(St->Hp->Prop)->Prop
def PG (X:Cx)(target:Expr)(t:TG):Prop:=
 ∀ (pins:ZE7) (s:Shared) (σ:St) (H:Hp) (v:V) (u:Value) (Q:St->Hp->Prop),Inv X pins σ H s->RelV v u->t v σ H Q->
  wpAny (model X.prog X.w) X.A (assign target X.env u) (fun _ s'=>∃ σ' H',Inv X pins σ' H' s'/\Q σ' H') X.xe s
def LS (X:Cx)(ts:List Expr)(t:Gn):Prop:=
 ∀ (pins:ZE7) (s:Shared) (σ:St) (H:Hp) (vs:List V) (us:List Value) (Q:St->Hp->Prop),Inv X pins σ H s->Vals vs us->t vs σ H Q->
  wpAny (model X.prog X.w) X.A (assignInOrder ((assignEach ts X.env).map (·.2)) us) (fun _ s'=>∃ σ' H',Inv X pins σ' H' s'/\Q σ' H') X.xe s
abbrev LW:=V->V->V->Hp->(Hp->Prop)->Prop
def R8 (X:Cx)(t:LW):Prop:=
 ∀ (pins:ZE7) (s:Shared) (σ:St) (H:Hp) (o i v:V) (ov iv u:Value) (Q:Hp->Prop),Inv X pins σ H s->RelV o ov->RelV i iv->RelV v u->t o i v H Q->
  wpAny (model X.prog X.w) X.A (setItem ov iv u) (fun _ s'=>∃ H',Inv X pins σ H' s'/\Q H') X.xe s
abbrev O7:=V->V->Hp->VK->Prop
def WR (X:Cx)(op:Operator)(t:O7):Prop:=
 ∀ (pins:ZE7) (s:Shared) (σ:St) (H:Hp) (x y:V) (v u:Value) (Q:VK),Inv X pins σ H s->RelV x v->RelV y u->t x y H Q->
  wpAny (model X.prog X.w) X.A (inplaceOp op v u) (EP X pins σ Q) X.xe s
def CO (i:Nat):TG:=fun v σ H Q=>Q (σ.set i (some v)) H
def Uw (hN:X.N.Nodup)(hi:X.N[i]?=some x)(hx:Loc X.env.scope x)(hf:X.fn x=true∨X.env.scope.names.lookup x=some .local:=by first | exact .inl rfl | exact .inr rfl | assumption):PG X (.Name x pos) (CO i):=by
 intro pins s σ H v u Q I r h;exact wpAny_assign_Name (bP I hN hi hx r (fun s' I'=>⟨_,H,I',h⟩) hf)
def LR:Gn:=fun vs σ H Q=>vs=[]/\Q σ H
def Gm (t:TG)(u:Gn):Gn:=fun vs σ H Q=>∃ v r,vs=v::r/\t v σ H fun σ' H'=>u r σ' H' Q
def cY:LS X [] LR:=by
 intro pins s σ H vs us Q I r h;obtain ⟨e,h⟩:=h;subst e;cases r;exact assignInOrder_nil ⟨σ,H,I,h⟩
def gF {t:TG}{u:Gn}(h1:PG X e t)(h2:LS X es u)
  (hs:(assignEach (e::es) X.env).map (·.2)=assign e X.env::(assignEach es X.env).map (·.2):=by rfl):LS X (e::es) (Gm t u):=by
 intro pins s σ H vs us Q I r h;obtain ⟨v,vr,e1,h⟩:=h;subst e1;cases r with
 | cons r rr=>
  rw [hs];refine assignInOrder_cons (AL (h1 pins s σ H _ _ _ I r h) fun _ s1 ⟨σ1,H1,I1,q1⟩=>?_);exact h2 pins s1 σ1 H1 _ _ Q I1 rr q1
def Kj (K:ZE6)(n:Nat)(t:Gn):TG:=fun v σ H Q=>∃ a xs,v=.ref a/\Aq K H a xs/\xs.length=n/\t xs σ H Q
def dq {k:Nat}{t:Gn}(hc:X.calm=true)(h:LS X es t)
  (hn:(assignEach es X.env).length=n:=by rfl) (Cb:(assignEach es X.env).findIdx? (·.1)=none:=by rfl):PG X (.Tuple es k pos) (Kj X.K n t):=by
 intro pins s σ H v u Q I r hw;obtain ⟨a,xs,e1,hq,hl,hw⟩:=hw;subst e1;cases r;obtain ⟨A3,rv,ht,hz⟩:=I.tuple hq;refine assign_Tuple_tuple (I.ok.hd hc) ht (by simp [hn,<- hl,rv.length]) Cb fun h' hx=>?_;have I1:Inv X pins σ H { s with heap:=h' }:=I.kept (t':=s.toks) fun b o e=>hx b o (Bf (B9 e)) e
 exact h pins _ σ H xs _ Q I1 (by simpa using rv) hw
def gz (to ti:TE)(t:LW):TG:=fun v σ H Q=>to σ H fun o H1=>ti σ H1 fun i H2=>t o i v H2 fun H3=>Q σ H3
def EE (te:TE)(g:TG):TS:=fun D σ H=>te σ H fun x H1=>g x σ H1 D.nx
def V2 (to ti te:TE)(RF:V->V->Hp->VK->Prop)(Kp:O7)(Qv:LW):TS:=fun D σ H=>to σ H fun o H1=>ti σ H1 fun i H2=>RF o i H2 fun x H3=>te σ H3 fun y H4=>Kp x y H4 fun z H5=>Qv o i z H5 fun H6=>D.nx σ H6
def aW (X:Cx)(t:V->V->Hp->VK->Prop):Prop:=
 ∀ (pins:ZE7) (s:Shared) (σ:St) (H:Hp) (o i:V) (ov iv:Value) (Q:VK),Inv X pins σ H s->RelV o ov->RelV i iv->t o i H Q->
  wpAny (model X.prog X.w) X.A (getItem ov iv) (EP X pins σ Q) X.xe s
def oE {o i:Expr}{to ti:TE}{RF:V->V->Hp->VK->Prop}{Kp:O7}{Qv:LW}{op:Operator}(ho:PE X o to)(hi:PE X i ti)(hg:aW X RF)(he:PE X e te)(hp:WR X op Kp)(hs:R8 X Qv)
  (ha:∀ ov iv new,augStore i ov iv new=(do holding [new,ov,iv] (setItem ov iv new);release [new,ov,iv] [];pure .next):=by intros;rfl):PS X (.AugAssign (.Subscript o i Ka) op e pos) (V2 to ti te RF Kp Qv):=by
 intro pins s σ H D I h;refine wpAny_AugAssign_SubscriptAny (AL (ho pins s σ H _ I h) fun ov s1 ⟨x1,H1,I1,r1,q1⟩=>?_) ha;refine AL (hi pins s1 σ H1 _ I1 q1) fun iv s2 ⟨x2,H2,I2,r2,q2⟩=>?_;refine AL (hg pins s2 σ H2 x1 x2 ov iv _ I2 r1 r2 q2) fun old s3 ⟨x3,H3,I3,r3,q3⟩=>?_;refine AL (he pins s3 σ H3 _ I3 q3) fun v s4 ⟨x4,H4,I4,r4,q4⟩=>?_;refine AL (hp pins s4 σ H4 x3 x4 old v _ I4 r3 r4 q4) fun new s5 ⟨x5,H5,I5,r5,q5⟩=>?_;exact AL (hs pins s5 σ H5 x1 x2 x5 ov iv new _ I5 r1 r2 r5 q5) fun _ s6 ⟨H6,I6,q6⟩=>⟨σ,H6,I6,q6⟩
def bu (f:Int->Int->Int):O7:=fun x y H Q=>∃ i j,x=.int i/\y=.int j/\Q (.int (f i j)) H
def wL:WR X .Add (bu fun i j=>i+j):=by
 intro pins s σ H x y v u Q I r1 r2 h;obtain ⟨i,j,e1,e2,q⟩:=h;subst e1;subst e2;obtain ⟨t,rfl⟩:=r1;obtain ⟨t',rfl⟩:=r2;exact iadd_int ⟨.int _,H,I.tok _,⟨_,rfl⟩,q⟩
def VO (c:TT)(tb:TS):TS:=fun D σ H=>∃ W:Nat->St->Hp->Prop,(∃ m,W m σ H)/\∀ m σ H,W m σ H->
 c σ H fun b H1=>if b=true then ∃ N:St->Hp->Prop,(∀ σ' H',N σ' H'->∃ m',m' < m/\W m' σ' H')/\tb { D with nx:=N,ct:=N,bk:=D.nx } σ H1 else D.nx σ H1
structure It where
 go:Nat->Hp->Prop
 EU:Nat->Hp->V->Hp->Prop
 stop:Nat->Hp->Prop
def EV (X:Cx)(pins:ZE7)(H:Hp)(b:Addr):Prop:=
 H b=none/\b≠X.env.locals/\b∉X.fs/\(b∈X.ex∨X.s₀.heap.objs.size<=b)/\(∀ x c,X.env.cells.lookup x=some c->c≠b)/\∀ p∈X.pn++pins,p.1≠b
def Inv.L7 (I:Inv X pins σ H s)(hb:s.heap.objs.size<=b)(hn:H' b=none):EV X pins H' b:=by
 refine ⟨hn,J4 (E9 I.lt hb),I.sE hb,.inr (D1 I.sz hb),fun x c e z=>?_,fun p hp z=>?_⟩
 ·obtain ⟨v,q⟩:=I.cell x c e;exact absurd (E9 q.lt (by rw [z];exact hb)) (LM _)
 ·exact absurd (E9 (B9 (I.pin p hp).1) (by rw [z];exact hb)) (LM _)
structure Turn (P:Program) (w:World) (K:ZE6) (tg:Expr) (J:It) (fp:List Addr) (it:Addr) (tn:Nat->Heap->Prop):Prop where
 mem:it∈fp
 obj:∀ i h,tn i h->∀ b∈fp,∃ o,h.get? b=some o/\∀ v,o.data≠.cell v
 keep:∀ i h h',tn i h->(∀ b∈fp,∀ o,h.get? b=some o->h'.get? b=some o)->tn i h'
 item:∀ (X:Cx),X.prog=P->X.w=w->X.K=K->X.calm=true->∀ (i:Nat) (pins:ZE7) (s:Shared) (σ:St) (H:Hp) (E:Value->Shared->Prop),Inv X pins σ H s->(∀ b∈fp,EV X pins H b)->tn i s.heap->J.go i H->
  wpAny (model P w) X.A (pyNext (.ref it)) (fun r s1=>∃ u,r=some u/\
   wpAny (model P w) X.A (letOwnedTupleGo tg (.ref it) u) (fun _ s2=>∃ x H',Inv X pins σ H' s2/\RelV x u/\J.EU i H x H'/\tn (i+1) s2.heap/\∀ b∈fp,H' b=none) E s1) E s
 done:∀ (X:Cx),X.prog=P->X.w=w->X.K=K->X.calm=true->∀ (i:Nat) (pins:ZE7) (s:Shared) (σ:St) (H:Hp) (E:Value->Shared->Prop),Inv X pins σ H s->(∀ b∈fp,EV X pins H b)->tn i s.heap->J.stop i H->
  wpAny (model P w) X.A (pyNext (.ref it)) (fun r s1=>r=none/\Inv X pins σ H s1) E s
 self:∀ (A:Around) (i:Nat) (s:Shared) (Q:Value->Shared->Prop) (E:Value->Shared->Prop),tn i s.heap->Q (.ref it) s->wpAny (model P w) A (pyIter (.ref it)) Q E s
abbrev TI:=St->Hp->(It->Hp->Prop)->Prop
def Z8 (X:Cx)(pins:ZE7)(σ:St)(tg:Expr)(R:It->Hp->Prop)(Py:Value)(s2:Shared):Prop:=
 ∃ (it:Addr) (fp:List Addr) (tn:Nat->Heap->Prop) (J:It) (H':Hp),Py=.ref it/\Inv X pins σ H' s2/\Turn X.prog X.w X.K tg J fp it tn/\tn 0 s2.heap/\(∀ b∈fp,EV X pins H' b)/\R J H'
def PI (X:Cx)(tg iter:Expr)(wi:TI):Prop:=
 ∀ (pins:ZE7) (s:Shared) (σ:St) (H:Hp) (R:It->Hp->Prop),Inv X pins σ H s->wi σ H R->
  wpAny (model X.prog X.w) X.A (eval iter X.env) (fun v s1=>wpAny (model X.prog X.w) X.A (pyIter v) (Z8 X pins σ tg R) X.xe s1) X.xe s
def Pr {o:Obj}{n:String}{vs:Array Value}{Q:Unit->Shared->Prop}(ho:s.heap.get? it=some o)(hc:o.cls=.type n)(hd:o.data=.fields vs)
  (hn:["enumerate","zip","dict_itemiterator","dict_reverseitemiterator","odict_iterator","itertools.zip_longest","itertools.pairwise"].contains n=false) (hQ:Q () s):wpAny M A (letOwnedTupleGo tg (.ref it) u) Q E s:=by
 unfold letOwnedTupleGo;cases tg <;> first
  | exact jx hQ
  | (cases u <;> first
    | exact jx hQ
    | (
      refine ji (wpAny_load ho ?_);rw [hc,hd];show wpAny M A (if (["enumerate","zip","dict_itemiterator","dict_reverseitemiterator","odict_iterator","itertools.zip_longest","itertools.pairwise"].contains n && vs[0]? == some (rawInt _))=true then _ else _) Q E s
      rw [k6 (by intro h;rw [hn,Bool.false_and] at h;cases h)];exact jx hQ))
noncomputable def ZY (K:ZE6)(a:Addr):It:=
 ⟨fun i H=>∃ xs x,AY K H a xs/\xs[i]?=some x,fun i H x H'=>H'=H/\∀ xs,AY K H a xs->xs[i]?=some x,fun i H=>∃ xs,AY K H a xs/\xs.length<=i⟩
noncomputable def oU (K:ZE6)(a:Addr):It:=
 ⟨fun i H=>∃ xs x,Aq K H a xs/\xs[i]?=some x,fun i H x H'=>H'=H/\∀ xs,Aq K H a xs->xs[i]?=some x,fun i H=>∃ xs,Aq K H a xs/\xs.length<=i⟩
noncomputable def KN (lo:Int)(n:Nat):It:=⟨fun i _=>i<n,fun i H x H'=>H'=H/\x=.int (lo+i),fun i _=>n<=i⟩
def Li {P:Program}{K:ZE6}(a it:Addr):Turn P w K tg (ZY K a) [it] it (fun i h=>h.IsListIter it a i) where
 mem:=by simp
 obj:=fun i h st b hb=>by
  have e:b=it:=by simpa using hb
  subst e;obtain ⟨o,e,c,d⟩:=st;exact ⟨o,e,fun v z=>by rw [d] at z;cases z⟩
 keep:=fun i h h' st k=>st.at fun o e=>k it (by simp) o e
 item:=by
  intro X hP hw hK hc i pins s σ H E I hf st hg;subst hP hw hK;obtain ⟨xs,x,hq,hx⟩:=hg;obtain ⟨A3,rv,p,hz⟩:=I.list hq;obtain ⟨u,hu,ru⟩:=rv.get hx;obtain ⟨f0,f1,f2,f3,f4,f5⟩:=hf it (by simp);refine wpAny_pyNext_list_item st p.isList (x:=u) (by simpa using hu) fun h' DZ sb=>?_
  have I1:Inv X pins σ H { s with heap:=h' }:=I.turned (t':=s.toks) (fun b o hb e=>(sb.2 b hb).trans e) f0 f1 f3 f4 f5
  obtain ⟨o,e,c,d⟩:=id DZ;exact ⟨u,rfl,Pr (s:={ s with heap:=h' }) e c d (by decide) ⟨x,H,I1,ru,⟨rfl,fun ys hy=>by rw [I.bC hy hq];exact hx⟩,DZ,fun b hb=>(hf b hb).1⟩⟩
 done:=by
  intro X hP hw hK hc i pins s σ H E I hf st hg;subst hP hw hK;obtain ⟨xs,hq,hx⟩:=hg;obtain ⟨A3,rv,p,hz⟩:=I.list hq;obtain ⟨f0,f1,f2,f3,f4,f5⟩:=hf it (by simp);have hl:=rv.length;exact wpAny_pyNext_list_end (I.ok.hd hc) st p.isList (by simp;omega) fun h' eb=>⟨rfl,I.turned (t':=s.toks) (fun b o hb e=>eb b o hb e) f0 f1 f3 f4 f5⟩
 self:=fun _ _ _ _ _ st h=>wpAny_pyIter_listiter st h
def NW {P:Program}{K:ZE6}(a it:Addr):Turn P w K tg (oU K a) [it] it (fun i h=>h.IsTupleIter it a i) where
 mem:=by simp
 obj:=fun i h st b hb=>by
  have e:b=it:=by simpa using hb
  subst e;obtain ⟨o,e,c,d⟩:=st;exact ⟨o,e,fun v z=>by rw [d] at z;cases z⟩
 keep:=fun i h h' st k=>st.at fun o e=>k it (by simp) o e
 item:=by
  intro X hP hw hK hc i pins s σ H E I hf st hg;subst hP hw hK;obtain ⟨xs,x,hq,hx⟩:=hg;obtain ⟨A3,rv,p,hz⟩:=I.tuple hq;obtain ⟨u,hu,ru⟩:=rv.get hx;obtain ⟨f0,f1,f2,f3,f4,f5⟩:=hf it (by simp);refine wpAny_pyNext_tuple_item st (show s.heap.IsTuple a A3.toArray from p) (x:=u) (by simpa using hu) fun h' DZ sb=>?_
  have I1:Inv X pins σ H { s with heap:=h' }:=I.turned (t':=s.toks) (fun b o hb e=>(sb.2 b hb).trans e) f0 f1 f3 f4 f5
  obtain ⟨o,e,c,d⟩:=id DZ;exact ⟨u,rfl,Pr (s:={ s with heap:=h' }) e c d (by decide) ⟨x,H,I1,ru,⟨rfl,fun ys hy=>by rw [I.Nk hy hq];exact hx⟩,DZ,fun b hb=>(hf b hb).1⟩⟩
 done:=by
  intro X hP hw hK hc i pins s σ H E I hf st hg;subst hP hw hK;obtain ⟨xs,hq,hx⟩:=hg;obtain ⟨A3,rv,p,hz⟩:=I.tuple hq;obtain ⟨f0,f1,f2,f3,f4,f5⟩:=hf it (by simp);have hl:=rv.length;exact wpAny_pyNext_tuple_end (I.ok.hd hc) st (show s.heap.IsTuple a A3.toArray from p) (by simp;omega) fun h' eb=>⟨rfl,I.turned (t':=s.toks) (fun b o hb e=>eb b o hb e) f0 f1 f3 f4 f5⟩
 self:=fun _ _ _ _ _ st h=>wpAny_pyIter_tupleiter st h
def kP {P:Program}{K:ZE6}(it:Addr)(lo:Int)(n:Nat):Turn P w K tg (KN lo n) [it] it (fun i h=>IsRangeIter h it (lo+(i:Nat) * 1) ((n:Int) - (i:Nat)) 1) where
 mem:=by simp
 obj:=fun i h st b hb=>by
  have e:b=it:=by simpa using hb
  subst e;exact ⟨_,st,fun v z=>by
   have z':Data.fields _=Data.cell v:=z;cases z'⟩
 keep:=fun i h h' st k=>k it (by simp) _ st
 item:=by
  intro X hP hw hK hc i pins s σ H E I hf st hg;subst hP hw hK;obtain ⟨f0,f1,f2,f3,f4,f5⟩:=hf it (by simp);have W:=Walks.range (prog:=X.prog) (w:=X.w) (I.ok.hd hc) it lo 1 n;refine W.item i s _ _ hg st fun v h' tk hv DZ kk=>?_;obtain ⟨t,rfl⟩:=hv;have I1:Inv X pins σ H { s with heap:=h',toks:=tk }:=I.turned (fun b o hb e=>kk b o (by simpa using hb) e) f0 f1 f3 f4 f5
  refine ⟨_,rfl,Pr (s:={ s with heap:=h',toks:=tk }) (n:="range_iterator") DZ rfl rfl (by decide) ⟨.int (lo+i),H,I1,⟨t,?_⟩,⟨rfl,rfl⟩,DZ,fun b hb=>(hf b hb).1⟩⟩
  rw [Int.mul_one]
 done:=by
  intro X hP hw hK hc i pins s σ H E I hf st hg;subst hP hw hK;obtain ⟨f0,f1,f2,f3,f4,f5⟩:=hf it (by simp);exact wpAny_pyNext_range_end (I.ok.hd hc) st (by have:n<=i:=hg;omega) fun h' eb=>⟨rfl,I.turned (t':=s.toks) (fun b o hb e=>eb b o hb e) f0 f1 f3 f4 f5⟩
 self:=fun _ _ _ _ _ st h=>wpAny_pyIter_rangeiter st h
def Uc (K:ZE6)(tl:TE):TI:=fun σ H R=>tl σ H fun x H1=>∃ a,x=.ref a/\(∃ xs,AY K H1 a xs)/\R (ZY K a) H1
def Zf {R:It->Hp->Prop}{lo hi:Int}{t u v:Tok}(I:Inv X pins σ H s)(h1:-(2 ^ 62)<=lo)(h2:lo<2 ^ 62)(h3:-(2 ^ 62)<=hi)(h4:hi<2 ^ 62)
  (q:R (KN lo (hi - lo).toNat) H):wpAny (model X.prog X.w) X.A (pyIter (.ref s.heap.objs.size)) (Z8 X pins σ tg R) E { s with heap:=s.heap.push { cls:=.type "range", data:=.fields #[.int lo t,.int hi u,.int 1 v] },toks:=tk }:=by
 refine wpAny_pyIter_range (IsRange.new ..) (small_one h1 h2 h3 h4) ?_;have I1:Inv X pins σ H { s with heap:=s.heap.push { cls:=.type "range", data:=.fields #[.int lo t,.int hi u,.int 1 v] },toks:=tk }:=I.kept fun b o e=>BQ _ e
 refine ⟨(s.heap.push { cls:=.type "range", data:=.fields #[.int lo t,.int hi u,.int 1 v] }).objs.size,[(s.heap.push { cls:=.type "range", data:=.fields #[.int lo t,.int hi u,.int 1 v] }).objs.size],_,_,H,rfl,
  I1.kept (t':=tk) fun b o e=>BQ _ e,kP _ lo (hi - lo).toNat,?_,fun b hb=>?_,q⟩
 ·have e1:lo+((0:Nat):Int) * 1=lo:=by simp
  have e2:(((hi - lo).toNat:Nat):Int) - ((0:Nat):Int)=Builtin.Range.rangeSize lo hi 1:=by rw [rangeSize_one];split <;> omega
  show IsRangeIter _ _ (lo+((0:Nat):Int) * 1) ((((hi - lo).toNat:Nat):Int) - ((0:Nat):Int)) 1;rw [e1,e2];exact Ba _ rfl
 ·have e:b=(s.heap.push { cls:=.type "range", data:=.fields #[.int lo t,.int hi u,.int 1 v] }).objs.size:=by simpa using hb
  subst e;exact I1.L7 (Ai _) (I1.AK.fresh (Ai _))
def Vo (ta:TA):TI:=fun σ H R=>ta σ H fun vs H1=>∃ j:Int,vs=[.int j]/\-(2 ^ 62)<=j/\j<2 ^ 62/\R (KN 0 j.toNat) H1
def X8 (ta:TA):TI:=fun σ H R=>ta σ H fun vs H1=>∃ i j:Int,vs=[.int i,.int j]/\(-(2 ^ 62)<=i/\i<2 ^ 62/\-(2 ^ 62)<=j/\j<2 ^ 62)/\R (KN i (j - i).toNat) H1
def Qn (wi:TI)(g:TG)(tb:TS):TS:=fun D σ H=>wi σ H fun J H1=>∃ W:Nat->Nat->St->Hp->Prop,(∃ m,W 0 m σ H1)/\∀ i m σ H,W i m σ H->
 (J.stop i H/\D.nx σ H)∨(J.go i H/\∃ N:St->Hp->Prop,(∀ σ' H',N σ' H'->∃ m',m' < m/\W (i+1) m' σ' H')/\∀ x H',J.EU i H x H'->g x σ H' fun σ2 H2=>tb { D with nx:=N,ct:=N,bk:=D.nx } σ2 H2)
noncomputable def Mo (fp:List Addr)(h:Heap):ZE7:=fp.filterMap fun b=>(h.get? b).map fun o=>(b,o)
def Qq {o:Obj}(hb:b∈fp)(e:h.get? b=some o):(b,o)∈Mo fp h:=List.mem_filterMap.mpr ⟨b,hb,by rw [e];rfl⟩
def vf {p:Addr×Obj}(hp:p∈Mo fp h):p.1∈fp/\h.get? p.1=some p.2:=by
 obtain ⟨b,hb,e⟩:=List.mem_filterMap.mp hp;cases q:h.get? b with
 | none=>rw [q] at e;cases e
 | some o=>
  rw [q] at e;have e':(b,o)=p:=Bc e;subst e';exact ⟨hb,q⟩
def Inv.pinned (I:Inv X pins σ H s)(hf:∀ b∈fp,EV X pins H b)(ho:∀ b∈fp,∃ o,s.heap.get? b=some o/\∀ v,o.data≠.cell v):Inv X (pins++Mo fp s.heap) σ H s:=
 I.ZO fun p hp=>(List.mem_append.mp hp).elim (fun z=>I.pin p (Hu _ z)) fun z=>by
  obtain ⟨hb,e⟩:=vf z;obtain ⟨f0,f1,f2,_⟩:=hf p.1 hb;obtain ⟨o,e',d⟩:=ho p.1 hb;rw [e] at e';cases e';exact ⟨e,f0,f1,f2,d⟩
def Inv.Mp {pl:ZE7}(I:Inv X (pins++pl) σ H s):Inv X pins σ H s:=I.ZO fun p hp=>I.pin p (Hu _ (Mi _ hp))
def ZBa {lo:Int}{g:TG}{tb:TS}{D:Ends}(Pv:Nat->St->Hp->Prop)(h0:Pv 0 σ H)
  (hs:∀ i σ H,i<n->Pv i σ H->g (.int (lo+i)) σ H fun σ2 H2=>tb { D with nx:=Pv (i+1),ct:=Pv (i+1),bk:=D.nx } σ2 H2) (hd:∀ σ H,Pv n σ H->D.nx σ H) :
  ∃ W:Nat->Nat->St->Hp->Prop,(∃ m,W 0 m σ H)/\∀ i m σ H,W i m σ H->
   ((KN lo n).stop i H/\D.nx σ H)∨((KN lo n).go i H/\∃ N:St->Hp->Prop,(∀ σ' H',N σ' H'->∃ m',m' < m/\W (i+1) m' σ' H')/\∀ x H',(KN lo n).EU i H x H'->g x σ H' fun σ2 H2=>tb { D with nx:=N,ct:=N,bk:=D.nx } σ2 H2):=by
 refine ⟨fun i m σ H=>m=n - i/\i<=n/\Pv i σ H,⟨n,by simp,CM _,h0⟩,?_⟩;rintro i m σ H ⟨rfl,hi,p⟩
 by_cases AQ:i<n
 ·refine .inr ⟨AQ,Pv (i+1),fun σ' H' p'=>⟨n - (i+1),by omega,rfl,AQ,p'⟩,fun x H' y=>?_⟩;obtain ⟨e,y⟩:=y;subst e y;exact hs i σ _ AQ p
 ·have e:i=n:=by omega
  subst e;exact .inl ⟨Ai _,hd σ H p⟩
abbrev R2:=V->V->Hp->VK->Prop
def BD (X:Cx)(f:Value->Value->Sem Value)(r:R2):Prop:=
 ∀ (pins:ZE7) (s:Shared) (σ:St) (H:Hp) (x y:V) (v u:Value) (Q:VK),Inv X pins σ H s->RelV x v->RelV y u->r x y H Q->
  wpAny (model X.prog X.w) X.A (f v u) (EP X pins σ Q) X.xe s
def QN (X:Cx)(f:Value->Sem Value)(r:V->Hp->VK->Prop):Prop:=
 ∀ (pins:ZE7) (s:Shared) (σ:St) (H:Hp) (x:V) (v:Value) (Q:VK),Inv X pins σ H s->RelV x v->r x H Q->
  wpAny (model X.prog X.w) X.A (f v) (EP X pins σ Q) X.xe s
def CJ (X:Cx)(f:Value)(r:List V->Hp->VK->Prop):Prop:=
 ∀ (pins:ZE7) (s:Shared) (σ:St) (H:Hp) (xs:List V) (us:List Value) (Q:VK),Inv X pins σ H s->Vals xs us->r xs H Q->
  wpAny (model X.prog X.w) X.A (call f us) (EP X pins σ Q) X.xe s
def BX (r:R2)(ta tb:TE):TE:=fun σ H Q=>ta σ H fun x H1=>tb σ H1 fun y H2=>r x y H2 Q
def PF (r:V->Hp->VK->Prop)(ta:TE):TE:=fun σ H Q=>ta σ H fun x H1=>r x H1 Q
def rI (C:Int->Int->Prop)(g:Int->Int->V):R2:=fun x y H Q=>∃ i j,x=.int i/\y=.int j/\C i j/\Q (g i j) H
def FG (g:Int->Int->V):R2:=fun x y H Q=>∃ i j,x=.int i/\y=.int j/\Q (g i j) H
def rU (g:Int->V):V->Hp->VK->Prop:=fun x H Q=>∃ i,x=.int i/\Q (g i) H
section
variable {a b c:Expr}
def UN (ha:PE X a ta)(hb:PE X b tb){R:V->V->Hp->Prop}(I:Inv X pins σ H s)
  (h:ta σ H fun x H1=>tb σ H1 fun y H2=>R x y H2)
  (hf:∀ v u s2 x y H2,Inv X pins σ H2 s2->RelV x v->RelV y u->R x y H2->wpAny (model X.prog X.w) X.A (f v u) Q X.xe s2) :
  wpAny (model X.prog X.w) X.A (eval a X.env) (fun v s₁=>wpAny (model X.prog X.w) X.A (eval b X.env) (fun u s₂=>wpAny (model X.prog X.w) X.A (f v u) Q X.xe s₂) X.xe s₁) X.xe s:=by
 refine AL (ha pins s σ H _ I h) fun v s1 ⟨x,H1,I1,r1,q1⟩=>?_;refine AL (hb pins s1 σ H1 _ I1 q1) fun u s2 ⟨y,H2,I2,r2,q2⟩=>?_;exact hf v u s2 x y H2 I2 r1 r2 q2
def Ph {C:Int->Int->Prop}{g:Int->Int->Int}
  (rule:∀ (i j:Int) (t u:Tok) (s:Shared) (Q:Value->Shared->Prop) (E:Value->Shared->Prop),C i j->Q (.int (g i j) s.toks) { s with toks:=s.toks+1 }->wpAny (model X.prog X.w) X.A (f (.int i t) (.int j u)) Q E s) :
  BD X f (rI C fun i j=>.int (g i j)):=by
 intro pins s σ H x y v u Q I rx ry h;obtain ⟨i,j,rfl,rfl,hc,q⟩:=h;obtain ⟨t,rfl⟩:=rx;obtain ⟨t',rfl⟩:=ry;exact rule i j t t' s _ _ hc ⟨.int (g i j),H,I.tok _,⟨_,rfl⟩,q⟩
def bE {g:Int->Int->Int}
  (rule:∀ (i j:Int) (t u:Tok) (s:Shared) (Q:Value->Shared->Prop) (E:Value->Shared->Prop),Q (.int (g i j) s.toks) { s with toks:=s.toks+1 }->wpAny (model X.prog X.w) X.A (f (.int i t) (.int j u)) Q E s) :
  BD X f (FG fun i j=>.int (g i j)):=by
 intro pins s σ H x y v u Q I rx ry h;obtain ⟨i,j,rfl,rfl,q⟩:=h;obtain ⟨t,rfl⟩:=rx;obtain ⟨t',rfl⟩:=ry;exact rule i j t t' s _ _ ⟨.int (g i j),H,I.tok _,⟨_,rfl⟩,q⟩
def Rh {g:Int->Int->Bool}
  (rule:∀ (i j:Int) (t u:Tok) (s:Shared) (Q:Value->Shared->Prop) (E:Value->Shared->Prop),Q (.bool (g i j)) s->wpAny (model X.prog X.w) X.A (f (.int i t) (.int j u)) Q E s) :
  BD X f (FG fun i j=>.bl (g i j)):=by
 intro pins s σ H x y v u Q I rx ry h;obtain ⟨i,j,rfl,rfl,q⟩:=h;obtain ⟨t,rfl⟩:=rx;obtain ⟨t',rfl⟩:=ry;exact rule i j t t' s _ _ ⟨.bl (g i j),H,I,rfl,q⟩
def tM (i j:Int):Prop:=0<=j/\j<=1000000/\i.natAbs<2 ^ 64
def DB:BD X (binaryOp .Add) (FG fun i j=>.int (i+j)):=bE fun _ _ _ _ _ _ _ q=>add_int q
def Lf:BD X (binaryOp .Sub) (FG fun i j=>.int (i - j)):=bE fun _ _ _ _ _ _ _ q=>sub_int q
def J1:BD X (binaryOp .Mod) (rI (fun _ j=>0<j) fun i j=>.int (i % j)):=Ph fun i j _ _ _ _ _ hc q=>by
 have h1:(0:Int)<j:=hc;exact mod_int' (by omega) (by rw [Int.fmod_eq_emod_of_nonneg i (by omega)];exact q)
def J7:BD X (binaryOp .Pow) (rI tM fun i j=>.int (i ^ j.toNat)):=Ph fun _ _ _ _ _ _ _ hc q=>pow_int_small hc.1 hc.2.1 hc.2.2 q
def unI {f:Value->Sem Value}{g:Int->Int}
  (rule:∀ (i:Int) (t:Tok) (s:Shared) (Q:Value->Shared->Prop) (E:Value->Shared->Prop),Q (.int (g i) s.toks) { s with toks:=s.toks+1 }->wpAny (model X.prog X.w) X.A (f (.int i t)) Q E s) :
  QN X f (rU fun i=>.int (g i)):=by
 intro pins s σ H x v Q I rx h;obtain ⟨i,rfl,q⟩:=h;obtain ⟨t,rfl⟩:=rx;exact rule i t s _ _ ⟨.int (g i),H,I.tok _,⟨_,rfl⟩,q⟩
def HC:QN X (unaryOp .USub) (rU fun i=>.int (-i)):=unI fun _ _ _ _ _ q=>neg_int q
end
noncomputable def Pg:V->V->Bool
 | .AB,.AB=>true | .AB,.int _=>true | .int _,.AB=>true | .AB,.bl _=>true | .bl _,.AB=>true | .AB,.str _=>true | .str _,.AB=>true
 | .int _,.int _=>true | .bl _,.bl _=>true | .str _,.str _=>true | .G2 _,.G2 _=>true
 | .int _,.str _=>true | .str _,.int _=>true | .bl _,.str _=>true | .str _,.bl _=>true
 | _,_=>false
def Rz:R2:=fun x y H Q=>Pg x y=true/\Q (.bl (decide (x=y))) H
def d9:R2:=fun x y H Q=>Pg x y=true/\Q (.bl (!decide (x=y))) H
def bW {i j:Int}:decide (V.int i=V.int j)=(i == j):=by
 rw [Ow];simp
def ic {i j:Bool}:decide (V.bl i=V.bl j)=(i == j):=by
 rw [Ow];simp
def ax {i j:Str}:decide (V.str i=V.str j)=(i == j):=by
 rw [Ow];simp
def bj {i j:Array UInt8}:decide (V.G2 i=V.G2 j)=(i.toList == j.toList):=by
 rw [Ow];cases i;cases j;simp
section
variable {a b c:Expr}
def Bx {Q:VK}{k k':Bool}(I:Inv X pins σ H s)(q:Q (.bl k) H)(e:k=k'):EP X pins σ Q (.bool k') s:=by
 subst e;exact ⟨.bl k,H,I,rfl,q⟩
def Bp:BD X (compareOp .Eq) Rz:=by
 intro pins s σ H x y v u Q I rx ry h;obtain ⟨hs,q⟩:=h;cases x with
 | AB=>
  cases rx;cases y with
  | AB=>cases ry;exact PySem.EqNone.eq_none_none (Bx I q (by simp))
  | bl j=>cases ry;exact PySem.EqNone.eq_none_bool (Bx I q (by simp))
  | int j=>obtain ⟨t',rfl⟩:=ry;exact PySem.EqNone.eq_none_int (Bx I q (by simp))
  | str j=>obtain ⟨t',rfl⟩:=ry;exact PySem.EqNone.eq_none_str (Bx I q (by simp))
  | _=>exact absurd (show false=true from hs) Cr
 | bl i=>
  cases rx;cases y with
  | AB=>cases ry;exact PySem.EqNone.eq_bool_none (Bx I q (by simp))
  | bl j=>cases ry;exact eq_bool (Bx I q ic)
  | str j=>obtain ⟨t',rfl⟩:=ry;exact PySem.EqMixed.eq_bool_str (Bx I q (by simp))
  | _=>exact absurd (show false=true from hs) Cr
 | int i=>
  obtain ⟨t,rfl⟩:=rx;cases y with
  | AB=>cases ry;exact PySem.EqNone.eq_int_none (Bx I q (by simp))
  | int j=>obtain ⟨t',rfl⟩:=ry;exact eq_int (Bx I q bW)
  | str j=>obtain ⟨t',rfl⟩:=ry;exact PySem.EqMixed.eq_int_str (Bx I q (by simp))
  | _=>exact absurd (show false=true from hs) Cr
 | str i=>
  obtain ⟨t,rfl⟩:=rx;cases y with
  | AB=>cases ry;exact PySem.EqNone.eq_str_none (Bx I q (by simp))
  | bl j=>cases ry;exact PySem.EqMixed.eq_str_bool (Bx I q (by simp))
  | int j=>obtain ⟨t',rfl⟩:=ry;exact PySem.EqMixed.eq_str_int (Bx I q (by simp))
  | str j=>obtain ⟨t',rfl⟩:=ry;exact eq_str (Bx I q ax)
  | _=>exact absurd (show false=true from hs) Cr
 | G2 i=>
  obtain ⟨t,rfl⟩:=rx;cases y with
  | G2 j=>obtain ⟨t',rfl⟩:=ry;exact PySem.W.eq_bytes (Bx I q bj)
  | _=>exact absurd (show false=true from hs) Cr
 | _=>cases y <;> exact absurd (show false=true from hs) Cr
def cE:BD X (compareOp .NotEq) d9:=by
 intro pins s σ H x y v u Q I rx ry h;obtain ⟨hs,q⟩:=h;cases x with
 | AB=>
  cases rx;cases y with
  | AB=>cases ry;exact PySem.EqNone.ne_none_none (Bx I q (by simp))
  | bl j=>cases ry;exact PySem.EqNone.ne_none_bool (Bx I q (by simp))
  | int j=>obtain ⟨t',rfl⟩:=ry;exact PySem.EqNone.ne_none_int (Bx I q (by simp))
  | str j=>obtain ⟨t',rfl⟩:=ry;exact PySem.EqNone.ne_none_str (Bx I q (by simp))
  | _=>exact absurd (show false=true from hs) Cr
 | bl i=>
  cases rx;cases y with
  | AB=>cases ry;exact PySem.EqNone.ne_bool_none (Bx I q (by simp))
  | bl j=>cases ry;exact ne_bool (Bx I q (rW not ic))
  | str j=>obtain ⟨t',rfl⟩:=ry;exact PySem.EqMixed.ne_bool_str (Bx I q (by simp))
  | _=>exact absurd (show false=true from hs) Cr
 | int i=>
  obtain ⟨t,rfl⟩:=rx;cases y with
  | AB=>cases ry;exact PySem.EqNone.ne_int_none (Bx I q (by simp))
  | int j=>obtain ⟨t',rfl⟩:=ry;exact ne_int (Bx I q (rW not bW))
  | str j=>obtain ⟨t',rfl⟩:=ry;exact PySem.EqMixed.ne_int_str (Bx I q (by simp))
  | _=>exact absurd (show false=true from hs) Cr
 | str i=>
  obtain ⟨t,rfl⟩:=rx;cases y with
  | AB=>cases ry;exact PySem.EqNone.ne_str_none (Bx I q (by simp))
  | bl j=>cases ry;exact PySem.EqMixed.ne_str_bool (Bx I q (by simp))
  | int j=>obtain ⟨t',rfl⟩:=ry;exact PySem.EqMixed.ne_str_int (Bx I q (by simp))
  | str j=>obtain ⟨t',rfl⟩:=ry;exact ne_str (Bx I q (rW not ax))
  | _=>exact absurd (show false=true from hs) Cr
 | G2 i=>
  obtain ⟨t,rfl⟩:=rx;cases y with
  | G2 j=>obtain ⟨t',rfl⟩:=ry;exact PySem.W.ne_bytes (Bx I q (rW not bj))
  | _=>exact absurd (show false=true from hs) Cr
 | _=>cases y <;> exact absurd (show false=true from hs) Cr
def RX:BD X (compareOp .Lt) (FG fun i j=>.bl (decide (i<j))):=Rh fun _ _ _ _ _ _ _ q=>lt_int q
def PU:BD X (compareOp .LtE) (FG fun i j=>.bl (decide (i<=j))):=Rh fun _ _ _ _ _ _ _ q=>le_int q
def L3:BD X (compareOp .Gt) (FG fun i j=>.bl (decide (j<i))):=Rh fun _ _ _ _ _ _ _ q=>gt_int q
def mT:BD X (compareOp .GtE) (FG fun i j=>.bl (decide (j<=i))):=Rh fun _ _ _ _ _ _ _ q=>ge_int q
def pL:BD X (compareOp .In) (fun x y H Q=>∃ i j,x=.str i/\y=.str j/\Q (.bl (!(Builtin.Str.occurrences j i 0 j.length 1).isEmpty)) H):=by
 intro pins s σ H x y v u Q I rx ry h;obtain ⟨i,j,rfl,rfl,q⟩:=h;obtain ⟨t,rfl⟩:=rx;obtain ⟨t',rfl⟩:=ry;exact in_str (Bx I q rfl)
def p6:BD X (compareOp .Is) (fun x y H Q=>y=.AB/\Q (.bl (decide (x=.AB))) H):=by
 intro pins s σ H x y v u Q I rx ry h;obtain ⟨rfl,q⟩:=h;cases ry;refine is_none_gen (Bx I q ?_);cases x <;> first
  | (cases rx;rfl)
  | (obtain ⟨t,rfl⟩:=rx;rfl)
def aB:BD X (compareOp .IsNot) (fun x y H Q=>y=.AB/\Q (.bl (!decide (x=.AB))) H):=by
 intro pins s σ H x y v u Q I rx ry h;obtain ⟨rfl,q⟩:=h;cases ry;refine isnot_none_gen (Bx I q ?_);cases x <;> first
  | (cases rx;rfl)
  | (obtain ⟨t,rfl⟩:=rx;rfl)
def iP (b:Expr)(h:op≠.In:=by decide)(h2:op≠.NotIn:=by decide):behindInMarks op b=false:=by
 have e1:(op == CmpOp.In)=false:=by cases op <;> first | rfl | exact absurd rfl h
 have e2:(op == CmpOp.NotIn)=false:=by cases op <;> first | rfl | exact absurd rfl h2
 cases b <;> simp [behindInMarks,e1,e2]
def IZ (t:TE):TT:=fun σ H Q=>t σ H fun x H'=>∃ k,x=.bl k/\Q k H'
def pZ {r:R2}(ho:BD X (compareOp op) r)(ha:PE X a ta)(hb:PE X b tb)(hm:behindInMarks op b=false):PT X (.Compare a [op] [b] pos) (IZ (BX r ta tb)):=by
 intro pins s σ H Q I h;refine wpAny_isTrue_Compare1 (AL (ha pins s σ H _ I h) fun v s1 ⟨x,H1,I1,r1,q1⟩=>AL (hb pins s1 σ H1 _ I1 q1) fun u s2 ⟨y,H2,I2,r2,q2⟩=>
  AL (ho pins s2 σ H2 x y v u _ I2 r1 r2 q2) fun c s3 ⟨z,H3,I3,r3,k,e,q3⟩=>?_) hm
 subst e;cases r3;exact pT ⟨H3,I3,q3⟩
def OJ (r r':R2)(ta tb tc:TE):TE:=fun σ H Q=>ta σ H fun x H1=>tb σ H1 fun y H2=>r x y H2 fun z H3=>∃ k,z=.bl k/\
 (if k=true then tc σ H3 fun w' H4=>r' y w' H4 Q else Q (.bl false) H3)
def JF:(sizeLine:Nat)<2 ^ 63:=by rw [sizeLine_eq];decide
def bg:BD X (binaryOp .Add) (fun x y H Q=>∃ i j,x=.str i/\y=.str j/\i.length+j.length<=sizeLine/\Q (.str (i++j)) H):=by
 intro pins s σ H x y v u Q I rx ry h;obtain ⟨i,j,rfl,rfl,hz,q⟩:=h;obtain ⟨t,rfl⟩:=rx;obtain ⟨t',rfl⟩:=ry;exact add_str (fun t' tk=>⟨.str (i++j),H,I.tok _,⟨_,rfl⟩,q⟩) hz
def vals1 {x:V}(r:Vals [x] us):∃ u,us=[u]/\RelV x u:=by
 cases r with
 | cons r1 r2=>cases r2;exact ⟨_,rfl,r1⟩
def vals2 {x:V}(r:Vals [x,y] us):∃ u w',us=[u,w']/\RelV x u/\RelV y w':=by
 cases r with
 | cons r1 r2=>
  cases r2 with
  | cons r3 r4=>cases r4;exact ⟨_,_,rfl,r1,r3⟩
def Uj (hc:X.calm=true):CJ X (.builtin "max") (fun xs H Q=>∃ i j,xs=[.int i,.int j]/\Q (.int (if j > i then j else i)) H):=by
 intro pins s σ H xs us Q I r h;obtain ⟨i,j,rfl,q⟩:=h;obtain ⟨u,w',rfl,⟨t,rfl⟩,⟨t',rfl⟩⟩:=vals2 r;refine max_two_ints (I.ok.hd hc) fun h' tk k=>⟨_,H,I.kept k,?_,q⟩
 by_cases hj:j > i
 ·rw [mZ hj,mZ hj];exact ⟨_,rfl⟩
 ·rw [k6 hj,k6 hj];exact ⟨_,rfl⟩
def xf (hc:X.calm=true):CJ X (.builtin "min") (fun xs H Q=>∃ i j,xs=[.int i,.int j]/\Q (.int (if j<i then j else i)) H):=by
 intro pins s σ H xs us Q I r h;obtain ⟨i,j,rfl,q⟩:=h;obtain ⟨u,w',rfl,⟨t,rfl⟩,⟨t',rfl⟩⟩:=vals2 r;refine min_two_ints (I.ok.hd hc) fun h' tk k=>⟨_,H,I.kept k,?_,q⟩
 by_cases hj:j<i
 ·rw [mZ hj,mZ hj];exact ⟨_,rfl⟩
 ·rw [k6 hj,k6 hj];exact ⟨_,rfl⟩
def fX:CJ X (.type "int") (fun xs H Q=>(∃ i,xs=[.int i]/\Q (.int i) H)∨∃ k,xs=[.bl k]/\Q (.int (if k then 1 else 0)) H):=by
 intro pins s σ H xs us Q I r h;rcases h with ⟨i,rfl,q⟩ | ⟨k,rfl,q⟩
 ·obtain ⟨u,rfl,t,rfl⟩:=vals1 r;exact call_int_int ⟨.int i,H,I,⟨_,rfl⟩,q⟩
 ·obtain ⟨u,rfl,r1⟩:=vals1 r;cases r1;exact call_int_bool ⟨.int (if k then 1 else 0),H,I.tok _,⟨_,rfl⟩,q⟩
end
structure Ju (h:Heap) (x dx C:Addr) (mA:ZE8):Prop where
 obj:h.get? x=some (PySem.W.instObj C dx)
 ns:h.Ns1 dx mA
 ne:dx≠x
def lD (n:h.Ns1 dx mA):∃ od,h.get? dx=some od/\∀ name,PySem.W.lookIn name od=some (mA name):=by
 obtain ⟨o,es,ep,ho,hd,hk,_,hm⟩:=n;refine ⟨o,ho,fun name=>?_⟩;have e:=hm name;unfold nsFind findBy at e;rw [<- Array.find?_toList] at e;unfold PySem.W.lookIn;rw [hd];dsimp only;split
 ·rename_i y q;rw [q] at e;exact rW some e
 ·rename_i q;rw [q] at e;have a:es.toList.any (·.refKey)=false:=by
   rw [ZCi];intro y hy;obtain ⟨z,t,Oe⟩:=hk y (Array.mem_toList_iff.mp hy);simp [DictEntry.refKey,Oe]
  have a':¬ es.toList.any (·.refKey)=true:=by rw [a];exact Cr
  rw [k6 a'];exact rW some e
def Ju.look {x:Addr}(I:Ju h x dx C mA):∃ od,PySem.W.InstAt h x (PySem.W.instObj C dx) C (some od)/\∀ name,PySem.W.lookIn name od=some (mA name):=
 let ⟨od,ho,hl⟩:=lD I.ns
 ⟨od,⟨I.obj,rfl,rfl,ho⟩,hl⟩
section
variable {K:ZE6}{x f:Addr}{v:Value}
def get_map {expr:Bool}(X:K.In s.heap)(I:Ju s.heap x dx C mA)(hg:PySem.W.plainGet K C name=true)(hh:PySem.W.hasDictIn K C=true)
  (ha:PySem.W.findIn K (.ref C) name=some none) (hv:mA name=some v) (IA:PySem.W.handedIn v=true) (h:Q v { s with toks:=s.toks+1 }) :
  wpAny (model prog w) A (getAttr (.ref x) name expr) Q E s:=by
 obtain ⟨od,J,hl⟩:=I.look;exact PySem.W.get_value X J (jZ hg).1 (PySem.W.findObj_own hh ha rfl (by rw [hl,hv])) IA h
def vg {Q:Value×List Value->Shared->Prop}(X:K.In s.heap)(I:Ju s.heap x dx C mA)(hg:PySem.W.plainGet K C name=true)
  (hf:PySem.W.findIn K (.ref C) name=some (some (.ref f))) (ht:PySem.W.isFn K (.ref f)=true) (hv:mA name=none) (h:Q (.ref f,[.ref x]) s) :
  wpAny (model prog w) A (getMethod (.ref x) name pl) Q E s:=by
 obtain ⟨od,J,hl⟩:=I.look;exact PySem.W.method_fn X J (jZ hg).1 (jZ hg).2 hf (beq_iff_eq.mp ht) (by show (PySem.W.lookIn name od).map (·.isSome)=some false;rw [hl,hv];rfl) h
def oC {Q:Unit->Shared->Prop}(X:K.In s.heap)(I:Ju s.heap x dx C mA)
  (hs:PySem.W.findIn K (.ref C) "__setattr__"=some (some (.builtin "object.__setattr__"))) (hp:PySem.W.plainOver K C=true) (ht:PySem.W.takerIn K C name=some none) (hh:PySem.W.hasDictIn K C=true)
  (hw:PySem.Within mA ns) (hsz:ns.length<=sizeLine)
  (h:∀ h',Ju h' x dx C (fun y=>if y=name then some v else mA y)->Heap.SameBut dx s.heap h'->Q () { s with heap:=h',toks:=s.toks+2 }) :
  wpAny (model prog w) A (setAttr (.ref x) name v) Q E s:=by
 obtain ⟨od,J,hl⟩:=I.look;refine PySem.W.set_plain X J hs (PySem.W.osa_open (s:={ s with toks:=s.toks+1 }) (r:=none) X J hp ht fun b=>?_)
 obtain ⟨cd,hc,Tu⟩:=PySem.W.any_some hh;have hx:s.heap.get? x=some ⟨.ref C,some dx,.plain,#[]⟩:=I.obj;refine ji (jx (ji (ji (wpAny_loadPart hx (ji (PySem.W.Looks.here (s:={ s with toks:=s.toks+1 }) (PySem.W.looks_clsIn X hc) ?_))))))
 rw [Tu];refine jx (a:=some dx) (ji (jx (ji ?_)));refine wpAny_nsSet1 (s:={ s with toks:=s.toks+1 }) I.ns fun h' Ee Ce=>?_
 obtain ⟨oD,esD,epD,hoD,lG,qo⟩:=Ee.count (PySem.Within.cons name v hw);refine ji (wpAny_lookBehind hoD (by rw [lG];exact pastItsLine_dict (D1 qo (by rw [By];omega))) ?_);exact jx (h _ ⟨(Ce.2 _ (Bs I.ne)).trans I.obj,Ee,I.ne⟩ Ce)
def x8 {R:Result->Shared->Prop}{vs:List Value}(X:K.In s.heap)(hm:PySem.W.makesIn K C=true)
  (hi:PySem.W.findIn K (.ref C) "__init__"=some (some (.ref f))) (hf:PySem.W.typeIn K (.ref f)=some (.type "function"))
  (h:codeAny (model prog w) (A.under (.builtin "type.__call__" ⟨.ref C::vs,kw⟩)) (.call (.ref f) ⟨.ref (s.heap.objs.size+1)::vs,kw⟩) (PySem.W.InitBack (s.heap.objs.size+1) R)
   { s with heap:=(s.heap.push PySem.W.emptyDict).push (PySem.W.instObj C s.heap.objs.size) }) :
  codeAny (model prog w) A (.call (.ref C) ⟨vs,kw⟩) R s:=by
 obtain ⟨hh,g,d,t,os⟩:=s;exact PySem.W.make_core (PySem.W.makes_of X hm) (PySem.W.looks_findIn X hi) (fun self=>PySem.W.bind_fn X self hf) (.inl rfl) h
end
noncomputable def DN (f:Str)(v:V):List (Str×V)->List (Str×V)
 | []=>[(f,v)]
 | (g,x)::r=>if g=f then (g,v)::r else (g,x)::DN f v r
theorem gQ (f g:Str)(v:V):∀ fs:List (Str×V),(DN f v fs).lookup g=if g=f then some v else fs.lookup g
 | []=>by
  show List.lookup g [(f,v)]=_
  by_cases h:g=f
  ·have hb:(g == f)=true:=beq_iff_eq.mpr h;simp only [List.lookup,hb,mZ h]
  ·have hb:(g == f)=false:=beq_eq_false_iff_ne.mpr h;simp only [List.lookup,hb,k6 h]
 | (k,x)::r=>by
  have ih:=gQ f g v r;rw [show DN f v ((k,x)::r)=(if k=f then (k,v)::r else (k,x)::DN f v r) from rfl]
  by_cases hk:k=f
  ·rw [mZ hk]
   by_cases h:g=k
   ·have hb:(g == k)=true:=beq_iff_eq.mpr h;simp only [List.lookup,hb,mZ (h.trans hk)]
   ·have hb:(g == k)=false:=beq_eq_false_iff_ne.mpr h;simp only [List.lookup,hb,k6 (fun e:g=f=>h (e.trans hk.symm))]
  ·rw [k6 hk]
   by_cases h:g=k
   ·have hb:(g == k)=true:=beq_iff_eq.mpr h;simp only [List.lookup,hb,k6 (fun e:g=f=>hk (h.symm.trans e))]
   ·have hb:(g == k)=false:=beq_eq_false_iff_ne.mpr h;simp only [List.lookup,hb];exact ih
theorem Sh (f:Str)(v:V):∀ fs:List (Str×V),f∈(DN f v fs).map (·.1)/\∀ g,g∈fs.map (·.1)->g∈(DN f v fs).map (·.1)
 | []=>⟨by simp [DN],fun g h=>by simp at h⟩
 | (k,x)::r=>by
  obtain ⟨i1,i2⟩:=Sh f v r;rw [show DN f v ((k,x)::r)=(if k=f then (k,v)::r else (k,x)::DN f v r) from rfl]
  by_cases hk:k=f
  ·rw [mZ hk];subst hk;exact ⟨by simp,fun g h=>by simpa using h⟩
  ·rw [k6 hk];refine ⟨?_,fun g h=>?_⟩
   ·rw [BL];exact Ek _ i1
   ·rw [BL] at h ⊢;rcases List.mem_cons.mp h with e | e
    ·exact List.mem_cons.mpr (.inl e)
    ·exact Ek _ (i2 g e)
theorem aE (f:Str)(v:V):∀ fs:List (Str×V),(DN f v fs).length<=fs.length+1
 | []=>by simp [DN]
 | (k,x)::r=>by
  have ih:=aE f v r;rw [show DN f v ((k,x)::r)=(if k=f then (k,v)::r else (k,x)::DN f v r) from rfl]
  by_cases hk:k=f
  ·rw [mZ hk,By,By];omega
  ·rw [k6 hk,By,By];omega
def Ec.some_of {o:Option Value}(r:Ec (some v) o):∃ u,o=some u/\RelV v u:=by
 cases o with
 | none=>exact (show False from r).elim
 | some u=>exact ⟨u,rfl,r⟩
def Ec.none_of {o:Option Value}(r:Ec none o):o=none:=by
 cases o with
 | none=>rfl
 | some u=>exact (show False from r).elim
def pd (r:RelV v u):PySem.W.handedIn u=true:=by
 cases v with
 | AB=>cases (show u=Value.none from r);rfl
 | bl b=>cases (show u=Value.bool b from r);rfl
 | int i=>obtain ⟨t,e⟩:=(show ∃ t,u=Value.int i t from r);cases e;rfl
 | str x=>obtain ⟨t,e⟩:=(show ∃ t,u=Value.str x t from r);cases e;rfl
 | G2 b=>obtain ⟨t,e⟩:=(show ∃ t,u=Value.bytes b t from r);cases e;rfl
 | JL b=>obtain ⟨t,e⟩:=(show ∃ t,u=Value.float b t from r);cases e;rfl
 | ref a=>cases (show u=Value.ref a from r);rfl
 | ty n=>cases (show u=Value.type n from r);rfl
section
variable {P:Program}{fs lY:List (Str×V)}
def RA (AK:CF P w H h)(e:H a=some (.ins C dx fs)):∃ mA,Ju h a dx C mA/\(∀ f,Ec (fs.lookup f) (mA f))/\PySem.Within mA (fs.map (·.1))/\fs.length<=1000/\H dx=some (.own a):=by
 obtain ⟨d,z,ne,ob,mA,n,r,q⟩:=(show CI P w H h a (.ins C dx fs) from AK a _ e);exact ⟨mA,⟨ob,n,ne⟩,r,q,z,d⟩
end
structure Dy (K:ZE6) (C:Addr):Prop where
 pg:PySem.W.plainGet K C Str.empty=true
 hd:PySem.W.hasDictIn K C=true
 po:PySem.W.plainOver K C=true
 sa:PySem.W.findIn K (.ref C) "__setattr__"=some (some (.builtin "object.__setattr__"))
def Dy.get {K:ZE6}{C:Addr}(c:Dy K C)(f:Str):PySem.W.plainGet K C f=true:=c.pg
def FY (K:ZE6)(C:Addr)(f:Str):Prop:=PySem.W.findIn K (.ref C) f=some none
def FY.vA {K:ZE6}{f:Str}(n:FY K C f):PySem.W.takerIn K C f=some none:=by
 unfold PySem.W.takerIn;rw [show PySem.W.findIn K (.ref C) f=some none from n];rfl
structure Fx (K:ZE6) (C:Addr) (f:Str) (v:V) (u:Value):Prop where
 at_:PySem.W.findIn K (.ref C) f=some (some u)
 rel:RelV v u
 get:PySem.W.specialIn K u "__get__"=some none
 cp:PySem.W.copiedNames.contains f=false
structure Meth (K:ZE6) (C:Addr) (m:Str) (f:Addr):Prop where
 at_:PySem.W.findIn K (.ref C) m=some (some (.ref f))
 fn:PySem.W.isFn K (.ref f)=true
 kp:PySem.W.keepIn K (.ref f)=true
section
variable {fs:List (Str×V)}{f:Str}
def sY {b:Bool}(I:Inv X pins σ H s)(e:H a=some (.ins C dx fs))(c:Dy X.K C)(n:FY X.K C f)(l:fs.lookup f=some v)
  (h:∀ u s',Inv X pins σ H s'->RelV v u->Q u s'):wpAny (model X.prog X.w) A (getAttr (.ref a) f b) Q E s:=by
 obtain ⟨mA,O,r,_,_,_⟩:=RA I.AK e;obtain ⟨u,hu,ru⟩:=Ec.some_of (v:=v) (o:=mA f) (by rw [<- l];exact r f);exact get_map I.Cn O (c.get f) c.hd n hu (pd ru) (h u _ (I.tok _) ru)
def cZ {g:Addr}{Q:Value×List Value->Shared->Prop}(I:Inv X pins σ H s)(e:H a=some (.ins C dx fs))(c:Dy X.K C)(k:Meth X.K C m g)(l:fs.lookup m=none)
  (h:Q (.ref g,[.ref a]) s):wpAny (model X.prog X.w) A (getMethod (.ref a) m pl) Q E s:=by
 obtain ⟨mA,O,r,_,_,_⟩:=RA I.AK e;have hn:mA m=none:=Ec.none_of (by rw [<- l];exact r m);exact vg I.Cn O (c.get m) k.at_ k.fn hn h
def xI {Q:Unit->Shared->Prop}(I:Inv X pins σ H s)(e:H a=some (.ins C dx fs))(c:Dy X.K C)(n:FY X.K C f)(hl:fs.length<1000)(ry:RelV y u)
  (h:∀ s',Inv X pins σ (upd H a (.ins C dx (DN f y fs))) s'->Q () s'):wpAny (model X.prog X.w) A (setAttr (.ref a) f u) Q E s:=by
 obtain ⟨mA,O,r,wi,_,ho⟩:=RA I.AK e;have hz:(fs.map (·.1)).length<=sizeLine:=by rw [AA,sizeLine_eq];omega
 refine oC I.Cn O c.sa c.po n.vA c.hd wi hz fun h' O' sb=>h _ ?_;have hd:∃ o,h'.get? dx=some o:=let ⟨o,_,_,e',_⟩:=O'.ns;⟨o,e'⟩;refine I.write (x:=a) (e:=dx) (by rw [e];exact True.intro) (.inr ho) (fun b q hb z=>(sb.2 b hb).trans z) hd ?_;refine ⟨by rw [An O.ne];exact ho,?_,O.ne,O'.obj,_,O'.ns,fun g=>?_,fun g hg=>?_⟩
 ·have:=aE f y fs;omega
 ·show Ec ((DN f y fs).lookup g) (if g=f then some u else mA g)
  rw [gQ]
  by_cases q:g=f
  ·rw [mZ q,mZ q];exact ry
  ·rw [k6 q,k6 q];exact r g
 ·by_cases q:g=f
  ·rw [q];exact (Sh f y fs).1
  ·refine (Sh f y fs).2 g (wi g fun z=>hg ?_);show (if g=f then some u else mA g)=none
   rw [k6 q];exact z
def Inv.made (I:Inv X pins σ H s):Inv X pins σ (upd (upd H s.heap.objs.size (.own (s.heap.objs.size+1))) (s.heap.objs.size+1) (.ins C s.heap.objs.size []))
  { s with heap:=(s.heap.push PySem.W.emptyDict).push (PySem.W.instObj C s.heap.objs.size) }:=by
 have e1:(s.heap.push PySem.W.emptyDict).get? s.heap.objs.size=some PySem.W.emptyDict:=Ba s.heap rfl;have e2:((s.heap.push PySem.W.emptyDict).push (PySem.W.instObj C s.heap.objs.size)).get? (s.heap.objs.size+1)=some (PySem.W.instObj C s.heap.objs.size):=by
  have:=Ba (s.heap.push PySem.W.emptyDict) (o:=PySem.W.instObj C s.heap.objs.size) rfl
  rwa [Dr] at this
 have e3:(s.heap.push PySem.W.emptyDict).Ns s.heap.objs.size (fun _=>none):=⟨PySem.W.emptyDict,#[],_,e1,rfl,(fun e he=>absurd he (by simp)),fun _=>rfl⟩;have I1:=I.laid (a:=s.heap.objs.size) (o:=.own (s.heap.objs.size+1)) (h':=s.heap.push PySem.W.emptyDict) (t':=s.toks) (fun b u q=>BQ _ q) (Ai _) ⟨_,e1⟩;refine I1.laid (a:=s.heap.objs.size+1) (o:=.ins C s.heap.objs.size []) (t':=s.toks) (fun b u q=>BQ _ q) (jN (Dr _ _)) ?_;have ne:s.heap.objs.size≠s.heap.objs.size+1:=Bf (LN _);refine ⟨by rw [An ne,B0],CM _,ne,e2,fun _=>none,(Heap.Ns1.of_empty e3).at fun o q=>BQ _ q,fun _=>True.intro,fun y hy=>absurd rfl hy⟩
def zk {env:Env}(hb:attributeBase e f env (eval e env)=eval e env)
  (h:wpAny (model prog w) A (eval e env) (fun o s₁=>wpAny (model prog w) A (getAttr o f true) Q E s₁) E s):wpAny (model prog w) A (eval (.Attribute e f pos) env) Q E s:=
 Attribute_any_ h (by rw [arm_eval_Attribute,hb])
end
def QJ (K:ZE6)(ta:TE)(f:Str):TE:=fun σ H Q=>ta σ H fun x H1=>∃ a C dx fs v,x=.ref a/\H1 a=some (.ins C dx fs)/\Dy K C/\FY K C f/\fs.lookup f=some v/\Q v H1
def Ue (K:ZE6)(ta tv:TE)(f:Str):TS:=fun D σ H=>tv σ H fun y H1=>ta σ H1 fun x H2=>∃ a C dx fs,x=.ref a/\H2 a=some (.ins C dx fs)/\Dy K C/\FY K C f/\fs.length<1000/\
 D.nx σ (upd H2 a (.ins C dx (DN f y fs)))
section
variable {o value:Expr}{f:Str}{pos':Pos}{tv:TE}
variable {b:Bool}
inductive Es (K:ZE6) (H:Hp):V->Value->Prop where
 | AB:Es K H .AB (.type "NoneType")
 | bl (x:Bool):Es K H (.bl x) (.type "bool")
 | int (i:Int):Es K H (.int i) (.type "int")
 | str (x:Str):Es K H (.str x) (.type "str")
 | JL (x:UInt64):Es K H (.JL x) (.type "float")
 | lst {a:Addr}{xs:List V}(e:H a=some (.lst xs)):Es K H (.ref a) (.type "list")
 | FK {a:Addr}{o:Obj}{xs:List V}(e:H a=some (.FK o (.lst xs))):Es K H (.ref a) (.type "list")
 | tup {a:Addr}{xs:List V}(e:H a=some (.tup xs)):Es K H (.ref a) (.type "tuple")
 | dK {a:Addr}{A8:List (Key×V)}(e:H a=some (.dK A8)):Es K H (.ref a) (.type "dict")
 | dT {a:Addr}{A8:List (List Key×V)}(e:H a=some (.dT A8)):Es K H (.ref a) (.type "dict")
 | ins {a C dx:Addr}{fs:List (Str×V)}(e:H a=some (.ins C dx fs)) (cl:Dy K C) (ha:PySem.W.findIn K (.ref C) "__class__"=some (some (.builtin "object.__class__")))
   (hn:PySem.W.specialIn K (.builtin "object.__class__") "__get__"=some (some (.builtin "getset_descriptor.__get__"))) (JE:PySem.W.takesIn K (.builtin "object.__class__")=some true)
   (hm:PySem.W.mroIn K C (.type "object")=some true):Es K H (.ref a) (.ref C)
def ZBB {x:V}{t:Value}(I:Inv X pins σ H s)(rx:RelV x u)(ty:Es X.K H x t)(e:PySem.W.kitOne X.K t c=some b)(h:∀ tk,Q (.bool b) { s with toks:=tk }):
  wpAny (model X.prog X.w) A (call (.builtin "isinstance") [u,c]) Q E s:=by
 cases ty with
 | AB=>cases (show u=Value.none from rx);exact Hv PySem.W.kitx_none I.Cn True.intro e (fun z=>nomatch z) h
 | bl y=>cases (show u=Value.bool y from rx);exact Hv PySem.W.kitx_bool I.Cn True.intro e (fun z=>nomatch z) h
 | int i=>obtain ⟨t,q⟩:=(show ∃ t,u=Value.int i t from rx);cases q;exact Hv PySem.W.kitx_int I.Cn True.intro e (fun z=>nomatch z) h
 | str y=>obtain ⟨t,q⟩:=(show ∃ t,u=Value.str y t from rx);cases q;exact Hv PySem.W.kitx_str I.Cn True.intro e (fun z=>nomatch z) h
 | JL y=>obtain ⟨t,q⟩:=(show ∃ t,u=Value.float y t from rx);cases q;exact Hv PySem.W.kitx_float I.Cn True.intro e (fun z=>nomatch z) h
 | @lst a xs ea=>
  cases (show u=Value.ref a from rx);obtain ⟨_,_,n,_,h1⟩:=(show CI X.prog X.w H s.heap a (.lst xs) from I.AK a _ ea);exact Hv ZDH I.Cn ⟨_,h1,rfl⟩ e (fun z=>nomatch z) h
 | @FK a ob xs ea=>
  cases (show u=Value.ref a from rx);obtain ⟨_,_,_,n,_,h1⟩:=(show CI X.prog X.w H s.heap a (.FK ob (.lst xs)) from I.AK a _ ea);exact Hv ZDH I.Cn ⟨_,h1,rfl⟩ e (fun z=>nomatch z) h
 | @tup a xs ea=>
  cases (show u=Value.ref a from rx);obtain ⟨_,_,_,p⟩:=(show CI X.prog X.w H s.heap a (.tup xs) from I.AK a _ ea);obtain ⟨o,h1,h2,_⟩:=p.1;exact Hv PySem.W.kitx_tuple I.Cn ⟨o,h1,h2⟩ e (fun z=>nomatch z) h
 | @dK a A8 ea=>
  cases (show u=Value.ref a from rx);obtain ⟨_,_,vs,_,p⟩:=(show CI X.prog X.w H s.heap a (.dK A8) from I.AK a _ ea);obtain ⟨o,es,ep,h1,h2,_⟩:=p;exact Hv ZDG I.Cn ⟨o,h1,h2.1⟩ e (fun z=>nomatch z) h
 | @dT a A8 ea=>
  cases (show u=Value.ref a from rx);obtain ⟨_,_,xs,_,o,es,ep,h1,h2,_⟩:=(show CI X.prog X.w H s.heap a (.dT A8) from I.AK a _ ea);exact Hv ZDG I.Cn ⟨o,h1,h2.1⟩ e (fun z=>nomatch z) h
 | @ins a C dx fs ea cl ha hn JE hm=>
  cases (show u=Value.ref a from rx);obtain ⟨mA,O,_⟩:=RA I.AK ea;obtain ⟨od,J,_⟩:=O.look;exact Hv (PySem.W.kitx_own (cl.get _) cl.hd ha hn JE hm) I.Cn J e (fun z=>nomatch z) h
end
structure Bq (k:Nat) (A:Around):Prop where
 hd:A.handled=none
 dp:A.depth+3 * k+5<recursionLimit
 un:A.units+16 * k+200<cLine
def Bq.mono {k:Nat}(r:Bq k A)(h:j<=k):Bq j A:=⟨r.hd,by have:=r.dp;omega,by have:=r.un;omega⟩
theorem Bq.deeper {k:Nat}(r:Bq (k+1) A)(env:Env):Bq k (A.deeper env):=
 ⟨r.hd,by have:=r.dp;show A.depth+1+3 * k+5<_;omega,by have:=r.un;show A.units+3+16 * k+200<_;omega⟩
def wz:(A.under (.builtin "type.__call__" ⟨.ref C::us,kw⟩)).depth=A.depth+1:=by
 first | rfl | simp [Around.under,Code.weight,Code.isCreation,Code.isGuard,Code.isCaller,Code.frames,Code.isFrame,guardIds]
def ZAI:(A.under (.builtin "type.__call__" ⟨.ref C::us,kw⟩)).units=A.units+1:=by
 first | rfl | simp [Around.under,Code.cUnits,Code.frames,Code.isFrame]
def Bq.make {k:Nat}(r:Bq (k+1) A)(C:Addr)(us:List Value)(kw:List (Str×Value)):Bq k (A.under (.builtin "type.__call__" ⟨.ref C::us,kw⟩)):=
 ⟨r.hd,by have:=r.dp;rw [wz];omega,by have:=r.un;rw [ZAI];omega⟩
theorem Bq.depth {k:Nat}(r:Bq k A):A.depth<recursionLimit:=by have:=r.dp;omega
theorem Bq.units {k:Nat}(r:Bq k A):A.units+64<cLine:=by have:=r.un;omega
def Bq.KP {k:Nat}(r:Bq k A):A.units<cLine:=by have:=r.un;omega
def BV:TA:=fun _ H Q=>Q [] H
def Ap (ta:TE)(tr:TA):TA:=fun σ H Q=>ta σ H fun x H1=>tr σ H1 fun xs H2=>Q (x::xs) H2
section
variable {t:TA}
def kS (ha:PE X e te)(hr:PA X es t)(hs:starEach (e::es) X.env=(false,eval e X.env)::starEach es X.env:=by rfl):PA X (e::es) (Ap te t):=by
 intro pos pins s σ H Q I h;rw [hs];show wpAny _ _ (spliced ((false,eval e X.env)::backTo pos (starEach es X.env))) _ _ s;refine Calls.spliced_cons (AL (ha pins s σ H _ I h) fun u s1 ⟨x,H1,I1,r1,q1⟩=>?_);exact AL (hr pos pins s1 σ H1 _ I1 q1) fun us s2 ⟨xs,H2,I2,r2,q2⟩=>⟨x::xs,H2,I2,.cons r1 r2,q2⟩
def Mw (t:TA):TE:=fun σ H Q=>t σ H fun xs H1=>xs.length<=sizeLine/\∀ p,H1 p=none->Q (.ref p) (upd H1 p (.tup xs))
def Q8 (t:TA):TE:=fun σ H Q=>t σ H fun xs H1=>xs.length<=sizeLine/\∀ p,H1 p=none->Q (.ref p) (upd H1 p (.lst xs))
def wC {x1}(h:PA X es t):PE X (.Tuple es x1 pos) (Mw t):=by
 intro pins s σ H Q I hq;refine wpAny_Tuple_spliced (AL (h pos pins s σ H _ I hq) fun us s1 ⟨xs,H1,I1,r,z,q⟩=>⟨by rw [<- r.length];exact z,?_⟩);have hf:H1 s1.heap.objs.size=none:=I1.AK.fresh (Ai _);refine ⟨.ref s1.heap.objs.size,upd H1 s1.heap.objs.size (.tup xs),I1.laid (t':=s1.toks) (fun b u e=>BQ _ e) (Ai _) ?_,rfl,q _ hf⟩;exact ⟨z,us,r,⟨_,Ba _ rfl,rfl,_,rfl⟩,fun Nb e'=>by rw [Ba _ rfl] at e';cases e';rfl⟩
def p5 (h:PA X es t):PE X (.List es pos) (Q8 t):=by
 intro pins s σ H Q I hq;refine wpAny_List_spliced (AL (h pos pins s σ H _ I hq) fun us s1 ⟨xs,H1,I1,r,z,q⟩=>⟨by rw [<- r.length];exact z,?_⟩);have hf:H1 s1.heap.objs.size=none:=I1.AK.fresh (Ai _);refine ⟨.ref s1.heap.objs.size,upd H1 s1.heap.objs.size (.lst xs),I1.laid (t':=s1.toks) (fun b u e=>BQ _ e) (Ai _) ?_,rfl,q _ hf⟩;exact ⟨z,us,0,r,Ba _ rfl⟩
end
abbrev Sp:=List V->Hp->VK->XK->Prop
abbrev GH:=List Env->Hp->Shared->XK->Value->Shared->Prop
variable {CX:GH}
structure Kb (P:Program) (w:World) (K:ZE6) (mg:ZE8) (base:Heap) (A:Around) (outer:List Env) (s:Shared) (H:Hp):Prop where
 frames:A.frames=some outer
 mod:Mod K mg base
 bs:∀ b o,base.get? b=some o->s.heap.get? b=some o/\H b=none
 IE:base.objs.size<=s.heap.objs.size
 GQ:s.heap.FunFrames base outer
 LA:∀ b∈Gy outer,H b=none
 AK:CF P w H s.heap
 bare:AllBare s.gens
def CE (outer:List Env)(P:Program)(w:World)(H:Hp)(s:Shared)(Q:VK)(u:Value)(s':Shared):Prop:=
 ∃ v H',s'.os=s.os/\AllBare s'.gens/\Un (Gy outer) [] H H' s.heap s'.heap/\CF P w H' s'.heap/\RelV v u/\Q v H'
def CR (CX:GH)(outer:List Env)(P:Program)(w:World)(H:Hp)(s:Shared)(Q:VK)(E:XK)(r:Result)(s':Shared):Prop:=
 match r with
 | .ok (.ret u)=>CE outer P w H s Q u s'
 | .ok _=>False
 | .error e=>CX outer H s E e s'
structure DD (P:Program) (w:World) (K:ZE6) (mg:ZE8) (base:Heap) (CX:GH) (k:Nat) (f:Addr) (fd:FuncData) (ps:List Str) (sp:Sp):Prop where
 len:∀ vs H Q E,sp vs H Q E->vs.length=ps.length
 run:∀ (A:Around) (outer:List Env) (s:Shared) (H:Hp) (args:Args) (us:List Value) (vs:List V) (Q:VK) (E:XK),Bq k A->Kb P w K mg base A outer s H->BindsTo s fd args (ps.zip us)->Vals vs us->sp vs H Q E->
  codeAny (model P w) A (.call (.ref f) args) (CR CX outer P w H s Q E) s
theorem DD.mono {P:Program}{K:ZE6}{k:Nat}{f:Addr}{sp:Sp}(F:DD P w K mg base CX j f fd ps sp)(h:j<=k):
  DD P w K mg base CX k f fd ps sp:=⟨F.len,fun A outer s H args us vs Q E hr=>F.run A outer s H args us vs Q E (hr.mono h)⟩
def Kb.make {P:Program}{K:ZE6}(e:Kb P w K mg base A outer s H)(C:Addr)(us:List Value)(kw:List (Str×Value)):
  Kb P w K mg base (A.under (.builtin "type.__call__" ⟨.ref C::us,kw⟩)) outer s H:=⟨by first | exact e.frames | (simpa [Around.under,Code.envs,Code.isFrame,pushEnvs] using e.frames),e.mod,e.bs,e.IE,e.GQ,e.LA,e.AK,e.bare⟩
def Inv.ib (I:Inv X pins σ H s):Kb X.prog X.w X.K X.mg X.base X.A X.stack s H:=
 ⟨I.ok.frames,I.ok.mod,I.bs,D1 I.ok.IE I.sz,I.stack,I.aX,I.AK,I.bare⟩
def Inv.after {Q:VK}(I:Inv X pins σ H s)(h:CE X.stack X.prog X.w H s Q u s'):EP X pins σ Q u s':=by
 obtain ⟨v,H',os,bare,un,AK,r,q⟩:=h;obtain ⟨hh,g,d,t,Ng⟩:=s';obtain rfl:Ng=s.os:=os;exact ⟨v,H',I.call (h':=hh) (g':=g) (d':=d) (t':=t) (ch:=[]) un AK bare (fun b z=>absurd z (by simp)),r,q⟩
def Ef (sp:Sp)(DI:List V)(E:XK)(t:TA):TE:=fun σ H Q=>t σ H fun vs H1=>sp (vs++DI) H1 Q E
def N3 (C:Addr)(m:Str)(sp:Sp)(DI:List V)(E:XK)(ta:TE)(t:TA):TE:=fun σ H Q=>ta σ H fun x H1=>∃ a dx fs,x=.ref a/\H1 a=some (.ins C dx fs)/\fs.lookup m=none/\
 t σ H1 fun vs H2=>sp (x::(vs++DI)) H2 Q E
def Vw (C:Addr)(sp:Sp)(DI:List V)(E:XK)(t:TA):TE:=fun σ H Q=>t σ H fun vs H1=>∀ x dx,H1 x=none->H1 dx=none->dx≠x->
 sp (.ref x::(vs++DI)) (upd (upd H1 dx (.own x)) x (.ins C dx [])) (fun v H2=>v=.AB/\Q (.ref x) H2) E
def Binds (K:ZE6)(fd:FuncData)(ps:List Str)(ds:List Value):Prop:=
 ∀ (s:Shared) (us:List Value),K.In s.heap->(us++ds).length=ps.length->BindsTo s fd ⟨us,[]⟩ (ps.zip (us++ds))
def Binds.all {K:ZE6}(h:∀ us:List Value,us.length=ps.length->bindArgs fd ⟨us,[]⟩=pure (ps.zip us)):Binds K fd ps []:=fun s us _ hl=>by
 rw [Df] at hl ⊢;exact .of_eq (h us hl)
def Passes (CX:GH)(X:Cx)(E:XK):Prop:=∀ (pins:ZE7) (σ:St) (H:Hp) (s:Shared) (e:Value) (s':Shared),Inv X pins σ H s->CX X.stack H s E e s'->X.xe e s'
section
variable {k:Nat}{f:Addr}{sp:Sp}{E:XK}{p apos:Pos}{o:Expr}{t:TA}
def Ta {Q:VK}(F:DD X.prog X.w X.K X.mg X.base CX k f fd ps sp)(hr:Bq k X.A)(hb:Binds X.K fd ps ds)(hd:Vals DI ds)(hx:Passes CX X E)
  (I:Inv X pins σ H s) (r:Vals vs us) (h:sp (vs++DI) H Q E):wpAny (model X.prog X.w) X.A (call (.ref f) us) (EP X pins σ Q) X.xe s:=by
 have r2:Vals (vs++DI) (us++ds):=r.append hd;have hl:(us++ds).length=ps.length:=by rw [<- r2.length];exact F.len _ _ _ _ h
 refine wpAny_call (ZA4 (F.run X.A X.stack s H ⟨us,[]⟩ (us++ds) (vs++DI) Q E hr I.ib (hb s us I.Cn hl) r2 h) fun r s' hq=>?_);cases r with
 | error e=>exact hx pins σ H s e s' I hq
 | ok fl=>
  cases fl with
  | ret u=>exact I.after hq
  | next=>exact False.elim hq
  | brk=>exact False.elim hq
  | cont=>exact False.elim hq
def qR (F:DD X.prog X.w X.K X.mg X.base CX k f fd ps sp)(hr:Bq k X.A)(hg:Gl X x)(hm:X.mg x=some (.ref f))(hk:PySem.W.keepIn X.K (.ref f)=true)(hb:Binds X.K fd ps ds)(hd:Vals DI ds)(hx:Passes CX X E)
  (ha:PA X (e::es) t) (Cw:(x == ("__debug__":Str))=false:=by decide) (he:starEach (e::es) X.env=(false,eval e X.env)::starEach es X.env:=by rfl) (Bz:(backTo pos (starEach es X.env)).any (·.1)=false:=by rfl) :
  PE X (.Call (.Name x p) (e::es) [] pos) (Ef sp DI E t):=by
 intro pins s σ H Q I h;refine qN (TB I hg hm ?_ Cw);refine jY (h₀:=X.base) I.ok.mod.NI hk (AL (ha pos pins s σ H _ I h) fun us s1 ⟨vs,H1,I1,r,q⟩=>⟨I1.Cn,?_⟩) he Bz;exact Ta F hr hb hd hx I1 r q
def zw (he:PE X o ta)(c:Dy X.K C)(hm:Meth X.K C m f)(F:DD X.prog X.w X.K X.mg X.base CX k f fd ps sp)(hr:Bq k X.A)(hb:Binds X.K fd ps ds)(hd:Vals DI ds)(hx:Passes CX X E)(ha:PA X (e::es) t)
  (Cb:starEach (e::es) X.env=(false,eval e X.env)::starEach es X.env:=by rfl) (Bz:(backTo pos (starEach es X.env)).any (·.1)=false:=by rfl)
  (ht:eval (.Call (.Attribute o m apos) (e::es) [] pos) X.env=(do
   let ov <- eval o X.env
   standAt apos.atName
   let (f,first) <- holding [ov] (getMethod ov m pl)
   callWith pos f first (backTo pos (starEach (e::es) X.env)) (backToKw pos (keywordEach [] X.env))):=by rfl) :
  PE X (.Call (.Attribute o m apos) (e::es) [] pos) (N3 C m sp DI E ta t):=by
 intro pins s σ H Q I h;refine ZDI (pl:=pl) (AL (he pins s σ H _ I h) fun u s1 ⟨x,H1,I1,rx,a,dx,fs,ex,ea,l,q⟩=>?_) ht;subst ex;obtain rfl:u=Value.ref a:=rx;refine cZ I1 ea c hm l ?_;refine jY (first:=[.ref a]) (h₀:=X.base) I.ok.mod.NI hm.kp (AL (ha pos pins s1 σ H1 _ I1 q) fun us s2 ⟨vs,H2,I2,r,q2⟩=>⟨I2.Cn,?_⟩) Cb Bz
 exact Ta (us:=.ref a::us) (vs:=.ref a::vs) F hr hb hd hx I2 (.cons rfl r) q2
def uB (he:PE X o ta)(c:Dy X.K C)(hm:Meth X.K C m f)(F:DD X.prog X.w X.K X.mg X.base CX k f fd ps sp)(hr:Bq k X.A)(hb:Binds X.K fd ps ds)(hd:Vals DI ds)(hx:Passes CX X E)
  (ht:eval (.Call (.Attribute o m apos) [] [] pos) X.env=(do
   let ov <- eval o X.env
   standAt apos.atName
   let (f,first) <- holding [ov] (getMethod ov m pl)
   callWith pos f first (backTo pos (starEach [] X.env)) (backToKw pos (keywordEach [] X.env))):=by rfl) :
  PE X (.Call (.Attribute o m apos) [] [] pos) (N3 C m sp DI E ta BV):=by
 intro pins s σ H Q I h;refine ZDI (pl:=pl) (AL (he pins s σ H _ I h) fun u s1 ⟨x,H1,I1,rx,a,dx,fs,ex,ea,l,q⟩=>?_) ht;subst ex;obtain rfl:u=Value.ref a:=rx;refine cZ I1 ea c hm l ?_;exact PySem.W.callWith_K0 (first:=[.ref a]) I1.Cn hm.kp (Ta (us:=[.ref a]) (vs:=[.ref a]) F hr hb hd hx I1 (.cons rfl .nil) q)
structure Mk (K:ZE6) (C f:Addr):Prop where
 makes:PySem.W.makesIn K C=true
 init:PySem.W.findIn K (.ref C) "__init__"=some (some (.ref f))
 fn:PySem.W.isFn K (.ref f)=true
 kp:PySem.W.keepIn K (.ref C)=true
def yk {Q:VK}(M:Mk X.K C f)(F:DD X.prog X.w X.K X.mg X.base CX k f fd ps sp)(hr:Bq (k+1) X.A)(hb:Binds X.K fd ps ds)(hd:Vals DI ds)
  (hx:Passes CX X E) (I:Inv X pins σ H s) (r:Vals vs us)
  (h:∀ x dx,H x=none->H dx=none->dx≠x->sp (.ref x::(vs++DI)) (upd (upd H dx (.own x)) x (.ins C dx [])) (fun v H2=>v=.AB/\Q (.ref x) H2) E) :
  wpAny (model X.prog X.w) X.A (call (.ref C) us) (EP X pins σ Q) X.xe s:=by
 have hq:=h (s.heap.objs.size+1) s.heap.objs.size (I.AK.fresh (Fu _)) (I.AK.fresh (Ai _)) (Bf (LN _));have I2:=Inv.made (C:=C) I;have r2:Vals (V.ref (s.heap.objs.size+1)::(vs++DI)) (Value.ref (s.heap.objs.size+1)::(us++ds)):=.cons rfl (r.append hd);have hl:(Value.ref (s.heap.objs.size+1)::us++ds).length=ps.length:=by
  have e:=r2.length;rw [F.len _ _ _ _ hq] at e;exact e.symm
 refine wpAny_call (x8 (f:=f) I.Cn M.makes M.init (beq_iff_eq.mp M.fn) (ZA4 (F.run _ X.stack _ _ ⟨Value.ref (s.heap.objs.size+1)::us,[]⟩ (Value.ref (s.heap.objs.size+1)::(us++ds)) _ _ E (hr.make C us [])
  (I2.ib.make C us []) (hb _ (Value.ref (s.heap.objs.size+1)::us) I2.Cn hl) r2 hq) fun r s' GY=>?_))
 cases r with
 | error e=>exact hx pins σ _ _ e s' I2 GY
 | ok fl=>
  cases fl with
  | ret u=>
   obtain ⟨v,H',I3,rv,ev,q3⟩:=I2.after GY;subst ev;exact ⟨rv,⟨V.ref (s.heap.objs.size+1),H',I3,rfl,q3⟩⟩
  | next=>exact False.elim GY
  | brk=>exact False.elim GY
  | cont=>exact False.elim GY
def oW (M:Mk X.K C f)(F:DD X.prog X.w X.K X.mg X.base CX k f fd ps sp)(hr:Bq (k+1) X.A)(hg:Gl X x)(hm:X.mg x=some (.ref C))(hb:Binds X.K fd ps ds)(hd:Vals DI ds)(hx:Passes CX X E)
  (ha:PA X (e::es) t) (Cw:(x == ("__debug__":Str))=false:=by decide) (he:starEach (e::es) X.env=(false,eval e X.env)::starEach es X.env:=by rfl) (Bz:(backTo pos (starEach es X.env)).any (·.1)=false:=by rfl) :
  PE X (.Call (.Name x p) (e::es) [] pos) (Vw C sp DI E t):=by
 intro pins s σ H Q I h;refine qN (TB I hg hm ?_ Cw);refine jY (h₀:=X.base) I.ok.mod.NI M.kp (AL (ha pos pins s σ H _ I h) fun us s1 ⟨vs,H1,I1,r,q⟩=>⟨I1.Cn,?_⟩) he Bz;exact yk M F hr hb hd hx I1 r q
variable {kws:List Keyword}{tk:TA}{nm:Option Str}{g:List Value->List Value->List Value}{gV:List V->List V->List V}
end
structure BM (N P:List Str) (sc:Scope):Prop where
 kind:sc.kind=.function
 co:sc.isCoroutine=false
 gen:sc.isGenerator=false
 nd:N.Nodup
 pre:N.take P.length=P
 par:∀ x∈P,sc.names.lookup x=some .local∨sc.names.lookup x=some .cell
 yO:∀ y∈sc.names,y.2≠.free
theorem ZX {kindOf:Str->Option NameKind}{x:Str}:∀ {binds:List (Str×Value)}{m:ZE8},(∀ v,(x,v)∉binds)->bindL kindOf binds m x=m x
 | [],_,_=>rfl
 | (n,v)::r,m,h=>by
  unfold bindL;rw [ZX fun w hw=>h w (Ek _ hw)];split
  ·have:x≠n:=by rintro rfl;exact h v Ft
   simp [this]
  ·rfl
theorem aF {kindOf:Str->Option NameKind}{x:Str}:∀ {binds:List (Str×Value)}{m:ZE8},(∀ v,(x,v)∉binds)->bindC kindOf binds m x=m x
 | [],_,_=>rfl
 | (n,v)::r,m,h=>by
  unfold bindC;rw [aF fun w hw=>h w (Ek _ hw)];split
  ·rfl
  ·have:x≠n:=by rintro rfl;exact h v Ft
   simp [this]
theorem df {kindOf:Str->Option NameKind}{x:Str}{v:Value}:∀ {P:List Str}{vs:List Value}{i:Nat}{m:ZE8},P.Nodup->P[i]?=some x->vs[i]?=some v->kindOf x=some .local->
  bindL kindOf (P.zip vs) m x=some v
 | [],_,_,_,_,h,_,_=>by simp at h
 | _::_,[],_,_,_,_,h,_=>by simp at h
 | p::P,w::vs,0,m,nd,h1,h2,hk=>by
  simp at h1 h2;subst h1;subst h2;show bindL kindOf ((p,w)::P.zip vs) m p=_;unfold bindL;rw [ZX fun v hv=>(List.nodup_cons.mp nd).1 (YX hv).1,mZ hk];simp
 | p::P,w::vs,i+1,m,nd,h1,h2,hk=>by
  show bindL kindOf ((p,w)::P.zip vs) m x=_;unfold bindL;exact df (i:=i) (List.nodup_cons.mp nd).2 (by simpa using h1) (by simpa using h2) hk
theorem eN {kindOf:Str->Option NameKind}{x:Str}{v:Value}:∀ {P:List Str}{vs:List Value}{i:Nat}{m:ZE8},P.Nodup->P[i]?=some x->vs[i]?=some v->kindOf x≠some .local->
  bindC kindOf (P.zip vs) m x=some v
 | [],_,_,_,_,h,_,_=>by simp at h
 | _::_,[],_,_,_,_,h,_=>by simp at h
 | p::P,w::vs,0,m,nd,h1,h2,hk=>by
  simp at h1 h2;subst h1;subst h2;show bindC kindOf ((p,w)::P.zip vs) m p=_;unfold bindC;rw [aF fun v hv=>(List.nodup_cons.mp nd).1 (YX hv).1,k6 hk];simp
 | p::P,w::vs,i+1,m,nd,h1,h2,hk=>by
  show bindC kindOf ((p,w)::P.zip vs) m x=_;unfold bindC;exact eN (i:=i) (List.nodup_cons.mp nd).2 (by simpa using h1) (by simpa using h2) hk
noncomputable def start (N:List Str)(vs:List V):St:=vs.map some++List.replicate (N.length - vs.length) none
noncomputable def K4 (CX:GH)(P:Program)(w:World)(K:ZE6)(mg:ZE8)(base:Heap)(N:List Str)(qual:Str)(scope:Scope)(f:Addr)(cd:Value)(A:Around)(outer:List Env)(s:Shared)(H:Hp)(E:XK):Cx where
 prog:=P
 w:=w
 K:=K
 mg:=mg
 base:=base
 A:=A.deeper (envOfC qual scope s.heap.objs.size f cd)
 N:=N
 s₀:=s
 H₀:=H
 env:=envOfC qual scope s.heap.objs.size f cd
 outer:=outer
 stack:=envOfC qual scope s.heap.objs.size f cd::outer
 ex:=[]
 calm:=true
 fn:=fun _=>true
 pn:=[]
 xe:=fun e s'=>wpAny (model P w) (A.deeper (envOfC qual scope s.heap.objs.size f cd)) (leaving (envOfC qual scope s.heap.objs.size f cd) e) (fun _ Ky=>CX outer H s E e Ky) (fun e' Ky=>CX outer H s E e' Ky) s'
def Zp (h:sc.names.lookup x=some .cell):∃ c,(cellsFrom n sc.names []).lookup x=some c:=by
 have q:=ZDF sc.names n [] (.inl h);exact Option.isSome_iff_exists.mp q
def lX {P:Program}{K:ZE6}{f:Addr}{s1:Shared}{E:XK}
  (S:BM N ps scope) (hd:A.handled=none) (e0:Kb P w K mg base A outer s H) (hl:vs.length=ps.length) (r:Vals vs us)
  (x:InCallC s s.heap.objs.size (bindL (envOfC qual scope s.heap.objs.size f cd).kindOf (ps.zip us) fun _=>none) (cellsFrom (s.heap.objs.size+1) scope.names []) (bindC (envOfC qual scope s.heap.objs.size f cd).kindOf (ps.zip us) fun _=>none) s1) :
  Inv (K4 CX P w K mg base N qual scope f cd A outer s H E) [] (start N vs) H s1:=by
 have Bz:ps.length<=N.length:=by have:=rW List.length S.pre;rw [DM] at this;omega
 obtain ⟨h1,tk,rfl,hk⟩:=x.done;have O4:∀ b:Addr,b∉(K4 CX P w K mg base N qual scope f cd A outer s H E).ex:=fun b z=>absurd (show b∈([]:List Addr) from z) (by simp);refine ⟨⟨e0.mod,S.kind,rfl,rfl,Ai _,fun y z c h1 h2=>?_,fun y hy=>?_,fun y c _ h=>?_,fun _=>hd,Around.frames_deeper e0.frames,.inr ⟨rfl,rfl⟩,fun b z=>absurd z (O4 b),e0.bs,e0.IE,fun b _ _=>O4 b,fun b z=>absurd z (O4 b),e0.GQ,e0.LA⟩,
  rfl,e0.bare,Un.kept hk,⟨_,x.toInCall.ns,fun i y v h1 h2 h3=>?_⟩,fun y c h=>⟨_,x.cell y c h⟩,e0.AK.fresh (Ai _),fun y c h=>?_,fun p hp=>absurd (show p∈([]:ZE7) from hp) (by simp),e0.AK.kept hk,?_⟩
 ·exact name_of_addr x.apart (LO h1) (LO h2)
 ·have hy:scope.names.lookup y=some .cell∨scope.names.lookup y=some .free:=hy;rcases hy with hy | hy
  ·exact Zp hy
  ·exact absurd rfl (S.yO _ (LO hy))
 ·exact P4 (x.above y c (LO h))
 ·have hi:i<vs.length:=by
   unfold start at h2
   by_cases hi:i<vs.length
   ·exact hi
   ·rw [Ej (by simpa using hi)] at h2
    rw [jH] at h2;split at h2 <;> cases h2
  have ha:vs[i]?=some v:=by
   unfold start at h2;rw [DK (by simpa using hi),Ac] at h2
   cases e:vs[i]? with
   | none=>rw [e] at h2;cases h2
   | some a=>rw [e] at h2;cases h2;rfl
  obtain ⟨u,hu,rv⟩:=r.get ha;have hp:ps[i]?=some y:=by
   rw [<- S.pre,List.getElem?_take_of_lt (by omega)];exact h1
  have bJ:ps.Nodup:=by rw [<- S.pre];exact S.nd.sublist (ZD2 _ _)
  refine ⟨u,rv,?_⟩;rcases S.par y (C7 hp) with k | k
  ·exact .inl ⟨k,df bJ hp hu k⟩
  ·obtain ⟨c,e⟩:=Zp (n:=s.heap.objs.size+1) k;refine .inr ⟨.inl k,c,e,?_⟩;have q:=x.cell y c e;rw [eN bJ hp hu (by show scope.names.lookup y≠_;rw [k];decide)] at q;exact q
 ·exact e0.AK.fresh (P4 (x.above y c (LO h)))
 ·unfold start;show _=N.length;rw [B2,AA,ZCx];omega
def ma {P:Program}{K:ZE6}{k:Nat}{f:Addr}{params:Arguments}{body:List Stmt}{dV kV doc pm Ae ct oc:Value}{an od:Option Addr}
  {Ga:Array (Option Value)}{sp:Sp}(lk:K.lookup f=some ⟨oc,od,.func (PySem.W.fnOf name qual params body scope dV kV doc pm an Ae ct),Ga⟩) (HB:PySem.W.codeIn K Ae qual=true) (S:BM N ps scope)
  (len:∀ vs H Q E,sp vs H Q E->vs.length=ps.length)
  (OA:∀ (A:Around) (outer:List Env) (s:Shared) (H:Hp) (vs:List V) (Q:VK) (E:XK),Bq k (A.deeper (envOfC qual scope s.heap.objs.size f Ae))->sp vs H Q E->
   ∃ t,EH (K4 CX P w K mg base N qual scope f Ae A outer s H E) body t/\t { nx:=fun _ H'=>Q .AB H',rt:=Q } (start N vs) H) :
  DD P w K mg base CX (k+1) f (PySem.W.fnOf name qual params body scope dV kV doc pm an Ae ct) ps sp:=by
 refine ⟨len,fun A outer s H args us vs Q E hr e0 hb r Ge=>?_⟩;have hl:=len _ _ _ _ Ge;have KX:K.In s.heap:=e0.mod.NI.keeps fun b o e=>(e0.bs b o e).1;have lim:s.heap.NoLimit:=e0.mod.nolimit.keeps fun b o e=>(e0.bs b o e).1;have nD:∀ y∈ps.zip us,scope.names.lookup y.1=some .local∨(scope.names.lookup y.1=some .cell/\((cellsFrom (s.heap.objs.size+1) scope.names []).lookup y.1).isSome=true):=fun ⟨n,v⟩ hy=>by
  rcases S.par n (YX hy).1 with q | q
  ·exact .inl q
  ·exact .inr ⟨q,ZDF _ _ _ (.inl q)⟩
 refine codeAny_call_function hr.depth (KX _ _ lk) rfl S.co S.gen rfl (PySem.W.codeRec_of KX HB) (hb _ _ _ _ ?_);refine wpAny_newFunctionEnv_cells S.kind nD fun env he s1 x=>?_;subst he;refine ⟨lim.keeps x.toInCall.keep,codeAny_func ?_⟩;obtain ⟨t,ht,hq⟩:=OA A outer s H vs Q E (hr.deeper _) Ge;have I:Inv (K4 CX P w K mg base N qual scope f Ae A outer s H E) [] (start N vs) H s1:=lX S hr.hd e0 hl r x;refine pK (ht [] s1 (start N vs) H _ I hq) (fun fl s' hs=>?_) fun e s' hs=>hs;have fin:∀ {σ':St} {H':Hp}{v:V}{u:Value},Inv (K4 CX P w K mg base N qual scope f Ae A outer s H E) [] σ' H' s'->RelV v u->Q v H'->CE outer P w H s Q u s':=
  fun {σ' H' v u} J rv q=>⟨v,H',J.os,J.bare,J.base,J.AK,rv,q⟩
 cases fl with
 | ret u=>
  obtain ⟨v,σ',H',J,rv,q⟩:=hs;exact fin J rv q
 | next=>
  obtain ⟨σ',H',J,q⟩:=hs;exact fin (v:=V.AB) (u:=Value.none) J rfl q
 | brk=>
  obtain ⟨_,_,_,q⟩:=hs;exact False.elim q
 | cont=>
  obtain ⟨_,_,_,q⟩:=hs;exact False.elim q
section
variable {p:Pos}{t:TA}{id T:String}{r:List V->Hp->VK->Prop}
def D7 (r:List V->Hp->VK->Prop)(t:TA):TE:=fun σ H Q=>t σ H fun vs H1=>r vs H1 Q
end
end L2
namespace HT
variable {E Q:Value->Shared->Prop}{sl t:Addr}{v vl vu:Value}{hi o:Option Int}
section
open PySem.SeqAt
open PySem.AutoSeq1 (wpAny_loadPart')
open PySem.MeetsSeq PySem.MeetsSeq2 PySem.MeetsSeq3
end
section
variable {prog:Program}{w:World}{A:Around}{s:Shared}
def qV {b:Addr}{vs ws:List Value}(ht:IsTup s.heap t vs.toArray)(hb:IsTup s.heap b ws.toArray)(hv:vs≠[])
  (h1:ws=[]->Q (.ref t) s) (h2:ws≠[]->Q (.ref s.heap.objs.size) { s with heap:=s.heap.push { cls:=.type "tuple", data:=.seq (vs++ws).toArray } })
  (hsz:vs.length+ws.length<=sizeLine):wpAny (model prog w) A (binaryOp .Add (.ref t) (.ref b)) Q E s:=by
 obtain ⟨⟨cls,dd,data,sl⟩,ho,hc,n,hd⟩:=id ht;obtain ⟨⟨nB,PQ,data2,QM⟩,Gp,N5,n2,hd2⟩:=id hb;simp only at hc hd N5 hd2;subst hc hd N5 hd2;have e:vs.toArray++ws.toArray=(vs++ws).toArray:=by simp
 by_cases hw:ws=[]
 ·exact concat_meets ⟨_,ho,rfl⟩ ⟨_,Gp,rfl⟩ ZAk seq_tuple_add jX jV (jU _ _)
   (tuple_addW1 t b vs.toArray ws.toArray n n2 dd PQ sl QM (by simpa using hv) (by simp [hw])) ⟨ho,Gp,h1 hw⟩
 ·refine concat_meets ⟨_,ho,rfl⟩ ⟨_,Gp,rfl⟩ ZAk seq_tuple_add jX jV (jU _ _)
   (tuple_addW2 t b vs.toArray ws.toArray n n2 dd PQ sl QM (by simpa using hv) (by simpa using hw) (by rw [Bd,Bd];exact hsz)) ⟨ho,Gp,?_⟩
  rw [e];exact h2 hw
noncomputable def Ak (n d:Nat):Option Int->Nat
 | none=>d
 | some v=>if v<0 then (v+(n:Int)).toNat else min v.toNat n
def Z9 (n d:Nat):Ak n d none=d:=rfl
def ZW (n d k:Nat):Ak n d (some (k:Int))=min k n:=by
 show (if (k:Int)<0 then ((k:Int)+(n:Int)).toNat else min (k:Int).toNat n)=min k n
 rw [k6 (by omega),HF]
def ZBg (n d:Nat)(hd:d<=n)(o:Option Int):Ak n d o<=n:=by
 cases o with
 | none=>exact hd
 | some v=>
  show (if v<0 then (v+(n:Int)).toNat else min v.toNat n)<=n
  by_cases hv:v<0
  ·rw [mZ hv];omega
  ·rw [k6 hv];exact ZD4 _ _
def aT (v:Int)(n d:Nat):(if v<0 then max (v+(n:Int)) 0 else min v (n:Int))=((Ak n d (some v):Nat):Int):=by
 show (if v<0 then max (v+(n:Int)) 0 else min v (n:Int))=(((if v<0 then (v+(n:Int)).toNat else min v.toNat n):Nat):Int)
 by_cases hv:v<0
 ·simp only [mZ hv];omega
 ·simp only [k6 hv];omega
def xH (lo hi:Option Int)(n:Nat):Builtin.Slice.sliceAdjust lo hi 1 (n:Int)=(((Ak n 0 lo:Nat):Int),((Ak n n hi:Nat):Int)):=by
 have h1:¬ ((1:Int)<0):=by omega
 unfold Builtin.Slice.sliceAdjust;simp only [h1,ZB1];refine Prod.ext ?_ ?_
 ·cases lo with
  | none=>rfl
  | some v=>exact aT v n 0
 ·cases hi with
  | none=>rfl
  | some v=>exact aT v n n
def p0 (i j:Nat):Builtin.Slice.slicePlaces (i:Int) (j:Int) 1=j - i:=by
 unfold Builtin.Slice.slicePlaces;have h1:(1:Int) > 0:=by omega
 simp only [h1,ZAT,Int.ediv_one];split <;> omega
def ZI {Q:Option Int->Shared->Prop}(p:IsPart v o)(h:Q o s):wpAny (model prog w) A (Builtin.Slice.slicePartIndex v) Q E s:=by
 cases p with
 | none=>exact slicePart_none h
 | int i t=>exact slicePart_int h
def cD {lo:Option Int}{n:Nat}{Q:Int×Int×Nat->Shared->Prop}(hs:s.heap.IsSliceOf sl vl vu .none)(pl:IsPart vl lo)(pu:IsPart vu hi)
  (h:Q (((Ak n 0 lo:Nat):Int),1,Ak n n hi - Ak n 0 lo) s):wpAny (model prog w) A (Builtin.Slice.sliceApplied (.ref sl) (pure (n:Int))) Q E s:=by
 obtain ⟨os,KL,Q7,OF⟩:=id hs;unfold Builtin.Slice.sliceApplied Builtin.Slice.sliceFields;refine ji (ji (pS KL OF (x:=vl) rfl (ji (pS KL OF (x:=vu) rfl (ji (pS KL OF (x:=.none) rfl (jx ?_)))))));refine ji (slicePart_none ?_);show wpAny _ _ (if ((1:Int) == 0)=true then _ else _) _ _ s
 rw [k6 (by decide)];refine ji (ZI pl (ji (ZI pu (ji (jx ?_)))));show wpAny _ _ (match Builtin.Slice.sliceAdjust lo hi 1 (n:Int) with | (lo,hi)=>pure (lo,(1:Int),Builtin.Slice.slicePlaces lo hi 1)) _ _ s
 rw [xH lo hi n];show wpAny _ _ (pure (((Ak n 0 lo:Nat):Int),(1:Int),Builtin.Slice.slicePlaces ((Ak n 0 lo:Nat):Int) ((Ak n n hi:Nat):Int) 1)) _ _ s;rw [p0];exact jx h
def rJ (xs:Array Value)(i k:Nat):((List.range k).filterMap fun (m:Nat)=>xs[((i:Int)+(m:Int) * 1).toNat]?).toArray=((xs.toList.drop i).take k).toArray:=by
 have e:(fun (m:Nat)=>xs[((i:Int)+(m:Int) * 1).toNat]?)=fun m=>xs[i+m]?:=by
  funext m
  have:((i:Int)+(m:Int) * 1).toNat=i+m:=by omega
  rw [this]
 rw [e];have:=pick_run xs i k;rw [List.filterMap_map] at this;have e2:((fun x=>xs[x]?) ∘ fun x=>i+x)=fun m=>xs[i+m]?:=rfl;rw [e2] at this;rw [this]
def tK {items:Array Value}{lo:Option Int}(ht:IsTup s.heap t items)(hs:s.heap.IsSliceOf sl vl vu .none)(pl:IsPart vl lo)(pu:IsPart vu hi)
  (hw:¬ (Ak items.size 0 lo=0/\Ak items.size items.size hi=items.size))
  (h:Q (.ref s.heap.objs.size) { s with heap:=s.heap.push { cls:=.type "tuple", data:=.seq ((items.toList.drop (Ak items.size 0 lo)).take (Ak items.size items.size hi - Ak items.size 0 lo)).toArray } })
  (hsz:items.size<=sizeLine):wpAny (model prog w) A (getItem (.ref t) (.ref sl)) Q E s:=by
 have Pk:sizeOk (.seq ((items.toList.drop (Ak items.size 0 lo)).take (Ak items.size items.size hi - Ak items.size 0 lo)).toArray):=by
  show ((items.toList.drop (Ak items.size 0 lo)).take (Ak items.size items.size hi - Ak items.size 0 lo)).toArray.size<=sizeLine;rw [Bd,DM,SJ,HE];omega
 have hj:Ak items.size items.size hi<=items.size:=ZBg _ _ (Ai _) hi;obtain ⟨os,KL,Q7,OF⟩:=id hs;have V9:s.TypeIs (.ref sl) "slice" := ⟨os,KL,Q7⟩;unfold getItem
 try with_reducible refine q8 ?_
 first | refine ji (jx ?_) | skip
 refine ji (wpAny_sequenceKey ht.typeIs (by decide) ?_);refine ji (oJ (name:=Str.ofString "__getitem__") ht.typeIs Yi
  (oY Yi ht.typeIs entry_tuple_getitem ?_ (args_tuple_getitem _ _)))
 show wpAny _ _ (Builtin.Tuple.tupleItemsOf (.ref t) >>= _) _ _ s;refine ji (tupleItemsOf_ ht ?_);refine ji (vh V9 ?_);rw [mZ (by decide)];refine ji (cD hs pl pu ?_);have Mq:¬ ((((Ak items.size 0 lo:Nat):Int) == 0 && (1:Int) == 1 && (Ak items.size items.size hi - Ak items.size 0 lo) == items.size)=true):=by
  intro q;rw [Ei,Ei] at q;have q1:((Ak items.size 0 lo:Nat):Int)=0:=eq_of_beq q.1.1;have q2:Ak items.size items.size hi - Ak items.size 0 lo=items.size:=eq_of_beq q.2;exact hw ⟨by omega,by omega⟩
 show wpAny _ _ (if (((Ak items.size 0 lo:Nat):Int) == 0 && (1:Int) == 1 && (Ak items.size items.size hi - Ak items.size 0 lo) == items.size)=true then _ else _) _ _ s
 rw [k6 Mq,rJ]
 first
  | exact ji (m:=Builtin.Tuple.tupleExact _) (p7 (jx ⟨_,rfl,jx h⟩) Pk)
  | exact ji (m:=Builtin.Tuple.tupleExact _) (p7 (ji (jx (jx ⟨_,rfl,jx h⟩))) Pk)
  | exact ji (ji (m:=Builtin.Tuple.tupleExact _) (p7 (jx (jx ⟨_,rfl,jx h⟩)) Pk))
  | exact ji (ji (m:=Builtin.Tuple.tupleExact _) (p7 (jx ⟨_,rfl,jx h⟩) Pk))
end
end HT
namespace L2
variable {X:Cx}{pos:Pos}{xs ys:List V}{A3 its' us:List Value}{α:Type}{j n t':Nat}{i:Int}{pins:ZE7}{σ:St}{H:Hp}{s:Shared}{A:Around}{x y:V}{u v:Value}{T:String}
abbrev TO:=St->Hp->(Option Int->Hp->Prop)->Prop
def PO (X:Cx)(e:Option Expr)(t:TO):Prop:=
 ∀ (pins:ZE7) (s:Shared) (σ:St) (H:Hp) (Q:Option Int->Hp->Prop),Inv X pins σ H s->t σ H Q->
  wpAny (model X.prog X.w) X.A (evalPart e X.env) (fun u s'=>∃ o H',Inv X pins σ H' s'/\IsPart u o/\Q o H') X.xe s
def IG:TO:=fun _ H Q=>Q none H
def IK (t:TE):TO:=fun σ H Q=>t σ H fun x H1=>∃ i,x=.int i/\Q (some i) H1
section
variable {e:Expr}{te:TE}{lo hi:Option Expr}{tl th:TO}{p2:Pos}
def KC (X:Cx)(r:V->Option Int->Option Int->Hp->VK->Prop):Prop:=
 ∀ (pins:ZE7) (s:Shared) (σ:St) (H:Hp) (x:V) (v vl vu:Value) (lo hi:Option Int) (sl:Addr) (Q:VK),Inv X pins σ H s->RelV x v->s.heap.IsSliceOf sl vl vu .none->IsPart vl lo->IsPart vu hi->r x lo hi H Q->
  ∃ T id,typeLookup (.type T) "__getitem__"=pure (some (.builtin id))/\s.TypeIs v T/\wpAny (model X.prog X.w) X.A (getItem v (.ref sl)) (EP X pins σ Q) X.xe s
def Hj (r:V->Option Int->Option Int->Hp->VK->Prop)(te:TE)(tl th:TO):TE:=fun σ H Q=>te σ H fun x H1=>tl σ H1 fun l H2=>th σ H2 fun u H3=>r x l u H3 Q
noncomputable def G9 (xs:List V)(lo hi:Option Int):List V:=(xs.drop (HT.Ak xs.length 0 lo)).take (HT.Ak xs.length xs.length hi - HT.Ak xs.length 0 lo)
def fm (xs:List V)(lo hi:Option Int):(G9 xs lo hi).length<=xs.length:=by
 unfold G9;rw [DM,SJ];omega
def ZAN (K:ZE6):V->Option Int->Option Int->Hp->VK->Prop:=fun x lo hi H Q=>∃ a xs,x=.ref a/\Aq K H a xs/\
 ¬ (HT.Ak xs.length 0 lo=0/\HT.Ak xs.length xs.length hi=xs.length)/\∀ p,H p=none->Q (.ref p) (upd H p (.tup (G9 xs lo hi)))
def uV:KC X (ZAN X.K):=by
 intro pins s σ H x v vl vu lo hi sl Q I rx hs pl pu h;obtain ⟨a,xs,rfl,hx,hw,q⟩:=h;cases rx;obtain ⟨A3,r,ht,hz⟩:=I.tuple hx;have hlen:A3.toArray.size=xs.length:=by rw [Bd];exact r.length.symm
 refine ⟨"tuple", _,PyProof.Rows.slot_tuple_getitem.lookup,ht.typeIs,?_⟩;refine HT.tK ht hs pl pu (by rw [hlen];exact hw) ?_ (by rw [hlen];exact hz);rw [hlen];refine ⟨.ref s.heap.objs.size,_,I.laid (t':=s.toks) (o:=.tup (G9 xs lo hi)) (fun b ob q=>BQ _ q) (Ai _) ?_,rfl,q _ (I.AK.fresh (Ai _))⟩;exact ⟨D1 (fm xs lo hi) hz,_,(r.drop (HT.Ak xs.length 0 lo)).take (HT.Ak xs.length xs.length hi - HT.Ak xs.length 0 lo),⟨IsTup.new _ _,fun Nb e'=>by rw [Ba _ rfl] at e';cases e';rfl⟩⟩
def VL (K:ZE6):R2:=fun x y H Q=>∃ a b xs ys,x=.ref a/\y=.ref b/\Aq K H a xs/\Aq K H b ys/\xs≠[]/\xs.length+ys.length<=sizeLine/\
 (ys=[]->Q (.ref a) H)/\(ys≠[]->∀ p,H p=none->Q (.ref p) (upd H p (.tup (xs++ys))))
def Vals.N9 (r:Vals xs us):us=[]↔xs=[]:=by
 cases r with
 | nil=>simp
 | cons _ _=>simp
def V4:BD X (binaryOp .Add) (VL X.K):=by
 intro pins s σ H x y v u Q I rx ry h;obtain ⟨a,b,xs,ys,rfl,rfl,ha,hb,hx,hz,q1,q2⟩:=h;cases rx;cases ry;obtain ⟨A3,r1,p1,_⟩:=I.tuple ha;obtain ⟨BU,r2,p2,_⟩:=I.tuple hb;refine HT.qV p1 p2 (fun z=>hx (r1.N9.mp z)) (fun z=>⟨.ref a,H,I,rfl,q1 (r2.N9.mp z)⟩) (fun z=>?_) (by rw [<- r1.length,<- r2.length];exact hz);refine ⟨.ref s.heap.objs.size,_,I.laid (t':=s.toks) (o:=.tup (xs++ys)) (fun b ob q=>BQ _ q) (Ai _) ?_,rfl,q2 (fun w=>z (r2.N9.mpr w)) _ (I.AK.fresh (Ai _))⟩;exact ⟨by rw [B2];exact hz,_,r1.append r2,⟨IsTup.new _ _,fun Nb e'=>by rw [Ba _ rfl] at e';cases e';rfl⟩⟩
end
noncomputable def Fw (n:Nat)(i:Int):Option Nat:=if 0<=i then (if i<n then some i.toNat else none) else if -(n:Int)<=i then some (i+n).toNat else none
noncomputable def BA (xs:List α)(i:Int):Option α:=(Fw xs.length i).bind fun j=>xs[j]?
def cI (h:Fw n i=some j):seqIndex? i n=some j/\j<n/\-(n:Int)<=i/\i<n:=by
 unfold Fw at h
 by_cases h0:0<=i
 ·rw [mZ h0] at h
  by_cases h1:i<n
  ·rw [mZ h1] at h;have e:i.toNat=j:=Bc h;exact ⟨by rw [seqIndex_of h0 h1,e],by omega,by omega,h1⟩
  ·rw [k6 h1] at h;cases h
 ·rw [k6 h0] at h
  by_cases h1:-(n:Int)<=i
  ·rw [mZ h1] at h;have e:(i+n).toNat=j:=Bc h;exact ⟨by rw [seqIndex_neg (by omega) h1,e],by omega,h1,by omega⟩
  ·rw [k6 h1] at h;cases h
def XH {xs:List α}{v:α}(h:BA xs i=some v):∃ j,seqIndex? i xs.length=some j/\xs[j]?=some v/\j<xs.length/\-(xs.length:Int)<=i/\i<xs.length:=by
 unfold BA at h;cases e:Fw xs.length i with
 | none=>rw [e] at h;cases h
 | some j=>
  rw [e] at h;obtain ⟨h1,h2,h3,h4⟩:=cI e;exact ⟨j,h1,h,h2,h3,h4⟩
def D4 {xs:List α}{v:α}(h:xs[j]?=some v):BA xs (j:Int)=some v:=by
 have hj:j<xs.length:=(List.getElem?_eq_some_iff.mp h).1;have e:Fw xs.length (j:Int)=some j:=by
  unfold Fw;rw [mZ (by omega),mZ (by omega)];simp
 unfold BA;rw [e];exact h
def XE (b:Expr):Prop:=∀ o i,subscripted b false o i=operate [o,i] (getItem o i)
def Cz (X:Cx)(r:R2):Prop:=
 ∀ (value slice:Expr) (pins:ZE7) (s:Shared) (σ:St) (H:Hp) (x y:V) (v u:Value) (Q:VK),Inv X pins σ H s->RelV x v->RelV y u->r x y H Q->
  subscripted slice false v u=operate [v,u] (getItem v u)->wpAny (model X.prog X.w) X.A (subscriptTail value slice v u) (EP X pins σ Q) X.xe s
def Gz (X:Cx)(id:String)(r:V->List V->Hp->VK->Prop):Prop:=
 ∀ (pins:ZE7) (s:Shared) (σ:St) (H:Hp) (x:V) (xs:List V) (v:Value) (us:List Value) (Q:VK),Inv X pins σ H s->RelV x v->Vals xs us->r x xs H Q->
  wpAny (model X.prog X.w) X.A (call (.builtin id) (v::us)) (EP X pins σ Q) X.xe s
section
variable {a b:Expr}{ta tb:TE}
def MB (K:ZE6):R2:=fun x y H Q=>∃ p xs i v,x=.ref p/\y=.int i/\AY K H p xs/\BA xs i=some v/\Q v H
def Du (K:ZE6):R2:=fun x y H Q=>∃ p xs i v,x=.ref p/\y=.int i/\Aq K H p xs/\BA xs i=some v/\Q v H
def zK:R2:=fun x y H Q=>∃ z i c,x=.str z/\y=.int i/\z.length<=sizeLine/\BA z.cps.toList i=some c/\Q (.str ⟨#[c]⟩) H
def BZ:Cz X (MB X.K):=by
 intro value slice pins s σ H x y v u Q I rx ry h hs;obtain ⟨p,xs,i,z,rfl,rfl,hq,he,q⟩:=h;cases rx;obtain ⟨t,rfl⟩:=ry;obtain ⟨A3,r,pl,hz⟩:=I.list hq;obtain ⟨j,h1,h2,h3,h4,h5⟩:=XH he;obtain ⟨w,ew,Gd⟩:=r.get h2;have hl:=r.length;have hn:=JF;have fin:EP X pins σ Q w s:=⟨z,H,I,Gd,q⟩
 by_cases h0:0<=i
 ·have hj:i.toNat=j:=by
   rw [seqIndex_of h0 h5] at h1;exact Bc h1
  exact item_listR pl.isList h0 (by omega) (by rw [hj];simpa using ew) fin hs
 ·have hj:(i+(A3.toArray.size:Int)).toNat=j:=by
   rw [seqIndex_neg (by omega) h4] at h1;rw [Bd,<- hl];exact Bc h1
  exact subscriptTail_builtinR (x:=w) pl.isList.typeIs slot_list_getitem.lookup
   (wpAny_getItem_list_neg (Q:=fun r s'=>r=w/\EP X pins σ Q r s') pl.isList (by omega) (by rw [Bd] <;> omega) (by omega) (by rw [hj];simpa using ew) ⟨rfl,fin⟩) hs
def Ar:Cz X (Du X.K):=by
 intro value slice pins s σ H x y v u Q I rx ry h hs;obtain ⟨p,xs,i,z,rfl,rfl,hq,he,q⟩:=h;cases rx;obtain ⟨t,rfl⟩:=ry;obtain ⟨A3,r,pl,hz⟩:=I.tuple hq;obtain ⟨j,h1,h2,h3,h4,h5⟩:=XH he;obtain ⟨w,ew,Gd⟩:=r.get h2;have hl:=r.length;have hn:=JF;have fin:EP X pins σ Q w s:=⟨z,H,I,Gd,q⟩;exact subscriptTail_builtinR (x:=w) pl.typeIs slot_tuple_getitem.lookup
  (getItem_tuple (j:=j) (Q:=fun r s'=>r=w/\EP X pins σ Q r s') pl (by omega) (by omega) (by rw [Bd,<- hl];exact h1) (by simpa using ew) ⟨rfl,fin⟩) hs
def ZBb:Cz X zK:=by
 intro value slice pins s σ H x y v u Q I rx ry h hs;obtain ⟨z,i,c,rfl,rfl,hz,he,q⟩:=h;obtain ⟨t,rfl⟩:=rx;obtain ⟨t',rfl⟩:=ry;obtain ⟨j,h1,h2,h3,h4,h5⟩:=XH he;have hl:z.cps.toList.length=z.length:=by simp [Str.length]
 rw [hl] at h1 h4 h5;have hn:=JF;exact tail_any (typeIs_str s z t) slot_str_getitem.lookup (getItem_str (c:=c) (by
  have e1:decide (i < -(2 ^ 63:Int))=false:=nZ (by omega);have e2:decide (i>=2 ^ 63)=false:=nZ (by omega);rw [e1,e2,Bool.or_false]) (by rw [h1];simpa using h2) ⟨.str ⟨#[c]⟩,H,I.tok _,⟨_,rfl⟩,q⟩) hs
def tD (A3:List Value)(n j:Nat)(u:Value):Obj.mapSeq (·.setIfInBounds j u) { cls:=.type "list", data:=.seq A3.toArray n }={ cls:=.type "list", data:=.seq (A3.set j u).toArray n }:=by
 simp [Obj.mapSeq]
theorem Inv.lst {pins:ZE7}{σ:St}{H:Hp}{s:Shared}{p:Addr}{xs:List V}(I:Inv X pins σ H s)(h:H p=some (.lst xs)):
  ∃ (A3:List Value) (n:Nat),Vals xs A3/\s.heap.get? p=some { cls:=.type "list", data:=.seq A3.toArray n }/\xs.length<=sizeLine:=by
 obtain ⟨z,A3,n,r,e⟩:=I.AK p _ h;exact ⟨A3,n,r,e,z⟩
def Inv.ZAu {p:Addr}{n':Nat}{f:Obj->Obj}(I:Inv X pins σ H s)(h:H p=some (.lst xs))
  (ho:s.heap.get? p=some { cls:=.type "list", data:=.seq A3.toArray n }) (hf:f { cls:=.type "list", data:=.seq A3.toArray n }={ cls:=.type "list", data:=.seq its'.toArray n' }) (r:Vals ys its') (hz:ys.length<=sizeLine) (t:Nat) :
  Inv X pins σ (upd H p (.lst ys)) { s with heap:=s.heap.update p f,toks:=t }:=by
 have e:(s.heap.update p f).get? p=some { cls:=.type "list", data:=.seq its'.toArray n' }:=by
  rw [GR f ho (by rw [hf] <;> rfl),hf]
 refine I.write (x:=p) (e:=p) (by rw [h];trivial) (.inl rfl) (fun b u hb q=>(Hq _ _ (Bs hb)).trans q) ⟨_,e⟩ ?_;exact ⟨hz,its',n',r,e⟩
def VC:V->V->V->Hp->(Hp->Prop)->Prop:=fun o i v H Q=>∃ p xs k j,o=.ref p/\i=.int k/\H p=some (.lst xs)/\Fw xs.length k=some j/\Q (upd H p (.lst (xs.set j v)))
def set_list:R8 X VC:=by
 intro pins s σ H o i v ov iv u Q I ro ri rv h;obtain ⟨p,xs,k,j,rfl,rfl,hp,hj,q⟩:=h;cases ro;obtain ⟨t,rfl⟩:=ri;obtain ⟨A3,n,r,ho,hz⟩:=I.lst hp;obtain ⟨h1,h2,h3,h4⟩:=cI hj;have hl:=r.length;have hn:=JF;have I':Inv X pins σ (upd H p (.lst (xs.set j v))) { s with heap:=s.heap.update p (Obj.mapSeq (·.setIfInBounds j u)) }:=
  I.ZAu hp ho (tD A3 n j u) (r.set rv j) (by rw [LL];exact hz) s.toks
 by_cases h0:0<=k
 ·have hk:k.toNat=j:=by
   rw [seqIndex_of h0 h4] at h1;exact Bc h1
  exact PySem.W.ki_setAt ho h0 (by omega) (by rw [Bd,<- hl];exact h4) (by rw [hk];exact ⟨_,I',q⟩)
 ·have hk:(k+(A3.toArray.size:Int)).toNat=j:=by
   rw [seqIndex_neg (by omega) h3] at h1;rw [Bd,<- hl];exact Bc h1
  exact PySem.W.ki_setBack ho (by omega) (by rw [Bd,<- hl];exact h3) (by omega) (by rw [hk];exact ⟨_,I',q⟩)
def ki (lo hi:Option Int)(n:Nat):(sliceBounds lo hi none n).1=((HT.Ak n 0 lo:Nat):Int)/\(sliceBounds lo hi none n).2.1=((HT.Ak n n hi:Nat):Int)/\(sliceBounds lo hi none n).2.2=1:=by
 refine ⟨?_,?_,rfl⟩
 ·cases lo with
  | none=>simp [sliceBounds,HT.Ak]
  | some i=>
   simp only [sliceBounds,HT.Ak,ZD6,show (1:Int) > 0 by decide,ZAT]
   by_cases h:i<0
   ·simp only [h,ZAT] <;> omega
   ·simp only [h,ZB1] <;> omega
 ·cases hi with
  | none=>simp [sliceBounds,HT.Ak]
  | some i=>
   simp only [sliceBounds,HT.Ak,ZD6,show (1:Int) > 0 by decide,ZAT]
   by_cases h:i<0
   ·simp only [h,ZAT] <;> omega
   ·simp only [h,ZB1] <;> omega
def vi (A3:List Value)(lo hi:Option Int):slicePick A3.toArray lo hi none=((A3.drop (HT.Ak A3.length 0 lo)).take (HT.Ak A3.length A3.length hi - HT.Ak A3.length 0 lo)).toArray:=by
 obtain ⟨h1,h2,h3⟩:=ki lo hi A3.toArray.size;unfold slicePick;rw [h1,h2,h3];simp only [sliceRange_one,pick_run,Bd] <;> rfl
def IJ (K:ZE6):V->Option Int->Option Int->Hp->VK->Prop:=fun x lo hi H Q=>∃ a xs,x=.ref a/\AY K H a xs/\∀ p,H p=none->Q (.ref p) (upd H p (.lst (G9 xs lo hi)))
def Cm:KC X (IJ X.K):=by
 intro pins s σ H x v vl vu lo hi sl Q I rx hs pl pu h;obtain ⟨a,xs,rfl,hx,q⟩:=h;cases rx;obtain ⟨A3,r,ht,hz⟩:=I.list hx;have hlen:=r.length;refine ⟨"list", _,slot_list_getitem.lookup,ht.isList.typeIs,?_⟩;refine wpAny_getItem_list_slice ht.isList hs pl pu .none (by simp) ?_ (by rw [Bd] <;> omega)
 rw [vi,<- hlen];refine ⟨.ref s.heap.objs.size,_,I.laid (t':=s.toks) (o:=.lst (G9 xs lo hi)) (fun b ob q=>BQ _ q) (Ai _) ?_,rfl,q _ (I.AK.fresh (Ai _))⟩;exact ⟨D1 (fm xs lo hi) hz,_,0,(r.drop (HT.Ak xs.length 0 lo)).take (HT.Ak xs.length xs.length hi - HT.Ak xs.length 0 lo),Ba _ rfl⟩
noncomputable def Eh:V->Bool
 | .AB=>true
 | .bl _=>true
 | .int _=>true
 | .str _=>true
 | _=>false
noncomputable def DX:V->V->Bool
 | .AB,.AB=>true
 | .bl a,.bl b=>a == b
 | .bl a,.int b=>(if a then 1 else 0) == b
 | .int a,.bl b=>a == (if b then 1 else 0)
 | .int a,.int b=>a == b
 | .str a,.str b=>a == b
 | _,_=>false
def Ro (ry:RelV y u)(rx:RelV x v)(fy:Eh y=true)(fx:Eh x=true):SeqAt.EqAt A s u v (DX y x):=by
 cases y with
 | AB=>
  cases ry;cases x with
  | AB=>cases rx;exact SeqAt.EqAt.same _
  | bl b=>cases rx;exact SeqAt.EqAt.none_bool b
  | int b=>obtain ⟨t,rfl⟩:=rx;exact SeqAt.EqAt.none_int b t
  | str b=>obtain ⟨t,rfl⟩:=rx;exact SeqAt.EqAt.none_str b t
  | _=>exact absurd (show false=true from fx) Cr
 | bl a=>
  cases ry;cases x with
  | AB=>cases rx;exact SeqAt.EqAt.bool_none a
  | bl b=>cases rx;exact SeqAt.EqAt.bool_bool a b
  | int b=>obtain ⟨t,rfl⟩:=rx;exact SeqAt.EqAt.bool_int a b t
  | str b=>obtain ⟨t,rfl⟩:=rx;exact SeqAt.EqAt.bool_str a b t
  | _=>exact absurd (show false=true from fx) Cr
 | int a=>
  obtain ⟨t',rfl⟩:=ry;cases x with
  | AB=>cases rx;exact SeqAt.EqAt.int_none a t'
  | bl b=>cases rx;exact SeqAt.EqAt.int_bool a t' b
  | int b=>obtain ⟨t,rfl⟩:=rx;exact SeqAt.EqAt.int_int a t' b t
  | str b=>obtain ⟨t,rfl⟩:=rx;exact SeqAt.EqAt.int_str a t' b t
  | _=>exact absurd (show false=true from fx) Cr
 | str a=>
  obtain ⟨t',rfl⟩:=ry;cases x with
  | AB=>cases rx;exact SeqAt.EqAt.str_none a t'
  | bl b=>cases rx;exact SeqAt.EqAt.str_bool a t' b
  | int b=>obtain ⟨t,rfl⟩:=rx;exact SeqAt.EqAt.str_int a t' b t
  | str b=>obtain ⟨t,rfl⟩:=rx;exact SeqAt.EqAt.str_str a t' b t
  | _=>exact absurd (show false=true from fx) Cr
 | _=>exact absurd (show false=true from fy) Cr
noncomputable def EO (x:V)(u:Value):Bool:=match u with
 | .none=>DX .AB x
 | .bool b=>DX (.bl b) x
 | .int i _=>DX (.int i) x
 | .str z _=>DX (.str z) x
 | _=>false
def iE (r:RelV y u)(f:Eh y=true):EO x u=DX y x:=by
 cases y with
 | AB=>cases r;rfl
 | bl b=>cases r;rfl
 | int i=>obtain ⟨t,rfl⟩:=r;rfl
 | str z=>obtain ⟨t,rfl⟩:=r;rfl
 | _=>exact absurd (show false=true from f) Cr
theorem Mr {x:V}:∀ {xs:List V}{us:List Value},Vals xs us->xs.all Eh=true->us.any (EO x)=xs.any fun y=>DX y x
 | _,_,.nil,_=>rfl
 | y::xs,u::us,.cons r t,f=>by
  rw [SG,Ei] at f;rw [Mg,Mg,iE r f.1,Mr t f.2]
theorem LY {A:Around}{s:Shared}{x:V}{v:Value}(rx:RelV x v)(fx:Eh x=true):∀ {xs:List V}{us:List Value},Vals xs us->xs.all Eh=true->∀ u∈us,SeqAt.EqAt A s u v (EO x u)
 | _,_,.nil,_=>fun u hu=>by cases hu
 | y::xs,u::us,.cons r t,f=>fun u' hu=>by
  rw [SG,Ei] at f;rcases List.mem_cons.mp hu with rfl | hu
  ·rw [iE r f.1];exact Ro r rx f.1 fx
  ·exact LY rx fx t f.2 u' hu
noncomputable def Qz (x:V)(xs:List V):Bool:=xs.any fun y=>DX y x
def HN (K:ZE6)(neg:Bool):R2:=fun x y H Q=>∃ p xs,y=.ref p/\(AY K H p xs∨Aq K H p xs)/\Eh x=true/\xs.all Eh=true/\Q (.bl (if neg then !Qz x xs else Qz x xs)) H
def En:BD X (compareOp .In) (HN X.K false):=by
 intro pins s σ H x y v u Q I rx ry h;obtain ⟨p,xs,rfl,hq,fx,fs,q⟩:=h;cases ry;rcases hq with hq | hq
 ·obtain ⟨A3,r,pl,hz⟩:=I.list hq;refine SeqAt.in_listAt (EO x) pl.isList (fun w hw=>LY rx fx r fs w (by simpa using hw)) ⟨.bl _,H,I,rfl,?_⟩
  rw [show A3.toArray.any (EO x)=A3.any (EO x) by simp,Mr r fs];exact q
 ·obtain ⟨A3,r,pl,hz⟩:=I.tuple hq;refine SeqAt.in_tupleAt (EO x) pl (fun w hw=>LY rx fx r fs w (by simpa using hw)) ⟨.bl _,H,I,rfl,?_⟩
  rw [show A3.toArray.any (EO x)=A3.any (EO x) by simp,Mr r fs];exact q
def KU:BD X (compareOp .NotIn) (HN X.K true):=by
 intro pins s σ H x y v u Q I rx ry h;obtain ⟨p,xs,rfl,hq,fx,fs,q⟩:=h;cases ry;rcases hq with hq | hq
 ·obtain ⟨A3,r,pl,hz⟩:=I.list hq;refine SeqAt.notIn_listAt (EO x) pl.isList (fun w hw=>LY rx fx r fs w (by simpa using hw)) ⟨.bl _,H,I,rfl,?_⟩
  rw [show A3.toArray.any (EO x)=A3.any (EO x) by simp,Mr r fs];exact q
 ·obtain ⟨A3,r,pl,hz⟩:=I.tuple hq;refine SeqAt.notIn_tupleAt (EO x) pl (fun w hw=>LY rx fx r fs w (by simpa using hw)) ⟨.bl _,H,I,rfl,?_⟩
  rw [show A3.toArray.any (EO x)=A3.any (EO x) by simp,Mr r fs];exact q
def QR:CJ X (.builtin "len") (fun xs H Q=>∃ p ys,xs=[.ref p]/\(AY X.K H p ys∨Aq X.K H p ys)/\Q (.int ys.length) H):=by
 intro pins s σ H xs us Q I r h;obtain ⟨p,ys,rfl,hq,q⟩:=h;obtain ⟨u,rfl,rx⟩:=vals1 r;cases rx;have hn:=JF;rcases hq with hq | hq
 ·obtain ⟨A3,r',pl,hz⟩:=I.list hq;have hlen:=r'.length;exact Calls.call_len_list pl.isList (by simp only [Bd] <;> omega) ⟨.int ys.length,H,I.tok _,⟨s.toks+1,by rw [Bd,hlen]⟩,q⟩
 ·obtain ⟨A3,r',pl,hz⟩:=I.tuple hq;have hlen:=r'.length;exact len_tuple pl (by simp only [Bd] <;> omega) ⟨.int ys.length,H,I.tok _,⟨s.toks+1,by rw [Bd,hlen]⟩,q⟩
def iR:CJ X (.builtin "len") (fun xs H Q=>∃ z,xs=[.str z]/\z.length<=sizeLine/\Q (.int z.length) H):=by
 intro pins s σ H xs us Q I r h;obtain ⟨z,rfl,hz,q⟩:=h;obtain ⟨u,rfl,t,rfl⟩:=vals1 r;have hn:=JF;exact len_str (by omega) ⟨.int z.length,H,I.tok _,⟨_,rfl⟩,q⟩
def Nq:CJ X (.type "list") (fun xs H Q=>∃ p ys,xs=[.ref p]/\(AY X.K H p ys∨Aq X.K H p ys)/\∀ l,H l=none->Q (.ref l) (upd H l (.lst ys))):=by
 intro pins s σ H xs us Q I r h;obtain ⟨p,ys,rfl,hq,q⟩:=h;obtain ⟨u,rfl,rx⟩:=vals1 r;cases rx;have fin:∀ (A3:List Value),Vals ys A3->ys.length<=sizeLine->∀ (h':Heap) (c':Nat),(∀ b o',s.heap.get? b=some o'->h'.get? b=some o')->
   h'.get? s.heap.objs.size=some { cls:=.type "list", dict:=none,data:=.seq A3.toArray c',slots:=#[] }->EP X pins σ Q (.ref s.heap.objs.size) { s with heap:=h' }:=fun A3 r' hz h' c' kp e=>
  ⟨.ref s.heap.objs.size,_,I.laid (t':=s.toks) kp (Ai _) (show CI X.prog X.w _ h' _ (.lst ys) from ⟨hz,A3,c',r',e⟩),rfl,q _ (I.AK.fresh (Ai _))⟩
 rcases hq with hq | hq
 ·obtain ⟨A3,r',pl,hz⟩:=I.list hq;have hlen:=r'.length;obtain ⟨o,ho,hc,n,hd⟩:=pl.isList;exact call_list_seq p (.inl rfl) ho hc hd (fun h' c' kp e=>fin A3 r' hz h' c' kp e) (by simp only [Bd] <;> omega)
 ·obtain ⟨A3,r',pl,hz⟩:=I.tuple hq;have hlen:=r'.length;obtain ⟨o,ho,hc,n,hd⟩:=pl;exact call_list_seq p (.inr rfl) ho hc hd (fun h' c' kp e=>fin A3 r' hz h' c' kp e) (by simp only [Bd] <;> omega)
def Of:CJ X (.type "tuple") (fun xs H Q=>∃ p ys,xs=[.ref p]/\((AY X.K H p ys/\∀ l,H l=none->Q (.ref l) (upd H l (.tup ys)))∨(Aq X.K H p ys/\Q (.ref p) H))):=by
 intro pins s σ H xs us Q I r h;obtain ⟨p,ys,rfl,h⟩:=h;obtain ⟨u,rfl,rx⟩:=vals1 r;cases rx;rcases h with ⟨hq,q⟩ | ⟨hq,q⟩
 ·obtain ⟨A3,r',pl,hz⟩:=I.list hq;have hlen:=r'.length;refine call_tuple_list pl.isList (fun h' kp=>?_) (by simp only [Bd] <;> omega)
  have I1:Inv X pins σ H { s with heap:=h' }:=I.kept (t':=s.toks) kp
  have I2:Inv X pins σ (upd H h'.objs.size (.tup ys)) { s with heap:=h'.push { cls:=.type "tuple", data:=.seq A3.toArray } }:=
   I1.laid (t':=s.toks) (fun b o e=>BQ _ e) (Ai _) (show CI X.prog X.w _ _ _ (.tup ys) from ⟨hz,A3,r',⟨IsTup.new _ _,fun Nb e'=>by rw [Ba _ rfl] at e';cases e';rfl⟩⟩)
  exact ⟨.ref h'.objs.size,_,I2,rfl,q _ (I1.AK.fresh (Ai _))⟩
 ·obtain ⟨A3,r',pl,hz⟩:=I.tuple hq;exact call_tuple_same pl ⟨.ref p,H,I,rfl,q⟩
def Kq (K:ZE6)(T:String)(x:V)(H:Hp):Prop:=match x with
 | .str _=>T="str"
 | .int _=>T="int"
 | .ref p=>(T="list" /\ ∃ xs,AY K H p xs)∨(T="tuple" /\ ∃ o,K.lookup p=some o/\o.cls=.type "tuple" /\ o.dict=none)∨
   (T="dict" /\ ((∃ A8,H p=some (.dK A8))∨∃ A8,H p=some (.dT A8)))∨(T="set" /\ ∃ S n,H p=some (.set S n))∨(T="tuple" /\ ∃ xs,H p=some (.tup xs))
 | _=>False
def ia (I:Inv X pins σ H s)(r:RelV x v)(ty:Kq X.K T x H):
  s.TypeIs v T/\∀ a,v=.ref a->∃ ob,s.heap.get? a=some ob/\ob.dict=none:=by
 cases x with
 | str z=>
  obtain ⟨t,rfl⟩:=r;cases (show T="str" from ty);exact ⟨typeIs_str s z t,fun _ e=>nomatch e⟩
 | int i=>
  obtain ⟨t,rfl⟩:=r;cases (show T="int" from ty);exact ⟨typeIs_int s i t,fun _ e=>nomatch e⟩
 | ref p=>
  cases r;rcases ty with ⟨rfl,xs,hq⟩ | ⟨rfl,o,hk,hc,hd⟩ | ⟨rfl,hk⟩ | ⟨rfl,S,n,hk⟩ | ⟨rfl,xs,hk⟩
  ·obtain ⟨A3,_,pl,_⟩:=I.list hq;refine ⟨pl.isList.typeIs,fun a e=>?_⟩;cases e;obtain ⟨o,n,e,c,hd,_⟩:=pl;exact ⟨o,e,hd⟩
  ·refine ⟨⟨o,I.Cn p o hk,hc⟩,fun a e=>?_⟩;cases e;exact ⟨o,I.Cn _ o hk,hd⟩
  ·have z:∃ o,s.heap.get? p=some o/\o.ExactDict:=by
    rcases hk with ⟨A8,hk⟩ | ⟨A8,hk⟩
    ·obtain ⟨_,_,_,_,o,_,_,e,ex,_⟩:=I.AK p _ hk;exact ⟨o,e,ex⟩
    ·obtain ⟨_,_,_,_,o,_,_,e,ex,_⟩:=I.AK p _ hk;exact ⟨o,e,ex⟩
   obtain ⟨o,e,ex⟩:=z;refine ⟨⟨o,e,ex.1⟩,fun a e2=>?_⟩;cases e2;exact ⟨o,e,ex.2.1⟩
  ·obtain ⟨o,_,_,_,e,ex,_⟩:=I.AK p _ hk;refine ⟨⟨o,e,ex.1⟩,fun a e2=>?_⟩;cases e2;exact ⟨o,e,ex.2.1⟩
  ·obtain ⟨_,A3,_,⟨o,e,c,_⟩,dn⟩:=I.AK p _ hk;refine ⟨⟨o,e,c⟩,fun a e2=>?_⟩;cases e2;exact ⟨o,e,dn o e⟩
 | _=>exact False.elim ty
def RI (K:ZE6)(T:String)(r:V->List V->Hp->VK->Prop)(to:TE):TE:=fun σ H Q=>to σ H fun x H1=>Kq K T x H1/\r x [] H1 Q
def Jf (K:ZE6)(T:String)(r:V->List V->Hp->VK->Prop)(to:TE)(t:TA):TE:=fun σ H Q=>to σ H fun x H1=>Kq K T x H1/\t σ H1 fun xs H2=>r x xs H2 Q
variable {o e:Expr}{es:List Expr}{to:TE}{t:TA}{name:Str}{apos Cu:Pos}{id:String}{r:V->List V->Hp->VK->Prop}
end
def N6 (X:Cx)(id:String)(r:V->List V->Hp->VK->Prop):Prop:=
 ∀ (pins:ZE7) (s:Shared) (σ:St) (H:Hp) (x:V) (xs:List V) (v:Value) (us:List Value) (Q:VK),Inv X pins σ H s->RelV x v->Vals xs us->r x xs H Q->
  wpAny (model X.prog X.w) X.A (call (.builtin id) (v::us)) (EP X pins σ Q) X.xe s
def Vals.one:∀ {x:V}{us:List Value},Vals [x] us->∃ u,us=[u]/\RelV x u
 | _,_,.cons r .nil=>⟨_,rfl,r⟩
def Vals.two:∀ {x y:V}{us:List Value},Vals [x,y] us->∃ u v,us=[u,v]/\RelV x u/\RelV y v
 | _,_,_,.cons r (.cons q .nil)=>⟨_,_,rfl,r,q⟩
def Vals.zero:∀ {us:List Value},Vals [] us->us=[]
 | _,.nil=>rfl
theorem Vals.dropLast (h:Vals xs us):Vals xs.dropLast us.dropLast:=by
 induction h with
 | nil=>exact .nil
 | cons r t ih=>
  cases t with
  | nil=>exact .nil
  | cons q t'=>exact .cons r ih
theorem Vals.eraseIdx:∀ {xs:List V}{us:List Value}(i:Nat),Vals xs us->Vals (xs.eraseIdx i) (us.eraseIdx i)
 | _,_,_,.nil=>.nil
 | _,_,0,.cons _ t=>t
 | _,_,i+1,.cons r t=>.cons r (Vals.eraseIdx i t)
theorem Vals.reverse (h:Vals xs us):Vals xs.reverse us.reverse:=by
 induction h with
 | nil=>exact .nil
 | cons r t ih=>rw [YY,YY];exact Vals.append ih (.cons r .nil)
theorem Vals.rep {xs:List V}{us:List Value}(h:Vals xs us):∀ k:Nat,Vals (List.replicate k xs).flatten (List.replicate k us).flatten
 | 0=>.nil
 | k+1=>by
  rw [Jq,Jq,Mh,Mh];exact Vals.append h (Vals.rep h k)
def kU (l:List α):l.eraseIdx (l.length - 1)=l.dropLast:=by
 induction l with
 | nil=>rfl
 | cons a r ih=>
  cases r with
  | nil=>rfl
  | cons b r=>
   have e:(a::b::r).length - 1=((b::r).length - 1)+1:=by
    have h1:(a::b::r).length=r.length+2:=rfl;have h2:(b::r).length=r.length+1:=rfl;omega
   rw [e,ZCn,ih]
   all_goals rfl
theorem iT {α:Type}:∀ (l:List α) (i:Nat),(l.eraseIdx i).length<=l.length
 | [],_=>Ai _
 | _::_,0=>Fu _
 | _::r,i+1=>Nat.succ_le_succ (iT r i)
theorem foldl_rep (A3:List Value):∀ (k:Nat) (acc:List Value),
  List.foldl (fun x1 x2=>x1++x2) acc.toArray (List.replicate k A3.toArray)=(acc++(List.replicate k A3).flatten).toArray
 | 0,acc=>by simp
 | k+1,acc=>by
  have e:acc.toArray++A3.toArray=(acc++A3).toArray:=by simp
  have e2:(acc++A3)++(List.replicate k A3).flatten=acc++(List.replicate (k+1) A3).flatten:=by
   rw [Jq,Mh,Cd]
  rw [<- e2,<- foldl_rep A3 k (acc++A3),<- e,Jq,Oy]
section
variable {l b:Addr}{zs:List V}
def Inv.Lr {f:Array Value->Array Value}(I:Inv X pins σ H s)(hH:H l=some (.lst xs))
  (e:s.heap.get? l=some { cls:=.type "list", data:=.seq A3.toArray n }) (hf:f A3.toArray=its'.toArray) (hv:Vals ys its') (hz:ys.length<=sizeLine) :
  Inv X pins σ (upd H l (.lst ys)) { s with heap:=s.heap.update l (Obj.mapSeq f),toks:=t' }:=by
 have q:=PySem.IsL.update e f;rw [hf] at q;refine I.write (x:=l) (e:=l) (by rw [hH];exact trivial) (.inl rfl) (fun b' u hb hu=>(Hq s.heap (Obj.mapSeq f) (Bs hb)).trans hu) ⟨_,q⟩ ?_;exact ⟨hz,its',_,hv,q⟩
def Inv.iD (I:Inv X pins σ H s)(hv:Vals ys A3)(hz:ys.length<=sizeLine):
  Inv X pins σ (upd H s.heap.objs.size (.lst ys)) { s with heap:=s.heap.push { cls:=.type "list", data:=.seq A3.toArray },toks:=t' }:=
 I.laid (fun _ _ q=>BQ _ q) (Ai _) ⟨hz,A3,0,hv,Ba _ rfl⟩
theorem Inv.fresh (I:Inv X pins σ H s):H s.heap.objs.size=none:=I.AK.fresh (Ai _)
def Inv.Hw (I:Inv X pins σ H s)(hH:H l=some (.lst xs)):xs.length<=sizeLine/\∃ (A3:List Value) (n:Nat),Vals xs A3/\xs.length=A3.length/\s.heap.get? l=some { cls:=.type "list", data:=.seq A3.toArray n }:=by
 obtain ⟨z,A3,n,r,e⟩:=I.AK l _ hH;exact ⟨z,A3,n,r,r.length,e⟩
def qJ (h:n<=sizeLine):Builtin.List.listTooLong n=false:=by
 unfold Builtin.List.listTooLong;exact nZ (by omega)
def RS:V->List V->Hp->VK->Prop:=fun x vs H Q=>∃ l xs y,x=.ref l/\vs=[y]/\H l=some (.lst xs)/\xs.length<sizeLine/\Q .AB (upd H l (.lst (xs++[y])))
def gx:N6 X "list.append" RS:=by
 intro pins s σ H x vs v us Q I rx rv h;obtain ⟨l,xs,y,rfl,rfl,hH,hz,q⟩:=h;cases rx;obtain ⟨u,rfl,ru⟩:=rv.one;obtain ⟨z,A3,n,r,hl,e⟩:=I.Hw hH;refine uF F.slot_list_append ⟨_,e,rfl⟩ F.entry_list_append (F.args_list_append_2 _ _) (PySem.list_append l A3.toArray n u (by rw [Bd];omega)) ⟨e,?_⟩;refine ⟨.AB,_,I.Lr (its':=A3++[u]) hH e (by simp) (r.append (.cons ru .nil)) ?_,rfl,q⟩;rw [B2,GS];omega
def Xr:V->List V->Hp->VK->Prop:=fun x vs H Q=>∃ l b xs zs,x=.ref l/\vs=[.ref b]/\H l=some (.lst xs)/\H b=some (.lst zs)/\xs.length+zs.length<=sizeLine/\Q .AB (upd H l (.lst (xs++zs)))
def rY:N6 X "list.extend" Xr:=by
 intro pins s σ H x vs v us Q I rx rv h;obtain ⟨l,b,xs,zs,rfl,rfl,hH,hB,hz,q⟩:=h;cases rx;obtain ⟨u,rfl,ru⟩:=rv.one;cases ru;obtain ⟨z,A3,n,r,hl,e⟩:=I.Hw hH;obtain ⟨z2,BU,n2,r2,DA,e2⟩:=I.Hw hB;have hsz:A3.toArray.size+BU.toArray.size<=sizeLine:=by rw [Bd,Bd];omega
 have nq:¬ (!A3.toArray.isEmpty && Builtin.List.listTooLong (A3.toArray.size+BU.toArray.size))=true:=by
  rw [qJ hsz,SE];exact Cr
 refine uF F.slot_list_extend ⟨_,e,rfl⟩ F.entry_list_extend (F.args_list_extend_2 _ _)
  (AutoSeq1.list_extend_list_list_0 l A3.toArray n b BU.toArray n2 nq (by rw [Bd];omega) (by omega)) ⟨e,e2,?_⟩
 refine ⟨.AB,_,I.Lr (its':=A3++BU) hH e (by simp) (r.append r2) ?_,rfl,q⟩;rw [B2];omega
def Wd:V->List V->Hp->VK->Prop:=fun x vs H Q=>∃ l xs y,x=.ref l/\vs=[]/\H l=some (.lst xs)/\xs[xs.length - 1]?=some y/\Q y (upd H l (.lst xs.dropLast))
def tJ:N6 X "list.pop" Wd:=by
 intro pins s σ H x vs v us Q I rx rv h;obtain ⟨l,xs,y,rfl,rfl,hH,hy,q⟩:=h;cases rx;have OC:=rv.zero;subst OC;obtain ⟨z,A3,n,r,hl,e⟩:=I.Hw hH;obtain ⟨u,hu,ru⟩:=r.get hy;have oK:A3.toArray[A3.toArray.size - 1]?=some u:=by
  show A3.toArray[A3.length - 1]?=some u;rw [<- SD,<- hl];exact hu
 refine uF F.slot_list_pop ⟨_,e,rfl⟩ F.entry_list_pop (F.args_list_pop_1 _) (MeetsSeq.list_pop_last l A3.toArray n u oK (by rw [Bd];omega)) ⟨e,?_⟩;refine ⟨y,_,I.Lr (its':=A3.dropLast) hH e ?_ r.dropLast ?_,ru,q⟩
 ·show A3.toArray.eraseIdxIfInBounds (A3.toArray.size - 1)=A3.dropLast.toArray;rw [Bd,ZCm,kU]
 ·rw [List.length_dropLast];omega
def Sw:V->List V->Hp->VK->Prop:=fun x vs H Q=>∃ l xs,x=.ref l/\vs=[]/\H l=some (.lst xs)/\Q .AB (upd H l (.lst []))
def lV:N6 X "list.clear" Sw:=by
 intro pins s σ H x vs v us Q I rx rv h;obtain ⟨l,xs,rfl,rfl,hH,q⟩:=h;cases rx;have OC:=rv.zero;subst OC;obtain ⟨z,A3,n,r,hl,e⟩:=I.Hw hH;refine uF F.slot_list_clear ⟨_,e,rfl⟩ F.entry_list_clear (F.args_list_clear_1 _) (AutoSeq1.list_clear_list_0 l A3.toArray n (by rw [Bd];omega)) ⟨e,?_⟩;exact ⟨.AB,_,I.Lr (its':=[]) (ys:=[]) hH e rfl .nil (CM _),rfl,q⟩
def YA:R2:=fun x y H Q=>∃ l b xs zs,x=.ref l/\y=.ref b/\H l=some (.lst xs)/\H b=some (.lst zs)/\xs.length+zs.length<=sizeLine/\∀ p,H p=none->Q (.ref p) (upd H p (.lst (xs++zs)))
def Dt:BD X (binaryOp .Add) YA:=by
 intro pins s σ H x y v u Q I rx ry h;obtain ⟨l,b,xs,zs,rfl,rfl,hH,hB,hz,q⟩:=h;cases rx;cases ry;obtain ⟨z,A3,n,r,hl,e⟩:=I.Hw hH;obtain ⟨z2,BU,n2,r2,DA,e2⟩:=I.Hw hB;refine PySem.P.add_list e e2 ?_ (by rw [Bd,Bd];omega);have ea:A3.toArray++BU.toArray=(A3++BU).toArray:=by simp
 rw [ea];exact ⟨.ref _,_,I.iD (t':=s.toks) (r.append r2) (by rw [B2];omega),rfl,q _ I.fresh⟩
def len_rep (xs:List α)(k:Nat):(List.replicate k xs).flatten.length=k * xs.length:=by
 induction k with
 | zero=>simp
 | succ k ih=>rw [Jq,Mh,B2,ih,Nat.succ_mul,jM]
variable {prog:Program}{w:World}{E:Value->Shared->Prop}
set_option maxRecDepth 100000 in
end
end L2
namespace Z5
open PySem.W PySem.Calls
variable {h:Heap}{l:OpenLaw}{n:Nat}{prog q:Program}
def nE {P:Params}:∀ (ns:List Int) (vs:List Value),WellAll P h vs (ns.map WData.int)->IntsAre vs ns:=by
 intro ns
 induction ns with
 | nil=>
  intro vs w;rw [Ht] at w;cases w;exact .nil
 | cons n ns ih=>
  intro vs w;rw [BL] at w;cases w with
  | cons a b=>
   cases a;exact .cons _ _ (ih _ b)
def ng (hn:l.most=some n){P:Params}{args:List WData}{vals:List Value}
  (JA:l.row.toRowW.claim.pre args=true) (WY:WellAll P h vals args) :
  ∃ a vs ns,vals=[Value.ref a]/\args=[WData.list (ns.map WData.int)]/\h.get? a=some { cls:=.type "list", data:=.seq vs.toArray }/\IntsAre vs ns/\ns.length<=n:=by
 have xh:WShape.hasAll [] args [.list .int]=true:=(pre_splitW JA).1;have hc:l.pre.holds [] { args:=args }=true:=(pre_splitW JA).2;obtain ⟨d,r,rfl,h1,h2⟩:=hasAllW_cons xh;obtain rfl:=hasAllW_nil h2;obtain ⟨xs,rfl,h3⟩:=hasW_list h1;obtain ⟨ns,rfl⟩:=items_int h3;have hlen:ns.length<=n:=by
  unfold OpenLaw.pre at hc;have h4:(WTm.not (.lt (.lit (.int (n:Int))) (.len (.arg 0)))).holds [] { args:=[.list (ns.map .int)] }=true:=by
   have h4:=(holds_andW hc).1;rw [hn] at h4;exact h4
  have h5:=condW_of h4 (w_not (w_lt w_lit (w_len_list (w_arg rfl))));rw [AA] at h5;refine Nat.le_of_not_lt fun q=>?_;have q':(n:Int)<((ns.length:Nat):Int):=by omega
  first
   | (rw [jy q'] at h5;exact absurd h5 (by decide))
   | (simp at h5;omega)
 cases WY with
 | cons w1 w2=>
  cases w2;cases w1 with
  | list ho JV=>exact ⟨_,_,ns,rfl,rfl,ho,nE ns _ JV,hlen⟩
def lQ (l:OpenLaw)(args:List WData):l.row.toRowW.claim.post args (.bool true) args=true:=
 postW_of (r:=l.row.toRowW) (X:=(true == true))
  (show WShape.has [] (.bool true) .bool=true by first | rfl | decide | simp [WShape.has,WShape.arms,WShape.armsAll])
  (show (WTm.eq .res (.lit (.bool true))).value [] { args:=args,res:=some (.bool true),after:=args }=some (.bool (true == true)) from w_eq_bool (w_res rfl) w_lit) rfl
def zS {loose:List Str}{XP:(ZE8)->Heap->Prop}{YP:World->Heap->Prop}{d:DefRec}
  (hn:l.most=some n) (NZ:d.params.defaults=[])
  (call:∀ (w:World) (s₀ s₁:Shared) (mg mb:ZE8) (fa:Addr) (o:Obj) (pm cd doc:Value) (a:Addr) (vs:List Value) (ns:List Int),
   Ground q loose [] XP w s₀ mg mb s₁.heap->YP w s₁.heap->
   s₁.heap.get? fa=some o->o.data=.func (docDef d.name d.params d.body d.scope pm cd doc)->s₁.heap.CodeRec cd d.name->mg d.name=some (.ref fa)->
   s₁.heap.get? a=some { cls:=.type "list", data:=.seq vs.toArray }->IntsAre vs ns->ns.length<=n->s₁.gens=#[]->
   codeAny (model l.prog w) callerA (.call (.ref fa) ⟨[.ref a],[]⟩) (fun r s'=>r=.ok (.ret (.bool true))/\OldK s₁.heap s'.heap/\s'.os=s₁.os/\AllBare s'.gens) s₁) :
  WalkO q loose XP YP l.row.toRowW d [] (fun f vs=>PySem.call f vs):=by
 intro w s₀ s₁ mg mb G Y fa o pm cd doc dV kV ho hd HB hD Nf hg args vals as JA ZDQ hrd WY hlo;obtain rfl:dV=.none:=Dflts.none hD NZ;obtain rfl:kV=.none:=Dflts.noKw hD;obtain ⟨a,vs,ns,rfl,rfl,XF,hints,hlen⟩:=ng hn JA WY;refine enter_call (ZA4 (call w s₀ s₁ mg mb fa o pm cd doc a vs ns G Y ho (fd_plain hd) HB Nf XF hints hlen hg) fun r s' hq=>?_);obtain ⟨rfl,h2,h3,h4⟩:=hq;exact ⟨.inl ⟨.bool true,.bool true,[],rfl,fun _=>rfl,.bool true,lQ l _,fun _=>⟨List.Pairwise.nil,fun _ hm=>(nomatch hm)⟩⟩,h2,h3,h4⟩
end Z5
namespace L2
variable {w:World}{mg:ZE8}{fd:FuncData}{qual x:Str}{sp:Sp}{loose ps:List Str}{X:Cx}{f:Addr}{A B:Prop}
theorem cQ:∀ {vs:List Value}{ns:List Int},IntsAre vs ns->Vals (ns.map V.int) vs
 | _,_,.nil=>.nil
 | _,_,.cons n t h=>.cons ⟨t,rfl⟩ (cQ h)
def WO (H:Hp):Prop:=∀ b,H b=none∨∃ o xs,H b=some (.FK o (.lst xs))
def y9 {P:Program}{K:ZE6}{mb:ZE8}{CX:GH}{k:Nat}{fa a:Addr}{s₁:Shared}{vs:List Value}{ns:List Int}
  (KX:K.In s₁.heap) (Ld:s₁.heap.Ns mainGlobals mg) (hb:s₁.heap.Ns builtinsNs mb) (hbb:∀ x:Str,x ≠ "__name__" -> mb x=bootBuiltins x) (ly:s₁.heap.NoLimit) (hg:s₁.gens=#[])
  (ha:s₁.heap.get? a=some { cls:=.type "list", data:=.seq vs.toArray }) (hi:IntsAre vs ns) (hl:ns.length<=sizeLine) (hr:Bq k callerA)
  (F:∀ base:Heap,K.In base->base.Ns mainGlobals mg->DD P w K mg base CX k fa fd [x] sp) (uC:∀ (s:Shared) (u:Value),BindsTo s fd ⟨[u],[]⟩ [(x,u)])
  (Ge:∀ H:Hp,WO H->AY K H a (ns.map V.int)->sp [.ref a] H (fun v _=>v=.bl true) fun _ _ _=>False)
  (WA:∀ H e s',CX [] H s₁ (fun _ _ _=>False) e s'->False) :
  codeAny (model P w) callerA (.call (.ref fa) ⟨[.ref a],[]⟩) (fun r s'=>r=.ok (.ret (.bool true))/\OldK s₁.heap s'.heap/\s'.os=s₁.os/\AllBare s'.gens) s₁:=by
 have rv:=cQ hi;have oR:=hi.length
 -- from an abstract heap in ZDe nothing but Gx fQ may be tracked
 have core:∀ H:Hp,WO H->AY K H a (ns.map V.int)->CF P w H s₁.heap->(∀ b,H b≠none->b=a)->(H a≠none->K.lookup a=none)->
   codeAny (model P w) callerA (.call (.ref fa) ⟨[.ref a],[]⟩) (fun r s'=>r=.ok (.ret (.bool true))/\OldK s₁.heap s'.heap/\s'.os=s₁.os/\AllBare s'.gens) s₁:=by
  intro H hO hS AK hA hK;have cJ:∀ {b:Addr}{o:Obj},s₁.heap.get? b=some o->H b=none->(Im s₁.heap H).get? b=some o:=fun e n=>ZCX e n;have O4:∀ {b:Addr}{o:Obj}{es:Array DictEntry}{ep:Nat},s₁.heap.get? b=some o->o.data=.dict es ep->H b=none:=fun {b o es ep} e d=>by
   cases q:H b with
   | none=>rfl
   | some u=>
    have e':b=a:=hA b (by rw [q];simp);subst e';rw [ha] at e;cases e;have d':Data.seq vs.toArray _=Data.dict es ep:=d;cases d'
  have QK:∀ {b:Addr}{m:ZE8},s₁.heap.Ns b m->(Im s₁.heap H).Ns b m:=fun {b m} ⟨o,es,ep,e,d,r⟩=>⟨o,es,ep,cJ e (O4 e d),d,r⟩;have cq:K.In (Im s₁.heap H):=fun b o e=>cJ (KX b o e) (by
   cases q:H b with
   | none=>rfl
   | some u=>
    have e':b=a:=hA b (by rw [q];simp);subst e';rw [hK (by rw [q];simp)] at e;cases e)
  have hM:Mod K mg (Im s₁.heap H):=⟨cq,QK Ld,⟨mb,QK hb,hbb⟩,let ⟨mc,h1,h2⟩:=ly;⟨mc,QK h1,h2⟩⟩;have e0:Kb P w K mg (Im s₁.heap H) callerA [] s₁ H:=⟨rfl,hM,fun b o e=>uG e,jN (uO _ _),trivial,fun b hb=>absurd (show b∈([]:List Addr) from hb) (by simp),AK,.of_eq hg⟩;refine ZA4 ((F _ cq (QK Ld)).run callerA [] s₁ H ⟨[.ref a],[]⟩ [.ref a] [.ref a] _ _ hr e0 (uC s₁ (.ref a)) (.cons rfl .nil) (Ge H hO hS)) fun r s' h=>?_;cases r with
  | error e=>exact (WA H e s' h).elim
  | ok fl=>
   cases fl with
   | next=>exact False.elim h
   | brk=>exact False.elim h
   | cont=>exact False.elim h
   | ret u=>
    obtain ⟨v,H',os,bare,un,o9,r',q⟩:=h;have q':v=.bl true:=q;subst q';obtain rfl:u=Value.bool true:=r';refine ⟨rfl,OldK.of_keep fun b o e=>?_,os,bare⟩;cases q:H b with
    | none=>exact un.keep b o e q (by intro z;exact absurd (show b∈([]:List Addr) from z) (by simp)) (by simp)
    | some u=>
     rcases hO b with z | ⟨ob,xs,z⟩
     ·rw [q] at z;cases z
     ·have z2:=un.IT b ob _ z;obtain ⟨e1,_⟩:=AK b _ z;obtain ⟨e2,_⟩:=o9 b _ z2;rw [e] at e1;cases e1;exact e2
 cases hk:K.lookup a with
 | some o=>
  -- Gx fQ is one of Gx ZDa own objects
  have e:=KX a o hk;rw [ha] at e;cases e;refine core (fun _=>none) (fun _=>.inl rfl) (.inr ⟨_,vs.toArray,_,hk,rfl,rfl,rfl,by rw [Bd,oR];exact hl,by simpa using rv⟩) (fun b u z=>by have z':(none:Option HO)=some u:=z;cases z') (fun b z=>absurd rfl z) fun z=>absurd rfl z
 | none=>
  refine core (fun b=>if b=a then some (.FK { cls:=.type "list", data:=.seq vs.toArray } (.lst (ns.map V.int))) else none) (fun b=>?_) (.inl (.inr ⟨{ cls:=.type "list", data:=.seq vs.toArray },mZ rfl⟩)) (fun b u z=>?_) (fun b z=>?_) fun _=>hk
  ·by_cases hb:b=a
   ·exact .inr ⟨_,_,mZ hb⟩
   ·exact .inl (k6 hb)
  ·by_cases hb:b=a
   ·have z':=(mZ hb).symm.trans z;cases z';subst hb;exact ⟨ha,by rw [AA];exact hl,vs,_,rv,ha⟩
   ·have z':=(k6 hb).symm.trans z;cases z'
  ·by_cases hb:b=a
   ·exact hb
   ·exact absurd (k6 hb) z
def ZBC {l:PySem.W.OpenLaw}{n k:Nat}{q:Program}{XP:(ZE8)->Heap->Prop}{YP:World->Heap->Prop}{d:DefRec}{K:Params->ZE6}{CX:World->GH}{sp:World->Sp}
  (hn:l.most=some n) (Ee:n<=sizeLine) (NZ:d.params.defaults=[]) (hr:Bq k callerA)
  (hY:∀ (w:World) (h:Heap),YP w h->(K w.params).In h)
  (F:∀ (w:World) (mg:ZE8) (fa:Addr) (h:Heap),(K w.params).In h->h.Ns mainGlobals mg->mg d.name=some (.ref fa)->
   ∃ fd:FuncData,(∀ (s:Shared) (u:Value),BindsTo s fd ⟨[u],[]⟩ [(x,u)])/\
    ∀ base:Heap,(K w.params).In base->base.Ns mainGlobals mg->DD l.prog w (K w.params) mg base (CX w) k fa fd [x] (sp w))
  (Ge:∀ (w:World) (H:Hp) (a:Addr) (ns:List Int),ns.length<=n->WO H->AY (K w.params) H a (ns.map V.int)->sp w [.ref a] H (fun v _=>v=.bl true) fun _ _ _=>False)
  (WA:∀ (w:World) (H:Hp) (s:Shared) (e:Value) (s':Shared),CX w [] H s (fun _ _ _=>False) e s'->False) :
  PySem.W.WalkO q loose XP YP l.row.toRowW d [] (fun f vs=>PySem.call f vs):=by
 refine Z5.zS hn NZ fun w s₀ s₁ mg mb fa o pm cd doc a vs ns G Y ho hd HB Nf XF hints hlen hg=>?_;have KX:=hY w _ Y;obtain ⟨fd,hb,hF⟩:=F w mg fa _ KX G.T.g Nf;exact y9 KX G.T.g G.T.b G.T.builtins G.T.nolimit hg XF hints (D1 hlen Ee) hr hF hb (fun H hO hS=>Ge w H a ns hlen hO hS) fun H e s'=>WA w H s₁ e s'
noncomputable def NM (s:Stmt):Arguments:=match s with
 | .FunctionDef _ a _ _ _ _ _ _ _ _=>a
 | _=>{ posonlyargs:=[],args:=[],vararg:=none,kwonlyargs:=[],kw_defaults:=[],kwarg:=none,defaults:=[] }
noncomputable def Jy (s:Stmt):List Stmt:=match s with
 | .FunctionDef _ _ b _ _ _ _ _ _ _=>b
 | _=>[]
noncomputable def Ad (s:Stmt):Scope:=match s with
 | .FunctionDef _ _ _ _ _ _ sc _ _ _=>sc
 | _=>{ kind:=.function,names:=[],isGenerator:=false,isCoroutine:=false }
abbrev FU:GH:=fun _ _ _ _ _ _=>False
abbrev E0:XK:=fun _ _ _=>False
def PJ:Passes FU X E0:=fun _ _ _ _ _ _ _ h=>h.elim
structure AR (K:ZE6) (x qual:Str) (st:Stmt) (f:Addr) (fd:FuncData):Prop where
 ex:∃ (oc:Value) (od:Option Addr) (kV doc pm:Value) (an:Option Addr) (Ae ct:Value) (Ga:Array (Option Value)),
  fd=PySem.W.fnOf x qual (NM st) (Jy st) (Ad st) .none kV doc pm an Ae ct/\K.lookup f=some ⟨oc,od,.func fd,Ga⟩/\PySem.W.codeIn K Ae qual=true
 kp:PySem.W.keepIn K (.ref f)=true
section
variable {P:Program}{K:ZE6}{base:Heap}
def AR.ok {st:Stmt}{N:List Str}{k:Nat}(F:AR K x qual st f fd)(S:BM N ps (Ad st))(len:∀ vs H Q E,sp vs H Q E->vs.length=ps.length)
  (OA:∀ (Ae:Value) (A:Around) (outer:List Env) (s:Shared) (H:Hp) (vs:List V) (Q:VK) (E:XK),Bq k (A.deeper (envOfC qual (Ad st) s.heap.objs.size f Ae))->sp vs H Q E->
   ∃ t,EH (K4 FU P w K mg base N qual (Ad st) f Ae A outer s H E).Oi (Jy st) t/\t { nx:=fun _ H'=>Q .AB H',rt:=Q } (start N vs) H):DD P w K mg base FU (k+1) f fd ps sp:=by
 obtain ⟨oc,od,kV,doc,pm,an,Ae,ct,Ga,rfl,lk,HB⟩:=F.ex;refine ma lk HB S len fun A outer s H vs Q E hr Ge=>?_;obtain ⟨t,h,q⟩:=OA Ae A outer s H vs Q E hr Ge;exact ⟨t,h.Oi,q⟩
def AR.binds {st:Stmt}(F:AR K x qual st f fd)
  (h:∀ (kV doc pm:Value) (an:Option Addr) (Ae ct:Value) (us:List Value),us.length=ps.length->bindArgs (PySem.W.fnOf x qual (NM st) (Jy st) (Ad st) .none kV doc pm an Ae ct) ⟨us,[]⟩=pure (ps.zip us)):Binds K fd ps []:=by
 obtain ⟨oc,od,kV,doc,pm,an,Ae,ct,Ga,rfl,lk,HB⟩:=F.ex;exact .all (h kV doc pm an Ae ct)
def ml {st:Stmt}{oc:Value}{od an:Option Addr}{Ga:Array (Option Value)}{kV doc pm Ae ct:Value}(l:K.lookup f=some ⟨oc,od,.func (PySem.W.fnOf x qual (NM st) (Jy st) (Ad st) .none kV doc pm an Ae ct),Ga⟩)
  (c:PySem.W.codeIn K Ae qual=true) (k:PySem.W.keepIn K (.ref f)=true):AR K x qual st f (PySem.W.fnOf x qual (NM st) (Jy st) (Ad st) .none kV doc pm an Ae ct):=⟨⟨oc,od,kV,doc,pm,an,Ae,ct,Ga,rfl,l,c⟩,k⟩
end
def Dg {A:Around}{k:Nat}(hr:Bq k A):A.units+1<cLine:=Yd (Nat.add_le_add_left (by decide:1<=64) _) hr.units
def Tf (h:B):if false=true then A else B:=by
 rw [k6 Cr];exact h
def pI (h:A):if true=true then A else B:=by
 rw [mZ rfl];exact h
def BE {c:Prop}[Decidable c](h1:c->A)(h2:¬ c->B):if c then A else B:=by
 by_cases h:c
 ·rw [mZ h];exact h1 h
 ·rw [k6 h];exact h2 h
def AV (H H':Hp):Prop:=∀ b o,H b=some o->H' b=some o
def AV.refl (H:Hp):AV H H:=fun _ _ h=>h
def AV.trans {H H1 H2:Hp}(a:AV H H1)(b:AV H1 H2):AV H H2:=fun c o h=>b c o (a c o h)
end L2
set_option maxHeartbeats 4000000
namespace L2
variable {α κ:Type}{A8:List (List Key×V)}{o:Option V}{u v:Value}{y:V}{w:World}{H H' H1 H2 H4:Hp}{xs:List (List Key×Addr×Value)}{C a acc b it n:Addr}{h h' h1:Heap}{X Y:Cx}{pins:ZE7}{ws σ:St}{s s2 s4:Shared}{A:Around}{E Q:Value->Shared->Prop}{i j n0 t' tk:Nat}{prog:Program}{env:Env}{c e elt tg value:Expr}{FI pos px py:Pos}{td te tv:TE}{outer scope:Scope}{cl closure:List (Str×Addr)}{qual x z:Str}{ce:Option Str}{es ifs:List Expr}{R:Result->Shared->Prop}{js:List Nat}{tt:TT}{J:It}{tn:Nat->Heap->Prop}{wi:TI}{CW:It->St->Hp->Addr->VK->Prop}{N:List Str}{ys:List V}{A3:List Value}
section
variable [DecidableEq κ]
noncomputable def EA (A8:List (κ×V))(k:κ):Option V:=(A8.find? fun kv=>decide (kv.1=k)).map (·.2)
noncomputable def putK (A8:List (κ×V))(k:κ)(v:V):List (κ×V):=
 if (A8.any fun kv=>decide (kv.1=k))=true then A8.map (fun kv=>if kv.1=k then (kv.1,v) else kv) else A8++[(k,v)]
def PZ {p:κ×V}{r:List (κ×V)}{k:κ}(e:p.1=k):EA (p::r) k=some p.2:=by simp [EA,Ox,e]
def Ri {p:κ×V}{r:List (κ×V)}{k:κ}(e:¬ p.1=k):EA (p::r) k=EA r k:=by simp [EA,Ox,e]
theorem RZ (k:κ):∀ A8:List (κ×V),(A8.any fun kv=>decide (kv.1=k))=(EA A8 k).isSome
 | []=>rfl
 | p::r=>by
  rw [Mg]
  by_cases e:p.1=k
  ·simp only [PZ e,jy e,j7,ZD8]
  ·rw [Ri e,nZ e,YK];exact RZ k r
def Y8 (A8:List (κ×V))(k:κ)(v:V):(putK A8 k v).length<=A8.length+1:=by
 unfold putK;split
 ·rw [AA];omega
 ·rw [B2,By,YT];omega
def LQ {A8:List (κ×V)}{k:κ}(v:V)(h:EA A8 k=none):putK A8 k v=A8++[(k,v)]:=by
 unfold putK;rw [RZ,h];exact k6 (by decide)
def Ec.Ml {u:Option Value}(r:Ec o u):o.isSome=u.isSome:=by
 cases o with
 | none=>cases u with
  | none=>rfl
  | some _=>exact (show False from r).elim
 | some _=>cases u with
  | none=>exact (show False from r).elim
  | some _=>rfl
def KV.val {A8:List (κ×V)}{vs:List (κ×Value)}(r:KV A8 vs)(k:κ):Ec (EA A8 k) (valueAt vs k):=by
 unfold KV at r
 induction r with
 | nil=>exact True.intro
 | @cons p q ps qs h t ih=>
  obtain ⟨h1,h2⟩:=h
  by_cases e:p.1=k
  ·have e':q.1=k:=h1.symm.trans e;have b:valueAt (q::qs) k=some q.2:=by simp [valueAt,Ox,e']
   rw [PZ e,b];exact h2
  ·have e':¬ q.1=k:=fun z=>e (h1.trans z);have b:valueAt (q::qs) k=valueAt qs k:=by simp [valueAt,Ox,e']
   rw [Ri e,b];exact ih
theorem KV.any {A8:List (κ×V)}{vs:List (κ×Value)}(r:KV A8 vs)(k:κ):(A8.any fun kv=>decide (kv.1=k))=vs.any fun kv=>decide (kv.1=k):=by
 unfold KV at r
 induction r with
 | nil=>rfl
 | cons h t ih=>rw [Mg,Mg,ih,h.1]
def KV.UR {A8:List (κ×V)}{vs:List (κ×Value)}(r:KV A8 vs)(k:κ)(ry:RelV y u):
  KV (A8.map fun kv=>if kv.1=k then (kv.1,y) else kv) (vs.map fun kv=>if kv.1=k then (kv.1,u) else kv):=by
 unfold KV at r ⊢
 induction r with
 | nil=>exact .nil
 | @cons p q ps qs h t ih=>
  rw [BL,BL];refine .cons ?_ ih;obtain ⟨h1,h2⟩:=h
  by_cases e:p.1=k
  ·rw [mZ e,mZ (h1.symm.trans e)];exact ⟨h1,ry⟩
  ·rw [k6 e,k6 (fun z=>e (h1.trans z))];exact ⟨h1,h2⟩
def KV.put {A8:List (κ×V)}{vs:List (κ×Value)}(r:KV A8 vs)(k:κ)(ry:RelV y u):KV (putK A8 k y) (stored vs k u):=by
 unfold putK stored;rw [r.any k]
 by_cases e:(vs.any fun kv=>decide (kv.1=k))=true
 ·rw [mZ e,mZ e];exact r.UR k ry
 ·rw [k6 e,k6 e];exact Paired.snoc r ⟨rfl,ry⟩
def KV.keys {A8:List (κ×V)}{vs:List (κ×Value)}(r:KV A8 vs):A8.map (·.1)=vs.map (·.1):=by
 unfold KV at r
 induction r with
 | nil=>rfl
 | cons h t ih=>rw [BL,BL,ih,h.1]
theorem KV.length {A8:List (κ×V)}{vs:List (κ×Value)}(r:KV A8 vs):A8.length=vs.length:=jS r
end
def MT {P:Program}{k:Key}(r:RelV (kV k) u):(DF P w).is k u=true:=by
 cases k with
 | inl i=>obtain ⟨t,e⟩:=(show ∃ t,u=Value.int i t from r);subst e;exact ZCH P w i t
 | inr x=>obtain ⟨t,e⟩:=(show ∃ t,u=Value.str x t from r);subst e;exact xB P w x t
theorem hZ {P:Program}{w:World}:∀ {ks:List Key}{us:List Value},Vals (ks.map kV) us->ItemsAre (DF P w) ks us
 | [],_,r=>by rw [Ht] at r;cases r;exact .nil
 | k::ks,_,r=>by
  rw [BL] at r;cases r with
  | cons h t=>exact .cons (MT h) (hZ t)
abbrev KT (H:Hp):List (List Key×V)->List (List Key×Addr×Value)->Prop:=Paired fun p q=>p.1=q.1/\H q.2.1=some (.tup (p.1.map kV))/\RelV p.2 q.2.2
def KT.val (r:KT H A8 xs)(k:List Key):Ec (EA A8 k) ((atKey xs k).map (·.2)):=by
 induction r with
 | nil=>exact True.intro
 | @cons p q ps qs h t ih=>
  obtain ⟨h1,_,h2⟩:=h
  by_cases e:p.1=k
  ·have e':q.1=k:=h1.symm.trans e;have b:atKey (q::qs) k=some q.2:=by simp [atKey,Ox,e']
   rw [PZ e,b];exact h2
  ·have e':¬ q.1=k:=fun z=>e (h1.trans z);have b:atKey (q::qs) k=atKey qs k:=by simp [atKey,Ox,e']
   rw [Ri e,b];exact ih
def KT.UR (r:KT H A8 xs)(k:List Key)(ry:RelV y u):
  KT H (A8.map fun kv=>if kv.1=k then (kv.1,y) else kv) (xs.map (putAt k u)):=by
 induction r with
 | nil=>exact .nil
 | @cons p q ps qs h t ih=>
  rw [BL,BL];refine .cons ?_ ih;obtain ⟨h1,h2,h3⟩:=h;unfold putAt
  by_cases e:p.1=k
  ·rw [mZ e,mZ (h1.symm.trans e)];exact ⟨h1,h2,ry⟩
  ·rw [k6 e,k6 (fun z=>e (h1.trans z))];exact ⟨h1,h2,h3⟩
def KT.put (r:KT H A8 xs)(k:List Key)(hb:H b=some (.tup (k.map kV)))(ry:RelV y u):
  KT H (putK A8 k y) (storedH xs k b u):=by
 have e:(A8.any fun kv=>decide (kv.1=k))=(atKey xs k).isSome:=by
  rw [RZ,(r.val k).Ml,Yh]
 unfold putK storedH;rw [e]
 by_cases q:(atKey xs k).isSome=true
 ·rw [mZ q,mZ q];exact r.UR k ry
 ·rw [k6 q,k6 q];exact Paired.snoc r ⟨rfl,hb,ry⟩
def KT.keeps (r:KT H A8 xs)(ht:∀ b ys,H b=some (.tup ys)->H' b=some (.tup ys)):KT H' A8 xs:=
 Paired.WE r fun _ _ z=>⟨z.1,ht _ _ z.2.1,z.2.2⟩
section
variable {P:Program}
def fV {u:HO}(ok:CF P w H h)(e:Rd H a u):CI P w H h a u:=e.ok ok
def MV {A8:List (Key×V)}(ok:CF P w H h)(e:Rd H a (.dK A8)):A8.length<=sizeLine/\(a == sysModules)=false/\∃ vs,KV A8 vs/\h.DictOf (DF P w) a vs:=
 show CI P w H h a (.dK A8) from fV ok e
def fN {A8:List (Key×V)}(ok:CF P w H h)(e:H a=some (.dK A8)):A8.length<=sizeLine/\(a == sysModules)=false/\∃ vs,KV A8 vs/\h.DictOf (DF P w) a vs:=MV ok (.inl e)
def OG {ks:List Key}(ok:CF P w H h)(e:H a=some (.tup (ks.map kV))):(tupleKind (DF P w)).is h ks a:=by
 obtain ⟨_,A3,r,⟨o,h1,h2,n,h3⟩,_⟩:=(show CI P w H h a (.tup (ks.map kV)) from ok a _ e);exact ⟨o,A3.toArray,n,h1,h2,h3,by simpa using hZ r⟩
def Mm (ok:CF P w H h)(e:Rd H a (.dT A8)):A8.length<=sizeLine/\(a == sysModules)=false/\
  ∃ xs,KT H A8 xs/\h.DictOfH (tupleKind (DF P w)) a xs:=by
 obtain ⟨z,y,xs,r,o,es,ep,h1,h2,h3,h4,h5⟩:=(show CI P w H h a (.dT A8) from fV ok e);refine ⟨z,y,xs,r,o,es,ep,h1,h2,h3,h4,fun x hx=>?_,h5⟩;have all:∀ {l:List (List Key×V)}{m:List (List Key×Addr×Value)},KT H l m->∀ x∈m,(tupleKind (DF P w)).is h x.1 x.2.1:=by
  intro l m q
  induction q with
  | nil=>intro x hx;exact nomatch hx
  | @cons p q ps qs hq t ih=>
   intro x hx;rcases List.mem_cons.mp hx with e | hx
   ·subst e;exact OG ok (by rw [<- hq.1];exact hq.2.1)
   ·exact ih x hx
 exact all r x hx
def ZAj (ok:CF P w H h)(e:H a=some (.dT A8)):A8.length<=sizeLine/\(a == sysModules)=false/\
  ∃ xs,KT H A8 xs/\h.DictOfH (tupleKind (DF P w)) a xs:=Mm ok (.inl e)
end
def FR (H:Hp)(a:Addr)(y:V)(r:Option V):Prop:=
 (∃ A8 k,Rd H a (.dK A8)/\y=kV k/\r=EA A8 k)∨∃ A8 k b,Rd H a (.dT A8)/\y=.ref b/\H b=some (.tup (k.map kV))/\r=EA A8 k
def OO (H:Hp)(a:Addr)(y v:V)(H':Hp):Prop:=
 (∃ A8 k,H a=some (.dK A8)/\y=kV k/\A8.length<sizeLine/\H'=upd H a (.dK (putK A8 k v)))∨
 ∃ A8 k b,H a=some (.dT A8)/\y=.ref b/\H b=some (.tup (k.map kV))/\A8.length<sizeLine/\H'=upd H a (.dT (putK A8 k v))
theorem FR.k {A8:List (Key×V)}{k:Key}(e:H a=some (.dK A8)):FR H a (kV k) (EA A8 k):=.inl ⟨A8,k,.inl e,rfl,rfl⟩
theorem OO.k {A8:List (Key×V)}{k:Key}{v:V}(e:H a=some (.dK A8))(hl:A8.length<sizeLine):OO H a (kV k) v (upd H a (.dK (putK A8 k v))):=.inl ⟨A8,k,e,rfl,hl,rfl⟩
section
variable {v:V}{r:Value}
def Inv.big (I:Inv X pins σ H s):sysModules<s.heap.objs.size:=by
 have h:mainGlobals<s.heap.objs.size:=(I.mod.glob.keeps I.bk).lt;exact Nat.lt_trans (by decide) h
def zl (hu:A.units+1<cLine)(I:Inv X pins σ H s)(g:FR H a y (some v))(ry:RelV y u)(h:∀ w' s',Inv X pins σ H s'->RelV v w'->Q w' s'):
  wpAny (model X.prog X.w) A (getItem (.ref a) u) Q E s:=by
 rcases g with ⟨A8,k,e,ey,l⟩ | ⟨A8,k,b,e,ey,eb,l⟩
 ·subst ey;obtain ⟨z,hd,vs,rel,dd⟩:=MV I.AK e;obtain ⟨w',hw,Gd⟩:=Ec.some_of (v:=v) (o:=valueAt vs k) (by rw [l];exact rel.val k);exact wpAny_getItem_of (MT ry) dd.mapOf hw (h w' _ (I.tok _) Gd)
 ·subst ey;cases (show u=Value.ref b from ry);obtain ⟨z,hd,xs,rel,dd⟩:=Mm I.AK e;obtain ⟨w',hw,Gd⟩:=Ec.some_of (v:=v) (o:=(atKey xs k).map (·.2)) (by rw [l];exact rel.val k)
  obtain ⟨p,hp,fc⟩:=Option.map_eq_some_iff.mp hw;refine wpAny_getItem_heap (zU hu) (OG I.AK eb) dd hp ?_;rw [fc];exact h w' _ (I.tok _) Gd
def ph (hu:A.units+1<cLine)(I:Inv X pins σ H s)(g:FR H a y o)(ry:RelV y u)(h:∀ s',Inv X pins σ H s'->Q (.bool o.isSome) s'):
  wpAny (model X.prog X.w) A (compareOp .In u (.ref a)) Q E s:=by
 rcases g with ⟨A8,k,e,ey,l⟩ | ⟨A8,k,b,e,ey,eb,l⟩
 ·subst ey;obtain ⟨z,hd,vs,rel,dd⟩:=MV I.AK e;refine wpAny_in_of (MT ry) hd dd.mapOf ?_;rw [<- (rel.val k).Ml,<- l];exact h _ (I.tok _)
 ·subst ey;cases (show u=Value.ref b from ry);obtain ⟨z,hd,xs,rel,dd⟩:=Mm I.AK e;refine wpAny_in_heap (zU hu) (OG I.AK eb) hd dd ?_;have q:=(rel.val k).Ml;rw [Yh] at q;rw [<- q,<- l];exact h _ (I.tok _)
def ZAJ (hu:A.units+1<cLine)(I:Inv X pins σ H s)(g:FR H a y o)(ry:RelV y u)(h:∀ s',Inv X pins σ H s'->Q (.bool (!o.isSome)) s'):
  wpAny (model X.prog X.w) A (compareOp .NotIn u (.ref a)) Q E s:=by
 rcases g with ⟨A8,k,e,ey,l⟩ | ⟨A8,k,b,e,ey,eb,l⟩
 ·subst ey;obtain ⟨z,hd,vs,rel,dd⟩:=MV I.AK e;refine wpAny_notIn_of (MT ry) hd dd.mapOf ?_;rw [<- (rel.val k).Ml,<- l];exact h _ (I.tok _)
 ·subst ey;cases (show u=Value.ref b from ry);obtain ⟨z,hd,xs,rel,dd⟩:=Mm I.AK e;refine wpAny_notIn_heap (zU hu) (OG I.AK eb) hd dd ?_;have q:=(rel.val k).Ml;rw [Yh] at q;rw [<- q,<- l];exact h _ (I.tok _)
def Vq {ob:HO}(I:Inv X pins σ H s)(mu:OR (H a))(hs:Heap.SameBut a s.heap h')(he:∃ q,h'.get? a=some q)(new:CI X.prog X.w (upd H a ob) h' a ob):
  Inv X pins σ (upd H a ob) { s with heap:=h',toks:=t' }:=
 I.write (x:=a) (e:=a) mu (.inl rfl) (fun b q hb z=>(hs.2 b hb).trans z) he new
def fk {P:Program}{A8:List (Key×V)}{vs:List (Key×Value)}(z:A8.length<=sizeLine)(hd:(a == sysModules)=false)(rel:KV A8 vs)(dd:h'.DictOf (DF P w) a vs):
  CI P w H' h' a (.dK A8):=⟨z,hd,vs,rel,dd⟩
def yp {Q:Unit->Shared->Prop}(hu:A.units+1<cLine)(I:Inv X pins σ H s)(g:OO H a y v H')(ry:RelV y u)(rv:RelV v r)(h:∀ s',Inv X pins σ H' s'->Q () s'):
  wpAny (model X.prog X.w) A (setItem (.ref a) u r) Q E s:=by
 rcases g with ⟨A8,k,e,ey,l,eH⟩ | ⟨A8,k,b,e,ey,eb,l,eH⟩
 ·subst ey eH;obtain ⟨z,hd,vs,rel,dd⟩:=fN I.AK e;have hz:vs.length<=sizeLine:=by rw [<- rel.length];exact z
  have hl:(putK A8 k v).length<=sizeLine:=by have:=Y8 A8 k v;omega
  refine wpAny_setItem_pairs (hsz:=hz) (MT ry) dd fun h' Kz hs=>h _ ?_;have he:∃ q,h'.get? a=some q:=let ⟨q,_,_,hq,_⟩:=Kz;⟨q,hq⟩;exact Vq I (by rw [e];exact True.intro) hs he (fk hl hd (rel.put k rv) Kz)
 ·subst ey eH;cases (show u=Value.ref b from ry);obtain ⟨z,hd,xs,rel,dd⟩:=ZAj I.AK e;have hz:xs.length<=sizeLine:=by rw [<- jS rel];exact z
  have hl:(putK A8 k v).length<=sizeLine:=by have:=Y8 A8 k v;omega
  refine wpAny_setItem_heap (hsz:=hz) (zU hu) (OG I.AK eb) dd fun h' Kz hs=>h _ ?_;obtain ⟨q,es,ep,hq,h2,h3,h4,_,h5⟩:=Kz;refine Vq I (by rw [e];exact True.intro) hs ⟨q,hq⟩ ⟨hl,hd,_,(rel.put k eb rv).keeps fun c ys ec=>?_,q,es,ep,hq,h2,h3,h4,h5⟩;rw [An (ZBS ec e (fun z=>nomatch z))];exact ec
variable {A8:List (Key×V)}{k:Key}
end
def TF (i:Expr):Prop:=∀ ov iv,subscripted i false ov iv=operate [ov,iv] (getItem ov iv)
def ZBt {slice:Expr}{T id:String}
  (hl:typeLookup (.type T) "__getitem__"=pure (some (.builtin id))) (hs:TF slice)
  (h:wpAny (model prog w) A (eval value env) (fun o s₁=>wpAny (model prog w) A (eval slice env) (fun i s₂=>s₂.TypeIs o T/\wpAny (model prog w) A (getItem o i) Q E s₂) E s₁) E s) :
  wpAny (model prog w) A (eval (.Subscript value slice pos) env) Q E s:=by
 refine Subscript_ (pK h (fun o s₁ h₁=>pK h₁ (fun i s₂ h₂=>?_) fun _ _ x=>x) fun _ _ x=>x);obtain ⟨hT,h₂⟩:=h₂;unfold subscriptTail;refine ji ?_;rw [getitemInPython_of_ne hT.not_modules];refine ji (z9 hT hl ?_);have fin:wpAny (model prog w) A (subscripted slice false o i) (fun r s₃=>wpAny (model prog w) A (letTemporaryGo value o r >>= fun _=>pure r) Q E s₃) E s₂:=by
  rw [hs o i];exact wpAny_operating (pK h₂ (fun r s₃ h₃=>ji (wpAny_letTemporaryGo (jx h₃))) fun _ _ x=>x)
 first
  | exact jx (ji fin)
  | exact ji (jx (ji fin))
  | exact ji fin
def sQ (I:Inv X pins σ H s)(g:FR H a y o):s.TypeIs (.ref a) "dict" := by
 rcases g with ⟨A8,k,e,_,_⟩ | ⟨A8,k,b,e,_,_,_⟩
 ·obtain ⟨_,_,vs,_,dd⟩:=MV I.AK e;exact dd.typeIs
 ·obtain ⟨_,_,xs,_,dd⟩:=Mm I.AK e;exact dd.typeIs
def U2 (td ty:TE):TE:=fun σ H Q=>td σ H fun x H1=>ty σ H1 fun y H2=>∃ a v,x=.ref a/\FR H2 a y (some v)/\Q v H2
def OP (ty td:TE):TE:=fun σ H Q=>ty σ H fun y H1=>td σ H1 fun x H2=>∃ a o,x=.ref a/\FR H2 a y o/\Q (.bl o.isSome) H2
def Um (ty td:TE):TE:=fun σ H Q=>ty σ H fun y H1=>td σ H1 fun x H2=>∃ a o,x=.ref a/\FR H2 a y o/\Q (.bl (!o.isSome)) H2
def TV (td ty tv:TE):TS:=fun D σ H=>tv σ H fun v H1=>td σ H1 fun x H2=>ty σ H2 fun y H3=>∃ a H4,x=.ref a/\OO H3 a y v H4/\D.nx σ H4
section
variable {o i:Expr}{pos' Ka:Pos}{ty:TE}
def Zq (hu:X.A.units+1<cLine)(hi:PE X i ty)(ho:PE X o td):PC X .In i o (OP ty td):=by
 intro pins s σ H Q I h;refine AL (hi pins s σ H _ I h) fun iv s1 ⟨y,H1,I1,ry,q1⟩=>AL (ho pins s1 σ H1 _ I1 q1) fun u s2 ⟨x,H2,I2,rx,a,ov,ex,g,q2⟩=>?_;subst ex;obtain rfl:u=Value.ref a:=rx;exact ph hu I2 g ry fun s3 I3=>⟨.bl ov.isSome,H2,I3,rfl,q2⟩
def m7 (hu:X.A.units+1<cLine)(hi:PE X i ty)(ho:PE X o td):PC X .NotIn i o (Um ty td):=by
 intro pins s σ H Q I h;refine AL (hi pins s σ H _ I h) fun iv s1 ⟨y,H1,I1,ry,q1⟩=>AL (ho pins s1 σ H1 _ I1 q1) fun u s2 ⟨x,H2,I2,rx,a,ov,ex,g,q2⟩=>?_;subst ex;obtain rfl:u=Value.ref a:=rx;exact ZAJ hu I2 g ry fun s3 I3=>⟨.bl (!ov.isSome),H2,I3,rfl,q2⟩
end
def Zv {P:Program}(h:Heap)(hb:sysModules<h.objs.size):CI P w H (h.push { cls:=.type "dict", data:=.dict #[] }) h.objs.size (.dK []):=
 ⟨CM _,beq_eq_false_iff_ne.mpr (Bs (Bf hb)),[],.nil,Heap.DictOf.new h⟩
def Uy:TE:=fun _ H Q=>∀ p,H p=none->Q (.ref p) (upd H p (.dK []))
def Tt:List (TE×TE)->St->Hp->(List (V×V)->Hp->Prop)->Prop
 | [],_,H,Q=>Q [] H
 | (tk,tv)::r,σ,H,Q=>tk σ H fun x H1=>tv σ H1 fun y H2=>Tt r σ H2 fun ps H3=>Q ((x,y)::ps) H3
abbrev VV:List (V×V)->List (Value×Value)->Prop:=Paired fun p q=>RelV p.1 q.1/\RelV p.2 q.2
def JI (X:Cx)(pos:Pos)(keys:List (Option Expr))(values:List Expr)(Eu:List (TE×TE)):Prop:=
 ∀ (pins:ZE7) (s:Shared) (σ:St) (H:Hp) (Q:List (V×V)->Hp->Prop),Inv X pins σ H s->Tt Eu σ H Q->
  wpAny (model X.prog X.w) X.A (evalPairs (pairTrees keys values X.env pos)) (fun vs s'=>∃ ps H',Inv X pins σ H' s'/\VV ps vs/\Q ps H') X.xe s
def l7:JI X pos [] [] []:=fun pins s σ H Q I h=>pairTrees_nil_walk ⟨[],H,I,.nil,h⟩
def pG {k v:Expr}{ks:List (Option Expr)}{vs:List Expr}{tk:TE}{Eu:List (TE×TE)}(hk:PE X k tk)(hv:PE X v tv)(hr:JI X pos ks vs Eu):
  JI X pos (some k::ks) (v::vs) ((tk,tv)::Eu):=fun pins s σ H Q I h=>
 pairTrees_cons_walk (AL (hk pins s σ H _ I h) fun u s1 ⟨x,H1,I1,rx,q1⟩=>AL (hv pins s1 σ H1 _ I1 q1) fun w2 s2 ⟨y,H2,I2,ry,q2⟩=>
  AL (hr pins s2 σ H2 _ I2 q2) fun ws s3 ⟨ps,H3,I3,rel,q3⟩=>⟨(x,y)::ps,H3,I3,.cons ⟨rx,ry⟩ rel,q3⟩)
noncomputable def Jl (A8 more:List (Key×V)):List (Key×V):=more.foldl (fun acc kv=>putK acc kv.1 kv.2) A8
def KV.merge:∀ {more:List (Key×V)}{rs:List (Key×Value)}{A8:List (Key×V)}{vs:List (Key×Value)},KV more rs->KV A8 vs->KV (Jl A8 more) (merged vs rs):=by
 intro more rs A8 vs r;unfold KV at r
 induction r generalizing A8 vs with
 | nil=>intro q;exact q
 | @cons p q ps qs h t ih=>
  intro r0;have e:KV (putK A8 p.1 p.2) (stored vs q.1 q.2):=by
   have:=r0.put p.1 h.2;rw [<- h.1];exact this
  exact ih e
theorem aL:∀ (more A8:List (Key×V)),(Jl A8 more).length<=A8.length+more.length
 | [],A8=>by show A8.length<=A8.length+0;omega
 | p::r,A8=>by
  have h1:=aL r (putK A8 p.1 p.2);have h2:=Y8 A8 p.1 p.2;show (Jl (putK A8 p.1 p.2) r).length<=_;rw [By];omega
theorem bc {P:Program}{w:World}:∀ {A8:List (Key×V)}{ws:List (Value×Value)},VV (A8.map fun kv=>(kV kv.1,kv.2)) ws->∃ rs,Carries (DF P w) ws rs/\KV A8 rs
 | [],_,r=>by rw [Ht] at r;cases r;exact ⟨[],True.intro,.nil⟩
 | p::A8,_,r=>by
  rw [BL] at r;cases r with
  | @cons a b as bs h t=>
   obtain ⟨rs,c,q⟩:=bc (P:=P) (w:=w) t;obtain ⟨b1,b2⟩:=b;exact ⟨(p.1,b2)::rs,⟨MT h.1,rfl,c⟩,.cons ⟨rfl,h.2⟩ q⟩
def U4 (Eu:List (TE×TE)):TE:=fun σ H Q=>∀ p,H p=none->Tt Eu σ (upd H p (.dK [])) fun ps H2=>H2 p=some (.dK [])/\∃ A8:List (Key×V),ps=A8.map (fun kv=>(kV kv.1,kv.2))/\A8.length<=15/\Q (.ref p) (upd H2 p (.dK (Jl [] A8)))
def vq {β:Type}{l:List α}{f:α->β->Sem (ForInStep β)}(g:β->α->β)(h:∀ x∈l,∀ c,f x c=pure (.yield (g c x))):∀ c,forIn l c f=pure (l.foldl g c):=by
 induction l with
 | nil=>intro c;rfl
 | cons x l ih=>
  intro c;rw [YR,h x Ft,pure_bind];exact ih (fun y hy=>h y (Ek _ hy)) (g c x)
noncomputable def KZ (cells:List (Str×Addr))(cs:List (Str×Addr))(x:Str×NameKind):List (Str×Addr):=
 if x.2=.free then (x.1,(cells.lookup x.1).getD 0)::cs else cs
noncomputable def Bi (cells:List (Str×Addr))(names:List (Str×NameKind)):List (Str×Addr):=names.foldl (KZ cells) []
def ZB8 (h:∀ x∈scope.names,x.2=.free->(env.cells.lookup x.1).isSome=true):closureFor scope env=pure (Bi env.cells scope.names):=by
 simp only [closureFor];rw [vq (KZ env.cells) (fun x hx c=>by
  obtain ⟨n,k⟩:=x;unfold KZ
  by_cases hk:k=NameKind.free
  ·subst hk;have q:=h _ hx rfl;obtain ⟨a,ha⟩:=Option.isSome_iff_exists.mp q;have aN:env.cells.lookup n=some a:=ha;have hc:cellOf env n=pure a:=by unfold cellOf;rw [aN]
   simp [hc,aN]
  ·have:(k == NameKind.free)=false:=by simpa using hk
   simp [this,hk])]
 rfl
theorem eY {cells:List (Str×Addr)}:∀ (names:List (Str×NameKind)) (acc:List (Str×Addr)),(∀ y∈names,y.2=.free->(cells.lookup y.1).isSome=true)->
  (∀ x c,acc.lookup x=some c->cells.lookup x=some c)->∀ x c,(names.foldl (KZ cells) acc).lookup x=some c->cells.lookup x=some c
 | [],acc,_,ha,x,c,e=>ha x c e
 | (n,k)::r,acc,hs,ha,x,c,e=>by
  rw [Oy] at e;refine eY r _ (fun y hy=>hs y (Ek _ hy)) (fun x c e=>?_) x c e;unfold KZ at e
  by_cases hk:k=NameKind.free
  ·rw [mZ hk] at e;have q:=hs _ Ft hk;obtain ⟨a,q⟩:=Option.isSome_iff_exists.mp q;have q':cells.lookup n=some a:=q;rw [HG] at e
   by_cases hx:x=n
   ·subst hx;simp only [rD,q',ZD7] at e;rw [q',<- e]
   ·have hb:(x == n)=false:=by simpa using hx
    rw [hb] at e;exact ha x c e
  ·rw [k6 hk] at e;exact ha x c e
theorem YB {cells:List (Str×Addr)}{x:Str}:∀ (names:List (Str×NameKind)) (acc:List (Str×Addr)),((acc.lookup x).isSome=true∨(x,NameKind.free)∈names)->
  ((names.foldl (KZ cells) acc).lookup x).isSome=true
 | [],acc,h=>by
  rcases h with h | h
  ·exact h
  ·cases h
 | (n,k)::r,acc,h=>by
  rw [Oy];refine YB r _ ?_;unfold KZ;rcases h with h | h
  ·refine .inl ?_;split
   ·rw [HG];split
    ·rfl
    ·exact h
   ·exact h
  ·rcases List.mem_cons.mp h with e | h
   ·cases e;refine .inl ?_;rw [mZ rfl,HG];simp
   ·exact .inr h
theorem PH {env:Env}:∀ (names:List (Str×NameKind)) (x:Str),
  (names.map fun (n,k)=>if (k == NameKind.free && env.scope.kind == .function && env.kindOf n == some .cell) then (n,NameKind.cell) else (n,k)).lookup x =
   (names.lookup x).map fun k=>if (k == NameKind.free && env.scope.kind == .function && env.kindOf x == some .cell) then NameKind.cell else k
 | [],x=>rfl
 | (n,k)::r,x=>by
  have ih:=PH (env:=env) r x;rw [BL]
  by_cases hc:(k == NameKind.free && env.scope.kind == .function && env.kindOf n == some .cell)=true
  ·show List.lookup x ((if (k == NameKind.free && env.scope.kind == .function && env.kindOf n == some .cell)=true then (n,NameKind.cell) else (n,k))::_)=_
   rw [mZ hc,HG,HG]
   by_cases hx:x=n
   ·subst hx;simp only [rD,SU];rw [mZ hc]
   ·have hb:(x == n)=false:=by simpa using hx
    rw [hb];exact ih
  ·show List.lookup x ((if (k == NameKind.free && env.scope.kind == .function && env.kindOf n == some .cell)=true then (n,NameKind.cell) else (n,k))::_)=_
   rw [k6 hc,HG,HG]
   by_cases hx:x=n
   ·subst hx;simp only [rD,SU];rw [k6 hc]
   ·have hb:(x == n)=false:=by simpa using hx
    rw [hb];exact ih
noncomputable abbrev EX (X:Cx)(N:List Str)(scope:Scope)(cl:List (Str×Addr))(C:Addr)(s:Shared)(H:Hp)(fp:List Addr):Cx:=
 { X with N:=N,s₀:=s,H₀:=H,env:=compEnvC scope cl C X.env,outer:=X.stack,ex:=fp,fn:=fun _=>false,pn:=[],xe:=fun _ _=>False }
noncomputable def Bb (js:List Nat)(σ:St):St:=js.map fun j=>(σ[j]?).join
structure Cc (N:List Str) (outer scope:Scope) (x:Str) (AI:List Str) (js:List Nat):Prop where
 kind:scope.kind=.function
 Ks:∀ y∈scope.names,y.2≠.cell
 loc:∀ y∈scope.names,y.2=.local->scope.names.lookup y.1=some .local
 Hn:scope.names.lookup x=some .local
 at':js.map (fun j=>N[j]?)=AI.map some
 cell:∀ y∈AI,outer.names.lookup y=some .cell
 free:∀ y∈AI,scope.names.lookup y=some .free
 all:∀ y∈scope.names,y.2=.free->outer.names.lookup y.1=some .cell
 nd:(AI++[x]).Nodup
def Gw (X:Cx)(ifs:List Expr)(t:TT):Prop:=
 ∀ (pins:ZE7) (s:Shared) (σ:St) (H:Hp) (Q:Bool->Hp->Prop),Inv X pins σ H s->t σ H Q->
  wpAny (model X.prog X.w) X.A (forIn ifs true fun c r=>if r=true then do let ok <- isTrue c X.env (eval c X.env);pure (ForInStep.yield ok) else pure (ForInStep.yield r)) (TP X pins σ Q) X.xe s
def Sn:TT:=fun _ H Q=>Q true H
def vJ {t:TT}(hc:PT X c t):Gw X [c] t:=fun pins s σ H Q I h=>by
 rw [YR];refine ji ?_;rw [mZ rfl];refine ji (AL (hc pins s σ H Q I h) fun b s1 q=>jx ?_);show wpAny _ _ (forIn [] b _) _ _ s1;rw [SI];exact jx q
def LD (J:It)(js:List Nat)(tt:TT)(te:TE)(σ:St)(H1:Hp)(acc:Addr)(Q:VK):Prop:=
 ∃ W:Nat->Nat->Hp->Prop,(∃ m,W 0 m (upd H1 acc (.lst [])))/\∀ i m H2,W i m H2->
  (J.stop i H2/\Q (.ref acc) H2)∨(J.go i H2/\∀ x H3,J.EU i H2 x H3->tt (Bb js σ++[some x]) H3 fun b H4=>
   if b=true then te (Bb js σ++[some x]) H4 fun y H5=>∃ ys,H5 acc=some (.lst ys)/\ys.length<sizeLine/\∃ m',m' < m/\W (i+1) m' (upd H5 acc (.lst (ys++[y])))
   else ∃ m',m' < m/\W (i+1) m' H4)
def JS (wi:TI)(js:List Nat)(tt:TT)(te:TE):TE:=fun σ H Q=>wi σ H fun J H1=>∀ acc,H1 acc=none->LD J js tt te σ H1 acc Q
def la (l:List α)(a b:α):(l++[a]).set l.length b=l++[b]:=by
 induction l with
 | nil=>rfl
 | cons x l ih=>simp [ih]
noncomputable def HP:Option Str->Addr->List (Str×Addr)
 | none,_=>[]
 | some x,n=>[(x,n)]
noncomputable def Qk:Option Str->Heap->Heap
 | none,h=>h
 | some _,h=>h.push { cls:=.type "cell", data:=.cell none }
structure EW (N:List Str) (outer scope:Scope) (ce:Option Str) (zs AI:List Str) (js:List Nat):Prop where
 kind:scope.kind=.function
 loc:∀ y∈scope.names,y.2=.local->scope.names.lookup y.1=some .local
 one:∀ y∈scope.names,y.2=.cell->ce=some y.1
 sub:∀ x,ce=some x->x∈zs
 cf:∀ (n:Nat) (cl:List (Str×Addr)),cellsFrom n scope.names cl=HP ce n++cl
 pc:∀ h:Heap,pushCells h scope.names=Qk ce h
 at':js.map (fun j=>N[j]?)=AI.map some
 cell:∀ y∈AI,outer.names.lookup y=some .cell
 free:∀ y∈AI,scope.names.lookup y=some .free
 all:∀ y∈scope.names,y.2=.free->outer.names.lookup y.1=some .cell
 nd:(AI++zs).Nodup
noncomputable abbrev Et (X:Cx)(N:List Str)(scope:Scope)(ce:Option Str)(cl:List (Str×Addr))(C:Addr)(s:Shared)(H:Hp)(fp:List Addr):Cx:=
 { X with N:=N,s₀:=s,H₀:=H,env:=compEnvC scope (HP ce (C+1)++cl) C X.env,outer:=X.stack,ex:=fp,fn:=fun y=>ce == some y,pn:=[],xe:=fun _ _=>False }
def ZCA {M:Model}{globals:Addr}{func:Option Addr}{code:Value}{outer:Env}{Q:Env->Shared->Prop}
  (cf:∀ (n:Nat) (cl:List (Str×Addr)),cellsFrom n scope.names cl=HP ce n++cl) (pc:∀ h:Heap,pushCells h scope.names=Qk ce h)
  (hQ:Q (newEnv scope s.heap.objs.size globals (HP ce (s.heap.objs.size+1)++closure) qual func code (some outer) builtinsNs) { s with heap:=Qk ce (s.heap.push { cls:=.type "dict", data:=.dict #[] }) }) :
  wpAny M A (newFunctionEnv scope globals closure [] qual func code (some outer)) Q E s:=by
 simp only [newFunctionEnv,ZD8,ZAT];refine ji (wpAny_alloc ?_);refine ji (wpAny_layCells _ (fun name kind cells=>by cases Xi:kind == NameKind.cell <;> simp [Xi]) _ _ _ _ ?_)
 rw [cf,pc];rw [show ({ s with heap:=s.heap.push { cls:=.type "dict", data:=.dict #[] } }:Shared).heap.objs.size=s.heap.objs.size+1 from Dr ..]
 refine ji ?_;rw [SI];exact jx (jx hQ)
def ZB6 {y:Str}{c:Addr}(h:(HP ce n++cl).lookup y=some c):(ce=some y/\c=n)∨(ce≠some y/\cl.lookup y=some c):=by
 cases ce with
 | none=>exact .inr ⟨fun z=>(by cases z),h⟩
 | some x=>
  have h:((x,n)::cl).lookup y=some c:=h;rw [HG] at h
  by_cases e:y=x
  ·subst e;simp only [rD] at h;exact .inl ⟨rfl,(Bc h).symm⟩
  ·have hb:(y == x)=false:=by simpa using e
   rw [hb] at h;exact .inr ⟨fun z=>e (Bc z).symm,h⟩
def gG {y:Str}(h:ce≠some y):(HP ce n++cl).lookup y=cl.lookup y:=by
 cases ce with
 | none=>rfl
 | some x=>
  show ((x,n)::cl).lookup y=_;have hb:(y == x)=false:=beq_eq_false_iff_ne.mpr fun z=>h (by rw [z]);rw [HG,hb]
def zX:(HP (some x) n++cl).lookup x=some n:=by
 show ((x,n)::cl).lookup x=_;rw [HG,rD]
def nh {iter:Expr}{it acc:Value}(I:Nat->Shared->Prop)
  (turn:∀ n s,I n s->wpAny (model prog w) A (pyNext it) (fun r s1=>match r with
   | none=>R (.ok .next) s1
   | some v=>wpAny (model prog w) A (letOwnedTupleGo tg it v) (fun _ s2=>wpAny (model prog w) A (assign tg env v) (fun _ s3=>
     wpAny (model prog w) A (forIn ifs true fun c r=>if r=true then do let ok <- isTrue c env (eval c env);pure (ForInStep.yield ok) else pure (ForInStep.yield r)) (fun ok s4=>if ok=true then
      wpAny (model prog w) A (eval elt env) (fun x s5=>wpAny (model prog w) A (call (.builtin "list.append") [acc,x]) (fun _ s6=>∃ m,m<n/\I m s6) (notedBy (model prog w) A env fun e s'=>R (.error e) s') s5) (notedBy (model prog w) A env fun e s'=>R (.error e) s') s4
      else ∃ m,m<n/\I m s4) (notedBy (model prog w) A env fun e s'=>R (.error e) s') s3)
     (notedBy (model prog w) A env fun e s'=>R (.error e) s') s2) (notedBy (model prog w) A env fun e s'=>R (.error e) s') s1) (notedBy (model prog w) A env fun e s'=>R (.error e) s') s)
  (n:Nat) (h:I n s):codeAny (model prog w) A (.compLoop (.ListComp elt [⟨tg,iter,ifs,0⟩] scope pos) 0 it acc env) R s:=by
 refine codeAny_loop rfl I (fun n s hI=>(show wpAny _ A ((compTurn (.ListComp elt [⟨tg,iter,ifs,0⟩] scope pos) 0 it acc env).onRaise (fun x=>do noteFrame x env;theTreesLotGoes x)) _ _ s from wpAny_noted ?_)) n h
 rw [compTurn_list];refine ji (wpAny_standAt (ji (pK (turn n s hI) (fun r s1 q1=>?_) fun _ _ z=>z)));cases r with
 | none=>exact jx q1
 | some v=>
  refine ji (pK q1 (fun _ s2 q2=>ji (pK q2 (fun _ s3 q3=>ji (pK q3 (fun ok s4 q4=>?_) fun _ _ z=>z)) fun _ _ z=>z)) fun _ _ z=>z);cases ok with
  | false=>
   rw [k6 (by decide)] at q4;exact ji (jx (jx ⟨rfl,q4⟩))
  | true=>
   rw [mZ rfl] at q4;exact ji (ji (pK q4 (fun x s5 q5=>ji (pK q5 (fun _ s6 q6=>jx (jx ⟨rfl,q6⟩)) fun _ _ z=>z)) fun _ _ z=>z))
abbrev X0 (tt:TT)(te:TE)(acc:Addr)(W:Nat->Nat->Hp->Prop)(i m:Nat)(σ:St)(H:Hp):Prop:=
 tt σ H fun b H4=>if b=true then te σ H4 fun y H5=>∃ ys,H5 acc=some (.lst ys)/\ys.length<sizeLine/\∃ m',m' < m/\W (i+1) m' (upd H5 acc (.lst (ys++[y])))
  else ∃ m',m' < m/\W (i+1) m' H4
def OD (g:TG)(n:Nat)(J:It)(js:List Nat)(tt:TT)(te:TE)(σ:St)(H1:Hp)(acc:Addr)(Q:VK):Prop:=
 ∃ W:Nat->Nat->Hp->Prop,(∃ m,W 0 m (upd H1 acc (.lst [])))/\∀ i m H2,W i m H2->
  (J.stop i H2/\Q (.ref acc) H2)∨(J.go i H2/\∀ x H3,J.EU i H2 x H3->∀ ws,ws.length=n->g x (Bb js σ++ws) H3 fun σ8 H8=>∃ us,us.length=n/\σ8=Bb js σ++us/\X0 tt te acc W i m σ8 H8)
def d5 (CW:It->St->Hp->Addr->VK->Prop)(wi:TI):TE:=fun σ H Q=>wi σ H fun J H1=>∀ acc,H1 acc=none->CW J σ H1 acc Q
section
variable {iter:Expr}{zs AI:List Str}{fp:List Addr}{g:TG}
def uz (h:scope.names.lookup x=some .cell):(relabel scope env).names.lookup x=some .cell:=by
 refine (PH (env:=env) scope.names x).trans ?_;rw [h];simp
def ZCM {n:Nat}{v:V}(h:(List.replicate n (none:Option V))[i]?=some (some v)):False:=by
 rw [jH] at h
 by_cases c:i<n
 ·rw [mZ c] at h;cases h
 ·rw [k6 c] at h;cases h
def zc (S:EW X.N X.env.scope scope ce zs AI js)(I3:Inv X pins σ H2 s2)(f2:∀ b∈fp,EV X pins H2 b)(gN:∀ b∈fp,b<s2.heap.objs.size)
  {m:ZE8}(Ld:h1.Ns s2.heap.objs.size m) (old:∀ b o,s2.heap.get? b=some o->h1.get? b=some o) (FV:∀ x,ce=some x->h1.IsCell (s2.heap.objs.size+1) none) :
  Inv (Et X (AI++zs) scope ce (Bi X.env.cells scope.names) s2.heap.objs.size s2 H2 fp) [] (Bb js σ++List.replicate zs.length none) H2 { s2 with heap:=h1,toks:=t' }:=by
 have sP:∀ y∈scope.names,y.2=.free->(X.env.cells.lookup y.1).isSome=true:=fun y hy hk=>by
  obtain ⟨c,e⟩:=I3.ok.has y.1 (.inl (S.all y hy hk));rw [e];rfl
 have aw:∀ y c,(Bi X.env.cells scope.names).lookup y=some c->X.env.cells.lookup y=some c:=eY scope.names [] sP (fun _ _ e=>by cases e);have Yo:∀ y k,(relabel scope X.env).names.lookup y=some k->k=.cell∨k=.free->scope.names.lookup y=some .free∨ce=some y:=fun y k e hk=>by
  have e':=(PH (env:=X.env) scope.names y).symm.trans e;cases q:scope.names.lookup y with
  | none=>rw [q] at e';cases e'
  | some k0=>
   rw [q] at e';cases k0 with
   | free=>exact .inl rfl
   | cell=>exact .inr (S.one _ (LO q) rfl)
   | _=>simp at e';rcases hk with rfl | rfl <;> cases e'
 have hlen:js.length=AI.length:=by have:=rW List.length S.at';simpa using this
 have dN:∀ y c,X.env.cells.lookup y=some c->c<s2.heap.objs.size:=fun y c e=>by
  obtain ⟨v,o,ho,_⟩:=I3.cell y c e;exact B9 ho
 have cellK:∀ c v,s2.heap.IsCell c v->h1.IsCell c v:=fun c v ⟨o,ho,hd⟩=>⟨o,old c o ho,hd⟩;have lk:∀ y c,(HP ce (s2.heap.objs.size+1)++Bi X.env.cells scope.names).lookup y=some c->(ce=some y/\c=s2.heap.objs.size+1)∨(ce≠some y/\X.env.cells.lookup y=some c):=fun y c e=>(ZB6 e).imp id fun z=>⟨z.1,aw y c z.2⟩;have xc:∀ y∈AI,ce≠some y:=fun y hy z=>(List.nodup_append.mp S.nd).2.2 y hy y (S.sub y z) rfl;refine ⟨⟨I3.ok.mod,S.kind,I3.ok.glob,I3.ok.blt,Ai _,fun y z c e1 e2=>?_,fun y hy=>?_,fun y c hf e=>?_,I3.ok.hd,I3.ok.frames,.inl rfl,fun b hb=>⟨Bf (gN b hb),fun y c e=>?_⟩,
  fun b o e=>I3.bs b o e,D1 I3.ok.IE I3.sz,fun b o e hb=>?_,fun b hb hs=>?_,I3.stack,I3.aX⟩,rfl,I3.bare,Un.kept old,⟨m,Ld,fun i y v e1 e2 e3=>?_⟩,fun y c e=>?_,I3.AK.fresh (Ai _),fun y c e=>?_,fun p hp=>(by cases hp),I3.AK.kept old,?_⟩
 ·rcases lk y c e1 with ⟨a1,rfl⟩ | ⟨_,DR⟩
  ·rcases lk z _ e2 with ⟨a2,_⟩ | ⟨_,Di⟩
   ·exact Bc (a1.symm.trans a2)
   ·exact absurd (dN z _ Di) (ZD5 (Fu _))
  ·rcases lk z c e2 with ⟨_,rfl⟩ | ⟨_,Di⟩
   ·exact absurd (dN y _ DR) (ZD5 (Fu _))
   ·exact I3.ok.inj y z c DR Di
 ·have hf:scope.names.lookup y=some .free∨ce=some y:=hy.elim (fun hy=>Yo y _ hy (.inl rfl)) fun hy=>Yo y _ hy (.inr rfl);show ∃ c,List.lookup y (HP ce (s2.heap.objs.size+1)++Bi X.env.cells scope.names)=some c
  by_cases ex:ce=some y
  ·rw [ex];exact ⟨_,zX⟩
  ·rw [gG ex];exact Option.isSome_iff_exists.mp (YB scope.names [] (.inr (LO (hf.resolve_right ex))))
 ·rcases lk y c e with ⟨_,rfl⟩ | ⟨n1,_⟩
  ·exact Fu _
  ·exact absurd (eq_of_beq hf) n1
 ·rcases lk y c e with ⟨_,rfl⟩ | ⟨_,DR⟩
  ·exact J4 (Js (gN b hb))
  ·exact (f2 b hb).2.2.2.2.1 y c DR
 ·rcases (f2 b hb).2.2.2.1 with z | z
  ·exact I3.ok.Ov b o e z
  ·exact absurd (E9 (E9 (B9 e) I3.ok.IE) z) (LM _)
 ·rcases List.mem_cons.mp (I3.Xc b hs) with z | z
  ·exact (f2 b hb).2.1 z
  ·exact (f2 b hb).2.2.1 z
 ·have FV:(Bb js σ).length=AI.length:=by unfold Bb;rw [AA,hlen]
  have hi:i<AI.length:=by
   by_cases hi:i<AI.length
   ·exact hi
   ·have CD:(Bb js σ++List.replicate zs.length none)[i]?=some (some v):=e2;rw [Ej (by rw [FV];omega),FV] at CD;exact (ZCM CD).elim
  have DO:AI[i]?=some y:=by
   have DO:(AI++zs)[i]?=some y:=e1
   rwa [DK hi] at DO
  have CD:(Bb js σ)[i]?=some (some v):=by
   have CD:(Bb js σ++List.replicate zs.length none)[i]?=some (some v):=e2
   rwa [DK (by rw [FV];exact hi)] at CD
  have Fc:y∈AI:=C7 DO;unfold Bb at CD;rw [Ac] at CD;cases hj:js[i]? with
  | none=>rw [hj] at CD;cases CD
  | some j=>
   rw [hj] at CD;have hN:X.N[j]?=some y:=by
    have q:=rW (fun l=>l[i]?) S.at';simp only [Ac,hj,DO,SU] at q;exact Bc q
   have hσ:σ[j]?=some (some v):=by
    simp only [SU,Option.some.injEq] at CD;cases q:σ[j]? with
    | none=>rw [q] at CD;cases CD
    | some w=>rw [q] at CD;simp at CD;rw [CD]
   obtain ⟨m0,hn0,hl0⟩:=I3.loc;obtain ⟨u,r,l⟩:=hl0 j y v hN hσ (.inr (.inl (S.cell y Fc)));refine ⟨u,r,?_⟩;rcases l with ⟨k,_⟩ | ⟨_,c,e,z⟩
   ·have k':X.env.scope.names.lookup y=some .local:=k;rw [S.cell y Fc] at k';cases k'
   ·have Xi:X.env.kindOf y=some .cell:=S.cell y Fc;have hk:(relabel scope X.env).names.lookup y=some .cell:=by
     refine (PH (env:=X.env) scope.names y).trans ?_;rw [S.free y Fc];simp [I3.ok.kind,Xi]
    obtain ⟨c',e'⟩:=Option.isSome_iff_exists.mp (YB (cells:=X.env.cells) scope.names [] (.inr (LO (S.free y Fc))));have Zr:=aw y c' e';rw [e] at Zr;cases Zr;exact .inr ⟨.inl hk,c,(gG (xc y Fc)).trans e',cellK c _ z⟩
 ·rcases lk y c e with ⟨a,rfl⟩ | ⟨_,DR⟩
  ·exact ⟨none,FV _ a⟩
  ·obtain ⟨v,z⟩:=I3.cell y c DR;exact ⟨v,cellK c v z⟩
 ·rcases lk y c e with ⟨_,rfl⟩ | ⟨_,DR⟩
  ·exact I3.AK.fresh (Fu _)
  ·exact I3.Hd y c DR
 ·show (Bb js σ++List.replicate zs.length none).length=(AI++zs).length;unfold Bb;simp [hlen]
def pk (hp:Y.prog=X.prog)(hw:Y.w=X.w)(hK:Y.K=X.K)(hA:Y.A=X.A)(mK:Y.xe=fun _ _=>False)(hc:Y.calm=true)
  (hg:PG Y tg g) (Ci:Gw Y ifs tt) (Cj:PE Y elt te)
  (T:Turn X.prog X.w X.K tg J fp it tn) (ot:∀ b∈fp,Y.Ok->EV Y [] (fun _=>none) b)
  (W:Nat->Nat->Hp->Prop) (Q:VK)
  (turn:∀ i m H2,W i m H2->(J.stop i H2/\Q (.ref acc) H2)∨(J.go i H2/\∀ x H3,J.EU i H2 x H3->∀ ws,ws.length=n0->g x (Bb js σ++ws) H3 fun σ8 H8=>∃ us,us.length=n0/\σ8=Bb js σ++us/\X0 tt te acc W i m σ8 H8))
  (I4:Inv Y [] (Bb js σ++ws) H4 s4) (Qu:tn 0 s4.heap) (zd:∀ b∈fp,H4 b=none) (m0:Nat) (w4:W 0 m0 H4)
  (hws:ws.length=n0) (hR:∀ H' s' ws,Inv Y [] (Bb js σ++ws) H' s'->Q (.ref acc) H'->R (.ok .next) s') :
  codeAny (model X.prog X.w) X.A (.compLoop (.ListComp elt [⟨tg,iter,ifs,0⟩] scope pos) 0 (.ref it) (.ref acc) Y.env) R s4:=by
 have AK:=I4.ok;have KH:∀ {H':Hp},(∀ b∈fp,H' b=none)->∀ b∈fp,EV Y [] H' b:=fun hn b hb=>⟨hn b hb,(ot b hb AK).2⟩;rw [<- hp,<- hw,<- hA];have no:∀ {Z:Value->Shared->Prop} v s,Y.xe v s->Z v s:=fun v s z=>by rw [mK] at z;exact z.elim
 refine nh (fun n s'=>∃ i ws H',ws.length=n0/\Inv Y [] (Bb js σ++ws) H' s'/\tn i s'.heap/\(∀ b∈fp,H' b=none)/\W i n H') ?_ m0 ⟨0,ws,H4,hws,I4,Qu,zd,w4⟩;rintro n s5 ⟨i,Yy,H5,hw5,I5,MC,P9,w5⟩;rcases turn i n H5 w5 with ⟨stop,q⟩ | ⟨go,step⟩
 ·have d:=T.done Y hp hw hK hc i [] s5 _ H5 (fun _ _=>False) I5 (KH P9) MC stop;rw [<- hp,<- hw] at d;refine pK d (fun r s6 ⟨hr,I6⟩=>?_) fun _ _ z=>z.elim;subst hr;exact hR H5 s6 Yy I6 q
 ·have d:=T.item Y hp hw hK hc i [] s5 _ H5 (fun _ _=>False) I5 (KH P9) MC go;rw [<- hp,<- hw] at d;refine pK d (fun r s6 ⟨u,hr,h6⟩=>?_) fun _ _ z=>z.elim;subst hr;refine pK h6 (fun _ s7 ⟨v,H7,I7,r7,y7,Ul,oG⟩=>?_) fun _ _ z=>z.elim;have yS:=I7.pinned (KH oG) (T.obj _ _ Ul);refine pK (hg _ s7 _ H7 v u _ yS r7 (step v H7 y7 Yy hw5)) (fun _ s8 ⟨σ8,H8,I8,us,K8,e8,mC⟩=>?_) no;subst e8;have again:∀ {σa:St} {Ha:Hp}{sa:Shared},Inv Y ([]++Mo fp s7.heap) σa Ha sa->tn (i+1) sa.heap/\(∀ b∈fp,Ha b=none):=fun {σa Ha sa} Ia=>by
   refine ⟨T.keep _ _ _ Ul fun b hb o e=>(Ia.pin (b,o) (Hu _ (Hu _ (Qq hb e)))).1,fun b hb=>?_⟩;obtain ⟨o,e,d⟩:=T.obj _ _ Ul b hb;exact (Ia.pin (b,o) (Hu _ (Hu _ (Qq hb e)))).2.1
  refine pK (Ci _ s8 _ H8 _ I8 mC) (fun b s9 ⟨H9,I9,q9⟩=>?_) no;cases b with
  | false=>
   have qG:∃ m',m' < n/\W (i+1) m' H9:=q9;obtain ⟨m',hm,w9⟩:=qG;rw [k6 (by decide)];exact ⟨m',hm,i+1,_,H9,K8,I9.Mp,(again I9).1,(again I9).2,w9⟩
  | true=>
   rw [mZ rfl];rw [mZ rfl] at q9;refine pK (Cj _ s9 _ H9 _ I9 q9) (fun yv DS ⟨y,dh,I10,kD,ys,Ay,hz,m',hm,zf⟩=>?_) no;refine pK (gx (X:=Y) _ DS _ dh (.ref acc) [y] (.ref acc) [yv] (fun _ fE=>fE=upd dh acc (.lst (ys++[y]))) I10 rfl (.cons kD .nil) ⟨acc,ys,y,rfl,rfl,Ay,hz,rfl⟩)
    (fun _ s11 ⟨_,fE,U6,_,qW⟩=>?_) no
   subst qW;exact ⟨m',hm,i+1,_,_,K8,U6.Mp,(again U6).1,(again U6).2,zf⟩
def ZM {RR:Value->Addr->Result->Shared->Prop}(hc:X.calm=true)(S:EW X.N X.env.scope scope ce zs AI js)
  (hg:∀ C s H,PG (Et X (AI++zs) scope ce (Bi X.env.cells scope.names) C s H fp) tg g)
  (Ci:∀ C s H,Gw (Et X (AI++zs) scope ce (Bi X.env.cells scope.names) C s H fp) ifs tt) (Cj:∀ C s H,PE (Et X (AI++zs) scope ce (Bi X.env.cells scope.names) C s H fp) elt te)
  (T:Turn X.prog X.w X.K tg J fp it tn) (I2:Inv X pins σ H2 s2) (JJ:tn 0 s2.heap) (f2:∀ b∈fp,EV X pins H2 b) (Q:VK) (hW:∀ acc,H2 acc=none->OD g zs.length J js tt te σ H2 acc Q)
  (pQ:∀ acc C H' s' m,Inv X pins σ H' s'->EV X pins H' C->s'.heap.Ns C m->Q (.ref acc) H'->RR (.ref acc) C (.ok .next) s') :
  wpAny (model X.prog X.w) X.A (newList []) (fun acc s3=>wpAny (model X.prog X.w) X.A (newFunctionEnv scope X.env.globals (Bi X.env.cells scope.names) [] X.env.qual none .none (some X.env)) (fun eJ s4=>
   codeAny (model X.prog X.w) X.A (.compStart (.ListComp elt [⟨tg,iter,ifs,0⟩] scope pos) 0 (.ref it) acc { eJ with scope:=relabel scope X.env }) (RR acc eJ.locals) s4) E s3) E s2:=by
 refine p7 (ZCA S.cf S.pc ?_);have I3:Inv X pins σ (upd H2 s2.heap.objs.size (.lst [])) { s2 with heap:=s2.heap.push { cls:=.type "list", data:=.seq ([]:List Value).toArray } }:=I2.iD (t':=s2.toks) .nil (CM _)
 have AQ:∀ b∈fp,b<s2.heap.objs.size:=fun b hb=>by
  obtain ⟨o,e,_⟩:=T.obj _ _ JJ b hb;exact B9 e
 have hsz:(s2.heap.push { cls:=.type "list", data:=.seq ([]:List Value).toArray }).objs.size=s2.heap.objs.size+1:=Dr ..;have f3:∀ b∈fp,EV X pins (upd H2 s2.heap.objs.size (.lst [])) b:=fun b hb=>⟨by rw [An (Bf (AQ b hb))];exact (f2 b hb).1,(f2 b hb).2⟩;generalize lx:({ s2 with heap:=s2.heap.push { cls:=.type "list", data:=.seq ([]:List Value).toArray } }:Shared)=s3 at I3 ⊢
 have Z7:s3.heap=s2.heap.push { cls:=.type "list", data:=.seq ([]:List Value).toArray }:=by rw [<- lx]
 have jn:∀ b∈fp,b<s3.heap.objs.size:=fun b hb=>by rw [Z7,hsz];exact Js (AQ b hb)
 generalize iy:Qk ce (s3.heap.push { cls:=.type "dict", data:=.dict #[] })=h1;have gC:∀ b o,(s3.heap.push { cls:=.type "dict", data:=.dict #[] }).get? b=some o->h1.get? b=some o:=fun b o e=>by
  rw [<- iy];cases ce with
  | none=>exact e
  | some _=>exact BQ _ e
 have old:∀ b o,s3.heap.get? b=some o->h1.get? b=some o:=fun b o e=>gC b o (BQ _ e);have rG:∀ b o,s2.heap.get? b=some o->h1.get? b=some o:=fun b o e=>old b o (by rw [Z7];exact BQ _ e);have Ld:h1.Ns s3.heap.objs.size (fun _=>none):=(Heap.Ns.new s3.heap (.type "dict")).keeps gC;have FV:∀ x,ce=some x->h1.IsCell (s3.heap.objs.size+1) none:=fun x hx=>by
  subst hx;rw [<- iy];have e:(s3.heap.push { cls:=.type "dict", data:=.dict #[] }).objs.size=s3.heap.objs.size+1:=Dr ..;exact ⟨_,by rw [<- e];exact Ba _ rfl,rfl⟩
 have I4:=zc S I3 f3 jn Ld old FV (t':=s3.toks);have Qu:tn 0 h1:=T.keep _ _ _ JJ fun b _ o e=>rG b o e;obtain ⟨W,⟨m0,w0⟩,turn⟩:=hW s2.heap.objs.size (I2.AK.fresh (Ai _));have loop:codeAny (model X.prog X.w) X.A (.compLoop (.ListComp elt [⟨tg,iter,ifs,0⟩] scope pos) 0 (.ref it) (.ref s2.heap.objs.size) (compEnvC scope (HP ce (s3.heap.objs.size+1)++Bi X.env.cells scope.names) s3.heap.objs.size X.env))
   (RR (.ref s2.heap.objs.size) s3.heap.objs.size) { s3 with heap:=h1 }:=by
  refine pk (X:=X) (Y:=Et X (AI++zs) scope ce (Bi X.env.cells scope.names) s3.heap.objs.size s3 (upd H2 s2.heap.objs.size (.lst [])) fp) (acc:=s2.heap.objs.size) (Q:=Q) rfl rfl rfl rfl rfl hc (hg _ _ _) (Ci _ _ _) (Cj _ _ _) T (fun b hb ok=>⟨rfl,(ok.Qj b hb).1,ok.Nh b hb,.inl hb,(ok.Qj b hb).2,fun p hp=>by cases hp⟩) W turn I4 Qu (fun b hb=>(f3 b hb).1) m0 w0 (ZCx ..) fun H' s' w I' q=>?_;obtain ⟨m,hn,_⟩:=I'.loc;exact pQ _ _ H' s' m (I3.ZAU (ch:=fp) I'.os I'.base I'.AK I'.bare fun b hb=>⟨(f3 b hb).2.2.2.1,(f3 b hb).2.1,(f3 b hb).2.2.2.2.1,(f3 b hb).2.2.2.2.2⟩) (I3.L7 (Ai _) I'.free) hn q
 exact codeAny_compStart_list loop (T.self X.A 0 _ _ _ Qu loop)
def dD (S:EW X.N X.env.scope scope ce zs AI js)(I:Inv X pins σ H s):closureFor scope X.env=pure (Bi X.env.cells scope.names):=ZB8 fun y hy hk=>by
 obtain ⟨c,e⟩:=I.ok.has y.1 (.inl (S.all y hy hk));rw [e];rfl
def TJ (hW:∀ J σ H1 acc Q,CW J σ H1 acc Q->OD g zs.length J js tt te σ H1 acc Q)(hc:X.calm=true)(S:EW X.N X.env.scope scope ce zs AI js)(hi:PI X tg iter wi)
  (hg:∀ fp C s H,PG (Et X (AI++zs) scope ce (Bi X.env.cells scope.names) C s H fp) tg g)
  (Ci:∀ fp C s H,Gw (Et X (AI++zs) scope ce (Bi X.env.cells scope.names) C s H fp) ifs tt) (Cj:∀ fp C s H,PE (Et X (AI++zs) scope ce (Bi X.env.cells scope.names) C s H fp) elt te)
  (hs:∀ v,foldedSetIterable iter X.env v=pure v):PE X (.ListComp elt [⟨tg,iter,ifs,0⟩] scope pos) (d5 CW wi):=by
 intro pins s σ H Q I h;rw [eval_ListComp];refine wpAny_comprehension_free (use:=none) rfl hs (dD S I) S.kind S.loc (AL (hi pins s σ H _ I h) fun v s1 h1=>AL h1 fun Py s2 h2=>?_);obtain ⟨it,fp,tn,J,H2,e,I2,T,JJ,f2,hw⟩:=h2;subst e;refine ZM (RR:=fun acc C=>compPost (model X.prog X.w) X.A X.xe none (EP X pins σ Q) acc C) hc S (hg fp) (Ci fp) (Cj fp) T I2 JJ f2 Q (fun acc ha=>hW _ _ _ _ _ (hw acc ha)) fun acc C H' s' m I' fC hn q=>⟨m,hn,fun h' JY=>?_⟩;exact ⟨.ref acc,H',I'.turned (t':=s'.toks) (fun b o hb e=>(JY.2 b hb).trans e) fC.1 fC.2.1 fC.2.2.2.1 fC.2.2.2.2.1 fC.2.2.2.2.2,rfl,q⟩
def da (hW:∀ J σ H1 acc Q,CW J σ H1 acc Q->OD g zs.length J js tt te σ H1 acc Q){y:Str}(hN:X.N.Nodup)(CV:X.N[i]?=some y)(hy:Loc X.env.scope y)(hc:X.calm=true)(S:EW X.N X.env.scope scope ce zs AI js)(hi:PI X tg iter wi)
  (hg:∀ fp C s H,PG (Et X (AI++zs) scope ce (Bi X.env.cells scope.names) C s H fp) tg g)
  (Ci:∀ fp C s H,Gw (Et X (AI++zs) scope ce (Bi X.env.cells scope.names) C s H fp) ifs tt) (Cj:∀ fp C s H,PE (Et X (AI++zs) scope ce (Bi X.env.cells scope.names) C s H fp) elt te)
  (IX:swapsWith (.ListComp elt [⟨tg,iter,ifs,0⟩] scope pos) (some (.Name y py)) FI.line X.env=pure true)
  (hf:X.fn y=true∨X.env.scope.names.lookup y=some .local)
  (hs:∀ v,foldedSetIterable iter X.env v=pure v):PS X (.Assign [.Name y py] (.ListComp elt [⟨tg,iter,ifs,0⟩] scope pos) FI) (EE (d5 CW wi) (CO i)):=by
 intro pins s σ H D I h;rw [exec_Assign_Name_used _ _ _ _ IX];refine ji (wpAny_standAt (ji ?_));show wpAny _ X.A (do let _ <- comprehension (.ListComp elt [⟨tg,iter,ifs,0⟩] scope pos) scope X.env _ (newList []) false (eval iter X.env) (some (assign (.Name y py) X.env))) _ _ s
 refine ji (pK (wpAny_comprehension_free (use:=some (assign (.Name y py) X.env)) (Q:=fun _ s'=>SP X pins D .next s') rfl hs (dD S I) S.kind S.loc
  (AL (hi pins s σ H _ I h) fun v s1 h1=>AL h1 fun Py s2 h2=>?_)) (fun _ s' hq=>jx (jx hq)) fun _ _ e=>e)
 obtain ⟨it,fp,tn,J,H2,e,I2,T,JJ,f2,hw⟩:=h2;subst e;refine ZM (RR:=fun acc C=>compPost (model X.prog X.w) X.A X.xe (some (assign (.Name y py) X.env)) (fun _ s'=>SP X pins D .next s') acc C) hc S (hg fp) (Ci fp) (Cj fp) T I2 JJ f2 _ (fun acc ha=>hW _ _ _ _ _ (hw acc ha)) fun acc C H' s' m I' fC hn q=>?_;show wpAny _ X.A (assign (.Name y py) X.env (.ref acc)) _ _ s';refine wpAny_assign_Name (gk (v:=.ref acc) I' hN CV hy rfl (fun Ky y3 ⟨a,qH,ha⟩=>?_) hf);have B5:C≠a:=by
  rcases ha with z | z
  ·rw [z];exact fC.2.1
  ·exact (fC.2.2.2.2.1 y a z).symm
 refine ⟨m,hn.sameBut qH B5,fun h' JY=>?_⟩;exact ⟨_,H',y3.turned (t':=Ky.toks) (fun b o hb e=>(JY.2 b hb).trans e) fC.1 fC.2.1 fC.2.2.2.1 fC.2.2.2.2.1 fC.2.2.2.2.2,q⟩
theorem gA {n:Nat}{cl:List (Str×Addr)}:∀ {names:List (Str×NameKind)},(∀ y∈names,y.2≠.cell)->cellsFrom n names cl=cl
 | [],_=>rfl
 | (x,k)::r,h=>by
  have hk:(k == NameKind.cell)=false:=beq_eq_false_iff_ne.mpr (h _ Ft);rw [cellsFrom,hk];exact gA fun y hy=>h y (Ek _ hy)
theorem bo {h0:Heap}:∀ {names:List (Str×NameKind)},(∀ y∈names,y.2≠.cell)->pushCells h0 names=h0
 | [],_=>rfl
 | (x,k)::r,h=>by
  have hk:(k == NameKind.cell)=false:=beq_eq_false_iff_ne.mpr (h _ Ft);rw [pushCells,hk];exact bo fun y hy=>h y (Ek _ hy)
def EW.cu (kind:scope.kind=.function)(Ks:∀ y∈scope.names,y.2≠.cell)(loc:∀ y∈scope.names,y.2=.local->scope.names.lookup y.1=some .local)
  (at':js.map (fun j=>N[j]?)=AI.map some) (cell:∀ y∈AI,outer.names.lookup y=some .cell) (free:∀ y∈AI,scope.names.lookup y=some .free)
  (all:∀ y∈scope.names,y.2=.free->outer.names.lookup y.1=some .cell) (nd:(AI++zs).Nodup):EW N outer scope none zs AI js:=
 ⟨kind,loc,fun y hy e=>absurd e (Ks y hy),fun x e=>(by cases e),fun n cl=>gA Ks,fun h=>bo Ks,at',cell,free,all,nd⟩
def EW.len (S:EW N outer scope ce zs AI js)(σ:St):(Bb js σ).length=AI.length:=by
 unfold Bb;rw [AA];have:=rW List.length S.at';simpa using this
def Vh (S:EW N outer scope ce [x] AI js)(J:It)(σ:St)(H1:Hp)(acc:Addr)(Q:VK)(h:LD J js tt te σ H1 acc Q):OD (CO AI.length) 1 J js tt te σ H1 acc Q:=by
 obtain ⟨W,h0,h⟩:=h;refine ⟨W,h0,fun i m H2 w=>(h i m H2 w).imp id fun z=>⟨z.1,fun x H3 y ws hw=>?_⟩⟩
 match ws,hw with
 | [w],_=>
  have e:(Bb js σ++[w]).set AI.length (some x)=Bb js σ++[some x]:=by rw [<- S.len σ];exact la _ _ _
  exact ⟨[some x],rfl,e,by rw [e];exact z.2 x H3 y⟩
def XA (S:EW X.N X.env.scope scope ce [x] AI js)(hx:scope.names.lookup x=some .local∨(ce=some x/\scope.names.lookup x=some .cell)):
  PG (Et X (AI++[x]) scope ce cl C s H fp) (.Name x px) (CO AI.length):=
 Uw S.nd (by simp) (hx.imp (fun h=>yU h) fun h=>uz h.2) (hx.symm.imp (fun h=>by show (ce == some x)=true;rw [h.1];exact rD _) fun h=>yU h)
inductive Ir:List Str->List Expr->Prop
 | nil:Ir [] []
 | cons {x zs p es}:Ir zs es->Ir (x::zs) (.Name x p::es)
def Lm (i:Nat):Nat->Gn
 | 0=>LR
 | n+1=>Gm (CO i) (Lm (i+1) n)
theorem Yx {Q:St->Hp->Prop}{H:Hp}:∀ {us:List V}{l ws:St},ws.length=us.length->Q (l++us.map some) H->Lm l.length us.length us (l++ws) H Q
 | [],l,ws,h,q=>by
  rw [List.length_eq_zero_iff.mp h];exact ⟨rfl,q⟩
 | u::us,l,w::ws,h,q=>by
  refine ⟨u,us,rfl,?_⟩;show Lm (l.length+1) us.length us ((l++w::ws).set l.length (some u)) H Q;have e:(l++w::ws).set l.length (some u)=(l++[some u])++ws:=by
   rw [List.set_append_right _ _ (Ai _),Nat.sub_self];simp
  have el:l.length+1=(l++[some u]).length:=by simp
  rw [e,el];refine Yx (l:=l++[some u]) (by simpa using h) ?_
  rw [Cd];exact q
theorem ik {X:Cx}(hN:X.N.Nodup):∀ {zs:List Str}{es:List Expr}{i:Nat},Ir zs es->(∀ (j:Nat) x,zs[j]?=some x->X.N[i+j]?=some x/\Loc X.env.scope x/\X.env.scope.names.lookup x=some .local)->LS X es (Lm i zs.length)
 | _,_,_,.nil,_=>cY
 | _,_,i,.cons (x:=x) (zs:=zs) r,h=>by
  obtain ⟨h1,h2,h3⟩:=h 0 _ rfl;refine gF (Uw hN h1 h2 (.inr h3)) (ik hN r fun j y hj=>?_);have:=h (j+1) y hj
  rwa [show i+(j+1)=i+1+j by omega] at this
def QU (K:ZE6)(n:Nat)(J:It)(js:List Nat)(tt:TT)(te:TE)(σ:St)(H1:Hp)(acc:Addr)(Q:VK):Prop:=
 ∃ W:Nat->Nat->Hp->Prop,(∃ m,W 0 m (upd H1 acc (.lst [])))/\∀ i m H2,W i m H2->
  (J.stop i H2/\Q (.ref acc) H2)∨(J.go i H2/\∀ x H3,J.EU i H2 x H3->∃ a us,x=.ref a/\Aq K H3 a us/\us.length=n/\X0 tt te acc W i m (Bb js σ++us.map some) H3)
def aR {K:ZE6}(S:EW N outer scope ce zs AI js)(J:It)(σ:St)(H1:Hp)(acc:Addr)(Q:VK)(h:QU K zs.length J js tt te σ H1 acc Q):OD (Kj K zs.length (Lm AI.length zs.length)) zs.length J js tt te σ H1 acc Q:=by
 obtain ⟨W,h0,h⟩:=h;refine ⟨W,h0,fun i m H2 w=>(h i m H2 w).imp id fun z=>⟨z.1,fun x H3 y ws hw=>?_⟩⟩;obtain ⟨a,us,e,hs,hu,q⟩:=z.2 x H3 y;refine ⟨a,us,e,hs,hu,?_⟩;rw [<- hu,<- S.len σ];exact Yx (by rw [hw,hu]) ⟨us.map some,AA ..,rfl,q⟩
def d7 {tp:Pos}(hc:X.calm=true)(S:EW X.N X.env.scope scope ce zs AI js)(Hn:∀ x∈zs,scope.names.lookup x=some .local)(IH:Ir zs es)(Iw:∀ e,(assignEach es e).length=zs.length)(Ee:∀ e,(assignEach es e).findIdx? (·.1)=none):
  PG (Et X (AI++zs) scope ce cl C s H fp) (.Tuple es tk tp) (Kj X.K zs.length (Lm AI.length zs.length)):=
 dq (X:=Et X (AI++zs) scope ce cl C s H fp) hc (ik S.nd (i:=AI.length) IH fun j y hj=>by
  have hm:=C7 hj;exact ⟨by show (AI++zs)[AI.length+j]?=_;rw [Ej (by omega),Nat.add_sub_cancel_left];exact hj,.inl (yU (Hn y hm)),yU (Hn y hm)⟩) (Iw _) (Ee _)
def Cc.G (S:Cc N outer scope x AI js):EW N outer scope none [x] AI js:=.cu S.kind S.Ks S.loc S.at' S.cell S.free S.all S.nd
def jk (hc:X.calm=true)(S:Cc X.N X.env.scope scope x AI js)(hi:PI X (.Name x px) iter wi)
  (Ci:∀ fp C s H,Gw (EX X (AI++[x]) scope (Bi X.env.cells scope.names) C s H fp) ifs tt) (Cj:∀ fp C s H,PE (EX X (AI++[x]) scope (Bi X.env.cells scope.names) C s H fp) elt te)
  (hs:∀ v,foldedSetIterable iter X.env v=pure v:=by intro _;rfl):PE X (.ListComp elt [⟨.Name x px,iter,ifs,0⟩] scope pos) (JS wi js tt te):=
 TJ (CW:=fun J σ H1 acc Q=>LD J js tt te σ H1 acc Q) (Vh S.G) hc S.G hi (fun _ _ _ _=>XA S.G (.inl S.Hn)) Ci Cj hs
def vU {y:Str}(hN:X.N.Nodup)(CV:X.N[i]?=some y)(hy:Loc X.env.scope y)(hc:X.calm=true)(S:Cc X.N X.env.scope scope x AI js)(hi:PI X (.Name x px) iter wi)
  (Ci:∀ fp C s H,Gw (EX X (AI++[x]) scope (Bi X.env.cells scope.names) C s H fp) ifs tt) (Cj:∀ fp C s H,PE (EX X (AI++[x]) scope (Bi X.env.cells scope.names) C s H fp) elt te)
  (IX:swapsWith (.ListComp elt [⟨.Name x px,iter,ifs,0⟩] scope pos) (some (.Name y py)) FI.line X.env=pure true:=by rfl)
  (hf:X.fn y=true∨X.env.scope.names.lookup y=some .local:=by first | exact .inl rfl | exact .inr rfl | assumption)
  (hs:∀ v,foldedSetIterable iter X.env v=pure v:=by intro _;rfl):PS X (.Assign [.Name y py] (.ListComp elt [⟨.Name x px,iter,ifs,0⟩] scope pos) FI) (EE (JS wi js tt te) (CO i)):=
 da (CW:=fun J σ H1 acc Q=>LD J js tt te σ H1 acc Q) (Vh S.G) hN CV hy hc S.G hi (fun _ _ _ _=>XA S.G (.inl S.Hn)) Ci Cj IX hf hs
end
def EM (K:ZE6)(tp:Bool)(H:Hp)(a:Addr)(xs:List V):Prop:=match tp with
 | false=>AY K H a xs
 | true=>Aq K H a xs
def EM.or {K:ZE6}{tp:Bool}{xs:List V}(h:EM K tp H a xs):AY K H a xs∨Aq K H a xs:=by
 cases tp
 ·exact .inl h
 ·exact .inr h
noncomputable def Q2 (K:ZE6)(tp:Bool)(a:Addr)(xs:List V):It:=
 ⟨fun i H=>EM K tp H a xs/\i<xs.length,fun i H x H'=>H'=H/\xs[i]?=some x,fun i H=>EM K tp H a xs/\xs.length<=i⟩
def yT {P:Program}{K:ZE6}(a it:Addr)(xs:List V):Turn P w K tg (Q2 K false a xs) [it] it (fun i h=>h.IsListIter it a i) where
 mem:=by simp
 obj:=(Li (P:=P) (w:=w) (K:=K) (tg:=tg) a it).obj
 keep:=(Li (P:=P) (w:=w) (K:=K) (tg:=tg) a it).keep
 item:=by
  intro X hP hw hK hc i pins s σ H E I hf st hg;obtain ⟨hq,hi⟩:=hg;refine AL ((Li (P:=P) (w:=w) (K:=K) (tg:=tg) a it).item X hP hw hK hc i pins s σ H E I hf st ⟨xs,xs[i],hq,by simp [hi]⟩) fun r s1 ⟨u,e,h⟩=>⟨u,e,AL h fun _ s2 ⟨x,H',I',rx,y,DZ,f'⟩=>⟨x,H',I',rx,⟨y.1,y.2 xs hq⟩,DZ,f'⟩⟩
 done:=by
  intro X hP hw hK hc i pins s σ H E I hf st hg;exact (Li (P:=P) (w:=w) (K:=K) (tg:=tg) a it).done X hP hw hK hc i pins s σ H E I hf st ⟨xs,hg.1,hg.2⟩
 self:=(Li (P:=P) (w:=w) (K:=K) (tg:=tg) a it).self
def yd {P:Program}{K:ZE6}(a it:Addr)(xs:List V):Turn P w K tg (Q2 K true a xs) [it] it (fun i h=>h.IsTupleIter it a i) where
 mem:=by simp
 obj:=(NW (P:=P) (w:=w) (K:=K) (tg:=tg) a it).obj
 keep:=(NW (P:=P) (w:=w) (K:=K) (tg:=tg) a it).keep
 item:=by
  intro X hP hw hK hc i pins s σ H E I hf st hg;obtain ⟨hq,hi⟩:=hg;refine AL ((NW (P:=P) (w:=w) (K:=K) (tg:=tg) a it).item X hP hw hK hc i pins s σ H E I hf st ⟨xs,xs[i],hq,by simp [hi]⟩) fun r s1 ⟨u,e,h⟩=>⟨u,e,AL h fun _ s2 ⟨x,H',I',rx,y,DZ,f'⟩=>⟨x,H',I',rx,⟨y.1,y.2 xs hq⟩,DZ,f'⟩⟩
 done:=by
  intro X hP hw hK hc i pins s σ H E I hf st hg;exact (NW (P:=P) (w:=w) (K:=K) (tg:=tg) a it).done X hP hw hK hc i pins s σ H E I hf st ⟨xs,hg.1,hg.2⟩
 self:=(NW (P:=P) (w:=w) (K:=K) (tg:=tg) a it).self
def O8 (K:ZE6)(tl:TE):TI:=fun σ H R=>tl σ H fun x H1=>∃ tp a xs,x=.ref a/\EM K tp H1 a xs/\R (Q2 K tp a xs) H1
noncomputable def Te (z:Str):It:=⟨fun i _=>i<z.cps.size,fun i H x H'=>H'=H/\∃ c,z.cps[i]?=some c/\x=.str ⟨#[c]⟩,fun i _=>i=z.cps.size⟩
def iA {P:Program}{K:ZE6}{t:Tok}{ty:String}
  (hn:["enumerate","zip","dict_itemiterator","dict_reverseitemiterator","odict_iterator","itertools.zip_longest","itertools.pairwise"].contains ty=false)
  (W:∀ A:Around,A.handled=none->Walks P w A it [it] [it] z.cps.size (SignAt z) (fun i h=>h.IsStrIter it ty z t i))
  (self:∀ (A:Around) (i:Nat) (s:Shared) (Q:Value->Shared->Prop) (E:Value->Shared->Prop),s.heap.IsStrIter it ty z t i->Q (.ref it) s->wpAny (model P w) A (pyIter (.ref it)) Q E s) :
  Turn P w K tg (Te z) [it] it (fun i h=>h.IsStrIter it ty z t i) where
 mem:=by simp
 obj:=fun i h st b hb=>by
  have e:b=it:=by simpa using hb
  subst e;obtain ⟨o,e,c,d⟩:=st;exact ⟨o,e,fun v z=>by rw [d] at z;cases z⟩
 keep:=fun i h h' st k=>let ⟨o,e,r⟩:=st;⟨o,k it (by simp) o e,r⟩
 item:=by
  intro X hP hw hK hc i pins s σ H E I hf st hg;subst hP hw hK;obtain ⟨f0,f1,f2,f3,f4,f5⟩:=hf it (by simp);refine (W X.A (I.ok.hd hc)).item i s _ _ hg st fun v h' tk ⟨c,u,R4,hv⟩ DZ kp=>?_;subst hv;have I1:Inv X pins σ H { s with heap:=h',toks:=tk }:=I.turned (t':=tk) (fun b o hb e=>kp b o (by simpa using hb) e) f0 f1 f3 f4 f5
  obtain ⟨o,e,cl,d⟩:=id DZ;exact ⟨_,rfl,Pr (s:={ s with heap:=h',toks:=tk }) e cl d hn ⟨.str ⟨#[c]⟩,H,I1,⟨u,rfl⟩,⟨rfl,c,R4,rfl⟩,DZ,fun b hb=>(hf b hb).1⟩⟩
 done:=by
  intro X hP hw hK hc i pins s σ H E I hf st hg;subst hP hw hK;obtain ⟨f0,f1,f2,f3,f4,f5⟩:=hf it (by simp);have wM:i=z.cps.size:=hg;subst wM;exact (W X.A (I.ok.hd hc)).done s _ _ st fun h' tk kp=>⟨rfl,I.turned (t':=tk) (fun b o hb e=>kp b o (by simpa using hb) e) f0 f1 f3 f4 f5⟩
 self:=self
def cP (tl:TE):TI:=fun σ H R=>tl σ H fun x H1=>∃ z,x=.str z/\R (Te z) H1
def DT {p:Addr}(h:H p=none)(o:HO):AV H (upd H p o):=fun b u q=>by rw [An (Dj q h)];exact q
def uL {Q:VK}(xs:List V)(f:V->Bool)(g:V->V)(Ay:H1 acc=none)(hz:xs.length<=sizeLine)
  (wo:∀ i H,AV H1 H->i<xs.length->J.go i H) (Cb:∀ H,AV H1 H->J.stop xs.length H) (hy:∀ i H x H',J.EU i H x H'->H'=H/\xs[i]?=some x)
  (ht:∀ (i:Nat) (x:V) (H':Hp) (Q':Bool->Hp->Prop),xs[i]?=some x->AV H1 H'->(∀ GZ,AV H' GZ->Q' (f x) GZ)->tt (Bb js σ++[some x]) H' Q')
  (he:∀ (i:Nat) (x:V) (H':Hp) (Q':VK),xs[i]?=some x->f x=true->AV H1 H'->(∀ GZ,AV H' GZ->Q' (g x) GZ)->te (Bb js σ++[some x]) H' Q')
  (hd:∀ H',AV H1 H'->H' acc=some (.lst ((xs.filter f).map g))->Q (.ref acc) H'):LD J js tt te σ H1 acc Q:=by
 refine ⟨fun i m H=>m=xs.length - i/\i<=xs.length/\AV H1 H/\H acc=some (.lst (((xs.take i).filter f).map g)),⟨xs.length,by simp,CM _,DT Ay _,B0⟩,?_⟩;rintro i m H2 ⟨rfl,hi,sm,ha⟩
 by_cases AQ:i<xs.length
 ·refine .inr ⟨wo i H2 sm AQ,fun x H3 y=>?_⟩;obtain ⟨e,hx⟩:=hy i H2 x H3 y;subst e;have JE:(xs.take (i+1))=xs.take i++[x]:=by
   have e2:xs[i]=x:=by
    rw [AX AQ] at hx;exact Bc hx
   rw [P2 AQ,e2]
  have e1:List.filter f (xs.take (i+1))=(xs.take i).filter f++(if f x=true then [x] else []):=by
   rw [JE,YQ];congr 1
   by_cases hf:f x=true <;> simp [hf]
  refine ht i x _ _ hx sm fun H4 s4=>?_
  by_cases hf:f x=true
  ·rw [mZ hf];refine he i x H4 _ hx hf (sm.trans s4) fun H5 s5=>?_;have hlen:(((xs.take i).filter f).map g).length<sizeLine:=by
    rw [AA];have:=SK f (xs.take i);rw [DM] at this;omega
   refine ⟨_,s5 _ _ (s4 _ _ ha),hlen,xs.length - (i+1),by omega,rfl,AQ,fun b o q=>?_,?_⟩
   ·have hb:b≠acc:=by rintro rfl;rw [Ay] at q;cases q
    rw [An hb];exact s5 _ _ (s4 _ _ (sm b o q))
   ·rw [B0,e1,mZ hf,Be];rfl
  ·have Ot:f x=false:=by simpa using hf
   rw [Ot];rw [k6 (by decide)];refine ⟨xs.length - (i+1),by omega,rfl,AQ,sm.trans s4,?_⟩;rw [e1,k6 hf,Df];exact s4 _ _ ha
 ·have e:i=xs.length:=by omega
  subst e;refine .inl ⟨Cb H2 sm,hd H2 sm ?_⟩;rw [FQ] at ha;exact ha
noncomputable def G0 (z:Str):List V:=z.cps.toList.map fun c=>.str ⟨#[c]⟩
def Th (z:Str):(G0 z).length=z.cps.size:=by unfold G0;simp
def jd {Q:VK}(f:V->Bool)(g:V->V)(Ay:H1 acc=none)(hz:z.cps.size<=sizeLine)
  (ht:∀ (i:Nat) (x:V) (H':Hp) (Q':Bool->Hp->Prop),(G0 z)[i]?=some x->AV H1 H'->(∀ GZ,AV H' GZ->Q' (f x) GZ)->tt (Bb js σ++[some x]) H' Q')
  (he:∀ (i:Nat) (x:V) (H':Hp) (Q':VK),(G0 z)[i]?=some x->f x=true->AV H1 H'->(∀ GZ,AV H' GZ->Q' (g x) GZ)->te (Bb js σ++[some x]) H' Q')
  (hd:∀ H',AV H1 H'->H' acc=some (.lst (((G0 z).filter f).map g))->Q (.ref acc) H'):LD (Te z) js tt te σ H1 acc Q:=by
 refine uL (G0 z) f g Ay (by rw [Th];exact hz) (fun i H s hi=>?_) (fun H s=>?_) (fun i H x H' y=>?_) ht he hd
 ·rw [Th] at hi;exact hi
 ·show (G0 z).length=z.cps.size;exact Th z
 ·obtain ⟨e,c,hc,hx⟩:=y;refine ⟨e,?_⟩;subst hx;unfold G0;rw [Ac,SD,hc];rfl
noncomputable def Gv (xs ys:List V):Bool:=xs.length == ys.length && (List.range xs.length).all fun j=>DX (xs.getD j .AB) (ys.getD j .AB)
def Ni {xs:List V}{x:V}(h:xs[j]?=some x):xs.getD j .AB=x:=by rw [Jo,h];rfl
def eK {xs:List V}{x:V}(h:xs.all Eh=true)(e:xs[j]?=some x):Eh x=true:=List.all_eq_true.mp h x (C7 e)
def Qe {xs:List V}{BU:List Value}(r1:Vals xs A3)(r2:Vals ys BU)(fx:xs.all Eh=true)(fy:ys.all Eh=true):
  ∀ j (h1:j<A3.toArray.size) (h2:j<BU.toArray.size),SeqAt.EqAt A s A3.toArray[j] BU.toArray[j] (DX (xs.getD j .AB) (ys.getD j .AB)):=fun j h1 h2=>by
 have l1:=r1.length;have l2:=r2.length;have DR:j<A3.length:=by simpa using h1
 have Di:j<BU.length:=by simpa using h2
 have e1:xs[j]?=some (xs[j]'(by omega)):=AX _;have e2:ys[j]?=some (ys[j]'(by omega)):=AX _;obtain ⟨u,hu,ru⟩:=r1.get e1;obtain ⟨v,hv,rv⟩:=r2.get e2;rw [AX DR] at hu;rw [AX Di] at hv;have Fn:A3[j]=u:=Bc hu;have IA:BU[j]=v:=Bc hv;rw [Ni e1,Ni e2];have q:=Ro (A:=A) (s:=s) ru rv (eK fx e1) (eK fy e2);rw [<- Fn,<- IA] at q
 simpa using q
def N7 (K:ZE6)(neg:Bool):R2:=fun x y H Q=>∃ p q xs ys,x=.ref p/\y=.ref q/\((AY K H p xs/\AY K H q ys)∨(Aq K H p xs/\Aq K H q ys))/\xs.all Eh=true/\ys.all Eh=true/\
 Q (.bl (if neg then !Gv xs ys else Gv xs ys)) H
def Lx {xs:List V}(h:xs.length≠ys.length):Gv xs ys=false:=by
 unfold Gv;have:(xs.length == ys.length)=false:=by simpa using h
 rw [this,Bool.false_and]
def MJ {xs:List V}(h:xs.length=ys.length):Gv xs ys=(List.range xs.length).all fun j=>DX (xs.getD j .AB) (ys.getD j .AB):=by
 unfold Gv;have:(xs.length == ys.length)=true:=by simpa using h
 rw [this,j6]
def pP (hu:X.A.units<cLine):BD X (compareOp .Eq) (N7 X.K false):=by
 intro pins s σ H x y v u Q I rx ry h;obtain ⟨p,q,xs,ys,rfl,rfl,hq,fx,fy,hQ⟩:=h;cases rx;cases ry;have Dp:Q (.bl (Gv xs ys)) H:=hQ;rcases hq with ⟨ha,hb⟩ | ⟨ha,hb⟩
 ·obtain ⟨A3,r1,p1,z1⟩:=I.list ha;obtain ⟨BU,r2,p2,z2⟩:=I.list hb;have l1:=r1.length;have l2:=r2.length
  by_cases hl:xs.length=ys.length
  ·refine SeqAt.eq_listAt (e:=fun j=>DX (xs.getD j .AB) (ys.getD j .AB)) p1.isList p2.isList (by simp;omega) hu (Qe r1 r2 fx fy) ⟨.bl _,H,I,rfl,?_⟩;rw [MJ hl] at Dp;simp only [Bd,<- l1];exact Dp
  ·rw [Lx hl] at Dp;exact SeqAt.eq_list_lengthsAt p1.isList p2.isList (by simp;omega) hu ⟨.bl false,H,I,rfl,Dp⟩
 ·obtain ⟨A3,r1,p1,z1⟩:=I.tuple ha;obtain ⟨BU,r2,p2,z2⟩:=I.tuple hb;have l1:=r1.length;have l2:=r2.length;refine SeqAt.eq_tupleAt (e:=fun j=>DX (xs.getD j .AB) (ys.getD j .AB)) p1 p2 hu (Qe r1 r2 fx fy) ⟨.bl _,H,I,rfl,?_⟩;simp only [Bd,<- l1,<- l2]
  by_cases hl:xs.length=ys.length
  ·rw [MJ hl] at Dp;have:(xs.length == ys.length)=true:=by simpa using hl
   rw [this,j5,<- hl,jR];exact Dp
  ·rw [Lx hl] at Dp;have:(xs.length == ys.length)=false:=by simpa using hl
   rw [this,SE];exact Dp
def MO (hu:X.A.units<cLine):BD X (compareOp .NotEq) (N7 X.K true):=by
 intro pins s σ H x y v u Q I rx ry h;obtain ⟨p,q,xs,ys,rfl,rfl,hq,fx,fy,hQ⟩:=h;cases rx;cases ry;have Dp:Q (.bl (!Gv xs ys)) H:=hQ;rcases hq with ⟨ha,hb⟩ | ⟨ha,hb⟩
 ·obtain ⟨A3,r1,p1,z1⟩:=I.list ha;obtain ⟨BU,r2,p2,z2⟩:=I.list hb;have l1:=r1.length;have l2:=r2.length
  by_cases hl:xs.length=ys.length
  ·refine SeqAt.RcNeAt.lists (e:=fun j=>DX (xs.getD j .AB) (ys.getD j .AB)) p1.isList p2.isList (by simp;omega) hu (Qe r1 r2 fx fy) _ _ _ _ ⟨.bl _,H,I,rfl,?_⟩;rw [MJ hl] at Dp;simp only [Bd,<- l1];exact Dp
  ·rw [Lx hl] at Dp;exact ZDL p1.isList p2.isList (by simp;omega) hu _ _ _ _ ⟨.bl true,H,I,rfl,Dp⟩
 ·obtain ⟨A3,r1,p1,z1⟩:=I.tuple ha;obtain ⟨BU,r2,p2,z2⟩:=I.tuple hb;have l1:=r1.length;have l2:=r2.length;refine SeqAt.RcNeAt.tuples (e:=fun j=>DX (xs.getD j .AB) (ys.getD j .AB)) p1 p2 hu (Qe r1 r2 fx fy) _ _ _ _ ⟨.bl _,H,I,rfl,?_⟩;simp only [Bd,<- l1,<- l2]
  by_cases hl:xs.length=ys.length
  ·rw [MJ hl] at Dp;have:(xs.length == ys.length)=true:=by simpa using hl
   rw [this,j5,<- hl,jR];exact Dp
  ·rw [Lx hl] at Dp;have:(xs.length == ys.length)=false:=by simpa using hl
   rw [this,SE];exact Dp
def yg:CJ X (.builtin "isinstance") (fun xs H Q=>∃ x n t b,xs=[x,.ty n]/\Es X.K H x t/\PySem.W.kitOne X.K t (.type n)=some b/\Q (.bl b) H):=by
 intro pins s σ H xs us Q I r h;obtain ⟨x,n,t,b,rfl,ty,e,q⟩:=h;obtain ⟨u,w',rfl,rx,rt⟩:=vals2 r;cases rt;exact ZBB I rx ty e fun tk=>⟨.bl b,H,I.tok tk,rfl,q⟩
def oQ {bs:List Bool}(r:Vals (bs.map V.bl) A3)(e:A3[i]?=some v):v=.bool (bs.getD i false):=by
 have hl:=r.length;rw [AA] at hl;have hi:i<A3.length:=(List.getElem?_eq_some_iff.mp e).1;have e1:(bs.map V.bl)[i]?=some (.bl (bs[i]'(by omega))):=by rw [Ac,AX (by omega)];rfl
 obtain ⟨u,hu,ru⟩:=r.get e1;rw [e] at hu;cases hu;cases ru;rw [Jo,AX (by omega)];rfl
def range_all (bs:List Bool):(List.range bs.length).all (fun i=>bs.getD i false)=bs.all id:=by
 rw [Ow,Hr,Hr];constructor
 ·intro h x hx;obtain ⟨i,hi,rfl⟩:=List.mem_iff_getElem.mp hx;have:=h i (List.mem_range.mpr hi);rw [Jo,AX hi] at this;exact this
 ·intro h i hi;rw [Jo,AX (List.mem_range.mp hi)];exact h _ (Fs _)
def Px (hc:X.calm=true):CJ X (.builtin "all") (fun xs H Q=>∃ (p:Addr) (bs:List Bool),xs=[.ref p]/\AY X.K H p (bs.map V.bl)/\Q (.bl (bs.all id)) H):=by
 intro pins s σ H xs us Q I r h;obtain ⟨p,bs,rfl,hq,q⟩:=h;obtain ⟨u,rfl,rx⟩:=vals1 r;cases rx;obtain ⟨A3,rv,pl,hz⟩:=I.list hq;have hl:=rv.length;rw [AA] at hl;refine call_all_walk (xS pl.isList ?_);obtain ⟨o,n,ho,_⟩:=id pl;have B5:p≠s.heap.objs.size:=Bf (B9 ho);refine ⟨s.heap.objs.size,_,_,_,_,_,fun i=>bs.getD i false,rfl,Walks.list (by rw [j3];exact I.ok.hd hc) _ p B5 A3.toArray,⟨⟨_,Ba _ rfl,rfl,rfl⟩,pl.isList.push _⟩,fun i v s' Q' E' hv Dp=>?_,fun h' tk kp=>?_⟩
 ·have ev:v=.bool (bs.getD i false):=oQ rv (by simpa using hv)
  rw [ev];exact pT Dp
 ·refine ⟨.bl _,H,I.kept (t':=tk) fun b ob e=>kp b ob (by simpa using Bf (B9 e)) (BQ _ e),rfl,?_⟩
  rw [Bd,<- hl,range_all];exact q
def VR:V->List V->Hp->VK->Prop:=fun x vs H Q=>∃ (l:Addr) (xs:List V) (j:Int) (y:V),x=.ref l/\vs=[.int j,y]/\H l=some (.lst xs)/\0<=j/\j<=xs.length/\xs.length<sizeLine/\Q .AB (upd H l (.lst (xs.take j.toNat++y::xs.drop j.toNat)))
def sR:N6 X "list.insert" VR:=by
 intro pins s σ H x vs v us Q I rx rv h;obtain ⟨l,xs,j,y,rfl,rfl,hH,UQ,l6,hz,q⟩:=h;cases rx;obtain ⟨ui,uy,rfl,ri,ry⟩:=rv.two;obtain ⟨t,rfl⟩:=ri;obtain ⟨z,A3,n,r,hl,e⟩:=I.Hw hH;have h2:j<2 ^ 63:=by
  have h4:(xs.length:Int)<=(sizeLine:Int):=Int.ofNat_le.mpr z;have h3:((sizeLine:Nat):Int)<2 ^ 63:=by exact_mod_cast JF
  omega
 have jq:(!Builtin.List.listFitsIndex j)=true->False:=by
  have h1:Builtin.List.listFitsIndex j=true:=by
   unfold Builtin.List.listFitsIndex;rw [Ei];exact ⟨jy (by omega),jy h2⟩
  rw [h1];exact fun h=>nomatch h
 have OE:A3.toArray.size<=sizeLine:=D1 (jN (List.size_toArray.trans hl.symm)) z;refine uF ZDC ⟨_,e,rfl⟩ PySem.F.entry_list_insert (PySem.F.args_list_insert_3 _ _ _) (PySem.AutoSeq1.list_insert_list_int_val_1 l A3.toArray n j t uy jq OE) ⟨e,?_⟩;refine ⟨.AB,_,I.Lr (its':=A3.take j.toNat++uy::A3.drop j.toNat) hH e ?_ ((r.take _).append (.cons ry (r.drop _))) ?_,rfl,q⟩
 ·have h0:¬ (j<0):=by omega
  have hm:min j.toNat A3.toArray.size=j.toNat:=by simp;omega
  simp only [h0,ZB1,hm];apply Array.toList_inj.mp;simp;exact P1 (by simp)
 ·rw [B2,By,DM,SJ];omega
def kY:V->Option Int->Option Int->Hp->VK->Prop:=fun x lo hi H Q=>∃ z,x=.str z/\z.length<=sizeLine/\Q (.str (Txt.slice z lo hi)) H
def part_of {o:Option Int}(p:IsPart v o):∃ l:Option (Int×Tok),v=partValue l/\l.map (·.1)=o:=by
 cases p with
 | none=>exact ⟨none,rfl,rfl⟩
 | int i t=>exact ⟨some (i,t),rfl,rfl⟩
def gY:KC X kY:=by
 intro pins s σ H x v vl vu lo hi sl Q I rx hs pl pu h;obtain ⟨z,rfl,hz,q⟩:=h;obtain ⟨t,rfl⟩:=rx;obtain ⟨l,rfl,hl⟩:=part_of pl;obtain ⟨u,rfl,hu⟩:=part_of pu;subst hl;subst hu;refine ⟨"str", _,F.slot_str_getitem.lookup,typeIs_str _ _ _,wpAny_getItem_str_slice (l:=l) (u:=u) (st:=none) hs rfl (post_val_or_str ⟨D1 (Txt.slice_le z _ _) hz,fun t' k=>?_⟩)⟩;exact ⟨.str _,H,I.tok k,⟨t',rfl⟩,q⟩
end L2
set_option exponentiation.threshold 5000
namespace L2
variable {f p:Addr}{H:Hp}
def AD (P:Program)(w:World)(K:ZE6)(mg:ZE8)(base:Heap)(x:Str)(k:Nat)(ps:List Str)(sp:Sp):Prop:=
 ∃ f fd,DD P w K mg base FU k f fd ps sp/\Binds K fd ps []/\PySem.W.keepIn K (.ref f)=true/\mg x=some (.ref f)
section
variable {P:Program}{w:World}{K:ZE6}{mg:ZE8}{base:Heap}{x qual:Str}{k:Nat}{ps:List Str}{sp:Sp}{st:Stmt}{fd:FuncData}
def AD.mk (F:AR K x qual st f fd)(b:Binds K fd ps [])(m:mg x=some (.ref f))(h:DD P w K mg base FU k f fd ps sp):AD P w K mg base x k ps sp:=⟨f,fd,h,b,F.kp,m⟩
variable {X:Cx}{j:Nat}{p pos:Pos}{e:Expr}{es:List Expr}{t:TA}
def Oo (K:ZE6):List V->Hp->VK->Prop:=fun xs H Q=>∃ (p:Addr) (ys:List V),xs=[.ref p]/\(AY K H p ys∨Aq K H p ys)/\Q (.int ys.length) H
def ER:CJ X (.builtin "len") (Oo X.K):=QR
def ZD (K:ZE6):List V->Hp->VK->Prop:=fun xs H Q=>∃ (x:V) (n:String) (t:Value) (b:Bool),xs=[x,.ty n]/\Es K H x t/\PySem.W.kitOne K t (.type n)=some b/\Q (.bl b) H
def yV:CJ X (.builtin "isinstance") (ZD X.K):=yg
def Nd:Gz X "list.append" RS:=gx
def oV:Gz X "list.insert" VR:=sR
def qc:Gz X "list.pop" Wd:=tJ
def pq (i j:Int):Prop:=i.natAbs<2 ^ 1000/\j.natAbs<2 ^ 1000
def eU {n:Nat}(h:n<2 ^ 1000):n.log2<1000:=by
 rcases Nat.eq_zero_or_pos n with e | e
 ·subst e;exact (show (0:Nat).log2<1000 by decide)
 ·exact (Nat.log2_lt (J4 e)).mpr h
def bits_le {i:Int}(h:i.natAbs<2 ^ 1000):Builtin.Int.intBits i<=2 ^ 20:=by
 unfold Builtin.Int.intBits;split
 ·exact CM _
 ·have:=eU h;have e:(2:Nat) ^ 20=1048576:=by decide
  omega
def KA:BD X (binaryOp .Mult) (rI pq fun i j=>.int (i * j)):=Ph fun _ _ _ _ _ _ _ hc q=>mul_int q (.of_bits (bits_le hc.1) (bits_le hc.2))
def XW:BD X (binaryOp .FloorDiv) (rI (fun _ j=>0<j/\j.natAbs<2 ^ 1000) fun i j=>.int (i / j)):=Ph fun i j _ _ _ _ _ hc q=>by
 have h1:(0:Int)<j:=hc.1;have h2:=eU hc.2;exact floordiv_int (by omega) (by rw [Int.fdiv_eq_ediv_of_nonneg i (by omega)];exact q) (.inl (PyProof.noPylong_of_log2 (by omega)))
def we {body rest:List Stmt}{t u:TS}(e:body=st::rest)(h:PS X st t)(h2:EH X rest u):EH X body (Om t u):=by rw [e];exact rE h h2
def Tj (t:TS):TS:=fun D σ H=>∃ J:St->Hp->Prop,t { D with nx:=J } σ H/\∀ σ' H',J σ' H'->D.nx σ' H'
end
def GI (p:Addr)(H H':Hp):Prop:=∀ b o,b≠p->H b=some o->H' b=some o
def GI.trans {H1 H2:Hp}(a:GI p H H1)(b:GI p H1 H2):GI p H H2:=fun c o hc e=>b c o hc (a c o hc e)
def GI.of {H':Hp}(a:AV H H'):GI p H H':=fun c o _ e=>a c o e
theorem GI.upd {o:HO}:GI p H (upd H p o):=fun c u hc e=>by rw [An hc];exact e
end L2
set_option maxHeartbeats 8000000
namespace L2
variable {ss:List Str}
noncomputable def FC (acc:List Str)(x:Str):List Str:=if acc.any (· == x) then acc else acc++[x]
noncomputable def dd (ss:List Str):List Str:=ss.foldl FC []
def ZCa (acc:List Str)(x k:Str):(FC acc x).any (· == k)=(acc.any (· == k) || decide (k=x)):=by
 unfold FC
 by_cases h:acc.any (· == x)=true
 ·rw [mZ h]
  by_cases e:k=x
  ·subst e;rw [h];simp
  ·simp [e]
 ·rw [k6 h,List.any_append]
  by_cases e:k=x
  ·subst e;simp
  ·have hb:(x == k)=false:=by simpa [beq_iff_eq] using (fun h':x=k=>e h'.symm)
   simp [hb,e]
def T4 (acc:List Str)(x:Str):(FC acc x).length=if acc.any (· == x) then acc.length else acc.length+1:=by
 unfold FC;split <;> simp
def ba (ss:List Str)(i:Nat)(h:i<ss.length):dd (ss.take (i+1))=FC (dd (ss.take i)) ss[i]:=by
 unfold dd;rw [P2 h,List.foldl_append];rfl
def UZ (ss:List Str):(dd ss).length<=ss.length:=by
 have:∀ (l acc:List Str),(l.foldl FC acc).length<=acc.length+l.length:=by
  intro l
  induction l with
  | nil=>intro acc;simp
  | cons x r ih=>
   intro acc;rw [Oy];have h1:=ih (FC acc x);rw [T4] at h1;simp only [By];split at h1 <;> omega
 have q:=this ss [];simp only [YT,Nat.zero_add] at q;exact q
section
variable {prog:Program}{w:World}{A:Around}{R:Result->Shared->Prop}{I:Addr}{fp wr:List Addr}{G:Array GenState->Array GenState->Prop}{n:Nat}{P:Nat->Value->Prop}{St:Nat->Shared->Prop}
variable {E:Value->Shared->Prop}{s:Shared}
def sub_tuple_set:isSubtype (.type "tuple") (.type "set")=pure false:=by rw [sD];kernel_rfl
def sub_tuple_frozenset:isSubtype (.type "tuple") (.type "frozenset")=pure false:=by rw [sD];kernel_rfl
end
noncomputable def uJ (P:Program)(w:World)(a:Addr)(f:Str->Bool)(n:Nat):HO:=.ext fun h=>h.SetOf (strKind P w) a f n
section
variable {X:Cx}
def Xe {A3:List Value}(r:Vals (ss.map V.str) A3){i:Nat}{v:Value}(e:A3[i]?=some v):∃ (h:i<ss.length) (t:Tok),v=.str ss[i] t:=by
 have hl:=r.length;rw [AA] at hl;have hi:i<A3.length:=(List.getElem?_eq_some_iff.mp e).1;have CV:i<ss.length:=by omega
 have e1:(ss.map V.str)[i]?=some (.str ss[i]):=by rw [Ac,AX CV];rfl
 obtain ⟨u,hu,ru⟩:=r.get e1;rw [e] at hu;cases hu;obtain ⟨t,q⟩:=ru;exact ⟨CV,t,q⟩
end
end L2
set_option maxHeartbeats 4000000
namespace L2
variable {X:Cx}{a c e l o tg:Expr}{es ifs:List Expr}{body rest:List Stmt}{ta te tl to:TE}{t tb:TS}{tc tt:TT}{p pos pos' px:Pos}{name x y:Str}{Er op:CmpOp}{r:List V->Hp->VK->Prop}{i j n:Nat}{ps ss:List Str}{sp:Sp}{T:String}{wi:TI}{g:TG}{w:World}{I f:Addr}{s:Shared}{E Q:Value->Shared->Prop}
structure QE (X:Cx) (e:Expr) (t:TE):Prop where h:PE X e t
structure QT (X:Cx) (e:Expr) (t:TT):Prop where h:PT X e t
structure QW (X:Cx) (e:Expr) (t:TT):Prop where h:PW X e t
structure QA (X:Cx) (es:List Expr) (t:TA):Prop where h:PA X es t
structure QS (X:Cx) (st:Stmt) (t:TS):Prop where h:PS X st t
structure Iu (X:Cx) (st:List Stmt) (t:TS):Prop where h:EH X st t
structure QG (X:Cx) (tg:Expr) (t:TG):Prop where h:PG X tg t
structure P8 (X:Cx) (ts:List Expr) (t:Gn):Prop where h:LS X ts t
structure QI (X:Cx) (tg iter:Expr) (wi:TI):Prop where h:PI X tg iter wi
structure L5 (X:Cx) (ifs:List Expr) (t:TT):Prop where h:Gw X ifs t
structure QO (X:Cx) (e:Option Expr) (t:TO):Prop where h:PO X e t
section
variable {b:Expr}{rest:List Expr}{tb tc:TE}{tA IS:TT}{t:TA}{p2 apos Cu:Pos}
def qv (i:Nat)(hN:X.N[i]?=some x:=by rfl)(hv:WN X.env.scope x:=by first | exact Or.inl rfl | exact Or.inr (Or.inl rfl) | exact Or.inr (Or.inr rfl))(hd:(x == ("__debug__":Str))=false:=by decide)
  (HB:(x == ("__classdict__":Str))=false:=by decide):QE X (.Name x pos) (BI i):=⟨by
 intro pins s σ H Q I h;obtain ⟨v,e,h⟩:=h;obtain ⟨m,hn,hl⟩:=I.loc;obtain ⟨u,r,l⟩:=hl i x v hN e hv;have fin:EP X pins σ Q u s:=⟨v,H,I,r,h⟩;rcases l with ⟨hk,hm⟩ | ⟨hk,c,hc,ZQ⟩
 ·exact wpAny_Name (wpAny_loadName_local I.ok.kind hk hn hm fin) hd
 ·rcases hk with hk | hk
  ·exact wpAny_Name (wpAny_loadName_cell I.ok.kind hk hc ZQ fin) hd
  ·exact wpAny_Name (wpAny_loadName_free I.ok.kind hk hc ZQ fin HB) hd⟩
def A6 {i j pos}:QE X (.Constant (.int i) j pos) (tC (.int i)):=⟨fun _ _ _ H _ I h=>wpAny_Constant_int ⟨.int i,H,I.tok _,⟨_,rfl⟩,h⟩⟩
def Hf {b j pos}:QE X (.Constant (.bool b) j pos) (tC (.bl b)):=⟨fun _ _ _ H _ I h=>Constant_bool ⟨.bl b,H,I,rfl,h⟩⟩
def MY {j pos}:QE X (.Constant .none j pos) (tC .AB):=⟨fun _ _ _ H _ I h=>Constant_none ⟨.AB,H,I,rfl,h⟩⟩
def BJ {x j pos}:QE X (.Constant (.str x) j pos) (tC (.str x)):=⟨fun _ _ _ H _ I h=>Calls.Constant_str ⟨.str x,H,I.tok _,⟨_,rfl⟩,h⟩⟩
def Hx {v:V}{u:Value}(hg:Gl X x)(hm:X.mg x=some u)(r:RelV v u)(hd:(x == ("__debug__":Str))=false:=by decide):QE X (.Name x pos) (tC v):=⟨fun _ _ _ H _ I h=>TB I hg hm ⟨v,H,I,r,h⟩ hd⟩
def vc (T:String)(hm:X.mg x=none)(hg:Gl X x:=by rfl)(hv:bootBuiltins x=some (.type T):=by decide +kernel)(hn:x ≠ "__name__" := by decide)(hd:(x == ("__debug__":Str))=false:=by decide):
  QE X (.Name x pos) (tC (.ty T)):=⟨ZCW hg hm hv rfl hn hd⟩
def Ab {op:Operator}{r:R2}(ho:BD X (binaryOp op) r)(ha:QE X a ta)(hb:QE X b tb):QE X (.BinOp a op b pos) (BX r ta tb):=⟨by
 have ha:=ha.h;have hb:=hb.h;intro pins s σ H Q I h;exact wpAny_BinOp (UN ha hb I h fun v u s2 x y H2 I2 rx ry q=>ho pins s2 σ H2 x y v u Q I2 rx ry q)⟩
def Gu {op:UnaryOp}{r:V->Hp->VK->Prop}(ho:QN X (unaryOp op) r)(ha:QE X a ta):QE X (.UnaryOp op a pos) (PF r ta):=⟨by
 have ha:=ha.h;intro pins s σ H Q I h;exact UnaryOp_ (AL (ha pins s σ H _ I h) fun v s1 ⟨x,H1,I1,r1,q1⟩=>ho pins s1 σ H1 x v Q I1 r1 q1)⟩
def rC {r:R2}(ho:BD X (compareOp op) r)(ha:QE X a ta)(hb:QE X b tb)(hm:behindInMarks op b=false):QE X (.Compare a [op] [b] pos) (BX r ta tb):=⟨by
 have ha:=ha.h;have hb:=hb.h;intro pins s σ H Q I h;exact wpAny_Compare1 (UN ha hb I h fun v u s2 x y H2 I2 rx ry q=>ho pins s2 σ H2 x y v u Q I2 rx ry q) hm⟩
def fJ {r:R2}(ho:BD X (compareOp op) r)(ha:QE X a ta)(hb:QE X b tb)(hm:behindInMarks op b=false):QT X (.Compare a [op] [b] pos) (IZ (BX r ta tb)):=⟨pZ ho ha.h hb.h hm⟩
def p8 {r r':R2}(ho:BD X (compareOp op) r)(EN:BD X (compareOp Er) r')(ha:QE X a ta)(hb:QE X b tb)(hc:QE X c tc)
  (hm:lastMarks [op,Er] [b,c]=false:=by with_unfolding_all rfl):QE X (.Compare a [op,Er] [b,c] pos) (OJ r r' ta tb tc):=⟨by
 have ha:=ha.h;have hb:=hb.h;have hc:=hc.h;intro pins s σ H Q I h;refine Compare_chain (AL (ha pins s σ H _ I h) fun v s1 ⟨x,H1,I1,r1,q1⟩=>chain_link (AL (hb pins s1 σ H1 _ I1 q1) fun u s2 ⟨y,H2,I2,r2,q2⟩=>
  AL (ho pins s2 σ H2 x y v u _ I2 r1 r2 q2) fun d s3 ⟨z,H3,I3,r3,k,e,q3⟩=>?_)) hm
 subst e;cases r3;refine pT ?_;cases k with
 | false=>exact ite_ff ⟨.bl false,H3,I3,rfl,q3⟩
 | true=>exact ite_tt (chain_last (AL (hc pins s3 σ H3 _ I3 q3) fun w' s4 ⟨z',H4,I4,r4,q4⟩=>EN pins s4 σ H4 y z' u w' Q I4 r2 r4 q4))⟩
def ZB7 {r r':R2}(ho:BD X (compareOp op) r)(EN:BD X (compareOp Er) r')(ha:QE X a ta)(hb:QE X b tb)(hc:QE X c tc)
  (hm:lastMarks [op,Er] [b,c]=false:=by with_unfolding_all rfl):QT X (.Compare a [op,Er] [b,c] pos) (IZ (OJ r r' ta tb tc)):=⟨by
 have ha:=ha.h;have hb:=hb.h;have hc:=hc.h;intro pins s σ H Q I h;refine isTrue_chain (AL (ha pins s σ H _ I h) fun v s1 ⟨x,H1,I1,r1,q1⟩=>test_link (AL (hb pins s1 σ H1 _ I1 q1) fun u s2 ⟨y,H2,I2,r2,q2⟩=>
  AL (ho pins s2 σ H2 x y v u _ I2 r1 r2 q2) fun d s3 ⟨z,H3,I3,r3,k,e,q3⟩=>?_)) hm
 subst e;cases r3;refine pT ?_;cases k with
 | false=>
  obtain ⟨k',e',q'⟩:=q3;cases e';exact ite_ff ⟨H3,I3,q'⟩
 | true=>
  refine ite_tt (test_last (AL (hc pins s3 σ H3 _ I3 q3) fun w' s4 ⟨z',H4,I4,r4,q4⟩=>AL (EN pins s4 σ H4 y z' u w' _ I4 r2 r4 q4) fun d' s5 ⟨z2,H5,I5,r5,k2,e2,q5⟩=>?_));subst e2;cases r5;exact pT ⟨H5,I5,q5⟩⟩
def KI {op}(h:QE X a ta):QE X (.BoolOp op [a] pos) ta:=⟨by have h:=h.h;exact fun pins s σ H Q I hw=>BoolOp_one (h pins s σ H Q I hw)⟩
def GW (ha:QE X a ta)(hb:QE X (.BoolOp .And (b::rest) pos) tb):QE X (.BoolOp .And (a::b::rest) pos) (Vz ta tb):=⟨by
 have ha:=ha.h;have hb:=hb.h;intro pins s σ H Q I h;refine BoolOp_and (AL (ha pins s σ H _ I h) fun v s1 ⟨x,H1,I1,r1,q1⟩=>?_);obtain ⟨c,rfl,q1⟩:=q1;cases r1;refine pT ?_;cases c with
 | true=>exact hb pins s1 σ H1 Q I1 q1
 | false=>exact ⟨.bl false,H1,I1,rfl,q1⟩⟩
def zR (ha:QE X a ta):QE X (.UnaryOp .Not a pos) (Us ta):=⟨by
 have ha:=ha.h;intro pins s σ H Q I h;refine UnaryOp_ (AL (ha pins s σ H _ I h) fun v s1 ⟨x,H1,I1,r1,q1⟩=>?_);obtain ⟨c,rfl,q1⟩:=q1;cases r1;exact not_of (pT ⟨.bl (!c),H1,I1,rfl,q1⟩)⟩
def Ql (ha:QT X a tA):QW X (.BoolOp .And [a] pos) tA:=⟨by
 have ha:=ha.h;intro wh pins s σ H Q I h;refine isTrue_and (AL (ha pins s σ H Q I h) fun c s1 e=>?_);cases c with
 | true=>exact isTrue_and_nil e
 | false=>exact e⟩
def Iy (ha:QT X a tA):QW X (.BoolOp .Or [a] pos) tA:=⟨by
 have ha:=ha.h;intro wh pins s σ H Q I h;refine isTrue_or (AL (ha pins s σ H Q I h) fun c s1 e=>?_);cases c with
 | false=>exact isTrue_or_nil e
 | true=>exact e⟩
def Rx (ha:QT X a tA)(hb:QW X (.BoolOp .And (b::rest) pos) IS):QW X (.BoolOp .And (a::b::rest) pos) (QL tA IS):=⟨by
 have ha:=ha.h;have hb:=hb.h;intro wh pins s σ H Q I h;refine isTrue_and (AL (ha pins s σ H _ I h) fun c s1 ⟨H1,I1,q1⟩=>?_);cases c with
 | true=>exact hb wh pins s1 σ H1 Q I1 q1
 | false=>exact ⟨H1,I1,q1⟩⟩
def Iv (ha:QT X a tA)(hb:QW X (.BoolOp .Or (b::rest) pos) IS):QW X (.BoolOp .Or (a::b::rest) pos) (QZ tA IS):=⟨by
 have ha:=ha.h;have hb:=hb.h;intro wh pins s σ H Q I h;refine isTrue_or (AL (ha pins s σ H _ I h) fun c s1 ⟨H1,I1,q1⟩=>?_);cases c with
 | true=>exact ⟨H1,I1,q1⟩
 | false=>exact hb wh pins s1 σ H1 Q I1 q1⟩
theorem QW.pt {t:TT}(h:QW X e t):QT X e t:=⟨h.h.pt⟩
def Lp (ha:QT X a tA):QT X (.UnaryOp .Not a pos) (UL tA):=⟨by
 have ha:=ha.h;intro pins s σ H Q I h;exact isTrue_not (ha pins s σ H (fun c H1=>Q (!c) H1) I h)⟩
def K0 (h:QE X e te)(he:∀ whole,isTrue e X.env whole=(do let v <- whole;standAt e.pos;holding [v] (truthy v)):=by intro _;rfl):QT X e (tB te):=⟨by
 have h:=h.h;intro pins s σ H Q I hw;refine isTrue_plain (AL (h pins s σ H _ I hw) fun v s1 ⟨x,H1,I1,r1,q1⟩=>?_) (he _);obtain ⟨d,rfl,q⟩:=q1;cases r1;exact pT ⟨H1,I1,q⟩⟩
def A5:QA X [] BV:=⟨fun _ _ _ _ H Q I h=>Calls.spliced_nil ⟨[],H,I,.nil,h⟩⟩
def A0 (ha:QE X e te)(hr:QA X es t)(hs:starEach (e::es) X.env=(false,eval e X.env)::starEach es X.env:=by rfl):QA X (e::es) (Ap te t):=⟨kS ha.h hr.h hs⟩
def Bl {x1}(h:QA X es t):QE X (.Tuple es x1 pos) (Mw t):=⟨wC h.h⟩
def C2 (h:QA X es t):QE X (.List es pos) (Q8 t):=⟨p5 h.h⟩
def C6:QO X none IG:=⟨by
 intro pins s σ H Q I h;rw [evalPart_none];exact jx ⟨none,H,I,.none,h⟩⟩
def CP (h:QE X e te):QO X (some e) (IK te):=⟨by
 have h:=h.h;intro pins s σ H Q I hw;rw [evalPart_some];refine AL (h pins s σ H _ I hw) fun u s1 ⟨x,H1,I1,r1,q1⟩=>?_;obtain ⟨i,rfl,q⟩:=q1;obtain ⟨t,rfl⟩:=r1;exact ⟨some i,H1,I1,.int i t,q⟩⟩
def CK {r:V->Option Int->Option Int->Hp->VK->Prop}{lo hi:Option Expr}{tl th:TO}(hr:KC X r)(he:QE X e te)(hl:QO X lo tl)(hu:QO X hi th):QE X (.Subscript e (.Slice lo hi none p2) pos) (Hj r te tl th):=⟨by
 have he:=he.h;have hl:=hl.h;have hu:=hu.h;intro pins s σ H Q I h;refine Subscript_ (AL (he pins s σ H _ I h) fun v s1 ⟨x,H1,I1,r1,q1⟩=>?_);refine wpAny_Slice (AL (hl pins s1 σ H1 _ I1 q1) fun vl s2 ⟨l,H2,I2,pl,q2⟩=>AL (hu pins s2 σ H2 _ I2 q2) fun vu s3 ⟨u,H3,I3,pu,q3⟩=>?_);rw [evalPart_none];refine jx ?_;have I4:Inv X pins σ H3 { s3 with heap:=s3.heap.push { cls:=.type "slice", data:=.fields #[vl,vu,.none] } }:=I3.kept (t':=s3.toks) fun b ob q=>BQ _ q
 obtain ⟨T,id,hT,ht,hg⟩:=hr pins { s3 with heap:=s3.heap.push { cls:=.type "slice", data:=.fields #[vl,vu,.none] } } σ H3 x v vl vu l u s3.heap.objs.size Q I4 r1 (Heap.IsSliceOf.new ..) pl pu q3
 show wpAny (model X.prog X.w) X.A (subscriptTail e (.Slice lo hi none p2) v (.ref s3.heap.objs.size)) (EP X pins σ Q) X.xe { s3 with heap:=s3.heap.push { cls:=.type "slice", data:=.fields #[vl,vu,.none] } }
 exact tail_any (ops:=[.ref s3.heap.objs.size,v]) ht hT hg (by with_unfolding_all rfl)⟩
def ZAq {r:R2}(hr:Cz X r)(ha:QE X a ta)(hb:QE X b tb)(hs:XE b):QE X (.Subscript a b pos) (BX r ta tb):=⟨by
 have ha:=ha.h;have hb:=hb.h;intro pins s σ H Q I h;exact Subscript_ (UN ha hb I h fun v u s2 x y H2 I2 rx ry q=>hr a b pins s2 σ H2 x y v u Q I2 rx ry q (hs _ _))⟩
def tZ {k:Nat}(h:AD X.prog X.w X.K X.mg X.base x k ps sp)(hr:Bq j X.A)(hk:k<=j)(ha:QA X (e::es) t)(hg:Gl X x:=by rfl)(Cw:(x == ("__debug__":Str))=false:=by decide)
  (he:starEach (e::es) X.env=(false,eval e X.env)::starEach es X.env:=by rfl) (Bz:(backTo pos (starEach es X.env)).any (·.1)=false:=by rfl):QE X (.Call (.Name x p) (e::es) [] pos) (Ef sp [] E0 t):=⟨by
 have ha:=ha.h;obtain ⟨f,fd,F,b,kp,m⟩:=h;exact qR (F.mono hk) hr hg m kp b .nil PJ ha Cw he Bz⟩
def xU {id:String}(hc:CJ X (.builtin id) r)(hg:Gl X x)(hm:X.mg x=none)(hv:bootBuiltins x=some (.builtin id))(ha:QA X (e::es) t)(hn:x ≠ "__name__" := by decide)(Cw:(x == ("__debug__":Str))=false:=by decide)
  (he:starEach (e::es) X.env=(false,eval e X.env)::starEach es X.env:=by rfl) (Bz:(backTo pos (starEach es X.env)).any (·.1)=false:=by rfl):QE X (.Call (.Name x p) (e::es) [] pos) (D7 r t):=⟨by
 have ha:=ha.h;intro pins s σ H Q I h;refine qN (Iq I hg hm hv ?_ hn Cw);exact PyProof.Rows.callWith_builtin1 (AL (ha pos pins s σ H _ I h) fun us s1 ⟨vs,H1,I1,r1,q1⟩=>hc pins s1 σ H1 vs us Q I1 r1 q1) he Bz⟩
def zI (hc:CJ X (.type T) r)(hg:Gl X x)(hm:X.mg x=none)(hv:bootBuiltins x=some (.type T))(ha:QA X (e::es) t)(hn:x ≠ "__name__" := by decide)(Cw:(x == ("__debug__":Str))=false:=by decide)
  (he:starEach (e::es) X.env=(false,eval e X.env)::starEach es X.env:=by rfl) (Bz:(backTo pos (starEach es X.env)).any (·.1)=false:=by rfl):QE X (.Call (.Name x p) (e::es) [] pos) (D7 r t):=⟨by
 have ha:=ha.h;intro pins s σ H Q I h;refine qN (Iq I hg hm hv ?_ hn Cw);exact Mj (AL (ha pos pins s σ H _ I h) fun us s1 ⟨vs,H1,I1,r1,q1⟩=>hc pins s1 σ H1 vs us Q I1 r1 q1) he Bz⟩
def fU {id:String}{r:V->List V->Hp->VK->Prop}(pa:PlainAttrs T)(slot:Slot T name id)(Kw:typeOf (.builtin id)=pure (.type "method_descriptor"))(hm:Gz X id r)(ho:QE X o to)
  (Kx:attributeBase o name X.env (eval o X.env)=eval o X.env:=by rfl) (L8:(apos.endLine == Cu.line)=true:=by rfl):QE X (.Call (.Attribute o name apos) [] [] Cu) (RI X.K T r to):=⟨by
 have ho:=ho.h;intro pins s σ H Q I h;refine wpAny_Call_method0_late Kx L8 (AL (ho pins s σ H _ I h) fun v s1 ⟨x,H1,I1,r1,ty,q1⟩=>?_);obtain ⟨h1,h2⟩:=ia I1 r1 ty;exact ⟨T,id,pa,slot,Kw,h1,h2,ZCd rfl (PySem.evalArgs_none (hm pins s1 σ H1 x [] v [] Q I1 r1 .nil q1))⟩⟩
def HK {id:String}{r:V->List V->Hp->VK->Prop}(pa:PlainAttrs T)(slot:Slot T name id)(Kw:typeOf (.builtin id)=pure (.type "method_descriptor"))(hm:Gz X id r)(ho:QE X o to)(ha:QA X (e::es) t)
  (Kx:attributeBase o name X.env (eval o X.env)=eval o X.env:=by rfl)
  (TU:((backTo Cu (starEach (e::es) X.env)).all (fun x=>!x.1) && (backToKw Cu (keywordEach [] X.env)).all (fun x=>x.1.isSome)
   && decide ((e::es).length+([]:List Keyword).length+(if ([]:List Keyword).isEmpty then 0 else 1)<30))=true:=by rfl)
  (L8:(apos.endLine == Cu.line)=true:=by rfl) (hs:starEach (e::es) X.env=(false,eval e X.env)::starEach es X.env:=by rfl) (WZ:(backTo Cu (starEach es X.env)).any (·.1)=false:=by rfl) :
  QE X (.Call (.Attribute o name apos) (e::es) [] Cu) (Jf X.K T r to t):=⟨by
 have ho:=ho.h;have ha:=ha.h;intro pins s σ H Q I h;refine wpAny_Call_method_late Kx TU L8 rfl (AL (ho pins s σ H _ I h) fun v s1 ⟨x,H1,I1,r1,ty,q1⟩=>?_);obtain ⟨h1,h2⟩:=ia I1 r1 ty;refine ⟨T,id,pa,slot,Kw,h1,h2,?_⟩;have hA:=ha Cu pins s1 σ H1 _ I1 q1;rw [hs] at hA ⊢;refine ZCd (by show (false || (backTo Cu (starEach es X.env)).any (·.1))=false;rw [WZ] <;> rfl) (Calls.evalArgs_plain ?_)
 exact AL hA fun us s2 ⟨vs,H2,I2,r2,q2⟩=>hm pins s2 σ H2 x vs v us Q I2 r1 r2 q2⟩
variable {elt iter:Expr}{scope:Scope}{AI:List Str}{js:List Nat}
def Bv (hl:QE X l tl):QI X tg l (O8 X.K tl):=⟨by
 have hl:=hl.h;intro pins s σ H R I h;refine AL (hl pins s σ H _ I h) fun v s1 ⟨x,H1,I1,r1,q1⟩=>?_;obtain ⟨tp,a,xs,e,hq,q⟩:=q1;subst e;cases r1;have fin:∀ b∈[s1.heap.objs.size],EV X pins H1 b:=fun b hb=>by
  have e:b=s1.heap.objs.size:=by simpa using hb
  subst e;exact I1.L7 (Ai _) (I1.AK.fresh (Ai _))
 cases tp with
 | false=>
  obtain ⟨A3,rv,p,hz⟩:=I1.list hq;refine xS p.isList ?_;exact ⟨s1.heap.objs.size,[s1.heap.objs.size],_,_,H1,rfl,I1.kept (t':=s1.toks) fun b o e=>BQ _ e,yT a _ xs,⟨_,Ba _ rfl,rfl,rfl⟩,fin,q⟩
 | true=>
  obtain ⟨A3,rv,p,hz⟩:=I1.tuple hq;refine ZAP (show s1.heap.IsTuple a A3.toArray from p) ?_;exact ⟨s1.heap.objs.size,[s1.heap.objs.size],_,_,H1,rfl,I1.kept (t':=s1.toks) fun b o e=>BQ _ e,yd a _ xs,⟨_,Ba _ rfl,rfl,rfl⟩,fin,q⟩⟩
def pe (hl:QE X l tl):QI X tg l (cP tl):=⟨by
 have hl:=hl.h;intro pins s σ H R I h;refine AL (hl pins s σ H _ I h) fun v s1 ⟨x,H1,I1,r1,q1⟩=>?_;obtain ⟨z,e,q⟩:=q1;subst e;obtain ⟨t,rfl⟩:=r1;have fin:∀ b∈[s1.heap.objs.size],EV X pins H1 b:=fun b hb=>by
  have e:b=s1.heap.objs.size:=by simpa using hb
  subst e;exact I1.L7 (Ai _) (I1.AK.fresh (Ai _))
 have kp:∀ (ob:Obj),Inv X pins σ H1 { s1 with heap:=s1.heap.push ob }:=fun ob=>I1.kept (t':=s1.toks) fun b o e=>BQ _ e
 cases ha:z.cps.all (· < 128)
 ·refine wpAny_pyIter_wide ha ?_;exact ⟨s1.heap.objs.size,[s1.heap.objs.size],_,_,H1,rfl,kp _,iA (t:=t) (by decide) (fun A' hA=>Walks.strWide hA _ z t) (fun _ _ _ _ _ st h=>wpAny_pyIter_striter_wide st h),⟨_,Ba _ rfl,rfl,rfl⟩,fin,q⟩
 ·refine wpAny_pyIter_ascii ha ?_;exact ⟨s1.heap.objs.size,[s1.heap.objs.size],_,_,H1,rfl,kp _,iA (t:=t) (by decide) (fun A' hA=>Walks.strAscii hA _ z t) (fun _ _ _ _ _ st h=>wpAny_pyIter_striter_ascii st h),⟨_,Ba _ rfl,rfl,rfl⟩,fin,q⟩⟩
def Kh {ta:TA}(hg:Gl X "range")(hm:X.mg "range"=none)(ha:QA X [a] ta)(hs:starEach [a] X.env=[(false,eval a X.env)]:=by rfl):QI X tg (.Call (.Name "range" p) [a] [] pos) (Vo ta):=⟨by
 have ha:=ha.h;intro pins s σ H R I h;refine Call_ (Iq I hg hm boot_range (Mj (AL (ha pos pins s σ H _ I h) fun us s1 ⟨vs,H1,I1,r1,q1⟩=>?_) hs rfl));obtain ⟨j,e,q1,q2,q⟩:=q1;subst e;cases r1 with
 | cons r rr=>
  cases rr;obtain ⟨t,rfl⟩:=r;exact call_range_1 (Zf I1 (by omega) (by omega) q1 q2 (by simpa using q))⟩
def E6:L5 X [] Sn:=⟨fun pins s σ H Q I h=>by
 rw [SI];exact jx ⟨H,I,h⟩⟩
def Jw {t:TT}(hc:QT X c t):L5 X [c] t:=⟨vJ hc.h⟩
def El (hc:X.calm=true)(S:Cc X.N X.env.scope scope x AI js)(hi:QI X (.Name x px) iter wi)
  (Ci:∀ fp C s H,L5 (EX X (AI++[x]) scope (Bi X.env.cells scope.names) C s H fp) ifs tt) (Cj:∀ fp C s H,QE (EX X (AI++[x]) scope (Bi X.env.cells scope.names) C s H fp) elt te)
  (hs:∀ v,foldedSetIterable iter X.env v=pure v:=by intro _;rfl):QE X (.ListComp elt [⟨.Name x px,iter,ifs,0⟩] scope pos) (JS wi js tt te):=⟨jk hc S hi.h (fun fp C s H=>(Ci fp C s H).h) (fun fp C s H=>(Cj fp C s H).h) hs⟩
def Oj {py FI:Pos}(hN:X.N.Nodup)(CV:X.N[i]?=some y)(hy:Loc X.env.scope y)(hc:X.calm=true)(S:Cc X.N X.env.scope scope x AI js)(hi:QI X (.Name x px) iter wi)
  (Ci:∀ fp C s H,L5 (EX X (AI++[x]) scope (Bi X.env.cells scope.names) C s H fp) ifs tt) (Cj:∀ fp C s H,QE (EX X (AI++[x]) scope (Bi X.env.cells scope.names) C s H fp) elt te)
  (IX:swapsWith (.ListComp elt [⟨.Name x px,iter,ifs,0⟩] scope pos) (some (.Name y py)) FI.line X.env=pure true:=by rfl)
  (hf:X.fn y=true∨X.env.scope.names.lookup y=some .local:=by first | exact .inl rfl | exact .inr rfl | assumption)
  (hs:∀ v,foldedSetIterable iter X.env v=pure v:=by intro _;rfl):QS X (.Assign [.Name y py] (.ListComp elt [⟨.Name x px,iter,ifs,0⟩] scope pos) FI) (EE (JS wi js tt te) (CO i)):=
 ⟨vU hN CV hy hc S hi.h (fun fp C s H=>(Ci fp C s H).h) (fun fp C s H=>(Cj fp C s H).h) IX hf hs⟩
def mG (hN:X.N.Nodup)(hi:X.N[i]?=some x)(hx:Loc X.env.scope x)(hf:X.fn x=true∨X.env.scope.names.lookup x=some .local:=by first | exact .inl rfl | exact .inr rfl | assumption):QG X (.Name x pos) (CO i):=⟨Uw hN hi hx hf⟩
def Mn:P8 X [] LR:=⟨cY⟩
def GG {t:TG}{u:Gn}(h1:QG X e t)(h2:P8 X es u)
  (hs:(assignEach (e::es) X.env).map (·.2)=assign e X.env::(assignEach es X.env).map (·.2):=by rfl):P8 X (e::es) (Gm t u):=⟨gF h1.h h2.h hs⟩
def Na {k:Nat}{t:Gn}(hc:X.calm=true)(h:P8 X es t)(hn:(assignEach es X.env).length=n:=by rfl)(Cb:(assignEach es X.env).findIdx? (·.1)=none:=by rfl):QG X (.Tuple es k pos) (Kj X.K n t):=⟨dq hc h.h hn Cb⟩
def b6 {i:Expr}{ti:TE}{t:LW}(ho:QE X o to)(hi:QE X i ti)(hs:R8 X t)
  (ha:∀ v,assign (.Subscript o i pos) X.env v=(do
   let ov <- holding [v] (eval o X.env)
   let iv <- holding [v,ov] (eval i X.env)
   standAt pos
   holding [v,ov,iv] (setItem ov iv v)
   release [v,ov,iv] []):=by intro _;rfl):QG X (.Subscript o i pos) (gz to ti t):=⟨by
 have ho:=ho.h;have hi:=hi.h;intro pins s σ H v u Q I r h;rw [ha];refine ji (q8 (AL (ho pins s σ H _ I h) fun ov s1 ⟨x,H1,I1,r1,q1⟩=>?_));refine ji (q8 (AL (hi pins s1 σ H1 _ I1 q1) fun iv s2 ⟨y,H2,I2,r2,q2⟩=>?_));refine ji (wpAny_standAt (ji (q8 (AL (hs pins s2 σ H2 x y v ov iv u _ I2 r1 r2 r q2) fun _ s3 ⟨H3,I3,q3⟩=>?_))));exact wpAny_release ⟨σ,H3,I3,q3⟩⟩
end
section
variable {st:Stmt}{u:TS}
def B6:Iu X [] YJ:=⟨fun _ _ σ H _ I h=>ZAD ⟨σ,H,I,h⟩⟩
def AE (e:body=st::rest)(h:QS X st t)(h2:Iu X rest u):Iu X body (Om t u):=⟨we e h.h h2.h⟩
def AG (e:body=[st])(h:QS X st t):Iu X body t:=⟨by have h:=h.h;rw [e];exact ZCC h⟩
def JO:QS X st fH:=⟨fun _ _ _ _ _ _ h=>h.elim⟩
def Dz (he:QE X e te)(hs:swapsWith e none pos.line X.env=pure false:=by rfl):QS X (.Expr e pos) (HQ te):=⟨by
 have he:=he.h;intro pins s σ H D I h;exact wpAny_Expr_any (AL (he pins s σ H _ I h) fun v s1 ⟨x,H1,I1,r1,q1⟩=>⟨σ,H1,I1,q1⟩) I.quiet hs⟩
def Aj (he:QE X e te):QS X (.Return (some e) pos) (J6 te):=⟨by
 have he:=he.h;intro pins s σ H D I h;exact wpAny_Return_some (AL (he pins s σ H _ I h) fun v s1 ⟨x,H1,I1,r1,q1⟩=>⟨x,σ,H1,I1,r1,q1⟩)⟩
def ZAY:QS X (.Return none pos) Vk:=⟨fun _ _ σ H _ I h=>wpAny_Return_none ⟨.AB,σ,H,I,rfl,h⟩⟩
def B4 {a b:List Stmt}(hc:QT X c tc)(ha:Iu X a t)(hb:Iu X b u):QS X (.If c a b pos) (W6 tc t u):=⟨by
 have hc:=hc.h;have ha:=ha.h;have hb:=hb.h;intro pins s σ H D I h;refine wpAny_If (AL (hc pins s σ H _ I h) fun d s1 ⟨H1,I1,q1⟩=>?_);cases d with
 | true=>exact ha pins s1 σ H1 D I1 q1
 | false=>exact hb pins s1 σ H1 D I1 q1⟩
def Rv (he:QE X e te)(hg:QG X tg g)(hs:swapsWithSole [tg] e pos.line X.env=pure false:=by rfl)(hw:swappedStores [tg] e X.env=pure none:=by rfl)
  (h1:(assignEach [tg] X.env).map (·.2)=[assign tg X.env]:=by rfl):QS X (.Assign [tg] e pos) (EE te g):=⟨by
 have he:=he.h;have hg:=hg.h;intro pins s σ H D I h;refine wpAny_Assign_stores (AL (he pins s σ H _ I h) fun v s1 ⟨x,H1,I1,r1,q1⟩=>?_) hs hw;rw [h1];exact AL (hg pins s1 σ H1 x v _ I1 r1 q1) fun _ s2 q=>q⟩
def pX (hN:X.N.Nodup)(hi:X.N[i]?=some x)(hx:Loc X.env.scope x)(he:QE X e te)(hs:swapsWith e (some (.Name x pos')) pos.line X.env=pure false:=by rfl)(hf:X.fn x=true∨X.env.scope.names.lookup x=some .local:=by first | exact .inl rfl | exact .inr rfl | assumption):
  QS X (.Assign [.Name x pos'] e pos) (EE te (CO i)):=⟨by
 have he:=he.h;intro pins s σ H D I h;refine wpAny_Assign_Name (AL (he pins s σ H _ I h) fun v s1 ⟨y,H1,I1,r1,q1⟩=>?_) hs;exact bP I1 hN hi hx r1 (fun s2 I2=>⟨_,H1,I2,q1⟩) hf⟩
def NY (hp:PassesOwn (model X.prog X.w) X.A X.env X.xe)(hc:QT X c tc)(hb:Iu X body tb):QS X (.While c body [] pos) (VO tc tb):=⟨by
 have hc:=hc.h;have hb:=hb.h;intro pins s σ H D I h;obtain ⟨W,⟨m0,w0⟩,turn⟩:=h;refine wpAny_While (codeAny_whileLoop (fun n s'=>∃ σ' H',Inv X pins σ' H' s'/\W n σ' H') ?_ m0 ⟨σ,H,I,w0⟩);rintro n s1 ⟨σ1,H1,I1,w1⟩;refine sX hp (AL (hc pins s1 σ1 H1 _ I1 (turn n σ1 H1 w1)) fun b s2 ⟨H2,I2,q2⟩=>?_);cases b with
 | true=>
  obtain ⟨N,hN,q2⟩:=q2;rw [mZ rfl];refine sX hp (AL (hb pins s2 σ1 H2 _ I2 q2) fun f s3 q3=>?_);cases f with
  | next=>
   obtain ⟨σ3,H3,I3,n3⟩:=q3;obtain ⟨m',hm,w3⟩:=hN σ3 H3 n3;exact ⟨m',hm,σ3,H3,I3,w3⟩
  | cont=>
   obtain ⟨σ3,H3,I3,n3⟩:=q3;obtain ⟨m',hm,w3⟩:=hN σ3 H3 n3;exact ⟨m',hm,σ3,H3,I3,w3⟩
  | brk=>exact q3
  | ret v=>exact q3
 | false=>
  rw [k6 Cr];exact ZAD ⟨σ1,H2,I2,q2⟩⟩
def DC {iter:Expr}(hp:PassesOwn (model X.prog X.w) X.A X.env X.xe)(hc:X.calm=true)(hi:QI X tg iter wi)(hg:QG X tg g)(hb:Iu X body tb)
  (hs:∀ x,foldedSetIterable iter X.env x=pure x:=by intro _;rfl):QS X (.For tg iter body [] pos) (Qn wi g tb):=⟨by
 have hi:=hi.h;have hg:=hg.h;have hb:=hb.h;intro pins s σ H D I h;refine wpAny_For (AL (hi pins s σ H _ I h) fun v s1 h1=>AL h1 fun Py s2 h2=>?_) hs;obtain ⟨it,fp,tn,J,H2,e,I2,T,JJ,f2,W,⟨m0,w0⟩,turn⟩:=h2;subst e
 -- zJ stays true of Gx ZDv objects through Gx loop
 have KH:∀ {H':Hp},(∀ b∈fp,H' b=none)->∀ b∈fp,EV X pins H' b:=fun hn b hb=>⟨hn b hb,(f2 b hb).2⟩;refine codeAny_forLoop_any (fun n s'=>∃ i σ' H',Inv X pins σ' H' s'/\tn i s'.heap/\(∀ b∈fp,H' b=none)/\W i n σ' H') ?_ m0 ⟨0,σ,H2,I2,JJ,fun b hb=>(f2 b hb).1,w0⟩;rintro n s3 ⟨i,σ3,H3,I3,i7,ZS,w3⟩;rcases turn i n σ3 H3 w3 with ⟨stop,qn⟩ | ⟨go,N,hN,step⟩
 ·refine sX hp (AL (T.done X rfl rfl rfl hc i pins s3 σ3 H3 X.xe I3 (KH ZS) i7 stop) fun r s4 ⟨hr,I4⟩=>?_);subst hr;exact ZAD ⟨σ3,H3,I4,qn⟩
 ·refine sX hp (AL (T.item X rfl rfl rfl hc i pins s3 σ3 H3 X.xe I3 (KH ZS) i7 go) fun r s4 ⟨u,hr,h4⟩=>?_);subst hr;refine sX hp (AL h4 fun _ s5 ⟨x,H5,I5,r5,y5,MC,P9⟩=>?_);have xi:=I5.pinned (KH P9) (T.obj _ _ MC);refine sX hp (AL (hg _ s5 σ3 H5 x u _ xi r5 (step x H5 y5)) fun _ s6 ⟨σ6,H6,I6,q6⟩=>?_);refine sX hp (AL (hb _ s6 σ6 H6 _ I6 q6) fun f s7 q7=>?_);have again:∀ {σ7:St} {H7:Hp},Inv X (pins++Mo fp s5.heap) σ7 H7 s7->N σ7 H7->∃ m,m<n/\∃ i σ' H',Inv X pins σ' H' s7/\tn i s7.heap/\(∀ b∈fp,H' b=none)/\W i m σ' H':=fun {σ7 H7} I7 n7=>by
   obtain ⟨m',hm,w7⟩:=hN σ7 H7 n7;refine ⟨m',hm,i+1,σ7,H7,I7.Mp,T.keep _ _ _ MC fun b hb o e=>(I7.pin (b,o) (Hu _ (Hu _ (Qq hb e)))).1,fun b hb=>?_,w7⟩;obtain ⟨o,e,d⟩:=T.obj _ _ MC b hb;exact (I7.pin (b,o) (Hu _ (Hu _ (Qq hb e)))).2.1
  cases f with
  | next=>obtain ⟨σ7,H7,I7,n7⟩:=q7;exact again I7 n7
  | cont=>obtain ⟨σ7,H7,I7,n7⟩:=q7;exact again I7 n7
  | brk=>obtain ⟨σ7,H7,I7,q7⟩:=q7;exact ⟨σ7,H7,I7.Mp,q7⟩
  | ret v=>obtain ⟨x7,σ7,H7,I7,r7,q7⟩:=q7;exact ⟨x7,σ7,H7,I7.Mp,r7,q7⟩⟩
def C0 (h:QS X st t):QS X st (Tj t):=⟨by
 have h:=h.h;intro pins s σ H D I hw;obtain ⟨J,h1,h2⟩:=hw;refine AL (h pins s σ H _ I h1) fun f s' q=>?_;cases f with
 | next=>obtain ⟨σ',H',I',q⟩:=q;exact ⟨σ',H',I',h2 σ' H' q⟩
 | ret v=>exact q
 | brk=>exact q
 | cont=>exact q⟩
end
def AR.BR {P:Program}{K:ZE6}{mg:ZE8}{base:Heap}{qual:Str}{st:Stmt}{fd:FuncData}{N:List Str}{k:Nat}(F:AR K x qual st f fd)(S:BM N ps (Ad st))(len:∀ vs H Q E,sp vs H Q E->vs.length=ps.length)
  (OA:∀ (Ae:Value) (A:Around) (outer:List Env) (s:Shared) (H:Hp) (vs:List V) (Q:VK) (E:XK),Bq k (A.deeper (envOfC qual (Ad st) s.heap.objs.size f Ae))->sp vs H Q E->
   ∃ t,Iu (K4 FU P w K mg base N qual (Ad st) f Ae A outer s H E).Oi (Jy st) t/\t { nx:=fun _ H'=>Q .AB H',rt:=Q } (start N vs) H):DD P w K mg base FU (k+1) f fd ps sp:=
 F.ok S len fun Ae A outer s H vs Q E hr h=>let ⟨t,q,r⟩:=OA Ae A outer s H vs Q E hr h;⟨t,q.h,r⟩
section
variable {b:Expr}{tb:TE}{t:TA}
def Bm {id:String}(hc:CJ X (.builtin id) r)(hm:X.mg x=none)(ha:QA X (e::es) t)(hg:Gl X x:=by rfl)(hv:bootBuiltins x=some (.builtin id):=by decide +kernel)(hn:x ≠ "__name__" := by decide)(Cw:(x == ("__debug__":Str))=false:=by decide)
  (he:starEach (e::es) X.env=(false,eval e X.env)::starEach es X.env:=by rfl) (Bz:(backTo pos (starEach es X.env)).any (·.1)=false:=by rfl):QE X (.Call (.Name x p) (e::es) [] pos) (D7 r t):=xU hc hg hm hv ha hn Cw he Bz
def Ea (hc:CJ X (.type T) r)(hm:X.mg x=none)(ha:QA X (e::es) t)(hg:Gl X x:=by rfl)(hv:bootBuiltins x=some (.type T):=by decide +kernel)(hn:x ≠ "__name__" := by decide)(Cw:(x == ("__debug__":Str))=false:=by decide)
  (he:starEach (e::es) X.env=(false,eval e X.env)::starEach es X.env:=by rfl) (Bz:(backTo pos (starEach es X.env)).any (·.1)=false:=by rfl):QE X (.Call (.Name x p) (e::es) [] pos) (D7 r t):=zI hc hg hm hv ha hn Cw he Bz
def AO {r:R2}(hr:Cz X r)(ha:QE X a ta)(hb:QE X b tb)(hs:XE b:=by exact fun _ _=>rfl):QE X (.Subscript a b pos) (BX r ta tb):=ZAq hr ha hb hs
def AW {k:Nat}(h:AD X.prog X.w X.K X.mg X.base x k ps sp)(hr:Bq j X.A)(ha:QA X (e::es) t)(hk:k<=j:=by decide)(hg:Gl X x:=by rfl)(Cw:(x == ("__debug__":Str))=false:=by decide)
  (he:starEach (e::es) X.env=(false,eval e X.env)::starEach es X.env:=by rfl) (Bz:(backTo pos (starEach es X.env)).any (·.1)=false:=by rfl):QE X (.Call (.Name x p) (e::es) [] pos) (Ef sp [] E0 t):=tZ h hr hk ha hg Cw he Bz
def EG {r:R2}(ho:BD X (compareOp op) r)(ha:QE X a ta)(hb:QE X b tb)(hm:behindInMarks op b=false:=by first | exact iP _ | with_unfolding_all rfl):QE X (.Compare a [op] [b] pos) (BX r ta tb):=rC ho ha hb hm
def Al {r:R2}(ho:BD X (compareOp op) r)(ha:QE X a ta)(hb:QE X b tb)(hm:behindInMarks op b=false:=by first | exact iP _ | with_unfolding_all rfl):QT X (.Compare a [op] [b] pos) (IZ (BX r ta tb)):=fJ ho ha hb hm
def Af (i:Nat)(hN:X.N.Nodup)(he:QE X e te)(hi:X.N[i]?=some x:=by rfl)(hx:Loc X.env.scope x:=by first | exact Or.inl rfl | exact Or.inr rfl)(hs:swapsWith e (some (.Name x pos')) pos.line X.env=pure false:=by rfl)(hf:X.fn x=true∨X.env.scope.names.lookup x=some .local:=by first | exact .inl rfl | exact .inr rfl | assumption):
  QS X (.Assign [.Name x pos'] e pos) (EE te (CO i)):=pX hN hi hx he hs hf
def C9 (i:Nat)(hN:X.N.Nodup)(hi:X.N[i]?=some x:=by rfl)(hx:Loc X.env.scope x:=by first | exact Or.inl rfl | exact Or.inr rfl)(hf:X.fn x=true∨X.env.scope.names.lookup x=some .local:=by first | exact .inl rfl | exact .inr rfl | assumption):QG X (.Name x pos) (CO i):=mG hN hi hx hf
end
section
variable {pins:ZE7}{σ:St}{H:Hp}{a:Addr}{A8:List (Str×Addr)}
def gS {t:Tok}:EO (.str x) (.str y t)=(y == x):=rfl
theorem d6 (x:Str):∀ (ss:List Str) (m:Nat) (hm:m<ss.length),m<ss.idxOf x->ss[m]≠x
 | [],_,hm,_=>absurd hm (Nat.not_lt_zero _)
 | a::r,m,hm,h=>by
  rw [List.idxOf_cons] at h
  by_cases e:a=x
  ·have:(a == x)=true:=by simpa using e
   rw [this] at h;exact absurd h (Nat.not_lt_zero _)
  ·have e':(a == x)=false:=by simpa using e
   rw [e'] at h;cases m with
   | zero=>exact e
   | succ k=>
    have h':k+1<r.idxOf x+1:=h;exact d6 x r k (by simpa using hm) (by omega)
def RP (h:x∈ss):∃ hj:ss.idxOf x<ss.length,ss[ss.idxOf x]=x/\∀ m (hm:m<ss.length),m<ss.idxOf x->ss[m]≠x:=by
 have hj:ss.idxOf x<ss.length:=List.idxOf_lt_length_iff.mpr h;exact ⟨hj,Hs hj,fun m hm AQ=>d6 x ss m hm AQ⟩
def dg (K:ZE6):V->List V->Hp->VK->Prop:=fun x vs H Q=>∃ (l:Addr) (ss:List Str) (y:Str),x=.ref l/\vs=[.str y]/\AY K H l (ss.map V.str)/\y∈ss/\Q (.int (ss.idxOf y:Nat)) H
def cN:Gz X "list.index" (dg X.K):=by
 intro pins s σ H x vs v us Q I rx rv h;obtain ⟨l,ss,y,rfl,rfl,hq,hy,q⟩:=h;cases rx;obtain ⟨u,rfl,ru⟩:=rv.one;obtain ⟨A3,r,pl,hz⟩:=I.list hq;obtain ⟨⟨c,d,dt,sl⟩,n,ho,hc,hd,Hg⟩:=id pl;simp only at hc hd Hg;subst hc;subst hd;subst Hg;have hl:=r.length;rw [AA] at hl;obtain ⟨hj,XR,Mq⟩:=RP hy;have at':∀ (m:Nat) (hm:m<A3.toArray.size),∃ t,A3.toArray[m]=.str (ss[m]'(by simp at hm;omega)) t:=fun m hm=>by
  have TH:m<A3.length:=by simpa using hm
  obtain ⟨h2,t,e⟩:=Xe r (AX TH);exact ⟨t,by simpa using e⟩
 have OM:ss.idxOf y<A3.toArray.size:=by simp;omega
 refine uF jW ⟨_,ho,rfl⟩ PySem.F.entry_list_index (PySem.F.args_list_index_2 _ _) (SeqAt.list_indexAt l A3.toArray n none sl u (EO (.str y)) (ss.idxOf y) OM ?_ ?_ (fun m hm AQ=>?_)) ⟨ho,fun z XT=>LY ru rfl r (by
   rw [Hr];intro w hw;obtain ⟨y',_,rfl⟩:=List.mem_map.mp hw;rfl) z (by simpa using XT),?_⟩
 ·have h1:ss.length<=sizeLine:=by rw [AA] at hz;exact hz
  have h2:=JF;have h3:((sizeLine:Nat):Int)<2 ^ 63:=by exact_mod_cast h2
  omega
 ·obtain ⟨t,e⟩:=at' _ OM;rw [e,gS];simpa using XR
 ·obtain ⟨t,e⟩:=at' _ hm;rw [e,gS];have:=Mq m (by simp at hm;omega) AQ
  simpa using this
 ·exact ⟨.int _,H,I.tok _,⟨_,rfl⟩,q⟩
end
def tj:typeLookup (.type "list_reverseiterator") "__len__"=pure none:=by rw [xE,r8];kernel_rfl
def n9:typeLookup (.type "list_reverseiterator") "__length_hint__"=pure (some (.builtin "list_reverseiterator.__length_hint__")):=by rw [xE,r8];kernel_rfl
section
variable {prog:Program}{A:Around}{R:Result->Shared->Prop}
variable {fp wr:List Addr}{G:Array GenState->Array GenState->Prop}{P:Nat->Value->Prop}{St:Nat->Shared->Prop}
def ZAM (W:WalksS prog w A.in1 I fp wr G n P St)(hT:∀ i s,St i s->s.TypeIs (.ref I) "list_reverseiterator")(S:Addr)(res:Value)(c₀:Nat)(Cb:St 0 s)(E4:S∉fp)(hI:I∈fp)
  (hS:s.heap.get? S=some { cls:=.type "list", data:=.seq #[] c₀ })
  (hR:∀ s' DE c',Moved (S::wr) G s s'->s'.heap.get? S=some { cls:=.type "list", dict:=none,data:=.seq DE c',slots:=#[] }->ItemsOf P DE n->R (.ok (.ret res)) s') (hn:n<=sizeLine) :
  wpAny (model prog w) A.in1 (Builtin.List.listExtendWith (.ref S) (.ref I) res)
   (fun fin s'=>match fin with | .done f=>R (.ok f) s' | .again c'=>c'.quiet=true/\codeAny (model prog w) A c' R s') (fun e s'=>R (.error e) s') s:=by
 have hSI:S≠I:=fun e=>E4 (e▸hI);unfold Builtin.List.listExtendWith;refine ji (vh (hT 0 _ Cb) ?_);have h1:Builtin.List.listSameRef (.ref S) (.ref I)=false:=by simp [Builtin.List.listSameRef,hSI]
 rw [k6 (by rw [h1];decide)];refine ji (W.self 0 _ _ _ Cb ?_);refine ji (q8 ?_);unfold Builtin.List.listLengthHint;refine ji (z9 (hT 0 _ Cb) tj ?_);show wpAny _ A.in1 (specialOf (Value.ref I) (Str.ofString "__length_hint__") >>= _) _ _ _;refine ji (z9 (hT 0 _ Cb) n9 ?_);generalize Jh:("list_reverseiterator.__length_hint__":String)=Mx
 wp_delta
 rw [show splitId Mx=some ("list_reverseiterator","__length_hint__") from by subst Jh;decide +kernel];subst Jh;refine ji (vT (b:=true) (hT 0 _ Cb) (by rw [sD];kernel_rfl) ?_);refine jx ?_;rw [k6 (by decide)];refine jx ⟨yu F.plain_extend_loop _,ZA7 W hn _ E4 _ n 0 _ _ _ rfl (CM _) Cb hS (ItemsOf.nil P) fun s' DE c' hm Dm Ay=>?_⟩;exact hR s' DE c' hm Dm Ay
def ur (W:WalksS prog w A.in1 I fp wr G n P St)(hT:∀ i s,St i s->s.TypeIs (.ref I) "list_reverseiterator")(S:Addr)(Cb:St 0 s)(E4:S∉fp)(hI:I∈fp)
  (hS:s.heap.get? S=some { cls:=.type "list", data:=.seq #[] })
  (hR:∀ s' DE c',Moved (S::wr) G s s'->s'.heap.get? S=some { cls:=.type "list", dict:=none,data:=.seq DE c',slots:=#[] }->ItemsOf P DE n->R (.ok (.ret .none)) s') (hn:n<=sizeLine) :
  wpAny (model prog w) A.in1 (Builtin.«list.__init__» ⟨[.ref S,.ref I],[]⟩)
   (fun fin s'=>match fin with | .done f=>R (.ok f) s' | .again c'=>c'.quiet=true/\codeAny (model prog w) A c' R s') (fun e s'=>R (.error e) s') s:=by
 show wpAny _ A.in1 (do let old <- Builtin.List.listItems (.ref S);Builtin.List.listUpdate (.ref S) (fun _=>#[]);letGo old.toList.reverse;Builtin.List.listExtendWith (.ref S) (.ref I) .none) _ _ s
 refine ji ?_;unfold Builtin.List.listItems;refine ji (qr hS rfl (jx ?_));show wpAny _ A.in1 (updateSeq S (fun _=>#[]) >>= fun _=>letGo (#[]:Array Value).toList.reverse >>= fun _=>Builtin.List.listExtendWith (.ref S) (.ref I) .none) _ _ s;refine ji (vy hS rfl ?_);have hS₂:=GR (Obj.mapSeq (fun _=>(#[]:Array Value))) hS rfl;have Jj:∀ b o,b≠S->s.heap.get? b=some o->(s.heap.update S (Obj.mapSeq (fun _=>(#[]:Array Value)))).get? b=some o:=
  fun b o hb e=>(Hq _ _ (Bs hb)).trans e
 refine ji (ZAa ?_);refine ZAM (hn:=hn) W hT S .none _ (W.frame 0 s _ s.toks Cb (Ai _) fun b hb o e=>Jj b o (fun h=>E4 (h▸hb)) e) E4 hI hS₂ fun s' DE c' hm Dm Ay=>?_;exact hR s' DE c' (Moved.trans W.gtrans ((Moved.refl W.grefl).then_heap (Ai _) fun b o hb e=>Jj b o (fun h=>hb (h▸Ft)) e) hm) Dm Ay
def t8 (W:WalksS prog w A.in1.in1 I fp wr G n P St)(hT:∀ i s,St i s->s.TypeIs (.ref I) "list_reverseiterator")(Cb:St 0 s)(Ma:∀ b∈fp,b<s.heap.objs.size)(hI:I∈fp)
  (hQ:∀ s' DE c',Moved (s.heap.objs.size::wr) G { s with heap:=s.heap.push { cls:=.type "list", data:=.seq #[] } } s'->
   s'.heap.get? s.heap.objs.size=some { cls:=.type "list", dict:=none,data:=.seq DE c',slots:=#[] }->ItemsOf P DE n->Q (.ref s.heap.objs.size) s') (hn:n<=sizeLine) :
  wpAny (model prog w) A (call (.type "list") [.ref I]) Q E s:=by
 have E4:s.heap.objs.size∉fp:=fun hm=>LM _ (Ma _ hm);refine callType_codes (Q₁:=fun obj s₁=>obj=.ref s.heap.objs.size/\s₁={ s with heap:=s.heap.push { cls:=.type "list", data:=.seq #[] } }) F.called_list (F.typeCall_list_1 _) F.entry_list_init
  (code_list_new _ ⟨rfl,rfl⟩) fun obj s₁ h₁=>?_
 obtain ⟨rfl,rfl⟩:=h₁;have hS:(s.heap.push { cls:=.type "list", data:=.seq #[] }).get? s.heap.objs.size=some { cls:=.type "list", data:=.seq #[] }:=Ba _ rfl;refine ⟨⟨_,hS,rfl⟩,F.args_list_init_2 _ _,ur (hn:=hn) W hT _ (W.frame 0 s _ s.toks Cb (Ai _) fun b _ o e=>BQ _ e) E4 hI hS fun s' DE c' hm Dm Ay=>?_⟩;exact ⟨rfl,hQ s' DE c' hm Dm Ay⟩
variable {l:Addr}{items:Array Value}
end
end L2
namespace HT
variable {E Q:Value->Shared->Prop}
section
variable {prog:Program}{w:World}{A:Around}{s:Shared}
def nJ {t sl:Addr}{items:Array Value}{vl vu:Value}{lo hi:Option Int}(ht:IsTup s.heap t items)(hs:s.heap.IsSliceOf sl vl vu .none)(pl:IsPart vl lo)(pu:IsPart vu hi)
  (hw:Ak items.size 0 lo=0/\Ak items.size items.size hi=items.size) (h:Q (.ref t) s):wpAny (model prog w) A (getItem (.ref t) (.ref sl)) Q E s:=by
 obtain ⟨os,KL,Q7,OF⟩:=id hs;have V9:s.TypeIs (.ref sl) "slice" := ⟨os,KL,Q7⟩;unfold getItem
 try with_reducible refine q8 ?_
 first | refine ji (jx ?_) | skip
 refine ji (wpAny_sequenceKey ht.typeIs (by decide) ?_);refine ji (oJ (name:=Str.ofString "__getitem__") ht.typeIs Yi
  (oY Yi ht.typeIs entry_tuple_getitem ?_ (args_tuple_getitem _ _)))
 show wpAny _ _ (Builtin.Tuple.tupleItemsOf (.ref t) >>= _) _ _ s;refine ji (tupleItemsOf_ ht ?_);refine ji (vh V9 ?_);rw [mZ (by decide)];refine ji (cD hs pl pu ?_);have gI:((((Ak items.size 0 lo:Nat):Int) == 0 && (1:Int) == 1 && (Ak items.size items.size hi - Ak items.size 0 lo) == items.size)=true):=by
  rw [hw.1,hw.2];simp
 first
 | rw [mZ gI]
 | simp only [gI,ZAT]
 refine ji ?_;unfold Builtin.Tuple.tupleIsExact;refine ji (vh ht.typeIs (jx ?_));rw [mZ (by decide)];exact ji (zG (jx ⟨_,rfl,jx h⟩))
end
end HT
namespace L2
variable {X:Cx}{acc items ps:Array Value}{pins:ZE7}{σ:St}{H:Hp}{s:Shared}{h h':Heap}{ep i k1 n nT nl pl sl t':Nat}{fp:List Addr}{I S a it:Addr}{o oT:Obj}{w:World}{es:Array (Int×Value)}{p1 pos:Pos}{t:SetTable}{prog:Program}{A:Around}{E Q₁:Value->Shared->Prop}{e:Int×Value}{Q:Option Value->Shared->Prop}{α:Type}{f v x:Value}{A9 ss:List Str}
def Ze (K:ZE6):V->Option Int->Option Int->Hp->VK->Prop:=fun x lo hi H Q=>∃ a xs,x=.ref a/\Aq K H a xs/\
 ((HT.Ak xs.length 0 lo=0/\HT.Ak xs.length xs.length hi=xs.length)->Q (.ref a) H)/\(¬ (HT.Ak xs.length 0 lo=0/\HT.Ak xs.length xs.length hi=xs.length)->∀ p,H p=none->Q (.ref p) (upd H p (.tup (G9 xs lo hi))))
def ZC4:KC X (Ze X.K):=by
 intro pins s σ H x v vl vu lo hi sl Q I rx hs pl pu h;obtain ⟨a,xs,rfl,hx,q1,q2⟩:=h
 by_cases hw:HT.Ak xs.length 0 lo=0/\HT.Ak xs.length xs.length hi=xs.length
 ·cases rx;obtain ⟨A3,r,ht,hz⟩:=I.tuple hx;have hlen:A3.toArray.size=xs.length:=by rw [Bd];exact r.length.symm
  refine ⟨"tuple", _,PyProof.Rows.slot_tuple_getitem.lookup,ht.typeIs,?_⟩;exact HT.nJ ht hs pl pu (by rw [hlen];exact hw) ⟨.ref a,H,I,rfl,q1 hw⟩
 ·exact uV pins s σ H _ v vl vu lo hi sl Q I rx hs pl pu ⟨a,xs,rfl,hx,hw,q2 hw⟩
def mn {ys:List V}{A3:List Value}(r:Vals ys A3)(h:ItemsOf (fun i v=>A3.toArray[A3.toArray.size - 1 - i]?=some v) acc A3.toArray.size):∃ us:List Value,Vals ys.reverse us/\acc=us.toArray:=by
 have e:acc=A3.reverse.toArray:=by
  apply Array.toList_inj.mp;rw [List.toList_toArray];apply jE;intro i;have hs:acc.size=A3.length:=by rw [h.1];simp
  by_cases hi:i<A3.length
  ·have h1:acc.toList[i]?=some (acc[i]'(by omega)):=by simp
   have h2:=h.2 i (acc[i]'(by omega)) (by simp);rw [h1,List.getElem?_reverse hi];simp at h2;rw [<- h2]
  ·have h1:acc.toList[i]?=none:=Oz (by simp;omega);have h2:A3.reverse[i]?=none:=Oz (by simp;omega);rw [h1,h2]
 exact ⟨A3.reverse,r.reverse,e⟩
def Inv.ai (I:Inv X pins σ H s)(hf:∀ b∈fp,EV X pins H b)(k:∀ b o,b∉fp->s.heap.get? b=some o->h'.get? b=some o):
  Inv X pins σ H { s with heap:=h',toks:=t' }:=by
 have JH:∀ b u,H b=some u->b∉fp:=fun b u e z=>by rw [(hf b z).1] at e;cases e
 refine I.step (g':=s.gens) (d':=s.drawn) (ch:=fp) (fun b hb=>?_) (fun b o _ _ hc e _=>k b o hc e) (fun b o _ _ hc e _=>⟨o.slots,k b o hc e⟩) (fun _ _ _ _ n=>n)
  (fun b o hc e=>⟨o,k b o hc e⟩) (fun _ _ e=>e) (fun _ _ _ e=>e) (fun b ps e=>⟨#[],by rw [e];simp⟩) (fun m hm=>?_) (fun b u e=>?_) I.bare
 ·obtain ⟨_,h1,_,h3,h4,h5⟩:=hf b hb;exact ⟨h3,h1,h4,h5⟩
 ·obtain ⟨o,es,ep,ho,r⟩:=hm;exact ⟨o,es,ep,k _ o (fun z=>(hf _ z).2.1 rfl) ho,r⟩
 ·refine (I.AK b u e).Hz (fun c v hc q=>k c v ?_ q) (fun _ q=>q) fun _ _ q=>q;rcases hc with z | z
  ·rw [z];exact JH b u e
  ·exact JH c _ z
def Inv.Zc {o:HO}(I:Inv X pins σ H s)(hf:∀ b∈fp,EV X pins H b)(k:∀ b o,b∉fp->s.heap.get? b=some o->h'.get? b=some o)
  (ha:s.heap.objs.size<=a) (new:CI X.prog X.w (upd H a o) h' a o):Inv X pins σ (upd H a o) { s with heap:=h',toks:=t' }:=by
 have hn:H a=none:=I.AK.fresh ha;have JH:∀ b u,H b=some u->b∉fp:=fun b u e z=>by rw [(hf b z).1] at e;cases e
 have ne:∀ b u,H b=some u->b≠a:=fun b u e=>Dj e hn;have ne2:∀ b u,s.heap.get? b=some u->b≠a:=fun b u e=>Bf (E9 (B9 e) ha);refine I.step (g':=s.gens) (d':=s.drawn) (ch:=fp) (fun b hb=>?_) (fun b o _ _ hc e _=>k b o hc e) (fun b o _ _ hc e _=>⟨o.slots,k b o hc e⟩) (fun b o _ e n=>by rw [An (ne2 b o e)];exact n)
  (fun b o hc e=>⟨o,k b o hc e⟩) (fun b _ e=>by rw [An (ne b _ e)];exact e) (fun b _ _ e=>by rw [An (ne b _ e)];exact e) (fun b ps e=>⟨#[],by rw [An (ne b _ e),e];simp⟩) (fun m hm=>?_) (fun b u e=>?_) I.bare
 ·obtain ⟨_,h1,_,h3,h4,h5⟩:=hf b hb;exact ⟨h3,h1,h4,h5⟩
 ·obtain ⟨o,es,ep,ho,r⟩:=hm;exact ⟨o,es,ep,k _ o (fun z=>(hf _ z).2.1 rfl) ho,r⟩
 ·by_cases hb:b=a
  ·subst hb;rw [B0] at e;cases e;exact new
  ·rw [An hb] at e;refine (I.AK b u e).Hz (fun c v hc q=>k c v ?_ q) (fun c q=>by rw [An (ne c _ q)];exact q) fun c _ q=>by rw [An (ne c _ q)];exact q
   rcases hc with z | z
   ·rw [z];exact JH b u e
   ·exact JH c _ z
noncomputable def az (K:ZE6)(a:Addr)(xs:List V):It:=
 ⟨fun i H=>AY K H a xs/\i<xs.length,fun i H x H'=>∃ p y,xs[i]?=some y/\x=.ref p/\H p=none/\H'=upd H p (.tup [.int i,y]),fun i H=>AY K H a xs/\xs.length<=i⟩
def ZBA {P:Program}{K:ZE6}{es:List Expr}(a e it:Addr)(xs:List V)(dX:e≠it):
  Turn P w K (.Tuple es k1 p1) (az K a xs) [e,it] e (fun i h=>(∃ old,IsEnum h e it i old)/\h.IsListIter it a i) where
 mem:=by simp
 obj:=fun i h st b hb=>by
  obtain ⟨⟨old,h1⟩,o,h2,_,d⟩:=st;rcases List.mem_cons.mp hb with z | z
  ·subst z;exact ⟨_,h1,fun v z=>by cases z⟩
  ·have:b=it:=by simpa using z
   subst this;exact ⟨o,h2,fun v z=>by rw [d] at z;cases z⟩
 keep:=fun i h h' st k=>⟨let ⟨old,h1⟩:=st.1;⟨old,k e (by simp) _ h1⟩,st.2.at fun o q=>k it (by simp) o q⟩
 item:=by
  intro X hP hw hK hc i pins s σ H E I hf st hg;subst hP hw hK;obtain ⟨hq,hi⟩:=hg;obtain ⟨⟨old,he⟩,hit⟩:=st;obtain ⟨A3,rv,p,hz⟩:=I.list hq;obtain ⟨u,hu,ru⟩:=rv.get (AX hi);refine wpAny_pyNext_enum_item he hit p.isList (x:=u) (by simpa using hu) dX fun h1 Je LP y6 Sb wR=>⟨_,rfl,?_⟩
  refine wpAny_letOwnedTupleGo_enum Je fun h2 ME Ce=>?_;have AQ:e<s.heap.objs.size:=B9 he;have Og:h2.get? s.heap.objs.size=some { cls:=.type "tuple", data:=.seq #[.int i s.toks,u] }:=(Ce.2 _ (J4 AQ)).trans y6;have kp:∀ b o,b∉[e,it]->s.heap.get? b=some o->h2.get? b=some o:=fun b o hb q=>by
   have C4:b≠e/\b≠it:=by simpa using hb
   exact (Ce.2 b C4.1).trans (wR b o C4.1 C4.2 q)
  refine ⟨.ref s.heap.objs.size,_,I.Zc (t':=s.toks+1) (a:=s.heap.objs.size) (o:=.tup [.int i,xs[i]]) hf kp (Ai _) ?_,rfl,⟨_,_,AX hi,rfl,I.AK.fresh (Ai _),rfl⟩,⟨⟨_,ME⟩,LP.at fun o q=>(Ce.2 it (Bs dX)).trans q⟩,fun b hb=>?_⟩
  ·exact ⟨(by show 2<=sizeLine;decide),[.int i s.toks,u],.cons ⟨_,rfl⟩ (.cons ru .nil),⟨_,Og,rfl,_,rfl⟩,fun ob q=>by rw [Og] at q;cases q;rfl⟩
  ·have Kv:b<s.heap.objs.size:=by
    rcases List.mem_cons.mp hb with z | z
    ·rw [z];exact AQ
    ·have:b=it:=by simpa using z
     obtain ⟨o,q,_⟩:=hit;rw [this];exact B9 q
   rw [An (Bf Kv)];exact (hf b hb).1
 done:=by
  intro X hP hw hK hc i pins s σ H E I hf st hg;subst hP hw hK;obtain ⟨hq,hx⟩:=hg;obtain ⟨⟨old,he⟩,hit⟩:=st;obtain ⟨A3,rv,p,hz⟩:=I.list hq;have hl:=rv.length;exact wpAny_pyNext_enum_end (I.ok.hd hc) he hit p.isList (by simp;omega) fun h' eb=>⟨rfl,I.ai (t':=s.toks) hf fun b o hb q=>eb b o (fun z=>hb (by simp [z])) q⟩
 self:=fun _ _ _ _ _ st h=>let ⟨⟨_,he⟩,_⟩:=st;wpAny_pyIter_enum he h
def Xv (K:ZE6)(t:TA):TI:=fun σ H R=>t σ H fun vs H1=>∃ a xs,vs=[.ref a]/\AY K H1 a xs/\R (az K a xs) H1
def mH {es:List Expr}{p:Pos}{l:Expr}{t:TA}(hg:Gl X "enumerate")(hm:X.mg "enumerate"=none)(ha:QA X [l] t)(hs:starEach [l] X.env=[(false,eval l X.env)]:=by rfl):
  QI X (.Tuple es k1 p1) (.Call (.Name "enumerate" p) [l] [] pos) (Xv X.K t):=⟨by
 have ha:=ha.h;intro pins s σ H R I h;refine qN (Iq I hg hm (show bootBuiltins "enumerate"=some (.type "enumerate") by decide +kernel) ?_ (by decide) (by decide));refine Mj (AL (ha pos pins s σ H _ I h) fun us s1 ⟨vs,H1,I1,r1,q1⟩=>?_) hs rfl;obtain ⟨a,xs,rfl,hq,q⟩:=q1;obtain ⟨u,rfl,rx⟩:=vals1 r1;cases rx;obtain ⟨A3,rv,p,hz⟩:=I1.list hq;refine call_enumerate_list p.isList fun h' he hit hsz kp=>?_;refine wpAny_pyIter_enum he ?_;have B5:s1.heap.objs.size+1≠s1.heap.objs.size:=Nat.succ_ne_self _;refine ⟨s1.heap.objs.size+1,[s1.heap.objs.size+1,s1.heap.objs.size],_,_,H1,rfl,I1.kept (t':=s1.toks) kp,ZBA a _ _ xs B5,⟨⟨_,he⟩,hit⟩,fun b hb=>?_,q⟩;have Kv:s1.heap.objs.size<=b:=by
  rcases List.mem_cons.mp hb with z | z
  ·rw [z];exact Fu _
  ·have:b=s1.heap.objs.size:=by simpa using z
   rw [this];exact Ai _
 exact I1.L7 Kv (I1.AK.fresh Kv)⟩
open AutoSeq1 (wpAny_loadPart')
def ZAR (t:SetTable)(n:Nat):(t.orStandIn n).led=t.led:=by unfold SetTable.orStandIn;split <;> rfl
def ue (t:SetTable)(es:Array (Int×Value))(h:Int)(x:Value):(layNew t es h x).2.1.led=t.led:=by
 unfold layNew;split
 ·show (SetTable.orStandIn (t.put _).1 _).led=t.led;rw [ZAR];rfl
 ·rfl
def ZBD {mask finger moves:Nat}{led plain:Bool}{hs:Array Int}{p:SetTable×Array Nat}(h:SetTable.laid mask finger moves led plain hs=some p):p.1.led=led/\p.1.plain=plain:=by
 unfold SetTable.laid at h;cases hc:SetTable.layClean mask hs with
 | none=>rw [hc] at h;cases h
 | some ow=>rw [hc] at h;cases h;exact ⟨rfl,rfl⟩
def mQ (t:SetTable)(es:Array (Int×Value))(n:Nat)(hp:t.plain=false):(relayAll t es n).2.1.led=t.led/\(relayAll t es n).2.1.plain=false:=by
 unfold relayAll;split
 ·next t' order hr=>
  have q:=ZBD (p:=(t',order)) hr;dsimp only at q ⊢;split
  ·exact ⟨q.1,q.2.trans hp⟩
  ·exact ⟨rfl,rfl⟩
 ·exact ⟨rfl,rfl⟩
noncomputable def GC (w:World):Bool:=w.params.followText "set-order"
def D0 (prog:Program)(w:World)(h:Heap)(a:Addr)(S:Str->Bool)(n:Nat):Prop:=
 ∃ o es ep t,h.get? a=some o/\o.ExactSet/\o.data=.set es ep t/\ElemsOf (PySem.strKind prog w) es.toList/\(∀ k,S k=true↔∃ e∈es.toList,(PySem.strKind prog w).is k e.2=true)/\
  es.size<scanBound/\t.fits es.size=true/\es.size=n/\(t.led=!GC w)/\(0<es.size->t.plain=false)
def D0.keep {S:Str->Bool}(x:D0 prog w h a S n)(k:∀ o,h.get? a=some o->h'.get? a=some o):D0 prog w h' a S n:=by
 obtain ⟨o,es,ep,t,ho,r⟩:=x;exact ⟨o,es,ep,t,k o ho,r⟩
def D0.congr {S S':Str->Bool}{n':Nat}(x:D0 prog w h a S n)(e:∀ k,S k=S' k)(en:n=n'):D0 prog w h a S' n':=by
 obtain ⟨o,es,ep,t,h1,h2,h3,h4,h5,h6,h7,h8,h9⟩:=x;exact ⟨o,es,ep,t,h1,h2,h3,h4,fun k=>by rw [<- e k];exact h5 k,h6,h7,h8.trans en,h9⟩
def fi (ho:h.get? a=some o)(hd:o.data=.set es ep t)(EZ:Array (Int×Value))(t':SetTable):
  (h.update a (Obj.putSet EZ t')).get? a=some { o with data:=.set EZ (ep+1) t' }:=by
 have q:=GR (Obj.putSet EZ t') ho (by rw [putSet_of EZ t' hd];rfl);rw [q,putSet_of EZ t' hd]
def D0.put {S:Str->Bool}{k:Str}{tk:Tok}{Q:Bool->Shared->Prop}(hS:D0 prog w s.heap a S n)(OX:n+1<scanBound)
  (h:∀ h',Heap.SameBut a s.heap h'->D0 prog w h' a (fun k'=>S k' || decide (k'=k)) (if S k then n else n+1)->Q (!S k) { s with heap:=h' }) :
  wpAny (model prog w) A (setAddHashed a (.str k tk) ((PySem.strKind prog w).hash k)) Q E s:=by
 obtain ⟨o,es,ep,t,ho,hex,hd,Lj,Fc,hb,hf,hn,Rk,Bz⟩:=hS;have Oe:(PySem.strKind prog w).is k (.str k tk)=true:=ZDK prog w k tk;have Su:(Value.str k tk).scannable=true:=rfl;have rm:es.size+1<scanBound:=by rw [hn];exact OX
 have gw:∀ (b:Bool) (s1:Shared) (Q1:Unit->Shared->Prop),Q1 () s1->wpAny (model prog w) A (match b with | true=>rule "set.scan.the-table-gave-way" | false=>pure ()) Q1 E s1:=by
  intro b s1 Q1 q;cases b
  ·exact jx q
  ·exact zG q
 unfold setAddHashed setAddHashedIn;refine q8 ?_;refine ji (t7 ho hd hf ?_);dsimp only;rw [byScan_of Su hb Lj];simp only [↓reduceIte];unfold setAddByScan;refine ji ?_;refine ji (zG ?_);refine ji (wpAny_setScan_of Oe ho hd hf Lj ?_);cases hr:List.findIdx? (fun e=>(PySem.strKind prog w).is k e.2) es.toList with
 | some j=>
  dsimp only;obtain ⟨hj,hpj,_⟩:=List.findIdx?_eq_some_iff_getElem.mp hr;have hk:S k=true:=(Fc k).mpr ⟨es.toList[j],Fs hj,hpj⟩;refine jx ?_;refine jx ?_;have q:=h s.heap (Heap.SameBut.refl a s.heap) ⟨o,es,ep,t,ho,hex,hd,Lj,fun k'=>by
   rw [<- Fc k',Bool.or_eq_true,decide_eq_true_eq];exact ⟨fun z=>z.elim id fun e=>e▸hk,Or.inl⟩,hb,hf,by rw [mZ hk];exact hn,Rk,Bz⟩
  rw [hk] at q;exact q
 | none=>
  dsimp only;have hk:S k=false:=by
   cases e:S k with
   | false=>rfl
   | true=>
    obtain ⟨x,hx,hp⟩:=(Fc k).mp e;have q:=List.findIdx?_eq_none_iff.mp hr x hx;rw [hp] at q;exact Bool.noConfusion q
  have p1:=layNew_perm t es ((PySem.strKind prog w).hash k) (.str k tk);have f1:=layNew_fits t es ((PySem.strKind prog w).hash k) (.str k tk);have l1:=ue t es ((PySem.strKind prog w).hash k) (.str k tk);generalize layNew t es ((PySem.strKind prog w).hash k) (.str k tk)=L at p1 f1 l1 ⊢;obtain ⟨Ck,t1,wd,gv⟩:=L;dsimp only at p1 f1 l1 ⊢;rw [ZCb] at p1;have zt:ElemsOf (PySem.strKind prog w) Ck.toList:=(Lj.push Oe Su).perm p1;have m1:∀ k',(S k' || decide (k'=k))=true↔∃ e∈Ck.toList,(PySem.strKind prog w).is k' e.2=true:=mem_push_iff Oe Fc p1;have z1:Ck.size=n+1:=by rw [<- HE,p1.length_eq,B2,HE,hn];rfl
  have b1:Ck.size<scanBound:=by rw [z1];exact OX
  have fin:∀ (h':Heap) (o':Obj) (EZ:Array (Int×Value)) (Jx:Nat) (t':SetTable),Heap.SameBut a s.heap h'->h'.get? a=some o'->o'.ExactSet->o'.data=.set EZ Jx t'->EZ.toList.Perm Ck.toList->t'.fits EZ.size=true->t'.led=t.led->t'.plain=false->
    Q true { s with heap:=h' }:=by
   intro h' o' EZ Jx t' sb go xo d' pp ff ll pf;have zz:EZ.size=n+1:=by rw [<- z1,<- HE,pp.length_eq,HE]
   have q:=h h' sb ⟨o',EZ,Jx,t',go,xo,d',zt.perm pp,fun k'=>(m1 k').trans ⟨fun ⟨e,he,q⟩=>⟨e,pp.mem_iff.mpr he,q⟩,fun ⟨e,he,q⟩=>⟨e,pp.mem_iff.mp he,q⟩⟩,by rw [zz];exact OX,ff,by rw [hk];exact zz,ll.trans Rk,fun _=>pf⟩;rw [hk] at q;exact q
  have tail:∀ (t2:SetTable),t2.fits Ck.size=true->t2.led=t.led->t2.plain=false->wpAny (model prog w) A (do
    storeSet a Ck t2
    if (
      !wd && t2.tooFull)=true then do
      (match (relayAll t2 Ck (SetTable.grown Ck.size)).2.2 with | true=>rule "set.scan.the-table-gave-way" | false=>pure ())
      storeSet a (relayAll t2 Ck (SetTable.grown Ck.size)).1 (relayAll t2 Ck (SetTable.grown Ck.size)).2.1
      pure (some true)
     else pure (some true)) (fun r s'=>match r with | some b=>Q b s' | none=>False) E s:=by
   intro t2 f2 l2 IP;refine ji (wpAny_storeSet_of ho hd ?_ (ZAe b1));have o1:=fi ho hd Ck t2;have gh:=Mf s.heap a (Obj.putSet Ck t2);split
   ·have p3:=relayAll_perm t2 Ck (SetTable.grown Ck.size);have f3:=relayAll_fits t2 Ck (SetTable.grown Ck.size);have l3:=mQ t2 Ck (SetTable.grown Ck.size) IP;generalize relayAll t2 Ck (SetTable.grown Ck.size)=Rl at p3 f3 l3 ⊢;obtain ⟨UI,t3,g3⟩:=Rl;dsimp only at p3 f3 l3 ⊢;have z3:UI.size=Ck.size:=by rw [<- HE,p3.length_eq,HE]
    refine ji (gw _ _ _ ?_);refine ji (wpAny_storeSet_of o1 rfl ?_ (ZAe (by rw [z3];exact b1)));refine jx ?_;exact fin _ _ UI _ t3 (gh.trans (Mf _ a _)) (fi o1 rfl UI t3) hex rfl p3 f3 (l3.1.trans l2) l3.2
   ·exact jx (fin _ _ Ck _ t2 gh o1 hex rfl (SF _) f2 l2 IP)
  refine ji (gw _ _ _ ?_);split
  ·next R9=>
   refine ji ?_;rw [hashByValue_scannable 8 Su];refine jx ?_;refine pK (tail { t1 with plain:=false } (SetTable.fits_plain_off f1) l1 rfl) (fun r s' q=>?_) fun _ _ e=>e
   cases r with
   | none=>exact q.elim
   | some b=>exact jx q
  ·next R9=>
   refine ji (jx ?_);simp only [↓reduceIte];refine pK (tail t1 f1 l1 (by simpa using R9)) (fun r s' q=>?_) fun _ _ e=>e
   cases r with
   | none=>exact q.elim
   | some b=>exact jx q
theorem Vj {α:Type}:∀ (l:List α) (i:Nat) (h:i<l.length),(l[i]::l.eraseIdx i).Perm l
 | _::_,0,_=>SF _
 | x::r,i+1,h=>(List.Perm.swap x (r[i]'(by simpa using h)) (r.eraseIdx i)).trans ((Vj r i (by simpa using h)).cons x)
def qT (nx:Nat->Nat):∀ (n k:Nat) (l:List α) (out:Array α),l.length=n->(pickOrder.go nx n k l out).toList.Perm (out.toList++l):=by
 intro n
 induction n with
 | zero=>
  intro k l out hl;rw [List.length_eq_zero_iff.mp hl];unfold pickOrder.go;simp
 | succ n ih=>
  intro k l out hl;have AQ:nx k % l.length<l.length:=Nat.mod_lt _ (by omega);unfold pickOrder.go;rw [AX AQ];dsimp only;refine (ih _ _ _ (by rw [ZCw AQ];omega)).trans ?_;rw [ZCb,Cd];exact List.Perm.append_left _ (Vj l _ AQ)
def WB (nx:Nat->Nat)(xs:Array α):(pickOrder nx xs).toList.Perm xs.toList:=by
 have q:=qT nx xs.size 0 xs.toList #[] (by simp)
 simpa [pickOrder] using q
def wu {src:Source}{Q:Nat->Shared->Prop}(hn:n≠0)(h:∀ k d,k<n->Q k { s with drawn:=d }):wpAny (model prog w) A (choose src n) Q E s:=by
 intro Γ p hΓ;show Sem.wp _ _ (.choose src n .pure) _ _ _ _;rw [Sem.wp_choose];refine ⟨hn,?_⟩;rw [Sem.wp_pure];exact h _ _ (Nat.mod_lt _ (Nat.pos_of_ne_zero hn))
def qm:∀ (n:Nat) (xs:List α) (s:Shared) (Q:List α->Shared->Prop),xs.length<=n->(∀ ys d,ys.Perm xs->Q ys { s with drawn:=d })->wpAny (model prog w) A (drawOrder n xs) Q E s:=by
 intro n
 induction n with
 | zero=>
  intro xs s Q hl h;rw [List.length_eq_zero_iff.mp (Nat.le_zero.mp hl)] at h ⊢;exact jx (h [] s.drawn (SF _))
 | succ n ih=>
  intro xs s Q hl h;cases xs with
  | nil=>exact jx (h [] s.drawn (SF _))
  | cons x r=>
   unfold drawOrder;refine ji (wu (by simp) fun k d hk=>?_);rw [AX hk];dsimp only;refine ji (ih _ _ _ (by rw [ZCw hk];simp only [By] at hl ⊢;omega) fun ys d' hp=>?_);exact jx (h _ d' ((hp.cons _).trans (Vj (x::r) _ hk)))
def wH {Q:Bool->Shared->Prop}(ho:s.heap.get? a=some o)(hd:o.data=.set es ep t)(hf:t.fits es.size=true)
  (h:Q (!GC w && (!t.plain && decide (es.size > 1))) s):wpAny (model prog w) A (setDrawn a) Q E s:=by
 unfold setDrawn;refine ji (t7 ho hd hf ?_);dsimp only;unfold setsByText;refine ji (ji (ve (jx ?_)));exact jx h
def ar {Q:Option (Value×Nat)->Shared->Prop}(hb:GC w=true)(ho:s.heap.get? a=some o)(hd:o.data=.set es ep t)(hf:t.fits es.size=true)
  (h:Q (((pickOrder (w.params.setOrder a ep) es)[i]?).map fun e=>(e.2,sl)) s):wpAny (model prog w) A (setNext a sl i ep) Q E s:=by
 have C4:w.params.followText "set-order"=true:=hb;unfold setNext;refine ji (t7 ho hd hf ?_);dsimp only;unfold setsByText;refine ji (ji (ve (jx ?_)));show wpAny _ _ (if w.params.followText "set-order"=true then _ else _) _ _ _
 rw [mZ C4,k6 (by simp)];refine ji ?_;unfold setWalk setsByText;refine ji (t7 ho hd hf ?_);dsimp only;refine ji (ji (ve (jx ?_)));show wpAny _ _ (if w.params.followText "set-order"=true then _ else _) _ _ _
 rw [mZ C4];exact ji (ve (jx (jx h)))
def cB {Q:Option (Value×Nat)->Shared->Prop}(hb:GC w=false)(ho:s.heap.get? a=some o)(hd:o.data=.set es ep t)(hf:t.fits es.size=true)
  (h1:es.size<=1) (hl:t.led=true)
  (h:Q (match es[SetTable.below t.place sl]?,t.place[SetTable.below t.place sl]? with | some (_,x),some j=>some (x,j+1) | _,_=>none) s):wpAny (model prog w) A (setNext a sl i ep) Q E s:=by
 have C4:w.params.followText "set-order"=false:=hb;unfold setNext;refine ji (t7 ho hd hf ?_);dsimp only;unfold setsByText;refine ji (ji (ve (jx ?_)));show wpAny _ _ (if w.params.followText "set-order"=true then _ else _) _ _ _
 rw [k6 (by rw [C4];decide)];show wpAny _ _ (if (!t.plain && decide (es.size > 1))=true then _ else _) _ _ _
 rw [k6 (by rw [nZ (by omega)];simp)];refine ji (m:=_) ?_
 wp_delta
 rw [hl];exact jx (jx h)
def xb {Q:Value->Shared->Prop}(ho:s.heap.get? a=some o)(hd:o.data=.set es ep t)(hf:t.fits es.size=true)(he:es[pl]?=some e)
  (h:Q e.2 s):wpAny (model prog w) A (setNextDrawn a pl ep) Q E s:=by
 unfold setNextDrawn;refine ji (t7 ho hd hf ?_);dsimp only;rw [k6 (by simp),he];exact jx h
def fb:Manifest.owners.lookup (String.ofList ['r','o','t','a','r','e','t','i','_','t','e','s'].reverse)=some Manifest.sig_set_iterator:=by kernel_rfl
def Gf:Slot "set_iterator" "__next__" "set_iterator.__next__" :=
 .of (owner:="set_iterator") (n:="__next__") (by rw [xE,r8];kernel_rfl) (by decide +kernel) (by decide +kernel) (by decide +kernel)
  (by first | exact .inl (by decide +kernel) | exact .inr (by decide +kernel)) (by rw [sD];kernel_rfl)
def RG:entryFor table "set_iterator.__next__"=some Builtin.«set_iterator.__next__»:=entryFor_of_tree (by kernel_rfl)
def Pe (a:Value):argsOk "set_iterator.__next__" ⟨[a],[]⟩:=by
 unfold argsOk;rw [signature?_of (id:="set_iterator.__next__") (n:=['_','_','t','x','e','n','_','_']) (o:=['r','o','t','a','r','e','t','i','_','t','e','s']) (by kernel_rfl) fb];kernel_rfl
def Zb:Slot "set_iterator" "__iter__" "set_iterator.__iter__" :=
 .of (owner:="set_iterator") (n:="__iter__") (by rw [xE,r8];kernel_rfl) (by decide +kernel) (by decide +kernel) (by decide +kernel)
  (by first | exact .inl (by decide +kernel) | exact .inr (by decide +kernel)) (by rw [sD];kernel_rfl)
def ZCY (a:Value):argsOk "set_iterator.__iter__" ⟨[a],[]⟩:=by
 unfold argsOk;rw [signature?_of (id:="set_iterator.__iter__") (n:=['_','_','r','e','t','i','_','_']) (o:=['r','o','t','a','r','e','t','i','_','t','e','s']) (by kernel_rfl) fb];kernel_rfl
def ZB0:entryFor table "set_iterator.__iter__"=some Builtin.«dict_keyiterator.__iter__»:=
 entryFor_alias (id' := "dict_keyiterator.__iter__") (by kernel_rfl) (by first | rfl | decide +kernel | (unfold String.splitOn;simp +decide [String.splitOnAux])) (by decide +kernel) (by kernel_rfl)
def ZBT:entryFor table "set.__iter__"=some Builtin.«frozenset.__iter__»:=
 entryFor_alias (id' := "frozenset.__iter__") (by kernel_rfl) (by first | rfl | decide +kernel | (unfold String.splitOn;simp +decide [String.splitOnAux])) (by decide +kernel) (by kernel_rfl)
noncomputable def IM (f:Value)(i:Nat)(S:Addr)(n ep:Nat):Array Value:=#[f,rawInt (i:Int),.ref S,rawInt (n:Int),rawInt (ep:Int)]
def Ep (h:Heap)(I:Addr)(f:Value)(i:Nat)(S:Addr)(n ep:Nat):Prop:=∃ o,h.get? I=some o/\o.cls=.type "set_iterator" /\ o.data=.fields (IM f i S n ep)
def Ep.typeIs (x:Ep s.heap I f i S n ep):s.TypeIs (.ref I) "set_iterator" := let ⟨o,ho,hc,_⟩:=x;⟨o,ho,hc⟩
def Ep.at (x:Ep h I f i S n ep)(e:∀ o,h.get? I=some o->h'.get? I=some o):Ep h' I f i S n ep:=let ⟨o,ho,r⟩:=x;⟨o,e _ ho,r⟩
def Zi {Q:α->Shared->Prop}{F:Value->Shared->Prop}(hh:A.handled=none)
  (hF:∀ e h',(∀ b o,s.heap.get? b=some o->h'.get? b=some o)->(Shared.TypeIs { s with heap:=h' } e "StopIteration")->F e { s with heap:=h' }) :
  wpAny (model prog w) A (newExc (.type "StopIteration") [] >>= fun e=>raiseNew e) Q F s:=by
 refine ji ?_;simp only [newExc,newTuple];refine ji (p7 ?_ (by size_fits));refine ji (m:=firstArgMember _ _) (yB (a:=Value.none) (by first | rfl | (simp only [firstArgMember];rfl)) ?_)
 refine p7 ?_ (by size_fits);simp only [raiseNew];refine ji (wpAny_handled ?_);rw [hh];refine ji (jx (wpAny_throw ?_));exact hF _ _ (fun b o e=>BQ _ (BQ _ e)) ⟨_,Ba _ rfl,rfl⟩
def dW {nx:Nat}(hit:Ep s.heap it (rawInt (sl:Int)) i S n ep)
  (ho:s.heap.get? S=some o) (hd:o.data=.set es ep t) (hf:t.fits es.size=true) (hn:es.size=n)
  (Xa:∀ (A1:Around) (E1:Value->Shared->Prop) (Q1:Option (Value×Nat)->Shared->Prop),Q1 (some (x,nx)) s->wpAny (model prog w) A1 (setNext S sl i ep) Q1 E1 s)
  (hQ:∀ h',Ep h' it (rawInt (nx:Int)) (i+1) S n ep->Heap.SameBut it s.heap h'->Q (some x) { s with heap:=h' }):wpAny (model prog w) A (pyNext (.ref it)) Q E s:=by
 obtain ⟨oi,FP,hc,EF⟩:=id hit;subst hn;unfold pyNext;refine ji (yi (oJ (name:=Str.ofString "__next__") hit.typeIs Gf
  (oY Gf hit.typeIs RG ?_ (Pe _))))
 unfold Builtin.«set_iterator.__next__»;refine ji (yB (a:=(Value.ref it,[])) rfl ?_)
 try dsimp only
 refine ji (ZAK FP EF ?_);show wpAny _ _ (setEntries S >>= _) _ _ s;refine ji (uX ho hd hf ?_);rw [k6 (by simp)];show wpAny _ _ (setNext S sl i ep >>= _) _ _ s;refine ji (Xa _ _ _ ?_);dsimp only;refine ji (rb FP EF (by simp [IM]) ?_);have o1:=GR (fun ob=>Obj.mapFields (·.setIfInBounds 0 (rawInt (nx:Int))) ob) FP (SS (J5 EF _))
 have d1:=J5 EF (·.setIfInBounds 0 (rawInt (nx:Int)))
 refine ji (rb (s:={ s with heap:=_ }) o1 d1 (by simp [IM]) ?_)
 refine jx ⟨x,rfl,jx (hQ _ ⟨_,GR _ o1 (SS (J5 d1 _)),?_,?_⟩ ((Mf ..).trans (Mf ..)))⟩
 ·exact (Yg ..).trans ((Yg ..).trans hc)
 ·rw [J5 d1];simp [IM]
def i5 (hh:A.handled=none)(hit:Ep s.heap it (rawInt (sl:Int)) i S n ep)
  (ho:s.heap.get? S=some o) (hd:o.data=.set es ep t) (hf:t.fits es.size=true) (hn:es.size=n)
  (Xa:∀ (A1:Around) (E1:Value->Shared->Prop) (Q1:Option (Value×Nat)->Shared->Prop),Q1 none s->wpAny (model prog w) A1 (setNext S sl i ep) Q1 E1 s)
  (hQ:∀ h',Heap.ExtBut it s.heap h'->Q none { s with heap:=h' }):wpAny (model prog w) A (pyNext (.ref it)) Q E s:=by
 obtain ⟨oi,FP,hc,EF⟩:=id hit;subst hn;unfold pyNext;refine ji (yi (oJ (name:=Str.ofString "__next__") hit.typeIs Gf
  (oY Gf hit.typeIs RG ?_ (Pe _))))
 unfold Builtin.«set_iterator.__next__»;refine ji (yB (a:=(Value.ref it,[])) rfl ?_)
 try dsimp only
 refine ji (ZAK FP EF ?_);show wpAny _ _ (setEntries S >>= _) _ _ s;refine ji (uX ho hd hf ?_);rw [k6 (by simp)];show wpAny _ _ (setNext S sl i ep >>= _) _ _ s;refine ji (Xa _ _ _ ?_);dsimp only;refine ji (rb FP EF (by simp [IM]) ?_);refine Zi (A:=A.in1) hh fun e h' k hT=>?_;refine ji (vT (T:="StopIteration") (b:=true) hT ZAr ?_);refine jx (hQ _ (fun b ob hb e=>?_));exact k b ob ((Hq _ _ (Bs hb)).trans e)
def vH {T:Addr}(hit:Ep s.heap it (.ref T) i S n ep)
  (ho:s.heap.get? S=some o) (hd:o.data=.set es ep t) (hf:t.fits es.size=true) (hn:es.size=n) (hT:s.heap.get? T=some oT) (Se:oT.data=.seq ps nT) (hp:ps[i]?=some (rawInt (pl:Int))) (he:es[pl]?=some e)
  (hQ:∀ h',Ep h' it (.ref T) (i+1) S n ep->Heap.SameBut it s.heap h'->Q (some e.2) { s with heap:=h' }):wpAny (model prog w) A (pyNext (.ref it)) Q E s:=by
 obtain ⟨oi,FP,hc,EF⟩:=id hit;subst hn;unfold pyNext;refine ji (yi (oJ (name:=Str.ofString "__next__") hit.typeIs Gf
  (oY Gf hit.typeIs RG ?_ (Pe _))))
 unfold Builtin.«set_iterator.__next__»;refine ji (yB (a:=(Value.ref it,[])) rfl ?_)
 try dsimp only
 refine ji (ZAK FP EF ?_);show wpAny _ _ (setEntries S >>= _) _ _ s;refine ji (uX ho hd hf ?_);rw [k6 (by simp)];show wpAny _ _ (seqItems? (.ref T) >>= _) _ _ s;refine ji ?_;unfold seqItems?;refine ji (wpAny_load hT ?_);rw [Se];refine jx ?_;show wpAny _ _ (match ps[i]? with | some (.int place _)=>_ | some _=>_ | none=>_) _ _ s
 rw [hp];show wpAny _ _ (setNextDrawn S pl ep >>= _) _ _ s;refine ji (xb ho hd hf he ?_);refine ji (rb FP EF (by simp [IM]) ?_);refine jx ⟨e.2,rfl,jx (hQ _ ⟨_,GR _ FP (SS (J5 EF _)),?_,?_⟩ (Mf ..))⟩
 ·exact (Yg ..).trans hc
 ·rw [J5 EF];simp [IM]
def tV {T:Addr}(hh:A.handled=none)(hit:Ep s.heap it (.ref T) i S n ep)
  (ho:s.heap.get? S=some o) (hd:o.data=.set es ep t) (hf:t.fits es.size=true) (hn:es.size=n) (hT:s.heap.get? T=some oT) (Se:oT.data=.seq ps nT) (hp:ps[i]?=none)
  (hQ:∀ h',Heap.ExtBut it s.heap h'->Q none { s with heap:=h' }):wpAny (model prog w) A (pyNext (.ref it)) Q E s:=by
 obtain ⟨oi,FP,hc,EF⟩:=id hit;subst hn;unfold pyNext;refine ji (yi (oJ (name:=Str.ofString "__next__") hit.typeIs Gf
  (oY Gf hit.typeIs RG ?_ (Pe _))))
 unfold Builtin.«set_iterator.__next__»;refine ji (yB (a:=(Value.ref it,[])) rfl ?_)
 try dsimp only
 refine ji (ZAK FP EF ?_);show wpAny _ _ (setEntries S >>= _) _ _ s;refine ji (uX ho hd hf ?_);rw [k6 (by simp)];show wpAny _ _ (seqItems? (.ref T) >>= _) _ _ s;refine ji ?_;unfold seqItems?;refine ji (wpAny_load hT ?_);rw [Se];refine jx ?_;show wpAny _ _ (match ps[i]? with | some (.int place _)=>_ | some _=>_ | none=>_) _ _ s
 rw [hp];dsimp only;refine ji (rb FP EF (by simp [IM]) ?_);have o1:=GR (fun ob=>Obj.mapFields (·.setIfInBounds 0 (rawInt 0)) ob) FP (SS (J5 EF _))
 have d1:=J5 EF (·.setIfInBounds 0 (rawInt 0))
 refine ji (rb (s:={ s with heap:=_ }) o1 d1 (by simp [IM]) ?_)
 refine Zi (A:=A.in1) hh fun e h' k hT=>?_;refine ji (vT (T:="StopIteration") (b:=true) hT ZAr ?_);refine jx (hQ _ (fun b ob hb e=>?_));exact k b ob ((Hq _ _ (Bs hb)).trans ((Hq _ _ (Bs hb)).trans e))
def VU {Q:Value->Shared->Prop}(hit:Ep s.heap it f i S n ep)(h:Q (.ref it) s):wpAny (model prog w) A (pyIter (.ref it)) Q E s:=by
 refine wpAny_pyIter_slot hit.typeIs Zb (oY Zb hit.typeIs ZB0 ?_ (ZCY _));show wpAny _ _ (ret (.ref it)) _ _ s;exact jx ⟨_,rfl, "set_iterator", _,hit.typeIs,Gf.lookup,h⟩
def yG (hb:GC w=true)(hh:A.handled=none)(I S:Addr)(B5:S≠I)(hd:o.data=.set es ep t)(hf:t.fits es.size=true):
  Walks prog w A I [I,S] [I] es.size (fun i v=>((pickOrder (w.params.setOrder S ep) es).toList.map (·.2))[i]?=some v) (fun i h=>Ep h I (rawInt ((0:Nat):Int)) i S es.size ep/\h.get? S=some o) where
 sub:=fun b hb=>by simp at hb;simp [hb]
 frame:=fun _ _ _ x hk=>⟨x.1.at fun o e=>hk I (by simp) o e,hk S (by simp) _ x.2⟩
 item:=fun i s Q E hi x hQ=>by
  have hl:(pickOrder (w.params.setOrder S ep) es).size=es.size:=by
   have q:=(WB (w.params.setOrder S ep) es).length_eq
   simpa using q
  have Cf:i<(pickOrder (w.params.setOrder S ep) es).size:=by omega
  refine dW (x:=((pickOrder (w.params.setOrder S ep) es)[i]).2) (nx:=0) x.1 x.2 hd hf rfl (fun A1 E1 Q1 q=>ar hb x.2 hd hf (by rw [SA Cf];exact q)) fun h' O9 sb=>?_;exact hQ _ h' s.toks (by rw [Ac,SD,SA Cf];rfl) ⟨O9,sb.extBut S o B5 x.2⟩ fun b ob hb eo=>sb.extBut b ob (fun h=>hb (by simp [h])) eo
 done:=fun s Q E x hQ=>by
  have hl:(pickOrder (w.params.setOrder S ep) es).size=es.size:=by
   have q:=(WB (w.params.setOrder S ep) es).length_eq
   simpa using q
  refine i5 hh x.1 x.2 hd hf rfl (fun A1 E1 Q1 q=>ar hb x.2 hd hf (by rw [j4 (by omega)];exact q)) fun h' eb=>?_;exact hQ h' s.toks fun b ob hb eo=>eb b ob (fun h=>hb (by simp [h])) eo
 self:=fun _ _ _ _ x hQ=>VU x.1 hQ
def Xb:∀ (a:Array α),a.size=1->∃ x,a=#[x]
 | ⟨[x]⟩,_=>⟨x,rfl⟩
 | ⟨[]⟩,h=>by simp at h
 | ⟨_::_::_⟩,h=>by simp at h
def xZ (p:Nat):SetTable.below #[p] 0=0:=by simp [SetTable.below,SetTable.below.go]
def below_1 (p:Nat):SetTable.below #[p] (p+1)=1:=by simp [SetTable.below,SetTable.below.go]
def ZJ (h:t.fits n=true):t.place.size=n:=by
 simp only [SetTable.fits,Ei,beq_iff_eq] at h;exact h.1
def vN (hb:GC w=false)(hh:A.handled=none)(I S:Addr)(B5:S≠I)(hd:o.data=.set es ep t)(hf:t.fits es.size=true)(h1:es.size<=1)(hl:t.led=true):
  Walks prog w A I [I,S] [I] es.size (fun i v=>(es.toList.map (·.2))[i]?=some v) (fun i h=>Ep h I (rawInt (((if i=0 then 0 else t.place.getD 0 0+1:Nat)):Int)) i S es.size ep/\h.get? S=some o) where
 sub:=fun b hb=>by simp at hb;simp [hb]
 frame:=fun _ _ _ x hk=>⟨x.1.at fun o e=>hk I (by simp) o e,hk S (by simp) _ x.2⟩
 item:=fun i s Q E hi x hQ=>by
  obtain rfl:i=0:=by omega
  have z:es.size=1:=by omega
  have zp:t.place.size=1:=(ZJ hf).trans z;obtain ⟨e,rfl⟩:=Xb es z;obtain ⟨p,hp⟩:=Xb t.place zp;have hit:=x.1;refine dW (x:=e.2) (nx:=p+1) hit x.2 hd hf rfl (fun A1 E1 Q1 q=>cB hb x.2 hd hf h1 hl (by rw [hp,mZ rfl,xZ];exact q)) fun h' O9 sb=>?_;refine hQ _ h' s.toks rfl ⟨?_,sb.extBut S o B5 x.2⟩ fun b ob hb eo=>sb.extBut b ob (fun h=>hb (by simp [h])) eo;rw [k6 (by omega),hp];exact O9
 done:=fun s Q E x hQ=>by
  refine i5 hh x.1 x.2 hd hf rfl (fun A1 E1 Q1 q=>cB hb x.2 hd hf h1 hl ?_) fun h' eb=>?_
  ·by_cases z:es.size=0
   ·rw [j4 (by omega)];exact q
   ·have z1:es.size=1:=by omega
    have zp:t.place.size=1:=(ZJ hf).trans z1;obtain ⟨p,hp⟩:=Xb t.place zp;rw [k6 z,hp];show Q1 (match es[SetTable.below #[p] (p+1)]?,(#[p]:Array Nat)[SetTable.below #[p] (p+1)]? with | some (_,x),some j=>some (x,j+1) | _,_=>none) s
    rw [below_1,j4 (by omega)];exact q
  ·exact hQ h' s.toks fun b ob hb eo=>eb b ob (fun h=>hb (by simp [h])) eo
 self:=fun _ _ _ _ x hQ=>VU x.1 hQ
def k4 (hh:A.handled=none)(I S T:Addr)(B5:S≠I)(vP:T≠I)(hd:o.data=.set es ep t)(hf:t.fits es.size=true){ps:List Nat}(hp:ps.Perm (List.range es.size))(hT:oT.data=.seq (ps.map fun i:Nat=>rawInt i).toArray nT):
  Walks prog w A I [I,S,T] [I] es.size (fun i v=>(ps.map fun p=>(es[p]?.map (·.2)).getD .none)[i]?=some v) (fun i h=>Ep h I (.ref T) i S es.size ep/\h.get? S=some o/\h.get? T=some oT) where
 sub:=fun b hb=>by simp at hb;simp [hb]
 frame:=fun _ _ _ x hk=>⟨x.1.at fun o e=>hk I (by simp) o e,hk S (by simp) _ x.2.1,hk T (by simp) _ x.2.2⟩
 item:=fun i s Q E hi x hQ=>by
  have hl:ps.length=es.size:=by have q:=hp.length_eq;simpa using q
  have Cf:i<ps.length:=by omega
  have Sl:ps[i]<es.size:=by
   have q:=hp.mem_iff.mp (Fs Cf)
   simpa using q
  have he:es[ps[i]]?=some es[ps[i]]:=SA Sl;refine vH (pl:=ps[i]) (e:=es[ps[i]]) x.1 x.2.1 hd hf rfl x.2.2 hT (by rw [ZCt,Ac,AX Cf];rfl) he fun h' O9 sb=>?_;exact hQ _ h' s.toks (by rw [Ac,AX Cf];simp only [SU,he,ZD7]) ⟨O9,sb.extBut S o B5 x.2.1,sb.extBut T oT vP x.2.2⟩ fun b ob hb eo=>sb.extBut b ob (fun h=>hb (by simp [h])) eo
 done:=fun s Q E x hQ=>by
  have hl:ps.length=es.size:=by have q:=hp.length_eq;simpa using q
  refine tV hh x.1 x.2.1 hd hf rfl x.2.2 hT (by rw [ZCt,Ac,Oz (by omega)];rfl) fun h' eb=>?_;exact hQ h' s.toks fun b ob hb eo=>eb b ob (fun h=>hb (by simp [h])) eo
 self:=fun _ _ _ _ x hQ=>VU x.1 hQ
def ZAV (es:Array (Int×Value)):(List.range es.size).map (fun p=>(es[p]?.map (·.2)).getD Value.none)=es.toList.map (·.2):=by
 refine SH (by simp) fun i h1 h2=>?_;have hi:i<es.size:=by simpa using h1
 simp [SA hi]
def R0 {l:List (Int×Value)}(h:ElemsOf (PySem.strKind prog w) l):∃ ts,StrsAre (l.map (·.2)) ts/\∀ k,k∈ts↔∃ e∈l,(PySem.strKind prog w).is k e.2=true:=by
 induction l with
 | nil=>exact ⟨[],.nil,fun k=>by simp⟩
 | cons e r ih=>
  obtain ⟨ts,h1,h2⟩:=ih h.tail;obtain ⟨⟨k,hk,_⟩,_⟩:=h.head;obtain ⟨tk,he⟩:=Value.isStrOf_shape hk;refine ⟨k::ts,?_,fun k'=>?_⟩
  ·rw [BL,he];exact .cons k tk h1
  ·rw [CL,h2 k'];constructor
   ·rintro (rfl | ⟨x,hx,q⟩)
    ·exact ⟨e,Ft,hk⟩
    ·exact ⟨x,Ek _ hx,q⟩
   ·rintro ⟨x,hx,q⟩;rcases List.mem_cons.mp hx with rfl | hx
    ·exact .inl ((PySem.strKind prog w).inj x.2 k' k q hk)
    ·exact .inr ⟨x,hx,q⟩
theorem StrsAre.len:∀ {vs:List Value}{ss:List Str},StrsAre vs ss->vs.length=ss.length
 | _,_,.nil=>rfl
 | _,_,.cons _ _ h=>by rw [By,By,StrsAre.len h]
def StrsAre.perm {vs Bh:List Value}(h:StrsAre vs ss)(p:Bh.Perm vs):∃ A9,StrsAre Bh A9/\A9.Perm ss:=by
 refine ⟨Bh.map strOf,strsAre_map Bh fun v hv=>h.all v (p.mem_iff.mp hv),?_⟩;rw [<- h.strs];exact p.map strOf
section
def kK {f:Str->Bool}{Q:Value->Shared->Prop}(hS:D0 prog w s.heap S f n)
  (h:∀ (I:Addr) (h1:Heap) (d:_) (fp:List Addr) (vs:List Value) (ts:List Str) (St:Nat->Heap->Prop),(∀ A2:Around,A2.handled=none->Walks prog w A2 I fp [I] n (fun i v=>vs[i]?=some v) St)->St 0 h1->(∀ b∈fp,b=S∨s.heap.objs.size<=b/\b<h1.objs.size)->s.heap.objs.size<=I->s.heap.objs.size<=h1.objs.size->
   (∀ b o,s.heap.get? b=some o->h1.get? b=some o)->StrsAre vs ts->ts.length=n->(∀ k,f k=true↔k∈ts)->Q (.ref I) { s with heap:=h1,drawn:=d }):wpAny (model prog w) A (pyIter (.ref S)) Q E s:=by
 obtain ⟨o,es,ep,t,ho,hex,hd,Lj,Fc,hb,hf,hn,Rk,Bz⟩:=hS;subst hn;have hT:s.TypeIs (.ref S) "set" := ⟨o,ho,hex.1⟩;have AQ:S<s.heap.objs.size:=B9 ho;obtain ⟨ts0,t1,t2⟩:=R0 Lj;have fin:∀ (I:Addr) (h1:Heap) (d:_) (fp:List Addr) (vs:List Value) (St:Nat->Heap->Prop),(∀ A2:Around,A2.handled=none->Walks prog w A2 I fp [I] es.size (fun i v=>vs[i]?=some v) St)->St 0 h1->(∀ b∈fp,b=S∨s.heap.objs.size<=b/\b<h1.objs.size)->s.heap.objs.size<=I->s.heap.objs.size<=h1.objs.size->
   (∀ b o,s.heap.get? b=some o->h1.get? b=some o)->vs.Perm (es.toList.map (·.2))->Q (.ref I) { s with heap:=h1,drawn:=d }:=by
  intro I h1 d fp vs St a1 a2 a3 a4 a5 a6 a7;obtain ⟨ts,q1,q2⟩:=StrsAre.perm t1 a7;refine h I h1 d fp vs ts St a1 a2 a3 a4 a5 a6 q1 ?_ fun k=>?_
  ·rw [q2.length_eq,<- StrsAre.len t1];simp
  ·rw [Fc k,<- t2 k];exact q2.mem_iff.symm
 refine wpAny_pyIter_slot hT F.slot_set_iter (oY F.slot_set_iter hT ZBT ?_ (F.args_set_iter_1 _));unfold Builtin.«frozenset.__iter__»;refine ji (yB (a:=S) rfl ?_);refine ji ?_;unfold Builtin.Frozenset.sizeOf;refine ji (uX ho hd hf (jx ?_));refine ji (wH ho hd hf ?_)
 by_cases Np:(!GC w && (!t.plain && decide (es.size > 1)))=true
 ·rw [mZ Np];refine ji ?_;refine qm es.size (List.range es.size) _ _ (by rw [LK];exact Ai _) fun ps d hp=>?_;have pz:(ps.map fun i:Nat=>rawInt i).length<=sizeLine:=by rw [AA,hp.length_eq,LK];exact ZAe hb
  refine ji (wpAny_newTuple ?_ pz);dsimp only;refine ji (wpAny_setEpoch_of (s:={ s with heap:=_,drawn:=d }) (BQ _ ho) hd hf ?_)
  refine ji (p7 ?_);have g:∀ (q:Obj) (b:Addr) (ob:Obj),s.heap.get? b=some ob->((s.heap.push (seqObj "tuple" (ps.map fun i:Nat=>rawInt i).toArray 0)).push q).get? b=some ob:=fun q b ob e=>BQ _ (BQ _ e);have Lv:(s.heap.push (seqObj "tuple" (ps.map fun i:Nat=>rawInt i).toArray 0)).objs.size=s.heap.objs.size+1:=Dr ..;refine jx ⟨_,rfl, "set_iterator", _,⟨_,Ba _ rfl,rfl⟩,Gf.lookup,?_⟩;refine fin _ _ d [(s.heap.push (seqObj "tuple" (ps.map fun i:Nat=>rawInt i).toArray 0)).objs.size,S,s.heap.objs.size] _ _ (fun A2 hh=>k4 hh _ S s.heap.objs.size (by rw [Lv];exact Bf (Js AQ)) (by rw [Lv];exact Bf (LN _)) hd hf hp (oT:=seqObj "tuple" (ps.map fun i:Nat=>rawInt i).toArray 0) rfl) ⟨⟨_,Ba _ rfl,rfl,rfl⟩,g _ _ _ ho,BQ _ (Ba _ rfl)⟩ ?_ (by show s.heap.objs.size<=(s.heap.push (seqObj "tuple" (ps.map fun i:Nat=>rawInt i).toArray 0)).objs.size;rw [Lv];exact Fu _) ?_ (g _) ?_
  ·intro b C4;simp only [CL,Aa,pN] at C4;rw [Dr,Lv];rcases C4 with rfl | rfl | rfl
   ·right;rw [Lv];exact ⟨Fu _,LN _⟩
   ·left;rfl
   ·right;exact ⟨Ai _,Js (LN _)⟩
  ·rw [Dr,Lv];exact jO (Fu _)
  ·rw [<- ZAV];exact hp.map _
 ·rw [k6 Np];refine ji (jx ?_);refine ji (wpAny_setEpoch_of ho hd hf ?_);refine ji (p7 ?_);have g:∀ (q:Obj) (b:Addr) (ob:Obj),s.heap.get? b=some ob->(s.heap.push q).get? b=some ob:=fun q b ob e=>BQ _ e;refine jx ⟨_,rfl, "set_iterator", _,⟨_,Ba _ rfl,rfl⟩,Gf.lookup,?_⟩;have Ma:∀ (q:Obj),∀ b∈[s.heap.objs.size,S],b=S∨s.heap.objs.size<=b/\b<(s.heap.push q).objs.size:=by
   intro q b C4;simp only [CL,Aa,pN] at C4;rw [Dr];rcases C4 with rfl | rfl
   ·right;omega
   ·left;rfl
  cases Rr:GC w with
  | true=>
   refine fin _ _ s.drawn [s.heap.objs.size,S] _ _ (fun A2 hh=>yG Rr hh _ S (Bf AQ) hd hf) ⟨⟨_,Ba _ rfl,rfl,rfl⟩,g _ _ _ ho⟩ (Ma _) (Ai _) (by rw [Dr];omega) (g _) ?_;exact (WB _ _).map _
  | false=>
   have h1:es.size<=1:=by
    rw [Rr] at Np
    by_cases z:es.size<=1
    ·exact z
    ·rw [Bz (by omega),jy (by omega:es.size > 1)] at Np;exact absurd rfl Np
   refine fin _ _ s.drawn [s.heap.objs.size,S] _ _ (fun A2 hh=>vN Rr hh _ S (Bf AQ) hd hf h1 (by rw [Rk,Rr];rfl)) ⟨⟨_,Ba _ rfl,rfl,rfl⟩,g _ _ _ ho⟩ (Ma _) (Ai _) (by rw [Dr];omega) (g _) (SF _)
def yM:typeLookup (.type "set") "__len__"=pure (some (.builtin "set.__len__")):=by rw [xE,r8];kernel_rfl
def jv {f:Str->Bool}{Q:List Value->Shared->Prop}(hh:A.handled=none)(hS:D0 prog w s.heap S f n)(hn:n<=sizeLine)
  (h:∀ (s':Shared) (vs:List Value) (ts:List Str),(∀ b o,s.heap.get? b=some o->s'.heap.get? b=some o)->s.heap.objs.size<=s'.heap.objs.size->s'.gens=s.gens->s'.os=s.os->StrsAre vs ts->ts.length=n->(∀ k,f k=true↔k∈ts)->Q vs s') :
  wpAny (model prog w) A (collect (.ref S)) Q E s:=by
 have AQ:S<s.heap.objs.size:=by obtain ⟨o,_,_,_,ho,_⟩:=hS;exact B9 ho
 have O6:s.heap.objs.size≠S:=J4 AQ;unfold collect;refine ji (wpAny_runValue (xQ F.entry_proto_collect ?_));rw [S9 F.plain_proto_collect _];show wpAny _ A.in1 (newList [] >>= fun l=>again (.builtin "list.__iadd__" ⟨[l,.ref S],[]⟩)) _ _ s;refine ji (p7 ?_);refine jx ⟨yu F.plain_list_iadd _,xQ F.entry_list_iadd ?_⟩;rw [S9 F.plain_list_iadd _];generalize iZ:({ cls:=.type "list", data:=.seq ([]:List Value).toArray }:Obj)=so;have IC:D0 prog w (s.heap.push so) S f n:=hS.keep fun o e=>BQ _ e;have rl:(s.heap.push so).get? s.heap.objs.size=some so:=Ba _ (by rw [<- iZ];rfl);have sz:(s.heap.push so).objs.size=s.heap.objs.size+1:=Dr ..;have Ms:Shared.TypeIs { s with heap:=s.heap.push so } (.ref S) "set" := by obtain ⟨o,_,_,_,ho,hex,_⟩:=IC;exact ⟨o,ho,hex.1⟩
 have h1:Builtin.List.listSameRef (.ref s.heap.objs.size) (.ref S)=false:=by simp [Builtin.List.listSameRef,O6]
 show wpAny _ A.in1 (Builtin.List.listExtendWith (.ref s.heap.objs.size) (.ref S) (.ref s.heap.objs.size)) _ _ { s with heap:=s.heap.push so }
 unfold Builtin.List.listExtendWith;refine ji (vh Ms ?_);rw [k6 (by rw [h1];decide)];refine ji (kK (s:={ s with heap:=s.heap.push so }) IC fun I h2 d fp vs ts St W La Ma hI ZDy kp Tw tl tm=>?_)
 have E4:s.heap.objs.size∉fp:=fun hm=>by
  rcases Ma _ hm with z | ⟨z,_⟩
  ·exact O6 z
  ·have z':(s.heap.push so).objs.size<=s.heap.objs.size:=z;rw [sz] at z';omega
 have L4:Shared.TypeIs { s with heap:=h2,drawn:=d } (.ref S) "set" := by obtain ⟨o,ho,hc⟩:=Ms;exact ⟨o,kp _ _ ho,hc⟩
 refine ji (q8 ?_);unfold Builtin.List.listLengthHint;refine ji (z9 L4 yM ?_);generalize Jh:("set.__len__":String)=Mx
 wp_delta
 rw [show splitId Mx=some ("set","__len__") from by subst Jh;decide +kernel];subst Jh;refine ji (vT (b:=true) L4 (by rw [sD];kernel_rfl) ?_);rw [k6 (by decide)];refine ZAB (fun _=>?_) (fun FT=>absurd (by decide +kernel) FT);refine ji (vh L4 ?_);refine jx ?_;refine ZAB (fun _=>?_) (fun FT=>absurd (by decide +kernel) FT);refine ji (zG ?_);refine ji ?_;show wpAny _ _ (updateSeq s.heap.objs.size (·.push .none) >>= fun _=>updateSeq s.heap.objs.size (·.pop)) _ _ _
 have z0:(#[]:Array Value).size<=sizeLine:=CM _;have z1:((#[]:Array Value).push Value.none).size<=sizeLine:=by show 1<=sizeLine;decide
 have z2:((#[]:Array Value).push Value.none).size<=sizeLine+1:=jO z1;have z3:(((#[]:Array Value).push Value.none).pop).size<=sizeLine+1:=CM _;have Mt:=kp _ _ rl;subst iZ;refine ji (vy (s:={ s with heap:=h2,drawn:=d }) Mt rfl ?_ z0 z2)
 have q2:=GR (Obj.mapSeq (·.push Value.none)) Mt rfl
 refine vy q2 rfl ?_ z1 z3;have q3:=GR (Obj.mapSeq (·.pop)) q2 rfl
 have Jj:∀ b o,b≠s.heap.objs.size->h2.get? b=some o->((h2.update s.heap.objs.size (Obj.mapSeq (·.push Value.none))).update s.heap.objs.size (Obj.mapSeq (·.pop))).get? b=some o:=
  fun b o hb e=>(Hq _ _ (Bs hb)).trans ((Hq _ _ (Bs hb)).trans e)
 refine jx ⟨yu ZDA _,ZA7 (W A.in1 hh).toS hn _ E4 _ n 0 _ #[] _ rfl (CM _) ?_ q3 (ItemsOf.nil _) fun s' DE c' hm Dm Ay=>?_⟩
 ·exact (W A.in1 hh).frame 0 h2 _ La fun b hb o e=>Jj b o (fun z=>E4 (z▸hb)) e
 ·show wpAny _ A (load s.heap.objs.size >>= _) _ _ s';refine ji (wpAny_load Dm ?_);have ev:DE.toList=vs:=by
   have hvl:vs.length=n:=(StrsAre.len Tw).trans tl;refine jE fun i=>?_
   by_cases hi:i<n
   ·have h1:DE[i]?=some (DE[i]'(by rw [Ay.1];exact hi)):=SA _;rw [SD,h1];exact (Ay.2 i _ h1).symm
   ·rw [Oz (by rw [HE,Ay.1];omega),Oz (by omega)]
  refine jx ?_;rw [<- ev] at Tw;refine h s' DE.toList ts (fun b o e=>?_) (P4 (B9 Dm)) hm.gens hm.os Tw tl tm;have hb:b<s.heap.objs.size:=B9 e;refine hm.heap b o ?_ (Jj b o (Bf hb) (kp b o (BQ _ e)));simp only [CL,Aa,pN,ZB3];refine ⟨Bf hb,?_⟩;have pU:s.heap.objs.size+1<=I:=by rw [<- sz];exact hI
  exact Bf (E9 hb (Nat.le_of_succ_le pU))
variable {R:Result->Shared->Prop}{wr:List Addr}{G:Array GenState->Array GenState->Prop}{P:Nat->Value->Prop}{St:Nat->Shared->Prop}
def ZAW (W:WalksS prog w A.in1 I fp wr G ss.length P St)(S:Addr)(E4:S∉fp)(Xu:∀ i v,P i v->∃ (h:i<ss.length) (t:Tok),v=.str ss[i] t)(hb:ss.length+1<scanBound):
  ∀ (k i:Nat) (s:Shared),ss.length - i=k->i<=ss.length->St i s->D0 prog w s.heap S (fun k'=>(dd (ss.take i)).any (· == k')) (dd (ss.take i)).length->
   (∀ s',Moved (S::wr) G s s'->D0 prog w s'.heap S (fun k'=>(dd ss).any (· == k')) (dd ss).length->R (.ok (.ret .none)) s')->
   codeAny (model prog w) A (.builtin "set.update.loop" ⟨[.ref S,.ref I],[]⟩) R s:=by
 have xA:S∉wr:=fun h=>E4 (W.sub _ h);have Zz:∀ {s s':Shared}{f:Str->Bool}{m:Nat},Moved wr G s s'->D0 prog w s.heap S f m->D0 prog w s'.heap S f m:=fun hm hS=>hS.keep fun o ho=>hm.heap S _ xA ho;intro k
 induction k with
 | zero=>
  intro i s hk hi Cb hS fin;have e:i=ss.length:=by omega
  subst e;refine xQ ZD9 ?_;rw [S9 jT _];show wpAny _ A.in1 (pyNext (.ref I) >>= _) _ _ s;refine ji (W.done s _ _ Cb fun s' hm=>?_);show wpAny _ A.in1 (ret Value.none) _ _ s';rw [FQ] at hS;exact jx (fin s' (hm.mono fun b hb=>Ek _ hb) (Zz hm hS))
 | succ k ih=>
  intro i s hk hi Cb hS fin;have AQ:i<ss.length:=by omega
  refine xQ ZD9 ?_;rw [S9 jT _];show wpAny _ A.in1 (pyNext (.ref I) >>= _) _ _ s;refine ji (W.item i s _ _ AQ Cb fun v s' hP mJ hm=>?_);obtain ⟨_,t,rfl⟩:=Xu i v hP;have Dm:=Zz hm hS;show wpAny _ A.in1 (holding [Value.str ss[i] t] (setAdd S (.str ss[i] t)) >>= _) _ _ s';refine ji (q8 ?_);unfold setAdd;have his:(PySem.strKind prog w).is ss[i] (.str ss[i] t)=true:=ZDK prog w ss[i] t;refine q8 (ji ((PySem.strKind prog w).pyHash his ?_));have OX:(dd (ss.take i)).length+1<scanBound:=by
   have:=UZ (ss.take i);rw [DM] at this;omega
  refine D0.put (s:={ s' with toks:=s'.toks+1 }) Dm OX fun h' JY VD=>?_
  have hSi:D0 prog w h' S (fun k'=>(dd (ss.take (i+1))).any (· == k')) (dd (ss.take (i+1))).length:=
   VD.congr (fun k'=>by rw [ba ss i AQ,ZCa]) (by rw [ba ss i AQ,T4])
  refine jx ⟨yu jT _,ih (i+1) _ (by omega) AQ (W.frame _ s' _ _ mJ (Fu _) fun b hb o e=>?_) hSi fun Ky ZC2 pD=>?_⟩
  ·rw [JY.2 b (by rintro rfl;exact E4 hb)];exact e
  ·refine fin Ky (Moved.trans W.gtrans ((hm.mono fun b hb=>Ek _ hb).then_heap (Fu _) fun b o hb e=>?_) ZC2) pD;rw [JY.2 b (by rintro rfl;exact hb Ft)];exact e
def vZ (a:Value)
  (h:Q₁ (.ref s.heap.objs.size) { s with heap:=s.heap.push { cls:=.type "set", dict:=none,data:=.set #[] 0 (.fresh 0 0 (!GC w)) } }) :
  codeAny (model prog w) A (.call (.builtin "set.__new__") ⟨[.type "set", a],[]⟩) (wants Q₁ E) s:=by
 refine codeAny_of_tree ?_;show wpAny _ A.in1 (do checkBuiltinCall "set.__new__" ⟨[.type "set", a],[]⟩;again (.builtin "set.__new__" ⟨[.type "set", a],[]⟩)) _ _ s
 refine ji (yB (PySem.F.newCall_set_1 a) ?_);refine jx ⟨yu ZDB _,xQ PySem.F.entry_set_new ?_⟩;rw [S9 ZDB _];unfold Builtin.«set.__new__» Builtin.Frozenset.newClass;have G4:isSubtype (.type "set") (.type "set")=pure true:=by rw [sD];kernel_rfl
 obtain ⟨hp,g,d,tk,os⟩:=s;dsimp only
 wp_walk
 refine ve (jx ?_);dsimp only;simp only [newObj];refine ji (wpAny_alloc (jx ?_));exact jx h
def cb {l:Addr}{T:String}{od:Option Addr}{Ga:Array (Option Value)}{Q:Value->Shared->Prop}(ho:s.heap.get? l=some { cls:=.type T,dict:=od,data:=.seq items nl,slots:=Ga })
  (hs1:isSubtype (.type T) (.type "set")=pure false) (Ce:isSubtype (.type T) (.type "frozenset")=pure false) (B5:(Value.type T == Value.type "dict")=false) (hb:ss.length+1<scanBound)
  (hit:∀ (s1:Shared) (A1:Around) (Q1:Value->Shared->Prop),A1.handled=A.handled->s1.heap.get? l=s.heap.get? l->l<s1.heap.objs.size->
   (∀ ob St P,WalksS prog w A1.in1 s1.heap.objs.size [s1.heap.objs.size,l] [s1.heap.objs.size] (fun a b=>b=a) ss.length P St->(∀ i v,P i v->∃ (h:i<ss.length) (t:Tok),v=.str ss[i] t)->St 0 { s1 with heap:=s1.heap.push ob }->Q1 (.ref s1.heap.objs.size) { s1 with heap:=s1.heap.push ob })->
   wpAny (model prog w) A1 (pyIter (.ref l)) Q1 E s1)
  (h:∀ (h':Heap) (tk:Nat),D0 prog w h' s.heap.objs.size (fun k'=>(dd ss).any (· == k')) (dd ss).length->(∀ b o,b<s.heap.objs.size->s.heap.get? b=some o->h'.get? b=some o)->Q (.ref s.heap.objs.size) { s with heap:=h',toks:=tk }) :
  wpAny (model prog w) A (call (.type "set") [.ref l]) Q E s:=by
 have AQ:l<s.heap.objs.size:=B9 ho;obtain ⟨c,tl,ZE4⟩:=PySem.F.called_set.mro;have ZDO:=PySem.F.called_set.made;have G4:=PySem.F.called_set.sub;refine wpAny_call (codeAny_of_tree (by
  show wpAny _ _ (callAny (.type "set") _) _ _ _;refine jx ⟨Code.quiet_builtin _ (by decide +kernel),xQ PySem.F.entry_type_call ?_⟩;rw [Around.under_plain (weight_type_call_type "set" [.ref l] []) rfl];have h1:=PySem.F.called_set.notType;have h2:=PySem.F.called_set.canCreate;have hct:=PySem.F.typeCall_set_1 (.ref l)
  repeat (any_goals (first | assumption | wp_step))
  refine ZA4 (vZ (.ref l) (E:=E) (Q₁:=fun obj s₁=>obj=.ref s.heap.objs.size/\s₁={ s with heap:=s.heap.push { cls:=.type "set", dict:=none,data:=.set #[] 0 (.fresh 0 0 (!GC w)) } }) ⟨rfl,rfl⟩) fun r s₁ hr=>?_
  cases r with
  | error e=>exact hr
  | ok fl=>
   cases fl with
   | ret obj=>
    obtain ⟨rfl,rfl⟩:=hr;generalize Y6:({ cls:=.type "set", dict:=none,data:=.set #[] 0 (.fresh 0 0 (!GC w)) }:Obj)=so;have hsz:(s.heap.push so).objs.size=s.heap.objs.size+1:=Dr ..;have hS:(s.heap.push so).get? s.heap.objs.size=some so:=Ba _ (by rw [<- Y6];rfl);have hT:Shared.TypeIs { s with heap:=s.heap.push so } (.ref s.heap.objs.size) "set" := ⟨_,hS,by rw [<- Y6]⟩
    have hli:=PySem.F.called_set.init.lookup;have hbi:=PySem.F.called_set.init.bind (.ref s.heap.objs.size)
    repeat (any_goals (first | assumption | wp_step))
    refine ZA4 (codeAny_call_builtin (R:=wants (fun r s₂=>r=.none/\∃ h' tk,s₂={ s with heap:=h',toks:=tk }/\D0 prog w h' s.heap.objs.size (fun k'=>(dd ss).any (· == k')) (dd ss).length/\
      (∀ b o,b<s.heap.objs.size->s.heap.get? b=some o->h'.get? b=some o)) E) PySem.F.called_set.init.plain PySem.F.entry_set_init (check_set_init_1 hT ?_)) fun r₂ s₂ hr₂=>?_
    ·have EN:(s.heap.push so).get? l=some { cls:=.type T,dict:=od,data:=.seq items nl,slots:=Ga }:=BQ _ ho;subst Y6;unfold Builtin.«set.__init__» noKeywords Builtin.Frozenset.updateFrom;generalize hPI:pyIter=PI
     wp_walk
     subst hPI;refine hit { s with heap:=s.heap.push _ } _ _ rfl (EN.trans ho.symm) (Nat.lt_of_lt_of_eq (Js AQ) hsz.symm) fun ob St P W Xu La=>?_
     refine ji (wpAny_runValue ?_);have E4:s.heap.objs.size∉[(s.heap.push { cls:=.type "set", dict:=none,data:=.set #[] 0 (.fresh 0 0 (!GC w)) }).objs.size,l]:=by
      rw [hsz];simp only [CL,Aa,pN,ZB3];exact ⟨Bf (LN _),J4 AQ⟩
     refine ZAW W s.heap.objs.size E4 Xu hb (ss.length - 0) 0 _ rfl (CM _) La ?_ ?_
     ·have hg:=BQ ob hS;exact ⟨_,#[],0,_,hg,⟨rfl,rfl,rfl⟩,rfl,fun e he=>by simp at he,fun k=>by simp [dd],by decide,by rfl,rfl,rfl,fun h=>absurd h (by simp)⟩
     ·intro s' hm Dm;obtain ⟨h',g',d',Tr,Ng⟩:=s';have eg:g'=s.gens:=hm.gens;have ed:d'=s.drawn:=hm.drawn;have eo:Ng=s.os:=hm.os;subst eg;subst ed;subst eo;show wpAny _ _ _ _ _ _;refine jx ?_;show wpAny _ _ (ret Value.none) _ _ _;refine jx ⟨rfl,h',Tr,rfl,Dm,fun b o C4 e=>?_⟩;refine hm.heap b o ?_ (BQ _ (BQ _ e));rw [hsz];simp only [CL,Aa,pN,ZB3];exact ⟨Bf C4,Bf (Js C4)⟩
    ·cases r₂ with
     | error e=>exact hr₂
     | ok fl₂=>
      cases fl₂ with
      | ret r=>
       obtain ⟨rfl,h',tk,rfl,Dm,VS⟩:=hr₂
       repeat (any_goals (first | assumption | wp_step))
       exact h _ _ Dm VS
      | _=>exact hr₂.elim
   | _=>exact hr.elim))
end
noncomputable def IL (P:Program)(w:World)(a:Addr)(f:Str->Bool)(n:Nat):HO:=.ext fun h=>D0 P w h a f n
def dQ (hc:X.calm=true):CJ X (.type "set") (fun xs H Q=>∃ (p:Addr) (tp:Bool) (ss:List Str),xs=[.ref p]/\EM X.K tp H p (ss.map V.str)/\ss.length<4000/\
  ∀ l,H l=none->Q (.ref l) (upd H l (IL X.prog X.w l (fun k'=>(dd ss).any (· == k')) (dd ss).length))):=by
 intro pins s σ H xs us Q I r h;obtain ⟨p,tp,ss,rfl,hq,hz,q⟩:=h;obtain ⟨u,rfl,rx⟩:=vals1 r;cases rx;have hb:ss.length+1<scanBound:=by unfold scanBound;omega
 have fin:∀ (h':Heap) (tk:Nat),D0 X.prog X.w h' s.heap.objs.size (fun k'=>(dd ss).any (· == k')) (dd ss).length->(∀ b o,b<s.heap.objs.size->s.heap.get? b=some o->h'.get? b=some o)->
   EP X pins σ Q (.ref s.heap.objs.size) { s with heap:=h',toks:=tk }:=fun h' tk hS kp=>by
  refine ⟨.ref s.heap.objs.size,_,I.laid (t':=tk) (fun b o e=>kp b o (B9 e) e) (Ai _) (show CI X.prog X.w _ h' _ (IL X.prog X.w s.heap.objs.size _ _) from ⟨hS,?_,fun h1 h2 IC yr=>?_⟩),rfl,q _ (I.AK.fresh (Ai _))⟩
  ·obtain ⟨o,_,_,_,ho,_⟩:=hS;exact ⟨o,ho⟩
  ·exact IC.keep yr
 cases tp with
 | false=>
  obtain ⟨A3,rv,pl,XT⟩:=I.list hq;have hl:=rv.length;rw [AA] at hl;obtain ⟨⟨c,d,dt,sl⟩,n,ho,FV,hd,Hg⟩:=id pl;simp only at FV hd Hg;subst FV;subst hd;subst Hg;refine cb ho PySem.F.sub_list_set PySem.F.sub_list_frozenset (by decide) hb (fun s1 A1 Q1 hA e1 l1 TY=>?_) fin;have GD:s1.heap.IsList p A3.toArray:=⟨_,e1.trans ho,rfl,n,rfl⟩;have VX:A3.toArray.size=ss.length:=List.size_toArray.trans hl.symm;refine xS GD (TY _ (fun i s=>s.heap.IsListIter s1.heap.objs.size p i/\s.heap.IsList p A3.toArray) (fun i v=>A3.toArray[i]?=some v) (by
   have W:=(Walks.list (prog:=X.prog) (w:=X.w) (A:=A1.in1) (by rw [j3,hA];exact I.ok.hd hc) s1.heap.objs.size p (Bf l1) A3.toArray).toS;rw [VX] at W;exact W) (fun i v e=>Xe rv (by simpa using e)) ⟨⟨_,Ba _ rfl,rfl,rfl⟩,GD.push _⟩)
 | true=>
  obtain ⟨A3,rv,pl,XT⟩:=I.tuple hq;have hl:=rv.length;rw [AA] at hl;obtain ⟨⟨c,d,dt,sl⟩,ho,FV,n,Hg⟩:=id pl;simp only at FV Hg;subst FV;subst Hg;refine cb ho sub_tuple_set sub_tuple_frozenset (by decide) hb (fun s1 A1 Q1 hA e1 l1 TY=>?_) fin;have GD:s1.heap.IsTuple p A3.toArray:=⟨_,e1.trans ho,rfl,n,rfl⟩;have VX:A3.toArray.size=ss.length:=List.size_toArray.trans hl.symm;refine ZAP GD (TY _ (fun i s=>s.heap.IsTupleIter s1.heap.objs.size p i/\s.heap.IsTuple p A3.toArray) (fun i v=>A3.toArray[i]?=some v) (by
   have W:=(Walks.tuple (prog:=X.prog) (w:=X.w) (A:=A1.in1) (by rw [j3,hA];exact I.ok.hd hc) s1.heap.objs.size p (Bf l1) A3.toArray).toS;rw [VX] at W;exact W) (fun i v e=>Xe rv (by simpa using e)) ⟨⟨_,Ba _ rfl,rfl,rfl⟩,?_⟩)
  exact ⟨_,BQ _ (e1.trans ho),rfl,n,rfl⟩
def Inv.drew (I:Inv X pins σ H s)(d:Drawn):Inv X pins σ H { s with drawn:=d }:=
 I.step (h':=s.heap) (g':=s.gens) (t':=s.toks) (d':=d) (ch:=[]) (fun _ z=>nomatch z) (fun b o _ _ _ e _=>e) (fun b o _ _ _ e _=>⟨o.slots,e⟩) (fun _ _ _ _ n=>n) (fun b o _ e=>⟨o,e⟩) (fun _ _ e=>e) (fun _ _ _ e=>e) (fun b ps e=>⟨#[],by rw [e];simp⟩) (fun m hm=>hm) I.AK I.bare
def qe {Pc:List Value->Shared->Prop}{Q:Value->Shared->Prop}
  (hc:∀ (A1:Around) (E1:Value->Shared->Prop) (Q1:List Value->Shared->Prop),A1.handled=A.handled->(∀ vs s1,Pc vs s1->Q1 vs s1)->wpAny (model prog w) A1 (collect v) Q1 E1 s)
  (h:∀ vs s1,Pc vs s1->vs.length<64/\∃ ss,StrsAre vs ss/\∀ out A9 e h',(∀ b o,s1.heap.get? b=some o->h'.get? b=some o)->h'.get? s1.heap.objs.size=some (seqObj "list" out e)->StrsAre out.toList A9->A9.Perm ss->sortedS A9=true->Q (.ref s1.heap.objs.size) { s1 with heap:=h' }) :
  wpAny (model prog w) A (call (.builtin "sorted") [v]) Q E s:=by
 refine Calls.call_function_entry kind_sorted plain_sorted entry_sorted (args_sorted1 _) ?_;unfold Builtin.«sorted»;refine ji (m:=checkCount "sorted" 1 1 _) (jx ?_);refine ji (hc _ _ _ rfl fun vs s1 hp=>?_);obtain ⟨L6,ss,Ip,k⟩:=h vs s1 hp;refine ji (wpAny_newList ?_);have Nz:(s1.heap.push (seqObj "list" vs.toArray 0)).get? s1.heap.objs.size=some (seqObj "list" vs.toArray 0):=Ba _ rfl;refine ji (q8 (oY slot_list_sort ⟨_,Nz,rfl⟩ entry_list_sort (list_sort_treeK (s:={ s1 with heap:=s1.heap.push (seqObj "list" vs.toArray 0) }) strKind_oneLt Nz Ip.keysOf (fun v₁ v₂ rest e=>keyKind_strs (by rw [<- e];exact Ip)) L6 fun DZ a1 a2=>⟨_,rfl,?_⟩) (args_list_sort _)))
 obtain ⟨A9,b1,b2,b3⟩:=sorted_out_str Ip a1 a2;obtain ⟨e,he⟩:=sortedHeap_at (out:=(arrOf DZ).map (·.2)) Nz
 refine jx ⟨_,rfl,k _ A9 e _ (fun b o hb=>?_) he b1 b2 b3⟩;have AQ:=B9 hb;rw [sortedHeap_old (Bf AQ) (by rw [Dr];exact Js AQ)];exact BQ _ hb
theorem aH:∀ {ss:List Str}{us:List Value},StrsAre us ss->Vals (ss.map V.str) us
 | _,_,.nil=>.nil
 | _,_,.cons x t h=>.cons ⟨t,rfl⟩ (aH h)
def vx {s1:Shared}{Q:VK}(I:Inv X pins σ H s)(hg:s1.gens=s.gens)(ho:s1.os=s.os)(hk:∀ b o,s.heap.get? b=some o->s1.heap.get? b=some o)(hs:s.heap.objs.size<=s1.heap.objs.size)
  {out:Array Value}{e:Nat}(kp:∀ b o,s1.heap.get? b=some o->h'.get? b=some o) (he:h'.get? s1.heap.objs.size=some (seqObj "list" out e)) (hS:StrsAre out.toList A9) (L6:A9.length<64)
  (q:∀ l,H l=none->Q (.ref l) (upd H l (.lst (A9.map V.str)))):EP X pins σ Q (.ref s1.heap.objs.size) { s1 with heap:=h' }:=by
 obtain ⟨h1,g1,d1,t1,o1⟩:=s1;simp only at hg ho hk hs kp he;subst hg;subst ho;refine ⟨.ref _,_,(I.drew d1).laid (a:=h1.objs.size) (h':=h') (t':=t1) (o:=.lst (A9.map V.str)) (fun b o q=>kp b o (hk b o q)) hs ?_,rfl,q _ (I.AK.fresh hs)⟩;refine ⟨?_,out.toList,e,aH hS,by simpa [seqObj] using he⟩
 rw [AA];exact D1 (P4 L6) (by decide +kernel)
def aV (P:Program)(w:World):List V->Hp->VK->Prop:=fun xs H Q=>∃ (p:Addr) (f:Str->Bool) (n:Nat),xs=[.ref p]/\H p=some (IL P w p f n)/\n<64/\∀ l ts,H l=none->ts.length=n->(∀ k,f k=true↔k∈ts)->sortedS ts=true->Q (.ref l) (upd H l (.lst (ts.map V.str)))
def yP (hc:X.calm=true):CJ X (.builtin "sorted") (aV X.prog X.w):=by
 intro pins s σ H xs us Q I r h;obtain ⟨p,f,n,rfl,hH,L6,q⟩:=h;obtain ⟨u,rfl,rx⟩:=vals1 r;cases rx;have hS:D0 X.prog X.w s.heap p f n:=(I.AK p _ hH).1;have hh:X.A.handled=none:=I.ok.hd hc;refine qe (Pc:=fun vs s1=>∃ ts,(∀ b o,s.heap.get? b=some o->s1.heap.get? b=some o)/\s.heap.objs.size<=s1.heap.objs.size/\s1.gens=s.gens/\s1.os=s.os/\StrsAre vs ts/\ts.length=n/\(∀ k,f k=true↔k∈ts)) (fun A1 E1 Q1 hA k=>?_) ?_
 ·exact jv (hA.trans hh) hS (D1 (P4 L6) (by decide +kernel)) fun s' vs ts a1 a2 a3 a4 a5 a6 a7=>k vs s' ⟨ts,a1,a2,a3,a4,a5,a6,a7⟩
 ·rintro vs s1 ⟨ts,a1,a2,a3,a4,a5,a6,a7⟩;refine ⟨by rw [StrsAre.len a5,a6];exact L6,ts,a5,fun out A9 e h' kp he Dm hp hs=>?_⟩;exact vx I a3 a4 a1 a2 kp he Dm (by rw [hp.length_eq,a6];exact L6) fun l hl=>q l A9 hl (hp.length_eq.trans a6) (fun k=>(a7 k).trans hp.mem_iff.symm) hs
theorem YH:∀ {ss:List Int}{us:List Value},Vals (ss.map V.int) us->IntsAre us ss
 | [],_,.nil=>.nil
 | x::r,_,.cons ⟨t,e⟩ h=>by rw [e];exact .cons x t (YH h)
end L2
namespace HT
open AutoSeq1 (wpAny_loadPart')
variable {E Q:Value->Shared->Prop}{it tu:Addr}{i:Nat}
section
variable {prog:Program}{w:World}{A:Around}{s:Shared}
def vz {vals:Array Value}{v:Value}(hi:s.heap.IsTupleIter it tu i)(ht:s.heap.IsTuple tu vals)(hv:vals[i]?=some v)
  (q:∀ h',h'.IsTupleIter it tu (i+1)->Heap.SameBut it s.heap h'->Q v { s with heap:=h' }):wpAny (model prog w) A (Builtin.SmallTypes.nextOf (.ref it)) Q E s:=by
 obtain ⟨o,ho,hc,hd⟩:=id hi;obtain ⟨o2,Gp,_,k,hd2⟩:=ht;unfold Builtin.SmallTypes.nextOf;refine ji (oJ (name:=Str.ofString "__next__") hi.typeIs YL (oY YL hi.typeIs ZCf ?_ (ZCe _)));show wpAny _ _ (field (.ref it) 0 >>= _) _ _ s;refine ji (pS ho hd (x:=.ref tu) rfl ?_);show wpAny _ _ (if (Value.ref tu == Value.none)=true then _ else _) _ _ s;rw [k6 (show ¬ ((Value.ref tu == Value.none)=true) from Cr)]
 show wpAny _ _ (field (.ref it) 1 >>= _) _ _ s;refine ji (pS ho hd (x:=.int i 0) rfl ?_);show wpAny _ _ (seqItems? (.ref tu) >>= _) _ _ s;refine ji (qr Gp hd2 ?_);simp only [HF,hv];refine ji (rb ho hd (by simp) (jx ⟨v,rfl,jx (q _ ?_ (Mf ..))⟩));exact ⟨_,GR _ ho (SS (J5 hd _)),(Yg ..).trans hc,by rw [J5 hd];simp [rawInt]⟩
def ZCU {vals:Array Value}(hh:A.handled=none)(hi:s.heap.IsTupleIter it tu i)(ht:s.heap.IsTuple tu vals)(hv:vals[i]?=none)
  (q:∀ h' e,Heap.ExtBut it s.heap h'->(∃ o,h'.get? e=some o/\o.cls=.type "StopIteration")->E (.ref e) { s with heap:=h' }):wpAny (model prog w) A (Builtin.SmallTypes.nextOf (.ref it)) Q E s:=by
 obtain ⟨o,ho,hc,hd⟩:=id hi;obtain ⟨o2,Gp,_,k,hd2⟩:=ht;unfold Builtin.SmallTypes.nextOf;refine ji (oJ (name:=Str.ofString "__next__") hi.typeIs YL (oY YL hi.typeIs ZCf ?_ (ZCe _)));show wpAny _ _ (field (.ref it) 0 >>= _) _ _ s;refine ji (pS ho hd (x:=.ref tu) rfl ?_);show wpAny _ _ (if (Value.ref tu == Value.none)=true then _ else _) _ _ s;rw [k6 (show ¬ ((Value.ref tu == Value.none)=true) from Cr)]
 show wpAny _ _ (field (.ref it) 1 >>= _) _ _ s;refine ji (pS ho hd (x:=.int i 0) rfl ?_);show wpAny _ _ (seqItems? (.ref tu) >>= _) _ _ s;refine ji (qr Gp hd2 ?_);simp only [HF,hv];refine ji (zG (ji (rb ho hd (by simp) ?_)));show wpAny _ _ (newExc (.type "StopIteration") [] >>= _) _ _ _;refine ji ?_;simp only [newExc,newTuple];refine ji (p7 ?_ (by size_fits));refine ji (m:=firstArgMember _ _) (yB (a:=Value.none) (by first | rfl | (simp only [firstArgMember];rfl)) ?_);refine p7 ?_ (by size_fits)
 simp only [raiseNew];refine ji (wpAny_handled ?_);first | rw [show A.in1.handled=none from hh] | rw [hh]
 refine ji (jx (wpAny_throw ?_));exact q _ _ (((Mf ..).extBut.push _).push _) ⟨_,Ba _ rfl,rfl⟩
end
end HT
namespace MA
noncomputable def lets (n:Nat):List Nat:=if h:n<26 then [97+n] else (97+n % 26)::lets (n / 26)
termination_by n
decreasing_by omega
noncomputable def vals:List Nat->Nat
 | []=>0
 | c::r=>(c - 97)+26 * vals r
def Lk {n:Nat}(h:n<26):lets n=[97+n]:=by unfold lets;simp [h]
def Ol {n:Nat}(h:¬ n<26):lets n=(97+n % 26)::lets (n / 26):=by rw [lets];simp [h]
def bf:∀ n,vals (lets n)=n:=by
 intro n
 induction n using Nat.strongRecOn with
 | _ n ih=>
  by_cases h:n<26
  ·rw [Lk h];simp [vals]
  ·rw [Ol h];have:=ih (n / 26) (by omega);simp only [vals,this];omega
def yN {a b:Nat}(h:lets a=lets b):a=b:=by rw [<- bf a,h,bf]
def XS (n:Nat):1<=(lets n).length:=by
 by_cases h:n<26
 ·rw [Lk h];simp
 ·rw [Ol h];simp
theorem Rm:∀ (k n:Nat),n<26 ^ (k+1)->(lets n).length<=k+1
 | 0,n,h=>by rw [Lk (by simpa using h)];simp
 | k+1,n,h=>by
  by_cases h1:n<26
  ·rw [Lk h1];simp
  ·rw [Ol h1];have:=Rm k (n / 26) (by rw [Nat.pow_succ] at h;exact Nat.div_lt_of_lt_mul (by rw [Nat.mul_comm];exact h));simp only [By];omega
def mI:∀ n,∀ c∈lets n,97<=c/\c<=122:=by
 intro n
 induction n using Nat.strongRecOn with
 | _ n ih=>
  by_cases h:n<26
  ·rw [Lk h];intro c hc;simp at hc;omega
  ·rw [Ol h];intro c hc;rcases List.mem_cons.mp hc with e | e
   ·omega
   ·exact ih (n / 26) (by omega) c e
theorem aA {α:Type}[DecidableEq α]:∀ (k:Nat) (f:Nat->α) (l:List α),(∀ i j,i<k->j<k->f i=f j->i=j)->(∀ i,i<k->f i∈l)->k<=l.length
 | 0,_,_,_,_=>CM _
 | k+1,f,l,hi,hm=>by
  have h1:=hm k (LN k);have:=aA k f (l.erase (f k)) (fun i j a b e=>hi i j (by omega) (by omega) e) (fun i a=>by
   have B5:f i≠f k:=fun e=>by have:=hi i k (by omega) (by omega) e;omega
   exact (ZD0 B5).mpr (hm i (by omega)))
  rw [jI h1] at this;have hp:=YU h1;omega
end MA
namespace Lw
open L2
variable {a l p:Addr}{H H' H2:Hp}{xs:List V}{o:HO}{α:Type}{n:Nat}{i j r:Int}{ns:List Str}{x z:Str}
def Bj (H:Hp)(p:Addr):Prop:=∃ a b:Int,H p=some (.lst [.int a,.int b])/\0<=a/\a<10 ^ 256/\0<=b/\b<2147483647
structure CZ (p:Addr) (H H':Hp):Prop where
 AS:Bj H' p
 same:GI p H H'
theorem CZ.trans {H1:Hp}(a:CZ p H H1)(b:CZ p H1 H2):CZ p H H2:=⟨b.AS,a.same.trans b.same⟩
theorem CZ.of (h:Bj H p)(s:AV H H'):CZ p H H':=by
 obtain ⟨a,b,e,r⟩:=h;exact ⟨⟨a,b,s _ _ e,r⟩,GI.of s⟩
def CZ.O3 {K:ZE6}(s:CZ p H H')(h:AY K H a xs)(B5:a≠p):AY K H' a xs:=by
 rcases h with (h | ⟨o,h⟩) | h
 ·exact .inl (.inl (s.same _ _ B5 h))
 ·exact .inl (.inr ⟨o,s.same _ _ B5 h⟩)
 ·exact .inr h
def CZ.at' (s:CZ p H H')(h:H a=some o)(B5:a≠p):H' a=some o:=s.same _ _ B5 h
def Lb {a:Int}(h0:-(10 ^ 20)<a)(h1:a<10 ^ 20):a.natAbs<2 ^ 1000:=by
 have h4:a.natAbs<10 ^ 20:=by omega
 exact Nat.lt_trans h4 (by decide +kernel)
def QB (K:ZE6):Sp:=fun vs H Q _=>∃ (a:Addr) (ns:List Int) (k:Int),vs=[.ref a,.int k]/\AY K H a (ns.map V.int)/\0<=k/\k<=1000/\∀ p H',H p=none->AV H H'->Bj H' p->Q (.ref p) H'
def Ii:Sp:=fun vs H Q _=>∃ (p:Addr) (m:Int),vs=[.ref p,.int m]/\Bj H p/\0<m/\m<10 ^ 18/\∀ r H',0<=r->r<m->CZ p H H'->Q (.int r) H'
noncomputable def D8 (l:List Nat):Str:=⟨l.toArray⟩
def b4:Sp:=fun vs H Q _=>∃ r:Int,vs=[.int r]/\0<=r/\r<26 ^ 8/\Q (.str (D8 (MA.lets r.toNat))) H
def MP {xs:List α}{k:Int}{v:α}(h0:0<=k)(h:xs[k.toNat]?=some v):BA xs k=some v:=by
 have ek:k=((k.toNat:Nat):Int):=by omega
 have q:=D4 h;rw [<- ek] at q;exact q
noncomputable abbrev MX:Str:="abcdefghijklmnopqrstuvwxyz"
def ra:∀ j,j<26->MX.cps.toList[j]?=some (97+j):=by decide +kernel
def d4 {k:Int}(h0:0<=k)(h1:k<26):BA MX.cps.toList k=some (97+k.toNat):=MP h0 (ra _ (by omega))
def gu (l:List Nat)(c:Nat):D8 l++(⟨#[c]⟩:Str)=D8 (l++[c]):=by
 show (⟨l.toArray++#[c]⟩:Str)=⟨(l++[c]).toArray⟩;simp
def R1 (l:List Nat):(D8 l).length=l.length:=by simp [D8,Str.length]
def ZF {l:List Nat}:(V.str (D8 l)=V.str (Str.ofString ""))↔l=[]:=by
 constructor
 ·intro h;injection h with h
  have h2:=rW (fun x=>x.cps.toList) h;have e:(Str.ofString "").cps.toList=[]:=by decide +kernel
  rw [e] at h2
  simpa [D8] using h2
 ·rintro rfl;rfl
def small (h:n<=100000):n<=sizeLine:=D1 h (by decide +kernel)
def eh {k:Nat}{pre:List Nat}(h:pre++MA.lets k=MA.lets n):(0<k / 26->(pre++[97+k % 26])++MA.lets (k / 26)=MA.lets n)/\(k / 26=0->pre++[97+k % 26]=MA.lets n):=by
 constructor
 ·intro h1;rw [MA.Ol (by omega)] at h;rw [<- h,Cd];rfl
 ·intro h1;have h2:k<26:=by omega
  rw [MA.Lk h2] at h;rw [<- h,Nat.mod_eq_of_lt h2]
def Nm (x:Str):Prop:=1<=x.length/\x.length<=8/\∀ c∈x.cps.toList,97<=c/\c<=122
instance (x:Str):Decidable (Nm x):=by unfold Nm;exact inferInstance
def He (x:Str):x.length=x.cps.toList.length:=by simp [Str.length]
def Tz (h:n<26 ^ 8):Nm (D8 (MA.lets n)):=by
 refine ⟨by rw [R1];exact MA.XS n,by rw [R1];exact MA.Rm 7 n h,fun c hc=>MA.mI n c (by simpa [D8] using hc)⟩
noncomputable def menu:List Str:=["put","take","none","ahead","all","over","next","a","ab","abc","abcdefgh","b","step"]
def pV:∀ x∈menu,Nm x:=by decide +kernel
noncomputable def QX:List V:=[.str "put", .str "take", .str "none", .str "ahead", .str "all", .str "over", .str "next", .str "a", .str "ab", .str "abc", .str "abcdefgh", .str "b", .str "step"]
def vn (h0:0<=i)(h1:i<13):∃ x,BA QX i=some (.str x)/\Nm x:=by
 have hl:menu.length=13:=rfl;have hi:i.toNat<menu.length:=by omega
 have e:QX=menu.map V.str:=rfl;refine ⟨menu[i.toNat],MP h0 ?_,pV _ (Fs hi)⟩;rw [e,Ac,AX hi];rfl
def fu (h0:0<=i)(h1:i<ns.length):∃ x,BA (ns.map V.str) i=some (.str x)/\x∈ns/\ns[i.toNat]?=some x:=by
 have hi:i.toNat<ns.length:=by omega
 exact ⟨ns[i.toNat],MP h0 (by rw [Ac,AX hi];rfl),Fs hi,AX hi⟩
def KJ (ns:List Str):(ns.map V.str).all Eh=true:=by
 rw [Hr];intro x hx;obtain ⟨y,_,rfl⟩:=List.mem_map.mp hx;rfl
def Xd (x:Str)(ns:List Str):Qz (.str x) (ns.map V.str)=decide (x∈ns):=by
 unfold Qz;rw [Ow,List.any_eq_true,rO];constructor
 ·rintro ⟨v,hv,h⟩;obtain ⟨y,hy,rfl⟩:=List.mem_map.mp hv;have h':(y == x)=true:=h;have:y=x:=by simpa using h'
  rw [<- this];exact hy
 ·intro h;exact ⟨.str x,List.mem_map.mpr ⟨x,h,rfl⟩,by show (x == x)=true;simp⟩
def fG (xs:List V):Gv xs []=decide (xs=[]):=by
 cases xs with
 | nil=>rfl
 | cons x r=>rw [Lx (by simp)];simp
def mR (z:Str){a b:Nat}{lo hi:Option Int}(FT:a<=b)(hb:b<=z.length)(e:Builtin.Str.strSliceIndices lo hi 1 z.length=Builtin.Str.strSliceIndices (some (a:Int)) (some (b:Int)) 1 z.length):
  (Txt.slice z lo hi).cps.toList=(z.cps.toList.drop a).take (b - a):=by
 have q:=StrLaws.sliced_plain z FT hb;rw [<- e] at q;unfold Txt.slice;split
 ·rename_i h;have hl:(Builtin.Str.strSliceIndices lo hi 1 z.length).length=z.length:=by simpa using h
  rw [e,StrLaws.strSliceIndices_plain FT hb,AA,LK] at hl;have h1:a=0:=by omega
  have h2:b=z.length:=by omega
  subst h1;subst h2;rw [YO,Yf,He,FQ]
 ·rw [<- q]
def pb (z:Str)(h:0<=j):(Txt.slice z none (some j)).cps.toList=z.cps.toList.take j.toNat:=by
 have e:=mR z (a:=0) (b:=min j.toNat z.length) (lo:=none) (hi:=some j) (CM _) (ZD4 _ _) (by
  have h1:¬ j<0:=by omega
  have h2:¬ (((min j.toNat z.length:Nat):Int)<0):=by omega
  have h3:max (0:Int) (min j (z.length:Int))=max 0 (min ((min j.toNat z.length:Nat):Int) (z.length:Int)):=by omega
  simp only [Builtin.Str.strSliceIndices,h1,h2,ZB1,h3];rfl)
 rw [e,YO,Yf];rcases jP j.toNat z.length with h1 | h1
 ·rw [Ye h1]
 ·rw [jQ h1,He,FQ,P1 (by rw [<- He];exact h1)]
def cX (h:1<=j)(hj:j<=8)(hz:1<=z.length)(hc:∀ c∈z.cps.toList,97<=c/\c<=122):Nm (Txt.slice z none (some j)):=by
 have e:=pb z (j:=j) (by omega);refine ⟨?_,?_,fun c J8=>hc c ?_⟩
 ·rw [He,e,DM,<- He];omega
 ·rw [He,e,DM];omega
 ·rw [e] at J8;exact YW J8
def dC (x y:Str):(x++y).cps.toList=x.cps.toList++y.cps.toList:=by
 show (x.cps++y.cps).toList=_;simp
def aI (x y:Str):(x++y).length=x.length+y.length:=by rw [He,dC,B2,<- He,<- He]
def ZP (K:ZE6):Sp:=fun vs H Q _=>∃ (p q:Addr) (ns:List Str),vs=[.ref p,.ref q]/\Bj H p/\AY K H q (ns.map V.str)/\q≠p/\(∀ x∈ns,Nm x)/\ns.length<=1000/\∀ x H',Nm x->x∉ns->CZ p H H'->Q (.str x) H'
def qz {k:Nat}(h:∀ j,j<k->D8 (MA.lets j)∈ns):k<=ns.length:=
 MA.aA k (fun j=>D8 (MA.lets j)) ns (fun i j _ _ e=>MA.yN (by
  have:=rW (fun x=>x.cps.toList) e
  simpa [D8] using this)) h
def jj:1000<26 ^ 8:=by decide +kernel
def ZBc:(1000:Int)<26 ^ 8:=by decide +kernel
def lS:(26:Int) ^ (8:Int).toNat - 26<26 ^ 8:=by decide +kernel
def jo:(26:Int)<26 ^ 8:=by decide +kernel
def tS:(0:Int)<26 ^ (8:Int).toNat - 26:=by decide +kernel
def mr:(26:Int) ^ (8:Int).toNat - 26<10 ^ 18:=by decide +kernel
def iS (h0:0<=r)(h:r<26 ^ 8):r.toNat<26 ^ 8:=by omega
theorem CZ.upd (s:CZ p H H2)(h:H l=none)(B5:l≠p):CZ p H (upd H2 l o):=by
 obtain ⟨a,b,e,r⟩:=s.AS;refine ⟨⟨a,b,by rw [An (Bs B5)];exact e,r⟩,fun c u hc q=>?_⟩;rw [An (Dj q h)];exact s.same c u hc q
def Bj.ne (h:Bj H p)(hl:H l=none):l≠p:=by
 obtain ⟨_,_,e,_⟩:=h;exact (Dj e hl).symm
theorem AV.none (s:AV H H2)(h:H2 l=none):H l=none:=by
 cases q:H l with
 | none=>rfl
 | some o=>rw [s l o q] at h;cases h
def XC:Sp:=fun vs H Q _=>∃ (p:Addr) (m:Int),vs=[.ref p,.int m]/\Bj H p/\0<=m/\m<=100/\
 ∀ l H' (ns:List Str),H l=none->CZ p H H'->H' l=some (.lst (ns.map V.str))->(ns.length:Int)=m->(∀ x∈ns,Nm x)->ns.Nodup->Q (.ref l) H'
def Ig {l:List α}{x:α}(h:l.Nodup)(hx:x∉l):(l++[x]).Nodup:=by
 rw [Cs];exact ⟨h,by simp,fun a ha b hb=>by
  have:b=x:=by simpa using hb
  subst this;rintro rfl;exact hx ha⟩
noncomputable def RJ (c:Nat):Bool:=!(Builtin.Str.occurrences MX ⟨#[c]⟩ 0 MX.length 1).isEmpty
noncomputable def isNm (x:Str):Bool:=decide ((1:Int)<=x.length) && (decide ((x.length:Int)<=8) && x.cps.toList.all RJ)
def VA:Sp:=fun vs H Q _=>∃ x:Str,vs=[.str x]/\x.length<=1000/\∀ H',AV H H'->Q (.bl (isNm x)) H'
def kH (l:List α):l.filter (fun _=>true)=l:=List.filter_eq_self.mpr fun _ _=>rfl
noncomputable def c9:V->V
 | .str y=>.bl (!(Builtin.Str.occurrences MX y 0 MX.length 1).isEmpty)
 | _=>.bl false
def qg (x:Str):((G0 x).filter (fun _=>true)).map c9=(x.cps.toList.map RJ).map V.bl:=by
 unfold G0;rw [kH,CU,CU];rfl
def signs_get {i:Nat}{v:V}(h:(G0 x)[i]?=some v):∃ c,v=.str ⟨#[c]⟩:=by
 unfold G0 at h;rw [Ac] at h;cases q:x.cps.toList[i]? with
 | none=>rw [q] at h;cases h
 | some c=>rw [q] at h;simp at h;exact ⟨c,h.symm⟩
theorem all_map {α:Type}(f:α->Bool)(l:List α):(l.map f).all id=l.all f:=by rw [jC];rfl
theorem aM:∀ (l acc:List Str),(l.foldl FC acc).length<=acc.length+l.length
 | [],acc=>by simp
 | x::r,acc=>by
  rw [Oy];have h:=aM r (FC acc x);rw [T4] at h;simp only [By];split at h <;> omega
theorem ZV:∀ (l acc:List Str),(l.foldl FC acc).length=acc.length+l.length↔(l.Nodup/\∀ x∈l,x∉acc)
 | [],acc=>by simp
 | x::r,acc=>by
  rw [Oy]
  by_cases h:acc.any (· == x)=true
  ·have hx:x∈acc:=by
    obtain ⟨y,hy,e⟩:=List.any_eq_true.mp h;have:y=x:=by simpa using e
    rw [<- this];exact hy
   have e:FC acc x=acc:=by unfold FC;rw [mZ h]
   rw [e];constructor
   ·intro q;have:=aM r acc;simp only [By] at q;omega
   ·rintro ⟨_,q⟩;exact absurd hx (q x Ft)
  ·have hx:x∉acc:=fun hm=>h (List.any_eq_true.mpr ⟨x,hm,by simp⟩);have e:FC acc x=acc++[x]:=by unfold FC;rw [k6 h]
   rw [e];have ih:=ZV r (acc++[x]);have e1:(acc++[x]).length+r.length=acc.length+(x::r).length:=by simp;omega
   rw [e1] at ih;rw [ih];constructor
   ·rintro ⟨h1,h2⟩;refine ⟨List.nodup_cons.mpr ⟨fun hm=>h2 x hm (by simp),h1⟩,fun y hy=>?_⟩;rcases List.mem_cons.mp hy with rfl | hy
    ·exact hx
    ·exact fun hm=>h2 y hy (by simp [hm])
   ·rintro ⟨h1,h2⟩;obtain ⟨h3,h4⟩:=List.nodup_cons.mp h1;refine ⟨h4,fun y hy hm=>?_⟩;rcases List.mem_append.mp hm with hm | hm
    ·exact h2 y (Ek _ hy) hm
    ·have:y=x:=by simpa using hm
     rw [this] at hy;exact h3 hy
def fe (ss:List Str):(dd ss).length=ss.length↔ss.Nodup:=by
 have h:=ZV ss [];simp only [YT,Nat.zero_add] at h;refine (show ((dd ss).length=ss.length↔_) from h).trans ⟨fun q=>q.1,fun q=>⟨q,fun _ _=>by simp⟩⟩
def ZBr (xs:List Str):Gv (xs.map V.str) (xs.map V.str)=true:=by
 rw [MJ rfl,Hr];intro j hj;have WJ:j<xs.length:=by simpa using hj
 have e:(xs.map V.str)[j]?=some (.str xs[j]):=by rw [Ac,AX WJ];rfl
 rw [Ni e];show (xs[j] == xs[j])=true;simp
def yC (K:ZE6)(t:String):PySem.W.kitOne K (.type t) (.type t)=some true:=by
 unfold PySem.W.kitOne;rw [mZ (by simp)]
def NR (K:ZE6):Sp:=fun vs H Q _=>∃ (a:Addr) (ns:List Int),vs=[.ref a]/\AY K H a (ns.map V.int)/\ns.length<=63/\∀ H',Q (.bl true) H'
noncomputable def DP (tp:Bool)(xs:List V):HO:=match tp with
 | false=>.lst xs
 | true=>.tup xs
def DP.sq {K:ZE6}{tp:Bool}(h:H a=some (DP tp xs)):EM K tp H a xs:=by
 cases tp
 ·exact AY.of h
 ·exact Aq.of h
def Bg {c A B:Prop}[Decidable c](h:¬ c)(b:B):if c then A else B:=by rw [k6 h];exact b
def ZA8:∀ j,j<26->RJ (97+j)=true:=by decide +kernel
def kB (h:Nm x):isNm x=true:=by
 obtain ⟨h1,h2,h3⟩:=h;unfold isNm;rw [jy (by omega),jy (by omega),j6,j6,Hr];intro c hc;obtain ⟨a,b⟩:=h3 c hc;have:=ZA8 (c - 97) (by omega);have e:97+(c - 97)=c:=by omega
 rw [e] at this;exact this
end Lw
namespace Fz
open L2 Lw
variable {F F' H H':Hp}{v:V}{Bh vs:List V}{a l:Addr}{r:List V->Hp->VK->Prop}{σ τ:L2.St}{o:HO}{i i0 j:Nat}{ta tc te:TE}{tb u:TS}{b neg tp:Bool}{f:Int->Int->Int}{g:TG}{t:TA}{n:String}{th tl:TO}{X:XK}{c tt:TT}{wi:TI}{A:List Addr}{Q:VK}
inductive PV where
 | AB | bl (b:Bool) | int (i:Int) | str (x:Str) | lst (xs:List PV) | tup (xs:List PV)
 | B7 (ks:List Key) (xs:List PV) | obj (C:Addr) (ns:List Str) (xs:List PV) | exc (C:Addr) (ns:List Str) (xs:List PV) | con (a:Addr) (xs:List PV)
variable {p:PV}{ps xs:List PV}
noncomputable def fS (a C:Addr)(dx:Option Addr):HO:=.ext fun h=>∃ ob vs,h.get? a=some ob/\ob.cls=.ref C/\ob.dict=dx/\ob.data=.fields vs
mutual
inductive Rep (F:Hp):V->PV->Prop where
 | AB:Rep F .AB .AB
 | bl (b:Bool):Rep F (.bl b) (.bl b)
 | int (i:Int):Rep F (.int i) (.int i)
 | str (x:Str):Rep F (.str x) (.str x)
 | lst {a:Addr}{vs:List V}{xs:List PV}:F a=some (.lst vs)->AJ F vs xs->Rep F (.ref a) (.lst xs)
 | tup {a:Addr}{vs:List V}{xs:List PV}:F a=some (.tup vs)->AJ F vs xs->Rep F (.ref a) (.tup xs)
 | B7 {a:Addr}{ks:List Key}{vs:List V}{xs:List PV}:F a=some (.dK (ks.zip vs))->ks.length=vs.length->AJ F vs xs->Rep F (.ref a) (.B7 ks xs)
 | obj {a C dx:Addr}{ns:List Str}{vs:List V}{xs:List PV}:F a=some (.ins C dx (ns.zip vs))->F dx=some (.own a)->ns.length=vs.length->AJ F vs xs->Rep F (.ref a) (.obj C ns xs)
 | con {a:Addr}{xs:List PV}:Rep F (.ref a) (.con a xs)
 | Rj {a C:Addr}:F a=some (fS a C none)->Rep F (.ref a) (.exc C [] [])
 | exc {a C dx:Addr}{ns:List Str}{vs:List V}{xs:List PV}:F a=some (fS a C (some dx))->F dx=some (.xd (ns.zip vs))->ns.length=vs.length->AJ F vs xs->Rep F (.ref a) (.exc C ns xs)
inductive AJ (F:Hp):List V->List PV->Prop where
 | nil:AJ F [] []
 | cons {v:V}{p:PV}{vs:List V}{ps:List PV}:Rep F v p->AJ F vs ps->AJ F (v::vs) (p::ps)
end
mutual
theorem Rep.mono {F F':Hp}(s:AV F F'):∀ {v:V}{p:PV},Rep F v p->Rep F' v p
 | _,_,.AB=>.AB
 | _,_,.bl b=>.bl b
 | _,_,.int i=>.int i
 | _,_,.str x=>.str x
 | _,_,.lst h r=>.lst (s _ _ h) (AJ.mono s r)
 | _,_,.tup h r=>.tup (s _ _ h) (AJ.mono s r)
 | _,_,.B7 h e r=>.B7 (s _ _ h) e (AJ.mono s r)
 | _,_,.obj h h2 e r=>.obj (s _ _ h) (s _ _ h2) e (AJ.mono s r)
 | _,_,.con=>.con
 | _,_,.Rj h=>.Rj (s _ _ h)
 | _,_,.exc h h2 e r=>.exc (s _ _ h) (s _ _ h2) e (AJ.mono s r)
theorem AJ.mono {F F':Hp}(s:AV F F'):∀ {vs:List V}{ps:List PV},AJ F vs ps->AJ F' vs ps
 | _,_,.nil=>.nil
 | _,_,.cons r t=>.cons (Rep.mono s r) (AJ.mono s t)
end
theorem AJ.length {F:Hp}:∀ {vs:List V}{ps:List PV},AJ F vs ps->vs.length=ps.length
 | [],_,.nil=>rfl
 | _::_,_,.cons _ t=>by rw [By,By,AJ.length t]
theorem AJ.get {F:Hp}:∀ {vs:List V}{ps:List PV}{i:Nat}{p:PV},AJ F vs ps->ps[i]?=some p->∃ v,vs[i]?=some v/\Rep F v p
 | _,_,_,_,.nil,e=>by simp at e
 | _,_,0,_,.cons r _,e=>by simp at e;subst e;exact ⟨_,rfl,r⟩
 | _,_,i+1,p,.cons _ t,e=>by
  obtain ⟨u,h1,h2⟩:=AJ.get (i:=i) (p:=p) t (by simpa using e)
  exact ⟨u,by simpa using h1,h2⟩
theorem AJ.get' {F:Hp}:∀ {vs:List V}{ps:List PV}{i:Nat}{v:V},AJ F vs ps->vs[i]?=some v->∃ p,ps[i]?=some p/\Rep F v p
 | _,_,_,_,.nil,e=>by simp at e
 | _,_,0,_,.cons r _,e=>by simp at e;subst e;exact ⟨_,rfl,r⟩
 | _,_,i+1,p,.cons _ t,e=>by
  obtain ⟨u,h1,h2⟩:=AJ.get' (i:=i) (v:=p) t (by simpa using e)
  exact ⟨u,by simpa using h1,h2⟩
theorem AJ.append {F:Hp}:∀ {vs ws:List V}{ps qs:List PV},AJ F vs ps->AJ F ws qs->AJ F (vs++ws) (ps++qs)
 | _,_,_,_,.nil,s=>s
 | _,_,_,_,.cons r t,s=>.cons r (AJ.append t s)
theorem AJ.take {F:Hp}:∀ {vs:List V}{ps:List PV}(n:Nat),AJ F vs ps->AJ F (vs.take n) (ps.take n)
 | _,_,0,_=>by simp only [Yb];exact .nil
 | _,_,_+1,.nil=>.nil
 | _,_,n+1,.cons r t=>.cons r (AJ.take n t)
theorem AJ.drop {F:Hp}:∀ {vs:List V}{ps:List PV}(n:Nat),AJ F vs ps->AJ F (vs.drop n) (ps.drop n)
 | _,_,0,r=>r
 | _,_,_+1,.nil=>.nil
 | _,_,n+1,.cons _ t=>AJ.drop n t
def AJ.one (r:Rep F v p):AJ F [v] [p]:=.cons r .nil
theorem AJ.reverse {F:Hp}:∀ {vs:List V}{ps:List PV},AJ F vs ps->AJ F vs.reverse ps.reverse
 | _,_,.nil=>.nil
 | _,_,.cons r t=>by rw [YY,YY];exact (AJ.reverse t).append (.one r)
def flat:PV->Bool
 | .lst _=>false
 | .tup _=>false
 | .B7 _ _=>false
 | .obj _ _ _=>false
 | .exc _ _ _=>false
 | .con _ _=>false
 | _=>true
def enc:PV->V
 | .bl b=>.bl b
 | .int i=>.int i
 | .str x=>.str x
 | _=>.AB
theorem Rep.enc (h:flat p=true)(r:Rep F v p):v=enc p:=by
 cases r <;> first | rfl | cases h
def v8 (h:flat p=true):Rep F (enc p) p:=by
 cases p with
 | AB=>exact .AB
 | bl b=>exact .bl b
 | int i=>exact .int i
 | str x=>exact .str x
 | lst xs=>cases h
 | tup xs=>cases h
 | B7 ks xs=>cases h
 | obj C ns xs=>cases h
 | exc C ns xs=>cases h
 | con a xs=>cases h
theorem AJ.enc {F:Hp}:∀ {vs:List V}{ps:List PV},ps.all flat=true->AJ F vs ps->vs=ps.map enc
 | _,_,_,.nil=>rfl
 | _,_,h,.cons r t=>by
  rw [SG,Ei] at h;rw [BL,<- Rep.enc h.1 r,<- AJ.enc h.2 t]
theorem Xy {F:Hp}:∀ {ps:List PV},ps.all flat=true->AJ F (ps.map enc) ps
 | [],_=>.nil
 | p::r,h=>by
  rw [SG,Ei] at h;exact .cons (v8 h.1) (Xy h.2)
def PD (h:flat p=true):Eh (Fz.enc p)=true:=by cases p <;> first | rfl | cases h
def Sd (ns:List Str):(ns.map PV.str).all flat=true:=by
 rw [Hr];intro x hx;obtain ⟨y,_,rfl⟩:=List.mem_map.mp hx;rfl
def ZBv (ns:List Int):(ns.map PV.int).all flat=true:=by
 rw [Hr];intro x hx;obtain ⟨y,_,rfl⟩:=List.mem_map.mp hx;rfl
def wJ (ns:List Bool):(ns.map PV.bl).all flat=true:=by
 rw [Hr];intro x hx;obtain ⟨y,_,rfl⟩:=List.mem_map.mp hx;rfl
def Wj (ns:List Str):(ns.map PV.str).map Fz.enc=ns.map V.str:=by rw [CU];rfl
def wK (ns:List Bool):(ns.map PV.bl).map Fz.enc=ns.map V.bl:=by rw [CU];rfl
def pA (ns:List Int):(ns.map PV.int).map Fz.enc=ns.map V.int:=by rw [CU];rfl
def AJ.strs {ns:List Str}(r:AJ F vs (ns.map PV.str)):vs=ns.map V.str:=(r.enc (Sd ns)).trans (Wj ns)
def V6 (ns:List Str):AJ F (ns.map V.str) (ns.map PV.str):=by rw [<- Wj];exact Xy (Sd ns)
def AJ.kX {ns:List Bool}(r:AJ F vs (ns.map PV.bl)):vs=ns.map V.bl:=(r.enc (wJ ns)).trans (wK ns)
def AJ.ints {ns:List Int}(r:AJ F vs (ns.map PV.int)):vs=ns.map V.int:=(r.enc (ZBv ns)).trans (pA ns)
inductive NK where
 | lst | B7 (ks:List Key) | obj (C dx:Addr) (ns:List Str)
def NK.ho:NK->List V->HO
 | .lst,vs=>.lst vs
 | .B7 ks,vs=>.dK (ks.zip vs)
 | .obj C dx ns,vs=>.ins C dx (ns.zip vs)
def NK.more:NK->List Addr
 | .obj _ dx _=>[dx]
 | _=>[]
def NK.side (k:NK)(a:Addr)(H:Hp):Prop:=match k with
 | .obj _ dx _=>H dx=some (.own a)
 | _=>True
def NK.fit (k:NK)(n:Nat):Prop:=match k with
 | .B7 ks=>ks.length=n
 | .obj _ _ ns=>ns.length=n
 | _=>True
inductive OV where
 | fz (p:PV)
 | tp (xs:List OV)
 | nd (k:NK) (a:Addr) (xs:List OV)
mutual
def OV.addrs:OV->List Addr
 | .fz _=>[]
 | .tp xs=>OV.Ag xs
 | .nd k a xs=>a::(k.more++OV.Ag xs)
def OV.Ag:List OV->List Addr
 | []=>[]
 | x::r=>x.addrs++OV.Ag r
end
mutual
def OV.pv:OV->PV
 | .fz p=>p
 | .tp xs=>.tup (OV.Cv xs)
 | .nd .lst _ xs=>.lst (OV.Cv xs)
 | .nd (.B7 ks) _ xs=>.B7 ks (OV.Cv xs)
 | .nd (.obj C _ ns) _ xs=>.obj C ns (OV.Cv xs)
def OV.Cv:List OV->List PV
 | []=>[]
 | x::r=>x.pv::OV.Cv r
end
mutual
inductive B8 (F H:Hp):V->OV->Prop where
 | fz {v:V}{p:PV}:Rep F v p->B8 F H v (.fz p)
 | tp {a:Addr}{vs:List V}{xs:List OV}:F a=some (.tup vs)->BB F H vs xs->B8 F H (.ref a) (.tp xs)
 | nd {k:NK}{a:Addr}{vs:List V}{xs:List OV}:H a=some (k.ho vs)->k.side a H->k.fit vs.length->BB F H vs xs->B8 F H (.ref a) (.nd k a xs)
inductive BB (F H:Hp):List V->List OV->Prop where
 | nil:BB F H [] []
 | cons {v:V}{t:OV}{vs:List V}{ts:List OV}:B8 F H v t->BB F H vs ts->BB F H (v::vs) (t::ts)
end
def OV.DJ {k:NK}{xs:List OV}:(OV.nd k a xs).addrs=a::(k.more++OV.Ag xs):=by rw [OV.addrs]
def OV.GB {xs:List OV}:(OV.tp xs).addrs=OV.Ag xs:=by rw [OV.addrs]
def OV.NB:(OV.fz p).addrs=[]:=by rw [OV.addrs]
def OV.Dc {x:OV}{r:List OV}:OV.Ag (x::r)=x.addrs++OV.Ag r:=by rw [OV.Ag]
def OV.Fd:OV.Ag []=[]:=by rw [OV.Ag]
def NK.ao {k:NK}(h:k.side a H)(s:∀ b∈k.more,∀ o,H b=some o->H' b=some o):k.side a H':=by
 cases k with
 | obj C dx ns=>exact s dx (by simp [NK.more]) _ h
 | _=>trivial
mutual
theorem B8.mono {F F' H H':Hp}(f:AV F F'):∀ {v:V}{t:OV},B8 F H v t->(∀ a∈t.addrs,∀ o,H a=some o->H' a=some o)->B8 F' H' v t
 | _,_,.fz r,_=>.fz (r.mono f)
 | _,_,.tp h r,s=>by
  rw [OV.GB] at s;exact .tp (f _ _ h) (BB.mono f r s)
 | _,_,.nd h sd ft r,s=>by
  rw [OV.DJ] at s;exact .nd (s _ (by simp) _ h) (NK.ao sd fun b hb=>s b (by simp [hb])) ft (BB.mono f r fun a ha=>s a (by simp [ha]))
theorem BB.mono {F F' H H':Hp}(f:AV F F'):∀ {vs:List V}{ts:List OV},BB F H vs ts->(∀ a∈OV.Ag ts,∀ o,H a=some o->H' a=some o)->BB F' H' vs ts
 | _,_,.nil,_=>.nil
 | _,_,.cons r t,s=>by
  rw [OV.Dc] at s;exact .cons (B8.mono f r fun a ha=>s a (by simp [ha])) (BB.mono f t fun a ha=>s a (by simp [ha]))
end
mutual
theorem B8.there {F H:Hp}:∀ {v:V}{t:OV},B8 F H v t->∀ a∈t.addrs,H a≠none
 | _,_,.fz _,a,ha=>by rw [OV.addrs] at ha;cases ha
 | _,_,.tp _ r,a,ha=>by rw [OV.GB] at ha;exact BB.there r a ha
 | _,_,@B8.nd _ _ k b vs xs h sd ft r,a,ha=>by
  rw [OV.DJ,CL,SO] at ha;rcases ha with rfl | ha | ha
  ·rw [h];simp
  ·cases k with
   | obj C dx ns=>
    have e:a=dx:=by simpa [NK.more] using ha
    subst e;have YI:H a=some (.own b):=sd;rw [YI];simp
   | _=>simp [NK.more] at ha
  ·exact BB.there r a ha
theorem BB.there {F H:Hp}:∀ {vs:List V}{ts:List OV},BB F H vs ts->∀ a∈OV.Ag ts,H a≠none
 | _,_,.nil,a,ha=>by rw [OV.Fd] at ha;cases ha
 | _,_,.cons r t,a,ha=>by
  rw [OV.Dc,SO] at ha;rcases ha with ha | ha
  ·exact B8.there r a ha
  ·exact BB.there t a ha
end
theorem BB.length {F H:Hp}:∀ {vs:List V}{ts:List OV},BB F H vs ts->vs.length=ts.length
 | [],_,.nil=>rfl
 | _::_,_,.cons _ t=>by rw [By,By,BB.length t]
inductive Slot where
 | any | is (p:PV) | own (xs:List PV) | AS | sq (tp:Bool) (xs:List PV) | raw (P:Hp->V->Prop) | ow (lt:Bool) (t:OV)
variable {ss:List Slot}{s:Slot}{Pp nx:List Slot->Prop}
structure Ent0 where
 A:List Addr
 F0:Hp
 H0:Hp
 B:List Addr
variable {E:Ent0}
abbrev E3 (A:List Addr)(F H:Hp):Ent0:=⟨A,F,H,[]⟩
def Ok (E:Ent0)(F H:Hp):Slot->Option (Option V)->Prop
 | .any,_=>True
 | .is p,o=>∃ v,o=some (some v)/\Rep F v p
 | .own xs,o=>∃ l vs,o=some (some (.ref l))/\F l=none/\E.H0 l=none/\H l=some (.lst vs)/\AJ F vs xs
 | .AS,o=>∃ l,o=some (some (.ref l))/\F l=none/\(E.H0 l=none∨l∈E.A)/\Bj H l
 | .sq true xs,o=>∃ v,o=some (some v)/\Rep F v (.tup xs)
 | .sq false xs,o=>∃ l vs,o=some (some (.ref l))/\(l∉E.A/\l∉E.B)/\E.H0 l=some (.lst vs)/\AJ F vs xs
 | .raw P,o=>∃ v,o=some (some v)/\P F v/\∀ F F',AV F F'->P F v->P F' v
 | .ow lt t,o=>∃ v,o=some (some v)/\B8 F H v t/\t.addrs.Nodup/\∀ a∈t.addrs,F a=none/\(E.H0 a=none∨(lt=true/\a∈E.B))
def BW:Slot->Option (Option V)->Addr->Prop
 | .own _,o,l=>o=some (some (.ref l))
 | .AS,o,l=>o=some (some (.ref l))
 | .ow _ t,_,l=>l∈t.addrs
 | _,_,_=>False
structure Fin (E:Ent0) (F H:Hp):Prop where
 fh:AV F H
 f0:AV E.F0 F
 keep:∀ a o,(a∉E.A/\a∉E.B)->E.H0 a=some o->H a=some o
 fresh:∀ a o,F a=some o->E.F0 a=some o∨E.H0 a=none
 HJ:∀ a,a∈E.A->Bj H a
 OW:∀ a,a∈E.A->F a=none
 a0:∀ a,a∈E.A->E.H0 a≠none
 bF:∀ a,a∈E.B->F a=none
 bH:∀ a,a∈E.B->H a≠none
 b0:∀ a,a∈E.B->E.H0 a≠none/\a∉E.A
structure Sg (E:Ent0) (ss:List Slot) (σ:L2.St) (F H:Hp):Prop extends Fin E F H where
 len:ss.length=σ.length
 ok:∀ (i:Nat) s,ss[i]?=some s->Ok E F H s σ[i]?
 CC:∀ (i j:Nat) s u l,i≠j->ss[i]?=some s->ss[j]?=some u->BW s σ[i]? l->¬ BW u σ[j]? l
structure Ex where
 C:Addr
 ns:List Str
 xs:List PV
def Ex.at (x:Ex)(F:Hp)(C:Value)(dx:Option Addr):Prop:=
 C=.ref x.C/\((x.ns=[]/\x.xs=[]/\dx=none)∨∃ a vs,dx=some a/\F a=some (.xd (x.ns.zip vs))/\x.ns.length=vs.length/\AJ F vs x.xs)
class Xw where
 e:L2.St->XK
 J:List Slot->Prop
 D:Ex->Prop
structure Ent [Xw] extends Ent0 where
 hx:∀ (ss:List Slot) (σ:L2.St) (F H:Hp) (x:Ex) (C:Value) (dx:Option Addr),Xw.J ss->Sg toEnt0 ss σ F H->Xw.D x->x.at F C dx->Xw.e σ C dx H
instance [Xw]:CoeOut Ent Ent0:=⟨Ent.toEnt0⟩
instance hJ:Xw:=⟨fun _=>E0,fun _=>True,fun _=>False⟩
def Ca (ss:List Slot)(σ:L2.St)(a:Addr):Prop:=∀ i:Nat,ss[i]?=some .AS->σ[i]?≠some (some (.ref a))
structure Mv (E:Ent0) (ss:List Slot) (σ:L2.St) (F H F' H':Hp):Prop where
 st:Sg E ss σ F' H'
 ff:AV F F'
 hh:∀ a o,Ca ss σ a->H a=some o->H' a=some o
 nn:∀ a o,F' a=some o->F a=some o∨H a=none
def Sg.Ij (S:Sg E ss σ F H)(h:H l=none):Ca ss σ l:=fun i hi e=>by
 obtain ⟨l',e1,_,_,_,_,e2,_⟩:=S.ok i _ hi;rw [e] at e1;cases e1;rw [h] at e2;cases e2
theorem Mv.none (m:Mv E ss σ F H F' H')(h:H' a=none):H a=none:=by
 cases e:H a with
 | none=>rfl
 | some o=>rw [m.hh a o (m.st.Ij h) e] at h;cases h
theorem Mv.refl {E:Ent0}{ss:List Slot}{σ:L2.St}{F H:Hp}(S:Sg E ss σ F H):Mv E ss σ F H F H:=⟨S,AV.refl _,fun _ _ _ e=>e,fun _ _ e=>.inl e⟩
theorem Mv.trans {F1 H1 F2 H2:Hp}(a:Mv E ss σ F H F1 H1)(b:Mv E ss σ F1 H1 F2 H2):Mv E ss σ F H F2 H2:=
 ⟨b.st,a.ff.trans b.ff,fun c o n e=>b.hh c o n (a.hh c o n e),fun c o e=>(b.nn c o e).elim (fun e=>a.nn c o e) fun e=>.inr (a.none e)⟩
def Sg.DW (S:Sg E ss σ F H){p:Addr}(h:H p=none):E.H0 p=none:=by
 cases e:E.H0 p with
 | none=>rfl
 | some o=>
  by_cases q:p∈E.A
  ·obtain ⟨_,_,e1,_⟩:=S.HJ p q;rw [h] at e1;cases e1
  ·by_cases qb:p∈E.B
   ·exact absurd h (S.bH p qb)
   ·rw [S.keep p o ⟨q,qb⟩ e] at h;cases h
def Sg.C5 (S:Sg E ss σ F H){p:Addr}(h:H p=none):F p=none:=AV.none S.fh h
def Bj.keep (h:Bj H l)(k:∀ o,H l=some o->H' l=some o):Bj H' l:=by
 obtain ⟨a,b,e,r⟩:=h;exact ⟨a,b,k _ e,r⟩
def Sg.gX (S:Sg E ss σ F H)(h:F l=some o):Ca ss σ l:=fun i hi e=>by
 obtain ⟨l',e1,e2,_⟩:=S.ok i _ hi;rw [e] at e1;cases e1;rw [h] at e2;cases e2
def Sg.ZG (S:Sg E ss σ F H)(hA:l∉E.A)(h:E.H0 l=some o):Ca ss σ l:=fun i hi e=>by
 obtain ⟨l',e1,_,q,_⟩:=S.ok i _ hi;rw [e] at e1;cases e1;rcases q with q | q
 ·rw [h] at q;cases q
 ·exact hA q
def Sg.yA (S:Sg E ss σ F H)(h:l∈E.B):Ca ss σ l:=fun i hi e=>by
 obtain ⟨l',e1,_,q,_⟩:=S.ok i _ hi;rw [e] at e1;cases e1;obtain ⟨h0,hA⟩:=S.b0 l h;rcases q with q | q
 ·exact h0 q
 ·exact hA q
def Sg.Dw (S:Sg E ss σ F H)(h:ss[i]?=some s)(m:BW s σ[i]? l):H l≠none:=by
 have k:=S.ok i s h;cases s with
 | own xs=>obtain ⟨l',vs,e1,_,_,e2,_⟩:=k;rw [show σ[i]?=some (some (.ref l)) from m] at e1;cases e1;rw [e2];simp
 | AS=>obtain ⟨l',e1,_,_,_,_,e2,_⟩:=k;rw [show σ[i]?=some (some (.ref l)) from m] at e1;cases e1;rw [e2];simp
 | ow lt t=>obtain ⟨v,_,r,_⟩:=k;exact r.there l m
 | _=>cases m
def Sg.uj (S:Sg E ss σ F H)(h:ss[i]?=some s)(m:BW s σ[i]? l):F l=none:=by
 have k:=S.ok i s h;cases s with
 | own xs=>obtain ⟨l',vs,e1,e2,_⟩:=k;rw [show σ[i]?=some (some (.ref l)) from m] at e1;cases e1;exact e2
 | AS=>obtain ⟨l',e1,e2,_⟩:=k;rw [show σ[i]?=some (some (.ref l)) from m] at e1;cases e1;exact e2
 | ow lt t=>obtain ⟨v,_,r,_,q⟩:=k;exact (q l m).1
 | _=>cases m
def Sg.JD (S:Sg E ss σ F H)(h:ss[i]?=some s)(hl:H l=none):¬ BW s σ[i]? l:=fun m=>S.Dw h m hl
def Sg.N0 (S:Sg E ss σ F H)(h:ss[i]?=some s)(m:BW s σ[i]? l)(np:s≠.AS):Ca ss σ l:=fun j hj ej=>
 S.CC i j s _ l (by rintro rfl;rw [h] at hj;exact np (Bc hj)) h hj m ej
def Ok.go (S:Sg E ss σ F H)(hi:ss[i]?=some s)(ff:AV F F')(hk:∀ a o,BW s σ[i]? a->H a=some o->H' a=some o)(C5:∀ a,H a≠none->F a=none->F' a=none)(np:s≠.AS):Ok E F' H' s σ[i]?:=by
 have k:=S.ok i s hi;cases s with
 | any=>trivial
 | is p=>obtain ⟨v,e,r⟩:=k;exact ⟨v,e,r.mono ff⟩
 | own xs=>
  obtain ⟨l,vs,e,e1,e2,e3,r⟩:=k;exact ⟨l,vs,e,C5 l (by rw [e3];simp) e1,e2,hk l _ e e3,r.mono ff⟩
 | AS=>exact absurd rfl np
 | sq tp xs=>
  cases tp with
  | true=>obtain ⟨v,e,r⟩:=k;exact ⟨v,e,r.mono ff⟩
  | false=>obtain ⟨l,vs,e,e1,e2,r⟩:=k;exact ⟨l,vs,e,e1,e2,r.mono ff⟩
 | raw P=>obtain ⟨v,e,r,st⟩:=k;exact ⟨v,e,st _ _ ff r,st⟩
 | ow lt t=>
  obtain ⟨v,e,r,nd,q⟩:=k;exact ⟨v,e,r.mono ff fun a ha o=>hk a o ha,nd,fun a ha=>⟨C5 a (r.there a ha) (q a ha).1,(q a ha).2⟩⟩
def Sg.step (S:Sg E ss σ F H)(ff:AV F F')(fh:AV F' H')(hk:∀ a o,Ca ss σ a->H a=some o->H' a=some o)(hn:∀ a o,F' a=some o->F a=some o∨H a=none)
  (hp:∀ (i:Nat) l,ss[i]?=some .AS->σ[i]?=some (some (.ref l))->Bj H' l):Mv E ss σ F H F' H':=by
 have C5:∀ a,H a≠none->F a=none->F' a=none:=fun a h1 h2=>by
  cases e:F' a with
  | none=>rfl
  | some o=>
   rcases hn a o e with q | q
   ·rw [h2] at q;cases q
   ·exact absurd q h1
 have jl:∀ a,Bj H a->Ca ss σ a->Bj H' a:=fun a p n=>Bj.keep p fun o e=>hk a o n e;refine ⟨⟨⟨fh,S.f0.trans ff,fun a o hA e=>?_,fun a o e=>?_,fun a hA=>?_,fun a hA=>?_,S.a0,fun a hB=>C5 a (S.bH a hB) (S.bF a hB),fun a hB=>?_,S.b0⟩,S.len,fun i s hi=>?_,S.CC⟩,ff,hk,hn⟩
 ·exact hk a o (S.ZG hA.1 e) (S.keep a o hA e)
 ·rcases hn a o e with q | q
  ·exact S.fresh a o q
  ·exact .inr (S.DW q)
 ·by_cases q:∃ i:Nat,ss[i]?=some .AS/\σ[i]?=some (some (.ref a))
  ·obtain ⟨i,q1,q2⟩:=q;exact hp i a q1 q2
  ·exact jl a (S.HJ a hA) fun i h1 h2=>q ⟨i,h1,h2⟩
 ·refine C5 a ?_ (S.OW a hA);obtain ⟨_,_,e1,_⟩:=S.HJ a hA;rw [e1];simp
 ·obtain ⟨o,e⟩:=Option.ne_none_iff_exists'.mp (S.bH a hB);rw [hk a o (S.yA hB) e];simp
 ·by_cases np:s=.AS
  ·subst np;obtain ⟨l,e,e1,e2,e3⟩:=S.ok i _ hi;have HR:=e3;obtain ⟨_,_,e4,_⟩:=HR;exact ⟨l,e,C5 l (by rw [e4];simp) e1,e2,hp i l hi e⟩
  ·exact Ok.go S hi ff (fun a o m=>hk a o (S.N0 hi m np)) C5 np
def Sg.Ez (S:Sg E ss σ F H)(hi:ss[i]?=some .AS)(e:σ[i]?=some (some (.ref l))):Bj H l:=by
 obtain ⟨l',e1,_,_,p⟩:=S.ok i _ hi;rw [e] at e1;cases e1;exact p
def Sg.alloc (S:Sg E ss σ F H){p:Addr}(h:H p=none)(o:HO):Mv E ss σ F H (upd F p o) (upd H p o):=by
 refine S.step (DT (S.C5 h) _) (fun a u e=>?_) (fun a u _ e=>DT h o a u e) (fun a u e=>?_) fun i l hi e=>Bj.keep (S.Ez hi e) fun u e=>DT h o l u e
 ·by_cases q:a=p
  ·subst q;rw [B0] at e ⊢;exact e
  ·rw [An q] at e ⊢;exact S.fh a u e
 ·by_cases q:a=p
  ·subst q;exact .inr h
  ·rw [An q] at e;exact .inl e
def Sg.make (S:Sg E ss σ F H){p:Addr}(h:H p=none)(o:HO):Mv E ss σ F H F (upd H p o):=
 S.step (AV.refl _) (S.fh.trans (DT h o)) (fun a u _ e=>DT h o a u e) (fun a u e=>.inl e) fun i l hi e=>Bj.keep (S.Ez hi e) fun u e=>DT h o l u e
def Sg.grow (S:Sg E ss σ F H)(s:AV H H'):Mv E ss σ F H F H':=
 S.step (AV.refl _) (S.fh.trans s) (fun a u _ e=>s a u e) (fun a u e=>.inl e) fun i l hi e=>Bj.keep (S.Ez hi e) fun u e=>s l u e
def Sg.setG (S:Sg E ss σ F H)(AK:Ok E F H s (some (some v)))(gb:∀ l,BW s (some (some v)) l->∀ (i:Nat) u,i≠j->ss[i]?=some u->¬ BW u σ[i]? l):Sg E (ss.set j s) (σ.set j (some v)) F H:=by
 refine ⟨S.toFin,by rw [LL,LL];exact S.len,fun i u hi=>?_,fun i k u w l RL hi hk mu mw=>?_⟩
 ·by_cases q:i=j
  ·subst q;have AQ:i<ss.length:=by have:=(List.getElem?_eq_some_iff.mp hi).1;simpa using this
   rw [Ds AQ] at hi;cases hi;rw [Ds (by rw [<- S.len];exact AQ)];exact AK
  ·rw [DL (Bs q)] at hi ⊢;exact S.ok i u hi
 ·by_cases q:i=j
  ·subst q;have AQ:i<ss.length:=by have:=(List.getElem?_eq_some_iff.mp hi).1;simpa using this
   rw [Ds AQ] at hi;rw [Ds (by rw [<- S.len];exact AQ)] at mu;cases hi;rw [DL RL] at hk mw;exact gb l mu k w (Bs RL) hk mw
  ·rw [DL (Bs q)] at hi mu
   by_cases q2:k=j
   ·subst q2;have AQ:k<ss.length:=by have:=(List.getElem?_eq_some_iff.mp hk).1;simpa using this
    rw [Ds AQ] at hk;cases hk;rw [Ds (by rw [<- S.len];exact AQ)] at mw;exact gb l mw i u RL hi mu
   ·rw [DL (Bs q2)] at hk mw;exact S.CC i k u w l RL hi hk mu mw
def Sg.Fp (S:Sg E ss σ F H)(r:Rep F v p):Sg E (ss.set j (.is p)) (σ.set j (some v)) F H:=S.setG ⟨v,rfl,r⟩ fun _ h=>by cases h
def Sv (ss:List Slot)(σ:L2.St)(F H:Hp)(v:V):Bool->List PV->Prop
 | true,xs=>Rep F v (.tup xs)
 | false,xs=>∃ l vs,v=.ref l/\Ca ss σ l/\H l=some (.lst vs)/\AJ F vs xs
def Fv (E:Ent0)(F:Hp)(v:V):Bool->List PV->Prop
 | true,xs=>Rep F v (.tup xs)
 | false,xs=>∃ l vs,v=.ref l/\(F l=some (.lst vs)∨((l∉E.A/\l∉E.B)/\E.H0 l=some (.lst vs)))/\AJ F vs xs
structure Wp [Xw] (ss:List Slot) (t:TE) (k:PV->Prop):Prop where
 go:∀ (E:Ent) (σ:L2.St) (F H:Hp) (Q:VK),Sg E ss σ F H->(∀ v p F' H',Mv E ss σ F H F' H'->Rep F' v p->k p->Q v H')->t σ H Q
structure Wn [Xw] (ss:List Slot) (t:TE) (k:List PV->Prop):Prop where
 go:∀ (E:Ent) (σ:L2.St) (F H:Hp) (Q:VK),Sg E ss σ F H->(∀ l vs xs F' H',Mv E ss σ F H F' H'->F' l=none->H l=none->H' l=some (.lst vs)->AJ F' vs xs->k xs->Q (.ref l) H')->t σ H Q
structure Wq [Xw] (ss:List Slot) (t:TE) (k:Bool->List PV->Prop):Prop where
 go:∀ (E:Ent) (σ:L2.St) (F H:Hp) (Q:VK),Sg E ss σ F H->(∀ v tp xs F' H',Mv E ss σ F H F' H'->Sv ss σ F' H' v tp xs->k tp xs->Q v H')->t σ H Q
structure Wz [Xw] (ss:List Slot) (t:TE) (k:Bool->List PV->Prop):Prop where
 go:∀ (E:Ent) (σ:L2.St) (F H:Hp) (Q:VK),Sg E ss σ F H->(∀ v tp xs F' H',Mv E ss σ F H F' H'->Fv E F' v tp xs->k tp xs->Q v H')->t σ H Q
structure Wt [Xw] (ss:List Slot) (t:TT) (k:Bool->Prop):Prop where
 go:∀ (E:Ent) (σ:L2.St) (F H:Hp) (Q:Bool->Hp->Prop),Sg E ss σ F H->(∀ b F' H',Mv E ss σ F H F' H'->k b->Q b H')->t σ H Q
def Av (ss:List Slot)(σ:L2.St)(F H:Hp)(v:V):Slot->Prop
 | .is p=>Rep F v p
 | .sq tp xs=>Sv ss σ F H v tp xs
 | .raw P=>P F v/\∀ F F',AV F F'->P F v->P F' v
 | _=>False
inductive Fj (ss:List Slot) (σ:L2.St) (F H:Hp):List V->List Slot->Prop where
 | nil:Fj ss σ F H [] []
 | cons {v:V}{s:Slot}{vs:List V}{l:List Slot}:Av ss σ F H v s->Fj ss σ F H vs l->Fj ss σ F H (v::vs) (s::l)
structure Wa [Xw] (ss:List Slot) (t:TA) (k:List Slot->Prop):Prop where
 go:∀ (E:Ent) (σ:L2.St) (F H:Hp) (Q:List V->Hp->Prop),Sg E ss σ F H->(∀ vs l F' H',Mv E ss σ F H F' H'->Fj ss σ F' H' vs l->k l->Q vs H')->t σ H Q
inductive As where
 | is (k:PV->Prop) | new (k:List PV->Prop) | AS | ow (k:OV->Prop) | mt (k:PV->OV->Prop)
def OV.val:OV->V
 | .nd _ a _=>.ref a
 | _=>.AB
def As.ok (R:As)(E:Ent0)(F' H':Hp)(v:V):Prop:=match R with
 | .is k=>∃ p,Rep F' v p/\k p
 | .new k=>∃ l vs xs,v=.ref l/\F' l=none/\E.H0 l=none/\H' l=some (.lst vs)/\AJ F' vs xs/\k xs
 | .AS=>∃ l,v=.ref l/\F' l=none/\E.H0 l=none/\Bj H' l
 | .ow k=>∃ t,B8 F' H' v t/\t.addrs.Nodup/\(∀ a∈t.addrs,F' a=none/\E.H0 a=none)/\k t
 | .mt k=>∃ p t,Rep F' v p/\B8 F' H' t.val t/\t.addrs.Nodup/\(∀ a∈t.addrs,F' a=none/\(E.H0 a=none∨a∈E.B))/\k p t
structure Ws [Xw] (ss:List Slot) (t:TS) (nx:List Slot->Prop) (R:As):Prop where
 go:∀ (E:Ent) (D:Ends) (σ:L2.St) (F H:Hp),Sg E ss σ F H->(∀ A9 σ' F' H',nx A9->Sg E A9 σ' F' H'->AV F F'->D.nx σ' H')->(∀ v F' H',Fin E F' H'->R.ok E F' H' v->D.rt v H')->t D σ H
section
variable [Xw]
variable {K:ZE6}{tb:TE}{k:PV->Prop}{R:As}
def Sv.mv (h:Sv ss σ F H v tp xs)(m:Mv E ss σ F H F' H'):Sv ss σ F' H' v tp xs:=by
 cases tp with
 | true=>exact Rep.mono m.ff h
 | false=>
  obtain ⟨l,vs,e,n,r,q⟩:=h;exact ⟨l,vs,e,n,m.hh l _ n r,q.mono m.ff⟩
def Sv.seq (S:Sg E ss σ F H)(h:Sv ss σ F H v tp xs):∃ l vs,v=.ref l/\H l=some (DP tp vs)/\AJ F vs xs:=by
 cases tp with
 | true=>cases h with | tup e r=>exact ⟨_,_,rfl,S.fh _ _ e,r⟩
 | false=>obtain ⟨l,vs,e,_,r,q⟩:=h;exact ⟨l,vs,e,r,q⟩
def Fv.sv (S:Sg E ss σ F H)(h:Fv E F v tp xs):Sv ss σ F H v tp xs:=by
 cases tp with
 | true=>exact h
 | false=>
  obtain ⟨l,vs,e,h1 | ⟨hA,h1⟩,r⟩:=h
  ·exact ⟨l,vs,e,S.gX h1,S.fh _ _ h1,r⟩
  ·exact ⟨l,vs,e,S.ZG hA.1 h1,S.keep _ _ hA h1,r⟩
def A4 (h:ss[i]?=some (.is p))(hk:k p):Wp ss (BI i) k:=⟨fun E σ F H Q S q=>by
 obtain ⟨v,hv,r⟩:=S.ok i _ h;exact ⟨v,hv,q v p F H (.refl S) r hk⟩⟩
def AH {i:Int}(hk:k (.int i)):Wp ss (tC (.int i)) k:=⟨fun E σ F H Q S q=>q _ _ F H (.refl S) (.int i) hk⟩
def Cg {x:Str}(hk:k (.str x)):Wp ss (tC (.str x)) k:=⟨fun E σ F H Q S q=>q _ _ F H (.refl S) (.str x) hk⟩
def GJ (hk:k (.bl b)):Wp ss (tC (.bl b)) k:=⟨fun E σ F H Q S q=>q _ _ F H (.refl S) (.bl b) hk⟩
def Hm (hk:k .AB):Wp ss (tC .AB) k:=⟨fun E σ F H Q S q=>q _ _ F H (.refl S) .AB hk⟩
def AZ (h:Wn ss te (fun xs=>k (.lst xs))):Wp ss te k:=⟨fun E σ F H Q S q=>h.go E σ F H Q S fun l vs xs F' H' m fl hl Fb r kk=>by
 have S':=m.st;have fr:Mv E ss σ F H (upd F' l (.lst vs)) H':=by
  have nF:∀ a,H' a≠none->a≠l->F' a=none->upd F' l (.lst vs) a=none:=fun a _ h1 h2=>by rw [An h1];exact h2
  refine ⟨⟨⟨fun a u e=>?_,S'.f0.trans (DT fl _),S'.keep,fun a u e=>?_,S'.HJ,fun a hA=>?_,S'.a0,fun a hB=>?_,S'.bH,S'.b0⟩,S'.len,fun i s hi=>?_,S'.CC⟩,m.ff.trans (DT fl _),m.hh,fun a u e=>?_⟩
  ·by_cases q:a=l
   ·subst q;rw [B0] at e;rw [<- e];exact Fb
   ·rw [An q] at e;exact S'.fh a u e
  ·by_cases q:a=l
   ·subst q;exact .inr (S.DW hl)
   ·rw [An q] at e;exact S'.fresh a u e
  ·by_cases q:a=l
   ·subst q;obtain ⟨_,_,e,_⟩:=S.HJ _ hA;rw [hl] at e;cases e
   ·rw [An q];exact S'.OW a hA
  ·by_cases q:a=l
   ·subst q;exact absurd hl (S.bH _ hB)
   ·rw [An q];exact S'.bF a hB
  ·have Vb:∀ a,BW s σ[i]? a->a≠l:=by
    rintro a m rfl;exact S.JD hi hl m
   have kk:=S'.ok i s hi;cases s with
   | any=>trivial
   | is p=>obtain ⟨v,e,r⟩:=kk;exact ⟨v,e,r.mono (DT fl _)⟩
   | own ys=>
    obtain ⟨l',ws,e,e1,e2,e3,r⟩:=kk;exact ⟨l',ws,e,by rw [An (Vb l' e)];exact e1,e2,e3,r.mono (DT fl _)⟩
   | AS=>
    obtain ⟨l',e,e1,e2,e3⟩:=kk;exact ⟨l',e,by rw [An (Vb l' e)];exact e1,e2,e3⟩
   | sq tp ys=>
    cases tp with
    | true=>obtain ⟨v,e,r⟩:=kk;exact ⟨v,e,r.mono (DT fl _)⟩
    | false=>obtain ⟨l',ws,e,e1,e2,r⟩:=kk;exact ⟨l',ws,e,e1,e2,r.mono (DT fl _)⟩
   | raw P=>obtain ⟨v,e,r,st⟩:=kk;exact ⟨v,e,st _ _ (DT fl _) r,st⟩
   | ow lt t=>
    obtain ⟨v,e,r,nd,q⟩:=kk;exact ⟨v,e,r.mono (DT fl _) fun a _ o h=>h,nd,fun a ha=>⟨by rw [An (Vb a ha)];exact (q a ha).1,(q a ha).2⟩⟩
  ·by_cases q:a=l
   ·subst q;exact .inr hl
   ·rw [An q] at e;exact m.nn a u e
 exact q _ _ _ _ fr (.lst B0 (r.mono (DT fl _))) kk⟩
def Am {k:Bool->List PV->Prop}(h:Wp ss te (fun p=>∃ xs,(p=.lst xs/\k false xs)∨(p=.tup xs/\k true xs))):Wq ss te k:=⟨fun E σ F H Q S q=>h.go E σ F H Q S fun v p F' H' m r ⟨xs,h⟩=>by
 rcases h with ⟨rfl,kk⟩ | ⟨rfl,kk⟩
 ·cases r with | lst h r=>exact q _ false xs F' H' m ⟨_,_,rfl,m.st.gX h,m.st.fh _ _ h,r⟩ kk
 ·exact q v true xs F' H' m r kk⟩
def Ao {k:Bool->List PV->Prop}(h:ss[i]?=some (.is (.lst xs)))(hk:k false xs):Wq ss (BI i) k:=Am (A4 h ⟨xs,.inl ⟨rfl,hk⟩⟩)
def BF {k:Bool->List PV->Prop}(h:ss[i]?=some (.is (.tup xs)))(hk:k true xs):Wq ss (BI i) k:=Am (A4 h ⟨xs,.inr ⟨rfl,hk⟩⟩)
def Po {k:Bool->List PV->Prop}(h:ss[i]?=some (.own xs))(hk:k false xs):Wq ss (BI i) k:=⟨fun E σ F H Q S q=>by
 obtain ⟨l,vs,e,e1,e2,e3,r⟩:=S.ok i _ h;exact ⟨_,e,q _ false xs F H (.refl S) ⟨l,vs,rfl,S.N0 h e (by simp),e3,r⟩ hk⟩⟩
def iz {k:Bool->List PV->Prop}(h:ss[i]?=some (.sq tp xs))(hk:k tp xs):Wz ss (BI i) k:=⟨fun E σ F H Q S q=>by
 have kk:=S.ok i _ h;cases tp with
 | true=>obtain ⟨v,e,r⟩:=kk;exact ⟨_,e,q _ true xs F H (.refl S) r hk⟩
 | false=>
  obtain ⟨l,vs,e,hA,h0,r⟩:=kk;exact ⟨_,e,q _ false xs F H (.refl S) ⟨l,vs,rfl,.inr ⟨hA,h0⟩,r⟩ hk⟩⟩
def Bo {k:Bool->List PV->Prop}(h:Wp ss te (fun p=>∃ xs,(p=.lst xs/\k false xs)∨(p=.tup xs/\k true xs))):Wz ss te k:=⟨fun E σ F H Q S q=>h.go E σ F H Q S fun v p F' H' m r ⟨xs,h⟩=>by
 rcases h with ⟨rfl,kk⟩ | ⟨rfl,kk⟩
 ·cases r with | lst h r=>exact q _ false xs F' H' m ⟨_,_,rfl,.inl h,r⟩ kk
 ·exact q _ true xs F' H' m r kk⟩
def ZA0 {k:Bool->List PV->Prop}(h:Wz ss te k):Wq ss te k:=⟨fun E σ F H Q S q=>h.go E σ F H Q S fun v tp xs F' H' m f kk=>q v tp xs F' H' m (f.sv m.st) kk⟩
def JG {k:Bool->List PV->Prop}(h:ss[i]?=some (.sq tp xs))(hk:k tp xs):Wq ss (BI i) k:=ZA0 (iz h hk)
def Vd {C:Int->Int->Prop}(h:Wp ss ta fun x=>∃ i,x=.int i/\Wp ss tb fun y=>∃ j,y=.int j/\C i j/\k (.int (f i j))):Wp ss (BX (rI C fun i j=>.int (f i j)) ta tb) k:=⟨fun E σ F H Q S q=>
 h.go E σ F H _ S fun v p F1 H1 m1 r1 ⟨i,e1,h2⟩=>by
  subst e1;cases r1;exact h2.go E σ F1 H1 _ m1.st fun v2 p2 F2 H2 m2 r2 ⟨j,e2,c,kk⟩=>by
   subst e2;cases r2;exact ⟨i,j,rfl,rfl,c,q _ _ F2 H2 (m1.trans m2) (.int _) kk⟩⟩
def Gi (h:Wp ss ta fun x=>∃ i,x=.int i/\Wp ss tb fun y=>∃ j,y=.int j/\k (.int (f i j))):Wp ss (BX (FG fun i j=>.int (f i j)) ta tb) k:=⟨fun E σ F H Q S q=>
 h.go E σ F H _ S fun v p F1 H1 m1 r1 ⟨i,e1,h2⟩=>by
  subst e1;cases r1;exact h2.go E σ F1 H1 _ m1.st fun v2 p2 F2 H2 m2 r2 ⟨j,e2,kk⟩=>by
   subst e2;cases r2;exact ⟨i,j,rfl,rfl,q _ _ F2 H2 (m1.trans m2) (.int _) kk⟩⟩
def Yn {f:Int->Int->Bool}(h:Wp ss ta fun x=>∃ i,x=.int i/\Wp ss tb fun y=>∃ j,y=.int j/\k (.bl (f i j))):Wp ss (BX (FG fun i j=>.bl (f i j)) ta tb) k:=⟨fun E σ F H Q S q=>
 h.go E σ F H _ S fun v p F1 H1 m1 r1 ⟨i,e1,h2⟩=>by
  subst e1;cases r1;exact h2.go E σ F1 H1 _ m1.st fun v2 p2 F2 H2 m2 r2 ⟨j,e2,kk⟩=>by
   subst e2;cases r2;exact ⟨i,j,rfl,rfl,q _ _ F2 H2 (m1.trans m2) (.bl _) kk⟩⟩
def HU {f:Int->Int}(h:Wp ss ta fun x=>∃ i,x=.int i/\k (.int (f i))):Wp ss (PF (rU fun i=>.int (f i)) ta) k:=⟨fun E σ F H Q S q=>
 h.go E σ F H _ S fun v p F1 H1 m1 r1 ⟨i,e1,kk⟩=>by
  subst e1;cases r1;exact ⟨i,rfl,q _ _ F1 H1 m1 (.int _) kk⟩⟩
def alike:PV->PV->Bool
 | .int i,.int j=>decide (i=j)
 | .str i,.str j=>decide (i=j)
 | .bl i,.bl j=>decide (i=j)
 | .AB,.AB=>true
 | _,_=>false
noncomputable def Lz (p q:PV):Bool:=flat p && flat q && Pg (Fz.enc p) (Fz.enc q)
def eB {q:PV}(h:Lz p q=true):decide (Fz.enc p=Fz.enc q)=alike p q:=by
 unfold Lz at h;rw [Ei,Ei] at h;obtain ⟨⟨h1,h2⟩,h3⟩:=h;cases p <;> cases q <;> first | (simp [Fz.enc,alike];done) | (simp [flat] at h1;done) | (simp [flat] at h2;done) | (simp [Fz.enc,Pg] at h3;done)
def C3 (h:Wp ss ta fun x=>Wp ss tb fun y=>Lz x y=true/\k (.bl (alike x y))):Wp ss (BX Rz ta tb) k:=⟨fun E σ F H Q S q=>
 h.go E σ F H _ S fun v p F1 H1 m1 r1 h2=>h2.go E σ F1 H1 _ m1.st fun v2 p2 F2 H2 m2 r2 ⟨sc,kk⟩=>by
  have T1:=sc;unfold Lz at sc;rw [Ei,Ei] at sc;rw [r1.enc sc.1.1,r2.enc sc.1.2];refine ⟨sc.2,?_⟩;rw [eB T1];exact q _ _ F2 H2 (m1.trans m2) (.bl _) kk⟩
def Tx (h:Wp ss ta fun x=>Wp ss tb fun y=>Lz x y=true/\k (.bl (!alike x y))):Wp ss (BX d9 ta tb) k:=⟨fun E σ F H Q S q=>
 h.go E σ F H _ S fun v p F1 H1 m1 r1 h2=>h2.go E σ F1 H1 _ m1.st fun v2 p2 F2 H2 m2 r2 ⟨sc,kk⟩=>by
  have T1:=sc;unfold Lz at sc;rw [Ei,Ei] at sc;rw [r1.enc sc.1.1,r2.enc sc.1.2];refine ⟨sc.2,?_⟩;rw [eB T1];exact q _ _ F2 H2 (m1.trans m2) (.bl _) kk⟩
def Gb (h:Wp ss ta fun x=>∃ c,x=.bl c/\if c=true then Wp ss tb k else k (.bl false)):Wp ss (Vz ta tb) k:=⟨fun E σ F H Q S q=>
 h.go E σ F H _ S fun v p F1 H1 m1 r1 ⟨c,e,h2⟩=>by
  subst e;cases r1;refine ⟨c,rfl,?_⟩;cases c with
  | true=>rw [mZ rfl] at h2 ⊢;exact h2.go E σ F1 H1 _ m1.st fun v2 p2 F2 H2 m2 r2 kk=>q _ _ F2 H2 (m1.trans m2) r2 kk
  | false=>rw [k6 (by decide)] at h2 ⊢;exact q _ _ F1 H1 m1 (.bl _) h2⟩
def gL (h:Wp ss ta fun x=>∃ c,x=.bl c/\k (.bl (!c))):Wp ss (Us ta) k:=⟨fun E σ F H Q S q=>
 h.go E σ F H _ S fun v p F1 H1 m1 r1 ⟨c,e,kk⟩=>by subst e;cases r1;exact ⟨c,rfl,q _ _ F1 H1 m1 (.bl _) kk⟩⟩
def ZBk {f g:Int->Int->Bool}(h:Wp ss ta fun x=>∃ i,x=.int i/\Wp ss tb fun y=>∃ j,y=.int j/\if f i j=true then Wp ss tc (fun z=>∃ l,z=.int l/\k (.bl (g j l))) else k (.bl false)):
  Wp ss (OJ (FG fun i j=>.bl (f i j)) (FG fun i j=>.bl (g i j)) ta tb tc) k:=⟨fun E σ F H Q S q=>
 h.go E σ F H _ S fun v p F1 H1 m1 r1 ⟨i,e1,h2⟩=>by
  subst e1;cases r1;exact h2.go E σ F1 H1 _ m1.st fun v2 p2 F2 H2 m2 r2 ⟨j,e2,h3⟩=>by
   subst e2;cases r2;refine ⟨i,j,rfl,rfl,f i j,rfl,?_⟩;cases c:f i j with
   | true=>
    rw [c,mZ rfl] at h3;rw [mZ rfl];exact h3.go E σ F2 H2 _ m2.st fun v3 p3 F3 H3 m3 r3 ⟨l,e3,kk⟩=>by
     subst e3;cases r3;exact ⟨j,l,rfl,rfl,q _ _ F3 H3 (m1.trans (m2.trans m3)) (.bl _) kk⟩
   | false=>
    rw [c,k6 (by decide)] at h3;rw [k6 (by decide)];exact q _ _ F2 H2 (m1.trans m2) (.bl _) h3⟩
def B1 {k:Bool->Prop}(h:Wp ss te fun x=>∃ c,x=.bl c/\k c):Wt ss (IZ te) k:=⟨fun E σ F H Q S q=>
 h.go E σ F H _ S fun v p F1 H1 m1 r1 ⟨c,e,kk⟩=>by subst e;cases r1;exact ⟨c,rfl,q _ F1 H1 m1 kk⟩⟩
def G6 {k:Bool->Prop}(h:Wp ss te fun x=>∃ c,x=.bl c/\k c):Wt ss (tB te) k:=⟨fun E σ F H Q S q=>
 h.go E σ F H _ S fun v p F1 H1 m1 r1 ⟨c,e,kk⟩=>by subst e;cases r1;exact ⟨c,rfl,q _ F1 H1 m1 kk⟩⟩
def E7 {k:Bool->Prop}(h:k true):Wt ss Sn k:=⟨fun E σ F H Q S q=>q _ F H (.refl S) h⟩
def NV {t:TT}{k:Bool->Prop}(h:Wt ss t fun c=>k (!c)):Wt ss (UL t) k:=⟨fun E σ F H Q S q=>h.go E σ F H _ S fun c F1 H1 m1 kk=>q _ F1 H1 m1 kk⟩
def Qr {t u:TT}{k:Bool->Prop}(h:Wt ss t fun c=>if c=true then Wt ss u k else k false):Wt ss (QL t u) k:=⟨fun E σ F H Q S q=>
 h.go E σ F H _ S fun c F1 H1 m1 h2=>by
  show if c=true then _ else _
  cases c with
  | true=>rw [mZ rfl] at h2 ⊢;exact h2.go E σ F1 H1 _ m1.st fun c2 F2 H2 m2 kk=>q _ F2 H2 (m1.trans m2) kk
  | false=>rw [k6 (by decide)] at h2 ⊢;exact q _ F1 H1 m1 h2⟩
def ID {t u:TT}{k:Bool->Prop}(h:Wt ss t fun c=>if c=true then k true else Wt ss u k):Wt ss (QZ t u) k:=⟨fun E σ F H Q S q=>
 h.go E σ F H _ S fun c F1 H1 m1 h2=>by
  show if c=true then _ else _
  cases c with
  | true=>rw [mZ rfl] at h2 ⊢;exact q _ F1 H1 m1 h2
  | false=>rw [k6 (by decide)] at h2 ⊢;exact h2.go E σ F1 H1 _ m1.st fun c2 F2 H2 m2 kk=>q _ F2 H2 (m1.trans m2) kk⟩
end
structure We [Xw] (ss:List Slot) (t:TA) (k:List PV->Prop):Prop where
 go:∀ (E:Ent) (σ:L2.St) (F H:Hp) (Q:List V->Hp->Prop),Sg E ss σ F H->(∀ vs ps F' H',Mv E ss σ F H F' H'->AJ F' vs ps->k ps->Q vs H')->t σ H Q
structure Wo [Xw] (ss:List Slot) (t:TO) (k:Option Int->Prop):Prop where
 go:∀ (E:Ent) (σ:L2.St) (F H:Hp) (Q:Option Int->Hp->Prop),Sg E ss σ F H->(∀ o F' H',Mv E ss σ F H F' H'->k o->Q o H')->t σ H Q
section
variable [Xw]
variable {K:ZE6}{tb:TE}{k:PV->Prop}{R:As}
def BK {k:List PV->Prop}(h:k []):We ss BV k:=⟨fun E σ F H Q S q=>q _ _ F H (.refl S) .nil h⟩
def Ah {k:List PV->Prop}(h:Wp ss te fun p=>We ss t fun ps=>k (p::ps)):We ss (Ap te t) k:=⟨fun E σ F H Q S q=>
 h.go E σ F H _ S fun v p F1 H1 m1 r1 h2=>h2.go E σ F1 H1 _ m1.st fun vs ps F2 H2 m2 r2 kk=>q _ _ F2 H2 (m1.trans m2) (.cons (r1.mono m2.ff) r2) kk⟩
def Aw {k:List Slot->Prop}(h:k []):Wa ss BV k:=⟨fun E σ F H Q S q=>q _ _ F H (.refl S) .nil h⟩
def AF {k:List Slot->Prop}(h:Wp ss te fun p=>Wa ss t fun l=>k (.is p::l)):Wa ss (Ap te t) k:=⟨fun E σ F H Q S q=>
 h.go E σ F H _ S fun v p F1 H1 m1 r1 h2=>h2.go E σ F1 H1 _ m1.st fun vs l F2 H2 m2 r2 kk=>q _ _ F2 H2 (m1.trans m2) (.cons (s:=.is p) (r1.mono m2.ff) r2) kk⟩
def G3 {k:List Slot->Prop}(h:Wq ss te fun tp xs=>Wa ss t fun l=>k (.sq tp xs::l)):Wa ss (Ap te t) k:=⟨fun E σ F H Q S q=>
 h.go E σ F H _ S fun v tp xs F1 H1 m1 r1 h2=>h2.go E σ F1 H1 _ m1.st fun vs l F2 H2 m2 r2 kk=>q _ _ F2 H2 (m1.trans m2) (.cons (s:=.sq tp xs) (r1.mv m2) r2) kk⟩
def Dk {k:Option Int->Prop}(h:k none):Wo ss IG k:=⟨fun E σ F H Q S q=>q _ F H (.refl S) h⟩
def EJ {k:Option Int->Prop}(h:Wp ss te fun p=>∃ i,p=.int i/\k (some i)):Wo ss (IK te) k:=⟨fun E σ F H Q S q=>
 h.go E σ F H _ S fun v p F1 H1 m1 r1 ⟨i,e,kk⟩=>by subst e;cases r1;exact ⟨i,rfl,q _ F1 H1 m1 kk⟩⟩
def Jc {n:Nat}(h:n<=99999):n<sizeLine:=E9 (Nat.lt_succ_of_le h) (small (Ai 100000))
def C8 (h:We ss t fun ps=>ps.length<=100000/\k (.tup ps)):Wp ss (Mw t) k:=⟨fun E σ F H Q S q=>
 h.go E σ F H _ S fun vs ps F1 H1 m1 r1 ⟨hz,kk⟩=>⟨small (by rw [r1.length];exact hz),fun a ha=>by
  have m2:=m1.st.alloc ha (.tup vs);exact q _ _ _ _ (m1.trans m2) (.tup B0 (r1.mono m2.ff)) kk⟩⟩
def D3 {k:List PV->Prop}(h:We ss t fun ps=>ps.length<=100000/\k ps):Wn ss (Q8 t) k:=⟨fun E σ F H Q S q=>
 h.go E σ F H _ S fun vs ps F1 H1 m1 r1 ⟨hz,kk⟩=>⟨small (by rw [r1.length];exact hz),fun a ha=>by
  have m2:=m1.st.make ha (.lst vs);refine q a vs ps F1 _ (m1.trans m2) (m1.st.C5 ha) ?_ B0 r1 kk;cases e:H a with
  | none=>rfl
  | some o=>rw [m1.hh a o (m1.st.Ij ha) e] at ha;cases ha⟩⟩
def HZ (h:Wq ss te fun _ xs=>k (.int xs.length)):Wp ss (D7 (Oo K) (Ap te BV)) k:=⟨fun E σ F H Q S q=>
 h.go E σ F H _ S fun v tp xs F1 H1 m1 sv kk=>by
  obtain ⟨l,vs,rfl,hl,r⟩:=sv.seq m1.st;refine ⟨l,vs,rfl,(DP.sq (K:=K) hl).or,?_⟩;rw [r.length];exact q _ _ F1 H1 m1 (.int _) kk⟩
theorem AJ.BA {i:Int}(r:AJ F vs xs)(h:L2.BA xs i=some p):∃ u,L2.BA vs i=some u/\Rep F u p:=by
 unfold L2.BA at h ⊢;rw [r.length];cases e:Fw xs.length i with
 | none=>rw [e] at h;cases h
 | some j=>
  rw [e] at h;exact r.get h
def CQ (h:Wq ss ta fun tp xs=>tp=false/\Wp ss tb fun y=>∃ i p,y=.int i/\L2.BA xs i=some p/\k p):Wp ss (BX (MB K) ta tb) k:=⟨fun E σ F H Q S q=>
 h.go E σ F H _ S fun v tp xs F1 H1 m1 sv ⟨et,h2⟩=>h2.go E σ F1 H1 _ m1.st fun v2 p2 F2 H2 m2 r2 ⟨i,p,e,ha,kk⟩=>by
  subst e;cases r2;subst et;obtain ⟨l,vs,rfl,hl,r⟩:=(sv.mv m2).seq m2.st;obtain ⟨u,hu,ru⟩:=r.BA ha;exact ⟨l,vs,i,u,rfl,rfl,AY.of hl,hu,q _ _ F2 H2 (m1.trans m2) ru kk⟩⟩
def B3 (h:Wq ss ta fun tp xs=>tp=true/\Wp ss tb fun y=>∃ i p,y=.int i/\L2.BA xs i=some p/\k p):Wp ss (BX (Du K) ta tb) k:=⟨fun E σ F H Q S q=>
 h.go E σ F H _ S fun v tp xs F1 H1 m1 sv ⟨et,h2⟩=>h2.go E σ F1 H1 _ m1.st fun v2 p2 F2 H2 m2 r2 ⟨i,p,e,ha,kk⟩=>by
  subst e;cases r2;subst et;obtain ⟨l,vs,rfl,hl,r⟩:=(sv.mv m2).seq m2.st;obtain ⟨u,hu,ru⟩:=r.BA ha;exact ⟨l,vs,i,u,rfl,rfl,Aq.of hl,hu,q _ _ F2 H2 (m1.trans m2) ru kk⟩⟩
def cv (h:Wp ss ta fun p=>∃ x,p=.str x/\Wq ss tb fun _ ys=>∃ ns:List Str,ys=ns.map PV.str/\k (.bl (if neg then !decide (x∈ns) else decide (x∈ns)))):Wp ss (BX (HN K neg) ta tb) k:=⟨fun E σ F H Q S q=>
 h.go E σ F H _ S fun v p F1 H1 m1 r1 ⟨x,e,h2⟩=>by
  subst e;cases r1;exact h2.go E σ F1 H1 _ m1.st fun v2 tp ys F2 H2 m2 sv ⟨ns,e2,kk⟩=>by
   subst e2;obtain ⟨l,vs,rfl,hl,r⟩:=sv.seq m2.st;rw [r.strs] at hl;refine ⟨l,_,rfl,(DP.sq (K:=K) hl).or,rfl,KJ ns,?_⟩;rw [Xd];exact q _ _ F2 H2 (m1.trans m2) (.bl _) kk⟩
def MH {k:List PV->Prop}(hr:r=fun xs H Q=>∃ p ys,xs=[.ref p]/\(AY K H p ys∨Aq K H p ys)/\∀ l,H l=none->Q (.ref l) (upd H l (.lst ys)))(h:Wq ss te fun _ xs=>k xs):Wn ss (D7 r (Ap te BV)) k:=⟨fun E σ F H Q S q=>
 h.go E σ F H _ S fun v tp xs F1 H1 m1 sv kk=>by
  subst hr;obtain ⟨l,vs,rfl,hl,r⟩:=sv.seq m1.st;refine ⟨l,vs,rfl,(DP.sq (K:=K) hl).or,fun a ha=>?_⟩;have m2:=m1.st.make ha (.lst vs);exact q a vs xs F1 _ (m1.trans m2) (m1.st.C5 ha) (m1.none ha) B0 r kk⟩
def Nl (hr:r=fun xs H Q=>∃ p ys,xs=[.ref p]/\((AY K H p ys/\∀ l,H l=none->Q (.ref l) (upd H l (.tup ys)))∨(Aq K H p ys/\Q (.ref p) H)))(h:Wq ss te fun _ xs=>k (.tup xs)):Wp ss (D7 r (Ap te BV)) k:=⟨fun E σ F H Q S q=>
 h.go E σ F H _ S fun v tp xs F1 H1 m1 sv kk=>by
  subst hr;cases tp with
  | false=>
   obtain ⟨l,vs,rfl,hl,r⟩:=sv.seq m1.st;refine ⟨l,vs,rfl,.inl ⟨AY.of hl,fun a ha=>?_⟩⟩;have m2:=m1.st.alloc ha (.tup vs);exact q _ _ _ _ (m1.trans m2) (.tup B0 (r.mono m2.ff)) kk
  | true=>
   have Si:Rep F1 v (.tup xs):=sv;cases Si with
   | tup e r=>exact ⟨_,_,rfl,.inr ⟨Aq.of (m1.st.fh _ _ e),q _ _ F1 H1 m1 (.tup e r) kk⟩⟩⟩
def E8 {k:List PV->Prop}(h:Wq ss ta fun tp xs=>tp=false/\Wq ss tb fun Bw ys=>Bw=false/\xs.length+ys.length<=100000/\k (xs++ys)):Wn ss (BX YA ta tb) k:=⟨fun E σ F H Q S q=>
 h.go E σ F H _ S fun v tp xs F1 H1 m1 sv ⟨et,h2⟩=>h2.go E σ F1 H1 _ m1.st fun v2 Bw ys F2 H2 m2 Ny ⟨Wy,hz,kk⟩=>by
  subst et;subst Wy;obtain ⟨l,vs,rfl,hl,r⟩:=(sv.mv m2).seq m2.st;obtain ⟨l2,Ff,rfl,DA,r2⟩:=Ny.seq m2.st;refine ⟨l,l2,vs,Ff,rfl,rfl,hl,DA,small (by rw [r.length,r2.length];exact hz),fun a ha=>?_⟩;have m3:=m2.st.make ha (.lst (vs++Ff));exact q a _ _ F2 _ (m1.trans (m2.trans m3)) (m2.st.C5 ha) ((m1.trans m2).none ha) B0 (r.append r2) kk⟩
noncomputable def Au {α:Type}(xs:List α)(lo hi:Option Int):List α:=(xs.drop (HT.Ak xs.length 0 lo)).take (HT.Ak xs.length xs.length hi - HT.Ak xs.length 0 lo)
def AJ.cut (r:AJ F vs xs)(lo hi:Option Int):AJ F (G9 vs lo hi) (Au xs lo hi):=by
 unfold G9 Au;rw [r.length];exact (r.drop _).take _
def FL {k:List PV->Prop}(h:Wq ss te fun tp xs=>tp=false/\Wo ss tl fun lo=>Wo ss th fun hi=>k (Au xs lo hi)):Wn ss (Hj (IJ K) te tl th) k:=⟨fun E σ F H Q S q=>
 h.go E σ F H _ S fun v tp xs F1 H1 m1 sv ⟨et,h2⟩=>h2.go E σ F1 H1 _ m1.st fun lo F2 H2 m2 h3=>h3.go E σ F2 H2 _ m2.st fun hi F3 H3 m3 kk=>by
  subst et;obtain ⟨l,vs,rfl,hl,r⟩:=(sv.mv (m2.trans m3)).seq m3.st;refine ⟨l,vs,rfl,AY.of hl,fun a ha=>?_⟩;have m4:=m3.st.make ha (.lst (G9 vs lo hi));exact q a _ _ F3 _ (m1.trans (m2.trans (m3.trans m4))) (m3.st.C5 ha) ((m1.trans (m2.trans m3)).none ha) B0 (r.cut lo hi) kk⟩
def di (tp:Bool)(xs:List PV):PV:=if tp then .tup xs else .lst xs
def iK (K:ZE6):V->Option Int->Option Int->Hp->VK->Prop:=fun x lo hi H Q=>IJ K x lo hi H Q∨Ze K x lo hi H Q
def P5 {X:Cx}:KC X (iK X.K):=by
 intro pins s σ H x v vl vu lo hi sl Q I rx hs pl pu h;rcases h with h | h
 ·exact Cm pins s σ H x v vl vu lo hi sl Q I rx hs pl pu h
 ·exact ZC4 pins s σ H x v vl vu lo hi sl Q I rx hs pl pu h
def Oq (h:Wq ss te fun tp xs=>Wo ss tl fun lo=>Wo ss th fun hi=>k (di tp (Au xs lo hi))):Wp ss (Hj (iK K) te tl th) k:=⟨fun E σ F H Q S q=>
 h.go E σ F H _ S fun v tp xs F1 H1 m1 sv h2=>h2.go E σ F1 H1 _ m1.st fun lo F2 H2 m2 h3=>h3.go E σ F2 H2 _ m2.st fun hi F3 H3 m3 kk=>by
  have Zs:=sv.mv (m2.trans m3);have Vs:=m1.trans (m2.trans m3);cases tp with
  | false=>
   obtain ⟨l,vs,rfl,hl,r⟩:=Zs.seq m3.st;refine .inl ⟨l,vs,rfl,AY.of hl,fun a ha=>?_⟩;have m4:=m3.st.alloc ha (.lst (G9 vs lo hi));exact q _ _ _ _ (Vs.trans m4) (.lst B0 ((r.cut lo hi).mono m4.ff)) kk
  | true=>
   have Si:Rep F3 v (.tup xs):=Zs;cases Si with
   | @tup _ vs _ e r=>
    refine .inr ⟨_,vs,rfl,Aq.of (m3.st.fh _ _ e),fun hw=>?_,fun hw a ha=>?_⟩
    ·have ew:Au xs lo hi=xs:=by
      rw [r.length] at hw;unfold Au;rw [hw.1,hw.2];simp
     refine q _ _ F3 H3 Vs (.tup e r) ?_;have fT:=kk;rw [ew] at fT;exact fT
    ·have m4:=m3.st.alloc ha (.tup (G9 vs lo hi));exact q _ _ _ _ (Vs.trans m4) (.tup B0 ((r.cut lo hi).mono m4.ff)) kk⟩
def ZAn (xs ys:List Str):Gv (xs.map V.str) (ys.map V.str)=decide (xs=ys):=by
 by_cases h:xs=ys
 ·subst h;rw [ZBr,jy rfl]
 ·rw [nZ h]
  by_cases hl:xs.length=ys.length
  ·rw [MJ (by simpa using hl)]
   cases c:(List.range (xs.map V.str).length).all fun j=>DX ((xs.map V.str).getD j .AB) ((ys.map V.str).getD j .AB) with
   | false=>rfl
   | true=>
    exfalso;apply h;apply SH hl;intro j h1 h2;have q:=List.all_eq_true.mp c j (List.mem_range.mpr (by simpa using h1))
    have e1:(xs.map V.str)[j]?=some (.str xs[j]):=by rw [Ac,AX h1];rfl
    have e2:(ys.map V.str)[j]?=some (.str ys[j]):=by rw [Ac,AX h2];rfl
    rw [Ni e1,Ni e2] at q;have q':(xs[j] == ys[j])=true:=q
    simpa using q'
  ·rw [Lx (by simpa using hl)]
def Z6 (h:Wq ss ta fun tp xs=>∃ ns:List Str,xs=ns.map PV.str/\Wq ss tb fun Bw ys=>Bw=tp/\∃ ms:List Str,ys=ms.map PV.str/\k (.bl (if neg then !decide (ns=ms) else decide (ns=ms)))):Wp ss (BX (N7 K neg) ta tb) k:=⟨fun E σ F H Q S q=>
 h.go E σ F H _ S fun v tp xs F1 H1 m1 sv ⟨ns,e1,h2⟩=>h2.go E σ F1 H1 _ m1.st fun v2 Bw ys F2 H2 m2 Ny ⟨et,ms,e2,kk⟩=>by
  subst e1;subst e2;subst et;obtain ⟨l,vs,rfl,hl,r⟩:=(sv.mv m2).seq m2.st;obtain ⟨l2,Ff,rfl,DA,r2⟩:=Ny.seq m2.st;rw [r.strs] at hl;rw [r2.strs] at DA;refine ⟨l,l2,ns.map V.str,ms.map V.str,rfl,rfl,?_,KJ _,KJ _,?_⟩
  ·cases Bw
   ·exact .inl ⟨AY.of hl,AY.of DA⟩
   ·exact .inr ⟨Aq.of hl,Aq.of DA⟩
  ·rw [ZAn];cases neg
   ·exact q _ _ F2 H2 (m1.trans m2) (.bl _) kk
   ·exact q _ _ F2 H2 (m1.trans m2) (.bl _) kk⟩
def QH (hr:r=fun xs H Q=>∃ (p:Addr) (bs:List Bool),xs=[.ref p]/\AY K H p (bs.map V.bl)/\Q (.bl (bs.all id)) H)(h:Wq ss te fun tp xs=>tp=false/\∃ bs:List Bool,xs=bs.map PV.bl/\k (.bl (bs.all id))):Wp ss (D7 r (Ap te BV)) k:=⟨fun E σ F H Q S q=>
 h.go E σ F H _ S fun v tp xs F1 H1 m1 sv ⟨et,bs,e,kk⟩=>by
  subst hr;subst e;subst et;obtain ⟨l,vs,rfl,hl,r⟩:=sv.seq m1.st;rw [r.kX] at hl;exact ⟨l,bs,rfl,AY.of hl,q _ _ F1 H1 m1 (.bl _) kk⟩⟩
def tyP:PV->String
 | .AB => "NoneType"
 | .bl _ => "bool"
 | .int _ => "int"
 | .str _ => "str"
 | .lst _ => "list"
 | .tup _ => "tuple"
 | .B7 _ _ => "dict"
 | _ => ""
def Kq:PV->Value
 | .obj _ _ _=>.none
 | .exc _ _ _=>.none
 | .con _ _=>.none
 | p=>.type (tyP p)
def P7 (h:PySem.W.kitOne K .none (.type n)=some b):False:=by
 unfold PySem.W.kitOne PySem.W.kitCls PySem.W.subIn at h;simp at h
def Rep.uo (s:AV F H)(r:Rep F v p)(hb:PySem.W.kitOne K (Kq p) (.type n)=some b):Es K H v (Kq p):=by
 cases r with
 | AB=>exact .AB
 | bl b=>exact .bl b
 | int i=>exact .int i
 | str x=>exact .str x
 | lst h _=>exact .lst (s _ _ h)
 | tup h _=>exact .tup (s _ _ h)
 | B7 h _ _=>exact .dK (s _ _ h)
 | obj _ _ _ _=>exact (P7 hb).elim
 | Rj _=>exact (P7 hb).elim
 | con=>exact (P7 hb).elim
 | exc _ _ _ _=>exact (P7 hb).elim
def pO (h:Wp ss te fun p=>∃ b,PySem.W.kitOne K (Kq p) (.type n)=some b/\k (.bl b)):Wp ss (D7 (ZD K) (Ap te (Ap (tC (.ty n)) BV))) k:=⟨fun E σ F H Q S q=>
 h.go E σ F H _ S fun v p F1 H1 m1 r ⟨b,hb,kk⟩=>⟨v,n,_,b,rfl,r.uo m1.st.fh hb,hb,q _ _ F1 H1 m1 (.bl _) kk⟩⟩
def iL (hr:r=fun xs H Q=>∃ i j,xs=[.int i,.int j]/\Q (.int (if j > i then j else i)) H)(h:Wp ss ta fun x=>∃ i,x=.int i/\Wp ss tb fun y=>∃ j,y=.int j/\k (.int (if j > i then j else i))):Wp ss (D7 r (Ap ta (Ap tb BV))) k:=⟨fun E σ F H Q S q=>
 h.go E σ F H _ S fun v p F1 H1 m1 r1 ⟨i,e1,h2⟩=>by
  subst hr;subst e1;cases r1;exact h2.go E σ F1 H1 _ m1.st fun v2 p2 F2 H2 m2 r2 ⟨j,e2,kk⟩=>by
   subst e2;cases r2;exact ⟨i,j,rfl,q _ _ F2 H2 (m1.trans m2) (.int _) kk⟩⟩
def oI (hr:r=fun xs H Q=>∃ i j,xs=[.int i,.int j]/\Q (.int (if j<i then j else i)) H)(h:Wp ss ta fun x=>∃ i,x=.int i/\Wp ss tb fun y=>∃ j,y=.int j/\k (.int (if j<i then j else i))):Wp ss (D7 r (Ap ta (Ap tb BV))) k:=⟨fun E σ F H Q S q=>
 h.go E σ F H _ S fun v p F1 H1 m1 r1 ⟨i,e1,h2⟩=>by
  subst hr;subst e1;cases r1;exact h2.go E σ F1 H1 _ m1.st fun v2 p2 F2 H2 m2 r2 ⟨j,e2,kk⟩=>by
   subst e2;cases r2;exact ⟨i,j,rfl,q _ _ F2 H2 (m1.trans m2) (.int _) kk⟩⟩
end
structure Src (E:Ent0) (F1:Hp) (J:It) (xs:List PV):Prop where
 go:∀ (ss:List Slot) (σ:L2.St) (F H:Hp) (i:Nat),AV F1 F->Sg E ss σ F H->i<xs.length->J.go i H
 stop:∀ (ss:List Slot) (σ:L2.St) (F H:Hp),AV F1 F->Sg E ss σ F H->J.stop xs.length H
 EU:∀ (ss:List Slot) (σ:L2.St) (F H:Hp) (i:Nat) (x:V) (H':Hp),AV F1 F->Sg E ss σ F H->i<xs.length->J.EU i H x H'->∃ p F',xs[i]?=some p/\Mv E ss σ F H F' H'/\Rep F' x p
structure Wi [Xw] (ss:List Slot) (wi:TI) (k:List PV->Prop):Prop where
 go:∀ (E:Ent) (σ:L2.St) (F H:Hp) (R:It->Hp->Prop),Sg E ss σ F H->(∀ J xs F' H',Mv E ss σ F H F' H'->Src E F' J xs->k xs->R J H')->wi σ H R
structure Wg [Xw] (ss:List Slot) (g:TG) (p:PV) (k:List Slot->Prop):Prop where
 go:∀ (E:Ent) (σ:L2.St) (F H:Hp) (v:V) (Q:L2.St->Hp->Prop),Sg E ss σ F H->Rep F v p->(∀ A9 σ',k A9->Sg E A9 σ' F H->Q σ' H)->g v σ H Q
section
variable [Xw]
variable {K:ZE6}{tb:TE}{k:PV->Prop}{R:As}
def Z2 (h:∀ (ss:List Slot) (σ:L2.St) (F H:Hp),AV F' F->Sg E ss σ F H->H l=some (DP tp vs))(r:AJ F' vs xs):Src E F' (Q2 K tp l vs) xs where
 go:=fun ss σ F H i s S hi=>⟨DP.sq (h ss σ F H s S),by rw [r.length];exact hi⟩
 stop:=fun ss σ F H s S=>⟨DP.sq (h ss σ F H s S),by rw [r.length];exact Ai _⟩
 EU:=fun ss σ F H i x H' s S hi y=>by
  obtain ⟨e,hx⟩:=y;subst e;obtain ⟨p,hp,rp⟩:=r.get' hx;exact ⟨p,F,hp,.refl S,rp.mono s⟩
def CS {k:List PV->Prop}(h:Wz ss te fun _ xs=>k xs):Wi ss (O8 K te) k:=⟨fun E σ F H R S q=>
 h.go E σ F H _ S fun v tp xs F1 H1 m1 f kk=>by
  cases tp with
  | true=>
   have f':Rep F1 v (.tup xs):=f;cases f' with
   | tup e r=>exact ⟨true,_,_,rfl,Aq.of (m1.st.fh _ _ e),q _ _ F1 H1 m1 (Z2 (tp:=true) (fun ss σ F H s S=>S.fh _ _ (s _ _ e)) r) kk⟩
  | false=>
   obtain ⟨l,vs,rfl,h1,r⟩:=f;have hl:∀ (ss:List Slot) (σ:L2.St) (F H:Hp),AV F1 F->Sg E ss σ F H->H l=some (.lst vs):=fun ss σ F H s S=>by
    rcases h1 with h1 | ⟨hA,h1⟩
    ·exact S.fh _ _ (s _ _ h1)
    ·exact S.keep _ _ hA h1
   exact ⟨false,l,vs,rfl,AY.of (hl ss σ F1 H1 (AV.refl _) m1.st),q _ _ F1 H1 m1 (Z2 (tp:=false) hl r) kk⟩⟩
def JT (n:Nat):List PV:=(List.range n).map fun i:Nat=>PV.int (i:Int)
def Hk (n:Nat):(JT n).length=n:=by simp [JT]
def Xk {n:Nat}(h:(JT n)[i]?=some p):i<n/\p=.int (i:Int):=by
 have hi:i<n:=by have:=(List.getElem?_eq_some_iff.mp h).1;rwa [Hk] at this
 unfold JT at h;rw [Ac,P0 hi] at h;exact ⟨hi,(Bc h).symm⟩
def iB {k:List PV->Prop}(h:Wp ss te fun p=>∃ j:Int,p=.int j/\j<=1000000/\-1000000<=j/\k (JT j.toNat)):Wi ss (Vo (Ap te BV)) k:=⟨fun E σ F H R S q=>
 h.go E σ F H _ S fun v p F1 H1 m1 r ⟨j,e,h1,h2,kk⟩=>by
  subst e;cases r;refine ⟨j,rfl,by omega,by omega,q _ (JT j.toNat) F1 H1 m1 ⟨fun ss σ F H i s S hi=>?_,fun ss σ F H s S=>?_,fun ss σ F H i x H' s S hi y=>?_⟩ kk⟩
  ·rw [Hk] at hi;exact hi
  ·show _<=_;rw [Hk];exact Ai _
  ·obtain ⟨e,hx⟩:=y;subst e;subst hx;rw [Hk] at hi;refine ⟨.int (i:Int),F,?_,.refl S,?_⟩
   ·unfold JT;rw [Ac,P0 hi];rfl
   ·rw [Int.zero_add];exact .int _⟩
def EI {k:List Slot->Prop}(h:k (ss.set j (.is p))):Wg ss (CO j) p k:=⟨fun E σ F H v Q S r q=>q _ _ h (S.Fp r)⟩
def V5 {k:List Slot->Prop}(h:∃ a b,p=.tup [a,b]/\k ((ss.set i (.is a)).set j (.is b))):Wg ss (Kj K 2 (Gm (CO i) (Gm (CO j) LR))) p k:=⟨fun E σ F H v Q S r q=>by
 obtain ⟨a,b,rfl,kk⟩:=h;cases r with
 | tup e r=>
  cases r with
  | cons r1 r=>cases r with
   | cons r2 r=>cases r with
    | nil=>exact ⟨_,_,rfl,Aq.of (S.fh _ _ e),rfl,_,_,rfl,_,_,rfl,rfl,q _ _ kk ((S.Fp r1).Fp r2)⟩⟩
def xp {l:Nat}{k:List Slot->Prop}(h:∃ a b c,p=.tup [a,b,c]/\k (((ss.set i (.is a)).set j (.is b)).set l (.is c))):Wg ss (Kj K 3 (Gm (CO i) (Gm (CO j) (Gm (CO l) LR)))) p k:=⟨fun E σ F H v Q S r q=>by
 obtain ⟨a,b,c,rfl,kk⟩:=h;cases r with
 | tup e r=>
  cases r with
  | cons r1 r=>cases r with
   | cons r2 r=>cases r with
    | cons r3 r=>cases r with
     | nil=>exact ⟨_,_,rfl,Aq.of (S.fh _ _ e),rfl,_,_,rfl,_,_,rfl,_,_,rfl,rfl,q _ _ kk (((S.Fp r1).Fp r2).Fp r3)⟩⟩
def AN {t:TS}(h:Ws ss t (fun A9=>Ws A9 u nx R) R):Ws ss (Om t u) nx R:=⟨fun E D σ F H S hn hr=>
 h.go E { D with nx:=u D } σ F H S (fun A9 σ' F' H' w S' s=>w.go E D σ' F' H' S' (fun CA σ2 F2 H2 n2 S2 s2=>hn CA σ2 F2 H2 n2 S2 (s.trans s2)) hr) hr⟩
def Cy {t:TS}(h:Ws ss t nx R):Ws ss (Tj t) nx R:=⟨fun E D σ F H S hn hr=>⟨D.nx,h.go E { D with nx:=D.nx } σ F H S hn hr,fun _ _ q=>q⟩⟩
def Ws.mono {t:TS}(h:Ws ss t nx R)(i:∀ s,nx s->Pp s):Ws ss t Pp R:=⟨fun E D σ F H S hn hr=>h.go E D σ F H S (fun A9 σ' F' H' n=>hn A9 σ' F' H' (i _ n)) hr⟩
def Oc {t:TS}(J:List Slot->Prop)(h:Ws ss t J R)(h2:∀ A9,J A9->Ws A9 u nx R):Ws ss (Om t u) nx R:=AN (h.mono h2)
def CT (h:Wp ss te fun p=>nx (ss.set i (.is p))):Ws ss (EE te (CO i)) nx R:=⟨fun E D σ F H S hn hr=>
 h.go E σ F H _ S fun v p F1 H1 m1 r kk=>hn _ _ F1 H1 kk (m1.st.Fp r) m1.ff⟩
def Z0 (h:Wp ss te fun p=>Wg ss g p nx):Ws ss (EE te g) nx R:=⟨fun E D σ F H S hn hr=>
 h.go E σ F H _ S fun v p F1 H1 m1 r kk=>kk.go E σ F1 H1 v _ m1.st r fun A9 σ' n S'=>hn _ _ F1 H1 n S' m1.ff⟩
def Fo (h:Wn ss te fun xs=>nx (ss.set i (.own xs))):Ws ss (EE te (CO i)) nx R:=⟨fun E D σ F H S hn hr=>
 h.go E σ F H _ S fun l vs xs F1 H1 m1 fl hl GD r kk=>hn _ _ F1 H1 kk (m1.st.setG ⟨l,vs,rfl,fl,S.DW hl,GD,r⟩ fun l' e j u _ hu mu=>by cases e;exact S.JD hu hl mu) m1.ff⟩
def BH (h:Wp ss te k):Ws ss (J6 te) nx (.is k):=⟨fun E D σ F H S hn hr=>
 h.go E σ F H _ S fun v p F1 H1 m1 r kk=>hr v F1 H1 m1.st.toFin ⟨p,r,kk⟩⟩
def Ik {k:List PV->Prop}(h:Wn ss te k):Ws ss (J6 te) nx (.new k):=⟨fun E D σ F H S hn hr=>
 h.go E σ F H _ S fun l vs xs F1 H1 m1 fl hl GD r kk=>hr _ F1 H1 m1.st.toFin ⟨l,vs,xs,rfl,fl,S.DW hl,GD,r,kk⟩⟩
def ZZ {k:List PV->Prop}(h:ss[i]?=some (.own xs))(kk:k xs):Ws ss (J6 (BI i)) nx (.new k):=⟨fun E D σ F H S hn hr=>by
 obtain ⟨l,vs,e,e1,e2,e3,r⟩:=S.ok i _ h;exact ⟨_,e,hr _ F H S.toFin ⟨l,vs,xs,rfl,e1,e2,e3,r,kk⟩⟩⟩
def BP {t:TS}(h:Wt ss c fun b=>if b=true then Ws ss t nx R else Ws ss u nx R):Ws ss (W6 c t u) nx R:=⟨fun E D σ F H S hn hr=>
 h.go E σ F H _ S fun b F1 H1 m1 w=>by
  show if b=true then _ else _
  cases b with
  | true=>rw [mZ rfl] at w ⊢;exact w.go E D σ F1 H1 m1.st (fun CA σ2 F2 H2 n S2 s2=>hn CA σ2 F2 H2 n S2 (m1.ff.trans s2)) hr
  | false=>rw [k6 (by decide)] at w ⊢;exact w.go E D σ F1 H1 m1.st (fun CA σ2 F2 H2 n S2 s2=>hn CA σ2 F2 H2 n S2 (m1.ff.trans s2)) hr⟩
def BC (h:nx ss):Ws ss YJ nx R:=⟨fun E D σ F H S hn hr=>hn ss σ F H h S (AV.refl _)⟩
def Km (h:Wp ss te fun _=>nx ss):Ws ss (HQ te) nx R:=⟨fun E D σ F H S hn hr=>
 h.go E σ F H _ S fun v p F1 H1 m1 r kk=>hn ss σ F1 H1 kk m1.st m1.ff⟩
def Sg.drop (S:Sg E ss σ F H)(i:Nat):Sg E (ss.set i .any) σ F H:=by
 have Eg:∀ (j:Nat) u,(ss.set i .any)[j]?=some u->u=.any∨ss[j]?=some u:=fun j u hj=>by
  by_cases q:j=i
  ·subst q;have AQ:j<ss.length:=by have:=(List.getElem?_eq_some_iff.mp hj).1;simpa using this
   rw [Ds AQ] at hj;exact .inl (Bc hj).symm
  ·rw [DL (Bs q)] at hj;exact .inr hj
 refine ⟨S.toFin,by rw [LL];exact S.len,fun j u hj=>?_,fun j k u w l Qs hj hk mu mw=>?_⟩
 ·rcases Eg j u hj with rfl | h
  ·trivial
  ·exact S.ok j u h
 ·rcases Eg j u hj with rfl | h
  ·cases mu
  ·rcases Eg k w hk with rfl | h2
   ·cases mw
   ·exact S.CC j k u w l Qs h h2 mu mw
def RQ (e:σ[i]?=some (some v)):σ.set i (some v)=σ:=by
 apply jE;intro j
 by_cases q:j=i
 ·subst q;rw [Ds (List.getElem?_eq_some_iff.mp e).1,e]
 ·rw [DL (Bs q)]
def Sg.MI (S:Sg E ss σ F H)(fa:F a=none)(h0:E.H0 a=none∨a∈E.B)(hn:∀ (i:Nat) s,ss[i]?=some s->¬ BW s σ[i]? a):Sg E ss σ F (upd H a o):=by
 have hb:∀ b u,b≠a->H b=some u->upd H a o b=some u:=fun b u h e=>by rw [An h];exact e
 refine ⟨⟨fun b u e=>?_,S.f0,fun b u hA e=>?_,S.fresh,fun b hA=>?_,S.OW,S.a0,S.bF,fun b hB=>?_,S.b0⟩,S.len,fun i s hi=>?_,S.CC⟩
 ·exact hb b u (Dj e fa) (S.fh b u e)
 ·refine hb b u ?_ (S.keep b u hA e);rintro rfl;rcases h0 with h0 | h0
  ·rw [h0] at e;cases e
  ·exact hA.2 h0
 ·refine Bj.keep (S.HJ b hA) fun u e=>hb b u ?_ e;rintro rfl;rcases h0 with h0 | h0
  ·exact S.a0 _ hA h0
  ·exact (S.b0 _ h0).2 hA
 ·by_cases q:b=a
  ·subst q;rw [B0];simp
  ·rw [An q];exact S.bH b hB
 ·by_cases np:s=.AS
  ·subst np;obtain ⟨l,e,e1,e2,e3⟩:=S.ok i _ hi;exact ⟨l,e,e1,e2,Bj.keep e3 fun u h=>hb l u (by rintro rfl;exact hn i _ hi e) h⟩
  ·exact Ok.go S hi (AV.refl _) (fun b u m h=>hb b u (by rintro rfl;exact hn i _ hi m) h) (fun _ _ h=>h) np
def Sg.put (S:Sg E ss σ F H){ys:List PV}(hi:ss[i]?=some (.own xs))(e:σ[i]?=some (some (.ref l)))(fl:F l=none)(h0:E.H0 l=none)(r:AJ F Bh ys):Sg E (ss.set i (.own ys)) σ F (upd H l (.lst Bh)):=by
 have ne1:∀ (j:Nat) s,(ss.set i .any)[j]?=some s->¬ BW s σ[j]? l:=fun j s hj mj=>by
  by_cases q:j=i
  ·subst q;have AQ:j<ss.length:=(List.getElem?_eq_some_iff.mp hi).1;rw [Ds AQ] at hj;cases hj;cases mj
  ·rw [DL (Bs q)] at hj;exact S.CC j i s _ l q hj hi mj e
 have S2:=(S.drop i).MI (o:=.lst Bh) fl (.inl h0) ne1;have S3:=S2.setG (j:=i) (s:=.own ys) (v:=.ref l) ⟨l,Bh,rfl,fl,h0,B0,r⟩ fun l' e' j u hj hu mu=>by cases e';exact ne1 j u hu mu
 rw [RQ e,Ya] at S3;exact S3
def UC (hi:ss[i]?=some (.own xs))(h:Wp ss te fun p=>xs.length<=99999/\nx (ss.set i (.own (xs++[p])))):Ws ss (HQ (Jf K "list" RS (BI i) (Ap te BV))) nx R:=⟨fun E D σ F H S hn hr=>by
 obtain ⟨l,vs,e,e1,e2,e3,r⟩:=S.ok i _ hi;refine ⟨_,e,.inl ⟨rfl,_,AY.of e3⟩,h.go E σ F H _ S fun v p F1 H1 m1 rv ⟨hz,kk⟩=>?_⟩;obtain ⟨l',Bh,e',DO,CD,HR,r'⟩:=m1.st.ok i _ hi;rw [e] at e';cases e';refine ⟨l,Bh,v,rfl,rfl,HR,Jc (by rw [r'.length];exact hz),?_⟩;exact hn _ σ F1 _ kk (m1.st.put hi e DO CD (r'.append (.one rv))) m1.ff⟩
def gg (hi:ss[i]?=some (.own xs))(h:Wp ss ta fun a=>∃ j:Int,a=.int j/\0<=j/\j<=xs.length/\Wp ss te fun p=>xs.length<=99999/\nx (ss.set i (.own (xs.take j.toNat++p::xs.drop j.toNat)))):
  Ws ss (HQ (Jf K "list" VR (BI i) (Ap ta (Ap te BV)))) nx R:=⟨fun E D σ F H S hn hr=>by
 obtain ⟨l,vs,e,e1,e2,e3,r⟩:=S.ok i _ hi;refine ⟨_,e,.inl ⟨rfl,_,AY.of e3⟩,h.go E σ F H _ S fun v1 p1 F1 H1 m1 M9 ⟨j,ej,j0,j1,h2⟩=>?_⟩;subst ej;cases M9;refine h2.go E σ F1 H1 _ m1.st fun v p F2 H2 m2 rv ⟨hz,kk⟩=>?_;obtain ⟨l',Bh,e',DO,CD,HR,r'⟩:=m2.st.ok i _ hi;rw [e] at e';cases e';refine ⟨l,Bh,j,v,rfl,rfl,HR,j0,by rw [r'.length];exact j1,Jc (by rw [r'.length];exact hz),?_⟩;exact hn _ σ F2 _ kk (m2.st.put hi e DO CD ((r'.take _).append (.cons rv (r'.drop _)))) (m1.ff.trans m2.ff)⟩
def Cp (F H:Hp)(as:List Addr):Hp:=fun a=>if a∈as then H a else F a
def Sg.lay (S:Sg E ss σ F H)(as:List Addr)(h0:∀ a∈as,F a=none/\E.H0 a=none/\H a≠none)(hn:∀ a∈as,∀ (i:Nat) s,ss[i]?=some s->¬ BW s σ[i]? a):Sg E ss σ (Cp F H as) H/\AV F (Cp F H as):=by
 have Sq:∀ a,a∈as->Cp F H as a=H a:=fun a h=>mZ h;have Qf:∀ a,a∉as->Cp F H as a=F a:=fun a h=>k6 h;have ff:AV F (Cp F H as):=fun a o e=>by
  by_cases q:a∈as
  ·rw [(h0 a q).1] at e;cases e
  ·rw [Qf a q];exact e
 have nF:∀ a,a∉as->F a=none->Cp F H as a=none:=fun a q h=>by rw [Qf a q];exact h
 refine ⟨⟨⟨fun a o e=>?_,S.f0.trans ff,S.keep,fun a o e=>?_,S.HJ,fun a hA=>?_,S.a0,fun a hB=>?_,S.bH,S.b0⟩,S.len,fun i s hi=>?_,S.CC⟩,ff⟩
 ·by_cases q:a∈as
  ·rw [Sq a q] at e;exact e
  ·rw [Qf a q] at e;exact S.fh a o e
 ·by_cases q:a∈as
  ·exact .inr (h0 a q).2.1
  ·rw [Qf a q] at e;exact S.fresh a o e
 ·exact nF a (fun q=>S.a0 a hA (h0 a q).2.1) (S.OW a hA)
 ·exact nF a (fun q=>(S.b0 a hB).1 (h0 a q).2.1) (S.bF a hB)
 ·have no:∀ a,BW s σ[i]? a->a∉as:=fun a m q=>hn a q i s hi m;have kk:=S.ok i s hi;cases s with
  | any=>trivial
  | is p=>obtain ⟨v,e,r⟩:=kk;exact ⟨v,e,r.mono ff⟩
  | own ys=>
   obtain ⟨l',ws,q,q1,q2,q3,r⟩:=kk;exact ⟨l',ws,q,nF l' (no l' q) q1,q2,q3,r.mono ff⟩
  | AS=>
   obtain ⟨l',q,q1,q2,q3⟩:=kk;exact ⟨l',q,nF l' (no l' q) q1,q2,q3⟩
  | sq tp ys=>
   cases tp with
   | true=>obtain ⟨v,e,r⟩:=kk;exact ⟨v,e,r.mono ff⟩
   | false=>obtain ⟨l',ws,q,q1,q2,r⟩:=kk;exact ⟨l',ws,q,q1,q2,r.mono ff⟩
  | raw P=>obtain ⟨v,e,r,st⟩:=kk;exact ⟨v,e,st _ _ ff r,st⟩
  | ow lt t=>
   obtain ⟨v,e,r,nd,q⟩:=kk;exact ⟨v,e,r.mono ff fun a _ o h=>h,nd,fun a ha=>⟨nF a (no a ha) (q a ha).1,(q a ha).2⟩⟩
def Jk {t:TS}(i:Nat)(hi:ss[i]?=some (.own xs))(h:Ws (ss.set i (.is (.lst xs))) t nx R):Ws ss t nx R:=⟨fun E D σ F H S hn hr=>by
 obtain ⟨l,vs,e,e1,e2,e3,r⟩:=S.ok i _ hi;have one:∀ a,a∈[l]->a=l:=fun a h=>by simpa using h
 obtain ⟨S1,nf⟩:=(S.drop i).lay [l] (fun a h=>by rw [one a h,e3];exact ⟨e1,e2,by simp⟩) fun a h j s hj m=>by
  rw [one a h] at m
  by_cases q:j=i
  ·subst q;rw [Ds (List.getElem?_eq_some_iff.mp hi).1] at hj;cases hj;cases m
  ·rw [DL (Bs q)] at hj;exact S.CC j i s _ l q hj hi m e
 have S2:=S1.Fp (j:=i) (v:=.ref l) (p:=.lst xs) (.lst (by unfold Cp;rw [mZ (by simp)];exact e3) (r.mono nf));rw [RQ e,Ya] at S2;exact h.go E D σ _ H S2 (fun CA σ2 F2 H2 n S2 s2=>hn CA σ2 F2 H2 n S2 (nf.trans s2)) hr⟩
def Dh {tb:TS}(I:List PV->Nat->List Slot->Prop)(h:Wi ss wi fun xs=>I xs 0 ss/\(∀ (i:Nat) p A9,xs[i]?=some p->I xs i A9->Wg A9 g p fun CA=>Ws CA tb (I xs (i+1)) R)/\∀ A9,I xs xs.length A9->nx A9):Ws ss (Qn wi g tb) nx R:=⟨fun E D σ F H S hn hr=>
 h.go E σ F H _ S fun J xs F1 H1 m1 sr ⟨i0,hs,hd⟩=>by
  refine ⟨fun i m σ' H'=>m=xs.length - i/\i<=xs.length/\∃ A9 F',I xs i A9/\Sg E A9 σ' F' H'/\AV F1 F',⟨_,rfl,CM _,ss,F1,i0,m1.st,AV.refl _⟩,?_⟩;rintro i m σ' H' ⟨rfl,hi,A9,F',hI,S',s'⟩
  by_cases AQ:i<xs.length
  ·refine .inr ⟨sr.go A9 σ' F' H' i s' S' AQ,fun σ2 H2=>∃ CA F2,I xs (i+1) CA/\Sg E CA σ2 F2 H2/\AV F1 F2,fun σ2 H2 ⟨CA,F2,a,b,c⟩=>⟨_,by omega,rfl,AQ,CA,F2,a,b,c⟩,fun x H3 y=>?_⟩;obtain ⟨p,F3,hp,m3,rp⟩:=sr.EU A9 σ' F' H' i x H3 s' S' AQ y;refine (hs i p A9 hp hI).go E σ' F3 H3 x _ m3.st rp fun yy σ4 w S4=>?_;exact w.go E _ σ4 F3 H3 S4 (fun OH σ5 F5 H5 n5 S5 s5=>⟨OH,F5,n5,S5,(s'.trans m3.ff).trans s5⟩) hr
  ·have e:i=xs.length:=by omega
   subst e;exact .inl ⟨sr.stop A9 σ' F' H' s' S',hn A9 σ' F' H' (hd A9 hI) S' (m1.ff.trans s')⟩⟩
def Xs {tb:TS}(I:Nat->List Slot->Prop)(m0:Nat)(h0:I m0 ss)(h:∀ m A9,I m A9->Wt A9 c fun b=>if b=true then Ws A9 tb (fun CA=>∃ m',m' < m/\I m' CA) R else nx A9):Ws ss (VO c tb) nx R:=⟨fun E D σ F H S hn hr=>by
 refine ⟨fun m σ' H'=>∃ A9 F',I m A9/\Sg E A9 σ' F' H'/\AV F F',⟨m0,ss,F,h0,S,AV.refl _⟩,?_⟩;rintro m σ' H' ⟨A9,F',hI,S',s'⟩;refine (h m A9 hI).go E σ' F' H' _ S' fun b F1 H1 m1 w=>?_;cases b with
 | true=>
  rw [mZ rfl] at w;refine ⟨fun σ2 H2=>∃ CA F2,(∃ m',m' < m/\I m' CA)/\Sg E CA σ2 F2 H2/\AV F F2,fun σ2 H2 ⟨CA,F2,⟨m',l,i⟩,b,c⟩=>⟨m',l,CA,F2,i,b,c⟩,?_⟩;exact w.go E _ σ' F1 H1 m1.st (fun OH σ5 F5 H5 n5 S5 s5=>⟨OH,F5,n5,S5,(s'.trans m1.ff).trans s5⟩) hr
 | false=>
  rw [k6 (by decide)] at w;exact hn A9 σ' F1 H1 w m1.st (s'.trans m1.ff)⟩
end
def CG (js:List Nat)(ss:List Slot):List Slot:=js.map fun j=>(ss[j]?).getD .any
def NP (js:List Nat)(ss:List Slot):Bool:=js.all fun j=>match ss[j]? with
 | some .AS=>false
 | _=>true
section
variable [Xw]
variable {K:ZE6}{js:List Nat}
def er (h:js[i]?=some j)(e:(CG js ss)[i]?=some s):s=(ss[j]?).getD .any:=by
 unfold CG at e;rw [Ac,h] at e;exact (Bc e).symm
def Sg.AI (S:Sg E ss σ F H)(nd:js.Nodup)(r:AJ F vs ps):Sg E (CG js ss++ps.map .is) (Bb js σ++vs.map some) F H:=by
 have hl:(CG js ss).length=js.length:=by simp [CG]
 have DA:(Bb js σ).length=js.length:=by simp [Bb]
 have Eg:∀ (i:Nat) (hi:i<js.length),(CG js ss++ps.map .is)[i]?=some ((ss[js[i]]?).getD .any)/\(Bb js σ++vs.map some)[i]?=some ((σ[js[i]]?).join):=fun i hi=>by
  rw [DK (by rw [hl];exact hi),DK (by rw [DA];exact hi)];unfold CG Bb;rw [Ac,Ac,AX hi];exact ⟨rfl,rfl⟩
 have at2:∀ (i:Nat) s,js.length<=i->(CG js ss++ps.map .is)[i]?=some s->∃ p v,s=.is p/\(Bb js σ++vs.map some)[i]?=some (some v)/\Rep F v p:=fun i s hi e=>by
  rw [Ej (by rw [hl];exact hi),hl,Ac] at e;rw [Ej (by rw [DA];exact hi),DA,Ac];cases q:ps[i - js.length]? with
  | none=>rw [q] at e;cases e
  | some p=>
   rw [q] at e;obtain ⟨v,hv,rv⟩:=r.get q;rw [hv];exact ⟨p,v,(Bc e).symm,rfl,rv⟩
 have fx:∀ (s:Slot) (m:Nat) (l:Addr),BW s (some (σ[m]?).join) l->BW s σ[m]? l:=fun s m l o=>by
  have fy:∀ l,some (σ[m]?).join=some (some (V.ref l))->σ[m]?=some (some (.ref l)):=fun l e=>by
   cases q:σ[m]? with
   | none=>rw [q] at e;cases e
   | some o=>rw [q] at e;cases o with
    | none=>cases e
    | some v=>simpa using e
  cases s with
  | own xs=>exact fy l o
  | AS=>exact fy l o
  | ow lt t=>exact o
  | _=>exact o
 have sm:∀ (i:Nat) s l,(CG js ss++ps.map .is)[i]?=some s->BW s (Bb js σ++vs.map some)[i]? l->∃ hi:i<js.length,ss[js[i]]?=some s/\BW s σ[js[i]]? l:=fun i s l e m=>by
  by_cases hi:i<js.length
  ·rw [(Eg i hi).2] at m;refine ⟨hi,?_,fx s _ l m⟩;rw [(Eg i hi).1] at e;cases q:ss[js[i]]? with
   | none=>rw [q] at e;cases e;cases m
   | some u=>rw [q] at e;exact e
  ·obtain ⟨p,v,rfl,_⟩:=at2 i s (by omega) e;cases m
 refine ⟨S.toFin,?_,fun i s e=>?_,fun i j s u l HS hi hj ms mu=>?_⟩
 ·rw [B2,B2,hl,DA,AA,AA,r.length]
 ·by_cases hi:i<js.length
  ·obtain ⟨a,b⟩:=Eg i hi;rw [a] at e;rw [b];cases q:ss[js[i]]? with
   | none=>rw [q] at e;cases e;trivial
   | some u=>
    rw [q] at e;have eu:u=s:=Bc e;subst eu;have kk:=S.ok _ _ q;cases u with
    | any=>trivial
    | is p=>obtain ⟨v,e,r⟩:=kk;rw [e];exact ⟨v,rfl,r⟩
    | own xs=>obtain ⟨l,vs,e,r⟩:=kk;rw [e];exact ⟨l,vs,rfl,r⟩
    | AS=>obtain ⟨l,e,r⟩:=kk;rw [e];exact ⟨l,rfl,r⟩
    | sq tp xs=>
     cases tp with
     | true=>obtain ⟨v,e,r⟩:=kk;rw [e];exact ⟨v,rfl,r⟩
     | false=>obtain ⟨l,vs,e,r⟩:=kk;rw [e];exact ⟨l,vs,rfl,r⟩
    | raw P=>obtain ⟨v,e,r⟩:=kk;rw [e];exact ⟨v,rfl,r⟩
    | ow lt t=>obtain ⟨v,e,r⟩:=kk;rw [e];exact ⟨v,rfl,r⟩
  ·obtain ⟨p,v,rfl,hv,rv⟩:=at2 i s (by omega) e;rw [hv];exact ⟨v,rfl,rv⟩
 ·obtain ⟨li,qi,oi⟩:=sm i s l hi ms;obtain ⟨lj,qj,oj⟩:=sm j u l hj mu;refine S.CC js[i] js[j] s u l (fun e=>HS ?_) qi qj oi oj;exact (ZCv nd).mp e
def Mv.out (S:Sg E ss σ F H)(np:NP js ss=true)(m:Mv E (CG js ss++ps.map .is) τ F H F' H'):Mv E ss σ F H F' H':=by
 have nn:∀ a,Ca (CG js ss++ps.map .is) τ a:=fun a i hi _=>by
  by_cases h:i<(CG js ss).length
  ·rw [DK h] at hi;have hj:i<js.length:=by simpa [CG] using h
   have q:=er (AX hj) hi;have z:=List.all_eq_true.mp np js[i] (Fs hj);cases w:ss[js[i]]? with
   | none=>rw [w] at q;cases q
   | some u=>rw [w] at q z;cases q;cases z
  ·rw [Ej (by omega),Ac] at hi;cases w:ps[i - (CG js ss).length]? with
   | none=>rw [w] at hi;cases hi
   | some p=>rw [w] at hi;cases hi
 have hk:∀ a o,H a=some o->H' a=some o:=fun a o e=>m.hh a o (nn a) e;exact S.step m.ff m.st.fh (fun a o _ e=>hk a o e) m.nn fun i l hi e=>Bj.keep (S.Ez hi e) fun o e=>hk l o e
def aQ {k:List PV->Prop}(f:PV->Bool)(g:PV->PV)
  (h:Wi ss wi fun xs=>xs.length<=100000/\(∀ x∈xs,Wt (CG js ss++[.is x]) tt fun b=>b=f x)/\(∀ x∈xs,f x=true->Wp (CG js ss++[.is x]) te fun p=>p=g x)/\k ((xs.filter f).map g))
  (nd:js.Nodup:=by decide) (np:NP js ss=true:=by rfl):Wn ss (JS wi js tt te) k:=⟨fun E σ F H Q S q=>
 h.go E σ F H _ S fun J xs F1 H1 m1 sr ⟨hz,ht,he,kk⟩ acc Ay=>by
  have Fg:Ca ss σ acc:=m1.st.Ij Ay;have JW:=m1.st.DW Ay;have K9:∀ (i:Nat) s,ss[i]?=some s->¬ BW s σ[i]? acc:=fun i s hi=>m1.st.JD hi Ay;refine ⟨fun i m H2=>m=xs.length - i/\i<=xs.length/\∃ F2 vs,Mv E ss σ F1 H1 F2 H2/\F2 acc=none/\H2 acc=some (.lst vs)/\AJ F2 vs (((xs.take i).filter f).map g),⟨_,rfl,CM _,F1,[],m1.st.make Ay _,m1.st.C5 Ay,B0,.nil⟩,?_⟩;rintro i m H2 ⟨rfl,hi,F2,vs,m2,fa,ha,rv⟩
  by_cases AQ:i<xs.length
  ·refine .inr ⟨sr.go ss σ F2 H2 i m2.ff m2.st AQ,fun x H3 y=>?_⟩;obtain ⟨p,F3,hp,m3,rp⟩:=sr.EU ss σ F2 H2 i x H3 m2.ff m2.st AQ y;have Ie:p∈xs:=C7 hp;have JE:(xs.take (i+1))=xs.take i++[p]:=by
    have e2:xs[i]=p:=by rw [AX AQ] at hp;exact Bc hp
    rw [P2 AQ,e2]
   have e1:List.filter f (xs.take (i+1))=(xs.take i).filter f++(if f p=true then [p] else []):=by
    rw [JE,YQ];congr 1
    by_cases hf:f p=true <;> simp [hf]
   have IY:∀ {F4:Hp},(∀ a o,F4 a=some o->F2 a=some o∨H2 a=none)->F4 acc=none:=fun {F4} n=>by
    cases e:F4 acc with
    | none=>rfl
    | some o=>
     rcases n acc o e with w | w
     ·rw [fa] at w;cases w
     ·rw [ha] at w;cases w
   have S3:=m3.st.AI (js:=js) nd (.one rp);refine (ht p Ie).go E _ F3 H3 _ S3 fun b F4 H4 m4 hb=>?_;have CY:=m3.trans (m4.out (ps:=[p]) m3.st np);show if b=true then _ else _
   rw [hb]
   by_cases hf:f p=true
   ·rw [mZ hf];have S4:=CY.st.AI (js:=js) nd (.one (rp.mono (m4.out (ps:=[p]) m3.st np).ff));refine (he p Ie hf).go E _ F4 H4 _ S4 fun w pw F5 H5 m5 Hy ew=>?_;have m45:=m4.out (ps:=[p]) m3.st np;have KW:=m5.out (ps:=[p]) CY.st np;have DG:=CY.trans KW;have Jz:=DG.hh acc _ Fg ha;have HD:=IY DG.nn;have hlen:vs.length<=99999:=by
     rw [rv.length,AA];have:=SK f (xs.take i);rw [DM] at this;omega
    refine ⟨vs,Jz,Jc hlen,xs.length - (i+1),by omega,rfl,AQ,F5,vs++[w],?_,HD,B0,?_⟩
    ·have Dn:=m2.trans DG;refine ⟨Dn.st.MI HD (.inl JW) K9,Dn.ff,fun a o n e=>?_,Dn.nn⟩;rw [An (Dj e Ay)];exact Dn.hh a o n e
    ·rw [e1,mZ hf,Be];rw [ew] at Hy;exact (rv.mono DG.ff).append (.one Hy)
   ·have Ot:f p=false:=by simpa using hf
    rw [Ot,k6 (by decide)];refine ⟨xs.length - (i+1),by omega,rfl,AQ,F4,vs,m2.trans CY,IY CY.nn,CY.hh acc _ Fg ha,?_⟩;rw [e1,k6 hf,Df];exact rv.mono CY.ff
  ·have e:i=xs.length:=by omega
   subst e;refine .inl ⟨sr.stop ss σ F2 H2 m2.ff m2.st,q acc vs _ F2 H2 (m1.trans m2) fa (m1.none Ay) ha ?_ kk⟩;rw [FQ] at rv;exact rv⟩
end
abbrev Pre:=List Slot->As->Prop
def AM (pre:Pre):Sp:=fun vs H Q _=>∃ (ss:List Slot) (R:As) (F:Hp) (A:List Addr),pre ss R/\Sg (E3 A F H) ss (vs.map some) F H/\∀ v F' H',Fin (E3 A F H) F' H'->R.ok (E3 A F H) F' H' v->Q v H'
section
variable [Xw]
variable {pre:Pre}{k:PV->Prop}
theorem Fj.at {l:List Slot}(h:Fj ss σ F H vs l):∀ {i:Nat}{s:Slot},l[i]?=some s->∃ v,vs[i]?=some v/\Av ss σ F H v s:=by
 induction h with
 | nil=>intro i s e;simp at e
 | cons a _ ih=>
  intro i s e;cases i with
  | zero=>simp at e;subst e;exact ⟨_,rfl,a⟩
  | succ i=>exact ih (by simpa using e)
def Fj.len {l:List Slot}(h:Fj ss σ F H vs l):l.length=vs.length:=by
 induction h with
 | nil=>rfl
 | cons a _ ih=>rw [By,By,ih]
def Av.ok (S:Sg E ss σ F H)(a:Av ss σ F H v s)(hA:∀ l,Ca ss σ l->l∉A):Ok (E3 A F H) F H s (some (some v))/\∀ o l,¬ BW s o l:=by
 cases s with
 | is p=>exact ⟨⟨v,rfl,a⟩,fun _ _ z=>z⟩
 | sq tp xs=>
  cases tp with
  | true=>exact ⟨⟨v,rfl,a⟩,fun _ _ z=>z⟩
  | false=>obtain ⟨l,vs,rfl,n,h,r⟩:=a;exact ⟨⟨l,vs,rfl,⟨hA l n,Aa⟩,h,r⟩,fun _ _ z=>z⟩
 | raw P=>exact ⟨⟨v,rfl,a⟩,fun _ _ z=>z⟩
 | any=>exact a.elim
 | own xs=>exact a.elim
 | AS=>exact a.elim
 | ow lt t=>exact a.elim
def Sg.RM (S:Sg E ss σ F H){l:List Slot}(a:Fj ss σ F H vs l):Sg (E3 [] F H) l (vs.map some) F H:=by
 have nn:∀ {p:Prop}(a:Addr),a∈([]:List Addr)->p:=fun a h=>absurd h Aa;refine ⟨⟨S.fh,AV.refl _,fun _ _ _ e=>e,fun _ _ e=>.inl e,fun a h=>nn a h,fun a h=>nn a h,fun a h=>nn a h,fun a h=>nn a h,fun a h=>nn a h,fun a h=>nn a h⟩,by rw [AA];exact a.len,fun i s hi=>?_,fun i j s u l HS hi hj ms mu=>?_⟩
 ·obtain ⟨v,hv,q⟩:=a.at hi;rw [Ac,hv];exact (q.ok S fun _ _ h=>absurd h Aa).1
 ·obtain ⟨v,hv,q⟩:=a.at hi;exact (q.ok S (A:=[]) fun _ _ h=>absurd h Aa).2 _ _ ms
def Sg.Tc (S:Sg E ss σ F H){p:Addr}(hi:ss[i0]?=some .AS)(e:σ[i0]?=some (some (.ref p))){l:List Slot}(a:Fj ss σ F H vs l):Sg (E3 [p] F H) (.AS::l) ((V.ref p::vs).map some) F H:=by
 obtain ⟨p',e',fp,_,pp⟩:=S.ok i0 _ hi;rw [e] at e';cases e';have hA:∀ l,Ca ss σ l->l∉[p]:=fun l n h=>by
  have:l=p:=by simpa using h
  subst this;exact n i0 hi e
 have one:∀ a,a∈[p]->a=p:=fun a h=>by simpa using h
 have nn:∀ {p:Prop}(a:Addr),a∈([]:List Addr)->p:=fun a h=>absurd h Aa;refine ⟨⟨S.fh,AV.refl _,fun _ _ _ e=>e,fun _ _ e=>.inl e,fun a h=>(one a h)▸pp,fun a h=>(one a h)▸fp,fun a h=>?_,fun a h=>nn a h,fun a h=>nn a h,fun a h=>nn a h⟩,by rw [AA,By,By];rw [a.len],fun i s hi=>?_,fun i j s u l' HS hi hj ms mu=>?_⟩
 ·rw [one a h];obtain ⟨_,_,q,_⟩:=pp;show H p≠none;rw [q];simp
 ·cases i with
  | zero=>simp at hi;subst hi;exact ⟨p,rfl,fp,.inr (by simp),pp⟩
  | succ i=>
   obtain ⟨v,hv,q⟩:=a.at (i:=i) (s:=s) (by simpa using hi)
   have:((V.ref p::vs).map some)[i+1]?=some (some v):=by rw [BL,ZCq,Ac,hv];rfl
   rw [this];exact (q.ok S hA).1
 ·have z:∀ (i:Nat) s o l',(Slot.AS::l)[i]?=some s->BW s o l'->i=0:=fun i s o l' h m=>by
   cases i with
   | zero=>rfl
   | succ i=>
    obtain ⟨v,hv,q⟩:=a.at (i:=i) (s:=s) (by simpa using h)
    exact ((q.ok S hA).2 _ _ m).elim
  exact absurd ((z i s _ _ hi ms).trans (z j u _ _ hj mu).symm) HS
def Sg.back (S:Sg E ss σ F H)(hA:∀ a,a∈A->∃ i:Nat,ss[i]?=some .AS/\σ[i]?=some (some (.ref a)))(f:Fin (E3 A F H) F' H'):Mv E ss σ F H F' H':=by
 refine S.step f.f0 f.fh (fun a o n e=>f.keep a o ⟨fun h=>?_,Aa⟩ e) f.fresh fun i l hi e=>?_
 ·obtain ⟨i,q1,q2⟩:=hA a h;exact n i q1 q2
 ·by_cases q:l∈A
  ·exact f.HJ l q
  ·exact Bj.keep (S.Ez hi e) fun o e=>f.keep l o ⟨q,Aa⟩ e
def wp_call (h:Wa ss t fun l=>∃ k',pre l (.is k')/\∀ p,k' p->k p):Wp ss (Ef (AM pre) [] E0 t) k:=⟨fun E σ F H Q S q=>
 h.go E σ F H _ S fun vs l F1 H1 m1 a ⟨k',hp,kk⟩=>by
  rw [Df];refine ⟨l,.is k',F1,[],hp,m1.st.RM a,fun v F' H' f ⟨p,r,kp⟩=>?_⟩;exact q v p F' H' (m1.trans (m1.st.back (fun _ h=>absurd h Aa) f)) r (kk p kp)⟩
def E2 {k:List PV->Prop}(h:Wa ss t fun l=>∃ k',pre l (.new k')/\∀ xs,k' xs->k xs):Wn ss (Ef (AM pre) [] E0 t) k:=⟨fun E σ F H Q S q=>
 h.go E σ F H _ S fun vs l F1 H1 m1 a ⟨k',hp,kk⟩=>by
  rw [Df];refine ⟨l,.new k',F1,[],hp,m1.st.RM a,fun v F' H' f ⟨l,vs,xs,e,fl,hl,Fb,r,kx⟩=>?_⟩;subst e;exact q l vs xs F' H' (m1.trans (m1.st.back (fun _ h=>absurd h Aa) f)) fl (m1.none hl) Fb r (kk xs kx)⟩
def Od (hi:ss[i]?=some .AS)(h:Wa ss t fun l=>∃ k',pre (.AS::l) (.is k')/\∀ p,k' p->k p):Wp ss (Ef (AM pre) [] E0 (Ap (BI i) t)) k:=⟨fun E σ F H Q S q=>by
 obtain ⟨p,e,_⟩:=S.ok i _ hi;refine ⟨_,e,h.go E σ F H _ S fun vs l F1 H1 m1 a ⟨k',hp,kk⟩=>?_⟩;show AM pre ((V.ref p::vs)++[]) H1 Q E0;rw [Df];refine ⟨.AS::l,.is k',F1,[p],hp,m1.st.Tc hi e a,fun v F' H' f ⟨pv,r,kp⟩=>?_⟩;exact q v pv F' H' (m1.trans (m1.st.back (A:=[p]) (fun a h=>⟨i,hi,(show a=p from by simpa using h)▸e⟩) f)) r (kk pv kp)⟩
def sJ {k:List PV->Prop}(hi:ss[i]?=some .AS)(h:Wa ss t fun l=>∃ k',pre (.AS::l) (.new k')/\∀ xs,k' xs->k xs):Wn ss (Ef (AM pre) [] E0 (Ap (BI i) t)) k:=⟨fun E σ F H Q S q=>by
 obtain ⟨p,e,_⟩:=S.ok i _ hi;refine ⟨_,e,h.go E σ F H _ S fun vs l F1 H1 m1 a ⟨k',hp,kk⟩=>?_⟩;show AM pre ((V.ref p::vs)++[]) H1 Q E0;rw [Df];refine ⟨.AS::l,.new k',F1,[p],hp,m1.st.Tc hi e a,fun v F' H' f ⟨l,vs,xs,e2,fl,hl,Fb,r,kx⟩=>?_⟩;subst e2;exact q l vs xs F' H' (m1.trans (m1.st.back (A:=[p]) (fun a h=>⟨i,hi,(show a=p from by simpa using h)▸e⟩) f)) fl (m1.none hl) Fb r (kk xs kx)⟩
def Sg.grown (S:Sg E ss σ F H)(n:Nat):Sg E (ss++List.replicate n .any) (σ++List.replicate n none) F H:=by
 have Eg:∀ (i:Nat) s,(ss++List.replicate n .any)[i]?=some s->s≠.any->ss[i]?=some s/\(σ++List.replicate n none)[i]?=σ[i]?:=fun i s e hs=>by
  by_cases h:i<ss.length
  ·rw [DK h] at e;rw [DK (by rw [<- S.len];exact h)];exact ⟨e,rfl⟩
  ·rw [Ej (by omega),jH] at e;split at e
   ·exact absurd (Bc e).symm hs
   ·cases e
 refine ⟨S.toFin,by simp [S.len],fun i s e=>?_,fun i j s u l HS hi hj ms mu=>?_⟩
 ·cases s with
  | any=>trivial
  | _=>obtain ⟨a,b⟩:=Eg i _ e (by simp);rw [b];exact S.ok i _ a
 ·have ns:s≠.any:=by rintro rfl;cases ms
  have nu:u≠.any:=by rintro rfl;cases mu
  obtain ⟨a,b⟩:=Eg i s hi ns;obtain ⟨c,d⟩:=Eg j u hj nu;rw [b] at ms;rw [d] at mu;exact S.CC i j s u l HS a c ms mu
end
section
variable {pre:Pre}{k:PV->Prop}
def Ou (E:Ent0):Ent:=⟨E,fun _ _ _ _ _ _ _ _ _ d=>d.elim⟩
def Bn {N:List Str}{n:Nat}{t:TS}(h:AM pre vs H Q X)(hl:∀ ss R,pre ss R->ss.length=n)
  (hw:∀ ss R,pre ss R->Ws (ss++List.replicate (N.length - n) .any) t (fun _=>∃ k,R=.is k/\k .AB) R):t { nx:=fun _ H'=>Q .AB H',rt:=Q } (L2.start N vs) H:=by
 obtain ⟨ss,R,F,A,hp,S,q⟩:=h;have e:vs.length=n:=by have:=S.len;rw [AA] at this;rw [<- this];exact hl ss R hp
 unfold L2.start;rw [e];refine (hw ss R hp).go (Ou (E3 A F H)) _ _ F H (S.grown _) (fun A9 σ' F' H' ⟨k,e,kn⟩ S' _=>?_) fun v F' H' f ok=>q v F' H' f ok;subst e;exact q .AB F' H' S'.toFin ⟨.AB,.AB,kn⟩
def Br {n:Nat}(hl:∀ ss R,pre ss R->ss.length=n)(h:AM pre vs H Q X):vs.length=n:=by
 obtain ⟨ss,R,F,A,hp,S,q⟩:=h;have:=S.len;rw [AA] at this;rw [<- this];exact hl ss R hp
end
end Fz
namespace L2
section
variable {X:Cx}
def Zh (K:ZE6):R2:=fun x y H Q=>∃ p q xs,x=.ref p/\y=.ref q/\AY K H p xs/\AY K H q []/\Q (.bl (!decide (xs=[]))) H
def ZCZ (hu:X.A.units<cLine):BD X (compareOp .NotEq) (Zh X.K):=by
 intro pins s σ H x y v u Q I rx ry h;obtain ⟨p,q,xs,rfl,rfl,ha,hb,hQ⟩:=h;cases rx;cases ry;obtain ⟨A3,r1,p1,z1⟩:=I.list ha;obtain ⟨BU,r2,p2,z2⟩:=I.list hb;have l1:=r1.length;have l2:=r2.length;cases xs with
 | nil=>exact MO hu pins s σ H _ _ _ _ Q I (show RelV (.ref p) (.ref p) from rfl) (show RelV (.ref q) (.ref q) from rfl) ⟨p,q,[],[],rfl,rfl,.inl ⟨ha,hb⟩,rfl,rfl,hQ⟩
 | cons y ys=>
  have B5:(A3.toArray.size != BU.toArray.size)=true:=by simp only [Bd,<- l1,<- l2];simp
  exact ZDL p1.isList p2.isList B5 hu _ _ _ _ ⟨.bl true,H,I,rfl,hQ⟩
end
end L2
namespace Lw
open L2
theorem EY:∀ {as bs:List Str},as.Nodup->(∀ x∈as,x∈bs)->as.length<=bs.length
 | [],_,_,_=>CM _
 | a::as,bs,nd,h=>by
  obtain ⟨h1,h2⟩:=List.nodup_cons.mp nd;have ha:=h a Ft;have q:=EY (bs:=bs.erase a) h2 fun x hx=>(ZD0 (fun e:x=a=>h1 (by rw [<- e];exact hx))).mpr (h x (Ek _ hx));have e:=jI ha;have p:=YU ha;simp only [By];omega
structure Ent where
 a:Addr
 ns:List Str
 t:Addr
 r:Str
 g:Nat
 ss:List Str
end Lw
namespace Lw
open L2
def RP {rs:List Str}(nd:rs.Nodup){g:Nat}{x:Str}(h:rs[g]?=some x):rs.idxOf x=g:=by
 obtain ⟨hg,e⟩:=List.getElem?_eq_some_iff.mp h;have hx:x∈rs:=C7 h;have hj:rs.idxOf x<rs.length:=List.idxOf_lt_length_iff.mpr hx;have e2:rs[rs.idxOf x]=x:=Hs hj;have pw:=List.pairwise_iff_getElem.mp nd;rcases Nat.lt_trichotomy (rs.idxOf x) g with c | c | c
 ·exact absurd (e2.trans e.symm) (pw _ _ hj hg c)
 ·exact c
 ·exact absurd (e.trans e2.symm) (pw _ _ hg hj c)
end Lw
namespace L2
section
variable {X:Cx}{pins:ZE7}{σ:St}{H2:Hp}{s2:Shared}{elt iter:Expr}{x z:Str}{px pz tp pos:Pos}{tk:Nat}{scope:Scope}{AI:List Str}{js:List Nat}{te:TE}{J:It}{fp:List Addr}{it:Addr}
 {tn:Nat->Heap->Prop}
end
end L2
namespace Fz
open L2 Lw
variable {E:Ent0}{ss:List Slot}{σ:L2.St}{F F' H H':Hp}{js:List Nat}{ta tb te:TE}{nx:List Slot->Prop}{R:As}{i:Nat}{ns:List Int}{wi:TI}{α:Type}{xs:List PV}
section
variable [Xw]
variable {K:ZE6}{k:PV->Prop}
def Sg.Yj (S:Sg E ss σ F H){p:Addr}(hi:ss[i]?=some .AS)(e:σ[i]?=some (some (.ref p)))(s:CZ p H H'):Mv E ss σ F H F H':=by
 obtain ⟨p',e',fp,_,pp⟩:=S.ok i _ hi;rw [e] at e';cases e';refine S.step (AV.refl _) (fun a o q=>s.same a o (Dj q fp) (S.fh a o q)) (fun a o n q=>s.same a o (fun z=>?_) q) (fun a o q=>.inl q) fun j l hj ej=>?_
 ·rw [z] at n;exact n i hi e
 ·by_cases z:l=p
  ·rw [z];exact s.AS
  ·exact Bj.keep (S.Ez hj ej) fun o q=>s.same l o z q
def FX (hi:ss[i]?=some .AS)(h:Wp ss te fun x=>∃ m,x=.int m/\0<m/\m<10 ^ 18/\∀ r:Int,0<=r->r<m->k (.int r)):Wp ss (Ef Ii [] E0 (Ap (BI i) (Ap te BV))) k:=⟨fun E σ F H Q S q=>by
 obtain ⟨p,e,_⟩:=S.ok i _ hi;refine ⟨_,e,h.go E σ F H _ S fun v x F1 H1 m1 r ⟨m,em,m0,KR,kk⟩=>?_⟩;subst em;cases r;exact ⟨p,m,rfl,m1.st.Ez hi e,m0,KR,fun r H2 r0 r1 s=>q _ _ F1 H2 (m1.trans (m1.st.Yj hi e s)) (.int r) (kk r r0 r1)⟩⟩
def Gh (K:ZE6)(ns:List Int):Hp->V->Prop:=fun F v=>∃ a,v=.ref a/\AY K F a (ns.map V.int)
def Ry (K:ZE6)(ns:List Int):∀ (v:V) (F F':Hp),AV F F'->Gh K ns F v->Gh K ns F' v:=fun v F F' s ⟨a,e,h⟩=>⟨a,e,by
 rcases h with (h | ⟨o,h⟩) | h
 ·exact .inl (.inl (s _ _ h))
 ·exact .inl (.inr ⟨o,s _ _ h⟩)
 ·exact .inr h⟩
def zA (hi:ss[i]?=some (.raw (Gh K ns)))(h:k (.int ns.length)):Wp ss (D7 (Oo K) (Ap (BI i) BV)) k:=⟨fun E σ F H Q S q=>by
 obtain ⟨v,e,⟨a,ev,hq⟩,st⟩:=S.ok i _ hi;subst ev;obtain ⟨a',ea,GY⟩:=Ry K ns _ F H S.fh ⟨a,rfl,hq⟩;cases ea;refine ⟨_,e,a,_,rfl,.inl GY,?_⟩;rw [AA];exact q _ _ F H (.refl S) (.int _) h⟩
def ak {j:Nat}(hi:ss[i]?=some (.raw (Gh K ns)))(h:Wp ss te fun x=>∃ m,x=.int m/\0<=m/\m<=1000/\nx (ss.set j .AS)):Ws ss (EE (Ef (QB K) [] E0 (Ap (BI i) (Ap te BV))) (CO j)) nx R:=⟨fun E D σ F H S hn hr=>by
 obtain ⟨v,e,⟨a,ev,hq⟩,st⟩:=S.ok i _ hi;subst ev;refine ⟨_,e,h.go E σ F H _ S fun v x F1 H1 m1 r ⟨m,em,m0,KR,kk⟩=>?_⟩;subst em;cases r;obtain ⟨v',e',Ic,_⟩:=m1.st.ok i _ hi;rw [e] at e';cases e';obtain ⟨a',ea,GY⟩:=Ry K ns _ F1 H1 m1.st.fh Ic;cases ea;refine ⟨a,ns,m,rfl,GY,m0,KR,fun p H2 hp s pp=>?_⟩;have m2:=m1.st.grow s;exact hn _ _ F1 H2 kk (m2.st.setG ⟨p,rfl,m1.st.C5 hp,.inl (m1.st.DW hp),pp⟩ fun l e b u _ hu mu=>by cases e;exact m1.st.JD hu hp mu) m1.ff⟩
end
section
variable {K:ZE6}
def rP {N:List Str}{vs:List V}{Q:VK}{X:XK}{t:TS}(h:NR K vs H Q X)(hw:∀ ns:List Int,ns.length<=63->Ws (.raw (Gh K ns)::List.replicate (N.length - 1) .any) t (fun _=>False) (.is fun p=>p=.bl true)):t { nx:=fun _ H'=>Q .AB H',rt:=Q } (L2.start N vs) H:=by
 obtain ⟨a,ns,rfl,hS,Zl,q⟩:=h;have S:Sg (E3 [] H H) [.raw (Gh K ns)] [some (.ref a)] H H:=by
  have nn:∀ {p:Prop}(a:Addr),a∈([]:List Addr)->p:=fun a h=>absurd h Aa;refine ⟨⟨AV.refl _,AV.refl _,fun _ _ _ e=>e,fun _ _ e=>.inl e,fun a h=>nn a h,fun a h=>nn a h,fun a h=>nn a h,fun a h=>nn a h,fun a h=>nn a h,fun a h=>nn a h⟩,rfl,fun i s hi=>?_,fun i j s u l HS hi hj ms=>?_⟩
  ·cases i with
   | zero=>cases hi;exact ⟨_,rfl,⟨a,rfl,hS⟩,Ry K ns _⟩
   | succ i=>simp at hi
  ·cases i with
   | zero=>cases hi;cases ms
   | succ i=>simp at hi
 refine (hw ns Zl).go (Ou (E3 [] H H)) _ _ H H (S.grown _) (fun _ _ _ _ h=>h.elim) fun v F' H' f ok=>?_;obtain ⟨p,r,rfl⟩:=ok;cases r;exact q H'
end
section
variable [Xw]
variable {K:ZE6}{k:PV->Prop}
def Wi.mono {k k':List PV->Prop}(h:Wi ss wi k)(i:∀ xs,k xs->k' xs):Wi ss wi k':=⟨fun E σ F H R S q=>h.go E σ F H R S fun J xs F' H' m s kk=>q J xs F' H' m s (i xs kk)⟩
def Dq {tt:TT}{k:List PV->Prop}(c:α->PV)(f:α->Bool)(g:α->PV)
  (h:Wi ss wi fun xs=>∃ ns:List α,xs=ns.map c/\ns.length<=100000/\(∀ x∈ns,Wt (CG js ss++[.is (c x)]) tt fun b=>b=f x)/\(∀ x∈ns,f x=true->Wp (CG js ss++[.is (c x)]) te fun p=>p=g x)/\k ((ns.filter f).map g))
  (inj:∀ x y,c x=c y->x=y) (nd:js.Nodup:=by decide) (np:NP js ss=true:=by rfl):Wn ss (JS wi js tt te) k:=by
 by_cases hα:Nonempty α
 ·obtain ⟨x0⟩:=hα;have inv:∀ p:PV,∃ x:α,∀ y,c y=p->y=x:=fun p=>by
   by_cases q:∃ y,c y=p
   ·obtain ⟨y,hy⟩:=q;exact ⟨y,fun z hz=>inj _ _ (hz.trans hy.symm)⟩
   ·exact ⟨x0,fun y hy=>absurd ⟨y,hy⟩ q⟩
  let d:PV->α:=fun p=>Classical.choose (inv p)
  have hd:∀ x,d (c x)=x:=fun x=>(j8 (inv (c x)) x rfl).symm;refine aQ (fun p=>f (d p)) (fun p=>g (d p)) (h.mono fun xs ⟨ns,e,hz,h1,h2,kk⟩=>?_) nd np;subst e;refine ⟨by rw [AA];exact hz,fun x hx=>?_,fun x hx hf=>?_,?_⟩
  ·obtain ⟨y,hy,rfl⟩:=List.mem_map.mp hx;rw [hd];exact h1 y hy
  ·obtain ⟨y,hy,rfl⟩:=List.mem_map.mp hx;rw [hd] at hf ⊢;exact h2 y hy hf
  ·have e:((ns.map c).filter fun p=>f (d p)).map (fun p=>g (d p))=(ns.filter f).map g:=by
    rw [jG,CU]
    congr 1
    ·funext x;show g (d (c x))=g x;rw [hd]
    ·congr 1;funext x;show f (d (c x))=f x;rw [hd]
   rw [e];exact kk
 ·refine aQ (fun _=>true) (fun p=>p) (h.mono fun xs ⟨ns,e,hz,h1,h2,kk⟩=>?_) nd np;have en:ns=[]:=by
   cases ns with
   | nil=>rfl
   | cons x r=>exact absurd ⟨x⟩ hα
  subst en;subst e;exact ⟨by simp,fun x hx=>absurd hx (by simp),fun x hx=>absurd hx (by simp),kk⟩
def GL (h:Wp ss ta fun p=>∃ x,p=.str x/\Wq ss tb fun _ ys=>∃ ns:List Str,ys=ns.map PV.str/\k (.bl (decide (x∈ns)))):Wp ss (BX (HN K false) ta tb) k:=cv h
def NQ (h:Wp ss ta fun p=>∃ x,p=.str x/\Wq ss tb fun _ ys=>∃ ns:List Str,ys=ns.map PV.str/\k (.bl (!decide (x∈ns)))):Wp ss (BX (HN K true) ta tb) k:=cv h
def gR (h:Wq ss ta fun tp xs=>∃ ns:List Str,xs=ns.map PV.str/\Wq ss tb fun Bw ys=>Bw=tp/\∃ ms:List Str,ys=ms.map PV.str/\k (.bl (decide (ns=ms)))):Wp ss (BX (N7 K false) ta tb) k:=Z6 h
def Rn (h:Wq ss ta fun tp xs=>∃ ns:List Str,xs=ns.map PV.str/\Wq ss tb fun Bw ys=>Bw=tp/\∃ ms:List Str,ys=ms.map PV.str/\k (.bl (!decide (ns=ms)))):Wp ss (BX (N7 K true) ta tb) k:=Z6 h
def Ew {β:Type}(c:α->β)(xs:List α)(lo hi:Option Int):Au (xs.map c) lo hi=(Au xs lo hi).map c:=by
 unfold Au;rw [AA,YV,jJ]
def dy (xs:List α)(g:Nat):Au xs none (some (g:Int))=xs.take g:=by
 unfold Au;rw [HT.ZW,HT.Z9,YO,Yf];rcases jP g xs.length with h | h
 ·rw [Ye h]
 ·rw [jQ h,FQ,P1 h]
def VP (xs:List α)(g:Nat):Au xs (some (g:Int)) none=xs.drop g:=by
 unfold Au;rw [HT.ZW,HT.Z9];rcases jP g xs.length with h | h
 ·rw [Ye h,P1 (by rw [SJ];omega)]
 ·rw [jQ h,List.drop_length,List.drop_of_length_le h];simp
def Lc (xs:List α)(lo hi:Option Int):(Au xs lo hi).length<=xs.length:=by
 unfold Au;rw [DM,SJ];omega
variable {ys:List PV}
def TX (h:Wq ss ta fun tp xs=>tp=false/\∃ ns:List Str,xs=ns.map PV.str/\Wp ss tb fun p=>∃ x,p=.str x/\x∈ns/\k (.int (ns.idxOf x:Nat))):Wp ss (Jf K "list" (dg K) ta (Ap tb BV)) k:=⟨fun E σ F H Q S q=>
 h.go E σ F H _ S fun v tp xs F1 H1 m1 sv ⟨et,ns,e,h2⟩=>by
  subst e;subst et;obtain ⟨l,vs,rfl,hl,r⟩:=sv.seq m1.st;refine ⟨.inl ⟨rfl,_,AY.of hl⟩,h2.go E σ F1 H1 _ m1.st fun v2 p2 F2 H2 m2 r2 ⟨x,e2,hx,kk⟩=>?_⟩;subst e2;cases r2;obtain ⟨l',Bh,e',Fb,r'⟩:=(sv.mv m2).seq m2.st;cases e';rw [r'.strs] at Fb;exact ⟨l,ns,x,rfl,rfl,AY.of Fb,hx,q _ _ F2 H2 (m1.trans m2) (.int _) kk⟩⟩
noncomputable def K6 (xs:List PV):List PV:=(List.range xs.length).map fun i:Nat=>.tup [.int (i:Int),xs.getD i .AB]
def Uh (xs:List PV):(K6 xs).length=xs.length:=by simp [K6]
def cw {x:PV}(h:xs[i]?=some x):(K6 xs)[i]?=some (.tup [.int (i:Int),x]):=by
 have hi:i<xs.length:=(List.getElem?_eq_some_iff.mp h).1;unfold K6;rw [Ac,P0 hi];show some (PV.tup [PV.int (i:Int),xs.getD i PV.AB])=_;rw [Jo,h];rfl
def tP {p:PV}(h:(K6 xs)[i]?=some p):∃ x,xs[i]?=some x/\p=.tup [.int (i:Int),x]:=by
 have hi:i<xs.length:=by have:=(List.getElem?_eq_some_iff.mp h).1;rwa [Uh] at this
 have e:=AX hi;refine ⟨xs[i],e,?_⟩;rw [cw e] at h;exact (Bc h).symm
def W8 {r:List V->Hp->VK->Prop}(hr:r=fun xs H Q=>(∃ i,xs=[.int i]/\Q (.int i) H)∨∃ k,xs=[.bl k]/\Q (.int (if k then 1 else 0)) H)(h:Wp ss te fun p=>∃ b,p=.bl b/\k (.int (if b then 1 else 0))):Wp ss (D7 r (Ap te BV)) k:=⟨fun E σ F H Q S q=>
 h.go E σ F H _ S fun v p F1 H1 m1 r ⟨b,e,kk⟩=>by
  subst hr;subst e;cases r;exact .inr ⟨b,rfl,q _ _ F1 H1 m1 (.int _) kk⟩⟩
end
def CB {c A B:Prop}[Decidable c](h:c)(a:A):if c then A else B:=by rw [mZ h];exact a
end Fz
namespace L2
def xW {X:Cx}{tg:Expr}{a b:Expr}{ta:TA}{p pos:Pos}(hg:Gl X "range")(hm:X.mg "range"=none)(ha:QA X [a,b] ta)(hs:starEach [a,b] X.env=[(false,eval a X.env),(false,eval b X.env)]:=by rfl)(Ce:starEach [b] X.env=[(false,eval b X.env)]:=by rfl):QI X tg (.Call (.Name "range" p) [a,b] [] pos) (X8 ta):=⟨by
 have ha:=ha.h;intro pins s σ H R I h;refine Call_ (Iq I hg hm boot_range (Mj (AL (ha pos pins s σ H _ I h) fun us s1 ⟨vs,H1,I1,r1,q1⟩=>?_) (by rw [hs,Ce]) (by rw [Ce];rfl)));obtain ⟨i,j,e,⟨q1,q2,q3,q4⟩,q⟩:=q1;subst e;cases r1 with
 | cons r rr=>
  cases rr with
  | cons r' rr=>
   cases rr;obtain ⟨t,rfl⟩:=r;obtain ⟨t',rfl⟩:=r';exact call_range_2 (Zf I1 q1 q2 q3 q4 q)⟩
end L2
namespace Fz
open L2 Lw
section
variable [Xw]
variable {E:Ent0}{ss:List Slot}{σ:L2.St}{F H F' H':Hp}{K:ZE6}{js:List Nat}{ta tb tc te:TE}{k:PV->Prop}{nx:List Slot->Prop}{R:As}{xs ys:List PV}
noncomputable def L9 (i:Int)(n:Nat):List PV:=(List.range n).map fun j:Nat=>PV.int (i+(j:Int))
def R6 (i:Int)(n:Nat):(L9 i n).length=n:=by simp [L9]
def kG {i:Int}{n j:Nat}{p:PV}(h:(L9 i n)[j]?=some p):j<n/\p=.int (i+(j:Int)):=by
 have hj:j<n:=by have:=(List.getElem?_eq_some_iff.mp h).1;rwa [R6] at this
 unfold L9 at h;rw [Ac,P0 hj] at h;exact ⟨hj,(Bc h).symm⟩
def ZA5 {k:List PV->Prop}(h:Wp ss ta fun p=>∃ i:Int,p=.int i/\Wp ss tb fun p=>∃ j:Int,p=.int j/\(i<=1000000/\-1000000<=i/\j<=1000000/\-1000000<=j)/\k (L9 i (j - i).toNat)):Wi ss (X8 (Ap ta (Ap tb BV))) k:=⟨fun E σ F H R S q=>
 h.go E σ F H _ S fun v p F1 H1 m1 r ⟨i,e,h2⟩=>by
  subst e;cases r;exact h2.go E σ F1 H1 _ m1.st fun v2 p2 F2 H2 m2 r2 ⟨j,e2,hb,kk⟩=>by
   subst e2;cases r2;refine ⟨i,j,rfl,by omega,q _ (L9 i (j - i).toNat) F2 H2 (m1.trans m2) ⟨fun ss σ F H n s S hn=>?_,fun ss σ F H s S=>?_,fun ss σ F H n x H' s S hn y=>?_⟩ kk⟩
   ·rw [R6] at hn;exact hn
   ·show _<=_;rw [R6];exact Ai _
   ·obtain ⟨e,hx⟩:=y;subst e;subst hx;rw [R6] at hn;refine ⟨.int (i+(n:Int)),F,?_,.refl S,.int _⟩;unfold L9;rw [Ac,P0 hn];rfl⟩
theorem dO:∀ (ps:List PV){vs:List V},Fj ss σ F H vs (ps.map Slot.is)->AJ F vs ps
 | [],_,h=>by cases h;exact .nil
 | p::ps,_,h=>by
  rw [BL] at h;cases h with
  | cons a t=>exact .cons a (dO ps t)
theorem dI {ss:List Slot}{σ:L2.St}:∀ {ps:List PV}{vs:List V},AJ F vs ps->Fj ss σ F H vs (ps.map Slot.is)
 | _,_,.nil=>.nil
 | _,_,.cons r t=>.cons (s:=.is _) r (dI t)
def zq {pre:Pre}{t:TA}{i:Nat}{ns:List Int}(hi:ss[i]?=some (.raw (Gh K ns)))(h:Wp ss te fun x=>∃ m,x=.int m/\0<=m/\m<=1000/\Wa ss t fun l=>∃ (ps:List PV) (k':PV->Prop),l=ps.map Slot.is/\pre (.AS::l) (.is k')/\∀ p,k' p->k p):
  Wp ss (Ef (AM pre) [] E0 (Ap (Ef (QB K) [] E0 (Ap (BI i) (Ap te BV))) t)) k:=⟨fun E σ F H Q S q=>by
 obtain ⟨v,e,⟨a,ev,hq⟩,st⟩:=S.ok i _ hi;subst ev;refine ⟨_,e,h.go E σ F H _ S fun v x F1 H1 m1 r ⟨m,em,m0,KR,hw⟩=>?_⟩;subst em;cases r;obtain ⟨v',e',Ic,_⟩:=m1.st.ok i _ hi;rw [e] at e';cases e';obtain ⟨a',ea,GY⟩:=Ry K ns _ F1 H1 m1.st.fh Ic;cases ea;refine ⟨a,ns,m,rfl,GY,m0,KR,fun p H2 hp s pp=>?_⟩;have m2:=m1.st.grow s;refine hw.go E σ F1 H2 _ m2.st fun vs l F3 H3 m3 av ⟨ps,k',el,JA,kk⟩=>?_;show AM pre ((V.ref p::vs)++[]) H3 Q E0;rw [Df];have PY:=m1.trans (m2.trans m3);have RY:∀ (j:Nat) s,ss[j]?=some s->¬ BW s σ[j]? p:=fun j s hj=>m1.st.JD hj hp;have np:Ca ss σ p:=fun j hj=>RY j _ hj;have pp3:Bj H3 p:=Bj.keep pp fun o eo=>m3.hh p o np eo;have oz:F3 p=none:=by
  cases z:F3 p with
  | none=>rfl
  | some o=>
   rcases m3.nn p o z with w | w
   ·rw [m1.st.C5 hp] at w;cases w
   ·obtain ⟨_,_,w2,_⟩:=pp;rw [w] at w2;cases w2
 have S':Sg E (ss++[.AS]) (σ++[some (.ref p)]) F3 H3:=by
  have S3:=m3.st;have Eg:∀ (j:Nat) s,(ss++[Slot.AS])[j]?=some s->(ss[j]?=some s/\(σ++[some (V.ref p)])[j]?=σ[j]?)∨(s=.AS/\(σ++[some (V.ref p)])[j]?=some (some (.ref p))/\j=ss.length):=fun j s hj=>by
   by_cases AQ:j<ss.length
   ·rw [DK AQ] at hj;rw [DK (by rw [<- S3.len];exact AQ)];exact .inl ⟨hj,rfl⟩
   ·rw [Ej (by omega)] at hj;have UQ:j - ss.length=0:=by
     have:=(List.getElem?_eq_some_iff.mp hj).1
     simpa using this
    rw [UQ] at hj;refine .inr ⟨by simpa using hj.symm,?_,by omega⟩
    rw [Ej (by rw [<- S3.len];omega),<- S3.len,UQ];rfl
  refine ⟨S3.toFin,by simp [S3.len],fun j s hj=>?_,fun j j2 s u l fq hj L1 ms mu=>?_⟩
  ·rcases Eg j s hj with ⟨a1,a2⟩ | ⟨rfl,a2,_⟩
   ·rw [a2];exact S3.ok j s a1
   ·rw [a2];exact ⟨p,rfl,oz,.inl (m1.st.DW hp),pp3⟩
  ·rcases Eg j s hj with ⟨a1,a2⟩ | ⟨rfl,a2,a3⟩
   ·rcases Eg j2 u L1 with ⟨b1,b2⟩ | ⟨rfl,b2,_⟩
    ·rw [a2] at ms;rw [b2] at mu;exact S3.CC j j2 s u l fq a1 b1 ms mu
    ·rw [a2] at ms;rw [b2] at mu;cases mu;exact RY j s a1 ms
   ·rcases Eg j2 u L1 with ⟨b1,b2⟩ | ⟨rfl,b2,b3⟩
    ·rw [a2] at ms;cases ms;rw [b2] at mu;exact RY j2 u b1 mu
    ·exact absurd (a3.trans b3.symm) fq
 have Sl:(ss++[Slot.AS])[ss.length]?=some .AS:=by rw [Ej (Ai _)];simp
 have qS:(σ++[some (V.ref p)])[ss.length]?=some (some (.ref p)):=by rw [m3.st.len,Ej (Ai _)];simp
 have av':Fj (ss++[Slot.AS]) (σ++[some (V.ref p)]) F3 H3 vs l:=by
  subst el;exact dI (dO ps av)
 refine ⟨.AS::l,.is k',F3,[p],JA,S'.Tc Sl qS av',fun v F' H' f ⟨pv,r,kp⟩=>?_⟩;have hA:∀ a,a≠p->a∉[p]:=fun a h z=>h (by simpa using z)
 have nt:H p=none:=m1.none hp;have mv:Mv E ss σ F H F' H':=by
  refine S.step (PY.ff.trans f.f0) f.fh (fun a o n e=>f.keep a o ⟨hA a (Dj e nt),Aa⟩ (PY.hh a o n e)) (fun a o e=>?_) fun j l hj ej=>?_
  ·rcases f.fresh a o e with w | w
   ·exact PY.nn a o w
   ·exact .inr (PY.none w)
  ·exact Bj.keep (m3.st.Ez hj ej) fun o eo=>f.keep l o ⟨hA l (by rintro rfl;exact RY j _ hj ej),Aa⟩ eo
 exact q v pv F' H' mv r (kk pv kp)⟩
end
end Fz
namespace Fz
open L2 Lw
section
variable [Xw]
variable {E:Ent0}{ss:List Slot}{σ:L2.St}{F H F' H':Hp}{K:ZE6}{js:List Nat}{ta tb tc te:TE}{k:PV->Prop}{nx:List Slot->Prop}{R:As}{xs ys:List PV}{P:Program}{w:World}
def ZCN (h:Wq ss ta fun tp xs=>tp=false/\Wq ss tb fun Bw ys=>Bw=false/\ys=[]/\k (.bl (!decide (xs.length=0)))):Wp ss (BX (Zh K) ta tb) k:=⟨fun E σ F H Q S q=>
 h.go E σ F H _ S fun v tp xs F1 H1 m1 sv ⟨et,h2⟩=>h2.go E σ F1 H1 _ m1.st fun v2 Bw ys F2 H2 m2 Ny ⟨Wy,ey,kk⟩=>by
  subst et;subst Wy;subst ey;obtain ⟨l,vs,rfl,hl,r⟩:=(sv.mv m2).seq m2.st;obtain ⟨l2,Ff,rfl,DA,r2⟩:=Ny.seq m2.st;cases r2;refine ⟨l,l2,vs,rfl,rfl,AY.of hl,AY.of DA,?_⟩;have e:decide (vs=[])=decide (xs.length=0):=by
   rw [<- r.length];cases vs <;> simp
  rw [e];exact q _ _ F2 H2 (m1.trans m2) (.bl _) kk⟩
def gj {k:List PV->Prop}(h:Wq ss te fun _ xs=>∃ ns:List Str,xs=ns.map PV.str/\ns.length<64/\∀ ts:List Str,ts.length=(dd ns).length->(∀ x,(dd ns).any (· == x)=true↔x∈ts)->sortedS ts=true->k (ts.map PV.str)):
  Wn ss (D7 (aV P w) (Ap (D7 (fun xs H Q=>∃ (p:Addr) (tp:Bool) (ss:List Str),xs=[.ref p]/\EM K tp H p (ss.map V.str)/\ss.length<4000/\∀ l,H l=none->Q (.ref l) (upd H l (IL P w l (fun k'=>(dd ss).any (· == k')) (dd ss).length))) (Ap te BV)) BV)) k:=⟨fun E σ F H Q S q=>
 h.go E σ F H _ S fun v tp xs F1 H1 m1 sv ⟨ns,e,hz,kk⟩=>by
  subst e;obtain ⟨l,vs,rfl,hl,r⟩:=sv.seq m1.st;rw [r.strs] at hl;refine ⟨l,tp,ns,rfl,DP.sq hl,by omega,fun a ha=>?_⟩;have m2:=m1.st.make ha (IL P w a (fun k'=>(dd ns).any (· == k')) (dd ns).length)
  refine ⟨a,_,_,rfl,B0,Yd (UZ ns) hz,fun b ts hb DA hm hs=>?_⟩;have m3:=m2.st.make hb (.lst (ts.map V.str));exact q b _ _ F1 _ (m1.trans (m2.trans m3)) (m2.st.C5 hb) ((m1.trans m2).none hb) B0 (V6 ts) (kk ts DA hm hs)⟩
end
end Fz
namespace Fz
open L2 Lw
variable {E:Ent0}{ss:List Slot}{σ:L2.St}{F F' F0 F1 H H' H0:Hp}{js m p:List Nat}{ta tb tc te ti:TE}{nx:List Slot->Prop}{R:As}{ps xs ys:List PV}{n t u:OV}{d i j:Nat}{Bh vs ws:List V}{A:Around}{A3 BU:List Value}{v x:V}{Bw tp:Bool}{a b:Addr}{q:PV}{tr:TA}{us:List OV}{pre:Pre}
section
variable [Xw]
variable {K:ZE6}{k:PV->Prop}
def rR {n:Nat}(h:j<n):Fw n (j:Int)=some j:=by
 unfold Fw;simp;omega
theorem AJ.set:∀ {xs:List PV}(j:Nat){v:V}{p:PV},AJ F vs xs->Rep F v p->AJ F (vs.set j v) (xs.set j p):=by
 intro xs
 induction vs generalizing xs with
 | nil=>intro j v p h r;cases h;exact .nil
 | cons a vs ih=>
  intro j v p h r;cases h with
  | cons r1 t=>
   cases j with
   | zero=>exact .cons r t
   | succ j=>exact .cons r1 (ih j t r)
end
mutual
noncomputable def Az:PV->PV->Bool
 | .lst xs,.lst ys=>D5 xs ys
 | .tup xs,.tup ys=>D5 xs ys
 | .tup xs,.con _ ys=>D5 xs ys
 | .con _ xs,.tup ys=>D5 xs ys
 | .con _ xs,.con _ ys=>D5 xs ys
 | .AB,.AB=>true
 | .bl a,.bl b=>a == b
 | .bl a,.int b=>(if a then 1 else 0) == b
 | .int a,.bl b=>a == (if b then 1 else 0)
 | .int a,.int b=>a == b
 | .str a,.str b=>a == b
 | _,_=>false
noncomputable def D5:List PV->List PV->Bool
 | [],[]=>true
 | x::r,y::t=>Az x y && D5 r t
 | _,_=>false
end
def Rb (x y:PV)(r t:List PV):D5 (x::r) (y::t)=(Az x y && D5 r t):=by rw [D5]
theorem XI:∀ (xs ys:List PV),xs.length≠ys.length->D5 xs ys=false
 | [],[],h=>absurd rfl h
 | [],_::_,_=>by rw [D5];all_goals simp
 | _::_,[],_=>by rw [D5];all_goals simp
 | x::r,y::t,h=>by rw [Rb,XI r t (by simpa using h),SE]
theorem X4:∀ (xs ys:List PV),xs.length=ys.length->D5 xs ys=(List.range xs.length).all fun j=>Az (xs.getD j .AB) (ys.getD j .AB)
 | [],[],_=>by rw [D5];rfl
 | x::r,y::t,h=>by
  rw [Rb,X4 r t (by simpa using h),By,List.range_succ_eq_map,SG,jC]
  rfl
def dat (K:ZE6):Nat->PV->Prop
 | _,.AB=>True
 | _,.bl _=>True
 | _,.int _=>True
 | _,.str _=>True
 | d+1,.lst xs=>∀ x∈xs,dat K d x
 | d+1,.tup xs=>∀ x∈xs,dat K d x
 | d+1,.con a xs=>(∀ x∈xs,dat K d x)/\xs.all flat=true/\∀ H,Aq K H a (xs.map Fz.enc)
 | _,_=>False
inductive GK (K:ZE6) (H:Hp):V->PV->Bool->Addr->List V->List PV->Prop where
 | lst {a:Addr}{vs:List V}{xs:List PV}:AY K H a vs->AJ H vs xs->GK K H (.ref a) (.lst xs) false a vs xs
 | tup {a:Addr}{vs:List V}{xs:List PV}:Aq K H a vs->AJ H vs xs->GK K H (.ref a) (.tup xs) true a vs xs
 | con {a:Addr}{vs:List V}{xs:List PV}:Aq K H a vs->AJ H vs xs->GK K H (.ref a) (.con a xs) true a vs xs
def Fl {K:ZE6}:∀ {d:Nat}{x:V}{p:PV},dat K d p->Rep H x p->(flat p=true/\x=Fz.enc p)∨∃ d' tp a vs xs,d=d'+1/\GK K H x p tp a vs xs/\∀ y∈xs,dat K d' y:=by
 intro d x p h r;cases r with
 | AB=>exact .inl ⟨rfl,rfl⟩
 | bl b=>exact .inl ⟨rfl,rfl⟩
 | int b=>exact .inl ⟨rfl,rfl⟩
 | str b=>exact .inl ⟨rfl,rfl⟩
 | lst e r=>cases d with
  | zero=>exact h.elim
  | succ d=>exact .inr ⟨d,_,_,_,_,rfl,.lst (AY.of e) r,h⟩
 | tup e r=>cases d with
  | zero=>exact h.elim
  | succ d=>exact .inr ⟨d,_,_,_,_,rfl,.tup (Aq.of e) r,h⟩
 | con=>cases d with
  | zero=>exact h.elim
  | succ d=>obtain ⟨h1,h2,h3⟩:=h;exact .inr ⟨d,_,_,_,_,rfl,.con (h3 H) (Xy h2),h1⟩
 | B7 _ _ _=>cases d <;> exact h.elim
 | obj _ _ _ _=>cases d <;> exact h.elim
 | Rj _=>cases d <;> exact h.elim
 | exc _ _ _ _=>cases d <;> exact h.elim
section
variable {X:Cx}{pins:ZE7}{s:Shared}
def kz (r1:Vals vs A3)(r2:Vals ws BU)(q1:AJ H vs xs)(q2:AJ H ws ys)
  (h:∀ (x y:V) (p q:PV) (u v:Value),p∈xs->q∈ys->Rep H x p->Rep H y q->RelV x u->RelV y v->SeqAt.EqAt A s u v (Az p q)) :
  ∀ j (h1:j<A3.toArray.size) (h2:j<BU.toArray.size),SeqAt.EqAt A s A3.toArray[j] BU.toArray[j] ((fun j=>Az (xs.getD j .AB) (ys.getD j .AB)) j):=fun j h1 h2=>by
 have l1:=r1.length;have l2:=r2.length;have l3:=q1.length;have l4:=q2.length;have DR:j<A3.length:=by simpa using h1
 have Di:j<BU.length:=by simpa using h2
 have a1:j<xs.length:=by omega
 have a2:j<ys.length:=by omega
 obtain ⟨x,hx,rx⟩:=q1.get (i:=j) (p:=xs[j]) (AX a1);obtain ⟨y,hy,ry⟩:=q2.get (i:=j) (p:=ys[j]) (AX a2);obtain ⟨u,hu,ru⟩:=r1.get hx;obtain ⟨v,hv,rv⟩:=r2.get hy;rw [AX DR] at hu;rw [AX Di] at hv;have Fn:A3[j]=u:=Bc hu;have IA:BU[j]=v:=Bc hv;have q:=h x y _ _ u v (Fs a1) (Fs a2) rx ry ru rv;rw [<- Fn,<- IA] at q;show SeqAt.EqAt A s _ _ (Az (xs.getD j .AB) (ys.getD j .AB));rw [Jo,AX a1,Jo,AX a2]
 simpa using q
def Pq {p:PV}(h:GK X.K H x p tp a vs xs)(f:flat q=true):Az p q=false/\Az q p=false:=by
 cases h <;> cases q <;> first | (cases f;done) | exact ⟨by rw [Az] <;> simp,by rw [Az] <;> simp⟩
def Td {p:PV}{y:V}(h:GK X.K H x p tp a vs xs)(h2:GK X.K H y q Bw b ws ys):Az p q=(if tp=Bw then D5 xs ys else false):=by
 cases h <;> cases h2 <;> first | (rw [mZ rfl,Az];done) | (rw [k6 (by decide),Az] <;> simp)
def Qx {p:PV}(h:flat p=true)(h2:flat q=true):Az p q=DX (Fz.enc p) (Fz.enc q):=by
 cases p <;> cases q <;> first | (cases h;done) | (cases h2;done) | (rw [Az] <;> first | rfl | simp [Fz.enc,DX];done)
def vD {p:PV}{u v:Value}(h:flat p=true)(h2:flat q=true)(ru:RelV (Fz.enc p) u)(rv:RelV (Fz.enc q) v):SeqAt.RcAt A s u v (Az p q)/\SeqAt.RcNeAt A s u v (!Az p q):=by
 cases p <;> first | (cases h;done) | skip
 all_goals cases q <;> first | (cases h2;done) | skip
 all_goals simp only [Fz.enc,L2.RelV] at ru rv
 ·subst ru;subst rv;rw [Az];exact ⟨.none_none,.none_none⟩
 ·subst ru;subst rv;rw [Az] <;> first | exact ⟨.none_bool _,.none_bool _⟩ | simp
 ·subst ru;obtain ⟨t,rfl⟩:=rv;rw [Az] <;> first | exact ⟨.none_int _ _,.none_int _ _⟩ | simp
 ·subst ru;obtain ⟨t,rfl⟩:=rv;rw [Az] <;> first | exact ⟨.none_str _ _,.none_str _ _⟩ | simp
 ·subst ru;subst rv;rw [Az] <;> first | exact ⟨.bool_none _,.bool_none _⟩ | simp
 ·subst ru;subst rv;rw [Az];exact ⟨.bool_bool _ _,.bool_bool _ _⟩
 ·subst ru;obtain ⟨t,rfl⟩:=rv;rw [Az];exact ⟨.bool_int _ _ _,.bool_int _ _ _⟩
 ·subst ru;obtain ⟨t,rfl⟩:=rv;rw [Az] <;> first | exact ⟨.bool_str _ _ _,.bool_str _ _ _⟩ | simp
 ·obtain ⟨t,rfl⟩:=ru;subst rv;rw [Az] <;> first | exact ⟨.int_none _ _,.int_none _ _⟩ | simp
 ·obtain ⟨t,rfl⟩:=ru;subst rv;rw [Az];exact ⟨.int_bool _ _ _,.int_bool _ _ _⟩
 ·obtain ⟨t,rfl⟩:=ru;obtain ⟨t2,rfl⟩:=rv;rw [Az];exact ⟨.int_int _ _ _ _,.int_int _ _ _ _⟩
 ·obtain ⟨t,rfl⟩:=ru;obtain ⟨t2,rfl⟩:=rv;rw [Az] <;> first | exact ⟨.int_str _ _ _ _,.int_str _ _ _ _⟩ | simp
 ·obtain ⟨t,rfl⟩:=ru;subst rv;rw [Az] <;> first | exact ⟨.str_none _ _,.str_none _ _⟩ | simp
 ·obtain ⟨t,rfl⟩:=ru;subst rv;rw [Az] <;> first | exact ⟨.str_bool _ _ _,.str_bool _ _ _⟩ | simp
 ·obtain ⟨t,rfl⟩:=ru;obtain ⟨t2,rfl⟩:=rv;rw [Az] <;> first | exact ⟨.str_int _ _ _ _,.str_int _ _ _ _⟩ | simp
 ·obtain ⟨t,rfl⟩:=ru;obtain ⟨t2,rfl⟩:=rv;rw [Az];exact ⟨.str_str _ _ _ _,.str_str _ _ _ _⟩
def RU (h:Heap)(tp:Bool)(a:Addr)(A3:Array Value):Prop:=if tp then IsTup h a A3 else h.IsList a A3
def GK.GA (I:Inv X pins σ H s){p:PV}(h:GK X.K H x p tp a vs xs):∃ A3:List Value,x=.ref a/\Vals vs A3/\RU s.heap tp a A3.toArray/\AJ H vs xs:=by
 cases h with
 | lst h r=>obtain ⟨A3,r1,p1,_⟩:=I.list h;exact ⟨A3,rfl,r1,p1.isList,r⟩
 | tup h r=>obtain ⟨A3,r1,p1,_⟩:=I.tuple h;exact ⟨A3,rfl,r1,p1,r⟩
 | con h r=>obtain ⟨A3,r1,p1,_⟩:=I.tuple h;exact ⟨A3,rfl,r1,p1,r⟩
def QV {A3:Array Value}{v:Value}(h:RU s.heap tp a A3)(f:flat q=true)(rv:RelV (Fz.enc q) v)(hu:A.units<cLine):
  (SeqAt.EqAt A s (.ref a) v false/\SeqAt.EqAt A s v (.ref a) false)/\(SeqAt.RcAt A s (.ref a) v false/\SeqAt.RcAt A s v (.ref a) false)/\(SeqAt.RcNeAt A s (.ref a) v true/\SeqAt.RcNeAt A s v (.ref a) true):=by
 cases tp with
 | false=>
  have h':s.heap.IsList a A3:=h;cases q <;> first | (cases f;done) | skip
  all_goals simp only [Fz.enc,L2.RelV] at rv
  ·subst rv;exact ⟨⟨.list_none h' hu,.none_list h' hu⟩,⟨.list_none h' hu,.none_list h' hu⟩,⟨.list_none h' hu,.none_list h' hu⟩⟩
  ·subst rv;exact ⟨⟨.list_bool _ h' hu,.bool_list _ h' hu⟩,⟨.list_bool _ h' hu,.bool_list _ h' hu⟩,⟨.list_bool _ h' hu,.bool_list _ h' hu⟩⟩
  ·obtain ⟨t,rfl⟩:=rv;exact ⟨⟨.list_int _ _ h' hu,.int_list _ _ h' hu⟩,⟨.list_int _ _ h' hu,.int_list _ _ h' hu⟩,⟨.list_int _ _ h' hu,.int_list _ _ h' hu⟩⟩
  ·obtain ⟨t,rfl⟩:=rv;exact ⟨⟨.list_str _ _ h' hu,.str_list _ _ h' hu⟩,⟨.list_str _ _ h' hu,.str_list _ _ h' hu⟩,⟨.list_str _ _ h' hu,.str_list _ _ h' hu⟩⟩
 | true=>
  have h':IsTup s.heap a A3:=h;cases q <;> first | (cases f;done) | skip
  all_goals simp only [Fz.enc,L2.RelV] at rv
  ·subst rv;exact ⟨⟨.tuple_none h' hu,.none_tuple h' hu⟩,⟨.tuple_none h' hu,.none_tuple h' hu⟩,⟨.tuple_none h' hu,.none_tuple h' hu⟩⟩
  ·subst rv;exact ⟨⟨.tuple_bool _ h' hu,.bool_tuple _ h' hu⟩,⟨.tuple_bool _ h' hu,.bool_tuple _ h' hu⟩,⟨.tuple_bool _ h' hu,.bool_tuple _ h' hu⟩⟩
  ·obtain ⟨t,rfl⟩:=rv;exact ⟨⟨.tuple_int _ _ h' hu,.int_tuple _ _ h' hu⟩,⟨.tuple_int _ _ h' hu,.int_tuple _ _ h' hu⟩,⟨.tuple_int _ _ h' hu,.int_tuple _ _ h' hu⟩⟩
  ·obtain ⟨t,rfl⟩:=rv;exact ⟨⟨.tuple_str _ _ h' hu,.str_tuple _ _ h' hu⟩,⟨.tuple_str _ _ h' hu,.str_tuple _ _ h' hu⟩,⟨.tuple_str _ _ h' hu,.str_tuple _ _ h' hu⟩⟩
def GK.inj (I:Inv X pins σ H s){x y:V}{p q:PV}{tp Bw:Bool}{a:Addr}{vs ws:List V}{xs ys:List PV}(h:GK X.K H x p tp a vs xs)(h2:GK X.K H y q Bw a ws ys):tp=Bw/\vs=ws:=by
 have no:∀ {vs ws:List V},AY X.K H a vs->Aq X.K H a ws->False:=fun {vs ws} h1 h2=>by
  obtain ⟨A3,_,p1,_⟩:=I.list h1;obtain ⟨BU,_,p2,_⟩:=I.tuple h2;obtain ⟨o,n,e,c,_⟩:=p1;obtain ⟨o2,e2,c2,_⟩:=p2;rw [e] at e2;cases e2;rw [c] at c2;exact absurd c2 (by decide)
 cases h with
 | lst h r=>cases h2 with
  | lst h2 _=>exact ⟨rfl,I.bC h h2⟩
  | tup h2 _=>exact (no h h2).elim
  | con h2 _=>exact (no h h2).elim
 | tup h r=>cases h2 with
  | lst h2 _=>exact (no h2 h).elim
  | tup h2 _=>exact ⟨rfl,I.Nk h h2⟩
  | con h2 _=>exact ⟨rfl,I.Nk h h2⟩
 | con h r=>cases h2 with
  | lst h2 _=>exact (no h2 h).elim
  | tup h2 _=>exact ⟨rfl,I.Nk h h2⟩
  | con h2 _=>exact ⟨rfl,I.Nk h h2⟩
def i4 {p:PV}(h:flat p=true):DX (Fz.enc p) (Fz.enc p)=true:=by cases p <;> first | (cases h;done) | simp [Fz.enc,DX]
theorem cV (ih:∀ (x:V) (p q:PV),Rep H x p->Rep H x q->dat X.K d p->dat X.K d q->Az p q=true):∀ {vs:List V}{xs ys:List PV},AJ H vs xs->AJ H vs ys->(∀ x∈xs,dat X.K d x)->(∀ y∈ys,dat X.K d y)->D5 xs ys=true
 | _,_,_,.nil,.nil,_,_=>by rw [D5]
 | _,_,_,.cons r1 t1,.cons r2 t2,h1,h2=>by
  rw [Rb,ih _ _ _ r1 r2 (h1 _ (by simp)) (h2 _ (by simp)),cV ih t1 t2 (fun x hx=>h1 x (by simp [hx])) (fun x hx=>h2 x (by simp [hx]))];rfl
def ZBo (I:Inv X pins σ H s):∀ (d:Nat) (x:V) (p q:PV),Rep H x p->Rep H x q->dat X.K d p->dat X.K d q->Az p q=true:=fun d=>by
 induction d with
 | zero=>
  intro x p q r1 r2 h1 h2;rcases Fl h1 r1 with ⟨f1,e1⟩ | ⟨d',_,_,_,_,e,_⟩
  ·rcases Fl h2 r2 with ⟨f2,e2⟩ | ⟨d',_,_,_,_,e,_⟩
   ·rw [Qx f1 f2,<- e1,e2];exact i4 f2
   ·cases e
  ·cases e
 | succ d ih=>
  intro x p q r1 r2 h1 h2;rcases Fl h1 r1 with ⟨f1,e1⟩ | ⟨d1,tp,a,vs,xs,e,q1,k1⟩
  ·rcases Fl h2 r2 with ⟨f2,e2⟩ | ⟨d2,Bw,b,ws,ys,e,q2,k2⟩
   ·rw [Qx f1 f2,<- e1,e2];exact i4 f2
   ·obtain ⟨_,ex,_⟩:=q2.GA I;subst ex;cases p <;> first | (cases f1;done) | (cases e1;done)
  ·cases e;rcases Fl h2 r2 with ⟨f2,e2⟩ | ⟨d2,Bw,b,ws,ys,e,q2,k2⟩
   ·obtain ⟨_,ex,_⟩:=q1.GA I;subst ex;cases q <;> first | (cases f2;done) | (cases e2;done)
   ·cases e;obtain ⟨_,ex,_,_,r3⟩:=q1.GA I;obtain ⟨_,ey,_,_,r4⟩:=q2.GA I;rw [ex] at ey;cases ey;obtain ⟨et,ev⟩:=q1.inj I q2;subst ev;rw [Td q1 q2,mZ et];exact cV ih r3 r4 k1 k2
def uQ (r1:Vals vs A3)(r2:Vals ws BU)(q1:AJ H vs xs)(q2:AJ H ws ys):A3.toArray.size=xs.length/\BU.toArray.size=ys.length:=by
 have l1:=r1.length;have l2:=r2.length;have l3:=q1.length;have l4:=q2.length;simp only [Bd];omega
def Zg (h1:RU s.heap tp a A3.toArray)(h2:RU s.heap Bw b BU.toArray)(r1:Vals vs A3)(r2:Vals ws BU)(q1:AJ H vs xs)(q2:AJ H ws ys)(hu:A.units<cLine)
  (h:∀ (x y:V) (p q:PV) (u v:Value),p∈xs->q∈ys->Rep H x p->Rep H y q->RelV x u->RelV y v->SeqAt.EqAt A.in1 s u v (Az p q)) :
  SeqAt.RcAt A s (.ref a) (.ref b) (if tp=Bw then D5 xs ys else false)/\SeqAt.RcNeAt A s (.ref a) (.ref b) (!(if tp=Bw then D5 xs ys else false)):=by
 obtain ⟨z1,z2⟩:=uQ r1 r2 q1 q2;have it:=kz (A:=A.in1) r1 r2 q1 q2 h;cases tp with
 | false=>cases Bw with
  | false=>
   rw [mZ rfl];have DR:s.heap.IsList a A3.toArray:=h1;have Di:s.heap.IsList b BU.toArray:=h2
   by_cases hl:xs.length=ys.length
   ·rw [X4 xs ys hl,<- z1];exact ⟨.lists DR Di (by omega) hu it,.lists DR Di (by omega) hu it⟩
   ·rw [XI xs ys hl];have B5:(A3.toArray.size != BU.toArray.size)=true:=by simp only [bne_iff_ne,ne_eq];omega
    exact ⟨.lists_lengths DR Di B5 hu,.lists_lengths DR Di B5 hu⟩
  | true=>rw [k6 (by decide)];exact ⟨.list_tuple h1 h2 hu,.list_tuple h1 h2 hu⟩
 | true=>cases Bw with
  | false=>rw [k6 (by decide)];exact ⟨.tuple_list h1 h2 hu,.tuple_list h1 h2 hu⟩
  | true=>
   rw [mZ rfl];have DR:IsTup s.heap a A3.toArray:=h1;have Di:IsTup s.heap b BU.toArray:=h2;have e:((List.range (min A3.toArray.size BU.toArray.size)).all (fun j=>Az (xs.getD j .AB) (ys.getD j .AB)) && A3.toArray.size == BU.toArray.size)=D5 xs ys:=by
    by_cases hl:xs.length=ys.length
    ·rw [X4 xs ys hl,z1,z2,<- hl,jR,rD,j5]
    ·rw [XI xs ys hl,z1,z2,show (xs.length == ys.length)=false from by simpa using hl,SE]
   have k1:=SeqAt.RcAt.tuples (A:=A) (e:=fun j=>Az (xs.getD j .AB) (ys.getD j .AB)) DR Di hu it;have k2:=SeqAt.RcNeAt.tuples (A:=A) (e:=fun j=>Az (xs.getD j .AB) (ys.getD j .AB)) DR Di hu it;rw [e] at k1 k2;exact ⟨k1,k2⟩
def t4 (I:Inv X pins σ H s):∀ (d:Nat) (x y:V) (p q:PV),Rep H x p->Rep H y q->dat X.K d p->dat X.K d q->∀ (A:Around) (u v:Value),RelV x u->RelV y v->A.units+d<cLine->SeqAt.EqAt A s u v (Az p q):=fun d=>by
 induction d with
 | zero=>
  intro x y p q r1 r2 h1 h2 A u v ru rv hu;rcases Fl h1 r1 with ⟨f1,e1⟩ | ⟨_,_,_,_,_,e,_⟩
  ·rcases Fl h2 r2 with ⟨f2,e2⟩ | ⟨_,_,_,_,_,e,_⟩
   ·subst e1;subst e2;rw [Qx f1 f2];exact Ro ru rv (PD f1) (PD f2)
   ·cases e
  ·cases e
 | succ d ih=>
  intro x y p q r1 r2 h1 h2 A u v ru rv hu;rcases Fl h1 r1 with ⟨f1,e1⟩ | ⟨d1,tp,a,vs,xs,e,q1,k1⟩
  ·rcases Fl h2 r2 with ⟨f2,e2⟩ | ⟨d2,Bw,b,ws,ys,e,q2,k2⟩
   ·subst e1;subst e2;rw [Qx f1 f2];exact Ro ru rv (PD f1) (PD f2)
   ·obtain ⟨A3,ey,_,j,_⟩:=q2.GA I;subst e1;subst ey;cases (show v=Value.ref b from rv);rw [(Pq q2 f1).2];exact (QV j f1 ru (by omega)).1.2
  ·cases e;rcases Fl h2 r2 with ⟨f2,e2⟩ | ⟨d2,Bw,b,ws,ys,e,q2,k2⟩
   ·obtain ⟨A3,ex,_,j,_⟩:=q1.GA I;subst e2;subst ex;cases (show u=Value.ref a from ru);rw [(Pq q1 f2).1];exact (QV j f2 rv (by omega)).1.1
   ·cases e;obtain ⟨A3,ex,v1,j1,w1⟩:=q1.GA I;obtain ⟨BU,ey,v2,j2,w2⟩:=q2.GA I;subst ex;subst ey;cases (show u=Value.ref a from ru);cases (show v=Value.ref b from rv)
    by_cases FT:a=b
    ·subst FT;rw [ZBo I (d+1) _ p q r1 r2 h1 h2];exact .same _
    ·rw [Td q1 q2];refine SeqAt.EqAt.of_refs FT (Zg j1 j2 v1 v2 w1 w2 (by omega) fun x y p q u v hp hq r1 r2 ru rv=>?_).1;exact ih x y p q r1 r2 (k1 p hp) (k2 q hq) A.in1 u v ru rv (by show A.units+1+d<cLine;omega)
def ZE (I:Inv X pins σ H s)(d:Nat)(x y:V)(p q:PV)(r1:Rep H x p)(r2:Rep H y q)(h1:dat X.K d p)(h2:dat X.K d q)(A:Around)(u v:Value)(ru:RelV x u)(rv:RelV y v)(hu:A.units+d<cLine):SeqAt.RcAt A s u v (Az p q)/\SeqAt.RcNeAt A s u v (!Az p q):=by
 rcases Fl h1 r1 with ⟨f1,e1⟩ | ⟨d1,tp,a,vs,xs,e,q1,k1⟩
 ·rcases Fl h2 r2 with ⟨f2,e2⟩ | ⟨d2,Bw,b,ws,ys,e,q2,k2⟩
  ·subst e1;subst e2;exact vD f1 f2 ru rv
  ·obtain ⟨A3,ey,_,j,_⟩:=q2.GA I;subst e1;subst ey;cases (show v=Value.ref b from rv);rw [(Pq q2 f1).2];have z:=QV (A:=A) j f1 ru (by omega);exact ⟨z.2.1.2,z.2.2.2⟩
 ·rcases Fl h2 r2 with ⟨f2,e2⟩ | ⟨d2,Bw,b,ws,ys,e2,q2,k2⟩
  ·obtain ⟨A3,ex,_,j,_⟩:=q1.GA I;subst e2;subst ex;cases (show u=Value.ref a from ru);rw [(Pq q1 f2).1];have z:=QV (A:=A) j f2 rv (by omega);exact ⟨z.2.1.1,z.2.2.1⟩
  ·subst e;cases e2;obtain ⟨A3,ex,v1,j1,w1⟩:=q1.GA I;obtain ⟨BU,ey,v2,j2,w2⟩:=q2.GA I;subst ex;subst ey;cases (show u=Value.ref a from ru);cases (show v=Value.ref b from rv);rw [Td q1 q2];exact Zg j1 j2 v1 v2 w1 w2 (by omega) fun x y p q u v hp hq r1 r2 ru rv=>t4 I d1 x y p q r1 r2 (k1 p hp) (k2 q hq) A.in1 u v ru rv (by show A.units+1+d1<cLine;omega)
def PL (K:ZE6)(neg:Bool):R2:=fun x y H Q=>∃ p q,Rep H x p/\Rep H y q/\dat K 40 p/\dat K 40 q/\Q (.bl (if neg then !Az p q else Az p q)) H
def XY (hu:X.A.units+64<cLine):BD X (compareOp .Eq) (PL X.K false):=by
 intro pins s σ H x y v u Q I rx ry h;obtain ⟨p,q,r1,r2,d1,d2,hQ⟩:=h;exact (ZE I 40 x y p q r1 r2 d1 d2 X.A _ _ rx ry (by omega)).1 _ _ _ _ ⟨.bl (Az p q),H,I,rfl,hQ⟩
def rh (hu:X.A.units+64<cLine):BD X (compareOp .NotEq) (PL X.K true):=by
 intro pins s σ H x y v u Q I rx ry h;obtain ⟨p,q,r1,r2,d1,d2,hQ⟩:=h;exact (ZE I 40 x y p q r1 r2 d1 d2 X.A _ _ rx ry (by omega)).2 _ _ _ _ ⟨.bl (!Az p q),H,I,rfl,hQ⟩
end
section
variable [Xw]
variable {K:ZE6}{k:PV->Prop}
def RN (h:Wp ss ta fun p=>Wp ss tb fun q=>dat K 40 p/\dat K 40 q/\k (.bl (Az p q))):Wp ss (BX (PL K false) ta tb) k:=⟨fun E σ F H Q S q=>
 h.go E σ F H _ S fun v p F1 H1 m1 r1 h2=>h2.go E σ F1 H1 _ m1.st fun v2 p2 F2 H2 m2 r2 ⟨d1,d2,kk⟩=>
  ⟨p,p2,(r1.mono m2.ff).mono m2.st.fh,r2.mono m2.st.fh,d1,d2,q _ _ F2 H2 (m1.trans m2) (.bl _) kk⟩⟩
def eZ (h:Wp ss ta fun p=>Wp ss tb fun q=>dat K 40 p/\dat K 40 q/\k (.bl (!Az p q))):Wp ss (BX (PL K true) ta tb) k:=⟨fun E σ F H Q S q=>
 h.go E σ F H _ S fun v p F1 H1 m1 r1 h2=>h2.go E σ F1 H1 _ m1.st fun v2 p2 F2 H2 m2 r2 ⟨d1,d2,kk⟩=>
  ⟨p,p2,(r1.mono m2.ff).mono m2.st.fh,r2.mono m2.st.fh,d1,d2,q _ _ F2 H2 (m1.trans m2) (.bl _) kk⟩⟩
end
def OV.at:OV->List Nat->Option OV
 | t,[]=>some t
 | .nd _ _ xs,j::p=>(xs[j]?).bind fun x=>x.at p
 | .tp xs,j::p=>(xs[j]?).bind fun x=>x.at p
 | .fz _,_::_=>none
termination_by _ p=>p.length
def OV.put:OV->List Nat->OV->OV
 | _,[],n=>n
 | .nd k a xs,j::p,n=>match xs[j]? with
  | some x=>.nd k a (xs.set j (x.put p n))
  | none=>.nd k a xs
 | .tp xs,j::p,n=>match xs[j]? with
  | some x=>.tp (xs.set j (x.put p n))
  | none=>.tp xs
 | .fz p,_::_,_=>.fz p
termination_by _ p=>p.length
def OV.MM:t.at []=some t:=by rw [OV.at]
def OV.Lh {k:NK}{xs:List OV}:(OV.nd k a xs).at (j::p)=(xs[j]?).bind fun x=>x.at p:=by rw [OV.at]
def OV.ND {xs:List OV}:(OV.tp xs).at (j::p)=(xs[j]?).bind fun x=>x.at p:=by rw [OV.at]
def OV.HX:t.put [] n=n:=by rw [OV.put]
def OV.K7 {k:NK}{xs:List OV}{x:OV}(h:xs[j]?=some x):(OV.nd k a xs).put (j::p) n=.nd k a (xs.set j (x.put p n)):=by rw [OV.put,h]
def OV.NX {xs:List OV}{x:OV}(h:xs[j]?=some x):(OV.tp xs).put (j::p) n=.tp (xs.set j (x.put p n)):=by rw [OV.put,h]
theorem OV.X1 {u w:OV}:∀ {p:List Nat}{t:OV}{j:Nat},t.at p=some u->u.at [j]=some w->t.at (p++[j])=some w
 | [],t,j,h,h2=>by rw [OV.MM] at h;cases h;exact h2
 | i::p,.nd k a xs,j,h,h2=>by
  rw [OV.Lh] at h;rw [jD,OV.Lh];cases e:xs[i]? with
  | none=>rw [e] at h;cases h
  | some x=>rw [e] at h;exact OV.X1 (t:=x) h h2
 | i::p,.tp xs,j,h,h2=>by
  rw [OV.ND] at h;rw [jD,OV.ND];cases e:xs[i]? with
  | none=>rw [e] at h;cases h
  | some x=>rw [e] at h;exact OV.X1 (t:=x) h h2
 | i::p,.fz q,j,h,h2=>by rw [OV.at] at h;cases h
theorem Jb:∀ {xs:List OV}{j:Nat}{x:OV},xs[j]?=some x->∃ l r,OV.Ag xs=l++x.addrs++r/\∀ y:OV,OV.Ag (xs.set j y)=l++y.addrs++r
 | x::xs,0,z,h=>by
  simp at h;subst h;exact ⟨[],OV.Ag xs,by rw [OV.Dc];rfl,fun y=>by rw [YZ,OV.Dc];rfl⟩
 | x::xs,j+1,z,h=>by
  obtain ⟨l,r,e1,e2⟩:=Jb (xs:=xs) (j:=j) (x:=z) (by simpa using h)
  refine ⟨x.addrs++l,r,by rw [OV.Dc,e1];simp [Cd],fun y=>by rw [SQ,OV.Dc,e2];simp [Cd]⟩
theorem OV.split {u:OV}:∀ {p:List Nat}{t:OV},t.at p=some u->∃ l r,t.addrs=l++u.addrs++r/\∀ n:OV,(t.put p n).addrs=l++n.addrs++r
 | [],t,h=>by rw [OV.MM] at h;cases h;exact ⟨[],[],by simp,fun n=>by rw [OV.HX];simp⟩
 | j::p,.nd k a xs,h=>by
  rw [OV.Lh] at h;cases e:xs[j]? with
  | none=>rw [e] at h;cases h
  | some x=>
   rw [e] at h;obtain ⟨l,r,e1,e2⟩:=Jb e;obtain ⟨l2,r2,f1,f2⟩:=OV.split (t:=x) h;refine ⟨a::(k.more++(l++l2)),r2++r,by rw [OV.DJ,e1,f1];simp [Cd],fun n=>by rw [OV.K7 e,OV.DJ,e2,f2];simp [Cd]⟩
 | j::p,.tp xs,h=>by
  rw [OV.ND] at h;cases e:xs[j]? with
  | none=>rw [e] at h;cases h
  | some x=>
   rw [e] at h;obtain ⟨l,r,e1,e2⟩:=Jb e;obtain ⟨l2,r2,f1,f2⟩:=OV.split (t:=x) h;refine ⟨l++l2,r2++r,by rw [OV.GB,e1,f1];simp [Cd],fun n=>by rw [OV.NX e,OV.GB,e2,f2];simp [Cd]⟩
 | j::p,.fz q,h=>by rw [OV.at] at h;cases h
theorem BB.get {F H:Hp}:∀ {vs:List V}{ts:List OV}{j:Nat}{t:OV},BB F H vs ts->ts[j]?=some t->∃ v,vs[j]?=some v/\B8 F H v t
 | _,_,_,_,.nil,e=>by simp at e
 | _,_,0,_,.cons r _,e=>by simp at e;subst e;exact ⟨_,rfl,r⟩
 | _,_,j+1,t,.cons _ q,e=>by
  obtain ⟨u,h1,h2⟩:=BB.get (j:=j) (t:=t) q (by simpa using e)
  exact ⟨u,by simpa using h1,h2⟩
theorem BB.append {F H:Hp}:∀ {vs ws:List V}{xs ys:List OV},BB F H vs xs->BB F H ws ys->BB F H (vs++ws) (xs++ys)
 | _,_,_,_,.nil,s=>s
 | _,_,_,_,.cons r t,s=>.cons r (BB.append t s)
def BB.one (r:B8 F H v t):BB F H [v] [t]:=.cons r .nil
theorem gJ {F H:Hp}:∀ {vs:List V}{xs:List PV},AJ F vs xs->BB F H vs (xs.map .fz)
 | _,_,.nil=>.nil
 | _,_,.cons r t=>.cons (.fz r) (gJ t)
theorem gZ:∀ (xs:List PV),OV.Ag (xs.map .fz)=[]
 | []=>by rw [Ht,OV.Ag]
 | x::r=>by rw [BL,OV.Dc,OV.NB,gZ r];rfl
theorem BB.set {F H:Hp}:∀ {vs:List V}{xs:List OV}(j:Nat){v:V}{t:OV},BB F H vs xs->B8 F H v t->BB F H (vs.set j v) (xs.set j t)
 | _,_,_,_,_,.nil,_=>.nil
 | _,_,0,_,_,.cons _ t,r=>.cons r t
 | _,_,j+1,_,_,.cons q t,r=>.cons q (BB.set j t r)
theorem BB.swap {F H H':Hp}{y:OV}:∀ {vs:List V}{xs:List OV}{j:Nat}{x:OV}{v:V},BB F H vs xs->xs[j]?=some x->vs[j]?=some v->(∀ l r,OV.Ag xs=l++x.addrs++r->(∀ z:OV,OV.Ag (xs.set j z)=l++z.addrs++r)->∀ b∈l++r,∀ o,H b=some o->H' b=some o)->B8 F H' v y->BB F H' vs (xs.set j y)
 | _,x::xs,0,z,w,.cons r t,h,hv,hk,ry=>by
  simp at h hv;subst h;subst hv;rw [YZ];have e:∀ z:OV,OV.Ag ((x::xs).set 0 z)=[]++z.addrs++OV.Ag xs:=fun z=>by rw [YZ,OV.Dc];rfl
  exact .cons ry (t.mono (AV.refl _) fun b hb o=>hk [] (OV.Ag xs) (by rw [OV.Dc];rfl) e b (by simpa using hb) o)
 | _,x::xs,j+1,z,w,.cons r t,h,hv,hk,ry=>by
  rw [SQ];have h':xs[j]?=some z:=by simpa using h
  obtain ⟨l,q,e1,e2⟩:=Jb h';refine .cons (r.mono (AV.refl _) fun b hb o=>hk (x.addrs++l) q (by rw [OV.Dc,e1];simp [Cd]) (fun z=>by rw [SQ,OV.Dc,e2];simp [Cd]) b (by simp [hb]) o) (BB.swap (v:=w) t h' (by simpa using hv) (fun l' r' DO CD b hb o=>hk (x.addrs++l') r' (by rw [OV.Dc,DO];simp [Cd]) (fun z=>by rw [SQ,OV.Dc,CD];simp [Cd]) b (by rcases List.mem_append.mp hb with hz | hz <;> simp [hz]) o) ry)
theorem B8.at {F H:Hp}{u:OV}:∀ {p:List Nat}{t:OV}{v:V},B8 F H v t->t.at p=some u->∃ w,B8 F H w u/\∀ (H':Hp) (n:OV),B8 F H' w n->(∀ l r,t.addrs=l++u.addrs++r->(∀ n:OV,(t.put p n).addrs=l++n.addrs++r)->∀ b∈l++r,∀ o,H b=some o->H' b=some o)->B8 F H' v (t.put p n)
 | [],t,v,h,e=>by rw [OV.MM] at e;cases e;exact ⟨v,h,fun H' n r _=>by rw [OV.HX];exact r⟩
 | j::p,.fz q,v,h,e=>by rw [OV.at] at e;cases e
 | j::p,.nd k a xs,_,.nd h sd ft r,e=>by
  rw [OV.Lh] at e;cases ex:xs[j]? with
  | none=>rw [ex] at e;cases e
  | some x=>
   rw [ex] at e;obtain ⟨vj,U1,rj⟩:=r.get ex;obtain ⟨w,rw_,go⟩:=B8.at (t:=x) rj e;refine ⟨w,rw_,fun H' n rn hk=>?_⟩;obtain ⟨l2,r2,f1,f2⟩:=OV.split e;have key:∀ l r,OV.Ag xs=l++x.addrs++r->(∀ z:OV,OV.Ag (xs.set j z)=l++z.addrs++r)->∀ b,b∈(a::(k.more++(l++l2)))++(r2++r)->∀ o,H b=some o->H' b=some o:=fun l r e1 e2 b hb o=>
    hk (a::(k.more++(l++l2))) (r2++r) (by rw [OV.DJ,e1,f1];simp [Cd]) (fun n=>by rw [OV.K7 ex,OV.DJ,e2,f2];simp [Cd]) b hb o
   obtain ⟨l,q,e1,e2⟩:=Jb ex;rw [OV.K7 ex];refine .nd (key l q e1 e2 a (by simp) _ h) (NK.ao sd fun b hb=>key l q e1 e2 b (by simp [hb])) ft ?_;refine r.swap ex U1 (fun l' r' DO CD b hb o=>key l' r' DO CD b (by rcases List.mem_append.mp hb with hz | hz <;> simp [hz]) o) ?_
   refine go H' n rn fun l' r' g1 g2 b hb o=>?_;refine hk (a::(k.more++(l++l'))) (r'++q) (by rw [OV.DJ,e1,g1];simp [Cd]) (fun n=>by rw [OV.K7 ex,OV.DJ,e2,g2];simp [Cd]) b (by rcases List.mem_append.mp hb with hz | hz <;> simp [hz]) o
 | j::p,.tp xs,_,.tp h r,e=>by
  rw [OV.ND] at e;cases ex:xs[j]? with
  | none=>rw [ex] at e;cases e
  | some x=>
   rw [ex] at e;obtain ⟨vj,U1,rj⟩:=r.get ex;obtain ⟨w,rw_,go⟩:=B8.at (t:=x) rj e;refine ⟨w,rw_,fun H' n rn hk=>?_⟩;obtain ⟨l2,r2,f1,f2⟩:=OV.split e;obtain ⟨l,q,e1,e2⟩:=Jb ex;rw [OV.NX ex];refine .tp h (r.swap ex U1 (fun l' r' DO CD b hb o=>?_) (go H' n rn fun l' r' g1 g2 b hb o=>?_))
   ·exact hk (l'++l2) (r2++r') (by rw [OV.GB,DO,f1];simp [Cd]) (fun n=>by rw [OV.NX ex,OV.GB,CD,f2];simp [Cd]) b (by rcases List.mem_append.mp hb with hz | hz <;> simp [hz]) o
   ·exact hk (l++l') (r'++q) (by rw [OV.GB,e1,g1];simp [Cd]) (fun n=>by rw [OV.NX ex,OV.GB,e2,g2];simp [Cd]) b (by rcases List.mem_append.mp hb with hz | hz <;> simp [hz]) o
def TZ {l u r n:List Addr}(h:(l++u++r).Nodup)(hn:n.Nodup)(hd:∀ b∈n,b∈u∨b∉l++u++r):(l++n++r).Nodup:=by
 rw [Cs] at h ⊢;obtain ⟨h1,h2,h3⟩:=h;rw [Cs] at h1 ⊢;obtain ⟨a1,a2,a3⟩:=h1;refine ⟨⟨a1,hn,fun a ha b hb e=>?_⟩,h2,fun a ha b hb e=>?_⟩
 ·subst e;rcases hd a hb with z | z
  ·exact a3 a ha a z rfl
  ·exact z (by simp [ha])
 ·subst e;rcases List.mem_append.mp ha with ha | ha
  ·exact h3 a (by simp [ha]) a hb rfl
  ·rcases hd a ha with z | z
   ·exact h3 a (by simp [z]) a hb rfl
   ·exact z (by simp [hb])
def Sg.Vu (S:Sg E ss σ F H){k:NK}{xs:List OV}{ho:HO}{lt:Bool}(hi:ss[i]?=some (.ow lt t))(CN:t.at p=some (.nd k a xs))(hn:B8 F (upd H a ho) (.ref a) n)(nd:n.addrs.Nodup)
  (cH:∀ b∈n.addrs,b∈(OV.nd k a xs).addrs∨(F b=none/\E.H0 b=none/\∀ (j:Nat) s,ss[j]?=some s->¬ BW s σ[j]? b)):Sg E (ss.set i (.ow lt (t.put p n))) σ F (upd H a ho):=by
 obtain ⟨v,e,r,WG,q⟩:=S.ok i _ hi;obtain ⟨l,rr,e1,e2⟩:=OV.split CN;have au:a∈(OV.nd k a xs).addrs:=by rw [OV.DJ];simp
 have ut:∀ b∈(OV.nd k a xs).addrs,b∈t.addrs:=fun b hb=>by rw [e1];simp [hb]
 have Hg:∀ b∈n.addrs,b∈(OV.nd k a xs).addrs∨b∉t.addrs:=fun b hb=>(cH b hb).imp id fun z m=>z.2.2 i _ hi m;obtain ⟨w,rw_,go⟩:=r.at CN;have ew:w=.ref a:=by cases rw_;rfl
 subst ew;have ne1:∀ (j:Nat) s,(ss.set i .any)[j]?=some s->∀ b,b∈t.addrs->¬ BW s σ[j]? b:=fun j s hj b hb m=>by
  by_cases z:j=i
  ·subst z;rw [Ds (List.getElem?_eq_some_iff.mp hi).1] at hj;cases hj;cases m
  ·rw [DL (Bs z)] at hj;exact S.CC j i s _ b z hj hi m hb
 have S2:=(S.drop i).MI (o:=ho) (q a (ut a au)).1 ((q a (ut a au)).2.imp id fun z=>z.2) fun j s hj=>ne1 j s hj a (ut a au);have eQ:=WG;rw [e1,Cs,Cs] at eQ;obtain ⟨⟨_,_,d1⟩,_,d2⟩:=eQ;have ZDz:∀ b,b∈l++rr->b≠a:=fun b hb z=>by
  subst z;rcases List.mem_append.mp hb with hb | hb
  ·exact d1 b hb b au rfl
  ·exact d2 b (by simp [au]) b hb rfl
 have r2:B8 F (upd H a ho) v (t.put p n):=go _ n hn fun l' r' g1 g2 b hb o xx=>by
  rw [An ?_];exact xx;rintro rfl;have gB:=WG;rw [g1,Cs,Cs] at gB;obtain ⟨⟨_,_,c1⟩,_,c2⟩:=gB;rcases List.mem_append.mp hb with hb | hb
  ·exact c1 b hb b au rfl
  ·exact c2 b (by simp [au]) b hb rfl
 have ad:∀ b∈(t.put p n).addrs,b∈t.addrs∨(F b=none/\E.H0 b=none/\∀ (j:Nat) s,ss[j]?=some s->¬ BW s σ[j]? b):=fun b hb=>by
  rw [e2] at hb;rcases List.mem_append.mp hb with hb | hb
  ·rcases List.mem_append.mp hb with hb | hb
   ·exact .inl (by rw [e1];simp [hb])
   ·exact (cH b hb).imp (ut b) id
  ·exact .inl (by rw [e1];simp [hb])
 have S3:=S2.setG (j:=i) (s:=.ow lt (t.put p n)) (v:=v) ⟨v,rfl,r2,by rw [e2];exact TZ (e1▸WG) nd fun b hb=>(Hg b hb).imp id (by rw [e1];exact id),fun b hb=>(ad b hb).elim (q b) fun z=>⟨z.1,.inl z.2.1⟩⟩ fun b hb j s hj hs m=>by
  rcases ad b hb with z | z
  ·exact ne1 j s hs b z m
  ·rw [DL (Bs hj)] at hs;exact z.2.2 j s hs m
 rw [RQ e,Ya] at S3;exact S3
structure Wl [Xw] (ss:List Slot) (i:Nat) (t:OV) (te:TE) (k:List Nat->OV->Prop):Prop where
 hi:∃ lt,ss[i]?=some (.ow lt t)
 go:∀ (E:Ent) (σ:L2.St) (F H:Hp) (Q:VK),Sg E ss σ F H->(∀ v p u F' H',Mv E ss σ F H F' H'->B8 F' H' v u->t.at p=some u->k p u->Q v H')->te σ H Q
def DY:List Nat->List Slot->List Slot
 | [],ss=>ss
 | i::m,ss=>DY m (ss.set i .any)
structure Wx [Xw] (ss:List Slot) (te:TE) (k:List Nat->OV->Prop):Prop where
 go:∀ (E:Ent) (σ:L2.St) (F H:Hp) (Q:VK),Sg E ss σ F H->(∀ v m u F' H',Mv E ss σ F H F' H'->B8 F' H' v u->u.addrs.Nodup->(∀ a∈u.addrs,F' a=none/\E.H0 a=none/\((∃ i∈m,∃ s,s≠Slot.AS/\ss[i]?=some s/\BW s σ[i]? a)∨H a=none))->k m u->Q v H')->te σ H Q
structure MG [Xw] (ss:List Slot) (te:TA) (k:List Nat->List OV->Prop):Prop where
 go:∀ (E:Ent) (σ:L2.St) (F H:Hp) (Q:List V->Hp->Prop),Sg E ss σ F H->(∀ vs m us F' H',Mv E ss σ F H F' H'->BB F' H' vs us->(OV.Ag us).Nodup->(∀ a∈OV.Ag us,F' a=none/\E.H0 a=none/\((∃ i∈m,∃ s,s≠Slot.AS/\ss[i]?=some s/\BW s σ[i]? a)∨H a=none))->k m us->Q vs H')->te σ H Q
section
variable [Xw]
variable {K:ZE6}{k:PV->Prop}
def OV.KQ (h:t.at p=some u):∀ a∈u.addrs,a∈t.addrs:=fun a ha=>by
 obtain ⟨l,r,e,_⟩:=OV.split h;rw [e];simp [ha]
def B8.mv (r:B8 F H v u)(S:Sg E ss σ F H)(hi:∃ lt,ss[i]?=some (.ow lt t))(h:t.at p=some u)(m:Mv E ss σ F H F' H'):B8 F' H' v u:=
 r.mono m.ff fun a ha o e=>m.hh a o (S.N0 hi.choose_spec (OV.KQ h a ha) (by simp)) e
def Hh {lt:Bool}{k:List Nat->OV->Prop}(hi:ss[i]?=some (.ow lt t))(hk:k [] t):Wl ss i t (BI i) k:=⟨⟨lt,hi⟩,fun E σ F H Q S q=>by
 obtain ⟨v,e,r,_,_⟩:=S.ok i _ hi;exact ⟨v,e,q v [] t F H (.refl S) r OV.MM hk⟩⟩
def Gg {k:List Nat->OV->Prop}(h:Wp ss te fun p=>k [] (.fz p)):Wx ss te k:=⟨fun E σ F H Q S q=>
 h.go E σ F H _ S fun v p F1 H1 m1 r kk=>q v [] (.fz p) F1 H1 m1 (.fz r) (by rw [OV.NB];exact HH) (fun a ha=>by rw [OV.NB] at ha;cases ha) kk⟩
def gH (a:Addr)(xs:List PV):(OV.nd .lst a (xs.map .fz)).addrs=[a]:=by rw [OV.DJ,gZ];rfl
def ju {k:List Nat->OV->Prop}(h:Wn ss te fun xs=>∀ l,k [] (.nd .lst l (xs.map .fz))):Wx ss te k:=⟨fun E σ F H Q S q=>
 h.go E σ F H _ S fun l vs xs F1 H1 m1 fl hl GD r kk=>q _ [] _ F1 H1 m1 (.nd (k:=.lst) GD trivial trivial (gJ r)) (by rw [gH];simp) (fun a ha=>by
  rw [gH] at ha;have e:a=l:=by simpa using ha
  subst e;exact ⟨fl,S.DW hl,.inr hl⟩) (kk l)⟩
def b5 {k:List Nat->List OV->Prop}(h:k [] []):MG ss BV k:=⟨fun E σ F H Q S q=>q _ [] [] F H (.refl S) .nil (by rw [OV.Fd];exact HH) (fun a ha=>by rw [OV.Fd] at ha;cases ha) h⟩
def Za {k:List Nat->OV->Prop}(hi:ss[i]?=some (.ow false t))(h:k [i] t):Wx ss (BI i) k:=⟨fun E σ F H Q S q=>by
 obtain ⟨v,e,r,nd,qa⟩:=S.ok i _ hi;refine ⟨_,e,q v [i] t F H (.refl S) r nd (fun a ha=>⟨(qa a ha).1,?_,.inl ⟨i,by simp,_,by simp,hi,ha⟩⟩) h⟩;exact (qa a ha).2.elim id fun z=>by cases z.1⟩
def Wx.yX (S:Sg E ss σ F H)(h:(∃ i∈m,∃ s,s≠Slot.AS/\ss[i]?=some s/\BW s σ[i]? a)∨H a=none):Ca ss σ a:=by
 rcases h with ⟨j,_,s,hp,hs,o⟩ | z
 ·exact S.N0 hs o hp
 ·exact S.Ij z
def Mv.ZH (m:Mv E ss σ F H F' H')(h:F a=Option.none)(h2:H a≠Option.none):F' a=Option.none:=by
 cases e:F' a with
 | none=>rfl
 | some o=>
  rcases m.nn a o e with z | z
  ·rw [h] at z;cases z
  ·exact absurd z h2
def LX {k:List Nat->List OV->Prop}(h:Wx ss te fun m u=>MG ss tr fun m2 us=>(∀ i∈m,i∉m2)/\k (m++m2) (u::us)):MG ss (Ap te tr) k:=⟨fun E σ F H Q S q=>
 h.go E σ F H _ S fun v m u F1 H1 m1 r1 GU a1 h2=>h2.go E σ F1 H1 _ m1.st fun vs sZ us F2 H2 m2 r2 FD a2 ⟨dj,kk⟩=>by
  have np:∀ a∈u.addrs,Ca ss σ a:=fun a ha=>Wx.yX S (a1 a ha).2.2;refine q (v::vs) (m++sZ) (u::us) F2 H2 (m1.trans m2) (.cons (r1.mono m2.ff fun a ha o e=>m2.hh a o (np a ha) e) r2) ?_ (fun a ha=>?_) kk
  ·rw [OV.Dc,Cs];refine ⟨GU,FD,fun a ha b hb e=>?_⟩;subst e;rcases (a2 a hb).2.2 with ⟨j2,L1,s2,fc,Ce,o2⟩ | z
   ·rcases (a1 a ha).2.2 with ⟨j,hj,s,hp,hs,o⟩ | z
    ·exact S.CC j j2 s s2 a (by rintro rfl;exact dj j hj L1) hs Ce o o2
    ·exact S.Dw Ce o2 z
   ·exact r1.there a ha z
  ·rw [OV.Dc] at ha;rcases List.mem_append.mp ha with ha | ha
   ·obtain ⟨f,h0,w⟩:=a1 a ha;exact ⟨m2.ZH f (r1.there a ha),h0,w.imp (fun ⟨j,hj,z⟩=>⟨j,by simp [hj],z⟩) id⟩
   ·obtain ⟨f,h0,w⟩:=a2 a ha;exact ⟨f,h0,w.imp (fun ⟨j,hj,z⟩=>⟨j,by simp [hj],z⟩) m1.none⟩⟩
def xO {k:List Nat->OV->Prop}(h:MG ss tr fun m us=>us.length<=100000/\k m (.tp us)):Wx ss (Mw tr) k:=⟨fun E σ F H Q S q=>
 h.go E σ F H _ S fun vs m us F1 H1 m1 r1 GU a1 ⟨hz,kk⟩=>⟨small (by rw [r1.length];exact hz),fun p hp=>by
  have m2:=m1.st.alloc hp (.tup vs);refine q _ m (.tp us) _ _ (m1.trans m2) (.tp B0 (r1.mono m2.ff fun a ha o e=>by rw [An (by rintro rfl;exact r1.there _ ha hp)];exact e)) (by rw [OV.GB];exact GU) (fun a ha=>?_) kk;rw [OV.GB] at ha;obtain ⟨f,h0,w⟩:=a1 a ha;exact ⟨by rw [An (by rintro rfl;exact r1.there _ ha hp)];exact f,h0,w⟩⟩⟩
theorem OT {j:Nat}{s:Slot}:∀ {m:List Nat}{ss:List Slot},(DY m ss)[j]?=some s->s=.any∨(ss[j]?=some s/\j∉m)
 | [],ss,h=>.inr ⟨h,by simp⟩
 | i::m,ss,h=>by
  rcases OT (m:=m) (ss:=ss.set i .any) h with e | ⟨e,hm⟩
  ·exact .inl e
  ·by_cases q:j=i
   ·subst q;have AQ:j<ss.length:=by have:=(List.getElem?_eq_some_iff.mp e).1;simpa using this
    rw [Ds AQ] at e;exact .inl (Bc e).symm
   ·rw [DL (Bs q)] at e;exact .inr ⟨e,by simp [q,hm]⟩
theorem Sg.DY {E:Ent0}{σ:L2.St}{F H:Hp}:∀ (m:List Nat){ss:List Slot},Sg E ss σ F H->Sg E (Fz.DY m ss) σ F H
 | [],_,S=>S
 | i::m,_,S=>Sg.DY m (S.drop i)
def Sg.fW (S0:Sg E ss σ F0 H0)(S:Sg E ss σ F H)(r:B8 F H v u)(nd:u.addrs.Nodup)(hu:∀ a∈u.addrs,F a=none/\E.H0 a=none/\((∃ i∈m,∃ s,s≠Slot.AS/\ss[i]?=some s/\BW s σ[i]? a)∨H0 a=none)):
  Sg E ((Fz.DY m ss).set j (.ow false u)) (σ.set j (some v)) F H:=by
 refine (S.DY m).setG ⟨v,rfl,r,nd,fun a ha=>⟨(hu a ha).1,.inl (hu a ha).2.1⟩⟩ fun a ha i s HS hs o=>?_;rcases OT hs with e | ⟨Gq,hm⟩
 ·subst e;cases o
 ·rcases (hu a ha).2.2 with ⟨i2,Cf,s2,_,Ce,o2⟩ | z
  ·exact S.CC i i2 s s2 a (by rintro rfl;exact hm Cf) Gq Ce o o2
  ·exact S0.Dw Gq o z
def KY (h:Wx ss te fun m u=>nx ((Fz.DY m ss).set j (.ow false u))):Ws ss (EE te (CO j)) nx R:=⟨fun E D σ F H S hn hr=>
 h.go E σ F H _ S fun v m u F1 H1 m1 r nd hu kk=>hn _ _ F1 H1 kk (Sg.fW S m1.st r nd hu) m1.ff⟩
def B8.rep (ff:AV F F1):∀ {v:V}{t:OV},B8 F H v t->(∀ a∈t.addrs,∀ o,H a=some o->F1 a=some o)->Rep F1 v t.pv:=by
 intro v t r h;exact B8.rec (motive_1:=fun v t _=>(∀ a∈t.addrs,∀ o,H a=some o->F1 a=some o)->Rep F1 v t.pv) (motive_2:=fun vs ts _=>(∀ a∈OV.Ag ts,∀ o,H a=some o->F1 a=some o)->AJ F1 vs (OV.Cv ts))
  (fun {v p} r _=>by rw [OV.pv];exact r.mono ff)
  (fun {a vs xs} e _ ih h=>by rw [OV.pv];exact .tup (ff _ _ e) (ih (by rw [OV.GB] at h;exact h)))
  (fun {k a vs xs} e sd ft _ ih h=>by
   rw [OV.DJ] at h;have UK:=ih fun a ha=>h a (by simp [ha]);have e':=h a (by simp) _ e;cases k with
   | lst=>rw [OV.pv];exact .lst e' UK
   | B7 ks=>rw [OV.pv];exact .B7 e' ft UK
   | obj C dx ns=>rw [OV.pv];exact .obj e' (h dx (by simp [NK.more]) _ sd) ft UK)
  (fun _=>by rw [OV.Cv];exact .nil)
  (fun _ _ OQ NG h=>by
   rw [OV.Dc] at h;rw [OV.Cv];exact .cons (OQ fun a ha=>h a (by simp [ha])) (NG fun a ha=>h a (by simp [ha])))
  r h
def WK {t':TS}(i:Nat)(hi:ss[i]?=some (.ow false t))(h:Ws (ss.set i (.is t.pv)) t' nx R):Ws ss t' nx R:=⟨fun E D σ F H S hn hr=>by
 obtain ⟨v,e,r,nd,qa⟩:=S.ok i _ hi;obtain ⟨S1,nf⟩:=(S.drop i).lay t.addrs (fun a ha=>⟨(qa a ha).1,(qa a ha).2.elim id (fun z=>by cases z.1),r.there a ha⟩) fun a ha j s hj m=>by
  by_cases q:j=i
  ·subst q;rw [Ds (List.getElem?_eq_some_iff.mp hi).1] at hj;cases hj;cases m
  ·rw [DL (Bs q)] at hj;exact S.CC j i s _ a q hj hi m ha
 have S2:=S1.Fp (j:=i) (v:=v) (p:=t.pv) (r.rep nf fun a ha o ho=>by unfold Cp;rw [mZ ha];exact ho);rw [RQ e,Ya] at S2;exact h.go E D σ _ H S2 (fun CA σ2 F2 H2 n S2 s2=>hn CA σ2 F2 H2 n S2 (nf.trans s2)) hr⟩
variable {lt:Bool}
def M7:(OV.nd .lst a us).addrs=a::OV.Ag us:=by rw [OV.DJ];rfl
theorem JQ:∀ (us ws:List OV),OV.Ag (us++ws)=OV.Ag us++OV.Ag ws
 | [],ws=>by rw [J3,OV.Fd,J3]
 | u::us,ws=>by rw [jD,OV.Dc,OV.Dc,JQ us ws,Cd]
def Kr (u:OV):OV.Ag [u]=u.addrs:=by rw [OV.Dc,OV.Fd,Df]
def Sg.gf {Bt:List OV}(S0:Sg E ss σ F0 H0)(S:Sg E ss σ F H)(hi:ss[i]?=some (.ow lt t))(CN:t.at p=some (.nd .lst a us))
  (hu:∀ a∈u.addrs,F a=none/\E.H0 a=none/\((∃ i∈m,∃ s,s≠Slot.AS/\ss[i]?=some s/\BW s σ[i]? a)∨H0 a=none)) (EL:i∉m)
  (hr:BB F H Bh Bt) (O1:(OV.Ag Bt).Nodup) (G4:∀ b∈OV.Ag Bt,b∈OV.Ag us∨b∈u.addrs):Sg E ((Fz.DY m ss).set i (.ow lt (t.put p (.nd .lst a Bt)))) σ F (upd H a (.lst Bh)):=by
 have CV:(Fz.DY m ss)[i]?=some (.ow lt t):=by
  have aux:∀ (m:List Nat) (ss:List Slot),ss[i]?=some (.ow lt t)->i∉m->(Fz.DY m ss)[i]?=some (.ow lt t):=by
   intro m
   induction m with
   | nil=>intro ss h _;exact h
   | cons j m ih=>
    intro ss h hm;refine ih _ ?_ fun z=>hm (by simp [z]);rw [DL (by rintro rfl;exact hm (by simp))];exact h
  exact aux m ss hi EL
 obtain ⟨v,e,r,nd,q⟩:=S.ok i _ hi;have ut:∀ b,b∈a::OV.Ag us->b∈t.addrs:=fun b hb=>OV.KQ CN b (by rw [M7];exact hb);have M4:∀ b∈u.addrs,b∉t.addrs:=fun b hb z=>by
  rcases (hu b hb).2.2 with ⟨j,hj,s,_,hs,o⟩ | w
  ·exact S.CC j i s _ b (by rintro rfl;exact EL hj) hs hi o z
  ·exact S0.Dw hi z w
 have Dx:(OV.nd .lst a us).addrs.Nodup:=by
  obtain ⟨l,rr,e1,_⟩:=OV.split CN;rw [e1,Cs,Cs] at nd;exact nd.1.2.1
 rw [M7] at Dx;have na:∀ b∈OV.Ag Bt,b≠a:=fun b hb z=>by
  subst z;rcases G4 b hb with w | w
  ·exact (List.nodup_cons.mp Dx).1 w
  ·exact M4 b w (ut b (by simp))
 refine (S.DY m).Vu CV CN (.nd (k:=.lst) B0 trivial trivial (hr.mono (AV.refl _) fun b hb o ho=>by rw [An (na b hb)];exact ho)) (by rw [M7];exact List.nodup_cons.mpr ⟨fun z=>na a z rfl,O1⟩) fun b hb=>?_;rw [M7] at hb ⊢;rcases List.mem_cons.mp hb with w | w
 ·exact .inl (by simp [w])
 ·rcases G4 b w with z | z
  ·exact .inl (by simp [z])
  ·refine .inr ⟨(hu b z).1,(hu b z).2.1,fun j s hs o=>?_⟩;rcases OT hs with y | ⟨Gq,hm⟩
   ·subst y;cases o
   ·rcases (hu b z).2.2 with ⟨i2,Cf,s2,_,Ce,o2⟩ | y
    ·exact S.CC j i2 s s2 b (by rintro rfl;exact hm Cf) Gq Ce o o2
    ·exact S0.Dw Gq o y
def mO (h:Wl ss i t ta fun p u=>∃ lt a us,ss[i]?=some (.ow lt t)/\u=.nd .lst a us/\us.length<=99999/\Wx ss te fun m w=>i∉m/\nx ((DY m ss).set i (.ow lt (t.put p (.nd .lst a (us++[w])))))):Ws ss (HQ (Jf K "list" RS ta (Ap te BV))) nx R:=⟨fun E D σ F H S hn hr=>
 h.go E σ F H _ S fun v p u F1 H1 m1 r1 h1 ⟨lt,a,us,hi,eu,hz,hw⟩=>by
  subst eu;cases r1 with
  | @nd k a' vs _ ha sd ft rr=>
   refine .inl ⟨rfl,_,AY.of ha⟩ |> fun q0=>⟨q0,hw.go E σ F1 H1 _ m1.st fun v2 m w F2 H2 m2 r2 FD a2 ⟨EL,kk⟩=>?_⟩;have r3:=(B8.nd (k:=.lst) ha sd ft rr).mv m1.st h.hi h1 m2;cases r3 with
   | @nd _ _ rN _ kc sd3 ft3 aq=>
    refine ⟨a,rN,v2,rfl,rfl,kc,Jc (by rw [aq.length];exact hz),?_⟩;refine hn _ σ F2 _ kk (Sg.gf (u:=w) m1.st m2.st hi h1 a2 EL (aq.append (.one r2)) ?_ fun b hb=>?_) (m1.ff.trans m2.ff)
    ·rw [JQ,Kr,Cs];obtain ⟨v0,e0,r0,DH,q0⟩:=m2.st.ok i _ hi;have Dx:(OV.nd .lst a us).addrs.Nodup:=by
      obtain ⟨l,rr,e1,_⟩:=OV.split h1;rw [e1,Cs,Cs] at DH;exact DH.1.2.1
     rw [M7] at Dx;refine ⟨(List.nodup_cons.mp Dx).2,FD,fun x hx y hy e=>?_⟩;subst e;have xt:x∈t.addrs:=OV.KQ h1 x (by rw [M7];simp [hx]);rcases (a2 x hy).2.2 with ⟨j,hj,s,_,hs,o⟩ | w
     ·exact m1.st.CC j i s _ x (by rintro rfl;exact EL hj) hs hi o xt
     ·exact m1.st.Dw hi xt w
    ·rw [JQ,Kr] at hb;exact List.mem_append.mp hb⟩
def bM {k:OV->Prop}(h:Wx ss te fun _ u=>k u):Ws ss (J6 te) nx (.ow k):=⟨fun E D σ F H S hn hr=>
 h.go E σ F H _ S fun v m u F1 H1 m1 r nd hu kk=>hr v F1 H1 m1.st.toFin ⟨u,r,nd,fun a ha=>⟨(hu a ha).1,(hu a ha).2.1⟩,kk⟩⟩
def dP {ta:TA}{k:List Nat->OV->Prop}(h:Wa ss ta fun l=>∃ k',pre l (.ow k')/\∀ u,k' u->k [] u):Wx ss (Ef (AM pre) [] E0 ta) k:=⟨fun E σ F H Q S q=>
 h.go E σ F H _ S fun vs l F1 H1 m1 a ⟨k',hp,kk⟩=>by
  rw [Df];refine ⟨l,.ow k',F1,[],hp,m1.st.RM a,fun v F' H' f ⟨u,r,nd,hu,ku⟩=>?_⟩;exact q v [] u F' H' (m1.trans (m1.st.back (fun _ h=>absurd h Aa) f)) r nd (fun a ha=>⟨(hu a ha).1,S.DW (m1.none (hu a ha).2),.inr (m1.none (hu a ha).2)⟩) (kk u ku)⟩
end
def ptr (a:Addr):Hp->V->Prop:=fun _ v=>v=.ref a
section
variable [Xw]
variable {K:ZE6}{k:PV->Prop}{lt:Bool}
def ZAz {k:List Nat->OV->Prop}{nk:NK}(hj:ss[j]?=some (.raw (ptr a)))(hi:ss[i]?=some (.ow lt t))(CN:t.at p=some (.nd nk a us))(hk:k p (.nd nk a us)):Wl ss i t (BI j) k:=⟨⟨lt,hi⟩,fun E σ F H Q S q=>by
 obtain ⟨v,e,rv,_⟩:=S.ok j _ hj;obtain ⟨v2,e2,r2,_,_⟩:=S.ok i _ hi;obtain ⟨w,rw_,_⟩:=r2.at CN;have ew:w=.ref a:=by cases rw_;rfl
 subst ew;cases (show v=.ref a from rv);exact ⟨_,e,q _ p _ F H (.refl S) rw_ CN hk⟩⟩
end
def Bu:List Slot->L2.St->List Addr
 | .own _::ss,some (.ref l)::σ=>l::Bu ss σ
 | .ow _ t::ss,_::σ=>t.addrs++Bu ss σ
 | _::ss,_::σ=>Bu ss σ
 | _,_=>[]
theorem gK:∀ {ss:List Slot}{σ:L2.St} {a:Addr},a∈Bu ss σ->∃ (i:Nat) (s:Slot),ss[i]?=some s/\s≠.AS/\BW s σ[i]? a
 | [],σ,a,h=>by simp [Bu] at h
 | s::ss,[],a,h=>by cases s <;> simp [Bu] at h
 | s::ss,o::σ,a,h=>by
  have up:a∈Bu ss σ->∃ (i:Nat) (s':Slot),(s::ss)[i]?=some s'/\s'≠.AS/\BW s' (o::σ)[i]? a:=fun h=>by
   obtain ⟨i,s',h1,h2,h3⟩:=gK h;exact ⟨i+1,s',by simpa using h1,h2,by simpa using h3⟩
  cases s with
  | own xs=>
   cases o with
   | none=>exact up (by simpa [Bu] using h)
   | some v=>
    cases v with
    | ref l=>
     rw [Bu] at h;rcases List.mem_cons.mp h with e | h
     ·subst e;exact ⟨0,_,rfl,by simp,rfl⟩
     ·exact up h
    | _=>exact up (by simpa [Bu] using h)
  | ow lt t=>
   rw [Bu] at h;rcases List.mem_append.mp h with h | h
   ·exact ⟨0,_,rfl,by simp,h⟩
   ·exact up h
  | _=>exact up (by simpa [Bu] using h)
theorem WD:∀ {ss:List Slot}{σ:L2.St} {i:Nat}{s:Slot}{a:Addr},ss.length=σ.length->ss[i]?=some s->s≠.AS->BW s σ[i]? a->a∈Bu ss σ
 | [],σ,i,s,a,_,h,_,_=>by simp at h
 | s0::ss,[],i,s,a,hl,_,_,_=>by simp at hl
 | s0::ss,o::σ,0,s,a,hl,h,hp,ho=>by
  simp at h;subst h;cases s0 with
  | own xs=>
   have e:o=some (.ref a):=by have:some o=some (some (V.ref a)):=ho;exact Bc this
   subst e;rw [Bu];simp
  | ow lt t=>rw [Bu];exact Mi _ ho
  | AS=>exact absurd rfl hp
  | _=>cases ho
 | s0::ss,o::σ,i+1,s,a,hl,h,hp,ho=>by
  have q:=WD (ss:=ss) (σ:=σ) (i:=i) (a:=a) (by simpa using hl) (by simpa using h) hp (by simpa using ho)
  cases s0 with
  | own xs=>cases o with
   | none=>simpa [Bu] using q
   | some v=>cases v with
    | ref l=>rw [Bu];simp [q]
    | _=>simpa [Bu] using q
  | ow lt t=>rw [Bu];exact Hu _ q
  | _=>simpa [Bu] using q
mutual
theorem B8.Mc {F H:Hp}:∀ {v:V}{t:OV},B8 F H v t->∀ a∈t.addrs,∀ vs,H a≠some (.tup vs)
 | _,_,.fz _,a,ha,_=>by rw [OV.NB] at ha;cases ha
 | _,_,.tp _ r,a,ha,vs=>by rw [OV.GB] at ha;exact BB.Mc r a ha vs
 | _,_,@B8.nd _ _ k b ws xs h sd ft r,a,ha,vs=>by
  rw [OV.DJ,CL,SO] at ha;rcases ha with rfl | ha | ha
  ·rw [h];cases k <;> simp [NK.ho]
  ·cases k with
   | obj C dx ns=>
    have e:a=dx:=by simpa [NK.more] using ha
    subst e;have YI:H a=some (.own b):=sd;rw [YI];simp
   | _=>simp [NK.more] at ha
  ·exact BB.Mc r a ha vs
theorem BB.Mc {F H:Hp}:∀ {vs:List V}{ts:List OV},BB F H vs ts->∀ a∈OV.Ag ts,∀ ws,H a≠some (.tup ws)
 | _,_,.nil,a,ha,_=>by rw [OV.Fd] at ha;cases ha
 | _,_,.cons r t,a,ha,ws=>by
  rw [OV.Dc,SO] at ha;rcases ha with ha | ha
  ·exact B8.Mc r a ha ws
  ·exact BB.Mc t a ha ws
end
mutual
def DQ:PV->Bool
 | .lst _=>false
 | .B7 _ _=>false
 | .obj _ _ _=>false
 | .exc _ _ _=>false
 | .tup xs=>Fm xs
 | _=>true
def Fm:List PV->Bool
 | []=>true
 | x::r=>DQ x && Fm r
end
def Eo (F:Hp)(as:List Addr):Hp:=fun a=>if a∈as then none else F a
def Rep.sub {as:List Addr}(h:∀ a∈as,∀ vs,F a≠some (.tup vs)):∀ {v:V}{p:PV},Rep F v p->DQ p=true->Rep (Eo F as) v p:=by
 intro v p r hn;exact Rep.rec (motive_1:=fun v p _=>DQ p=true->Rep (Eo F as) v p) (motive_2:=fun vs ps _=>Fm ps=true->AJ (Eo F as) vs ps)
  (fun _=>.AB) (fun b _=>.bl b) (fun i _=>.int i) (fun x _=>.str x)
  (fun _ _ _ z=>by simp [DQ] at z)
  (fun {a vs xs} e _ ih z=>.tup (by unfold Eo;rw [k6 (fun q=>h a q vs e)];exact e) (ih (by simpa [DQ] using z)))
  (fun _ _ _ _ z=>by simp [DQ] at z)
  (fun _ _ _ _ _ z=>by simp [DQ] at z)
  (fun _=>.con)
  (fun _ z=>by simp [DQ] at z)
  (fun _ _ _ _ _ z=>by simp [DQ] at z)
  (fun _=>.nil)
  (fun _ _ OQ NG z=>by
   rw [Fm,Ei] at z;exact .cons (OQ z.1) (NG z.2))
  r hn
theorem AJ.sub {as:List Addr}(h:∀ a∈as,∀ vs,F a≠some (.tup vs)):∀ {vs:List V}{ps:List PV},AJ F vs ps->Fm ps=true->AJ (Eo F as) vs ps
 | _,_,.nil,_=>.nil
 | _,_,.cons r t,z=>by
  rw [Fm,Ei] at z;exact .cons (r.sub h z.1) (t.sub h z.2)
def Sg.as (S:Sg E ss σ F H)(h:a∈Bu ss σ):F a=none/\H a≠none/\(∀ vs,H a≠some (.tup vs))/\Ca ss σ a:=by
 obtain ⟨i,s,hs,hp,ho⟩:=gK h;refine ⟨S.uj hs ho,S.Dw hs ho,?_,S.N0 hs ho hp⟩;have k:=S.ok i s hs;cases s with
 | own xs=>obtain ⟨l,vs,e,_,_,e3,_⟩:=k;rw [show σ[i]?=some (some (.ref a)) from ho] at e;cases e;rw [e3];simp
 | ow lt t=>obtain ⟨v,_,r,_⟩:=k;exact r.Mc a ho
 | AS=>exact absurd rfl hp
 | _=>cases ho
def Sg.JM (S:Sg E ss σ F H):AV F (Cp F H (Bu ss σ))/\AV (Cp F H (Bu ss σ)) H:=by
 refine ⟨fun a o e=>?_,fun a o e=>?_⟩
 ·unfold Cp;rw [k6 (fun q=>by rw [(S.as q).1] at e;cases e)];exact e
 ·unfold Cp at e;split at e
  ·exact e
  ·exact S.fh a o e
def Sg.Y5 (S:Sg E ss σ F H)(f:Fin (E3 [] (Cp F H (Bu ss σ)) H) F' H'):Mv E ss σ F H (Eo F' (Bu ss σ)) H'/\∀ a∈Bu ss σ,∀ vs,F' a≠some (.tup vs):=by
 have kp:∀ a o,H a=some o->H' a=some o:=fun a o e=>f.keep a o ⟨Aa,Aa⟩ e;refine ⟨S.step (fun a o e=>?_) (fun a o e=>?_) (fun a o _ e=>kp a o e) (fun a o e=>?_) (fun i l hi e=>Bj.keep (S.Ez hi e) fun o e=>kp l o e),fun a ha vs e=>?_⟩
 ·unfold Eo;rw [k6 (fun q=>by rw [(S.as q).1] at e;cases e)];exact f.f0 a o (S.JM.1 a o e)
 ·unfold Eo at e;split at e
  ·cases e
  ·exact f.fh a o e
 ·unfold Eo at e;split at e
  ·cases e
  ·rename_i q;rcases f.fresh a o e with z | z
   ·left
    have z':Cp F H (Bu ss σ) a=some o:=z;unfold Cp at z';rw [k6 q] at z';exact z'
   ·exact .inr z
 ·obtain ⟨o,ho⟩:=Option.ne_none_iff_exists'.mp (S.as ha).2.1;have z:F' a=some o:=f.f0 a o (by show Cp F H (Bu ss σ) a=some o;unfold Cp;rw [mZ ha];exact ho);rw [z] at e;cases e;exact (S.as ha).2.2.1 vs ho
section
variable [Xw]
variable {K:ZE6}{k:PV->Prop}{lt:Bool}
def wx (h:Wx ss te fun m u=>m=[]/\k u.pv):Wp ss te k:=⟨fun E σ F H Q S q=>
 h.go E σ F H _ S fun v m u F1 H1 m1 r nd hu ⟨em,kk⟩=>by
  subst em;have Fn:∀ a∈u.addrs,H a=none:=fun a ha=>by
   rcases (hu a ha).2.2 with ⟨i,hi,_⟩ | z
   ·cases hi
   ·exact z
  obtain ⟨S1,nf⟩:=m1.st.lay u.addrs (fun a ha=>⟨(hu a ha).1,(hu a ha).2.1,r.there a ha⟩) fun a ha i s hs o=>S.Dw hs o (Fn a ha);refine q v u.pv _ H1 ⟨S1,m1.ff.trans nf,m1.hh,fun a o e=>?_⟩ (r.rep nf fun a ha o ho=>by unfold Cp;rw [mZ ha];exact ho) kk;unfold Cp at e;split at e
  ·rename_i z;exact .inr (Fn a z)
  ·exact m1.nn a o e⟩
end
def xM {K:ZE6}{p:PV}(h:flat p=true):dat K d p:=by
 cases p <;> first | (cases h;done) | (cases d <;> trivial)
def m9 {K:ZE6}(h:xs.all flat=true):∀ x∈xs,dat K d x:=fun x hx=>xM (List.all_eq_true.mp h x hx)
def eG {K:ZE6}(ns:List Str):∀ x∈ns.map PV.str,dat K d x:=m9 (Sd ns)
theorem Ru:∀ {xs:List PV},(∀ x∈xs,Az x x=true)->D5 xs xs=true
 | [],_=>by rw [D5]
 | x::r,h=>by rw [Rb,h x (by simp),Ru (xs:=r) fun y hy=>h y (by simp [hy])];rfl
def wQ {K:ZE6}:∀ (d:Nat){p:PV},dat K d p->Az p p=true:=by
 intro d
 induction d with
 | zero=>intro p h;cases p <;> first | exact h.elim | (rw [Az] <;> simp)
 | succ d ih=>
  intro p h;cases p with
  | lst xs=>rw [Az];exact Ru fun x hx=>ih (h x hx)
  | tup xs=>rw [Az];exact Ru fun x hx=>ih (h x hx)
  | con a xs=>rw [Az];exact Ru fun x hx=>ih (h.1 x hx)
  | _=>first | exact h.elim | (rw [Az] <;> simp)
end Fz
namespace L2
variable {M:Model}{A:Around}{E xe:Value->Shared->Prop}{s:Shared}{base h:Heap}{env:Env}{outer:List Env}{C S ea f fI:Addr}{dx tb:Option Addr}{w:World}{mg:ZE8}{N ps sn:List Str}{n name par qual x:Str}{scope:Scope}{cd v:Value}{H:Hp}{X:Cx}{E':St->XK}{Cu NU np p pos:Pos}{e e0:Expr}{es:List Expr}{t:TA}{ab sk:Bool}{prog:Program}{ZDN pins:ZE7}{σ:St}{j kk:Nat}{fd:FuncData}{Zx body:List Stmt}{b0:Stmt}{il:(St->XK)->TS}{th:TS}{sp:Sp}
section
variable {K:ZE6}{x t:Addr}
section
open PySem.Builtin PySem.Builtin.ObjectAttr
end
end
end L2
namespace Fz
open L2 Lw
variable {xs:List PV}
structure Fx (K:ZE6) (a:Addr) (xs:List PV):Prop where
 JL:xs.all flat=true
 sq:∀ H,Aq K H a (xs.map Fz.enc)
 ob:∃ o:Obj,K.lookup a=some o/\o.cls=.type "tuple"
def Fx.of {K:ZE6}{a:Addr}{vs:List V}(h:∀ H,Aq K H a vs)(e:xs.map Fz.enc=vs)(f:xs.all flat=true):Fx K a xs:=by
 subst e;refine ⟨f,h,?_⟩;rcases h (fun _=>none) with h | ⟨o,A3,n,h1,h2,_⟩
 ·rcases h with h | ⟨_,h⟩
  ·cases h
  ·cases h
 ·exact ⟨o,h1,h2⟩
end Fz
namespace Fz
open L2 Lw
variable {E:Ent0}{ss:List Slot}{σ:L2.St}{F F' H H':Hp}{te:TE}{nx:List Slot->Prop}{R:As}{pre:Pu}
section
variable [Xw]
variable {K:ZE6}{ta tb tc:TE}{k:PV->Prop}{v:V}{tp:Bool}{xs:List PV}
def bO (h:Wp ss ta fun p=>∃ xs,p=.tup xs/\xs≠[]/\Wp ss tb fun q=>∃ ys,q=.tup ys/\xs.length+ys.length<=100000/\k (.tup (xs++ys))):Wp ss (BX (VL K) ta tb) k:=⟨fun E σ F H Q S q=>
 h.go E σ F H _ S fun v p F1 H1 m1 r1 ⟨xs,e,hx,h2⟩=>h2.go E σ F1 H1 _ m1.st fun v2 p2 F2 H2 m2 r2 ⟨ys,e2,hz,kk⟩=>by
  subst e;subst e2;cases r1 with
  | @tup a vs _ f1 s1=>
   cases r2 with
   | @tup b ws _ f2 s2=>
    have g1:=m2.ff _ _ f1;have t1:=s1.mono m2.ff;have l1:=t1.length;have l2:=s2.length;refine ⟨a,b,vs,ws,rfl,rfl,Aq.of (m2.st.fh _ _ g1),Aq.of (m2.st.fh _ _ f2),fun z=>hx ?_,small (by omega),fun z=>?_,fun _ c hc=>?_⟩
    ·rw [z] at l1;exact ZCl l1.symm
    ·have ey:ys=[]:=by rw [z] at l2;exact ZCl l2.symm
     subst ey;rw [Df] at kk;exact q _ _ F2 H2 (m1.trans m2) (.tup g1 t1) kk
    ·have m3:=m2.st.alloc hc (.tup (vs++ws));exact q _ _ _ _ (m1.trans (m2.trans m3)) (.tup B0 ((t1.append s2).mono m3.ff)) kk⟩
end
@[reducible] noncomputable def ZDf (X:XK) (D:Ex->Prop):Xw:=⟨fun _=>X,fun _=>True,D⟩
@[reducible] noncomputable def xwT (E:Ent0) (J:List Slot->Prop) (D:Ex->Prop):Xw:=⟨fun σ C dx H=>∃ ss F x,J ss/\Sg E ss σ F H/\D x/\x.at F C dx,J,D⟩
end Fz
namespace Fz
open L2 Lw
variable {i j n:Nat}{l ss:List Slot}{ta tb te:TE}{a a0:Addr}{N ns:List Str}{F F' H H':Hp}{t t' u:OV}{pre:Pre}{X:XK}{σ:L2.St}{E:Ent0}{vs:List V}{nk:NK}{us:List OV}{Q:VK}
def xq {b c n:Int}(hb:1<=b)(hc:b<=c)(hn:0<=n):∃ m:Nat,(if (if c<n then c else n) > b then (if c<n then c else n) else b)=(m:Int)/\(m:Int)<=c:=by
 have h:∀ z:Int,1<=z->z<=c->∃ m:Nat,z=(m:Int)/\(m:Int)<=c:=fun z h0 h1=>⟨z.toNat,by omega,by omega⟩;apply h
 ·split
  ·omega
  ·omega
 ·split
  ·split <;> omega
  ·omega
section
variable [Xw]
variable {K:ZE6}{k:PV->Prop}
def PN {neg:Bool}(c:Fx K a (ns.map .str))(h:Wp ss ta fun p=>∃ x,p=.str x/\k (.bl (if neg then !decide (x∈ns) else decide (x∈ns)))):Wp ss (BX (HN K neg) ta (tC (.ref a))) k:=⟨fun E σ F H Q S q=>
 h.go E σ F H _ S fun v p F1 H1 m1 r1 ⟨x,e,kk⟩=>by
  subst e;cases r1;have sq:=c.sq H1;rw [Wj] at sq;refine ⟨a,ns.map V.str,rfl,.inr sq,rfl,KJ ns,?_⟩;rw [Xd];exact q _ _ F1 H1 m1 (.bl _) kk⟩
end
noncomputable def MD:PV->Bool
 | .AB=>true
 | _=>false
theorem Rep.MD {v:V}{p:PV}(r:Rep F v p):decide (v=.AB)=MD p:=by
 cases r <;> rfl
section
variable [Xw]
variable {k:PV->Prop}
def zi (h:Wp ss ta fun p=>Wp ss tb fun q=>q=.AB/\k (.bl (MD p))):Wp ss (BX (fun x y H Q=>y=.AB/\Q (.bl (decide (x=.AB))) H) ta tb) k:=⟨fun E σ F H Q S q=>
 h.go E σ F H _ S fun v p F1 H1 m1 r1 h2=>h2.go E σ F1 H1 _ m1.st fun v2 p2 F2 H2 m2 r2 ⟨e,kk⟩=>by
  subst e;cases r2;refine ⟨rfl,?_⟩;rw [r1.MD];exact q _ _ F2 H2 (m1.trans m2) (.bl _) kk⟩
def Pa (h:Wp ss ta fun p=>Wp ss tb fun q=>q=.AB/\k (.bl (!MD p))):Wp ss (BX (fun x y H Q=>y=.AB/\Q (.bl (!decide (x=.AB))) H) ta tb) k:=⟨fun E σ F H Q S q=>
 h.go E σ F H _ S fun v p F1 H1 m1 r1 h2=>h2.go E σ F1 H1 _ m1.st fun v2 p2 F2 H2 m2 r2 ⟨e,kk⟩=>by
  subst e;cases r2;refine ⟨rfl,?_⟩;rw [r1.MD];exact q _ _ F2 H2 (m1.trans m2) (.bl _) kk⟩
variable {K:ZE6}{t u:TE}{pre:Pu}{tA:TA}
def nY (h:Wp ss te fun p=>∃ x,p=.str x/\x.length<=1000/\k (.bl (isNm x))):Wp ss (Ef VA [] E0 (Ap te BV)) k:=⟨fun E σ F H Q S q=>
 h.go E σ F H _ S fun v p F1 H1 m1 r ⟨x,e,hx,kk⟩=>by
  subst e;cases r;exact ⟨x,rfl,hx,fun H3 s=>q _ _ F1 H3 (m1.trans (m1.st.grow s)) (.bl _) kk⟩⟩
end
def X7 (K:ZE6):List V->Hp->VK->Prop:=fun xs H Q=>∃ p ys,xs=[.ref p]/\(AY K H p ys∨Aq K H p ys)/\∀ l,H l=none->Q (.ref l) (upd H l (.lst ys))
def gn {X:Cx}:CJ X (.type "list") (X7 X.K):=Nq
noncomputable def ET (xs ys:List PV):List PV:=List.zipWith (fun x y=>.tup [x,y]) xs ys
def RC (xs ys:List PV):(ET xs ys).length=min xs.length ys.length:=by unfold ET;rw [ZCz]
def Yp {xs ys:List PV}{x y:PV}(h:xs[i]?=some x)(h2:ys[i]?=some y):(ET xs ys)[i]?=some (.tup [x,y]):=by
 unfold ET;rw [List.getElem?_zipWith,h,h2]
def Dl (pre:Pre):Sp:=fun vs H Q _=>∃ (ss:List Slot) (R:As) (F:Hp) (A B:List Addr),pre ss R/\Sg ⟨A,F,H,B⟩ ss (vs.map some) F H/\∀ v F' H',Fin ⟨A,F,H,B⟩ F' H'->R.ok ⟨A,F,H,B⟩ F' H' v->Q v H'
inductive IU (F:Hp):List V->List Slot->Prop where
 | nil:IU F [] []
 | cons {v:V}{p:PV}{vs:List V}{l:List Slot}:Rep F v p->IU F vs l->IU F (v::vs) (.is p::l)
inductive IF (σ:L2.St) (F:Hp) (i:Nat) (t:OV):List V->List Slot->Prop where
 | here {v:V}{vs:List V}{l:List Slot}:σ[i]?=some (some v)->IU F vs l->IF σ F i t (v::vs) (.ow true t::l)
 | there {v:V}{p:PV}{vs:List V}{l:List Slot}:Rep F v p->IF σ F i t vs l->IF σ F i t (v::vs) (.is p::l)
theorem IU.len:∀ {vs:List V}{l:List Slot},IU F vs l->l.length=vs.length
 | _,_,.nil=>rfl
 | _,_,.cons _ t=>by rw [By,By,t.len]
theorem IF.len:∀ {vs:List V}{l:List Slot},IF σ F i t vs l->l.length=vs.length
 | _,_,.here _ r=>by rw [By,By,r.len]
 | _,_,.there _ h=>by rw [By,By,h.len]
theorem IU.at:∀ {vs:List V}{l:List Slot},IU F vs l->∀ {n:Nat}{s:Slot},l[n]?=some s->∃ v p,vs[n]?=some v/\s=.is p/\Rep F v p
 | _,_,.nil,_,_,e=>by simp at e
 | _,_,.cons r _,0,_,e=>by simp at e;subst e;exact ⟨_,_,rfl,rfl,r⟩
 | _,_,.cons _ t,n+1,s,e=>by
  obtain ⟨v,p,h⟩:=t.at (n:=n) (s:=s) (by simpa using e)
  exact ⟨v,p,by simpa using h⟩
theorem IF.at:∀ {vs:List V}{l:List Slot},IF σ F i t vs l->∃ m:Nat,∀ {n:Nat}{s:Slot},l[n]?=some s->(n=m/\s=.ow true t/\∃ v,vs[n]?=some v/\σ[i]?=some (some v))∨∃ v p,vs[n]?=some v/\s=.is p/\Rep F v p
 | _,_,.here e r=>⟨0,fun {n s} h=>by
  cases n with
  | zero=>simp at h;subst h;exact .inl ⟨rfl,rfl,_,rfl,e⟩
  | succ n=>
   obtain ⟨v,p,q⟩:=r.at (n:=n) (s:=s) (by simpa using h)
   exact .inr ⟨v,p,by simpa using q⟩⟩
 | _,_,.there r h=>by
  obtain ⟨m,hm⟩:=h.at;refine ⟨m+1,fun {n s} q=>?_⟩;cases n with
  | zero=>simp at q;subst q;exact .inr ⟨_,_,rfl,rfl,r⟩
  | succ n=>
   rcases hm (n:=n) (s:=s) (by simpa using q) with ⟨e,es,v,hv⟩ | ⟨v,p,hv⟩
   ·exact .inl ⟨by rw [e],es,v,by simpa using hv⟩
   ·exact .inr ⟨v,p,by simpa using hv⟩
structure Q3 (E:Ent0) (ss:List Slot) (σ:L2.St) (i:Nat) (lt:Bool) (t t':OV) (F H F' H':Hp):Prop where
 st:Sg E (ss.set i (.ow lt t')) σ F' H'
 ff:AV F F'
 hh:∀ a o,Ca ss σ a->a∉t.addrs->H a=some o->H' a=some o
 nn:∀ a o,F' a=some o->F a=some o∨H a=none
structure Nt [Xw] (ss:List Slot) (ta:TA) (k:List Slot->Prop):Prop where
 go:∀ (E:Ent) (σ:L2.St) (F H:Hp) (Q:List V->Hp->Prop),Sg E ss σ F H->(∀ vs l F' H',Mv E ss σ F H F' H'->IU F' vs l->k l->Q vs H')->ta σ H Q
structure R5 [Xw] (ss:List Slot) (i:Nat) (t:OV) (ta:TA) (k:List Slot->Prop):Prop where
 go:∀ (E:Ent) (σ:L2.St) (F H:Hp) (Q:List V->Hp->Prop),Sg E ss σ F H->(∀ vs l F' H',Mv E ss σ F H F' H'->IF σ F' i t vs l->k l->Q vs H')->ta σ H Q
structure Wm [Xw] (ss:List Slot) (i:Nat) (lt:Bool) (t:OV) (te:TE) (k:PV->OV->Prop):Prop where
 go:∀ (E:Ent) (σ:L2.St) (F H:Hp) (Q:VK),Sg E ss σ F H->(∀ v p t' F' H',Q3 E ss σ i lt t t' F H F' H'->Rep F' v p->k p t'->Q v H')->te σ H Q
def Sg.ZC {lt:Bool}(S:Sg E ss σ F H)(hi:ss[i]?=some (.ow lt t))(a:IF σ F i t vs l):Sg ⟨[],F,H,t.addrs⟩ l (vs.map some) F H:=by
 obtain ⟨v0,e0,r0,DH,q0⟩:=S.ok i _ hi;have nn:∀ {p:Prop}(a:Addr),a∈([]:List Addr)->p:=fun a h=>absurd h Aa;obtain ⟨m,hm⟩:=a.at;refine ⟨⟨S.fh,AV.refl _,fun _ _ _ e=>e,fun _ _ e=>.inl e,fun a h=>nn a h,fun a h=>nn a h,fun a h=>nn a h,fun a h=>(q0 a h).1,fun a h=>r0.there a h,fun a h=>⟨r0.there a h,Aa⟩⟩,by rw [AA];exact a.len,fun n s hn=>?_,fun n j s u b hnj hn hj ms mu=>?_⟩
 ·rcases hm hn with ⟨_,rfl,v,hv,ev⟩ | ⟨v,p,hv,rfl,r⟩
  ·rw [Ac,hv];rw [e0] at ev;cases ev;exact ⟨v0,rfl,r0,DH,fun a ha=>⟨(q0 a ha).1,.inr ⟨rfl,ha⟩⟩⟩
  ·rw [Ac,hv];exact ⟨v,rfl,r⟩
 ·rcases hm hn with ⟨e1,rfl,_⟩ | ⟨_,_,_,rfl,_⟩
  ·rcases hm hj with ⟨e2,rfl,_⟩ | ⟨_,_,_,rfl,_⟩
   ·exact hnj (e1.trans e2.symm)
   ·cases mu
  ·cases ms
def Sg.cO {lt:Bool}{Hb:NK}{Bt:List OV}(S:Sg E ss σ F H)(hi:ss[i]?=some (.ow lt (.nd nk a0 us)))(f:Fin ⟨[],F,H,(OV.nd nk a0 us).addrs⟩ F' H')(r:B8 F' H' (.ref a0) (.nd Hb a0 Bt))(nd:(OV.nd Hb a0 Bt).addrs.Nodup)(q:∀ a∈(OV.nd Hb a0 Bt).addrs,F' a=none/\(H a=none∨a∈(OV.nd nk a0 us).addrs)):
  Q3 E ss σ i lt (.nd nk a0 us) (.nd Hb a0 Bt) F H F' H':=by
 obtain ⟨v0,e0,r0,DH,q0⟩:=S.ok i _ hi;have ev:v0=.ref a0:=by cases r0;rfl
 subst ev;have AQ:i<ss.length:=(List.getElem?_eq_some_iff.mp hi).1;have kp:∀ a o,a∉(OV.nd nk a0 us).addrs->H a=some o->H' a=some o:=fun a o n e=>f.keep a o ⟨Aa,n⟩ e;have C5:∀ a,H a≠none->F a=none->F' a=none:=fun a h1 h2=>by
  cases e:F' a with
  | none=>rfl
  | some o=>
   rcases f.fresh a o e with z | z
   ·rw [show F a=some o from z] at h2;cases h2
   ·exact absurd z h1
 have nK:∀ a,a∈E.A->a∉(OV.nd nk a0 us).addrs:=fun a hA hm=>by
  rcases (q0 a hm).2 with z | ⟨_,z⟩
  ·exact S.a0 a hA z
  ·exact (S.b0 a z).2 hA
 have other:∀ (j:Nat) s,j≠i->ss[j]?=some s->∀ a,BW s σ[j]? a->a∉(OV.nd nk a0 us).addrs:=fun j s hj hs a ho hm=>S.CC j i s _ a hj hs hi ho hm;refine ⟨⟨⟨f.fh,S.f0.trans f.f0,fun a o hA e=>?_,fun a o e=>?_,fun a hA=>?_,fun a hA=>?_,S.a0,fun a hB=>?_,fun a hB=>?_,S.b0⟩,by rw [LL];exact S.len,fun j s hj=>?_,fun j k s u b Qs hj hk ms mu=>?_⟩,f.f0,fun a o _ n e=>kp a o n e,fun a o e=>f.fresh a o e⟩
 ·refine kp a o (fun hm=>?_) (S.keep a o hA e);rcases (q0 a hm).2 with z | ⟨_,z⟩
  ·rw [e] at z;cases z
  ·exact hA.2 z
 ·rcases f.fresh a o e with z | z
  ·exact S.fresh a o z
  ·exact .inr (S.DW z)
 ·exact Bj.keep (S.HJ a hA) fun o e=>kp a o (nK a hA) e
 ·obtain ⟨_,_,e1,_⟩:=S.HJ a hA;exact C5 a (by rw [e1];simp) (S.OW a hA)
 ·exact C5 a (S.bH a hB) (S.bF a hB)
 ·by_cases hm:a∈(OV.nd nk a0 us).addrs
  ·exact f.bH a hm
  ·intro z;cases e:H a with
   | none=>exact S.bH a hB e
   | some o=>rw [kp a o hm e] at z;cases z
 ·by_cases c:j=i
  ·subst c;rw [Ds AQ] at hj;cases hj;refine ⟨.ref a0,e0,r,nd,fun a ha=>⟨(q a ha).1,?_⟩⟩;rcases (q a ha).2 with z | z
   ·exact .inl (S.DW z)
   ·exact (q0 a z).2
  ·rw [DL (Bs c)] at hj
   by_cases np:s=.AS
   ·subst np;obtain ⟨l,e,fl,hl,pt⟩:=S.ok j _ hj;obtain ⟨_,_,e1,_⟩:=id pt;exact ⟨l,e,C5 l (by rw [e1];simp) fl,hl,Bj.keep pt fun o z=>kp l o (other j _ c hj l e) z⟩
   ·exact Ok.go S hj f.f0 (fun a o ho e=>kp a o (other j s c hj a ho) e) C5 np
 ·have at_:∀ (n:Nat) s,(ss.set i (.ow lt (.nd Hb a0 Bt)))[n]?=some s->(n=i/\s=.ow lt (.nd Hb a0 Bt))∨(n≠i/\ss[n]?=some s):=fun n s hn=>by
   by_cases c:n=i
   ·subst c;rw [Ds AQ] at hn;exact .inl ⟨rfl,(Bc hn).symm⟩
   ·rw [DL (Bs c)] at hn;exact .inr ⟨c,hn⟩
  have bq:∀ (n:Nat) s,n≠i->ss[n]?=some s->BW s σ[n]? b->b∉(OV.nd Hb a0 Bt).addrs:=fun n s hn hs ho hm=>by
   rcases (q b hm).2 with z | z
   ·exact S.Dw hs ho z
   ·exact other n s hn hs b ho z
  rcases at_ j s hj with ⟨e1,rfl⟩ | ⟨n1,h1⟩
  ·rcases at_ k u hk with ⟨e2,rfl⟩ | ⟨n2,h2⟩
   ·exact Qs (e1.trans e2.symm)
   ·exact bq k u n2 h2 mu ms
  ·rcases at_ k u hk with ⟨e2,rfl⟩ | ⟨n2,h2⟩
   ·exact bq j s n1 h1 ms mu
   ·exact S.CC j k s u b Qs h1 h2 ms mu
section
variable [Xw]
variable {ta:TA}{lt:Bool}{nx:List Slot->Prop}{R:As}
def Nr {k:List Slot->Prop}(h:k []):Nt ss BV k:=⟨fun E σ F H Q S q=>q [] [] F H (Mv.refl S) .nil h⟩
def sj {k:List Slot->Prop}(h:Wp ss te fun p=>Nt ss ta fun l=>k (.is p::l)):Nt ss (Ap te ta) k:=⟨fun E σ F H Q S q=>
 h.go E σ F H _ S fun v p F1 H1 m1 r h2=>h2.go E σ F1 H1 _ m1.st fun vs l F2 H2 m2 a kk=>q _ _ F2 H2 (m1.trans m2) (.cons (r.mono m2.ff) a) kk⟩
def Pn {k:List Slot->Prop}(hi:ss[i]?=some (.ow lt t))(h:Nt ss ta fun l=>k (.ow true t::l)):R5 ss i t (Ap (BI i) ta) k:=⟨fun E σ F H Q S q=>by
 obtain ⟨v0,e0,_⟩:=S.ok i _ hi;exact ⟨_,e0,h.go E σ F H _ S fun vs l F2 H2 m2 a kk=>q _ _ F2 H2 m2 (.here e0 a) kk⟩⟩
def G7 {k:List Slot->Prop}(h:Wp ss te fun p=>R5 ss i t ta fun l=>k (.is p::l)):R5 ss i t (Ap te ta) k:=⟨fun E σ F H Q S q=>
 h.go E σ F H _ S fun v p F1 H1 m1 r h2=>h2.go E σ F1 H1 _ m1.st fun vs l F2 H2 m2 a kk=>q _ _ F2 H2 (m1.trans m2) (.there (r.mono m2.ff) a) kk⟩
def Mv.sH {F1 H1 F2 H2:Hp}(hi:ss[i]?=some (.ow lt t))(a:Mv E ss σ F H F1 H1)(b:Q3 E ss σ i lt t t' F1 H1 F2 H2):Q3 E ss σ i lt t t' F H F2 H2:=
 ⟨b.st,a.ff.trans b.ff,fun c o n z e=>b.hh c o n z (a.hh c o n e),fun c o e=>(b.nn c o e).elim (fun e=>a.nn c o e) fun e=>.inr (a.none e)⟩
def QD {k:PV->OV->Prop}(hi:ss[i]?=some (.ow lt (.nd nk a0 us)))(h:R5 ss i (.nd nk a0 us) ta fun l=>∃ k',pre l (.mt k')/\∀ p t',k' p t'->∃ Hb Bt,t'=.nd Hb a0 Bt/\k p t'):Wm ss i lt (.nd nk a0 us) (Ef (Dl pre) [] E0 ta) k:=⟨fun E σ F H Q S q=>
 h.go E σ F H _ S fun vs l F1 H1 m1 a ⟨k',hp,kk⟩=>by
  rw [Df];refine ⟨l,.mt k',F1,[],(OV.nd nk a0 us).addrs,hp,m1.st.ZC hi a,fun v F' H' f ⟨p,t',r,ro,nd,qa,kp⟩=>?_⟩;obtain ⟨Hb,Bt,rfl,k2⟩:=kk p t' kp;exact q v p _ F' H' (m1.sH hi (m1.st.cO hi f ro nd qa)) r k2⟩
def ZR (h:Wm ss i lt t te fun _ t'=>nx (ss.set i (.ow lt t'))):Ws ss (HQ te) nx R:=⟨fun E D σ F H S hn hr=>
 h.go E σ F H _ S fun v p t' F1 H1 m1 r kk=>hn _ σ F1 H1 kk m1.st m1.ff⟩
def Z4 (h:Wm ss i lt t te fun p t'=>nx ((ss.set i (.ow lt t')).set j (.is p))):Ws ss (EE te (CO j)) nx R:=⟨fun E D σ F H S hn hr=>
 h.go E σ F H _ S fun v p t' F1 H1 m1 r kk=>hn _ _ F1 H1 kk (m1.st.Fp r) m1.ff⟩
def QQ {k:PV->OV->Prop}(hi:ss[i]?=some (.ow lt (.nd nk a0 us)))(h:Wp ss te fun p=>k p (.nd nk a0 us)):Ws ss (J6 te) nx (.mt k):=⟨fun E D σ F H S hn hr=>
 h.go E σ F H _ S fun v p F1 H1 m1 r kk=>by
  obtain ⟨v0,e0,r0,DH,q0⟩:=m1.st.ok i _ hi;have ev:v0=.ref a0:=by cases r0;rfl
  subst ev;exact hr v F1 H1 m1.st.toFin ⟨p,.nd nk a0 us,r,r0,DH,fun a ha=>⟨(q0 a ha).1,(q0 a ha).2.imp id fun z=>z.2⟩,kk⟩⟩
end
def uM {t:TS}(h:Dl pre vs H Q X)(hl:∀ ss R,pre ss R->ss.length=n)
  (hw:∀ ss R,pre ss R->Ws (ss++List.replicate (N.length - n) .any) t (fun _=>False) R):t { nx:=fun _ H'=>Q .AB H',rt:=Q } (L2.start N vs) H:=by
 obtain ⟨ss,R,F,A,B,hp,S,q⟩:=h;have e:vs.length=n:=by have:=S.len;rw [AA] at this;rw [<- this];exact hl ss R hp
 unfold L2.start;rw [e];exact (hw ss R hp).go (Ou ⟨A,F,H,B⟩) _ _ F H (S.grown _) (fun A9 σ' F' H' z S' _=>z.elim) fun v F' H' f ok=>q v F' H' f ok
def WI (hl:∀ ss R,pre ss R->ss.length=n)(h:Dl pre vs H Q X):vs.length=n:=by
 obtain ⟨ss,R,F,A,B,hp,S,q⟩:=h;have:=S.len;rw [AA] at this;rw [<- this];exact hl ss R hp
end Fz
namespace L2
section
variable {X:Cx}{o i value:Expr}{td ty tv:TE}{pos pos':Pos}
def JX (hu:X.A.units+1<cLine)(ho:QE X o td)(hi:QE X i ty)(hs:TF i):QE X (.Subscript o i pos) (U2 td ty):=⟨by
 have ho:=ho.h;have hi:=hi.h;intro pins s σ H Q I h;refine ZBt PySem.F.slot_dict_getitem.lookup hs (AL (ho pins s σ H _ I h) fun u s1 ⟨x,H1,I1,rx,q1⟩=>AL (hi pins s1 σ H1 _ I1 q1) fun iv s2 ⟨y,H2,I2,ry,a,v,ex,g,q2⟩=>?_);subst ex;obtain rfl:u=Value.ref a:=rx;exact ⟨sQ I2 g,zl hu I2 g ry fun w' s3 I3 Gd=>⟨v,H2,I3,Gd,q2⟩⟩⟩
def Nj (hu:X.A.units+1<cLine)(ho:QE X o td)(hi:QE X i ty)(hv:QE X value tv)(hs:swapsWith value (some (.Subscript o i pos')) pos.line X.env=pure false:=by rfl):
  QS X (.Assign [.Subscript o i pos'] value pos) (TV td ty tv):=⟨by
 have ho:=ho.h;have hi:=hi.h;have hv:=hv.h;intro pins s σ H D I h;refine wpAny_Assign_Subscript (AL (hv pins s σ H _ I h) fun r s1 ⟨v,H1,I1,rv,q1⟩=>AL (ho pins s1 σ H1 _ I1 q1) fun u s2 ⟨x,H2,I2,rx,q2⟩=>AL (hi pins s2 σ H2 _ I2 q2) fun iv s3 ⟨y,H3,I3,ry,a,H4,ex,g,q3⟩=>?_) hs;subst ex;obtain rfl:u=Value.ref a:=rx;exact yp hu I3 g ry rv fun s4 I4=>⟨σ,H4,I4,q3⟩⟩
def Ob:QE X (.Dict [] [] pos) Uy:=⟨fun pins s σ H Q I h=>
 wpAny_Dict_empty ⟨.ref s.heap.objs.size,_,I.laid (a:=s.heap.objs.size) (o:=.dK []) (t':=s.toks) (fun _ _ q=>BQ _ q) (Ai _) (Zv s.heap I.big),rfl,h _ (I.AK.fresh (Ai _))⟩⟩
end
end L2
namespace Fz
open L2 Lw
variable {F F0 H H0:Hp}{ss:List Slot}{ta td tv ty:TE}{nx:List Slot->Prop}{R:As}{i:Nat}{ks:List Key}{Bh vs:List V}{t u w:OV}{C a dx:Addr}{Bt us:List OV}{E:Ent0}{σ:L2.St}{m p:List Nat}{f:Str}{ns:List Str}
noncomputable def IQ:Key->PV
 | .inl i=>.int i
 | .inr x=>.str x
noncomputable def HA:List Key->List PV->Key->Option PV
 | k'::ks,x::xs,k=>if k'=k then some x else HA ks xs k
 | _,_,_=>none
noncomputable def Fy (ks:List Key)(k:Key):Bool:=ks.any fun k'=>decide (k'=k)
noncomputable def KD (ks:List Key)(k:Key):List Key:=if Fy ks k=true then ks else ks++[k]
def OL {v:V}{k:Key}(r:Rep F v (IQ k)):v=kV k:=by
 cases k with
 | inl i=>cases r;rfl
 | inr x=>cases r;rfl
theorem eI {F:Hp}{k:Key}{y:PV}:∀ {ks:List Key}{vs:List V}{xs:List PV},AJ F vs xs->ks.length=vs.length->HA ks xs k=some y->∃ v,EA (ks.zip vs) k=some v/\Rep F v y
 | [],_,_,_,_,h=>by rw [HA] at h;cases h;all_goals simp
 | k'::ks,v::vs,x::xs,.cons r t,hl,h=>by
  rw [HA] at h;rw [Jr]
  by_cases c:k'=k
  ·rw [mZ c] at h;cases h;exact ⟨v,PZ c,r⟩
  ·rw [k6 c] at h;obtain ⟨w,h1,h2⟩:=eI t (by simpa using hl) h
   exact ⟨w,by rw [Ri c];exact h1,h2⟩
 | k'::ks,[],xs,_,hl,_=>by simp at hl
section
variable [Xw]
variable {k:PV->Prop}{lt:Bool}
def J9 (h:Wp ss td fun p=>∃ ks xs,p=.B7 ks xs/\Wp ss ty fun q=>∃ key y,q=IQ key/\HA ks xs key=some y/\k y):Wp ss (U2 td ty) k:=⟨fun E σ F H Q S q=>
 h.go E σ F H _ S fun v p F1 H1 m1 r1 ⟨ks,xs,e,h2⟩=>h2.go E σ F1 H1 _ m1.st fun v2 p2 F2 H2 m2 r2 ⟨key,y,e2,hy,kk⟩=>by
  subst e;subst e2;have Jv:=r1.mono m2.ff;cases Jv with
  | B7 ef hl rr=>
   obtain ⟨w,hw,rw_⟩:=eI rr hl hy;refine ⟨_,w,rfl,?_,q w y F2 H2 (m1.trans m2) rw_ kk⟩;rw [<- hw,OL r2];exact FR.k (m2.st.fh _ _ ef)⟩
def Nc {k:List Nat->OV->Prop}(h:∀ a,k [] (.nd (.B7 []) a (([]:List PV).map .fz))):Wx ss Uy k:=⟨fun E σ F H Q S q p hp=>by
 have m:=S.make hp (.dK []);refine q _ [] (.nd (.B7 []) p (([]:List PV).map .fz)) F _ m (.nd (k:=.B7 []) (vs:=[]) B0 trivial rfl .nil) (by rw [OV.DJ];simp [NK.more,OV.Fd]) (fun a ha=>?_) (h p);rw [OV.DJ] at ha;have e:a=p:=by simpa [NK.more,OV.Fd] using ha
 subst e;exact ⟨S.C5 hp,S.DW hp,.inr hp⟩⟩
theorem VE:∀ {ks:List Key}{vs:List V}{key:Key},ks.length=vs.length->(ks.zip vs).any (fun kv=>decide (kv.1=key))=Fy ks key
 | [],vs,key,h=>rfl
 | k'::ks,w::vs,key,h=>by
  rw [Jr,Mg,VE (by simpa using h)]
  rfl
 | _::_,[],_,h=>by simp at h
noncomputable def GV:List Key->List V->Key->V->List V
 | k'::ks,x::xs,k,p=>(if k'=k then p else x)::GV ks xs k p
 | _,xs,_,_=>xs
theorem Zw:∀ {ks:List Key}{vs:List V}{key:Key}{v:V},(ks.zip vs).map (fun kv=>if kv.1=key then (kv.1,v) else kv)=ks.zip (GV ks vs key v)
 | [],vs,key,v=>by simp
 | k'::ks,w::vs,key,v=>by
  rw [Jr,BL,Zw,GV,Jr]
  by_cases c:k'=key
  ·rw [mZ c,mZ c]
  ·rw [k6 c,k6 c]
 | _::_,[],_,_=>by simp [GV]
end
noncomputable def FJ:List Key->Key->Option Nat
 | [],_=>none
 | k'::ks,k=>if k'=k then some 0 else (FJ ks k).map (· + 1)
theorem fO:∀ {ks:List Key}{key:Key}{n:Nat},FJ ks key=some n->ks[n]?=some key
 | [],_,_,h=>by cases h
 | k'::ks,key,n,h=>by
  rw [FJ] at h
  by_cases c:k'=key
  ·rw [mZ c] at h;cases h;subst c;rfl
  ·rw [k6 c] at h;cases e:FJ ks key with
   | none=>rw [e] at h;cases h
   | some m=>rw [e] at h;cases h;exact fO (ks:=ks) e
theorem V3:∀ {ks:List Key}{key:Key},(FJ ks key).isSome=Fy ks key
 | [],_=>rfl
 | k'::ks,key=>by
  rw [FJ];unfold Fy;rw [Mg]
  by_cases c:k'=key
  ·rw [mZ c,jy c];rfl
  ·rw [k6 c,nZ c,YK,Yh,V3];rfl
def Xn {key:Key}(hl:ks.length=vs.length):(EA (ks.zip vs) key).isSome=Fy ks key:=by
 rw [<- RZ,VE hl]
theorem iN:∀ {ks:List Key}{vs:List V}{key:Key}{n:Nat}{v:V},ks.Nodup->FJ ks key=some n->GV ks vs key v=vs.set n v
 | [],_,_,_,_,_,h=>by cases h
 | k'::ks,[],key,n,v,_,h=>by rw [GV];simp;simp
 | k'::ks,w::vs,key,n,v,nd,h=>by
  rw [FJ] at h;obtain ⟨n1,n2⟩:=List.nodup_cons.mp nd;rw [GV]
  by_cases c:k'=key
  ·rw [mZ c] at h;cases h;rw [mZ c,YZ]
   congr 1
   subst c;have aux:∀ {ks:List Key}{vs:List V},k'∉ks->GV ks vs k' v=vs:=by
    intro ks
    induction ks with
    | nil=>intro vs _;rw [GV];simp
    | cons k2 ks ih=>
     intro vs hn;cases vs with
     | nil=>rw [GV];simp
     | cons u vs=>
      rw [GV,k6 (fun z=>hn (by rw [z];simp)),ih (fun z=>hn (by simp [z]))]
   exact aux n1
  ·rw [k6 c] at h;cases e:FJ ks key with
   | none=>rw [e] at h;cases h
   | some m=>
    rw [e] at h;cases h;rw [k6 c,SQ,iN n2 e]
section
variable [Xw]
variable {k:PV->Prop}
def e6 (h:Wp ss ty fun q=>Wl ss i t td fun _ u=>∃ ks a us key,u=.nd (.B7 ks) a us/\q=IQ key/\k (.bl (Fy ks key))):Wp ss (OP ty td) k:=⟨fun E σ F H Q S q=>
 h.go E σ F H _ S fun v p F1 H1 m1 r1 h2=>h2.go E σ F1 H1 _ m1.st fun v2 p2 u F2 H2 m2 r2 CN ⟨ks,a,us,key,eu,eq,kk⟩=>by
  subst eu;subst eq;cases r2 with
  | @nd _ _ vs _ ha sd ft rr=>
   refine ⟨a,EA (ks.zip vs) key,rfl,by rw [OL r1];exact FR.k ha,?_⟩;rw [Xn ft];exact q _ _ F2 H2 (m1.trans m2) (.bl _) kk⟩
def VW (h:Wp ss ty fun q=>Wp ss td fun u=>∃ ks xs key,u=.B7 ks xs/\q=IQ key/\k (.bl (Fy ks key))):Wp ss (OP ty td) k:=⟨fun E σ F H Q S q=>
 h.go E σ F H _ S fun v p F1 H1 m1 r1 h2=>h2.go E σ F1 H1 _ m1.st fun v2 u F2 H2 m2 r2 ⟨ks,xs,key,eu,eq,kk⟩=>by
  subst eu;subst eq;cases r2 with
  | @B7 a _ vs _ ef hl rr=>
   refine ⟨a,EA (ks.zip vs) key,rfl,by rw [OL r1];exact FR.k (m2.st.fh _ _ ef),?_⟩;rw [Xn hl];exact q _ _ F2 H2 (m1.trans m2) (.bl _) kk⟩
def wc (h:Wp ss ty fun q=>Wp ss td fun u=>∃ ks xs key,u=.B7 ks xs/\q=IQ key/\k (.bl (!Fy ks key))):Wp ss (Um ty td) k:=⟨fun E σ F H Q S q=>
 h.go E σ F H _ S fun v p F1 H1 m1 r1 h2=>h2.go E σ F1 H1 _ m1.st fun v2 u F2 H2 m2 r2 ⟨ks,xs,key,eu,eq,kk⟩=>by
  subst eu;subst eq;cases r2 with
  | @B7 a _ vs _ ef hl rr=>
   refine ⟨a,EA (ks.zip vs) key,rfl,by rw [OL r1];exact FR.k (m2.st.fh _ _ ef),?_⟩;rw [Xn hl];exact q _ _ F2 H2 (m1.trans m2) (.bl _) kk⟩
def MW:(OV.nd (.B7 ks) a us).addrs=a::OV.Ag us:=by rw [OV.DJ];rfl
def gO {lt:Bool}:∀ (m:List Nat) (ss:List Slot),ss[i]?=some (.ow lt t)->i∉m->(Fz.DY m ss)[i]?=some (.ow lt t):=by
 intro m
 induction m with
 | nil=>intro ss h _;exact h
 | cons j m ih=>
  intro ss h hm;refine ih _ ?_ fun z=>hm (by simp [z]);rw [DL (by rintro rfl;exact hm (by simp))];exact h
def Sg.vE {lt:Bool}{Qi:List Key}(S0:Sg E ss σ F0 H0)(S:Sg E ss σ F H)(hi:ss[i]?=some (.ow lt t))(CN:t.at p=some (.nd (.B7 ks) a us))
  (hu:∀ a∈u.addrs,F a=none/\E.H0 a=none/\((∃ i∈m,∃ s,s≠Slot.AS/\ss[i]?=some s/\BW s σ[i]? a)∨H0 a=none)) (EL:i∉m)
  (hr:BB F H Bh Bt) (hl:Qi.length=Bh.length) (O1:(OV.Ag Bt).Nodup) (G4:∀ b∈OV.Ag Bt,b∈OV.Ag us∨b∈u.addrs):Sg E ((Fz.DY m ss).set i (.ow lt (t.put p (.nd (.B7 Qi) a Bt)))) σ F (upd H a (.dK (Qi.zip Bh))):=by
 have CV:=gO m ss hi EL;obtain ⟨v,e,r,nd,q⟩:=S.ok i _ hi;have ut:∀ b,b∈a::OV.Ag us->b∈t.addrs:=fun b hb=>OV.KQ CN b (by rw [MW];exact hb);have M4:∀ b∈u.addrs,b∉t.addrs:=fun b hb z=>by
  rcases (hu b hb).2.2 with ⟨j,hj,s,_,hs,o⟩ | w
  ·exact S.CC j i s _ b (by rintro rfl;exact EL hj) hs hi o z
  ·exact S0.Dw hi z w
 have Dx:(OV.nd (.B7 ks) a us).addrs.Nodup:=by
  obtain ⟨l,rr,e1,_⟩:=OV.split CN;rw [e1,Cs,Cs] at nd;exact nd.1.2.1
 rw [MW] at Dx;have na:∀ b∈OV.Ag Bt,b≠a:=fun b hb z=>by
  subst z;rcases G4 b hb with w | w
  ·exact (List.nodup_cons.mp Dx).1 w
  ·exact M4 b w (ut b (by simp))
 refine (S.DY m).Vu CV CN (.nd (k:=.B7 Qi) B0 trivial hl (hr.mono (AV.refl _) fun b hb o ho=>by rw [An (na b hb)];exact ho)) (by rw [MW];exact List.nodup_cons.mpr ⟨fun z=>na a z rfl,O1⟩) fun b hb=>?_;rw [MW] at hb ⊢;rcases List.mem_cons.mp hb with w | w
 ·exact .inl (by simp [w])
 ·rcases G4 b w with z | z
  ·exact .inl (by simp [z])
  ·refine .inr ⟨(hu b z).1,(hu b z).2.1,fun j s hs o=>?_⟩;rcases OT hs with y | ⟨Gq,hm⟩
   ·subst y;cases o
   ·rcases (hu b z).2.2 with ⟨i2,Cf,s2,_,Ce,o2⟩ | y
    ·exact S.CC j i2 s s2 b (by rintro rfl;exact hm Cf) Gq Ce o o2
    ·exact S0.Dw Gq o y
noncomputable def JZ (ks:List Key)(us:List OV)(key:Key)(w:OV):List OV:=match FJ ks key with
 | some n=>us.set n w
 | none=>us++[w]
def Oa (h:Wx ss tv fun m w=>Wl ss i t td fun p u=>∃ lt a ks us,ss[i]?=some (.ow lt t)/\u=.nd (.B7 ks) a us/\us.length<=99999/\ks.Nodup/\i∉m/\Wp ss ty fun q=>∃ key,q=IQ key/\nx ((Fz.DY m ss).set i (.ow lt (t.put p (.nd (.B7 (KD ks key)) a (JZ ks us key w)))))):Ws ss (TV td ty tv) nx R:=⟨fun E D σ F H S hn hr=>
 h.go E σ F H _ S fun v m w F1 H1 m1 r1 GU a1 h2=>h2.go E σ F1 H1 _ m1.st fun v2 p u F2 H2 m2 r2 CN ⟨lt,a,ks,us,hi,eu,hz,hk,EL,h3⟩=>h3.go E σ F2 H2 _ m2.st fun v3 q F3 H3 m3 r3 ⟨key,eq,kk⟩=>by
  subst eu;subst eq;have ev:v2=.ref a:=by cases r2;rfl
  subst ev;have Jg:=m2.trans m3;have np:∀ b∈w.addrs,Ca ss σ b:=fun b hb k hk ek=>by
   rcases (a1 b hb).2.2 with ⟨j,hj,s,hs,Ip,o⟩ | z
   ·exact S.CC j k s _ b (fun e=>by subst e;rw [Ip] at hk;exact hs (Bc hk)) Ip hk o ek
   ·exact S.Dw hk ek z
  have Jv:B8 F3 H3 v w:=r1.mono Jg.ff fun b hb o e=>Jg.hh b o (np b hb) e;have O5:∀ b∈w.addrs,F3 b=none/\E.H0 b=none/\((∃ i∈m,∃ s,s≠Slot.AS/\ss[i]?=some s/\BW s σ[i]? b)∨H b=none):=fun b hb=>by
   refine ⟨?_,(a1 b hb).2⟩;cases e:F3 b with
   | none=>rfl
   | some o=>
    rcases Jg.nn b o e with z | z
    ·rw [(a1 b hb).1] at z;cases z
    ·exact absurd z (r1.there b hb)
  have r4:=r2.mv m2.st ⟨lt,hi⟩ CN m3;cases r4 with
  | @nd _ _ vs _ ha sd ft rr=>
   have MZ:ks.length=vs.length:=ft;have vl:=rr.length;have WQ:(ks.zip vs).length<=99999:=by rw [SM];omega
   refine ⟨a,_,rfl,by rw [OL r3];exact OO.k ha (Jc WQ),?_⟩;obtain ⟨v0,e0,r0,DH,q0⟩:=m3.st.ok i _ hi;have Dx:(OV.nd (.B7 ks) a us).addrs.Nodup:=by
    obtain ⟨l,rr,e1,_⟩:=OV.split CN;rw [e1,Cs,Cs] at DH;exact DH.1.2.1
   rw [MW] at Dx;have apart:∀ b∈w.addrs,b∉OV.Ag us:=fun b hb z=>by
    have bt:b∈t.addrs:=OV.KQ CN b (by rw [MW];simp [z]);rcases (a1 b hb).2.2 with ⟨j,hj,s,_,hs,o⟩ | y
    ·exact S.CC j i s _ b (by rintro rfl;exact EL hj) hs hi o bt
    ·exact S.Dw hi bt y
   obtain ⟨Bh,ep,Xt,MQ,FD,sb⟩:∃ Bh:List V,putK (ks.zip vs) key v=(KD ks key).zip Bh/\(KD ks key).length=Bh.length/\BB F3 H3 Bh (JZ ks us key w)/\(OV.Ag (JZ ks us key w)).Nodup/\∀ b∈OV.Ag (JZ ks us key w),b∈OV.Ag us∨b∈w.addrs:=by
    unfold putK KD JZ;rw [VE MZ];cases e:FJ ks key with
    | some n=>
     have c:Fy ks key=true:=by rw [<- V3,e];rfl
     have XM:n<us.length:=by
      have:=(List.getElem?_eq_some_iff.mp (fO e)).1;omega
     obtain ⟨l,r,e1,e2⟩:=Jb (AX XM);rw [mZ c,mZ c,Zw,iN hk e];refine ⟨vs.set n v,rfl,by rw [LL];exact MZ,rr.set n Jv,?_,fun b hb=>?_⟩
     ·show (OV.Ag (us.set n w)).Nodup;rw [e2];have n1:=(List.nodup_cons.mp Dx).2;rw [e1] at n1;exact TZ n1 GU fun b hb=>.inr (by rw [<- e1];exact apart b hb)
     ·have C4:b∈OV.Ag (us.set n w):=hb;rw [e2] at C4;rcases List.mem_append.mp C4 with z | z
      ·rcases List.mem_append.mp z with z | z
       ·exact .inl (by rw [e1];simp [z])
       ·exact .inr z
      ·exact .inl (by rw [e1];simp [z])
    | none=>
     have c:¬ Fy ks key=true:=by rw [<- V3,e];decide
     rw [k6 c,k6 c];refine ⟨vs++[v],by rw [List.zip_append MZ];rfl,by rw [B2,B2,MZ];rfl,rr.append (.one Jv),?_,fun b hb=>?_⟩
     ·show (OV.Ag (us++[w])).Nodup;rw [JQ,Kr,Cs];exact ⟨(List.nodup_cons.mp Dx).2,GU,fun x hx y hy e=>apart y hy (e▸hx)⟩
     ·have C4:b∈OV.Ag (us++[w]):=hb;rw [JQ,Kr] at C4;exact List.mem_append.mp C4
   rw [ep];exact hn _ σ F3 _ kk (Sg.vE (u:=w) S m3.st hi CN O5 EL MQ Xt FD sb) (m1.ff.trans Jg.ff)⟩
end
noncomputable def Dd:List Str->Str->Option Nat
 | [],_=>none
 | g::ns,f=>if g=f then some 0 else (Dd ns f).map (· + 1)
noncomputable def OB (ns:List Str)(f:Str):List Str:=match Dd ns f with
 | some _=>ns
 | none=>ns++[f]
noncomputable def NH (ns:List Str)(us:List OV)(f:Str)(w:OV):List OV:=match Dd ns f with
 | some n=>us.set n w
 | none=>us++[w]
noncomputable def Lu (ns:List Str)(vs:List V)(f:Str)(w:V):List V:=match Dd ns f with
 | some n=>vs.set n w
 | none=>vs++[w]
theorem gU:∀ {ns:List Str}{f:Str}{n:Nat},Dd ns f=some n->n<ns.length
 | [],_,_,h=>by cases h
 | g::ns,f,n,h=>by
  rw [Dd] at h
  by_cases c:g=f
  ·rw [mZ c] at h;cases h;exact Nat.succ_pos _
  ·rw [k6 c] at h;cases e:Dd ns f with
   | none=>rw [e] at h;cases h
   | some m=>rw [e] at h;cases h;exact Nat.succ_lt_succ (gU e)
theorem TR:∀ {ns:List Str}{vs:List V}{f:Str}{n:Nat}{v:V},Dd ns f=some n->vs[n]?=some v->(ns.zip vs).lookup f=some v
 | [],_,_,_,_,h,_=>by cases h
 | g::ns,[],f,n,v,h,hv=>by simp at hv
 | g::ns,w::vs,f,n,v,h,hv=>by
  rw [Dd] at h;rw [Jr]
  by_cases c:g=f
  ·rw [mZ c] at h;cases h;simp at hv;subst c;rw [List.lookup_cons_self,hv]
  ·rw [k6 c] at h;cases e:Dd ns f with
   | none=>rw [e] at h;cases h
   | some m=>
    rw [e] at h;cases h;rw [HG];have:(f == g)=false:=by simpa using fun z=>c z.symm
    rw [this];exact TR e (by simpa using hv)
theorem e9:∀ {ns:List Str}{vs:List V}{f:Str}{v:V},ns.length=vs.length->DN f v (ns.zip vs)=(OB ns f).zip (Lu ns vs f v)/\(OB ns f).length=(Lu ns vs f v).length
 | [],[],f,v,_=>by simp [DN,OB,Lu,Dd]
 | [],_::_,_,_,h=>by simp at h
 | _::_,[],_,_,h=>by simp at h
 | g::ns,w::vs,f,v,h=>by
  obtain ⟨i1,i2⟩:=e9 (ns:=ns) (vs:=vs) (f:=f) (v:=v) (by simpa using h)
  rw [Jr];rw [show DN f v ((g,w)::ns.zip vs)=(if g=f then (g,v)::ns.zip vs else (g,w)::DN f v (ns.zip vs)) from rfl]
  unfold OB Lu at i1 i2 ⊢;rw [Dd]
  by_cases c:g=f
  ·rw [mZ c,mZ c];exact ⟨by simp,by simpa using h⟩
  ·rw [k6 c,k6 c,i1];cases e:Dd ns f with
   | none=>rw [e] at i2;exact ⟨by simp,by simpa using i2⟩
   | some m=>rw [e] at i2;exact ⟨by simp,by simpa using i2⟩
section
variable [Xw]
variable {k:PV->Prop}{K:ZE6}
def fL {k:List Nat->OV->Prop}(h:Wl ss i t ta fun p u=>∃ C dx ns a us n w,u=.nd (.obj C dx ns) a us/\Dy K C/\FY K C f/\Dd ns f=some n/\us[n]?=some w/\k (p++[n]) w):Wl ss i t (QJ K ta f) k:=⟨h.hi,fun E σ F H Q S q=>
 h.go E σ F H _ S fun v p u F1 H1 m1 r1 h1 ⟨C,dx,ns,a,us,n,w,eu,hc,hn,hx,hw,kk⟩=>by
  subst eu;cases r1 with
  | @nd _ _ vs _ ha sd ft rr=>
   obtain ⟨x,IW,rx⟩:=rr.get hw;exact ⟨a,C,dx,ns.zip vs,x,rfl,ha,hc,hn,TR hx IW,q x (p++[n]) w F1 H1 m1 rx (OV.X1 h1 (by rw [OV.Lh,hw];exact OV.MM)) kk⟩⟩
def LC:(OV.nd (.obj C dx ns) a us).addrs=a::dx::OV.Ag us:=by rw [OV.DJ];rfl
def Sg.qU {lt:Bool}{Jt:List Str}(S0:Sg E ss σ F0 H0)(S:Sg E ss σ F H)(hi:ss[i]?=some (.ow lt t))(CN:t.at p=some (.nd (.obj C dx ns) a us))(NC:H dx=some (.own a))
  (hu:∀ a∈u.addrs,F a=none/\E.H0 a=none/\((∃ i∈m,∃ s,s≠Slot.AS/\ss[i]?=some s/\BW s σ[i]? a)∨H0 a=none)) (EL:i∉m)
  (hr:BB F H Bh Bt) (hl:Jt.length=Bh.length) (O1:(OV.Ag Bt).Nodup) (G4:∀ b∈OV.Ag Bt,b∈OV.Ag us∨b∈u.addrs):Sg E ((Fz.DY m ss).set i (.ow lt (t.put p (.nd (.obj C dx Jt) a Bt)))) σ F (upd H a (.ins C dx (Jt.zip Bh))):=by
 have CV:=gO m ss hi EL;obtain ⟨v,e,r,nd,q⟩:=S.ok i _ hi;have ut:∀ b,b∈a::dx::OV.Ag us->b∈t.addrs:=fun b hb=>OV.KQ CN b (by rw [LC];exact hb);have M4:∀ b∈u.addrs,b∉t.addrs:=fun b hb z=>by
  rcases (hu b hb).2.2 with ⟨j,hj,s,_,hs,o⟩ | w
  ·exact S.CC j i s _ b (by rintro rfl;exact EL hj) hs hi o z
  ·exact S0.Dw hi z w
 have Dx:(OV.nd (.obj C dx ns) a us).addrs.Nodup:=by
  obtain ⟨l,rr,e1,_⟩:=OV.split CN;rw [e1,Cs,Cs] at nd;exact nd.1.2.1
 rw [LC] at Dx;obtain ⟨n1,n2⟩:=List.nodup_cons.mp Dx;obtain ⟨n3,n4⟩:=List.nodup_cons.mp n2;have na:∀ b∈OV.Ag Bt,b≠a:=fun b hb z=>by
  subst z;rcases G4 b hb with w | w
  ·exact n1 (by simp [w])
  ·exact M4 b w (ut b (by simp))
 have Pp:∀ b∈OV.Ag Bt,b≠dx:=fun b hb z=>by
  subst z;rcases G4 b hb with w | w
  ·exact n3 w
  ·exact M4 b w (ut b (by simp))
 have Yq:dx≠a:=fun z=>n1 (by simp [z]);refine (S.DY m).Vu CV CN (.nd (k:=.obj C dx Jt) B0 (show upd H a _ dx=some (.own a) by rw [An Yq];exact NC) hl (hr.mono (AV.refl _) fun b hb o ho=>by rw [An (na b hb)];exact ho)) (by
  rw [LC];exact List.nodup_cons.mpr ⟨fun z=>by
   rcases List.mem_cons.mp z with z | z
   ·exact Yq z.symm
   ·exact na a z rfl,List.nodup_cons.mpr ⟨fun z=>Pp dx z rfl,O1⟩⟩) fun b hb=>?_
 rw [LC] at hb ⊢;rcases List.mem_cons.mp hb with w | w
 ·exact .inl (by simp [w])
 ·rcases List.mem_cons.mp w with w | w
  ·exact .inl (by simp [w])
  ·rcases G4 b w with z | z
   ·exact .inl (by simp [z])
   ·refine .inr ⟨(hu b z).1,(hu b z).2.1,fun j s hs o=>?_⟩;rcases OT hs with y | ⟨Gq,hm⟩
    ·subst y;cases o
    ·rcases (hu b z).2.2 with ⟨i2,Cf,s2,_,Ce,o2⟩ | y
     ·exact S.CC j i2 s s2 b (by rintro rfl;exact hm Cf) Gq Ce o o2
     ·exact S0.Dw Gq o y
def l9 {F1 H1 F3 H3:Hp}{v:V}(S:Sg E ss σ F H)(Jg:Mv E ss σ F1 H1 F3 H3)(r1:B8 F1 H1 v w)(a1:∀ a∈w.addrs,F1 a=none/\E.H0 a=none/\((∃ i∈m,∃ s,s≠Slot.AS/\ss[i]?=some s/\BW s σ[i]? a)∨H a=none)):
  B8 F3 H3 v w/\∀ b∈w.addrs,F3 b=none/\E.H0 b=none/\((∃ i∈m,∃ s,s≠Slot.AS/\ss[i]?=some s/\BW s σ[i]? b)∨H b=none):=by
 have np:∀ b∈w.addrs,Ca ss σ b:=fun b hb k hk ek=>by
  rcases (a1 b hb).2.2 with ⟨j,hj,s,hs,Ip,o⟩ | z
  ·exact S.CC j k s _ b (fun e=>by subst e;rw [Ip] at hk;exact hs (Bc hk)) Ip hk o ek
  ·exact S.Dw hk ek z
 refine ⟨r1.mono Jg.ff fun b hb o e=>Jg.hh b o (np b hb) e,fun b hb=>⟨?_,(a1 b hb).2⟩⟩;cases e:F3 b with
 | none=>rfl
 | some o=>
  rcases Jg.nn b o e with z | z
  ·rw [(a1 b hb).1] at z;cases z
  ·exact absurd z (r1.there b hb)
def fw (h:Wx ss tv fun m w=>Wl ss i t ta fun p u=>∃ lt C dx ns a us,ss[i]?=some (.ow lt t)/\u=.nd (.obj C dx ns) a us/\Dy K C/\FY K C f/\ns.length<1000/\i∉m/\nx ((Fz.DY m ss).set i (.ow lt (t.put p (.nd (.obj C dx (OB ns f)) a (NH ns us f w)))))):Ws ss (Ue K ta tv f) nx R:=⟨fun E D σ F H S hn hr=>
 h.go E σ F H _ S fun v m w F1 H1 m1 r1 GU a1 h2=>h2.go E σ F1 H1 _ m1.st fun v2 p u F2 H2 m2 r2 CN ⟨lt,C,dx,ns,a,us,hi,eu,hc,hna,hz,EL,kk⟩=>by
  subst eu;have ev:v2=.ref a:=by cases r2;rfl
  subst ev;obtain ⟨Jv,O5⟩:=l9 S m2 r1 a1;cases r2 with
  | @nd _ _ vs _ ha sd ft rr=>
   have MZ:ns.length=vs.length:=ft;have vl:=rr.length;obtain ⟨ep,Xt⟩:=e9 (f:=f) (v:=v) MZ;refine ⟨a,C,dx,ns.zip vs,rfl,ha,hc,hna,by rw [SM];omega,?_⟩;obtain ⟨v0,e0,r0,DH,q0⟩:=m2.st.ok i _ hi;have Dx:(OV.nd (.obj C dx ns) a us).addrs.Nodup:=by
    obtain ⟨l,rr,e1,_⟩:=OV.split CN;rw [e1,Cs,Cs] at DH;exact DH.1.2.1
   rw [LC] at Dx;have Me:=(List.nodup_cons.mp (List.nodup_cons.mp Dx).2).2;have apart:∀ b∈w.addrs,b∉OV.Ag us:=fun b hb z=>by
    have bt:b∈t.addrs:=OV.KQ CN b (by rw [LC];simp [z]);rcases (a1 b hb).2.2 with ⟨j,hj,s,_,hs,o⟩ | y
    ·exact S.CC j i s _ b (by rintro rfl;exact EL hj) hs hi o bt
    ·exact S.Dw hi bt y
   obtain ⟨MQ,FD,sb⟩:BB F2 H2 (Lu ns vs f v) (NH ns us f w)/\(OV.Ag (NH ns us f w)).Nodup/\∀ b∈OV.Ag (NH ns us f w),b∈OV.Ag us∨b∈w.addrs:=by
    unfold Lu NH;cases e:Dd ns f with
    | some n=>
     have XM:n<us.length:=by have:=gU e;omega
     obtain ⟨l,r,e1,e2⟩:=Jb (AX XM);refine ⟨rr.set n Jv,?_,fun b hb=>?_⟩
     ·show (OV.Ag (us.set n w)).Nodup;rw [e2];rw [e1] at Me;exact TZ Me GU fun b hb=>.inr (by rw [<- e1];exact apart b hb)
     ·have C4:b∈OV.Ag (us.set n w):=hb;rw [e2] at C4;rcases List.mem_append.mp C4 with z | z
      ·rcases List.mem_append.mp z with z | z
       ·exact .inl (by rw [e1];simp [z])
       ·exact .inr z
      ·exact .inl (by rw [e1];simp [z])
    | none=>
     refine ⟨rr.append (.one Jv),?_,fun b hb=>?_⟩
     ·show (OV.Ag (us++[w])).Nodup;rw [JQ,Kr,Cs];exact ⟨Me,GU,fun x hx y hy e=>apart y hy (e▸hx)⟩
     ·have C4:b∈OV.Ag (us++[w]):=hb;rw [JQ,Kr] at C4;exact List.mem_append.mp C4
   rw [ep];exact hn _ σ F2 _ kk (Sg.qU (u:=w) S m2.st hi CN sd O5 EL MQ Xt FD sb) (m1.ff.trans m2.ff)⟩
end
theorem i8:∀ {ns:List Str}{vs:List V}{f:Str},Dd ns f=none->(ns.zip vs).lookup f=none
 | [],_,_,_=>by simp
 | g::ns,[],f,h=>by simp
 | g::ns,w::vs,f,h=>by
  rw [Dd] at h
  by_cases c:g=f
  ·rw [mZ c] at h;cases h
  ·rw [k6 c] at h;rw [Jr,HG];have:(f == g)=false:=by simpa using fun z=>c z.symm
   rw [this];refine i8 ?_;cases e:Dd ns f with
   | none=>rfl
   | some m=>rw [e] at h;cases h
section
variable [Xw]
variable {te:TE}{ta:TA}{lt:Bool}{K:ZE6}
def T6 {k:PV->Prop}(h:Wp ss te fun o=>∃ C ns xs n y,o=.obj C ns xs/\Dy K C/\FY K C f/\Dd ns f=some n/\xs[n]?=some y/\k y):Wp ss (QJ K te f) k:=⟨fun E σ F H Q S q=>
 h.go E σ F H _ S fun v o F1 H1 m1 ro ⟨C,ns,xs,n,y,eo,hc,hn,hx,hy,kk⟩=>by
  subst eo;cases ro with
  | @obj a _ dx _ M8 _ e1 e2 hl rr=>
   obtain ⟨u,hu,ru⟩:=rr.get hy;exact ⟨a,C,dx,ns.zip M8,u,rfl,m1.st.fh _ _ e1,hc,hn,TR hx hu,q u y F1 H1 m1 ru kk⟩⟩
def ZAb {pre:Pre}{k:List Nat->OV->Prop}(h:Nt ss ta fun l=>∀ x dx:Addr,∃ k',pre (.ow true (.nd (.obj C dx []) x [])::l) (.mt k')/\∀ p t',k' p t'->p=.AB/\∃ Jt Bt,t'=.nd (.obj C dx Jt) x Bt/\k [] t'):Wx ss (Vw C (Dl pre) [] E0 ta) k:=⟨fun E σ F H Q S q=>
 h.go E σ F H _ S fun vs l F1 H1 m1 al JA x dx hx NC B5=>by
  rw [Df];have M1:=m1.st.make NC (.own x);have Y0:upd H1 dx (.own x) x=none:=by rw [An (Bs B5)];exact hx
  have M2:=M1.st.make Y0 (.ins C dx []);have m2:=M1.trans M2;have up:∀ a o,H1 a=some o->upd (upd H1 dx (.own x)) x (.ins C dx []) a=some o:=fun a o e=>by
   rw [An (Dj e hx),An (Dj e NC)];exact e
  have dn:∀ a,upd (upd H1 dx (.own x)) x (.ins C dx []) a=none->H1 a=none:=fun a e=>by
   cases z:H1 a with
   | none=>rfl
   | some o=>rw [up a o z] at e;cases e
  have a0:(OV.nd (.obj C dx []) x []).addrs=[x,dx]:=by rw [LC,OV.Fd]
  have r0:B8 F1 (upd (upd H1 dx (.own x)) x (.ins C dx [])) (.ref x) (.nd (.obj C dx []) x []):=.nd (k:=.obj C dx []) (vs:=[]) B0 (show upd _ x _ dx=some (.own x) by rw [An B5];exact B0) rfl .nil;have f0:∀ a∈(OV.nd (.obj C dx []) x []).addrs,H1 a=none:=fun a ha=>by
   rw [a0] at ha;simp only [CL,Aa,pN] at ha;rcases ha with rfl | rfl
   ·exact hx
   ·exact NC
  have DH:(OV.nd (.obj C dx []) x []).addrs.Nodup:=by
   rw [a0];simp [Bs B5]
  have Sx:=Sg.fW (j:=ss.length) (m:=[]) (v:=.ref x) (u:=.nd (.obj C dx []) x []) (m1.st.grown 1) (m2.st.grown 1) r0 DH fun a ha=>⟨m1.st.C5 (f0 a ha),m1.st.DW (f0 a ha),.inr (f0 a ha)⟩;have hl:=m1.st.len;have hi:((ss++List.replicate 1 Slot.any).set ss.length (.ow false (.nd (.obj C dx []) x [])))[ss.length]?=some (.ow false (.nd (.obj C dx []) x [])):=Ds (by simp);have e0:((σ++List.replicate 1 none).set ss.length (some (V.ref x)))[ss.length]?=some (some (.ref x)):=Ds (by simp;omega);obtain ⟨k',hp,kk⟩:=JA x dx;refine ⟨.ow true (.nd (.obj C dx []) x [])::l,.mt k',F1,[],(OV.nd (.obj C dx []) x []).addrs,hp,Sx.ZC hi (.here e0 al),fun v F' H' f ⟨p,t',r,ro,nd,qa,kp⟩=>?_⟩;obtain ⟨rfl,Jt,Bt,rfl,k2⟩:=kk p t' kp;have B:=Sx.cO hi f ro nd qa;have at':∀ n,n<ss.length->((ss++List.replicate 1 Slot.any).set ss.length (.ow false (.nd (.obj C dx []) x [])))[n]?=ss[n]?:=fun n hn=>by rw [DL (by omega),DK hn]
  have DZ:∀ n,n<ss.length->((σ++List.replicate 1 none).set ss.length (some (V.ref x)))[n]?=σ[n]?:=fun n hn=>by rw [DL (by omega),DK (by omega)]
  have np:∀ a,H1 a≠none->Ca ss σ a->Ca ((ss++List.replicate 1 Slot.any).set ss.length (.ow false (.nd (.obj C dx []) x []))) ((σ++List.replicate 1 none).set ss.length (some (V.ref x))) a:=fun a _ hn n hk=>by
   by_cases c:n<ss.length
   ·rw [at' n c] at hk;rw [DZ n c];exact hn n hk
   ·by_cases c2:n=ss.length
    ·subst c2;rw [hi] at hk;cases hk
    ·rw [Oz (by simp;omega)] at hk;cases hk
  have M3:Mv E ss σ F1 H1 F' H':=m1.st.step B.ff B.st.fh (fun a o hn e=>B.hh a o (np a (by rw [e];simp) hn) (fun z=>by rw [f0 a z] at e;cases e) (up a o e)) (fun a o e=>(B.nn a o e).imp id (dn a)) fun n l' hn en=>by
   have c:n<ss.length:=(List.getElem?_eq_some_iff.mp hn).1;refine B.st.Ez (i:=n) ?_ (by rw [DZ n c];exact en);rw [DL (by omega)];exact (at' n c).trans hn
  cases r;refine ⟨rfl,q (.ref x) [] _ F' H' (m1.trans M3) ro nd (fun a ha=>?_) k2⟩;have h1:H1 a=none:=(qa a ha).2.elim (dn a) (f0 a);exact ⟨(qa a ha).1,m1.st.DW h1,.inr (m1.none h1)⟩⟩
end
end Fz
namespace L2
section
variable {X:Cx}{o e value:Expr}{f:Str}{pos pos' Ka:Pos}{ta tv:TE}
def NO (he:QE X e ta)(hb:attributeBase e f X.env (eval e X.env)=eval e X.env:=by rfl):QE X (.Attribute e f pos) (QJ X.K ta f):=⟨by
 have he:=he.h;intro pins s σ H Q I h;refine zk hb (AL (he pins s σ H _ I h) fun u s1 ⟨x,H1,I1,rx,a,C,dx,fs,v,ex,ea,c,n,l,q⟩=>?_);subst ex;obtain rfl:u=Value.ref a:=rx;exact sY I1 ea c n l fun u' s2 I2 ru=>⟨v,H1,I2,ru,q⟩⟩
def cy (ha:QE X o ta)(hv:QE X value tv)(hs:swapsWith value (some (.Attribute o f pos')) pos.line X.env=pure false:=by rfl):QS X (.Assign [.Attribute o f pos'] value pos) (Ue X.K ta tv f):=⟨by
 have ha:=ha.h;have hv:=hv.h;intro pins s σ H D I h;refine plainObj_wpAny_Assign_Attribute (AL (hv pins s σ H _ I h) fun u s1 ⟨y,H1,I1,ry,q⟩=>AL (ha pins s1 σ H1 _ I1 q) fun ov s2 ⟨x,H2,I2,rx,a,C,dx,fs,ex,ea,c,n,l,q2⟩=>?_) hs;subst ex;obtain rfl:ov=Value.ref a:=rx;exact xI I2 ea c n l ry fun s3 I3=>⟨σ,_,I3,q2⟩⟩
end
end L2
namespace L2
variable {pl:Sem Bool}
def HY (P:Program)(w:World)(K:ZE6)(mg:ZE8)(base:Heap)(C:Addr)(m:Str)(k:Nat)(ps:List Str)(sp:Sp):Prop:=
 ∃ f fd,DD P w K mg base FU k f fd ps sp/\Binds K fd ps []/\Meth K C m f/\Dy K C
def TL (P:Program)(w:World)(K:ZE6)(mg:ZE8)(base:Heap)(C:Addr)(k:Nat)(ps:List Str)(sp:Sp):Prop:=
 ∃ f fd,DD P w K mg base FU k f fd ps sp/\Binds K fd ps []/\Mk K C f
section
variable {X:Cx}{o e:Expr}{es:List Expr}{m x:Str}{C:Addr}{k j:Nat}{ps:List Str}{sp:Sp}{ta:TE}{t:TA}{apos pos p:Pos}
def ZCO (h:HY X.prog X.w X.K X.mg X.base C m k ps sp)(hr:Bq j X.A)(hk:k<=j)(he:QE X o ta)(ha:QA X (e::es) t)
  (Cb:starEach (e::es) X.env=(false,eval e X.env)::starEach es X.env:=by rfl) (Bz:(backTo pos (starEach es X.env)).any (·.1)=false:=by rfl)
  (ht:eval (.Call (.Attribute o m apos) (e::es) [] pos) X.env=(do
   let ov <- eval o X.env
   standAt apos.atName
   let (f,first) <- holding [ov] (getMethod ov m pl)
   callWith pos f first (backTo pos (starEach (e::es) X.env)) (backToKw pos (keywordEach [] X.env))):=by rfl) :
  QE X (.Call (.Attribute o m apos) (e::es) [] pos) (N3 C m sp [] E0 ta t):=by
 obtain ⟨f,fd,F,b,hm,c⟩:=h;exact ⟨zw he.h c hm (F.mono hk) hr b .nil PJ ha.h Cb Bz ht⟩
def NN (h:HY X.prog X.w X.K X.mg X.base C m k ps sp)(hr:Bq j X.A)(hk:k<=j)(he:QE X o ta)
  (ht:eval (.Call (.Attribute o m apos) [] [] pos) X.env=(do
   let ov <- eval o X.env
   standAt apos.atName
   let (f,first) <- holding [ov] (getMethod ov m pl)
   callWith pos f first (backTo pos (starEach [] X.env)) (backToKw pos (keywordEach [] X.env))):=by rfl) :
  QE X (.Call (.Attribute o m apos) [] [] pos) (N3 C m sp [] E0 ta BV):=by
 obtain ⟨f,fd,F,b,hm,c⟩:=h;exact ⟨uB he.h c hm (F.mono hk) hr b .nil PJ ht⟩
def tQ (h:TL X.prog X.w X.K X.mg X.base C k ps sp)(hr:Bq (j+1) X.A)(hk:k<=j)(hm:X.mg x=some (.ref C))(ha:QA X (e::es) t)(hg:Gl X x:=by rfl)(Cw:(x == ("__debug__":Str))=false:=by decide)
  (he:starEach (e::es) X.env=(false,eval e X.env)::starEach es X.env:=by rfl) (Bz:(backTo pos (starEach es X.env)).any (·.1)=false:=by rfl):QE X (.Call (.Name x p) (e::es) [] pos) (Vw C sp [] E0 t):=by
 obtain ⟨f,fd,F,b,M⟩:=h;exact ⟨oW M (F.mono hk) hr hg hm b .nil PJ ha.h Cw he Bz⟩
variable {prog:Program}{w:World}{A:Around}{E:Value->Shared->Prop}{s:Shared}
end
end L2
set_option maxHeartbeats 200000
set_option maxHeartbeats 4000000
namespace Fz
open L2 Lw
variable {ss:List Slot}{ta tb:TE}
def lH (K:ZE6):List V->Hp->VK->Prop:=fun xs H Q=>∃ (p:Addr) (bs:List Bool),xs=[.ref p]/\AY K H p (bs.map V.bl)/\Q (.bl (bs.all id)) H
end Fz
namespace L2
open Lw
section
variable {X:Cx}
def yZ:Gz X "list.extend" Xr:=rY
end
end L2
namespace Fz
open L2 Lw
variable {ps xs:List PV}{i:Nat}{js:List Nat}
section
variable [Xw]
variable {E:Ent0}{ss:List Slot}{σ:L2.St}{F H F' H':Hp}{K:ZE6}{ta tb tc te:TE}{k:PV->Prop}{v:V}{tp:Bool}{nx:List Slot->Prop}{R:As}
def ZBJ (hi:ss[i]?=some (.own xs))(h:Wn ss te fun ys=>xs.length+ys.length<=100000/\nx (ss.set i (.own (xs++ys)))):Ws ss (HQ (Jf K "list" Xr (BI i) (Ap te BV))) nx R:=⟨fun E D σ F H S hn hr=>by
 obtain ⟨l,vs,e,e1,e2,e3,r⟩:=S.ok i _ hi;refine ⟨_,e,.inl ⟨rfl,_,AY.of e3⟩,h.go E σ F H _ S fun l2 Ff ys F1 H1 m1 fl hl GD rv ⟨hz,kk⟩=>?_⟩;obtain ⟨l',Bh,e',DO,CD,HR,r'⟩:=m1.st.ok i _ hi;rw [e] at e';cases e';refine ⟨l,l2,Bh,Ff,rfl,rfl,HR,GD,small (by rw [r'.length,rv.length];exact hz),?_⟩;exact hn _ σ F1 _ kk (m1.st.put hi e DO CD (r'.append rv)) m1.ff⟩
def fK {j:Nat}(h:js[i]?=some j):(Bb js σ)[i]?=some ((σ[j]?).join):=by
 unfold Bb;rw [Ac,h];rfl
def join_some {o:Option (Option V)}{a:Addr}(h:some o.join=some (some (V.ref a))):o=some (some (.ref a)):=by
 cases o with
 | none=>cases h
 | some q=>cases q with
  | none=>cases h
  | some v=>simpa using h
def Mv.i9 {vs:List V}(S:Sg E ss σ F H)(m:Mv E (CG js ss++ps.map .is) (Bb js σ++vs.map some) F H F' H'):Mv E ss σ F H F' H':=by
 have hl:(CG js ss).length=js.length:=by simp [CG]
 have DA:(Bb js σ).length=js.length:=by simp [Bb]
 have Zo:∀ (i:Nat) (a:Addr),(CG js ss++ps.map .is)[i]?=some .AS->(Bb js σ++vs.map some)[i]?=some (some (.ref a))->∃ j,js[i]?=some j/\ss[j]?=some .AS/\σ[j]?=some (some (.ref a)):=fun i a hi ei=>by
  by_cases h:i<js.length
  ·rw [DK (by rw [hl];exact h)] at hi;rw [DK (by rw [DA];exact h)] at ei;have hj:=AX h;have q:=er hj hi;rw [fK hj] at ei;refine ⟨js[i],hj,?_,join_some ei⟩;cases w:ss[js[i]]? with
   | none=>rw [w] at q;cases q
   | some u=>rw [w] at q;cases q;rfl
  ·rw [Ej (by omega),Ac] at hi;cases w:ps[i - (CG js ss).length]? with
   | none=>rw [w] at hi;cases hi
   | some p=>rw [w] at hi;cases hi
 refine S.step m.ff m.st.fh (fun a o n e=>m.hh a o (fun i hi ei=>?_) e) m.nn fun i l hi e=>?_
 ·obtain ⟨j,_,h1,h2⟩:=Zo i a hi ei;exact n j h1 h2
 ·by_cases c:∃ i':Nat,js[i']?=some i
  ·obtain ⟨i',c⟩:=c;have lt:i' < js.length:=(List.getElem?_eq_some_iff.mp c).1;refine m.st.Ez (i:=i') ?_ ?_
   ·rw [DK (by rw [hl];exact lt)];unfold CG;rw [Ac,c];show some ((ss[i]?).getD .any)=_;rw [hi];rfl
   ·rw [DK (by rw [DA];exact lt),fK c,e];rfl
  ·refine Bj.keep (S.Ez hi e) fun o eo=>m.hh l o (fun i' CV mY=>?_) eo;obtain ⟨j,h0,h1,h2⟩:=Zo i' l CV mY;have hj:j≠i:=by rintro rfl;exact c ⟨i',h0⟩
   exact S.CC j i _ _ l hj h1 hi h2 e
def kQ {wi:TI}{tt:TT}{k:List PV->Prop}(P:PV->PV->Prop)
  (h:Wi ss wi fun xs=>xs.length<=100000/\(∀ x∈xs,Wt (CG js ss++[.is x]) tt fun b=>b=true)/\(∀ x∈xs,Wp (CG js ss++[.is x]) te (P x))/\∀ ys:List PV,ys.length=xs.length->(∀ (j:Nat) x y,xs[j]?=some x->ys[j]?=some y->P x y)->k ys)
  (nd:js.Nodup:=by decide):Wn ss (JS wi js tt te) k:=⟨fun E σ F H Q S q=>
 h.go E σ F H _ S fun J xs F1 H1 m1 sr ⟨hz,ht,he,kk⟩ acc Ay=>by
  have Fg:Ca ss σ acc:=m1.st.Ij Ay;have JW:=m1.st.DW Ay;have K9:∀ (i:Nat) s,ss[i]?=some s->¬ BW s σ[i]? acc:=fun i s hi=>m1.st.JD hi Ay;refine ⟨fun i m H2=>m=xs.length - i/\i<=xs.length/\∃ F2 vs ys,Mv E ss σ F1 H1 F2 H2/\F2 acc=none/\H2 acc=some (.lst vs)/\AJ F2 vs ys/\ys.length=i/\∀ (j:Nat) x y,xs[j]?=some x->ys[j]?=some y->P x y,⟨_,rfl,CM _,F1,[],[],m1.st.make Ay _,m1.st.C5 Ay,B0,.nil,rfl,fun j x y _ e=>by simp at e⟩,?_⟩;rintro i m H2 ⟨rfl,hi,F2,vs,ys,m2,fa,ha,rv,Kg,hP⟩
  by_cases AQ:i<xs.length
  ·refine .inr ⟨sr.go ss σ F2 H2 i m2.ff m2.st AQ,fun x H3 y=>?_⟩;obtain ⟨p,F3,hp,m3,rp⟩:=sr.EU ss σ F2 H2 i x H3 m2.ff m2.st AQ y;have Ie:p∈xs:=C7 hp;have IY:∀ {F4:Hp},(∀ a o,F4 a=some o->F2 a=some o∨H2 a=none)->F4 acc=none:=fun {F4} n=>by
    cases e:F4 acc with
    | none=>rfl
    | some o=>
     rcases n acc o e with w | w
     ·rw [fa] at w;cases w
     ·rw [ha] at w;cases w
   have S3:=m3.st.AI (js:=js) nd (.one rp);refine (ht p Ie).go E _ F3 H3 _ S3 fun b F4 H4 m4 hb=>?_;have JR:=m4.i9 (ps:=[p]) (vs:=[x]) m3.st;have CY:=m3.trans JR;show if b=true then _ else _
   rw [hb,mZ rfl];have S4:=CY.st.AI (js:=js) nd (.one (rp.mono JR.ff));refine (he p Ie).go E _ F4 H4 _ S4 fun w pw F5 H5 m5 Hy ew=>?_;have KW:=m5.i9 (ps:=[p]) (vs:=[x]) CY.st;have DG:=CY.trans KW;have Jz:=DG.hh acc _ Fg ha;have HD:=IY DG.nn;have hlen:vs.length<=99999:=by
    rw [rv.length,Kg];omega
   refine ⟨vs,Jz,Jc hlen,xs.length - (i+1),by omega,rfl,AQ,F5,vs++[w],ys++[pw],?_,HD,B0,(rv.mono DG.ff).append (.one Hy),by simp [Kg],fun j a b hj hb=>?_⟩
   ·have Dn:=m2.trans DG;refine ⟨Dn.st.MI HD (.inl JW) K9,Dn.ff,fun a o n e=>?_,Dn.nn⟩;rw [An (Dj e Ay)];exact Dn.hh a o n e
   ·by_cases c:j<ys.length
    ·rw [DK c] at hb;exact hP j a b hj hb
    ·have ej:j=i:=by
      have:=(List.getElem?_eq_some_iff.mp hb).1;rw [B2,GS] at this;omega
     subst ej;rw [Ej (by omega),Kg,Nat.sub_self] at hb;rw [hp] at hj;cases hj;cases hb;exact ew
  ·have e:i=xs.length:=by omega
   subst e;exact .inl ⟨sr.stop ss σ F2 H2 m2.ff m2.st,q acc vs _ F2 H2 (m1.trans m2) fa (m1.none Ay) ha rv (kk ys Kg hP)⟩⟩
variable {t:OV}
end
end Fz
namespace L2
noncomputable def WX (s:Stmt)(n:Nat):Stmt:=match s with
 | .ClassDef _ _ _ b ..=>b.getD n (.Pass ⟨0,0,0,0⟩)
 | s=>s
end L2
namespace Fz
open L2 Lw
@[reducible] noncomputable def xwM (X:XK) (t:OV) (D:Ex->Prop):Xw:=⟨fun _=>X,fun ss=>ss[0]?=some (.ow true t),D⟩
variable {R:As}{A9 ss:List Slot}
section
variable {pre:Pu}{H:Hp}
def Y1 (R:As)(A9:List Slot):Prop:=∃ (k:PV->OV->Prop) (nk:NK) (a:Addr) (us:List OV),R=.mt k/\A9[0]?=some (.ow true (.nd nk a us))/\k .AB (.nd nk a us)
theorem Y1.ok {E:Ent0}{σ:L2.St}{F:Hp}(h:Y1 R A9)(S:Sg E A9 σ F H):R.ok E F H .AB:=by
 obtain ⟨k,nk,a,us,rfl,h0,hk⟩:=h;obtain ⟨v0,e0,r0,DH,q0⟩:=S.ok 0 _ h0;have ev:v0=.ref a:=by cases r0;rfl
 subst ev;exact ⟨.AB,.nd nk a us,.AB,r0,DH,fun b hb=>⟨(q0 b hb).1,(q0 b hb).2.imp id fun z=>z.2⟩,hk⟩
end
section
variable [Xw]
variable {te tv:TE}{ta:TA}{i:Nat}{lt:Bool}{t:OV}{nx:List Slot->Prop}{K:ZE6}{f:Str}
def Lg {pre:Pre}{C:Addr}{m:Str}{k:List PV->Prop}(h:Wp ss te fun o=>∃ ns xs,o=.obj C ns xs/\Dd ns m=none/\Wa ss ta fun l=>∃ k',pre (.is o::l) (.new k')/\∀ p,k' p->k p):Wn ss (N3 C m (AM pre) [] E0 te ta) k:=⟨fun E σ F H Q S q=>
 h.go E σ F H _ S fun v o F1 H1 m1 ro ⟨ns,xs,eo,hm,h2⟩=>by
  subst eo;cases ro with
  | @obj a _ dx _ M8 _ e1 e2 hl rr=>
   refine ⟨a,dx,ns.zip M8,rfl,m1.st.fh _ _ e1,i8 hm,h2.go E σ F1 H1 _ m1.st fun vs l F2 H2 m2 al ⟨k',hp,kk⟩=>?_⟩;rw [Df];refine ⟨.is (.obj C ns xs)::l,.new k',F2,[],hp,m2.st.RM (.cons (s:=.is _) (Rep.obj (m2.ff _ _ e1) (m2.ff _ _ e2) hl (rr.mono m2.ff)) al),fun v F' H' f ⟨a,W5,i6,ev,f1,h1,Di,r,kp⟩=>?_⟩;subst ev;exact q a W5 i6 F' H' (m1.trans (m2.trans (m2.st.back (fun _ h=>absurd h Aa) f))) f1 (m1.none (m2.none h1)) Di r (kk i6 kp)⟩
end
end Fz
namespace L2
section
variable {prog:Program}{w:World}{A:Around}{E:Value->Shared->Prop}{s:Shared}
def kg:typeLookup (.type "dict") "__len__"=pure (some (.builtin "dict.__len__")):=by rw [xE,r8];kernel_rfl
variable {X:Cx}
end
end L2
namespace Fz
open L2 Lw
theorem iC:∀ {ks:List Key}{vs:List V},ks.length=vs.length->(ks.zip vs).map (·.1)=ks
 | [],[],_=>rfl
 | [],_::_,h=>by simp at h
 | _::_,[],h=>by simp at h
 | k::ks,v::vs,h=>by
  rw [Jr,BL,iC (by simpa using h)]
end Fz
namespace L2
variable {X:Cx}
def qt:fillsNumberSlot (.type "tuple") "mul"=pure false:=
 PySem.fillsNumberSlot_seq (id:="tuple.__mul__") (r:=some (.builtin "tuple.__rmul__")) F.slot_tuple_mul.lookup (by decide +kernel) F.slot_tuple_rmul.lookup (by decide +kernel)
def p4:seqRepeat? (.type "tuple")=pure (some (.builtin "tuple.__mul__")):=by
 unfold seqRepeat?;rw [ZDJ (T:="tuple") (name:="__mul__") (id:="tuple.__mul__") F.slot_tuple_mul.lookup (by decide +kernel),ZDJ (T:="tuple") (name:="__rmul__") (id:="tuple.__rmul__") F.slot_tuple_rmul.lookup (by decide +kernel)];rfl
def zV (a:Int)(t:Tok)(l:Addr)(items:Array Value)(n:Nat)(dd:Option Addr)(sl:Array (Option Value)):
  Meets (Builtin.«int.__rmul__» ⟨[.int a t,.ref l],[]⟩) (fun _ R s=>s.heap.get? l=some { cls:=.type "tuple", dict:=dd,data:=.seq items n,slots:=sl }/\R (.ok (.ret Value.notImplemented)) s):=
 .of_wp fun prog w A R s h=>by obtain ⟨hp,g,d,tk,os⟩:=s;obtain ⟨hl,h⟩:=h;wp_walk;exact ⟨_,rfl,h⟩
def mE (l:Addr)(items:Array Value)(n:Nat)(dd:Option Addr)(sl:Array (Option Value))(k:Int)(t:Tok)(h1:k=1):
  Meets (Builtin.«tuple.__mul__» ⟨[.ref l,.int k t],[]⟩) (fun _ R s=>s.heap.get? l=some { cls:=.type "tuple", dict:=dd,data:=.seq items n,slots:=sl }/\R (.ok (.ret (.ref l))) s):=
 .of_wp fun prog w A R s h=>by obtain ⟨hp,g,d,tk,os⟩:=s;obtain ⟨hl,h⟩:=h;subst h1;wp_walk;exact ⟨_,rfl,h⟩
def qp (l:Addr)(items:Array Value)(n:Nat)(dd:Option Addr)(sl:Array (Option Value))(k:Int)(t:Tok)(c1:¬ (decide (k < -2 ^ 63) || decide (k>=2 ^ 63))=true)(c2:¬ (items.isEmpty || k == 1)=true)(c3:(decide (k<=0) || items.isEmpty)=true):
  Meets (Builtin.«tuple.__mul__» ⟨[.ref l,.int k t],[]⟩) (fun _ R s=>s.heap.get? l=some { cls:=.type "tuple", dict:=dd,data:=.seq items n,slots:=sl }/\R (.ok (.ret (.ref s.heap.objs.size))) { s with heap:=s.heap.push { cls:=.type "tuple", data:=.seq #[] } }):=
 .of_wp fun prog w A R s h=>by obtain ⟨hp,g,d,tk,os⟩:=s;obtain ⟨hl,h⟩:=h;wp_walk;refine ZAm (nZ c1) ?_;wp_walk;exact ⟨_,rfl,h⟩
def v9 (l:Addr)(items:Array Value)(n:Nat)(dd:Option Addr)(sl:Array (Option Value))(k:Int)(t:Tok)(c1:¬ (decide (k < -2 ^ 63) || decide (k>=2 ^ 63))=true)(c2:¬ (items.isEmpty || k == 1)=true)(c3:¬ (decide (k<=0) || items.isEmpty)=true)
  (c4:¬ (items.size:Int) * k > (2 ^ 63 - 1) / 8) (c5:¬ Builtin.Tuple.tupleTooMany ((items.size:Int) * k)=true) (c6:¬ (List.foldl (fun x1 x2=>x1++x2) #[] (List.replicate k.toNat items)).size > sizeLine) :
  Meets (Builtin.«tuple.__mul__» ⟨[.ref l,.int k t],[]⟩) (fun _ R s=>s.heap.get? l=some { cls:=.type "tuple", dict:=dd,data:=.seq items n,slots:=sl }/\R (.ok (.ret (.ref s.heap.objs.size))) { s with heap:=s.heap.push { cls:=.type "tuple", data:=.seq (List.foldl (fun x1 x2=>x1++x2) #[] (List.replicate k.toNat items)) } }):=
 .of_wp fun prog w A R s h=>by obtain ⟨hp,g,d,tk,os⟩:=s;obtain ⟨hl,h⟩:=h;wp_walk;refine ZAm (nZ c1) ?_;wp_walk;refine ZAm (nZ c4) ?_;wp_walk;exact ⟨_,rfl,h⟩
def SX (K:ZE6):V->V->Hp->VK->Prop:=fun x y H Q=>∃ (p:Addr) (k:Int) (xs:List V),x=.ref p/\y=.int k/\Aq K H p xs/\xs≠[]/\-1000<=k/\k<=1000/\xs.length<=1000/\(k=1->Q (.ref p) H)/\(k≠1->∀ q,H q=none->Q (.ref q) (upd H q (.tup (List.replicate k.toNat xs).flatten)))
def vY:BD X (binaryOp .Mult) (SX X.K):=by
 intro pins s σ H x y v u Q I rx ry h;obtain ⟨p,k,xs,rfl,rfl,hp,B5,k0,k1,hz,q1,q2⟩:=h;cases rx;obtain ⟨t,rfl⟩:=ry;obtain ⟨A3,r,pl,_⟩:=I.tuple hp;obtain ⟨⟨cls,dd,data,sl⟩,ho,hc,n,hd⟩:=id pl;simp only at hc hd;subst hc hd;have hl:=r.length;have hits:A3≠[]:=fun z=>B5 (r.N9.mp z);have he:A3.toArray.isEmpty=false:=by cases A3 with | nil=>exact absurd rfl hits | cons a b=>rfl
 have big:(2:Int) ^ 63 > 1000000:=by decide
 have c1:¬ (decide (k < -2 ^ 63) || decide (k>=2 ^ 63))=true:=by
  rw [Bool.or_eq_true,rO,rO];omega
 have road:wpAny (model X.prog X.w) X.A (call (.builtin "tuple.__mul__") [.ref p,.int k t]) (EP X pins σ Q) X.xe s->wpAny (model X.prog X.w) X.A (binaryOp .Mult (.ref p) (.int k t)) (EP X pins σ Q) X.xe s:=fun hm=>
  wpAny_binaryOp_repeat_ref (T:="tuple") (U:="int") (by decide) ⟨_,ho,rfl⟩ (fun s'=>typeIs_int s' k t) qt F.fills_int_mul F.slot_int_rmul p4 F.slot_int_index.lookup
   (uF F.slot_int_rmul (typeIs_int s k t) F.entry_int_rmul (F.args_int_rmul_2 _ _) (zV k t p A3.toArray n dd sl) ⟨ho,rfl,⟨_,ho,rfl⟩,hm⟩)
 refine road ?_
 by_cases e1:k=1
 ·exact uF jB ⟨_,ho,rfl⟩ jA (j9 _ _) (mE p A3.toArray n dd sl k t e1) ⟨ho,.ref p,H,I,rfl,q1 e1⟩
 have c2:¬ (A3.toArray.isEmpty || k == 1)=true:=by rw [he,YK];simpa using e1
 have fin:∀ ys:List Value,Vals (List.replicate k.toNat xs).flatten ys->(List.replicate k.toNat xs).flatten.length<=sizeLine->EP X pins σ Q (.ref s.heap.objs.size) { s with heap:=s.heap.push { cls:=.type "tuple", data:=.seq ys.toArray } }:=fun ys rr WQ=>
  ⟨.ref s.heap.objs.size,_,I.laid (t':=s.toks) (o:=.tup (List.replicate k.toNat xs).flatten) (fun b ob q=>BQ _ q) (Ai _) ⟨WQ,_,rr,⟨IsTup.new _ _,fun Nb e'=>by rw [Ba _ rfl] at e';cases e';rfl⟩⟩,rfl,q2 e1 _ (I.AK.fresh (Ai _))⟩
 by_cases e0:k<=0
 ·have z:k.toNat=0:=by omega
  refine uF jB ⟨_,ho,rfl⟩ jA (j9 _ _) (qp p A3.toArray n dd sl k t c1 c2 (by rw [jy e0];rfl)) ⟨ho,?_⟩;exact fin [] (by rw [z];exact .nil) (by rw [z];exact CM _)
 ·have hm:(List.replicate k.toNat xs).flatten.length<=1000000:=by
   rw [len_rep];exact D1 (Nat.mul_le_mul (show k.toNat<=1000 by omega) hz) (by decide)
  have f0:List.foldl (fun x1 x2=>x1++x2) #[] (List.replicate k.toNat A3.toArray)=(List.replicate k.toNat A3).flatten.toArray:=by
   have:=foldl_rep A3 k.toNat [];rw [J3] at this;exact this
  have hmul:(A3.toArray.size:Int) * k<=1000000:=by
   have h1:(A3.toArray.size:Int)<=1000:=by rw [Bd,<- hl];omega
   have h2:=Int.mul_le_mul h1 k1 (by omega) (by decide);exact Int.le_trans h2 (by decide)
  have rr:Vals (List.replicate k.toNat xs).flatten (List.replicate k.toNat A3).flatten:=r.rep k.toNat;refine uF jB ⟨_,ho,rfl⟩ jA (j9 _ _) (v9 p A3.toArray n dd sl k t c1 c2 (by rw [he,Bool.or_false,rO];exact e0) (Int.not_lt.mpr (Int.le_trans hmul (by decide))) ?_ ?_) ⟨ho,?_⟩
  ·intro h;have h1:(A3.toArray.size:Int) * k > (sizeLine:Int):=k9 h;have h2:(1000000:Int)<=(sizeLine:Int):=by decide
   exact absurd (YN h2 h1) (Int.not_lt.mpr hmul)
  ·rw [f0,Bd,<- rr.length];exact Nat.not_lt.mpr (D1 hm (by decide))
  ·rw [f0];exact fin _ rr (D1 hm (by decide))
def Yv (K:ZE6):R2:=fun x y H Q=>∃ a b xs ys,x=.ref a/\y=.ref b/\Aq K H a xs/\Aq K H b ys/\xs.length+ys.length<=sizeLine/\(xs=[]->Q (.ref b) H)/\(xs≠[]->ys=[]->Q (.ref a) H)/\(xs≠[]->ys≠[]->∀ p,H p=none->Q (.ref p) (upd H p (.tup (xs++ys))))
def WS:BD X (binaryOp .Add) (Yv X.K):=by
 intro pins s σ H x y v u Q I rx ry h;obtain ⟨a,b,xs,ys,rfl,rfl,ha,hb,hz,q0,q1,q2⟩:=h
 by_cases hx:xs=[]
 ·have q:=q0 hx;subst hx;cases rx;cases ry;obtain ⟨A3,r1,p1,_⟩:=I.tuple ha;obtain ⟨BU,r2,p2,_⟩:=I.tuple hb;obtain ⟨⟨cls,dd,data,sl⟩,ho,hc,n,hd⟩:=id p1;obtain ⟨⟨nB,PQ,data2,QM⟩,Gp,N5,n2,hd2⟩:=id p2;simp only at hc hd N5 hd2;subst hc hd N5 hd2;have e:A3=[]:=r1.N9.mpr rfl;exact concat_meets ⟨_,ho,rfl⟩ ⟨_,Gp,rfl⟩ ZAk seq_tuple_add jX jV (jU _ _)
   (tuple_addW0 a b A3.toArray BU.toArray n n2 dd PQ sl QM (by simp [e])) ⟨ho,Gp,⟨.ref b,H,I,rfl,q⟩⟩
 ·exact V4 pins s σ H _ _ _ _ Q I rx ry ⟨a,b,xs,ys,rfl,rfl,ha,hb,hx,hz,fun e=>q1 hx e,fun e p hp=>q2 hx e p hp⟩
end L2
namespace Fz
open L2 Lw
theorem AJ.append' {F:Hp}:∀ {vs ws:List V}{xs ys:List PV},AJ F vs xs->AJ F ws ys->AJ F (vs++ws) (xs++ys)
 | _,_,_,_,.nil,h=>h
 | _,_,_,_,.cons r t,h=>.cons r (AJ.append' t h)
theorem AJ.rep2 {F:Hp}{vs:List V}{xs:List PV}(r:AJ F vs xs):∀ n:Nat,AJ F (List.replicate n vs).flatten (List.replicate n xs).flatten
 | 0=>.nil
 | n+1=>by rw [Jq,Jq,Mh,Mh];exact AJ.append' r (r.rep2 n)
section
variable [Xw]
variable {E:Ent0}{ss:List Slot}{σ:L2.St}{F H F' H':Hp}{K:ZE6}{i:Nat}{t:OV}{ta tb tc te:TE}{nx:List Slot->Prop}{R:As}
def yF {k:PV->Prop}(h:Wp ss ta fun p=>∃ xs,p=.tup xs/\xs≠[]/\xs.length<=1000/\Wp ss tb fun q=>∃ m:Int,q=.int m/\-1000<=m/\m<=1000/\k (.tup (List.replicate m.toNat xs).flatten)):Wp ss (BX (SX K) ta tb) k:=⟨fun E σ F H Q S q=>
 h.go E σ F H _ S fun v p F1 H1 m1 r1 ⟨xs,e,hx,hz,h2⟩=>h2.go E σ F1 H1 _ m1.st fun v2 p2 F2 H2 m2 r2 ⟨m,e2,h0,h1,kk⟩=>by
  subst e;subst e2;cases r2;cases r1 with
  | @tup a vs _ f1 s1=>
   have g1:=m2.ff _ _ f1;have t1:=s1.mono m2.ff;have l1:=t1.length;refine ⟨a,m,vs,rfl,rfl,Aq.of (m2.st.fh _ _ g1),fun z=>hx ?_,h0,h1,by omega,fun z=>?_,fun z b hb=>?_⟩
   ·rw [z] at l1;exact List.length_eq_zero_iff.mp l1.symm
   ·subst z;have e:(List.replicate (1:Int).toNat xs).flatten=xs:=by simp
    rw [e] at kk;exact q (.ref a) _ F2 H2 (m1.trans m2) (.tup g1 t1) kk
   ·have m3:=m2.st.alloc hb (.tup (List.replicate m.toNat vs).flatten);exact q (.ref b) _ _ _ (m1.trans (m2.trans m3)) (.tup B0 ((t1.rep2 m.toNat).mono m3.ff)) kk⟩
def Vf {k:PV->Prop}(h:Wp ss ta fun p=>∃ xs,p=.tup xs/\Wp ss tb fun q=>∃ ys,q=.tup ys/\xs.length+ys.length<=100000/\k (.tup (xs++ys))):Wp ss (BX (Yv K) ta tb) k:=⟨fun E σ F H Q S q=>
 h.go E σ F H _ S fun v p F1 H1 m1 r1 ⟨xs,e,h2⟩=>h2.go E σ F1 H1 _ m1.st fun v2 p2 F2 H2 m2 r2 ⟨ys,e2,hz,kk⟩=>by
  subst e;subst e2;cases r1 with
  | @tup a vs _ f1 s1=>
   cases r2 with
   | @tup b ws _ f2 s2=>
    have g1:=m2.ff _ _ f1;have t1:=s1.mono m2.ff;have l1:=t1.length;have l2:=s2.length;refine ⟨a,b,vs,ws,rfl,rfl,Aq.of (m2.st.fh _ _ g1),Aq.of (m2.st.fh _ _ f2),small (by omega),fun z=>?_,fun _ z=>?_,fun _ _ c hc=>?_⟩
    ·have e:xs=[]:=by rw [z] at l1;exact List.length_eq_zero_iff.mp l1.symm
     rw [e,J3] at kk;exact q (.ref b) _ F2 H2 (m1.trans m2) (.tup f2 s2) kk
    ·have e:ys=[]:=by rw [z] at l2;exact List.length_eq_zero_iff.mp l2.symm
     rw [e,Df] at kk;exact q (.ref a) _ F2 H2 (m1.trans m2) (.tup g1 t1) kk
    ·have m3:=m2.st.alloc hc (.tup (vs++ws));exact q (.ref c) _ _ _ (m1.trans (m2.trans m3)) (.tup B0 ((AJ.append' t1 s2).mono m3.ff)) kk⟩
end
end Fz
namespace L2
section
variable {prog:Program}{w:World}{A:Around}{s:Shared}{R:Result->Shared->Prop}
def oO {L S:Addr}{c0:Nat}{res:Value}{A8:List (Key×Value)}{n:Nat}(hh:A.handled=none)(Le:(S == sysModules)=false)(hL:s.heap.get? L=some { cls:=.type "list", data:=.seq #[] c0 })(uI:s.heap.DictOf (DF prog w) S A8)(en:A8.length=n)(hn:n<=sizeLine)
  (h:∀ (s':Shared) (vs:List Value) (c':Nat),(∀ b o,b≠L->s.heap.get? b=some o->s'.heap.get? b=some o)->L<s'.heap.objs.size->s'.gens=s.gens->s'.os=s.os->s'.heap.get? L=some { cls:=.type "list", data:=.seq vs.toArray c' }->vs.length=n->(∀ (i:Nat) v,vs[i]?=some v->∃ k x,A8[i]?=some (k,x)/\(DF prog w).is k v=true)->R (.ok (.ret res)) s') :
  wpAny (model prog w) A.in1 (Builtin.List.listExtendWith (.ref L) (.ref S) res)
   (fun fin s'=>match fin with | .done f=>R (.ok f) s' | .again c'=>c'.quiet=true/\codeAny (model prog w) A c' R s') (fun e s'=>R (.error e) s') s:=by
 obtain ⟨ep,hS⟩:=uI.dictAt;have AQ:S<s.heap.objs.size:=hS.lt_size;have O6:L≠S:=fun z=>by
  subst z;obtain ⟨o,ho,hc⟩:=hS.dictOf.typeIs;rw [hL] at ho;cases ho;exact absurd hc (by show ¬ Value.type "list"=Value.type "dict"; decide)
 have Ms:Shared.TypeIs s (.ref S) "dict" := hS.dictOf.typeIs;have h1:Builtin.List.listSameRef (.ref L) (.ref S)=false:=by simp [Builtin.List.listSameRef,O6]
 unfold Builtin.List.listExtendWith;refine ji (vh Ms ?_);rw [k6 (by rw [h1];decide)];refine ji (wpAny_pyIter_dict (s:=s) Le hS ?_);dsimp only;generalize UX:({ cls:=.type "dict_keyiterator", data:=.fields #[.ref S,.int 0 0,.int A8.length 0,.int ep 0] }:Obj)=io;have kp:∀ b o,s.heap.get? b=some o->(s.heap.push io).get? b=some o:=fun b o e=>BQ _ e;have B5:S≠s.heap.objs.size:=Bf AQ;have W:∀ A2:Around,A2.handled=none->Walks prog w A2 s.heap.objs.size [s.heap.objs.size,S] [s.heap.objs.size] A8.length _ _:=fun A2 h2=>Walks.dictKeys (knd:=DF prog w) h2 s.heap.objs.size S B5 A8 ep;have La:(s.heap.push io).IsKeyIter s.heap.objs.size S 0 A8.length ep/\(s.heap.push io).DictAt (DF prog w) S A8 ep:=⟨⟨io,Ba _ (by rw [<- UX];rfl),by rw [<- UX],by rw [<- UX];rfl⟩,hS.push _⟩;have E4:L∉[s.heap.objs.size,S]:=fun hm=>by
  simp only [CL,Aa,pN] at hm;rcases hm with z | z
  ·have q:L<s.heap.objs.size:=B9 hL;rw [z] at q;exact LM _ q
  ·exact O6 z
 generalize hh2:s.heap.push io=h2 at kp La ⊢;have L4:Shared.TypeIs { s with heap:=h2 } (.ref S) "dict" := by obtain ⟨o,ho,hc⟩:=Ms;exact ⟨o,kp _ _ ho,hc⟩
 refine ji (q8 ?_);unfold Builtin.List.listLengthHint;refine ji (z9 L4 kg ?_);generalize Jh:("dict.__len__":String)=Mx
 wp_delta
 rw [show splitId Mx=some ("dict","__len__") from by subst Jh;decide +kernel];subst Jh;refine ji (vT (b:=true) L4 (by rw [sD];kernel_rfl) ?_);rw [k6 (by decide)];refine ZAB (fun _=>?_) (fun FT=>absurd (by decide +kernel) FT);refine ji (vh L4 ?_);refine jx ?_;refine ZAB (fun _=>?_) (fun FT=>absurd (by decide +kernel) FT);refine ji (zG ?_);refine ji ?_;show wpAny _ _ (updateSeq L (·.push .none) >>= fun _=>updateSeq L (·.pop)) _ _ _
 have z0:(#[]:Array Value).size<=sizeLine:=CM _;have z1:((#[]:Array Value).push Value.none).size<=sizeLine:=by show 1<=sizeLine;decide
 have z2:((#[]:Array Value).push Value.none).size<=sizeLine+1:=jO z1;have z3:(((#[]:Array Value).push Value.none).pop).size<=sizeLine+1:=CM _;have Mt:=kp _ _ hL;refine ji (vy (s:={ s with heap:=h2 }) Mt rfl ?_ z0 z2)
 have q2:=GR (Obj.mapSeq (·.push Value.none)) Mt rfl
 refine vy q2 rfl ?_ z1 z3;have q3:=GR (Obj.mapSeq (·.pop)) q2 rfl
 have Jj:∀ b o,b≠L->h2.get? b=some o->((h2.update L (Obj.mapSeq (·.push Value.none))).update L (Obj.mapSeq (·.pop))).get? b=some o:=
  fun b o hb e=>(Hq _ _ (Bs hb)).trans ((Hq _ _ (Bs hb)).trans e)
 refine jx ⟨yu ZDA _,ZA7 (W A.in1 hh).toS (en▸hn) _ E4 _ A8.length 0 _ #[] _ rfl (CM _) ?_ q3 (ItemsOf.nil _) fun s' DE c' hm Dm Ay=>?_⟩
 ·exact (W A.in1 hh).frame 0 h2 _ La fun b hb o e=>Jj b o (fun z=>E4 (z▸hb)) e
 ·have hsz:L<s'.heap.objs.size:=B9 Dm;refine h s' DE.toList c' (fun b o hb e=>?_) hsz hm.gens hm.os Dm (by rw [HE,Ay.1];exact en) fun i v hv=>Ay.2 i v (by rw [<- SD];exact hv);have C4:b<s.heap.objs.size:=B9 e;refine hm.heap b o ?_ (Jj b o hb (kp b o e));simp only [CL,Aa,pN,ZB3];exact ⟨hb,Bf C4⟩
end
theorem dE {prog:Program}{w:World}:∀ {ks:List Key}{A8:List (Key×Value)}{vs:List Value},A8.map (·.1)=ks->vs.length=A8.length->(∀ (i:Nat) v,vs[i]?=some v->∃ k x,A8[i]?=some (k,x)/\(DF prog w).is k v=true)->Vals (ks.map kV) vs
 | [],[],[],_,_,_=>.nil
 | [],[],_::_,_,h,_=>by simp at h
 | [],_::_,_,h,_,_=>by simp at h
 | _::_,[],_,h,_,_=>by simp at h
 | _::_,_::_,[],_,h,_=>by simp at h
 | n::ns,kv::A8,v::vs,e,hl,h=>by
  rw [BL] at e;injection e with e1 e2
  obtain ⟨k,x,ek,hk⟩:=h 0 v rfl;have lK:kv=(k,x):=by simpa using ek
  subst lK;have DO:k=n:=e1;subst DO;refine .cons ?_ (dE e2 (by simpa using hl) fun i v hv=>h (i+1) v hv)
  rcases HM (show KS k v=true from hk) with ⟨i,t,rfl,rfl⟩ | ⟨y,t,rfl,rfl⟩
  ·exact ⟨t,rfl⟩
  ·exact ⟨t,rfl⟩
section
variable {X:Cx}
def Zj:List V->Hp->VK->Prop:=fun xs H Q=>∃ (p:Addr) (A8:List (Key×V)),xs=[.ref p]/\Rd H p (.dK A8)/\A8.length<=1000/\∀ l:Addr,H l=none->Q (.ref l) (upd H l (.lst ((A8.map (·.1)).map kV)))
def wY (hc:X.calm=true):CJ X (.type "list") Zj:=by
 intro pins s σ H xs us Q I r h;obtain ⟨p,A8,rfl,hH,Sb,q⟩:=h;obtain ⟨u,rfl,rx⟩:=vals1 r;cases rx;obtain ⟨hz,Le,M8,rel,hS⟩:=MV I.AK hH;have hh:X.A.handled=none:=I.ok.hd hc;have AQ:p<s.heap.objs.size:=by obtain ⟨ep,h2⟩:=hS.dictAt;exact h2.lt_size
 have B5:p≠s.heap.objs.size:=Bf AQ;refine callType_codes (Q₁:=fun obj s₁=>obj=.ref s.heap.objs.size/\s₁={ s with heap:=s.heap.push { cls:=.type "list", data:=.seq #[] } }) F.called_list (F.typeCall_list_1 _) F.entry_list_init
  (code_list_new _ ⟨rfl,rfl⟩) fun obj s₁ h₁=>?_
 obtain ⟨rfl,rfl⟩:=h₁;have IC:(s.heap.push { cls:=.type "list", data:=.seq #[] }).get? s.heap.objs.size=some { cls:=.type "list", data:=.seq #[] }:=Ba _ rfl;refine ⟨⟨_,IC,rfl⟩,F.args_list_init_2 _ _,?_⟩;show wpAny _ X.A.in1.in1 (do let old <- Builtin.List.listItems (.ref s.heap.objs.size);Builtin.List.listUpdate (.ref s.heap.objs.size) (fun _=>#[]);letGo old.toList.reverse;Builtin.List.listExtendWith (.ref s.heap.objs.size) (.ref p) .none) _ _ _
 refine ji ?_;unfold Builtin.List.listItems;refine ji (qr IC rfl (jx ?_));show wpAny _ X.A.in1.in1 (updateSeq s.heap.objs.size (fun _=>#[]) >>= fun _=>letGo (#[]:Array Value).toList.reverse >>= fun _=>Builtin.List.listExtendWith (.ref s.heap.objs.size) (.ref p) .none) _ _ _;refine ji (vy IC rfl ?_);have VD:=GR (Obj.mapSeq (fun _=>(#[]:Array Value))) IC rfl;have old:∀ b o,s.heap.get? b=some o->((s.heap.push { cls:=.type "list", data:=.seq #[] }).update s.heap.objs.size (Obj.mapSeq (fun _=>(#[]:Array Value)))).get? b=some o:=fun b o e=>
  (Hq _ _ (J4 (B9 e))).trans (BQ _ e)
 have hS3:((s.heap.push { cls:=.type "list", data:=.seq #[] }).update s.heap.objs.size (Obj.mapSeq (fun _=>(#[]:Array Value)))).DictOf (DF X.prog X.w) p M8:=by
  obtain ⟨o,es,ep,ho,rest⟩:=hS;exact ⟨o,es,ep,old _ _ ho,rest⟩
 refine ji (ZAa ?_);refine oO (A:=X.A.in1) hh Le VD hS3 rfl (by rw [<- rel.length];exact hz) fun s' vs c' a1 a2 a3 a4 a5 a6 a7=>?_;have vv:Vals ((A8.map (·.1)).map kV) vs:=by
  rw [rel.keys];exact dE rfl a6 a7
 refine ⟨rfl,?_⟩;obtain ⟨h1,g1,d1,t1,o1⟩:=s';simp only at a1 a2 a3 a4 a5;subst a3;subst a4;refine ⟨.ref _,_,(I.drew d1).laid (a:=s.heap.objs.size) (h':=h1) (t':=t1) (o:=.lst ((A8.map (·.1)).map kV)) (fun b o e=>a1 b o (Bf (B9 e)) (old b o e)) (Ai _) ?_,rfl,q _ (I.AK.fresh (Ai _))⟩
 exact ⟨by rw [AA,AA];exact hz,vs,c',vv,a5⟩
variable {i o:Expr}{ty td:TE}{pos:Pos}
def je (hu:X.A.units+1<cLine)(hi:QE X i ty)(ho:QE X o td)(hm:behindInMarks .In o=false:=by with_unfolding_all rfl):QE X (.Compare i [.In] [o] pos) (OP ty td):=⟨zH (Zq hu hi.h ho.h) hm⟩
def QC (hu:X.A.units+1<cLine)(hi:QE X i ty)(ho:QE X o td)(hm:behindInMarks .In o=false:=by with_unfolding_all rfl):QT X (.Compare i [.In] [o] pos) (tB (OP ty td)):=⟨fZ (Zq hu hi.h ho.h) hm⟩
def xD (hu:X.A.units+1<cLine)(hi:QE X i ty)(ho:QE X o td)(hm:behindInMarks .NotIn o=false:=by with_unfolding_all rfl):QT X (.Compare i [.NotIn] [o] pos) (tB (Um ty td)):=⟨fZ (m7 hu hi.h ho.h) hm⟩
end
end L2
namespace Fz
open L2 Lw
theorem W9 {F:Hp}:∀ ks:List Key,AJ F (ks.map kV) (ks.map IQ)
 | []=>.nil
 | .inl i::ks=>.cons (.int i) (W9 ks)
 | .inr x::ks=>.cons (.str x) (W9 ks)
section
variable [Xw]
variable {E:Ent0}{ss:List Slot}{σ:L2.St}{F H F' H':Hp}{K:ZE6}{i:Nat}{t:OV}{ta tb tc te:TE}{nx:List Slot->Prop}{R:As}
def yJ {k:List PV->Prop}(h:Wp ss te fun p=>∃ (ks:List Key) (xs:List PV),p=.B7 ks xs/\ks.length<=1000/\k (ks.map IQ)):Wn ss (D7 Zj (Ap te BV)) k:=⟨fun E σ F H Q S q=>
 h.go E σ F H _ S fun v p F1 H1 m1 rp ⟨ks,xs,e,hz,kk⟩=>by
  subst e;cases rp with
  | @B7 a _ vs _ ef hl rr=>
   refine ⟨a,_,rfl,.inl (m1.st.fh _ _ ef),by rw [SM];omega,fun l Fb=>?_⟩;rw [iC hl];have m2:=m1.st.make Fb (.lst (ks.map kV));exact q l _ _ F1 _ (m1.trans m2) (m1.st.C5 Fb) (m1.none Fb) B0 (W9 ks) kk⟩
end
end Fz
namespace L2
variable {w:World}{H H2:Hp}{h h':Heap}{a b it l l1 l2 t:Addr}{X:Cx}{pins:ZE7}{σ:St}{s s2:Shared}{r x:Value}{A:Around}{E Q:Value->Shared->Prop}{i k1 tk:Nat}{e elt tg:Expr}{p1 pos:Pos}{es ifs:List Expr}{t1 t2 tp:Bool}{outer scope:Scope}{js:List Nat}{tt:TT}{te:TE}{J:It}{fp:List Addr}{tn:Nat->Heap->Prop}{N zs:List Str}{wi:TI}{xs ys:Array Value}{prog:Program}
structure Hl (N:List Str) (outer scope:Scope) (zs:List Str) (AI:List Str) (js:List Nat):Prop where
 kind:scope.kind=.function
 Ks:∀ y∈scope.names,y.2≠.cell
 loc:∀ y∈scope.names,y.2=.local->scope.names.lookup y.1=some .local
 Hn:∀ x∈zs,scope.names.lookup x=some .local
 at':js.map (fun j=>N[j]?)=AI.map some
 cell:∀ y∈AI,outer.names.lookup y=some .cell
 free:∀ y∈AI,scope.names.lookup y=some .free
 all:∀ y∈scope.names,y.2=.free->outer.names.lookup y.1=some .cell
 nd:(AI++zs).Nodup
def MS (K:ZE6)(n:Nat)(wi:TI)(js:List Nat)(tt:TT)(te:TE):TE:=fun σ H Q=>wi σ H fun J H1=>∀ acc,H1 acc=none->QU K n J js tt te σ H1 acc Q
section
variable {iter:Expr}{tp:Pos}{AI:List Str}
def Hl.G (S:Hl N outer scope zs AI js):EW N outer scope none zs AI js:=.cu S.kind S.Ks S.loc S.at' S.cell S.free S.all S.nd
def vo (hc:X.calm=true)(S:Hl X.N X.env.scope scope zs AI js)(IH:Ir zs es)(Iw:∀ e,(assignEach es e).length=zs.length)(Ee:∀ e,(assignEach es e).findIdx? (·.1)=none)(hi:PI X (.Tuple es tk tp) iter wi)
  (Ci:∀ fp C s H,Gw (EX X (AI++zs) scope (Bi X.env.cells scope.names) C s H fp) ifs tt) (Cj:∀ fp C s H,PE (EX X (AI++zs) scope (Bi X.env.cells scope.names) C s H fp) elt te)
  (hs:∀ v,foldedSetIterable iter X.env v=pure v:=by intro _;rfl):PE X (.ListComp elt [⟨.Tuple es tk tp,iter,ifs,0⟩] scope pos) (MS X.K zs.length wi js tt te):=
 TJ (CW:=fun J σ H1 acc Q=>QU X.K zs.length J js tt te σ H1 acc Q) (aR S.G) hc S.G hi (fun _ _ _ _=>d7 hc S.G S.Hn IH Iw Ee) Ci Cj hs
def iH (hc:X.calm=true)(S:Hl X.N X.env.scope scope zs AI js)(IH:Ir zs es)(Iw:∀ e,(assignEach es e).length=zs.length)(Ee:∀ e,(assignEach es e).findIdx? (·.1)=none)(hi:QI X (.Tuple es tk tp) iter wi)(Ci:∀ fp C s H,L5 (EX X (AI++zs) scope (Bi X.env.cells scope.names) C s H fp) ifs tt)(Cj:∀ fp C s H,QE (EX X (AI++zs) scope (Bi X.env.cells scope.names) C s H fp) elt te)
  (hs:∀ v,foldedSetIterable iter X.env v=pure v:=by intro _;rfl):QE X (.ListComp elt [⟨.Tuple es tk tp,iter,ifs,0⟩] scope pos) (MS X.K zs.length wi js tt te):=⟨vo hc S IH Iw Ee hi.h (fun fp C s H=>(Ci fp C s H).h) (fun fp C s H=>(Cj fp C s H).h) hs⟩
end
def D2 (tp:Bool)(h:Heap)(i l:Addr)(k:Nat):Prop:=match tp with
 | true=>h.IsTupleIter i l k
 | false=>h.IsListIter i l k
def E5 (tp:Bool)(h:Heap)(l:Addr)(xs:Array Value):Prop:=match tp with
 | true=>h.IsTuple l xs
 | false=>h.IsList l xs
noncomputable def Mu (tp:Bool):String:=match tp with
 | true => "tuple_iterator"
 | false => "list_iterator"
theorem D2.at (x:D2 tp h a t i)(e:∀ o,h.get? a=some o->h'.get? a=some o):D2 tp h' a t i:=by
 cases tp
 ·exact Heap.IsListIter.at x e
 ·exact Heap.IsTupleIter.at x e
def D2.has (x:D2 tp h a t i):∃ o fs,h.get? a=some o/\o.data=.fields fs:=by
 cases tp
 ·obtain ⟨o,e,_,d⟩:=x;exact ⟨o,_,e,d⟩
 ·obtain ⟨o,e,_,d⟩:=x;exact ⟨o,_,e,d⟩
def E5.at (x:E5 tp h a xs)(e:∀ o,h.get? a=some o->h'.get? a=some o):E5 tp h' a xs:=by
 cases tp
 ·obtain ⟨o,q,r⟩:=x;exact ⟨o,e o q,r⟩
 ·obtain ⟨o,q,r⟩:=x;exact ⟨o,e o q,r⟩
section
def U9 (hi:D2 tp s.heap it l i)(hl:E5 tp s.heap l xs)(hx:xs[i]?=some x)
  (q:∀ h',D2 tp h' it l (i+1)->Heap.SameBut it s.heap h'->Q x { s with heap:=h' }):wpAny (model prog w) A (Builtin.SmallTypes.nextOf (.ref it)) Q E s:=by
 cases tp
 ·exact wpAny_nextOf_list_item hi hl hx q
 ·exact HT.vz hi hl hx q
def dY (hh:A.handled=none)(hi:D2 tp s.heap it l i)(hl:E5 tp s.heap l xs)(hx:xs[i]?=none)
  (q:∀ h' e,Heap.ExtBut it s.heap h'->(∃ o,h'.get? e=some o/\o.cls=.type "StopIteration")->E (.ref e) { s with heap:=h' }):wpAny (model prog w) A (Builtin.SmallTypes.nextOf (.ref it)) Q E s:=by
 cases tp
 ·exact wpAny_nextOf_list_end hh hi hl hx q
 ·exact HT.ZCU hh hi hl hx q
def fM (hl:E5 tp s.heap l xs)(q:Q (.ref s.heap.objs.size) { s with heap:=s.heap.push { cls:=.type (Mu tp),data:=.fields #[.ref l,.int 0 0] } }):wpAny (model prog w) A (pyIter (.ref l)) Q E s:=by
 cases tp
 ·exact xS hl q
 ·exact ZAP hl q
variable {z TI TO i1 i2:Addr}{k:Nat}{y a b:Value}
def wV {Q:Option Value->Shared->Prop}(D:ZipApart z TI TO i1 i2 l1 l2)(hz:IsZip s.heap z TI TO .none)(Ib:IsPair s.heap TI (.ref i1) (.ref i2))(Ji:IsPair s.heap TO a b)
  (h1:D2 t1 s.heap i1 l1 k) (h2:D2 t2 s.heap i2 l2 k) (g1:E5 t1 s.heap l1 xs) (g2:E5 t2 s.heap l2 ys) (hx:xs[k]?=some x) (hy:ys[k]?=some y)
  (q:∀ h',IsZip h' z TI TO (rawInt s.heap.objs.size)->IsPair h' TO x y->D2 t1 h' i1 l1 (k+1)->D2 t2 h' i2 l2 (k+1)->IsPair h' s.heap.objs.size x y->
   (∀ c o,c≠z->c≠TO->c≠i1->c≠i2->s.heap.get? c=some o->h'.get? c=some o)->Q (some (.ref s.heap.objs.size)) { s with heap:=h' }):wpAny (model prog w) A (pyNext (.ref z)) Q E s:=by
 have hT:s.TypeIs (.ref z) "zip" := ⟨_,hz,rfl⟩;unfold pyNext;refine ji (yi (oJ (name:=Str.ofString "__next__") hT YM (oY YM hT F.entry_zip_next ?_ (F.args_zip_next_1 _))));show wpAny _ _ (field (.ref z) 2 >>= _) _ _ _;refine ji (pS hz rfl (x:=.bool false) rfl ?_);show wpAny _ _ (field (.ref z) 3 >>= _) _ _ _;refine ji (pS hz rfl (x:=.ref TI) rfl (ji (qr Ib rfl ?_)));show wpAny _ _ (Builtin.SmallTypes.ownedTupleIsFree (.ref z) >>= _) _ _ _;refine ji ?_;unfold Builtin.SmallTypes.ownedTupleIsFree;refine ji (pS hz rfl (x:=.none) rfl (jx ?_));simp only [ZAT];refine ji (zG (ji (pS hz rfl (x:=.ref TO) rfl (ji (sU hz (by simp) fun e1 z1 w1=>?_)))));have z1:IsZip e1 z TI TO .ellipsis:=z1;have u1:∀ c o,c≠z->s.heap.get? c=some o->e1.get? c=some o:=fun c o hc e=>w1.extBut c o hc e;refine ji ?_;simp only [ZD3,List.zipIdx_nil,YR,SI];refine ji (ji (ZAg ?_));show wpAny _ _ (Builtin.SmallTypes.nextOf (.ref i1) >>= _) _ _ _;refine ji (U9 (h1.at fun o e=>u1 i1 o D.i1z e) (g1.at fun o e=>u1 l1 o D.l1z e) hx fun e2 p1 w2=>jx ?_);have u2:∀ c o,c≠z->c≠i1->s.heap.get? c=some o->e2.get? c=some o:=fun c o hc hd e=>w2.extBut c o hd (u1 c o hc e);have o2:IsPair e2 TO a b:=u2 TO _ D.TOz D.TOi1 Ji;refine ji (qr o2 rfl (ji (ZA6 o2 fun e3 o3 w3=>?_)));have o3:IsPair e3 TO x b:=o3;have u3:∀ c o,c≠z->c≠i1->c≠TO->s.heap.get? c=some o->e3.get? c=some o:=fun c o h1 h2 h3 e=>w3.extBut c o h3 (u2 c o h1 h2 e);refine ji (ZAa (jx (ji (ji (ZAg ?_)))));show wpAny _ _ (Builtin.SmallTypes.nextOf (.ref i2) >>= _) _ _ _;refine ji (U9 (h2.at fun o e=>u3 i2 o D.i2z D.i12.symm D.TOi2.symm e) (g2.at fun o e=>u3 l2 o D.l2z D.l2i1 D.l2TO e) hy fun e4 p2 w4=>jx ?_);have o4:IsPair e4 TO x b:=w4.extBut TO _ D.TOi2 o3;refine ji (qr o4 rfl (ji (ZA6 o4 fun e5 o5 w5=>?_)));have o5:IsPair e5 TO x y:=o5;have hsz:e5.objs.size=s.heap.objs.size:=by rw [w5.1,w4.1,w3.1,w2.1,w1.1]
 have u5:∀ c o,c≠z->c≠TO->c≠i1->c≠i2->s.heap.get? c=some o->e5.get? c=some o:=fun c o c1 c2 c3 c4 e=>w5.extBut c o c2 (w4.extBut c o c4 (u3 c o c1 c3 c2 e));have z5:IsZip e5 z TI TO .ellipsis:=w5.extBut z _ D.TOz.symm (w4.extBut z _ D.i2z.symm (w3.extBut z _ D.TOz.symm (w2.extBut z _ D.i1z.symm z1)));have r1:D2 t1 e5 i1 l1 (k+1):=p1.at fun o e=>w5.extBut i1 o D.TOi1.symm (w4.extBut i1 o D.i12 (w3.extBut i1 o D.TOi1.symm e));have r2:D2 t2 e5 i2 l2 (k+1):=p2.at fun o e=>w5.extBut i2 o D.TOi2.symm e;refine ji (ZAa (jx (jx (ji (qr o5 rfl (ji (wpAny_newTuple ?_)))))));have lz:z<e5.objs.size:=B9 z5;show wpAny _ _ (Builtin.SmallTypes.ownedTupleHandOut (.ref z) (.ref e5.objs.size) >>= _) _ _ _;refine ji ?_;unfold Builtin.SmallTypes.ownedTupleHandOut;have z6:IsZip (e5.push { cls:=.type "tuple", data:=.seq #[x,y] }) z TI TO .ellipsis:=BQ _ z5;refine ji (sU z6 (by simp) fun e7 z7 w7=>?_);have z7:IsZip e7 z TI TO (rawInt e5.objs.size):=z7;refine sU z7 (by simp) fun e8 z8 w8=>?_;have z8:IsZip e8 z TI TO (rawInt e5.objs.size):=z8;have u8:∀ c o,c≠z->e5.get? c=some o->e8.get? c=some o:=fun c o hc e=>w8.extBut c o hc (w7.extBut c o hc (BQ _ e));have n8:IsPair e8 e5.objs.size x y:=w8.extBut _ _ (J4 lz) (w7.extBut _ _ (J4 lz) (Ba _ rfl));rw [hsz] at z8 n8;refine jx ⟨_,rfl,jx ?_⟩;show Q (some (.ref e5.objs.size)) _;rw [hsz];exact q e8 z8 (u8 TO _ D.TOz o5) (r1.at fun o e=>u8 i1 o D.i1z e) (r2.at fun o e=>u8 i2 o D.i2z e) n8 fun c o c1 c2 c3 c4 e=>u8 c o c1 (u5 c o c1 c2 c3 c4 e)
def lJ {Q:Option Value->Shared->Prop}(hh:A.handled=none)(D:ZipApart z TI TO i1 i2 l1 l2)(hz:IsZip s.heap z TI TO .none)(Ib:IsPair s.heap TI (.ref i1) (.ref i2))(Ji:IsPair s.heap TO a b)
  (h1:D2 t1 s.heap i1 l1 k) (h2:D2 t2 s.heap i2 l2 k) (g1:E5 t1 s.heap l1 xs) (g2:E5 t2 s.heap l2 ys) (y0:xs[k]?=none∨ys[k]?=none)
  (q:∀ h',(∀ c o,c≠z->c≠TO->c≠i1->c≠i2->s.heap.get? c=some o->h'.get? c=some o)->Q none { s with heap:=h' }):wpAny (model prog w) A (pyNext (.ref z)) Q E s:=by
 have hT:s.TypeIs (.ref z) "zip" := ⟨_,hz,rfl⟩;unfold pyNext;have fin:∀ (h':Heap) (e:Addr),(∀ c o,c≠z->c≠TO->c≠i1->c≠i2->s.heap.get? c=some o->h'.get? c=some o)->(∃ o,h'.get? e=some o/\o.cls=.type "StopIteration")->wpAny (model prog w) A (do if <- isInstance (.ref e) (.type "StopIteration") then pure none else throw (.ref e)) Q E { s with heap:=h' }:=fun h' e hk ⟨o,ho,hc⟩=>
  ji (vT (T:="StopIteration") (b:=true) ⟨o,ho,hc⟩ ZAr (jx (q h' hk)))
 refine ji (yi (oJ (name:=Str.ofString "__next__") hT YM (oY YM hT F.entry_zip_next ?_ (F.args_zip_next_1 _))));show wpAny _ _ (field (.ref z) 2 >>= _) _ _ _;refine ji (pS hz rfl (x:=.bool false) rfl ?_);show wpAny _ _ (field (.ref z) 3 >>= _) _ _ _;refine ji (pS hz rfl (x:=.ref TI) rfl (ji (qr Ib rfl ?_)));show wpAny _ _ (Builtin.SmallTypes.ownedTupleIsFree (.ref z) >>= _) _ _ _;refine ji ?_;unfold Builtin.SmallTypes.ownedTupleIsFree;refine ji (pS hz rfl (x:=.none) rfl (jx ?_));simp only [ZAT];refine ji (zG (ji (pS hz rfl (x:=.ref TO) rfl (ji (sU hz (by simp) fun e1 z1 w1=>?_)))));have z1:IsZip e1 z TI TO .ellipsis:=z1;have u1:∀ c o,c≠z->s.heap.get? c=some o->e1.get? c=some o:=fun c o hc e=>w1.extBut c o hc e;refine ji ?_;simp only [ZD3,List.zipIdx_nil,YR,SI];refine ji (ji (ZAg ?_));show wpAny _ _ (Builtin.SmallTypes.nextOf (.ref i1) >>= _) _ _ _;cases hx:xs[k]? with
 | none=>
  refine ji (dY hh (h1.at fun o e=>u1 i1 o D.i1z e) (g1.at fun o e=>u1 l1 o D.l1z e) hx fun e2 e w2 he=>?_);have z2:IsZip e2 z TI TO .ellipsis:=w2 z _ D.i1z.symm z1;obtain ⟨oe,LH,N4⟩:=he;have So:e≠z:=fun q=>by subst q;rw [z2] at LH;cases LH;simp at N4
  exact sU z2 (by simp) fun e3 _ w3=>fin e3 e (fun c o c1 _ c3 _ y=>w3.extBut c o c1 (w2 c o c3 (u1 c o c1 y))) ⟨oe,w3.extBut _ _ So LH,N4⟩
 | some x=>
  have hy:ys[k]?=none:=y0.resolve_left (by rw [hx];simp);refine ji (U9 (h1.at fun o e=>u1 i1 o D.i1z e) (g1.at fun o e=>u1 l1 o D.l1z e) hx fun e2 p1 w2=>jx ?_);have u2:∀ c o,c≠z->c≠i1->s.heap.get? c=some o->e2.get? c=some o:=fun c o hc hd e=>w2.extBut c o hd (u1 c o hc e);have o2:IsPair e2 TO a b:=u2 TO _ D.TOz D.TOi1 Ji;refine ji (qr o2 rfl (ji (ZA6 o2 fun e3 o3 w3=>?_)));have u3:∀ c o,c≠z->c≠i1->c≠TO->s.heap.get? c=some o->e3.get? c=some o:=fun c o h1 h2 h3 e=>w3.extBut c o h3 (u2 c o h1 h2 e);refine ji (ZAa (jx (ji (ji (ZAg ?_)))));show wpAny _ _ (Builtin.SmallTypes.nextOf (.ref i2) >>= _) _ _ _;refine ji (dY hh (h2.at fun o e=>u3 i2 o D.i2z D.i12.symm D.TOi2.symm e) (g2.at fun o e=>u3 l2 o D.l2z D.l2i1 D.l2TO e) hy fun e4 e w4 he=>?_);have z4:IsZip e4 z TI TO .ellipsis:=w4 z _ D.i2z.symm (w3.extBut z _ D.TOz.symm (w2.extBut z _ D.i1z.symm z1));obtain ⟨oe,LH,N4⟩:=he;have So:e≠z:=fun q=>by subst q;rw [z4] at LH;cases LH;simp at N4
  exact sU z4 (by simp) fun e5 _ w5=>fin e5 e (fun c o c1 c2 c3 c4 y=>w5.extBut c o c1 (w4 c o c4 (u3 c o c1 c3 c2 y))) ⟨oe,w5.extBut _ _ So LH,N4⟩
end
noncomputable abbrev Qw (h:Heap)(t1:Bool)(l1:Addr):Heap:=h.push { cls:=.type (Mu t1),data:=.fields #[.ref l1,.int 0 0] }
noncomputable abbrev Pz (h:Heap)(t1 t2:Bool)(l1 l2:Addr):Heap:=(Qw h t1 l1).push { cls:=.type (Mu t2),data:=.fields #[.ref l2,.int 0 0] }
noncomputable abbrev PB (h:Heap)(t1 t2:Bool)(l1 l2:Addr):Heap:=(Pz h t1 t2 l1 l2).push { cls:=.type "tuple", data:=.seq #[.ref h.objs.size,.ref (Qw h t1 l1).objs.size] }
noncomputable abbrev Rg (h:Heap)(t1 t2:Bool)(l1 l2:Addr):Heap:=(PB h t1 t2 l1 l2).push { cls:=.type "tuple", data:=.seq #[.none,.none] }
noncomputable abbrev Ly (h:Heap)(t1 t2:Bool)(l1 l2:Addr):Heap:=(Rg h t1 t2 l1 l2).push { cls:=.type "zip", data:=.fields #[.none,.bool false,.bool false,.ref (Pz h t1 t2 l1 l2).objs.size,.ref (PB h t1 t2 l1 l2).objs.size] }
def u7 (t1 t2 : Bool)(l1 l2 : Addr)(xs ys : Array Value): Meets (Builtin.«zip.__new__» ⟨[.type "zip", .ref l1, .ref l2], []⟩) (fun _ R s => E5 t1 s.heap l1 xs /\ E5 t2 s.heap l2 ys /\
   R (.ok (.ret (.ref (Rg s.heap t1 t2 l1 l2).objs.size))) { s with heap:=Ly s.heap t1 t2 l1 l2 }):=
 .of_wp fun prog w A R s h=>by
  obtain ⟨hp,g,d,tk,os⟩:=s;obtain ⟨q1,q2,h⟩:=h;have G4:=sub_zip;have c1:E5 t1 (Shared.heap ⟨hp,g,d,tk,os⟩) l1 xs:=q1;have c2:E5 t2 (Shared.heap ⟨hp.push { cls:=.type (Mu t1),data:=.fields #[.ref l1,.int 0 0] },g,d,tk,os⟩) l2 ys:=E5.at q2 fun o e=>BQ _ e
  wp_walk using fM c1,fM c2
  exact ⟨_,rfl,h⟩
def D2.new {i:Addr}(e:h.get? i=some { cls:=.type (Mu tp),data:=.fields #[.ref l,.int 0 0] }):D2 tp h i l 0:=by
 cases tp
 ·exact ⟨_,e,rfl,rfl⟩
 ·exact ⟨_,e,rfl,rfl⟩
def mN (q1:E5 t1 s.heap l1 xs)(q2:E5 t2 s.heap l2 ys)
  (h:∀ h',IsZip h' (s.heap.objs.size+4) (s.heap.objs.size+2) (s.heap.objs.size+3) .none->IsPair h' (s.heap.objs.size+2) (.ref s.heap.objs.size) (.ref (s.heap.objs.size+1))->
   IsPair h' (s.heap.objs.size+3) .none .none->D2 t1 h' s.heap.objs.size l1 0->D2 t2 h' (s.heap.objs.size+1) l2 0->
   (∀ c o,s.heap.get? c=some o->h'.get? c=some o)->Q (.ref (s.heap.objs.size+4)) { s with heap:=h' }):wpAny (model prog w) A (call (.type "zip") [.ref l1,.ref l2]) Q E s:=by
 refine callType_new F.called_zip (by decide) (F.typeCall_zip_2 _ _) (F.newCall_zip_2 _ _) (fun obj=>F.args_object_init_3 obj _ _) F.entry_zip_new (u7 t1 t2 l1 l2 xs ys) ⟨q1,q2,?_⟩;have n1:(Qw s.heap t1 l1).objs.size=s.heap.objs.size+1:=Dr ..;have n2:(Pz s.heap t1 t2 l1 l2).objs.size=s.heap.objs.size+2:=by rw [Dr,n1]
 have n3:(PB s.heap t1 t2 l1 l2).objs.size=s.heap.objs.size+3:=by rw [Dr,n2]
 have n4:(Rg s.heap t1 t2 l1 l2).objs.size=s.heap.objs.size+4:=by rw [Dr,n3]
 have p:∀ {hp:Heap}{c o ob},hp.get? c=some o->(hp.push ob).get? c=some o:=fun e=>BQ _ e;have m5:(Ly s.heap t1 t2 l1 l2).get? (Rg s.heap t1 t2 l1 l2).objs.size=some _:=Ba _ rfl;have m4:(Ly s.heap t1 t2 l1 l2).get? (PB s.heap t1 t2 l1 l2).objs.size=some _:=p (Ba _ rfl);have m3:(Ly s.heap t1 t2 l1 l2).get? (Pz s.heap t1 t2 l1 l2).objs.size=some _:=p (p (Ba _ rfl));have m2:(Ly s.heap t1 t2 l1 l2).get? (Qw s.heap t1 l1).objs.size=some _:=p (p (p (Ba _ rfl)));have m1:(Ly s.heap t1 t2 l1 l2).get? s.heap.objs.size=some _:=p (p (p (p (Ba _ rfl))));show _/\_;rw [n2,n3,n4] at m5;rw [n1,n2] at m3;rw [n3] at m4;rw [n1] at m2;rw [n4];exact ⟨⟨_,m5,rfl⟩,h _ m5 m3 m4 (.new m1) (.new m2) fun c o e=>p (p (p (p (p e))))⟩
def Md {xs:List V}(I:Inv X pins σ H s)(h:EM X.K tp H a xs):∃ A3:List Value,Vals xs A3/\E5 tp s.heap a A3.toArray:=by
 cases tp
 ·obtain ⟨A3,rv,pl,_⟩:=I.list h;exact ⟨A3,rv,pl.isList⟩
 ·obtain ⟨A3,rv,pl,_⟩:=I.tuple h;exact ⟨A3,rv,pl⟩
noncomputable def bp (K:ZE6)(t1 t2:Bool)(a b:Addr)(xs ys:List V):It:=
 ⟨fun i H=>EM K t1 H a xs/\EM K t2 H b ys/\i<xs.length/\i<ys.length,fun i H x H'=>∃ p x1 y1,xs[i]?=some x1/\ys[i]?=some y1/\x=.ref p/\H p=none/\H'=upd H p (.tup [x1,y1]),fun i H=>EM K t1 H a xs/\EM K t2 H b ys/\(xs.length<=i∨ys.length<=i)⟩
def r6 {P:Program}{K:ZE6}(t1 t2:Bool)(a b z TI TO i1 i2:Addr)(xs ys:List V)(D:ZipApart z TI TO i1 i2 a b):
  Turn P w K (.Tuple es k1 p1) (bp K t1 t2 a b xs ys) [z,TI,TO,i1,i2] z (fun i h=>(IsZip h z TI TO .none/\IsPair h TI (.ref i1) (.ref i2))/\(∃ c d,IsPair h TO c d)/\D2 t1 h i1 a i/\D2 t2 h i2 b i) where
 mem:=by simp
 obj:=fun i h st c hc=>by
  obtain ⟨⟨s1,s2⟩,⟨d,e,s3⟩,g1,g2⟩:=st;obtain ⟨o1,_,q1,d1⟩:=g1.has;obtain ⟨o2,_,q2,d2⟩:=g2.has;simp only [CL,Aa,pN] at hc;rcases hc with rfl | rfl | rfl | rfl | rfl
  ·exact ⟨_,s1,fun v y=>by cases y⟩
  ·exact ⟨_,s2,fun v y=>by cases y⟩
  ·exact ⟨_,s3,fun v y=>by cases y⟩
  ·exact ⟨o1,q1,fun v y=>by rw [d1] at y;cases y⟩
  ·exact ⟨o2,q2,fun v y=>by rw [d2] at y;cases y⟩
 keep:=fun i h h' st k=>⟨⟨k z (by simp) _ st.1.1,k TI (by simp) _ st.1.2⟩,let ⟨c,d,s3⟩:=st.2.1;⟨c,d,k TO (by simp) _ s3⟩,st.2.2.1.at fun o q=>k i1 (by simp) o q,st.2.2.2.at fun o q=>k i2 (by simp) o q⟩
 item:=by
  intro X hP hw hK hc i pins s σ H E I hf st hg;subst hP hw hK;obtain ⟨Ic,OU,Xp,Cf⟩:=hg;obtain ⟨⟨hz,Ib⟩,⟨c,d,Ji⟩,LP,Pl⟩:=st;obtain ⟨iO,M9,Ln⟩:=Md I Ic;obtain ⟨BU,PR,IP⟩:=Md I OU;obtain ⟨u1,kl,ru1⟩:=M9.get (AX Xp);obtain ⟨u2,vK,kC⟩:=PR.get (AX Cf);refine wV D hz Ib Ji LP Pl Ln IP (x:=u1) (y:=u2) (by simpa using kl) (by simpa using vK) fun h1 a1 a2 a3 a4 a5 hk=>⟨_,rfl,?_⟩
  refine wpAny_letOwnedTupleGo_zip a1 fun h2 OE Ce=>?_;have lz:z<s.heap.objs.size:=B9 hz;have up:∀ b o,b≠z->h1.get? b=some o->h2.get? b=some o:=fun b o hb q=>(Ce.2 b hb).trans q;have Og:IsPair h2 s.heap.objs.size u1 u2:=up _ _ (J4 lz) a5;have kp:∀ b o,b∉[z,TI,TO,i1,i2]->s.heap.get? b=some o->h2.get? b=some o:=fun b o hb q=>by
   simp only [CL,Aa,pN,ZB3] at hb;exact up b o hb.1 (hk b o hb.1 hb.2.2.1 hb.2.2.2.1 hb.2.2.2.2 q)
  refine ⟨.ref s.heap.objs.size,_,I.Zc (t':=s.toks) (a:=s.heap.objs.size) (o:=.tup [xs[i],ys[i]]) hf kp (Ai _) ?_,rfl,⟨_,_,_,AX Xp,AX Cf,rfl,I.AK.fresh (Ai _),rfl⟩,?_,fun b hb=>?_⟩
  ·exact ⟨(by show 2<=sizeLine;decide),[u1,u2],.cons ru1 (.cons kC .nil),⟨_,Og,rfl,_,rfl⟩,fun ob q=>by rw [show h2.get? s.heap.objs.size=_ from Og] at q;cases q;rfl⟩
  ·exact ⟨⟨OE,up _ _ D.TIz (hk _ _ D.TIz D.TITO D.TIi1 D.TIi2 Ib)⟩,⟨_,_,up _ _ D.TOz a2⟩,a3.at fun o q=>up _ _ D.i1z q,a4.at fun o q=>up _ _ D.i2z q⟩
  ·have y:b<s.heap.objs.size:=by
    simp only [CL,Aa,pN] at hb;rcases hb with rfl | rfl | rfl | rfl | rfl
    ·exact lz
    ·exact B9 Ib
    ·exact B9 Ji
    ·obtain ⟨o,_,q,_⟩:=LP.has;exact B9 q
    ·obtain ⟨o,_,q,_⟩:=Pl.has;exact B9 q
   rw [An (Bf y)];exact (hf b hb).1
 done:=by
  intro X hP hw hK hc i pins s σ H E I hf st hg;subst hP hw hK;obtain ⟨Ic,OU,hx⟩:=hg;obtain ⟨⟨hz,Ib⟩,⟨c,d,Ji⟩,LP,Pl⟩:=st;obtain ⟨iO,M9,Ln⟩:=Md I Ic;obtain ⟨BU,PR,IP⟩:=Md I OU;have l1:=M9.length;have l2:=PR.length;exact lJ (I.ok.hd hc) D hz Ib Ji LP Pl Ln IP (hx.imp (fun h=>by simp;omega) (fun h=>by simp;omega)) fun h' eb=>⟨rfl,I.ai (t':=s.toks) hf fun b o hb q=>by
   simp only [CL,Aa,pN,ZB3] at hb;exact eb b o hb.1 hb.2.2.1 hb.2.2.2.1 hb.2.2.2.2 q⟩
 self:=fun _ _ _ _ _ st h=>wpAny_pyIter_zip st.1.1 h
section
def UT (K:ZE6)(t:TA):TI:=fun σ H R=>t σ H fun vs H1=>∃ a b t1 t2 xs ys,vs=[.ref a,.ref b]/\EM K t1 H1 a xs/\EM K t2 H1 b ys/\R (bp K t1 t2 a b xs ys) H1
def Zd {p:Pos}{l l2:Expr}{t:TA}(hg:Gl X "zip")(hm:X.mg "zip"=none)(ha:QA X [l,l2] t)(hs:starEach [l,l2] X.env=(false,eval l X.env)::starEach [l2] X.env:=by rfl)(hp:(backTo pos (starEach [l2] X.env)).any (·.1)=false:=by rfl):
  QI X (.Tuple es k1 p1) (.Call (.Name "zip" p) [l,l2] [] pos) (UT X.K t):=⟨by
 have ha:=ha.h;intro pins s σ H R I h;refine qN (Iq I hg hm (show bootBuiltins "zip"=some (.type "zip") by decide +kernel) ?_ (by decide) (by decide));refine Mj (AL (ha pos pins s σ H _ I h) fun us s1 ⟨vs,H1,I1,r1,q1⟩=>?_) hs hp;obtain ⟨a,b,t1,t2,xs,ys,rfl,Ic,OU,q⟩:=q1;obtain ⟨u1,u2,rfl,rx,ry⟩:=vals2 r1;cases rx;cases ry;obtain ⟨iO,M9,Ln⟩:=Md I1 Ic;obtain ⟨BU,PR,IP⟩:=Md I1 OU;have e1:a<s1.heap.objs.size:=by cases t1 <;> (obtain ⟨_,e,_⟩:=Ln;exact B9 e)
 have e2:b<s1.heap.objs.size:=by cases t2 <;> (obtain ⟨_,e,_⟩:=IP;exact B9 e)
 refine mN Ln IP fun h' c1 c2 c3 c4 c5 kp=>wpAny_pyIter_zip c1 ?_;refine ⟨_,[s1.heap.objs.size+4,s1.heap.objs.size+2,s1.heap.objs.size+3,s1.heap.objs.size,s1.heap.objs.size+1],_,_,H1,rfl,I1.kept (t':=s1.toks) kp,r6 t1 t2 a b _ _ _ _ _ xs ys (zipApart_new e1 e2),⟨⟨c1,c2⟩,⟨_,_,c3⟩,c4,c5⟩,fun b hb=>?_,q⟩;have y:s1.heap.objs.size<=b:=by
  simp only [CL,Aa,pN] at hb;rcases hb with rfl | rfl | rfl | rfl | rfl
  ·exact Yc _ 4
  ·exact Yc _ 2
  ·exact Yc _ 3
  ·exact Ai _
  ·exact Yc _ 1
 exact I1.L7 y (I1.AK.fresh y)⟩
variable {l:Expr}{tl t:TE}{st:Stmt}{ts:TS}
end
end L2
namespace L2
variable {values vs:List Expr}{Eu:List (TE×TE)}
section
variable {X:Cx}{pos:Pos}
def oF:JI X pos [] [] []:=l7
def WM {k v:Expr}{ks:List (Option Expr)}{tk tv:TE}(hk:QE X k tk)(hv:QE X v tv)(hr:JI X pos ks vs Eu):JI X pos (some k::ks) (v::vs) ((tk,tv)::Eu):=pG hk.h hv.h hr
def uP {keys:List (Option Expr)}(h:JI X pos keys values Eu)(JV:keys.all (·.isSome)=true)(hl:keys.length=values.length)(h0:keys≠[])(Rp:keys.length<=15):QE X (.Dict keys values pos) (U4 Eu):=⟨by
 intro pins s σ H Q I q;have hn:=I.AK.fresh (Ai s.heap.objs.size);have I1:=I.laid (a:=s.heap.objs.size) (o:=.dK []) (h':=s.heap.push { cls:=.type "dict", data:=.dict #[] }) (t':=s.toks) (fun _ _ q=>BQ _ q) (Ai _) (Zv s.heap I.big);refine wpAny_Dict_walk (knd:=DF X.prog X.w) JV hl h0 Rp (AL (h pins _ σ _ _ I1 (q _ hn)) fun ws s2 ⟨ps,H2,I2,rel,e,A8,ep,lk,q2⟩=>?_);subst ep;obtain ⟨rs,c,rk⟩:=bc (P:=X.prog) (w:=X.w) rel;obtain ⟨z,hd,M8,r0,dd⟩:=fN I2.AK e;cases r0;refine ⟨rs,c,dd,fun h' Kz hs=>⟨.ref s.heap.objs.size,_,?_,rfl,q2⟩⟩;have hz:(Jl [] A8).length<=sizeLine:=by
  have h1:=aL A8 [];rw [YT] at h1;rw [sizeLine_eq];omega
 have he:∃ q,h'.get? s.heap.objs.size=some q:=let ⟨q,_,_,hq,_⟩:=Kz;⟨q,hq⟩;exact Vq I2 (by rw [e];exact True.intro) hs he (fk hz hd (rk.merge .nil) Kz)⟩
end
theorem cK:∀ (more acc:List (Key×V)),((acc++more).map (·.1)).Nodup->Jl acc more=acc++more
 | [],acc,_=>by rw [Df];rfl
 | p::r,acc,h=>by
  show Jl (putK acc p.1 p.2) r=_;have hp:acc.any (fun kv=>decide (kv.1=p.1))=false:=by
   rw [ZCi];intro q hq e;have e':=k9 e;rw [Be,BL,Cs] at h;exact h.2.2 q.1 (List.mem_map.mpr ⟨q,hq,rfl⟩) p.1 Ft e'
  have e:putK acc p.1 p.2=acc++[p]:=by
   unfold putK;rw [hp];rfl
  rw [e,cK r (acc++[p]) (by rw [Cd];exact h),Cd];rfl
end L2
namespace Fz
open L2 Lw
variable {ss:List Slot}{E:Ent0}{σ:L2.St}{F H:Hp}{p:Addr}{ta:TA}{Q:VK}{i n:Nat}{pre:Pre}
section
variable [Xw]
def ZAX {F1 H1:Hp}{o:HO}(S:Sg E ss σ F H)(m:Mv E ss σ F H F1 H1)(hp:H p=none)(hf:F1 p=none):Mv E ss σ F H F1 (upd H1 p o):=
 S.step m.ff (fun a u e=>by rw [An (by rintro rfl;rw [hf] at e;cases e)];exact m.st.fh a u e)
  (fun a u n e=>by rw [An (by rintro rfl;rw [hp] at e;cases e)];exact m.hh a u n e) m.nn
  fun i l hi e=>Bj.keep (m.st.Ez hi e) fun u e2=>by
   rw [An (by
    rintro rfl;obtain ⟨_,_,e3,_⟩:=S.Ez hi e;rw [hp] at e3;cases e3)]
   exact e2
def wa {k:List Nat->OV->Prop}{E:Ent}(ks:List Str)(hk:ks.Nodup)(Rp:ks.length<=15)(S:Sg E ss σ F H)(hp:H p=none)
  (h:MG ss ta fun m us=>us.length=ks.length/\∀ l,k m (.nd (.B7 (ks.map Sum.inr)) l us))
  (q:∀ v m u F' H',Mv E ss σ F H F' H'->B8 F' H' v u->u.addrs.Nodup->(∀ a∈u.addrs,F' a=none/\E.H0 a=none/\((∃ i∈m,∃ s,s≠Slot.AS/\ss[i]?=some s/\BW s σ[i]? a)∨H a=none))->k m u->Q v H') :
  ta σ (upd H p (.dK [])) fun vs H2=>H2 p=some (.dK [])/\∃ A8:List (Key×V),List.zipWith (fun s v=>(V.str s,v)) ks vs=A8.map (fun kv=>(kV kv.1,kv.2))/\A8.length<=15/\Q (.ref p) (upd H2 p (.dK (Jl [] A8))):=by
 have m0:=S.make hp (.dK []);have yb:F p=none:=S.C5 hp;refine h.go E σ F _ _ m0.st fun vs m us F1 H1 m1 r1 GU a1 ⟨hl,kk⟩=>?_;have R9:H1 p=some (.dK []):=m1.hh p _ (S.Ij hp) B0;have gy:F1 p=none:=by
  cases e:F1 p with
  | none=>rfl
  | some o=>
   rcases m1.nn p o e with z | z
   ·rw [yb] at z;cases z
   ·rw [B0] at z;cases z
 have lv:vs.length=ks.length:=by rw [r1.length,hl]
 have ez:List.zipWith (fun s v=>(V.str s,v)) ks vs=((ks.map Sum.inr).zip vs:List (Key×V)).map (fun kv=>(kV kv.1,kv.2)):=by
  rw [List.zip_eq_zipWith,List.zipWith_map_left,List.map_zipWith];rfl
 refine ⟨R9,(ks.map Sum.inr).zip vs,ez,by rw [SM,AA];omega,?_⟩;have nk:((ks.map Sum.inr:List Key)).Nodup:=ZCh _ (fun a b (h:a≠b)=>fun z=>h (by injection z)) hk;rw [cK _ [] (by rw [J3,List.map_fst_zip (by rw [AA];omega)];exact nk),J3];have mv:=ZAX (o:=.dK ((ks.map Sum.inr).zip vs)) S (m0.trans m1) hp gy;have Fg:p∉OV.Ag us:=fun ha=>by
  rcases (a1 p ha).2.2 with ⟨i,_,s,_,hs,ow⟩ | z
  ·exact S.Dw hs ow hp
  ·rw [B0] at z;cases z
 refine q _ m (.nd (.B7 (ks.map Sum.inr)) p us) F1 _ mv (.nd (k:=.B7 (ks.map Sum.inr)) (vs:=vs) B0 trivial (show (List.map Sum.inr ks:List Key).length=vs.length by rw [AA];exact lv.symm) (r1.mono (AV.refl _) fun a ha o e=>by rw [An (by rintro rfl;exact Fg ha)];exact e)) ?_ (fun a ha=>?_) (kk p)
 ·rw [OV.DJ];exact List.nodup_cons.mpr ⟨Fg,GU⟩
 ·rw [OV.DJ] at ha;rcases List.mem_cons.mp ha with e | ha
  ·subst e;exact ⟨gy,S.DW hp,.inr hp⟩
  ·obtain ⟨f,h0,w⟩:=a1 a ha;exact ⟨f,h0,w.imp id fun z=>by
    by_cases c:a=p
    ·subst c;exact hp
    ·rw [An c] at z;exact z⟩
def xg {k:List Nat->OV->Prop}{k1 k2 k3:Str}{t1 t2 t3:TE}(hk:[k1,k2,k3].Nodup)(h:MG ss (Ap t1 (Ap t2 (Ap t3 BV))) fun m us=>us.length=3/\∀ l,k m (.nd (.B7 [.inr k1,.inr k2,.inr k3]) l us)):Wx ss (U4 [(tC (.str k1),t1),(tC (.str k2),t2),(tC (.str k3),t3)]) k:=⟨fun E σ F H Q S q p hp=>
 wa (ta:=Ap t1 (Ap t2 (Ap t3 BV))) [k1,k2,k3] hk (by show (_:Nat)+1<=15;simp) S hp h q⟩
variable {te:TE}{t:OV}
end
def ZAh {N:List Str}{vs:List V}{X:XK}{t:TS}(h:Dl pre vs H Q X)(hl:∀ ss R,pre ss R->ss.length=n)
  (hw:∀ ss R,pre ss R->Ws (ss++List.replicate (N.length - n) .any) t (Y1 R) R):t { nx:=fun _ H'=>Q .AB H',rt:=Q } (L2.start N vs) H:=by
 obtain ⟨ss,R,F,A,B,hp,S,q⟩:=h;have e:vs.length=n:=by have:=S.len;rw [AA] at this;rw [<- this];exact hl ss R hp
 unfold L2.start;rw [e];exact (hw ss R hp).go (Ou ⟨A,F,H,B⟩) _ _ F H (S.grown _) (fun A9 σ' F' H' z S' _=>q .AB F' H' S'.toFin (z.ok S')) fun v F' H' f ok=>q v F' H' f ok
end Fz
namespace Fz
open L2 Lw
section
variable [Xw]
variable {ss:List Slot}{te:TE}{K:ZE6}{P:Program}{w:World}
variable {E:Ent0}{σ:L2.St}{F H F' H':Hp}{js:List Nat}{ta tb:TE}
def ig {E:Ent}{F1:Hp}{v:V}{tp:Bool}{xs:List PV}(f:Fv E.toEnt0 F1 v tp xs):∃ l vs,v=.ref l/\(∀ (ss:List Slot) (σ:L2.St) (F H:Hp),AV F1 F->Sg E.toEnt0 ss σ F H->H l=some (DP tp vs))/\AJ F1 vs xs:=by
 cases tp with
 | true=>
  have f':Rep F1 v (.tup xs):=f;cases f' with
  | tup e r=>exact ⟨_,_,rfl,fun ss σ F H s S=>S.fh _ _ (s _ _ e),r⟩
 | false=>
  obtain ⟨l,vs,e,h1,r⟩:=f;refine ⟨l,vs,e,fun ss σ F H s S=>?_,r⟩;rcases h1 with h1 | ⟨hA,h1⟩
  ·exact S.fh _ _ (s _ _ h1)
  ·exact S.keep _ _ hA h1
def dr {k:List PV->Prop}(h:Wz ss ta fun _ xs=>Wz ss tb fun _ ys=>k (ET xs ys)):Wi ss (UT K (Ap ta (Ap tb BV))) k:=⟨fun E σ F H R S q=>
 h.go E σ F H _ S fun v tp xs F1 H1 m1 f h2=>h2.go E σ F1 H1 _ m1.st fun v2 Bw ys F2 H2 m2 f2 kk=>by
  obtain ⟨l,vs,e,O5,r⟩:=ig f;obtain ⟨l2,Ff,e2,a2,r2⟩:=ig f2;have r:=r.mono m2.ff;have a1:∀ (ss:List Slot) (σ:L2.St) (F H:Hp),AV F2 F->Sg E ss σ F H->H l=some (DP tp vs):=fun ss σ F H s S=>O5 ss σ F H (fun a o e=>s a o (m2.ff a o e)) S;subst e;subst e2;have c:=r.length;have c2:=r2.length;refine ⟨l,l2,tp,Bw,vs,Ff,rfl,DP.sq (a1 ss σ F2 H2 (AV.refl _) m2.st),DP.sq (a2 ss σ F2 H2 (AV.refl _) m2.st),q _ (ET xs ys) F2 H2 (m1.trans m2) ⟨fun ss σ F H i s S hi=>?_,fun ss σ F H s S=>?_,fun ss σ F H i x H' s S hi y=>?_⟩ kk⟩
  ·rw [RC] at hi;exact ⟨DP.sq (a1 ss σ F H s S),DP.sq (a2 ss σ F H s S),by omega,by omega⟩
  ·refine ⟨DP.sq (a1 ss σ F H s S),DP.sq (a2 ss σ F H s S),?_⟩;rw [RC];omega
  ·obtain ⟨p,x1,y1,hx,hy,ex,hp,eH⟩:=y;subst ex;subst eH;obtain ⟨z1,Sb,w6⟩:=r.get' hx;obtain ⟨z2,OE,k8⟩:=r2.get' hy;have m:=S.alloc hp (.tup [x1,y1]);exact ⟨_,_,Yp Sb OE,m,.tup B0 (.cons (w6.mono (s.trans m.ff)) (.one (k8.mono (s.trans m.ff))))⟩⟩
def XZ {n:Nat}{wi:TI}{tt:TT}{te:TE}{k:List PV->Prop}(f:PV->Bool)(g:PV->PV)
  (h:Wi ss wi fun xs=>xs.length<=100000/\(∀ x∈xs,∃ as:List PV,x=.tup as/\as.length=n/\Wt (CG js ss++as.map .is) tt (fun c=>c=f x)/\(f x=true->Wp (CG js ss++as.map .is) te fun p=>p=g x))/\k ((xs.filter f).map g))
  (nd:js.Nodup:=by decide) (np:NP js ss=true:=by rfl):Wn ss (MS K n wi js tt te) k:=⟨fun E σ F H Q S q=>
 h.go E σ F H _ S fun J xs F1 H1 m1 sr ⟨hz,he,kk⟩ acc Ay=>by
  have Fg:Ca ss σ acc:=m1.st.Ij Ay;have JW:=m1.st.DW Ay;have K9:∀ (i:Nat) s,ss[i]?=some s->¬ BW s σ[i]? acc:=fun i s hi=>m1.st.JD hi Ay;refine ⟨fun i m H2=>m=xs.length - i/\i<=xs.length/\∃ F2 vs,Mv E ss σ F1 H1 F2 H2/\F2 acc=none/\H2 acc=some (.lst vs)/\AJ F2 vs (((xs.take i).filter f).map g),⟨_,rfl,CM _,F1,[],m1.st.make Ay _,m1.st.C5 Ay,B0,.nil⟩,?_⟩;rintro i m H2 ⟨rfl,hi,F2,vs,m2,fa,ha,rv⟩
  by_cases AQ:i<xs.length
  ·refine .inr ⟨sr.go ss σ F2 H2 i m2.ff m2.st AQ,fun x H3 y=>?_⟩;obtain ⟨p,F3,hp,m3,rp⟩:=sr.EU ss σ F2 H2 i x H3 m2.ff m2.st AQ y;have Ie:p∈xs:=C7 hp;have JE:(xs.take (i+1))=xs.take i++[p]:=by
    have e2:xs[i]=p:=by rw [AX AQ] at hp;exact Bc hp
    rw [P2 AQ,e2]
   have e1:List.filter f (xs.take (i+1))=(xs.take i).filter f++(if f p=true then [p] else []):=by
    rw [JE,YQ];congr 1
    by_cases hf:f p=true <;> simp [hf]
   have IY:∀ {F4:Hp},(∀ a o,F4 a=some o->F2 a=some o∨H2 a=none)->F4 acc=none:=fun {F4} n=>by
    cases e:F4 acc with
    | none=>rfl
    | some o=>
     rcases n acc o e with w | w
     ·rw [fa] at w;cases w
     ·rw [ha] at w;cases w
   obtain ⟨as,ep,hn,ht,hw⟩:=he p Ie;rw [ep] at rp;cases rp with
   | tup e r=>
    refine ⟨_,_,rfl,Aq.of (m3.st.fh _ _ e),by rw [r.length,hn],?_⟩;have S3:=m3.st.AI (js:=js) nd r;refine ht.go E _ F3 H3 _ S3 fun c F4 H4 m4 hb=>?_;have JR:=m4.out (ps:=as) m3.st np;have CY:=m3.trans JR;show if c=true then _ else _
    rw [hb]
    by_cases hf:f p=true
    ·rw [mZ hf];have S4:=CY.st.AI (js:=js) nd (r.mono JR.ff);refine (hw hf).go E _ F4 H4 _ S4 fun w pw F5 H5 m5 Hy ew=>?_;have KW:=m5.out (ps:=as) CY.st np;have DG:=CY.trans KW;have Jz:=DG.hh acc _ Fg ha;have HD:=IY DG.nn;have hlen:vs.length<=99999:=by
      rw [rv.length,AA];have:=SK f (xs.take i);rw [DM] at this;omega
     refine ⟨vs,Jz,Jc hlen,xs.length - (i+1),by omega,rfl,AQ,F5,vs++[w],?_,HD,B0,?_⟩
     ·have Dn:=m2.trans DG;refine ⟨Dn.st.MI HD (.inl JW) K9,Dn.ff,fun a o n e=>?_,Dn.nn⟩;rw [An (Dj e Ay)];exact Dn.hh a o n e
     ·rw [e1,mZ hf,Be];rw [ew] at Hy;exact (rv.mono DG.ff).append (.one Hy)
    ·have Ot:f p=false:=by simpa using hf
     rw [Ot,k6 (by decide)];refine ⟨xs.length - (i+1),by omega,rfl,AQ,F4,vs,m2.trans CY,IY CY.nn,CY.hh acc _ Fg ha,?_⟩;rw [e1,k6 hf,Df];exact rv.mono CY.ff
  ·have e:i=xs.length:=by omega
   subst e;refine .inl ⟨sr.stop ss σ F2 H2 m2.ff m2.st,q acc vs _ F2 H2 (m1.trans m2) fa (m1.none Ay) ha ?_ kk⟩;rw [FQ] at rv;exact rv⟩
end
end Fz
namespace L2
def tF {X:Cx}:Gz X "list.clear" Sw:=lV
end L2
namespace L2
section
variable {X:Cx}{e:Expr}{t1 t2:TE}{u1 u2:TT}
def W3 (t1 t2:TT):TT:=fun σ H Q=>t1 σ H Q∨t2 σ H Q
def wj (h1:QT X e u1)(h2:QT X e u2):QT X e (W3 u1 u2):=⟨fun pins s σ H Q I h=>h.elim (h1.h pins s σ H Q I) (h2.h pins s σ H Q I)⟩
end
end L2
namespace Fz
open L2 Lw
variable {ss:List Slot}{te:TE}{a a0 b:Addr}
section
variable [Xw]
variable {K:ZE6}{ta tb tc ti t1 t2:TE}{u1 u2:TT}{nx:List Slot->Prop}{R:As}{xs ps:List PV}{i j:Nat}{t:OV}{lt:Bool}{js:List Nat}
def yf {k:Bool->Prop}(h:Wt ss u1 k):Wt ss (W3 u1 u2) k:=⟨fun E σ F H Q S q=>.inl (h.go E σ F H Q S q)⟩
def kE {k:Bool->Prop}(h:Wt ss u2 k):Wt ss (W3 u1 u2) k:=⟨fun E σ F H Q S q=>.inr (h.go E σ F H Q S q)⟩
def wO {n:Nat}{wi:TI}{tt:TT}{k:List Nat->OV->Prop}(G:PV->OV->Prop)
  (h:Wi ss wi fun xs=>xs.length<=99999/\(∀ x∈xs,∃ as:List PV,x=.tup as/\as.length=n/\Wt (CG js ss++as.map .is) tt (fun c=>c=true)/\Wx (CG js ss++as.map .is) te fun m u=>m=[]/\G x u)/\∀ l us,us.length=xs.length->(∀ (j:Nat) x u,xs[j]?=some x->us[j]?=some u->G x u)->k [] (.nd .lst l us))
  (nd:js.Nodup:=by decide) (np:NP js ss=true:=by rfl):Wx ss (MS K n wi js tt te) k:=⟨fun E σ F H Q S q=>
 h.go E σ F H _ S fun J xs F1 H1 m1 sr ⟨hz,he,kk⟩ acc Ay=>by
  have Fg:Ca ss σ acc:=m1.st.Ij Ay;have JW:=m1.st.DW Ay;have K9:∀ (i:Nat) s,ss[i]?=some s->¬ BW s σ[i]? acc:=fun i s hi=>m1.st.JD hi Ay;refine ⟨fun i m H2=>m=xs.length - i/\i<=xs.length/\∃ F2 vs us,Mv E ss σ F1 H1 F2 H2/\F2 acc=none/\H2 acc=some (.lst vs)/\BB F2 H2 vs us/\(OV.Ag us).Nodup/\(∀ a∈OV.Ag us,F2 a=none/\H1 a=none/\a≠acc)/\us.length=i/\∀ (j:Nat) x u,xs[j]?=some x->us[j]?=some u->G x u,
   ⟨_,rfl,CM _,F1,[],[],m1.st.make Ay _,m1.st.C5 Ay,B0,.nil,by rw [OV.Fd];exact HH,fun a ha=>by (rw [OV.Fd] at ha;cases ha),rfl,fun j x u _ e=>by simp at e⟩,?_⟩
  rintro i m H2 ⟨rfl,hi,F2,vs,us,m2,fa,ha,rv,Me,LB,K8,hG⟩
  by_cases AQ:i<xs.length
  ·refine .inr ⟨sr.go ss σ F2 H2 i m2.ff m2.st AQ,fun x H3 y=>?_⟩;obtain ⟨p,F3,hp,m3,rp⟩:=sr.EU ss σ F2 H2 i x H3 m2.ff m2.st AQ y;have Ie:p∈xs:=C7 hp;have IY:∀ {F4:Hp},(∀ a o,F4 a=some o->F2 a=some o∨H2 a=none)->F4 acc=none:=fun {F4} n=>by
    cases e:F4 acc with
    | none=>rfl
    | some o=>
     rcases n acc o e with w | w
     ·rw [fa] at w;cases w
     ·rw [ha] at w;cases w
   obtain ⟨as,ep,hn,ht,hw⟩:=he p Ie;rw [ep] at rp;cases rp with
   | tup e r=>
    refine ⟨_,_,rfl,Aq.of (m3.st.fh _ _ e),by rw [r.length,hn],?_⟩;have S3:=m3.st.AI (js:=js) nd r;refine ht.go E _ F3 H3 _ S3 fun c F4 H4 m4 hb=>?_;have JR:=m4.out (ps:=as) m3.st np;have CY:=m3.trans JR;show if c=true then _ else _
    rw [hb,mZ rfl];have S4:=CY.st.AI (js:=js) nd (r.mono JR.ff);refine hw.go E _ F4 H4 _ S4 fun w mm u F5 H5 m5 Hy nj hu ⟨em,uZ⟩=>?_;subst em;have KW:=m5.out (ps:=as) CY.st np;have DG:=CY.trans KW;have Jz:=DG.hh acc _ Fg ha;have HD:=IY DG.nn;have hlen:vs.length<=99999:=by rw [rv.length,K8];omega
    have bb:∀ b∈OV.Ag us,Ca ss σ b:=fun b hb=>m1.st.Ij (LB b hb).2.1;have r5:=rv.mono DG.ff fun b hb o eo=>DG.hh b o (bb b hb) eo;have r4:=rv.mono CY.ff fun b hb o eo=>CY.hh b o (bb b hb) eo;have un:∀ b∈u.addrs,F5 b=none/\H4 b=none:=fun b hb=>by
     obtain ⟨f,_,w⟩:=hu b hb;exact ⟨f,w.elim (fun ⟨_,z,_⟩=>absurd z (by simp)) id⟩
    have v7:H4 acc≠none:=by rw [CY.hh acc _ Fg ha];simp
    have Yk:∀ b∈u.addrs,b≠acc:=fun b hb z=>v7 (z▸(un b hb).2);have ad:OV.Ag (us++[u])=OV.Ag us++u.addrs:=by rw [JQ,Kr]
    have wq:∀ b,F2 b=none->H2 b≠none->F5 b=none:=fun b h1 h2=>DG.ZH h1 h2;refine ⟨vs,Jz,Jc hlen,xs.length - (i+1),by omega,rfl,AQ,F5,vs++[w],us++[u],?_,HD,B0,?_,?_,fun b hb=>?_,by rw [B2,K8];rfl,fun j x u' hx Fn=>?_⟩
    ·have Dn:=m2.trans DG;refine ⟨Dn.st.MI HD (.inl JW) K9,Dn.ff,fun a o n e=>?_,Dn.nn⟩;rw [An (Dj e Ay)];exact Dn.hh a o n e
    ·refine (r5.append (.one Hy)).mono (AV.refl _) fun b hb o eo=>?_;rw [An ?_]
     ·exact eo
     ·rw [ad] at hb;rcases List.mem_append.mp hb with hb | hb
      ·exact (LB b hb).2.2
      ·exact Yk b hb
    ·rw [ad,Cs];refine ⟨Me,nj,fun b hb c hc qk=>?_⟩;subst qk;exact r4.there b hb (un b hc).2
    ·rw [ad] at hb;rcases List.mem_append.mp hb with hb | hb
     ·exact ⟨wq b (LB b hb).1 (rv.there b hb),(LB b hb).2⟩
     ·exact ⟨(un b hb).1,(m2.trans CY).none (un b hb).2,Yk b hb⟩
    ·by_cases c:j<us.length
     ·rw [DK c] at Fn;exact hG j x u' hx Fn
     ·rw [Ej (by omega)] at Fn;have hj:j=us.length:=by
       have:=(List.getElem?_eq_some_iff.mp Fn).1;simp at this;omega
      subst hj;simp at Fn;subst Fn;rw [K8,hp] at hx;cases hx;exact uZ
  ·have e:i=xs.length:=by omega
   subst e;refine .inl ⟨sr.stop ss σ F2 H2 m2.ff m2.st,?_⟩;refine q _ [] (.nd .lst acc us) F2 H2 (m1.trans m2) (.nd (k:=.lst) ha trivial trivial rv) ?_ (fun b hb=>?_) (kk acc us K8 hG)
   ·rw [OV.DJ];exact List.nodup_cons.mpr ⟨fun z=>(LB acc z).2.2 rfl,Me⟩
   ·rw [OV.DJ] at hb;rcases List.mem_cons.mp hb with e | hb
    ·subst e;exact ⟨fa,JW,.inr (m1.none Ay)⟩
    ·have hb:b∈OV.Ag us:=by simpa [NK.more] using hb
     have z:=(LB b hb).2.1;exact ⟨(LB b hb).1,m1.st.DW z,.inr (m1.none z)⟩⟩
def y8 (h:Wl ss i t ta fun p u=>∃ lt a us,ss[i]?=some (.ow lt t)/\u=.nd .lst a us/\nx (ss.set i (.ow lt (t.put p (.nd .lst a []))))):Ws ss (HQ (RI K "list" Sw ta)) nx R:=⟨fun E D σ F H S hn hr=>
 h.go E σ F H _ S fun v p u F1 H1 m1 r1 CN ⟨lt,a,us,hi,eu,kk⟩=>by
  subst eu;cases r1 with
  | @nd k a' vs _ ha sd ft rr=>
   refine ⟨.inl ⟨rfl,_,AY.of ha⟩,a,vs,rfl,rfl,ha,hn _ σ F1 _ kk (Sg.gf (m:=[]) (u:=.fz .AB) m1.st m1.st hi CN (fun b hb=>by rw [OV.NB] at hb;cases hb) (by simp) .nil (by rw [OV.Fd];exact HH) fun b hb=>by rw [OV.Fd] at hb;cases hb) m1.ff⟩⟩
structure ZU (ss:List Slot) (g:TG) (u:OV) (k:List Slot->Prop):Prop where
 go:∀ (E:Ent) (σ:L2.St) (F H:Hp) (v:V) (Q:L2.St->Hp->Prop),Sg E ss σ F H->B8 F H v u->(∀ A9 σ',k A9->Sg E A9 σ' F H->Q σ' H)->g v σ H Q
def tG {n1 n2 n3:Nat}{p q:PV}{nk:NK}{us:List OV}{k:List Slot->Prop}(h:k (((ss.set n1 (.is p)).set n2 (.raw (ptr b))).set n3 (.is q))):ZU ss (Kj K 3 (Gm (CO n1) (Gm (CO n2) (Gm (CO n3) LR)))) (.tp [.fz p,.nd nk b us,.fz q]) k:=⟨fun E σ F H v Q S r qq=>by
 cases r with
 | tp e r=>
  cases r with
  | cons r1 r=>cases r with
   | cons r2 r=>cases r with
    | cons r3 r=>cases r with
     | nil=>
      cases r1 with
      | fz r1=>cases r3 with
       | fz r3=>cases r2 with
        | nd _ _ _ _=>
         refine ⟨_,_,rfl,Aq.of (S.fh _ _ e),rfl,_,_,rfl,_,_,rfl,_,_,rfl,rfl,qq _ _ h ?_⟩;exact ((S.Fp r1).setG (j:=n2) (s:=.raw (ptr b)) (v:=.ref b) ⟨_,rfl,rfl,fun _ _ _ h=>h⟩ fun _ z=>by cases z).Fp r3⟩
def zg {g:TG}{tb:TS}(N:Nat)(I:Nat->List Slot->Prop)(h0:I 0 ss)(st:∀ n A9,n<=N->I n A9->∃ lt us,A9[i]?=some (.ow lt (.nd .lst a0 us))/\us.length=N/\(n<N->∃ u,us[n]?=some u/\ZU A9 g u fun CA=>Ws CA tb (I (n+1)) R))(hd:∀ A9,I N A9->nx A9):
  Ws ss (Qn (Uc K (BI i)) g tb) nx R:=⟨fun E D σ F H S hn hr=>by
 have look:∀ {A9:List Slot}{σ':L2.St} {F' H':Hp}{lt:Bool}{us:List OV},Sg E A9 σ' F' H'->A9[i]?=some (.ow lt (.nd .lst a0 us))->σ'[i]?=some (some (.ref a0))/\∃ vs,H' a0=some (.lst vs)/\BB F' H' vs us:=fun {A9 σ' F' H' lt us} S hi=>by
  obtain ⟨v,e,r,_,_⟩:=S.ok i _ hi;cases r with
  | nd ha _ _ rr=>exact ⟨e,_,ha,rr⟩
 obtain ⟨lt,us,hi,hl,_⟩:=st 0 ss (CM _) h0;obtain ⟨e,vs,hv,rv⟩:=look S hi;refine ⟨_,e,a0,rfl,⟨vs,AY.of hv⟩,?_⟩;refine ⟨fun n m σ' H'=>m=N - n/\n<=N/\∃ A9 F',I n A9/\Sg E A9 σ' F' H'/\AV F F',⟨_,rfl,CM _,ss,F,h0,S,AV.refl _⟩,?_⟩;rintro n m σ' H' ⟨rfl,Xl,A9,F',hI,S',s'⟩;obtain ⟨lt',Bt,CV,Fb,tn⟩:=st n A9 Xl hI;obtain ⟨_,Bh,IA,aY⟩:=look S' CV;have ll:=aY.length
 by_cases AQ:n<N
 ·obtain ⟨u,hu,wg⟩:=tn AQ;obtain ⟨v,dA,kf⟩:=aY.get hu;refine .inr ⟨⟨Bh,v,AY.of IA,dA⟩,fun σ2 H2=>∃ CA F2,I (n+1) CA/\Sg E CA σ2 F2 H2/\AV F F2,fun σ2 H2 ⟨CA,F2,a,b,c⟩=>⟨_,by omega,rfl,AQ,CA,F2,a,b,c⟩,fun x H3 y=>?_⟩;obtain ⟨eH,hx⟩:=y;subst eH;have ex:x=v:=by
   have:=hx Bh (AY.of IA);rw [dA] at this;exact (Bc this).symm
  subst ex;refine wg.go E σ' F' H3 _ _ S' kf fun yy σ4 w S4=>?_;exact w.go E _ σ4 F' H3 S4 (fun OH σ5 F5 H5 n5 S5 s5=>⟨OH,F5,n5,S5,s'.trans s5⟩) hr
 ·have e:n=N:=by omega
  subst e;refine .inl ⟨⟨Bh,AY.of IA,by omega⟩,?_⟩;exact hn _ _ F' H' (hd _ hI) S' s'⟩
end
noncomputable def DU:Slot->Slot
 | .own xs=>.is (.lst xs)
 | .ow _ t=>.is t.pv
 | .AS=>.any
 | s=>s
section
variable {E:Ent0}{σ:L2.St}{F H F' H':Hp}
def Sg.V1 (S:Sg E ss σ F H):Sg (E3 [] (Cp F H (Bu ss σ)) H) (ss.map DU) σ (Cp F H (Bu ss σ)) H:=by
 have nn:∀ {p:Prop}(a:Addr),a∈([]:List Addr)->p:=fun a h=>absurd h Aa;refine ⟨⟨S.JM.2,AV.refl _,fun _ _ _ e=>e,fun _ _ e=>.inl e,fun a h=>nn a h,fun a h=>nn a h,fun a h=>nn a h,fun a h=>nn a h,fun a h=>nn a h,fun a h=>nn a h⟩,by rw [AA,S.len],fun i s hi=>?_,fun i j s u l HS hi hj ms mu=>?_⟩
 ·rw [Ac] at hi;cases e:ss[i]? with
  | none=>rw [e] at hi;cases hi
  | some s0=>
   rw [e] at hi;have es:DU s0=s:=Bc hi;subst es;have k:=S.ok i s0 e;cases s0 with
   | any=>trivial
   | is p=>obtain ⟨v,e1,r⟩:=k;exact ⟨v,e1,r.mono S.JM.1⟩
   | own xs=>
    obtain ⟨l,vs,e1,_,_,e3,r⟩:=k;refine ⟨_,e1,.lst ?_ (r.mono S.JM.1)⟩;unfold Cp;rw [mZ (WD S.len e (by simp) e1)];exact e3
   | AS=>trivial
   | sq tp xs=>
    cases tp with
    | true=>obtain ⟨v,e1,r⟩:=k;exact ⟨v,e1,r.mono S.JM.1⟩
    | false=>
     obtain ⟨l,vs,e1,hA,e2,r⟩:=k;exact ⟨l,vs,e1,⟨Aa,Aa⟩,S.keep l _ hA e2,r.mono S.JM.1⟩
   | raw P=>obtain ⟨v,e1,hp,hm⟩:=k;exact ⟨v,e1,hm _ _ S.JM.1 hp,hm⟩
   | ow lt t=>
    obtain ⟨v,e1,r,_,_⟩:=k;refine ⟨v,e1,r.rep S.JM.1 fun a ha o ho=>?_⟩;unfold Cp;rw [mZ (WD S.len e (by simp) ha)];exact ho
 ·rw [Ac] at hi;cases e:ss[i]? with
  | none=>rw [e] at hi;cases hi
  | some s0=>
   rw [e] at hi;have es:DU s0=s:=Bc hi;subst es;cases s0 <;> cases ms
mutual
noncomputable def OV.G5:OV->Bool
 | .fz p=>DQ p
 | .tp xs=>OV.J0 xs
 | .nd _ _ xs=>OV.J0 xs
noncomputable def OV.J0:List OV->Bool
 | []=>true
 | x::r=>x.G5 && OV.J0 r
end
def B8.ZAO {as:List Addr}(h:∀ a∈as,∀ vs,F a≠some (.tup vs)):∀ {v:V}{t:OV},B8 F H v t->t.G5=true->B8 (Eo F as) H v t:=by
 intro v t r hn;exact B8.rec (motive_1:=fun v t _=>t.G5=true->B8 (Eo F as) H v t) (motive_2:=fun vs ts _=>OV.J0 ts=true->BB (Eo F as) H vs ts)
  (fun {v p} r z=>.fz (r.sub h (by simpa [OV.G5] using z)))
  (fun {a vs xs} e _ ih z=>.tp (by unfold Eo;rw [k6 (fun q=>h a q vs e)];exact e) (ih (by simpa [OV.G5] using z)))
  (fun {k a vs xs} e sd ft _ ih z=>.nd e sd ft (ih (by simpa [OV.G5] using z)))
  (fun _=>.nil)
  (fun _ _ OQ NG z=>by
   rw [OV.J0,Ei] at z;exact .cons (OQ z.1) (NG z.2))
  r hn
end
section
variable {c:TT}
def Ug (E:Ent0)(F H:Hp)(as:List Addr):@Ent hJ:=@Ent.mk hJ (E3 [] (Cp F H as) H) fun _ _ _ _ _ _ _ _ _ d _=>d.elim
def dJ {k:PV->Prop}(h:Wp (ss.map DU) te fun p=>DQ p=true/\k p):Wp ss te k:=⟨fun E σ F H Q S q=>by
 refine h.go (Ug E F H (Bu ss σ)) σ _ H Q S.V1 fun v p F' H' m rp ⟨hn,kk⟩=>?_;obtain ⟨M,ht⟩:=S.Y5 m.st.toFin;exact q v p _ H' M (rp.sub ht hn) kk⟩
def VZ {k:List PV->Prop}(h:Wn (ss.map DU) te fun ys=>Fm ys=true/\k ys):Wn ss te k:=⟨fun E σ F H Q S q=>by
 refine h.go (Ug E F H (Bu ss σ)) σ _ H Q S.V1 fun l2 Ff ys F' H' m f2 h2 Di rp ⟨hn,kk⟩=>?_;obtain ⟨M,ht⟩:=S.Y5 m.st.toFin;exact q l2 Ff ys _ H' M (by unfold Eo;split <;> first | rfl | exact f2) h2 Di (rp.sub ht hn) kk⟩
def ou {k:List Nat->OV->Prop}(h:Wx (ss.map DU) te fun m u=>m=[]/\u.G5=true/\k [] u):Wx ss te k:=⟨fun E σ F H Q S q=>by
 refine h.go (Ug E F H (Bu ss σ)) σ _ H Q S.V1 fun v mm u F' H' m ro nd hu ⟨em,hn,kk⟩=>?_;subst em;obtain ⟨M,ht⟩:=S.Y5 m.st.toFin;refine q v [] u _ H' M (ro.ZAO ht hn) nd (fun a ha=>?_) kk;obtain ⟨f,h0,_⟩:=hu a ha;have h0:H a=none:=h0;exact ⟨by unfold Eo;split <;> first | rfl | exact f,S.DW h0,.inr h0⟩⟩
end
end Fz
namespace L2
variable {X:Cx}{pins:ZE7}{σ:St}{s s2:Shared}{i tk:Nat}{te tl:TE}{pos:Pos}{ifs:List Expr}{N zs:List Str}{outer scope:Scope}{js:List Nat}{tt:TT}{wi:TI}
section
def Inv.same {H:Hp}(I:Inv X pins σ H s){h':Heap}(k:∀ b o,s.heap.get? b=some o->h'.get? b=some o):Inv X pins σ H { s with heap:=h',toks:=tk }:=I.kept (t':=tk) k
def To (K:ZE6):List V->Hp->VK->Prop:=fun xs H Q=>∃ (p:Addr) (ss:List Int),xs=[.ref p]/\AY K H p (ss.map V.int)/\Q (.int ss.sum) H
def ZAd (hc:X.calm=true):CJ X (.builtin "sum") (To X.K):=by
 intro pins s σ H xs us Q I r h;obtain ⟨p,ss,rfl,hq,q⟩:=h;obtain ⟨u,rfl,rx⟩:=vals1 r;cases rx;obtain ⟨A3,rv,pl,_⟩:=I.list hq;have hi:=YH rv;obtain ⟨ys,e⟩:=hi.allInts.items;have hl:=pl.isList;rw [e] at hl;refine sum_intListG (I.ok.hd hc) hl fun h' tk t' hk=>⟨.int _,H,I.same hk,⟨t',rfl⟩,?_⟩;have e2:ys.toList.map (·.1)=ss:=by
  rw [<- nums_intItems,<- e];exact hi.numsOf
 rw [preSum_eq,P1 (by simp),e2];exact q
def eV (K:ZE6):List V->Hp->VK->Prop:=fun xs H Q=>∃ (p:Addr) (ss:List Int),xs=[.ref p]/\AY K H p (ss.map V.int)/\ss≠[]/\∀ m∈ss,(∀ y∈ss,y<=m)->Q (.int m) H
def zD (hc:X.calm=true):CJ X (.builtin "max") (eV X.K):=by
 intro pins s σ H xs us Q I r h;obtain ⟨p,ss,rfl,hq,B5,q⟩:=h;obtain ⟨u,rfl,rx⟩:=vals1 r;cases rx;obtain ⟨A3,rv,pl,_⟩:=I.list hq;have hi:=YH rv;obtain ⟨ys,e⟩:=hi.allInts.items;have hl:=pl.isList;rw [e] at hl;have e2:ys.toList.map (·.1)=ss:=by
  rw [<- nums_intItems,<- e];exact hi.numsOf
 have hlen:ys.size=ss.length:=by rw [<- e2];simp
 have NU:0<ss.length:=List.length_pos_iff.mpr B5;refine max_intList (I.ok.hd hc) hl (by omega) fun v h' tk hv hk=>?_;obtain ⟨t',rfl⟩:=intItems_at hv;obtain ⟨b1,b2⟩:=argBest_gt (numAt ys) (ys.size - 1);refine ⟨.int _,H,I.same hk,⟨t',rfl⟩,q _ ?_ fun y hy=>?_⟩
 ·rw [numAt_eq,e2];exact getD_mem (by omega)
 ·obtain ⟨j,hj,ej⟩:=mem_getD hy;have:=b2 j (by omega);rw [numAt_eq ys j,e2,ej] at this;exact this
def UU (K:ZE6):V->V->Hp->VK->Prop:=fun x y H Q=>∃ (p:Addr) (xs:List V) (i:Nat) (v:V),x=.ref p/\y=.int i/\AY K H p xs/\xs[i]?=some v/\Q v H
def kj:aW X (UU X.K):=by
 intro pins s σ H o i ov iv Q I ro ri h;obtain ⟨p,xs,j,v,rfl,rfl,hq,hx,q⟩:=h;cases ro;obtain ⟨t,rfl⟩:=ri;obtain ⟨A3,r,pl,hz⟩:=I.list hq;obtain ⟨w,ew,Gd⟩:=r.get hx;have hj:=(List.getElem?_eq_some_iff.mp hx).1;refine wpAny_getItem_list pl.isList (by omega) ?_ (x:=w) (by simpa using ew) ⟨v,H,I,Gd,q⟩
 have h24:sizeLine<2 ^ 63:=by decide +kernel
 have:(j:Int)<((2 ^ 63:Nat):Int):=Int.ofNat_lt.mpr (by omega);exact this
def ZAZ {o i e:Expr}{to ti:TE}{Kp:O7}{op:Operator}{Ka:Pos}(ho:QE X o to)(hi:QE X i ti)(he:QE X e te)(hp:WR X op Kp)
  (ha:∀ ov iv new,augStore i ov iv new=(do holding [new,ov,iv] (setItem ov iv new);release [new,ov,iv] [];pure .next):=by intros;rfl):QS X (.AugAssign (.Subscript o i Ka) op e pos) (V2 to ti te (UU X.K) Kp VC):=⟨oE ho.h hi.h kj he.h hp set_list ha⟩
def qE {tg l:Expr}(hl:QE X l tl):QI X tg l (Uc X.K tl):=⟨by
 have hl:=hl.h;intro pins s σ H R I h;refine AL (hl pins s σ H _ I h) fun v s1 ⟨x,H1,I1,r1,q1⟩=>?_;obtain ⟨a,e,⟨xs,hq⟩,q⟩:=q1;subst e;cases r1;obtain ⟨A3,rv,p,hz⟩:=I1.list hq;refine xS p.isList ?_;refine ⟨s1.heap.objs.size,[s1.heap.objs.size],_,_,H1,rfl,I1.kept (t':=s1.toks) fun b o e=>BQ _ e,Li a _,⟨_,Ba _ rfl,rfl,rfl⟩,fun b hb=>?_,q⟩;have e:b=s1.heap.objs.size:=by simpa using hb
 subst e;exact I1.L7 (Ai _) (I1.AK.fresh (Ai _))⟩
variable {elt iter:Expr}{es:List Expr}{tp:Pos}{AI:List Str}
def fR {y:Str}{py FI:Pos}(hN:X.N.Nodup)(CV:X.N[i]?=some y)(hy:Loc X.env.scope y)(hc:X.calm=true)(S:Hl X.N X.env.scope scope zs AI js)(IH:Ir zs es)(Iw:∀ e,(assignEach es e).length=zs.length)(Ee:∀ e,(assignEach es e).findIdx? (·.1)=none)(hi:QI X (.Tuple es tk tp) iter wi)
  (Ci:∀ fp C s H,L5 (EX X (AI++zs) scope (Bi X.env.cells scope.names) C s H fp) ifs tt) (Cj:∀ fp C s H,QE (EX X (AI++zs) scope (Bi X.env.cells scope.names) C s H fp) elt te)
  (IX:swapsWith (.ListComp elt [⟨.Tuple es tk tp,iter,ifs,0⟩] scope pos) (some (.Name y py)) FI.line X.env=pure true:=by rfl)
  (hf:X.fn y=true∨X.env.scope.names.lookup y=some .local:=by first | exact .inl rfl | exact .inr rfl | assumption)
  (hs:∀ v,foldedSetIterable iter X.env v=pure v:=by intro _;rfl):QS X (.Assign [.Name y py] (.ListComp elt [⟨.Tuple es tk tp,iter,ifs,0⟩] scope pos) FI) (EE (MS X.K zs.length wi js tt te) (CO i)):=⟨by have hi:=hi.h;have Ci:=fun fp C s H=>(Ci fp C s H).h;have Cj:=fun fp C s H=>(Cj fp C s H).h;exact da (CW:=fun J σ H1 acc Q=>QU X.K zs.length J js tt te σ H1 acc Q) (aR S.G) hN CV hy hc S.G hi (fun _ _ _ _=>d7 hc S.G S.Hn IH Iw Ee) Ci Cj IX hf hs⟩
end
structure RO (N:List Str) (outer scope:Scope) (x:Str) (AI:List Str) (js:List Nat):Prop where
 kind:scope.kind=.function
 loc:∀ y∈scope.names,y.2=.local->scope.names.lookup y.1=some .local
 Hn:scope.names.lookup x=some .cell
 one:∀ y∈scope.names,y.2=.cell->y.1=x
 cf:∀ (n:Nat) (cl:List (Str×Addr)),cellsFrom n scope.names cl=(x,n)::cl
 pc:∀ h:Heap,pushCells h scope.names=h.push { cls:=.type "cell", data:=.cell none }
 at':js.map (fun j=>N[j]?)=AI.map some
 cell:∀ y∈AI,outer.names.lookup y=some .cell
 free:∀ y∈AI,scope.names.lookup y=some .free
 all:∀ y∈scope.names,y.2=.free->outer.names.lookup y.1=some .cell
 nd:(AI++[x]).Nodup
noncomputable abbrev fY (X:Cx)(N:List Str)(scope:Scope)(x:Str)(cl:List (Str×Addr))(C:Addr)(s:Shared)(H:Hp)(fp:List Addr):Cx:=Et X N scope (some x) cl C s H fp
section
variable {H2:Hp}{elt iter:Expr}{x:Str}{px:Pos}{AI:List Str}{J:It}{fp:List Addr}{it:Addr}{tn:Nat->Heap->Prop}
def RO.G (S:RO N outer scope x AI js):EW N outer scope (some x) [x] AI js:=
 ⟨S.kind,S.loc,fun y hy e=>by rw [S.one y hy e],fun y e=>by rw [Bc e];exact List.mem_singleton_self _,S.cf,S.pc,S.at',S.cell,S.free,S.all,S.nd⟩
def uv (hc:X.calm=true)(S:RO X.N X.env.scope scope x AI js)(hi:QI X (.Name x px) iter wi)
  (Ci:∀ fp C s H,L5 (fY X (AI++[x]) scope x (Bi X.env.cells scope.names) C s H fp) ifs tt) (Cj:∀ fp C s H,QE (fY X (AI++[x]) scope x (Bi X.env.cells scope.names) C s H fp) elt te)
  (hs:∀ v,foldedSetIterable iter X.env v=pure v:=by intro _;rfl):QE X (.ListComp elt [⟨.Name x px,iter,ifs,0⟩] scope pos) (JS wi js tt te):=
 ⟨TJ (CW:=fun J σ H1 acc Q=>LD J js tt te σ H1 acc Q) (Vh S.G) hc S.G hi.h (fun _ _ _ _=>XA S.G (.inr ⟨rfl,S.Hn⟩)) (fun fp C s H=>(Ci fp C s H).h) (fun fp C s H=>(Cj fp C s H).h) hs⟩
end
end L2
namespace Fz
open L2 Lw
variable {A9 ss:List Slot}{ta tb tc te ti:TE}{nx:List Slot->Prop}{R:As}{ps xs ys:List PV}{i j n:Nat}{r s x y z:Str}{E:Ent0}{σ:L2.St}{F H:Hp}{pre:Pre}{L N S T W ns:List Str}{vs:List V}{Q:VK}{m t:Int}{nk:NK}{C a a0 b:Addr}{us:List OV}{js l:List Nat}{u:OV}{f:Str->List Str}
section
variable [Xw]
variable {K:ZE6}{k:PV->Prop}
def jz (h:Wq ss te fun tp xs=>tp=false/\∃ ns:List Int,xs=ns.map PV.int/\k (.int ns.sum)):Wp ss (D7 (To K) (Ap te BV)) k:=⟨fun E σ F H Q S q=>
 h.go E σ F H _ S fun v tp xs F1 H1 m1 sv ⟨et,ns,e,kk⟩=>by
  subst et;subst e;obtain ⟨l,vs,rfl,hl,r⟩:=sv.seq m1.st;rw [r.ints] at hl;exact ⟨l,ns,rfl,AY.of hl,q _ _ F1 H1 m1 (.int _) kk⟩⟩
def ZAc (h:Wq ss te fun tp xs=>tp=false/\∃ ns:List Int,xs=ns.map PV.int/\ns≠[]/\∀ m∈ns,(∀ y∈ns,y<=m)->k (.int m)):Wp ss (D7 (eV K) (Ap te BV)) k:=⟨fun E σ F H Q S q=>
 h.go E σ F H _ S fun v tp xs F1 H1 m1 sv ⟨et,ns,e,B5,kk⟩=>by
  subst et;subst e;obtain ⟨l,vs,rfl,hl,r⟩:=sv.seq m1.st;rw [r.ints] at hl;exact ⟨l,ns,rfl,AY.of hl,B5,fun m hm hy=>q _ _ F1 H1 m1 (.int _) (kk m hm hy)⟩⟩
def l0 {g:Int->Int->Int}(hi:ss[i]?=some (.own xs))(h:Wp ss ti fun q=>∃ (n:Nat) (x:Int),q=.int n/\xs[n]?=some (.int x)/\Wp ss te fun p=>∃ y,p=.int y/\nx (ss.set i (.own (xs.set n (.int (g x y)))))):Ws ss (V2 (BI i) ti te (UU K) (bu g) VC) nx R:=⟨fun E D σ F H S hn hr=>by
 obtain ⟨l,vs,e,e1,e2,e3,r⟩:=S.ok i _ hi;refine ⟨_,e,h.go E σ F H _ S fun v q F1 H1 m1 r1 ⟨n,x,eq,hx,h2⟩=>?_⟩;subst eq;cases r1;obtain ⟨l',W5,e',_,_,ud,zW⟩:=m1.st.ok i _ hi;rw [e] at e';cases e';obtain ⟨w,hw,rw_⟩:=zW.get hx;cases rw_;refine ⟨l,W5,n,_,rfl,rfl,AY.of ud,hw,h2.go E σ F1 H1 _ m1.st fun v2 p F2 H2 m2 r2 ⟨y,ey,kk⟩=>?_⟩;subst ey;cases r2;obtain ⟨l',Ff,e',f1,f2,vI,MQ⟩:=m2.st.ok i _ hi;rw [e] at e';cases e';have Ee:n<Ff.length:=by rw [MQ.length];exact (List.getElem?_eq_some_iff.mp hx).1
 refine ⟨x,y,rfl,rfl,l,Ff,_,n,rfl,rfl,vI,rR Ee,?_⟩;exact hn _ σ F2 _ kk (m2.st.put hi e f1 f2 (MQ.set n (.int _))) (m1.ff.trans m2.ff)⟩
def ZC5 {y:PV}(hj:ss[j]?=some (.own ys))(hy:ys[ys.length - 1]?=some y)(h:nx ((ss.set j (.own ys.dropLast)).set i (.is y))):Ws ss (EE (RI K "list" Wd (BI j)) (CO i)) nx R:=⟨fun E D σ F H S hn hr=>by
 obtain ⟨l,vs,e,e1,e2,e3,r⟩:=S.ok j _ hj;obtain ⟨w,hw,rw_⟩:=r.get hy;have hl:=r.length;refine ⟨_,e,.inl ⟨rfl,_,AY.of e3⟩,l,vs,w,rfl,rfl,e3,by rw [hl];exact hw,?_⟩;have rd:AJ F vs.dropLast ys.dropLast:=by
  rw [ZCk,ZCk,hl];exact r.take _
 exact hn _ _ F _ h ((S.put hj e e1 e2 rd).Fp rw_) (AV.refl _)⟩
end
section
variable {lt:Bool}
def Tb (i:Nat)(R:As)(A9:List Slot):Prop:=∃ (k:PV->OV->Prop) (nk:NK) (a:Addr) (us:List OV),R=.mt k/\A9[i]?=some (.ow true (.nd nk a us))/\k .AB (.nd nk a us)
theorem Tb.ok (h:Tb i R A9)(S:Sg E A9 σ F H):R.ok E F H .AB:=by
 obtain ⟨k,nk,a,us,rfl,h0,hk⟩:=h;obtain ⟨v0,e0,r0,DH,q0⟩:=S.ok i _ h0;have ev:v0=.ref a:=by cases r0;rfl
 subst ev;exact ⟨.AB,.nd nk a us,.AB,r0,DH,fun b hb=>⟨(q0 b hb).1,(q0 b hb).2.imp id fun z=>z.2⟩,hk⟩
def uk (i:Nat){X:XK}{t:TS}(h:Dl pre vs H Q X)(hl:∀ ss R,pre ss R->ss.length=n)
  (hw:∀ ss R,pre ss R->Ws (ss++List.replicate (N.length - n) .any) t (Tb i R) R):t { nx:=fun _ H'=>Q .AB H',rt:=Q } (L2.start N vs) H:=by
 obtain ⟨ss,R,F,A,B,hp,S,q⟩:=h;have e:vs.length=n:=by have:=S.len;rw [AA] at this;rw [<- this];exact hl ss R hp
 unfold L2.start;rw [e];exact (hw ss R hp).go (Ou ⟨A,F,H,B⟩) _ _ F H (S.grown _) (fun A9 σ' F' H' z S' _=>q .AB F' H' S'.toFin (z.ok S')) fun v F' H' f ok=>q v F' H' f ok
variable [Xw]
def uW {k:PV->OV->Prop}(hi:ss[i]?=some (.ow lt (.nd nk a0 us)))(h:k .AB (.nd nk a0 us)):Ws ss Vk nx (.mt k):=⟨fun E D σ F H S hn hr=>by
 obtain ⟨v0,e0,r0,DH,q0⟩:=S.ok i _ hi;have ev:v0=.ref a0:=by cases r0;rfl
 subst ev;exact hr .AB F H S.toFin ⟨.AB,.nd nk a0 us,.AB,r0,DH,fun a ha=>⟨(q0 a ha).1,(q0 a ha).2.imp id fun z=>z.2⟩,h⟩⟩
end
def Pt (h0:∀ ss R,¬ pre ss R){E:XK}(h:Dl pre vs H Q E):False:=by
 obtain ⟨ss,R,F,A,B,hp,_⟩:=h;exact h0 ss R hp
section
variable [Xw]
def ke {k:List PV->Prop}(hi:ss[i]?=some .AS)(h:Wp ss te fun x=>∃ m,x=.int m/\0<=m/\m<=100/\∀ ns:List Str,(ns.length:Int)=m->(∀ x∈ns,Nm x)->ns.Nodup->k (ns.map PV.str)):Wn ss (Ef XC [] E0 (Ap (BI i) (Ap te BV))) k:=⟨fun E σ F H Q S q=>by
 obtain ⟨p,e,_⟩:=S.ok i _ hi;refine ⟨_,e,h.go E σ F H _ S fun v x F1 H1 m1 r ⟨m,em,m0,KR,kk⟩=>?_⟩;subst em;cases r;refine ⟨p,m,rfl,m1.st.Ez hi e,m0,KR,fun l H2 ns hl s DA hz hN nd=>?_⟩;have m2:=m1.st.Yj hi e s;exact q l _ _ F1 H2 (m1.trans m2) (m1.st.C5 hl) (m1.none hl) DA (V6 ns) (kk ns hz hN nd)⟩
end
theorem iu:∀ ps:List PV,OV.Cv (ps.map .fz)=ps
 | []=>rfl
 | p::ps=>by rw [BL,OV.Cv,OV.pv,iu ps]
def aj {n:Int}(h:n<=1000):n<10 ^ 18:=YN h (by decide)
def rf {k:Nat}(h:k<=ns.length):Au ns none (some (k:Int))=ns.take k:=by
 unfold Au;rw [show HT.Ak ns.length 0 none=0 from rfl,YO,Yf]
 congr 1
 simp only [HT.Ak];split <;> omega
structure Kd where
 w:Str
 ps:List (Str×Str)
 g:Bool
variable {ks:List Kd}
noncomputable def BN (p:Str×Str):PV:=.tup [.str p.1,.str p.2]
noncomputable def Kd.P (k:Kd):PV:=.tup [.str k.w,.tup (k.ps.map BN),.bl k.g]
noncomputable def WH:List Str:=["next","last","back","first"]
def Ih {α:Type}{xs:List α}{k:Nat}{x:α}(h:xs[k]?=some x):xs.take (k+1)=xs.take k++[x]:=by
 obtain ⟨hk,e⟩:=List.getElem?_eq_some_iff.mp h;rw [P2 hk,e]
def vw (h0:0<=t)(h:t<7):∃ z:Nat,L2.BA [PV.int 0,.int 1,.int 1,.int 2,.int 2,.int 3,.int 6] t=some (.int (z:Int))/\z<=6:=by
 rcases (show t=0∨t=1∨t=2∨t=3∨t=4∨t=5∨t=6 by omega) with rfl | rfl | rfl | rfl | rfl | rfl | rfl
 ·exact ⟨0,rfl,by decide⟩
 ·exact ⟨1,rfl,by decide⟩
 ·exact ⟨1,rfl,by decide⟩
 ·exact ⟨2,rfl,by decide⟩
 ·exact ⟨2,rfl,by decide⟩
 ·exact ⟨3,rfl,by decide⟩
 ·exact ⟨6,rfl,by decide⟩
theorem Ts:∀ {ps qs:List (Str×Str)},ps.map BN=qs.map BN->ps=qs
 | [],[],_=>rfl
 | [],_::_,h=>by simp at h
 | _::_,[],h=>by simp at h
 | p::ps,q::qs,h=>by
  rw [BL,BL] at h;injection h with h1 h2
  have e1:p.1=q.1/\p.2=q.2:=by
   unfold BN at h1;injection h1 with h1
   injection h1 with a b
   injection a with a
   injection b with b _
   injection b with b
   exact ⟨a,b⟩
  rw [Ts h2,Prod.ext e1.1 e1.2]
def Kd.inj (x y:Kd)(h:x.P=y.P):x=y:=by
 obtain ⟨w,ps,g⟩:=x;obtain ⟨w',L0,g'⟩:=y;unfold Kd.P at h;injection h with h
 injection h with a b
 injection a with a
 injection b with b c
 injection b with b
 injection c with c _
 injection c with c
 have b':=Ts b;simp only at a b' c;subst a b' c;rfl
noncomputable def BO (ns:List Str):List Key:=ns.map Sum.inr
def Kn (ns:List Str)(x:Str):Fy (BO ns) (.inr x)=decide (x∈ns):=by
 unfold Fy BO;rw [List.any_map]
 by_cases h:x∈ns
 ·rw [jy h];exact List.any_eq_true.mpr ⟨x,h,jy rfl⟩
 ·rw [nZ h];rw [Bool.eq_false_iff];intro z;obtain ⟨y,hy,e⟩:=List.any_eq_true.mp z;have e2:(Sum.inr y:Key)=Sum.inr x:=k9 e;injection e2 with e2
  exact h (e2▸hy)
theorem c7:∀ {ns:List Str}{x:Str},x∉ns->FJ (BO ns) (.inr x)=none
 | [],_,_=>rfl
 | y::ns,x,h=>by
  unfold BO;rw [BL,FJ,k6 (fun e=>h (by injection e with e;subst e;exact Ft))]
  have h1:FJ (ns.map (Sum.inr:Str->Key)) (.inr x)=none:=c7 (ns:=ns) fun z=>h (Ek _ z);rw [h1];rfl
def Nn (h:ns.Nodup):(BO ns).Nodup:=ZCh _ (fun a b (h:a≠b)=>fun z=>h (by injection z)) h
def dF (h:x∉ns):KD (BO ns) (.inr x)=BO (ns++[x])/\JZ (BO ns) us (.inr x) u=us++[u]:=by
 unfold JZ KD;rw [c7 h,Kn,nZ h];exact ⟨by unfold BO;rw [Be];rfl,rfl⟩
def LQ (h:x∉ns):KD (BO ns) (.inr x)=BO (ns++[x]):=(dF (us:=[]) (u:=.fz .AB) h).1
def N8 (h:x∉ns):JZ (BO ns) us (.inr x) u=us++[u]:=(dF h).2
theorem Kc {y:PV}:∀ {ns:List Str}{xs:List PV}{x:Str},x∈ns->xs[ns.idxOf x]?=some y->HA (BO ns) xs (.inr x)=some y
 | [],_,_,h,_=>absurd h Aa
 | z::ns,xs,x,h,e=>by
  rw [List.idxOf_cons] at e;unfold BO
  by_cases c:z=x
  ·subst c;rw [show (z == z)=true from rD z] at e;cases xs with
   | nil=>cases e
   | cons w ws=>rw [BL,HA,mZ rfl];exact e
  ·rw [show (z == x)=false from beq_eq_false_iff_ne.mpr c] at e;cases xs with
   | nil=>cases e
   | cons w ws=>
    rw [BL,HA,k6 (fun q=>c (by injection q))];exact Kc ((List.mem_cons.mp h).resolve_left fun q=>c q.symm) e
def lO (ns:List Str):(BO ns).map IQ=ns.map PV.str:=by
 unfold BO;rw [CU];rfl
noncomputable abbrev wk (ks:List Kd):List Str:=ks.map Kd.w
structure KG (ks:List Kd):Prop where
 l1:1<=ks.length
 l8:ks.length<=8
 nd:(wk ks).Nodup
 nm:∀ k∈ks,Nm k.w
 ps:∀ k∈ks,k.ps.length<=6/\∀ p∈k.ps,p.1∈WH/\p.2∈wk ks
noncomputable def CH:List Str:=[("none":Str), "ahead","all"]
noncomputable def Em (k:Kd):PV:=.tup [.str k.w,.lst (k.ps.map BN),.bl k.g]
noncomputable def ED (ks:List Kd)(x:Str):List (Str×Str):=match ks[(wk ks).idxOf x]? with
 | some k=>k.ps
 | none=>[]
noncomputable def bT (ks:List Kd)(x:Str):Bool:=match ks[(wk ks).idxOf x]? with
 | some k=>k.g
 | none=>false
noncomputable def De:List Str:=["next","last"]
noncomputable def C1 (ks:List Kd)(r x:Str):List (Str×Str):=if r="none" then [] else (ED ks x).filter fun p=>decide (r="all") || decide (p.1∈De)
noncomputable def AU (ks:List Kd)(r x:Str):List Str:=(C1 ks r x).map (·.2)
noncomputable def RW (r:Str):List Str:=if r="none" then [] else if r="ahead" then De else WH
theorem KG.at (h:KG ks)(hx:x∈wk ks):∃ k,ks[(wk ks).idxOf x]?=some k/\k.w=x/\ED ks x=k.ps/\bT ks x=k.g/\k∈ks:=by
 have hi:=List.idxOf_lt_length_iff.mpr hx;have Cf:(wk ks).idxOf x<ks.length:=by simpa using hi
 have e:=AX Cf;refine ⟨_,e,?_,?_,?_,Fs Cf⟩
 ·have q:(wk ks)[(wk ks).idxOf x]'hi=x:=Hs hi;rw [Jp] at q;exact q
 ·unfold ED;rw [e]
 ·unfold bT;rw [e]
def KG.Ko (h:KG ks)(x:Str):(ED ks x).length<=6/\∀ p∈ED ks x,p.1∈WH/\p.2∈wk ks:=by
 unfold ED;split
 ·next k e=>exact h.ps k (C7 e)
 ·exact ⟨CM _,fun p hp=>absurd hp Aa⟩
def ZCB {p:Str×Str}(h:p∈C1 ks r x):p∈ED ks x:=by
 unfold C1 at h;split at h
 ·cases h
 ·exact (List.mem_filter.mp h).1
def Zy (h:KG ks)(r x:Str):(C1 ks r x).length<=6:=by
 unfold C1;split
 ·exact CM _
 ·exact D1 (SK _ _) (h.Ko x).1
def KG.OZ (h:KG ks)(hy:y∈AU ks r x):y∈wk ks:=by
 obtain ⟨p,hp,rfl⟩:=List.mem_map.mp hy;exact ((h.Ko x).2 p (ZCB hp)).2
def Mb (h:KG ks)(r x:Str):(AU ks r x).length<=6:=by
 unfold AU;rw [AA];exact Zy h r x
def rX (h:KG ks)(hr:r∈CH)(x:Str):((ED ks x).filter fun p=>decide (p.1∈RW r)).map (·.2)=AU ks r x:=by
 unfold AU C1 RW;simp only [CH,CL,Aa,pN] at hr;rcases hr with rfl | rfl | rfl
 ·rw [mZ rfl];simp
 ·rw [k6 (by decide),mZ rfl,k6 (by decide)]
  congr 1
 ·rw [k6 (by decide),k6 (by decide),k6 (by decide)]
  congr 1
  refine ZCo fun p hp=>?_;rw [jy ((h.Ko x).2 p hp).1];simp
def U5 (p q:Str×Str)(h:BN p=BN q):p=q:=by
 unfold BN at h;injection h with h
 injection h with h1 h2
 injection h1 with h1
 injection h2 with h2 _
 injection h2 with h2
 exact Prod.ext h1 h2
def qB (x y:Kd)(h:Em x=Em y):x=y:=by
 obtain ⟨w,ps,g⟩:=x;obtain ⟨w',L0,g'⟩:=y;unfold Em at h;injection h with h
 injection h with h1 h2
 injection h1 with h1
 injection h2 with h2 h3
 injection h2 with h2
 injection h3 with h3 _
 injection h3 with h3
 have h2:=Ts h2;subst h1 h2 h3;rfl
inductive BY (f:Str->List Str) (S:List Str):Str->Prop
 | here {x:Str}:x∈S->BY f S x
 | step {x y:Str}:BY f S x->y∈f x->BY f S y
def Top (f:Str->List Str)(L:List Str):Prop:=∀ (i:Nat) (x:Str),L[i]?=some x->∀ y∈f x,y∈L.take i
def GP (f:Str->List Str)(W:List Str):Prop:=∀ (i:Nat) (x y:Str),W[i]?=some x->W[i+1]?=some y->y∈f x
def Top.nil:Top f []:=fun i x h=>by simp at h
def Top.snoc (h:Top f L)(hx:∀ y∈f x,y∈L):Top f (L++[x]):=fun i z hz y hy=>by
 by_cases c:i<L.length
 ·rw [DK c] at hz;rw [List.take_append_of_le_length (by omega)];exact h i z hz y hy
 ·rw [Ej (by omega)] at hz;have hi:i=L.length:=by
   have:=(List.getElem?_eq_some_iff.mp hz).1;simp at this;omega
  subst hi;simp at hz;subst hz;rw [List.take_left']
  ·exact hx y hy
  ·rfl
def GP.snoc {V:List Str}(h:GP f (V++[x]))(hy:y∈f x):GP f (V++[x]++[y]):=fun i a b ha hb=>by
 by_cases c:i+1<(V++[x]).length
 ·rw [DK c] at hb;rw [DK (by omega)] at ha;exact h i a b ha hb
 ·have hi:i+1=(V++[x]).length:=by
   have:=(List.getElem?_eq_some_iff.mp hb).1;simp at this c ⊢;omega
  rw [hi] at hb;have hb:(V++[x]++[y])[(V++[x]).length]?=some b:=hb;rw [Ej (Ai _)] at hb;simp at hb;subst hb;have Cf:i=V.length:=by simp at hi;exact hi
  subst Cf;rw [Cd,Ej (Ai _)] at ha;simp at ha;subst ha;exact hy
def GP.one (x:Str):GP f [x]:=fun i a b _ hb=>by simp at hb
structure VY (f:Str->List Str) (ws W:List Str) (i:Nat):Prop where
 nd:W.Nodup
 ch:GP f W
 sub:∀ x∈W,x∈ws
 at':∃ y z,W[i]?=some y/\W[W.length - 1]?=some z/\y∈f z
noncomputable def X9 (W:List Str)(i:Nat):PV:=.tup [.lst ((W.take (i+1)).map .str),.lst ((W.drop i).map .str)]
def cG (h:Top f L)(hS:∀ x∈S,x∈L)(r:BY f S x):x∈L:=by
 induction r with
 | here m=>exact hS _ m
 | step _ hy ih=>
  obtain ⟨i,hi,e⟩:=ES ih;exact YW (h i _ (by rw [AX hi,e]) _ hy)
def x9 (h:Top f L)(n:Nat):Top f (L.take n):=fun i x hx y hy=>by
 rw [ZCs] at hx;split at hx
 ·next c=>
  rw [List.take_take,Ye (by omega)];exact h i x hx y hy
 ·cases hx
def dz (h:Top f L)(nd:L.Nodup)(hx:x∈L):¬ BY f (f x) x:=fun r=>by
 obtain ⟨i,hi,e⟩:=ES hx;have e2:L[i]?=some x:=by rw [AX hi,e]
 have m:=cG (x9 h i) (S:=f x) (fun y hy=>h i x e2 y hy) r;obtain ⟨j,hj,ej⟩:=ES m;rw [DM] at hj;rw [LJ] at ej;have q:=List.pairwise_iff_getElem.mp nd j i (by omega) hi (by omega);exact q (ej.trans e.symm)
def IV (f:Str->List Str)(S:List Str):Prop:=∃ x,BY f S x/\BY f (f x) x
def wZ (h:Top f L)(nd:L.Nodup)(hS:∀ x∈S,x∈L):¬ IV f S:=fun ⟨x,r1,r2⟩=>dz h nd (cG h hS r1) r2
def dw (h:GP f W)(hi:∃ x,W[i]?=some x/\BY f S x):∀ j,i<=j->∀ y,W[j]?=some y->BY f S y:=by
 intro j
 induction j with
 | zero=>
  intro hj y hy;obtain ⟨x,hx,r⟩:=hi;have:i=0:=by omega
  subst this;rw [hx] at hy;cases hy;exact r
 | succ j ih=>
  intro hj y hy
  by_cases c:i=j+1
  ·obtain ⟨x,hx,r⟩:=hi;subst c;rw [hx] at hy;cases hy;exact r
  ·have AQ:=(List.getElem?_eq_some_iff.mp hy).1;obtain ⟨x,hx⟩:∃ x,W[j]?=some x:=⟨_,AX (by omega)⟩;exact .step (ih (by omega) x hx) (h j x y hx hy)
def om {ws:List Str}(h:VY f ws W i)(h0:∃ x,W[0]?=some x/\x∈S):IV f S:=by
 obtain ⟨x0,e0,m0⟩:=h0;obtain ⟨y,z,hy,hz,hf⟩:=h.at';have hi:=(List.getElem?_eq_some_iff.mp hy).1;refine ⟨y,dw h.ch ⟨x0,e0,.here m0⟩ i (CM _) y hy,?_⟩
 by_cases c:i=W.length - 1
 ·subst c;rw [hy] at hz;cases hz;exact .here hf
 ·obtain ⟨a,ha⟩:∃ a,W[i+1]?=some a:=⟨_,AX (by omega)⟩;exact .step (dw h.ch ⟨a,ha,.here (h.ch i y a hy ha)⟩ _ (by omega) z hz) hf
noncomputable def GO:List Str:=["puts_by_word","goes_by_word"]
noncomputable def Bk (C:Addr)(ks:List Kd):PV:=.obj C GO [.B7 (BO (wk ks)) (ks.map fun k=>.tup (k.ps.map BN)),.B7 (BO (wk ks)) (ks.map fun k=>.bl k.g)]
noncomputable def Iz (C dx a b1 b2:Addr)(ks:List Kd):OV:=.nd (.obj C dx GO) a [.nd (.B7 (BO (wk ks))) b1 (ks.map fun k=>.fz (.tup (k.ps.map BN))),.nd (.B7 (BO (wk ks))) b2 (ks.map fun k=>.fz (.bl k.g))]
theorem OK {α:Type}(g:α->PV):∀ (l:List α),OV.Cv (l.map fun x=>OV.fz (g x))=l.map g
 | []=>by rw [Ht,OV.Cv];rfl
 | x::r=>by rw [BL,OV.Cv,OV.pv,OK g r];rfl
def mU (C dx a b1 b2:Addr)(ks:List Kd):(Iz C dx a b1 b2 ks).pv=Bk C ks:=by
 unfold Iz Bk;rw [OV.pv,OV.Cv,OV.pv,OV.Cv,OV.pv,OV.Cv,OK,OK]
theorem Mz {α:Type}(g:α->PV)(h:∀ x,DQ (g x)=true):∀ (l:List α),Fm (l.map g)=true
 | []=>by rw [Ht,Fm]
 | x::r=>by rw [BL,Fm,h x,Mz g h r];rfl
theorem Sy {α:Type}(g:α->OV)(h:∀ x,(g x).G5=true):∀ (l:List α),OV.J0 (l.map g)=true
 | []=>by rw [Ht,OV.J0]
 | x::r=>by rw [BL,OV.J0,h x,Sy g h r];rfl
def xy (p:Str×Str):DQ (BN p)=true:=by unfold BN;simp [DQ,Fm]
def l5 (C dx a b1 b2:Addr)(ks:List Kd):(Iz C dx a b1 b2 ks).G5=true:=by
 unfold Iz;simp only [OV.G5,OV.J0];rw [Sy _ fun k=>?_,Sy _ fun k=>?_]
 ·rfl
 ·simp [OV.G5,DQ]
 ·rw [OV.G5,DQ];exact Mz _ xy _
def Nw:Pre:=fun l R=>∃ (ws:List Str) (d:PV) (x:Str),l=[.is d,.is (.str x)]/\(d=.lst (ws.map .str)∨∃ xs,d=.B7 (BO ws) xs)/\ws.length<=1000/\x∈ws/\R=.is (fun p=>p=.AB)
def Uz:Pre:=fun l R=>∃ (ws:List Str) (ps:List (Str×Str)),l=[.is (.lst (ws.map .str)),.is (.lst (ps.map BN))]/\ws.length<=1000/\(∀ p∈ps,p.1∈WH/\p.2∈ws)/\R=.is (fun p=>p=.AB)
def Sa:Pre:=fun l R=>∃ ks:List Kd,l=[.is (.lst (ks.map Em))]/\KG ks/\R=.is (fun p=>p=.AB)
def Vc (C:Addr):Pre:=fun l R=>∃ (dx a:Addr) (ks:List Kd),l=[.ow true (.nd (.obj C dx []) a []),.is (.lst (ks.map Em))]/\KG ks/\R=.mt (fun p t'=>p=.AB/\∃ b1 b2,t'=Iz C dx a b1 b2 ks)
def K3 (C:Addr):Pre:=fun l R=>∃ ks:List Kd,l=[.is (Bk C ks)]/\KG ks/\R=.new (fun xs=>xs=(wk ks).map .str)
def Wu (C:Addr):Pre:=fun l R=>∃ (ks:List Kd) (x:Str),l=[.is (Bk C ks),.is (.str x)]/\KG ks/\x∈wk ks/\R=.new (fun xs=>xs=(ED ks x).map BN)
def UP:Pre:=fun l R=>∃ r:Str,l=[.is (.str r)]/\r∈CH/\R=.is (fun p=>p=.AB)
def XU (C:Addr):Pre:=fun l R=>∃ (ks:List Kd) (tp:Bool) (cs:List Str),l=[.is (Bk C ks),.sq tp (cs.map .str)]/\KG ks/\cs.length<=12/\(∀ c∈cs,c∈wk ks)/\R=.is (fun p=>p=.AB)
def KO (C:Addr):Pre:=fun l R=>∃ (ks:List Kd) (x r:Str),l=[.is (Bk C ks),.is (.str x),.is (.str r)]/\KG ks/\x∈wk ks/\r∈CH/\R=.new (fun xs=>xs=(C1 ks r x).map BN)
noncomputable def LZ (a:Addr)(L:List Str):OV:=.nd (.B7 (BO L)) a (L.map fun _=>.fz (.bl true))
def Kk (C:Addr)(n:Nat):Pre:=fun l R=>∃ (ks:List Kd) (r:Str) (V:List Str) (x:Str) (L:List Str) (a:Addr),l=[.is (Bk C ks),.is (.str r),.is (.lst ((V++[x]).map .str)),.ow true (LZ a L)]/\KG ks/\r∈CH/\9<=V.length+1+n/\
 (V++[x]).Nodup/\(∀ y∈V++[x],y∈wk ks)/\GP (AU ks r) (V++[x])/\(∀ y∈V,y∉L)/\Top (AU ks r) L/\L.Nodup/\(∀ y∈L,y∈wk ks)/\
 R=.mt (fun p t'=>∃ L',t'=LZ a L'/\((p=.AB/\Top (AU ks r) L'/\L'.Nodup/\(∀ y∈L',y∈wk ks)/\(∀ y∈L,y∈L')/\(∀ y∈V,y∉L')/\x∈L')∨∃ W i,p=X9 W i/\(V++[x]) <+: W/\VY (AU ks r) (wk ks) W i))
def iw:∀ ss R,¬ Kk C 0 ss R:=by
 rintro ss R ⟨ks,r,V,x,L,a,_,g,_,h9,nd,sub,_⟩;have:=EY nd sub;have:=g.l8;rw [B2,GS,AA] at *;omega
def zj (f:Str->List Str)(ws cs:List Str)(p:PV):Prop:=(p=.AB/\∃ L,Top f L/\L.Nodup/\(∀ y∈L,y∈ws)/\∀ c∈cs,c∈L)∨∃ W i c,p=X9 W i/\VY f ws W i/\W[0]?=some c/\c∈cs
def U0 (C:Addr):Pre:=fun l R=>∃ (ks:List Kd) (tp:Bool) (cs:List Str) (r:Str),l=[.is (Bk C ks),.sq tp (cs.map .str),.is (.str r)]/\KG ks/\r∈CH/\cs.length<=12/\(∀ c∈cs,c∈wk ks)/\R=.is (zj (AU ks r) (wk ks) cs)
def Wr:Pre:=fun l R=>l=[.AS]/\R=.is fun p=>∃ ks:List Kd,p=.lst (ks.map Kd.P)/\KG ks
def UM (C:Addr):Pre:=fun l R=>∃ ks:List Kd,l=[.is (.lst (ks.map Kd.P))]/\KG ks/\R=.is (fun p=>p=Bk C ks)
def Tp:Pre:=fun l R=>∃ ks:List Kd,l=[.AS,.is (.lst (ks.map Kd.P))]/\KG ks/\R=.new (fun xs=>∃ cs:List Str,xs=cs.map .str/\cs.length<=12/\∀ c∈cs,c∈wk ks)
def UW:Pre:=fun l R=>l=[.AS]/\R=.is (fun p=>∃ r∈CH,p=.str r)
def Io:Pre:=fun l R=>∃ (ks:List Kd) (x r:Str),l=[.is (.lst (ks.map Kd.P)),.is (.str x),.is (.str r)]/\KG ks/\x∈wk ks/\r∈CH/\R=.new (fun xs=>xs=(AU ks r x).map .str)
def O0:Pre:=fun l R=>∃ (ks:List Kd) (S:List Str) (r:Str),l=[.is (.lst (ks.map Kd.P)),.sq false (S.map .str),.is (.str r)]/\KG ks/\r∈CH/\S.length<=12/\(∀ x∈S,x∈wk ks)/\R=.new (fun xs=>∃ L:List Str,xs=L.map .str/\L.Nodup/\L.length<=8/\∀ x,x∈L↔BY (AU ks r) S x)
def Qc:Pre:=fun l R=>∃ (ks:List Kd) (cs:List Str) (r:Str),l=[.is (.lst (ks.map Kd.P)),.sq false (cs.map .str),.is (.str r)]/\KG ks/\r∈CH/\cs.length<=12/\(∀ x∈cs,x∈wk ks)/\R=.is (fun p=>∃ b:Bool,p=.bl b/\(b=true↔IV (AU ks r) cs))
def KG.ij (h:KG ks)(hx:x∈wk ks):∃ k rest,ks.filter (fun k=>decide (k.w=x))=k::rest/\k.ps=ED ks x:=by
 obtain ⟨k,ek,ew,ep,_,km⟩:=h.at hx;have:k∈ks.filter (fun k=>decide (k.w=x)):=List.mem_filter.mpr ⟨km,jy ew⟩;cases e:ks.filter (fun k=>decide (k.w=x)) with
 | nil=>rw [e] at this;cases this
 | cons k' rest=>
  refine ⟨k',rest,rfl,?_⟩;have hm:k'∈ks.filter (fun k=>decide (k.w=x)):=by rw [e];simp
  obtain ⟨VS,Tq⟩:=List.mem_filter.mp hm;have Tq:k'.w=x:=k9 Tq;obtain ⟨i,hi,ei⟩:=ES VS;have wA:(wk ks).idxOf x=i:=by
   have q:(wk ks)[i]?=some x:=by rw [Ac,AX hi,ei];simp [Tq]
   exact RP h.nd q
  rw [ep];rw [wA,AX hi,ei] at ek;cases ek;rfl
def JC (h:KG ks)(hS:∀ x∈S,x∈wk ks)(q:BY (AU ks r) S x):x∈wk ks:=by
 induction q with
 | here m=>exact hS _ m
 | step _ hy _=>exact h.OZ hy
def uq (n:Nat):Fw (n+1) (-1)=some n:=by
 unfold Fw;rw [k6 (by decide),mZ (by omega)]
 congr 1
 omega
def Yw (V:List Str)(x:Str):L2.BA ((V++[x]).map PV.str) (-1)=some (.str x):=by
 unfold L2.BA;rw [AA,B2,GS,uq];simp
def nP (h0:0<=t)(h:t<3):∃ r∈CH,L2.BA [PV.str "none", .str "ahead", .str "all"] t=some (.str r):=by
 rcases (show t=0∨t=1∨t=2 by omega) with rfl | rfl | rfl
 ·exact ⟨"none", by decide,rfl⟩
 ·exact ⟨"ahead", by decide,rfl⟩
 ·exact ⟨"all", by decide,rfl⟩
def ZBl (h0:0<=t)(h:t<4):∃ x∈WH,L2.BA [PV.str "next", .str "last", .str "back", .str "first"] t=some (.str x):=by
 rcases (show t=0∨t=1∨t=2∨t=3 by omega) with rfl | rfl | rfl | rfl
 ·exact ⟨"next", by decide,rfl⟩
 ·exact ⟨"last", by decide,rfl⟩
 ·exact ⟨"back", by decide,rfl⟩
 ·exact ⟨"first", by decide,rfl⟩
def za (h0:0<=t)(h:t<8):∃ z:Nat,L2.BA [PV.int 0,.int 1,.int 1,.int 2,.int 3,.int 4,.int 6,.int 12] t=some (.int (z:Int))/\z<=12:=by
 rcases (show t=0∨t=1∨t=2∨t=3∨t=4∨t=5∨t=6∨t=7 by omega) with rfl | rfl | rfl | rfl | rfl | rfl | rfl | rfl
 ·exact ⟨0,rfl,by decide⟩
 ·exact ⟨1,rfl,by decide⟩
 ·exact ⟨1,rfl,by decide⟩
 ·exact ⟨2,rfl,by decide⟩
 ·exact ⟨3,rfl,by decide⟩
 ·exact ⟨4,rfl,by decide⟩
 ·exact ⟨6,rfl,by decide⟩
 ·exact ⟨12,rfl,by decide⟩
theorem R0 {P:Str->Prop}:∀ {ys:List PV},(∀ y∈ys,∃ c,P c/\y=.str c)->∃ cs:List Str,ys=cs.map .str/\∀ c∈cs,P c
 | [],_=>⟨[],rfl,fun c h=>absurd h Aa⟩
 | y::r,h=>by
  obtain ⟨c,hc,rfl⟩:=h y (by simp);obtain ⟨cs,e,h2⟩:=R0 (ys:=r) fun z hz=>h z (by simp [hz]);exact ⟨c::cs,by rw [e];rfl,fun d hd=>by
   rcases List.mem_cons.mp hd with rfl | hd
   ·exact hc
   ·exact h2 d hd⟩
theorem Xz:∀ {a b:List Str},a.map PV.str=b.map PV.str->a=b
 | [],[],_=>rfl
 | [],_::_,h=>by simp at h
 | _::_,[],h=>by simp at h
 | x::a,y::b,h=>by
  rw [BL,BL] at h;injection h with h1 h2
  injection h1 with h1
  rw [h1,Xz h2]
noncomputable def Dv:List Kd->List Addr->List OV
 | k::ks,b::bs=>.tp [.fz (.str k.w),.nd .lst b ((k.ps.map BN).map .fz),.fz (.bl k.g)]::Dv ks bs
 | _,_=>[]
theorem i3:∀ {ks:List Kd}{us:List OV},us.length=(ks.map Kd.P).length->(∀ (j:Nat) x u,(ks.map Kd.P)[j]?=some x->us[j]?=some u->∃ (k:Kd) (b:Addr),x=k.P/\u=.tp [.fz (.str k.w),.nd .lst b ((k.ps.map BN).map .fz),.fz (.bl k.g)])->∃ bs:List Addr,bs.length=ks.length/\us=Dv ks bs
 | [],[],_,_=>⟨[],rfl,rfl⟩
 | [],_::_,h,_=>by simp at h
 | _::_,[],h,_=>by simp at h
 | k::ks,u::us,h,hG=>by
  obtain ⟨k',b,e1,e2⟩:=hG 0 _ _ rfl rfl;have e1:=Kd.inj _ _ e1;subst e1;obtain ⟨bs,lb,e⟩:=i3 (ks:=ks) (us:=us) (by simpa using h) fun j x u hx hu=>hG (j+1) x u hx hu
  exact ⟨b::bs,by simp [lb],by rw [e,e2];rfl⟩
theorem bR:∀ (ks:List Kd) (bs:List Addr),bs.length=ks.length->(Dv ks bs).length=ks.length
 | [],_,_=>by simp [Dv]
 | _::_,[],h=>by simp at h
 | k::ks,b::bs,h=>by rw [Dv,By,By,bR ks bs (by simpa using h)]
theorem cz:∀ (ks:List Kd) (bs:List Addr),bs.length=ks.length->∀ {j:Nat}{u:OV},(Dv ks bs)[j]?=some u->∃ (k:Kd) (b:Addr),k∈ks/\u=.tp [.fz (.str k.w),.nd .lst b ((k.ps.map BN).map .fz),.fz (.bl k.g)]
 | [],_,_,j,u,hu=>by simp [Dv] at hu
 | _::_,[],h,_,_,_=>by simp at h
 | k::ks,b::bs,h,0,u,hu=>by
  rw [Dv] at hu;exact ⟨k,b,by simp,(Bc hu).symm⟩
 | k::ks,b::bs,h,j+1,u,hu=>by
  rw [Dv] at hu;obtain ⟨k',b',km,e⟩:=cz ks bs (by simpa using h) (j:=j) (u:=u) (by simpa using hu)
  exact ⟨k',b',by simp [km],e⟩
theorem ir:∀ (ks:List Kd) (bs:List Addr),bs.length=ks.length->OV.Cv (Dv ks bs)=ks.map Em
 | [],_,_=>by rw [Dv,OV.Cv];rfl;exact fun _ _ _ _ h=>by cases h
 | _::_,[],h=>by simp at h
 | k::ks,b::bs,h=>by
  rw [Dv,OV.Cv,ir ks bs (by simpa using h),BL]
  congr 1
  rw [OV.pv,OV.Cv,OV.pv,OV.Cv,OV.pv,OV.Cv,OV.pv,OV.Cv];unfold Em;rw [CU,show (OV.fz ∘ BN)=fun p=>OV.fz (BN p) from rfl,OK]
def ZAC (ks:List Kd)(bs:List Addr)(l:Addr)(h:bs.length=ks.length):(OV.nd .lst l (Dv ks bs)).pv=.lst (ks.map Em):=by rw [OV.pv,ir ks bs h]
noncomputable def Fe:List Int->Int
 | []=>0
 | [a]=>a
 | a::b::r=>if a<=Fe (b::r) then Fe (b::r) else a
theorem Xj:∀ (ns:List Int),ns≠[]->Fe ns∈ns/\∀ y∈ns,y<=Fe ns
 | [],h=>absurd rfl h
 | [a],_=>⟨by simp [Fe],fun y hy=>by rw [List.mem_singleton.mp hy];exact Int.le_refl _⟩
 | a::b::r,_=>by
  obtain ⟨h1,h2⟩:=Xj (b::r) (by simp);rw [Fe]
  by_cases c:a<=Fe (b::r)
  ·rw [mZ c];refine ⟨Ek _ h1,fun y hy=>?_⟩;rcases List.mem_cons.mp hy with rfl | hy
   ·exact c
   ·exact h2 y hy
  ·rw [k6 c];refine ⟨by simp,fun y hy=>?_⟩;rcases List.mem_cons.mp hy with rfl | hy
   ·exact Int.le_refl _
   ·have:=h2 y hy;omega
def ck {ns:List Int}(hm:m∈ns)(h:∀ y∈ns,y<=m):m=Fe ns:=by
 obtain ⟨h1,h2⟩:=Xj ns (fun z=>by rw [z] at hm;cases hm);have:=h2 m hm;have:=h _ h1;omega
noncomputable def HV (ks:List Kd)(r x:Str)(g:Str->List Int):List Int:=(List.range ks.length).map fun j=>((AU ks r x).map fun y=>(g y).getD j 0).sum+(if (wk ks).idxOf x=j then 1 else 0)
noncomputable def GF (f:Str->Int)(p:Str×Str):Int:=if p.1∈De then f p.2 else f p.2+1
noncomputable def LV (ks:List Kd)(r x:Str)(f:Str->Int):Int:=Fe (1::(C1 ks r x).map (GF f))
noncomputable def FH (ks:List Kd)(r:Str):Nat->Str->List Int
 | 0=>fun _=>(List.range ks.length).map fun _=>0
 | n+1=>fun x=>HV ks r x (FH ks r n)
noncomputable def Gk (ks:List Kd)(r:Str):Nat->Str->Int
 | 0=>fun _=>0
 | n+1=>fun x=>LV ks r x (Gk ks r n)
def oh (ks:List Kd)(r x:Str)(g:Str->List Int):(HV ks r x g).length=ks.length:=by unfold HV;rw [AA,LK]
def my (ks:List Kd)(r:Str)(n:Nat)(x:Str):(FH ks r n x).length=ks.length:=by
 cases n with
 | zero=>rw [FH,AA,LK]
 | succ n=>rw [FH,oh]
def dM {g g':Str->List Int}(h:∀ y∈AU ks r x,g y=g' y):HV ks r x g=HV ks r x g':=by
 unfold HV;refine SN fun j _=>?_;rw [SN fun y hy=>by rw [h y hy]]
def bA {g g':Str->Int}(h:∀ y∈AU ks r x,g y=g' y):LV ks r x g=LV ks r x g':=by
 unfold LV;rw [SN fun p hp=>?_];unfold GF;rw [h p.2 (List.mem_map.mpr ⟨p,hp,rfl⟩)]
def uT (h:Top (AU ks r) T):∀ (i:Nat) (x:Str),T[i]?=some x->∀ n m,i<n->i<m->FH ks r n x=FH ks r m x/\Gk ks r n x=Gk ks r m x:=by
 intro i
 induction i using Nat.strongRecOn with
 | _ i ih=>
  intro x hx n m hn hm;cases n with
  | zero=>omega
  | succ n=>cases m with
   | zero=>omega
   | succ m=>
    have key:∀ y∈AU ks r x,FH ks r n y=FH ks r m y/\Gk ks r n y=Gk ks r m y:=fun y hy=>by
     obtain ⟨j,hj,ej⟩:=ES (h i x hx y hy);rw [DM] at hj;rw [LJ] at ej;exact ih j (by omega) y (by rw [AX (by omega),ej]) n m (by omega) (by omega)
    rw [FH,FH,Gk,Gk];exact ⟨dM fun y hy=>(key y hy).1,bA fun y hy=>(key y hy).2⟩
theorem bw:∃ n:Nat,n=9:=⟨9,rfl⟩
noncomputable def fuel:Nat:=Classical.choose bw
def yl:fuel=9:=j8 bw
noncomputable def cnt (ks:List Kd)(r x:Str):List Int:=FH ks r fuel x
noncomputable def Ct (ks:List Kd)(r x:Str):Int:=Gk ks r fuel x
def Pb (ks:List Kd)(r x:Str):(cnt ks r x).length=ks.length:=my ks r fuel x
def aU (h:Top (AU ks r) T)(h8:T.length<=8)(hx:x∈T):cnt ks r x=HV ks r x (cnt ks r)/\Ct ks r x=LV ks r x (Ct ks r):=by
 obtain ⟨i,hi,e⟩:=ES hx;have e2:T[i]?=some x:=by rw [AX hi,e]
 have hf:=yl;have key:∀ y∈AU ks r x,∀ m,m+1=fuel->FH ks r m y=cnt ks r y/\Gk ks r m y=Ct ks r y:=fun y hy m hm=>by
  obtain ⟨j,hj,ej⟩:=ES (h i x e2 y hy);rw [DM] at hj;rw [LJ] at ej;exact uT h j y (by rw [AX (by omega),ej]) m fuel (by omega) (by omega)
 obtain ⟨m,hm⟩:∃ m,m+1=fuel:=⟨8,by omega⟩;refine ⟨?_,?_⟩
 ·have q:cnt ks r x=FH ks r (m+1) x:=by unfold cnt;rw [hm]
  rw [q,FH];exact dM fun y hy=>(key y hy m hm).1
 ·have q:Ct ks r x=Gk ks r (m+1) x:=by unfold Ct;rw [hm]
  rw [q,Gk];exact bA fun y hy=>(key y hy m hm).2
noncomputable def II (ks:List Kd)(r x:Str):PV:=.tup [.str x,.tup ((cnt ks r x).map .int),.int (Ct ks r x)]
noncomputable def Eb (ks:List Kd)(r:Str)(a:Addr)(M:List Str):OV:=.nd (.B7 (BO M)) a (M.map fun y=>.fz (II ks r y))
noncomputable def Rf (ks:List Kd)(r:Str)(M:List Str):PV:=.B7 (BO M) (M.map (II ks r))
def Sm (ks:List Kd)(r:Str)(a:Addr)(M:List Str):(Eb ks r a M).pv=Rf ks r M:=by
 unfold Eb Rf;rw [OV.pv,OK]
def VM (l:List Int):Fm (l.map PV.int)=true:=Mz _ (fun _=>by simp [DQ]) l
def Qm:Pre:=fun l R=>∃ (cs:List (List Int)) (n:Nat),l=[.is (.lst (cs.map fun c=>.tup (c.map .int))),.is (.int n)]/\n<=8/\cs.length<=100/\(∀ c∈cs,c.length=n)/\R=.new (fun xs=>xs=((List.range n).map fun j=>(cs.map fun c=>c.getD j 0).sum).map .int)
def Qo:Pre:=fun l R=>∃ (ks:List Kd) (r:Str) (M:List Str) (p:Str×Str),l=[.is (BN p),.is (Rf ks r M)]/\p.2∈M/\R=.is (fun q=>q=.int (GF (Ct ks r) p))
def RE (f:Str->List Str)(M:List Str):Prop:=∀ y∈M,∀ z∈f y,z∈M
def Ku (C:Addr)(n:Nat):Pre:=fun l R=>∃ (ks:List Kd) (x r:Str) (T:List Str) (i:Nat) (M:List Str) (a:Addr),l=[.is (Bk C ks),.is (.str x),.is (.str r),.ow true (Eb ks r a M)]/\KG ks/\r∈CH/\Top (AU ks r) T/\T.Nodup/\(∀ y∈T,y∈wk ks)/\T[i]?=some x/\i<n/\
 M.Nodup/\(∀ y∈M,y∈T)/\RE (AU ks r) M/\R=.mt (fun p t'=>p=.AB/\∃ M',t'=Eb ks r a M'/\M'.Nodup/\(∀ y∈M',y∈T)/\RE (AU ks r) M'/\(∀ y∈M,y∈M')/\x∈M'/\∀ y∈M',y∈M∨BY (AU ks r) [x] y)
def fo:∀ ss R,¬ Ku C 0 ss R:=by
 rintro ss R ⟨ks,x,r,T,i,M,a,_,_,_,_,_,_,_,h,_⟩;omega
def YG (C:Addr):Pre:=fun l R=>∃ (ks:List Kd) (tp:Bool) (cs:List Str) (r:Str) (T:List Str),l=[.is (Bk C ks),.sq tp (cs.map .str),.is (.str r)]/\KG ks/\r∈CH/\Top (AU ks r) T/\T.Nodup/\(∀ y∈T,y∈wk ks)/\(∀ c∈cs,c∈T)/\R=.ow (fun t=>∃ a M,t=Eb ks r a M/\M.Nodup/\∀ x,x∈M↔BY (AU ks r) cs x)
noncomputable def G8 (ks:List Kd)(r:Str)(M:List Str):List PV:=((wk ks).filter fun w=>decide (w∈M)).map (II ks r)
def Xm (C:Addr):Pre:=fun l R=>∃ (ks:List Kd) (tp:Bool) (cs:List Str) (r:Str) (T:List Str),l=[.is (Bk C ks),.sq tp (cs.map .str),.is (.str r)]/\KG ks/\r∈CH/\Top (AU ks r) T/\T.Nodup/\(∀ y∈T,y∈wk ks)/\(∀ c∈cs,c∈T)/\R=.new (fun xs=>∃ M,xs=G8 ks r M/\∀ x,x∈M↔BY (AU ks r) cs x)
def sum_set {g:Nat->Int}(hl:l=List.range n)(hj:j<n):(l.map g).set j (g j+1)=l.map fun k=>g k+(if j=k then 1 else 0):=by
 subst hl;refine SH (by simp) fun k h1 h2=>?_;simp only [LL,AA,LK] at h1;rw [List.getElem_set,Jp,YS]
 by_cases c:j=k
 ·subst c;simp
 ·simp [c]
def BY.mono {S':List Str}(h:∀ x∈S,BY f S' x)(r:BY f S x):BY f S' x:=by
 induction r with
 | here m=>exact h _ m
 | step _ hy ih=>exact .step ih hy
theorem dR:∀ {a b:List Int},a.map PV.int=b.map PV.int->a=b
 | [],[],_=>rfl
 | [],_::_,h=>by simp at h
 | _::_,[],h=>by simp at h
 | x::a,y::b,h=>by
  rw [BL,BL] at h;injection h with h1 h2
  injection h1 with h1
  rw [h1,dR h2]
noncomputable def XB (ks:List Kd)(r:Str)(L:List Str):PV:=.B7 (BO L) (L.map fun y=>.tup [.tup ((cnt ks r y).map .int),.int (Ct ks r y)])
noncomputable def FZ (ks:List Kd)(r:Str)(a:Addr)(L:List Str):OV:=.nd (.B7 (BO L)) a ((L.map fun y=>PV.tup [.tup ((cnt ks r y).map .int),.int (Ct ks r y)]).map .fz)
def RK (ks:List Kd)(r:Str)(a:Addr)(L:List Str):(FZ ks r a L).pv=XB ks r L:=by
 unfold FZ XB;rw [OV.pv,iu]
noncomputable def bS (ks:List Kd)(r x:Str)(i:Nat):List Int:=(List.range ks.length).map fun j=>(((AU ks r x).take i).map fun y=>(cnt ks r y).getD j 0).sum+(if (wk ks).idxOf x=j then 1 else 0)
def pj (g:KG ks)(r:Str)(hx:x∈wk ks):(ks.map fun k=>PV.int (if decide (k.w=x)=true then 1 else 0))=(bS ks r x 0).map .int:=by
 unfold bS;rw [CU];refine SH (by simp) fun j h1 h2=>?_;simp only [AA] at h1;simp only [Jp,YS,Function.comp,Yb,Ht,List.sum_nil,Int.zero_add,decide_eq_true_eq];have e:ks[j].w=x↔(wk ks).idxOf x=j:=by
  constructor
  ·intro h;exact RP g.nd (by rw [Ac,AX h1];simp [h])
  ·intro h;have hi:=List.idxOf_lt_length_iff.mpr hx;have q:=Hs hi;subst h;rw [Jp] at q;exact q
 by_cases c:ks[j].w=x
 ·rw [mZ c,mZ (e.mp c)]
 ·rw [k6 c,k6 fun z=>c (e.mpr z)]
noncomputable def YD:PV->PV
 | .tup [.int a,.int b]=>.int (a+b)
 | _=>.AB
theorem gE:∀ (A B:List Int),(ET (A.map .int) (B.map .int)).map YD=(List.zipWith (fun a b=>a+b) A B).map .int
 | [],_=>by simp [ET]
 | _::_,[]=>by simp [ET]
 | a::A,b::B=>by
  have:=gE A B;unfold ET at this ⊢;rw [BL,BL,jL,BL,this,jL,BL];rfl
def uf (h:s∈WH):decide (s∈De)=!decide (s∈([("back":Str), "first"])):=by
 simp only [WH,CL,Aa,pN] at h;rcases h with rfl | rfl | rfl | rfl <;> decide
def tq {K:ZE6}(ks:List Kd)(r:Str)(M:List Str):dat K 40 (.lst (G8 ks r M++[.tup []])):=fun x hx=>by
 rcases List.mem_append.mp hx with h | h
 ·unfold G8 at h;obtain ⟨y,_,rfl⟩:=List.mem_map.mp h;intro z hz;simp only [CL,Aa,pN] at hz;rcases hz with rfl | rfl | rfl
  ·trivial
  ·intro w hw;obtain ⟨i,_,rfl⟩:=List.mem_map.mp hw;trivial
  ·trivial
 ·rw [List.mem_singleton.mp h];intro z hz;cases hz
def rS {z:PV}(h:z∈ET xs ys):∃ p q,p∈xs/\q∈ys/\z=.tup [p,q]:=by
 obtain ⟨i,hi,e⟩:=ES h;have hl:i<min xs.length ys.length:=by rw [<- RC];exact hi
 have q:=Yp (xs:=xs) (ys:=ys) (i:=i) (AX (by omega)) (AX (by omega));rw [AX hi,e] at q;exact ⟨_,_,Fs _,Fs _,Bc q⟩
def kI {xs:List Str}(h:xs[xs.length - 1]?=some z):xs=xs.dropLast++[z]:=by
 have ne:xs≠[]:=fun e=>by rw [e] at h;simp at h
 have q:=ZCj ne;rw [List.getLast_eq_getElem] at q;have e:=(List.getElem?_eq_some_iff.mp h).2;rw [e] at q;exact q.symm
def M5 {xs:List Str}(h:xs[xs.length - 1]?=some z):L2.BA (xs.map PV.str) (-1)=some (.str z):=by
 rw [kI h];exact Yw _ _
def jh (h:W.Nodup)(e:W[i]?=some y):y∉W.take i:=fun m=>by
 obtain ⟨j,hj,ej⟩:=ES m;rw [DM] at hj;rw [LJ] at ej;have hi:=(List.getElem?_eq_some_iff.mp e).1;exact List.pairwise_iff_getElem.mp h j i (by omega) hi (by omega) (ej.trans (List.getElem?_eq_some_iff.mp e).2.symm)
end Fz
namespace L2
variable {ns:List Str}
section
variable {X:Cx}
noncomputable def vb (y:Str):Value->Bool
 | .str a _=>a == y
 | _=>false
def pB {y:Str}(h:y∈ns):∃ h:ns.idxOf y<ns.length,ns[ns.idxOf y]=y/\∀ m (hm:m<ns.length),m<ns.idxOf y->ns[m]≠y:=by
 have hj:ns.idxOf y<ns.length:=List.idxOf_lt_length_iff.mpr h;refine ⟨hj,Hs hj,fun m hm AQ e=>?_⟩;have:=List.not_of_lt_findIdx (p:=(· == y)) (xs:=ns) (i:=m) AQ
 simp [e] at this
def ZBH {A3:List Value}(r:Vals (ns.map V.str) A3){m:Nat}{u:Value}(h:A3[m]?=some u):∃ (hm:m<ns.length) (t:Tok),u=.str ns[m] t:=by
 have hl:=r.length;rw [AA] at hl;have hi:m<A3.length:=(List.getElem?_eq_some_iff.mp h).1;have CV:m<ns.length:=by omega
 obtain ⟨w,h1,h2⟩:=r.get (i:=m) (x:=.str ns[m]) (by rw [Ac,AX CV];rfl);rw [h1] at h;cases h;obtain ⟨t,rfl⟩:=h2;exact ⟨CV,t,rfl⟩
theorem ZK:∀ (ns:List Str) (j:Nat),(ns.map V.str).eraseIdx j=(ns.eraseIdx j).map V.str
 | [],_=>rfl
 | _::_,0=>rfl
 | x::t,j+1=>by rw [BL,ZCn,ZK t j];rfl
def bz:V->List V->Hp->VK->Prop:=fun x vs H Q=>∃ (l:Addr) (ns:List Str) (y:Str),x=.ref l/\vs=[.str y]/\H l=some (.lst (ns.map V.str))/\y∈ns/\Q .AB (upd H l (.lst ((ns.eraseIdx (ns.idxOf y)).map V.str)))
def vV:Gz X "list.remove" bz:=by
 intro pins s σ H x vs v us Q I rx rv h;obtain ⟨l,ns,y,rfl,rfl,hH,hy,q⟩:=h;cases rx;obtain ⟨u,rfl,ru⟩:=rv.one;obtain ⟨t,rfl⟩:=ru;obtain ⟨z,A3,n,r,hl,e⟩:=I.Hw hH;obtain ⟨hj,XR,Mq⟩:=pB hy;have hll:ns.length=A3.length:=by rw [<- hl,AA]
 have at':∀ (m:Nat) (hm:m<A3.toArray.size),∃ (S6:m<ns.length) (t:Tok),A3.toArray[m]=.str ns[m] t:=fun m hm=>by
  have TH:m<A3.length:=by simpa using hm
  obtain ⟨h2,t,e⟩:=ZBH r (AX TH);exact ⟨h2,t,by simpa using e⟩
 have OM:ns.idxOf y<A3.toArray.size:=by simp;omega
 refine uF ZDD ⟨_,e,rfl⟩ PySem.F.entry_list_remove (PySem.F.args_list_remove_2 _ _) (MeetsSeq.list_remove l A3.toArray n (.str y t) (vb y) (fun w hw=>?_) (ns.idxOf y) OM ?_ (fun m hm AQ=>?_) (by rw [Bd];omega)) ⟨e,?_⟩
 ·obtain ⟨m,hm,rfl⟩:=Array.mem_iff_getElem.mp hw;obtain ⟨h2,t2,e2⟩:=at' m hm;rw [e2];exact eqGives_str _ _ _ _
 ·obtain ⟨h2,t2,e2⟩:=at' _ OM;rw [e2];show (_ == _)=true;rw [XR];simp
 ·obtain ⟨h2,t2,e2⟩:=at' m hm;rw [e2];show (_ == _)=false
  simpa using Mq m h2 AQ
 ·refine ⟨.AB,_,I.Lr (its':=A3.eraseIdx (ns.idxOf y)) hH e ?_ ?_ ?_,rfl,q⟩
  ·show A3.toArray.eraseIdxIfInBounds _=_;rw [ZCm]
  ·rw [<- ZK];exact r.eraseIdx _
  ·have:=iT ns (ns.idxOf y);rw [AA] at z ⊢;omega
def uY:CJ X (.builtin "len") (fun xs H Q=>∃ l f n,xs=[.ref l]/\H l=some (IL X.prog X.w l f n)/\Q (.int n) H):=by
 intro pins s σ H xs us Q I r h;obtain ⟨l,f,n,rfl,hH,q⟩:=h;obtain ⟨u,rfl,rx⟩:=vals1 r;cases rx;obtain ⟨⟨o,es,ep,t,ho,hex,hd,_,_,JY,hf,hn,_⟩,_,_⟩:=I.AK l _ hH;subst hn;refine PySem.call_len_set ho hex hd hf ?_ ⟨.int _,H,I.tok _,⟨_,rfl⟩,q⟩;have:es.size<4096:=JY;have h2:(4096:Int)<2 ^ 63:=by decide
 omega
def XO (K:ZE6)(t:TA):TE:=fun σ H Q=>t σ H fun vs H1=>∃ a tp ys,vs=[.ref a]/\EM K tp H1 a ys/\tp=false/\∀ l,H1 l=none->Q (.ref l) (upd H1 l (.lst ys.reverse))
def ZA1 {p1 p2 VT I0:Pos}{e:Expr}{t:TA}(hc:X.calm=true)(U8:Gl X "list")(UO:X.mg "list"=none)(T7:Gl X "reversed")(S6:X.mg "reversed"=none)(ha:QA X [e] t)
  (he:starEach [e] X.env=[(false,eval e X.env)]:=by rfl) (ME:starEach [.Call (.Name "reversed" p2) [e] [] I0] X.env=[(false,eval (.Call (.Name "reversed" p2) [e] [] I0) X.env)]:=by rfl) :
  QE X (.Call (.Name "list" p1) [.Call (.Name "reversed" p2) [e] [] I0] [] VT) (XO X.K t):=⟨by
 have ha:=ha.h;intro pins s σ H Q I h;refine qN (Iq I U8 UO (show bootBuiltins "list"=some (.type "list") by decide +kernel) ?_ (by decide) (by decide));refine Mj ?_ ME rfl;rw [ME];show wpAny _ _ (spliced ((false,eval (.Call (.Name "reversed" p2) [e] [] I0) X.env)::[])) _ _ s;refine Calls.spliced_cons ?_;refine qN (Iq I T7 S6 (show bootBuiltins "reversed"=some (.type "reversed") by decide +kernel) ?_ (by decide) (by decide));refine Mj (AL (ha I0 pins s σ H _ I h) fun us s1 ⟨vs,H1,I1,r1,q1⟩=>?_) he rfl;obtain ⟨a,tp,ys,rfl,hq,rfl,q⟩:=q1;obtain ⟨u,rfl,rx⟩:=vals1 r1;cases rx;have fin:∀ (A3:List Value) (D:Addr) (s2 s':Shared) (acc:Array Value) (c:Nat) (tk:Nat) (ob:Obj),Vals ys A3->ys.length<=sizeLine->D=s1.heap.objs.size->s2={ s1 with heap:=s1.heap.push ob,toks:=tk }->
   Moved [s2.heap.objs.size,D] (fun a b=>b=a) { s2 with heap:=s2.heap.push { cls:=.type "list", data:=.seq #[] } } s'->s'.heap.get? s2.heap.objs.size=some { cls:=.type "list", dict:=none,data:=.seq acc c,slots:=#[] }->
   ItemsOf (fun i v=>A3.toArray[A3.toArray.size - 1 - i]?=some v) acc A3.toArray.size->EP X pins σ Q (.ref s2.heap.objs.size) s':=by
  intro A3 D s2 s' acc c tk ob r hz eD e2 hm hS Ay;subst eD;subst e2;obtain ⟨us,rv,rfl⟩:=mn r Ay;obtain ⟨h',g',d',Tr,Ng⟩:=s';have eg:g'=s1.gens:=hm.gens;have ed:d'=s1.drawn:=hm.drawn;have eo:Ng=s1.os:=hm.os;subst eg;subst ed;subst eo;have hsz:(s1.heap.push ob).objs.size=s1.heap.objs.size+1:=Dr ..;have kp:∀ b o,s1.heap.get? b=some o->h'.get? b=some o:=fun b o e=>by
   have hb:=B9 e;refine hm.heap b o ?_ (BQ _ (BQ _ e));show b∉[(s1.heap.push ob).objs.size,s1.heap.objs.size];rw [hsz];simp only [CL,Aa,pN,ZB3];exact ⟨Bf (Js hb),Bf hb⟩
  refine ⟨.ref _,_,I1.laid (a:=(s1.heap.push ob).objs.size) (t':=Tr) kp (by rw [hsz];exact Fu _) (show CI X.prog X.w _ h' _ (.lst ys.reverse) from ⟨by rw [ZCy];exact hz,us,c,rv,hS⟩),rfl,q _ (I1.AK.fresh (by show _<=_;rw [hsz];exact Fu _))⟩
 have hh:X.A.handled=none:=I1.ok.hd hc;obtain ⟨A3,r,pl,hz⟩:=I1.list hq;have hlen:=r.length;refine call_reversed_list pl.isList ?_;refine Calls.spliced_nil ?_;obtain ⟨o,n,ho,_⟩:=id pl;have AQ:=B9 ho;have B5:a≠s1.heap.objs.size:=Bf AQ;have Cb:0<=A3.toArray.size/\Heap.IsRevIter (s1.heap.push (revObj a ((A3.toArray.size:Int) - 1))) s1.heap.objs.size a ((A3.toArray.size:Int) - 1 - ((0:Nat):Int))/\Heap.IsList (s1.heap.push (revObj a ((A3.toArray.size:Int) - 1))) a A3.toArray:=
  ⟨CM _,⟨_,Ba _ rfl,rfl,by simp [revObj]⟩,pl.isList.push _⟩
 refine t8 (I:=s1.heap.objs.size) (s:={ s1 with heap:=s1.heap.push (revObj a ((A3.toArray.size:Int) - 1)) }) (Walks.listRev (prog:=X.prog) (w:=X.w) (A:=X.A.in1.in1) hh s1.heap.objs.size a B5 A3.toArray).toS (fun i s st=>st.2.1.typeIs) Cb ?_ (by simp) ?_ (by simp;omega)
 ·intro b hb;show b<(s1.heap.push _).objs.size;rw [Dr];rcases List.mem_cons.mp hb with h | h
  ·rw [h];exact LN _
  ·have:b=a:=by simpa using h
   rw [this];exact Js AQ
 ·intro s' acc c hm hS Ay;exact fin A3 s1.heap.objs.size { s1 with heap:=s1.heap.push (revObj a ((A3.toArray.size:Int) - 1)) } s' acc c s1.toks (revObj a ((A3.toArray.size:Int) - 1)) r hz rfl rfl hm hS Ay⟩
end
end L2
namespace Fz
open L2 Lw
variable {xs:List PV}{L0 ps:List (Str×Str)}{M S W ns:List Str}{p:Str×Str}{ks:List Kd}{r x x0:Str}{f:Str->List Str}
section
variable [Xw]
variable {ss:List Slot}{K:ZE6}{ta tb tc te ti ty:TE}{nx:List Slot->Prop}{R:As}{ps:List PV}{i j:Nat}{t:OV}{lt:Bool}{a b:Addr}{us:List OV}{nk:NK}
def ZAf (hi:ss[i]?=some (.own (ns.map PV.str)))(h:Wp ss ty fun q=>∃ y,q=.str y/\y∈ns/\nx (ss.set i (.own ((ns.eraseIdx (ns.idxOf y)).map PV.str)))):Ws ss (HQ (Jf K "list" bz (BI i) (Ap ty BV))) nx R:=⟨fun E D σ F H S hn hr=>by
 obtain ⟨l,vs,e,e1,e2,e3,r⟩:=S.ok i _ hi;refine ⟨_,e,.inl ⟨rfl,_,AY.of e3⟩,h.go E σ F H _ S fun v q F1 H1 m1 rv ⟨y,ey,hy,kk⟩=>?_⟩;subst ey;cases rv;obtain ⟨l',Bh,e',DO,CD,HR,r'⟩:=m1.st.ok i _ hi;rw [e] at e';cases e';rw [r'.strs] at HR;refine ⟨l,ns,y,rfl,rfl,HR,hy,?_⟩;exact hn _ σ F1 _ kk (m1.st.put hi e DO CD (V6 _)) m1.ff⟩
def oa {k:List PV->Prop}(h:Wq ss te fun tp xs=>tp=false/\k xs.reverse):Wn ss (XO K (Ap te BV)) k:=⟨fun E σ F H Q S q=>
 h.go E σ F H _ S fun v tp xs F1 H1 m1 sv ⟨et,kk⟩=>by
  obtain ⟨l,vs,rfl,hl,r⟩:=sv.seq m1.st;refine ⟨l,tp,vs,rfl,DP.sq hl,et,fun a ha=>?_⟩;have m2:=m1.st.make ha (.lst vs.reverse);exact q a _ _ F1 _ (m1.trans m2) (m1.st.C5 ha) (m1.none ha) B0 r.reverse kk⟩
def vO {P:Program}{w:World}{k:PV->Prop}(h:Wq ss te fun _ xs=>∃ ns:List Str,xs=ns.map PV.str/\ns.length<4000/\k (.int ((dd ns).length:Nat))):
  Wp ss (D7 (fun xs H Q=>∃ l f n,xs=[.ref l]/\H l=some (IL P w l f n)/\Q (.int (n:Nat)) H) (Ap (D7 (fun xs H Q=>∃ (p:Addr) (tp:Bool) (ss:List Str),xs=[.ref p]/\EM K tp H p (ss.map V.str)/\ss.length<4000/\∀ l,H l=none->Q (.ref l) (upd H l (IL P w l (fun k'=>(dd ss).any (· == k')) (dd ss).length))) (Ap te BV)) BV)) k:=⟨fun E σ F H Q S q=>
 h.go E σ F H _ S fun v tp xs F1 H1 m1 sv ⟨ns,e,hz,kk⟩=>by
  subst e;obtain ⟨l,vs,rfl,hl,r⟩:=sv.seq m1.st;rw [r.strs] at hl;refine ⟨l,tp,ns,rfl,DP.sq hl,hz,fun a ha=>?_⟩;have m2:=m1.st.make ha (IL P w a (fun k'=>(dd ns).any (· == k')) (dd ns).length)
  exact ⟨a,_,_,rfl,B0,q _ _ F1 _ (m1.trans m2) (.int _) kk⟩⟩
def o8 {k:List PV->Prop}(h:Wz ss te fun tp xs=>tp=false/\k (K6 xs)):Wi ss (Xv K (Ap te BV)) k:=⟨fun E σ F H R S q=>
 h.go E σ F H _ S fun v tp xs F1 H1 m1 f ⟨et,kk⟩=>by
  subst et;obtain ⟨l,vs,ev,hl,r⟩:∃ l vs,v=.ref l/\(∀ (ss:List Slot) (σ:L2.St) (F H:Hp),AV F1 F->Sg E ss σ F H->H l=some (.lst vs))/\AJ F1 vs xs:=by
   obtain ⟨l,vs,e,h1,r⟩:=f;refine ⟨l,vs,e,fun ss σ F H s S=>?_,r⟩;rcases h1 with h1 | ⟨hA,h1⟩
   ·exact S.fh _ _ (s _ _ h1)
   ·exact S.keep _ _ hA h1
  subst ev;refine ⟨l,vs,rfl,AY.of (hl ss σ F1 H1 (AV.refl _) m1.st),q _ (K6 xs) F1 H1 m1 ⟨fun ss σ F H i s S hi=>?_,fun ss σ F H s S=>?_,fun ss σ F H i x H' s S hi y=>?_⟩ kk⟩
  ·rw [Uh] at hi;exact ⟨AY.of (hl ss σ F H s S),by rw [r.length];exact hi⟩
  ·refine ⟨AY.of (hl ss σ F H s S),?_⟩;rw [Uh,r.length];exact Ai _
  ·obtain ⟨p,y,hy,ex,hp,eH⟩:=y;subst ex;subst eH;obtain ⟨z,hz,rz⟩:=r.get' hy;have m:=S.alloc hp (.tup [.int i,y]);exact ⟨_,_,cw hz,m,.tup B0 (.cons (.int _) (.one (rz.mono (s.trans m.ff))))⟩⟩
end
def K2 (f:Str->List Str)(ws W:List Str):Prop:=W.Nodup/\(∀ y∈W,y∈ws)/\GP f W
def X5 (f:Str->List Str)(ws U:List Str):Prop:=∃ y z,U[0]?=some y/\U[U.length - 1]?=some z/\K2 f ws U/\y∈f z
def XD (f:Str->List Str)(ws cs W:List Str)(e:Str):Prop:=∃ y,W[0]?=some y/\y∈cs/\W[W.length - 1]?=some e/\K2 f ws W
abbrev Rw:=Str×List Int×Int
noncomputable def Rw.P (w:Rw):PV:=.tup [.str w.1,.tup (w.2.1.map .int),.int w.2.2]
inductive Ed where
 | ends (T:List Rw)
 | less (W U:List Str)
noncomputable def Ed.P:Ed->PV
 | .ends T=>.tup [.str "ends", .lst (T.map Rw.P)]
 | .less W U=>.tup [.str "endless", .lst (W.map .str),.lst (U.map .str)]
def Ed.Ok:Ed->Prop
 | .ends T=>T.length<=100
 | .less W U=>W.length<=200/\U.length<=200
def T3 (ks:List Kd)(r:Str)(cs:List Str):Ed->Prop
 | .ends T=>¬ IV (AU ks r) cs/\∀ M,(∀ x,x∈M↔BY (AU ks r) cs x)->Az (.lst (T.map Rw.P)) (.lst (G8 ks r M))=true
 | .less W U=>∃ e,U[0]?=some e/\X5 (AU ks r) (wk ks) U/\XD (AU ks r) (wk ks) cs W e
def Tells (P:Prop)(p:PV):Prop:=∃ b:Bool,p=.bl b/\(b=true↔P)
def tells_eq {P:Prop}{p q:PV}(h:Tells P p)(h2:Tells P q):∃ b:Bool,p=.bl b/\q=.bl b:=by
 obtain ⟨b,rfl,hb⟩:=h;obtain ⟨c,rfl,hc⟩:=h2;refine ⟨b,rfl,?_⟩;cases b <;> cases c <;> first | rfl | exact absurd (hb.mpr (hc.mp rfl)) (by decide) | exact absurd (hc.mpr (hb.mp rfl)) (by decide)
def QF (C:Addr):Pre:=fun l R=>∃ (ks:List Kd) (r x y:Str),l=[.is (Bk C ks),.is (.str r),.is (.str x),.is (.str y)]/\KG ks/\r∈CH/\x∈wk ks/\R=.is (fun p=>p=.bl (decide (y∈AU ks r x)))
def Q4 (C:Addr):Pre:=fun l R=>∃ (ks:List Kd) (r:Str) (W:List Str),l=[.is (Bk C ks),.is (.str r),.is (.lst (W.map .str))]/\KG ks/\r∈CH/\W.length<=200/\R=.is (Tells (K2 (AU ks r) (wk ks) W))
def T8 (C:Addr):Pre:=fun l R=>∃ (ks:List Kd) (r:Str) (W:List Str),l=[.is (Bk C ks),.is (.str r),.is (.lst (W.map .str))]/\KG ks/\r∈CH/\W.length<=200/\R=.is (Tells (X5 (AU ks r) (wk ks) W))
def Vm (C:Addr):Pre:=fun l R=>∃ (ks:List Kd) (cs:List Str) (r:Str) (W:List Str) (e:Str),l=[.is (Bk C ks),.sq false (cs.map .str),.is (.str r),.is (.lst (W.map .str)),.is (.str e)]/\KG ks/\r∈CH/\W.length<=200/\R=.is (Tells (XD (AU ks r) (wk ks) cs W e))
def WL (C:Addr):Pre:=fun l R=>∃ (ks:List Kd) (cs:List Str) (r:Str) (e:Ed),l=[.is (Bk C ks),.sq false (cs.map .str),.is (.str r),.is e.P]/\KG ks/\r∈CH/\cs.length<=12/\(∀ c∈cs,c∈wk ks)/\e.Ok/\R=.is (Tells (T3 ks r cs e))
def VG:Pre:=fun l R=>∃ (ks:List Kd) (cs:List Str) (r:Str),l=[.is (.lst (ks.map Kd.P)),.is (.lst (cs.map .str)),.is (.str r)]/\KG ks/\r∈CH/\cs.length<=12/\(∀ c∈cs,c∈wk ks)/\¬ IV (AU ks r) cs/\R=.ow (fun t=>∃ a M,t=FZ ks r a M/\M.Nodup/\∀ x,x∈M↔BY (AU ks r) cs x)
def Rq:Pre:=fun l R=>∃ (ks:List Kd) (cs:List Str) (r:Str),l=[.is (.lst (ks.map Kd.P)),.is (.lst (cs.map .str)),.is (.str r)]/\KG ks/\r∈CH/\cs.length<=12/\(∀ c∈cs,c∈wk ks)/\¬ IV (AU ks r) cs/\R=.new (fun xs=>∃ M,xs=G8 ks r M/\∀ x,x∈M↔BY (AU ks r) cs x)
def Vv:Pre:=fun l R=>∃ (ks:List Kd) (cs:List Str) (g r:Str),l=[.is (.lst (ks.map Kd.P)),.is (.lst (cs.map .str)),.is (.str g),.is (.str r)]/\KG ks/\r∈CH/\cs.length<=12/\(∀ c∈cs,c∈wk ks)/\R=.is (fun p=>∃ W:List Str,p=.lst (W.map .str)/\W.length<=30)
def WV:Pre:=fun l R=>∃ (ks:List Kd) (cs:List Str) (r:Str),l=[.is (.lst (ks.map Kd.P)),.is (.lst (cs.map .str)),.is (.str r)]/\KG ks/\r∈CH/\cs.length<=12/\(∀ c∈cs,c∈wk ks)/\R=.is (fun p=>∃ W U:List Str,p=.tup [.lst (W.map .str),.lst (U.map .str)]/\W.length<=30/\U.length<=31)
def Ve:Pre:=fun l R=>∃ (ks:List Kd) (T:List Rw),l=[.AS,.is (.lst (ks.map Kd.P)),.is (.lst (T.map Rw.P))]/\KG ks/\T.length<=20/\(∀ w∈T,1<=w.2.1.length/\w.2.1.length<=100)/\R=.is (fun p=>∃ T':List Rw,p=.lst (T'.map Rw.P)/\T'.length<=50)
def YF:Pre:=fun l R=>∃ (ks:List Kd) (W:List Str),l=[.AS,.is (.lst (ks.map Kd.P)),.is (.lst (W.map .str))]/\KG ks/\W.length<=40/\R=.is (fun p=>∃ W':List Str,p=.lst (W'.map .str)/\W'.length<=90)
def Sz:Pre:=fun l R=>∃ (ks:List Kd) (r:Str) (W:List Str),l=[.is (.lst (ks.map Kd.P)),.is (.str r),.is (.lst (W.map .str))]/\KG ks/\r∈CH/\W.length<=200/\R=.is (Tells (W≠[]/\K2 (AU ks r) (wk ks) W))
def Vg:Pre:=fun l R=>∃ (ks:List Kd) (cs:List Str) (r:Str) (e:Ed),l=[.is (.lst (ks.map Kd.P)),.is (.lst (cs.map .str)),.is (.str r),.is e.P]/\KG ks/\r∈CH/\cs.length<=12/\(∀ c∈cs,c∈wk ks)/\e.Ok/\R=.is (Tells (T3 ks r cs e))
def Wh:Pre:=fun l R=>∃ (ks:List Kd) (cs:List Str) (r:Str),l=[.AS,.is (.lst (ks.map Kd.P)),.is (.lst (cs.map .str)),.is (.str r)]/\KG ks/\r∈CH/\cs.length<=12/\(∀ c∈cs,c∈wk ks)/\R=.is (fun p=>∃ e:Ed,p=e.P/\e.Ok)
theorem bQ:∀ (A B:List Str),ET (A.map .str) (B.map .str)=(A.zip B).map fun p=>PV.tup [.str p.1,.str p.2]
 | [],_=>by simp [ET]
 | _::_,[]=>by simp [ET]
 | a::A,b::B=>by
  have:=bQ A B;unfold ET at this ⊢;rw [BL,BL,jL,this,Jr,BL]
def ZAt (f:Str->List Str)(W:List Str):((W.zip (W.drop 1)).map fun p=>decide (p.2∈f p.1)).all id=true↔GP f W:=by
 rw [Hr];constructor
 ·intro h i x y hx hy;have hi:=(List.getElem?_eq_some_iff.mp hy).1;have e:(W.zip (W.drop 1))[i]?=some (x,y):=by
   rw [ZCu];exact ⟨hx,by rw [ZCr,jM];exact hy⟩
  exact k9 (h _ (List.mem_map.mpr ⟨_,C7 e,rfl⟩))
 ·intro h b hb;obtain ⟨p,hp,rfl⟩:=List.mem_map.mp hb;obtain ⟨i,hi,e⟩:=ES hp;have e2:(W.zip (W.drop 1))[i]?=some (p.1,p.2):=by rw [AX hi,e]
  rw [ZCu] at e2;refine jy (h i _ _ e2.1 ?_);have:=e2.2;rw [ZCr,jM] at this;exact this
noncomputable def ZC1 (ks:List Kd)(r:Str):PV->PV
 | .tup [.str a,.str b]=>.bl (decide (b∈AU ks r a))
 | _=>.AB
def EC {P:Prop}(h:¬ P):Tells P (.bl false):=⟨false,rfl,fun z=>(by cases z),fun z=>absurd z h⟩
def MK {P Q:Prop}{b:Bool}(h:b=true↔P)(h2:P↔Q):Tells Q (.bl b):=⟨b,rfl,h.trans h2⟩
def Yt (ws W:List Str):(W.map fun y=>decide (y∈ws)).all id=true↔∀ y∈W,y∈ws:=by
 rw [Hr];constructor
 ·intro h y hy;exact k9 (h _ (List.mem_map.mpr ⟨y,hy,rfl⟩))
 ·intro h b hb;obtain ⟨y,hy,rfl⟩:=List.mem_map.mp hb;exact jy (h y hy)
def uU (p q:Str×Str)(h:BN p=BN q):p=q:=by
 obtain ⟨a,b⟩:=p;obtain ⟨c,d⟩:=q;unfold BN at h;injection h with h
 injection h with h1 h2
 injection h2 with h2 _
 injection h1 with h1
 injection h2 with h2
 have h1:a=c:=h1;have h2:b=d:=h2;rw [h1,h2]
def Q5 (h:0<W.length):∃ y z,W[0]?=some y/\W[W.length - 1]?=some z:=⟨_,_,AX h,AX (by omega)⟩
def fj {N:List Str}(h:∀ x,x∈M↔x∈N):G8 ks r M=G8 ks r N:=by
 unfold G8;rw [ZCo fun w _=>decide_eq_decide.mpr (h w)]
def VN {K:ZE6}(T:List Rw):dat K 40 (.lst (T.map Rw.P)):=fun x hx=>by
 obtain ⟨y,_,rfl⟩:=List.mem_map.mp hx;intro z hz;simp only [CL,Aa,pN] at hz;rcases hz with rfl | rfl | rfl
 ·trivial
 ·intro w hw;obtain ⟨i,_,rfl⟩:=List.mem_map.mp hw;trivial
 ·trivial
def ub (ks:List Kd)(r:Str)(M:List Str):∃ T:List Rw,G8 ks r M=T.map Rw.P/\T.length<=ks.length/\∀ w∈T,w.2.1.length=ks.length:=by
 refine ⟨((wk ks).filter fun w=>decide (w∈M)).map fun y=>(y,cnt ks r y,Ct ks r y),?_,?_,fun w hw=>?_⟩
 ·unfold G8;rw [CU];rfl
 ·rw [AA];refine D1 (SK _ _) ?_;rw [AA];exact Ai _
 ·obtain ⟨y,_,rfl⟩:=List.mem_map.mp hw;exact Pb ks r y
def iQ {K:ZE6}(ks:List Kd)(r:Str)(M:List Str):dat K 40 (.lst (G8 ks r M)):=fun x hx=>tq (K:=K) ks r M x (Mi _ hx)
theorem aD:∀ {l:List Str},¬ l.Nodup->∃ (i j:Nat) (x:Str),i<j/\l[i]?=some x/\l[j]?=some x
 | [],h=>absurd HH h
 | a::l,h=>by
  by_cases c:a∈l
  ·obtain ⟨j,hj,e⟩:=ES c;exact ⟨0,j+1,a,by omega,rfl,by rw [ZCq,AX hj,e]⟩
  ·obtain ⟨i,j,x,h1,h2,h3⟩:=aD (l:=l) fun z=>h (List.nodup_cons.mpr ⟨c,z⟩);exact ⟨i+1,j+1,x,by omega,h2,h3⟩
noncomputable def NA (g:Str->Str)(x:Str):Nat->Str
 | 0=>x
 | n+1=>g (NA g x n)
def sink (h0:x0∈S)(h:∀ x∈S,∃ y,y∈f x/\y∈S):∃ x∈S,BY f (f x) x:=by
 have hg:∀ x,∃ y,x∈S->y∈f x/\y∈S:=fun x=>by
  by_cases c:x∈S
  ·obtain ⟨y,hy⟩:=h x c;exact ⟨y,fun _=>hy⟩
  ·exact ⟨x,fun z=>absurd z c⟩
 let g:Str->Str:=fun x=>Classical.choose (hg x)
 have gs:∀ x∈S,g x∈f x/\g x∈S:=fun x hx=>j8 (hg x) hx;have is:∀ n,NA g x0 n∈S:=fun n=>by
  induction n with
  | zero=>exact h0
  | succ n ih=>exact (gs _ ih).2
 have nn:¬ ((List.range (S.length+1)).map (NA g x0)).Nodup:=fun nd=>by
  have:=EY nd (bs:=S) fun y hy=>by
   obtain ⟨n,_,rfl⟩:=List.mem_map.mp hy;exact is n
  rw [AA,LK] at this;omega
 obtain ⟨i,j,x,HS,e1,e2⟩:=aD nn;rw [Ac] at e1 e2;obtain ⟨i',ei,rfl⟩:=Option.map_eq_some_iff.mp e1;obtain ⟨j',ej,e3⟩:=Option.map_eq_some_iff.mp e2;have hi:=(List.getElem?_eq_some_iff.mp ei);have hj:=(List.getElem?_eq_some_iff.mp ej);obtain ⟨Xp,Cf⟩:=hi;obtain ⟨l6,L1⟩:=hj;rw [YS] at Cf L1;subst Cf;subst L1;refine ⟨_,is i,?_⟩;have go:∀ d,BY f (f (NA g x0 i)) (NA g x0 (i+1+d)):=fun d=>by
  induction d with
  | zero=>exact .here (gs _ (is i)).1
  | succ d ih=>exact .step ih (gs _ (is (i+1+d))).1
 have:=go (j - i - 1);rw [show i+1+(j - i - 1)=j from by omega,e3] at this;exact this
def wm {ws cs:List Str}(hw:∀ x,BY f cs x->x∈ws)(h:¬ IV f cs):∃ T,Top f T/\T.Nodup/\(∀ y∈T,BY f cs y)/\∀ x,BY f cs x->x∈T:=by
 have go:∀ n,∃ T,Top f T/\T.Nodup/\(∀ y∈T,BY f cs y)/\(n<=T.length∨∀ x,BY f cs x->x∈T):=fun n=>by
  induction n with
  | zero=>exact ⟨[],Top.nil,HH,fun _ h=>absurd h Aa,.inl (Ai _)⟩
  | succ n ih=>
   obtain ⟨T,tT,nd,sub,hn⟩:=ih
   by_cases c:∀ x,BY f cs x->x∈T
   ·exact ⟨T,tT,nd,sub,.inr c⟩
   have hn:n<=T.length:=hn.elim id fun z=>absurd z c;obtain ⟨x0,UH⟩:=Classical.not_forall.mp c;obtain ⟨r0,n0⟩:=Classical.not_imp.mp UH;haveI:DecidablePred fun x=>BY f cs x/\x∉T:=fun _=>Classical.propDecidable _;have mS:∀ x,x∈ws.filter (fun x=>decide (BY f cs x/\x∉T))↔BY f cs x/\x∉T:=fun x=>by
    rw [List.mem_filter,rO];exact ⟨fun h=>h.2,fun h=>⟨hw x h.1,h⟩⟩
   by_cases d:∀ x∈ws.filter (fun x=>decide (BY f cs x/\x∉T)),∃ y,y∈f x/\y∈ws.filter (fun x=>decide (BY f cs x/\x∉T))
   ·obtain ⟨x,hx,rr⟩:=sink ((mS x0).mpr ⟨r0,n0⟩) d;exact absurd ⟨x,((mS x).mp hx).1,rr⟩ h
   ·obtain ⟨x,hx⟩:=Classical.not_forall.mp d;obtain ⟨vp,Y0⟩:=Classical.not_imp.mp hx;obtain ⟨rx,nx⟩:=(mS x).mp vp;refine ⟨T++[x],tT.snoc fun y hy=>?_,Ig nd nx,fun y hy=>?_,.inl (by rw [B2,GS];omega)⟩
    ·refine Classical.byContradiction fun ny=>Y0 ⟨y,hy,(mS y).mpr ⟨.step rx hy,ny⟩⟩
    ·rcases List.mem_append.mp hy with z | z
     ·exact sub y z
     ·rw [List.mem_singleton.mp z];exact rx
 obtain ⟨T,tT,nd,sub,hn⟩:=go (ws.length+1);refine ⟨T,tT,nd,sub,hn.elim (fun z=>?_) id⟩;have:=EY nd (bs:=ws) fun y hy=>hw y (sub y hy);omega
def ZAS {T L:List Str}(tT:Top f T)(hL:∀ x∈L,x∈T)(hM:∀ x∈L,∀ y∈f x,y∈M∨y∈L)(ne:L≠[]):∃ x∈L,∀ y∈f x,y∈M:=by
 have key:∀ (n i:Nat) (x:Str),i<n->T[i]?=some x->x∈L->∃ x∈L,∀ y∈f x,y∈M:=fun n=>by
  induction n with
  | zero=>intro i x h;omega
  | succ n ih=>
   intro i x hi e hx
   by_cases c:∀ y∈f x,y∈M
   ·exact ⟨x,hx,c⟩
   obtain ⟨y,hy⟩:=Classical.not_forall.mp c;obtain ⟨h1,h2⟩:=Classical.not_imp.mp hy;have yL:=(hM x hx y h1).resolve_left h2;obtain ⟨j,hj,ej⟩:=ES (tT i x e y h1);rw [DM] at hj;rw [LJ] at ej;exact ih j y (by omega) (by rw [AX (by omega),ej]) yL
 obtain ⟨x,hx⟩:=List.exists_mem_of_ne_nil L ne;obtain ⟨i,hi,e⟩:=ES (hL x hx);exact key (i+1) i x (by omega) (by rw [AX hi,e]) hx
noncomputable def EK (r:Str)(ps:List (Str×Str)):List (Str×Str):=if r="none" then [] else ps.filter fun p=>decide (r="all") || decide (p.1∈De)
def kr (ks:List Kd)(r x:Str):EK r (ED ks x)=C1 ks r x:=rfl
def mM (r:Str)(ps:List (Str×Str))(p:Str×Str):EK r (ps++[p])=EK r ps++(if r="none" then [] else if (decide (r="all") || decide (p.1∈De))=true then [p] else []):=by
 unfold EK
 by_cases c:r="none"
 ·rw [mZ c,mZ c,mZ c,Df]
 ·rw [k6 c,k6 c,k6 c,YQ]
  congr 1
  by_cases d:(decide (r="all") || decide (p.1∈De))=true
  ·rw [mZ d,ZCp,mZ d];rfl
  ·rw [k6 d,ZCp,k6 d];rfl
noncomputable def FO (ks:List Kd)(r x:Str)(qs:List (Str×Str)):List Int:=(List.range ks.length).map fun j=>(qs.map fun p=>(cnt ks r p.2).getD j 0).sum+(if (wk ks).idxOf x=j then 1 else 0)
def Vi (ks:List Kd)(r x:Str)(qs:List (Str×Str)):(FO ks r x qs).length=ks.length:=by unfold FO;simp
def gc (ks:List Kd)(r x:Str)(qs:List (Str×Str)){j:Nat}(h:j<(FO ks r x qs).length):(FO ks r x qs)[j]=(qs.map fun p=>(cnt ks r p.2).getD j 0).sum+(if (wk ks).idxOf x=j then 1 else 0):=by
 simp only [FO,Jp,YS]
def yW (g:KG ks)(r:Str)(hx:x∈wk ks):(ks.map fun k=>PV.int (if decide (k.w=x)=true then 1 else 0))=(FO ks r x []).map .int:=by
 rw [pj g r hx];rfl
def tW (ks:List Kd)(r x:Str)(qs:List (Str×Str))(p:Str×Str):(ET ((FO ks r x qs).map .int) ((cnt ks r p.2).map .int)).map YD=(FO ks r x (qs++[p])).map .int:=by
 have hl:=Pb ks r p.2;rw [gE]
 congr 1
 refine SH ?_ fun j h1 h2=>?_
 ·rw [ZCz,Vi,Vi,hl];omega
 ·rw [Vi] at h2;rw [List.getElem_zipWith,gc,gc,Be,List.sum_append];have e:(List.map (fun p:Str×Str=>(cnt ks r p.2).getD j 0) [p]).sum=(cnt ks r p.2)[j]'(by omega):=by
   rw [BL,Ht,List.sum_cons,List.sum_nil,Jo,AX (show j<(cnt ks r p.2).length by omega)];simp
  rw [e];exact Int.add_right_comm _ _ _
def ZBV (ks:List Kd)(r x:Str):FO ks r x (C1 ks r x)=HV ks r x (cnt ks r):=by
 unfold FO HV AU;refine SN fun j _=>?_;rw [CU];rfl
def zC (a:Int)(l:List Int)(b:Int):Fe ((a::l)++[b])=if b > Fe (a::l) then b else Fe (a::l):=by
 obtain ⟨h1,h2⟩:=Xj (a::l) (by simp);refine (ck ?_ fun y hy=>?_).symm
 ·split
  ·simp
  ·exact Mi _ h1
 ·rcases List.mem_append.mp hy with h | h
  ·have:=h2 y h;split <;> omega
  ·rw [List.mem_singleton.mp h];split <;> omega
noncomputable def HL (ks:List Kd)(r:Str)(qs:List (Str×Str)):Int:=Fe (1::qs.map (GF (Ct ks r)))
def ZA2 (ks:List Kd)(r:Str)(qs:List (Str×Str))(p:Str×Str):HL ks r (qs++[p])=if GF (Ct ks r) p > HL ks r qs then GF (Ct ks r) p else HL ks r qs:=by
 unfold HL;rw [Be];exact zC 1 _ _
def ZA9 (ks:List Kd)(r:Str):HL ks r []=1:=rfl
def zB (ks:List Kd)(r x:Str):HL ks r (C1 ks r x)=LV ks r x (Ct ks r):=rfl
def xj (h:r="all" ∨ (r="ahead" /\ p.1∈De))(st:EK r L0=EK r ps++(if r="none" then [] else if (decide (r="all") || decide (p.1∈De))=true then [p] else [])):EK r L0=EK r ps++[p]:=by
 rw [st];rcases h with rfl | ⟨rfl,h⟩
 ·rw [k6 (by decide),mZ (by rw [jy rfl,j7])]
 ·rw [k6 (by decide),jy h,Bool.or_true,mZ rfl]
def kN (hr:r∈CH)(h:¬ (r="all" ∨ (r="ahead" /\ p.1∈De)))(st:EK r L0=EK r ps++(if r="none" then [] else if (decide (r="all") || decide (p.1∈De))=true then [p] else [])):EK r L0=EK r ps:=by
 rw [st];simp only [CH,CL,Aa,pN] at hr;rcases hr with rfl | rfl | rfl
 ·rw [mZ rfl,Df]
 ·rw [k6 (by decide),nZ (show ¬ (("ahead":Str)="all") by decide),YK,k6 (fun z=>h (.inr ⟨rfl,k9 z⟩)),Df]
 ·exact absurd (.inl rfl) h
def xv (L:List Str)(x:Str):L.eraseIdx (L.idxOf x)=L.erase x:=by
 rw [List.erase_eq_eraseIdx_of_idxOf rfl]
noncomputable def Kl (W:List Str):PV:=.lst (W.map .str)
def WC (ks:List Kd)(Rs:List (List Str)):Prop:=∀ W∈Rs,∃ x,W[W.length - 1]?=some x/\x∈wk ks/\W.length<=Rs.length
def pW {α:Type}{xs:List α}{lo hi:Option Int}{x:α}(h:x∈Au xs lo hi):x∈xs:=ZD1 (YW h)
def O2 {q:Int}(h0:0<=q)(h1:q<xs.length):∃ v∈xs,L2.BA xs q=some v:=by
 obtain ⟨n,rfl⟩:=Jn h0;have hn:n<xs.length:=by omega
 exact ⟨xs[n],Fs hn,D4 (AX hn)⟩
def Ti {K:ZE6}(e:Ed):dat K 40 e.P:=by
 cases e with
 | ends T=>
  intro x hx;simp only [CL,Aa,pN] at hx;rcases hx with rfl | rfl
  ·trivial
  ·intro x hx;obtain ⟨y,_,rfl⟩:=List.mem_map.mp hx;intro z hz;simp only [CL,Aa,pN] at hz;rcases hz with rfl | rfl | rfl
   ·trivial
   ·intro w hw;obtain ⟨i,_,rfl⟩:=List.mem_map.mp hw;trivial
   ·trivial
 | less W U=>
  intro x hx;simp only [CL,Aa,pN] at hx;rcases hx with rfl | rfl | rfl
  ·trivial
  ·exact eG _
  ·exact eG _
def rQ (a b:List PV)(h:PV.lst a=.lst b):a=b:=by injection h
def qP (n:Nat):(List.replicate n [PV.int 1]).flatten=(List.replicate n (1:Int)).map .int:=by
 induction n with
 | zero=>rfl
 | succ n ih=>rw [Jq,Mh,ih,Jq,BL];rfl
end Fz
set_option maxHeartbeats 8000000
namespace Pf
open L2 Lw
variable {w:World}{mg:ZE8}{base h:Heap}{A7 Fh JP Ja f:Addr}{α:Type}{Ua Wf X3 XJ Y4:Tok}{n se wD wU:Nat}{l:PySem.W.OpenLaw}{jm wb wy:Option Addr}{ZBQ pY tO:Array (Option Value)}
abbrev St:=L2.St
noncomputable def top (i:Nat):Stmt:=PySem.Challenge.pw_stirround_k77_endings_judged.main.body.getD i (.Pass ⟨0,0,0,0⟩)
noncomputable abbrev VQ:Stmt:=top 41
noncomputable abbrev UE:Stmt:=top 42
noncomputable abbrev Uq:Stmt:=top 43
noncomputable abbrev UB:Stmt:=top 44
noncomputable abbrev Xo:Stmt:=top 45
noncomputable abbrev UJ:Stmt:=top 22
noncomputable abbrev Wk:Stmt:=top 21
noncomputable abbrev RV:Stmt:=top 10
noncomputable abbrev Q9:Stmt:=top 20
noncomputable abbrev VB:Stmt:=WX (top 19) 0
noncomputable abbrev RB:Stmt:=top 51
noncomputable abbrev Y2:Stmt:=top 40
noncomputable abbrev Pj:Stmt:=top 46
noncomputable abbrev Vn:Stmt:=top 47
noncomputable abbrev Nv:Stmt:=top 48
noncomputable abbrev Ud:Stmt:=top 49
noncomputable abbrev XX:Stmt:=top 50
noncomputable abbrev PK:Stmt:=top 54
noncomputable abbrev WT:Stmt:=top 55
noncomputable abbrev Wv:Stmt:=top 56
noncomputable abbrev W4:Stmt:=top 57
noncomputable abbrev LG:Stmt:=top 52
noncomputable abbrev Qy:Stmt:=top 53
noncomputable abbrev Qp:Stmt:=top 60
noncomputable abbrev VJ:Stmt:=top 13
noncomputable abbrev Wc:Stmt:=WX (top 19) 1
noncomputable abbrev Sr:Stmt:=top 23
noncomputable abbrev Vr:Stmt:=WX (top 19) 2
noncomputable abbrev Rc:Stmt:=top 27
noncomputable abbrev Ra:Stmt:=top 33
noncomputable abbrev NL:Stmt:=top 32
noncomputable abbrev Va:Stmt:=top 30
noncomputable abbrev Vt:Stmt:=top 31
noncomputable abbrev Qt:Stmt:=top 29
noncomputable abbrev Wb:Stmt:=top 28
noncomputable abbrev R7:Stmt:=top 37
noncomputable abbrev W0:Stmt:=top 38
noncomputable abbrev MU:Stmt:=top 36
noncomputable abbrev Y7:Stmt:=top 35
noncomputable abbrev R3:Stmt:=top 34
noncomputable abbrev TN:Stmt:=top 26
noncomputable abbrev Pm:Stmt:=top 58
noncomputable abbrev XN:Stmt:=top 59
noncomputable abbrev LF:Stmt:=top 61
variable {P:Program}{K:ZE6}{fd:FuncData}
def gT {us:List α}(h:us.length=1):∃ a,us=[a]:=by
 rcases us with _ | ⟨a,_ | ⟨b,us⟩⟩
 ·cases h
 ·exact ⟨a,rfl⟩
 ·cases h
def ln2 {us:List α}(h:us.length=2):∃ a b,us=[a,b]:=by
 rcases us with _ | ⟨a,us⟩
 ·cases h
 ·obtain ⟨b,rfl⟩:=gT (SR h);exact ⟨a,b,rfl⟩
def af {us:List α}(h:us.length=3):∃ a b c,us=[a,b,c]:=by
 rcases us with _ | ⟨a,us⟩
 ·cases h
 ·obtain ⟨b,c,rfl⟩:=ln2 (SR h);exact ⟨a,b,c,rfl⟩
def b7 {us:List α}(h:us.length=4):∃ a b c d,us=[a,b,c,d]:=by
 rcases us with _ | ⟨a,us⟩
 ·cases h
 ·obtain ⟨b,c,d,rfl⟩:=af (SR h);exact ⟨a,b,c,d,rfl⟩
def fA {us:List α}(h:us.length=5):∃ a b c d e,us=[a,b,c,d,e]:=by
 rcases us with _ | ⟨a,us⟩
 ·cases h
 ·obtain ⟨b,c,d,e,rfl⟩:=b7 (SR h);exact ⟨a,b,c,d,e,rfl⟩
def zh {us:List α}(h:us.length=6):∃ a b c d e f,us=[a,b,c,d,e,f]:=by
 rcases us with _ | ⟨a,us⟩
 ·cases h
 ·obtain ⟨b,c,d,e,f,rfl⟩:=fA (SR h);exact ⟨a,b,c,d,e,f,rfl⟩
local macro_rules | `(tactic| walk_at "bD1")=>`(tactic| (intro _ _ _ _ _ _ us hl;obtain ⟨_,e⟩:=gT hl;subst e;rfl))
local macro_rules | `(tactic| walk_at "bD2")=>`(tactic| (intro _ _ _ _ _ _ us hl;obtain ⟨_,_,e⟩:=ln2 hl;subst e;rfl))
local macro_rules | `(tactic| walk_at "bD3")=>`(tactic| (intro _ _ _ _ _ _ us hl;obtain ⟨_,_,_,e⟩:=af hl;subst e;rfl))
local macro_rules | `(tactic| walk_at "bD4")=>`(tactic| (intro _ _ _ _ _ _ us hl;obtain ⟨_,_,_,_,e⟩:=b7 hl;subst e;rfl))
local macro_rules | `(tactic| walk_at "bD5")=>`(tactic| (intro _ _ _ _ _ _ us hl;obtain ⟨_,_,_,_,_,e⟩:=fA hl;subst e;rfl))
local macro_rules | `(tactic| walk_at "bD6")=>`(tactic| (intro _ _ _ _ _ _ us hl;obtain ⟨_,_,_,_,_,_,e⟩:=zh hl;subst e;rfl))
abbrev nS (K:ZE6)(x:Str)(v:Value):Prop:=PySem.W.nsIn K mainGlobals x=some (some v)
abbrev nN (K:ZE6)(x:Str):Prop:=PySem.W.nsIn K mainGlobals x=some none
open Fz
def ZWM (t:String):Lean.MacroM (Lean.TSyntax `tactic):=do
 let g:Lean.TSyntax `tactic←`(tactic| fail)
 let k←`(tactic| case wk=>rfl)
 let n (s:String):=`(tactic| walk_at $(Lean.quote s):str)
 (t.splitOn " ").foldrM (fun s r=>do
  let l:=((s.drop 1).toString.splitOn "/").map fun x=>Lean.mkIdent (`Fz++x.toName)
  let h:Lean.Ident:=l.getLast!
  let c:=s.front
  let w:=(h.getId.getString!.toLower.replace "o" "e").replace "i" "e"
  let z←if c=='j' then `($h ?wj ?wk ?_) else if c=='k'||c=='K' then `($h ?wk ?_) else `($h ?_)
  let z←l.dropLast.foldrM (fun (f:Lean.Ident) (z:Lean.Term)=>`($f ($z))) z
  let p←if c=='e' then `(tactic| show ∃ _,_=$h _/\_) else if c=='s' then `(tactic| show $h _ _ _) else `(tactic| refine' $z)
  let p←if c=='K'||c=='R'||c=='j' then pure p else `(tactic| with_reducible $p:tactic)
  let q←if c=='e' then `(tactic| refine ⟨_,rfl,?_⟩) else if c=='s' then n w else if c=='n' then n "wn" else if c=='p' then n "wp" else if c=='k'||c=='K' then pure k else if c=='j' then `(tactic| ((case wj=>rfl);$k:tactic)) else `(tactic| skip)
  `(tactic| first | ($p:tactic;$q:tactic) | $r:tactic)) g
local macro_rules | `(tactic| walk_at "wp")=>ZWM "kA4 rAH rCg rGJ rHm rVd rGi rYn rC3 rTx rGb rgL rZBk rHU kzA rHZ rCQ rB3 rGL rNQ rC8 rOq rgR rRn rRN reZ kFX rTX rZCN KiL KW8 KoI KQH KNl"
local macro_rules | `(tactic| walk_at "wn")=>ZWM "rD3 rE8 rFL Rgj KMH"
local macro_rules | `(tactic| walk_at "wq")=>do
 let z←ZWM "kPo kJG kAo kBF"
 `(tactic| first | $z:tactic | (refine Am (AZ ?_);walk_at "wn") | (refine Am ?_;walk_at "wp"))
local macro_rules | `(tactic| walk_at "wz")=>`(tactic| first
 | ((with_reducible refine' iz ?wk ?_);(case wk=>rfl))
 | (refine Bo (AZ ?_);walk_at "wn")
 | (refine Bo ?_;walk_at "wp"))
local macro_rules | `(tactic| walk_at "wt")=>ZWM "rB1 rG6 rE7 rNV rQr rID"
local macro_rules | `(tactic| walk_at "we")=>ZWM "rAh rBK rDk rEJ riB rZA5 rCS"
local macro_rules | `(tactic| walk_at "w")=>do
 let z←ZWM "rAN rCy rBP rBC kUC kgg kak nFo pCT kZZ nIk pBH"
 let z1←ZWM "eOV.tp eOV.fz"
 let z2←ZWM "sWn sWq sWz sWt sWe sWo sWi"
 let z3←ZWM "ePV.int ePV.str ePV.bl"
 `(tactic| first | $z1:tactic | ((with_reducible show ∃ _ _,_=OV.nd NK.lst _ _/\_);refine ⟨_,_,rfl,?_⟩) | ((with_reducible show ∃ _ _ _,_=PV.int _/\_/\_/\_);refine ⟨_,_,_,rfl,rfl,rfl,?_⟩) | ((with_reducible show Wp _ _ _);first | walk_at "wp" | (refine AZ ?_;walk_at "wn")) | $z2:tactic | ((with_reducible show Ws _ _ _ _);$z:tactic) | $z3:tactic | ((with_reducible show (_:Bool)=_/\_);refine ⟨rfl,?_⟩) | ((with_reducible show ∃ _ _,_=PV.int _/\L2.BA _ _=some _/\_);refine ⟨_,_,rfl,rfl,?_⟩) | ((with_reducible show ∃ _,(_=PV.lst _/\_)∨(_=PV.tup _/\_));first | refine ⟨_,.inl ⟨rfl,?_⟩⟩ | refine ⟨_,.inr ⟨rfl,?_⟩⟩) | ((with_reducible show ∃ _,_=List.map _ _/\_);first | refine ⟨_,rfl,?_⟩ | refine ⟨[],rfl,?_⟩ | refine ⟨_,Ew _ _ _ _,?_⟩))
local macro_rules | `(tactic| walk_at "ww")=>`(tactic| repeat walk_at "w")
local macro_rules | `(tactic| walk_at "z1")=>`(tactic| exact ⟨rfl,rfl,rfl,by decide +kernel,rfl,by decide +kernel,by decide +kernel⟩)
local macro_rules | `(tactic| walk_at "z2")=>`(tactic| exact ⟨rfl,by decide +kernel,by decide +kernel,rfl,rfl,by decide +kernel,by decide +kernel,by decide +kernel,by decide +kernel⟩)
local macro_rules | `(tactic| walk_at "z3")=>`(tactic| exact ⟨rfl,by decide +kernel,by decide +kernel,by decide +kernel,rfl,by decide +kernel,by decide +kernel,by decide +kernel,by decide +kernel⟩)
def aO:BM ["pot","many","found"] ["pot","many"] (Ad VQ):=by walk_at "z1"
variable (NF:AD P w K mg base "_law_letters" 1 ["number"] (b4))(BS:AD P w K mg base "_law_take" 1 ["pot","many"] (Ii))(Ax:mg "len"=none)(Xg:AD P w K mg base "_law_name" 2 ["pot","names"] (ZP K))(DV:mg "range"=none)(Ww:AD P w K mg base "_law_names" 3 ["pot","many"] (XC))(FN:mg "max"=none)(EB:mg "tuple"=none)(IB:AD P w K mg base "check_word" 1 ["words","word"] (AM Nw))(Vp:mg "WHERES"=some (.ref Ja))(Tg:∀ H,Aq K H Ja [.str "next", .str "last", .str "back", .str "first"])(Ho:mg "all"=none)(T5:mg "LETTERS"=some (.str "abcdefghijklmnopqrstuvwxyz" XJ))(Xx:mg "MOST_LETTERS"=some (.int 8 Ua))(Sj:AD P w K mg base "check_puts" 2 ["words","puts"] (AM Uz))(VF:AD P w K mg base "is_name" 1 ["text"] (VA))(U3:mg "enumerate"=none)(YC:mg "MOST_KINDS"=some (.int 8 Wf))(U7:mg "MOST_PUTS"=some (.int 6 X3))(SY:AD P w K mg base "check_kinds" 3 ["kinds"] (AM Sa))(FA:Dy K A7)(Pd:FY K A7 "goes_by_word")(GX:FY K A7 "puts_by_word")(VH:TL P w K mg base A7 4 ["self","kinds"] (Dl (Vc A7)))(Cq:mg "list"=none)(XQ:mg "Errands"=some (.ref A7))(D9:AD P w K mg base "_law_comers" 1 ["kinds","word","rule"] (AM Io))(HW:AD P w K mg base "_law_reached" 2 ["kinds","some","rule"] (AM O0))(Qa:AD P w K mg base "_law_road" 2 ["kinds","some","goal","rule"] (AM Vv))(T9:mg "reversed"=none)(Qh:mg "int"=none)(MF:mg "zip"=none)(Vy:AD P w K mg base "_law_rows" 3 ["kinds","crowd","rule"] (AM VG))(UA:AD P w K mg base "_law_endless" 3 ["kinds","crowd","rule"] (AM WV))(Ll:AD P w K mg base "_law_rings" 3 ["kinds","crowd","rule"] (AM Qc))(S7:AD P w K mg base "_law_spoilt_chain" 2 ["pot","kinds","chain"] (AM YF))(Ui:AD P w K mg base "_law_spoilt_table" 2 ["pot","kinds","table"] (AM Ve))(Lo:AD P w K mg base "_law_table" 4 ["kinds","crowd","rule"] (AM Rq))(ML:mg "set"=none)(Sf:mg "sorted"=none)(Uo:mg "RULES"=some (.ref JP))(TM:∀ H,Aq K H JP [.str "none", .str "ahead", .str "all"])(FE:HY P w K mg base A7 "words" 1 ["self"] (AM (K3 A7)))(Uk:mg "MOST_IN_CROWD"=some (.int 12 Y4))(V8:HY P w K mg base A7 "puts" 2 ["self","word"] (AM (Wu A7)))(MR:mg "WHERES_AHEAD"=some (.ref Fh))(LU:∀ H,Aq K H Fh [.str "next", .str "last"])(FW:AD P w K mg base "comers_of" 3 ["book","word","rule"] (AM (KO A7)))(M6:AD P w K mg base "comes_of" 6 ["book","rule","one","other"] (AM (QF A7)))(Lq:AD P w K mg base "is_chain" 7 ["book","rule","chain"] (AM (Q4 A7)))(Sk:mg "sum"=none)(N2:AD P w K mg base "rounds_to" 1 ["put","known"] (AM Qo))(NT:AD P w K mg base "sums_of" 1 ["many","length"] (AM Qm))(XG:AD P w K mg base "known_rows" 14 ["book","crowd","rule"] (AM (YG A7)))(WW:AD P w K mg base "check_crowd" 2 ["book","crowd"] (AM (XU A7)))(Ss:AD P w K mg base "check_rule" 1 ["rule"] (AM UP))(UD:AD P w K mg base "is_ring" 8 ["book","rule","ring"] (AM (T8 A7)))(X6:AD P w K mg base "is_way" 8 ["book","crowd","rule","way","end"] (AM (Vm A7)))(Y9:AD P w K mg base "table_of" 15 ["book","crowd","rule"] (AM (Xm A7)))(Ux:AD P w K mg base "way_and_ring" 14 ["book","crowd","rule"] (AM (U0 A7)))(Qb:AD P w K mg base "_law_is_chain" 3 ["kinds","rule","chain"] (AM Sz))(V7:AD P w K mg base "_law_book" 6 ["kinds"] (AM (UM A7)))(V0:AD P w K mg base "_law_crowd" 2 ["pot","kinds"] (AM Tp))(Tv:AD P w K mg base "_law_due" 6 ["kinds","crowd","rule","ending_here"] (AM Vg))(TC:AD P w K mg base "_law_kinds" 4 ["pot"] (AM Wr))(Qd:AD P w K mg base "_law_pot" 1 ["script","k"] (QB K))(Uv:AD P w K mg base "_law_rule" 2 ["pot"] (AM UW))(UY:AD P w K mg base "_law_some_ending" 5 ["pot","kinds","crowd","rule"] (AM Wh))(Up:AD P w K mg base "ending_judged" 17 ["book","crowd","rule","ending"] (AM (WL A7)))(Xh:mg "bool"=none)(X2:mg "isinstance"=none)(Tn:mg "min"=none)
def zx (F:AR K "_law_take" "_law_take" VQ f fd)(m:mg "_law_take"=some (.ref f)):
  AD P w K mg base "_law_take" 1 ["pot","many"] (Ii):=by
 refine AD.mk F (F.binds (by walk_at "bD2")) m (F.BR (k:=0) aO (fun vs H Q E h=>?_) (fun Ae A outer s H vs Q E hr h=>?_))
 ·obtain ⟨p,m,rfl,⟨a,b,hp,a0,a1,b0,b1⟩,m0,m1,q⟩:=h;rfl
 obtain ⟨p,m,rfl,⟨a,b,hp,a0,a1,b0,b1⟩,m0,m1,q⟩:=h;refine ⟨_,(AE rfl (B4 (Al L3 (AO BZ (qv 0) A6) A6) (AE rfl (Af 2 aO.nd (Ab J1 (AO BZ (qv 0) A6) (qv 1)))
   (AE rfl (Rv (Ab XW (AO BZ (qv 0) A6) (qv 1)) (b6 (qv 0) A6 set_list))
   (AG rfl (Aj (qv 2))))) B6)
   (AE rfl (Rv (Ab J1 (Ab DB (Ab KA (AO BZ (qv 0) A6) A6) A6) A6) (b6 (qv 0) A6 set_list))
   (AG rfl (Aj (Ab J1 (Ab XW (Ab J1 (Ab KA (AO BZ (qv 0) A6) (AO BZ (qv 0) A6)) A6) A6) (qv 1)))))),?_⟩
 refine ⟨_,rfl,p,_,_,_,rfl,rfl,AY.of hp,rfl,_,_,rfl,rfl,_,rfl,?_⟩;refine BE (fun c=>?_) (fun c=>?_)
 ·have c':0<a:=k9 c;refine ⟨_,rfl,p,_,_,_,rfl,rfl,AY.of hp,rfl,_,rfl,_,_,rfl,rfl,m0,?_⟩;refine ⟨_,rfl,p,_,_,_,rfl,rfl,AY.of hp,rfl,_,rfl,_,_,rfl,rfl,⟨m0,Lb (by omega) (by omega)⟩,?_⟩;refine ⟨_,rfl,p,_,_,_,rfl,rfl,hp,rfl,?_⟩;refine ⟨_,rfl,?_⟩;refine q _ _ (Jm _ (by omega)) (LI _ m0) ⟨⟨a / m,b,B0,Int.ediv_nonneg a0 (by omega),YN (Int.ediv_le_self _ a0) a1,b0,b1⟩,GI.upd⟩
 ·refine ⟨_,rfl,p,_,_,_,rfl,rfl,AY.of hp,rfl,_,_,rfl,rfl,⟨Lb (by omega) (by omega),by decide +kernel⟩,_,_,rfl,rfl,_,_,rfl,rfl,(by show (0:Int)<2147483647;decide),?_⟩;refine ⟨_,rfl,p,_,_,_,rfl,rfl,hp,rfl,?_⟩;have gP:0<=(b * 69621+12345) % 2147483647:=Jm _ (by decide);have Yr:(b * 69621+12345) % 2147483647<2147483647:=LI _ (by decide);generalize hb:(b * 69621+12345) % 2147483647=b' at gP Yr;have Y3:(upd H p (.lst [.int a,.int ((b * 69621+12345) % 2147483647)])) p=some (.lst [.int a,.int b']):=by rw [B0,hb]
  refine ⟨_,rfl,p,_,_,_,rfl,rfl,AY.of Y3,rfl,_,rfl,p,_,_,_,rfl,rfl,AY.of Y3,rfl,_,_,rfl,rfl,⟨Lb (by omega) (by omega),Lb (by omega) (by omega)⟩,_,_,rfl,rfl,(by show (0:Int)<2147483629;decide),?_⟩;refine ⟨_,_,rfl,rfl,⟨(by show (0:Int)<64;decide),by decide +kernel⟩,_,rfl,_,_,rfl,rfl,m0,?_⟩;exact q _ _ (Jm _ (by omega)) (LI _ m0) ⟨⟨a,b',Y3,a0,a1,gP,Yr⟩,GI.upd⟩
def QY:BM ["number","word"] ["number"] (Ad UE):=by walk_at "z1"
def pE (F:AR K "_law_letters" "_law_letters" UE f fd)(m:mg "_law_letters"=some (.ref f)):
  AD P w K mg base "_law_letters" 1 ["number"] (b4):=by
 refine AD.mk F (F.binds (by walk_at "bD1")) m (F.BR (k:=0) QY (fun vs H Q E h=>?_) (fun Ae A outer s H vs Q E hr h=>?_))
 ·obtain ⟨r,rfl,r0,r1,q⟩:=h;rfl
 obtain ⟨r,rfl,r0,r1,q⟩:=h;refine ⟨_,(AE rfl (Af 1 QY.nd BJ)
   (AE rfl (C0 (NY Co (Iv (Al Bp (qv 1) BJ) (Iy (Al L3 (qv 0) A6))).pt (AE rfl (Af 1 QY.nd (Ab bg (qv 1) (AO ZBb BJ (Ab J1 (qv 0) A6))))
   (AG rfl (Af 0 QY.nd (Ab XW (qv 0) A6))))))
   (AG rfl (Aj (qv 1))))),?_⟩
 obtain ⟨n,rfl⟩:=Jn r0;have hn:n<26 ^ 8:=by omega
 rw [HF] at q;refine ⟨fun σ' H'=>∃ v,σ'=[some v,some (.str (D8 (MA.lets n)))]/\H=H',?_,?_⟩
 ·refine ⟨fun m σ' H'=>∃ (k:Nat) (pre:List Nat),σ'=[some (.int k),some (.str (D8 pre))]/\H=H'/\((pre=[]/\k=n/\m=n+2)∨(pre≠[]/\m=k+1/\(0<k->pre++MA.lets k=MA.lets n)/\(k=0->pre=MA.lets n))),⟨n+2,n,[],rfl,rfl,.inl ⟨rfl,rfl,rfl⟩⟩,?_⟩;rintro m σ' H' ⟨k,pre,rfl,rfl,hI⟩;refine ⟨_,rfl,rfl,_,rfl,?_⟩;refine BE (fun c=>pI ?_) (fun c=>⟨_,rfl,_,_,rfl,rfl,_,rfl,?_⟩)
  ·have hp:pre=[]:=ZF.mp (k9 c);obtain ⟨_,hk,hm⟩ | ⟨h,_⟩:=hI
   ·have he:pre++MA.lets k=MA.lets n:=by rw [hp,hk];rfl
    have hlen:pre.length+1<=8:=by
     have h1:=rW List.length he;rw [B2] at h1;have h2:=MA.Rm 7 n hn;have h3:=MA.XS k;omega
    refine ⟨fun σ' H'=>σ'=[some (.int ((k:Int) / 26)),some (.str (D8 pre++⟨#[97+((k:Int) % 26).toNat]⟩))]/\H=H',?_,?_⟩
    ·rintro σ' H' ⟨rfl,rfl⟩;have nx:=eh he;have e1:((k:Int) % 26).toNat=k % 26:=by omega
     have e2:(k:Int) / 26=((k / 26:Nat):Int):=by omega
     exact ⟨k / 26+1,by omega,k / 26,pre++[97+k % 26],by rw [e1,e2,gu],rfl,.inr ⟨by simp,rfl,nx.1,nx.2⟩⟩
    ·refine ⟨_,rfl,_,rfl,_,_,rfl,rfl,(by show (0:Int)<26;decide),_,_,_,rfl,rfl,(by decide +kernel),d4 (Jm _ (by decide)) (LI _ (by decide)),_,_,rfl,rfl,?_,?_⟩
     ·rw [R1];exact small (show pre.length+1<=_ by omega)
     ·exact ⟨_,rfl,_,_,rfl,rfl,⟨(by show (0:Int)<26;decide),by decide +kernel⟩,rfl,rfl⟩
   ·exact absurd hp h
  ·have hp:pre≠[]:=fun h=>c (jy (ZF.mpr h));obtain ⟨h,_⟩ | ⟨_,hm,h1,h2⟩:=hI
   ·exact absurd h hp
   refine BE (fun c2=>?_) (fun c2=>?_)
   ·have hk:0<k:=by have:(0:Int)<k:=k9 c2;omega
    have he:=h1 hk;have hlen:pre.length+1<=8:=by
     have h1:=rW List.length he;rw [B2] at h1;have h2:=MA.Rm 7 n hn;have h3:=MA.XS k;omega
    refine ⟨fun σ' H'=>σ'=[some (.int ((k:Int) / 26)),some (.str (D8 pre++⟨#[97+((k:Int) % 26).toNat]⟩))]/\H=H',?_,?_⟩
    ·rintro σ' H' ⟨rfl,rfl⟩;have nx:=eh he;have e1:((k:Int) % 26).toNat=k % 26:=by omega
     have e2:(k:Int) / 26=((k / 26:Nat):Int):=by omega
     exact ⟨k / 26+1,by omega,k / 26,pre++[97+k % 26],by rw [e1,e2,gu],rfl,.inr ⟨by simp,rfl,nx.1,nx.2⟩⟩
    ·refine ⟨_,rfl,_,rfl,_,_,rfl,rfl,(by show (0:Int)<26;decide),_,_,_,rfl,rfl,(by decide +kernel),d4 (Jm _ (by decide)) (LI _ (by decide)),_,_,rfl,rfl,?_,?_⟩
     ·rw [R1];exact small (show pre.length+1<=_ by omega)
     ·exact ⟨_,rfl,_,_,rfl,rfl,⟨(by show (0:Int)<26;decide),by decide +kernel⟩,rfl,rfl⟩
   ·have hk:k=0:=by
     have:¬ (0:Int)<k:=fun z=>c2 (jy z);omega
    exact ⟨_,by rw [h2 hk],rfl⟩
 ·rintro σ' H' ⟨v,rfl,rfl⟩;exact ⟨_,rfl,q⟩
def G1:BM ["pot","names","some","way","name","number"] ["pot","names"] (Ad Uq):=by walk_at "z1"
def oM (F:AR K "_law_name" "_law_name" Uq f fd)(m:mg "_law_name"=some (.ref f)):
  AD P w K mg base "_law_name" 2 ["pot","names"] (ZP K):=by
 refine AD.mk F (F.binds (by walk_at "bD2")) m (F.BR (k:=1) G1 (fun vs H Q E h=>?_) (fun Ae A outer s H vs Q E hr h=>?_))
 ·obtain ⟨p,q,ns,rfl,hp,hS,B5,hN,hL,K1⟩:=h;rfl
 obtain ⟨p,q,ns,rfl,hp,hS,B5,hN,hL,K1⟩:=h;refine ⟨_,(AE rfl (Af 2 G1.nd (Bl (A0 BJ (A0 BJ (A0 BJ (A0 BJ (A0 BJ (A0 BJ (A0 BJ (A0 BJ (A0 BJ (A0 BJ (A0 BJ (A0 BJ (A0 BJ A5)))))))))))))))
   (AE rfl (Af 3 G1.nd (AW BS hr (A0 (qv 0) (A0 A6 A5))))
   (AE rfl (Af 4 G1.nd (AO Ar (qv 2) (AW BS hr (A0 (qv 0) (A0 A6 A5)))))
   (AE rfl (C0 (B4 (Al Bp (qv 3) A6) (AG rfl (Af 4 G1.nd (AW NF hr (A0 (AW BS hr (A0 (qv 0) (A0 (Ab Lf (Ab J7 A6 A6) A6) A5))) A5)))) B6))
   (AE rfl (C0 (B4 (Rx (Al Bp (qv 3) A6) (Ql (Al (MO hr.KP) (qv 1) (C2 A5)))).pt (AE rfl (Af 4 G1.nd (AO BZ (qv 1) (AW BS hr (A0 (qv 0) (A0 (Bm QR Ax (A0 (qv 1) A5)) A5)))))
   (AG rfl (Af 4 G1.nd (CK gY (Ab bg (qv 4) (AW NF hr (A0 (AW BS hr (A0 (qv 0) (A0 A6 A5))) A5))) C6 (CP A6))))) B6))
   (AE rfl (C0 (B4 (Rx (Al Bp (qv 3) A6) (Ql (Al (MO hr.KP) (qv 1) (C2 A5)))).pt (AE rfl (Af 4 G1.nd (AO BZ (qv 1) (AW BS hr (A0 (qv 0) (A0 (Bm QR Ax (A0 (qv 1) A5)) A5)))))
   (AG rfl (Af 4 G1.nd (CK gY (qv 4) C6 (CP (Ab DB A6 (AW BS hr (A0 (qv 0) (A0 (Bm iR Ax (A0 (qv 4) A5)) A5))))))))) B6))
   (AE rfl (Af 5 G1.nd A6)
   (AE rfl (C0 (NY Co (Al En (qv 4) (qv 1)) (AE rfl (Af 4 G1.nd (AW NF hr (A0 (qv 5) A5)))
   (AG rfl (Af 5 G1.nd (Ab DB (qv 5) A6))))))
   (AG rfl (Aj (qv 4))))))))))),?_⟩
 have hl:(ns.map V.str).length=ns.length:=AA _;refine ⟨(by show 13<=sizeLine;decide +kernel),fun sm Le=>?_⟩;have Ge:sm≠p:=by
  obtain ⟨_,_,e,_⟩:=hp;exact (Dj e Le).symm
 have g0:CZ p H (upd H sm (.tup QX)):=CZ.of hp (DT Le _);refine ⟨_,rfl,p,4,rfl,g0.AS,by decide,by decide,fun way H1 w0 w1 s1=>?_⟩;refine ⟨_,rfl,_,rfl,p,13,rfl,s1.AS,by decide,by decide,fun i H2 i0 i1 s2=>?_⟩;have h2:H2 sm=some (.tup QX):=s2.at' (s1.at' B0 Ge) Ge;obtain ⟨x,hx,nx⟩:=vn i0 i1;refine ⟨sm,_,_,_,rfl,rfl,Aq.of h2,hx,?_⟩;have g2:=g0.trans (s1.trans s2);refine ⟨fun σ' H'=>∃ x,σ'=[some (.ref p),some (.ref q),some (.ref sm),some (.int way),some (.str x),none]/\Nm x/\CZ p H H',?_,?_⟩
 ·refine ⟨_,rfl,rfl,_,rfl,?_⟩;refine BE (fun c=>?_) (fun c=>?_)
  ·refine ⟨_,rfl,_,_,rfl,rfl,⟨by decide,by decide,by decide +kernel⟩,_,_,rfl,rfl,p,_,rfl,g2.AS,tS,mr,fun r H3 r0 r1 s3=>?_⟩;have r2:r<26 ^ 8:=Int.lt_trans r1 lS;exact ⟨r,rfl,r0,r2,_,rfl,Tz (iS r0 r2),g2.trans s3⟩
  ·exact ⟨x,rfl,nx,g2⟩
 clear h2 hx nx s2 g2 i0 i1;rintro σ' H3 ⟨y,rfl,ny,g3⟩;refine ⟨fun σ' H'=>∃ x,σ'=[some (.ref p),some (.ref q),some (.ref sm),some (.int way),some (.str x),none]/\Nm x/\CZ p H H',?_,?_⟩
 ·refine ⟨_,rfl,rfl,_,rfl,?_⟩;refine BE (fun c=>?_) (fun c=>Tf ⟨y,rfl,ny,g3⟩);refine ⟨_,rfl,(by show 0<=sizeLine;decide),fun e he=>?_⟩;have g4:=g3.trans (CZ.of g3.AS (DT he (.lst [])));have Oh:=g4.O3 hS B5;refine ⟨q,e,_,[],rfl,rfl,.inl ⟨Oh,AY.of B0⟩,KJ ns,rfl,_,rfl,?_⟩;rw [fG];refine BE (fun c2=>?_) (fun c2=>⟨y,rfl,ny,g4⟩);have NU:0<ns.length:=by
   cases ns with
   | nil=>simp at c2
   | cons a r=>simp
  refine ⟨_,rfl,_,rfl,_,rfl,q,_,rfl,.inl Oh,p,_,rfl,g4.AS,(by rw [hl];omega),(by rw [hl];omega),fun i H5 i0 i1 s5=>?_⟩;rw [hl] at i1;have g5:=g4.trans s5;obtain ⟨z,hz,UG,_⟩:=fu i0 i1;have nz:=hN z UG;refine ⟨q,_,_,_,rfl,rfl,g5.O3 hS B5,hz,?_⟩;refine ⟨_,rfl,_,rfl,p,26,rfl,g5.AS,by decide,by decide,fun r H6 r0 r1 s6=>?_⟩;have g6:=g5.trans s6;have r2:r<26 ^ 8:=Int.lt_trans r1 jo;refine ⟨r,rfl,r0,r2,?_⟩;have nl:=Tz (n:=r.toNat) (iS r0 r2);have hlen:z.length+(D8 (MA.lets r.toNat)).length<=16:=by have:=nz.2.1;have:=nl.2.1;omega
  refine ⟨_,_,rfl,rfl,small (by omega),?_⟩;refine ⟨_,rfl,_,rfl,small (by rw [aI];omega),?_⟩;refine ⟨_,rfl,cX (by decide) (by decide) (by rw [aI];have:=nz.1;omega) (fun c hc=>?_),g6⟩;rw [dC] at hc;rcases List.mem_append.mp hc with hc | hc
  ·exact nz.2.2 c hc
  ·exact nl.2.2 c hc
 clear ny g3;rintro σ' H3 ⟨y,rfl,ny,g3⟩;refine ⟨fun σ' H'=>∃ x,σ'=[some (.ref p),some (.ref q),some (.ref sm),some (.int way),some (.str x),none]/\Nm x/\CZ p H H',?_,?_⟩
 ·refine ⟨_,rfl,rfl,_,rfl,?_⟩;refine BE (fun c=>?_) (fun c=>Tf ⟨y,rfl,ny,g3⟩);refine ⟨_,rfl,(by show 0<=sizeLine;decide),fun e he=>?_⟩;have g4:=g3.trans (CZ.of g3.AS (DT he (.lst [])));have Oh:=g4.O3 hS B5;refine ⟨q,e,_,[],rfl,rfl,.inl ⟨Oh,AY.of B0⟩,KJ ns,rfl,_,rfl,?_⟩;rw [fG];refine BE (fun c2=>?_) (fun c2=>⟨y,rfl,ny,g4⟩);have NU:0<ns.length:=by
   cases ns with
   | nil=>simp at c2
   | cons a r=>simp
  refine ⟨_,rfl,_,rfl,_,rfl,q,_,rfl,.inl Oh,p,_,rfl,g4.AS,(by rw [hl];omega),(by rw [hl];omega),fun i H5 i0 i1 s5=>?_⟩;rw [hl] at i1;have g5:=g4.trans s5;obtain ⟨z,hz,UG,_⟩:=fu i0 i1;have nz:=hN z UG;refine ⟨q,_,_,_,rfl,rfl,g5.O3 hS B5,hz,?_⟩;have nz1:=nz.1;have nz2:=nz.2.1;refine ⟨_,rfl,_,rfl,_,rfl,_,rfl,small (by omega),p,_,rfl,g5.AS,(by omega),(by omega),fun r H6 r0 r1 s6=>?_⟩;refine ⟨_,_,rfl,rfl,_,rfl,_,rfl,small (by omega),?_⟩;exact ⟨_,rfl,cX (by omega) (by omega) nz1 nz.2.2,g5.trans s6⟩
 clear ny g3;rintro σ' H3 ⟨y,rfl,ny,g3⟩;refine ⟨fun σ' H'=>∃ x v,σ'=[some (.ref p),some (.ref q),some (.ref sm),some (.int way),some (.str x),some v]/\Nm x/\x∉ns/\H3=H',?_,?_⟩
 ·refine ⟨fun m σ' H'=>∃ (k:Nat) (x:Str),σ'=[some (.ref p),some (.ref q),some (.ref sm),some (.int way),some (.str x),some (.int k)]/\H3=H'/\Nm x/\m=ns.length+1 - k/\k<=ns.length+1/\(0<k->x=D8 (MA.lets (k - 1)))/\(∀ j,j+1<k->D8 (MA.lets j)∈ns),
   ⟨ns.length+1,0,y,rfl,rfl,ny,rfl,CM _,fun h=>absurd h (by decide),fun j h=>absurd h (by omega)⟩,?_⟩
  rintro m σ' H' ⟨k,x,rfl,rfl,nx,rfl,hk,hx,hj⟩;refine ⟨_,rfl,_,rfl,q,_,rfl,.inl (g3.O3 hS B5),rfl,KJ ns,_,rfl,?_⟩;rw [k6 (by decide),Xd];refine BE (fun c=>?_) (fun c=>⟨x,_,rfl,nx,fun z=>c (jy z),rfl⟩);have Sq:x∈ns:=k9 c;have JV:∀ j,j<k->D8 (MA.lets j)∈ns:=fun j WJ=>by
   by_cases e:j+1<k
   ·exact hj j e
   ·have e2:j=k - 1:=by omega
    rw [e2,<- hx (by omega)];exact Sq
  have PX:=qz JV;refine ⟨fun σ' H'=>σ'=[some (.ref p),some (.ref q),some (.ref sm),some (.int way),some (.str (D8 (MA.lets k))),some (.int ((k:Int)+1))]/\H3=H',?_,?_⟩
  ·rintro σ' H' ⟨rfl,rfl⟩;exact ⟨ns.length+1 - (k+1),by omega,k+1,D8 (MA.lets k),rfl,rfl,Tz (Yd (D1 PX hL) jj),rfl,by omega,fun _=>rfl,fun j WJ=>JV j (by omega)⟩
  ·refine ⟨_,rfl,k,rfl,by omega,?_,?_⟩
   ·have:(k:Int)<=1000:=by omega
    exact YN this ZBc
   ·rw [HF];exact ⟨_,rfl,_,_,rfl,rfl,rfl,rfl⟩
 rintro σ' H' ⟨x,v,rfl,nx,hx,rfl⟩;exact ⟨_,rfl,K1 x H3 nx hx g3⟩
def TQ:BM ["pot","many","names","k"] ["pot","many"] (Ad UB):=by walk_at "z1"
def kA (F:AR K "_law_names" "_law_names" UB f fd)(m:mg "_law_names"=some (.ref f)):
  AD P w K mg base "_law_names" 3 ["pot","many"] (XC):=by
 refine AD.mk F (F.binds (by walk_at "bD2")) m (F.BR (k:=2) TQ (fun vs H Q E h=>?_) (fun Ae A outer s H vs Q E hr h=>?_))
 ·obtain ⟨p,m,rfl,hp,m0,m1,q⟩:=h;rfl
 obtain ⟨p,m,rfl,hp,m0,m1,q⟩:=h;refine ⟨_,(AE rfl (Af 2 TQ.nd (C2 A5))
   (AE rfl (C0 (DC Co rfl (Kh rfl DV (A0 (qv 1) A5)) (C9 3 TQ.nd) (AG rfl (Dz (HK HI SV SW Nd (qv 2) (A0 (AW Xg hr (A0 (qv 0) (A0 (qv 2) A5))) A5))))))
   (AG rfl (Aj (qv 2))))),?_⟩
 refine ⟨(by show 0<=sizeLine;decide),fun l hl=>?_⟩;have B5:=hp.ne hl;refine ⟨fun σ' H'=>∃ (ns:List Str) (v:Option V),σ'=[some (.ref p),some (.int m),some (.ref l),v]/\CZ p H H'/\H' l=some (.lst (ns.map V.str))/\(ns.length:Int)=m/\(∀ x∈ns,Nm x)/\ns.Nodup,?_,?_⟩
 ·refine ⟨_,rfl,m,rfl,by omega,by omega,ZBa (n:=m.toNat) (fun i σ' H'=>∃ (ns:List Str) (v:Option V),σ'=[some (.ref p),some (.int m),some (.ref l),v]/\CZ p H H'/\H' l=some (.lst (ns.map V.str))/\ns.length=i/\(∀ x∈ns,Nm x)/\ns.Nodup) ?_ ?_ ?_⟩
  ·exact ⟨[],none,rfl,(CZ.of hp (AV.refl H)).upd hl B5,B0,rfl,fun x hx=>absurd hx (by simp),by simp⟩
  ·rintro i σ' H' hi ⟨ns,v,rfl,g,e,hlen,hN,nd⟩;refine ⟨_,rfl,.inl ⟨rfl,_,AY.of e⟩,_,rfl,_,rfl,p,l,ns,rfl,g.AS,AY.of e,B5,hN,by omega,fun x H2 nx hx s2=>?_⟩;refine ⟨l,_,_,rfl,rfl,s2.at' e B5,Yd (m:=100) (by rw [AA];omega) (by decide +kernel),?_⟩;refine ⟨ns++[x],_,rfl,(g.trans s2).upd hl B5,by rw [B0,Be];rfl,by rw [B2];simp [hlen],fun y hy=>?_,Ig nd hx⟩;rcases List.mem_append.mp hy with h | h
   ·exact hN y h
   ·have:y=x:=by simpa using h
    rw [this];exact nx
  ·rintro σ' H' ⟨ns,v,rfl,g,e,hlen,hN,nd⟩;exact ⟨ns,v,rfl,g,e,by omega,hN,nd⟩
 rintro σ' H' ⟨ns,v,rfl,g,e,hlen,hN,nd⟩;exact ⟨_,rfl,q l H' ns hl g e hlen hN nd⟩
def Gj:BM ["pot","many","words","shape","kinds","k","puts","j","where","kind"] ["pot"] (Ad Xo):=by walk_at "z1"
def ZT : ∀ ss R,Wr ss R->ss.length=1:=by rintro _ _ ⟨rfl,rfl⟩;rfl
def rH (F:AR K "_law_kinds" "_law_kinds" Xo f fd)(m:mg "_law_kinds"=some (.ref f)):
  AD P w K mg base "_law_kinds" 4 ["pot"] (AM Wr):=by
 refine AD.mk F (F.binds (by walk_at "bD1")) m (F.BR (k:=3) Gj (fun vs H Q E h=>Fz.Br ZT h) (fun Ae A outer s H vs Q E hr h=>?_))
 refine ⟨_,(AE rfl (Af 1 Gj.nd (Ab DB A6 (AW BS hr (A0 (qv 0) (A0 A6 A5)))))
   (AE rfl (Af 2 Gj.nd (AW Ww hr (A0 (qv 0) (A0 (qv 1) A5))))
   (AE rfl (Af 3 Gj.nd (AW BS hr (A0 (qv 0) (A0 A6 A5))))
   (AE rfl (Af 4 Gj.nd (C2 A5))
   (AE rfl (C0 (DC Co rfl (Kh rfl DV (A0 (qv 1) A5)) (C9 5 Gj.nd) (AE rfl (Af 6 Gj.nd (C2 A5))
   (AE rfl (C0 (DC Co rfl (Kh rfl DV (A0 (AO Ar (Bl (A0 A6 (A0 A6 (A0 A6 (A0 A6 (A0 A6 (A0 A6 (A0 A6 A5)))))))) (AW BS hr (A0 (qv 0) (A0 A6 A5)))) A5)) (C9 7 Gj.nd) (AE rfl (Af 8 Gj.nd (AO Ar (Bl (A0 BJ (A0 BJ (A0 BJ (A0 BJ A5))))) (AW BS hr (A0 (qv 0) (A0 A6 A5)))))
   (AE rfl (Af 9 Gj.nd (AW BS hr (A0 (qv 0) (A0 (qv 1) A5))))
   (AE rfl (C0 (B4 (Al RX (qv 3) A6) (AG rfl (Af 9 Gj.nd (Ab DB (Ab DB (qv 5) A6) (Ab J1 (qv 9) (Bm (Uj rfl) FN (A0 A6 (A0 (Ab Lf (Ab Lf (qv 1) A6) (qv 5)) A5))))))) B6))
   (AG rfl (B4 (Al RX (qv 9) (qv 1)) (AG rfl (Dz (HK HI SV SW Nd (qv 6) (A0 (Bl (A0 (qv 8) (A0 (AO BZ (qv 2) (qv 9)) A5))) A5)))) B6)))))))
   (AG rfl (Dz (HK HI ZDC PySem.F.type_list_insert oV (qv 4) (A0 (AW BS hr (A0 (qv 0) (A0 (Ab DB (qv 5) A6) A5))) (A0 (Bl (A0 (AO BZ (qv 2) (qv 5)) (A0 (Ea Of EB (A0 (qv 6) A5)) (A0 (EG Bp (AW BS hr (A0 (qv 0) (A0 A6 A5))) A6) A5)))) A5)))))))))
   (AG rfl (Aj (qv 4)))))))),?_⟩
 refine Fz.Bn h ZT ?_;rintro _ _ ⟨rfl,rfl⟩;show Ws [_,.any,.any,.any,.any,.any,.any,.any,.any,.any] _ _ _
 walk_at "ww"
 refine ⟨by decide,by decide,fun r a1 b1=>⟨_,rfl,?_⟩⟩;obtain ⟨m0,rfl⟩:=Jn a1;refine AN (Fo (ke rfl (A4 rfl ⟨_,rfl,by omega,by omega,fun ws hl hN nd=>?_⟩)));refine Jk 2 rfl ?_
 walk_at "ww"
 refine ⟨by decide,by decide,fun sh s0 s1=>?_⟩
 walk_at "ww"
 refine ⟨by decide,?_⟩;refine AN (Cy (Dh (fun _ i A9=>∃ (ks:List Kd) (s5 s6 s7 s8 s9:Slot),A9=[.AS,.is (.int (1+(m0:Int))),.is (.lst (ws.map .str)),.is (.int sh),.own (ks.map Kd.P),s5,s6,s7,s8,s9]/\(wk ks).Perm (ws.take i)/\∀ k∈ks,k.ps.length<=6/\∀ p∈k.ps,p.1∈WH/\p.2∈ws) ?_))
 walk_at "ww"
 rw [Hk];refine ⟨by omega,by omega,⟨[],_,_,_,_,_,rfl,.refl _,fun k hk=>absurd hk Aa⟩,?_,?_⟩
 ·rintro k p A9 hp ⟨ks,s5,s6,s7,s8,s9,rfl,lk,ok⟩;obtain ⟨hk,rfl⟩:=Xk hp;have p9:=lk.length_eq;rw [AA,DM] at p9;refine EI ?_
  walk_at "ww"
  refine ⟨by decide,?_⟩;refine AN (Cy (Dh (fun _ j A9=>∃ (qs:List (Str×Str)) (s7 s8 s9:Slot),A9=[.AS,.is (.int (1+(m0:Int))),.is (.lst (ws.map .str)),.is (.int sh),.own (ks.map Kd.P),.is (.int k),.own (qs.map BN),s7,s8,s9]/\qs.length<=j/\∀ q∈qs,q.1∈WH/\q.2∈ws) ?_))
  walk_at "ww"
  refine ⟨by decide,_,.inr ⟨rfl,rfl,?_⟩⟩
  walk_at "ww"
  refine ⟨by decide,by decide,fun t t0 t1=>?_⟩;obtain ⟨m,hm,lm⟩:=vw t0 t1;refine ⟨_,_,rfl,hm,_,rfl,by omega,by omega,?_⟩;rw [Hk,HF];refine ⟨⟨[],_,_,_,rfl,Ai _,fun q hq=>absurd hq Aa⟩,?_,?_⟩
  ·rintro j p A9 hp ⟨qs,s7,s8,s9,rfl,lq,oq⟩;obtain ⟨hj,rfl⟩:=Xk hp;refine EI ?_
   walk_at "ww"
   refine ⟨by decide,_,.inr ⟨rfl,rfl,?_⟩⟩
   walk_at "ww"
   refine ⟨by decide,by decide,fun t2 a2 b2=>?_⟩;obtain ⟨wh,jb,hwh⟩:=ZBl a2 b2;refine ⟨_,_,rfl,hwh,?_⟩
   walk_at "ww"
   refine ⟨by omega,aj (by omega),fun kd a3 b3=>?_⟩;refine Oc (fun A9=>∃ kd:Int,A9=[.AS,.is (.int (1+(m0:Int))),.is (.lst (ws.map .str)),.is (.int sh),.own (ks.map Kd.P),.is (.int k),.own (qs.map BN),.is (.int j),.is (.str wh),.is (.int kd)]/\0<=kd) ?_ ?_
   ·walk_at "ww"
    refine BE (fun c=>?_) (fun c=>BC ⟨kd,rfl,a3⟩)
    walk_at "ww"
    have Yz:0<(if 1+(m0:Int) - 1 - k > 1 then 1+(m0:Int) - 1 - k else 1):=by split <;> omega
    have ZDl:=Jm kd (Int.ne_of_gt Yz);exact ⟨Yz,_,rfl,_,rfl,by omega⟩
   rintro _ ⟨kd,rfl,k0⟩
   walk_at "ww"
   refine BE (fun c=>?_) (fun c=>BC ⟨qs,_,_,_,rfl,by omega,oq⟩);have c':=k9 c;obtain ⟨kn,rfl⟩:=Jn k0;have PX:kn<ws.length:=by omega
   have aK:L2.BA (ws.map PV.str) (kn:Int)=some (.str ws[kn]):=MP (by omega) (by rw [HF,Ac,AX PX];rfl);refine UC rfl (C8 ?_)
   walk_at "ww"
   refine ⟨_,_,rfl,aK,?_⟩
   walk_at "ww"
   refine ⟨by show 2<=100000;decide,by rw [AA];omega,qs++[(wh,ws[kn])],.is (.int j),.is (.str wh),.is (.int kn),?_,?_,?_⟩
   ·rw [Be];rfl
   ·rw [B2,GS];omega
   ·intro q hq;rcases List.mem_append.mp hq with z | z
    ·exact oq q z
    ·rw [List.mem_singleton.mp z];exact ⟨jb,Fs PX⟩
  ·rintro A9 ⟨qs,s7,s8,s9,rfl,lq,oq⟩;have ZA:k<ws.length:=by omega
   have aK:L2.BA (ws.map PV.str) (k:Int)=some (.str ws[k]):=MP (by omega) (by rw [HF,Ac,AX ZA];rfl);refine gg rfl ?_
   walk_at "ww"
   refine ⟨by omega,aj (by omega),fun t9 a9 b9=>⟨_,rfl,a9,by rw [AA];omega,?_⟩⟩;refine C8 ?_
   walk_at "ww"
   refine ⟨_,_,rfl,aK,?_⟩
   walk_at "ww"
   refine ⟨by decide,by decide,fun r2 a2 b2=>?_⟩
   walk_at "ww"
   refine ⟨by show 3<=100000;decide,by rw [AA];omega,ks.take t9.toNat++⟨ws[k],qs,alike (.int r2) (.int 1)⟩ :: ks.drop t9.toNat,.is (.int k),.own (qs.map BN),s7,s8,s9,?_,?_,?_⟩
   ·rw [<- YV,<- jJ,Be];rfl
   ·rw [P2 ZA];show (List.map Kd.w (_++_::_)).Perm _;rw [Be,BL,YV,jJ];refine (List.perm_middle.trans (List.Perm.cons _ ?_)).trans (List.perm_append_comm (l₁:=[ws[k]]));rw [List.take_append_drop];exact lk
   ·intro kk hkk;rcases List.mem_append.mp hkk with z | z
    ·exact ok kk (YW z)
    ·rcases List.mem_cons.mp z with z | z
     ·rw [z];exact ⟨by show qs.length<=6;omega,oq⟩
     ·exact ok kk (ZD1 z)
 ·rintro A9 ⟨ks,s5,s6,s7,s8,s9,rfl,lk,ok⟩;refine Jk 4 rfl ?_;have Q6:(wk ks).Perm ws:=by
   have e:ws.take (1+(m0:Int)).toNat=ws:=P1 (by omega);rw [e] at lk;exact lk
  have ll:=Q6.length_eq;rw [AA] at ll;refine BH (A4 rfl ⟨ks,rfl,by omega,by omega,Q6.nodup_iff.mpr nd,fun k hk=>hN _ (Q6.mem_iff.mp (List.mem_map.mpr ⟨k,hk,rfl⟩)),fun k hk=>⟨(ok k hk).1,fun p hp=>⟨((ok k hk).2 p hp).1,Q6.mem_iff.mpr ((ok k hk).2 p hp).2⟩⟩⟩)
def ZA3:BM ["words","word"] ["words","word"] (Ad UJ):=by walk_at "z1"
def ah : ∀ ss R,Nw ss R->ss.length=2:=by rintro _ _ ⟨ws,d,x,rfl,_,_,_,rfl⟩;rfl
def si (F:AR K "check_word" "check_word" UJ f fd)(m:mg "check_word"=some (.ref f)):
  AD P w K mg base "check_word" 1 ["words","word"] (AM Nw):=by
 refine AD.mk F (F.binds (by walk_at "bD2")) m (F.BR (k:=0) ZA3 (fun vs H Q E h=>Fz.Br ah h) (fun Ae A outer s H vs Q E hr h=>?_))
 refine ⟨_,(AG rfl (B4 (wj (xD (Dg hr) (qv 1) (qv 0)) (fJ KU (qv 1) (qv 0) (by with_unfolding_all rfl))) (AG rfl JO) B6)),?_⟩;refine Fz.Bn h ah ?_;rintro _ _ ⟨ws,d,x,rfl,hd,hz,hx,rfl⟩;show Ws [_,_] _ _ _;refine BP ?_;rcases hd with rfl | ⟨xs,rfl⟩
 ·refine kE (B1 (NQ (A4 rfl ⟨x,rfl,Ao rfl ⟨_,rfl,?_⟩⟩)));refine ⟨_,rfl,Bg ?_ (BC ⟨_,rfl,rfl⟩)⟩;rw [jy hx];decide
 ·refine yf (G6 (wc (A4 rfl (A4 rfl ⟨_,_,.inr x,rfl,rfl,_,rfl,?_⟩))));rw [Kn,jy hx];exact Bg (by decide) (BC ⟨_,rfl,rfl⟩)
def Z1:BM ["words","puts","put"] ["words","puts"] (Ad Wk):=by walk_at "z1"
def gm : ∀ ss R,Uz ss R->ss.length=2:=by rintro _ _ ⟨ws,ps,rfl,_,_,rfl⟩;rfl
def ZBF (F:AR K "check_puts" "check_puts" Wk f fd)(m:mg "check_puts"=some (.ref f)):
  AD P w K mg base "check_puts" 2 ["words","puts"] (AM Uz):=by
 refine AD.mk F (F.binds (by walk_at "bD2")) m (F.BR (k:=1) Z1 (fun vs H Q E h=>Fz.Br gm h) (fun Ae A outer s H vs Q E hr h=>?_))
 refine ⟨_,(AG rfl (DC Co rfl (Bv (qv 1)) (C9 2 Z1.nd) (AE rfl (B4 (Al KU (AO Ar (qv 2) A6) (Hx (v:=.ref Ja) (by rfl) Vp rfl)) (AG rfl JO) B6)
   (AG rfl (Dz (AW IB hr (A0 (qv 0) (A0 (AO Ar (qv 2) A6) A5)))))))),?_⟩
 refine Fz.Bn h gm ?_;rintro _ _ ⟨ws,ps,rfl,hz,hp,rfl⟩;show Ws [_,_,.any] _ _ _;have C:Fx K Ja (WH.map .str):=Fx.of Tg rfl rfl;refine Dh (fun _ i A9=>∃ s2:Slot,A9=[.is (.lst (ws.map .str)),.is (.lst (ps.map BN)),s2]) ?_
 walk_at "ww"
 refine ⟨⟨_,rfl⟩,?_,?_⟩
 ·rintro k p A9 hq ⟨s2,rfl⟩;rw [Ac] at hq;obtain ⟨q,ex,rfl⟩:=Option.map_eq_some_iff.mp hq;refine EI ?_;have sq:=hp q (C7 ex);refine AN (BP (B1 (PN (neg:=true) C (B3 (BF rfl ⟨rfl,AH ⟨_,_,rfl,rfl,q.1,rfl,_,rfl,?_⟩⟩)))));rw [jy sq.1];refine Bg (by decide) (BC ?_);refine Km (wp_call (AF (A4 rfl (AF (B3 (BF rfl ⟨rfl,AH ⟨_,_,rfl,rfl,Aw ⟨_,⟨ws,_,q.2,rfl,.inl rfl,hz,sq.2,rfl⟩,?_⟩⟩⟩))))));rintro _ rfl;exact ⟨_,rfl⟩
 ·rintro A9 ⟨s2,rfl⟩;exact ⟨_,rfl,rfl⟩
def ZAF:BM ["text"] ["text"] (Ad RV):=by walk_at "z1"
noncomputable def ka:Scope:={ kind:=.function,names:=[(".0", .local),("sign", .local),("LETTERS", .globalImplicit)],isGenerator:=false,isCoroutine:=false,more:=[] }
def uN:Cc ["text"] (Ad RV) ka "sign" [] []:=by walk_at "z2"
def tw (F:AR K "is_name" "is_name" RV f fd)(m:mg "is_name"=some (.ref f)):
  AD P w K mg base "is_name" 1 ["text"] (VA):=by
 refine AD.mk F (F.binds (by walk_at "bD1")) m (F.BR (k:=0) ZAF (fun vs H Q E h=>?_) (fun Ae A outer s H vs Q E hr h=>?_))
 ·obtain ⟨x,rfl,hx,q⟩:=h;rfl
 obtain ⟨x,rfl,hx,q⟩:=h;refine ⟨_,(AG rfl (Aj (GW (p8 PU PU A6 (Bm iR Ax (A0 (qv 0) A5)) (Hx (v:=.int 8) (by rfl) Xx ⟨_,rfl⟩)) (KI (Bm (Px rfl) Ho (A0 (El rfl uN (pe (qv 0)) (fun _ _ _ _=>by exact E6) (fun _ _ _ _=>by exact (EG pL (qv 0) (Hx (v:=.str "abcdefghijklmnopqrstuvwxyz") (by rfl) T5 ⟨_,rfl⟩)))) A5)))))),?_⟩;refine ⟨_,rfl,_,rfl,small (by omega),_,_,rfl,rfl,_,rfl,?_⟩;refine BE (fun c=>?_) (fun c=>⟨_,rfl,Tf ?_⟩)
 ·refine ⟨_,_,rfl,rfl,_,rfl,?_⟩;refine BE (fun c2=>?_) (fun c2=>?_)
  ·refine ⟨_,rfl,x,rfl,fun acc Ay=>jd (fun _=>true) c9 Ay (by rw [<- HE,<- He];exact small (by omega)) (fun i v H' Q' _ _ h=>h H' (AV.refl _)) (fun i v H' Q' hv _ _ h=>?_) (fun H' s1 e1=>?_)⟩
   ·obtain ⟨cc,rfl⟩:=signs_get hv;exact ⟨_,rfl,_,_,rfl,rfl,h H' (AV.refl _)⟩
   ·rw [qg] at e1;refine ⟨acc,_,rfl,AY.of e1,?_⟩;rw [all_map];have e:isNm x=x.cps.toList.all RJ:=by unfold isNm;rw [c,c2];rfl
    rw [<- e];exact q H' s1
  ·have e:isNm x=false:=by unfold isNm;rw [Bool.eq_false_iff.mpr c2];simp
   rw [<- e];exact q H (AV.refl _)
 ·have e:isNm x=false:=by unfold isNm;rw [Bool.eq_false_iff.mpr c];simp
  rw [<- e];exact q H (AV.refl _)
def My:BM ["kinds","words","number","kind"] ["kinds"] (Ad Q9):=by walk_at "z1"
noncomputable def oP:Scope:={ kind:=.function,names:=[(".0", .local),("kind", .local)],isGenerator:=false,isCoroutine:=false,more:=[] }
def mq:Cc ["kinds","words","number","kind"] (Ad Q9) oP "kind" [] []:=by walk_at "z2"
def eM : ∀ ss R,Sa ss R->ss.length=1:=by rintro _ _ ⟨ks,rfl,_,rfl⟩;rfl
def xJ (F:AR K "check_kinds" "check_kinds" Q9 f fd)(m:mg "check_kinds"=some (.ref f)):
  AD P w K mg base "check_kinds" 3 ["kinds"] (AM Sa):=by
 refine AD.mk F (F.binds (by walk_at "bD1")) m (F.BR (k:=2) My (fun vs H Q E h=>Fz.Br eM h) (fun Ae A outer s H vs Q E hr h=>?_))
 refine ⟨_,(AE rfl (B4 (Lp (ZB7 PU PU A6 (Bm ER Ax (A0 (qv 0) A5)) (Hx (v:=.int 8) (by rfl) YC ⟨_,rfl⟩))) (AG rfl JO) B6)
   (AE rfl (Oj (i:=1) My.nd rfl (Or.inl rfl) rfl mq (Bv (qv 0)) (fun _ _ _ _=>by exact E6) (fun _ _ _ _=>by exact (AO (show Cz _ (Du K) from Ar) (qv 0) A6)))
   (AE rfl (C0 (DC Co rfl (mH rfl U3 (A0 (qv 0) A5)) (Na rfl (GG (C9 2 My.nd) (GG (C9 3 My.nd) Mn))) (AE rfl (B4 (Lp (K0 (AW VF hr (A0 (AO Ar (qv 3) A6) A5)))) (AG rfl JO) B6)
   (AE rfl (B4 (Al En (AO Ar (qv 3) A6) (CK Cm (qv 1) C6 (CP (qv 2)))) (AG rfl JO) B6)
   (AG rfl (B4 (Al L3 (Bm ER Ax (A0 (AO Ar (qv 3) A6) A5)) (Hx (v:=.int 6) (by rfl) U7 ⟨_,rfl⟩)) (AG rfl JO) B6))))))
   (AG rfl (DC Co rfl (Bv (qv 0)) (C9 3 My.nd) (AG rfl (Dz (AW Sj hr (A0 (qv 1) (A0 (AO Ar (qv 3) A6) A5)))))))))),?_⟩
 refine Fz.Bn h eM ?_;rintro _ _ ⟨ks,rfl,g,rfl⟩;show Ws [_,.any,.any,.any] _ _ _;have l1:=g.l1;have l8:=g.l8
 walk_at "ww"
 rw [AA];refine CB (jy (by omega)) ?_;refine AH ⟨_,rfl,_,rfl,?_⟩;rw [jy (show (ks.length:Int)<=8 by omega)];refine Bg (by decide) (BC ?_);refine AN (Fo (Dq Em (fun _=>true) (fun k=>PV.str k.w) (CS (Bo (A4 rfl ⟨_,.inl ⟨rfl,ks,rfl,by omega,fun k _=>E7 rfl,fun k _ _=>B3 (BF rfl ⟨rfl,AH ⟨_,_,rfl,rfl,rfl⟩⟩),?_⟩⟩))) qB));rw [List.filter_eq_self.mpr fun _ _=>rfl];refine Jk 1 rfl ?_;have ew:(ks.map fun k=>PV.str k.w)=(wk ks).map PV.str:=by rw [CU];rfl
 rw [ew];show Ws [.is (.lst (ks.map Em)),.is (.lst ((wk ks).map .str)),.any,.any] _ _ _;refine AN (Cy (Dh (fun _ i A9=>∃ s2 s3:Slot,A9=[.is (.lst (ks.map Em)),.is (.lst ((wk ks).map .str)),s2,s3]) (o8 (Bo (A4 rfl ⟨_,.inl ⟨rfl,rfl,⟨_,_,rfl⟩,?_,?_⟩⟩)))))
 ·rintro i q A9 hq ⟨s2,s3,rfl⟩;obtain ⟨x0,hx,rfl⟩:=tP hq;rw [Ac] at hx;obtain ⟨k,ex,rfl⟩:=Option.map_eq_some_iff.mp hx;have hi:=(List.getElem?_eq_some_iff.mp ex).1;have km:=C7 ex;refine V5 ⟨_,_,rfl,?_⟩
  walk_at "ww"
  refine nY (B3 (BF rfl ⟨rfl,AH ⟨_,_,rfl,rfl,k.w,rfl,D1 (g.nm k km).2.1 (by decide),_,rfl,?_⟩⟩));rw [kB (g.nm k km)];refine Bg (by decide) (BC ?_)
  walk_at "ww"
  rw [show Au (wk ks) none (some (i:Int))=(wk ks).take i from rf (by rw [AA];omega)];refine Bg (fun c=>?_) (BC ?_)
  ·obtain ⟨j,hj,ej⟩:=ES (k9 c);rw [DM,AA] at hj;rw [LJ] at ej;have q:=List.pairwise_iff_getElem.mp g.nd j i (by rw [AA];omega) (by rw [AA];exact hi) (by omega);refine q (ej.trans ?_);rw [Jp,(List.getElem?_eq_some_iff.mp ex).2]
  refine BP (B1 (Yn (HZ (Am (B3 (BF rfl ⟨rfl,AH ⟨_,_,rfl,rfl,_,.inl ⟨rfl,?_⟩⟩⟩))))))
  walk_at "ww"
  rw [AA];refine Bg (fun c=>?_) (BC ⟨_,_,rfl⟩);have:=k9 c;have:=(g.ps k km).1;omega
 ·rintro A9 ⟨s2,s3,rfl⟩;refine Dh (fun _ i A9=>∃ s2 s3:Slot,A9=[.is (.lst (ks.map Em)),.is (.lst ((wk ks).map .str)),s2,s3]) ?_
  walk_at "ww"
  refine ⟨⟨_,_,rfl⟩,?_,?_⟩
  ·rintro i p A9 hp ⟨s2,s3,rfl⟩;rw [Ac] at hp;obtain ⟨k,ex,rfl⟩:=Option.map_eq_some_iff.mp hp;have km:=C7 ex;refine EI ?_;refine Km (wp_call (AF (A4 rfl (AF (B3 (BF rfl ⟨rfl,AH ⟨_,_,rfl,rfl,Aw ⟨_,⟨wk ks,k.ps,rfl,by rw [AA];omega,(g.ps k km).2,rfl⟩,?_⟩⟩⟩))))));rintro _ rfl;exact ⟨_,_,rfl⟩
  ·rintro A9 ⟨s2,s3,rfl⟩;exact ⟨_,rfl,rfl⟩
def bK:BM ["self","kinds","kind"] ["self","kinds"] (Ad VB):=by walk_at "z1"
def ag:∀ ss R,(Vc A7) ss R->ss.length=2:=by rintro _ _ ⟨dx,a,ks,rfl,_,rfl⟩;rfl
def lr (F:AR K "__init__" "Errands.__init__" VB f fd)(mt:Mk K A7 f):
  TL P w K mg base A7 4 ["self","kinds"] (Dl (Vc A7)):=by
 refine ⟨f,fd,F.BR (k:=3) bK (fun vs H Q E h=>Fz.WI ag h) (fun Ae A outer s H vs Q E hr h=>?_),(F.binds (by walk_at "bD2")),mt⟩
 refine ⟨_,(AE rfl (Dz (AW SY hr (A0 (qv 1) A5)))
   (AE rfl (cy (qv 0) Ob)
   (AE rfl (cy (qv 0) Ob)
   (AG rfl (DC Co rfl (Bv (qv 1)) (C9 2 bK.nd) (AE rfl (Nj (Dg hr) (NO (qv 0)) (AO Ar (qv 2) A6) (Ea Of EB (A0 (AO Ar (qv 2) A6) A5)))
   (AG rfl (Nj (Dg hr) (NO (qv 0)) (AO Ar (qv 2) A6) (AO Ar (qv 2) A6))))))))),?_⟩
 refine Fz.ZAh h ag ?_;rintro _ _ ⟨dx,a,ks,rfl,g,rfl⟩;show Ws [_,_,.any] _ _ _;refine AN (Km (wp_call (AF (A4 rfl (Aw ⟨_,⟨ks,rfl,g,rfl⟩,?_⟩)))));rintro _ rfl;refine AN (fw (i:=0) (Nc fun b1=>Hh rfl ⟨true,A7,dx,[],a,[],rfl,rfl,FA,GX,by decide,Aa,?_⟩));rw [OV.HX];show Ws [.ow true (.nd (.obj A7 dx ["puts_by_word"]) a [.nd (.B7 []) b1 []]),.is (.lst (ks.map Em)),.any] _ _ _;refine AN (fw (i:=0) (Nc fun b2=>Hh rfl ⟨true,A7,dx,_,a,_,rfl,rfl,FA,Pd,by decide,Aa,?_⟩));rw [OV.HX];have l8:=g.l8;refine Dh (fun _ i A9=>∃ (s2:Slot),A9=[.ow true (Iz A7 dx a b1 b2 (ks.take i)),.is (.lst (ks.map Em)),s2]) ?_
 walk_at "ww"
 refine ⟨⟨_,rfl⟩,?_,?_⟩
 ·rintro i p A9 hp ⟨s2,rfl⟩;rw [Ac] at hp;obtain ⟨k,ex,rfl⟩:=Option.map_eq_some_iff.mp hp;have hi:=(List.getElem?_eq_some_iff.mp ex).1;have nk:k.w∉wk (ks.take i):=fun m=>by
   obtain ⟨j,hj,ej⟩:=ES m;rw [AA,DM] at hj;rw [Jp,LJ] at ej;have q:=List.pairwise_iff_getElem.mp g.nd j i (by rw [AA];omega) (by rw [AA];exact hi) (by omega);refine q ?_;rw [Jp,Jp,ej,(List.getElem?_eq_some_iff.mp ex).2]
  have Fi:(wk (ks.take i)).Nodup:=by
   rw [show wk (ks.take i)=(wk ks).take i from YV];exact g.nd.sublist (ZD2 _ _)
  refine EI ?_;refine AN (Oa (i:=0) (t:=Iz A7 dx a b1 b2 (ks.take i)) (Gg (Nl rfl (Am (B3 (BF rfl ⟨rfl,AH ⟨_,_,rfl,rfl,_,.inl ⟨rfl,?_⟩⟩⟩))))));refine fL (Hh rfl ⟨A7,dx,_,a,_,0,_,rfl,FA,GX,rfl,rfl,true,b1,_,_,rfl,rfl,by rw [AA,DM];omega,Nn Fi,Aa,B3 (BF rfl ⟨rfl,AH ⟨_,_,rfl,rfl,.inr k.w,rfl,?_⟩⟩)⟩);rw [J3,LQ nk,N8 nk];unfold Iz;rw [OV.K7 (show _=some _ from rfl),OV.HX];refine Oa (i:=0) (t:=.nd (.obj A7 dx GO) a [.nd (.B7 (BO (wk (ks.take i)++[k.w]))) b1 ((ks.take i).map (fun k=>.fz (.tup (k.ps.map BN)))++[.fz (.tup (k.ps.map BN))]),.nd (.B7 (BO (wk (ks.take i)))) b2 ((ks.take i).map fun k=>.fz (.bl k.g))]) (Gg (B3 (BF rfl ⟨rfl,AH ⟨_,_,rfl,rfl,?_⟩⟩)));refine fL (Hh rfl ⟨A7,dx,_,a,_,1,_,rfl,FA,Pd,by decide +kernel,rfl,true,b2,_,_,rfl,rfl,by rw [AA,DM];omega,Nn Fi,Aa,B3 (BF rfl ⟨rfl,AH ⟨_,_,rfl,rfl,.inr k.w,rfl,?_⟩⟩)⟩);rw [J3,LQ nk,N8 nk,OV.K7 (show _=some _ from rfl),OV.HX];refine ⟨.is (Em k),?_⟩;rw [Ih ex];simp only [wk,Be,BL,Ht];rfl
 ·rintro A9 ⟨s2,rfl⟩;rw [AA,FQ];exact ⟨_,_,_,_,rfl,rfl,rfl,b1,b2,rfl⟩
def M0:BM ["kinds","handed","book","word","puts","goes"] ["kinds"] (Ad RB):=by walk_at "z1"
noncomputable def kR:Scope:={ kind:=.function,names:=[(".0", .local),("word", .local),("puts", .local),("goes", .local),("list", .globalImplicit)],isGenerator:=false,isCoroutine:=false,more:=[] }
def oS:Hl ["kinds","handed","book","word","puts","goes"] (Ad RB) kR ["word","puts","goes"] [] []:=by walk_at "z3"
def aG:∀ ss R,(UM A7) ss R->ss.length=1:=by rintro _ _ ⟨ks,rfl,_,rfl⟩;rfl
def og (F:AR K "_law_book" "_law_book" RB f fd)(m:mg "_law_book"=some (.ref f)):
  AD P w K mg base "_law_book" 6 ["kinds"] (AM (UM A7)):=by
 refine AD.mk F (F.binds (by walk_at "bD1")) m (F.BR (k:=5) M0 (fun vs H Q E h=>Fz.Br aG h) (fun Ae A outer s H vs Q E hr h=>?_))
 refine ⟨_,(AE rfl (fR (i:=1) M0.nd rfl (Or.inl rfl) rfl oS (.cons (.cons (.cons .nil))) (fun _=>rfl) (fun _=>rfl) (Bv (qv 0)) (fun _ _ _ _=>by exact E6) (fun _ _ _ _=>by exact (Bl (A0 (qv 0) (A0 (Ea (show CJ _ (.type "list") (Fz.X7 K) from Fz.gn) Cq (A0 (qv 1) A5)) (A0 (qv 2) A5))))))
   (AE rfl (Af 2 M0.nd (tQ VH hr (by decide) XQ (A0 (qv 1) A5)))
   (AE rfl (C0 (DC Co rfl (qE (qv 1)) (Na rfl (GG (C9 3 M0.nd) (GG (C9 4 M0.nd) (GG (C9 5 M0.nd) Mn)))) (AG rfl (Dz (HK HI SV SW Nd (qv 4) (A0 (Bl (A0 BJ (A0 (qv 3) A5))) A5))))))
   (AE rfl (Dz (fU HI PySem.F.slot_list_clear PySem.F.type_list_clear tF (qv 1)))
   (AG rfl (Aj (qv 2))))))),?_⟩
 refine Fz.Bn h aG ?_;rintro _ _ ⟨ks,rfl,g,rfl⟩;show Ws [_,.any,.any,.any,.any,.any] _ _ _;have l8:=g.l8;refine AN (KY (wO (fun x u=>∃ (k:Kd) (b:Addr),x=k.P/\u=.tp [.fz (.str k.w),.nd .lst b ((k.ps.map BN).map .fz),.fz (.bl k.g)]) (CS (Bo (A4 rfl ⟨_,.inl ⟨rfl,by rw [AA];omega,fun x hx=>?_,fun l us hl hG=>?_⟩⟩)))))
 ·obtain ⟨k,km,rfl⟩:=List.mem_map.mp hx;refine ⟨_,rfl,rfl,E7 rfl,?_⟩;refine xO (LX (Gg (A4 rfl (LX (ju (MH rfl (BF rfl fun b=>LX (Gg (A4 rfl (b5 ⟨fun _ h=>absurd h Aa,fun _ h=>absurd h Aa,fun _ h=>absurd h Aa,by show 3<=100000;decide,rfl,k,b,rfl,rfl⟩))))))))))
 have OC:∃ bs:List Addr,bs.length=ks.length/\us=Dv ks bs:=i3 hl hG;obtain ⟨bs,lb,rfl⟩:=OC;show Ws [.is (.lst (ks.map Kd.P)),.ow false (.nd .lst l (Dv ks bs)),.any,.any,.any,.any] _ _ _;refine AN (KY (ou ?_));show Wx [.is (.lst (ks.map Kd.P)),.is (OV.nd .lst l (Dv ks bs)).pv,.any,.any,.any,.any] _ _;refine ZAb (sj (A4 rfl (Nr fun x dx=>⟨_,⟨dx,x,ks,by rw [ZAC ks bs l lb],g,rfl⟩,?_⟩)));rintro _ _ ⟨rfl,b1,b2,rfl⟩;refine ⟨rfl,_,_,rfl,rfl,l5 _ _ _ _ _ _,?_⟩;show Ws [.is (.lst (ks.map Kd.P)),.ow false (.nd .lst l (Dv ks bs)),.ow false (Iz A7 dx x b1 b2 ks),.any,.any,.any] _ _ _;refine WK 2 rfl ?_;rw [mU];show Ws [.is (.lst (ks.map Kd.P)),.ow false (.nd .lst l (Dv ks bs)),.is (Bk A7 ks),.any,.any,.any] _ _ _;refine AN (Cy (zg (i:=1) (a0:=l) ks.length (fun n A9=>∃ (us:List OV) (s3 s4 s5:Slot),A9=[.is (.lst (ks.map Kd.P)),.ow false (.nd .lst l us),.is (Bk A7 ks),s3,s4,s5]/\us.length=ks.length/\∀ (j:Nat) u,us[j]?=some u->∃ (k:Kd) (b:Addr) (qs:List PV),u=.tp [.fz (.str k.w),.nd .lst b (qs.map .fz),.fz (.bl k.g)]/\qs.length<=7/\(n<=j->qs.length<=6)) ⟨_,_,_,_,rfl,bR ks bs lb,fun j u hu=>?_⟩ (fun n A9 hn hI=>?_) ?_))
 ·obtain ⟨k,b,km,rfl⟩:=cz ks bs lb hu;have:=(g.ps k km).1;exact ⟨k,b,_,rfl,by rw [AA];omega,fun _=>by rw [AA];exact this⟩
 ·obtain ⟨us,s3,s4,s5,rfl,hl,hu⟩:=hI;refine ⟨false,us,rfl,hl,fun AQ=>?_⟩;obtain ⟨u,eu⟩:∃ u,us[n]?=some u:=⟨_,AX (by omega)⟩;obtain ⟨k,b,qs,rfl,h7,h6⟩:=hu n u eu;have h6:=h6 (Ai _);refine ⟨_,eu,tG ?_⟩;show Ws [.is (.lst (ks.map Kd.P)),.ow false (.nd .lst l us),.is (Bk A7 ks),.is (.str k.w),.raw (ptr b),.is (.bl k.g)] _ _ _;have at':(OV.nd .lst l us).at [n,1]=some (.nd .lst b (qs.map .fz)):=by rw [OV.Lh,eu];show OV.at _ [1]=_;rw [OV.ND];show OV.at _ []=_;rw [OV.MM]
  refine mO (i:=1) (ZAz (j:=4) (p:=[n,1]) rfl rfl at' ⟨false,b,_,rfl,rfl,by rw [AA];omega,Gg (C8 (Ah (Cg (Ah (A4 rfl (BK ⟨by show 2<=100000;decide,?_⟩))))))⟩);refine ⟨Aa,us.set n (.tp [.fz (.str k.w),.nd .lst b ((qs++[PV.tup [.str "first", .str k.w]]).map .fz),.fz (.bl k.g)]),.is (.str k.w),.raw (ptr b),.is (.bl k.g),?_,by rw [LL];exact hl,fun j u hj=>?_⟩
  ·rw [OV.K7 eu,OV.NX (show _=some _ from rfl),OV.HX,Be];rfl
  ·by_cases c:j=n
   ·subst c;rw [Ds (by omega)] at hj;cases hj;exact ⟨k,b,_,rfl,by rw [B2];show _+1<=_;omega,fun z=>by omega⟩
   ·rw [DL (Bs c)] at hj;obtain ⟨k',b',qs',e,h1,h2⟩:=hu j u hj;exact ⟨k',b',qs',e,h1,fun z=>h2 (by omega)⟩
 ·rintro A9 ⟨us,s3,s4,s5,rfl,hl,hu⟩;refine AN (y8 (i:=1) (Hh rfl ⟨false,l,us,rfl,rfl,?_⟩));exact BH (A4 rfl rfl)
def OS:BM ["script","k","cell","rest_here"] ["script","k"] (Ad Y2):=by walk_at "z1"
def rV (F:AR K "_law_pot" "_law_pot" Y2 f fd)(m:mg "_law_pot"=some (.ref f)):
  AD P w K mg base "_law_pot" 1 ["script","k"] (QB K):=by
 refine AD.mk F (F.binds (by walk_at "bD2")) m (F.BR (k:=0) OS (fun vs H Q E h=>?_) (fun Ae A outer s H vs Q E hr h=>?_))
 ·obtain ⟨a,ns,k,rfl,hS,k0,k1,q⟩:=h;rfl
 obtain ⟨a,ns,k,rfl,hS,k0,k1,q⟩:=h;refine ⟨_,(AE rfl (Af 2 OS.nd A6)
   (AE rfl (C0 (B4 (Al RX (qv 1) (Bm QR Ax (A0 (qv 0) A5))) (AG rfl (Af 2 OS.nd (Ab J1 (AO BZ (qv 0) (qv 1)) (Ab KA (Ab KA (Ab KA (Ab J7 A6 A6) (Ab J7 A6 A6)) (Ab J7 A6 A6)) (Ab J7 A6 A6))))) B6))
   (AE rfl (Af 3 OS.nd A6)
   (AE rfl (C0 (B4 (Al mT (qv 2) (Ab J7 A6 A6)) (AG rfl (Af 3 OS.nd (qv 2))) B6))
   (AG rfl (Aj (C2 (A0 (qv 3) (A0 (Ab J1 (Ab KA (Ab DB (Ab DB (Ab J1 (qv 2) A6) (Ab KA A6 (qv 1))) A6) A6) A6) A5))))))))),?_⟩
 have hl:(ns.map V.int).length=ns.length:=AA _;refine ⟨fun σ' H'=>∃ c:Int,σ'=[some (.ref a),some (.int k),some (.int c),none]/\H=H'/\0<=c/\c<10 ^ 256,?_,?_⟩
 ·refine ⟨_,rfl,_,rfl,a,_,rfl,.inl hS,_,_,rfl,rfl,_,rfl,?_⟩;refine BE (fun c=>?_) (fun c=>?_)
  ·have c':k<(((ns.map V.int).length:Nat):Int):=k9 c;rw [hl] at c';have hk:k.toNat<ns.length:=by omega
   have hv:BA (ns.map V.int) k=some (.int ns[k.toNat]):=MP k0 (by rw [Ac,AX hk] <;> rfl)
   refine ⟨_,rfl,_,rfl,a,_,_,_,rfl,rfl,hS,hv,_,_,rfl,rfl,⟨by decide,by decide,by decide +kernel⟩,_,_,rfl,rfl,⟨by decide,by decide,by decide +kernel⟩,_,_,rfl,rfl,⟨by decide +kernel,by decide +kernel⟩,_,_,rfl,rfl,⟨by decide,by decide,by decide +kernel⟩,_,_,rfl,rfl,⟨by decide +kernel,by decide +kernel⟩,
    _,_,rfl,rfl,⟨by decide,by decide,by decide +kernel⟩,_,_,rfl,rfl,⟨by decide +kernel,by decide +kernel⟩,_,_,rfl,rfl,(by show (0:Int)<_;decide +kernel),?_⟩
   exact ⟨_,rfl,rfl,Jm _ (by decide +kernel),LI _ (by decide +kernel)⟩
  ·exact ⟨0,rfl,rfl,by decide,by decide +kernel⟩
 rintro σ' H' ⟨c,rfl,rfl,c0,c1⟩;refine ⟨fun σ' H'=>∃ d:Int,σ'=[some (.ref a),some (.int k),some (.int c),some (.int d)]/\H=H'/\0<=d/\d<10 ^ 256,?_,?_⟩
 ·refine ⟨_,rfl,_,_,rfl,rfl,⟨by decide,by decide,by decide +kernel⟩,_,_,rfl,rfl,_,rfl,?_⟩;refine BE (fun _=>?_) (fun _=>?_)
  ·exact ⟨_,rfl,c,rfl,rfl,c0,c1⟩
  ·exact ⟨0,rfl,rfl,by decide,by decide +kernel⟩
 rintro σ' H' ⟨d,rfl,rfl,d0,d1⟩;have e0:0<=c % 2147483629:=Jm _ (by decide);have e1:c % 2147483629<2147483629:=LI _ (by decide);refine ⟨_,rfl,_,rfl,_,_,rfl,rfl,(by show (0:Int)<2147483629;decide),_,rfl,_,_,rfl,rfl,⟨by decide +kernel,Lb (by omega) (by omega)⟩,_,_,rfl,rfl,_,_,rfl,rfl,_,_,rfl,rfl,⟨Lb (by omega) (by omega),by decide +kernel⟩,_,_,rfl,rfl,(by show (0:Int)<2147483647;decide),?_⟩;refine ⟨(by show 2<=sizeLine;decide),fun p hp=>?_⟩;exact q p _ hp (DT hp _) ⟨d,_,B0,d0,d1,Jm _ (by decide),LI _ (by decide)⟩
def aS:BM ["pot","kinds","many"] ["pot","kinds"] (Ad Pj):=by walk_at "z1"
noncomputable def qy:Scope:={ kind:=.function,names:=[(".0", .local),("k", .local),("_law_take", .globalImplicit),("len", .globalImplicit),("kinds", .free),("pot", .free)],isGenerator:=false,isCoroutine:=false,more:=[] }
def ZB4:Cc ["pot","kinds","many"] (Ad Pj) qy "k" ["kinds","pot"] [1,0]:=by walk_at "z2"
def iI : ∀ ss R,Tp ss R->ss.length=2:=by rintro _ _ ⟨ks,rfl,_,rfl⟩;rfl
def ZBi (F:AR K "_law_crowd" "_law_crowd" Pj f fd)(m:mg "_law_crowd"=some (.ref f)):
  AD P w K mg base "_law_crowd" 2 ["pot","kinds"] (AM Tp):=by
 refine AD.mk F (F.binds (by walk_at "bD2")) m (F.BR (k:=1) aS (fun vs H Q E h=>Fz.Br iI h) (fun Ae A outer s H vs Q E hr h=>?_))
 refine ⟨_,(AE rfl (Af 2 aS.nd (AO Ar (Bl (A0 A6 (A0 A6 (A0 A6 (A0 A6 (A0 A6 (A0 A6 (A0 A6 (A0 A6 A5))))))))) (AW BS hr (A0 (qv 0) (A0 A6 A5)))))
   (AG rfl (Aj (El rfl ZB4 (Kh rfl DV (A0 (qv 2) A5)) (fun _ _ _ _=>by exact E6) (fun _ _ _ _=>by exact (AO (show Cz _ (Du K) from Ar) (AO (show Cz _ (MB K) from BZ) (qv 0) (AW BS hr (A0 (qv 1) (A0 (Bm (show CJ _ (.builtin "len") (Oo K) from ER) Ax (A0 (qv 0) A5)) A5)))) A6)))))),?_⟩
 refine Fz.Bn h iI ?_;rintro _ _ ⟨ks,rfl,g,rfl⟩;show Ws [_,_,.any] _ _ _;have l1:=g.l1;have l8:=g.l8
 walk_at "ww"
 refine ⟨by decide,?_⟩
 walk_at "ww"
 refine ⟨by decide,by decide,fun t t0 t1=>?_⟩;obtain ⟨z,e,hz⟩:=za t0 t1;refine ⟨_,_,rfl,e,?_⟩;refine Ik (kQ (fun _ p=>∃ c∈wk ks,p=.str c) ?_)
 walk_at "ww"
 rw [HF];refine ⟨by omega,by omega,by rw [Hk];omega,fun x hx=>E7 rfl,fun x hx=>?_,fun ys Kg hP=>?_⟩
 ·walk_at "ww"
  rw [AA];refine ⟨by omega,by omega,fun q q0 q1=>?_⟩;obtain ⟨qn,rfl⟩:=Jn q0;have hq:qn<ks.length:=by omega
  refine ⟨_,_,rfl,D4 (by rw [Ac,AX hq];rfl),_,.inr ⟨rfl,rfl,?_⟩⟩
  walk_at "ww"
  exact ⟨_,List.mem_map.mpr ⟨_,Fs hq,rfl⟩,rfl⟩
 ·rw [Hk] at Kg;have all:∀ y∈ys,∃ c∈wk ks,y=.str c:=fun y hy=>by
   obtain ⟨q,hq,eq⟩:=ES hy;have h1:ys[q]?=some y:=by rw [AX hq,eq]
   exact hP q _ y (AX (show q<(JT z).length by rw [Hk];omega)) h1
  obtain ⟨cs,rfl,hc⟩:=R0 all;exact ⟨cs,rfl,by rw [AA] at Kg;omega,hc⟩
def ZCK:BM ["pot"] ["pot"] (Ad Vn):=by walk_at "z1"
def c8 : ∀ ss R,UW ss R->ss.length=1:=by rintro _ _ ⟨rfl,rfl⟩;rfl
def zE (F:AR K "_law_rule" "_law_rule" Vn f fd)(m:mg "_law_rule"=some (.ref f)):
  AD P w K mg base "_law_rule" 2 ["pot"] (AM UW):=by
 refine AD.mk F (F.binds (by walk_at "bD1")) m (F.BR (k:=1) ZCK (fun vs H Q E h=>Fz.Br c8 h) (fun Ae A outer s H vs Q E hr h=>?_))
 refine ⟨_,(AG rfl (Aj (AO Ar (Bl (A0 BJ (A0 BJ (A0 BJ A5)))) (AW BS hr (A0 (qv 0) (A0 A6 A5)))))),?_⟩;refine Fz.Bn h c8 ?_;rintro _ _ ⟨rfl,rfl⟩;show Ws [_] _ _ _
 walk_at "ww"
 refine ⟨by decide,?_⟩
 walk_at "ww"
 refine ⟨by decide,by decide,fun t t0 t1=>?_⟩;obtain ⟨r,hr,e⟩:=nP t0 t1;exact ⟨_,_,rfl,e,r,hr,rfl⟩
def Vl:BM ["kinds","word","rule","wheres","puts"] ["kinds","word","rule"] (Ad Nv):=by walk_at "z1"
noncomputable def yY:Scope:={ kind:=.function,names:=[(".0", .local),("row", .local),("word", .free)],isGenerator:=false,isCoroutine:=false,more:=[] }
def nA:Cc ["kinds","word","rule","wheres","puts"] (Ad Nv) yY "row" ["word"] [1]:=by walk_at "z2"
noncomputable def ZBp:Scope:={ kind:=.function,names:=[(".0", .local),("where", .local),("kind", .local),("wheres", .free)],isGenerator:=false,isCoroutine:=false,more:=[] }
def ZCT:Hl ["kinds","word","rule","wheres","puts"] (Ad Nv) ZBp ["where","kind"] ["wheres"] [3]:=by walk_at "z3"
def dZ : ∀ ss R,Io ss R->ss.length=3:=by rintro _ _ ⟨ks,x,r,rfl,_,_,_,rfl⟩;rfl
def ZBO (F:AR K "_law_comers" "_law_comers" Nv f fd)(m:mg "_law_comers"=some (.ref f)):
  AD P w K mg base "_law_comers" 1 ["kinds","word","rule"] (AM Io):=by
 refine AD.mk F (F.binds (by walk_at "bD3")) m (F.BR (k:=0) Vl (fun vs H Q E h=>Fz.Br dZ h) (fun Ae A outer s H vs Q E hr h=>?_))
 refine ⟨_,(AE rfl (Af 3 Vl.nd (JX (Dg hr) (uP (WM BJ (Bl A5) (WM BJ (Bl (A0 BJ (A0 BJ A5))) (WM BJ (Bl (A0 BJ (A0 BJ (A0 BJ (A0 BJ A5))))) oF))) rfl rfl (by simp) (by decide)) (qv 2) (fun _ _=>rfl)))
   (AE rfl (Af 4 Vl.nd (AO BZ (El rfl nA (Bv (qv 0)) (fun _ _ _ _=>by exact (Jw (Al Bp (AO (show Cz _ (Du K) from Ar) (qv 1) A6) (qv 0)))) (fun _ _ _ _=>by exact (AO (show Cz _ (Du K) from Ar) (qv 1) A6))) A6))
   (AG rfl (Aj (iH rfl ZCT (.cons (.cons .nil)) (fun _=>rfl) (fun _=>rfl) (Bv (qv 4)) (fun _ _ _ _=>by exact (Jw (Al (show BD _ (compareOp .In) (HN K false) from En) (qv 1) (qv 0)))) (fun _ _ _ _=>by exact (qv 2))))))),?_⟩
 refine Fz.Bn h dZ ?_;rintro _ _ ⟨ks,x,r,rfl,g,hx,hr,rfl⟩;show Ws [_,_,_,.any,.any] _ _ _;have l8:=g.l8;have h6:=(g.Ko x).1;refine AN (CT (J9 (wx (xg (by decide) ?_))));refine LX (Gg (C8 (BK ⟨by decide,?_⟩)));refine LX (Gg (C8 (Ah (Cg (Ah (Cg (BK ⟨by decide,?_⟩)))))));refine LX (Gg (C8 (Ah (Cg (Ah (Cg (Ah (Cg (Ah (Cg (BK ⟨by decide,?_⟩)))))))))));refine b5 ⟨fun _ h=>absurd h Aa,fun _ h=>absurd h Aa,fun _ h=>absurd h Aa,rfl,fun l=>⟨rfl,_,_,by rw [OV.pv],A4 rfl ⟨.inr r,.tup ((RW r).map .str),rfl,?_,?_⟩⟩⟩
 ·simp only [CH,CL,Aa,pN] at hr;rcases hr with rfl | rfl | rfl <;> rfl
 obtain ⟨k,rest,ef,ep⟩:=g.ij hx;refine AN (CT (CQ (Am (AZ (Dq Kd.P (fun k=>decide (k.w=x)) (fun k=>PV.tup (k.ps.map BN)) (CS (Bo (A4 rfl ⟨_,.inl ⟨rfl,ks,rfl,by omega,fun k _=>?_,fun k _ _=>?_,?_⟩⟩))) Kd.inj)))))
 ·exact B1 (C3 (B3 (BF rfl ⟨rfl,AH ⟨_,_,rfl,rfl,A4 rfl ⟨rfl,_,rfl,rfl⟩⟩⟩)))
 ·exact B3 (BF rfl ⟨rfl,AH ⟨_,_,rfl,rfl,rfl⟩⟩)
 rw [ef];refine ⟨_,.inl ⟨rfl,rfl,AH ⟨0,PV.tup (k.ps.map BN),rfl,(D4 (j:=0) rfl:L2.BA (List.map (fun k:Kd=>PV.tup (k.ps.map BN)) (k::rest)) ((0:Nat):Int)=_),?_⟩⟩⟩;rw [ep];refine Ik (XZ (fun q=>match q with | .tup [.str a,_]=>decide (a∈RW r) | _=>false) (fun q=>match q with | .tup [_,b]=>b | _=>.AB) (CS (Bo (A4 rfl ⟨_,.inr ⟨rfl,by rw [AA];omega,fun q hq=>?_,?_⟩⟩))))
 ·obtain ⟨p,hp,rfl⟩:=List.mem_map.mp hq;refine ⟨_,rfl,rfl,?_,fun _=>A4 rfl rfl⟩;exact B1 (GL (A4 rfl ⟨p.1,rfl,BF rfl ⟨_,rfl,_,rfl,rfl⟩⟩))
 ·rw [<- rX g hr x,jG,CU,CU];rfl
def RT:BM ["kinds","some","rule","found","left","word"] ["kinds","some","rule"] (Ad Ud):=by walk_at "z1"
def cg : ∀ ss R,O0 ss R->ss.length=3:=by rintro _ _ ⟨ks,S,r,rfl,_,_,_,_,rfl⟩;rfl
def ZC3 (F:AR K "_law_reached" "_law_reached" Ud f fd)(m:mg "_law_reached"=some (.ref f)):
  AD P w K mg base "_law_reached" 2 ["kinds","some","rule"] (AM O0):=by
 refine AD.mk F (F.binds (by walk_at "bD3")) m (F.BR (k:=1) RT (fun vs H Q E h=>Fz.Br cg h) (fun Ae A outer s H vs Q E hr h=>?_))
 refine ⟨_,(AE rfl (Af 3 RT.nd (C2 A5))
   (AE rfl (Af 4 RT.nd (Ea Nq Cq (A0 (qv 1) A5)))
   (AE rfl (C0 (NY Co (Al (ZCZ hr.KP) (qv 4) (C2 A5)) (AE rfl (Af 5 RT.nd (fU HI PySem.F.slot_list_pop PySem.F.type_list_pop qc (qv 4)))
   (AG rfl (B4 (Al KU (qv 5) (qv 3)) (AE rfl (Dz (HK HI SV SW Nd (qv 3) (A0 (qv 5) A5)))
   (AG rfl (Dz (HK HI PySem.F.slot_list_extend PySem.F.type_list_extend yZ (qv 4) (A0 (AW D9 hr (A0 (qv 0) (A0 (qv 5) (A0 (qv 2) A5)))) A5))))) B6)))))
   (AG rfl (Aj (qv 3)))))),?_⟩
 refine Fz.Bn h cg ?_;rintro _ _ ⟨ks,S,r,rfl,g,hr,hz,hS,rfl⟩;show Ws [_,_,_,.any,.any,.any] _ _ _;have l8:=g.l8
 walk_at "ww"
 refine ⟨by decide,?_⟩
 walk_at "ww"
 refine Xs (fun m A9=>∃ (A B:List Str) (s5:Slot),A9=[.is (.lst (ks.map Kd.P)),.sq false (S.map .str),.is (.str r),.own (A.map .str),.own (B.map .str),s5]/\A.Nodup/\(∀ y∈A,BY (AU ks r) S y)/\(∀ y∈B,BY (AU ks r) S y)/\(∀ y∈S,y∈A∨y∈B)/\(∀ y∈A,∀ z∈AU ks r y,z∈A∨z∈B)/\B.length<=12+6 * A.length/\m+7 * A.length=B.length+7 * 9) (S.length+7 * 9) ?_ ?_
 ·exact ⟨[],S,_,rfl,HH,fun y hy=>absurd hy Aa,fun y hy=>.here hy,fun y hy=>.inr hy,fun y hy=>absurd hy Aa,by simp;omega,by simp⟩
 rintro m A9 ⟨A,B,s5,rfl,nd,rA,rB,cS,cA,lB,hm⟩;have lA:A.length<=8:=by
  have:=EY nd (bs:=wk ks) fun y hy=>JC g hS (rA y hy);rw [AA] at this;omega
 walk_at "ww"
 refine ⟨by decide,_,.inl ⟨rfl,rfl,rfl,_,rfl,?_⟩⟩;rw [AA];refine BE (fun c=>?_) (fun c=>?_)
 ·obtain ⟨B',x,rfl⟩:∃ B' x,B=B'++[x]:=by
   have B5:B≠[]:=fun z=>by subst z;cases c
   exact ⟨_,_,(ZCj B5).symm⟩
  have rx:=rB x (by simp);have xw:=JC g hS rx;refine AN (ZC5 (y:=.str x) rfl (by simp) ?_);rw [Be,BL,Ht,List.dropLast_concat];show Ws [.is (.lst (ks.map Kd.P)),.sq false (S.map .str),.is (.str r),.own (A.map .str),.own (B'.map .str),.is (.str x)] _ _ _;rw [B2,GS] at lB hm
  walk_at "ww"
  refine BE (fun c2=>?_) (fun c2=>BC ?_)
  ·have hx:x∉A:=fun z=>by rw [jy z] at c2;cases c2
   walk_at "ww"
   refine ⟨by rw [AA];omega,?_⟩;refine ZBJ rfl (E2 (AF (A4 rfl (AF (A4 rfl (AF (A4 rfl (Aw ⟨_,⟨ks,x,r,rfl,g,xw,hr,rfl⟩,?_⟩))))))));rintro _ rfl;have h6:=Mb g r x;refine ⟨by rw [AA,AA];omega,(8 * 7+B'.length+(AU ks r x).length) - 7 * A.length,by omega,A++[x],B'++AU ks r x,.is (.str x),?_,Ig nd hx,?_,?_,?_,?_,?_,?_⟩
   ·rw [Be,Be];rfl
   ·intro y hy;rcases List.mem_append.mp hy with h | h
    ·exact rA y h
    ·rw [List.mem_singleton.mp h];exact rx
   ·intro y hy;rcases List.mem_append.mp hy with h | h
    ·exact rB y (by simp [h])
    ·exact .step rx h
   ·intro y hy;rcases cS y hy with h | h
    ·exact .inl (by simp [h])
    ·rcases List.mem_append.mp h with h | h
     ·exact .inr (by simp [h])
     ·exact .inl (by simp [List.mem_singleton.mp h])
   ·intro y hy z hz;rcases List.mem_append.mp hy with h | h
    ·rcases cA y h z hz with q | q
     ·exact .inl (by simp [q])
     ·rcases List.mem_append.mp q with q | q
      ·exact .inr (by simp [q])
      ·exact .inl (by simp [List.mem_singleton.mp q])
    ·rw [List.mem_singleton.mp h] at hz;exact .inr (by simp [hz])
   ·rw [B2,B2,GS];omega
   ·rw [B2,B2,GS];omega
  ·have hx:x∈A:=Decidable.byContradiction fun z=>c2 (by rw [nZ z];rfl);refine ⟨m - 1,by omega,A,B',_,rfl,nd,rA,fun y hy=>rB y (by simp [hy]),fun y hy=>?_,fun y hy z hz=>?_,by omega,by omega⟩
   ·rcases cS y hy with h | h
    ·exact .inl h
    ·rcases List.mem_append.mp h with h | h
     ·exact .inr h
     ·exact .inl (by rw [List.mem_singleton.mp h];exact hx)
   ·rcases cA y hy z hz with q | q
    ·exact .inl q
    ·rcases List.mem_append.mp q with q | q
     ·exact .inr q
     ·exact .inl (by rw [List.mem_singleton.mp q];exact hx)
 ·have hB:B=[]:=by
   cases B with
   | nil=>rfl
   | cons b r=>exact absurd rfl c
  subst hB;refine ZZ rfl ⟨A,rfl,nd,lA,fun x=>⟨rA x,fun q=>?_⟩⟩
  induction q with
  | here m=>exact (cS _ m).elim id fun z=>absurd z Aa
  | step _ hy ih=>exact (cA _ ih _ hy).elim id fun z=>absurd z Aa
def gr:BM ["kinds","crowd","rule","word"] ["kinds","crowd","rule"] (Ad XX):=by walk_at "z1"
def bU : ∀ ss R,Qc ss R->ss.length=3:=by rintro _ _ ⟨ks,cs,r,rfl,_,_,_,_,rfl⟩;rfl
def vS (F:AR K "_law_rings" "_law_rings" XX f fd)(m:mg "_law_rings"=some (.ref f)):
  AD P w K mg base "_law_rings" 3 ["kinds","crowd","rule"] (AM Qc):=by
 refine AD.mk F (F.binds (by walk_at "bD3")) m (F.BR (k:=2) gr (fun vs H Q E h=>Fz.Br bU h) (fun Ae A outer s H vs Q E hr h=>?_))
 refine ⟨_,(AE rfl (C0 (DC Co rfl (Bv (AW HW hr (A0 (qv 0) (A0 (qv 1) (A0 (qv 2) A5))))) (C9 3 gr.nd) (AG rfl (B4 (Al En (qv 3) (AW HW hr (A0 (qv 0) (A0 (AW D9 hr (A0 (qv 0) (A0 (qv 3) (A0 (qv 2) A5)))) (A0 (qv 2) A5))))) (AG rfl (Aj Hf)) B6))))
   (AG rfl (Aj Hf))),?_⟩
 refine Fz.Bn h bU ?_;rintro _ _ ⟨ks,cs,r,rfl,g,hr,hz,hc,rfl⟩;show Ws [_,_,_,.any] _ _ _;refine AN (Cy (Dh (fun xs i A9=>∃ (L:List Str) (s3:Slot),xs=L.map .str/\A9=[.is (.lst (ks.map Kd.P)),.sq false (cs.map .str),.is (.str r),s3]/\(∀ x,x∈L↔BY (AU ks r) cs x)/\∀ x∈L.take i,¬ BY (AU ks r) (AU ks r x) x) (CS (Bo (AZ (E2 (AF (A4 rfl (G3 (JG rfl (AF (A4 rfl (Aw ⟨_,⟨ks,cs,r,rfl,g,hr,hz,hc,rfl⟩,?_⟩)))))))))))));rintro _ ⟨L,rfl,nd,l8,hL⟩;refine ⟨_,.inl ⟨rfl,⟨L,_,rfl,rfl,hL,fun x hx=>absurd hx (by simp)⟩,?_,?_⟩⟩
 ·rintro i p A9 hp ⟨L',s3,eL,rfl,_,hn⟩;have eL:=Xz eL;subst eL;rw [Ac] at hp;obtain ⟨x,ex,rfl⟩:=Option.map_eq_some_iff.mp hp;have xm:=C7 ex;have xw:=JC g hc ((hL x).mp xm);have h6:=Mb g r x;refine EI ?_;refine BP (B1 (GL (A4 rfl ⟨x,rfl,Am (AZ (E2 (AF (A4 rfl (G3 (Am (AZ (E2 (AF (A4 rfl (AF (A4 rfl (AF (A4 rfl (Aw ⟨_,⟨ks,x,r,rfl,g,xw,hr,rfl⟩,?_⟩)))))))))))))))⟩)));rintro _ rfl;refine ⟨_,.inl ⟨rfl,AF (A4 rfl (Aw ⟨_,⟨ks,AU ks r x,r,rfl,g,hr,by omega,fun y hy=>g.OZ hy,rfl⟩,?_⟩))⟩⟩;rintro _ ⟨M,rfl,_,_,hM⟩;refine ⟨_,.inl ⟨rfl,M,rfl,_,rfl,?_⟩⟩;refine BE (fun c=>?_) (fun c=>BC ?_)
  ·exact BH (GJ ⟨true,rfl,⟨fun _=>⟨x,(hL x).mp xm,(hM x).mp (k9 c)⟩,fun _=>rfl⟩⟩)
  ·refine ⟨L,_,rfl,rfl,hL,fun y hy=>?_⟩;rw [Ih ex] at hy;rcases List.mem_append.mp hy with h | h
   ·exact hn y h
   ·rw [List.mem_singleton.mp h];exact fun q=>c (jy ((hM x).mpr q))
 ·rintro A9 ⟨L',s3,eL,rfl,_,hn⟩;have eL:=Xz eL;subst eL;rw [AA,FQ] at hn;refine BH (GJ ⟨false,rfl,⟨fun z=>(by cases z),fun ⟨x,h1,h2⟩=>absurd h2 (hn x ((hL x).mpr h1))⟩⟩)
def JN:BM ["kinds","some","goal","rule","roads","seen","road","at","kind"] ["kinds","some","goal","rule"] (Ad PK):=by walk_at "z1"
noncomputable def xX:Scope:={ kind:=.function,names:=[(".0", .local),("word", .local)],isGenerator:=false,isCoroutine:=false,more:=[] }
def ZBY:Cc ["kinds","some","goal","rule","roads","seen","road","at","kind"] (Ad PK) xX "word" [] []:=by walk_at "z2"
def dS : ∀ ss R,Vv ss R->ss.length=4:=by rintro _ _ ⟨ks,cs,gl,r,rfl,_,_,_,_,rfl⟩;rfl
def tI (F:AR K "_law_road" "_law_road" PK f fd)(m:mg "_law_road"=some (.ref f)):
  AD P w K mg base "_law_road" 2 ["kinds","some","goal","rule"] (AM Vv):=by
 refine AD.mk F (F.binds (by walk_at "bD4")) m (F.BR (k:=1) JN (fun vs H Q E h=>Fz.Br dS h) (fun Ae A outer s H vs Q E hr h=>?_))
 refine ⟨_,(AE rfl (Oj (i:=4) JN.nd rfl (Or.inl rfl) rfl ZBY (Bv (qv 1)) (fun _ _ _ _=>by exact E6) (fun _ _ _ _=>by exact (C2 (A0 (qv 0) A5))))
   (AE rfl (Af 5 JN.nd (Ea Nq Cq (A0 (qv 1) A5)))
   (AE rfl (C0 (DC Co rfl (Bv (CK Cm (qv 4) C6 C6)) (C9 6 JN.nd) (AG rfl (B4 (Al Bp (AO BZ (qv 6) (Gu HC A6)) (qv 2)) (AG rfl (Aj (qv 6))) B6))))
   (AE rfl (Af 7 JN.nd A6)
   (AE rfl (C0 (NY Co (Al RX (qv 7) (Bm ER Ax (A0 (qv 4) A5))) (AE rfl (C0 (DC Co rfl (Bv (AW D9 hr (A0 (qv 0) (A0 (AO BZ (AO BZ (qv 4) (qv 7)) (Gu HC A6)) (A0 (qv 3) A5))))) (C9 8 JN.nd) (AE rfl (B4 (Al Bp (qv 8) (qv 2)) (AG rfl (Aj (Ab Dt (AO BZ (qv 4) (qv 7)) (C2 (A0 (qv 8) A5))))) B6)
   (AG rfl (B4 (Al KU (qv 8) (qv 5)) (AE rfl (Dz (HK HI SV SW Nd (qv 5) (A0 (qv 8) A5)))
   (AG rfl (Af 4 JN.nd (Ab Dt (qv 4) (C2 (A0 (Ab Dt (AO BZ (qv 4) (qv 7)) (C2 (A0 (qv 8) A5))) A5)))))) B6)))))
   (AG rfl (Af 7 JN.nd (Ab DB (qv 7) A6))))))
   (AG rfl (Aj (C2 A5)))))))),?_⟩
 refine Fz.Bn h dS ?_;rintro _ _ ⟨ks,cs,gl,r,rfl,g,hr,hz,hc,rfl⟩;show Ws [_,_,_,_,.any,.any,.any,.any,.any] _ _ _;have l8:=g.l8;refine AN (Fo (Dq PV.str (fun _=>true) (fun c=>PV.lst [.str c]) (CS (Bo (A4 rfl ⟨_,.inl ⟨rfl,cs,rfl,by omega,fun k _=>E7 rfl,fun c _ _=>AZ (D3 (Ah (A4 rfl (BK ⟨by show 1<=100000;decide,rfl⟩)))),?_⟩⟩))) (fun a b e=>by injection e)));rw [List.filter_eq_self.mpr fun _ _=>rfl];refine Jk 4 rfl ?_;refine AN (Fo (MH rfl (Ao rfl ?_)));have e0:(cs.map fun c=>PV.lst [.str c])=(cs.map fun c=>[c]).map Kl:=by rw [CU];rfl
 rw [e0];show Ws [.is (.lst (ks.map Kd.P)),.is (.lst (cs.map .str)),.is (.str gl),.is (.str r),.is (.lst ((cs.map fun c=>[c]).map Kl)),.own (cs.map .str),.any,.any,.any] _ _ _;have ip:WC ks (cs.map fun c=>[c]):=fun W hW=>by
  obtain ⟨c,J8,rfl⟩:=List.mem_map.mp hW;refine ⟨c,rfl,hc c J8,?_⟩;rw [AA];exact YU J8
 refine AN (Cy (Dh (fun xs i A9=>∃ s6:Slot,A9=[.is (.lst (ks.map Kd.P)),.is (.lst (cs.map .str)),.is (.str gl),.is (.str r),.is (.lst ((cs.map fun c=>[c]).map Kl)),.own (cs.map .str),s6,.any,.any]) (CS (Bo (AZ (FL (Ao rfl ⟨rfl,Dk (Dk ⟨_,.inl ⟨rfl,⟨_,rfl⟩,?_,?_⟩⟩)⟩)))))))
 ·rintro i q A9 hq ⟨s6,rfl⟩;have hq:=pW (C7 hq);obtain ⟨W,hW,rfl⟩:=List.mem_map.mp hq;obtain ⟨x,ex,xw,lW⟩:=ip W hW;rw [AA] at lW;refine EI ?_;refine BP (B1 (C3 (CQ (Ao rfl ⟨rfl,HU (AH ⟨_,rfl,_,_,rfl,M5 ex,A4 rfl ⟨rfl,_,rfl,?_⟩⟩)⟩))));exact BE (fun _=>BH (A4 rfl ⟨W,rfl,by omega⟩)) (fun _=>BC ⟨_,rfl⟩)
 rintro A9 ⟨s6,rfl⟩;refine AN (CT (AH ?_));refine AN (Cy (Xs (fun m A9=>∃ (Rs:List (List Str)) (N:List Str) (a:Nat) (s6 s8:Slot),A9=[.is (.lst (ks.map Kd.P)),.is (.lst (cs.map .str)),.is (.str gl),.is (.str r),.is (.lst (Rs.map Kl)),.own ((cs++N).map .str),s6,.is (.int (a:Nat)),s8]/\WC ks Rs/\Rs.length=cs.length+N.length/\N.Nodup/\(∀ y∈N,y∈wk ks)/\m+a=21) 21 ⟨cs.map fun c=>[c],[],0,_,_,by rw [Df];rfl,ip,by simp,HH,fun _ h=>absurd h Aa,rfl⟩ ?_));rintro m A9 ⟨Rs,N,a,s6,s8,rfl,ok,lR,Il,sN,hm⟩;have lN:N.length<=8:=by
  have:=EY Il sN;rw [AA] at this;omega
 refine B1 ?_
 walk_at "ww"
 rw [AA];refine BE (fun c=>?_) (fun c=>BH (AZ (D3 (BK ⟨by decide,[],rfl,by decide⟩))));have ha:a<Rs.length:=by have:=k9 c;omega
 obtain ⟨W,eW⟩:∃ W,Rs[a]?=some W:=⟨_,AX ha⟩;obtain ⟨x,ex,xw,lW⟩:=ok W (C7 eW);have h6:=Mb g r x;have rd:∀ {ss:List Slot}{k:PV->Prop}{dm:List (List Str)},ss[4]?=some (.is (.lst (dm.map Kl)))->ss[7]?=some (.is (.int (a:Nat)))->dm[a]?=some W->k (.lst (W.map .str))->Wp ss (BX (MB K) (BI 4) (BI 7)) k:=fun h4 h7 e hk=>CQ (Ao h4 ⟨rfl,A4 h7 ⟨_,_,rfl,D4 (by rw [Ac,e];rfl),hk⟩⟩);refine AN (Cy (Dh (fun xs i A9=>∃ (Rs:List (List Str)) (N:List Str) (s6 s8:Slot),A9=[.is (.lst (ks.map Kd.P)),.is (.lst (cs.map .str)),.is (.str gl),.is (.str r),.is (.lst (Rs.map Kl)),.own ((cs++N).map .str),s6,.is (.int (a:Nat)),s8]/\WC ks Rs/\Rs.length=cs.length+N.length/\N.Nodup/\(∀ y∈N,y∈wk ks)/\Rs[a]?=some W) (CS (Bo (AZ (E2 (AF (A4 rfl (AF (CQ (Am (rd rfl rfl eW ⟨_,.inl ⟨rfl,rfl,HU (AH ⟨_,rfl,_,_,rfl,M5 ex,AF (A4 rfl (Aw ⟨_,⟨ks,x,r,rfl,g,xw,hr,rfl⟩,?_⟩))⟩)⟩⟩))))))))))));rintro _ rfl;refine ⟨_,.inl ⟨rfl,⟨Rs,N,_,_,rfl,ok,lR,Il,sN,eW⟩,?_,?_⟩⟩
 ·rintro i q A9 hq ⟨Rs,N,s6,s8,rfl,ok,lR,Il,sN,eW⟩;rw [Ac] at hq;obtain ⟨y,ey,rfl⟩:=Option.map_eq_some_iff.mp hq;have yw:=g.OZ (C7 ey);have lN:N.length<=8:=by
   have:=EY Il sN;rw [AA] at this;omega
  obtain ⟨_,_,_,lW⟩:=ok W (C7 eW);have aJ:∀ {ss:List Slot}{k:PV->Prop},ss[4]?=some (.is (.lst (Rs.map Kl)))->ss[7]?=some (.is (.int (a:Nat)))->ss[8]?=some (.is (.str y))->k (.lst ((W++[y]).map .str))->Wp ss (BX YA (BX (MB K) (BI 4) (BI 7)) (Q8 (Ap (BI 8) BV))) k:=fun h4 h7 h8 hk=>AZ (E8 (Am (rd h4 h7 eW ⟨_,.inl ⟨rfl,rfl,Am (AZ (D3 (Ah (A4 h8 (BK ⟨by show 1<=100000;decide,_,.inl ⟨rfl,rfl,by rw [AA];show _+1<=_;omega,by rw [Be] at hk;exact hk⟩⟩)))))⟩⟩)));refine EI ?_;refine AN (BP (B1 (C3 (A4 rfl (A4 rfl ⟨rfl,_,rfl,BE (fun _=>?_) (fun _=>BC ?_)⟩)))))
  ·exact BH (aJ rfl rfl rfl ⟨W++[y],rfl,by rw [B2,GS];omega⟩)
  refine BP (B1 (NQ (A4 rfl ⟨y,rfl,Po rfl ⟨cs++N,rfl,_,rfl,?_⟩⟩)))
  by_cases c:y∈cs++N
  ·rw [jy c];exact Bg (by decide) (BC ⟨Rs,N,_,_,rfl,ok,lR,Il,sN,eW⟩)
  rw [nZ c];refine CB rfl (AN (UC rfl (A4 rfl ⟨by rw [AA,B2];omega,?_⟩)));refine CT (AZ (E8 (Ao rfl ⟨rfl,Am (AZ (D3 (Ah (aJ rfl rfl rfl (BK ⟨by show 1<=100000;decide,_,.inl ⟨rfl,rfl,by rw [AA];show _+1<=_;omega,Rs++[W++[y]],N++[y],s6,.is (.str y),?_,fun V hV=>?_,by rw [B2,B2];simp;omega,Ig Il fun z=>c (by simp [z]),fun z hz=>?_,?_⟩⟩)))))⟩)))
  ·rw [Be (l₁:=Rs),<- Cd,Be (l₁:=cs++N)];rfl
  ·rw [B2,GS];rcases List.mem_append.mp hV with h | h
   ·obtain ⟨x,h1,h2,h3⟩:=ok V h;exact ⟨x,h1,h2,by omega⟩
   ·rw [List.mem_singleton.mp h];exact ⟨y,by simp,yw,by rw [B2,GS];omega⟩
  ·rcases List.mem_append.mp hz with h | h
   ·exact sN z h
   ·rw [List.mem_singleton.mp h];exact yw
  ·rw [DK (List.getElem?_eq_some_iff.mp eW).1];exact eW
 ·rintro A9 ⟨Rs,N,s6,s8,rfl,ok,lR,Il,sN,eW⟩;have lN:N.length<=8:=by
   have:=EY Il sN;rw [AA] at this;omega
  have ha:=(List.getElem?_eq_some_iff.mp eW).1;refine CT ?_
  walk_at "ww"
  exact ⟨20 - a,by omega,Rs,N,a+1,_,_,rfl,ok,lR,Il,sN,by omega⟩
def W7:BM ["kinds","crowd","rule","word","ring"] ["kinds","crowd","rule"] (Ad WT):=by walk_at "z1"
def bX : ∀ ss R,WV ss R->ss.length=3:=by rintro _ _ ⟨ks,cs,r,rfl,_,_,_,_,rfl⟩;rfl
def tY (F:AR K "_law_endless" "_law_endless" WT f fd)(m:mg "_law_endless"=some (.ref f)):
  AD P w K mg base "_law_endless" 3 ["kinds","crowd","rule"] (AM WV):=by
 refine AD.mk F (F.binds (by walk_at "bD3")) m (F.BR (k:=2) W7 (fun vs H Q E h=>Fz.Br bX h) (fun Ae A outer s H vs Q E hr h=>?_))
 refine ⟨_,(AE rfl (C0 (DC Co rfl (Bv (AW HW hr (A0 (qv 0) (A0 (qv 1) (A0 (qv 2) A5))))) (C9 3 W7.nd) (AE rfl (Af 4 W7.nd (AW Qa hr (A0 (qv 0) (A0 (AW D9 hr (A0 (qv 0) (A0 (qv 3) (A0 (qv 2) A5)))) (A0 (qv 3) (A0 (qv 2) A5))))))
   (AG rfl (B4 (Al (MO hr.KP) (qv 4) (C2 A5)) (AG rfl (Aj (Bl (A0 (AW Qa hr (A0 (qv 0) (A0 (qv 1) (A0 (qv 3) (A0 (qv 2) A5))))) (A0 (Ab Dt (C2 (A0 (qv 3) A5)) (CK Cm (qv 4) C6 (CP (Gu HC A6)))) A5))))) B6)))))
   (AG rfl (Aj (Bl (A0 (C2 A5) (A0 (C2 A5) A5)))))),?_⟩
 refine Fz.Bn h bX ?_;rintro _ _ ⟨ks,cs,r,rfl,g,hr,hz,hc,rfl⟩;show Ws [_,_,_,.any,.any] _ _ _;refine AN (Cy (Dh (fun xs i A9=>∃ (s3 s4:Slot),A9=[.is (.lst (ks.map Kd.P)),.is (.lst (cs.map .str)),.is (.str r),s3,s4]) (CS (Bo (AZ (E2 (AF (A4 rfl (G3 (Ao rfl (AF (A4 rfl (Aw ⟨_,⟨ks,cs,r,rfl,g,hr,hz,hc,rfl⟩,?_⟩)))))))))))));rintro _ ⟨L,rfl,Fq,lL,hL⟩;refine ⟨_,.inl ⟨rfl,⟨_,_,rfl⟩,?_,?_⟩⟩
 ·rintro i q A9 hq ⟨s3,s4,rfl⟩;rw [Ac] at hq;obtain ⟨x,ex,rfl⟩:=Option.map_eq_some_iff.mp hq;have xw:=JC g hc ((hL x).mp (C7 ex));have h6:=Mb g r x;refine EI ?_;refine AN (CT (wp_call (AF (A4 rfl (AF (AZ (E2 (AF (A4 rfl (AF (A4 rfl (AF (A4 rfl (Aw ⟨_,⟨ks,x,r,rfl,g,xw,hr,rfl⟩,?_⟩))))))))))))));rintro _ rfl;refine AF (A4 rfl (AF (A4 rfl (Aw ⟨_,⟨ks,AU ks r x,x,r,rfl,g,hr,by omega,fun c h=>g.OZ h,rfl⟩,?_⟩))));rintro _ ⟨U,rfl,lU⟩;refine BP (B1 (Rn (Ao rfl ⟨U,rfl,Am (AZ (D3 (BK ⟨by decide,_,.inl ⟨rfl,rfl,[],rfl,_,rfl,BE (fun _=>?_) (fun _=>BC ⟨_,_,rfl⟩)⟩⟩)))⟩)));refine BH (C8 (Ah (wp_call (AF (A4 rfl (AF (A4 rfl (AF (A4 rfl (AF (A4 rfl (Aw ⟨_,⟨ks,cs,x,r,rfl,g,hr,hz,hc,rfl⟩,?_⟩))))))))))));rintro _ ⟨W,rfl,lW⟩;refine Ah (AZ (E8 (Am (AZ (D3 (Ah (A4 rfl (BK ⟨by show 1<=100000;decide,_,.inl ⟨rfl,rfl,Am (AZ (FL (Ao rfl ⟨rfl,Dk (EJ (HU (AH ⟨_,rfl,_,rfl,_,.inl ⟨rfl,rfl,?_⟩⟩)))⟩)))⟩⟩))))))));have lc:=Lc U none (some (-1));rw [Ew];refine ⟨by rw [AA];show 1+_<=_;omega,BK ⟨by show 2<=100000;decide,W,x::Au U none (some (-1)),rfl,lW,by rw [By];omega⟩⟩
 ·rintro A9 ⟨s3,s4,rfl⟩;exact BH (C8 (Ah (AZ (D3 (BK ⟨by decide,Ah (AZ (D3 (BK ⟨by decide,BK ⟨by show 2<=100000;decide,[],[],rfl,by decide,by decide⟩⟩)))⟩)))))
def GN:BM ["pot","kinds","table","way","at","word","counts","rounds","spot","number"] ["pot","kinds","table"] (Ad Wv):=by walk_at "z1"
def fF : ∀ ss R,Ve ss R->ss.length=3:=by rintro _ _ ⟨ks,T,rfl,_,_,_,rfl⟩;rfl
def ZC8 (F:AR K "_law_spoilt_table" "_law_spoilt_table" Wv f fd)(m:mg "_law_spoilt_table"=some (.ref f)):
  AD P w K mg base "_law_spoilt_table" 2 ["pot","kinds","table"] (AM Ve):=by
 refine AD.mk F (F.binds (by walk_at "bD3")) m (F.BR (k:=1) GN (fun vs H Q E h=>Fz.Br fF h) (fun Ae A outer s H vs Q E hr h=>?_))
 refine ⟨_,(AE rfl (Af 3 GN.nd (AW BS hr (A0 (qv 0) (A0 A6 A5))))
   (AE rfl (B4 (Iv (Al (Fz.XY hr.units) (qv 2) (C2 A5)) (Iy (Al Bp (qv 3) A6))).pt (AG rfl (Aj (qv 2))) B6)
   (AE rfl (Af 4 GN.nd (AW BS hr (A0 (qv 0) (A0 (Bm ER Ax (A0 (qv 2) A5)) A5))))
   (AE rfl (Rv (AO BZ (qv 2) (qv 4)) (Na rfl (GG (C9 5 GN.nd) (GG (C9 6 GN.nd) (GG (C9 7 GN.nd) Mn)))))
   (AE rfl (Af 8 GN.nd (AW BS hr (A0 (qv 0) (A0 (Bm ER Ax (A0 (qv 6) A5)) A5))))
   (AE rfl (C0 (B4 (Al Bp (qv 3) A6) (AE rfl (Af 9 GN.nd (AO Ar (Bl (A0 (Gu HC A6) (A0 (Ab DB (AO Ar (qv 6) (qv 8)) A6) (A0 (Ab Lf (Ab J7 A6 A6) A6) (A0 A6 A5))))) (AW BS hr (A0 (qv 0) (A0 A6 A5)))))
   (AG rfl (Af 6 GN.nd (Ab WS (Ab WS (CK Fz.P5 (qv 6) C6 (CP (qv 8))) (Bl (A0 (qv 9) A5))) (CK Fz.P5 (qv 6) (CP (Ab DB (qv 8) A6)) C6))))) B6))
   (AE rfl (C0 (B4 (Al Bp (qv 3) A6) (AG rfl (Af 7 GN.nd (AO Ar (Bl (A0 (Ab DB (qv 7) A6) (A0 (Ab Lf (qv 7) A6) (A0 A6 (A0 (Ab J7 A6 A6) A5))))) (AW BS hr (A0 (qv 0) (A0 A6 A5)))))) B6))
   (AE rfl (C0 (B4 (Al Bp (qv 3) A6) (AG rfl (Af 6 GN.nd (AO Ar (Bl (A0 (CK Fz.P5 (qv 6) (CP A6) C6) (A0 (Ab WS (qv 6) (Bl (A0 A6 A5))) A5))) (AW BS hr (A0 (qv 0) (A0 A6 A5)))))) B6))
   (AE rfl (B4 (Al Bp (qv 3) A6) (AG rfl (Aj (Ab Dt (CK Cm (qv 2) C6 (CP (qv 4))) (CK Cm (qv 2) (CP (Ab DB (qv 4) A6)) C6)))) B6)
   (AE rfl (B4 (Al Bp (qv 3) A6) (AG rfl (Aj (Ab Dt (Ab Dt (CK Cm (qv 2) C6 (CP (qv 4))) (C2 (A0 (AO BZ (qv 2) (qv 4)) A5))) (CK Cm (qv 2) (CP (qv 4)) C6)))) B6)
   (AE rfl (B4 (Al Bp (qv 3) A6) (AG rfl (Aj (Ab Dt (CK Cm (qv 2) (CP (qv 4)) C6) (CK Cm (qv 2) C6 (CP (qv 4)))))) B6)
   (AE rfl (C0 (B4 (Al Bp (qv 3) A6) (AG rfl (Af 5 GN.nd (AO Ar (Bl (A0 BJ (A0 (AO Ar (AO BZ (qv 1) (AW BS hr (A0 (qv 0) (A0 (Bm ER Ax (A0 (qv 1) A5)) A5)))) A6) A5))) (AW BS hr (A0 (qv 0) (A0 A6 A5)))))) B6))
   (AG rfl (Aj (Ab Dt (Ab Dt (CK Cm (qv 2) C6 (CP (qv 4))) (C2 (A0 (Bl (A0 (qv 5) (A0 (qv 6) (A0 (qv 7) A5)))) A5))) (CK Cm (qv 2) (CP (Ab DB (qv 4) A6)) C6)))))))))))))))),?_⟩
 refine Fz.Bn h fF ?_;rintro _ _ ⟨ks,T,rfl,g,hz,hT,rfl⟩;show Ws [_,_,_,.any,.any,.any,.any,.any,.any,.any] _ _ _;have l1:=g.l1;have l8:=g.l8
 walk_at "ww"
 refine ⟨by decide,by decide,fun w w0 w7=>?_⟩;refine AN (BP (ID (B1 (RN (A4 rfl (AZ (D3 (BK ⟨by decide,VN T,?_,_,rfl,?_⟩))))))))
 ·intro x hx;cases hx
 have Hz:Ws [.AS,.is (.lst (ks.map Kd.P)),.is (.lst (T.map Rw.P)),.is (.int w),.any,.any,.any,.any,.any,.any] (J6 (BI 2)) (fun _=>True) (.is (fun p=>∃ T':List Rw,p=.lst (T'.map Rw.P)/\T'.length<=50)):=BH (A4 rfl ⟨T,rfl,by omega⟩)
 by_cases ne:T=[]
 ·subst ne;exact CB rfl (CB rfl (BH (A4 rfl ⟨[],rfl,by decide⟩)))
 obtain ⟨t0,T0,rfl⟩:∃ a b,T=a::b:=by
  cases T with
  | nil=>exact absurd rfl ne
  | cons a b=>exact ⟨a,b,rfl⟩
 refine Bg (by rw [BL];exact Cr) (B1 (C3 (A4 rfl (AH ⟨rfl,_,rfl,BE (fun _=>BH (A4 rfl ⟨t0::T0,rfl,by omega⟩)) (fun _=>BC ?_)⟩))));clear Hz;generalize hTT:t0::T0=T at *;have lp:1<=T.length:=by rw [<- hTT];simp
 refine AN (CT (FX rfl (HZ (Ao rfl ⟨_,rfl,?_,?_,fun a a0 a1=>?_⟩))))
 ·rw [AA];omega
 ·rw [AA];omega
 rw [AA] at a1;obtain ⟨an,rfl⟩:=Jn a0;obtain ⟨v,ev⟩:∃ v,T[an]?=some v:=⟨_,AX (by omega)⟩;obtain ⟨c1,ZDR⟩:=hT v (C7 ev);have ea:L2.BA (T.map Rw.P) (an:Int)=some v.P:=D4 (by rw [Ac,ev];rfl);refine AN (Z0 (CQ (Ao rfl ⟨rfl,A4 rfl ⟨_,_,rfl,ea,xp ⟨_,_,_,rfl,?_⟩⟩⟩)));refine AN (CT (FX rfl (HZ (BF rfl ⟨_,rfl,?_,?_,fun s s0 s1=>?_⟩))))
 ·rw [AA];omega
 ·rw [AA];omega
 rw [AA] at s1;show Ws [.AS,.is (.lst (ks.map Kd.P)),.is (.lst (T.map Rw.P)),.is (.int w),.is (.int (an:Int)),.is (.str v.1),.is (.tup (v.2.1.map .int)),.is (.int v.2.2),.is (.int s),.any] _ _ _;have cl:∀ lo hi,(Au T lo hi).length<=20:=fun lo hi=>D1 (Lc T lo hi) hz;have ce:∀ lo hi,Au (T.map Rw.P) lo hi=(Au T lo hi).map Rw.P:=fun lo hi=>Ew Rw.P T lo hi;have sT:∀ {ss:List Slot}{k:Bool->List PV->Prop},ss[2]?=some (.is (.lst (T.map Rw.P)))->ss[4]?=some (.is (.int (an:Int)))->k false ((Au T none (some (an:Int))).map Rw.P)->Wq ss (Hj (IJ K) (BI 2) IG (IK (BI 4))) k:=fun h2 h4 hk=>Am (AZ (FL (Ao h2 ⟨rfl,Dk (EJ (A4 h4 ⟨_,rfl,_,.inl ⟨rfl,by rw [ce];exact hk⟩⟩))⟩)));have sF:∀ {ss:List Slot}{k:Bool->List PV->Prop},ss[2]?=some (.is (.lst (T.map Rw.P)))->ss[4]?=some (.is (.int (an:Int)))->k false ((Au T (some (an:Int)) none).map Rw.P)->Wq ss (Hj (IJ K) (BI 2) (IK (BI 4)) IG) k:=fun h2 h4 hk=>Am (AZ (FL (Ao h2 ⟨rfl,EJ (A4 h4 ⟨_,rfl,Dk ⟨_,.inl ⟨rfl,by rw [ce];exact hk⟩⟩⟩)⟩)));have Nu:∀ {ss:List Slot}{k:Bool->List PV->Prop},ss[2]?=some (.is (.lst (T.map Rw.P)))->ss[4]?=some (.is (.int (an:Int)))->k false ((Au T (some ((an:Int)+1)) none).map Rw.P)->Wq ss (Hj (IJ K) (BI 2) (IK (BX (FG fun i j=>V.int (i+j)) (BI 4) (tC (V.int 1)))) IG) k:=fun h2 h4 hk=>Am (AZ (FL (Ao h2 ⟨rfl,EJ (Gi (A4 h4 ⟨_,rfl,AH ⟨_,rfl,_,rfl,Dk ⟨_,.inl ⟨rfl,by rw [ce];exact hk⟩⟩⟩⟩))⟩)));have h1:=cl none (some (an:Int));have h2:=cl (some (an:Int)) none;have h3:=cl (some ((an:Int)+1)) none;refine Oc (fun A9=>∃ (cs:List Int) (s9:Slot),A9=[.AS,.is (.lst (ks.map Kd.P)),.is (.lst (T.map Rw.P)),.is (.int w),.is (.int (an:Int)),.is (.str v.1),.is (.tup (cs.map .int)),.is (.int v.2.2),.is (.int s),s9]/\1<=cs.length/\cs.length<=300) ?_ ?_
 ·refine Cy (BP (B1 (C3 (A4 rfl (AH ⟨rfl,_,rfl,BE (fun _=>?_) (fun _=>BC ?_)⟩)))))
  ·obtain ⟨sn,rfl⟩:=Jn s0;obtain ⟨c,ec⟩:∃ c,v.2.1[sn]?=some c:=⟨_,AX (by omega)⟩;have es:L2.BA (v.2.1.map PV.int) (sn:Int)=some (.int c):=D4 (by rw [Ac,ec];rfl);refine AN (CT (B3 (Am (C8 (Ah (HU (AH ⟨_,rfl,Ah (Gi (B3 (BF rfl ⟨rfl,A4 rfl ⟨_,_,rfl,es,_,rfl,AH ⟨_,rfl,Ah (Gi (Vd (AH ⟨_,rfl,AH ⟨_,rfl,⟨by decide,by decide,by decide⟩,_,rfl,AH ⟨_,rfl,Ah (AH (BK ⟨by show 4<=100000;decide,_,.inr ⟨rfl,rfl,FX rfl (AH ⟨_,rfl,by decide,by decide,fun d d0 d1=>?_⟩)⟩⟩))⟩⟩⟩)))⟩⟩⟩)))⟩)))))));obtain ⟨z,zm,ez⟩:=O2 (xs:=[PV.int (-1),.int (c+1),.int (10 ^ (60:Int).toNat - 1),.int 0]) d0 d1;have zs:∃ y:Int,z=.int y:=by
    simp only [CL,Aa,pN] at zm;rcases zm with rfl | rfl | rfl | rfl <;> exact ⟨_,rfl⟩
   obtain ⟨y,rfl⟩:=zs;refine ⟨_,_,rfl,ez,?_⟩;have c1:=Lc v.2.1 none (some (sn:Int));have c2:=Lc v.2.1 (some ((sn:Int)+1)) none;refine CT (Vf (Vf (Oq (BF rfl (Dk (EJ (A4 rfl ⟨_,rfl,_,rfl,C8 (Ah (A4 rfl (BK ⟨by show 1<=100000;decide,_,rfl,?_,_,rfl,Oq (BF rfl (EJ (Gi (A4 rfl ⟨_,rfl,AH ⟨_,rfl,_,rfl,Dk ⟨_,rfl,?_,?_⟩⟩⟩))))⟩)))⟩)))))))
   ·rw [Ew,AA];show _+1<=_;omega
   ·rw [Ew,Ew,B2,AA,AA];show _+1+_<=_;omega
   ·refine ⟨Au v.2.1 none (some (sn:Int))++[y]++Au v.2.1 (some ((sn:Int)+1)) none,.is (.int y),?_,?_,?_⟩
    ·rw [Be,Be,<- Ew,<- Ew];rfl
    ·rw [B2,B2];show 1<=_+1+_;omega
    ·rw [B2,B2];show _+1+_<=_;omega
  ·exact ⟨_,_,rfl,c1,by omega⟩
 rintro _ ⟨cs,s9,rfl,k1,k3⟩;refine Oc (fun A9=>∃ (n:Int),A9=[.AS,.is (.lst (ks.map Kd.P)),.is (.lst (T.map Rw.P)),.is (.int w),.is (.int (an:Int)),.is (.str v.1),.is (.tup (cs.map .int)),.is (.int n),.is (.int s),s9]) ?_ ?_
 ·refine Cy (BP (B1 (C3 (A4 rfl (AH ⟨rfl,_,rfl,BE (fun _=>?_) (fun _=>BC ?_)⟩)))))
  ·refine CT (B3 (Am (C8 (Ah (Gi (A4 rfl ⟨_,rfl,AH ⟨_,rfl,Ah (Gi (A4 rfl ⟨_,rfl,AH ⟨_,rfl,Ah (AH (Ah (Vd (AH ⟨_,rfl,AH ⟨_,rfl,⟨by decide,by decide,by decide⟩,BK ⟨by show 4<=100000;decide,_,.inr ⟨rfl,rfl,FX rfl (AH ⟨_,rfl,by decide,by decide,fun d d0 d1=>?_⟩)⟩⟩⟩⟩))))⟩⟩))⟩⟩))))));obtain ⟨z,zm,ez⟩:=O2 (xs:=[PV.int (v.2.2+1),.int (v.2.2 - 1),.int 0,.int (10 ^ (59:Int).toNat)]) d0 d1;have zs:∃ y:Int,z=.int y:=by
    simp only [CL,Aa,pN] at zm;rcases zm with rfl | rfl | rfl | rfl <;> exact ⟨_,rfl⟩
   obtain ⟨y,rfl⟩:=zs;exact ⟨_,_,rfl,ez,y,rfl⟩
  ·exact ⟨_,rfl⟩
 rintro _ ⟨n,rfl⟩;refine Oc (fun A9=>∃ (cs:List Int),A9=[.AS,.is (.lst (ks.map Kd.P)),.is (.lst (T.map Rw.P)),.is (.int w),.is (.int (an:Int)),.is (.str v.1),.is (.tup (cs.map .int)),.is (.int n),.is (.int s),s9]) ?_ ?_
 ·refine Cy (BP (B1 (C3 (A4 rfl (AH ⟨rfl,_,rfl,BE (fun _=>?_) (fun _=>BC ?_)⟩)))))
  ·refine CT (B3 (Am (C8 (Ah (Oq (BF rfl (EJ (AH ⟨_,rfl,Dk (Ah (Vf (A4 rfl ⟨_,rfl,C8 (Ah (AH (BK ⟨by show 1<=100000;decide,_,rfl,?_,BK ⟨by show 2<=100000;decide,_,.inr ⟨rfl,rfl,FX rfl (AH ⟨_,rfl,by decide,by decide,fun d d0 d1=>?_⟩)⟩⟩⟩)))⟩)))⟩))))))))
   ·rw [AA];show _+1<=_;omega
   obtain ⟨z,zm,ez⟩:=O2 (xs:=[di true (Au (cs.map PV.int) (some 1) none),.tup (cs.map PV.int++[.int 0])]) d0 d1;have zs:∃ ds:List Int,z=.tup (ds.map .int):=by
    simp only [CL,Aa,pN] at zm;rcases zm with rfl | rfl
    ·exact ⟨Au cs (some 1) none,by rw [Ew];rfl⟩
    ·exact ⟨cs++[0],by rw [Be];rfl⟩
   obtain ⟨ds,rfl⟩:=zs;exact ⟨_,_,rfl,ez,ds,rfl⟩
  ·exact ⟨_,rfl⟩
 rintro _ ⟨cs,rfl⟩;refine AN (BP (B1 (C3 (A4 rfl (AH ⟨rfl,_,rfl,BE (fun _=>?_) (fun _=>BC ?_)⟩)))))
 ·refine BH (AZ (E8 (sT rfl rfl ⟨rfl,Nu rfl rfl ⟨rfl,?_,Au T none (some (an:Int))++Au T (some ((an:Int)+1)) none,by rw [Be],?_⟩⟩)))
  ·rw [AA,AA];omega
  ·rw [B2];omega
 refine AN (BP (B1 (C3 (A4 rfl (AH ⟨rfl,_,rfl,BE (fun _=>?_) (fun _=>BC ?_)⟩)))))
 ·refine BH (AZ (E8 (Am (AZ (E8 (sT rfl rfl ⟨rfl,Am (AZ (D3 (Ah (CQ (Ao rfl ⟨rfl,A4 rfl ⟨_,_,rfl,ea,BK ⟨by show 1<=100000;decide,_,.inl ⟨rfl,rfl,?_⟩⟩⟩⟩)))))⟩))))));refine ⟨by rw [AA];show _+1<=_;omega,_,.inl ⟨rfl,rfl,sF rfl rfl ⟨rfl,?_,Au T none (some (an:Int))++[v]++Au T (some (an:Int)) none,by rw [Be,Be];rfl,?_⟩⟩⟩
  ·rw [B2,AA,AA];show _+1+_<=_;omega
  ·rw [B2,B2];show _+1+_<=_;omega
 refine AN (BP (B1 (C3 (A4 rfl (AH ⟨rfl,_,rfl,BE (fun _=>?_) (fun _=>BC ?_)⟩)))))
 ·refine BH (AZ (E8 (sF rfl rfl ⟨rfl,sT rfl rfl ⟨rfl,?_,Au T (some (an:Int)) none++Au T none (some (an:Int)),by rw [Be],?_⟩⟩)))
  ·rw [AA,AA];omega
  ·rw [B2];omega
 refine Oc (fun A9=>∃ (x:Str),A9=[.AS,.is (.lst (ks.map Kd.P)),.is (.lst (T.map Rw.P)),.is (.int w),.is (.int (an:Int)),.is (.str x),.is (.tup (cs.map .int)),.is (.int n),.is (.int s),s9]) ?_ ?_
 ·refine Cy (BP (B1 (C3 (A4 rfl (AH ⟨rfl,_,rfl,BE (fun _=>?_) (fun _=>BC ?_)⟩)))))
  rotate_left
  ·exact ⟨_,rfl⟩
  refine CT (B3 (Am (C8 (Ah (Cg (Ah (B3 (Am (CQ (Ao rfl ⟨rfl,FX rfl (HZ (Ao rfl ⟨_,rfl,?_,?_,fun q q0 q1=>?_⟩))⟩))))))))))
  ·rw [AA];omega
  ·rw [AA];omega
  rw [AA] at q1;obtain ⟨qn,rfl⟩:=Jn q0;have hq:qn<ks.length:=by omega
  refine ⟨_,_,rfl,D4 (by rw [Ac,AX hq];rfl),_,.inr ⟨rfl,rfl,AH ⟨_,_,rfl,rfl,BK ⟨by show 2<=100000;decide,_,.inr ⟨rfl,rfl,FX rfl (AH ⟨_,rfl,by decide,by decide,fun d d0 d1=>?_⟩)⟩⟩⟩⟩⟩;obtain ⟨z,zm,ez⟩:=O2 (xs:=[PV.str "zz", .str ks[qn].w]) d0 d1;have zs:∃ y,z=.str y:=by
   simp only [CL,Aa,pN] at zm;rcases zm with rfl | rfl
   ·exact ⟨_,rfl⟩
   ·exact ⟨_,rfl⟩
  obtain ⟨y,rfl⟩:=zs;exact ⟨_,_,rfl,ez,y,rfl⟩
 rintro _ ⟨x,rfl⟩;refine BH (AZ (E8 (Am (AZ (E8 (sT rfl rfl ⟨rfl,Am (AZ (D3 (Ah (C8 (Ah (A4 rfl (Ah (A4 rfl (Ah (A4 rfl (BK ⟨by show 3<=100000;decide,BK ⟨by show 1<=100000;decide,_,.inl ⟨rfl,rfl,?_⟩⟩⟩)))))))))))⟩))))));refine ⟨by rw [AA];show _+1<=_;omega,_,.inl ⟨rfl,rfl,Nu rfl rfl ⟨rfl,?_,Au T none (some (an:Int))++[(x,cs,n)]++Au T (some ((an:Int)+1)) none,by rw [Be,Be];rfl,?_⟩⟩⟩
 ·rw [B2,AA,AA];show _+1+_<=_;omega
 ·rw [B2,B2];show _+1+_<=_;omega
def Vx:BM ["pot","kinds","chain","way","at"] ["pot","kinds","chain"] (Ad W4):=by walk_at "z1"
def bV : ∀ ss R,YF ss R->ss.length=3:=by rintro _ _ ⟨ks,W,rfl,_,_,rfl⟩;rfl
def qY (F:AR K "_law_spoilt_chain" "_law_spoilt_chain" W4 f fd)(m:mg "_law_spoilt_chain"=some (.ref f)):
  AD P w K mg base "_law_spoilt_chain" 2 ["pot","kinds","chain"] (AM YF):=by
 refine AD.mk F (F.binds (by walk_at "bD3")) m (F.BR (k:=1) Vx (fun vs H Q E h=>Fz.Br bV h) (fun Ae A outer s H vs Q E hr h=>?_))
 refine ⟨_,(AE rfl (Af 3 Vx.nd (AW BS hr (A0 (qv 0) (A0 A6 A5))))
   (AE rfl (B4 (Iv (Al (pP hr.KP) (qv 2) (C2 A5)) (Iy (Al Bp (qv 3) A6))).pt (AG rfl (Aj (qv 2))) B6)
   (AE rfl (Af 4 Vx.nd (AW BS hr (A0 (qv 0) (A0 (Bm ER Ax (A0 (qv 2) A5)) A5))))
   (AE rfl (B4 (Al Bp (qv 3) A6) (AG rfl (Aj (Ab Dt (CK Cm (qv 2) C6 (CP (qv 4))) (CK Cm (qv 2) (CP (Ab DB (qv 4) A6)) C6)))) B6)
   (AE rfl (B4 (Al Bp (qv 3) A6) (AG rfl (Aj (Ab Dt (Ab Dt (CK Cm (qv 2) C6 (CP (qv 4))) (C2 (A0 (AO BZ (qv 2) (qv 4)) A5))) (CK Cm (qv 2) (CP (qv 4)) C6)))) B6)
   (AE rfl (B4 (Al Bp (qv 3) A6) (AG rfl (Aj (Ab Dt (Ab Dt (CK Cm (qv 2) C6 (CP (qv 4))) (C2 (A0 (AO Ar (Bl (A0 BJ (A0 (AO Ar (AO BZ (qv 1) (AW BS hr (A0 (qv 0) (A0 (Bm ER Ax (A0 (qv 1) A5)) A5)))) A6) A5))) (AW BS hr (A0 (qv 0) (A0 A6 A5)))) A5))) (CK Cm (qv 2) (CP (Ab DB (qv 4) A6)) C6)))) B6)
   (AE rfl (B4 (Al Bp (qv 3) A6) (AG rfl (Aj (ZA1 rfl rfl Cq rfl T9 (A0 (qv 2) A5)))) B6)
   (AE rfl (B4 (Al Bp (qv 3) A6) (AG rfl (Aj (Ab Dt (CK Cm (qv 2) (CP (qv 4)) C6) (CK Cm (qv 2) C6 (CP (qv 4)))))) B6)
   (AG rfl (Aj (C2 A5))))))))))),?_⟩
 refine Fz.Bn h bV ?_;rintro _ _ ⟨ks,W,rfl,g,hz,rfl⟩;show Ws [_,_,_,.any,.any] _ _ _;have l1:=g.l1;have l8:=g.l8
 walk_at "ww"
 refine ⟨by decide,by decide,fun w w0 w7=>?_⟩;refine AN (BP (ID (B1 (gR (Ao rfl ⟨W,rfl,Am (AZ (D3 (BK ⟨by decide,_,.inl ⟨rfl,rfl,[],rfl,_,rfl,?_⟩⟩)))⟩)))))
 by_cases ne:W=[]
 ·rw [jy ne];exact CB rfl (CB rfl (BH (A4 rfl ⟨W,rfl,by omega⟩)))
 rw [nZ ne];have lp:=List.length_pos_iff.mpr ne;refine Bg (by decide) (B1 (C3 (A4 rfl (AH ⟨rfl,_,rfl,BE (fun _=>BH (A4 rfl ⟨W,rfl,by omega⟩)) (fun _=>BC ?_)⟩))));refine AN (CT (FX rfl (HZ (Ao rfl ⟨_,rfl,?_,?_,fun a a0 a1=>?_⟩))))
 ·rw [AA];omega
 ·rw [AA];omega
 rw [AA] at a1;show Ws [.AS,.is (.lst (ks.map Kd.P)),.is (.lst (W.map .str)),.is (.int w),.is (.int a)] _ _ _;have cl:∀ lo hi,(Au W lo hi).length<=40:=fun lo hi=>D1 (Lc W lo hi) hz;have ce:∀ lo hi,Au (W.map PV.str) lo hi=(Au W lo hi).map .str:=fun lo hi=>Ew PV.str W lo hi;have sT:∀ {ss:List Slot}{k:Bool->List PV->Prop},ss[2]?=some (.is (.lst (W.map .str)))->ss[4]?=some (.is (.int a))->k false ((Au W none (some a)).map .str)->Wq ss (Hj (IJ K) (BI 2) IG (IK (BI 4))) k:=fun h2 h4 hk=>Am (AZ (FL (Ao h2 ⟨rfl,Dk (EJ (A4 h4 ⟨_,rfl,_,.inl ⟨rfl,by rw [ce];exact hk⟩⟩))⟩)));have sF:∀ {ss:List Slot}{k:Bool->List PV->Prop},ss[2]?=some (.is (.lst (W.map .str)))->ss[4]?=some (.is (.int a))->k false ((Au W (some a) none).map .str)->Wq ss (Hj (IJ K) (BI 2) (IK (BI 4)) IG) k:=fun h2 h4 hk=>Am (AZ (FL (Ao h2 ⟨rfl,EJ (A4 h4 ⟨_,rfl,Dk ⟨_,.inl ⟨rfl,by rw [ce];exact hk⟩⟩⟩)⟩)));have Nu:∀ {ss:List Slot}{k:Bool->List PV->Prop},ss[2]?=some (.is (.lst (W.map .str)))->ss[4]?=some (.is (.int a))->k false ((Au W (some (a+1)) none).map .str)->Wq ss (Hj (IJ K) (BI 2) (IK (BX (FG fun i j=>V.int (i+j)) (BI 4) (tC (V.int 1)))) IG) k:=fun h2 h4 hk=>Am (AZ (FL (Ao h2 ⟨rfl,EJ (Gi (A4 h4 ⟨_,rfl,AH ⟨_,rfl,_,rfl,Dk ⟨_,.inl ⟨rfl,by rw [ce];exact hk⟩⟩⟩⟩))⟩)));refine AN (BP (B1 (C3 (A4 rfl (AH ⟨rfl,_,rfl,BE (fun _=>?_) (fun _=>BC ?_)⟩)))))
 ·refine BH (AZ (E8 (sT rfl rfl ⟨rfl,Nu rfl rfl ⟨rfl,?_,Au W none (some a)++Au W (some (a+1)) none,by rw [Be],?_⟩⟩)))
  ·rw [AA,AA];have:=cl none (some a);have:=cl (some (a+1)) none;omega
  ·rw [B2];have:=cl none (some a);have:=cl (some (a+1)) none;omega
 refine AN (BP (B1 (C3 (A4 rfl (AH ⟨rfl,_,rfl,BE (fun _=>?_) (fun _=>BC ?_)⟩)))))
 ·have h1:=cl none (some a);have h2:=cl (some a) none;obtain ⟨v,ev⟩:∃ v,W[a.toNat]?=some v:=⟨_,AX (by omega)⟩;have ea:L2.BA (W.map PV.str) a=some (.str v):=by
   have q:=D4 (xs:=W.map PV.str) (j:=a.toNat) (v:=.str v) (by rw [Ac,ev];rfl);rw [Int.toNat_of_nonneg a0] at q;exact q
  refine BH (AZ (E8 (Am (AZ (E8 (sT rfl rfl ⟨rfl,Am (AZ (D3 (Ah (CQ (Ao rfl ⟨rfl,A4 rfl ⟨_,_,rfl,ea,BK ⟨by show 1<=100000;decide,_,.inl ⟨rfl,rfl,?_⟩⟩⟩⟩)))))⟩))))));refine ⟨by rw [AA];show _+1<=_;omega,_,.inl ⟨rfl,rfl,sF rfl rfl ⟨rfl,?_,Au W none (some a)++[v]++Au W (some a) none,by rw [Be,Be];rfl,?_⟩⟩⟩
  ·rw [B2,AA,AA];show _+1+_<=_;omega
  ·rw [B2,B2];show _+1+_<=_;omega
 refine AN (BP (B1 (C3 (A4 rfl (AH ⟨rfl,_,rfl,BE (fun _=>?_) (fun _=>BC ?_)⟩)))))
 ·have h1:=cl none (some a);have h2:=cl (some (a+1)) none;refine BH (AZ (E8 (Am (AZ (E8 (sT rfl rfl ⟨rfl,Am (AZ (D3 (Ah ?_)))⟩))))));refine B3 (Am (C8 (Ah (Cg (Ah (B3 (Am (CQ (Ao rfl ⟨rfl,FX rfl (HZ (Ao rfl ⟨_,rfl,?_,?_,fun q q0 q1=>?_⟩))⟩)))))))))
  ·rw [AA];omega
  ·rw [AA];omega
  rw [AA] at q1;obtain ⟨qn,rfl⟩:=Jn q0;have hq:qn<ks.length:=by omega
  refine ⟨_,_,rfl,D4 (by rw [Ac,AX hq];rfl),_,.inr ⟨rfl,rfl,AH ⟨_,_,rfl,rfl,BK ⟨by show 2<=100000;decide,_,.inr ⟨rfl,rfl,FX rfl (AH ⟨_,rfl,by decide,by decide,fun d d0 d1=>?_⟩)⟩⟩⟩⟩⟩;obtain ⟨v,vm,ev⟩:=O2 (xs:=[PV.str "zz", .str ks[qn].w]) d0 d1;have vs:∃ z,v=.str z:=by
   simp only [CL,Aa,pN] at vm;rcases vm with rfl | rfl
   ·exact ⟨_,rfl⟩
   ·exact ⟨_,rfl⟩
  obtain ⟨z,rfl⟩:=vs;refine ⟨_,_,rfl,ev,BK ⟨by show 1<=100000;decide,_,.inl ⟨rfl,rfl,by rw [AA];show _+1<=_;omega,_,.inl ⟨rfl,rfl,Nu rfl rfl ⟨rfl,?_,Au W none (some a)++[z]++Au W (some (a+1)) none,by rw [Be,Be];rfl,?_⟩⟩⟩⟩⟩
  ·rw [B2,AA,AA];show _+1+_<=_;omega
  ·rw [B2,B2];show _+1+_<=_;omega
 refine AN (BP (B1 (C3 (A4 rfl (AH ⟨rfl,_,rfl,BE (fun _=>?_) (fun _=>BC ?_)⟩)))))
 ·refine BH (AZ (oa (Ao rfl ⟨rfl,W.reverse,by rw [List.map_reverse],by rw [ZCy];omega⟩)))
 refine AN (BP (B1 (C3 (A4 rfl (AH ⟨rfl,_,rfl,BE (fun _=>?_) (fun _=>BC ?_)⟩)))))
 ·have h1:=cl none (some a);have h2:=cl (some a) none;refine BH (AZ (E8 (sF rfl rfl ⟨rfl,sT rfl rfl ⟨rfl,?_,Au W (some a) none++Au W none (some a),by rw [Be],?_⟩⟩)))
  ·rw [AA,AA];omega
  ·rw [B2];omega
 exact BH (AZ (D3 (BK ⟨by decide,[],rfl,by decide⟩)))
def Gs:BM ["kinds","crowd","rule","left","rows","free","word","counts","rounds","where","kind"] ["kinds","crowd","rule"] (Ad LG):=by walk_at "z1"
noncomputable def vk:Scope:={ kind:=.function,names:=[(".0", .local),("word", .local),("all", .globalImplicit),("_law_comers", .globalImplicit),("kinds", .free),("rows", .free),("rule", .free)],isGenerator:=false,isCoroutine:=false,more:=[] }
noncomputable def uS:Scope:={ kind:=.function,names:=[(".0", .local),("kind", .local),("rows", .free)],isGenerator:=false,isCoroutine:=false,more:=[] }
noncomputable def nX:Scope:={ kind:=.function,names:=[(".0", .local),("row", .local),("int", .globalImplicit),("word", .free)],isGenerator:=false,isCoroutine:=false,more:=[] }
noncomputable def vG:Scope:={ kind:=.function,names:=[(".0", .local),("row", .local),("word", .free)],isGenerator:=false,isCoroutine:=false,more:=[] }
noncomputable def jg:Scope:={ kind:=.function,names:=[(".0", .local),("one", .local),("other", .local)],isGenerator:=false,isCoroutine:=false,more:=[] }
def qx:Cc ["kinds","crowd","rule","left","rows","free","word","counts","rounds","where","kind"] (Ad LG) vk "word" ["kinds","rows","rule"] [0,4,2]:=by walk_at "z2"
noncomputable def r9:Scope:={ kind:=.function,names:=[(".0", .local),("word", .local),("all", .globalImplicit),("_law_comers", .globalImplicit),("kinds", .cell),("rows", .cell),("rule", .cell)],isGenerator:=false,isCoroutine:=false,more:=[] }
def rF:Cc ["kinds","rows","rule","word"] r9 uS "kind" ["rows"] [1]:=by walk_at "z2"
def vB:Cc ["kinds","crowd","rule","left","rows","free","word","counts","rounds","where","kind"] (Ad LG) nX "row" ["word"] [6]:=by walk_at "z2"
def qu:Cc ["kinds","crowd","rule","left","rows","free","word","counts","rounds","where","kind"] (Ad LG) vG "row" ["word"] [6]:=by walk_at "z2"
def sO:Hl ["kinds","crowd","rule","left","rows","free","word","counts","rounds","where","kind"] (Ad LG) jg ["one","other"] [] []:=by walk_at "z3"
def ay : ∀ ss R,VG ss R->ss.length=3:=by rintro _ _ ⟨ks,cs,r,rfl,_,_,_,_,_,rfl⟩;rfl
def wB (F:AR K "_law_rows" "_law_rows" LG f fd)(m:mg "_law_rows"=some (.ref f)):
  AD P w K mg base "_law_rows" 3 ["kinds","crowd","rule"] (AM VG):=by
 refine AD.mk F (F.binds (by walk_at "bD3")) m (F.BR (k:=2) Gs (fun vs H Q E h=>Fz.Br ay h) (fun Ae A outer s H vs Q E hr h=>?_))
 refine ⟨_,(AE rfl (Af 3 Gs.nd (AW HW hr (A0 (qv 0) (A0 (qv 1) (A0 (qv 2) A5)))))
   (AE rfl (Af 4 Gs.nd Ob)
   (AE rfl (C0 (NY Co (Al (MO hr.KP) (qv 3) (C2 A5)) (AE rfl (Oj (i:=5) Gs.nd rfl (Or.inl rfl) rfl qx (Bv (qv 3)) (fun _ _ _ _=>by exact (Jw (K0 (Bm (show CJ _ (.builtin "all") (Fz.lH K) from Px rfl) Ho (A0 (El rfl rF (show QI _ _ _ (O8 K _) from Bv (AW D9 hr (A0 (qv 0) (A0 (qv 3) (A0 (qv 2) A5))))) (fun _ _ _ _=>by exact E6) (fun _ _ _ _=>by exact (je (Dg hr) (qv 1) (qv 0)))) A5))))) (fun _ _ _ _=>by exact (qv 3)))
   (AE rfl (Af 6 Gs.nd (AO BZ (qv 5) A6))
   (AE rfl (Oj (i:=7) Gs.nd rfl (Or.inl rfl) rfl vB (Bv (qv 0)) (fun _ _ _ _=>by exact E6) (fun _ _ _ _=>by exact (Ea fX Qh (A0 (EG Bp (AO (show Cz _ (Du K) from Ar) (qv 1) A6) (qv 0)) A5))))
   (AE rfl (Af 8 Gs.nd A6)
   (AE rfl (C0 (DC Co rfl (Bv (AO BZ (El rfl qu (Bv (qv 0)) (fun _ _ _ _=>by exact (Jw (Al Bp (AO (show Cz _ (Du K) from Ar) (qv 1) A6) (qv 0)))) (fun _ _ _ _=>by exact (AO (show Cz _ (Du K) from Ar) (qv 1) A6))) A6)) (Na rfl (GG (C9 9 Gs.nd) (GG (C9 10 Gs.nd) Mn))) (AG rfl (B4 (Iv (Al Bp (qv 2) BJ) (Iy (Rx (Al Bp (qv 2) BJ) (Ql (Al En (qv 9) (Bl (A0 BJ (A0 BJ A5)))))).pt)).pt (AE rfl (fR (i:=7) Gs.nd rfl (Or.inl rfl) rfl sO (.cons (.cons .nil)) (fun _=>rfl) (fun _=>rfl) (Zd rfl MF (A0 (qv 7) (A0 (AO Ar (JX (Dg hr) (qv 4) (qv 10) (fun _ _=>rfl)) A6) A5))) (fun _ _ _ _=>by exact E6) (fun _ _ _ _=>by exact (Ab DB (qv 0) (qv 1))))
   (AG rfl (Af 8 Gs.nd (Bm (Uj rfl) FN (A0 (qv 8) (A0 (Ab DB (AO Ar (JX (Dg hr) (qv 4) (qv 10) (fun _ _=>rfl)) A6) (Ea fX Qh (A0 (EG En (qv 9) (Bl (A0 BJ (A0 BJ A5)))) A5))) A5)))))) B6))))
   (AE rfl (Nj (Dg hr) (qv 4) (qv 6) (Bl (A0 (Ea Of EB (A0 (qv 7) A5)) (A0 (qv 8) A5))))
   (AG rfl (Dz (HK HI ZDD PySem.F.type_list_remove vV (qv 3) (A0 (qv 6) A5))))))))))))
   (AG rfl (Aj (qv 4)))))),?_⟩
 refine Fz.Bn h ay ?_;rintro _ _ ⟨ks,cs,r,rfl,g,hr,hz,hc,nr,rfl⟩;show Ws [_,_,_,.any,.any,.any,.any,.any,.any,.any,.any] _ _ _;have l8:=g.l8;obtain ⟨T,tT,Fi,rT,Qg⟩:=wm (ws:=wk ks) (fun x h=>JC g hc h) nr;have sT:∀ y∈T,y∈wk ks:=fun y hy=>JC g hc (rT y hy);have lT:T.length<=8:=by
  have:=EY Fi sT;rw [AA] at this;omega
 refine AN (Fo (E2 (AF (A4 rfl (G3 (Ao rfl (AF (A4 rfl (Aw ⟨_,⟨ks,cs,r,rfl,g,hr,hz,hc,rfl⟩,?_⟩)))))))));rintro _ ⟨L,rfl,Fq,lL,hL⟩;refine AN (KY (Nc fun a=>?_));show Ws [.is (.lst (ks.map Kd.P)),.is (.lst (cs.map .str)),.is (.str r),.own (L.map .str),.ow false (FZ ks r a []),.any,.any,.any,.any,.any,.any] _ _ _;refine AN (Cy (Xs (fun m A9=>∃ (L M:List Str) (s5 s6 s7 s8 s9 DS:Slot),A9=[.is (.lst (ks.map Kd.P)),.is (.lst (cs.map .str)),.is (.str r),.own (L.map .str),.ow false (FZ ks r a M),s5,s6,s7,s8,s9,DS]/\L.Nodup/\M.Nodup/\(∀ x,x∈M∨x∈L↔BY (AU ks r) cs x)/\(∀ x∈L,x∉M)/\m=L.length) L.length ⟨L,[],_,_,_,_,_,_,rfl,Fq,HH,fun x=>⟨fun h=>(hL x).mp (h.resolve_left Aa),fun h=>.inr ((hL x).mpr h)⟩,fun _ _=>Aa,rfl⟩ ?_));rintro m A9 ⟨L,M,s5,s6,s7,s8,s9,DS,rfl,Fq,Kf,hR,dj,rfl⟩;have rL:∀ x∈L,BY (AU ks r) cs x:=fun x hx=>(hR x).mp (.inr hx);have rM:∀ x∈M,BY (AU ks r) cs x:=fun x hx=>(hR x).mp (.inl hx);have lL:L.length<=8:=by
  have:=EY Fq (bs:=T) fun y hy=>Qg y (rL y hy);omega
 have lM:M.length<=8:=by
  have:=EY Kf (bs:=T) fun y hy=>Qg y (rM y hy);omega
 refine B1 (Rn (Po rfl ⟨L,rfl,Am (AZ (D3 (BK ⟨by decide,_,.inl ⟨rfl,rfl,[],rfl,_,rfl,?_⟩⟩)))⟩))
 by_cases ne:L=[]
 ·subst ne;refine Bg (by decide) ?_;exact bM (Za rfl ⟨a,M,rfl,Kf,fun x=>⟨fun h=>rM x h,fun h=>((hR x).mpr h).resolve_right Aa⟩⟩)
 rw [nZ ne];refine CB rfl ?_;refine AN (Fo (VZ ?_));rw [show List.map DU _=[.is (.lst (ks.map Kd.P)),.is (.lst (cs.map .str)),.is (.str r),.is (.lst (L.map .str)),.is (FZ ks r a M).pv,DU s5,DU s6,DU s7,DU s8,DU s9,DU DS] from rfl,RK];refine Dq PV.str (fun y=>(AU ks r y).all fun z=>decide (z∈M)) (fun y=>PV.str y) (CS (Bo (A4 rfl ⟨_,.inl ⟨rfl,L,rfl,by omega,fun y hy=>?_,fun y _ _=>A4 rfl rfl,?_⟩⟩))) (fun a b e=>by injection e)
 ·have h6:=Mb g r y;refine G6 (QH rfl (Am (AZ (Dq PV.str (fun _=>true) (fun z=>PV.bl (decide (z∈M))) (CS (Bo (AZ (E2 (AF (A4 rfl (AF (A4 rfl (AF (A4 rfl (Aw ⟨_,⟨ks,y,r,rfl,g,JC g hc (rL y hy),hr,rfl⟩,?_⟩))))))))))) (fun a b e=>by injection e)))));rintro _ rfl;refine ⟨_,.inl ⟨rfl,AU ks r y,rfl,by omega,fun _ _=>E7 rfl,fun z _ _=>?_,?_⟩⟩
  ·refine VW (A4 rfl (A4 rfl ⟨BO M,_,.inr z,rfl,rfl,?_⟩));rw [Kn]
  ·rw [List.filter_eq_self.mpr fun _ _=>rfl];refine ⟨_,.inl ⟨rfl,rfl,(AU ks r y).map fun z=>decide (z∈M),by rw [CU];rfl,_,rfl,?_⟩⟩;rw [jC];rfl
 obtain ⟨x0,UH,wt⟩:=ZAS (f:=AU ks r) (M:=M) tT (fun x hx=>Qg x (rL x hx)) (fun x hx y hy=>(hR y).mpr (.step (rL x hx) hy)) ne;refine ⟨Mz _ (fun _=>by simp [DQ]) _,?_⟩;have mF:x0∈L.filter fun y=>(AU ks r y).all fun z=>decide (z∈M):=List.mem_filter.mpr ⟨UH,List.all_eq_true.mpr fun z hz=>jy (wt z hz)⟩;obtain ⟨x,rest,eF⟩:∃ x rest,(L.filter fun y=>(AU ks r y).all fun z=>decide (z∈M))=x::rest:=by
  cases e:L.filter fun y=>(AU ks r y).all fun z=>decide (z∈M) with
  | nil=>rw [e] at mF;cases mF
  | cons x rest=>exact ⟨x,rest,rfl⟩
 have mx:x∈L.filter fun y=>(AU ks r y).all fun z=>decide (z∈M):=by rw [eF];simp
 have xL:=(List.mem_filter.mp mx).1;have xF:∀ z∈AU ks r x,z∈M:=fun z hz=>k9 (List.all_eq_true.mp (List.mem_filter.mp mx).2 z hz);rw [eF];have xw:=JC g hc (rL x xL);have xT:=Qg x (rL x xL);obtain ⟨eC,eR⟩:=aU tT lT xT;refine Jk 5 rfl ?_;refine AN (CT (CQ (Ao rfl ⟨rfl,AH ⟨0,.str x,rfl,(D4 (j:=0) rfl:L2.BA (List.map (fun y=>PV.str y) (x::rest)) ((0:Nat):Int)=_),?_⟩⟩)));refine AN (Fo (Dq Kd.P (fun _=>true) (fun k=>PV.int (if decide (k.w=x)=true then 1 else 0)) (CS (Bo (A4 rfl ⟨_,.inl ⟨rfl,ks,rfl,by omega,fun k _=>E7 rfl,fun k _ _=>?_,?_⟩⟩))) Kd.inj))
 ·exact W8 rfl (C3 (B3 (BF rfl ⟨rfl,AH ⟨_,_,rfl,rfl,A4 rfl ⟨rfl,_,rfl,rfl⟩⟩⟩)))
 rw [List.filter_eq_self.mpr fun _ _=>rfl,yW g r xw];refine AN (CT (AH ?_));obtain ⟨k,tN,ef,ep⟩:=g.ij xw;have h6:=(g.Ko x).1;have vM:∀ {y:Str},y∈M->HA (BO M) (M.map fun y=>.tup [.tup ((cnt ks r y).map .int),.int (Ct ks r y)]) (.inr y)=some (.tup [.tup ((cnt ks r y).map .int),.int (Ct ks r y)]):=fun {y} hy=>by
  have hi:=List.idxOf_lt_length_iff.mpr hy;exact Kc hy (by rw [Ac,AX hi,Hs hi];rfl)
 refine AN (Cy (Dh (fun xs i A9=>∃ (s9 DS:Slot),A9=[.is (.lst (ks.map Kd.P)),.is (.lst (cs.map .str)),.is (.str r),.own (L.map .str),.ow false (FZ ks r a M),.is (.lst (List.map (fun y=>PV.str y) (x::rest))),.is (.str x),.own ((FO ks r x (EK r ((ED ks x).take i))).map .int),.is (.int (HL ks r (EK r ((ED ks x).take i)))),s9,DS]) (CS (Bo (CQ (Am (AZ (Dq Kd.P (fun k=>decide (k.w=x)) (fun k=>PV.tup (k.ps.map BN)) (CS (Bo (A4 rfl ⟨_,.inl ⟨rfl,ks,rfl,by omega,fun k _=>?_,fun k _ _=>?_,?_⟩⟩))) Kd.inj))))))))
 ·exact B1 (C3 (B3 (BF rfl ⟨rfl,AH ⟨_,_,rfl,rfl,A4 rfl ⟨rfl,_,rfl,rfl⟩⟩⟩)))
 ·exact B3 (BF rfl ⟨rfl,AH ⟨_,_,rfl,rfl,rfl⟩⟩)
 rw [ef];refine ⟨_,.inl ⟨rfl,rfl,AH ⟨0,PV.tup (k.ps.map BN),rfl,(D4 (j:=0) rfl:L2.BA (List.map (fun k:Kd=>PV.tup (k.ps.map BN)) (k::tN)) ((0:Nat):Int)=_),?_⟩⟩⟩;rw [ep];have e0:EK r ((ED ks x).take 0)=[]:=by rw [Yb];unfold EK;split <;> rfl
 refine ⟨_,.inr ⟨rfl,⟨_,_,by rw [e0,ZA9];rfl⟩,?_,?_⟩⟩
 ·rintro i q A9 hq ⟨s9,DS,rfl⟩;rw [Ac] at hq;obtain ⟨p,dG,rfl⟩:=Option.map_eq_some_iff.mp hq;have pm:=C7 dG;have pw:=((g.Ko x).2 p pm).1;refine V5 ⟨_,_,rfl,?_⟩;have st:=mM r ((ED ks x).take i) p;rw [<- Ih dG] at st;generalize hQ:EK r ((ED ks x).take i)=Q at st ⊢;show Ws [.is (.lst (ks.map Kd.P)),.is (.lst (cs.map .str)),.is (.str r),.own (L.map .str),.ow false (FZ ks r a M),.is (.lst (List.map (fun y=>PV.str y) (x::rest))),.is (.str x),.own ((FO ks r x Q).map .int),.is (.int (HL ks r Q)),.is (.str p.1),.is (.str p.2)] _ _ _;have cond:∀ {K':ZE6}{ss:List Slot}{k:Bool->Prop},ss[2]?=some (.is (.str r))->ss[9]?=some (.is (.str p.1))->k (decide (r="all" ∨ (r="ahead" /\ p.1∈De)))->Wt ss (QZ (IZ (BX Rz (BI 2) (tC (.str "all")))) (QL (IZ (BX Rz (BI 2) (tC (.str "ahead")))) (IZ (BX (HN K' false) (BI 9) (Mw (Ap (tC (.str "next")) (Ap (tC (.str "last")) BV))))))) k:=fun {K' ss k} h2 h9 hk=>by
   refine ID (B1 (C3 (A4 h2 (Cg ⟨rfl,_,rfl,?_⟩))));show if decide (r="all")=true then _ else _
   by_cases c1:r="all"
   ·rw [jy c1];rw [jy (Or.inl c1)] at hk;exact CB rfl hk
   rw [nZ c1];refine Bg (by decide) (Qr (B1 (C3 (A4 h2 (Cg ⟨rfl,_,rfl,?_⟩)))));show if decide (r="ahead")=true then _ else _
   by_cases c2:r="ahead"
   ·rw [jy c2];refine CB rfl (B1 (GL (A4 h9 ⟨p.1,rfl,Am (C8 (Ah (Cg (Ah (Cg (BK ⟨by decide,_,.inr ⟨rfl,De,rfl,_,rfl,?_⟩⟩))))))⟩)));rw [show decide (r="all" ∨ (r="ahead" /\ p.1∈De))=decide (p.1∈De) from decide_eq_decide.mpr ⟨fun h=>(h.resolve_left c1).2,fun h=>.inr ⟨c2,h⟩⟩] at hk;exact hk
   ·rw [nZ c2];rw [nZ (fun h=>h.elim c1 fun z=>c2 z.1)] at hk;exact Bg (by decide) hk
  refine BP (cond rfl rfl ?_);rcases Classical.em (¬ (r="all" ∨ (r="ahead" /\ p.1∈De))) with hC | hC
  ·rw [nZ hC];rw [<- hQ] at st;have st:=kN hr hC st;rw [hQ] at st;rw [st];exact Bg (by decide) (BC ⟨_,_,rfl⟩)
  have hC:=Classical.not_not.mp hC;rw [jy hC];refine CB rfl ?_;rw [<- hQ] at st;have st:=xj hC st;rw [hQ] at st;have pc:p∈C1 ks r x:=by
   have r0:r ≠ "none" := by rcases hC with h | ⟨h,_⟩ <;> rw [h] <;> decide
   unfold C1;rw [k6 r0];refine List.mem_filter.mpr ⟨pm,?_⟩;rcases hC with h | ⟨_,h⟩
   ·rw [jy h,j7]
   ·rw [jy h,Bool.or_true]
  have pM:=xF p.2 (List.mem_map.mpr ⟨p,pc,rfl⟩);refine AN (Fo (VZ ?_));rw [show List.map DU _=[.is (.lst (ks.map Kd.P)),.is (.lst (cs.map .str)),.is (.str r),.is (.lst (L.map .str)),.is (FZ ks r a M).pv,.is (.lst (List.map (fun y=>PV.str y) (x::rest))),.is (.str x),.is (.lst ((FO ks r x Q).map .int)),.is (.int (HL ks r Q)),.is (.str p.1),.is (.str p.2)] from rfl,RK];refine XZ (fun _=>true) YD (dr (Bo (A4 rfl ⟨_,.inl ⟨rfl,Bo (B3 (Am (J9 (A4 rfl ⟨BO M,_,rfl,A4 rfl ⟨.inr p.2,_,rfl,vM pM,_,.inr ⟨rfl,rfl,AH ⟨_,_,rfl,rfl,_,.inr ⟨rfl,?_⟩⟩⟩⟩⟩))))⟩⟩)));refine ⟨by rw [RC,AA,AA,Pb];omega,fun z hz=>?_,?_⟩
  ·obtain ⟨p,q,hp,hq,rfl⟩:=rS hz;obtain ⟨a,_,rfl⟩:=List.mem_map.mp hp;obtain ⟨b,_,rfl⟩:=List.mem_map.mp hq;refine ⟨_,rfl,rfl,E7 rfl,fun _=>?_⟩
   walk_at "ww"
   rfl
  rw [List.filter_eq_self.mpr fun _ _=>rfl,tW];refine ⟨VM _,?_⟩;refine CT (dJ ?_);rw [show List.map DU _=[.is (.lst (ks.map Kd.P)),.is (.lst (cs.map .str)),.is (.str r),.is (.lst (L.map .str)),.is (FZ ks r a M).pv,.is (.lst (List.map (fun y=>PV.str y) (x::rest))),.is (.str x),.is (.lst ((FO ks r x (Q++[p])).map .int)),.is (.int (HL ks r Q)),.is (.str p.1),.is (.str p.2)] from rfl,RK];refine iL rfl (A4 rfl ⟨_,rfl,Gi (B3 (Am (J9 (A4 rfl ⟨BO M,_,rfl,A4 rfl ⟨.inr p.2,_,rfl,vM pM,_,.inr ⟨rfl,rfl,AH ⟨_,_,rfl,rfl,_,rfl,?_⟩⟩⟩⟩))))⟩);refine W8 rfl (GL (A4 rfl ⟨p.1,rfl,Am (C8 (Ah (Cg (Ah (Cg (BK ⟨by decide,_,.inr ⟨rfl,[("back":Str), "first"],rfl,_,rfl,_,rfl,_,rfl,rfl,.is (.str p.1),.is (.str p.2),?_⟩⟩))))))⟩))
  have e5:Ct ks r p.2+(if decide (p.1∈([("back":Str), "first"]))=true then 1 else 0)=GF (Ct ks r) p:=by
   have q:=uf pw;unfold GF
   by_cases c:p.1∈De
   ·rw [mZ c];rw [jy c] at q;rw [k6 (fun z=>by rw [z] at q;cases q)];omega
   ·rw [k6 c];rw [nZ c] at q;have q2:decide (p.1∈([("back":Str), "first"]))=true:=by
     cases e:decide (p.1∈([("back":Str), "first"])) with
     | true=>rfl
     | false=>rw [e] at q;cases q
    rw [mZ q2]
  rw [e5,st,ZA2];rfl
 ·rintro A9 ⟨s9,DS,rfl⟩;rw [AA,FQ,kr,ZBV,<- eC,zB,<- eR];have nM:x∉M:=dj x xL;refine AN (Oa (i:=4) (t:=FZ ks r a M) (Gg (C8 (Ah (Nl rfl (Po rfl (Ah (A4 rfl (BK ⟨by show 2<=100000;decide,?_⟩)))))))));refine Hh rfl ⟨false,a,BO M,_,rfl,rfl,by rw [AA,AA];omega,Nn Kf,Aa,A4 rfl ⟨.inr x,rfl,?_⟩⟩;rw [OV.HX,LQ nM,N8 nM];refine ZAf rfl (A4 rfl ⟨x,rfl,xL,?_⟩);rw [xv];have l1:=jI xL;have l2:=YU xL;refine ⟨(L.erase x).length,by omega,L.erase x,M++[x],.is (.lst (List.map (fun y=>PV.str y) (x::rest))),.is (.str x),.own ((cnt ks r x).map .int),.is (.int (Ct ks r x)),s9,DS,?_,Fq.erase _,Ig Kf nM,fun y=>?_,fun y hy=>?_,rfl⟩
  ·unfold FZ;rw [Be,Be];rfl
  ·rw [ZCg Fq,SO,jK,<- hR y];constructor
   ·rintro ((h | rfl) | h)
    ·exact .inl h
    ·exact .inr xL
    ·exact .inr h.2
   ·rintro (h | h)
    ·exact .inl (.inl h)
    ·by_cases c:y=x
     ·exact .inl (.inr c)
     ·exact .inr ⟨c,h⟩
  ·rw [ZCg Fq] at hy;intro z;rcases List.mem_append.mp z with h | h
   ·exact dj y hy.2 h
   ·exact hy.1 (List.mem_singleton.mp h)
def iV:BM ["kinds","crowd","rule","rows"] ["kinds","crowd","rule"] (Ad Qy):=by walk_at "z1"
noncomputable def qO:Scope:={ kind:=.function,names:=[(".0", .local),("row", .local),("rows", .free)],isGenerator:=false,isCoroutine:=false,more:=[] }
def ZAG:Cc ["kinds","crowd","rule","rows"] (Ad Qy) qO "row" ["rows"] [3]:=by walk_at "z2"
def ZL : ∀ ss R,Rq ss R->ss.length=3:=by rintro _ _ ⟨ks,cs,r,rfl,_,_,_,_,_,rfl⟩;rfl
def ya (F:AR K "_law_table" "_law_table" Qy f fd)(m:mg "_law_table"=some (.ref f)):
  AD P w K mg base "_law_table" 4 ["kinds","crowd","rule"] (AM Rq):=by
 refine AD.mk F (F.binds (by walk_at "bD3")) m (F.BR (k:=3) iV (fun vs H Q E h=>Fz.Br ZL h) (fun Ae A outer s H vs Q E hr h=>?_))
 refine ⟨_,(AE rfl (Af 3 iV.nd (AW Vy hr (A0 (qv 0) (A0 (qv 1) (A0 (qv 2) A5)))))
   (AG rfl (Aj (El rfl ZAG (Bv (qv 0)) (fun _ _ _ _=>by exact (Jw (QC (Dg hr) (AO (show Cz _ (Du K) from Ar) (qv 1) A6) (qv 0)))) (fun _ _ _ _=>by exact (Ab (show BD _ (binaryOp .Add) (VL K) from V4) (Bl (A0 (AO (show Cz _ (Du K) from Ar) (qv 1) A6) A5)) (JX (Dg hr) (qv 0) (AO (show Cz _ (Du K) from Ar) (qv 1) A6) (fun _ _=>rfl)))))))),?_⟩
 refine Fz.Bn h ZL ?_;rintro _ _ ⟨ks,cs,r,rfl,g,hr,hz,hc,nr,rfl⟩;show Ws [_,_,_,.any] _ _ _;have l8:=g.l8;refine AN (KY (dP (AF (A4 rfl (AF (A4 rfl (AF (A4 rfl (Aw ⟨_,⟨ks,cs,r,rfl,g,hr,hz,hc,nr,rfl⟩,?_⟩)))))))));rintro _ ⟨a,M,rfl,nd,hM⟩;show Ws [_,_,_,.ow false (FZ ks r a M)] _ _ _;refine WK 3 rfl ?_;rw [RK];show Ws [.is (.lst (ks.map Kd.P)),.is (.lst (cs.map .str)),.is (.str r),.is (XB ks r M)] _ _ _;refine Ik (Dq Kd.P (fun k=>decide (k.w∈M)) (fun k=>II ks r k.w) (CS (Bo (A4 rfl ⟨_,.inl ⟨rfl,ks,rfl,by omega,fun k _=>?_,fun k _ hk=>?_,M,?_,hM⟩⟩))) Kd.inj)
 ·refine G6 (VW (B3 (BF rfl ⟨rfl,AH ⟨_,_,rfl,rfl,A4 rfl ⟨BO M,_,.inr k.w,rfl,rfl,_,rfl,?_⟩⟩⟩)));rw [Kn]
 ·have km:k.w∈M:=k9 hk;have hi:=List.idxOf_lt_length_iff.mpr km;refine bO (C8 (Ah (B3 (BF rfl ⟨rfl,AH ⟨_,_,rfl,rfl,BK ⟨by show 1<=100000;decide,_,rfl,by simp,?_⟩⟩⟩))));refine J9 (A4 rfl ⟨BO M,_,rfl,B3 (BF rfl ⟨rfl,AH ⟨_,_,rfl,rfl,.inr k.w,.tup [.tup ((cnt ks r k.w).map .int),.int (Ct ks r k.w)],rfl,Kc km (by rw [Ac,AX hi,Hs hi];rfl),_,rfl,by show 1+2<=100000;decide,rfl⟩⟩)⟩)
 ·unfold G8;rw [show wk ks=ks.map Kd.w from rfl,jG,CU];rfl
def Xq:BM ["pot","kinds","crowd","rule","way","ring"] ["pot","kinds","crowd","rule"] (Ad Qp):=by walk_at "z1"
noncomputable def zb:Scope:={ kind:=.function,names:=[(".0", .local),("word", .local),("len", .globalImplicit),("kinds", .free)],isGenerator:=false,isCoroutine:=false,more:=[] }
def jc:Cc ["pot","kinds","crowd","rule","way","ring"] (Ad Qp) zb "word" ["kinds"] [1]:=by walk_at "z2"
def d3 : ∀ ss R,Wh ss R->ss.length=4:=by rintro _ _ ⟨ks,cs,r,rfl,_,_,_,_,rfl⟩;rfl
def ZBj (F:AR K "_law_some_ending" "_law_some_ending" Qp f fd)(m:mg "_law_some_ending"=some (.ref f)):
  AD P w K mg base "_law_some_ending" 5 ["pot","kinds","crowd","rule"] (AM Wh):=by
 refine AD.mk F (F.binds (by walk_at "bD4")) m (F.BR (k:=4) Xq (fun vs H Q E h=>Fz.Br d3 h) (fun Ae A outer s H vs Q E hr h=>?_))
 refine ⟨_,(AE rfl (B4 (K0 (AW Ll hr (A0 (qv 1) (A0 (qv 2) (A0 (qv 3) A5))))) (AE rfl (B4 (Al Bp (AW BS hr (A0 (qv 0) (A0 A6 A5))) A6) (AG rfl (Aj (Bl (A0 BJ (A0 (El rfl jc (Bv (Bm (yP rfl) Sf (A0 (Ea (dQ rfl) ML (A0 (qv 2) A5)) A5))) (fun _ _ _ _=>by exact E6) (fun _ _ _ _=>by exact (Bl (A0 (qv 1) (A0 (Ab (show BD _ (binaryOp .Mult) (SX K) from vY) (Bl (A0 A6 A5)) (Bm (show CJ _ (.builtin "len") (Oo K) from ER) Ax (A0 (qv 0) A5))) (A0 A6 A5)))))) A5))))) B6)
   (AE rfl (Rv (AW UA hr (A0 (qv 1) (A0 (qv 2) (A0 (qv 3) A5)))) (Na rfl (GG (C9 4 Xq.nd) (GG (C9 5 Xq.nd) Mn))))
   (AG rfl (Aj (Bl (A0 BJ (A0 (AW S7 hr (A0 (qv 0) (A0 (qv 1) (A0 (qv 4) A5)))) (A0 (AW S7 hr (A0 (qv 0) (A0 (qv 1) (A0 (qv 5) A5)))) A5)))))))) B6)
   (AE rfl (B4 (Al Bp (AW BS hr (A0 (qv 0) (A0 A6 A5))) A6) (AG rfl (Aj (Bl (A0 BJ (A0 (CK Cm (Ea Nq Cq (A0 (qv 2) A5)) C6 (CP A6)) (A0 (C2 (A0 (AO Ar (AO BZ (qv 1) A6) A6) A5)) A5)))))) B6)
   (AG rfl (Aj (Bl (A0 BJ (A0 (AW Ui hr (A0 (qv 0) (A0 (qv 1) (A0 (AW Lo hr (A0 (qv 1) (A0 (qv 2) (A0 (qv 3) A5)))) A5)))) A5))))))),?_⟩
 refine Fz.Bn h d3 ?_;rintro _ _ ⟨ks,cs,r,rfl,g,hr,hz,hc,rfl⟩;show Ws [_,_,_,_,.any,.any] _ _ _;have l1:=g.l1;have l8:=g.l8;refine AN (BP (G6 (wp_call (AF (A4 rfl (G3 (Ao rfl (AF (A4 rfl (Aw ⟨_,⟨ks,cs,r,rfl,g,hr,hz,hc,rfl⟩,?_⟩))))))))));rintro _ ⟨b,rfl,hb⟩;refine ⟨_,rfl,?_⟩;cases b with
 | true=>
  refine CB rfl ?_;refine AN (BP (B1 (C3 (FX rfl (AH ⟨_,rfl,by decide,by decide,fun q _ _=>AH ⟨rfl,_,rfl,BE (fun _=>?_) (fun _=>BC ?_)⟩⟩)))))
  ·refine BH (C8 (Ah (Cg (Ah (AZ (Dq PV.str (fun _=>true) (fun y=>Rw.P (y,List.replicate ks.length 1,1)) (CS (Bo (AZ (gj (Ao rfl ⟨cs,rfl,by omega,fun ts lt mt _=>?_⟩))))) (fun a b e=>by injection e)))))));have:=UZ cs;refine ⟨_,.inl ⟨rfl,ts,rfl,by omega,fun _ _=>E7 rfl,fun y _ _=>?_,?_⟩⟩
   ·refine C8 (Ah (A4 rfl (Ah (yF (C8 (Ah (AH (BK ⟨by show 1<=100000;decide,_,rfl,by simp,by show 1<=1000;decide,HZ (Ao rfl ⟨_,rfl,?_,?_,Ah (AH (BK ⟨by show 3<=100000;decide,?_⟩))⟩)⟩))))))))
    ·rw [AA];omega
    ·rw [AA];omega
    ·rw [AA,HF,qP];rfl
   ·rw [List.filter_eq_self.mpr fun _ _=>rfl];refine BK ⟨by show 2<=100000;decide,.ends (ts.map fun y=>(y,List.replicate ks.length 1,1)),?_,?_⟩
    ·show PV.tup [.str "ends", .lst _]=.tup [.str "ends", .lst (List.map Rw.P (List.map _ ts))];rw [CU];rfl
    ·show List.length _<=100;rw [AA];omega
  ·refine AN (Z0 (wp_call (AF (A4 rfl (AF (A4 rfl (AF (A4 rfl (Aw ⟨_,⟨ks,cs,r,rfl,g,hr,hz,hc,rfl⟩,?_⟩)))))))));rintro _ ⟨W,U,rfl,lW,lU⟩;refine V5 ⟨_,_,rfl,?_⟩;refine BH (C8 (Ah (Cg (Ah (Od rfl (AF (A4 rfl (AF (A4 rfl (Aw ⟨_,⟨ks,W,rfl,g,by omega,rfl⟩,?_⟩))))))))));rintro _ ⟨W',rfl,lW'⟩;refine Ah (Od rfl (AF (A4 rfl (AF (A4 rfl (Aw ⟨_,⟨ks,U,rfl,g,by omega,rfl⟩,?_⟩))))));rintro _ ⟨U',rfl,lU'⟩;exact BK ⟨by show 3<=100000;decide,.less W' U',rfl,by omega,by omega⟩
 | false=>
  have nr:¬ IV (AU ks r) cs:=fun z=>absurd (hb.mpr z) (by decide);refine Bg (by decide) (BC ?_);refine AN (BP (B1 (C3 (FX rfl (AH ⟨_,rfl,by decide,by decide,fun q _ _=>AH ⟨rfl,_,rfl,BE (fun _=>?_) (fun _=>BC ?_)⟩⟩)))))
  ·have k0:L2.BA (ks.map Kd.P) 0=some (ks[0]'(by omega)).P:=(D4 (j:=0) (by rw [Ac,AX (show 0<ks.length by omega)];rfl):L2.BA _ ((0:Nat):Int)=_);refine BH (C8 (Ah (Cg (Ah (AZ (FL (Am (AZ (MH rfl (Ao rfl ⟨_,.inl ⟨rfl,rfl,Dk (EJ (AH ⟨_,rfl,?_⟩))⟩⟩))))))))));refine Ah (AZ (D3 (Ah (B3 (Am (CQ (Ao rfl ⟨rfl,AH ⟨_,_,rfl,k0,_,.inr ⟨rfl,rfl,AH ⟨_,_,rfl,rfl,BK ⟨by show 1<=100000;decide,BK ⟨by show 3<=100000;decide,.less (Au cs none (some 1)) [(ks[0]'(by omega)).w],?_,?_,?_⟩⟩⟩⟩⟩⟩)))))))
   ·rw [Ew];rfl
   ·have:=Lc cs none (some 1);omega
   ·show 1<=200;decide
  ·refine BH (C8 (Ah (Cg (Ah (Od rfl (AF (A4 rfl (AF (AZ (E2 (AF (A4 rfl (AF (A4 rfl (AF (A4 rfl (Aw ⟨_,⟨ks,cs,r,rfl,g,hr,hz,hc,nr,rfl⟩,?_⟩)))))))))))))))));rintro _ ⟨M,rfl,hM⟩;obtain ⟨T,eT,lT,cT⟩:=ub ks r M;rw [eT];refine Aw ⟨_,⟨ks,T,rfl,g,by omega,fun w hw=>by rw [cT w hw];omega,rfl⟩,?_⟩;rintro _ ⟨T',rfl,lT'⟩;exact BK ⟨by show 2<=100000;decide,.ends T',rfl,by show _<=100;omega⟩
def u6:BM ["rule"] ["rule"] (Ad VJ):=by walk_at "z1"
def br : ∀ ss R,UP ss R->ss.length=1:=by rintro _ _ ⟨r,rfl,_,rfl⟩;rfl
def vC (F:AR K "check_rule" "check_rule" VJ f fd)(m:mg "check_rule"=some (.ref f)):
  AD P w K mg base "check_rule" 1 ["rule"] (AM UP):=by
 refine AD.mk F (F.binds (by walk_at "bD1")) m (F.BR (k:=0) u6 (fun vs H Q E h=>Fz.Br br h) (fun Ae A outer s H vs Q E hr h=>?_))
 refine ⟨_,(AG rfl (B4 (Al KU (qv 0) (Hx (v:=.ref JP) (by rfl) Uo rfl)) (AG rfl JO) B6)),?_⟩;refine Fz.Bn h br ?_;rintro _ _ ⟨r,rfl,hr,rfl⟩;have C:Fx K JP (CH.map .str):=Fx.of TM rfl rfl;show Ws [_] _ _ _;refine BP (B1 (PN (neg:=true) C (A4 rfl ⟨r,rfl,_,rfl,?_⟩)));rw [jy hr];exact Bg (by decide) (BC ⟨_,rfl,rfl⟩)
def pJ:BM ["self"] ["self"] (Ad Wc):=by walk_at "z1"
def dB:∀ ss R,(K3 A7) ss R->ss.length=1:=by rintro _ _ ⟨ks,rfl,_,rfl⟩;rfl
def ZAQ (F:AR K "words" "Errands.words" Wc f fd)(mt:Meth K A7 "words" f):
  HY P w K mg base A7 "words" 1 ["self"] (AM (K3 A7)):=by
 refine ⟨f,fd,F.BR (k:=0) pJ (fun vs H Q E h=>Fz.Br dB h) (fun Ae A outer s H vs Q E hr h=>?_),(F.binds (by walk_at "bD1")),mt,FA⟩
 refine ⟨_,(AG rfl (Aj (Ea (wY rfl) Cq (A0 (NO (qv 0)) A5)))),?_⟩;refine Fz.Bn h dB ?_;rintro _ _ ⟨ks,rfl,g,rfl⟩;show Ws [_] _ _ _;have l8:=g.l8;refine Ik (yJ (T6 (A4 rfl ⟨A7,GO,_,0,_,rfl,FA,GX,by decide +kernel,rfl,BO (wk ks),_,rfl,by unfold BO;rw [AA,AA];omega,lO _⟩)))
def cF:BM ["book","crowd","word"] ["book","crowd"] (Ad Sr):=by walk_at "z1"
def dv:∀ ss R,(XU A7) ss R->ss.length=2:=by rintro _ _ ⟨ks,tp,cs,rfl,_,_,_,rfl⟩;rfl
def ZAL (F:AR K "check_crowd" "check_crowd" Sr f fd)(m:mg "check_crowd"=some (.ref f)):
  AD P w K mg base "check_crowd" 2 ["book","crowd"] (AM (XU A7)):=by
 refine AD.mk F (F.binds (by walk_at "bD2")) m (F.BR (k:=1) cF (fun vs H Q E h=>Fz.Br dv h) (fun Ae A outer s H vs Q E hr h=>?_))
 refine ⟨_,(AE rfl (B4 (Al L3 (Bm ER Ax (A0 (qv 1) A5)) (Hx (v:=.int 12) (by rfl) Uk ⟨_,rfl⟩)) (AG rfl JO) B6)
   (AG rfl (DC Co rfl (Bv (qv 1)) (C9 2 cF.nd) (AG rfl (Dz (AW IB hr (A0 (NN FE hr (by decide) (qv 0)) (A0 (qv 2) A5)))))))),?_⟩
 refine Fz.Bn h dv ?_;rintro _ _ ⟨ks,tp,cs,rfl,g,hz,hc,rfl⟩;show Ws [_,_,.any] _ _ _;have l8:=g.l8
 walk_at "ww"
 rw [AA];refine Bg (fun c=>by have:=k9 c;omega) (BC ?_);refine Dh (fun _ i A9=>∃ (s2:Slot),A9=[.is (Bk A7 ks),.sq tp (cs.map .str),s2]) ?_
 walk_at "ww"
 refine ⟨⟨_,rfl⟩,?_,?_⟩
 ·rintro i p A9 hp ⟨s2,rfl⟩;rw [Ac] at hp;obtain ⟨c,ex,rfl⟩:=Option.map_eq_some_iff.mp hp;refine EI ?_;refine Km (wp_call (AF (AZ (Lg (A4 rfl ⟨GO,_,rfl,by decide +kernel,Aw ⟨_,⟨ks,rfl,g,rfl⟩,?_⟩⟩)))));rintro _ rfl;refine AF (A4 rfl (Aw ⟨_,⟨wk ks,_,c,rfl,.inl rfl,by rw [AA];omega,hc c (C7 ex),rfl⟩,?_⟩));rintro _ rfl;exact ⟨_,rfl⟩
 ·rintro A9 ⟨s2,rfl⟩;exact ⟨_,rfl,rfl⟩
def yn:BM ["self","word"] ["self","word"] (Ad Vr):=by walk_at "z1"
def iM:∀ ss R,(Wu A7) ss R->ss.length=2:=by rintro _ _ ⟨ks,x,rfl,_,_,rfl⟩;rfl
def ZBN (F:AR K "puts" "Errands.puts" Vr f fd)(mt:Meth K A7 "puts" f):
  HY P w K mg base A7 "puts" 2 ["self","word"] (AM (Wu A7)):=by
 refine ⟨f,fd,F.BR (k:=1) yn (fun vs H Q E h=>Fz.Br iM h) (fun Ae A outer s H vs Q E hr h=>?_),(F.binds (by walk_at "bD2")),mt,FA⟩
 refine ⟨_,(AE rfl (Dz (AW IB hr (A0 (NO (qv 0)) (A0 (qv 1) A5))))
   (AG rfl (Aj (Ea Nq Cq (A0 (JX (Dg hr) (NO (qv 0)) (qv 1) (fun _ _=>rfl)) A5))))),?_⟩
 refine Fz.Bn h iM ?_;rintro _ _ ⟨ks,x,rfl,g,hx,rfl⟩;show Ws [_,_] _ _ _;have l8:=g.l8;obtain ⟨k,ek,_,ep,_,_⟩:=g.at hx;refine AN (Km (wp_call (AF (T6 (A4 rfl ⟨A7,GO,_,0,_,rfl,FA,GX,by decide +kernel,rfl,AF (A4 rfl (Aw ⟨_,⟨wk ks,_,x,rfl,.inr ⟨_,rfl⟩,by rw [AA];omega,hx,rfl⟩,?_⟩))⟩)))));rintro _ rfl;refine Ik (MH rfl (Am (J9 (T6 (A4 rfl ⟨A7,GO,_,0,_,rfl,FA,GX,by decide +kernel,rfl,BO (wk ks),_,rfl,A4 rfl ⟨.inr x,_,rfl,Kc hx (by rw [Ac,ek];rfl),_,.inr ⟨rfl,?_⟩⟩⟩)))));rw [ep]
def xl:BM ["book","word","rule"] ["book","word","rule"] (Ad Rc):=by walk_at "z1"
noncomputable def sA:Scope:={ kind:=.function,names:=[(".0", .local),("put", .local),("WHERES_AHEAD", .globalImplicit),("rule", .free)],isGenerator:=false,isCoroutine:=false,more:=[] }
def v5:Cc ["book","word","rule"] (Ad Rc) sA "put" ["rule"] [2]:=by walk_at "z2"
def dU:∀ ss R,(KO A7) ss R->ss.length=3:=by rintro _ _ ⟨ks,x,r,rfl,_,_,_,rfl⟩;rfl
def zN (F:AR K "comers_of" "comers_of" Rc f fd)(m:mg "comers_of"=some (.ref f)):
  AD P w K mg base "comers_of" 3 ["book","word","rule"] (AM (KO A7)):=by
 refine AD.mk F (F.binds (by walk_at "bD3")) m (F.BR (k:=2) xl (fun vs H Q E h=>Fz.Br dU h) (fun Ae A outer s H vs Q E hr h=>?_))
 refine ⟨_,(AE rfl (B4 (Al Bp (qv 2) BJ) (AG rfl (Aj (C2 A5))) B6)
   (AG rfl (Aj (El rfl v5 (Bv (ZCO V8 hr (by decide) (qv 0) (A0 (qv 1) A5))) (fun _ _ _ _=>by exact (Jw (Iv (Al Bp (qv 0) BJ) (Iy (Al (show BD _ (compareOp .In) (HN K false) from En) (AO (show Cz _ (Du K) from Ar) (qv 1) A6) (Hx (v:=.ref Fh) (by rfl) MR rfl)))).pt)) (fun _ _ _ _=>by exact (qv 1)))))),?_⟩
 refine Fz.Bn h dU ?_;rintro _ _ ⟨ks,x,r,rfl,g,hx,hr,rfl⟩;have C:Fx K Fh (De.map .str):=Fx.of LU rfl rfl;show Ws [_,_,_] _ _ _;have h6:=(g.Ko x).1
 walk_at "ww"
 refine BE (fun c=>?_) (fun c=>BC ?_)
 ·have e:r="none" := k9 c
  walk_at "ww"
  refine ⟨by decide,?_⟩;unfold C1;rw [mZ e];rfl
 ·have e:¬ r="none" := fun z=>c (jy z);refine Ik (Dq BN (fun p=>decide (r="all") || decide (p.1∈De)) BN (CS (Bo (AZ (Lg (A4 rfl ⟨GO,_,rfl,by decide +kernel,AF (A4 rfl (Aw ⟨_,⟨ks,x,rfl,g,hx,rfl⟩,?_⟩))⟩))))) U5);rintro _ rfl;refine ⟨_,.inl ⟨rfl,ED ks x,rfl,by omega,fun p hp=>?_,fun p hp _=>A4 rfl rfl,?_⟩⟩
  ·refine ID (B1 (C3 (A4 rfl (Cg ⟨rfl,_,rfl,?_⟩))));show if decide (r="all")=true then _ else _
   refine BE (fun c2=>by rw [c2];rfl) (fun c2=>?_);refine B1 (PN (neg:=false) C (B3 (BF rfl ⟨rfl,AH ⟨_,_,rfl,rfl,p.1,rfl,_,rfl,?_⟩⟩)));rw [Bool.eq_false_iff.mpr c2];rfl
  ·unfold C1;rw [k6 e]
def ZBd:BM ["book","rule","one","other"] ["book","rule","one","other"] (Ad Ra):=by walk_at "z1"
noncomputable def qf:Scope:={ kind:=.function,names:=[(".0", .local),("put", .local)],isGenerator:=false,isCoroutine:=false,more:=[] }
def m6:Cc ["book","rule","one","other"] (Ad Ra) qf "put" [] []:=by walk_at "z2"
def eX:∀ ss R,(QF A7) ss R->ss.length=4:=by rintro _ _ ⟨ks,r,x,y,rfl,_,_,_,rfl⟩;rfl
def sG (F:AR K "comes_of" "comes_of" Ra f fd)(m:mg "comes_of"=some (.ref f)):
  AD P w K mg base "comes_of" 6 ["book","rule","one","other"] (AM (QF A7)):=by
 refine AD.mk F (F.binds (by walk_at "bD4")) m (F.BR (k:=5) ZBd (fun vs H Q E h=>Fz.Br eX h) (fun Ae A outer s H vs Q E hr h=>?_))
 refine ⟨_,(AG rfl (Aj (EG En (qv 3) (El rfl m6 (Bv (AW FW hr (A0 (qv 0) (A0 (qv 2) (A0 (qv 1) A5))))) (fun _ _ _ _=>by exact E6) (fun _ _ _ _=>by exact (AO (show Cz _ (Du K) from Ar) (qv 0) A6)))))),?_⟩;refine Fz.Bn h eX ?_;rintro _ _ ⟨ks,r,x,y,rfl,g,hr,hx,rfl⟩;show Ws [_,_,_,_] _ _ _;have h6:=Mb g r x;refine BH (GL (A4 rfl ⟨y,rfl,Am (AZ (Dq BN (fun _=>true) (fun p=>PV.str p.2) (CS (Bo (AZ (E2 (AF (A4 rfl (AF (A4 rfl (AF (A4 rfl (Aw ⟨_,⟨ks,x,r,rfl,g,hx,hr,rfl⟩,?_⟩))))))))))) uU))⟩));rintro _ rfl;refine ⟨_,.inl ⟨rfl,C1 ks r x,rfl,by unfold AU at h6;rw [AA] at h6;omega,fun p _=>E7 rfl,fun p _ _=>B3 (BF rfl ⟨rfl,AH ⟨_,_,rfl,rfl,rfl⟩⟩),?_⟩⟩;rw [List.filter_eq_self.mpr fun _ _=>rfl];exact ⟨_,.inl ⟨rfl,AU ks r x,by unfold AU;rw [CU];rfl,rfl⟩⟩
def zO:BM ["book","rule","chain"] ["book","rule","chain"] (Ad NL):=by walk_at "z1"
noncomputable def zZ:Scope:={ kind:=.function,names:=[(".0", .local),("word", .local),("book", .free)],isGenerator:=false,isCoroutine:=false,more:=[] }
def sW:Cc ["book","rule","chain"] (Ad NL) zZ "word" ["book"] [0]:=by walk_at "z2"
noncomputable def qX:Scope:={ kind:=.function,names:=[(".0", .local),("one", .local),("other", .local),("comes_of", .globalImplicit),("book", .free),("rule", .free)],isGenerator:=false,isCoroutine:=false,more:=[] }
def ua:Hl ["book","rule","chain"] (Ad NL) qX ["one","other"] ["book","rule"] [0,1]:=by walk_at "z3"
def hE:∀ ss R,(Q4 A7) ss R->ss.length=3:=by rintro _ _ ⟨ks,r,W,rfl,_,_,_,rfl⟩;rfl
def xk (F:AR K "is_chain" "is_chain" NL f fd)(m:mg "is_chain"=some (.ref f)):
  AD P w K mg base "is_chain" 7 ["book","rule","chain"] (AM (Q4 A7)):=by
 refine AD.mk F (F.binds (by walk_at "bD3")) m (F.BR (k:=6) zO (fun vs H Q E h=>Fz.Br hE h) (fun Ae A outer s H vs Q E hr h=>?_))
 refine ⟨_,(AE rfl (B4 (Iv (Al cE (Bm uY Ax (A0 (Ea (dQ rfl) ML (A0 (qv 2) A5)) A5)) (Bm ER Ax (A0 (qv 2) A5))) (Iy (Lp (K0 (Bm (Px rfl) Ho (A0 (El rfl sW (Bv (qv 2)) (fun _ _ _ _=>by exact E6) (fun _ _ _ _=>by exact (EG (show BD _ (compareOp .In) (HN K false) from En) (qv 1) (NN FE hr (by decide) (qv 0))))) A5)))))).pt (AG rfl (Aj Hf)) B6)
   (AG rfl (Aj (Bm (Px rfl) Ho (A0 (iH rfl ua (.cons (.cons .nil)) (fun _=>rfl) (fun _=>rfl) (Zd rfl MF (A0 (qv 2) (A0 (CK Cm (qv 2) (CP A6) C6) A5))) (fun _ _ _ _=>by exact E6) (fun _ _ _ _=>by exact (AW M6 hr (A0 (qv 0) (A0 (qv 1) (A0 (qv 2) (A0 (qv 3) A5))))))) A5))))),?_⟩
 refine Fz.Bn h hE ?_;rintro _ _ ⟨ks,r,W,rfl,g,hr,hz,rfl⟩;show Ws [_,_,_] _ _ _;have l8:=g.l8;refine AN (BP (ID (B1 (Tx (vO (Ao rfl ⟨W,rfl,by omega,HZ (Ao rfl ⟨rfl,_,rfl,?_⟩)⟩))))));rw [AA]
 by_cases nd:W.Nodup
 ·refine Bg (by rw [(fe W).mpr nd];simp [alike]) ?_;refine NV (G6 (QH rfl (Am (AZ (Dq PV.str (fun _=>true) (fun y=>PV.bl (decide (y∈wk ks))) (CS (Bo (A4 rfl ⟨_,.inl ⟨rfl,W,rfl,by omega,fun k _=>E7 rfl,fun y _ _=>?_,?_⟩⟩))) (fun a b e=>by injection e))))))
  ·refine GL (A4 rfl ⟨y,rfl,Am (AZ (Lg (A4 rfl ⟨GO,_,rfl,by decide +kernel,Aw ⟨_,⟨ks,rfl,g,rfl⟩,?_⟩⟩)))⟩);rintro _ rfl;exact ⟨_,.inl ⟨rfl,wk ks,rfl,rfl⟩⟩
  rw [List.filter_eq_self.mpr fun _ _=>rfl];refine ⟨_,.inl ⟨rfl,rfl,W.map fun y=>decide (y∈wk ks),by rw [CU];rfl,_,rfl,?_⟩⟩
  by_cases sub:∀ y∈W,y∈wk ks
  ·rw [(Yt (wk ks) W).mpr sub];refine Bg (by decide) (BC ?_);refine BH (QH rfl (Am (AZ (XZ (fun _=>true) (ZC1 ks r) (dr (Bo (A4 rfl ⟨_,.inl ⟨rfl,Bo (AZ (FL (Ao rfl ⟨rfl,EJ (AH ⟨_,rfl,Dk ⟨_,.inl ⟨rfl,?_⟩⟩⟩)⟩)))⟩⟩)))))));rw [Ew,show Au W (some 1) none=W.drop 1 from VP W 1,bQ];refine ⟨by rw [AA,SM];omega,fun z hz=>?_,?_⟩
   ·obtain ⟨p,hp,rfl⟩:=List.mem_map.mp hz;refine ⟨_,rfl,rfl,E7 rfl,fun _=>?_⟩;refine wp_call (AF (A4 rfl (AF (A4 rfl (AF (A4 rfl (AF (A4 rfl (Aw ⟨_,⟨ks,r,p.1,p.2,rfl,g,hr,sub p.1 (YX hp).1,rfl⟩,?_⟩)))))))));rintro _ rfl;rfl
   ·rw [List.filter_eq_self.mpr fun _ _=>rfl];refine ⟨_,.inl ⟨rfl,rfl,(W.zip (W.drop 1)).map fun p=>decide (p.2∈AU ks r p.1),by rw [CU,CU];rfl,?_⟩⟩;exact MK (ZAt (AU ks r) W) ⟨fun h=>⟨nd,sub,h⟩,fun h=>h.2.2⟩
  ·have e:(W.map fun y=>decide (y∈wk ks)).all id=false:=by
    cases e:(W.map fun y=>decide (y∈wk ks)).all id with
    | false=>rfl
    | true=>exact absurd ((Yt (wk ks) W).mp e) sub
   rw [e];exact CB rfl (BH (GJ (EC fun z=>sub z.2.1)))
 ·have e:(L2.dd W).length≠W.length:=fun z=>nd ((fe W).mp z);refine CB (by simp [alike];omega) (CB rfl (BH (GJ (EC fun z=>nd z.1))))
def ZBW:BM ["book","rule","ring"] ["book","rule","ring"] (Ad Va):=by walk_at "z1"
def eE:∀ ss R,(T8 A7) ss R->ss.length=3:=by rintro _ _ ⟨ks,r,W,rfl,_,_,_,rfl⟩;rfl
def ko (F:AR K "is_ring" "is_ring" Va f fd)(m:mg "is_ring"=some (.ref f)):
  AD P w K mg base "is_ring" 8 ["book","rule","ring"] (AM (T8 A7)):=by
 refine AD.mk F (F.binds (by walk_at "bD3")) m (F.BR (k:=7) ZBW (fun vs H Q E h=>Fz.Br eE h) (fun Ae A outer s H vs Q E hr h=>?_))
 refine ⟨_,(AG rfl (Aj (GW (EG L3 (Bm ER Ax (A0 (qv 2) A5)) A6) (GW (AW Lq hr (A0 (qv 0) (A0 (qv 1) (A0 (qv 2) A5)))) (KI (AW M6 hr (A0 (qv 0) (A0 (qv 1) (A0 (AO BZ (qv 2) (Gu HC A6)) (A0 (AO BZ (qv 2) A6) A5)))))))))),?_⟩;refine Fz.Bn h eE ?_;rintro _ _ ⟨ks,r,W,rfl,g,hr,hz,rfl⟩;show Ws [_,_,_] _ _ _;refine BH (Gb ?_)
 walk_at "ww"
 rw [AA];refine BE (fun c=>?_) (fun c=>EC fun ⟨y,z,h0,_⟩=>c (jy (by have:=(List.getElem?_eq_some_iff.mp h0).1;omega)));have h0:0<W.length:=by have:=k9 c;omega
 obtain ⟨y,z,ey,ez⟩:=Q5 h0;refine Gb (wp_call (AF (A4 rfl (AF (A4 rfl (AF (A4 rfl (Aw ⟨_,⟨ks,r,W,rfl,g,hr,hz,rfl⟩,?_⟩))))))));rintro _ ⟨b,rfl,hb⟩;refine ⟨_,rfl,?_⟩;have e0:L2.BA (W.map PV.str) 0=some (.str y):=(D4 (j:=0) (by rw [Ac,ey];rfl):L2.BA _ ((0:Nat):Int)=_);have el:L2.BA (W.map PV.str) (-1)=some (.str z):=M5 ez;have key:X5 (AU ks r) (wk ks) W↔K2 (AU ks r) (wk ks) W/\y∈AU ks r z:=by
  constructor
  ·rintro ⟨y',z',e1,e2,h1,h2⟩;rw [ey] at e1;cases e1;rw [ez] at e2;cases e2;exact ⟨h1,h2⟩
  ·rintro ⟨h1,h2⟩;exact ⟨y,z,ey,ez,h1,h2⟩
 cases b with
 | false=>exact Bg (by decide) (EC fun q=>absurd (hb.mpr (key.mp q).1) (by decide))
 | true=>
  have ch:=hb.mp rfl;refine CB rfl (wp_call (AF (A4 rfl (AF (A4 rfl (AF (CQ (Ao rfl ⟨rfl,HU (AH ⟨_,rfl,_,_,rfl,el,AF (CQ (Ao rfl ⟨rfl,AH ⟨_,_,rfl,e0,Aw ⟨_,⟨ks,r,z,y,rfl,g,hr,ch.2.1 z (C7 ez),rfl⟩,?_⟩⟩⟩))⟩)⟩))))))));rintro _ rfl;exact MK (P:=y∈AU ks r z) rO ⟨fun h=>key.mpr ⟨ch,h⟩,fun h=>(key.mp h).2⟩
def u9:BM ["book","crowd","rule","way","end"] ["book","crowd","rule","way","end"] (Ad Vt):=by walk_at "z1"
def fv:∀ ss R,(Vm A7) ss R->ss.length=5:=by rintro _ _ ⟨ks,cs,r,W,e,rfl,_,_,_,rfl⟩;rfl
def t5 (F:AR K "is_way" "is_way" Vt f fd)(m:mg "is_way"=some (.ref f)):
  AD P w K mg base "is_way" 8 ["book","crowd","rule","way","end"] (AM (Vm A7)):=by
 refine AD.mk F (F.binds (by walk_at "bD5")) m (F.BR (k:=7) u9 (fun vs H Q E h=>Fz.Br fv h) (fun Ae A outer s H vs Q E hr h=>?_))
 refine ⟨_,(AG rfl (Aj (GW (EG L3 (Bm ER Ax (A0 (qv 3) A5)) A6) (GW (EG En (AO BZ (qv 3) A6) (qv 1)) (GW (EG Bp (AO BZ (qv 3) (Gu HC A6)) (qv 4)) (KI (AW Lq hr (A0 (qv 0) (A0 (qv 2) (A0 (qv 3) A5)))))))))),?_⟩;refine Fz.Bn h fv ?_;rintro _ _ ⟨ks,cs,r,W,e,rfl,g,hr,hz,rfl⟩;show Ws [_,_,_,_,_] _ _ _;refine BH (Gb ?_)
 walk_at "ww"
 rw [AA];refine BE (fun c=>?_) (fun c=>EC fun ⟨y,h0,_⟩=>c (jy (by have:=(List.getElem?_eq_some_iff.mp h0).1;omega)));have h0:0<W.length:=by have:=k9 c;omega
 obtain ⟨y,z,ey,ez⟩:=Q5 h0;have e0:L2.BA (W.map PV.str) 0=some (.str y):=(D4 (j:=0) (by rw [Ac,ey];rfl):L2.BA _ ((0:Nat):Int)=_);have el:L2.BA (W.map PV.str) (-1)=some (.str z):=M5 ez;have key:XD (AU ks r) (wk ks) cs W e↔y∈cs/\z=e/\K2 (AU ks r) (wk ks) W:=by
  constructor
  ·rintro ⟨y',e1,h1,e2,h2⟩;rw [ey] at e1;cases e1;rw [ez] at e2;cases e2;exact ⟨h1,rfl,h2⟩
  ·rintro ⟨h1,rfl,h2⟩;exact ⟨y,ey,h1,ez,h2⟩
 refine Gb (GL (CQ (Ao rfl ⟨rfl,AH ⟨_,_,rfl,e0,y,rfl,JG rfl ⟨cs,rfl,_,rfl,?_⟩⟩⟩)));refine BE (fun c=>?_) (fun c=>EC fun q=>c (jy (key.mp q).1));have yc:=k9 c;refine Gb (C3 (CQ (Ao rfl ⟨rfl,HU (AH ⟨_,rfl,_,_,rfl,el,A4 rfl ⟨rfl,_,rfl,?_⟩⟩)⟩)));refine BE (fun c=>?_) (fun c=>EC fun q=>c (jy (key.mp q).2.1));have ze:z=e:=k9 c;refine wp_call (AF (A4 rfl (AF (A4 rfl (AF (A4 rfl (Aw ⟨_,⟨ks,r,W,rfl,g,hr,hz,rfl⟩,?_⟩)))))));rintro _ ⟨b,rfl,hb⟩;exact MK hb ⟨fun h=>key.mpr ⟨yc,ze,h⟩,fun h=>(key.mp h).2.2⟩
def N1:BM ["book","rule","way","settled","put","first","found"] ["book","rule","way","settled"] (Ad Qt):=by walk_at "z1"
def Z3:∀ ss R,(Kk A7 n) ss R->ss.length=4:=by rintro _ _ ⟨ks,r,V,x,L,a,rfl,_,_,_,_,_,_,_,_,_,_,rfl⟩;rfl
def zP (n:Nat)(F:AR K "ring_along" "ring_along" Qt f fd)(m:mg "ring_along"=some (.ref f))(NJ:AD P w K mg base "ring_along" (4+n) ["book","rule","way","settled"] (Dl (Kk A7 (n)))):
  AD P w K mg base "ring_along" (4+n+1) ["book","rule","way","settled"] (Dl (Kk A7 (n+1))):=by
 refine AD.mk F (F.binds (by walk_at "bD4")) m (F.BR (k:=4+n) N1 (fun vs H Q E h=>Fz.WI Z3 h) (fun Ae A outer s H vs Q E hr h=>?_))
 refine ⟨_,(AE rfl (B4 (QC (Dg hr) (AO BZ (qv 2) (Gu HC A6)) (qv 3)) (AG rfl (Aj MY)) B6)
   (AE rfl (C0 (DC Co rfl (Bv (AW (hk:=by omega) FW hr (A0 (qv 0) (A0 (AO BZ (qv 2) (Gu HC A6)) (A0 (qv 1) A5))))) (C9 4 N1.nd) (AE rfl (B4 (Al En (AO Ar (qv 4) A6) (qv 2)) (AE rfl (Af 5 N1.nd (HK HI jW ZDE cN (qv 2) (A0 (AO Ar (qv 4) A6) A5)))
   (AG rfl (Aj (Bl (A0 (CK Cm (qv 2) C6 (CP (Ab DB (qv 5) A6))) (A0 (CK Cm (qv 2) (CP (qv 5)) C6) A5)))))) B6)
   (AE rfl (Af 6 N1.nd (AW (hk:=by omega) NJ hr (A0 (qv 0) (A0 (qv 1) (A0 (Ab Dt (qv 2) (C2 (A0 (AO Ar (qv 4) A6) A5))) (A0 (qv 3) A5))))))
   (AG rfl (B4 (Al aB (qv 6) MY) (AG rfl (Aj (qv 6))) B6))))))
   (AE rfl (Nj (Dg hr) (qv 3) (AO BZ (qv 2) (Gu HC A6)) Hf)
   (AG rfl (Aj MY))))),?_⟩
 refine Fz.uM h Z3 ?_;rintro _ _ ⟨ks,r,V,x,L,a,rfl,g,hr,h9,nd,sub,ch,vL,tL,Fq,sL,rfl⟩;show Ws [_,_,_,_,.any,.any,.any] _ _ _;have l8:=g.l8;have xw:x∈wk ks:=sub x (by simp);have lW:(V++[x]).length<=8:=by
  have:=EY nd sub;rw [AA] at this;omega
 have lst:∀ {ss:List Slot}{k:PV->Prop},ss[2]?=some (.is (.lst ((V++[x]).map .str)))->k (.str x)->Wp ss (BX (MB K) (BI 2) (PF (rU fun i=>.int (-i)) (tC (.int 1)))) k:=fun h hk=>CQ (Ao h ⟨rfl,HU (AH ⟨_,rfl,_,_,rfl,Yw V x,hk⟩)⟩);refine AN (BP (G6 (e6 (lst rfl (Hh (i:=3) rfl ⟨BO L,a,_,.inr x,rfl,rfl,_,rfl,?_⟩)))));rw [Kn];refine BE (fun c=>?_) (fun c=>BC ?_)
 ·exact QQ (i:=3) rfl (Hm ⟨L,rfl,.inl ⟨rfl,tL,Fq,sL,fun y h=>h,vL,k9 c⟩⟩)
 have hx:x∉L:=fun z=>c (jy z);refine AN (Cy (Dh (fun xs i A9=>∃ (L':List Str) (s4 s5 s6:Slot),A9=[.is (Bk A7 ks),.is (.str r),.is (.lst ((V++[x]).map .str)),.ow true (LZ a L'),s4,s5,s6]/\Top (AU ks r) L'/\L'.Nodup/\(∀ y∈L',y∈wk ks)/\(∀ y∈L,y∈L')/\(∀ y∈V++[x],y∉L')/\∀ p∈(C1 ks r x).take i,p.2∈L') (CS (Bo (AZ (E2 (AF (A4 rfl (AF (lst rfl (AF (A4 rfl (Aw ⟨_,⟨ks,x,r,rfl,g,xw,hr,rfl⟩,?_⟩)))))))))))));rintro _ rfl;refine ⟨_,.inl ⟨rfl,⟨L,_,_,_,rfl,tL,Fq,sL,fun y h=>h,fun y hy=>?_,fun p hp=>absurd hp (by simp)⟩,?_,?_⟩⟩
 ·rcases List.mem_append.mp hy with h | h
  ·exact vL y h
  ·rw [List.mem_singleton.mp h];exact hx
 ·rintro i q A9 hq ⟨L',s4,s5,s6,rfl,Ke,Ey,Jd,MN,nV,D6⟩;rw [Ac] at hq;obtain ⟨p,ep,rfl⟩:=Option.map_eq_some_iff.mp hq;have pm:=C7 ep;have pn:p.2∈AU ks r x:=List.mem_map.mpr ⟨p,pm,rfl⟩;refine EI ?_;refine AN (BP (B1 (GL (B3 (BF rfl ⟨rfl,AH ⟨_,_,rfl,rfl,p.2,rfl,Ao rfl ⟨V++[x],rfl,_,rfl,?_⟩⟩⟩)))));refine BE (fun c=>?_) (fun c=>BC ?_)
  ·have hp:=k9 c;have hi:=List.idxOf_lt_length_iff.mpr hp;refine AN (CT (TX (Ao rfl ⟨rfl,V++[x],rfl,B3 (BF rfl ⟨rfl,AH ⟨_,_,rfl,rfl,p.2,rfl,hp,?_⟩⟩)⟩)));refine QQ (i:=3) rfl (C8 (Ah (AZ (FL (Ao rfl ⟨rfl,Dk (EJ (Gi (A4 rfl ⟨_,rfl,AH ⟨_,rfl,_,rfl,?_⟩⟩)))⟩)))));refine Ah (AZ (FL (Ao rfl ⟨rfl,EJ (A4 rfl ⟨_,rfl,Dk (BK ⟨by show 2<=100000;decide,L',rfl,.inr ⟨V++[x],(V++[x]).idxOf p.2,?_,List.prefix_refl _,nd,ch,sub,p.2,x,?_,?_,pn⟩⟩)⟩)⟩)))
   ·rw [Ew,Ew];unfold X9;rw [show Au (V++[x]) none (some (((V++[x]).idxOf p.2:Nat)+1:Int))=(V++[x]).take ((V++[x]).idxOf p.2+1) from dy (V++[x]) _,show Au (V++[x]) (some (((V++[x]).idxOf p.2:Nat):Int)) none=(V++[x]).drop ((V++[x]).idxOf p.2) from VP (V++[x]) _]
   ·rw [AX hi,Hs hi]
   ·simp
  ·have hp:p.2∉V++[x]:=fun z=>c (jy z);refine AN (Z4 (i:=3) (QD rfl (G7 (A4 rfl (G7 (A4 rfl (G7 (AZ (E8 (Ao rfl ⟨rfl,Am (AZ (D3 (Ah (B3 (BF rfl ⟨rfl,AH ⟨_,_,rfl,rfl,BK ⟨by show 1<=100000;decide,?_⟩⟩⟩)))))⟩))))))))));refine ⟨_,.inl ⟨rfl,rfl,by rw [AA];show _+1<=_;omega,Pn rfl (Nr ⟨_,⟨ks,r,V++[x],p.2,L',a,by rw [Be (l₁:=V++[x])];rfl,g,hr,by rw [B2,GS];omega,Ig nd hp,fun y hy=>?_,ch.snoc pn,nV,Ke,Ey,Jd,rfl⟩,?_⟩)⟩⟩
   ·rcases List.mem_append.mp hy with h | h
    ·exact sub y h
    ·rw [List.mem_singleton.mp h];exact g.OZ pn
   rintro q t' ⟨L2,rfl,hq⟩;refine ⟨_,_,rfl,?_⟩;rcases hq with ⟨rfl,YE,FD,Xf,J2,Ym,p2⟩ | ⟨W,j,rfl,pre,rg⟩
   ·refine BP (B1 (Pa (A4 rfl (Hm ⟨rfl,_,rfl,Bg (by decide) (BC ⟨L2,_,_,_,rfl,YE,FD,Xf,fun y h=>J2 y (MN y h),Ym,fun z hz=>?_⟩)⟩))));rw [Ih ep] at hz;rcases List.mem_append.mp hz with h | h
    ·exact J2 _ (D6 z h)
    ·rw [List.mem_singleton.mp h];exact p2
   ·refine BP (B1 (Pa (A4 rfl (Hm ⟨rfl,_,rfl,CB rfl ?_⟩))));exact QQ (i:=3) rfl (A4 rfl ⟨L2,rfl,.inr ⟨W,j,rfl,(List.prefix_append _ _).trans pre,rg⟩⟩)
 ·rintro A9 ⟨L',s4,s5,s6,rfl,Ke,Ey,Jd,MN,nV,D6⟩;rw [AA,FQ] at D6;have IW:x∉L':=nV x (by simp);have l3:=EY Ey Jd;rw [AA] at l3;refine AN (Oa (i:=3) (Gg (GJ (Hh rfl ⟨true,a,BO L',_,rfl,rfl,by rw [AA];omega,Nn Ey,Aa,lst rfl ⟨.inr x,rfl,?_⟩⟩))));rw [OV.HX,LQ IW,N8 IW];refine QQ (i:=3) rfl (Hm ⟨L'++[x],?_,.inl ⟨rfl,Ke.snoc fun y hy=>?_,Ig Ey IW,fun y hy=>?_,fun y hy=>by simp [MN y hy],fun y hy m=>?_,by simp⟩⟩)
  ·unfold LZ;rw [Be];rfl
  ·obtain ⟨p,hp,rfl⟩:=List.mem_map.mp hy;exact D6 p hp
  ·rcases List.mem_append.mp hy with h | h
   ·exact Jd y h
   ·rw [List.mem_singleton.mp h];exact xw
  ·rcases List.mem_append.mp m with h | h
   ·exact nV y (by simp [hy]) h
   ·rw [List.mem_singleton.mp h] at hy;exact (List.nodup_append.mp nd).2.2 x hy x (by simp) rfl
def zM (F:AR K "ring_along" "ring_along" Qt f fd)(m:mg "ring_along"=some (.ref f)):AD P w K mg base "ring_along" 13 ["book","rule","way","settled"] (Dl (Kk A7 9)):=by
 have z:∀ n:Nat,AD P w K mg base "ring_along" (4+n) ["book","rule","way","settled"] (Dl (Kk A7 (n))):=fun n=>by
  induction n with
  | zero=>exact AD.mk F (F.binds (by walk_at "bD4")) m (F.BR (k:=3) N1 (fun vs H Q E h=>(Fz.Pt (iw) h).elim) (fun Ae A outer s H vs Q E hr h=>(Fz.Pt (iw) h).elim))
  | succ n ih=>exact zP (A7:=A7) FW n F m ih
 exact z 9
def Q0:BM ["book","crowd","rule","settled","word","found"] ["book","crowd","rule"] (Ad Wb):=by walk_at "z1"
def ie:∀ ss R,(U0 A7) ss R->ss.length=3:=by rintro _ _ ⟨ks,tp,cs,r,rfl,_,_,_,_,rfl⟩;rfl
def xN (F:AR K "way_and_ring" "way_and_ring" Wb f fd)(m:mg "way_and_ring"=some (.ref f))(NJ:AD P w K mg base "ring_along" 13 ["book","rule","way","settled"] (Dl (Kk A7 9))):
  AD P w K mg base "way_and_ring" 14 ["book","crowd","rule"] (AM (U0 A7)):=by
 refine AD.mk F (F.binds (by walk_at "bD3")) m (F.BR (k:=13) Q0 (fun vs H Q E h=>Fz.Br ie h) (fun Ae A outer s H vs Q E hr h=>?_))
 refine ⟨_,(AE rfl (Af 3 Q0.nd Ob)
   (AE rfl (C0 (DC Co rfl (Bv (qv 1)) (C9 4 Q0.nd) (AE rfl (Af 5 Q0.nd (AW NJ hr (A0 (qv 0) (A0 (qv 2) (A0 (C2 (A0 (qv 4) A5)) (A0 (qv 3) A5))))))
   (AG rfl (B4 (Al aB (qv 5) MY) (AG rfl (Aj (qv 5))) B6)))))
   (AG rfl (Aj MY)))),?_⟩
 refine Fz.Bn h ie ?_;rintro _ _ ⟨ks,tp,cs,r,rfl,g,hr,hz,hc,rfl⟩;show Ws [_,_,_,.any,.any,.any] _ _ _;refine AN (KY (Nc fun a=>?_));show Ws [_,_,_,.ow false (LZ a []),.any,.any] _ _ _;refine AN (Cy (Dh (fun xs i A9=>∃ (L':List Str) (s4 s5:Slot),A9=[.is (Bk A7 ks),.sq tp (cs.map .str),.is (.str r),.ow false (LZ a L'),s4,s5]/\Top (AU ks r) L'/\L'.Nodup/\(∀ y∈L',y∈wk ks)/\∀ y∈cs.take i,y∈L') ?_))
 walk_at "ww"
 refine ⟨⟨[],_,_,rfl,Top.nil,HH,fun y hy=>absurd hy Aa,fun y hy=>absurd hy (by simp)⟩,?_,?_⟩
 ·rintro i q A9 hq ⟨L',s4,s5,rfl,Ke,Ey,Jd,D6⟩;rw [Ac] at hq;obtain ⟨c,ec,rfl⟩:=Option.map_eq_some_iff.mp hq;have cm:=C7 ec;refine EI ?_;refine AN (Z4 (i:=3) (QD rfl (G7 (A4 rfl (G7 (A4 rfl (G7 (AZ (D3 (Ah (A4 rfl (BK ⟨by show 1<=100000;decide,?_⟩))))))))))));refine Pn rfl (Nr ⟨_,⟨ks,r,[],c,L',a,rfl,g,hr,by decide,by simp,fun y hy=>?_,GP.one c,fun y hy=>absurd hy Aa,Ke,Ey,Jd,rfl⟩,?_⟩)
  ·rw [J3,jK] at hy;rw [hy];exact hc c cm
  rintro q t' ⟨L2,rfl,hq⟩;refine ⟨_,_,rfl,?_⟩;rcases hq with ⟨rfl,YE,FD,Xf,J2,Ym,p2⟩ | ⟨W,j,rfl,pre,rg⟩
  ·refine BP (B1 (Pa (A4 rfl (Hm ⟨rfl,_,rfl,Bg (by decide) (BC ⟨L2,_,_,rfl,YE,FD,Xf,fun z hz=>?_⟩)⟩))));rw [Ih ec] at hz;rcases List.mem_append.mp hz with h | h
   ·exact J2 _ (D6 z h)
   ·rw [List.mem_singleton.mp h];exact p2
  ·refine BP (B1 (Pa (A4 rfl (Hm ⟨rfl,_,rfl,CB rfl ?_⟩))));obtain ⟨W2,eW⟩:=pre;refine BH (A4 rfl (.inr ⟨W,j,c,rfl,rg,?_,cm⟩));rw [<- eW];rfl
 ·rintro A9 ⟨L',s4,s5,rfl,Ke,Ey,Jd,D6⟩;rw [AA,FQ] at D6;exact BH (Hm (.inl ⟨rfl,L',Ke,Ey,Jd,D6⟩))
def u4:BM ["many","length"] ["many","length"] (Ad R7):=by walk_at "z1"
noncomputable def sy:Scope:={ kind:=.function,names:=[(".0", .local),("number", .cell),("sum", .globalImplicit),("many", .free)],isGenerator:=false,isCoroutine:=false,more:=[] }
noncomputable def mz:Scope:={ kind:=.function,names:=[(".0", .local),("counts", .local),("number", .free)],isGenerator:=false,isCoroutine:=false,more:=[] }
def lg:RO ["many","length"] (Ad R7) sy "number" ["many"] [0]:=⟨rfl,by decide +kernel,rfl,by decide +kernel,fun _ _=>rfl,fun _=>rfl,rfl,by decide +kernel,by decide +kernel,by decide +kernel,by decide +kernel⟩
noncomputable def yx:Scope:={ kind:=.function,names:=[(".0", .local),("number", .cell),("sum", .globalImplicit),("many", .cell)],isGenerator:=false,isCoroutine:=false,more:=[] }
def ZAA:Cc ["many","number"] yx mz "counts" ["number"] [1]:=by walk_at "z2"
def b8 : ∀ ss R,Qm ss R->ss.length=2:=by rintro _ _ ⟨cs,n,rfl,_,_,_,rfl⟩;rfl
def zT (F:AR K "sums_of" "sums_of" R7 f fd)(m:mg "sums_of"=some (.ref f)):
  AD P w K mg base "sums_of" 1 ["many","length"] (AM Qm):=by
 refine AD.mk F (F.binds (by walk_at "bD2")) m (F.BR (k:=0) u4 (fun vs H Q E h=>Fz.Br b8 h) (fun Ae A outer s H vs Q E hr h=>?_))
 refine ⟨_,(AG rfl (Aj (uv rfl lg (Kh rfl DV (A0 (qv 1) A5)) (fun _ _ _ _=>by exact E6) (fun _ _ _ _=>by exact (Bm (show CJ _ (.builtin "sum") (To K) from ZAd rfl) Sk (A0 (El rfl ZAA (show QI _ _ _ (O8 K _) from Bv (qv 0)) (fun _ _ _ _=>by exact E6) (fun _ _ _ _=>by exact (AO (show Cz _ (Du K) from Ar) (qv 1) (qv 0)))) A5)))))),?_⟩;refine Fz.Bn h b8 ?_;rintro _ _ ⟨cs,n,rfl,hn,hc,hl,rfl⟩;show Ws [_,_] _ _ _;refine Ik (Dq (fun k:Nat=>PV.int (k:Int)) (fun _=>true) (fun j=>PV.int (cs.map fun c=>c.getD j 0).sum) (iB (A4 rfl ⟨_,rfl,by omega,by omega,List.range n,by rw [HF];rfl,by rw [LK];omega,fun k _=>E7 rfl,fun k hk _=>?_,?_⟩)) (fun a b e=>by injection e with e;omega))
 ·have hk:=List.mem_range.mp hk;refine jz (Am (AZ (Dq (fun c:List Int=>PV.tup (c.map .int)) (fun _=>true) (fun c=>PV.int (c.getD k 0)) (CS (Bo (A4 rfl ⟨_,.inl ⟨rfl,cs,rfl,by omega,fun c _=>E7 rfl,fun c du _=>?_,?_⟩⟩))) (fun a b e=>by injection e with e;exact dR e))))
  ·refine B3 (BF rfl ⟨rfl,A4 rfl ⟨_,_,rfl,D4 (by rw [Ac,AX (show k<c.length by have:=hl c du;omega)];rfl),?_⟩⟩);rw [Jo,AX (show k<c.length by have:=hl c du;omega)];rfl
  ·rw [List.filter_eq_self.mpr fun _ _=>rfl];exact ⟨_,.inl ⟨rfl,rfl,cs.map fun c=>c.getD k 0,by rw [CU];rfl,rfl⟩⟩
 ·rw [List.filter_eq_self.mpr fun _ _=>rfl,CU];rfl
def iJ:BM ["put","known","rounds"] ["put","known"] (Ad W0):=by walk_at "z1"
def Zm : ∀ ss R,Qo ss R->ss.length=2:=by rintro _ _ ⟨ks,r,M,p,rfl,_,rfl⟩;rfl
def ZCG (F:AR K "rounds_to" "rounds_to" W0 f fd)(m:mg "rounds_to"=some (.ref f)):
  AD P w K mg base "rounds_to" 1 ["put","known"] (AM Qo):=by
 refine AD.mk F (F.binds (by walk_at "bD2")) m (F.BR (k:=0) iJ (fun vs H Q E h=>Fz.Br Zm h) (fun Ae A outer s H vs Q E hr h=>?_))
 refine ⟨_,(AE rfl (Af 2 iJ.nd (AO Ar (JX (Dg hr) (qv 1) (AO Ar (qv 0) A6) (fun _ _=>rfl)) A6))
   (AE rfl (B4 (Al En (AO Ar (qv 0) A6) (Hx (v:=.ref Fh) (by rfl) MR rfl)) (AG rfl (Aj (qv 2))) B6)
   (AG rfl (Aj (Ab DB (qv 2) A6))))),?_⟩
 refine Fz.Bn h Zm ?_;rintro _ _ ⟨ks,r,M,p,rfl,hp,rfl⟩;have C:Fx K Fh (De.map .str):=Fx.of LU rfl rfl;show Ws [_,_,.any] _ _ _;have hi:=List.idxOf_lt_length_iff.mpr hp;have ev:HA (BO M) (M.map (II ks r)) (.inr p.2)=some (II ks r p.2):=Kc hp (by rw [Ac,AX hi,Hs hi];rfl);refine AN (CT (B3 (Am (J9 (A4 rfl ⟨BO M,_,rfl,B3 (BF rfl ⟨rfl,AH ⟨_,_,rfl,rfl,.inr p.2,_,rfl,ev,_,.inr ⟨rfl,rfl,AH ⟨_,_,rfl,rfl,?_⟩⟩⟩⟩)⟩)))));refine AN (BP (B1 (PN (neg:=false) C (B3 (BF rfl ⟨rfl,AH ⟨_,_,rfl,rfl,p.1,rfl,_,rfl,?_⟩⟩)))));refine BE (fun c=>?_) (fun c=>BC ?_)
 ·refine BH (A4 rfl ?_);unfold GF;rw [mZ (k9 c)]
 ·walk_at "ww"
  unfold GF;rw [k6 (fun z=>c (jy z))]
def NS:BM ["book","word","rule","known","comers","put","counts"] ["book","word","rule","known"] (Ad MU):=by walk_at "z1"
noncomputable def nI:Scope:={ kind:=.function,names:=[(".0", .local),("put", .local),("known", .free)],isGenerator:=false,isCoroutine:=false,more:=[] }
def xa:Cc ["book","word","rule","known","comers","put","counts"] (Ad MU) nI "put" ["known"] [3]:=by walk_at "z2"
noncomputable def uH:Scope:={ kind:=.function,names:=[(".0", .local),("put", .local),("rounds_to", .globalImplicit),("known", .free)],isGenerator:=false,isCoroutine:=false,more:=[] }
def xK:Cc ["book","word","rule","known","comers","put","counts"] (Ad MU) uH "put" ["known"] [3]:=by walk_at "z2"
def iU:∀ ss R,(Ku A7 n) ss R->ss.length=4:=by rintro _ _ ⟨ks,x,r,T,i,M,a,rfl,_,_,_,_,_,_,_,_,_,_,rfl⟩;rfl
def xC (n:Nat)(F:AR K "reckon" "reckon" MU f fd)(m:mg "reckon"=some (.ref f))(OY:AD P w K mg base "reckon" (4+n) ["book","word","rule","known"] (Dl (Ku A7 (n)))):
  AD P w K mg base "reckon" (4+n+1) ["book","word","rule","known"] (Dl (Ku A7 (n+1))):=by
 refine AD.mk F (F.binds (by walk_at "bD4")) m (F.BR (k:=4+n) NS (fun vs H Q E h=>Fz.WI iU h) (fun Ae A outer s H vs Q E hr h=>?_))
 refine ⟨_,(AE rfl (B4 (QC (Dg hr) (qv 1) (qv 3)) (AG rfl ZAY) B6)
   (AE rfl (Af 4 NS.nd (AW (hk:=by omega) FW hr (A0 (qv 0) (A0 (qv 1) (A0 (qv 2) A5)))))
   (AE rfl (C0 (DC Co rfl (Bv (qv 4)) (C9 5 NS.nd) (AG rfl (Dz (AW (hk:=by omega) OY hr (A0 (qv 0) (A0 (AO Ar (qv 5) A6) (A0 (qv 2) (A0 (qv 3) A5)))))))))
   (AE rfl (Af 6 NS.nd (AW (hk:=by omega) NT hr (A0 (El rfl xa (Bv (qv 4)) (fun _ _ _ _=>by exact E6) (fun _ _ _ _=>by exact (AO (show Cz _ (Du K) from Ar) (JX (Dg hr) (qv 0) (AO (show Cz _ (Du K) from Ar) (qv 1) A6) (fun _ _=>rfl)) A6))) (A0 (Bm ER Ax (A0 (NN FE hr (by omega) (qv 0)) A5)) A5))))
   (AE rfl (ZAZ (qv 6) (HK HI jW ZDE cN (NN FE hr (by omega) (qv 0)) (A0 (qv 1) A5)) A6 wL)
   (AG rfl (Nj (Dg hr) (qv 3) (qv 1) (Bl (A0 (qv 1) (A0 (Ea Of EB (A0 (qv 6) A5)) (A0 (Bm (zD rfl) FN (A0 (Ab Dt (C2 (A0 A6 A5)) (El rfl xK (Bv (qv 4)) (fun _ _ _ _=>by exact E6) (fun _ _ _ _=>by exact (AW (hk:=by omega) N2 hr (A0 (qv 1) (A0 (qv 0) A5)))))) A5)) A5))))))))))),?_⟩
 refine Fz.uk 3 h iU ?_;rintro _ _ ⟨ks,x,r,T,i,M,a,rfl,g,hr,tT,Fi,sT,hi,hn,Kf,sM,cM,rfl⟩;show Ws [_,_,_,_,.any,.any,.any] _ _ _;have l8:=g.l8;have xT:=C7 hi;have xw:=sT x xT;have lT:T.length<=8:=by
  have:=EY Fi sT;rw [AA] at this;omega
 have h6:=Zy g r x;refine AN (BP (G6 (e6 (A4 rfl (Hh (i:=3) rfl ⟨BO M,a,_,.inr x,rfl,rfl,_,rfl,?_⟩)))));rw [Kn];refine BE (fun c=>?_) (fun c=>BC ?_)
 ·exact uW (i:=3) rfl ⟨rfl,M,rfl,Kf,sM,cM,fun y h=>h,k9 c,fun y h=>.inl h⟩
 have hx:x∉M:=fun z=>c (jy z);refine AN (Fo (E2 (AF (A4 rfl (AF (A4 rfl (AF (A4 rfl (Aw ⟨_,⟨ks,x,r,rfl,g,xw,hr,rfl⟩,?_⟩)))))))));rintro _ rfl;refine Jk 4 rfl ?_;show Ws [.is (Bk A7 ks),.is (.str x),.is (.str r),.ow true (Eb ks r a M),.is (.lst ((C1 ks r x).map BN)),.any,.any] _ _ _;refine AN (Cy (Dh (fun xs j A9=>∃ (M':List Str) (s5 s6:Slot),A9=[.is (Bk A7 ks),.is (.str x),.is (.str r),.ow true (Eb ks r a M'),.is (.lst ((C1 ks r x).map BN)),s5,s6]/\M'.Nodup/\(∀ y∈M',y∈T)/\RE (AU ks r) M'/\(∀ y∈M,y∈M')/\(∀ y∈M',y∈M∨BY (AU ks r) (AU ks r x) y)/\∀ p∈(C1 ks r x).take j,p.2∈M') (CS (Bo (A4 rfl ⟨_,.inl ⟨rfl,⟨M,_,_,rfl,Kf,sM,cM,fun y h=>h,fun y h=>.inl h,fun p hp=>absurd hp (by simp)⟩,?_,?_⟩⟩)))))
 ·rintro j q A9 hq ⟨M',s5,s6,rfl,Ey,s',c',WU,RD,D6⟩;rw [Ac] at hq;obtain ⟨p,ep,rfl⟩:=Option.map_eq_some_iff.mp hq;have pn:p.2∈AU ks r x:=List.mem_map.mpr ⟨p,C7 ep,rfl⟩;have pt:=tT i x hi p.2 pn;obtain ⟨i',CV,e'⟩:=ES pt;rw [DM] at CV;rw [LJ] at e';refine EI ?_;refine ZR (i:=3) (QD rfl (G7 (A4 rfl (G7 (B3 (BF rfl ⟨rfl,AH ⟨_,_,rfl,rfl,G7 (A4 rfl (Pn rfl (Nr ⟨_,⟨ks,p.2,r,T,i',M',a,rfl,g,hr,tT,Fi,sT,by rw [AX (by omega),e'],by omega,Ey,s',c',rfl⟩,?_⟩)))⟩⟩))))));rintro _ _ ⟨rfl,M2,rfl,FD,s2,c2,J2,x2,TK⟩;refine ⟨_,_,rfl,M2,_,_,rfl,FD,s2,c2,fun y h=>J2 y (WU y h),fun y hy=>?_,fun q hq=>?_⟩
  ·rcases TK y hy with h | h
   ·exact RD y h
   ·refine .inr (h.mono fun z hz=>?_);rw [List.mem_singleton.mp hz];exact .here pn
  ·rw [Ih ep] at hq;rcases List.mem_append.mp hq with h | h
   ·exact J2 _ (D6 q h)
   ·rw [List.mem_singleton.mp h];exact x2
 ·rintro A9 ⟨M',s5,s6,rfl,Ey,s',c',WU,RD,D6⟩;rw [AA,FQ] at D6;have IW:x∉M':=fun z=>(RD x z).elim hx (dz tT Fi xT);have lM:=EY Ey s';obtain ⟨eC,eR⟩:=aU tT lT xT;have ix:=List.idxOf_lt_length_iff.mpr xw;rw [AA] at ix;have lo:∀ {p:Str×Str},p∈C1 ks r x->HA (BO M') (M'.map (II ks r)) (.inr p.2)=some (II ks r p.2):=fun {p} hp=>by
   have hi:=List.idxOf_lt_length_iff.mpr (D6 p hp);exact Kc (D6 p hp) (by rw [Ac,AX hi,Hs hi];rfl)
  refine AN (Fo (E2 (AF (AZ (VZ ?_)))));rw [show List.map DU _=[.is (Bk A7 ks),.is (.str x),.is (.str r),.is (Eb ks r a M').pv,.is (.lst ((C1 ks r x).map BN)),DU s5,DU s6] from rfl,Sm];refine Dq BN (fun _=>true) (fun p=>PV.tup ((cnt ks r p.2).map .int)) (CS (Bo (A4 rfl ⟨_,.inl ⟨rfl,C1 ks r x,rfl,by omega,fun p _=>E7 rfl,fun p hp _=>?_,?_⟩⟩))) U5
  ·exact B3 (Am (J9 (A4 rfl ⟨BO M',_,rfl,B3 (BF rfl ⟨rfl,AH ⟨_,_,rfl,rfl,.inr p.2,_,rfl,lo hp,_,.inr ⟨rfl,rfl,AH ⟨_,_,rfl,rfl,rfl⟩⟩⟩⟩)⟩)))
  rw [List.filter_eq_self.mpr fun _ _=>rfl];refine ⟨Mz _ (fun p=>by rw [DQ];exact VM _) _,?_⟩;refine AF (HZ (Am (AZ (Lg (A4 rfl ⟨GO,_,rfl,by decide +kernel,Aw ⟨_,⟨ks,rfl,g,rfl⟩,?_⟩⟩)))));rintro _ rfl;refine ⟨_,.inl ⟨rfl,?_⟩⟩;rw [AA,AA];refine Aw ⟨_,⟨(C1 ks r x).map fun p=>cnt ks r p.2,ks.length,by rw [CU];rfl,l8,by rw [AA];omega,fun c hc=>?_,rfl⟩,?_⟩
  ·obtain ⟨p,_,rfl⟩:=List.mem_map.mp hc;exact Pb ks r p.2
  rintro _ rfl;generalize hG:(fun j:Nat=>(((C1 ks r x).map fun p=>cnt ks r p.2).map fun c=>c.getD j 0).sum)=G;show Ws [.is (Bk A7 ks),.is (.str x),.is (.str r),.ow true (Eb ks r a M'),.is (.lst ((C1 ks r x).map BN)),s5,.own (((List.range ks.length).map G).map .int)] _ _ _;refine AN (l0 rfl (TX (Am (AZ (Lg (A4 rfl ⟨GO,_,rfl,by decide +kernel,Aw ⟨_,⟨ks,rfl,g,rfl⟩,?_⟩⟩))))));rintro _ rfl;refine ⟨_,.inl ⟨rfl,rfl,wk ks,rfl,A4 rfl ⟨x,rfl,xw,_,G ((wk ks).idxOf x),rfl,?_,AH ⟨_,rfl,?_⟩⟩⟩⟩
  ·rw [Ac,Ac,P0 ix];rfl
  have eS:((((List.range ks.length).map G).map PV.int).set ((wk ks).idxOf x) (.int (G ((wk ks).idxOf x)+1)))=(cnt ks r x).map .int:=by
   rw [<- List.map_set,sum_set rfl ix,eC];unfold HV;rw [<- hG]
   congr 1
   refine SN fun j _=>?_;unfold AU;show (List.map (fun c=>List.getD c j 0) (List.map (fun p=>cnt ks r p.2) (C1 ks r x))).sum+_=_;rw [CU,CU];rfl
  rw [eS];show Ws [.is (Bk A7 ks),.is (.str x),.is (.str r),.ow true (Eb ks r a M'),.is (.lst ((C1 ks r x).map BN)),s5,.own ((cnt ks r x).map .int)] _ _ _;refine Oa (i:=3) (t:=Eb ks r a M') (Gg (dJ ?_));rw [show List.map DU _=[.is (Bk A7 ks),.is (.str x),.is (.str r),.is (Eb ks r a M').pv,.is (.lst ((C1 ks r x).map BN)),DU s5,.is (.lst ((cnt ks r x).map .int))] from rfl,Sm];refine C8 (Ah (A4 rfl (Ah (Nl rfl (Ao rfl (Ah (ZAc (Am (AZ (E8 (Am (AZ (D3 (Ah (AH (BK ⟨by decide,?_⟩))))))))))))))));refine ⟨_,.inl ⟨rfl,rfl,Am (AZ (Dq BN (fun _=>true) (fun p=>PV.int (GF (Ct ks r) p)) (CS (Bo (A4 rfl ⟨_,.inl ⟨rfl,C1 ks r x,rfl,by omega,fun p _=>E7 rfl,fun p hp _=>?_,?_⟩⟩))) U5))⟩⟩
  ·refine wp_call (AF (A4 rfl (AF (A4 rfl (Aw ⟨_,⟨ks,r,M',p,rfl,D6 p hp,rfl⟩,?_⟩)))));rintro _ rfl;rfl
  rw [List.filter_eq_self.mpr fun _ _=>rfl];refine ⟨_,.inl ⟨rfl,rfl,by rw [AA];show 1+_<=_;omega,_,.inl ⟨rfl,rfl,1::(C1 ks r x).map (GF (Ct ks r)),by rw [BL,CU];rfl,by simp,fun m hm hy=>?_⟩⟩⟩;have em:m=Ct ks r x:=by rw [eR];exact ck hm hy
  subst em;refine BK ⟨by show 3<=100000;decide,?_,?_⟩
  ·simp only [DQ,Fm];rw [VM];rfl
  refine Hh rfl ⟨true,a,BO M',_,rfl,rfl,by rw [AA];omega,Nn Ey,Aa,A4 rfl ⟨.inr x,rfl,?_⟩⟩;rw [OV.HX,LQ IW,N8 IW];refine ⟨_,_,_,_,rfl,rfl,rfl,M'++[x],?_,Ig Ey IW,fun y hy=>?_,fun y hy z hz=>?_,fun y hy=>by simp [WU y hy],by simp,fun y hy=>?_⟩
  ·unfold Eb;rw [Be];rfl
  ·rcases List.mem_append.mp hy with h | h
   ·exact s' y h
   ·rw [List.mem_singleton.mp h];exact xT
  ·rcases List.mem_append.mp hy with h | h
   ·exact Mi _ (c' y h z hz)
   ·rw [List.mem_singleton.mp h] at hz;obtain ⟨p,hp,rfl⟩:=List.mem_map.mp hz;exact Mi _ (D6 p hp)
  ·rcases List.mem_append.mp hy with h | h
   ·rcases RD y h with q | q
    ·exact .inl q
    ·exact .inr (q.mono fun z hz=>.step (.here (by simp)) hz)
   ·rw [List.mem_singleton.mp h];exact .inr (.here (by simp))
def ZCE (F:AR K "reckon" "reckon" MU f fd)(m:mg "reckon"=some (.ref f)):AD P w K mg base "reckon" 13 ["book","word","rule","known"] (Dl (Ku A7 9)):=by
 have z:∀ n:Nat,AD P w K mg base "reckon" (4+n) ["book","word","rule","known"] (Dl (Ku A7 (n))):=fun n=>by
  induction n with
  | zero=>exact AD.mk F (F.binds (by walk_at "bD4")) m (F.BR (k:=3) NS (fun vs H Q E h=>(Fz.Pt (fo) h).elim) (fun Ae A outer s H vs Q E hr h=>(Fz.Pt (fo) h).elim))
  | succ n ih=>exact xC (A7:=A7) Ax FN EB FE FW N2 NT n F m ih
 exact z 9
def VI:BM ["book","crowd","rule","known","word"] ["book","crowd","rule"] (Ad Y7):=by walk_at "z1"
def cR:∀ ss R,(YG A7) ss R->ss.length=3:=by rintro _ _ ⟨ks,tp,cs,r,T,rfl,_,_,_,_,_,_,rfl⟩;rfl
def ZAH (F:AR K "known_rows" "known_rows" Y7 f fd)(m:mg "known_rows"=some (.ref f))(OY:AD P w K mg base "reckon" 13 ["book","word","rule","known"] (Dl (Ku A7 9))):
  AD P w K mg base "known_rows" 14 ["book","crowd","rule"] (AM (YG A7)):=by
 refine AD.mk F (F.binds (by walk_at "bD3")) m (F.BR (k:=13) VI (fun vs H Q E h=>Fz.Br cR h) (fun Ae A outer s H vs Q E hr h=>?_))
 refine ⟨_,(AE rfl (Af 3 VI.nd Ob)
   (AE rfl (C0 (DC Co rfl (Bv (qv 1)) (C9 4 VI.nd) (AG rfl (Dz (AW OY hr (A0 (qv 0) (A0 (qv 4) (A0 (qv 2) (A0 (qv 3) A5)))))))))
   (AG rfl (Aj (qv 3))))),?_⟩
 refine Fz.Bn h cR ?_;rintro _ _ ⟨ks,tp,cs,r,T,rfl,g,hr,tT,Fi,sT,hc,rfl⟩;show Ws [_,_,_,.any,.any] _ _ _;have lT:T.length<=8:=by
  have:=EY Fi sT;have:=g.l8;rw [AA] at *;omega
 refine AN (KY (Nc fun a=>?_));show Ws [_,_,_,.ow false (Eb ks r a []),.any] _ _ _;refine AN (Cy (Dh (fun xs i A9=>∃ (M:List Str) (s4:Slot),A9=[.is (Bk A7 ks),.sq tp (cs.map .str),.is (.str r),.ow false (Eb ks r a M),s4]/\M.Nodup/\(∀ y∈M,y∈T)/\RE (AU ks r) M/\(∀ y∈M,BY (AU ks r) cs y)/\∀ y∈cs.take i,y∈M) ?_))
 walk_at "ww"
 refine ⟨⟨[],_,rfl,HH,fun y hy=>absurd hy Aa,fun y hy=>absurd hy Aa,fun y hy=>absurd hy Aa,fun y hy=>absurd hy (by simp)⟩,?_,?_⟩
 ·rintro i q A9 hq ⟨M,s4,rfl,nd,s',c',re,D6⟩;rw [Ac] at hq;obtain ⟨c,ec,rfl⟩:=Option.map_eq_some_iff.mp hq;have cm:=C7 ec;obtain ⟨j,hj,ej⟩:=ES (hc c cm);refine EI ?_;refine ZR (i:=3) (QD rfl (G7 (A4 rfl (G7 (A4 rfl (G7 (A4 rfl (Pn rfl (Nr ⟨_,⟨ks,c,r,T,j,M,a,rfl,g,hr,tT,Fi,sT,by rw [AX hj,ej],by omega,nd,s',c',rfl⟩,?_⟩)))))))));rintro _ _ ⟨rfl,M2,rfl,FD,s2,c2,J2,x2,TK⟩;refine ⟨_,_,rfl,M2,_,rfl,FD,s2,c2,fun y hy=>?_,fun z hz=>?_⟩
  ·rcases TK y hy with h | h
   ·exact re y h
   ·exact h.mono fun z hz=>by rw [List.mem_singleton.mp hz];exact .here cm
  ·rw [Ih ec] at hz;rcases List.mem_append.mp hz with h | h
   ·exact J2 _ (D6 z h)
   ·rw [List.mem_singleton.mp h];exact x2
 ·rintro A9 ⟨M,s4,rfl,nd,s',c',re,D6⟩;rw [AA,FQ] at D6;refine bM (Za rfl ⟨a,M,rfl,nd,fun x=>⟨re x,fun q=>?_⟩⟩)
  induction q with
  | here m=>exact D6 _ m
  | step _ hy ih=>exact c' _ ih _ hy
def aC:BM ["book","crowd","rule","known"] ["book","crowd","rule"] (Ad R3):=by walk_at "z1"
noncomputable def uE:Scope:={ kind:=.function,names:=[(".0", .local),("word", .local),("known", .free)],isGenerator:=false,isCoroutine:=false,more:=[] }
def ZCI:Cc ["book","crowd","rule","known"] (Ad R3) uE "word" ["known"] [3]:=by walk_at "z2"
def iF:∀ ss R,(Xm A7) ss R->ss.length=3:=by rintro _ _ ⟨ks,tp,cs,r,T,rfl,_,_,_,_,_,_,rfl⟩;rfl
def sV (F:AR K "table_of" "table_of" R3 f fd)(m:mg "table_of"=some (.ref f)):
  AD P w K mg base "table_of" 15 ["book","crowd","rule"] (AM (Xm A7)):=by
 refine AD.mk F (F.binds (by walk_at "bD3")) m (F.BR (k:=14) aC (fun vs H Q E h=>Fz.Br iF h) (fun Ae A outer s H vs Q E hr h=>?_))
 refine ⟨_,(AE rfl (Af 3 aC.nd (AW XG hr (A0 (qv 0) (A0 (qv 1) (A0 (qv 2) A5)))))
   (AG rfl (Aj (El rfl ZCI (Bv (NN FE hr (by decide) (qv 0))) (fun _ _ _ _=>by exact (Jw (QC (Dg hr) (qv 1) (qv 0)))) (fun _ _ _ _=>by exact (JX (Dg hr) (qv 0) (qv 1) (fun _ _=>rfl))))))),?_⟩
 refine Fz.Bn h iF ?_;rintro _ _ ⟨ks,tp,cs,r,T,rfl,g,hr,tT,Fi,sT,hc,rfl⟩;show Ws [_,_,_,.any] _ _ _;have l8:=g.l8;refine AN (KY (dP (AF (A4 rfl (G3 (JG rfl (AF (A4 rfl (Aw ⟨_,⟨ks,tp,cs,r,T,rfl,g,hr,tT,Fi,sT,hc,rfl⟩,?_⟩)))))))));rintro _ ⟨a,M,rfl,nd,hM⟩;show Ws [_,_,_,.ow false (Eb ks r a M)] _ _ _;refine WK 3 rfl ?_;rw [Sm];show Ws [.is (Bk A7 ks),.sq tp (cs.map .str),.is (.str r),.is (Rf ks r M)] _ _ _;refine Ik (Dq PV.str (fun w=>decide (w∈M)) (II ks r) (CS (Bo (AZ (Lg (A4 rfl ⟨GO,_,rfl,by decide +kernel,Aw ⟨_,⟨ks,rfl,g,rfl⟩,?_⟩⟩))))) (fun a b e=>by injection e));rintro _ rfl;refine ⟨_,.inl ⟨rfl,wk ks,rfl,by rw [AA];omega,fun x _=>?_,fun x _ hx=>?_,M,rfl,hM⟩⟩
 ·refine G6 (VW (A4 rfl (A4 rfl ⟨BO M,_,.inr x,rfl,rfl,_,rfl,?_⟩)));rw [Kn]
 ·have hm:=k9 hx;have hi:=List.idxOf_lt_length_iff.mpr hm;exact J9 (A4 rfl ⟨BO M,_,rfl,A4 rfl ⟨.inr x,_,rfl,Kc hm (by rw [Ac,AX hi,Hs hi];rfl),rfl⟩⟩)
def jr:BM ["book","crowd","rule","ending"] ["book","crowd","rule","ending"] (Ad TN):=by walk_at "z1"
def cL:∀ ss R,(WL A7) ss R->ss.length=4:=by rintro _ _ ⟨ks,cs,r,e,rfl,_,_,_,_,_,rfl⟩;rfl
def ZBx (F:AR K "ending_judged" "ending_judged" TN f fd)(m:mg "ending_judged"=some (.ref f)):
  AD P w K mg base "ending_judged" 17 ["book","crowd","rule","ending"] (AM (WL A7)):=by
 refine AD.mk F (F.binds (by walk_at "bD4")) m (F.BR (k:=16) jr (fun vs H Q E h=>Fz.Br cL h) (fun Ae A outer s H vs Q E hr h=>?_))
 refine ⟨_,(AE rfl (Dz (AW Ss hr (A0 (qv 2) A5)))
   (AE rfl (Dz (AW WW hr (A0 (qv 0) (A0 (qv 1) A5))))
   (AE rfl (B4 (Al Bp (AO Ar (qv 3) A6) BJ) (AG rfl (Aj (GW (AW UD hr (A0 (qv 0) (A0 (qv 2) (A0 (AO Ar (qv 3) A6) A5)))) (KI (AW X6 hr (A0 (qv 0) (A0 (qv 1) (A0 (qv 2) (A0 (AO Ar (qv 3) A6) (A0 (AO BZ (AO Ar (qv 3) A6) A6) A5)))))))))) B6)
   (AG rfl (Aj (GW (EG p6 (AW Ux hr (A0 (qv 0) (A0 (qv 1) (A0 (qv 2) A5)))) MY) (KI (EG (Fz.XY hr.units) (AO Ar (qv 3) A6) (AW Y9 hr (A0 (qv 0) (A0 (qv 1) (A0 (qv 2) A5)))))))))))),?_⟩
 refine Fz.Bn h cL ?_;rintro _ _ ⟨ks,cs,r,e,rfl,g,hr,hz,hc,ok,rfl⟩;show Ws [_,_,_,_] _ _ _;refine AN (Km (wp_call (AF (A4 rfl (Aw ⟨_,⟨r,rfl,hr,rfl⟩,?_⟩)))));rintro _ rfl;refine AN (Km (wp_call (AF (A4 rfl (G3 (JG rfl (Aw ⟨_,⟨ks,false,cs,rfl,g,hz,hc,rfl⟩,?_⟩)))))));rintro _ rfl;cases e with
 | less W U=>
  show Ws [_,_,_,.is (.tup [.str "endless", .lst (W.map .str),.lst (U.map .str)])] _ _ _;refine AN (BP (B1 (C3 (B3 (BF rfl ⟨rfl,AH ⟨_,_,rfl,rfl,Cg ⟨rfl,_,rfl,CB rfl ?_⟩⟩⟩)))));refine BH (Gb (wp_call (AF (A4 rfl (AF (A4 rfl (AF (B3 (BF rfl ⟨rfl,AH ⟨_,_,rfl,rfl,Aw ⟨_,⟨ks,r,U,rfl,g,hr,ok.2,rfl⟩,?_⟩⟩⟩)))))))));rintro _ ⟨b,rfl,hb⟩;refine ⟨_,rfl,?_⟩;cases b with
  | false=>exact Bg (by decide) (EC fun ⟨e,_,h,_⟩=>absurd (hb.mpr h) (by decide))
  | true=>
   have hU:=hb.mp rfl;obtain ⟨y,z,ey,_⟩:=id hU;have e0:L2.BA (U.map PV.str) 0=some (.str y):=(D4 (j:=0) (by rw [Ac,ey];rfl):L2.BA _ ((0:Nat):Int)=_);refine CB rfl (wp_call (AF (A4 rfl (G3 (JG rfl (AF (A4 rfl (AF (B3 (BF rfl ⟨rfl,AH ⟨_,_,rfl,rfl,?_⟩⟩))))))))));refine AF (CQ (Am (B3 (BF rfl ⟨rfl,AH ⟨_,_,rfl,rfl,_,.inl ⟨rfl,rfl,AH ⟨_,_,rfl,e0,Aw ⟨_,⟨ks,cs,r,W,y,rfl,g,hr,ok.1,rfl⟩,?_⟩⟩⟩⟩⟩))));rintro _ ⟨b,rfl,hb⟩;refine MK hb ⟨fun h=>⟨y,ey,hU,h⟩,fun ⟨e,ee,_,h⟩=>?_⟩;rw [ey] at ee;cases ee;exact h
 | ends T=>
  show Ws [_,_,_,.is (.tup [.str "ends", .lst (T.map Rw.P)])] _ _ _;refine AN (BP (B1 (C3 (B3 (BF rfl ⟨rfl,AH ⟨_,_,rfl,rfl,Cg ⟨rfl,_,rfl,Bg (by decide) (BC ?_)⟩⟩⟩)))));refine BH (Gb (zi (wp_call (AF (A4 rfl (G3 (JG rfl (AF (A4 rfl (Aw ⟨_,⟨ks,false,cs,r,rfl,g,hr,hz,hc,rfl⟩,?_⟩))))))))));rintro _ (⟨rfl,L,tL,Fq,sL,MN⟩ | ⟨W,i,c,rfl,rg,h0,hx⟩)
  ·have nr:=wZ tL Fq MN;refine Hm ⟨rfl,_,rfl,CB rfl ?_⟩;refine RN (B3 (BF rfl ⟨rfl,AH ⟨_,_,rfl,rfl,AZ (E2 (AF (A4 rfl (G3 (JG rfl (AF (A4 rfl (Aw ⟨_,⟨ks,false,cs,r,L,rfl,g,hr,tL,Fq,sL,MN,rfl⟩,?_⟩))))))))⟩⟩));rintro _ ⟨M,rfl,hM⟩;refine ⟨VN T,iQ ks r M,_,rfl,⟨fun h=>⟨nr,fun N hN=>?_⟩,fun h=>h.2 M hM⟩⟩;rw [fj fun x=>(hN x).trans (hM x).symm];exact h
  ·have rg:=om rg ⟨c,h0,hx⟩;refine Hm ⟨rfl,_,rfl,Bg (by show ¬ (false=true);decide) (EC fun h=>h.1 rg)⟩
def T2:BM ["kinds","rule","chain","words","k"] ["kinds","rule","chain"] (Ad Pm):=by walk_at "z1"
noncomputable def lC:Scope:={ kind:=.function,names:=[(".0", .local),("row", .local)],isGenerator:=false,isCoroutine:=false,more:=[] }
def o6:Cc ["kinds","rule","chain","words","k"] (Ad Pm) lC "row" [] []:=by walk_at "z2"
def d8 : ∀ ss R,Sz ss R->ss.length=3:=by rintro _ _ ⟨ks,r,W,rfl,_,_,_,rfl⟩;rfl
def tf (F:AR K "_law_is_chain" "_law_is_chain" Pm f fd)(m:mg "_law_is_chain"=some (.ref f)):
  AD P w K mg base "_law_is_chain" 3 ["kinds","rule","chain"] (AM Sz):=by
 refine AD.mk F (F.binds (by walk_at "bD3")) m (F.BR (k:=2) T2 (fun vs H Q E h=>Fz.Br d8 h) (fun Ae A outer s H vs Q E hr h=>?_))
 refine ⟨_,(AE rfl (Oj (i:=3) T2.nd rfl (Or.inl rfl) rfl o6 (Bv (qv 0)) (fun _ _ _ _=>by exact E6) (fun _ _ _ _=>by exact (AO (show Cz _ (Du K) from Ar) (qv 0) A6)))
   (AE rfl (C0 (DC Co rfl (Kh rfl DV (A0 (Bm ER Ax (A0 (qv 2) A5)) A5)) (C9 4 T2.nd) (AE rfl (B4 (Iv (Al KU (AO BZ (qv 2) (qv 4)) (qv 3)) (Iy (Al En (AO BZ (qv 2) (qv 4)) (CK Cm (qv 2) C6 (CP (qv 4)))))).pt (AG rfl (Aj Hf)) B6)
   (AG rfl (B4 (Rx (Al L3 (qv 4) A6) (Ql (Al KU (AO BZ (qv 2) (qv 4)) (AW D9 hr (A0 (qv 0) (A0 (AO BZ (qv 2) (Ab Lf (qv 4) A6)) (A0 (qv 1) A5))))))).pt (AG rfl (Aj Hf)) B6)))))
   (AG rfl (Aj (EG (MO hr.KP) (qv 2) (C2 A5)))))),?_⟩
 refine Fz.Bn h d8 ?_;rintro _ _ ⟨ks,r,W,rfl,g,hr,hz,rfl⟩;show Ws [_,_,_,.any,.any] _ _ _;have l8:=g.l8;refine AN (Fo (Dq Kd.P (fun _=>true) (fun k=>PV.str k.w) (CS (Bo (A4 rfl ⟨_,.inl ⟨rfl,ks,rfl,by omega,fun k _=>E7 rfl,fun k _ _=>B3 (BF rfl ⟨rfl,AH ⟨_,_,rfl,rfl,rfl⟩⟩),?_⟩⟩))) Kd.inj));rw [List.filter_eq_self.mpr fun _ _=>rfl,show ks.map (fun k=>PV.str k.w)=(wk ks).map .str from by unfold wk;rw [CU];rfl];refine Jk 3 rfl ?_;refine AN (Cy (Dh (fun xs i A9=>∃ s4:Slot,A9=[.is (.lst (ks.map Kd.P)),.is (.str r),.is (.lst (W.map .str)),.is (.lst ((wk ks).map .str)),s4]/\K2 (AU ks r) (wk ks) (W.take i)) ?_))
 walk_at "ww"
 rw [AA];refine ⟨by omega,by omega,⟨_,rfl,HH,fun _ h=>absurd h Aa,fun i x y h=>by simp at h⟩,?_,?_⟩
 ·rintro i p A9 hp ⟨s4,rfl,ch⟩;obtain ⟨hi,rfl⟩:=Xk hp;obtain ⟨y,ey⟩:∃ y,W[i]?=some y:=⟨_,AX (by omega)⟩;have at_:L2.BA (W.map PV.str) ((i:Nat):Int)=some (.str y):=D4 (by rw [Ac,ey];rfl);have et:=Ih ey;refine EI ?_;refine AN (BP (ID (B1 (NQ (CQ (Ao rfl ⟨rfl,A4 rfl ⟨_,_,rfl,at_,y,rfl,Ao rfl ⟨wk ks,rfl,_,rfl,?_⟩⟩⟩))))));rcases Classical.em (y∉wk ks) with ym | ym
  ·rw [nZ ym];exact CB rfl (CB rfl (BH (GJ (EC fun z=>ym (z.2.2.1 y (C7 ey))))))
  have ym:y∈wk ks:=Classical.not_not.mp ym;rw [jy ym];refine Bg (by decide) ?_;refine B1 (GL (CQ (Ao rfl ⟨rfl,A4 rfl ⟨_,_,rfl,at_,y,rfl,Am (AZ (FL (Ao rfl ⟨rfl,Dk (EJ (A4 rfl ⟨_,rfl,_,.inl ⟨rfl,W.take i,?_,_,rfl,?_⟩⟩))⟩)))⟩⟩)))
  ·rw [Ew,show Au W none (some ((i:Nat):Int))=W.take i from dy W i]
  by_cases yt:y∈W.take i
  ·rw [jy yt];exact CB rfl (BH (GJ (EC fun z=>jh z.2.1 ey yt)))
  rw [nZ yt];refine Bg (by decide) (BC ?_)
  by_cases i0:i=0
  ·subst i0;refine BP (Qr (B1 ?_))
   walk_at "ww"
   refine Bg (by decide) (Bg (by decide) (BC ⟨_,rfl,?_⟩));rw [et];exact ⟨by simp,fun z hz=>by rw [Yb,J3,jK] at hz;rw [hz];exact ym,GP.one y⟩
  ·obtain ⟨j,rfl⟩:∃ j,i=j+1:=⟨i - 1,by omega⟩;obtain ⟨z,ez⟩:∃ z,W[j]?=some z:=⟨_,AX (by omega)⟩;have uw:(W.take (j+1))[j]?=some z:=by rw [ZCs];simp [ez]
   refine BP (Qr (B1 ?_))
   walk_at "ww"
   refine CB (jy (by omega)) ?_;refine B1 (NQ (CQ (Ao rfl ⟨rfl,A4 rfl ⟨_,_,rfl,at_,y,rfl,?_⟩⟩)));refine Am (AZ (E2 (AF (A4 rfl (AF (CQ (Ao rfl ⟨rfl,Gi (A4 rfl ⟨_,rfl,AH ⟨_,rfl,_,.str z,rfl,?_,AF (A4 rfl (Aw ⟨_,⟨ks,z,r,rfl,g,ch.2.1 z (C7 uw),hr,rfl⟩,?_⟩))⟩⟩)⟩)))))))
   ·rw [show ((j+1:Nat):Int) - 1=(j:Nat) from by omega];exact D4 (by rw [Ac,ez];rfl)
   ·rintro _ rfl;refine ⟨_,.inl ⟨rfl,AU ks r z,rfl,_,rfl,?_⟩⟩
    by_cases yz:y∈AU ks r z
    ·rw [jy yz];refine Bg (by decide) (BC ⟨_,rfl,?_⟩);have e3:W.take (j+1)=W.take j++[z]:=Ih ez;rw [et];refine ⟨Ig ch.1 yt,fun w hw=>?_,?_⟩
     ·rcases List.mem_append.mp hw with h | h
      ·exact ch.2.1 w h
      ·rw [List.mem_singleton.mp h];exact ym
     ·have c3:=ch.2.2;rw [e3] at c3 ⊢;exact c3.snoc yz
    ·rw [nZ yz];exact CB rfl (BH (GJ (EC fun q=>yz (q.2.2.2 j z y ez ey))))
 ·rintro A9 ⟨s4,rfl,ch⟩;rw [Hk,HF,FQ] at ch;refine BH (Rn (Ao rfl ⟨W,rfl,Am (AZ (D3 (BK ⟨by decide,_,.inl ⟨rfl,rfl,[],rfl,?_⟩⟩)))⟩));refine MK (P:=W≠[]) ?_ ⟨fun h=>⟨h,ch⟩,fun h=>h.1⟩;rw [Bool.not_eq_true',decide_eq_false_iff_not]
def US:BM ["kinds","crowd","rule","ending_here","way","ring"] ["kinds","crowd","rule","ending_here"] (Ad XN):=by walk_at "z1"
def iq : ∀ ss R,Vg ss R->ss.length=4:=by rintro _ _ ⟨ks,cs,r,e,rfl,_,_,_,_,_,rfl⟩;rfl
def lu (F:AR K "_law_due" "_law_due" XN f fd)(m:mg "_law_due"=some (.ref f)):
  AD P w K mg base "_law_due" 6 ["kinds","crowd","rule","ending_here"] (AM Vg):=by
 refine AD.mk F (F.binds (by walk_at "bD4")) m (F.BR (k:=5) US (fun vs H Q E h=>Fz.Br iq h) (fun Ae A outer s H vs Q E hr h=>?_))
 refine ⟨_,(AE rfl (B4 (Al Bp (AO Ar (qv 3) A6) BJ) (AG rfl (Aj (GW (zR (AW Ll hr (A0 (qv 0) (A0 (qv 1) (A0 (qv 2) A5))))) (KI (EG (Fz.XY hr.units) (AO Ar (qv 3) A6) (AW Lo hr (A0 (qv 0) (A0 (qv 1) (A0 (qv 2) A5))))))))) B6)
   (AE rfl (Af 4 US.nd (AO Ar (qv 3) A6))
   (AE rfl (Af 5 US.nd (AO Ar (qv 3) A6))
   (AE rfl (B4 (Iv (Lp (K0 (AW Qb hr (A0 (qv 0) (A0 (qv 2) (A0 (qv 4) A5)))))) (Iy (Lp (K0 (AW Qb hr (A0 (qv 0) (A0 (qv 2) (A0 (qv 5) A5)))))))).pt (AG rfl (Aj Hf)) B6)
   (AG rfl (Aj (GW (EG En (AO BZ (qv 4) A6) (qv 1)) (GW (EG Bp (AO BZ (qv 4) (Gu HC A6)) (AO BZ (qv 5) A6)) (KI (EG En (AO BZ (qv 5) A6) (AW D9 hr (A0 (qv 0) (A0 (AO BZ (qv 5) (Gu HC A6)) (A0 (qv 2) A5)))))))))))))),?_⟩
 refine Fz.Bn h iq ?_;rintro _ _ ⟨ks,cs,r,e,rfl,g,hr,hz,hc,ok,rfl⟩;show Ws [_,_,_,_,.any,.any] _ _ _;cases e with
 | ends T=>
  show Ws [_,_,_,.is (.tup [.str "ends", .lst (T.map Rw.P)]),.any,.any] _ _ _;refine AN (BP (B1 (C3 (B3 (BF rfl ⟨rfl,AH ⟨_,_,rfl,rfl,Cg ⟨rfl,_,rfl,CB rfl ?_⟩⟩⟩)))));refine BH (Gb (gL (wp_call (AF (A4 rfl (G3 (Ao rfl (AF (A4 rfl (Aw ⟨_,⟨ks,cs,r,rfl,g,hr,hz,hc,rfl⟩,?_⟩))))))))));rintro _ ⟨b,rfl,hb⟩;refine ⟨_,rfl,_,rfl,?_⟩;cases b with
  | true=>exact Bg (by decide) (EC fun h=>h.1 (hb.mp rfl))
  | false=>
   have nr:¬ IV (AU ks r) cs:=fun z=>absurd (hb.mpr z) (by decide);refine CB rfl (RN (B3 (BF rfl ⟨rfl,AH ⟨_,_,rfl,rfl,AZ (E2 (AF (A4 rfl (AF (A4 rfl (AF (A4 rfl (Aw ⟨_,⟨ks,cs,r,rfl,g,hr,hz,hc,nr,rfl⟩,?_⟩))))))))⟩⟩)));rintro _ ⟨M,rfl,hM⟩;refine ⟨VN T,iQ ks r M,_,rfl,⟨fun h=>⟨nr,fun N hN=>?_⟩,fun h=>h.2 M hM⟩⟩;rw [fj fun x=>(hN x).trans (hM x).symm];exact h
 | less W U=>
  show Ws [_,_,_,.is (.tup [.str "endless", .lst (W.map .str),.lst (U.map .str)]),.any,.any] _ _ _;refine AN (BP (B1 (C3 (B3 (BF rfl ⟨rfl,AH ⟨_,_,rfl,rfl,Cg ⟨rfl,_,rfl,Bg (by decide) (BC ?_)⟩⟩⟩)))));refine AN (CT (B3 (BF rfl ⟨rfl,AH ⟨_,_,rfl,rfl,?_⟩⟩)));refine AN (CT (B3 (BF rfl ⟨rfl,AH ⟨_,_,rfl,rfl,?_⟩⟩)));refine AN (BP (ID (NV (G6 (wp_call (AF (A4 rfl (AF (A4 rfl (AF (A4 rfl (Aw ⟨_,⟨ks,r,W,rfl,g,hr,ok.1,rfl⟩,?_⟩))))))))))));rintro _ ⟨b,rfl,hb⟩;refine ⟨_,rfl,?_⟩;cases b with
  | false=>exact CB rfl (CB rfl (BH (GJ (EC fun ⟨e,_,_,y,ey,_,_,ch⟩=>absurd (hb.mpr ⟨fun z=>(by rw [z] at ey;simp at ey),ch⟩) (by decide)))))
  | true=>
   refine Bg (by decide) ?_;refine NV (G6 (wp_call (AF (A4 rfl (AF (A4 rfl (AF (A4 rfl (Aw ⟨_,⟨ks,r,U,rfl,g,hr,ok.2,rfl⟩,?_⟩)))))))));rintro _ ⟨b,rfl,Kv⟩;refine ⟨_,rfl,?_⟩;cases b with
   | false=>exact CB rfl (BH (GJ (EC fun ⟨e,ee,⟨_,_,_,_,ch,_⟩,_⟩=>absurd (Kv.mpr ⟨fun z=>(by rw [z] at ee;simp at ee),ch⟩) (by decide))))
   | true=>
    obtain ⟨nW,cW⟩:=hb.mp rfl;obtain ⟨nU,cU⟩:=Kv.mp rfl;refine Bg (by decide) (BC ?_);obtain ⟨w0,wl,Ub,Uu⟩:=Q5 (List.length_pos_iff.mpr nW);obtain ⟨u0,ul,Nx,S8⟩:=Q5 (List.length_pos_iff.mpr nU);have key:T3 ks r cs (.less W U)↔w0∈cs/\wl=u0/\u0∈AU ks r ul:=by
     constructor
     ·rintro ⟨e,ee,⟨y,z,ey,ez,_,n6⟩,y2,fg,qC,Zu,_⟩;rw [Nx] at ee;cases ee;rw [Nx] at ey;cases ey;rw [S8] at ez;cases ez;rw [Ub] at fg;cases fg;rw [Uu] at Zu;cases Zu;exact ⟨qC,rfl,n6⟩
     ·rintro ⟨h1,rfl,h3⟩;exact ⟨_,Nx,⟨_,_,Nx,S8,cU,h3⟩,_,Ub,h1,Uu,cW⟩
    have wX:L2.BA (W.map PV.str) 0=some (.str w0):=(D4 (j:=0) (by rw [Ac,Ub];rfl):L2.BA _ ((0:Nat):Int)=_);have ZN:L2.BA (U.map PV.str) 0=some (.str u0):=(D4 (j:=0) (by rw [Ac,Nx];rfl):L2.BA _ ((0:Nat):Int)=_);refine BH (Gb (GL (CQ (Ao rfl ⟨rfl,AH ⟨_,_,rfl,wX,w0,rfl,Ao rfl ⟨cs,rfl,_,rfl,?_⟩⟩⟩))));refine BE (fun c=>?_) (fun c=>EC fun q=>c (jy (key.mp q).1));have c1:=k9 c;refine Gb (C3 (CQ (Ao rfl ⟨rfl,HU (AH ⟨_,rfl,_,_,rfl,M5 Uu,CQ (Ao rfl ⟨rfl,AH ⟨_,_,rfl,ZN,rfl,_,rfl,?_⟩⟩)⟩)⟩)));refine BE (fun c=>?_) (fun c=>EC fun q=>c (jy (key.mp q).2.1));have c2:wl=u0:=k9 c;refine GL (CQ (Ao rfl ⟨rfl,AH ⟨_,_,rfl,ZN,u0,rfl,?_⟩⟩));refine Am (AZ (E2 (AF (A4 rfl (AF (CQ (Ao rfl ⟨rfl,HU (AH ⟨_,rfl,_,_,rfl,M5 S8,AF (A4 rfl (Aw ⟨_,⟨ks,ul,r,rfl,g,cU.2.1 ul (C7 S8),hr,rfl⟩,?_⟩))⟩)⟩)))))));rintro _ rfl;refine ⟨_,.inl ⟨rfl,AU ks r ul,rfl,?_⟩⟩;exact MK (P:=u0∈AU ks r ul) rO ⟨fun h=>key.mpr ⟨c1,c2,h⟩,fun h=>(key.mp h).2.2⟩
def Gr:BM ["script","kinds","book","k","pot","crowd","rule","ending_here","handed","turn","found"] ["script"] (Ad LF):=by walk_at "z1"
noncomputable def oH:Scope:={ kind:=.function,names:=[(".0", .local),("some", .local),("list", .globalImplicit)],isGenerator:=false,isCoroutine:=false,more:=[] }
def ZBK:Cc ["script","kinds","book","k","pot","crowd","rule","ending_here","handed","turn","found"] (Ad LF) oH "some" [] []:=by walk_at "z2"
def uD (F:AR K "law" "law" LF f fd)(m:mg "law"=some (.ref f)):
  DD P w K mg base FU 19 f fd ["script"] (NR K):=by
 refine (F.BR (k:=18) Gr (fun vs H Q E h=>by obtain ⟨a,ns,rfl,_⟩:=h;rfl) (fun Ae A outer s H vs Q E hr h=>?_));refine ⟨_,(AE rfl (Af 1 Gr.nd (AW TC hr (A0 (AW Qd hr (A0 (qv 0) (A0 A6 A5))) A5)))
   (AE rfl (Af 2 Gr.nd (AW V7 hr (A0 (qv 1) A5)))
   (AE rfl (C0 (DC Co rfl (xW rfl DV (A0 A6 (A0 (Bm (Uj rfl) FN (A0 A6 (A0 (Bm (xf rfl) Tn (A0 (Bm ER Ax (A0 (qv 0) A5)) (A0 A6 A5))) A5))) A5))) (C9 3 Gr.nd) (AE rfl (Af 4 Gr.nd (AW Qd hr (A0 (qv 0) (A0 (qv 3) A5))))
   (AE rfl (Af 5 Gr.nd (AW V0 hr (A0 (qv 4) (A0 (qv 1) A5))))
   (AE rfl (Af 6 Gr.nd (AW Uv hr (A0 (qv 4) A5)))
   (AE rfl (Af 7 Gr.nd (AW UY hr (A0 (qv 4) (A0 (qv 1) (A0 (qv 5) (A0 (qv 6) A5))))))
   (AE rfl (Af 8 Gr.nd (Ab V4 (Bl (A0 (AO Ar (qv 7) A6) A5)) (Ea Of EB (A0 (El rfl ZBK (Bv (CK Fz.P5 (qv 7) (CP A6) C6)) (fun _ _ _ _=>by exact E6) (fun _ _ _ _=>by exact (Ea (show CJ _ (.type "list") (Fz.X7 K) from Fz.gn) Cq (A0 (qv 0) A5)))) A5))))
   (AE rfl (C0 (DC Co rfl (Kh rfl DV (A0 A6 A5)) (C9 9 Gr.nd) (AE rfl (Af 10 Gr.nd (AW Up hr (A0 (qv 2) (A0 (qv 5) (A0 (qv 6) (A0 (qv 8) A5))))))
   (AG rfl (B4 (Iv (Lp (K0 (Bm yV X2 (A0 (qv 10) (A0 (vc "bool" Xh) A5))))) (Iy (Al cE (qv 10) (AW Tv hr (A0 (qv 1) (A0 (qv 5) (A0 (qv 6) (A0 (qv 7) A5)))))))).pt (AG rfl (Aj Hf)) B6)))))
   (AG rfl (B4 (Al (Fz.rh hr.units) (qv 8) (qv 7)) (AG rfl (Aj Hf)) B6))))))))))
   (AG rfl (Aj Hf))))),?_⟩
 refine Fz.rP h ?_;intro sc Zl;show Ws [_,.any,.any,.any,.any,.any,.any,.any,.any,.any,.any] _ _ _;refine AN (CT (zq rfl (AH ⟨_,rfl,by decide,by decide,Aw ⟨[],_,rfl,⟨rfl,rfl⟩,?_⟩⟩)));rintro _ ⟨ks,rfl,g⟩;refine AN (CT (wp_call (AF (A4 rfl (Aw ⟨_,⟨ks,rfl,g,rfl⟩,?_⟩)))));rintro _ rfl;refine AN (Cy (Dh (fun _ i A9=>∃ (s3 s4 s5 s6 s7 s8 s9 DS:Slot),A9=[.raw (Gh K sc),.is (.lst (ks.map Kd.P)),.is (Bk A7 ks),s3,s4,s5,s6,s7,s8,s9,DS]) ?_))
 walk_at "ww"
 obtain ⟨m,em,hm⟩:=xq (b:=2) (c:=15) (n:=sc.length) (by decide) (by decide) (by omega);rw [em];refine ⟨⟨by decide,by decide,by omega,by omega⟩,⟨_,_,_,_,_,_,_,_,rfl⟩,?_,?_⟩
 ·rintro i p A9 hp ⟨s3,s4,s5,s6,s7,s8,s9,DS,rfl⟩;obtain ⟨hi,rfl⟩:=kG hp;refine EI ?_;refine AN (ak rfl (A4 rfl ⟨_,rfl,by omega,by omega,?_⟩));refine AN (Fo (sJ rfl (AF (A4 rfl (Aw ⟨_,⟨ks,rfl,g,rfl⟩,?_⟩)))));rintro _ ⟨cs,rfl,hz,hc⟩;refine Jk 5 rfl ?_;refine AN (CT (Od rfl (Aw ⟨_,⟨rfl,rfl⟩,?_⟩)));rintro _ ⟨r,hr,rfl⟩;refine AN (CT (Od rfl (AF (A4 rfl (AF (A4 rfl (AF (A4 rfl (Aw ⟨_,⟨ks,cs,r,rfl,g,hr,hz,hc,rfl⟩,?_⟩)))))))));rintro _ ⟨e,rfl,Yu⟩;show Ws [.raw (Gh K sc),.is (.lst (ks.map Kd.P)),.is (Bk A7 ks),.is (.int (1+(i:Int))),.AS,.is (.lst (cs.map .str)),.is (.str r),.is e.P,s8,s9,DS] _ _ _;obtain ⟨h,Ls,eP,lLs⟩:∃ (h:Str) (Ls:List (List PV)),e.P=.tup (.str h::Ls.map PV.lst)/\Ls.length<=2:=by
   cases e with
   | ends T=>exact ⟨_,[_],rfl,by simp⟩
   | less W U=>exact ⟨_,[_,_],rfl,by simp⟩
  rw [eP];refine AN (CT (bO (C8 (Ah (B3 (BF rfl ⟨rfl,AH ⟨_,_,rfl,(D4 (j:=0) rfl:L2.BA (PV.str h::Ls.map PV.lst) ((0:Nat):Int)=_),BK ⟨by show 1<=100000;decide,_,rfl,by simp,Nl rfl (Am (AZ (Dq PV.lst (fun _=>true) PV.lst (CS (Bo (Oq (BF rfl (EJ (AH ⟨_,rfl,Dk ?_⟩)))))) rQ)))⟩⟩⟩))))));rw [show Au (PV.str h::Ls.map PV.lst) (some 1) none=Ls.map PV.lst from VP _ 1];refine ⟨_,.inr ⟨rfl,Ls,rfl,by omega,fun _ _=>E7 rfl,fun xs _ _=>AZ (MH rfl (Ao rfl rfl)),?_⟩⟩;rw [List.filter_eq_self.mpr fun _ _=>rfl];refine ⟨_,.inl ⟨rfl,_,rfl,by rw [AA];show 1+_<=_;omega,?_⟩⟩;rw [show ([PV.str h]++Ls.map PV.lst)=.str h::Ls.map PV.lst from rfl,<- eP];show Ws [.raw (Gh K sc),.is (.lst (ks.map Kd.P)),.is (Bk A7 ks),.is (.int (1+(i:Int))),.AS,.is (.lst (cs.map .str)),.is (.str r),.is e.P,.is e.P,s9,DS] _ _ _;refine AN (Cy (Dh (fun _ i' A9=>∃ (s9 DS:Slot),A9=[.raw (Gh K sc),.is (.lst (ks.map Kd.P)),.is (Bk A7 ks),.is (.int (1+(i:Int))),.AS,.is (.lst (cs.map .str)),.is (.str r),.is e.P,.is e.P,s9,DS]) ?_))
  walk_at "ww"
  refine ⟨by decide,by decide,⟨_,_,rfl⟩,?_,?_⟩
  ·rintro t q A9 hq ⟨s9,DS,rfl⟩;refine EI ?_;refine AN (CT (wp_call (AF (A4 rfl (G3 (Ao rfl (AF (A4 rfl (AF (A4 rfl (Aw ⟨_,⟨ks,cs,r,e,rfl,g,hr,hz,hc,Yu,rfl⟩,?_⟩)))))))))));intro p1 h1;obtain ⟨b,rfl,hb⟩:=id h1;refine BP (ID (NV (G6 (pO (A4 rfl ⟨true,yC _ _,_,rfl,Bg (by decide) ?_⟩)))));refine B1 (Tx (A4 rfl (wp_call (AF (A4 rfl (AF (A4 rfl (AF (A4 rfl (AF (A4 rfl (Aw ⟨_,⟨ks,cs,r,e,rfl,g,hr,hz,hc,Yu,rfl⟩,?_⟩))))))))))));intro p2 h2;obtain ⟨b2,e1,rfl⟩:=tells_eq h1 h2;cases e1;exact ⟨rfl,_,rfl,Bg (by simp [alike]) (BC ⟨_,_,rfl⟩)⟩
  ·rintro A9 ⟨s9,DS,rfl⟩;refine BP (B1 (eZ (A4 rfl (A4 rfl ⟨Ti e,Ti e,_,rfl,Bg (by rw [wQ 40 (Ti (K:=K) e)];decide) (BC ⟨_,_,_,_,_,_,_,_,rfl⟩)⟩))))
 ·rintro A9 ⟨s3,s4,s5,s6,s7,s8,s9,DS,rfl⟩;exact BH (GJ rfl)
def all_mk {fa f1 f2 f3 f4 f5 f6 f7 f8 f9 RH aZ Ys gW bh cx bI aa bZ hX iX Zn Zt iW Zk cn PM iY Pw bD dH bx gq Yl gd fB eO bL bN bY gi fP ae dk gM:Addr}{g1 g2 g3 g4 g5 g6 g7 g8 g9 qw vR g12 g13 lh vW qQ jt kq oN um yI tR qD k7 ni qL g27 wW yH g30 vd yq kL x6 jf g36 yh uu kZ mD zL mX mi zy:FuncData}(X:K.In h)(G:h.Ns mainGlobals mg)(nv:mg "law"=some (.ref fa))
  
  (uA:PySem.W.nsIn K mainGlobals "Errands"=some (some (.ref A7)))
  (lI:PySem.W.plainGet K A7 Str.empty=true)
  (nH:PySem.W.hasDictIn K A7=true)
  (vX:PySem.W.plainOver K A7=true)
  (yE:PySem.W.findIn K (.ref A7) "__setattr__"=some (some (.builtin "object.__setattr__")))
  (me:PySem.W.makesIn K A7=true)
  (kF:PySem.W.keepIn K (.ref A7)=true)
  (Pd:PySem.W.findIn K (.ref A7) "goes_by_word"=some none)
  (GX:PySem.W.findIn K (.ref A7) "puts_by_word"=some none)
  (a1:nS K "_law_take" (.ref f1)) (F1:AR K "_law_take" "_law_take" VQ f1 g1)
  (a2:nS K "_law_letters" (.ref f2)) (F2:AR K "_law_letters" "_law_letters" UE f2 g2)
  (a3:nS K "_law_name" (.ref f3)) (F3:AR K "_law_name" "_law_name" Uq f3 g3)
  (a4:nS K "_law_names" (.ref f4)) (F4:AR K "_law_names" "_law_names" UB f4 g4)
  (a5:nS K "_law_kinds" (.ref f5)) (F5:AR K "_law_kinds" "_law_kinds" Xo f5 g5)
  (a6:nS K "check_word" (.ref f6)) (F6:AR K "check_word" "check_word" UJ f6 g6)
  (a7:nS K "check_puts" (.ref f7)) (F7:AR K "check_puts" "check_puts" Wk f7 g7)
  (a8:nS K "is_name" (.ref f8)) (F8:AR K "is_name" "is_name" RV f8 g8)
  (a9:nS K "check_kinds" (.ref f9)) (F9:AR K "check_kinds" "check_kinds" Q9 f9 g9)
  (kT:PySem.W.findIn K (.ref A7) "__init__"=some (some (.ref RH))) (nL:AR K "__init__" "Errands.__init__" VB RH qw)
  (zr:PySem.W.isFn K (.ref RH)=true)
  (xr:nS K "_law_book" (.ref aZ)) (lF:AR K "_law_book" "_law_book" RB aZ vR)
  (y4:nS K "_law_pot" (.ref Ys)) (xY:AR K "_law_pot" "_law_pot" Y2 Ys g12)
  (vF:nS K "_law_crowd" (.ref gW)) (uc:AR K "_law_crowd" "_law_crowd" Pj gW g13)
  (wN:nS K "_law_rule" (.ref bh)) (xn:AR K "_law_rule" "_law_rule" Vn bh lh)
  (nR:nS K "_law_comers" (.ref cx)) (lZ:AR K "_law_comers" "_law_comers" Nv cx vW)
  (pH:nS K "_law_reached" (.ref bI)) (uh:AR K "_law_reached" "_law_reached" Ud bI qQ)
  (sg:nS K "_law_rings" (.ref aa)) (xP:AR K "_law_rings" "_law_rings" XX aa jt)
  (a18:nS K "_law_road" (.ref bZ)) (oo:AR K "_law_road" "_law_road" PK bZ kq)
  (mP:nS K "_law_endless" (.ref hX)) (F19:AR K "_law_endless" "_law_endless" WT hX oN)
  (xu:nS K "_law_spoilt_table" (.ref iX)) (qh:AR K "_law_spoilt_table" "_law_spoilt_table" Wv iX um)
  (uK:nS K "_law_spoilt_chain" (.ref Zn)) (qI:AR K "_law_spoilt_chain" "_law_spoilt_chain" W4 Zn yI)
  (kJ:nS K "_law_rows" (.ref Zt)) (tX:AR K "_law_rows" "_law_rows" LG Zt tR)
  (kh:nS K "_law_table" (.ref iW)) (m8:AR K "_law_table" "_law_table" Qy iW qD)
  (mB:nS K "_law_some_ending" (.ref Zk)) (sS:AR K "_law_some_ending" "_law_some_ending" Qp Zk k7)
  (kM:nS K "check_rule" (.ref cn)) (nC:AR K "check_rule" "check_rule" VJ cn ni)
  (ux:PySem.W.findIn K (.ref A7) "words"=some (some (.ref PM))) (cj:AR K "words" "Errands.words" Wc PM qL)
  (rq:PySem.W.isFn K (.ref PM)=true)
  (vQ:nS K "check_crowd" (.ref iY)) (oB:AR K "check_crowd" "check_crowd" Sr iY g27)
  (zF:PySem.W.findIn K (.ref A7) "puts"=some (some (.ref Pw))) (bG:AR K "puts" "Errands.puts" Vr Pw wW)
  (rK:PySem.W.isFn K (.ref Pw)=true)
  (pF:nS K "comers_of" (.ref bD)) (t6:AR K "comers_of" "comers_of" Rc bD yH)
  (zv:nS K "comes_of" (.ref dH)) (zu:AR K "comes_of" "comes_of" Ra dH g30)
  (nQ:nS K "is_chain" (.ref bx)) (yD:AR K "is_chain" "is_chain" NL bx vd)
  (lE:nS K "is_ring" (.ref gq)) (nO:AR K "is_ring" "is_ring" Va gq yq)
  (oX:nS K "is_way" (.ref Yl)) (su:AR K "is_way" "is_way" Vt Yl kL)
  (a34:nS K "ring_along" (.ref gd)) (F34:AR K "ring_along" "ring_along" Qt gd x6)
  (ja:nS K "way_and_ring" (.ref fB)) (F35:AR K "way_and_ring" "way_and_ring" Wb fB jf)
  (tH:nS K "sums_of" (.ref eO)) (F36:AR K "sums_of" "sums_of" R7 eO g36)
  (sx:nS K "rounds_to" (.ref bL)) (F37:AR K "rounds_to" "rounds_to" W0 bL yh)
  (sf:nS K "reckon" (.ref bN)) (qF:AR K "reckon" "reckon" MU bN uu)
  (yK:nS K "known_rows" (.ref bY)) (zo:AR K "known_rows" "known_rows" Y7 bY kZ)
  (rZ:nS K "table_of" (.ref gi)) (F40:AR K "table_of" "table_of" R3 gi mD)
  (oA:nS K "ending_judged" (.ref fP)) (wI:AR K "ending_judged" "ending_judged" TN fP zL)
  (o7:nS K "_law_is_chain" (.ref ae)) (oy:AR K "_law_is_chain" "_law_is_chain" Pm ae mX)
  (xR:nS K "_law_due" (.ref dk)) (pC:AR K "_law_due" "_law_due" XN dk mi)
  (de:nS K "law" (.ref gM)) (cC:AR K "law" "law" LF gM zy)
  (qd:nN K "all")
  (ZCR:nN K "bool")
  (ug:nN K "enumerate")
  (sI:nN K "int")
  (tE:nN K "isinstance")
  (vt:nN K "len")
  (va:nN K "list")
  (xG:nN K "max")
  (ye:nN K "min")
  (yR:nN K "range")
  (jw:nN K "reversed")
  (ZAw:nN K "set")
  (qA:nN K "sorted")
  (qM:nN K "sum")
  (yj:nN K "tuple")
  (zY:nN K "zip")
  (qK:nS K "LETTERS" (.str "abcdefghijklmnopqrstuvwxyz" XJ))
  (ZB2:nS K "MOST_IN_CROWD" (.int 12 Y4))
  (nc:nS K "MOST_KINDS" (.int 8 Wf))
  (mW:nS K "MOST_LETTERS" (.int 8 Ua))
  (tU:nS K "MOST_PUTS" (.int 6 X3))
  (ql:nS K "RULES" (.ref JP))
  {nG oZ mV:Tok}(ZBm:K.lookup JP=some ⟨.type "tuple", wy,.seq #[.str "none" nG,.str "ahead" oZ,.str "all" mV] wU,pY⟩)
  (ZBR:nS K "WHERES" (.ref Ja))
  {qZ ZBZ zQ sC:Tok}(kb:K.lookup Ja=some ⟨.type "tuple", jm,.seq #[.str "next" qZ,.str "last" ZBZ,.str "back" zQ,.str "first" sC] se,ZBQ⟩)
  (ky:nS K "WHERES_AHEAD" (.ref Fh))
  {ZAy yo:Tok}(uR:K.lookup Fh=some ⟨.type "tuple", wb,.seq #[.str "next" ZAy,.str "last" yo] wD,tO⟩)
  : ∃ fd:FuncData,(∀ (s:Shared) (v:Value),BindsTo s fd ⟨[v],[]⟩ [("script", v)])/\∀ base:Heap,K.In base->base.Ns mainGlobals mg->DD l.prog w K mg base FU 19 fa fd ["script"] (NR K):=by
 have e:=nv.symm.trans (BG X G de);cases e;have FA:Dy K A7:=⟨lI,nH,vX,yE⟩;have yQ:Mk K A7 RH:=⟨me,kT,zr,kF⟩;have ZCF:Meth K A7 "words" PM:=⟨ux,rq,cj.kp⟩;have xV:Meth K A7 "puts" Pw:=⟨zF,rK,bG.kp⟩;have Ho:=FF X G qd;have Xh:=FF X G ZCR;have U3:=FF X G ug;have Qh:=FF X G sI;have X2:=FF X G tE;have Ax:=FF X G vt;have Cq:=FF X G va;have FN:=FF X G xG;have Tn:=FF X G ye;have DV:=FF X G yR;have T9:=FF X G jw;have ML:=FF X G ZAw;have Sf:=FF X G qA;have Sk:=FF X G qM;have EB:=FF X G yj;have MF:=FF X G zY;have T5:=BG X G qK;have Uk:=BG X G ZB2;have YC:=BG X G nc;have Xx:=BG X G mW;have U7:=BG X G tU;have Uo:=BG X G ql;have TM:∀ H,Aq K H JP [.str "none", .str "ahead", .str "all"]:=fun H=>.inr ⟨_,_,_,ZBm,rfl,rfl,(by show 3<=sizeLine;decide +kernel),(.cons ⟨_,rfl⟩ (.cons ⟨_,rfl⟩ (.cons ⟨_,rfl⟩ .nil)))⟩;have Vp:=BG X G ZBR;have Tg:∀ H,Aq K H Ja [.str "next", .str "last", .str "back", .str "first"]:=fun H=>.inr ⟨_,_,_,kb,rfl,rfl,(by show 4<=sizeLine;decide +kernel),(.cons ⟨_,rfl⟩ (.cons ⟨_,rfl⟩ (.cons ⟨_,rfl⟩ (.cons ⟨_,rfl⟩ .nil))))⟩
 have MR:=BG X G ky;have LU:∀ H,Aq K H Fh [.str "next", .str "last"]:=fun H=>.inr ⟨_,_,_,uR,rfl,rfl,(by show 2<=sizeLine;decide +kernel),(.cons ⟨_,rfl⟩ (.cons ⟨_,rfl⟩ .nil))⟩
 have XQ:=BG X G uA;obtain ⟨_,_,kV,dc,pm,an,cd,ct,_,rfl,_,_⟩:=id cC.ex;refine ⟨PySem.W.fnOf "law" "law" (NM LF) (Jy LF) (Ad LF) .none kV dc pm an cd ct,fun s v=>.of_eq rfl,fun base _ _=>?_⟩;have BS:=zx (P:=l.prog) (w:=w) (base:=base) F1 (BG X G a1);have NF:=pE (P:=l.prog) (w:=w) (base:=base) F2 (BG X G a2);have Xg:=oM (P:=l.prog) (w:=w) (base:=base) NF BS Ax F3 (BG X G a3);have Ww:=kA (P:=l.prog) (w:=w) (base:=base) Xg DV F4 (BG X G a4);have TC:=rH (P:=l.prog) (w:=w) (base:=base) BS DV Ww FN EB F5 (BG X G a5);have IB:=si (P:=l.prog) (w:=w) (base:=base) F6 (BG X G a6);have Sj:=ZBF (P:=l.prog) (w:=w) (base:=base) IB Vp Tg F7 (BG X G a7);have VF:=tw (P:=l.prog) (w:=w) (base:=base) Ax Ho T5 Xx F8 (BG X G a8);have SY:=xJ (P:=l.prog) (w:=w) (base:=base) Ax Sj VF U3 YC U7 F9 (BG X G a9);have VH:=lr (P:=l.prog) (w:=w) (mg:=mg) (base:=base) (A7:=A7) EB SY FA Pd GX nL yQ;have V7:=og (P:=l.prog) (w:=w) (base:=base) (A7:=A7) VH Cq XQ lF (BG X G xr);have Qd:=rV (P:=l.prog) (w:=w) (base:=base) Ax xY (BG X G y4);have V0:=ZBi (P:=l.prog) (w:=w) (base:=base) BS Ax DV uc (BG X G vF);have Uv:=zE (P:=l.prog) (w:=w) (base:=base) BS xn (BG X G wN);have D9:=ZBO (P:=l.prog) (w:=w) (base:=base) lZ (BG X G nR);have HW:=ZC3 (P:=l.prog) (w:=w) (base:=base) Cq D9 uh (BG X G pH);have Ll:=vS (P:=l.prog) (w:=w) (base:=base) D9 HW xP (BG X G sg);have Qa:=tI (P:=l.prog) (w:=w) (base:=base) Ax Cq D9 oo (BG X G a18);have UA:=tY (P:=l.prog) (w:=w) (base:=base) D9 HW Qa F19 (BG X G mP);have Ui:=ZC8 (P:=l.prog) (w:=w) (base:=base) BS Ax qh (BG X G xu);have S7:=qY (P:=l.prog) (w:=w) (base:=base) BS Ax Cq T9 qI (BG X G uK);have Vy:=wB (P:=l.prog) (w:=w) (base:=base) FN EB Ho D9 HW Qh MF tX (BG X G kJ);have Lo:=ya (P:=l.prog) (w:=w) (base:=base) Vy m8 (BG X G kh);have UY:=ZBj (P:=l.prog) (w:=w) (base:=base) BS Ax Cq UA Ll S7 Ui Lo ML Sf sS (BG X G mB);have Ss:=vC (P:=l.prog) (w:=w) (base:=base) Uo TM nC (BG X G kM);have FE:=ZAQ (P:=l.prog) (w:=w) (mg:=mg) (base:=base) (A7:=A7) FA GX Cq cj ZCF;have WW:=ZAL (P:=l.prog) (w:=w) (base:=base) (A7:=A7) Ax IB FE Uk oB (BG X G vQ);have V8:=ZBN (P:=l.prog) (w:=w) (mg:=mg) (base:=base) (A7:=A7) IB FA GX Cq bG xV;have FW:=zN (P:=l.prog) (w:=w) (base:=base) (A7:=A7) V8 MR LU t6 (BG X G pF);have M6:=sG (P:=l.prog) (w:=w) (base:=base) (A7:=A7) FW zu (BG X G zv);have Lq:=xk (P:=l.prog) (w:=w) (base:=base) (A7:=A7) Ax Ho MF ML FE M6 yD (BG X G nQ);have UD:=ko (P:=l.prog) (w:=w) (base:=base) (A7:=A7) Ax M6 Lq nO (BG X G lE);have X6:=t5 (P:=l.prog) (w:=w) (base:=base) (A7:=A7) Ax Lq su (BG X G oX);have NJ:=zM (P:=l.prog) (w:=w) (base:=base) (A7:=A7) FW F34 (BG X G a34);have Ux:=xN (P:=l.prog) (w:=w) (base:=base) (A7:=A7) F35 (BG X G ja) NJ;have NT:=zT (P:=l.prog) (w:=w) (base:=base) DV Sk F36 (BG X G tH);have N2:=ZCG (P:=l.prog) (w:=w) (base:=base) MR LU F37 (BG X G sx);have OY:=ZCE (P:=l.prog) (w:=w) (base:=base) (A7:=A7) Ax FN EB FE FW N2 NT qF (BG X G sf);have XG:=ZAH (P:=l.prog) (w:=w) (base:=base) (A7:=A7) zo (BG X G yK) OY
 have Y9:=sV (P:=l.prog) (w:=w) (base:=base) (A7:=A7) FE XG F40 (BG X G rZ);have Up:=ZBx (P:=l.prog) (w:=w) (base:=base) (A7:=A7) WW Ss UD X6 Y9 Ux wI (BG X G oA);have Qb:=tf (P:=l.prog) (w:=w) (base:=base) Ax DV D9 oy (BG X G o7);have Tv:=lu (P:=l.prog) (w:=w) (base:=base) D9 Ll Lo Qb pC (BG X G xR);exact uD (P:=l.prog) (w:=w) (base:=base) (A7:=A7) Ax DV FN EB Cq V7 V0 Tv TC Qd Uv UY Up Xh X2 Tn cC (BG X G de)
def walk {q:Program}{loose:List Str}{XP:(ZE8)->Heap->Prop}{YP:World->Heap->Prop}{d:DefRec}{K:Params->ZE6}(hn:l.most=some 63)(NZ:d.params.defaults=[])
  (hY:∀ (w:World) (h:Heap),YP w h->(K w.params).In h)
  (F:∀ (w:World) (mg:ZE8) (fa:Addr) (h:Heap),(K w.params).In h->h.Ns mainGlobals mg->mg d.name=some (.ref fa)->
   ∃ fd:FuncData,(∀ (s:Shared) (u:Value),BindsTo s fd ⟨[u],[]⟩ [("script", u)])/\∀ base:Heap,(K w.params).In base->base.Ns mainGlobals mg->DD l.prog w (K w.params) mg base FU 19 fa fd ["script"] (NR (K w.params))) :
  PySem.W.WalkO q loose XP YP l.row.toRowW d [] (fun f vs=>PySem.call f vs):=
 L2.ZBC (n:=63) (k:=19) (x:="script") (CX:=fun _=>FU) (sp:=fun w=>NR (K w.params)) hn (by decide) NZ ⟨rfl,by decide,by decide⟩ hY F (fun _ _ a ns hl _ hS=>⟨a,ns,rfl,hS,hl,fun _=>rfl⟩) fun _ _ _ _ _ z=>z
end Pf
open PySem.W
local macro_rules | `(tactic| walk_at "kF")=>`(tactic| (refine' L2.ml ?_ ?_ ?_;all_goals try k_is;all_goals k_is))
set_option maxRecDepth 100000 in
set_option maxHeartbeats 0 in
theorem PySem.Challenge.cw_stirround_k77_endings_judged_holds : PySem.Challenge.rw_stirround_k77_endings_judged.Holds := by
 w_on;o_law;k_head;(case hw=>w_witness2)
 k_fill
 refine Pf.walk (l:=PySem.Challenge.rw_stirround_k77_endings_judged) rfl rfl (fun w h Y=>PySem.W.kIn_of Y) ?F
 case F=>
  intro w mg fa h KX G Nf;refine' Pf.all_mk KX G Nf ?_ ?_ ?_ ?_ ?_ ?_ ?_ ?_ ?_ ?_ ?_ ?_ ?_ ?_ ?_ ?_ ?_ ?_ ?_ ?_ ?_ ?_ ?_ ?_ ?_ ?_ ?_ ?_ ?_ ?_ ?_ ?_ ?_ ?_ ?_ ?_ ?_ ?_ ?_ ?_ ?_ ?_ ?_ ?_ ?_ ?_ ?_ ?_ ?_ ?_ ?_ ?_ ?_ ?_ ?_ ?_ ?_ ?_ ?_ ?_ ?_ ?_ ?_ ?_ ?_ ?_ ?_ ?_ ?_ ?_ ?_ ?_ ?_ ?_ ?_ ?_ ?_ ?_ ?_ ?_ ?_ ?_ ?_ ?_ ?_ ?_ ?_ ?_ ?_ ?_ ?_ ?_ ?_ ?_ ?_ ?_ ?_ ?_ ?_ ?_ ?_ ?_ ?_ ?_ ?_ ?_ ?_ ?_ ?_ ?_ ?_ ?_ ?_ ?_ ?_ ?_ ?_ ?_ ?_ ?_ ?_ ?_ ?_ ?_ ?_ ?_ ?_
  any_goals first | k_is | (show _=_;k_is) | kernel_rfl | walk_at "kF"
#print axioms PySem.Challenge.cw_stirround_k77_endings_judged_holds
