import PyProof.Rows.All
import Wide.All
import OpenK.AllK
import Wide.FinOn
import Lean
import PyProof.EqAt
import PyProof.EqKinds
import PyProof.TupleCall
import KE.KRevIter
import PyProof.CallType
import PyProof.EnumMake
import PyProof.EnumFor
import PyProof.Draws
import PyProof.Rows.CallKwBuiltin
import PyProof.StrBlockH
import KE.KIntText
import PyProof.Rows.SortStr
import PyProof.TupleIter
import PyProof.ZipIter
import PyProof.Rows.ZipGen
import PyProof.Rows.TupAdd
import KE.KLcPair
import PyProof.IsRules
import PyProof.ListRange
import PyProof.NeKinds
import KE.KTryMore
import OpenK.KOwn
import PyProof.ExcInit
import PyProof.FString
import PyProof.ReprStr
import PyProof.StrLawsRepr
import PyProof.CallStr
import OpenK.KCls
import PyProof.ExcArgsOwn
import PyProof.Rows.StrJoin2
import PyProof.FactsAll.set_2
import PyProof.MeetsSeq2
import PyProof.Rows.Range3
import PyProof.Rows.ChunkLeaf
import PyProof.DictWalks
import PyProof.ListMulRoad
import PyProof.ListCopy
import PyProof.Rows.SumAny
import PyProof.ListIndex
import PySem.Challenge.RW_stirround_k62_yards_led
def j7:=@PySem.wpAny_bind
def j9:=@PySem.wpAny_pure
def jG:=@if_neg
def jO:=@decide_eq_true
def jd:=@if_pos
def jw:=@of_decide_eq_true
def jx:=@decide_eq_false
def kg:=@PySem.wpAny_mono
def ky:=@PySem.wpAny_newObj_type
def lD:=@PySem.wpAny_truthy_bool
def lq:=@PySem.wpAny_holding
def lx:=@beq_self_eq_true
def mP:=@PySem.codeAny_builtin
def nH:=@PySem.wpAny_call_entry
def nU:=@PySem.wpAny_callSpecial?_slot
def o7:=@congrArg
def o8:=@PySem.builtinLookup_eq_fast
def oZ:=@PySem.wpAny_Call_Name_kw
def oa:=@PySem.wpAny_typeOf
def p0:=@PySem.isSubtype_type
def pN:=@PySem.wpAny_updateSeq
def pS:=@PySem.wpAny_passesOwn
def pT:=@PySem.wpAny_setState_of
def pV:=@PySem.plainId_quiet
def qG:=@PySem.wpAny_setEntries_of
def qL:=@PySem.wpAny_isInstance
def qV:=@PySem.wpAny_askSetting
def qg:=@PySem.wpAny_specialOf
def qx:=@PySem.wpAny_ite_split
def rH:=@PySem.typeLookup_type
def rV:=@or_false
def ra:=@PySem.wpAny_setField
def sS:=@PySem.codeAny_extend_loopS
def uO:=@PySem.tupleKind_room_in1
def uQ:=@PySem.wpAny_of_eq
def ur:=@PySem.codeAny_mono
def vL:=@PySem.wpAny_execs_nil
def vg:=@PySem.wpAny_rule
def wC:=@PySem.wpAny_load
def wU:=@PySem.wpAny_runValue
def xD:=@PySem.wpAny_fieldsOf
def xM:=@PySem.wpAny_pyIter_list
def yt:=@PySem.wpAny_pyIter_dict
def zJ:=@PySem.fits_of_scanBound
def ZA0:=@PySem.wpAny_attempt
def ZA3:=@PySem.noFill_tuple_add
def ZA4:=@PySem.sizeLine_eq
def ZA5:=@if_true
def ZAJ:=@if_false
def Ab:=@List.length_map
def Ao:=@Nat.le_refl
def Au:=@List.not_mem_nil
def Ax:=@List.getElem?_map
def Ay:=@PySem.W.mg_of
def B8:=@PySem.Heap.lt_size
def BE:=@List.getElem?_eq_getElem
def BF:=@PySem.Heap.get?_push_of_some
def BK:=@Nat.ne_of_lt
def BN:=@List.length_cons
def BO:=@Option.some.inj
def BS:=@Ne.symm
def BU:=@PySem.Heap.get?_push_size
def Bl:=@List.length_append
def Bs:=@List.map_cons
def Bt:=@List.size_toArray
def C1:=@List.length_take
def C2:=@Nat.zero_le
def C8:=@List.append_assoc
def CK:=@List.nodup_append
def CQ:=@List.getElem?_set_ne
def CZ:=@List.getElem?_set_self
def Ci:=@Nat.le_trans
def Cu:=@List.mem_cons_self
def D4:=@List.mem_append_right
def D5:=@Nat.lt_of_lt_of_le
def DJ:=@Bool.false_ne_true
def DK:=@List.mem_of_getElem?
def DT:=@List.mem_cons
def Dg:=@Bool.and_eq_true
def Dh:=@List.map_append
def Di:=@List.mem_cons_of_mem
def Dy:=@PySem.Heap.size_push
def Dz:=@List.length_drop
def EC:=@Nat.le_succ
def EW:=@List.append_nil
def En:=@PySem.W.mg_none_of
def FN:=@PySem.Heap.get?_update_self
def FO:=@List.zip_cons_cons
def Fm:=@Array.length_toList
def Fn:=@PySem.Heap.get?_update_other
def Fo:=@Int.eq_ofNat_of_zero_le
def Fp:=@List.length_set
def GN:=@List.lookup_cons
def HB:=@List.all_eq_true
def HC:=@List.map_map
def HD:=@List.mem_append_left
def HE:=@Nat.lt_succ_of_lt
def HF:=@PySem.W.kia_one
def Hs:=@List.getElem?_append_left
def Ht:=@List.mem_append
def Hu:=@Nat.lt_of_le_of_lt
def Hv:=@PySem.PassesOwn.never
def Hw:=@PySem.F.plainAttrs_list
def KH:=@Int.emod_lt_of_pos
def KI:=@Int.emod_nonneg
def KJ:=@List.getElem_mem
def KL:=@List.take_append_drop
def KN:=@Nat.le_of_lt
def KO:=@Nat.lt_irrefl
def KP:=@Nat.lt_succ_self
def KQ:=@Nat.ne_of_gt
def KR:=@PySem.Obj.data_mapFields
def KS:=@PySem.mem_of_lookup
def Lf:=@PySem.Around.under_plainId
def Lg:=@Bool.eq_iff_iff
def Lh:=@Bool.true_and
def Li:=@List.any_cons
def Lj:=@List.getD_eq_getElem?_getD
def Lk:=@List.getElem?_append_right
def Ll:=@List.length_filter_le
def Lm:=@List.map_drop
def Ln:=@List.map_take
def Lo:=@List.take_length
def Nr:=@List.find?_cons
def Nt:=@List.getElem?_eq_none
def Nu:=@List.length_reverse
def Nv:=@List.length_zip
def Nw:=@List.nodup_nil
def Nx:=@Nat.min_eq_left
def Ny:=@PyProof.Rows.callWith_type1
def Nz:=@PySem.F.slot_list_append
def O0:=@PySem.F.type_list_append
def RC:=@Array.getElem?_eq_getElem
def RD:=@Array.getElem?_toList
def RE:=@PySem.Heap.SameBut.update
def RF:=@List.Perm.refl
def RG:=@List.all_cons
def RH:=@List.getElem?_range
def RI:=@List.set_cons_succ
def RJ:=@List.set_cons_zero
def RK:=@Nat.succ.inj
def RL:=@Option.map_some
def Xg:=@Bool.and_false
def Xh:=@PySem.F.plain_list_iadd
def Xi:=@Int.toNat_natCast
def Xj:=@PySem.ItemsOf.nil
def Xk:=@List.cons_lt_cons_iff
def Xl:=@List.drop_zero
def Xm:=@List.eraseIdx_cons_succ
def Xn:=@List.filter_append
def Xo:=@List.filter_cons
def Xp:=@List.foldl_cons
def Xq:=@List.getElem_idxOf
def Xr:=@List.length_nil
def Xs:=@List.length_replicate
def Xt:=@List.nil_append
def Xu:=@List.of_mem_zip
def Xv:=@List.take_of_length_le
def Xx:=@List.take_succ_eq_append_getElem
def Xy:=@Nat.le_succ_of_le
def Xz:=@Nat.le_total
def Y0:=@Nat.min_eq_right
def Y1:=@Nat.min_self
def Y2:=@Nat.sub_zero
def Y3:=@PySem.Obj.isFreed_of_fields
def Y4:=@Option.isSome_map
def Y5:=@PyProof.Rows.slot_tuple_getitem
def Y6:=@PySem.F.slot_list_index
def Y7:=@PySem.Walks.dictKeys
def iK:=@PySem.Around.in1_handled
def iL:=@Array.getElem?_eq_none
def iM:=@Bool.and_true
def iN:=@PySem.Calls.spliced_cons
def iO:=@PySem.Calls.spliced_nil
def iP:=@Int.toNat_of_nonneg
def iQ:=@List.cons_append
def iR:=@List.ext_getElem
def iS:=@List.ext_getElem?
def iT:=@List.filterMap_cons
def iU:=@List.filter_map
def iV:=@List.forIn_nil
def iW:=@List.getElem?_replicate
def iX:=@List.idxOf_cons
def iY:=@List.length_erase_of_mem
def iZ:=@List.length_range
def ia:=@List.length_singleton
def ib:=@List.map_id'
def ic:=@List.map_nil
def ie:=@List.mem_erase_of_ne
def ig:=@List.mem_filter
def ij:=@List.set_getElem_self
def ik:=@List.set_set
def il:=@Nat.le_of_eq
def ip:=@Nat.le_of_lt_succ
def iq:=@PySem.Obj.cls_mapFields
def ir:=@PySem.Paired.length
def iu:=@PyProof.Rows.F.plain_set_update_loop
def iw:=@PySem.F.args_tuple_add_2
def iy:=@PySem.F.entry_tuple_add
def iz:=@PySem.F.plain_extend_loop
def j3:=@PySem.F.slot_tuple_add
def j4:=@PySem.F.type_list_index
def j5:=@PySem.W.callWith_K
def j6:=@PySem.W.plainGet_of
def ZCa:=@Array.toList_push
def ZCb:=@PySem.Calls.Name_function_global
def ZCc:=@PySem.Calls.callWith_builtin
def ZCd:=@Int.lt_of_le_of_lt
def ZCe:=@List.Pairwise.map
def ZCf:=@List.Sublist.refl
def ZCg:=@List.any_eq_false
def ZCh:=@List.any_eq_true
def ZCi:=@List.drop_eq_getElem_cons
def ZCj:=@List.eq_of_mem_replicate
def ZCk:=@List.eraseIdx_sublist
def ZCl:=@List.filter_congr
def ZCm:=@List.filter_eq_self
def ZCn:=@List.getElem?_drop
def ZCo:=@List.getElem?_toArray
def ZCp:=@List.getElem_inj
def ZCq:=@List.length_eraseIdx
def ZCr:=@List.length_eraseIdx_of_lt
def ZCs:=@List.length_pos_of_mem
def ZCt:=@List.map_replicate
def ZCu:=@List.map_reverse
def ZCv:=@List.mem_of_mem_eraseIdx
def ZCw:=@List.mem_of_mem_head?
def ZCx:=@List.mem_of_mem_take
def ZCy:=@List.mem_or_eq_of_mem_set
def ZCz:=@List.replicate_succ
def ZD0:=@List.replicate_succ'
def ZD1:=@List.reverse_cons
def ZD2:=@Nat.le_of_not_lt
def ZD3:=@Nat.lt_trichotomy
def ZD4:=@Nat.min_le_right
def ZD5:=@Nat.not_lt_of_le
def ZD6:=@Option.getD_none
def ZD7:=@Option.getD_some
def ZD8:=@Option.isSome_some
def ZD9:=@PyProof.Rows.F.entry_set_update_loop
def ZDA:=@PySem.F.plain_set_new
def ZDB:=@PySem.F.slot_dict_pop
def ZDC:=@PySem.F.slot_list_insert
def ZDD:=@PySem.F.slot_tuple_index
def ZDE:=@PySem.W.cellsFrom_some
def ZDF:=@PySem.W.kitx_dict
def ZDG:=@PySem.W.kitx_list
def ZDH:=@PySem.W.methodCall_KW
def ZDI:=@PySem.strKind_is
open PySem PySem.Spec PyProof.Rows
abbrev ZE5:=PySem.W.Frag
abbrev ZE6:=(List (Addr×Obj))
abbrev ZE7:=(Str->Option Value)
namespace PySem.W.Fast
def tw6622662017530807531:=0
def tw517354656545782519:=0
def tw5158165336688769717:=0
def tw13999368539233908153:=0
def tw16600987288257797571:=0
def tw3432922468321445242:=0
def tw10703178862994801360:=0
def tw17254151413636945896:=0
def tw4863569901335678048:=0
def tw4259957031607215217:=0
def tw7044079655954226466:=0
def tw17926501340228450006:=0
def tw15541923743083168526:=0
def tw10978645850495121817:=0
def tw3868306306235269090:=0
def tw12929343782005762583:=0
def tw8735893682358635803:=0
def tw8770920576891845199:=0
def tw17179044921064594115:=0
def tw5281710744214868288:=0
def tw5319088304610612817:=0
def tw6721916074805869193:=0
def tw1046620952189662639:=0
def tw4390793222858280908:=0
def tw15428063854418908604:=0
def tw12957497733096059655:=0
def tw12172572310448812587:=0
def tw1588196065464075870:=0
def tw16865888074480237026:=0
def tw7016212956189505403:=0
def tw8666453113314273547:=0
def tw16203942768485466889:=0
def tw6728355115494897716:=0
def tw8765284075605999403:=0
def tw13329891414196798290:=0
def tw14871170916746021833:=0
def tw12903576122779113869:=0
def tw16727157658601190661:=0
def tw17140700875307176299:=0
def tw12685549764194681877:=0
def tw6443522186390017989:=0
def tw3066542131622889374:=0
def tw7405053133963668438:=0
def tw5764553529856822287:=0
def tw11192731031321936496:=0
def tw15961825648465257368:=0
def tw10836649495844607015:=0
def tw1692130688908373128:=0
def tw13927196510440370471:=0
def tw14076379301897344892:=0
def tw92977385019710654:=0
def tw6367902612908135827:=0
def tw3719406122270265880:=0
def tw6121860601169700866:=0
def tw18323105287474497341:=0
def tw2758182431166688737:=0
def tw10520706573371051211:=0
def tw15866235285608803449:=0
def tw8077850965275508574:=0
def tw18169988671799700457:=0
def tw14350477497844473887:=0
def tw400937186163508734:=0
def tw17810478347171307343:=0
def tw17079501785476259459:=0
def tw11940621685317406219:=0
def tw2934592107917000229:=0
def tw5119654994153839842:=0
def tw17844317104097403138:=0
def tw13580748575560528667:=0
def tw1598007050839301733:=0
def tw3127978441128373486:=0
def tw8669947328502773816:=0
def tw2528056951878803104:=0
def tw7353769251993436531:=0
def tw10244471022087939536:=0
def tw5091924740083686771:=0
def tw15348031092442587248:=0
def tw7120042711302050100:=0
def tw11540840703343273493:=0
def tw13795814648654127845:=0
def tw5848293594058277661:=0
def tw3078626166711129784:=0
def tw17473754148057956711:=0
def tw5983443332182604648:=0
def tw13008758494340034277:=0
def tw1059004667312907689:=0
def tw11373718138124800900:=0
def tw12081621438972174263:=0
def tw13296348283258541820:=0
def tw10024431948429134471:=0
def tw8666192196728750484:=0
def tw9767155289081387326:=0
def tw3850118992920105504:=0
def tw8990972683114456705:=0
def tw13223766076850043984:=0
def tw13826370324608851209:=0
def tw13883938480029671554:=0
def tw11070023458177715169:=0
def tw16466761913630086075:=0
def tw788178147207468421:=0
def tw7222965480140515512:=0
def tw16029399395192475432:=0
def tw6338938445739216049:=0
def tw17735232209982994405:=0
def tw3340729692831940825:=0
def tw7985336395125735984:=0
def tw15579973747390207305:=0
def tw7138147975417743006:=0
def tw16608049088631808871:=0
def tw6569223774638886507:=0
def tw7199654351736515755:=0
def tw7296148497387823139:=0
def tw13019906685389946567:=0
def tw11979374319752144745:=0
def tw10561313523780483194:=0
def tw8392149921440654659:=0
def tw7633713101475335362:=0
def tw5577997758593649138:=0
def tw17954571750863762905:=0
def tw4838969391821986243:=0
def tw16254685792697428366:=0
def tw6480567106632882962:=0
def tw11799671655282576046:=0
def tw17753330246778674056:=0
def tw9314311481380164930:=0
def tw14125140728592464177:=0
def tw1466964144209741514:=0
def tw8841558128540359157:=0
def tw5362479421845073021:=0
def tw7933157993944973560:=0
def tw13835660752099867282:=0
def tw7303267630248432398:=0
def tw7689410879965253711:=0
def tw7659563631525847062:=0
def tw15681248672206375974:=0
def tw16368688320036189516:=0
def tw17847870961246910519:=0
def tw7237224378688203761:=0
def tw7625195918034476591:=0
def tw14425778812626361568:=0
def tw17568377093555795408:=0
def tw11064005804893647516:=0
def tw16517222766818646442:=0
def tw1527344495470900106:=0
def tw4145083249852771534:=0
def tw7862652232203848045:=0
def tw10368515441670411972:=0
def tw14252266436544401463:=0
def tw29819996691209580:=0
def tw3778989195835458164:=0
def tw9544564083201137952:=0
def tw14970404543117711262:=0
def tw2419121578053592784:=0
def tw17989618686457978213:=0
def tw8420264788641842145:=0
def tw16251036462160978207:=0
def tw15189923289107898419:=0
def tw7225702996068798148:=0
def tw8952814215620592790:=0
def tw15800669077211023091:=0
def tw7149797907990039473:=0
def tw1713290967744780625:=0
def tw5698136325776779847:=0
def tw15233942480763149984:=0
def tw903240816647914767:=0
def tw9607336088655710006:=0
def tw16313793908533611198:=0
def tw17545043025046146413:=0
def tw4131809482878613731:=0
def tw15077184965053491541:=0
def tw9680099540764247226:=0
def tw14209973745788612895:=0
def tw15757656080829888872:=0
def tw4613988361264822558:=0
def tw12183351649742912623:=0
def tw9817112435691045662:=0
def tw13260569781997581171:=0
def tw1708347805763104561:=0
def tw15264702334621028088:=0
def tw16201234691070359223:=0
def tw4727339408656132393:=0
def tw425365580167316226:=0
def tw18257914181327169783:=0
def tw7563966759325743041:=0
def tw3031544677578122149:=0
def tw1176797855217701116:=0
def tw4499684919289702311:=0
def tw2573615575536822186:=0
def tw1305193867581988646:=0
def tw3003354097451046218:=0
def tw8606762720130748041:=0
def tw6221307230555821504:=0
def tw8797378829953130692:=0
def tw2726944856112345917:=0
def tw9235746245865705960:=0
end PySem.W.Fast
set_option bootstrap.genMatcherCode false
set_option Elab.async false
set_option linter.all false
set_option maxRecDepth 100000
namespace L2
variable {α κ:Type}{C a b dx it:Addr}{c cd u:Value}{w:World}{base h':Heap}{m name qual x:Str}{e tg:Expr}{ZC pins:ZE6}{s s':Shared}{g':Array GenState}{i j n t' tk:Nat}{d':Drawn}{ch fp:List Addr}{N ks ns ps:List Str}{M:Model}{A:Around}{E Q:Value->Shared->Prop}{ZDY pos:Pos}{op:CmpOp}{es rest:List Expr}{f:Value->Value->Sem Value}{pl:Sem Bool}{ds us:List Value}{mA mg:ZE7}{prog:Program}{kw:List (Str×Value)}{fd:FuncData}{outer:List Env}{sc scope:Scope}
abbrev Key:=Sum Int Str
def HW:Key->Value->Bool
 | .inl k,v=>Value.isInt k v
 | .inr x,v=>Value.isStrOf x v
def nv (w:World):Key->Int
 | .inl k=>hashInt k
 | .inr x=>hashStr w x
theorem Fj:∀ {k:Key}{v:Value},HW k v=true->(∃ i t,k=Sum.inl i/\v=Value.int i t)∨(∃ x t,k=Sum.inr x/\v=Value.str x t)
 | .inl i,v,h=>by
  obtain ⟨t,e⟩:=Value.isInt_shape (k:=i) (v:=v) h;exact .inl ⟨i,t,rfl,e⟩
 | .inr x,v,h=>by
  obtain ⟨t,e⟩:=Value.isStrOf_shape (x:=x) (v:=v) h;exact .inr ⟨x,t,rfl,e⟩
theorem lM (i:Int)(t:Tok):HW (.inl i) (.int i t)=true:=by simp [HW,Value.isInt]
theorem ZBO (x:Str)(t:Tok):HW (.inr x) (.str x t)=true:=by simp [HW,Value.isStrOf]
theorem ZBM (a b:Int):decide ((Sum.inl a:Key)=Sum.inl b)=(a == b):=by
 by_cases e:a=b
 ·subst e;simp
 ·have h:¬ (Sum.inl a:Key)=Sum.inl b:=fun q=>e (Sum.inl.inj q);rw [jx h];exact (beq_eq_false_iff_ne.mpr e).symm
theorem xk (a b:Str):decide ((Sum.inr a:Key)=Sum.inr b)=decide (a=b):=by
 by_cases e:a=b
 ·subst e;simp
 ·have h:¬ (Sum.inr a:Key)=Sum.inr b:=fun q=>e (Sum.inr.inj q);rw [jx h,jx e]
theorem zy (a:Int)(b:Str):decide ((Sum.inl a:Key)=Sum.inr b)=false:=jx (fun q=>nomatch q)
theorem qU (a:Str)(b:Int):decide ((Sum.inr a:Key)=Sum.inl b)=false:=jx (fun q=>nomatch q)
def Bo (prog:Program)(w:World):PySem.KeyKind prog w Key where
 is:=HW
 hash:=nv w
 inj:=fun v a b ha hb=>by
  rcases Fj ha with ⟨i,t,rfl,rfl⟩ | ⟨x,t,rfl,rfl⟩
  ·rcases Fj hb with ⟨j,u,rfl,e⟩ | ⟨y,u,rfl,e⟩
   ·injection e with e1 _;rw [e1]
   ·exact nomatch e
  ·rcases Fj hb with ⟨j,u,rfl,e⟩ | ⟨y,u,rfl,e⟩
   ·exact nomatch e
   ·injection e with e1 _;rw [e1]
 byValue:=fun k v h=>by
  rcases Fj h with ⟨i,t,rfl,rfl⟩ | ⟨x,t,rfl,rfl⟩ <;> rfl
 pyHash:=fun hv h=>by
  rcases Fj hv with ⟨i,t,rfl,rfl⟩ | ⟨x,t,rfl,rfl⟩
  ·exact wpAny_pyHash_int h
  ·exact wpAny_pyHash_str h
 eqBool:=fun hu hv h=>by
  rcases Fj hu with ⟨i,t,rfl,rfl⟩ | ⟨x,t,rfl,rfl⟩
  ·rcases Fj hv with ⟨j,u,rfl,rfl⟩ | ⟨y,u,rfl,rfl⟩
   ·rw [ZBM] at h;exact wpAny_eqBool_int h
   ·rw [zy] at h;exact SeqAt.EqAt.int_str i t y u _ _ _ _ h
  ·rcases Fj hv with ⟨j,u,rfl,rfl⟩ | ⟨y,u,rfl,rfl⟩
   ·rw [qU] at h;exact SeqAt.EqAt.str_int x t j u _ _ _ _ h
   ·rw [xk] at h;exact wpAny_eqBool_str h
 «strs»:=fun k x t v h=>by
  rcases Fj h with ⟨i,u,rfl,e⟩ | ⟨y,u,rfl,e⟩
  ·exact nomatch e
  ·injection e with e1 _
   subst e1;cases v <;> rfl
theorem tI (prog:Program)(w:World)(i:Int)(t:Tok):(Bo prog w).is (.inl i) (.int i t)=true:=lM i t
theorem uD (prog:Program)(w:World)(x:Str)(t:Tok):(Bo prog w).is (.inr x) (.str x t)=true:=ZBO x t
inductive V where
 | AB | bl (b:Bool) | int (i:Int) | str (x:Str) | FX (b:Array UInt8) | Jr (b:UInt64) | ref (a:Addr) | ty (n:String)
 deriving DecidableEq
variable {v y:V}{Cv vs:List V}
def RelV:V->Value->Prop
 | .AB,u=>u=Value.none
 | .bl b,u=>u=Value.bool b
 | .int i,u=>∃ t,u=Value.int i t
 | .str x,u=>∃ t,u=Value.str x t
 | .FX b,u=>∃ t,u=Value.bytes b t
 | .Jr b,u=>∃ t,u=Value.float b t
 | .ref a,u=>u=Value.ref a
 | .ty n,u=>u=Value.type n
abbrev Vals:List V->List Value->Prop:=Paired RelV
theorem Vals.length {xs:List V}{us:List Value}(r:Vals xs us):xs.length=us.length:=ir r
theorem Vals.get:∀ {xs:List V}{us:List Value}{i:Nat}{x:V},Vals xs us->xs[i]?=some x->∃ u,us[i]?=some u/\RelV x u
 | _,_,_,_,.nil,e=>by simp at e
 | _,_,0,_,.cons r _,e=>by simp at e;subst e;exact ⟨_,rfl,r⟩
 | _,_,i+1,x,.cons _ t,e=>by
  obtain ⟨u,h1,h2⟩:=Vals.get (i:=i) (x:=x) t (by simpa using e)
  exact ⟨u,by simpa using h1,h2⟩
theorem Vals.set {x:V}{u:Value}(r:RelV x u):∀ {xs:List V}{us:List Value}(i:Nat),Vals xs us->Vals (xs.set i x) (us.set i u)
 | _,_,_,.nil=>.nil
 | _,_,0,.cons _ t=>.cons r t
 | _,_,i+1,.cons q t=>.cons q (Vals.set r i t)
theorem Vals.append:∀ {xs ys:List V}{us ws:List Value},Vals xs us->Vals ys ws->Vals (xs++ys) (us++ws)
 | _,_,_,_,.nil,s=>s
 | _,_,_,_,.cons r t,s=>.cons r (Vals.append t s)
theorem Vals.take:∀ {xs:List V}{us:List Value}(n:Nat),Vals xs us->Vals (xs.take n) (us.take n)
 | _,_,0,_=>.nil
 | _,_,_+1,.nil=>.nil
 | _,_,n+1,.cons r t=>.cons r (Vals.take n t)
theorem Vals.drop:∀ {xs:List V}{us:List Value}(n:Nat),Vals xs us->Vals (xs.drop n) (us.drop n)
 | _,_,0,r=>r
 | _,_,_+1,.nil=>.nil
 | _,_,n+1,.cons _ t=>Vals.drop n t
def Dx:Option V->Option Value->Prop
 | some v,some u=>RelV v u
 | none,none=>True
 | _,_=>False
def KV:List (κ×V)->List (κ×Value)->Prop:=Paired fun (p:κ×V) (q:κ×Value)=>p.1=q.1/\RelV p.2 q.2
def kV:Key->V
 | .inl i=>.int i
 | .inr x=>.str x
inductive HO where
 /-- a list -/
 | lst (xs:List V)
 /-- a tuple (never changes) -/
 | tup (xs:List V)
 /-- a dict wb keys are ints and texts;one wb keys are tuples of ints and texts (FG empty one is both) -/
 | dK (A3:List (Key×V)) | dT (A3:List (List Key×V))
 /-- a set of ints: A4 members,A4 size -/
 | set (S:Int->Bool) (n:Nat)
 /-- an instance of FG class at C,A4 dict at dx,A4 attributes -/
 | ins (C dx:Addr) (fs:List (Str×V))
 /-- FG dict of FG instance at x -/
 | own (x:Addr)
 /-- FG dict of an exception -/
 | xd (fs:List (Str×V))
 /-- a bound method,f of x -/
 | met (f x:Addr)
 /-- a range object lo,lo+1,.. below hi -/
 | Sl (lo hi:Int)
 /-- a jL ZDi is known to FG object (FG hV;a dict while a loop walks it): read,never written while it is so -/
 | CG (o:Obj) (u:HO)
 /-- a code ZDx table -/
 | HH (ps:Array Value)
 /-- any other jL,by qz is true of A4 one object (a def of ZDl own: yK a S n:=HO.ext fun h=>..) -/
 | ext (φ:Heap->Prop)
variable {o o':HO}
abbrev Hp:=Addr->Option HO
variable {H H':Hp}
def upd (H:Hp)(a:Addr)(o:HO):Hp:=fun b=>if b=a then some o else H b
theorem AE:upd H a o a=some o:=by unfold upd;rw [jd rfl]
theorem AX (h:b≠a):upd H a o b=H b:=by unfold upd;rw [jG h]
theorem nZ {u:HO}(h:H a=some o)(h':H b=some u)(d:o≠u):a≠b:=by
 intro e;subst e;rw [h] at h';exact d (BO h')
theorem DX (h:H a=some o)(h':H b=none):a≠b:=by
 intro e;subst e;rw [h] at h';cases h'
section
variable (P:Program)(w:World)
def Bm (H:Hp)(h:Heap)(a:Addr):HO->Prop
 | .lst xs=>xs.length<=sizeLine/\∃ (A4:List Value) (n:Nat),Vals xs A4/\h.get? a=some { cls:=.type "list", data:=.seq A4.toArray n }
 | .tup xs=>xs.length<=sizeLine/\∃ A4:List Value,Vals xs A4/\(IsTup h a A4.toArray/\∀ ob,h.get? a=some ob->ob.dict=none)
 | .dK A3=>A3.length<=sizeLine/\(a == sysModules)=false/\∃ vs,KV A3 vs/\h.DictOf (Bo P w) a vs
 | .dT A3=>A3.length<=sizeLine/\(a == sysModules)=false/\∃ xs:List (List Key×Addr×Value),
   Paired (fun (p:List Key×V) (q:List Key×Addr×Value)=>p.1=q.1/\H q.2.1=some (.tup (p.1.map kV))/\RelV p.2 q.2.2) A3 xs/\
   ∃ o es ep,h.get? a=some o/\o.ExactDict/\o.data=.dict es ep/\es.toList=xs.map (entryOfKey (tupleKind (Bo P w)))/\(xs.map (·.1)).Nodup
 | .set S n=>h.SetOf (intKind P w) a S n
 | .ins C dx fs=>H dx=some (.own a)/\fs.length<=1000/\dx≠a/\h.get? a=some (PySem.W.instObj C dx)/\
   ∃ mA,h.Ns1 dx mA/\(∀ f,Dx (fs.lookup f) (mA f))/\PySem.Within mA (fs.map (·.1))
 | .own _=>∃ o,h.get? a=some o
 | .xd fs=>∃ mA,h.Ns1 a mA/\∀ f,Dx (fs.lookup f) (mA f)
 | .Sl lo hi=>∃ t u v,h.get? a=some { cls:=.type "range", data:=.fields #[.int lo t,.int hi u,.int 1 v] }
 | .CG o u=>h.get? a=some o/\Bm H h a u
 | .HH ps=>h.get? a=some { cls:=.none,data:=.fields ps }
 | .met f x=>h.get? a=some (PySem.W.methodObj (.ref f) (.ref x))
 | .ext φ=>φ h/\(∃ o,h.get? a=some o)/\∀ h1 h2:Heap,φ h1->(∀ o,h1.get? a=some o->h2.get? a=some o)->φ h2
def Bp (H:Hp)(h:Heap):Prop:=∀ a o,H a=some o->Bm P w H h a o
end
section
variable {P:Program}{h:Heap}
theorem Bm.lt (x:Bm P w H h a o):a<h.objs.size:=by
 cases o with
 | lst xs=>obtain ⟨_,_,_,_,e⟩:=x;exact B8 e
 | tup xs=>obtain ⟨_,_,_,p⟩:=x;exact p.1.lt
 | dK A3=>obtain ⟨_,_,_,_,o,_,_,e,_⟩:=x;exact B8 e
 | dT A3=>obtain ⟨_,_,_,_,o,_,_,e,_⟩:=x;exact B8 e
 | set S n=>obtain ⟨o,_,_,_,e,_⟩:=x;exact B8 e
 | ins C dx fs=>obtain ⟨_,_,_,e,_⟩:=x;exact B8 e
 | own y=>obtain ⟨_,e⟩:=x;exact B8 e
 | xd fs=>obtain ⟨_,⟨_,_,_,e,_⟩,_⟩:=x;exact B8 e
 | Sl lo hi=>obtain ⟨_,_,_,e⟩:=x;exact B8 e
 | CG ob u=>obtain ⟨e,_⟩:=x;exact B8 e
 | HH ps=>exact B8 (show h.get? a=some _ from x)
 | met f y=>exact B8 (show h.get? a=some _ from x)
 | ext φ=>obtain ⟨_,⟨_,e⟩,_⟩:=x;exact B8 e
theorem Paired.Vw {α β:Type}{F G:α->β->Prop}:∀ {l₁:List α}{l₂:List β},Paired F l₁ l₂->(∀ a b,F a b->G a b)->Paired G l₁ l₂
 | _,_,.nil,_=>.nil
 | _,_,.cons r t,f=>.cons (f _ _ r) (Paired.Vw t f)
theorem Bm.HG (x:Bm P w H h a o)(k:∀ b u,(b=a∨H b=some (.own a))->h.get? b=some u->h'.get? b=some u)
  (ho:∀ b,H b=some (.own a)->H' b=some (.own a)) (ht:∀ b xs,H b=some (.tup xs)->H' b=some (.tup xs)):Bm P w H' h' a o:=by
 induction o with
 | lst xs=>obtain ⟨z,A4,n,r,e⟩:=x;exact ⟨z,A4,n,r,k _ _ (.inl rfl) e⟩
 | tup xs=>obtain ⟨z,A4,r,⟨ob,e,c⟩,dn⟩:=x;exact ⟨z,A4,r,⟨ob,k _ _ (.inl rfl) e,c⟩,fun O2 e'=>by rw [k _ _ (.inl rfl) e] at e';cases e';exact dn _ e⟩
 | dK A3=>obtain ⟨z,y,vs,r,ob,es,ep,e,c⟩:=x;exact ⟨z,y,vs,r,ob,es,ep,k _ _ (.inl rfl) e,c⟩
 | dT A3=>
  obtain ⟨z,y,xs,r,ob,es,ep,e,c⟩:=x;exact ⟨z,y,xs,Paired.Vw r fun p q z=>⟨z.1,ht _ _ z.2.1,z.2.2⟩,ob,es,ep,k _ _ (.inl rfl) e,c⟩
 | set S n=>obtain ⟨ob,es,ep,t,e,c⟩:=x;exact ⟨ob,es,ep,t,k _ _ (.inl rfl) e,c⟩
 | ins C dx fs=>
  obtain ⟨d,z,ne,e,mA,⟨od,es,ep,e2,c⟩,r⟩:=x;exact ⟨ho _ d,z,ne,k _ _ (.inl rfl) e,mA,⟨od,es,ep,k _ _ (.inr d) e2,c⟩,r⟩
 | own y=>obtain ⟨ob,e⟩:=x;exact ⟨ob,k _ _ (.inl rfl) e⟩
 | xd fs=>obtain ⟨mA,⟨od,es,ep,e,c⟩,r⟩:=x;exact ⟨mA,⟨od,es,ep,k _ _ (.inl rfl) e,c⟩,r⟩
 | Sl lo hi=>obtain ⟨t,u,v,e⟩:=x;exact ⟨t,u,v,k _ _ (.inl rfl) e⟩
 | CG ob u ih=>obtain ⟨e,q⟩:=x;exact ⟨k _ _ (.inl rfl) e,ih q⟩
 | HH ps=>
  have e:h.get? a=some { cls:=.none,data:=.fields ps }:=x;show h'.get? a=some { cls:=.none,data:=.fields ps };exact k a _ (.inl rfl) e
 | met f y=>
  have e:h.get? a=some (PySem.W.methodObj (.ref f) (.ref y)):=x;show h'.get? a=some (PySem.W.methodObj (.ref f) (.ref y));exact k a _ (.inl rfl) e
 | ext φ=>obtain ⟨p,⟨o,e⟩,st⟩:=x;exact ⟨st _ _ p fun o q=>k _ _ (.inl rfl) q,⟨o,k _ _ (.inl rfl) e⟩,st⟩
theorem Bp.lt (x:Bp P w H h)(e:H a=some o):a<h.objs.size:=(x a o e).lt
theorem Bp.fresh (x:Bp P w H h)(e:h.objs.size<=a):H a=none:=by
 cases q:H a with
 | none=>rfl
 | some u=>exact absurd (D5 (x.lt q) e) (KO _)
theorem Bp.kept (x:Bp P w H h)(k:∀ b u,h.get? b=some u->h'.get? b=some u):Bp P w H h':=fun a o e=>
 (x a o e).HG (fun b u _ q=>k b u q) (fun _ q=>q) fun _ _ q=>q
theorem Bp.laid (x:Bp P w H h)(k:∀ b u,h.get? b=some u->h'.get? b=some u)(hp:h.objs.size<=a)(new:Bm P w (upd H a o) h' a o):Bp P w (upd H a o) h':=fun b u e=>by
 have hn:=x.fresh hp
 by_cases hb:b=a
 ·subst hb;rw [AE] at e;cases e;exact new
 ·rw [AX hb] at e;exact (x b u e).HG (fun c v _ q=>k c v q) (fun c q=>by rw [AX (DX q hn)];exact q) fun c xs q=>by rw [AX (DX q hn)];exact q
end
def Rd (H:Hp)(a:Addr)(u:HO):Prop:=H a=some u∨∃ o,H a=some (.CG o u)
theorem Rd.ok {P:Program}{h:Heap}{u:HO}(r:Rd H a u)(x:Bp P w H h):Bm P w H h a u:=by
 rcases r with r | ⟨o,r⟩
 ·exact x a u r
 ·obtain ⟨_,q⟩:=x a _ r;exact q
def N6:Option HO->Prop
 | some (.lst _)=>True
 | some (.dK _)=>True
 | some (.dT _)=>True
 | some (.set _ _)=>True
 | some (.ins _ _ _)=>True
 | some (.ext _)=>True
 | _=>False
section
variable {P:Program}{h:Heap}{x e:Addr}
theorem Bp.write (ok:Bp P w H h)(mu:N6 (H x))(he:e=x∨H e=some (.own x))(k:∀ b u,b≠e->h.get? b=some u->h'.get? b=some u)(IM:∃ u,h'.get? e=some u)
  (new:Bm P w (upd H x o') h' x o'):Bp P w (upd H x o') h':=fun b u q=>by
 have YQ:∀ c y,H c=some (.own y)->c≠x:=fun c y r z=>by subst z;rw [r] at mu;exact mu
 have kA:∀ c xs,H c=some (.tup xs)->c≠x:=fun c xs r z=>by subst z;rw [r] at mu;exact mu
 by_cases hb:b=x
 ·subst hb;rw [AE] at q;cases q;exact new
 ·rw [AX hb] at q
  by_cases JG:b=e
  ·have q':H b=some (.own x):=by
    rcases he with z | z
    ·exact absurd (JG.trans z) hb
    ·rw [JG];exact z
   rw [q] at q';cases q';obtain ⟨v,hv⟩:=IM;exact ⟨v,by rw [JG];exact hv⟩
  ·refine (ok b u q).HG (fun c v hc r=>k c v ?_ r) (fun c r=>by rw [AX (YQ c b r)];exact r) fun c xs r=>by rw [AX (kA c xs r)];exact r
   rcases hc with rfl | hc
   ·exact JG
   ·rintro rfl;rcases he with z | z
    ·exact YQ c b hc z
    ·rw [hc] at z;cases z;exact hb rfl
end
structure Un (fs ex:List Addr) (H H':Hp) (h h':Heap):Prop where
 keep:∀ b o,h.get? b=some o->H b=none->b∉fs->b∉ex->h'.get? b=some o
 slot:∀ b o,h.get? b=some o->H b=none->b∈fs->b∉ex->∃ sl,h'.get? b=some { o with slots:=sl }
 free:∀ b o,h.get? b=some o->H b=none->b∉ex->H' b=none
 there:∀ b o,h.get? b=some o->b∉ex->∃ o',h'.get? b=some o'
 Gz:∀ b xs,H b=some (.tup xs)->H' b=some (.tup xs)
 GC:∀ b o u,H b=some (.CG o u)->H' b=some (.CG o u)
 Gd:∀ b ps,H b=some (.HH ps)->∃ more,H' b=some (.HH (ps++more))
section
variable {fs tZ ex ex':List Addr}{H1 H2:Hp}{h h1 h2:Heap}{x e:Addr}
theorem Un.any (u:Un fs ex H H1 h h1){ob:Obj}(q:h.get? b=some ob)(n:H b=none)(hx:b∉ex):∃ sl,h1.get? b=some { ob with slots:=sl }:=by
 by_cases hb:b∈fs
 ·exact u.slot b ob q n hb hx
 ·exact ⟨ob.slots,u.keep b ob q n hb hx⟩
theorem Un.kept (k:∀ b u,h.get? b=some u->h'.get? b=some u):Un fs ex H H h h':=
 ⟨fun b ob q _ _ _=>k b ob q,fun b ob q _ _ _=>⟨ob.slots,k b ob q⟩,fun _ _ _ n _=>n,fun b ob q _=>⟨ob,k b ob q⟩,fun _ _ q=>q,fun _ _ _ q=>q,fun _ ps q=>⟨#[],by rw [q];simp⟩⟩
theorem Un.refl:Un fs ex H H h h:=Un.kept fun _ _ q=>q
theorem Un.laid (k:∀ b u,h.get? b=some u->h'.get? b=some u)(hp:h.objs.size<=a)(hn:H a=none):Un fs ex H (upd H a o) h h' where
 keep:=fun b u q _ _ _=>k b u q
 slot:=fun b u q _ _ _=>⟨u.slots,k b u q⟩
 free:=fun b u q n _=>by rw [AX (BK (D5 (B8 q) hp))];exact n
 there:=fun b u q _=>⟨u,k b u q⟩
 Gz:=fun b xs q=>by rw [AX (DX q hn)];exact q
 GC:=fun b u xs q=>by rw [AX (DX q hn)];exact q
 Gd:=fun b ps q=>⟨#[],by rw [AX (DX q hn),q];simp⟩
theorem Un.write (mu:N6 (H x))(he:e=x∨H e=some (.own x))(k:∀ b u,b≠e->h.get? b=some u->h'.get? b=some u)(IM:∃ u,h'.get? e=some u):Un fs ex H (upd H x o) h h':=by
 have hx:∀ b,H b=none->b≠x:=fun b n z=>by subst z;rw [n] at mu;exact mu
 have hb:∀ b,H b=none->b≠e:=fun b n z=>by
  subst z;rcases he with r | r
  ·exact hx b n r
  ·rw [n] at r;cases r
 have hm:∀ b u,H b=some u->¬ N6 (some u)->b≠x:=fun b u q nm z=>by subst z;rw [q] at mu;exact nm mu
 refine ⟨fun b u q n _ _=>k b u (hb b n) q,fun b u q n _ _=>⟨u.slots,k b u (hb b n) q⟩,fun b u q n _=>by rw [AX (hx b n)];exact n,fun b u q _=>?_,
  fun b xs q=>by rw [AX (hm b _ q fun z=>z)];exact q,fun b u xs q=>by rw [AX (hm b _ q fun z=>z)];exact q,fun b ps q=>⟨#[],by rw [AX (hm b _ q fun z=>z),q];simp⟩⟩
 by_cases JG:b=e
 ·subst JG;exact IM
 ·exact ⟨u,k b u JG q⟩
end
def R4 (h:Heap)(H:Hp):List Addr:=(List.range h.objs.size).filter fun a=>(H a).isSome
def Hj (h:Heap)(H:Hp):Heap:=PySem.W.hideAll h (R4 h H)
theorem lX (h:Heap)(H:Hp):(Hj h H).objs.size=h.objs.size:=PySem.W.hideAll_size _ _
theorem ZBC {h:Heap}{o:Obj}(e:h.get? b=some o)(n:H b=none):(Hj h H).get? b=some o:=
 PySem.W.hideAll_get _ e fun hm=>by
  have q:(H b).isSome=true:=(List.mem_filter.mp hm).2;rw [n] at q;simp at q
theorem ZAP {h:Heap}{o:Obj}(e:(Hj h H).get? b=some o):h.get? b=some o/\H b=none:=by
 have e':h.get? b=some o:=PySem.W.of_hideAll (R4 h H) e;refine ⟨e',?_⟩;cases q:H b with
 | none=>rfl
 | some x=>
  have hm:b∈R4 h H:=List.mem_filter.mpr ⟨List.mem_range.mpr (B8 e'),by simp [q]⟩;have z:(Hj h H).get? b=none:=PySem.W.hideAll_none (R4 h H) hm;rw [z] at e;cases e
structure Mod (K:ZE5) (mg:ZE7) (base:Heap):Prop where
 ND:K.In base
 glob:base.Ns mainGlobals mg
 blt:∃ mb,base.Ns builtinsNs mb/\∀ x:Str,x ≠ "__name__" -> mb x=bootBuiltins x
 nolimit:base.NoLimit
structure Cx where
 prog:Program
 w:World
 K:ZE5
 mg:ZE7
 base:Heap
 A:Around
 N:List Str
 s₀:Shared
 H₀:Hp
 env:Env
 outer:List Env
 stack:List Env
 ex:List Addr
 fn:Str->Bool
 calm:Bool
 pn:ZE6
 xe:Value->Shared->Prop
variable {X:Cx}
def G5 (l:List Env):List Addr:=l.filterMap (·.frame)
abbrev Cx.fs (X:Cx):List Addr:=G5 X.outer
def Uy (sc:Scope)(x:Str):Prop:=sc.names.lookup x=some .local∨sc.names.lookup x=some .cell∨sc.names.lookup x=some .free
def Loc (sc:Scope)(x:Str):Prop:=sc.names.lookup x=some .local∨sc.names.lookup x=some .cell
def Look (env:Env)(h:Heap)(m:ZE7)(x:Str)(u:Value):Prop:=
 (env.kindOf x=some .local/\m x=some u)∨((env.kindOf x=some .cell∨env.kindOf x=some .free)/\∃ c,env.cells.lookup x=some c/\h.IsCell c (some u))
structure Cx.Ok (X:Cx):Prop where
 mod:Mod X.K X.mg X.base
 kind:X.env.scope.kind=.function
 glob:X.env.globals=mainGlobals
 blt:X.env.builtins=builtinsNs
 above:X.s₀.heap.objs.size<=X.env.locals
 inj:∀ x y c,X.env.cells.lookup x=some c->X.env.cells.lookup y=some c->x=y
 has:∀ x,(X.env.kindOf x=some .cell∨X.env.kindOf x=some .free)->∃ c,X.env.cells.lookup x=some c
 NO:∀ x c,X.fn x=true->X.env.cells.lookup x=some c->X.s₀.heap.objs.size<=c
 hd:X.calm=true->X.A.handled=none
 frames:X.A.frames=some X.stack
 PQ:X.stack=X.outer∨(X.stack=X.env::X.outer/\X.env.frame=some X.env.locals)
 QL:∀ b∈X.ex,b≠X.env.locals/\∀ x c,X.env.cells.lookup x=some c->c≠b
 bs:∀ b o,X.base.get? b=some o->X.s₀.heap.get? b=some o/\X.H₀ b=none
 Hc:X.base.objs.size<=X.s₀.heap.objs.size
 Nj:∀ b o,X.base.get? b=some o->b∉X.ex
 Me:∀ b∈X.ex,b∉X.fs
 FY:X.s₀.heap.FunFrames X.base X.outer
 Jd:∀ b∈X.fs,X.H₀ b=none
structure Inv (X:Cx) (pins:ZE6) (σ:List (Option V)) (H:Hp) (s:Shared):Prop where
 ok:X.Ok
 os:s.os=X.s₀.os
 bare:AllBare s.gens
 base:Un X.fs X.ex X.H₀ H X.s₀.heap s.heap
 loc:∃ m,s.heap.Ns X.env.locals m/\∀ (i:Nat) (x:Str) (v:V),X.N[i]?=some x->σ[i]?=some (some v)->Uy X.env.scope x->∃ u,RelV v u/\Look X.env s.heap m x u
 cell:∀ x c,X.env.cells.lookup x=some c->∃ v,s.heap.IsCell c v
 free:H X.env.locals=none
 GI:∀ x c,X.env.cells.lookup x=some c->H c=none
 pin:∀ p∈X.pn++pins,s.heap.get? p.1=some p.2/\H p.1=none/\p.1≠X.env.locals/\p.1∉X.fs/\∀ v,p.2.data≠.cell v
 AL:Bp X.prog X.w H s.heap
 len:σ.length=X.N.length
section
variable {σ:List (Option V)}
theorem Cx.Ok.rG (ok:X.Ok){o:Obj}(e:X.base.get? b=some o):b∉X.fs:=fun hb=>by
 have:=(ok.FY.mem hb).1;rw [e] at this;cases this
theorem Inv.bs (I:Inv X pins σ H s):∀ b o,X.base.get? b=some o->s.heap.get? b=some o/\H b=none:=fun b o e=>
 ⟨I.base.keep b o (I.ok.bs b o e).1 (I.ok.bs b o e).2 (I.ok.rG e) (I.ok.Nj b o e),I.base.free b o (I.ok.bs b o e).1 (I.ok.bs b o e).2 (I.ok.Nj b o e)⟩
theorem Inv.bk (I:Inv X pins σ H s):∀ b o,X.base.get? b=some o->s.heap.get? b=some o:=fun b o e=>(I.bs b o e).1
theorem Inv.mod (I:Inv X pins σ H s):Mod X.K X.mg X.base:=I.ok.mod
theorem Inv.CO (I:Inv X pins σ H s):X.K.In s.heap:=I.ok.mod.ND.keeps I.bk
theorem Inv.lt (I:Inv X pins σ H s):X.env.locals<s.heap.objs.size:=let ⟨_,hn,_⟩:=I.loc;hn.lt
theorem Inv.sz (I:Inv X pins σ H s):X.s₀.heap.objs.size<=s.heap.objs.size:=Ci I.ok.above (KN I.lt)
theorem Inv.ZAg (I:Inv X pins σ H s)(h:s.heap.objs.size<=a):a∉X.fs:=fun hb=>by
 obtain ⟨_,o,ho,_⟩:=I.ok.FY.mem hb;exact absurd (D5 (B8 ho) (Ci I.sz h)) (KO _)
theorem Inv.K3 (I:Inv X pins σ H s):∀ x c,X.env.cells.lookup x=some c->c≠X.env.locals:=fun x c e z=>by
 obtain ⟨v,o,ho,hd⟩:=I.cell x c e;obtain ⟨m,⟨o',es,ep,Dp,WL,_⟩,_⟩:=I.loc;rw [z,Dp] at ho;cases ho;rw [WL] at hd;cases hd
theorem Inv.FY (I:Inv X pins σ H s):s.heap.FunFrames X.base X.outer:=by
 have all:∀ (l:List Env),(∀ b∈G5 l,b∈X.fs)->X.s₀.heap.FunFrames X.base l->s.heap.FunFrames X.base l:=by
  intro l
  induction l with
  | nil=>intro _ _;trivial
  | cons env r ih=>
   intro hs hl;obtain ⟨hk,⟨L,o,hf,hn,ho,hd⟩,hr⟩:=hl;have hL:L∈X.fs:=hs L (by unfold G5;rw [iT,hf];exact Cu);obtain ⟨sl,e⟩:=I.base.slot L o ho (I.ok.Jd L hL) hL fun z=>I.ok.Me L z hL;exact ⟨hk,⟨L,_,hf,hn,e,hd⟩,ih (fun b hb=>hs b (by unfold G5;rw [iT,hf];exact Di _ hb)) hr⟩
 exact all X.outer (fun _ hb=>hb) I.ok.FY
theorem Inv.stack (I:Inv X pins σ H s):s.heap.FunFrames X.base X.stack:=by
 rcases I.ok.PQ with e | ⟨e,hf⟩
 ·rw [e];exact I.FY
 ·rw [e];obtain ⟨m,hn,_⟩:=I.loc;refine .cons (by rw [I.ok.kind];decide) hf hn ?_ I.FY;exact Heap.get?_none_of_le (Ci I.ok.Hc I.ok.above)
theorem Inv.Sb (I:Inv X pins σ H s):∀ b∈G5 X.stack,b∈X.env.locals::X.fs:=fun b hb=>by
 rcases I.ok.PQ with e | ⟨e,hf⟩
 ·rw [e] at hb;exact Di _ hb
 ·rw [e] at hb;unfold G5 at hb;rw [iT,hf] at hb;exact hb
theorem Inv.bD (I:Inv X pins σ H s):∀ b∈G5 X.stack,H b=none:=fun b hb=>by
 rcases List.mem_cons.mp (I.Sb b hb) with e | hb
 ·rw [e];exact I.free
 ·obtain ⟨_,o,ho,_⟩:=I.ok.FY.mem hb;exact I.base.free b o ho (I.ok.Jd b hb) fun z=>I.ok.Me b z hb
theorem Inv.step (I:Inv X pins σ H s)
  (GP:∀ b∈ch,(b∈X.ex∨X.s₀.heap.objs.size<=b)/\b≠X.env.locals/\(∀ x c,X.env.cells.lookup x=some c->c≠b)/\∀ p∈X.pn++pins,p.1≠b)
  (keep:∀ b o,b≠X.env.locals->b∉X.fs->b∉ch->s.heap.get? b=some o->H b=none->h'.get? b=some o)
  (slot:∀ b o,b≠X.env.locals->b∈X.fs->b∉ch->s.heap.get? b=some o->H b=none->∃ sl,h'.get? b=some { o with slots:=sl }) (free:∀ b o,b∉ch->s.heap.get? b=some o->H b=none->H' b=none)
  (there:∀ b o,b∉ch->s.heap.get? b=some o->∃ o',h'.get? b=some o')
  (Gz:∀ b xs,H b=some (.tup xs)->H' b=some (.tup xs)) (GC:∀ b o u,H b=some (.CG o u)->H' b=some (.CG o u)) (Gd:∀ b ps,H b=some (.HH ps)->∃ more,H' b=some (.HH (ps++more)))
  (ns:∀ m,s.heap.Ns X.env.locals m->h'.Ns X.env.locals m) (AL:Bp X.prog X.w H' h') (hg:AllBare g') :
  Inv X pins σ H' { s with heap:=h',gens:=g',drawn:=d',toks:=t' }:=by
 have eT:∀ b o,X.s₀.heap.get? b=some o->b≠X.env.locals:=fun b o e=>BK (D5 (B8 e) I.ok.above);have Po:∀ b o,X.s₀.heap.get? b=some o->b∉X.ex->b∉ch:=fun b o e hx hb=>by
  rcases (GP b hb).1 with z | z
  ·exact hx z
  ·exact absurd (D5 (B8 e) z) (KO _)
 have cellK:∀ x c,X.env.cells.lookup x=some c->∀ v,s.heap.IsCell c v->h'.IsCell c v:=fun x c e v AJ=>by
  obtain ⟨o,ho,hd⟩:=AJ;have Lx:c∉ch:=fun z=>(GP c z).2.2.1 x c e rfl
  by_cases hc:c∈X.fs
  ·obtain ⟨sl,q⟩:=slot c o (I.K3 x c e) hc Lx ho (I.GI x c e);exact ⟨_,q,hd⟩
  ·exact ⟨o,keep c o (I.K3 x c e) hc Lx ho (I.GI x c e),hd⟩
 refine ⟨I.ok,I.os,hg,⟨fun b o e n hb hx=>?_,fun b o e n hb hx=>?_,fun b o e n hx=>?_,fun b o e hx=>?_,fun b xs e=>Gz b xs (I.base.Gz b xs e),fun b o xs e=>GC b o xs (I.base.GC b o xs e),fun b ps e=>?_⟩,?_,fun x c e=>?_,?_,fun x c e=>?_,fun p hp=>?_,AL,I.len⟩
 ·exact keep b o (eT b o e) hb (Po b o e hx) (I.base.keep b o e n hb hx) (I.base.free b o e n hx)
 ·obtain ⟨sl,e1⟩:=I.base.slot b o e n hb hx;obtain ⟨sR,e2⟩:=slot b _ (eT b o e) hb (Po b o e hx) e1 (I.base.free b o e n hx);exact ⟨sR,e2⟩
 ·obtain ⟨o',e1⟩:=I.base.there b o e hx;exact free b o' (Po b o e hx) e1 (I.base.free b o e n hx)
 ·obtain ⟨o',e1⟩:=I.base.there b o e hx;exact there b o' (Po b o e hx) e1
 ·obtain ⟨m1,e1⟩:=I.base.Gd b ps e;obtain ⟨m2,e2⟩:=Gd b _ e1;exact ⟨m1++m2,by rw [e2,Array.append_assoc]⟩
 ·obtain ⟨m,hn,hl⟩:=I.loc;refine ⟨m,ns m hn,fun i x v e1 e2 e3=>?_⟩;obtain ⟨u,r,l⟩:=hl i x v e1 e2 e3;refine ⟨u,r,?_⟩;rcases l with l | ⟨k,c,e,z⟩
  ·exact .inl l
  ·exact .inr ⟨k,c,e,cellK x c e _ z⟩
 ·obtain ⟨v,z⟩:=I.cell x c e;exact ⟨v,cellK x c e v z⟩
 ·obtain ⟨m,⟨o,_,_,ho,_⟩,_⟩:=I.loc;exact free _ o (fun z=>(GP _ z).2.1 rfl) ho I.free
 ·obtain ⟨v,o,ho,hd⟩:=I.cell x c e;exact free c o (fun z=>(GP c z).2.2.1 x c e rfl) ho (I.GI x c e)
 ·obtain ⟨e,n,ne,nf,d⟩:=I.pin p hp;have Lx:p.1∉ch:=fun z=>(GP p.1 z).2.2.2 p hp rfl;exact ⟨keep p.1 p.2 ne nf Lx e n,free p.1 p.2 Lx e n,ne,nf,d⟩
theorem Inv.un (I:Inv X pins σ H s)(u:Un X.fs [] H H' s.heap h')(AL:Bp X.prog X.w H' h'):Inv X pins σ H' { s with heap:=h',toks:=t' }:=by
 obtain ⟨m,⟨o,es,ep,ho,r⟩,_⟩:=id I.loc;obtain ⟨sl,hL⟩:=u.any ho I.free (by simp);exact I.step (g':=s.gens) (d':=s.drawn) (ch:=[]) (fun _ z=>nomatch z) (fun b o _ hb _ e n=>u.keep b o e n hb (by simp)) (fun b o _ hb _ e n=>u.slot b o e n hb (by simp)) (fun b o _ e n=>u.free b o e n (by simp)) (fun b o _ e=>u.there b o e (by simp)) u.Gz u.GC u.Gd (fun m' hm=>by
  obtain ⟨o',DR,Gv,Dp,r'⟩:=hm;rw [ho] at Dp;cases Dp;exact ⟨_,DR,Gv,hL,r'⟩) AL I.bare
theorem Inv.call (I:Inv X pins σ H s)(u:Un (G5 X.stack) ch H H' s.heap h')(AL:Bp X.prog X.w H' h')(hg:AllBare g')
  (GP:∀ b∈ch,(b∈X.ex∨X.s₀.heap.objs.size<=b)/\b≠X.env.locals/\(∀ x c,X.env.cells.lookup x=some c->c≠b)/\∀ p∈X.pn++pins,p.1≠b) :
  Inv X pins σ H' { s with heap:=h',gens:=g',drawn:=d',toks:=t' }:=by
 obtain ⟨m,⟨o,es,ep,ho,r⟩,_⟩:=id I.loc;obtain ⟨sl,hL⟩:=u.any ho I.free fun z=>(GP _ z).2.1 rfl;exact I.step (ch:=ch) GP (fun b o hL hb hc e n=>u.keep b o e n (fun z=>(List.mem_cons.mp (I.Sb b z)).elim hL hb) hc) (fun b o _ _ hc e n=>u.any e n hc) (fun b o hc e n=>u.free b o e n hc) (fun b o hc e=>u.there b o e hc) u.Gz u.GC u.Gd (fun m' hm=>by
  obtain ⟨o',DR,Gv,Dp,r'⟩:=hm;rw [ho] at Dp;cases Dp;exact ⟨_,DR,Gv,hL,r'⟩) AL hg
theorem Inv.turned (I:Inv X pins σ H s)(k:∀ b o,b≠it->s.heap.get? b=some o->h'.get? b=some o)(hn:H it=none)(hL:it≠X.env.locals)
  (h1:it∈X.ex∨X.s₀.heap.objs.size<=it) (h2:∀ x c,X.env.cells.lookup x=some c->c≠it) (h3:∀ p∈X.pn++pins,p.1≠it):Inv X pins σ H { s with heap:=h',toks:=t' }:=by
 have Ig:∀ b u,H b=some u->b≠it:=fun b u e z=>by rw [z,hn] at e;cases e
 refine I.step (g':=s.gens) (d':=s.drawn) (ch:=[it]) (fun b hb=>?_) (fun b o _ _ hc e _=>k b o (fun z=>hc (by simp [z])) e) (fun b o _ _ hc e _=>⟨o.slots,k b o (fun z=>hc (by simp [z])) e⟩) (fun _ _ _ _ n=>n)
  (fun b o hc e=>⟨o,k b o (fun z=>hc (by simp [z])) e⟩) (fun _ _ e=>e) (fun _ _ _ e=>e) (fun b ps e=>⟨#[],by rw [e];simp⟩) (fun m hm=>?_) (fun b u e=>?_) I.bare
 ·have e:b=it:=by simpa using hb
  subst e;exact ⟨h1,hL,h2,h3⟩
 ·obtain ⟨o,es,ep,ho,r⟩:=hm;exact ⟨o,es,ep,k _ o (BS hL) ho,r⟩
 ·refine (I.AL b u e).HG (fun c v hc q=>k c v ?_ q) (fun _ q=>q) fun _ _ q=>q;rcases hc with z | z
  ·rw [z];exact Ig b u e
  ·exact Ig c _ z
theorem Inv.tok (I:Inv X pins σ H s)(t:Nat):Inv X pins σ H { s with toks:=t }:=I.un (h':=s.heap) (t':=t) Un.refl I.AL
theorem Inv.kept (I:Inv X pins σ H s)(k:∀ b u,s.heap.get? b=some u->h'.get? b=some u):Inv X pins σ H { s with heap:=h',toks:=t' }:=I.un (Un.kept k) (I.AL.kept k)
theorem Inv.laid (I:Inv X pins σ H s)(k:∀ b u,s.heap.get? b=some u->h'.get? b=some u)(hp:s.heap.objs.size<=a)(new:Bm X.prog X.w (upd H a o) h' a o):
  Inv X pins σ (upd H a o) { s with heap:=h',toks:=t' }:=I.un (Un.laid k hp (I.AL.fresh hp)) (I.AL.laid k hp new)
theorem Inv.write {x e:Addr}(I:Inv X pins σ H s)(mu:N6 (H x))(he:e=x∨H e=some (.own x))(k:∀ b u,b≠e->s.heap.get? b=some u->h'.get? b=some u)(IM:∃ u,h'.get? e=some u)
  (new:Bm X.prog X.w (upd H x o) h' x o):Inv X pins σ (upd H x o) { s with heap:=h',toks:=t' }:=I.un (Un.write mu he k IM) (I.AL.write mu he k IM new)
theorem Inv.fb (I:Inv X pins σ H s)(h:∀ p∈ZC,s.heap.get? p.1=some p.2/\H p.1=none/\p.1≠X.env.locals/\p.1∉X.fs/\∀ v,p.2.data≠.cell v):Inv X ZC σ H s:=
 ⟨I.ok,I.os,I.bare,I.base,I.loc,I.cell,I.free,I.GI,fun p hp=>(List.mem_append.mp hp).elim (fun z=>I.pin p (HD _ z)) (h p),I.AL,I.len⟩
theorem bb (hN:N.Nodup)(a:N[i]?=some x)(b:N[j]?=some x):i=j:=by
 obtain ⟨h1,e1⟩:=List.getElem?_eq_some_iff.mp a;obtain ⟨h2,e2⟩:=List.getElem?_eq_some_iff.mp b;exact (ZCp hN).mp (e1.trans e2.symm)
theorem Yj {Q:Unit->Shared->Prop}(I:Inv X pins σ H s)(hN:X.N.Nodup)(hi:X.N[i]?=some x)(hx:Loc X.env.scope x)(r:RelV v u)
  (h:∀ s',Inv X pins (σ.set i (some v)) H s'->(∃ a,Heap.SameBut a s.heap s'.heap/\(a=X.env.locals∨X.env.cells.lookup x=some a))->Q () s') (hf:X.fn x=true∨X.env.scope.names.lookup x=some .local:=by first | exact .inl rfl | exact .inr rfl | assumption):wpAny M A (storeName X.env x u) Q E s:=by
 obtain ⟨m,hn,hl⟩:=id I.loc;have qM:(X.env.scope.kind == .class || (X.env.scope.kind == .module && X.env.locals != X.env.globals))=false:=by rw [I.ok.kind];rfl
 have hiσ:i<σ.length:=by rw [I.len];exact (List.getElem?_eq_some_iff.mp hi).1
 have K3:=I.K3;have tracked:∀ {a:Addr}{h':Heap},(∃ o,s.heap.get? a=some o/\H a=none)->Heap.SameBut a s.heap h'->Bp X.prog X.w H h':=fun {a h'} ha hs b ob e=>by
  obtain ⟨_,_,bq⟩:=ha;refine (I.AL b ob e).HG (fun c w' hc q=>(hs.2 c ?_).trans q) (fun _ q=>q) fun _ _ q=>q;rintro rfl;rcases hc with rfl | hc
  ·rw [bq] at e;cases e
  ·rw [bq] at hc;cases hc
 rcases hx with hk | hk
 ·refine wpAny_storeName_local hk hn (fun h' uX hs=>?_) qM;obtain ⟨oL,_,_,Mm,_⟩:=id hn;refine h _ ⟨I.ok,I.os,I.bare,⟨fun b o e n hb hx=>?_,fun b o e n hb hx=>?_,I.base.free,fun b o e hx=>?_,I.base.Gz,I.base.GC,I.base.Gd⟩,⟨_,uX,fun j y v' e1 e2 e3=>?_⟩,fun y c e=>?_,I.free,I.GI,fun p hp=>?_,tracked ⟨oL,Mm,I.free⟩ hs,by simpa using I.len⟩ ⟨_,hs,.inl rfl⟩
  ·exact (hs.2 b (BK (D5 (B8 e) I.ok.above))).trans (I.base.keep b o e n hb hx)
  ·obtain ⟨sl,e1⟩:=I.base.slot b o e n hb hx;exact ⟨sl,(hs.2 b (BK (D5 (B8 e) I.ok.above))).trans e1⟩
  ·obtain ⟨o',e1⟩:=I.base.there b o e hx;exact ⟨o',(hs.2 b (BK (D5 (B8 e) I.ok.above))).trans e1⟩
  ·by_cases hj:j=i
   ·subst hj;rw [hi] at e1;cases e1;rw [CZ hiσ] at e2;cases e2;exact ⟨u,r,.inl ⟨hk,by simp⟩⟩
   ·rw [CQ (BS hj)] at e2;obtain ⟨u',r',q⟩:=hl j y v' e1 e2 e3;refine ⟨u',r',?_⟩;rcases q with ⟨k,e⟩ | ⟨k,c,e,z⟩
    ·refine .inl ⟨k,?_⟩;have:y≠x:=fun e=>hj (bb hN e1 (e▸hi));simp [this,e]
    ·exact .inr ⟨k,c,e,z.sameBut hs (K3 y c e)⟩
  ·obtain ⟨w',z⟩:=I.cell y c e;exact ⟨w',z.sameBut hs (K3 y c e)⟩
  ·obtain ⟨e,n,ne,nf,d⟩:=I.pin p hp;exact ⟨(hs.2 p.1 ne).trans e,n,ne,nf,d⟩
 ·have VW:X.fn x=true:=by
   rcases hf with z | z
   ·exact z
   ·rw [z] at hk;cases hk
  obtain ⟨c,hc⟩:=I.ok.has x (.inl hk);obtain ⟨w',z⟩:=I.cell x c hc;refine wpAny_storeName_cell I.ok.kind hk hc z (fun h' Fw hs=>?_);obtain ⟨oc,cK,rJ⟩:=id z;refine h { s with heap:=h' } ⟨I.ok,I.os,I.bare,⟨fun b o e n hb hx=>?_,fun b o e n hb hx=>?_,I.base.free,fun b o e hx=>?_,I.base.Gz,I.base.GC,I.base.Gd⟩,⟨m,hn.sameBut hs (BS (K3 x c hc)),fun j y v' e1 e2 e3=>?_⟩,fun y c' e=>?_,I.free,I.GI,fun p hp=>?_,tracked ⟨oc,cK,I.GI x c hc⟩ hs,by simpa using I.len⟩ ⟨c,hs,.inr hc⟩
  ·exact (hs.2 b (BK (D5 (B8 e) (I.ok.NO x c VW hc)))).trans (I.base.keep b o e n hb hx)
  ·obtain ⟨sl,e1⟩:=I.base.slot b o e n hb hx;exact ⟨sl,(hs.2 b (BK (D5 (B8 e) (I.ok.NO x c VW hc)))).trans e1⟩
  ·obtain ⟨o',e1⟩:=I.base.there b o e hx;exact ⟨o',(hs.2 b (BK (D5 (B8 e) (I.ok.NO x c VW hc)))).trans e1⟩
  ·by_cases hj:j=i
   ·subst hj;rw [hi] at e1;cases e1;rw [CZ hiσ] at e2;cases e2;exact ⟨u,r,.inr ⟨.inl hk,c,hc,Fw⟩⟩
   ·rw [CQ (BS hj)] at e2;obtain ⟨u',r',q⟩:=hl j y v' e1 e2 e3;refine ⟨u',r',?_⟩;rcases q with q | ⟨k,c',e,z'⟩
    ·exact .inl q
    ·refine .inr ⟨k,c',e,z'.sameBut hs ?_⟩;rintro rfl;exact hj (bb hN e1 (I.ok.inj _ _ _ e hc▸hi))
  ·by_cases Ow:c'=c
   ·subst Ow;exact ⟨_,Fw⟩
   ·obtain ⟨w2,z2⟩:=I.cell y c' e;exact ⟨w2,z2.sameBut hs Ow⟩
  ·obtain ⟨e,n,ne,nf,d⟩:=I.pin p hp;refine ⟨(hs.2 p.1 ?_).trans e,n,ne,nf,d⟩;intro q;rw [q,cK] at e;have q':oc=p.2:=BO e;exact d w' (by rw [<- q'];exact rJ)
theorem gE {Q:Unit->Shared->Prop}(I:Inv X pins σ H s)(hN:X.N.Nodup)(hi:X.N[i]?=some x)(hx:Loc X.env.scope x)(r:RelV v u)
  (h:∀ s',Inv X pins (σ.set i (some v)) H s'->Q () s') (hf:X.fn x=true∨X.env.scope.names.lookup x=some .local:=by first | exact .inl rfl | exact .inr rfl | assumption):wpAny M A (storeName X.env x u) Q E s:=
 Yj I hN hi hx r (fun s' I' _=>h s' I') hf
theorem Inv.ZAQ (I:Inv X pins σ H s)(ho:s'.os=s.os)(u:Un (G5 X.stack) ch H H' s.heap s'.heap)(AL:Bp X.prog X.w H' s'.heap)(hg:AllBare s'.gens)
  (GP:∀ b∈ch,(b∈X.ex∨X.s₀.heap.objs.size<=b)/\b≠X.env.locals/\(∀ x c,X.env.cells.lookup x=some c->c≠b)/\∀ p∈X.pn++pins,p.1≠b):Inv X pins σ H' s':=by
 obtain ⟨h',g',d',t',o'⟩:=s';have e:o'=s.os:=ho;subst e;exact I.call (g':=g') (t':=t') (d':=d') u AL hg GP
end
abbrev XK:=Value->Option Addr->Hp->Prop
abbrev St:=List (Option V)
variable {σ:St}
abbrev VK:=V->Hp->Prop
abbrev TE:=St->Hp->VK->Prop
variable {ta tb tc te:TE}
abbrev TT:=St->Hp->(Bool->Hp->Prop)->Prop
abbrev TA:=St->Hp->(List V->Hp->Prop)->Prop
structure Ends where
 nx:St->Hp->Prop
 rt:VK
 bk:St->Hp->Prop:=fun _ _=>False
 ct:St->Hp->Prop:=fun _ _=>False
abbrev TS:=Ends->St->Hp->Prop
def EP (X:Cx)(pins:ZE6)(σ:St)(Q:VK)(u:Value)(s':Shared):Prop:=∃ v H',Inv X pins σ H' s'/\RelV v u/\Q v H'
def TP (X:Cx)(pins:ZE6)(σ:St)(Q:Bool->Hp->Prop)(b:Bool)(s':Shared):Prop:=∃ H',Inv X pins σ H' s'/\Q b H'
def AP (X:Cx)(pins:ZE6)(σ:St)(Q:List V->Hp->Prop)(us:List Value)(s':Shared):Prop:=∃ vs H',Inv X pins σ H' s'/\Vals vs us/\Q vs H'
def SP (X:Cx)(pins:ZE6)(D:Ends)(f:Flow)(s':Shared):Prop:=
 match f with
 | .next=>∃ σ' H',Inv X pins σ' H' s'/\D.nx σ' H'
 | .brk=>∃ σ' H',Inv X pins σ' H' s'/\D.bk σ' H'
 | .cont=>∃ σ' H',Inv X pins σ' H' s'/\D.ct σ' H'
 | .ret u=>∃ v σ' H',Inv X pins σ' H' s'/\RelV v u/\D.rt v H'
def PE (X:Cx)(e:Expr)(t:TE):Prop:=
 ∀ (pins:ZE6) (s:Shared) (σ:St) (H:Hp) (Q:VK),Inv X pins σ H s->t σ H Q->wpAny (model X.prog X.w) X.A (eval e X.env) (EP X pins σ Q) X.xe s
def PT (X:Cx)(e:Expr)(t:TT):Prop:=
 ∀ (pins:ZE6) (s:Shared) (σ:St) (H:Hp) (Q:Bool->Hp->Prop),Inv X pins σ H s->t σ H Q->wpAny (model X.prog X.w) X.A (isTrue e X.env (eval e X.env)) (TP X pins σ Q) X.xe s
def PW (X:Cx)(e:Expr)(t:TT):Prop:=
 ∀ (whole:Sem Value) (pins:ZE6) (s:Shared) (σ:St) (H:Hp) (Q:Bool->Hp->Prop),Inv X pins σ H s->t σ H Q->wpAny (model X.prog X.w) X.A (isTrue e X.env whole) (TP X pins σ Q) X.xe s
theorem PW.pt {t:TT}(h:PW X e t):PT X e t:=h _
def PA (X:Cx)(es:List Expr)(t:TA):Prop:=
 ∀ (pos:Pos) (pins:ZE6) (s:Shared) (σ:St) (H:Hp) (Q:List V->Hp->Prop),Inv X pins σ H s->t σ H Q->wpAny (model X.prog X.w) X.A (spliced (backTo pos (starEach es X.env))) (AP X pins σ Q) X.xe s
def PS (X:Cx)(st:Stmt)(t:TS):Prop:=
 ∀ (pins:ZE6) (s:Shared) (σ:St) (H:Hp) (D:Ends),Inv X pins σ H s->t D σ H->wpAny (model X.prog X.w) X.A (exec st X.env) (SP X pins D) X.xe s
def Dq (X:Cx)(st:List Stmt)(t:TS):Prop:=
 ∀ (pins:ZE6) (s:Shared) (σ:St) (H:Hp) (D:Ends),Inv X pins σ H s->t D σ H->wpAny (model X.prog X.w) X.A (execs st X.env) (SP X pins D) X.xe s
theorem AO {t:Sem α}{Q Q':α->Shared->Prop}(h:wpAny M A t Q E s)(hQ:∀ a s,Q a s->Q' a s):wpAny M A t Q' E s:=kg h hQ fun _ _ x=>x
section
def BL (i:Nat):TE:=fun σ H Q=>∃ v,σ[i]?=some (some v)/\Q v H
def tC (v:V):TE:=fun _ H Q=>Q v H
def Gl (X:Cx)(x:Str):Prop:=X.env.kindOf x=some .globalImplicit
theorem Rk (I:Inv X pins σ H s)(hg:Gl X x)(hm:X.mg x=some u)(h:Q u s)
  (hd:(x == ("__debug__":Str))=false:=by decide):wpAny (model X.prog X.w) X.A (eval (.Name x pos) X.env) Q E s:=
 ZCb I.ok.kind hg (Calls.loadGlobal_global (by rw [I.ok.glob];exact I.mod.glob.keeps I.bk) hm h) hd
theorem IU (I:Inv X pins σ H s)(hg:Gl X x)(hm:X.mg x=none)(hv:bootBuiltins x=some u)(h:Q u s)
  (hn:x ≠ "__name__" := by decide) (hd:(x == ("__debug__":Str))=false:=by decide):wpAny (model X.prog X.w) X.A (eval (.Name x pos) X.env) Q E s:=by
 obtain ⟨mb,h1,h2⟩:=I.mod.blt;exact ZCb I.ok.kind hg (Calls.loadGlobal_builtin (by rw [I.ok.glob];exact I.mod.glob.keeps I.bk) hm (by rw [I.ok.blt];exact h1.keeps I.bk) ((h2 x hn).trans hv) h) hd
theorem uu (hg:Gl X x)(hm:X.mg x=none)(hv:bootBuiltins x=some u)(r:RelV v u)(hn:x ≠ "__name__" := by decide)(hd:(x == ("__debug__":Str))=false:=by decide):PE X (.Name x pos) (tC v):=
 fun _ _ _ H _ I h=>IU I hg hm hv ⟨v,H,I,r,h⟩ hn hd
variable {a b:Expr}
def PC (X:Cx)(op:CmpOp)(a b:Expr)(t:TE):Prop:=
 ∀ (pins:ZE6) (s:Shared) (σ:St) (H:Hp) (Q:VK),Inv X pins σ H s->t σ H Q->
  wpAny (model X.prog X.w) X.A (eval a X.env) (fun v s₁=>wpAny (model X.prog X.w) X.A (eval b X.env) (fun u s₂=>wpAny (model X.prog X.w) X.A (compareOp op v u) (EP X pins σ Q) X.xe s₂) X.xe s₁) X.xe s
theorem oe (b:Expr)(h:op≠.In)(h2:op≠.NotIn):behindInMarks op b=false:=by
 have e1:(op == CmpOp.In)=false:=by cases op <;> first | rfl | exact absurd rfl h
 have e2:(op == CmpOp.NotIn)=false:=by cases op <;> first | rfl | exact absurd rfl h2
 cases b <;> simp [behindInMarks,e1,e2]
def tB (t:TE):TT:=fun σ H Q=>t σ H fun x H1=>∃ c,x=.bl c/\Q c H1
theorem bo {t:TE}(h:PC X op a b t)(h1:behindInMarks op b=false:=by first | exact oe _ (by decide) (by decide) | rfl):PT X (.Compare a [op] [b] pos) (tB t):=by
 intro pins s σ H Q I hw;refine wpAny_isTrue_Compare1 (AO (h pins s σ H _ I hw) fun v s1 h1=>AO h1 fun u s2 h2=>AO h2 fun c s3 ⟨x,H1,I1,r1,q1⟩=>?_) h1;obtain ⟨d,rfl,q⟩:=q1;cases r1;exact lD ⟨H1,I1,q⟩
variable {tA Ho:TT}
def Tp (t u:TT):TT:=fun σ H Q=>t σ H fun c H1=>if c=true then u σ H1 Q else Q false H1
def VD (t u:TT):TT:=fun σ H Q=>t σ H fun c H1=>if c=true then Q true H1 else u σ H1 Q
def Lv (t:TT):TT:=fun σ H Q=>t σ H fun c H1=>Q (!c) H1
def UP (ta tb:TE):TE:=fun σ H Q=>ta σ H fun x H1=>∃ c,x=.bl c/\if c=true then tb σ H1 Q else Q (.bl false) H1
def dZ (ta tb:TE):TE:=fun σ H Q=>ta σ H fun x H1=>∃ c,x=.bl c/\if c=true then Q (.bl true) H1 else tb σ H1 Q
def Xa (ta:TE):TE:=fun σ H Q=>ta σ H fun x H1=>∃ c,x=.bl c/\Q (.bl (!c)) H1
end
def AF (K:ZE5)(H:Hp)(a:Addr)(xs:List V):Prop:=
 Rd H a (.lst xs)∨
  ∃ (o:Obj) (A4:Array Value) (n:Nat),K.lookup a=some o/\o.cls=.type "list" /\ o.dict=none/\o.data=.seq A4 n/\A4.size<=sizeLine/\Vals xs A4.toList
def AA (K:ZE5)(H:Hp)(a:Addr)(xs:List V):Prop:=
 Rd H a (.tup xs)∨
  ∃ (o:Obj) (A4:Array Value) (n:Nat),K.lookup a=some o/\o.cls=.type "tuple" /\ o.data=.seq A4 n/\A4.size<=sizeLine/\Vals xs A4.toList
def wc:Value->Option V
 | .none=>some .AB
 | .bool b=>some (.bl b)
 | .int i _=>some (.int i)
 | .str x _=>some (.str x)
 | .bytes b _=>some (.FX b)
 | .float b _=>some (.Jr b)
 | .ref a=>some (.ref a)
 | .type n=>some (.ty n)
 | _=>none
theorem RelV.abs {x:V}(r:RelV x u):wc u=some x:=by
 cases x with
 | AB=>cases r;rfl
 | bl _=>cases r;rfl
 | int _=>obtain ⟨t,rfl⟩:=r;rfl
 | str _=>obtain ⟨t,rfl⟩:=r;rfl
 | FX _=>obtain ⟨t,rfl⟩:=r;rfl
 | Jr _=>obtain ⟨t,rfl⟩:=r;rfl
 | ref _=>cases r;rfl
 | ty _=>cases r;rfl
theorem RelV.inj {x y:V}{u:Value}(r:RelV x u)(q:RelV y u):x=y:=BO (r.abs.symm.trans q.abs)
theorem Vals.inj:∀ {xs ys:List V}{us:List Value},Vals xs us->Vals ys us->xs=ys
 | _,_,_,.nil,.nil=>rfl
 | _,_,_,.cons r t,.cons r' t'=>by rw [r.inj r',Vals.inj t t']
section
variable {xs ys:List V}
theorem AF.of {K:ZE5}(h:H a=some (.lst xs)):AF K H a xs:=.inl (.inl h)
theorem AA.of {K:ZE5}(h:H a=some (.tup xs)):AA K H a xs:=.inl (.inl h)
theorem Inv.list (I:Inv X pins σ H s)(h:AF X.K H a xs):∃ A4:List Value,Vals xs A4/\PlainL s.heap a A4.toArray/\xs.length<=sizeLine:=by
 rcases h with h | ⟨o,A4,n,hk,hc,hd,hs,hz,r⟩
 ·obtain ⟨z,A4,n,r,e⟩:=h.ok I.AL;exact ⟨A4,r,⟨_,n,e,rfl,rfl,rfl⟩,z⟩
 ·refine ⟨A4.toList,r,⟨o,n,I.CO a o hk,hc,hd,by simpa using hs⟩,?_⟩
  have e:=r.length;simp only [Fm] at e;omega
theorem Inv.tuple (I:Inv X pins σ H s)(h:AA X.K H a xs):∃ A4:List Value,Vals xs A4/\IsTup s.heap a A4.toArray/\xs.length<=sizeLine:=by
 rcases h with h | ⟨o,A4,n,hk,hc,hs,hz,r⟩
 ·obtain ⟨z,A4,r,p⟩:=h.ok I.AL;exact ⟨A4,r,p.1,z⟩
 ·refine ⟨A4.toList,r,⟨o,I.CO a o hk,hc,n,by simpa using hs⟩,?_⟩
  have e:=r.length;simp only [Fm] at e;omega
theorem Inv.bA (I:Inv X pins σ H s)(h:AF X.K H a xs)(h':AF X.K H a ys):xs=ys:=by
 obtain ⟨A4,r,⟨o,n,e,_,_,d⟩,_⟩:=I.list h;obtain ⟨its',r',⟨o',n',e',_,_,d'⟩,_⟩:=I.list h';rw [e] at e';cases e';rw [d] at d';injection d' with d1 _
 have:A4=its':=by simpa using o7 Array.toList d1
 subst this;exact r.inj r'
theorem Inv.N1 (I:Inv X pins σ H s)(h:AA X.K H a xs)(h':AA X.K H a ys):xs=ys:=by
 obtain ⟨A4,r,⟨o,e,_,n,d⟩,_⟩:=I.tuple h;obtain ⟨its',r',⟨o',e',_,n',d'⟩,_⟩:=I.tuple h';rw [e] at e';cases e';rw [d] at d';injection d' with d1 _
 have:A4=its':=by simpa using o7 Array.toList d1
 subst this;exact r.inj r'
end
abbrev Cx.GO (X:Cx)(E:Value->Shared->Prop):Cx:={ X with xe:=E }
abbrev Cx.Ls (X:Cx):Cx:=X.GO fun _ _=>False
theorem Cx.Ok.GO (ok:X.Ok)(E:Value->Shared->Prop):(X.GO E).Ok:=
 ⟨ok.mod,ok.kind,ok.glob,ok.blt,ok.above,ok.inj,ok.has,ok.NO,ok.hd,ok.frames,ok.PQ,ok.QL,ok.bs,ok.Hc,ok.Nj,ok.Me,ok.FY,ok.Jd⟩
theorem Cx.Ok.IT (ok:(X.GO E).Ok):X.Ok:=
 ⟨ok.mod,ok.kind,ok.glob,ok.blt,ok.above,ok.inj,ok.has,ok.NO,ok.hd,ok.frames,ok.PQ,ok.QL,ok.bs,ok.Hc,ok.Nj,ok.Me,ok.FY,ok.Jd⟩
section
theorem Inv.GO (I:Inv X pins σ H s)(E:Value->Shared->Prop):Inv (X.GO E) pins σ H s:=⟨I.ok.GO E,I.os,I.bare,I.base,I.loc,I.cell,I.free,I.GI,I.pin,I.AL,I.len⟩
theorem Inv.IT (I:Inv (X.GO E) pins σ H s):Inv X pins σ H s:=⟨I.ok.IT,I.os,I.bare,I.base,I.loc,I.cell,I.free,I.GI,I.pin,I.AL,I.len⟩
theorem SP.IT {D:Ends}{f:Flow}(h:SP (X.GO E) pins D f s'):SP X pins D f s':=by
 cases f with
 | next=>obtain ⟨σ',H',I,q⟩:=h;exact ⟨σ',H',I.IT,q⟩
 | brk=>obtain ⟨σ',H',I,q⟩:=h;exact ⟨σ',H',I.IT,q⟩
 | cont=>obtain ⟨σ',H',I,q⟩:=h;exact ⟨σ',H',I.IT,q⟩
 | ret u=>obtain ⟨v,σ',H',I,r,q⟩:=h;exact ⟨v,σ',H',I.IT,r,q⟩
theorem Dq.Ls {st:List Stmt}{t:TS}(h:Dq X.Ls st t):Dq X st t:=fun pins s σ H D I hw=>
 kg (h pins s σ H D (I.GO _) hw) (fun _ _ q=>q.IT) fun _ _ z=>False.elim z
variable {st:Stmt}{rest:List Stmt}{t u:TS}
def Rz:TS:=fun D σ H=>D.nx σ H
def MX (t u:TS):TS:=fun D σ H=>t { D with nx:=u D } σ H
theorem xv (h1:PS X st t)(h2:Dq X rest u):Dq X (st::rest) (MX t u):=by
 intro pins s σ H D I h;refine wpAny_execs_cons (AO (h1 pins s σ H { D with nx:=u D } I h) fun f s1 q=>?_)
 cases f with
 | next=>
  obtain ⟨σ',H',I',q⟩:=q;exact h2 pins s1 σ' H' D I' q
 | ret v=>exact q
 | brk=>exact q
 | cont=>exact q
theorem ZA9 (h1:PS X st t):Dq X [st] t:=by
 intro pins s σ H D I h;refine wpAny_execs_cons (AO (h1 pins s σ H D I h) fun f s1 q=>?_);cases f with
 | next=>exact vL q
 | ret v=>exact q
 | brk=>exact q
 | cont=>exact q
theorem Inv.quiet (I:Inv X pins σ H s):interactive X.env=false:=by simp [interactive,I.ok.kind]
def LH (te:TE):TS:=fun D σ H=>te σ H fun _ H1=>D.nx σ H1
def Gu (te:TE):TS:=fun D σ H=>te σ H D.rt
def MU (c:TT)(t u:TS):TS:=fun D σ H=>c σ H fun b H1=>if b=true then t D σ H1 else u D σ H1
def cW:TS:=fun _ _ _=>False
end
abbrev TG:=V->St->Hp->(St->Hp->Prop)->Prop
abbrev GQ:=List V->St->Hp->(St->Hp->Prop)->Prop
def PG (X:Cx)(target:Expr)(t:TG):Prop:=
 ∀ (pins:ZE6) (s:Shared) (σ:St) (H:Hp) (v:V) (u:Value) (Q:St->Hp->Prop),Inv X pins σ H s->RelV v u->t v σ H Q->
  wpAny (model X.prog X.w) X.A (assign target X.env u) (fun _ s'=>∃ σ' H',Inv X pins σ' H' s'/\Q σ' H') X.xe s
def Mp (X:Cx)(ts:List Expr)(t:GQ):Prop:=
 ∀ (pins:ZE6) (s:Shared) (σ:St) (H:Hp) (vs:List V) (us:List Value) (Q:St->Hp->Prop),Inv X pins σ H s->Vals vs us->t vs σ H Q->
  wpAny (model X.prog X.w) X.A (assignInOrder ((assignEach ts X.env).map (·.2)) us) (fun _ s'=>∃ σ' H',Inv X pins σ' H' s'/\Q σ' H') X.xe s
abbrev QP:=V->V->V->Hp->(Hp->Prop)->Prop
def XB (X:Cx)(t:QP):Prop:=
 ∀ (pins:ZE6) (s:Shared) (σ:St) (H:Hp) (o i v:V) (ov iv u:Value) (Q:Hp->Prop),Inv X pins σ H s->RelV o ov->RelV i iv->RelV v u->t o i v H Q->
  wpAny (model X.prog X.w) X.A (setItem ov iv u) (fun _ s'=>∃ H',Inv X pins σ H' s'/\Q H') X.xe s
def D1 (i:Nat):TG:=fun v σ H Q=>Q (σ.set i (some v)) H
theorem iG (hN:X.N.Nodup)(hi:X.N[i]?=some x)(hx:Loc X.env.scope x)(hf:X.fn x=true∨X.env.scope.names.lookup x=some .local:=by first | exact .inl rfl | exact .inr rfl | assumption):PG X (.Name x pos) (D1 i):=by
 intro pins s σ H v u Q I r h;exact wpAny_assign_Name (gE I hN hi hx r (fun s' I'=>⟨_,H,I',h⟩) hf)
def Qq:GQ:=fun vs σ H Q=>vs=[]/\Q σ H
def Jj (t:TG)(u:GQ):GQ:=fun vs σ H Q=>∃ v r,vs=v::r/\t v σ H fun σ' H'=>u r σ' H' Q
def P8 (K:ZE5)(n:Nat)(t:GQ):TG:=fun v σ H Q=>∃ a xs,v=.ref a/\AA K H a xs/\xs.length=n/\t xs σ H Q
def ax (to ti:TE)(t:QP):TG:=fun v σ H Q=>to σ H fun o H1=>ti σ H1 fun i H2=>t o i v H2 fun H3=>Q σ H3
def EX (te:TE)(g:TG):TS:=fun D σ H=>te σ H fun x H1=>g x σ H1 D.nx
def ck (c:TT)(tb:TS):TS:=fun D σ H=>∃ W:Nat->St->Hp->Prop,(∃ m,W m σ H)/\∀ m σ H,W m σ H->
 c σ H fun b H1=>if b=true then ∃ N:St->Hp->Prop,(∀ σ' H',N σ' H'->∃ m',m' < m/\W m' σ' H')/\tb { D with nx:=N,ct:=N,bk:=D.nx } σ H1 else D.nx σ H1
structure It where
 go:Nat->Hp->Prop
 Fe:Nat->Hp->V->Hp->Prop
 stop:Nat->Hp->Prop
def Ds (X:Cx)(pins:ZE6)(H:Hp)(b:Addr):Prop:=
 H b=none/\b≠X.env.locals/\b∉X.fs/\(b∈X.ex∨X.s₀.heap.objs.size<=b)/\(∀ x c,X.env.cells.lookup x=some c->c≠b)/\∀ p∈X.pn++pins,p.1≠b
theorem Inv.Kt (I:Inv X pins σ H s)(hb:s.heap.objs.size<=b)(hn:H' b=none):Ds X pins H' b:=by
 refine ⟨hn,KQ (D5 I.lt hb),I.ZAg hb,.inr (Ci I.sz hb),fun x c e z=>?_,fun p hp z=>?_⟩
 ·obtain ⟨v,q⟩:=I.cell x c e;exact absurd (D5 q.lt (by rw [z];exact hb)) (KO _)
 ·exact absurd (D5 (B8 (I.pin p hp).1) (by rw [z];exact hb)) (KO _)
structure Turn (P:Program) (w:World) (K:ZE5) (tg:Expr) (J:It) (fp:List Addr) (it:Addr) (tn:Nat->Heap->Prop):Prop where
 mem:it∈fp
 obj:∀ i h,tn i h->∀ b∈fp,∃ o,h.get? b=some o/\∀ v,o.data≠.cell v
 keep:∀ i h h',tn i h->(∀ b∈fp,∀ o,h.get? b=some o->h'.get? b=some o)->tn i h'
 item:∀ (X:Cx),X.prog=P->X.w=w->X.K=K->X.calm=true->∀ (i:Nat) (pins:ZE6) (s:Shared) (σ:St) (H:Hp) (E:Value->Shared->Prop),Inv X pins σ H s->(∀ b∈fp,Ds X pins H b)->tn i s.heap->J.go i H->
  wpAny (model P w) X.A (pyNext (.ref it)) (fun r s1=>∃ u,r=some u/\
   wpAny (model P w) X.A (letOwnedTupleGo tg (.ref it) u) (fun _ s2=>∃ x H',Inv X pins σ H' s2/\RelV x u/\J.Fe i H x H'/\tn (i+1) s2.heap/\∀ b∈fp,H' b=none) E s1) E s
 done:∀ (X:Cx),X.prog=P->X.w=w->X.K=K->X.calm=true->∀ (i:Nat) (pins:ZE6) (s:Shared) (σ:St) (H:Hp) (E:Value->Shared->Prop),Inv X pins σ H s->(∀ b∈fp,Ds X pins H b)->tn i s.heap->J.stop i H->
  wpAny (model P w) X.A (pyNext (.ref it)) (fun r s1=>r=none/\Inv X pins σ H s1) E s
 self:∀ (A:Around) (i:Nat) (s:Shared) (Q:Value->Shared->Prop) (E:Value->Shared->Prop),tn i s.heap->Q (.ref it) s->wpAny (model P w) A (pyIter (.ref it)) Q E s
abbrev TI:=St->Hp->(It->Hp->Prop)->Prop
def cz (X:Cx)(pins:ZE6)(σ:St)(tg:Expr)(R:It->Hp->Prop)(QV:Value)(s2:Shared):Prop:=
 ∃ (it:Addr) (fp:List Addr) (tn:Nat->Heap->Prop) (J:It) (H':Hp),QV=.ref it/\Inv X pins σ H' s2/\Turn X.prog X.w X.K tg J fp it tn/\tn 0 s2.heap/\(∀ b∈fp,Ds X pins H' b)/\R J H'
def PI (X:Cx)(tg iter:Expr)(wi:TI):Prop:=
 ∀ (pins:ZE6) (s:Shared) (σ:St) (H:Hp) (R:It->Hp->Prop),Inv X pins σ H s->wi σ H R->
  wpAny (model X.prog X.w) X.A (eval iter X.env) (fun v s1=>wpAny (model X.prog X.w) X.A (pyIter v) (cz X pins σ tg R) X.xe s1) X.xe s
theorem NR {o:Obj}{n:String}{vs:Array Value}{Q:Unit->Shared->Prop}(ho:s.heap.get? it=some o)(hc:o.cls=.type n)(hd:o.data=.fields vs)
  (hn:["enumerate","zip","dict_itemiterator","dict_reverseitemiterator","odict_iterator","itertools.zip_longest","itertools.pairwise"].contains n=false) (hQ:Q () s):wpAny M A (letOwnedTupleGo tg (.ref it) u) Q E s:=by
 unfold letOwnedTupleGo;cases tg <;> first
  | exact j9 hQ
  | (cases u <;> first
    | exact j9 hQ
    | (
      refine j7 (wC ho ?_);rw [hc,hd];show wpAny M A (if (["enumerate","zip","dict_itemiterator","dict_reverseitemiterator","odict_iterator","itertools.zip_longest","itertools.pairwise"].contains n && vs[0]? == some (rawInt _))=true then _ else _) Q E s
      rw [jG (by intro h;rw [hn,Bool.false_and] at h;cases h)];exact j9 hQ))
def pL (K:ZE5)(a:Addr):It:=
 ⟨fun i H=>∃ xs x,AF K H a xs/\xs[i]?=some x,fun i H x H'=>H'=H/\∀ xs,AF K H a xs->xs[i]?=some x,fun i H=>∃ xs,AF K H a xs/\xs.length<=i⟩
def kS (K:ZE5)(a:Addr):It:=
 ⟨fun i H=>∃ xs x,AA K H a xs/\xs[i]?=some x,fun i H x H'=>H'=H/\∀ xs,AA K H a xs->xs[i]?=some x,fun i H=>∃ xs,AA K H a xs/\xs.length<=i⟩
def JF (lo:Int)(n:Nat):It:=⟨fun i _=>i<n,fun i H x H'=>H'=H/\x=.int (lo+i),fun i _=>n<=i⟩
theorem Ng {P:Program}{K:ZE5}(a it:Addr):Turn P w K tg (pL K a) [it] it (fun i h=>h.IsListIter it a i) where
 mem:=by simp
 obj:=fun i h st b hb=>by
  have e:b=it:=by simpa using hb
  subst e;obtain ⟨o,e,c,d⟩:=st;exact ⟨o,e,fun v z=>by rw [d] at z;cases z⟩
 keep:=fun i h h' st k=>st.at fun o e=>k it (by simp) o e
 item:=by
  intro X hP hw hK hc i pins s σ H E I hf st hg;subst hP hw hK;obtain ⟨xs,x,hq,hx⟩:=hg;obtain ⟨A4,rv,p,hz⟩:=I.list hq;obtain ⟨u,hu,ru⟩:=rv.get hx;obtain ⟨f0,f1,f2,f3,f4,f5⟩:=hf it (by simp);refine wpAny_pyNext_list_item st p.isList (x:=u) (by simpa using hu) fun h' Cg sb=>?_
  have I1:Inv X pins σ H { s with heap:=h' }:=I.turned (t':=s.toks) (fun b o hb e=>(sb.2 b hb).trans e) f0 f1 f3 f4 f5
  obtain ⟨o,e,c,d⟩:=id Cg;exact ⟨u,rfl,NR (s:={ s with heap:=h' }) e c d (by decide) ⟨x,H,I1,ru,⟨rfl,fun ys hy=>by rw [I.bA hy hq];exact hx⟩,Cg,fun b hb=>(hf b hb).1⟩⟩
 done:=by
  intro X hP hw hK hc i pins s σ H E I hf st hg;subst hP hw hK;obtain ⟨xs,hq,hx⟩:=hg;obtain ⟨A4,rv,p,hz⟩:=I.list hq;obtain ⟨f0,f1,f2,f3,f4,f5⟩:=hf it (by simp);have hl:=rv.length;exact wpAny_pyNext_list_end (I.ok.hd hc) st p.isList (by simp;omega) fun h' eb=>⟨rfl,I.turned (t':=s.toks) (fun b o hb e=>eb b o hb e) f0 f1 f3 f4 f5⟩
 self:=fun _ _ _ _ _ st h=>wpAny_pyIter_listiter st h
theorem MR {P:Program}{K:ZE5}(a it:Addr):Turn P w K tg (kS K a) [it] it (fun i h=>h.IsTupleIter it a i) where
 mem:=by simp
 obj:=fun i h st b hb=>by
  have e:b=it:=by simpa using hb
  subst e;obtain ⟨o,e,c,d⟩:=st;exact ⟨o,e,fun v z=>by rw [d] at z;cases z⟩
 keep:=fun i h h' st k=>st.at fun o e=>k it (by simp) o e
 item:=by
  intro X hP hw hK hc i pins s σ H E I hf st hg;subst hP hw hK;obtain ⟨xs,x,hq,hx⟩:=hg;obtain ⟨A4,rv,p,hz⟩:=I.tuple hq;obtain ⟨u,hu,ru⟩:=rv.get hx;obtain ⟨f0,f1,f2,f3,f4,f5⟩:=hf it (by simp);refine wpAny_pyNext_tuple_item st (show s.heap.IsTuple a A4.toArray from p) (x:=u) (by simpa using hu) fun h' Cg sb=>?_
  have I1:Inv X pins σ H { s with heap:=h' }:=I.turned (t':=s.toks) (fun b o hb e=>(sb.2 b hb).trans e) f0 f1 f3 f4 f5
  obtain ⟨o,e,c,d⟩:=id Cg;exact ⟨u,rfl,NR (s:={ s with heap:=h' }) e c d (by decide) ⟨x,H,I1,ru,⟨rfl,fun ys hy=>by rw [I.N1 hy hq];exact hx⟩,Cg,fun b hb=>(hf b hb).1⟩⟩
 done:=by
  intro X hP hw hK hc i pins s σ H E I hf st hg;subst hP hw hK;obtain ⟨xs,hq,hx⟩:=hg;obtain ⟨A4,rv,p,hz⟩:=I.tuple hq;obtain ⟨f0,f1,f2,f3,f4,f5⟩:=hf it (by simp);have hl:=rv.length;exact wpAny_pyNext_tuple_end (I.ok.hd hc) st (show s.heap.IsTuple a A4.toArray from p) (by simp;omega) fun h' eb=>⟨rfl,I.turned (t':=s.toks) (fun b o hb e=>eb b o hb e) f0 f1 f3 f4 f5⟩
 self:=fun _ _ _ _ _ st h=>wpAny_pyIter_tupleiter st h
theorem ZBo {P:Program}{K:ZE5}(it:Addr)(lo:Int)(n:Nat):Turn P w K tg (JF lo n) [it] it (fun i h=>IsRangeIter h it (lo+(i:Nat) * 1) ((n:Int) - (i:Nat)) 1) where
 mem:=by simp
 obj:=fun i h st b hb=>by
  have e:b=it:=by simpa using hb
  subst e;exact ⟨_,st,fun v z=>by
   have z':Data.fields _=Data.cell v:=z;cases z'⟩
 keep:=fun i h h' st k=>k it (by simp) _ st
 item:=by
  intro X hP hw hK hc i pins s σ H E I hf st hg;subst hP hw hK;obtain ⟨f0,f1,f2,f3,f4,f5⟩:=hf it (by simp);have W:=Walks.range (prog:=X.prog) (w:=X.w) (I.ok.hd hc) it lo 1 n;refine W.item i s _ _ hg st fun v h' tk hv Cg kk=>?_;obtain ⟨t,rfl⟩:=hv;have I1:Inv X pins σ H { s with heap:=h',toks:=tk }:=I.turned (fun b o hb e=>kk b o (by simpa using hb) e) f0 f1 f3 f4 f5
  refine ⟨_,rfl,NR (s:={ s with heap:=h',toks:=tk }) (n:="range_iterator") Cg rfl rfl (by decide) ⟨.int (lo+i),H,I1,⟨t,?_⟩,⟨rfl,rfl⟩,Cg,fun b hb=>(hf b hb).1⟩⟩
  rw [Int.mul_one]
 done:=by
  intro X hP hw hK hc i pins s σ H E I hf st hg;subst hP hw hK;obtain ⟨f0,f1,f2,f3,f4,f5⟩:=hf it (by simp);exact wpAny_pyNext_range_end (I.ok.hd hc) st (by have:n<=i:=hg;omega) fun h' eb=>⟨rfl,I.turned (t':=s.toks) (fun b o hb e=>eb b o hb e) f0 f1 f3 f4 f5⟩
 self:=fun _ _ _ _ _ st h=>wpAny_pyIter_rangeiter st h
theorem eP {R:It->Hp->Prop}{lo hi:Int}{t u v:Tok}(I:Inv X pins σ H s)(h1:-(2 ^ 62)<=lo)(h2:lo<2 ^ 62)(h3:-(2 ^ 62)<=hi)(h4:hi<2 ^ 62)
  (q:R (JF lo (hi - lo).toNat) H):wpAny (model X.prog X.w) X.A (pyIter (.ref s.heap.objs.size)) (cz X pins σ tg R) E { s with heap:=s.heap.push { cls:=.type "range", data:=.fields #[.int lo t,.int hi u,.int 1 v] },toks:=tk }:=by
 refine wpAny_pyIter_range (IsRange.new ..) (small_one h1 h2 h3 h4) ?_;have I1:Inv X pins σ H { s with heap:=s.heap.push { cls:=.type "range", data:=.fields #[.int lo t,.int hi u,.int 1 v] },toks:=tk }:=I.kept fun b o e=>BF _ e
 refine ⟨(s.heap.push { cls:=.type "range", data:=.fields #[.int lo t,.int hi u,.int 1 v] }).objs.size,[(s.heap.push { cls:=.type "range", data:=.fields #[.int lo t,.int hi u,.int 1 v] }).objs.size],_,_,H,rfl,
  I1.kept (t':=tk) fun b o e=>BF _ e,ZBo _ lo (hi - lo).toNat,?_,fun b hb=>?_,q⟩
 ·have e1:lo+((0:Nat):Int) * 1=lo:=by simp
  have e2:(((hi - lo).toNat:Nat):Int) - ((0:Nat):Int)=Builtin.Range.rangeSize lo hi 1:=by rw [rangeSize_one];split <;> omega
  show IsRangeIter _ _ (lo+((0:Nat):Int) * 1) ((((hi - lo).toNat:Nat):Int) - ((0:Nat):Int)) 1;rw [e1,e2];exact BU _ rfl
 ·have e:b=(s.heap.push { cls:=.type "range", data:=.fields #[.int lo t,.int hi u,.int 1 v] }).objs.size:=by simpa using hb
  subst e;exact I1.Kt (Ao _) (I1.AL.fresh (Ao _))
def Ul (ta:TA):TI:=fun σ H R=>ta σ H fun vs H1=>∃ j:Int,vs=[.int j]/\-(2 ^ 62)<=j/\j<2 ^ 62/\R (JF 0 j.toNat) H1
def TY (ta:TA):TI:=fun σ H R=>ta σ H fun vs H1=>∃ i j:Int,vs=[.int i,.int j]/\(-(2 ^ 62)<=i/\i<2 ^ 62/\-(2 ^ 62)<=j/\j<2 ^ 62)/\R (JF i (j - i).toNat) H1
def TK (wi:TI)(g:TG)(tb:TS):TS:=fun D σ H=>wi σ H fun J H1=>∃ W:Nat->Nat->St->Hp->Prop,(∃ m,W 0 m σ H1)/\∀ i m σ H,W i m σ H->
 (J.stop i H/\D.nx σ H)∨(J.go i H/\∃ N:St->Hp->Prop,(∀ σ' H',N σ' H'->∃ m',m' < m/\W (i+1) m' σ' H')/\∀ x H',J.Fe i H x H'->g x σ H' fun σ2 H2=>tb { D with nx:=N,ct:=N,bk:=D.nx } σ2 H2)
def NB (fp:List Addr)(h:Heap):ZE6:=fp.filterMap fun b=>(h.get? b).map fun o=>(b,o)
theorem Og {h:Heap}{o:Obj}(hb:b∈fp)(e:h.get? b=some o):(b,o)∈NB fp h:=List.mem_filterMap.mpr ⟨b,hb,by rw [e];rfl⟩
theorem mU {h:Heap}{p:Addr×Obj}(hp:p∈NB fp h):p.1∈fp/\h.get? p.1=some p.2:=by
 obtain ⟨b,hb,e⟩:=List.mem_filterMap.mp hp;cases q:h.get? b with
 | none=>rw [q] at e;cases e
 | some o=>
  rw [q] at e;have e':(b,o)=p:=BO e;subst e';exact ⟨hb,q⟩
theorem Inv.pinned (I:Inv X pins σ H s)(hf:∀ b∈fp,Ds X pins H b)(ho:∀ b∈fp,∃ o,s.heap.get? b=some o/\∀ v,o.data≠.cell v):Inv X (pins++NB fp s.heap) σ H s:=
 I.fb fun p hp=>(List.mem_append.mp hp).elim (fun z=>I.pin p (D4 _ z)) fun z=>by
  obtain ⟨hb,e⟩:=mU z;obtain ⟨f0,f1,f2,_⟩:=hf p.1 hb;obtain ⟨o,e',d⟩:=ho p.1 hb;rw [e] at e';cases e';exact ⟨e,f0,f1,f2,d⟩
theorem Inv.Mg {pl:ZE6}(I:Inv X (pins++pl) σ H s):Inv X pins σ H s:=I.fb fun p hp=>I.pin p (D4 _ (HD _ hp))
theorem xJ {lo:Int}{g:TG}{tb:TS}{D:Ends}(Pv:Nat->St->Hp->Prop)(h0:Pv 0 σ H)
  (hs:∀ i σ H,i<n->Pv i σ H->g (.int (lo+i)) σ H fun σ2 H2=>tb { D with nx:=Pv (i+1),ct:=Pv (i+1),bk:=D.nx } σ2 H2) (hd:∀ σ H,Pv n σ H->D.nx σ H) :
  ∃ W:Nat->Nat->St->Hp->Prop,(∃ m,W 0 m σ H)/\∀ i m σ H,W i m σ H->
   ((JF lo n).stop i H/\D.nx σ H)∨((JF lo n).go i H/\∃ N:St->Hp->Prop,(∀ σ' H',N σ' H'->∃ m',m' < m/\W (i+1) m' σ' H')/\∀ x H',(JF lo n).Fe i H x H'->g x σ H' fun σ2 H2=>tb { D with nx:=N,ct:=N,bk:=D.nx } σ2 H2):=by
 refine ⟨fun i m σ H=>m=n - i/\i<=n/\Pv i σ H,⟨n,by simp,C2 _,h0⟩,?_⟩;rintro i m σ H ⟨rfl,hi,p⟩
 by_cases AQ:i<n
 ·refine .inr ⟨AQ,Pv (i+1),fun σ' H' p'=>⟨n - (i+1),by omega,rfl,AQ,p'⟩,fun x H' y=>?_⟩;obtain ⟨e,y⟩:=y;subst e y;exact hs i σ _ AQ p
 ·have e:i=n:=by omega
  subst e;exact .inl ⟨Ao _,hd σ H p⟩
abbrev R2:=V->V->Hp->VK->Prop
def BG (X:Cx)(f:Value->Value->Sem Value)(r:R2):Prop:=
 ∀ (pins:ZE6) (s:Shared) (σ:St) (H:Hp) (x y:V) (v u:Value) (Q:VK),Inv X pins σ H s->RelV x v->RelV y u->r x y H Q->
  wpAny (model X.prog X.w) X.A (f v u) (EP X pins σ Q) X.xe s
def CY (X:Cx)(f:Value)(r:List V->Hp->VK->Prop):Prop:=
 ∀ (pins:ZE6) (s:Shared) (σ:St) (H:Hp) (xs:List V) (us:List Value) (Q:VK),Inv X pins σ H s->Vals xs us->r xs H Q->
  wpAny (model X.prog X.w) X.A (call f us) (EP X pins σ Q) X.xe s
def Bx (r:R2)(ta tb:TE):TE:=fun σ H Q=>ta σ H fun x H1=>tb σ H1 fun y H2=>r x y H2 Q
def rI (C:Int->Int->Prop)(g:Int->Int->V):R2:=fun x y H Q=>∃ i j,x=.int i/\y=.int j/\C i j/\Q (g i j) H
def GR (g:Int->Int->V):R2:=fun x y H Q=>∃ i j,x=.int i/\y=.int j/\Q (g i j) H
section
variable {a b c:Expr}
theorem RM (ha:PE X a ta)(hb:PE X b tb){R:V->V->Hp->Prop}(I:Inv X pins σ H s)
  (h:ta σ H fun x H1=>tb σ H1 fun y H2=>R x y H2)
  (hf:∀ v u s2 x y H2,Inv X pins σ H2 s2->RelV x v->RelV y u->R x y H2->wpAny (model X.prog X.w) X.A (f v u) Q X.xe s2) :
  wpAny (model X.prog X.w) X.A (eval a X.env) (fun v s₁=>wpAny (model X.prog X.w) X.A (eval b X.env) (fun u s₂=>wpAny (model X.prog X.w) X.A (f v u) Q X.xe s₂) X.xe s₁) X.xe s:=by
 refine AO (ha pins s σ H _ I h) fun v s1 Ni=>?_;obtain ⟨x,H1,I1,r1,q1⟩:=Ni;refine AO (hb pins s1 σ H1 _ I1 q1) fun u s2 w6=>?_;obtain ⟨y,H2,I2,r2,q2⟩:=w6;exact hf v u s2 x y H2 I2 r1 r2 q2
theorem Qv {C:Int->Int->Prop}{g:Int->Int->Int}
  (rule:∀ (i j:Int) (t u:Tok) (s:Shared) (Q:Value->Shared->Prop) (E:Value->Shared->Prop),C i j->Q (.int (g i j) s.toks) { s with toks:=s.toks+1 }->wpAny (model X.prog X.w) X.A (f (.int i t) (.int j u)) Q E s) :
  BG X f (rI C fun i j=>.int (g i j)):=by
 intro pins s σ H x y v u Q I rx ry h;obtain ⟨i,j,rfl,rfl,hc,q⟩:=h;obtain ⟨t,rfl⟩:=rx;obtain ⟨t',rfl⟩:=ry;exact rule i j t t' s _ _ hc ⟨.int (g i j),H,I.tok _,⟨_,rfl⟩,q⟩
theorem dW {g:Int->Int->Int}
  (rule:∀ (i j:Int) (t u:Tok) (s:Shared) (Q:Value->Shared->Prop) (E:Value->Shared->Prop),Q (.int (g i j) s.toks) { s with toks:=s.toks+1 }->wpAny (model X.prog X.w) X.A (f (.int i t) (.int j u)) Q E s) :
  BG X f (GR fun i j=>.int (g i j)):=by
 intro pins s σ H x y v u Q I rx ry h;obtain ⟨i,j,rfl,rfl,q⟩:=h;obtain ⟨t,rfl⟩:=rx;obtain ⟨t',rfl⟩:=ry;exact rule i j t t' s _ _ ⟨.int (g i j),H,I.tok _,⟨_,rfl⟩,q⟩
theorem QN {g:Int->Int->Bool}
  (rule:∀ (i j:Int) (t u:Tok) (s:Shared) (Q:Value->Shared->Prop) (E:Value->Shared->Prop),Q (.bool (g i j)) s->wpAny (model X.prog X.w) X.A (f (.int i t) (.int j u)) Q E s) :
  BG X f (GR fun i j=>.bl (g i j)):=by
 intro pins s σ H x y v u Q I rx ry h;obtain ⟨i,j,rfl,rfl,q⟩:=h;obtain ⟨t,rfl⟩:=rx;obtain ⟨t',rfl⟩:=ry;exact rule i j t t' s _ _ ⟨.bl (g i j),H,I,rfl,q⟩
def yf (i j:Int):Prop:=0<=j/\j<=1000000/\i.natAbs<2 ^ 64
theorem E9:BG X (binaryOp .Add) (GR fun i j=>.int (i+j)):=dW fun _ _ _ _ _ _ _ q=>add_int q
theorem Oh:BG X (binaryOp .Sub) (GR fun i j=>.int (i - j)):=dW fun _ _ _ _ _ _ _ q=>sub_int q
theorem Ii:BG X (binaryOp .Mod) (rI (fun _ j=>0<j) fun i j=>.int (i % j)):=Qv fun i j _ _ _ _ _ hc q=>by
 have h1:(0:Int)<j:=hc;exact mod_int' (by omega) (by rw [Int.fmod_eq_emod_of_nonneg i (by omega)];exact q)
theorem Kb:BG X (binaryOp .Pow) (rI yf fun i j=>.int (i ^ j.toNat)):=Qv fun _ _ _ _ _ _ _ hc q=>pow_int_small hc.1 hc.2.1 hc.2.2 q
end
def OD:V->V->Bool
 | .AB,.AB=>true | .AB,.int _=>true | .int _,.AB=>true | .AB,.bl _=>true | .bl _,.AB=>true | .AB,.str _=>true | .str _,.AB=>true
 | .int _,.int _=>true | .bl _,.bl _=>true | .str _,.str _=>true | .FX _,.FX _=>true
 | .int _,.str _=>true | .str _,.int _=>true | .bl _,.str _=>true | .str _,.bl _=>true
 | _,_=>false
def Uk:R2:=fun x y H Q=>OD x y=true/\Q (.bl (decide (x=y))) H
def YR:R2:=fun x y H Q=>OD x y=true/\Q (.bl (!decide (x=y))) H
theorem Zc {i j:Int}:decide (V.int i=V.int j)=(i == j):=by
 rw [Lg];simp
theorem dB {i j:Bool}:decide (V.bl i=V.bl j)=(i == j):=by
 rw [Lg];simp
theorem Zd {i j:Str}:decide (V.str i=V.str j)=(i == j):=by
 rw [Lg];simp
theorem cg {i j:Array UInt8}:decide (V.FX i=V.FX j)=(i.toList == j.toList):=by
 rw [Lg];cases i;cases j;simp
section
variable {a b c:Expr}
theorem Bj {Q:VK}{k k':Bool}(I:Inv X pins σ H s)(q:Q (.bl k) H)(e:k=k'):EP X pins σ Q (.bool k') s:=by
 subst e;exact ⟨.bl k,H,I,rfl,q⟩
theorem Bw:BG X (compareOp .Eq) Uk:=by
 intro pins s σ H x y v u Q I rx ry h;obtain ⟨hs,q⟩:=h;cases x with
 | AB=>
  cases rx;cases y with
  | AB=>cases ry;exact PySem.EqNone.eq_none_none (Bj I q (by simp))
  | bl j=>cases ry;exact PySem.EqNone.eq_none_bool (Bj I q (by simp))
  | int j=>obtain ⟨t',rfl⟩:=ry;exact PySem.EqNone.eq_none_int (Bj I q (by simp))
  | str j=>obtain ⟨t',rfl⟩:=ry;exact PySem.EqNone.eq_none_str (Bj I q (by simp))
  | _=>exact absurd (show false=true from hs) DJ
 | bl i=>
  cases rx;cases y with
  | AB=>cases ry;exact PySem.EqNone.eq_bool_none (Bj I q (by simp))
  | bl j=>cases ry;exact eq_bool (Bj I q dB)
  | str j=>obtain ⟨t',rfl⟩:=ry;exact PySem.EqMixed.eq_bool_str (Bj I q (by simp))
  | _=>exact absurd (show false=true from hs) DJ
 | int i=>
  obtain ⟨t,rfl⟩:=rx;cases y with
  | AB=>cases ry;exact PySem.EqNone.eq_int_none (Bj I q (by simp))
  | int j=>obtain ⟨t',rfl⟩:=ry;exact eq_int (Bj I q Zc)
  | str j=>obtain ⟨t',rfl⟩:=ry;exact PySem.EqMixed.eq_int_str (Bj I q (by simp))
  | _=>exact absurd (show false=true from hs) DJ
 | str i=>
  obtain ⟨t,rfl⟩:=rx;cases y with
  | AB=>cases ry;exact PySem.EqNone.eq_str_none (Bj I q (by simp))
  | bl j=>cases ry;exact PySem.EqMixed.eq_str_bool (Bj I q (by simp))
  | int j=>obtain ⟨t',rfl⟩:=ry;exact PySem.EqMixed.eq_str_int (Bj I q (by simp))
  | str j=>obtain ⟨t',rfl⟩:=ry;exact eq_str (Bj I q Zd)
  | _=>exact absurd (show false=true from hs) DJ
 | FX i=>
  obtain ⟨t,rfl⟩:=rx;cases y with
  | FX j=>obtain ⟨t',rfl⟩:=ry;exact PySem.W.eq_bytes (Bj I q cg)
  | _=>exact absurd (show false=true from hs) DJ
 | _=>cases y <;> exact absurd (show false=true from hs) DJ
theorem Ib:BG X (compareOp .NotEq) YR:=by
 intro pins s σ H x y v u Q I rx ry h;obtain ⟨hs,q⟩:=h;cases x with
 | AB=>
  cases rx;cases y with
  | AB=>cases ry;exact PySem.EqNone.ne_none_none (Bj I q (by simp))
  | bl j=>cases ry;exact PySem.EqNone.ne_none_bool (Bj I q (by simp))
  | int j=>obtain ⟨t',rfl⟩:=ry;exact PySem.EqNone.ne_none_int (Bj I q (by simp))
  | str j=>obtain ⟨t',rfl⟩:=ry;exact PySem.EqNone.ne_none_str (Bj I q (by simp))
  | _=>exact absurd (show false=true from hs) DJ
 | bl i=>
  cases rx;cases y with
  | AB=>cases ry;exact PySem.EqNone.ne_bool_none (Bj I q (by simp))
  | bl j=>cases ry;exact ne_bool (Bj I q (o7 not dB))
  | str j=>obtain ⟨t',rfl⟩:=ry;exact PySem.EqMixed.ne_bool_str (Bj I q (by simp))
  | _=>exact absurd (show false=true from hs) DJ
 | int i=>
  obtain ⟨t,rfl⟩:=rx;cases y with
  | AB=>cases ry;exact PySem.EqNone.ne_int_none (Bj I q (by simp))
  | int j=>obtain ⟨t',rfl⟩:=ry;exact ne_int (Bj I q (o7 not Zc))
  | str j=>obtain ⟨t',rfl⟩:=ry;exact PySem.EqMixed.ne_int_str (Bj I q (by simp))
  | _=>exact absurd (show false=true from hs) DJ
 | str i=>
  obtain ⟨t,rfl⟩:=rx;cases y with
  | AB=>cases ry;exact PySem.EqNone.ne_str_none (Bj I q (by simp))
  | bl j=>cases ry;exact PySem.EqMixed.ne_str_bool (Bj I q (by simp))
  | int j=>obtain ⟨t',rfl⟩:=ry;exact PySem.EqMixed.ne_str_int (Bj I q (by simp))
  | str j=>obtain ⟨t',rfl⟩:=ry;exact ne_str (Bj I q (o7 not Zd))
  | _=>exact absurd (show false=true from hs) DJ
 | FX i=>
  obtain ⟨t,rfl⟩:=rx;cases y with
  | FX j=>obtain ⟨t',rfl⟩:=ry;exact PySem.W.ne_bytes (Bj I q (o7 not cg))
  | _=>exact absurd (show false=true from hs) DJ
 | _=>cases y <;> exact absurd (show false=true from hs) DJ
theorem GF:BG X (compareOp .Lt) (GR fun i j=>.bl (decide (i<j))):=QN fun _ _ _ _ _ _ _ q=>lt_int q
theorem GK:BG X (compareOp .LtE) (GR fun i j=>.bl (decide (i<=j))):=QN fun _ _ _ _ _ _ _ q=>le_int q
theorem XR:BG X (compareOp .Gt) (GR fun i j=>.bl (decide (j<i))):=QN fun _ _ _ _ _ _ _ q=>gt_int q
theorem LG:BG X (compareOp .GtE) (GR fun i j=>.bl (decide (j<=i))):=QN fun _ _ _ _ _ _ _ q=>ge_int q
theorem mq:BG X (compareOp .In) (fun x y H Q=>∃ i j,x=.str i/\y=.str j/\Q (.bl (!(Builtin.Str.occurrences j i 0 j.length 1).isEmpty)) H):=by
 intro pins s σ H x y v u Q I rx ry h;obtain ⟨i,j,rfl,rfl,q⟩:=h;obtain ⟨t,rfl⟩:=rx;obtain ⟨t',rfl⟩:=ry;exact in_str (Bj I q rfl)
theorem TQ:BG X (compareOp .Is) (fun x y H Q=>y=.AB/\Q (.bl (decide (x=.AB))) H):=by
 intro pins s σ H x y v u Q I rx ry h;obtain ⟨rfl,q⟩:=h;cases ry;refine is_none_gen (Bj I q ?_);cases x <;> first
  | (cases rx;rfl)
  | (obtain ⟨t,rfl⟩:=rx;rfl)
theorem b8 (b:Expr)(h:op≠.In:=by decide)(h2:op≠.NotIn:=by decide):behindInMarks op b=false:=by
 have e1:(op == CmpOp.In)=false:=by cases op <;> first | rfl | exact absurd rfl h
 have e2:(op == CmpOp.NotIn)=false:=by cases op <;> first | rfl | exact absurd rfl h2
 cases b <;> simp [behindInMarks,e1,e2]
def Ki (t:TE):TT:=fun σ H Q=>t σ H fun x H'=>∃ k,x=.bl k/\Q k H'
theorem yy {r:R2}(ho:BG X (compareOp op) r)(ha:PE X a ta)(hb:PE X b tb)(hm:behindInMarks op b=false):PT X (.Compare a [op] [b] pos) (Ki (Bx r ta tb)):=by
 intro pins s σ H Q I h;refine wpAny_isTrue_Compare1 (AO (ha pins s σ H _ I h) fun v s1 ⟨x,H1,I1,r1,q1⟩=>AO (hb pins s1 σ H1 _ I1 q1) fun u s2 ⟨y,H2,I2,r2,q2⟩=>
  AO (ho pins s2 σ H2 x y v u _ I2 r1 r2 q2) fun c s3 ⟨z,H3,I3,r3,k,e,q3⟩=>?_) hm
 subst e;cases r3;exact lD ⟨H3,I3,q3⟩
def OH (r r':R2)(ta tb tc:TE):TE:=fun σ H Q=>ta σ H fun x H1=>tb σ H1 fun y H2=>r x y H2 fun z H3=>∃ k,z=.bl k/\
 (if k=true then tc σ H3 fun w' H4=>r' y w' H4 Q else Q (.bl false) H3)
theorem IE:(sizeLine:Nat)<2 ^ 63:=by rw [ZA4];decide
theorem d5:BG X (binaryOp .Add) (fun x y H Q=>∃ i j,x=.str i/\y=.str j/\i.length+j.length<=sizeLine/\Q (.str (i++j)) H):=by
 intro pins s σ H x y v u Q I rx ry h;obtain ⟨i,j,rfl,rfl,hz,q⟩:=h;obtain ⟨t,rfl⟩:=rx;obtain ⟨t',rfl⟩:=ry;exact add_str (fun t' tk=>⟨.str (i++j),H,I.tok _,⟨_,rfl⟩,q⟩) hz
theorem vals1 {x:V}(r:Vals [x] us):∃ u,us=[u]/\RelV x u:=by
 cases r with
 | cons r1 r2=>cases r2;exact ⟨_,rfl,r1⟩
theorem vals2 {x:V}(r:Vals [x,y] us):∃ u w',us=[u,w']/\RelV x u/\RelV y w':=by
 cases r with
 | cons r1 r2=>
  cases r2 with
  | cons r3 r4=>cases r4;exact ⟨_,_,rfl,r1,r3⟩
theorem ZAz (hc:X.calm=true):CY X (.builtin "max") (fun xs H Q=>∃ i j,xs=[.int i,.int j]/\Q (.int (if j > i then j else i)) H):=by
 intro pins s σ H xs us Q I r h;obtain ⟨i,j,rfl,q⟩:=h;obtain ⟨u,w',rfl,⟨t,rfl⟩,⟨t',rfl⟩⟩:=vals2 r;refine max_two_ints (I.ok.hd hc) fun h' tk k=>⟨_,H,I.kept k,?_,q⟩
 by_cases hj:j > i
 ·rw [jd hj,jd hj];exact ⟨_,rfl⟩
 ·rw [jG hj,jG hj];exact ⟨_,rfl⟩
theorem vP (hc:X.calm=true):CY X (.builtin "min") (fun xs H Q=>∃ i j,xs=[.int i,.int j]/\Q (.int (if j<i then j else i)) H):=by
 intro pins s σ H xs us Q I r h;obtain ⟨i,j,rfl,q⟩:=h;obtain ⟨u,w',rfl,⟨t,rfl⟩,⟨t',rfl⟩⟩:=vals2 r;refine min_two_ints (I.ok.hd hc) fun h' tk k=>⟨_,H,I.kept k,?_,q⟩
 by_cases hj:j<i
 ·rw [jd hj,jd hj];exact ⟨_,rfl⟩
 ·rw [jG hj,jG hj];exact ⟨_,rfl⟩
theorem WE:CY X (.type "int") (fun xs H Q=>(∃ i,xs=[.int i]/\Q (.int i) H)∨∃ k,xs=[.bl k]/\Q (.int (if k then 1 else 0)) H):=by
 intro pins s σ H xs us Q I r h;rcases h with ⟨i,rfl,q⟩ | ⟨k,rfl,q⟩
 ·obtain ⟨u,rfl,t,rfl⟩:=vals1 r;exact call_int_int ⟨.int i,H,I,⟨_,rfl⟩,q⟩
 ·obtain ⟨u,rfl,r1⟩:=vals1 r;cases r1;exact call_int_bool ⟨.int (if k then 1 else 0),H,I.tok _,⟨_,rfl⟩,q⟩
end
structure Jg (h:Heap) (x dx C:Addr) (mA:ZE7):Prop where
 obj:h.get? x=some (PySem.W.instObj C dx)
 ns:h.Ns1 dx mA
 ne:dx≠x
theorem oV {h:Heap}(n:h.Ns1 dx mA):∃ od,h.get? dx=some od/\∀ name,PySem.W.lookIn name od=some (mA name):=by
 obtain ⟨o,es,ep,ho,hd,hk,_,hm⟩:=n;refine ⟨o,ho,fun name=>?_⟩;have e:=hm name;unfold nsFind findBy at e;rw [<- Array.find?_toList] at e;unfold PySem.W.lookIn;rw [hd];dsimp only;split
 ·rename_i y q;rw [q] at e;exact o7 some e
 ·rename_i q;rw [q] at e;have a:es.toList.any (·.refKey)=false:=by
   rw [ZCg];intro y hy;obtain ⟨z,t,N4⟩:=hk y (Array.mem_toList_iff.mp hy);simp [DictEntry.refKey,N4]
  have a':¬ es.toList.any (·.refKey)=true:=by rw [a];exact DJ
  rw [jG a'];exact o7 some e
theorem Jg.look {h:Heap}{x:Addr}(I:Jg h x dx C mA):∃ od,PySem.W.InstAt h x (PySem.W.instObj C dx) C (some od)/\∀ name,PySem.W.lookIn name od=some (mA name):=
 let ⟨od,ho,hl⟩:=oV I.ns
 ⟨od,⟨I.obj,rfl,rfl,ho⟩,hl⟩
section
variable {K:ZE5}{x f:Addr}{v:Value}
theorem get_map {expr:Bool}(X:K.In s.heap)(I:Jg s.heap x dx C mA)(hg:PySem.W.plainGet K C name=true)(hh:PySem.W.hasDictIn K C=true)
  (ha:PySem.W.findIn K (.ref C) name=some none) (hv:mA name=some v) (NQ:PySem.W.handedIn v=true) (h:Q v { s with toks:=s.toks+1 }) :
  wpAny (model prog w) A (getAttr (.ref x) name expr) Q E s:=by
 obtain ⟨od,J,hl⟩:=I.look;exact PySem.W.get_value X J (j6 hg).1 (PySem.W.findObj_own hh ha rfl (by rw [hl,hv])) NQ h
theorem oJ {Q:Value×List Value->Shared->Prop}(X:K.In s.heap)(I:Jg s.heap x dx C mA)(hg:PySem.W.plainGet K C name=true)
  (hf:PySem.W.findIn K (.ref C) name=some (some (.ref f))) (ht:PySem.W.isFn K (.ref f)=true) (hv:mA name=none) (h:Q (.ref f,[.ref x]) s) :
  wpAny (model prog w) A (getMethod (.ref x) name pl) Q E s:=by
 obtain ⟨od,J,hl⟩:=I.look;exact PySem.W.method_fn X J (j6 hg).1 (j6 hg).2 hf (beq_iff_eq.mp ht) (by show (PySem.W.lookIn name od).map (·.isSome)=some false;rw [hl,hv];rfl) h
theorem xX {Q:Unit->Shared->Prop}(X:K.In s.heap)(I:Jg s.heap x dx C mA)
  (hs:PySem.W.findIn K (.ref C) "__setattr__"=some (some (.builtin "object.__setattr__"))) (hp:PySem.W.plainOver K C=true) (ht:PySem.W.takerIn K C name=some none) (hh:PySem.W.hasDictIn K C=true)
  (hw:PySem.Within mA ns) (hsz:ns.length<=sizeLine)
  (h:∀ h',Jg h' x dx C (fun y=>if y=name then some v else mA y)->Heap.SameBut dx s.heap h'->Q () { s with heap:=h',toks:=s.toks+2 }) :
  wpAny (model prog w) A (setAttr (.ref x) name v) Q E s:=by
 obtain ⟨od,J,hl⟩:=I.look;refine PySem.W.set_plain X J hs (PySem.W.osa_open (s:={ s with toks:=s.toks+1 }) (r:=none) X J hp ht fun b=>?_)
 obtain ⟨cd,hc,WL⟩:=PySem.W.any_some hh;have hx:s.heap.get? x=some ⟨.ref C,some dx,.plain,#[]⟩:=I.obj;refine j7 (j9 (j7 (j7 (wpAny_loadPart hx (j7 (PySem.W.Looks.here (s:={ s with toks:=s.toks+1 }) (PySem.W.looks_clsIn X hc) ?_))))))
 rw [WL];refine j9 (a:=some dx) (j7 (j9 (j7 ?_)));refine wpAny_nsSet1 (s:={ s with toks:=s.toks+1 }) I.ns fun h' OU Cc=>?_
 obtain ⟨oD,esD,epD,sQ,zM,zm⟩:=OU.count (PySem.Within.cons name v hw);refine j7 (wpAny_lookBehind sQ (by rw [zM];exact pastItsLine_dict (Ci zm (by rw [BN];omega))) ?_);exact j9 (h _ ⟨(Cc.2 _ (BS I.ne)).trans I.obj,OU,I.ne⟩ Cc)
theorem zP {R:Result->Shared->Prop}{vs:List Value}(X:K.In s.heap)(hm:PySem.W.makesIn K C=true)
  (hi:PySem.W.findIn K (.ref C) "__init__"=some (some (.ref f))) (hf:PySem.W.typeIn K (.ref f)=some (.type "function"))
  (h:codeAny (model prog w) (A.under (.builtin "type.__call__" ⟨.ref C::vs,kw⟩)) (.call (.ref f) ⟨.ref (s.heap.objs.size+1)::vs,kw⟩) (PySem.W.InitBack (s.heap.objs.size+1) R)
   { s with heap:=(s.heap.push PySem.W.emptyDict).push (PySem.W.instObj C s.heap.objs.size) }) :
  codeAny (model prog w) A (.call (.ref C) ⟨vs,kw⟩) R s:=by
 obtain ⟨hh,g,d,t,os⟩:=s;exact PySem.W.make_core (PySem.W.makes_of X hm) (PySem.W.looks_findIn X hi) (fun self=>PySem.W.bind_fn X self hf) (.inl rfl) h
end
def DE (f:Str)(v:V):List (Str×V)->List (Str×V)
 | []=>[(f,v)]
 | (g,x)::r=>if g=f then (g,v)::r else (g,x)::DE f v r
theorem gi (f g:Str)(v:V):∀ fs:List (Str×V),(DE f v fs).lookup g=if g=f then some v else fs.lookup g
 | []=>by
  show List.lookup g [(f,v)]=_
  by_cases h:g=f
  ·have hb:(g == f)=true:=beq_iff_eq.mpr h;simp only [List.lookup,hb,jd h]
  ·have hb:(g == f)=false:=beq_eq_false_iff_ne.mpr h;simp only [List.lookup,hb,jG h]
 | (k,x)::r=>by
  have ih:=gi f g v r;rw [show DE f v ((k,x)::r)=(if k=f then (k,v)::r else (k,x)::DE f v r) from rfl]
  by_cases hk:k=f
  ·rw [jd hk]
   by_cases h:g=k
   ·have hb:(g == k)=true:=beq_iff_eq.mpr h;simp only [List.lookup,hb,jd (h.trans hk)]
   ·have hb:(g == k)=false:=beq_eq_false_iff_ne.mpr h;simp only [List.lookup,hb,jG (fun e:g=f=>h (e.trans hk.symm))]
  ·rw [jG hk]
   by_cases h:g=k
   ·have hb:(g == k)=true:=beq_iff_eq.mpr h;simp only [List.lookup,hb,jG (fun e:g=f=>hk (h.symm.trans e))]
   ·have hb:(g == k)=false:=beq_eq_false_iff_ne.mpr h;simp only [List.lookup,hb];exact ih
theorem SK (f:Str)(v:V):∀ fs:List (Str×V),f∈(DE f v fs).map (·.1)/\∀ g,g∈fs.map (·.1)->g∈(DE f v fs).map (·.1)
 | []=>⟨by simp [DE],fun g h=>by simp at h⟩
 | (k,x)::r=>by
  obtain ⟨i1,i2⟩:=SK f v r;rw [show DE f v ((k,x)::r)=(if k=f then (k,v)::r else (k,x)::DE f v r) from rfl]
  by_cases hk:k=f
  ·rw [jd hk];subst hk;exact ⟨by simp,fun g h=>by simpa using h⟩
  ·rw [jG hk];refine ⟨?_,fun g h=>?_⟩
   ·rw [Bs];exact Di _ i1
   ·rw [Bs] at h ⊢;rcases List.mem_cons.mp h with e | e
    ·exact List.mem_cons.mpr (.inl e)
    ·exact Di _ (i2 g e)
theorem aZ (f:Str)(v:V):∀ fs:List (Str×V),(DE f v fs).length<=fs.length+1
 | []=>by simp [DE]
 | (k,x)::r=>by
  have ih:=aZ f v r;rw [show DE f v ((k,x)::r)=(if k=f then (k,v)::r else (k,x)::DE f v r) from rfl]
  by_cases hk:k=f
  ·rw [jd hk,BN,BN];omega
  ·rw [jG hk,BN,BN];omega
theorem Dx.some_of {o:Option Value}(r:Dx (some v) o):∃ u,o=some u/\RelV v u:=by
 cases o with
 | none=>exact (show False from r).elim
 | some u=>exact ⟨u,rfl,r⟩
theorem Dx.none_of {o:Option Value}(r:Dx none o):o=none:=by
 cases o with
 | none=>rfl
 | some u=>exact (show False from r).elim
theorem sL (r:RelV v u):PySem.W.handedIn u=true:=by
 cases v with
 | AB=>cases (show u=Value.none from r);rfl
 | bl b=>cases (show u=Value.bool b from r);rfl
 | int i=>obtain ⟨t,e⟩:=(show ∃ t,u=Value.int i t from r);cases e;rfl
 | str x=>obtain ⟨t,e⟩:=(show ∃ t,u=Value.str x t from r);cases e;rfl
 | FX b=>obtain ⟨t,e⟩:=(show ∃ t,u=Value.bytes b t from r);cases e;rfl
 | Jr b=>obtain ⟨t,e⟩:=(show ∃ t,u=Value.float b t from r);cases e;rfl
 | ref a=>cases (show u=Value.ref a from r);rfl
 | ty n=>cases (show u=Value.type n from r);rfl
section
variable {P:Program}{h:Heap}{fs tZ:List (Str×V)}
theorem QF (AL:Bp P w H h)(e:H a=some (.ins C dx fs)):∃ mA,Jg h a dx C mA/\(∀ f,Dx (fs.lookup f) (mA f))/\PySem.Within mA (fs.map (·.1))/\fs.length<=1000/\H dx=some (.own a):=by
 obtain ⟨d,z,ne,ob,mA,n,r,q⟩:=(show Bm P w H h a (.ins C dx fs) from AL a _ e);exact ⟨mA,⟨ob,n,ne⟩,r,q,z,d⟩
end
structure C4 (K:ZE5) (C:Addr):Prop where
 pg:PySem.W.plainGet K C Str.empty=true
 hd:PySem.W.hasDictIn K C=true
 po:PySem.W.plainOver K C=true
 sa:PySem.W.findIn K (.ref C) "__setattr__"=some (some (.builtin "object.__setattr__"))
theorem C4.get {K:ZE5}{C:Addr}(c:C4 K C)(f:Str):PySem.W.plainGet K C f=true:=c.pg
def Bu (K:ZE5)(C:Addr)(f:Str):Prop:=PySem.W.findIn K (.ref C) f=some none
theorem Bu.ph {K:ZE5}{f:Str}(n:Bu K C f):PySem.W.takerIn K C f=some none:=by
 unfold PySem.W.takerIn;rw [show PySem.W.findIn K (.ref C) f=some none from n];rfl
structure Meth (K:ZE5) (C:Addr) (m:Str) (f:Addr):Prop where
 at_:PySem.W.findIn K (.ref C) m=some (some (.ref f))
 fn:PySem.W.isFn K (.ref f)=true
 kp:PySem.W.keepIn K (.ref f)=true
section
variable {fs:List (Str×V)}{f:Str}
theorem oS {b:Bool}(I:Inv X pins σ H s)(e:H a=some (.ins C dx fs))(c:C4 X.K C)(n:Bu X.K C f)(l:fs.lookup f=some v)
  (h:∀ u s',Inv X pins σ H s'->RelV v u->Q u s'):wpAny (model X.prog X.w) A (getAttr (.ref a) f b) Q E s:=by
 obtain ⟨mA,O,r,_,_,_⟩:=QF I.AL e;obtain ⟨u,hu,ru⟩:=Dx.some_of (v:=v) (o:=mA f) (by rw [<- l];exact r f);exact get_map I.CO O (c.get f) c.hd n hu (sL ru) (h u _ (I.tok _) ru)
theorem ZL {g:Addr}{Q:Value×List Value->Shared->Prop}(I:Inv X pins σ H s)(e:H a=some (.ins C dx fs))(c:C4 X.K C)(k:Meth X.K C m g)(l:fs.lookup m=none)
  (h:Q (.ref g,[.ref a]) s):wpAny (model X.prog X.w) A (getMethod (.ref a) m pl) Q E s:=by
 obtain ⟨mA,O,r,_,_,_⟩:=QF I.AL e;have hn:mA m=none:=Dx.none_of (by rw [<- l];exact r m);exact oJ I.CO O (c.get m) k.at_ k.fn hn h
theorem mx {Q:Unit->Shared->Prop}(I:Inv X pins σ H s)(e:H a=some (.ins C dx fs))(c:C4 X.K C)(n:Bu X.K C f)(hl:fs.length<1000)(ry:RelV y u)
  (h:∀ s',Inv X pins σ (upd H a (.ins C dx (DE f y fs))) s'->Q () s'):wpAny (model X.prog X.w) A (setAttr (.ref a) f u) Q E s:=by
 obtain ⟨mA,O,r,wi,_,ho⟩:=QF I.AL e;have hz:(fs.map (·.1)).length<=sizeLine:=by rw [Ab,ZA4];omega
 refine xX I.CO O c.sa c.po n.ph c.hd wi hz fun h' O' sb=>h _ ?_;have hd:∃ o,h'.get? dx=some o:=let ⟨o,_,_,e',_⟩:=O'.ns;⟨o,e'⟩;refine I.write (x:=a) (e:=dx) (by rw [e];exact True.intro) (.inr ho) (fun b q hb z=>(sb.2 b hb).trans z) hd ?_;refine ⟨by rw [AX O.ne];exact ho,?_,O.ne,O'.obj,_,O'.ns,fun g=>?_,fun g hg=>?_⟩
 ·have:=aZ f y fs;omega
 ·show Dx ((DE f y fs).lookup g) (if g=f then some u else mA g)
  rw [gi]
  by_cases q:g=f
  ·rw [jd q,jd q];exact ry
  ·rw [jG q,jG q];exact r g
 ·by_cases q:g=f
  ·rw [q];exact (SK f y fs).1
  ·refine (SK f y fs).2 g (wi g fun z=>hg ?_);show (if g=f then some u else mA g)=none
   rw [jG q];exact z
theorem Inv.made (I:Inv X pins σ H s):Inv X pins σ (upd (upd H s.heap.objs.size (.own (s.heap.objs.size+1))) (s.heap.objs.size+1) (.ins C s.heap.objs.size []))
  { s with heap:=(s.heap.push PySem.W.emptyDict).push (PySem.W.instObj C s.heap.objs.size) }:=by
 have e1:(s.heap.push PySem.W.emptyDict).get? s.heap.objs.size=some PySem.W.emptyDict:=BU s.heap rfl;have e2:((s.heap.push PySem.W.emptyDict).push (PySem.W.instObj C s.heap.objs.size)).get? (s.heap.objs.size+1)=some (PySem.W.instObj C s.heap.objs.size):=by
  have:=BU (s.heap.push PySem.W.emptyDict) (o:=PySem.W.instObj C s.heap.objs.size) rfl
  rwa [Dy] at this
 have e3:(s.heap.push PySem.W.emptyDict).Ns s.heap.objs.size (fun _=>none):=⟨PySem.W.emptyDict,#[],_,e1,rfl,(fun e he=>absurd he (by simp)),fun _=>rfl⟩;have I1:=I.laid (a:=s.heap.objs.size) (o:=.own (s.heap.objs.size+1)) (h':=s.heap.push PySem.W.emptyDict) (t':=s.toks) (fun b u q=>BF _ q) (Ao _) ⟨_,e1⟩;refine I1.laid (a:=s.heap.objs.size+1) (o:=.ins C s.heap.objs.size []) (t':=s.toks) (fun b u q=>BF _ q) (il (Dy _ _)) ?_;have ne:s.heap.objs.size≠s.heap.objs.size+1:=BK (KP _);refine ⟨by rw [AX ne,AE],C2 _,ne,e2,fun _=>none,(Heap.Ns1.of_empty e3).at fun o q=>BF _ q,fun _=>True.intro,fun y hy=>absurd rfl hy⟩
theorem zE {env:Env}(hb:attributeBase e f env (eval e env)=eval e env)
  (h:wpAny (model prog w) A (eval e env) (fun o s₁=>wpAny (model prog w) A (getAttr o f true) Q E s₁) E s):wpAny (model prog w) A (eval (.Attribute e f pos) env) Q E s:=
 Attribute_any_ h (by rw [arm_eval_Attribute,hb])
end
def Jz (K:ZE5)(ta:TE)(f:Str):TE:=fun σ H Q=>ta σ H fun x H1=>∃ a C dx fs v,x=.ref a/\H1 a=some (.ins C dx fs)/\C4 K C/\Bu K C f/\fs.lookup f=some v/\Q v H1
def UE (K:ZE5)(ta tv:TE)(f:Str):TS:=fun D σ H=>tv σ H fun y H1=>ta σ H1 fun x H2=>∃ a C dx fs,x=.ref a/\H2 a=some (.ins C dx fs)/\C4 K C/\Bu K C f/\fs.length<1000/\
 D.nx σ (upd H2 a (.ins C dx (DE f y fs)))
section
variable {o value:Expr}{f:Str}{pos' S6:Pos}{tv:TE}
variable {b:Bool}
inductive EM (K:ZE5) (H:Hp):V->Value->Prop where
 | AB:EM K H .AB (.type "NoneType")
 | bl (x:Bool):EM K H (.bl x) (.type "bool")
 | int (i:Int):EM K H (.int i) (.type "int")
 | str (x:Str):EM K H (.str x) (.type "str")
 | Jr (x:UInt64):EM K H (.Jr x) (.type "float")
 | lst {a:Addr}{xs:List V}(e:H a=some (.lst xs)):EM K H (.ref a) (.type "list")
 | CG {a:Addr}{o:Obj}{xs:List V}(e:H a=some (.CG o (.lst xs))):EM K H (.ref a) (.type "list")
 | tup {a:Addr}{xs:List V}(e:H a=some (.tup xs)):EM K H (.ref a) (.type "tuple")
 | dK {a:Addr}{A3:List (Key×V)}(e:H a=some (.dK A3)):EM K H (.ref a) (.type "dict")
 | dT {a:Addr}{A3:List (List Key×V)}(e:H a=some (.dT A3)):EM K H (.ref a) (.type "dict")
 | ins {a C dx:Addr}{fs:List (Str×V)}(e:H a=some (.ins C dx fs)) (cl:C4 K C) (ha:PySem.W.findIn K (.ref C) "__class__"=some (some (.builtin "object.__class__")))
   (hn:PySem.W.specialIn K (.builtin "object.__class__") "__get__"=some (some (.builtin "getset_descriptor.__get__"))) (L3:PySem.W.takesIn K (.builtin "object.__class__")=some true)
   (hm:PySem.W.mroIn K C (.type "object")=some true):EM K H (.ref a) (.ref C)
theorem zA {x:V}{t:Value}(I:Inv X pins σ H s)(rx:RelV x u)(ty:EM X.K H x t)(e:PySem.W.kitOne X.K t c=some b)(h:∀ tk,Q (.bool b) { s with toks:=tk }):
  wpAny (model X.prog X.w) A (call (.builtin "isinstance") [u,c]) Q E s:=by
 cases ty with
 | AB=>cases (show u=Value.none from rx);exact HF PySem.W.kitx_none I.CO True.intro e (fun z=>nomatch z) h
 | bl y=>cases (show u=Value.bool y from rx);exact HF PySem.W.kitx_bool I.CO True.intro e (fun z=>nomatch z) h
 | int i=>obtain ⟨t,q⟩:=(show ∃ t,u=Value.int i t from rx);cases q;exact HF PySem.W.kitx_int I.CO True.intro e (fun z=>nomatch z) h
 | str y=>obtain ⟨t,q⟩:=(show ∃ t,u=Value.str y t from rx);cases q;exact HF PySem.W.kitx_str I.CO True.intro e (fun z=>nomatch z) h
 | Jr y=>obtain ⟨t,q⟩:=(show ∃ t,u=Value.float y t from rx);cases q;exact HF PySem.W.kitx_float I.CO True.intro e (fun z=>nomatch z) h
 | @lst a xs ea=>
  cases (show u=Value.ref a from rx);obtain ⟨_,_,n,_,h1⟩:=(show Bm X.prog X.w H s.heap a (.lst xs) from I.AL a _ ea);exact HF ZDG I.CO ⟨_,h1,rfl⟩ e (fun z=>nomatch z) h
 | @CG a ob xs ea=>
  cases (show u=Value.ref a from rx);obtain ⟨_,_,_,n,_,h1⟩:=(show Bm X.prog X.w H s.heap a (.CG ob (.lst xs)) from I.AL a _ ea);exact HF ZDG I.CO ⟨_,h1,rfl⟩ e (fun z=>nomatch z) h
 | @tup a xs ea=>
  cases (show u=Value.ref a from rx);obtain ⟨_,_,_,p⟩:=(show Bm X.prog X.w H s.heap a (.tup xs) from I.AL a _ ea);obtain ⟨o,h1,h2,_⟩:=p.1;exact HF PySem.W.kitx_tuple I.CO ⟨o,h1,h2⟩ e (fun z=>nomatch z) h
 | @dK a A3 ea=>
  cases (show u=Value.ref a from rx);obtain ⟨_,_,vs,_,p⟩:=(show Bm X.prog X.w H s.heap a (.dK A3) from I.AL a _ ea);obtain ⟨o,es,ep,h1,h2,_⟩:=p;exact HF ZDF I.CO ⟨o,h1,h2.1⟩ e (fun z=>nomatch z) h
 | @dT a A3 ea=>
  cases (show u=Value.ref a from rx);obtain ⟨_,_,xs,_,o,es,ep,h1,h2,_⟩:=(show Bm X.prog X.w H s.heap a (.dT A3) from I.AL a _ ea);exact HF ZDF I.CO ⟨o,h1,h2.1⟩ e (fun z=>nomatch z) h
 | @ins a C dx fs ea cl ha hn L3 hm=>
  cases (show u=Value.ref a from rx);obtain ⟨mA,O,_⟩:=QF I.AL ea;obtain ⟨od,J,_⟩:=O.look;exact HF (PySem.W.kitx_own (cl.get _) cl.hd ha hn L3 hm) I.CO J e (fun z=>nomatch z) h
end
structure Bd (k:Nat) (A:Around):Prop where
 hd:A.handled=none
 dp:A.depth+3 * k+5<recursionLimit
 un:A.units+16 * k+200<cLine
theorem Bd.mono {k:Nat}(r:Bd k A)(h:j<=k):Bd j A:=⟨r.hd,by have:=r.dp;omega,by have:=r.un;omega⟩
theorem Bd.deeper {k:Nat}(r:Bd (k+1) A)(env:Env):Bd k (A.deeper env):=
 ⟨r.hd,by have:=r.dp;show A.depth+1+3 * k+5<_;omega,by have:=r.un;show A.units+3+16 * k+200<_;omega⟩
theorem p8:(A.under (.builtin "type.__call__" ⟨.ref C::us,kw⟩)).depth=A.depth+1:=by
 first | rfl | simp [Around.under,Code.weight,Code.isCreation,Code.isGuard,Code.isCaller,Code.frames,Code.isFrame,guardIds]
theorem mN:(A.under (.builtin "type.__call__" ⟨.ref C::us,kw⟩)).units=A.units+1:=by
 first | rfl | simp [Around.under,Code.cUnits,Code.frames,Code.isFrame]
theorem Bd.make {k:Nat}(r:Bd (k+1) A)(C:Addr)(us:List Value)(kw:List (Str×Value)):Bd k (A.under (.builtin "type.__call__" ⟨.ref C::us,kw⟩)):=
 ⟨r.hd,by have:=r.dp;rw [p8];omega,by have:=r.un;rw [mN];omega⟩
theorem Bd.depth {k:Nat}(r:Bd k A):A.depth<recursionLimit:=by have:=r.dp;omega
theorem Bd.units {k:Nat}(r:Bd k A):A.units+64<cLine:=by have:=r.un;omega
theorem Bd.Gk {k:Nat}(r:Bd k A):A.units<cLine:=by have:=r.un;omega
def B5:TA:=fun _ H Q=>Q [] H
def AV (ta:TE)(tr:TA):TA:=fun σ H Q=>ta σ H fun x H1=>tr σ H1 fun xs H2=>Q (x::xs) H2
section
variable {t:TA}
theorem ZAi (ha:PE X e te)(hr:PA X es t)(hs:starEach (e::es) X.env=(false,eval e X.env)::starEach es X.env:=by rfl):PA X (e::es) (AV te t):=by
 intro pos pins s σ H Q I h;rw [hs];show wpAny _ _ (spliced ((false,eval e X.env)::backTo pos (starEach es X.env))) _ _ s;refine iN (AO (ha pins s σ H _ I h) fun u s1 Ni=>?_);obtain ⟨x,H1,I1,r1,q1⟩:=Ni;exact AO (hr pos pins s1 σ H1 _ I1 q1) fun us s2 AJ=>by obtain ⟨xs,H2,I2,r2,q2⟩:=AJ;exact ⟨x::xs,H2,I2,.cons r1 r2,q2⟩
def PK (t:TA):TE:=fun σ H Q=>t σ H fun xs H1=>xs.length<=sizeLine/\∀ p,H1 p=none->Q (.ref p) (upd H1 p (.tup xs))
def Qa (t:TA):TE:=fun σ H Q=>t σ H fun xs H1=>xs.length<=sizeLine/\∀ p,H1 p=none->Q (.ref p) (upd H1 p (.lst xs))
theorem ZBy {x1}(h:PA X es t):PE X (.Tuple es x1 pos) (PK t):=by
 intro pins s σ H Q I hq;refine wpAny_Tuple_spliced (AO (h pos pins s σ H _ I hq) fun us s1 ⟨xs,H1,I1,r,z,q⟩=>⟨by rw [<- r.length];exact z,?_⟩);have hf:H1 s1.heap.objs.size=none:=I1.AL.fresh (Ao _);refine ⟨.ref s1.heap.objs.size,upd H1 s1.heap.objs.size (.tup xs),I1.laid (t':=s1.toks) (fun b u e=>BF _ e) (Ao _) ?_,rfl,q _ hf⟩;exact ⟨z,us,r,⟨_,BU _ rfl,rfl,_,rfl⟩,fun O2 e'=>by rw [BU _ rfl] at e';cases e';rfl⟩
theorem mI (h:PA X es t):PE X (.List es pos) (Qa t):=by
 intro pins s σ H Q I hq;refine wpAny_List_spliced (AO (h pos pins s σ H _ I hq) fun us s1 ⟨xs,H1,I1,r,z,q⟩=>⟨by rw [<- r.length];exact z,?_⟩);have hf:H1 s1.heap.objs.size=none:=I1.AL.fresh (Ao _);refine ⟨.ref s1.heap.objs.size,upd H1 s1.heap.objs.size (.lst xs),I1.laid (t':=s1.toks) (fun b u e=>BF _ e) (Ao _) ?_,rfl,q _ hf⟩;exact ⟨z,us,0,r,BU _ rfl⟩
end
abbrev Sp:=List V->Hp->VK->XK->Prop
abbrev FR:=List Env->Hp->Shared->XK->Value->Shared->Prop
variable {CX:FR}
structure JL (P:Program) (w:World) (K:ZE5) (mg:ZE7) (base:Heap) (A:Around) (outer:List Env) (s:Shared) (H:Hp):Prop where
 frames:A.frames=some outer
 mod:Mod K mg base
 bs:∀ b o,base.get? b=some o->s.heap.get? b=some o/\H b=none
 Hc:base.objs.size<=s.heap.objs.size
 FY:s.heap.FunFrames base outer
 Jd:∀ b∈G5 outer,H b=none
 AL:Bp P w H s.heap
 bare:AllBare s.gens
def CE (outer:List Env)(P:Program)(w:World)(H:Hp)(s:Shared)(Q:VK)(u:Value)(s':Shared):Prop:=
 ∃ v H',s'.os=s.os/\AllBare s'.gens/\Un (G5 outer) [] H H' s.heap s'.heap/\Bp P w H' s'.heap/\RelV v u/\Q v H'
def CR (CX:FR)(outer:List Env)(P:Program)(w:World)(H:Hp)(s:Shared)(Q:VK)(E:XK)(r:Result)(s':Shared):Prop:=
 match r with
 | .ok (.ret u)=>CE outer P w H s Q u s'
 | .ok _=>False
 | .error e=>CX outer H s E e s'
structure D3 (P:Program) (w:World) (K:ZE5) (mg:ZE7) (base:Heap) (CX:FR) (k:Nat) (f:Addr) (fd:FuncData) (ps:List Str) (sp:Sp):Prop where
 len:∀ vs H Q E,sp vs H Q E->vs.length=ps.length
 run:∀ (A:Around) (outer:List Env) (s:Shared) (H:Hp) (args:Args) (us:List Value) (vs:List V) (Q:VK) (E:XK),Bd k A->JL P w K mg base A outer s H->BindsTo s fd args (ps.zip us)->Vals vs us->sp vs H Q E->
  codeAny (model P w) A (.call (.ref f) args) (CR CX outer P w H s Q E) s
theorem D3.mono {P:Program}{K:ZE5}{k:Nat}{f:Addr}{sp:Sp}(F:D3 P w K mg base CX j f fd ps sp)(h:j<=k):
  D3 P w K mg base CX k f fd ps sp:=⟨F.len,fun A outer s H args us vs Q E hr=>F.run A outer s H args us vs Q E (hr.mono h)⟩
theorem JL.make {P:Program}{K:ZE5}(e:JL P w K mg base A outer s H)(C:Addr)(us:List Value)(kw:List (Str×Value)):
  JL P w K mg base (A.under (.builtin "type.__call__" ⟨.ref C::us,kw⟩)) outer s H:=⟨by first | exact e.frames | (simpa [Around.under,Code.envs,Code.isFrame,pushEnvs] using e.frames),e.mod,e.bs,e.Hc,e.FY,e.Jd,e.AL,e.bare⟩
theorem Inv.fD (I:Inv X pins σ H s):JL X.prog X.w X.K X.mg X.base X.A X.stack s H:=
 ⟨I.ok.frames,I.ok.mod,I.bs,Ci I.ok.Hc I.sz,I.stack,I.bD,I.AL,I.bare⟩
theorem Inv.after {Q:VK}(I:Inv X pins σ H s)(h:CE X.stack X.prog X.w H s Q u s'):EP X pins σ Q u s':=by
 obtain ⟨v,H',os,bare,un,AL,r,q⟩:=h;obtain ⟨hh,g,d,t,Nl⟩:=s';obtain rfl:Nl=s.os:=os;exact ⟨v,H',I.call (h':=hh) (g':=g) (d':=d) (t':=t) (ch:=[]) un AL bare (fun b z=>absurd z (by simp)),r,q⟩
def Bz (sp:Sp)(Cv:List V)(E:XK)(t:TA):TE:=fun σ H Q=>t σ H fun vs H1=>sp (vs++Cv) H1 Q E
def Hz (C:Addr)(m:Str)(sp:Sp)(Cv:List V)(E:XK)(ta:TE)(t:TA):TE:=fun σ H Q=>ta σ H fun x H1=>∃ a dx fs,x=.ref a/\H1 a=some (.ins C dx fs)/\fs.lookup m=none/\
 t σ H1 fun vs H2=>sp (x::(vs++Cv)) H2 Q E
def Wd (C:Addr)(sp:Sp)(Cv:List V)(E:XK)(t:TA):TE:=fun σ H Q=>t σ H fun vs H1=>∀ x dx,H1 x=none->H1 dx=none->dx≠x->
 sp (.ref x::(vs++Cv)) (upd (upd H1 dx (.own x)) x (.ins C dx [])) (fun v H2=>v=.AB/\Q (.ref x) H2) E
def Binds (K:ZE5)(fd:FuncData)(ps:List Str)(ds:List Value):Prop:=
 ∀ (s:Shared) (us:List Value),K.In s.heap->(us++ds).length=ps.length->BindsTo s fd ⟨us,[]⟩ (ps.zip (us++ds))
theorem Binds.all {K:ZE5}(h:∀ us:List Value,us.length=ps.length->bindArgs fd ⟨us,[]⟩=pure (ps.zip us)):Binds K fd ps []:=fun s us _ hl=>by
 rw [EW] at hl ⊢;exact .of_eq (h us hl)
def Passes (CX:FR)(X:Cx)(E:XK):Prop:=∀ (pins:ZE6) (σ:St) (H:Hp) (s:Shared) (e:Value) (s':Shared),Inv X pins σ H s->CX X.stack H s E e s'->X.xe e s'
section
variable {k:Nat}{f:Addr}{sp:Sp}{E:XK}{p apos:Pos}{o:Expr}{t:TA}
theorem U5 {Q:VK}(F:D3 X.prog X.w X.K X.mg X.base CX k f fd ps sp)(hr:Bd k X.A)(hb:Binds X.K fd ps ds)(hd:Vals Cv ds)(hx:Passes CX X E)
  (I:Inv X pins σ H s) (r:Vals vs us) (h:sp (vs++Cv) H Q E):wpAny (model X.prog X.w) X.A (call (.ref f) us) (EP X pins σ Q) X.xe s:=by
 have r2:Vals (vs++Cv) (us++ds):=r.append hd;have hl:(us++ds).length=ps.length:=by rw [<- r2.length];exact F.len _ _ _ _ h
 refine wpAny_call (ur (F.run X.A X.stack s H ⟨us,[]⟩ (us++ds) (vs++Cv) Q E hr I.fD (hb s us I.CO hl) r2 h) fun r s' hq=>?_);cases r with
 | error e=>exact hx pins σ H s e s' I hq
 | ok fl=>
  cases fl with
  | ret u=>exact I.after hq
  | next=>exact False.elim hq
  | brk=>exact False.elim hq
  | cont=>exact False.elim hq
theorem ZCF (F:D3 X.prog X.w X.K X.mg X.base CX k f fd ps sp)(hr:Bd k X.A)(hg:Gl X x)(hm:X.mg x=some (.ref f))(hk:PySem.W.keepIn X.K (.ref f)=true)(hb:Binds X.K fd ps ds)(hd:Vals Cv ds)(hx:Passes CX X E)
  (ha:PA X (e::es) t) (Cd:(x == ("__debug__":Str))=false:=by decide) (he:starEach (e::es) X.env=(false,eval e X.env)::starEach es X.env:=by rfl) (Bk:(backTo pos (starEach es X.env)).any (·.1)=false:=by rfl) :
  PE X (.Call (.Name x p) (e::es) [] pos) (Bz sp Cv E t):=by
 intro pins s σ H Q I h;refine oZ (Rk I hg hm ?_ Cd);refine j5 (h₀:=X.base) I.ok.mod.ND hk (AO (ha pos pins s σ H _ I h) fun us s1 ⟨vs,H1,I1,r,q⟩=>⟨I1.CO,?_⟩) he Bk;exact U5 F hr hb hd hx I1 r q
theorem tj (he:PE X o ta)(c:C4 X.K C)(hm:Meth X.K C m f)(F:D3 X.prog X.w X.K X.mg X.base CX k f fd ps sp)(hr:Bd k X.A)(hb:Binds X.K fd ps ds)(hd:Vals Cv ds)(hx:Passes CX X E)(ha:PA X (e::es) t)
  (CH:starEach (e::es) X.env=(false,eval e X.env)::starEach es X.env:=by rfl) (Bk:(backTo pos (starEach es X.env)).any (·.1)=false:=by rfl)
  (ht:eval (.Call (.Attribute o m apos) (e::es) [] pos) X.env=(do
   let ov <- eval o X.env
   standAt apos.atName
   let (f,first) <- holding [ov] (getMethod ov m pl)
   callWith pos f first (backTo pos (starEach (e::es) X.env)) (backToKw pos (keywordEach [] X.env))):=by rfl) :
  PE X (.Call (.Attribute o m apos) (e::es) [] pos) (Hz C m sp Cv E ta t):=by
 intro pins s σ H Q I h;refine ZDH (pl:=pl) (AO (he pins s σ H _ I h) fun u s1 ⟨x,H1,I1,rx,a,dx,fs,ex,ea,l,q⟩=>?_) ht;subst ex;obtain rfl:u=Value.ref a:=rx;refine ZL I1 ea c hm l ?_;refine j5 (first:=[.ref a]) (h₀:=X.base) I.ok.mod.ND hm.kp (AO (ha pos pins s1 σ H1 _ I1 q) fun us s2 ⟨vs,H2,I2,r,q2⟩=>⟨I2.CO,?_⟩) CH Bk
 exact U5 (us:=.ref a::us) (vs:=.ref a::vs) F hr hb hd hx I2 (.cons rfl r) q2
theorem x9 (he:PE X o ta)(c:C4 X.K C)(hm:Meth X.K C m f)(F:D3 X.prog X.w X.K X.mg X.base CX k f fd ps sp)(hr:Bd k X.A)(hb:Binds X.K fd ps ds)(hd:Vals Cv ds)(hx:Passes CX X E)
  (ht:eval (.Call (.Attribute o m apos) [] [] pos) X.env=(do
   let ov <- eval o X.env
   standAt apos.atName
   let (f,first) <- holding [ov] (getMethod ov m pl)
   callWith pos f first (backTo pos (starEach [] X.env)) (backToKw pos (keywordEach [] X.env))):=by rfl) :
  PE X (.Call (.Attribute o m apos) [] [] pos) (Hz C m sp Cv E ta B5):=by
 intro pins s σ H Q I h;refine ZDH (pl:=pl) (AO (he pins s σ H _ I h) fun u s1 ⟨x,H1,I1,rx,a,dx,fs,ex,ea,l,q⟩=>?_) ht;subst ex;obtain rfl:u=Value.ref a:=rx;refine ZL I1 ea c hm l ?_;exact PySem.W.callWith_K0 (first:=[.ref a]) I1.CO hm.kp (U5 (us:=[.ref a]) (vs:=[.ref a]) F hr hb hd hx I1 (.cons rfl .nil) q)
structure Mk (K:ZE5) (C f:Addr):Prop where
 makes:PySem.W.makesIn K C=true
 init:PySem.W.findIn K (.ref C) "__init__"=some (some (.ref f))
 fn:PySem.W.isFn K (.ref f)=true
 kp:PySem.W.keepIn K (.ref C)=true
theorem zH {Q:VK}(M:Mk X.K C f)(F:D3 X.prog X.w X.K X.mg X.base CX k f fd ps sp)(hr:Bd (k+1) X.A)(hb:Binds X.K fd ps ds)(hd:Vals Cv ds)
  (hx:Passes CX X E) (I:Inv X pins σ H s) (r:Vals vs us)
  (h:∀ x dx,H x=none->H dx=none->dx≠x->sp (.ref x::(vs++Cv)) (upd (upd H dx (.own x)) x (.ins C dx [])) (fun v H2=>v=.AB/\Q (.ref x) H2) E) :
  wpAny (model X.prog X.w) X.A (call (.ref C) us) (EP X pins σ Q) X.xe s:=by
 have hq:=h (s.heap.objs.size+1) s.heap.objs.size (I.AL.fresh (EC _)) (I.AL.fresh (Ao _)) (BK (KP _));have I2:=Inv.made (C:=C) I;have r2:Vals (V.ref (s.heap.objs.size+1)::(vs++Cv)) (Value.ref (s.heap.objs.size+1)::(us++ds)):=.cons rfl (r.append hd);have hl:(Value.ref (s.heap.objs.size+1)::us++ds).length=ps.length:=by
  have e:=r2.length;rw [F.len _ _ _ _ hq] at e;exact e.symm
 refine wpAny_call (zP (f:=f) I.CO M.makes M.init (beq_iff_eq.mp M.fn) (ur (F.run _ X.stack _ _ ⟨Value.ref (s.heap.objs.size+1)::us,[]⟩ (Value.ref (s.heap.objs.size+1)::(us++ds)) _ _ E (hr.make C us [])
  (I2.fD.make C us []) (hb _ (Value.ref (s.heap.objs.size+1)::us) I2.CO hl) r2 hq) fun r s' HV=>?_))
 cases r with
 | error e=>exact hx pins σ _ _ e s' I2 HV
 | ok fl=>
  cases fl with
  | ret u=>
   obtain ⟨v,H',I3,rv,ev,q3⟩:=I2.after HV;subst ev;exact ⟨rv,⟨V.ref (s.heap.objs.size+1),H',I3,rfl,q3⟩⟩
  | next=>exact False.elim HV
  | brk=>exact False.elim HV
  | cont=>exact False.elim HV
theorem ja (M:Mk X.K C f)(F:D3 X.prog X.w X.K X.mg X.base CX k f fd ps sp)(hr:Bd (k+1) X.A)(hg:Gl X x)(hm:X.mg x=some (.ref C))(hb:Binds X.K fd ps ds)(hd:Vals Cv ds)(hx:Passes CX X E)
  (ha:PA X (e::es) t) (Cd:(x == ("__debug__":Str))=false:=by decide) (he:starEach (e::es) X.env=(false,eval e X.env)::starEach es X.env:=by rfl) (Bk:(backTo pos (starEach es X.env)).any (·.1)=false:=by rfl) :
  PE X (.Call (.Name x p) (e::es) [] pos) (Wd C sp Cv E t):=by
 intro pins s σ H Q I h;refine oZ (Rk I hg hm ?_ Cd);refine j5 (h₀:=X.base) I.ok.mod.ND M.kp (AO (ha pos pins s σ H _ I h) fun us s1 ⟨vs,H1,I1,r,q⟩=>⟨I1.CO,?_⟩) he Bk;exact zH M F hr hb hd hx I1 r q
variable {kws:List Keyword}{tk:TA}{nm:Option Str}{g:List Value->List Value->List Value}{gV:List V->List V->List V}
end
structure Ap (N P:List Str) (sc:Scope):Prop where
 kind:sc.kind=.function
 co:sc.isCoroutine=false
 gen:sc.isGenerator=false
 nd:N.Nodup
 pre:N.take P.length=P
 par:∀ x∈P,sc.names.lookup x=some .local∨sc.names.lookup x=some .cell
 qE:∀ y∈sc.names,y.2≠.free
theorem ZO {kindOf:Str->Option NameKind}{x:Str}:∀ {binds:List (Str×Value)}{m:ZE7},(∀ v,(x,v)∉binds)->bindL kindOf binds m x=m x
 | [],_,_=>rfl
 | (n,v)::r,m,h=>by
  unfold bindL;rw [ZO fun w hw=>h w (Di _ hw)];split
  ·have:x≠n:=by rintro rfl;exact h v Cu
   simp [this]
  ·rfl
theorem gy {kindOf:Str->Option NameKind}{x:Str}:∀ {binds:List (Str×Value)}{m:ZE7},(∀ v,(x,v)∉binds)->bindC kindOf binds m x=m x
 | [],_,_=>rfl
 | (n,v)::r,m,h=>by
  unfold bindC;rw [gy fun w hw=>h w (Di _ hw)];split
  ·rfl
  ·have:x≠n:=by rintro rfl;exact h v Cu
   simp [this]
theorem c7 {kindOf:Str->Option NameKind}{x:Str}{v:Value}:∀ {P:List Str}{vs:List Value}{i:Nat}{m:ZE7},P.Nodup->P[i]?=some x->vs[i]?=some v->kindOf x=some .local->
  bindL kindOf (P.zip vs) m x=some v
 | [],_,_,_,_,h,_,_=>by simp at h
 | _::_,[],_,_,_,_,h,_=>by simp at h
 | p::P,w::vs,0,m,nd,h1,h2,hk=>by
  simp at h1 h2;subst h1;subst h2;show bindL kindOf ((p,w)::P.zip vs) m p=_;unfold bindL;rw [ZO fun v hv=>(List.nodup_cons.mp nd).1 (Xu hv).1,jd hk];simp
 | p::P,w::vs,i+1,m,nd,h1,h2,hk=>by
  show bindL kindOf ((p,w)::P.zip vs) m x=_;unfold bindL;exact c7 (i:=i) (List.nodup_cons.mp nd).2 (by simpa using h1) (by simpa using h2) hk
theorem Yl {kindOf:Str->Option NameKind}{x:Str}{v:Value}:∀ {P:List Str}{vs:List Value}{i:Nat}{m:ZE7},P.Nodup->P[i]?=some x->vs[i]?=some v->kindOf x≠some .local->
  bindC kindOf (P.zip vs) m x=some v
 | [],_,_,_,_,h,_,_=>by simp at h
 | _::_,[],_,_,_,_,h,_=>by simp at h
 | p::P,w::vs,0,m,nd,h1,h2,hk=>by
  simp at h1 h2;subst h1;subst h2;show bindC kindOf ((p,w)::P.zip vs) m p=_;unfold bindC;rw [gy fun v hv=>(List.nodup_cons.mp nd).1 (Xu hv).1,jG hk];simp
 | p::P,w::vs,i+1,m,nd,h1,h2,hk=>by
  show bindC kindOf ((p,w)::P.zip vs) m x=_;unfold bindC;exact Yl (i:=i) (List.nodup_cons.mp nd).2 (by simpa using h1) (by simpa using h2) hk
def start (N:List Str)(vs:List V):St:=vs.map some++List.replicate (N.length - vs.length) none
def JK (CX:FR)(P:Program)(w:World)(K:ZE5)(mg:ZE7)(base:Heap)(N:List Str)(qual:Str)(scope:Scope)(f:Addr)(cd:Value)(A:Around)(outer:List Env)(s:Shared)(H:Hp)(E:XK):Cx where
 prog:=P
 w:=w
 K:=K
 mg:=mg
 base:=base
 A:=A.deeper (envOfC qual scope s.heap.objs.size f cd)
 N:=N
 s₀:=s
 H₀:=H
 env:=envOfC qual scope s.heap.objs.size f cd
 outer:=outer
 stack:=envOfC qual scope s.heap.objs.size f cd::outer
 ex:=[]
 calm:=true
 fn:=fun _=>true
 pn:=[]
 xe:=fun e s'=>wpAny (model P w) (A.deeper (envOfC qual scope s.heap.objs.size f cd)) (leaving (envOfC qual scope s.heap.objs.size f cd) e) (fun _ J7=>CX outer H s E e J7) (fun e' J7=>CX outer H s E e' J7) s'
theorem dy (h:sc.names.lookup x=some .cell):∃ c,(cellsFrom n sc.names []).lookup x=some c:=by
 have q:=ZDE sc.names n [] (.inl h);exact Option.isSome_iff_exists.mp q
theorem ZCW {P:Program}{K:ZE5}{f:Addr}{s1:Shared}{E:XK}
  (S:Ap N ps scope) (hd:A.handled=none) (e0:JL P w K mg base A outer s H) (hl:vs.length=ps.length) (r:Vals vs us)
  (x:InCallC s s.heap.objs.size (bindL (envOfC qual scope s.heap.objs.size f cd).kindOf (ps.zip us) fun _=>none) (cellsFrom (s.heap.objs.size+1) scope.names []) (bindC (envOfC qual scope s.heap.objs.size f cd).kindOf (ps.zip us) fun _=>none) s1) :
  Inv (JK CX P w K mg base N qual scope f cd A outer s H E) [] (start N vs) H s1:=by
 have Bk:ps.length<=N.length:=by have:=o7 List.length S.pre;rw [C1] at this;omega
 obtain ⟨h1,tk,rfl,hk⟩:=x.done;have Gi:∀ b:Addr,b∉(JK CX P w K mg base N qual scope f cd A outer s H E).ex:=fun b z=>absurd (show b∈([]:List Addr) from z) (by simp);refine ⟨⟨e0.mod,S.kind,rfl,rfl,Ao _,fun y z c h1 h2=>?_,fun y hy=>?_,fun y c _ h=>?_,fun _=>hd,Around.frames_deeper e0.frames,.inr ⟨rfl,rfl⟩,fun b z=>absurd z (Gi b),e0.bs,e0.Hc,fun b _ _=>Gi b,fun b z=>absurd z (Gi b),e0.FY,e0.Jd⟩,
  rfl,e0.bare,Un.kept hk,⟨_,x.toInCall.ns,fun i y v h1 h2 h3=>?_⟩,fun y c h=>⟨_,x.cell y c h⟩,e0.AL.fresh (Ao _),fun y c h=>?_,fun p hp=>absurd (show p∈([]:ZE6) from hp) (by simp),e0.AL.kept hk,?_⟩
 ·exact name_of_addr x.apart (KS h1) (KS h2)
 ·have hy:scope.names.lookup y=some .cell∨scope.names.lookup y=some .free:=hy;rcases hy with hy | hy
  ·exact dy hy
  ·exact absurd rfl (S.qE _ (KS hy))
 ·exact KN (x.above y c (KS h))
 ·have hi:i<vs.length:=by
   unfold start at h2
   by_cases hi:i<vs.length
   ·exact hi
   ·rw [Lk (by simpa using hi)] at h2
    rw [iW] at h2;split at h2 <;> cases h2
  have ha:vs[i]?=some v:=by
   unfold start at h2;rw [Hs (by simpa using hi),Ax] at h2
   cases e:vs[i]? with
   | none=>rw [e] at h2;cases h2
   | some a=>rw [e] at h2;cases h2;rfl
  obtain ⟨u,hu,rv⟩:=r.get ha;have hp:ps[i]?=some y:=by
   rw [<- S.pre,List.getElem?_take_of_lt (by omega)];exact h1
  have YW:ps.Nodup:=by rw [<- S.pre];exact S.nd.sublist (List.take_sublist _ _)
  refine ⟨u,rv,?_⟩;rcases S.par y (DK hp) with k | k
  ·exact .inl ⟨k,c7 YW hp hu k⟩
  ·obtain ⟨c,e⟩:=dy (n:=s.heap.objs.size+1) k;refine .inr ⟨.inl k,c,e,?_⟩;have q:=x.cell y c e;rw [Yl YW hp hu (by show scope.names.lookup y≠_;rw [k];decide)] at q;exact q
 ·exact e0.AL.fresh (KN (x.above y c (KS h)))
 ·unfold start;show _=N.length;rw [Bl,Ab,Xs];omega
theorem kL {P:Program}{K:ZE5}{k:Nat}{f:Addr}{params:Arguments}{body:List Stmt}{dV kV doc pm AU ct oc:Value}{an od:Option Addr}
  {Ft:Array (Option Value)}{sp:Sp}(lk:K.lookup f=some ⟨oc,od,.func (PySem.W.fnOf name qual params body scope dV kV doc pm an AU ct),Ft⟩) (G9:PySem.W.codeIn K AU qual=true) (S:Ap N ps scope)
  (len:∀ vs H Q E,sp vs H Q E->vs.length=ps.length)
  (NU:∀ (A:Around) (outer:List Env) (s:Shared) (H:Hp) (vs:List V) (Q:VK) (E:XK),Bd k (A.deeper (envOfC qual scope s.heap.objs.size f AU))->sp vs H Q E->
   ∃ t,Dq (JK CX P w K mg base N qual scope f AU A outer s H E) body t/\t { nx:=fun _ H'=>Q .AB H',rt:=Q } (start N vs) H) :
  D3 P w K mg base CX (k+1) f (PySem.W.fnOf name qual params body scope dV kV doc pm an AU ct) ps sp:=by
 refine ⟨len,fun A outer s H args us vs Q E hr e0 hb r FD=>?_⟩;have hl:=len _ _ _ _ FD;have KX:K.In s.heap:=e0.mod.ND.keeps fun b o e=>(e0.bs b o e).1;have lim:s.heap.NoLimit:=e0.mod.nolimit.keeps fun b o e=>(e0.bs b o e).1;have yx:∀ y∈ps.zip us,scope.names.lookup y.1=some .local∨(scope.names.lookup y.1=some .cell/\((cellsFrom (s.heap.objs.size+1) scope.names []).lookup y.1).isSome=true):=fun ⟨n,v⟩ hy=>by
  rcases S.par n (Xu hy).1 with q | q
  ·exact .inl q
  ·exact .inr ⟨q,ZDE _ _ _ (.inl q)⟩
 refine codeAny_call_function hr.depth (KX _ _ lk) rfl S.co S.gen rfl (PySem.W.codeRec_of KX G9) (hb _ _ _ _ ?_);refine wpAny_newFunctionEnv_cells S.kind yx fun env he s1 x=>?_;subst he;refine ⟨lim.keeps x.toInCall.keep,codeAny_func ?_⟩;obtain ⟨t,ht,hq⟩:=NU A outer s H vs Q E (hr.deeper _) FD;have I:Inv (JK CX P w K mg base N qual scope f AU A outer s H E) [] (start N vs) H s1:=ZCW S hr.hd e0 hl r x;refine kg (ht [] s1 (start N vs) H _ I hq) (fun fl s' hs=>?_) fun e s' hs=>hs;have fin:∀ {σ':St} {H':Hp}{v:V}{u:Value},Inv (JK CX P w K mg base N qual scope f AU A outer s H E) [] σ' H' s'->RelV v u->Q v H'->CE outer P w H s Q u s':=
  fun {σ' H' v u} J rv q=>⟨v,H',J.os,J.bare,J.base,J.AL,rv,q⟩
 cases fl with
 | ret u=>
  obtain ⟨v,σ',H',J,rv,q⟩:=hs;exact fin J rv q
 | next=>
  obtain ⟨σ',H',J,q⟩:=hs;exact fin (v:=V.AB) (u:=Value.none) J rfl q
 | brk=>
  obtain ⟨_,_,_,q⟩:=hs;exact False.elim q
 | cont=>
  obtain ⟨_,_,_,q⟩:=hs;exact False.elim q
section
variable {p:Pos}{t:TA}{id T:String}{r:List V->Hp->VK->Prop}
def Ck (r:List V->Hp->VK->Prop)(t:TA):TE:=fun σ H Q=>t σ H fun vs H1=>r vs H1 Q
end
end L2
namespace HT
variable {E Q:Value->Shared->Prop}{sl t:Addr}{v vl vu:Value}{hi o:Option Int}
section
open PySem.SeqAt
open PySem.AutoSeq1 (wpAny_loadPart')
open PySem.MeetsSeq PySem.MeetsSeq2 PySem.MeetsSeq3
end
section
variable {prog:Program}{w:World}{A:Around}{s:Shared}
theorem xN {b:Addr}{vs ws:List Value}(ht:IsTup s.heap t vs.toArray)(hb:IsTup s.heap b ws.toArray)(hv:vs≠[])
  (h1:ws=[]->Q (.ref t) s) (h2:ws≠[]->Q (.ref s.heap.objs.size) { s with heap:=s.heap.push { cls:=.type "tuple", data:=.seq (vs++ws).toArray } })
  (hsz:vs.length+ws.length<=sizeLine):wpAny (model prog w) A (binaryOp .Add (.ref t) (.ref b)) Q E s:=by
 obtain ⟨⟨cls,dd,data,sl⟩,ho,hc,n,hd⟩:=id ht;obtain ⟨⟨lG,Qm,data2,OP⟩,KD,Jp,n2,hd2⟩:=id hb;simp only at hc hd Jp hd2;subst hc hd Jp hd2;have e:vs.toArray++ws.toArray=(vs++ws).toArray:=by simp
 by_cases hw:ws=[]
 ·exact concat_meets ⟨_,ho,rfl⟩ ⟨_,KD,rfl⟩ ZA3 seq_tuple_add j3 iy (iw _ _)
   (tuple_addW1 t b vs.toArray ws.toArray n n2 dd Qm sl OP (by simpa using hv) (by simp [hw])) ⟨ho,KD,h1 hw⟩
 ·refine concat_meets ⟨_,ho,rfl⟩ ⟨_,KD,rfl⟩ ZA3 seq_tuple_add j3 iy (iw _ _)
   (tuple_addW2 t b vs.toArray ws.toArray n n2 dd Qm sl OP (by simpa using hv) (by simpa using hw) (by rw [Bt,Bt];exact hsz)) ⟨ho,KD,?_⟩
  rw [e];exact h2 hw
def Ae (n d:Nat):Option Int->Nat
 | none=>d
 | some v=>if v<0 then (v+(n:Int)).toNat else min v.toNat n
theorem dv (n d:Nat):Ae n d none=d:=rfl
theorem PY (n d k:Nat):Ae n d (some (k:Int))=min k n:=by
 show (if (k:Int)<0 then ((k:Int)+(n:Int)).toNat else min (k:Int).toNat n)=min k n
 rw [jG (by omega),Xi]
theorem sA (n d:Nat)(hd:d<=n)(o:Option Int):Ae n d o<=n:=by
 cases o with
 | none=>exact hd
 | some v=>
  show (if v<0 then (v+(n:Int)).toNat else min v.toNat n)<=n
  by_cases hv:v<0
  ·rw [jd hv];omega
  ·rw [jG hv];exact ZD4 _ _
theorem fP (v:Int)(n d:Nat):(if v<0 then max (v+(n:Int)) 0 else min v (n:Int))=((Ae n d (some v):Nat):Int):=by
 show (if v<0 then max (v+(n:Int)) 0 else min v (n:Int))=(((if v<0 then (v+(n:Int)).toNat else min v.toNat n):Nat):Int)
 by_cases hv:v<0
 ·simp only [jd hv];omega
 ·simp only [jG hv];omega
theorem ZAV (lo hi:Option Int)(n:Nat):Builtin.Slice.sliceAdjust lo hi 1 (n:Int)=(((Ae n 0 lo:Nat):Int),((Ae n n hi:Nat):Int)):=by
 have h1:¬ ((1:Int)<0):=by omega
 unfold Builtin.Slice.sliceAdjust;simp only [h1,ZAJ];refine Prod.ext ?_ ?_
 ·cases lo with
  | none=>rfl
  | some v=>exact fP v n 0
 ·cases hi with
  | none=>rfl
  | some v=>exact fP v n n
theorem uW (i j:Nat):Builtin.Slice.slicePlaces (i:Int) (j:Int) 1=j - i:=by
 unfold Builtin.Slice.slicePlaces;have h1:(1:Int) > 0:=by omega
 simp only [h1,ZA5,Int.ediv_one];split <;> omega
theorem bE {Q:Option Int->Shared->Prop}(p:IsPart v o)(h:Q o s):wpAny (model prog w) A (Builtin.Slice.slicePartIndex v) Q E s:=by
 cases p with
 | none=>exact slicePart_none h
 | int i t=>exact slicePart_int h
theorem bO {lo:Option Int}{n:Nat}{Q:Int×Int×Nat->Shared->Prop}(hs:s.heap.IsSliceOf sl vl vu .none)(pl:IsPart vl lo)(pu:IsPart vu hi)
  (h:Q (((Ae n 0 lo:Nat):Int),1,Ae n n hi - Ae n 0 lo) s):wpAny (model prog w) A (Builtin.Slice.sliceApplied (.ref sl) (pure (n:Int))) Q E s:=by
 obtain ⟨os,JM,QJ,Lq⟩:=id hs;unfold Builtin.Slice.sliceApplied Builtin.Slice.sliceFields;refine j7 (j7 (wpAny_field JM Lq (x:=vl) rfl (j7 (wpAny_field JM Lq (x:=vu) rfl (j7 (wpAny_field JM Lq (x:=.none) rfl (j9 ?_)))))));refine j7 (slicePart_none ?_);show wpAny _ _ (if ((1:Int) == 0)=true then _ else _) _ _ s
 rw [jG (by decide)];refine j7 (bE pl (j7 (bE pu (j7 (j9 ?_)))));show wpAny _ _ (match Builtin.Slice.sliceAdjust lo hi 1 (n:Int) with | (lo,hi)=>pure (lo,(1:Int),Builtin.Slice.slicePlaces lo hi 1)) _ _ s
 rw [ZAV lo hi n];show wpAny _ _ (pure (((Ae n 0 lo:Nat):Int),(1:Int),Builtin.Slice.slicePlaces ((Ae n 0 lo:Nat):Int) ((Ae n n hi:Nat):Int) 1)) _ _ s;rw [uW];exact j9 h
theorem ZC9 (xs:Array Value)(i k:Nat):((List.range k).filterMap fun (m:Nat)=>xs[((i:Int)+(m:Int) * 1).toNat]?).toArray=((xs.toList.drop i).take k).toArray:=by
 have e:(fun (m:Nat)=>xs[((i:Int)+(m:Int) * 1).toNat]?)=fun m=>xs[i+m]?:=by
  funext m
  have:((i:Int)+(m:Int) * 1).toNat=i+m:=by omega
  rw [this]
 rw [e];have:=pick_run xs i k;rw [List.filterMap_map] at this;have e2:((fun x=>xs[x]?) ∘ fun x=>i+x)=fun m=>xs[i+m]?:=rfl;rw [e2] at this;rw [this]
theorem ZCA {items:Array Value}{lo:Option Int}(ht:IsTup s.heap t items)(hs:s.heap.IsSliceOf sl vl vu .none)(pl:IsPart vl lo)(pu:IsPart vu hi)
  (hw:¬ (Ae items.size 0 lo=0/\Ae items.size items.size hi=items.size))
  (h:Q (.ref s.heap.objs.size) { s with heap:=s.heap.push { cls:=.type "tuple", data:=.seq ((items.toList.drop (Ae items.size 0 lo)).take (Ae items.size items.size hi - Ae items.size 0 lo)).toArray } })
  (hsz:items.size<=sizeLine):wpAny (model prog w) A (getItem (.ref t) (.ref sl)) Q E s:=by
 have PL:sizeOk (.seq ((items.toList.drop (Ae items.size 0 lo)).take (Ae items.size items.size hi - Ae items.size 0 lo)).toArray):=by
  show ((items.toList.drop (Ae items.size 0 lo)).take (Ae items.size items.size hi - Ae items.size 0 lo)).toArray.size<=sizeLine;rw [Bt,C1,Dz,Fm];omega
 have hj:Ae items.size items.size hi<=items.size:=sA _ _ (Ao _) hi;obtain ⟨os,JM,QJ,Lq⟩:=id hs;have Tb:s.TypeIs (.ref sl) "slice" := ⟨os,JM,QJ⟩;unfold getItem
 try with_reducible refine lq ?_
 first | refine j7 (j9 ?_) | skip
 refine j7 (wpAny_sequenceKey ht.typeIs (by decide) ?_);refine j7 (nU (name:=Str.ofString "__getitem__") ht.typeIs Y5
  (nH Y5 ht.typeIs entry_tuple_getitem ?_ (args_tuple_getitem _ _)))
 show wpAny _ _ (Builtin.Tuple.tupleItemsOf (.ref t) >>= _) _ _ s;refine j7 (tupleItemsOf_ ht ?_);refine j7 (oa Tb ?_);rw [jd (by decide)];refine j7 (bO hs pl pu ?_);have JD:¬ ((((Ae items.size 0 lo:Nat):Int) == 0 && (1:Int) == 1 && (Ae items.size items.size hi - Ae items.size 0 lo) == items.size)=true):=by
  intro q;rw [Dg,Dg] at q;have q1:((Ae items.size 0 lo:Nat):Int)=0:=eq_of_beq q.1.1;have q2:Ae items.size items.size hi - Ae items.size 0 lo=items.size:=eq_of_beq q.2;exact hw ⟨by omega,by omega⟩
 show wpAny _ _ (if (((Ae items.size 0 lo:Nat):Int) == 0 && (1:Int) == 1 && (Ae items.size items.size hi - Ae items.size 0 lo) == items.size)=true then _ else _) _ _ s
 rw [jG JD,ZC9]
 first
  | exact j7 (m:=Builtin.Tuple.tupleExact _) (ky (j9 ⟨_,rfl,j9 h⟩) PL)
  | exact j7 (m:=Builtin.Tuple.tupleExact _) (ky (j7 (j9 (j9 ⟨_,rfl,j9 h⟩))) PL)
  | exact j7 (j7 (m:=Builtin.Tuple.tupleExact _) (ky (j9 (j9 ⟨_,rfl,j9 h⟩)) PL))
  | exact j7 (j7 (m:=Builtin.Tuple.tupleExact _) (ky (j9 ⟨_,rfl,j9 h⟩) PL))
end
end HT
namespace L2
variable {X:Cx}{pos:Pos}{xs ys:List V}{A4 its' us:List Value}{α:Type}{j n t':Nat}{i:Int}{pins:ZE6}{σ:St}{H:Hp}{s:Shared}{A:Around}{x y:V}{u v:Value}{T:String}
abbrev TO:=St->Hp->(Option Int->Hp->Prop)->Prop
def PO (X:Cx)(e:Option Expr)(t:TO):Prop:=
 ∀ (pins:ZE6) (s:Shared) (σ:St) (H:Hp) (Q:Option Int->Hp->Prop),Inv X pins σ H s->t σ H Q->
  wpAny (model X.prog X.w) X.A (evalPart e X.env) (fun u s'=>∃ o H',Inv X pins σ H' s'/\IsPart u o/\Q o H') X.xe s
def RW:TO:=fun _ H Q=>Q none H
def XW (t:TE):TO:=fun σ H Q=>t σ H fun x H1=>∃ i,x=.int i/\Q (some i) H1
section
variable {e:Expr}{te:TE}{lo hi:Option Expr}{tl th:TO}{p2:Pos}
def JZ (X:Cx)(r:V->Option Int->Option Int->Hp->VK->Prop):Prop:=
 ∀ (pins:ZE6) (s:Shared) (σ:St) (H:Hp) (x:V) (v vl vu:Value) (lo hi:Option Int) (sl:Addr) (Q:VK),Inv X pins σ H s->RelV x v->s.heap.IsSliceOf sl vl vu .none->IsPart vl lo->IsPart vu hi->r x lo hi H Q->
  ∃ T id,typeLookup (.type T) "__getitem__"=pure (some (.builtin id))/\s.TypeIs v T/\wpAny (model X.prog X.w) X.A (getItem v (.ref sl)) (EP X pins σ Q) X.xe s
def Wf (r:V->Option Int->Option Int->Hp->VK->Prop)(te:TE)(tl th:TO):TE:=fun σ H Q=>te σ H fun x H1=>tl σ H1 fun l H2=>th σ H2 fun u H3=>r x l u H3 Q
def C7 (xs:List V)(lo hi:Option Int):List V:=(xs.drop (HT.Ae xs.length 0 lo)).take (HT.Ae xs.length xs.length hi - HT.Ae xs.length 0 lo)
theorem i4 (xs:List V)(lo hi:Option Int):(C7 xs lo hi).length<=xs.length:=by
 unfold C7;rw [C1,Dz];omega
def zO (K:ZE5):V->Option Int->Option Int->Hp->VK->Prop:=fun x lo hi H Q=>∃ a xs,x=.ref a/\AA K H a xs/\
 ¬ (HT.Ae xs.length 0 lo=0/\HT.Ae xs.length xs.length hi=xs.length)/\∀ p,H p=none->Q (.ref p) (upd H p (.tup (C7 xs lo hi)))
theorem gM:JZ X (zO X.K):=by
 intro pins s σ H x v vl vu lo hi sl Q I rx hs pl pu h;obtain ⟨a,xs,rfl,hx,hw,q⟩:=h;cases rx;obtain ⟨A4,r,ht,hz⟩:=I.tuple hx;have hlen:A4.toArray.size=xs.length:=by rw [Bt];exact r.length.symm
 refine ⟨"tuple", _,PyProof.Rows.slot_tuple_getitem.lookup,ht.typeIs,?_⟩;refine HT.ZCA ht hs pl pu (by rw [hlen];exact hw) ?_ (by rw [hlen];exact hz);rw [hlen];refine ⟨.ref s.heap.objs.size,_,I.laid (t':=s.toks) (o:=.tup (C7 xs lo hi)) (fun b ob q=>BF _ q) (Ao _) ?_,rfl,q _ (I.AL.fresh (Ao _))⟩;exact ⟨Ci (i4 xs lo hi) hz,_,(r.drop (HT.Ae xs.length 0 lo)).take (HT.Ae xs.length xs.length hi - HT.Ae xs.length 0 lo),⟨IsTup.new _ _,fun O2 e'=>by rw [BU _ rfl] at e';cases e';rfl⟩⟩
def ZAr (K:ZE5):R2:=fun x y H Q=>∃ a b xs ys,x=.ref a/\y=.ref b/\AA K H a xs/\AA K H b ys/\xs≠[]/\xs.length+ys.length<=sizeLine/\
 (ys=[]->Q (.ref a) H)/\(ys≠[]->∀ p,H p=none->Q (.ref p) (upd H p (.tup (xs++ys))))
theorem Vals.P2 (r:Vals xs us):us=[]↔xs=[]:=by
 cases r with
 | nil=>simp
 | cons _ _=>simp
theorem sF:BG X (binaryOp .Add) (ZAr X.K):=by
 intro pins s σ H x y v u Q I rx ry h;obtain ⟨a,b,xs,ys,rfl,rfl,ha,hb,hx,hz,q1,q2⟩:=h;cases rx;cases ry;obtain ⟨A4,r1,p1,_⟩:=I.tuple ha;obtain ⟨Ba,r2,p2,_⟩:=I.tuple hb;refine HT.xN p1 p2 (fun z=>hx (r1.P2.mp z)) (fun z=>⟨.ref a,H,I,rfl,q1 (r2.P2.mp z)⟩) (fun z=>?_) (by rw [<- r1.length,<- r2.length];exact hz);refine ⟨.ref s.heap.objs.size,_,I.laid (t':=s.toks) (o:=.tup (xs++ys)) (fun b ob q=>BF _ q) (Ao _) ?_,rfl,q2 (fun w=>z (r2.P2.mpr w)) _ (I.AL.fresh (Ao _))⟩;exact ⟨by rw [Bl];exact hz,_,r1.append r2,⟨IsTup.new _ _,fun O2 e'=>by rw [BU _ rfl] at e';cases e';rfl⟩⟩
end
def FP (n:Nat)(i:Int):Option Nat:=if 0<=i then (if i<n then some i.toNat else none) else if -(n:Int)<=i then some (i+n).toNat else none
def Be (xs:List α)(i:Int):Option α:=(FP xs.length i).bind fun j=>xs[j]?
theorem bj (h:FP n i=some j):seqIndex? i n=some j/\j<n/\-(n:Int)<=i/\i<n:=by
 unfold FP at h
 by_cases h0:0<=i
 ·rw [jd h0] at h
  by_cases h1:i<n
  ·rw [jd h1] at h;have e:i.toNat=j:=BO h;exact ⟨by rw [seqIndex_of h0 h1,e],by omega,by omega,h1⟩
  ·rw [jG h1] at h;cases h
 ·rw [jG h0] at h
  by_cases h1:-(n:Int)<=i
  ·rw [jd h1] at h;have e:(i+n).toNat=j:=BO h;exact ⟨by rw [seqIndex_neg (by omega) h1,e],by omega,h1,by omega⟩
  ·rw [jG h1] at h;cases h
theorem Vk {xs:List α}{v:α}(h:Be xs i=some v):∃ j,seqIndex? i xs.length=some j/\xs[j]?=some v/\j<xs.length/\-(xs.length:Int)<=i/\i<xs.length:=by
 unfold Be at h;cases e:FP xs.length i with
 | none=>rw [e] at h;cases h
 | some j=>
  rw [e] at h;obtain ⟨h1,h2,h3,h4⟩:=bj e;exact ⟨j,h1,h,h2,h3,h4⟩
theorem eF {xs:List α}{v:α}(h:xs[j]?=some v):Be xs (j:Int)=some v:=by
 have hj:j<xs.length:=(List.getElem?_eq_some_iff.mp h).1;have e:FP xs.length (j:Int)=some j:=by
  unfold FP;rw [jd (by omega),jd (by omega)];simp
 unfold Be;rw [e];exact h
def T6 (b:Expr):Prop:=∀ o i,subscripted b false o i=operate [o,i] (getItem o i)
def FZ (X:Cx)(r:R2):Prop:=
 ∀ (value slice:Expr) (pins:ZE6) (s:Shared) (σ:St) (H:Hp) (x y:V) (v u:Value) (Q:VK),Inv X pins σ H s->RelV x v->RelV y u->r x y H Q->
  subscripted slice false v u=operate [v,u] (getItem v u)->wpAny (model X.prog X.w) X.A (subscriptTail value slice v u) (EP X pins σ Q) X.xe s
def LJ (X:Cx)(id:String)(r:V->List V->Hp->VK->Prop):Prop:=
 ∀ (pins:ZE6) (s:Shared) (σ:St) (H:Hp) (x:V) (xs:List V) (v:Value) (us:List Value) (Q:VK),Inv X pins σ H s->RelV x v->Vals xs us->r x xs H Q->
  wpAny (model X.prog X.w) X.A (call (.builtin id) (v::us)) (EP X pins σ Q) X.xe s
section
variable {a b:Expr}{ta tb:TE}
def PX (K:ZE5):R2:=fun x y H Q=>∃ p xs i v,x=.ref p/\y=.int i/\AF K H p xs/\Be xs i=some v/\Q v H
def Gf (K:ZE5):R2:=fun x y H Q=>∃ p xs i v,x=.ref p/\y=.int i/\AA K H p xs/\Be xs i=some v/\Q v H
def ka:R2:=fun x y H Q=>∃ z i c,x=.str z/\y=.int i/\z.length<=sizeLine/\Be z.cps.toList i=some c/\Q (.str ⟨#[c]⟩) H
theorem Dl:FZ X (PX X.K):=by
 intro value slice pins s σ H x y v u Q I rx ry h hs;obtain ⟨p,xs,i,z,rfl,rfl,hq,he,q⟩:=h;cases rx;obtain ⟨t,rfl⟩:=ry;obtain ⟨A4,r,pl,hz⟩:=I.list hq;obtain ⟨j,h1,h2,h3,h4,h5⟩:=Vk he;obtain ⟨w,ew,Es⟩:=r.get h2;have hl:=r.length;have hn:=IE;have fin:EP X pins σ Q w s:=⟨z,H,I,Es,q⟩
 by_cases h0:0<=i
 ·have hj:i.toNat=j:=by
   rw [seqIndex_of h0 h5] at h1;exact BO h1
  exact item_listR pl.isList h0 (by omega) (by rw [hj];simpa using ew) fin hs
 ·have hj:(i+(A4.toArray.size:Int)).toNat=j:=by
   rw [seqIndex_neg (by omega) h4] at h1;rw [Bt,<- hl];exact BO h1
  exact subscriptTail_builtinR (x:=w) pl.isList.typeIs slot_list_getitem.lookup
   (wpAny_getItem_list_neg (Q:=fun r s'=>r=w/\EP X pins σ Q r s') pl.isList (by omega) (by rw [Bt] <;> omega) (by omega) (by rw [hj];simpa using ew) ⟨rfl,fin⟩) hs
theorem Ad:FZ X (Gf X.K):=by
 intro value slice pins s σ H x y v u Q I rx ry h hs;obtain ⟨p,xs,i,z,rfl,rfl,hq,he,q⟩:=h;cases rx;obtain ⟨t,rfl⟩:=ry;obtain ⟨A4,r,pl,hz⟩:=I.tuple hq;obtain ⟨j,h1,h2,h3,h4,h5⟩:=Vk he;obtain ⟨w,ew,Es⟩:=r.get h2;have hl:=r.length;have hn:=IE;have fin:EP X pins σ Q w s:=⟨z,H,I,Es,q⟩;exact subscriptTail_builtinR (x:=w) pl.typeIs slot_tuple_getitem.lookup
  (getItem_tuple (j:=j) (Q:=fun r s'=>r=w/\EP X pins σ Q r s') pl (by omega) (by omega) (by rw [Bt,<- hl];exact h1) (by simpa using ew) ⟨rfl,fin⟩) hs
theorem nW:FZ X ka:=by
 intro value slice pins s σ H x y v u Q I rx ry h hs;obtain ⟨z,i,c,rfl,rfl,hz,he,q⟩:=h;obtain ⟨t,rfl⟩:=rx;obtain ⟨t',rfl⟩:=ry;obtain ⟨j,h1,h2,h3,h4,h5⟩:=Vk he;have hl:z.cps.toList.length=z.length:=by simp [Str.length]
 rw [hl] at h1 h4 h5;have hn:=IE;exact tail_any (typeIs_str s z t) slot_str_getitem.lookup (getItem_str (c:=c) (by
  have e1:decide (i < -(2 ^ 63:Int))=false:=jx (by omega);have e2:decide (i>=2 ^ 63)=false:=jx (by omega);rw [e1,e2,Bool.or_false]) (by rw [h1];simpa using h2) ⟨.str ⟨#[c]⟩,H,I.tok _,⟨_,rfl⟩,q⟩) hs
theorem jB (A4:List Value)(n j:Nat)(u:Value):Obj.mapSeq (·.setIfInBounds j u) { cls:=.type "list", data:=.seq A4.toArray n }={ cls:=.type "list", data:=.seq (A4.set j u).toArray n }:=by
 simp [Obj.mapSeq]
theorem Inv.lst {pins:ZE6}{σ:St}{H:Hp}{s:Shared}{p:Addr}{xs:List V}(I:Inv X pins σ H s)(h:H p=some (.lst xs)):
  ∃ (A4:List Value) (n:Nat),Vals xs A4/\s.heap.get? p=some { cls:=.type "list", data:=.seq A4.toArray n }/\xs.length<=sizeLine:=by
 obtain ⟨z,A4,n,r,e⟩:=I.AL p _ h;exact ⟨A4,n,r,e,z⟩
theorem Inv.sJ {p:Addr}{n':Nat}{f:Obj->Obj}(I:Inv X pins σ H s)(h:H p=some (.lst xs))
  (ho:s.heap.get? p=some { cls:=.type "list", data:=.seq A4.toArray n }) (hf:f { cls:=.type "list", data:=.seq A4.toArray n }={ cls:=.type "list", data:=.seq its'.toArray n' }) (r:Vals ys its') (hz:ys.length<=sizeLine) (t:Nat) :
  Inv X pins σ (upd H p (.lst ys)) { s with heap:=s.heap.update p f,toks:=t }:=by
 have e:(s.heap.update p f).get? p=some { cls:=.type "list", data:=.seq its'.toArray n' }:=by
  rw [FN f ho (by rw [hf] <;> rfl),hf]
 refine I.write (x:=p) (e:=p) (by rw [h];trivial) (.inl rfl) (fun b u hb q=>(Fn _ _ (BS hb)).trans q) ⟨_,e⟩ ?_;exact ⟨hz,its',n',r,e⟩
def tN:V->V->V->Hp->(Hp->Prop)->Prop:=fun o i v H Q=>∃ p xs k j,o=.ref p/\i=.int k/\H p=some (.lst xs)/\FP xs.length k=some j/\Q (upd H p (.lst (xs.set j v)))
theorem set_list:XB X tN:=by
 intro pins s σ H o i v ov iv u Q I ro ri rv h;obtain ⟨p,xs,k,j,rfl,rfl,hp,hj,q⟩:=h;cases ro;obtain ⟨t,rfl⟩:=ri;obtain ⟨A4,n,r,ho,hz⟩:=I.lst hp;obtain ⟨h1,h2,h3,h4⟩:=bj hj;have hl:=r.length;have hn:=IE;have I':Inv X pins σ (upd H p (.lst (xs.set j v))) { s with heap:=s.heap.update p (Obj.mapSeq (·.setIfInBounds j u)) }:=
  I.sJ hp ho (jB A4 n j u) (r.set rv j) (by rw [Fp];exact hz) s.toks
 by_cases h0:0<=k
 ·have hk:k.toNat=j:=by
   rw [seqIndex_of h0 h4] at h1;exact BO h1
  exact PySem.W.ki_setAt ho h0 (by omega) (by rw [Bt,<- hl];exact h4) (by rw [hk];exact ⟨_,I',q⟩)
 ·have hk:(k+(A4.toArray.size:Int)).toNat=j:=by
   rw [seqIndex_neg (by omega) h3] at h1;rw [Bt,<- hl];exact BO h1
  exact PySem.W.ki_setBack ho (by omega) (by rw [Bt,<- hl];exact h3) (by omega) (by rw [hk];exact ⟨_,I',q⟩)
theorem jU (lo hi:Option Int)(n:Nat):(sliceBounds lo hi none n).1=((HT.Ae n 0 lo:Nat):Int)/\(sliceBounds lo hi none n).2.1=((HT.Ae n n hi:Nat):Int)/\(sliceBounds lo hi none n).2.2=1:=by
 refine ⟨?_,?_,rfl⟩
 ·cases lo with
  | none=>simp [sliceBounds,HT.Ae]
  | some i=>
   simp only [sliceBounds,HT.Ae,ZD6,show (1:Int) > 0 by decide,ZA5]
   by_cases h:i<0
   ·simp only [h,ZA5] <;> omega
   ·simp only [h,ZAJ] <;> omega
 ·cases hi with
  | none=>simp [sliceBounds,HT.Ae]
  | some i=>
   simp only [sliceBounds,HT.Ae,ZD6,show (1:Int) > 0 by decide,ZA5]
   by_cases h:i<0
   ·simp only [h,ZA5] <;> omega
   ·simp only [h,ZAJ] <;> omega
theorem qm (A4:List Value)(lo hi:Option Int):slicePick A4.toArray lo hi none=((A4.drop (HT.Ae A4.length 0 lo)).take (HT.Ae A4.length A4.length hi - HT.Ae A4.length 0 lo)).toArray:=by
 obtain ⟨h1,h2,h3⟩:=jU lo hi A4.toArray.size;unfold slicePick;rw [h1,h2,h3];simp only [sliceRange_one,pick_run,Bt] <;> rfl
def d8 (K:ZE5):V->Option Int->Option Int->Hp->VK->Prop:=fun x lo hi H Q=>∃ a xs,x=.ref a/\AF K H a xs/\∀ p,H p=none->Q (.ref p) (upd H p (.lst (C7 xs lo hi)))
theorem JX:JZ X (d8 X.K):=by
 intro pins s σ H x v vl vu lo hi sl Q I rx hs pl pu h;obtain ⟨a,xs,rfl,hx,q⟩:=h;cases rx;obtain ⟨A4,r,ht,hz⟩:=I.list hx;have hlen:=r.length;refine ⟨"list", _,slot_list_getitem.lookup,ht.isList.typeIs,?_⟩;refine wpAny_getItem_list_slice ht.isList hs pl pu .none (by simp) ?_ (by rw [Bt] <;> omega)
 rw [qm,<- hlen];refine ⟨.ref s.heap.objs.size,_,I.laid (t':=s.toks) (o:=.lst (C7 xs lo hi)) (fun b ob q=>BF _ q) (Ao _) ?_,rfl,q _ (I.AL.fresh (Ao _))⟩;exact ⟨Ci (i4 xs lo hi) hz,_,0,(r.drop (HT.Ae xs.length 0 lo)).take (HT.Ae xs.length xs.length hi - HT.Ae xs.length 0 lo),BU _ rfl⟩
def E8:V->Bool
 | .AB=>true
 | .bl _=>true
 | .int _=>true
 | .str _=>true
 | _=>false
def Df:V->V->Bool
 | .AB,.AB=>true
 | .bl a,.bl b=>a == b
 | .bl a,.int b=>(if a then 1 else 0) == b
 | .int a,.bl b=>a == (if b then 1 else 0)
 | .int a,.int b=>a == b
 | .str a,.str b=>a == b
 | _,_=>false
theorem PB (ry:RelV y u)(rx:RelV x v)(fy:E8 y=true)(fx:E8 x=true):SeqAt.EqAt A s u v (Df y x):=by
 cases y with
 | AB=>
  cases ry;cases x with
  | AB=>cases rx;exact SeqAt.EqAt.same _
  | bl b=>cases rx;exact SeqAt.EqAt.none_bool b
  | int b=>obtain ⟨t,rfl⟩:=rx;exact SeqAt.EqAt.none_int b t
  | str b=>obtain ⟨t,rfl⟩:=rx;exact SeqAt.EqAt.none_str b t
  | _=>exact absurd (show false=true from fx) DJ
 | bl a=>
  cases ry;cases x with
  | AB=>cases rx;exact SeqAt.EqAt.bool_none a
  | bl b=>cases rx;exact SeqAt.EqAt.bool_bool a b
  | int b=>obtain ⟨t,rfl⟩:=rx;exact SeqAt.EqAt.bool_int a b t
  | str b=>obtain ⟨t,rfl⟩:=rx;exact SeqAt.EqAt.bool_str a b t
  | _=>exact absurd (show false=true from fx) DJ
 | int a=>
  obtain ⟨t',rfl⟩:=ry;cases x with
  | AB=>cases rx;exact SeqAt.EqAt.int_none a t'
  | bl b=>cases rx;exact SeqAt.EqAt.int_bool a t' b
  | int b=>obtain ⟨t,rfl⟩:=rx;exact SeqAt.EqAt.int_int a t' b t
  | str b=>obtain ⟨t,rfl⟩:=rx;exact SeqAt.EqAt.int_str a t' b t
  | _=>exact absurd (show false=true from fx) DJ
 | str a=>
  obtain ⟨t',rfl⟩:=ry;cases x with
  | AB=>cases rx;exact SeqAt.EqAt.str_none a t'
  | bl b=>cases rx;exact SeqAt.EqAt.str_bool a t' b
  | int b=>obtain ⟨t,rfl⟩:=rx;exact SeqAt.EqAt.str_int a t' b t
  | str b=>obtain ⟨t,rfl⟩:=rx;exact SeqAt.EqAt.str_str a t' b t
  | _=>exact absurd (show false=true from fx) DJ
 | _=>exact absurd (show false=true from fy) DJ
def DZ (x:V)(u:Value):Bool:=match u with
 | .none=>Df .AB x
 | .bool b=>Df (.bl b) x
 | .int i _=>Df (.int i) x
 | .str z _=>Df (.str z) x
 | _=>false
theorem ZH (r:RelV y u)(f:E8 y=true):DZ x u=Df y x:=by
 cases y with
 | AB=>cases r;rfl
 | bl b=>cases r;rfl
 | int i=>obtain ⟨t,rfl⟩:=r;rfl
 | str z=>obtain ⟨t,rfl⟩:=r;rfl
 | _=>exact absurd (show false=true from f) DJ
theorem N9 {x:V}:∀ {xs:List V}{us:List Value},Vals xs us->xs.all E8=true->us.any (DZ x)=xs.any fun y=>Df y x
 | _,_,.nil,_=>rfl
 | y::xs,u::us,.cons r t,f=>by
  rw [RG,Dg] at f;rw [Li,Li,ZH r f.1,N9 t f.2]
theorem JN {A:Around}{s:Shared}{x:V}{v:Value}(rx:RelV x v)(fx:E8 x=true):∀ {xs:List V}{us:List Value},Vals xs us->xs.all E8=true->∀ u∈us,SeqAt.EqAt A s u v (DZ x u)
 | _,_,.nil,_=>fun u hu=>by cases hu
 | y::xs,u::us,.cons r t,f=>fun u' hu=>by
  rw [RG,Dg] at f;rcases List.mem_cons.mp hu with rfl | hu
  ·rw [ZH r f.1];exact PB r rx f.1 fx
  ·exact JN rx fx t f.2 u' hu
def Cj (x:V)(xs:List V):Bool:=xs.any fun y=>Df y x
def K6 (K:ZE5)(neg:Bool):R2:=fun x y H Q=>∃ p xs,y=.ref p/\(AF K H p xs∨AA K H p xs)/\E8 x=true/\xs.all E8=true/\Q (.bl (if neg then !Cj x xs else Cj x xs)) H
theorem Hl:BG X (compareOp .In) (K6 X.K false):=by
 intro pins s σ H x y v u Q I rx ry h;obtain ⟨p,xs,rfl,hq,fx,fs,q⟩:=h;cases ry;rcases hq with hq | hq
 ·obtain ⟨A4,r,pl,hz⟩:=I.list hq;refine SeqAt.in_listAt (DZ x) pl.isList (fun w hw=>JN rx fx r fs w (by simpa using hw)) ⟨.bl _,H,I,rfl,?_⟩
  rw [show A4.toArray.any (DZ x)=A4.any (DZ x) by simp,N9 r fs];exact q
 ·obtain ⟨A4,r,pl,hz⟩:=I.tuple hq;refine SeqAt.in_tupleAt (DZ x) pl (fun w hw=>JN rx fx r fs w (by simpa using hw)) ⟨.bl _,H,I,rfl,?_⟩
  rw [show A4.toArray.any (DZ x)=A4.any (DZ x) by simp,N9 r fs];exact q
theorem av:BG X (compareOp .NotIn) (K6 X.K true):=by
 intro pins s σ H x y v u Q I rx ry h;obtain ⟨p,xs,rfl,hq,fx,fs,q⟩:=h;cases ry;rcases hq with hq | hq
 ·obtain ⟨A4,r,pl,hz⟩:=I.list hq;refine SeqAt.notIn_listAt (DZ x) pl.isList (fun w hw=>JN rx fx r fs w (by simpa using hw)) ⟨.bl _,H,I,rfl,?_⟩
  rw [show A4.toArray.any (DZ x)=A4.any (DZ x) by simp,N9 r fs];exact q
 ·obtain ⟨A4,r,pl,hz⟩:=I.tuple hq;refine SeqAt.notIn_tupleAt (DZ x) pl (fun w hw=>JN rx fx r fs w (by simpa using hw)) ⟨.bl _,H,I,rfl,?_⟩
  rw [show A4.toArray.any (DZ x)=A4.any (DZ x) by simp,N9 r fs];exact q
theorem Dt:CY X (.builtin "len") (fun xs H Q=>∃ p ys,xs=[.ref p]/\(AF X.K H p ys∨AA X.K H p ys)/\Q (.int ys.length) H):=by
 intro pins s σ H xs us Q I r h;obtain ⟨p,ys,rfl,hq,q⟩:=h;obtain ⟨u,rfl,rx⟩:=vals1 r;cases rx;have hn:=IE;rcases hq with hq | hq
 ·obtain ⟨A4,r',pl,hz⟩:=I.list hq;have hlen:=r'.length;exact Calls.call_len_list pl.isList (by simp only [Bt] <;> omega) ⟨.int ys.length,H,I.tok _,⟨s.toks+1,by rw [Bt,hlen]⟩,q⟩
 ·obtain ⟨A4,r',pl,hz⟩:=I.tuple hq;have hlen:=r'.length;exact len_tuple pl (by simp only [Bt] <;> omega) ⟨.int ys.length,H,I.tok _,⟨s.toks+1,by rw [Bt,hlen]⟩,q⟩
theorem iC:CY X (.builtin "len") (fun xs H Q=>∃ z,xs=[.str z]/\z.length<=sizeLine/\Q (.int z.length) H):=by
 intro pins s σ H xs us Q I r h;obtain ⟨z,rfl,hz,q⟩:=h;obtain ⟨u,rfl,t,rfl⟩:=vals1 r;have hn:=IE;exact len_str (by omega) ⟨.int z.length,H,I.tok _,⟨_,rfl⟩,q⟩
theorem Jw:CY X (.type "list") (fun xs H Q=>∃ p ys,xs=[.ref p]/\(AF X.K H p ys∨AA X.K H p ys)/\∀ l,H l=none->Q (.ref l) (upd H l (.lst ys))):=by
 intro pins s σ H xs us Q I r h;obtain ⟨p,ys,rfl,hq,q⟩:=h;obtain ⟨u,rfl,rx⟩:=vals1 r;cases rx;have fin:∀ (A4:List Value),Vals ys A4->ys.length<=sizeLine->∀ (h':Heap) (c':Nat),(∀ b o',s.heap.get? b=some o'->h'.get? b=some o')->
   h'.get? s.heap.objs.size=some { cls:=.type "list", dict:=none,data:=.seq A4.toArray c',slots:=#[] }->EP X pins σ Q (.ref s.heap.objs.size) { s with heap:=h' }:=fun A4 r' hz h' c' kp e=>
  ⟨.ref s.heap.objs.size,_,I.laid (t':=s.toks) kp (Ao _) (show Bm X.prog X.w _ h' _ (.lst ys) from ⟨hz,A4,c',r',e⟩),rfl,q _ (I.AL.fresh (Ao _))⟩
 rcases hq with hq | hq
 ·obtain ⟨A4,r',pl,hz⟩:=I.list hq;have hlen:=r'.length;obtain ⟨o,ho,hc,n,hd⟩:=pl.isList;exact call_list_seq p (.inl rfl) ho hc hd (fun h' c' kp e=>fin A4 r' hz h' c' kp e) (by simp only [Bt] <;> omega)
 ·obtain ⟨A4,r',pl,hz⟩:=I.tuple hq;have hlen:=r'.length;obtain ⟨o,ho,hc,n,hd⟩:=pl;exact call_list_seq p (.inr rfl) ho hc hd (fun h' c' kp e=>fin A4 r' hz h' c' kp e) (by simp only [Bt] <;> omega)
theorem JJ:CY X (.type "tuple") (fun xs H Q=>∃ p ys,xs=[.ref p]/\((AF X.K H p ys/\∀ l,H l=none->Q (.ref l) (upd H l (.tup ys)))∨(AA X.K H p ys/\Q (.ref p) H))):=by
 intro pins s σ H xs us Q I r h;obtain ⟨p,ys,rfl,h⟩:=h;obtain ⟨u,rfl,rx⟩:=vals1 r;cases rx;rcases h with ⟨hq,q⟩ | ⟨hq,q⟩
 ·obtain ⟨A4,r',pl,hz⟩:=I.list hq;have hlen:=r'.length;refine call_tuple_list pl.isList (fun h' kp=>?_) (by simp only [Bt] <;> omega)
  have I1:Inv X pins σ H { s with heap:=h' }:=I.kept (t':=s.toks) kp
  have I2:Inv X pins σ (upd H h'.objs.size (.tup ys)) { s with heap:=h'.push { cls:=.type "tuple", data:=.seq A4.toArray } }:=
   I1.laid (t':=s.toks) (fun b o e=>BF _ e) (Ao _) (show Bm X.prog X.w _ _ _ (.tup ys) from ⟨hz,A4,r',⟨IsTup.new _ _,fun O2 e'=>by rw [BU _ rfl] at e';cases e';rfl⟩⟩)
  exact ⟨.ref h'.objs.size,_,I2,rfl,q _ (I1.AL.fresh (Ao _))⟩
 ·obtain ⟨A4,r',pl,hz⟩:=I.tuple hq;exact call_tuple_same pl ⟨.ref p,H,I,rfl,q⟩
def L7 (K:ZE5)(T:String)(x:V)(H:Hp):Prop:=match x with
 | .str _=>T="str"
 | .int _=>T="int"
 | .ref p=>(T="list" /\ ∃ xs,AF K H p xs)∨(T="tuple" /\ ∃ o,K.lookup p=some o/\o.cls=.type "tuple" /\ o.dict=none)∨
   (T="dict" /\ ((∃ A3,H p=some (.dK A3))∨∃ A3,H p=some (.dT A3)))∨(T="set" /\ ∃ S n,H p=some (.set S n))∨(T="tuple" /\ ∃ xs,H p=some (.tup xs))
 | _=>False
theorem qy (I:Inv X pins σ H s)(r:RelV x v)(ty:L7 X.K T x H):
  s.TypeIs v T/\∀ a,v=.ref a->∃ ob,s.heap.get? a=some ob/\ob.dict=none:=by
 cases x with
 | str z=>
  obtain ⟨t,rfl⟩:=r;cases (show T="str" from ty);exact ⟨typeIs_str s z t,fun _ e=>nomatch e⟩
 | int i=>
  obtain ⟨t,rfl⟩:=r;cases (show T="int" from ty);exact ⟨typeIs_int s i t,fun _ e=>nomatch e⟩
 | ref p=>
  cases r;rcases ty with ⟨rfl,xs,hq⟩ | ⟨rfl,o,hk,hc,hd⟩ | ⟨rfl,hk⟩ | ⟨rfl,S,n,hk⟩ | ⟨rfl,xs,hk⟩
  ·obtain ⟨A4,_,pl,_⟩:=I.list hq;refine ⟨pl.isList.typeIs,fun a e=>?_⟩;cases e;obtain ⟨o,n,e,c,hd,_⟩:=pl;exact ⟨o,e,hd⟩
  ·refine ⟨⟨o,I.CO p o hk,hc⟩,fun a e=>?_⟩;cases e;exact ⟨o,I.CO _ o hk,hd⟩
  ·have z:∃ o,s.heap.get? p=some o/\o.ExactDict:=by
    rcases hk with ⟨A3,hk⟩ | ⟨A3,hk⟩
    ·obtain ⟨_,_,_,_,o,_,_,e,ex,_⟩:=I.AL p _ hk;exact ⟨o,e,ex⟩
    ·obtain ⟨_,_,_,_,o,_,_,e,ex,_⟩:=I.AL p _ hk;exact ⟨o,e,ex⟩
   obtain ⟨o,e,ex⟩:=z;refine ⟨⟨o,e,ex.1⟩,fun a e2=>?_⟩;cases e2;exact ⟨o,e,ex.2.1⟩
  ·obtain ⟨o,_,_,_,e,ex,_⟩:=I.AL p _ hk;refine ⟨⟨o,e,ex.1⟩,fun a e2=>?_⟩;cases e2;exact ⟨o,e,ex.2.1⟩
  ·obtain ⟨_,A4,_,⟨o,e,c,_⟩,dn⟩:=I.AL p _ hk;refine ⟨⟨o,e,c⟩,fun a e2=>?_⟩;cases e2;exact ⟨o,e,dn o e⟩
 | _=>exact False.elim ty
def Qg (K:ZE5)(T:String)(r:V->List V->Hp->VK->Prop)(to:TE)(t:TA):TE:=fun σ H Q=>to σ H fun x H1=>L7 K T x H1/\t σ H1 fun xs H2=>r x xs H2 Q
variable {o e:Expr}{es:List Expr}{to:TE}{t:TA}{name:Str}{apos Bv:Pos}{id:String}{r:V->List V->Hp->VK->Prop}
end
def YO (X:Cx)(id:String)(r:V->List V->Hp->VK->Prop):Prop:=
 ∀ (pins:ZE6) (s:Shared) (σ:St) (H:Hp) (x:V) (xs:List V) (v:Value) (us:List Value) (Q:VK),Inv X pins σ H s->RelV x v->Vals xs us->r x xs H Q->
  wpAny (model X.prog X.w) X.A (call (.builtin id) (v::us)) (EP X pins σ Q) X.xe s
theorem Vals.one:∀ {x:V}{us:List Value},Vals [x] us->∃ u,us=[u]/\RelV x u
 | _,_,.cons r .nil=>⟨_,rfl,r⟩
theorem Vals.two:∀ {x y:V}{us:List Value},Vals [x,y] us->∃ u v,us=[u,v]/\RelV x u/\RelV y v
 | _,_,_,.cons r (.cons q .nil)=>⟨_,_,rfl,r,q⟩
theorem Vals.reverse (h:Vals xs us):Vals xs.reverse us.reverse:=by
 induction h with
 | nil=>exact .nil
 | cons r t ih=>rw [ZD1,ZD1];exact Vals.append ih (.cons r .nil)
section
variable {l b:Addr}{zs:List V}
theorem Inv.Ze {f:Array Value->Array Value}(I:Inv X pins σ H s)(hH:H l=some (.lst xs))
  (e:s.heap.get? l=some { cls:=.type "list", data:=.seq A4.toArray n }) (hf:f A4.toArray=its'.toArray) (hv:Vals ys its') (hz:ys.length<=sizeLine) :
  Inv X pins σ (upd H l (.lst ys)) { s with heap:=s.heap.update l (Obj.mapSeq f),toks:=t' }:=by
 have q:=PySem.IsL.update e f;rw [hf] at q;refine I.write (x:=l) (e:=l) (by rw [hH];exact trivial) (.inl rfl) (fun b' u hb hu=>(Fn s.heap (Obj.mapSeq f) (BS hb)).trans hu) ⟨_,q⟩ ?_;exact ⟨hz,its',_,hv,q⟩
theorem Inv.ZJ (I:Inv X pins σ H s)(hv:Vals ys A4)(hz:ys.length<=sizeLine):
  Inv X pins σ (upd H s.heap.objs.size (.lst ys)) { s with heap:=s.heap.push { cls:=.type "list", data:=.seq A4.toArray },toks:=t' }:=
 I.laid (fun _ _ q=>BF _ q) (Ao _) ⟨hz,A4,0,hv,BU _ rfl⟩
theorem Inv.fresh (I:Inv X pins σ H s):H s.heap.objs.size=none:=I.AL.fresh (Ao _)
theorem Inv.O5 (I:Inv X pins σ H s)(hH:H l=some (.lst xs)):xs.length<=sizeLine/\∃ (A4:List Value) (n:Nat),Vals xs A4/\xs.length=A4.length/\s.heap.get? l=some { cls:=.type "list", data:=.seq A4.toArray n }:=by
 obtain ⟨z,A4,n,r,e⟩:=I.AL l _ hH;exact ⟨z,A4,n,r,r.length,e⟩
def PM:V->List V->Hp->VK->Prop:=fun x vs H Q=>∃ l xs y,x=.ref l/\vs=[y]/\H l=some (.lst xs)/\xs.length<sizeLine/\Q .AB (upd H l (.lst (xs++[y])))
theorem ZZ:YO X "list.append" PM:=by
 intro pins s σ H x vs v us Q I rx rv h;obtain ⟨l,xs,y,rfl,rfl,hH,hz,q⟩:=h;cases rx;obtain ⟨u,rfl,ru⟩:=rv.one;obtain ⟨z,A4,n,r,hl,e⟩:=I.O5 hH;refine call_meets F.slot_list_append ⟨_,e,rfl⟩ F.entry_list_append (F.args_list_append_2 _ _) (PySem.list_append l A4.toArray n u (by rw [Bt];omega)) ⟨e,?_⟩;refine ⟨.AB,_,I.Ze (its':=A4++[u]) hH e (by simp) (r.append (.cons ru .nil)) ?_,rfl,q⟩;rw [Bl,ia];omega
def tu:R2:=fun x y H Q=>∃ l b xs zs,x=.ref l/\y=.ref b/\H l=some (.lst xs)/\H b=some (.lst zs)/\xs.length+zs.length<=sizeLine/\∀ p,H p=none->Q (.ref p) (upd H p (.lst (xs++zs)))
theorem IV:BG X (binaryOp .Add) tu:=by
 intro pins s σ H x y v u Q I rx ry h;obtain ⟨l,b,xs,zs,rfl,rfl,hH,hB,hz,q⟩:=h;cases rx;cases ry;obtain ⟨z,A4,n,r,hl,e⟩:=I.O5 hH;obtain ⟨z2,Ba,n2,r2,D9,e2⟩:=I.O5 hB;refine PySem.P.add_list e e2 ?_ (by rw [Bt,Bt];omega);have ea:A4.toArray++Ba.toArray=(A4++Ba).toArray:=by simp
 rw [ea];exact ⟨.ref _,_,I.ZJ (t':=s.toks) (r.append r2) (by rw [Bl];omega),rfl,q _ I.fresh⟩
variable {prog:Program}{w:World}{E:Value->Shared->Prop}
set_option maxRecDepth 100000 in
end
end L2
namespace Z7
open PySem.W PySem.Calls
variable {l:OpenLaw}{n:Nat}{prog q:Program}
theorem zc {P:Params}{h:Heap}:∀ (ns:List Int) (vs:List Value),WellAll P h vs (ns.map WData.int)->IntsAre vs ns:=by
 intro ns
 induction ns with
 | nil=>
  intro vs w;rw [ic] at w;cases w;exact .nil
 | cons n ns ih=>
  intro vs w;rw [Bs] at w;cases w with
  | cons a b=>
   cases a;exact .cons _ _ (ih _ b)
theorem xi (hn:l.most=some n){P:Params}{h:Heap}{args:List WData}{vals:List Value}
  (Ko:l.row.toRowW.claim.pre args=true) (TL:WellAll P h vals args) :
  ∃ a vs ns,vals=[Value.ref a]/\args=[WData.list (ns.map WData.int)]/\h.get? a=some { cls:=.type "list", data:=.seq vs.toArray }/\IntsAre vs ns/\ns.length<=n:=by
 have hsh:WShape.hasAll [] args [.list .int]=true:=(pre_splitW Ko).1;have hc:l.pre.holds [] { args:=args }=true:=(pre_splitW Ko).2;obtain ⟨d,r,rfl,h1,h2⟩:=hasAllW_cons hsh;obtain rfl:=hasAllW_nil h2;obtain ⟨xs,rfl,h3⟩:=hasW_list h1;obtain ⟨ns,rfl⟩:=items_int h3;have hlen:ns.length<=n:=by
  unfold OpenLaw.pre at hc;have h4:(WTm.not (.lt (.lit (.int (n:Int))) (.len (.arg 0)))).holds [] { args:=[.list (ns.map .int)] }=true:=by
   have h4:=(holds_andW hc).1;rw [hn] at h4;exact h4
  have h5:=condW_of h4 (w_not (w_lt w_lit (w_len_list (w_arg rfl))));rw [Ab] at h5;refine ZD2 fun q=>?_;have q':(n:Int)<((ns.length:Nat):Int):=by omega
  first
   | (rw [jO q'] at h5;exact absurd h5 (by decide))
   | (simp at h5;omega)
 cases TL with
 | cons w1 w2=>
  cases w2;cases w1 with
  | list ho Ie=>exact ⟨_,_,ns,rfl,rfl,ho,zc ns _ Ie,hlen⟩
theorem kJ (l:OpenLaw)(args:List WData):l.row.toRowW.claim.post args (.bool true) args=true:=
 postW_of (r:=l.row.toRowW) (X:=(true == true))
  (show WShape.has [] (.bool true) .bool=true by first | rfl | decide | simp [WShape.has,WShape.arms,WShape.armsAll])
  (show (WTm.eq .res (.lit (.bool true))).value [] { args:=args,res:=some (.bool true),after:=args }=some (.bool (true == true)) from w_eq_bool (w_res rfl) w_lit) rfl
theorem v9 {loose:List Str}{XP:(ZE7)->Heap->Prop}{YP:World->Heap->Prop}{d:DefRec}
  (hn:l.most=some n) (NI:d.params.defaults=[])
  (call:∀ (w:World) (s₀ s₁:Shared) (mg mb:ZE7) (fa:Addr) (o:Obj) (pm cd doc:Value) (a:Addr) (vs:List Value) (ns:List Int),
   Ground q loose [] XP w s₀ mg mb s₁.heap->YP w s₁.heap->
   s₁.heap.get? fa=some o->o.data=.func (docDef d.name d.params d.body d.scope pm cd doc)->s₁.heap.CodeRec cd d.name->mg d.name=some (.ref fa)->
   s₁.heap.get? a=some { cls:=.type "list", data:=.seq vs.toArray }->IntsAre vs ns->ns.length<=n->s₁.gens=#[]->
   codeAny (model l.prog w) callerA (.call (.ref fa) ⟨[.ref a],[]⟩) (fun r s'=>r=.ok (.ret (.bool true))/\OldK s₁.heap s'.heap/\s'.os=s₁.os/\AllBare s'.gens) s₁) :
  WalkO q loose XP YP l.row.toRowW d [] (fun f vs=>PySem.call f vs):=by
 intro w s₀ s₁ mg mb G Y fa o pm cd doc dV kV ho hd G9 hD NZ hg args vals as Ko ZDV hrd TL hlo;obtain rfl:dV=.none:=Dflts.none hD NI;obtain rfl:kV=.none:=Dflts.noKw hD;obtain ⟨a,vs,ns,rfl,rfl,Uq,hints,hlen⟩:=xi hn Ko TL;refine enter_call (ur (call w s₀ s₁ mg mb fa o pm cd doc a vs ns G Y ho (fd_plain hd) G9 NZ Uq hints hlen hg) fun r s' hq=>?_);obtain ⟨rfl,h2,h3,h4⟩:=hq;exact ⟨.inl ⟨.bool true,.bool true,[],rfl,fun _=>rfl,.bool true,kJ l _,fun _=>⟨List.Pairwise.nil,fun _ hm=>(nomatch hm)⟩⟩,h2,h3,h4⟩
end Z7
namespace L2
variable {w:World}{mg:ZE7}{a f:Addr}{fd:FuncData}{qual x:Str}{sp:Sp}{loose ps:List Str}{X:Cx}{A B c:Prop}
theorem iB:∀ {vs:List Value}{ns:List Int},IntsAre vs ns->Vals (ns.map V.int) vs
 | _,_,.nil=>.nil
 | _,_,.cons n t h=>.cons ⟨t,rfl⟩ (iB h)
def Sy (H:Hp):Prop:=∀ b,H b=none∨∃ o xs,H b=some (.CG o (.lst xs))
theorem uc {P:Program}{K:ZE5}{mb:ZE7}{CX:FR}{k:Nat}{fa:Addr}{s₁:Shared}{vs:List Value}{ns:List Int}
  (KX:K.In s₁.heap) (L1:s₁.heap.Ns mainGlobals mg) (hb:s₁.heap.Ns builtinsNs mb) (nh:∀ x:Str,x ≠ "__name__" -> mb x=bootBuiltins x) (uv:s₁.heap.NoLimit) (hg:s₁.gens=#[])
  (ha:s₁.heap.get? a=some { cls:=.type "list", data:=.seq vs.toArray }) (hi:IntsAre vs ns) (hl:ns.length<=sizeLine) (hr:Bd k callerA)
  (F:∀ base:Heap,K.In base->base.Ns mainGlobals mg->D3 P w K mg base CX k fa fd [x] sp) (yr:∀ (s:Shared) (u:Value),BindsTo s fd ⟨[u],[]⟩ [(x,u)])
  (FD:∀ H:Hp,Sy H->AF K H a (ns.map V.int)->sp [.ref a] H (fun v _=>v=.bl true) fun _ _ _=>False)
  (Th:∀ H e s',CX [] H s₁ (fun _ _ _=>False) e s'->False) :
  codeAny (model P w) callerA (.call (.ref fa) ⟨[.ref a],[]⟩) (fun r s'=>r=.ok (.ret (.bool true))/\OldK s₁.heap s'.heap/\s'.os=s₁.os/\AllBare s'.gens) s₁:=by
 have rv:=iB hi;have ZAw:=hi.length
 -- from an abstract heap in ZDs nothing but FG hV may be tracked
 have core:∀ H:Hp,Sy H->AF K H a (ns.map V.int)->Bp P w H s₁.heap->(∀ b,H b≠none->b=a)->(H a≠none->K.lookup a=none)->
   codeAny (model P w) callerA (.call (.ref fa) ⟨[.ref a],[]⟩) (fun r s'=>r=.ok (.ret (.bool true))/\OldK s₁.heap s'.heap/\s'.os=s₁.os/\AllBare s'.gens) s₁:=by
  intro H hO hS AL hA hK;have az:∀ {b:Addr}{o:Obj},s₁.heap.get? b=some o->H b=none->(Hj s₁.heap H).get? b=some o:=fun e n=>ZBC e n;have Gi:∀ {b:Addr}{o:Obj}{es:Array DictEntry}{ep:Nat},s₁.heap.get? b=some o->o.data=.dict es ep->H b=none:=fun {b o es ep} e d=>by
   cases q:H b with
   | none=>rfl
   | some u=>
    have e':b=a:=hA b (by rw [q];simp);subst e';rw [ha] at e;cases e;have d':Data.seq vs.toArray _=Data.dict es ep:=d;cases d'
  have P5:∀ {b:Addr}{m:ZE7},s₁.heap.Ns b m->(Hj s₁.heap H).Ns b m:=fun {b m} AJ=>by obtain ⟨o,es,ep,e,d,r⟩:=AJ;exact ⟨o,es,ep,az e (Gi e d),d,r⟩
  have YF:K.In (Hj s₁.heap H):=fun b o e=>az (KX b o e) (by
   cases q:H b with
   | none=>rfl
   | some u=>
    have e':b=a:=hA b (by rw [q];simp);subst e';rw [hK (by rw [q];simp)] at e;cases e)
  have hM:Mod K mg (Hj s₁.heap H):=⟨YF,P5 L1,⟨mb,P5 hb,nh⟩,let ⟨mc,h1,h2⟩:=uv;⟨mc,P5 h1,h2⟩⟩;have e0:JL P w K mg (Hj s₁.heap H) callerA [] s₁ H:=⟨rfl,hM,fun b o e=>ZAP e,il (lX _ _),trivial,fun b hb=>absurd (show b∈([]:List Addr) from hb) (by simp),AL,.of_eq hg⟩;refine ur ((F _ YF (P5 L1)).run callerA [] s₁ H ⟨[.ref a],[]⟩ [.ref a] [.ref a] _ _ hr e0 (yr s₁ (.ref a)) (.cons rfl .nil) (FD H hO hS)) fun r s' h=>?_;cases r with
  | error e=>exact (Th H e s' h).elim
  | ok fl=>
   cases fl with
   | next=>exact False.elim h
   | brk=>exact False.elim h
   | cont=>exact False.elim h
   | ret u=>
    obtain ⟨v,H',os,bare,un,zY,r',q⟩:=h;have q':v=.bl true:=q;subst q';obtain rfl:u=Value.bool true:=r';refine ⟨rfl,OldK.of_keep fun b o e=>?_,os,bare⟩;cases q:H b with
    | none=>exact un.keep b o e q (by intro z;exact absurd (show b∈([]:List Addr) from z) (by simp)) (by simp)
    | some u=>
     rcases hO b with z | ⟨ob,xs,z⟩
     ·rw [q] at z;cases z
     ·have z2:=un.GC b ob _ z;obtain ⟨e1,_⟩:=AL b _ z;obtain ⟨e2,_⟩:=zY b _ z2;rw [e] at e1;cases e1;exact e2
 cases hk:K.lookup a with
 | some o=>
  -- FG hV is one of FG ZDq own objects
  have e:=KX a o hk;rw [ha] at e;cases e;refine core (fun _=>none) (fun _=>.inl rfl) (.inr ⟨_,vs.toArray,_,hk,rfl,rfl,rfl,by rw [Bt,ZAw];exact hl,by simpa using rv⟩) (fun b u z=>by have z':(none:Option HO)=some u:=z;cases z') (fun b z=>absurd rfl z) fun z=>absurd rfl z
 | none=>
  refine core (fun b=>if b=a then some (.CG { cls:=.type "list", data:=.seq vs.toArray } (.lst (ns.map V.int))) else none) (fun b=>?_) (.inl (.inr ⟨{ cls:=.type "list", data:=.seq vs.toArray },jd rfl⟩)) (fun b u z=>?_) (fun b z=>?_) fun _=>hk
  ·by_cases hb:b=a
   ·exact .inr ⟨_,_,jd hb⟩
   ·exact .inl (jG hb)
  ·by_cases hb:b=a
   ·have z':=(jd hb).symm.trans z;cases z';subst hb;exact ⟨ha,by rw [Ab];exact hl,vs,_,rv,ha⟩
   ·have z':=(jG hb).symm.trans z;cases z'
  ·by_cases hb:b=a
   ·exact hb
   ·exact absurd (jG hb) z
theorem zD {l:PySem.W.OpenLaw}{n k:Nat}{q:Program}{XP:(ZE7)->Heap->Prop}{YP:World->Heap->Prop}{d:DefRec}{K:Params->ZE5}{CX:World->FR}{sp:World->Sp}
  (hn:l.most=some n) (OU:n<=sizeLine) (NI:d.params.defaults=[]) (hr:Bd k callerA)
  (hY:∀ (w:World) (h:Heap),YP w h->(K w.params).In h)
  (F:∀ (w:World) (mg:ZE7) (fa:Addr) (h:Heap),(K w.params).In h->h.Ns mainGlobals mg->mg d.name=some (.ref fa)->
   ∃ fd:FuncData,(∀ (s:Shared) (u:Value),BindsTo s fd ⟨[u],[]⟩ [(x,u)])/\
    ∀ base:Heap,(K w.params).In base->base.Ns mainGlobals mg->D3 l.prog w (K w.params) mg base (CX w) k fa fd [x] (sp w))
  (FD:∀ (w:World) (H:Hp) (a:Addr) (ns:List Int),ns.length<=n->Sy H->AF (K w.params) H a (ns.map V.int)->sp w [.ref a] H (fun v _=>v=.bl true) fun _ _ _=>False)
  (Th:∀ (w:World) (H:Hp) (s:Shared) (e:Value) (s':Shared),CX w [] H s (fun _ _ _=>False) e s'->False) :
  PySem.W.WalkO q loose XP YP l.row.toRowW d [] (fun f vs=>PySem.call f vs):=by
 refine Z7.v9 hn NI fun w s₀ s₁ mg mb fa o pm cd doc a vs ns G Y ho hd G9 NZ Uq hints hlen hg=>?_;have KX:=hY w _ Y;obtain ⟨fd,hb,hF⟩:=F w mg fa _ KX G.T.g NZ;exact uc KX G.T.g G.T.b G.T.builtins G.T.nolimit hg Uq hints (Ci hlen OU) hr hF hb (fun H hO hS=>FD w H a ns hlen hO hS) fun H e s'=>Th w H s₁ e s'
def Mb (s:Stmt):Arguments:=match s with
 | .FunctionDef _ a _ _ _ _ _ _ _ _=>a
 | _=>{ posonlyargs:=[],args:=[],vararg:=none,kwonlyargs:=[],kw_defaults:=[],kwarg:=none,defaults:=[] }
def JR (s:Stmt):List Stmt:=match s with
 | .FunctionDef _ _ b _ _ _ _ _ _ _=>b
 | _=>[]
def AY (s:Stmt):Scope:=match s with
 | .FunctionDef _ _ _ _ _ _ sc _ _ _=>sc
 | _=>{ kind:=.function,names:=[],isGenerator:=false,isCoroutine:=false }
abbrev Ez:FR:=fun _ _ _ _ _ _=>False
abbrev E0:XK:=fun _ _ _=>False
theorem Ph:Passes Ez X E0:=fun _ _ _ _ _ _ _ h=>h.elim
structure AH (K:ZE5) (x qual:Str) (st:Stmt) (f:Addr) (fd:FuncData):Prop where
 ex:∃ (oc:Value) (od:Option Addr) (kV doc pm:Value) (an:Option Addr) (AU ct:Value) (Ft:Array (Option Value)),
  fd=PySem.W.fnOf x qual (Mb st) (JR st) (AY st) .none kV doc pm an AU ct/\K.lookup f=some ⟨oc,od,.func fd,Ft⟩/\PySem.W.codeIn K AU qual=true
 kp:PySem.W.keepIn K (.ref f)=true
section
variable {P:Program}{K:ZE5}{base:Heap}
theorem AH.ok {st:Stmt}{N:List Str}{k:Nat}(F:AH K x qual st f fd)(S:Ap N ps (AY st))(len:∀ vs H Q E,sp vs H Q E->vs.length=ps.length)
  (NU:∀ (AU:Value) (A:Around) (outer:List Env) (s:Shared) (H:Hp) (vs:List V) (Q:VK) (E:XK),Bd k (A.deeper (envOfC qual (AY st) s.heap.objs.size f AU))->sp vs H Q E->
   ∃ t,Dq (JK Ez P w K mg base N qual (AY st) f AU A outer s H E).Ls (JR st) t/\t { nx:=fun _ H'=>Q .AB H',rt:=Q } (start N vs) H):D3 P w K mg base Ez (k+1) f fd ps sp:=by
 obtain ⟨oc,od,kV,doc,pm,an,AU,ct,Ft,rfl,lk,G9⟩:=F.ex;refine kL lk G9 S len fun A outer s H vs Q E hr FD=>?_;obtain ⟨t,h,q⟩:=NU AU A outer s H vs Q E hr FD;exact ⟨t,h.Ls,q⟩
theorem AH.binds {st:Stmt}(F:AH K x qual st f fd)
  (h:∀ (kV doc pm:Value) (an:Option Addr) (AU ct:Value) (us:List Value),us.length=ps.length->bindArgs (PySem.W.fnOf x qual (Mb st) (JR st) (AY st) .none kV doc pm an AU ct) ⟨us,[]⟩=pure (ps.zip us)):Binds K fd ps []:=by
 obtain ⟨oc,od,kV,doc,pm,an,AU,ct,Ft,rfl,lk,G9⟩:=F.ex;exact .all (h kV doc pm an AU ct)
theorem lg {st:Stmt}{oc:Value}{od an:Option Addr}{Ft:Array (Option Value)}{kV doc pm AU ct:Value}(l:K.lookup f=some ⟨oc,od,.func (PySem.W.fnOf x qual (Mb st) (JR st) (AY st) .none kV doc pm an AU ct),Ft⟩)
  (c:PySem.W.codeIn K AU qual=true) (k:PySem.W.keepIn K (.ref f)=true):AH K x qual st f (PySem.W.fnOf x qual (Mb st) (JR st) (AY st) .none kV doc pm an AU ct):=⟨⟨oc,od,kV,doc,pm,an,AU,ct,Ft,rfl,l,c⟩,k⟩
end
theorem Bb {A:Around}{k:Nat}(hr:Bd k A):A.units+1<cLine:=Hu (Nat.add_le_add_left (by decide:1<=64) _) hr.units
theorem Ee (h:B):if false=true then A else B:=by
 rw [jG DJ];exact h
theorem NY (h:A):if true=true then A else B:=by
 rw [jd rfl];exact h
theorem B2 [Decidable c](h1:c->A)(h2:¬ c->B):if c then A else B:=by
 by_cases h:c
 ·rw [jd h];exact h1 h
 ·rw [jG h];exact h2 h
theorem P7 [Decidable c](hc:c)(h:B):if (!decide c)=true then A else B:=by
 rw [jO hc];exact Ee h
def A7 (H H':Hp):Prop:=∀ b o,H b=some o->H' b=some o
theorem A7.refl (H:Hp):A7 H H:=fun _ _ h=>h
theorem A7.trans {H H1 H2:Hp}(a:A7 H H1)(b:A7 H1 H2):A7 H H2:=fun c o h=>b c o (a c o h)
theorem A7.seq {K:ZE5}{H H':Hp}{xs:List V}(e:A7 H H')(h:AF K H a xs):AF K H' a xs:=by
 rcases h with (h | ⟨o,h⟩) | h
 ·exact .inl (.inl (e _ _ h))
 ·exact .inl (.inr ⟨o,e _ _ h⟩)
 ·exact .inr h
end L2
set_option maxHeartbeats 4000000
namespace L2
variable {α κ:Type}{A3:List (List Key×V)}{o:Option V}{u:Value}{v y:V}{w:World}{H H' H1 H2 H4:Hp}{xs:List (List Key×Addr×Value)}{C a acc b it n:Addr}{X Y:Cx}{pins:ZE6}{ws σ:St}{s s2 s4:Shared}{A:Around}{E Q:Value->Shared->Prop}{h' h1:Heap}{i j n0 t':Nat}{prog:Program}{env:Env}{c e elt tg value:Expr}{Hx pos px py:Pos}{td te tv:TE}{outer scope:Scope}{cl closure:List (Str×Addr)}{qual x z:Str}{ce:Option Str}{ifs:List Expr}{R:Result->Shared->Prop}{js:List Nat}{tt:TT}{J:It}{tn:Nat->Heap->Prop}{wi:TI}{CW:It->St->Hp->Addr->VK->Prop}{N:List Str}{tp:Bool}{ys:List V}{A4:List Value}
section
variable [DecidableEq κ]
def D7 (A3:List (κ×V))(k:κ):Option V:=(A3.find? fun kv=>decide (kv.1=k)).map (·.2)
def putK (A3:List (κ×V))(k:κ)(v:V):List (κ×V):=
 if (A3.any fun kv=>decide (kv.1=k))=true then A3.map (fun kv=>if kv.1=k then (kv.1,v) else kv) else A3++[(k,v)]
def Ir (A3:List (κ×V))(k:κ):List (κ×V):=A3.filter fun kv=>decide (kv.1≠k)
theorem LV {p:κ×V}{r:List (κ×V)}{k:κ}(e:p.1=k):D7 (p::r) k=some p.2:=by simp [D7,Nr,e]
theorem L9 {p:κ×V}{r:List (κ×V)}{k:κ}(e:¬ p.1=k):D7 (p::r) k=D7 r k:=by simp [D7,Nr,e]
theorem Qi (k:κ):∀ A3:List (κ×V),(A3.any fun kv=>decide (kv.1=k))=(D7 A3 k).isSome
 | []=>rfl
 | p::r=>by
  rw [Li]
  by_cases e:p.1=k
  ·simp only [LV e,jO e,Bool.true_or,ZD8]
  ·rw [L9 e,jx e,Bool.false_or];exact Qi k r
theorem Uv (A3:List (κ×V))(k:κ)(v:V):(putK A3 k v).length<=A3.length+1:=by
 unfold putK;split
 ·rw [Ab];omega
 ·rw [Bl,BN,Xr];omega
theorem T3 {A3:List (κ×V)}{k:κ}(v:V)(h:D7 A3 k=none):putK A3 k v=A3++[(k,v)]:=by
 unfold putK;rw [Qi,h];exact jG (by decide)
theorem Dx.Md {u:Option Value}(r:Dx o u):o.isSome=u.isSome:=by
 cases o with
 | none=>cases u with
  | none=>rfl
  | some _=>exact (show False from r).elim
 | some _=>cases u with
  | none=>exact (show False from r).elim
  | some _=>rfl
theorem KV.val {A3:List (κ×V)}{vs:List (κ×Value)}(r:KV A3 vs)(k:κ):Dx (D7 A3 k) (valueAt vs k):=by
 unfold KV at r
 induction r with
 | nil=>exact True.intro
 | @cons p q ps qs h t ih=>
  obtain ⟨h1,h2⟩:=h
  by_cases e:p.1=k
  ·have e':q.1=k:=h1.symm.trans e;have b:valueAt (q::qs) k=some q.2:=by simp [valueAt,Nr,e']
   rw [LV e,b];exact h2
  ·have e':¬ q.1=k:=fun z=>e (h1.trans z);have b:valueAt (q::qs) k=valueAt qs k:=by simp [valueAt,Nr,e']
   rw [L9 e,b];exact ih
theorem KV.any {A3:List (κ×V)}{vs:List (κ×Value)}(r:KV A3 vs)(k:κ):(A3.any fun kv=>decide (kv.1=k))=vs.any fun kv=>decide (kv.1=k):=by
 unfold KV at r
 induction r with
 | nil=>rfl
 | cons h t ih=>rw [Li,Li,ih,h.1]
theorem KV.UG {A3:List (κ×V)}{vs:List (κ×Value)}(r:KV A3 vs)(k:κ)(ry:RelV y u):
  KV (A3.map fun kv=>if kv.1=k then (kv.1,y) else kv) (vs.map fun kv=>if kv.1=k then (kv.1,u) else kv):=by
 unfold KV at r ⊢
 induction r with
 | nil=>exact .nil
 | @cons p q ps qs h t ih=>
  rw [Bs,Bs];refine .cons ?_ ih;obtain ⟨h1,h2⟩:=h
  by_cases e:p.1=k
  ·rw [jd e,jd (h1.symm.trans e)];exact ⟨h1,ry⟩
  ·rw [jG e,jG (fun z=>e (h1.trans z))];exact ⟨h1,h2⟩
theorem KV.put {A3:List (κ×V)}{vs:List (κ×Value)}(r:KV A3 vs)(k:κ)(ry:RelV y u):KV (putK A3 k y) (stored vs k u):=by
 unfold putK stored;rw [r.any k]
 by_cases e:(vs.any fun kv=>decide (kv.1=k))=true
 ·rw [jd e,jd e];exact r.UG k ry
 ·rw [jG e,jG e];exact Paired.snoc r ⟨rfl,ry⟩
theorem KV.drop {A3:List (κ×V)}{vs:List (κ×Value)}(r:KV A3 vs)(k:κ):KV (Ir A3 k) (without vs k):=by
 unfold KV at r ⊢;unfold Ir without
 induction r with
 | nil=>exact .nil
 | @cons p q ps qs h t ih=>
  obtain ⟨h1,h2⟩:=h;rw [Xo,Xo]
  by_cases e:p.1=k
  ·have a:¬ decide (p.1≠k)=true:=by simp [e]
   have b:¬ decide (q.1≠k)=true:=by simp [h1.symm.trans e]
   rw [jG a,jG b];exact ih
  ·have e':¬ q.1=k:=fun z=>e (h1.trans z);have a:decide (p.1≠k)=true:=by simp [e]
   have b:decide (q.1≠k)=true:=by simp [e']
   rw [jd a,jd b];exact .cons ⟨h1,h2⟩ ih
theorem KV.keys {A3:List (κ×V)}{vs:List (κ×Value)}(r:KV A3 vs):A3.map (·.1)=vs.map (·.1):=by
 unfold KV at r
 induction r with
 | nil=>rfl
 | cons h t ih=>rw [Bs,Bs,ih,h.1]
theorem KV.length {A3:List (κ×V)}{vs:List (κ×Value)}(r:KV A3 vs):A3.length=vs.length:=ir r
theorem yI (A3:List (κ×V))(k:κ):(Ir A3 k).length<=A3.length:=Ll _ _
end
theorem KC {P:Program}{k:Key}(r:RelV (kV k) u):(Bo P w).is k u=true:=by
 cases k with
 | inl i=>obtain ⟨t,e⟩:=(show ∃ t,u=Value.int i t from r);subst e;exact tI P w i t
 | inr x=>obtain ⟨t,e⟩:=(show ∃ t,u=Value.str x t from r);subst e;exact uD P w x t
theorem ZK {P:Program}{w:World}:∀ {ks:List Key}{us:List Value},Vals (ks.map kV) us->ItemsAre (Bo P w) ks us
 | [],_,r=>by rw [ic] at r;cases r;exact .nil
 | k::ks,_,r=>by
  rw [Bs] at r;cases r with
  | cons h t=>exact .cons (KC h) (ZK t)
abbrev KT (H:Hp):List (List Key×V)->List (List Key×Addr×Value)->Prop:=Paired fun p q=>p.1=q.1/\H q.2.1=some (.tup (p.1.map kV))/\RelV p.2 q.2.2
theorem KT.val (r:KT H A3 xs)(k:List Key):Dx (D7 A3 k) ((atKey xs k).map (·.2)):=by
 induction r with
 | nil=>exact True.intro
 | @cons p q ps qs h t ih=>
  obtain ⟨h1,_,h2⟩:=h
  by_cases e:p.1=k
  ·have e':q.1=k:=h1.symm.trans e;have b:atKey (q::qs) k=some q.2:=by simp [atKey,Nr,e']
   rw [LV e,b];exact h2
  ·have e':¬ q.1=k:=fun z=>e (h1.trans z);have b:atKey (q::qs) k=atKey qs k:=by simp [atKey,Nr,e']
   rw [L9 e,b];exact ih
theorem KT.UG (r:KT H A3 xs)(k:List Key)(ry:RelV y u):
  KT H (A3.map fun kv=>if kv.1=k then (kv.1,y) else kv) (xs.map (putAt k u)):=by
 induction r with
 | nil=>exact .nil
 | @cons p q ps qs h t ih=>
  rw [Bs,Bs];refine .cons ?_ ih;obtain ⟨h1,h2,h3⟩:=h;unfold putAt
  by_cases e:p.1=k
  ·rw [jd e,jd (h1.symm.trans e)];exact ⟨h1,h2,ry⟩
  ·rw [jG e,jG (fun z=>e (h1.trans z))];exact ⟨h1,h2,h3⟩
theorem KT.put (r:KT H A3 xs)(k:List Key)(hb:H b=some (.tup (k.map kV)))(ry:RelV y u):
  KT H (putK A3 k y) (storedH xs k b u):=by
 have e:(A3.any fun kv=>decide (kv.1=k))=(atKey xs k).isSome:=by
  rw [Qi,(r.val k).Md,Y4]
 unfold putK storedH;rw [e]
 by_cases q:(atKey xs k).isSome=true
 ·rw [jd q,jd q];exact r.UG k ry
 ·rw [jG q,jG q];exact Paired.snoc r ⟨rfl,hb,ry⟩
theorem KT.keeps (r:KT H A3 xs)(ht:∀ b ys,H b=some (.tup ys)->H' b=some (.tup ys)):KT H' A3 xs:=
 Paired.Vw r fun _ _ z=>⟨z.1,ht _ _ z.2.1,z.2.2⟩
section
variable {P:Program}{h:Heap}
theorem aV {u:HO}(ok:Bp P w H h)(e:Rd H a u):Bm P w H h a u:=e.ok ok
theorem Gp {A3:List (Key×V)}(ok:Bp P w H h)(e:Rd H a (.dK A3)):A3.length<=sizeLine/\(a == sysModules)=false/\∃ vs,KV A3 vs/\h.DictOf (Bo P w) a vs:=
 show Bm P w H h a (.dK A3) from aV ok e
theorem Sz {A3:List (Key×V)}(ok:Bp P w H h)(e:H a=some (.dK A3)):A3.length<=sizeLine/\(a == sysModules)=false/\∃ vs,KV A3 vs/\h.DictOf (Bo P w) a vs:=Gp ok (.inl e)
theorem MQ {ks:List Key}(ok:Bp P w H h)(e:H a=some (.tup (ks.map kV))):(tupleKind (Bo P w)).is h ks a:=by
 obtain ⟨_,A4,r,⟨o,h1,h2,n,h3⟩,_⟩:=(show Bm P w H h a (.tup (ks.map kV)) from ok a _ e);exact ⟨o,A4.toArray,n,h1,h2,h3,by simpa using ZK r⟩
theorem Kr (ok:Bp P w H h)(e:Rd H a (.dT A3)):A3.length<=sizeLine/\(a == sysModules)=false/\
  ∃ xs,KT H A3 xs/\h.DictOfH (tupleKind (Bo P w)) a xs:=by
 obtain ⟨z,y,xs,r,o,es,ep,h1,h2,h3,h4,h5⟩:=(show Bm P w H h a (.dT A3) from aV ok e);refine ⟨z,y,xs,r,o,es,ep,h1,h2,h3,h4,fun x hx=>?_,h5⟩;have all:∀ {l:List (List Key×V)}{m:List (List Key×Addr×Value)},KT H l m->∀ x∈m,(tupleKind (Bo P w)).is h x.1 x.2.1:=by
  intro l m q
  induction q with
  | nil=>intro x hx;exact nomatch hx
  | @cons p q ps qs hq t ih=>
   intro x hx;rcases List.mem_cons.mp hx with e | hx
   ·subst e;exact MQ ok (by rw [<- hq.1];exact hq.2.1)
   ·exact ih x hx
 exact all r x hx
theorem wa (ok:Bp P w H h)(e:H a=some (.dT A3)):A3.length<=sizeLine/\(a == sysModules)=false/\
  ∃ xs,KT H A3 xs/\h.DictOfH (tupleKind (Bo P w)) a xs:=Kr ok (.inl e)
end
def Eg (H:Hp)(a:Addr)(y:V)(r:Option V):Prop:=
 (∃ A3 k,Rd H a (.dK A3)/\y=kV k/\r=D7 A3 k)∨∃ A3 k b,Rd H a (.dT A3)/\y=.ref b/\H b=some (.tup (k.map kV))/\r=D7 A3 k
def Ly (H:Hp)(a:Addr)(y v:V)(H':Hp):Prop:=
 (∃ A3 k,H a=some (.dK A3)/\y=kV k/\A3.length<sizeLine/\H'=upd H a (.dK (putK A3 k v)))∨
 ∃ A3 k b,H a=some (.dT A3)/\y=.ref b/\H b=some (.tup (k.map kV))/\A3.length<sizeLine/\H'=upd H a (.dT (putK A3 k v))
theorem Eg.k {A3:List (Key×V)}{k:Key}(e:H a=some (.dK A3)):Eg H a (kV k) (D7 A3 k):=.inl ⟨A3,k,.inl e,rfl,rfl⟩
theorem Ly.k {A3:List (Key×V)}{k:Key}(e:H a=some (.dK A3))(hl:A3.length<sizeLine):Ly H a (kV k) v (upd H a (.dK (putK A3 k v))):=.inl ⟨A3,k,e,rfl,hl,rfl⟩
section
variable {r:Value}
theorem Inv.big (I:Inv X pins σ H s):sysModules<s.heap.objs.size:=by
 have h:mainGlobals<s.heap.objs.size:=(I.mod.glob.keeps I.bk).lt;exact Nat.lt_trans (by decide) h
theorem uq (hu:A.units+1<cLine)(I:Inv X pins σ H s)(g:Eg H a y (some v))(ry:RelV y u)(h:∀ w' s',Inv X pins σ H s'->RelV v w'->Q w' s'):
  wpAny (model X.prog X.w) A (getItem (.ref a) u) Q E s:=by
 rcases g with ⟨A3,k,e,ey,l⟩ | ⟨A3,k,b,e,ey,eb,l⟩
 ·subst ey;obtain ⟨z,hd,vs,rel,dd⟩:=Gp I.AL e;obtain ⟨w',hw,Es⟩:=Dx.some_of (v:=v) (o:=valueAt vs k) (by rw [l];exact rel.val k);exact wpAny_getItem_of (KC ry) dd.mapOf hw (h w' _ (I.tok _) Es)
 ·subst ey;cases (show u=Value.ref b from ry);obtain ⟨z,hd,xs,rel,dd⟩:=Kr I.AL e;obtain ⟨w',hw,Es⟩:=Dx.some_of (v:=v) (o:=(atKey xs k).map (·.2)) (by rw [l];exact rel.val k)
  obtain ⟨p,hp,O9⟩:=Option.map_eq_some_iff.mp hw;refine wpAny_getItem_heap (uO hu) (MQ I.AL eb) dd hp ?_;rw [O9];exact h w' _ (I.tok _) Es
theorem u5 (hu:A.units+1<cLine)(I:Inv X pins σ H s)(g:Eg H a y o)(ry:RelV y u)(h:∀ s',Inv X pins σ H s'->Q (.bool o.isSome) s'):
  wpAny (model X.prog X.w) A (compareOp .In u (.ref a)) Q E s:=by
 rcases g with ⟨A3,k,e,ey,l⟩ | ⟨A3,k,b,e,ey,eb,l⟩
 ·subst ey;obtain ⟨z,hd,vs,rel,dd⟩:=Gp I.AL e;refine wpAny_in_of (KC ry) hd dd.mapOf ?_;rw [<- (rel.val k).Md,<- l];exact h _ (I.tok _)
 ·subst ey;cases (show u=Value.ref b from ry);obtain ⟨z,hd,xs,rel,dd⟩:=Kr I.AL e;refine wpAny_in_heap (uO hu) (MQ I.AL eb) hd dd ?_;have q:=(rel.val k).Md;rw [Y4] at q;rw [<- q,<- l];exact h _ (I.tok _)
theorem pK (hu:A.units+1<cLine)(I:Inv X pins σ H s)(g:Eg H a y o)(ry:RelV y u)(h:∀ s',Inv X pins σ H s'->Q (.bool (!o.isSome)) s'):
  wpAny (model X.prog X.w) A (compareOp .NotIn u (.ref a)) Q E s:=by
 rcases g with ⟨A3,k,e,ey,l⟩ | ⟨A3,k,b,e,ey,eb,l⟩
 ·subst ey;obtain ⟨z,hd,vs,rel,dd⟩:=Gp I.AL e;refine wpAny_notIn_of (KC ry) hd dd.mapOf ?_;rw [<- (rel.val k).Md,<- l];exact h _ (I.tok _)
 ·subst ey;cases (show u=Value.ref b from ry);obtain ⟨z,hd,xs,rel,dd⟩:=Kr I.AL e;refine wpAny_notIn_heap (uO hu) (MQ I.AL eb) hd dd ?_;have q:=(rel.val k).Md;rw [Y4] at q;rw [<- q,<- l];exact h _ (I.tok _)
theorem O6 {ob:HO}(I:Inv X pins σ H s)(mu:N6 (H a))(hs:Heap.SameBut a s.heap h')(he:∃ q,h'.get? a=some q)(new:Bm X.prog X.w (upd H a ob) h' a ob):
  Inv X pins σ (upd H a ob) { s with heap:=h',toks:=t' }:=
 I.write (x:=a) (e:=a) mu (.inl rfl) (fun b q hb z=>(hs.2 b hb).trans z) he new
theorem Ue {P:Program}{A3:List (Key×V)}{vs:List (Key×Value)}(z:A3.length<=sizeLine)(hd:(a == sysModules)=false)(rel:KV A3 vs)(dd:h'.DictOf (Bo P w) a vs):
  Bm P w H' h' a (.dK A3):=⟨z,hd,vs,rel,dd⟩
theorem sW {Q:Unit->Shared->Prop}(hu:A.units+1<cLine)(I:Inv X pins σ H s)(g:Ly H a y v H')(ry:RelV y u)(rv:RelV v r)(h:∀ s',Inv X pins σ H' s'->Q () s'):
  wpAny (model X.prog X.w) A (setItem (.ref a) u r) Q E s:=by
 rcases g with ⟨A3,k,e,ey,l,eH⟩ | ⟨A3,k,b,e,ey,eb,l,eH⟩
 ·subst ey eH;obtain ⟨z,hd,vs,rel,dd⟩:=Sz I.AL e;have hz:vs.length<=sizeLine:=by rw [<- rel.length];exact z
  have hl:(putK A3 k v).length<=sizeLine:=by have:=Uv A3 k v;omega
  refine wpAny_setItem_pairs (hsz:=hz) (KC ry) dd fun h' Gq hs=>h _ ?_;have he:∃ q,h'.get? a=some q:=let ⟨q,_,_,hq,_⟩:=Gq;⟨q,hq⟩;exact O6 I (by rw [e];exact True.intro) hs he (Ue hl hd (rel.put k rv) Gq)
 ·subst ey eH;cases (show u=Value.ref b from ry);obtain ⟨z,hd,xs,rel,dd⟩:=wa I.AL e;have hz:xs.length<=sizeLine:=by rw [<- ir rel];exact z
  have hl:(putK A3 k v).length<=sizeLine:=by have:=Uv A3 k v;omega
  refine wpAny_setItem_heap (hsz:=hz) (uO hu) (MQ I.AL eb) dd fun h' Gq hs=>h _ ?_;obtain ⟨q,es,ep,hq,h2,h3,h4,_,h5⟩:=Gq;refine O6 I (by rw [e];exact True.intro) hs ⟨q,hq⟩ ⟨hl,hd,_,(rel.put k eb rv).keeps fun c ys ec=>?_,q,es,ep,hq,h2,h3,h4,h5⟩;rw [AX (nZ ec e (fun z=>nomatch z))];exact ec
variable {A3:List (Key×V)}{k:Key}
theorem nP {more:List Value}(I:Inv X pins σ H s)(e:H a=some (.dK A3))(ry:RelV (kV k) u)(l:D7 A3 k=some v)(hm:more=[]∨∃ x,more=[x])
  (h:∀ w' s',Inv X pins σ (upd H a (.dK (Ir A3 k))) s'->RelV v w'->Q w' s'):wpAny (model X.prog X.w) A (call (.builtin "dict.pop") (.ref a::u::more)) Q E s:=by
 obtain ⟨z,hd,vs,rel,dd⟩:=Sz I.AL e;obtain ⟨w',hw,Es⟩:=Dx.some_of (v:=v) (o:=valueAt vs k) (by rw [<- l];exact rel.val k);have hp:(keyPart u).isSome=true:=by
  cases k with
  | inl i=>obtain ⟨t,q⟩:=(show ∃ t,u=Value.int i t from ry);subst q;rfl
  | inr x=>obtain ⟨t,q⟩:=(show ∃ t,u=Value.str x t from ry);subst q;rfl
 have ha:argsOk "dict.pop" ⟨.ref a::u::more,[]⟩:=by
  rcases hm with q | ⟨x,q⟩
  ·subst q;exact PySem.F.args_dict_pop_2 _ _
  ·subst q;exact PySem.F.args_dict_pop_3 _ _ _
 refine call_meetsIn ZDB dd.typeIs PySem.F.entry_dict_pop ha (meets_dict_pop_there (Bo X.prog X.w) a (KC ry) more hm hp)
  ⟨vs,w',dd,by rw [<- rel.length];exact z,hw,fun h' Gq hs=>h w' _ ?_ Es⟩
 have he:∃ q,h'.get? a=some q:=let ⟨q,_,_,hq,_⟩:=Gq;⟨q,hq⟩;exact O6 I (by rw [e];exact True.intro) hs he (Ue (Ci (yI A3 k) z) hd (rel.drop k) Gq)
theorem ZAD (I:Inv X pins σ H s)(e:Rd H a (.dK A3))(h:∀ t s',Inv X pins σ H s'->Q (.int A3.length t) s'):wpAny (model X.prog X.w) A (call (.builtin "len") [.ref a]) Q E s:=by
 obtain ⟨z,hd,vs,rel,dd⟩:=Gp I.AL e;refine call_len_dict hd dd (by rw [<- rel.length];rw [ZA4] at z;omega) ?_;rw [<- rel.length];exact h _ _ (I.tok _)
end
def WU (i:Expr):Prop:=∀ ov iv,subscripted i false ov iv=operate [ov,iv] (getItem ov iv)
theorem rU {slice:Expr}{T id:String}
  (hl:typeLookup (.type T) "__getitem__"=pure (some (.builtin id))) (hs:WU slice)
  (h:wpAny (model prog w) A (eval value env) (fun o s₁=>wpAny (model prog w) A (eval slice env) (fun i s₂=>s₂.TypeIs o T/\wpAny (model prog w) A (getItem o i) Q E s₂) E s₁) E s) :
  wpAny (model prog w) A (eval (.Subscript value slice pos) env) Q E s:=by
 refine Subscript_ (kg h (fun o s₁ h₁=>kg h₁ (fun i s₂ h₂=>?_) fun _ _ x=>x) fun _ _ x=>x);obtain ⟨hT,h₂⟩:=h₂;unfold subscriptTail;refine j7 ?_;rw [getitemInPython_of_ne hT.not_modules];refine j7 (qg hT hl ?_);have fin:wpAny (model prog w) A (subscripted slice false o i) (fun r s₃=>wpAny (model prog w) A (letTemporaryGo value o r >>= fun _=>pure r) Q E s₃) E s₂:=by
  rw [hs o i];exact wpAny_operating (kg h₂ (fun r s₃ h₃=>j7 (wpAny_letTemporaryGo (j9 h₃))) fun _ _ x=>x)
 first
  | exact j9 (j7 fin)
  | exact j7 (j9 (j7 fin))
  | exact j7 fin
theorem pO (I:Inv X pins σ H s)(g:Eg H a y o):s.TypeIs (.ref a) "dict" := by
 rcases g with ⟨A3,k,e,_,_⟩ | ⟨A3,k,b,e,_,_,_⟩
 ·obtain ⟨_,_,vs,_,dd⟩:=Gp I.AL e;exact dd.typeIs
 ·obtain ⟨_,_,xs,_,dd⟩:=Kr I.AL e;exact dd.typeIs
def Fy (td ty:TE):TE:=fun σ H Q=>td σ H fun x H1=>ty σ H1 fun y H2=>∃ a v,x=.ref a/\Eg H2 a y (some v)/\Q v H2
def WK (ty td:TE):TE:=fun σ H Q=>ty σ H fun y H1=>td σ H1 fun x H2=>∃ a o,x=.ref a/\Eg H2 a y o/\Q (.bl o.isSome) H2
def W4 (ty td:TE):TE:=fun σ H Q=>ty σ H fun y H1=>td σ H1 fun x H2=>∃ a o,x=.ref a/\Eg H2 a y o/\Q (.bl (!o.isSome)) H2
def XU (td ty tv:TE):TS:=fun D σ H=>tv σ H fun v H1=>td σ H1 fun x H2=>ty σ H2 fun y H3=>∃ a H4,x=.ref a/\Ly H3 a y v H4/\D.nx σ H4
section
variable {o i:Expr}{pos' S6:Pos}{ty:TE}
theorem xF (hu:X.A.units+1<cLine)(hi:PE X i ty)(ho:PE X o td):PC X .In i o (WK ty td):=by
 intro pins s σ H Q I h;refine AO (hi pins s σ H _ I h) fun iv s1 ⟨y,H1,I1,ry,q1⟩=>AO (ho pins s1 σ H1 _ I1 q1) fun u s2 ⟨x,H2,I2,rx,a,ov,ex,g,q2⟩=>?_;subst ex;obtain rfl:u=Value.ref a:=rx;exact u5 hu I2 g ry fun s3 I3=>⟨.bl ov.isSome,H2,I3,rfl,q2⟩
theorem ou (hu:X.A.units+1<cLine)(hi:PE X i ty)(ho:PE X o td):PC X .NotIn i o (W4 ty td):=by
 intro pins s σ H Q I h;refine AO (hi pins s σ H _ I h) fun iv s1 ⟨y,H1,I1,ry,q1⟩=>AO (ho pins s1 σ H1 _ I1 q1) fun u s2 ⟨x,H2,I2,rx,a,ov,ex,g,q2⟩=>?_;subst ex;obtain rfl:u=Value.ref a:=rx;exact pK hu I2 g ry fun s3 I3=>⟨.bl (!ov.isSome),H2,I3,rfl,q2⟩
end
theorem fu {P:Program}(h:Heap)(hb:sysModules<h.objs.size):Bm P w H (h.push { cls:=.type "dict", data:=.dict #[] }) h.objs.size (.dK []):=
 ⟨C2 _,beq_eq_false_iff_ne.mpr (BS (BK hb)),[],.nil,Heap.DictOf.new h⟩
def RZ:TE:=fun _ H Q=>∀ p,H p=none->Q (.ref p) (upd H p (.dK []))
def X7:List (TE×TE)->St->Hp->(List (V×V)->Hp->Prop)->Prop
 | [],_,H,Q=>Q [] H
 | (tk,tv)::r,σ,H,Q=>tk σ H fun x H1=>tv σ H1 fun y H2=>X7 r σ H2 fun ps H3=>Q ((x,y)::ps) H3
abbrev VV:List (V×V)->List (Value×Value)->Prop:=Paired fun p q=>RelV p.1 q.1/\RelV p.2 q.2
def Iv (X:Cx)(pos:Pos)(keys:List (Option Expr))(values:List Expr)(ER:List (TE×TE)):Prop:=
 ∀ (pins:ZE6) (s:Shared) (σ:St) (H:Hp) (Q:List (V×V)->Hp->Prop),Inv X pins σ H s->X7 ER σ H Q->
  wpAny (model X.prog X.w) X.A (evalPairs (pairTrees keys values X.env pos)) (fun vs s'=>∃ ps H',Inv X pins σ H' s'/\VV ps vs/\Q ps H') X.xe s
theorem ZAo:Iv X pos [] [] []:=fun pins s σ H Q I h=>pairTrees_nil_walk ⟨[],H,I,.nil,h⟩
theorem m8 {k v:Expr}{ks:List (Option Expr)}{vs:List Expr}{tk:TE}{ER:List (TE×TE)}(hk:PE X k tk)(hv:PE X v tv)(hr:Iv X pos ks vs ER):
  Iv X pos (some k::ks) (v::vs) ((tk,tv)::ER):=fun pins s σ H Q I h=>
 pairTrees_cons_walk (AO (hk pins s σ H _ I h) fun u s1 ⟨x,H1,I1,rx,q1⟩=>AO (hv pins s1 σ H1 _ I1 q1) fun w2 s2 ⟨y,H2,I2,ry,q2⟩=>
  AO (hr pins s2 σ H2 _ I2 q2) fun ws s3 ⟨ps,H3,I3,rel,q3⟩=>⟨(x,y)::ps,H3,I3,.cons ⟨rx,ry⟩ rel,q3⟩)
def Ik (A3 more:List (Key×V)):List (Key×V):=more.foldl (fun acc kv=>putK acc kv.1 kv.2) A3
theorem KV.merge:∀ {more:List (Key×V)}{rs:List (Key×Value)}{A3:List (Key×V)}{vs:List (Key×Value)},KV more rs->KV A3 vs->KV (Ik A3 more) (merged vs rs):=by
 intro more rs A3 vs r;unfold KV at r
 induction r generalizing A3 vs with
 | nil=>intro q;exact q
 | @cons p q ps qs h t ih=>
  intro r0;have e:KV (putK A3 p.1 p.2) (stored vs q.1 q.2):=by
   have:=r0.put p.1 h.2;rw [<- h.1];exact this
  exact ih e
theorem d7:∀ (more A3:List (Key×V)),(Ik A3 more).length<=A3.length+more.length
 | [],A3=>by show A3.length<=A3.length+0;omega
 | p::r,A3=>by
  have h1:=d7 r (putK A3 p.1 p.2);have h2:=Uv A3 p.1 p.2;show (Ik (putK A3 p.1 p.2) r).length<=_;rw [BN];omega
theorem ZX {P:Program}{w:World}:∀ {A3:List (Key×V)}{ws:List (Value×Value)},VV (A3.map fun kv=>(kV kv.1,kv.2)) ws->∃ rs,Carries (Bo P w) ws rs/\KV A3 rs
 | [],_,r=>by rw [ic] at r;cases r;exact ⟨[],True.intro,.nil⟩
 | p::A3,_,r=>by
  rw [Bs] at r;cases r with
  | @cons a b as bs h t=>
   obtain ⟨rs,c,q⟩:=ZX (P:=P) (w:=w) t;obtain ⟨b1,b2⟩:=b;exact ⟨(p.1,b2)::rs,⟨KC h.1,rfl,c⟩,.cons ⟨rfl,h.2⟩ q⟩
def V7 (ER:List (TE×TE)):TE:=fun σ H Q=>∀ p,H p=none->X7 ER σ (upd H p (.dK [])) fun ps H2=>H2 p=some (.dK [])/\∃ A3:List (Key×V),ps=A3.map (fun kv=>(kV kv.1,kv.2))/\A3.length<=15/\Q (.ref p) (upd H2 p (.dK (Ik [] A3)))
structure M1 (X:Cx) (o:Expr) (m:Str) (apos:Pos) (e:Expr) (Bv:Pos):Prop where
 base:attributeBase o m X.env (eval o X.env)=eval o X.env
 G6:((backTo Bv (starEach [e] X.env)).all (fun x=>!x.1) && (backToKw Bv (keywordEach [] X.env)).all (fun x=>x.1.isSome)
  && decide (([e]:List Expr).length+([]:List Keyword).length+(if ([]:List Keyword).isEmpty then 0 else 1)<30))=true
 line:(apos.endLine == Bv.line)=true
 trees:backTo Bv (starEach [e] X.env)=[(false,eval e X.env)]
def cb (H:Hp)(a:Addr):Prop:=(∃ A3,Rd H a (.dK A3))∨∃ A3,Rd H a (.dT A3)
theorem nc (I:Inv X pins σ H s)(d:cb H a):
  s.TypeIs (.ref a) "dict" /\ (∀ b,Value.ref a=.ref b->∃ ob,s.heap.get? b=some ob/\ob.dict=none)/\(a == sysModules)=false:=by
 rcases d with ⟨A3,e⟩ | ⟨A3,e⟩
 ·obtain ⟨_,hd,vs,_,dd⟩:=Gp I.AL e;refine ⟨dd.typeIs,fun b q=>?_,hd⟩;cases q;obtain ⟨ob,_,_,h1,h2,_⟩:=dd;exact ⟨ob,h1,h2.2.1⟩
 ·obtain ⟨_,hd,xs,_,dd⟩:=Kr I.AL e;refine ⟨dd.typeIs,fun b q=>?_,hd⟩;cases q;obtain ⟨ob,_,_,h1,h2,_⟩:=dd;exact ⟨ob,h1,h2.2.1⟩
def SI (td ty:TE):TE:=fun σ H Q=>td σ H fun x H1=>∃ a,x=.ref a/\cb H1 a/\ty σ H1 fun y H2=>∃ A3 k v,H2 a=some (.dK A3)/\y=kV k/\D7 A3 k=some v/\Q v (upd H2 a (.dK (Ir A3 k)))
theorem pF {β:Type}{l:List α}{f:α->β->Sem (ForInStep β)}(g:β->α->β)(h:∀ x∈l,∀ c,f x c=pure (.yield (g c x))):∀ c,forIn l c f=pure (l.foldl g c):=by
 induction l with
 | nil=>intro c;rfl
 | cons x l ih=>
  intro c;rw [List.forIn_cons,h x Cu,pure_bind];exact ih (fun y hy=>h y (Di _ hy)) (g c x)
def JY (cells:List (Str×Addr))(cs:List (Str×Addr))(x:Str×NameKind):List (Str×Addr):=
 if x.2=.free then (x.1,(cells.lookup x.1).getD 0)::cs else cs
def CD (cells:List (Str×Addr))(names:List (Str×NameKind)):List (Str×Addr):=names.foldl (JY cells) []
theorem yk (h:∀ x∈scope.names,x.2=.free->(env.cells.lookup x.1).isSome=true):closureFor scope env=pure (CD env.cells scope.names):=by
 simp only [closureFor];rw [pF (JY env.cells) (fun x hx c=>by
  obtain ⟨n,k⟩:=x;unfold JY
  by_cases hk:k=NameKind.free
  ·subst hk;have q:=h _ hx rfl;obtain ⟨a,ha⟩:=Option.isSome_iff_exists.mp q;have FV:env.cells.lookup n=some a:=ha;have hc:cellOf env n=pure a:=by unfold cellOf;rw [FV]
   simp [hc,FV]
  ·have:(k == NameKind.free)=false:=by simpa using hk
   simp [this,hk])]
 rfl
theorem gN {cells:List (Str×Addr)}:∀ (names:List (Str×NameKind)) (acc:List (Str×Addr)),(∀ y∈names,y.2=.free->(cells.lookup y.1).isSome=true)->
  (∀ x c,acc.lookup x=some c->cells.lookup x=some c)->∀ x c,(names.foldl (JY cells) acc).lookup x=some c->cells.lookup x=some c
 | [],acc,_,ha,x,c,e=>ha x c e
 | (n,k)::r,acc,hs,ha,x,c,e=>by
  rw [Xp] at e;refine gN r _ (fun y hy=>hs y (Di _ hy)) (fun x c e=>?_) x c e;unfold JY at e
  by_cases hk:k=NameKind.free
  ·rw [jd hk] at e;have q:=hs _ Cu hk;obtain ⟨a,q⟩:=Option.isSome_iff_exists.mp q;have q':cells.lookup n=some a:=q;rw [GN] at e
   by_cases hx:x=n
   ·subst hx;simp only [lx,q',ZD7] at e;rw [q',<- e]
   ·have hb:(x == n)=false:=by simpa using hx
    rw [hb] at e;exact ha x c e
  ·rw [jG hk] at e;exact ha x c e
theorem Rm {cells:List (Str×Addr)}{x:Str}:∀ (names:List (Str×NameKind)) (acc:List (Str×Addr)),((acc.lookup x).isSome=true∨(x,NameKind.free)∈names)->
  ((names.foldl (JY cells) acc).lookup x).isSome=true
 | [],acc,h=>by
  rcases h with h | h
  ·exact h
  ·cases h
 | (n,k)::r,acc,h=>by
  rw [Xp];refine Rm r _ ?_;unfold JY;rcases h with h | h
  ·refine .inl ?_;split
   ·rw [GN];split
    ·rfl
    ·exact h
   ·exact h
  ·rcases List.mem_cons.mp h with e | h
   ·cases e;refine .inl ?_;rw [jd rfl,GN];simp
   ·exact .inr h
theorem O7 {env:Env}:∀ (names:List (Str×NameKind)) (x:Str),
  (names.map fun (n,k)=>if (k == NameKind.free && env.scope.kind == .function && env.kindOf n == some .cell) then (n,NameKind.cell) else (n,k)).lookup x =
   (names.lookup x).map fun k=>if (k == NameKind.free && env.scope.kind == .function && env.kindOf x == some .cell) then NameKind.cell else k
 | [],x=>rfl
 | (n,k)::r,x=>by
  have ih:=O7 (env:=env) r x;rw [Bs]
  by_cases hc:(k == NameKind.free && env.scope.kind == .function && env.kindOf n == some .cell)=true
  ·show List.lookup x ((if (k == NameKind.free && env.scope.kind == .function && env.kindOf n == some .cell)=true then (n,NameKind.cell) else (n,k))::_)=_
   rw [jd hc,GN,GN]
   by_cases hx:x=n
   ·subst hx;simp only [lx,RL];rw [jd hc]
   ·have hb:(x == n)=false:=by simpa using hx
    rw [hb];exact ih
  ·show List.lookup x ((if (k == NameKind.free && env.scope.kind == .function && env.kindOf n == some .cell)=true then (n,NameKind.cell) else (n,k))::_)=_
   rw [jG hc,GN,GN]
   by_cases hx:x=n
   ·subst hx;simp only [lx,RL];rw [jG hc]
   ·have hb:(x == n)=false:=by simpa using hx
    rw [hb];exact ih
abbrev J1 (X:Cx)(N:List Str)(scope:Scope)(cl:List (Str×Addr))(C:Addr)(s:Shared)(H:Hp)(fp:List Addr):Cx:=
 { X with N:=N,s₀:=s,H₀:=H,env:=compEnvC scope cl C X.env,outer:=X.stack,ex:=fp,fn:=fun _=>false,pn:=[],xe:=fun _ _=>False }
def BZ (js:List Nat)(σ:St):St:=js.map fun j=>(σ[j]?).join
structure DV (N:List Str) (outer scope:Scope) (x:Str) (Af:List Str) (js:List Nat):Prop where
 kind:scope.kind=.function
 Nh:∀ y∈scope.names,y.2≠.cell
 loc:∀ y∈scope.names,y.2=.local->scope.names.lookup y.1=some .local
 bB:scope.names.lookup x=some .local
 at':js.map (fun j=>N[j]?)=Af.map some
 cell:∀ y∈Af,outer.names.lookup y=some .cell
 free:∀ y∈Af,scope.names.lookup y=some .free
 all:∀ y∈scope.names,y.2=.free->outer.names.lookup y.1=some .cell
 nd:(Af++[x]).Nodup
def HR (X:Cx)(ifs:List Expr)(t:TT):Prop:=
 ∀ (pins:ZE6) (s:Shared) (σ:St) (H:Hp) (Q:Bool->Hp->Prop),Inv X pins σ H s->t σ H Q->
  wpAny (model X.prog X.w) X.A (forIn ifs true fun c r=>if r=true then do let ok <- isTrue c X.env (eval c X.env);pure (ForInStep.yield ok) else pure (ForInStep.yield r)) (TP X pins σ Q) X.xe s
def J6:TT:=fun _ H Q=>Q true H
theorem xQ {t:TT}(hc:PT X c t):HR X [c] t:=fun pins s σ H Q I h=>by
 rw [List.forIn_cons];refine j7 ?_;rw [jd rfl];refine j7 (AO (hc pins s σ H Q I h) fun b s1 q=>j9 ?_);show wpAny _ _ (forIn [] b _) _ _ s1;rw [iV];exact j9 q
def JV (J:It)(js:List Nat)(tt:TT)(te:TE)(σ:St)(H1:Hp)(acc:Addr)(Q:VK):Prop:=
 ∃ W:Nat->Nat->Hp->Prop,(∃ m,W 0 m (upd H1 acc (.lst [])))/\∀ i m H2,W i m H2->
  (J.stop i H2/\Q (.ref acc) H2)∨(J.go i H2/\∀ x H3,J.Fe i H2 x H3->tt (BZ js σ++[some x]) H3 fun b H4=>
   if b=true then te (BZ js σ++[some x]) H4 fun y H5=>∃ ys,H5 acc=some (.lst ys)/\ys.length<sizeLine/\∃ m',m' < m/\W (i+1) m' (upd H5 acc (.lst (ys++[y])))
   else ∃ m',m' < m/\W (i+1) m' H4)
def Im (wi:TI)(js:List Nat)(tt:TT)(te:TE):TE:=fun σ H Q=>wi σ H fun J H1=>∀ acc,H1 acc=none->JV J js tt te σ H1 acc Q
theorem xp (l:List α)(a b:α):(l++[a]).set l.length b=l++[b]:=by
 induction l with
 | nil=>rfl
 | cons x l ih=>simp [ih]
def Gh:Option Str->Addr->List (Str×Addr)
 | none,_=>[]
 | some x,n=>[(x,n)]
def Ou:Option Str->Heap->Heap
 | none,h=>h
 | some _,h=>h.push { cls:=.type "cell", data:=.cell none }
structure FT (N:List Str) (outer scope:Scope) (ce:Option Str) (zs Af:List Str) (js:List Nat):Prop where
 kind:scope.kind=.function
 loc:∀ y∈scope.names,y.2=.local->scope.names.lookup y.1=some .local
 one:∀ y∈scope.names,y.2=.cell->ce=some y.1
 sub:∀ x,ce=some x->x∈zs
 cf:∀ (n:Nat) (cl:List (Str×Addr)),cellsFrom n scope.names cl=Gh ce n++cl
 pc:∀ h:Heap,pushCells h scope.names=Ou ce h
 at':js.map (fun j=>N[j]?)=Af.map some
 cell:∀ y∈Af,outer.names.lookup y=some .cell
 free:∀ y∈Af,scope.names.lookup y=some .free
 all:∀ y∈scope.names,y.2=.free->outer.names.lookup y.1=some .cell
 nd:(Af++zs).Nodup
abbrev Fg (X:Cx)(N:List Str)(scope:Scope)(ce:Option Str)(cl:List (Str×Addr))(C:Addr)(s:Shared)(H:Hp)(fp:List Addr):Cx:=
 { X with N:=N,s₀:=s,H₀:=H,env:=compEnvC scope (Gh ce (C+1)++cl) C X.env,outer:=X.stack,ex:=fp,fn:=fun y=>ce == some y,pn:=[],xe:=fun _ _=>False }
theorem xE {M:Model}{globals:Addr}{func:Option Addr}{code:Value}{outer:Env}{Q:Env->Shared->Prop}
  (cf:∀ (n:Nat) (cl:List (Str×Addr)),cellsFrom n scope.names cl=Gh ce n++cl) (pc:∀ h:Heap,pushCells h scope.names=Ou ce h)
  (hQ:Q (newEnv scope s.heap.objs.size globals (Gh ce (s.heap.objs.size+1)++closure) qual func code (some outer) builtinsNs) { s with heap:=Ou ce (s.heap.push { cls:=.type "dict", data:=.dict #[] }) }) :
  wpAny M A (newFunctionEnv scope globals closure [] qual func code (some outer)) Q E s:=by
 simp only [newFunctionEnv,ZD8,ZA5];refine j7 (wpAny_alloc ?_);refine j7 (wpAny_layCells _ (fun name kind cells=>by cases WC:kind == NameKind.cell <;> simp [WC]) _ _ _ _ ?_)
 rw [cf,pc];rw [show ({ s with heap:=s.heap.push { cls:=.type "dict", data:=.dict #[] } }:Shared).heap.objs.size=s.heap.objs.size+1 from Dy ..]
 refine j7 ?_;rw [iV];exact j9 (j9 hQ)
theorem nI {y:Str}{c:Addr}(h:(Gh ce n++cl).lookup y=some c):(ce=some y/\c=n)∨(ce≠some y/\cl.lookup y=some c):=by
 cases ce with
 | none=>exact .inr ⟨fun z=>(by cases z),h⟩
 | some x=>
  have h:((x,n)::cl).lookup y=some c:=h;rw [GN] at h
  by_cases e:y=x
  ·subst e;simp only [lx] at h;exact .inl ⟨rfl,(BO h).symm⟩
  ·have hb:(y == x)=false:=by simpa using e
   rw [hb] at h;exact .inr ⟨fun z=>e (BO z).symm,h⟩
theorem cT {y:Str}(h:ce≠some y):(Gh ce n++cl).lookup y=cl.lookup y:=by
 cases ce with
 | none=>rfl
 | some x=>
  show ((x,n)::cl).lookup y=_;have hb:(y == x)=false:=beq_eq_false_iff_ne.mpr fun z=>h (by rw [z]);rw [GN,hb]
theorem uI:(Gh (some x) n++cl).lookup x=some n:=by
 show ((x,n)::cl).lookup x=_;rw [GN,lx]
theorem kq {iter:Expr}{it acc:Value}(I:Nat->Shared->Prop)
  (turn:∀ n s,I n s->wpAny (model prog w) A (pyNext it) (fun r s1=>match r with
   | none=>R (.ok .next) s1
   | some v=>wpAny (model prog w) A (letOwnedTupleGo tg it v) (fun _ s2=>wpAny (model prog w) A (assign tg env v) (fun _ s3=>
     wpAny (model prog w) A (forIn ifs true fun c r=>if r=true then do let ok <- isTrue c env (eval c env);pure (ForInStep.yield ok) else pure (ForInStep.yield r)) (fun ok s4=>if ok=true then
      wpAny (model prog w) A (eval elt env) (fun x s5=>wpAny (model prog w) A (call (.builtin "list.append") [acc,x]) (fun _ s6=>∃ m,m<n/\I m s6) (notedBy (model prog w) A env fun e s'=>R (.error e) s') s5) (notedBy (model prog w) A env fun e s'=>R (.error e) s') s4
      else ∃ m,m<n/\I m s4) (notedBy (model prog w) A env fun e s'=>R (.error e) s') s3)
     (notedBy (model prog w) A env fun e s'=>R (.error e) s') s2) (notedBy (model prog w) A env fun e s'=>R (.error e) s') s1) (notedBy (model prog w) A env fun e s'=>R (.error e) s') s)
  (n:Nat) (h:I n s):codeAny (model prog w) A (.compLoop (.ListComp elt [⟨tg,iter,ifs,0⟩] scope pos) 0 it acc env) R s:=by
 refine codeAny_loop rfl I (fun n s hI=>(show wpAny _ A ((compTurn (.ListComp elt [⟨tg,iter,ifs,0⟩] scope pos) 0 it acc env).onRaise (fun x=>do noteFrame x env;theTreesLotGoes x)) _ _ s from wpAny_noted ?_)) n h
 rw [compTurn_list];refine j7 (wpAny_standAt (j7 (kg (turn n s hI) (fun r s1 q1=>?_) fun _ _ z=>z)));cases r with
 | none=>exact j9 q1
 | some v=>
  refine j7 (kg q1 (fun _ s2 q2=>j7 (kg q2 (fun _ s3 q3=>j7 (kg q3 (fun ok s4 q4=>?_) fun _ _ z=>z)) fun _ _ z=>z)) fun _ _ z=>z);cases ok with
  | false=>
   rw [jG (by decide)] at q4;exact j7 (j9 (j9 ⟨rfl,q4⟩))
  | true=>
   rw [jd rfl] at q4;exact j7 (j7 (kg q4 (fun x s5 q5=>j7 (kg q5 (fun _ s6 q6=>j9 (j9 ⟨rfl,q6⟩)) fun _ _ z=>z)) fun _ _ z=>z))
abbrev Zk (tt:TT)(te:TE)(acc:Addr)(W:Nat->Nat->Hp->Prop)(i m:Nat)(σ:St)(H:Hp):Prop:=
 tt σ H fun b H4=>if b=true then te σ H4 fun y H5=>∃ ys,H5 acc=some (.lst ys)/\ys.length<sizeLine/\∃ m',m' < m/\W (i+1) m' (upd H5 acc (.lst (ys++[y])))
  else ∃ m',m' < m/\W (i+1) m' H4
def Qh (g:TG)(n:Nat)(J:It)(js:List Nat)(tt:TT)(te:TE)(σ:St)(H1:Hp)(acc:Addr)(Q:VK):Prop:=
 ∃ W:Nat->Nat->Hp->Prop,(∃ m,W 0 m (upd H1 acc (.lst [])))/\∀ i m H2,W i m H2->
  (J.stop i H2/\Q (.ref acc) H2)∨(J.go i H2/\∀ x H3,J.Fe i H2 x H3->∀ ws,ws.length=n->g x (BZ js σ++ws) H3 fun σ8 H8=>∃ us,us.length=n/\σ8=BZ js σ++us/\Zk tt te acc W i m σ8 H8)
def YZ (CW:It->St->Hp->Addr->VK->Prop)(wi:TI):TE:=fun σ H Q=>wi σ H fun J H1=>∀ acc,H1 acc=none->CW J σ H1 acc Q
section
variable {iter:Expr}{zs Af:List Str}{fp:List Addr}{g:TG}
theorem wH (h:scope.names.lookup x=some .cell):(relabel scope env).names.lookup x=some .cell:=by
 refine (O7 (env:=env) scope.names x).trans ?_;rw [h];simp
theorem oo {n:Nat}(h:(List.replicate n (none:Option V))[i]?=some (some v)):False:=by
 rw [iW] at h
 by_cases c:i<n
 ·rw [jd c] at h;cases h
 ·rw [jG c] at h;cases h
theorem mX (S:FT X.N X.env.scope scope ce zs Af js)(I3:Inv X pins σ H2 s2)(f2:∀ b∈fp,Ds X pins H2 b)(cp:∀ b∈fp,b<s2.heap.objs.size)
  {m:ZE7}(L1:h1.Ns s2.heap.objs.size m) (old:∀ b o,s2.heap.get? b=some o->h1.get? b=some o) (Er:∀ x,ce=some x->h1.IsCell (s2.heap.objs.size+1) none) :
  Inv (Fg X (Af++zs) scope ce (CD X.env.cells scope.names) s2.heap.objs.size s2 H2 fp) [] (BZ js σ++List.replicate zs.length none) H2 { s2 with heap:=h1,toks:=t' }:=by
 have z9:∀ y∈scope.names,y.2=.free->(X.env.cells.lookup y.1).isSome=true:=fun y hy hk=>by
  obtain ⟨c,e⟩:=I3.ok.has y.1 (.inl (S.all y hy hk));rw [e];rfl
 have b9:∀ y c,(CD X.env.cells scope.names).lookup y=some c->X.env.cells.lookup y=some c:=gN scope.names [] z9 (fun _ _ e=>by cases e);have aH:∀ y k,(relabel scope X.env).names.lookup y=some k->k=.cell∨k=.free->scope.names.lookup y=some .free∨ce=some y:=fun y k e hk=>by
  have e':=(O7 (env:=X.env) scope.names y).symm.trans e;cases q:scope.names.lookup y with
  | none=>rw [q] at e';cases e'
  | some k0=>
   rw [q] at e';cases k0 with
   | free=>exact .inl rfl
   | cell=>exact .inr (S.one _ (KS q) rfl)
   | _=>simp at e';rcases hk with rfl | rfl <;> cases e'
 have hlen:js.length=Af.length:=by have:=o7 List.length S.at';simpa using this
 have eM:∀ y c,X.env.cells.lookup y=some c->c<s2.heap.objs.size:=fun y c e=>by
  obtain ⟨v,o,ho,_⟩:=I3.cell y c e;exact B8 ho
 have cellK:∀ c v,s2.heap.IsCell c v->h1.IsCell c v:=fun c v AJ=>by obtain ⟨o,ho,hd⟩:=AJ;exact ⟨o,old c o ho,hd⟩
 have lk:∀ y c,(Gh ce (s2.heap.objs.size+1)++CD X.env.cells scope.names).lookup y=some c->(ce=some y/\c=s2.heap.objs.size+1)∨(ce≠some y/\X.env.cells.lookup y=some c):=fun y c e=>(nI e).imp id fun z=>⟨z.1,b9 y c z.2⟩;have xc:∀ y∈Af,ce≠some y:=fun y hy z=>(List.nodup_append.mp S.nd).2.2 y hy y (S.sub y z) rfl;refine ⟨⟨I3.ok.mod,S.kind,I3.ok.glob,I3.ok.blt,Ao _,fun y z c e1 e2=>?_,fun y hy=>?_,fun y c hf e=>?_,I3.ok.hd,I3.ok.frames,.inl rfl,fun b hb=>⟨BK (cp b hb),fun y c e=>?_⟩,
  fun b o e=>I3.bs b o e,Ci I3.ok.Hc I3.sz,fun b o e hb=>?_,fun b hb hs=>?_,I3.stack,I3.bD⟩,rfl,I3.bare,Un.kept old,⟨m,L1,fun i y v e1 e2 e3=>?_⟩,fun y c e=>?_,I3.AL.fresh (Ao _),fun y c e=>?_,fun p hp=>(by cases hp),I3.AL.kept old,?_⟩
 ·rcases lk y c e1 with ⟨a1,rfl⟩ | ⟨_,Cm⟩
  ·rcases lk z _ e2 with ⟨a2,_⟩ | ⟨_,DM⟩
   ·exact BO (a1.symm.trans a2)
   ·exact absurd (eM z _ DM) (ZD5 (EC _))
  ·rcases lk z c e2 with ⟨_,rfl⟩ | ⟨_,DM⟩
   ·exact absurd (eM y _ Cm) (ZD5 (EC _))
   ·exact I3.ok.inj y z c Cm DM
 ·have hf:scope.names.lookup y=some .free∨ce=some y:=hy.elim (fun hy=>aH y _ hy (.inl rfl)) fun hy=>aH y _ hy (.inr rfl);show ∃ c,List.lookup y (Gh ce (s2.heap.objs.size+1)++CD X.env.cells scope.names)=some c
  by_cases ex:ce=some y
  ·rw [ex];exact ⟨_,uI⟩
  ·rw [cT ex];exact Option.isSome_iff_exists.mp (Rm scope.names [] (.inr (KS (hf.resolve_right ex))))
 ·rcases lk y c e with ⟨_,rfl⟩ | ⟨n1,_⟩
  ·exact EC _
  ·exact absurd (eq_of_beq hf) n1
 ·rcases lk y c e with ⟨_,rfl⟩ | ⟨_,Cm⟩
  ·exact KQ (HE (cp b hb))
  ·exact (f2 b hb).2.2.2.2.1 y c Cm
 ·rcases (f2 b hb).2.2.2.1 with z | z
  ·exact I3.ok.Nj b o e z
  ·exact absurd (D5 (D5 (B8 e) I3.ok.Hc) z) (KO _)
 ·rcases List.mem_cons.mp (I3.Sb b hs) with z | z
  ·exact (f2 b hb).2.1 z
  ·exact (f2 b hb).2.2.1 z
 ·have Er:(BZ js σ).length=Af.length:=by unfold BZ;rw [Ab,hlen]
  have hi:i<Af.length:=by
   by_cases hi:i<Af.length
   ·exact hi
   ·have CB:(BZ js σ++List.replicate zs.length none)[i]?=some (some v):=e2;rw [Lk (by rw [Er];omega),Er] at CB;exact (oo CB).elim
  have E6:Af[i]?=some y:=by
   have E6:(Af++zs)[i]?=some y:=e1
   rwa [Hs hi] at E6
  have CB:(BZ js σ)[i]?=some (some v):=by
   have CB:(BZ js σ++List.replicate zs.length none)[i]?=some (some v):=e2
   rwa [Hs (by rw [Er];exact hi)] at CB
  have FC:y∈Af:=DK E6;unfold BZ at CB;rw [Ax] at CB;cases hj:js[i]? with
  | none=>rw [hj] at CB;cases CB
  | some j=>
   rw [hj] at CB;have hN:X.N[j]?=some y:=by
    have q:=o7 (fun l=>l[i]?) S.at';simp only [Ax,hj,E6,RL] at q;exact BO q
   have hσ:σ[j]?=some (some v):=by
    simp only [RL,Option.some.injEq] at CB;cases q:σ[j]? with
    | none=>rw [q] at CB;cases CB
    | some w=>rw [q] at CB;simp at CB;rw [CB]
   obtain ⟨m0,hn0,RQ⟩:=I3.loc;obtain ⟨u,r,l⟩:=RQ j y v hN hσ (.inr (.inl (S.cell y FC)));refine ⟨u,r,?_⟩;rcases l with ⟨k,_⟩ | ⟨_,c,e,z⟩
   ·have k':X.env.scope.names.lookup y=some .local:=k;rw [S.cell y FC] at k';cases k'
   ·have WC:X.env.kindOf y=some .cell:=S.cell y FC;have hk:(relabel scope X.env).names.lookup y=some .cell:=by
     refine (O7 (env:=X.env) scope.names y).trans ?_;rw [S.free y FC];simp [I3.ok.kind,WC]
    obtain ⟨c',e'⟩:=Option.isSome_iff_exists.mp (Rm (cells:=X.env.cells) scope.names [] (.inr (KS (S.free y FC))));have bf:=b9 y c' e';rw [e] at bf;cases bf;exact .inr ⟨.inl hk,c,(cT (xc y FC)).trans e',cellK c _ z⟩
 ·rcases lk y c e with ⟨a,rfl⟩ | ⟨_,Cm⟩
  ·exact ⟨none,Er _ a⟩
  ·obtain ⟨v,z⟩:=I3.cell y c Cm;exact ⟨v,cellK c v z⟩
 ·rcases lk y c e with ⟨_,rfl⟩ | ⟨_,Cm⟩
  ·exact I3.AL.fresh (EC _)
  ·exact I3.GI y c Cm
 ·show (BZ js σ++List.replicate zs.length none).length=(Af++zs).length;unfold BZ;simp [hlen]
theorem oR (hp:Y.prog=X.prog)(hw:Y.w=X.w)(hK:Y.K=X.K)(hA:Y.A=X.A)(yU:Y.xe=fun _ _=>False)(hc:Y.calm=true)
  (hg:PG Y tg g) (EL:HR Y ifs tt) (EK:PE Y elt te)
  (T:Turn X.prog X.w X.K tg J fp it tn) (zx:∀ b∈fp,Y.Ok->Ds Y [] (fun _=>none) b)
  (W:Nat->Nat->Hp->Prop) (Q:VK)
  (turn:∀ i m H2,W i m H2->(J.stop i H2/\Q (.ref acc) H2)∨(J.go i H2/\∀ x H3,J.Fe i H2 x H3->∀ ws,ws.length=n0->g x (BZ js σ++ws) H3 fun σ8 H8=>∃ us,us.length=n0/\σ8=BZ js σ++us/\Zk tt te acc W i m σ8 H8))
  (I4:Inv Y [] (BZ js σ++ws) H4 s4) (Qx:tn 0 s4.heap) (wW:∀ b∈fp,H4 b=none) (m0:Nat) (w4:W 0 m0 H4)
  (vI:ws.length=n0) (hR:∀ H' s' ws,Inv Y [] (BZ js σ++ws) H' s'->Q (.ref acc) H'->R (.ok .next) s') :
  codeAny (model X.prog X.w) X.A (.compLoop (.ListComp elt [⟨tg,iter,ifs,0⟩] scope pos) 0 (.ref it) (.ref acc) Y.env) R s4:=by
 have AL:=I4.ok;have KA:∀ {H':Hp},(∀ b∈fp,H' b=none)->∀ b∈fp,Ds Y [] H' b:=fun hn b hb=>⟨hn b hb,(zx b hb AL).2⟩;rw [<- hp,<- hw,<- hA];have no:∀ {Z:Value->Shared->Prop} v s,Y.xe v s->Z v s:=fun v s z=>by rw [yU] at z;exact z.elim
 refine kq (fun n s'=>∃ i ws H',ws.length=n0/\Inv Y [] (BZ js σ++ws) H' s'/\tn i s'.heap/\(∀ b∈fp,H' b=none)/\W i n H') ?_ m0 ⟨0,ws,H4,vI,I4,Qx,wW,w4⟩;rintro n s5 ⟨i,Y9,H5,pI,I5,KU,Pm,w5⟩;rcases turn i n H5 w5 with ⟨stop,q⟩ | ⟨go,step⟩
 ·have d:=T.done Y hp hw hK hc i [] s5 _ H5 (fun _ _=>False) I5 (KA Pm) KU stop;rw [<- hp,<- hw] at d;refine kg d (fun r s6 ⟨hr,I6⟩=>?_) fun _ _ z=>z.elim;subst hr;exact hR H5 s6 Y9 I6 q
 ·have d:=T.item Y hp hw hK hc i [] s5 _ H5 (fun _ _=>False) I5 (KA Pm) KU go;rw [<- hp,<- hw] at d;refine kg d (fun r s6 ⟨u,hr,h6⟩=>?_) fun _ _ z=>z.elim;subst hr;refine kg h6 (fun _ s7 ⟨v,H7,I7,r7,y7,Sw,oE⟩=>?_) fun _ _ z=>z.elim;have tO:=I7.pinned (KA oE) (T.obj _ _ Sw);refine kg (hg _ s7 _ H7 v u _ tO r7 (step v H7 y7 Y9 pI)) (fun _ s8 ⟨σ8,H8,I8,us,YM,e8,hte⟩=>?_) no;subst e8;have again:∀ {σa:St} {Ha:Hp}{sa:Shared},Inv Y ([]++NB fp s7.heap) σa Ha sa->tn (i+1) sa.heap/\(∀ b∈fp,Ha b=none):=fun {σa Ha sa} Ia=>by
   refine ⟨T.keep _ _ _ Sw fun b hb o e=>(Ia.pin (b,o) (D4 _ (D4 _ (Og hb e)))).1,fun b hb=>?_⟩;obtain ⟨o,e,d⟩:=T.obj _ _ Sw b hb;exact (Ia.pin (b,o) (D4 _ (D4 _ (Og hb e)))).2.1
  refine kg (EL _ s8 _ H8 _ I8 hte) (fun b s9 ⟨H9,I9,q9⟩=>?_) no;cases b with
  | false=>
   have q9':∃ m',m' < n/\W (i+1) m' H9:=q9;obtain ⟨m',hm,w9⟩:=q9';rw [jG (by decide)];exact ⟨m',hm,i+1,_,H9,YM,I9.Mg,(again I9).1,(again I9).2,w9⟩
  | true=>
   rw [jd rfl];rw [jd rfl] at q9;refine kg (EK _ s9 _ H9 _ I9 q9) (fun yv u3 ⟨y,dY,I10,kK,ys,Ai,hz,m',hm,w10⟩=>?_) no;refine kg (ZZ (X:=Y) _ u3 _ dY (.ref acc) [y] (.ref acc) [yv] (fun _ cI=>cI=upd dY acc (.lst (ys++[y]))) I10 rfl (.cons kK .nil) ⟨acc,ys,y,rfl,rfl,Ai,hz,rfl⟩)
    (fun _ s11 ⟨_,cI,UA,_,nV⟩=>?_) no
   subst nV;exact ⟨m',hm,i+1,_,_,YM,UA.Mg,(again UA).1,(again UA).2,w10⟩
theorem i6 {RR:Value->Addr->Result->Shared->Prop}(hc:X.calm=true)(S:FT X.N X.env.scope scope ce zs Af js)
  (hg:∀ C s H,PG (Fg X (Af++zs) scope ce (CD X.env.cells scope.names) C s H fp) tg g)
  (EL:∀ C s H,HR (Fg X (Af++zs) scope ce (CD X.env.cells scope.names) C s H fp) ifs tt) (EK:∀ C s H,PE (Fg X (Af++zs) scope ce (CD X.env.cells scope.names) C s H fp) elt te)
  (T:Turn X.prog X.w X.K tg J fp it tn) (I2:Inv X pins σ H2 s2) (GZ:tn 0 s2.heap) (f2:∀ b∈fp,Ds X pins H2 b) (Q:VK) (hW:∀ acc,H2 acc=none->Qh g zs.length J js tt te σ H2 acc Q)
  (tT:∀ acc C H' s' m,Inv X pins σ H' s'->Ds X pins H' C->s'.heap.Ns C m->Q (.ref acc) H'->RR (.ref acc) C (.ok .next) s') :
  wpAny (model X.prog X.w) X.A (newList []) (fun acc s3=>wpAny (model X.prog X.w) X.A (newFunctionEnv scope X.env.globals (CD X.env.cells scope.names) [] X.env.qual none .none (some X.env)) (fun dz s4=>
   codeAny (model X.prog X.w) X.A (.compStart (.ListComp elt [⟨tg,iter,ifs,0⟩] scope pos) 0 (.ref it) acc { dz with scope:=relabel scope X.env }) (RR acc dz.locals) s4) E s3) E s2:=by
 refine ky (xE S.cf S.pc ?_);have I3:Inv X pins σ (upd H2 s2.heap.objs.size (.lst [])) { s2 with heap:=s2.heap.push { cls:=.type "list", data:=.seq ([]:List Value).toArray } }:=I2.ZJ (t':=s2.toks) .nil (C2 _)
 have AQ:∀ b∈fp,b<s2.heap.objs.size:=fun b hb=>by
  obtain ⟨o,e,_⟩:=T.obj _ _ GZ b hb;exact B8 e
 have hsz:(s2.heap.push { cls:=.type "list", data:=.seq ([]:List Value).toArray }).objs.size=s2.heap.objs.size+1:=Dy ..;have f3:∀ b∈fp,Ds X pins (upd H2 s2.heap.objs.size (.lst [])) b:=fun b hb=>⟨by rw [AX (BK (AQ b hb))];exact (f2 b hb).1,(f2 b hb).2⟩;generalize rL:({ s2 with heap:=s2.heap.push { cls:=.type "list", data:=.seq ([]:List Value).toArray } }:Shared)=s3 at I3 ⊢
 have Z3:s3.heap=s2.heap.push { cls:=.type "list", data:=.seq ([]:List Value).toArray }:=by rw [<- rL]
 have uf:∀ b∈fp,b<s3.heap.objs.size:=fun b hb=>by rw [Z3,hsz];exact HE (AQ b hb)
 generalize cF:Ou ce (s3.heap.push { cls:=.type "dict", data:=.dict #[] })=h1;have Yg:∀ b o,(s3.heap.push { cls:=.type "dict", data:=.dict #[] }).get? b=some o->h1.get? b=some o:=fun b o e=>by
  rw [<- cF];cases ce with
  | none=>exact e
  | some _=>exact BF _ e
 have old:∀ b o,s3.heap.get? b=some o->h1.get? b=some o:=fun b o e=>Yg b o (BF _ e);have mE:∀ b o,s2.heap.get? b=some o->h1.get? b=some o:=fun b o e=>old b o (by rw [Z3];exact BF _ e);have L1:h1.Ns s3.heap.objs.size (fun _=>none):=(Heap.Ns.new s3.heap (.type "dict")).keeps Yg;have Er:∀ x,ce=some x->h1.IsCell (s3.heap.objs.size+1) none:=fun x hx=>by
  subst hx;rw [<- cF];have e:(s3.heap.push { cls:=.type "dict", data:=.dict #[] }).objs.size=s3.heap.objs.size+1:=Dy ..;exact ⟨_,by rw [<- e];exact BU _ rfl,rfl⟩
 have I4:=mX S I3 f3 uf L1 old Er (t':=s3.toks);have Qx:tn 0 h1:=T.keep _ _ _ GZ fun b _ o e=>mE b o e;obtain ⟨W,⟨m0,w0⟩,turn⟩:=hW s2.heap.objs.size (I2.AL.fresh (Ao _));have loop:codeAny (model X.prog X.w) X.A (.compLoop (.ListComp elt [⟨tg,iter,ifs,0⟩] scope pos) 0 (.ref it) (.ref s2.heap.objs.size) (compEnvC scope (Gh ce (s3.heap.objs.size+1)++CD X.env.cells scope.names) s3.heap.objs.size X.env))
   (RR (.ref s2.heap.objs.size) s3.heap.objs.size) { s3 with heap:=h1 }:=by
  refine oR (X:=X) (Y:=Fg X (Af++zs) scope ce (CD X.env.cells scope.names) s3.heap.objs.size s3 (upd H2 s2.heap.objs.size (.lst [])) fp) (acc:=s2.heap.objs.size) (Q:=Q) rfl rfl rfl rfl rfl hc (hg _ _ _) (EL _ _ _) (EK _ _ _) T (fun b hb ok=>⟨rfl,(ok.QL b hb).1,ok.Me b hb,.inl hb,(ok.QL b hb).2,fun p hp=>by cases hp⟩) W turn I4 Qx (fun b hb=>(f3 b hb).1) m0 w0 (Xs ..) fun H' s' w I' q=>?_;obtain ⟨m,hn,_⟩:=I'.loc;exact tT _ _ H' s' m (I3.ZAQ (ch:=fp) I'.os I'.base I'.AL I'.bare fun b hb=>⟨(f3 b hb).2.2.2.1,(f3 b hb).2.1,(f3 b hb).2.2.2.2.1,(f3 b hb).2.2.2.2.2⟩) (I3.Kt (Ao _) I'.free) hn q
 exact codeAny_compStart_list loop (T.self X.A 0 _ _ _ Qx loop)
theorem gF (S:FT X.N X.env.scope scope ce zs Af js)(I:Inv X pins σ H s):closureFor scope X.env=pure (CD X.env.cells scope.names):=yk fun y hy hk=>by
 obtain ⟨c,e⟩:=I.ok.has y.1 (.inl (S.all y hy hk));rw [e];rfl
theorem zB (hW:∀ J σ H1 acc Q,CW J σ H1 acc Q->Qh g zs.length J js tt te σ H1 acc Q)(hc:X.calm=true)(S:FT X.N X.env.scope scope ce zs Af js)(hi:PI X tg iter wi)
  (hg:∀ fp C s H,PG (Fg X (Af++zs) scope ce (CD X.env.cells scope.names) C s H fp) tg g)
  (EL:∀ fp C s H,HR (Fg X (Af++zs) scope ce (CD X.env.cells scope.names) C s H fp) ifs tt) (EK:∀ fp C s H,PE (Fg X (Af++zs) scope ce (CD X.env.cells scope.names) C s H fp) elt te)
  (hs:∀ v,foldedSetIterable iter X.env v=pure v):PE X (.ListComp elt [⟨tg,iter,ifs,0⟩] scope pos) (YZ CW wi):=by
 intro pins s σ H Q I h;rw [eval_ListComp];refine wpAny_comprehension_free (use:=none) rfl hs (gF S I) S.kind S.loc (AO (hi pins s σ H _ I h) fun v s1 h1=>AO h1 fun QV s2 h2=>?_);obtain ⟨it,fp,tn,J,H2,e,I2,T,GZ,f2,hw⟩:=h2;subst e;refine i6 (RR:=fun acc C=>compPost (model X.prog X.w) X.A X.xe none (EP X pins σ Q) acc C) hc S (hg fp) (EL fp) (EK fp) T I2 GZ f2 Q (fun acc ha=>hW _ _ _ _ _ (hw acc ha)) fun acc C H' s' m I' fC hn q=>⟨m,hn,fun h' Km=>?_⟩;exact ⟨.ref acc,H',I'.turned (t':=s'.toks) (fun b o hb e=>(Km.2 b hb).trans e) fC.1 fC.2.1 fC.2.2.2.1 fC.2.2.2.2.1 fC.2.2.2.2.2,rfl,q⟩
theorem vW (hW:∀ J σ H1 acc Q,CW J σ H1 acc Q->Qh g zs.length J js tt te σ H1 acc Q){y:Str}(hN:X.N.Nodup)(El:X.N[i]?=some y)(hy:Loc X.env.scope y)(hc:X.calm=true)(S:FT X.N X.env.scope scope ce zs Af js)(hi:PI X tg iter wi)
  (hg:∀ fp C s H,PG (Fg X (Af++zs) scope ce (CD X.env.cells scope.names) C s H fp) tg g)
  (EL:∀ fp C s H,HR (Fg X (Af++zs) scope ce (CD X.env.cells scope.names) C s H fp) ifs tt) (EK:∀ fp C s H,PE (Fg X (Af++zs) scope ce (CD X.env.cells scope.names) C s H fp) elt te)
  (MZ:swapsWith (.ListComp elt [⟨tg,iter,ifs,0⟩] scope pos) (some (.Name y py)) Hx.line X.env=pure true)
  (hf:X.fn y=true∨X.env.scope.names.lookup y=some .local)
  (hs:∀ v,foldedSetIterable iter X.env v=pure v):PS X (.Assign [.Name y py] (.ListComp elt [⟨tg,iter,ifs,0⟩] scope pos) Hx) (EX (YZ CW wi) (D1 i)):=by
 intro pins s σ H D I h;rw [exec_Assign_Name_used _ _ _ _ MZ];refine j7 (wpAny_standAt (j7 ?_));show wpAny _ X.A (do let _ <- comprehension (.ListComp elt [⟨tg,iter,ifs,0⟩] scope pos) scope X.env _ (newList []) false (eval iter X.env) (some (assign (.Name y py) X.env))) _ _ s
 refine j7 (kg (wpAny_comprehension_free (use:=some (assign (.Name y py) X.env)) (Q:=fun _ s'=>SP X pins D .next s') rfl hs (gF S I) S.kind S.loc
  (AO (hi pins s σ H _ I h) fun v s1 h1=>AO h1 fun QV s2 h2=>?_)) (fun _ s' hq=>j9 (j9 hq)) fun _ _ e=>e)
 obtain ⟨it,fp,tn,J,H2,e,I2,T,GZ,f2,hw⟩:=h2;subst e;refine i6 (RR:=fun acc C=>compPost (model X.prog X.w) X.A X.xe (some (assign (.Name y py) X.env)) (fun _ s'=>SP X pins D .next s') acc C) hc S (hg fp) (EL fp) (EK fp) T I2 GZ f2 _ (fun acc ha=>hW _ _ _ _ _ (hw acc ha)) fun acc C H' s' m I' fC hn q=>?_;show wpAny _ X.A (assign (.Name y py) X.env (.ref acc)) _ _ s';refine wpAny_assign_Name (Yj (v:=.ref acc) I' hN El hy rfl (fun J7 jm ⟨a,lh,ha⟩=>?_) hf);have Ak:C≠a:=by
  rcases ha with z | z
  ·rw [z];exact fC.2.1
  ·exact (fC.2.2.2.2.1 y a z).symm
 refine ⟨m,hn.sameBut lh Ak,fun h' Km=>?_⟩;exact ⟨_,H',jm.turned (t':=J7.toks) (fun b o hb e=>(Km.2 b hb).trans e) fC.1 fC.2.1 fC.2.2.2.1 fC.2.2.2.2.1 fC.2.2.2.2.2,q⟩
theorem gU {n:Nat}{cl:List (Str×Addr)}:∀ {names:List (Str×NameKind)},(∀ y∈names,y.2≠.cell)->cellsFrom n names cl=cl
 | [],_=>rfl
 | (x,k)::r,h=>by
  have hk:(k == NameKind.cell)=false:=beq_eq_false_iff_ne.mpr (h _ Cu);rw [cellsFrom,hk];exact gU fun y hy=>h y (Di _ hy)
theorem fL {h0:Heap}:∀ {names:List (Str×NameKind)},(∀ y∈names,y.2≠.cell)->pushCells h0 names=h0
 | [],_=>rfl
 | (x,k)::r,h=>by
  have hk:(k == NameKind.cell)=false:=beq_eq_false_iff_ne.mpr (h _ Cu);rw [pushCells,hk];exact fL fun y hy=>h y (Di _ hy)
theorem FT.xO (kind:scope.kind=.function)(Nh:∀ y∈scope.names,y.2≠.cell)(loc:∀ y∈scope.names,y.2=.local->scope.names.lookup y.1=some .local)
  (at':js.map (fun j=>N[j]?)=Af.map some) (cell:∀ y∈Af,outer.names.lookup y=some .cell) (free:∀ y∈Af,scope.names.lookup y=some .free)
  (all:∀ y∈scope.names,y.2=.free->outer.names.lookup y.1=some .cell) (nd:(Af++zs).Nodup):FT N outer scope none zs Af js:=
 ⟨kind,loc,fun y hy e=>absurd e (Nh y hy),fun x e=>(by cases e),fun n cl=>gU Nh,fun h=>fL Nh,at',cell,free,all,nd⟩
theorem FT.len (S:FT N outer scope ce zs Af js)(σ:St):(BZ js σ).length=Af.length:=by
 unfold BZ;rw [Ab];have:=o7 List.length S.at';simpa using this
theorem fY (S:FT N outer scope ce [x] Af js)(J:It)(σ:St)(H1:Hp)(acc:Addr)(Q:VK)(h:JV J js tt te σ H1 acc Q):Qh (D1 Af.length) 1 J js tt te σ H1 acc Q:=by
 obtain ⟨W,h0,h⟩:=h;refine ⟨W,h0,fun i m H2 w=>(h i m H2 w).imp id fun z=>⟨z.1,fun x H3 y ws hw=>?_⟩⟩
 match ws,hw with
 | [w],_=>
  have e:(BZ js σ++[w]).set Af.length (some x)=BZ js σ++[some x]:=by rw [<- S.len σ];exact xp _ _ _
  exact ⟨[some x],rfl,e,by rw [e];exact z.2 x H3 y⟩
theorem gr (S:FT X.N X.env.scope scope ce [x] Af js)(hx:scope.names.lookup x=some .local∨(ce=some x/\scope.names.lookup x=some .cell)):
  PG (Fg X (Af++[x]) scope ce cl C s H fp) (.Name x px) (D1 Af.length):=
 iG S.nd (by simp) (hx.imp (fun h=>lookup_relabel_local h) fun h=>wH h.2) (hx.symm.imp (fun h=>by show (ce == some x)=true;rw [h.1];exact lx _) fun h=>lookup_relabel_local h)
theorem DV.G (S:DV N outer scope x Af js):FT N outer scope none [x] Af js:=.xO S.kind S.Nh S.loc S.at' S.cell S.free S.all S.nd
theorem zU (hc:X.calm=true)(S:DV X.N X.env.scope scope x Af js)(hi:PI X (.Name x px) iter wi)
  (EL:∀ fp C s H,HR (J1 X (Af++[x]) scope (CD X.env.cells scope.names) C s H fp) ifs tt) (EK:∀ fp C s H,PE (J1 X (Af++[x]) scope (CD X.env.cells scope.names) C s H fp) elt te)
  (hs:∀ v,foldedSetIterable iter X.env v=pure v:=by intro _;rfl):PE X (.ListComp elt [⟨.Name x px,iter,ifs,0⟩] scope pos) (Im wi js tt te):=
 zB (CW:=fun J σ H1 acc Q=>JV J js tt te σ H1 acc Q) (fY S.G) hc S.G hi (fun _ _ _ _=>gr S.G (.inl S.bB)) EL EK hs
theorem jC {y:Str}(hN:X.N.Nodup)(El:X.N[i]?=some y)(hy:Loc X.env.scope y)(hc:X.calm=true)(S:DV X.N X.env.scope scope x Af js)(hi:PI X (.Name x px) iter wi)
  (EL:∀ fp C s H,HR (J1 X (Af++[x]) scope (CD X.env.cells scope.names) C s H fp) ifs tt) (EK:∀ fp C s H,PE (J1 X (Af++[x]) scope (CD X.env.cells scope.names) C s H fp) elt te)
  (MZ:swapsWith (.ListComp elt [⟨.Name x px,iter,ifs,0⟩] scope pos) (some (.Name y py)) Hx.line X.env=pure true:=by rfl)
  (hf:X.fn y=true∨X.env.scope.names.lookup y=some .local:=by first | exact .inl rfl | exact .inr rfl | assumption)
  (hs:∀ v,foldedSetIterable iter X.env v=pure v:=by intro _;rfl):PS X (.Assign [.Name y py] (.ListComp elt [⟨.Name x px,iter,ifs,0⟩] scope pos) Hx) (EX (Im wi js tt te) (D1 i)):=
 vW (CW:=fun J σ H1 acc Q=>JV J js tt te σ H1 acc Q) (fY S.G) hN El hy hc S.G hi (fun _ _ _ _=>gr S.G (.inl S.bB)) EL EK MZ hf hs
end
def CN (K:ZE5)(tp:Bool)(H:Hp)(a:Addr)(xs:List V):Prop:=match tp with
 | false=>AF K H a xs
 | true=>AA K H a xs
theorem CN.or {K:ZE5}{xs:List V}(h:CN K tp H a xs):AF K H a xs∨AA K H a xs:=by
 cases tp
 ·exact .inl h
 ·exact .inr h
def Mt (K:ZE5)(tp:Bool)(a:Addr)(xs:List V):It:=
 ⟨fun i H=>CN K tp H a xs/\i<xs.length,fun i H x H'=>H'=H/\xs[i]?=some x,fun i H=>CN K tp H a xs/\xs.length<=i⟩
theorem ZAK {P:Program}{K:ZE5}(a it:Addr)(xs:List V):Turn P w K tg (Mt K false a xs) [it] it (fun i h=>h.IsListIter it a i) where
 mem:=by simp
 obj:=(Ng (P:=P) (w:=w) (K:=K) (tg:=tg) a it).obj
 keep:=(Ng (P:=P) (w:=w) (K:=K) (tg:=tg) a it).keep
 item:=by
  intro X hP hw hK hc i pins s σ H E I hf st hg;obtain ⟨hq,hi⟩:=hg;refine AO ((Ng (P:=P) (w:=w) (K:=K) (tg:=tg) a it).item X hP hw hK hc i pins s σ H E I hf st ⟨xs,xs[i],hq,by simp [hi]⟩) fun r s1 AJ=>by obtain ⟨u,e,h⟩:=AJ;exact ⟨u,e,AO h fun _ s2 DO=>by obtain ⟨x,H',I',rx,y,Cg,f'⟩:=DO;exact ⟨x,H',I',rx,⟨y.1,y.2 xs hq⟩,Cg,f'⟩⟩
 done:=by
  intro X hP hw hK hc i pins s σ H E I hf st hg;exact (Ng (P:=P) (w:=w) (K:=K) (tg:=tg) a it).done X hP hw hK hc i pins s σ H E I hf st ⟨xs,hg.1,hg.2⟩
 self:=(Ng (P:=P) (w:=w) (K:=K) (tg:=tg) a it).self
theorem sy {P:Program}{K:ZE5}(a it:Addr)(xs:List V):Turn P w K tg (Mt K true a xs) [it] it (fun i h=>h.IsTupleIter it a i) where
 mem:=by simp
 obj:=(MR (P:=P) (w:=w) (K:=K) (tg:=tg) a it).obj
 keep:=(MR (P:=P) (w:=w) (K:=K) (tg:=tg) a it).keep
 item:=by
  intro X hP hw hK hc i pins s σ H E I hf st hg;obtain ⟨hq,hi⟩:=hg;refine AO ((MR (P:=P) (w:=w) (K:=K) (tg:=tg) a it).item X hP hw hK hc i pins s σ H E I hf st ⟨xs,xs[i],hq,by simp [hi]⟩) fun r s1 AJ=>by obtain ⟨u,e,h⟩:=AJ;exact ⟨u,e,AO h fun _ s2 DO=>by obtain ⟨x,H',I',rx,y,Cg,f'⟩:=DO;exact ⟨x,H',I',rx,⟨y.1,y.2 xs hq⟩,Cg,f'⟩⟩
 done:=by
  intro X hP hw hK hc i pins s σ H E I hf st hg;exact (MR (P:=P) (w:=w) (K:=K) (tg:=tg) a it).done X hP hw hK hc i pins s σ H E I hf st ⟨xs,hg.1,hg.2⟩
 self:=(MR (P:=P) (w:=w) (K:=K) (tg:=tg) a it).self
def Qf (K:ZE5)(tl:TE):TI:=fun σ H R=>tl σ H fun x H1=>∃ tp a xs,x=.ref a/\CN K tp H1 a xs/\R (Mt K tp a xs) H1
def Wk (z:Str):It:=⟨fun i _=>i<z.cps.size,fun i H x H'=>H'=H/\∃ c,z.cps[i]?=some c/\x=.str ⟨#[c]⟩,fun i _=>i=z.cps.size⟩
theorem aI {P:Program}{K:ZE5}{t:Tok}{ty:String}
  (hn:["enumerate","zip","dict_itemiterator","dict_reverseitemiterator","odict_iterator","itertools.zip_longest","itertools.pairwise"].contains ty=false)
  (W:∀ A:Around,A.handled=none->Walks P w A it [it] [it] z.cps.size (SignAt z) (fun i h=>h.IsStrIter it ty z t i))
  (self:∀ (A:Around) (i:Nat) (s:Shared) (Q:Value->Shared->Prop) (E:Value->Shared->Prop),s.heap.IsStrIter it ty z t i->Q (.ref it) s->wpAny (model P w) A (pyIter (.ref it)) Q E s) :
  Turn P w K tg (Wk z) [it] it (fun i h=>h.IsStrIter it ty z t i) where
 mem:=by simp
 obj:=fun i h st b hb=>by
  have e:b=it:=by simpa using hb
  subst e;obtain ⟨o,e,c,d⟩:=st;exact ⟨o,e,fun v z=>by rw [d] at z;cases z⟩
 keep:=fun i h h' st k=>let ⟨o,e,r⟩:=st;⟨o,k it (by simp) o e,r⟩
 item:=by
  intro X hP hw hK hc i pins s σ H E I hf st hg;subst hP hw hK;obtain ⟨f0,f1,f2,f3,f4,f5⟩:=hf it (by simp);refine (W X.A (I.ok.hd hc)).item i s _ _ hg st fun v h' tk ⟨c,u,Ow,hv⟩ Cg kp=>?_;subst hv;have I1:Inv X pins σ H { s with heap:=h',toks:=tk }:=I.turned (t':=tk) (fun b o hb e=>kp b o (by simpa using hb) e) f0 f1 f3 f4 f5
  obtain ⟨o,e,cl,d⟩:=id Cg;exact ⟨_,rfl,NR (s:={ s with heap:=h',toks:=tk }) e cl d hn ⟨.str ⟨#[c]⟩,H,I1,⟨u,rfl⟩,⟨rfl,c,Ow,rfl⟩,Cg,fun b hb=>(hf b hb).1⟩⟩
 done:=by
  intro X hP hw hK hc i pins s σ H E I hf st hg;subst hP hw hK;obtain ⟨f0,f1,f2,f3,f4,f5⟩:=hf it (by simp);have yO:i=z.cps.size:=hg;subst yO;exact (W X.A (I.ok.hd hc)).done s _ _ st fun h' tk kp=>⟨rfl,I.turned (t':=tk) (fun b o hb e=>kp b o (by simpa using hb) e) f0 f1 f3 f4 f5⟩
 self:=self
def i7 (tl:TE):TI:=fun σ H R=>tl σ H fun x H1=>∃ z,x=.str z/\R (Wk z) H1
theorem AW {p:Addr}(h:H p=none)(o:HO):A7 H (upd H p o):=fun b u q=>by rw [AX (DX q h)];exact q
theorem A7.IA {K:ZE5}{xs:List V}(e:A7 H H')(h:AA K H a xs):AA K H' a xs:=by
 rcases h with (h | ⟨o,h⟩) | h
 ·exact .inl (.inl (e _ _ h))
 ·exact .inl (.inr ⟨o,e _ _ h⟩)
 ·exact .inr h
theorem A7.sq {K:ZE5}{xs:List V}(e:A7 H H')(h:CN K tp H a xs):CN K tp H' a xs:=by
 cases tp
 ·exact A7.seq e h
 ·exact A7.IA e h
theorem Y8 {Q:VK}(xs:List V)(f:V->Bool)(g:V->V)(Ai:H1 acc=none)(hz:xs.length<=sizeLine)
  (qQ:∀ i H,A7 H1 H->i<xs.length->J.go i H) (CH:∀ H,A7 H1 H->J.stop xs.length H) (hy:∀ i H x H',J.Fe i H x H'->H'=H/\xs[i]?=some x)
  (ht:∀ (i:Nat) (x:V) (H':Hp) (Q':Bool->Hp->Prop),xs[i]?=some x->A7 H1 H'->(∀ Dm,A7 H' Dm->Q' (f x) Dm)->tt (BZ js σ++[some x]) H' Q')
  (he:∀ (i:Nat) (x:V) (H':Hp) (Q':VK),xs[i]?=some x->f x=true->A7 H1 H'->(∀ Dm,A7 H' Dm->Q' (g x) Dm)->te (BZ js σ++[some x]) H' Q')
  (hd:∀ H',A7 H1 H'->H' acc=some (.lst ((xs.filter f).map g))->Q (.ref acc) H'):JV J js tt te σ H1 acc Q:=by
 refine ⟨fun i m H=>m=xs.length - i/\i<=xs.length/\A7 H1 H/\H acc=some (.lst (((xs.take i).filter f).map g)),⟨xs.length,by simp,C2 _,AW Ai _,AE⟩,?_⟩;rintro i m H2 ⟨rfl,hi,sm,ha⟩
 by_cases AQ:i<xs.length
 ·refine .inr ⟨qQ i H2 sm AQ,fun x H3 y=>?_⟩;obtain ⟨e,hx⟩:=hy i H2 x H3 y;subst e;have L3:(xs.take (i+1))=xs.take i++[x]:=by
   have e2:xs[i]=x:=by
    rw [BE AQ] at hx;exact BO hx
   rw [Xx AQ,e2]
  have e1:List.filter f (xs.take (i+1))=(xs.take i).filter f++(if f x=true then [x] else []):=by
   rw [L3,Xn];congr 1
   by_cases hf:f x=true <;> simp [hf]
  refine ht i x _ _ hx sm fun H4 s4=>?_
  by_cases hf:f x=true
  ·rw [jd hf];refine he i x H4 _ hx hf (sm.trans s4) fun H5 s5=>?_;have hlen:(((xs.take i).filter f).map g).length<sizeLine:=by
    rw [Ab];have:=Ll f (xs.take i);rw [C1] at this;omega
   refine ⟨_,s5 _ _ (s4 _ _ ha),hlen,xs.length - (i+1),by omega,rfl,AQ,fun b o q=>?_,?_⟩
   ·have hb:b≠acc:=by rintro rfl;rw [Ai] at q;cases q
    rw [AX hb];exact s5 _ _ (s4 _ _ (sm b o q))
   ·rw [AE,e1,jd hf,Dh];rfl
  ·have LB:f x=false:=by simpa using hf
   rw [LB];rw [jG (by decide)];refine ⟨xs.length - (i+1),by omega,rfl,AQ,sm.trans s4,?_⟩;rw [e1,jG hf,EW];exact s4 _ _ ha
 ·have e:i=xs.length:=by omega
  subst e;refine .inl ⟨CH H2 sm,hd H2 sm ?_⟩;rw [Lo] at ha;exact ha
theorem IK {K:ZE5}{xs:List V}{Q:VK}(f:V->Bool)(g:V->V)(hq:CN K tp H1 a xs)(Ai:H1 acc=none)(hz:xs.length<=sizeLine)
  (ht:∀ (i:Nat) (x:V) (H':Hp) (Q':Bool->Hp->Prop),xs[i]?=some x->A7 H1 H'->(∀ Dm,A7 H' Dm->Q' (f x) Dm)->tt (BZ js σ++[some x]) H' Q')
  (he:∀ (i:Nat) (x:V) (H':Hp) (Q':VK),xs[i]?=some x->f x=true->A7 H1 H'->(∀ Dm,A7 H' Dm->Q' (g x) Dm)->te (BZ js σ++[some x]) H' Q')
  (hd:∀ H',A7 H1 H'->H' acc=some (.lst ((xs.filter f).map g))->Q (.ref acc) H'):JV (Mt K tp a xs) js tt te σ H1 acc Q:=
 Y8 xs f g Ai hz (fun i H s hi=>⟨s.sq hq,hi⟩) (fun H s=>⟨s.sq hq,Ao _⟩) (fun i H x H' y=>y) ht he hd
def Fb (z:Str):List V:=z.cps.toList.map fun c=>.str ⟨#[c]⟩
theorem SW (z:Str):(Fb z).length=z.cps.size:=by unfold Fb;simp
theorem rK {Q:VK}(f:V->Bool)(g:V->V)(Ai:H1 acc=none)(hz:z.cps.size<=sizeLine)
  (ht:∀ (i:Nat) (x:V) (H':Hp) (Q':Bool->Hp->Prop),(Fb z)[i]?=some x->A7 H1 H'->(∀ Dm,A7 H' Dm->Q' (f x) Dm)->tt (BZ js σ++[some x]) H' Q')
  (he:∀ (i:Nat) (x:V) (H':Hp) (Q':VK),(Fb z)[i]?=some x->f x=true->A7 H1 H'->(∀ Dm,A7 H' Dm->Q' (g x) Dm)->te (BZ js σ++[some x]) H' Q')
  (hd:∀ H',A7 H1 H'->H' acc=some (.lst (((Fb z).filter f).map g))->Q (.ref acc) H'):JV (Wk z) js tt te σ H1 acc Q:=by
 refine Y8 (Fb z) f g Ai (by rw [SW];exact hz) (fun i H s hi=>?_) (fun H s=>?_) (fun i H x H' y=>?_) ht he hd
 ·rw [SW] at hi;exact hi
 ·show (Fb z).length=z.cps.size;exact SW z
 ·obtain ⟨e,c,hc,hx⟩:=y;refine ⟨e,?_⟩;subst hx;unfold Fb;rw [Ax,RD,hc];rfl
def DW (xs ys:List V):Bool:=xs.length == ys.length && (List.range xs.length).all fun j=>Df (xs.getD j .AB) (ys.getD j .AB)
theorem IP {xs:List V}{x:V}(h:xs[j]?=some x):xs.getD j .AB=x:=by rw [Lj,h];rfl
theorem Zx {xs:List V}{x:V}(h:xs.all E8=true)(e:xs[j]?=some x):E8 x=true:=List.all_eq_true.mp h x (DK e)
theorem O4 {xs:List V}{Ba:List Value}(r1:Vals xs A4)(r2:Vals ys Ba)(fx:xs.all E8=true)(fy:ys.all E8=true):
  ∀ j (h1:j<A4.toArray.size) (h2:j<Ba.toArray.size),SeqAt.EqAt A s A4.toArray[j] Ba.toArray[j] (Df (xs.getD j .AB) (ys.getD j .AB)):=fun j h1 h2=>by
 have l1:=r1.length;have l2:=r2.length;have Cm:j<A4.length:=by simpa using h1
 have DM:j<Ba.length:=by simpa using h2
 have e1:xs[j]?=some (xs[j]'(by omega)):=BE _;have e2:ys[j]?=some (ys[j]'(by omega)):=BE _;obtain ⟨u,hu,ru⟩:=r1.get e1;obtain ⟨v,hv,rv⟩:=r2.get e2;rw [BE Cm] at hu;rw [BE DM] at hv;have IZ:A4[j]=u:=BO hu;have NQ:Ba[j]=v:=BO hv;rw [IP e1,IP e2];have q:=PB (A:=A) (s:=s) ru rv (Zx fx e1) (Zx fy e2);rw [<- IZ,<- NQ] at q
 simpa using q
def MF (K:ZE5)(neg:Bool):R2:=fun x y H Q=>∃ p q xs ys,x=.ref p/\y=.ref q/\((AF K H p xs/\AF K H q ys)∨(AA K H p xs/\AA K H q ys))/\xs.all E8=true/\ys.all E8=true/\
 Q (.bl (if neg then !DW xs ys else DW xs ys)) H
theorem Ju {xs:List V}(h:xs.length≠ys.length):DW xs ys=false:=by
 unfold DW;have:(xs.length == ys.length)=false:=by simpa using h
 rw [this,Bool.false_and]
theorem J8 {xs:List V}(h:xs.length=ys.length):DW xs ys=(List.range xs.length).all fun j=>Df (xs.getD j .AB) (ys.getD j .AB):=by
 unfold DW;have:(xs.length == ys.length)=true:=by simpa using h
 rw [this,Lh]
theorem MI (hu:X.A.units<cLine):BG X (compareOp .Eq) (MF X.K false):=by
 intro pins s σ H x y v u Q I rx ry h;obtain ⟨p,q,xs,ys,rfl,rfl,hq,fx,fy,hQ⟩:=h;cases rx;cases ry;have DN:Q (.bl (DW xs ys)) H:=hQ;rcases hq with ⟨ha,hb⟩ | ⟨ha,hb⟩
 ·obtain ⟨A4,r1,p1,z1⟩:=I.list ha;obtain ⟨Ba,r2,p2,z2⟩:=I.list hb;have l1:=r1.length;have l2:=r2.length
  by_cases hl:xs.length=ys.length
  ·refine SeqAt.eq_listAt (e:=fun j=>Df (xs.getD j .AB) (ys.getD j .AB)) p1.isList p2.isList (by simp;omega) hu (O4 r1 r2 fx fy) ⟨.bl _,H,I,rfl,?_⟩;rw [J8 hl] at DN;simp only [Bt,<- l1];exact DN
  ·rw [Ju hl] at DN;exact SeqAt.eq_list_lengthsAt p1.isList p2.isList (by simp;omega) hu ⟨.bl false,H,I,rfl,DN⟩
 ·obtain ⟨A4,r1,p1,z1⟩:=I.tuple ha;obtain ⟨Ba,r2,p2,z2⟩:=I.tuple hb;have l1:=r1.length;have l2:=r2.length;refine SeqAt.eq_tupleAt (e:=fun j=>Df (xs.getD j .AB) (ys.getD j .AB)) p1 p2 hu (O4 r1 r2 fx fy) ⟨.bl _,H,I,rfl,?_⟩;simp only [Bt,<- l1,<- l2]
  by_cases hl:xs.length=ys.length
  ·rw [J8 hl] at DN;have:(xs.length == ys.length)=true:=by simpa using hl
   rw [this,iM,<- hl,Y1];exact DN
  ·rw [Ju hl] at DN;have:(xs.length == ys.length)=false:=by simpa using hl
   rw [this,Xg];exact DN
theorem MV (hu:X.A.units<cLine):BG X (compareOp .NotEq) (MF X.K true):=by
 intro pins s σ H x y v u Q I rx ry h;obtain ⟨p,q,xs,ys,rfl,rfl,hq,fx,fy,hQ⟩:=h;cases rx;cases ry;have DN:Q (.bl (!DW xs ys)) H:=hQ;rcases hq with ⟨ha,hb⟩ | ⟨ha,hb⟩
 ·obtain ⟨A4,r1,p1,z1⟩:=I.list ha;obtain ⟨Ba,r2,p2,z2⟩:=I.list hb;have l1:=r1.length;have l2:=r2.length
  by_cases hl:xs.length=ys.length
  ·refine SeqAt.RcNeAt.lists (e:=fun j=>Df (xs.getD j .AB) (ys.getD j .AB)) p1.isList p2.isList (by simp;omega) hu (O4 r1 r2 fx fy) _ _ _ _ ⟨.bl _,H,I,rfl,?_⟩;rw [J8 hl] at DN;simp only [Bt,<- l1];exact DN
  ·rw [Ju hl] at DN;exact SeqAt.RcNeAt.lists_lengths p1.isList p2.isList (by simp;omega) hu _ _ _ _ ⟨.bl true,H,I,rfl,DN⟩
 ·obtain ⟨A4,r1,p1,z1⟩:=I.tuple ha;obtain ⟨Ba,r2,p2,z2⟩:=I.tuple hb;have l1:=r1.length;have l2:=r2.length;refine SeqAt.RcNeAt.tuples (e:=fun j=>Df (xs.getD j .AB) (ys.getD j .AB)) p1 p2 hu (O4 r1 r2 fx fy) _ _ _ _ ⟨.bl _,H,I,rfl,?_⟩;simp only [Bt,<- l1,<- l2]
  by_cases hl:xs.length=ys.length
  ·rw [J8 hl] at DN;have:(xs.length == ys.length)=true:=by simpa using hl
   rw [this,iM,<- hl,Y1];exact DN
  ·rw [Ju hl] at DN;have:(xs.length == ys.length)=false:=by simpa using hl
   rw [this,Xg];exact DN
theorem ZAe:CY X (.builtin "isinstance") (fun xs H Q=>∃ x n t b,xs=[x,.ty n]/\EM X.K H x t/\PySem.W.kitOne X.K t (.type n)=some b/\Q (.bl b) H):=by
 intro pins s σ H xs us Q I r h;obtain ⟨x,n,t,b,rfl,ty,e,q⟩:=h;obtain ⟨u,w',rfl,rx,rt⟩:=vals2 r;cases rt;exact zA I rx ty e fun tk=>⟨.bl b,H,I.tok tk,rfl,q⟩
theorem oU {bs:List Bool}(r:Vals (bs.map V.bl) A4){v:Value}(e:A4[i]?=some v):v=.bool (bs.getD i false):=by
 have hl:=r.length;rw [Ab] at hl;have hi:i<A4.length:=(List.getElem?_eq_some_iff.mp e).1;have e1:(bs.map V.bl)[i]?=some (.bl (bs[i]'(by omega))):=by rw [Ax,BE (by omega)];rfl
 obtain ⟨u,hu,ru⟩:=r.get e1;rw [e] at hu;cases hu;cases ru;rw [Lj,BE (by omega)];rfl
theorem range_all (bs:List Bool):(List.range bs.length).all (fun i=>bs.getD i false)=bs.all id:=by
 rw [Lg,HB,HB];constructor
 ·intro h x hx;obtain ⟨i,hi,rfl⟩:=List.mem_iff_getElem.mp hx;have:=h i (List.mem_range.mpr hi);rw [Lj,BE hi] at this;exact this
 ·intro h i hi;rw [Lj,BE (List.mem_range.mp hi)];exact h _ (KJ _)
theorem NJ (hc:X.calm=true):CY X (.builtin "all") (fun xs H Q=>∃ (p:Addr) (bs:List Bool),xs=[.ref p]/\AF X.K H p (bs.map V.bl)/\Q (.bl (bs.all id)) H):=by
 intro pins s σ H xs us Q I r h;obtain ⟨p,bs,rfl,hq,q⟩:=h;obtain ⟨u,rfl,rx⟩:=vals1 r;cases rx;obtain ⟨A4,rv,pl,hz⟩:=I.list hq;have hl:=rv.length;rw [Ab] at hl;refine call_all_walk (xM pl.isList ?_);obtain ⟨o,n,ho,_⟩:=id pl;have Ak:p≠s.heap.objs.size:=BK (B8 ho);refine ⟨s.heap.objs.size,_,_,_,_,_,fun i=>bs.getD i false,rfl,Walks.list (by rw [iK];exact I.ok.hd hc) _ p Ak A4.toArray,⟨⟨_,BU _ rfl,rfl,rfl⟩,pl.isList.push _⟩,fun i v s' Q' E' hv DN=>?_,fun h' tk kp=>?_⟩
 ·have ev:v=.bool (bs.getD i false):=oU rv (by simpa using hv)
  rw [ev];exact lD DN
 ·refine ⟨.bl _,H,I.kept (t':=tk) fun b ob e=>kp b ob (by simpa using BK (B8 e)) (BF _ e),rfl,?_⟩
  rw [Bt,<- hl,range_all];exact q
def fQ:V->List V->Hp->VK->Prop:=fun x vs H Q=>∃ (l:Addr) (xs:List V) (j:Int) (y:V),x=.ref l/\vs=[.int j,y]/\H l=some (.lst xs)/\0<=j/\j<=xs.length/\xs.length<sizeLine/\Q .AB (upd H l (.lst (xs.take j.toNat++y::xs.drop j.toNat)))
theorem ZCB:YO X "list.insert" fQ:=by
 intro pins s σ H x vs v us Q I rx rv h;obtain ⟨l,xs,j,y,rfl,rfl,hH,hj0,hj1,hz,q⟩:=h;cases rx;obtain ⟨ui,uy,rfl,ri,ry⟩:=rv.two;obtain ⟨t,rfl⟩:=ri;obtain ⟨z,A4,n,r,hl,e⟩:=I.O5 hH;have h2:j<2 ^ 63:=by
  have h4:(xs.length:Int)<=(sizeLine:Int):=Int.ofNat_le.mpr z;have h3:((sizeLine:Nat):Int)<2 ^ 63:=by exact_mod_cast IE
  omega
 have qo:(!Builtin.List.listFitsIndex j)=true->False:=by
  have h1:Builtin.List.listFitsIndex j=true:=by
   unfold Builtin.List.listFitsIndex;rw [Dg];exact ⟨jO (by omega),jO h2⟩
  rw [h1];exact fun h=>nomatch h
 have mW:A4.toArray.size<=sizeLine:=Ci (il (List.size_toArray.trans hl.symm)) z;refine call_meets ZDC ⟨_,e,rfl⟩ PySem.F.entry_list_insert (PySem.F.args_list_insert_3 _ _ _) (PySem.AutoSeq1.list_insert_list_int_val_1 l A4.toArray n j t uy qo mW) ⟨e,?_⟩;refine ⟨.AB,_,I.Ze (its':=A4.take j.toNat++uy::A4.drop j.toNat) hH e ?_ ((r.take _).append (.cons ry (r.drop _))) ?_,rfl,q⟩
 ·have h0:¬ (j<0):=by omega
  have hm:min j.toNat A4.toArray.size=j.toNat:=by simp;omega
  simp only [h0,ZAJ,hm];apply Array.toList_inj.mp;simp;exact Xv (by simp)
 ·rw [Bl,BN,C1,Dz];omega
def ZCC:V->Option Int->Option Int->Hp->VK->Prop:=fun x lo hi H Q=>∃ z,x=.str z/\z.length<=sizeLine/\Q (.str (Txt.slice z lo hi)) H
theorem part_of {v:Value}{o:Option Int}(p:IsPart v o):∃ l:Option (Int×Tok),v=partValue l/\l.map (·.1)=o:=by
 cases p with
 | none=>exact ⟨none,rfl,rfl⟩
 | int i t=>exact ⟨some (i,t),rfl,rfl⟩
theorem cV:JZ X ZCC:=by
 intro pins s σ H x v vl vu lo hi sl Q I rx hs pl pu h;obtain ⟨z,rfl,hz,q⟩:=h;obtain ⟨t,rfl⟩:=rx;obtain ⟨l,rfl,hl⟩:=part_of pl;obtain ⟨u,rfl,hu⟩:=part_of pu;subst hl;subst hu;refine ⟨"str", _,F.slot_str_getitem.lookup,typeIs_str _ _ _,wpAny_getItem_str_slice (l:=l) (u:=u) (st:=none) hs rfl (post_val_or_str ⟨Ci (Txt.slice_le z _ _) hz,fun t' k=>?_⟩)⟩;exact ⟨.str _,H,I.tok k,⟨t',rfl⟩,q⟩
end L2
set_option exponentiation.threshold 5000
namespace L2
variable {f p:Addr}{H:Hp}
def A8 (P:Program)(w:World)(K:ZE5)(mg:ZE7)(base:Heap)(x:Str)(k:Nat)(ps:List Str)(sp:Sp):Prop:=
 ∃ f fd,D3 P w K mg base Ez k f fd ps sp/\Binds K fd ps []/\PySem.W.keepIn K (.ref f)=true/\mg x=some (.ref f)
section
variable {P:Program}{w:World}{K:ZE5}{mg:ZE7}{base:Heap}{x qual:Str}{k:Nat}{ps:List Str}{sp:Sp}{st:Stmt}{fd:FuncData}
theorem A8.mk (F:AH K x qual st f fd)(b:Binds K fd ps [])(m:mg x=some (.ref f))(h:D3 P w K mg base Ez k f fd ps sp):A8 P w K mg base x k ps sp:=⟨f,fd,h,b,F.kp,m⟩
variable {X:Cx}{j:Nat}{p pos:Pos}{e:Expr}{es:List Expr}{t:TA}
def Rh (K:ZE5):List V->Hp->VK->Prop:=fun xs H Q=>∃ (p:Addr) (ys:List V),xs=[.ref p]/\(AF K H p ys∨AA K H p ys)/\Q (.int ys.length) H
theorem J4:CY X (.builtin "len") (Rh X.K):=Dt
def QY (K:ZE5):List V->Hp->VK->Prop:=fun xs H Q=>∃ (x:V) (n:String) (t:Value) (b:Bool),xs=[x,.ty n]/\EM K H x t/\PySem.W.kitOne K t (.type n)=some b/\Q (.bl b) H
theorem JQ:CY X (.builtin "isinstance") (QY X.K):=ZAe
theorem LQ:LJ X "list.append" PM:=ZZ
theorem tq:LJ X "list.insert" fQ:=ZCB
def kD (i j:Int):Prop:=i.natAbs<2 ^ 1000/\j.natAbs<2 ^ 1000
theorem dm {n:Nat}(h:n<2 ^ 1000):n.log2<1000:=by
 rcases Nat.eq_zero_or_pos n with e | e
 ·subst e;exact (show (0:Nat).log2<1000 by decide)
 ·exact (Nat.log2_lt (KQ e)).mpr h
theorem bits_le {i:Int}(h:i.natAbs<2 ^ 1000):Builtin.Int.intBits i<=2 ^ 20:=by
 unfold Builtin.Int.intBits;split
 ·exact C2 _
 ·have:=dm h;have e:(2:Nat) ^ 20=1048576:=by decide
  omega
theorem K0:BG X (binaryOp .Mult) (rI kD fun i j=>.int (i * j)):=Qv fun _ _ _ _ _ _ _ hc q=>mul_int q (.of_bits (bits_le hc.1) (bits_le hc.2))
theorem X6:BG X (binaryOp .FloorDiv) (rI (fun _ j=>0<j/\j.natAbs<2 ^ 1000) fun i j=>.int (i / j)):=Qv fun i j _ _ _ _ _ hc q=>by
 have h1:(0:Int)<j:=hc.1;have h2:=dm hc.2;exact floordiv_int (by omega) (by rw [Int.fdiv_eq_ediv_of_nonneg i (by omega)];exact q) (.inl (PyProof.noPylong_of_log2 (by omega)))
theorem ZBZ {body rest:List Stmt}{t u:TS}(e:body=st::rest)(h:PS X st t)(h2:Dq X rest u):Dq X body (MX t u):=by rw [e];exact xv h h2
def Vg (t:TS):TS:=fun D σ H=>∃ J:St->Hp->Prop,t { D with nx:=J } σ H/\∀ σ' H',J σ' H'->D.nx σ' H'
end
def Fc (p:Addr)(H H':Hp):Prop:=∀ b o,b≠p->H b=some o->H' b=some o
theorem Fc.trans {H1 H2:Hp}(a:Fc p H H1)(b:Fc p H1 H2):Fc p H H2:=fun c o hc e=>b c o hc (a c o hc e)
theorem Fc.of {H':Hp}(a:A7 H H'):Fc p H H':=fun c o _ e=>a c o e
theorem Fc.upd {o:HO}:Fc p H (upd H p o):=fun c u hc e=>by rw [AX hc];exact e
end L2
set_option maxHeartbeats 8000000
namespace L2
variable {ss:List Str}
def EN (acc:List Str)(x:Str):List Str:=if acc.any (· == x) then acc else acc++[x]
def dd (ss:List Str):List Str:=ss.foldl EN []
theorem oy (acc:List Str)(x k:Str):(EN acc x).any (· == k)=(acc.any (· == k) || decide (k=x)):=by
 unfold EN
 by_cases h:acc.any (· == x)=true
 ·rw [jd h]
  by_cases e:k=x
  ·subst e;rw [h];simp
  ·simp [e]
 ·rw [jG h,List.any_append]
  by_cases e:k=x
  ·subst e;simp
  ·have hb:(x == k)=false:=by simpa [beq_iff_eq] using (fun h':x=k=>e h'.symm)
   simp [hb,e]
theorem bG (acc:List Str)(x:Str):(EN acc x).length=if acc.any (· == x) then acc.length else acc.length+1:=by
 unfold EN;split <;> simp
theorem fU (ss:List Str)(i:Nat)(h:i<ss.length):dd (ss.take (i+1))=EN (dd (ss.take i)) ss[i]:=by
 unfold dd;rw [Xx h,List.foldl_append];rfl
theorem gf (ss:List Str):(dd ss).length<=ss.length:=by
 have:∀ (l acc:List Str),(l.foldl EN acc).length<=acc.length+l.length:=by
  intro l
  induction l with
  | nil=>intro acc;simp
  | cons x r ih=>
   intro acc;rw [Xp];have h1:=ih (EN acc x);rw [bG] at h1;simp only [BN];split at h1 <;> omega
 have q:=this ss [];simp only [Xr,Nat.zero_add] at q;exact q
section
variable {prog:Program}{w:World}{A:Around}{R:Result->Shared->Prop}{I:Addr}{fp wr:List Addr}{G:Array GenState->Array GenState->Prop}{n:Nat}{P:Nat->Value->Prop}{St:Nat->Shared->Prop}
variable {E:Value->Shared->Prop}{s:Shared}
theorem sub_tuple_set:isSubtype (.type "tuple") (.type "set")=pure false:=by rw [p0];kernel_rfl
theorem sub_tuple_frozenset:isSubtype (.type "tuple") (.type "frozenset")=pure false:=by rw [p0];kernel_rfl
end
def yK (P:Program)(w:World)(a:Addr)(f:Str->Bool)(n:Nat):HO:=.ext fun h=>h.SetOf (strKind P w) a f n
section
variable {X:Cx}
theorem Oj {A4:List Value}(r:Vals (ss.map V.str) A4){i:Nat}{v:Value}(e:A4[i]?=some v):∃ (h:i<ss.length) (t:Tok),v=.str ss[i] t:=by
 have hl:=r.length;rw [Ab] at hl;have hi:i<A4.length:=(List.getElem?_eq_some_iff.mp e).1;have El:i<ss.length:=by omega
 have e1:(ss.map V.str)[i]?=some (.str ss[i]):=by rw [Ax,BE El];rfl
 obtain ⟨u,hu,ru⟩:=r.get e1;rw [e] at hu;cases hu;obtain ⟨t,q⟩:=ru;exact ⟨El,t,q⟩
end
end L2
set_option maxHeartbeats 4000000
namespace L2
variable {X:Cx}{a c e l o tg:Expr}{es ifs:List Expr}{body rest:List Stmt}{ta te tl to:TE}{t tb:TS}{tc tt:TT}{p pos pos' px:Pos}{name x y:Str}{EV op:CmpOp}{r:List V->Hp->VK->Prop}{i j n:Nat}{ps ss:List Str}{sp:Sp}{T:String}{wi:TI}{g:TG}{w:World}{I f:Addr}{s:Shared}{E Q:Value->Shared->Prop}
structure QE (X:Cx) (e:Expr) (t:TE):Prop where h:PE X e t
structure QT (X:Cx) (e:Expr) (t:TT):Prop where h:PT X e t
structure QW (X:Cx) (e:Expr) (t:TT):Prop where h:PW X e t
structure QA (X:Cx) (es:List Expr) (t:TA):Prop where h:PA X es t
structure QS (X:Cx) (st:Stmt) (t:TS):Prop where h:PS X st t
structure HM (X:Cx) (st:List Stmt) (t:TS):Prop where h:Dq X st t
structure QG (X:Cx) (tg:Expr) (t:TG):Prop where h:PG X tg t
structure Oq (X:Cx) (ts:List Expr) (t:GQ):Prop where h:Mp X ts t
structure QI (X:Cx) (tg iter:Expr) (wi:TI):Prop where h:PI X tg iter wi
structure O3 (X:Cx) (ifs:List Expr) (t:TT):Prop where h:HR X ifs t
structure QO (X:Cx) (e:Option Expr) (t:TO):Prop where h:PO X e t
section
variable {b:Expr}{rest:List Expr}{tb tc:TE}{tA Ho:TT}{t:TA}{p2 apos Bv:Pos}
theorem qv (i:Nat)(hN:X.N[i]?=some x:=by rfl)(hv:Uy X.env.scope x:=by first | exact Or.inl rfl | exact Or.inr (Or.inl rfl) | exact Or.inr (Or.inr rfl))(hd:(x == ("__debug__":Str))=false:=by decide)
  (G9:(x == ("__classdict__":Str))=false:=by decide):QE X (.Name x pos) (BL i):=⟨by
 intro pins s σ H Q I h;obtain ⟨v,e,h⟩:=h;obtain ⟨m,hn,hl⟩:=I.loc;obtain ⟨u,r,l⟩:=hl i x v hN e hv;have fin:EP X pins σ Q u s:=⟨v,H,I,r,h⟩;rcases l with ⟨hk,hm⟩ | ⟨hk,c,hc,bJ⟩
 ·exact wpAny_Name (wpAny_loadName_local I.ok.kind hk hn hm fin) hd
 ·rcases hk with hk | hk
  ·exact wpAny_Name (wpAny_loadName_cell I.ok.kind hk hc bJ fin) hd
  ·exact wpAny_Name (wpAny_loadName_free I.ok.kind hk hc bJ fin G9) hd⟩
theorem A9 {i j pos}:QE X (.Constant (.int i) j pos) (tC (.int i)):=⟨fun _ _ _ H _ I h=>wpAny_Constant_int ⟨.int i,H,I.tok _,⟨_,rfl⟩,h⟩⟩
theorem LF {b j pos}:QE X (.Constant (.bool b) j pos) (tC (.bl b)):=⟨fun _ _ _ H _ I h=>Constant_bool ⟨.bl b,H,I,rfl,h⟩⟩
theorem MN {j pos}:QE X (.Constant .none j pos) (tC .AB):=⟨fun _ _ _ H _ I h=>Constant_none ⟨.AB,H,I,rfl,h⟩⟩
theorem Aa {x j pos}:QE X (.Constant (.str x) j pos) (tC (.str x)):=⟨fun _ _ _ H _ I h=>Calls.Constant_str ⟨.str x,H,I.tok _,⟨_,rfl⟩,h⟩⟩
theorem Ja {v:V}{u:Value}(hg:Gl X x)(hm:X.mg x=some u)(r:RelV v u)(hd:(x == ("__debug__":Str))=false:=by decide):QE X (.Name x pos) (tC v):=⟨fun _ _ _ H _ I h=>Rk I hg hm ⟨v,H,I,r,h⟩ hd⟩
theorem JO (T:String)(hm:X.mg x=none)(hg:Gl X x:=by rfl)(hv:bootBuiltins x=some (.type T):=by decide +kernel)(hn:x ≠ "__name__" := by decide)(hd:(x == ("__debug__":Str))=false:=by decide):
  QE X (.Name x pos) (tC (.ty T)):=⟨uu hg hm hv rfl hn hd⟩
theorem B0 {op:Operator}{r:R2}(ho:BG X (binaryOp op) r)(ha:QE X a ta)(hb:QE X b tb):QE X (.BinOp a op b pos) (Bx r ta tb):=⟨by
 have ha:=ha.h;have hb:=hb.h;intro pins s σ H Q I h;exact wpAny_BinOp (RM ha hb I h fun v u s2 x y H2 I2 rx ry q=>ho pins s2 σ H2 x y v u Q I2 rx ry q)⟩
theorem yq {r:R2}(ho:BG X (compareOp op) r)(ha:QE X a ta)(hb:QE X b tb)(hm:behindInMarks op b=false):QE X (.Compare a [op] [b] pos) (Bx r ta tb):=⟨by
 have ha:=ha.h;have hb:=hb.h;intro pins s σ H Q I h;exact wpAny_Compare1 (RM ha hb I h fun v u s2 x y H2 I2 rx ry q=>ho pins s2 σ H2 x y v u Q I2 rx ry q) hm⟩
theorem r8 {r:R2}(ho:BG X (compareOp op) r)(ha:QE X a ta)(hb:QE X b tb)(hm:behindInMarks op b=false):QT X (.Compare a [op] [b] pos) (Ki (Bx r ta tb)):=⟨yy ho ha.h hb.h hm⟩
theorem Zg {r r':R2}(ho:BG X (compareOp op) r)(Dp:BG X (compareOp EV) r')(ha:QE X a ta)(hb:QE X b tb)(hc:QE X c tc)
  (hm:lastMarks [op,EV] [b,c]=false:=by with_unfolding_all rfl):QE X (.Compare a [op,EV] [b,c] pos) (OH r r' ta tb tc):=⟨by
 have ha:=ha.h;have hb:=hb.h;have hc:=hc.h;intro pins s σ H Q I h;refine Compare_chain (AO (ha pins s σ H _ I h) fun v s1 ⟨x,H1,I1,r1,q1⟩=>chain_link (AO (hb pins s1 σ H1 _ I1 q1) fun u s2 ⟨y,H2,I2,r2,q2⟩=>
  AO (ho pins s2 σ H2 x y v u _ I2 r1 r2 q2) fun d s3 ⟨z,H3,I3,r3,k,e,q3⟩=>?_)) hm
 subst e;cases r3;refine lD ?_;cases k with
 | false=>exact ite_ff ⟨.bl false,H3,I3,rfl,q3⟩
 | true=>exact ite_tt (chain_last (AO (hc pins s3 σ H3 _ I3 q3) fun w' s4 ⟨z',H4,I4,r4,q4⟩=>Dp pins s4 σ H4 y z' u w' Q I4 r2 r4 q4))⟩
theorem Ql {r r':R2}(ho:BG X (compareOp op) r)(Dp:BG X (compareOp EV) r')(ha:QE X a ta)(hb:QE X b tb)(hc:QE X c tc)
  (hm:lastMarks [op,EV] [b,c]=false:=by with_unfolding_all rfl):QT X (.Compare a [op,EV] [b,c] pos) (Ki (OH r r' ta tb tc)):=⟨by
 have ha:=ha.h;have hb:=hb.h;have hc:=hc.h;intro pins s σ H Q I h;refine isTrue_chain (AO (ha pins s σ H _ I h) fun v s1 ⟨x,H1,I1,r1,q1⟩=>test_link (AO (hb pins s1 σ H1 _ I1 q1) fun u s2 ⟨y,H2,I2,r2,q2⟩=>
  AO (ho pins s2 σ H2 x y v u _ I2 r1 r2 q2) fun d s3 ⟨z,H3,I3,r3,k,e,q3⟩=>?_)) hm
 subst e;cases r3;refine lD ?_;cases k with
 | false=>
  obtain ⟨k',e',q'⟩:=q3;cases e';exact ite_ff ⟨H3,I3,q'⟩
 | true=>
  refine ite_tt (test_last (AO (hc pins s3 σ H3 _ I3 q3) fun w' s4 ⟨z',H4,I4,r4,q4⟩=>AO (Dp pins s4 σ H4 y z' u w' _ I4 r2 r4 q4) fun d' s5 m6=>?_));obtain ⟨z2,H5,I5,r5,k2,e2,q5⟩:=m6;subst e2;cases r5;exact lD ⟨H5,I5,q5⟩⟩
theorem Iu {op}(h:QE X a ta):QE X (.BoolOp op [a] pos) ta:=⟨by have h:=h.h;exact fun pins s σ H Q I hw=>BoolOp_one (h pins s σ H Q I hw)⟩
theorem HP (ha:QE X a ta)(hb:QE X (.BoolOp .And (b::rest) pos) tb):QE X (.BoolOp .And (a::b::rest) pos) (UP ta tb):=⟨by
 have ha:=ha.h;have hb:=hb.h;intro pins s σ H Q I h;refine BoolOp_and (AO (ha pins s σ H _ I h) fun v s1 EG=>?_);obtain ⟨x,H1,I1,r1,q1⟩:=EG;obtain ⟨c,rfl,q1⟩:=q1;cases r1;refine lD ?_;cases c with
 | true=>exact hb pins s1 σ H1 Q I1 q1
 | false=>exact ⟨.bl false,H1,I1,rfl,q1⟩⟩
theorem oC (ha:QE X a ta)(hb:QE X (.BoolOp .Or (b::rest) pos) tb):QE X (.BoolOp .Or (a::b::rest) pos) (dZ ta tb):=⟨by
 have ha:=ha.h;have hb:=hb.h;intro pins s σ H Q I h;refine BoolOp_or (AO (ha pins s σ H _ I h) fun v s1 EG=>?_);obtain ⟨x,H1,I1,r1,q1⟩:=EG;obtain ⟨c,rfl,q1⟩:=q1;cases r1;refine lD ?_;cases c with
 | false=>exact hb pins s1 σ H1 Q I1 q1
 | true=>exact ⟨.bl true,H1,I1,rfl,q1⟩⟩
theorem rO (ha:QE X a ta):QE X (.UnaryOp .Not a pos) (Xa ta):=⟨by
 have ha:=ha.h;intro pins s σ H Q I h;refine UnaryOp_ (AO (ha pins s σ H _ I h) fun v s1 EG=>?_);obtain ⟨x,H1,I1,r1,q1⟩:=EG;obtain ⟨c,rfl,q1⟩:=q1;cases r1;exact not_of (lD ⟨.bl (!c),H1,I1,rfl,q1⟩)⟩
theorem Hg (ha:QT X a tA):QW X (.BoolOp .And [a] pos) tA:=⟨by
 have ha:=ha.h;intro wh pins s σ H Q I h;refine isTrue_and (AO (ha pins s σ H Q I h) fun c s1 e=>?_);cases c with
 | true=>exact isTrue_and_nil e
 | false=>exact e⟩
theorem K9 (ha:QT X a tA):QW X (.BoolOp .Or [a] pos) tA:=⟨by
 have ha:=ha.h;intro wh pins s σ H Q I h;refine isTrue_or (AO (ha pins s σ H Q I h) fun c s1 e=>?_);cases c with
 | false=>exact isTrue_or_nil e
 | true=>exact e⟩
theorem HX (ha:QT X a tA)(hb:QW X (.BoolOp .And (b::rest) pos) Ho):QW X (.BoolOp .And (a::b::rest) pos) (Tp tA Ho):=⟨by
 have ha:=ha.h;have hb:=hb.h;intro wh pins s σ H Q I h;refine isTrue_and (AO (ha pins s σ H _ I h) fun c s1 EG=>?_);obtain ⟨H1,I1,q1⟩:=EG;cases c with
 | true=>exact hb wh pins s1 σ H1 Q I1 q1
 | false=>exact ⟨H1,I1,q1⟩⟩
theorem Gy (ha:QT X a tA)(hb:QW X (.BoolOp .Or (b::rest) pos) Ho):QW X (.BoolOp .Or (a::b::rest) pos) (VD tA Ho):=⟨by
 have ha:=ha.h;have hb:=hb.h;intro wh pins s σ H Q I h;refine isTrue_or (AO (ha pins s σ H _ I h) fun c s1 EG=>?_);obtain ⟨H1,I1,q1⟩:=EG;cases c with
 | true=>exact ⟨H1,I1,q1⟩
 | false=>exact hb wh pins s1 σ H1 Q I1 q1⟩
theorem QW.pt {t:TT}(h:QW X e t):QT X e t:=⟨h.h.pt⟩
theorem EO (ha:QT X a tA):QT X (.UnaryOp .Not a pos) (Lv tA):=⟨by
 have ha:=ha.h;intro pins s σ H Q I h;exact isTrue_not (ha pins s σ H (fun c H1=>Q (!c) H1) I h)⟩
theorem Fl (h:QE X e te)(he:∀ whole,isTrue e X.env whole=(do let v <- whole;standAt e.pos;holding [v] (truthy v)):=by intro _;rfl):QT X e (tB te):=⟨by
 have h:=h.h;intro pins s σ H Q I hw;refine isTrue_plain (AO (h pins s σ H _ I hw) fun v s1 ⟨x,H1,I1,r1,q1⟩=>?_) (he _);obtain ⟨d,rfl,q⟩:=q1;cases r1;exact lD ⟨H1,I1,q⟩⟩
theorem A6:QA X [] B5:=⟨fun _ _ _ _ H Q I h=>iO ⟨[],H,I,.nil,h⟩⟩
theorem A0 (ha:QE X e te)(hr:QA X es t)(hs:starEach (e::es) X.env=(false,eval e X.env)::starEach es X.env:=by rfl):QA X (e::es) (AV te t):=⟨ZAi ha.h hr.h hs⟩
theorem CC {x1}(h:QA X es t):QE X (.Tuple es x1 pos) (PK t):=⟨ZBy h.h⟩
theorem Ep (h:QA X es t):QE X (.List es pos) (Qa t):=⟨mI h.h⟩
theorem EZ:QO X none RW:=⟨by
 intro pins s σ H Q I h;rw [evalPart_none];exact j9 ⟨none,H,I,.none,h⟩⟩
theorem De (h:QE X e te):QO X (some e) (XW te):=⟨by
 have h:=h.h;intro pins s σ H Q I hw;rw [evalPart_some];refine AO (h pins s σ H _ I hw) fun u s1 jr=>?_;obtain ⟨x,H1,I1,r1,q1⟩:=jr;obtain ⟨i,rfl,q⟩:=q1;obtain ⟨t,rfl⟩:=r1;exact ⟨some i,H1,I1,.int i t,q⟩⟩
theorem E4 {r:V->Option Int->Option Int->Hp->VK->Prop}{lo hi:Option Expr}{tl th:TO}(hr:JZ X r)(he:QE X e te)(hl:QO X lo tl)(hu:QO X hi th):QE X (.Subscript e (.Slice lo hi none p2) pos) (Wf r te tl th):=⟨by
 have he:=he.h;have hl:=hl.h;have hu:=hu.h;intro pins s σ H Q I h;refine Subscript_ (AO (he pins s σ H _ I h) fun v s1 EG=>?_);obtain ⟨x,H1,I1,r1,q1⟩:=EG;refine wpAny_Slice (AO (hl pins s1 σ H1 _ I1 q1) fun vl s2 ⟨l,H2,I2,pl,q2⟩=>AO (hu pins s2 σ H2 _ I2 q2) fun vu s3 Ni=>?_);obtain ⟨u,H3,I3,pu,q3⟩:=Ni;rw [evalPart_none];refine j9 ?_;have I4:Inv X pins σ H3 { s3 with heap:=s3.heap.push { cls:=.type "slice", data:=.fields #[vl,vu,.none] } }:=I3.kept (t':=s3.toks) fun b ob q=>BF _ q
 obtain ⟨T,id,hT,ht,hg⟩:=hr pins { s3 with heap:=s3.heap.push { cls:=.type "slice", data:=.fields #[vl,vu,.none] } } σ H3 x v vl vu l u s3.heap.objs.size Q I4 r1 (Heap.IsSliceOf.new ..) pl pu q3
 show wpAny (model X.prog X.w) X.A (subscriptTail e (.Slice lo hi none p2) v (.ref s3.heap.objs.size)) (EP X pins σ Q) X.xe { s3 with heap:=s3.heap.push { cls:=.type "slice", data:=.fields #[vl,vu,.none] } }
 exact tail_any (ops:=[.ref s3.heap.objs.size,v]) ht hT hg (by with_unfolding_all rfl)⟩
theorem lW {r:R2}(hr:FZ X r)(ha:QE X a ta)(hb:QE X b tb)(hs:T6 b):QE X (.Subscript a b pos) (Bx r ta tb):=⟨by
 have ha:=ha.h;have hb:=hb.h;intro pins s σ H Q I h;exact Subscript_ (RM ha hb I h fun v u s2 x y H2 I2 rx ry q=>hr a b pins s2 σ H2 x y v u Q I2 rx ry q (hs _ _))⟩
theorem uB {k:Nat}(h:A8 X.prog X.w X.K X.mg X.base x k ps sp)(hr:Bd j X.A)(hk:k<=j)(ha:QA X (e::es) t)(hg:Gl X x:=by rfl)(Cd:(x == ("__debug__":Str))=false:=by decide)
  (he:starEach (e::es) X.env=(false,eval e X.env)::starEach es X.env:=by rfl) (Bk:(backTo pos (starEach es X.env)).any (·.1)=false:=by rfl):QE X (.Call (.Name x p) (e::es) [] pos) (Bz sp [] E0 t):=⟨by
 have ha:=ha.h;obtain ⟨f,fd,F,b,kp,m⟩:=h;exact ZCF (F.mono hk) hr hg m kp b .nil Ph ha Cd he Bk⟩
theorem rN {id:String}(hc:CY X (.builtin id) r)(hg:Gl X x)(hm:X.mg x=none)(hv:bootBuiltins x=some (.builtin id))(ha:QA X (e::es) t)(hn:x ≠ "__name__" := by decide)(Cd:(x == ("__debug__":Str))=false:=by decide)
  (he:starEach (e::es) X.env=(false,eval e X.env)::starEach es X.env:=by rfl) (Bk:(backTo pos (starEach es X.env)).any (·.1)=false:=by rfl):QE X (.Call (.Name x p) (e::es) [] pos) (Ck r t):=⟨by
 have ha:=ha.h;intro pins s σ H Q I h;refine oZ (IU I hg hm hv ?_ hn Cd);exact PyProof.Rows.callWith_builtin1 (AO (ha pos pins s σ H _ I h) fun us s1 AJ=>by obtain ⟨vs,H1,I1,r1,q1⟩:=AJ;exact hc pins s1 σ H1 vs us Q I1 r1 q1) he Bk⟩
theorem jb (hc:CY X (.type T) r)(hg:Gl X x)(hm:X.mg x=none)(hv:bootBuiltins x=some (.type T))(ha:QA X (e::es) t)(hn:x ≠ "__name__" := by decide)(Cd:(x == ("__debug__":Str))=false:=by decide)
  (he:starEach (e::es) X.env=(false,eval e X.env)::starEach es X.env:=by rfl) (Bk:(backTo pos (starEach es X.env)).any (·.1)=false:=by rfl):QE X (.Call (.Name x p) (e::es) [] pos) (Ck r t):=⟨by
 have ha:=ha.h;intro pins s σ H Q I h;refine oZ (IU I hg hm hv ?_ hn Cd);exact Ny (AO (ha pos pins s σ H _ I h) fun us s1 AJ=>by obtain ⟨vs,H1,I1,r1,q1⟩:=AJ;exact hc pins s1 σ H1 vs us Q I1 r1 q1) he Bk⟩
theorem G3 {id:String}{r:V->List V->Hp->VK->Prop}(pa:PlainAttrs T)(slot:Slot T name id)(TR:typeOf (.builtin id)=pure (.type "method_descriptor"))(hm:LJ X id r)(ho:QE X o to)(ha:QA X (e::es) t)
  (VI:attributeBase o name X.env (eval o X.env)=eval o X.env:=by rfl)
  (TN:((backTo Bv (starEach (e::es) X.env)).all (fun x=>!x.1) && (backToKw Bv (keywordEach [] X.env)).all (fun x=>x.1.isSome)
   && decide ((e::es).length+([]:List Keyword).length+(if ([]:List Keyword).isEmpty then 0 else 1)<30))=true:=by rfl)
  (Wu:(apos.endLine == Bv.line)=true:=by rfl) (hs:starEach (e::es) X.env=(false,eval e X.env)::starEach es X.env:=by rfl) (VP:(backTo Bv (starEach es X.env)).any (·.1)=false:=by rfl) :
  QE X (.Call (.Attribute o name apos) (e::es) [] Bv) (Qg X.K T r to t):=⟨by
 have ho:=ho.h;have ha:=ha.h;intro pins s σ H Q I h;refine wpAny_Call_method_late VI TN Wu rfl (AO (ho pins s σ H _ I h) fun v s1 rE=>?_);obtain ⟨x,H1,I1,r1,ty,q1⟩:=rE;obtain ⟨h1,h2⟩:=qy I1 r1 ty;refine ⟨T,id,pa,slot,TR,h1,h2,?_⟩;have hA:=ha Bv pins s1 σ H1 _ I1 q1;rw [hs] at hA ⊢;refine ZCc (by show (false || (backTo Bv (starEach es X.env)).any (·.1))=false;rw [VP] <;> rfl) (Calls.evalArgs_plain ?_)
 exact AO hA fun us s2 AJ=>by obtain ⟨vs,H2,I2,r2,q2⟩:=AJ;exact hm pins s2 σ H2 x vs v us Q I2 r1 r2 q2⟩
variable {elt iter:Expr}{scope:Scope}{Af:List Str}{js:List Nat}
theorem FF (hl:QE X l tl):QI X tg l (Qf X.K tl):=⟨by
 have hl:=hl.h;intro pins s σ H R I h;refine AO (hl pins s σ H _ I h) fun v s1 ⟨x,H1,I1,r1,q1⟩=>?_;obtain ⟨tp,a,xs,e,hq,q⟩:=q1;subst e;cases r1;have fin:∀ b∈[s1.heap.objs.size],Ds X pins H1 b:=fun b hb=>by
  have e:b=s1.heap.objs.size:=by simpa using hb
  subst e;exact I1.Kt (Ao _) (I1.AL.fresh (Ao _))
 cases tp with
 | false=>
  obtain ⟨A4,rv,p,hz⟩:=I1.list hq;refine xM p.isList ?_;exact ⟨s1.heap.objs.size,[s1.heap.objs.size],_,_,H1,rfl,I1.kept (t':=s1.toks) fun b o e=>BF _ e,ZAK a _ xs,⟨_,BU _ rfl,rfl,rfl⟩,fin,q⟩
 | true=>
  obtain ⟨A4,rv,p,hz⟩:=I1.tuple hq;refine wpAny_pyIter_tuple (show s1.heap.IsTuple a A4.toArray from p) ?_;exact ⟨s1.heap.objs.size,[s1.heap.objs.size],_,_,H1,rfl,I1.kept (t':=s1.toks) fun b o e=>BF _ e,sy a _ xs,⟨_,BU _ rfl,rfl,rfl⟩,fin,q⟩⟩
theorem nO (hl:QE X l tl):QI X tg l (i7 tl):=⟨by
 have hl:=hl.h;intro pins s σ H R I h;refine AO (hl pins s σ H _ I h) fun v s1 ⟨x,H1,I1,r1,q1⟩=>?_;obtain ⟨z,e,q⟩:=q1;subst e;obtain ⟨t,rfl⟩:=r1;have fin:∀ b∈[s1.heap.objs.size],Ds X pins H1 b:=fun b hb=>by
  have e:b=s1.heap.objs.size:=by simpa using hb
  subst e;exact I1.Kt (Ao _) (I1.AL.fresh (Ao _))
 have kp:∀ (ob:Obj),Inv X pins σ H1 { s1 with heap:=s1.heap.push ob }:=fun ob=>I1.kept (t':=s1.toks) fun b o e=>BF _ e
 cases ha:z.cps.all (· < 128)
 ·refine wpAny_pyIter_wide ha ?_;exact ⟨s1.heap.objs.size,[s1.heap.objs.size],_,_,H1,rfl,kp _,aI (t:=t) (by decide) (fun A' hA=>Walks.strWide hA _ z t) (fun _ _ _ _ _ st h=>wpAny_pyIter_striter_wide st h),⟨_,BU _ rfl,rfl,rfl⟩,fin,q⟩
 ·refine wpAny_pyIter_ascii ha ?_;exact ⟨s1.heap.objs.size,[s1.heap.objs.size],_,_,H1,rfl,kp _,aI (t:=t) (by decide) (fun A' hA=>Walks.strAscii hA _ z t) (fun _ _ _ _ _ st h=>wpAny_pyIter_striter_ascii st h),⟨_,BU _ rfl,rfl,rfl⟩,fin,q⟩⟩
theorem Sj {ta:TA}(hg:Gl X "range")(hm:X.mg "range"=none)(ha:QA X [a] ta)(hs:starEach [a] X.env=[(false,eval a X.env)]:=by rfl):QI X tg (.Call (.Name "range" p) [a] [] pos) (Ul ta):=⟨by
 have ha:=ha.h;intro pins s σ H R I h;refine Call_ (IU I hg hm boot_range (Ny (AO (ha pos pins s σ H _ I h) fun us s1 ⟨vs,H1,I1,r1,q1⟩=>?_) hs rfl));obtain ⟨j,e,q1,q2,q⟩:=q1;subst e;cases r1 with
 | cons r rr=>
  cases rr;obtain ⟨t,rfl⟩:=r;exact call_range_1 (eP I1 (by omega) (by omega) q1 q2 (by simpa using q))⟩
theorem MM:O3 X [] J6:=⟨fun pins s σ H Q I h=>by
 rw [iV];exact j9 ⟨H,I,h⟩⟩
theorem JU {t:TT}(hc:QT X c t):O3 X [c] t:=⟨xQ hc.h⟩
theorem G2 (hc:X.calm=true)(S:DV X.N X.env.scope scope x Af js)(hi:QI X (.Name x px) iter wi)
  (EL:∀ fp C s H,O3 (J1 X (Af++[x]) scope (CD X.env.cells scope.names) C s H fp) ifs tt) (EK:∀ fp C s H,QE (J1 X (Af++[x]) scope (CD X.env.cells scope.names) C s H fp) elt te)
  (hs:∀ v,foldedSetIterable iter X.env v=pure v:=by intro _;rfl):QE X (.ListComp elt [⟨.Name x px,iter,ifs,0⟩] scope pos) (Im wi js tt te):=⟨zU hc S hi.h (fun fp C s H=>(EL fp C s H).h) (fun fp C s H=>(EK fp C s H).h) hs⟩
theorem xS {py Hx:Pos}(hN:X.N.Nodup)(El:X.N[i]?=some y)(hy:Loc X.env.scope y)(hc:X.calm=true)(S:DV X.N X.env.scope scope x Af js)(hi:QI X (.Name x px) iter wi)
  (EL:∀ fp C s H,O3 (J1 X (Af++[x]) scope (CD X.env.cells scope.names) C s H fp) ifs tt) (EK:∀ fp C s H,QE (J1 X (Af++[x]) scope (CD X.env.cells scope.names) C s H fp) elt te)
  (MZ:swapsWith (.ListComp elt [⟨.Name x px,iter,ifs,0⟩] scope pos) (some (.Name y py)) Hx.line X.env=pure true:=by rfl)
  (hf:X.fn y=true∨X.env.scope.names.lookup y=some .local:=by first | exact .inl rfl | exact .inr rfl | assumption)
  (hs:∀ v,foldedSetIterable iter X.env v=pure v:=by intro _;rfl):QS X (.Assign [.Name y py] (.ListComp elt [⟨.Name x px,iter,ifs,0⟩] scope pos) Hx) (EX (Im wi js tt te) (D1 i)):=
 ⟨jC hN El hy hc S hi.h (fun fp C s H=>(EL fp C s H).h) (fun fp C s H=>(EK fp C s H).h) MZ hf hs⟩
theorem lE (hN:X.N.Nodup)(hi:X.N[i]?=some x)(hx:Loc X.env.scope x)(hf:X.fn x=true∨X.env.scope.names.lookup x=some .local:=by first | exact .inl rfl | exact .inr rfl | assumption):QG X (.Name x pos) (D1 i):=⟨iG hN hi hx hf⟩
theorem Ka:Oq X [] Qq:=⟨by
 intro pins s σ H vs us Q I r h;obtain ⟨e,h⟩:=h;subst e;cases r;exact assignInOrder_nil ⟨σ,H,I,h⟩⟩
theorem EU {t:TG}{u:GQ}(h1:QG X e t)(h2:Oq X es u)
  (hs:(assignEach (e::es) X.env).map (·.2)=assign e X.env::(assignEach es X.env).map (·.2):=by rfl):Oq X (e::es) (Jj t u):=⟨by
 have h1:=h1.h;have h2:=h2.h;intro pins s σ H vs us Q I r h;obtain ⟨v,vr,e1,h⟩:=h;subst e1;cases r with
 | cons r rr=>
  rw [hs];refine assignInOrder_cons (AO (h1 pins s σ H _ _ _ I r h) fun _ s1 wG=>?_);obtain ⟨σ1,H1,I1,q1⟩:=wG;exact h2 pins s1 σ1 H1 _ _ Q I1 rr q1⟩
theorem Kz {k:Nat}{t:GQ}(hc:X.calm=true)(h:Oq X es t)(hn:(assignEach es X.env).length=n:=by rfl)(CH:(assignEach es X.env).findIdx? (·.1)=none:=by rfl):QG X (.Tuple es k pos) (P8 X.K n t):=⟨by
 have h:=h.h;intro pins s σ H v u Q I r hw;obtain ⟨a,xs,e1,hq,hl,hw⟩:=hw;subst e1;cases r;obtain ⟨A4,rv,ht,hz⟩:=I.tuple hq;refine assign_Tuple_tuple (I.ok.hd hc) ht (by simp [hn,<- hl,rv.length]) CH fun h' hx=>?_;have I1:Inv X pins σ H { s with heap:=h' }:=I.kept (t':=s.toks) fun b o e=>hx b o (BK (B8 e)) e
 exact h pins _ σ H xs _ Q I1 (by simpa using rv) hw⟩
theorem Z8 {i:Expr}{ti:TE}{t:QP}(ho:QE X o to)(hi:QE X i ti)(hs:XB X t)
  (ha:∀ v,assign (.Subscript o i pos) X.env v=(do
   let ov <- holding [v] (eval o X.env)
   let iv <- holding [v,ov] (eval i X.env)
   standAt pos
   holding [v,ov,iv] (setItem ov iv v)
   release [v,ov,iv] []):=by intro _;rfl):QG X (.Subscript o i pos) (ax to ti t):=⟨by
 have ho:=ho.h;have hi:=hi.h;intro pins s σ H v u Q I r h;rw [ha];refine j7 (lq (AO (ho pins s σ H _ I h) fun ov s1 xl=>?_));obtain ⟨x,H1,I1,r1,q1⟩:=xl;refine j7 (lq (AO (hi pins s1 σ H1 _ I1 q1) fun iv s2 WX=>?_));obtain ⟨y,H2,I2,r2,q2⟩:=WX;refine j7 (wpAny_standAt (j7 (lq (AO (hs pins s2 σ H2 x y v ov iv u _ I2 r1 r2 r q2) fun _ s3 vk=>?_))));obtain ⟨H3,I3,q3⟩:=vk;exact wpAny_release ⟨σ,H3,I3,q3⟩⟩
end
section
variable {st:Stmt}{u:TS}
theorem B3:HM X [] Rz:=⟨fun _ _ σ H _ I h=>vL ⟨σ,H,I,h⟩⟩
theorem AI (e:body=st::rest)(h:QS X st t)(h2:HM X rest u):HM X body (MX t u):=⟨ZBZ e h.h h2.h⟩
theorem AG (e:body=[st])(h:QS X st t):HM X body t:=⟨by have h:=h.h;rw [e];exact ZA9 h⟩
theorem Dn:QS X st cW:=⟨fun _ _ _ _ _ _ h=>h.elim⟩
theorem DC (he:QE X e te)(hs:swapsWith e none pos.line X.env=pure false:=by rfl):QS X (.Expr e pos) (LH te):=⟨by
 have he:=he.h;intro pins s σ H D I h;exact wpAny_Expr_any (AO (he pins s σ H _ I h) fun v s1 AJ=>by obtain ⟨x,H1,I1,r1,q1⟩:=AJ;exact ⟨σ,H1,I1,q1⟩) I.quiet hs⟩
theorem Ac (he:QE X e te):QS X (.Return (some e) pos) (Gu te):=⟨by
 have he:=he.h;intro pins s σ H D I h;exact wpAny_Return_some (AO (he pins s σ H _ I h) fun v s1 AJ=>by obtain ⟨x,H1,I1,r1,q1⟩:=AJ;exact ⟨x,σ,H1,I1,r1,q1⟩)⟩
theorem Aw {a b:List Stmt}(hc:QT X c tc)(ha:HM X a t)(hb:HM X b u):QS X (.If c a b pos) (MU tc t u):=⟨by
 have hc:=hc.h;have ha:=ha.h;have hb:=hb.h;intro pins s σ H D I h;refine wpAny_If (AO (hc pins s σ H _ I h) fun d s1 EG=>?_);obtain ⟨H1,I1,q1⟩:=EG;cases d with
 | true=>exact ha pins s1 σ H1 D I1 q1
 | false=>exact hb pins s1 σ H1 D I1 q1⟩
theorem Jn (he:QE X e te)(hg:QG X tg g)(hs:swapsWithSole [tg] e pos.line X.env=pure false:=by rfl)(hw:swappedStores [tg] e X.env=pure none:=by rfl)
  (h1:(assignEach [tg] X.env).map (·.2)=[assign tg X.env]:=by rfl):QS X (.Assign [tg] e pos) (EX te g):=⟨by
 have he:=he.h;have hg:=hg.h;intro pins s σ H D I h;refine wpAny_Assign_stores (AO (he pins s σ H _ I h) fun v s1 ⟨x,H1,I1,r1,q1⟩=>?_) hs hw;rw [h1];exact AO (hg pins s1 σ H1 x v _ I1 r1 q1) fun _ s2 q=>q⟩
theorem lH (hN:X.N.Nodup)(hi:X.N[i]?=some x)(hx:Loc X.env.scope x)(he:QE X e te)(hs:swapsWith e (some (.Name x pos')) pos.line X.env=pure false:=by rfl)(hf:X.fn x=true∨X.env.scope.names.lookup x=some .local:=by first | exact .inl rfl | exact .inr rfl | assumption):
  QS X (.Assign [.Name x pos'] e pos) (EX te (D1 i)):=⟨by
 have he:=he.h;intro pins s σ H D I h;refine wpAny_Assign_Name (AO (he pins s σ H _ I h) fun v s1 ⟨y,H1,I1,r1,q1⟩=>?_) hs;exact gE I1 hN hi hx r1 (fun s2 I2=>⟨_,H1,I2,q1⟩) hf⟩
theorem Zh (hp:PassesOwn (model X.prog X.w) X.A X.env X.xe)(hc:QT X c tc)(hb:HM X body tb):QS X (.While c body [] pos) (ck tc tb):=⟨by
 have hc:=hc.h;have hb:=hb.h;intro pins s σ H D I h;obtain ⟨W,⟨m0,w0⟩,turn⟩:=h;refine wpAny_While (codeAny_whileLoop (fun n s'=>∃ σ' H',Inv X pins σ' H' s'/\W n σ' H') ?_ m0 ⟨σ,H,I,w0⟩);rintro n s1 ⟨σ1,H1,I1,w1⟩;refine pS hp (AO (hc pins s1 σ1 H1 _ I1 (turn n σ1 H1 w1)) fun b s2 tS=>?_);obtain ⟨H2,I2,q2⟩:=tS;cases b with
 | true=>
  obtain ⟨N,hN,q2⟩:=q2;rw [jd rfl];refine pS hp (AO (hb pins s2 σ1 H2 _ I2 q2) fun f s3 q3=>?_);cases f with
  | next=>
   obtain ⟨σ3,H3,I3,n3⟩:=q3;obtain ⟨m',hm,w3⟩:=hN σ3 H3 n3;exact ⟨m',hm,σ3,H3,I3,w3⟩
  | cont=>
   obtain ⟨σ3,H3,I3,n3⟩:=q3;obtain ⟨m',hm,w3⟩:=hN σ3 H3 n3;exact ⟨m',hm,σ3,H3,I3,w3⟩
  | brk=>exact q3
  | ret v=>exact q3
 | false=>
  rw [jG DJ];exact vL ⟨σ1,H2,I2,q2⟩⟩
theorem Ip {iter:Expr}(hp:PassesOwn (model X.prog X.w) X.A X.env X.xe)(hc:X.calm=true)(hi:QI X tg iter wi)(hg:QG X tg g)(hb:HM X body tb)
  (hs:∀ x,foldedSetIterable iter X.env x=pure x:=by intro _;rfl):QS X (.For tg iter body [] pos) (TK wi g tb):=⟨by
 have hi:=hi.h;have hg:=hg.h;have hb:=hb.h;intro pins s σ H D I h;refine wpAny_For (AO (hi pins s σ H _ I h) fun v s1 h1=>AO h1 fun QV s2 h2=>?_) hs;obtain ⟨it,fp,tn,J,H2,e,I2,T,GZ,f2,W,⟨m0,w0⟩,turn⟩:=h2;subst e
 -- qz stays true of FG ZDu objects through FG loop
 have KA:∀ {H':Hp},(∀ b∈fp,H' b=none)->∀ b∈fp,Ds X pins H' b:=fun hn b hb=>⟨hn b hb,(f2 b hb).2⟩;refine codeAny_forLoop_any (fun n s'=>∃ i σ' H',Inv X pins σ' H' s'/\tn i s'.heap/\(∀ b∈fp,H' b=none)/\W i n σ' H') ?_ m0 ⟨0,σ,H2,I2,GZ,fun b hb=>(f2 b hb).1,w0⟩;rintro n s3 ⟨i,σ3,H3,I3,Za,eC,w3⟩;rcases turn i n σ3 H3 w3 with ⟨stop,qn⟩ | ⟨go,N,hN,step⟩
 ·refine pS hp (AO (T.done X rfl rfl rfl hc i pins s3 σ3 H3 X.xe I3 (KA eC) Za stop) fun r s4 WX=>?_);obtain ⟨hr,I4⟩:=WX;subst hr;exact vL ⟨σ3,H3,I4,qn⟩
 ·refine pS hp (AO (T.item X rfl rfl rfl hc i pins s3 σ3 H3 X.xe I3 (KA eC) Za go) fun r s4 sj=>?_);obtain ⟨u,hr,h4⟩:=sj;subst hr;refine pS hp (AO h4 fun _ s5 z4=>?_);obtain ⟨x,H5,I5,r5,y5,KU,Pm⟩:=z4;have tG:=I5.pinned (KA Pm) (T.obj _ _ KU);refine pS hp (AO (hg _ s5 σ3 H5 x u _ tG r5 (step x H5 y5)) fun _ s6 j8=>?_);obtain ⟨σ6,H6,I6,q6⟩:=j8;refine pS hp (AO (hb _ s6 σ6 H6 _ I6 q6) fun f s7 q7=>?_);have again:∀ {σ7:St} {H7:Hp},Inv X (pins++NB fp s5.heap) σ7 H7 s7->N σ7 H7->∃ m,m<n/\∃ i σ' H',Inv X pins σ' H' s7/\tn i s7.heap/\(∀ b∈fp,H' b=none)/\W i m σ' H':=fun {σ7 H7} I7 n7=>by
   obtain ⟨m',hm,w7⟩:=hN σ7 H7 n7;refine ⟨m',hm,i+1,σ7,H7,I7.Mg,T.keep _ _ _ KU fun b hb o e=>(I7.pin (b,o) (D4 _ (D4 _ (Og hb e)))).1,fun b hb=>?_,w7⟩;obtain ⟨o,e,d⟩:=T.obj _ _ KU b hb;exact (I7.pin (b,o) (D4 _ (D4 _ (Og hb e)))).2.1
  cases f with
  | next=>obtain ⟨σ7,H7,I7,n7⟩:=q7;exact again I7 n7
  | cont=>obtain ⟨σ7,H7,I7,n7⟩:=q7;exact again I7 n7
  | brk=>obtain ⟨σ7,H7,I7,q7⟩:=q7;exact ⟨σ7,H7,I7.Mg,q7⟩
  | ret v=>obtain ⟨x7,σ7,H7,I7,r7,q7⟩:=q7;exact ⟨x7,σ7,H7,I7.Mg,r7,q7⟩⟩
theorem DI (h:QS X st t):QS X st (Vg t):=⟨by
 have h:=h.h;intro pins s σ H D I hw;obtain ⟨J,h1,h2⟩:=hw;refine AO (h pins s σ H _ I h1) fun f s' q=>?_;cases f with
 | next=>obtain ⟨σ',H',I',q⟩:=q;exact ⟨σ',H',I',h2 σ' H' q⟩
 | ret v=>exact q
 | brk=>exact q
 | cont=>exact q⟩
end
theorem AH.As {P:Program}{K:ZE5}{mg:ZE7}{base:Heap}{qual:Str}{st:Stmt}{fd:FuncData}{N:List Str}{k:Nat}(F:AH K x qual st f fd)(S:Ap N ps (AY st))(len:∀ vs H Q E,sp vs H Q E->vs.length=ps.length)
  (NU:∀ (AU:Value) (A:Around) (outer:List Env) (s:Shared) (H:Hp) (vs:List V) (Q:VK) (E:XK),Bd k (A.deeper (envOfC qual (AY st) s.heap.objs.size f AU))->sp vs H Q E->
   ∃ t,HM (JK Ez P w K mg base N qual (AY st) f AU A outer s H E).Ls (JR st) t/\t { nx:=fun _ H'=>Q .AB H',rt:=Q } (start N vs) H):D3 P w K mg base Ez (k+1) f fd ps sp:=
 F.ok S len fun AU A outer s H vs Q E hr h=>let ⟨t,q,r⟩:=NU AU A outer s H vs Q E hr h;⟨t,q.h,r⟩
section
variable {b:Expr}{tb:TE}{t:TA}
theorem BB {id:String}(hc:CY X (.builtin id) r)(hm:X.mg x=none)(ha:QA X (e::es) t)(hg:Gl X x:=by rfl)(hv:bootBuiltins x=some (.builtin id):=by decide +kernel)(hn:x ≠ "__name__" := by decide)(Cd:(x == ("__debug__":Str))=false:=by decide)
  (he:starEach (e::es) X.env=(false,eval e X.env)::starEach es X.env:=by rfl) (Bk:(backTo pos (starEach es X.env)).any (·.1)=false:=by rfl):QE X (.Call (.Name x p) (e::es) [] pos) (Ck r t):=rN hc hg hm hv ha hn Cd he Bk
theorem D8 (hc:CY X (.type T) r)(hm:X.mg x=none)(ha:QA X (e::es) t)(hg:Gl X x:=by rfl)(hv:bootBuiltins x=some (.type T):=by decide +kernel)(hn:x ≠ "__name__" := by decide)(Cd:(x == ("__debug__":Str))=false:=by decide)
  (he:starEach (e::es) X.env=(false,eval e X.env)::starEach es X.env:=by rfl) (Bk:(backTo pos (starEach es X.env)).any (·.1)=false:=by rfl):QE X (.Call (.Name x p) (e::es) [] pos) (Ck r t):=jb hc hg hm hv ha hn Cd he Bk
theorem AR {r:R2}(hr:FZ X r)(ha:QE X a ta)(hb:QE X b tb)(hs:T6 b:=by exact fun _ _=>rfl):QE X (.Subscript a b pos) (Bx r ta tb):=lW hr ha hb hs
theorem AS {k:Nat}(h:A8 X.prog X.w X.K X.mg X.base x k ps sp)(hr:Bd j X.A)(ha:QA X (e::es) t)(hk:k<=j:=by decide)(hg:Gl X x:=by rfl)(Cd:(x == ("__debug__":Str))=false:=by decide)
  (he:starEach (e::es) X.env=(false,eval e X.env)::starEach es X.env:=by rfl) (Bk:(backTo pos (starEach es X.env)).any (·.1)=false:=by rfl):QE X (.Call (.Name x p) (e::es) [] pos) (Bz sp [] E0 t):=uB h hr hk ha hg Cd he Bk
theorem EJ {r:R2}(ho:BG X (compareOp op) r)(ha:QE X a ta)(hb:QE X b tb)(hm:behindInMarks op b=false:=by first | exact b8 _ | with_unfolding_all rfl):QE X (.Compare a [op] [b] pos) (Bx r ta tb):=yq ho ha hb hm
theorem Al {r:R2}(ho:BG X (compareOp op) r)(ha:QE X a ta)(hb:QE X b tb)(hm:behindInMarks op b=false:=by first | exact b8 _ | with_unfolding_all rfl):QT X (.Compare a [op] [b] pos) (Ki (Bx r ta tb)):=r8 ho ha hb hm
theorem BC (i:Nat)(hN:X.N.Nodup)(he:QE X e te)(hi:X.N[i]?=some x:=by rfl)(hx:Loc X.env.scope x:=by first | exact Or.inl rfl | exact Or.inr rfl)(hs:swapsWith e (some (.Name x pos')) pos.line X.env=pure false:=by rfl)(hf:X.fn x=true∨X.env.scope.names.lookup x=some .local:=by first | exact .inl rfl | exact .inr rfl | assumption):
  QS X (.Assign [.Name x pos'] e pos) (EX te (D1 i)):=lH hN hi hx he hs hf
theorem Cs (i:Nat)(hN:X.N.Nodup)(hi:X.N[i]?=some x:=by rfl)(hx:Loc X.env.scope x:=by first | exact Or.inl rfl | exact Or.inr rfl)(hf:X.fn x=true∨X.env.scope.names.lookup x=some .local:=by first | exact .inl rfl | exact .inr rfl | assumption):QG X (.Name x pos) (D1 i):=lE hN hi hx hf
end
section
variable {pins:ZE6}{σ:St}{H:Hp}{a:Addr}{A3:List (Str×Addr)}
theorem OG {t:Tok}:DZ (.str x) (.str y t)=(y == x):=rfl
theorem W9 (x:Str):∀ (ss:List Str) (m:Nat) (hm:m<ss.length),m<ss.idxOf x->ss[m]≠x
 | [],_,hm,_=>absurd hm (Nat.not_lt_zero _)
 | a::r,m,hm,h=>by
  rw [iX] at h
  by_cases e:a=x
  ·have:(a == x)=true:=by simpa using e
   rw [this] at h;exact absurd h (Nat.not_lt_zero _)
  ·have e':(a == x)=false:=by simpa using e
   rw [e'] at h;cases m with
   | zero=>exact e
   | succ k=>
    have h':k+1<r.idxOf x+1:=h;exact W9 x r k (by simpa using hm) (by omega)
theorem LN (h:x∈ss):∃ hj:ss.idxOf x<ss.length,ss[ss.idxOf x]=x/\∀ m (hm:m<ss.length),m<ss.idxOf x->ss[m]≠x:=by
 have hj:ss.idxOf x<ss.length:=List.idxOf_lt_length_iff.mpr h;exact ⟨hj,Xq hj,fun m hm AQ=>W9 x ss m hm AQ⟩
def uk (K:ZE5):V->List V->Hp->VK->Prop:=fun x vs H Q=>∃ (l:Addr) (ss:List Str) (y:Str),x=.ref l/\vs=[.str y]/\AF K H l (ss.map V.str)/\y∈ss/\Q (.int (ss.idxOf y:Nat)) H
theorem UK:LJ X "list.index" (uk X.K):=by
 intro pins s σ H x vs v us Q I rx rv h;obtain ⟨l,ss,y,rfl,rfl,hq,hy,q⟩:=h;cases rx;obtain ⟨u,rfl,ru⟩:=rv.one;obtain ⟨A4,r,pl,hz⟩:=I.list hq;obtain ⟨⟨c,d,dt,sl⟩,n,ho,hc,hd,Eu⟩:=id pl;simp only at hc hd Eu;subst hc;subst hd;subst Eu;have hl:=r.length;rw [Ab] at hl;obtain ⟨hj,Um,JD⟩:=LN hy;have at':∀ (m:Nat) (hm:m<A4.toArray.size),∃ t,A4.toArray[m]=.str (ss[m]'(by simp at hm;omega)) t:=fun m hm=>by
  have Ve:m<A4.length:=by simpa using hm
  obtain ⟨h2,t,e⟩:=Oj r (BE Ve);exact ⟨t,by simpa using e⟩
 have Mc:ss.idxOf y<A4.toArray.size:=by simp;omega
 refine call_meets Y6 ⟨_,ho,rfl⟩ PySem.F.entry_list_index (PySem.F.args_list_index_2 _ _) (SeqAt.list_indexAt l A4.toArray n none sl u (DZ (.str y)) (ss.idxOf y) Mc ?_ ?_ (fun m hm AQ=>?_)) ⟨ho,fun z Lz=>JN ru rfl r (by
   rw [HB];intro w hw;obtain ⟨y',_,rfl⟩:=List.mem_map.mp hw;rfl) z (by simpa using Lz),?_⟩
 ·have h1:ss.length<=sizeLine:=by rw [Ab] at hz;exact hz
  have h2:=IE;have h3:((sizeLine:Nat):Int)<2 ^ 63:=by exact_mod_cast h2
  omega
 ·obtain ⟨t,e⟩:=at' _ Mc;rw [e,OG];simpa using Um
 ·obtain ⟨t,e⟩:=at' _ hm;rw [e,OG];have:=JD m (by simp at hm;omega) AQ
  simpa using this
 ·exact ⟨.int _,H,I.tok _,⟨_,rfl⟩,q⟩
theorem ZAb (l:Addr)(items:Array Value)(n:Nat)(dd:Option Addr)(sl:Array (Option Value))(x:Value)(e:Value->Bool)(j:Nat)(hj:j<items.size)(hit:e items[j]=true)(JD:∀ m (hm:m<items.size),m<j->e items[m]=false):
  Meets (Builtin.«tuple.index» ⟨[.ref l,x],[]⟩)
   (fun A R s=>s.heap.get? l=some { cls:=.type "tuple", dict:=dd,data:=.seq items n,slots:=sl }/\(∀ y,y∈items->SeqAt.EqAt A.in1 s y x (e y))/\R (.ok (.ret (.int j s.toks))) { s with toks:=s.toks+1 }):=by
 refine Meets.of_wp fun prog w A R s h=>?_;obtain ⟨hp,g,d,tk,os⟩:=s;obtain ⟨hl,he,h⟩:=h
 wp_walk using AutoSeq1.wpAny_loadPart' hl
 show wpAny _ _ (forIn [:min items.size items.size] ((none:Option Fin),()) (fun (i:Nat) (_:Option Fin×Unit)=>match items[i]? with
  | some y=>(do let b <- eqBool y x;if b=true then do let r <- retInt ((i:Nat):Int);pure (ForInStep.done (some r,())) else pure (ForInStep.yield (none,())))
  | _=>pure (ForInStep.yield (none,())))) _ _ _
 rw [Std.Legacy.Range.forIn_eq_forIn_range'];have hsz:([:min items.size items.size]:Std.Legacy.Range).size=items.size:=by simp [Std.Legacy.Range.size]
 show wpAny _ _ (forIn (List.range' 0 ([:min items.size items.size]:Std.Legacy.Range).size 1) _ _) _ _ _;rw [hsz];refine wpAny_forIn_list _ (fun rest b s'=>b=(none,())/\s'=⟨hp,g,d,tk,os⟩/\∃ i,rest=List.range' i (items.size - i) 1/\i<=j) _ ?_ ?_ _ _ ⟨rfl,rfl,0,rfl,C2 _⟩
 ·rintro i rest b s' ⟨rfl,rfl,i',hr,Br⟩;have AQ:i' < items.size:=by omega
  have e1:List.range' i' (items.size - i') 1=i'::List.range' (i'+1) (items.size - (i'+1)) 1:=by
   have:items.size - i'=(items.size - (i'+1))+1:=by omega
   rw [this,List.range'_succ]
  rw [e1] at hr;injection hr with z7 vh
  subst z7;subst vh;have hi:items[i]?=some items[i]:=by simp [AQ]
  rw [hi];refine j7 (he _ (Array.getElem_mem AQ) prog w _ _ ?_)
  by_cases e2:i=j
  ·subst e2;rw [hit,jd rfl]
   wp_walk
   exact ⟨_,rfl,h⟩
  ·rw [JD i AQ (by omega),jG (by decide)];exact j9 ⟨rfl,rfl,i+1,rfl,by omega⟩
 ·rintro b s' ⟨rfl,rfl,i,hr,Br⟩;have:0<(List.range' i (items.size - i) 1).length:=by rw [List.length_range'];omega
  rw [<- hr] at this;exact absurd this (by simp)
def ZAH (K:ZE5):V->List V->Hp->VK->Prop:=fun x vs H Q=>∃ (l:Addr) (ss:List Str) (y:Str),x=.ref l/\vs=[.str y]/\AA K H l (ss.map V.str)/\y∈ss/\Q (.int (ss.idxOf y:Nat)) H
theorem ZB9:LJ X "tuple.index" (ZAH X.K):=by
 intro pins s σ H x vs v us Q I rx rv h;obtain ⟨l,ss,y,rfl,rfl,hq,hy,q⟩:=h;cases rx;obtain ⟨u,rfl,ru⟩:=rv.one;obtain ⟨A4,r,pl,hz⟩:=I.tuple hq;obtain ⟨⟨c,d,dt,sl⟩,ho,hc,n,Eu⟩:=id pl;simp only at hc Eu;subst hc;subst Eu;have hl:=r.length;rw [Ab] at hl;obtain ⟨hj,Um,JD⟩:=LN hy;have at':∀ (m:Nat) (hm:m<A4.toArray.size),∃ t,A4.toArray[m]=.str (ss[m]'(by simp at hm;omega)) t:=fun m hm=>by
  have Ve:m<A4.length:=by simpa using hm
  obtain ⟨h2,t,e⟩:=Oj r (BE Ve);exact ⟨t,by simpa using e⟩
 have Mc:ss.idxOf y<A4.toArray.size:=by simp;omega
 refine call_meets ZDD ⟨_,ho,rfl⟩ PySem.F.entry_tuple_index (PySem.F.args_tuple_index_2 _ _) (ZAb l A4.toArray n d sl u (DZ (.str y)) (ss.idxOf y) Mc ?_ (fun m hm AQ=>?_)) ⟨ho,fun z Lz=>JN ru rfl r (by
   rw [HB];intro w hw;obtain ⟨y',_,rfl⟩:=List.mem_map.mp hw;rfl) z (by simpa using Lz),?_⟩
 ·obtain ⟨t,e⟩:=at' _ Mc;rw [e,OG];simpa using Um
 ·obtain ⟨t,e⟩:=at' _ hm;rw [e,OG];have:=JD m (by simp at hm;omega) AQ
  simpa using this
 ·exact ⟨.int _,H,I.tok _,⟨_,rfl⟩,q⟩
def um (t u:TE):TE:=fun σ H Q=>t σ H Q∨u σ H Q
theorem tU {t u:TE}(h:QE X e t)(h2:QE X e u):QE X e (um t u):=⟨fun pins s σ H Q I q=>q.elim (h.h pins s σ H Q I) (h2.h pins s σ H Q I)⟩
end
theorem pB:typeLookup (.type "list_reverseiterator") "__len__"=pure none:=by rw [rH,o8];kernel_rfl
theorem ug:typeLookup (.type "list_reverseiterator") "__length_hint__"=pure (some (.builtin "list_reverseiterator.__length_hint__")):=by rw [rH,o8];kernel_rfl
section
variable {prog:Program}{A:Around}{R:Result->Shared->Prop}
variable {fp wr:List Addr}{G:Array GenState->Array GenState->Prop}{P:Nat->Value->Prop}{St:Nat->Shared->Prop}
theorem zR (W:WalksS prog w A.in1 I fp wr G n P St)(hT:∀ i s,St i s->s.TypeIs (.ref I) "list_reverseiterator")(S:Addr)(res:Value)(c₀:Nat)(CH:St 0 s)(D2:S∉fp)(hI:I∈fp)
  (hS:s.heap.get? S=some { cls:=.type "list", data:=.seq #[] c₀ })
  (hR:∀ s' Ca c',Moved (S::wr) G s s'->s'.heap.get? S=some { cls:=.type "list", dict:=none,data:=.seq Ca c',slots:=#[] }->ItemsOf P Ca n->R (.ok (.ret res)) s') (hn:n<=sizeLine) :
  wpAny (model prog w) A.in1 (Builtin.List.listExtendWith (.ref S) (.ref I) res)
   (fun fin s'=>match fin with | .done f=>R (.ok f) s' | .again c'=>c'.quiet=true/\codeAny (model prog w) A c' R s') (fun e s'=>R (.error e) s') s:=by
 have wB:S≠I:=fun e=>D2 (e▸hI);unfold Builtin.List.listExtendWith;refine j7 (oa (hT 0 _ CH) ?_);have h1:Builtin.List.listSameRef (.ref S) (.ref I)=false:=by simp [Builtin.List.listSameRef,wB]
 rw [jG (by rw [h1];decide)];refine j7 (W.self 0 _ _ _ CH ?_);refine j7 (lq ?_);unfold Builtin.List.listLengthHint;refine j7 (qg (hT 0 _ CH) pB ?_);show wpAny _ A.in1 (specialOf (Value.ref I) (Str.ofString "__length_hint__") >>= _) _ _ _;refine j7 (qg (hT 0 _ CH) ug ?_);generalize Fq:("list_reverseiterator.__length_hint__":String)=Jm
 wp_delta
 rw [show splitId Jm=some ("list_reverseiterator","__length_hint__") from by subst Fq;decide +kernel];subst Fq;refine j7 (qL (b:=true) (hT 0 _ CH) (by rw [p0];kernel_rfl) ?_);refine j9 ?_;rw [jG (by decide)];refine j9 ⟨pV F.plain_extend_loop _,sS W hn _ D2 _ n 0 _ _ _ rfl (C2 _) CH hS (Xj P) fun s' Ca c' hm C5 Ai=>?_⟩;exact hR s' Ca c' hm C5 Ai
theorem ZCP (W:WalksS prog w A.in1 I fp wr G n P St)(hT:∀ i s,St i s->s.TypeIs (.ref I) "list_reverseiterator")(S:Addr)(CH:St 0 s)(D2:S∉fp)(hI:I∈fp)
  (hS:s.heap.get? S=some { cls:=.type "list", data:=.seq #[] })
  (hR:∀ s' Ca c',Moved (S::wr) G s s'->s'.heap.get? S=some { cls:=.type "list", dict:=none,data:=.seq Ca c',slots:=#[] }->ItemsOf P Ca n->R (.ok (.ret .none)) s') (hn:n<=sizeLine) :
  wpAny (model prog w) A.in1 (Builtin.«list.__init__» ⟨[.ref S,.ref I],[]⟩)
   (fun fin s'=>match fin with | .done f=>R (.ok f) s' | .again c'=>c'.quiet=true/\codeAny (model prog w) A c' R s') (fun e s'=>R (.error e) s') s:=by
 show wpAny _ A.in1 (do let old <- Builtin.List.listItems (.ref S);Builtin.List.listUpdate (.ref S) (fun _=>#[]);letGo old.toList.reverse;Builtin.List.listExtendWith (.ref S) (.ref I) .none) _ _ s
 refine j7 ?_;unfold Builtin.List.listItems;refine j7 (wpAny_seqItems hS rfl (j9 ?_));show wpAny _ A.in1 (updateSeq S (fun _=>#[]) >>= fun _=>letGo (#[]:Array Value).toList.reverse >>= fun _=>Builtin.List.listExtendWith (.ref S) (.ref I) .none) _ _ s;refine j7 (pN hS rfl ?_);have hS₂:=FN (Obj.mapSeq (fun _=>(#[]:Array Value))) hS rfl;have GG:∀ b o,b≠S->s.heap.get? b=some o->(s.heap.update S (Obj.mapSeq (fun _=>(#[]:Array Value)))).get? b=some o:=
  fun b o hb e=>(Fn _ _ (BS hb)).trans e
 refine j7 (wpAny_letGo ?_);refine zR (hn:=hn) W hT S .none _ (W.frame 0 s _ s.toks CH (Ao _) fun b hb o e=>GG b o (fun h=>D2 (h▸hb)) e) D2 hI hS₂ fun s' Ca c' hm C5 Ai=>?_;exact hR s' Ca c' (Moved.trans W.gtrans ((Moved.refl W.grefl).then_heap (Ao _) fun b o hb e=>GG b o (fun h=>hb (h▸Cu)) e) hm) C5 Ai
theorem va (W:WalksS prog w A.in1.in1 I fp wr G n P St)(hT:∀ i s,St i s->s.TypeIs (.ref I) "list_reverseiterator")(CH:St 0 s)(LS:∀ b∈fp,b<s.heap.objs.size)(hI:I∈fp)
  (hQ:∀ s' Ca c',Moved (s.heap.objs.size::wr) G { s with heap:=s.heap.push { cls:=.type "list", data:=.seq #[] } } s'->
   s'.heap.get? s.heap.objs.size=some { cls:=.type "list", dict:=none,data:=.seq Ca c',slots:=#[] }->ItemsOf P Ca n->Q (.ref s.heap.objs.size) s') (hn:n<=sizeLine) :
  wpAny (model prog w) A (call (.type "list") [.ref I]) Q E s:=by
 have D2:s.heap.objs.size∉fp:=fun hm=>KO _ (LS _ hm);refine callType_codes (Q₁:=fun obj s₁=>obj=.ref s.heap.objs.size/\s₁={ s with heap:=s.heap.push { cls:=.type "list", data:=.seq #[] } }) F.called_list (F.typeCall_list_1 _) F.entry_list_init
  (code_list_new _ ⟨rfl,rfl⟩) fun obj s₁ h₁=>?_
 obtain ⟨rfl,rfl⟩:=h₁;have hS:(s.heap.push { cls:=.type "list", data:=.seq #[] }).get? s.heap.objs.size=some { cls:=.type "list", data:=.seq #[] }:=BU _ rfl;refine ⟨⟨_,hS,rfl⟩,F.args_list_init_2 _ _,ZCP (hn:=hn) W hT _ (W.frame 0 s _ s.toks CH (Ao _) fun b _ o e=>BF _ e) D2 hI hS fun s' Ca c' hm C5 Ai=>?_⟩;exact ⟨rfl,hQ s' Ca c' hm C5 Ai⟩
variable {l:Addr}{items:Array Value}
end
end L2
namespace HT
variable {E Q:Value->Shared->Prop}
section
variable {prog:Program}{w:World}{A:Around}{s:Shared}
theorem nD {t sl:Addr}{items:Array Value}{vl vu:Value}{lo hi:Option Int}(ht:IsTup s.heap t items)(hs:s.heap.IsSliceOf sl vl vu .none)(pl:IsPart vl lo)(pu:IsPart vu hi)
  (hw:Ae items.size 0 lo=0/\Ae items.size items.size hi=items.size) (h:Q (.ref t) s):wpAny (model prog w) A (getItem (.ref t) (.ref sl)) Q E s:=by
 obtain ⟨os,JM,QJ,Lq⟩:=id hs;have Tb:s.TypeIs (.ref sl) "slice" := ⟨os,JM,QJ⟩;unfold getItem
 try with_reducible refine lq ?_
 first | refine j7 (j9 ?_) | skip
 refine j7 (wpAny_sequenceKey ht.typeIs (by decide) ?_);refine j7 (nU (name:=Str.ofString "__getitem__") ht.typeIs Y5
  (nH Y5 ht.typeIs entry_tuple_getitem ?_ (args_tuple_getitem _ _)))
 show wpAny _ _ (Builtin.Tuple.tupleItemsOf (.ref t) >>= _) _ _ s;refine j7 (tupleItemsOf_ ht ?_);refine j7 (oa Tb ?_);rw [jd (by decide)];refine j7 (bO hs pl pu ?_);have aX:((((Ae items.size 0 lo:Nat):Int) == 0 && (1:Int) == 1 && (Ae items.size items.size hi - Ae items.size 0 lo) == items.size)=true):=by
  rw [hw.1,hw.2];simp
 first
 | rw [jd aX]
 | simp only [aX,ZA5]
 refine j7 ?_;unfold Builtin.Tuple.tupleIsExact;refine j7 (oa ht.typeIs (j9 ?_));rw [jd (by decide)];exact j7 (vg (j9 ⟨_,rfl,j9 h⟩))
end
end HT
namespace L2
variable {X:Cx}{xs ys:List V}{A4 vs:List Value}{acc items ps:Array Value}{pins:ZE6}{σ:St}{H:Hp}{s:Shared}{h':Heap}{ep i k1 n nT nl pl sl t':Nat}{fp:List Addr}{I S a it:Addr}{o oT:Obj}{w:World}{es:Array (Int×Value)}{p1 pos:Pos}{t:SetTable}{prog:Program}{A:Around}{E Q₁:Value->Shared->Prop}{e:Int×Value}{Q:Option Value->Shared->Prop}{α:Type}{f v x:Value}{AK ss:List Str}
def jR (K:ZE5):V->Option Int->Option Int->Hp->VK->Prop:=fun x lo hi H Q=>∃ a xs,x=.ref a/\AA K H a xs/\
 ((HT.Ae xs.length 0 lo=0/\HT.Ae xs.length xs.length hi=xs.length)->Q (.ref a) H)/\(¬ (HT.Ae xs.length 0 lo=0/\HT.Ae xs.length xs.length hi=xs.length)->∀ p,H p=none->Q (.ref p) (upd H p (.tup (C7 xs lo hi))))
theorem ZAv:JZ X (jR X.K):=by
 intro pins s σ H x v vl vu lo hi sl Q I rx hs pl pu h;obtain ⟨a,xs,rfl,hx,q1,q2⟩:=h
 by_cases hw:HT.Ae xs.length 0 lo=0/\HT.Ae xs.length xs.length hi=xs.length
 ·cases rx;obtain ⟨A4,r,ht,hz⟩:=I.tuple hx;have hlen:A4.toArray.size=xs.length:=by rw [Bt];exact r.length.symm
  refine ⟨"tuple", _,PyProof.Rows.slot_tuple_getitem.lookup,ht.typeIs,?_⟩;exact HT.nD ht hs pl pu (by rw [hlen];exact hw) ⟨.ref a,H,I,rfl,q1 hw⟩
 ·exact gM pins s σ H _ v vl vu lo hi sl Q I rx hs pl pu ⟨a,xs,rfl,hx,hw,q2 hw⟩
def tV (K:ZE5):V->Option Int->Option Int->Hp->VK->Prop:=fun x lo hi H Q=>∃ a tp xs,x=.ref a/\CN K tp H a xs/\∀ p H',A7 H H'->CN K tp H' p (C7 xs lo hi)->Q (.ref p) H'
theorem ZAE {lo hi:Option Int}(h:HT.Ae xs.length 0 lo=0/\HT.Ae xs.length xs.length hi=xs.length):C7 xs lo hi=xs:=by
 unfold C7;rw [h.1,h.2];simp
theorem J5:JZ X (tV X.K):=by
 intro pins s σ H x v vl vu lo hi sl Q I rx hs pl pu h;obtain ⟨a,tp,xs,rfl,hx,q⟩:=h;cases tp with
 | false=>exact JX pins s σ H _ v vl vu lo hi sl Q I rx hs pl pu ⟨a,xs,rfl,hx,fun p hp=>q p _ (AW hp _) (AF.of AE)⟩
 | true=>exact ZAv pins s σ H _ v vl vu lo hi sl Q I rx hs pl pu ⟨a,xs,rfl,hx,fun hw=>q a H (A7.refl _) (by rw [ZAE hw];exact hx),fun _ p hp=>q p _ (AW hp _) (AA.of AE)⟩
theorem ql (r:Vals ys A4)(h:ItemsOf (fun i v=>A4.toArray[A4.toArray.size - 1 - i]?=some v) acc A4.toArray.size):∃ us:List Value,Vals ys.reverse us/\acc=us.toArray:=by
 have e:acc=A4.reverse.toArray:=by
  apply Array.toList_inj.mp;rw [List.toList_toArray];apply iS;intro i;have hs:acc.size=A4.length:=by rw [h.1];simp
  by_cases hi:i<A4.length
  ·have h1:acc.toList[i]?=some (acc[i]'(by omega)):=by simp
   have h2:=h.2 i (acc[i]'(by omega)) (by simp);rw [h1,List.getElem?_reverse hi];simp at h2;rw [<- h2]
  ·have h1:acc.toList[i]?=none:=Nt (by simp;omega);have h2:A4.reverse[i]?=none:=Nt (by simp;omega);rw [h1,h2]
 exact ⟨A4.reverse,r.reverse,e⟩
theorem Inv.mR (I:Inv X pins σ H s)(hf:∀ b∈fp,Ds X pins H b)(k:∀ b o,b∉fp->s.heap.get? b=some o->h'.get? b=some o):
  Inv X pins σ H { s with heap:=h',toks:=t' }:=by
 have Ig:∀ b u,H b=some u->b∉fp:=fun b u e z=>by rw [(hf b z).1] at e;cases e
 refine I.step (g':=s.gens) (d':=s.drawn) (ch:=fp) (fun b hb=>?_) (fun b o _ _ hc e _=>k b o hc e) (fun b o _ _ hc e _=>⟨o.slots,k b o hc e⟩) (fun _ _ _ _ n=>n)
  (fun b o hc e=>⟨o,k b o hc e⟩) (fun _ _ e=>e) (fun _ _ _ e=>e) (fun b ps e=>⟨#[],by rw [e];simp⟩) (fun m hm=>?_) (fun b u e=>?_) I.bare
 ·obtain ⟨_,h1,_,h3,h4,h5⟩:=hf b hb;exact ⟨h3,h1,h4,h5⟩
 ·obtain ⟨o,es,ep,ho,r⟩:=hm;exact ⟨o,es,ep,k _ o (fun z=>(hf _ z).2.1 rfl) ho,r⟩
 ·refine (I.AL b u e).HG (fun c v hc q=>k c v ?_ q) (fun _ q=>q) fun _ _ q=>q;rcases hc with z | z
  ·rw [z];exact Ig b u e
  ·exact Ig c _ z
theorem Inv.wX {o:HO}(I:Inv X pins σ H s)(hf:∀ b∈fp,Ds X pins H b)(k:∀ b o,b∉fp->s.heap.get? b=some o->h'.get? b=some o)
  (ha:s.heap.objs.size<=a) (new:Bm X.prog X.w (upd H a o) h' a o):Inv X pins σ (upd H a o) { s with heap:=h',toks:=t' }:=by
 have hn:H a=none:=I.AL.fresh ha;have Ig:∀ b u,H b=some u->b∉fp:=fun b u e z=>by rw [(hf b z).1] at e;cases e
 have ne:∀ b u,H b=some u->b≠a:=fun b u e=>DX e hn;have ne2:∀ b u,s.heap.get? b=some u->b≠a:=fun b u e=>BK (D5 (B8 e) ha);refine I.step (g':=s.gens) (d':=s.drawn) (ch:=fp) (fun b hb=>?_) (fun b o _ _ hc e _=>k b o hc e) (fun b o _ _ hc e _=>⟨o.slots,k b o hc e⟩) (fun b o _ e n=>by rw [AX (ne2 b o e)];exact n)
  (fun b o hc e=>⟨o,k b o hc e⟩) (fun b _ e=>by rw [AX (ne b _ e)];exact e) (fun b _ _ e=>by rw [AX (ne b _ e)];exact e) (fun b ps e=>⟨#[],by rw [AX (ne b _ e),e];simp⟩) (fun m hm=>?_) (fun b u e=>?_) I.bare
 ·obtain ⟨_,h1,_,h3,h4,h5⟩:=hf b hb;exact ⟨h3,h1,h4,h5⟩
 ·obtain ⟨o,es,ep,ho,r⟩:=hm;exact ⟨o,es,ep,k _ o (fun z=>(hf _ z).2.1 rfl) ho,r⟩
 ·by_cases hb:b=a
  ·subst hb;rw [AE] at e;cases e;exact new
  ·rw [AX hb] at e;refine (I.AL b u e).HG (fun c v hc q=>k c v ?_ q) (fun c q=>by rw [AX (ne c _ q)];exact q) fun c _ q=>by rw [AX (ne c _ q)];exact q
   rcases hc with z | z
   ·rw [z];exact Ig b u e
   ·exact Ig c _ z
def cD (K:ZE5)(a:Addr)(xs:List V):It:=
 ⟨fun i H=>AF K H a xs/\i<xs.length,fun i H x H'=>∃ p y,xs[i]?=some y/\x=.ref p/\H p=none/\H'=upd H p (.tup [.int i,y]),fun i H=>AF K H a xs/\xs.length<=i⟩
theorem pZ {P:Program}{K:ZE5}{es:List Expr}(a e it:Addr)(xs:List V)(YB:e≠it):
  Turn P w K (.Tuple es k1 p1) (cD K a xs) [e,it] e (fun i h=>(∃ old,IsEnum h e it i old)/\h.IsListIter it a i) where
 mem:=by simp
 obj:=fun i h st b hb=>by
  obtain ⟨⟨old,h1⟩,o,h2,_,d⟩:=st;rcases List.mem_cons.mp hb with z | z
  ·subst z;exact ⟨_,h1,fun v z=>by cases z⟩
  ·have:b=it:=by simpa using z
   subst this;exact ⟨o,h2,fun v z=>by rw [d] at z;cases z⟩
 keep:=fun i h h' st k=>⟨let ⟨old,h1⟩:=st.1;⟨old,k e (by simp) _ h1⟩,st.2.at fun o q=>k it (by simp) o q⟩
 item:=by
  intro X hP hw hK hc i pins s σ H E I hf st hg;subst hP hw hK;obtain ⟨hq,hi⟩:=hg;obtain ⟨⟨old,he⟩,hit⟩:=st;obtain ⟨A4,rv,p,hz⟩:=I.list hq;obtain ⟨u,hu,ru⟩:=rv.get (BE hi);refine wpAny_pyNext_enum_item he hit p.isList (x:=u) (by simpa using hu) YB fun h1 IM ZB2 N3 lL wx=>⟨_,rfl,?_⟩
  refine wpAny_letOwnedTupleGo_enum IM fun h2 LY Cc=>?_;have AQ:e<s.heap.objs.size:=B8 he;have QQ:h2.get? s.heap.objs.size=some { cls:=.type "tuple", data:=.seq #[.int i s.toks,u] }:=(Cc.2 _ (KQ AQ)).trans N3;have kp:∀ b o,b∉[e,it]->s.heap.get? b=some o->h2.get? b=some o:=fun b o hb q=>by
   have Bc:b≠e/\b≠it:=by simpa using hb
   exact (Cc.2 b Bc.1).trans (wx b o Bc.1 Bc.2 q)
  refine ⟨.ref s.heap.objs.size,_,I.wX (t':=s.toks+1) (a:=s.heap.objs.size) (o:=.tup [.int i,xs[i]]) hf kp (Ao _) ?_,rfl,⟨_,_,BE hi,rfl,I.AL.fresh (Ao _),rfl⟩,⟨⟨_,LY⟩,ZB2.at fun o q=>(Cc.2 it (BS YB)).trans q⟩,fun b hb=>?_⟩
  ·exact ⟨(by show 2<=sizeLine;decide),[.int i s.toks,u],.cons ⟨_,rfl⟩ (.cons ru .nil),⟨_,QQ,rfl,_,rfl⟩,fun ob q=>by rw [QQ] at q;cases q;rfl⟩
  ·have PN:b<s.heap.objs.size:=by
    rcases List.mem_cons.mp hb with z | z
    ·rw [z];exact AQ
    ·have:b=it:=by simpa using z
     obtain ⟨o,q,_⟩:=hit;rw [this];exact B8 q
   rw [AX (BK PN)];exact (hf b hb).1
 done:=by
  intro X hP hw hK hc i pins s σ H E I hf st hg;subst hP hw hK;obtain ⟨hq,hx⟩:=hg;obtain ⟨⟨old,he⟩,hit⟩:=st;obtain ⟨A4,rv,p,hz⟩:=I.list hq;have hl:=rv.length;exact wpAny_pyNext_enum_end (I.ok.hd hc) he hit p.isList (by simp;omega) fun h' eb=>⟨rfl,I.mR (t':=s.toks) hf fun b o hb q=>eb b o (fun z=>hb (by simp [z])) q⟩
 self:=fun _ _ _ _ _ st h=>let ⟨⟨_,he⟩,_⟩:=st;wpAny_pyIter_enum he h
def Sk (K:ZE5)(t:TA):TI:=fun σ H R=>t σ H fun vs H1=>∃ a xs,vs=[.ref a]/\AF K H1 a xs/\R (cD K a xs) H1
theorem ZBx {es:List Expr}{p:Pos}{l:Expr}{t:TA}(hg:Gl X "enumerate")(hm:X.mg "enumerate"=none)(ha:QA X [l] t)(hs:starEach [l] X.env=[(false,eval l X.env)]:=by rfl):
  QI X (.Tuple es k1 p1) (.Call (.Name "enumerate" p) [l] [] pos) (Sk X.K t):=⟨by
 have ha:=ha.h;intro pins s σ H R I h;refine oZ (IU I hg hm (show bootBuiltins "enumerate"=some (.type "enumerate") by decide +kernel) ?_ (by decide) (by decide));refine Ny (AO (ha pos pins s σ H _ I h) fun us s1 ⟨vs,H1,I1,r1,q1⟩=>?_) hs rfl;obtain ⟨a,xs,rfl,hq,q⟩:=q1;obtain ⟨u,rfl,rx⟩:=vals1 r1;cases rx;obtain ⟨A4,rv,p,hz⟩:=I1.list hq;refine call_enumerate_list p.isList fun h' he hit hsz kp=>?_;refine wpAny_pyIter_enum he ?_;have Ak:s1.heap.objs.size+1≠s1.heap.objs.size:=Nat.succ_ne_self _;refine ⟨s1.heap.objs.size+1,[s1.heap.objs.size+1,s1.heap.objs.size],_,_,H1,rfl,I1.kept (t':=s1.toks) kp,pZ a _ _ xs Ak,⟨⟨_,he⟩,hit⟩,fun b hb=>?_,q⟩;have PN:s1.heap.objs.size<=b:=by
  rcases List.mem_cons.mp hb with z | z
  ·rw [z];exact EC _
  ·have:b=s1.heap.objs.size:=by simpa using z
   rw [this];exact Ao _
 exact I1.Kt PN (I1.AL.fresh PN)⟩
open AutoSeq1 (wpAny_loadPart')
theorem mQ (t:SetTable)(n:Nat):(t.orStandIn n).led=t.led:=by unfold SetTable.orStandIn;split <;> rfl
theorem xq (t:SetTable)(es:Array (Int×Value))(h:Int)(x:Value):(layNew t es h x).2.1.led=t.led:=by
 unfold layNew;split
 ·show (SetTable.orStandIn (t.put _).1 _).led=t.led;rw [mQ];rfl
 ·rfl
theorem ZA2 {mask finger moves:Nat}{led plain:Bool}{hs:Array Int}{p:SetTable×Array Nat}(h:SetTable.laid mask finger moves led plain hs=some p):p.1.led=led/\p.1.plain=plain:=by
 unfold SetTable.laid at h;cases hc:SetTable.layClean mask hs with
 | none=>rw [hc] at h;cases h
 | some ow=>rw [hc] at h;cases h;exact ⟨rfl,rfl⟩
theorem z6 (t:SetTable)(es:Array (Int×Value))(n:Nat)(hp:t.plain=false):(relayAll t es n).2.1.led=t.led/\(relayAll t es n).2.1.plain=false:=by
 unfold relayAll;split
 ·next t' order hr=>
  have q:=ZA2 (p:=(t',order)) hr;dsimp only at q ⊢;split
  ·exact ⟨q.1,q.2.trans hp⟩
  ·exact ⟨rfl,rfl⟩
 ·exact ⟨rfl,rfl⟩
def Fd (w:World):Bool:=w.params.followText "set-order"
def Cb (prog:Program)(w:World)(h:Heap)(a:Addr)(S:Str->Bool)(n:Nat):Prop:=
 ∃ o es ep t,h.get? a=some o/\o.ExactSet/\o.data=.set es ep t/\ElemsOf (PySem.strKind prog w) es.toList/\(∀ k,S k=true↔∃ e∈es.toList,(PySem.strKind prog w).is k e.2=true)/\
  es.size<scanBound/\t.fits es.size=true/\es.size=n/\(t.led=!Fd w)/\(0<es.size->t.plain=false)
theorem Cb.keep {h:Heap}{S:Str->Bool}(x:Cb prog w h a S n)(k:∀ o,h.get? a=some o->h'.get? a=some o):Cb prog w h' a S n:=by
 obtain ⟨o,es,ep,t,ho,r⟩:=x;exact ⟨o,es,ep,t,k o ho,r⟩
theorem Cb.congr {h:Heap}{S S':Str->Bool}{n':Nat}(x:Cb prog w h a S n)(e:∀ k,S k=S' k)(en:n=n'):Cb prog w h a S' n':=by
 obtain ⟨o,es,ep,t,h1,h2,h3,h4,h5,h6,h7,h8,h9⟩:=x;exact ⟨o,es,ep,t,h1,h2,h3,h4,fun k=>by rw [<- e k];exact h5 k,h6,h7,h8.trans en,h9⟩
theorem fi {h:Heap}(ho:h.get? a=some o)(hd:o.data=.set es ep t)(DR:Array (Int×Value))(t':SetTable):
  (h.update a (Obj.putSet DR t')).get? a=some { o with data:=.set DR (ep+1) t' }:=by
 have q:=FN (Obj.putSet DR t') ho (by rw [putSet_of DR t' hd];rfl);rw [q,putSet_of DR t' hd]
theorem Cb.put {S:Str->Bool}{k:Str}{tk:Tok}{Q:Bool->Shared->Prop}(hS:Cb prog w s.heap a S n)(Mf:n+1<scanBound)
  (h:∀ h',Heap.SameBut a s.heap h'->Cb prog w h' a (fun k'=>S k' || decide (k'=k)) (if S k then n else n+1)->Q (!S k) { s with heap:=h' }) :
  wpAny (model prog w) A (setAddHashed a (.str k tk) ((PySem.strKind prog w).hash k)) Q E s:=by
 obtain ⟨o,es,ep,t,ho,hex,hd,Kd,FC,hb,hf,hn,Oa,Bk⟩:=hS;have N4:(PySem.strKind prog w).is k (.str k tk)=true:=ZDI prog w k tk;have TC:(Value.str k tk).scannable=true:=rfl;have rm:es.size+1<scanBound:=by rw [hn];exact Mf
 have gw:∀ (b:Bool) (s1:Shared) (Q1:Unit->Shared->Prop),Q1 () s1->wpAny (model prog w) A (match b with | true=>rule "set.scan.the-table-gave-way" | false=>pure ()) Q1 E s1:=by
  intro b s1 Q1 q;cases b
  ·exact j9 q
  ·exact vg q
 unfold setAddHashed setAddHashedIn;refine lq ?_;refine j7 (pT ho hd hf ?_);dsimp only;rw [byScan_of TC hb Kd];simp only [↓reduceIte];unfold setAddByScan;refine j7 ?_;refine j7 (vg ?_);refine j7 (wpAny_setScan_of N4 ho hd hf Kd ?_);cases hr:List.findIdx? (fun e=>(PySem.strKind prog w).is k e.2) es.toList with
 | some j=>
  dsimp only;obtain ⟨hj,uM,_⟩:=List.findIdx?_eq_some_iff_getElem.mp hr;have hk:S k=true:=(FC k).mpr ⟨es.toList[j],KJ hj,uM⟩;refine j9 ?_;refine j9 ?_;have q:=h s.heap (Heap.SameBut.refl a s.heap) ⟨o,es,ep,t,ho,hex,hd,Kd,fun k'=>by
   rw [<- FC k',Bool.or_eq_true,decide_eq_true_eq];exact ⟨fun z=>z.elim id fun e=>e▸hk,Or.inl⟩,hb,hf,by rw [jd hk];exact hn,Oa,Bk⟩
  rw [hk] at q;exact q
 | none=>
  dsimp only;have hk:S k=false:=by
   cases e:S k with
   | false=>rfl
   | true=>
    obtain ⟨x,hx,hp⟩:=(FC k).mp e;have q:=List.findIdx?_eq_none_iff.mp hr x hx;rw [hp] at q;exact Bool.noConfusion q
  have p1:=layNew_perm t es ((PySem.strKind prog w).hash k) (.str k tk);have f1:=layNew_fits t es ((PySem.strKind prog w).hash k) (.str k tk);have l1:=xq t es ((PySem.strKind prog w).hash k) (.str k tk);generalize layNew t es ((PySem.strKind prog w).hash k) (.str k tk)=L at p1 f1 l1 ⊢;obtain ⟨CP,t1,wd,gv⟩:=L;dsimp only at p1 f1 l1 ⊢;rw [ZCa] at p1;have el1:ElemsOf (PySem.strKind prog w) CP.toList:=(Kd.push N4 TC).perm p1;have m1:∀ k',(S k' || decide (k'=k))=true↔∃ e∈CP.toList,(PySem.strKind prog w).is k' e.2=true:=mem_push_iff N4 FC p1;have z1:CP.size=n+1:=by rw [<- Fm,p1.length_eq,Bl,Fm,hn];rfl
  have b1:CP.size<scanBound:=by rw [z1];exact Mf
  have fin:∀ (h':Heap) (o':Obj) (DR:Array (Int×Value)) (Gv:Nat) (t':SetTable),Heap.SameBut a s.heap h'->h'.get? a=some o'->o'.ExactSet->o'.data=.set DR Gv t'->DR.toList.Perm CP.toList->t'.fits DR.size=true->t'.led=t.led->t'.plain=false->
    Q true { s with heap:=h' }:=by
   intro h' o' DR Gv t' sb go xo d' pp ff ll pf;have zz:DR.size=n+1:=by rw [<- z1,<- Fm,pp.length_eq,Fm]
   have q:=h h' sb ⟨o',DR,Gv,t',go,xo,d',el1.perm pp,fun k'=>(m1 k').trans ⟨fun ⟨e,he,q⟩=>⟨e,pp.mem_iff.mpr he,q⟩,fun ⟨e,he,q⟩=>⟨e,pp.mem_iff.mp he,q⟩⟩,by rw [zz];exact Mf,ff,by rw [hk];exact zz,ll.trans Oa,fun _=>pf⟩;rw [hk] at q;exact q
  have tail:∀ (t2:SetTable),t2.fits CP.size=true->t2.led=t.led->t2.plain=false->wpAny (model prog w) A (do
    storeSet a CP t2
    if (
      !wd && t2.tooFull)=true then do
      (match (relayAll t2 CP (SetTable.grown CP.size)).2.2 with | true=>rule "set.scan.the-table-gave-way" | false=>pure ())
      storeSet a (relayAll t2 CP (SetTable.grown CP.size)).1 (relayAll t2 CP (SetTable.grown CP.size)).2.1
      pure (some true)
     else pure (some true)) (fun r s'=>match r with | some b=>Q b s' | none=>False) E s:=by
   intro t2 f2 l2 dM;refine j7 (wpAny_storeSet_of ho hd ?_ (zJ b1));have o1:=fi ho hd CP t2;have cm:=RE s.heap a (Obj.putSet CP t2);split
   ·have p3:=relayAll_perm t2 CP (SetTable.grown CP.size);have f3:=relayAll_fits t2 CP (SetTable.grown CP.size);have l3:=z6 t2 CP (SetTable.grown CP.size) dM;generalize relayAll t2 CP (SetTable.grown CP.size)=Rl at p3 f3 l3 ⊢;obtain ⟨UR,t3,g3⟩:=Rl;dsimp only at p3 f3 l3 ⊢;have z3:UR.size=CP.size:=by rw [<- Fm,p3.length_eq,Fm]
    refine j7 (gw _ _ _ ?_);refine j7 (wpAny_storeSet_of o1 rfl ?_ (zJ (by rw [z3];exact b1)));refine j9 ?_;exact fin _ _ UR _ t3 (cm.trans (RE _ a _)) (fi o1 rfl UR t3) hex rfl p3 f3 (l3.1.trans l2) l3.2
   ·exact j9 (fin _ _ CP _ t2 cm o1 hex rfl (RF _) f2 l2 dM)
  refine j7 (gw _ _ _ ?_);split
  ·next R3=>
   refine j7 ?_;rw [hashByValue_scannable 8 TC];refine j9 ?_;refine kg (tail { t1 with plain:=false } (SetTable.fits_plain_off f1) l1 rfl) (fun r s' q=>?_) fun _ _ e=>e
   cases r with
   | none=>exact q.elim
   | some b=>exact j9 q
  ·next R3=>
   refine j7 (j9 ?_);simp only [↓reduceIte];refine kg (tail t1 f1 l1 (by simpa using R3)) (fun r s' q=>?_) fun _ _ e=>e
   cases r with
   | none=>exact q.elim
   | some b=>exact j9 q
theorem Vc {α:Type}:∀ (l:List α) (i:Nat) (h:i<l.length),(l[i]::l.eraseIdx i).Perm l
 | _::_,0,_=>RF _
 | x::r,i+1,h=>(List.Perm.swap x (r[i]'(by simpa using h)) (r.eraseIdx i)).trans ((Vc r i (by simpa using h)).cons x)
theorem tJ (nx:Nat->Nat):∀ (n k:Nat) (l:List α) (out:Array α),l.length=n->(pickOrder.go nx n k l out).toList.Perm (out.toList++l):=by
 intro n
 induction n with
 | zero=>
  intro k l out hl;rw [List.length_eq_zero_iff.mp hl];unfold pickOrder.go;simp
 | succ n ih=>
  intro k l out hl;have AQ:nx k % l.length<l.length:=Nat.mod_lt _ (by omega);unfold pickOrder.go;rw [BE AQ];dsimp only;refine (ih _ _ _ (by rw [ZCr AQ];omega)).trans ?_;rw [ZCa,C8];exact List.Perm.append_left _ (Vc l _ AQ)
theorem X1 (nx:Nat->Nat)(xs:Array α):(pickOrder nx xs).toList.Perm xs.toList:=by
 have q:=tJ nx xs.size 0 xs.toList #[] (by simp)
 simpa [pickOrder] using q
theorem oP {src:Source}{Q:Nat->Shared->Prop}(hn:n≠0)(h:∀ k d,k<n->Q k { s with drawn:=d }):wpAny (model prog w) A (choose src n) Q E s:=by
 intro Γ p hΓ;show Sem.wp _ _ (.choose src n .pure) _ _ _ _;rw [Sem.wp_choose];refine ⟨hn,?_⟩;rw [Sem.wp_pure];exact h _ _ (Nat.mod_lt _ (Nat.pos_of_ne_zero hn))
theorem jo:∀ (n:Nat) (xs:List α) (s:Shared) (Q:List α->Shared->Prop),xs.length<=n->(∀ ys d,ys.Perm xs->Q ys { s with drawn:=d })->wpAny (model prog w) A (drawOrder n xs) Q E s:=by
 intro n
 induction n with
 | zero=>
  intro xs s Q hl h;rw [List.length_eq_zero_iff.mp (Nat.le_zero.mp hl)] at h ⊢;exact j9 (h [] s.drawn (RF _))
 | succ n ih=>
  intro xs s Q hl h;cases xs with
  | nil=>exact j9 (h [] s.drawn (RF _))
  | cons x r=>
   unfold drawOrder;refine j7 (oP (by simp) fun k d hk=>?_);rw [BE hk];dsimp only;refine j7 (ih _ _ _ (by rw [ZCr hk];simp only [BN] at hl ⊢;omega) fun ys d' hp=>?_);exact j9 (h _ d' ((hp.cons _).trans (Vc (x::r) _ hk)))
theorem jV {Q:Bool->Shared->Prop}(ho:s.heap.get? a=some o)(hd:o.data=.set es ep t)(hf:t.fits es.size=true)
  (h:Q (!Fd w && (!t.plain && decide (es.size > 1))) s):wpAny (model prog w) A (setDrawn a) Q E s:=by
 unfold setDrawn;refine j7 (pT ho hd hf ?_);dsimp only;unfold setsByText;refine j7 (j7 (qV (j9 ?_)));exact j9 h
theorem aJ {Q:Option (Value×Nat)->Shared->Prop}(hb:Fd w=true)(ho:s.heap.get? a=some o)(hd:o.data=.set es ep t)(hf:t.fits es.size=true)
  (h:Q (((pickOrder (w.params.setOrder a ep) es)[i]?).map fun e=>(e.2,sl)) s):wpAny (model prog w) A (setNext a sl i ep) Q E s:=by
 have Bc:w.params.followText "set-order"=true:=hb;unfold setNext;refine j7 (pT ho hd hf ?_);dsimp only;unfold setsByText;refine j7 (j7 (qV (j9 ?_)));show wpAny _ _ (if w.params.followText "set-order"=true then _ else _) _ _ _
 rw [jd Bc,jG (by simp)];refine j7 ?_;unfold setWalk setsByText;refine j7 (pT ho hd hf ?_);dsimp only;refine j7 (j7 (qV (j9 ?_)));show wpAny _ _ (if w.params.followText "set-order"=true then _ else _) _ _ _
 rw [jd Bc];exact j7 (qV (j9 (j9 h)))
theorem gC {Q:Option (Value×Nat)->Shared->Prop}(hb:Fd w=false)(ho:s.heap.get? a=some o)(hd:o.data=.set es ep t)(hf:t.fits es.size=true)
  (h1:es.size<=1) (hl:t.led=true)
  (h:Q (match es[SetTable.below t.place sl]?,t.place[SetTable.below t.place sl]? with | some (_,x),some j=>some (x,j+1) | _,_=>none) s):wpAny (model prog w) A (setNext a sl i ep) Q E s:=by
 have Bc:w.params.followText "set-order"=false:=hb;unfold setNext;refine j7 (pT ho hd hf ?_);dsimp only;unfold setsByText;refine j7 (j7 (qV (j9 ?_)));show wpAny _ _ (if w.params.followText "set-order"=true then _ else _) _ _ _
 rw [jG (by rw [Bc];decide)];show wpAny _ _ (if (!t.plain && decide (es.size > 1))=true then _ else _) _ _ _
 rw [jG (by rw [jx (by omega)];simp)];refine j7 (m:=_) ?_
 wp_delta
 rw [hl];exact j9 (j9 h)
theorem mK {Q:Value->Shared->Prop}(ho:s.heap.get? a=some o)(hd:o.data=.set es ep t)(hf:t.fits es.size=true)(he:es[pl]?=some e)
  (h:Q e.2 s):wpAny (model prog w) A (setNextDrawn a pl ep) Q E s:=by
 unfold setNextDrawn;refine j7 (pT ho hd hf ?_);dsimp only;rw [jG (by simp),he];exact j9 h
theorem fW:Manifest.owners.lookup (String.ofList ['r','o','t','a','r','e','t','i','_','t','e','s'].reverse)=some Manifest.sig_set_iterator:=by kernel_rfl
theorem GL:Slot "set_iterator" "__next__" "set_iterator.__next__" :=
 .of (owner:="set_iterator") (n:="__next__") (by rw [rH,o8];kernel_rfl) (by decide +kernel) (by decide +kernel) (by decide +kernel)
  (by first | exact .inl (by decide +kernel) | exact .inr (by decide +kernel)) (by rw [p0];kernel_rfl)
theorem Qc:entryFor table "set_iterator.__next__"=some Builtin.«set_iterator.__next__»:=entryFor_of_tree (by kernel_rfl)
theorem Ov (a:Value):argsOk "set_iterator.__next__" ⟨[a],[]⟩:=by
 unfold argsOk;rw [signature?_of (id:="set_iterator.__next__") (n:=['_','_','t','x','e','n','_','_']) (o:=['r','o','t','a','r','e','t','i','_','t','e','s']) (by kernel_rfl) fW];kernel_rfl
theorem aF:Slot "set_iterator" "__iter__" "set_iterator.__iter__" :=
 .of (owner:="set_iterator") (n:="__iter__") (by rw [rH,o8];kernel_rfl) (by decide +kernel) (by decide +kernel) (by decide +kernel)
  (by first | exact .inl (by decide +kernel) | exact .inr (by decide +kernel)) (by rw [p0];kernel_rfl)
theorem rb (a:Value):argsOk "set_iterator.__iter__" ⟨[a],[]⟩:=by
 unfold argsOk;rw [signature?_of (id:="set_iterator.__iter__") (n:=['_','_','r','e','t','i','_','_']) (o:=['r','o','t','a','r','e','t','i','_','t','e','s']) (by kernel_rfl) fW];kernel_rfl
theorem yZ:entryFor table "set_iterator.__iter__"=some Builtin.«dict_keyiterator.__iter__»:=
 entryFor_alias (id' := "dict_keyiterator.__iter__") (by kernel_rfl) (by first | rfl | decide +kernel | (unfold String.splitOn;simp +decide [String.splitOnAux])) (by decide +kernel) (by kernel_rfl)
theorem vt:entryFor table "set.__iter__"=some Builtin.«frozenset.__iter__»:=
 entryFor_alias (id' := "frozenset.__iter__") (by kernel_rfl) (by first | rfl | decide +kernel | (unfold String.splitOn;simp +decide [String.splitOnAux])) (by decide +kernel) (by kernel_rfl)
def Hf (f:Value)(i:Nat)(S:Addr)(n ep:Nat):Array Value:=#[f,rawInt (i:Int),.ref S,rawInt (n:Int),rawInt (ep:Int)]
def ET (h:Heap)(I:Addr)(f:Value)(i:Nat)(S:Addr)(n ep:Nat):Prop:=∃ o,h.get? I=some o/\o.cls=.type "set_iterator" /\ o.data=.fields (Hf f i S n ep)
theorem ET.typeIs (x:ET s.heap I f i S n ep):s.TypeIs (.ref I) "set_iterator" := let ⟨o,ho,hc,_⟩:=x;⟨o,ho,hc⟩
theorem ET.at {h:Heap}(x:ET h I f i S n ep)(e:∀ o,h.get? I=some o->h'.get? I=some o):ET h' I f i S n ep:=let ⟨o,ho,r⟩:=x;⟨o,e _ ho,r⟩
theorem gK {Q:α->Shared->Prop}{F:Value->Shared->Prop}(hh:A.handled=none)
  (hF:∀ e h',(∀ b o,s.heap.get? b=some o->h'.get? b=some o)->(Shared.TypeIs { s with heap:=h' } e "StopIteration")->F e { s with heap:=h' }) :
  wpAny (model prog w) A (newExc (.type "StopIteration") [] >>= fun e=>raiseNew e) Q F s:=by
 refine j7 ?_;simp only [newExc,newTuple];refine j7 (ky ?_ (by size_fits));refine j7 (m:=firstArgMember _ _) (uQ (a:=Value.none) (by first | rfl | (simp only [firstArgMember];rfl)) ?_)
 refine ky ?_ (by size_fits);simp only [raiseNew];refine j7 (wpAny_handled ?_);rw [hh];refine j7 (j9 (wpAny_throw ?_));exact hF _ _ (fun b o e=>BF _ (BF _ e)) ⟨_,BU _ rfl,rfl⟩
theorem cN {nx:Nat}(hit:ET s.heap it (rawInt (sl:Int)) i S n ep)
  (ho:s.heap.get? S=some o) (hd:o.data=.set es ep t) (hf:t.fits es.size=true) (hn:es.size=n)
  (RY:∀ (A1:Around) (E1:Value->Shared->Prop) (Q1:Option (Value×Nat)->Shared->Prop),Q1 (some (x,nx)) s->wpAny (model prog w) A1 (setNext S sl i ep) Q1 E1 s)
  (hQ:∀ h',ET h' it (rawInt (nx:Int)) (i+1) S n ep->Heap.SameBut it s.heap h'->Q (some x) { s with heap:=h' }):wpAny (model prog w) A (pyNext (.ref it)) Q E s:=by
 obtain ⟨oi,Ei,hc,Du⟩:=id hit;subst hn;unfold pyNext;refine j7 (ZA0 (nU (name:=Str.ofString "__next__") hit.typeIs GL
  (nH GL hit.typeIs Qc ?_ (Ov _))))
 unfold Builtin.«set_iterator.__next__»;refine j7 (uQ (a:=(Value.ref it,[])) rfl ?_)
 try dsimp only
 refine j7 (xD Ei Du ?_);show wpAny _ _ (setEntries S >>= _) _ _ s;refine j7 (qG ho hd hf ?_);rw [jG (by simp)];show wpAny _ _ (setNext S sl i ep >>= _) _ _ s;refine j7 (RY _ _ _ ?_);dsimp only;refine j7 (ra Ei Du (by simp [Hf]) ?_);have o1:=FN (fun ob=>Obj.mapFields (·.setIfInBounds 0 (rawInt (nx:Int))) ob) Ei (Y3 (KR Du _))
 have d1:=KR Du (·.setIfInBounds 0 (rawInt (nx:Int)))
 refine j7 (ra (s:={ s with heap:=_ }) o1 d1 (by simp [Hf]) ?_)
 refine j9 ⟨x,rfl,j9 (hQ _ ⟨_,FN _ o1 (Y3 (KR d1 _)),?_,?_⟩ ((RE ..).trans (RE ..)))⟩
 ·exact (iq ..).trans ((iq ..).trans hc)
 ·rw [KR d1];simp [Hf]
theorem cv (hh:A.handled=none)(hit:ET s.heap it (rawInt (sl:Int)) i S n ep)
  (ho:s.heap.get? S=some o) (hd:o.data=.set es ep t) (hf:t.fits es.size=true) (hn:es.size=n)
  (RY:∀ (A1:Around) (E1:Value->Shared->Prop) (Q1:Option (Value×Nat)->Shared->Prop),Q1 none s->wpAny (model prog w) A1 (setNext S sl i ep) Q1 E1 s)
  (hQ:∀ h',Heap.ExtBut it s.heap h'->Q none { s with heap:=h' }):wpAny (model prog w) A (pyNext (.ref it)) Q E s:=by
 obtain ⟨oi,Ei,hc,Du⟩:=id hit;subst hn;unfold pyNext;refine j7 (ZA0 (nU (name:=Str.ofString "__next__") hit.typeIs GL
  (nH GL hit.typeIs Qc ?_ (Ov _))))
 unfold Builtin.«set_iterator.__next__»;refine j7 (uQ (a:=(Value.ref it,[])) rfl ?_)
 try dsimp only
 refine j7 (xD Ei Du ?_);show wpAny _ _ (setEntries S >>= _) _ _ s;refine j7 (qG ho hd hf ?_);rw [jG (by simp)];show wpAny _ _ (setNext S sl i ep >>= _) _ _ s;refine j7 (RY _ _ _ ?_);dsimp only;refine j7 (ra Ei Du (by simp [Hf]) ?_);refine gK (A:=A.in1) hh fun e h' k hT=>?_;refine j7 (qL (T:="StopIteration") (b:=true) hT isSubtype_stop ?_);refine j9 (hQ _ (fun b ob hb e=>?_));exact k b ob ((Fn _ _ (BS hb)).trans e)
theorem z5 {T:Addr}(hit:ET s.heap it (.ref T) i S n ep)
  (ho:s.heap.get? S=some o) (hd:o.data=.set es ep t) (hf:t.fits es.size=true) (hn:es.size=n) (hT:s.heap.get? T=some oT) (VO:oT.data=.seq ps nT) (hp:ps[i]?=some (rawInt (pl:Int))) (he:es[pl]?=some e)
  (hQ:∀ h',ET h' it (.ref T) (i+1) S n ep->Heap.SameBut it s.heap h'->Q (some e.2) { s with heap:=h' }):wpAny (model prog w) A (pyNext (.ref it)) Q E s:=by
 obtain ⟨oi,Ei,hc,Du⟩:=id hit;subst hn;unfold pyNext;refine j7 (ZA0 (nU (name:=Str.ofString "__next__") hit.typeIs GL
  (nH GL hit.typeIs Qc ?_ (Ov _))))
 unfold Builtin.«set_iterator.__next__»;refine j7 (uQ (a:=(Value.ref it,[])) rfl ?_)
 try dsimp only
 refine j7 (xD Ei Du ?_);show wpAny _ _ (setEntries S >>= _) _ _ s;refine j7 (qG ho hd hf ?_);rw [jG (by simp)];show wpAny _ _ (seqItems? (.ref T) >>= _) _ _ s;refine j7 ?_;unfold seqItems?;refine j7 (wC hT ?_);rw [VO];refine j9 ?_;show wpAny _ _ (match ps[i]? with | some (.int place _)=>_ | some _=>_ | none=>_) _ _ s
 rw [hp];show wpAny _ _ (setNextDrawn S pl ep >>= _) _ _ s;refine j7 (mK ho hd hf he ?_);refine j7 (ra Ei Du (by simp [Hf]) ?_);refine j9 ⟨e.2,rfl,j9 (hQ _ ⟨_,FN _ Ei (Y3 (KR Du _)),?_,?_⟩ (RE ..))⟩
 ·exact (iq ..).trans hc
 ·rw [KR Du];simp [Hf]
theorem zG {T:Addr}(hh:A.handled=none)(hit:ET s.heap it (.ref T) i S n ep)
  (ho:s.heap.get? S=some o) (hd:o.data=.set es ep t) (hf:t.fits es.size=true) (hn:es.size=n) (hT:s.heap.get? T=some oT) (VO:oT.data=.seq ps nT) (hp:ps[i]?=none)
  (hQ:∀ h',Heap.ExtBut it s.heap h'->Q none { s with heap:=h' }):wpAny (model prog w) A (pyNext (.ref it)) Q E s:=by
 obtain ⟨oi,Ei,hc,Du⟩:=id hit;subst hn;unfold pyNext;refine j7 (ZA0 (nU (name:=Str.ofString "__next__") hit.typeIs GL
  (nH GL hit.typeIs Qc ?_ (Ov _))))
 unfold Builtin.«set_iterator.__next__»;refine j7 (uQ (a:=(Value.ref it,[])) rfl ?_)
 try dsimp only
 refine j7 (xD Ei Du ?_);show wpAny _ _ (setEntries S >>= _) _ _ s;refine j7 (qG ho hd hf ?_);rw [jG (by simp)];show wpAny _ _ (seqItems? (.ref T) >>= _) _ _ s;refine j7 ?_;unfold seqItems?;refine j7 (wC hT ?_);rw [VO];refine j9 ?_;show wpAny _ _ (match ps[i]? with | some (.int place _)=>_ | some _=>_ | none=>_) _ _ s
 rw [hp];dsimp only;refine j7 (ra Ei Du (by simp [Hf]) ?_);have o1:=FN (fun ob=>Obj.mapFields (·.setIfInBounds 0 (rawInt 0)) ob) Ei (Y3 (KR Du _))
 have d1:=KR Du (·.setIfInBounds 0 (rawInt 0))
 refine j7 (ra (s:={ s with heap:=_ }) o1 d1 (by simp [Hf]) ?_)
 refine gK (A:=A.in1) hh fun e h' k hT=>?_;refine j7 (qL (T:="StopIteration") (b:=true) hT isSubtype_stop ?_);refine j9 (hQ _ (fun b ob hb e=>?_));exact k b ob ((Fn _ _ (BS hb)).trans ((Fn _ _ (BS hb)).trans e))
theorem XH {Q:Value->Shared->Prop}(hit:ET s.heap it f i S n ep)(h:Q (.ref it) s):wpAny (model prog w) A (pyIter (.ref it)) Q E s:=by
 refine wpAny_pyIter_slot hit.typeIs aF (nH aF hit.typeIs yZ ?_ (rb _));show wpAny _ _ (ret (.ref it)) _ _ s;exact j9 ⟨_,rfl, "set_iterator", _,hit.typeIs,GL.lookup,h⟩
theorem vC (hb:Fd w=true)(hh:A.handled=none)(I S:Addr)(Ak:S≠I)(hd:o.data=.set es ep t)(hf:t.fits es.size=true):
  Walks prog w A I [I,S] [I] es.size (fun i v=>((pickOrder (w.params.setOrder S ep) es).toList.map (·.2))[i]?=some v) (fun i h=>ET h I (rawInt ((0:Nat):Int)) i S es.size ep/\h.get? S=some o) where
 sub:=fun b hb=>by simp at hb;simp [hb]
 frame:=fun _ _ _ x hk=>⟨x.1.at fun o e=>hk I (by simp) o e,hk S (by simp) _ x.2⟩
 item:=fun i s Q E hi x hQ=>by
  have hl:(pickOrder (w.params.setOrder S ep) es).size=es.size:=by
   have q:=(X1 (w.params.setOrder S ep) es).length_eq
   simpa using q
  have Dj:i<(pickOrder (w.params.setOrder S ep) es).size:=by omega
  refine cN (x:=((pickOrder (w.params.setOrder S ep) es)[i]).2) (nx:=0) x.1 x.2 hd hf rfl (fun A1 E1 Q1 q=>aJ hb x.2 hd hf (by rw [RC Dj];exact q)) fun h' N8 sb=>?_;exact hQ _ h' s.toks (by rw [Ax,RD,RC Dj];rfl) ⟨N8,sb.extBut S o Ak x.2⟩ fun b ob hb eo=>sb.extBut b ob (fun h=>hb (by simp [h])) eo
 done:=fun s Q E x hQ=>by
  have hl:(pickOrder (w.params.setOrder S ep) es).size=es.size:=by
   have q:=(X1 (w.params.setOrder S ep) es).length_eq
   simpa using q
  refine cv hh x.1 x.2 hd hf rfl (fun A1 E1 Q1 q=>aJ hb x.2 hd hf (by rw [iL (by omega)];exact q)) fun h' eb=>?_;exact hQ h' s.toks fun b ob hb eo=>eb b ob (fun h=>hb (by simp [h])) eo
 self:=fun _ _ _ _ x hQ=>XH x.1 hQ
theorem RP:∀ (a:Array α),a.size=1->∃ x,a=#[x]
 | ⟨[x]⟩,_=>⟨x,rfl⟩
 | ⟨[]⟩,h=>by simp at h
 | ⟨_::_::_⟩,h=>by simp at h
theorem sY (p:Nat):SetTable.below #[p] 0=0:=by simp [SetTable.below,SetTable.below.go]
theorem below_1 (p:Nat):SetTable.below #[p] (p+1)=1:=by simp [SetTable.below,SetTable.below.go]
theorem eE (h:t.fits n=true):t.place.size=n:=by
 simp only [SetTable.fits,Dg,beq_iff_eq] at h;exact h.1
theorem uw (hb:Fd w=false)(hh:A.handled=none)(I S:Addr)(Ak:S≠I)(hd:o.data=.set es ep t)(hf:t.fits es.size=true)(h1:es.size<=1)(hl:t.led=true):
  Walks prog w A I [I,S] [I] es.size (fun i v=>(es.toList.map (·.2))[i]?=some v) (fun i h=>ET h I (rawInt (((if i=0 then 0 else t.place.getD 0 0+1:Nat)):Int)) i S es.size ep/\h.get? S=some o) where
 sub:=fun b hb=>by simp at hb;simp [hb]
 frame:=fun _ _ _ x hk=>⟨x.1.at fun o e=>hk I (by simp) o e,hk S (by simp) _ x.2⟩
 item:=fun i s Q E hi x hQ=>by
  obtain rfl:i=0:=by omega
  have z:es.size=1:=by omega
  have zp:t.place.size=1:=(eE hf).trans z;obtain ⟨e,rfl⟩:=RP es z;obtain ⟨p,hp⟩:=RP t.place zp;have hit:=x.1;refine cN (x:=e.2) (nx:=p+1) hit x.2 hd hf rfl (fun A1 E1 Q1 q=>gC hb x.2 hd hf h1 hl (by rw [hp,jd rfl,sY];exact q)) fun h' N8 sb=>?_;refine hQ _ h' s.toks rfl ⟨?_,sb.extBut S o Ak x.2⟩ fun b ob hb eo=>sb.extBut b ob (fun h=>hb (by simp [h])) eo;rw [jG (by omega),hp];exact N8
 done:=fun s Q E x hQ=>by
  refine cv hh x.1 x.2 hd hf rfl (fun A1 E1 Q1 q=>gC hb x.2 hd hf h1 hl ?_) fun h' eb=>?_
  ·by_cases z:es.size=0
   ·rw [iL (by omega)];exact q
   ·have z1:es.size=1:=by omega
    have zp:t.place.size=1:=(eE hf).trans z1;obtain ⟨p,hp⟩:=RP t.place zp;rw [jG z,hp];show Q1 (match es[SetTable.below #[p] (p+1)]?,(#[p]:Array Nat)[SetTable.below #[p] (p+1)]? with | some (_,x),some j=>some (x,j+1) | _,_=>none) s
    rw [below_1,iL (by omega)];exact q
  ·exact hQ h' s.toks fun b ob hb eo=>eb b ob (fun h=>hb (by simp [h])) eo
 self:=fun _ _ _ _ x hQ=>XH x.1 hQ
theorem ZC7 (hh:A.handled=none)(I S T:Addr)(Ak:S≠I)(ye:T≠I)(hd:o.data=.set es ep t)(hf:t.fits es.size=true){ps:List Nat}(hp:ps.Perm (List.range es.size))(hT:oT.data=.seq (ps.map fun i:Nat=>rawInt i).toArray nT):
  Walks prog w A I [I,S,T] [I] es.size (fun i v=>(ps.map fun p=>(es[p]?.map (·.2)).getD .none)[i]?=some v) (fun i h=>ET h I (.ref T) i S es.size ep/\h.get? S=some o/\h.get? T=some oT) where
 sub:=fun b hb=>by simp at hb;simp [hb]
 frame:=fun _ _ _ x hk=>⟨x.1.at fun o e=>hk I (by simp) o e,hk S (by simp) _ x.2.1,hk T (by simp) _ x.2.2⟩
 item:=fun i s Q E hi x hQ=>by
  have hl:ps.length=es.size:=by have q:=hp.length_eq;simpa using q
  have Dj:i<ps.length:=by omega
  have hpi:ps[i]<es.size:=by
   have q:=hp.mem_iff.mp (KJ Dj)
   simpa using q
  have he:es[ps[i]]?=some es[ps[i]]:=RC hpi;refine z5 (pl:=ps[i]) (e:=es[ps[i]]) x.1 x.2.1 hd hf rfl x.2.2 hT (by rw [ZCo,Ax,BE Dj];rfl) he fun h' N8 sb=>?_;exact hQ _ h' s.toks (by rw [Ax,BE Dj];simp only [RL,he,ZD7]) ⟨N8,sb.extBut S o Ak x.2.1,sb.extBut T oT ye x.2.2⟩ fun b ob hb eo=>sb.extBut b ob (fun h=>hb (by simp [h])) eo
 done:=fun s Q E x hQ=>by
  have hl:ps.length=es.size:=by have q:=hp.length_eq;simpa using q
  refine zG hh x.1 x.2.1 hd hf rfl x.2.2 hT (by rw [ZCo,Ax,Nt (by omega)];rfl) fun h' eb=>?_;exact hQ h' s.toks fun b ob hb eo=>eb b ob (fun h=>hb (by simp [h])) eo
 self:=fun _ _ _ _ x hQ=>XH x.1 hQ
theorem uH (es:Array (Int×Value)):(List.range es.size).map (fun p=>(es[p]?.map (·.2)).getD Value.none)=es.toList.map (·.2):=by
 refine iR (by simp) fun i h1 h2=>?_;have hi:i<es.size:=by simpa using h1
 simp [RC hi]
theorem yL {l:List (Int×Value)}(h:ElemsOf (PySem.strKind prog w) l):∃ ts,StrsAre (l.map (·.2)) ts/\∀ k,k∈ts↔∃ e∈l,(PySem.strKind prog w).is k e.2=true:=by
 induction l with
 | nil=>exact ⟨[],.nil,fun k=>by simp⟩
 | cons e r ih=>
  obtain ⟨ts,h1,h2⟩:=ih h.tail;obtain ⟨⟨k,hk,_⟩,_⟩:=h.head;obtain ⟨tk,he⟩:=Value.isStrOf_shape hk;refine ⟨k::ts,?_,fun k'=>?_⟩
  ·rw [Bs,he];exact .cons k tk h1
  ·rw [DT,h2 k'];constructor
   ·rintro (rfl | ⟨x,hx,q⟩)
    ·exact ⟨e,Cu,hk⟩
    ·exact ⟨x,Di _ hx,q⟩
   ·rintro ⟨x,hx,q⟩;rcases List.mem_cons.mp hx with rfl | hx
    ·exact .inl ((PySem.strKind prog w).inj x.2 k' k q hk)
    ·exact .inr ⟨x,hx,q⟩
theorem StrsAre.len:∀ {vs:List Value}{ss:List Str},StrsAre vs ss->vs.length=ss.length
 | _,_,.nil=>rfl
 | _,_,.cons _ _ h=>by rw [BN,BN,StrsAre.len h]
theorem StrsAre.perm {C3:List Value}(h:StrsAre vs ss)(p:C3.Perm vs):∃ AK,StrsAre C3 AK/\AK.Perm ss:=by
 refine ⟨C3.map strOf,strsAre_map C3 fun v hv=>h.all v (p.mem_iff.mp hv),?_⟩;rw [<- h.strs];exact p.map strOf
section
theorem ZBl {f:Str->Bool}{Q:Value->Shared->Prop}(hS:Cb prog w s.heap S f n)
  (h:∀ (I:Addr) (h1:Heap) (d:_) (fp:List Addr) (vs:List Value) (ts:List Str) (St:Nat->Heap->Prop),(∀ A2:Around,A2.handled=none->Walks prog w A2 I fp [I] n (fun i v=>vs[i]?=some v) St)->St 0 h1->(∀ b∈fp,b=S∨s.heap.objs.size<=b/\b<h1.objs.size)->s.heap.objs.size<=I->s.heap.objs.size<=h1.objs.size->
   (∀ b o,s.heap.get? b=some o->h1.get? b=some o)->StrsAre vs ts->ts.length=n->(∀ k,f k=true↔k∈ts)->Q (.ref I) { s with heap:=h1,drawn:=d }):wpAny (model prog w) A (pyIter (.ref S)) Q E s:=by
 obtain ⟨o,es,ep,t,ho,hex,hd,Kd,FC,hb,hf,hn,Oa,Bk⟩:=hS;subst hn;have hT:s.TypeIs (.ref S) "set" := ⟨o,ho,hex.1⟩;have AQ:S<s.heap.objs.size:=B8 ho;obtain ⟨ts0,t1,t2⟩:=yL Kd;have fin:∀ (I:Addr) (h1:Heap) (d:_) (fp:List Addr) (vs:List Value) (St:Nat->Heap->Prop),(∀ A2:Around,A2.handled=none->Walks prog w A2 I fp [I] es.size (fun i v=>vs[i]?=some v) St)->St 0 h1->(∀ b∈fp,b=S∨s.heap.objs.size<=b/\b<h1.objs.size)->s.heap.objs.size<=I->s.heap.objs.size<=h1.objs.size->
   (∀ b o,s.heap.get? b=some o->h1.get? b=some o)->vs.Perm (es.toList.map (·.2))->Q (.ref I) { s with heap:=h1,drawn:=d }:=by
  intro I h1 d fp vs St a1 a2 a3 a4 a5 a6 a7;obtain ⟨ts,q1,q2⟩:=StrsAre.perm t1 a7;refine h I h1 d fp vs ts St a1 a2 a3 a4 a5 a6 q1 ?_ fun k=>?_
  ·rw [q2.length_eq,<- StrsAre.len t1];simp
  ·rw [FC k,<- t2 k];exact q2.mem_iff.symm
 refine wpAny_pyIter_slot hT F.slot_set_iter (nH F.slot_set_iter hT vt ?_ (F.args_set_iter_1 _));unfold Builtin.«frozenset.__iter__»;refine j7 (uQ (a:=S) rfl ?_);refine j7 ?_;unfold Builtin.Frozenset.sizeOf;refine j7 (qG ho hd hf (j9 ?_));refine j7 (jV ho hd hf ?_)
 by_cases Mh:(!Fd w && (!t.plain && decide (es.size > 1)))=true
 ·rw [jd Mh];refine j7 ?_;refine jo es.size (List.range es.size) _ _ (by rw [iZ];exact Ao _) fun ps d hp=>?_;have pz:(ps.map fun i:Nat=>rawInt i).length<=sizeLine:=by rw [Ab,hp.length_eq,iZ];exact zJ hb
  refine j7 (wpAny_newTuple ?_ pz);dsimp only;refine j7 (wpAny_setEpoch_of (s:={ s with heap:=_,drawn:=d }) (BF _ ho) hd hf ?_)
  refine j7 (ky ?_);have g:∀ (q:Obj) (b:Addr) (ob:Obj),s.heap.get? b=some ob->((s.heap.push (seqObj "tuple" (ps.map fun i:Nat=>rawInt i).toArray 0)).push q).get? b=some ob:=fun q b ob e=>BF _ (BF _ e);have Kj:(s.heap.push (seqObj "tuple" (ps.map fun i:Nat=>rawInt i).toArray 0)).objs.size=s.heap.objs.size+1:=Dy ..;refine j9 ⟨_,rfl, "set_iterator", _,⟨_,BU _ rfl,rfl⟩,GL.lookup,?_⟩;refine fin _ _ d [(s.heap.push (seqObj "tuple" (ps.map fun i:Nat=>rawInt i).toArray 0)).objs.size,S,s.heap.objs.size] _ _ (fun A2 hh=>ZC7 hh _ S s.heap.objs.size (by rw [Kj];exact BK (HE AQ)) (by rw [Kj];exact BK (KP _)) hd hf hp (oT:=seqObj "tuple" (ps.map fun i:Nat=>rawInt i).toArray 0) rfl) ⟨⟨_,BU _ rfl,rfl,rfl⟩,g _ _ _ ho,BF _ (BU _ rfl)⟩ ?_ (by show s.heap.objs.size<=(s.heap.push (seqObj "tuple" (ps.map fun i:Nat=>rawInt i).toArray 0)).objs.size;rw [Kj];exact EC _) ?_ (g _) ?_
  ·intro b Bc;simp only [DT,Au,rV] at Bc;rw [Dy,Kj];rcases Bc with rfl | rfl | rfl
   ·right;rw [Kj];exact ⟨EC _,KP _⟩
   ·left;rfl
   ·right;exact ⟨Ao _,HE (KP _)⟩
  ·rw [Dy,Kj];exact Xy (EC _)
  ·rw [<- uH];exact hp.map _
 ·rw [jG Mh];refine j7 (j9 ?_);refine j7 (wpAny_setEpoch_of ho hd hf ?_);refine j7 (ky ?_);have g:∀ (q:Obj) (b:Addr) (ob:Obj),s.heap.get? b=some ob->(s.heap.push q).get? b=some ob:=fun q b ob e=>BF _ e;refine j9 ⟨_,rfl, "set_iterator", _,⟨_,BU _ rfl,rfl⟩,GL.lookup,?_⟩;have LS:∀ (q:Obj),∀ b∈[s.heap.objs.size,S],b=S∨s.heap.objs.size<=b/\b<(s.heap.push q).objs.size:=by
   intro q b Bc;simp only [DT,Au,rV] at Bc;rw [Dy];rcases Bc with rfl | rfl
   ·right;omega
   ·left;rfl
  cases Oo:Fd w with
  | true=>
   refine fin _ _ s.drawn [s.heap.objs.size,S] _ _ (fun A2 hh=>vC Oo hh _ S (BK AQ) hd hf) ⟨⟨_,BU _ rfl,rfl,rfl⟩,g _ _ _ ho⟩ (LS _) (Ao _) (by rw [Dy];omega) (g _) ?_;exact (X1 _ _).map _
  | false=>
   have h1:es.size<=1:=by
    rw [Oo] at Mh
    by_cases z:es.size<=1
    ·exact z
    ·rw [Bk (by omega),jO (by omega:es.size > 1)] at Mh;exact absurd rfl Mh
   refine fin _ _ s.drawn [s.heap.objs.size,S] _ _ (fun A2 hh=>uw Oo hh _ S (BK AQ) hd hf h1 (by rw [Oa,Oo];rfl)) ⟨⟨_,BU _ rfl,rfl,rfl⟩,g _ _ _ ho⟩ (LS _) (Ao _) (by rw [Dy];omega) (g _) (RF _)
theorem yC:typeLookup (.type "set") "__len__"=pure (some (.builtin "set.__len__")):=by rw [rH,o8];kernel_rfl
theorem ZAS {f:Str->Bool}{Q:List Value->Shared->Prop}(hh:A.handled=none)(hS:Cb prog w s.heap S f n)(hn:n<=sizeLine)
  (h:∀ (s':Shared) (vs:List Value) (ts:List Str),(∀ b o,s.heap.get? b=some o->s'.heap.get? b=some o)->s.heap.objs.size<=s'.heap.objs.size->s'.gens=s.gens->s'.os=s.os->StrsAre vs ts->ts.length=n->(∀ k,f k=true↔k∈ts)->Q vs s') :
  wpAny (model prog w) A (collect (.ref S)) Q E s:=by
 have AQ:S<s.heap.objs.size:=by obtain ⟨o,_,_,_,ho,_⟩:=hS;exact B8 ho
 have Io:s.heap.objs.size≠S:=KQ AQ;unfold collect;refine j7 (wU (mP F.entry_proto_collect ?_));rw [Lf F.plain_proto_collect _];show wpAny _ A.in1 (newList [] >>= fun l=>again (.builtin "list.__iadd__" ⟨[l,.ref S],[]⟩)) _ _ s;refine j7 (ky ?_);refine j9 ⟨pV Xh _,mP F.entry_list_iadd ?_⟩;rw [Lf Xh _];generalize Nq:({ cls:=.type "list", data:=.seq ([]:List Value).toArray }:Obj)=so;have Dd:Cb prog w (s.heap.push so) S f n:=hS.keep fun o e=>BF _ e;have Iw:(s.heap.push so).get? s.heap.objs.size=some so:=BU _ (by rw [<- Nq];rfl);have sz:(s.heap.push so).objs.size=s.heap.objs.size+1:=Dy ..;have BY:Shared.TypeIs { s with heap:=s.heap.push so } (.ref S) "set" := by obtain ⟨o,_,_,_,ho,hex,_⟩:=Dd;exact ⟨o,ho,hex.1⟩
 have h1:Builtin.List.listSameRef (.ref s.heap.objs.size) (.ref S)=false:=by simp [Builtin.List.listSameRef,Io]
 show wpAny _ A.in1 (Builtin.List.listExtendWith (.ref s.heap.objs.size) (.ref S) (.ref s.heap.objs.size)) _ _ { s with heap:=s.heap.push so }
 unfold Builtin.List.listExtendWith;refine j7 (oa BY ?_);rw [jG (by rw [h1];decide)];refine j7 (ZBl (s:={ s with heap:=s.heap.push so }) Dd fun I h2 d fp vs ts St W Hk LS hI ZE2 kp Tg tl tm=>?_)
 have D2:s.heap.objs.size∉fp:=fun hm=>by
  rcases LS _ hm with z | ⟨z,_⟩
  ·exact Io z
  ·have z':(s.heap.push so).objs.size<=s.heap.objs.size:=z;rw [sz] at z';omega
 have CI:Shared.TypeIs { s with heap:=h2,drawn:=d } (.ref S) "set" := by obtain ⟨o,ho,hc⟩:=BY;exact ⟨o,kp _ _ ho,hc⟩
 refine j7 (lq ?_);unfold Builtin.List.listLengthHint;refine j7 (qg CI yC ?_);generalize Fq:("set.__len__":String)=Jm
 wp_delta
 rw [show splitId Jm=some ("set","__len__") from by subst Fq;decide +kernel];subst Fq;refine j7 (qL (b:=true) CI (by rw [p0];kernel_rfl) ?_);rw [jG (by decide)];refine qx (fun _=>?_) (fun Cq=>absurd (by decide +kernel) Cq);refine j7 (oa CI ?_);refine j9 ?_;refine qx (fun _=>?_) (fun Cq=>absurd (by decide +kernel) Cq);refine j7 (vg ?_);refine j7 ?_;show wpAny _ _ (updateSeq s.heap.objs.size (·.push .none) >>= fun _=>updateSeq s.heap.objs.size (·.pop)) _ _ _
 have z0:(#[]:Array Value).size<=sizeLine:=C2 _;have z1:((#[]:Array Value).push Value.none).size<=sizeLine:=by show 1<=sizeLine;decide
 have z2:((#[]:Array Value).push Value.none).size<=sizeLine+1:=Xy z1;have z3:(((#[]:Array Value).push Value.none).pop).size<=sizeLine+1:=C2 _;have IG:=kp _ _ Iw;subst Nq;refine j7 (pN (s:={ s with heap:=h2,drawn:=d }) IG rfl ?_ z0 z2)
 have q2:=FN (Obj.mapSeq (·.push Value.none)) IG rfl
 refine pN q2 rfl ?_ z1 z3;have q3:=FN (Obj.mapSeq (·.pop)) q2 rfl
 have GG:∀ b o,b≠s.heap.objs.size->h2.get? b=some o->((h2.update s.heap.objs.size (Obj.mapSeq (·.push Value.none))).update s.heap.objs.size (Obj.mapSeq (·.pop))).get? b=some o:=
  fun b o hb e=>(Fn _ _ (BS hb)).trans ((Fn _ _ (BS hb)).trans e)
 refine j9 ⟨pV iz _,sS (W A.in1 hh).toS hn _ D2 _ n 0 _ #[] _ rfl (C2 _) ?_ q3 (Xj _) fun s' Ca c' hm C5 Ai=>?_⟩
 ·exact (W A.in1 hh).frame 0 h2 _ Hk fun b hb o e=>GG b o (fun z=>D2 (z▸hb)) e
 ·show wpAny _ A (load s.heap.objs.size >>= _) _ _ s';refine j7 (wC C5 ?_);have ev:Ca.toList=vs:=by
   have hvl:vs.length=n:=(StrsAre.len Tg).trans tl;refine iS fun i=>?_
   by_cases hi:i<n
   ·have h1:Ca[i]?=some (Ca[i]'(by rw [Ai.1];exact hi)):=RC _;rw [RD,h1];exact (Ai.2 i _ h1).symm
   ·rw [Nt (by rw [Fm,Ai.1];omega),Nt (by omega)]
  refine j9 ?_;rw [<- ev] at Tg;refine h s' Ca.toList ts (fun b o e=>?_) (KN (B8 C5)) hm.gens hm.os Tg tl tm;have hb:b<s.heap.objs.size:=B8 e;refine hm.heap b o ?_ (GG b o (BK hb) (kp b o (BF _ e)));simp only [DT,Au,rV,not_or];refine ⟨BK hb,?_⟩;have hI':s.heap.objs.size+1<=I:=by rw [<- sz];exact hI
  exact BK (D5 hb (Nat.le_of_succ_le hI'))
variable {R:Result->Shared->Prop}{wr:List Addr}{G:Array GenState->Array GenState->Prop}{P:Nat->Value->Prop}{St:Nat->Shared->Prop}
theorem o9 (W:WalksS prog w A.in1 I fp wr G ss.length P St)(S:Addr)(D2:S∉fp)(UI:∀ i v,P i v->∃ (h:i<ss.length) (t:Tok),v=.str ss[i] t)(hb:ss.length+1<scanBound):
  ∀ (k i:Nat) (s:Shared),ss.length - i=k->i<=ss.length->St i s->Cb prog w s.heap S (fun k'=>(dd (ss.take i)).any (· == k')) (dd (ss.take i)).length->
   (∀ s',Moved (S::wr) G s s'->Cb prog w s'.heap S (fun k'=>(dd ss).any (· == k')) (dd ss).length->R (.ok (.ret .none)) s')->
   codeAny (model prog w) A (.builtin "set.update.loop" ⟨[.ref S,.ref I],[]⟩) R s:=by
 have qX:S∉wr:=fun h=>D2 (W.sub _ h);have Zy:∀ {s s':Shared}{f:Str->Bool}{m:Nat},Moved wr G s s'->Cb prog w s.heap S f m->Cb prog w s'.heap S f m:=fun hm hS=>hS.keep fun o ho=>hm.heap S _ qX ho;intro k
 induction k with
 | zero=>
  intro i s hk hi CH hS fin;have e:i=ss.length:=by omega
  subst e;refine mP ZD9 ?_;rw [Lf iu _];show wpAny _ A.in1 (pyNext (.ref I) >>= _) _ _ s;refine j7 (W.done s _ _ CH fun s' hm=>?_);show wpAny _ A.in1 (ret Value.none) _ _ s';rw [Lo] at hS;exact j9 (fin s' (hm.mono fun b hb=>Di _ hb) (Zy hm hS))
 | succ k ih=>
  intro i s hk hi CH hS fin;have AQ:i<ss.length:=by omega
  refine mP ZD9 ?_;rw [Lf iu _];show wpAny _ A.in1 (pyNext (.ref I) >>= _) _ _ s;refine j7 (W.item i s _ _ AQ CH fun v s' hP yR hm=>?_);obtain ⟨_,t,rfl⟩:=UI i v hP;have C5:=Zy hm hS;show wpAny _ A.in1 (holding [Value.str ss[i] t] (setAdd S (.str ss[i] t)) >>= _) _ _ s';refine j7 (lq ?_);unfold setAdd;have W5:(PySem.strKind prog w).is ss[i] (.str ss[i] t)=true:=ZDI prog w ss[i] t;refine lq (j7 ((PySem.strKind prog w).pyHash W5 ?_));have Mf:(dd (ss.take i)).length+1<scanBound:=by
   have:=gf (ss.take i);rw [C1] at this;omega
  refine Cb.put (s:={ s' with toks:=s'.toks+1 }) C5 Mf fun h' Km NX=>?_
  have yG:Cb prog w h' S (fun k'=>(dd (ss.take (i+1))).any (· == k')) (dd (ss.take (i+1))).length:=
   NX.congr (fun k'=>by rw [fU ss i AQ,oy]) (by rw [fU ss i AQ,bG])
  refine j9 ⟨pV iu _,ih (i+1) _ (by omega) AQ (W.frame _ s' _ _ yR (EC _) fun b hb o e=>?_) yG fun J7 ZBi zN=>?_⟩
  ·rw [Km.2 b (by rintro rfl;exact D2 hb)];exact e
  ·refine fin J7 (Moved.trans W.gtrans ((hm.mono fun b hb=>Di _ hb).then_heap (EC _) fun b o hb e=>?_) ZBi) zN;rw [Km.2 b (by rintro rfl;exact hb Cu)];exact e
theorem uz (a:Value)
  (h:Q₁ (.ref s.heap.objs.size) { s with heap:=s.heap.push { cls:=.type "set", dict:=none,data:=.set #[] 0 (.fresh 0 0 (!Fd w)) } }) :
  codeAny (model prog w) A (.call (.builtin "set.__new__") ⟨[.type "set", a],[]⟩) (wants Q₁ E) s:=by
 refine codeAny_of_tree ?_;show wpAny _ A.in1 (do checkBuiltinCall "set.__new__" ⟨[.type "set", a],[]⟩;again (.builtin "set.__new__" ⟨[.type "set", a],[]⟩)) _ _ s
 refine j7 (uQ (PySem.F.newCall_set_1 a) ?_);refine j9 ⟨pV ZDA _,mP PySem.F.entry_set_new ?_⟩;rw [Lf ZDA _];unfold Builtin.«set.__new__» Builtin.Frozenset.newClass;have Fx:isSubtype (.type "set") (.type "set")=pure true:=by rw [p0];kernel_rfl
 obtain ⟨hp,g,d,tk,os⟩:=s;dsimp only
 wp_walk
 refine qV (j9 ?_);dsimp only;simp only [newObj];refine j7 (wpAny_alloc (j9 ?_));exact j9 h
theorem hU {l:Addr}{T:String}{od:Option Addr}{Ft:Array (Option Value)}{Q:Value->Shared->Prop}(ho:s.heap.get? l=some { cls:=.type T,dict:=od,data:=.seq items nl,slots:=Ft })
  (hs1:isSubtype (.type T) (.type "set")=pure false) (Cc:isSubtype (.type T) (.type "frozenset")=pure false) (Ak:(Value.type T == Value.type "dict")=false) (hb:ss.length+1<scanBound)
  (hit:∀ (s1:Shared) (A1:Around) (Q1:Value->Shared->Prop),A1.handled=A.handled->s1.heap.get? l=s.heap.get? l->l<s1.heap.objs.size->
   (∀ ob St P,WalksS prog w A1.in1 s1.heap.objs.size [s1.heap.objs.size,l] [s1.heap.objs.size] (fun a b=>b=a) ss.length P St->(∀ i v,P i v->∃ (h:i<ss.length) (t:Tok),v=.str ss[i] t)->St 0 { s1 with heap:=s1.heap.push ob }->Q1 (.ref s1.heap.objs.size) { s1 with heap:=s1.heap.push ob })->
   wpAny (model prog w) A1 (pyIter (.ref l)) Q1 E s1)
  (h:∀ (h':Heap) (tk:Nat),Cb prog w h' s.heap.objs.size (fun k'=>(dd ss).any (· == k')) (dd ss).length->(∀ b o,b<s.heap.objs.size->s.heap.get? b=some o->h'.get? b=some o)->Q (.ref s.heap.objs.size) { s with heap:=h',toks:=tk }) :
  wpAny (model prog w) A (call (.type "set") [.ref l]) Q E s:=by
 have AQ:l<s.heap.objs.size:=B8 ho;obtain ⟨c,tl,ZDQ⟩:=PySem.F.called_set.mro;have ZDO:=PySem.F.called_set.made;have Fx:=PySem.F.called_set.sub;refine wpAny_call (codeAny_of_tree (by
  show wpAny _ _ (callAny (.type "set") _) _ _ _;refine j9 ⟨Code.quiet_builtin _ (by decide +kernel),mP PySem.F.entry_type_call ?_⟩;rw [Around.under_plain (weight_type_call_type "set" [.ref l] []) rfl];have h1:=PySem.F.called_set.notType;have h2:=PySem.F.called_set.canCreate;have hct:=PySem.F.typeCall_set_1 (.ref l)
  repeat (any_goals (first | assumption | wp_step))
  refine ur (uz (.ref l) (E:=E) (Q₁:=fun obj s₁=>obj=.ref s.heap.objs.size/\s₁={ s with heap:=s.heap.push { cls:=.type "set", dict:=none,data:=.set #[] 0 (.fresh 0 0 (!Fd w)) } }) ⟨rfl,rfl⟩) fun r s₁ hr=>?_
  cases r with
  | error e=>exact hr
  | ok fl=>
   cases fl with
   | ret obj=>
    obtain ⟨rfl,rfl⟩:=hr;generalize UB:({ cls:=.type "set", dict:=none,data:=.set #[] 0 (.fresh 0 0 (!Fd w)) }:Obj)=so;have hsz:(s.heap.push so).objs.size=s.heap.objs.size+1:=Dy ..;have hS:(s.heap.push so).get? s.heap.objs.size=some so:=BU _ (by rw [<- UB];rfl);have hT:Shared.TypeIs { s with heap:=s.heap.push so } (.ref s.heap.objs.size) "set" := ⟨_,hS,by rw [<- UB]⟩
    have LP:=PySem.F.called_set.init.lookup;have hbi:=PySem.F.called_set.init.bind (.ref s.heap.objs.size)
    repeat (any_goals (first | assumption | wp_step))
    refine ur (codeAny_call_builtin (R:=wants (fun r s₂=>r=.none/\∃ h' tk,s₂={ s with heap:=h',toks:=tk }/\Cb prog w h' s.heap.objs.size (fun k'=>(dd ss).any (· == k')) (dd ss).length/\
      (∀ b o,b<s.heap.objs.size->s.heap.get? b=some o->h'.get? b=some o)) E) PySem.F.called_set.init.plain PySem.F.entry_set_init (check_set_init_1 hT ?_)) fun r₂ s₂ hr₂=>?_
    ·have Dp:(s.heap.push so).get? l=some { cls:=.type T,dict:=od,data:=.seq items nl,slots:=Ft }:=BF _ ho;subst UB;unfold Builtin.«set.__init__» noKeywords Builtin.Frozenset.updateFrom;generalize v7:pyIter=PI
     wp_walk
     subst v7;refine hit { s with heap:=s.heap.push _ } _ _ rfl (Dp.trans ho.symm) (Nat.lt_of_lt_of_eq (HE AQ) hsz.symm) fun ob St P W UI Hk=>?_
     refine j7 (wU ?_);have D2:s.heap.objs.size∉[(s.heap.push { cls:=.type "set", dict:=none,data:=.set #[] 0 (.fresh 0 0 (!Fd w)) }).objs.size,l]:=by
      rw [hsz];simp only [DT,Au,rV,not_or];exact ⟨BK (KP _),KQ AQ⟩
     refine o9 W s.heap.objs.size D2 UI hb (ss.length - 0) 0 _ rfl (C2 _) Hk ?_ ?_
     ·have hg:=BF ob hS;exact ⟨_,#[],0,_,hg,⟨rfl,rfl,rfl⟩,rfl,fun e he=>by simp at he,fun k=>by simp [dd],by decide,by rfl,rfl,rfl,fun h=>absurd h (by simp)⟩
     ·intro s' hm C5;obtain ⟨h',g',d',SM,Nl⟩:=s';have eg:g'=s.gens:=hm.gens;have ed:d'=s.drawn:=hm.drawn;have eo:Nl=s.os:=hm.os;subst eg;subst ed;subst eo;show wpAny _ _ _ _ _ _;refine j9 ?_;show wpAny _ _ (ret Value.none) _ _ _;refine j9 ⟨rfl,h',SM,rfl,C5,fun b o Bc e=>?_⟩;refine hm.heap b o ?_ (BF _ (BF _ e));rw [hsz];simp only [DT,Au,rV,not_or];exact ⟨BK Bc,BK (HE Bc)⟩
    ·cases r₂ with
     | error e=>exact hr₂
     | ok fl₂=>
      cases fl₂ with
      | ret r=>
       obtain ⟨rfl,h',tk,rfl,C5,Nk⟩:=hr₂
       repeat (any_goals (first | assumption | wp_step))
       exact h _ _ C5 Nk
      | _=>exact hr₂.elim
   | _=>exact hr.elim))
end
def QC (P:Program)(w:World)(a:Addr)(f:Str->Bool)(n:Nat):HO:=.ext fun h=>Cb P w h a f n
theorem xr (hc:X.calm=true):CY X (.type "set") (fun xs H Q=>∃ (p:Addr) (tp:Bool) (ss:List Str),xs=[.ref p]/\CN X.K tp H p (ss.map V.str)/\ss.length<4000/\
  ∀ l,H l=none->Q (.ref l) (upd H l (QC X.prog X.w l (fun k'=>(dd ss).any (· == k')) (dd ss).length))):=by
 intro pins s σ H xs us Q I r h;obtain ⟨p,tp,ss,rfl,hq,hz,q⟩:=h;obtain ⟨u,rfl,rx⟩:=vals1 r;cases rx;have hb:ss.length+1<scanBound:=by unfold scanBound;omega
 have fin:∀ (h':Heap) (tk:Nat),Cb X.prog X.w h' s.heap.objs.size (fun k'=>(dd ss).any (· == k')) (dd ss).length->(∀ b o,b<s.heap.objs.size->s.heap.get? b=some o->h'.get? b=some o)->
   EP X pins σ Q (.ref s.heap.objs.size) { s with heap:=h',toks:=tk }:=fun h' tk hS kp=>by
  refine ⟨.ref s.heap.objs.size,_,I.laid (t':=tk) (fun b o e=>kp b o (B8 e) e) (Ao _) (show Bm X.prog X.w _ h' _ (QC X.prog X.w s.heap.objs.size _ _) from ⟨hS,?_,fun h1 h2 Dd vo=>?_⟩),rfl,q _ (I.AL.fresh (Ao _))⟩
  ·obtain ⟨o,_,_,_,ho,_⟩:=hS;exact ⟨o,ho⟩
  ·exact Dd.keep vo
 cases tp with
 | false=>
  obtain ⟨A4,rv,pl,Lz⟩:=I.list hq;have hl:=rv.length;rw [Ab] at hl;obtain ⟨⟨c,d,dt,sl⟩,n,ho,Er,hd,Eu⟩:=id pl;simp only at Er hd Eu;subst Er;subst hd;subst Eu;refine hU ho PySem.F.sub_list_set PySem.F.sub_list_frozenset (by decide) hb (fun s1 A1 Q1 hA e1 l1 X3=>?_) fin;have Ew:s1.heap.IsList p A4.toArray:=⟨_,e1.trans ho,rfl,n,rfl⟩;have Vd:A4.toArray.size=ss.length:=List.size_toArray.trans hl.symm;refine xM Ew (X3 _ (fun i s=>s.heap.IsListIter s1.heap.objs.size p i/\s.heap.IsList p A4.toArray) (fun i v=>A4.toArray[i]?=some v) (by
   have W:=(Walks.list (prog:=X.prog) (w:=X.w) (A:=A1.in1) (by rw [iK,hA];exact I.ok.hd hc) s1.heap.objs.size p (BK l1) A4.toArray).toS;rw [Vd] at W;exact W) (fun i v e=>Oj rv (by simpa using e)) ⟨⟨_,BU _ rfl,rfl,rfl⟩,Ew.push _⟩)
 | true=>
  obtain ⟨A4,rv,pl,Lz⟩:=I.tuple hq;have hl:=rv.length;rw [Ab] at hl;obtain ⟨⟨c,d,dt,sl⟩,ho,Er,n,Eu⟩:=id pl;simp only at Er Eu;subst Er;subst Eu;refine hU ho sub_tuple_set sub_tuple_frozenset (by decide) hb (fun s1 A1 Q1 hA e1 l1 X3=>?_) fin;have Ew:s1.heap.IsTuple p A4.toArray:=⟨_,e1.trans ho,rfl,n,rfl⟩;have Vd:A4.toArray.size=ss.length:=List.size_toArray.trans hl.symm;refine wpAny_pyIter_tuple Ew (X3 _ (fun i s=>s.heap.IsTupleIter s1.heap.objs.size p i/\s.heap.IsTuple p A4.toArray) (fun i v=>A4.toArray[i]?=some v) (by
   have W:=(Walks.tuple (prog:=X.prog) (w:=X.w) (A:=A1.in1) (by rw [iK,hA];exact I.ok.hd hc) s1.heap.objs.size p (BK l1) A4.toArray).toS;rw [Vd] at W;exact W) (fun i v e=>Oj rv (by simpa using e)) ⟨⟨_,BU _ rfl,rfl,rfl⟩,?_⟩)
  exact ⟨_,BF _ (e1.trans ho),rfl,n,rfl⟩
theorem Inv.drew (I:Inv X pins σ H s)(d:Drawn):Inv X pins σ H { s with drawn:=d }:=
 I.step (h':=s.heap) (g':=s.gens) (t':=s.toks) (d':=d) (ch:=[]) (fun _ z=>nomatch z) (fun b o _ _ _ e _=>e) (fun b o _ _ _ e _=>⟨o.slots,e⟩) (fun _ _ _ _ n=>n) (fun b o _ e=>⟨o,e⟩) (fun _ _ e=>e) (fun _ _ _ e=>e) (fun b ps e=>⟨#[],by rw [e];simp⟩) (fun m hm=>hm) I.AL I.bare
theorem ZBF {l:Addr}{Q:List Value->Shared->Prop}(hl:IsTup s.heap l vs.toArray)(h:Q vs { s with heap:=(s.heap.push (seqObj "list" #[] 0)).update s.heap.objs.size (Obj.mapSeq (·++vs.toArray)) })(hsz:vs.length<=sizeLine):
  wpAny (model prog w) A (collect (.ref l)) Q E s:=by
 obtain ⟨o,ho,hc,n,hd⟩:=id hl;unfold collect;refine j7 (wU (mP entry_proto_collect' ?_));show wpAny _ _ (newList [] >>= fun x=>again (.builtin "list.__iadd__" ⟨[x,.ref l],[]⟩)) _ _ s;refine j7 (wpAny_newList ?_);refine j9 ⟨Code.quiet_builtin _ (by decide +kernel),mP entry_list_iadd' ?_⟩;show wpAny _ _ (Builtin.List.listExtendWith (.ref s.heap.objs.size) (.ref l) (.ref s.heap.objs.size)) _ _ { s with heap:=s.heap.push (seqObj "list" #[] 0) }
 unfold Builtin.List.listExtendWith;have g:(s.heap.push (seqObj "list" #[] 0)).get? l=some o:=BF _ ho;refine j7 (oa (T:="tuple") ⟨o,g,hc⟩ ?_);rw [jd (by simp)];refine j7 (listItems_at g hd ?_);refine j7 (listItems_at (xs:=#[]) (n:=0) (BU _ rfl) rfl ?_);rw [jG (by simp)];refine j7 (listUpdate_at (xs:=#[]) (n:=0) (BU _ rfl) rfl ?_ (C2 _) (by show (#[]++vs.toArray).size<=sizeLine+1;simp only [Array.size_append,Bt,Xr];omega));refine j9 ?_;show wpAny (model prog w) A (load s.heap.objs.size >>= fun o=>(match o.data with | .seq xs _=>pure xs.toList | _=>unsupported "internal:collect")) Q E _
 refine j7 (wC (get?_update_seq (BU _ rfl) _) ?_);show wpAny _ _ (pure ((#[]:Array Value)++vs.toArray).toList) Q E _;have e:((#[]:Array Value)++vs.toArray).toList=vs:=by simp
 rw [e];exact j9 h
theorem VL {Pc:List Value->Shared->Prop}{Q:Value->Shared->Prop}
  (hc:∀ (A1:Around) (E1:Value->Shared->Prop) (Q1:List Value->Shared->Prop),A1.handled=A.handled->(∀ vs s1,Pc vs s1->Q1 vs s1)->wpAny (model prog w) A1 (collect v) Q1 E1 s)
  (h:∀ vs s1,Pc vs s1->vs.length<64/\∃ ss,StrsAre vs ss/\∀ out AK e h',(∀ b o,s1.heap.get? b=some o->h'.get? b=some o)->h'.get? s1.heap.objs.size=some (seqObj "list" out e)->StrsAre out.toList AK->AK.Perm ss->sortedS AK=true->Q (.ref s1.heap.objs.size) { s1 with heap:=h' }) :
  wpAny (model prog w) A (call (.builtin "sorted") [v]) Q E s:=by
 refine Calls.call_function_entry kind_sorted plain_sorted entry_sorted (args_sorted1 _) ?_;unfold Builtin.«sorted»;refine j7 (m:=checkCount "sorted" 1 1 _) (j9 ?_);refine j7 (hc _ _ _ rfl fun vs s1 hp=>?_);obtain ⟨Bn,ss,He,k⟩:=h vs s1 hp;refine j7 (wpAny_newList ?_);have Mm:(s1.heap.push (seqObj "list" vs.toArray 0)).get? s1.heap.objs.size=some (seqObj "list" vs.toArray 0):=BU _ rfl;refine j7 (lq (nH slot_list_sort ⟨_,Mm,rfl⟩ entry_list_sort (list_sort_treeK (s:={ s1 with heap:=s1.heap.push (seqObj "list" vs.toArray 0) }) strKind_oneLt Mm He.keysOf (fun v₁ v₂ rest e=>keyKind_strs (by rw [<- e];exact He)) Bn fun Cg a1 a2=>⟨_,rfl,?_⟩) (args_list_sort _)))
 obtain ⟨AK,b1,b2,b3⟩:=sorted_out_str He a1 a2;obtain ⟨e,he⟩:=sortedHeap_at (out:=(arrOf Cg).map (·.2)) Mm
 refine j9 ⟨_,rfl,k _ AK e _ (fun b o hb=>?_) he b1 b2 b3⟩;have AQ:=B8 hb;rw [sortedHeap_old (BK AQ) (by rw [Dy];exact HE AQ)];exact BF _ hb
theorem Zt:∀ {ss:List Str}{us:List Value},Vals (ss.map V.str) us->StrsAre us ss
 | [],_,.nil=>.nil
 | x::r,_,.cons ⟨t,e⟩ h=>by rw [e];exact .cons x t (Zt h)
theorem eG:∀ {ss:List Str}{us:List Value},StrsAre us ss->Vals (ss.map V.str) us
 | _,_,.nil=>.nil
 | _,_,.cons x t h=>.cons ⟨t,rfl⟩ (eG h)
theorem WH {s1:Shared}{Q:VK}(I:Inv X pins σ H s)(hg:s1.gens=s.gens)(ho:s1.os=s.os)(hk:∀ b o,s.heap.get? b=some o->s1.heap.get? b=some o)(hs:s.heap.objs.size<=s1.heap.objs.size)
  {out:Array Value}{e:Nat}(kp:∀ b o,s1.heap.get? b=some o->h'.get? b=some o) (he:h'.get? s1.heap.objs.size=some (seqObj "list" out e)) (hS:StrsAre out.toList AK) (Bn:AK.length<64)
  (q:∀ l,H l=none->Q (.ref l) (upd H l (.lst (AK.map V.str)))):EP X pins σ Q (.ref s1.heap.objs.size) { s1 with heap:=h' }:=by
 obtain ⟨h1,g1,d1,t1,o1⟩:=s1;simp only at hg ho hk hs kp he;subst hg;subst ho;refine ⟨.ref _,_,(I.drew d1).laid (a:=h1.objs.size) (h':=h') (t':=t1) (o:=.lst (AK.map V.str)) (fun b o q=>kp b o (hk b o q)) hs ?_,rfl,q _ (I.AL.fresh hs)⟩;refine ⟨?_,out.toList,e,eG hS,by simpa [seqObj] using he⟩
 rw [Ab];exact Ci (KN Bn) (by decide +kernel)
def Yv (K:ZE5):List V->Hp->VK->Prop:=fun xs H Q=>∃ (p:Addr) (tp:Bool) (ss:List Str),xs=[.ref p]/\CN K tp H p (ss.map V.str)/\ss.length<64/\∀ l AK,H l=none->AK.Perm ss->sortedS AK=true->Q (.ref l) (upd H l (.lst (AK.map V.str)))
theorem Pk:CY X (.builtin "sorted") (Yv X.K):=by
 intro pins s σ H xs us Q I r h;obtain ⟨p,tp,ss,rfl,hq,Bn,q⟩:=h;obtain ⟨u,rfl,rx⟩:=vals1 r;cases rx;have key:∀ A4:List Value,Vals (ss.map V.str) A4->(∀ (A1:Around) (E1:Value->Shared->Prop) (Q1:List Value->Shared->Prop),Q1 A4 { s with heap:=(s.heap.push (seqObj "list" #[] 0)).update s.heap.objs.size (Obj.mapSeq (·++A4.toArray)) }->wpAny (model X.prog X.w) A1 (collect (.ref p)) Q1 E1 s)->
   wpAny (model X.prog X.w) X.A (call (.builtin "sorted") [.ref p]) (EP X pins σ Q) X.xe s:=by
  intro A4 rv rW;have hlen:=rv.length;rw [Ab] at hlen;refine VL (Pc:=fun vs s1=>vs=A4/\s1={ s with heap:=(s.heap.push (seqObj "list" #[] 0)).update s.heap.objs.size (Obj.mapSeq (·++A4.toArray)) }) (fun A1 E1 Q1 _ k=>rW A1 E1 Q1 (k _ _ ⟨rfl,rfl⟩)) ?_
  rintro vs s1 ⟨rfl,rfl⟩;refine ⟨by omega,ss,Zt rv,fun out AK e h' kp he hS hp hs=>?_⟩;refine WH (s1:={ s with heap:=(s.heap.push (seqObj "list" #[] 0)).update s.heap.objs.size (Obj.mapSeq (·++vs.toArray)) }) I rfl rfl (fun b o hb=>?_) (by show s.heap.objs.size<=((s.heap.push (seqObj "list" #[] 0)).update s.heap.objs.size (Obj.mapSeq (·++vs.toArray))).objs.size;rw [Heap.size_update,Dy];exact EC _) kp he hS (by rw [hp.length_eq];exact Bn) fun l hl=>q l AK hl hp hs
  show ((s.heap.push _).update _ _).get? b=some o;rw [Heap.get?_update_ne _ _ _ _ (BK (B8 hb))];exact BF _ hb
 cases tp with
 | false=>
  obtain ⟨A4,rv,pl,hz⟩:=I.list hq;have hlen:=rv.length;exact key A4 rv fun A1 E1 Q1 k=>collect_list pl.isList k (by omega)
 | true=>
  obtain ⟨A4,rv,pl,hz⟩:=I.tuple hq;have hlen:=rv.length;exact key A4 rv fun A1 E1 Q1 k=>ZBF pl k (by omega)
def yS (P:Program)(w:World):List V->Hp->VK->Prop:=fun xs H Q=>∃ (p:Addr) (f:Str->Bool) (n:Nat),xs=[.ref p]/\H p=some (QC P w p f n)/\n<64/\∀ l ts,H l=none->ts.length=n->(∀ k,f k=true↔k∈ts)->sortedS ts=true->Q (.ref l) (upd H l (.lst (ts.map V.str)))
theorem mV (hc:X.calm=true):CY X (.builtin "sorted") (yS X.prog X.w):=by
 intro pins s σ H xs us Q I r h;obtain ⟨p,f,n,rfl,hH,Bn,q⟩:=h;obtain ⟨u,rfl,rx⟩:=vals1 r;cases rx;have hS:Cb X.prog X.w s.heap p f n:=(I.AL p _ hH).1;have hh:X.A.handled=none:=I.ok.hd hc;refine VL (Pc:=fun vs s1=>∃ ts,(∀ b o,s.heap.get? b=some o->s1.heap.get? b=some o)/\s.heap.objs.size<=s1.heap.objs.size/\s1.gens=s.gens/\s1.os=s.os/\StrsAre vs ts/\ts.length=n/\(∀ k,f k=true↔k∈ts)) (fun A1 E1 Q1 hA k=>?_) ?_
 ·exact ZAS (hA.trans hh) hS (Ci (KN Bn) (by decide +kernel)) fun s' vs ts a1 a2 a3 a4 a5 a6 a7=>k vs s' ⟨ts,a1,a2,a3,a4,a5,a6,a7⟩
 ·rintro vs s1 ⟨ts,a1,a2,a3,a4,a5,a6,a7⟩;refine ⟨by rw [StrsAre.len a5,a6];exact Bn,ts,a5,fun out AK e h' kp he C5 hp hs=>?_⟩;exact WH I a3 a4 a1 a2 kp he C5 (by rw [hp.length_eq,a6];exact Bn) fun l hl=>q l AK hl (hp.length_eq.trans a6) (fun k=>(a7 k).trans hp.mem_iff.symm) hs
end L2
namespace MA
def N5:Nat->Nat->List Nat
 | 0,n=>[97+n]
 | k+1,n=>if n<26 then [97+n] else (97+n % 26)::N5 k (n / 26)
theorem K5:∀ (k:Nat){n:Nat},n<26->N5 k n=[97+n]
 | 0,_,_=>rfl
 | _+1,_,h=>jd h
theorem fv:∀ (k j n:Nat),n<=k->n<=j->N5 k n=N5 j n
 | 0,j,n,h,_=>by rw [K5 0 (Hu h (by decide)),K5 j (Hu h (by decide))]
 | k+1,0,n,_,h=>by rw [K5 (k+1) (Hu h (by decide)),K5 0 (Hu h (by decide))]
 | k+1,j+1,n,h1,h2=>by
  by_cases c:n<26
  ·rw [K5 _ c,K5 _ c]
  ·have d:n / 26<n:=Nat.div_lt_self (D5 (by decide) (ZD2 c)) (by decide);show (if n<26 then _ else _)=(if n<26 then _ else _)
   rw [jG c,jG c,fv k j (n / 26) (ip (D5 d h1)) (ip (D5 d h2))]
def lets (n:Nat):List Nat:=N5 n n
def vals:List Nat->Nat
 | []=>0
 | c::r=>(c - 97)+26 * vals r
theorem Kh {n:Nat}(h:n<26):lets n=[97+n]:=K5 n h
theorem Mu {n:Nat}(h:¬ n<26):lets n=(97+n % 26)::lets (n / 26):=by
 cases n with
 | zero=>exact absurd (by decide) h
 | succ k=>
  have d:(k+1) / 26<k+1:=Nat.div_lt_self (Nat.succ_pos k) (by decide);show (if k+1<26 then _ else _)=_
  rw [jG h,fv k ((k+1) / 26) ((k+1) / 26) (ip d) (Ao _)];rfl
theorem gu:∀ n,vals (lets n)=n:=by
 intro n
 induction n using Nat.strongRecOn with
 | _ n ih=>
  by_cases h:n<26
  ·rw [Kh h];simp [vals]
  ·rw [Mu h];have:=ih (n / 26) (by omega);simp only [vals,this];omega
theorem ZA7 {a b:Nat}(h:lets a=lets b):a=b:=by rw [<- gu a,h,gu]
theorem Wh (n:Nat):1<=(lets n).length:=by
 by_cases h:n<26
 ·rw [Kh h];simp
 ·rw [Mu h];simp
theorem Qw:∀ (k n:Nat),n<26 ^ (k+1)->(lets n).length<=k+1
 | 0,n,h=>by rw [Kh (by simpa using h)];simp
 | k+1,n,h=>by
  by_cases h1:n<26
  ·rw [Kh h1];simp
  ·rw [Mu h1];have:=Qw k (n / 26) (by rw [Nat.pow_succ] at h;exact Nat.div_lt_of_lt_mul (by rw [Nat.mul_comm];exact h));simp only [BN];omega
theorem wK:∀ n,∀ c∈lets n,97<=c/\c<=122:=by
 intro n
 induction n using Nat.strongRecOn with
 | _ n ih=>
  by_cases h:n<26
  ·rw [Kh h];intro c hc;simp at hc;omega
  ·rw [Mu h];intro c hc;rcases List.mem_cons.mp hc with e | e
   ·omega
   ·exact ih (n / 26) (by omega) c e
theorem aq {α:Type}[DecidableEq α]:∀ (k:Nat) (f:Nat->α) (l:List α),(∀ i j,i<k->j<k->f i=f j->i=j)->(∀ i,i<k->f i∈l)->k<=l.length
 | 0,_,_,_,_=>C2 _
 | k+1,f,l,hi,hm=>by
  have h1:=hm k (KP k);have:=aq k f (l.erase (f k)) (fun i j a b e=>hi i j (by omega) (by omega) e) (fun i a=>by
   have Ak:f i≠f k:=fun e=>by have:=hi i k (by omega) (by omega) e;omega
   exact (ie Ak).mpr (hm i (by omega)))
  rw [iY h1] at this;have hp:=ZCs h1;omega
end MA
namespace Lw
open L2
variable {a l p:Addr}{H H' H2:Hp}{xs:List V}{o:HO}{α:Type}{hi i m n:Nat}{ns ss:List Str}{x y z:Str}{j r:Int}{A B c:Prop}
def BR (H:Hp)(p:Addr):Prop:=∃ a b:Int,H p=some (.lst [.int a,.int b])/\0<=a/\a<10 ^ 256/\0<=b/\b<2147483647
structure BJ (p:Addr) (H H':Hp):Prop where
 AD:BR H' p
 same:Fc p H H'
theorem BJ.trans {H1:Hp}(a:BJ p H H1)(b:BJ p H1 H2):BJ p H H2:=⟨b.AD,a.same.trans b.same⟩
theorem BJ.of (h:BR H p)(s:A7 H H'):BJ p H H':=by
 obtain ⟨a,b,e,r⟩:=h;exact ⟨⟨a,b,s _ _ e,r⟩,Fc.of s⟩
theorem BJ.MT {K:ZE5}(s:BJ p H H')(h:AF K H a xs)(Ak:a≠p):AF K H' a xs:=by
 rcases h with (h | ⟨o,h⟩) | h
 ·exact .inl (.inl (s.same _ _ Ak h))
 ·exact .inl (.inr ⟨o,s.same _ _ Ak h⟩)
 ·exact .inr h
theorem BJ.at' (s:BJ p H H')(h:H a=some o)(Ak:a≠p):H' a=some o:=s.same _ _ Ak h
theorem LM {a:Int}(h0:-(10 ^ 20)<a)(h1:a<10 ^ 20):a.natAbs<2 ^ 1000:=by
 have h4:a.natAbs<10 ^ 20:=by omega
 exact Nat.lt_trans h4 (by decide +kernel)
def W7 (K:ZE5):Sp:=fun vs H Q _=>∃ (a:Addr) (ns:List Int) (k:Int),vs=[.ref a,.int k]/\AF K H a (ns.map V.int)/\0<=k/\k<=1000/\∀ p H',H p=none->A7 H H'->BR H' p->Q (.ref p) H'
def IW:Sp:=fun vs H Q _=>∃ (p:Addr) (m:Int),vs=[.ref p,.int m]/\BR H p/\0<m/\m<10 ^ 18/\∀ r H',0<=r->r<m->BJ p H H'->Q (.int r) H'
def Cr (l:List Nat):Str:=⟨l.toArray⟩
def dw:Sp:=fun vs H Q _=>∃ r:Int,vs=[.int r]/\0<=r/\r<26 ^ 8/\Q (.str (Cr (MA.lets r.toNat))) H
theorem MY {xs:List α}{k:Int}{v:α}(h0:0<=k)(h:xs[k.toNat]?=some v):Be xs k=some v:=by
 have ek:k=((k.toNat:Nat):Int):=by omega
 have q:=eF h;rw [<- ek] at q;exact q
abbrev KZ:Str:="abcdefghijklmnopqrstuvwxyz"
theorem zS:∀ j,j<26->KZ.cps.toList[j]?=some (97+j):=by decide +kernel
theorem df {k:Int}(h0:0<=k)(h1:k<26):Be KZ.cps.toList k=some (97+k.toNat):=MY h0 (zS _ (by omega))
theorem gW (l:List Nat)(c:Nat):Cr l++(⟨#[c]⟩:Str)=Cr (l++[c]):=by
 show (⟨l.toArray++#[c]⟩:Str)=⟨(l++[c]).toArray⟩;simp
theorem QD (l:List Nat):(Cr l).length=l.length:=by simp [Cr,Str.length]
theorem aS {l:List Nat}:(V.str (Cr l)=V.str (Str.ofString ""))↔l=[]:=by
 constructor
 ·intro h;injection h with h
  have h2:=o7 (fun x=>x.cps.toList) h;have e:(Str.ofString "").cps.toList=[]:=by decide +kernel
  rw [e] at h2
  simpa [Cr] using h2
 ·rintro rfl;rfl
theorem small (h:n<=100000):n<=sizeLine:=Ci h (by decide +kernel)
theorem gs {k:Nat}{pre:List Nat}(h:pre++MA.lets k=MA.lets n):(0<k / 26->(pre++[97+k % 26])++MA.lets (k / 26)=MA.lets n)/\(k / 26=0->pre++[97+k % 26]=MA.lets n):=by
 constructor
 ·intro h1;rw [MA.Mu (by omega)] at h;rw [<- h,C8];rfl
 ·intro h1;have h2:k<26:=by omega
  rw [MA.Kh h2] at h;rw [<- h,Nat.mod_eq_of_lt h2]
def Nm (x:Str):Prop:=1<=x.length/\x.length<=8/\∀ c∈x.cps.toList,97<=c/\c<=122
instance (x:Str):Decidable (Nm x):=by unfold Nm;exact inferInstance
theorem Ga (x:Str):x.length=x.cps.toList.length:=by simp [Str.length]
theorem VT (h:n<26 ^ 8):Nm (Cr (MA.lets n)):=by
 refine ⟨by rw [QD];exact MA.Wh n,by rw [QD];exact MA.Qw 7 n h,fun c hc=>MA.wK n c (by simpa [Cr] using hc)⟩
def menu:List Str:=["put","take","none","ahead","all","over","next","a","ab","abc","abcdefgh","b","step"]
theorem qk:∀ x∈menu,Nm x:=by decide +kernel
def Q5:List V:=[.str "put", .str "take", .str "none", .str "ahead", .str "all", .str "over", .str "next", .str "a", .str "ab", .str "abc", .str "abcdefgh", .str "b", .str "step"]
theorem ly {i:Int}(h0:0<=i)(h1:i<13):∃ x,Be Q5 i=some (.str x)/\Nm x:=by
 have hl:menu.length=13:=rfl;have hi:i.toNat<menu.length:=by omega
 have e:Q5=menu.map V.str:=rfl;refine ⟨menu[i.toNat],MY h0 ?_,qk _ (KJ hi)⟩;rw [e,Ax,BE hi];rfl
theorem N2 {i:Int}(h0:0<=i)(h1:i<ns.length):∃ x,Be (ns.map V.str) i=some (.str x)/\x∈ns/\ns[i.toNat]?=some x:=by
 have hi:i.toNat<ns.length:=by omega
 exact ⟨ns[i.toNat],MY h0 (by rw [Ax,BE hi];rfl),KJ hi,BE hi⟩
theorem Dr (ns:List Str):(ns.map V.str).all E8=true:=by
 rw [HB];intro x hx;obtain ⟨y,_,rfl⟩:=List.mem_map.mp hx;rfl
theorem IB (x:Str)(ns:List Str):Cj (.str x) (ns.map V.str)=decide (x∈ns):=by
 unfold Cj;rw [Lg,ZCh,decide_eq_true_iff];constructor
 ·rintro ⟨v,hv,h⟩;obtain ⟨y,hy,rfl⟩:=List.mem_map.mp hv;have h':(y == x)=true:=h;have:y=x:=by simpa using h'
  rw [<- this];exact hy
 ·intro h;exact ⟨.str x,List.mem_map.mpr ⟨x,h,rfl⟩,by show (x == x)=true;simp⟩
theorem Kp (xs:List V):DW xs []=decide (xs=[]):=by
 cases xs with
 | nil=>rfl
 | cons x r=>rw [Ju (by simp)];simp
theorem tF (h:x.cps.toList=y.cps.toList):x=y:=by
 cases x;cases y;simp only [Str.mk.injEq];exact Array.toList_inj.mp h
theorem vm (z:Str){a b:Nat}{lo hi:Option Int}(Cq:a<=b)(hb:b<=z.length)(e:Builtin.Str.strSliceIndices lo hi 1 z.length=Builtin.Str.strSliceIndices (some (a:Int)) (some (b:Int)) 1 z.length):
  (Txt.slice z lo hi).cps.toList=(z.cps.toList.drop a).take (b - a):=by
 have q:=StrLaws.sliced_plain z Cq hb;rw [<- e] at q;unfold Txt.slice;split
 ·rename_i h;have hl:(Builtin.Str.strSliceIndices lo hi 1 z.length).length=z.length:=by simpa using h
  rw [e,StrLaws.strSliceIndices_plain Cq hb,Ab,iZ] at hl;have h1:a=0:=by omega
  have h2:b=z.length:=by omega
  subst h1;subst h2;rw [Xl,Y2,Ga,Lo]
 ·rw [<- q]
theorem kW (h:0<=j):max (0:Int) (min j (n:Int))=max 0 (min ((min j.toNat n:Nat):Int) (n:Int)):=by
 have e:((min j.toNat n:Nat):Int)=min j n:=by
  rcases Xz j.toNat n with c | c
  ·rw [Nx c,iP h,Int.min_eq_left (by have:=Int.ofNat_le.mpr c;rw [iP h] at this;exact this)]
  ·rw [Y0 c,Int.min_eq_right (by have:=Int.ofNat_le.mpr c;rw [iP h] at this;exact this)]
 rw [e,Int.min_assoc,Int.min_self]
theorem yF (z:Str)(h:0<=j):(Txt.slice z none (some j)).cps.toList=z.cps.toList.take j.toNat:=by
 have e:=vm z (a:=0) (b:=min j.toNat z.length) (lo:=none) (hi:=some j) (C2 _) (ZD4 _ _) (by
  have h1:¬ j<0:=by omega
  have h2:¬ (((min j.toNat z.length:Nat):Int)<0):=Int.not_lt.mpr (Int.natCast_nonneg _);have h3:max (0:Int) (min j (z.length:Int))=max 0 (min ((min j.toNat z.length:Nat):Int) (z.length:Int)):=kW h;simp only [Builtin.Str.strSliceIndices,h1,h2,ZAJ,h3];rfl)
 rw [e,Xl,Y2];rcases Xz j.toNat z.length with h1 | h1
 ·rw [Nx h1]
 ·rw [Y0 h1,Ga,Lo,Xv (by rw [<- Ga];exact h1)]
theorem hZ (h:1<=j)(hj:j<=8)(hz:1<=z.length)(hc:∀ c∈z.cps.toList,97<=c/\c<=122):Nm (Txt.slice z none (some j)):=by
 have e:=yF z (j:=j) (by omega);refine ⟨?_,?_,fun c Fw=>hc c ?_⟩
 ·rw [Ga,e,C1,<- Ga];omega
 ·rw [Ga,e,C1];omega
 ·rw [e] at Fw;exact ZCx Fw
theorem dh (x y:Str):(x++y).cps.toList=x.cps.toList++y.cps.toList:=by
 show (x.cps++y.cps).toList=_;simp
theorem fw (x y:Str):(x++y).length=x.length+y.length:=by rw [Ga,dh,Bl,<- Ga,<- Ga]
def Nb (K:ZE5):Sp:=fun vs H Q _=>∃ (p q:Addr) (ns:List Str),vs=[.ref p,.ref q]/\BR H p/\AF K H q (ns.map V.str)/\q≠p/\(∀ x∈ns,Nm x)/\ns.length<=1000/\∀ x H',Nm x->x∉ns->BJ p H H'->Q (.str x) H'
theorem yM {k:Nat}(h:∀ j,j<k->Cr (MA.lets j)∈ns):k<=ns.length:=
 MA.aq k (fun j=>Cr (MA.lets j)) ns (fun i j _ _ e=>MA.ZA7 (by
  have:=o7 (fun x=>x.cps.toList) e
  simpa [Cr] using this)) h
theorem ZBb:1000<26 ^ 8:=by decide +kernel
theorem ud:(1000:Int)<26 ^ 8:=by decide +kernel
theorem qt:(26:Int) ^ (8:Int).toNat - 26<26 ^ 8:=by decide +kernel
theorem lB:(26:Int)<26 ^ 8:=by decide +kernel
theorem ZCZ:(0:Int)<26 ^ (8:Int).toNat - 26:=by decide +kernel
theorem lA:(26:Int) ^ (8:Int).toNat - 26<10 ^ 18:=by decide +kernel
theorem Z2 (h0:0<=r)(h:r<26 ^ 8):r.toNat<26 ^ 8:=by omega
theorem BJ.upd (s:BJ p H H2)(h:H l=none)(Ak:l≠p):BJ p H (upd H2 l o):=by
 obtain ⟨a,b,e,r⟩:=s.AD;refine ⟨⟨a,b,by rw [AX (BS Ak)];exact e,r⟩,fun c u hc q=>?_⟩;rw [AX (DX q h)];exact s.same c u hc q
theorem BJ.none (s:BJ p H H2)(h:H2 l=none):H l=none:=by
 cases q:H l with
 | none=>rfl
 | some o=>
  by_cases e:l=p
  ·obtain ⟨a,b,e2,_⟩:=s.AD;rw [<- e,h] at e2;cases e2
  ·rw [s.same l o e q] at h;cases h
theorem BR.ne (h:BR H p)(hl:H l=none):l≠p:=by
 obtain ⟨_,_,e,_⟩:=h;exact (DX e hl).symm
theorem A7.none (s:A7 H H2)(h:H2 l=none):H l=none:=by
 cases q:H l with
 | none=>rfl
 | some o=>rw [s l o q] at h;cases h
def fB:Sp:=fun vs H Q _=>∃ (p:Addr) (m:Int),vs=[.ref p,.int m]/\BR H p/\0<=m/\m<=100/\
 ∀ l H' (ns:List Str),H l=none->BJ p H H'->H' l=some (.lst (ns.map V.str))->(ns.length:Int)=m->(∀ x∈ns,Nm x)->ns.Nodup->Q (.ref l) H'
def WQ:Sp:=fun vs H Q _=>∃ (p:Addr) (m:Int),vs=[.ref p,.int m]/\BR H p/\1<=m/\m<=100/\
 ∀ l H' (ns:List Str),H l=none->BJ p H H'->H' l=some (.lst (ns.map V.str))->(ns.length:Int)<=m->(∀ x∈ns,Nm x)->ns.Nodup->Q (.ref l) H'
theorem Se {l:List α}{x:α}(h:l.Nodup)(hx:x∉l):(l++[x]).Nodup:=by
 rw [CK];exact ⟨h,by simp,fun a ha b hb=>by
  have:b=x:=by simpa using hb
  subst this;rintro rfl;exact hx ha⟩
theorem vn {m:Int}(h0:0<=j)(h1:j<3)(hm:1<=m):∃ k:Int,Be [V.int 0,V.int 1,V.int m] j=some (.int k)/\0<=k/\k<=m:=by
 have:j=0∨j=1∨j=2:=by omega
 rcases this with rfl | rfl | rfl
 ·exact ⟨0,rfl,by omega,by omega⟩
 ·exact ⟨1,rfl,by omega,by omega⟩
 ·exact ⟨m,rfl,by omega,by omega⟩
def QB (c:Nat):Bool:=!(Builtin.Str.occurrences KZ ⟨#[c]⟩ 0 KZ.length 1).isEmpty
def isNm (x:Str):Bool:=decide ((1:Int)<=x.length) && (decide ((x.length:Int)<=8) && x.cps.toList.all QB)
def Na:Sp:=fun vs H Q _=>∃ x:Str,vs=[.str x]/\x.length<=1000/\∀ H',A7 H H'->Q (.bl (isNm x)) H'
theorem fN (l:List α):l.filter (fun _=>true)=l:=List.filter_eq_self.mpr fun _ _=>rfl
def eh:V->V
 | .str y=>.bl (!(Builtin.Str.occurrences KZ y 0 KZ.length 1).isEmpty)
 | _=>.bl false
theorem mi (x:Str):((Fb x).filter (fun _=>true)).map eh=(x.cps.toList.map QB).map V.bl:=by
 unfold Fb;rw [fN,HC,HC];rfl
theorem signs_get {v:V}(h:(Fb x)[i]?=some v):∃ c,v=.str ⟨#[c]⟩:=by
 unfold Fb at h;rw [Ax] at h;cases q:x.cps.toList[i]? with
 | none=>rw [q] at h;cases h
 | some c=>rw [q] at h;simp at h;exact ⟨c,h.symm⟩
theorem all_map (f:α->Bool)(l:List α):(l.map f).all id=l.all f:=by rw [List.all_map];rfl
theorem Iz {v:V}(h:(ss.map V.str)[i]?=some v):∃ x,v=.str x/\x∈ss:=by
 rw [Ax] at h;cases q:ss[i]? with
 | none=>rw [q] at h;cases h
 | some x=>rw [q] at h;simp at h;exact ⟨x,h.symm,DK q⟩
theorem oI (xs:List Str):DW (xs.map V.str) (xs.map V.str)=true:=by
 rw [J8 rfl,HB];intro j hj;have L4:j<xs.length:=by simpa using hj
 have e:(xs.map V.str)[j]?=some (.str xs[j]):=by rw [Ax,BE L4];rfl
 rw [IP e];show (xs[j] == xs[j])=true;simp
theorem Ks (K:ZE5)(t:String):PySem.W.kitOne K (.type t) (.type t)=some true:=by
 unfold PySem.W.kitOne;rw [jd (by simp)]
def Mw (K:ZE5):Sp:=fun vs H Q _=>∃ (a:Addr) (ns:List Int),vs=[.ref a]/\AF K H a (ns.map V.int)/\ns.length<=63/\∀ H',Q (.bl true) H'
inductive AN where
 | put (x:Str) (i:Nat) | take (x:Str) | move (x:Str) (i:Nat) | turn (lo hi:Nat)
def AN.vals:AN->List V
 | .put x i=>[.str "put", .str x,.int i]
 | .take x=>[.str "take", .str x]
 | .move x i=>[.str "move", .str x,.int i]
 | .turn lo hi=>[.str "turn", .int lo,.int hi]
def AN.Ok (m:Nat)(ns:List Str):AN->Prop
 | .put x i=>Nm x/\x∉ns/\i<=ns.length/\ns.length<m
 | .take x=>x∈ns
 | .move x i=>x∈ns/\i<ns.length
 | .turn lo hi=>lo<=hi/\hi<=ns.length
def ins (ns:List Str)(x:Str)(i:Nat):List Str:=ns.take i++x::ns.drop i
def wo (ns:List Str)(x:Str):List Str:=ns.filter fun y=>!decide (y=x)
def Ek (ns:List Str)(lo hi:Nat):List Str:=ns.take lo++((ns.drop lo).take (hi - lo)).reverse++ns.drop hi
def AN.done (ns:List Str):AN->List Str
 | .put x i=>ins ns x i
 | .take x=>wo ns x
 | .move x i=>ins (wo ns x) x i
 | .turn lo hi=>Ek ns lo hi
theorem La (h:x∉ns):wo ns x=ns:=by
 unfold wo;rw [ZCm];intro y hy;have:y≠x:=fun e=>h (e▸hy);simp [this]
theorem Hy:y∈wo ns x↔y∈ns/\y≠x:=by
 unfold wo;rw [ig];simp
theorem gO (h:ns.Nodup):(wo ns x).Nodup:=h.filter _
theorem YH (as bs:List Str)(x:Str):wo (as++bs) x=wo as x++wo bs x:=by unfold wo;rw [Xn]
theorem dA (bs:List Str)(x:Str):wo (x::bs) x=wo bs x:=by unfold wo;rw [Xo];simp
theorem PZ (h:x∈ns):ns=ns.take (ns.idxOf x)++x::ns.drop (ns.idxOf x+1):=by
 have hj:ns.idxOf x<ns.length:=List.idxOf_lt_length_iff.mpr h;have e:ns[ns.idxOf x]=x:=Xq hj
 conv=>lhs;rw [<- KL (ns.idxOf x) ns,ZCi hj,e]
theorem YS (h:x∈ns):x∉ns.take (ns.idxOf x):=by
 intro hm;obtain ⟨m,NF,e⟩:=List.mem_iff_getElem.mp hm;rw [C1] at NF;rw [List.getElem_take] at e;exact W9 x ns m (by omega) (by omega) e
theorem Yb (h:x∈ns)(nd:ns.Nodup):x∉ns.drop (ns.idxOf x+1):=by
 rw [PZ h] at nd;have h2:=(List.nodup_append.mp nd).2.1;exact (List.nodup_cons.mp h2).1
theorem o3 (h:x∈ns)(nd:ns.Nodup):wo ns x=ns.take (ns.idxOf x)++ns.drop (ns.idxOf x+1):=by
 conv=>lhs;rw [PZ h]
 rw [YH,dA,La (YS h),La (Yb h nd)]
theorem MW (h:x∈ns)(nd:ns.Nodup):(wo ns x).length+1=ns.length:=by
 have hj:ns.idxOf x<ns.length:=List.idxOf_lt_length_iff.mpr h;rw [o3 h nd,Bl,C1,Dz];omega
theorem PJ:(ins ns x i).length=ns.length+1:=by
 unfold ins;rw [Bl,BN,C1,Dz];omega
theorem PH:y∈ins ns x i↔y=x∨y∈ns:=by
 unfold ins;rw [Ht,DT];have:y∈ns↔y∈ns.take i∨y∈ns.drop i:=by rw [<- Ht,KL]
 rw [this];constructor
 ·rintro (h | h | h)
  ·exact .inr (.inl h)
  ·exact .inl h
  ·exact .inr (.inr h)
 ·rintro (h | h | h)
  ·exact .inr (.inl h)
  ·exact .inl h
  ·exact .inr (.inr h)
theorem Rp (h:ns.Nodup)(hx:x∉ns):(ins ns x i).Nodup:=by
 unfold ins;have e:(ns.take i++ns.drop i).Nodup:=by rw [KL];exact h
 obtain ⟨h1,h2,h3⟩:=List.nodup_append.mp e;rw [CK];refine ⟨h1,List.nodup_cons.mpr ⟨fun z=>hx (List.mem_of_mem_drop z),h2⟩,fun a ha b hb=>?_⟩;rcases List.mem_cons.mp hb with z | z
 ·rw [z];rintro rfl;exact hx (ZCx ha)
 ·exact h3 a ha b z
theorem d9 {lo:Nat}(h1:lo<=hi)(h2:hi<=ns.length):(Ek ns lo hi).length=ns.length:=by
 unfold Ek;rw [Bl,Bl,Nu,C1,C1,Dz,Dz];omega
theorem Ys {lo:Nat}(h1:lo<=hi):ns=ns.take lo++(ns.drop lo).take (hi - lo)++ns.drop hi:=by
 have:ns.drop hi=(ns.drop lo).drop (hi - lo):=by rw [List.drop_drop];congr 1;omega
 rw [this,C8,KL,KL]
theorem br {lo:Nat}(h1:lo<=hi):y∈Ek ns lo hi↔y∈ns:=by
 conv=>rhs;rw [Ys (ns:=ns) h1]
 unfold Ek;simp only [Ht,List.mem_reverse]
theorem yh {lo:Nat}(h1:lo<=hi)(nd:ns.Nodup):(Ek ns lo hi).Nodup:=by
 have p:List.Perm (Ek ns lo hi) ns:=by
  conv=>rhs;rw [Ys (ns:=ns) h1]
  unfold Ek;exact ((List.reverse_perm _).append_left _).append_right _
 exact p.nodup_iff.mpr nd
theorem AN.step {d:AN}(h:d.Ok m ns)(nd:ns.Nodup)(hN:∀ x∈ns,Nm x)(hm:ns.length<=m):
  (d.done ns).Nodup/\(∀ x∈d.done ns,Nm x)/\(d.done ns).length<=m:=by
 cases d with
 | put x i=>
  obtain ⟨h1,h2,h3,h4⟩:=h;refine ⟨Rp nd h2,fun y hy=>?_,?_⟩
  ·rcases PH.mp hy with e | e
   ·rw [e];exact h1
   ·exact hN y e
  ·show (ins ns x i).length<=m;rw [PJ];omega
 | take x=>
  refine ⟨gO nd,fun y hy=>hN y (Hy.mp hy).1,?_⟩;have:=MW h nd;show (wo ns x).length<=m;omega
 | move x i=>
  obtain ⟨h1,h2⟩:=h;refine ⟨Rp (gO nd) (fun z=>(Hy.mp z).2 rfl),fun y hy=>?_,?_⟩
  ·rcases PH.mp hy with e | e
   ·rw [e];exact hN x h1
   ·exact hN y (Hy.mp e).1
  ·have:=MW h1 nd;show (ins (wo ns x) x i).length<=m;rw [PJ];omega
 | turn lo hi=>
  obtain ⟨h1,h2⟩:=h;exact ⟨yh h1 nd,fun y hy=>hN y ((br h1).mp hy),by show (Ek ns lo hi).length<=m;rw [d9 h1 h2];exact hm⟩
theorem Mz (xs:List V)(i:Nat):C7 xs none (some (i:Int))=xs.take i:=by
 unfold C7;rw [HT.dv,HT.PY,Xl,Y2];rcases Xz i xs.length with h | h
 ·rw [Nx h]
 ·rw [Y0 h,Lo,Xv h]
theorem ML (xs:List V)(i:Nat):C7 xs (some (i:Int)) none=xs.drop i:=by
 unfold C7;rw [HT.dv,HT.PY];rcases Xz i xs.length with h | h
 ·rw [Nx h,Xv (by rw [Dz];omega)]
 ·rw [Y0 h,Nat.sub_self,List.take_zero,List.drop_of_length_le h]
theorem ZU (xs:List V){j:Nat}(hi:i<=j)(hj:j<=xs.length):C7 xs (some (i:Int)) (some (j:Int))=(xs.drop i).take (j - i):=by
 unfold C7;rw [HT.PY,HT.PY,Nx hj,Nx (Ci hi hj)]
def BM (tp:Bool)(xs:List V):HO:=match tp with
 | false=>.lst xs
 | true=>.tup xs
theorem BM.sq {K:ZE5}{tp:Bool}(h:H a=some (BM tp xs)):CN K tp H a xs:=by
 cases tp
 ·exact AF.of h
 ·exact AA.of h
def Ms:Sp:=fun vs H Q _=>∃ (a:Addr) (tp:Bool) (ns:List Str) (x:Str),vs=[.ref a,.str x]/\H a=some (BM tp (ns.map V.str))/\x∈ns/\Q (.int (ns.idxOf x:Nat)) H
def cO:Sp:=fun vs H Q _=>∃ (a:Addr) (tp:Bool) (ns:List Str) (x:Str) (i:Nat),vs=[.ref a,.str x,.int i]/\H a=some (BM tp (ns.map V.str))/\(AN.put x i).Ok 40 ns/\∀ H',A7 H H'->Q .AB H'
def dU:Sp:=fun vs H Q _=>∃ (a:Addr) (tp:Bool) (ns:List Str) (x:Str) (i:Nat),vs=[.ref a,.str x,.int i]/\H a=some (BM tp (ns.map V.str))/\(AN.move x i).Ok 40 ns/\Q .AB H
def gn:Sp:=fun vs H Q _=>∃ (a:Addr) (tp:Bool) (ns:List Str) (lo hi:Nat),vs=[.ref a,.int lo,.int hi]/\H a=some (BM tp (ns.map V.str))/\(AN.turn lo hi).Ok 40 ns/\Q .AB H
def YK:Sp:=fun vs H Q _=>∃ (a t:Addr) (tp:Bool) (ns:List Str) (d:AN),vs=[.ref a,.ref t]/\H a=some (BM tp (ns.map V.str))/\H t=some (.tup d.vals)/\d.Ok 40 ns/\∀ H',A7 H H'->Q .AB H'
def IC (H:Hp)(Q:VK)(ns:List Str):Prop:=∀ l H',H l=none->A7 H H'->H' l=some (.lst (ns.map V.str))->Q (.ref l) H'
def ZN:Sp:=fun vs H Q _=>∃ (a:Addr) (tp:Bool) (ns:List Str) (x:Str) (i:Nat),vs=[.ref a,.str x,.int i]/\H a=some (BM tp (ns.map V.str))/\ns.length<=1000/\IC H Q (ins ns x i)
def aB:Sp:=fun vs H Q _=>∃ (a:Addr) (tp:Bool) (ns:List Str) (x:Str),vs=[.ref a,.str x]/\H a=some (BM tp (ns.map V.str))/\ns.length<=1000/\IC H Q (wo ns x)
def VY:Sp:=fun vs H Q _=>∃ (a t:Addr) (ns:List Str) (d:AN),vs=[.ref a,.ref t]/\H a=some (.lst (ns.map V.str))/\H t=some (.tup d.vals)/\d.Ok 40 ns/\ns.length<=40/\ns.Nodup/\IC H Q (d.done ns)
def Qb:Sp:=fun vs H Q _=>∃ (p a:Addr) (m:Nat) (ns:List Str),vs=[.ref p,.ref a,.int m]/\BR H p/\H a=some (.lst (ns.map V.str))/\a≠p/\(∀ x∈ns,Nm x)/\ns.length<=m/\1<=m/\m<=100/\
 ∀ (d:AN) t H',H t=none->BJ p H H'->H' t=some (.tup d.vals)->d.Ok m ns->Q (.ref t) H'
theorem GX [Decidable c](h:c)(a:A):if c then A else B:=by rw [jd h];exact a
theorem Bh [Decidable c](h:¬ c)(b:B):if c then A else B:=by rw [jG h];exact b
theorem uE:∀ j,j<26->QB (97+j)=true:=by decide +kernel
theorem TV (h:Nm x):isNm x=true:=by
 obtain ⟨h1,h2,h3⟩:=h;unfold isNm;rw [jO (by omega),jO (by omega),Lh,Lh,HB];intro c hc;obtain ⟨a,b⟩:=h3 c hc;have:=uE (c - 97) (by omega);have e:97+(c - 97)=c:=by omega
 rw [e] at this;exact this
theorem Co (ns:List Str):(ns.map V.str).length=ns.length:=Ab _
def GV (y:V):V->Bool:=fun v=>!decide (v=y)
theorem MK (ns:List Str)(x:Str):((ns.map V.str).filter (GV (.str x))).map (fun v=>v)=(wo ns x).map V.str:=by
 unfold wo GV;rw [ib,iU]
 congr 1
 apply ZCl;intro y _;simp
theorem p9 (ns:List Str)(i:Int):((ns.map V.str).filter (GV (.int i))).map (fun v=>v)=ns.map V.str:=by
 unfold GV;rw [ib,ZCm];intro v hv;obtain ⟨y,_,rfl⟩:=List.mem_map.mp hv;rfl
theorem zo (s:A7 H H')(h:H l=none):A7 H (upd H' l o):=fun b u q=>by rw [AX (DX q h)];exact s b u q
theorem u9 (K:ZE5):PySem.W.kitOne K (.type "int") (.type "bool")=some false:=by
 unfold PySem.W.kitOne;rw [jG (by decide)];with_unfolding_all rfl
end Lw
namespace Fz
open L2 Lw
variable {F F' H H':Hp}{v:V}{C3 vs:List V}{t:TA}{a l:Addr}{r:List V->Hp->VK->Prop}{σ τ:L2.St}{o:HO}{i i0 j:Nat}{ta tb tc te:TE}{b neg tp:Bool}{u:TS}{n:String}{g:TG}{wi:TI}{A:List Addr}{Q:VK}{X:XK}
inductive PV where
 | AB | bl (b:Bool) | int (i:Int) | str (x:Str) | lst (xs:List PV) | tup (xs:List PV)
 | Am (ks:List Key) (xs:List PV) | obj (C:Addr) (ns:List Str) (xs:List PV) | exc (C:Addr) (ns:List Str) (xs:List PV) | con (a:Addr) (xs:List PV)
variable {p:PV}{ps xs:List PV}
def QR (a C:Addr)(dx:Option Addr):HO:=.ext fun h=>∃ ob vs,h.get? a=some ob/\ob.cls=.ref C/\ob.dict=dx/\ob.data=.fields vs
mutual
inductive Rep (F:Hp):V->PV->Prop where
 | AB:Rep F .AB .AB
 | bl (b:Bool):Rep F (.bl b) (.bl b)
 | int (i:Int):Rep F (.int i) (.int i)
 | str (x:Str):Rep F (.str x) (.str x)
 | lst {a:Addr}{vs:List V}{xs:List PV}:F a=some (.lst vs)->AM F vs xs->Rep F (.ref a) (.lst xs)
 | tup {a:Addr}{vs:List V}{xs:List PV}:F a=some (.tup vs)->AM F vs xs->Rep F (.ref a) (.tup xs)
 | Am {a:Addr}{ks:List Key}{vs:List V}{xs:List PV}:F a=some (.dK (ks.zip vs))->ks.length=vs.length->AM F vs xs->Rep F (.ref a) (.Am ks xs)
 | obj {a C dx:Addr}{ns:List Str}{vs:List V}{xs:List PV}:F a=some (.ins C dx (ns.zip vs))->F dx=some (.own a)->ns.length=vs.length->AM F vs xs->Rep F (.ref a) (.obj C ns xs)
 | con {a:Addr}{xs:List PV}:Rep F (.ref a) (.con a xs)
 | NC {a C:Addr}:F a=some (QR a C none)->Rep F (.ref a) (.exc C [] [])
 | exc {a C dx:Addr}{ns:List Str}{vs:List V}{xs:List PV}:F a=some (QR a C (some dx))->F dx=some (.xd (ns.zip vs))->ns.length=vs.length->AM F vs xs->Rep F (.ref a) (.exc C ns xs)
inductive AM (F:Hp):List V->List PV->Prop where
 | nil:AM F [] []
 | cons {v:V}{p:PV}{vs:List V}{ps:List PV}:Rep F v p->AM F vs ps->AM F (v::vs) (p::ps)
end
mutual
theorem Rep.mono {F F':Hp}(s:A7 F F'):∀ {v:V}{p:PV},Rep F v p->Rep F' v p
 | _,_,.AB=>.AB
 | _,_,.bl b=>.bl b
 | _,_,.int i=>.int i
 | _,_,.str x=>.str x
 | _,_,.lst h r=>.lst (s _ _ h) (AM.mono s r)
 | _,_,.tup h r=>.tup (s _ _ h) (AM.mono s r)
 | _,_,.Am h e r=>.Am (s _ _ h) e (AM.mono s r)
 | _,_,.obj h h2 e r=>.obj (s _ _ h) (s _ _ h2) e (AM.mono s r)
 | _,_,.con=>.con
 | _,_,.NC h=>.NC (s _ _ h)
 | _,_,.exc h h2 e r=>.exc (s _ _ h) (s _ _ h2) e (AM.mono s r)
theorem AM.mono {F F':Hp}(s:A7 F F'):∀ {vs:List V}{ps:List PV},AM F vs ps->AM F' vs ps
 | _,_,.nil=>.nil
 | _,_,.cons r t=>.cons (Rep.mono s r) (AM.mono s t)
end
def ZBA (F:Hp)(v:V):PV->Prop
 | .AB=>v=.AB
 | .bl b=>v=.bl b
 | .int i=>v=.int i
 | .str x=>v=.str x
 | .lst xs=>∃ a vs,v=.ref a/\F a=some (.lst vs)/\AM F vs xs
 | .tup xs=>∃ a vs,v=.ref a/\F a=some (.tup vs)/\AM F vs xs
 | .Am ks xs=>∃ a vs,v=.ref a/\F a=some (.dK (ks.zip vs))/\ks.length=vs.length/\AM F vs xs
 | .obj C ns xs=>∃ a dx vs,v=.ref a/\F a=some (.ins C dx (ns.zip vs))/\F dx=some (.own a)/\ns.length=vs.length/\AM F vs xs
 | .con a _=>v=.ref a
 | .exc C ns xs=>(∃ a,v=.ref a/\F a=some (QR a C none)/\ns=[]/\xs=[])∨∃ a dx vs,v=.ref a/\F a=some (QR a C (some dx))/\F dx=some (.xd (ns.zip vs))/\ns.length=vs.length/\AM F vs xs
theorem Rep.inv (r:Rep F v p):ZBA F v p:=by
 cases r with
 | lst h r=>exact ⟨_,_,rfl,h,r⟩
 | tup h r=>exact ⟨_,_,rfl,h,r⟩
 | Am h l r=>exact ⟨_,_,rfl,h,l,r⟩
 | obj h h2 l r=>exact ⟨_,_,_,rfl,h,h2,l,r⟩
 | NC h=>exact .inl ⟨_,rfl,h,rfl,rfl⟩
 | exc h h2 l r=>exact .inr ⟨_,_,_,rfl,h,h2,l,r⟩
 | _=>exact rfl
theorem AM.inv (r:AM F vs (p::ps)):∃ v ws,vs=v::ws/\Rep F v p/\AM F ws ps:=by
 cases r with
 | cons r t=>exact ⟨_,_,rfl,r,t⟩
theorem AM.M6 (r:AM F vs []):vs=[]:=by
 cases r;rfl
theorem AM.length {F:Hp}:∀ {vs:List V}{ps:List PV},AM F vs ps->vs.length=ps.length
 | [],_,.nil=>rfl
 | _::_,_,.cons _ t=>by rw [BN,BN,AM.length t]
theorem AM.get {F:Hp}:∀ {vs:List V}{ps:List PV}{i:Nat}{p:PV},AM F vs ps->ps[i]?=some p->∃ v,vs[i]?=some v/\Rep F v p
 | _,_,_,_,.nil,e=>by simp at e
 | _,_,0,_,.cons r _,e=>by simp at e;subst e;exact ⟨_,rfl,r⟩
 | _,_,i+1,p,.cons _ t,e=>by
  obtain ⟨u,h1,h2⟩:=AM.get (i:=i) (p:=p) t (by simpa using e)
  exact ⟨u,by simpa using h1,h2⟩
theorem AM.get' {F:Hp}:∀ {vs:List V}{ps:List PV}{i:Nat}{v:V},AM F vs ps->vs[i]?=some v->∃ p,ps[i]?=some p/\Rep F v p
 | _,_,_,_,.nil,e=>by simp at e
 | _,_,0,_,.cons r _,e=>by simp at e;subst e;exact ⟨_,rfl,r⟩
 | _,_,i+1,p,.cons _ t,e=>by
  obtain ⟨u,h1,h2⟩:=AM.get' (i:=i) (v:=p) t (by simpa using e)
  exact ⟨u,by simpa using h1,h2⟩
theorem AM.append {F:Hp}:∀ {vs ws:List V}{ps qs:List PV},AM F vs ps->AM F ws qs->AM F (vs++ws) (ps++qs)
 | _,_,_,_,.nil,s=>s
 | _,_,_,_,.cons r t,s=>.cons r (AM.append t s)
theorem AM.take {F:Hp}:∀ {vs:List V}{ps:List PV}(n:Nat),AM F vs ps->AM F (vs.take n) (ps.take n)
 | _,_,0,_=>by simp only [List.take_zero];exact .nil
 | _,_,_+1,.nil=>.nil
 | _,_,n+1,.cons r t=>.cons r (AM.take n t)
theorem AM.drop {F:Hp}:∀ {vs:List V}{ps:List PV}(n:Nat),AM F vs ps->AM F (vs.drop n) (ps.drop n)
 | _,_,0,r=>r
 | _,_,_+1,.nil=>.nil
 | _,_,n+1,.cons _ t=>AM.drop n t
theorem AM.one (r:Rep F v p):AM F [v] [p]:=.cons r .nil
def flat:PV->Bool
 | .lst _=>false
 | .tup _=>false
 | .Am _ _=>false
 | .obj _ _ _=>false
 | .exc _ _ _=>false
 | .con _ _=>false
 | _=>true
def enc:PV->V
 | .bl b=>.bl b
 | .int i=>.int i
 | .str x=>.str x
 | _=>.AB
theorem Rep.enc (h:flat p=true)(r:Rep F v p):v=enc p:=by
 cases r <;> first | rfl | cases h
theorem nA (h:flat p=true):Rep F (enc p) p:=by
 cases p with
 | AB=>exact .AB
 | bl b=>exact .bl b
 | int i=>exact .int i
 | str x=>exact .str x
 | lst xs=>cases h
 | tup xs=>cases h
 | Am ks xs=>cases h
 | obj C ns xs=>cases h
 | exc C ns xs=>cases h
 | con a xs=>cases h
theorem AM.enc {F:Hp}:∀ {vs:List V}{ps:List PV},ps.all flat=true->AM F vs ps->vs=ps.map enc
 | _,_,_,.nil=>rfl
 | _,_,h,.cons r t=>by
  rw [RG,Dg] at h;rw [Bs,<- Rep.enc h.1 r,<- AM.enc h.2 t]
theorem XY {F:Hp}:∀ {ps:List PV},ps.all flat=true->AM F (ps.map enc) ps
 | [],_=>.nil
 | p::r,h=>by
  rw [RG,Dg] at h;exact .cons (nA h.1) (XY h.2)
theorem Qe (h:flat p=true):E8 (Fz.enc p)=true:=by cases p <;> first | rfl | cases h
theorem d4 (ns:List Str):(ns.map PV.str).all flat=true:=by
 rw [HB];intro x hx;obtain ⟨y,_,rfl⟩:=List.mem_map.mp hx;rfl
theorem qR (ns:List Bool):(ns.map PV.bl).all flat=true:=by
 rw [HB];intro x hx;obtain ⟨y,_,rfl⟩:=List.mem_map.mp hx;rfl
theorem aG (ns:List Str):(ns.map PV.str).map Fz.enc=ns.map V.str:=by rw [HC];rfl
theorem vE (ns:List Bool):(ns.map PV.bl).map Fz.enc=ns.map V.bl:=by rw [HC];rfl
theorem AM.strs {ns:List Str}(r:AM F vs (ns.map PV.str)):vs=ns.map V.str:=(r.enc (d4 ns)).trans (aG ns)
theorem Jb (ns:List Str):AM F (ns.map V.str) (ns.map PV.str):=by rw [<- aG];exact XY (d4 ns)
theorem AM.bls {ns:List Bool}(r:AM F vs (ns.map PV.bl)):vs=ns.map V.bl:=(r.enc (qR ns)).trans (vE ns)
inductive NK where
 | lst | Am (ks:List Key) | obj (C dx:Addr) (ns:List Str)
def NK.ho:NK->List V->HO
 | .lst,vs=>.lst vs
 | .Am ks,vs=>.dK (ks.zip vs)
 | .obj C dx ns,vs=>.ins C dx (ns.zip vs)
def NK.more:NK->List Addr
 | .obj _ dx _=>[dx]
 | _=>[]
def NK.side (k:NK)(a:Addr)(H:Hp):Prop:=match k with
 | .obj _ dx _=>H dx=some (.own a)
 | _=>True
def NK.fit (k:NK)(n:Nat):Prop:=match k with
 | .Am ks=>ks.length=n
 | .obj _ _ ns=>ns.length=n
 | _=>True
inductive OV where
 | fz (p:PV)
 | tp (xs:List OV)
 | nd (k:NK) (a:Addr) (xs:List OV)
mutual
def OV.addrs:OV->List Addr
 | .fz _=>[]
 | .tp xs=>OV.AZ xs
 | .nd k a xs=>a::(k.more++OV.AZ xs)
def OV.AZ:List OV->List Addr
 | []=>[]
 | x::r=>x.addrs++OV.AZ r
end
mutual
def OV.pv:OV->PV
 | .fz p=>p
 | .tp xs=>.tup (OV.FK xs)
 | .nd .lst _ xs=>.lst (OV.FK xs)
 | .nd (.Am ks) _ xs=>.Am ks (OV.FK xs)
 | .nd (.obj C _ ns) _ xs=>.obj C ns (OV.FK xs)
def OV.FK:List OV->List PV
 | []=>[]
 | x::r=>x.pv::OV.FK r
end
mutual
inductive Aj (F H:Hp):V->OV->Prop where
 | fz {v:V}{p:PV}:Rep F v p->Aj F H v (.fz p)
 | tp {a:Addr}{vs:List V}{xs:List OV}:F a=some (.tup vs)->An F H vs xs->Aj F H (.ref a) (.tp xs)
 | nd {k:NK}{a:Addr}{vs:List V}{xs:List OV}:H a=some (k.ho vs)->k.side a H->k.fit vs.length->An F H vs xs->Aj F H (.ref a) (.nd k a xs)
inductive An (F H:Hp):List V->List OV->Prop where
 | nil:An F H [] []
 | cons {v:V}{t:OV}{vs:List V}{ts:List OV}:Aj F H v t->An F H vs ts->An F H (v::vs) (t::ts)
end
def tE (F H:Hp)(v:V):OV->Prop
 | .fz p=>Rep F v p
 | .tp xs=>∃ a vs,v=.ref a/\F a=some (.tup vs)/\An F H vs xs
 | .nd k a xs=>∃ vs,v=.ref a/\H a=some (k.ho vs)/\k.side a H/\k.fit vs.length/\An F H vs xs
theorem Aj.inv {t:OV}(r:Aj F H v t):tE F H v t:=by
 cases r with
 | fz r=>exact r
 | tp h r=>exact ⟨_,_,rfl,h,r⟩
 | nd h sd ft r=>exact ⟨_,rfl,h,sd,ft,r⟩
theorem An.inv {t:OV}{ts:List OV}(r:An F H vs (t::ts)):∃ v ws,vs=v::ws/\Aj F H v t/\An F H ws ts:=by
 cases r with
 | cons r t=>exact ⟨_,_,rfl,r,t⟩
theorem An.M6 (r:An F H vs []):vs=[]:=by
 cases r;rfl
theorem OV.Ct {k:NK}{xs:List OV}:(OV.nd k a xs).addrs=a::(k.more++OV.AZ xs):=by rw [OV.addrs]
theorem OV.E7 {xs:List OV}:(OV.tp xs).addrs=OV.AZ xs:=by rw [OV.addrs]
theorem OV.IL:(OV.fz p).addrs=[]:=by rw [OV.addrs]
theorem OV.Bf {x:OV}{r:List OV}:OV.AZ (x::r)=x.addrs++OV.AZ r:=by rw [OV.AZ]
theorem OV.HK:OV.AZ []=[]:=by rw [OV.AZ]
theorem NK.aC {k:NK}(h:k.side a H)(s:∀ b∈k.more,∀ o,H b=some o->H' b=some o):k.side a H':=by
 cases k with
 | obj C dx ns=>exact s dx (by simp [NK.more]) _ h
 | _=>trivial
mutual
theorem Aj.mono {F F' H H':Hp}(f:A7 F F'):∀ {v:V}{t:OV},Aj F H v t->(∀ a∈t.addrs,∀ o,H a=some o->H' a=some o)->Aj F' H' v t
 | _,_,.fz r,_=>.fz (r.mono f)
 | _,_,.tp h r,s=>by
  rw [OV.E7] at s;exact .tp (f _ _ h) (An.mono f r s)
 | _,_,.nd h sd ft r,s=>by
  rw [OV.Ct] at s;exact .nd (s _ (by simp) _ h) (NK.aC sd fun b hb=>s b (by simp [hb])) ft (An.mono f r fun a ha=>s a (by simp [ha]))
theorem An.mono {F F' H H':Hp}(f:A7 F F'):∀ {vs:List V}{ts:List OV},An F H vs ts->(∀ a∈OV.AZ ts,∀ o,H a=some o->H' a=some o)->An F' H' vs ts
 | _,_,.nil,_=>.nil
 | _,_,.cons r t,s=>by
  rw [OV.Bf] at s;exact .cons (Aj.mono f r fun a ha=>s a (by simp [ha])) (An.mono f t fun a ha=>s a (by simp [ha]))
end
mutual
theorem Aj.there {F H:Hp}:∀ {v:V}{t:OV},Aj F H v t->∀ a∈t.addrs,H a≠none
 | _,_,.fz _,a,ha=>by rw [OV.addrs] at ha;cases ha
 | _,_,.tp _ r,a,ha=>by rw [OV.E7] at ha;exact An.there r a ha
 | _,_,@Aj.nd _ _ k b vs xs h sd ft r,a,ha=>by
  rw [OV.Ct,DT,Ht] at ha;rcases ha with rfl | ha | ha
  ·rw [h];simp
  ·cases k with
   | obj C dx ns=>
    have e:a=dx:=by simpa [NK.more] using ha
    subst e;have TM:H a=some (.own b):=sd;rw [TM];simp
   | _=>simp [NK.more] at ha
  ·exact An.there r a ha
theorem An.there {F H:Hp}:∀ {vs:List V}{ts:List OV},An F H vs ts->∀ a∈OV.AZ ts,H a≠none
 | _,_,.nil,a,ha=>by rw [OV.HK] at ha;cases ha
 | _,_,.cons r t,a,ha=>by
  rw [OV.Bf,Ht] at ha;rcases ha with ha | ha
  ·exact Aj.there r a ha
  ·exact An.there t a ha
end
theorem An.length {F H:Hp}:∀ {vs:List V}{ts:List OV},An F H vs ts->vs.length=ts.length
 | [],_,.nil=>rfl
 | _::_,_,.cons _ t=>by rw [BN,BN,An.length t]
inductive Slot where
 | any | is (p:PV) | own (xs:List PV) | AD | sq (tp:Bool) (xs:List PV) | raw (P:Hp->V->Prop) | ow (lt:Bool) (t:OV)
variable {ss:List Slot}{s:Slot}{Hh nx:List Slot->Prop}
structure Ent0 where
 A:List Addr
 F0:Hp
 H0:Hp
 B:List Addr
variable {E:Ent0}
abbrev E3 (A:List Addr)(F H:Hp):Ent0:=⟨A,F,H,[]⟩
def Ok (E:Ent0)(F H:Hp):Slot->Option (Option V)->Prop
 | .any,_=>True
 | .is p,o=>∃ v,o=some (some v)/\Rep F v p
 | .own xs,o=>∃ l vs,o=some (some (.ref l))/\F l=none/\E.H0 l=none/\H l=some (.lst vs)/\AM F vs xs
 | .AD,o=>∃ l,o=some (some (.ref l))/\F l=none/\(E.H0 l=none∨l∈E.A)/\BR H l
 | .sq true xs,o=>∃ v,o=some (some v)/\Rep F v (.tup xs)
 | .sq false xs,o=>∃ l vs,o=some (some (.ref l))/\(l∉E.A/\l∉E.B)/\E.H0 l=some (.lst vs)/\AM F vs xs
 | .raw P,o=>∃ v,o=some (some v)/\P F v/\∀ F F',A7 F F'->P F v->P F' v
 | .ow lt t,o=>∃ v,o=some (some v)/\Aj F H v t/\t.addrs.Nodup/\∀ a∈t.addrs,F a=none/\(E.H0 a=none∨(lt=true/\a∈E.B))
def B9:Slot->Option (Option V)->Addr->Prop
 | .own _,o,l=>o=some (some (.ref l))
 | .AD,o,l=>o=some (some (.ref l))
 | .ow _ t,_,l=>l∈t.addrs
 | _,_,_=>False
structure Fin (E:Ent0) (F H:Hp):Prop where
 fh:A7 F H
 f0:A7 E.F0 F
 keep:∀ a o,(a∉E.A/\a∉E.B)->E.H0 a=some o->H a=some o
 fresh:∀ a o,F a=some o->E.F0 a=some o∨E.H0 a=none
 CT:∀ a,a∈E.A->BR H a
 K7:∀ a,a∈E.A->F a=none
 a0:∀ a,a∈E.A->E.H0 a≠none
 bF:∀ a,a∈E.B->F a=none
 bH:∀ a,a∈E.B->H a≠none
 b0:∀ a,a∈E.B->E.H0 a≠none/\a∉E.A
structure Sg (E:Ent0) (ss:List Slot) (σ:L2.St) (F H:Hp):Prop extends Fin E F H where
 len:ss.length=σ.length
 ok:∀ (i:Nat) s,ss[i]?=some s->Ok E F H s σ[i]?
 BP:∀ (i j:Nat) s u l,i≠j->ss[i]?=some s->ss[j]?=some u->B9 s σ[i]? l->¬ B9 u σ[j]? l
structure Ex where
 C:Addr
 ns:List Str
 xs:List PV
def Ex.at (x:Ex)(F:Hp)(C:Value)(dx:Option Addr):Prop:=
 C=.ref x.C/\((x.ns=[]/\x.xs=[]/\dx=none)∨∃ a vs,dx=some a/\F a=some (.xd (x.ns.zip vs))/\x.ns.length=vs.length/\AM F vs x.xs)
class Xw where
 e:L2.St->XK
 J:List Slot->Prop
 D:Ex->Prop
structure Ent [Xw] extends Ent0 where
 hx:∀ (ss:List Slot) (σ:L2.St) (F H:Hp) (x:Ex) (C:Value) (dx:Option Addr),Xw.J ss->Sg toEnt0 ss σ F H->Xw.D x->x.at F C dx->Xw.e σ C dx H
instance [Xw]:CoeOut Ent Ent0:=⟨Ent.toEnt0⟩
instance OK:Xw:=⟨fun _=>E0,fun _=>True,fun _=>False⟩
def By (ss:List Slot)(σ:L2.St)(a:Addr):Prop:=∀ i:Nat,ss[i]?=some .AD->σ[i]?≠some (some (.ref a))
structure Mv (E:Ent0) (ss:List Slot) (σ:L2.St) (F H F' H':Hp):Prop where
 st:Sg E ss σ F' H'
 ff:A7 F F'
 hh:∀ a o,By ss σ a->H a=some o->H' a=some o
 nn:∀ a o,F' a=some o->F a=some o∨H a=none
theorem Sg.J2 (S:Sg E ss σ F H)(h:H l=none):By ss σ l:=fun i hi e=>by
 obtain ⟨l',e1,_,_,_,_,e2,_⟩:=S.ok i _ hi;rw [e] at e1;cases e1;rw [h] at e2;cases e2
theorem Mv.none (m:Mv E ss σ F H F' H')(h:H' a=none):H a=none:=by
 cases e:H a with
 | none=>rfl
 | some o=>rw [m.hh a o (m.st.J2 h) e] at h;cases h
theorem Mv.refl {E:Ent0}{ss:List Slot}{σ:L2.St}{F H:Hp}(S:Sg E ss σ F H):Mv E ss σ F H F H:=⟨S,A7.refl _,fun _ _ _ e=>e,fun _ _ e=>.inl e⟩
theorem Mv.trans {F1 H1 F2 H2:Hp}(a:Mv E ss σ F H F1 H1)(b:Mv E ss σ F1 H1 F2 H2):Mv E ss σ F H F2 H2:=
 ⟨b.st,a.ff.trans b.ff,fun c o n e=>b.hh c o n (a.hh c o n e),fun c o e=>(b.nn c o e).elim (fun e=>a.nn c o e) fun e=>.inr (a.none e)⟩
theorem Sg.D6 (S:Sg E ss σ F H){p:Addr}(h:H p=none):E.H0 p=none:=by
 cases e:E.H0 p with
 | none=>rfl
 | some o=>
  by_cases q:p∈E.A
  ·obtain ⟨_,_,e1,_⟩:=S.CT p q;rw [h] at e1;cases e1
  ·by_cases qb:p∈E.B
   ·exact absurd h (S.bH p qb)
   ·rw [S.keep p o ⟨q,qb⟩ e] at h;cases h
theorem Sg.BH (S:Sg E ss σ F H){p:Addr}(h:H p=none):F p=none:=A7.none S.fh h
theorem BR.keep (h:BR H l)(k:∀ o,H l=some o->H' l=some o):BR H' l:=by
 obtain ⟨a,b,e,r⟩:=h;exact ⟨a,b,k _ e,r⟩
theorem Sg.Yw (S:Sg E ss σ F H)(h:F l=some o):By ss σ l:=fun i hi e=>by
 obtain ⟨l',e1,e2,_⟩:=S.ok i _ hi;rw [e] at e1;cases e1;rw [h] at e2;cases e2
theorem Sg.ah (S:Sg E ss σ F H)(hA:l∉E.A)(h:E.H0 l=some o):By ss σ l:=fun i hi e=>by
 obtain ⟨l',e1,_,q,_⟩:=S.ok i _ hi;rw [e] at e1;cases e1;rcases q with q | q
 ·rw [h] at q;cases q
 ·exact hA q
theorem Sg.sg (S:Sg E ss σ F H)(h:l∈E.B):By ss σ l:=fun i hi e=>by
 obtain ⟨l',e1,_,q,_⟩:=S.ok i _ hi;rw [e] at e1;cases e1;obtain ⟨h0,hA⟩:=S.b0 l h;rcases q with q | q
 ·exact h0 q
 ·exact hA q
theorem Sg.DL (S:Sg E ss σ F H)(h:ss[i]?=some s)(m:B9 s σ[i]? l):H l≠none:=by
 have k:=S.ok i s h;cases s with
 | own xs=>obtain ⟨l',vs,e1,_,_,e2,_⟩:=k;rw [show σ[i]?=some (some (.ref l)) from m] at e1;cases e1;rw [e2];simp
 | AD=>obtain ⟨l',e1,_,_,_,_,e2,_⟩:=k;rw [show σ[i]?=some (some (.ref l)) from m] at e1;cases e1;rw [e2];simp
 | ow lt t=>obtain ⟨v,_,r,_⟩:=k;exact r.there l m
 | _=>cases m
theorem Sg.ZBH (S:Sg E ss σ F H)(h:ss[i]?=some s)(m:B9 s σ[i]? l):F l=none:=by
 have k:=S.ok i s h;cases s with
 | own xs=>obtain ⟨l',vs,e1,e2,_⟩:=k;rw [show σ[i]?=some (some (.ref l)) from m] at e1;cases e1;exact e2
 | AD=>obtain ⟨l',e1,e2,_⟩:=k;rw [show σ[i]?=some (some (.ref l)) from m] at e1;cases e1;exact e2
 | ow lt t=>obtain ⟨v,_,r,_,q⟩:=k;exact (q l m).1
 | _=>cases m
theorem Sg.Mi (S:Sg E ss σ F H)(h:ss[i]?=some s)(hl:H l=none):¬ B9 s σ[i]? l:=fun m=>S.DL h m hl
theorem Sg.NT (S:Sg E ss σ F H)(h:ss[i]?=some s)(m:B9 s σ[i]? l)(np:s≠.AD):By ss σ l:=fun j hj ej=>
 S.BP i j s _ l (by rintro rfl;rw [h] at hj;exact np (BO hj)) h hj m ej
theorem Ok.go (S:Sg E ss σ F H)(hi:ss[i]?=some s)(ff:A7 F F')(hk:∀ a o,B9 s σ[i]? a->H a=some o->H' a=some o)(BH:∀ a,H a≠none->F a=none->F' a=none)(np:s≠.AD):Ok E F' H' s σ[i]?:=by
 have k:=S.ok i s hi;cases s with
 | any=>trivial
 | is p=>obtain ⟨v,e,r⟩:=k;exact ⟨v,e,r.mono ff⟩
 | own xs=>
  obtain ⟨l,vs,e,e1,e2,e3,r⟩:=k;exact ⟨l,vs,e,BH l (by rw [e3];simp) e1,e2,hk l _ e e3,r.mono ff⟩
 | AD=>exact absurd rfl np
 | sq tp xs=>
  cases tp with
  | true=>obtain ⟨v,e,r⟩:=k;exact ⟨v,e,r.mono ff⟩
  | false=>obtain ⟨l,vs,e,e1,e2,r⟩:=k;exact ⟨l,vs,e,e1,e2,r.mono ff⟩
 | raw P=>obtain ⟨v,e,r,st⟩:=k;exact ⟨v,e,st _ _ ff r,st⟩
 | ow lt t=>
  obtain ⟨v,e,r,nd,q⟩:=k;exact ⟨v,e,r.mono ff fun a ha o=>hk a o ha,nd,fun a ha=>⟨BH a (r.there a ha) (q a ha).1,(q a ha).2⟩⟩
theorem Sg.step (S:Sg E ss σ F H)(ff:A7 F F')(fh:A7 F' H')(hk:∀ a o,By ss σ a->H a=some o->H' a=some o)(hn:∀ a o,F' a=some o->F a=some o∨H a=none)
  (hp:∀ (i:Nat) l,ss[i]?=some .AD->σ[i]?=some (some (.ref l))->BR H' l):Mv E ss σ F H F' H':=by
 have BH:∀ a,H a≠none->F a=none->F' a=none:=fun a h1 h2=>by
  cases e:F' a with
  | none=>rfl
  | some o=>
   rcases hn a o e with q | q
   ·rw [h2] at q;cases q
   ·exact absurd q h1
 have pJ:∀ a,BR H a->By ss σ a->BR H' a:=fun a p n=>BR.keep p fun o e=>hk a o n e;refine ⟨⟨⟨fh,S.f0.trans ff,fun a o hA e=>?_,fun a o e=>?_,fun a hA=>?_,fun a hA=>?_,S.a0,fun a hB=>BH a (S.bH a hB) (S.bF a hB),fun a hB=>?_,S.b0⟩,S.len,fun i s hi=>?_,S.BP⟩,ff,hk,hn⟩
 ·exact hk a o (S.ah hA.1 e) (S.keep a o hA e)
 ·rcases hn a o e with q | q
  ·exact S.fresh a o q
  ·exact .inr (S.D6 q)
 ·by_cases q:∃ i:Nat,ss[i]?=some .AD/\σ[i]?=some (some (.ref a))
  ·obtain ⟨i,q1,q2⟩:=q;exact hp i a q1 q2
  ·exact pJ a (S.CT a hA) fun i h1 h2=>q ⟨i,h1,h2⟩
 ·refine BH a ?_ (S.K7 a hA);obtain ⟨_,_,e1,_⟩:=S.CT a hA;rw [e1];simp
 ·obtain ⟨o,e⟩:=Option.ne_none_iff_exists'.mp (S.bH a hB);rw [hk a o (S.sg hB) e];simp
 ·by_cases np:s=.AD
  ·subst np;obtain ⟨l,e,e1,e2,e3⟩:=S.ok i _ hi;have RS:=e3;obtain ⟨_,_,e4,_⟩:=RS;exact ⟨l,e,BH l (by rw [e4];simp) e1,e2,hp i l hi e⟩
  ·exact Ok.go S hi ff (fun a o m=>hk a o (S.NT hi m np)) BH np
theorem Sg.EA (S:Sg E ss σ F H)(hi:ss[i]?=some .AD)(e:σ[i]?=some (some (.ref l))):BR H l:=by
 obtain ⟨l',e1,_,_,p⟩:=S.ok i _ hi;rw [e] at e1;cases e1;exact p
theorem Sg.alloc (S:Sg E ss σ F H){p:Addr}(h:H p=none)(o:HO):Mv E ss σ F H (upd F p o) (upd H p o):=by
 refine S.step (AW (S.BH h) _) (fun a u e=>?_) (fun a u _ e=>AW h o a u e) (fun a u e=>?_) fun i l hi e=>BR.keep (S.EA hi e) fun u e=>AW h o l u e
 ·by_cases q:a=p
  ·subst q;rw [AE] at e ⊢;exact e
  ·rw [AX q] at e ⊢;exact S.fh a u e
 ·by_cases q:a=p
  ·subst q;exact .inr h
  ·rw [AX q] at e;exact .inl e
theorem Sg.make (S:Sg E ss σ F H){p:Addr}(h:H p=none)(o:HO):Mv E ss σ F H F (upd H p o):=
 S.step (A7.refl _) (S.fh.trans (AW h o)) (fun a u _ e=>AW h o a u e) (fun a u e=>.inl e) fun i l hi e=>BR.keep (S.EA hi e) fun u e=>AW h o l u e
theorem Sg.grow (S:Sg E ss σ F H)(s:A7 H H'):Mv E ss σ F H F H':=
 S.step (A7.refl _) (S.fh.trans s) (fun a u _ e=>s a u e) (fun a u e=>.inl e) fun i l hi e=>BR.keep (S.EA hi e) fun u e=>s l u e
theorem Sg.setG (S:Sg E ss σ F H)(AL:Ok E F H s (some (some v)))(Yp:∀ l,B9 s (some (some v)) l->∀ (i:Nat) u,i≠j->ss[i]?=some u->¬ B9 u σ[i]? l):Sg E (ss.set j s) (σ.set j (some v)) F H:=by
 refine ⟨S.toFin,by rw [Fp,Fp];exact S.len,fun i u hi=>?_,fun i k u w l Py hi hk mu mw=>?_⟩
 ·by_cases q:i=j
  ·subst q;have AQ:i<ss.length:=by have:=(List.getElem?_eq_some_iff.mp hi).1;simpa using this
   rw [CZ AQ] at hi;cases hi;rw [CZ (by rw [<- S.len];exact AQ)];exact AL
  ·rw [CQ (BS q)] at hi ⊢;exact S.ok i u hi
 ·by_cases q:i=j
  ·subst q;have AQ:i<ss.length:=by have:=(List.getElem?_eq_some_iff.mp hi).1;simpa using this
   rw [CZ AQ] at hi;rw [CZ (by rw [<- S.len];exact AQ)] at mu;cases hi;rw [CQ Py] at hk mw;exact Yp l mu k w (BS Py) hk mw
  ·rw [CQ (BS q)] at hi mu
   by_cases q2:k=j
   ·subst q2;have AQ:k<ss.length:=by have:=(List.getElem?_eq_some_iff.mp hk).1;simpa using this
    rw [CZ AQ] at hk;cases hk;rw [CZ (by rw [<- S.len];exact AQ)] at mw;exact Yp l mw i u Py hi mu
   ·rw [CQ (BS q2)] at hk mw;exact S.BP i k u w l Py hi hk mu mw
theorem Sg.LO (S:Sg E ss σ F H)(r:Rep F v p):Sg E (ss.set j (.is p)) (σ.set j (some v)) F H:=S.setG ⟨v,rfl,r⟩ fun _ h=>by cases h
def Sv (ss:List Slot)(σ:L2.St)(F H:Hp)(v:V):Bool->List PV->Prop
 | true,xs=>Rep F v (.tup xs)
 | false,xs=>∃ l vs,v=.ref l/\By ss σ l/\H l=some (.lst vs)/\AM F vs xs
def Fv (E:Ent0)(F:Hp)(v:V):Bool->List PV->Prop
 | true,xs=>Rep F v (.tup xs)
 | false,xs=>∃ l vs,v=.ref l/\(F l=some (.lst vs)∨((l∉E.A/\l∉E.B)/\E.H0 l=some (.lst vs)))/\AM F vs xs
structure Wp [Xw] (ss:List Slot) (t:TE) (k:PV->Prop):Prop where
 go:∀ (E:Ent) (σ:L2.St) (F H:Hp) (Q:VK),Sg E ss σ F H->(∀ v p F' H',Mv E ss σ F H F' H'->Rep F' v p->k p->Q v H')->t σ H Q
structure Wn [Xw] (ss:List Slot) (t:TE) (k:List PV->Prop):Prop where
 go:∀ (E:Ent) (σ:L2.St) (F H:Hp) (Q:VK),Sg E ss σ F H->(∀ l vs xs F' H',Mv E ss σ F H F' H'->F' l=none->H l=none->H' l=some (.lst vs)->AM F' vs xs->k xs->Q (.ref l) H')->t σ H Q
structure Wq [Xw] (ss:List Slot) (t:TE) (k:Bool->List PV->Prop):Prop where
 go:∀ (E:Ent) (σ:L2.St) (F H:Hp) (Q:VK),Sg E ss σ F H->(∀ v tp xs F' H',Mv E ss σ F H F' H'->Sv ss σ F' H' v tp xs->k tp xs->Q v H')->t σ H Q
structure Wz [Xw] (ss:List Slot) (t:TE) (k:Bool->List PV->Prop):Prop where
 go:∀ (E:Ent) (σ:L2.St) (F H:Hp) (Q:VK),Sg E ss σ F H->(∀ v tp xs F' H',Mv E ss σ F H F' H'->Fv E F' v tp xs->k tp xs->Q v H')->t σ H Q
structure Wt [Xw] (ss:List Slot) (t:TT) (k:Bool->Prop):Prop where
 go:∀ (E:Ent) (σ:L2.St) (F H:Hp) (Q:Bool->Hp->Prop),Sg E ss σ F H->(∀ b F' H',Mv E ss σ F H F' H'->k b->Q b H')->t σ H Q
def Av (ss:List Slot)(σ:L2.St)(F H:Hp)(v:V):Slot->Prop
 | .is p=>Rep F v p
 | .sq tp xs=>Sv ss σ F H v tp xs
 | .raw P=>P F v/\∀ F F',A7 F F'->P F v->P F' v
 | _=>False
inductive Gs (ss:List Slot) (σ:L2.St) (F H:Hp):List V->List Slot->Prop where
 | nil:Gs ss σ F H [] []
 | cons {v:V}{s:Slot}{vs:List V}{l:List Slot}:Av ss σ F H v s->Gs ss σ F H vs l->Gs ss σ F H (v::vs) (s::l)
structure Wa [Xw] (ss:List Slot) (t:TA) (k:List Slot->Prop):Prop where
 go:∀ (E:Ent) (σ:L2.St) (F H:Hp) (Q:List V->Hp->Prop),Sg E ss σ F H->(∀ vs l F' H',Mv E ss σ F H F' H'->Gs ss σ F' H' vs l->k l->Q vs H')->t σ H Q
inductive Aq where
 | is (k:PV->Prop) | new (k:List PV->Prop) | AD | ow (k:OV->Prop) | mt (k:PV->OV->Prop) | Ea (k:PV->OV->OV->Prop)
def OV.val:OV->V
 | .nd _ a _=>.ref a
 | _=>.AB
def Aq.ok (R:Aq)(E:Ent0)(F' H':Hp)(v:V):Prop:=match R with
 | .is k=>∃ p,Rep F' v p/\k p
 | .new k=>∃ l vs xs,v=.ref l/\F' l=none/\E.H0 l=none/\H' l=some (.lst vs)/\AM F' vs xs/\k xs
 | .AD=>∃ l,v=.ref l/\F' l=none/\E.H0 l=none/\BR H' l
 | .ow k=>∃ t,Aj F' H' v t/\t.addrs.Nodup/\(∀ a∈t.addrs,F' a=none/\E.H0 a=none)/\k t
 | .mt k=>∃ p t,Rep F' v p/\Aj F' H' t.val t/\t.addrs.Nodup/\(∀ a∈t.addrs,F' a=none/\(E.H0 a=none∨a∈E.B))/\k p t
 | .Ea k=>∃ p t u,Rep F' v p/\Aj F' H' t.val t/\Aj F' H' u.val u/\(t.addrs++u.addrs).Nodup/\(∀ a∈t.addrs++u.addrs,F' a=none/\(E.H0 a=none∨a∈E.B))/\k p t u
structure Ws [Xw] (ss:List Slot) (t:TS) (nx:List Slot->Prop) (R:Aq):Prop where
 go:∀ (E:Ent) (D:Ends) (σ:L2.St) (F H:Hp),Sg E ss σ F H->(∀ AK σ' F' H',nx AK->Sg E AK σ' F' H'->A7 F F'->D.nx σ' H')->(∀ v F' H',Fin E F' H'->R.ok E F' H' v->D.rt v H')->t D σ H
section
variable [Xw]
variable {K:ZE5}{k:PV->Prop}{R:Aq}
theorem Sv.mv (h:Sv ss σ F H v tp xs)(m:Mv E ss σ F H F' H'):Sv ss σ F' H' v tp xs:=by
 cases tp with
 | true=>exact Rep.mono m.ff h
 | false=>
  obtain ⟨l,vs,e,n,r,q⟩:=h;exact ⟨l,vs,e,n,m.hh l _ n r,q.mono m.ff⟩
theorem Sv.seq (S:Sg E ss σ F H)(h:Sv ss σ F H v tp xs):∃ l vs,v=.ref l/\H l=some (BM tp vs)/\AM F vs xs:=by
 cases tp with
 | true=>cases h with | tup e r=>exact ⟨_,_,rfl,S.fh _ _ e,r⟩
 | false=>obtain ⟨l,vs,e,_,r,q⟩:=h;exact ⟨l,vs,e,r,q⟩
theorem Fv.sv (S:Sg E ss σ F H)(h:Fv E F v tp xs):Sv ss σ F H v tp xs:=by
 cases tp with
 | true=>exact h
 | false=>
  obtain ⟨l,vs,e,h1 | ⟨hA,h1⟩,r⟩:=h
  ·exact ⟨l,vs,e,S.Yw h1,S.fh _ _ h1,r⟩
  ·exact ⟨l,vs,e,S.ah hA.1 h1,S.keep _ _ hA h1,r⟩
theorem Ah (h:ss[i]?=some (.is p))(hk:k p):Wp ss (BL i) k:=⟨fun E σ F H Q S q=>by
 obtain ⟨v,hv,r⟩:=S.ok i _ h;exact ⟨v,hv,q v p F H (.refl S) r hk⟩⟩
theorem NV {i:Int}(hk:k (.int i)):Wp ss (tC (.int i)) k:=⟨fun E σ F H Q S q=>q _ _ F H (.refl S) (.int i) hk⟩
theorem IX {x:Str}(hk:k (.str x)):Wp ss (tC (.str x)) k:=⟨fun E σ F H Q S q=>q _ _ F H (.refl S) (.str x) hk⟩
theorem lS (hk:k (.bl b)):Wp ss (tC (.bl b)) k:=⟨fun E σ F H Q S q=>q _ _ F H (.refl S) (.bl b) hk⟩
theorem Fs (h:Wn ss te (fun xs=>k (.lst xs))):Wp ss te k:=⟨fun E σ F H Q S q=>h.go E σ F H Q S fun l vs xs F' H' m fl hl Dc r kk=>by
 have S':=m.st;have fr:Mv E ss σ F H (upd F' l (.lst vs)) H':=by
  have nF:∀ a,H' a≠none->a≠l->F' a=none->upd F' l (.lst vs) a=none:=fun a _ h1 h2=>by rw [AX h1];exact h2
  refine ⟨⟨⟨fun a u e=>?_,S'.f0.trans (AW fl _),S'.keep,fun a u e=>?_,S'.CT,fun a hA=>?_,S'.a0,fun a hB=>?_,S'.bH,S'.b0⟩,S'.len,fun i s hi=>?_,S'.BP⟩,m.ff.trans (AW fl _),m.hh,fun a u e=>?_⟩
  ·by_cases q:a=l
   ·subst q;rw [AE] at e;rw [<- e];exact Dc
   ·rw [AX q] at e;exact S'.fh a u e
  ·by_cases q:a=l
   ·subst q;exact .inr (S.D6 hl)
   ·rw [AX q] at e;exact S'.fresh a u e
  ·by_cases q:a=l
   ·subst q;obtain ⟨_,_,e,_⟩:=S.CT _ hA;rw [hl] at e;cases e
   ·rw [AX q];exact S'.K7 a hA
  ·by_cases q:a=l
   ·subst q;exact absurd hl (S.bH _ hB)
   ·rw [AX q];exact S'.bF a hB
  ·have Vy:∀ a,B9 s σ[i]? a->a≠l:=by
    rintro a m rfl;exact S.Mi hi hl m
   have kk:=S'.ok i s hi;cases s with
   | any=>trivial
   | is p=>obtain ⟨v,e,r⟩:=kk;exact ⟨v,e,r.mono (AW fl _)⟩
   | own ys=>
    obtain ⟨l',ws,e,e1,e2,e3,r⟩:=kk;exact ⟨l',ws,e,by rw [AX (Vy l' e)];exact e1,e2,e3,r.mono (AW fl _)⟩
   | AD=>
    obtain ⟨l',e,e1,e2,e3⟩:=kk;exact ⟨l',e,by rw [AX (Vy l' e)];exact e1,e2,e3⟩
   | sq tp ys=>
    cases tp with
    | true=>obtain ⟨v,e,r⟩:=kk;exact ⟨v,e,r.mono (AW fl _)⟩
    | false=>obtain ⟨l',ws,e,e1,e2,r⟩:=kk;exact ⟨l',ws,e,e1,e2,r.mono (AW fl _)⟩
   | raw P=>obtain ⟨v,e,r,st⟩:=kk;exact ⟨v,e,st _ _ (AW fl _) r,st⟩
   | ow lt t=>
    obtain ⟨v,e,r,nd,q⟩:=kk;exact ⟨v,e,r.mono (AW fl _) fun a _ o h=>h,nd,fun a ha=>⟨by rw [AX (Vy a ha)];exact (q a ha).1,(q a ha).2⟩⟩
  ·by_cases q:a=l
   ·subst q;exact .inr hl
   ·rw [AX q] at e;exact m.nn a u e
 exact q _ _ _ _ fr (.lst AE (r.mono (AW fl _))) kk⟩
theorem D0 {k:Bool->List PV->Prop}(h:Wp ss te (fun p=>∃ xs,(p=.lst xs/\k false xs)∨(p=.tup xs/\k true xs))):Wq ss te k:=⟨fun E σ F H Q S q=>h.go E σ F H Q S fun v p F' H' m r AJ=>by
 obtain ⟨xs,h⟩:=AJ;rcases h with ⟨rfl,kk⟩ | ⟨rfl,kk⟩
 ·cases r with | lst h r=>exact q _ false xs F' H' m ⟨_,_,rfl,m.st.Yw h,m.st.fh _ _ h,r⟩ kk
 ·exact q v true xs F' H' m r kk⟩
theorem Oz {k:Bool->List PV->Prop}(h:ss[i]?=some (.is (.lst xs)))(hk:k false xs):Wq ss (BL i) k:=D0 (Ah h ⟨xs,.inl ⟨rfl,hk⟩⟩)
theorem XT {k:Bool->List PV->Prop}(h:ss[i]?=some (.is (.tup xs)))(hk:k true xs):Wq ss (BL i) k:=D0 (Ah h ⟨xs,.inr ⟨rfl,hk⟩⟩)
theorem ZI {k:Bool->List PV->Prop}(h:ss[i]?=some (.sq tp xs))(hk:k tp xs):Wz ss (BL i) k:=⟨fun E σ F H Q S q=>by
 have kk:=S.ok i _ h;cases tp with
 | true=>obtain ⟨v,e,r⟩:=kk;exact ⟨_,e,q _ true xs F H (.refl S) r hk⟩
 | false=>
  obtain ⟨l,vs,e,hA,h0,r⟩:=kk;exact ⟨_,e,q _ false xs F H (.refl S) ⟨l,vs,rfl,.inr ⟨hA,h0⟩,r⟩ hk⟩⟩
theorem KY {k:Bool->List PV->Prop}(h:Wp ss te (fun p=>∃ xs,(p=.lst xs/\k false xs)∨(p=.tup xs/\k true xs))):Wz ss te k:=⟨fun E σ F H Q S q=>h.go E σ F H Q S fun v p F' H' m r AJ=>by
 obtain ⟨xs,h⟩:=AJ;rcases h with ⟨rfl,kk⟩ | ⟨rfl,kk⟩
 ·cases r with | lst h r=>exact q _ false xs F' H' m ⟨_,_,rfl,.inl h,r⟩ kk
 ·exact q _ true xs F' H' m r kk⟩
theorem x8 {k:Bool->List PV->Prop}(h:Wz ss te k):Wq ss te k:=⟨fun E σ F H Q S q=>h.go E σ F H Q S fun v tp xs F' H' m f kk=>q v tp xs F' H' m (f.sv m.st) kk⟩
theorem kB {k:Bool->List PV->Prop}(h:ss[i]?=some (.sq tp xs))(hk:k tp xs):Wq ss (BL i) k:=x8 (ZI h hk)
theorem Zm {f:Int->Int->Int}(h:Wp ss ta fun x=>∃ i,x=.int i/\Wp ss tb fun y=>∃ j,y=.int j/\k (.int (f i j))):Wp ss (Bx (GR fun i j=>.int (f i j)) ta tb) k:=⟨fun E σ F H Q S q=>
 h.go E σ F H _ S fun v p F1 H1 m1 r1 AJ=>by
  obtain ⟨i,e1,h2⟩:=AJ;subst e1;cases r1.inv;exact h2.go E σ F1 H1 _ m1.st fun v2 p2 F2 H2 m2 r2 DO=>by
   obtain ⟨j,e2,kk⟩:=DO;subst e2;cases r2.inv;exact ⟨i,j,rfl,rfl,q _ _ F2 H2 (m1.trans m2) (.int _) kk⟩⟩
theorem fJ {f:Int->Int->Bool}(h:Wp ss ta fun x=>∃ i,x=.int i/\Wp ss tb fun y=>∃ j,y=.int j/\k (.bl (f i j))):Wp ss (Bx (GR fun i j=>.bl (f i j)) ta tb) k:=⟨fun E σ F H Q S q=>
 h.go E σ F H _ S fun v p F1 H1 m1 r1 AJ=>by
  obtain ⟨i,e1,h2⟩:=AJ;subst e1;cases r1.inv;exact h2.go E σ F1 H1 _ m1.st fun v2 p2 F2 H2 m2 r2 DO=>by
   obtain ⟨j,e2,kk⟩:=DO;subst e2;cases r2.inv;exact ⟨i,j,rfl,rfl,q _ _ F2 H2 (m1.trans m2) (.bl _) kk⟩⟩
def alike:PV->PV->Bool
 | .int i,.int j=>decide (i=j)
 | .str i,.str j=>decide (i=j)
 | .bl i,.bl j=>decide (i=j)
 | .AB,.AB=>true
 | _,_=>false
def Hb (p q:PV):Bool:=flat p && flat q && OD (Fz.enc p) (Fz.enc q)
theorem U4 {q:PV}(h:Hb p q=true):decide (Fz.enc p=Fz.enc q)=alike p q:=by
 unfold Hb at h;rw [Dg,Dg] at h;obtain ⟨⟨h1,h2⟩,h3⟩:=h;cases p <;> first | exact Bool.noConfusion h1 | skip
 all_goals cases q <;> first | exact Bool.noConfusion h2 | exact Bool.noConfusion h3 | rfl | exact decide_eq_decide.mpr ⟨fun e=>by injection e,o7 _⟩
theorem ZC4 (h:Wp ss ta fun x=>Wp ss tb fun y=>Hb x y=true/\k (.bl (alike x y))):Wp ss (Bx Uk ta tb) k:=⟨fun E σ F H Q S q=>
 h.go E σ F H _ S fun v p F1 H1 m1 r1 h2=>h2.go E σ F1 H1 _ m1.st fun v2 p2 F2 H2 m2 r2 AJ=>by
  obtain ⟨sc,kk⟩:=AJ;have V5:=sc;unfold Hb at sc;rw [Dg,Dg] at sc;rw [r1.enc sc.1.1,r2.enc sc.1.2];refine ⟨sc.2,?_⟩;rw [U4 V5];exact q _ _ F2 H2 (m1.trans m2) (.bl _) kk⟩
theorem eO (h:Wp ss ta fun x=>Wp ss tb fun y=>Hb x y=true/\k (.bl (!alike x y))):Wp ss (Bx YR ta tb) k:=⟨fun E σ F H Q S q=>
 h.go E σ F H _ S fun v p F1 H1 m1 r1 h2=>h2.go E σ F1 H1 _ m1.st fun v2 p2 F2 H2 m2 r2 AJ=>by
  obtain ⟨sc,kk⟩:=AJ;have V5:=sc;unfold Hb at sc;rw [Dg,Dg] at sc;rw [r1.enc sc.1.1,r2.enc sc.1.2];refine ⟨sc.2,?_⟩;rw [U4 V5];exact q _ _ F2 H2 (m1.trans m2) (.bl _) kk⟩
theorem Pd (h:Wp ss ta fun x=>∃ c,x=.bl c/\if c=true then Wp ss tb k else k (.bl false)):Wp ss (UP ta tb) k:=⟨fun E σ F H Q S q=>
 h.go E σ F H _ S fun v p F1 H1 m1 r1 AJ=>by
  obtain ⟨c,e,h2⟩:=AJ;subst e;cases r1.inv;refine ⟨c,rfl,?_⟩;cases c with
  | true=>rw [jd rfl] at h2 ⊢;exact h2.go E σ F1 H1 _ m1.st fun v2 p2 F2 H2 m2 r2 kk=>q _ _ F2 H2 (m1.trans m2) r2 kk
  | false=>rw [jG (by decide)] at h2 ⊢;exact q _ _ F1 H1 m1 (.bl _) h2⟩
theorem dH (h:Wp ss ta fun x=>∃ c,x=.bl c/\k (.bl (!c))):Wp ss (Xa ta) k:=⟨fun E σ F H Q S q=>
 h.go E σ F H _ S fun v p F1 H1 m1 r1 AJ=>by obtain ⟨c,e,kk⟩:=AJ;subst e;cases r1.inv;exact ⟨c,rfl,q _ _ F1 H1 m1 (.bl _) kk⟩⟩
theorem SQ {k:Bool->Prop}(h:Wp ss te fun x=>∃ c,x=.bl c/\k c):Wt ss (Ki te) k:=⟨fun E σ F H Q S q=>
 h.go E σ F H _ S fun v p F1 H1 m1 r1 AJ=>by obtain ⟨c,e,kk⟩:=AJ;subst e;cases r1.inv;exact ⟨c,rfl,q _ F1 H1 m1 kk⟩⟩
theorem Gm {k:Bool->Prop}(h:Wp ss te fun x=>∃ c,x=.bl c/\k c):Wt ss (tB te) k:=⟨fun E σ F H Q S q=>
 h.go E σ F H _ S fun v p F1 H1 m1 r1 AJ=>by obtain ⟨c,e,kk⟩:=AJ;subst e;cases r1.inv;exact ⟨c,rfl,q _ F1 H1 m1 kk⟩⟩
theorem rd {k:Bool->Prop}(h:k true):Wt ss J6 k:=⟨fun E σ F H Q S q=>q _ F H (.refl S) h⟩
theorem IQ {t:TT}{k:Bool->Prop}(h:Wt ss t fun c=>k (!c)):Wt ss (Lv t) k:=⟨fun E σ F H Q S q=>h.go E σ F H _ S fun c F1 H1 m1 kk=>q _ F1 H1 m1 kk⟩
theorem nX {t u:TT}{k:Bool->Prop}(h:Wt ss t fun c=>if c=true then Wt ss u k else k false):Wt ss (Tp t u) k:=⟨fun E σ F H Q S q=>
 h.go E σ F H _ S fun c F1 H1 m1 h2=>by
  show if c=true then _ else _
  cases c with
  | true=>rw [jd rfl] at h2 ⊢;exact h2.go E σ F1 H1 _ m1.st fun c2 F2 H2 m2 kk=>q _ F2 H2 (m1.trans m2) kk
  | false=>rw [jG (by decide)] at h2 ⊢;exact q _ F1 H1 m1 h2⟩
theorem MS {t u:TT}{k:Bool->Prop}(h:Wt ss t fun c=>if c=true then k true else Wt ss u k):Wt ss (VD t u) k:=⟨fun E σ F H Q S q=>
 h.go E σ F H _ S fun c F1 H1 m1 h2=>by
  show if c=true then _ else _
  cases c with
  | true=>rw [jd rfl] at h2 ⊢;exact q _ F1 H1 m1 h2
  | false=>rw [jG (by decide)] at h2 ⊢;exact h2.go E σ F1 H1 _ m1.st fun c2 F2 H2 m2 kk=>q _ F2 H2 (m1.trans m2) kk⟩
end
structure We [Xw] (ss:List Slot) (t:TA) (k:List PV->Prop):Prop where
 go:∀ (E:Ent) (σ:L2.St) (F H:Hp) (Q:List V->Hp->Prop),Sg E ss σ F H->(∀ vs ps F' H',Mv E ss σ F H F' H'->AM F' vs ps->k ps->Q vs H')->t σ H Q
structure Wo [Xw] (ss:List Slot) (t:TO) (k:Option Int->Prop):Prop where
 go:∀ (E:Ent) (σ:L2.St) (F H:Hp) (Q:Option Int->Hp->Prop),Sg E ss σ F H->(∀ o F' H',Mv E ss σ F H F' H'->k o->Q o H')->t σ H Q
section
variable [Xw]
variable {K:ZE5}{k:PV->Prop}{R:Aq}
theorem W3 {k:List PV->Prop}(h:k []):We ss B5 k:=⟨fun E σ F H Q S q=>q _ _ F H (.refl S) .nil h⟩
theorem Ma {k:List PV->Prop}(h:Wp ss te fun p=>We ss t fun ps=>k (p::ps)):We ss (AV te t) k:=⟨fun E σ F H Q S q=>
 h.go E σ F H _ S fun v p F1 H1 m1 r1 h2=>h2.go E σ F1 H1 _ m1.st fun vs ps F2 H2 m2 r2 kk=>q _ _ F2 H2 (m1.trans m2) (.cons (r1.mono m2.ff) r2) kk⟩
theorem Ef {k:List Slot->Prop}(h:k []):Wa ss B5 k:=⟨fun E σ F H Q S q=>q _ _ F H (.refl S) .nil h⟩
theorem IS {k:List Slot->Prop}(h:Wp ss te fun p=>Wa ss t fun l=>k (.is p::l)):Wa ss (AV te t) k:=⟨fun E σ F H Q S q=>
 h.go E σ F H _ S fun v p F1 H1 m1 r1 h2=>h2.go E σ F1 H1 _ m1.st fun vs l F2 H2 m2 r2 kk=>q _ _ F2 H2 (m1.trans m2) (.cons (s:=.is p) (r1.mono m2.ff) r2) kk⟩
theorem SX {k:List Slot->Prop}(h:Wq ss te fun tp xs=>Wa ss t fun l=>k (.sq tp xs::l)):Wa ss (AV te t) k:=⟨fun E σ F H Q S q=>
 h.go E σ F H _ S fun v tp xs F1 H1 m1 r1 h2=>h2.go E σ F1 H1 _ m1.st fun vs l F2 H2 m2 r2 kk=>q _ _ F2 H2 (m1.trans m2) (.cons (s:=.sq tp xs) (r1.mv m2) r2) kk⟩
theorem ZAn {k:Option Int->Prop}(h:k none):Wo ss RW k:=⟨fun E σ F H Q S q=>q _ F H (.refl S) h⟩
theorem jT {k:Option Int->Prop}(h:Wp ss te fun p=>∃ i,p=.int i/\k (some i)):Wo ss (XW te) k:=⟨fun E σ F H Q S q=>
 h.go E σ F H _ S fun v p F1 H1 m1 r1 AJ=>by obtain ⟨i,e,kk⟩:=AJ;subst e;cases r1.inv;exact ⟨i,rfl,q _ F1 H1 m1 kk⟩⟩
theorem LZ {n:Nat}(h:n<=99999):n<sizeLine:=D5 (Nat.lt_succ_of_le h) (small (Ao 100000))
theorem SS (h:We ss t fun ps=>ps.length<=100000/\k (.tup ps)):Wp ss (PK t) k:=⟨fun E σ F H Q S q=>
 h.go E σ F H _ S fun vs ps F1 H1 m1 r1 AJ=>by obtain ⟨hz,kk⟩:=AJ;exact ⟨small (by rw [r1.length];exact hz),fun a ha=>by
  have m2:=m1.st.alloc ha (.tup vs);exact q _ _ _ _ (m1.trans m2) (.tup AE (r1.mono m2.ff)) kk⟩⟩
theorem qu {k:List PV->Prop}(h:We ss t fun ps=>ps.length<=100000/\k ps):Wn ss (Qa t) k:=⟨fun E σ F H Q S q=>
 h.go E σ F H _ S fun vs ps F1 H1 m1 r1 AJ=>by obtain ⟨hz,kk⟩:=AJ;exact ⟨small (by rw [r1.length];exact hz),fun a ha=>by
  have m2:=m1.st.make ha (.lst vs);refine q a vs ps F1 _ (m1.trans m2) (m1.st.BH ha) ?_ AE r1 kk;cases e:H a with
  | none=>rfl
  | some o=>rw [m1.hh a o (m1.st.J2 ha) e] at ha;cases ha⟩⟩
theorem TZ (h:Wq ss te fun _ xs=>k (.int xs.length)):Wp ss (Ck (Rh K) (AV te B5)) k:=⟨fun E σ F H Q S q=>
 h.go E σ F H _ S fun v tp xs F1 H1 m1 sv kk=>by
  obtain ⟨l,vs,rfl,hl,r⟩:=sv.seq m1.st;refine ⟨l,vs,rfl,(BM.sq (K:=K) hl).or,?_⟩;rw [r.length];exact q _ _ F1 H1 m1 (.int _) kk⟩
theorem AM.Be {i:Int}(r:AM F vs xs)(h:L2.Be xs i=some p):∃ u,L2.Be vs i=some u/\Rep F u p:=by
 unfold L2.Be at h ⊢;rw [r.length];cases e:FP xs.length i with
 | none=>rw [e] at h;cases h
 | some j=>
  rw [e] at h;exact r.get h
theorem kE (h:Wq ss ta fun tp xs=>tp=false/\Wp ss tb fun y=>∃ i p,y=.int i/\L2.Be xs i=some p/\k p):Wp ss (Bx (PX K) ta tb) k:=⟨fun E σ F H Q S q=>
 h.go E σ F H _ S fun v tp xs F1 H1 m1 sv ⟨et,h2⟩=>h2.go E σ F1 H1 _ m1.st fun v2 p2 F2 H2 m2 r2 ⟨i,p,e,ha,kk⟩=>by
  subst e;cases r2.inv;subst et;obtain ⟨l,vs,rfl,hl,r⟩:=(sv.mv m2).seq m2.st;obtain ⟨u,hu,ru⟩:=r.Be ha;exact ⟨l,vs,i,u,rfl,rfl,AF.of hl,hu,q _ _ F2 H2 (m1.trans m2) ru kk⟩⟩
theorem Su (h:Wq ss ta fun tp xs=>tp=true/\Wp ss tb fun y=>∃ i p,y=.int i/\L2.Be xs i=some p/\k p):Wp ss (Bx (Gf K) ta tb) k:=⟨fun E σ F H Q S q=>
 h.go E σ F H _ S fun v tp xs F1 H1 m1 sv ⟨et,h2⟩=>h2.go E σ F1 H1 _ m1.st fun v2 p2 F2 H2 m2 r2 ⟨i,p,e,ha,kk⟩=>by
  subst e;cases r2.inv;subst et;obtain ⟨l,vs,rfl,hl,r⟩:=(sv.mv m2).seq m2.st;obtain ⟨u,hu,ru⟩:=r.Be ha;exact ⟨l,vs,i,u,rfl,rfl,AA.of hl,hu,q _ _ F2 H2 (m1.trans m2) ru kk⟩⟩
theorem ZAB (h:Wp ss ta fun p=>∃ x,p=.str x/\Wq ss tb fun _ ys=>∃ ns:List Str,ys=ns.map PV.str/\k (.bl (if neg then !decide (x∈ns) else decide (x∈ns)))):Wp ss (Bx (K6 K neg) ta tb) k:=⟨fun E σ F H Q S q=>
 h.go E σ F H _ S fun v p F1 H1 m1 r1 AJ=>by
  obtain ⟨x,e,h2⟩:=AJ;subst e;cases r1.inv;exact h2.go E σ F1 H1 _ m1.st fun v2 tp ys F2 H2 m2 sv DO=>by
   obtain ⟨ns,e2,kk⟩:=DO;subst e2;obtain ⟨l,vs,rfl,hl,r⟩:=sv.seq m2.st;rw [r.strs] at hl;refine ⟨l,_,rfl,(BM.sq (K:=K) hl).or,rfl,Dr ns,?_⟩;rw [IB];exact q _ _ F2 H2 (m1.trans m2) (.bl _) kk⟩
theorem WS {k:List PV->Prop}(hr:r=fun xs H Q=>∃ p ys,xs=[.ref p]/\(AF K H p ys∨AA K H p ys)/\∀ l,H l=none->Q (.ref l) (upd H l (.lst ys)))(h:Wq ss te fun _ xs=>k xs):Wn ss (Ck r (AV te B5)) k:=⟨fun E σ F H Q S q=>
 h.go E σ F H _ S fun v tp xs F1 H1 m1 sv kk=>by
  subst hr;obtain ⟨l,vs,rfl,hl,r⟩:=sv.seq m1.st;refine ⟨l,vs,rfl,(BM.sq (K:=K) hl).or,fun a ha=>?_⟩;have m2:=m1.st.make ha (.lst vs);exact q a vs xs F1 _ (m1.trans m2) (m1.st.BH ha) (m1.none ha) AE r kk⟩
theorem oW (hr:r=fun xs H Q=>∃ p ys,xs=[.ref p]/\((AF K H p ys/\∀ l,H l=none->Q (.ref l) (upd H l (.tup ys)))∨(AA K H p ys/\Q (.ref p) H)))(h:Wq ss te fun _ xs=>k (.tup xs)):Wp ss (Ck r (AV te B5)) k:=⟨fun E σ F H Q S q=>
 h.go E σ F H _ S fun v tp xs F1 H1 m1 sv kk=>by
  subst hr;cases tp with
  | false=>
   obtain ⟨l,vs,rfl,hl,r⟩:=sv.seq m1.st;refine ⟨l,vs,rfl,.inl ⟨AF.of hl,fun a ha=>?_⟩⟩;have m2:=m1.st.alloc ha (.tup vs);exact q _ _ _ _ (m1.trans m2) (.tup AE (r.mono m2.ff)) kk
  | true=>
   have me:Rep F1 v (.tup xs):=sv;cases me with
   | tup e r=>exact ⟨_,_,rfl,.inr ⟨AA.of (m1.st.fh _ _ e),q _ _ F1 H1 m1 (.tup e r) kk⟩⟩⟩
def IJ {α:Type}(xs:List α)(lo hi:Option Int):List α:=(xs.drop (HT.Ae xs.length 0 lo)).take (HT.Ae xs.length xs.length hi - HT.Ae xs.length 0 lo)
theorem AM.cut (r:AM F vs xs)(lo hi:Option Int):AM F (C7 vs lo hi) (IJ xs lo hi):=by
 unfold C7 IJ;rw [r.length];exact (r.drop _).take _
theorem yl {k:List PV->Prop}{tl th:TO}(h:Wq ss te fun tp xs=>tp=false/\Wo ss tl fun lo=>Wo ss th fun hi=>k (IJ xs lo hi)):Wn ss (Wf (d8 K) te tl th) k:=⟨fun E σ F H Q S q=>
 h.go E σ F H _ S fun v tp xs F1 H1 m1 sv ⟨et,h2⟩=>h2.go E σ F1 H1 _ m1.st fun lo F2 H2 m2 h3=>h3.go E σ F2 H2 _ m2.st fun hi F3 H3 m3 kk=>by
  subst et;obtain ⟨l,vs,rfl,hl,r⟩:=(sv.mv (m2.trans m3)).seq m3.st;refine ⟨l,vs,rfl,AF.of hl,fun a ha=>?_⟩;have m4:=m3.st.make ha (.lst (C7 vs lo hi));exact q a _ _ F3 _ (m1.trans (m2.trans (m3.trans m4))) (m3.st.BH ha) ((m1.trans (m2.trans m3)).none ha) AE (r.cut lo hi) kk⟩
def sZ (tp:Bool)(xs:List PV):PV:=if tp then .tup xs else .lst xs
theorem xa {k:List PV->Prop}(h:Wq ss te fun _ xs=>∃ ns:List Str,xs=ns.map PV.str/\ns.length<64/\∀ B7:List Str,B7.Perm ns->sortedS B7=true->k (B7.map PV.str)):Wn ss (Ck (Yv K) (AV te B5)) k:=⟨fun E σ F H Q S q=>
 h.go E σ F H _ S fun v tp xs F1 H1 m1 sv AJ=>by
  obtain ⟨ns,e,hz,kk⟩:=AJ;subst e;obtain ⟨l,vs,rfl,hl,r⟩:=sv.seq m1.st;rw [r.strs] at hl;refine ⟨l,tp,ns,rfl,BM.sq hl,hz,fun a B7 ha hp hs=>?_⟩;have m2:=m1.st.make ha (.lst (B7.map V.str));exact q a _ _ F1 _ (m1.trans m2) (m1.st.BH ha) (m1.none ha) AE (Jb B7) (kk B7 hp hs)⟩
theorem si (xs ys:List Str):DW (xs.map V.str) (ys.map V.str)=decide (xs=ys):=by
 by_cases h:xs=ys
 ·subst h;rw [oI,jO rfl]
 ·rw [jx h]
  by_cases hl:xs.length=ys.length
  ·rw [J8 (by simpa using hl)]
   cases c:(List.range (xs.map V.str).length).all fun j=>Df ((xs.map V.str).getD j .AB) ((ys.map V.str).getD j .AB) with
   | false=>rfl
   | true=>
    exfalso;apply h;apply iR hl;intro j h1 h2;have q:=List.all_eq_true.mp c j (List.mem_range.mpr (by simpa using h1))
    have e1:(xs.map V.str)[j]?=some (.str xs[j]):=by rw [Ax,BE h1];rfl
    have e2:(ys.map V.str)[j]?=some (.str ys[j]):=by rw [Ax,BE h2];rfl
    rw [IP e1,IP e2] at q;have q':(xs[j] == ys[j])=true:=q
    simpa using q'
  ·rw [Ju (by simpa using hl)]
theorem ZG (h:Wq ss ta fun tp xs=>∃ ns:List Str,xs=ns.map PV.str/\Wq ss tb fun CM ys=>CM=tp/\∃ ms:List Str,ys=ms.map PV.str/\k (.bl (if neg then !decide (ns=ms) else decide (ns=ms)))):Wp ss (Bx (MF K neg) ta tb) k:=⟨fun E σ F H Q S q=>
 h.go E σ F H _ S fun v tp xs F1 H1 m1 sv ⟨ns,e1,h2⟩=>h2.go E σ F1 H1 _ m1.st fun v2 CM ys F2 H2 m2 zh ⟨et,ms,e2,kk⟩=>by
  subst e1;subst e2;subst et;obtain ⟨l,vs,rfl,hl,r⟩:=(sv.mv m2).seq m2.st;obtain ⟨l2,V2,rfl,D9,r2⟩:=zh.seq m2.st;rw [r.strs] at hl;rw [r2.strs] at D9;refine ⟨l,l2,ns.map V.str,ms.map V.str,rfl,rfl,?_,Dr _,Dr _,?_⟩
  ·cases CM
   ·exact .inl ⟨AF.of hl,AF.of D9⟩
   ·exact .inr ⟨AA.of hl,AA.of D9⟩
  ·rw [si];cases neg
   ·exact q _ _ F2 H2 (m1.trans m2) (.bl _) kk
   ·exact q _ _ F2 H2 (m1.trans m2) (.bl _) kk⟩
theorem du (hr:r=fun xs H Q=>∃ (p:Addr) (bs:List Bool),xs=[.ref p]/\AF K H p (bs.map V.bl)/\Q (.bl (bs.all id)) H)(h:Wq ss te fun tp xs=>tp=false/\∃ bs:List Bool,xs=bs.map PV.bl/\k (.bl (bs.all id))):Wp ss (Ck r (AV te B5)) k:=⟨fun E σ F H Q S q=>
 h.go E σ F H _ S fun v tp xs F1 H1 m1 sv AJ=>by
  obtain ⟨et,bs,e,kk⟩:=AJ;subst hr;subst e;subst et;obtain ⟨l,vs,rfl,hl,r⟩:=sv.seq m1.st;rw [r.bls] at hl;exact ⟨l,bs,rfl,AF.of hl,q _ _ F1 H1 m1 (.bl _) kk⟩⟩
def tyP:PV->String
 | .AB => "NoneType"
 | .bl _ => "bool"
 | .int _ => "int"
 | .str _ => "str"
 | .lst _ => "list"
 | .tup _ => "tuple"
 | .Am _ _ => "dict"
 | _ => ""
def L7:PV->Value
 | .obj _ _ _=>.none
 | .exc _ _ _=>.none
 | .con _ _=>.none
 | p=>.type (tyP p)
theorem R6 (h:PySem.W.kitOne K .none (.type n)=some b):False:=by
 unfold PySem.W.kitOne PySem.W.kitCls PySem.W.subIn at h;simp at h
theorem Rep.ZCS (s:A7 F H)(r:Rep F v p)(hb:PySem.W.kitOne K (L7 p) (.type n)=some b):EM K H v (L7 p):=by
 cases r with
 | AB=>exact .AB
 | bl b=>exact .bl b
 | int i=>exact .int i
 | str x=>exact .str x
 | lst h _=>exact .lst (s _ _ h)
 | tup h _=>exact .tup (s _ _ h)
 | Am h _ _=>exact .dK (s _ _ h)
 | obj _ _ _ _=>exact (R6 hb).elim
 | NC _=>exact (R6 hb).elim
 | con=>exact (R6 hb).elim
 | exc _ _ _ _=>exact (R6 hb).elim
theorem LU (h:Wp ss te fun p=>∃ b,PySem.W.kitOne K (L7 p) (.type n)=some b/\k (.bl b)):Wp ss (Ck (QY K) (AV te (AV (tC (.ty n)) B5))) k:=⟨fun E σ F H Q S q=>
 h.go E σ F H _ S fun v p F1 H1 m1 r AJ=>by obtain ⟨b,hb,kk⟩:=AJ;exact ⟨v,n,_,b,rfl,r.ZCS m1.st.fh hb,hb,q _ _ F1 H1 m1 (.bl _) kk⟩⟩
theorem vf (h:Wq ss te fun tp xs=>∃ b,PySem.W.kitOne K (.type (tyP (sZ tp xs))) (.type n)=some b/\k (.bl b)):Wp ss (Ck (QY K) (AV te (AV (tC (.ty n)) B5))) k:=⟨fun E σ F H Q S q=>
 h.go E σ F H _ S fun v tp xs F1 H1 m1 sv AJ=>by
  obtain ⟨b,hb,kk⟩:=AJ;obtain ⟨l,vs,rfl,hl,r⟩:=sv.seq m1.st;refine ⟨_,n,_,b,rfl,?_,hb,q _ _ F1 H1 m1 (.bl _) kk⟩;cases tp
  ·exact .lst hl
  ·exact .tup hl⟩
theorem nq (hr:r=fun xs H Q=>∃ i j,xs=[.int i,.int j]/\Q (.int (if j > i then j else i)) H)(h:Wp ss ta fun x=>∃ i,x=.int i/\Wp ss tb fun y=>∃ j,y=.int j/\k (.int (if j > i then j else i))):Wp ss (Ck r (AV ta (AV tb B5))) k:=⟨fun E σ F H Q S q=>
 h.go E σ F H _ S fun v p F1 H1 m1 r1 AJ=>by
  obtain ⟨i,e1,h2⟩:=AJ;subst hr;subst e1;cases r1.inv;exact h2.go E σ F1 H1 _ m1.st fun v2 p2 F2 H2 m2 r2 DO=>by
   obtain ⟨j,e2,kk⟩:=DO;subst e2;cases r2.inv;exact ⟨i,j,rfl,q _ _ F2 H2 (m1.trans m2) (.int _) kk⟩⟩
theorem xU (hr:r=fun xs H Q=>∃ i j,xs=[.int i,.int j]/\Q (.int (if j<i then j else i)) H)(h:Wp ss ta fun x=>∃ i,x=.int i/\Wp ss tb fun y=>∃ j,y=.int j/\k (.int (if j<i then j else i))):Wp ss (Ck r (AV ta (AV tb B5))) k:=⟨fun E σ F H Q S q=>
 h.go E σ F H _ S fun v p F1 H1 m1 r1 AJ=>by
  obtain ⟨i,e1,h2⟩:=AJ;subst hr;subst e1;cases r1.inv;exact h2.go E σ F1 H1 _ m1.st fun v2 p2 F2 H2 m2 r2 DO=>by
   obtain ⟨j,e2,kk⟩:=DO;subst e2;cases r2.inv;exact ⟨i,j,rfl,q _ _ F2 H2 (m1.trans m2) (.int _) kk⟩⟩
end
structure Src (E:Ent0) (F1:Hp) (J:It) (xs:List PV):Prop where
 go:∀ (ss:List Slot) (σ:L2.St) (F H:Hp) (i:Nat),A7 F1 F->Sg E ss σ F H->i<xs.length->J.go i H
 stop:∀ (ss:List Slot) (σ:L2.St) (F H:Hp),A7 F1 F->Sg E ss σ F H->J.stop xs.length H
 Fe:∀ (ss:List Slot) (σ:L2.St) (F H:Hp) (i:Nat) (x:V) (H':Hp),A7 F1 F->Sg E ss σ F H->i<xs.length->J.Fe i H x H'->∃ p F',xs[i]?=some p/\Mv E ss σ F H F' H'/\Rep F' x p
structure Wi [Xw] (ss:List Slot) (wi:TI) (k:List PV->Prop):Prop where
 go:∀ (E:Ent) (σ:L2.St) (F H:Hp) (R:It->Hp->Prop),Sg E ss σ F H->(∀ J xs F' H',Mv E ss σ F H F' H'->Src E F' J xs->k xs->R J H')->wi σ H R
structure Wg [Xw] (ss:List Slot) (g:TG) (p:PV) (k:List Slot->Prop):Prop where
 go:∀ (E:Ent) (σ:L2.St) (F H:Hp) (v:V) (Q:L2.St->Hp->Prop),Sg E ss σ F H->Rep F v p->(∀ AK σ',k AK->Sg E AK σ' F H->Q σ' H)->g v σ H Q
section
variable [Xw]
variable {K:ZE5}{k:PV->Prop}{R:Aq}
theorem fR (h:∀ (ss:List Slot) (σ:L2.St) (F H:Hp),A7 F' F->Sg E ss σ F H->H l=some (BM tp vs))(r:AM F' vs xs):Src E F' (Mt K tp l vs) xs where
 go:=fun ss σ F H i s S hi=>⟨BM.sq (h ss σ F H s S),by rw [r.length];exact hi⟩
 stop:=fun ss σ F H s S=>⟨BM.sq (h ss σ F H s S),by rw [r.length];exact Ao _⟩
 Fe:=fun ss σ F H i x H' s S hi y=>by
  obtain ⟨e,hx⟩:=y;subst e;obtain ⟨p,hp,rp⟩:=r.get' hx;exact ⟨p,F,hp,.refl S,rp.mono s⟩
theorem P9 {k:List PV->Prop}(h:Wz ss te fun _ xs=>k xs):Wi ss (Qf K te) k:=⟨fun E σ F H R S q=>
 h.go E σ F H _ S fun v tp xs F1 H1 m1 f kk=>by
  cases tp with
  | true=>
   have f':Rep F1 v (.tup xs):=f;cases f' with
   | tup e r=>exact ⟨true,_,_,rfl,AA.of (m1.st.fh _ _ e),q _ _ F1 H1 m1 (fR (tp:=true) (fun ss σ F H s S=>S.fh _ _ (s _ _ e)) r) kk⟩
  | false=>
   obtain ⟨l,vs,rfl,h1,r⟩:=f;have hl:∀ (ss:List Slot) (σ:L2.St) (F H:Hp),A7 F1 F->Sg E ss σ F H->H l=some (.lst vs):=fun ss σ F H s S=>by
    rcases h1 with h1 | ⟨hA,h1⟩
    ·exact S.fh _ _ (s _ _ h1)
    ·exact S.keep _ _ hA h1
   exact ⟨false,l,vs,rfl,AF.of (hl ss σ F1 H1 (A7.refl _) m1.st),q _ _ F1 H1 m1 (fR (tp:=false) hl r) kk⟩⟩
def JH (n:Nat):List PV:=(List.range n).map fun i:Nat=>PV.int (i:Int)
theorem NN (n:Nat):(JH n).length=n:=by simp [JH]
theorem cw {n:Nat}(h:(JH n)[i]?=some p):i<n/\p=.int (i:Int):=by
 have hi:i<n:=by have:=(List.getElem?_eq_some_iff.mp h).1;rwa [NN] at this
 unfold JH at h;rw [Ax,RH hi] at h;exact ⟨hi,(BO h).symm⟩
theorem rT {k:List PV->Prop}(h:Wp ss te fun p=>∃ j:Int,p=.int j/\j<=1000000/\-1000000<=j/\k (JH j.toNat)):Wi ss (Ul (AV te B5)) k:=⟨fun E σ F H R S q=>
 h.go E σ F H _ S fun v p F1 H1 m1 r AJ=>by
  obtain ⟨j,e,h1,h2,kk⟩:=AJ;subst e;cases r.inv;refine ⟨j,rfl,by omega,by omega,q _ (JH j.toNat) F1 H1 m1 ⟨fun ss σ F H i s S hi=>?_,fun ss σ F H s S=>?_,fun ss σ F H i x H' s S hi y=>?_⟩ kk⟩
  ·rw [NN] at hi;exact hi
  ·show _<=_;rw [NN];exact Ao _
  ·obtain ⟨e,hx⟩:=y;subst e;subst hx;rw [NN] at hi;refine ⟨.int (i:Int),F,?_,.refl S,?_⟩
   ·unfold JH;rw [Ax,RH hi];rfl
   ·rw [Int.zero_add];exact .int _⟩
theorem Kn {k:List Slot->Prop}(h:k (ss.set j (.is p))):Wg ss (D1 j) p k:=⟨fun E σ F H v Q S r q=>q _ _ h (S.LO r)⟩
theorem gQ {k:List Slot->Prop}(h:∃ a b,p=.tup [a,b]/\k ((ss.set i (.is a)).set j (.is b))):Wg ss (P8 K 2 (Jj (D1 i) (Jj (D1 j) Qq))) p k:=⟨fun E σ F H v Q S r q=>by
 obtain ⟨a,b,rfl,kk⟩:=h;obtain ⟨_,_,rfl,e,r⟩:=r.inv;obtain ⟨_,_,rfl,r1,r⟩:=r.inv;obtain ⟨_,_,rfl,r2,r⟩:=r.inv;obtain rfl:=r.M6;exact ⟨_,_,rfl,AA.of (S.fh _ _ e),rfl,_,_,rfl,_,_,rfl,rfl,q _ _ kk ((S.LO r1).LO r2)⟩⟩
theorem BI {t:TS}(h:Ws ss t (fun AK=>Ws AK u nx R) R):Ws ss (MX t u) nx R:=⟨fun E D σ F H S hn hr=>
 h.go E { D with nx:=u D } σ F H S (fun AK σ' F' H' w S' s=>w.go E D σ' F' H' S' (fun EY σ2 F2 H2 n2 S2 s2=>hn EY σ2 F2 H2 n2 S2 (s.trans s2)) hr) hr⟩
theorem Js {t:TS}(h:Ws ss t nx R):Ws ss (Vg t) nx R:=⟨fun E D σ F H S hn hr=>⟨D.nx,h.go E { D with nx:=D.nx } σ F H S hn hr,fun _ _ q=>q⟩⟩
theorem Ws.mono {t:TS}(h:Ws ss t nx R)(i:∀ s,nx s->Hh s):Ws ss t Hh R:=⟨fun E D σ F H S hn hr=>h.go E D σ F H S (fun AK σ' F' H' n=>hn AK σ' F' H' (i _ n)) hr⟩
theorem ZAO {t:TS}(J:List Slot->Prop)(h:Ws ss t J R)(h2:∀ AK,J AK->Ws AK u nx R):Ws ss (MX t u) nx R:=BI (h.mono h2)
theorem PR (h:Wp ss te fun p=>nx (ss.set i (.is p))):Ws ss (EX te (D1 i)) nx R:=⟨fun E D σ F H S hn hr=>
 h.go E σ F H _ S fun v p F1 H1 m1 r kk=>hn _ _ F1 H1 kk (m1.st.LO r) m1.ff⟩
theorem ZAa (h:Wp ss te fun p=>Wg ss g p nx):Ws ss (EX te g) nx R:=⟨fun E D σ F H S hn hr=>
 h.go E σ F H _ S fun v p F1 H1 m1 r kk=>kk.go E σ F1 H1 v _ m1.st r fun AK σ' n S'=>hn _ _ F1 H1 n S' m1.ff⟩
theorem N7 (h:Wn ss te fun xs=>nx (ss.set i (.own xs))):Ws ss (EX te (D1 i)) nx R:=⟨fun E D σ F H S hn hr=>
 h.go E σ F H _ S fun l vs xs F1 H1 m1 fl hl Ew r kk=>hn _ _ F1 H1 kk (m1.st.setG ⟨l,vs,rfl,fl,S.D6 hl,Ew,r⟩ fun l' e j u _ hu mu=>by cases e;exact S.Mi hu hl mu) m1.ff⟩
theorem MC (h:Wp ss te k):Ws ss (Gu te) nx (.is k):=⟨fun E D σ F H S hn hr=>
 h.go E σ F H _ S fun v p F1 H1 m1 r kk=>hr v F1 H1 m1.st.toFin ⟨p,r,kk⟩⟩
theorem RU {k:List PV->Prop}(h:Wn ss te k):Ws ss (Gu te) nx (.new k):=⟨fun E D σ F H S hn hr=>
 h.go E σ F H _ S fun l vs xs F1 H1 m1 fl hl Ew r kk=>hr _ F1 H1 m1.st.toFin ⟨l,vs,xs,rfl,fl,S.D6 hl,Ew,r,kk⟩⟩
theorem HA {c:TT}{t:TS}(h:Wt ss c fun b=>if b=true then Ws ss t nx R else Ws ss u nx R):Ws ss (MU c t u) nx R:=⟨fun E D σ F H S hn hr=>
 h.go E σ F H _ S fun b F1 H1 m1 w=>by
  show if b=true then _ else _
  cases b with
  | true=>rw [jd rfl] at w ⊢;exact w.go E D σ F1 H1 m1.st (fun EY σ2 F2 H2 n S2 s2=>hn EY σ2 F2 H2 n S2 (m1.ff.trans s2)) hr
  | false=>rw [jG (by decide)] at w ⊢;exact w.go E D σ F1 H1 m1.st (fun EY σ2 F2 H2 n S2 s2=>hn EY σ2 F2 H2 n S2 (m1.ff.trans s2)) hr⟩
theorem Dw (h:nx ss):Ws ss Rz nx R:=⟨fun E D σ F H S hn hr=>hn ss σ F H h S (A7.refl _)⟩
theorem SV (h:Wp ss te fun _=>nx ss):Ws ss (LH te) nx R:=⟨fun E D σ F H S hn hr=>
 h.go E σ F H _ S fun v p F1 H1 m1 r kk=>hn ss σ F1 H1 kk m1.st m1.ff⟩
theorem Sg.drop (S:Sg E ss σ F H)(i:Nat):Sg E (ss.set i .any) σ F H:=by
 have GA:∀ (j:Nat) u,(ss.set i .any)[j]?=some u->u=.any∨ss[j]?=some u:=fun j u hj=>by
  by_cases q:j=i
  ·subst q;have AQ:j<ss.length:=by have:=(List.getElem?_eq_some_iff.mp hj).1;simpa using this
   rw [CZ AQ] at hj;exact .inl (BO hj).symm
  ·rw [CQ (BS q)] at hj;exact .inr hj
 refine ⟨S.toFin,by rw [Fp];exact S.len,fun j u hj=>?_,fun j k u w l Oc hj hk mu mw=>?_⟩
 ·rcases GA j u hj with rfl | h
  ·trivial
  ·exact S.ok j u h
 ·rcases GA j u hj with rfl | h
  ·cases mu
  ·rcases GA k w hk with rfl | h2
   ·cases mw
   ·exact S.BP j k u w l Oc h h2 mu mw
theorem T8 (e:σ[i]?=some (some v)):σ.set i (some v)=σ:=by
 apply iS;intro j
 by_cases q:j=i
 ·subst q;rw [CZ (List.getElem?_eq_some_iff.mp e).1,e]
 ·rw [CQ (BS q)]
theorem Sg.Px (S:Sg E ss σ F H)(fa:F a=none)(h0:E.H0 a=none∨a∈E.B)(hn:∀ (i:Nat) s,ss[i]?=some s->¬ B9 s σ[i]? a):Sg E ss σ F (upd H a o):=by
 have hb:∀ b u,b≠a->H b=some u->upd H a o b=some u:=fun b u h e=>by rw [AX h];exact e
 refine ⟨⟨fun b u e=>?_,S.f0,fun b u hA e=>?_,S.fresh,fun b hA=>?_,S.K7,S.a0,S.bF,fun b hB=>?_,S.b0⟩,S.len,fun i s hi=>?_,S.BP⟩
 ·exact hb b u (DX e fa) (S.fh b u e)
 ·refine hb b u ?_ (S.keep b u hA e);rintro rfl;rcases h0 with h0 | h0
  ·rw [h0] at e;cases e
  ·exact hA.2 h0
 ·refine BR.keep (S.CT b hA) fun u e=>hb b u ?_ e;rintro rfl;rcases h0 with h0 | h0
  ·exact S.a0 _ hA h0
  ·exact (S.b0 _ h0).2 hA
 ·by_cases q:b=a
  ·subst q;rw [AE];simp
  ·rw [AX q];exact S.bH b hB
 ·by_cases np:s=.AD
  ·subst np;obtain ⟨l,e,e1,e2,e3⟩:=S.ok i _ hi;exact ⟨l,e,e1,e2,BR.keep e3 fun u h=>hb l u (by rintro rfl;exact hn i _ hi e) h⟩
  ·exact Ok.go S hi (A7.refl _) (fun b u m h=>hb b u (by rintro rfl;exact hn i _ hi m) h) (fun _ _ h=>h) np
theorem Sg.put (S:Sg E ss σ F H){ys:List PV}(hi:ss[i]?=some (.own xs))(e:σ[i]?=some (some (.ref l)))(fl:F l=none)(h0:E.H0 l=none)(r:AM F C3 ys):Sg E (ss.set i (.own ys)) σ F (upd H l (.lst C3)):=by
 have ne1:∀ (j:Nat) s,(ss.set i .any)[j]?=some s->¬ B9 s σ[j]? l:=fun j s hj mj=>by
  by_cases q:j=i
  ·subst q;have AQ:j<ss.length:=(List.getElem?_eq_some_iff.mp hi).1;rw [CZ AQ] at hj;cases hj;cases mj
  ·rw [CQ (BS q)] at hj;exact S.BP j i s _ l q hj hi mj e
 have S2:=(S.drop i).Px (o:=.lst C3) fl (.inl h0) ne1;have S3:=S2.setG (j:=i) (s:=.own ys) (v:=.ref l) ⟨l,C3,rfl,fl,h0,AE,r⟩ fun l' e' j u hj hu mu=>by cases e';exact ne1 j u hu mu
 rw [T8 e,ik] at S3;exact S3
theorem lP (hi:ss[i]?=some (.own xs))(h:Wp ss te fun p=>xs.length<=99999/\nx (ss.set i (.own (xs++[p])))):Ws ss (LH (Qg K "list" PM (BL i) (AV te B5))) nx R:=⟨fun E D σ F H S hn hr=>by
 obtain ⟨l,vs,e,e1,e2,e3,r⟩:=S.ok i _ hi;refine ⟨_,e,.inl ⟨rfl,_,AF.of e3⟩,h.go E σ F H _ S fun v p F1 H1 m1 rv ⟨hz,kk⟩=>?_⟩;obtain ⟨l',C3,e',E6,CB,RS,r'⟩:=m1.st.ok i _ hi;rw [e] at e';cases e';refine ⟨l,C3,v,rfl,rfl,RS,LZ (by rw [r'.length];exact hz),?_⟩;exact hn _ σ F1 _ kk (m1.st.put hi e E6 CB (r'.append (.one rv))) m1.ff⟩
def BQ (F H:Hp)(as:List Addr):Hp:=fun a=>if a∈as then H a else F a
theorem Sg.lay (S:Sg E ss σ F H)(as:List Addr)(h0:∀ a∈as,F a=none/\E.H0 a=none/\H a≠none)(hn:∀ a∈as,∀ (i:Nat) s,ss[i]?=some s->¬ B9 s σ[i]? a):Sg E ss σ (BQ F H as) H/\A7 F (BQ F H as):=by
 have Xd:∀ a,a∈as->BQ F H as a=H a:=fun a h=>jd h;have Q8:∀ a,a∉as->BQ F H as a=F a:=fun a h=>jG h;have ff:A7 F (BQ F H as):=fun a o e=>by
  by_cases q:a∈as
  ·rw [(h0 a q).1] at e;cases e
  ·rw [Q8 a q];exact e
 have nF:∀ a,a∉as->F a=none->BQ F H as a=none:=fun a q h=>by rw [Q8 a q];exact h
 refine ⟨⟨⟨fun a o e=>?_,S.f0.trans ff,S.keep,fun a o e=>?_,S.CT,fun a hA=>?_,S.a0,fun a hB=>?_,S.bH,S.b0⟩,S.len,fun i s hi=>?_,S.BP⟩,ff⟩
 ·by_cases q:a∈as
  ·rw [Xd a q] at e;exact e
  ·rw [Q8 a q] at e;exact S.fh a o e
 ·by_cases q:a∈as
  ·exact .inr (h0 a q).2.1
  ·rw [Q8 a q] at e;exact S.fresh a o e
 ·exact nF a (fun q=>S.a0 a hA (h0 a q).2.1) (S.K7 a hA)
 ·exact nF a (fun q=>(S.b0 a hB).1 (h0 a q).2.1) (S.bF a hB)
 ·have no:∀ a,B9 s σ[i]? a->a∉as:=fun a m q=>hn a q i s hi m;have kk:=S.ok i s hi;cases s with
  | any=>trivial
  | is p=>obtain ⟨v,e,r⟩:=kk;exact ⟨v,e,r.mono ff⟩
  | own ys=>
   obtain ⟨l',ws,q,q1,q2,q3,r⟩:=kk;exact ⟨l',ws,q,nF l' (no l' q) q1,q2,q3,r.mono ff⟩
  | AD=>
   obtain ⟨l',q,q1,q2,q3⟩:=kk;exact ⟨l',q,nF l' (no l' q) q1,q2,q3⟩
  | sq tp ys=>
   cases tp with
   | true=>obtain ⟨v,e,r⟩:=kk;exact ⟨v,e,r.mono ff⟩
   | false=>obtain ⟨l',ws,q,q1,q2,r⟩:=kk;exact ⟨l',ws,q,q1,q2,r.mono ff⟩
  | raw P=>obtain ⟨v,e,r,st⟩:=kk;exact ⟨v,e,st _ _ ff r,st⟩
  | ow lt t=>
   obtain ⟨v,e,r,nd,q⟩:=kk;exact ⟨v,e,r.mono ff fun a _ o h=>h,nd,fun a ha=>⟨nF a (no a ha) (q a ha).1,(q a ha).2⟩⟩
theorem Yo {t:TS}(i:Nat)(hi:ss[i]?=some (.own xs))(h:Ws (ss.set i (.is (.lst xs))) t nx R):Ws ss t nx R:=⟨fun E D σ F H S hn hr=>by
 obtain ⟨l,vs,e,e1,e2,e3,r⟩:=S.ok i _ hi;have one:∀ a,a∈[l]->a=l:=fun a h=>by simpa using h
 obtain ⟨S1,nf⟩:=(S.drop i).lay [l] (fun a h=>by rw [one a h,e3];exact ⟨e1,e2,by simp⟩) fun a h j s hj m=>by
  rw [one a h] at m
  by_cases q:j=i
  ·subst q;rw [CZ (List.getElem?_eq_some_iff.mp hi).1] at hj;cases hj;cases m
  ·rw [CQ (BS q)] at hj;exact S.BP j i s _ l q hj hi m e
 have S2:=S1.LO (j:=i) (v:=.ref l) (p:=.lst xs) (.lst (by unfold BQ;rw [jd (by simp)];exact e3) (r.mono nf));rw [T8 e,ik] at S2;exact h.go E D σ _ H S2 (fun EY σ2 F2 H2 n S2 s2=>hn EY σ2 F2 H2 n S2 (nf.trans s2)) hr⟩
theorem JA {tb:TS}(I:List PV->Nat->List Slot->Prop)(h:Wi ss wi fun xs=>I xs 0 ss/\(∀ (i:Nat) p AK,xs[i]?=some p->I xs i AK->Wg AK g p fun EY=>Ws EY tb (I xs (i+1)) R)/\∀ AK,I xs xs.length AK->nx AK):Ws ss (TK wi g tb) nx R:=⟨fun E D σ F H S hn hr=>
 h.go E σ F H _ S fun J xs F1 H1 m1 sr AJ=>by
  obtain ⟨i0,hs,hd⟩:=AJ;refine ⟨fun i m σ' H'=>m=xs.length - i/\i<=xs.length/\∃ AK F',I xs i AK/\Sg E AK σ' F' H'/\A7 F1 F',⟨_,rfl,C2 _,ss,F1,i0,m1.st,A7.refl _⟩,?_⟩;rintro i m σ' H' ⟨rfl,hi,AK,F',hI,S',s'⟩
  by_cases AQ:i<xs.length
  ·refine .inr ⟨sr.go AK σ' F' H' i s' S' AQ,fun σ2 H2=>∃ EY F2,I xs (i+1) EY/\Sg E EY σ2 F2 H2/\A7 F1 F2,fun σ2 H2 DO=>by obtain ⟨EY,F2,a,b,c⟩:=DO;exact ⟨_,by omega,rfl,AQ,EY,F2,a,b,c⟩,fun x H3 y=>?_⟩;obtain ⟨p,F3,hp,m3,rp⟩:=sr.Fe AK σ' F' H' i x H3 s' S' AQ y;refine (hs i p AK hp hI).go E σ' F3 H3 x _ m3.st rp fun ss4 σ4 w S4=>?_;exact w.go E _ σ4 F3 H3 S4 (fun ss5 σ5 F5 H5 n5 S5 s5=>⟨ss5,F5,n5,S5,(s'.trans m3.ff).trans s5⟩) hr
  ·have e:i=xs.length:=by omega
   subst e;exact .inl ⟨sr.stop AK σ' F' H' s' S',hn AK σ' F' H' (hd AK hI) S' (m1.ff.trans s')⟩⟩
end
def DU (js:List Nat)(ss:List Slot):List Slot:=js.map fun j=>(ss[j]?).getD .any
def Sn (js:List Nat)(ss:List Slot):Bool:=js.all fun j=>match ss[j]? with
 | some .AD=>false
 | _=>true
section
variable [Xw]
variable {K:ZE5}{js:List Nat}
theorem pD (h:js[i]?=some j)(e:(DU js ss)[i]?=some s):s=(ss[j]?).getD .any:=by
 unfold DU at e;rw [Ax,h] at e;exact (BO e).symm
theorem Sg.Af (S:Sg E ss σ F H)(nd:js.Nodup)(r:AM F vs ps):Sg E (DU js ss++ps.map .is) (BZ js σ++vs.map some) F H:=by
 have hl:(DU js ss).length=js.length:=by simp [DU]
 have D9:(BZ js σ).length=js.length:=by simp [BZ]
 have GA:∀ (i:Nat) (hi:i<js.length),(DU js ss++ps.map .is)[i]?=some ((ss[js[i]]?).getD .any)/\(BZ js σ++vs.map some)[i]?=some ((σ[js[i]]?).join):=fun i hi=>by
  rw [Hs (by rw [hl];exact hi),Hs (by rw [D9];exact hi)];unfold DU BZ;rw [Ax,Ax,BE hi];exact ⟨rfl,rfl⟩
 have at2:∀ (i:Nat) s,js.length<=i->(DU js ss++ps.map .is)[i]?=some s->∃ p v,s=.is p/\(BZ js σ++vs.map some)[i]?=some (some v)/\Rep F v p:=fun i s hi e=>by
  rw [Lk (by rw [hl];exact hi),hl,Ax] at e;rw [Lk (by rw [D9];exact hi),D9,Ax];cases q:ps[i - js.length]? with
  | none=>rw [q] at e;cases e
  | some p=>
   rw [q] at e;obtain ⟨v,hv,rv⟩:=r.get q;rw [hv];exact ⟨p,v,(BO e).symm,rfl,rv⟩
 have fx:∀ (s:Slot) (m:Nat) (l:Addr),B9 s (some (σ[m]?).join) l->B9 s σ[m]? l:=fun s m l o=>by
  have fy:∀ l,some (σ[m]?).join=some (some (V.ref l))->σ[m]?=some (some (.ref l)):=fun l e=>by
   cases q:σ[m]? with
   | none=>rw [q] at e;cases e
   | some o=>rw [q] at e;cases o with
    | none=>cases e
    | some v=>simpa using e
  cases s with
  | own xs=>exact fy l o
  | AD=>exact fy l o
  | ow lt t=>exact o
  | _=>exact o
 have sm:∀ (i:Nat) s l,(DU js ss++ps.map .is)[i]?=some s->B9 s (BZ js σ++vs.map some)[i]? l->∃ hi:i<js.length,ss[js[i]]?=some s/\B9 s σ[js[i]]? l:=fun i s l e m=>by
  by_cases hi:i<js.length
  ·rw [(GA i hi).2] at m;refine ⟨hi,?_,fx s _ l m⟩;rw [(GA i hi).1] at e;cases q:ss[js[i]]? with
   | none=>rw [q] at e;cases e;cases m
   | some u=>rw [q] at e;exact e
  ·obtain ⟨p,v,rfl,_⟩:=at2 i s (by omega) e;cases m
 refine ⟨S.toFin,?_,fun i s e=>?_,fun i j s u l Br hi hj ms mu=>?_⟩
 ·rw [Bl,Bl,hl,D9,Ab,Ab,r.length]
 ·by_cases hi:i<js.length
  ·obtain ⟨a,b⟩:=GA i hi;rw [a] at e;rw [b];cases q:ss[js[i]]? with
   | none=>rw [q] at e;cases e;trivial
   | some u=>
    rw [q] at e;have eu:u=s:=BO e;subst eu;have kk:=S.ok _ _ q;cases u with
    | any=>trivial
    | is p=>obtain ⟨v,e,r⟩:=kk;rw [e];exact ⟨v,rfl,r⟩
    | own xs=>obtain ⟨l,vs,e,r⟩:=kk;rw [e];exact ⟨l,vs,rfl,r⟩
    | AD=>obtain ⟨l,e,r⟩:=kk;rw [e];exact ⟨l,rfl,r⟩
    | sq tp xs=>
     cases tp with
     | true=>obtain ⟨v,e,r⟩:=kk;rw [e];exact ⟨v,rfl,r⟩
     | false=>obtain ⟨l,vs,e,r⟩:=kk;rw [e];exact ⟨l,vs,rfl,r⟩
    | raw P=>obtain ⟨v,e,r⟩:=kk;rw [e];exact ⟨v,rfl,r⟩
    | ow lt t=>obtain ⟨v,e,r⟩:=kk;rw [e];exact ⟨v,rfl,r⟩
  ·obtain ⟨p,v,rfl,hv,rv⟩:=at2 i s (by omega) e;rw [hv];exact ⟨v,rfl,rv⟩
 ·obtain ⟨li,qi,oi⟩:=sm i s l hi ms;obtain ⟨lj,qj,oj⟩:=sm j u l hj mu;refine S.BP js[i] js[j] s u l (fun e=>Br ?_) qi qj oi oj;exact (ZCp nd).mp e
theorem Mv.out (S:Sg E ss σ F H)(np:Sn js ss=true)(m:Mv E (DU js ss++ps.map .is) τ F H F' H'):Mv E ss σ F H F' H':=by
 have nn:∀ a,By (DU js ss++ps.map .is) τ a:=fun a i hi _=>by
  by_cases h:i<(DU js ss).length
  ·rw [Hs h] at hi;have hj:i<js.length:=by simpa [DU] using h
   have q:=pD (BE hj) hi;have z:=List.all_eq_true.mp np js[i] (KJ hj);cases w:ss[js[i]]? with
   | none=>rw [w] at q;cases q
   | some u=>rw [w] at q z;cases q;cases z
  ·rw [Lk (by omega),Ax] at hi;cases w:ps[i - (DU js ss).length]? with
   | none=>rw [w] at hi;cases hi
   | some p=>rw [w] at hi;cases hi
 have hk:∀ a o,H a=some o->H' a=some o:=fun a o e=>m.hh a o (nn a) e;exact S.step m.ff m.st.fh (fun a o _ e=>hk a o e) m.nn fun i l hi e=>BR.keep (S.EA hi e) fun o e=>hk l o e
theorem bR {tt:TT}{k:List PV->Prop}(f:PV->Bool)(g:PV->PV)
  (h:Wi ss wi fun xs=>xs.length<=100000/\(∀ x∈xs,Wt (DU js ss++[.is x]) tt fun b=>b=f x)/\(∀ x∈xs,f x=true->Wp (DU js ss++[.is x]) te fun p=>p=g x)/\k ((xs.filter f).map g))
  (nd:js.Nodup:=by decide) (np:Sn js ss=true:=by rfl):Wn ss (Im wi js tt te) k:=⟨fun E σ F H Q S q=>
 h.go E σ F H _ S fun J xs F1 H1 m1 sr ⟨hz,ht,he,kk⟩ acc Ai=>by
  have GW:By ss σ acc:=m1.st.J2 Ai;have XG:=m1.st.D6 Ai;have OE:∀ (i:Nat) s,ss[i]?=some s->¬ B9 s σ[i]? acc:=fun i s hi=>m1.st.Mi hi Ai;refine ⟨fun i m H2=>m=xs.length - i/\i<=xs.length/\∃ F2 vs,Mv E ss σ F1 H1 F2 H2/\F2 acc=none/\H2 acc=some (.lst vs)/\AM F2 vs (((xs.take i).filter f).map g),⟨_,rfl,C2 _,F1,[],m1.st.make Ai _,m1.st.BH Ai,AE,.nil⟩,?_⟩;rintro i m H2 ⟨rfl,hi,F2,vs,m2,fa,ha,rv⟩
  by_cases AQ:i<xs.length
  ·refine .inr ⟨sr.go ss σ F2 H2 i m2.ff m2.st AQ,fun x H3 y=>?_⟩;obtain ⟨p,F3,hp,m3,rp⟩:=sr.Fe ss σ F2 H2 i x H3 m2.ff m2.st AQ y;have c6:p∈xs:=DK hp;have L3:(xs.take (i+1))=xs.take i++[p]:=by
    have e2:xs[i]=p:=by rw [BE AQ] at hp;exact BO hp
    rw [Xx AQ,e2]
   have e1:List.filter f (xs.take (i+1))=(xs.take i).filter f++(if f p=true then [p] else []):=by
    rw [L3,Xn];congr 1
    by_cases hf:f p=true <;> simp [hf]
   have YC:∀ {F4:Hp},(∀ a o,F4 a=some o->F2 a=some o∨H2 a=none)->F4 acc=none:=fun {F4} n=>by
    cases e:F4 acc with
    | none=>rfl
    | some o=>
     rcases n acc o e with w | w
     ·rw [fa] at w;cases w
     ·rw [ha] at w;cases w
   have S3:=m3.st.Af (js:=js) nd (.one rp);refine (ht p c6).go E _ F3 H3 _ S3 fun b F4 H4 m4 hb=>?_;have Jl:=m3.trans (m4.out (ps:=[p]) m3.st np);show if b=true then _ else _
   rw [hb]
   by_cases hf:f p=true
   ·rw [jd hf];have S4:=Jl.st.Af (js:=js) nd (.one (rp.mono (m4.out (ps:=[p]) m3.st np).ff));refine (he p c6 hf).go E _ F4 H4 _ S4 fun w pw F5 H5 m5 dI ew=>?_;have m45:=m4.out (ps:=[p]) m3.st np;have m5':=m5.out (ps:=[p]) Jl.st np;have OC:=Jl.trans m5';have jv:=OC.hh acc _ GW ha;have ZW:=YC OC.nn;have hlen:vs.length<=99999:=by
     rw [rv.length,Ab];have:=Ll f (xs.take i);rw [C1] at this;omega
    refine ⟨vs,jv,LZ hlen,xs.length - (i+1),by omega,rfl,AQ,F5,vs++[w],?_,ZW,AE,?_⟩
    ·have Qk:=m2.trans OC;refine ⟨Qk.st.Px ZW (.inl XG) OE,Qk.ff,fun a o n e=>?_,Qk.nn⟩;rw [AX (DX e Ai)];exact Qk.hh a o n e
    ·rw [e1,jd hf,Dh];rw [ew] at dI;exact (rv.mono OC.ff).append (.one dI)
   ·have LB:f p=false:=by simpa using hf
    rw [LB,jG (by decide)];refine ⟨xs.length - (i+1),by omega,rfl,AQ,F4,vs,m2.trans Jl,YC Jl.nn,Jl.hh acc _ GW ha,?_⟩;rw [e1,jG hf,EW];exact rv.mono Jl.ff
  ·have e:i=xs.length:=by omega
   subst e;refine .inl ⟨sr.stop ss σ F2 H2 m2.ff m2.st,q acc vs _ F2 H2 (m1.trans m2) fa (m1.none Ai) ha ?_ kk⟩;rw [Lo] at rv;exact rv⟩
end
abbrev Pre:=List Slot->Aq->Prop
def BW (pre:Pre):Sp:=fun vs H Q _=>∃ (ss:List Slot) (R:Aq) (F:Hp) (A:List Addr),pre ss R/\Sg (E3 A F H) ss (vs.map some) F H/\∀ v F' H',Fin (E3 A F H) F' H'->R.ok (E3 A F H) F' H' v->Q v H'
section
variable [Xw]
variable {pre:Pre}{k:PV->Prop}
theorem Gs.at {l:List Slot}(h:Gs ss σ F H vs l):∀ {i:Nat}{s:Slot},l[i]?=some s->∃ v,vs[i]?=some v/\Av ss σ F H v s:=by
 induction h with
 | nil=>intro i s e;simp at e
 | cons a _ ih=>
  intro i s e;cases i with
  | zero=>simp at e;subst e;exact ⟨_,rfl,a⟩
  | succ i=>exact ih (by simpa using e)
theorem Gs.len {l:List Slot}(h:Gs ss σ F H vs l):l.length=vs.length:=by
 induction h with
 | nil=>rfl
 | cons a _ ih=>rw [BN,BN,ih]
theorem Av.ok (S:Sg E ss σ F H)(a:Av ss σ F H v s)(hA:∀ l,By ss σ l->l∉A):Ok (E3 A F H) F H s (some (some v))/\∀ o l,¬ B9 s o l:=by
 cases s with
 | is p=>exact ⟨⟨v,rfl,a⟩,fun _ _ z=>z⟩
 | sq tp xs=>
  cases tp with
  | true=>exact ⟨⟨v,rfl,a⟩,fun _ _ z=>z⟩
  | false=>obtain ⟨l,vs,rfl,n,h,r⟩:=a;exact ⟨⟨l,vs,rfl,⟨hA l n,Au⟩,h,r⟩,fun _ _ z=>z⟩
 | raw P=>exact ⟨⟨v,rfl,a⟩,fun _ _ z=>z⟩
 | any=>exact a.elim
 | own xs=>exact a.elim
 | AD=>exact a.elim
 | ow lt t=>exact a.elim
theorem Sg.UQ (S:Sg E ss σ F H){l:List Slot}(a:Gs ss σ F H vs l):Sg (E3 [] F H) l (vs.map some) F H:=by
 have nn:∀ {p:Prop}(a:Addr),a∈([]:List Addr)->p:=fun a h=>absurd h Au;refine ⟨⟨S.fh,A7.refl _,fun _ _ _ e=>e,fun _ _ e=>.inl e,fun a h=>nn a h,fun a h=>nn a h,fun a h=>nn a h,fun a h=>nn a h,fun a h=>nn a h,fun a h=>nn a h⟩,by rw [Ab];exact a.len,fun i s hi=>?_,fun i j s u l Br hi hj ms mu=>?_⟩
 ·obtain ⟨v,hv,q⟩:=a.at hi;rw [Ax,hv];exact (q.ok S fun _ _ h=>absurd h Au).1
 ·obtain ⟨v,hv,q⟩:=a.at hi;exact (q.ok S (A:=[]) fun _ _ h=>absurd h Au).2 _ _ ms
theorem Sg.YV (S:Sg E ss σ F H){p:Addr}(hi:ss[i0]?=some .AD)(e:σ[i0]?=some (some (.ref p))){l:List Slot}(a:Gs ss σ F H vs l):Sg (E3 [p] F H) (.AD::l) ((V.ref p::vs).map some) F H:=by
 obtain ⟨p',e',fp,_,pp⟩:=S.ok i0 _ hi;rw [e] at e';cases e';have hA:∀ l,By ss σ l->l∉[p]:=fun l n h=>by
  have:l=p:=by simpa using h
  subst this;exact n i0 hi e
 have one:∀ a,a∈[p]->a=p:=fun a h=>by simpa using h
 have nn:∀ {p:Prop}(a:Addr),a∈([]:List Addr)->p:=fun a h=>absurd h Au;refine ⟨⟨S.fh,A7.refl _,fun _ _ _ e=>e,fun _ _ e=>.inl e,fun a h=>(one a h)▸pp,fun a h=>(one a h)▸fp,fun a h=>?_,fun a h=>nn a h,fun a h=>nn a h,fun a h=>nn a h⟩,by rw [Ab,BN,BN];rw [a.len],fun i s hi=>?_,fun i j s u l' Br hi hj ms mu=>?_⟩
 ·rw [one a h];obtain ⟨_,_,q,_⟩:=pp;show H p≠none;rw [q];simp
 ·cases i with
  | zero=>simp at hi;subst hi;exact ⟨p,rfl,fp,.inr (by simp),pp⟩
  | succ i=>
   obtain ⟨v,hv,q⟩:=a.at (i:=i) (s:=s) (by simpa using hi)
   have:((V.ref p::vs).map some)[i+1]?=some (some v):=by rw [Bs,List.getElem?_cons_succ,Ax,hv];rfl
   rw [this];exact (q.ok S hA).1
 ·have z:∀ (i:Nat) s o l',(Slot.AD::l)[i]?=some s->B9 s o l'->i=0:=fun i s o l' h m=>by
   cases i with
   | zero=>rfl
   | succ i=>
    obtain ⟨v,hv,q⟩:=a.at (i:=i) (s:=s) (by simpa using h)
    exact ((q.ok S hA).2 _ _ m).elim
  exact absurd ((z i s _ _ hi ms).trans (z j u _ _ hj mu).symm) Br
theorem Sg.back (S:Sg E ss σ F H)(hA:∀ a,a∈A->∃ i:Nat,ss[i]?=some .AD/\σ[i]?=some (some (.ref a)))(f:Fin (E3 A F H) F' H'):Mv E ss σ F H F' H':=by
 refine S.step f.f0 f.fh (fun a o n e=>f.keep a o ⟨fun h=>?_,Au⟩ e) f.fresh fun i l hi e=>?_
 ·obtain ⟨i,q1,q2⟩:=hA a h;exact n i q1 q2
 ·by_cases q:l∈A
  ·exact f.CT l q
  ·exact BR.keep (S.EA hi e) fun o e=>f.keep l o ⟨q,Au⟩ e
theorem wp_call (h:Wa ss t fun l=>∃ k',pre l (.is k')/\∀ p,k' p->k p):Wp ss (Bz (BW pre) [] E0 t) k:=⟨fun E σ F H Q S q=>
 h.go E σ F H _ S fun vs l F1 H1 m1 a ⟨k',hp,kk⟩=>by
  rw [EW];refine ⟨l,.is k',F1,[],hp,m1.st.UQ a,fun v F' H' f ⟨p,r,kp⟩=>?_⟩;exact q v p F' H' (m1.trans (m1.st.back (fun _ h=>absurd h Au) f)) r (kk p kp)⟩
theorem vF (hi:ss[i]?=some .AD)(h:Wa ss t fun l=>∃ k',pre (.AD::l) (.is k')/\∀ p,k' p->k p):Wp ss (Bz (BW pre) [] E0 (AV (BL i) t)) k:=⟨fun E σ F H Q S q=>by
 obtain ⟨p,e,_⟩:=S.ok i _ hi;refine ⟨_,e,h.go E σ F H _ S fun vs l F1 H1 m1 a ⟨k',hp,kk⟩=>?_⟩;show BW pre ((V.ref p::vs)++[]) H1 Q E0;rw [EW];refine ⟨.AD::l,.is k',F1,[p],hp,m1.st.YV hi e a,fun v F' H' f ⟨pv,r,kp⟩=>?_⟩;exact q v pv F' H' (m1.trans (m1.st.back (A:=[p]) (fun a h=>⟨i,hi,(show a=p from by simpa using h)▸e⟩) f)) r (kk pv kp)⟩
theorem Sg.grown (S:Sg E ss σ F H)(n:Nat):Sg E (ss++List.replicate n .any) (σ++List.replicate n none) F H:=by
 have GA:∀ (i:Nat) s,(ss++List.replicate n .any)[i]?=some s->s≠.any->ss[i]?=some s/\(σ++List.replicate n none)[i]?=σ[i]?:=fun i s e hs=>by
  by_cases h:i<ss.length
  ·rw [Hs h] at e;rw [Hs (by rw [<- S.len];exact h)];exact ⟨e,rfl⟩
  ·rw [Lk (by omega),iW] at e;split at e
   ·exact absurd (BO e).symm hs
   ·cases e
 refine ⟨S.toFin,by simp [S.len],fun i s e=>?_,fun i j s u l Br hi hj ms mu=>?_⟩
 ·cases s with
  | any=>trivial
  | _=>obtain ⟨a,b⟩:=GA i _ e (by simp);rw [b];exact S.ok i _ a
 ·have ns:s≠.any:=by rintro rfl;cases ms
  have nu:u≠.any:=by rintro rfl;cases mu
  obtain ⟨a,b⟩:=GA i s hi ns;obtain ⟨c,d⟩:=GA j u hj nu;rw [b] at ms;rw [d] at mu;exact S.BP i j s u l Br a c ms mu
end
section
variable {pre:Pre}{k:PV->Prop}
def Pt (E:Ent0):Ent:=⟨E,fun _ _ _ _ _ _ _ _ _ d=>d.elim⟩
theorem G4 {N:List Str}{n:Nat}{t:TS}(h:BW pre vs H Q X)(hl:∀ ss R,pre ss R->ss.length=n)
  (hw:∀ ss R,pre ss R->Ws (ss++List.replicate (N.length - n) .any) t (fun _=>∃ k,R=.is k/\k .AB) R):t { nx:=fun _ H'=>Q .AB H',rt:=Q } (L2.start N vs) H:=by
 obtain ⟨ss,R,F,A,hp,S,q⟩:=h;have e:vs.length=n:=by have:=S.len;rw [Ab] at this;rw [<- this];exact hl ss R hp
 unfold L2.start;rw [e];refine (hw ss R hp).go (Pt (E3 A F H)) _ _ F H (S.grown _) (fun AK σ' F' H' ⟨k,e,kn⟩ S' _=>?_) fun v F' H' f ok=>q v F' H' f ok;subst e;exact q .AB F' H' S'.toFin ⟨.AB,.AB,kn⟩
theorem GJ {n:Nat}(hl:∀ ss R,pre ss R->ss.length=n)(h:BW pre vs H Q X):vs.length=n:=by
 obtain ⟨ss,R,F,A,hp,S,q⟩:=h;have:=S.len;rw [Ab] at this;rw [<- this];exact hl ss R hp
end
end Fz
namespace Lw
open L2
variable {EB acc l ns ss:List Str}{r x:Str}{H H':Hp}{t:Addr}{g j:Int}
theorem M4:∀ l:List Nat,¬ l<l
 | [],h=>by simp at h
 | a::r,h=>by
  rw [Xk] at h;rcases h with h | ⟨_,h⟩
  ·omega
  ·exact M4 r h
theorem OT:∀ {a b c:List Nat},a<b->b<c->a<c
 | _,[],_,h,_=>by simp at h
 | _,_::_,[],_,h=>by simp at h
 | [],_::_,_::_,_,_=>by simp
 | a::r,b::s,c::t,h,h'=>by
  rw [Xk] at h h' ⊢;rcases h with h | ⟨rfl,h⟩
  ·rcases h' with h' | ⟨rfl,h'⟩
   ·left;omega
   ·left;exact h
  ·rcases h' with h' | ⟨rfl,h'⟩
   ·left;exact h'
   ·right;exact ⟨rfl,OT h h'⟩
theorem b6:∀ a b:List Nat,a<b∨a=b∨b<a
 | [],[]=>.inr (.inl rfl)
 | [],_::_=>.inl (by simp)
 | _::_,[]=>.inr (.inr (by simp))
 | a::r,b::s=>by
  rw [Xk,Xk];rcases ZD3 a b with h | rfl | h
  ·exact .inl (.inl h)
  ·rcases b6 r s with h | rfl | h
   ·exact .inl (.inr ⟨rfl,h⟩)
   ·exact .inr (.inl rfl)
   ·exact .inr (.inr (.inr ⟨rfl,h⟩))
  ·exact .inr (.inr (.inl h))
abbrev Hq (a b:Str):Prop:=a.cps.toList<b.cps.toList
theorem Sf (a b:Str):Hq a b∨a=b∨Hq b a:=by
 rcases b6 a.cps.toList b.cps.toList with h | h | h
 ·exact .inl h
 ·exact .inr (.inl (tF h))
 ·exact .inr (.inr h)
abbrev Up (ss:List Str):Prop:=ss.Pairwise Hq
theorem Vn (h:Up ss):ss.Nodup:=by
 refine List.Pairwise.imp (fun {a b} (Cq:Hq a b) (e:a=b)=>?_) h;subst e;exact M4 _ Cq
theorem ZQ:∀ (l:List Str) (p:Str),risingS p l=true->(∀ x∈l,¬ Hq x p)/\l.Pairwise fun a b=>¬ Hq b a
 | [],p,_=>⟨fun x hx=>absurd hx (by simp),.nil⟩
 | y::r,p,h=>by
  have h1:(!ltCps y.cps.toList p.cps.toList && risingS y r)=true:=h;rw [Dg,ltCps_eq] at h1;have hyp:¬ Hq y p:=by
   intro z;rw [jO z] at h1;exact absurd h1.1 (by decide)
  obtain ⟨h2,h3⟩:=ZQ r y h1.2;refine ⟨fun x hx=>?_,List.pairwise_cons.mpr ⟨fun x hx=>h2 x hx,h3⟩⟩;rcases List.mem_cons.mp hx with rfl | hx
  ·exact hyp
  ·intro z;rcases Sf y p with q | q | q
   ·exact hyp q
   ·exact h2 x hx (q▸z)
   ·exact h2 x hx (OT z q)
theorem ZB0 (h:sortedS l=true):l.Pairwise fun a b=>¬ Hq b a:=by
 cases l with
 | nil=>exact .nil
 | cons x r=>
  obtain ⟨h1,h2⟩:=ZQ r x h;exact List.pairwise_cons.mpr ⟨h1,h2⟩
theorem W0 (h:sortedS l=true)(nd:l.Nodup):Up l:=by
 have w:=ZB0 h;have q:=List.Pairwise.and w nd;refine q.imp fun {a b} Cq=>?_;rcases Sf a b with z | z | z
 ·exact z
 ·exact absurd z Cq.2
 ·exact absurd z Cq.1
theorem R7:∀ {as bs:List Str},Up as->Up bs->(∀ x,x∈as↔x∈bs)->as=bs
 | [],[],_,_,_=>rfl
 | [],b::bs,_,_,h=>absurd ((h b).mpr Cu) (by simp)
 | a::as,[],_,_,h=>absurd ((h a).mp Cu) (by simp)
 | a::as,b::bs,ha,hb,h=>by
  obtain ⟨a1,a2⟩:=List.pairwise_cons.mp ha;obtain ⟨b1,b2⟩:=List.pairwise_cons.mp hb;have e:a=b:=by
   rcases List.mem_cons.mp ((h a).mp Cu) with z | z
   ·exact z
   ·rcases List.mem_cons.mp ((h b).mpr Cu) with y | y
    ·exact y.symm
    ·exact absurd (OT (a1 b y) (b1 a z)) (M4 _)
  subst e
  congr 1
  refine R7 a2 b2 fun x=>⟨fun hx=>?_,fun hx=>?_⟩
  ·rcases List.mem_cons.mp ((h x).mp (Di _ hx)) with z | z
   ·exact absurd (z▸a1 x hx) (M4 _)
   ·exact z
  ·rcases List.mem_cons.mp ((h x).mpr (Di _ hx)) with z | z
   ·exact absurd (z▸b1 x hx) (M4 _)
   ·exact z
theorem Ud:∀ {as bs:List Str},as.Nodup->(∀ x∈as,x∈bs)->as.length<=bs.length
 | [],_,_,_=>C2 _
 | a::as,bs,nd,h=>by
  obtain ⟨h1,h2⟩:=List.nodup_cons.mp nd;have ha:=h a Cu;have q:=Ud (bs:=bs.erase a) h2 fun x hx=>(ie (fun e:x=a=>h1 (by rw [<- e];exact hx))).mpr (h x (Di _ hx));have e:=iY ha;have p:=ZCs ha;simp only [BN];omega
theorem YI:∀ {as bs:List Str},as.Nodup->(∀ x∈as,x∈bs)->bs.length=as.length->bs.Nodup
 | [],bs,_,_,hl=>by
  have e:bs=[]:=List.length_eq_zero_iff.mp (by simpa using hl)
  rw [e];exact Nw
 | a::as,bs,nd,h,hl=>by
  obtain ⟨h1,h2⟩:=List.nodup_cons.mp nd;have ha:=h a Cu;have Dc:bs.length=as.length+1:=by simpa using hl
  have sub:∀ x∈as,x∈bs.erase a:=fun x hx=>(ie (fun e:x=a=>h1 (by rw [<- e];exact hx))).mpr (h x (Di _ hx));have e:=iY ha;have q:=YI (bs:=bs.erase a) h2 sub (by omega);have p:=List.perm_cons_erase ha;rw [p.nodup_iff,List.nodup_cons];refine ⟨fun hm=>?_,q⟩;have r:=Ud (as:=a::as) (bs:=bs.erase a) nd fun x hx=>by
   rcases List.mem_cons.mp hx with rfl | hx
   ·exact hm
   ·exact sub x hx
  simp only [BN] at r;omega
theorem zi {k:Str}:k∈EN acc x↔k∈acc∨k=x:=by
 unfold EN
 by_cases h:acc.any (· == x)=true
 ·rw [jd h];refine ⟨.inl,fun q=>q.elim id fun e=>?_⟩;obtain ⟨y,hy,e2⟩:=List.any_eq_true.mp h;have:y=x:=by simpa using e2
  rw [e,<- this];exact hy
 ·rw [jG h];simp
theorem VR:∀ (l acc:List Str),acc.Nodup->(l.foldl EN acc).Nodup/\∀ k,k∈l.foldl EN acc↔k∈acc∨k∈l
 | [],acc,h=>⟨h,fun k=>by simp⟩
 | x::r,acc,h=>by
  have hn:(EN acc x).Nodup:=by
   unfold EN
   by_cases c:acc.any (· == x)=true
   ·rw [jd c];exact h
   ·rw [jG c];exact Se h fun hm=>c (List.any_eq_true.mpr ⟨x,hm,by simp⟩)
  obtain ⟨h1,h2⟩:=VR r (EN acc x) hn;refine ⟨h1,fun k=>?_⟩;rw [Xp,h2 k,zi,DT,or_assoc]
theorem nK (ss:List Str):(dd ss).Nodup:=(VR ss [] Nw).1
theorem ZBY (ss:List Str)(k:Str):k∈dd ss↔k∈ss:=by
 have q:=(VR ss [] Nw).2 k;refine (show (k∈dd ss↔_) from q).trans ⟨fun z=>z.elim (fun y=>absurd y (by simp)) id,.inr⟩
theorem dO (l:List Str)(k:Str):l.any (· == k)=true↔k∈l:=by
 rw [ZCh];exact ⟨fun ⟨y,hy,e⟩=>by
   have:y=k:=by simpa using e
   rw [<- this];exact hy,fun h=>⟨k,h,by simp⟩⟩
theorem oO {ts:List Str}(hl:ts.length=(dd ss).length)(hm:∀ k,(dd ss).any (· == k)=true↔k∈ts)(hs:sortedS ts=true):(ss=ts)↔Up ss:=by
 have nd:ts.Nodup:=YI (nK ss) (fun x hx=>(hm x).mp ((dO _ _).mpr hx)) hl;have ut:=W0 hs nd;constructor
 ·rintro rfl;exact ut
 ·intro us;exact R7 us ut fun x=>by rw [<- hm x,dO,ZBY]
theorem xT:∀ (as bs:List Str),DW (as.map V.str) (bs.map V.str)=decide (as=bs):=by
 intro as bs
 by_cases hl:as.length=bs.length
 ·rw [J8 (by simpa using hl),Lg,HB,decide_eq_true_iff]
  constructor
  ·intro h;refine iR hl fun i h1 h2=>?_;have q:=h i (by simpa using h1)
   have e1:(as.map V.str)[i]?=some (.str as[i]):=by rw [Ax,BE h1];rfl
   have e2:(bs.map V.str)[i]?=some (.str bs[i]):=by rw [Ax,BE h2];rfl
   rw [IP e1,IP e2] at q;have q':(as[i] == bs[i])=true:=q
   simpa using q'
  ·rintro rfl i hi;have h1:i<as.length:=by simpa using hi
   have e1:(as.map V.str)[i]?=some (.str as[i]):=by rw [Ax,BE h1];rfl
   rw [IP e1];show (as[i] == as[i])=true;simp
 ·rw [Ju (by simpa using hl),jx]
  rintro rfl;exact hl rfl
def Cn:List Str:=["none","ahead","all"]
def IH (ss:List Str):Bool:=decide (Up ss)
def IY (ns ss:List Str):Bool:=ss.all fun x=>decide (x∈ns)
def K8 (n:Nat)(g:Int):Bool:=decide (0<=g) && decide (g<=(n:Int))
def Eb (ns:List Str)(r:Str)(g:Int)(ss:List Str):Bool:=decide (r∈Cn) && (K8 ns.length g && (IH ss && IY ns ss))
def bL (K:ZE5):Sp:=fun vs H Q _=>∃ (a:Addr) (tp:Bool) (ns:List Str) (g:Int),vs=[.ref a,.int g]/\CN K tp H a (ns.map V.str)/\Q (.bl (K8 ns.length g)) H
def Zu (K:ZE5):Sp:=fun vs H Q _=>∃ (a:Addr) (tp:Bool) (ns:List Str) (c:Addr) (ss:List Str),vs=[.ref a,.ref c]/\CN K tp H a (ns.map V.str)/\AA K H c (ss.map V.str)/\ss.length<64/\∀ H',A7 H H'->Q (.bl (IH ss && IY ns ss)) H'
def LoopAt (K:ZE5)(H:Hp)(t:Addr)(r:Str)(g:Int)(ss:List Str):Prop:=∃ c,AA K H t [.str r,.int g,.ref c]/\AA K H c (ss.map V.str)
theorem LoopAt.same {K:ZE5}(s:A7 H H')(h:LoopAt K H t r g ss):LoopAt K H' t r g ss:=by
 obtain ⟨c,h1,h2⟩:=h;exact ⟨c,s.IA h1,s.IA h2⟩
def fX (K:ZE5):Sp:=fun vs H Q _=>∃ (a:Addr) (tp:Bool) (ns:List Str) (t:Addr) (r:Str) (g:Int) (ss:List Str),vs=[.ref a,.ref t]/\CN K tp H a (ns.map V.str)/\LoopAt K H t r g ss/\ss.length<64/\∀ H',A7 H H'->Q (.bl (Eb ns r g ss)) H'
theorem ub (ns ss:List Str):((ss.map V.str).filter fun _=>true).map (fun v=>V.bl (Cj v (ns.map V.str)))=(ss.map fun x=>decide (x∈ns)).map V.bl:=by
 rw [fN,HC,HC];refine List.map_congr_left fun x _=>?_;show V.bl _=V.bl _;rw [IB]
theorem iJ (h0:0<=j)(h1:j<3):∃ r,Be (Cn.map V.str) j=some (.str r)/\r∈Cn:=by
 obtain ⟨x,a,b,_⟩:=N2 (ns:=Cn) h0 h1;exact ⟨x,a,b⟩
def Hi (ss:List Str)(x:Str):Bool:=decide (x∈ss)
def Cy (ns:List Str)(g:Nat)(ss:List Str):List Str:=(ns.drop g).filter (Hi ss)++(ns.take g).filter (Hi ss)
theorem nB (ns:List Str)(g:Nat)(ss:List Str):(ns.drop g++ns.take g).filter (Hi ss)=Cy ns g ss:=Xn ..
theorem Nf {g:Nat}:x∈Cy ns g ss↔x∈ns/\x∈ss:=by
 unfold Cy;rw [Ht,ig,ig];have e:(x∈ns)↔(x∈ns.take g∨x∈ns.drop g):=by
  rw [<- Ht,KL]
 unfold Hi;simp only [decide_eq_true_eq];rw [e];constructor
 ·rintro (⟨a,b⟩ | ⟨a,b⟩)
  ·exact ⟨.inr a,b⟩
  ·exact ⟨.inl a,b⟩
 ·rintro ⟨a | a,b⟩
  ·exact .inr ⟨a,b⟩
  ·exact .inl ⟨a,b⟩
theorem ZY (ns ss:List Str):((ns.map V.str).filter (fun v=>Cj v (ss.map V.str))).map (fun v=>v)=(ns.filter (Hi ss)).map V.str:=by
 rw [ib,iU]
 congr 1
 apply ZCl;intro y _;show Cj (.str y) (ss.map V.str)=Hi ss y;rw [IB];rfl
def HZ (H:Hp)(t:Addr)(r:Str)(g:Int)(ss:List Str):Prop:=∃ c,H t=some (.tup [.str r,.int g,.ref c])/\H c=some (.tup (ss.map V.str))
theorem HZ.at {K:ZE5}(h:HZ H t r g ss):LoopAt K H t r g ss:=by
 obtain ⟨c,a,b⟩:=h;exact ⟨c,AA.of a,AA.of b⟩
theorem HZ.same (s:A7 H H')(h:HZ H t r g ss):HZ H' t r g ss:=by
 obtain ⟨c,a,b⟩:=h;exact ⟨c,s _ _ a,s _ _ b⟩
structure CU (ns:List Str) (r:Str) (g:Int) (ss:List Str):Prop where
 rule:r∈Cn
 g0:0<=g
 g1:g<=(ns.length:Int)
 up:Up ss
 sub:∀ x∈ss,x∈ns
theorem CU.Eb (h:CU ns r g ss):Eb ns r g ss=true:=by
 unfold Lw.Eb K8 IH IY;rw [jO h.rule,jO h.g0,jO h.g1,jO h.up,Lh,Lh,Lh,Lh,HB];intro x hx;exact jO (h.sub x hx)
theorem XO (x:Str)(h:Up ss):Up (wo ss x):=h.filter _
theorem ZBD (nd:ss.Nodup)(h:x∈ss):(wo ss x).length+1=ss.length:=by
 have e:=PZ h;have h1:=YS h;have h2:=Yb h nd;have:wo ss x=ss.take (ss.idxOf x)++ss.drop (ss.idxOf x+1):=by
  conv=>lhs;rw [e]
  rw [YH,dA,La h1,La h2]
 rw [this]
 conv=>rhs;rw [e]
 simp only [Bl,BN];omega
theorem CU.step (h:CU ns r g ss)(hx:x∈ns):CU ns r ((ns.idxOf x:Nat)+1) (wo ss x):=by
 have hj:ns.idxOf x<ns.length:=List.idxOf_lt_length_iff.mpr hx;exact ⟨h.rule,by omega,by omega,XO x h.up,fun y hy=>h.sub y (Hy.mp hy).1⟩
def Z4 (K:ZE5):Sp:=fun vs H Q _=>∃ (a:Addr) (tp:Bool) (ns:List Str) (t:Addr) (r:Str) (g:Int) (ss:List Str),vs=[.ref a,.ref t]/\CN K tp H a (ns.map V.str)/\LoopAt K H t r g ss/\ns.length<=1000/\IC H Q (ns.filter (Hi ss))
def bQ (K:ZE5):Sp:=fun vs H Q _=>∃ (a:Addr) (tp:Bool) (ns:List Str) (t:Addr) (r:Str) (g:Int) (ss:List Str),vs=[.ref a,.ref t]/\CN K tp H a (ns.map V.str)/\LoopAt K H t r g ss/\ss.length<64/\Eb ns r g ss=true/\∀ H',A7 H H'->Q .AB H'
def dD (K:ZE5):Sp:=fun vs H Q _=>∃ (a:Addr) (tp:Bool) (ns:List Str) (t:Addr) (r:Str) (g:Nat) (ss:List Str),vs=[.ref a,.ref t]/\H a=some (BM tp (ns.map V.str))/\LoopAt K H t r g ss/\ss.length<64/\Eb ns r g ss=true/\ns.length<=1000/\IC H Q (Cy ns g ss)
def W8 (K:ZE5):Sp:=fun vs H Q _=>∃ (c:Addr) (ss:List Str) (x:Str),vs=[.ref c,.str x]/\AA K H c (ss.map V.str)/\ss.length<=1000/\∀ l H',H l=none->A7 H H'->H' l=some (.tup ((wo ss x).map V.str))->Q (.ref l) H'
def HI (ns:List Str)(g:Nat)(ss:List Str):Option Str:=(Cy ns g ss).head?
def Kg (ns:List Str)(g:Nat)(ss:List Str):Nat:=match HI ns g ss with
 | none=>g
 | some x=>ns.idxOf x+1
def J9 (ns:List Str)(g:Nat)(ss:List Str):List Str:=match HI ns g ss with
 | none=>ss
 | some x=>wo ss x
theorem uZ {g:Nat}(h:CU ns r g ss):CU ns r (Kg ns g ss:Nat) (J9 ns g ss)/\(J9 ns g ss).length<=ss.length - 1:=by
 unfold Kg J9;cases e:HI ns g ss with
 | none=>
  refine ⟨h,?_⟩;have er:Cy ns g ss=[]:=List.head?_eq_none_iff.mp e;have:ss=[]:=by
   cases hs:ss with
   | nil=>rfl
   | cons x q=>
    have hx:x∈ss:=by rw [hs];exact Cu
    have:x∈Cy ns g ss:=Nf.mpr ⟨h.sub x hx,hx⟩;rw [er] at this;simp at this
  show ss.length<=ss.length - 1;rw [this];exact Ao _
 | some x=>
  have hx:x∈Cy ns g ss:=ZCw e;obtain ⟨h1,h2⟩:=Nf.mp hx;have:=ZBD (Vn h.up) h2;exact ⟨h.step h1,by show (wo ss x).length<=_;omega⟩
theorem Mq:Be ((x::EB).map V.str) 0=some (.str x):=MY (by decide) rfl
structure Ent where
 a:Addr
 ns:List Str
 t:Addr
 r:Str
 g:Nat
 ss:List Str
end Lw
namespace L2
section
variable {X:Cx}
def kT (K:ZE5):R2:=fun x y H Q=>∃ a b xs ys,x=.ref a/\y=.ref b/\AA K H a xs/\AA K H b ys/\ys≠[]/\xs.length+ys.length<=sizeLine/\∀ p H',A7 H H'->AA K H' p (xs++ys)->Q (.ref p) H'
theorem eB:BG X (binaryOp .Add) (kT X.K):=by
 intro pins s σ H x y v u Q I rx ry h;obtain ⟨a,b,xs,ys,rfl,rfl,ha,hb,hy,hz,q⟩:=h
 by_cases hx:xs=[]
 ·subst hx;cases rx;cases ry;obtain ⟨A4,r1,p1,_⟩:=I.tuple ha;obtain ⟨Ba,r2,p2,_⟩:=I.tuple hb;obtain ⟨⟨cls,dd,data,sl⟩,ho,hc,n,hd⟩:=id p1;obtain ⟨⟨lG,Qm,data2,OP⟩,KD,Jp,n2,hd2⟩:=id p2;simp only at hc hd Jp hd2;subst hc hd Jp hd2;have e:A4=[]:=r1.P2.mpr rfl;exact concat_meets ⟨_,ho,rfl⟩ ⟨_,KD,rfl⟩ ZA3 seq_tuple_add j3 iy (iw _ _)
   (tuple_addW0 a b A4.toArray Ba.toArray n n2 dd Qm sl OP (by simp [e])) ⟨ho,KD,⟨.ref b,H,I,rfl,q b H (A7.refl _) hb⟩⟩
 ·exact sF pins s σ H _ _ _ _ Q I rx ry ⟨a,b,xs,ys,rfl,rfl,ha,hb,hx,hz,fun e=>absurd e hy,fun _ p hp=>q p _ (AW hp _) (AA.of AE)⟩
end
end L2
namespace Lw
open L2
variable {ns rs ss:List Str}{r x:Str}{g i:Nat}{d:AN}
def Em (i g:Nat):Nat:=if i<g then g+1 else g
def E2 (p g:Nat):Nat:=if p<g then g - 1 else g
def AN.gap (ns:List Str)(g:Nat):AN->Nat
 | .put _ i=>Em i g
 | .take x=>E2 (ns.idxOf x) g
 | .move x i=>Em i (E2 (ns.idxOf x) g)
 | .turn _ _=>g
def E5:List Str->Str->List Str
 | [],x=>[x]
 | y::r,x=>if Hq x y then x::y::r else y::E5 r x
def DG (r:Str)(g i:Nat):Bool:=if decide (V.str r=V.str "all")=true then true else if decide (V.str r=V.str "ahead")=true then decide ((g:Int)<=(i:Int)) else false
def AN.Ej (r:Str)(g:Nat)(ss:List Str):AN->List Str
 | .put x i=>if DG r g i=true then E5 ss x else ss
 | .take x=>wo ss x
 | .move _ _=>ss
 | .turn _ _=>ss
theorem MB {x k:Str}:∀ {ss:List Str},k∈E5 ss x↔k=x∨k∈ss
 | []=>by simp [E5]
 | y::r=>by
  unfold E5;split
  ·simp
  ·rw [DT,MB (ss:=r),DT];constructor
   ·rintro (h | h | h)
    ·exact .inr (.inl h)
    ·exact .inl h
    ·exact .inr (.inr h)
   ·rintro (h | h | h)
    ·exact .inr (.inl h)
    ·exact .inl h
    ·exact .inr (.inr h)
theorem Yu {x:Str}:∀ {ss:List Str},(E5 ss x).length=ss.length+1
 | []=>rfl
 | y::r=>by
  unfold E5;split
  ·rfl
  ·rw [BN,Yu (ss:=r)];rfl
theorem O1 {x:Str}:∀ {ss:List Str},Up ss->x∉ss->Up (E5 ss x)
 | [],_,_=>List.pairwise_singleton _ _
 | y::r,h,hx=>by
  obtain ⟨h1,h2⟩:=List.pairwise_cons.mp h;unfold E5;split
  ·next c=>exact List.pairwise_cons.mpr ⟨fun k hk=>(List.mem_cons.mp hk).elim (fun e=>by rw [e];exact c) fun hk=>OT c (h1 k hk),h⟩
  ·next c=>
   refine List.pairwise_cons.mpr ⟨fun k hk=>?_,O1 h2 fun hm=>hx (Di _ hm)⟩;rcases MB.mp hk with rfl | hk
   ·rcases Sf k y with z | z | z
    ·exact absurd z c
    ·exact absurd (by rw [z];exact Cu) hx
    ·exact z
   ·exact h1 k hk
theorem TH {ts:List Str}(hp:ts.Perm (ss++[x]))(hs:sortedS ts=true)(h:Up ss)(hx:x∉ss):ts=E5 ss x:=by
 have nd:ts.Nodup:=hp.nodup_iff.mpr (Se (Vn h) hx);refine R7 (W0 hs nd) (O1 h hx) fun k=>?_;rw [hp.mem_iff,MB,Ht,List.mem_singleton];exact or_comm
theorem CU.len {g:Int}(h:CU ns r g ss):ss.length<=ns.length:=Ud (Vn h.up) h.sub
theorem CU.led (h:CU ns r g ss)(ok:d.Ok 40 ns)(nd:ns.Nodup):CU (d.done ns) r (d.gap ns g:Nat) (d.Ej r g ss):=by
 have g1:=h.g1;cases d with
 | put x i=>
  obtain ⟨h1,h2,h3,h4⟩:=ok;refine ⟨h.rule,by omega,?_,?_,?_⟩
  ·show ((Em i g:Nat):Int)<=((ins ns x i).length:Int);rw [PJ];unfold Em;split <;> omega
  ·show Up (if DG r g i=true then E5 ss x else ss)
   split
   ·exact O1 h.up fun hm=>h2 (h.sub x hm)
   ·exact h.up
  ·intro k hk;show k∈ins ns x i;rw [PH];have Nk:k∈(if DG r g i=true then E5 ss x else ss):=hk
   split at Nk
   ·rcases MB.mp Nk with z | z
    ·exact .inl z
    ·exact .inr (h.sub k z)
   ·exact .inr (h.sub k Nk)
 | take x=>
  have hx:x∈ns:=ok;have hl:=MW hx nd;have hj:ns.idxOf x<ns.length:=List.idxOf_lt_length_iff.mpr hx;refine ⟨h.rule,by omega,?_,XO x h.up,fun k hk=>?_⟩
  ·show ((E2 (ns.idxOf x) g:Nat):Int)<=((wo ns x).length:Int);unfold E2;split <;> omega
  ·obtain ⟨a,b⟩:=Hy.mp (show k∈wo ss x from hk);exact Hy.mpr ⟨h.sub k a,b⟩
 | move x i=>
  obtain ⟨hx,hi⟩:=ok;have hl:=MW hx nd;have hj:ns.idxOf x<ns.length:=List.idxOf_lt_length_iff.mpr hx;refine ⟨h.rule,by omega,?_,h.up,fun k hk=>?_⟩
  ·show ((Em i (E2 (ns.idxOf x) g):Nat):Int)<=((ins (wo ns x) x i).length:Int);rw [PJ];unfold Em E2;split <;> split <;> omega
  ·show k∈ins (wo ns x) x i;rw [PH,Hy]
   by_cases e:k=x
   ·exact .inl e
   ·exact .inr ⟨h.sub k hk,e⟩
 | turn lo hi=>
  obtain ⟨h1,h2⟩:=ok;refine ⟨h.rule,by omega,?_,h.up,fun k hk=>(br h1).mpr (h.sub k hk)⟩;show ((g:Nat):Int)<=((Ek ns lo hi).length:Int);rw [d9 h1 h2];exact g1
def i8:Sp:=fun vs H Q _=>∃ (g i:Nat),vs=[.int g,.int i]/\Q (.int (Em i g:Nat)) H
def fM:Sp:=fun vs H Q _=>∃ (g p:Nat),vs=[.int g,.int p]/\Q (.int (E2 p g:Nat)) H
def cG:Sp:=fun vs H Q _=>∃ (a t:Addr) (ns:List Str) (g:Nat) (d:AN),vs=[.ref a,.int g,.ref t]/\H a=some (.lst (ns.map V.str))/\H t=some (.tup d.vals)/\d.Ok 40 ns/\∀ H',A7 H H'->Q (.int (d.gap ns g:Nat)) H'
def Z9:Sp:=fun vs H Q _=>∃ (t:Addr) (r:Str) (g i:Nat) (c:Addr),vs=[.ref t,.int i]/\H t=some (.tup [.str r,.int g,.ref c])/\Q (.bl (DG r g i)) H
theorem Uo {g:Int}(h:CU ns r g ss)(ok:d.Ok 40 ns):∀ x i,d=.put x i->x∉ss:=by
 rintro x i rfl hm;exact ok.2.1 (h.sub x hm)
theorem sx (p g:Nat):((g:Int) - (if decide ((p:Int)<(g:Int))=true then 1 else 0))=((E2 p g:Nat):Int):=by
 unfold E2
 by_cases h:p<g
 ·rw [jd h,jd (jO (by omega))];omega
 ·rw [jG h,jG (by simp;omega)];omega
theorem ZAs (i g:Nat):((g:Int)+(if decide ((i:Int)<(g:Int))=true then 1 else 0))=((Em i g:Nat):Int):=by
 unfold Em
 by_cases h:i<g
 ·rw [jd h,jd (jO (by omega))];omega
 ·rw [jG h,jG (by simp;omega)];omega
def AN.kind:AN->Str
 | .put _ _ => "put"
 | .take _ => "take"
 | .move _ _ => "move"
 | .turn _ _ => "turn"
theorem GH (d:AN):Be d.vals 0=some (.str d.kind):=by cases d <;> rfl
def AN.NL (ns:List Str)(g:Nat):AN->Nat
 | .take x=>E2 (ns.idxOf x) g
 | .move x _=>E2 (ns.idxOf x) g
 | _=>g
theorem uK (g:Nat)(ok:d.Ok 40 ns)(h:Cj (.str d.kind) [.str "take", .str "move"]=true):∃ x,Be d.vals 1=some (.str x)/\x∈ns/\d.NL ns g=E2 (ns.idxOf x) g:=by
 cases d with
 | put x i=>(simp only [AN.kind] at h;exact absurd h (by decide +kernel))
 | take x=>exact ⟨x,rfl,ok,rfl⟩
 | move x i=>exact ⟨x,rfl,ok.1,rfl⟩
 | turn lo hi=>(simp only [AN.kind] at h;exact absurd h (by decide +kernel))
theorem tH (g:Nat)(h:¬ Cj (.str d.kind) [.str "take", .str "move"]=true):d.NL ns g=g:=by
 cases d with
 | put x i=>rfl
 | take x=>exact absurd (by simp only [AN.kind];decide +kernel) h
 | move x i=>exact absurd (by simp only [AN.kind];decide +kernel) h
 | turn lo hi=>rfl
theorem yd (g:Nat)(h:Cj (.str d.kind) [.str "put", .str "move"]=true):∃ i:Nat,Be d.vals 2=some (.int i)/\d.gap ns g=Em i (d.NL ns g):=by
 cases d with
 | put x i=>exact ⟨i,rfl,rfl⟩
 | take x=>(simp only [AN.kind] at h;exact absurd h (by decide +kernel))
 | move x i=>exact ⟨i,rfl,rfl⟩
 | turn lo hi=>(simp only [AN.kind] at h;exact absurd h (by decide +kernel))
theorem su (g:Nat)(h:¬ Cj (.str d.kind) [.str "put", .str "move"]=true):d.gap ns g=d.NL ns g:=by
 cases d with
 | put x i=>exact absurd (by simp only [AN.kind];decide +kernel) h
 | take x=>rfl
 | move x i=>exact absurd (by simp only [AN.kind];decide +kernel) h
 | turn lo hi=>rfl
def AN.Qz (ss:List Str):AN->List Str
 | .take x=>wo ss x
 | _=>ss
theorem ZBa {r:Str}{g:Nat}(h:decide (V.str d.kind=V.str "take")=true):∃ x,Be d.vals 1=some (.str x)/\d.Qz ss=wo ss x:=by
 cases d with
 | take x=>exact ⟨x,rfl,rfl⟩
 | _=>
  have h':=jw h;injection h' with h2
  exact absurd h2 (by simp only [AN.kind];decide +kernel)
theorem c8 (h:¬ decide (V.str d.kind=V.str "take")=true):d.Qz ss=ss:=by
 cases d with
 | take x=>exact absurd (by simp only [AN.kind];decide +kernel) h
 | _=>rfl
theorem XE (h:decide (V.str d.kind=V.str "put")=true):∃ x i,d=.put x i:=by
 cases d with
 | put x i=>exact ⟨x,i,rfl⟩
 | _=>
  have h':=jw h;injection h' with h2
  exact absurd h2 (by simp only [AN.kind];decide +kernel)
theorem bu (h:¬ decide (V.str d.kind=V.str "put")=true):d.Ej r g ss=d.Qz ss:=by
 cases d with
 | put x i=>exact absurd (by simp only [AN.kind];decide +kernel) h
 | _=>rfl
theorem VG (h:DG r g i=true):AN.Ej r g ss (.put x i)=E5 ss x:=by show (if _ then _ else _)=_;rw [jd h]
theorem Si (h:DG r g i=false):AN.Ej r g ss (.put x i)=ss:=by show (if _ then _ else _)=_;rw [jG (by rw [h];decide)]
theorem UX (h:decide (V.str d.kind=V.str "take")=true):∃ x,d=.take x:=by
 cases d with
 | take x=>exact ⟨x,rfl⟩
 | _=>
  have h':=jw h;injection h' with h2
  exact absurd h2 (by simp only [AN.kind];decide +kernel)
theorem mC (h:decide (V.str d.kind=V.str "move")=true):∃ x i,d=.move x i:=by
 cases d with
 | move x i=>exact ⟨x,i,rfl⟩
 | _=>
  have h':=jw h;injection h' with h2
  exact absurd h2 (by simp only [AN.kind];decide +kernel)
theorem vT (h1:¬ decide (V.str d.kind=V.str "put")=true)(h2:¬ decide (V.str d.kind=V.str "take")=true)(h3:¬ decide (V.str d.kind=V.str "move")=true):∃ lo hi,d=.turn lo hi:=by
 cases d with
 | put x i=>exact absurd (by simp only [AN.kind];decide +kernel) h1
 | take x=>exact absurd (by simp only [AN.kind];decide +kernel) h2
 | move x i=>exact absurd (by simp only [AN.kind];decide +kernel) h3
 | turn lo hi=>exact ⟨lo,hi,rfl⟩
theorem qh (h1:¬ decide (V.str d.kind=V.str "put")=true)(h2:¬ decide (V.str d.kind=V.str "take")=true):d.Ej r g ss=ss:=by
 rw [bu h1,c8 h2]
def AN.v1:AN->V
 | .put x _=>.str x
 | .take x=>.str x
 | .move x _=>.str x
 | .turn lo _=>.int lo
theorem hG (d:AN):Be d.vals 1=some d.v1:=by cases d <;> rfl
theorem rA (y:Str)(d:AN):OD (.str y) d.v1=true:=by cases d <;> rfl
def AN.made (ns:List Str):AN->List Str
 | .put x _=>wo ns x
 | .take x=>wo ns x
 | .move x _=>wo ns x
 | .turn _ _=>ns
theorem jz (ns:List Str)(d:AN):((ns.map V.str).filter (GV d.v1)).map (fun v=>v)=(d.made ns).map V.str:=by
 cases d with
 | turn lo hi=>exact p9 ns lo
 | _=>exact MK ns _
theorem tw (ns:List Str)(d:AN):(d.made ns).length<=ns.length:=by
 cases d with
 | turn lo hi=>exact Ao _
 | _=>exact Ll _ _
theorem tD (h:decide (V.str d.kind=V.str "turn")=true):∃ lo hi,d=.turn lo hi:=by
 cases d with
 | turn lo hi=>exact ⟨lo,hi,rfl⟩
 | _=>
  have h':=jw h;injection h' with h2
  exact absurd h2 (by simp only [AN.kind];decide +kernel)
theorem qe (h:¬ (!decide (V.str d.kind=V.str "take"))=true):d.done ns=d.made ns:=by
 have h':decide (V.str d.kind=V.str "take")=true:=by simpa using h
 obtain ⟨x,rfl⟩:=UX h';rfl
theorem kF (ok:d.Ok 40 ns)(nd:ns.Nodup)(h1:¬ decide (V.str d.kind=V.str "turn")=true)(h2:(!decide (V.str d.kind=V.str "take"))=true):
  ∃ (x:Str) (i:Nat),Be d.vals 2=some (.int i)/\d.v1=.str x/\i<=(d.made ns).length/\d.done ns=ins (d.made ns) x i:=by
 cases d with
 | put x i=>
  refine ⟨x,i,rfl,rfl,?_,?_⟩
  ·show i<=(wo ns x).length;rw [La ok.2.1];exact ok.2.2.1
  ·show ins ns x i=ins (wo ns x) x i;rw [La ok.2.1]
 | take x=>exact absurd h2 (by simp only [AN.kind];decide +kernel)
 | move x i=>
  refine ⟨x,i,rfl,rfl,?_,rfl⟩;show i<=(wo ns x).length;have:=MW ok.1 nd;have:=ok.2;omega
 | turn lo hi=>exact absurd (by simp only [AN.kind];decide +kernel) h1
def OI:Sp:=fun vs H Q _=>∃ r:Str,vs=[.str r]/\r∈Cn/\Q .AB H
theorem LN (nd:rs.Nodup)(h:rs[g]?=some x):rs.idxOf x=g:=by
 obtain ⟨hg,e⟩:=List.getElem?_eq_some_iff.mp h;have hx:x∈rs:=DK h;have hj:rs.idxOf x<rs.length:=List.idxOf_lt_length_iff.mpr hx;have e2:rs[rs.idxOf x]=x:=Xq hj;have pw:=List.pairwise_iff_getElem.mp nd;rcases ZD3 (rs.idxOf x) g with c | c | c
 ·exact absurd (e2.trans e.symm) (pw _ _ hj hg c)
 ·exact c
 ·exact absurd (e.trans e2.symm) (pw _ _ hg hj c)
end Lw
namespace L2
section
variable {X:Cx}{pins:ZE6}{σ:St}{H2:Hp}{s2:Shared}{elt iter:Expr}{x z:Str}{px pz tp pos:Pos}{tk:Nat}{scope:Scope}{Af:List Str}{js:List Nat}{te:TE}{J:It}{fp:List Addr}{it:Addr}
 {tn:Nat->Heap->Prop}
end
end L2
namespace Fz
open L2 Lw
variable {E:Ent0}{ss:List Slot}{σ:L2.St}{F F' H H':Hp}{js:List Nat}{ta tb te:TE}{nx:List Slot->Prop}{R:Aq}{i:Nat}{ns:List Int}{wi:TI}{α:Type}{xs:List PV}
section
variable [Xw]
variable {K:ZE5}{k:PV->Prop}
theorem Sg.Ox (S:Sg E ss σ F H){p:Addr}(hi:ss[i]?=some .AD)(e:σ[i]?=some (some (.ref p)))(s:BJ p H H'):Mv E ss σ F H F H':=by
 obtain ⟨p',e',fp,_,pp⟩:=S.ok i _ hi;rw [e] at e';cases e';refine S.step (A7.refl _) (fun a o q=>s.same a o (DX q fp) (S.fh a o q)) (fun a o n q=>s.same a o (fun z=>?_) q) (fun a o q=>.inl q) fun j l hj ej=>?_
 ·rw [z] at n;exact n i hi e
 ·by_cases z:l=p
  ·rw [z];exact s.AD
  ·exact BR.keep (S.EA hj ej) fun o q=>s.same l o z q
theorem oA (hi:ss[i]?=some .AD)(h:Wp ss te fun x=>∃ m,x=.int m/\0<m/\m<10 ^ 18/\∀ r:Int,0<=r->r<m->k (.int r)):Wp ss (Bz IW [] E0 (AV (BL i) (AV te B5))) k:=⟨fun E σ F H Q S q=>by
 obtain ⟨p,e,_⟩:=S.ok i _ hi;refine ⟨_,e,h.go E σ F H _ S fun v x F1 H1 m1 r ⟨m,em,m0,Mr,kk⟩=>?_⟩;subst em;cases r.inv;exact ⟨p,m,rfl,m1.st.EA hi e,m0,Mr,fun r H2 r0 r1 s=>q _ _ F1 H2 (m1.trans (m1.st.Ox hi e s)) (.int r) (kk r r0 r1)⟩⟩
theorem bU {sp:Sp}{k:List PV->Prop}(FD:sp=WQ)(hi:ss[i]?=some .AD)(h:Wp ss te fun x=>∃ m,x=.int m/\1<=m/\m<=100/\∀ ns:List Str,(ns.length:Int)<=m->(∀ x∈ns,Nm x)->ns.Nodup->k (ns.map PV.str)):Wn ss (Bz sp [] E0 (AV (BL i) (AV te B5))) k:=⟨fun E σ F H Q S q=>by
 subst FD;obtain ⟨p,e,_⟩:=S.ok i _ hi;refine ⟨_,e,h.go E σ F H _ S fun v x F1 H1 m1 r ⟨m,em,m0,Mr,kk⟩=>?_⟩;subst em;cases r.inv;refine ⟨p,m,rfl,m1.st.EA hi e,m0,Mr,fun l H2 ns hl s D9 hz hN nd=>?_⟩;have m2:=m1.st.Ox hi e s;exact q l _ _ F1 H2 (m1.trans m2) (m1.st.BH hl) (m1.none hl) D9 (Jb ns) (kk ns hz hN nd)⟩
def DB (K:ZE5)(ns:List Int):Hp->V->Prop:=fun F v=>∃ a,v=.ref a/\AF K F a (ns.map V.int)
theorem VU (K:ZE5)(ns:List Int):∀ (v:V) (F F':Hp),A7 F F'->DB K ns F v->DB K ns F' v:=fun v F F' s AJ=>by obtain ⟨a,e,h⟩:=AJ;exact ⟨a,e,by
 rcases h with (h | ⟨o,h⟩) | h
 ·exact .inl (.inl (s _ _ h))
 ·exact .inl (.inr ⟨o,s _ _ h⟩)
 ·exact .inr h⟩
theorem ZAm (hi:ss[i]?=some (.raw (DB K ns)))(h:k (.int ns.length)):Wp ss (Ck (Rh K) (AV (BL i) B5)) k:=⟨fun E σ F H Q S q=>by
 obtain ⟨v,e,⟨a,ev,hq⟩,st⟩:=S.ok i _ hi;subst ev;obtain ⟨a',ea,HV⟩:=VU K ns _ F H S.fh ⟨a,rfl,hq⟩;cases ea;refine ⟨_,e,a,_,rfl,.inl HV,?_⟩;rw [Ab];exact q _ _ F H (.refl S) (.int _) h⟩
theorem WI {j:Nat}(hi:ss[i]?=some (.raw (DB K ns)))(h:Wp ss te fun x=>∃ m,x=.int m/\0<=m/\m<=1000/\nx (ss.set j .AD)):Ws ss (EX (Bz (W7 K) [] E0 (AV (BL i) (AV te B5))) (D1 j)) nx R:=⟨fun E D σ F H S hn hr=>by
 obtain ⟨v,e,⟨a,ev,hq⟩,st⟩:=S.ok i _ hi;subst ev;refine ⟨_,e,h.go E σ F H _ S fun v x F1 H1 m1 r ⟨m,em,m0,Mr,kk⟩=>?_⟩;subst em;cases r.inv;obtain ⟨v',e',mM,_⟩:=m1.st.ok i _ hi;rw [e] at e';cases e';obtain ⟨a',ea,HV⟩:=VU K ns _ F1 H1 m1.st.fh mM;cases ea;refine ⟨a,ns,m,rfl,HV,m0,Mr,fun p H2 hp s pp=>?_⟩;have m2:=m1.st.grow s;exact hn _ _ F1 H2 kk (m2.st.setG ⟨p,rfl,m1.st.BH hp,.inl (m1.st.D6 hp),pp⟩ fun l e b u _ hu mu=>by cases e;exact m1.st.Mi hu hp mu) m1.ff⟩
end
section
variable {K:ZE5}
theorem yo {N:List Str}{vs:List V}{Q:VK}{X:XK}{t:TS}(h:Mw K vs H Q X)(hw:∀ ns:List Int,ns.length<=63->Ws (.raw (DB K ns)::List.replicate (N.length - 1) .any) t (fun _=>False) (.is fun p=>p=.bl true)):t { nx:=fun _ H'=>Q .AB H',rt:=Q } (L2.start N vs) H:=by
 obtain ⟨a,ns,rfl,hS,fe,q⟩:=h;have S:Sg (E3 [] H H) [.raw (DB K ns)] [some (.ref a)] H H:=by
  have nn:∀ {p:Prop}(a:Addr),a∈([]:List Addr)->p:=fun a h=>absurd h Au;refine ⟨⟨A7.refl _,A7.refl _,fun _ _ _ e=>e,fun _ _ e=>.inl e,fun a h=>nn a h,fun a h=>nn a h,fun a h=>nn a h,fun a h=>nn a h,fun a h=>nn a h,fun a h=>nn a h⟩,rfl,fun i s hi=>?_,fun i j s u l Br hi hj ms=>?_⟩
  ·cases i with
   | zero=>cases hi;exact ⟨_,rfl,⟨a,rfl,hS⟩,VU K ns _⟩
   | succ i=>simp at hi
  ·cases i with
   | zero=>cases hi;cases ms
   | succ i=>simp at hi
 refine (hw ns fe).go (Pt (E3 [] H H)) _ _ H H (S.grown _) (fun _ _ _ _ h=>h.elim) fun v F' H' f ok=>?_;obtain ⟨p,r,rfl⟩:=ok;cases r.inv;exact q H'
end
section
variable [Xw]
variable {K:ZE5}{k:PV->Prop}
theorem Wi.mono {k k':List PV->Prop}(h:Wi ss wi k)(i:∀ xs,k xs->k' xs):Wi ss wi k':=⟨fun E σ F H R S q=>h.go E σ F H R S fun J xs F' H' m s kk=>q J xs F' H' m s (i xs kk)⟩
theorem tW {tt:TT}{k:List PV->Prop}(c:α->PV)(f:α->Bool)(g:α->PV)
  (h:Wi ss wi fun xs=>∃ ns:List α,xs=ns.map c/\ns.length<=100000/\(∀ x∈ns,Wt (DU js ss++[.is (c x)]) tt fun b=>b=f x)/\(∀ x∈ns,f x=true->Wp (DU js ss++[.is (c x)]) te fun p=>p=g x)/\k ((ns.filter f).map g))
  (inj:∀ x y,c x=c y->x=y) (nd:js.Nodup:=by decide) (np:Sn js ss=true:=by rfl):Wn ss (Im wi js tt te) k:=by
 by_cases hα:Nonempty α
 ·obtain ⟨x0⟩:=hα;have inv:∀ p:PV,∃ x:α,∀ y,c y=p->y=x:=fun p=>by
   by_cases q:∃ y,c y=p
   ·obtain ⟨y,hy⟩:=q;exact ⟨y,fun z hz=>inj _ _ (hz.trans hy.symm)⟩
   ·exact ⟨x0,fun y hy=>absurd ⟨y,hy⟩ q⟩
  let d:PV->α:=fun p=>Classical.choose (inv p)
  have hd:∀ x,d (c x)=x:=fun x=>(Classical.choose_spec (inv (c x)) x rfl).symm;refine bR (fun p=>f (d p)) (fun p=>g (d p)) (h.mono fun xs ⟨ns,e,hz,h1,h2,kk⟩=>?_) nd np;subst e;refine ⟨by rw [Ab];exact hz,fun x hx=>?_,fun x hx hf=>?_,?_⟩
  ·obtain ⟨y,hy,rfl⟩:=List.mem_map.mp hx;rw [hd];exact h1 y hy
  ·obtain ⟨y,hy,rfl⟩:=List.mem_map.mp hx;rw [hd] at hf ⊢;exact h2 y hy hf
  ·have e:((ns.map c).filter fun p=>f (d p)).map (fun p=>g (d p))=(ns.filter f).map g:=by
    rw [iU,HC]
    congr 1
    ·funext x;show g (d (c x))=g x;rw [hd]
    ·congr 1;funext x;show f (d (c x))=f x;rw [hd]
   rw [e];exact kk
 ·refine bR (fun _=>true) (fun p=>p) (h.mono fun xs ⟨ns,e,hz,h1,h2,kk⟩=>?_) nd np;have en:ns=[]:=by
   cases ns with
   | nil=>rfl
   | cons x r=>exact absurd ⟨x⟩ hα
  subst en;subst e;exact ⟨by simp,fun x hx=>absurd hx (by simp),fun x hx=>absurd hx (by simp),kk⟩
theorem str_inj:∀ x y:Str,PV.str x=PV.str y->x=y:=fun _ _ e=>by injection e
theorem yb (h:Wp ss ta fun p=>∃ x,p=.str x/\Wq ss tb fun _ ys=>∃ ns:List Str,ys=ns.map PV.str/\k (.bl (decide (x∈ns)))):Wp ss (Bx (K6 K false) ta tb) k:=ZAB h
theorem rM (h:Wq ss ta fun tp xs=>∃ ns:List Str,xs=ns.map PV.str/\Wq ss tb fun CM ys=>CM=tp/\∃ ms:List Str,ys=ms.map PV.str/\k (.bl (decide (ns=ms)))):Wp ss (Bx (MF K false) ta tb) k:=ZG h
theorem ZAZ (h:Wq ss ta fun tp xs=>∃ ns:List Str,xs=ns.map PV.str/\Wq ss tb fun CM ys=>CM=tp/\∃ ms:List Str,ys=ms.map PV.str/\k (.bl (!decide (ns=ms)))):Wp ss (Bx (MF K true) ta tb) k:=ZG h
theorem jq {β:Type}(c:α->β)(xs:List α)(lo hi:Option Int):IJ (xs.map c) lo hi=(IJ xs lo hi).map c:=by
 unfold IJ;rw [Ab,Ln,Lm]
theorem k8 (g:α->Bool)(xs:List α):xs.map (fun x=>PV.bl (g x))=(xs.map g).map PV.bl:=by rw [HC];rfl
variable {ys:List PV}
def JS (xs:List PV):List PV:=(List.range xs.length).map fun i:Nat=>.tup [.int (i:Int),xs.getD i .AB]
theorem X8 (xs:List PV):(JS xs).length=xs.length:=by simp [JS]
theorem cJ {x:PV}(h:xs[i]?=some x):(JS xs)[i]?=some (.tup [.int (i:Int),x]):=by
 have hi:i<xs.length:=(List.getElem?_eq_some_iff.mp h).1;unfold JS;rw [Ax,RH hi];show some (PV.tup [PV.int (i:Int),xs.getD i PV.AB])=_;rw [Lj,h];rfl
theorem pM {p:PV}(h:(JS xs)[i]?=some p):∃ x,xs[i]?=some x/\p=.tup [.int (i:Int),x]:=by
 have hi:i<xs.length:=by have:=(List.getElem?_eq_some_iff.mp h).1;rwa [X8] at this
 have e:=BE hi;refine ⟨xs[i],e,?_⟩;rw [cJ e] at h;exact (BO h).symm
theorem jk {r:List V->Hp->VK->Prop}(hr:r=fun xs H Q=>(∃ i,xs=[.int i]/\Q (.int i) H)∨∃ k,xs=[.bl k]/\Q (.int (if k then 1 else 0)) H)(h:Wp ss te fun p=>∃ b,p=.bl b/\k (.int (if b then 1 else 0))):Wp ss (Ck r (AV te B5)) k:=⟨fun E σ F H Q S q=>
 h.go E σ F H _ S fun v p F1 H1 m1 r AJ=>by
  obtain ⟨b,e,kk⟩:=AJ;subst hr;subst e;cases r.inv;exact .inr ⟨b,rfl,q _ _ F1 H1 m1 (.int _) kk⟩⟩
end
theorem Vs {c A B:Prop}[Decidable c](h:c)(a:A):if c then A else B:=by rw [jd h];exact a
end Fz
namespace L2
theorem yg {X:Cx}{tg:Expr}{a b:Expr}{ta:TA}{p pos:Pos}(hg:Gl X "range")(hm:X.mg "range"=none)(ha:QA X [a,b] ta)(hs:starEach [a,b] X.env=[(false,eval a X.env),(false,eval b X.env)]:=by rfl)(Cc:starEach [b] X.env=[(false,eval b X.env)]:=by rfl):QI X tg (.Call (.Name "range" p) [a,b] [] pos) (TY ta):=⟨by
 have ha:=ha.h;intro pins s σ H R I h;refine Call_ (IU I hg hm boot_range (Ny (AO (ha pos pins s σ H _ I h) fun us s1 ⟨vs,H1,I1,r1,q1⟩=>?_) (by rw [hs,Cc]) (by rw [Cc];rfl)));obtain ⟨i,j,e,⟨q1,q2,q3,q4⟩,q⟩:=q1;subst e;cases r1 with
 | cons r rr=>
  cases rr with
  | cons r' rr=>
   cases rr;obtain ⟨t,rfl⟩:=r;obtain ⟨t',rfl⟩:=r';exact call_range_2 (eP I1 q1 q2 q3 q4 q)⟩
end L2
namespace Fz
open L2 Lw
variable {d:AN}{t:Addr}
section
variable [Xw]
variable {E:Ent0}{ss:List Slot}{σ:L2.St}{F H F' H':Hp}{K:ZE5}{js:List Nat}{ta tb tc te:TE}{k:PV->Prop}{nx:List Slot->Prop}{R:Aq}{xs ys:List PV}
def J3 (i:Int)(n:Nat):List PV:=(List.range n).map fun j:Nat=>PV.int (i+(j:Int))
theorem Pu (i:Int)(n:Nat):(J3 i n).length=n:=by simp [J3]
theorem je {i:Int}{n j:Nat}{p:PV}(h:(J3 i n)[j]?=some p):j<n/\p=.int (i+(j:Int)):=by
 have hj:j<n:=by have:=(List.getElem?_eq_some_iff.mp h).1;rwa [Pu] at this
 unfold J3 at h;rw [Ax,RH hj] at h;exact ⟨hj,(BO h).symm⟩
theorem ZBe {k:List PV->Prop}(h:Wp ss ta fun p=>∃ i:Int,p=.int i/\Wp ss tb fun p=>∃ j:Int,p=.int j/\(i<=1000000/\-1000000<=i/\j<=1000000/\-1000000<=j)/\k (J3 i (j - i).toNat)):Wi ss (TY (AV ta (AV tb B5))) k:=⟨fun E σ F H R S q=>
 h.go E σ F H _ S fun v p F1 H1 m1 r AJ=>by
  obtain ⟨i,e,h2⟩:=AJ;subst e;cases r.inv;exact h2.go E σ F1 H1 _ m1.st fun v2 p2 F2 H2 m2 r2 DO=>by
   obtain ⟨j,e2,hb,kk⟩:=DO;subst e2;cases r2.inv;refine ⟨i,j,rfl,by omega,q _ (J3 i (j - i).toNat) F2 H2 (m1.trans m2) ⟨fun ss σ F H n s S hn=>?_,fun ss σ F H s S=>?_,fun ss σ F H n x H' s S hn y=>?_⟩ kk⟩
   ·rw [Pu] at hn;exact hn
   ·show _<=_;rw [Pu];exact Ao _
   ·obtain ⟨e,hx⟩:=y;subst e;subst hx;rw [Pu] at hn;refine ⟨.int (i+(n:Int)),F,?_,.refl S,.int _⟩;unfold J3;rw [Ax,RH hn];rfl⟩
def dP:AN->PV
 | .put x i=>.tup [.str "put", .str x,.int i]
 | .take x=>.tup [.str "take", .str x]
 | .move x i=>.tup [.str "move", .str x,.int i]
 | .turn lo hi=>.tup [.str "turn", .int lo,.int hi]
theorem nC (h:F t=some (.tup d.vals)):Rep F (.ref t) (dP d):=by
 cases d with
 | put x i=>exact .tup h (.cons (.str _) (.cons (.str _) (.one (.int _))))
 | take x=>exact .tup h (.cons (.str _) (.one (.str _)))
 | move x i=>exact .tup h (.cons (.str _) (.cons (.str _) (.one (.int _))))
 | turn lo hi=>exact .tup h (.cons (.str _) (.cons (.int _) (.one (.int _))))
theorem Od {v:V}(r:Rep F v (dP d)):∃ t,v=.ref t/\F t=some (.tup d.vals):=by
 cases d <;> (obtain ⟨a,vs,rfl,h,rr⟩:=r.inv;cases rr.enc rfl;exact ⟨a,rfl,h⟩)
theorem Sg.adopt (S:Sg E ss σ F H)(m:Mv E ss σ F H F H'){o:HO}(ht:H t=none)(e:H' t=some o):Mv E ss σ F H (upd F t o) H':=by
 have fn:=S.BH ht;refine S.step (AW fn o) (fun a u q=>?_) m.hh (fun a u q=>?_) fun i l hi ei=>m.st.EA hi ei
 ·by_cases z:a=t
  ·subst z;rw [AE] at q;rw [<- q];exact e
  ·rw [AX z] at q;exact m.st.fh a u q
 ·by_cases z:a=t
  ·subst z;exact .inr ht
  ·rw [AX z] at q;exact .inl q
theorem aj {i:Nat}(hi:ss[i]?=some .AD)(h:Wq ss ta fun tp xs=>tp=false/\∃ ns:List Str,xs=ns.map PV.str/\Wp ss tb fun p=>∃ m:Nat,p=.int m/\(∀ x∈ns,Nm x)/\ns.length<=m/\1<=m/\m<=100/\∀ d:AN,d.Ok m ns->k (dP d)):
  Wp ss (Bz Qb [] E0 (AV (BL i) (AV ta (AV tb B5)))) k:=⟨fun E σ F H Q S q=>by
 obtain ⟨p,e,_⟩:=S.ok i _ hi;refine ⟨_,e,h.go E σ F H _ S fun v tp xs F1 H1 m1 sv ⟨et,ns,ex,h2⟩=>h2.go E σ F1 H1 _ m1.st fun v2 p2 F2 H2 m2 r2 ⟨m,em,hN,hz,h1,h3,kk⟩=>?_⟩;subst et;subst ex;subst em;cases r2.inv;obtain ⟨l,vs,ev,hn,hl,r⟩:=sv.mv m2;subst ev;rw [r.strs] at hl;refine ⟨p,l,m,ns,rfl,m2.st.EA hi e,hl,fun z=>hn i hi (z▸e),hN,hz,h1,h3,fun d t H3 ht s e3 hd=>?_⟩;have m3:=m2.st.adopt (m2.st.Ox hi e s) ht e3;exact q _ _ _ H3 (m1.trans (m2.trans m3)) (nC AE) (kk d hd)⟩
theorem ZM {k:List PV->Prop}(h:Wq ss ta fun tp xs=>tp=false/\∃ ns:List Str,xs=ns.map PV.str/\Wp ss tb fun p=>∃ d:AN,p=dP d/\d.Ok 40 ns/\ns.length<=40/\ns.Nodup/\k ((d.done ns).map PV.str)):
  Wn ss (Bz VY [] E0 (AV ta (AV tb B5))) k:=⟨fun E σ F H Q S q=>
 h.go E σ F H _ S fun v tp xs F1 H1 m1 sv ⟨et,ns,ex,h2⟩=>h2.go E σ F1 H1 _ m1.st fun v2 p2 F2 H2 m2 r2 ⟨d,em,hd,hz,nd,kk⟩=>by
  subst et;subst ex;subst em;obtain ⟨l,vs,ev,hl,r⟩:=(sv.mv m2).seq m2.st;subst ev;rw [r.strs] at hl;obtain ⟨t,et,ht⟩:=Od r2;subst et;refine ⟨l,t,ns,d,rfl,hl,m2.st.fh _ _ ht,hd,hz,nd,fun a H3 ha s e3=>?_⟩;have m3:=m2.st.grow s;exact q a _ _ F2 H3 (m1.trans (m2.trans m3)) (m2.st.BH ha) ((m1.trans m2).none ha) e3 (Jb _) kk⟩
end
end Fz
namespace Lw
open L2
variable {c t:Addr}{r:Str}{g:Int}{ss:List Str}
def gR:Sp:=fun vs H Q _=>∃ (a t:Addr) (tp:Bool) (ns:List Str) (g:Nat) (d:AN),vs=[.ref a,.int g,.ref t]/\H a=some (BM tp (ns.map V.str))/\H t=some (.tup d.vals)/\d.Ok 40 ns/\Q (.int (d.gap ns g:Nat)) H
def DS (H:Hp)(t c:Addr)(r:Str)(g:Int)(ss:List Str):Prop:=H t=some (.tup [.str r,.int g,.ref c])/\H c=some (.tup (ss.map V.str))
theorem DS.h {H:Hp}(h:DS H t c r g ss):HZ H t r g ss:=⟨c,h⟩
theorem DS.same {H H':Hp}(s:A7 H H')(h:DS H t c r g ss):DS H' t c r g ss:=⟨s _ _ h.1,s _ _ h.2⟩
def cL:Sp:=fun vs H Q _=>∃ (tl td c0:Addr) (r:Str) (g:Nat) (ss:List Str) (d:AN),vs=[.ref tl,.ref td]/\DS H tl c0 r g ss/\H td=some (.tup d.vals)/\ss.length<=60/\Up ss/\(∀ x i,d=.put x i->x∉ss)/\
 ∀ c H',(H c=none∨c=c0)->A7 H H'->H' c=some (.tup ((d.Ej r g ss).map V.str))->Q (.ref c) H'
def RO:Sp:=fun vs H Q _=>∃ (a tl td c0:Addr) (tp:Bool) (ns:List Str) (r:Str) (g:Nat) (ss:List Str) (d:AN),vs=[.ref a,.ref tl,.ref td]/\H a=some (BM tp (ns.map V.str))/\DS H tl c0 r g ss/\H td=some (.tup d.vals)/\d.Ok 40 ns/\CU ns r g ss/\ns.length<=40/\
 ∀ t' c' H',H t'=none->(H c'=none∨c'=c0)->A7 H H'->DS H' t' c' r (d.gap ns g:Nat) (d.Ej r g ss)->Q (.ref t') H'
def X4:Sp:=fun vs H Q _=>∃ (a tl td c0:Addr) (ns:List Str) (r:Str) (g:Nat) (ss:List Str) (d:AN),vs=[.ref a,.ref tl,.ref td]/\H a=some (.lst (ns.map V.str))/\DS H tl c0 r g ss/\H td=some (.tup d.vals)/\d.Ok 40 ns/\CU ns r g ss/\ns.length<=40/\
 ∀ t' c' H',H t'=none->(H c'=none∨c'=c0)->A7 H H'->DS H' t' c' r (d.gap ns g:Nat) (d.Ej r g ss)->Q (.ref t') H'
def gI (K:ZE5):Sp:=fun vs H Q _=>∃ (a:Addr) (tp:Bool) (ns:List Str) (t:Addr) (r:Str) (g:Nat) (ss:List Str) (x:Str),vs=[.ref a,.ref t,.str x]/\H a=some (BM tp (ns.map V.str))/\HZ H t r g ss/\ss.length<64/\x∈ns/\
 ∀ t' c' H',H t'=none->H c'=none->A7 H H'->DS H' t' c' r ((ns.idxOf x:Nat)+1) (wo ss x)->Q (.ref t') H'
def T7 (H H':Hp)(t' t:Addr)(ns:List Str)(r:Str)(g:Nat)(ss:List Str):Prop:=
 (Cy ns g ss=[]/\H' t'=some (.tup [.AB,.ref t]))∨∃ x EB t2 c2,Cy ns g ss=x::EB/\H t2=none/\H c2=none/\H' t'=some (.tup [.str x,.ref t2])/\DS H' t2 c2 r ((ns.idxOf x:Nat)+1) (wo ss x)
def Wc (K:ZE5):Sp:=fun vs H Q _=>∃ (a:Addr) (tp:Bool) (ns:List Str) (t:Addr) (r:Str) (g:Nat) (ss:List Str),vs=[.ref a,.ref t]/\H a=some (BM tp (ns.map V.str))/\HZ H t r g ss/\ss.length<64/\Eb ns r g ss=true/\ns.length<=1000/\
 ∀ t' H',H t'=none->A7 H H'->T7 H H' t' t ns r g ss->Q (.ref t') H'
def Ri:Sp:=fun vs H Q _=>∃ (a:Addr) (ns:List Str) (t:Addr) (r:Str) (g:Nat) (ss:List Str),vs=[.ref a,.ref t]/\H a=some (.lst (ns.map V.str))/\HZ H t r g ss/\ss.length<64/\ns.length<=1000/\
 ∀ t' H',H t'=none->A7 H H'->T7 H H' t' t ns r g ss->Q (.ref t') H'
def XZ (K:ZE5):Sp:=fun vs H Q _=>∃ (a:Addr) (tp:Bool) (ns:List Str) (r:Str),vs=[.ref a,.str r]/\CN K tp H a (ns.map V.str)/\r∈Cn/\ns.length<64/\∀ t c H' ts,H t=none->H c=none->A7 H H'->ts.Perm ns->sortedS ts=true->DS H' t c r (0:Nat) ts->Q (.ref t) H'
end Lw
namespace Fz
open L2 Lw
variable {E:Ent0}{ss:List Slot}{σ:L2.St}{F F' F0 F1 H H' H0:Hp}{js m p:List Nat}{ta tb tc te ti:TE}{nx:List Slot->Prop}{R:Aq}{n t u:OV}{o:HO}{v x:V}{r:Str}{g i j:Nat}{cs ns:List Str}{a b c:Addr}{ps xs ys:List PV}{A:Around}{C3 vs ws:List V}{A4 Ba:List Value}{CM tp:Bool}{q:PV}{tr:TA}{us:List OV}{pre:Pre}
def CS (r:Str)(g:Nat)(ss:List Str):PV:=.tup [.str r,.int g,.tup (ss.map .str)]
section
variable [Xw]
variable {K:ZE5}{k:PV->Prop}
theorem Mv.adopt (m:Mv E ss σ F H F1 H')(S:Sg E ss σ F H){t:Addr}(ht:H t=Option.none)(e:H' t=some o):Mv E ss σ F H (upd F1 t o) H':=by
 have sm:A7 F1 (upd F1 t o):=fun a u q=>by
  by_cases z:a=t
  ·subst z;have w:=m.st.fh _ _ q;rw [e] at w;rw [AE];exact w
  ·rw [AX z];exact q
 refine S.step (m.ff.trans sm) (fun a u q=>?_) m.hh (fun a u q=>?_) fun i l hi ei=>m.st.EA hi ei
 ·by_cases z:a=t
  ·subst z;rw [AE] at q;rw [<- q];exact e
  ·rw [AX z] at q;exact m.st.fh a u q
 ·by_cases z:a=t
  ·subst z;exact .inr ht
  ·rw [AX z] at q;exact m.nn a u q
theorem Oi (h:Rep F v (CS r g cs)):∃ t c,v=.ref t/\DS F t c r g cs:=by
 obtain ⟨_,_,rfl,e,q⟩:=h.inv;obtain ⟨_,_,rfl,a,q⟩:=q.inv;obtain ⟨_,_,rfl,b,q⟩:=q.inv;obtain ⟨_,_,rfl,c,q⟩:=q.inv;cases q;cases a;cases b;obtain ⟨_,_,rfl,e2,q2⟩:=c.inv;rw [q2.strs] at e2;exact ⟨_,_,rfl,e,e2⟩
theorem Sh {t:Addr}(h:DS F t c r g cs):Rep F (.ref t) (CS r g cs):=.tup h.1 (.cons (.str _) (.cons (.int _) (.one (.tup h.2 (Jb cs)))))
theorem Mv.VX (m:Mv E ss σ F H F1 H')(S:Sg E ss σ F H){t c0:Addr}(ht:H t=Option.none)(hc:H c=Option.none∨c=c0)(h0:F c0=some o)(e:DS H' t c r g cs):∃ F2,Mv E ss σ F H F2 H'/\A7 F1 F2/\Rep F2 (.ref t) (CS r g cs):=by
 have key:∃ F2,Mv E ss σ F H F2 H'/\A7 F1 F2/\F2 c=some (.tup (cs.map V.str)):=by
  rcases hc with hc | rfl
  ·refine ⟨_,m.adopt S hc e.2,fun a u q=>?_,AE⟩
   by_cases z:a=c
   ·subst z;have w:=m.st.fh _ _ q;rw [e.2] at w;rw [AE];exact w
   ·rw [AX z];exact q
  ·refine ⟨F1,m,A7.refl _,?_⟩;have w:=m.ff _ _ h0;have w2:=m.st.fh _ _ w;rw [e.2] at w2;rw [w,<- w2]
 obtain ⟨F2,m2,s2,Jp⟩:=key;have sm:A7 F2 (upd F2 t (.tup [.str r,.int g,.ref c])):=fun a u q=>by
  by_cases z:a=t
  ·subst z;have w:=m2.st.fh _ _ q;rw [e.1] at w;rw [AE];exact w
  ·rw [AX z];exact q
 exact ⟨_,m2.adopt S ht e.1,s2.trans sm,Sh ⟨AE,sm _ _ Jp⟩⟩
theorem xf (h:Wq ss ta fun tp xs=>∃ ns:List Str,xs=ns.map PV.str/\Wp ss tb fun p=>∃ (r:Str) (g:Nat) (cs:List Str),p=CS r g cs/\Wp ss tc fun p2=>∃ d:AN,p2=dP d/\d.Ok 40 ns/\CU ns r g cs/\ns.length<=40/\k (CS r (d.gap ns g) (d.Ej r g cs))):
  Wp ss (Bz RO [] E0 (AV ta (AV tb (AV tc B5)))) k:=⟨fun E σ F H Q S q=>
 h.go E σ F H _ S fun v tp xs F1 H1 m1 sv ⟨ns,ex,h2⟩=>h2.go E σ F1 H1 _ m1.st fun v2 p2 F2 H2 m2 r2 ⟨r,g,cs,ep,h3⟩=>h3.go E σ F2 H2 _ m2.st fun v3 p3 F3 H3 m3 r3 ⟨d,ed,hd,gd,hz,kk⟩=>by
  subst ex;subst ep;subst ed;obtain ⟨l,vs,rfl,hl,rr⟩:=(sv.mv (m2.trans m3)).seq m3.st;rw [rr.strs] at hl;obtain ⟨tl,c0,rfl,lc⟩:=Oi (r2.mono m3.ff);obtain ⟨t,rfl,ht⟩:=Od r3;refine ⟨l,tl,t,c0,tp,ns,r,g,cs,d,rfl,hl,lc.same m3.st.fh,m3.st.fh _ _ ht,hd,gd,hz,fun t' c' H4 ED Fw s4 e4=>?_⟩;obtain ⟨F4,m4,_,r4⟩:=(m3.st.grow s4).VX m3.st ED Fw lc.2 e4;exact q _ _ F4 H4 (m1.trans (m2.trans (m3.trans m4))) r4 kk⟩
theorem ZBW (h:Wq ss ta fun tp xs=>tp=false/\∃ ns:List Str,xs=ns.map PV.str/\Wp ss tb fun p=>∃ (r:Str) (g:Nat) (cs:List Str),p=CS r g cs/\Wp ss tc fun p2=>∃ d:AN,p2=dP d/\d.Ok 40 ns/\CU ns r g cs/\ns.length<=40/\k (CS r (d.gap ns g) (d.Ej r g cs))):
  Wp ss (Bz X4 [] E0 (AV ta (AV tb (AV tc B5)))) k:=⟨fun E σ F H Q S q=>
 h.go E σ F H _ S fun v tp xs F1 H1 m1 sv ⟨et,ns,ex,h2⟩=>h2.go E σ F1 H1 _ m1.st fun v2 p2 F2 H2 m2 r2 ⟨r,g,cs,ep,h3⟩=>h3.go E σ F2 H2 _ m2.st fun v3 p3 F3 H3 m3 r3 ⟨d,ed,hd,gd,hz,kk⟩=>by
  subst et;subst ex;subst ep;subst ed;obtain ⟨l,vs,rfl,hl,rr⟩:=(sv.mv (m2.trans m3)).seq m3.st;rw [rr.strs] at hl;obtain ⟨tl,c0,rfl,lc⟩:=Oi (r2.mono m3.ff);obtain ⟨t,rfl,ht⟩:=Od r3;refine ⟨l,tl,t,c0,ns,r,g,cs,d,rfl,hl,lc.same m3.st.fh,m3.st.fh _ _ ht,hd,gd,hz,fun t' c' H4 ED Fw s4 e4=>?_⟩;obtain ⟨F4,m4,_,r4⟩:=(m3.st.grow s4).VX m3.st ED Fw lc.2 e4;exact q _ _ F4 H4 (m1.trans (m2.trans (m3.trans m4))) r4 kk⟩
def JB (ns:List Str)(r:Str)(g:Nat)(cs:List Str):PV:=match Cy ns g cs with
 | []=>.tup [.AB,CS r g cs]
 | x::_=>.tup [.str x,CS r (ns.idxOf x+1) (wo cs x)]
theorem Mv.dQ (m:Mv E ss σ F H F1 H')(S:Sg E ss σ F H){t t':Addr}(ht:H t'=Option.none)(h0:DS F t c r g cs)(e:T7 H H' t' t ns r g cs):∃ F2,Mv E ss σ F H F2 H'/\Rep F2 (.ref t') (JB ns r g cs):=by
 rcases e with ⟨er,e⟩ | ⟨x,EB,t2,c2,er,h2,h3,e,lc⟩
 ·refine ⟨_,m.adopt S ht e,?_⟩;have sm:=(m.adopt S ht e).ff;unfold JB;rw [er];exact .tup AE (.cons .AB (.one (Sh (h0.same sm))))
 ·have jt:DS H' t2 c2 r ((ns.idxOf x+1:Nat):Int) (wo cs x):=lc;obtain ⟨F2,m2,_,r2⟩:=m.VX S h2 (.inl h3) h0.1 jt;refine ⟨_,m2.adopt S ht e,?_⟩;have sm:A7 F2 (upd F2 t' (.tup [.str x,.ref t2])):=fun a u q=>by
   by_cases z:a=t'
   ·subst z;have w:=m2.st.fh _ _ q;rw [e] at w;rw [AE];exact w
   ·rw [AX z];exact q
  unfold JB;rw [er];exact .tup AE (.cons (.str _) (.one (r2.mono sm)))
theorem ZCV (h:Wq ss ta fun tp xs=>∃ ns:List Str,xs=ns.map PV.str/\Wp ss tb fun p=>∃ (r:Str) (g:Nat) (cs:List Str),p=CS r g cs/\CU ns r g cs/\ns.length<=60/\k (JB ns r g cs)):
  Wp ss (Bz (Wc K) [] E0 (AV ta (AV tb B5))) k:=⟨fun E σ F H Q S q=>
 h.go E σ F H _ S fun v tp xs F1 H1 m1 sv ⟨ns,ex,h2⟩=>h2.go E σ F1 H1 _ m1.st fun v2 p2 F2 H2 m2 r2 ⟨r,g,cs,ep,gd,hz,kk⟩=>by
  subst ex;subst ep;obtain ⟨l,vs,rfl,hl,rr⟩:=(sv.mv m2).seq m2.st;rw [rr.strs] at hl;obtain ⟨tl,c0,rfl,lc⟩:=Oi r2;have hlen:=gd.len;refine ⟨l,tp,ns,tl,r,g,cs,rfl,hl,(lc.same m2.st.fh).h,by omega,gd.Eb,by omega,fun t' H4 ED s4 e4=>?_⟩;obtain ⟨F4,m4,r4⟩:=(m2.st.grow s4).dQ m2.st ED lc e4;exact q _ _ F4 H4 (m1.trans (m2.trans m4)) r4 kk⟩
theorem wY (h:Wq ss ta fun tp xs=>tp=false/\∃ ns:List Str,xs=ns.map PV.str/\Wp ss tb fun p=>∃ (r:Str) (g:Nat) (cs:List Str),p=CS r g cs/\CU ns r g cs/\ns.length<=60/\k (JB ns r g cs)):
  Wp ss (Bz Ri [] E0 (AV ta (AV tb B5))) k:=⟨fun E σ F H Q S q=>
 h.go E σ F H _ S fun v tp xs F1 H1 m1 sv ⟨et,ns,ex,h2⟩=>h2.go E σ F1 H1 _ m1.st fun v2 p2 F2 H2 m2 r2 ⟨r,g,cs,ep,gd,hz,kk⟩=>by
  subst et;subst ex;subst ep;obtain ⟨l,vs,rfl,hl,rr⟩:=(sv.mv m2).seq m2.st;rw [rr.strs] at hl;obtain ⟨tl,c0,rfl,lc⟩:=Oi r2;have hlen:=gd.len;refine ⟨l,ns,tl,r,g,cs,rfl,hl,(lc.same m2.st.fh).h,by omega,by omega,fun t' H4 ED s4 e4=>?_⟩;obtain ⟨F4,m4,r4⟩:=(m2.st.grow s4).dQ m2.st ED lc e4;exact q _ _ F4 H4 (m1.trans (m2.trans m4)) r4 kk⟩
theorem ZBz (h:Wq ss ta fun tp xs=>∃ ns:List Str,xs=ns.map PV.str/\Wp ss tb fun p=>∃ r:Str,p=.str r/\r∈Cn/\ns.length<64/\∀ ts:List Str,ts.Perm ns->sortedS ts=true->k (CS r 0 ts)):
  Wp ss (Bz (XZ K) [] E0 (AV ta (AV tb B5))) k:=⟨fun E σ F H Q S q=>
 h.go E σ F H _ S fun v tp xs F1 H1 m1 sv ⟨ns,ex,h2⟩=>h2.go E σ F1 H1 _ m1.st fun v2 p2 F2 H2 m2 r2 ⟨r,ep,hr,hz,kk⟩=>by
  subst ex;subst ep;cases r2.inv;obtain ⟨l,vs,rfl,hl,rr⟩:=(sv.mv m2).seq m2.st;rw [rr.strs] at hl;refine ⟨l,tp,ns,r,rfl,BM.sq hl,hr,hz,fun t' c' H4 ts ED Fw s4 pm st e4=>?_⟩;have Pa:DS H4 t' c' r ((0:Nat):Int) ts:=e4;have m3:=(m2.st.grow s4).adopt m2.st Fw Pa.2;obtain ⟨F4,m4,_,r4⟩:∃ F4,Mv E ss σ F2 H2 F4 H4/\True/\Rep F4 (.ref t') (CS r 0 ts):=by
   refine ⟨_,m3.adopt m2.st ED Pa.1,trivial,Sh ⟨AE,?_⟩⟩
   by_cases z:c'=t'
   ·subst z;rw [AE];exact Pa.1.symm.trans Pa.2
   ·rw [AX z,AE]
  exact q _ _ F4 H4 (m1.trans (m2.trans m4)) r4 (kk ts pm st)⟩
theorem ZCD {n:Nat}(h:j<n):FP n (j:Int)=some j:=by
 unfold FP;simp;omega
end
mutual
def Bi:PV->PV->Bool
 | .lst xs,.lst ys=>Cp xs ys
 | .tup xs,.tup ys=>Cp xs ys
 | .tup xs,.con _ ys=>Cp xs ys
 | .con _ xs,.tup ys=>Cp xs ys
 | .con _ xs,.con _ ys=>Cp xs ys
 | .AB,.AB=>true
 | .bl a,.bl b=>a == b
 | .bl a,.int b=>(if a then 1 else 0) == b
 | .int a,.bl b=>a == (if b then 1 else 0)
 | .int a,.int b=>a == b
 | .str a,.str b=>a == b
 | _,_=>false
def Cp:List PV->List PV->Bool
 | [],[]=>true
 | x::r,y::t=>Bi x y && Cp r t
 | _,_=>false
end
theorem Qd (x y:PV)(r t:List PV):Cp (x::r) (y::t)=(Bi x y && Cp r t):=by rw [Cp]
theorem VM:∀ (xs ys:List PV),xs.length≠ys.length->Cp xs ys=false
 | [],[],h=>absurd rfl h
 | [],_::_,_=>by rw [Cp];all_goals simp
 | _::_,[],_=>by rw [Cp];all_goals simp
 | x::r,y::t,h=>by rw [Qd,VM r t (by simpa using h),Xg]
theorem Rj:∀ (xs ys:List PV),xs.length=ys.length->Cp xs ys=(List.range xs.length).all fun j=>Bi (xs.getD j .AB) (ys.getD j .AB)
 | [],[],_=>by rw [Cp];rfl
 | x::r,y::t,h=>by
  rw [Qd,Rj r t (by simpa using h),BN,List.range_succ_eq_map,RG,List.all_map]
  rfl
def dat (K:ZE5):Nat->PV->Prop
 | _,.AB=>True
 | _,.bl _=>True
 | _,.int _=>True
 | _,.str _=>True
 | d+1,.lst xs=>∀ x∈xs,dat K d x
 | d+1,.tup xs=>∀ x∈xs,dat K d x
 | d+1,.con a xs=>(∀ x∈xs,dat K d x)/\xs.all flat=true/\∀ H,AA K H a (xs.map Fz.enc)
 | _,_=>False
inductive FW (K:ZE5) (H:Hp):V->PV->Bool->Addr->List V->List PV->Prop where
 | lst {a:Addr}{vs:List V}{xs:List PV}:AF K H a vs->AM H vs xs->FW K H (.ref a) (.lst xs) false a vs xs
 | tup {a:Addr}{vs:List V}{xs:List PV}:AA K H a vs->AM H vs xs->FW K H (.ref a) (.tup xs) true a vs xs
 | con {a:Addr}{vs:List V}{xs:List PV}:AA K H a vs->AM H vs xs->FW K H (.ref a) (.con a xs) true a vs xs
theorem FL {K:ZE5}:∀ {d:Nat}{x:V}{p:PV},dat K d p->Rep H x p->(flat p=true/\x=Fz.enc p)∨∃ d' tp a vs xs,d=d'+1/\FW K H x p tp a vs xs/\∀ y∈xs,dat K d' y:=by
 intro d x p h r;cases r with
 | AB=>exact .inl ⟨rfl,rfl⟩
 | bl b=>exact .inl ⟨rfl,rfl⟩
 | int b=>exact .inl ⟨rfl,rfl⟩
 | str b=>exact .inl ⟨rfl,rfl⟩
 | lst e r=>cases d with
  | zero=>exact h.elim
  | succ d=>exact .inr ⟨d,_,_,_,_,rfl,.lst (AF.of e) r,h⟩
 | tup e r=>cases d with
  | zero=>exact h.elim
  | succ d=>exact .inr ⟨d,_,_,_,_,rfl,.tup (AA.of e) r,h⟩
 | con=>cases d with
  | zero=>exact h.elim
  | succ d=>obtain ⟨h1,h2,h3⟩:=h;exact .inr ⟨d,_,_,_,_,rfl,.con (h3 H) (XY h2),h1⟩
 | Am _ _ _=>cases d <;> exact h.elim
 | obj _ _ _ _=>cases d <;> exact h.elim
 | NC _=>cases d <;> exact h.elim
 | exc _ _ _ _=>cases d <;> exact h.elim
section
variable {X:Cx}{pins:ZE6}{s:Shared}
theorem mS (r1:Vals vs A4)(r2:Vals ws Ba)(q1:AM H vs xs)(q2:AM H ws ys)
  (h:∀ (x y:V) (p q:PV) (u v:Value),p∈xs->q∈ys->Rep H x p->Rep H y q->RelV x u->RelV y v->SeqAt.EqAt A s u v (Bi p q)) :
  ∀ j (h1:j<A4.toArray.size) (h2:j<Ba.toArray.size),SeqAt.EqAt A s A4.toArray[j] Ba.toArray[j] ((fun j=>Bi (xs.getD j .AB) (ys.getD j .AB)) j):=fun j h1 h2=>by
 have l1:=r1.length;have l2:=r2.length;have l3:=q1.length;have l4:=q2.length;have Cm:j<A4.length:=by simpa using h1
 have DM:j<Ba.length:=by simpa using h2
 have a1:j<xs.length:=by omega
 have a2:j<ys.length:=by omega
 obtain ⟨x,hx,rx⟩:=q1.get (i:=j) (p:=xs[j]) (BE a1);obtain ⟨y,hy,ry⟩:=q2.get (i:=j) (p:=ys[j]) (BE a2);obtain ⟨u,hu,ru⟩:=r1.get hx;obtain ⟨v,hv,rv⟩:=r2.get hy;rw [BE Cm] at hu;rw [BE DM] at hv;have IZ:A4[j]=u:=BO hu;have NQ:Ba[j]=v:=BO hv;have q:=h x y _ _ u v (KJ a1) (KJ a2) rx ry ru rv;rw [<- IZ,<- NQ] at q;show SeqAt.EqAt A s _ _ (Bi (xs.getD j .AB) (ys.getD j .AB));rw [Lj,BE a1,Lj,BE a2]
 simpa using q
theorem Qt {p:PV}(h:FW X.K H x p tp a vs xs)(f:flat q=true):Bi p q=false/\Bi q p=false:=by
 cases h <;> cases q <;> first | exact Bool.noConfusion f | exact ⟨rfl,rfl⟩
theorem SO {p:PV}{y:V}(h:FW X.K H x p tp a vs xs)(h2:FW X.K H y q CM b ws ys):Bi p q=(if tp=CM then Cp xs ys else false):=by
 cases h <;> cases h2 <;> rfl
theorem OA {p:PV}(h:flat p=true)(h2:flat q=true):Bi p q=Df (Fz.enc p) (Fz.enc q):=by
 cases p <;> cases q <;> first | exact Bool.noConfusion h | exact Bool.noConfusion h2 | rfl
theorem vV {p:PV}{u v:Value}(h:flat p=true)(h2:flat q=true)(ru:RelV (Fz.enc p) u)(rv:RelV (Fz.enc q) v):SeqAt.RcAt A s u v (Bi p q)/\SeqAt.RcNeAt A s u v (!Bi p q):=by
 cases p <;> first | exact Bool.noConfusion h | skip
 all_goals cases q <;> first | exact Bool.noConfusion h2 | skip
 ·cases ru;cases rv;exact ⟨.none_none,.none_none⟩
 ·cases ru;cases rv;exact ⟨.none_bool _,.none_bool _⟩
 ·cases ru;obtain ⟨t,rfl⟩:=rv;exact ⟨.none_int _ _,.none_int _ _⟩
 ·cases ru;obtain ⟨t,rfl⟩:=rv;exact ⟨.none_str _ _,.none_str _ _⟩
 ·cases ru;cases rv;exact ⟨.bool_none _,.bool_none _⟩
 ·cases ru;cases rv;exact ⟨.bool_bool _ _,.bool_bool _ _⟩
 ·cases ru;obtain ⟨t,rfl⟩:=rv;exact ⟨.bool_int _ _ _,.bool_int _ _ _⟩
 ·cases ru;obtain ⟨t,rfl⟩:=rv;exact ⟨.bool_str _ _ _,.bool_str _ _ _⟩
 ·obtain ⟨t,rfl⟩:=ru;cases rv;exact ⟨.int_none _ _,.int_none _ _⟩
 ·obtain ⟨t,rfl⟩:=ru;cases rv;exact ⟨.int_bool _ _ _,.int_bool _ _ _⟩
 ·obtain ⟨t,rfl⟩:=ru;obtain ⟨t2,rfl⟩:=rv;exact ⟨.int_int _ _ _ _,.int_int _ _ _ _⟩
 ·obtain ⟨t,rfl⟩:=ru;obtain ⟨t2,rfl⟩:=rv;exact ⟨.int_str _ _ _ _,.int_str _ _ _ _⟩
 ·obtain ⟨t,rfl⟩:=ru;cases rv;exact ⟨.str_none _ _,.str_none _ _⟩
 ·obtain ⟨t,rfl⟩:=ru;cases rv;exact ⟨.str_bool _ _ _,.str_bool _ _ _⟩
 ·obtain ⟨t,rfl⟩:=ru;obtain ⟨t2,rfl⟩:=rv;exact ⟨.str_int _ _ _ _,.str_int _ _ _ _⟩
 ·obtain ⟨t,rfl⟩:=ru;obtain ⟨t2,rfl⟩:=rv;exact ⟨.str_str _ _ _ _,.str_str _ _ _ _⟩
def OQ (h:Heap)(tp:Bool)(a:Addr)(A4:Array Value):Prop:=if tp then IsTup h a A4 else h.IsList a A4
theorem FW.Fh (I:Inv X pins σ H s){p:PV}(h:FW X.K H x p tp a vs xs):∃ A4:List Value,x=.ref a/\Vals vs A4/\OQ s.heap tp a A4.toArray/\AM H vs xs:=by
 cases h with
 | lst h r=>obtain ⟨A4,r1,p1,_⟩:=I.list h;exact ⟨A4,rfl,r1,p1.isList,r⟩
 | tup h r=>obtain ⟨A4,r1,p1,_⟩:=I.tuple h;exact ⟨A4,rfl,r1,p1,r⟩
 | con h r=>obtain ⟨A4,r1,p1,_⟩:=I.tuple h;exact ⟨A4,rfl,r1,p1,r⟩
theorem PF {A4:Array Value}{v:Value}(h:OQ s.heap tp a A4)(f:flat q=true)(rv:RelV (Fz.enc q) v)(hu:A.units<cLine):
  (SeqAt.EqAt A s (.ref a) v false/\SeqAt.EqAt A s v (.ref a) false)/\(SeqAt.RcAt A s (.ref a) v false/\SeqAt.RcAt A s v (.ref a) false)/\(SeqAt.RcNeAt A s (.ref a) v true/\SeqAt.RcNeAt A s v (.ref a) true):=by
 cases tp with
 | false=>
  have h':s.heap.IsList a A4:=h;cases q <;> first | exact Bool.noConfusion f | skip
  ·cases rv;exact ⟨⟨.list_none h' hu,.none_list h' hu⟩,⟨.list_none h' hu,.none_list h' hu⟩,⟨.list_none h' hu,.none_list h' hu⟩⟩
  ·cases rv;exact ⟨⟨.list_bool _ h' hu,.bool_list _ h' hu⟩,⟨.list_bool _ h' hu,.bool_list _ h' hu⟩,⟨.list_bool _ h' hu,.bool_list _ h' hu⟩⟩
  ·obtain ⟨t,rfl⟩:=rv;exact ⟨⟨.list_int _ _ h' hu,.int_list _ _ h' hu⟩,⟨.list_int _ _ h' hu,.int_list _ _ h' hu⟩,⟨.list_int _ _ h' hu,.int_list _ _ h' hu⟩⟩
  ·obtain ⟨t,rfl⟩:=rv;exact ⟨⟨.list_str _ _ h' hu,.str_list _ _ h' hu⟩,⟨.list_str _ _ h' hu,.str_list _ _ h' hu⟩,⟨.list_str _ _ h' hu,.str_list _ _ h' hu⟩⟩
 | true=>
  have h':IsTup s.heap a A4:=h;cases q <;> first | exact Bool.noConfusion f | skip
  ·cases rv;exact ⟨⟨.tuple_none h' hu,.none_tuple h' hu⟩,⟨.tuple_none h' hu,.none_tuple h' hu⟩,⟨.tuple_none h' hu,.none_tuple h' hu⟩⟩
  ·cases rv;exact ⟨⟨.tuple_bool _ h' hu,.bool_tuple _ h' hu⟩,⟨.tuple_bool _ h' hu,.bool_tuple _ h' hu⟩,⟨.tuple_bool _ h' hu,.bool_tuple _ h' hu⟩⟩
  ·obtain ⟨t,rfl⟩:=rv;exact ⟨⟨.tuple_int _ _ h' hu,.int_tuple _ _ h' hu⟩,⟨.tuple_int _ _ h' hu,.int_tuple _ _ h' hu⟩,⟨.tuple_int _ _ h' hu,.int_tuple _ _ h' hu⟩⟩
  ·obtain ⟨t,rfl⟩:=rv;exact ⟨⟨.tuple_str _ _ h' hu,.str_tuple _ _ h' hu⟩,⟨.tuple_str _ _ h' hu,.str_tuple _ _ h' hu⟩,⟨.tuple_str _ _ h' hu,.str_tuple _ _ h' hu⟩⟩
theorem FW.inj (I:Inv X pins σ H s){x y:V}{p q:PV}{tp CM:Bool}{a:Addr}{vs ws:List V}{xs ys:List PV}(h:FW X.K H x p tp a vs xs)(h2:FW X.K H y q CM a ws ys):tp=CM/\vs=ws:=by
 have no:∀ {vs ws:List V},AF X.K H a vs->AA X.K H a ws->False:=fun {vs ws} h1 h2=>by
  obtain ⟨A4,_,p1,_⟩:=I.list h1;obtain ⟨Ba,_,p2,_⟩:=I.tuple h2;obtain ⟨o,n,e,c,_⟩:=p1;obtain ⟨o2,e2,c2,_⟩:=p2;rw [e] at e2;cases e2;rw [c] at c2;exact absurd c2 (by decide)
 cases h with
 | lst h r=>cases h2 with
  | lst h2 _=>exact ⟨rfl,I.bA h h2⟩
  | tup h2 _=>exact (no h h2).elim
  | con h2 _=>exact (no h h2).elim
 | tup h r=>cases h2 with
  | lst h2 _=>exact (no h2 h).elim
  | tup h2 _=>exact ⟨rfl,I.N1 h h2⟩
  | con h2 _=>exact ⟨rfl,I.N1 h h2⟩
 | con h r=>cases h2 with
  | lst h2 _=>exact (no h2 h).elim
  | tup h2 _=>exact ⟨rfl,I.N1 h h2⟩
  | con h2 _=>exact ⟨rfl,I.N1 h h2⟩
theorem ZV {p:PV}(h:flat p=true):Df (Fz.enc p) (Fz.enc p)=true:=by cases p <;> first | exact Bool.noConfusion h | exact lx _ | rfl
theorem cE (ih:∀ (x:V) (p q:PV),Rep H x p->Rep H x q->dat X.K d p->dat X.K d q->Bi p q=true):∀ {vs:List V}{xs ys:List PV},AM H vs xs->AM H vs ys->(∀ x∈xs,dat X.K d x)->(∀ y∈ys,dat X.K d y)->Cp xs ys=true
 | _,_,_,.nil,.nil,_,_=>by rw [Cp]
 | _,_,_,.cons r1 t1,.cons r2 t2,h1,h2=>by
  rw [Qd,ih _ _ _ r1 r2 (h1 _ (by simp)) (h2 _ (by simp)),cE ih t1 t2 (fun x hx=>h1 x (by simp [hx])) (fun x hx=>h2 x (by simp [hx]))];rfl
theorem jX (I:Inv X pins σ H s):∀ (d:Nat) (x:V) (p q:PV),Rep H x p->Rep H x q->dat X.K d p->dat X.K d q->Bi p q=true:=fun d=>by
 induction d with
 | zero=>
  intro x p q r1 r2 h1 h2;rcases FL h1 r1 with ⟨f1,e1⟩ | ⟨d',_,_,_,_,e,_⟩
  ·rcases FL h2 r2 with ⟨f2,e2⟩ | ⟨d',_,_,_,_,e,_⟩
   ·rw [OA f1 f2,<- e1,e2];exact ZV f2
   ·cases e
  ·cases e
 | succ d ih=>
  intro x p q r1 r2 h1 h2;rcases FL h1 r1 with ⟨f1,e1⟩ | ⟨d1,tp,a,vs,xs,e,q1,k1⟩
  ·rcases FL h2 r2 with ⟨f2,e2⟩ | ⟨d2,CM,b,ws,ys,e,q2,k2⟩
   ·rw [OA f1 f2,<- e1,e2];exact ZV f2
   ·obtain ⟨_,ex,_⟩:=q2.Fh I;subst ex;cases p <;> first | (cases f1;done) | (cases e1;done)
  ·cases e;rcases FL h2 r2 with ⟨f2,e2⟩ | ⟨d2,CM,b,ws,ys,e,q2,k2⟩
   ·obtain ⟨_,ex,_⟩:=q1.Fh I;subst ex;cases q <;> first | (cases f2;done) | (cases e2;done)
   ·cases e;obtain ⟨_,ex,_,_,r3⟩:=q1.Fh I;obtain ⟨_,ey,_,_,r4⟩:=q2.Fh I;rw [ex] at ey;cases ey;obtain ⟨et,ev⟩:=q1.inj I q2;subst ev;rw [SO q1 q2,jd et];exact cE ih r3 r4 k1 k2
theorem ZBJ (r1:Vals vs A4)(r2:Vals ws Ba)(q1:AM H vs xs)(q2:AM H ws ys):A4.toArray.size=xs.length/\Ba.toArray.size=ys.length:=by
 have l1:=r1.length;have l2:=r2.length;have l3:=q1.length;have l4:=q2.length;simp only [Bt];omega
theorem ba (h1:OQ s.heap tp a A4.toArray)(h2:OQ s.heap CM b Ba.toArray)(r1:Vals vs A4)(r2:Vals ws Ba)(q1:AM H vs xs)(q2:AM H ws ys)(hu:A.units<cLine)
  (h:∀ (x y:V) (p q:PV) (u v:Value),p∈xs->q∈ys->Rep H x p->Rep H y q->RelV x u->RelV y v->SeqAt.EqAt A.in1 s u v (Bi p q)) :
  SeqAt.RcAt A s (.ref a) (.ref b) (if tp=CM then Cp xs ys else false)/\SeqAt.RcNeAt A s (.ref a) (.ref b) (!(if tp=CM then Cp xs ys else false)):=by
 obtain ⟨z1,z2⟩:=ZBJ r1 r2 q1 q2;have it:=mS (A:=A.in1) r1 r2 q1 q2 h;cases tp with
 | false=>cases CM with
  | false=>
   rw [jd rfl];have Cm:s.heap.IsList a A4.toArray:=h1;have DM:s.heap.IsList b Ba.toArray:=h2
   by_cases hl:xs.length=ys.length
   ·rw [Rj xs ys hl,<- z1];exact ⟨.lists Cm DM (by omega) hu it,.lists Cm DM (by omega) hu it⟩
   ·rw [VM xs ys hl];have Ak:(A4.toArray.size != Ba.toArray.size)=true:=by simp only [bne_iff_ne,ne_eq];omega
    exact ⟨.lists_lengths Cm DM Ak hu,.lists_lengths Cm DM Ak hu⟩
  | true=>rw [jG (by decide)];exact ⟨.list_tuple h1 h2 hu,.list_tuple h1 h2 hu⟩
 | true=>cases CM with
  | false=>rw [jG (by decide)];exact ⟨.tuple_list h1 h2 hu,.tuple_list h1 h2 hu⟩
  | true=>
   rw [jd rfl];have Cm:IsTup s.heap a A4.toArray:=h1;have DM:IsTup s.heap b Ba.toArray:=h2;have e:((List.range (min A4.toArray.size Ba.toArray.size)).all (fun j=>Bi (xs.getD j .AB) (ys.getD j .AB)) && A4.toArray.size == Ba.toArray.size)=Cp xs ys:=by
    by_cases hl:xs.length=ys.length
    ·rw [Rj xs ys hl,z1,z2,<- hl,Y1,lx,iM]
    ·rw [VM xs ys hl,z1,z2,show (xs.length == ys.length)=false from by simpa using hl,Xg]
   have k1:=SeqAt.RcAt.tuples (A:=A) (e:=fun j=>Bi (xs.getD j .AB) (ys.getD j .AB)) Cm DM hu it;have k2:=SeqAt.RcNeAt.tuples (A:=A) (e:=fun j=>Bi (xs.getD j .AB) (ys.getD j .AB)) Cm DM hu it;rw [e] at k1 k2;exact ⟨k1,k2⟩
theorem ZB8 (I:Inv X pins σ H s):∀ (d:Nat) (x y:V) (p q:PV),Rep H x p->Rep H y q->dat X.K d p->dat X.K d q->∀ (A:Around) (u v:Value),RelV x u->RelV y v->A.units+d<cLine->SeqAt.EqAt A s u v (Bi p q):=fun d=>by
 induction d with
 | zero=>
  intro x y p q r1 r2 h1 h2 A u v ru rv hu;rcases FL h1 r1 with ⟨f1,e1⟩ | ⟨_,_,_,_,_,e,_⟩
  ·rcases FL h2 r2 with ⟨f2,e2⟩ | ⟨_,_,_,_,_,e,_⟩
   ·subst e1;subst e2;rw [OA f1 f2];exact PB ru rv (Qe f1) (Qe f2)
   ·cases e
  ·cases e
 | succ d ih=>
  intro x y p q r1 r2 h1 h2 A u v ru rv hu;rcases FL h1 r1 with ⟨f1,e1⟩ | ⟨d1,tp,a,vs,xs,e,q1,k1⟩
  ·rcases FL h2 r2 with ⟨f2,e2⟩ | ⟨d2,CM,b,ws,ys,e,q2,k2⟩
   ·subst e1;subst e2;rw [OA f1 f2];exact PB ru rv (Qe f1) (Qe f2)
   ·obtain ⟨A4,ey,_,j,_⟩:=q2.Fh I;subst e1;subst ey;cases (show v=Value.ref b from rv);rw [(Qt q2 f1).2];exact (PF j f1 ru (by omega)).1.2
  ·cases e;rcases FL h2 r2 with ⟨f2,e2⟩ | ⟨d2,CM,b,ws,ys,e,q2,k2⟩
   ·obtain ⟨A4,ex,_,j,_⟩:=q1.Fh I;subst e2;subst ex;cases (show u=Value.ref a from ru);rw [(Qt q1 f2).1];exact (PF j f2 rv (by omega)).1.1
   ·cases e;obtain ⟨A4,ex,v1,j1,w1⟩:=q1.Fh I;obtain ⟨Ba,ey,v2,j2,w2⟩:=q2.Fh I;subst ex;subst ey;cases (show u=Value.ref a from ru);cases (show v=Value.ref b from rv)
    by_cases Cq:a=b
    ·subst Cq;rw [jX I (d+1) _ p q r1 r2 h1 h2];exact .same _
    ·rw [SO q1 q2];refine SeqAt.EqAt.of_refs Cq (ba j1 j2 v1 v2 w1 w2 (by omega) fun x y p q u v hp hq r1 r2 ru rv=>?_).1;exact ih x y p q r1 r2 (k1 p hp) (k2 q hq) A.in1 u v ru rv (by show A.units+1+d<cLine;omega)
theorem ZBN (I:Inv X pins σ H s)(d:Nat)(x y:V)(p q:PV)(r1:Rep H x p)(r2:Rep H y q)(h1:dat X.K d p)(h2:dat X.K d q)(A:Around)(u v:Value)(ru:RelV x u)(rv:RelV y v)(hu:A.units+d<cLine):SeqAt.RcAt A s u v (Bi p q)/\SeqAt.RcNeAt A s u v (!Bi p q):=by
 rcases FL h1 r1 with ⟨f1,e1⟩ | ⟨d1,tp,a,vs,xs,e,q1,k1⟩
 ·rcases FL h2 r2 with ⟨f2,e2⟩ | ⟨d2,CM,b,ws,ys,e,q2,k2⟩
  ·subst e1;subst e2;exact vV f1 f2 ru rv
  ·obtain ⟨A4,ey,_,j,_⟩:=q2.Fh I;subst e1;subst ey;cases (show v=Value.ref b from rv);rw [(Qt q2 f1).2];have z:=PF (A:=A) j f1 ru (by omega);exact ⟨z.2.1.2,z.2.2.2⟩
 ·rcases FL h2 r2 with ⟨f2,e2⟩ | ⟨d2,CM,b,ws,ys,e2,q2,k2⟩
  ·obtain ⟨A4,ex,_,j,_⟩:=q1.Fh I;subst e2;subst ex;cases (show u=Value.ref a from ru);rw [(Qt q1 f2).1];have z:=PF (A:=A) j f2 rv (by omega);exact ⟨z.2.1.1,z.2.2.1⟩
  ·subst e;cases e2;obtain ⟨A4,ex,v1,j1,w1⟩:=q1.Fh I;obtain ⟨Ba,ey,v2,j2,w2⟩:=q2.Fh I;subst ex;subst ey;cases (show u=Value.ref a from ru);cases (show v=Value.ref b from rv);rw [SO q1 q2];exact ba j1 j2 v1 v2 w1 w2 (by omega) fun x y p q u v hp hq r1 r2 ru rv=>ZB8 I d1 x y p q r1 r2 (k1 p hp) (k2 q hq) A.in1 u v ru rv (by show A.units+1+d1<cLine;omega)
def iI (K:ZE5)(neg:Bool):R2:=fun x y H Q=>∃ p q,Rep H x p/\Rep H y q/\dat K 40 p/\dat K 40 q/\Q (.bl (if neg then !Bi p q else Bi p q)) H
theorem yQ (hu:X.A.units+64<cLine):BG X (compareOp .Eq) (iI X.K false):=by
 intro pins s σ H x y v u Q I rx ry h;obtain ⟨p,q,r1,r2,d1,d2,hQ⟩:=h;exact (ZBN I 40 x y p q r1 r2 d1 d2 X.A _ _ rx ry (by omega)).1 _ _ _ _ ⟨.bl (Bi p q),H,I,rfl,hQ⟩
end
section
variable [Xw]
variable {K:ZE5}{k:PV->Prop}
theorem dE (h:Wp ss ta fun p=>Wp ss tb fun q=>dat K 40 p/\dat K 40 q/\k (.bl (Bi p q))):Wp ss (Bx (iI K false) ta tb) k:=⟨fun E σ F H Q S q=>
 h.go E σ F H _ S fun v p F1 H1 m1 r1 h2=>h2.go E σ F1 H1 _ m1.st fun v2 p2 F2 H2 m2 r2 ⟨d1,d2,kk⟩=>
  ⟨p,p2,(r1.mono m2.ff).mono m2.st.fh,r2.mono m2.st.fh,d1,d2,q _ _ F2 H2 (m1.trans m2) (.bl _) kk⟩⟩
end
def OV.at (t:OV):List Nat->Option OV
 | []=>some t
 | j::p=>match t with
  | .nd _ _ xs=>(xs[j]?).bind fun x=>OV.at x p
  | .tp xs=>(xs[j]?).bind fun x=>OV.at x p
  | .fz _=>none
def OV.put (t:OV)(l:List Nat)(n:OV):OV:=match l with
 | []=>n
 | j::p=>match t with
  | .nd k a xs=>match xs[j]? with
   | some x=>.nd k a (xs.set j (OV.put x p n))
   | none=>.nd k a xs
  | .tp xs=>match xs[j]? with
   | some x=>.tp (xs.set j (OV.put x p n))
   | none=>.tp xs
  | .fz q=>.fz q
theorem OV.G1:t.at []=some t:=by rw [OV.at]
theorem OV.Gj {k:NK}{xs:List OV}:(OV.nd k a xs).at (j::p)=(xs[j]?).bind fun x=>x.at p:=by rw [OV.at]
theorem OV.LR {xs:List OV}:(OV.tp xs).at (j::p)=(xs[j]?).bind fun x=>x.at p:=by rw [OV.at]
theorem OV.EE:t.put [] n=n:=by rw [OV.put]
theorem OV.Gx {k:NK}{xs:List OV}{x:OV}(h:xs[j]?=some x):(OV.nd k a xs).put (j::p) n=.nd k a (xs.set j (x.put p n)):=by rw [OV.put,h]
theorem OV.Lr {xs:List OV}{x:OV}(h:xs[j]?=some x):(OV.tp xs).put (j::p) n=.tp (xs.set j (x.put p n)):=by rw [OV.put,h]
theorem OV.LI {u w:OV}:∀ {p:List Nat}{t:OV}{j:Nat},t.at p=some u->u.at [j]=some w->t.at (p++[j])=some w
 | [],t,j,h,h2=>by rw [OV.G1] at h;cases h;exact h2
 | i::p,.nd k a xs,j,h,h2=>by
  rw [OV.Gj] at h;rw [iQ,OV.Gj];cases e:xs[i]? with
  | none=>rw [e] at h;cases h
  | some x=>rw [e] at h;exact OV.LI (t:=x) h h2
 | i::p,.tp xs,j,h,h2=>by
  rw [OV.LR] at h;rw [iQ,OV.LR];cases e:xs[i]? with
  | none=>rw [e] at h;cases h
  | some x=>rw [e] at h;exact OV.LI (t:=x) h h2
 | i::p,.fz q,j,h,h2=>by rw [OV.at] at h;cases h
theorem HJ:∀ {xs:List OV}{j:Nat}{x:OV},xs[j]?=some x->∃ l r,OV.AZ xs=l++x.addrs++r/\∀ y:OV,OV.AZ (xs.set j y)=l++y.addrs++r
 | x::xs,0,z,h=>by
  simp at h;subst h;exact ⟨[],OV.AZ xs,by rw [OV.Bf];rfl,fun y=>by rw [RJ,OV.Bf];rfl⟩
 | x::xs,j+1,z,h=>by
  obtain ⟨l,r,e1,e2⟩:=HJ (xs:=xs) (j:=j) (x:=z) (by simpa using h)
  refine ⟨x.addrs++l,r,by rw [OV.Bf,e1];simp [C8],fun y=>by rw [RI,OV.Bf,e2];simp [C8]⟩
theorem OV.split {u:OV}:∀ {p:List Nat}{t:OV},t.at p=some u->∃ l r,t.addrs=l++u.addrs++r/\∀ n:OV,(t.put p n).addrs=l++n.addrs++r
 | [],t,h=>by rw [OV.G1] at h;cases h;exact ⟨[],[],by simp,fun n=>by rw [OV.EE];simp⟩
 | j::p,.nd k a xs,h=>by
  rw [OV.Gj] at h;cases e:xs[j]? with
  | none=>rw [e] at h;cases h
  | some x=>
   rw [e] at h;obtain ⟨l,r,e1,e2⟩:=HJ e;obtain ⟨l2,r2,f1,f2⟩:=OV.split (t:=x) h;refine ⟨a::(k.more++(l++l2)),r2++r,by rw [OV.Ct,e1,f1];simp [C8],fun n=>by rw [OV.Gx e,OV.Ct,e2,f2];simp [C8]⟩
 | j::p,.tp xs,h=>by
  rw [OV.LR] at h;cases e:xs[j]? with
  | none=>rw [e] at h;cases h
  | some x=>
   rw [e] at h;obtain ⟨l,r,e1,e2⟩:=HJ e;obtain ⟨l2,r2,f1,f2⟩:=OV.split (t:=x) h;refine ⟨l++l2,r2++r,by rw [OV.E7,e1,f1];simp [C8],fun n=>by rw [OV.Lr e,OV.E7,e2,f2];simp [C8]⟩
 | j::p,.fz q,h=>by rw [OV.at] at h;cases h
theorem An.get {F H:Hp}:∀ {vs:List V}{ts:List OV}{j:Nat}{t:OV},An F H vs ts->ts[j]?=some t->∃ v,vs[j]?=some v/\Aj F H v t
 | _,_,_,_,.nil,e=>by simp at e
 | _,_,0,_,.cons r _,e=>by simp at e;subst e;exact ⟨_,rfl,r⟩
 | _,_,j+1,t,.cons _ q,e=>by
  obtain ⟨u,h1,h2⟩:=An.get (j:=j) (t:=t) q (by simpa using e)
  exact ⟨u,by simpa using h1,h2⟩
theorem An.get' {F H:Hp}:∀ {vs:List V}{ts:List OV}{j:Nat}{v:V},An F H vs ts->vs[j]?=some v->∃ t,ts[j]?=some t/\Aj F H v t
 | _,_,_,_,.nil,e=>by simp at e
 | _,_,0,_,.cons r _,e=>by simp at e;subst e;exact ⟨_,rfl,r⟩
 | _,_,j+1,t,.cons _ q,e=>by
  obtain ⟨u,h1,h2⟩:=An.get' (j:=j) (v:=t) q (by simpa using e)
  exact ⟨u,by simpa using h1,h2⟩
theorem An.append {F H:Hp}:∀ {vs ws:List V}{xs ys:List OV},An F H vs xs->An F H ws ys->An F H (vs++ws) (xs++ys)
 | _,_,_,_,.nil,s=>s
 | _,_,_,_,.cons r t,s=>.cons r (An.append t s)
theorem An.one (r:Aj F H v t):An F H [v] [t]:=.cons r .nil
theorem An.set {F H:Hp}:∀ {vs:List V}{xs:List OV}(j:Nat){v:V}{t:OV},An F H vs xs->Aj F H v t->An F H (vs.set j v) (xs.set j t)
 | _,_,_,_,_,.nil,_=>.nil
 | _,_,0,_,_,.cons _ t,r=>.cons r t
 | _,_,j+1,_,_,.cons q t,r=>.cons q (An.set j t r)
theorem An.swap {F H H':Hp}{y:OV}:∀ {vs:List V}{xs:List OV}{j:Nat}{x:OV}{v:V},An F H vs xs->xs[j]?=some x->vs[j]?=some v->(∀ l r,OV.AZ xs=l++x.addrs++r->(∀ z:OV,OV.AZ (xs.set j z)=l++z.addrs++r)->∀ b∈l++r,∀ o,H b=some o->H' b=some o)->Aj F H' v y->An F H' vs (xs.set j y)
 | _,x::xs,0,z,w,.cons r t,h,hv,hk,ry=>by
  simp at h hv;subst h;subst hv;rw [RJ];have e:∀ z:OV,OV.AZ ((x::xs).set 0 z)=[]++z.addrs++OV.AZ xs:=fun z=>by rw [RJ,OV.Bf];rfl
  exact .cons ry (t.mono (A7.refl _) fun b hb o=>hk [] (OV.AZ xs) (by rw [OV.Bf];rfl) e b (by simpa using hb) o)
 | _,x::xs,j+1,z,w,.cons r t,h,hv,hk,ry=>by
  rw [RI];have h':xs[j]?=some z:=by simpa using h
  obtain ⟨l,q,e1,e2⟩:=HJ h';refine .cons (r.mono (A7.refl _) fun b hb o=>hk (x.addrs++l) q (by rw [OV.Bf,e1];simp [C8]) (fun z=>by rw [RI,OV.Bf,e2];simp [C8]) b (by simp [hb]) o) (An.swap (v:=w) t h' (by simpa using hv) (fun l' r' E6 CB b hb o=>hk (x.addrs++l') r' (by rw [OV.Bf,E6];simp [C8]) (fun z=>by rw [RI,OV.Bf,CB];simp [C8]) b (by rcases List.mem_append.mp hb with hz | hz <;> simp [hz]) o) ry)
theorem Aj.at {F H:Hp}{u:OV}:∀ {p:List Nat}{t:OV}{v:V},Aj F H v t->t.at p=some u->∃ w,Aj F H w u/\∀ (H':Hp) (n:OV),Aj F H' w n->(∀ l r,t.addrs=l++u.addrs++r->(∀ n:OV,(t.put p n).addrs=l++n.addrs++r)->∀ b∈l++r,∀ o,H b=some o->H' b=some o)->Aj F H' v (t.put p n)
 | [],t,v,h,e=>by rw [OV.G1] at e;cases e;exact ⟨v,h,fun H' n r _=>by rw [OV.EE];exact r⟩
 | j::p,.fz q,v,h,e=>by rw [OV.at] at e;cases e
 | j::p,.nd k a xs,_,.nd h sd ft r,e=>by
  rw [OV.Gj] at e;cases ex:xs[j]? with
  | none=>rw [ex] at e;cases e
  | some x=>
   rw [ex] at e;obtain ⟨vj,Vh,rj⟩:=r.get ex;obtain ⟨w,rw_,go⟩:=Aj.at (t:=x) rj e;refine ⟨w,rw_,fun H' n rn hk=>?_⟩;obtain ⟨l2,r2,f1,f2⟩:=OV.split e;have key:∀ l r,OV.AZ xs=l++x.addrs++r->(∀ z:OV,OV.AZ (xs.set j z)=l++z.addrs++r)->∀ b,b∈(a::(k.more++(l++l2)))++(r2++r)->∀ o,H b=some o->H' b=some o:=fun l r e1 e2 b hb o=>
    hk (a::(k.more++(l++l2))) (r2++r) (by rw [OV.Ct,e1,f1];simp [C8]) (fun n=>by rw [OV.Gx ex,OV.Ct,e2,f2];simp [C8]) b hb o
   obtain ⟨l,q,e1,e2⟩:=HJ ex;rw [OV.Gx ex];refine .nd (key l q e1 e2 a (by simp) _ h) (NK.aC sd fun b hb=>key l q e1 e2 b (by simp [hb])) ft ?_;refine r.swap ex Vh (fun l' r' E6 CB b hb o=>key l' r' E6 CB b (by rcases List.mem_append.mp hb with hz | hz <;> simp [hz]) o) ?_
   refine go H' n rn fun l' r' g1 g2 b hb o=>?_;refine hk (a::(k.more++(l++l'))) (r'++q) (by rw [OV.Ct,e1,g1];simp [C8]) (fun n=>by rw [OV.Gx ex,OV.Ct,e2,g2];simp [C8]) b (by rcases List.mem_append.mp hb with hz | hz <;> simp [hz]) o
 | j::p,.tp xs,_,.tp h r,e=>by
  rw [OV.LR] at e;cases ex:xs[j]? with
  | none=>rw [ex] at e;cases e
  | some x=>
   rw [ex] at e;obtain ⟨vj,Vh,rj⟩:=r.get ex;obtain ⟨w,rw_,go⟩:=Aj.at (t:=x) rj e;refine ⟨w,rw_,fun H' n rn hk=>?_⟩;obtain ⟨l2,r2,f1,f2⟩:=OV.split e;obtain ⟨l,q,e1,e2⟩:=HJ ex;rw [OV.Lr ex];refine .tp h (r.swap ex Vh (fun l' r' E6 CB b hb o=>?_) (go H' n rn fun l' r' g1 g2 b hb o=>?_))
   ·exact hk (l'++l2) (r2++r') (by rw [OV.E7,E6,f1];simp [C8]) (fun n=>by rw [OV.Lr ex,OV.E7,CB,f2];simp [C8]) b (by rcases List.mem_append.mp hb with hz | hz <;> simp [hz]) o
   ·exact hk (l++l') (r'++q) (by rw [OV.E7,e1,g1];simp [C8]) (fun n=>by rw [OV.Lr ex,OV.E7,e2,g2];simp [C8]) b (by rcases List.mem_append.mp hb with hz | hz <;> simp [hz]) o
theorem Rw {l u r n:List Addr}(h:(l++u++r).Nodup)(hn:n.Nodup)(hd:∀ b∈n,b∈u∨b∉l++u++r):(l++n++r).Nodup:=by
 rw [CK] at h ⊢;obtain ⟨h1,h2,h3⟩:=h;rw [CK] at h1 ⊢;obtain ⟨a1,a2,a3⟩:=h1;refine ⟨⟨a1,hn,fun a ha b hb e=>?_⟩,h2,fun a ha b hb e=>?_⟩
 ·subst e;rcases hd a hb with z | z
  ·exact a3 a ha a z rfl
  ·exact z (by simp [ha])
 ·subst e;rcases List.mem_append.mp ha with ha | ha
  ·exact h3 a (by simp [ha]) a hb rfl
  ·rcases hd a ha with z | z
   ·exact h3 a (by simp [z]) a hb rfl
   ·exact z (by simp [hb])
theorem Sg.Vr (S:Sg E ss σ F H){k:NK}{xs:List OV}{ho:HO}{lt:Bool}(hi:ss[i]?=some (.ow lt t))(BA:t.at p=some (.nd k a xs))(hn:Aj F (upd H a ho) (.ref a) n)(nd:n.addrs.Nodup)
  (YE:∀ b∈n.addrs,b∈(OV.nd k a xs).addrs∨(F b=none/\E.H0 b=none/\∀ (j:Nat) s,ss[j]?=some s->¬ B9 s σ[j]? b)):Sg E (ss.set i (.ow lt (t.put p n))) σ F (upd H a ho):=by
 obtain ⟨v,e,r,Vp,q⟩:=S.ok i _ hi;obtain ⟨l,rr,e1,e2⟩:=OV.split BA;have au:a∈(OV.nd k a xs).addrs:=by rw [OV.Ct];simp
 have ut:∀ b∈(OV.nd k a xs).addrs,b∈t.addrs:=fun b hb=>by rw [e1];simp [hb]
 have Eu:∀ b∈n.addrs,b∈(OV.nd k a xs).addrs∨b∉t.addrs:=fun b hb=>(YE b hb).imp id fun z m=>z.2.2 i _ hi m;obtain ⟨w,rw_,go⟩:=r.at BA;have ew:w=.ref a:=by cases rw_;rfl
 subst ew;have ne1:∀ (j:Nat) s,(ss.set i .any)[j]?=some s->∀ b,b∈t.addrs->¬ B9 s σ[j]? b:=fun j s hj b hb m=>by
  by_cases z:j=i
  ·subst z;rw [CZ (List.getElem?_eq_some_iff.mp hi).1] at hj;cases hj;cases m
  ·rw [CQ (BS z)] at hj;exact S.BP j i s _ b z hj hi m hb
 have S2:=(S.drop i).Px (o:=ho) (q a (ut a au)).1 ((q a (ut a au)).2.imp id fun z=>z.2) fun j s hj=>ne1 j s hj a (ut a au);have YX:=Vp;rw [e1,CK,CK] at YX;obtain ⟨⟨_,_,d1⟩,_,d2⟩:=YX;have ZDZ:∀ b,b∈l++rr->b≠a:=fun b hb z=>by
  subst z;rcases List.mem_append.mp hb with hb | hb
  ·exact d1 b hb b au rfl
  ·exact d2 b (by simp [au]) b hb rfl
 have r2:Aj F (upd H a ho) v (t.put p n):=go _ n hn fun l' r' g1 g2 b hb o mm=>by
  rw [AX ?_];exact mm;rintro rfl;have ar:=Vp;rw [g1,CK,CK] at ar;obtain ⟨⟨_,_,c1⟩,_,c2⟩:=ar;rcases List.mem_append.mp hb with hb | hb
  ·exact c1 b hb b au rfl
  ·exact c2 b (by simp [au]) b hb rfl
 have ad:∀ b∈(t.put p n).addrs,b∈t.addrs∨(F b=none/\E.H0 b=none/\∀ (j:Nat) s,ss[j]?=some s->¬ B9 s σ[j]? b):=fun b hb=>by
  rw [e2] at hb;rcases List.mem_append.mp hb with hb | hb
  ·rcases List.mem_append.mp hb with hb | hb
   ·exact .inl (by rw [e1];simp [hb])
   ·exact (YE b hb).imp (ut b) id
  ·exact .inl (by rw [e1];simp [hb])
 have S3:=S2.setG (j:=i) (s:=.ow lt (t.put p n)) (v:=v) ⟨v,rfl,r2,by rw [e2];exact Rw (e1▸Vp) nd fun b hb=>(Eu b hb).imp id (by rw [e1];exact id),fun b hb=>(ad b hb).elim (q b) fun z=>⟨z.1,.inl z.2.1⟩⟩ fun b hb j s hj hs m=>by
  rcases ad b hb with z | z
  ·exact ne1 j s hs b z m
  ·rw [CQ (BS hj)] at hs;exact z.2.2 j s hs m
 rw [T8 e,ik] at S3;exact S3
structure Wl [Xw] (ss:List Slot) (i:Nat) (t:OV) (te:TE) (k:List Nat->OV->Prop):Prop where
 hi:∃ lt,ss[i]?=some (.ow lt t)
 go:∀ (E:Ent) (σ:L2.St) (F H:Hp) (Q:VK),Sg E ss σ F H->(∀ v p u F' H',Mv E ss σ F H F' H'->Aj F' H' v u->t.at p=some u->k p u->Q v H')->te σ H Q
def DF:List Nat->List Slot->List Slot
 | [],ss=>ss
 | i::m,ss=>DF m (ss.set i .any)
structure Wx [Xw] (ss:List Slot) (te:TE) (k:List Nat->OV->Prop):Prop where
 go:∀ (E:Ent) (σ:L2.St) (F H:Hp) (Q:VK),Sg E ss σ F H->(∀ v m u F' H',Mv E ss σ F H F' H'->Aj F' H' v u->u.addrs.Nodup->(∀ a∈u.addrs,F' a=none/\E.H0 a=none/\((∃ i∈m,∃ s,s≠Slot.AD/\ss[i]?=some s/\B9 s σ[i]? a)∨H a=none))->k m u->Q v H')->te σ H Q
structure Jo [Xw] (ss:List Slot) (te:TA) (k:List Nat->List OV->Prop):Prop where
 go:∀ (E:Ent) (σ:L2.St) (F H:Hp) (Q:List V->Hp->Prop),Sg E ss σ F H->(∀ vs m us F' H',Mv E ss σ F H F' H'->An F' H' vs us->(OV.AZ us).Nodup->(∀ a∈OV.AZ us,F' a=none/\E.H0 a=none/\((∃ i∈m,∃ s,s≠Slot.AD/\ss[i]?=some s/\B9 s σ[i]? a)∨H a=none))->k m us->Q vs H')->te σ H Q
section
variable [Xw]
variable {K:ZE5}{k:PV->Prop}
theorem OV.Ih (h:t.at p=some u):∀ a∈u.addrs,a∈t.addrs:=fun a ha=>by
 obtain ⟨l,r,e,_⟩:=OV.split h;rw [e];simp [ha]
theorem Aj.mv (r:Aj F H v u)(S:Sg E ss σ F H)(hi:∃ lt,ss[i]?=some (.ow lt t))(h:t.at p=some u)(m:Mv E ss σ F H F' H'):Aj F' H' v u:=
 r.mono m.ff fun a ha o e=>m.hh a o (S.NT hi.choose_spec (OV.Ih h a ha) (by simp)) e
theorem Cw {lt:Bool}{k:List Nat->OV->Prop}(hi:ss[i]?=some (.ow lt t))(hk:k [] t):Wl ss i t (BL i) k:=⟨⟨lt,hi⟩,fun E σ F H Q S q=>by
 obtain ⟨v,e,r,_,_⟩:=S.ok i _ hi;exact ⟨v,e,q v [] t F H (.refl S) r OV.G1 hk⟩⟩
theorem Np {k:List Nat->OV->Prop}(h:Wl ss i t ta fun p u=>∃ a xs,u=.nd .lst a xs/\Wp ss tb fun q=>∃ (j:Int) (n:Nat) (w:OV),q=.int j/\FP xs.length j=some n/\xs[n]?=some w/\k (p++[n]) w):Wl ss i t (Bx (PX K) ta tb) k:=⟨h.hi,fun E σ F H Q S q=>
 h.go E σ F H _ S fun v p u F1 H1 m1 r1 h1 ⟨a,xs,eu,h2⟩=>h2.go E σ F1 H1 _ m1.st fun v2 p2 F2 H2 m2 r2 ⟨j,n,w,e,hn,hw,kk⟩=>by
  subst e;cases r2.inv;have r3:=r1.mv m1.st h.hi h1 m2;subst eu;obtain ⟨_,rfl,ha,sd,ft,rr⟩:=r3.inv;obtain ⟨x,hx,rx⟩:=rr.get hw;refine ⟨a,_,j,x,rfl,rfl,AF.of ha,?_,q x (p++[n]) w F2 H2 (m1.trans m2) rx (OV.LI h1 (by rw [OV.Gj,hw];exact OV.G1)) kk⟩;unfold L2.Be;rw [rr.length,hn];exact hx⟩
theorem OY {k:List Nat->OV->Prop}(h:Wl ss i t ta fun p u=>∃ xs,u=.tp xs/\Wp ss tb fun q=>∃ (j:Int) (n:Nat) (w:OV),q=.int j/\FP xs.length j=some n/\xs[n]?=some w/\k (p++[n]) w):Wl ss i t (Bx (Gf K) ta tb) k:=⟨h.hi,fun E σ F H Q S q=>
 h.go E σ F H _ S fun v p u F1 H1 m1 r1 h1 ⟨xs,eu,h2⟩=>h2.go E σ F1 H1 _ m1.st fun v2 p2 F2 H2 m2 r2 ⟨j,n,w,e,hn,hw,kk⟩=>by
  subst e;cases r2.inv;have r3:=r1.mv m1.st h.hi h1 m2;subst eu;obtain ⟨_,_,rfl,ha,rr⟩:=r3.inv;obtain ⟨x,hx,rx⟩:=rr.get hw;refine ⟨_,_,j,x,rfl,rfl,AA.of (m2.st.fh _ _ ha),?_,q x (p++[n]) w F2 H2 (m1.trans m2) rx (OV.LI h1 (by rw [OV.LR,hw];exact OV.G1)) kk⟩;unfold L2.Be;rw [rr.length,hn];exact hx⟩
theorem DA (h:Wl ss i t te fun _ u=>∃ p,u=.fz p/\k p):Wp ss te k:=⟨fun E σ F H Q S q=>
 h.go E σ F H _ S fun v p u F1 H1 m1 r1 h1 AJ=>by obtain ⟨p,eu,kk⟩:=AJ;subst eu;cases r1 with | fz r=>exact q v p F1 H1 m1 r kk⟩
theorem Eh {k:List Nat->OV->Prop}(h:Wp ss te fun p=>k [] (.fz p)):Wx ss te k:=⟨fun E σ F H Q S q=>
 h.go E σ F H _ S fun v p F1 H1 m1 r kk=>q v [] (.fz p) F1 H1 m1 (.fz r) (by rw [OV.IL];exact Nw) (fun a ha=>by rw [OV.IL] at ha;cases ha) kk⟩
theorem NA {k:List Nat->List OV->Prop}(h:k [] []):Jo ss B5 k:=⟨fun E σ F H Q S q=>q _ [] [] F H (.refl S) .nil (by rw [OV.HK];exact Nw) (fun a ha=>by rw [OV.HK] at ha;cases ha) h⟩
theorem v8 {k:List Nat->OV->Prop}(hi:ss[i]?=some (.ow false t))(h:k [i] t):Wx ss (BL i) k:=⟨fun E σ F H Q S q=>by
 obtain ⟨v,e,r,nd,qa⟩:=S.ok i _ hi;refine ⟨_,e,q v [i] t F H (.refl S) r nd (fun a ha=>⟨(qa a ha).1,?_,.inl ⟨i,by simp,_,by simp,hi,ha⟩⟩) h⟩;exact (qa a ha).2.elim id fun z=>by cases z.1⟩
theorem Wx.r9 (S:Sg E ss σ F H)(h:(∃ i∈m,∃ s,s≠Slot.AD/\ss[i]?=some s/\B9 s σ[i]? a)∨H a=none):By ss σ a:=by
 rcases h with ⟨j,_,s,hp,hs,o⟩ | z
 ·exact S.NT hs o hp
 ·exact S.J2 z
theorem Mv.sO (m:Mv E ss σ F H F' H')(h:F a=Option.none)(h2:H a≠Option.none):F' a=Option.none:=by
 cases e:F' a with
 | none=>rfl
 | some o=>
  rcases m.nn a o e with z | z
  ·rw [h] at z;cases z
  ·exact absurd z h2
theorem L6 {k:List Nat->List OV->Prop}(h:Wx ss te fun m u=>Jo ss tr fun m2 us=>(∀ i∈m,i∉m2)/\k (m++m2) (u::us)):Jo ss (AV te tr) k:=⟨fun E σ F H Q S q=>
 h.go E σ F H _ S fun v m u F1 H1 m1 r1 FJ a1 h2=>h2.go E σ F1 H1 _ m1.st fun vs jI us F2 H2 m2 r2 Gr a2 AJ=>by
  obtain ⟨dj,kk⟩:=AJ;have np:∀ a∈u.addrs,By ss σ a:=fun a ha=>Wx.r9 S (a1 a ha).2.2;refine q (v::vs) (m++jI) (u::us) F2 H2 (m1.trans m2) (.cons (r1.mono m2.ff fun a ha o e=>m2.hh a o (np a ha) e) r2) ?_ (fun a ha=>?_) kk
  ·rw [OV.Bf,CK];refine ⟨FJ,Gr,fun a ha b hb e=>?_⟩;subst e;rcases (a2 a hb).2.2 with ⟨j2,vN,s2,O9,Cc,o2⟩ | z
   ·rcases (a1 a ha).2.2 with ⟨j,hj,s,hp,hs,o⟩ | z
    ·exact S.BP j j2 s s2 a (by rintro rfl;exact dj j hj vN) hs Cc o o2
    ·exact S.DL Cc o2 z
   ·exact r1.there a ha z
  ·rw [OV.Bf] at ha;rcases List.mem_append.mp ha with ha | ha
   ·obtain ⟨f,h0,w⟩:=a1 a ha;exact ⟨m2.sO f (r1.there a ha),h0,w.imp (fun DO=>by obtain ⟨j,hj,z⟩:=DO;exact ⟨j,by simp [hj],z⟩) id⟩
   ·obtain ⟨f,h0,w⟩:=a2 a ha;exact ⟨f,h0,w.imp (fun pP=>by obtain ⟨j,hj,z⟩:=pP;exact ⟨j,by simp [hj],z⟩) m1.none⟩⟩
theorem ZBT {k:List Nat->OV->Prop}(h:Jo ss tr fun m us=>us.length<=100000/\k m (.tp us)):Wx ss (PK tr) k:=⟨fun E σ F H Q S q=>
 h.go E σ F H _ S fun vs m us F1 H1 m1 r1 FJ a1 AJ=>by obtain ⟨hz,kk⟩:=AJ;exact ⟨small (by rw [r1.length];exact hz),fun p hp=>by
  have m2:=m1.st.alloc hp (.tup vs);refine q _ m (.tp us) _ _ (m1.trans m2) (.tp AE (r1.mono m2.ff fun a ha o e=>by rw [AX (by rintro rfl;exact r1.there _ ha hp)];exact e)) (by rw [OV.E7];exact FJ) (fun a ha=>?_) kk;rw [OV.E7] at ha;obtain ⟨f,h0,w⟩:=a1 a ha;exact ⟨by rw [AX (by rintro rfl;exact r1.there _ ha hp)];exact f,h0,w⟩⟩⟩
theorem WJ {k:List Nat->OV->Prop}(h:Jo ss tr fun m us=>us.length<=100000/\∀ l,k m (.nd .lst l us)):Wx ss (Qa tr) k:=⟨fun E σ F H Q S q=>
 h.go E σ F H _ S fun vs m us F1 H1 m1 r1 FJ a1 AJ=>by obtain ⟨hz,kk⟩:=AJ;exact ⟨small (by rw [r1.length];exact hz),fun p hp=>by
  have m2:=m1.st.make hp (.lst vs);have GW:p∉OV.AZ us:=fun ha=>r1.there _ ha hp;refine q _ m (.nd .lst p us) _ _ (m1.trans m2) (.nd (k:=.lst) AE trivial trivial (r1.mono m2.ff fun a ha o e=>by rw [AX (by rintro rfl;exact GW ha)];exact e)) ?_ (fun a ha=>?_) (kk p)
  ·rw [OV.Ct];exact List.nodup_cons.mpr ⟨GW,FJ⟩
  ·rw [OV.Ct] at ha;rcases List.mem_cons.mp ha with e | ha
   ·subst e;exact ⟨m1.st.BH hp,m1.st.D6 hp,.inr (m1.none hp)⟩
   ·obtain ⟨f,h0,w⟩:=a1 a ha;exact ⟨f,h0,w⟩⟩⟩
theorem M9 {j:Nat}{s:Slot}:∀ {m:List Nat}{ss:List Slot},(DF m ss)[j]?=some s->s=.any∨(ss[j]?=some s/\j∉m)
 | [],ss,h=>.inr ⟨h,by simp⟩
 | i::m,ss,h=>by
  rcases M9 (m:=m) (ss:=ss.set i .any) h with e | ⟨e,hm⟩
  ·exact .inl e
  ·by_cases q:j=i
   ·subst q;have AQ:j<ss.length:=by have:=(List.getElem?_eq_some_iff.mp e).1;simpa using this
    rw [CZ AQ] at e;exact .inl (BO e).symm
   ·rw [CQ (BS q)] at e;exact .inr ⟨e,by simp [q,hm]⟩
theorem Sg.DF {E:Ent0}{σ:L2.St}{F H:Hp}:∀ (m:List Nat){ss:List Slot},Sg E ss σ F H->Sg E (Fz.DF m ss) σ F H
 | [],_,S=>S
 | i::m,_,S=>Sg.DF m (S.drop i)
theorem Sg.fS (S0:Sg E ss σ F0 H0)(S:Sg E ss σ F H)(r:Aj F H v u)(nd:u.addrs.Nodup)(hu:∀ a∈u.addrs,F a=none/\E.H0 a=none/\((∃ i∈m,∃ s,s≠Slot.AD/\ss[i]?=some s/\B9 s σ[i]? a)∨H0 a=none)):
  Sg E ((Fz.DF m ss).set j (.ow false u)) (σ.set j (some v)) F H:=by
 refine (S.DF m).setG ⟨v,rfl,r,nd,fun a ha=>⟨(hu a ha).1,.inl (hu a ha).2.1⟩⟩ fun a ha i s Br hs o=>?_;rcases M9 hs with e | ⟨Fu,hm⟩
 ·subst e;cases o
 ·rcases (hu a ha).2.2 with ⟨i2,Dj,s2,_,Cc,o2⟩ | z
  ·exact S.BP i i2 s s2 a (by rintro rfl;exact hm Dj) Fu Cc o o2
  ·exact S0.DL Fu o z
theorem eW (h:Wx ss te fun m u=>nx ((Fz.DF m ss).set j (.ow false u))):Ws ss (EX te (D1 j)) nx R:=⟨fun E D σ F H S hn hr=>
 h.go E σ F H _ S fun v m u F1 H1 m1 r nd hu kk=>hn _ _ F1 H1 kk (Sg.fS S m1.st r nd hu) m1.ff⟩
theorem Aj.rep (ff:A7 F F1):∀ {v:V}{t:OV},Aj F H v t->(∀ a∈t.addrs,∀ o,H a=some o->F1 a=some o)->Rep F1 v t.pv:=by
 intro v t r h;exact Aj.rec (motive_1:=fun v t _=>(∀ a∈t.addrs,∀ o,H a=some o->F1 a=some o)->Rep F1 v t.pv) (motive_2:=fun vs ts _=>(∀ a∈OV.AZ ts,∀ o,H a=some o->F1 a=some o)->AM F1 vs (OV.FK ts))
  (fun {v p} r _=>by rw [OV.pv];exact r.mono ff)
  (fun {a vs xs} e _ ih h=>by rw [OV.pv];exact .tup (ff _ _ e) (ih (by rw [OV.E7] at h;exact h)))
  (fun {k a vs xs} e sd ft _ ih h=>by
   rw [OV.Ct] at h;have VB:=ih fun a ha=>h a (by simp [ha]);have e':=h a (by simp) _ e;cases k with
   | lst=>rw [OV.pv];exact .lst e' VB
   | Am ks=>rw [OV.pv];exact .Am e' ft VB
   | obj C dx ns=>rw [OV.pv];exact .obj e' (h dx (by simp [NK.more]) _ sd) ft VB)
  (fun _=>by rw [OV.FK];exact .nil)
  (fun _ _ VC Rg h=>by
   rw [OV.Bf] at h;rw [OV.FK];exact .cons (VC fun a ha=>h a (by simp [ha])) (Rg fun a ha=>h a (by simp [ha])))
  r h
variable {lt:Bool}
theorem Kv:(OV.nd .lst a us).addrs=a::OV.AZ us:=by rw [OV.Ct];rfl
theorem KG:∀ (us ws:List OV),OV.AZ (us++ws)=OV.AZ us++OV.AZ ws
 | [],ws=>by rw [Xt,OV.HK,Xt]
 | u::us,ws=>by rw [iQ,OV.Bf,OV.Bf,KG us ws,C8]
theorem Ku (u:OV):OV.AZ [u]=u.addrs:=by rw [OV.Bf,OV.HK,EW]
theorem Sg.jM {us':List OV}(S0:Sg E ss σ F0 H0)(S:Sg E ss σ F H)(hi:ss[i]?=some (.ow lt t))(BA:t.at p=some (.nd .lst a us))
  (hu:∀ a∈u.addrs,F a=none/\E.H0 a=none/\((∃ i∈m,∃ s,s≠Slot.AD/\ss[i]?=some s/\B9 s σ[i]? a)∨H0 a=none)) (Dv:i∉m)
  (hr:An F H C3 us') (Nn:(OV.AZ us').Nodup) (Fx:∀ b∈OV.AZ us',b∈OV.AZ us∨b∈u.addrs):Sg E ((Fz.DF m ss).set i (.ow lt (t.put p (.nd .lst a us')))) σ F (upd H a (.lst C3)):=by
 have El:(Fz.DF m ss)[i]?=some (.ow lt t):=by
  have aux:∀ (m:List Nat) (ss:List Slot),ss[i]?=some (.ow lt t)->i∉m->(Fz.DF m ss)[i]?=some (.ow lt t):=by
   intro m
   induction m with
   | nil=>intro ss h _;exact h
   | cons j m ih=>
    intro ss h hm;refine ih _ ?_ fun z=>hm (by simp [z]);rw [CQ (by rintro rfl;exact hm (by simp))];exact h
  exact aux m ss hi Dv
 obtain ⟨v,e,r,nd,q⟩:=S.ok i _ hi;have ut:∀ b,b∈a::OV.AZ us->b∈t.addrs:=fun b hb=>OV.Ih BA b (by rw [Kv];exact hb);have Ke:∀ b∈u.addrs,b∉t.addrs:=fun b hb z=>by
  rcases (hu b hb).2.2 with ⟨j,hj,s,_,hs,o⟩ | w
  ·exact S.BP j i s _ b (by rintro rfl;exact Dv hj) hs hi o z
  ·exact S0.DL hi z w
 have Cz:(OV.nd .lst a us).addrs.Nodup:=by
  obtain ⟨l,rr,e1,_⟩:=OV.split BA;rw [e1,CK,CK] at nd;exact nd.1.2.1
 rw [Kv] at Cz;have na:∀ b∈OV.AZ us',b≠a:=fun b hb z=>by
  subst z;rcases Fx b hb with w | w
  ·exact (List.nodup_cons.mp Cz).1 w
  ·exact Ke b w (ut b (by simp))
 refine (S.DF m).Vr El BA (.nd (k:=.lst) AE trivial trivial (hr.mono (A7.refl _) fun b hb o ho=>by rw [AX (na b hb)];exact ho)) (by rw [Kv];exact List.nodup_cons.mpr ⟨fun z=>na a z rfl,Nn⟩) fun b hb=>?_;rw [Kv] at hb ⊢;rcases List.mem_cons.mp hb with w | w
 ·exact .inl (by simp [w])
 ·rcases Fx b w with z | z
  ·exact .inl (by simp [z])
  ·refine .inr ⟨(hu b z).1,(hu b z).2.1,fun j s hs o=>?_⟩;rcases M9 hs with y | ⟨Fu,hm⟩
   ·subst y;cases o
   ·rcases (hu b z).2.2 with ⟨i2,Dj,s2,_,Cc,o2⟩ | y
    ·exact S.BP j i2 s s2 b (by rintro rfl;exact hm Dj) Fu Cc o o2
    ·exact S0.DL Fu o y
theorem Vz (h:Wl ss i t ta fun p u=>∃ lt a us,ss[i]?=some (.ow lt t)/\u=.nd .lst a us/\us.length<=99999/\Wx ss te fun m w=>i∉m/\nx ((DF m ss).set i (.ow lt (t.put p (.nd .lst a (us++[w])))))):Ws ss (LH (Qg K "list" PM ta (AV te B5))) nx R:=⟨fun E D σ F H S hn hr=>
 h.go E σ F H _ S fun v p u F1 H1 m1 r1 h1 ⟨lt,a,us,hi,eu,hz,hw⟩=>by
  subst eu;cases r1 with
  | @nd k a' vs _ ha sd ft rr=>
   refine .inl ⟨rfl,_,AF.of ha⟩ |> fun q0=>⟨q0,hw.go E σ F1 H1 _ m1.st fun v2 m w F2 H2 m2 r2 Gr a2 ⟨Dv,kk⟩=>?_⟩;have r3:=(Aj.nd (k:=.lst) ha sd ft rr).mv m1.st h.hi h1 m2;cases r3 with
   | @nd _ _ iD _ ha3 sd3 ft3 gh=>
    refine ⟨a,iD,v2,rfl,rfl,ha3,LZ (by rw [gh.length];exact hz),?_⟩;refine hn _ σ F2 _ kk (Sg.jM (u:=w) m1.st m2.st hi h1 a2 Dv (gh.append (.one r2)) ?_ fun b hb=>?_) (m1.ff.trans m2.ff)
    ·rw [KG,Ku,CK];obtain ⟨v0,e0,r0,CF,q0⟩:=m2.st.ok i _ hi;have Cz:(OV.nd .lst a us).addrs.Nodup:=by
      obtain ⟨l,rr,e1,_⟩:=OV.split h1;rw [e1,CK,CK] at CF;exact CF.1.2.1
     rw [Kv] at Cz;refine ⟨(List.nodup_cons.mp Cz).2,Gr,fun x hx y hy e=>?_⟩;subst e;have xt:x∈t.addrs:=OV.Ih h1 x (by rw [Kv];simp [hx]);rcases (a2 x hy).2.2 with ⟨j,hj,s,_,hs,o⟩ | w
     ·exact m1.st.BP j i s _ x (by rintro rfl;exact Dv hj) hs hi o xt
     ·exact m1.st.DL hi xt w
    ·rw [KG,Ku] at hb;exact List.mem_append.mp hb⟩
theorem oq {k:OV->Prop}(h:Wx ss te fun _ u=>k u):Ws ss (Gu te) nx (.ow k):=⟨fun E D σ F H S hn hr=>
 h.go E σ F H _ S fun v m u F1 H1 m1 r nd hu kk=>hr v F1 H1 m1.st.toFin ⟨u,r,nd,fun a ha=>⟨(hu a ha).1,(hu a ha).2.1⟩,kk⟩⟩
theorem yH {ta:TA}{k:List Nat->OV->Prop}(hj:ss[j]?=some .AD)(h:Wa ss ta fun l=>∃ k',pre (.AD::l) (.ow k')/\∀ u,k' u->k [] u):Wx ss (Bz (BW pre) [] E0 (AV (BL j) ta)) k:=⟨fun E σ F H Q S q=>by
 obtain ⟨p,e,_⟩:=S.ok j _ hj;refine ⟨_,e,h.go E σ F H _ S fun vs l F1 H1 m1 a ⟨k',hp,kk⟩=>?_⟩;show BW pre ((V.ref p::vs)++[]) H1 Q E0;rw [EW];refine ⟨.AD::l,.ow k',F1,[p],hp,m1.st.YV hj e a,fun v F' H' f ⟨u,r,nd,hu,ku⟩=>?_⟩;exact q v [] u F' H' (m1.trans (m1.st.back (A:=[p]) (fun a h=>⟨j,hj,(show a=p from by simpa using h)▸e⟩) f)) r nd (fun a ha=>⟨(hu a ha).1,S.D6 (m1.none (hu a ha).2),.inr (m1.none (hu a ha).2)⟩) (kk u ku)⟩
end
def ptr (a:Addr):Hp->V->Prop:=fun _ v=>v=.ref a
def BX:List Slot->L2.St->List Addr
 | .own _::ss,some (.ref l)::σ=>l::BX ss σ
 | .ow _ t::ss,_::σ=>t.addrs++BX ss σ
 | _::ss,_::σ=>BX ss σ
 | _,_=>[]
theorem eZ:∀ {ss:List Slot}{σ:L2.St} {a:Addr},a∈BX ss σ->∃ (i:Nat) (s:Slot),ss[i]?=some s/\s≠.AD/\B9 s σ[i]? a
 | [],σ,a,h=>by simp [BX] at h
 | s::ss,[],a,h=>by cases s <;> simp [BX] at h
 | s::ss,o::σ,a,h=>by
  have up:a∈BX ss σ->∃ (i:Nat) (s':Slot),(s::ss)[i]?=some s'/\s'≠.AD/\B9 s' (o::σ)[i]? a:=fun h=>by
   obtain ⟨i,s',h1,h2,h3⟩:=eZ h;exact ⟨i+1,s',by simpa using h1,h2,by simpa using h3⟩
  cases s with
  | own xs=>
   cases o with
   | none=>exact up (by simpa [BX] using h)
   | some v=>
    cases v with
    | ref l=>
     rw [BX] at h;rcases List.mem_cons.mp h with e | h
     ·subst e;exact ⟨0,_,rfl,by simp,rfl⟩
     ·exact up h
    | _=>exact up (by simpa [BX] using h)
  | ow lt t=>
   rw [BX] at h;rcases List.mem_append.mp h with h | h
   ·exact ⟨0,_,rfl,by simp,h⟩
   ·exact up h
  | _=>exact up (by simpa [BX] using h)
theorem OZ:∀ {ss:List Slot}{σ:L2.St} {i:Nat}{s:Slot}{a:Addr},ss.length=σ.length->ss[i]?=some s->s≠.AD->B9 s σ[i]? a->a∈BX ss σ
 | [],σ,i,s,a,_,h,_,_=>by simp at h
 | s0::ss,[],i,s,a,hl,_,_,_=>by simp at hl
 | s0::ss,o::σ,0,s,a,hl,h,hp,ho=>by
  simp at h;subst h;cases s0 with
  | own xs=>
   have e:o=some (.ref a):=by have:some o=some (some (V.ref a)):=ho;exact BO this
   subst e;rw [BX];simp
  | ow lt t=>rw [BX];exact HD _ ho
  | AD=>exact absurd rfl hp
  | _=>cases ho
 | s0::ss,o::σ,i+1,s,a,hl,h,hp,ho=>by
  have q:=OZ (ss:=ss) (σ:=σ) (i:=i) (a:=a) (by simpa using hl) (by simpa using h) hp (by simpa using ho)
  cases s0 with
  | own xs=>cases o with
   | none=>simpa [BX] using q
   | some v=>cases v with
    | ref l=>rw [BX];simp [q]
    | _=>simpa [BX] using q
  | ow lt t=>rw [BX];exact D4 _ q
  | _=>simpa [BX] using q
mutual
theorem Aj.Lb {F H:Hp}:∀ {v:V}{t:OV},Aj F H v t->∀ a∈t.addrs,∀ vs,H a≠some (.tup vs)
 | _,_,.fz _,a,ha,_=>by rw [OV.IL] at ha;cases ha
 | _,_,.tp _ r,a,ha,vs=>by rw [OV.E7] at ha;exact An.Lb r a ha vs
 | _,_,@Aj.nd _ _ k b ws xs h sd ft r,a,ha,vs=>by
  rw [OV.Ct,DT,Ht] at ha;rcases ha with rfl | ha | ha
  ·rw [h];cases k <;> simp [NK.ho]
  ·cases k with
   | obj C dx ns=>
    have e:a=dx:=by simpa [NK.more] using ha
    subst e;have TM:H a=some (.own b):=sd;rw [TM];simp
   | _=>simp [NK.more] at ha
  ·exact An.Lb r a ha vs
theorem An.Lb {F H:Hp}:∀ {vs:List V}{ts:List OV},An F H vs ts->∀ a∈OV.AZ ts,∀ ws,H a≠some (.tup ws)
 | _,_,.nil,a,ha,_=>by rw [OV.HK] at ha;cases ha
 | _,_,.cons r t,a,ha,ws=>by
  rw [OV.Bf,Ht] at ha;rcases ha with ha | ha
  ·exact Aj.Lb r a ha ws
  ·exact An.Lb t a ha ws
end
mutual
def ES:PV->Bool
 | .lst _=>false
 | .Am _ _=>false
 | .obj _ _ _=>false
 | .exc _ _ _=>false
 | .tup xs=>FQ xs
 | _=>true
def FQ:List PV->Bool
 | []=>true
 | x::r=>ES x && FQ r
end
def GS (F:Hp)(as:List Addr):Hp:=fun a=>if a∈as then none else F a
theorem Rep.sub {as:List Addr}(h:∀ a∈as,∀ vs,F a≠some (.tup vs)):∀ {v:V}{p:PV},Rep F v p->ES p=true->Rep (GS F as) v p:=by
 intro v p r hn;exact Rep.rec (motive_1:=fun v p _=>ES p=true->Rep (GS F as) v p) (motive_2:=fun vs ps _=>FQ ps=true->AM (GS F as) vs ps)
  (fun _=>.AB) (fun b _=>.bl b) (fun i _=>.int i) (fun x _=>.str x)
  (fun _ _ _ z=>by simp [ES] at z)
  (fun {a vs xs} e _ ih z=>.tup (by unfold GS;rw [jG (fun q=>h a q vs e)];exact e) (ih (by simpa [ES] using z)))
  (fun _ _ _ _ z=>by simp [ES] at z)
  (fun _ _ _ _ _ z=>by simp [ES] at z)
  (fun _=>.con)
  (fun _ z=>by simp [ES] at z)
  (fun _ _ _ _ _ z=>by simp [ES] at z)
  (fun _=>.nil)
  (fun _ _ VC Rg z=>by
   rw [FQ,Dg] at z;exact .cons (VC z.1) (Rg z.2))
  r hn
theorem AM.sub {as:List Addr}(h:∀ a∈as,∀ vs,F a≠some (.tup vs)):∀ {vs:List V}{ps:List PV},AM F vs ps->FQ ps=true->AM (GS F as) vs ps
 | _,_,.nil,_=>.nil
 | _,_,.cons r t,z=>by
  rw [FQ,Dg] at z;exact .cons (r.sub h z.1) (t.sub h z.2)
structure Wb [Xw] (ss:List Slot) (ta:TA) (k:List PV->Prop):Prop where
 go:∀ (E:Ent) (σ:L2.St) (F H:Hp) (Q:List V->Hp->Prop),Sg E ss σ F H->(∀ vs ps F' H',Mv E ss σ F H F' H'->AM (BQ F' H' (BX ss σ)) vs ps->k ps->Q vs H')->ta σ H Q
theorem Sg.as (S:Sg E ss σ F H)(h:a∈BX ss σ):F a=none/\H a≠none/\(∀ vs,H a≠some (.tup vs))/\By ss σ a:=by
 obtain ⟨i,s,hs,hp,ho⟩:=eZ h;refine ⟨S.ZBH hs ho,S.DL hs ho,?_,S.NT hs ho hp⟩;have k:=S.ok i s hs;cases s with
 | own xs=>obtain ⟨l,vs,e,_,_,e3,_⟩:=k;rw [show σ[i]?=some (some (.ref a)) from ho] at e;cases e;rw [e3];simp
 | ow lt t=>obtain ⟨v,_,r,_⟩:=k;exact r.Lb a ho
 | AD=>exact absurd rfl hp
 | _=>cases ho
theorem Sg.G0 (S:Sg E ss σ F H):A7 F (BQ F H (BX ss σ))/\A7 (BQ F H (BX ss σ)) H:=by
 refine ⟨fun a o e=>?_,fun a o e=>?_⟩
 ·unfold BQ;rw [jG (fun q=>by rw [(S.as q).1] at e;cases e)];exact e
 ·unfold BQ at e;split at e
  ·exact e
  ·exact S.fh a o e
theorem Sg.lend (S:Sg E ss σ F H)(r:AM (BQ F H (BX ss σ)) vs ps):Sg (E3 [] (BQ F H (BX ss σ)) H) (ps.map .is) (vs.map some) (BQ F H (BX ss σ)) H:=by
 have nn:∀ {p:Prop}(a:Addr),a∈([]:List Addr)->p:=fun a h=>absurd h Au;refine ⟨⟨S.G0.2,A7.refl _,fun _ _ _ e=>e,fun _ _ e=>.inl e,fun a h=>nn a h,fun a h=>nn a h,fun a h=>nn a h,fun a h=>nn a h,fun a h=>nn a h,fun a h=>nn a h⟩,by rw [Ab,Ab,r.length],fun i s hi=>?_,fun i j s u l Br hi hj ms mu=>?_⟩
 ·rw [Ax] at hi;cases e:ps[i]? with
  | none=>rw [e] at hi;cases hi
  | some p=>
   rw [e] at hi;obtain ⟨v,hv,rv⟩:=r.get e;have es:Slot.is p=s:=BO hi;subst es;rw [Ax,hv];exact ⟨v,rfl,rv⟩
 ·rw [Ax] at hi;cases e:ps[i]? with
  | none=>rw [e] at hi;cases hi
  | some p=>rw [e] at hi;have es:Slot.is p=s:=BO hi;subst es;cases ms
theorem Sg.Vm (S:Sg E ss σ F H)(f:Fin (E3 [] (BQ F H (BX ss σ)) H) F' H'):Mv E ss σ F H (GS F' (BX ss σ)) H'/\∀ a∈BX ss σ,∀ vs,F' a≠some (.tup vs):=by
 have kp:∀ a o,H a=some o->H' a=some o:=fun a o e=>f.keep a o ⟨Au,Au⟩ e;refine ⟨S.step (fun a o e=>?_) (fun a o e=>?_) (fun a o _ e=>kp a o e) (fun a o e=>?_) (fun i l hi e=>BR.keep (S.EA hi e) fun o e=>kp l o e),fun a ha vs e=>?_⟩
 ·unfold GS;rw [jG (fun q=>by rw [(S.as q).1] at e;cases e)];exact f.f0 a o (S.G0.1 a o e)
 ·unfold GS at e;split at e
  ·cases e
  ·exact f.fh a o e
 ·unfold GS at e;split at e
  ·cases e
  ·rename_i q;rcases f.fresh a o e with z | z
   ·left
    have z':BQ F H (BX ss σ) a=some o:=z;unfold BQ at z';rw [jG q] at z';exact z'
   ·exact .inr z
 ·obtain ⟨o,ho⟩:=Option.ne_none_iff_exists'.mp (S.as ha).2.1;have z:F' a=some o:=f.f0 a o (by show BQ F H (BX ss σ) a=some o;unfold BQ;rw [jd ha];exact ho);rw [z] at e;cases e;exact (S.as ha).2.2.1 vs ho
section
variable [Xw]
variable {K:ZE5}{k:PV->Prop}{lt:Bool}
theorem dX {k:List PV->Prop}(h:k []):Wb ss B5 k:=⟨fun E σ F H Q S q=>q _ _ F H (.refl S) .nil h⟩
theorem cn {k:List PV->Prop}(h:Wp ss te fun p=>Wb ss tr fun ps=>k (p::ps)):Wb ss (AV te tr) k:=⟨fun E σ F H Q S q=>
 h.go E σ F H _ S fun v p F1 H1 m1 r1 h2=>h2.go E σ F1 H1 _ m1.st fun vs ps F2 H2 m2 r2 kk=>q _ _ F2 H2 (m1.trans m2) (.cons ((r1.mono m2.ff).mono m2.st.G0.1) r2) kk⟩
end
theorem OO:∀ {xs:List PV},(∀ x∈xs,Bi x x=true)->Cp xs xs=true
 | [],_=>by rw [Cp]
 | x::r,h=>by rw [Qd,h x (by simp),OO (xs:=r) fun y hy=>h y (by simp [hy])];rfl
theorem oh {K:ZE5}:∀ (d:Nat){p:PV},dat K d p->Bi p p=true:=by
 intro d
 induction d with
 | zero=>intro p h;cases p <;> first | exact h.elim | (rw [Bi] <;> simp)
 | succ d ih=>
  intro p h;cases p with
  | lst xs=>rw [Bi];exact OO fun x hx=>ih (h x hx)
  | tup xs=>rw [Bi];exact OO fun x hx=>ih (h x hx)
  | con a xs=>rw [Bi];exact OO fun x hx=>ih (h.1 x hx)
  | _=>first | exact h.elim | (rw [Bi] <;> simp)
end Fz
namespace L2
variable {M:Model}{A:Around}{E xe:Value->Shared->Prop}{s:Shared}{base:Heap}{env:Env}{outer:List Env}{C S ea f fI:Addr}{dx tb:Option Addr}{w:World}{mg:ZE7}{N ps sn:List Str}{n name par qual x:Str}{scope:Scope}{cd v:Value}{H:Hp}{X:Cx}{E':St->XK}{Bv JC np p pos:Pos}{e e0:Expr}{es:List Expr}{t:TA}{ab vc:Bool}{prog:Program}{ZDn pins:ZE6}{σ:St}{j kk:Nat}{fd:FuncData}{ZR body:List Stmt}{b0:Stmt}{dJ:(St->XK)->TS}{th:TS}{sp:Sp}
section
variable {K:ZE5}{x t:Addr}
section
open PySem.Builtin PySem.Builtin.ObjectAttr
end
end
end L2
namespace Fz
open L2 Lw
variable {E:Ent0}{ss:List Slot}{σ:L2.St}{F F' F1 H H':Hp}{ta tb tc te ti:TE}{tp:Bool}{xs:List PV}{nx:List Slot->Prop}{R:Aq}
def SN:Pre:=fun l R=>∃ (ns:List Str),l=[.sq false (ns.map .str)]/\ns.length<=1000/\R=.is fun p=>p=.bl true
theorem ZBw {α:Type}(ms:List α)(x:α)(j:Nat):(ms.take j++x::ms.drop j).Perm (x::ms):=by
 have h:=List.perm_middle (a:=x) (l₁:=ms.take j) (l₂:=ms.drop j)
 rwa [KL] at h
theorem Rp {ms:List Str}{x:Str}(j:Nat)(h:ms.Nodup)(hx:x∉ms):(ms.take j++x::ms.drop j).Nodup:=(ZBw ms x j).nodup_iff.mpr (List.nodup_cons.mpr ⟨hx,h⟩)
def QX:Pre:=fun l R=>∃ i:Int,l=[.is (.int i)]/\R=.is fun p=>p=.bl true
section
variable [Xw]
variable {K:ZE5}{k:PV->Prop}{v:V}
variable {js:List Nat}
theorem Tx {i:Nat}(hi:ss[i]?=some .AD)(h:Wq ss ta fun tp xs=>tp=false/\∃ ns:List Str,xs=ns.map PV.str/\(∀ x∈ns,Nm x)/\ns.length<=1000/\∀ x:Str,Nm x->x∉ns->k (.str x)):
  Wp ss (Bz (Nb K) [] E0 (AV (BL i) (AV ta B5))) k:=⟨fun E σ F H Q S q=>by
 obtain ⟨p,e,_⟩:=S.ok i _ hi;refine ⟨_,e,h.go E σ F H _ S fun v tp xs F1 H1 m1 sv ⟨et,ns,ex,hN,hz,kk⟩=>?_⟩;subst et;subst ex;obtain ⟨l,vs,ev,hn,hl,r⟩:=sv;subst ev;rw [r.strs] at hl;exact ⟨p,l,ns,rfl,m1.st.EA hi e,AF.of hl,fun z=>hn i hi (z▸e),hN,hz,fun x H3 hx Jx s=>q _ _ F1 H3 (m1.trans (m1.st.Ox hi e s)) (.str x) (kk x hx Jx)⟩⟩
def vG:Option Str->PV
 | none=>.AB
 | some x=>.str x
def Vl:Pre:=fun l R=>∃ (ns:List Str) (r:Str),l=[.sq false (ns.map .str),.is (.str r)]/\ns.length<64/\R=.is fun p=>∃ ts:List Str,ts.Perm ns/\sortedS ts=true/\p=CS r 0 ts
end
end Fz
namespace Fz
open L2 Lw
variable {E:Ent0}{ss:List Slot}{σ:L2.St}{F F' H H':Hp}{te:TE}{nx:List Slot->Prop}{R:Aq}{pre:QZ}
@[reducible] def ZDW (X:XK) (D:Ex->Prop):Xw:=⟨fun _=>X,fun _=>True,D⟩
@[reducible] def xwT (E:Ent0) (J:List Slot->Prop) (D:Ex->Prop):Xw:=⟨fun σ C dx H=>∃ ss F x,J ss/\Sg E ss σ F H/\D x/\x.at F C dx,J,D⟩
end Fz
namespace Fz
open L2 Lw
variable {c:TT}{i j n:Nat}{l ss:List Slot}{ta te:TE}{a a0:Addr}{N ns:List Str}{t t' u:OV}{F F' H H':Hp}{σ:L2.St}{E:Ent0}{vs:List V}{us:List OV}{Q:VK}{X:XK}
theorem ZBQ {b c n:Int}(hb:1<=b)(hc:b<=c)(hn:0<=n):∃ m:Nat,(if (if c<n then c else n) > b then (if c<n then c else n) else b)=(m:Int)/\(m:Int)<=c:=by
 have h:∀ z:Int,1<=z->z<=c->∃ m:Nat,z=(m:Int)/\(m:Int)<=c:=fun z h0 h1=>⟨z.toNat,by omega,by omega⟩;apply h
 ·split
  ·omega
  ·omega
 ·split
  ·split <;> omega
  ·omega
theorem sX {x:Str}(h:x.length<=100)(hx:∀ c∈x.cps.toList,c<16 ^ 8):(reprText x).length<=100000:=by
 have:=PySem.StrLaws.reprText_len x hx;omega
section
variable [Xw]
variable {tb:TE}{k:PV->Prop}
variable {K:ZE5}{t u:TE}{pre:QZ}{tA:TA}
theorem gS (h:Wp ss te fun p=>∃ x,p=.str x/\x.length<=1000/\k (.bl (isNm x))):Wp ss (Bz Na [] E0 (AV te B5)) k:=⟨fun E σ F H Q S q=>
 h.go E σ F H _ S fun v p F1 H1 m1 r AJ=>by
  obtain ⟨x,e,hx,kk⟩:=AJ;subst e;cases r.inv;exact ⟨x,rfl,hx,fun H3 s=>q _ _ F1 H3 (m1.trans (m1.st.grow s)) (.bl _) kk⟩⟩
end
def CL (pre:Pre):Sp:=fun vs H Q _=>∃ (ss:List Slot) (R:Aq) (F:Hp) (A B:List Addr),pre ss R/\Sg ⟨A,F,H,B⟩ ss (vs.map some) F H/\∀ v F' H',Fin ⟨A,F,H,B⟩ F' H'->R.ok ⟨A,F,H,B⟩ F' H' v->Q v H'
inductive Hn (F:Hp):List V->List Slot->Prop where
 | nil:Hn F [] []
 | cons {v:V}{p:PV}{vs:List V}{l:List Slot}:Rep F v p->Hn F vs l->Hn F (v::vs) (.is p::l)
inductive IF (σ:L2.St) (F:Hp) (i:Nat) (t:OV):List V->List Slot->Prop where
 | here {v:V}{vs:List V}{l:List Slot}:σ[i]?=some (some v)->Hn F vs l->IF σ F i t (v::vs) (.ow true t::l)
 | there {v:V}{p:PV}{vs:List V}{l:List Slot}:Rep F v p->IF σ F i t vs l->IF σ F i t (v::vs) (.is p::l)
theorem Hn.len:∀ {vs:List V}{l:List Slot},Hn F vs l->l.length=vs.length
 | _,_,.nil=>rfl
 | _,_,.cons _ t=>by rw [BN,BN,t.len]
theorem IF.len:∀ {vs:List V}{l:List Slot},IF σ F i t vs l->l.length=vs.length
 | _,_,.here _ r=>by rw [BN,BN,r.len]
 | _,_,.there _ h=>by rw [BN,BN,h.len]
theorem Hn.at:∀ {vs:List V}{l:List Slot},Hn F vs l->∀ {n:Nat}{s:Slot},l[n]?=some s->∃ v p,vs[n]?=some v/\s=.is p/\Rep F v p
 | _,_,.nil,_,_,e=>by simp at e
 | _,_,.cons r _,0,_,e=>by simp at e;subst e;exact ⟨_,_,rfl,rfl,r⟩
 | _,_,.cons _ t,n+1,s,e=>by
  obtain ⟨v,p,h⟩:=t.at (n:=n) (s:=s) (by simpa using e)
  exact ⟨v,p,by simpa using h⟩
theorem IF.at:∀ {vs:List V}{l:List Slot},IF σ F i t vs l->∃ m:Nat,∀ {n:Nat}{s:Slot},l[n]?=some s->(n=m/\s=.ow true t/\∃ v,vs[n]?=some v/\σ[i]?=some (some v))∨∃ v p,vs[n]?=some v/\s=.is p/\Rep F v p
 | _,_,.here e r=>⟨0,fun {n s} h=>by
  cases n with
  | zero=>simp at h;subst h;exact .inl ⟨rfl,rfl,_,rfl,e⟩
  | succ n=>
   obtain ⟨v,p,q⟩:=r.at (n:=n) (s:=s) (by simpa using h)
   exact .inr ⟨v,p,by simpa using q⟩⟩
 | _,_,.there r h=>by
  obtain ⟨m,hm⟩:=h.at;refine ⟨m+1,fun {n s} q=>?_⟩;cases n with
  | zero=>simp at q;subst q;exact .inr ⟨_,_,rfl,rfl,r⟩
  | succ n=>
   rcases hm (n:=n) (s:=s) (by simpa using q) with ⟨e,es,v,hv⟩ | ⟨v,p,hv⟩
   ·exact .inl ⟨by rw [e],es,v,by simpa using hv⟩
   ·exact .inr ⟨v,p,by simpa using hv⟩
structure MG (E:Ent0) (ss:List Slot) (σ:L2.St) (i:Nat) (lt:Bool) (t t':OV) (F H F' H':Hp):Prop where
 st:Sg E (ss.set i (.ow lt t')) σ F' H'
 ff:A7 F F'
 hh:∀ a o,By ss σ a->a∉t.addrs->H a=some o->H' a=some o
 nn:∀ a o,F' a=some o->F a=some o∨H a=none
structure N0 [Xw] (ss:List Slot) (ta:TA) (k:List Slot->Prop):Prop where
 go:∀ (E:Ent) (σ:L2.St) (F H:Hp) (Q:List V->Hp->Prop),Sg E ss σ F H->(∀ vs l F' H',Mv E ss σ F H F' H'->Hn F' vs l->k l->Q vs H')->ta σ H Q
structure Wm [Xw] (ss:List Slot) (i:Nat) (lt:Bool) (t:OV) (te:TE) (k:PV->OV->Prop):Prop where
 go:∀ (E:Ent) (σ:L2.St) (F H:Hp) (Q:VK),Sg E ss σ F H->(∀ v p t' F' H',MG E ss σ i lt t t' F H F' H'->Rep F' v p->k p t'->Q v H')->te σ H Q
structure Ol [Xw] (ss:List Slot) (i:Nat) (lt:Bool) (t:OV) (c:TT) (k:Bool->OV->Prop):Prop where
 go:∀ (E:Ent) (σ:L2.St) (F H:Hp) (Q:Bool->Hp->Prop),Sg E ss σ F H->(∀ b t' F' H',MG E ss σ i lt t t' F H F' H'->k b t'->Q b H')->c σ H Q
theorem Sg.bx {lt:Bool}(S:Sg E ss σ F H)(hi:ss[i]?=some (.ow lt t))(a:IF σ F i t vs l):Sg ⟨[],F,H,t.addrs⟩ l (vs.map some) F H:=by
 obtain ⟨v0,e0,r0,CF,q0⟩:=S.ok i _ hi;have nn:∀ {p:Prop}(a:Addr),a∈([]:List Addr)->p:=fun a h=>absurd h Au;obtain ⟨m,hm⟩:=a.at;refine ⟨⟨S.fh,A7.refl _,fun _ _ _ e=>e,fun _ _ e=>.inl e,fun a h=>nn a h,fun a h=>nn a h,fun a h=>nn a h,fun a h=>(q0 a h).1,fun a h=>r0.there a h,fun a h=>⟨r0.there a h,Au⟩⟩,by rw [Ab];exact a.len,fun n s hn=>?_,fun n j s u b Kl hn hj ms mu=>?_⟩
 ·rcases hm hn with ⟨_,rfl,v,hv,ev⟩ | ⟨v,p,hv,rfl,r⟩
  ·rw [Ax,hv];rw [e0] at ev;cases ev;exact ⟨v0,rfl,r0,CF,fun a ha=>⟨(q0 a ha).1,.inr ⟨rfl,ha⟩⟩⟩
  ·rw [Ax,hv];exact ⟨v,rfl,r⟩
 ·rcases hm hn with ⟨e1,rfl,_⟩ | ⟨_,_,_,rfl,_⟩
  ·rcases hm hj with ⟨e2,rfl,_⟩ | ⟨_,_,_,rfl,_⟩
   ·exact Kl (e1.trans e2.symm)
   ·cases mu
  ·cases ms
theorem Sg.Zl {lt:Bool}{nk GU:NK}{us':List OV}(S:Sg E ss σ F H)(hi:ss[i]?=some (.ow lt (.nd nk a0 us)))(f:Fin ⟨[],F,H,(OV.nd nk a0 us).addrs⟩ F' H')(r:Aj F' H' (.ref a0) (.nd GU a0 us'))(nd:(OV.nd GU a0 us').addrs.Nodup)(q:∀ a∈(OV.nd GU a0 us').addrs,F' a=none/\(H a=none∨a∈(OV.nd nk a0 us).addrs)):
  MG E ss σ i lt (.nd nk a0 us) (.nd GU a0 us') F H F' H':=by
 obtain ⟨v0,e0,r0,CF,q0⟩:=S.ok i _ hi;have ev:v0=.ref a0:=by cases r0;rfl
 subst ev;have AQ:i<ss.length:=(List.getElem?_eq_some_iff.mp hi).1;have kp:∀ a o,a∉(OV.nd nk a0 us).addrs->H a=some o->H' a=some o:=fun a o n e=>f.keep a o ⟨Au,n⟩ e;have BH:∀ a,H a≠none->F a=none->F' a=none:=fun a h1 h2=>by
  cases e:F' a with
  | none=>rfl
  | some o=>
   rcases f.fresh a o e with z | z
   ·rw [show F a=some o from z] at h2;cases h2
   ·exact absurd z h1
 have Lu:∀ a,a∈E.A->a∉(OV.nd nk a0 us).addrs:=fun a hA hm=>by
  rcases (q0 a hm).2 with z | ⟨_,z⟩
  ·exact S.a0 a hA z
  ·exact (S.b0 a z).2 hA
 have other:∀ (j:Nat) s,j≠i->ss[j]?=some s->∀ a,B9 s σ[j]? a->a∉(OV.nd nk a0 us).addrs:=fun j s hj hs a ho hm=>S.BP j i s _ a hj hs hi ho hm;refine ⟨⟨⟨f.fh,S.f0.trans f.f0,fun a o hA e=>?_,fun a o e=>?_,fun a hA=>?_,fun a hA=>?_,S.a0,fun a hB=>?_,fun a hB=>?_,S.b0⟩,by rw [Fp];exact S.len,fun j s hj=>?_,fun j k s u b Oc hj hk ms mu=>?_⟩,f.f0,fun a o _ n e=>kp a o n e,fun a o e=>f.fresh a o e⟩
 ·refine kp a o (fun hm=>?_) (S.keep a o hA e);rcases (q0 a hm).2 with z | ⟨_,z⟩
  ·rw [e] at z;cases z
  ·exact hA.2 z
 ·rcases f.fresh a o e with z | z
  ·exact S.fresh a o z
  ·exact .inr (S.D6 z)
 ·exact BR.keep (S.CT a hA) fun o e=>kp a o (Lu a hA) e
 ·obtain ⟨_,_,e1,_⟩:=S.CT a hA;exact BH a (by rw [e1];simp) (S.K7 a hA)
 ·exact BH a (S.bH a hB) (S.bF a hB)
 ·by_cases hm:a∈(OV.nd nk a0 us).addrs
  ·exact f.bH a hm
  ·intro z;cases e:H a with
   | none=>exact S.bH a hB e
   | some o=>rw [kp a o hm e] at z;cases z
 ·by_cases c:j=i
  ·subst c;rw [CZ AQ] at hj;cases hj;refine ⟨.ref a0,e0,r,nd,fun a ha=>⟨(q a ha).1,?_⟩⟩;rcases (q a ha).2 with z | z
   ·exact .inl (S.D6 z)
   ·exact (q0 a z).2
  ·rw [CQ (BS c)] at hj
   by_cases np:s=.AD
   ·subst np;obtain ⟨l,e,fl,hl,pt⟩:=S.ok j _ hj;obtain ⟨_,_,e1,_⟩:=id pt;exact ⟨l,e,BH l (by rw [e1];simp) fl,hl,BR.keep pt fun o z=>kp l o (other j _ c hj l e) z⟩
   ·exact Ok.go S hj f.f0 (fun a o ho e=>kp a o (other j s c hj a ho) e) BH np
 ·have at_:∀ (n:Nat) s,(ss.set i (.ow lt (.nd GU a0 us')))[n]?=some s->(n=i/\s=.ow lt (.nd GU a0 us'))∨(n≠i/\ss[n]?=some s):=fun n s hn=>by
   by_cases c:n=i
   ·subst c;rw [CZ AQ] at hn;exact .inl ⟨rfl,(BO hn).symm⟩
   ·rw [CQ (BS c)] at hn;exact .inr ⟨c,hn⟩
  have GY:∀ (n:Nat) s,n≠i->ss[n]?=some s->B9 s σ[n]? b->b∉(OV.nd GU a0 us').addrs:=fun n s hn hs ho hm=>by
   rcases (q b hm).2 with z | z
   ·exact S.DL hs ho z
   ·exact other n s hn hs b ho z
  rcases at_ j s hj with ⟨e1,rfl⟩ | ⟨n1,h1⟩
  ·rcases at_ k u hk with ⟨e2,rfl⟩ | ⟨n2,h2⟩
   ·exact Oc (e1.trans e2.symm)
   ·exact GY k u n2 h2 mu ms
  ·rcases at_ k u hk with ⟨e2,rfl⟩ | ⟨n2,h2⟩
   ·exact GY j s n1 h1 ms mu
   ·exact S.BP j k s u b Oc h1 h2 ms mu
section
variable [Xw]
variable {ta:TA}{lt:Bool}{nx:List Slot->Prop}{R:Aq}
theorem NS {k:List Slot->Prop}(h:k []):N0 ss B5 k:=⟨fun E σ F H Q S q=>q [] [] F H (Mv.refl S) .nil h⟩
theorem Kw {k:List Slot->Prop}(h:Wp ss te fun p=>N0 ss ta fun l=>k (.is p::l)):N0 ss (AV te ta) k:=⟨fun E σ F H Q S q=>
 h.go E σ F H _ S fun v p F1 H1 m1 r h2=>h2.go E σ F1 H1 _ m1.st fun vs l F2 H2 m2 a kk=>q _ _ F2 H2 (m1.trans m2) (.cons (r.mono m2.ff) a) kk⟩
theorem Mv.kP {F1 H1 F2 H2:Hp}(hi:ss[i]?=some (.ow lt t))(a:Mv E ss σ F H F1 H1)(b:MG E ss σ i lt t t' F1 H1 F2 H2):MG E ss σ i lt t t' F H F2 H2:=
 ⟨b.st,a.ff.trans b.ff,fun c o n z e=>b.hh c o n z (a.hh c o n e),fun c o e=>(b.nn c o e).elim (fun e=>a.nn c o e) fun e=>.inr (a.none e)⟩
theorem pk {k:Bool->OV->Prop}(h:Wm ss i lt t te fun p t'=>∃ c,p=.bl c/\k c t'):Ol ss i lt t (tB te) k:=⟨fun E σ F H Q S q=>
 h.go E σ F H _ S fun v p t' F1 H1 m1 r AJ=>by
  obtain ⟨c,e,kk⟩:=AJ;subst e;cases r.inv;exact ⟨c,rfl,q c t' F1 H1 m1 kk⟩⟩
theorem ZBV {k:Bool->OV->Prop}(h:Ol ss i lt t c fun b t'=>k (!b) t'):Ol ss i lt t (Lv c) k:=⟨fun E σ F H Q S q=>
 h.go E σ F H _ S fun b t' F1 H1 m1 kk=>q (!b) t' F1 H1 m1 kk⟩
theorem yV {u v:TS}(h:Ol ss i lt t c fun b t'=>if b=true then Ws (ss.set i (.ow lt t')) u nx R else Ws (ss.set i (.ow lt t')) v nx R):Ws ss (MU c u v) nx R:=⟨fun E D σ F H S hn hr=>
 h.go E σ F H _ S fun b t' F1 H1 m1 kk=>by
  cases b with
  | true=>rw [jd rfl] at kk;exact kk.go E D σ F1 H1 m1.st (fun AK σ' F' H' n S' s=>hn AK σ' F' H' n S' (m1.ff.trans s)) hr
  | false=>rw [jG (by decide)] at kk;exact kk.go E D σ F1 H1 m1.st (fun AK σ' F' H' n S' s=>hn AK σ' F' H' n S' (m1.ff.trans s)) hr⟩
theorem ji {nk:NK}{k:PV->OV->Prop}(hi:ss[i]?=some (.ow lt (.nd nk a0 us)))(h:Wp ss te fun p=>k p (.nd nk a0 us)):Ws ss (Gu te) nx (.mt k):=⟨fun E D σ F H S hn hr=>
 h.go E σ F H _ S fun v p F1 H1 m1 r kk=>by
  obtain ⟨v0,e0,r0,CF,q0⟩:=m1.st.ok i _ hi;have ev:v0=.ref a0:=by cases r0;rfl
  subst ev;exact hr v F1 H1 m1.st.toFin ⟨p,.nd nk a0 us,r,r0,CF,fun a ha=>⟨(q0 a ha).1,(q0 a ha).2.imp id fun z=>z.2⟩,kk⟩⟩
end
section
variable {pre:Pre}
theorem P4 {t:TS}(h:CL pre vs H Q X)(hl:∀ ss R,pre ss R->ss.length=n)
  (hw:∀ ss R,pre ss R->Ws (ss++List.replicate (N.length - n) .any) t (fun _=>False) R):t { nx:=fun _ H'=>Q .AB H',rt:=Q } (L2.start N vs) H:=by
 obtain ⟨ss,R,F,A,B,hp,S,q⟩:=h;have e:vs.length=n:=by have:=S.len;rw [Ab] at this;rw [<- this];exact hl ss R hp
 unfold L2.start;rw [e];exact (hw ss R hp).go (Pt ⟨A,F,H,B⟩) _ _ F H (S.grown _) (fun AK σ' F' H' z S' _=>z.elim) fun v F' H' f ok=>q v F' H' f ok
theorem J0 (hl:∀ ss R,pre ss R->ss.length=n)(h:CL pre vs H Q X):vs.length=n:=by
 obtain ⟨ss,R,F,A,B,hp,S,q⟩:=h;have:=S.len;rw [Ab] at this;rw [<- this];exact hl ss R hp
end
end Fz
namespace L2
section
variable {X:Cx}{o i value:Expr}{td ty tv:TE}{pos pos':Pos}
theorem CA (hu:X.A.units+1<cLine)(ho:QE X o td)(hi:QE X i ty)(hs:WU i):QE X (.Subscript o i pos) (Fy td ty):=⟨by
 have ho:=ho.h;have hi:=hi.h;intro pins s σ H Q I h;refine rU PySem.F.slot_dict_getitem.lookup hs (AO (ho pins s σ H _ I h) fun u s1 ⟨x,H1,I1,rx,q1⟩=>AO (hi pins s1 σ H1 _ I1 q1) fun iv s2 ⟨y,H2,I2,ry,a,v,ex,g,q2⟩=>?_);subst ex;obtain rfl:u=Value.ref a:=rx;exact ⟨pO I2 g,uq hu I2 g ry fun w' s3 I3 Es=>⟨v,H2,I3,Es,q2⟩⟩⟩
theorem JE (hu:X.A.units+1<cLine)(ho:QE X o td)(hi:QE X i ty)(hv:QE X value tv)(hs:swapsWith value (some (.Subscript o i pos')) pos.line X.env=pure false:=by rfl):
  QS X (.Assign [.Subscript o i pos'] value pos) (XU td ty tv):=⟨by
 have ho:=ho.h;have hi:=hi.h;have hv:=hv.h;intro pins s σ H D I h;refine wpAny_Assign_Subscript (AO (hv pins s σ H _ I h) fun r s1 ⟨v,H1,I1,rv,q1⟩=>AO (ho pins s1 σ H1 _ I1 q1) fun u s2 ⟨x,H2,I2,rx,q2⟩=>AO (hi pins s2 σ H2 _ I2 q2) fun iv s3 ⟨y,H3,I3,ry,a,H4,ex,g,q3⟩=>?_) hs;subst ex;obtain rfl:u=Value.ref a:=rx;exact sW hu I3 g ry rv fun s4 I4=>⟨σ,H4,I4,q3⟩⟩
theorem bw:QE X (.Dict [] [] pos) RZ:=⟨fun pins s σ H Q I h=>
 wpAny_Dict_empty ⟨.ref s.heap.objs.size,_,I.laid (a:=s.heap.objs.size) (o:=.dK []) (t':=s.toks) (fun _ _ q=>BF _ q) (Ao _) (fu s.heap I.big),rfl,h _ (I.AL.fresh (Ao _))⟩⟩
end
end L2
namespace Fz
open L2 Lw
variable {F F0 H H0:Hp}{ss:List Slot}{ta td tv ty:TE}{nx:List Slot->Prop}{R:Aq}{i:Nat}{ks:List Key}{C3 vs:List V}{t u w:OV}{C a dx:Addr}{us us':List OV}{E:Ent0}{σ:L2.St}{m p:List Nat}{f:Str}{ns:List Str}{pre:Pre}
def Gg:Key->PV
 | .inl i=>.int i
 | .inr x=>.str x
def I0:List Key->List PV->Key->Option PV
 | k'::ks,x::xs,k=>if k'=k then some x else I0 ks xs k
 | _,_,_=>none
def G8 (ks:List Key)(k:Key):Bool:=ks.any fun k'=>decide (k'=k)
def G7 (ks:List Key)(k:Key):List Key:=if G8 ks k=true then ks else ks++[k]
theorem LK {v:V}{k:Key}(r:Rep F v (Gg k)):v=kV k:=by
 cases k with
 | inl i=>cases r.inv;rfl
 | inr x=>cases r.inv;rfl
theorem aW {F:Hp}{k:Key}{y:PV}:∀ {ks:List Key}{vs:List V}{xs:List PV},AM F vs xs->ks.length=vs.length->I0 ks xs k=some y->∃ v,D7 (ks.zip vs) k=some v/\Rep F v y
 | [],_,_,_,_,h=>by rw [I0] at h;cases h;all_goals simp
 | k'::ks,v::vs,x::xs,.cons r t,hl,h=>by
  rw [I0] at h;rw [FO]
  by_cases c:k'=k
  ·rw [jd c] at h;cases h;exact ⟨v,LV c,r⟩
  ·rw [jG c] at h;obtain ⟨w,h1,h2⟩:=aW t (by simpa using hl) h
   exact ⟨w,by rw [L9 c];exact h1,h2⟩
 | k'::ks,[],xs,_,hl,_=>by simp at hl
section
variable [Xw]
variable {k:PV->Prop}{lt:Bool}
theorem Q7 (h:Wp ss td fun p=>∃ ks xs,p=.Am ks xs/\Wp ss ty fun q=>∃ key y,q=Gg key/\I0 ks xs key=some y/\k y):Wp ss (Fy td ty) k:=⟨fun E σ F H Q S q=>
 h.go E σ F H _ S fun v p F1 H1 m1 r1 ⟨ks,xs,e,h2⟩=>h2.go E σ F1 H1 _ m1.st fun v2 p2 F2 H2 m2 r2 ⟨key,y,e2,hy,kk⟩=>by
  subst e;subst e2;have Ff:=r1.mono m2.ff;cases Ff with
  | Am ef hl rr=>
   obtain ⟨w,hw,rw_⟩:=aW rr hl hy;refine ⟨_,w,rfl,?_,q w y F2 H2 (m1.trans m2) rw_ kk⟩;rw [<- hw,LK r2];exact Eg.k (m2.st.fh _ _ ef)⟩
theorem bV {k:List Nat->OV->Prop}(h:∀ a,k [] (.nd (.Am []) a (([]:List PV).map .fz))):Wx ss RZ k:=⟨fun E σ F H Q S q p hp=>by
 have m:=S.make hp (.dK []);refine q _ [] (.nd (.Am []) p (([]:List PV).map .fz)) F _ m (.nd (k:=.Am []) (vs:=[]) AE trivial rfl .nil) (by rw [OV.Ct];simp [NK.more,OV.HK]) (fun a ha=>?_) (h p);rw [OV.Ct] at ha;have e:a=p:=by simpa [NK.more,OV.HK] using ha
 subst e;exact ⟨S.BH hp,S.D6 hp,.inr hp⟩⟩
theorem Tq:∀ {ks:List Key}{vs:List V}{key:Key},ks.length=vs.length->(ks.zip vs).any (fun kv=>decide (kv.1=key))=G8 ks key
 | [],vs,key,h=>rfl
 | k'::ks,w::vs,key,h=>by
  rw [FO,Li,Tq (by simpa using h)]
  rfl
 | _::_,[],_,h=>by simp at h
def GD:List Key->List V->Key->V->List V
 | k'::ks,x::xs,k,p=>(if k'=k then p else x)::GD ks xs k p
 | _,xs,_,_=>xs
theorem af:∀ {ks:List Key}{vs:List V}{key:Key}{v:V},(ks.zip vs).map (fun kv=>if kv.1=key then (kv.1,v) else kv)=ks.zip (GD ks vs key v)
 | [],vs,key,v=>by simp
 | k'::ks,w::vs,key,v=>by
  rw [FO,Bs,af,GD,FO]
  by_cases c:k'=key
  ·rw [jd c,jd c]
  ·rw [jG c,jG c]
 | _::_,[],_,_=>by simp [GD]
end
def C6:List Key->Key->Option Nat
 | [],_=>none
 | k'::ks,k=>if k'=k then some 0 else (C6 ks k).map (· + 1)
theorem UU:∀ {ks:List Key}{key:Key}{n:Nat},C6 ks key=some n->ks[n]?=some key
 | [],_,_,h=>by cases h
 | k'::ks,key,n,h=>by
  rw [C6] at h
  by_cases c:k'=key
  ·rw [jd c] at h;cases h;subst c;rfl
  ·rw [jG c] at h;cases e:C6 ks key with
   | none=>rw [e] at h;cases h
   | some m=>rw [e] at h;cases h;exact UU (ks:=ks) e
theorem Ww:∀ {ks:List Key}{key:Key},(C6 ks key).isSome=G8 ks key
 | [],_=>rfl
 | k'::ks,key=>by
  rw [C6];unfold G8;rw [Li]
  by_cases c:k'=key
  ·rw [jd c,jO c];rfl
  ·rw [jG c,jx c,Bool.false_or,Y4,Ww];rfl
theorem XF:∀ {ks:List Key}{vs:List V}{key:Key}{n:Nat}{v:V},C6 ks key=some n->vs[n]?=some v->D7 (ks.zip vs) key=some v
 | [],_,_,_,_,h,_=>by cases h
 | k'::ks,[],key,n,v,h,hv=>by simp at hv
 | k'::ks,w::vs,key,n,v,h,hv=>by
  rw [C6] at h;rw [FO]
  by_cases c:k'=key
  ·rw [jd c] at h;cases h;simp at hv;rw [LV c,hv]
  ·rw [jG c] at h;cases e:C6 ks key with
   | none=>rw [e] at h;cases h
   | some m=>
    rw [e] at h;cases h;rw [L9 c];exact XF e (by simpa using hv)
theorem Yh {key:Key}(hl:ks.length=vs.length):(D7 (ks.zip vs) key).isSome=G8 ks key:=by
 rw [<- Qi,Tq hl]
theorem bg:∀ {ks:List Key}{vs:List V}{key:Key}{n:Nat}{v:V},ks.Nodup->C6 ks key=some n->GD ks vs key v=vs.set n v
 | [],_,_,_,_,_,h=>by cases h
 | k'::ks,[],key,n,v,_,h=>by rw [GD];simp;simp
 | k'::ks,w::vs,key,n,v,nd,h=>by
  rw [C6] at h;obtain ⟨n1,n2⟩:=List.nodup_cons.mp nd;rw [GD]
  by_cases c:k'=key
  ·rw [jd c] at h;cases h;rw [jd c,RJ]
   congr 1
   subst c;have aux:∀ {ks:List Key}{vs:List V},k'∉ks->GD ks vs k' v=vs:=by
    intro ks
    induction ks with
    | nil=>intro vs _;rw [GD];simp
    | cons k2 ks ih=>
     intro vs hn;cases vs with
     | nil=>rw [GD];simp
     | cons u vs=>
      rw [GD,jG (fun z=>hn (by rw [z];simp)),ih (fun z=>hn (by simp [z]))]
   exact aux n1
  ·rw [jG c] at h;cases e:C6 ks key with
   | none=>rw [e] at h;cases h
   | some m=>
    rw [e] at h;cases h;rw [jG c,RI,bg n2 e]
section
variable [Xw]
variable {k:PV->Prop}
theorem Lc {k:List Nat->OV->Prop}(h:Wl ss i t td fun p u=>∃ ks a us,u=.nd (.Am ks) a us/\Wp ss ty fun q=>∃ key n w,q=Gg key/\C6 ks key=some n/\us[n]?=some w/\k (p++[n]) w):Wl ss i t (Fy td ty) k:=⟨h.hi,fun E σ F H Q S q=>
 h.go E σ F H _ S fun v p u F1 H1 m1 r1 h1 ⟨ks,a,us,eu,h2⟩=>h2.go E σ F1 H1 _ m1.st fun v2 p2 F2 H2 m2 r2 ⟨key,n,w,e,hn,hw,kk⟩=>by
  subst e;have r3:=r1.mv m1.st h.hi h1 m2;subst eu;obtain ⟨vs,rfl,ha,sd,ft,rr⟩:=r3.inv;obtain ⟨x,hx,rx⟩:=rr.get hw;refine ⟨a,x,rfl,?_,q x (p++[n]) w F2 H2 (m1.trans m2) rx (OV.LI h1 (by rw [OV.Gj,hw];exact OV.G1)) kk⟩;rw [<- XF hn hx,LK r2];exact Eg.k ha⟩
theorem k6 (h:Wp ss ty fun q=>Wl ss i t td fun _ u=>∃ ks a us key,u=.nd (.Am ks) a us/\q=Gg key/\k (.bl (G8 ks key))):Wp ss (WK ty td) k:=⟨fun E σ F H Q S q=>
 h.go E σ F H _ S fun v p F1 H1 m1 r1 h2=>h2.go E σ F1 H1 _ m1.st fun v2 p2 u F2 H2 m2 r2 BA AJ=>by
  obtain ⟨ks,a,us,key,eu,eq,kk⟩:=AJ;subst eu;subst eq;obtain ⟨vs,rfl,ha,sd,ft,rr⟩:=r2.inv;refine ⟨a,D7 (ks.zip vs) key,rfl,by rw [LK r1];exact Eg.k ha,?_⟩;rw [Yh ft];exact q _ _ F2 H2 (m1.trans m2) (.bl _) kk⟩
theorem pY (h:Wp ss ty fun q=>Wp ss td fun u=>∃ ks xs key,u=.Am ks xs/\q=Gg key/\k (.bl (!G8 ks key))):Wp ss (W4 ty td) k:=⟨fun E σ F H Q S q=>
 h.go E σ F H _ S fun v p F1 H1 m1 r1 h2=>h2.go E σ F1 H1 _ m1.st fun v2 u F2 H2 m2 r2 AJ=>by
  obtain ⟨ks,xs,key,eu,eq,kk⟩:=AJ;subst eu;subst eq;cases r2 with
  | @Am a _ vs _ ef hl rr=>
   refine ⟨a,D7 (ks.zip vs) key,rfl,by rw [LK r1];exact Eg.k (m2.st.fh _ _ ef),?_⟩;rw [Yh hl];exact q _ _ F2 H2 (m1.trans m2) (.bl _) kk⟩
theorem Jv:(OV.nd (.Am ks) a us).addrs=a::OV.AZ us:=by rw [OV.Ct];rfl
theorem eV {lt:Bool}:∀ (m:List Nat) (ss:List Slot),ss[i]?=some (.ow lt t)->i∉m->(Fz.DF m ss)[i]?=some (.ow lt t):=by
 intro m
 induction m with
 | nil=>intro ss h _;exact h
 | cons j m ih=>
  intro ss h hm;refine ih _ ?_ fun z=>hm (by simp [z]);rw [CQ (by rintro rfl;exact hm (by simp))];exact h
theorem Sg.gA {lt:Bool}{ks':List Key}(S0:Sg E ss σ F0 H0)(S:Sg E ss σ F H)(hi:ss[i]?=some (.ow lt t))(BA:t.at p=some (.nd (.Am ks) a us))
  (hu:∀ a∈u.addrs,F a=none/\E.H0 a=none/\((∃ i∈m,∃ s,s≠Slot.AD/\ss[i]?=some s/\B9 s σ[i]? a)∨H0 a=none)) (Dv:i∉m)
  (hr:An F H C3 us') (hl:ks'.length=C3.length) (Nn:(OV.AZ us').Nodup) (Fx:∀ b∈OV.AZ us',b∈OV.AZ us∨b∈u.addrs):Sg E ((Fz.DF m ss).set i (.ow lt (t.put p (.nd (.Am ks') a us')))) σ F (upd H a (.dK (ks'.zip C3))):=by
 have El:=eV m ss hi Dv;obtain ⟨v,e,r,nd,q⟩:=S.ok i _ hi;have ut:∀ b,b∈a::OV.AZ us->b∈t.addrs:=fun b hb=>OV.Ih BA b (by rw [Jv];exact hb);have Ke:∀ b∈u.addrs,b∉t.addrs:=fun b hb z=>by
  rcases (hu b hb).2.2 with ⟨j,hj,s,_,hs,o⟩ | w
  ·exact S.BP j i s _ b (by rintro rfl;exact Dv hj) hs hi o z
  ·exact S0.DL hi z w
 have Cz:(OV.nd (.Am ks) a us).addrs.Nodup:=by
  obtain ⟨l,rr,e1,_⟩:=OV.split BA;rw [e1,CK,CK] at nd;exact nd.1.2.1
 rw [Jv] at Cz;have na:∀ b∈OV.AZ us',b≠a:=fun b hb z=>by
  subst z;rcases Fx b hb with w | w
  ·exact (List.nodup_cons.mp Cz).1 w
  ·exact Ke b w (ut b (by simp))
 refine (S.DF m).Vr El BA (.nd (k:=.Am ks') AE trivial hl (hr.mono (A7.refl _) fun b hb o ho=>by rw [AX (na b hb)];exact ho)) (by rw [Jv];exact List.nodup_cons.mpr ⟨fun z=>na a z rfl,Nn⟩) fun b hb=>?_;rw [Jv] at hb ⊢;rcases List.mem_cons.mp hb with w | w
 ·exact .inl (by simp [w])
 ·rcases Fx b w with z | z
  ·exact .inl (by simp [z])
  ·refine .inr ⟨(hu b z).1,(hu b z).2.1,fun j s hs o=>?_⟩;rcases M9 hs with y | ⟨Fu,hm⟩
   ·subst y;cases o
   ·rcases (hu b z).2.2 with ⟨i2,Dj,s2,_,Cc,o2⟩ | y
    ·exact S.BP j i2 s s2 b (by rintro rfl;exact hm Dj) Fu Cc o o2
    ·exact S0.DL Fu o y
def Eo (ks:List Key)(us:List OV)(key:Key)(w:OV):List OV:=match C6 ks key with
 | some n=>us.set n w
 | none=>us++[w]
theorem Jq (h:Wx ss tv fun m w=>Wl ss i t td fun p u=>∃ lt a ks us,ss[i]?=some (.ow lt t)/\u=.nd (.Am ks) a us/\us.length<=99999/\ks.Nodup/\i∉m/\Wp ss ty fun q=>∃ key,q=Gg key/\nx ((Fz.DF m ss).set i (.ow lt (t.put p (.nd (.Am (G7 ks key)) a (Eo ks us key w)))))):Ws ss (XU td ty tv) nx R:=⟨fun E D σ F H S hn hr=>
 h.go E σ F H _ S fun v m w F1 H1 m1 r1 FJ a1 h2=>h2.go E σ F1 H1 _ m1.st fun v2 p u F2 H2 m2 r2 BA ⟨lt,a,ks,us,hi,eu,hz,hk,Dv,h3⟩=>h3.go E σ F2 H2 _ m2.st fun v3 q F3 H3 m3 r3 ⟨key,eq,kk⟩=>by
  subst eu;subst eq;have ev:v2=.ref a:=by cases r2;rfl
  subst ev;have Ic:=m2.trans m3;have np:∀ b∈w.addrs,By ss σ b:=fun b hb k hk ek=>by
   rcases (a1 b hb).2.2 with ⟨j,hj,s,hs,He,o⟩ | z
   ·exact S.BP j k s _ b (fun e=>by subst e;rw [He] at hk;exact hs (BO hk)) He hk o ek
   ·exact S.DL hk ek z
  have Ff:Aj F3 H3 v w:=r1.mono Ic.ff fun b hb o e=>Ic.hh b o (np b hb) e;have Vu:∀ b∈w.addrs,F3 b=none/\E.H0 b=none/\((∃ i∈m,∃ s,s≠Slot.AD/\ss[i]?=some s/\B9 s σ[i]? b)∨H b=none):=fun b hb=>by
   refine ⟨?_,(a1 b hb).2⟩;cases e:F3 b with
   | none=>rfl
   | some o=>
    rcases Ic.nn b o e with z | z
    ·rw [(a1 b hb).1] at z;cases z
    ·exact absurd z (r1.there b hb)
  have r4:=r2.mv m2.st ⟨lt,hi⟩ BA m3;cases r4 with
  | @nd _ _ vs _ ha sd ft rr=>
   have Gw:ks.length=vs.length:=ft;have vl:=rr.length;have rQ:(ks.zip vs).length<=99999:=by rw [Nv];omega
   refine ⟨a,_,rfl,by rw [LK r3];exact Ly.k ha (LZ rQ),?_⟩;obtain ⟨v0,e0,r0,CF,q0⟩:=m3.st.ok i _ hi;have Cz:(OV.nd (.Am ks) a us).addrs.Nodup:=by
    obtain ⟨l,rr,e1,_⟩:=OV.split BA;rw [e1,CK,CK] at CF;exact CF.1.2.1
   rw [Jv] at Cz;have apart:∀ b∈w.addrs,b∉OV.AZ us:=fun b hb z=>by
    have bt:b∈t.addrs:=OV.Ih BA b (by rw [Jv];simp [z]);rcases (a1 b hb).2.2 with ⟨j,hj,s,_,hs,o⟩ | y
    ·exact S.BP j i s _ b (by rintro rfl;exact Dv hj) hs hi o bt
    ·exact S.DL hi bt y
   obtain ⟨C3,ep,Mx,K4,Gr,sb⟩:∃ C3:List V,putK (ks.zip vs) key v=(G7 ks key).zip C3/\(G7 ks key).length=C3.length/\An F3 H3 C3 (Eo ks us key w)/\(OV.AZ (Eo ks us key w)).Nodup/\∀ b∈OV.AZ (Eo ks us key w),b∈OV.AZ us∨b∈w.addrs:=by
    unfold putK G7 Eo;rw [Tq Gw];cases e:C6 ks key with
    | some n=>
     have c:G8 ks key=true:=by rw [<- Ww,e];rfl
     have MP:n<us.length:=by
      have:=(List.getElem?_eq_some_iff.mp (UU e)).1;omega
     obtain ⟨l,r,e1,e2⟩:=HJ (BE MP);rw [jd c,jd c,af,bg hk e];refine ⟨vs.set n v,rfl,by rw [Fp];exact Gw,rr.set n Ff,?_,fun b hb=>?_⟩
     ·show (OV.AZ (us.set n w)).Nodup;rw [e2];have n1:=(List.nodup_cons.mp Cz).2;rw [e1] at n1;exact Rw n1 FJ fun b hb=>.inr (by rw [<- e1];exact apart b hb)
     ·have Bc:b∈OV.AZ (us.set n w):=hb;rw [e2] at Bc;rcases List.mem_append.mp Bc with z | z
      ·rcases List.mem_append.mp z with z | z
       ·exact .inl (by rw [e1];simp [z])
       ·exact .inr z
      ·exact .inl (by rw [e1];simp [z])
    | none=>
     have c:¬ G8 ks key=true:=by rw [<- Ww,e];decide
     rw [jG c,jG c];refine ⟨vs++[v],by rw [List.zip_append Gw];rfl,by rw [Bl,Bl,Gw];rfl,rr.append (.one Ff),?_,fun b hb=>?_⟩
     ·show (OV.AZ (us++[w])).Nodup;rw [KG,Ku,CK];exact ⟨(List.nodup_cons.mp Cz).2,FJ,fun x hx y hy e=>apart y hy (e▸hx)⟩
     ·have Bc:b∈OV.AZ (us++[w]):=hb;rw [KG,Ku] at Bc;exact List.mem_append.mp Bc
   rw [ep];exact hn _ σ F3 _ kk (Sg.gA (u:=w) S m3.st hi BA Vu Dv K4 Mx Gr sb) (m1.ff.trans Ic.ff)⟩
end
def Ce:List Str->Str->Option Nat
 | [],_=>none
 | g::ns,f=>if g=f then some 0 else (Ce ns f).map (· + 1)
def NP (ns:List Str)(f:Str):List Str:=match Ce ns f with
 | some _=>ns
 | none=>ns++[f]
def MO (ns:List Str)(us:List OV)(f:Str)(w:OV):List OV:=match Ce ns f with
 | some n=>us.set n w
 | none=>us++[w]
def Kc (ns:List Str)(vs:List V)(f:Str)(w:V):List V:=match Ce ns f with
 | some n=>vs.set n w
 | none=>vs++[w]
theorem cS:∀ {ns:List Str}{f:Str}{n:Nat},Ce ns f=some n->n<ns.length
 | [],_,_,h=>by cases h
 | g::ns,f,n,h=>by
  rw [Ce] at h
  by_cases c:g=f
  ·rw [jd c] at h;cases h;exact Nat.succ_pos _
  ·rw [jG c] at h;cases e:Ce ns f with
   | none=>rw [e] at h;cases h
   | some m=>rw [e] at h;cases h;exact Nat.succ_lt_succ (cS e)
theorem V6:∀ {ns:List Str}{vs:List V}{f:Str}{n:Nat}{v:V},Ce ns f=some n->vs[n]?=some v->(ns.zip vs).lookup f=some v
 | [],_,_,_,_,h,_=>by cases h
 | g::ns,[],f,n,v,h,hv=>by simp at hv
 | g::ns,w::vs,f,n,v,h,hv=>by
  rw [Ce] at h;rw [FO]
  by_cases c:g=f
  ·rw [jd c] at h;cases h;simp at hv;subst c;rw [List.lookup_cons_self,hv]
  ·rw [jG c] at h;cases e:Ce ns f with
   | none=>rw [e] at h;cases h
   | some m=>
    rw [e] at h;cases h;rw [GN];have:(f == g)=false:=by simpa using fun z=>c z.symm
    rw [this];exact V6 e (by simpa using hv)
theorem gc:∀ {ns:List Str}{vs:List V}{f:Str}{v:V},ns.length=vs.length->DE f v (ns.zip vs)=(NP ns f).zip (Kc ns vs f v)/\(NP ns f).length=(Kc ns vs f v).length
 | [],[],f,v,_=>by simp [DE,NP,Kc,Ce]
 | [],_::_,_,_,h=>by simp at h
 | _::_,[],_,_,h=>by simp at h
 | g::ns,w::vs,f,v,h=>by
  obtain ⟨i1,i2⟩:=gc (ns:=ns) (vs:=vs) (f:=f) (v:=v) (by simpa using h)
  rw [FO];rw [show DE f v ((g,w)::ns.zip vs)=(if g=f then (g,v)::ns.zip vs else (g,w)::DE f v (ns.zip vs)) from rfl]
  unfold NP Kc at i1 i2 ⊢;rw [Ce]
  by_cases c:g=f
  ·rw [jd c,jd c];exact ⟨by simp,by simpa using h⟩
  ·rw [jG c,jG c,i1];cases e:Ce ns f with
   | none=>rw [e] at i2;exact ⟨by simp,by simpa using i2⟩
   | some m=>rw [e] at i2;exact ⟨by simp,by simpa using i2⟩
section
variable [Xw]
variable {k:PV->Prop}{K:ZE5}
theorem Vj {k:List Nat->OV->Prop}(h:Wl ss i t ta fun p u=>∃ C dx ns a us n w,u=.nd (.obj C dx ns) a us/\C4 K C/\Bu K C f/\Ce ns f=some n/\us[n]?=some w/\k (p++[n]) w):Wl ss i t (Jz K ta f) k:=⟨h.hi,fun E σ F H Q S q=>
 h.go E σ F H _ S fun v p u F1 H1 m1 r1 h1 AJ=>by
  obtain ⟨C,dx,ns,a,us,n,w,eu,hc,hn,hx,hw,kk⟩:=AJ;subst eu;obtain ⟨vs,rfl,ha,sd,ft,rr⟩:=r1.inv;obtain ⟨x,hx',rx⟩:=rr.get hw;exact ⟨a,C,dx,ns.zip vs,x,rfl,ha,hc,hn,V6 hx hx',q x (p++[n]) w F1 H1 m1 rx (OV.LI h1 (by rw [OV.Gj,hw];exact OV.G1)) kk⟩⟩
theorem Ji:(OV.nd (.obj C dx ns) a us).addrs=a::dx::OV.AZ us:=by rw [OV.Ct];rfl
theorem Sg.ZC2 {lt:Bool}{B7:List Str}(S0:Sg E ss σ F0 H0)(S:Sg E ss σ F H)(hi:ss[i]?=some (.ow lt t))(BA:t.at p=some (.nd (.obj C dx ns) a us))(M8:H dx=some (.own a))
  (hu:∀ a∈u.addrs,F a=none/\E.H0 a=none/\((∃ i∈m,∃ s,s≠Slot.AD/\ss[i]?=some s/\B9 s σ[i]? a)∨H0 a=none)) (Dv:i∉m)
  (hr:An F H C3 us') (hl:B7.length=C3.length) (Nn:(OV.AZ us').Nodup) (Fx:∀ b∈OV.AZ us',b∈OV.AZ us∨b∈u.addrs):Sg E ((Fz.DF m ss).set i (.ow lt (t.put p (.nd (.obj C dx B7) a us')))) σ F (upd H a (.ins C dx (B7.zip C3))):=by
 have El:=eV m ss hi Dv;obtain ⟨v,e,r,nd,q⟩:=S.ok i _ hi;have ut:∀ b,b∈a::dx::OV.AZ us->b∈t.addrs:=fun b hb=>OV.Ih BA b (by rw [Ji];exact hb);have Ke:∀ b∈u.addrs,b∉t.addrs:=fun b hb z=>by
  rcases (hu b hb).2.2 with ⟨j,hj,s,_,hs,o⟩ | w
  ·exact S.BP j i s _ b (by rintro rfl;exact Dv hj) hs hi o z
  ·exact S0.DL hi z w
 have Cz:(OV.nd (.obj C dx ns) a us).addrs.Nodup:=by
  obtain ⟨l,rr,e1,_⟩:=OV.split BA;rw [e1,CK,CK] at nd;exact nd.1.2.1
 rw [Ji] at Cz;obtain ⟨n1,n2⟩:=List.nodup_cons.mp Cz;obtain ⟨n3,n4⟩:=List.nodup_cons.mp n2;have na:∀ b∈OV.AZ us',b≠a:=fun b hb z=>by
  subst z;rcases Fx b hb with w | w
  ·exact n1 (by simp [w])
  ·exact Ke b w (ut b (by simp))
 have Hh:∀ b∈OV.AZ us',b≠dx:=fun b hb z=>by
  subst z;rcases Fx b hb with w | w
  ·exact n3 w
  ·exact Ke b w (ut b (by simp))
 have de:dx≠a:=fun z=>n1 (by simp [z]);refine (S.DF m).Vr El BA (.nd (k:=.obj C dx B7) AE (show upd H a _ dx=some (.own a) by rw [AX de];exact M8) hl (hr.mono (A7.refl _) fun b hb o ho=>by rw [AX (na b hb)];exact ho)) (by
  rw [Ji];exact List.nodup_cons.mpr ⟨fun z=>by
   rcases List.mem_cons.mp z with z | z
   ·exact de z.symm
   ·exact na a z rfl,List.nodup_cons.mpr ⟨fun z=>Hh dx z rfl,Nn⟩⟩) fun b hb=>?_
 rw [Ji] at hb ⊢;rcases List.mem_cons.mp hb with w | w
 ·exact .inl (by simp [w])
 ·rcases List.mem_cons.mp w with w | w
  ·exact .inl (by simp [w])
  ·rcases Fx b w with z | z
   ·exact .inl (by simp [z])
   ·refine .inr ⟨(hu b z).1,(hu b z).2.1,fun j s hs o=>?_⟩;rcases M9 hs with y | ⟨Fu,hm⟩
    ·subst y;cases o
    ·rcases (hu b z).2.2 with ⟨i2,Dj,s2,_,Cc,o2⟩ | y
     ·exact S.BP j i2 s s2 b (by rintro rfl;exact hm Dj) Fu Cc o o2
     ·exact S0.DL Fu o y
theorem my {F1 H1 F3 H3:Hp}{v:V}(S:Sg E ss σ F H)(Ic:Mv E ss σ F1 H1 F3 H3)(r1:Aj F1 H1 v w)(a1:∀ a∈w.addrs,F1 a=none/\E.H0 a=none/\((∃ i∈m,∃ s,s≠Slot.AD/\ss[i]?=some s/\B9 s σ[i]? a)∨H a=none)):
  Aj F3 H3 v w/\∀ b∈w.addrs,F3 b=none/\E.H0 b=none/\((∃ i∈m,∃ s,s≠Slot.AD/\ss[i]?=some s/\B9 s σ[i]? b)∨H b=none):=by
 have np:∀ b∈w.addrs,By ss σ b:=fun b hb k hk ek=>by
  rcases (a1 b hb).2.2 with ⟨j,hj,s,hs,He,o⟩ | z
  ·exact S.BP j k s _ b (fun e=>by subst e;rw [He] at hk;exact hs (BO hk)) He hk o ek
  ·exact S.DL hk ek z
 refine ⟨r1.mono Ic.ff fun b hb o e=>Ic.hh b o (np b hb) e,fun b hb=>⟨?_,(a1 b hb).2⟩⟩;cases e:F3 b with
 | none=>rfl
 | some o=>
  rcases Ic.nn b o e with z | z
  ·rw [(a1 b hb).1] at z;cases z
  ·exact absurd z (r1.there b hb)
theorem NH (h:Wx ss tv fun m w=>Wl ss i t ta fun p u=>∃ lt C dx ns a us,ss[i]?=some (.ow lt t)/\u=.nd (.obj C dx ns) a us/\C4 K C/\Bu K C f/\ns.length<1000/\i∉m/\nx ((Fz.DF m ss).set i (.ow lt (t.put p (.nd (.obj C dx (NP ns f)) a (MO ns us f w)))))):Ws ss (UE K ta tv f) nx R:=⟨fun E D σ F H S hn hr=>
 h.go E σ F H _ S fun v m w F1 H1 m1 r1 FJ a1 h2=>h2.go E σ F1 H1 _ m1.st fun v2 p u F2 H2 m2 r2 BA AJ=>by
  obtain ⟨lt,C,dx,ns,a,us,hi,eu,hc,sU,hz,Dv,kk⟩:=AJ;subst eu;have ev:v2=.ref a:=by cases r2;rfl
  subst ev;obtain ⟨Ff,Vu⟩:=my S m2 r1 a1;cases r2 with
  | @nd _ _ vs _ ha sd ft rr=>
   have Gw:ns.length=vs.length:=ft;have vl:=rr.length;obtain ⟨ep,Mx⟩:=gc (f:=f) (v:=v) Gw;refine ⟨a,C,dx,ns.zip vs,rfl,ha,hc,sU,by rw [Nv];omega,?_⟩;obtain ⟨v0,e0,r0,CF,q0⟩:=m2.st.ok i _ hi;have Cz:(OV.nd (.obj C dx ns) a us).addrs.Nodup:=by
    obtain ⟨l,rr,e1,_⟩:=OV.split BA;rw [e1,CK,CK] at CF;exact CF.1.2.1
   rw [Ji] at Cz;have TU:=(List.nodup_cons.mp (List.nodup_cons.mp Cz).2).2;have apart:∀ b∈w.addrs,b∉OV.AZ us:=fun b hb z=>by
    have bt:b∈t.addrs:=OV.Ih BA b (by rw [Ji];simp [z]);rcases (a1 b hb).2.2 with ⟨j,hj,s,_,hs,o⟩ | y
    ·exact S.BP j i s _ b (by rintro rfl;exact Dv hj) hs hi o bt
    ·exact S.DL hi bt y
   obtain ⟨K4,Gr,sb⟩:An F2 H2 (Kc ns vs f v) (MO ns us f w)/\(OV.AZ (MO ns us f w)).Nodup/\∀ b∈OV.AZ (MO ns us f w),b∈OV.AZ us∨b∈w.addrs:=by
    unfold Kc MO;cases e:Ce ns f with
    | some n=>
     have MP:n<us.length:=by have:=cS e;omega
     obtain ⟨l,r,e1,e2⟩:=HJ (BE MP);refine ⟨rr.set n Ff,?_,fun b hb=>?_⟩
     ·show (OV.AZ (us.set n w)).Nodup;rw [e2];rw [e1] at TU;exact Rw TU FJ fun b hb=>.inr (by rw [<- e1];exact apart b hb)
     ·have Bc:b∈OV.AZ (us.set n w):=hb;rw [e2] at Bc;rcases List.mem_append.mp Bc with z | z
      ·rcases List.mem_append.mp z with z | z
       ·exact .inl (by rw [e1];simp [z])
       ·exact .inr z
      ·exact .inl (by rw [e1];simp [z])
    | none=>
     refine ⟨rr.append (.one Ff),?_,fun b hb=>?_⟩
     ·show (OV.AZ (us++[w])).Nodup;rw [KG,Ku,CK];exact ⟨TU,FJ,fun x hx y hy e=>apart y hy (e▸hx)⟩
     ·have Bc:b∈OV.AZ (us++[w]):=hb;rw [KG,Ku] at Bc;exact List.mem_append.mp Bc
   rw [ep];exact hn _ σ F2 _ kk (Sg.ZC2 (u:=w) S m2.st hi BA sd Vu Dv K4 Mx Gr sb) (m1.ff.trans m2.ff)⟩
end
theorem M0:∀ {ns:List Str}{vs:List V}{f:Str},Ce ns f=none->(ns.zip vs).lookup f=none
 | [],_,_,_=>by simp
 | g::ns,[],f,h=>by simp
 | g::ns,w::vs,f,h=>by
  rw [Ce] at h
  by_cases c:g=f
  ·rw [jd c] at h;cases h
  ·rw [jG c] at h;rw [FO,GN];have:(f == g)=false:=by simpa using fun z=>c z.symm
   rw [this];refine M0 ?_;cases e:Ce ns f with
   | none=>rfl
   | some m=>rw [e] at h;cases h
section
variable [Xw]
variable {te:TE}{ta:TA}{lt:Bool}{K:ZE5}
theorem Q6 {a0:Addr}{m:Str}{k:PV->OV->Prop}(hi:ss[i]?=some (.ow lt (.nd (.obj C dx ns) a0 us)))(hm:Ce ns m=none)(h:N0 ss ta fun l=>∃ k',pre (.ow true (.nd (.obj C dx ns) a0 us)::l) (.mt k')/\∀ p t',k' p t'->∃ GU us',t'=.nd GU a0 us'/\k p t'):
  Wm ss i lt (.nd (.obj C dx ns) a0 us) (Hz C m (CL pre) [] E0 (BL i) ta) k:=⟨fun E σ F H Q S q=>by
 obtain ⟨v0,e0,r0,_,_⟩:=S.ok i _ hi;have ev:v0=.ref a0:=by cases r0;rfl
 subst ev;cases r0 with
 | @nd _ _ FE _ ha sd ft rr=>
  refine ⟨_,e0,a0,dx,ns.zip FE,rfl,ha,M0 hm,h.go E σ F H _ S fun vs l F1 H1 m1 a ⟨k',hp,kk⟩=>?_⟩;rw [EW];refine ⟨.ow true (.nd (.obj C dx ns) a0 us)::l,.mt k',F1,[],(OV.nd (.obj C dx ns) a0 us).addrs,hp,m1.st.bx hi (.here e0 a),fun v F' H' f ⟨p,t',r,ro,nd,qa,kp⟩=>?_⟩;obtain ⟨GU,us',rfl,k2⟩:=kk p t' kp;exact q v p _ F' H' (m1.kP hi (m1.st.Zl hi f ro nd qa)) r k2⟩
theorem T9 {m:Str}{k:PV->Prop}(h:Wp ss te fun o=>∃ ns xs,o=.obj C ns xs/\Ce ns m=none/\Wa ss ta fun l=>∃ k',pre (.is o::l) (.is k')/\∀ p,k' p->k p):Wp ss (Hz C m (BW pre) [] E0 te ta) k:=⟨fun E σ F H Q S q=>
 h.go E σ F H _ S fun v o F1 H1 m1 ro ⟨ns,xs,eo,hm,h2⟩=>by
  subst eo;cases ro with
  | @obj a _ dx _ FE _ e1 e2 hl rr=>
   refine ⟨a,dx,ns.zip FE,rfl,m1.st.fh _ _ e1,M0 hm,h2.go E σ F1 H1 _ m1.st fun vs l F2 H2 m2 al ⟨k',hp,kk⟩=>?_⟩;rw [EW];refine ⟨.is (.obj C ns xs)::l,.is k',F2,[],hp,m2.st.UQ (.cons (s:=.is _) (Rep.obj (m2.ff _ _ e1) (m2.ff _ _ e2) hl (rr.mono m2.ff)) al),fun v F' H' f ⟨p,r,kp⟩=>?_⟩;exact q v p F' H' (m1.trans (m2.trans (m2.st.back (fun _ h=>absurd h Au) f))) r (kk p kp)⟩
theorem L8 {k:PV->Prop}(h:Wp ss te fun o=>∃ C ns xs n y,o=.obj C ns xs/\C4 K C/\Bu K C f/\Ce ns f=some n/\xs[n]?=some y/\k y):Wp ss (Jz K te f) k:=⟨fun E σ F H Q S q=>
 h.go E σ F H _ S fun v o F1 H1 m1 ro AJ=>by
  obtain ⟨C,ns,xs,n,y,eo,hc,hn,hx,hy,kk⟩:=AJ;subst eo;cases ro with
  | @obj a _ dx _ FE _ e1 e2 hl rr=>
   obtain ⟨u,hu,ru⟩:=rr.get hy;exact ⟨a,C,dx,ns.zip FE,u,rfl,m1.st.fh _ _ e1,hc,hn,V6 hx hu,q u y F1 H1 m1 ru kk⟩⟩
theorem jZ {k:List Nat->OV->Prop}(h:N0 ss ta fun l=>∀ x dx:Addr,∃ k',pre (.ow true (.nd (.obj C dx []) x [])::l) (.mt k')/\∀ p t',k' p t'->p=.AB/\∃ B7 us',t'=.nd (.obj C dx B7) x us'/\k [] t'):Wx ss (Wd C (CL pre) [] E0 ta) k:=⟨fun E σ F H Q S q=>
 h.go E σ F H _ S fun vs l F1 H1 m1 al Ko x dx hx M8 Ak=>by
  rw [EW];have M1:=m1.st.make M8 (.own x);have Jx:upd H1 dx (.own x) x=none:=by rw [AX (BS Ak)];exact hx
  have M2:=M1.st.make Jx (.ins C dx []);have m2:=M1.trans M2;have up:∀ a o,H1 a=some o->upd (upd H1 dx (.own x)) x (.ins C dx []) a=some o:=fun a o e=>by
   rw [AX (DX e hx),AX (DX e M8)];exact e
  have dn:∀ a,upd (upd H1 dx (.own x)) x (.ins C dx []) a=none->H1 a=none:=fun a e=>by
   cases z:H1 a with
   | none=>rfl
   | some o=>rw [up a o z] at e;cases e
  have a0:(OV.nd (.obj C dx []) x []).addrs=[x,dx]:=by rw [Ji,OV.HK]
  have r0:Aj F1 (upd (upd H1 dx (.own x)) x (.ins C dx [])) (.ref x) (.nd (.obj C dx []) x []):=.nd (k:=.obj C dx []) (vs:=[]) AE (show upd _ x _ dx=some (.own x) by rw [AX Ak];exact AE) rfl .nil;have f0:∀ a∈(OV.nd (.obj C dx []) x []).addrs,H1 a=none:=fun a ha=>by
   rw [a0] at ha;simp only [DT,Au,rV] at ha;rcases ha with rfl | rfl
   ·exact hx
   ·exact M8
  have CF:(OV.nd (.obj C dx []) x []).addrs.Nodup:=by
   rw [a0];simp [BS Ak]
  have Sx:=Sg.fS (j:=ss.length) (m:=[]) (v:=.ref x) (u:=.nd (.obj C dx []) x []) (m1.st.grown 1) (m2.st.grown 1) r0 CF fun a ha=>⟨m1.st.BH (f0 a ha),m1.st.D6 (f0 a ha),.inr (f0 a ha)⟩;have hl:=m1.st.len;have hi:((ss++List.replicate 1 Slot.any).set ss.length (.ow false (.nd (.obj C dx []) x [])))[ss.length]?=some (.ow false (.nd (.obj C dx []) x [])):=CZ (by simp);have e0:((σ++List.replicate 1 none).set ss.length (some (V.ref x)))[ss.length]?=some (some (.ref x)):=CZ (by simp;omega);obtain ⟨k',hp,kk⟩:=Ko x dx;refine ⟨.ow true (.nd (.obj C dx []) x [])::l,.mt k',F1,[],(OV.nd (.obj C dx []) x []).addrs,hp,Sx.bx hi (.here e0 al),fun v F' H' f ⟨p,t',r,ro,nd,qa,kp⟩=>?_⟩;obtain ⟨rfl,B7,us',rfl,k2⟩:=kk p t' kp;have B:=Sx.Zl hi f ro nd qa;have at':∀ n,n<ss.length->((ss++List.replicate 1 Slot.any).set ss.length (.ow false (.nd (.obj C dx []) x [])))[n]?=ss[n]?:=fun n hn=>by rw [CQ (by omega),Hs hn]
  have Cg:∀ n,n<ss.length->((σ++List.replicate 1 none).set ss.length (some (V.ref x)))[n]?=σ[n]?:=fun n hn=>by rw [CQ (by omega),Hs (by omega)]
  have np:∀ a,H1 a≠none->By ss σ a->By ((ss++List.replicate 1 Slot.any).set ss.length (.ow false (.nd (.obj C dx []) x []))) ((σ++List.replicate 1 none).set ss.length (some (V.ref x))) a:=fun a _ hn n hk=>by
   by_cases c:n<ss.length
   ·rw [at' n c] at hk;rw [Cg n c];exact hn n hk
   ·by_cases c2:n=ss.length
    ·subst c2;rw [hi] at hk;cases hk
    ·rw [Nt (by simp;omega)] at hk;cases hk
  have M3:Mv E ss σ F1 H1 F' H':=m1.st.step B.ff B.st.fh (fun a o hn e=>B.hh a o (np a (by rw [e];simp) hn) (fun z=>by rw [f0 a z] at e;cases e) (up a o e)) (fun a o e=>(B.nn a o e).imp id (dn a)) fun n l' hn en=>by
   have c:n<ss.length:=(List.getElem?_eq_some_iff.mp hn).1;refine B.st.EA (i:=n) ?_ (by rw [Cg n c];exact en);rw [CQ (by omega)];exact (at' n c).trans hn
  cases r.inv;refine ⟨rfl,q (.ref x) [] _ F' H' (m1.trans M3) ro nd (fun a ha=>?_) k2⟩;have h1:H1 a=none:=(qa a ha).2.elim (dn a) (f0 a);exact ⟨(qa a ha).1,m1.st.D6 h1,.inr (m1.none h1)⟩⟩
end
end Fz
namespace L2
section
variable {X:Cx}{o e value:Expr}{f:Str}{pos pos' S6:Pos}{ta tv:TE}
theorem DH (he:QE X e ta)(hb:attributeBase e f X.env (eval e X.env)=eval e X.env:=by rfl):QE X (.Attribute e f pos) (Jz X.K ta f):=⟨by
 have he:=he.h;intro pins s σ H Q I h;refine zE hb (AO (he pins s σ H _ I h) fun u s1 EG=>?_);obtain ⟨x,H1,I1,rx,a,C,dx,fs,v,ex,ea,c,n,l,q⟩:=EG;subst ex;obtain rfl:u=Value.ref a:=rx;exact oS I1 ea c n l fun u' s2 I2 ru=>⟨v,H1,I2,ru,q⟩⟩
theorem NM (ha:QE X o ta)(hv:QE X value tv)(hs:swapsWith value (some (.Attribute o f pos')) pos.line X.env=pure false:=by rfl):QS X (.Assign [.Attribute o f pos'] value pos) (UE X.K ta tv f):=⟨by
 have ha:=ha.h;have hv:=hv.h;intro pins s σ H D I h;refine plainObj_wpAny_Assign_Attribute (AO (hv pins s σ H _ I h) fun u s1 ⟨y,H1,I1,ry,q⟩=>AO (ha pins s1 σ H1 _ I1 q) fun ov s2 ⟨x,H2,I2,rx,a,C,dx,fs,ex,ea,c,n,l,q2⟩=>?_) hs;subst ex;obtain rfl:ov=Value.ref a:=rx;exact mx I2 ea c n l ry fun s3 I3=>⟨σ,_,I3,q2⟩⟩
end
end L2
namespace L2
section
variable {X:Cx}{o e:Expr}{td ty:TE}{apos Bv:Pos}
theorem eX (ho:QE X o td)(he:QE X e ty)(m:M1 X o "pop" apos e Bv):QE X (.Call (.Attribute o "pop" apos) [e] [] Bv) (SI td ty):=⟨by
 have ho:=ho.h;have he:=he.h;intro pins s σ H Q I h;refine wpAny_Call_method m.base m.G6 m.line PySem.F.plainAttrs_dict ZDB PySem.F.type_dict_pop (AO (ho pins s σ H _ I h) fun u s1 ⟨x,H1,I1,rx,a,ex,d,q1⟩=>?_);subst ex;obtain rfl:u=Value.ref a:=rx;obtain ⟨t1,t2,_⟩:=nc I1 d;refine ⟨t1,t2,?_⟩;rw [m.trees];refine ZCc rfl (Calls.evalArgs_plain (iN (AO (he pins s1 σ H1 _ I1 q1) fun iv s2 ⟨y,H2,I2,ry,A3,k,v,ea,ey,l,q2⟩=>iO ?_)));subst ey;exact nP I2 ea ry l (.inl rfl) fun w' s3 I3 Es=>⟨v,_,I3,Es,q2⟩⟩
end
end L2
namespace Fz
open L2 Lw
theorem dG:∀ {ks:List Key}{vs:List V}{key:Key}{n:Nat},ks.Nodup->C6 ks key=some n->ks.length=vs.length->Ir (ks.zip vs) key=(ks.eraseIdx n).zip (vs.eraseIdx n)
 | [],_,_,_,_,h,_=>by cases h
 | _::_,[],_,_,_,_,hl=>by simp at hl
 | k'::ks,w::vs,key,n,nd,h,hl=>by
  obtain ⟨n1,n2⟩:=List.nodup_cons.mp nd;rw [C6] at h;unfold Ir;rw [FO,Xo]
  by_cases c:k'=key
  ·rw [jd c] at h;cases h;rw [jG (by simp [c])];show List.filter _ _=ks.zip vs;refine List.filter_eq_self.mpr fun kv Vo=>?_;have:kv.1∈ks:=(Xu (a:=kv.1) (b:=kv.2) Vo).1;exact jO fun z=>n1 (by rw [c,<- z];exact this)
  ·rw [jG c] at h;cases e:C6 ks key with
   | none=>rw [e] at h;cases h
   | some m=>
    rw [e] at h;cases h;rw [jd (jO c)];have ih:=dG (vs:=vs) n2 e (by simpa using hl)
    unfold Ir at ih;rw [ih];rfl
theorem Ua {α:Type}:∀ (l:List α) (n:Nat),n<l.length->(l.eraseIdx n).length=l.length - 1
 | [],_,h=>by simp at h
 | _::_,0,_=>rfl
 | x::t,n+1,h=>by
  have h':n<t.length:=by simpa using h
  rw [Xm,BN,Ua t n h',BN];omega
theorem An.aa {F H:Hp}:∀ {vs:List V}{us:List OV}(n:Nat),An F H vs us->An F H (vs.eraseIdx n) (us.eraseIdx n)
 | _,_,_,.nil=>.nil
 | _,_,0,.cons _ t=>t
 | _,_,n+1,.cons r t=>.cons r (An.aa n t)
theorem XQ:∀ (us:List OV) (n:Nat),(OV.AZ (us.eraseIdx n)).Sublist (OV.AZ us)
 | [],_=>ZCf _
 | u::us,0=>by rw [List.eraseIdx_cons_zero,OV.Bf];exact List.sublist_append_right _ _
 | u::us,n+1=>by rw [Xm,OV.Bf,OV.Bf];exact List.Sublist.append (ZCf _) (XQ us n)
section
variable [Xw]
variable {ss:List Slot}{td ty:TE}{nx:List Slot->Prop}{R:Aq}{i:Nat}{t:OV}
theorem Zr (h:Wl ss i t td fun p u=>∃ lt a ks us,ss[i]?=some (.ow lt t)/\u=.nd (.Am ks) a us/\ks.Nodup/\Wp ss ty fun q=>∃ key n,q=Gg key/\C6 ks key=some n/\nx (ss.set i (.ow lt (t.put p (.nd (.Am (ks.eraseIdx n)) a (us.eraseIdx n)))))):Ws ss (LH (SI td ty)) nx R:=⟨fun E D σ F H S hn hr=>
 h.go E σ F H _ S fun v p u F1 H1 m1 r1 BA ⟨lt,a,ks,us,hi,eu,hk,h2⟩=>by
  subst eu;have ev:v=.ref a:=by cases r1;rfl
  subst ev;have Ff:=r1;cases r1 with
  | @nd _ _ FE _ wQ sd0 ft0 rr0=>
   refine ⟨a,rfl,.inl ⟨_,.inl wQ⟩,h2.go E σ F1 H1 _ m1.st fun v2 q F2 H2 m2 r2 ⟨key,n,eq,hx,kk⟩=>?_⟩;subst eq;have r3:=Ff.mv m1.st ⟨lt,hi⟩ BA m2;cases r3 with
   | @nd _ _ vs _ ha sd ft rr=>
    have Gw:ks.length=vs.length:=ft;have vl:=rr.length;have MP:n<ks.length:=(List.getElem?_eq_some_iff.mp (UU hx)).1;have hv:=BE (show n<vs.length by omega);refine ⟨_,key,_,ha,LK r2,XF hx hv,?_⟩;obtain ⟨v0,e0,r0,CF,q0⟩:=m2.st.ok i _ hi;have Cz:(OV.nd (.Am ks) a us).addrs.Nodup:=by
     obtain ⟨l,rr,e1,_⟩:=OV.split BA;rw [e1,CK,CK] at CF;exact CF.1.2.1
    rw [Jv] at Cz;rw [dG hk hx Gw];have M:=Sg.gA (m:=[]) (u:=.fz .AB) (ks':=ks.eraseIdx n) (us':=us.eraseIdx n) m1.st m2.st hi BA (fun b hb=>by rw [OV.IL] at hb;cases hb) (by simp) (rr.aa n) (by rw [Ua _ _ MP,Ua _ _ (by omega)];omega) ((List.nodup_cons.mp Cz).2.sublist (XQ us n)) fun b hb=>.inl ((XQ us n).subset hb);exact hn _ σ F2 _ kk M (m1.ff.trans m2.ff)⟩
end
end Fz
namespace L2
variable {pl:Sem Bool}
def DD (P:Program)(w:World)(K:ZE5)(mg:ZE7)(base:Heap)(C:Addr)(m:Str)(k:Nat)(ps:List Str)(sp:Sp):Prop:=
 ∃ f fd,D3 P w K mg base Ez k f fd ps sp/\Binds K fd ps []/\Meth K C m f/\C4 K C
def XS (P:Program)(w:World)(K:ZE5)(mg:ZE7)(base:Heap)(C:Addr)(k:Nat)(ps:List Str)(sp:Sp):Prop:=
 ∃ f fd,D3 P w K mg base Ez k f fd ps sp/\Binds K fd ps []/\Mk K C f
section
variable {X:Cx}{o e:Expr}{es:List Expr}{m x:Str}{C:Addr}{k j:Nat}{ps:List Str}{sp:Sp}{ta:TE}{t:TA}{apos pos p:Pos}
theorem Jk (h:DD X.prog X.w X.K X.mg X.base C m k ps sp)(hr:Bd j X.A)(hk:k<=j)(he:QE X o ta)(ha:QA X (e::es) t)
  (CH:starEach (e::es) X.env=(false,eval e X.env)::starEach es X.env:=by rfl) (Bk:(backTo pos (starEach es X.env)).any (·.1)=false:=by rfl)
  (ht:eval (.Call (.Attribute o m apos) (e::es) [] pos) X.env=(do
   let ov <- eval o X.env
   standAt apos.atName
   let (f,first) <- holding [ov] (getMethod ov m pl)
   callWith pos f first (backTo pos (starEach (e::es) X.env)) (backToKw pos (keywordEach [] X.env))):=by rfl) :
  QE X (.Call (.Attribute o m apos) (e::es) [] pos) (Hz C m sp [] E0 ta t):=by
 obtain ⟨f,fd,F,b,hm,c⟩:=h;exact ⟨tj he.h c hm (F.mono hk) hr b .nil Ph ha.h CH Bk ht⟩
theorem OM (h:DD X.prog X.w X.K X.mg X.base C m k ps sp)(hr:Bd j X.A)(hk:k<=j)(he:QE X o ta)
  (ht:eval (.Call (.Attribute o m apos) [] [] pos) X.env=(do
   let ov <- eval o X.env
   standAt apos.atName
   let (f,first) <- holding [ov] (getMethod ov m pl)
   callWith pos f first (backTo pos (starEach [] X.env)) (backToKw pos (keywordEach [] X.env))):=by rfl) :
  QE X (.Call (.Attribute o m apos) [] [] pos) (Hz C m sp [] E0 ta B5):=by
 obtain ⟨f,fd,F,b,hm,c⟩:=h;exact ⟨x9 he.h c hm (F.mono hk) hr b .nil Ph ht⟩
theorem zd (h:XS X.prog X.w X.K X.mg X.base C k ps sp)(hr:Bd (j+1) X.A)(hk:k<=j)(hm:X.mg x=some (.ref C))(ha:QA X (e::es) t)(hg:Gl X x:=by rfl)(Cd:(x == ("__debug__":Str))=false:=by decide)
  (he:starEach (e::es) X.env=(false,eval e X.env)::starEach es X.env:=by rfl) (Bk:(backTo pos (starEach es X.env)).any (·.1)=false:=by rfl):QE X (.Call (.Name x p) (e::es) [] pos) (Wd C sp [] E0 t):=by
 obtain ⟨f,fd,F,b,M⟩:=h;exact ⟨ja M (F.mono hk) hr hg hm b .nil Ph ha.h Cd he Bk⟩
variable {prog:Program}{w:World}{A:Around}{E:Value->Shared->Prop}{s:Shared}
end
end L2
set_option maxHeartbeats 200000
set_option maxHeartbeats 4000000
namespace L2
def HU (s:Stmt)(n:Nat):Stmt:=match s with
 | .ClassDef _ _ _ b ..=>b.getD n (.Pass ⟨0,0,0,0⟩)
 | s=>s
end L2
namespace Fz
open L2 Lw
@[reducible] def xwM (X:XK) (t:OV) (D:Ex->Prop):Xw:=⟨fun _=>X,fun ss=>ss[0]?=some (.ow true t),D⟩
variable {R:Aq}{AK ss:List Slot}
section
variable {pre:QZ}{H:Hp}
def Tv (R:Aq)(AK:List Slot):Prop:=∃ (k:PV->OV->Prop) (nk:NK) (a:Addr) (us:List OV),R=.mt k/\AK[0]?=some (.ow true (.nd nk a us))/\k .AB (.nd nk a us)
theorem Tv.ok {E:Ent0}{σ:L2.St}{F:Hp}(h:Tv R AK)(S:Sg E AK σ F H):R.ok E F H .AB:=by
 obtain ⟨k,nk,a,us,rfl,h0,hk⟩:=h;obtain ⟨v0,e0,r0,CF,q0⟩:=S.ok 0 _ h0;have ev:v0=.ref a:=by cases r0;rfl
 subst ev;exact ⟨.AB,.nd nk a us,.AB,r0,CF,fun b hb=>⟨(q0 b hb).1,(q0 b hb).2.imp id fun z=>z.2⟩,hk⟩
end
section
variable [Xw]
variable {te tv:TE}{ta:TA}{i:Nat}{lt:Bool}{t:OV}{nx:List Slot->Prop}{K:ZE5}{f:Str}
theorem ay {pre:Pre}{C:Addr}{m:Str}{k:List PV->Prop}(h:Wp ss te fun o=>∃ ns xs,o=.obj C ns xs/\Ce ns m=none/\Wa ss ta fun l=>∃ k',pre (.is o::l) (.new k')/\∀ p,k' p->k p):Wn ss (Hz C m (BW pre) [] E0 te ta) k:=⟨fun E σ F H Q S q=>
 h.go E σ F H _ S fun v o F1 H1 m1 ro ⟨ns,xs,eo,hm,h2⟩=>by
  subst eo;cases ro with
  | @obj a _ dx _ FE _ e1 e2 hl rr=>
   refine ⟨a,dx,ns.zip FE,rfl,m1.st.fh _ _ e1,M0 hm,h2.go E σ F1 H1 _ m1.st fun vs l F2 H2 m2 al ⟨k',hp,kk⟩=>?_⟩;rw [EW];refine ⟨.is (.obj C ns xs)::l,.new k',F2,[],hp,m2.st.UQ (.cons (s:=.is _) (Rep.obj (m2.ff _ _ e1) (m2.ff _ _ e2) hl (rr.mono m2.ff)) al),fun v F' H' f ⟨a,gx,cX,ev,f1,h1,DM,r,kp⟩=>?_⟩;subst ev;exact q a gx cX F' H' (m1.trans (m2.trans (m2.st.back (fun _ h=>absurd h Au) f))) f1 (m1.none (m2.none h1)) DM r (kk cX kp)⟩
end
end Fz
namespace L2
section
variable {prog:Program}{w:World}{A:Around}{E:Value->Shared->Prop}{s:Shared}
theorem ag:typeLookup (.type "dict") "__len__"=pure (some (.builtin "dict.__len__")):=by rw [rH,o8];kernel_rfl
theorem wF {S:Addr}{A3:List (Key×Value)}{n:Nat}{Q:List Value->Shared->Prop}(hh:A.handled=none)(Ed:(S == sysModules)=false)(hS:s.heap.DictOf (Bo prog w) S A3)(en:A3.length=n)(hn:n<=sizeLine)
  (h:∀ (s':Shared) (vs:List Value),(∀ b o,s.heap.get? b=some o->s'.heap.get? b=some o)->s.heap.objs.size<=s'.heap.objs.size->s'.gens=s.gens->s'.os=s.os->vs.length=n->(∀ (i:Nat) v,vs[i]?=some v->∃ k x,A3[i]?=some (k,x)/\(Bo prog w).is k v=true)->Q vs s') :
  wpAny (model prog w) A (collect (.ref S)) Q E s:=by
 obtain ⟨ep,hS⟩:=hS.dictAt;have AQ:S<s.heap.objs.size:=hS.lt_size;have Io:s.heap.objs.size≠S:=KQ AQ;unfold collect;refine j7 (wU (mP F.entry_proto_collect ?_));rw [Lf F.plain_proto_collect _];show wpAny _ A.in1 (newList [] >>= fun l=>again (.builtin "list.__iadd__" ⟨[l,.ref S],[]⟩)) _ _ s;refine j7 (ky ?_);refine j9 ⟨pV Xh _,mP F.entry_list_iadd ?_⟩;rw [Lf Xh _];generalize Nq:({ cls:=.type "list", data:=.seq ([]:List Value).toArray }:Obj)=so;have Dd:(s.heap.push so).DictAt (Bo prog w) S A3 ep:=hS.push _;have Iw:(s.heap.push so).get? s.heap.objs.size=some so:=BU _ (by rw [<- Nq];rfl);have sz:(s.heap.push so).objs.size=s.heap.objs.size+1:=Dy ..;have BY:Shared.TypeIs { s with heap:=s.heap.push so } (.ref S) "dict" := Dd.dictOf.typeIs
 have h1:Builtin.List.listSameRef (.ref s.heap.objs.size) (.ref S)=false:=by simp [Builtin.List.listSameRef,Io]
 show wpAny _ A.in1 (Builtin.List.listExtendWith (.ref s.heap.objs.size) (.ref S) (.ref s.heap.objs.size)) _ _ { s with heap:=s.heap.push so }
 unfold Builtin.List.listExtendWith;refine j7 (oa BY ?_);rw [jG (by rw [h1];decide)];refine j7 (yt (s:={ s with heap:=s.heap.push so }) Ed Dd ?_)
 dsimp only;generalize Je:({ cls:=.type "dict_keyiterator", data:=.fields #[.ref S,.int 0 0,.int A3.length 0,.int ep 0] }:Obj)=io;have kp:∀ b o,(s.heap.push so).get? b=some o->((s.heap.push so).push io).get? b=some o:=fun b o e=>BF _ e;have Ak:S≠(s.heap.push so).objs.size:=by rw [sz];exact BK (HE AQ)
 have W:∀ A2:Around,A2.handled=none->Walks prog w A2 (s.heap.push so).objs.size [(s.heap.push so).objs.size,S] [(s.heap.push so).objs.size] A3.length _ _:=fun A2 h2=>Y7 (knd:=Bo prog w) h2 (s.heap.push so).objs.size S Ak A3 ep;have Hk:((s.heap.push so).push io).IsKeyIter (s.heap.push so).objs.size S 0 A3.length ep/\((s.heap.push so).push io).DictAt (Bo prog w) S A3 ep:=⟨⟨io,BU _ (by rw [<- Je];rfl),by rw [<- Je],by rw [<- Je];rfl⟩,Dd.push _⟩;have D2:s.heap.objs.size∉[(s.heap.push so).objs.size,S]:=fun hm=>by
  simp only [DT,Au,rV] at hm;rcases hm with z | z
  ·rw [sz] at z;omega
  ·exact Io z
 generalize Mo:(s.heap.push so).push io=h2 at kp Hk ⊢;have CI:Shared.TypeIs { s with heap:=h2 } (.ref S) "dict" := by obtain ⟨o,ho,hc⟩:=BY;exact ⟨o,kp _ _ ho,hc⟩
 refine j7 (lq ?_);unfold Builtin.List.listLengthHint;refine j7 (qg CI ag ?_);generalize Fq:("dict.__len__":String)=Jm
 wp_delta
 rw [show splitId Jm=some ("dict","__len__") from by subst Fq;decide +kernel];subst Fq;refine j7 (qL (b:=true) CI (by rw [p0];kernel_rfl) ?_);rw [jG (by decide)];refine qx (fun _=>?_) (fun Cq=>absurd (by decide +kernel) Cq);refine j7 (oa CI ?_);refine j9 ?_;refine qx (fun _=>?_) (fun Cq=>absurd (by decide +kernel) Cq);refine j7 (vg ?_);refine j7 ?_;show wpAny _ _ (updateSeq s.heap.objs.size (·.push .none) >>= fun _=>updateSeq s.heap.objs.size (·.pop)) _ _ _
 have z0:(#[]:Array Value).size<=sizeLine:=C2 _;have z1:((#[]:Array Value).push Value.none).size<=sizeLine:=by show 1<=sizeLine;decide
 have z2:((#[]:Array Value).push Value.none).size<=sizeLine+1:=Xy z1;have z3:(((#[]:Array Value).push Value.none).pop).size<=sizeLine+1:=C2 _;have IG:=kp _ _ Iw;subst Nq;refine j7 (pN (s:={ s with heap:=h2 }) IG rfl ?_ z0 z2)
 have q2:=FN (Obj.mapSeq (·.push Value.none)) IG rfl
 refine pN q2 rfl ?_ z1 z3;have q3:=FN (Obj.mapSeq (·.pop)) q2 rfl
 have GG:∀ b o,b≠s.heap.objs.size->h2.get? b=some o->((h2.update s.heap.objs.size (Obj.mapSeq (·.push Value.none))).update s.heap.objs.size (Obj.mapSeq (·.pop))).get? b=some o:=
  fun b o hb e=>(Fn _ _ (BS hb)).trans ((Fn _ _ (BS hb)).trans e)
 refine j9 ⟨pV iz _,sS (W A.in1 hh).toS (en▸hn) _ D2 _ A3.length 0 _ #[] _ rfl (C2 _) ?_ q3 (Xj _) fun s' Ca c' hm C5 Ai=>?_⟩
 ·exact (W A.in1 hh).frame 0 h2 _ Hk fun b hb o e=>GG b o (fun z=>D2 (z▸hb)) e
 ·show wpAny _ A (load s.heap.objs.size >>= _) _ _ s';refine j7 (wC C5 ?_);refine j9 ?_;refine h s' Ca.toList (fun b o e=>?_) (KN (B8 C5)) hm.gens hm.os (by rw [Fm,Ai.1];exact en) fun i v hv=>Ai.2 i v (by rw [<- RD];exact hv);have hb:b<s.heap.objs.size:=B8 e;refine hm.heap b o ?_ (GG b o (BK hb) (kp b o (BF _ e)));simp only [DT,Au,rV,not_or];refine ⟨BK hb,?_⟩;rw [sz];exact BK (HE hb)
end
theorem i3 {prog:Program}{w:World}:∀ {ns:List Str}{A3:List (Key×Value)}{vs:List Value},A3.map (·.1)=ns.map Sum.inr->vs.length=A3.length->(∀ (i:Nat) v,vs[i]?=some v->∃ k x,A3[i]?=some (k,x)/\(Bo prog w).is k v=true)->StrsAre vs ns
 | [],[],[],_,_,_=>.nil
 | [],[],_::_,_,h,_=>by simp at h
 | [],_::_,_,h,_,_=>by simp at h
 | _::_,[],_,h,_,_=>by simp at h
 | _::_,_::_,[],_,h,_=>by simp at h
 | n::ns,kv::A3,v::vs,e,hl,h=>by
  rw [Bs,Bs] at e;injection e with e1 e2
  obtain ⟨k,x,ek,hk⟩:=h 0 v rfl;have Va:kv=(k,x):=by simpa using ek
  subst Va;have E6:k=Sum.inr n:=e1;subst E6;rcases Fj (show HW (Sum.inr n) v=true from hk) with ⟨i,t,z,_⟩ | ⟨y,t,z,rfl⟩
  ·cases z
  ·cases z;exact .cons n t (i3 e2 (by simpa using hl) fun i v hv=>h (i+1) v hv)
theorem StrsAre.xP {vs:List Value}{ns:List Str}(h:StrsAre vs ns):vs.length=ns.length:=by induction h with | nil=>rfl | cons y t h ih=>simp [ih]
section
variable {X:Cx}
def Ur:List V->Hp->VK->Prop:=fun xs H Q=>∃ (p:Addr) (A3:List (Key×V)) (ns:List Str),xs=[.ref p]/\Rd H p (.dK A3)/\A3.map (·.1)=ns.map Sum.inr/\ns.length<64/\∀ (l:Addr) (AK:List Str),H l=none->AK.Perm ns->sortedS AK=true->Q (.ref l) (upd H l (.lst (AK.map V.str)))
theorem Rr (hc:X.calm=true):CY X (.builtin "sorted") Ur:=by
 intro pins s σ H xs us Q I r h;obtain ⟨p,A3,ns,rfl,hH,hk,Bn,q⟩:=h;obtain ⟨u,rfl,rx⟩:=vals1 r;cases rx;obtain ⟨hz,Ed,FE,rel,hS⟩:=Gp I.AL hH;have hh:X.A.handled=none:=I.ok.hd hc;have ek:FE.map (·.1)=ns.map Sum.inr:=rel.keys.symm.trans hk
 refine VL (Pc:=fun vs s1=>(∀ b o,s.heap.get? b=some o->s1.heap.get? b=some o)/\s.heap.objs.size<=s1.heap.objs.size/\s1.gens=s.gens/\s1.os=s.os/\StrsAre vs ns) (fun A1 E1 Q1 hA k=>?_) ?_
 ·exact wF (hA.trans hh) Ed hS rfl (by rw [<- rel.length];exact hz) fun s' vs a1 a2 a3 a4 a5 a6=>k vs s' ⟨a1,a2,a3,a4,i3 ek a5 a6⟩
 ·rintro vs s1 ⟨a1,a2,a3,a4,a5⟩;refine ⟨by rw [StrsAre.xP a5];exact Bn,ns,a5,fun out AK e h' kp he C5 hp hs=>?_⟩;exact WH I a3 a4 a1 a2 kp he C5 (by rw [hp.length_eq];exact Bn) fun l hl=>q l AK hl hp hs
end
end L2
namespace Fz
open L2 Lw
theorem Q4:∀ {ks:List Key}{vs:List V},ks.length=vs.length->(ks.zip vs).map (·.1)=ks
 | [],[],_=>rfl
 | [],_::_,h=>by simp at h
 | _::_,[],h=>by simp at h
 | k::ks,v::vs,h=>by
  rw [FO,Bs,Q4 (by simpa using h)]
section
variable [Xw]
variable {E:Ent0}{ss:List Slot}{σ:L2.St}{F H F' H':Hp}{K:ZE5}{i:Nat}{t:OV}{ta tb te:TE}{nx:List Slot->Prop}{R:Aq}
theorem Zz {k:List PV->Prop}(h:Wp ss te fun p=>∃ (xs:List PV) (ns:List Str),p=.Am (ns.map Sum.inr) xs/\ns.length<64/\∀ B7:List Str,B7.Perm ns->sortedS B7=true->k (B7.map PV.str)):Wn ss (Ck Ur (AV te B5)) k:=⟨fun E σ F H Q S q=>
 h.go E σ F H _ S fun v p F1 H1 m1 rp AJ=>by
  obtain ⟨xs,ns,e,hz,kk⟩:=AJ;subst e;cases rp with
  | @Am a _ vs _ ef hl rr=>
   refine ⟨a,_,ns,rfl,.inl (m1.st.fh _ _ ef),Q4 hl,hz,fun l B7 Dc hp hs=>?_⟩;have m2:=m1.st.make Dc (.lst (B7.map V.str));exact q l _ _ F1 _ (m1.trans m2) (m1.st.BH Dc) (m1.none Dc) AE (Jb B7) (kk B7 hp hs)⟩
end
end Fz
namespace L2
section
variable {prog:Program}{w:World}{A:Around}{s:Shared}{R:Result->Shared->Prop}
theorem lY {L S:Addr}{c0:Nat}{res:Value}{A3:List (Key×Value)}{n:Nat}(hh:A.handled=none)(Ed:(S == sysModules)=false)(hL:s.heap.get? L=some { cls:=.type "list", data:=.seq #[] c0 })(qr:s.heap.DictOf (Bo prog w) S A3)(en:A3.length=n)(hn:n<=sizeLine)
  (h:∀ (s':Shared) (vs:List Value) (c':Nat),(∀ b o,b≠L->s.heap.get? b=some o->s'.heap.get? b=some o)->L<s'.heap.objs.size->s'.gens=s.gens->s'.os=s.os->s'.heap.get? L=some { cls:=.type "list", data:=.seq vs.toArray c' }->vs.length=n->(∀ (i:Nat) v,vs[i]?=some v->∃ k x,A3[i]?=some (k,x)/\(Bo prog w).is k v=true)->R (.ok (.ret res)) s') :
  wpAny (model prog w) A.in1 (Builtin.List.listExtendWith (.ref L) (.ref S) res)
   (fun fin s'=>match fin with | .done f=>R (.ok f) s' | .again c'=>c'.quiet=true/\codeAny (model prog w) A c' R s') (fun e s'=>R (.error e) s') s:=by
 obtain ⟨ep,hS⟩:=qr.dictAt;have AQ:S<s.heap.objs.size:=hS.lt_size;have Io:L≠S:=fun z=>by
  subst z;obtain ⟨o,ho,hc⟩:=hS.dictOf.typeIs;rw [hL] at ho;cases ho;exact absurd hc (by show ¬ Value.type "list"=Value.type "dict"; decide)
 have BY:Shared.TypeIs s (.ref S) "dict" := hS.dictOf.typeIs;have h1:Builtin.List.listSameRef (.ref L) (.ref S)=false:=by simp [Builtin.List.listSameRef,Io]
 unfold Builtin.List.listExtendWith;refine j7 (oa BY ?_);rw [jG (by rw [h1];decide)];refine j7 (yt (s:=s) Ed hS ?_);dsimp only;generalize Je:({ cls:=.type "dict_keyiterator", data:=.fields #[.ref S,.int 0 0,.int A3.length 0,.int ep 0] }:Obj)=io;have kp:∀ b o,s.heap.get? b=some o->(s.heap.push io).get? b=some o:=fun b o e=>BF _ e;have Ak:S≠s.heap.objs.size:=BK AQ;have W:∀ A2:Around,A2.handled=none->Walks prog w A2 s.heap.objs.size [s.heap.objs.size,S] [s.heap.objs.size] A3.length _ _:=fun A2 h2=>Y7 (knd:=Bo prog w) h2 s.heap.objs.size S Ak A3 ep;have Hk:(s.heap.push io).IsKeyIter s.heap.objs.size S 0 A3.length ep/\(s.heap.push io).DictAt (Bo prog w) S A3 ep:=⟨⟨io,BU _ (by rw [<- Je];rfl),by rw [<- Je],by rw [<- Je];rfl⟩,hS.push _⟩;have D2:L∉[s.heap.objs.size,S]:=fun hm=>by
  simp only [DT,Au,rV] at hm;rcases hm with z | z
  ·have q:L<s.heap.objs.size:=B8 hL;rw [z] at q;exact KO _ q
  ·exact Io z
 generalize Mo:s.heap.push io=h2 at kp Hk ⊢;have CI:Shared.TypeIs { s with heap:=h2 } (.ref S) "dict" := by obtain ⟨o,ho,hc⟩:=BY;exact ⟨o,kp _ _ ho,hc⟩
 refine j7 (lq ?_);unfold Builtin.List.listLengthHint;refine j7 (qg CI ag ?_);generalize Fq:("dict.__len__":String)=Jm
 wp_delta
 rw [show splitId Jm=some ("dict","__len__") from by subst Fq;decide +kernel];subst Fq;refine j7 (qL (b:=true) CI (by rw [p0];kernel_rfl) ?_);rw [jG (by decide)];refine qx (fun _=>?_) (fun Cq=>absurd (by decide +kernel) Cq);refine j7 (oa CI ?_);refine j9 ?_;refine qx (fun _=>?_) (fun Cq=>absurd (by decide +kernel) Cq);refine j7 (vg ?_);refine j7 ?_;show wpAny _ _ (updateSeq L (·.push .none) >>= fun _=>updateSeq L (·.pop)) _ _ _
 have z0:(#[]:Array Value).size<=sizeLine:=C2 _;have z1:((#[]:Array Value).push Value.none).size<=sizeLine:=by show 1<=sizeLine;decide
 have z2:((#[]:Array Value).push Value.none).size<=sizeLine+1:=Xy z1;have z3:(((#[]:Array Value).push Value.none).pop).size<=sizeLine+1:=C2 _;have IG:=kp _ _ hL;refine j7 (pN (s:={ s with heap:=h2 }) IG rfl ?_ z0 z2)
 have q2:=FN (Obj.mapSeq (·.push Value.none)) IG rfl
 refine pN q2 rfl ?_ z1 z3;have q3:=FN (Obj.mapSeq (·.pop)) q2 rfl
 have GG:∀ b o,b≠L->h2.get? b=some o->((h2.update L (Obj.mapSeq (·.push Value.none))).update L (Obj.mapSeq (·.pop))).get? b=some o:=
  fun b o hb e=>(Fn _ _ (BS hb)).trans ((Fn _ _ (BS hb)).trans e)
 refine j9 ⟨pV iz _,sS (W A.in1 hh).toS (en▸hn) _ D2 _ A3.length 0 _ #[] _ rfl (C2 _) ?_ q3 (Xj _) fun s' Ca c' hm C5 Ai=>?_⟩
 ·exact (W A.in1 hh).frame 0 h2 _ Hk fun b hb o e=>GG b o (fun z=>D2 (z▸hb)) e
 ·have hsz:L<s'.heap.objs.size:=B8 C5;refine h s' Ca.toList c' (fun b o hb e=>?_) hsz hm.gens hm.os C5 (by rw [Fm,Ai.1];exact en) fun i v hv=>Ai.2 i v (by rw [<- RD];exact hv);have Bc:b<s.heap.objs.size:=B8 e;refine hm.heap b o ?_ (GG b o hb (kp b o e));simp only [DT,Au,rV,not_or];exact ⟨hb,BK Bc⟩
end
theorem YA {prog:Program}{w:World}:∀ {ks:List Key}{A3:List (Key×Value)}{vs:List Value},A3.map (·.1)=ks->vs.length=A3.length->(∀ (i:Nat) v,vs[i]?=some v->∃ k x,A3[i]?=some (k,x)/\(Bo prog w).is k v=true)->Vals (ks.map kV) vs
 | [],[],[],_,_,_=>.nil
 | [],[],_::_,_,h,_=>by simp at h
 | [],_::_,_,h,_,_=>by simp at h
 | _::_,[],_,h,_,_=>by simp at h
 | _::_,_::_,[],_,h,_=>by simp at h
 | n::ns,kv::A3,v::vs,e,hl,h=>by
  rw [Bs] at e;injection e with e1 e2
  obtain ⟨k,x,ek,hk⟩:=h 0 v rfl;have Va:kv=(k,x):=by simpa using ek
  subst Va;have E6:k=n:=e1;subst E6;refine .cons ?_ (YA e2 (by simpa using hl) fun i v hv=>h (i+1) v hv)
  rcases Fj (show HW k v=true from hk) with ⟨i,t,rfl,rfl⟩ | ⟨y,t,rfl,rfl⟩
  ·exact ⟨t,rfl⟩
  ·exact ⟨t,rfl⟩
section
variable {X:Cx}
def i9:List V->Hp->VK->Prop:=fun xs H Q=>∃ (p:Addr) (A3:List (Key×V)),xs=[.ref p]/\Rd H p (.dK A3)/\A3.length<=1000/\∀ l:Addr,H l=none->Q (.ref l) (upd H l (.lst ((A3.map (·.1)).map kV)))
theorem gG (hc:X.calm=true):CY X (.type "list") i9:=by
 intro pins s σ H xs us Q I r h;obtain ⟨p,A3,rfl,hH,lL,q⟩:=h;obtain ⟨u,rfl,rx⟩:=vals1 r;cases rx;obtain ⟨hz,Ed,FE,rel,hS⟩:=Gp I.AL hH;have hh:X.A.handled=none:=I.ok.hd hc;have AQ:p<s.heap.objs.size:=by obtain ⟨ep,h2⟩:=hS.dictAt;exact h2.lt_size
 have Ak:p≠s.heap.objs.size:=BK AQ;refine callType_codes (Q₁:=fun obj s₁=>obj=.ref s.heap.objs.size/\s₁={ s with heap:=s.heap.push { cls:=.type "list", data:=.seq #[] } }) F.called_list (F.typeCall_list_1 _) F.entry_list_init
  (code_list_new _ ⟨rfl,rfl⟩) fun obj s₁ h₁=>?_
 obtain ⟨rfl,rfl⟩:=h₁;have Dd:(s.heap.push { cls:=.type "list", data:=.seq #[] }).get? s.heap.objs.size=some { cls:=.type "list", data:=.seq #[] }:=BU _ rfl;refine ⟨⟨_,Dd,rfl⟩,F.args_list_init_2 _ _,?_⟩;show wpAny _ X.A.in1.in1 (do let old <- Builtin.List.listItems (.ref s.heap.objs.size);Builtin.List.listUpdate (.ref s.heap.objs.size) (fun _=>#[]);letGo old.toList.reverse;Builtin.List.listExtendWith (.ref s.heap.objs.size) (.ref p) .none) _ _ _
 refine j7 ?_;unfold Builtin.List.listItems;refine j7 (wpAny_seqItems Dd rfl (j9 ?_));show wpAny _ X.A.in1.in1 (updateSeq s.heap.objs.size (fun _=>#[]) >>= fun _=>letGo (#[]:Array Value).toList.reverse >>= fun _=>Builtin.List.listExtendWith (.ref s.heap.objs.size) (.ref p) .none) _ _ _;refine j7 (pN Dd rfl ?_);have NX:=FN (Obj.mapSeq (fun _=>(#[]:Array Value))) Dd rfl;have old:∀ b o,s.heap.get? b=some o->((s.heap.push { cls:=.type "list", data:=.seq #[] }).update s.heap.objs.size (Obj.mapSeq (fun _=>(#[]:Array Value)))).get? b=some o:=fun b o e=>
  (Fn _ _ (KQ (B8 e))).trans (BF _ e)
 have kU:((s.heap.push { cls:=.type "list", data:=.seq #[] }).update s.heap.objs.size (Obj.mapSeq (fun _=>(#[]:Array Value)))).DictOf (Bo X.prog X.w) p FE:=by
  obtain ⟨o,es,ep,ho,rest⟩:=hS;exact ⟨o,es,ep,old _ _ ho,rest⟩
 refine j7 (wpAny_letGo ?_);refine lY (A:=X.A.in1) hh Ed NX kU rfl (by rw [<- rel.length];exact hz) fun s' vs c' a1 a2 a3 a4 a5 a6 a7=>?_;have vv:Vals ((A3.map (·.1)).map kV) vs:=by
  rw [rel.keys];exact YA rfl a6 a7
 refine ⟨rfl,?_⟩;obtain ⟨h1,g1,d1,t1,o1⟩:=s';simp only at a1 a2 a3 a4 a5;subst a3;subst a4;refine ⟨.ref _,_,(I.drew d1).laid (a:=s.heap.objs.size) (h':=h1) (t':=t1) (o:=.lst ((A3.map (·.1)).map kV)) (fun b o e=>a1 b o (BK (B8 e)) (old b o e)) (Ao _) ?_,rfl,q _ (I.AL.fresh (Ao _))⟩
 exact ⟨by rw [Ab,Ab];exact hz,vs,c',vv,a5⟩
def gP:List V->Hp->VK->Prop:=fun xs H Q=>∃ (p:Addr) (A3:List (Key×V)),xs=[.ref p]/\Rd H p (.dK A3)/\Q (.int A3.length) H
theorem xH:CY X (.builtin "len") gP:=by
 intro pins s σ H xs us Q I r h;obtain ⟨p,A3,rfl,hH,q⟩:=h;obtain ⟨u,rfl,rx⟩:=vals1 r;cases rx;exact ZAD I hH fun t s' I'=>⟨.int A3.length,H,I',⟨t,rfl⟩,q⟩
variable {i o:Expr}{ty td:TE}{pos:Pos}
theorem wt (hu:X.A.units+1<cLine)(hi:QE X i ty)(ho:QE X o td)(hm:behindInMarks .In o=false:=by with_unfolding_all rfl):QT X (.Compare i [.In] [o] pos) (tB (WK ty td)):=⟨bo (xF hu hi.h ho.h) hm⟩
theorem yW (hu:X.A.units+1<cLine)(hi:QE X i ty)(ho:QE X o td)(hm:behindInMarks .NotIn o=false:=by with_unfolding_all rfl):QT X (.Compare i [.NotIn] [o] pos) (tB (W4 ty td)):=⟨bo (ou hu hi.h ho.h) hm⟩
end
end L2
namespace Fz
open L2 Lw
theorem XC {F:Hp}:∀ ks:List Key,AM F (ks.map kV) (ks.map Gg)
 | []=>.nil
 | .inl i::ks=>.cons (.int i) (XC ks)
 | .inr x::ks=>.cons (.str x) (XC ks)
section
variable [Xw]
variable {E:Ent0}{ss:List Slot}{σ:L2.St}{F H F' H':Hp}{K:ZE5}{i:Nat}{t:OV}{ta tb tc te:TE}{nx:List Slot->Prop}{R:Aq}
theorem lz {k:PV->Prop}(h:Wl ss i t te fun _ u=>∃ (ks:List Key) (a:Addr) (us:List OV),u=.nd (.Am ks) a us/\k (.int ks.length)):Wp ss (Ck gP (AV te B5)) k:=⟨fun E σ F H Q S q=>
 h.go E σ F H _ S fun v p u F1 H1 m1 r BA AJ=>by
  obtain ⟨ks,a,us,eu,kk⟩:=AJ;subst eu;obtain ⟨vs,rfl,ha,sd,ft,rr⟩:=r.inv;have Gw:ks.length=vs.length:=ft;refine ⟨a,_,rfl,.inl ha,?_⟩;rw [Nv,<- Gw,Y1];exact q _ _ F1 H1 m1 (.int _) kk⟩
theorem fc {k:List PV->Prop}(h:Wl ss i t te fun _ u=>∃ (ks:List Key) (a:Addr) (us:List OV),u=.nd (.Am ks) a us/\ks.length<=1000/\k (ks.map Gg)):Wn ss (Ck i9 (AV te B5)) k:=⟨fun E σ F H Q S q=>
 h.go E σ F H _ S fun v p u F1 H1 m1 r BA AJ=>by
  obtain ⟨ks,a,us,eu,hz,kk⟩:=AJ;subst eu;obtain ⟨vs,rfl,ha,sd,ft,rr⟩:=r.inv;refine ⟨a,_,rfl,.inl ha,by rw [Nv];omega,fun l Dc=>?_⟩;rw [Q4 ft];have m2:=m1.st.make Dc (.lst (ks.map kV));exact q l _ _ F1 _ (m1.trans m2) (m1.st.BH Dc) (m1.none Dc) AE (XC ks) kk⟩
theorem zj {k:List PV->Prop}(h:Wl ss i t te fun _ u=>∃ (ns:List Str) (a:Addr) (us:List OV),u=.nd (.Am (ns.map Sum.inr)) a us/\ns.length<64/\∀ B7:List Str,B7.Perm ns->sortedS B7=true->k (B7.map PV.str)):Wn ss (Ck Ur (AV te B5)) k:=⟨fun E σ F H Q S q=>
 h.go E σ F H _ S fun v p u F1 H1 m1 r BA AJ=>by
  obtain ⟨ns,a,us,eu,hz,kk⟩:=AJ;subst eu;obtain ⟨vs,rfl,ha,sd,ft,rr⟩:=r.inv;refine ⟨a,_,ns,rfl,.inl ha,Q4 ft,hz,fun l B7 Dc hp hs=>?_⟩;have m2:=m1.st.make Dc (.lst (B7.map V.str));exact q l _ _ F1 _ (m1.trans m2) (m1.st.BH Dc) (m1.none Dc) AE (Jb B7) (kk B7 hp hs)⟩
end
end Fz
namespace L2
variable {w:World}{H H2:Hp}{a b it:Addr}{X:Cx}{pins:ZE6}{s s2:Shared}{r x:Value}{A3:List (Key×V)}{A:Around}{E:Value->Shared->Prop}{o:Obj}{ep i tk:Nat}{e tg:Expr}{tn:Nat->Heap->Prop}
section
variable {prog:Program}
variable {z TI TO i1 i2 l1 l2:Addr}{k:Nat}{t1 t2:Bool}{xs ys:Array Value}{y a b:Value}
variable {σ:St}
theorem Inv.swap {a:Addr}{u0 u1:HO}(I:Inv X pins σ H s)(h0:H a=some u0)(no:∀ x,u0≠.own x)(nt:∀ xs,u0≠.tup xs)(n1:∀ o u,X.H₀ a≠some (.CG o u))(n2:∀ xs,X.H₀ a≠some (.tup xs))(n3:∀ ps,X.H₀ a≠some (.HH ps))
  (new:Bm X.prog X.w H s.heap a u1):Inv X pins σ (upd H a u1) s:=by
 have tr:∀ b,b≠a->upd H a u1 b=H b:=fun b hb=>AX hb;have own:∀ b x,H b=some (.own x)->upd H a u1 b=some (.own x):=fun b x e=>by
  rw [tr b (by rintro rfl;rw [h0] at e;exact no x (by injection e))];exact e
 have tup:∀ b xs,H b=some (.tup xs)->upd H a u1 b=some (.tup xs):=fun b xs e=>by
  rw [tr b (by rintro rfl;rw [h0] at e;exact nt xs (by injection e))];exact e
 refine ⟨I.ok,I.os,I.bare,⟨I.base.keep,I.base.slot,fun b o q n hx=>?_,I.base.there,fun b xs q=>?_,fun b o u q=>?_,fun b ps q=>?_⟩,I.loc,I.cell,?_,fun y c q=>?_,fun p hp=>?_,fun b o q=>?_,I.len⟩
 ·have z:=I.base.free b o q n hx;rw [tr b (by rintro rfl;rw [h0] at z;cases z)];exact z
 ·rw [tr b (by rintro rfl;exact n2 xs q)];exact I.base.Gz b xs q
 ·rw [tr b (by rintro rfl;exact n1 o u q)];exact I.base.GC b o u q
 ·rw [tr b (by rintro rfl;exact n3 ps q)];exact I.base.Gd b ps q
 ·have z:=I.free;rw [tr _ (by rintro e;rw [e,h0] at z;cases z)];exact z
 ·have z:=I.GI y c q;rw [tr _ (by rintro rfl;rw [h0] at z;cases z)];exact z
 ·obtain ⟨h1,h2,h3⟩:=I.pin p hp;exact ⟨h1,by rw [tr _ (by rintro e;rw [e,h0] at h2;cases h2)];exact h2,h3⟩
 ·by_cases z:b=a
  ·subst z;rw [AE] at q;cases q;exact new.HG (fun _ _ _ e=>e) (fun c e=>own c _ e) tup
  ·rw [tr b z] at q;exact (I.AL b o q).HG (fun _ _ _ e=>e) (fun c e=>own c _ e) tup
def YY (X:Cx)(a:Addr):Prop:=(∀ o u,X.H₀ a≠some (.CG o u))/\(∀ xs,X.H₀ a≠some (.tup xs))/\∀ ps,X.H₀ a≠some (.HH ps)
theorem Inv.ZF {a:Addr}(I:Inv X pins σ H s)(h0:H a=some (.dK A3)):YY X a:=by
 refine ⟨fun o u e=>?_,fun xs e=>?_,fun ps e=>?_⟩
 ·have:=I.base.GC a o u e;rw [h0] at this;cases this
 ·have:=I.base.Gz a xs e;rw [h0] at this;cases this
 ·obtain ⟨m,z⟩:=I.base.Gd a ps e;rw [h0] at z;cases z
theorem Inv.held {a:Addr}(I:Inv X pins σ H s)(h0:H a=some (.dK A3)):∃ o es ep,s.heap.get? a=some o/\o.data=.dict es ep/\Inv X pins σ (upd H a (.CG o (.dK A3))) s:=by
 obtain ⟨z,y,vs,r,ob,es,ep,e,c,d,rest⟩:=I.AL a _ h0;have m:=I.ZF h0;exact ⟨ob,es,ep,e,d,I.swap h0 (fun _ z=>by cases z) (fun _ z=>by cases z) m.1 m.2.1 m.2.2 ⟨e,z,y,vs,r,ob,es,ep,e,c,d,rest⟩⟩
theorem Inv.y9 {a:Addr}{u:HO}(I:Inv X pins σ H s)(m:YY X a)(h0:H a=some (.CG o u)):Inv X pins σ (upd H a u) s:=
 I.swap h0 (fun _ z=>by cases z) (fun _ z=>by cases z) m.1 m.2.1 m.2.2 (I.AL a _ h0).2
end
def cZ (a:Addr)(o:Obj)(A3:List (Key×V)):It:=⟨fun i H=>H a=some (.CG o (.dK A3))/\i<A3.length,fun i H x H'=>H'=H/\∃ k v,A3[i]?=some (k,v)/\x=kV k,fun i H=>H a=some (.CG o (.dK A3))/\i=A3.length⟩
theorem KV.at {vs:List (Key×Value)}(r:KV A3 vs){k:Key}(h:vs[i]?=some (k,x)):∃ v,A3[i]?=some (k,v):=by
 have e:=r.keys;have h1:(vs.map (·.1))[i]?=some k:=by rw [Ax,h];rfl
 rw [<- e,Ax] at h1;cases q:A3[i]? with
 | none=>rw [q] at h1;cases h1
 | some p=>
  rw [q] at h1;obtain ⟨k',v⟩:=p;have:k'=k:=by simpa using h1
  subst this;exact ⟨v,rfl⟩
theorem ZBc {P:Program}{K:ZE5}{es:Array DictEntry}(hd:o.data=.dict es ep)(Ak:a≠it):
  Turn P w K tg (cZ a o A3) [it] it (fun i h=>h.IsKeyIter it a i A3.length ep) where
 mem:=by simp
 obj:=fun i h st b hb=>by
  have e:b=it:=by simpa using hb
  subst e;obtain ⟨o,e,c,d⟩:=st;exact ⟨o,e,fun v z=>by rw [d] at z;cases z⟩
 keep:=fun i h h' st k=>let ⟨o,e,r⟩:=st;⟨o,k it (by simp) o e,r⟩
 item:=by
  intro X hP hw hK hc i pins s σ H E I hf st hg;subst hP hw hK;obtain ⟨f0,f1,f2,f3,f4,f5⟩:=hf it (by simp);obtain ⟨e0,hz,Ed,vs,rel,ob,DR,Gv,e1,c1,d1,rest⟩:=I.AL a _ hg.1;rw [e0] at e1;cases e1;rw [hd] at d1;cases d1;have hl:=rel.length;refine (Y7 (knd:=Bo X.prog X.w) (I.ok.hd hc) it a Ak vs ep).item i s _ _ (by rw [<- hl];exact hg.2) ⟨by rw [<- hl];exact st,o,es,e0,c1,hd,rest⟩ fun v h' tk ⟨k,x,hk,W5⟩ Cg kp=>?_;obtain ⟨v0,pX⟩:=rel.at hk;have I1:Inv X pins σ H { s with heap:=h',toks:=tk }:=I.turned (t':=tk) (fun b o hb e=>kp b o (by simpa using hb) e) f0 f1 f3 f4 f5
  obtain ⟨o',e',cl,d⟩:=id Cg.1;have rk:RelV (kV k) v:=by
   rcases Fj (show HW k v=true from W5) with ⟨i,t,rfl,rfl⟩ | ⟨y,t,rfl,rfl⟩
   ·exact ⟨t,rfl⟩
   ·exact ⟨t,rfl⟩
  exact ⟨_,rfl,NR (s:={ s with heap:=h',toks:=tk }) e' cl d (by decide) ⟨kV k,H,I1,rk,⟨rfl,k,v0,pX,rfl⟩,by rw [hl];exact Cg.1,fun b hb=>(hf b hb).1⟩⟩
 done:=by
  intro X hP hw hK hc i pins s σ H E I hf st hg;subst hP hw hK;obtain ⟨f0,f1,f2,f3,f4,f5⟩:=hf it (by simp);obtain ⟨e0,hz,Ed,vs,rel,ob,DR,Gv,e1,c1,d1,rest⟩:=I.AL a _ hg.1;rw [e0] at e1;cases e1;rw [hd] at d1;cases d1;have hl:=rel.length;have hi:i=A3.length:=hg.2;subst hi;exact (Y7 (knd:=Bo X.prog X.w) (I.ok.hd hc) it a Ak vs ep).done s _ _ ⟨by rw [<- hl];exact st,o,es,e0,c1,hd,rest⟩ fun h' tk kp=>⟨rfl,I.turned (t':=tk) (fun b o hb e=>kp b o (by simpa using hb) e) f0 f1 f3 f4 f5⟩
 self:=fun A i s Q E st h=>wpAny_pyIter_keyiter st h
def Rf (tl:TE):TI:=fun σ H R=>tl σ H fun x H1=>∃ a A3,x=.ref a/\H1 a=some (.dK A3)/\∀ o,R (cZ a o A3) (upd H1 a (.CG o (.dK A3)))
def Xf (t:TE):TE:=fun σ H Q=>∃ a A3,H a=some (.dK A3)/\t σ H fun v H1=>∃ o u,H1 a=some (.CG o u)/\Q v (upd H1 a u)
section
variable {l:Expr}{tl t:TE}{st:Stmt}{ts:TS}
theorem ZAk (h:QE X l tl):QI X tg l (Rf tl):=⟨by
 have hl:=h.h;intro pins s σ H R I h;refine AO (hl pins s σ H _ I h) fun v s1 ⟨x,H1,I1,r1,q1⟩=>?_;obtain ⟨a,A3,e,hq,q⟩:=q1;subst e;cases r1;obtain ⟨z,Ed,vs,rel,hS⟩:=Gp I1.AL (.inl hq);obtain ⟨o,es,ep,e0,hd,I2⟩:=I1.held hq;have AQ:a<s1.heap.objs.size:=B8 e0;have NX:s1.heap.DictAt (Bo X.prog X.w) a vs ep:=by
  obtain ⟨ob,DR,Gv,e1,c1,d1,rest⟩:=hS;rw [e0] at e1;cases e1;rw [hd] at d1;cases d1;exact ⟨o,es,e0,c1,hd,rest⟩
 have fin:∀ b∈[s1.heap.objs.size],Ds X pins (upd H1 a (.CG o (.dK A3))) b:=fun b hb=>by
  have e:b=s1.heap.objs.size:=by simpa using hb
  subst e;exact I2.Kt (Ao _) (I2.AL.fresh (Ao _))
 refine yt Ed NX ?_;exact ⟨s1.heap.objs.size,[s1.heap.objs.size],_,_,_,rfl,I2.kept (t':=s1.toks) fun b o e=>BF _ e,ZBc hd (BK AQ),⟨_,BU _ rfl,rfl,by rw [rel.length];rfl⟩,fin,q o⟩⟩
theorem yX (h:QE X e t):QE X e (Xf t):=⟨by
 have h:=h.h;intro pins s σ H Q I ⟨a,A3,h0,q⟩;have m:=I.ZF h0;refine AO (h pins s σ H _ I q) fun v s' ⟨x,H',I',r,o,u,e,q'⟩=>?_;exact ⟨x,_,I'.y9 m e,r,q'⟩⟩
end
end L2
namespace Fz
open L2 Lw
theorem eL {F H:Hp}:∀ {vs:List V}{xs:List PV},An F H vs (xs.map .fz)->AM F vs xs
 | _,[],h=>by cases h;exact .nil
 | _,x::xs,h=>by
  obtain ⟨_,_,rfl,a,b⟩:=h.inv;cases a with | fz r=>exact .cons r (eL b)
theorem Vx:∀ {ks:List Key}{vs:List V}{n:Nat}{k:Key}{v:V},ks.Nodup->ks[n]?=some k->vs[n]?=some v->D7 (ks.zip vs) k=some v
 | [],_,_,_,_,_,h,_=>by simp at h
 | _::_,[],_,_,_,_,_,h=>by simp at h
 | k0::ks,v0::vs,0,k,v,_,h1,h2=>by
  have e1:k0=k:=by simpa using h1
  have e2:v0=v:=by simpa using h2
  subst e1 e2;rw [FO];exact LV rfl
 | k0::ks,v0::vs,n+1,k,v,nd,h1,h2=>by
  rw [FO,L9]
  ·exact Vx (List.nodup_cons.mp nd).2 (by simpa using h1) (by simpa using h2)
  ·rintro rfl;exact (List.nodup_cons.mp nd).1 (DK (by simpa using h1))
theorem Z6:∀ {ks:List Key}{vs:List V}{n:Nat}{k:Key}{v:V},(ks.zip vs)[n]?=some (k,v)->ks[n]?=some k/\vs[n]?=some v
 | [],_,_,_,_,h=>by simp at h
 | _::_,[],_,_,_,h=>by simp at h
 | k0::ks,v0::vs,0,k,v,h=>by
  rw [FO] at h;have:(k0,v0)=(k,v):=by simpa using h
  cases this;exact ⟨rfl,rfl⟩
 | k0::ks,v0::vs,n+1,k,v,h=>by
  rw [FO] at h;have:=Z6 (ks:=ks) (vs:=vs) (n:=n) (k:=k) (v:=v) (by simpa using h)
  exact ⟨by simpa using this.1,by simpa using this.2⟩
end Fz
namespace L2
variable {values vs:List Expr}{ER:List (TE×TE)}
section
variable {X:Cx}{pos:Pos}
theorem vX:Iv X pos [] [] []:=ZAo
theorem UT {k v:Expr}{ks:List (Option Expr)}{tk tv:TE}(hk:QE X k tk)(hv:QE X v tv)(hr:Iv X pos ks vs ER):Iv X pos (some k::ks) (v::vs) ((tk,tv)::ER):=m8 hk.h hv.h hr
theorem ZC1 {keys:List (Option Expr)}(h:Iv X pos keys values ER)(Ie:keys.all (·.isSome)=true)(hl:keys.length=values.length)(h0:keys≠[])(OL:keys.length<=15):QE X (.Dict keys values pos) (V7 ER):=⟨by
 intro pins s σ H Q I q;have hn:=I.AL.fresh (Ao s.heap.objs.size);have I1:=I.laid (a:=s.heap.objs.size) (o:=.dK []) (h':=s.heap.push { cls:=.type "dict", data:=.dict #[] }) (t':=s.toks) (fun _ _ q=>BF _ q) (Ao _) (fu s.heap I.big);refine wpAny_Dict_walk (knd:=Bo X.prog X.w) Ie hl h0 OL (AO (h pins _ σ _ _ I1 (q _ hn)) fun ws s2 ⟨ps,H2,I2,rel,e,A3,ep,lk,q2⟩=>?_);subst ep;obtain ⟨rs,c,rk⟩:=ZX (P:=X.prog) (w:=X.w) rel;obtain ⟨z,hd,FE,r0,dd⟩:=Sz I2.AL e;cases r0;refine ⟨rs,c,dd,fun h' Gq hs=>⟨.ref s.heap.objs.size,_,?_,rfl,q2⟩⟩;have hz:(Ik [] A3).length<=sizeLine:=by
  have h1:=d7 A3 [];rw [Xr] at h1;rw [ZA4];omega
 have he:∃ q,h'.get? s.heap.objs.size=some q:=let ⟨q,_,_,hq,_⟩:=Gq;⟨q,hq⟩;exact O6 I2 (by rw [e];exact True.intro) hs he (Ue hz hd (rk.merge .nil) Gq)⟩
end
theorem gJ:∀ (more acc:List (Key×V)),((acc++more).map (·.1)).Nodup->Ik acc more=acc++more
 | [],acc,_=>by rw [EW];rfl
 | p::r,acc,h=>by
  show Ik (putK acc p.1 p.2) r=_;have hp:acc.any (fun kv=>decide (kv.1=p.1))=false:=by
   rw [ZCg];intro q hq e;have e':=jw e;rw [Dh,Bs,CK] at h;exact h.2.2 q.1 (List.mem_map.mpr ⟨q,hq,rfl⟩) p.1 Cu e'
  have e:putK acc p.1 p.2=acc++[p]:=by
   unfold putK;rw [hp];rfl
  rw [e,gJ r (acc++[p]) (by rw [C8];exact h),C8];rfl
end L2
namespace Fz
open L2 Lw
variable {ss:List Slot}{E:Ent0}{σ:L2.St}{F H:Hp}{C a p:Addr}{ta:TA}{Q:VK}{i n:Nat}{t w x y z:OV}{pre:Pre}
section
variable [Xw]
theorem mY {F1 H1:Hp}{o:HO}(S:Sg E ss σ F H)(m:Mv E ss σ F H F1 H1)(hp:H p=none)(hf:F1 p=none):Mv E ss σ F H F1 (upd H1 p o):=
 S.step m.ff (fun a u e=>by rw [AX (by rintro rfl;rw [hf] at e;cases e)];exact m.st.fh a u e)
  (fun a u n e=>by rw [AX (by rintro rfl;rw [hp] at e;cases e)];exact m.hh a u n e) m.nn
  fun i l hi e=>BR.keep (m.st.EA hi e) fun u e2=>by
   rw [AX (by
    rintro rfl;obtain ⟨_,_,e3,_⟩:=S.EA hi e;rw [hp] at e3;cases e3)]
   exact e2
theorem zI {k:List Nat->OV->Prop}{E:Ent}(ks:List Str)(hk:ks.Nodup)(OL:ks.length<=15)(S:Sg E ss σ F H)(hp:H p=none)
  (h:Jo ss ta fun m us=>us.length=ks.length/\∀ l,k m (.nd (.Am (ks.map Sum.inr)) l us))
  (q:∀ v m u F' H',Mv E ss σ F H F' H'->Aj F' H' v u->u.addrs.Nodup->(∀ a∈u.addrs,F' a=none/\E.H0 a=none/\((∃ i∈m,∃ s,s≠Slot.AD/\ss[i]?=some s/\B9 s σ[i]? a)∨H a=none))->k m u->Q v H') :
  ta σ (upd H p (.dK [])) fun vs H2=>H2 p=some (.dK [])/\∃ A3:List (Key×V),List.zipWith (fun s v=>(V.str s,v)) ks vs=A3.map (fun kv=>(kV kv.1,kv.2))/\A3.length<=15/\Q (.ref p) (upd H2 p (.dK (Ik [] A3))):=by
 have m0:=S.make hp (.dK []);have ki:F p=none:=S.BH hp;refine h.go E σ F _ _ m0.st fun vs m us F1 H1 m1 r1 FJ a1 ⟨hl,kk⟩=>?_;have R3:H1 p=some (.dK []):=m1.hh p _ (S.J2 hp) AE;have cR:F1 p=none:=by
  cases e:F1 p with
  | none=>rfl
  | some o=>
   rcases m1.nn p o e with z | z
   ·rw [ki] at z;cases z
   ·rw [AE] at z;cases z
 have lv:vs.length=ks.length:=by rw [r1.length,hl]
 have ez:List.zipWith (fun s v=>(V.str s,v)) ks vs=((ks.map Sum.inr).zip vs:List (Key×V)).map (fun kv=>(kV kv.1,kv.2)):=by
  rw [List.zip_eq_zipWith,List.zipWith_map_left,List.map_zipWith];rfl
 refine ⟨R3,(ks.map Sum.inr).zip vs,ez,by rw [Nv,Ab];omega,?_⟩;have nk:((ks.map Sum.inr:List Key)).Nodup:=ZCe _ (fun a b (h:a≠b)=>fun z=>h (by injection z)) hk;rw [gJ _ [] (by rw [Xt,List.map_fst_zip (by rw [Ab];omega)];exact nk),Xt];have mv:=mY (o:=.dK ((ks.map Sum.inr).zip vs)) S (m0.trans m1) hp cR;have GW:p∉OV.AZ us:=fun ha=>by
  rcases (a1 p ha).2.2 with ⟨i,_,s,_,hs,ow⟩ | z
  ·exact S.DL hs ow hp
  ·rw [AE] at z;cases z
 refine q _ m (.nd (.Am (ks.map Sum.inr)) p us) F1 _ mv (.nd (k:=.Am (ks.map Sum.inr)) (vs:=vs) AE trivial (show (List.map Sum.inr ks:List Key).length=vs.length by rw [Ab];exact lv.symm) (r1.mono (A7.refl _) fun a ha o e=>by rw [AX (by rintro rfl;exact GW ha)];exact e)) ?_ (fun a ha=>?_) (kk p)
 ·rw [OV.Ct];exact List.nodup_cons.mpr ⟨GW,FJ⟩
 ·rw [OV.Ct] at ha;rcases List.mem_cons.mp ha with e | ha
  ·subst e;exact ⟨cR,S.D6 hp,.inr hp⟩
  ·obtain ⟨f,h0,w⟩:=a1 a ha;exact ⟨f,h0,w.imp id fun z=>by
    by_cases c:a=p
    ·subst c;exact hp
    ·rw [AX c] at z;exact z⟩
theorem ZBd {k:List Nat->OV->Prop}{k1 k2 k3:Str}{t1 t2 t3:TE}(hk:[k1,k2,k3].Nodup)(h:Jo ss (AV t1 (AV t2 (AV t3 B5))) fun m us=>us.length=3/\∀ l,k m (.nd (.Am [.inr k1,.inr k2,.inr k3]) l us)):Wx ss (V7 [(tC (.str k1),t1),(tC (.str k2),t2),(tC (.str k3),t3)]) k:=⟨fun E σ F H Q S q p hp=>
 zI (ta:=AV t1 (AV t2 (AV t3 B5))) [k1,k2,k3] hk (by show (_:Nat)+1<=15;simp) S hp h q⟩
variable {te:TE}
theorem gL {m:Str}{k:PV->Prop}(h:Wl ss i t te fun _ u=>∃ dx ns a us,u=.nd (.obj C dx ns) a us/\Ce ns m=none/\Wb ss ta fun ps=>∃ k',pre ((u.pv::ps).map .is) (.is k')/\∀ p,k' p->ES p=true/\k p):Wp ss (Hz C m (BW pre) [] E0 te ta) k:=⟨fun E σ F H Q S q=>
 h.go E σ F H _ S fun v p u F1 H1 m1 r1 BA ⟨dx,ns,a,us,eu,hm,h2⟩=>by
  subst eu;have Ff:=r1;cases Ff with
  | @nd _ _ vs _ ha sd ft rr=>
   refine ⟨a,dx,ns.zip vs,rfl,ha,M0 hm,h2.go E σ F1 H1 _ m1.st fun vs ps F2 H2 m2 r2 ⟨k',hp,kk⟩=>?_⟩;rw [EW];have r3:=r1.mv m1.st h.hi BA m2;have K4:AM (BQ F2 H2 (BX ss σ)) (V.ref a::vs) (_::ps):=.cons (r3.rep m2.st.G0.1 fun a ha o ho=>by
    unfold BQ;obtain ⟨lt,hi⟩:=h.hi;rw [jd (OZ m2.st.len hi (by simp) (OV.Ih BA a ha))];exact ho) r2
   refine ⟨_,.is k',_,[],hp,m2.st.lend K4,fun v F' H' f ⟨p,r,kp⟩=>?_⟩;obtain ⟨mv,nt⟩:=m2.st.Vm f;exact q v p _ H' (m1.trans (m2.trans mv)) (r.sub nt (kk p kp).1) (kk p kp).2⟩
end
theorem Qy {k:NK}:(OV.nd k a [x,y,z]).put [1] w=.nd k a [x,w,z]:=by rw [OV.Gx (x:=y) rfl,OV.EE];rfl
theorem put2 {k:NK}:(OV.nd k a [x,y,z]).put [2] w=.nd k a [x,y,w]:=by rw [OV.Gx (x:=z) rfl,OV.EE];rfl
theorem Q0 {N:List Str}{vs:List V}{X:XK}{t:TS}(h:CL pre vs H Q X)(hl:∀ ss R,pre ss R->ss.length=n)
  (hw:∀ ss R,pre ss R->Ws (ss++List.replicate (N.length - n) .any) t (Tv R) R):t { nx:=fun _ H'=>Q .AB H',rt:=Q } (L2.start N vs) H:=by
 obtain ⟨ss,R,F,A,B,hp,S,q⟩:=h;have e:vs.length=n:=by have:=S.len;rw [Ab] at this;rw [<- this];exact hl ss R hp
 unfold L2.start;rw [e];exact (hw ss R hp).go (Pt ⟨A,F,H,B⟩) _ _ F H (S.grown _) (fun AK σ' F' H' z S' _=>q .AB F' H' S'.toFin (z.ok S')) fun v F' H' f ok=>q v F' H' f ok
end Fz
namespace Fz
open L2 Lw
variable {ss:List Slot}
section
variable [Xw]
variable {K:ZE5}{ta tb tc te ti t1 t2:TE}{u1 u2:TT}{nx:List Slot->Prop}{R:Aq}{xs ps:List PV}{i j:Nat}{t:OV}{lt:Bool}{a:Addr}{js:List Nat}
structure gk (ss:List Slot) (g:TG) (u:OV) (k:List Slot->Prop):Prop where
 go:∀ (E:Ent) (σ:L2.St) (F H:Hp) (v:V) (Q:L2.St->Hp->Prop),Sg E ss σ F H->Aj F H v u->(∀ AK σ',k AK->Sg E AK σ' F H->Q σ' H)->g v σ H Q
end
def Mj:Slot->Slot
 | .own xs=>.is (.lst xs)
 | .ow _ t=>.is t.pv
 | .AD=>.any
 | s=>s
section
variable {E:Ent0}{σ:L2.St}{F H F' H':Hp}
theorem Sg.hJ (S:Sg E ss σ F H):Sg (E3 [] (BQ F H (BX ss σ)) H) (ss.map Mj) σ (BQ F H (BX ss σ)) H:=by
 have nn:∀ {p:Prop}(a:Addr),a∈([]:List Addr)->p:=fun a h=>absurd h Au;refine ⟨⟨S.G0.2,A7.refl _,fun _ _ _ e=>e,fun _ _ e=>.inl e,fun a h=>nn a h,fun a h=>nn a h,fun a h=>nn a h,fun a h=>nn a h,fun a h=>nn a h,fun a h=>nn a h⟩,by rw [Ab,S.len],fun i s hi=>?_,fun i j s u l Br hi hj ms mu=>?_⟩
 ·rw [Ax] at hi;cases e:ss[i]? with
  | none=>rw [e] at hi;cases hi
  | some s0=>
   rw [e] at hi;have es:Mj s0=s:=BO hi;subst es;have k:=S.ok i s0 e;cases s0 with
   | any=>trivial
   | is p=>obtain ⟨v,e1,r⟩:=k;exact ⟨v,e1,r.mono S.G0.1⟩
   | own xs=>
    obtain ⟨l,vs,e1,_,_,e3,r⟩:=k;refine ⟨_,e1,.lst ?_ (r.mono S.G0.1)⟩;unfold BQ;rw [jd (OZ S.len e (by simp) e1)];exact e3
   | AD=>trivial
   | sq tp xs=>
    cases tp with
    | true=>obtain ⟨v,e1,r⟩:=k;exact ⟨v,e1,r.mono S.G0.1⟩
    | false=>
     obtain ⟨l,vs,e1,hA,e2,r⟩:=k;exact ⟨l,vs,e1,⟨Au,Au⟩,S.keep l _ hA e2,r.mono S.G0.1⟩
   | raw P=>obtain ⟨v,e1,hp,hm⟩:=k;exact ⟨v,e1,hm _ _ S.G0.1 hp,hm⟩
   | ow lt t=>
    obtain ⟨v,e1,r,_,_⟩:=k;refine ⟨v,e1,r.rep S.G0.1 fun a ha o ho=>?_⟩;unfold BQ;rw [jd (OZ S.len e (by simp) ha)];exact ho
 ·rw [Ax] at hi;cases e:ss[i]? with
  | none=>rw [e] at hi;cases hi
  | some s0=>
   rw [e] at hi;have es:Mj s0=s:=BO hi;subst es;cases s0 <;> cases ms
variable {te:TE}{c:TT}
def aY (E:Ent0)(F H:Hp)(as:List Addr):@Ent OK:=@Ent.mk OK (E3 [] (BQ F H as) H) fun _ _ _ _ _ _ _ _ _ d _=>d.elim
theorem gT {k:Bool->Prop}(h:Wt (ss.map Mj) c k):Wt ss c k:=⟨fun E σ F H Q S q=>by
 refine h.go (aY E F H (BX ss σ)) σ _ H Q S.hJ fun b F' H' m kk=>?_;exact q b _ H' (S.Vm m.st.toFin).1 kk⟩
theorem bz {k:List PV->Prop}(h:Wn (ss.map Mj) te fun ys=>FQ ys=true/\k ys):Wn ss te k:=⟨fun E σ F H Q S q=>by
 refine h.go (aY E F H (BX ss σ)) σ _ H Q S.hJ fun l2 V2 ys F' H' m f2 h2 DM rp ⟨hn,kk⟩=>?_;obtain ⟨M,ht⟩:=S.Vm m.st.toFin;exact q l2 V2 ys _ H' M (by unfold GS;split <;> first | rfl | exact f2) h2 DM (rp.sub ht hn) kk⟩
end
end Fz
namespace L2
section
variable {X:Cx}
variable {pins:ZE6}{elt iter:Expr}{ifs es:List Expr}{zs:List Str}{tp pos:Pos}{tk:Nat}{scope:Scope}{Af:List Str}{js:List Nat}{tt:TT}{te:TE}
variable {σ:St}{H2:Hp}{s2:Shared}{x:Str}{px:Pos}{J:It}{fp:List Addr}{it:Addr}
 {tn:Nat->Heap->Prop}
end
end L2
namespace L2
section
variable {X:Cx}
def cH (K:ZE5)(t:TA):TE:=fun σ H Q=>t σ H fun vs H1=>∃ a tp ys,vs=[.ref a]/\CN K tp H1 a ys/\tp=false/\∀ l,H1 l=none->Q (.ref l) (upd H1 l (.lst ys.reverse))
theorem gb {p1 p2 Ru HQ:Pos}{e:Expr}{t:TA}(hc:X.calm=true)(VN:Gl X "list")(NF:X.mg "list"=none)(XN:Gl X "reversed")(Uj:X.mg "reversed"=none)(ha:QA X [e] t)
  (he:starEach [e] X.env=[(false,eval e X.env)]:=by rfl) (LY:starEach [.Call (.Name "reversed" p2) [e] [] HQ] X.env=[(false,eval (.Call (.Name "reversed" p2) [e] [] HQ) X.env)]:=by rfl) :
  QE X (.Call (.Name "list" p1) [.Call (.Name "reversed" p2) [e] [] HQ] [] Ru) (cH X.K t):=⟨by
 have ha:=ha.h;intro pins s σ H Q I h;refine oZ (IU I VN NF (show bootBuiltins "list"=some (.type "list") by decide +kernel) ?_ (by decide) (by decide));refine Ny ?_ LY rfl;rw [LY];show wpAny _ _ (spliced ((false,eval (.Call (.Name "reversed" p2) [e] [] HQ) X.env)::[])) _ _ s;refine iN ?_;refine oZ (IU I XN Uj (show bootBuiltins "reversed"=some (.type "reversed") by decide +kernel) ?_ (by decide) (by decide));refine Ny (AO (ha HQ pins s σ H _ I h) fun us s1 ⟨vs,H1,I1,r1,q1⟩=>?_) he rfl;obtain ⟨a,tp,ys,rfl,hq,rfl,q⟩:=q1;obtain ⟨u,rfl,rx⟩:=vals1 r1;cases rx;have fin:∀ (A4:List Value) (D:Addr) (s2 s':Shared) (acc:Array Value) (c:Nat) (tk:Nat) (ob:Obj),Vals ys A4->ys.length<=sizeLine->D=s1.heap.objs.size->s2={ s1 with heap:=s1.heap.push ob,toks:=tk }->
   Moved [s2.heap.objs.size,D] (fun a b=>b=a) { s2 with heap:=s2.heap.push { cls:=.type "list", data:=.seq #[] } } s'->s'.heap.get? s2.heap.objs.size=some { cls:=.type "list", dict:=none,data:=.seq acc c,slots:=#[] }->
   ItemsOf (fun i v=>A4.toArray[A4.toArray.size - 1 - i]?=some v) acc A4.toArray.size->EP X pins σ Q (.ref s2.heap.objs.size) s':=by
  intro A4 D s2 s' acc c tk ob r hz eD e2 hm hS Ai;subst eD;subst e2;obtain ⟨us,rv,rfl⟩:=ql r Ai;obtain ⟨h',g',d',SM,Nl⟩:=s';have eg:g'=s1.gens:=hm.gens;have ed:d'=s1.drawn:=hm.drawn;have eo:Nl=s1.os:=hm.os;subst eg;subst ed;subst eo;have hsz:(s1.heap.push ob).objs.size=s1.heap.objs.size+1:=Dy ..;have kp:∀ b o,s1.heap.get? b=some o->h'.get? b=some o:=fun b o e=>by
   have hb:=B8 e;refine hm.heap b o ?_ (BF _ (BF _ e));show b∉[(s1.heap.push ob).objs.size,s1.heap.objs.size];rw [hsz];simp only [DT,Au,rV,not_or];exact ⟨BK (HE hb),BK hb⟩
  refine ⟨.ref _,_,I1.laid (a:=(s1.heap.push ob).objs.size) (t':=SM) kp (by rw [hsz];exact EC _) (show Bm X.prog X.w _ h' _ (.lst ys.reverse) from ⟨by rw [Nu];exact hz,us,c,rv,hS⟩),rfl,q _ (I1.AL.fresh (by show _<=_;rw [hsz];exact EC _))⟩
 have hh:X.A.handled=none:=I1.ok.hd hc;obtain ⟨A4,r,pl,hz⟩:=I1.list hq;have hlen:=r.length;refine call_reversed_list pl.isList ?_;refine iO ?_;obtain ⟨o,n,ho,_⟩:=id pl;have AQ:=B8 ho;have Ak:a≠s1.heap.objs.size:=BK AQ;have CH:0<=A4.toArray.size/\Heap.IsRevIter (s1.heap.push (revObj a ((A4.toArray.size:Int) - 1))) s1.heap.objs.size a ((A4.toArray.size:Int) - 1 - ((0:Nat):Int))/\Heap.IsList (s1.heap.push (revObj a ((A4.toArray.size:Int) - 1))) a A4.toArray:=
  ⟨C2 _,⟨_,BU _ rfl,rfl,by simp [revObj]⟩,pl.isList.push _⟩
 refine va (I:=s1.heap.objs.size) (s:={ s1 with heap:=s1.heap.push (revObj a ((A4.toArray.size:Int) - 1)) }) (Walks.listRev (prog:=X.prog) (w:=X.w) (A:=X.A.in1.in1) hh s1.heap.objs.size a Ak A4.toArray).toS (fun i s st=>st.2.1.typeIs) CH ?_ (by simp) ?_ (by simp;omega)
 ·intro b hb;show b<(s1.heap.push _).objs.size;rw [Dy];rcases List.mem_cons.mp hb with h | h
  ·rw [h];exact KP _
  ·have:b=a:=by simpa using h
   rw [this];exact HE AQ
 ·intro s' acc c hm hS Ai;exact fin A4 s1.heap.objs.size { s1 with heap:=s1.heap.push (revObj a ((A4.toArray.size:Int) - 1)) } s' acc c s1.toks (revObj a ((A4.toArray.size:Int) - 1)) r hz rfl rfl hm hS Ai⟩
end
end L2
namespace Fz
open L2 Lw
variable {l ss:List Slot}{te:TE}{F H:Hp}{v2 vp:V}{T t t1 t2 u1 u2:OV}{b c d l1 l2:Bool}{vs:List V}{E:Ent0}{σ:L2.St}{A:List Addr}{a a1 a2:Addr}{i j n:Nat}{k1 k2:NK}{Ar BD:List OV}{mp:PV}{p:List Nat}{s:Slot}{pre:Pre}{kk:PV->OV->OV->Prop}{x:TT}
inductive EI (F:Hp) (vp v1 v2:V) (t1 t2:OV):Bool->Bool->Bool->List V->List Slot->Prop where
 | nil:EI F vp v1 v2 t1 t2 false false false [] []
 | is {b c d:Bool}{v:V}{p:PV}{vs:List V}{l:List Slot}:Rep F v p->EI F vp v1 v2 t1 t2 b c d vs l->EI F vp v1 v2 t1 t2 b c d (v::vs) (.is p::l)
 | AD {c d:Bool}{vs:List V}{l:List Slot}:EI F vp v1 v2 t1 t2 false c d vs l->EI F vp v1 v2 t1 t2 true c d (vp::vs) (.AD::l)
 | one {b d:Bool}{vs:List V}{l:List Slot}:EI F vp v1 v2 t1 t2 b false d vs l->EI F vp v1 v2 t1 t2 b true d (v1::vs) (.ow true t1::l)
 | two {b c:Bool}{vs:List V}{l:List Slot}:EI F vp v1 v2 t1 t2 b c false vs l->EI F vp v1 v2 t1 t2 b c true (v2::vs) (.ow true t2::l)
section
variable {F':Hp}{v1:V}
theorem EI.len (h:EI F vp v1 v2 t1 t2 b c d vs l):l.length=vs.length:=by
 induction h with
 | nil=>rfl
 | is _ _ ih=>rw [BN,BN,ih]
 | AD _ ih=>rw [BN,BN,ih]
 | one _ ih=>rw [BN,BN,ih]
 | two _ ih=>rw [BN,BN,ih]
theorem EI.at (h:EI F vp v1 v2 t1 t2 b c d vs l):∃ (n0 n1 n2:Nat),∀ (n:Nat) (s:Slot),l[n]?=some s->
  (∃ v p,vs[n]?=some v/\s=.is p/\Rep F v p)∨(b=true/\n=n0/\s=.AD/\vs[n]?=some vp)∨(c=true/\n=n1/\s=.ow true t1/\vs[n]?=some v1)∨(d=true/\n=n2/\s=.ow true t2/\vs[n]?=some v2):=by
 induction h with
 | nil=>exact ⟨0,0,0,fun n s h=>by simp at h⟩
 | is r _ ih=>
  obtain ⟨n0,n1,n2,ih⟩:=ih;refine ⟨n0+1,n1+1,n2+1,fun n s h=>?_⟩;cases n with
  | zero=>simp at h;subst h;exact .inl ⟨_,_,rfl,rfl,r⟩
  | succ n=>
   rcases ih n s (by simpa using h) with ⟨v,p,q⟩ | ⟨q0,q,q2,q3⟩ | ⟨q0,q,q2,q3⟩ | ⟨q0,q,q2,q3⟩
   ·exact .inl ⟨v,p,by simpa using q⟩
   ·exact .inr (.inl ⟨q0,by rw [q],q2,by simpa using q3⟩)
   ·exact .inr (.inr (.inl ⟨q0,by rw [q],q2,by simpa using q3⟩))
   ·exact .inr (.inr (.inr ⟨q0,by rw [q],q2,by simpa using q3⟩))
 | AD _ ih=>
  obtain ⟨n0,n1,n2,ih⟩:=ih;refine ⟨0,n1+1,n2+1,fun n s h=>?_⟩;cases n with
  | zero=>simp at h;subst h;exact .inr (.inl ⟨rfl,rfl,rfl,rfl⟩)
  | succ n=>
   rcases ih n s (by simpa using h) with ⟨v,p,q⟩ | ⟨q0,q,q2,q3⟩ | ⟨q0,q,q2,q3⟩ | ⟨q0,q,q2,q3⟩
   ·exact .inl ⟨v,p,by simpa using q⟩
   ·cases q0
   ·exact .inr (.inr (.inl ⟨q0,by rw [q],q2,by simpa using q3⟩))
   ·exact .inr (.inr (.inr ⟨q0,by rw [q],q2,by simpa using q3⟩))
 | one _ ih=>
  obtain ⟨n0,n1,n2,ih⟩:=ih;refine ⟨n0+1,0,n2+1,fun n s h=>?_⟩;cases n with
  | zero=>simp at h;subst h;exact .inr (.inr (.inl ⟨rfl,rfl,rfl,rfl⟩))
  | succ n=>
   rcases ih n s (by simpa using h) with ⟨v,p,q⟩ | ⟨q0,q,q2,q3⟩ | ⟨q0,q,q2,q3⟩ | ⟨q0,q,q2,q3⟩
   ·exact .inl ⟨v,p,by simpa using q⟩
   ·exact .inr (.inl ⟨q0,by rw [q],q2,by simpa using q3⟩)
   ·cases q0
   ·exact .inr (.inr (.inr ⟨q0,by rw [q],q2,by simpa using q3⟩))
 | two _ ih=>
  obtain ⟨n0,n1,n2,ih⟩:=ih;refine ⟨n0+1,n1+1,0,fun n s h=>?_⟩;cases n with
  | zero=>simp at h;subst h;exact .inr (.inr (.inr ⟨rfl,rfl,rfl,rfl⟩))
  | succ n=>
   rcases ih n s (by simpa using h) with ⟨v,p,q⟩ | ⟨q0,q,q2,q3⟩ | ⟨q0,q,q2,q3⟩ | ⟨q0,q,q2,q3⟩
   ·exact .inl ⟨v,p,by simpa using q⟩
   ·exact .inr (.inl ⟨q0,by rw [q],q2,by simpa using q3⟩)
   ·exact .inr (.inr (.inl ⟨q0,by rw [q],q2,by simpa using q3⟩))
   ·cases q0
variable {H':Hp}
def Jf (ss:List Slot)(σ:L2.St)(b:Bool)(vp:V)(A:List Addr):Prop:=(b=false/\A=[])∨∃ (q:Nat) (lp:Addr),b=true/\A=[lp]/\vp=.ref lp/\ss[q]?=some .AD/\σ[q]?=some (some (.ref lp))
theorem Jf.own (h:Jf ss σ b vp A)(ha:a∈A):∃ q:Nat,ss[q]?=some .AD/\σ[q]?=some (some (.ref a)):=by
 rcases h with ⟨_,rfl⟩ | ⟨q,lp,_,rfl,_,h1,h2⟩
 ·cases ha
 ·rw [List.mem_singleton.mp ha];exact ⟨q,h1,h2⟩
theorem Sg.call2 (S:Sg E ss σ F H)(pa:Jf ss σ b vp A)(r1:Aj F H v1 t1)(r2:Aj F H v2 t2)(nd:(t1.addrs++t2.addrs).Nodup)
  (qF:∀ a∈t1.addrs++t2.addrs,F a=none) (qA:∀ a∈t1.addrs++t2.addrs,a∉A)(a:EI F vp v1 v2 t1 t2 b c d vs l):Sg ⟨A,F,H,t1.addrs++t2.addrs⟩ l (vs.map some) F H:=by
 obtain ⟨n0,n1,n2,hm⟩:=a.at;have th:∀ x∈t1.addrs++t2.addrs,H x≠none:=fun x hx=>by
  rcases List.mem_append.mp hx with h | h
  ·exact r1.there x h
  ·exact r2.there x h
 have pt:∀ x∈A,BR H x/\F x=none:=fun x hx=>by
  obtain ⟨q,h1,h2⟩:=pa.own hx;obtain ⟨l,e,fl,_,p⟩:=S.ok q _ h1;rw [h2] at e;cases e;exact ⟨p,fl⟩
 have Hr:=List.nodup_append.mp nd;refine ⟨⟨S.fh,A7.refl _,fun _ _ _ e=>e,fun _ _ e=>.inl e,fun x h=>(pt x h).1,fun x h=>(pt x h).2,fun x h=>by obtain ⟨_,_,e,_⟩:=(pt x h).1;show H x≠none;rw [e];simp,qF,th,fun x h=>⟨th x h,qA x h⟩⟩,by rw [Ab];exact a.len,fun n s hn=>?_,fun n j s u x Kl hn hj ms mu=>?_⟩
 ·rcases hm n s hn with ⟨v,p,hv,rfl,r⟩ | ⟨hb,_,rfl,hv⟩ | ⟨_,_,rfl,hv⟩ | ⟨_,_,rfl,hv⟩
  ·rw [Ax,hv];exact ⟨v,rfl,r⟩
  ·rw [Ax,hv];rcases pa with ⟨h,_⟩ | ⟨q,lp,_,rfl,rfl,h1,h2⟩
   ·rw [h] at hb;cases hb
   ·exact ⟨lp,rfl,(pt lp (by simp)).2,.inr (by simp),(pt lp (by simp)).1⟩
  ·rw [Ax,hv];exact ⟨v1,rfl,r1,Hr.1,fun x hx=>⟨qF x (by simp [hx]),.inr ⟨rfl,by simp [hx]⟩⟩⟩
  ·rw [Ax,hv];exact ⟨v2,rfl,r2,Hr.2.1,fun x hx=>⟨qF x (by simp [hx]),.inr ⟨rfl,by simp [hx]⟩⟩⟩
 ·have Om:∀ {n:Nat},b=true->vs[n]?=some vp->B9 .AD ((vs.map some)[n]?) x->x∈A:=fun {n} hb hv ho=>by
   rcases pa with ⟨h,_⟩ | ⟨q,lp,_,rfl,rfl,h1,h2⟩
   ·rw [h] at hb;cases hb
   ·rw [Ax,hv] at ho;have z:some (some (V.ref lp))=some (some (V.ref x)):=ho;injection z with z;injection z with z;injection z with z
    rw [z];simp
  rcases hm n s hn with ⟨v,p,hv,rfl,r⟩ | ⟨hb,e1,rfl,hv⟩ | ⟨_,e1,rfl,hv⟩ | ⟨_,e1,rfl,hv⟩
  ·cases ms
  ·rcases hm j u hj with ⟨_,_,_,rfl,_⟩ | ⟨_,e2,rfl,_⟩ | ⟨_,e2,rfl,_⟩ | ⟨_,e2,rfl,_⟩
   ·cases mu
   ·exact Kl (e1.trans e2.symm)
   ·exact qA x (HD _ mu) (Om hb hv ms)
   ·exact qA x (D4 _ mu) (Om hb hv ms)
  ·rcases hm j u hj with ⟨_,_,_,rfl,_⟩ | ⟨hb,e2,rfl,Vv⟩ | ⟨_,e2,rfl,_⟩ | ⟨_,e2,rfl,_⟩
   ·cases mu
   ·exact qA x (HD _ ms) (Om hb Vv mu)
   ·exact Kl (e1.trans e2.symm)
   ·exact Hr.2.2 x ms x mu rfl
  ·rcases hm j u hj with ⟨_,_,_,rfl,_⟩ | ⟨hb,e2,rfl,Vv⟩ | ⟨_,e2,rfl,_⟩ | ⟨_,e2,rfl,_⟩
   ·cases mu
   ·exact qA x (D4 _ ms) (Om hb Vv mu)
   ·exact Hr.2.2 x mu x ms rfl
   ·exact Kl (e1.trans e2.symm)
theorem Sg.jD {lt:Bool}(S:Sg E ss σ F H)(pa:Jf ss σ b vp A)(Br:i≠j)(hi:ss[i]?=some (.ow lt t1))(hj:ss[j]?=some (.ow lt t2))
  (e1:σ[i]?=some (some v1)) (e2:σ[j]?=some (some v2)) (f:Fin ⟨A,F,H,t1.addrs++t2.addrs⟩ F' H') (r1:Aj F' H' v1 u1) (r2:Aj F' H' v2 u2) (nd:(u1.addrs++u2.addrs).Nodup)
  (q:∀ a∈u1.addrs++u2.addrs,F' a=none/\(H a=none∨a∈t1.addrs++t2.addrs)) :
  Sg E ((ss.set i (.ow lt u1)).set j (.ow lt u2)) σ F' H'/\(∀ a o,By ss σ a->a∉t1.addrs++t2.addrs->H a=some o->H' a=some o):=by
 obtain ⟨w1,x1,_,_,q1⟩:=S.ok i _ hi;obtain ⟨w2,x2,_,_,q2⟩:=S.ok j _ hj;have LP:i<ss.length:=(List.getElem?_eq_some_iff.mp hi).1;have hlj:j<ss.length:=(List.getElem?_eq_some_iff.mp hj).1;have qB:∀ a∈t1.addrs++t2.addrs,F a=none/\(E.H0 a=none∨a∈E.B):=fun a ha=>by
  rcases List.mem_append.mp ha with h | h
  ·exact ⟨(q1 a h).1,(q1 a h).2.imp id fun z=>z.2⟩
  ·exact ⟨(q2 a h).1,(q2 a h).2.imp id fun z=>z.2⟩
 have kp:∀ a o,a∉A->a∉t1.addrs++t2.addrs->H a=some o->H' a=some o:=fun a o n1 n2 e=>f.keep a o ⟨n1,n2⟩ e;have BH:∀ a,H a≠none->F a=none->F' a=none:=fun a h1 h2=>by
  cases e:F' a with
  | none=>rfl
  | some o=>
   rcases f.fresh a o e with z | z
   ·rw [show F a=some o from z] at h2;cases h2
   ·exact absurd z h1
 have RV:∀ a∈A,E.H0 a=none∨a∈E.A:=fun a ha=>by
  obtain ⟨n,h1,h2⟩:=pa.own ha;obtain ⟨l,e,_,hl,_⟩:=S.ok n _ h1;rw [h2] at e;cases e;exact hl
 have Lu:∀ a,a∈E.A->a∉t1.addrs++t2.addrs:=fun a hA hm=>by
  rcases (qB a hm).2 with z | z
  ·exact S.a0 a hA z
  ·exact (S.b0 a z).2 hA
 have other:∀ (n:Nat) s,n≠i->n≠j->ss[n]?=some s->∀ a,B9 s σ[n]? a->a∉t1.addrs++t2.addrs:=fun n s h1 h2 hs a ho hm=>by
  rcases List.mem_append.mp hm with h | h
  ·exact S.BP n i s _ a h1 hs hi ho h
  ·exact S.BP n j s _ a h2 hs hj ho h
 have Gi:∀ (n:Nat) s,s≠.AD->ss[n]?=some s->∀ a,B9 s σ[n]? a->a∉A:=fun n s np hs a ho hm=>by
  obtain ⟨m,h1,h2⟩:=pa.own hm
  by_cases c:n=m
  ·subst c;rw [hs] at h1;exact np (BO h1)
  ·exact S.BP n m s _ a c hs h1 ho h2
 have CT:∀ a,BR H a->a∉t1.addrs++t2.addrs->BR H' a:=fun a p n=>by
  by_cases c:a∈A
  ·exact f.CT a c
  ·exact BR.keep p fun o e=>kp a o c n e
 have at_:∀ (n:Nat) s,((ss.set i (.ow lt u1)).set j (.ow lt u2))[n]?=some s->(n=j/\s=.ow lt u2)∨(n=i/\s=.ow lt u1)∨(n≠i/\n≠j/\ss[n]?=some s):=fun n s hn=>by
  by_cases c:n=j
  ·subst c;rw [CZ (by rw [Fp];exact hlj)] at hn;exact .inl ⟨rfl,(BO hn).symm⟩
  ·rw [CQ (BS c)] at hn
   by_cases c2:n=i
   ·subst c2;rw [CZ LP] at hn;exact .inr (.inl ⟨rfl,(BO hn).symm⟩)
   ·rw [CQ (BS c2)] at hn;exact .inr (.inr ⟨c2,c,hn⟩)
 have qn:∀ a∈u1.addrs++u2.addrs,E.H0 a=none∨a∈E.B:=fun a ha=>by
  rcases (q a ha).2 with z | z
  ·exact .inl (S.D6 z)
  ·exact (qB a z).2
 have Hr:=List.nodup_append.mp nd;have ltB:∀ a,a∈E.B->a∈u1.addrs++u2.addrs->lt=true:=fun a hB ha=>by
  rcases (q a ha).2 with z | z
  ·exact absurd (S.D6 z) (S.b0 a hB).1
  ·rcases List.mem_append.mp z with h | h
   ·exact ((q1 a h).2.resolve_left (S.b0 a hB).1).1
   ·exact ((q2 a h).2.resolve_left (S.b0 a hB).1).1
 have b4:∀ {u:OV}{v:V}{n:Nat},σ[n]?=some (some v)->Aj F' H' v u->u.addrs.Nodup->(∀ a∈u.addrs,a∈u1.addrs++u2.addrs)->Ok E F' H' (.ow lt u) σ[n]?:=fun {u v n} e r X5 hs=>by
  refine ⟨v,e,r,X5,fun a ha=>⟨(q a (hs a ha)).1,?_⟩⟩;rcases qn a (hs a ha) with z | z
  ·exact .inl z
  ·exact .inr ⟨ltB a z (hs a ha),z⟩
 refine ⟨⟨⟨f.fh,S.f0.trans f.f0,fun a o hA e=>?_,fun a o e=>?_,fun a hA=>?_,fun a hA=>?_,S.a0,fun a hB=>?_,fun a hB=>?_,S.b0⟩,by rw [Fp,Fp];exact S.len,fun n s hn=>?_,fun n m s u x Ky hn hm ms mu=>?_⟩,fun a o np nb e=>?_⟩
 ·refine kp a o (fun z=>?_) (fun z=>?_) (S.keep a o hA e)
  ·rcases RV a z with y | y
   ·rw [e] at y;cases y
   ·exact hA.1 y
  ·rcases (qB a z).2 with y | y
   ·rw [e] at y;cases y
   ·exact hA.2 y
 ·rcases f.fresh a o e with z | z
  ·exact S.fresh a o z
  ·exact .inr (S.D6 z)
 ·exact CT a (S.CT a hA) (Lu a hA)
 ·obtain ⟨_,_,e1,_⟩:=S.CT a hA;exact BH a (by rw [e1];simp) (S.K7 a hA)
 ·exact BH a (S.bH a hB) (S.bF a hB)
 ·by_cases hm:a∈t1.addrs++t2.addrs
  ·exact f.bH a hm
  ·by_cases hA:a∈A
   ·obtain ⟨_,_,e1,_⟩:=f.CT a hA;rw [e1];simp
   ·intro z;cases e:H a with
    | none=>exact S.bH a hB e
    | some o=>rw [kp a o hA hm e] at z;cases z
 ·rcases at_ n s hn with ⟨rfl,rfl⟩ | ⟨rfl,rfl⟩ | ⟨n1,n2,h⟩
  ·exact b4 e2 r2 Hr.2.1 fun a ha=>D4 _ ha
  ·exact b4 e1 r1 Hr.1 fun a ha=>HD _ ha
  ·by_cases np:s=.AD
   ·subst np;obtain ⟨l,e,fl,hl,pt⟩:=S.ok n _ h;obtain ⟨_,_,e3,_⟩:=id pt;exact ⟨l,e,BH l (by rw [e3];simp) fl,hl,CT l pt (other n _ n1 n2 h l e)⟩
   ·exact Ok.go S h f.f0 (fun a o ho e=>kp a o (Gi n s np h a ho) (other n s n1 n2 h a ho) e) BH np
 ·have GY:∀ (n:Nat) s,n≠i->n≠j->ss[n]?=some s->B9 s σ[n]? x->x∉u1.addrs++u2.addrs:=fun n s h1 h2 hs ho hm=>by
   rcases (q x hm).2 with z | z
   ·exact S.DL hs ho z
   ·exact other n s h1 h2 hs x ho z
  rcases at_ n s hn with ⟨c1,rfl⟩ | ⟨c1,rfl⟩ | ⟨n1,n2,h⟩
  ·rcases at_ m u hm with ⟨c2,rfl⟩ | ⟨c2,rfl⟩ | ⟨m1,m2,h'⟩
   ·exact Ky (c1.trans c2.symm)
   ·exact Hr.2.2 x mu x ms rfl
   ·exact GY m u m1 m2 h' mu (D4 _ ms)
  ·rcases at_ m u hm with ⟨c2,rfl⟩ | ⟨c2,rfl⟩ | ⟨m1,m2,h'⟩
   ·exact Hr.2.2 x ms x mu rfl
   ·exact Ky (c1.trans c2.symm)
   ·exact GY m u m1 m2 h' mu (HD _ ms)
  ·rcases at_ m u hm with ⟨c2,rfl⟩ | ⟨c2,rfl⟩ | ⟨m1,m2,h'⟩
   ·exact GY n s n1 n2 h ms (D4 _ mu)
   ·exact GY n s n1 n2 h ms (HD _ mu)
   ·exact S.BP n m s u x Ky h h' ms mu
 ·refine kp a o (fun z=>?_) nb e;obtain ⟨n,h1,h2⟩:=pa.own z;exact np n h1 h2
theorem Sg.Zo {lt:Bool}(S:Sg E ss σ F H)(pa:Jf ss σ b vp A)(hi:ss[i]?=some (.ow lt T))(BA:T.at p=some (.tp [.nd k1 a1 BD,.nd k2 a2 Ar,.fz mp]))
  (f:Fin ⟨A,F,H,(OV.nd k1 a1 BD).addrs++(OV.nd k2 a2 Ar).addrs⟩ F' H') (r1:Aj F' H' (.ref a1) u1) (r2:Aj F' H' (.ref a2) u2) (nd:(u1.addrs++u2.addrs).Nodup)
  (q:∀ a∈u1.addrs++u2.addrs,F' a=none/\(H a=none∨a∈(OV.nd k1 a1 BD).addrs++(OV.nd k2 a2 Ar).addrs)) :
  Sg E (ss.set i (.ow lt (T.put p (.tp [u1,u2,.fz mp])))) σ F' H'/\(∀ a o,By ss σ a->a∉(OV.nd k1 a1 BD).addrs++(OV.nd k2 a2 Ar).addrs->H a=some o->H' a=some o):=by
 generalize hB:(OV.nd k1 a1 BD).addrs++(OV.nd k2 a2 Ar).addrs=B at f q;obtain ⟨v0,e0,R0,CF,q0⟩:=S.ok i _ hi;have LP:i<ss.length:=(List.getElem?_eq_some_iff.mp hi).1;obtain ⟨l,r,s1,s2⟩:=OV.split BA;have eU:(OV.tp [OV.nd k1 a1 BD,.nd k2 a2 Ar,.fz mp]).addrs=B:=by rw [OV.E7,OV.Bf,OV.Bf,OV.Bf,OV.IL,<- hB];simp [OV.AZ]
 have eN:(OV.tp [u1,u2,.fz mp]).addrs=u1.addrs++u2.addrs:=by rw [OV.E7,OV.Bf,OV.Bf,OV.Bf,OV.IL];simp [OV.AZ]
 rw [eU] at s1;have sub:∀ a∈B,a∈T.addrs:=fun a ha=>by rw [s1];simp [ha]
 have qB:∀ a∈B,F a=none/\(E.H0 a=none∨(lt=true/\a∈E.B)):=fun a ha=>q0 a (sub a ha);have kp:∀ a o,a∉A->a∉B->H a=some o->H' a=some o:=fun a o n1 n2 e=>f.keep a o ⟨n1,n2⟩ e;have BH:∀ a,H a≠none->F a=none->F' a=none:=fun a h1 h2=>by
  cases e:F' a with
  | none=>rfl
  | some o=>
   rcases f.fresh a o e with z | z
   ·rw [show F a=some o from z] at h2;cases h2
   ·exact absurd z h1
 have RV:∀ a∈A,E.H0 a=none∨a∈E.A:=fun a ha=>by
  obtain ⟨n,h1,h2⟩:=pa.own ha;obtain ⟨l,e,_,hl,_⟩:=S.ok n _ h1;rw [h2] at e;cases e;exact hl
 have Lu:∀ a,a∈E.A->a∉B:=fun a hA hm=>by
  rcases (qB a hm).2 with z | z
  ·exact S.a0 a hA z
  ·exact (S.b0 a z.2).2 hA
 have other:∀ (n:Nat) s,n≠i->ss[n]?=some s->∀ a,B9 s σ[n]? a->a∉T.addrs:=fun n s h1 hs a ho hm=>S.BP n i s _ a h1 hs hi ho hm;have Gi:∀ (n:Nat) s,s≠.AD->ss[n]?=some s->∀ a,B9 s σ[n]? a->a∉A:=fun n s np hs a ho hm=>by
  obtain ⟨m,h1,h2⟩:=pa.own hm
  by_cases c:n=m
  ·subst c;rw [hs] at h1;exact np (BO h1)
  ·exact S.BP n m s _ a c hs h1 ho h2
 have tA:∀ a∈T.addrs,a∉A:=fun a ha=>Gi i (.ow lt T) (by simp) hi a ha;have CT:∀ a,BR H a->a∉B->BR H' a:=fun a p n=>by
  by_cases c:a∈A
  ·exact f.CT a c
  ·exact BR.keep p fun o e=>kp a o c n e
 have aM:(l++B++r).Nodup:=by rw [<- s1];exact CF
 have wu:∀ a∈l++r,a∉B:=fun a ha hb=>by
  have n1:=List.nodup_append.mp aM;have n2:=List.nodup_append.mp n1.1;rcases List.mem_append.mp ha with h | h
  ·exact n2.2.2 a h a hb rfl
  ·exact n1.2.2 a (D4 _ hb) a h rfl
 have Pl:∀ a∈l++r,a∈T.addrs:=fun a ha=>by
  rw [s1];rcases List.mem_append.mp ha with h | h <;> simp [h]
 -- FG tree behind FG call
 have R1:Aj F' H v0 T:=R0.mono f.f0 fun b _ o e=>e;obtain ⟨w,rw_,go⟩:=R1.at BA;have RN:Aj F' H' w (.tp [u1,u2,.fz mp]):=by
  obtain ⟨_,_,rfl,hF,rr⟩:=rw_.inv;obtain ⟨_,_,rfl,x1,rr⟩:=rr.inv;obtain ⟨_,_,rfl,x2,rr⟩:=rr.inv;obtain ⟨_,_,rfl,x3,rr⟩:=rr.inv;cases rr.M6;obtain ⟨_,rfl,_⟩:=x1.inv;obtain ⟨_,rfl,_⟩:=x2.inv;exact .tp hF (.cons r1 (.cons r2 (.cons (.fz x3.inv) .nil)))
 have RT:Aj F' H' v0 (T.put p (.tp [u1,u2,.fz mp])):=go H' _ RN fun l' r' g1 g2 b hb o e=>by
  have eb:b∈T.addrs:=by
   rw [g1];rcases List.mem_append.mp hb with h | h <;> simp [h]
  have nb:b∉B:=fun z=>by
   have n1:=List.nodup_append.mp (g1▸CF);have n2:=List.nodup_append.mp n1.1;rw [eU] at n1 n2;rcases List.mem_append.mp hb with h | h
   ·exact n2.2.2 b h b z rfl
   ·exact n1.2.2 b (D4 _ z) b h rfl
  exact kp b o (tA b eb) nb e
 have aT:(T.put p (.tp [u1,u2,.fz mp])).addrs=l++(u1.addrs++u2.addrs)++r:=by rw [s2,eN]
 have qn:∀ a∈u1.addrs++u2.addrs,F' a=none/\(E.H0 a=none∨(lt=true/\a∈E.B)):=fun a ha=>⟨(q a ha).1,by
  rcases (q a ha).2 with z | z
  ·exact .inl (S.D6 z)
  ·exact (qB a z).2⟩
 have xw:(T.put p (.tp [u1,u2,.fz mp])).addrs.Nodup:=by
  rw [aT];have n1:=List.nodup_append.mp aM;have n2:=List.nodup_append.mp n1.1;have dC:∀ a∈u1.addrs++u2.addrs,a∉l++r:=fun a ha hr=>by
   rcases (q a ha).2 with z | z
   ·exact R0.there a (Pl a hr) z
   ·exact wu a hr z
  refine List.nodup_append.mpr ⟨List.nodup_append.mpr ⟨n2.1,nd,fun x hx y hy e=>dC y hy (by rw [<- e];simp [hx])⟩,n1.2.1,fun x hx y hy e=>?_⟩;rcases List.mem_append.mp hx with h | h
  ·exact n1.2.2 x (by simp [h]) y hy e
  ·exact dC x h (by rw [e];simp [hy])
 have ZAh:∀ a∈(T.put p (.tp [u1,u2,.fz mp])).addrs,F' a=none/\(E.H0 a=none∨(lt=true/\a∈E.B)):=fun a ha=>by
  rw [aT] at ha
  by_cases c:a∈u1.addrs++u2.addrs
  ·exact qn a c
  ·have hr:a∈l++r:=by
    rcases List.mem_append.mp ha with h | h
    ·rcases List.mem_append.mp h with h | h
     ·simp [h]
     ·exact absurd h c
    ·simp [h]
   have:=q0 a (Pl a hr);exact ⟨BH a (R0.there a (Pl a hr)) this.1,this.2⟩
 have at_:∀ (n:Nat) s,(ss.set i (.ow lt (T.put p (.tp [u1,u2,.fz mp]))))[n]?=some s->(n=i/\s=.ow lt (T.put p (.tp [u1,u2,.fz mp])))∨(n≠i/\ss[n]?=some s):=fun n s hn=>by
  by_cases c:n=i
  ·subst c;rw [CZ LP] at hn;exact .inl ⟨rfl,(BO hn).symm⟩
  ·rw [CQ (BS c)] at hn;exact .inr ⟨c,hn⟩
 refine ⟨⟨⟨f.fh,S.f0.trans f.f0,fun a o hA e=>?_,fun a o e=>?_,fun a hA=>?_,fun a hA=>?_,S.a0,fun a hB=>?_,fun a hB=>?_,S.b0⟩,by rw [Fp];exact S.len,fun n s hn=>?_,fun n m s u x Ky hn hm ms mu=>?_⟩,fun a o np nb e=>?_⟩
 ·refine kp a o (fun z=>?_) (fun z=>?_) (S.keep a o hA e)
  ·rcases RV a z with y | y
   ·rw [e] at y;cases y
   ·exact hA.1 y
  ·rcases (qB a z).2 with y | y
   ·rw [e] at y;cases y
   ·exact hA.2 y.2
 ·rcases f.fresh a o e with z | z
  ·exact S.fresh a o z
  ·exact .inr (S.D6 z)
 ·exact CT a (S.CT a hA) (Lu a hA)
 ·obtain ⟨_,_,e1,_⟩:=S.CT a hA;exact BH a (by rw [e1];simp) (S.K7 a hA)
 ·exact BH a (S.bH a hB) (S.bF a hB)
 ·by_cases hm:a∈B
  ·exact f.bH a hm
  ·by_cases hA:a∈A
   ·obtain ⟨_,_,e1,_⟩:=f.CT a hA;rw [e1];simp
   ·intro z;cases e:H a with
    | none=>exact S.bH a hB e
    | some o=>rw [kp a o hA hm e] at z;cases z
 ·rcases at_ n s hn with ⟨rfl,rfl⟩ | ⟨n1,h⟩
  ·exact ⟨v0,e0,RT,xw,ZAh⟩
  ·by_cases np:s=.AD
   ·subst np;obtain ⟨l,e,fl,hl,pt⟩:=S.ok n _ h;obtain ⟨_,_,e3,_⟩:=id pt;exact ⟨l,e,BH l (by rw [e3];simp) fl,hl,CT l pt fun z=>other n _ n1 h l e (sub l z)⟩
   ·exact Ok.go S h f.f0 (fun a o ho e=>kp a o (Gi n s np h a ho) (fun z=>other n s n1 h a ho (sub a z)) e) BH np
 ·have GY:∀ (n:Nat) s,n≠i->ss[n]?=some s->B9 s σ[n]? x->x∉(T.put p (.tp [u1,u2,.fz mp])).addrs:=fun n s h1 hs ho hm=>by
   rw [aT] at hm
   by_cases c:x∈u1.addrs++u2.addrs
   ·rcases (q x c).2 with z | z
    ·exact S.DL hs ho z
    ·exact other n s h1 hs x ho (sub x z)
   ·refine other n s h1 hs x ho (Pl x ?_);rcases List.mem_append.mp hm with h | h
    ·rcases List.mem_append.mp h with h | h
     ·simp [h]
     ·exact absurd h c
    ·simp [h]
  rcases at_ n s hn with ⟨c1,rfl⟩ | ⟨n1,h⟩
  ·rcases at_ m u hm with ⟨c2,rfl⟩ | ⟨m1,h'⟩
   ·exact Ky (c1.trans c2.symm)
   ·exact GY m u m1 h' mu ms
  ·rcases at_ m u hm with ⟨c2,rfl⟩ | ⟨m1,h'⟩
   ·exact GY n s n1 h ms mu
   ·exact S.BP n m s u x Ky h h' ms mu
 ·refine kp a o (fun z=>?_) nb e;obtain ⟨n,h1,h2⟩:=pa.own z;exact np n h1 h2
end
def K2 (σ:L2.St)(q:Nat):V:=match σ[q]? with
 | some (some v)=>v
 | _=>.AB
def QH (s:Slot)(a:Addr):Prop:=(∃ lt k us,s=.ow lt (.nd k a us))∨s=.raw (ptr a)
theorem QH.val (p:QH s a)(S:Sg E ss σ F H)(hn:ss[n]?=some s):σ[n]?=some (some (.ref a)):=by
 rcases p with ⟨lt,k,us,rfl⟩ | rfl
 ·obtain ⟨v,e,r,_⟩:=S.ok n _ hn;have ev:v=.ref a:=by cases r;rfl
  rw [<- ev];exact e
 ·obtain ⟨v,e,r,_⟩:=S.ok n _ hn;have ev:v=.ref a:=r;rw [<- ev];exact e
structure fG (E:Ent0) (ss AK:List Slot) (σ:L2.St) (t1 t2:OV) (F H F' H':Hp):Prop where
 st:Sg E AK σ F' H'
 ff:A7 F F'
 hh:∀ a o,By ss σ a->a∉t1.addrs++t2.addrs->H a=some o->H' a=some o
 nn:∀ a o,F' a=some o->F a=some o∨H a=none
structure GB [Xw] (ss:List Slot) (q:Nat) (a1 a2:Addr) (t1 t2:OV) (b c d:Bool) (ta:TA) (k:List Slot->Prop):Prop where
 go:∀ (E:Ent) (σ:L2.St) (F H:Hp) (Q:List V->Hp->Prop),Sg E ss σ F H->(∀ vs l F' H',Mv E ss σ F H F' H'->EI F' (K2 σ q) (.ref a1) (.ref a2) t1 t2 b c d vs l->k l->Q vs H')->ta σ H Q
structure P0 [Xw] (ss:List Slot) (t1 t2:OV) (new:OV->OV->List Slot) (te:TE) (k:PV->OV->OV->Prop):Prop where
 go:∀ (E:Ent) (σ:L2.St) (F H:Hp) (Q:VK),Sg E ss σ F H->(∀ v p u1 u2 F' H',fG E ss (new u1 u2) σ t1 t2 F H F' H'->Rep F' v p->k p u1 u2->Q v H')->te σ H Q
structure P6 [Xw] (ss:List Slot) (t1 t2:OV) (new:OV->OV->List Slot) (c:TT) (k:Bool->OV->OV->Prop):Prop where
 go:∀ (E:Ent) (σ:L2.St) (F H:Hp) (Q:Bool->Hp->Prop),Sg E ss σ F H->(∀ b u1 u2 F' H',fG E ss (new u1 u2) σ t1 t2 F H F' H'->k b u1 u2->Q b H')->c σ H Q
section
variable [Xw]
variable {ta:TA}{q:Nat}{lt:Bool}{nx:List Slot->Prop}{R:Aq}{k:List Slot->Prop}{new:OV->OV->List Slot}
theorem cQ (h:k []):GB ss q a1 a2 t1 t2 false false false B5 k:=⟨fun E σ F H Q S go=>go [] [] F H (Mv.refl S) .nil h⟩
theorem Yq (h:Wp ss te fun p=>GB ss q a1 a2 t1 t2 b c d ta fun l=>k (.is p::l)):GB ss q a1 a2 t1 t2 b c d (AV te ta) k:=⟨fun E σ F H Q S go=>
 h.go E σ F H _ S fun v p F1 H1 m1 r h2=>h2.go E σ F1 H1 _ m1.st fun vs l F2 H2 m2 a kk=>go _ _ F2 H2 (m1.trans m2) (.is (r.mono m2.ff) a) kk⟩
theorem sM (hq:ss[q]?=some .AD)(h:GB ss q a1 a2 t1 t2 false c d ta fun l=>k (.AD::l)):GB ss q a1 a2 t1 t2 true c d (AV (BL q) ta) k:=⟨fun E σ F H Q S go=>by
 obtain ⟨l0,e,_⟩:=S.ok q _ hq;have ev:K2 σ q=.ref l0:=by unfold K2;rw [e]
 refine ⟨_,e,h.go E σ F H _ S fun vs l F2 H2 m2 a kk=>go _ _ F2 H2 m2 ?_ kk⟩;rw [<- ev];exact .AD a⟩
theorem cU (hn:ss[n]?=some s)(ps:QH s a1)(h:GB ss q a1 a2 t1 t2 b false d ta fun l=>k (.ow true t1::l)):GB ss q a1 a2 t1 t2 b true d (AV (BL n) ta) k:=⟨fun E σ F H Q S go=>
 ⟨_,ps.val S hn,h.go E σ F H _ S fun vs l F2 H2 m2 a kk=>go _ _ F2 H2 m2 (.one a) kk⟩⟩
theorem gz (hn:ss[n]?=some s)(ps:QH s a2)(h:GB ss q a1 a2 t1 t2 b c false ta fun l=>k (.ow true t2::l)):GB ss q a1 a2 t1 t2 b c true (AV (BL n) ta) k:=⟨fun E σ F H Q S go=>
 ⟨_,ps.val S hn,h.go E σ F H _ S fun vs l F2 H2 m2 a kk=>go _ _ F2 H2 m2 (.two a) kk⟩⟩
theorem iA (S:Sg E ss σ F H)(hq:b=true->ss[q]?=some .AD):∃ A,Jf ss σ b (K2 σ q) A/\∀ a∈A,∃ m:Nat,ss[m]?=some .AD/\σ[m]?=some (some (.ref a)):=by
 cases b with
 | false=>exact ⟨[],.inl ⟨rfl,rfl⟩,fun _ h=>absurd h Au⟩
 | true=>
  obtain ⟨l0,e,_⟩:=S.ok q _ (hq rfl);have ev:K2 σ q=.ref l0:=by unfold K2;rw [e]
  have P:Jf ss σ true (K2 σ q) [l0]:=.inr ⟨q,l0,rfl,rfl,ev,hq rfl,e⟩;exact ⟨[l0],P,fun a ha=>P.own ha⟩
theorem qw (Br:i≠j)(hi:ss[i]?=some (.ow lt (.nd k1 a1 BD)))(hj:ss[j]?=some (.ow lt (.nd k2 a2 Ar)))(hq:b=true->ss[q]?=some .AD)
  (h:GB ss q a1 a2 (.nd k1 a1 BD) (.nd k2 a2 Ar) b c d ta fun l=>∃ k',pre l (.Ea k')/\∀ p u1 u2,k' p u1 u2->u1.val=.ref a1/\u2.val=.ref a2/\kk p u1 u2) :
  P0 ss (.nd k1 a1 BD) (.nd k2 a2 Ar) (fun u1 u2=>(ss.set i (.ow lt u1)).set j (.ow lt u2)) (Bz (CL pre) [] E0 ta) kk:=⟨fun E σ F H Q S go=>
 h.go E σ F H _ S fun vs l F1 H1 m1 a ⟨k',hp,kx⟩=>by
  rw [EW];have S1:=m1.st;obtain ⟨v1,x1,r1,n1,q1⟩:=S1.ok i _ hi;obtain ⟨v2,x2,r2,n2,q2⟩:=S1.ok j _ hj;have e1:v1=.ref a1:=by cases r1;rfl
  have e2:v2=.ref a2:=by cases r2;rfl
  subst e1;subst e2;obtain ⟨A,pa,own⟩:=iA S1 hq;have NW:((OV.nd k1 a1 BD).addrs++(OV.nd k2 a2 Ar).addrs).Nodup:=List.nodup_append.mpr ⟨n1,n2,fun x hx y hy e=>S1.BP i j _ _ x Br hi hj hx (by rw [e];exact hy)⟩;refine ⟨l,.Ea k',F1,A,_,hp,S1.call2 pa r1 r2 NW (fun x hx=>?_) (fun x hx hA=>?_) a,fun v F' H' f ⟨p,u1,u2,rp,o1,o2,nd,qa,kp⟩=>?_⟩
  ·rcases List.mem_append.mp hx with z | z
   ·exact (q1 x z).1
   ·exact (q2 x z).1
  ·obtain ⟨m,p1,p2⟩:=own x hA;rcases List.mem_append.mp hx with z | z
   ·by_cases w:m=i
    ·subst w;rw [hi] at p1;cases p1
    ·exact S1.BP m i _ _ x w p1 hi p2 z
   ·by_cases w:m=j
    ·subst w;rw [hj] at p1;cases p1
    ·exact S1.BP m j _ _ x w p1 hj p2 z
  ·obtain ⟨w1,w2,UY⟩:=kx p u1 u2 kp;rw [w1] at o1;rw [w2] at o2;obtain ⟨S2,hh⟩:=S1.jD pa Br hi hj x1 x2 f o1 o2 nd qa;exact go v p u1 u2 F' H' ⟨S2,m1.ff.trans f.f0,fun a o np nb e=>hh a o np nb (m1.hh a o np e),fun a o e=>(f.fresh a o e).elim (fun e=>m1.nn a o e) fun e=>.inr (m1.none e)⟩ rp UY⟩
theorem yJ (hi:ss[i]?=some (.ow lt T))(BA:T.at p=some (.tp [.nd k1 a1 BD,.nd k2 a2 Ar,.fz mp]))(hq:b=true->ss[q]?=some .AD)
  (h:GB ss q a1 a2 (.nd k1 a1 BD) (.nd k2 a2 Ar) b c d ta fun l=>∃ k',pre l (.Ea k')/\∀ p u1 u2,k' p u1 u2->u1.val=.ref a1/\u2.val=.ref a2/\kk p u1 u2) :
  P0 ss (.nd k1 a1 BD) (.nd k2 a2 Ar) (fun u1 u2=>ss.set i (.ow lt (T.put p (.tp [u1,u2,.fz mp])))) (Bz (CL pre) [] E0 ta) kk:=⟨fun E σ F H Q S go=>
 h.go E σ F H _ S fun vs l F1 H1 m1 a ⟨k',hp,kx⟩=>by
  rw [EW];have S1:=m1.st;obtain ⟨v0,x0,r0,n0,q0⟩:=S1.ok i _ hi;obtain ⟨w,rw_,_⟩:=r0.at BA;obtain ⟨l0,Rc,s1,_⟩:=OV.split BA;have eU:(OV.tp [OV.nd k1 a1 BD,.nd k2 a2 Ar,.fz mp]).addrs=(OV.nd k1 a1 BD).addrs++(OV.nd k2 a2 Ar).addrs:=by rw [OV.E7,OV.Bf,OV.Bf,OV.Bf,OV.IL];simp [OV.AZ]
  rw [eU] at s1;obtain ⟨r1,r2⟩:Aj F1 H1 (.ref a1) (.nd k1 a1 BD)/\Aj F1 H1 (.ref a2) (.nd k2 a2 Ar):=by
   obtain ⟨_,_,rfl,hF,rr⟩:=rw_.inv;obtain ⟨_,_,rfl,y1,rr⟩:=rr.inv;obtain ⟨_,_,rfl,y2,rr⟩:=rr.inv;have z1:=y1.inv.elim fun _ h=>h.1;have z2:=y2.inv.elim fun _ h=>h.1;exact ⟨z1▸y1,z2▸y2⟩
  obtain ⟨A,pa,own⟩:=iA S1 hq;have n3:(l0++((OV.nd k1 a1 BD).addrs++(OV.nd k2 a2 Ar).addrs)++Rc).Nodup:=by rw [<- s1];exact n0
  have NW:=(List.nodup_append.mp (List.nodup_append.mp n3).1).2.1;have sub:∀ x∈(OV.nd k1 a1 BD).addrs++(OV.nd k2 a2 Ar).addrs,x∈T.addrs:=fun x hx=>by rw [s1];exact HD _ (D4 _ hx)
  refine ⟨l,.Ea k',F1,A,_,hp,S1.call2 pa r1 r2 NW (fun x hx=>(q0 x (sub x hx)).1) (fun x hx hA=>?_) a,fun v F' H' f ⟨p',u1,u2,rp,o1,o2,nd,qa,kp⟩=>?_⟩
  ·obtain ⟨m,p1,p2⟩:=own x hA
   by_cases w:m=i
   ·subst w;rw [hi] at p1;cases p1
   ·exact S1.BP m i _ _ x w p1 hi p2 (sub x hx)
  ·obtain ⟨w1,w2,UY⟩:=kx p' u1 u2 kp;rw [w1] at o1;rw [w2] at o2;obtain ⟨S2,hh⟩:=S1.Zo pa hi BA f o1 o2 nd qa;exact go v p' u1 u2 F' H' ⟨S2,m1.ff.trans f.f0,fun a o np nb e=>hh a o np nb (m1.hh a o np e),fun a o e=>(f.fresh a o e).elim (fun e=>m1.nn a o e) fun e=>.inr (m1.none e)⟩ rp UY⟩
theorem ZAM {kk:Bool->OV->OV->Prop}(h:P0 ss t1 t2 new te fun p u1 u2=>∃ c,p=.bl c/\kk c u1 u2):P6 ss t1 t2 new (tB te) kk:=⟨fun E σ F H Q S go=>
 h.go E σ F H _ S fun v p u1 u2 F1 H1 m1 r AJ=>by
  obtain ⟨c,e,k2⟩:=AJ;subst e;cases r.inv;exact ⟨c,rfl,go c u1 u2 F1 H1 m1 k2⟩⟩
theorem mB {kk:Bool->OV->OV->Prop}(h:P6 ss t1 t2 new x fun b u1 u2=>kk (!b) u1 u2):P6 ss t1 t2 new (Lv x) kk:=⟨fun E σ F H Q S go=>
 h.go E σ F H _ S fun b u1 u2 F1 H1 m1 k2=>go (!b) u1 u2 F1 H1 m1 k2⟩
theorem qO {u v:TS}(h:P6 ss t1 t2 new x fun b u1 u2=>if b=true then Ws (new u1 u2) u nx R else Ws (new u1 u2) v nx R):Ws ss (MU x u v) nx R:=⟨fun E D σ F H S hn hr=>
 h.go E σ F H _ S fun b u1 u2 F1 H1 m1 kk=>by
  cases b with
  | true=>rw [jd rfl] at kk;exact kk.go E D σ F1 H1 m1.st (fun AK σ' F' H' n S' s=>hn AK σ' F' H' n S' (m1.ff.trans s)) hr
  | false=>rw [jG (by decide)] at kk;exact kk.go E D σ F1 H1 m1.st (fun AK σ' F' H' n S' s=>hn AK σ' F' H' n S' (m1.ff.trans s)) hr⟩
theorem Sg.two (S:Sg E ss σ F H)(Br:i≠j)(hi:ss[i]?=some (.ow l1 (.nd k1 a1 BD)))(hj:ss[j]?=some (.ow l2 (.nd k2 a2 Ar))):
  Aj F H (.ref a1) (.nd k1 a1 BD)/\Aj F H (.ref a2) (.nd k2 a2 Ar)/\((OV.nd k1 a1 BD).addrs++(OV.nd k2 a2 Ar).addrs).Nodup/\∀ a∈(OV.nd k1 a1 BD).addrs++(OV.nd k2 a2 Ar).addrs,F a=none/\(E.H0 a=none∨a∈E.B):=by
 obtain ⟨v1,x1,r1,n1,q1⟩:=S.ok i _ hi;obtain ⟨v2,x2,r2,n2,q2⟩:=S.ok j _ hj;have e1:v1=.ref a1:=by cases r1;rfl
 have e2:v2=.ref a2:=by cases r2;rfl
 subst e1;subst e2;refine ⟨r1,r2,List.nodup_append.mpr ⟨n1,n2,fun x hx y hy e=>S.BP i j _ _ x Br hi hj hx (by rw [e];exact hy)⟩,fun a ha=>?_⟩;rcases List.mem_append.mp ha with h | h
 ·exact ⟨(q1 a h).1,(q1 a h).2.imp id fun z=>z.2⟩
 ·exact ⟨(q2 a h).1,(q2 a h).2.imp id fun z=>z.2⟩
theorem xB (Br:i≠j)(hi:ss[i]?=some (.ow l1 (.nd k1 a1 BD)))(hj:ss[j]?=some (.ow l2 (.nd k2 a2 Ar)))(h:Wp ss te fun p=>kk p (.nd k1 a1 BD) (.nd k2 a2 Ar)):Ws ss (Gu te) nx (.Ea kk):=⟨fun E D σ F H S hn hr=>
 h.go E σ F H _ S fun v p F1 H1 m1 r kp=>by
  obtain ⟨r1,r2,nd,qa⟩:=m1.st.two Br hi hj;exact hr v F1 H1 m1.st.toFin ⟨p,.nd k1 a1 BD,.nd k2 a2 Ar,r,r1,r2,nd,qa,kp⟩⟩
theorem ON (Br:i≠j)(hi:ss[i]?=some (.ow l1 t))(hj:ss[j]?=some (.ow l2 (.nd k2 a2 Ar)))(h:Wm ss i l1 t te fun p t'=>∃ k' a' us',t'=.nd k' a' us'/\kk p t' (.nd k2 a2 Ar)):Ws ss (Gu te) nx (.Ea kk):=⟨fun E D σ F H S hn hr=>
 h.go E σ F H _ S fun v p t' F1 H1 m1 r AJ=>by
  obtain ⟨k',a',us',e,kp⟩:=AJ;subst e;have LP:i<ss.length:=(List.getElem?_eq_some_iff.mp hi).1;obtain ⟨r1,r2,nd,qa⟩:=m1.st.two Br (CZ LP) (by rw [CQ Br];exact hj);exact hr v F1 H1 m1.st.toFin ⟨p,.nd k' a' us',.nd k2 a2 Ar,r,r1,r2,nd,qa,kp⟩⟩
theorem lO {l:Bool}(Br:i≠j)(hi:i<ss.length)(hj:j<ss.length)(h:P0 ss t1 t2 (fun u1 u2=>(ss.set i (.ow l u1)).set j (.ow l u2)) te fun p u1 u2=>∃ k1 b1 BD k2 b2 Ar,u1=.nd k1 b1 BD/\u2=.nd k2 b2 Ar/\kk p u1 u2):Ws ss (Gu te) nx (.Ea kk):=⟨fun E D σ F H S hn hr=>
 h.go E σ F H _ S fun v p u1 u2 F1 H1 m1 r AJ=>by
  obtain ⟨k1,b1,BD,k2,b2,Ar,e1,e2,kp⟩:=AJ;subst e1;subst e2;obtain ⟨r1,r2,nd,qa⟩:=m1.st.two (i:=i) (j:=j) Br (by rw [CQ (BS Br),CZ hi]) (by rw [CZ (by rw [Fp];exact hj)]);exact hr v F1 H1 m1.st.toFin ⟨p,.nd k1 b1 BD,.nd k2 b2 Ar,r,r1,r2,nd,qa,kp⟩⟩
end
end Fz
namespace L2
theorem A8.alias {P:Program}{w:World}{K:ZE5}{mg:ZE7}{base:Heap}{x y:Str}{k:Nat}{ps:List Str}{sp:Sp}{v:Option Value}(h:A8 P w K mg base x k ps sp)(e:mg x=v)(e':mg y=v):A8 P w K mg base y k ps sp:=by
 obtain ⟨f,fd,F,b,kp,m⟩:=h;exact ⟨f,fd,F,b,kp,e'.trans (e.symm.trans m)⟩
end L2
namespace Fz
open L2 Lw
variable {x:Str}{ss:List Slot}{T1 ta tb tc te:TE}{F H:Hp}{d:AN}{nx:List Slot->Prop}{R:Aq}{ps xs:List PV}{cs ns:List Str}{g i j m:Nat}{t u w y z:OV}{us:List OV}{C a a0 a2 aK:Addr}{pre:Pre}
def gX (x:Str):Prop:=(reprText x).length<=100000/\x.length<=1000
theorem zt (h:x.length<=100)(hx:∀ c∈x.cps.toList,c<16 ^ 8):gX x:=⟨sX h hx,by omega⟩
theorem xV (h:Nm x):∀ c∈x.cps.toList,c<16 ^ 8:=fun c hc=>Hu (h.2.2 c hc).2 (by decide)
theorem ju (K:ZE5){d:Nat}(r:Str)(g:Nat)(cs:List Str):dat K (d+2) (CS r g cs):=fun x hx=>by
 simp only [DT,Au,rV] at hx;rcases hx with rfl | rfl | rfl
 ·trivial
 ·trivial
 ·intro y hy;obtain ⟨z,_,rfl⟩:=List.mem_map.mp hy;cases d <;> trivial
theorem CU.step {r:Str}(h:CU ns r g cs):CU ns r (Kg ns g cs:Nat) (J9 ns g cs):=by
 unfold Kg J9;cases e:HI ns g cs with
 | none=>exact h
 | some x=>
  have hm:x∈Cy ns g cs:=by
   unfold HI at e;exact ZCw (by rw [e];rfl)
  obtain ⟨m1,m2⟩:=Nf.mp hm;have:=List.idxOf_lt_length_iff.mpr m1;exact ⟨h.rule,by show (0:Int)<=((ns.idxOf x+1:Nat):Int);omega,by show ((ns.idxOf x+1:Nat):Int)<=_;omega,XO x h.up,fun y hy=>h.sub y (Hy.mp hy).1⟩
section
variable [Xw]
theorem o6 {t:TT}{k k':Bool->Prop}(h:Wt ss t k')(hk:∀ b,k' b->k b):Wt ss t k:=⟨fun E σ F H Q S q=>h.go E σ F H Q S fun b F' H' m kb=>q b F' H' m (hk b kb)⟩
end
structure Il (m:Nat) (ns:List Str):Prop where
 len:ns.length<=m
 nm:∀ x∈ns,Nm x
 nd:ns.Nodup
theorem Il.done (h:Il m ns)(ok:d.Ok m ns):Il m (d.done ns):=by
 obtain ⟨a,b,c⟩:=AN.step ok h.nd h.nm h.len;exact ⟨c,b,a⟩
structure Lp where
 r:Str
 g:Nat
 cs:List Str
variable {l:Lp}
def Lp.P (l:Lp):PV:=CS l.r l.g l.cs
def DQ (ns:List Str):List Str:=ns.foldr (fun x r=>E5 r x) []
theorem Pq {x:Str}:∀ {ns:List Str},x∈DQ ns↔x∈ns
 | []=>Iff.rfl
 | y::r=>by
  show x∈E5 (DQ r) y↔_;rw [MB,Pq (ns:=r),DT]
theorem Ui:∀ {ns:List Str},ns.Nodup->Up (DQ ns)
 | [],_=>List.Pairwise.nil
 | y::r,h=>by
  obtain ⟨h1,h2⟩:=List.nodup_cons.mp h;exact O1 (Ui h2) fun z=>h1 (Pq.mp z)
theorem Pg {ts:List Str}(nd:ns.Nodup)(pm:ts.Perm ns)(st:sortedS ts=true):ts=DQ ns:=
 R7 (W0 st (pm.nodup_iff.mpr nd)) (Ui nd) fun k=>by rw [pm.mem_iff,Pq]
def Lp.led (ns:List Str)(d:AN)(l:Lp):Lp:=⟨l.r,d.gap ns l.g,d.Ej l.r l.g l.cs⟩
def Lp.FA (ns:List Str)(l:Lp):Lp:=⟨l.r,Kg ns l.g l.cs,J9 ns l.g l.cs⟩
def Lp.told (ns:List Str)(l:Lp):PV:=vG (HI ns l.g l.cs)
def Lp.Good (ns:List Str)(l:Lp):Prop:=CU ns l.r l.g l.cs
theorem lN {r:Str}(nd:ns.Nodup)(hr:r∈Cn):CU ns r (0:Nat) (DQ ns):=⟨hr,by decide,by show (0:Int)<=_;omega,Ui nd,fun x hx=>Pq.mp hx⟩
theorem iJ {k:Nat}(h:k<3):∃ r:Str,r∈Cn/\L2.Be [PV.str "none", .str "ahead", .str "all"] (k:Int)=some (.str r):=by
 have:k=0∨k=1∨k=2:=by omega
 rcases this with rfl | rfl | rfl
 ·exact ⟨_,by decide,rfl⟩
 ·exact ⟨_,by decide,rfl⟩
 ·exact ⟨_,by decide,rfl⟩
theorem PZ {l:List Str}(h:x∈l):l[l.idxOf x]?=some x:=by
 rw [BE (List.idxOf_lt_length_iff.mpr h),Xq]
def Ag (ns:List Str):List Key:=ns.map Sum.inr
def BV (ll:List Lp):List OV:=ll.map fun l=>.fz l.P
theorem PU (ns:List Str)(x:Str):G8 (Ag ns) (.inr x)=decide (x∈ns):=by
 unfold G8 Ag;rw [List.any_map]
 by_cases h:x∈ns
 ·rw [jO h];exact List.any_eq_true.mpr ⟨x,h,jO rfl⟩
 ·rw [jx h];rw [Bool.eq_false_iff];intro z;obtain ⟨y,hy,e⟩:=List.any_eq_true.mp z;have e2:(Sum.inr y:Key)=Sum.inr x:=jw e;injection e2 with e2
  exact h (e2▸hy)
theorem Jt:∀ {ns:List Str}{x:Str},x∈ns->C6 (Ag ns) (.inr x)=some (ns.idxOf x)
 | [],_,h=>absurd h Au
 | y::ns,x,h=>by
  unfold Ag;rw [Bs,C6,iX]
  by_cases c:y=x
  ·subst c;rw [jd rfl,show (y == y)=true from lx y];rfl
  ·rw [jG (fun e=>c (by injection e)),show (y == x)=false from beq_eq_false_iff_ne.mpr c];have h1:C6 (ns.map fun n:Str=>(Sum.inr n:Key)) (.inr x)=some (ns.idxOf x):=Jt ((List.mem_cons.mp h).resolve_left fun z=>c z.symm);have Cm:C6 (ns.map (Sum.inr:Str->Key)) (.inr x)=some (ns.idxOf x):=h1;rw [Cm];rfl
theorem aO:∀ {ns:List Str}{x:Str},x∉ns->C6 (Ag ns) (.inr x)=none
 | [],_,_=>rfl
 | y::ns,x,h=>by
  unfold Ag;rw [Bs,C6,jG (fun e=>h (by injection e with e;subst e;exact Cu))]
  have h1:C6 (ns.map (Sum.inr:Str->Key)) (.inr x)=none:=aO (ns:=ns) fun z=>h (Di _ z);rw [h1];rfl
theorem HL (h:ns.Nodup):(Ag ns).Nodup:=ZCe _ (fun a b (h:a≠b)=>fun z=>h (by injection z)) h
theorem gY (h:x∉ns):G7 (Ag ns) (.inr x)=Ag (ns++[x])/\Eo (Ag ns) us (.inr x) u=us++[u]:=by
 unfold Eo G7;rw [aO h,PU,jx h];exact ⟨by unfold Ag;rw [Dh];rfl,rfl⟩
theorem Z1 (h:x∈ns):G7 (Ag ns) (.inr x)=Ag ns/\Eo (Ag ns) us (.inr x) u=us.set (ns.idxOf x) u:=by
 unfold Eo G7;rw [Jt h,PU,jO h];exact ⟨rfl,rfl⟩
theorem OF (h:x∈ns):G7 (Ag ns) (.inr x)=Ag ns:=(Z1 (us:=[]) (u:=.fz .AB) h).1
theorem Pb (h:x∈ns):Eo (Ag ns) us (.inr x) u=us.set (ns.idxOf x) u:=(Z1 h).2
theorem T3 (h:x∉ns):G7 (Ag ns) (.inr x)=Ag (ns++[x]):=(gY (us:=[]) (u:=.fz .AB) h).1
theorem cy (h:x∉ns):Eo (Ag ns) us (.inr x) u=us++[u]:=(gY h).2
theorem Qo (ls:List Lp)(i:Nat)(l:Lp):(BV ls).set i (.fz l.P)=BV (ls.set i l):=by unfold BV;rw [List.map_set]
theorem SR {ls:List Lp}(h:ls[i]?=some l):(BV ls)[i]?=some (.fz l.P):=by unfold BV;rw [Ax,h];rfl
theorem cY {y:PV}:∀ {ns:List Str}{xs:List PV}{x:Str},x∈ns->xs[ns.idxOf x]?=some y->I0 (Ag ns) xs (.inr x)=some y
 | [],_,_,h,_=>absurd h Au
 | z::ns,xs,x,h,e=>by
  rw [iX] at e;unfold Ag
  by_cases c:z=x
  ·subst c;rw [show (z == z)=true from lx z] at e;cases xs with
   | nil=>cases e
   | cons w ws=>rw [Bs,I0,jd rfl];exact e
  ·rw [show (z == x)=false from beq_eq_false_iff_ne.mpr c] at e;cases xs with
   | nil=>cases e
   | cons w ws=>
    rw [Bs,I0,jG (fun q=>c (by injection q))];exact cY ((List.mem_cons.mp h).resolve_left fun q=>c q.symm) e
theorem bc (ns:List Str):ES (.tup (ns.map .str))=true:=by
 rw [ES]
 induction ns with
 | nil=>rfl
 | cons x ns ih=>rw [Bs,FQ,ih];rfl
def WD:Pre:=fun l R=>l=[.AD]/\R=.is fun p=>∃ r,p=.str r/\r∈Cn
theorem YJ (ns:List Str):(Ag ns).map Gg=ns.map PV.str:=by
 unfold Ag;rw [HC];rfl
theorem Zb:∀ ns:List Str,(DQ ns).length=ns.length
 | []=>rfl
 | x::r=>by
  show (E5 (DQ r) x).length=_;rw [Yu,Zb r];rfl
def ee:Sp:=fun vs H Q _=>∃ (a:Addr) (tp:Bool) (ns:List Str) (lo hi:Nat),vs=[.ref a,.int lo,.int hi]/\H a=some (BM tp (ns.map V.str))/\tp=false/\ns.length<=1000/\lo<=hi/\hi<=ns.length/\IC H Q (Ek ns lo hi)
def Uh:Sp:=fun vs H Q _=>∃ (a t:Addr) (tp:Bool) (ns:List Str) (d:AN),vs=[.ref a,.ref t]/\H a=some (BM tp (ns.map V.str))/\H t=some (.tup d.vals)/\tp=false/\d.Ok 40 ns/\ns.length<=40/\IC H Q (d.done ns)
section
variable [Xw]
variable {K:ZE5}{k:PV->Prop}
theorem zw {k:List PV->Prop}(h:Wz ss te fun tp xs=>tp=false/\k (JS xs)):Wi ss (Sk K (AV te B5)) k:=⟨fun E σ F H R S q=>
 h.go E σ F H _ S fun v tp xs F1 H1 m1 f AJ=>by
  obtain ⟨et,kk⟩:=AJ;subst et;obtain ⟨l,vs,ev,hl,r⟩:∃ l vs,v=.ref l/\(∀ (ss:List Slot) (σ:L2.St) (F H:Hp),A7 F1 F->Sg E ss σ F H->H l=some (.lst vs))/\AM F1 vs xs:=by
   obtain ⟨l,vs,e,h1,r⟩:=f;refine ⟨l,vs,e,fun ss σ F H s S=>?_,r⟩;rcases h1 with h1 | ⟨hA,h1⟩
   ·exact S.fh _ _ (s _ _ h1)
   ·exact S.keep _ _ hA h1
  subst ev;refine ⟨l,vs,rfl,AF.of (hl ss σ F1 H1 (A7.refl _) m1.st),q _ (JS xs) F1 H1 m1 ⟨fun ss σ F H i s S hi=>?_,fun ss σ F H s S=>?_,fun ss σ F H i x H' s S hi y=>?_⟩ kk⟩
  ·rw [X8] at hi;exact ⟨AF.of (hl ss σ F H s S),by rw [r.length];exact hi⟩
  ·refine ⟨AF.of (hl ss σ F H s S),?_⟩;rw [X8,r.length];exact Ao _
  ·obtain ⟨p,y,hy,ex,hp,eH⟩:=y;subst ex;subst eH;obtain ⟨z,hz,rz⟩:=r.get' hy;have m:=S.alloc hp (.tup [.int i,y]);exact ⟨_,_,cJ hz,m,.tup AE (.cons (.int _) (.one (rz.mono (s.trans m.ff))))⟩⟩
theorem ZBm {k:List PV->Prop}(h:Wq ss ta fun tp xs=>tp=false/\∃ ns:List Str,xs=ns.map PV.str/\Wp ss tb fun p=>∃ d:AN,p=dP d/\d.Ok 40 ns/\ns.length<=40/\k ((d.done ns).map PV.str)):
  Wn ss (Bz Uh [] E0 (AV ta (AV tb B5))) k:=⟨fun E σ F H Q S q=>
 h.go E σ F H _ S fun v tp xs F1 H1 m1 sv ⟨Jc,ns,ex,h2⟩=>h2.go E σ F1 H1 _ m1.st fun v2 p2 F2 H2 m2 r2 ⟨d,em,hd,hz,kk⟩=>by
  subst ex;subst em;obtain ⟨l,vs,ev,hl,r⟩:=(sv.mv m2).seq m2.st;subst ev;rw [r.strs] at hl;obtain ⟨t,et,ht⟩:=Od r2;subst et;refine ⟨l,t,tp,ns,d,rfl,hl,m2.st.fh _ _ ht,Jc,hd,hz,fun a H3 ha s e3=>?_⟩;have m3:=m2.st.grow s;exact q a _ _ F2 H3 (m1.trans (m2.trans m3)) (m2.st.BH ha) ((m1.trans m2).none ha) e3 (Jb _) kk⟩
end
def yN:List Str:=["standing","kept","past","forgotten"]
theorem QM:∀ ps:List PV,OV.FK (ps.map .fz)=ps
 | []=>rfl
 | p::ps=>by rw [Bs,OV.FK,OV.pv,QM ps]
theorem YG (h:Nm x):gX x:=zt (by have:=h.2.1;omega) (xV h)
theorem ZBf {k:Nat}(h:k<=ns.length):IJ ns none (some (k:Int))=ns.take k:=by
 unfold IJ;rw [show HT.Ae ns.length 0 none=0 from rfl,Xl,Y2]
 congr 1
 simp only [HT.Ae];split <;> omega
structure Yd where
 row:List Str
 ln:List Str
 ll:List Lp
 pa:List PV
 fg:Nat
variable {s:Yd}
structure Yd.Ok (m:Nat) (s:Yd):Prop where
 row:Il m s.row
 m4:m<=40
 l1:s.ln.length=s.ll.length
 n1:s.ln.Nodup
 G6:s.ln.length<=12
 good:∀ l∈s.ll,l.Good s.row
 nm:∀ x∈s.ln,Nm x
def y0 (ns:List Str):Yd:=⟨ns,[],[],[],0⟩
def Yd.L5 (s:Yd)(x r:Str):Yd:=⟨s.row,s.ln++[x],s.ll++[⟨r,0,DQ s.row⟩],s.pa,s.fg⟩
def Yd.LX (s:Yd)(x:Str):Yd:=⟨s.row,s.ln.eraseIdx (s.ln.idxOf x),s.ll.eraseIdx (s.ln.idxOf x),s.pa,s.fg⟩
def Yd.FA (s:Yd)(x:Str)(l:Lp):Yd:=⟨s.row,s.ln,s.ll.set (s.ln.idxOf x) (l.FA s.row),s.pa,s.fg⟩
def Ec (s:Yd)(d:AN)(i:Nat):List Lp:=(s.ll.take i).map (Lp.led s.row d)++s.ll.drop i
def Yd.mid (s:Yd)(d:AN)(i:Nat):Yd:=⟨s.row,s.ln,Ec s d i,s.pa,s.fg⟩
def ME (ns:List Str)(d:AN):PV:=.tup [.lst (ns.map .str),dP d]
def Yd.act (s:Yd)(d:AN):Yd:=⟨d.done s.row,s.ln,s.ll.map (Lp.led s.row d),s.pa++[ME s.row d],s.fg⟩
theorem fZ (s:Yd)(d:AN):Ec s d s.ll.length=s.ll.map (Lp.led s.row d):=by
 unfold Ec;rw [Lo,List.drop_length,EW]
theorem Yf (s:Yd)(d:AN)(i:Nat):(Ec s d i).length=s.ll.length:=by
 unfold Ec;rw [Bl,Ab,C1,Dz];omega
theorem ZT (h:s.ll[i]?=some l):(Ec s d i)[i]?=some l:=by
 have hi:=(List.getElem?_eq_some_iff.mp h).1;unfold Ec;rw [Lk (by rw [Ab,C1];omega),Ab,C1,ZCn,show i+(i - min i s.ll.length)=i by omega];exact h
theorem bX (h:s.ll[i]?=some l):(Ec s d i).set i (l.led s.row d)=Ec s d (i+1):=by
 obtain ⟨hi,e⟩:=List.getElem?_eq_some_iff.mp h;unfold Ec;rw [List.set_append_right _ _ (by rw [Ab,C1];omega),Ab,C1,show i - min i s.ll.length=0 by omega,ZCi hi,RJ,Xx hi,Dh,C8,e];rfl
theorem Yd.Ok.L5 (h:s.Ok m){r:Str}(hx:x∉s.ln)(nx:Nm x)(hr:r∈Cn)(hl:s.ln.length<12):(s.L5 x r).Ok m:=by
 refine ⟨h.row,h.m4,?_,?_,?_,fun l hl=>?_,fun y hy=>?_⟩
 ·show (s.ln++[x]).length=(s.ll++[_]).length;rw [Bl,Bl,h.l1];rfl
 ·refine List.nodup_append.mpr ⟨h.n1,by simp,fun a ha b hb e=>?_⟩;rw [List.mem_singleton.mp hb] at e;subst e;exact hx ha
 ·show (s.ln++[x]).length<=12;rw [Bl];exact hl
 ·rcases List.mem_append.mp hl with z | z
  ·exact h.good l z
  ·rw [List.mem_singleton.mp z];exact lN h.row.nd hr
 ·rcases List.mem_append.mp hy with z | z
  ·exact h.nm y z
  ·rw [List.mem_singleton.mp z];exact nx
theorem Yd.Ok.LX (h:s.Ok m)(x:Str):(s.LX x).Ok m:=by
 refine ⟨h.row,h.m4,?_,h.n1.sublist (ZCk _ _),Ci (ZCk _ _).length_le h.G6,fun l hl=>h.good l (ZCv hl),fun y hy=>h.nm y (ZCv hy)⟩;show (s.ln.eraseIdx _).length=(s.ll.eraseIdx _).length;rw [ZCq,ZCq,h.l1]
theorem Yd.Ok.FA (h:s.Ok m)(hl:l∈s.ll):(s.FA x l).Ok m:=by
 refine ⟨h.row,h.m4,?_,h.n1,h.G6,fun l' Dc=>?_,h.nm⟩
 ·show s.ln.length=(s.ll.set _ _).length;rw [Fp];exact h.l1
 ·rcases ZCy Dc with z | z
  ·exact h.good l' z
  ·rw [z];exact (uZ (h.good l hl)).1
theorem Yd.Ok.act (h:s.Ok m)(hd:d.Ok m s.row)(h4:d.Ok 40 s.row):(s.act d).Ok m:=by
 refine ⟨h.row.done hd,h.m4,?_,h.n1,h.G6,fun l hl=>?_,h.nm⟩
 ·show s.ln.length=(s.ll.map _).length;rw [Ab];exact h.l1
 ·obtain ⟨l0,RQ,rfl⟩:=List.mem_map.mp hl;exact (h.good l0 RQ).led h4 h.row.nd
theorem wq (h:Il m ns)(hm:m<=40):(y0 ns).Ok m:=⟨h,hm,rfl,Nw,C2 _,fun l hl=>absurd hl Au,fun l hl=>absurd hl Au⟩
def DP:List Key:=[.inr "row", .inr "kept", .inr "past"]
def B4 (s:Yd)(a aK aP:Addr):OV:=.nd (.Am DP) a [.fz (.lst (s.row.map .str)),.nd (.Am (Ag s.ln)) aK (BV s.ll),.nd .lst aP (s.pa.map .fz)]
def Ge (s:Yd)(a:Addr)(t:OV):Prop:=∃ aK aP,t=B4 s a aK aP
def Rt (s:Yd):PV:=.Am DP [.lst (s.row.map .str),.Am (Ag s.ln) (s.ll.map Lp.P),.lst s.pa]
def B1 (s:Yd)(C a dx aK aP:Addr):OV:=.nd (.obj C dx yN) a [.fz (.lst (s.row.map .str)),.nd (.Am (Ag s.ln)) aK (BV s.ll),.nd .lst aP (s.pa.map .fz),.fz (.int s.fg)]
def Dk (s:Yd)(C a:Addr)(t:OV):Prop:=∃ dx aK aP,t=B1 s C a dx aK aP
def JP (s:Yd)(C:Addr):PV:=.obj C yN [.lst (s.row.map .str),.Am (Ag s.ln) (s.ll.map Lp.P),.lst s.pa,.int s.fg]
theorem aE (ll:List Lp):OV.FK (BV ll)=ll.map Lp.P:=by
 unfold BV;rw [show (ll.map fun l=>OV.fz l.P)=(ll.map Lp.P).map .fz by rw [HC];rfl,QM]
theorem JW (s:Yd)(C a dx aK aP:Addr):(B1 s C a dx aK aP).pv=JP s C:=by
 unfold B1 JP;simp only [OV.pv,OV.FK,QM,aE]
theorem R8 (s:Yd)(a aK aP:Addr):(B4 s a aK aP).pv=Rt s:=by
 unfold B4 Rt;simp only [OV.pv,OV.FK,QM,aE]
theorem Dk.nd {s:Yd}{C a:Addr}{t:OV}(h:Dk s C a t):∃ nk us,t=.nd nk a us:=by obtain ⟨dx,aK,aP,rfl⟩:=h;exact ⟨_,_,rfl⟩
theorem Ge.nd {s:Yd}{a:Addr}{t:OV}(h:Ge s a t):∃ nk us,t=.nd nk a us:=by obtain ⟨aK,aP,rfl⟩:=h;exact ⟨_,_,rfl⟩
section
variable [Xw]
variable {lt:Bool}{K:ZE5}{dx aP:Addr}{k:List Nat->OV->Prop}
theorem Nc (hi:ss[i]?=some (.ow lt (B1 s C a dx aK aP)))(oc:C4 K C)(na:Bu K C "standing")(h:k ([]++[0]) (.fz (.lst (s.row.map .str)))):Wl ss i (B1 s C a dx aK aP) (Jz K (BL i) "standing") k:=Vj (Cw hi ⟨C,dx,yN,a,_,0,_,rfl,oc,na,by decide +kernel,rfl,h⟩)
theorem II (hi:ss[i]?=some (.ow lt (B1 s C a dx aK aP)))(oc:C4 K C)(na:Bu K C "kept")(h:k ([]++[1]) (.nd (.Am (Ag s.ln)) aK (BV s.ll))):Wl ss i (B1 s C a dx aK aP) (Jz K (BL i) "kept") k:=Vj (Cw hi ⟨C,dx,yN,a,_,1,_,rfl,oc,na,by decide +kernel,rfl,h⟩)
theorem xY (hi:ss[i]?=some (.ow lt (B1 s C a dx aK aP)))(oc:C4 K C)(na:Bu K C "past")(h:k ([]++[2]) (.nd .lst aP (s.pa.map .fz))):Wl ss i (B1 s C a dx aK aP) (Jz K (BL i) "past") k:=Vj (Cw hi ⟨C,dx,yN,a,_,2,_,rfl,oc,na,by decide +kernel,rfl,h⟩)
theorem JT (hi:ss[i]?=some (.ow lt (B4 s a aK aP)))(h:k ([]++[0]) (.fz (.lst (s.row.map .str)))):Wl ss i (B4 s a aK aP) (Fy (BL i) (tC (V.str "row"))) k:=Lc (Cw hi ⟨DP,a,_,rfl,IX ⟨.inr "row", 0,_,rfl,by decide +kernel,rfl,h⟩⟩)
theorem ID (hi:ss[i]?=some (.ow lt (B4 s a aK aP)))(h:k ([]++[1]) (.nd (.Am (Ag s.ln)) aK (BV s.ll))):Wl ss i (B4 s a aK aP) (Fy (BL i) (tC (V.str "kept"))) k:=Lc (Cw hi ⟨DP,a,_,rfl,IX ⟨.inr "kept", 1,_,rfl,by decide +kernel,rfl,h⟩⟩)
theorem wD (hi:ss[i]?=some (.ow lt (B4 s a aK aP)))(h:k ([]++[2]) (.nd .lst aP (s.pa.map .fz))):Wl ss i (B4 s a aK aP) (Fy (BL i) (tC (V.str "past"))) k:=Lc (Cw hi ⟨DP,a,_,rfl,IX ⟨.inr "past", 2,_,rfl,by decide +kernel,rfl,h⟩⟩)
end
theorem Q3 {k:NK}{x:OV}:(OV.nd k a [x,y,z,w]).put [1] u=.nd k a [x,u,z,w]:=by rw [OV.Gx (x:=y) rfl,OV.EE];rfl
theorem zg {k:NK}{x:OV}:(OV.nd k a [x,y,z,w]).put [2] u=.nd k a [x,y,u,w]:=by rw [OV.Gx (x:=z) rfl,OV.EE];rfl
def Tr (C:Addr):Pre:=fun l R=>∃ (a dx:Addr) (ns:List Str),l=[.ow true (.nd (.obj C dx []) a []),.is (.lst (ns.map .str))]/\Il 40 ns/\R=.mt fun p t'=>p=.AB/\∃ aK aP,t'=B1 (y0 ns) C a dx aK aP
def Tw:Pre:=fun l R=>∃ ns:List Str,l=[.is (.lst (ns.map .str))]/\Il 40 ns/\R=.is fun p=>p=.AB
def Ta (C:Addr):Pre:=fun l R=>∃ (m:Nat) (s:Yd) (a:Addr) (t:OV) (x r:Str),l=[.ow true t,.is (.str x),.is (.str r)]/\Dk s C a t/\s.Ok m/\x∉s.ln/\Nm x/\r∈Cn/\s.ln.length<12/\R=.mt fun p t'=>p=.AB/\Dk (s.L5 x r) C a t'
def WW (C:Addr):Pre:=fun l R=>∃ (m:Nat) (s:Yd) (a:Addr) (t:OV) (x:Str),l=[.ow true t,.is (.str x)]/\Dk s C a t/\s.Ok m/\x∈s.ln/\R=.mt fun p t'=>p=.AB/\Dk (s.LX x) C a t'
def V3 (C:Addr):Pre:=fun l R=>∃ (m:Nat) (s:Yd) (a:Addr) (t:OV) (x:Str) (lo:Lp),l=[.ow true t,.is (.str x)]/\Dk s C a t/\s.Ok m/\x∈s.ln/\s.ll[s.ln.idxOf x]?=some lo/\R=.mt fun p t'=>p=lo.told s.row/\Dk (s.FA x lo) C a t'
def Wy (C:Addr):Pre:=fun l R=>∃ (m:Nat) (s:Yd) (a:Addr) (t:OV) (d:AN),l=[.ow true t,.is (dP d)]/\Dk s C a t/\s.Ok m/\d.Ok 40 s.row/\s.pa.length<=1000/\R=.mt fun p t'=>p=.AB/\Dk (s.act d) C a t'
def MH (C:Addr):Pre:=fun l R=>∃ (s:Yd) (x:Str) (lo:Lp),l=[.is (JP s C),.is (.str x)]/\x∈s.ln/\s.ll[s.ln.idxOf x]?=some lo/\s.ln.length=s.ll.length/\R=.is fun p=>p=lo.P
def VH (C:Addr):Pre:=fun l R=>∃ s:Yd,l=[.is (JP s C)]/\R=.new fun xs=>xs=s.row.map .str
def VA (C:Addr):Pre:=fun l R=>∃ (m:Nat) (s:Yd),l=[.is (JP s C)]/\s.Ok m/\R=.new fun xs=>xs=(DQ s.ln).map .str
def V9 (C:Addr):Pre:=fun l R=>∃ s:Yd,l=[.is (JP s C)]/\s.pa.length<=2000/\R=.is fun p=>p=.int (s.fg+s.pa.length)
def S8:Pre:=fun l R=>∃ m:Nat,l=[.AD,.is (.int m)]/\1<=m/\m<=40/\R=.ow fun u=>∃ ns a,Il m ns/\Ge (y0 ns) a u
def OS (C:Addr):Pre:=fun l R=>∃ (m:Nat) (s:Yd) (a1 a2:Addr) (t1 t2:OV) (d:AN),l=[.ow true t1,.ow true t2,.is (dP d)]/\Dk s C a1 t1/\Ge s a2 t2/\s.Ok m/\d.Ok 40 s.row/\s.pa.length<=1000/\R=.Ea fun p u1 u2=>p=.bl true/\Dk (s.act d) C a1 u1/\Ge (s.act d) a2 u2
def U0 (C:Addr):Pre:=fun l R=>∃ (m:Nat) (s:Yd) (a1 a2:Addr) (t1 t2:OV),l=[.AD,.ow true t1,.ow true t2,.is (.int m)]/\1<=m/\Dk s C a1 t1/\Ge s a2 t2/\s.Ok m/\s.pa.length<=1000/\R=.Ea fun p u1 u2=>p=.bl true/\∃ s',Yd.Ok m s'/\s'.pa.length<=s.pa.length+1/\s'.fg=s.fg/\Dk s' C a1 u1/\Ge s' a2 u2
def TF (C:Addr):Pre:=fun l R=>∃ (m:Nat) (s:Yd) (a1 a2:Addr) (t1 t2:OV),l=[.ow true t1,.ow true t2]/\Dk s C a1 t1/\Ge s a2 t2/\s.Ok m/\s.fg=0/\s.pa.length<=1000/\R=.Ea fun p u1 u2=>p=.bl true/\u1=t1/\u2=t2
def WN:Pre:=fun l R=>∃ lo:Lp,l=[.is lo.P,.is lo.P]/\R=.is fun p=>p=.bl true
section
variable [Xw]
variable {k:PV->Prop}
theorem x6 (h:Wp ss te fun p=>∃ r:Str,p=.str r/\r∈Cn/\k .AB):Wp ss (Bz OI [] E0 (AV te B5)) k:=⟨fun E σ F H Q S q=>
 h.go E σ F H _ S fun v p F1 H1 m1 r1 AJ=>by
  obtain ⟨r,e,hr,kk⟩:=AJ;subst e;cases r1.inv;exact ⟨r,rfl,hr,q _ _ F1 H1 m1 .AB kk⟩⟩
end
theorem ZBn (nd:ns.Nodup){k:Nat}(e:ns[k]?=some x):x∉ns.take k:=fun h=>by
 have n2:=nd;rw [<- KL k ns] at n2;refine (List.nodup_append.mp n2).2.2 x h x (DK (i:=0) ?_) rfl;rw [ZCn];exact e
theorem MD {α β:Type}(f:α->β):∀ (l:List α) (i:Nat),(l.map f).eraseIdx i=(l.eraseIdx i).map f
 | [],_=>rfl
 | _::_,0=>rfl
 | a::l,i+1=>by rw [Bs,Xm,Xm,Bs,MD f l i]
theorem bM (l:Lp):ES l.P=true:=by
 have h:=bc l.cs;unfold Lp.P CS;rw [ES,FQ,FQ,FQ,h];rfl
theorem ZP (ns:List Str)(l:Lp):JB ns l.r l.g l.cs=.tup [l.told ns,(l.FA ns).P]:=by
 unfold JB Lp.told Lp.FA Lp.P HI Kg J9;unfold HI;cases e:Cy ns l.g l.cs with
 | nil=>rfl
 | cons x r=>rfl
theorem lb:G7 DP (.inr "row")=DP:=by decide +kernel
theorem tL {x:OV}:Eo DP [x,y,z] (.inr "row") w=[w,y,z]:=by
 unfold Eo;rw [show C6 DP (.inr "row")=some 0 by decide +kernel];rfl
section
variable [Xw]
variable {lt:Bool}{k:PV->OV->Prop}
theorem Rn (h:Wm ss i lt t te fun p t'=>p=.AB/\k (.bl true) t'):Wm ss i lt t (Bx (fun x y H Q=>y=V.AB/\Q (V.bl (decide (x=V.AB))) H) te (tC V.AB)) k:=⟨fun E σ F H Q S q=>
 h.go E σ F H _ S fun v p t' F1 H1 m1 r AJ=>by
  obtain ⟨e,kk⟩:=AJ;subst e;cases r.inv;refine ⟨rfl,?_⟩;rw [jO rfl];exact q _ _ t' F1 H1 m1 (.bl true) kk⟩
variable {y:PV}
theorem oX (Br:i≠j)(hj:ss[j]?=some (.is y))(h:Wm ss i lt t te fun p t'=>Hb p y=true/\k (.bl (alike p y)) t'):Wm ss i lt t (Bx Uk te (BL j)) k:=⟨fun E σ F H Q S q=>
 h.go E σ F H _ S fun v p t' F1 H1 m1 r1 AJ=>by
  obtain ⟨hs,kk⟩:=AJ;obtain ⟨v2,e,r2⟩:=m1.st.ok j (.is y) (by rw [CQ Br];exact hj);refine ⟨v2,e,?_⟩;have sc:=hs;unfold Hb at sc;rw [Dg,Dg] at sc;rw [r1.enc sc.1.1,r2.enc sc.1.2];refine ⟨sc.2,?_⟩;rw [U4 hs];exact q _ _ t' F1 H1 m1 (.bl _) kk⟩
end
theorem ZBh (ns:List Str)(l:Lp):Hb (l.told ns) (l.told ns)=true/\alike (l.told ns) (l.told ns)=true:=by
 unfold Lp.told;cases HI ns l.g l.cs with
 | none=>exact ⟨rfl,rfl⟩
 | some x=>exact ⟨rfl,by show decide (x=x)=true;exact jO rfl⟩
theorem YL (ns:List Str):FQ (ns.map .str)=true:=by
 have h:=bc ns
 rwa [ES] at h
theorem Sg.bare (fh:A7 F H){l:List Slot}{vs:List V}(hl:l.length=vs.length)(ok:∀ (n:Nat) s,l[n]?=some s->s=.any∨∃ v p,vs[n]?=some v/\s=.is p/\Rep F v p):Sg ⟨[],F,H,[]⟩ l (vs.map some) F H:=by
 refine ⟨⟨fh,A7.refl _,fun _ _ _ e=>e,fun _ _ e=>.inl e,fun x h=>absurd h Au,fun x h=>absurd h Au,fun x h=>absurd h Au,fun x h=>absurd h Au,fun x h=>absurd h Au,fun x h=>absurd h Au⟩,by rw [Ab];exact hl,fun n s hn=>?_,fun n j s u x Kl hn hj ms mu=>?_⟩
 ·rcases ok n s hn with rfl | ⟨v,p,hv,rfl,r⟩
  ·trivial
  ·rw [Ax,hv];exact ⟨v,rfl,r⟩
 ·rcases ok n s hn with rfl | ⟨v,p,hv,rfl,r⟩
  ·cases ms
  ·cases ms
def fq (F H:Hp):@Ent OK:=@Ent.mk OK ⟨[],F,H,[]⟩ fun _ _ _ _ _ _ _ _ _ d _=>d.elim
theorem iE {F:Hp}:∀ n:Nat,AM F (List.replicate n (V.bl true)) (List.replicate n (PV.bl true))
 | 0=>.nil
 | n+1=>by rw [ZCz,ZCz];exact .cons (.bl true) (iE n)
theorem ZBs {jS jY:Nat}{l1 l2:Bool}{u0 u2 tY:OV}{k:List PV->Prop}
  (hS:ss[jS]?=some (.ow l2 (.nd (.Am DP) a2 [u0,.nd (.Am (Ag ns)) aK (ps.map .fz),u2]))) (hY:ss[jY]?=some (.ow l1 tY)) (Br:jY≠jS) (nd:ns.Nodup) (hl:ns.length<=1000)
  (h1:∀ (n:Nat) x p,ns[n]?=some x->ps[n]?=some p->Wp [.any,.is tY.pv,.is (.str x)] T1 fun q=>q=p)
  (h2:∀ p∈ps,Wp [.is p,.is p] (Bz (BW pre) [] E0 (AV (BL 0) (AV (BL 1) B5))) fun q=>q=.bl true) (hk:k (List.replicate ns.length (.bl true))) :
  Wn ss (Xf (Im (Rf (Fy (BL jS) (tC (V.str "kept")))) [jS,jY] J6 (Bz (BW pre) [] E0 (AV T1 (AV (Fy (Fy (BL 0) (tC (V.str "kept"))) (BL 2)) B5))))) k:=⟨fun E σ F H Q S q=>by
 obtain ⟨v0,e0,r0,CF,q0⟩:=S.ok jS _ hS;obtain ⟨vY,eY,rY,ndY,qY⟩:=S.ok jY _ hY;obtain ⟨vs,rfl,ha,sd,ft,rr⟩:=r0.inv;obtain ⟨w0,gx,rfl,r1,rr⟩:=rr.inv;obtain ⟨w1,V2,rfl,r2,rr⟩:=rr.inv;obtain ⟨w2,iD,rfl,r3,rr⟩:=rr.inv;cases rr;obtain ⟨ws,rfl,hK,sd2,Mx,rk⟩:=r2.inv;have FV:H a2=some (.dK (DP.zip [w0,.ref aK,w2])):=ha;have X9:H aK=some (.dK ((Ag ns).zip ws)):=hK;have fl:(Ag ns).length=ws.length:=Mx;have kl:(Ag ns).length=ns.length:=by unfold Ag;rw [Ab]
 have rv:=eL rk;have eS:aK∈(OV.nd (.Am DP) a2 [u0,.nd (.Am (Ag ns)) aK (ps.map .fz),u2]).addrs:=by
  simp [OV.addrs,OV.AZ]
 have nY:aK∉tY.addrs:=fun z=>S.BP jY jS _ _ aK Br hY hS z eS;have nf:A7 F (BQ F H tY.addrs):=fun b u e=>by
  unfold BQ
  by_cases c:b∈tY.addrs
  ·rw [(qY b c).1] at e;cases e
  ·rw [jG c];exact e
 have rP:Rep (BQ F H tY.addrs) vY tY.pv:=rY.rep nf fun a ha o ho=>by unfold BQ;rw [jd ha];exact ho
 have fK:BQ F H tY.addrs aK=none:=by unfold BQ;rw [jG nY];exact (q0 aK eS).1
 have fH:A7 (BQ F H tY.addrs) H:=fun b u e=>by
  unfold BQ at e
  by_cases c:b∈tY.addrs
  ·rw [jd c] at e;exact e
  ·rw [jG c] at e;exact S.fh b u e
 have dg:∀ H':Hp,H' a2=some (.dK (DP.zip [w0,.ref aK,w2]))->Eg H' a2 (.str "kept") (some (.ref aK)):=fun H' h=>.inl ⟨_,.inr "kept", .inl h,rfl,(Vx (n:=1) (by decide +kernel) rfl rfl).symm⟩;refine ⟨aK,_,X9,.ref a2,e0,a2,.ref aK,rfl,dg H FV,aK,_,rfl,X9,fun o acc Ai=>?_⟩;have na:acc≠aK:=fun z=>by rw [z,AE] at Ai;cases Ai
 have Kk:H acc=none:=by rw [AX na] at Ai;exact Ai
 have yi:a2≠aK:=fun z=>by
  have:=CF;rw [z] at this;simp [OV.addrs,OV.AZ] at this
 have zl:((Ag ns).zip ws).length=ws.length:=by rw [Nv];omega
 refine ⟨fun n m H2=>m=ws.length - n/\n<=ws.length/\H2 acc=some (.lst (List.replicate n (V.bl true)))/\∀ b u,b≠acc->upd H aK (.CG o (.dK ((Ag ns).zip ws))) b=some u->H2 b=some u,⟨_,rfl,C2 _,AE,fun b u hb e=>by rw [AX hb];exact e⟩,?_⟩;rintro n m H2 ⟨rfl,hn,hA,hX⟩;have Pr:H2 aK=some (.CG o (.dK ((Ag ns).zip ws))):=hX aK _ (BS na) AE;have sI:BQ F H tY.addrs acc=none:=by
  cases e:BQ F H tY.addrs acc with
  | none=>rfl
  | some u=>rw [fH _ _ e] at Kk;cases Kk
 have xy:A7 (BQ F H tY.addrs) H2:=fun b u e=>by
  refine hX b u (fun z=>by rw [z,sI] at e;cases e) ?_;rw [AX (fun z=>by rw [z,fK] at e;cases e)];exact fH b u e
 by_cases AQ:n<ws.length
 ·refine .inr ⟨⟨Pr,by rw [zl];exact AQ⟩,fun x H3 y=>?_⟩;obtain ⟨eH,key,v,Vo,ex⟩:=y;subst eH;subst ex;obtain ⟨g1,g2⟩:=Z6 Vo;unfold J6;dsimp only;rw [jd rfl];obtain ⟨x,hx,ek⟩:∃ x,ns[n]?=some x/\(Sum.inr x:Key)=key:=by
   unfold Ag at g1;rw [Ax] at g1;exact Option.map_eq_some_iff.mp g1
  subst ek;obtain ⟨p,hp,rp⟩:=rv.get' g2;have es:BZ [jS,jY] σ++[some (kV (.inr x))]=[V.ref a2,vY,.str x].map some:=by
   show [(σ[jS]?).join,(σ[jY]?).join]++_=_;rw [e0,eY];rfl
  rw [es];refine (h1 n x p hx hp).go (fq (BQ F H tY.addrs) H3) _ (BQ F H tY.addrs) H3 _ (Sg.bare xy rfl fun n s hn=>?_) fun v1 p1 F4 H4 m4 r4 e4=>?_
  ·match n,hn with
   | 0,hn=>cases hn;exact .inl rfl
   | 1,hn=>cases hn;exact .inr ⟨_,_,rfl,rfl,rP⟩
   | 2,hn=>cases hn;exact .inr ⟨_,_,rfl,rfl,.str x⟩
   | n+3,hn=>simp at hn
  subst e4;have np:∀ b,By [.any,.is tY.pv,.is (.str x)] ([V.ref a2,vY,.str x].map some) b:=fun b n hn=>by
   match n,hn with
   | 0,hn=>cases hn
   | 1,hn=>cases hn
   | 2,hn=>cases hn
   | n+3,hn=>simp at hn
  have k4:∀ b u,H3 b=some u->H4 b=some u:=fun b u e=>m4.hh b u (np b) e;have y8:H4 a2=some (.dK (DP.zip [w0,.ref aK,w2])):=k4 _ _ (hX a2 _ (fun z=>by rw [z,Kk] at FV;cases FV) (by rw [AX yi];exact FV));refine ⟨.ref a2,rfl,a2,.ref aK,rfl,dg H4 y8,kV (.inr x),rfl,aK,v,rfl,.inl ⟨_,.inr x,.inr ⟨o,k4 _ _ Pr⟩,rfl,(Vx (HL nd) g1 g2).symm⟩,?_⟩;have z:=(h2 p1 (DK hp)).go (fq F4 H4) ([v1,v].map some) F4 H4 (fun y H5=>∃ ys,H5 acc=some (.lst ys)/\ys.length<sizeLine/\∃ m',m' < ws.length - n/\(m'=ws.length - (n+1)/\n+1<=ws.length/\upd H5 acc (.lst (ys++[y])) acc=some (.lst (List.replicate (n+1) (V.bl true)))/\∀ b u,b≠acc->upd H aK (.CG o (.dK ((Ag ns).zip ws))) b=some u->upd H5 acc (.lst (ys++[y])) b=some u)) (Sg.bare m4.st.fh rfl fun n s hn=>?_) fun v5 p5 F5 H5 m5 r5 e5=>?_
  ·obtain ⟨_,ea,_,eb,z⟩:=z;cases ea;cases eb;exact z
  ·match n,hn with
   | 0,hn=>cases hn;exact .inr ⟨_,_,rfl,rfl,r4⟩
   | 1,hn=>cases hn;exact .inr ⟨_,_,rfl,rfl,(rp.mono nf).mono m4.ff⟩
   | n+2,hn=>simp at hn
  ·subst e5;cases r5;have qW:∀ b,By [.is p1,.is p1] ([v1,v].map some) b:=fun b n hn=>by
    match n,hn with
    | 0,hn=>cases hn
    | 1,hn=>cases hn
    | n+2,hn=>simp at hn
   have k5:∀ b u,H3 b=some u->H5 b=some u:=fun b u e=>m5.hh b u (qW b) (k4 b u e);refine ⟨_,k5 acc _ hA,LZ (by rw [Xs];omega),ws.length - (n+1),by omega,rfl,AQ,?_,fun b u hb e=>by rw [AX hb];exact k5 b u (hX b u hb e)⟩;rw [AE,ZD0]
 ·have e:n=ws.length:=by omega
  subst e;refine .inl ⟨⟨Pr,zl.symm⟩,o,_,Pr,?_⟩;have sm:A7 H (upd H2 aK (.dK ((Ag ns).zip ws))):=fun b u e=>by
   by_cases c:b=aK
   ·subst c;rw [AE,<- X9,e]
   ·rw [AX c];exact hX b u (fun z=>by rw [z,Kk] at e;cases e) (by rw [AX c];exact e)
  refine q acc _ _ F _ (S.grow sm) (S.BH Kk) Kk (by rw [AX na];exact hA) (iE _) ?_;rw [<- fl,kl];exact hk⟩
theorem OV.X2 {u:OV}:∀ {p:List Nat}{t:OV},t.at p=some u->t.put p u=t
 | [],t,h=>by rw [OV.G1] at h;cases h;rw [OV.EE]
 | j::p,.nd k a xs,h=>by
  rw [OV.Gj] at h;cases e:xs[j]? with
  | none=>rw [e] at h;cases h
  | some x=>
   rw [e] at h;rw [OV.Gx e,OV.X2 (t:=x) h];obtain ⟨hj,ex⟩:=List.getElem?_eq_some_iff.mp e;rw [<- ex,ij]
 | j::p,.tp xs,h=>by
  rw [OV.LR] at h;cases e:xs[j]? with
  | none=>rw [e] at h;cases h
  | some x=>
   rw [e] at h;rw [OV.Lr e,OV.X2 (t:=x) h];obtain ⟨hj,ex⟩:=List.getElem?_eq_some_iff.mp e;rw [<- ex,ij]
 | j::p,.fz q,h=>by rw [OV.at] at h;cases h
theorem set_same {α:Type}{l:List α}{x:α}(h:l[i]?=some x):l.set i x=l:=by
 obtain ⟨hj,ex⟩:=List.getElem?_eq_some_iff.mp h;rw [<- ex,ij]
section
variable [Xw]
variable {K:ZE5}{lt:Bool}
theorem tM {g:TG}(h:Wl ss i t te fun _ u=>gk ss g u nx):Ws ss (EX te g) nx R:=⟨fun E D σ F H S hn hr=>
 h.go E σ F H _ S fun v p u F1 H1 m1 r BA hg=>hg.go E σ F1 H1 v _ m1.st r fun AK σ' kk S'=>hn AK σ' F1 H1 kk S' m1.ff⟩
theorem nM {n1 n2 n3:Nat}{q:PV}{k1 k2:NK}{a1:Addr}{BD Ar:List OV}{k:List Slot->Prop}(h:k (((ss.set n1 (.raw (ptr a1))).set n2 (.raw (ptr a2))).set n3 (.is q))):gk ss (P8 K 3 (Jj (D1 n1) (Jj (D1 n2) (Jj (D1 n3) Qq)))) (.tp [.nd k1 a1 BD,.nd k2 a2 Ar,.fz q]) k:=⟨fun E σ F H v Q S r qq=>by
 obtain ⟨_,_,rfl,e,r⟩:=r.inv;obtain ⟨_,_,rfl,r1,r⟩:=r.inv;obtain ⟨_,_,rfl,r2,r⟩:=r.inv;obtain ⟨_,_,rfl,r3,r⟩:=r.inv;obtain rfl:=r.M6;have r3:Rep _ _ _:=r3.inv;obtain ⟨_,rfl,_,_,_,_⟩:=r1.inv;obtain ⟨_,rfl,_,_,_,_⟩:=r2.inv;refine ⟨_,_,rfl,AA.of (S.fh _ _ e),rfl,_,_,rfl,_,_,rfl,_,_,rfl,rfl,qq _ _ h ?_⟩;exact ((S.setG (j:=n1) (s:=.raw (ptr a1)) (v:=.ref a1) ⟨_,rfl,rfl,fun _ _ _ h=>h⟩ fun _ z=>by cases z).setG (j:=n2) (s:=.raw (ptr a2)) (v:=.ref a2) ⟨_,rfl,rfl,fun _ _ _ h=>h⟩ fun _ z=>by cases z).LO r3⟩
theorem ZAc {r:List V->Hp->VK->Prop}(hr:r=fun xs H Q=>∃ (p:Addr) (bs:List Bool),xs=[.ref p]/\AF K H p (bs.map V.bl)/\Q (.bl (bs.all id)) H){k:PV->OV->Prop}
  (hi:ss[i]?=some (.ow lt (.nd .lst a0 us))) (hl:us.length<=1000)
  (h:∀ u∈us,∃ k1 a1 BD k2 a2 Ar mp k',u=.tp [.nd k1 a1 BD,.nd k2 a2 Ar,.fz mp]/\pre [.ow true (.nd k1 a1 BD),.ow true (.nd k2 a2 Ar)] (.Ea k')/\∀ p u1 u2,k' p u1 u2->p=.bl true/\u1=.nd k1 a1 BD/\u2=.nd k2 a2 Ar)
  (hk:k (.bl true) (.nd .lst a0 us)) :
  Wm ss i lt (.nd .lst a0 us) (Ck r (AV (Im (Qf K (BL i)) [] J6 (Bz (CL pre) [] E0 (AV (Bx (Gf K) (BL 0) (tC (.int 0))) (AV (Bx (Gf K) (BL 0) (tC (.int 1))) B5)))) B5)) k:=⟨fun E σ F H Q S q=>by
 obtain ⟨v,e,r0,CF,q0⟩:=S.ok i _ hi;obtain ⟨vs,rfl,ha,sd,ft,rr⟩:=r0.inv;have FV:H a0=some (.lst vs):=ha;have lv:=rr.length;refine ⟨_,e,false,a0,vs,rfl,AF.of FV,fun acc Ai=>?_⟩;have GW:By ss σ acc:=S.J2 Ai;have XG:=S.D6 Ai;have OE:∀ (i:Nat) s,ss[i]?=some s->¬ B9 s σ[i]? acc:=fun i s hi=>S.Mi hi Ai;have mf:acc∉(OV.nd .lst a0 us).addrs:=fun z=>OE i _ hi z;have gp:a0≠acc:=fun z=>by rw [z,Ai] at FV;cases FV
 refine ⟨fun n m H2=>m=vs.length - n/\n<=vs.length/\∃ F2,Sg E ss σ F2 H2/\A7 F F2/\F2 acc=none/\H2 acc=some (.lst (List.replicate n (V.bl true)))/\H2 a0=some (.lst vs)/\(∀ a o,By ss σ a->a∉(OV.nd .lst a0 us).addrs->H a=some o->H2 a=some o)/\(∀ a o,F2 a=some o->F a=some o∨H a=none),⟨_,rfl,C2 _,F,(S.make Ai _).st,A7.refl _,S.BH Ai,AE,by rw [AX gp];exact FV,fun a o _ _ ea=>by rw [AX (DX ea Ai)];exact ea,fun a o ea=>.inl ea⟩,?_⟩;rintro n m H2 ⟨rfl,hn,F2,S2,YT,cj,hA,Pz,Mo,Yy⟩
 by_cases AQ:n<vs.length
 ·refine .inr ⟨⟨AF.of Pz,AQ⟩,fun x H3 y=>?_⟩;obtain ⟨eH,ex⟩:=y;subst eH;unfold J6;dsimp only;rw [jd rfl];obtain ⟨v2,e2,r2,Gr,q2⟩:=S2.ok i _ hi;rw [e] at e2;cases e2;obtain ⟨ws,_,hb,_,_,K4⟩:=r2.inv;have ew:ws=vs:=by
   have Bc:H3 a0=some (.lst ws):=hb;rw [Pz] at Bc;cases Bc;rfl
  subst ew;obtain ⟨u,hu,ru⟩:=K4.get' ex;obtain ⟨k1,a1,BD,k2,a2,Ar,mp,k',eu,hp,kk⟩:=h u (DK hu);subst eu;have BA:(OV.nd .lst a0 us).at [n]=some (.tp [.nd k1 a1 BD,.nd k2 a2 Ar,.fz mp]):=by rw [OV.Gj,hu];exact OV.G1
  have eU:(OV.tp [OV.nd k1 a1 BD,.nd k2 a2 Ar,.fz mp]).addrs=(OV.nd k1 a1 BD).addrs++(OV.nd k2 a2 Ar).addrs:=by rw [OV.E7,OV.Bf,OV.Bf,OV.Bf,OV.IL];simp [OV.AZ]
  obtain ⟨l0,Rc,s1,_⟩:=OV.split BA;rw [eU] at s1;have sub:∀ x∈(OV.nd k1 a1 BD).addrs++(OV.nd k2 a2 Ar).addrs,x∈(OV.nd .lst a0 us).addrs:=fun x hx=>by rw [s1];exact HD _ (D4 _ hx)
  have n3:(l0++((OV.nd k1 a1 BD).addrs++(OV.nd k2 a2 Ar).addrs)++Rc).Nodup:=by rw [<- s1];exact Gr
  have NW:=(List.nodup_append.mp (List.nodup_append.mp n3).1).2.1;obtain ⟨b,_,rfl,hF,rt⟩:=ru.inv;obtain ⟨w1,_,rfl,y1,rt⟩:=rt.inv;obtain ⟨w2,_,rfl,y2,rt⟩:=rt.inv;obtain ⟨w3,_,rfl,y3,rt⟩:=rt.inv;cases rt.M6;have z1:w1=.ref a1:=y1.inv.elim fun _ h=>h.1;have z2:w2=.ref a2:=y2.inv.elim fun _ h=>h.1;subst z1;subst z2;refine ⟨_,rfl,_,_,0,_,rfl,rfl,AA.of (S2.fh _ _ hF),rfl,_,rfl,_,_,1,_,rfl,rfl,AA.of (S2.fh _ _ hF),rfl,?_⟩;refine ⟨[.ow true (.nd k1 a1 BD),.ow true (.nd k2 a2 Ar)],.Ea k',F2,[],_,hp,S2.call2 (A:=[]) (vp:=.AB) (b:=false) (.inl ⟨rfl,rfl⟩) y1 y2 NW (fun x hx=>(q2 x (sub x hx)).1) (fun x _ hA=>absurd hA Au) (.one (.two .nil)),fun v F' H' f ⟨p,u1,u2,rp,o1,o2,X5,qa,kp⟩=>?_⟩;obtain ⟨rfl,rfl,rfl⟩:=kk p u1 u2 kp;cases rp;obtain ⟨S3,hh⟩:=S2.Zo (p:=[n]) (vp:=.AB) (.inl ⟨rfl,rfl⟩) hi BA f o1 o2 X5 qa;rw [OV.X2 BA,set_same hi] at S3;have c5:F' acc=none:=by
   cases e:F' acc with
   | none=>rfl
   | some o=>
    rcases f.fresh acc o e with w | w
    ·rw [show F2 acc=some o from w] at cj;cases cj
    ·have w':H3 acc=none:=w;rw [hA] at w';cases w'
  have na0:a0∉(OV.nd k1 a1 BD).addrs++(OV.nd k2 a2 Ar).addrs:=fun z=>by
   have nn:=Gr;rw [OV.Ct] at nn;obtain ⟨l1,Ff,g1,_⟩:=HJ hu;rw [eU] at g1;refine (List.nodup_cons.mp nn).1 (D4 _ ?_);rw [g1];exact HD _ (D4 _ z)
  have mD:H' a0=some (.lst ws):=hh a0 _ (S2.NT hi (by show a0∈(OV.nd .lst a0 us).addrs;rw [OV.Ct];exact Cu) (by simp)) na0 Pz;have ot:=hh acc _ GW (fun z=>mf (sub _ z)) hA;refine ⟨_,ot,LZ (by rw [Xs];omega),ws.length - (n+1),by omega,rfl,AQ,F',S3.Px c5 (.inl XG) OE,YT.trans f.f0,c5,?_,by rw [AX gp];exact mD,fun a o np nt ea=>?_,fun a o ea=>?_⟩
  ·rw [AE,ZD0]
  ·rw [AX (DX ea Ai)];exact hh a o np (fun z=>nt (sub _ z)) (Mo a o np nt ea)
  ·rcases f.fresh a o ea with w | w
   ·exact Yy a o w
   ·right
    have w':H3 a=none:=w;cases e:H a with
    | none=>rfl
    | some o'=>
     exfalso
     by_cases hm:a∈(OV.nd .lst a0 us).addrs
     ·exact absurd w' (by
       have r4:=S2.ok i _ hi;obtain ⟨_,_,r4,_,_⟩:=r4;exact r4.there a hm)
     ·rw [Mo a o' (S2.J2 w') hm e] at w';cases w'
 ·have en:n=vs.length:=by omega
  subst en;refine .inl ⟨⟨AF.of Pz,Ao _⟩,?_⟩;subst hr;refine ⟨acc,List.replicate vs.length true,rfl,AF.of (by rw [ZCt];exact hA),?_⟩;rw [show (List.replicate vs.length true).all id=true from List.all_eq_true.mpr fun b hb=>ZCj hb];exact q _ _ _ F2 H2 ⟨by rw [set_same hi];exact S2,YT,Mo,Yy⟩ (.bl true) hk⟩
end
def YU (C:Addr)(B:Nat)(u:OV):Prop:=∃ (m:Nat) (s:Yd) (a1 a2 dx aK aP bK bP:Addr),u=.tp [B1 s C a1 dx aK aP,B4 s a2 bK bP,.fz (.int m)]/\s.Ok m/\1<=m/\s.fg=0/\s.pa.length<=B
theorem YU.mono {B B':Nat}(h:YU C B u)(hB:B<=B'):YU C B' u:=by
 obtain ⟨m,s,a1,a2,dx,aK,aP,bK,bP,e,h1,h2,h3,h4⟩:=h;exact ⟨m,s,a1,a2,dx,aK,aP,bK,bP,e,h1,h2,h3,Ci h4 hB⟩
end Fz
set_option maxHeartbeats 8000000
namespace Pf
open L2 Lw
variable {w:World}{mg:ZE7}{A5 Ey f:Addr}{α:Type}{MJ S7 Tn WA:Tok}{l:PySem.W.OpenLaw}
abbrev St:=L2.St
def top (i:Nat):Stmt:=PySem.Challenge.pw_stirround_k62_yards_led.main.body.getD i (.Pass ⟨0,0,0,0⟩)
abbrev Oy:Stmt:=top 15
abbrev Rq:Stmt:=top 49
abbrev XD:Stmt:=HU (top 48) 0
abbrev UD:Stmt:=top 51
abbrev TJ:Stmt:=top 52
abbrev SY:Stmt:=top 53
abbrev Xc:Stmt:=top 54
abbrev Te:Stmt:=top 55
abbrev WM:Stmt:=top 56
abbrev Tt:Stmt:=top 66
abbrev Vq:Stmt:=top 40
abbrev UZ:Stmt:=top 34
abbrev VQ:Stmt:=HU (top 48) 4
abbrev Wj:Stmt:=HU (top 48) 6
abbrev V4:Stmt:=HU (top 48) 7
abbrev SJ:Stmt:=top 20
abbrev OR:Stmt:=top 42
abbrev Ug:Stmt:=top 33
abbrev Us:Stmt:=top 41
abbrev Oe:Stmt:=top 43
abbrev Rb:Stmt:=top 37
abbrev Q9:Stmt:=top 45
abbrev VF:Stmt:=top 17
abbrev Sq:Stmt:=top 39
abbrev X0:Stmt:=top 35
abbrev TX:Stmt:=HU (top 48) 5
abbrev Rx:Stmt:=top 22
abbrev WO:Stmt:=top 23
abbrev V8:Stmt:=top 24
abbrev Tf:Stmt:=top 21
abbrev Sa:Stmt:=top 27
abbrev Wr:Stmt:=top 25
abbrev RB:Stmt:=top 26
abbrev WT:Stmt:=top 18
abbrev SG:Stmt:=top 28
abbrev SF:Stmt:=top 29
abbrev Sd:Stmt:=top 19
abbrev Tj:Stmt:=top 46
abbrev Ts:Stmt:=top 44
abbrev VS:Stmt:=top 38
abbrev UO:Stmt:=HU (top 48) 3
abbrev R9:Stmt:=top 58
abbrev Ut:Stmt:=top 59
abbrev Qs:Stmt:=top 61
abbrev TB:Stmt:=top 68
abbrev U7:Stmt:=top 67
abbrev U8:Stmt:=top 60
abbrev Nd:Stmt:=top 62
abbrev SU:Stmt:=top 57
abbrev UW:Stmt:=top 69
abbrev U3:Stmt:=HU (top 48) 1
abbrev Wv:Stmt:=HU (top 48) 8
abbrev U6:Stmt:=HU (top 48) 2
abbrev Pj:Stmt:=top 64
abbrev Ro:Stmt:=top 63
abbrev Uz:Stmt:=top 65
abbrev Pe:Stmt:=top 70
abbrev Jy:Stmt:=top 71
variable {P:Program}{K:ZE5}{base:Heap}{fd:FuncData}
def ak {us:List α}(h:us.length=1):∃ a,us=[a]:=by
 rcases us with _ | ⟨a,_ | ⟨b,us⟩⟩
 ·cases h
 ·exact ⟨a,rfl⟩
 ·cases h
def ln2 {us:List α}(h:us.length=2):∃ a b,us=[a,b]:=by
 rcases us with _ | ⟨a,us⟩
 ·cases h
 ·obtain ⟨b,rfl⟩:=ak (RK h);exact ⟨a,b,rfl⟩
def dF {us:List α}(h:us.length=3):∃ a b c,us=[a,b,c]:=by
 rcases us with _ | ⟨a,us⟩
 ·cases h
 ·obtain ⟨b,c,rfl⟩:=ln2 (RK h);exact ⟨a,b,c,rfl⟩
def gm {us:List α}(h:us.length=4):∃ a b c d,us=[a,b,c,d]:=by
 rcases us with _ | ⟨a,us⟩
 ·cases h
 ·obtain ⟨b,c,d,rfl⟩:=dF (RK h);exact ⟨a,b,c,d,rfl⟩
def aw {us:List α}(h:us.length=5):∃ a b c d e,us=[a,b,c,d,e]:=by
 rcases us with _ | ⟨a,us⟩
 ·cases h
 ·obtain ⟨b,c,d,e,rfl⟩:=gm (RK h);exact ⟨a,b,c,d,e,rfl⟩
def kM {us:List α}(h:us.length=6):∃ a b c d e f,us=[a,b,c,d,e,f]:=by
 rcases us with _ | ⟨a,us⟩
 ·cases h
 ·obtain ⟨b,c,d,e,f,rfl⟩:=aw (RK h);exact ⟨a,b,c,d,e,f,rfl⟩
local macro_rules | `(tactic| walk_at "bD1")=>`(tactic| (intro _ _ _ _ _ _ us hl;obtain ⟨_,e⟩:=ak hl;subst e;rfl))
local macro_rules | `(tactic| walk_at "bD2")=>`(tactic| (intro _ _ _ _ _ _ us hl;obtain ⟨_,_,e⟩:=ln2 hl;subst e;rfl))
local macro_rules | `(tactic| walk_at "bD3")=>`(tactic| (intro _ _ _ _ _ _ us hl;obtain ⟨_,_,_,e⟩:=dF hl;subst e;rfl))
local macro_rules | `(tactic| walk_at "bD4")=>`(tactic| (intro _ _ _ _ _ _ us hl;obtain ⟨_,_,_,_,e⟩:=gm hl;subst e;rfl))
local macro_rules | `(tactic| walk_at "bD5")=>`(tactic| (intro _ _ _ _ _ _ us hl;obtain ⟨_,_,_,_,_,e⟩:=aw hl;subst e;rfl))
local macro_rules | `(tactic| walk_at "bD6")=>`(tactic| (intro _ _ _ _ _ _ us hl;obtain ⟨_,_,_,_,_,_,e⟩:=kM hl;subst e;rfl))
abbrev nS (K:ZE5)(x:Str)(v:Value):Prop:=PySem.W.nsIn K mainGlobals x=some (some v)
abbrev nN (K:ZE5)(x:Str):Prop:=PySem.W.nsIn K mainGlobals x=some none
open Fz
def ZWM (t:String):Lean.MacroM (Lean.TSyntax `tactic):=do
 let g:Lean.TSyntax `tactic←`(tactic| fail)
 let k←`(tactic| case wk=>rfl)
 let n (s:String):=`(tactic| walk_at $(Lean.quote s):str)
 (t.splitOn " ").foldrM (fun s r=>do
  let l:=((s.drop 1).toString.splitOn "/").map fun x=>Lean.mkIdent (`Fz++x.toName)
  let h:Lean.Ident:=l.getLast!
  let c:=s.front
  let w:=(h.getId.getString!.toLower.replace "o" "e").replace "i" "e"
  let z←if c=='j' then `($h ?wj ?wk ?_) else if c=='k'||c=='K' then `($h ?wk ?_) else `($h ?_)
  let z←l.dropLast.foldrM (fun (f:Lean.Ident) (z:Lean.Term)=>`($f ($z))) z
  let p←if c=='e' then `(tactic| show ∃ _,_=$h _/\_) else if c=='s' then `(tactic| show $h _ _ _) else `(tactic| refine' $z)
  let p←if c=='K'||c=='R'||c=='j' then pure p else `(tactic| with_reducible $p:tactic)
  let q←if c=='e' then `(tactic| refine ⟨_,rfl,?_⟩) else if c=='s' then n w else if c=='n' then n "wn" else if c=='p' then n "wp" else if c=='k'||c=='K' then pure k else if c=='j' then `(tactic| ((case wj=>rfl);$k:tactic)) else `(tactic| skip)
  `(tactic| first | ($p:tactic;$q:tactic) | $r:tactic)) g
local macro_rules | `(tactic| walk_at "wp")=>ZWM "kTx kDA/OY/Cw kDA/Np/Cw kDA/OY/OY/Cw kDA/Np/Np/Cw kDA/Np/OY/Cw kTx kAh rNV rIX rlS rZm rfJ rZC4 reO rPd rdH kZAm rTZ rkE rSu ryb rSS rrM rZAZ rdE koA Knq Kjk kaj KxU Kdu KoW"
local macro_rules | `(tactic| walk_at "wn")=>ZWM "rqu ryl rxa rZM KWS jbU"
local macro_rules | `(tactic| walk_at "wq")=>`(tactic| first
 | ((with_reducible refine' kB ?wk ?_);(case wk=>rfl))
 | ((with_reducible refine' Oz ?wk ?_);(case wk=>rfl))
 | ((with_reducible refine' XT ?wk ?_);(case wk=>rfl))
 | (refine D0 (Fs ?_);walk_at "wn")
 | (refine D0 ?_;walk_at "wp"))
local macro_rules | `(tactic| walk_at "wz")=>`(tactic| first
 | ((with_reducible refine' ZI ?wk ?_);(case wk=>rfl))
 | (refine KY (Fs ?_);walk_at "wn")
 | (refine KY ?_;walk_at "wp"))
local macro_rules | `(tactic| walk_at "wt")=>ZWM "rSQ rGm rrd rIQ rnX rMS"
local macro_rules | `(tactic| walk_at "we")=>ZWM "rMa rW3 rZAn rjT rrT rZBe rP9"
local macro_rules | `(tactic| walk_at "w")=>do
 let z←ZWM "rBI rJs rHA rDw klP kWI nN7 pPR nRU pMC"
 let z1←ZWM "eOV.tp eOV.fz"
 let z2←ZWM "sWn sWq sWz sWt sWe sWo sWi"
 let z3←ZWM "ePV.int ePV.str ePV.bl"
 `(tactic| first | $z1:tactic | ((with_reducible show ∃ _ _,_=OV.nd NK.lst _ _/\_);refine ⟨_,_,rfl,?_⟩) | ((with_reducible show ∃ _ _ _,_=PV.int _/\_/\_/\_);refine ⟨_,_,_,rfl,rfl,rfl,?_⟩) | ((with_reducible show Wp _ _ _);first | walk_at "wp" | (refine Fs ?_;walk_at "wn")) | $z2:tactic | ((with_reducible show Ws _ _ _ _);$z:tactic) | $z3:tactic | ((with_reducible show (_:Bool)=_/\_);refine ⟨rfl,?_⟩) | ((with_reducible show ∃ _ _,_=PV.int _/\L2.Be _ _=some _/\_);refine ⟨_,_,rfl,rfl,?_⟩) | ((with_reducible show ∃ _,(_=PV.lst _/\_)∨(_=PV.tup _/\_));first | refine ⟨_,.inl ⟨rfl,?_⟩⟩ | refine ⟨_,.inr ⟨rfl,?_⟩⟩) | ((with_reducible show ∃ _,_=List.map _ _/\_);first | refine ⟨_,rfl,?_⟩ | refine ⟨[],rfl,?_⟩ | refine ⟨_,jq _ _ _ _,?_⟩ | refine ⟨_,k8 _ _,?_⟩))
local macro_rules | `(tactic| walk_at "ww")=>`(tactic| repeat walk_at "w")
local macro_rules | `(tactic| walk_at "z1")=>`(tactic| exact ⟨rfl,rfl,rfl,by decide +kernel,rfl,by decide +kernel,by decide +kernel⟩)
local macro_rules | `(tactic| walk_at "z2")=>`(tactic| exact ⟨rfl,by decide +kernel,by decide +kernel,rfl,rfl,by decide +kernel,by decide +kernel,by decide +kernel,by decide +kernel⟩)
def yB:Ap ["text"] ["text"] (AY Oy):=by walk_at "z1"
def zb:Scope:={ kind:=.function,names:=[(".0", .local),("sign", .local),("LETTERS", .globalImplicit)],isGenerator:=false,isCoroutine:=false,more:=[] }
def qT:DV ["text"] (AY Oy) zb "sign" [] []:=by walk_at "z2"
variable (EH:mg "all"=none)(Az:mg "len"=none)(UJ:mg "LETTERS"=some (.str "abcdefghijklmnopqrstuvwxyz" Tn))(Rv:mg "MOST_LETTERS"=some (.int 8 WA))(HY:A8 P w K mg base "is_name" 1 ["text"] (Na))(Ux:mg "enumerate"=none)(L0:mg "MOST_THINGS"=some (.int 40 MJ))(UN:A8 P w K mg base "check_new_row" 3 ["row"] (BW Tw))(Bq:mg "list"=none)(B6:C4 K A5)(LW:Bu K A5 "forgotten")(C9:Bu K A5 "kept")(HS:Bu K A5 "past")(DY:Bu K A5 "standing")(Mn:A8 P w K mg base "_law_letters" 1 ["number"] (dw))(Bg:A8 P w K mg base "_law_take" 1 ["pot","many"] (IW))(HN:A8 P w K mg base "_law_name" 2 ["pot","names"] (Nb K))(Ij:mg "range"=none)(SH:A8 P w K mg base "_law_names" 3 ["pot","many"] (fB))(VJ:A8 P w K mg base "_law_row" 4 ["pot","most"] (WQ))(Kq:mg "RULES"=some (.ref Ey))(Kx:∀ H,AA K H Ey [.str "none", .str "ahead", .str "all"])(LC:A8 P w K mg base "check_rule" 1 ["rule"] (OI))(CV:mg "sorted"=none)(Cf:mg "tuple"=none)(RX:A8 P w K mg base "begun" 2 ["row","rule"] (XZ K))(Tc:mg "MOST_LOOPS"=some (.int 12 S7))(Hm:DD P w K mg base A5 "loop" 1 ["self","name"] (BW (MH A5)))(Ss:mg "set"=none)(UH:A8 P w K mg base "is_coming" 1 ["row","coming"] (Zu K))(Xb:A8 P w K mg base "is_gap" 1 ["row","gap"] (bL K))(UM:A8 P w K mg base "is_loop" 2 ["row","thing"] (fX K))(So:A8 P w K mg base "check_loop" 3 ["row","loop"] (bQ K))(Pn:A8 P w K mg base "things_to_come" 1 ["things","loop"] (Z4 K))(LA:A8 P w K mg base "coming_without" 1 ["coming","gone"] (W8 K))(FI:A8 P w K mg base "place_of" 1 ["row","name"] (Ms))(T5:A8 P w K mg base "loop_telling" 2 ["row","loop","name"] (gI K))(S9:A8 P w K mg base "rest" 4 ["row","loop"] (dD K))(VE:A8 P w K mg base "step_loops" 5 ["row","loop"] (Wc K))(XI:A8 P w K mg base "check_move" 2 ["row","name","at"] (dU))(Uw:A8 P w K mg base "check_put" 2 ["row","name","at"] (cO))(Tz:A8 P w K mg base "check_turn" 1 ["row","low","high"] (gn))(LL:mg "reversed"=none)(SD:A8 P w K mg base "check_deed" 3 ["row","deed"] (YK))(Ra:A8 P w K mg base "row_turned" 1 ["row","low","high"] (ee))(QU:A8 P w K mg base "row_with" 1 ["row","name","at"] (ZN))(OB:A8 P w K mg base "row_without" 1 ["row","name"] (aB))(OJ:A8 P w K mg base "gap_behind_put" 1 ["gap","at"] (i8))(Q2:A8 P w K mg base "gap_behind_take" 1 ["gap","place"] (fM))(Ry:A8 P w K mg base "joins" 1 ["loop","at"] (Z9))(W6:A8 P w K mg base "coming_behind" 2 ["loop","deed"] (cL))(Sr:A8 P w K mg base "gap_led" 3 ["row","gap","deed"] (gR))(Ub:A8 P w K mg base "done" 4 ["row","deed"] (Uh))(SE:A8 P w K mg base "loop_led" 4 ["row","loop","deed"] (RO))(Gn:mg "int"=none)(V1:A8 P w K mg base "_law_gap" 1 ["row","gap","deed"] (cG))(Vf:DD P w K mg base A5 "act" 9 ["self","deed"] (CL (Wy A5)))(XJ:A8 P w K mg base "_law_done" 1 ["row","deed"] (VY))(Sm:A8 P w K mg base "_law_led" 2 ["row","loop","deed"] (X4))(UC:DD P w K mg base A5 "begin" 8 ["self","name","rule"] (CL (Ta A5)))(Xe:DD P w K mg base A5 "drop" 3 ["self","name"] (CL (WW A5)))(WG:DD P w K mg base A5 "step" 8 ["self","name"] (CL (V3 A5)))(Uc:A8 P w K mg base "_law_acts" 10 ["yard","state","deed"] (CL (OS A5)))(Ti:A8 P w K mg base "_law_begun" 1 ["row","rule"] (BW Vl))(WY:A8 P w K mg base "_law_deed" 3 ["pot","row","most"] (Qb))(XA:A8 P w K mg base "_law_rule" 2 ["pot"] (BW WD))(U2:A8 P w K mg base "_law_step" 1 ["row","loop"] (Ri))(Et:mg "isinstance"=none)(Kf:mg "str"=none)(Td:mg "bool"=none)(KW:A8 P w K mg base "_law_whole" 1 ["found"] (BW QX))(P1:DD P w K mg base A5 "count" 1 ["self"] (BW (V9 A5)))(US:DD P w K mg base A5 "loops" 1 ["self"] (BW (VA A5)))(XM:DD P w K mg base A5 "row" 1 ["self"] (BW (VH A5)))(To:A8 P w K mg base "_law_is_loop" 2 ["found","due"] (BW WN))(Of:A8 P w K mg base "_law_texts" 1 ["found"] (BW SN))(WB:XS P w K mg base A5 4 ["self","row"] (CL (Tr A5)))(U1:A8 P w K mg base "_law_new" 6 ["pot","most"] (BW S8))(Pp:A8 P w K mg base "_law_pot" 1 ["script","k"] (W7 K))(U9:A8 P w K mg base "_law_stands" 5 ["yard","state"] (CL (TF A5)))(UL:A8 P w K mg base "_law_turn" 11 ["pot","yard","state","most"] (CL (U0 A5)))(Tu:mg "max"=none)(T2:mg "min"=none)(Vb:mg "Yard"=some (.ref A5))
def wL (F:AH K "is_name" "is_name" Oy f fd)(m:mg "is_name"=some (.ref f)):
  A8 P w K mg base "is_name" 1 ["text"] (Na):=by
 refine A8.mk F (F.binds (by walk_at "bD1")) m (F.As (k:=0) yB (fun vs H Q E h=>?_) (fun AU A outer s H vs Q E hr h=>?_))
 ·obtain ⟨x,rfl,hx,q⟩:=h;rfl
 obtain ⟨x,rfl,hx,q⟩:=h;refine ⟨_,(AG rfl (Ac (HP (Zg GK GK A9 (BB iC Az (A0 (qv 0) A6)) (Ja (v:=.int 8) (by rfl) Rv ⟨_,rfl⟩)) (Iu (BB (NJ rfl) EH (A0 (G2 rfl qT (nO (qv 0)) (fun _ _ _ _=>by exact MM) (fun _ _ _ _=>by exact (EJ mq (qv 0) (Ja (v:=.str "abcdefghijklmnopqrstuvwxyz") (by rfl) UJ ⟨_,rfl⟩)))) A6)))))),?_⟩;refine ⟨_,rfl,_,rfl,small (by omega),_,_,rfl,rfl,_,rfl,?_⟩;refine B2 (fun c=>?_) (fun c=>⟨_,rfl,Ee ?_⟩)
 ·refine ⟨_,_,rfl,rfl,_,rfl,?_⟩;refine B2 (fun c2=>?_) (fun c2=>?_)
  ·refine ⟨_,rfl,x,rfl,fun acc Ai=>rK (fun _=>true) eh Ai (by rw [<- Fm,<- Ga];exact small (by omega)) (fun i v H' Q' _ _ h=>h H' (A7.refl _)) (fun i v H' Q' hv _ _ h=>?_) (fun H' s1 e1=>?_)⟩
   ·obtain ⟨cc,rfl⟩:=signs_get hv;exact ⟨_,rfl,_,_,rfl,rfl,h H' (A7.refl _)⟩
   ·rw [mi] at e1;refine ⟨acc,_,rfl,AF.of e1,?_⟩;rw [all_map];have e:isNm x=x.cps.toList.all QB:=by unfold isNm;rw [c,c2];rfl
    rw [<- e];exact q H' s1
  ·have e:isNm x=false:=by unfold isNm;rw [Bool.eq_false_iff.mpr c2];simp
   rw [<- e];exact q H (A7.refl _)
 ·have e:isNm x=false:=by unfold isNm;rw [Bool.eq_false_iff.mpr c];simp
  rw [<- e];exact q H (A7.refl _)
def Qu:Ap ["row","name","place"] ["row"] (AY Rq):=by walk_at "z1"
def fk : ∀ ss R,Tw ss R->ss.length=1:=by rintro _ _ ⟨ns,rfl,_,rfl⟩;rfl
def ZCT (F:AH K "check_new_row" "check_new_row" Rq f fd)(m:mg "check_new_row"=some (.ref f)):
  A8 P w K mg base "check_new_row" 3 ["row"] (BW Tw):=by
 refine A8.mk F (F.binds (by walk_at "bD1")) m (F.As (k:=2) Qu (fun vs H Q E h=>Fz.GJ fk h) (fun AU A outer s H vs Q E hr h=>?_))
 refine ⟨_,(AI rfl (DI (Ip Hv rfl (FF (qv 0)) (Cs 1 Qu.nd) (AG rfl (Aw (EO (Fl (AS HY hr (A0 (qv 1) A6)))) (AG rfl Dn) B3))))
   (AI rfl (DI (Ip Hv rfl (ZBx rfl Ux (A0 (qv 0) A6)) (Kz rfl (EU (Cs 2 Qu.nd) (EU (Cs 1 Qu.nd) Ka))) (AG rfl (Aw (Al Hl (qv 1) (E4 JX (qv 0) EZ (De (qv 2)))) (AG rfl Dn) B3))))
   (AG rfl (Aw (Al XR (BB J4 Az (A0 (qv 0) A6)) (Ja (v:=.int 40) (by rfl) L0 ⟨_,rfl⟩)) (AG rfl Dn) B3)))),?_⟩
 refine Fz.G4 h fk ?_;rintro _ _ ⟨ns,rfl,hR,rfl⟩;show Ws [_,.any,.any] _ _ _;refine BI (Js (JA (fun _ i AK=>∃ s1 s2:Slot,AK=[.is (.lst (ns.map .str)),s1,s2]) (P9 (KY (Ah rfl ⟨_,.inl ⟨rfl,?_⟩⟩)))));refine ⟨⟨_,_,rfl⟩,?_,?_⟩
 ·rintro k p AK hp ⟨s1,s2,rfl⟩;rw [Ax] at hp;obtain ⟨x,ex,rfl⟩:=Option.map_eq_some_iff.mp hp;refine Kn ?_;have hx:=hR.nm x (DK ex);refine HA (IQ (Gm (gS (Ah rfl ⟨x,rfl,(YG hx).2,_,rfl,?_⟩))));rw [TV hx];exact Bh (by decide) (Dw ⟨_,_,rfl⟩)
 ·rintro AK ⟨s1,s2,rfl⟩;refine BI (Js (JA (fun _ i AK=>∃ s1 s2:Slot,AK=[.is (.lst (ns.map .str)),s1,s2]) (zw (KY (Ah rfl ⟨_,.inl ⟨rfl,rfl,?_⟩⟩)))));refine ⟨⟨_,_,rfl⟩,?_,?_⟩
  ·rintro k q AK hq ⟨s1,s2,rfl⟩;obtain ⟨x0,hx,rfl⟩:=pM hq;rw [Ax] at hx;obtain ⟨x,ex,rfl⟩:=Option.map_eq_some_iff.mp hx;have hk:=(List.getElem?_eq_some_iff.mp ex).1;refine gQ ⟨_,_,rfl,?_⟩
   walk_at "ww"
   rw [ZBf (KN hk)];refine B2 (fun c=>?_) (fun c=>Dw ⟨_,_,rfl⟩);exact absurd (jw c) (ZBn hR.nd ex)
  ·rintro AK ⟨s1,s2,rfl⟩
   walk_at "ww"
   rw [Ab];have:=hR.len;exact Bh (fun z=>by have:=jw z;omega) (Dw ⟨_,rfl,rfl⟩)
def vw:Ap ["self","row"] ["self","row"] (AY XD):=by walk_at "z1"
def bY:∀ ss R,(Tr A5) ss R->ss.length=2:=by rintro _ _ ⟨a,dx,ns,rfl,_,rfl⟩;rfl
def uL (F:AH K "__init__" "Yard.__init__" XD f fd)(mt:Mk K A5 f):
  XS P w K mg base A5 4 ["self","row"] (CL (Tr A5)):=by
 refine ⟨f,fd,F.As (k:=3) vw (fun vs H Q E h=>Fz.J0 bY h) (fun AU A outer s H vs Q E hr h=>?_),(F.binds (by walk_at "bD2")),mt⟩
 refine ⟨_,(AI rfl (DC (AS UN hr (A0 (qv 1) A6)))
   (AI rfl (NM (qv 0) (D8 Jw Bq (A0 (qv 1) A6)))
   (AI rfl (NM (qv 0) bw)
   (AI rfl (NM (qv 0) (Ep A6))
   (AG rfl (NM (qv 0) A9)))))),?_⟩
 refine Fz.Q0 h bY ?_;rintro _ _ ⟨a,dx,ns,rfl,hR,rfl⟩;show Ws [_,_] _ _ _;refine BI (SV (wp_call (IS (Ah rfl (Ef ⟨_,⟨ns,rfl,hR,rfl⟩,fun p hp=>?_⟩)))));refine BI (NH (i:=0) (Eh (Fs (WS rfl (D0 (Ah rfl ⟨_,.inl ⟨rfl,Cw rfl ⟨true,A5,dx,_,a,_,rfl,rfl,B6,DY,by decide,Au,?_⟩⟩⟩))))));rw [OV.EE];show Ws [.ow true (.nd (.obj A5 dx ["standing"]) a [.fz (.lst (ns.map .str))]),_] _ _ _;refine BI (NH (i:=0) (bV fun b2=>Cw rfl ⟨true,A5,dx,_,a,_,rfl,rfl,B6,C9,by decide,Au,?_⟩));rw [OV.EE];show Ws [.ow true (.nd (.obj A5 dx ["standing","kept"]) a [.fz (.lst (ns.map .str)),.nd (.Am []) b2 []]),_] _ _ _;refine BI (NH (i:=0) (WJ (NA ⟨by decide,fun b3=>Cw rfl ⟨true,A5,dx,_,a,_,rfl,rfl,B6,HS,by decide,Au,?_⟩⟩)));rw [OV.EE];show Ws [.ow true (.nd (.obj A5 dx ["standing","kept","past"]) a [.fz (.lst (ns.map .str)),.nd (.Am []) b2 [],.nd .lst b3 []]),_] _ _ _;refine NH (i:=0) (Eh (NV (Cw rfl ⟨true,A5,dx,_,a,_,rfl,rfl,B6,LW,by decide,Au,?_⟩)));rw [OV.EE];exact ⟨_,_,_,_,rfl,rfl,rfl,b2,b3,rfl⟩
def NG:Ap ["script","k","cell","rest_here"] ["script","k"] (AY UD):=by walk_at "z1"
def ZB5 (F:AH K "_law_pot" "_law_pot" UD f fd)(m:mg "_law_pot"=some (.ref f)):
  A8 P w K mg base "_law_pot" 1 ["script","k"] (W7 K):=by
 refine A8.mk F (F.binds (by walk_at "bD2")) m (F.As (k:=0) NG (fun vs H Q E h=>?_) (fun AU A outer s H vs Q E hr h=>?_))
 ·obtain ⟨a,ns,k,rfl,hS,k0,k1,q⟩:=h;rfl
 obtain ⟨a,ns,k,rfl,hS,k0,k1,q⟩:=h;refine ⟨_,(AI rfl (BC 2 NG.nd A9)
   (AI rfl (DI (Aw (Al GF (qv 1) (BB Dt Az (A0 (qv 0) A6))) (AG rfl (BC 2 NG.nd (B0 Ii (AR Dl (qv 0) (qv 1)) (B0 K0 (B0 K0 (B0 K0 (B0 Kb A9 A9) (B0 Kb A9 A9)) (B0 Kb A9 A9)) (B0 Kb A9 A9))))) B3))
   (AI rfl (BC 3 NG.nd A9)
   (AI rfl (DI (Aw (Al LG (qv 2) (B0 Kb A9 A9)) (AG rfl (BC 3 NG.nd (qv 2))) B3))
   (AG rfl (Ac (Ep (A0 (qv 3) (A0 (B0 Ii (B0 K0 (B0 E9 (B0 E9 (B0 Ii (qv 2) A9) (B0 K0 A9 (qv 1))) A9) A9) A9) A6))))))))),?_⟩
 have hl:(ns.map V.int).length=ns.length:=Ab _;refine ⟨fun σ' H'=>∃ c:Int,σ'=[some (.ref a),some (.int k),some (.int c),none]/\H=H'/\0<=c/\c<10 ^ 256,?_,?_⟩
 ·refine ⟨_,rfl,_,rfl,a,_,rfl,.inl hS,_,_,rfl,rfl,_,rfl,?_⟩;refine B2 (fun c=>?_) (fun c=>?_)
  ·have c':k<(((ns.map V.int).length:Nat):Int):=jw c;rw [hl] at c';have hk:k.toNat<ns.length:=by omega
   have hv:Be (ns.map V.int) k=some (.int ns[k.toNat]):=MY k0 (by rw [Ax,BE hk] <;> rfl)
   refine ⟨_,rfl,_,rfl,a,_,_,_,rfl,rfl,hS,hv,_,_,rfl,rfl,⟨by decide,by decide,by decide +kernel⟩,_,_,rfl,rfl,⟨by decide,by decide,by decide +kernel⟩,_,_,rfl,rfl,⟨by decide +kernel,by decide +kernel⟩,_,_,rfl,rfl,⟨by decide,by decide,by decide +kernel⟩,_,_,rfl,rfl,⟨by decide +kernel,by decide +kernel⟩,
    _,_,rfl,rfl,⟨by decide,by decide,by decide +kernel⟩,_,_,rfl,rfl,⟨by decide +kernel,by decide +kernel⟩,_,_,rfl,rfl,(by show (0:Int)<_;decide +kernel),?_⟩
   exact ⟨_,rfl,rfl,KI _ (by decide +kernel),KH _ (by decide +kernel)⟩
  ·exact ⟨0,rfl,rfl,by decide,by decide +kernel⟩
 rintro σ' H' ⟨c,rfl,rfl,c0,c1⟩;refine ⟨fun σ' H'=>∃ d:Int,σ'=[some (.ref a),some (.int k),some (.int c),some (.int d)]/\H=H'/\0<=d/\d<10 ^ 256,?_,?_⟩
 ·refine ⟨_,rfl,_,_,rfl,rfl,⟨by decide,by decide,by decide +kernel⟩,_,_,rfl,rfl,_,rfl,?_⟩;refine B2 (fun _=>?_) (fun _=>?_)
  ·exact ⟨_,rfl,c,rfl,rfl,c0,c1⟩
  ·exact ⟨0,rfl,rfl,by decide,by decide +kernel⟩
 rintro σ' H' ⟨d,rfl,rfl,d0,d1⟩;have e0:0<=c % 2147483629:=KI _ (by decide);have e1:c % 2147483629<2147483629:=KH _ (by decide);refine ⟨_,rfl,_,rfl,_,_,rfl,rfl,(by show (0:Int)<2147483629;decide),_,rfl,_,_,rfl,rfl,⟨by decide +kernel,LM (by omega) (by omega)⟩,_,_,rfl,rfl,_,_,rfl,rfl,_,_,rfl,rfl,⟨LM (by omega) (by omega),by decide +kernel⟩,_,_,rfl,rfl,(by show (0:Int)<2147483647;decide),?_⟩;refine ⟨(by show 2<=sizeLine;decide),fun p hp=>?_⟩;exact q p _ hp (AW hp _) ⟨d,_,AE,d0,d1,KI _ (by decide),KH _ (by decide)⟩
def bN:Ap ["pot","many","found"] ["pot","many"] (AY TJ):=by walk_at "z1"
def yP (F:AH K "_law_take" "_law_take" TJ f fd)(m:mg "_law_take"=some (.ref f)):
  A8 P w K mg base "_law_take" 1 ["pot","many"] (IW):=by
 refine A8.mk F (F.binds (by walk_at "bD2")) m (F.As (k:=0) bN (fun vs H Q E h=>?_) (fun AU A outer s H vs Q E hr h=>?_))
 ·obtain ⟨p,m,rfl,⟨a,b,hp,a0,a1,b0,b1⟩,m0,m1,q⟩:=h;rfl
 obtain ⟨p,m,rfl,⟨a,b,hp,a0,a1,b0,b1⟩,m0,m1,q⟩:=h;refine ⟨_,(AI rfl (Aw (Al XR (AR Dl (qv 0) A9) A9) (AI rfl (BC 2 bN.nd (B0 Ii (AR Dl (qv 0) A9) (qv 1)))
   (AI rfl (Jn (B0 X6 (AR Dl (qv 0) A9) (qv 1)) (Z8 (qv 0) A9 set_list))
   (AG rfl (Ac (qv 2))))) B3)
   (AI rfl (Jn (B0 Ii (B0 E9 (B0 K0 (AR Dl (qv 0) A9) A9) A9) A9) (Z8 (qv 0) A9 set_list))
   (AG rfl (Ac (B0 Ii (B0 X6 (B0 Ii (B0 K0 (AR Dl (qv 0) A9) (AR Dl (qv 0) A9)) A9) A9) (qv 1)))))),?_⟩
 refine ⟨_,rfl,p,_,_,_,rfl,rfl,AF.of hp,rfl,_,_,rfl,rfl,_,rfl,?_⟩;refine B2 (fun c=>?_) (fun c=>?_)
 ·have c':0<a:=jw c;refine ⟨_,rfl,p,_,_,_,rfl,rfl,AF.of hp,rfl,_,rfl,_,_,rfl,rfl,m0,?_⟩;refine ⟨_,rfl,p,_,_,_,rfl,rfl,AF.of hp,rfl,_,rfl,_,_,rfl,rfl,⟨m0,LM (by omega) (by omega)⟩,?_⟩;refine ⟨_,rfl,p,_,_,_,rfl,rfl,hp,rfl,?_⟩;refine ⟨_,rfl,?_⟩;refine q _ _ (KI _ (by omega)) (KH _ m0) ⟨⟨a / m,b,AE,Int.ediv_nonneg a0 (by omega),ZCd (Int.ediv_le_self _ a0) a1,b0,b1⟩,Fc.upd⟩
 ·refine ⟨_,rfl,p,_,_,_,rfl,rfl,AF.of hp,rfl,_,_,rfl,rfl,⟨LM (by omega) (by omega),by decide +kernel⟩,_,_,rfl,rfl,_,_,rfl,rfl,(by show (0:Int)<2147483647;decide),?_⟩;refine ⟨_,rfl,p,_,_,_,rfl,rfl,hp,rfl,?_⟩;have bp:0<=(b * 69621+12345) % 2147483647:=KI _ (by decide);have ae:(b * 69621+12345) % 2147483647<2147483647:=KH _ (by decide);generalize hb:(b * 69621+12345) % 2147483647=b' at bp ae;have Qn:(upd H p (.lst [.int a,.int ((b * 69621+12345) % 2147483647)])) p=some (.lst [.int a,.int b']):=by rw [AE,hb]
  refine ⟨_,rfl,p,_,_,_,rfl,rfl,AF.of Qn,rfl,_,rfl,p,_,_,_,rfl,rfl,AF.of Qn,rfl,_,_,rfl,rfl,⟨LM (by omega) (by omega),LM (by omega) (by omega)⟩,_,_,rfl,rfl,(by show (0:Int)<2147483629;decide),?_⟩;refine ⟨_,_,rfl,rfl,⟨(by show (0:Int)<64;decide),by decide +kernel⟩,_,rfl,_,_,rfl,rfl,m0,?_⟩;exact q _ _ (KI _ (by omega)) (KH _ m0) ⟨⟨a,b',Qn,a0,a1,bp,ae⟩,Fc.upd⟩
def Ot:Ap ["number","word"] ["number"] (AY SY):=by walk_at "z1"
def ni (F:AH K "_law_letters" "_law_letters" SY f fd)(m:mg "_law_letters"=some (.ref f)):
  A8 P w K mg base "_law_letters" 1 ["number"] (dw):=by
 refine A8.mk F (F.binds (by walk_at "bD1")) m (F.As (k:=0) Ot (fun vs H Q E h=>?_) (fun AU A outer s H vs Q E hr h=>?_))
 ·obtain ⟨r,rfl,r0,r1,q⟩:=h;rfl
 obtain ⟨r,rfl,r0,r1,q⟩:=h;refine ⟨_,(AI rfl (BC 1 Ot.nd Aa)
   (AI rfl (DI (Zh Hv (Gy (Al Bw (qv 1) Aa) (K9 (Al XR (qv 0) A9))).pt (AI rfl (BC 1 Ot.nd (B0 d5 (qv 1) (AR nW Aa (B0 Ii (qv 0) A9))))
   (AG rfl (BC 0 Ot.nd (B0 X6 (qv 0) A9))))))
   (AG rfl (Ac (qv 1))))),?_⟩
 obtain ⟨n,rfl⟩:=Fo r0;have hn:n<26 ^ 8:=by omega
 rw [Xi] at q;refine ⟨fun σ' H'=>∃ v,σ'=[some v,some (.str (Cr (MA.lets n)))]/\H=H',?_,?_⟩
 ·refine ⟨fun m σ' H'=>∃ (k:Nat) (pre:List Nat),σ'=[some (.int k),some (.str (Cr pre))]/\H=H'/\((pre=[]/\k=n/\m=n+2)∨(pre≠[]/\m=k+1/\(0<k->pre++MA.lets k=MA.lets n)/\(k=0->pre=MA.lets n))),⟨n+2,n,[],rfl,rfl,.inl ⟨rfl,rfl,rfl⟩⟩,?_⟩;rintro m σ' H' ⟨k,pre,rfl,rfl,hI⟩;refine ⟨_,rfl,rfl,_,rfl,?_⟩;refine B2 (fun c=>NY ?_) (fun c=>⟨_,rfl,_,_,rfl,rfl,_,rfl,?_⟩)
  ·have hp:pre=[]:=aS.mp (jw c);obtain ⟨_,hk,hm⟩ | ⟨h,_⟩:=hI
   ·have he:pre++MA.lets k=MA.lets n:=by rw [hp,hk];rfl
    have hlen:pre.length+1<=8:=by
     have h1:=o7 List.length he;rw [Bl] at h1;have h2:=MA.Qw 7 n hn;have h3:=MA.Wh k;omega
    refine ⟨fun σ' H'=>σ'=[some (.int ((k:Int) / 26)),some (.str (Cr pre++⟨#[97+((k:Int) % 26).toNat]⟩))]/\H=H',?_,?_⟩
    ·rintro σ' H' ⟨rfl,rfl⟩;have nx:=gs he;have e1:((k:Int) % 26).toNat=k % 26:=by omega
     have e2:(k:Int) / 26=((k / 26:Nat):Int):=by omega
     exact ⟨k / 26+1,by omega,k / 26,pre++[97+k % 26],by rw [e1,e2,gW],rfl,.inr ⟨by simp,rfl,nx.1,nx.2⟩⟩
    ·refine ⟨_,rfl,_,rfl,_,_,rfl,rfl,(by show (0:Int)<26;decide),_,_,_,rfl,rfl,(by decide +kernel),df (KI _ (by decide)) (KH _ (by decide)),_,_,rfl,rfl,?_,?_⟩
     ·rw [QD];exact small (show pre.length+1<=_ by omega)
     ·exact ⟨_,rfl,_,_,rfl,rfl,⟨(by show (0:Int)<26;decide),by decide +kernel⟩,rfl,rfl⟩
   ·exact absurd hp h
  ·have hp:pre≠[]:=fun h=>c (jO (aS.mpr h));obtain ⟨h,_⟩ | ⟨_,hm,h1,h2⟩:=hI
   ·exact absurd h hp
   refine B2 (fun c2=>?_) (fun c2=>?_)
   ·have hk:0<k:=by have:(0:Int)<k:=jw c2;omega
    have he:=h1 hk;have hlen:pre.length+1<=8:=by
     have h1:=o7 List.length he;rw [Bl] at h1;have h2:=MA.Qw 7 n hn;have h3:=MA.Wh k;omega
    refine ⟨fun σ' H'=>σ'=[some (.int ((k:Int) / 26)),some (.str (Cr pre++⟨#[97+((k:Int) % 26).toNat]⟩))]/\H=H',?_,?_⟩
    ·rintro σ' H' ⟨rfl,rfl⟩;have nx:=gs he;have e1:((k:Int) % 26).toNat=k % 26:=by omega
     have e2:(k:Int) / 26=((k / 26:Nat):Int):=by omega
     exact ⟨k / 26+1,by omega,k / 26,pre++[97+k % 26],by rw [e1,e2,gW],rfl,.inr ⟨by simp,rfl,nx.1,nx.2⟩⟩
    ·refine ⟨_,rfl,_,rfl,_,_,rfl,rfl,(by show (0:Int)<26;decide),_,_,_,rfl,rfl,(by decide +kernel),df (KI _ (by decide)) (KH _ (by decide)),_,_,rfl,rfl,?_,?_⟩
     ·rw [QD];exact small (show pre.length+1<=_ by omega)
     ·exact ⟨_,rfl,_,_,rfl,rfl,⟨(by show (0:Int)<26;decide),by decide +kernel⟩,rfl,rfl⟩
   ·have hk:k=0:=by
     have:¬ (0:Int)<k:=fun z=>c2 (jO z);omega
    exact ⟨_,by rw [h2 hk],rfl⟩
 ·rintro σ' H' ⟨v,rfl,rfl⟩;exact ⟨_,rfl,q⟩
def Fi:Ap ["pot","names","some","way","name","number"] ["pot","names"] (AY Xc):=by walk_at "z1"
def mG (F:AH K "_law_name" "_law_name" Xc f fd)(m:mg "_law_name"=some (.ref f)):
  A8 P w K mg base "_law_name" 2 ["pot","names"] (Nb K):=by
 refine A8.mk F (F.binds (by walk_at "bD2")) m (F.As (k:=1) Fi (fun vs H Q E h=>?_) (fun AU A outer s H vs Q E hr h=>?_))
 ·obtain ⟨p,q,ns,rfl,hp,hS,Ak,hN,hL,K1⟩:=h;rfl
 obtain ⟨p,q,ns,rfl,hp,hS,Ak,hN,hL,K1⟩:=h;refine ⟨_,(AI rfl (BC 2 Fi.nd (CC (A0 Aa (A0 Aa (A0 Aa (A0 Aa (A0 Aa (A0 Aa (A0 Aa (A0 Aa (A0 Aa (A0 Aa (A0 Aa (A0 Aa (A0 Aa A6)))))))))))))))
   (AI rfl (BC 3 Fi.nd (AS Bg hr (A0 (qv 0) (A0 A9 A6))))
   (AI rfl (BC 4 Fi.nd (AR Ad (qv 2) (AS Bg hr (A0 (qv 0) (A0 A9 A6)))))
   (AI rfl (DI (Aw (Al Bw (qv 3) A9) (AG rfl (BC 4 Fi.nd (AS Mn hr (A0 (AS Bg hr (A0 (qv 0) (A0 (B0 Oh (B0 Kb A9 A9) A9) A6))) A6)))) B3))
   (AI rfl (DI (Aw (HX (Al Bw (qv 3) A9) (Hg (Al (MV hr.Gk) (qv 1) (Ep A6)))).pt (AI rfl (BC 4 Fi.nd (AR Dl (qv 1) (AS Bg hr (A0 (qv 0) (A0 (BB Dt Az (A0 (qv 1) A6)) A6)))))
   (AG rfl (BC 4 Fi.nd (E4 cV (B0 d5 (qv 4) (AS Mn hr (A0 (AS Bg hr (A0 (qv 0) (A0 A9 A6))) A6))) EZ (De A9))))) B3))
   (AI rfl (DI (Aw (HX (Al Bw (qv 3) A9) (Hg (Al (MV hr.Gk) (qv 1) (Ep A6)))).pt (AI rfl (BC 4 Fi.nd (AR Dl (qv 1) (AS Bg hr (A0 (qv 0) (A0 (BB Dt Az (A0 (qv 1) A6)) A6)))))
   (AG rfl (BC 4 Fi.nd (E4 cV (qv 4) EZ (De (B0 E9 A9 (AS Bg hr (A0 (qv 0) (A0 (BB iC Az (A0 (qv 4) A6)) A6))))))))) B3))
   (AI rfl (BC 5 Fi.nd A9)
   (AI rfl (DI (Zh Hv (Al Hl (qv 4) (qv 1)) (AI rfl (BC 4 Fi.nd (AS Mn hr (A0 (qv 5) A6)))
   (AG rfl (BC 5 Fi.nd (B0 E9 (qv 5) A9))))))
   (AG rfl (Ac (qv 4))))))))))),?_⟩
 have hl:(ns.map V.str).length=ns.length:=Ab _;refine ⟨(by show 13<=sizeLine;decide +kernel),fun sm Ed=>?_⟩;have FD:sm≠p:=by
  obtain ⟨_,_,e,_⟩:=hp;exact (DX e Ed).symm
 have g0:BJ p H (upd H sm (.tup Q5)):=BJ.of hp (AW Ed _);refine ⟨_,rfl,p,4,rfl,g0.AD,by decide,by decide,fun way H1 w0 w1 s1=>?_⟩;refine ⟨_,rfl,_,rfl,p,13,rfl,s1.AD,by decide,by decide,fun i H2 i0 i1 s2=>?_⟩;have h2:H2 sm=some (.tup Q5):=s2.at' (s1.at' AE FD) FD;obtain ⟨x,hx,nx⟩:=ly i0 i1;refine ⟨sm,_,_,_,rfl,rfl,AA.of h2,hx,?_⟩;have g2:=g0.trans (s1.trans s2);refine ⟨fun σ' H'=>∃ x,σ'=[some (.ref p),some (.ref q),some (.ref sm),some (.int way),some (.str x),none]/\Nm x/\BJ p H H',?_,?_⟩
 ·refine ⟨_,rfl,rfl,_,rfl,?_⟩;refine B2 (fun c=>?_) (fun c=>?_)
  ·refine ⟨_,rfl,_,_,rfl,rfl,⟨by decide,by decide,by decide +kernel⟩,_,_,rfl,rfl,p,_,rfl,g2.AD,ZCZ,lA,fun r H3 r0 r1 s3=>?_⟩;have r2:r<26 ^ 8:=Int.lt_trans r1 qt;exact ⟨r,rfl,r0,r2,_,rfl,VT (Z2 r0 r2),g2.trans s3⟩
  ·exact ⟨x,rfl,nx,g2⟩
 clear h2 hx nx s2 g2 i0 i1;rintro σ' H3 ⟨y,rfl,ny,g3⟩;refine ⟨fun σ' H'=>∃ x,σ'=[some (.ref p),some (.ref q),some (.ref sm),some (.int way),some (.str x),none]/\Nm x/\BJ p H H',?_,?_⟩
 ·refine ⟨_,rfl,rfl,_,rfl,?_⟩;refine B2 (fun c=>?_) (fun c=>Ee ⟨y,rfl,ny,g3⟩);refine ⟨_,rfl,(by show 0<=sizeLine;decide),fun e he=>?_⟩;have g4:=g3.trans (BJ.of g3.AD (AW he (.lst [])));have M5:=g4.MT hS Ak;refine ⟨q,e,_,[],rfl,rfl,.inl ⟨M5,AF.of AE⟩,Dr ns,rfl,_,rfl,?_⟩;rw [Kp];refine B2 (fun c2=>?_) (fun c2=>⟨y,rfl,ny,g4⟩);have JC:0<ns.length:=by
   cases ns with
   | nil=>simp at c2
   | cons a r=>simp
  refine ⟨_,rfl,_,rfl,_,rfl,q,_,rfl,.inl M5,p,_,rfl,g4.AD,(by rw [hl];omega),(by rw [hl];omega),fun i H5 i0 i1 s5=>?_⟩;rw [hl] at i1;have g5:=g4.trans s5;obtain ⟨z,hz,V0,_⟩:=N2 i0 i1;have nz:=hN z V0;refine ⟨q,_,_,_,rfl,rfl,g5.MT hS Ak,hz,?_⟩;refine ⟨_,rfl,_,rfl,p,26,rfl,g5.AD,by decide,by decide,fun r H6 r0 r1 s6=>?_⟩;have g6:=g5.trans s6;have r2:r<26 ^ 8:=Int.lt_trans r1 lB;refine ⟨r,rfl,r0,r2,?_⟩;have nl:=VT (n:=r.toNat) (Z2 r0 r2);have hlen:z.length+(Cr (MA.lets r.toNat)).length<=16:=by have:=nz.2.1;have:=nl.2.1;omega
  refine ⟨_,_,rfl,rfl,small (by omega),?_⟩;refine ⟨_,rfl,_,rfl,small (by rw [fw];omega),?_⟩;refine ⟨_,rfl,hZ (by decide) (by decide) (by rw [fw];have:=nz.1;omega) (fun c hc=>?_),g6⟩;rw [dh] at hc;rcases List.mem_append.mp hc with hc | hc
  ·exact nz.2.2 c hc
  ·exact nl.2.2 c hc
 clear ny g3;rintro σ' H3 ⟨y,rfl,ny,g3⟩;refine ⟨fun σ' H'=>∃ x,σ'=[some (.ref p),some (.ref q),some (.ref sm),some (.int way),some (.str x),none]/\Nm x/\BJ p H H',?_,?_⟩
 ·refine ⟨_,rfl,rfl,_,rfl,?_⟩;refine B2 (fun c=>?_) (fun c=>Ee ⟨y,rfl,ny,g3⟩);refine ⟨_,rfl,(by show 0<=sizeLine;decide),fun e he=>?_⟩;have g4:=g3.trans (BJ.of g3.AD (AW he (.lst [])));have M5:=g4.MT hS Ak;refine ⟨q,e,_,[],rfl,rfl,.inl ⟨M5,AF.of AE⟩,Dr ns,rfl,_,rfl,?_⟩;rw [Kp];refine B2 (fun c2=>?_) (fun c2=>⟨y,rfl,ny,g4⟩);have JC:0<ns.length:=by
   cases ns with
   | nil=>simp at c2
   | cons a r=>simp
  refine ⟨_,rfl,_,rfl,_,rfl,q,_,rfl,.inl M5,p,_,rfl,g4.AD,(by rw [hl];omega),(by rw [hl];omega),fun i H5 i0 i1 s5=>?_⟩;rw [hl] at i1;have g5:=g4.trans s5;obtain ⟨z,hz,V0,_⟩:=N2 i0 i1;have nz:=hN z V0;refine ⟨q,_,_,_,rfl,rfl,g5.MT hS Ak,hz,?_⟩;have kc:=nz.1;have nz2:=nz.2.1;refine ⟨_,rfl,_,rfl,_,rfl,_,rfl,small (by omega),p,_,rfl,g5.AD,(by omega),(by omega),fun r H6 r0 r1 s6=>?_⟩;refine ⟨_,_,rfl,rfl,_,rfl,_,rfl,small (by omega),?_⟩;exact ⟨_,rfl,hZ (by omega) (by omega) kc nz.2.2,g5.trans s6⟩
 clear ny g3;rintro σ' H3 ⟨y,rfl,ny,g3⟩;refine ⟨fun σ' H'=>∃ x v,σ'=[some (.ref p),some (.ref q),some (.ref sm),some (.int way),some (.str x),some v]/\Nm x/\x∉ns/\H3=H',?_,?_⟩
 ·refine ⟨fun m σ' H'=>∃ (k:Nat) (x:Str),σ'=[some (.ref p),some (.ref q),some (.ref sm),some (.int way),some (.str x),some (.int k)]/\H3=H'/\Nm x/\m=ns.length+1 - k/\k<=ns.length+1/\(0<k->x=Cr (MA.lets (k - 1)))/\(∀ j,j+1<k->Cr (MA.lets j)∈ns),
   ⟨ns.length+1,0,y,rfl,rfl,ny,rfl,C2 _,fun h=>absurd h (by decide),fun j h=>absurd h (by omega)⟩,?_⟩
  rintro m σ' H' ⟨k,x,rfl,rfl,nx,rfl,hk,hx,hj⟩;refine ⟨_,rfl,_,rfl,q,_,rfl,.inl (g3.MT hS Ak),rfl,Dr ns,_,rfl,?_⟩;rw [jG (by decide),IB];refine B2 (fun c=>?_) (fun c=>⟨x,_,rfl,nx,fun z=>c (jO z),rfl⟩);have Xd:x∈ns:=jw c;have Ie:∀ j,j<k->Cr (MA.lets j)∈ns:=fun j L4=>by
   by_cases e:j+1<k
   ·exact hj j e
   ·have e2:j=k - 1:=by omega
    rw [e2,<- hx (by omega)];exact Xd
  have xx:=yM Ie;refine ⟨fun σ' H'=>σ'=[some (.ref p),some (.ref q),some (.ref sm),some (.int way),some (.str (Cr (MA.lets k))),some (.int ((k:Int)+1))]/\H3=H',?_,?_⟩
  ·rintro σ' H' ⟨rfl,rfl⟩;exact ⟨ns.length+1 - (k+1),by omega,k+1,Cr (MA.lets k),rfl,rfl,VT (Hu (Ci xx hL) ZBb),rfl,by omega,fun _=>rfl,fun j L4=>Ie j (by omega)⟩
  ·refine ⟨_,rfl,k,rfl,by omega,?_,?_⟩
   ·have:(k:Int)<=1000:=by omega
    exact ZCd this ud
   ·rw [Xi];exact ⟨_,rfl,_,_,rfl,rfl,rfl,rfl⟩
 rintro σ' H' ⟨x,v,rfl,nx,hx,rfl⟩;exact ⟨_,rfl,K1 x H3 nx hx g3⟩
def WZ:Ap ["pot","many","names","k"] ["pot","many"] (AY Te):=by walk_at "z1"
def ZAU (F:AH K "_law_names" "_law_names" Te f fd)(m:mg "_law_names"=some (.ref f)):
  A8 P w K mg base "_law_names" 3 ["pot","many"] (fB):=by
 refine A8.mk F (F.binds (by walk_at "bD2")) m (F.As (k:=2) WZ (fun vs H Q E h=>?_) (fun AU A outer s H vs Q E hr h=>?_))
 ·obtain ⟨p,m,rfl,hp,m0,m1,q⟩:=h;rfl
 obtain ⟨p,m,rfl,hp,m0,m1,q⟩:=h;refine ⟨_,(AI rfl (BC 2 WZ.nd (Ep A6))
   (AI rfl (DI (Ip Hv rfl (Sj rfl Ij (A0 (qv 1) A6)) (Cs 3 WZ.nd) (AG rfl (DC (G3 Hw Nz O0 LQ (qv 2) (A0 (AS HN hr (A0 (qv 0) (A0 (qv 2) A6))) A6))))))
   (AG rfl (Ac (qv 2))))),?_⟩
 refine ⟨(by show 0<=sizeLine;decide),fun l hl=>?_⟩;have Ak:=hp.ne hl;refine ⟨fun σ' H'=>∃ (ns:List Str) (v:Option V),σ'=[some (.ref p),some (.int m),some (.ref l),v]/\BJ p H H'/\H' l=some (.lst (ns.map V.str))/\(ns.length:Int)=m/\(∀ x∈ns,Nm x)/\ns.Nodup,?_,?_⟩
 ·refine ⟨_,rfl,m,rfl,by omega,by omega,xJ (n:=m.toNat) (fun i σ' H'=>∃ (ns:List Str) (v:Option V),σ'=[some (.ref p),some (.int m),some (.ref l),v]/\BJ p H H'/\H' l=some (.lst (ns.map V.str))/\ns.length=i/\(∀ x∈ns,Nm x)/\ns.Nodup) ?_ ?_ ?_⟩
  ·exact ⟨[],none,rfl,(BJ.of hp (A7.refl H)).upd hl Ak,AE,rfl,fun x hx=>absurd hx (by simp),by simp⟩
  ·rintro i σ' H' hi ⟨ns,v,rfl,g,e,hlen,hN,nd⟩;refine ⟨_,rfl,.inl ⟨rfl,_,AF.of e⟩,_,rfl,_,rfl,p,l,ns,rfl,g.AD,AF.of e,Ak,hN,by omega,fun x H2 nx hx s2=>?_⟩;refine ⟨l,_,_,rfl,rfl,s2.at' e Ak,Hu (m:=100) (by rw [Ab];omega) (by decide +kernel),?_⟩;refine ⟨ns++[x],_,rfl,(g.trans s2).upd hl Ak,by rw [AE,Dh];rfl,by rw [Bl];simp [hlen],fun y hy=>?_,Se nd hx⟩;rcases List.mem_append.mp hy with h | h
   ·exact hN y h
   ·have:y=x:=by simpa using h
    rw [this];exact nx
  ·rintro σ' H' ⟨ns,v,rfl,g,e,hlen,hN,nd⟩;exact ⟨ns,v,rfl,g,e,by omega,hN,nd⟩
 rintro σ' H' ⟨ns,v,rfl,g,e,hlen,hN,nd⟩;exact ⟨_,rfl,q l H' ns hl g e hlen hN nd⟩
def SA:Ap ["pot","most","many"] ["pot","most"] (AY WM):=by walk_at "z1"
def k9 (F:AH K "_law_row" "_law_row" WM f fd)(m:mg "_law_row"=some (.ref f)):
  A8 P w K mg base "_law_row" 4 ["pot","most"] (WQ):=by
 refine A8.mk F (F.binds (by walk_at "bD2")) m (F.As (k:=3) SA (fun vs H Q E h=>?_) (fun AU A outer s H vs Q E hr h=>?_))
 ·obtain ⟨p,m,rfl,hp,m0,m1,q⟩:=h;rfl
 obtain ⟨p,m,rfl,hp,m0,m1,q⟩:=h;refine ⟨_,(AI rfl (BC 2 SA.nd (AS Bg hr (A0 (qv 0) (A0 (B0 E9 (qv 1) A9) A6))))
   (AI rfl (DI (Aw (Al Bw (AS Bg hr (A0 (qv 0) (A0 A9 A6))) A9) (AG rfl (BC 2 SA.nd (AR Ad (CC (A0 A9 (A0 A9 (A0 (qv 1) A6)))) (AS Bg hr (A0 (qv 0) (A0 A9 A6)))))) B3))
   (AG rfl (Ac (AS SH hr (A0 (qv 0) (A0 (qv 2) A6))))))),?_⟩
 refine ⟨_,rfl,_,rfl,_,_,rfl,rfl,p,_,rfl,hp,by omega,by omega,fun many H1 n0 n1 s1=>?_⟩;refine ⟨fun σ' H'=>∃ k:Int,σ'=[some (.ref p),some (.int m),some (.int k)]/\0<=k/\k<=m/\BJ p H H',?_,?_⟩
 ·refine ⟨_,rfl,p,8,rfl,s1.AD,by decide,by decide,fun r H2 r0 r1 s2=>?_⟩;have g2:=s1.trans s2;refine ⟨rfl,_,rfl,?_⟩;refine B2 (fun _=>?_) (fun _=>⟨many,rfl,n0,by omega,g2⟩);refine ⟨_,rfl,(by show 3<=sizeLine;decide +kernel),fun t ht=>?_⟩;have Ak:=g2.AD.ne ht;have g3:=g2.trans (BJ.of g2.AD (AW ht (.tup [.int 0,.int 1,.int m])));refine ⟨_,rfl,p,3,rfl,g3.AD,by decide,by decide,fun j H4 j0 j1 s4=>?_⟩;obtain ⟨k,hk,k0,k1⟩:=vn j0 j1 m0;exact ⟨t,_,_,_,rfl,rfl,AA.of (s4.at' AE Ak),hk,k,rfl,k0,k1,g3.trans s4⟩
 rintro σ' H' ⟨k,rfl,k0,k1,g⟩;refine ⟨_,rfl,_,rfl,p,k,rfl,g.AD,k0,by omega,fun l H' ns hl s e hlen hN nd=>?_⟩;exact q l H' ns (g.none hl) (g.trans s) e (by omega) hN nd
def jg:Ap ["pot","most"] ["pot","most"] (AY Tt):=by walk_at "z1"
def dq : ∀ ss R,S8 ss R->ss.length=2:=by rintro _ _ ⟨m,rfl,_,_,rfl⟩;rfl
def rg (F:AH K "_law_new" "_law_new" Tt f fd)(m:mg "_law_new"=some (.ref f)):
  A8 P w K mg base "_law_new" 6 ["pot","most"] (BW S8):=by
 refine A8.mk F (F.binds (by walk_at "bD2")) m (F.As (k:=5) jg (fun vs H Q E h=>Fz.GJ dq h) (fun AU A outer s H vs Q E hr h=>?_))
 refine ⟨_,(AG rfl (Ac (ZC1 (UT Aa (AS VJ hr (A0 (qv 0) (A0 (qv 1) A6))) (UT Aa bw (UT Aa (Ep A6) vX))) rfl rfl (by simp) (by decide)))),?_⟩;refine Fz.G4 h dq ?_;rintro _ _ ⟨m,rfl,h1,h4,rfl⟩;show Ws [_,_] _ _ _;refine oq (ZBd (by decide +kernel) (L6 (Eh (Fs (bU rfl rfl (Ah rfl ⟨_,rfl,by omega,by omega,fun ns l nm nd=>?_⟩))))));refine L6 (bV fun aK=>L6 (WJ (NA ⟨by decide,fun aP=>NA ⟨by simp,by simp,by simp,rfl,fun a=>?_⟩⟩)));exact ⟨ns,a,⟨by omega,nm,nd⟩,aK,aP,rfl⟩
def y6:Ap ["rule"] ["rule"] (AY Vq):=by walk_at "z1"
def ZAN (F:AH K "check_rule" "check_rule" Vq f fd)(m:mg "check_rule"=some (.ref f)):
  A8 P w K mg base "check_rule" 1 ["rule"] (OI):=by
 refine A8.mk F (F.binds (by walk_at "bD1")) m (F.As (k:=0) y6 (fun vs H Q E h=>?_) (fun AU A outer s H vs Q E hr h=>?_))
 ·obtain ⟨r,rfl,Iq,q⟩:=h;rfl
 obtain ⟨r,rfl,Iq,q⟩:=h;refine ⟨_,(AG rfl (Aw (Al av (qv 0) (Ja (v:=.ref Ey) (by rfl) Kq rfl)) (AG rfl Dn) B3)),?_⟩;refine ⟨_,rfl,Ey,_,rfl,.inr (Kx H),rfl,rfl,_,rfl,?_⟩;have er:Cj (.str r) (Cn.map V.str)=decide (r∈Cn):=IB r Cn;show if (!Cj (.str r) (Cn.map V.str))=true then _ else _
 rw [er,jO Iq];exact Ee q
def rZ:Ap ["row","rule"] ["row","rule"] (AY UZ):=by walk_at "z1"
def kf (F:AH K "begun" "begun" UZ f fd)(m:mg "begun"=some (.ref f)):
  A8 P w K mg base "begun" 2 ["row","rule"] (XZ K):=by
 refine A8.mk F (F.binds (by walk_at "bD2")) m (F.As (k:=1) rZ (fun vs H Q E h=>?_) (fun AU A outer s H vs Q E hr h=>?_))
 ·obtain ⟨a,tp,ns,r,rfl,hS,Iq,hz,q⟩:=h;rfl
 obtain ⟨a,tp,ns,r,rfl,hS,Iq,hz,q⟩:=h;refine ⟨_,(AI rfl (DC (AS LC hr (A0 (qv 1) A6)))
   (AG rfl (Ac (CC (A0 (qv 1) (A0 A9 (A0 (D8 JJ Cf (A0 (BB Pk CV (A0 (qv 0) A6)) A6)) A6))))))),?_⟩
 refine ⟨_,rfl,r,rfl,Iq,?_⟩;refine ⟨_,rfl,_,rfl,a,tp,ns,rfl,hS,hz,fun l ts hl hp hs=>?_⟩;have n1:=AW hl (.lst (ts.map V.str));refine ⟨l,_,rfl,.inl ⟨AF.of AE,fun c hc=>?_⟩⟩;have n2:=AW hc (.tup (ts.map V.str));refine ⟨(by show 3<=sizeLine;decide),fun t ht=>?_⟩;have n3:=AW ht (.tup [.str r,.int 0,.ref c]);exact q t c _ ts (A7.none (n1.trans n2) ht) (A7.none n1 hc) (n1.trans (n2.trans n3)) hp hs ⟨AE,n3 _ _ AE⟩
def ux:Ap ["self","name","rule"] ["self","name","rule"] (AY VQ):=by walk_at "z1"
def cu:∀ ss R,(Ta A5) ss R->ss.length=3:=by rintro _ _ ⟨m,s,a,t,x,r,rfl,_,_,_,_,_,_,rfl⟩;rfl
def nJ (F:AH K "begin" "Yard.begin" VQ f fd)(mt:Meth K A5 "begin" f):
  DD P w K mg base A5 "begin" 8 ["self","name","rule"] (CL (Ta A5)):=by
 refine ⟨f,fd,F.As (k:=7) ux (fun vs H Q E h=>Fz.J0 cu h) (fun AU A outer s H vs Q E hr h=>?_),(F.binds (by walk_at "bD3")),mt,B6⟩
 refine ⟨_,(AI rfl (Aw (EO (Fl (AS HY hr (A0 (qv 1) A6)))) (AG rfl Dn) B3)
   (AI rfl (Aw (wt (Bb hr) (qv 1) (DH (qv 0))) (AG rfl Dn) B3)
   (AI rfl (DC (AS LC hr (A0 (qv 2) A6)))
   (AI rfl (Aw (Al LG (BB xH Az (A0 (DH (qv 0)) A6)) (Ja (v:=.int 12) (by rfl) Tc ⟨_,rfl⟩)) (AG rfl Dn) B3)
   (AG rfl (JE (Bb hr) (DH (qv 0)) (qv 1) (AS RX hr (A0 (DH (qv 0)) (A0 (qv 2) A6))))))))),?_⟩
 refine Fz.Q0 h cu ?_;rintro _ _ ⟨m,s,a,t,x,r,rfl,hT,ok,hx,nx,hr,h12,rfl⟩;obtain ⟨dx,aK,aP,rfl⟩:=hT;show Ws [_,_,_] _ _ _;refine BI (HA (IQ (Gm (gS (Ah rfl ⟨x,rfl,(YG nx).2,_,rfl,?_⟩)))));rw [TV nx];refine Bh (by decide) (Dw ?_);refine BI (HA (Gm (k6 (Ah rfl (II rfl B6 C9 ⟨Ag s.ln,aK,_,.inr x,rfl,rfl,_,rfl,?_⟩)))));rw [PU,jx hx];refine Bh (by decide) (Dw ?_);refine BI (SV (x6 (Ah rfl ⟨r,rfl,hr,?_⟩)));refine BI (HA (SQ (fJ (lz (II rfl B6 C9 ⟨Ag s.ln,aK,_,rfl,_,rfl,?_⟩)))));have lk:(Ag s.ln).length=s.ln.length:=by unfold Ag;rw [Ab]
 rw [lk];refine NV ⟨_,rfl,_,rfl,Bh (fun z=>by have:=jw z;omega) (Dw ?_)⟩;refine Jq (i:=0) (t:=B1 s A5 a dx aK aP) (Eh (ZBz (D0 (DA (Nc rfl B6 DY ⟨_,rfl,_,.inl ⟨rfl,s.row,rfl,Ah rfl ⟨r,rfl,hr,by have:=ok.row.len;have:=ok.m4;omega,fun ts pm st=>?_⟩⟩⟩)))));rw [Pg ok.row.nd pm st];have l1:=ok.l1;refine II rfl B6 C9 ⟨true,aK,Ag s.ln,_,rfl,rfl,by unfold BV;rw [Ab];omega,HL ok.n1,Au,Ah rfl ⟨.inr x,rfl,?_⟩⟩;rw [T3 hx,cy hx];unfold B1;rw [show ([]++[1]:List Nat)=[1] from rfl,Q3];have e1:BV s.ll++[.fz (CS r 0 (DQ s.row))]=BV (s.ll++[⟨r,0,DQ s.row⟩]):=by unfold BV;rw [Dh];rfl
 rw [e1];exact ⟨_,_,_,_,rfl,rfl,rfl,dx,aK,aP,rfl⟩
def ya:Ap ["self","name"] ["self","name"] (AY Wj):=by walk_at "z1"
def dN:∀ ss R,(MH A5) ss R->ss.length=2:=by rintro _ _ ⟨s,x,lo,rfl,_,_,_,rfl⟩;rfl
def nj (F:AH K "loop" "Yard.loop" Wj f fd)(mt:Meth K A5 "loop" f):
  DD P w K mg base A5 "loop" 1 ["self","name"] (BW (MH A5)):=by
 refine ⟨f,fd,F.As (k:=0) ya (fun vs H Q E h=>Fz.GJ dN h) (fun AU A outer s H vs Q E hr h=>?_),(F.binds (by walk_at "bD2")),mt,B6⟩
 refine ⟨_,(AI rfl (Aw (yW (Bb hr) (qv 1) (DH (qv 0))) (AG rfl Dn) B3)
   (AG rfl (Ac (CA (Bb hr) (DH (qv 0)) (qv 1) (fun _ _=>rfl))))),?_⟩
 refine Fz.G4 h dN ?_;rintro _ _ ⟨s,x,lo,rfl,hx,hl,l1,rfl⟩;show Ws [_,_] _ _ _;refine BI (HA (Gm (pY (Ah rfl (L8 (Ah rfl ⟨A5,yN,_,1,_,rfl,B6,C9,by decide +kernel,rfl,Ag s.ln,_,.inr x,rfl,rfl,_,rfl,?_⟩))))));rw [PU,jO hx];refine Bh (by decide) (Dw ?_);refine MC (Q7 (L8 (Ah rfl ⟨A5,yN,_,1,_,rfl,B6,C9,by decide +kernel,rfl,Ag s.ln,_,rfl,Ah rfl ⟨.inr x,lo.P,rfl,cY hx ?_,rfl⟩⟩)));rw [Ax,hl];rfl
def xj:Ap ["self","name"] ["self","name"] (AY V4):=by walk_at "z1"
def Yn:∀ ss R,(WW A5) ss R->ss.length=2:=by rintro _ _ ⟨m,s,a,t,x,rfl,_,_,_,rfl⟩;rfl
def w8 (F:AH K "drop" "Yard.drop" V4 f fd)(mt:Meth K A5 "drop" f):
  DD P w K mg base A5 "drop" 3 ["self","name"] (CL (WW A5)):=by
 refine ⟨f,fd,F.As (k:=2) xj (fun vs H Q E h=>Fz.J0 Yn h) (fun AU A outer s H vs Q E hr h=>?_),(F.binds (by walk_at "bD2")),mt,B6⟩
 refine ⟨_,(AI rfl (DC (Jk Hm hr (by decide) (qv 0) (A0 (qv 1) A6)))
   (AG rfl (DC (eX (DH (qv 0)) (qv 1) ⟨rfl,rfl,rfl,rfl⟩)))),?_⟩
 refine Fz.Q0 h Yn ?_;rintro _ _ ⟨m,s,a,t,x,rfl,hT,ok,hx,rfl⟩;obtain ⟨dx,aK,aP,rfl⟩:=hT;show Ws [_,_] _ _ _;have ix:=List.idxOf_lt_length_iff.mpr hx;have l1:=ok.l1;obtain ⟨lo,el⟩:∃ l,s.ll[s.ln.idxOf x]?=some l:=⟨_,BE (by omega)⟩;refine BI (SV (gL (i:=0) (Cw rfl ⟨dx,yN,a,_,rfl,by decide +kernel,cn (Ah rfl (dX ⟨_,⟨s,x,lo,o7 (fun p=>[Slot.is p,.is (.str x)]) (JW s A5 a dx aK aP),hx,el,ok.l1,rfl⟩,fun _ hp=>hp▸⟨bM lo,?_⟩⟩))⟩)));refine Zr (i:=0) (t:=B1 s A5 a dx aK aP) (II rfl B6 C9 ⟨true,aK,Ag s.ln,_,rfl,rfl,HL ok.n1,Ah rfl ⟨.inr x,s.ln.idxOf x,rfl,Jt hx,?_⟩⟩);unfold B1;rw [show ([]++[1]:List Nat)=[1] from rfl,Q3];have e1:(Ag s.ln).eraseIdx (s.ln.idxOf x)=Ag (s.ln.eraseIdx (s.ln.idxOf x)):=by unfold Ag;rw [MD]
 have e2:(BV s.ll).eraseIdx (s.ln.idxOf x)=BV (s.ll.eraseIdx (s.ln.idxOf x)):=by unfold BV;rw [MD]
 rw [e1,e2];exact ⟨_,_,_,_,rfl,rfl,rfl,dx,aK,aP,rfl⟩
def mz:Ap ["row","gap"] ["row","gap"] (AY SJ):=by walk_at "z1"
def xC (F:AH K "is_gap" "is_gap" SJ f fd)(m:mg "is_gap"=some (.ref f)):
  A8 P w K mg base "is_gap" 1 ["row","gap"] (bL K):=by
 refine A8.mk F (F.binds (by walk_at "bD2")) m (F.As (k:=0) mz (fun vs H Q E h=>?_) (fun AU A outer s H vs Q E hr h=>?_))
 ·obtain ⟨a,tp,ns,g,rfl,hS,q⟩:=h;rfl
 obtain ⟨a,tp,ns,g,rfl,hS,q⟩:=h;refine ⟨_,(AG rfl (Ac (Zg GK GK A9 (qv 1) (BB Dt Az (A0 (qv 0) A6))))),?_⟩;have hl:=Co ns;refine ⟨_,rfl,_,_,rfl,rfl,_,rfl,?_⟩;refine B2 (fun c=>?_) (fun c=>?_)
 ·refine ⟨_,rfl,a,_,rfl,hS.or,_,_,rfl,rfl,?_⟩;rw [hl];have e:K8 ns.length g=decide (g<=(ns.length:Int)):=by unfold K8;rw [c];rfl
  show Q (.bl (decide (g<=(ns.length:Int)))) H;rw [<- e];exact q
 ·have e:K8 ns.length g=false:=by unfold K8;rw [Bool.eq_false_iff.mpr c];rfl
  show Q (.bl false) H;rw [<- e];exact q
def km:Ap ["row","coming"] ["row","coming"] (AY OR):=by walk_at "z1"
def oQ:Scope:={ kind:=.function,names:=[(".0", .local),("name", .local),("row", .free)],isGenerator:=false,isCoroutine:=false,more:=[] }
def ZCI:DV ["row","coming"] (AY OR) oQ "name" ["row"] [0]:=by walk_at "z2"
def ZBK (F:AH K "is_coming" "is_coming" OR f fd)(m:mg "is_coming"=some (.ref f)):
  A8 P w K mg base "is_coming" 1 ["row","coming"] (Zu K):=by
 refine A8.mk F (F.binds (by walk_at "bD2")) m (F.As (k:=0) km (fun vs H Q E h=>?_) (fun AU A outer s H vs Q E hr h=>?_))
 ·obtain ⟨a,tp,ns,c,ss,rfl,hS,hC,Bn,q⟩:=h;rfl
 obtain ⟨a,tp,ns,c,ss,rfl,hS,hC,Bn,q⟩:=h;refine ⟨_,(AG rfl (Ac (HP (EJ (MI hr.Gk) (D8 Jw Bq (A0 (qv 1) A6)) (BB (mV rfl) CV (A0 (D8 (xr rfl) Ss (A0 (qv 1) A6)) A6))) (Iu (BB (NJ rfl) EH (A0 (G2 rfl ZCI (FF (qv 1)) (fun _ _ _ _=>by exact MM) (fun _ _ _ _=>by exact (EJ (show BG _ (compareOp .In) (K6 K false) from Hl) (qv 1) (qv 0)))) A6)))))),?_⟩;have hl:=Co ss;refine ⟨_,rfl,c,_,rfl,.inr hC,fun l1 Ew=>?_⟩;have n1:=AW Ew (.lst (ss.map V.str));refine ⟨_,rfl,c,true,ss,rfl,n1.IA hC,by omega,fun l2 D9=>?_⟩;have n2:=AW D9 (QC P w l2 (fun k'=>(dd ss).any (· == k')) (dd ss).length)
 refine ⟨l2,_,_,rfl,AE,by have:=gf ss;omega,fun l3 ts Ld e1 e2 e3=>?_⟩;have n3:=AW Ld (.lst (ts.map V.str));have s3:=n1.trans (n2.trans n3);refine ⟨l1,l3,_,_,rfl,rfl,.inl ⟨AF.of (n3 _ _ (n2 _ _ AE)),AF.of AE⟩,Dr ss,Dr ts,_,rfl,?_⟩;have hu:DW (ss.map V.str) (ts.map V.str)=IH ss:=by rw [xT];unfold IH;rw [decide_eq_decide];exact oO e1 e2 e3
 show if DW (ss.map V.str) (ts.map V.str)=true then _ else _
 rw [hu];refine B2 (fun c1=>?_) (fun c1=>?_)
 ·have bT:=s3.IA hC;refine ⟨_,rfl,true,c,_,rfl,bT,fun acc Ai=>IK (tp:=true) (fun _=>true) (fun v=>.bl (Cj v (ns.map V.str))) bT Ai (by rw [hl];exact small (by omega)) (fun i v H' Q' _ _ h=>h H' (A7.refl _)) (fun i v H' Q' hv _ s4 h=>?_) (fun H' s4 e4=>?_)⟩
  ·obtain ⟨x,rfl,hm⟩:=Iz hv;exact ⟨_,rfl,_,rfl,a,_,rfl,((s3.trans s4).sq hS).or,rfl,Dr ns,h _ (A7.refl _)⟩
  ·rw [ub] at e4;refine ⟨acc,_,rfl,AF.of e4,?_⟩;rw [all_map];have e:(IH ss && IY ns ss)=IY ns ss:=by rw [c1];rfl
   show Q (.bl (IY ns ss)) H';rw [<- e];exact q _ (s3.trans s4)
 ·have e:(IH ss && IY ns ss)=false:=by rw [Bool.eq_false_iff.mpr c1];rfl
  rw [<- e];exact q _ s3
def yE:Ap ["row","thing"] ["row","thing"] (AY Ug):=by walk_at "z1"
def zu (F:AH K "is_loop" "is_loop" Ug f fd)(m:mg "is_loop"=some (.ref f)):
  A8 P w K mg base "is_loop" 2 ["row","thing"] (fX K):=by
 refine A8.mk F (F.binds (by walk_at "bD2")) m (F.As (k:=1) yE (fun vs H Q E h=>?_) (fun AU A outer s H vs Q E hr h=>?_))
 ·obtain ⟨a,tp,ns,t,r,g,ss,rfl,hS,⟨c,hT,hC⟩,Bn,q⟩:=h;rfl
 obtain ⟨a,tp,ns,t,r,g,ss,rfl,hS,⟨c,hT,hC⟩,Bn,q⟩:=h;refine ⟨_,(AG rfl (Ac (HP (EJ Hl (AR Ad (qv 1) A9) (Ja (v:=.ref Ey) (by rfl) Kq rfl)) (HP (AS Xb hr (A0 (qv 0) (A0 (AR Ad (qv 1) A9) A6))) (Iu (AS UH hr (A0 (qv 0) (A0 (AR Ad (qv 1) A9) A6)))))))),?_⟩;refine ⟨_,rfl,t,_,_,_,rfl,rfl,hT,rfl,Ey,_,rfl,.inr (Kx H),rfl,rfl,_,rfl,?_⟩;have er:Cj (.str r) (Cn.map V.str)=decide (r∈Cn):=IB r Cn;show if Cj (.str r) (Cn.map V.str)=true then _ else _
 rw [er];refine B2 (fun c1=>?_) (fun c1=>?_)
 ·refine ⟨_,rfl,_,rfl,t,_,_,_,rfl,rfl,hT,rfl,a,tp,ns,g,rfl,hS,_,rfl,?_⟩;refine B2 (fun c2=>?_) (fun c2=>?_)
  ·refine ⟨_,rfl,_,rfl,t,_,_,_,rfl,rfl,hT,rfl,a,tp,ns,c,ss,rfl,hS,hC,Bn,fun H' s'=>?_⟩;have e:Eb ns r g ss=(IH ss && IY ns ss):=by unfold Eb;rw [c1,c2];rfl
   rw [<- e];exact q _ s'
  ·have e:Eb ns r g ss=false:=by unfold Eb;rw [c1,Bool.eq_false_iff.mpr c2];rfl
   rw [<- e];exact q _ (A7.refl _)
 ·have e:Eb ns r g ss=false:=by unfold Eb;rw [Bool.eq_false_iff.mpr c1];rfl
  rw [<- e];exact q _ (A7.refl _)
def xn:Ap ["row","loop"] ["row","loop"] (AY Us):=by walk_at "z1"
def vU (F:AH K "check_loop" "check_loop" Us f fd)(m:mg "check_loop"=some (.ref f)):
  A8 P w K mg base "check_loop" 3 ["row","loop"] (bQ K):=by
 refine A8.mk F (F.binds (by walk_at "bD2")) m (F.As (k:=2) xn (fun vs H Q E h=>?_) (fun AU A outer s H vs Q E hr h=>?_))
 ·obtain ⟨a,tp,ns,t,r,g,ss,rfl,hS,hL,Bn,ok,q⟩:=h;rfl
 obtain ⟨a,tp,ns,t,r,g,ss,rfl,hS,hL,Bn,ok,q⟩:=h;refine ⟨_,(AG rfl (Aw (EO (Fl (AS UM hr (A0 (qv 0) (A0 (qv 1) A6))))) (AG rfl Dn) B3)),?_⟩;refine ⟨_,rfl,_,rfl,a,tp,ns,t,r,g,ss,rfl,hS,hL,Bn,fun H' s1=>⟨_,rfl,?_⟩⟩;refine Bh (by rw [ok];decide) ?_;exact q _ s1
def oB:Ap ["things","loop"] ["things","loop"] (AY Oe):=by walk_at "z1"
def zV:Scope:={ kind:=.function,names:=[(".0", .local),("name", .local),("loop", .free)],isGenerator:=false,isCoroutine:=false,more:=[] }
def sP:DV ["things","loop"] (AY Oe) zV "name" ["loop"] [1]:=by walk_at "z2"
def xb (F:AH K "things_to_come" "things_to_come" Oe f fd)(m:mg "things_to_come"=some (.ref f)):
  A8 P w K mg base "things_to_come" 1 ["things","loop"] (Z4 K):=by
 refine A8.mk F (F.binds (by walk_at "bD2")) m (F.As (k:=0) oB (fun vs H Q E h=>?_) (fun AU A outer s H vs Q E hr h=>?_))
 ·obtain ⟨a,tp,ns,t,r,g,ss,rfl,hS,⟨c,hT,hC⟩,hz,q⟩:=h;rfl
 obtain ⟨a,tp,ns,t,r,g,ss,rfl,hS,⟨c,hT,hC⟩,hz,q⟩:=h;refine ⟨_,(AG rfl (Ac (G2 rfl sP (FF (qv 0)) (fun _ _ _ _=>by exact (JU (Al (show BG _ (compareOp .In) (K6 K false) from Hl) (qv 1) (AR (show FZ _ (Gf K) from Ad) (qv 0) A9)))) (fun _ _ _ _=>by exact (qv 1))))),?_⟩;have hl:=Co ns;refine ⟨_,rfl,tp,a,_,rfl,hS,fun acc Ai=>IK (fun v=>Cj v (ss.map V.str)) (fun v=>v) hS Ai (by rw [hl];exact small (by omega)) (fun i v H' Q' hv s1 h=>?_) (fun i v H' Q' hv _ s1 h=>?_) (fun H' s1 e1=>?_)⟩
 ·obtain ⟨x,rfl,_⟩:=Iz hv;exact ⟨_,rfl,_,rfl,t,_,_,_,rfl,rfl,s1.IA hT,rfl,c,_,rfl,.inr (s1.IA hC),rfl,Dr ss,_,rfl,h _ (A7.refl _)⟩
 ·exact ⟨_,rfl,h _ (A7.refl _)⟩
 ·rw [ZY] at e1;exact q acc H' Ai s1 e1
def Z5:Ap ["row","loop","gap"] ["row","loop"] (AY Rb):=by walk_at "z1"
def zL (F:AH K "rest" "rest" Rb f fd)(m:mg "rest"=some (.ref f)):
  A8 P w K mg base "rest" 4 ["row","loop"] (dD K):=by
 refine A8.mk F (F.binds (by walk_at "bD2")) m (F.As (k:=3) Z5 (fun vs H Q E h=>?_) (fun AU A outer s H vs Q E hr h=>?_))
 ·obtain ⟨a,tp,ns,t,r,g,ss,rfl,hS,hL,Bn,ok,hz,q⟩:=h;rfl
 obtain ⟨a,tp,ns,t,r,g,ss,rfl,hS,hL,Bn,ok,hz,q⟩:=h;refine ⟨_,(AI rfl (DC (AS So hr (A0 (qv 0) (A0 (qv 1) A6))))
   (AI rfl (BC 2 Z5.nd (AR Ad (qv 1) A9))
   (AG rfl (Ac (B0 IV (AS Pn hr (A0 (E4 J5 (qv 0) (De (qv 2)) EZ) (A0 (qv 1) A6))) (AS Pn hr (A0 (E4 J5 (qv 0) EZ (De (qv 2))) (A0 (qv 1) A6)))))))),?_⟩
 have hl:=Co ns;refine ⟨_,rfl,_,rfl,a,tp,ns,t,r,g,ss,rfl,BM.sq hS,hL,Bn,ok,fun H1 s1=>?_⟩;obtain ⟨c,hT,hC⟩:=id hL;have BY:=s1.IA hT;refine ⟨_,rfl,t,_,_,_,rfl,rfl,BY,rfl,?_⟩;have e1:=s1 _ _ hS;refine ⟨_,rfl,_,rfl,_,rfl,a,tp,_,rfl,BM.sq e1,fun p2 H2 s2 e2=>?_⟩;rw [ML,<- Lm] at e2;have k2:=s1.trans s2;refine ⟨_,rfl,p2,tp,ns.drop g,t,r,g,ss,rfl,e2,hL.same k2,by rw [Dz];omega,fun l3 H3 Ld s3 e3=>?_⟩;have k3:=k2.trans s3;refine ⟨_,rfl,_,rfl,_,rfl,a,tp,_,rfl,BM.sq (k3 _ _ hS),fun p4 H4 s4 e4=>?_⟩;rw [Mz,<- Ln] at e4;have k4:=k3.trans s4;refine ⟨_,rfl,p4,tp,ns.take g,t,r,g,ss,rfl,e4,hL.same k4,by rw [C1];omega,fun l5 H5 i5 s5 e5=>?_⟩;have k5:=k4.trans s5;have z1:=Ll (Hi ss) (ns.drop g);have z2:=Ll (Hi ss) (ns.take g);rw [Dz] at z1;rw [C1] at z2;refine ⟨l3,l5,_,_,rfl,rfl,s5 _ _ (s4 _ _ e3),e5,small (by rw [Ab,Ab];omega),fun l6 aD=>?_⟩;refine q l6 _ (A7.none k5 aD) (k5.trans (AW aD _)) ?_;rw [AE,<- Dh];rfl
def jf:Ap ["coming","gone"] ["coming","gone"] (AY Q9):=by walk_at "z1"
def lZ:Scope:={ kind:=.function,names:=[(".0", .local),("name", .local),("gone", .free)],isGenerator:=false,isCoroutine:=false,more:=[] }
def lR:DV ["coming","gone"] (AY Q9) lZ "name" ["gone"] [1]:=by walk_at "z2"
def vi (F:AH K "coming_without" "coming_without" Q9 f fd)(m:mg "coming_without"=some (.ref f)):
  A8 P w K mg base "coming_without" 1 ["coming","gone"] (W8 K):=by
 refine A8.mk F (F.binds (by walk_at "bD2")) m (F.As (k:=0) jf (fun vs H Q E h=>?_) (fun AU A outer s H vs Q E hr h=>?_))
 ·obtain ⟨c,ss,x,rfl,hC,hz,q⟩:=h;rfl
 obtain ⟨c,ss,x,rfl,hC,hz,q⟩:=h;refine ⟨_,(AG rfl (Ac (D8 JJ Cf (A0 (G2 rfl lR (FF (qv 0)) (fun _ _ _ _=>by exact (JU (Al Ib (qv 1) (qv 0)))) (fun _ _ _ _=>by exact (qv 1))) A6)))),?_⟩;have hl:=Co ss;have Hd:CN K true H c (ss.map V.str):=hC;refine ⟨_,rfl,true,c,_,rfl,Hd,fun acc Ai=>IK (GV (.str x)) (fun v=>v) Hd Ai (by rw [hl];exact small (by omega)) (fun i v H' Q' hv s1 h=>?_) (fun i v H' Q' hv _ s1 h=>?_) (fun H' s1 e1=>?_)⟩
 ·obtain ⟨y,rfl,_⟩:=Iz hv;exact ⟨_,rfl,_,rfl,rfl,_,rfl,h _ (A7.refl _)⟩
 ·exact ⟨_,rfl,h _ (A7.refl _)⟩
 ·rw [MK] at e1;refine ⟨acc,_,rfl,.inl ⟨AF.of e1,fun t ht=>?_⟩⟩;exact q t _ (A7.none s1 ht) (s1.trans (AW ht _)) AE
def vb:Ap ["row","name"] ["row","name"] (AY VF):=by walk_at "z1"
def zC (F:AH K "place_of" "place_of" VF f fd)(m:mg "place_of"=some (.ref f)):
  A8 P w K mg base "place_of" 1 ["row","name"] (Ms):=by
 refine A8.mk F (F.binds (by walk_at "bD2")) m (F.As (k:=0) vb (fun vs H Q E h=>?_) (fun AU A outer s H vs Q E hr h=>?_))
 ·obtain ⟨a,tp,ns,x,rfl,hS,hx,q⟩:=h;rfl
 obtain ⟨a,tp,ns,x,rfl,hS,hx,q⟩:=h;refine ⟨_,(AI rfl (Aw (Al av (qv 1) (qv 0)) (AG rfl Dn) B3)
   (AG rfl (Ac (tU (G3 Hw Y6 j4 UK (qv 0) (A0 (qv 1) A6)) (G3 PySem.F.plainAttrs_tuple ZDD PySem.F.type_tuple_index ZB9 (qv 0) (A0 (qv 1) A6)))))),?_⟩
 refine ⟨_,rfl,_,rfl,a,_,rfl,(BM.sq (K:=K) hS).or,rfl,Dr ns,_,rfl,?_⟩;refine Bh (by show ¬ (!Cj (V.str x) (ns.map V.str))=true;rw [IB,jO hx];decide) ?_;cases tp with
 | false=>exact .inl ⟨_,rfl,.inl ⟨rfl,_,AF.of hS⟩,_,rfl,a,ns,x,rfl,rfl,AF.of hS,hx,q⟩
 | true=>exact .inr ⟨_,rfl,.inr (.inr (.inr (.inr ⟨rfl,_,hS⟩))),_,rfl,a,ns,x,rfl,rfl,AA.of hS,hx,q⟩
def kZ:Ap ["row","loop","name"] ["row","loop","name"] (AY Sq):=by walk_at "z1"
def uG (F:AH K "loop_telling" "loop_telling" Sq f fd)(m:mg "loop_telling"=some (.ref f)):
  A8 P w K mg base "loop_telling" 2 ["row","loop","name"] (gI K):=by
 refine A8.mk F (F.binds (by walk_at "bD3")) m (F.As (k:=1) kZ (fun vs H Q E h=>?_) (fun AU A outer s H vs Q E hr h=>?_))
 ·obtain ⟨a,tp,ns,t,r,g,ss,x,rfl,hS,hL,Bn,hx,q⟩:=h;rfl
 obtain ⟨a,tp,ns,t,r,g,ss,x,rfl,hS,hL,Bn,hx,q⟩:=h;refine ⟨_,(AG rfl (Ac (CC (A0 (AR Ad (qv 1) A9) (A0 (B0 E9 (AS FI hr (A0 (qv 0) (A0 (qv 2) A6))) A9) (A0 (AS LA hr (A0 (AR Ad (qv 1) A9) (A0 (qv 2) A6))) A6)))))),?_⟩;obtain ⟨c,FH,Hd⟩:=id hL;have hT:AA K H t _:=AA.of FH;have hC:AA K H c _:=AA.of Hd;refine ⟨_,rfl,t,_,_,_,rfl,rfl,hT,rfl,_,rfl,_,rfl,a,tp,ns,x,rfl,hS,hx,_,_,rfl,rfl,?_⟩;refine ⟨_,rfl,t,_,_,_,rfl,rfl,hT,rfl,_,rfl,c,ss,x,rfl,hC,by omega,fun c3 H3 wR s3 e3=>?_⟩;refine ⟨(by show 3<=sizeLine;decide),fun t4 Gb=>?_⟩;have n4:=AW Gb (.tup [.str r,.int ((ns.idxOf x:Nat)+1),.ref c3]);exact q t4 c3 _ (A7.none s3 Gb) wR (s3.trans n4) ⟨AE,n4 _ _ e3⟩
def eI:Ap ["row","loop","order"] ["row","loop"] (AY X0):=by walk_at "z1"
def rB (F:AH K "step" "step" X0 f fd)(m:mg "step"=some (.ref f)):
  A8 P w K mg base "step" 5 ["row","loop"] (Wc K):=by
 refine A8.mk F (F.binds (by walk_at "bD2")) m (F.As (k:=4) eI (fun vs H Q E h=>?_) (fun AU A outer s H vs Q E hr h=>?_))
 ·obtain ⟨a,tp,ns,t,r,g,ss,rfl,hS,hL,Bn,ok,hz,q⟩:=h;rfl
 obtain ⟨a,tp,ns,t,r,g,ss,rfl,hS,hL,Bn,ok,hz,q⟩:=h;refine ⟨_,(AI rfl (BC 2 eI.nd (AS S9 hr (A0 (qv 0) (A0 (qv 1) A6))))
   (AI rfl (Aw (Al (MI hr.Gk) (qv 2) (Ep A6)) (AG rfl (Ac (CC (A0 MN (A0 (qv 1) A6))))) B3)
   (AG rfl (Ac (CC (A0 (AR Dl (qv 2) A9) (A0 (AS T5 hr (A0 (qv 0) (A0 (qv 1) (A0 (AR Dl (qv 2) A9) A6)))) A6))))))),?_⟩
 refine ⟨_,rfl,_,rfl,a,tp,ns,t,r,g,ss,rfl,hS,hL.at,Bn,ok,hz,fun l1 H1 Ew s1 e1=>?_⟩;obtain ⟨c,FH,Hd⟩:=id hL;have hT:AA K H t _:=AA.of FH;have hC:AA K H c _:=AA.of Hd;refine ⟨_,rfl,(by show 0<=sizeLine;decide),fun l2 D9=>?_⟩;have n2:=AW D9 (.lst []);have k2:=s1.trans n2;refine ⟨l1,l2,_,[],rfl,rfl,.inl ⟨AF.of (n2 _ _ e1),AF.of AE⟩,Dr _,rfl,_,rfl,?_⟩;show if DW ((Cy ns g ss).map V.str) []=true then _ else _
 rw [Kp];refine B2 (fun c1=>?_) (fun c1=>?_)
 ·have er:Cy ns g ss=[]:=by simpa using c1
  refine ⟨_,rfl,(by show 2<=sizeLine;decide),fun t' ED=>?_⟩;exact q t' _ (A7.none k2 ED) (k2.trans (AW ED _)) (.inl ⟨er,AE⟩)
 ·obtain ⟨x,EB,er⟩:∃ x EB,Cy ns g ss=x::EB:=by
   cases h:Cy ns g ss with
   | nil=>rw [h] at c1;simp at c1
   | cons x EB=>exact ⟨x,EB,rfl⟩
  have hx:x∈ns/\x∈ss:=Nf.mp (by rw [er];exact Cu);have e2:=n2 _ _ e1;rw [er] at e2;generalize hH2:upd H1 l2 (.lst [])=H2 at n2 k2 e2;refine ⟨_,rfl,l1,_,_,_,rfl,rfl,AF.of e2,Mq,?_⟩;refine ⟨_,rfl,_,rfl,_,rfl,l1,_,_,_,rfl,rfl,AF.of e2,Mq,a,tp,ns,t,r,g,ss,x,rfl,k2 _ _ hS,hL.same k2,Bn,hx.1,fun t4 c4 H4 Gb Ob s4 e4=>?_⟩;refine ⟨(by show 2<=sizeLine;decide),fun t5 M7=>?_⟩;have n5:=AW M7 (.tup [.str x,.ref t4]);have k5:=k2.trans (s4.trans n5);exact q t5 _ (A7.none (k2.trans s4) M7) k5 (.inr ⟨x,EB,t4,c4,er,A7.none k2 Gb,A7.none k2 Ob,AE,e4.same n5⟩)
def bh:Ap ["self","name","answer"] ["self","name"] (AY TX):=by walk_at "z1"
def ao:∀ ss R,(V3 A5) ss R->ss.length=2:=by rintro _ _ ⟨m,s,a,t,x,lo,rfl,_,_,_,_,rfl⟩;rfl
def zX (F:AH K "step" "Yard.step" TX f fd)(mt:Meth K A5 "step" f):
  DD P w K mg base A5 "step" 8 ["self","name"] (CL (V3 A5)):=by
 refine ⟨f,fd,F.As (k:=7) bh (fun vs H Q E h=>Fz.J0 ao h) (fun AU A outer s H vs Q E hr h=>?_),(F.binds (by walk_at "bD2")),mt,B6⟩
 refine ⟨_,(AI rfl (BC 2 bh.nd (AS VE hr (A0 (DH (qv 0)) (A0 (Jk Hm hr (by decide) (qv 0) (A0 (qv 1) A6)) A6))))
   (AI rfl (JE (Bb hr) (DH (qv 0)) (qv 1) (AR Ad (qv 2) A9))
   (AG rfl (Ac (AR Ad (qv 2) A9))))),?_⟩
 refine Fz.P4 h ao ?_;rintro _ _ ⟨m,s,a,t,x,lo,rfl,hT,ok,hx,el,rfl⟩;obtain ⟨dx,aK,aP,rfl⟩:=hT;show Ws [_,_,.any] _ _ _;have l1:=ok.l1;have lf:=ok.G6;have hr:=ok.row.len;have h4:=ok.m4;have gl:=ok.good lo (DK el);refine BI (PR (ZCV (D0 (DA (Nc rfl B6 DY ⟨_,rfl,_,.inl ⟨rfl,s.row,rfl,?_⟩⟩)))));refine gL (i:=0) (Cw rfl ⟨dx,yN,a,_,rfl,by decide +kernel,cn (Ah rfl (dX ⟨_,⟨s,x,lo,o7 (fun p=>[Slot.is p,.is (.str x)]) (JW s A5 a dx aK aP),hx,el,ok.l1,rfl⟩,fun _ hp=>hp▸⟨bM lo,lo.r,lo.g,lo.cs,rfl,gl,by omega,?_⟩⟩))⟩);rw [ZP];show Ws [.ow true (B1 s A5 a dx aK aP),.is (.str x),.is (.tup [lo.told s.row,(lo.FA s.row).P])] _ _ _;refine BI (Jq (i:=0) (t:=B1 s A5 a dx aK aP) (Eh (Su (XT rfl ⟨rfl,NV ⟨1,_,rfl,rfl,?_⟩⟩))));refine II rfl B6 C9 ⟨true,aK,Ag s.ln,_,rfl,rfl,by unfold BV;rw [Ab];omega,HL ok.n1,Au,Ah rfl ⟨.inr x,rfl,?_⟩⟩;rw [OF hx,Pb hx];unfold B1;rw [show ([]++[1]:List Nat)=[1] from rfl,Q3,Qo];exact ji (i:=0) rfl (Su (XT rfl ⟨rfl,NV ⟨0,_,rfl,rfl,rfl,dx,aK,aP,rfl⟩⟩))
def zr:Ap ["row","name","at"] ["row","name","at"] (AY Rx):=by walk_at "z1"
def ng (F:AH K "check_put" "check_put" Rx f fd)(m:mg "check_put"=some (.ref f)):
  A8 P w K mg base "check_put" 2 ["row","name","at"] (cO):=by
 refine A8.mk F (F.binds (by walk_at "bD3")) m (F.As (k:=1) zr (fun vs H Q E h=>?_) (fun AU A outer s H vs Q E hr h=>?_))
 ·obtain ⟨a,tp,ns,x,i,rfl,hS,⟨h1,h2,h3,h4⟩,q⟩:=h;rfl
 obtain ⟨a,tp,ns,x,i,rfl,hS,⟨h1,h2,h3,h4⟩,q⟩:=h;refine ⟨_,(AI rfl (Aw (EO (Fl (AS HY hr (A0 (qv 1) A6)))) (AG rfl Dn) B3)
   (AI rfl (Aw (Al Hl (qv 1) (qv 0)) (AG rfl Dn) B3)
   (AI rfl (Aw (EO (Ql GK GK A9 (qv 2) (BB Dt Az (A0 (qv 0) A6)))) (AG rfl Dn) B3)
   (AG rfl (Aw (Al LG (BB Dt Az (A0 (qv 0) A6)) (Ja (v:=.int 40) (by rfl) L0 ⟨_,rfl⟩)) (AG rfl Dn) B3))))),?_⟩
 have hl:=Co ns;refine ⟨_,rfl,x,rfl,by have:=h1.2.1;omega,fun H1 s1=>⟨_,rfl,?_⟩⟩;refine Bh (by rw [TV h1];decide) ?_;have e1:=s1 _ _ hS;refine ⟨_,rfl,_,rfl,a,_,rfl,(BM.sq (K:=K) e1).or,rfl,Dr ns,_,rfl,?_⟩;refine Bh (by show ¬ (Cj (V.str x) (ns.map V.str))=true;rw [IB,jx h2];decide) ?_;refine ⟨_,rfl,_,_,rfl,rfl,_,rfl,GX (jO (by omega)) ?_⟩;refine ⟨_,rfl,a,_,rfl,(BM.sq (K:=K) e1).or,_,_,rfl,rfl,_,rfl,P7 (by rw [hl];omega) ?_⟩;refine ⟨_,rfl,a,_,rfl,(BM.sq (K:=K) e1).or,_,_,rfl,rfl,_,rfl,Bh (by rw [hl,jx (by omega)];decide) ?_⟩;exact q _ s1
def pe:Ap ["row","name","at"] ["row","name","at"] (AY WO):=by walk_at "z1"
def uY (F:AH K "check_move" "check_move" WO f fd)(m:mg "check_move"=some (.ref f)):
  A8 P w K mg base "check_move" 2 ["row","name","at"] (dU):=by
 refine A8.mk F (F.binds (by walk_at "bD3")) m (F.As (k:=1) pe (fun vs H Q E h=>?_) (fun AU A outer s H vs Q E hr h=>?_))
 ·obtain ⟨a,tp,ns,x,i,rfl,hS,⟨h1,h2⟩,q⟩:=h;rfl
 obtain ⟨a,tp,ns,x,i,rfl,hS,⟨h1,h2⟩,q⟩:=h;refine ⟨_,(AI rfl (DC (AS FI hr (A0 (qv 0) (A0 (qv 1) A6))))
   (AG rfl (Aw (EO (Ql GK GF A9 (qv 2) (BB Dt Az (A0 (qv 0) A6)))) (AG rfl Dn) B3))),?_⟩
 have hl:=Co ns;refine ⟨_,rfl,_,rfl,a,tp,ns,x,rfl,hS,h1,?_⟩;refine ⟨_,rfl,_,_,rfl,rfl,_,rfl,GX (jO (by omega)) ?_⟩;refine ⟨_,rfl,a,_,rfl,(BM.sq (K:=K) hS).or,_,_,rfl,rfl,_,rfl,P7 (by rw [hl];omega) ?_⟩;exact q
def qp:Ap ["row","low","high"] ["row","low","high"] (AY V8):=by walk_at "z1"
def pE (F:AH K "check_turn" "check_turn" V8 f fd)(m:mg "check_turn"=some (.ref f)):
  A8 P w K mg base "check_turn" 1 ["row","low","high"] (gn):=by
 refine A8.mk F (F.binds (by walk_at "bD3")) m (F.As (k:=0) qp (fun vs H Q E h=>?_) (fun AU A outer s H vs Q E hr h=>?_))
 ·obtain ⟨a,tp,ns,lo,hi,rfl,hS,⟨h1,h2⟩,q⟩:=h;rfl
 obtain ⟨a,tp,ns,lo,hi,rfl,hS,⟨h1,h2⟩,q⟩:=h;refine ⟨_,(AI rfl (Aw (EO (Ql GK GK A9 (qv 1) (BB Dt Az (A0 (qv 0) A6)))) (AG rfl Dn) B3)
   (AG rfl (Aw (EO (Ql GK GK (qv 1) (qv 2) (BB Dt Az (A0 (qv 0) A6)))) (AG rfl Dn) B3))),?_⟩
 have hl:=Co ns;refine ⟨_,rfl,_,_,rfl,rfl,_,rfl,GX (jO (by omega)) ?_⟩;refine ⟨_,rfl,a,_,rfl,(BM.sq (K:=K) hS).or,_,_,rfl,rfl,_,rfl,P7 (by rw [hl];omega) ?_⟩;refine ⟨_,rfl,_,rfl,_,_,rfl,rfl,_,rfl,GX (jO (by omega)) ?_⟩;refine ⟨_,rfl,a,_,rfl,(BM.sq (K:=K) hS).or,_,_,rfl,rfl,_,rfl,P7 (by rw [hl];omega) ?_⟩;exact q
def ZBE:Ap ["row","deed"] ["row","deed"] (AY Tf):=by walk_at "z1"
def se (F:AH K "check_deed" "check_deed" Tf f fd)(m:mg "check_deed"=some (.ref f)):
  A8 P w K mg base "check_deed" 3 ["row","deed"] (YK):=by
 refine A8.mk F (F.binds (by walk_at "bD2")) m (F.As (k:=2) ZBE (fun vs H Q E h=>?_) (fun AU A outer s H vs Q E hr h=>?_))
 ·obtain ⟨a,t,tp,ns,d,rfl,hS,hT,hd,q⟩:=h;rfl
 obtain ⟨a,t,tp,ns,d,rfl,hS,hT,hd,q⟩:=h;refine ⟨_,(AG rfl (Aw (Al Bw (AR Ad (qv 1) A9) Aa) (AG rfl (DC (AS Uw hr (A0 (qv 0) (A0 (AR Ad (qv 1) A9) (A0 (AR Ad (qv 1) A9) A6)))))) (AG rfl (Aw (Al Bw (AR Ad (qv 1) A9) Aa) (AG rfl (DC (AS FI hr (A0 (qv 0) (A0 (AR Ad (qv 1) A9) A6))))) (AG rfl (Aw (Al Bw (AR Ad (qv 1) A9) Aa) (AG rfl (DC (AS XI hr (A0 (qv 0) (A0 (AR Ad (qv 1) A9) (A0 (AR Ad (qv 1) A9) A6)))))) (AG rfl (DC (AS Tz hr (A0 (qv 0) (A0 (AR Ad (qv 1) A9) (A0 (AR Ad (qv 1) A9) A6)))))))))))),?_⟩;cases d with
 | put x i=>
  refine ⟨_,rfl,t,_,_,_,rfl,rfl,AA.of hT,rfl,rfl,_,rfl,GX (by decide +kernel) ?_⟩;exact ⟨_,rfl,_,rfl,t,_,_,_,rfl,rfl,AA.of hT,rfl,_,rfl,t,_,_,_,rfl,rfl,AA.of hT,rfl,a,tp,ns,x,i,rfl,hS,hd,q⟩
 | take x=>
  refine ⟨_,rfl,t,_,_,_,rfl,rfl,AA.of hT,rfl,rfl,_,rfl,Bh (by decide +kernel) ?_⟩;refine ⟨_,rfl,t,_,_,_,rfl,rfl,AA.of hT,rfl,rfl,_,rfl,GX (by decide +kernel) ?_⟩;exact ⟨_,rfl,_,rfl,t,_,_,_,rfl,rfl,AA.of hT,rfl,a,tp,ns,x,rfl,hS,hd,q _ (A7.refl _)⟩
 | move x i=>
  refine ⟨_,rfl,t,_,_,_,rfl,rfl,AA.of hT,rfl,rfl,_,rfl,Bh (by decide +kernel) ?_⟩;refine ⟨_,rfl,t,_,_,_,rfl,rfl,AA.of hT,rfl,rfl,_,rfl,Bh (by decide +kernel) ?_⟩;refine ⟨_,rfl,t,_,_,_,rfl,rfl,AA.of hT,rfl,rfl,_,rfl,GX (by decide +kernel) ?_⟩;exact ⟨_,rfl,_,rfl,t,_,_,_,rfl,rfl,AA.of hT,rfl,_,rfl,t,_,_,_,rfl,rfl,AA.of hT,rfl,a,tp,ns,x,i,rfl,hS,hd,q _ (A7.refl _)⟩
 | turn lo hi=>
  refine ⟨_,rfl,t,_,_,_,rfl,rfl,AA.of hT,rfl,rfl,_,rfl,Bh (by decide +kernel) ?_⟩;refine ⟨_,rfl,t,_,_,_,rfl,rfl,AA.of hT,rfl,rfl,_,rfl,Bh (by decide +kernel) ?_⟩;refine ⟨_,rfl,t,_,_,_,rfl,rfl,AA.of hT,rfl,rfl,_,rfl,Bh (by decide +kernel) ?_⟩;exact ⟨_,rfl,_,rfl,t,_,_,_,rfl,rfl,AA.of hT,rfl,_,rfl,t,_,_,_,rfl,rfl,AA.of hT,rfl,a,tp,ns,lo,hi,rfl,hS,hd,q _ (A7.refl _)⟩
def ZB4:Ap ["row","low","high"] ["row","low","high"] (AY Sa):=by walk_at "z1"
def jQ (F:AH K "row_turned" "row_turned" Sa f fd)(m:mg "row_turned"=some (.ref f)):
  A8 P w K mg base "row_turned" 1 ["row","low","high"] (ee):=by
 refine A8.mk F (F.binds (by walk_at "bD3")) m (F.As (k:=0) ZB4 (fun vs H Q E h=>?_) (fun AU A outer s H vs Q E hr h=>?_))
 ·obtain ⟨a,tp,ns,lo,hi,rfl,hS,Jc,hz,h1,h2,q⟩:=h;rfl
 obtain ⟨a,tp,ns,lo,hi,rfl,hS,Jc,hz,h1,h2,q⟩:=h;refine ⟨_,(AG rfl (Ac (B0 IV (B0 IV (D8 Jw Bq (A0 (E4 J5 (qv 0) EZ (De (qv 1))) A6)) (gb rfl rfl Bq rfl LL (A0 (E4 J5 (qv 0) (De (qv 1)) (De (qv 2))) A6))) (D8 Jw Bq (A0 (E4 J5 (qv 0) (De (qv 2)) EZ) A6))))),?_⟩;have hl:=Co ns;have zz:∀ n:Nat,n<=2001->n<=sizeLine:=fun n h=>Ci h (by decide +kernel);refine ⟨_,rfl,_,rfl,_,rfl,a,tp,_,rfl,BM.sq hS,fun p1 H1 s1 e1=>?_⟩;rw [Mz] at e1;refine ⟨p1,_,rfl,e1.or,fun l1 n1=>?_⟩;have t1:=AW n1 (.lst ((ns.map V.str).take lo));have s2:=s1.trans t1;refine ⟨_,rfl,_,rfl,_,rfl,_,rfl,_,rfl,a,tp,_,rfl,BM.sq (s2 _ _ hS),fun p3 H3 s3 e3=>?_⟩;rw [ZU _ h1 (by rw [hl];exact h2)] at e3;refine ⟨p3,tp,_,rfl,e3,Jc,fun l4 n4=>?_⟩;have t4:=AW n4 (.lst (((ns.map V.str).drop lo).take (hi - lo)).reverse);refine ⟨l1,l4,_,_,rfl,rfl,t4 _ _ (s3 _ _ AE),AE,zz _ (by simp only [C1,Nu,Dz];omega),fun l5 n5=>?_⟩;have t5:=AW n5 (.lst ((ns.map V.str).take lo++(((ns.map V.str).drop lo).take (hi - lo)).reverse));have s5:=s2.trans (s3.trans (t4.trans t5));refine ⟨_,rfl,_,rfl,_,rfl,a,tp,_,rfl,BM.sq (s5 _ _ hS),fun p6 H6 s6 e6=>?_⟩;rw [ML] at e6;refine ⟨p6,_,rfl,e6.or,fun l7 n7=>?_⟩;have t7:=AW n7 (.lst ((ns.map V.str).drop hi));refine ⟨l5,l7,_,_,rfl,rfl,t7 _ _ (s6 _ _ AE),AE,zz _ (by simp only [Bl,C1,Dz,Nu];omega),fun l8 n8=>?_⟩;have s7:=s5.trans (s6.trans t7);refine q l8 _ (A7.none s7 n8) (s7.trans (AW n8 _)) ?_;rw [AE];unfold Ek;simp only [Dh,Ln,Lm,ZCu,C8]
def nr:Ap ["row","name","at"] ["row","name","at"] (AY Wr):=by walk_at "z1"
def zW (F:AH K "row_with" "row_with" Wr f fd)(m:mg "row_with"=some (.ref f)):
  A8 P w K mg base "row_with" 1 ["row","name","at"] (ZN):=by
 refine A8.mk F (F.binds (by walk_at "bD3")) m (F.As (k:=0) nr (fun vs H Q E h=>?_) (fun AU A outer s H vs Q E hr h=>?_))
 ·obtain ⟨a,tp,ns,x,i,rfl,hS,hz,q⟩:=h;rfl
 obtain ⟨a,tp,ns,x,i,rfl,hS,hz,q⟩:=h;refine ⟨_,(AG rfl (Ac (B0 IV (B0 IV (D8 Jw Bq (A0 (E4 J5 (qv 0) EZ (De (qv 2))) A6)) (Ep (A0 (qv 1) A6))) (D8 Jw Bq (A0 (E4 J5 (qv 0) (De (qv 2)) EZ) A6))))),?_⟩;have hl:=Co ns;have zz:∀ n:Nat,n<=2001->n<=sizeLine:=fun n h=>Ci h (by decide +kernel);refine ⟨_,rfl,_,rfl,_,rfl,a,tp,_,rfl,BM.sq hS,fun p1 H1 s1 e1=>?_⟩;rw [Mz] at e1;refine ⟨p1,_,rfl,e1.or,fun l1 n1=>?_⟩;have t1:=AW n1 (.lst ((ns.map V.str).take i));refine ⟨_,rfl,zz _ (by show 1<=2001;decide),fun l2 n2=>?_⟩;have t2:=AW n2 (.lst [.str x]);refine ⟨l1,l2,_,_,rfl,rfl,t2 _ _ AE,AE,zz _ (by simp only [C1,ia];omega),fun l3 n3=>?_⟩;have t3:=AW n3 (.lst ((ns.map V.str).take i++[.str x]));have s3:=s1.trans (t1.trans (t2.trans t3));refine ⟨_,rfl,_,rfl,_,rfl,a,tp,_,rfl,BM.sq (s3 _ _ hS),fun p4 H4 s4 e4=>?_⟩;rw [ML] at e4;refine ⟨p4,_,rfl,e4.or,fun l5 n5=>?_⟩;have t5:=AW n5 (.lst ((ns.map V.str).drop i));refine ⟨l3,l5,_,_,rfl,rfl,t5 _ _ (s4 _ _ AE),AE,zz _ (by simp only [Bl,C1,Dz,ia];omega),fun l6 n6=>?_⟩;have s5:=s3.trans (s4.trans t5);refine q l6 _ (A7.none s5 n6) (s5.trans (AW n6 _)) ?_;rw [AE];unfold ins;simp only [Dh,Ln,Bs,Lm,C8,List.singleton_append]
def lJ:Ap ["row","name"] ["row","name"] (AY RB):=by walk_at "z1"
def nQ:Scope:={ kind:=.function,names:=[(".0", .local),("thing", .local),("name", .free)],isGenerator:=false,isCoroutine:=false,more:=[] }
def vR:DV ["row","name"] (AY RB) nQ "thing" ["name"] [1]:=by walk_at "z2"
def uS (F:AH K "row_without" "row_without" RB f fd)(m:mg "row_without"=some (.ref f)):
  A8 P w K mg base "row_without" 1 ["row","name"] (aB):=by
 refine A8.mk F (F.binds (by walk_at "bD2")) m (F.As (k:=0) lJ (fun vs H Q E h=>?_) (fun AU A outer s H vs Q E hr h=>?_))
 ·obtain ⟨a,tp,ns,x,rfl,hS,hz,q⟩:=h;rfl
 obtain ⟨a,tp,ns,x,rfl,hS,hz,q⟩:=h;refine ⟨_,(AG rfl (Ac (G2 rfl vR (FF (qv 0)) (fun _ _ _ _=>by exact (JU (Al Ib (qv 1) (qv 0)))) (fun _ _ _ _=>by exact (qv 1))))),?_⟩;have hl:=Co ns;refine ⟨_,rfl,tp,a,_,rfl,BM.sq hS,fun acc Ai=>IK (GV (.str x)) (fun v=>v) (BM.sq hS) Ai (by rw [hl];exact small (by omega)) (fun i v H' Q' hv s1 h=>?_) (fun i v H' Q' hv _ s1 h=>?_) (fun H' s1 e1=>?_)⟩
 ·obtain ⟨y,rfl,hm⟩:=Iz hv;exact ⟨_,rfl,_,rfl,rfl,_,rfl,h H' (A7.refl _)⟩
 ·exact ⟨_,rfl,h H' (A7.refl _)⟩
 ·rw [MK] at e1;exact q acc H' Ai s1 e1
def pb:Ap ["row","deed"] ["row","deed"] (AY WT):=by walk_at "z1"
def xW (F:AH K "done" "done" WT f fd)(m:mg "done"=some (.ref f)):
  A8 P w K mg base "done" 4 ["row","deed"] (Uh):=by
 refine A8.mk F (F.binds (by walk_at "bD2")) m (F.As (k:=3) pb (fun vs H Q E h=>?_) (fun AU A outer s H vs Q E hr h=>?_))
 ·obtain ⟨a,t,tp,ns,d,rfl,hS,hT,Jc,hd,hz,q⟩:=h;rfl
 obtain ⟨a,t,tp,ns,d,rfl,hS,hT,Jc,hd,hz,q⟩:=h;refine ⟨_,(AI rfl (DC (AS SD hr (A0 (qv 0) (A0 (qv 1) A6))))
   (AI rfl (Aw (Al Bw (AR Ad (qv 1) A9) Aa) (AG rfl (Ac (AS QU hr (A0 (qv 0) (A0 (AR Ad (qv 1) A9) (A0 (AR Ad (qv 1) A9) A6)))))) B3)
   (AI rfl (Aw (Al Bw (AR Ad (qv 1) A9) Aa) (AG rfl (Ac (AS OB hr (A0 (qv 0) (A0 (AR Ad (qv 1) A9) A6))))) B3)
   (AI rfl (Aw (Al Bw (AR Ad (qv 1) A9) Aa) (AG rfl (Ac (AS QU hr (A0 (AS OB hr (A0 (qv 0) (A0 (AR Ad (qv 1) A9) A6))) (A0 (AR Ad (qv 1) A9) (A0 (AR Ad (qv 1) A9) A6)))))) B3)
   (AG rfl (Ac (AS Ra hr (A0 (qv 0) (A0 (AR Ad (qv 1) A9) (A0 (AR Ad (qv 1) A9) A6)))))))))),?_⟩
 refine ⟨_,rfl,_,rfl,a,t,tp,ns,d,rfl,hS,hT,hd,fun H1 s1=>?_⟩;have BY:=s1 _ _ hT;have Dd:=s1 _ _ hS;have fin:IC H1 Q (d.done ns):=fun l H' n s e=>q l H' (A7.none s1 n) (s1.trans s) e;cases d with
 | put x i=>
  refine ⟨_,rfl,t,_,_,_,rfl,rfl,AA.of BY,rfl,rfl,_,rfl,GX (by decide +kernel) ?_⟩;exact ⟨_,rfl,_,rfl,t,_,_,_,rfl,rfl,AA.of BY,rfl,_,rfl,t,_,_,_,rfl,rfl,AA.of BY,rfl,a,tp,ns,x,i,rfl,Dd,by omega,fin⟩
 | take x=>
  refine ⟨_,rfl,t,_,_,_,rfl,rfl,AA.of BY,rfl,rfl,_,rfl,Bh (by decide +kernel) ?_⟩;refine ⟨_,rfl,t,_,_,_,rfl,rfl,AA.of BY,rfl,rfl,_,rfl,GX (by decide +kernel) ?_⟩;exact ⟨_,rfl,_,rfl,t,_,_,_,rfl,rfl,AA.of BY,rfl,a,tp,ns,x,rfl,Dd,by omega,fin⟩
 | move x i=>
  refine ⟨_,rfl,t,_,_,_,rfl,rfl,AA.of BY,rfl,rfl,_,rfl,Bh (by decide +kernel) ?_⟩;refine ⟨_,rfl,t,_,_,_,rfl,rfl,AA.of BY,rfl,rfl,_,rfl,Bh (by decide +kernel) ?_⟩;refine ⟨_,rfl,t,_,_,_,rfl,rfl,AA.of BY,rfl,rfl,_,rfl,GX (by decide +kernel) ?_⟩;refine ⟨_,rfl,_,rfl,t,_,_,_,rfl,rfl,AA.of BY,rfl,a,tp,ns,x,rfl,Dd,by omega,fun l2 H2 n2 s2 e2=>?_⟩;have CI:=s2 _ _ BY;have hw:(wo ns x).length<=ns.length:=Ll _ _;exact ⟨_,rfl,t,_,_,_,rfl,rfl,AA.of CI,rfl,_,rfl,t,_,_,_,rfl,rfl,AA.of CI,rfl,l2,false,wo ns x,x,i,rfl,e2,by omega,fun l H' n s e=>fin l H' (A7.none s2 n) (s2.trans s) e⟩
 | turn lo hi=>
  refine ⟨_,rfl,t,_,_,_,rfl,rfl,AA.of BY,rfl,rfl,_,rfl,Bh (by decide +kernel) ?_⟩;refine ⟨_,rfl,t,_,_,_,rfl,rfl,AA.of BY,rfl,rfl,_,rfl,Bh (by decide +kernel) ?_⟩;refine ⟨_,rfl,t,_,_,_,rfl,rfl,AA.of BY,rfl,rfl,_,rfl,Bh (by decide +kernel) ?_⟩;exact ⟨_,rfl,_,rfl,t,_,_,_,rfl,rfl,AA.of BY,rfl,_,rfl,t,_,_,_,rfl,rfl,AA.of BY,rfl,a,tp,ns,lo,hi,rfl,Dd,Jc,by omega,hd.1,hd.2,fin⟩
def oz:Ap ["gap","at"] ["gap","at"] (AY SG):=by walk_at "z1"
def uh (F:AH K "gap_behind_put" "gap_behind_put" SG f fd)(m:mg "gap_behind_put"=some (.ref f)):
  A8 P w K mg base "gap_behind_put" 1 ["gap","at"] (i8):=by
 refine A8.mk F (F.binds (by walk_at "bD2")) m (F.As (k:=0) oz (fun vs H Q E h=>?_) (fun AU A outer s H vs Q E hr h=>?_))
 ·obtain ⟨g,i,rfl,q⟩:=h;rfl
 obtain ⟨g,i,rfl,q⟩:=h;refine ⟨_,(AI rfl (Aw (Al GF (qv 1) (qv 0)) (AG rfl (Ac (B0 E9 (qv 0) A9))) B3)
   (AG rfl (Ac (qv 0)))),?_⟩
 refine ⟨_,rfl,_,rfl,_,_,rfl,rfl,_,rfl,?_⟩;refine B2 (fun c=>?_) (fun c=>?_)
 ·have c':(i:Int)<(g:Int):=jw c;have e:((Em i g:Nat):Int)=(g:Int)+1:=by unfold Em;rw [jd (by omega)];omega
  rw [e] at q;exact ⟨_,rfl,_,_,rfl,rfl,q⟩
 ·have c':¬ (i:Int)<(g:Int):=fun z=>c (jO z);have e:Em i g=g:=by unfold Em;rw [jG (by omega)]
  rw [e] at q;exact ⟨_,rfl,q⟩
def kC:Ap ["gap","place"] ["gap","place"] (AY SF):=by walk_at "z1"
def kd (F:AH K "gap_behind_take" "gap_behind_take" SF f fd)(m:mg "gap_behind_take"=some (.ref f)):
  A8 P w K mg base "gap_behind_take" 1 ["gap","place"] (fM):=by
 refine A8.mk F (F.binds (by walk_at "bD2")) m (F.As (k:=0) kC (fun vs H Q E h=>?_) (fun AU A outer s H vs Q E hr h=>?_))
 ·obtain ⟨g,p,rfl,q⟩:=h;rfl
 obtain ⟨g,p,rfl,q⟩:=h;refine ⟨_,(AI rfl (Aw (Al GF (qv 1) (qv 0)) (AG rfl (Ac (B0 Oh (qv 0) A9))) B3)
   (AG rfl (Ac (qv 0)))),?_⟩
 refine ⟨_,rfl,_,rfl,_,_,rfl,rfl,_,rfl,?_⟩;refine B2 (fun c=>?_) (fun c=>?_)
 ·have c':(p:Int)<(g:Int):=jw c;have e:((E2 p g:Nat):Int)=(g:Int) - 1:=by unfold E2;rw [jd (by omega)];omega
  rw [e] at q;exact ⟨_,rfl,_,_,rfl,rfl,q⟩
 ·have c':¬ (p:Int)<(g:Int):=fun z=>c (jO z);have e:E2 p g=g:=by unfold E2;rw [jG (by omega)]
  rw [e] at q;exact ⟨_,rfl,q⟩
def vQ:Ap ["row","gap","deed"] ["row","gap","deed"] (AY Sd):=by walk_at "z1"
def xu (F:AH K "gap_led" "gap_led" Sd f fd)(m:mg "gap_led"=some (.ref f)):
  A8 P w K mg base "gap_led" 3 ["row","gap","deed"] (gR):=by
 refine A8.mk F (F.binds (by walk_at "bD3")) m (F.As (k:=2) vQ (fun vs H Q E h=>?_) (fun AU A outer s H vs Q E hr h=>?_))
 ·obtain ⟨a,t,tp,ns,g,d,rfl,hS,hT,ok,q⟩:=h;rfl
 obtain ⟨a,t,tp,ns,g,d,rfl,hS,hT,ok,q⟩:=h;refine ⟨_,(AI rfl (Aw (Al Bw (AR Ad (qv 2) A9) Aa) (AG rfl (Ac (AS OJ hr (A0 (qv 1) (A0 (AR Ad (qv 2) A9) A6))))) B3)
   (AI rfl (Aw (Al Bw (AR Ad (qv 2) A9) Aa) (AG rfl (Ac (AS Q2 hr (A0 (qv 1) (A0 (AS FI hr (A0 (qv 0) (A0 (AR Ad (qv 2) A9) A6))) A6))))) B3)
   (AI rfl (Aw (Al Bw (AR Ad (qv 2) A9) Aa) (AG rfl (Ac (AS OJ hr (A0 (AS Q2 hr (A0 (qv 1) (A0 (AS FI hr (A0 (qv 0) (A0 (AR Ad (qv 2) A9) A6))) A6))) (A0 (AR Ad (qv 2) A9) A6))))) B3)
   (AG rfl (Ac (qv 1)))))),?_⟩
 have e1:=hT;have a1:=hS;refine ⟨_,rfl,t,_,_,_,rfl,rfl,AA.of e1,GH d,rfl,_,rfl,B2 (fun c1=>?_) (fun c1=>?_)⟩
 ·obtain ⟨x,i,rfl⟩:=XE c1;exact ⟨_,rfl,_,rfl,t,_,_,_,rfl,rfl,AA.of e1,rfl,g,i,rfl,q⟩
 refine ⟨_,rfl,t,_,_,_,rfl,rfl,AA.of e1,GH d,rfl,_,rfl,B2 (fun c2=>?_) (fun c2=>?_)⟩
 ·obtain ⟨x,rfl⟩:=UX c2;exact ⟨_,rfl,_,rfl,_,rfl,t,_,_,_,rfl,rfl,AA.of e1,rfl,a,tp,ns,x,rfl,a1,ok,g,_,rfl,q⟩
 refine ⟨_,rfl,t,_,_,_,rfl,rfl,AA.of e1,GH d,rfl,_,rfl,B2 (fun c3=>?_) (fun c3=>?_)⟩
 ·obtain ⟨x,i,rfl⟩:=mC c3;exact ⟨_,rfl,_,rfl,_,rfl,t,_,_,_,rfl,rfl,AA.of e1,rfl,a,tp,ns,x,rfl,a1,ok.1,g,_,rfl,_,rfl,t,_,_,_,rfl,rfl,AA.of e1,rfl,_,i,rfl,q⟩
 obtain ⟨lo,hi,rfl⟩:=vT c1 c2 c3;exact ⟨_,rfl,q⟩
def yA:Ap ["loop","at"] ["loop","at"] (AY Tj):=by walk_at "z1"
def ke (F:AH K "joins" "joins" Tj f fd)(m:mg "joins"=some (.ref f)):
  A8 P w K mg base "joins" 1 ["loop","at"] (Z9):=by
 refine A8.mk F (F.binds (by walk_at "bD2")) m (F.As (k:=0) yA (fun vs H Q E h=>?_) (fun AU A outer s H vs Q E hr h=>?_))
 ·obtain ⟨t,r,g,i,c,rfl,hT,q⟩:=h;rfl
 obtain ⟨t,r,g,i,c,rfl,hT,q⟩:=h;refine ⟨_,(AG rfl (Ac (oC (EJ Bw (AR Ad (qv 0) A9) Aa) (Iu (HP (EJ Bw (AR Ad (qv 0) A9) Aa) (Iu (EJ LG (qv 1) (AR Ad (qv 0) A9)))))))),?_⟩;refine ⟨_,rfl,t,_,_,_,rfl,rfl,AA.of hT,rfl,rfl,_,rfl,?_⟩;refine B2 (fun c1=>?_) (fun c1=>?_)
 ·have e:DG r g i=true:=by unfold DG;rw [jd c1]
  rw [e] at q;exact q
 ·refine ⟨_,rfl,t,_,_,_,rfl,rfl,AA.of hT,rfl,rfl,_,rfl,?_⟩;refine B2 (fun c2=>?_) (fun c2=>?_)
  ·have e:DG r g i=decide ((g:Int)<=(i:Int)):=by unfold DG;rw [jG c1,jd c2]
   rw [e] at q;exact ⟨_,rfl,_,rfl,t,_,_,_,rfl,rfl,AA.of hT,rfl,_,_,rfl,rfl,q⟩
  ·have e:DG r g i=false:=by unfold DG;rw [jG c1,jG c2]
   rw [e] at q;exact q
def pU:Ap ["loop","deed"] ["loop","deed"] (AY Ts):=by walk_at "z1"
def vx (F:AH K "coming_behind" "coming_behind" Ts f fd)(m:mg "coming_behind"=some (.ref f)):
  A8 P w K mg base "coming_behind" 2 ["loop","deed"] (cL):=by
 refine A8.mk F (F.binds (by walk_at "bD2")) m (F.As (k:=1) pU (fun vs H Q E h=>?_) (fun AU A outer s H vs Q E hr h=>?_))
 ·obtain ⟨tl,t,c,r,g,ss,d,rfl,⟨hL,hC⟩,hT,hz,up,hx,q⟩:=h;rfl
 obtain ⟨tl,t,c,r,g,ss,d,rfl,⟨hL,hC⟩,hT,hz,up,hx,q⟩:=h;refine ⟨_,(AI rfl (Aw (Al Bw (AR Ad (qv 1) A9) Aa) (AG rfl (Ac (AS LA hr (A0 (AR Ad (qv 0) A9) (A0 (AR Ad (qv 1) A9) A6))))) B3)
   (AI rfl (Aw (HX (Al Bw (AR Ad (qv 1) A9) Aa) (Hg (Fl (AS Ry hr (A0 (qv 0) (A0 (AR Ad (qv 1) A9) A6)))))).pt (AG rfl (Ac (D8 JJ Cf (A0 (BB Pk CV (A0 (B0 eB (AR Ad (qv 0) A9) (CC (A0 (AR Ad (qv 1) A9) A6))) A6)) A6)))) B3)
   (AG rfl (Ac (AR Ad (qv 0) A9))))),?_⟩
 refine ⟨_,rfl,t,_,_,_,rfl,rfl,AA.of hT,GH d,rfl,_,rfl,B2 (fun c2=>?_) (fun c2=>?_)⟩
 ·obtain ⟨x,rfl⟩:=UX c2;exact ⟨_,rfl,tl,_,_,_,rfl,rfl,AA.of hL,rfl,_,rfl,t,_,_,_,rfl,rfl,AA.of hT,rfl,c,ss,x,rfl,AA.of hC,by omega,fun l H' hl s e=>q l H' (.inl hl) s e⟩
 refine ⟨_,rfl,t,_,_,_,rfl,rfl,AA.of hT,GH d,rfl,_,rfl,B2 (fun c1=>?_) (fun c1=>Ee ⟨_,rfl,tl,_,_,_,rfl,rfl,AA.of hL,rfl,q c _ (.inr rfl) (A7.refl _) (by rw [qh c1 c2];exact hC)⟩)⟩;obtain ⟨x,i,rfl⟩:=XE c1;refine ⟨_,rfl,_,rfl,t,_,_,_,rfl,rfl,AA.of hT,rfl,tl,r,g,i,c,rfl,hL,_,rfl,?_⟩;refine B2 (fun hj=>?_) (fun hj=>⟨_,rfl,tl,_,_,_,rfl,rfl,AA.of hL,rfl,q c _ (.inr rfl) (A7.refl _) (by rw [Si (Bool.eq_false_iff.mpr hj)];exact hC)⟩);refine ⟨_,rfl,tl,_,_,_,rfl,rfl,AA.of hL,rfl,_,rfl,t,_,_,_,rfl,rfl,AA.of hT,rfl,(by show 1<=sizeLine;decide),fun t1 N3=>?_⟩;have n1:=AW N3 (.tup [.str x]);refine ⟨c,t1,_,_,rfl,rfl,AA.of (n1 _ _ hC),AA.of AE,by simp,small (by rw [Co];simp;omega),fun p2 H2 s2 e2=>?_⟩;have CB:AA K H2 p2 ((ss++[x]).map V.str):=by rw [Dh];exact e2
 refine ⟨p2,true,ss++[x],rfl,CB,by rw [Bl];simp;omega,fun l3 ts Ld hp hs=>?_⟩;have n3:=AW Ld (.lst (ts.map V.str));refine ⟨l3,_,rfl,.inl ⟨AF.of AE,fun c4 Ob=>?_⟩⟩;exact q c4 _ (.inl (A7.none (n1.trans (s2.trans n3)) Ob)) (n1.trans (s2.trans (n3.trans (AW Ob _)))) (by rw [AE,TH hp hs up (hx x i rfl),VG hj])
def kY:Ap ["row","loop","deed"] ["row","loop","deed"] (AY VS):=by walk_at "z1"
def vD (F:AH K "loop_led" "loop_led" VS f fd)(m:mg "loop_led"=some (.ref f)):
  A8 P w K mg base "loop_led" 4 ["row","loop","deed"] (RO):=by
 refine A8.mk F (F.binds (by walk_at "bD3")) m (F.As (k:=3) kY (fun vs H Q E h=>?_) (fun AU A outer s H vs Q E hr h=>?_))
 ·obtain ⟨a,tl,t,c,tp,ns,r,g,ss,d,rfl,hS,⟨Iw,ai⟩,hT,ok,gd,hz,q⟩:=h;rfl
 obtain ⟨a,tl,t,c,tp,ns,r,g,ss,d,rfl,hS,⟨Iw,ai⟩,hT,ok,gd,hz,q⟩:=h;refine ⟨_,(AG rfl (Ac (CC (A0 (AR Ad (qv 1) A9) (A0 (AS Sr hr (A0 (qv 0) (A0 (AR Ad (qv 1) A9) (A0 (qv 2) A6)))) (A0 (AS W6 hr (A0 (qv 1) (A0 (qv 2) A6))) A6)))))),?_⟩;have hlen:=gd.len;have g1:=gd.g1;refine ⟨_,rfl,tl,_,_,_,rfl,rfl,AA.of Iw,rfl,_,rfl,_,rfl,tl,_,_,_,rfl,rfl,AA.of Iw,rfl,_,rfl,a,t,tp,ns,g,d,rfl,hS,hT,ok,?_⟩;refine ⟨_,rfl,_,rfl,tl,t,c,r,g,ss,d,rfl,⟨Iw,ai⟩,hT,by omega,gd.up,Uo gd ok,fun c3 H3 f3 s3 e3=>?_⟩;refine ⟨(by show 3<=sizeLine;decide),fun t4 Gb=>?_⟩;have n4:=AW Gb (.tup [.str r,.int (d.gap ns g:Nat),.ref c3]);exact q t4 c3 _ (A7.none s3 Gb) f3 (s3.trans n4) ⟨AE,n4 _ _ e3⟩
def Vt:Ap ["self","deed","behind","name"] ["self","deed"] (AY UO):=by walk_at "z1"
def Yk:∀ ss R,(Wy A5) ss R->ss.length=2:=by rintro _ _ ⟨m,s,a,t,d,rfl,_,_,_,_,rfl⟩;rfl
def ZBv (F:AH K "act" "Yard.act" UO f fd)(mt:Meth K A5 "act" f):
  DD P w K mg base A5 "act" 9 ["self","deed"] (CL (Wy A5)):=by
 refine ⟨f,fd,F.As (k:=8) Vt (fun vs H Q E h=>Fz.J0 Yk h) (fun AU A outer s H vs Q E hr h=>?_),(F.binds (by walk_at "bD2")),mt,B6⟩
 refine ⟨_,(AI rfl (BC 2 Vt.nd (AS Ub hr (A0 (DH (qv 0)) (A0 (qv 1) A6))))
   (AI rfl (DI (Ip Hv rfl (FF (D8 (gG rfl) Bq (A0 (DH (qv 0)) A6))) (Cs 3 Vt.nd) (AG rfl (JE (Bb hr) (DH (qv 0)) (qv 3) (AS SE hr (A0 (DH (qv 0)) (A0 (CA (Bb hr) (DH (qv 0)) (qv 3) (fun _ _=>rfl)) (A0 (qv 1) A6))))))))
   (AI rfl (DC (G3 Hw Nz O0 LQ (DH (qv 0)) (A0 (CC (A0 (DH (qv 0)) (A0 (qv 1) A6))) A6)))
   (AG rfl (NM (qv 0) (qv 2)))))),?_⟩
 refine Fz.Q0 h Yk ?_;rintro _ _ ⟨m,s,a,t,d,rfl,hT,ok,hd,hp,rfl⟩;obtain ⟨dx,aK,aP,rfl⟩:=hT;show Ws [_,_,.any,.any] _ _ _;have l1:=ok.l1;have lf:=ok.G6;have hr:=ok.row.len;have h4:=ok.m4;refine BI (N7 (ZBm (D0 (DA (Nc rfl B6 DY ⟨_,rfl,_,.inl ⟨rfl,rfl,s.row,rfl,Ah rfl ⟨d,rfl,hd,by omega,?_⟩⟩⟩)))));refine Yo 2 rfl ?_;show Ws [.ow true (B1 s A5 a dx aK aP),.is (dP d),.is (.lst ((d.done s.row).map .str)),.any] _ _ _;refine BI (Js (JA (fun _ i AK=>∃ (s3:Slot) (t':OV),AK=[.ow true t',.is (dP d),.is (.lst ((d.done s.row).map .str)),s3]/\Dk (s.mid d i) A5 a t') (P9 (KY (Fs (fc (II rfl B6 C9 ⟨Ag s.ln,aK,_,rfl,by unfold Ag;rw [Ab];omega,_,.inl ⟨rfl,?_⟩⟩)))))));rw [YJ];refine ⟨⟨_,_,rfl,dx,aK,aP,rfl⟩,?_,?_⟩
 ·rintro i p AK hp ⟨s3,t',rfl,FH⟩;rw [Ax] at hp;obtain ⟨x,hx,rfl⟩:=Option.map_eq_some_iff.mp hp;refine Kn ?_;obtain ⟨EF,C0,CJ,rfl⟩:=FH;have xm:x∈s.ln:=DK hx;have ix:s.ln.idxOf x=i:=LN ok.n1 hx;have hi:i<s.ln.length:=(List.getElem?_eq_some_iff.mp hx).1;obtain ⟨l,el⟩:∃ l,s.ll[i]?=some l:=⟨_,BE (by omega)⟩;have gl:=ok.good l (DK el);refine Jq (i:=0) (t:=B1 (s.mid d i) A5 a EF C0 CJ) (Eh (xf (D0 (DA (Nc rfl B6 DY ⟨_,rfl,_,.inl ⟨rfl,s.row,rfl,?_⟩⟩)))));refine DA (Lc (II rfl B6 C9 ⟨Ag s.ln,C0,_,rfl,Ah rfl ⟨.inr x,i,.fz l.P,rfl,by rw [Jt xm,ix],SR (ZT el),_,rfl,l.r,l.g,l.cs,rfl,Ah rfl ⟨d,rfl,hd,gl,by omega,?_⟩⟩⟩));refine II rfl B6 C9 ⟨true,C0,Ag s.ln,_,rfl,rfl,by unfold BV;rw [Ab];show (Ec s d i).length<=99999;rw [Yf];omega,HL ok.n1,Au,Ah rfl ⟨.inr x,rfl,?_⟩⟩;rw [OF xm,Pb xm];unfold B1;rw [show ([]++[1]:List Nat)=[1] from rfl,Q3,ix];have e2:(BV (s.mid d i).ll).set i (.fz (CS l.r (d.gap s.row l.g) (d.Ej l.r l.g l.cs)))=BV (Ec s d (i+1)):=by
   rw [<- bX el];exact Qo _ _ (l.led s.row d)
  rw [e2];exact ⟨_,_,rfl,EF,C0,CJ,rfl⟩
 ·rintro AK ⟨s3,t',rfl,FH⟩;rw [Ab,l1] at FH;obtain ⟨EF,C0,CJ,rfl⟩:=FH;have em:(s.mid d s.ll.length).ll=s.ll.map (Lp.led s.row d):=fZ s d;refine BI (Vz (i:=0) (t:=B1 (s.mid d s.ll.length) A5 a EF C0 CJ) (xY rfl B6 HS ⟨true,CJ,_,rfl,rfl,by rw [Ab];show s.pa.length<=99999;omega,Eh (SS (Ma (DA (Nc rfl B6 DY ⟨_,rfl,Ma (Ah rfl (W3 ⟨by show 2<=100000;decide,Au,?_⟩))⟩))))⟩));unfold B1;rw [show ([]++[2]:List Nat)=[2] from rfl,zg,em];have ep:s.pa.map .fz++[.fz (.tup [.lst (s.row.map .str),dP d])]=(s.pa++[ME s.row d]).map OV.fz:=by rw [Dh];rfl
  show Ws [.ow true (.nd (.obj A5 EF yN) a [.fz (.lst (s.row.map .str)),.nd (.Am (Ag s.ln)) C0 (BV (s.ll.map (Lp.led s.row d))),.nd .lst CJ (s.pa.map .fz++[.fz (.tup [.lst (s.row.map .str),dP d])]),.fz (.int s.fg)]),.is (dP d),.is (.lst ((d.done s.row).map .str)),s3] _ _ _;rw [ep];refine NH (i:=0) (Eh (Ah rfl (Cw rfl ⟨true,A5,EF,yN,a,_,rfl,rfl,B6,DY,by decide,Au,?_⟩)));rw [OV.EE];exact ⟨_,_,_,_,rfl,rfl,rfl,EF,C0,CJ,rfl⟩
def PD:Ap ["row","deed","made","low","high"] ["row","deed"] (AY R9):=by walk_at "z1"
def ZAX:Scope:={ kind:=.function,names:=[(".0", .local),("name", .local),("deed", .free)],isGenerator:=false,isCoroutine:=false,more:=[] }
def ma:DV ["row","deed","made","low","high"] (AY R9) ZAX "name" ["deed"] [1]:=by walk_at "z2"
def ym (F:AH K "_law_done" "_law_done" R9 f fd)(m:mg "_law_done"=some (.ref f)):
  A8 P w K mg base "_law_done" 1 ["row","deed"] (VY):=by
 refine A8.mk F (F.binds (by walk_at "bD2")) m (F.As (k:=0) PD (fun vs H Q E h=>?_) (fun AU A outer s H vs Q E hr h=>?_))
 ·obtain ⟨a,t,ns,d,rfl,hS,hT,hd,hz,nd,q⟩:=h;rfl
 obtain ⟨a,t,ns,d,rfl,hS,hT,hd,hz,nd,q⟩:=h;refine ⟨_,(AI rfl (xS (i:=2) PD.nd rfl (Or.inl rfl) rfl ma (FF (qv 0)) (fun _ _ _ _=>by exact (JU (Al Ib (qv 1) (AR (show FZ _ (Gf K) from Ad) (qv 0) A9)))) (fun _ _ _ _=>by exact (qv 1)))
   (AI rfl (Aw (Al Bw (AR Ad (qv 1) A9) Aa) (AI rfl (Jn (E4 gM (qv 1) (De A9) EZ) (Kz rfl (EU (Cs 3 PD.nd) (EU (Cs 4 PD.nd) Ka))))
   (AG rfl (Ac (B0 IV (B0 IV (E4 JX (qv 0) EZ (De (qv 3))) (gb rfl rfl Bq rfl LL (A0 (E4 JX (qv 0) (De (qv 3)) (De (qv 4))) A6))) (E4 JX (qv 0) (De (qv 4)) EZ))))) B3)
   (AI rfl (DI (Aw (Al Ib (AR Ad (qv 1) A9) Aa) (AG rfl (DC (G3 Hw ZDC PySem.F.type_list_insert tq (qv 2) (A0 (AR Ad (qv 1) A9) (A0 (AR Ad (qv 1) A9) A6))))) B3))
   (AG rfl (Ac (qv 2)))))),?_⟩
 have hl:=Co ns;have zz:∀ n:Nat,n<=2001->n<=sizeLine:=fun n h=>Ci h (by decide +kernel);have C5:CN K false H a (ns.map V.str):=AF.of hS;have hml:=tw ns d;refine ⟨_,rfl,false,a,_,rfl,C5,fun acc Ai=>IK (GV d.v1) (fun v=>v) C5 Ai (by rw [hl];exact small (by omega)) (fun i v H' Q' hv s1 h=>?_) (fun i v H' Q' hv _ s1 h=>?_) (fun H' s1 e1=>?_)⟩
 ·obtain ⟨y,rfl,hm⟩:=Iz hv;exact ⟨_,rfl,_,rfl,t,_,_,_,rfl,rfl,AA.of (s1 _ _ hT),hG d,rA y d,_,rfl,h H' (A7.refl _)⟩
 ·exact ⟨_,rfl,h H' (A7.refl _)⟩
 have BY:=s1 _ _ hT;rw [jz] at e1;refine ⟨_,rfl,t,_,_,_,rfl,rfl,AA.of BY,GH d,rfl,_,rfl,B2 (fun c1=>?_) (fun c1=>?_)⟩
 ·obtain ⟨lo,hi,rfl⟩:=tD c1;obtain ⟨h1,h2⟩:=hd;refine ⟨_,rfl,_,rfl,t,_,rfl,AA.of BY,(fun h=>absurd h.1 (show ¬ HT.Ae 3 0 (some 1)=0 by decide)),fun p n=>?_⟩;have n1:=AW n (.tup (C7 (AN.turn lo hi).vals (some 1) none));refine ⟨p,_,rfl,AA.of AE,rfl,_,_,rfl,_,_,rfl,rfl,?_⟩;have s2:=s1.trans n1;have e2:=s2 _ _ hS;refine ⟨_,rfl,_,rfl,_,rfl,a,_,rfl,AF.of e2,fun l3 n3=>?_⟩;rw [Mz];have t3:=AW n3 (.lst ((ns.map V.str).take lo));have s3:=s2.trans t3;refine ⟨_,rfl,_,rfl,_,rfl,_,rfl,_,rfl,a,_,rfl,AF.of (s3 _ _ hS),fun l4 n4=>?_⟩;rw [ZU _ h1 (by rw [hl];exact h2)];have t4:=AW n4 (.lst (((ns.map V.str).drop lo).take (hi - lo)));refine ⟨l4,false,_,rfl,AF.of AE,rfl,fun l5 n5=>?_⟩;have t5:=AW n5 (.lst (((ns.map V.str).drop lo).take (hi - lo)).reverse);refine ⟨l3,l5,_,_,rfl,rfl,t5 _ _ (t4 _ _ AE),AE,zz _ (by simp only [C1,Nu,Dz];omega),fun l6 n6=>?_⟩;have t6:=AW n6 (.lst ((ns.map V.str).take lo++(((ns.map V.str).drop lo).take (hi - lo)).reverse));have s6:=s3.trans (t4.trans (t5.trans t6));refine ⟨_,rfl,_,rfl,_,rfl,a,_,rfl,AF.of (s6 _ _ hS),fun l7 n7=>?_⟩;rw [ML];have t7:=AW n7 (.lst ((ns.map V.str).drop hi));refine ⟨l6,l7,_,_,rfl,rfl,t7 _ _ AE,AE,zz _ (by simp only [Bl,C1,Dz,Nu];omega),fun l8 n8=>?_⟩;have s7:=s6.trans t7;refine q l8 _ (A7.none s7 n8) (s7.trans (AW n8 _)) ?_;rw [AE];show some (HO.lst _)=some (HO.lst ((Ek ns lo hi).map V.str));unfold Ek;simp only [Dh,Ln,Lm,ZCu,C8]
 ·refine ⟨fun σ' H'=>σ'=[some (.ref a),some (.ref t),some (.ref acc),none,none]/\A7 H H'/\H' acc=some (.lst ((d.done ns).map V.str)),?_,?_⟩
  ·refine ⟨_,rfl,t,_,_,_,rfl,rfl,AA.of BY,GH d,rfl,_,rfl,B2 (fun c2=>?_) (fun c2=>⟨rfl,s1,by rw [qe c2];exact e1⟩)⟩;obtain ⟨x,i,XX,hv,Dj,sH⟩:=kF hd nd c1 c2;refine ⟨_,rfl,.inl ⟨rfl,_,AF.of e1⟩,_,rfl,t,_,_,_,rfl,rfl,AA.of BY,XX,_,rfl,t,_,_,_,rfl,rfl,AA.of BY,hG d,acc,_,_,_,rfl,rfl,e1,by omega,by rw [Co];omega,by rw [Co];exact Hu hml (Hu hz (by decide +kernel)),?_⟩;refine ⟨rfl,zo s1 Ai,?_⟩;rw [AE,sH,hv];unfold ins;simp only [Dh,Ln,Bs,Lm,Xi]
  ·rintro σ' H2 ⟨rfl,s2,e2⟩;exact ⟨_,rfl,q acc H2 Ai s2 e2⟩
def WR:Ap ["row","gap","deed"] ["row","gap","deed"] (AY Ut):=by walk_at "z1"
def ZBR (F:AH K "_law_gap" "_law_gap" Ut f fd)(m:mg "_law_gap"=some (.ref f)):
  A8 P w K mg base "_law_gap" 1 ["row","gap","deed"] (cG):=by
 refine A8.mk F (F.binds (by walk_at "bD3")) m (F.As (k:=0) WR (fun vs H Q E h=>?_) (fun AU A outer s H vs Q E hr h=>?_))
 ·obtain ⟨a,t,ns,g,d,rfl,hS,hT,ok,q⟩:=h;rfl
 obtain ⟨a,t,ns,g,d,rfl,hS,hT,ok,q⟩:=h;refine ⟨_,(AI rfl (DI (Aw (Al Hl (AR Ad (qv 2) A9) (CC (A0 Aa (A0 Aa A6)))) (AG rfl (BC 1 WR.nd (B0 Oh (qv 1) (D8 WE Gn (A0 (EJ GF (G3 Hw Y6 j4 UK (qv 0) (A0 (AR Ad (qv 2) A9) A6)) (qv 1)) A6))))) B3))
   (AI rfl (DI (Aw (Al Hl (AR Ad (qv 2) A9) (CC (A0 Aa (A0 Aa A6)))) (AG rfl (BC 1 WR.nd (B0 E9 (qv 1) (D8 WE Gn (A0 (EJ GF (AR Ad (qv 2) A9) (qv 1)) A6))))) B3))
   (AG rfl (Ac (qv 1))))),?_⟩
 refine ⟨fun σ' H'=>σ'=[some (.ref a),some (.int (d.NL ns g:Nat)),some (.ref t)]/\A7 H H',?_,?_⟩
 ·refine ⟨_,rfl,t,_,_,_,rfl,rfl,AA.of hT,GH d,(by show 2<=sizeLine;decide),fun t1 N3=>?_⟩;have n1:=AW N3 (.tup [.str "take", .str "move"]);refine ⟨t1,_,rfl,.inr (AA.of AE),rfl,rfl,_,rfl,?_⟩;show if Cj (.str d.kind) [.str "take", .str "move"]=true then _ else _
  refine B2 (fun c=>?_) (fun c=>?_)
  ·obtain ⟨x,WV,Jx,rC⟩:=uK g ok c;refine ⟨_,rfl,_,rfl,.inl ⟨rfl,_,AF.of (n1 _ _ hS)⟩,_,rfl,t,_,_,_,rfl,rfl,AA.of (n1 _ _ hT),WV,a,ns,x,rfl,rfl,AF.of (n1 _ _ hS),Jx,_,rfl,_,_,rfl,rfl,.inr ⟨_,rfl,_,_,rfl,rfl,?_,n1⟩⟩;rw [rC,<- sx];rfl
  ·refine ⟨?_,n1⟩;rw [tH g c];rfl
 rintro σ' H1 ⟨rfl,s1⟩;have BY:=s1 _ _ hT;refine ⟨fun σ' H'=>σ'=[some (.ref a),some (.int (d.gap ns g:Nat)),some (.ref t)]/\A7 H H',?_,?_⟩
 ·refine ⟨_,rfl,t,_,_,_,rfl,rfl,AA.of BY,GH d,(by show 2<=sizeLine;decide),fun t2 QQ=>?_⟩;have n2:=AW QQ (.tup [.str "put", .str "move"]);refine ⟨t2,_,rfl,.inr (AA.of AE),rfl,rfl,_,rfl,?_⟩;show if Cj (.str d.kind) [.str "put", .str "move"]=true then _ else _
  refine B2 (fun c=>?_) (fun c=>?_)
  ·obtain ⟨i,XX,Dj⟩:=yd (ns:=ns) g c;refine ⟨_,rfl,_,rfl,t,_,_,_,rfl,rfl,AA.of (n2 _ _ BY),XX,_,rfl,_,_,rfl,rfl,.inr ⟨_,rfl,_,_,rfl,rfl,?_,s1.trans n2⟩⟩;rw [Dj,<- ZAs];rfl
  ·refine ⟨?_,s1.trans n2⟩;rw [su g c]
 rintro σ' H2 ⟨rfl,s2⟩;exact ⟨_,rfl,q _ s2⟩
def LD:Ap ["row","loop","deed","rule","gap","coming"] ["row","loop","deed"] (AY Qs):=by walk_at "z1"
def nE:Scope:={ kind:=.function,names:=[(".0", .local),("name", .local),("deed", .free)],isGenerator:=false,isCoroutine:=false,more:=[] }
def kR:DV ["row","loop","deed","rule","gap","coming"] (AY Qs) nE "name" ["deed"] [2]:=by walk_at "z2"
def jF (F:AH K "_law_led" "_law_led" Qs f fd)(m:mg "_law_led"=some (.ref f)):
  A8 P w K mg base "_law_led" 2 ["row","loop","deed"] (X4):=by
 refine A8.mk F (F.binds (by walk_at "bD3")) m (F.As (k:=1) LD (fun vs H Q E h=>?_) (fun AU A outer s H vs Q E hr h=>?_))
 ·obtain ⟨a,tl,t,c,ns,r,g,ss,d,rfl,hS,⟨hL,hC⟩,hT,ok,gd,hz,q⟩:=h;rfl
 obtain ⟨a,tl,t,c,ns,r,g,ss,d,rfl,hS,⟨hL,hC⟩,hT,ok,gd,hz,q⟩:=h;refine ⟨_,(AI rfl (Jn (qv 1) (Kz rfl (EU (Cs 3 LD.nd) (EU (Cs 4 LD.nd) (EU (Cs 5 LD.nd) Ka)))))
   (AI rfl (DI (Aw (Al Bw (AR Ad (qv 2) A9) Aa) (AG rfl (BC 5 LD.nd (D8 JJ Cf (A0 (G2 rfl kR (FF (qv 5)) (fun _ _ _ _=>by exact (JU (Al Ib (qv 1) (AR (show FZ _ (Gf K) from Ad) (qv 0) A9)))) (fun _ _ _ _=>by exact (qv 1))) A6)))) B3))
   (AI rfl (DI (Aw (HX (Al Bw (AR Ad (qv 2) A9) Aa) (Hg (Gy (Al Bw (qv 3) Aa) (K9 (HX (Al Bw (qv 3) Aa) (Hg (Al LG (AR Ad (qv 2) A9) (qv 4)))).pt)).pt)).pt (AG rfl (BC 5 LD.nd (D8 JJ Cf (A0 (BB Pk CV (A0 (B0 eB (qv 5) (CC (A0 (AR Ad (qv 2) A9) A6))) A6)) A6)))) B3))
   (AG rfl (Ac (CC (A0 (qv 3) (A0 (AS V1 hr (A0 (qv 0) (A0 (qv 4) (A0 (qv 2) A6)))) (A0 (qv 5) A6))))))))),?_⟩
 have hlen:=gd.len;refine ⟨_,rfl,tl,_,rfl,AA.of hL,rfl,_,_,rfl,_,_,rfl,_,_,rfl,rfl,?_⟩;refine ⟨fun σ' H'=>∃ c':Addr,σ'=[some (.ref a),some (.ref tl),some (.ref t),some (.str r),some (.int g),some (.ref c')]/\A7 H H'/\(H c'=none∨c'=c)/\H' c'=some (.tup ((d.Qz ss).map V.str)),?_,?_⟩
 ·refine ⟨_,rfl,t,_,_,_,rfl,rfl,AA.of hT,GH d,rfl,_,rfl,?_⟩;refine B2 (fun d1=>?_) (fun d1=>⟨c,rfl,A7.refl _,.inr rfl,by rw [c8 d1];exact hC⟩);obtain ⟨x,WV,Jx⟩:=ZBa (r:=r) (g:=g) (ss:=ss) d1;have Hd:CN K true H c (ss.map V.str):=AA.of hC;refine ⟨_,rfl,true,c,_,rfl,Hd,fun acc Ai=>IK (GV (.str x)) (fun v=>v) Hd Ai (by rw [Co];exact small (by omega)) (fun i v H' Q' hv s4 h=>?_) (fun i v H' Q' hv _ s4 h=>?_) (fun H4 s4 e4=>?_)⟩
  ·obtain ⟨y,rfl,_⟩:=Iz hv;exact ⟨_,rfl,_,rfl,t,_,_,_,rfl,rfl,AA.of (s4 _ _ hT),WV,rfl,_,rfl,h _ (A7.refl _)⟩
  ·exact ⟨_,rfl,h _ (A7.refl _)⟩
  rw [MK,<- Jx] at e4;exact ⟨acc,_,rfl,.inl ⟨AF.of e4,fun t5 M7=>⟨t5,rfl,s4.trans (AW M7 _),.inl (A7.none s4 M7),AE⟩⟩⟩
 rintro σ' H1 ⟨c1,rfl,s1,f1,e1⟩;refine ⟨fun σ' H'=>∃ c':Addr,σ'=[some (.ref a),some (.ref tl),some (.ref t),some (.str r),some (.int g),some (.ref c')]/\A7 H H'/\(H c'=none∨c'=c)/\H' c'=some (.tup ((d.Ej r g ss).map V.str)),?_,?_⟩
 ·refine ⟨_,rfl,t,_,_,_,rfl,rfl,AA.of (s1 _ _ hT),GH d,rfl,_,rfl,?_⟩;refine B2 (fun d0=>?_) (fun d0=>Ee ⟨c1,rfl,s1,f1,by rw [bu d0];exact e1⟩);obtain ⟨x,i,rfl⟩:=XE d0;replace e1:H1 c1=some (.tup (ss.map V.str)):=e1;refine ⟨_,rfl,rfl,_,rfl,?_⟩;refine B2 (fun d1=>?_) (fun d1=>?_)
  ·have hj:DG r g i=true:=by unfold DG;rw [jd d1]
   refine NY ?_;refine ⟨_,rfl,_,rfl,t,_,_,_,rfl,rfl,AA.of (s1 _ _ hT),rfl,(by show 1<=sizeLine;decide),fun t6 Uu=>?_⟩;have n6:=AW Uu (.tup [.str x]);refine ⟨c1,t6,_,_,rfl,rfl,AA.of (n6 _ _ e1),AA.of AE,by simp,small (by rw [Co];simp;omega),fun p7 H7 s7 e7=>?_⟩;have VZ:AA K H7 p7 ((ss++[x]).map V.str):=by rw [Dh];exact e7
   refine ⟨p7,true,ss++[x],rfl,VZ,by rw [Bl];simp;omega,fun l8 ts T4 hp hs=>?_⟩;have n8:=AW T4 (.lst (ts.map V.str));refine ⟨l8,_,rfl,.inl ⟨AF.of AE,fun c9 My=>?_⟩⟩;exact ⟨c9,rfl,s1.trans (n6.trans (s7.trans (n8.trans (AW My _)))),.inl (A7.none (s1.trans (n6.trans (s7.trans n8))) My),by rw [AE,TH hp hs gd.up (Uo gd ok x i rfl),VG hj]⟩
  ·refine ⟨_,rfl,rfl,_,rfl,?_⟩;refine B2 (fun d2=>?_) (fun d2=>?_)
   ·refine ⟨_,rfl,t,_,_,_,rfl,rfl,AA.of (s1 _ _ hT),rfl,_,rfl,_,_,rfl,rfl,_,rfl,?_⟩;have L4:DG r g i=decide ((g:Int)<=(i:Int)):=by unfold DG;rw [jG d1,jd d2]
    refine B2 (fun d3=>?_) (fun d3=>?_)
    ·have hj:DG r g i=true:=L4.trans d3;refine ⟨_,rfl,_,rfl,t,_,_,_,rfl,rfl,AA.of (s1 _ _ hT),rfl,(by show 1<=sizeLine;decide),fun t6 Uu=>?_⟩;have n6:=AW Uu (.tup [.str x]);refine ⟨c1,t6,_,_,rfl,rfl,AA.of (n6 _ _ e1),AA.of AE,by simp,small (by rw [Co];simp;omega),fun p7 H7 s7 e7=>?_⟩;have VZ:AA K H7 p7 ((ss++[x]).map V.str):=by rw [Dh];exact e7
     refine ⟨p7,true,ss++[x],rfl,VZ,by rw [Bl];simp;omega,fun l8 ts T4 hp hs=>?_⟩;have n8:=AW T4 (.lst (ts.map V.str));refine ⟨l8,_,rfl,.inl ⟨AF.of AE,fun c9 My=>?_⟩⟩;exact ⟨c9,rfl,s1.trans (n6.trans (s7.trans (n8.trans (AW My _)))),.inl (A7.none (s1.trans (n6.trans (s7.trans n8))) My),by rw [AE,TH hp hs gd.up (Uo gd ok x i rfl),VG hj]⟩
    ·have hj:DG r g i=false:=L4.trans (Bool.eq_false_iff.mpr d3);exact ⟨c1,rfl,s1,f1,by rw [Si hj];exact e1⟩
   ·have hj:DG r g i=false:=by unfold DG;rw [jG d1,jG d2]
    exact Ee ⟨c1,rfl,s1,f1,by rw [Si hj];exact e1⟩
 rintro σ' H2 ⟨c2,rfl,s2,f2,e2⟩;refine ⟨_,rfl,_,rfl,_,rfl,_,rfl,a,t,ns,g,d,rfl,s2 _ _ hS,s2 _ _ hT,ok,fun H3 s3=>?_⟩;refine ⟨_,rfl,(by show 3<=sizeLine;decide),fun t4 Gb=>?_⟩;have k3:=s2.trans s3;have n4:=AW Gb (.tup [.str r,.int (d.gap ns g:Nat),.ref c2]);exact q t4 c2 _ (A7.none k3 Gb) f2 (k3.trans n4) ⟨AE,n4 _ _ (s3 _ _ e2)⟩
def eJ:Ap ["yard","state","deed","name"] ["yard","state","deed"] (AY TB):=by walk_at "z1"
def Zp:∀ ss R,(OS A5) ss R->ss.length=3:=by rintro _ _ ⟨m,s,a1,a2,t1,t2,d,rfl,_,_,_,_,_,rfl⟩;rfl
def ZCM (F:AH K "_law_acts" "_law_acts" TB f fd)(m:mg "_law_acts"=some (.ref f)):
  A8 P w K mg base "_law_acts" 10 ["yard","state","deed"] (CL (OS A5)):=by
 refine A8.mk F (F.binds (by walk_at "bD3")) m (F.As (k:=9) eJ (fun vs H Q E h=>Fz.J0 Zp h) (fun AU A outer s H vs Q E hr h=>?_))
 refine ⟨_,(AI rfl (DI (Ip Hv rfl (FF (D8 (gG rfl) Bq (A0 (CA (Bb hr) (qv 1) Aa (fun _ _=>rfl)) A6))) (Cs 3 eJ.nd) (AG rfl (JE (Bb hr) (CA (Bb hr) (qv 1) Aa (fun _ _=>rfl)) (qv 3) (AS Sm hr (A0 (CA (Bb hr) (qv 1) Aa (fun _ _=>rfl)) (A0 (CA (Bb hr) (CA (Bb hr) (qv 1) Aa (fun _ _=>rfl)) (qv 3) (fun _ _=>rfl)) (A0 (qv 2) A6))))))))
   (AI rfl (DC (G3 Hw Nz O0 LQ (CA (Bb hr) (qv 1) Aa (fun _ _=>rfl)) (A0 (CC (A0 (CA (Bb hr) (qv 1) Aa (fun _ _=>rfl)) (A0 (qv 2) A6))) A6)))
   (AI rfl (JE (Bb hr) (qv 1) Aa (AS XJ hr (A0 (CA (Bb hr) (qv 1) Aa (fun _ _=>rfl)) (A0 (qv 2) A6))))
   (AG rfl (Ac (EJ TQ (Jk Vf hr (by decide) (qv 0) (A0 (qv 2) A6)) MN)))))),?_⟩
 refine Fz.P4 h Zp ?_;rintro _ _ ⟨m,s,a1,a2,t1,t2,d,rfl,hY,hS,ok,hd,hp,rfl⟩;obtain ⟨aK,aP,rfl⟩:=hS;obtain ⟨dx,bK,bP,rfl⟩:=id hY;have l1:=ok.l1;have lf:=ok.G6;have hr:=ok.row.len;have h4:=ok.m4;show Ws [.ow true (B1 s A5 a1 dx bK bP),.ow true (B4 s a2 aK aP),.is (dP d),.any] _ _ _;refine BI (Js (JA (fun _ i AK=>∃ (s3:Slot) (t':OV),AK=[.ow true (B1 s A5 a1 dx bK bP),.ow true t',.is (dP d),s3]/\Ge (s.mid d i) a2 t') (P9 (KY (Fs (fc (ID rfl ⟨Ag s.ln,aK,_,rfl,by unfold Ag;rw [Ab];omega,_,.inl ⟨rfl,?_⟩⟩)))))));rw [YJ];refine ⟨⟨_,_,rfl,aK,aP,rfl⟩,?_,?_⟩
 ·rintro i p AK hp ⟨s3,t',rfl,FH⟩;rw [Ax] at hp;obtain ⟨x,hx,rfl⟩:=Option.map_eq_some_iff.mp hp;refine Kn ?_;obtain ⟨C0,CJ,rfl⟩:=FH;have xm:x∈s.ln:=DK hx;have ix:s.ln.idxOf x=i:=LN ok.n1 hx;have hi:i<s.ln.length:=(List.getElem?_eq_some_iff.mp hx).1;obtain ⟨l,el⟩:∃ l,s.ll[i]?=some l:=⟨_,BE (by omega)⟩;have gl:=ok.good l (DK el);refine Jq (i:=1) (t:=B4 (s.mid d i) a2 C0 CJ) (Eh (ZBW (D0 (DA (JT rfl ⟨_,rfl,_,.inl ⟨rfl,rfl,s.row,rfl,?_⟩⟩)))));refine DA (Lc (ID rfl ⟨Ag s.ln,C0,_,rfl,Ah rfl ⟨.inr x,i,.fz l.P,rfl,by rw [Jt xm,ix],SR (ZT el),_,rfl,l.r,l.g,l.cs,rfl,Ah rfl ⟨d,rfl,hd,gl,by omega,?_⟩⟩⟩));refine ID rfl ⟨true,C0,Ag s.ln,_,rfl,rfl,by unfold BV;rw [Ab];show (Ec s d i).length<=99999;rw [Yf];omega,HL ok.n1,Au,Ah rfl ⟨.inr x,rfl,?_⟩⟩;rw [OF xm,Pb xm];unfold B4;rw [show ([]++[1]:List Nat)=[1] from rfl,Qy,ix];have e2:(BV (s.mid d i).ll).set i (.fz (CS l.r (d.gap s.row l.g) (d.Ej l.r l.g l.cs)))=BV (Ec s d (i+1)):=by
   rw [<- bX el];exact Qo _ _ (l.led s.row d)
  rw [e2];exact ⟨_,_,rfl,C0,CJ,rfl⟩
 ·rintro AK ⟨s3,t',rfl,FH⟩;rw [Ab,l1] at FH;obtain ⟨C0,CJ,rfl⟩:=FH;have em:(s.mid d s.ll.length).ll=s.ll.map (Lp.led s.row d):=fZ s d;refine BI (Vz (i:=1) (t:=B4 (s.mid d s.ll.length) a2 C0 CJ) (wD rfl ⟨true,CJ,_,rfl,rfl,by rw [Ab];show s.pa.length<=99999;omega,Eh (SS (Ma (DA (JT rfl ⟨_,rfl,Ma (Ah rfl (W3 ⟨by show 2<=100000;decide,Au,?_⟩))⟩))))⟩));unfold B4;rw [show ([]++[2]:List Nat)=[2] from rfl,put2,em];have ep:s.pa.map .fz++[.fz (.tup [.lst (s.row.map .str),dP d])]=(s.pa++[ME s.row d]).map OV.fz:=by rw [Dh];rfl
  show Ws [.ow true (B1 s A5 a1 dx bK bP),.ow true (.nd (.Am DP) a2 [.fz (.lst (s.row.map .str)),.nd (.Am (Ag s.ln)) C0 (BV (s.ll.map (Lp.led s.row d))),.nd .lst CJ (s.pa.map .fz++[.fz (.tup [.lst (s.row.map .str),dP d])])]),.is (dP d),s3] _ _ _;rw [ep];show Ws [.ow true (B1 s A5 a1 dx bK bP),.ow true (B4 ⟨s.row,s.ln,s.ll.map (Lp.led s.row d),s.pa++[ME s.row d],s.fg⟩ a2 C0 CJ),.is (dP d),s3] _ _ _;refine BI (Jq (i:=1) (t:=B4 ⟨s.row,s.ln,s.ll.map (Lp.led s.row d),s.pa++[ME s.row d],s.fg⟩ a2 C0 CJ) (Eh (Fs (ZM (D0 (DA (JT rfl ⟨_,rfl,_,.inl ⟨rfl,rfl,s.row,rfl,Ah rfl ⟨d,rfl,hd,by omega,ok.row.nd,?_⟩⟩⟩)))))));refine Cw rfl ⟨true,a2,DP,_,rfl,rfl,by show 3<=99999;decide,by decide +kernel,Au,IX ⟨.inr "row", rfl,?_⟩⟩;rw [OV.EE,lb,tL];show Ws [.ow true (B1 s A5 a1 dx bK bP),.ow true (B4 (s.act d) a2 C0 CJ),.is (dP d),s3] _ _ _;refine ON (i:=0) (j:=1) (by decide) rfl rfl (Rn (Q6 rfl (by decide +kernel) (Kw (Ah rfl (NS ⟨_,⟨m,s,a1,_,d,rfl,hY,ok,hd,hp,rfl⟩,?_⟩)))));rintro _ t2 ⟨rfl,CI⟩;obtain ⟨nk,Ar,rfl⟩:=CI.nd;exact ⟨nk,Ar,rfl,rfl,_,_,_,rfl,rfl,CI,C0,CJ,rfl⟩
def sT:Ap ["pot"] ["pot"] (AY U7):=by walk_at "z1"
def Zj : ∀ ss R,WD ss R->ss.length=1:=by rintro _ _ ⟨rfl,rfl⟩;rfl
def ZBP (F:AH K "_law_rule" "_law_rule" U7 f fd)(m:mg "_law_rule"=some (.ref f)):
  A8 P w K mg base "_law_rule" 2 ["pot"] (BW WD):=by
 refine A8.mk F (F.binds (by walk_at "bD1")) m (F.As (k:=1) sT (fun vs H Q E h=>Fz.GJ Zj h) (fun AU A outer s H vs Q E hr h=>?_))
 refine ⟨_,(AG rfl (Ac (AR Ad (CC (A0 Aa (A0 Aa (A0 Aa A6)))) (AS Bg hr (A0 (qv 0) (A0 A9 A6)))))),?_⟩;refine Fz.G4 h Zj ?_;rintro _ _ ⟨rfl,rfl⟩;show Ws [_] _ _ _
 walk_at "ww"
 refine ⟨by decide,_,.inr ⟨rfl,rfl,?_⟩⟩
 walk_at "ww"
 refine ⟨by decide,by decide,fun q q0 q1=>?_⟩;obtain ⟨q,rfl⟩:=Fo q0;obtain ⟨r,hr,er⟩:=iJ (k:=q) (by omega);exact ⟨_,_,rfl,er,r,rfl,hr⟩
def lI:Ap ["row","rule"] ["row","rule"] (AY U8):=by walk_at "z1"
def bI : ∀ ss R,Vl ss R->ss.length=2:=by rintro _ _ ⟨ns,r,rfl,hz,rfl⟩;rfl
def yp (F:AH K "_law_begun" "_law_begun" U8 f fd)(m:mg "_law_begun"=some (.ref f)):
  A8 P w K mg base "_law_begun" 1 ["row","rule"] (BW Vl):=by
 refine A8.mk F (F.binds (by walk_at "bD2")) m (F.As (k:=0) lI (fun vs H Q E h=>Fz.GJ bI h) (fun AU A outer s H vs Q E hr h=>?_))
 refine ⟨_,(AG rfl (Ac (CC (A0 (qv 1) (A0 A9 (A0 (D8 JJ Cf (A0 (BB Pk CV (A0 (qv 0) A6)) A6)) A6)))))),?_⟩;refine Fz.G4 h bI ?_;rintro _ _ ⟨ns,r,rfl,hz,rfl⟩;show Ws [_,_] _ _ _
 walk_at "ww"
 refine ⟨hz,fun ts pm st=>?_⟩
 walk_at "ww"
 exact ⟨by simp,ts,pm,st,rfl⟩
def Le:Ap ["row","loop","rule","gap","coming","found","left"] ["row","loop"] (AY Nd):=by walk_at "z1"
def wN:Scope:={ kind:=.function,names:=[(".0", .local),("name", .local),("coming", .free)],isGenerator:=false,isCoroutine:=false,more:=[] }
def ZAl:DV ["row","loop","rule","gap","coming","found","left"] (AY Nd) wN "name" ["coming"] [4]:=by walk_at "z2"
def yn:Scope:={ kind:=.function,names:=[(".0", .local),("name", .local),("found", .free)],isGenerator:=false,isCoroutine:=false,more:=[] }
def tf:DV ["row","loop","rule","gap","coming","found","left"] (AY Nd) yn "name" ["found"] [5]:=by walk_at "z2"
def jj (F:AH K "_law_step" "_law_step" Nd f fd)(m:mg "_law_step"=some (.ref f)):
  A8 P w K mg base "_law_step" 1 ["row","loop"] (Ri):=by
 refine A8.mk F (F.binds (by walk_at "bD2")) m (F.As (k:=0) Le (fun vs H Q E h=>?_) (fun AU A outer s H vs Q E hr h=>?_))
 ·obtain ⟨a,ns,t,r,g,ss,rfl,hS,⟨c,hT,hC⟩,Bn,hz,q⟩:=h;rfl
 obtain ⟨a,ns,t,r,g,ss,rfl,hS,⟨c,hT,hC⟩,Bn,hz,q⟩:=h;refine ⟨_,(AI rfl (Jn (qv 1) (Kz rfl (EU (Cs 2 Le.nd) (EU (Cs 3 Le.nd) (EU (Cs 4 Le.nd) Ka)))))
   (AI rfl (BC 5 Le.nd (G2 rfl ZAl (FF (B0 IV (E4 JX (qv 0) (De (qv 3)) EZ) (E4 JX (qv 0) EZ (De (qv 3))))) (fun _ _ _ _=>by exact (JU (Al (show BG _ (compareOp .In) (K6 K false) from Hl) (qv 1) (qv 0)))) (fun _ _ _ _=>by exact (qv 1))))
   (AI rfl (Aw (Al (MI hr.Gk) (qv 5) (Ep A6)) (AG rfl (Ac (CC (A0 MN (A0 (qv 1) A6))))) B3)
   (AI rfl (BC 6 Le.nd (D8 JJ Cf (A0 (G2 rfl tf (FF (qv 4)) (fun _ _ _ _=>by exact (JU (Al Ib (qv 1) (AR (show FZ _ (PX K) from Dl) (qv 0) A9)))) (fun _ _ _ _=>by exact (qv 1))) A6)))
   (AG rfl (Ac (CC (A0 (AR Dl (qv 5) A9) (A0 (CC (A0 (qv 2) (A0 (B0 E9 (G3 Hw Y6 j4 UK (qv 0) (A0 (AR Dl (qv 5) A9) A6)) A9) (A0 (qv 6) A6)))) A6))))))))),?_⟩
 have hl:=Co ns;have xA:=Co ss;refine ⟨_,rfl,t,_,rfl,AA.of hT,rfl,_,_,rfl,_,_,rfl,_,_,rfl,rfl,?_⟩;refine ⟨_,rfl,_,rfl,_,rfl,a,_,rfl,AF.of hS,fun l1 Ew=>?_⟩;have n1:=AW Ew (.lst (C7 (ns.map V.str) (some (g:Int)) none));refine ⟨_,rfl,_,rfl,_,rfl,a,_,rfl,AF.of (n1 _ _ hS),fun l2 D9=>?_⟩;have n2:=AW D9 (.lst (C7 (ns.map V.str) none (some (g:Int))));have e1:=n2 _ _ (AE (H:=H) (a:=l1) (o:=.lst (C7 (ns.map V.str) (some (g:Int)) none)));have e2:=AE (H:=upd H l1 (.lst (C7 (ns.map V.str) (some (g:Int)) none))) (a:=l2) (o:=.lst (C7 (ns.map V.str) none (some (g:Int))));have k2:=n1.trans n2;generalize upd (upd H l1 (.lst (C7 (ns.map V.str) (some (g:Int)) none))) l2 (.lst (C7 (ns.map V.str) none (some (g:Int))))=H2 at *;rw [ML] at e1;rw [Mz] at e2;refine ⟨l1,l2,_,_,rfl,rfl,e1,e2,small (by rw [Dz,C1];omega),fun l3 Ld=>?_⟩;have n3:=AW Ld (.lst ((ns.map V.str).drop g++(ns.map V.str).take g));have k3:=k2.trans n3;have hM:CN K false (upd H2 l3 (.lst ((ns.map V.str).drop g++(ns.map V.str).take g))) l3 ((ns.drop g++ns.take g).map V.str):=AF.of (by rw [AE,Dh,Lm,Ln]);refine ⟨false,l3,_,rfl,hM,fun acc Ai=>IK (fun v=>Cj v (ss.map V.str)) (fun v=>v) hM Ai (small (by rw [Co,Bl,Dz,C1];omega)) (fun i v H' Q' hv s4 h=>?_) (fun i v H' Q' hv _ s4 h=>?_) (fun H4 s4 e4=>?_)⟩
 ·obtain ⟨x,rfl,_⟩:=Iz hv;exact ⟨_,rfl,_,rfl,c,_,rfl,.inr (AA.of (s4 _ _ (k3 _ _ hC))),rfl,Dr ss,_,rfl,h _ (A7.refl _)⟩
 ·exact ⟨_,rfl,h _ (A7.refl _)⟩
 rw [ZY,nB] at e4;have k4:=k3.trans s4;refine ⟨_,rfl,(by show 0<=sizeLine;decide),fun l5 i5=>?_⟩;have n5:=AW i5 (.lst []);have k5:=k4.trans n5;have e5:=n5 _ _ e4;refine ⟨acc,l5,_,[],rfl,rfl,.inl ⟨AF.of e5,AF.of AE⟩,Dr _,rfl,_,rfl,?_⟩;show if DW ((Cy ns g ss).map V.str) []=true then _ else _
 rw [Kp];refine B2 (fun c1=>?_) (fun c1=>?_)
 ·have er:Cy ns g ss=[]:=by simpa using c1
  refine ⟨_,rfl,(by show 2<=sizeLine;decide),fun t' ED=>?_⟩;exact q t' _ (A7.none k5 ED) (k5.trans (AW ED _)) (.inl ⟨er,AE⟩)
 ·obtain ⟨x,EB,er⟩:∃ x EB,Cy ns g ss=x::EB:=by
   cases h:Cy ns g ss with
   | nil=>rw [h] at c1;simp at c1
   | cons x EB=>exact ⟨x,EB,rfl⟩
  have hx:x∈ns/\x∈ss:=Nf.mp (by rw [er];exact Cu);rw [er] at e5;generalize upd H4 l5 (.lst [])=H5 at *;have Ya:CN K true H5 c (ss.map V.str):=AA.of (k5 _ _ hC);refine ⟨_,rfl,true,c,_,rfl,Ya,fun xZ m7=>IK (GV (.str x)) (fun v=>v) Ya m7 (by rw [xA];exact small (by omega)) (fun i v H' Q' hv s6 h=>?_) (fun i v H' Q' hv _ s6 h=>?_) (fun H6 s6 e6=>?_)⟩
  ·obtain ⟨y,rfl,_⟩:=Iz hv;exact ⟨_,rfl,_,rfl,acc,_,_,_,rfl,rfl,AF.of (s6 _ _ e5),Mq,rfl,_,rfl,h _ (A7.refl _)⟩
  ·exact ⟨_,rfl,h _ (A7.refl _)⟩
  rw [MK] at e6;refine ⟨xZ,_,rfl,.inl ⟨AF.of e6,fun t7 aR=>?_⟩⟩;have n7:=AW aR (.tup ((wo ss x).map V.str));have k7:=k5.trans (s6.trans n7);have f7:H t7=none:=A7.none (k5.trans s6) aR;have e7:=n7 _ _ (s6 _ _ e5);have u7:=AE (H:=H6) (a:=t7) (o:=.tup ((wo ss x).map V.str));generalize upd H6 t7 (.tup ((wo ss x).map V.str))=H7 at *;refine ⟨_,rfl,acc,_,_,_,rfl,rfl,AF.of e7,Mq,_,rfl,_,rfl,.inl ⟨rfl,_,AF.of (k7 _ _ hS)⟩,_,rfl,acc,_,_,_,rfl,rfl,AF.of e7,Mq,a,ns,x,rfl,rfl,AF.of (k7 _ _ hS),hx.1,_,_,rfl,rfl,_,rfl,?_⟩;refine ⟨(by show 3<=sizeLine;decide),fun t8 Zs=>?_⟩;have n8:=AW Zs (.tup [.str r,.int ((ns.idxOf x:Nat)+1),.ref t7]);refine ⟨(by show 2<=sizeLine;decide),fun t9 dk=>?_⟩;have n9:=AW dk (.tup [.str x,.ref t8]);exact q t9 _ (A7.none (k7.trans n8) dk) (k7.trans (n8.trans n9)) (.inr ⟨x,EB,t8,t7,er,A7.none k7 Zs,f7,AE,n9 _ _ AE,n9 _ _ (n8 _ _ u7)⟩)
def QK:Ap ["pot","row","most","way","low","name"] ["pot","row","most"] (AY SU):=by walk_at "z1"
def lC (F:AH K "_law_deed" "_law_deed" SU f fd)(m:mg "_law_deed"=some (.ref f)):
  A8 P w K mg base "_law_deed" 3 ["pot","row","most"] (Qb):=by
 refine A8.mk F (F.binds (by walk_at "bD3")) m (F.As (k:=2) QK (fun vs H Q E h=>?_) (fun AU A outer s H vs Q E hr h=>?_))
 ·obtain ⟨p,a,m,ns,rfl,hp,hS,Ak,hN,hz,m1,m2,q⟩:=h;rfl
 obtain ⟨p,a,m,ns,rfl,hp,hS,Ak,hN,hz,m1,m2,q⟩:=h;refine ⟨_,(AI rfl (BC 3 QK.nd (AS Bg hr (A0 (qv 0) (A0 A9 A6))))
   (AI rfl (Aw (Gy (HX (Al GF (qv 3) A9) (Hg (Al GF (BB Dt Az (A0 (qv 1) A6)) (qv 2)))).pt (K9 (Al (MI hr.Gk) (qv 1) (Ep A6)))).pt (AI rfl (Aw (Al LG (BB Dt Az (A0 (qv 1) A6)) (qv 2)) (AG rfl (Ac (CC (A0 Aa (A0 A9 (A0 A9 A6)))))) B3)
   (AG rfl (Ac (CC (A0 Aa (A0 (AS HN hr (A0 (qv 0) (A0 (qv 1) A6))) (A0 (AS Bg hr (A0 (qv 0) (A0 (B0 E9 (BB Dt Az (A0 (qv 1) A6)) A9) A6))) A6))))))) B3)
   (AI rfl (Aw (Al Bw (qv 3) A9) (AI rfl (BC 4 QK.nd (AS Bg hr (A0 (qv 0) (A0 (B0 E9 (BB Dt Az (A0 (qv 1) A6)) A9) A6))))
   (AG rfl (Ac (CC (A0 Aa (A0 (qv 4) (A0 (B0 E9 (qv 4) (AS Bg hr (A0 (qv 0) (A0 (B0 E9 (B0 Oh (BB Dt Az (A0 (qv 1) A6)) (qv 4)) A9) A6)))) A6))))))) B3)
   (AI rfl (BC 5 QK.nd (AR Dl (qv 1) (AS Bg hr (A0 (qv 0) (A0 (BB Dt Az (A0 (qv 1) A6)) A6)))))
   (AI rfl (Aw (Al Bw (qv 3) A9) (AG rfl (Ac (CC (A0 Aa (A0 (qv 5) (A0 (AS Bg hr (A0 (qv 0) (A0 (BB Dt Az (A0 (qv 1) A6)) A6))) A6)))))) B3)
   (AG rfl (Ac (CC (A0 Aa (A0 (qv 5) A6)))))))))),?_⟩
 have hl:=Co ns;have zz:∀ n:Nat,n<=3->n<=sizeLine:=fun n h=>Ci h (by decide +kernel);refine ⟨_,rfl,p,5,rfl,hp,by decide,by decide,fun way H1 w0 w1 s1=>?_⟩;have e1:=s1.at' hS Ak;have em:decide (ns.map V.str=[])=true->ns=[]:=fun h=>List.map_eq_nil_iff.mp (jw h);have Zv:¬ decide (ns.map V.str=[])=true->0<ns.length:=fun h=>by
  cases ns with
  | nil=>exact absurd (jO rfl) h
  | cons y r=>simp
 refine ⟨_,rfl,_,_,rfl,rfl,_,rfl,?_⟩;refine B2 (fun cA=>?_) (fun cA=>Ee ?_)
 ·refine ⟨_,rfl,a,_,rfl,.inl (AF.of e1),_,rfl,_,_,rfl,rfl,_,rfl,?_⟩;refine B2 (fun cB=>NY ?_) (fun cB=>?_)
  ·have AQ:ns.length<m:=by have:=jw cB;rw [hl] at this;omega
   have gg:=s1;have eH:=e1;refine ⟨_,rfl,a,_,rfl,.inl (AF.of eH),_,rfl,_,_,rfl,rfl,_,rfl,Bh (by rw [hl,jx (by omega)];decide) ?_⟩;refine ⟨_,rfl,_,rfl,p,a,ns,rfl,gg.AD,AF.of eH,Ak,hN,by omega,fun x H3 nx hx s3=>?_⟩;have e3:=s3.at' eH Ak;refine ⟨_,rfl,_,rfl,a,_,rfl,.inl (AF.of e3),_,_,rfl,rfl,p,_,rfl,s3.AD,by omega,by rw [hl];omega,fun i H4 i0 i1 s4=>?_⟩;rw [hl] at i1;obtain ⟨i,rfl⟩:=Fo i0;refine ⟨zz _ (by simp),fun t ht=>?_⟩;have g4:=gg.trans (s3.trans s4);exact q (.put x i) t _ (g4.none ht) (g4.trans (BJ.of g4.AD (AW ht _))) AE ⟨nx,hx,by omega,by omega⟩
  ·have zT:¬ ns.length<m:=fun z=>cB (jO (by rw [hl];omega));refine ⟨_,rfl,(by show 0<=sizeLine;decide),fun e he=>?_⟩;have s2:=BJ.of s1.AD (AW he (.lst []));have gg:=s1.trans s2;have eH:=s2.at' e1 Ak;refine ⟨a,e,_,[],rfl,rfl,.inl ⟨AF.of eH,AF.of AE⟩,Dr ns,rfl,_,rfl,?_⟩;show if DW (ns.map V.str) []=true then _ else _
   rw [Kp];refine B2 (fun cC=>?_) (fun cC=>?_)
   ·exact absurd (by rw [em cC];show 0<m;omega) zT
   ·have JC:=Zv cC;refine ⟨_,rfl,rfl,_,rfl,?_⟩;refine B2 (fun c4=>?_) (fun c4=>?_)
    ·refine ⟨_,rfl,_,rfl,a,_,rfl,.inl (AF.of eH),_,_,rfl,rfl,p,_,rfl,gg.AD,by omega,by rw [hl];omega,fun lo H3 l0 l1 s3=>?_⟩;rw [hl] at l1;obtain ⟨lo,rfl⟩:=Fo l0;have e3:=s3.at' eH Ak;refine ⟨_,rfl,_,rfl,_,rfl,_,rfl,a,_,rfl,.inl (AF.of e3),_,rfl,_,_,rfl,rfl,_,_,rfl,rfl,p,_,rfl,s3.AD,by rw [hl];omega,by rw [hl];omega,fun k H4 k0 k1 s4=>?_⟩;rw [hl] at k1;obtain ⟨k,rfl⟩:=Fo k0;refine ⟨_,_,rfl,rfl,zz _ (by simp),fun t ht=>?_⟩;have g4:=gg.trans (s3.trans s4);exact q (.turn lo (lo+k)) t _ (g4.none ht) (g4.trans (BJ.of g4.AD (AW ht _))) (by rw [AE];rfl) ⟨by omega,by omega⟩
    ·refine ⟨_,rfl,_,rfl,_,rfl,a,_,rfl,.inl (AF.of eH),p,_,rfl,gg.AD,by rw [hl];omega,by rw [hl];omega,fun i H3 i0 i1 s3=>?_⟩;rw [hl] at i1;have e3:=s3.at' eH Ak;obtain ⟨x,hx,Ml,_⟩:=N2 i0 i1;refine ⟨a,_,_,_,rfl,rfl,AF.of e3,hx,?_⟩;have g3:=gg.trans s3;refine ⟨_,rfl,rfl,_,rfl,?_⟩;refine B2 (fun c3=>?_) (fun c3=>?_)
     ·refine ⟨_,rfl,_,rfl,_,rfl,a,_,rfl,.inl (AF.of e3),p,_,rfl,s3.AD,by rw [hl];omega,by rw [hl];omega,fun k H4 k0 k1 s4=>?_⟩;rw [hl] at k1;obtain ⟨k,rfl⟩:=Fo k0;have g4:=g3.trans s4;refine ⟨zz _ (by simp),fun t ht=>?_⟩;exact q (.move x k) t _ (g4.none ht) (g4.trans (BJ.of g4.AD (AW ht _))) AE ⟨Ml,by omega⟩
     ·refine ⟨_,rfl,zz _ (by simp),fun t ht=>?_⟩;exact q (.take x) t _ (g3.none ht) (g3.trans (BJ.of g3.AD (AW ht _))) AE Ml
 ·skip
  refine ⟨_,rfl,(by show 0<=sizeLine;decide),fun e he=>?_⟩;have s2:=BJ.of s1.AD (AW he (.lst []));have gg:=s1.trans s2;have eH:=s2.at' e1 Ak;refine ⟨a,e,_,[],rfl,rfl,.inl ⟨AF.of eH,AF.of AE⟩,Dr ns,rfl,_,rfl,?_⟩;show if DW (ns.map V.str) []=true then _ else _
  rw [Kp];refine B2 (fun cC=>?_) (fun cC=>?_)
  ·have AQ:ns.length<m:=by rw [em cC];show 0<m;omega
   refine ⟨_,rfl,a,_,rfl,.inl (AF.of eH),_,rfl,_,_,rfl,rfl,_,rfl,Bh (by rw [hl,jx (by omega)];decide) ?_⟩;refine ⟨_,rfl,_,rfl,p,a,ns,rfl,gg.AD,AF.of eH,Ak,hN,by omega,fun x H3 nx hx s3=>?_⟩;have e3:=s3.at' eH Ak;refine ⟨_,rfl,_,rfl,a,_,rfl,.inl (AF.of e3),_,_,rfl,rfl,p,_,rfl,s3.AD,by omega,by rw [hl];omega,fun i H4 i0 i1 s4=>?_⟩;rw [hl] at i1;obtain ⟨i,rfl⟩:=Fo i0;refine ⟨zz _ (by simp),fun t ht=>?_⟩;have g4:=gg.trans (s3.trans s4);exact q (.put x i) t _ (g4.none ht) (g4.trans (BJ.of g4.AD (AW ht _))) AE ⟨nx,hx,by omega,by omega⟩
  ·have JC:=Zv cC;refine ⟨_,rfl,rfl,_,rfl,?_⟩;refine B2 (fun c4=>?_) (fun c4=>?_)
   ·refine ⟨_,rfl,_,rfl,a,_,rfl,.inl (AF.of eH),_,_,rfl,rfl,p,_,rfl,gg.AD,by omega,by rw [hl];omega,fun lo H3 l0 l1 s3=>?_⟩;rw [hl] at l1;obtain ⟨lo,rfl⟩:=Fo l0;have e3:=s3.at' eH Ak;refine ⟨_,rfl,_,rfl,_,rfl,_,rfl,a,_,rfl,.inl (AF.of e3),_,rfl,_,_,rfl,rfl,_,_,rfl,rfl,p,_,rfl,s3.AD,by rw [hl];omega,by rw [hl];omega,fun k H4 k0 k1 s4=>?_⟩;rw [hl] at k1;obtain ⟨k,rfl⟩:=Fo k0;refine ⟨_,_,rfl,rfl,zz _ (by simp),fun t ht=>?_⟩;have g4:=gg.trans (s3.trans s4);exact q (.turn lo (lo+k)) t _ (g4.none ht) (g4.trans (BJ.of g4.AD (AW ht _))) (by rw [AE];rfl) ⟨by omega,by omega⟩
   ·refine ⟨_,rfl,_,rfl,_,rfl,a,_,rfl,.inl (AF.of eH),p,_,rfl,gg.AD,by rw [hl];omega,by rw [hl];omega,fun i H3 i0 i1 s3=>?_⟩;rw [hl] at i1;have e3:=s3.at' eH Ak;obtain ⟨x,hx,Ml,_⟩:=N2 i0 i1;refine ⟨a,_,_,_,rfl,rfl,AF.of e3,hx,?_⟩;have g3:=gg.trans s3;refine ⟨_,rfl,rfl,_,rfl,?_⟩;refine B2 (fun c3=>?_) (fun c3=>?_)
    ·refine ⟨_,rfl,_,rfl,_,rfl,a,_,rfl,.inl (AF.of e3),p,_,rfl,s3.AD,by rw [hl];omega,by rw [hl];omega,fun k H4 k0 k1 s4=>?_⟩;rw [hl] at k1;obtain ⟨k,rfl⟩:=Fo k0;have g4:=g3.trans s4;refine ⟨zz _ (by simp),fun t ht=>?_⟩;exact q (.move x k) t _ (g4.none ht) (g4.trans (BJ.of g4.AD (AW ht _))) AE ⟨Ml,by omega⟩
    ·refine ⟨_,rfl,zz _ (by simp),fun t ht=>?_⟩;exact q (.take x) t _ (g3.none ht) (g3.trans (BJ.of g3.AD (AW ht _))) AE Ml
def Iy:Ap ["pot","yard","state","most","names","way","name","rule","thing","later"] ["pot","yard","state","most"] (AY UW):=by walk_at "z1"
def gq:∀ ss R,(U0 A5) ss R->ss.length=4:=by rintro _ _ ⟨m,s,a1,a2,t1,t2,rfl,_,_,_,_,_,rfl⟩;rfl
def og (F:AH K "_law_turn" "_law_turn" UW f fd)(m:mg "_law_turn"=some (.ref f)):
  A8 P w K mg base "_law_turn" 11 ["pot","yard","state","most"] (CL (U0 A5)):=by
 refine A8.mk F (F.binds (by walk_at "bD4")) m (F.As (k:=10) Iy (fun vs H Q E h=>Fz.J0 gq h) (fun AU A outer s H vs Q E hr h=>?_))
 refine ⟨_,(AI rfl (BC 4 Iy.nd (BB (Rr rfl) CV (A0 (CA (Bb hr) (qv 2) Aa (fun _ _=>rfl)) A6)))
   (AI rfl (BC 5 Iy.nd (AS Bg hr (A0 (qv 0) (A0 A9 A6))))
   (AI rfl (Aw (Gy (HX (Al Bw (qv 5) A9) (Hg (Al GF (BB J4 Az (A0 (qv 4) A6)) A9))).pt (K9 (HX (Al (MI hr.Gk) (qv 4) (Ep A6)) (Hg (Al GF (qv 5) A9))).pt)).pt (AI rfl (BC 6 Iy.nd (AS HN hr (A0 (qv 0) (A0 (qv 4) A6))))
   (AI rfl (BC 7 Iy.nd (AS XA hr (A0 (qv 0) A6)))
   (AI rfl (JE (Bb hr) (CA (Bb hr) (qv 2) Aa (fun _ _=>rfl)) (qv 6) (AS Ti hr (A0 (CA (Bb hr) (qv 2) Aa (fun _ _=>rfl)) (A0 (qv 7) A6))))
   (AG rfl (Ac (EJ TQ (Jk UC hr (by decide) (qv 1) (A0 (qv 6) (A0 (qv 7) A6))) MN)))))) B3)
   (AI rfl (Aw (HX (Al GF (qv 5) A9) (Hg (Al (MV hr.Gk) (qv 4) (Ep A6)))).pt (AI rfl (BC 6 Iy.nd (AR Dl (qv 4) (AS Bg hr (A0 (qv 0) (A0 (BB J4 Az (A0 (qv 4) A6)) A6)))))
   (AI rfl (Aw (Al Bw (qv 5) A9) (AI rfl (DC (eX (CA (Bb hr) (qv 2) Aa (fun _ _=>rfl)) (qv 6) ⟨rfl,rfl,rfl,rfl⟩))
   (AG rfl (Ac (EJ TQ (Jk Xe hr (by decide) (qv 1) (A0 (qv 6) A6)) MN)))) B3)
   (AI rfl (Jn (AS U2 hr (A0 (CA (Bb hr) (qv 2) Aa (fun _ _=>rfl)) (A0 (CA (Bb hr) (CA (Bb hr) (qv 2) Aa (fun _ _=>rfl)) (qv 6) (fun _ _=>rfl)) A6))) (Kz rfl (EU (Cs 8 Iy.nd) (EU (Cs 9 Iy.nd) Ka))))
   (AI rfl (JE (Bb hr) (CA (Bb hr) (qv 2) Aa (fun _ _=>rfl)) (qv 6) (qv 9))
   (AG rfl (Ac (EJ Bw (Jk WG hr (by decide) (qv 1) (A0 (qv 6) A6)) (qv 8)))))))) B3)
   (AG rfl (Ac (AS Uc hr (A0 (qv 1) (A0 (qv 2) (A0 (AS WY hr (A0 (qv 0) (A0 (CA (Bb hr) (qv 2) Aa (fun _ _=>rfl)) (A0 (qv 3) A6)))) A6)))))))))),?_⟩
 refine Fz.P4 h gq ?_;rintro _ _ ⟨m,s,a1,a2,t1,t2,rfl,h1,hY,hS,ok,hp,rfl⟩;obtain ⟨aK,aP,rfl⟩:=hS;obtain ⟨dx,bK,bP,rfl⟩:=id hY;have l1:=ok.l1;have lf:=ok.G6;have hr:=ok.row.len;have h4:=ok.m4;show Ws [.AD,.ow true (B1 s A5 a1 dx bK bP),.ow true (B4 s a2 aK aP),.is (.int m),.any,.any,.any,.any,.any,.any] _ _ _;refine BI (N7 (zj (ID rfl ⟨s.ln,aK,_,rfl,by omega,fun B7 pm st=>?_⟩)));have nl:B7.length=s.ln.length:=pm.length_eq;refine Yo 4 rfl ?_;show Ws [.AD,.ow true (B1 s A5 a1 dx bK bP),.ow true (B4 s a2 aK aP),.is (.int m),.is (.lst (B7.map .str)),.any,.any,.any,.any,.any] _ _ _
 walk_at "ww"
 refine ⟨by decide,by decide,fun w w0 w9=>?_⟩;show Ws [.AD,.ow true (B1 s A5 a1 dx bK bP),.ow true (B4 s a2 aK aP),.is (.int m),.is (.lst (B7.map .str)),.is (.int w),.any,.any,.any,.any] _ _ _;refine BI (HA (o6 (k':=fun b=>b=true->s.ln.length<12) ?_ ?_))
 ·walk_at "ww"
  refine B2 (fun c=>?_) (fun c=>?_)
  ·walk_at "ww"
   rw [Ab,nl];refine B2 (fun c2=>fun _=>by have:=jw c2;omega) (fun c2=>?_)
   walk_at "ww"
   refine ⟨by decide,_,.inl ⟨rfl,rfl,[],rfl,_,rfl,?_⟩⟩;refine B2 (fun c3=>?_) (fun c3 z=>by cases z);have e0:B7=[]:=jw c3
   walk_at "ww"
   exact fun _=>by
    rw [e0] at nl;have:s.ln.length=0:=nl.symm;omega
  ·refine Ee ?_
   walk_at "ww"
   refine ⟨by decide,_,.inl ⟨rfl,rfl,[],rfl,_,rfl,?_⟩⟩;refine B2 (fun c3=>?_) (fun c3 z=>by cases z);have e0:B7=[]:=jw c3
   walk_at "ww"
   exact fun _=>by
    rw [e0] at nl;have:s.ln.length=0:=nl.symm;omega
 rintro b hb;cases b with
 | true=>
  refine Vs rfl ?_;refine BI (PR (Tx rfl (Oz rfl ⟨rfl,B7,rfl,fun x hx=>ok.nm x (pm.mem_iff.mp hx),by omega,fun x hx nx=>?_⟩)));refine BI (PR (vF rfl (Ef ⟨_,⟨rfl,rfl⟩,?_⟩)));rintro _ ⟨r,rfl,Iq⟩;have Hh:x∉s.ln:=fun z=>nx (pm.mem_iff.mpr z);show Ws [.AD,.ow true (B1 s A5 a1 dx bK bP),.ow true (B4 s a2 aK aP),.is (.int m),.is (.lst (B7.map .str)),.is (.int w),.is (.str x),.is (.str r),.any,.any] _ _ _;refine BI (Jq (i:=2) (t:=B4 s a2 aK aP) (Eh (wp_call (SX (D0 (DA (JT rfl ⟨_,rfl,_,.inl ⟨rfl,IS (Ah rfl (Ef ⟨_,⟨s.row,r,rfl,by omega,rfl⟩,?_⟩))⟩⟩)))))));rintro _ ⟨ts,mr,GZ,rfl⟩;rw [Pg ok.row.nd mr GZ];refine ID rfl ⟨true,aK,Ag s.ln,_,rfl,rfl,by unfold BV;rw [Ab];omega,HL ok.n1,Au,Ah rfl ⟨.inr x,rfl,?_⟩⟩;rw [T3 Hh,cy Hh];unfold B4;rw [show ([]++[1]:List Nat)=[1] from rfl,Qy];have e1:BV s.ll++[.fz (CS r 0 (DQ s.row))]=BV (s.ll++[⟨r,0,DQ s.row⟩]):=by unfold BV;rw [Dh];rfl
  rw [e1];show Ws [.AD,.ow true (B1 s A5 a1 dx bK bP),.ow true (B4 (s.L5 x r) a2 aK aP),.is (.int m),.is (.lst (B7.map .str)),.is (.int w),.is (.str x),.is (.str r),.any,.any] _ _ _;refine ON (i:=1) (j:=2) (by decide) rfl rfl (Rn (Q6 rfl (by decide +kernel) (Kw (Ah rfl (Kw (Ah rfl (NS ⟨_,⟨m,s,a1,_,x,r,rfl,hY,ok,Hh,hx,Iq,hb rfl,rfl⟩,?_⟩)))))));rintro _ t2 ⟨rfl,CI⟩;obtain ⟨nk,Ar,rfl⟩:=CI.nd;exact ⟨nk,Ar,rfl,rfl,_,_,_,rfl,rfl,s.L5 x r,ok.L5 Hh hx Iq (hb rfl),EC _,rfl,CI,aK,aP,rfl⟩
 | false=>
  refine Bh (by decide) (Dw ?_);have fin:∀ s6 s7 s8 s9:Slot,Ws [.AD,.ow true (B1 s A5 a1 dx bK bP),.ow true (B4 s a2 aK aP),.is (.int m),.is (.lst (B7.map .str)),.is (.int w),s6,s7,s8,s9] (Gu (Bz (CL (OS A5)) [] E0 (AV (BL 1) (AV (BL 2) (AV (Bz Qb [] E0 (AV (BL 0) (AV (Fy (BL 2) (tC (V.str "row"))) (AV (BL 3) B5)))) B5))))) (fun x=>False) (.Ea fun p u1 u2=>p=.bl true/\∃ s',Yd.Ok m s'/\s'.pa.length<=s.pa.length+1/\s'.fg=s.fg/\Dk s' A5 a1 u1/\Ge s' a2 u2):=fun s6 s7 s8 s9=>by
   refine lO (i:=1) (j:=2) (l:=true) (by decide) (by show 1<10;decide) (by show 2<10;decide) (qw (q:=0) (b:=false) (c:=true) (d:=true) (by decide) rfl rfl (fun z=>by cases z) ?_);refine cU (n:=1) rfl (.inl ⟨_,_,_,rfl⟩) (gz (n:=2) rfl (.inl ⟨_,_,_,rfl⟩) (Yq (aj rfl (D0 (DA (JT rfl ⟨_,rfl,_,.inl ⟨rfl,rfl,s.row,rfl,Ah rfl ⟨m,rfl,ok.row.nm,hr,h1,by omega,fun d od=>?_⟩⟩⟩))))));have YD:d.Ok 40 s.row:=by
    cases d with
    | put x i=>exact ⟨od.1,od.2.1,od.2.2.1,by have:=od.2.2.2;omega⟩
    | _=>exact od
   refine cQ ⟨_,⟨m,s,a1,a2,_,_,d,rfl,hY,⟨aK,aP,rfl⟩,ok,YD,hp,rfl⟩,?_⟩;rintro _ u1 u2 ⟨rfl,bS,Zq⟩;obtain ⟨n1,v1,rfl⟩:=bS.nd;obtain ⟨n2,v2,rfl⟩:=Zq.nd;exact ⟨rfl,rfl,_,_,_,_,_,_,rfl,rfl,rfl,s.act d,ok.act od YD,by show (s.pa++[_]).length<=_;rw [Bl];exact Ao _,rfl,bS,Zq⟩
  refine ZAO (fun AK=>∃ s6 s7 s8 s9:Slot,AK=[.AD,.ow true (B1 s A5 a1 dx bK bP),.ow true (B4 s a2 aK aP),.is (.int m),.is (.lst (B7.map .str)),.is (.int w),s6,s7,s8,s9]) ?_ (by rintro _ ⟨s6,s7,s8,s9,rfl⟩;exact fin s6 s7 s8 s9)
  walk_at "ww"
  refine B2 (fun c=>?_) (fun c=>Bh (by decide) (Dw ⟨_,_,_,_,rfl⟩))
  walk_at "ww"
  refine ⟨by decide,_,.inl ⟨rfl,rfl,[],rfl,_,rfl,?_⟩⟩;refine B2 (fun c2=>?_) (fun c2=>Dw ⟨_,_,_,_,rfl⟩);have Ak:B7≠[]:=fun z=>by rw [jO z] at c2;cases c2
  have JC:0<B7.length:=List.length_pos_iff.mpr Ak
  walk_at "ww"
  rw [Ab];refine ⟨by omega,by omega,fun q q0 q1=>?_⟩;obtain ⟨q,rfl⟩:=Fo q0;obtain ⟨x,hx⟩:∃ x,B7[q]?=some x:=⟨_,BE (by omega)⟩;refine ⟨_,.str x,rfl,?_,?_⟩
  ·exact eF (by rw [Ax,hx];rfl)
  have xm:x∈s.ln:=pm.mem_iff.mp (DK hx);have hi:=List.idxOf_lt_length_iff.mpr xm;obtain ⟨l,el⟩:∃ l,s.ll[s.ln.idxOf x]?=some l:=⟨_,BE (by omega)⟩;have gl:=ok.good l (DK el);show Ws [.AD,.ow true (B1 s A5 a1 dx bK bP),.ow true (B4 s a2 aK aP),.is (.int m),.is (.lst (B7.map .str)),.is (.int w),.is (.str x),.any,.any,.any] _ _ _
  walk_at "ww"
  refine B2 (fun c3=>?_) (fun c3=>Dw ?_)
  ·refine BI (Zr (i:=2) (t:=B4 s a2 aK aP) (ID rfl ⟨true,aK,Ag s.ln,_,rfl,rfl,HL ok.n1,Ah rfl ⟨.inr x,s.ln.idxOf x,rfl,Jt xm,?_⟩⟩));unfold B4;rw [show ([]++[1]:List Nat)=[1] from rfl,Qy];have e1:(Ag s.ln).eraseIdx (s.ln.idxOf x)=Ag (s.ln.eraseIdx (s.ln.idxOf x)):=by unfold Ag;rw [MD]
   have e2:(BV s.ll).eraseIdx (s.ln.idxOf x)=BV (s.ll.eraseIdx (s.ln.idxOf x)):=by unfold BV;rw [MD]
   rw [e1,e2];show Ws [.AD,.ow true (B1 s A5 a1 dx bK bP),.ow true (B4 (s.LX x) a2 aK aP),.is (.int m),.is (.lst (B7.map .str)),.is (.int w),.is (.str x),.any,.any,.any] _ _ _;refine ON (i:=1) (j:=2) (by decide) rfl rfl (Rn (Q6 rfl (by decide +kernel) (Kw (Ah rfl (NS ⟨_,⟨m,s,a1,_,x,rfl,hY,ok,xm,rfl⟩,?_⟩)))));rintro _ t2 ⟨rfl,CI⟩;obtain ⟨nk,Ar,rfl⟩:=CI.nd;exact ⟨nk,Ar,rfl,rfl,_,_,_,rfl,rfl,s.LX x,ok.LX x,EC _,rfl,CI,aK,aP,rfl⟩
  ·refine BI (ZAa (wY (D0 (DA (JT rfl ⟨_,rfl,_,.inl ⟨rfl,rfl,s.row,rfl,DA (Lc (ID rfl ⟨Ag s.ln,aK,_,rfl,Ah rfl ⟨.inr x,_,.fz l.P,rfl,Jt xm,SR el,_,rfl,l.r,l.g,l.cs,rfl,gl,by omega,?_⟩⟩))⟩⟩)))));rw [ZP];refine gQ ⟨_,_,rfl,?_⟩;show Ws [.AD,.ow true (B1 s A5 a1 dx bK bP),.ow true (B4 s a2 aK aP),.is (.int m),.is (.lst (B7.map .str)),.is (.int w),.is (.str x),.any,.is (l.told s.row),.is (l.FA s.row).P] _ _ _;refine BI (Jq (i:=2) (t:=B4 s a2 aK aP) (Eh (Ah rfl (ID rfl ⟨true,aK,Ag s.ln,_,rfl,rfl,by unfold BV;rw [Ab];omega,HL ok.n1,Au,Ah rfl ⟨.inr x,rfl,?_⟩⟩))));rw [OF xm,Pb xm];unfold B4;rw [show ([]++[1]:List Nat)=[1] from rfl,Qy,Qo];show Ws [.AD,.ow true (B1 s A5 a1 dx bK bP),.ow true (B4 (s.FA x l) a2 aK aP),.is (.int m),.is (.lst (B7.map .str)),.is (.int w),.is (.str x),.any,.is (l.told s.row),.is (l.FA s.row).P] _ _ _;refine ON (i:=1) (j:=2) (by decide) rfl rfl (oX (j:=8) (by decide) rfl (Q6 rfl (by decide +kernel) (Kw (Ah rfl (NS ⟨_,⟨m,s,a1,_,x,l,rfl,hY,ok,xm,el,rfl⟩,?_⟩)))));rintro _ t2 ⟨rfl,CI⟩;obtain ⟨nk,Ar,rfl⟩:=CI.nd;obtain ⟨z1,z2⟩:=ZBh s.row l;rw [z2];exact ⟨nk,Ar,rfl,z1,_,_,_,rfl,rfl,s.FA x l,ok.FA (DK el),EC _,rfl,CI,aK,aP,rfl⟩
def kG:Ap ["self"] ["self"] (AY U3):=by walk_at "z1"
def iH:∀ ss R,(VH A5) ss R->ss.length=1:=by rintro _ _ ⟨s,rfl,rfl⟩;rfl
def jh (F:AH K "row" "Yard.row" U3 f fd)(mt:Meth K A5 "row" f):
  DD P w K mg base A5 "row" 1 ["self"] (BW (VH A5)):=by
 refine ⟨f,fd,F.As (k:=0) kG (fun vs H Q E h=>Fz.GJ iH h) (fun AU A outer s H vs Q E hr h=>?_),(F.binds (by walk_at "bD1")),mt,B6⟩
 refine ⟨_,(AG rfl (Ac (D8 Jw Bq (A0 (DH (qv 0)) A6)))),?_⟩;refine Fz.G4 h iH ?_;rintro _ _ ⟨s,rfl,rfl⟩;show Ws [_] _ _ _;exact RU (WS rfl (D0 (L8 (Ah rfl ⟨A5,yN,_,0,_,rfl,B6,DY,by decide +kernel,rfl,_,.inl ⟨rfl,rfl⟩⟩))))
def u6:Ap ["self"] ["self"] (AY Wv):=by walk_at "z1"
def gB:∀ ss R,(VA A5) ss R->ss.length=1:=by rintro _ _ ⟨m,s,rfl,_,rfl⟩;rfl
def ue (F:AH K "loops" "Yard.loops" Wv f fd)(mt:Meth K A5 "loops" f):
  DD P w K mg base A5 "loops" 1 ["self"] (BW (VA A5)):=by
 refine ⟨f,fd,F.As (k:=0) u6 (fun vs H Q E h=>Fz.GJ gB h) (fun AU A outer s H vs Q E hr h=>?_),(F.binds (by walk_at "bD1")),mt,B6⟩
 refine ⟨_,(AG rfl (Ac (BB (Rr rfl) CV (A0 (DH (qv 0)) A6)))),?_⟩;refine Fz.G4 h gB ?_;rintro _ _ ⟨m,s,rfl,ok,rfl⟩;show Ws [_] _ _ _;refine RU (Zz (L8 (Ah rfl ⟨A5,yN,_,1,_,rfl,B6,C9,by decide +kernel,rfl,_,s.ln,rfl,by have:=ok.G6;omega,fun B7 pm st=>?_⟩)));show _=_;rw [Pg ok.n1 pm st]
def uA:Ap ["self"] ["self"] (AY U6):=by walk_at "z1"
def bZ:∀ ss R,(V9 A5) ss R->ss.length=1:=by rintro _ _ ⟨s,rfl,_,rfl⟩;rfl
def qc (F:AH K "count" "Yard.count" U6 f fd)(mt:Meth K A5 "count" f):
  DD P w K mg base A5 "count" 1 ["self"] (BW (V9 A5)):=by
 refine ⟨f,fd,F.As (k:=0) uA (fun vs H Q E h=>Fz.GJ bZ h) (fun AU A outer s H vs Q E hr h=>?_),(F.binds (by walk_at "bD1")),mt,B6⟩
 refine ⟨_,(AG rfl (Ac (B0 E9 (DH (qv 0)) (BB J4 Az (A0 (DH (qv 0)) A6))))),?_⟩;refine Fz.G4 h bZ ?_;rintro _ _ ⟨s,rfl,hp,rfl⟩;show Ws [_] _ _ _;refine MC (Zm (L8 (Ah rfl ⟨A5,yN,_,3,_,rfl,B6,LW,by decide +kernel,rfl,_,rfl,?_⟩)));refine TZ (D0 (L8 (Ah rfl ⟨A5,yN,_,2,_,rfl,B6,HS,by decide +kernel,rfl,_,.inl ⟨rfl,?_⟩⟩)));exact ⟨_,rfl,rfl⟩
def qK:Ap ["found"] ["found"] (AY Pj):=by walk_at "z1"
def zq:Scope:={ kind:=.function,names:=[(".0", .local),("name", .local),("isinstance", .globalImplicit),("str", .globalImplicit)],isGenerator:=false,isCoroutine:=false,more:=[] }
def jc:DV ["found"] (AY Pj) zq "name" [] []:=by walk_at "z2"
def fm : ∀ ss R,SN ss R->ss.length=1:=by rintro _ _ ⟨ns,rfl,hz,rfl⟩;rfl
def oK (F:AH K "_law_texts" "_law_texts" Pj f fd)(m:mg "_law_texts"=some (.ref f)):
  A8 P w K mg base "_law_texts" 1 ["found"] (BW SN):=by
 refine A8.mk F (F.binds (by walk_at "bD1")) m (F.As (k:=0) qK (fun vs H Q E h=>Fz.GJ fm h) (fun AU A outer s H vs Q E hr h=>?_))
 refine ⟨_,(AG rfl (Ac (HP (BB JQ Et (A0 (qv 0) (A0 (JO "list" Bq) A6))) (Iu (BB (NJ rfl) EH (A0 (G2 rfl jc (FF (qv 0)) (fun _ _ _ _=>by exact MM) (fun _ _ _ _=>by exact (BB (show CY _ (.builtin "isinstance") (QY K) from JQ) Et (A0 (qv 0) (A0 (JO "str" Kf) A6))))) A6)))))),?_⟩;refine Fz.G4 h fm ?_;rintro _ _ ⟨ns,rfl,hz,rfl⟩;show Ws [_] _ _ _
 walk_at "ww"
 refine vf ?_
 walk_at "ww"
 refine ⟨true,Ks _ _,_,rfl,NY ?_⟩
 walk_at "wp"
 refine D0 (Fs (tW PV.str (fun _=>true) (fun _=>.bl true) ?_ str_inj))
 walk_at "ww"
 refine ⟨by omega,fun x hx=>by walk_at "ww"; rfl,fun x hx _=>?_,?_⟩
 ·refine LU ?_
  walk_at "ww"
  exact ⟨true,Ks _ _,rfl⟩
 ·walk_at "ww"
  rw [show (List.map (fun _=>true) (ns.filter fun _=>true)).all id=true from by simp]
def ZAI:Ap ["found"] ["found"] (AY Ro):=by walk_at "z1"
def hE : ∀ ss R,QX ss R->ss.length=1:=by rintro _ _ ⟨i,rfl,rfl⟩;rfl
def wg (F:AH K "_law_whole" "_law_whole" Ro f fd)(m:mg "_law_whole"=some (.ref f)):
  A8 P w K mg base "_law_whole" 1 ["found"] (BW QX):=by
 refine A8.mk F (F.binds (by walk_at "bD1")) m (F.As (k:=0) ZAI (fun vs H Q E h=>Fz.GJ hE h) (fun AU A outer s H vs Q E hr h=>?_))
 refine ⟨_,(AG rfl (Ac (HP (BB JQ Et (A0 (qv 0) (A0 (JO "int" Gn) A6))) (Iu (rO (BB JQ Et (A0 (qv 0) (A0 (JO "bool" Td) A6)))))))),?_⟩;refine Fz.G4 h hE ?_;rintro _ _ ⟨i,rfl,rfl⟩;show Ws [_] _ _ _;refine MC (Pd (LU (Ah rfl ⟨true,Ks _ _,_,rfl,NY ?_⟩)));exact dH (LU (Ah rfl ⟨false,u9 _,_,rfl,rfl⟩))
def tQ:Ap ["found","due"] ["found","due"] (AY Uz):=by walk_at "z1"
def eQ : ∀ ss R,WN ss R->ss.length=2:=by rintro _ _ ⟨lo,rfl,rfl⟩;rfl
def sk (F:AH K "_law_is_loop" "_law_is_loop" Uz f fd)(m:mg "_law_is_loop"=some (.ref f)):
  A8 P w K mg base "_law_is_loop" 2 ["found","due"] (BW WN):=by
 refine A8.mk F (F.binds (by walk_at "bD2")) m (F.As (k:=1) tQ (fun vs H Q E h=>Fz.GJ eQ h) (fun AU A outer s H vs Q E hr h=>?_))
 refine ⟨_,(AI rfl (Aw (Gy (EO (Fl (BB JQ Et (A0 (qv 0) (A0 (JO "tuple" Cf) A6))))) (Gy (Al Ib (BB J4 Az (A0 (qv 0) A6)) A9) (K9 (EO (Fl (BB JQ Et (A0 (AR Ad (qv 0) A9) (A0 (JO "tuple" Cf) A6)))))))).pt (AG rfl (Ac LF)) B3)
   (AG rfl (Ac (HP (BB JQ Et (A0 (AR Ad (qv 0) A9) (A0 (JO "str" Kf) A6))) (HP (AS KW hr (A0 (AR Ad (qv 0) A9) A6)) (Iu (EJ (Fz.yQ hr.units) (qv 0) (qv 1)))))))),?_⟩
 refine Fz.G4 h eQ ?_;rintro _ _ ⟨⟨r,g,ts⟩,rfl,rfl⟩;show Ws [.is (.tup [.str r,.int g,.tup (ts.map .str)]),.is (.tup [.str r,.int g,.tup (ts.map .str)])] _ _ _;refine BI (HA (MS (IQ (Gm (LU (Ah rfl ⟨true,Ks _ _,true,rfl,Ee ?_⟩))))))
 walk_at "ww"
 refine Bh (by simp [alike]) ?_;refine IQ (Gm (LU ?_))
 walk_at "ww"
 refine ⟨true,Ks _ _,true,rfl,Ee (Dw ?_)⟩;refine MC (Pd (LU ?_))
 walk_at "ww"
 refine ⟨true,Ks _ _,true,rfl,Vs rfl ?_⟩;refine Pd (wp_call (IS ?_))
 walk_at "ww"
 refine Ef ⟨_,⟨_,rfl,rfl⟩,?_⟩;rintro _ rfl;refine ⟨_,rfl,Vs rfl ?_⟩;have d:dat K 40 (CS r g ts):=ju K r g ts;refine dE (Ah rfl (Ah rfl ⟨d,d,?_⟩));show PV.bl (Bi (CS r g ts) (CS r g ts))=PV.bl true;rw [oh 40 d]
def Vi:Ap ["yard","state","row","names"] ["yard","state"] (AY Pe):=by walk_at "z1"
def tR:Scope:={ kind:=.function,names:=[(".0", .local),("name", .local),("_law_is_loop", .globalImplicit),("state", .free),("yard", .free)],isGenerator:=false,isCoroutine:=false,more:=[] }
def la:DV ["yard","state","row","names"] (AY Pe) tR "name" ["state","yard"] [1,0]:=by walk_at "z2"
def fT:∀ ss R,(TF A5) ss R->ss.length=2:=by rintro _ _ ⟨m,s,a1,a2,t1,t2,rfl,_,_,_,_,_,rfl⟩;rfl
def lF (F:AH K "_law_stands" "_law_stands" Pe f fd)(m:mg "_law_stands"=some (.ref f)):
  A8 P w K mg base "_law_stands" 5 ["yard","state"] (CL (TF A5)):=by
 refine A8.mk F (F.binds (by walk_at "bD2")) m (F.As (k:=4) Vi (fun vs H Q E h=>Fz.J0 fT h) (fun AU A outer s H vs Q E hr h=>?_))
 refine ⟨_,(AI rfl (BC 2 Vi.nd (OM XM hr (by decide) (qv 0)))
   (AI rfl (BC 3 Vi.nd (OM US hr (by decide) (qv 0)))
   (AI rfl (Aw (Gy (EO (Fl (AS Of hr (A0 (qv 2) A6)))) (Gy (Al (MV hr.Gk) (qv 2) (CA (Bb hr) (qv 1) Aa (fun _ _=>rfl))) (Gy (EO (Fl (AS Of hr (A0 (qv 3) A6)))) (K9 (Al (MV hr.Gk) (qv 3) (BB (Rr rfl) CV (A0 (CA (Bb hr) (qv 1) Aa (fun _ _=>rfl)) A6))))))).pt (AG rfl (Ac LF)) B3)
   (AI rfl (Aw (Gy (EO (Fl (AS KW hr (A0 (OM P1 hr (by decide) (qv 0)) A6)))) (K9 (Al Ib (OM P1 hr (by decide) (qv 0)) (BB J4 Az (A0 (CA (Bb hr) (qv 1) Aa (fun _ _=>rfl)) A6))))).pt (AG rfl (Ac LF)) B3)
   (AI rfl (DC (G3 Hw Nz O0 LQ (qv 2) (A0 Aa A6)))
   (AI rfl (DC (G3 Hw Nz O0 LQ (qv 3) (A0 Aa A6)))
   (AG rfl (Ac (BB (NJ rfl) EH (A0 (yX (G2 rfl la (ZAk (CA (Bb hr) (qv 1) Aa (fun _ _=>rfl))) (fun _ _ _ _=>by exact MM) (fun _ _ _ _=>by exact (AS To hr (A0 (Jk Hm hr (by decide) (qv 1) (A0 (qv 2) A6)) (A0 (CA (Bb hr) (CA (Bb hr) (qv 0) Aa (fun _ _=>rfl)) (qv 2) (fun _ _=>rfl)) A6)))))) A6)))))))))),?_⟩
 refine Fz.P4 h fT ?_;rintro _ _ ⟨m,s,a1,a2,t1,t2,rfl,hY,hS,ok,hf,hp,rfl⟩;obtain ⟨dx,bK,bP,rfl⟩:=hY;obtain ⟨aK,aP,rfl⟩:=hS;have l1:=ok.l1;have lf:=ok.G6;have hr:=ok.row.len;have h4:=ok.m4;show Ws [.ow true (B1 s A5 a1 dx bK bP),.ow true (B4 s a2 aK aP),.any,.any] _ _ _;refine BI (N7 (bz ?_));show Wn [.is (B1 s A5 a1 dx bK bP).pv,.is (B4 s a2 aK aP).pv,.any,.any] _ _;rw [JW,R8];refine ay (Ah rfl ⟨_,_,rfl,by decide +kernel,Ef ⟨_,⟨s,rfl,rfl⟩,?_⟩⟩);rintro _ rfl;refine ⟨YL s.row,?_⟩;show Ws [.ow true (B1 s A5 a1 dx bK bP),.ow true (B4 s a2 aK aP),.own (s.row.map .str),.any] _ _ _;refine BI (N7 (bz ?_));show Wn [.is (B1 s A5 a1 dx bK bP).pv,.is (B4 s a2 aK aP).pv,_,.any] _ _;rw [JW,R8];refine ay (Ah rfl ⟨_,_,rfl,by decide +kernel,Ef ⟨_,⟨m,s,rfl,ok,rfl⟩,?_⟩⟩);rintro _ rfl;refine ⟨YL _,?_⟩;show Ws [.ow true (B1 s A5 a1 dx bK bP),.ow true (B4 s a2 aK aP),.own (s.row.map .str),.own ((DQ s.ln).map .str)] _ _ _;refine BI (HA (gT ?_));show Wt [.is (B1 s A5 a1 dx bK bP).pv,.is (B4 s a2 aK aP).pv,_,_] _ _;rw [JW,R8];show Wt [.is (JP s A5),.is (Rt s),.is (.lst (s.row.map .str)),.is (.lst ((DQ s.ln).map .str))] _ _;have sl:(DQ s.ln).length=s.ln.length:=Zb s.ln;refine MS (IQ (Gm (wp_call (SX (Oz rfl (Ef ⟨_,⟨s.row,rfl,by omega,rfl⟩,?_⟩))))));rintro _ rfl;refine ⟨_,rfl,Bh (by decide) ?_⟩
 walk_at "ww"
 refine D0 (Q7 (Ah rfl ⟨DP,_,rfl,IX ⟨.inr "row", _,rfl,rfl,_,.inl ⟨rfl,rfl,s.row,rfl,_,rfl,Bh ?_ ?_⟩⟩⟩))
 ·rw [jO rfl];decide
 refine MS (IQ (Gm (wp_call (SX (Oz (i:=3) rfl (Ef ⟨_,⟨DQ s.ln,rfl,by omega,rfl⟩,?_⟩))))));rintro _ rfl;refine ⟨_,rfl,Bh (by decide) ?_⟩
 walk_at "ww"
 refine D0 (Fs (Zz (Q7 (Ah rfl ⟨DP,_,rfl,IX ⟨.inr "kept", _,rfl,rfl,_,s.ln,rfl,by omega,fun B7 pm st=>?_⟩⟩))));rw [Pg ok.n1 pm st];refine ⟨_,.inl ⟨rfl,rfl,DQ s.ln,rfl,_,rfl,Bh ?_ (Dw ?_)⟩⟩
 ·rw [jO rfl];decide
 refine BI (HA (gT ?_));show Wt [.is (B1 s A5 a1 dx bK bP).pv,.is (B4 s a2 aK aP).pv,_,_] _ _;rw [JW,R8];refine MS (IQ (Gm (wp_call (IS (T9 (Ah rfl ⟨_,_,rfl,by decide +kernel,Ef ⟨_,⟨s,rfl,by omega,rfl⟩,?_⟩⟩))))));rintro _ rfl;refine Ef ⟨_,⟨_,rfl,rfl⟩,?_⟩;rintro _ rfl;refine ⟨_,rfl,Bh (by decide) ?_⟩;refine SQ (eO (T9 (Ah rfl ⟨_,_,rfl,by decide +kernel,Ef ⟨_,⟨s,rfl,by omega,rfl⟩,?_⟩⟩)));rintro _ rfl;refine TZ (D0 (Q7 (Ah rfl ⟨DP,_,rfl,IX ⟨.inr "past", _,rfl,rfl,_,.inl ⟨rfl,?_⟩⟩⟩)));refine ⟨rfl,_,rfl,Bh ?_ (Dw ?_)⟩
 ·rw [hf];simp [alike]
 show Ws [.ow true (B1 s A5 a1 dx bK bP),.ow true (B4 s a2 aK aP),.own (s.row.map .str),.own ((DQ s.ln).map .str)] _ _ _
 walk_at "ww"
 refine ⟨by rw [Ab];omega,?_⟩
 walk_at "ww"
 refine ⟨by rw [Ab];omega,?_⟩;have el:BV s.ll=(s.ll.map Lp.P).map .fz:=by unfold BV;rw [HC];rfl
 refine xB (i:=0) (j:=1) (by decide) rfl rfl (du rfl (D0 (Fs (ZBs (jS:=1) (jY:=0) (l2:=true) (l1:=true) (a2:=a2) (aK:=aK) (u0:=.fz (.lst (s.row.map .str))) (u2:=.nd .lst aP (s.pa.map .fz)) (tY:=B1 s A5 a1 dx bK bP) (ns:=s.ln) (ps:=s.ll.map Lp.P) ?_ rfl (by decide) ok.n1 (by omega) ?_ ?_ ?_))))
 ·show some (Slot.ow true (B4 s a2 aK aP))=_;unfold B4;rw [el]
 ·intro n x p hx hq;rw [JW];rw [Ax] at hq;obtain ⟨lo,e2,rfl⟩:=Option.map_eq_some_iff.mp hq;have ix:s.ln.idxOf x=n:=LN ok.n1 hx;exact T9 (Ah rfl ⟨_,_,rfl,by decide +kernel,IS (Ah rfl (Ef ⟨_,⟨s,x,lo,rfl,DK hx,by rw [ix];exact e2,l1,rfl⟩,fun q hq=>hq⟩))⟩)
 ·intro p hq;obtain ⟨lo,_,rfl⟩:=List.mem_map.mp hq;exact wp_call (IS (Ah rfl (IS (Ah rfl (Ef ⟨_,⟨lo,rfl,rfl⟩,fun q hq=>hq⟩)))))
 ·refine ⟨_,.inl ⟨rfl,rfl,List.replicate s.ln.length true,by rw [ZCt],?_,rfl,rfl⟩⟩
  congr 1
  exact List.all_eq_true.mpr fun b hb=>ZCj hb
def FU:Ap ["script","yards","k","pot","most","state","yard","turn"] ["script"] (AY Jy):=by walk_at "z1"
def wz:Scope:={ kind:=.function,names:=[(".0", .local),("one", .local),("_law_stands", .globalImplicit)],isGenerator:=false,isCoroutine:=false,more:=[] }
def mT:DV ["script","yards","k","pot","most","state","yard","turn"] (AY Jy) wz "one" [] []:=by walk_at "z2"
def ZC5 (F:AH K "law" "law" Jy f fd)(m:mg "law"=some (.ref f)):
  D3 P w K mg base Ez 12 f fd ["script"] (Mw K):=by
 refine (F.As (k:=11) FU (fun vs H Q E h=>by obtain ⟨a,ns,rfl,_⟩:=h;rfl) (fun AU A outer s H vs Q E hr h=>?_));refine ⟨_,(AI rfl (BC 1 FU.nd (Ep A6))
   (AI rfl (DI (Ip Hv rfl (Sj rfl Ij (A0 A9 A6)) (Cs 2 FU.nd) (AI rfl (BC 3 FU.nd (AS Pp hr (A0 (qv 0) (A0 (qv 2) A6))))
   (AI rfl (BC 4 FU.nd (AR Ad (CC (A0 A9 (A0 A9 A6))) (D8 WE Gn (A0 (EJ Bw (AS Bg hr (A0 (qv 3) (A0 A9 A6))) A9) A6))))
   (AI rfl (BC 5 FU.nd (AS U1 hr (A0 (qv 3) (A0 (qv 4) A6))))
   (AG rfl (DC (G3 Hw Nz O0 LQ (qv 1) (A0 (CC (A0 (zd WB hr (by decide) Vb (A0 (CA (Bb hr) (qv 5) Aa (fun _ _=>rfl)) A6)) (A0 (qv 5) (A0 (qv 4) A6)))) A6)))))))))
   (AI rfl (DI (Ip Hv rfl (yg rfl Ij (A0 A9 (A0 (BB (ZAz rfl) Tu (A0 A9 (A0 (BB (vP rfl) T2 (A0 (BB J4 Az (A0 (qv 0) A6)) (A0 A9 A6))) A6))) A6))) (Cs 2 FU.nd) (AI rfl (BC 3 FU.nd (AS Pp hr (A0 (qv 0) (A0 (qv 2) A6))))
   (AI rfl (Jn (AR Dl (qv 1) (AS Bg hr (A0 (qv 3) (A0 A9 A6)))) (Kz rfl (EU (Cs 6 FU.nd) (EU (Cs 5 FU.nd) (EU (Cs 4 FU.nd) Ka)))))
   (AG rfl (Ip Hv rfl (Sj rfl Ij (A0 (B0 E9 A9 (AS Bg hr (A0 (qv 3) (A0 A9 A6)))) A6)) (Cs 7 FU.nd) (AI rfl (Aw (EO (Fl (AS UL hr (A0 (qv 3) (A0 (qv 6) (A0 (qv 5) (A0 (qv 4) A6))))))) (AG rfl (Ac LF)) B3)
   (AG rfl (Aw (EO (Fl (BB (NJ rfl) EH (A0 (G2 rfl mT (FF (qv 1)) (fun _ _ _ _=>by exact MM) (fun _ _ _ _=>by exact (AS U9 hr (A0 (AR (show FZ _ (Gf K) from Ad) (qv 0) A9) (A0 (AR (show FZ _ (Gf K) from Ad) (qv 0) A9) A6))))) A6)))) (AG rfl (Ac LF)) B3)))))))))
   (AG rfl (Ac LF))))),?_⟩
 refine Fz.yo h ?_;intro sc fe;show Ws [_,.any,.any,.any,.any,.any,.any,.any] _ _ _;refine BI (eW (WJ (NA ⟨by decide,fun aL=>?_⟩)));show Ws [.raw (DB K sc),.ow false (.nd .lst aL []),.any,.any,.any,.any,.any,.any] _ _ _;refine BI (Js (JA (fun _ i AK=>∃ (us:List OV) (s2 s3 s4 s5 s6 s7:Slot),AK=[.raw (DB K sc),.ow false (.nd .lst aL us),s2,s3,s4,s5,s6,s7]/\us.length=i/\∀ u∈us,YU A5 0 u) ?_))
 walk_at "ww"
 refine ⟨by decide,by decide,⟨[],_,_,_,_,_,_,rfl,rfl,fun u hu=>absurd hu Au⟩,?_,?_⟩
 ·rintro i p AK hp ⟨us,s2,s3,s4,s5,s6,s7,rfl,hl,hu⟩;obtain ⟨hi,rfl⟩:=cw hp;refine Kn ?_;show Ws [.raw (DB K sc),.ow false (.nd .lst aL us),.is (.int i),s3,s4,s5,s6,s7] _ _ _;refine BI (WI rfl (Ah rfl ⟨_,rfl,by omega,by omega,?_⟩));show Ws [.raw (DB K sc),.ow false (.nd .lst aL us),.is (.int i),.AD,s4,s5,s6,s7] _ _ _
  walk_at "ww"
  refine ⟨by decide,_,.inr ⟨rfl,rfl,?_⟩⟩
  walk_at "ww"
  refine ⟨by decide,by decide,fun r r0 r1=>?_⟩
  walk_at "ww"
  obtain ⟨m,em,hm⟩:∃ m:Nat,L2.Be [PV.int 9,.int 40] (if alike (PV.int r) (.int 0)=true then 1 else 0)=some (.int m)/\(m=9∨m=40):=by
   split
   ·exact ⟨40,rfl,.inr rfl⟩
   ·exact ⟨9,rfl,.inl rfl⟩
  refine ⟨_,_,rfl,em,?_⟩;show Ws [.raw (DB K sc),.ow false (.nd .lst aL us),.is (.int i),.AD,.is (.int m),s5,s6,s7] _ _ _;refine BI (eW (yH rfl (IS (Ah rfl (Ef ⟨_,⟨m,rfl,by omega,by omega,rfl⟩,?_⟩)))));rintro _ ⟨ns,a2,hR,bK,bP,rfl⟩;show Ws [.raw (DB K sc),.ow false (.nd .lst aL us),.is (.int i),.AD,.is (.int m),.ow false (B4 (y0 ns) a2 bK bP),s6,s7] _ _ _;refine Vz (Cw rfl ⟨false,aL,us,rfl,rfl,by omega,?_⟩);refine ZBT (L6 (jZ (Kw (DA (JT (i:=5) rfl ⟨_,rfl,NS fun x dx=>⟨_,⟨x,dx,ns,rfl,⟨by have:=hR.len;omega,hR.nm,hR.nd⟩,rfl⟩,?_⟩⟩)))));rintro _ t2 ⟨rfl,aK,aP,rfl⟩;refine ⟨rfl,_,_,rfl,?_⟩;refine L6 (v8 (i:=5) rfl (L6 (Eh (Ah rfl (NA ⟨by simp,by simp,by simp,by show 3<=100000;decide,by simp,?_⟩)))));rw [OV.EE];refine ⟨us++[_],_,_,_,_,_,_,rfl,by rw [Bl,hl];rfl,fun u IZ=>?_⟩;rcases List.mem_append.mp IZ with z | z
  ·exact hu u z
  ·rw [List.mem_singleton.mp z];exact ⟨m,y0 ns,x,a2,dx,aK,aP,bK,bP,rfl,wq hR (by omega),by omega,rfl,Ao _⟩
 ·rintro AK ⟨us,s2,s3,s4,s5,s6,s7,rfl,hl,hu⟩;have D9:us.length=2:=hl;refine BI (Js (JA (fun _ i AK=>∃ (us:List OV) (s2 s3 s4 s5 s6 s7:Slot),AK=[.raw (DB K sc),.ow false (.nd .lst aL us),s2,s3,s4,s5,s6,s7]/\us.length=2/\∀ u∈us,YU A5 (3 * i) u) ?_))
  walk_at "ww"
  obtain ⟨n,en,hn⟩:=ZBQ (b:=10) (c:=60) (n:=sc.length) (by decide) (by decide) (by omega);rw [en];refine ⟨by omega,⟨us,_,_,_,_,_,_,rfl,D9,fun u h=>(hu u h).mono (by omega)⟩,?_,?_⟩
  ·clear hu hl D9 us;rintro i p AK hp ⟨us,s2,s3,s4,s5,s6,s7,rfl,hl,hu⟩;obtain ⟨hi,rfl⟩:=je hp;have ZE1:i<60:=by omega
   refine Kn ?_;show Ws [.raw (DB K sc),.ow false (.nd .lst aL us),.is (.int (2+(i:Int))),s3,s4,s5,s6,s7] _ _ _;refine BI (WI rfl (Ah rfl ⟨_,rfl,by omega,by omega,?_⟩));show Ws [.raw (DB K sc),.ow false (.nd .lst aL us),.is (.int (2+(i:Int))),.AD,s4,s5,s6,s7] _ _ _;refine BI (tM (Np (Cw rfl ⟨aL,us,rfl,?_⟩)))
   walk_at "ww"
   refine ⟨by decide,by decide,fun q q0 q1=>?_⟩;obtain ⟨q,rfl⟩:=Fo q0;have hq:q<us.length:=by omega
   obtain ⟨u,eu⟩:∃ u,us[q]?=some u:=⟨_,BE hq⟩;obtain ⟨m,s,a1,a2,dx,aK,aP,bK,bP,rfl,ok,h1,hf,R5⟩:=hu u (DK eu);refine ⟨q,q,_,rfl,ZCD hq,eu,nM ?_⟩;show Ws [.raw (DB K sc),.ow false (.nd .lst aL us),.is (.int (2+(i:Int))),.AD,.is (.int m),.raw (ptr a2),.raw (ptr a1),s7] _ _ _;refine Ws.mono (nx:=fun AK=>∃ (us:List OV) (s7:Slot),AK=[.raw (DB K sc),.ow false (.nd .lst aL us),.is (.int (2+(i:Int))),.AD,.is (.int m),.raw (ptr a2),.raw (ptr a1),s7]/\us.length=2/\∀ u∈us,YU A5 (3 * (i+1)) u) ?_ (by rintro _ ⟨us,s7,rfl,g1,g2⟩;exact ⟨us,_,_,_,_,_,_,rfl,g1,g2⟩);refine JA (fun _ j AK=>∃ (us:List OV) (s7:Slot) (s:Yd) (dx aK aP bK bP:Addr),AK=[.raw (DB K sc),.ow false (.nd .lst aL us),.is (.int (2+(i:Int))),.AD,.is (.int m),.raw (ptr a2),.raw (ptr a1),s7]/\us.length=2/\(∀ u∈us,YU A5 (3 * i+j) u)/\us[q]?=some (.tp [B1 s A5 a1 dx aK aP,B4 s a2 bK bP,.fz (.int m)])/\s.Ok m/\s.fg=0/\s.pa.length<=3 * i+j) ?_
   walk_at "ww"
   refine ⟨by decide,by decide,fun r r0 r1=>?_⟩;obtain ⟨r,rfl⟩:=Fo r0;refine ⟨_,rfl,_,rfl,by omega,by omega,⟨us,s7,s,dx,aK,aP,bK,bP,rfl,hl,hu,eu,ok,hf,R5⟩,?_,?_⟩
   ·clear hf R5 ok eu hu hl;rintro j p AK O9 ⟨us,s7,s,dx,aK,aP,bK,bP,rfl,hl,hu,eu,ok,hf,R5⟩;obtain ⟨hj,rfl⟩:=cw O9;have hj3:j<3:=by omega
    refine Kn ?_;show Ws [.raw (DB K sc),.ow false (.nd .lst aL us),.is (.int (2+(i:Int))),.AD,.is (.int m),.raw (ptr a2),.raw (ptr a1),.is (.int j)] _ _ _;have BA:(OV.nd .lst aL us).at [q]=some (.tp [B1 s A5 a1 dx aK aP,B4 s a2 bK bP,.fz (.int m)]):=by rw [OV.Gj,eu];exact OV.G1
    refine BI (qO (mB (ZAM (yJ (i:=1) (q:=3) (p:=[q]) rfl BA (fun _=>rfl) (sM rfl (cU rfl (.inr rfl) (gz rfl (.inr rfl) (Yq (Ah rfl (cQ ⟨_,⟨m,s,a1,a2,_,_,rfl,h1,⟨dx,aK,aP,rfl⟩,⟨bK,bP,rfl⟩,ok,by omega,rfl⟩,?_⟩))))))))));rintro _ u1 u2 ⟨rfl,s',aA,Qn,LB,⟨EF,C0,CJ,rfl⟩,⟨Jh,JI,rfl⟩⟩;refine ⟨rfl,rfl,true,rfl,Ee (Dw ?_)⟩;rw [OV.Gx eu,OV.EE];show Ws [.raw (DB K sc),.ow false (.nd .lst aL (us.set q (.tp [B1 s' A5 a1 EF C0 CJ,B4 s' a2 Jh JI,.fz (.int m)]))),.is (.int (2+(i:Int))),.AD,.is (.int m),.raw (ptr a2),.raw (ptr a1),.is (.int j)] _ _ _;have IZ:∀ u∈us.set q (.tp [B1 s' A5 a1 EF C0 CJ,B4 s' a2 Jh JI,.fz (.int m)]),YU A5 (3 * i+(j+1)) u:=fun u h=>by
     rcases ZCy h with z | z
     ·exact (hu u z).mono (by omega)
     ·rw [z];exact ⟨m,s',a1,a2,EF,C0,CJ,Jh,JI,rfl,aA,h1,LB.trans hf,by omega⟩
    have Dc:(us.set q (.tp [B1 s' A5 a1 EF C0 CJ,B4 s' a2 Jh JI,.fz (.int m)])).length=2:=by rw [Fp];exact hl
    have sh:(us.set q (.tp [B1 s' A5 a1 EF C0 CJ,B4 s' a2 Jh JI,.fz (.int m)]))[q]?=some (.tp [B1 s' A5 a1 EF C0 CJ,B4 s' a2 Jh JI,.fz (.int m)]):=CZ (by omega);refine yV (i:=1) (ZBV (pk (ZAc rfl rfl (by omega) (fun u h=>?_) ⟨true,rfl,Ee (Dw ?_)⟩)))
    ·obtain ⟨m3,s3,b1,b2,d3,k3,p3,k4,p4,rfl,ok3,h3,f3,l3⟩:=IZ u h;exact ⟨_,b1,_,_,b2,_,_,_,rfl,⟨m3,s3,b1,b2,_,_,rfl,⟨d3,k3,p3,rfl⟩,⟨k4,p4,rfl⟩,ok3,f3,by omega,rfl⟩,fun p u1 u2 z=>z⟩
    ·exact ⟨_,_,s',EF,C0,CJ,Jh,JI,rfl,Dc,IZ,sh,aA,LB.trans hf,by omega⟩
   ·rintro AK ⟨us,s7,s,dx,aK,aP,bK,bP,rfl,hl,hu,eu,ok,hf,R5⟩;refine ⟨us,s7,rfl,hl,fun u h=>(hu u h).mono ?_⟩;rw [NN];omega
  ·rintro AK ⟨us,s2,s3,s4,s5,s6,s7,rfl,hl,hu⟩
   walk_at "ww"
   rfl
def all_mk {h:Heap}{fa f1 f2 f3 f4 f5 f6 f7 f8 f9 Yr dr gj Pw OX RA ZA fO Zn ZE gH fo Yc ZD eK W2 Qj eR bW di fj e9 iF cP aQ bC d6 Z0 cq fF b5 Qp YN Yt dS da Yz cx dR fE fV Qr O8 OW b7 fA Zi aU Ye:Addr}{g1 g2 g3 g4 g5 g6 g7 g8 g9 xI g11 rq jJ yz zZ vd qP x5 ml rl g21 o5 mh kr sN kN xG yw mO yT rX pW oH mF wA g36 g37 sC rS oF oY ua wI mJ g45 uT yj u4 tP zk g51 jE uC qd g55 lV uj g58:FuncData}(X:K.In h)(G:h.Ns mainGlobals mg)(q8:mg "law"=some (.ref fa))
  
  (jy:PySem.W.nsIn K mainGlobals "Yard"=some (some (.ref A5)))
  (xh:PySem.W.plainGet K A5 Str.empty=true)
  (qD:PySem.W.hasDictIn K A5=true)
  (om:PySem.W.plainOver K A5=true)
  (uU:PySem.W.findIn K (.ref A5) "__setattr__"=some (some (.builtin "object.__setattr__")))
  (lu:PySem.W.makesIn K A5=true)
  (jK:PySem.W.keepIn K (.ref A5)=true)
  (LW:PySem.W.findIn K (.ref A5) "forgotten"=some none)
  (C9:PySem.W.findIn K (.ref A5) "kept"=some none)
  (HS:PySem.W.findIn K (.ref A5) "past"=some none)
  (DY:PySem.W.findIn K (.ref A5) "standing"=some none)
  (a1:nS K "is_name" (.ref f1)) (F1:AH K "is_name" "is_name" Oy f1 g1)
  (a2:nS K "check_new_row" (.ref f2)) (F2:AH K "check_new_row" "check_new_row" Rq f2 g2)
  (a3:PySem.W.findIn K (.ref A5) "__init__"=some (some (.ref f3))) (F3:AH K "__init__" "Yard.__init__" XD f3 g3)
  (fn3:PySem.W.isFn K (.ref f3)=true)
  (a4:nS K "_law_pot" (.ref f4)) (F4:AH K "_law_pot" "_law_pot" UD f4 g4)
  (a5:nS K "_law_take" (.ref f5)) (F5:AH K "_law_take" "_law_take" TJ f5 g5)
  (a6:nS K "_law_letters" (.ref f6)) (F6:AH K "_law_letters" "_law_letters" SY f6 g6)
  (a7:nS K "_law_name" (.ref f7)) (F7:AH K "_law_name" "_law_name" Xc f7 g7)
  (a8:nS K "_law_names" (.ref f8)) (F8:AH K "_law_names" "_law_names" Te f8 g8)
  (a9:nS K "_law_row" (.ref f9)) (F9:AH K "_law_row" "_law_row" WM f9 g9)
  (kH:nS K "_law_new" (.ref Yr)) (lr:AH K "_law_new" "_law_new" Tt Yr xI)
  (sD:nS K "check_rule" (.ref dr)) (oN:AH K "check_rule" "check_rule" Vq dr g11)
  (mH:nS K "begun" (.ref gj)) (rf:AH K "begun" "begun" UZ gj rq)
  (rh:PySem.W.findIn K (.ref A5) "begin"=some (some (.ref Pw))) (eA:AH K "begin" "Yard.begin" VQ Pw jJ)
  (wO:PySem.W.isFn K (.ref Pw)=true)
  (a14:PySem.W.findIn K (.ref A5) "loop"=some (some (.ref OX))) (gD:AH K "loop" "Yard.loop" Wj OX yz)
  (ZAp:PySem.W.isFn K (.ref OX)=true)
  (sV:PySem.W.findIn K (.ref A5) "drop"=some (some (.ref RA))) (Ym:AH K "drop" "Yard.drop" V4 RA zZ)
  (uo:PySem.W.isFn K (.ref RA)=true)
  (pA:nS K "is_gap" (.ref ZA)) (F16:AH K "is_gap" "is_gap" SJ ZA vd)
  (a17:nS K "is_coming" (.ref fO)) (F17:AH K "is_coming" "is_coming" OR fO qP)
  (qH:nS K "is_loop" (.ref Zn)) (qI:AH K "is_loop" "is_loop" Ug Zn x5)
  (a19:nS K "check_loop" (.ref ZE)) (rR:AH K "check_loop" "check_loop" Us ZE ml)
  (r6:nS K "things_to_come" (.ref gH)) (F20:AH K "things_to_come" "things_to_come" Oe gH rl)
  (lT:nS K "rest" (.ref fo)) (zf:AH K "rest" "rest" Rb fo g21)
  (za:nS K "coming_without" (.ref Yc)) (F22:AH K "coming_without" "coming_without" Q9 Yc o5)
  (tX:nS K "place_of" (.ref ZD)) (lK:AH K "place_of" "place_of" VF ZD mh)
  (xK:nS K "loop_telling" (.ref eK)) (jn:AH K "loop_telling" "loop_telling" Sq eK kr)
  (Zw:nS K "step" (.ref W2)) (F25:AH K "step" "step" X0 W2 sN)
  (pC:nS K "step_loops" (.ref W2))
  (rD:PySem.W.findIn K (.ref A5) "step"=some (some (.ref Qj))) (Yi:AH K "step" "Yard.step" TX Qj kN)
  (kO:PySem.W.isFn K (.ref Qj)=true)
  (vH:nS K "check_put" (.ref eR)) (m9:AH K "check_put" "check_put" Rx eR xG)
  (vK:nS K "check_move" (.ref bW)) (kX:AH K "check_move" "check_move" WO bW yw)
  (pj:nS K "check_turn" (.ref di)) (qS:AH K "check_turn" "check_turn" V8 di mO)
  (qN:nS K "check_deed" (.ref fj)) (kh:AH K "check_deed" "check_deed" Tf fj yT)
  (a31:nS K "row_turned" (.ref e9)) (vO:AH K "row_turned" "row_turned" Sa e9 rX)
  (nG:nS K "row_with" (.ref iF)) (yY:AH K "row_with" "row_with" Wr iF pW)
  (sE:nS K "row_without" (.ref cP)) (jP:AH K "row_without" "row_without" RB cP oH)
  (wV:nS K "done" (.ref aQ)) (o4:AH K "done" "done" WT aQ mF)
  (a35:nS K "gap_behind_put" (.ref bC)) (x4:AH K "gap_behind_put" "gap_behind_put" SG bC wA)
  (mn:nS K "gap_behind_take" (.ref d6)) (jN:AH K "gap_behind_take" "gap_behind_take" SF d6 g36)
  (md:nS K "gap_led" (.ref Z0)) (mL:AH K "gap_led" "gap_led" Sd Z0 g37)
  (wZ:nS K "joins" (.ref cq)) (jA:AH K "joins" "joins" Tj cq sC)
  (kj:nS K "coming_behind" (.ref fF)) (jW:AH K "coming_behind" "coming_behind" Ts fF rS)
  (zK:nS K "loop_led" (.ref b5)) (kQ:AH K "loop_led" "loop_led" VS b5 oF)
  (nR:PySem.W.findIn K (.ref A5) "act"=some (some (.ref Qp))) (ZS:AH K "act" "Yard.act" UO Qp oY)
  (l9:PySem.W.isFn K (.ref Qp)=true)
  (oM:nS K "_law_done" (.ref YN)) (oG:AH K "_law_done" "_law_done" R9 YN ua)
  (vM:nS K "_law_gap" (.ref Yt)) (rF:AH K "_law_gap" "_law_gap" Ut Yt wI)
  (kI:nS K "_law_led" (.ref dS)) (vy:AH K "_law_led" "_law_led" Qs dS mJ)
  (zF:nS K "_law_acts" (.ref da)) (qZ:AH K "_law_acts" "_law_acts" TB da g45)
  (z8:nS K "_law_rule" (.ref Yz)) (nL:AH K "_law_rule" "_law_rule" U7 Yz uT)
  (wJ:nS K "_law_begun" (.ref cx)) (F47:AH K "_law_begun" "_law_begun" U8 cx yj)
  (jH:nS K "_law_step" (.ref dR)) (pR:AH K "_law_step" "_law_step" Nd dR u4)
  (wM:nS K "_law_deed" (.ref fE)) (pQ:AH K "_law_deed" "_law_deed" SU fE tP)
  (ko:nS K "_law_turn" (.ref fV)) (mZ:AH K "_law_turn" "_law_turn" UW fV zk)
  (yu:PySem.W.findIn K (.ref A5) "row"=some (some (.ref Qr))) (Zf:AH K "row" "Yard.row" U3 Qr g51)
  (ve:PySem.W.isFn K (.ref Qr)=true)
  (lU:PySem.W.findIn K (.ref A5) "loops"=some (some (.ref O8))) (gZ:AH K "loops" "Yard.loops" Wv O8 jE)
  (ZCU:PySem.W.isFn K (.ref O8)=true)
  (zQ:PySem.W.findIn K (.ref A5) "count"=some (some (.ref OW))) (Yx:AH K "count" "Yard.count" U6 OW uC)
  (yD:PySem.W.isFn K (.ref OW)=true)
  (uJ:nS K "_law_texts" (.ref b7)) (pH:AH K "_law_texts" "_law_texts" Pj b7 qd)
  (jl:nS K "_law_whole" (.ref fA)) (vA:AH K "_law_whole" "_law_whole" Ro fA g55)
  (wm:nS K "_law_is_loop" (.ref Zi)) (uR:AH K "_law_is_loop" "_law_is_loop" Uz Zi lV)
  (a57:nS K "_law_stands" (.ref aU)) (F57:AH K "_law_stands" "_law_stands" Pe aU uj)
  (cM:nS K "law" (.ref Ye)) (aN:AH K "law" "law" Jy Ye g58)
  (y4:nN K "all")
  (uV:nN K "bool")
  (uP:nN K "enumerate")
  (ZA6:nN K "int")
  (vS:nN K "isinstance")
  (vZ:nN K "len")
  (vq:nN K "list")
  (kz:nN K "max")
  (ZBG:nN K "min")
  (ZA8:nN K "range")
  (vJ:nN K "reversed")
  (uF:nN K "set")
  (qf:nN K "sorted")
  (ZCY:nN K "str")
  (sG:nN K "tuple")
  (vB:nS K "LETTERS" (.str "abcdefghijklmnopqrstuvwxyz" Tn))
  (ZCJ:nS K "MOST_LETTERS" (.int 8 WA))
  (vz:nS K "MOST_LOOPS" (.int 12 S7))
  (ZBu:nS K "MOST_THINGS" (.int 40 MJ))
  (xg:nS K "RULES" (.ref Ey))
  {ze:Option Addr}{lQ:Array (Option Value)}{pq:Nat}{sf yc zv:Tok}(wy:K.lookup Ey=some ⟨.type "tuple", ze,.seq #[.str "none" sf,.str "ahead" yc,.str "all" zv] pq,lQ⟩)
  : ∃ fd:FuncData,(∀ (s:Shared) (v:Value),BindsTo s fd ⟨[v],[]⟩ [("script", v)])/\∀ base:Heap,K.In base->base.Ns mainGlobals mg->D3 l.prog w K mg base Ez 12 fa fd ["script"] (Mw K):=by
 have e:=q8.symm.trans (Ay X G cM);cases e;have B6:C4 K A5:=⟨xh,qD,om,uU⟩;have pG:Mk K A5 f3:=⟨lu,a3,fn3,jK⟩;have qC:Meth K A5 "begin" Pw:=⟨rh,wO,eA.kp⟩;have qJ:Meth K A5 "loop" OX:=⟨a14,ZAp,gD.kp⟩;have pd:Meth K A5 "drop" RA:=⟨sV,uo,Ym.kp⟩;have uN:Meth K A5 "step" Qj:=⟨rD,kO,Yi.kp⟩;have ZBB:Meth K A5 "act" Qp:=⟨nR,l9,ZS.kp⟩;have tK:Meth K A5 "row" Qr:=⟨yu,ve,Zf.kp⟩;have xR:Meth K A5 "loops" O8:=⟨lU,ZCU,gZ.kp⟩;have ZB7:Meth K A5 "count" OW:=⟨zQ,yD,Yx.kp⟩;have EH:=En X G y4;have Td:=En X G uV;have Ux:=En X G uP;have Gn:=En X G ZA6;have Et:=En X G vS;have Az:=En X G vZ;have Bq:=En X G vq;have Tu:=En X G kz;have T2:=En X G ZBG;have Ij:=En X G ZA8;have LL:=En X G vJ;have Ss:=En X G uF;have CV:=En X G qf;have Kf:=En X G ZCY;have Cf:=En X G sG;have UJ:=Ay X G vB;have Rv:=Ay X G ZCJ;have Tc:=Ay X G vz;have L0:=Ay X G ZBu;have Kq:=Ay X G xg;have Kx:∀ H,AA K H Ey [.str "none", .str "ahead", .str "all"]:=fun H=>.inr ⟨_,_,_,wy,rfl,rfl,(by show 3<=sizeLine;decide +kernel),(.cons ⟨_,rfl⟩ (.cons ⟨_,rfl⟩ (.cons ⟨_,rfl⟩ .nil)))⟩;have Vb:=Ay X G jy;obtain ⟨_,_,kV,dc,pm,an,cd,ct,_,rfl,_,_⟩:=id aN.ex;refine ⟨PySem.W.fnOf "law" "law" (Mb Jy) (JR Jy) (AY Jy) .none kV dc pm an cd ct,fun s v=>.of_eq rfl,fun base _ _=>?_⟩;have HY:=wL (P:=l.prog) (w:=w) (base:=base) EH Az UJ Rv F1 (Ay X G a1);have UN:=ZCT (P:=l.prog) (w:=w) (base:=base) Az HY Ux L0 F2 (Ay X G a2);have WB:=uL (P:=l.prog) (w:=w) (mg:=mg) (base:=base) (A5:=A5) UN Bq B6 LW C9 HS DY F3 pG;have Pp:=ZB5 (P:=l.prog) (w:=w) (base:=base) Az F4 (Ay X G a4);have Bg:=yP (P:=l.prog) (w:=w) (base:=base) F5 (Ay X G a5);have Mn:=ni (P:=l.prog) (w:=w) (base:=base) F6 (Ay X G a6);have HN:=mG (P:=l.prog) (w:=w) (base:=base) Az Mn Bg F7 (Ay X G a7);have SH:=ZAU (P:=l.prog) (w:=w) (base:=base) HN Ij F8 (Ay X G a8);have VJ:=k9 (P:=l.prog) (w:=w) (base:=base) Bg SH F9 (Ay X G a9);have U1:=rg (P:=l.prog) (w:=w) (base:=base) VJ lr (Ay X G kH);have LC:=ZAN (P:=l.prog) (w:=w) (base:=base) Kq Kx oN (Ay X G sD);have RX:=kf (P:=l.prog) (w:=w) (base:=base) LC CV Cf rf (Ay X G mH);have UC:=nJ (P:=l.prog) (w:=w) (mg:=mg) (base:=base) (A5:=A5) Az HY B6 C9 DY LC RX Tc eA qC;have Hm:=nj (P:=l.prog) (w:=w) (mg:=mg) (base:=base) (A5:=A5) B6 C9 gD qJ;have Xe:=w8 (P:=l.prog) (w:=w) (mg:=mg) (base:=base) (A5:=A5) B6 C9 Hm Ym pd;have Xb:=xC (P:=l.prog) (w:=w) (base:=base) Az F16 (Ay X G pA);have UH:=ZBK (P:=l.prog) (w:=w) (base:=base) EH Bq CV Ss F17 (Ay X G a17);have UM:=zu (P:=l.prog) (w:=w) (base:=base) Kq Kx UH Xb qI (Ay X G qH);have So:=vU (P:=l.prog) (w:=w) (base:=base) UM rR (Ay X G a19);have Pn:=xb (P:=l.prog) (w:=w) (base:=base) F20 (Ay X G r6);have S9:=zL (P:=l.prog) (w:=w) (base:=base) So Pn zf (Ay X G lT);have LA:=vi (P:=l.prog) (w:=w) (base:=base) Cf F22 (Ay X G za);have FI:=zC (P:=l.prog) (w:=w) (base:=base) lK (Ay X G tX);have T5:=uG (P:=l.prog) (w:=w) (base:=base) LA FI jn (Ay X G xK);have we:=rB (P:=l.prog) (w:=w) (base:=base) T5 S9 F25 (Ay X G Zw);have VE:=A8.alias we (Ay X G Zw) (Ay X G pC)
 have WG:=zX (P:=l.prog) (w:=w) (mg:=mg) (base:=base) (A5:=A5) B6 C9 DY Hm VE Yi uN;have Uw:=ng (P:=l.prog) (w:=w) (base:=base) Az HY L0 m9 (Ay X G vH);have XI:=uY (P:=l.prog) (w:=w) (base:=base) Az FI kX (Ay X G vK);have Tz:=pE (P:=l.prog) (w:=w) (base:=base) Az qS (Ay X G pj);have SD:=se (P:=l.prog) (w:=w) (base:=base) FI XI Uw Tz kh (Ay X G qN);have Ra:=jQ (P:=l.prog) (w:=w) (base:=base) Bq LL vO (Ay X G a31);have QU:=zW (P:=l.prog) (w:=w) (base:=base) Bq yY (Ay X G nG);have OB:=uS (P:=l.prog) (w:=w) (base:=base) jP (Ay X G sE);have Ub:=xW (P:=l.prog) (w:=w) (base:=base) SD Ra QU OB o4 (Ay X G wV);have OJ:=uh (P:=l.prog) (w:=w) (base:=base) x4 (Ay X G a35);have Q2:=kd (P:=l.prog) (w:=w) (base:=base) jN (Ay X G mn);have Sr:=xu (P:=l.prog) (w:=w) (base:=base) FI OJ Q2 mL (Ay X G md);have Ry:=ke (P:=l.prog) (w:=w) (base:=base) jA (Ay X G wZ);have W6:=vx (P:=l.prog) (w:=w) (base:=base) CV Cf LA Ry jW (Ay X G kj);have SE:=vD (P:=l.prog) (w:=w) (base:=base) W6 Sr kQ (Ay X G zK);have Vf:=ZBv (P:=l.prog) (w:=w) (mg:=mg) (base:=base) (A5:=A5) Bq B6 C9 HS DY Ub SE ZS ZBB;have XJ:=ym (P:=l.prog) (w:=w) (base:=base) Bq LL oG (Ay X G oM);have V1:=ZBR (P:=l.prog) (w:=w) (base:=base) Gn rF (Ay X G vM);have Sm:=jF (P:=l.prog) (w:=w) (base:=base) CV Cf V1 vy (Ay X G kI);have Uc:=ZCM (P:=l.prog) (w:=w) (base:=base) (A5:=A5) Bq Vf XJ Sm qZ (Ay X G zF);have XA:=ZBP (P:=l.prog) (w:=w) (base:=base) Bg nL (Ay X G z8);have Ti:=yp (P:=l.prog) (w:=w) (base:=base) CV Cf F47 (Ay X G wJ);have U2:=jj (P:=l.prog) (w:=w) (base:=base) Cf pR (Ay X G jH);have WY:=lC (P:=l.prog) (w:=w) (base:=base) Az Bg HN pQ (Ay X G wM);have UL:=og (P:=l.prog) (w:=w) (base:=base) (A5:=A5) Az Bg HN CV UC Xe WG Uc Ti WY XA U2 mZ (Ay X G ko);have XM:=jh (P:=l.prog) (w:=w) (mg:=mg) (base:=base) (A5:=A5) Bq B6 DY Zf tK;have US:=ue (P:=l.prog) (w:=w) (mg:=mg) (base:=base) (A5:=A5) B6 C9 CV gZ xR;have P1:=qc (P:=l.prog) (w:=w) (mg:=mg) (base:=base) (A5:=A5) Az B6 LW HS Yx ZB7;have Of:=oK (P:=l.prog) (w:=w) (base:=base) EH Bq Et Kf pH (Ay X G uJ);have KW:=wg (P:=l.prog) (w:=w) (base:=base) Gn Et Td vA (Ay X G jl);have To:=sk (P:=l.prog) (w:=w) (base:=base) Az Cf Et Kf KW uR (Ay X G wm);have U9:=lF (P:=l.prog) (w:=w) (base:=base) (A5:=A5) EH Az CV Hm KW P1 US XM To Of F57 (Ay X G a57);exact ZC5 (P:=l.prog) (w:=w) (base:=base) (A5:=A5) EH Az Bg Ij Gn WB U1 Pp U9 UL Tu T2 Vb aN (Ay X G cM)
def walk {q:Program}{loose:List Str}{XP:(ZE7)->Heap->Prop}{YP:World->Heap->Prop}{d:DefRec}{K:Params->ZE5}(hn:l.most=some 63)(NI:d.params.defaults=[])
  (hY:∀ (w:World) (h:Heap),YP w h->(K w.params).In h)
  (F:∀ (w:World) (mg:ZE7) (fa:Addr) (h:Heap),(K w.params).In h->h.Ns mainGlobals mg->mg d.name=some (.ref fa)->
   ∃ fd:FuncData,(∀ (s:Shared) (u:Value),BindsTo s fd ⟨[u],[]⟩ [("script", u)])/\∀ base:Heap,(K w.params).In base->base.Ns mainGlobals mg->D3 l.prog w (K w.params) mg base Ez 12 fa fd ["script"] (Mw (K w.params))) :
  PySem.W.WalkO q loose XP YP l.row.toRowW d [] (fun f vs=>PySem.call f vs):=
 L2.zD (n:=63) (k:=12) (x:="script") (CX:=fun _=>Ez) (sp:=fun w=>Mw (K w.params)) hn (by decide) NI ⟨rfl,by decide,by decide⟩ hY F (fun _ _ a ns hl _ hS=>⟨a,ns,rfl,hS,hl,fun _=>rfl⟩) fun _ _ _ _ _ z=>z
end Pf
open PySem.W
local macro_rules | `(tactic| walk_at "kF")=>`(tactic| (refine' L2.lg ?_ ?_ ?_;all_goals try k_is;all_goals k_is))
set_option maxRecDepth 100000 in
set_option maxHeartbeats 0 in
theorem PySem.Challenge.cw_stirround_k62_yards_led_holds : PySem.Challenge.rw_stirround_k62_yards_led.Holds := by
 w_on;o_law;k_head;(case hw=>w_witness2)
 k_fill
 refine Pf.walk (l:=PySem.Challenge.rw_stirround_k62_yards_led) rfl rfl (fun w h Y=>PySem.W.kIn_of Y) ?F
 case F=>
  intro w mg fa h KX G NZ;refine' Pf.all_mk KX G NZ ?_ ?_ ?_ ?_ ?_ ?_ ?_ ?_ ?_ ?_ ?_ ?_ ?_ ?_ ?_ ?_ ?_ ?_ ?_ ?_ ?_ ?_ ?_ ?_ ?_ ?_ ?_ ?_ ?_ ?_ ?_ ?_ ?_ ?_ ?_ ?_ ?_ ?_ ?_ ?_ ?_ ?_ ?_ ?_ ?_ ?_ ?_ ?_ ?_ ?_ ?_ ?_ ?_ ?_ ?_ ?_ ?_ ?_ ?_ ?_ ?_ ?_ ?_ ?_ ?_ ?_ ?_ ?_ ?_ ?_ ?_ ?_ ?_ ?_ ?_ ?_ ?_ ?_ ?_ ?_ ?_ ?_ ?_ ?_ ?_ ?_ ?_ ?_ ?_ ?_ ?_ ?_ ?_ ?_ ?_ ?_ ?_ ?_ ?_ ?_ ?_ ?_ ?_ ?_ ?_ ?_ ?_ ?_ ?_ ?_ ?_ ?_ ?_ ?_ ?_ ?_ ?_ ?_ ?_ ?_ ?_ ?_ ?_ ?_ ?_ ?_ ?_ ?_ ?_ ?_ ?_ ?_ ?_ ?_ ?_ ?_ ?_ ?_ ?_ ?_ ?_ ?_ ?_ ?_ ?_ ?_ ?_ ?_ ?_ ?_ ?_ ?_ ?_ ?_ ?_ ?_ ?_ ?_
  any_goals first | k_is | (show _=_;k_is) | kernel_rfl | walk_at "kF"
#print axioms PySem.Challenge.cw_stirround_k62_yards_led_holds
